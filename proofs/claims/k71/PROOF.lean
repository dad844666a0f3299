import PyProof.Rows.All
import Wide.All
import OpenK.AllK
import Wide.FinOn
import Lean
import PyProof.EqAt
import PyProof.EqKinds
import PyProof.TupleCall
import PyProof.NeKinds
import PyProof.ReprRoads
import PyProof.ReprBulk
import PyProof.SumWalk
import PyProof.FString5
import PyProof.StrBlock2
import PyProof.StrBlockI
import PyProof.StrBlockH
import PyProof.StrWalks
import PyProof.StrLawsIn
import PyProof.AutoListH
import PyProof.CompUse
import PyProof.ListRange
import PyProof.CallFns
import PyProof.ListTruth
import PyProof.Rows.Range3
import PyProof.SeqI3
import KE.KRevSl
import PyProof.DictIter
import PyProof.DictWalks
import PyProof.DictCompW
import PyProof.Cells
import OpenK.KOwn
import PyProof.ExcClass3
import PyProof.ExcInit
import PyProof.ExcBaseAll.ValueError
import PyProof.ExcArgsOwn
import PyProof.ExcAttrAll.ValueError
import PyProof.Rows.SortWalk
import PyProof.Rows.SortStr
import PyProof.MeetsDict
import PyProof.DictUpdate
import PyProof.FactsAll.dict_3
import KE.KDictList
import PyProof.FactsAll.dict_4
import KE.KDictSum
import PyProof.IsiH_list
import PyProof.Rows.Exc
import KE.KDictOf
import PyProof.SetKind
import PyProof.Rows.SetFrom
import PyProof.FactsAll.set_1
import PyProof.FactsAll.set_2
import KE.KSortTup
import KE.KItemsList
import PyProof.Rows.SortRev
import PyProof.Rows.StrCase
import PyProof.Rows.StrLen
import KE.KPairComp
import KE.KMinKey
import PyProof.CallStr
import PyProof.StrCalls2
import PyProof.StrLawsTight
import PyProof.FString
import PyProof.StrBlock
import KE.KUnpack
import PyProof.Rows.TupMore
import PyProof.DictItems
import PyProof.IsiH_tuple
import PyProof.TupleIter
import PySem.Challenge.RW_pickboard_k71_whole_mended_and_run
set_option Elab.async false
set_option linter.all false
set_option maxRecDepth 100000
def zm:=@List.length_map
def zK:=@List.getElem?_eq_some_iff
def zk:=@PySem.wpAny_bind
def zL:=@List.map_append
def qG:=@Option.map_eq_some_iff
def qh:=@List.length_append
def qm:=@List.mem_singleton
def qk:=@List.getElem?_map
def qX:=@PySem.Heap.get?_push_of_some
def qW:=@List.mem_append_right
def zx:=@PySem.wpAny_pure
def qK:=@List.getElem?_eq_getElem
def zF:=@Nat.le_refl
def qw:=@List.mem_append_left
def zX:=@List.size_toArray
def qz:=@List.mem_of_getElem?
def zN:=@List.mem_map
def zV:=@List.mem_append
def qJ:=@List.mem_cons_self
def qv:=@List.length_take
def qg:=@decide_eq_true
def qQ:=@PySem.Heap.get?_push_size
def qB:=@List.take_length
def zw:=@if_neg
def qA:=@List.append_nil
def zU:=@PySem.Heap.lt_size
def jq:=@List.length_filter_le
def qS:=@Bool.false_ne_true
def qP:=@of_decide_eq_true
def qI:=@List.mem_filter
def zC:=@if_pos
def je:=@List.append_assoc
def qH:=@List.mem_cons
def j5:=@PySem.F.plainAttrs_list
def qV:=@Nat.ne_of_lt
def xg:=@List.mem_cons_of_mem
def jC:=@Option.some.inj
def jz:=@List.map_cons
def jL:=@PySem.PassesOwn.never
def jO:=@decide_eq_false
def jZ:=@List.length_cons
def ja:=@PySem.wpAny_mono
def va:=@List.length_replicate
def xJ:=@Nat.lt_of_lt_of_le
def xI:=@List.filter_append
def jv:=@Nat.zero_le
def xR:=@Array.length_toList
def vQ:=@PySem.F.slot_list_append
def vP:=@PySem.F.type_list_append
def xQ:=@decide_eq_true_iff
def qD:=@Ne.symm
def jN:=@Nat.le_trans
def xB:=@List.mem_range
def xP:=@Bool.and_eq_true
def xc:=@List.map_map
def vn:=@List.all_eq_true
def vO:=@Int.toNat_natCast
def vm:=@Bool.eq_iff_iff
def wA:=@List.flatMap_append
def Zn:=@List.getElem?_append_right
def Zm:=@List.getD_eq_getElem?_getD
def vN:=@List.any_eq_true
def wg:=@List.length_range
def wf:=@List.nodup_append
def yi:=@List.mem_iff_getElem?
def Zl:=@List.getElem?_append_left
def Zk:=@Array.getElem?_eq_getElem
def we:=@List.lookup_cons
def wc:=@List.getElem_mem
def wz:=@PySem.wpAny_newObj_type
def vH:=@PySem.Heap.size_push
def xH:=@beq_iff_eq
def Qc:=@List.take_append_getElem
def wx:=@List.nil_append
def ww:=@List.count_cons
def Qb:=@PySem.wpAny_callSpecial?_slot
def yh:=@List.count_append
def yg:=@PySem.wpAny_call_entry
def yf:=@List.filter_cons
def Zj:=@PySem.mem_of_lookup
def J9:=@PyProof.Rows.callWith_type1
def Qa:=@Array.getElem?_toList
def vG:=@PySem.wpAny_field
def QY:=@List.filter_cons_of_pos
def QX:=@List.filter_cons_of_neg
def wv:=@PySem.wpAny_holding
def Zi:=@Int.emod_lt_of_pos
def Z9:=@List.replicate_succ'
def QW:=@List.take_of_length_le
def yH:=@List.nodup_range
def Zh:=@PySem.wpAny_truthy_bool
def wP:=@PySem.wpAny_standAt
def QV:=@PySem.Heap.get?_update_self
def ye:=@PySem.wpAny_seqItems
def Z8:=@List.map_replicate
def Zg:=@List.not_mem_nil
def Zf:=@beq_self_eq_true
def wb:=@PySem.wpAny_rule
def Ze:=@List.find?_cons
def Zd:=@Int.emod_nonneg
def ZD:=@List.take_append_drop
def vL:=@Nat.ne_of_gt
def yM:=@Nat.lt_of_le_of_lt
def wj:=@Nat.lt_irrefl
def Xx:=@PySem.F.slot_dict_keyiterator_next
def ZC:=@PySem.Heap.SameBut.update
def vK:=@Sum.inl.inj
def QL:=@PySem.Heap.get?_update_other
def yL:=@PySem.wpAny_isInstance
def yK:=@List.mem_flatMap
def QK:=@List.perm_append_comm
def QJ:=@List.mem_iff_getElem
def QI:=@List.mem_of_mem_take
def Xw:=@PySem.F.slot_list_extend
def Xv:=@PySem.F.type_list_extend
def ZB:=@List.Sublist.refl
def w9:=@List.any_cons
def w8:=@Int.ofNat.inj
def WB:=@List.take_append_of_le_length
def ZA:=@List.length_drop
def yJ:=@PySem.Value.type.inj
def Zz:=@PySem.F.plain_min_loop
def Xu:=@List.filter_eq_nil_iff
def QH:=@PySem.Calls.spliced_cons
def wZ:=@List.map_nil
def QG:=@Bool.false_eq_true
def QF:=@PySem.wpAny_setField_rec
def Zy:=@PySem.wpAny_passesOwn
def Zx:=@List.nodup_cons
def Zw:=@PySem.SeqAt.EqAt.same
def Zv:=@Option.map_some
def Xt:=@List.getElem?_eq_none
def WA:=@PySem.F.slot_tuple_iterator_next
def Wz:=@Array.getElem?_eq_some_iff
def Xr:=@PySem.Around.under_plainId
def QE:=@Nat.lt_succ_self
def Wy:=@PySem.F.slot_list_getattribute
def Xq:=@List.replicate_succ
def Xp:=@List.filter_sublist
def zbg:=@PyProof.Rows.slot_tuple_getitem
def Wx:=@PySem.F.slot_list_count
def Ww:=@PySem.F.type_list_count
def Zu:=@PySem.wpAny_attempt
def QD:=@List.length_set
def Xo:=@PySem.Obj.data_mapFields
def Xn:=@List.pairwise_cons
def Wv:=@List.getElem?_set_self
def Wu:=@PySem.Calls.callWith_builtin
def yI:=@Int.le_refl
def Wt:=@List.singleton_sublist
def Xm:=@Nat.le_of_lt_succ
def Xl:=@List.flatMap_cons
def Zt:=@Nat.le_of_eq
def Ws:=@PySem.F.slot_enumerate_next
def QC:=@PySem.wpAny_tryCatch
def Wr:=@List.Perm.append_left
def zbf:=@List.idxOf_lt_length_of_mem
def zbe:=@Array.getD_eq_getD_getElem?
def Xk:=@List.getElem_inj
def Wq:=@List.getElem?_set_ne
def Zs:=@PySem.wpAny_letGo
def Wp:=@List.filterMap_cons
def Wo:=@List.length_pos_iff
def Wn:=@List.filter_eq_self
def Xj:=@List.length_nil
def Xi:=@List.range_succ
def Xh:=@List.filter_nil
def zbd:=@List.count_singleton_self
def Wm:=@List.getElem?_drop
def Wl:=@PySem.SeqAt.EqAt.of_refs
def zbc:=@List.length_erase_of_mem
def Wj:=@List.getElem?_take
def zbb:=@List.sublist_append_left
def Wi:=@Int.natCast_nonneg
def zba:=@PySem.F.plainAttrs_dict
def Wh:=@PySem.Calls.spliced_nil
def Wg:=@List.take_sublist
def Wf:=@List.flatten_cons
def We:=@Option.some.injEq
def Wd:=@List.pairwise_map
def QB:=@Nat.le_succ
def QA:=@PySem.wpAny_of_eq
def za9:=@Array.getElem?_eq_none
def za8:=@List.pairwise_lt_range
def za7:=@List.length_pos_of_mem
def Xg:=@List.map_take
def za6:=@PySem.Obj.isFreed_of_fields
def za5:=@PySem.F.slot_dict_get
def za4:=@List.pairwise_flatMap
def Xf:=@Nat.le_of_lt
def za3:=@PySem.Calls.evalArgs_plain
def Wc:=@List.forIn_cons
def Wb:=@Bool.or_eq_true
def Wa:=@PySem.F.slot_zip_next
def zgv:=@PySem.F.args_dict_keyiterator_next_1
def Xe:=@Nat.zero_add
def Xd:=@Nat.succ_pos
def zgu:=@PySem.F.entry_dict_keyiterator_next
def za2:=@Nat.add_le_add_left
def za1:=@List.map_congr_left
def zgt:=@PySem.F.args_tuple_iterator_next_1
def zgs:=@PySem.F.slot_dict_setdefault
def za0:=@List.mem_filterMap
def zgr:=@PySem.F.entry_tuple_iterator_next
def zaZ:=@List.find?_eq_none
def zaY:=@List.count_eq_zero
def V9:=@PySem.Paired.length
def zgq:=@PySem.Calls.Name_function_global
def zgp:=@Int.fdiv_eq_ediv_of_nonneg
def zgo:=@Int.fmod_eq_emod_of_nonneg
def V8:=@Bool.false_or
def zgn:=@List.perm_append_singleton
def zgm:=@List.perm_ext_iff_of_nodup
def zaX:=@Nat.lt_succ_of_lt
def zaW:=@PySem.Obj.cls_mapFields
def zaV:=@PySem.SeqAt.RcAt.tuples
def zaU:=@List.getElem?_set
def zaT:=@List.foldl_append
def Xb:=@PySem.Walks.list
def zgl:=@List.pairwise_iff_getElem
def zgk:=@List.mem_drop_iff_getElem
def Xa:=@Nat.mod_lt
def zgj:=@List.mem_of_find?_eq_some
def zgi:=@Classical.byContradiction
def Qz:=@Prod.ext
def V7:=@Bool.or_true
def zaS:=@PySem.SeqAt.RcAt.lists
def zaR:=@PySem.F.entry_min_loop
def V6:=@Nat.sub_self
def zaQ:=@Bool.not_eq_true
def zaP:=@List.flatMap_nil
def zaO:=@List.of_mem_zip
def zaN:=@PySem.SeqAt.in_listAt
def zaM:=@List.foldl_cons
def zaL:=@List.filter_map
def zaK:=@Bool.and_false
def zaJ:=@List.forIn_nil
local macro_rules | `({$x:term,$xs:term,*})=>`(⟨$x,$xs,*⟩) | `(())=>`(by omega) | `(1e1)=>`(by decide) | `(1e2)=>`(by rfl) | `(1e3)=>`(by simp)
set_option hygiene false
local macro_rules|`(0#a)=>`((Or.inl rfl))
local macro_rules|`(0#b)=>`((model X.prog X.w))
local macro_rules|`(0#c)=>`((λ_ _=>rfl))
local macro_rules|`(0#d)=>`((λvs H Q E h=>?_))
local macro_rules|`(0#e)=>`((Nat×Nat))
local macro_rules|`(0#f)=>`((λ_ _=>False))
local macro_rules|`(0#g)=>`((λ_ _ _ _=>qF))
local macro_rules|`(0#h)=>`((za (pv 0) (za zg zd)))
local macro_rules|`(0#i)=>`((zQ X (own++fr) l C { s2 with heap:=h3,toks:=s2.toks } H2 (D::Y)))
local macro_rules|`(0#j)=>`((model b w))
local macro_rules|`(0#k)=>`((za (pv 1) zd))
local macro_rules|`(0#l)=>`((Addr×Obj))
local macro_rules|`(0#m)=>`((λ_ _ _ _=>(pv 0)))
local macro_rules|`(0#n)=>`((k==NameKind.free&&b.scope.kind==.function&&b.kindOf n==some .cell))
local macro_rules|`(0#o)=>`((.lst []))
local macro_rules|`(0#p)=>`((jg (K:=K) rfl))
local macro_rules|`(0#q)=>`((jU n λk=>st k-(P1 st ((zo b).take (i+1))).1 k))
local macro_rules|`(0#r)=>`((t.pk.map (·.2)))
local macro_rules|`(0#s)=>`((λq=>hc (by simp[q])))
local macro_rules|`(0#t)=>`((za (pv 2) zd))
local macro_rules|`(0#u)=>`((b.map V.int))
local macro_rules|`(0#v)=>`((λ_ _ _ _=>(qZ (jV (K:=K) rfl) (pv 0) (pv 1) (by with_unfolding_all rfl))))
local macro_rules|`(0#w)=>`((model Y.prog Y.w))
local macro_rules|`(0#x)=>`((List.range J.ps.length))
local macro_rules|`(0#y)=>`((za (pv 0) zd))
local macro_rules|`(0#z)=>`((zJ qC (pv 0) zg 0#c))
local macro_rules|`(0#A)=>`((zJ 0#p (pv 0) zg 0#c))
local macro_rules|`(0#B)=>`((((jD D).count (f:Int):Int)<(J.fs[f]?.map xw.m).getD 0))
local macro_rules|`(0#C)=>`((s.heap.objs.size+1))
local macro_rules|`(0#D)=>`((model l w))
local macro_rules|`(0#E)=>`((zt xG rfl B.isinstance boot_isinstance (za (pv 0) (za (vh (v:=.ty "tuple") rfl B.tuple jF rfl) zd))))
local macro_rules|`(0#F)=>`((Nat×Option Nat))
local macro_rules|`(0#G)=>`((qE rfl (zn (zq (i:=3) nd rfl 0#a) (zn (zq (i:=4) nd rfl 0#a) z7))))
local macro_rules|`(0#H)=>`((x==("__debug__":Str)))
local macro_rules|`(0#I)=>`((qU I q 1e3))
local macro_rules|`(0#J)=>`((jB (qY J st l) (jd J st l) l))
local macro_rules|`(tactic|fail"a")=>`(tactic|(refine{λi m c l=>m=xs.length-i/\i<=xs.length/\Pv i c l,{_,rfl,jv _,h0},?_}))
local macro_rules|`(tactic|fail"b")=>`(tactic|(refine{λi m σ H=>m=xs.length-i/\i<=xs.length/\Pv i σ H,{xs.length,1e3,jv _,h0},?_}))
local macro_rules|`(tactic|omega)=>`(tactic|lia)
namespace L2
open PySem PySem.Spec PyProof.Rows
theorem bG100000:100000<sizeLine:=by rw[sizeLine_eq];decide
theorem bG1000000:1000000<sizeLine:=by rw[sizeLine_eq];decide
theorem bG100:100<sizeLine:=by rw[sizeLine_eq];decide
theorem bGe:(2:Int)^62=4611686018427387904:=1e1
abbrev Key:=Sum Int Str
def JK:Key->Value->Bool
 | .inl k,v=>Value.isInt k v
 | .inr x,v=>Value.isStrOf x v
def zmH(w:World):Key->Int
 | .inl k=>hashInt k
 | .inr x=>hashStr w x
theorem jI:∀{k:Key} {v:Value},JK k v=true->(∃i t,k=Sum.inl i/\v=Value.int i t)\/(∃x t,k=Sum.inr x/\v=Value.str x t)
 | .inl i,v,h=>by
  obtain⟨t,e⟩:=Value.isInt_shape (k:=i) (v:=v) h;exact .inl ⟨i,t,rfl,e⟩
 | .inr x,v,h=>by
  obtain⟨t,e⟩:=Value.isStrOf_shape (x:=x) (v:=v) h;exact .inr ⟨x,t,rfl,e⟩
theorem zdF(i:Int)(t:Tok):JK (.inl i) (.int i t)=true:=by simp[JK,Value.isInt]
theorem zdE(x:Str)(t:Tok):JK (.inr x) (.str x t)=true:=by simp[JK,Value.isStrOf]
theorem zjU(a b:Int):decide ((Sum.inl a:Key)=Sum.inl b)=(a==b):=by
 by_cases e:a=b
 .subst e;simp
 .have h:¬(Sum.inl a:Key)=Sum.inl b:=λq=>e (vK q)
  rw[jO h];exact(beq_eq_false_iff_ne.mpr e).symm
theorem zjR(a b:Str):decide ((Sum.inr a:Key)=Sum.inr b)=decide (a=b):=by
 by_cases e:a=b
 .subst e;simp
 .have h:¬(Sum.inr a:Key)=Sum.inr b:=λq=>e (Sum.inr.inj q)
  rw[jO h,jO e]
theorem zjT(a:Int)(b:Str):decide ((Sum.inl a:Key)=Sum.inr b)=false:=jO (λq=>nomatch q)
theorem zjS(a:Str)(b:Int):decide ((Sum.inr a:Key)=Sum.inl b)=false:=jO (λq=>nomatch q)
def qo(c:Program)(w:World):PySem.KeyKind c w Key where
 is:=JK
 hash:=zmH w
 inj:=λv a b g hb=>by
  rcases jI g with ⟨i,t,rfl,rfl⟩ | ⟨x,t,rfl,rfl⟩
  .rcases jI hb with ⟨j,u,rfl,e⟩ | ⟨y,u,rfl,e⟩
   .injection e with e1 _;rw[e1]
   .exact nomatch e
  .rcases jI hb with ⟨j,u,rfl,e⟩ | ⟨y,u,rfl,e⟩
   .exact nomatch e
   .injection e with e1 _;rw[e1]
 byValue:=λk v h=>by
  rcases jI h with ⟨i,t,rfl,rfl⟩ | ⟨x,t,rfl,rfl⟩<;>rfl
 pyHash:=λhv h=>by
  rcases jI hv with ⟨i,t,rfl,rfl⟩ | ⟨x,t,rfl,rfl⟩
  .exact wpAny_pyHash_int h
  .exact wpAny_pyHash_str h
 eqBool:=λhu hv h=>by
  rcases jI hu with ⟨i,t,rfl,rfl⟩ | ⟨x,t,rfl,rfl⟩
  .rcases jI hv with ⟨j,u,rfl,rfl⟩ | ⟨y,u,rfl,rfl⟩
   .rw[zjU] at h;exact wpAny_eqBool_int h
   .rw[zjT] at h;exact SeqAt.EqAt.int_str i t y u _ _ _ _ h
  .rcases jI hv with ⟨j,u,rfl,rfl⟩ | ⟨y,u,rfl,rfl⟩
   .rw[zjS] at h;exact SeqAt.EqAt.str_int x t j u _ _ _ _ h
   .rw[zjR] at h;exact wpAny_eqBool_str h
 «strs»:=λk x t v h=>by
  rcases jI h with ⟨i,u,rfl,e⟩ | ⟨y,u,rfl,e⟩
  .exact nomatch e
  .injection e with e1 _
   subst e1;cases v<;>rfl
theorem zas(b:Program)(w:World)(k:Key)(v:Value):(qo b w).is k v=JK k v:=rfl
theorem Yz(b:Program)(w:World)(i:Int)(t:Tok):(qo b w).is (.inl i) (.int i t)=true:=zdF i t
theorem Yy(b:Program)(w:World)(x:Str)(t:Tok):(qo b w).is (.inr x) (.str x t)=true:=zdE x t
inductive V where
 | non | bl (b:Bool) | int (i:Int) | str (x:Str) | byt (b:Array UInt8) | flt (b:UInt64) | ref (a:Addr) | ty (n:String)
 deriving DecidableEq
def RelV:V->Value->Prop
 | .non,u=>u=Value.none
 | .bl b,u=>u=Value.bool b
 | .int i,u=>∃t,u=Value.int i t
 | .str x,u=>∃t,u=Value.str x t
 | .byt b,u=>∃t,u=Value.bytes b t
 | .flt b,u=>∃t,u=Value.float b t
 | .ref a,u=>u=Value.ref a
 | .ty n,u=>u=Value.type n
abbrev Vals:List V->List Value->Prop:=Paired RelV
theorem Vals.length{c:List V}{b:List Value}(r:Vals c b):c.length=b.length:=V9 r
theorem Vals.get:∀{c:List V} {b:List Value} {i:Nat} {x:V},Vals c b->c[i]? =some x->∃u,b[i]? =some u/\RelV x u
 | _,_,_,_,.nil,e=>by simp at e
 | _,_,0,_,.cons r _,e=>by simp at e;subst e;exact{_,rfl,r}
 | _,_,i+1,x,.cons _ t,e=>by
  obtain⟨u,h1,h2⟩:=Vals.get (i:=i) (x:=x) t (by simpa using e)
  exact{u,by simpa using h1,h2}
theorem Vals.set{x:V}{u:Value}(r:RelV x u):∀{c:List V} {b:List Value} (i:Nat),Vals c b->Vals (c.set i x) (b.set i u)
 | _,_,_,.nil=>.nil
 | _,_,0,.cons _ t=>.cons r t
 | _,_,i+1,.cons q t=>.cons q (Vals.set r i t)
theorem Vals.append:∀{g l:List V} {b c:List Value},Vals g b->Vals l c->Vals (g++l) (b++c)
 | _,_,_,_,.nil,s=>s
 | _,_,_,_,.cons r t,s=>.cons r (Vals.append t s)
theorem Vals.take:∀{c:List V} {b:List Value} (n:Nat),Vals c b->Vals (c.take n) (b.take n)
 | _,_,0,_=>.nil
 | _,_,_+1,.nil=>.nil
 | _,_,n+1,.cons r t=>.cons r (Vals.take n t)
theorem Vals.drop:∀{c:List V} {b:List Value} (n:Nat),Vals c b->Vals (c.drop n) (b.drop n)
 | _,_,0,r=>r
 | _,_,_+1,.nil=>.nil
 | _,_,n+1,.cons _ t=>Vals.drop n t
def RelO:Option V->Option Value->Prop
 | some v,some u=>RelV v u
 | none,none=>True
 | _,_=>False
def KV{κ:Type}:List (κ×V)->List (κ×Value)->Prop:=Paired λ(p:κ×V) (q:κ×Value)=>p.1=q.1/\RelV p.2 q.2
def kV:Key->V
 | .inl i=>.int i
 | .inr x=>.str x
inductive HO where
  | lst (c:List V)
  | tup (c:List V)
  | dK (b:List (Key×V)) | dT (b:List (List Key×V))
  | set (S:Int->Bool) (n:Nat)
  | ins (C g:Addr) (fs:List (Str×V))
  | own (x:Addr)
  | xd (fs:List (Str×V))
  | met (f x:Addr)
  | rng (lo l:Int)
  | frz (o:Obj) (u:HO)
  | tbl (s:Array Value)
  | ext (φ:Heap->Prop)
abbrev Hp:=Addr->Option HO
def upd(H:Hp)(a:Addr)(o:HO):Hp:=λb=>if b=a then some o else H b
theorem zc{H:Hp}{a:Addr}{o:HO}:upd H a o a=some o:=by unfold upd;rw[zC rfl]
theorem zp{H:Hp}{a b:Addr}{o:HO}(h:b≠a):upd H a o b=H b:=by unfold upd;rw[zw h]
theorem zcg{H:Hp}{a b:Addr}{o u:HO}(h:H a=some o)(c:H b=some u)(d:o≠u):a≠b:=by
 intro e;subst e;rw[h] at c;exact d (jC c)
theorem zj{H:Hp}{a b:Addr}{o:HO}(h:H a=some o)(c:H b=none):a≠b:=by
 intro e;subst e;rw[h] at c;cases c
section
variable(P:Program)(w:World)
def TupX(h:Heap)(a:Addr)(b:Array Value):Prop:=IsTup h a b/\∃o,h.get? a=some o/\o.dict=none
theorem TupX.by{h:Heap}{a:Addr}{b:Array Value}{n:Nat}(e:h.get? a=some { cls:=.type "tuple",data:=.seq b n }):TupX h a b:={{_,e,rfl,n,rfl},_,e,rfl}
def ObjOk(H:Hp)(h:Heap)(a:Addr):HO->Prop
 | .lst g=>g.length<=sizeLine/\∃(b:List Value) (n:Nat),Vals g b/\h.get? a=some { cls:=.type "list",data:=.seq b.toArray n }
 | .tup g=>g.length<=sizeLine/\∃b:List Value,Vals g b/\TupX h a b.toArray
 | .dK c=>c.length<=sizeLine/\(a==sysModules)=false/\∃B,KV c B/\h.DictOf (qo P w) a B
 | .dT c=>c.length<=sizeLine/\(a==sysModules)=false/\∃g:List (List Key×Addr×Value),
   Paired (λ(p:List Key×V) (q:List Key×Addr×Value)=>p.1=q.1/\H q.2.1=some (.tup (p.1.map kV))/\RelV p.2 q.2.2) c g /\
   ∃o A D,h.get? a=some o/\o.ExactDict/\o.data=.dict A D/\A.toList=g.map (entryOfKey (tupleKind (qo P w)))/\(g.map (·.1)).Nodup
 | .set S n=>h.SetOf (intKind P w) a S n
 | .ins C s fs=>H s=some (.own a)/\fs.length<=1000/\s≠a/\h.get? a=some (PySem.W.instObj C s) /\
   ∃l,h.Ns1 s l/\(∀f,RelO (fs.lookup f) (l f))/\PySem.Within l (fs.map (·.1))
 | .own _=>∃o,h.get? a=some o
 | .xd fs=>∃l,h.Ns1 a l/\∀f,RelO (fs.lookup f) (l f)
 | .rng lo E=>∃t u v,h.get? a=some { cls:=.type "range",data:=.fields #[.int lo t,.int E u,.int 1 v] }
 | .frz o u=>h.get? a=some o/\ObjOk H h a u
 | .tbl G=>h.get? a=some { cls:=.none,data:=.fields G }
 | .met f x=>h.get? a=some (PySem.W.methodObj (.ref f) (.ref x))
 | .ext φ=>φ h/\(∃o,h.get? a=some o)/\∀h1 h2:Heap,φ h1->(∀o,h1.get? a=some o->h2.get? a=some o)->φ h2
def HOk(H:Hp)(h:Heap):Prop:=∀a o,H a=some o->ObjOk P w H h a o
end
section
variable{P:Program}{w:World}{H g:Hp}{h h':Heap}{a:Addr}{o:HO}
theorem ObjOk.lt(x:ObjOk P w H h a o):a<h.objs.size:=by
 cases o with
 | lst c=>obtain⟨_,_,_,_,e⟩:=x;exact zU e
 | tup c=>obtain⟨_,_,_,p⟩:=x;exact p.1.lt
 | dK b=>obtain⟨_,_,_,_,o,_,_,e,_⟩:=x;exact zU e
 | dT b=>obtain⟨_,_,_,_,o,_,_,e,_⟩:=x;exact zU e
 | set S n=>obtain⟨o,_,_,_,e,_⟩:=x;exact zU e
 | ins C l fs=>obtain⟨_,_,_,e,_⟩:=x;exact zU e
 | own y=>obtain⟨_,e⟩:=x;exact zU e
 | xd fs=>obtain⟨_,⟨_,_,_,e,_⟩,_⟩:=x;exact zU e
 | rng lo s=>obtain⟨_,_,_,e⟩:=x;exact zU e
 | frz A u=>obtain⟨e,_⟩:=x;exact zU e
 | tbl B=>exact zU (show h.get? a=some _ from x)
 | met f y=>exact zU (show h.get? a=some _ from x)
 | ext φ=>obtain⟨_,⟨_,e⟩,_⟩:=x;exact zU e
theorem Paired.mapP{α β:Type}{F G:α->β->Prop}:∀{c:List α} {l:List β},Paired F c l->(∀a b,F a b->G a b)->Paired G c l
 | _,_,.nil,_=>.nil
 | _,_,.cons r t,f=>.cons (f _ _ r) (Paired.mapP t f)
theorem ObjOk.stay(x:ObjOk P w H h a o)(k:∀b u,(b=a\/H b=some (.own a))->h.get? b=some u->h'.get? b=some u)
  (M:∀b,H b=some (.own a)->g b=some (.own a)) (N:∀b D,H b=some (.tup D)->g b=some (.tup D)):ObjOk P w g h' a o:=by
 induction o with
 | lst D=>obtain⟨z,B,n,r,e⟩:=x;exact{z,B,n,r,k _ _ (.inl rfl) e}
 | tup D=>obtain⟨z,B,r,⟨l,e,c⟩,Q,e2,L⟩:=x;exact{z,B,r,{l,k _ _ (.inl rfl) e,c},Q,k _ _ (.inl rfl) e2,L}
 | dK E=>obtain⟨z,y,T,r,l,A,s,e,c⟩:=x;exact{z,y,T,r,l,A,s,k _ _ (.inl rfl) e,c}
 | dT E=>
  obtain⟨z,y,D,r,l,A,s,e,c⟩:=x;exact{z,y,D,Paired.mapP r λp q z=>{z.1,N _ _ z.2.1,z.2.2},l,A,s,k _ _ (.inl rfl) e,c}
 | set S n=>obtain⟨l,A,s,t,e,c⟩:=x;exact{l,A,s,t,k _ _ (.inl rfl) e,c}
 | ins C U fs=>
  obtain⟨d,z,ne,e,G,⟨I,A,s,e2,c⟩,r⟩:=x;exact{M _ d,z,ne,k _ _ (.inl rfl) e,G,{I,A,s,k _ _ (.inr d) e2,c},r}
 | own y=>obtain⟨l,e⟩:=x;exact{l,k _ _ (.inl rfl) e}
 | xd fs=>obtain⟨G,⟨I,A,s,e,c⟩,r⟩:=x;exact{G,{I,A,s,k _ _ (.inl rfl) e,c},r}
 | rng lo Y=>obtain⟨t,u,v,e⟩:=x;exact{t,u,v,k _ _ (.inl rfl) e}
 | frz l u O=>obtain⟨e,q⟩:=x;exact{k _ _ (.inl rfl) e,O q}
 | tbl J=>
  have e:h.get? a=some { cls:=.none,data:=.fields J }:=x;show h'.get? a=some { cls:=.none,data:=.fields J };exact k a _ (.inl rfl) e
 | met f y=>
  have e:h.get? a=some (PySem.W.methodObj (.ref f) (.ref y)):=x;show h'.get? a=some (PySem.W.methodObj (.ref f) (.ref y));exact k a _ (.inl rfl) e
 | ext φ=>obtain⟨p,⟨o,e⟩,st⟩:=x;exact{st _ _ p λo q=>k _ _ (.inl rfl) q,{o,k _ _ (.inl rfl) e},st}
theorem HOk.lt(x:HOk P w H h)(e:H a=some o):a<h.objs.size:=(x a o e).lt
theorem HOk.fresh(x:HOk P w H h)(e:h.objs.size<=a):H a=none:=by
 cases q:H a with
 | none=>rfl
 | some u=>exact absurd (xJ (x.lt q) e) (wj _)
theorem HOk.kept(x:HOk P w H h)(k:∀b u,h.get? b=some u->h'.get? b=some u):HOk P w H h':=λa o e=>
 (x a o e).stay (λb u _ q=>k b u q) (λ_ q=>q) λ_ _ q=>q
theorem HOk.laid(x:HOk P w H h)(k:∀b u,h.get? b=some u->h'.get? b=some u)(hp:h.objs.size<=a)(l:ObjOk P w (upd H a o) h' a o):HOk P w (upd H a o) h':=λb u e=>by
 have s:=x.fresh hp;by_cases hb:b=a
 .subst hb;rw[zc] at e;cases e;exact l
 .rw[zp hb] at e
  exact(x b u e).stay (λc v _ q=>k c v q) (λc q=>by rw[zp (zj q s)];exact q) λc A q=>by rw[zp (zj q s)];exact q
end
def Rd(H:Hp)(a:Addr)(u:HO):Prop:=H a=some u\/∃o,H a=some (.frz o u)
theorem Rd.ok{P:Program}{w:World}{H:Hp}{h:Heap}{a:Addr}{u:HO}(r:Rd H a u)(x:HOk P w H h):ObjOk P w H h a u:=by
 rcases r with r | ⟨o,r⟩
 .exact x a u r
 .obtain⟨_,q⟩:=x a _ r
  exact q
def Mut:Option HO->Prop
 | some (.lst _)=>True
 | some (.dK _)=>True
 | some (.dT _)=>True
 | some (.set _ _)=>True
 | some (.ins _ _ _)=>True
 | some (.ext _)=>True
 | _=>False
section
variable{P:Program}{w:World}{H:Hp}{h h':Heap}{x e:Addr}{g:HO}
theorem HOk.write(ok:HOk P w H h)(B:Mut (H x))(G:e=x\/H e=some (.own x))(k:∀b u,b≠e->h.get? b=some u->h'.get? b=some u)(D:∃u,h'.get? e=some u)
  (E:ObjOk P w (upd H x g) h' x g):HOk P w (upd H x g) h':=λb u q=>by
 have s:∀c y,H c=some (.own y)->c≠x:=λc y r z=>by subst z;rw[r] at B;exact B
 have A:∀c C,H c=some (.tup C)->c≠x:=λc C r z=>by subst z;rw[r] at B;exact B
 by_cases hb:b=x
 .subst hb;rw[zc] at q;cases q;exact E
 .rw[zp hb] at q
  by_cases l:b=e
  .have I:H b=some (.own x):=by
    rcases G with z | z
    .exact absurd (l.trans z) hb
    .rw[l];exact z
   rw[q] at I;cases I
   obtain⟨v,hv⟩:=D;exact{v,by rw[l];exact hv}
  .refine(ok b u q).stay (λc v hc r=>k c v ?_ r) (λc r=>by rw[zp (s c b r)];exact r) λc C r=>by rw[zp (A c C r)];exact r
   rcases hc with rfl | hc
   .exact l
   .rintro rfl
    rcases G with z | z
    .exact s c b hc z
    .rw[hc] at z;cases z;exact hb rfl
end
structure Un(fs ex:List Addr)(H H':Hp)(h h':Heap):Prop where
 keep:∀b o,h.get? b=some o->H b=none->b∉fs->b∉ex->h'.get? b=some o
 slot:∀b o,h.get? b=some o->H b=none->b∈fs->b∉ex->∃sl,h'.get? b=some { o with slots:=sl }
 free:∀b o,h.get? b=some o->H b=none->b∉ex->H' b=none
 there:∀b o,h.get? b=some o->b∉ex->∃o',h'.get? b=some o'
 tups:∀b xs,H b=some (.tup xs)->H' b=some (.tup xs)
 frzs:∀b o u,H b=some (.frz o u)->H' b=some (.frz o u)
 tbls:∀b ps,H b=some (.tbl ps)->∃more,H' b=some (.tbl (ps++more))
section
variable{fs w g s:List Addr}{H l A:Hp}{h h1 h2 h':Heap}{a x e:Addr}{o:HO}
theorem Un.any(u:Un fs g H l h h1){b:Addr}{c:Obj}(q:h.get? b=some c)(n:H b=none)(hx:b∉g):∃B,h1.get? b=some { c with slots:=B }:=by
 by_cases hb:b∈fs
 .exact u.slot b c q n hb hx
 .exact{c.slots,u.keep b c q n hb hx}
theorem Un.trans(a:Un fs g H l h h1)(b:Un fs g l A h1 h2):Un fs g H A h h2 where
 keep:=λc B q n hc hx=>b.keep c B (a.keep c B q n hc hx) (a.free c B q n hx) hc hx
 slot:=λc B q n hc hx=>by
  obtain⟨L,e1⟩:=a.slot c B q n hc hx;obtain⟨E,e2⟩:=b.slot c _ e1 (a.free c B q n hx) hc hx;exact⟨E,e2⟩
 free:=λc B q n hx=>by
  obtain⟨D,e1⟩:=a.there c B q hx;exact b.free c D e1 (a.free c B q n hx) hx
 there:=λc B q hx=>by
  obtain⟨D,e1⟩:=a.there c B q hx;exact b.there c D e1 hx
 tups:=λc C q=>b.tups c C (a.tups c C q)
 frzs:=λc B C q=>b.frzs c B C (a.frzs c B C q)
 tbls:=λc J q=>by
  obtain⟨G,e1⟩:=a.tbls c J q;obtain⟨I,e2⟩:=b.tbls c _ e1;exact{G++I,by rw[e2,Array.append_assoc]}
theorem Un.kept(k:∀b u,h.get? b=some u->h'.get? b=some u):Un fs g H H h h':=
 {λb c q _ _ _=>k b c q,λb c q _ _ _=>{c.slots,k b c q},λ_ _ _ n _=>n,λb c q _=>{c,k b c q},λ_ _ q=>q,λ_ _ _ q=>q,λ_ B q=>{#[],by rw[q];simp}}
theorem Un.refl:Un fs g H H h h:=Un.kept λ_ _ q=>q
theorem Un.laid(k:∀b u,h.get? b=some u->h'.get? b=some u)(hp:h.objs.size<=a)(c:H a=none):Un fs g H (upd H a o) h h' where
 keep:=λb u q _ _ _=>k b u q
 slot:=λb u q _ _ _=>{u.slots,k b u q}
 free:=λb u q n _=>by rw[zp (qV (xJ (zU q) hp))];exact n
 there:=λb u q _=>{u,k b u q}
 tups:=λb B q=>by rw[zp (zj q c)];exact q
 frzs:=λb u B q=>by rw[zp (zj q c)];exact q
 tbls:=λb C q=>{#[],by rw[zp (zj q c),q];simp}
theorem Un.write(B:Mut (H x))(E:e=x\/H e=some (.own x))(k:∀b u,b≠e->h.get? b=some u->h'.get? b=some u)(C:∃u,h'.get? e=some u):Un fs g H (upd H x o) h h':=by
 have hx:∀b,H b=none->b≠x:=λb n z=>by subst z;rw[n] at B;exact B
 have hb:∀b,H b=none->b≠e:=λb n z=>by
  subst z;rcases E with r | r
  .exact hx b n r
  .rw[n] at r;cases r
 have D:∀b u,H b=some u->¬Mut (some u)->b≠x:=λb u q G z=>by subst z;rw[q] at B;exact G B
 refine{λb u q n _ _=>k b u (hb b n) q,λb u q n _ _=>{u.slots,k b u (hb b n) q},λb u q n _=>by rw[zp (hx b n)];exact n,λb u q _=>?_,
  λb I q=>by rw[zp (D b _ q λz=>z)];exact q,λb u I q=>by rw[zp (D b _ q λz=>z)];exact q,λb J q=>{#[],by rw[zp (D b _ q λz=>z),q];simp}}
 by_cases c:b=e
 .subst c;exact C
 .exact{u,k b u c q}
theorem Un.mono(u:Un fs g H l h h1)(hs:∀b∈fs,b∈w)(hx:∀b∈g,b∈s):Un w s H l h h1:=
 {λb B q n hb c=>u.keep b B q n (λz=>hb (hs b z)) λz=>c (hx b z),λ_ _ q n _ c=>u.any q n λz=>c (hx _ z),λb B q n c=>u.free b B q n λz=>c (hx b z),λb B q c=>u.there b B q λz=>c (hx b z),u.tups,u.frzs,u.tbls}
end
def trk(h:Heap)(H:Hp):List Addr:=(List.range h.objs.size).filter λa=>(H a).isSome
def VR(h:Heap)(H:Hp):Heap:=PySem.W.hideAll h (trk h H)
theorem zdJ(h:Heap)(H:Hp):(VR h H).objs.size=h.objs.size:=PySem.W.hideAll_size _ _
theorem zfZ{h:Heap}{H:Hp}{b:Addr}{o:Obj}(e:h.get? b=some o)(n:H b=none):(VR h H).get? b=some o:=
 PySem.W.hideAll_get _ e λc=>by
  have q:(H b).isSome=true:=(qI.mp c).2;rw[n] at q;simp at q
theorem zhn{h:Heap}{H:Hp}{b:Addr}{o:Obj}(e:(VR h H).get? b=some o):h.get? b=some o/\H b=none:=by
 have c:h.get? b=some o:=PySem.W.of_hideAll (trk h H) e;refine{c,?_}
 cases q:H b with
 | none=>rfl
 | some x=>
  have g:b∈trk h H:=qI.mpr {xB.mpr (zU c),by simp[q]}
  have z:(VR h H).get? b=none:=PySem.W.hideAll_none (trk h H) g;rw[z] at e;cases e
def zh1(g h:Heap)(L:Addr):List 0#l:=(List.range h.objs.size).filterMap λa=>if a=L\/(g.get? a).isSome=true then none else(h.get? a).map λo=>(a,o)
def rest(g h:Heap)(L d:Addr):List 0#l:=(zh1 g h L).filter λp=>decide (p.1≠d)
structure Mod(K:W.Frag)(mg:Str->Option Value)(base:Heap):Prop where
 kin:K.In base
 glob:base.Ns mainGlobals mg
 blt:∃mb,base.Ns builtinsNs mb/\∀x:Str,x ≠ "__name__" -> mb x=bootBuiltins x
 nolimit:base.NoLimit
structure Cx where
 prog:Program
 w:World
 K:PySem.W.Frag
 mg:Str->Option Value
 base:Heap
 A:Around
 N:List Str
 s₀:Shared
 H₀:Hp
 env:Env
 outer:List Env
 stack:List Env
 ex:List Addr
 fn:Str->Bool
 calm:Bool
 pn:List 0#l
 xe:Value->Shared->Prop
def frs(l:List Env):List Addr:=l.filterMap (·.frame)
abbrev Cx.fs(X:Cx):List Addr:=frs X.outer
def Vis(b:Scope)(x:Str):Prop:=b.names.lookup x=some .local\/b.names.lookup x=some .cell\/b.names.lookup x=some .free
def Loc(b:Scope)(x:Str):Prop:=b.names.lookup x=some .local\/b.names.lookup x=some .cell
def zmQ(b:Env)(h:Heap)(m:Str->Option Value)(x:Str)(u:Value):Prop:=
 (b.kindOf x=some .local/\m x=some u)\/((b.kindOf x=some .cell\/b.kindOf x=some .free)/\∃c,b.cells.lookup x=some c/\h.IsCell c (some u))
structure Cx.Ok(X:Cx):Prop where
 mod:Mod X.K X.mg X.base
 kind:X.env.scope.kind=.function
 glob:X.env.globals=mainGlobals
 blt:X.env.builtins=builtinsNs
 above:X.s₀.heap.objs.size<=X.env.locals
 inj:∀x y c,X.env.cells.lookup x=some c->X.env.cells.lookup y=some c->x=y
 has:∀x,(X.env.kindOf x=some .cell\/X.env.kindOf x=some .free)->∃c,X.env.cells.lookup x=some c
 cab:∀x c,X.fn x=true->X.env.cells.lookup x=some c->X.s₀.heap.objs.size<=c
 hd:X.calm=true->X.A.handled=none
 frames:X.A.frames=some X.stack
 stk:X.stack=X.outer\/(X.stack=X.env::X.outer/\X.env.frame=some X.env.locals)
 exf:∀b∈X.ex,b≠X.env.locals/\∀x c,X.env.cells.lookup x=some c->c≠b
 bs:∀b o,X.base.get? b=some o->X.s₀.heap.get? b=some o/\X.H₀ b=none
 bsz:X.base.objs.size<=X.s₀.heap.objs.size
 noex:∀b o,X.base.get? b=some o->b∉X.ex
 exfs:∀b∈X.ex,b∉X.fs
 funs:X.s₀.heap.FunFrames X.base X.outer
 frf:∀b∈X.fs,X.H₀ b=none
structure Inv(X:Cx)(pins:List 0#l)(σ:List (Option V))(H:Hp)(s:Shared):Prop where
 ok:X.Ok
 os:s.os=X.s₀.os
 bare:AllBare s.gens
 base:Un X.fs X.ex X.H₀ H X.s₀.heap s.heap
 loc:∃m,s.heap.Ns X.env.locals m/\∀(i:Nat) (x:Str) (v:V),X.N[i]? =some x->σ[i]? =some (some v)->Vis X.env.scope x->∃u,RelV v u/\zmQ X.env s.heap m x u
 cell:∀x c,X.env.cells.lookup x=some c->∃v,s.heap.IsCell c v
 free:H X.env.locals=none
 freeC:∀x c,X.env.cells.lookup x=some c->H c=none
 pin:∀p∈X.pn++pins,s.heap.get? p.1=some p.2/\H p.1=none/\p.1≠X.env.locals/\p.1∉X.fs/\∀v,p.2.data≠.cell v
 hok:HOk X.prog X.w H s.heap
 len:σ.length=X.N.length
section
variable{X:Cx}{g:List (Addr×Obj)}{σ:List (Option V)}{H B:Hp}{s:Shared}{h':Heap}
theorem Cx.Ok.nofr(ok:X.Ok){b:Addr}{o:Obj}(e:X.base.get? b=some o):b∉X.fs:=λhb=>by
 have:=(ok.funs.mem hb).1;rw[e] at this;cases this
theorem Inv.bs(I:Inv X g σ H s):∀b o,X.base.get? b=some o->s.heap.get? b=some o/\H b=none:=λb o e=>
 {I.base.keep b o (I.ok.bs b o e).1 (I.ok.bs b o e).2 (I.ok.nofr e) (I.ok.noex b o e),I.base.free b o (I.ok.bs b o e).1 (I.ok.bs b o e).2 (I.ok.noex b o e)}
theorem Inv.bk(I:Inv X g σ H s):∀b o,X.base.get? b=some o->s.heap.get? b=some o:=λb o e=>(I.bs b o e).1
theorem Inv.mod(I:Inv X g σ H s):Mod X.K X.mg X.base:=I.ok.mod
theorem Inv.kIn(I:Inv X g σ H s):X.K.In s.heap:=I.ok.mod.kin.keeps I.bk
theorem Inv.lt(I:Inv X g σ H s):X.env.locals<s.heap.objs.size:=let ⟨_,b,_⟩:=I.loc;b.lt
theorem Inv.sz(I:Inv X g σ H s):X.s₀.heap.objs.size<=s.heap.objs.size:=jN I.ok.above (Xf I.lt)
theorem Inv.nofs(I:Inv X g σ H s){a:Addr}(h:s.heap.objs.size<=a):a∉X.fs:=λhb=>by
 obtain⟨_,o,b,_⟩:=I.ok.funs.mem hb;exact absurd (xJ (zU b) (jN I.sz h)) (wj _)
theorem Inv.cne(I:Inv X g σ H s):∀x c,X.env.cells.lookup x=some c->c≠X.env.locals:=λx c e z=>by
 obtain⟨v,o,w,hd⟩:=I.cell x c e;obtain⟨m,⟨D,C,A,l,b,_⟩,_⟩:=I.loc;rw[z,l] at w;cases w;rw[b] at hd;cases hd
theorem Inv.funs(I:Inv X g σ H s):s.heap.FunFrames X.base X.outer:=by
 have all:∀(l:List Env),(∀b∈frs l,b∈X.fs)->X.s₀.heap.FunFrames X.base l->s.heap.FunFrames X.base l:=by
  intro l;induction l with
  | nil=>intro _ _;trivial
  | cons A r J=>
   intro hs C;obtain⟨hk,⟨L,o,w,D,E,hd⟩,G⟩:=C;have c:L∈X.fs:=hs L (by unfold frs;rw[Wp,w];exact qJ)
   obtain⟨M,e⟩:=I.base.slot L o E (I.ok.frf L c) c λz=>I.ok.exfs L z c
   exact{hk,{L,_,w,D,e,hd},J (λb hb=>hs b (by unfold frs;rw[Wp,w];exact xg _ hb)) G}
 exact all X.outer (λ_ hb=>hb) I.ok.funs
theorem Inv.stack(I:Inv X g σ H s):s.heap.FunFrames X.base X.stack:=by
 rcases I.ok.stk with e | ⟨e,b⟩
 .rw[e];exact I.funs
 .rw[e]
  obtain⟨m,c,_⟩:=I.loc;refine .cons (by rw[I.ok.kind];decide) b c ?_ I.funs
  exact Heap.get?_none_of_le (jN I.ok.bsz I.ok.above)
theorem Inv.stkSub(I:Inv X g σ H s):∀b∈frs X.stack,b∈X.env.locals::X.fs:=λb hb=>by
 rcases I.ok.stk with e | ⟨e,c⟩
 .rw[e] at hb;exact xg _ hb
 .rw[e] at hb
  unfold frs at hb;rw[Wp,c] at hb;exact hb
theorem Inv.stkFree(I:Inv X g σ H s):∀b∈frs X.stack,H b=none:=λb hb=>by
 rcases qH.mp (I.stkSub b hb) with e | hb
 .rw[e];exact I.free
 .obtain⟨_,o,c,_⟩:=I.ok.funs.mem hb
  exact I.base.free b o c (I.ok.frf b hb) λz=>I.ok.exfs b z hb
theorem Inv.step{g':Array GenState}{t':Nat}{d':Drawn}{ch:List Addr}(I:Inv X g σ H s)
  (C:∀b∈ch,(b∈X.ex\/X.s₀.heap.objs.size<=b)/\b≠X.env.locals/\(∀x c,X.env.cells.lookup x=some c->c≠b)/\∀p∈X.pn++g,p.1≠b)
  (D:∀b o,b≠X.env.locals->b∉X.fs->b∉ch->s.heap.get? b=some o->H b=none->h'.get? b=some o)
  (J:∀b o,b≠X.env.locals->b∈X.fs->b∉ch->s.heap.get? b=some o->H b=none->∃sl,h'.get? b=some { o with slots:=sl }) (w:∀b o,b∉ch->s.heap.get? b=some o->H b=none->B b=none)
  (M:∀b o,b∉ch->s.heap.get? b=some o->∃T,h'.get? b=some T)
  (Y:∀b L,H b=some (.tup L)->B b=some (.tup L)) (O:∀b o u,H b=some (.frz o u)->B b=some (.frz o u)) (U:∀b ps,H b=some (.tbl ps)->∃more,B b=some (.tbl (ps++more)))
  (ns:∀m,s.heap.Ns X.env.locals m->h'.Ns X.env.locals m) (a0:HOk X.prog X.w B h') (hg:AllBare g') :
  Inv X g σ B { s with heap:=h',gens:=g',drawn:=d',toks:=t' }:=by
 have Q:∀b o,X.s₀.heap.get? b=some o->b≠X.env.locals:=λb o e=>qV (xJ (zU e) I.ok.above)
 have G:∀b o,X.s₀.heap.get? b=some o->b∉X.ex->b∉ch:=λb o e hx hb=>by
  rcases(C b hb).1 with z | z
  .exact hx z
  .exact absurd (xJ (zU e) z) (wj _)
 have A:∀x c,X.env.cells.lookup x=some c->∀v,s.heap.IsCell c v->h'.IsCell c v:=λx c e v ⟨o,N,hd⟩=>by
  have E:c∉ch:=λz=>(C c z).2.2.1 x c e rfl
  by_cases hc:c∈X.fs
  .obtain⟨sl,q⟩:=J c o (I.cne x c e) hc E N (I.freeC x c e)
   exact{_,q,hd}
  .exact{o,D c o (I.cne x c e) hc E N (I.freeC x c e),hd}
 refine{I.ok,I.os,hg,{λb o e n hb hx=>?_,λb o e n hb hx=>?_,λb o e n hx=>?_,λb o e hx=>?_,λb L e=>Y b L (I.base.tups b L e),λb o L e=>O b o L (I.base.frzs b o L e),λb ps e=>?_},?_,λx c e=>?_,?_,λx c e=>?_,λp hp=>?_,a0,I.len}
 .exact D b o (Q b o e) hb (G b o e hx) (I.base.keep b o e n hb hx) (I.base.free b o e n hx)
 .obtain⟨sl,e1⟩:=I.base.slot b o e n hb hx
  obtain⟨aa,e2⟩:=J b _ (Q b o e) hb (G b o e hx) e1 (I.base.free b o e n hx);exact⟨aa,e2⟩
 .obtain⟨T,e1⟩:=I.base.there b o e hx
  exact w b T (G b o e hx) e1 (I.base.free b o e n hx)
 .obtain⟨T,e1⟩:=I.base.there b o e hx
  exact M b T (G b o e hx) e1
 .obtain⟨m1,e1⟩:=I.base.tbls b ps e
  obtain⟨m2,e2⟩:=U b _ e1;exact{m1++m2,by rw[e2,Array.append_assoc]}
 .obtain⟨m,hn,hl⟩:=I.loc
  refine{m,ns m hn,λi x v e1 e2 e3=>?_}
  obtain⟨u,r,l⟩:=hl i x v e1 e2 e3;refine{u,r,?_}
  rcases l with l | ⟨k,c,e,z⟩
  .exact .inl l
  .exact .inr {k,c,e,A x c e _ z}
 .obtain⟨v,z⟩:=I.cell x c e
  exact{v,A x c e v z}
 .obtain⟨m,⟨o,_,_,N,_⟩,_⟩:=I.loc
  exact w _ o (λz=>(C _ z).2.1 rfl) N I.free
 .obtain⟨v,o,N,hd⟩:=I.cell x c e
  exact w c o (λz=>(C c z).2.2.1 x c e rfl) N (I.freeC x c e)
 .obtain⟨e,n,ne,nf,d⟩:=I.pin p hp
  have E:p.1∉ch:=λz=>(C p.1 z).2.2.2 p hp rfl
  exact{D p.1 p.2 ne nf E e n,w p.1 p.2 E e n,ne,nf,d}
theorem Inv.un{t':Nat}(I:Inv X g σ H s)(u:Un X.fs [] H B s.heap h')(A:HOk X.prog X.w B h'):Inv X g σ B { s with heap:=h',toks:=t' }:=by
 obtain⟨m,⟨o,N,M,C,r⟩,_⟩:=id I.loc;obtain⟨U,D⟩:=u.any C I.free 1e3
 exact I.step (g':=s.gens) (d':=s.drawn) (ch:=[]) (λ_ z=>nomatch z) (λb o _ hb _ e n=>u.keep b o e n hb 1e3) (λb o _ hb _ e n=>u.slot b o e n hb 1e3) (λb o _ e n=>u.free b o e n 1e3) (λb o _ e=>u.there b o e 1e3) u.tups u.frzs u.tbls (λQ E=>by
  obtain⟨T,w,l,c,G⟩:=E;rw[C] at c;cases c
  exact{_,w,l,D,G}) A I.bare
theorem Inv.call{g':Array GenState}{t':Nat}{d':Drawn}{ch:List Addr}(I:Inv X g σ H s)(u:Un (frs X.stack) ch H B s.heap h')(E:HOk X.prog X.w B h')(hg:AllBare g')
  (l:∀b∈ch,(b∈X.ex\/X.s₀.heap.objs.size<=b)/\b≠X.env.locals/\(∀x c,X.env.cells.lookup x=some c->c≠b)/\∀p∈X.pn++g,p.1≠b) :
  Inv X g σ B { s with heap:=h',gens:=g',drawn:=d',toks:=t' }:=by
 obtain⟨m,⟨o,N,M,G,r⟩,_⟩:=id I.loc;obtain⟨T,D⟩:=u.any G I.free λz=>(l _ z).2.1 rfl
 exact I.step (ch:=ch) l (λb o D hb hc e n=>u.keep b o e n (λz=>(qH.mp (I.stkSub b z)).elim D hb) hc) (λb o _ _ hc e n=>u.any e n hc) (λb o hc e n=>u.free b o e n hc) (λb o hc e=>u.there b o e hc) u.tups u.frzs u.tbls (λO J=>by
  obtain⟨Q,C,A,w,L⟩:=J;rw[G] at w;cases w
  exact{_,C,A,D,L}) E hg
theorem Inv.turned{t':Nat}{it:Addr}(I:Inv X g σ H s)(k:∀b o,b≠it->s.heap.get? b=some o->h'.get? b=some o)(G:H it=none)(w:it≠X.env.locals)
  (h1:it∈X.ex\/X.s₀.heap.objs.size<=it) (h2:∀x c,X.env.cells.lookup x=some c->c≠it) (D:∀p∈X.pn++g,p.1≠it):Inv X g σ H { s with heap:=h',toks:=t' }:=by
 have l:∀b u,H b=some u->b≠it:=λb u e z=>by rw[z,G] at e;cases e
 refine I.step (g':=s.gens) (d':=s.drawn) (ch:=[it]) (λb hb=>?_) (λb o _ _ hc e _=>k b o (λz=>hc (by simp[z])) e) (λb o _ _ hc e _=>{o.slots,k b o (λz=>hc (by simp[z])) e}) (λ_ _ _ _ n=>n)
  (λb o hc e=>{o,k b o (λz=>hc (by simp[z])) e}) (λ_ _ e=>e) (λ_ _ _ e=>e) (λb O e=>{#[],by rw[e];simp}) (λm E=>?_) (λb u e=>?_) I.bare
 .have e:b=it:=by simpa using hb
  subst e;exact⟨h1,w,h2,D⟩
 .obtain⟨o,C,A,J,r⟩:=E
  exact{o,C,A,k _ o (qD w) J,r}
 .refine(I.hok b u e).stay (λc v hc q=>k c v ?_ q) (λ_ q=>q) λ_ _ q=>q
  rcases hc with z | z
  .rw[z];exact l b u e
  .exact l c _ z
theorem Inv.tok(I:Inv X g σ H s)(t:Nat):Inv X g σ H { s with toks:=t }:=I.un (h':=s.heap) (t':=t) Un.refl I.hok
theorem Inv.kept{t':Nat}(I:Inv X g σ H s)(k:∀b u,s.heap.get? b=some u->h'.get? b=some u):Inv X g σ H { s with heap:=h',toks:=t' }:=I.un (Un.kept k) (I.hok.kept k)
theorem Inv.laid{a:Addr}{o:HO}{t':Nat}(I:Inv X g σ H s)(k:∀b u,s.heap.get? b=some u->h'.get? b=some u)(hp:s.heap.objs.size<=a)(c:ObjOk X.prog X.w (upd H a o) h' a o) :
  Inv X g σ (upd H a o) { s with heap:=h',toks:=t' }:=I.un (Un.laid k hp (I.hok.fresh hp)) (I.hok.laid k hp c)
theorem Inv.write{x e:Addr}{o:HO}{t':Nat}(I:Inv X g σ H s)(A:Mut (H x))(w:e=x\/H e=some (.own x))(k:∀b u,b≠e->s.heap.get? b=some u->h'.get? b=some u)(c:∃u,h'.get? e=some u)
  (l:ObjOk X.prog X.w (upd H x o) h' x o):Inv X g σ (upd H x o) { s with heap:=h',toks:=t' }:=I.un (Un.write A w k c) (I.hok.write A w k c l)
theorem Inv.weak{c:List (Option V)}(I:Inv X g σ H s)(A:c.length=σ.length)(w:∀(i:Nat) v,c[i]? =some (some v)->σ[i]? =some (some v)):Inv X g c H s:=
 {I.ok,I.os,I.bare,I.base,let ⟨m,C,b⟩:=I.loc;{m,C,λi x v e1 e2 l=>b i x v e1 (w i v e2) l},I.cell,I.free,I.freeC,I.pin,I.hok,A.trans I.len}
theorem Inv.pins_of{b:List (Addr×Obj)}(I:Inv X g σ H s)(h:∀p∈b,s.heap.get? p.1=some p.2/\H p.1=none/\p.1≠X.env.locals/\p.1∉X.fs/\∀v,p.2.data≠.cell v):Inv X b σ H s:=
 {I.ok,I.os,I.bare,I.base,I.loc,I.cell,I.free,I.freeC,λp hp=>(zV.mp hp).elim (λz=>I.pin p (qw _ z)) (h p),I.hok,I.len}
theorem Yu{N:List Str}(c:N.Nodup){i j:Nat}{x:Str}(a:N[i]? =some x)(b:N[j]? =some x):i=j:=by
 obtain⟨h1,e1⟩:=zK.mp a;obtain⟨h2,e2⟩:=zK.mp b;exact(Xk c).mp (e1.trans e2.symm)
theorem zdb{M:Model}{A:Around}{E:Value->Shared->Prop}{i:Nat}{x:Str}{v:V}{u:Value}{Q:Unit->Shared->Prop}(I:Inv X g σ H s)(hN:X.N.Nodup)(O:X.N[i]? =some x)(hx:Loc X.env.scope x)(r:RelV v u)
  (h:∀s',Inv X g (σ.set i (some v)) H s'->(∃a,Heap.SameBut a s.heap s'.heap/\(a=X.env.locals\/X.env.cells.lookup x=some a))->Q Unit.unit s') (hf:X.fn x=true\/X.env.scope.names.lookup x=some .local:=by first| exact .inl rfl | exact .inr rfl | assumption):wpAny M A (storeName X.env x u) Q E s:=by
 obtain⟨m,hn,hl⟩:=id I.loc;have N:(X.env.scope.kind==.class||(X.env.scope.kind==.module&&X.env.locals != X.env.globals))=false:=by rw[I.ok.kind];rfl
 have T:i<σ.length:=by rw[I.len];exact(zK.mp O).1
 have C:=I.cne;have l:∀{a:Addr} {h':Heap},(∃o,s.heap.get? a=some o/\H a=none)->Heap.SameBut a s.heap h'->HOk X.prog X.w H h':=λ{a h'} ha hs b ob e=>by
  obtain⟨_,_,w⟩:=ha;refine(I.hok b ob e).stay (λc w' hc q=>(hs.2 c ?_).trans q) (λ_ q=>q) λ_ _ q=>q
  rintro rfl;rcases hc with rfl | hc
  .rw[w] at e;cases e
  .rw[w] at hc;cases hc
 rcases hx with hk | hk
 .refine wpAny_storeName_local hk hn (λh' a0 hs=>?_) N
  obtain⟨oL,_,_,aa,_⟩:=id hn;refine h _ {I.ok,I.os,I.bare,{λb o e n hb hx=>?_,λb o e n hb hx=>?_,I.base.free,λb o e hx=>?_,I.base.tups,I.base.frzs,I.base.tbls},{_,a0,λj y v' e1 e2 e3=>?_},λy c e=>?_,I.free,I.freeC,λp hp=>?_,l ⟨oL,aa,I.free⟩ hs,by simpa using I.len} {_,hs,.inl rfl}
  .exact(hs.2 b (qV (xJ (zU e) I.ok.above))).trans (I.base.keep b o e n hb hx)
  .obtain⟨sl,e1⟩:=I.base.slot b o e n hb hx
   exact{sl,(hs.2 b (qV (xJ (zU e) I.ok.above))).trans e1}
  .obtain⟨o',e1⟩:=I.base.there b o e hx
   exact{o',(hs.2 b (qV (xJ (zU e) I.ok.above))).trans e1}
  .by_cases G:j=i
   .subst G
    rw[O] at e1;cases e1
    rw[Wv T] at e2;cases e2;exact{u,r,.inl {hk,1e3}}
   .rw[Wq (qD G)] at e2
    obtain⟨u',r',q⟩:=hl j y v' e1 e2 e3;refine{u',r',?_}
    rcases q with ⟨k,e⟩ | ⟨k,c,e,z⟩
    .refine .inl {k,?_}
     have:y≠x:=λe=>G (Yu hN e1 (e▸O))
     simp[this,e]
    .exact .inr {k,c,e,z.sameBut hs (C y c e)}
  .obtain⟨w',z⟩:=I.cell y c e
   exact{w',z.sameBut hs (C y c e)}
  .obtain⟨e,n,ne,nf,d⟩:=I.pin p hp
   exact{(hs.2 p.1 ne).trans e,n,ne,nf,d}
 .have D:X.fn x=true:=by
   rcases hf with z | z
   .exact z
   .rw[z] at hk;cases hk
  obtain⟨c,hc⟩:=I.ok.has x (.inl hk);obtain⟨w',z⟩:=I.cell x c hc;refine wpAny_storeName_cell I.ok.kind hk hc z (λh' J hs=>?_)
  obtain⟨oc,U,Y⟩:=id z;refine h { s with heap:=h' } {I.ok,I.os,I.bare,{λb o e n hb hx=>?_,λb o e n hb hx=>?_,I.base.free,λb o e hx=>?_,I.base.tups,I.base.frzs,I.base.tbls},{m,hn.sameBut hs (qD (C x c hc)),λj y v' e1 e2 e3=>?_},λy c' e=>?_,I.free,I.freeC,λp hp=>?_,l {oc,U,I.freeC x c hc} hs,by simpa using I.len} {c,hs,.inr hc}
  .exact(hs.2 b (qV (xJ (zU e) (I.ok.cab x c D hc)))).trans (I.base.keep b o e n hb hx)
  .obtain⟨sl,e1⟩:=I.base.slot b o e n hb hx
   exact{sl,(hs.2 b (qV (xJ (zU e) (I.ok.cab x c D hc)))).trans e1}
  .obtain⟨o',e1⟩:=I.base.there b o e hx
   exact{o',(hs.2 b (qV (xJ (zU e) (I.ok.cab x c D hc)))).trans e1}
  .by_cases G:j=i
   .subst G
    rw[O] at e1;cases e1
    rw[Wv T] at e2;cases e2;exact{u,r,.inr {.inl hk,c,hc,J}}
   .rw[Wq (qD G)] at e2
    obtain⟨u',r',q⟩:=hl j y v' e1 e2 e3;refine{u',r',?_}
    rcases q with q | ⟨k,c',e,z'⟩
    .exact .inl q
    .refine .inr {k,c',e,z'.sameBut hs ?_}
     rintro rfl;exact G (Yu hN e1 (I.ok.inj _ _ _ e hc▸O))
  .by_cases L:c'=c
   .subst L;exact{_,J}
   .obtain⟨w2,z2⟩:=I.cell y c' e
    exact{w2,z2.sameBut hs L}
  .obtain⟨e,n,ne,nf,d⟩:=I.pin p hp
   refine{(hs.2 p.1 ?_).trans e,n,ne,nf,d}
   intro q;rw[q,U] at e;have q':oc=p.2:=jC e;exact d w' (by rw[<- q'];exact Y)
theorem yn{M:Model}{A:Around}{E:Value->Shared->Prop}{i:Nat}{x:Str}{v:V}{u:Value}{Q:Unit->Shared->Prop}(I:Inv X g σ H s)(l:X.N.Nodup)(C:X.N[i]? =some x)(hx:Loc X.env.scope x)(r:RelV v u)
  (h:∀b,Inv X g (σ.set i (some v)) H b->Q Unit.unit b) (w:X.fn x=true\/X.env.scope.names.lookup x=some .local:=by first| exact .inl rfl | exact .inr rfl | assumption):wpAny M A (storeName X.env x u) Q E s:=
 zdb I l C hx r (λb c _=>h b c) w
theorem Inv.call'{s':Shared}{ch:List Addr}(I:Inv X g σ H s)(E:s'.os=s.os)(u:Un (frs X.stack) ch H B s.heap s'.heap)(w:HOk X.prog X.w B s'.heap)(hg:AllBare s'.gens)
  (l:∀b∈ch,(b∈X.ex\/X.s₀.heap.objs.size<=b)/\b≠X.env.locals/\(∀x c,X.env.cells.lookup x=some c->c≠b)/\∀p∈X.pn++g,p.1≠b):Inv X g σ B s':=by
 obtain⟨h',C,A,D,G⟩:=s';have e:G=s.os:=E;subst e;exact I.call (g':=C) (t':=D) (d':=A) u w hg l
end
abbrev XK:=Value->Option Addr->Hp->Prop
abbrev St:=List (Option V)
abbrev VK:=V->Hp->Prop
abbrev TE:=St->Hp->VK->Prop
abbrev TT:=St->Hp->(Bool->Hp->Prop)->Prop
abbrev TA:=St->Hp->(List V->Hp->Prop)->Prop
structure XM where
 nx:St->Hp->Prop
 rt:VK
 bk:St->Hp->Prop:=λ_ _=>False
 ct:St->Hp->Prop:=λ_ _=>False
abbrev TS:=XM->St->Hp->Prop
def EP(X:Cx)(b:List (Addr×Obj))(σ:St)(Q:VK)(u:Value)(g:Shared):Prop:=∃v c,Inv X b σ c g/\RelV v u/\Q v c
def TP(X:Cx)(c:List (Addr×Obj))(σ:St)(Q:Bool->Hp->Prop)(b:Bool)(l:Shared):Prop:=∃g,Inv X c σ g l/\Q b g
def AP(X:Cx)(b:List (Addr×Obj))(σ:St)(Q:List V->Hp->Prop)(s:List Value)(l:Shared):Prop:=∃g c,Inv X b σ c l/\Vals g s/\Q g c
def SP(X:Cx)(b:List (Addr×Obj))(D:XM)(f:Flow)(l:Shared):Prop:=
 match f with
 | .next=>∃g c,Inv X b g c l/\D.nx g c
 | .brk=>∃g c,Inv X b g c l/\D.bk g c
 | .cont=>∃g c,Inv X b g c l/\D.ct g c
 | .ret u=>∃v g c,Inv X b g c l/\RelV v u/\D.rt v c
def PE(X:Cx)(e:Expr)(t:TE):Prop:=
 ∀(b:List 0#l) (s:Shared) (σ:St) (H:Hp) (Q:VK),Inv X b σ H s->t σ H Q->wpAny 0#b X.A (eval e X.env) (EP X b σ Q) X.xe s
def PT(X:Cx)(e:Expr)(t:TT):Prop:=
 ∀(b:List 0#l) (s:Shared) (σ:St) (H:Hp) (Q:Bool->Hp->Prop),Inv X b σ H s->t σ H Q->wpAny 0#b X.A (isTrue e X.env (eval e X.env)) (TP X b σ Q) X.xe s
def PW(X:Cx)(e:Expr)(t:TT):Prop:=
 ∀(c:Sem Value) (b:List 0#l) (s:Shared) (σ:St) (H:Hp) (Q:Bool->Hp->Prop),Inv X b σ H s->t σ H Q->wpAny 0#b X.A (isTrue e X.env c) (TP X b σ Q) X.xe s
theorem PW.pt{X:Cx}{e:Expr}{t:TT}(h:PW X e t):PT X e t:=h _
def PA(X:Cx)(g:List Expr)(t:TA):Prop:=
 ∀(c:Pos) (b:List 0#l) (s:Shared) (σ:St) (H:Hp) (Q:List V->Hp->Prop),Inv X b σ H s->t σ H Q->wpAny 0#b X.A (spliced (backTo c (starEach g X.env))) (AP X b σ Q) X.xe s
def PS(X:Cx)(st:Stmt)(t:TS):Prop:=
 ∀(b:List 0#l) (s:Shared) (σ:St) (H:Hp) (D:XM),Inv X b σ H s->t D σ H->wpAny 0#b X.A (exec st X.env) (SP X b D) X.xe s
def PSs(X:Cx)(st:List Stmt)(t:TS):Prop:=
 ∀(b:List 0#l) (s:Shared) (σ:St) (H:Hp) (D:XM),Inv X b σ H s->t D σ H->wpAny 0#b X.A (execs st X.env) (SP X b D) X.xe s
theorem thn{α:Type}{t:Sem α}{Q b:α->Shared->Prop}{M:Model}{A:Around}{E:Value->Shared->Prop}{s:Shared}(h:wpAny M A t Q E s)(c:∀a s,Q a s->b a s):wpAny M A t b E s:=ja h c λ_ _ x=>x
section
variable{X:Cx}
inductive IsB(x:V)(H:Hp)(Q:Bool->Hp->Prop):Prop
 | mk (c:Bool) (h:x=.bl c) (q:Q c H):IsB x H Q
inductive IsI(x:V)(H:Hp)(Q:Int->Hp->Prop):Prop
 | mk (i:Int) (h:x=.int i) (q:Q i H):IsI x H Q
inductive zml(c:List V)(H:Hp)(Q:V->V->Hp->Prop):Prop
 | mk (v w:V) (h:c=[v,w]) (q:Q v w H):zml c H Q
inductive ziY(i:Nat)(σ:St)(H:Hp)(Q:VK):Prop
 | mk (v:_) (_:σ[i]? =some (some v)) (_:Q v H):ziY i σ H Q
def tC(v:V):TE:=λ_ H Q=>Q v H
theorem zjp{i:Nat}{x:Str}{g:Pos}(J:X.N[i]? =some x)(hv:Vis X.env.scope x)(hd:0#H=false:=by decide)(G:(x==("__classdict__":Str))=false:=by decide):PE X (.Name x g) (ziY i):=by
 intro E s σ H Q I h;obtain⟨v,e,h⟩:=h;obtain⟨m,N,L⟩:=I.loc;obtain⟨u,r,l⟩:=L i x v J e hv;have fin:EP X E σ Q u s:=⟨v,H,I,r,h⟩;rcases l with ⟨hk,M⟩ | ⟨hk,c,hc,w⟩
 .exact wpAny_Name (wpAny_loadName_local I.ok.kind hk N M fin) hd
 .rcases hk with hk | hk
  .exact wpAny_Name (wpAny_loadName_cell I.ok.kind hk hc w fin) hd
  .exact wpAny_Name (wpAny_loadName_free I.ok.kind hk hc w fin G) hd
theorem zg{i j g}:PE X (.Constant (.int i) j g) (tC (.int i)):=λ_ _ _ H _ I h=>wpAny_Constant_int {.int i,H,I.tok _,{_,rfl},h}
theorem xx{b j g}:PE X (.Constant (.bool b) j g) (tC (.bl b)):=λ_ _ _ H _ I h=>Constant_bool {.bl b,H,I,rfl,h}
theorem vv{j g}:PE X (.Constant .none j g) (tC .non):=λ_ _ _ H _ I h=>Constant_none {.non,H,I,rfl,h}
theorem xD{x j g}:PE X (.Constant (.str x) j g) (tC (.str x)):=λ_ _ _ H _ I h=>Calls.Constant_str {.str x,H,I.tok _,{_,rfl},h}
def Gl(X:Cx)(x:Str):Prop:=X.env.kindOf x=some .globalImplicit
theorem zcl{E:Value->Shared->Prop}{c:List (Addr×Obj)}{s:Shared}{σ:St}{H:Hp}{x:Str}{u:Value}{g:Pos}{Q:Value->Shared->Prop}(I:Inv X c σ H s)(hg:Gl X x)(l:X.mg x=some u)(h:Q u s)
  (hd:0#H=false:=by decide):wpAny 0#b X.A (eval (.Name x g) X.env) Q E s:=
 zgq I.ok.kind hg (Calls.loadGlobal_global (by rw[I.ok.glob];exact I.mod.glob.keeps I.bk) l h) hd
theorem wE{E:Value->Shared->Prop}{c:List (Addr×Obj)}{s:Shared}{σ:St}{H:Hp}{x:Str}{u:Value}{g:Pos}{Q:Value->Shared->Prop}(I:Inv X c σ H s)(hg:Gl X x)(l:X.mg x=none)(hv:bootBuiltins x=some u)(h:Q u s)
  (w:x ≠ "__name__" :=by decide) (hd:0#H=false:=by decide):wpAny 0#b X.A (eval (.Name x g) X.env) Q E s:=by
 obtain⟨G,h1,h2⟩:=I.mod.blt;exact zgq I.ok.kind hg (Calls.loadGlobal_builtin (by rw[I.ok.glob];exact I.mod.glob.keeps I.bk) l (by rw[I.ok.blt];exact h1.keeps I.bk) ((h2 x w).trans hv) h) hd
theorem ZR{x:Str}{v:V}{u:Value}{g:Pos}(hg:Gl X x)(c:X.mg x=some u)(r:RelV v u)(hd:0#H=false:=by decide):PE X (.Name x g) (tC v):=
 λ_ _ _ H _ I h=>zcl I hg c ⟨v,H,I,r,h⟩ hd
theorem vh{x:Str}{v:V}{u:Value}{g:Pos}(hg:Gl X x)(c:X.mg x=none)(hv:bootBuiltins x=some u)(r:RelV v u)(l:x ≠ "__name__" :=by decide)(hd:0#H=false:=by decide):PE X (.Name x g) (tC v):=
 λ_ _ _ H _ I h=>wE I hg c hv ⟨v,H,I,r,h⟩ l hd
variable{a b:Expr}{A C:TE}{g:Pos}
def PC(X:Cx)(l:CmpOp)(a b:Expr)(t:TE):Prop:=
 ∀(c:List 0#l) (s:Shared) (σ:St) (H:Hp) (Q:VK),Inv X c σ H s->t σ H Q ->
  wpAny 0#b X.A (eval a X.env) (λv w=>wpAny 0#b X.A (eval b X.env) (λu E=>wpAny 0#b X.A (compareOp l v u) (EP X c σ Q) X.xe E) X.xe w) X.xe s
theorem zfH(b:Expr){c:CmpOp}(h:c≠.In)(h2:c≠.NotIn):behindInMarks c b=false:=by
 have e1:(c==CmpOp.In)=false:=by cases c<;>first| rfl | exact absurd rfl h
 have e2:(c==CmpOp.NotIn)=false:=by cases c<;>first| rfl | exact absurd rfl h2
 cases b<;>simp[behindInMarks,e1,e2]
def tB(t:TE):TT:=λσ H Q=>t σ H λx c=>IsB x c Q
theorem zfc{w:CmpOp}{t:TE}(h:PC X w a b t)(h1:behindInMarks w b=false:=by first| exact zfH _ 1e1 1e1 | rfl):PT X (.Compare a [w] [b] g) (tB t):=by
 intro l s σ H Q I J;refine wpAny_isTrue_Compare1 (thn (h l s σ H _ I J) λv s1 h1=>thn h1 λu s2 h2=>thn h2 λc N ⟨x,E,G,M,L⟩=>?_) h1
 obtain⟨d,rfl,q⟩:=L;cases M;exact Zh ⟨E,G,q⟩
theorem jH{e:Expr}{t:TE}(h:PE X e t)(G:∀c,isTrue e X.env c=(do let v<-c;standAt e.pos;holding [v] (truthy v)):=by intro _;rfl):PT X e (tB t):=by
 intro l s σ H Q I J;refine isTrue_plain (thn (h l s σ H _ I J) λv s1 ⟨x,w,E,M,L⟩=>?_) (G _)
 obtain⟨d,rfl,q⟩:=L;cases M;exact Zh ⟨w,E,q⟩
variable{B D:TT}{rest:List Expr}
def zmF(t u:TT):TT:=λσ H Q=>t σ H λc l=>if c=true then u σ l Q else Q false l
def tOr(t u:TT):TT:=λσ H Q=>t σ H λc l=>if c=true then Q true l else u σ l Q
def zmx(t:TT):TT:=λσ H Q=>t σ H λc l=>Q (!c) l
theorem Jb(w:PT X a B):PW X (.BoolOp .And [a] g) B:=by
 intro E l s σ H Q I h;refine isTrue_and (thn (w l s σ H Q I h) λc s1 e=>?_)
 cases c with
 | true=>exact isTrue_and_nil e
 | false=>exact e
theorem yr(w:PT X a B):PW X (.BoolOp .Or [a] g) B:=by
 intro E l s σ H Q I h;refine isTrue_or (thn (w l s σ H Q I h) λc s1 e=>?_)
 cases c with
 | false=>exact isTrue_or_nil e
 | true=>exact e
theorem VA(J:PT X a B)(hb:PW X (.BoolOp .And (b::rest) g) D):PW X (.BoolOp .And (a::b::rest) g) (zmF B D):=by
 intro L l s σ H Q I h;refine isTrue_and (thn (J l s σ H _ I h) λc s1 ⟨w,E,G⟩=>?_)
 cases c with
 | true=>exact hb L l s1 σ w Q E G
 | false=>exact⟨w,E,G⟩
theorem QP(J:PT X a B)(hb:PW X (.BoolOp .Or (b::rest) g) D):PW X (.BoolOp .Or (a::b::rest) g) (tOr B D):=by
 intro L l s σ H Q I h;refine isTrue_or (thn (J l s σ H _ I h) λc s1 ⟨w,E,G⟩=>?_)
 cases c with
 | true=>exact⟨w,E,G⟩
 | false=>exact hb L l s1 σ w Q E G
theorem vp(E:PT X a B):PT X (.UnaryOp .Not a g) (zmx B):=by
 intro l s σ H Q I h;exact isTrue_not (E l s σ H (λc w=>Q (!c) w) I h)
def zkv(A C:TE):TE:=λσ H Q=>A σ H λx l=>IsB x l λc l=>if c=true then C σ l Q else Q (.bl false) l
def zmw(A C:TE):TE:=λσ H Q=>A σ H λx l=>IsB x l λc l=>if c=true then Q (.bl true) l else C σ l Q
def zkp(A:TE):TE:=λσ H Q=>A σ H λx l=>IsB x l λc l=>Q (.bl (!c)) l
theorem vt{w}{t:TE}(h:PE X a t):PE X (.BoolOp w [a] g) t:=λc s σ H Q I l=>BoolOp_one (h c s σ H Q I l)
theorem vX(J:PE X a A)(hb:PE X (.BoolOp .And (b::rest) g) C):PE X (.BoolOp .And (a::b::rest) g) (zkv A C):=by
 intro l s σ H Q I h;refine BoolOp_and (thn (J l s σ H _ I h) λv s1 ⟨x,E,G,L,w⟩=>?_)
 obtain⟨c,rfl,w⟩:=w;cases L;refine Zh ?_
 cases c with
 | true=>exact hb l s1 σ E Q G w
 | false=>exact{.bl false,E,G,rfl,w}
theorem ziI(J:PE X a A)(hb:PE X (.BoolOp .Or (b::rest) g) C):PE X (.BoolOp .Or (a::b::rest) g) (zmw A C):=by
 intro l s σ H Q I h;refine BoolOp_or (thn (J l s σ H _ I h) λv s1 ⟨x,E,G,L,w⟩=>?_)
 obtain⟨c,rfl,w⟩:=w;cases L;refine Zh ?_
 cases c with
 | false=>exact hb l s1 σ E Q G w
 | true=>exact{.bl true,E,G,rfl,w}
theorem zjr(J:PE X a A):PE X (.UnaryOp .Not a g) (zkp A):=by
 intro l s σ H Q I h;refine UnaryOp_ (thn (J l s σ H _ I h) λv s1 ⟨x,E,G,L,w⟩=>?_)
 obtain⟨c,rfl,w⟩:=w;cases L;exact not_of (Zh {.bl (!c),E,G,rfl,w})
def tIf(t:TT)(A C:TE):TE:=λσ H Q=>t σ H λc l=>if c=true then A σ l Q else C σ l Q
theorem wK{c:Expr}(hc:PT X c B)(J:PE X a A)(hb:PE X b C):PE X (.IfExp c a b g) (tIf B A C):=by
 intro l s σ H Q I h;refine wpAny_IfExp (thn (hc l s σ H _ I h) λd s1 ⟨w,E,G⟩=>?_)
 cases d with
 | true=>exact J l s1 σ w Q E G
 | false=>exact hb l s1 σ w Q E G
end
def SqL(K:W.Frag)(H:Hp)(a:Addr)(c:List V):Prop:=
 Rd H a (.lst c) \/
  ∃(o:Obj) (b:Array Value) (n:Nat),K.lookup a=some o/\o.cls=.type "list" /\ o.dict=none/\o.data=.seq b n/\b.size<=sizeLine/\Vals c b.toList
def SqT(K:W.Frag)(H:Hp)(a:Addr)(c:List V):Prop:=
 Rd H a (.tup c) \/
  ∃(o:Obj) (b:Array Value) (n:Nat),K.lookup a=some o/\o.cls=.type "tuple" /\ o.data=.seq b n/\b.size<=sizeLine/\Vals c b.toList
def zmN:Value->Option V
 | .none=>some .non
 | .bool b=>some (.bl b)
 | .int i _=>some (.int i)
 | .str x _=>some (.str x)
 | .bytes b _=>some (.byt b)
 | .float b _=>some (.flt b)
 | .ref a=>some (.ref a)
 | .type n=>some (.ty n)
 | _=>none
theorem RelV.abs{x:V}{u:Value}(r:RelV x u):zmN u=some x:=by
 cases x with
 | non=>cases r;rfl
 | bl _=>cases r;rfl
 | int _=>obtain⟨t,rfl⟩:=r;rfl
 | str _=>obtain⟨t,rfl⟩:=r;rfl
 | byt _=>obtain⟨t,rfl⟩:=r;rfl
 | flt _=>obtain⟨t,rfl⟩:=r;rfl
 | ref _=>cases r;rfl
 | ty _=>cases r;rfl
theorem RelV.inj{x y:V}{u:Value}(r:RelV x u)(q:RelV y u):x=y:=jC (r.abs.symm.trans q.abs)
theorem Vals.inj:∀{c g:List V} {b:List Value},Vals c b->Vals g b->c=g
 | _,_,_,.nil,.nil=>rfl
 | _,_,_,.cons r t,.cons l s=>by rw[r.inj l,Vals.inj t s]
section
variable{X:Cx}{b:List (Addr×Obj)}{σ:St}{H:Hp}{s:Shared}{a:Addr}{c g:List V}
theorem SqL.of{K:W.Frag}(h:H a=some (.lst c)):SqL K H a c:=.inl (.inl h)
def u6:=@SqL.of
theorem SqT.of{K:W.Frag}(h:H a=some (.tup c)):SqT K H a c:=.inl (.inl h)
def u7:=@SqT.of
theorem Inv.list(I:Inv X b σ H s)(h:SqL X.K H a c):∃l:List Value,Vals c l/\PlainL s.heap a l.toArray/\c.length<=sizeLine:=by
 rcases h with h | ⟨o,l,n,hk,hc,hd,hs,hz,r⟩
 .obtain⟨z,l,n,r,e⟩:=h.ok I.hok
  exact{l,r,{_,n,e,rfl,rfl,rfl},z}
 .refine{l.toList,r,{o,n,I.kIn a o hk,hc,hd,by simpa using hs},?_}
  have e:=r.length;simp only[xR] at e;omega
theorem Inv.tuple(I:Inv X b σ H s)(h:SqT X.K H a c):∃l:List Value,Vals c l/\IsTup s.heap a l.toArray/\c.length<=sizeLine:=by
 rcases h with h | ⟨o,l,n,hk,hc,hs,hz,r⟩
 .obtain⟨z,l,r,p⟩:=h.ok I.hok
  exact⟨l,r,p.1,z⟩
 .refine{l.toList,r,{o,I.kIn a o hk,hc,n,by simpa using hs},?_}
  have e:=r.length;simp only[xR] at e;omega
theorem Inv.list_inj(I:Inv X b σ H s)(h:SqL X.K H a c)(D:SqL X.K H a g):c=g:=by
 obtain⟨w,r,⟨o,n,e,_,_,d⟩,_⟩:=I.list h;obtain⟨l,E,⟨J,G,B,_,_,A⟩,_⟩:=I.list D;rw[e] at B;cases B
 rw[d] at A;injection A with C _;have:w=l:=by simpa using congrArg Array.toList C
 subst this;exact r.inj E
theorem Inv.tuple_inj(I:Inv X b σ H s)(h:SqT X.K H a c)(D:SqT X.K H a g):c=g:=by
 obtain⟨w,r,⟨o,e,_,n,d⟩,_⟩:=I.tuple h;obtain⟨l,E,⟨J,B,_,G,A⟩,_⟩:=I.tuple D;rw[e] at B;cases B
 rw[d] at A;injection A with C _;have:w=l:=by simpa using congrArg Array.toList C
 subst this;exact r.inj E
end
abbrev Cx.wish(X:Cx)(E:Value->Shared->Prop):Cx:={ X with xe:=E }
abbrev Cx.nox(X:Cx):Cx:=X.wish λ_ _=>False
theorem Cx.Ok.wish{X:Cx}(ok:X.Ok)(E:Value->Shared->Prop):(X.wish E).Ok:=
 ⟨ok.mod,ok.kind,ok.glob,ok.blt,ok.above,ok.inj,ok.has,ok.cab,ok.hd,ok.frames,ok.stk,ok.exf,ok.bs,ok.bsz,ok.noex,ok.exfs,ok.funs,ok.frf⟩
theorem Cx.Ok.unwish{X:Cx}{E:Value->Shared->Prop}(ok:(X.wish E).Ok):X.Ok:=
 ⟨ok.mod,ok.kind,ok.glob,ok.blt,ok.above,ok.inj,ok.has,ok.cab,ok.hd,ok.frames,ok.stk,ok.exf,ok.bs,ok.bsz,ok.noex,ok.exfs,ok.funs,ok.frf⟩
section
variable{X:Cx}{b:List (Addr×Obj)}{σ:St}{H:Hp}{s:Shared}{E:Value->Shared->Prop}
theorem Inv.wish(I:Inv X b σ H s)(E:Value->Shared->Prop):Inv (X.wish E) b σ H s:={I.ok.wish E,I.os,I.bare,I.base,I.loc,I.cell,I.free,I.freeC,I.pin,I.hok,I.len}
theorem Inv.unwish(I:Inv (X.wish E) b σ H s):Inv X b σ H s:=⟨I.ok.unwish,I.os,I.bare,I.base,I.loc,I.cell,I.free,I.freeC,I.pin,I.hok,I.len⟩
theorem SP.unwish{D:XM}{f:Flow}{l:Shared}(h:SP (X.wish E) b D f l):SP X b D f l:=by
 cases f with
 | next=>obtain⟨g,c,I,q⟩:=h;exact⟨g,c,I.unwish,q⟩
 | brk=>obtain⟨g,c,I,q⟩:=h;exact⟨g,c,I.unwish,q⟩
 | cont=>obtain⟨g,c,I,q⟩:=h;exact⟨g,c,I.unwish,q⟩
 | ret u=>obtain⟨v,g,c,I,r,q⟩:=h;exact⟨v,g,c,I.unwish,r,q⟩
theorem PSs.nox{st:List Stmt}{t:TS}(h:PSs X.nox st t):PSs X st t:=λb s σ H D I c=>
 ja (h b s σ H D (I.wish _) c) (λ_ _ q=>q.unwish) λ_ _ z=>False.elim z
end
section
variable{X:Cx}{st:Stmt}{rest:List Stmt}{t u:TS}{e:Expr}{l:TE}{g:Pos}
def zkq:TS:=λD σ H=>D.nx σ H
def zmt(t u:TS):TS:=λD σ H=>t { D with nx:=u D } σ H
theorem zY:PSs X [] zkq:=λ_ _ σ H _ I h=>wpAny_execs_nil ⟨σ,H,I,h⟩
theorem ze(h1:PS X st t)(h2:PSs X rest u):PSs X (st::rest) (zmt t u):=by
 intro b s σ H D I h;refine wpAny_execs_cons (thn (h1 b s σ H { D with nx:=u D } I h) λf s1 q=>?_)
 cases f with
 | next=>
  obtain⟨A,c,w,q⟩:=q;exact h2 b s1 A c D w q
 | ret v=>exact q
 | brk=>exact q
 | cont=>exact q
theorem zi(h1:PS X st t):PSs X [st] t:=by
 intro b s σ H D I h;refine wpAny_execs_cons (thn (h1 b s σ H D I h) λf s1 q=>?_)
 cases f with
 | next=>exact wpAny_execs_nil q
 | ret v=>exact q
 | brk=>exact q
 | cont=>exact q
theorem Inv.quiet{b:List (Addr×Obj)}{σ:St}{H:Hp}{s:Shared}(I:Inv X b σ H s):interactive X.env=false:=by simp[interactive,I.ok.kind]
def zkr(l:TE):TS:=λD σ H=>l σ H λ_ b=>D.nx σ b
theorem ji(A:PE X e l)(hs:swapsWith e none g.line X.env=pure false:=by rfl):PS X (.Expr e g) (zkr l):=by
 intro b s σ H D I h;exact wpAny_Expr_any (thn (A b s σ H _ I h) λv s1 ⟨x,c,w,C,B⟩=>⟨σ,c,w,B⟩) I.quiet hs
def zmu(l:TE):TS:=λD σ H=>l σ H D.rt
theorem zy(A:PE X e l):PS X (.Return (some e) g) (zmu l):=by
 intro b s σ H D I h;exact wpAny_Return_some (thn (A b s σ H _ I h) λv s1 ⟨x,c,w,C,B⟩=>⟨x,σ,c,w,C,B⟩)
def zmz(c:TT)(t u:TS):TS:=λD σ H=>c σ H λb s=>if b=true then t D σ s else u D σ s
theorem jb{c:Expr}{a b:List Stmt}{E:TT}(hc:PT X c E)(G:PSs X a t)(hb:PSs X b u):PS X (.If c a b g) (zmz E t u):=by
 intro w s σ H D I h;refine wpAny_If (thn (hc w s σ H _ I h) λd s1 ⟨A,B,C⟩=>?_)
 cases d with
 | true=>exact G w s1 σ A D B C
 | false=>exact hb w s1 σ A D B C
end
abbrev TG:=V->St->Hp->(St->Hp->Prop)->Prop
abbrev TGs:=List V->St->Hp->(St->Hp->Prop)->Prop
def PG(X:Cx)(b:Expr)(t:TG):Prop:=
 ∀(c:List 0#l) (s:Shared) (σ:St) (H:Hp) (v:V) (u:Value) (Q:St->Hp->Prop),Inv X c σ H s->RelV v u->t v σ H Q ->
  wpAny 0#b X.A (assign b X.env u) (λ_ w=>∃l g,Inv X c l g w/\Q l g) X.xe s
def PGs(X:Cx)(B:List Expr)(t:TGs):Prop:=
 ∀(b:List 0#l) (s:Shared) (σ:St) (H:Hp) (l:List V) (g:List Value) (Q:St->Hp->Prop),Inv X b σ H s->Vals l g->t l σ H Q ->
  wpAny 0#b X.A (assignInOrder ((assignEach B X.env).map (·.2)) g) (λ_ A=>∃w c,Inv X b w c A/\Q w c) X.xe s
abbrev zgx:=V->V->V->Hp->(Hp->Prop)->Prop
def zkf(X:Cx)(t:zgx):Prop:=
 ∀(b:List 0#l) (s:Shared) (σ:St) (H:Hp) (o i v:V) (l g u:Value) (Q:Hp->Prop),Inv X b σ H s->RelV o l->RelV i g->RelV v u->t o i v H Q ->
  wpAny 0#b X.A (setItem l g u) (λ_ w=>∃c,Inv X b σ c w/\Q c) X.xe s
abbrev TIp:=V->V->Hp->VK->Prop
def PIp(X:Cx)(c:Operator)(t:TIp):Prop:=
 ∀(b:List 0#l) (s:Shared) (σ:St) (H:Hp) (x y:V) (v u:Value) (Q:VK),Inv X b σ H s->RelV x v->RelV y u->t x y H Q ->
  wpAny 0#b X.A (inplaceOp c v u) (EP X b σ Q) X.xe s
section
variable{X:Cx}{A:Pos}
def xb(i:Nat):TG:=λv σ H Q=>Q (σ.set i (some v)) H
theorem zq{i:Nat}{x:Str}(g:X.N.Nodup)(w:X.N[i]? =some x)(hx:Loc X.env.scope x)(l:X.fn x=true\/X.env.scope.names.lookup x=some .local:=by first| exact .inl rfl | exact .inr rfl | assumption):PG X (.Name x A) (xb i):=by
 intro b s σ H v u Q I r h;exact wpAny_assign_Name (yn I g w hx r (λB c=>{_,H,c,h}) l)
def JP:TGs:=λb σ H Q=>b=[]/\Q σ H
inductive xz(t:TG)(u:TGs)(b:List V)(σ:St)(H:Hp)(Q:St->Hp->Prop):Prop
 | mk (v r:_) (_:b=v::r) (_:t v σ H λg c=>u r g c Q):xz t u b σ H Q
theorem z7:PGs X [] JP:=by
 intro b s σ H g c Q I r h;obtain⟨e,h⟩:=h;subst e;cases r;exact assignInOrder_nil ⟨σ,H,I,h⟩
theorem zn{e:Expr}{c:List Expr}{t:TG}{u:TGs}(h1:PG X e t)(h2:PGs X c u)
  (hs:(assignEach (e::c) X.env).map (·.2)=assign e X.env::(assignEach c X.env).map (·.2):=by rfl):PGs X (e::c) (xz t u):=by
 intro b s σ H G D Q I r h;obtain⟨v,E,e1,h⟩:=h;subst e1;cases r with
 | cons r B=>
  rw[hs];refine assignInOrder_cons (thn (h1 b s σ H _ _ _ I r h) λ_ s1 ⟨C,g,l,w⟩=>?_)
  exact h2 b s1 C g _ _ Q l B w
inductive Q8(K:W.Frag)(n:Nat)(t:TGs)(v:V)(σ:St)(H:Hp)(Q:St->Hp->Prop):Prop
 | mk (a b:_) (_:v=.ref a) (_:SqT K H a b) (_:b.length=n) (_:t b σ H Q):Q8 K n t v σ H Q
theorem qE{g:List Expr}{k:Nat}{t:TGs}{n:Nat}(hc:X.calm=true)(h:PGs X g t)
  (G:(assignEach g X.env).length=n:=by rfl) (l:(assignEach g X.env).findIdx? (·.1)=none:=by rfl):PG X (.Tuple g k A) (Q8 X.K n t):=by
 intro c s σ H v u Q I r w;obtain⟨a,M,e1,hq,E,w⟩:=w;subst e1;cases r;obtain⟨L,B,J,hz⟩:=I.tuple hq;refine assign_Tuple_tuple (I.ok.hd hc) J (by simp[G,<- E,B.length]) l λD hx=>?_
 have C:Inv X c σ H { s with heap:=D }:=I.kept (t':=s.toks) λb o e=>hx b o (qV (zU e)) e
 exact h c _ σ H M _ Q C (by simpa using B) w
def zmK(to l:TE)(t:zgx):TG:=λv σ H Q=>to σ H λo b=>l σ b λi c=>t o i v c λg=>Q σ g
theorem VD{o i:Expr}{to l:TE}{t:zgx}(M:PE X o to)(L:PE X i l)(hs:zkf X t)
  (J:∀v,assign (.Subscript o i A) X.env v=(do
   let c<-holding [v] (eval o X.env)
   let g<-holding [v,c] (eval i X.env)
   standAt A
   holding [v,c,g] (setItem c g v)
   release [v,c,g] []):=by intro _;rfl):PG X (.Subscript o i A) (zmK to l t):=by
 intro b s σ H v u Q I r h;rw[J];refine zk (wv (thn (M b s σ H _ I h) λc s1 ⟨x,w,D,U,N⟩=>?_))
 refine zk (wv (thn (L b s1 σ w _ D N) λg s2 ⟨y,B,E,Y,O⟩=>?_))
 refine zk (wP (zk (wv (thn (hs b s2 σ B x y v c g u _ E U Y r O) λ_ s3 ⟨C,G,T⟩=>?_))))
 exact wpAny_release ⟨σ,C,G,T⟩
def zda(c:TE)(g:TG):TS:=λD σ H=>c σ H λx b=>g x σ b D.nx
theorem jQ{c e:Expr}{l:TE}{g:TG}(C:PE X e l)(hg:PG X c g)(hs:swapsWithSole [c] e A.line X.env=pure false:=by rfl)(E:swappedStores [c] e X.env=pure none:=by rfl)
  (h1:(assignEach [c] X.env).map (·.2)=[assign c X.env]:=by rfl):PS X (.Assign [c] e A) (zda l g):=by
 intro b s σ H D I h;refine wpAny_Assign_stores (thn (C b s σ H _ I h) λv s1 ⟨x,w,B,J,G⟩=>?_) hs E
 rw[h1];exact thn (hg b s1 σ w x v _ B J G) λ_ s2 q=>q
theorem zG{i:Nat}{x:Str}{e:Expr}{g:TE}{b:Pos}(C:X.N.Nodup)(J:X.N[i]? =some x)(hx:Loc X.env.scope x)(E:PE X e g)(hs:swapsWith e (some (.Name x b)) A.line X.env=pure false:=by rfl)(G:X.fn x=true\/X.env.scope.names.lookup x=some .local:=by first| exact .inl rfl | exact .inr rfl | assumption) :
  PS X (.Assign [.Name x b] e A) (zda g (xb i)):=by
 intro c s σ H D I h;refine wpAny_Assign_Name (thn (E c s σ H _ I h) λv s1 ⟨y,l,w,M,L⟩=>?_) hs
 exact yn w C J hx M (λs2 B=>{_,l,B,L}) G
def zmv(i j:Nat)(c:TA):TS:=λD σ H=>c σ H λg b=>zml g b λv w b=>D.nx ((σ.set i (some v)).set j (some w)) b
theorem Jv{i j:Nat}{x y:Str}{a b:Expr}{ta:TA}{N O M:Pos}{L J l}(hc:X.calm=true)(hN:X.N.Nodup)(hi:X.N[i]? =some x)(hj:X.N[j]? =some y)(E:i≠j)
  (hx:X.env.scope.names.lookup x=some .local) (hy:X.env.scope.names.lookup y=some .local) (ha:PA X [a,b] ta)
  (hw:swappedStores [.Tuple [.Name x N,.Name y O] L M] (.Tuple [a,b] J l) X.env=pure (some [x,y]))
  (hs:swapsWithSole [.Tuple [.Name x N,.Name y O] L M] (.Tuple [a,b] J l) A.line X.env=pure false:=by rfl) :
  PS X (.Assign [.Tuple [.Name x N,.Name y O] L M] (.Tuple [a,b] J l) A) (zmv i j ta):=by
 intro g s σ H D I h;rw[exec_Assign_arm];refine zk (wP ?_)
 rw[hs];refine zk (zx ?_)
 rw[zw 1e1]
 refine zk (Tuple_ (thn (ha _ g s σ H _ I h) λus s1 ⟨vs,U,I1,r1,Q⟩=>?_))
 obtain⟨v,w,e1,Q⟩:=Q;subst e1;obtain⟨B,C,rfl,rv,T⟩:∃B C,us=[B,C]/\RelV v B/\RelV w C:=by
  cases r1 with
  | cons p q=>
   cases q with
   | cons p' q'=>
    cases q';exact{_,_,rfl,p,p'}
 refine wz ?_ (by show 2<=sizeLine;decide)
 have I2:Inv X g σ U { s1 with heap:=s1.heap.push { cls:=.type "tuple",data:=.seq [B,C].toArray } }:=I1.kept (t':=s1.toks) λb o e=>qX _ e
 rw[hw];refine zk (zx ?_)
 show wpAny 0#b X.A (do rule "assign.swapped-stores";let c<-unpackItems (.ref s1.heap.objs.size) 2 none;assignInOrder [λv=>bindName X.env y v,λv=>bindName X.env x v] c.reverse;pure Flow.next) _ _ _
 refine zk (wb (zk (unpackItems_tuple (items:=#[B,C]) (I.ok.hd hc) (IsTup.new s1.heap _) λh' G=>?_)))
 have I3:=I2.kept (h':=h') (t':=s1.toks) λb o e=>G b o (qV (zU e)) e
 show wpAny _ _ (assignInOrder [λv=>bindName X.env y v,λv=>bindName X.env x v] [C,B] >>= λ_=>pure Flow.next) _ _ _
 refine zk (assignInOrder_cons (wpAny_bindName (yn I3 hN hj (.inl hy) T (λs2 I4=>?_) (.inr hy))))
 refine assignInOrder_cons (wpAny_bindName (yn I4 hN hi (.inl hx) rv (λs3 Y=>assignInOrder_nil (zx ?_)) (.inr hx)))
 rw[List.set_comm _ _ (qD E)] at Y;exact{_,U,Y,Q}
def zmE(i:Nat)(g:TE)(l:TIp):TS:=λD σ H=>∃x,σ[i]? =some (some x)/\g σ H λy b=>l x y b λz c=>D.nx (σ.set i (some z)) c
theorem zjk{i:Nat}{x:Str}{e:Expr}{J:TE}{C:Operator}{L:TIp}{B:Pos}(U:X.N.Nodup)(G:X.N[i]? =some x)(hx:Loc X.env.scope x)(Y:PE X e J)(ho:PIp X C L)(hf:X.fn x=true\/X.env.scope.names.lookup x=some .local:=by first| exact .inl rfl | exact .inr rfl | assumption) :
  PS X (.AugAssign (.Name x B) C e A) (zmE i J L):=by
 intro b s σ H D I h;obtain⟨v,e1,h⟩:=h;obtain⟨m,hn,hl⟩:=I.loc;have E:Vis X.env.scope x:=by rcases hx with k | k;exact .inl k;exact .inr (.inl k)
 obtain⟨u,r,l⟩:=hl i x v G e1 E;refine wpAny_AugAssign_Name ?_
 have go:wpAny 0#b X.A (eval e X.env) (λw s₂=>wpAny 0#b X.A (inplaceOp C u w) (λr s₃=>wpAny 0#b X.A (storeName X.env x r) (λ_=>SP X b D .next) X.xe s₃) X.xe s₂) X.xe s:=by
  refine thn (Y b s σ H _ I h) λw s1 ⟨y,M,O,r1,q1⟩=>?_
  refine thn (ho b s1 σ M v y u w _ O r r1 q1) λz s2 ⟨zv,N,Q,r2,q2⟩=>?_
  exact yn Q U G hx r2 (λs3 T=>{_,N,T,q2}) hf
 rcases l with ⟨hk,hm⟩ | ⟨hk,c,hc,g⟩
 .exact wpAny_loadName_local I.ok.kind hk hn hm go
 .rcases hk with hk | hk
  .exact wpAny_loadName_cell I.ok.kind hk hc g go
  .rcases hx with k | k
   .have:X.env.scope.names.lookup x=some .free:=hk
    rw[k] at this;cases this
   .have:X.env.scope.names.lookup x=some .free:=hk
    rw[k] at this;cases this
def zku(to I G:TE)(b:V->V->Hp->VK->Prop)(g:TIp)(c:zgx):TS:=λD σ H=>to σ H λo l=>I σ l λi s=>b o i s λx w=>G σ w λy B=>g x y B λz C=>c o i z C λE=>D.nx σ E
def zmb(X:Cx)(t:V->V->Hp->VK->Prop):Prop:=
 ∀(b:List 0#l) (s:Shared) (σ:St) (H:Hp) (o i:V) (g c:Value) (Q:VK),Inv X b σ H s->RelV o g->RelV i c->t o i H Q ->
  wpAny 0#b X.A (getItem g c) (EP X b σ Q) X.xe s
theorem zgP{o i e:Expr}{to O N:TE}{g:V->V->Hp->VK->Prop}{C:TIp}{l:zgx}{J:Operator}{E:Pos}(ho:PE X o to)(hi:PE X i O)(hg:zmb X g)(he:PE X e N)(hp:PIp X J C)(hs:zkf X l)
  (ha:∀B w c,augStore i B w c=(do holding [c,B,w] (setItem B w c);release [c,B,w] [];pure .next):=by intros;rfl):PS X (.AugAssign (.Subscript o i E) J e A) (zku to O N g C l):=by
 intro b s σ H D I h;refine wpAny_AugAssign_SubscriptAny (thn (ho b s σ H _ I h) λB s1 ⟨Q,U,I1,L,q1⟩=>?_) ha
 refine thn (hi b s1 σ U _ I1 q1) λw s2 ⟨T,Y,I2,M,q2⟩=>?_
 refine thn (hg b s2 σ Y Q T B w _ I2 L M q2) λG s3 ⟨x3,H3,I3,r3,q3⟩=>?_
 refine thn (he b s3 σ H3 _ I3 q3) λv s4 ⟨x4,H4,I4,r4,q4⟩=>?_
 refine thn (hp b s4 σ H4 x3 x4 G v _ I4 r3 r4 q4) λc s5 ⟨x5,H5,I5,r5,q5⟩=>?_
 exact thn (hs b s5 σ H5 Q T x5 B w c _ I5 L M r5 q5) λ_ s6 ⟨H6,I6,q6⟩=>⟨σ,H6,I6,q6⟩
inductive ipI(f:Int->Int->Int)(x:V)(y:V)(H:Hp)(Q:VK):Prop
 | mk (i j:_) (_:x=.int i) (_:y=.int j) (_:Q (.int (f i j)) H):ipI f x y H Q
theorem zfV:PIp X .Add (ipI λi j=>i+j):=by
 intro b s σ H x y v u Q I c g h;obtain⟨i,j,e1,e2,q⟩:=h;subst e1;subst e2
 obtain⟨t,rfl⟩:=c;obtain⟨l,rfl⟩:=g;exact iadd_int {.int _,H,I.tok _,{_,rfl},q}
def ziX(c:TT)(B:TS):TS:=λD σ H=>∃W:Nat->St->Hp->Prop,(∃m,W m σ H)/\∀m σ H,W m σ H ->
 c σ H λb l=>if b=true then ∃N:St->Hp->Prop,(∀w g,N w g->∃s,s<m/\W s w g)/\B { D with nx:=N,ct:=N,bk:=D.nx } σ l else D.nx σ l
theorem Ym{c:Expr}{body:List Stmt}{tc:TT}{tb:TS}(hp:PassesOwn 0#b X.A X.env X.xe)(hc:PT X c tc)(hb:PSs X body tb):PS X (.While c body [] A) (ziX tc tb):=by
 intro g s σ H D I h;obtain⟨W,⟨m0,w0⟩,w⟩:=h;refine wpAny_While (codeAny_whileLoop (λn s'=>∃σ' T,Inv X g σ' T s'/\W n σ' T) ?_ m0 ⟨σ,H,I,w0⟩)
 rintro n s1 ⟨G,U,I1,w1⟩;refine Zy hp (thn (hc g s1 G U _ I1 (w n G U w1)) λb s2 ⟨Y,I2,C⟩=>?_)
 cases b with
 | true=>
  obtain⟨N,hN,C⟩:=C;rw[zC rfl];refine Zy hp (thn (hb g s2 G Y _ I2 C) λf s3 E=>?_)
  cases f with
  | next=>
   obtain⟨B,l,J,O⟩:=E;obtain⟨M,L,Q⟩:=hN B l O;exact⟨M,L,B,l,J,Q⟩
  | cont=>
   obtain⟨B,l,J,O⟩:=E;obtain⟨M,L,Q⟩:=hN B l O;exact⟨M,L,B,l,J,Q⟩
  | brk=>exact E
  | ret v=>exact E
 | false=>
  rw[zw qS];exact wpAny_execs_nil ⟨G,Y,I2,C⟩
end
structure It where
 go:Nat->Hp->Prop
 yld:Nat->Hp->V->Hp->Prop
 stop:Nat->Hp->Prop
def vc(X:Cx)(g:List (Addr×Obj))(H:Hp)(b:Addr):Prop:=
 H b=none/\b≠X.env.locals/\b∉X.fs/\(b∈X.ex\/X.s₀.heap.objs.size<=b)/\(∀x c,X.env.cells.lookup x=some c->c≠b)/\∀p∈X.pn++g,p.1≠b
theorem Inv.fpOk{X:Cx}{g:List (Addr×Obj)}{σ:St}{H l:Hp}{s:Shared}{b:Addr}(I:Inv X g σ H s)(hb:s.heap.objs.size<=b)(w:l b=none):vc X g l b:=by
 refine{w,vL (xJ I.lt hb),I.nofs hb,.inr (jN I.sz hb),λx c e z=>?_,λp hp z=>?_}
 .obtain⟨v,q⟩:=I.cell x c e
  exact absurd (xJ q.lt (by rw[z];exact hb)) (wj _)
 .exact absurd (xJ (zU (I.pin p hp).1) (by rw[z];exact hb)) (wj _)
structure ZF(P:Program)(w:World)(K:W.Frag)(tg:Expr)(J:It)(fp:List Addr)(it:Addr)(tn:Nat->Heap->Prop):Prop where
 mem:it∈fp
 obj:∀i h,tn i h->∀b∈fp,∃o,h.get? b=some o/\∀v,o.data≠.cell v
 keep:∀i h h',tn i h->(∀b∈fp,∀o,h.get? b=some o->h'.get? b=some o)->tn i h'
 item:∀(X:Cx),X.prog=P->X.w=w->X.K=K->X.calm=true->∀(i:Nat) (pins:List 0#l) (s:Shared) (σ:St) (H:Hp) (E:Value->Shared->Prop),Inv X pins σ H s->(∀b∈fp,vc X pins H b)->tn i s.heap->J.go i H ->
  wpAny (model P w) X.A (pyNext (.ref it)) (λr s1=>∃u,r=some u /\
   wpAny (model P w) X.A (letOwnedTupleGo tg (.ref it) u) (λ_ s2=>∃x H',Inv X pins σ H' s2/\RelV x u/\J.yld i H x H'/\tn (i+1) s2.heap/\∀b∈fp,H' b=none) E s1) E s
 done:∀(X:Cx),X.prog=P->X.w=w->X.K=K->X.calm=true->∀(i:Nat) (pins:List 0#l) (s:Shared) (σ:St) (H:Hp) (E:Value->Shared->Prop),Inv X pins σ H s->(∀b∈fp,vc X pins H b)->tn i s.heap->J.stop i H ->
  wpAny (model P w) X.A (pyNext (.ref it)) (λr s1=>r=none/\Inv X pins σ H s1) E s
 self:∀(A:Around) (i:Nat) (s:Shared) (Q:Value->Shared->Prop) (E:Value->Shared->Prop),tn i s.heap->Q (.ref it) s->wpAny (model P w) A (pyIter (.ref it)) Q E s
abbrev TI:=St->Hp->(It->Hp->Prop)->Prop
def PIE(X:Cx)(c:List (Addr×Obj))(σ:St)(B:Expr)(R:It->Hp->Prop)(l:Value)(s2:Shared):Prop:=
 ∃(w:Addr) (s:List Addr) (A:Nat->Heap->Prop) (J:It) (g:Hp),l=.ref w/\Inv X c σ g s2/\ZF X.prog X.w X.K B J s w A/\A 0 s2.heap/\(∀b∈s,vc X c g b)/\R J g
def PI(X:Cx)(g c:Expr)(l:TI):Prop:=
 ∀(b:List 0#l) (s:Shared) (σ:St) (H:Hp) (R:It->Hp->Prop),Inv X b σ H s->l σ H R ->
  wpAny 0#b X.A (eval c X.env) (λv s1=>wpAny 0#b X.A (pyIter v) (PIE X b σ g R) X.xe s1) X.xe s
theorem zcu{M:Model}{A:Around}{E:Value->Shared->Prop}{s:Shared}{g:Expr}{c:Addr}{u:Value}{o:Obj}{n:String}{l:Array Value}{Q:Unit->Shared->Prop}(B:s.heap.get? c=some o)(hc:o.cls=.type n)(hd:o.data=.fields l)
  (w:["enumerate", "zip", "dict_itemiterator", "dict_reverseitemiterator", "odict_iterator", "itertools.zip_longest", "itertools.pairwise"].contains n=false) (b:Q Unit.unit s):wpAny M A (letOwnedTupleGo g (.ref c) u) Q E s:=by
 unfold letOwnedTupleGo;cases g<;>first
  | exact zx b
  | (cases u<;>first
    | exact zx b
    | (refine zk (wpAny_load B ?_)
       rw[hc,hd];show wpAny M A (if(["enumerate", "zip", "dict_itemiterator", "dict_reverseitemiterator", "odict_iterator", "itertools.zip_longest", "itertools.pairwise"].contains n&&l[0]? ==some (rawInt _))=true then _ else _) Q E s
       rw[zw (by intro h;rw[w,Bool.false_and] at h;cases h)]
       exact zx b))
def Itl(K:W.Frag)(a:Addr):It:=
 {λi H=>∃b x,SqL K H a b/\b[i]? =some x,λi H x c=>c=H/\∀b,SqL K H a b->b[i]? =some x,λi H=>∃b,SqL K H a b/\b.length<=i}
def Itt(K:W.Frag)(a:Addr):It:=
 {λi H=>∃b x,SqT K H a b/\b[i]? =some x,λi H x c=>c=H/\∀b,SqT K H a b->b[i]? =some x,λi H=>∃b,SqT K H a b/\b.length<=i}
def Itr(lo:Int)(n:Nat):It:={λi _=>i<n,λi H x b=>b=H/\x=.int (lo+i),λi _=>n<=i}
theorem XU{P:Program}{w:World}{K:W.Frag}{tg:Expr}(a l:Addr):ZF P w K tg (Itl K a) [l] l (λi h=>h.IsListIter l a i) where
 mem:=1e3
 obj:=λi h st b hb=>by
  have e:b=l:=by simpa using hb
  subst e;obtain⟨o,e,c,d⟩:=st;exact{o,e,λv z=>by rw[d] at z;cases z}
 keep:=λi h B st k=>st.at λo e=>k l 1e3 o e
 item:=by
  intro X O Q N hc i g s σ H E I C st hg;subst O Q N;obtain⟨xs,x,hq,hx⟩:=hg;obtain⟨T,U,p,hz⟩:=I.list hq;obtain⟨u,hu,ru⟩:=U.get hx;obtain⟨D,G,f2,J,L,M⟩:=C l 1e3
  refine wpAny_pyNext_list_item st p.isList (x:=u) (by simpa using hu) λB A sb=>?_
  have Y:Inv X g σ H { s with heap:=B }:=I.turned (t':=s.toks) (λb o hb e=>(sb.2 b hb).trans e) D G J L M
  obtain⟨o,e,c,d⟩:=id A;exact{u,rfl,zcu (s:={ s with heap:=B }) e c d 1e1 {x,H,Y,ru,{rfl,λys hy=>by rw[I.list_inj hy hq];exact hx},A,λb hb=>(C b hb).1}}
 done:=by
  intro X O Q N hc i g s σ H E I C st hg;subst O Q N;obtain⟨xs,hq,hx⟩:=hg;obtain⟨T,U,p,hz⟩:=I.list hq;obtain⟨D,G,f2,J,L,M⟩:=C l 1e3
  have hl:=U.length;exact wpAny_pyNext_list_end (I.ok.hd hc) st p.isList (by simp;omega) λB eb=>{rfl,I.turned (t':=s.toks) (λb o hb e=>eb b o hb e) D G J L M}
 self:=λ_ _ _ _ _ st h=>wpAny_pyIter_listiter st h
theorem Jn{P:Program}{w:World}{K:W.Frag}{tg:Expr}(a l:Addr):ZF P w K tg (Itt K a) [l] l (λi h=>h.IsTupleIter l a i) where
 mem:=1e3
 obj:=λi h st b hb=>by
  have e:b=l:=by simpa using hb
  subst e;obtain⟨o,e,c,d⟩:=st;exact{o,e,λv z=>by rw[d] at z;cases z}
 keep:=λi h C st k=>st.at λo e=>k l 1e3 o e
 item:=by
  intro X Q T O hc i g s σ H E I D st hg;subst Q T O;obtain⟨xs,x,hq,hx⟩:=hg;obtain⟨A,U,p,hz⟩:=I.tuple hq;obtain⟨u,hu,ru⟩:=U.get hx;obtain⟨G,J,f2,L,M,N⟩:=D l 1e3
  refine wpAny_pyNext_tuple_item st (show s.heap.IsTuple a A.toArray from p) (x:=u) (by simpa using hu) λC B sb=>?_
  have Y:Inv X g σ H { s with heap:=C }:=I.turned (t':=s.toks) (λb o hb e=>(sb.2 b hb).trans e) G J L M N
  obtain⟨o,e,c,d⟩:=id B;exact{u,rfl,zcu (s:={ s with heap:=C }) e c d 1e1 {x,H,Y,ru,{rfl,λys hy=>by rw[I.tuple_inj hy hq];exact hx},B,λb hb=>(D b hb).1}}
 done:=by
  intro X Q T O hc i g s σ H E I D st hg;subst Q T O;obtain⟨xs,hq,hx⟩:=hg;obtain⟨A,U,p,hz⟩:=I.tuple hq;obtain⟨G,J,f2,L,M,N⟩:=D l 1e3
  have hl:=U.length;exact wpAny_pyNext_tuple_end (I.ok.hd hc) st (show s.heap.IsTuple a A.toArray from p) (by simp;omega) λC eb=>{rfl,I.turned (t':=s.toks) (λb o hb e=>eb b o hb e) G J L M N}
 self:=λ_ _ _ _ _ st h=>wpAny_pyIter_tupleiter st h
theorem Y7{P:Program}{w:World}{K:W.Frag}{tg:Expr}(c:Addr)(lo:Int)(n:Nat):ZF P w K tg (Itr lo n) [c] c (λi h=>IsRangeIter h c (lo+(i:Nat)*1) ((n:Int)-(i:Nat)) 1) where
 mem:=1e3
 obj:=λi h st b hb=>by
  have e:b=c:=by simpa using hb
  subst e;exact{_,st,λv z=>by
   have z':Data.fields _=Data.cell v:=z;cases z'}
 keep:=λi h A st k=>k c 1e3 _ st
 item:=by
  intro X N O M hc i g s σ H E I B st hg;subst N O M;obtain⟨C,D,f2,G,J,L⟩:=B c 1e3
  have W:=Walks.range (prog:=X.prog) (w:=X.w) (I.ok.hd hc) c lo 1 n;refine W.item i s _ _ hg st λv A T hv l kk=>?_
  obtain⟨t,rfl⟩:=hv;have U:Inv X g σ H { s with heap:=A,toks:=T }:=I.turned (λb o hb e=>kk b o (by simpa using hb) e) C D G J L
  refine{_,rfl,zcu (s:={ s with heap:=A,toks:=T }) (n:= "range_iterator") l rfl rfl 1e1 {.int (lo+i),H,U,{t,?_},⟨rfl,rfl⟩,l,λb hb=>(B b hb).1}}
  rw[Int.mul_one]
 done:=by
  intro X N O M hc i g s σ H E I B st hg;subst N O M;obtain⟨C,D,f2,G,J,L⟩:=B c 1e3
  exact wpAny_pyNext_range_end (I.ok.hd hc) st (by have:n<=i:=hg;omega) λA Y=>{rfl,I.turned (t':=s.toks) (λb o hb e=>Y b o hb e) C D G J L}
 self:=λ_ _ _ _ _ st h=>wpAny_pyIter_rangeiter st h
section
variable{X:Cx}{c:Expr}
inductive InL(K:W.Frag)(x:V)(H:Hp)(R:It->Hp->Prop):Prop
 | mk (a:Addr) (h:x=.ref a) (e:∃b,SqL K H a b) (r:R (Itl K a) H):InL K x H R
inductive InT(K:W.Frag)(x:V)(H:Hp)(R:It->Hp->Prop):Prop
 | mk (a:Addr) (h:x=.ref a) (e:∃b,SqT K H a b) (r:R (Itt K a) H):InT K x H R
def ziO(K:W.Frag)(g:TE):TI:=λσ H R=>g σ H λx b=>InL K x b R
def zl0(K:W.Frag)(g:TE):TI:=λσ H R=>g σ H λx b=>InT K x b R
theorem zZ{l:Expr}{A:TE}(C:PE X l A):PI X c l (ziO X.K A):=by
 intro g s σ H R I h;refine thn (C g s σ H _ I h) λv s1 ⟨x,B,w,G,E⟩=>?_
 obtain⟨a,e,⟨M,hq⟩,q⟩:=E;subst e;cases G;obtain⟨D,J,p,hz⟩:=w.list hq;refine wpAny_pyIter_list p.isList ?_
 refine{s1.heap.objs.size,[s1.heap.objs.size],_,_,B,rfl,w.kept (t':=s1.toks) λb o e=>qX _ e,XU a _,{_,qQ _ rfl,rfl,rfl},λb hb=>?_,q}
 have e:b=s1.heap.objs.size:=by simpa using hb
 subst e;exact w.fpOk (zF _) (w.hok.fresh (zF _))
theorem xO{l:Expr}{B:TE}(D:PE X l B):PI X c l (zl0 X.K B):=by
 intro g s σ H R I h;refine thn (D g s σ H _ I h) λv s1 ⟨x,C,w,G,E⟩=>?_
 obtain⟨a,e,⟨M,hq⟩,q⟩:=E;subst e;cases G;obtain⟨A,J,p,hz⟩:=w.tuple hq;refine wpAny_pyIter_tuple (show s1.heap.IsTuple a A.toArray from p) ?_
 refine{s1.heap.objs.size,[s1.heap.objs.size],_,_,C,rfl,w.kept (t':=s1.toks) λb o e=>qX _ e,Jn a _,{_,qQ _ rfl,rfl,rfl},λb hb=>?_,q}
 have e:b=s1.heap.objs.size:=by simpa using hb
 subst e;exact w.fpOk (zF _) (w.hok.fresh (zF _))
theorem zfb{l:List (Addr×Obj)}{σ:St}{H:Hp}{s:Shared}{R:It->Hp->Prop}{E:Value->Shared->Prop}{lo g:Int}{t u v:Tok}{A:Nat}(I:Inv X l σ H s)(h1:-(2^62)<=lo)(h2:lo<2^62)(B:-(2^62)<=g)(C:g<2^62)
  (q:R (Itr lo (g-lo).toNat) H):wpAny 0#b X.A (pyIter (.ref s.heap.objs.size)) (PIE X l σ c R) E { s with heap:=s.heap.push { cls:=.type "range",data:=.fields #[.int lo t,.int g u,.int 1 v] },toks:=A }:=by
 refine wpAny_pyIter_range (IsRange.new ..) (small_one h1 h2 B C) ?_
 have w:Inv X l σ H { s with heap:=s.heap.push { cls:=.type "range",data:=.fields #[.int lo t,.int g u,.int 1 v] },toks:=A }:=I.kept λb o e=>qX _ e
 refine{(s.heap.push { cls:=.type "range",data:=.fields #[.int lo t,.int g u,.int 1 v] }).objs.size,[(s.heap.push { cls:=.type "range",data:=.fields #[.int lo t,.int g u,.int 1 v] }).objs.size],_,_,H,rfl,
  w.kept (t':=A) λb o e=>qX _ e,Y7 _ lo (g-lo).toNat,?_,λb hb=>?_,q}
 .have e1:lo+((0:Nat):Int)*1=lo:=1e3
  have e2:(((g-lo).toNat:Nat):Int)-((0:Nat):Int)=Builtin.Range.rangeSize lo g 1:=by rw[rangeSize_one];split<;>omega
  show IsRangeIter _ _ (lo+((0:Nat):Int)*1) ((((g-lo).toNat:Nat):Int)-((0:Nat):Int)) 1;rw[e1,e2];exact qQ _ rfl
 .have e:b=(s.heap.push { cls:=.type "range",data:=.fields #[.int lo t,.int g u,.int 1 v] }).objs.size:=by simpa using hb
  subst e;exact w.fpOk (zF _) (w.hok.fresh (zF _))
inductive zmm(b:List V)(H:Hp)(R:It->Hp->Prop):Prop
 | mk (j:Int) (h:b=[.int j]) (h1:-(2^62)<=j) (h2:j<2^62) (r:R (Itr 0 j.toNat) H):zmm b H R
def zl1(g:TA):TI:=λσ H R=>g σ H λl b=>zmm l b R
theorem jS{a:Expr}{w:TA}{p g:Pos}(hg:Gl X "range")(C:X.mg "range" = none)(B:PA X [a] w)(hs:starEach [a] X.env=[(false,eval a X.env)]:=by rfl):PI X c (.Call (.Name "range" p) [a] [] g) (zl1 w):=by
 intro b s σ H R I h;refine Call_ (wE I hg C boot_range (J9 (thn (B g b s σ H _ I h) λL s1 ⟨M,J,A,E,l⟩=>?_) hs rfl))
 obtain⟨j,e,l,D,q⟩:=l;subst e;cases E with
 | cons r G=>
  cases G;obtain⟨t,rfl⟩:=r;exact call_range_1 (zfb A () () l D (by simpa using q))
def zmB(C:TI)(g:TG)(B:TS):TS:=λD σ H=>C σ H λJ w=>∃W:Nat->Nat->St->Hp->Prop,(∃m,W 0 m σ w)/\∀i m σ H,W i m σ H ->
 (J.stop i H/\D.nx σ H)\/(J.go i H/\∃N:St->Hp->Prop,(∀s b,N s b->∃l,l<m/\W (i+1) l s b)/\∀x b,J.yld i H x b->g x σ b λE A=>B { D with nx:=N,ct:=N,bk:=D.nx } E A)
def ju(g:List Addr)(h:Heap):List 0#l:=g.filterMap λb=>(h.get? b).map λo=>(b,o)
theorem jW{g:List Addr}{h:Heap}{b:Addr}{o:Obj}(hb:b∈g)(e:h.get? b=some o):(b,o)∈ju g h:=za0.mpr {b,hb,by rw[e];rfl}
theorem wL{g:List Addr}{h:Heap}{p:Addr×Obj}(hp:p∈ju g h):p.1∈g/\h.get? p.1=some p.2:=by
 obtain⟨b,hb,e⟩:=za0.mp hp;cases q:h.get? b with
 | none=>rw[q] at e;cases e
 | some o=>
  rw[q] at e;have l:(b,o)=p:=jC e;subst l;exact⟨hb,q⟩
theorem Inv.pinned{g:List (Addr×Obj)}{σ:St}{H:Hp}{s:Shared}{fp:List Addr}(I:Inv X g σ H s)(C:∀b∈fp,vc X g H b)(D:∀b∈fp,∃o,s.heap.get? b=some o/\∀v,o.data≠.cell v):Inv X (g++ju fp s.heap) σ H s:=
 I.pins_of λp hp=>(zV.mp hp).elim (λz=>I.pin p (qW _ z)) λz=>by
  obtain⟨hb,e⟩:=wL z;obtain⟨w,A,B,_⟩:=C p.1 hb;obtain⟨o,l,d⟩:=D p.1 hb;rw[e] at l;cases l
  exact⟨e,w,A,B,d⟩
theorem Inv.unpinned{b g:List 0#l}{σ:St}{H:Hp}{s:Shared}(I:Inv X (b++g) σ H s):Inv X b σ H s:=I.pins_of λp hp=>I.pin p (qW _ (qw _ hp))
theorem jh{B:Expr}{body:List Stmt}{wi:TI}{g:TG}{tb:TS}{ac:Pos}(hp:PassesOwn 0#b X.A X.env X.xe)(hc:X.calm=true)(hi:PI X c B wi)(hg:PG X c g)(hb:PSs X body tb)
  (hs:∀x,foldedSetIterable B X.env x=pure x:=by intro _;rfl):PS X (.For c B body [] ac) (zmB wi g tb):=by
 intro l s σ H D I h;refine wpAny_For (thn (hi l s σ H _ I h) λv s1 h1=>thn h1 λaf s2 h2=>?_) hs
 obtain⟨it,O,tn,J,H2,e,I2,T,ae,f2,W,⟨m0,w0⟩,a0⟩:=h2;subst e;have C:∀{G:Hp},(∀b∈O,G b=none)->∀b∈O,vc X l G b:=λhn b hb=>{hn b hb,(f2 b hb).2}
 refine codeAny_forLoop_any (λn s'=>∃i σ' G,Inv X l σ' G s'/\tn i s'.heap/\(∀b∈O,G b=none)/\W i n σ' G) ?_ m0 {0,σ,H2,I2,ae,λb hb=>(f2 b hb).1,w0}
 rintro n s3 ⟨i,σ3,H3,I3,Y,Q,w3⟩;rcases a0 i n σ3 H3 w3 with ⟨stop,qn⟩ | ⟨go,N,hN,step⟩
 .refine Zy hp (thn (T.done X rfl rfl rfl hc i l s3 σ3 H3 X.xe I3 (C Q) Y stop) λr s4 ⟨hr,I4⟩=>?_)
  subst hr;exact wpAny_execs_nil ⟨σ3,H3,I4,qn⟩
 .refine Zy hp (thn (T.item X rfl rfl rfl hc i l s3 σ3 H3 X.xe I3 (C Q) Y go) λr s4 ⟨u,hr,h4⟩=>?_)
  subst hr;refine Zy hp (thn h4 λ_ s5 ⟨x,H5,I5,r5,y5,M,ab⟩=>?_)
  have aa:=I5.pinned (C ab) (T.obj _ _ M);refine Zy hp (thn (hg _ s5 σ3 H5 x u _ aa r5 (step x H5 y5)) λ_ s6 ⟨σ6,H6,I6,q6⟩=>?_)
  refine Zy hp (thn (hb _ s6 σ6 H6 _ I6 q6) λf s7 L=>?_)
  have again:∀{E:St} {w:Hp},Inv X (l++ju O s5.heap) E w s7->N E w->∃m,m<n/\∃i σ' G,Inv X l σ' G s7/\tn i s7.heap/\(∀b∈O,G b=none)/\W i m σ' G:=λ{E w} A U=>by
   obtain⟨m',hm,w7⟩:=hN E w U;refine{m',hm,i+1,E,w,A.unpinned,T.keep _ _ _ M λb hb o e=>(A.pin (b,o) (qW _ (qW _ (jW hb e)))).1,λb hb=>?_,w7}
   obtain⟨o,e,d⟩:=T.obj _ _ M b hb;exact(A.pin (b,o) (qW _ (qW _ (jW hb e)))).2.1
  cases f with
  | next=>obtain⟨E,w,A,U⟩:=L;exact again A U
  | cont=>obtain⟨E,w,A,U⟩:=L;exact again A U
  | brk=>obtain⟨E,w,A,L⟩:=L;exact⟨E,w,A.unpinned,L⟩
  | ret v=>obtain⟨x7,E,w,A,r7,L⟩:=L;exact⟨x7,E,w,A.unpinned,r7,L⟩
end
theorem xF{K:W.Frag}{a:Addr}{xs:List V}{g:TG}{B:TS}{D:XM}{σ:St}{H:Hp}(Pv:Nat->St->Hp->Prop)(h0:Pv 0 σ H)(E:∀i σ H,i<=xs.length->Pv i σ H->SqL K H a xs)
  (hs:∀i x σ H,xs[i]? =some x->Pv i σ H->g x σ H λw l=>B { D with nx:=Pv (i+1),ct:=Pv (i+1),bk:=D.nx } w l) (hd:∀σ H,Pv xs.length σ H->D.nx σ H) :
  ∃W:Nat->Nat->St->Hp->Prop,(∃m,W 0 m σ H)/\∀i m σ H,W i m σ H ->
   ((Itl K a).stop i H/\D.nx σ H)\/((Itl K a).go i H/\∃N:St->Hp->Prop,(∀s b,N s b->∃A,A<m/\W (i+1) A s b)/\∀x b,(Itl K a).yld i H x b->g x σ b λw l=>B { D with nx:=N,ct:=N,bk:=D.nx } w l):=by
 fail"b"
 rintro i m σ H ⟨rfl,C,p⟩;have q:=E i σ H C p;by_cases c:i<xs.length
 .refine .inr {{xs,xs[i],q,by simp[c]},Pv (i+1),λs b G=>{xs.length-(i+1),(),rfl,c,G},λx b y=>?_}
  obtain⟨e,y⟩:=y;subst e;exact hs i x σ _ (y xs q) p
 .have e:i=xs.length:=()
  subst e;exact .inl {{xs,q,zF _},hd σ H p}
theorem Jf{K:W.Frag}{a:Addr}{xs:List V}{g:TG}{B:TS}{D:XM}{σ:St}{H:Hp}(Pv:Nat->St->Hp->Prop)(h0:Pv 0 σ H)(E:∀i σ H,i<=xs.length->Pv i σ H->SqT K H a xs)
  (hs:∀i x σ H,xs[i]? =some x->Pv i σ H->g x σ H λw l=>B { D with nx:=Pv (i+1),ct:=Pv (i+1),bk:=D.nx } w l) (hd:∀σ H,Pv xs.length σ H->D.nx σ H) :
  ∃W:Nat->Nat->St->Hp->Prop,(∃m,W 0 m σ H)/\∀i m σ H,W i m σ H ->
   ((Itt K a).stop i H/\D.nx σ H)\/((Itt K a).go i H/\∃N:St->Hp->Prop,(∀s b,N s b->∃A,A<m/\W (i+1) A s b)/\∀x b,(Itt K a).yld i H x b->g x σ b λw l=>B { D with nx:=N,ct:=N,bk:=D.nx } w l):=by
 fail"b"
 rintro i m σ H ⟨rfl,C,p⟩;have q:=E i σ H C p;by_cases c:i<xs.length
 .refine .inr {{xs,xs[i],q,by simp[c]},Pv (i+1),λs b G=>{xs.length-(i+1),(),rfl,c,G},λx b y=>?_}
  obtain⟨e,y⟩:=y;subst e;exact hs i x σ _ (y xs q) p
 .have e:i=xs.length:=()
  subst e;exact .inl {{xs,q,zF _},hd σ H p}
theorem xo{lo:Int}{n:Nat}{g:TG}{B:TS}{D:XM}{σ:St}{H:Hp}(Pv:Nat->St->Hp->Prop)(h0:Pv 0 σ H)
  (hs:∀i σ H,i<n->Pv i σ H->g (.int (lo+i)) σ H λw l=>B { D with nx:=Pv (i+1),ct:=Pv (i+1),bk:=D.nx } w l) (hd:∀σ H,Pv n σ H->D.nx σ H) :
  ∃W:Nat->Nat->St->Hp->Prop,(∃m,W 0 m σ H)/\∀i m σ H,W i m σ H ->
   ((Itr lo n).stop i H/\D.nx σ H)\/((Itr lo n).go i H/\∃N:St->Hp->Prop,(∀s b,N s b->∃A,A<m/\W (i+1) A s b)/\∀x b,(Itr lo n).yld i H x b->g x σ b λw l=>B { D with nx:=N,ct:=N,bk:=D.nx } w l):=by
 refine{λi m σ H=>m=n-i/\i<=n/\Pv i σ H,{n,1e3,jv _,h0},?_}
 rintro i m σ H ⟨rfl,E,p⟩;by_cases c:i<n
 .refine .inr {c,Pv (i+1),λs b C=>{n-(i+1),(),rfl,c,C},λx b y=>?_}
  obtain⟨e,y⟩:=y;subst e y;exact hs i σ _ c p
 .have e:i=n:=()
  subst e;exact .inl {zF _,hd σ H p}
abbrev R2:=V->V->Hp->VK->Prop
def OpR(X:Cx)(f:Value->Value->Sem Value)(r:R2):Prop:=
 ∀(b:List 0#l) (s:Shared) (σ:St) (H:Hp) (x y:V) (v u:Value) (Q:VK),Inv X b σ H s->RelV x v->RelV y u->r x y H Q ->
  wpAny 0#b X.A (f v u) (EP X b σ Q) X.xe s
def UnR(X:Cx)(f:Value->Sem Value)(r:V->Hp->VK->Prop):Prop:=
 ∀(b:List 0#l) (s:Shared) (σ:St) (H:Hp) (x:V) (v:Value) (Q:VK),Inv X b σ H s->RelV x v->r x H Q ->
  wpAny 0#b X.A (f v) (EP X b σ Q) X.xe s
def xT(X:Cx)(f:Value)(r:List V->Hp->VK->Prop):Prop:=
 ∀(b:List 0#l) (s:Shared) (σ:St) (H:Hp) (g:List V) (c:List Value) (Q:VK),Inv X b σ H s->Vals g c->r g H Q ->
  wpAny 0#b X.A (call f c) (EP X b σ Q) X.xe s
def tOp(r:R2)(g l:TE):TE:=λσ H Q=>g σ H λx b=>l σ b λy c=>r x y c Q
def tUn(r:V->Hp->VK->Prop)(c:TE):TE:=λσ H Q=>c σ H λx b=>r x b Q
inductive rI(C:Int->Int->Prop)(g:Int->Int->V)(x:V)(y:V)(H:Hp)(Q:VK):Prop
 | mk (i j:_) (_:x=.int i) (_:y=.int j) (_:C i j) (_:Q (g i j) H):rI C g x y H Q
inductive rI0(g:Int->Int->V)(x:V)(y:V)(H:Hp)(Q:VK):Prop
 | mk (i j:_) (_:x=.int i) (_:y=.int j) (_:Q (g i j) H):rI0 g x y H Q
inductive rU(g:Int->V)(x:V)(H:Hp)(Q:VK):Prop
 | mk (i:_) (_:x=.int i) (_:Q (g i) H):rU g x H Q
section
variable{X:Cx}{a b c:Expr}{l A B:TE}{w:Pos}
theorem zka(J:PE X a l)(hb:PE X b A){g:List 0#l}{s:Shared}{σ:St}{H:Hp}{R:V->V->Hp->Prop}(I:Inv X g σ H s)
  (h:l σ H λx D=>A σ D λy C=>R x y C) {Q:Value->Shared->Prop} {f:Value->Value->Sem Value}
  (L:∀v u s2 x y C,Inv X g σ C s2->RelV x v->RelV y u->R x y C->wpAny 0#b X.A (f v u) Q X.xe s2) :
  wpAny 0#b X.A (eval a X.env) (λv U=>wpAny 0#b X.A (eval b X.env) (λu Y=>wpAny 0#b X.A (f v u) Q X.xe Y) X.xe U) X.xe s:=by
 refine thn (J g s σ H _ I h) λv s1 ⟨x,D,E,O,M⟩=>?_
 refine thn (hb g s1 σ D _ E M) λu s2 ⟨y,C,G,T,N⟩=>?_
 exact L v u s2 x y C G O T N
theorem zO{C:Operator}{r:R2}(J:OpR X (binaryOp C) r)(G:PE X a l)(hb:PE X b A):PE X (.BinOp a C b w) (tOp r l A):=by
 intro g s σ H Q I h;exact wpAny_BinOp (zka G hb I h λv u s2 x y D E L M q=>J g s2 σ D x y v u Q E L M q)
theorem zln{C:UnaryOp}{r:V->Hp->VK->Prop}(J:UnR X (unaryOp C) r)(G:PE X a l):PE X (.UnaryOp C a w) (tUn r l):=by
 intro g s σ H Q I h;exact UnaryOp_ (thn (G g s σ H _ I h) λv s1 ⟨x,D,E,M,L⟩=>J g s1 σ D x v Q E M L)
theorem opI{f:Value->Value->Sem Value}{C:Int->Int->Prop}{g:Int->Int->Int}
  (rule:∀(i j:Int) (t u:Tok) (s:Shared) (Q:Value->Shared->Prop) (E:Value->Shared->Prop),C i j->Q (.int (g i j) s.toks) { s with toks:=s.toks+1 }->wpAny 0#b X.A (f (.int i t) (.int j u)) Q E s) :
  OpR X f (rI C λi j=>.int (g i j)):=by
 intro D s σ H x y v u Q I G J h;obtain⟨i,j,rfl,rfl,hc,q⟩:=h;obtain⟨t,rfl⟩:=G;obtain⟨L,rfl⟩:=J;exact rule i j t L s _ _ hc {.int (g i j),H,I.tok _,{_,rfl},q}
theorem zlq{f:Value->Value->Sem Value}{g:Int->Int->Int}
  (rule:∀(i j:Int) (t u:Tok) (s:Shared) (Q:Value->Shared->Prop) (E:Value->Shared->Prop),Q (.int (g i j) s.toks) { s with toks:=s.toks+1 }->wpAny 0#b X.A (f (.int i t) (.int j u)) Q E s) :
  OpR X f (rI0 λi j=>.int (g i j)):=by
 intro C s σ H x y v u Q I D G h;obtain⟨i,j,rfl,rfl,q⟩:=h;obtain⟨t,rfl⟩:=D;obtain⟨J,rfl⟩:=G;exact rule i j t J s _ _ {.int (g i j),H,I.tok _,{_,rfl},q}
theorem zg4{f:Value->Value->Sem Value}{g:Int->Int->Bool}
  (rule:∀(i j:Int) (t u:Tok) (s:Shared) (Q:Value->Shared->Prop) (E:Value->Shared->Prop),Q (.bool (g i j)) s->wpAny 0#b X.A (f (.int i t) (.int j u)) Q E s) :
  OpR X f (rI0 λi j=>.bl (g i j)):=by
 intro C s σ H x y v u Q I D G h;obtain⟨i,j,rfl,rfl,q⟩:=h;obtain⟨t,rfl⟩:=D;obtain⟨J,rfl⟩:=G;exact rule i j t J s _ _ {.bl (g i j),H,I,rfl,q}
def zmo(i j:Int):Prop:=0<j/\j<1073741824
def zmR(i j:Int):Prop:=0<=j/\j<=1000000/\i.natAbs<2^64
def CMul(i j:Int):Prop:=(-(2^64)<i/\i<2^64)\/(-(2^64)<j/\j<2^64)
theorem CMul.ok{i j:Int}(h:CMul i j):IntMulOk i j:=by
 rcases h with ⟨h1,h2⟩ | ⟨h1,h2⟩
 .exact .of_left (intBits_le_64 h1 h2)
 .exact .of_right (intBits_le_64 h1 h2)
theorem jk:OpR X (binaryOp .Add) (rI0 λi j=>.int (i+j)):=zlq λ_ _ _ _ _ _ _ q=>add_int q
theorem vy:OpR X (binaryOp .Sub) (rI0 λi j=>.int (i-j)):=zlq λ_ _ _ _ _ _ _ q=>sub_int q
theorem vY:OpR X (binaryOp .Mult) (rI CMul λi j=>.int (i*j)):=opI λ_ _ _ _ _ _ _ hc q=>mul_int q hc.ok
theorem zce:OpR X (binaryOp .FloorDiv) (rI zmo λi j=>.int (i/j)):=opI λi j _ _ _ _ _ hc q=>by
 have h1:(0:Int)<j:=hc.1;have h2:j<1073741824:=hc.2;exact floordiv_int () (by rw[zgp i ()];exact q) (.inl (PyProof.noPylong_small ()))
theorem vJ:OpR X (binaryOp .Mod) (rI (λ_ j=>0<j) λi j=>.int (i % j)):=opI λi j _ _ _ _ _ hc q=>by
 have h1:(0:Int)<j:=hc;exact mod_int' () (by rw[zgo i ()];exact q)
theorem zjv:OpR X (binaryOp .Pow) (rI zmR λi j=>.int (i^j.toNat)):=opI λ_ _ _ _ _ _ _ hc q=>pow_int_small hc.1 hc.2.1 hc.2.2 q
theorem unI{f:Value->Sem Value}{g:Int->Int}
  (rule:∀(i:Int) (t:Tok) (s:Shared) (Q:Value->Shared->Prop) (E:Value->Shared->Prop),Q (.int (g i) s.toks) { s with toks:=s.toks+1 }->wpAny 0#b X.A (f (.int i t)) Q E s) :
  UnR X f (rU λi=>.int (g i)):=by
 intro C s σ H x v Q I D h;obtain⟨i,rfl,q⟩:=h;obtain⟨t,rfl⟩:=D;exact rule i t s _ _ {.int (g i),H,I.tok _,{_,rfl},q}
theorem ziV:UnR X (unaryOp .USub) (rU λi=>.int (-i)):=unI λ_ _ _ _ _ q=>neg_int q
end
def zkM:V->V->Bool
 | .non,.non=>true | .non,.int _=>true | .int _,.non=>true | .non,.bl _=>true | .bl _,.non=>true | .non,.str _=>true | .str _,.non=>true
 | .int _,.int _=>true | .bl _,.bl _=>true | .str _,.str _=>true | .byt _,.byt _=>true
 | .int _,.str _=>true | .str _,.int _=>true | .bl _,.str _=>true | .str _,.bl _=>true
 | _,_=>false
def rEq:R2:=λx y H Q=>zkM x y=true/\Q (.bl (decide (x=y))) H
def rNe:R2:=λx y H Q=>zkM x y=true/\Q (.bl (!decide (x=y))) H
theorem zcB{i j:Int}:decide (V.int i=V.int j)=(i==j):=by
 rw[vm];simp
theorem zf5{i j:Bool}:decide (V.bl i=V.bl j)=(i==j):=by
 rw[vm];simp
theorem zcA{i j:Str}:decide (V.str i=V.str j)=(i==j):=by
 rw[vm];simp
theorem zcC{i j:Array UInt8}:decide (V.byt i=V.byt j)=(i.toList==j.toList):=by
 rw[vm];cases i;cases j;simp
section
variable{X:Cx}{a b c:Expr}{g l A:TE}{w:Pos}
theorem qU{B:List (Addr×Obj)}{σ:St}{H:Hp}{s:Shared}{Q:VK}{k C:Bool}(I:Inv X B σ H s)(q:Q (.bl k) H)(e:k=C):EP X B σ Q (.bool C) s:=by
 subst e;exact{.bl k,H,I,rfl,q}
theorem xW:OpR X (compareOp .Eq) rEq:=by
 intro E s σ H x y v u Q I D B h;obtain⟨hs,q⟩:=h;cases x with
 | non=>
  cases D;cases y with
  | non=>cases B;exact PySem.EqNone.eq_none_none 0#I
  | bl j=>cases B;exact PySem.EqNone.eq_none_bool 0#I
  | int j=>obtain⟨C,rfl⟩:=B;exact PySem.EqNone.eq_none_int 0#I
  | str j=>obtain⟨C,rfl⟩:=B;exact PySem.EqNone.eq_none_str 0#I
  | _=>exact absurd (show false=true from hs) qS
 | bl i=>
  cases D;cases y with
  | non=>cases B;exact PySem.EqNone.eq_bool_none 0#I
  | bl j=>cases B;exact eq_bool (qU I q zf5)
  | str j=>obtain⟨C,rfl⟩:=B;exact PySem.EqMixed.eq_bool_str 0#I
  | _=>exact absurd (show false=true from hs) qS
 | int i=>
  obtain⟨t,rfl⟩:=D;cases y with
  | non=>cases B;exact PySem.EqNone.eq_int_none 0#I
  | int j=>obtain⟨C,rfl⟩:=B;exact eq_int (qU I q zcB)
  | str j=>obtain⟨C,rfl⟩:=B;exact PySem.EqMixed.eq_int_str 0#I
  | _=>exact absurd (show false=true from hs) qS
 | str i=>
  obtain⟨t,rfl⟩:=D;cases y with
  | non=>cases B;exact PySem.EqNone.eq_str_none 0#I
  | bl j=>cases B;exact PySem.EqMixed.eq_str_bool 0#I
  | int j=>obtain⟨C,rfl⟩:=B;exact PySem.EqMixed.eq_str_int 0#I
  | str j=>obtain⟨C,rfl⟩:=B;exact eq_str (qU I q zcA)
  | _=>exact absurd (show false=true from hs) qS
 | byt i=>
  obtain⟨t,rfl⟩:=D;cases y with
  | byt j=>obtain⟨C,rfl⟩:=B;exact PySem.W.eq_bytes (qU I q zcC)
  | _=>exact absurd (show false=true from hs) qS
 | _=>cases y<;>exact absurd (show false=true from hs) qS
theorem zcc:OpR X (compareOp .NotEq) rNe:=by
 intro E s σ H x y v u Q I D B h;obtain⟨hs,q⟩:=h;cases x with
 | non=>
  cases D;cases y with
  | non=>cases B;exact PySem.EqNone.ne_none_none 0#I
  | bl j=>cases B;exact PySem.EqNone.ne_none_bool 0#I
  | int j=>obtain⟨C,rfl⟩:=B;exact PySem.EqNone.ne_none_int 0#I
  | str j=>obtain⟨C,rfl⟩:=B;exact PySem.EqNone.ne_none_str 0#I
  | _=>exact absurd (show false=true from hs) qS
 | bl i=>
  cases D;cases y with
  | non=>cases B;exact PySem.EqNone.ne_bool_none 0#I
  | bl j=>cases B;exact ne_bool (qU I q (congrArg not zf5))
  | str j=>obtain⟨C,rfl⟩:=B;exact PySem.EqMixed.ne_bool_str 0#I
  | _=>exact absurd (show false=true from hs) qS
 | int i=>
  obtain⟨t,rfl⟩:=D;cases y with
  | non=>cases B;exact PySem.EqNone.ne_int_none 0#I
  | int j=>obtain⟨C,rfl⟩:=B;exact ne_int (qU I q (congrArg not zcB))
  | str j=>obtain⟨C,rfl⟩:=B;exact PySem.EqMixed.ne_int_str 0#I
  | _=>exact absurd (show false=true from hs) qS
 | str i=>
  obtain⟨t,rfl⟩:=D;cases y with
  | non=>cases B;exact PySem.EqNone.ne_str_none 0#I
  | bl j=>cases B;exact PySem.EqMixed.ne_str_bool 0#I
  | int j=>obtain⟨C,rfl⟩:=B;exact PySem.EqMixed.ne_str_int 0#I
  | str j=>obtain⟨C,rfl⟩:=B;exact ne_str (qU I q (congrArg not zcA))
  | _=>exact absurd (show false=true from hs) qS
 | byt i=>
  obtain⟨t,rfl⟩:=D;cases y with
  | byt j=>obtain⟨C,rfl⟩:=B;exact PySem.W.ne_bytes (qU I q (congrArg not zcC))
  | _=>exact absurd (show false=true from hs) qS
 | _=>cases y<;>exact absurd (show false=true from hs) qS
theorem Yq:OpR X (compareOp .Lt) (rI0 λi j=>.bl (decide (i<j))):=zg4 λ_ _ _ _ _ _ _ q=>lt_int q
theorem zfx:OpR X (compareOp .LtE) (rI0 λi j=>.bl (decide (i<=j))):=zg4 λ_ _ _ _ _ _ _ q=>le_int q
theorem Yr:OpR X (compareOp .Gt) (rI0 λi j=>.bl (decide (j<i))):=zg4 λ_ _ _ _ _ _ _ q=>gt_int q
theorem zcd:OpR X (compareOp .GtE) (rI0 λi j=>.bl (decide (j<=i))):=zg4 λ_ _ _ _ _ _ _ q=>ge_int q
theorem zal:OpR X (compareOp .Is) (λx y H Q=>y=.non/\Q (.bl (decide (x=.non))) H):=by
 intro B s σ H x y v u Q I C D h;obtain⟨rfl,q⟩:=h;cases D;refine is_none_gen (qU I q ?_)
 cases x<;>first
  | (cases C;rfl)
  | (obtain⟨t,rfl⟩:=C;rfl)
theorem Jd:OpR X (compareOp .IsNot) (λx y H Q=>y=.non/\Q (.bl (!decide (x=.non))) H):=by
 intro B s σ H x y v u Q I C D h;obtain⟨rfl,q⟩:=h;cases D;refine isnot_none_gen (qU I q ?_)
 cases x<;>first
  | (cases C;rfl)
  | (obtain⟨t,rfl⟩:=C;rfl)
theorem zR(b:Expr){s:CmpOp}(h:s≠.In:=by decide)(h2:s≠.NotIn:=by decide):behindInMarks s b=false:=by
 have e1:(s==CmpOp.In)=false:=by cases s<;>first| rfl | exact absurd rfl h
 have e2:(s==CmpOp.NotIn)=false:=by cases s<;>first| rfl | exact absurd rfl h2
 cases b<;>simp[behindInMarks,e1,e2]
theorem qZ{C:CmpOp}{r:R2}(L:OpR X (compareOp C) r)(G:PE X a g)(hb:PE X b l)(J:behindInMarks C b=false):PE X (.Compare a [C] [b] w) (tOp r g l):=by
 intro B s σ H Q I h;exact wpAny_Compare1 (zka G hb I h λv u s2 x y D E M N q=>L B s2 σ D x y v u Q E M N q) J
def zkn(t:TE):TT:=λσ H Q=>t σ H λx s=>IsB x s Q
theorem zP{C:CmpOp}{r:R2}(T:OpR X (compareOp C) r)(N:PE X a g)(hb:PE X b l)(O:behindInMarks C b=false):PT X (.Compare a [C] [b] w) (zkn (tOp r g l)):=by
 intro B s σ H Q I h;refine wpAny_isTrue_Compare1 (thn (N B s σ H _ I h) λv s1 ⟨x,D,J,r1,U⟩=>thn (hb B s1 σ D _ J U) λu s2 ⟨y,E,L,r2,Y⟩=>
  thn (T B s2 σ E x y v u _ L r1 r2 Y) λc s3 ⟨z,G,M,r3,k,e,q3⟩=>?_) O
 subst e;cases r3;exact Zh ⟨G,M,q3⟩
def zi3(r E:R2)(g l A:TE):TE:=λσ H Q=>g σ H λx B=>l σ B λy C=>r x y C λz s=>∃k,z=.bl k /\
 (if k=true then A σ s λG D=>E y G D Q else Q (.bl false) s)
theorem zfr{E C:CmpOp}{r M:R2}(ho:OpR X (compareOp E) r)(D:OpR X (compareOp C) M)(ha:PE X a g)(hb:PE X b l)(hc:PE X c A)
  (hm:lastMarks [E,C] [b,c]=false:=by with_unfolding_all rfl):PE X (.Compare a [E,C] [b,c] w) (zi3 r M g l A):=by
 intro B s σ H Q I h;refine Compare_chain (thn (ha B s σ H _ I h) λv s1 ⟨x,O,Y,r1,q1⟩=>chain_link (thn (hb B s1 σ O _ Y q1) λu s2 ⟨y,T,I2,N,q2⟩=>
  thn (ho B s2 σ T x y v u _ I2 r1 N q2) λd s3 ⟨z,G,J,r3,k,e,L⟩=>?_)) hm
 subst e;cases r3;refine Zh ?_
 cases k with
 | false=>exact ite_ff {.bl false,G,J,rfl,L}
 | true=>exact ite_tt (chain_last (thn (hc B s3 σ G _ J L) λw' s4 ⟨z',U,I4,r4,q4⟩=>D B s4 σ U y z' u w' Q I4 N r4 q4))
theorem Qq:(sizeLine:Nat)<2^63:=by rw[sizeLine_eq];decide
inductive Qe(x:V)(y:V)(H:Hp)(Q:VK):Prop
 | mk (i j:_) (_:x=.str i) (_:y=.str j) (_:i.length+j.length<=sizeLine) (_:Q (.str (i++j)) H):Qe x y H Q
theorem zam:OpR X (binaryOp .Add) (Qe):=by
 intro B s σ H x y v u Q I C D h;obtain⟨i,j,rfl,rfl,hz,q⟩:=h;obtain⟨t,rfl⟩:=C;obtain⟨E,rfl⟩:=D;exact add_str (λE G=>{.str (i++j),H,I.tok _,{_,rfl},q}) hz
theorem yc{x:V}{s:List Value}(r:Vals [x] s):∃u,s=[u]/\RelV x u:=by
 cases r with
 | cons B C=>cases C;exact{_,rfl,B}
theorem XQ{x y:V}{s:List Value}(r:Vals [x,y] s):∃u B,s=[u,B]/\RelV x u/\RelV y B:=by
 cases r with
 | cons C D=>
  cases D with
  | cons E G=>cases G;exact{_,_,rfl,C,E}
inductive XC(s:List V)(H:Hp)(Q:VK):Prop
 | mk (i:_) (_:s=[.int i]) (_:Q (.int (if i<0 then -i else i)) H):XC s H Q
theorem Z1:xT X (.builtin "abs") (XC):=by
 intro B s σ H E D Q I r h;obtain⟨i,rfl,q⟩:=h;obtain⟨u,rfl,t,rfl⟩:=yc r;exact call_abs_int λu C=>{.int (if i<0 then -i else i),H,I.tok _,{_,rfl},q}
inductive Q1(s:List V)(H:Hp)(Q:VK):Prop
 | mk (i j:_) (_:s=[.int i,.int j]) (_:Q (.int (if j>i then j else i)) H):Q1 s H Q
theorem Qu(hc:X.calm=true):xT X (.builtin "max") (Q1):=by
 intro C s σ H M J Q I r h;obtain⟨i,j,rfl,q⟩:=h;obtain⟨u,L,rfl,⟨t,rfl⟩,⟨E,rfl⟩⟩:=XQ r;refine max_two_ints (I.ok.hd hc) λD G k=>{_,H,I.kept k,?_,q}
 by_cases B:j>i
 .rw[zC B,zC B];exact{_,rfl}
 .rw[zw B,zw B];exact{_,rfl}
inductive Q0(s:List V)(H:Hp)(Q:VK):Prop
 | mk (i j:_) (_:s=[.int i,.int j]) (_:Q (.int (if j<i then j else i)) H):Q0 s H Q
theorem zdT(hc:X.calm=true):xT X (.builtin "min") (Q0):=by
 intro C s σ H M J Q I r h;obtain⟨i,j,rfl,q⟩:=h;obtain⟨u,L,rfl,⟨t,rfl⟩,⟨E,rfl⟩⟩:=XQ r;refine min_two_ints (I.ok.hd hc) λD G k=>{_,H,I.kept k,?_,q}
 by_cases B:j<i
 .rw[zC B,zC B];exact{_,rfl}
 .rw[zw B,zw B];exact{_,rfl}
theorem Qv:xT X (.type "int") (λB H Q=>(∃i,B=[.int i]/\Q (.int i) H)\/∃k,B=[.bl k]/\Q (.int (if k then 1 else 0)) H):=by
 intro C s σ H B E Q I r h;rcases h with ⟨i,rfl,q⟩ | ⟨k,rfl,q⟩
 .obtain⟨u,rfl,t,rfl⟩:=yc r
  exact call_int_int {.int i,H,I,{_,rfl},q}
 .obtain⟨u,rfl,D⟩:=yc r
  cases D;exact call_int_bool {.int (if k then 1 else 0),H,I.tok _,{_,rfl},q}
inductive Zo(s:List V)(H:Hp)(Q:VK):Prop
 | mk (i j:_) (_:s=[.int i,.int j]) (_:zmo i j) (_:∀p,H p=none->Q (.ref p) (upd H p (.tup [.int (i/j),.int (i % j)]))):Zo s H Q
theorem YW:xT X (.builtin "divmod") (Zo):=by
 intro B s σ H J E Q I r h;obtain⟨i,j,rfl,⟨h1,h2⟩,q⟩:=h;obtain⟨u,G,rfl,⟨t,rfl⟩,⟨D,rfl⟩⟩:=XQ r;refine divmod_int () ?_ (.inl (PyProof.noPylong_small ()))
 rw[zgp i (),zgo i ()]
 have C:H s.heap.objs.size=none:=I.hok.fresh (zF _);refine{.ref s.heap.objs.size,_,?_,rfl,q _ C}
 refine I.laid (λb o e=>qX _ e) (zF _) {by simp only[jZ,Xj];rw[sizeLine_eq];decide,[.int (i/j) s.toks,.int (i % j) (s.toks+1)],.cons {_,rfl} (.cons {_,rfl} .nil),?_}
 exact{{_,qQ s.heap rfl,rfl,0,rfl},_,qQ s.heap rfl,rfl}
end
structure ObjM(h:Heap)(x dx C:Addr)(mA:Str->Option Value):Prop where
 obj:h.get? x=some (PySem.W.instObj C dx)
 ns:h.Ns1 dx mA
 ne:dx≠x
section
variable{c:Program}{w:World}{A:Around}{E:Value->Shared->Prop}{s:Shared}{K:W.Frag}{x g C f:Addr}{l:Str->Option Value}{b:Str}{v:Value}
end
def putF(f:Str)(v:V):List (Str×V)->List (Str×V)
 | []=>[(f,v)]
 | (g,x)::r=>if g=f then(g,v)::r else(g,x)::putF f v r
theorem RelO.some_of{v:V}{o:Option Value}(r:RelO (some v) o):∃u,o=some u/\RelV v u:=by
 cases o with
 | none=>exact(show False from r).elim
 | some u=>exact⟨u,rfl,r⟩
section
variable{P:Program}{w:World}{H c:Hp}{h l:Heap}{a C g:Addr}{fs b:List (Str×V)}
end
structure Cls(K:W.Frag)(C:Addr):Prop where
 pg:PySem.W.plainGet K C Str.empty=true
 hd:PySem.W.hasDictIn K C=true
 po:PySem.W.plainOver K C=true
 sa:PySem.W.findIn K (.ref C) "__setattr__" = some (some (.builtin "object.__setattr__"))
structure Con(K:W.Frag)(C:Addr)(f:Str)(v:V)(u:Value):Prop where
 at_:PySem.W.findIn K (.ref C) f=some (some u)
 rel:RelV v u
 get:PySem.W.specialIn K u "__get__" = some none
 cp:PySem.W.copiedNames.contains f=false
structure Meth(K:W.Frag)(C:Addr)(m:Str)(f:Addr):Prop where
 at_:PySem.W.findIn K (.ref C) m=some (some (.ref f))
 fn:PySem.W.isFn K (.ref f)=true
 kp:PySem.W.keepIn K (.ref f)=true
section
variable{X:Cx}{b:List (Addr×Obj)}{σ:St}{H:Hp}{s:Shared}{a C c:Addr}{fs:List (Str×V)}{f:Str}{v:V}{A:Around}{E:Value->Shared->Prop}
end
section
variable{X:Cx}{o e b:Expr}{f:Str}{l c g:Pos}{s w:TE}
end
section
variable{X:Cx}{g:List (Addr×Obj)}{σ:St}{H:Hp}{s:Shared}{A:Around}{E:Value->Shared->Prop}{Q:Value->Shared->Prop}{c:Value}{b:Bool}
inductive Xy(K:W.Frag)(H:Hp):V->Value->Prop where
 | non:Xy K H .non (.type "NoneType")
 | bl (x:Bool):Xy K H (.bl x) (.type "bool")
 | int (i:Int):Xy K H (.int i) (.type "int")
 | str (x:Str):Xy K H (.str x) (.type "str")
 | flt (x:UInt64):Xy K H (.flt x) (.type "float")
 | lst {a:Addr} {w:List V} (e:H a=some (.lst w)):Xy K H (.ref a) (.type "list")
 | frz {a:Addr} {o:Obj} {w:List V} (e:H a=some (.frz o (.lst w))):Xy K H (.ref a) (.type "list")
 | tup {a:Addr} {w:List V} (e:H a=some (.tup w)):Xy K H (.ref a) (.type "tuple")
 | dK {a:Addr} {l:List (Key×V)} (e:H a=some (.dK l)):Xy K H (.ref a) (.type "dict")
 | dT {a:Addr} {l:List (List Key×V)} (e:H a=some (.dT l)):Xy K H (.ref a) (.type "dict")
 | ins {a C B:Addr} {fs:List (Str×V)} (e:H a=some (.ins C B fs)) (G:Cls K C) (I:PySem.W.findIn K (.ref C) "__class__" = some (some (.builtin "object.__class__")))
   (L:PySem.W.specialIn K (.builtin "object.__class__") "__get__" = some (some (.builtin "getset_descriptor.__get__"))) (D:PySem.W.takesIn K (.builtin "object.__class__")=some true)
   (J:PySem.W.mroIn K C (.type "object")=some true):Xy K H (.ref a) (.ref C)
end
structure Room(k:Nat)(A:Around):Prop where
 hd:A.handled=none
 dp:A.depth+3*k+5<recursionLimit
 un:A.units+16*k+200<cLine
 gd:A.guards=some []
theorem Room.mono{j k:Nat}{A:Around}(r:Room k A)(h:j<=k):Room j A:={r.hd,by have:=r.dp;omega,by have:=r.un;omega,r.gd}
theorem Room.m{j k:Nat}{A:Around}(r:Room k A)(h:j<=k:=by decide):Room j A:=r.mono h
theorem Room.deeper{k:Nat}{A:Around}(r:Room (k+1) A)(b:Env):Room k (A.deeper b):=
 {r.hd,by have:=r.dp;show A.depth+1+3*k+5<_;omega,by have:=r.un;show A.units+3+16*k+200<_;omega,r.gd}
theorem Room.depth{k:Nat}{A:Around}(r:Room k A):A.depth<recursionLimit:=by have:=r.dp;omega
theorem Room.units{k:Nat}{A:Around}(r:Room k A):A.units+64<cLine:=by have:=r.un;omega
theorem Room.units0{k:Nat}{A:Around}(r:Room k A):A.units<cLine:=by have:=r.un;omega
def ziZ:TA:=λ_ H Q=>Q [] H
def wG(g:TE)(l:TA):TA:=λσ H Q=>g σ H λx b=>l σ b λs c=>Q (x::s) c
section
variable{X:Cx}{e:Expr}{g:List Expr}{l:TE}{t:TA}{c:Pos}
theorem zd:PA X [] ziZ:=λ_ _ _ _ H Q I h=>Wh {[],H,I,.nil,h}
theorem za(D:PE X e l)(E:PA X g t)(hs:starEach (e::g) X.env=(false,eval e X.env)::starEach g X.env:=by rfl):PA X (e::g) (wG l t):=by
 intro c b s σ H Q I h;rw[hs];show wpAny _ _ (spliced ((false,eval e X.env)::backTo c (starEach g X.env))) _ _ s;refine QH (thn (D b s σ H _ I h) λu s1 ⟨x,w,B,L,G⟩=>?_)
 exact thn (E c b s1 σ w _ B G) λO s2 ⟨N,A,C,M,J⟩=>{x::N,A,C,.cons L M,J}
def zms(t:TA):TE:=λσ H Q=>t σ H λs b=>s.length<=sizeLine/\∀p,b p=none->Q (.ref p) (upd b p (.tup s))
def zmy(t:TA):TE:=λσ H Q=>t σ H λs b=>s.length<=sizeLine/\∀p,b p=none->Q (.ref p) (upd b p (.lst s))
theorem qL{E}(h:PA X g t):PE X (.Tuple g E c) (zms t):=by
 intro w s σ H Q I hq;refine wpAny_Tuple_spliced (thn (h c w s σ H _ I hq) λD s1 ⟨G,A,B,r,z,q⟩=>{by rw[<- r.length];exact z,?_})
 have C:A s1.heap.objs.size=none:=B.hok.fresh (zF _);refine{.ref s1.heap.objs.size,upd A s1.heap.objs.size (.tup G),B.laid (t':=s1.toks) (λb u e=>qX _ e) (zF _) ?_,rfl,q _ C}
 exact{z,D,r,{_,qQ _ rfl,rfl,_,rfl},_,qQ _ rfl,rfl}
theorem z9(h:PA X g t):PE X (.List g c) (zmy t):=by
 intro w s σ H Q I hq;refine wpAny_List_spliced (thn (h c w s σ H _ I hq) λD s1 ⟨E,A,B,r,z,q⟩=>{by rw[<- r.length];exact z,?_})
 have C:A s1.heap.objs.size=none:=B.hok.fresh (zF _);refine{.ref s1.heap.objs.size,upd A s1.heap.objs.size (.lst E),B.laid (t':=s1.toks) (λb u e=>qX _ e) (zF _) ?_,rfl,q _ C}
 exact{z,D,0,r,qQ _ rfl}
end
abbrev Sp:=List V->Hp->VK->XK->Prop
abbrev CXT:=List Env->Hp->Shared->XK->Value->Shared->Prop
structure zh5(P:Program)(w:World)(K:W.Frag)(mg:Str->Option Value)(base:Heap)(A:Around)(outer:List Env)(s:Shared)(H:Hp):Prop where
 frames:A.frames=some outer
 mod:Mod K mg base
 bs:∀b o,base.get? b=some o->s.heap.get? b=some o/\H b=none
 bsz:base.objs.size<=s.heap.objs.size
 funs:s.heap.FunFrames base outer
 frf:∀b∈frs outer,H b=none
 hok:HOk P w H s.heap
 bare:AllBare s.gens
def CE(b:List Env)(P:Program)(w:World)(H:Hp)(s:Shared)(Q:VK)(u:Value)(c:Shared):Prop:=
 ∃v g,c.os=s.os/\AllBare c.gens/\Un (frs b) [] H g s.heap c.heap/\HOk P w g c.heap/\RelV v u/\Q v g
def CR(g:CXT)(b:List Env)(P:Program)(w:World)(H:Hp)(s:Shared)(Q:VK)(E:XK)(r:Result)(c:Shared):Prop:=
 match r with
 | .ok (.ret u)=>CE b P w H s Q u c
 | .ok _=>False
 | .error e=>g b H s E e c
structure FnOk(P:Program)(w:World)(K:W.Frag)(mg:Str->Option Value)(base:Heap)(CX:CXT)(k:Nat)(f:Addr)(fd:FuncData)(ps:List Str)(sp:Sp):Prop where
 len:∀vs H Q E,sp vs H Q E->vs.length=ps.length
 run:∀(A:Around) (outer:List Env) (s:Shared) (H:Hp) (args:Args) (us:List Value) (vs:List V) (Q:VK) (E:XK),Room k A->zh5 P w K mg base A outer s H->BindsTo s fd args (ps.zip us)->Vals vs us->sp vs H Q E ->
  codeAny (model P w) A (.call (.ref f) args) (CR CX outer P w H s Q E) s
theorem FnOk.mono{P:Program}{w:World}{K:W.Frag}{B:Str->Option Value}{b:Heap}{g:CXT}{j k:Nat}{f:Addr}{l:FuncData}{C:List Str}{D:Sp}(F:FnOk P w K B b g j f l C D)(h:j<=k) :
  FnOk P w K B b g k f l C D:={F.len,λA c s H args I J Q E G=>F.run A c s H args I J Q E (G.mono h)}
section
variable{X:Cx}{c:List (Addr×Obj)}{σ:St}{H:Hp}{s l:Shared}
theorem Inv.env0(I:Inv X c σ H s):zh5 X.prog X.w X.K X.mg X.base X.A X.stack s H:=
 {I.ok.frames,I.ok.mod,I.bs,jN I.ok.bsz I.sz,I.stack,I.stkFree,I.hok,I.bare}
theorem Inv.after{Q:VK}{u:Value}(I:Inv X c σ H s)(h:CE X.stack X.prog X.w H s Q u l):EP X c σ Q u l:=by
 obtain⟨v,C,os,w,un,A,r,q⟩:=h;obtain⟨D,g,d,t,B⟩:=l;obtain rfl:B=s.os:=os;exact{v,C,I.call (h':=D) (g':=g) (d':=d) (t':=t) (ch:=[]) un A w (λb z=>absurd z 1e3),r,q}
end
def zh7(g:Sp)(b:List V)(E:XK)(t:TA):TE:=λσ H Q=>t σ H λl c=>g (l++b) c Q E
def Binds(K:W.Frag)(l:FuncData)(g:List Str)(c:List Value):Prop:=
 ∀(s:Shared) (b:List Value),K.In s.heap->(b++c).length=g.length->BindsTo s l {b,[]} (g.zip (b++c))
theorem Binds.all{K:W.Frag}{g:FuncData}{c:List Str}(h:∀b:List Value,b.length=c.length->bindArgs g {b,[]}=pure (c.zip b)):Binds K g c []:=λs b _ l=>by
 rw[qA] at l ⊢;exact .of_eq (h b l)
def zbi(g:CXT)(X:Cx)(E:XK):Prop:=∀(b:List (Addr×Obj)) (σ:St) (H:Hp) (s:Shared) (e:Value) (c:Shared),Inv X b σ H s->g X.stack H s E e c->X.xe e c
section
variable{X:Cx}{A:CXT}{k:Nat}{f C:Addr}{B:FuncData}{w:List Str}{D:Sp}{b:List V}{c:List Value}{E:XK}{x m:Str}{p g G:Pos}{e o:Expr}{l:List Expr}{J:TE}{t:TA}
theorem zjb{L:List (Addr×Obj)}{σ:St}{H:Hp}{s:Shared}{Q:VK}{M:List Value}{N:List V}(F:FnOk X.prog X.w X.K X.mg X.base A k f B w D)(Y:Room k X.A)(hb:Binds X.K B w c)(hd:Vals b c)(hx:zbi A X E)
  (I:Inv X L σ H s) (r:Vals N M) (h:D (N++b) H Q E):wpAny 0#b X.A (call (.ref f) M) (EP X L σ Q) X.xe s:=by
 have O:Vals (N++b) (M++c):=r.append hd;have U:(M++c).length=w.length:=by rw[<- O.length];exact F.len _ _ _ _ h
 refine wpAny_call (codeAny_mono (F.run X.A X.stack s H {M,[]} (M++c) (N++b) Q E Y I.env0 (hb s M I.kIn U) O h) λr s' hq=>?_)
 cases r with
 | error e=>exact hx L σ H s e s' I hq
 | ok T=>
  cases T with
  | ret u=>exact I.after hq
  | next=>exact False.elim hq
  | brk=>exact False.elim hq
  | cont=>exact False.elim hq
theorem zgY(F:FnOk X.prog X.w X.K X.mg X.base A k f B w D)(hr:Room k X.A)(hg:Gl X x)(Y:X.mg x=some (.ref f))(hk:PySem.W.keepIn X.K (.ref f)=true)(hb:Binds X.K B w c)(hd:Vals b c)(hx:zbi A X E)
  (T:PA X (e::l) t) (M:0#H=false:=by decide) (U:starEach (e::l) X.env=(false,eval e X.env)::starEach l X.env:=by rfl) (N:(backTo g (starEach l X.env)).any (·.1)=false:=by rfl) :
  PE X (.Call (.Name x p) (e::l) [] g) (zh7 D b E t):=by
 intro L s σ H Q I h;refine wpAny_Call_Name_kw (zcl I hg Y ?_ M)
 refine PySem.W.callWith_K (h₀:=X.base) I.ok.mod.kin hk (thn (T g L s σ H _ I h) λus s1 ⟨vs,H1,O,r,q⟩=>{O.kIn,?_}) U N
 exact zjb F hr hb hd hx O r q
structure Mk(K:W.Frag)(C f:Addr):Prop where
 makes:PySem.W.makesIn K C=true
 init:PySem.W.findIn K (.ref C) "__init__" = some (some (.ref f))
 fn:PySem.W.isFn K (.ref f)=true
 kp:PySem.W.keepIn K (.ref C)=true
end
section
variable{X:Cx}{A:CXT}{k:Nat}{f C:Addr}{fd:FuncData}{ps ks:List Str}{G:Sp}{E:XK}{x m:Str}{p w b c:Pos}{e o:Expr}{B:List Expr}{l:List Keyword}{I H:TE}{t J:TA}{D:Option Str}
structure KBinds(K:W.Frag)(fd:FuncData)(ps ks:List Str)(g:List Value->List Value->List Value)(gV:List V->List V->List V):Prop where
 to:∀(s:Shared) (us ws:List Value),K.In s.heap->(g us ws).length=ps.length->BindsTo s fd {us,ks.zip ws} (ps.zip (g us ws))
 rel:∀{vs:List V} {us:List Value} {zs:List V} {ws:List Value},Vals vs us->Vals zs ws->Vals (gV vs zs) (g us ws)
variable{g:List Value->List Value->List Value}{gV:List V->List V->List V}
end
structure zD(N P:List Str)(sc:Scope):Prop where
 kind:sc.kind=.function
 co:sc.isCoroutine=false
 gen:sc.isGenerator=false
 nd:N.Nodup
 pre:N.take P.length=P
 par:∀x∈P,sc.names.lookup x=some .local\/sc.names.lookup x=some .cell
 nofree:∀y∈sc.names,y.2≠.free
theorem Vl{kindOf:Str->Option NameKind}{x:Str}:∀{b:List (Str×Value)} {m:Str->Option Value},(∀v,(x,v)∉b)->bindL kindOf b m x=m x
 | [],_,_=>rfl
 | (n,v)::r,m,h=>by
  unfold bindL;rw[Vl λw c=>h w (xg _ c)]
  split
  .have:x≠n:=by rintro rfl;exact h v qJ
   simp[this]
  .rfl
theorem Vn{kindOf:Str->Option NameKind}{x:Str}:∀{b:List (Str×Value)} {m:Str->Option Value},(∀v,(x,v)∉b)->bindC kindOf b m x=m x
 | [],_,_=>rfl
 | (n,v)::r,m,h=>by
  unfold bindC;rw[Vn λw c=>h w (xg _ c)]
  split
  .rfl
  .have:x≠n:=by rintro rfl;exact h v qJ
   simp[this]
theorem Vm{kindOf:Str->Option NameKind}{x:Str}{v:Value}:∀{P:List Str} {b:List Value} {i:Nat} {m:Str->Option Value},P.Nodup->P[i]? =some x->b[i]? =some v->kindOf x=some .local ->
  bindL kindOf (P.zip b) m x=some v
 | [],_,_,_,_,h,_,_=>by simp at h
 | _::_,[],_,_,_,_,h,_=>by simp at h
 | p::P,w::b,0,m,c,h1,h2,hk=>by
  simp at h1 h2;subst h1;subst h2
  show bindL kindOf ((p,w)::P.zip b) m p=_;unfold bindL;rw[Vl λv hv=>(Zx.mp c).1 (zaO hv).1,zC hk]
  simp
 | p::P,w::b,i+1,m,c,h1,h2,hk=>by
  show bindL kindOf ((p,w)::P.zip b) m x=_;unfold bindL;exact Vm (i:=i) (Zx.mp c).2 (by simpa using h1) (by simpa using h2) hk
theorem Vo{kindOf:Str->Option NameKind}{x:Str}{v:Value}:∀{P:List Str} {b:List Value} {i:Nat} {m:Str->Option Value},P.Nodup->P[i]? =some x->b[i]? =some v->kindOf x≠some .local ->
  bindC kindOf (P.zip b) m x=some v
 | [],_,_,_,_,h,_,_=>by simp at h
 | _::_,[],_,_,_,_,h,_=>by simp at h
 | p::P,w::b,0,m,c,h1,h2,hk=>by
  simp at h1 h2;subst h1;subst h2
  show bindC kindOf ((p,w)::P.zip b) m p=_;unfold bindC;rw[Vn λv hv=>(Zx.mp c).1 (zaO hv).1,zw hk]
  simp
 | p::P,w::b,i+1,m,c,h1,h2,hk=>by
  show bindC kindOf ((p,w)::P.zip b) m x=_;unfold bindC;exact Vo (i:=i) (Zx.mp c).2 (by simpa using h1) (by simpa using h2) hk
def QO(N:List Str)(b:List V):St:=b.map some++List.replicate (N.length-b.length) none
def zdQ(B:CXT)(P:Program)(w:World)(K:W.Frag)(mg:Str->Option Value)(base:Heap)(N:List Str)(c:Str)(b:Scope)(f:Addr)(l:Value)(A:Around)(outer:List Env)(s:Shared)(H:Hp)(E:XK):Cx where
 prog:=P
 w:=w
 K:=K
 mg:=mg
 base:=base
 A:=A.deeper (envOfC c b s.heap.objs.size f l)
 N:=N
 s₀:=s
 H₀:=H
 env:=envOfC c b s.heap.objs.size f l
 outer:=outer
 stack:=envOfC c b s.heap.objs.size f l::outer
 ex:=[]
 calm:=true
 fn:=λ_=>true
 pn:=[]
 xe:=λe D=>wpAny (model P w) (A.deeper (envOfC c b s.heap.objs.size f l)) (leaving (envOfC c b s.heap.objs.size f l) e) (λ_ g=>B outer H s E e g) (λC g=>B outer H s E C g) D
theorem YV{b:Scope}{n:Nat}{x:Str}(h:b.names.lookup x=some .cell):∃c,(cellsFrom n b.names []).lookup x=some c:=by
 have q:=PySem.W.cellsFrom_some b.names n [] (.inl h);exact Option.isSome_iff_exists.mp q
theorem zdH{U:CXT}{P:Program}{w:World}{K:W.Frag}{Q:Str->Option Value}{C:Heap}{N I:List Str}{B:Str}{g:Scope}{f:Addr}{M:Value}{A:Around}{l:List Env}{s s1:Shared}{H:Hp}{E:XK}{T:List Value}{J:List V}
  (S:zD N I g) (hd:A.handled=none) (D:zh5 P w K Q C A l s H) (hl:J.length=I.length) (r:Vals J T)
  (x:InCallC s s.heap.objs.size (bindL (envOfC B g s.heap.objs.size f M).kindOf (I.zip T) λ_=>none) (cellsFrom 0#C g.names []) (bindC (envOfC B g s.heap.objs.size f M).kindOf (I.zip T) λ_=>none) s1) :
  Inv (zdQ U P w K Q C N B g f M A l s H E) [] (QO N J) H s1:=by
 have a0:I.length<=N.length:=by have:=congrArg List.length S.pre;rw[qv] at this;omega
 obtain⟨h1,tk,rfl,hk⟩:=x.done;have G:∀b:Addr,b∉(zdQ U P w K Q C N B g f M A l s H E).ex:=λb z=>absurd (show b∈([]:List Addr) from z) 1e3
 refine{{D.mod,S.kind,rfl,rfl,zF _,λy z c h1 h2=>?_,λy hy=>?_,λy c _ h=>?_,λ_=>hd,Around.frames_deeper D.frames,.inr ⟨rfl,rfl⟩,λb z=>absurd z (G b),D.bs,D.bsz,λb _ _=>G b,λb z=>absurd z (G b),D.funs,D.frf},
  rfl,D.bare,Un.kept hk,{_,x.toInCall.ns,λi y v h1 h2 h3=>?_},λy c h=>{_,x.cell y c h},D.hok.fresh (zF _),λy c h=>?_,λp hp=>absurd (show p∈([]:List 0#l) from hp) 1e3,D.hok.kept hk,?_}
 .exact name_of_addr x.apart (Zj h1) (Zj h2)
 .have hy:g.names.lookup y=some .cell\/g.names.lookup y=some .free:=hy
  rcases hy with hy | hy
  .exact YV hy
  .exact absurd rfl (S.nofree _ (Zj hy))
 .exact Xf (x.above y c (Zj h))
 .have O:i<J.length:=by
   unfold QO at h2;by_cases O:i<J.length
   .exact O
   .rw[Zn (by simpa using O)] at h2
    rw[List.getElem?_replicate] at h2
    split at h2<;>cases h2
  have Y:J[i]? =some v:=by
   unfold QO at h2;rw[Zl (by simpa using O),qk] at h2
   cases e:J[i]? with
   | none=>rw[e] at h2;cases h2
   | some a=>rw[e] at h2;cases h2;rfl
  obtain⟨u,hu,rv⟩:=r.get Y;have hp:I[i]? =some y:=by
   rw[<- S.pre,List.getElem?_take_of_lt ()];exact h1
  have L:I.Nodup:=by rw[<- S.pre];exact S.nd.sublist (Wg _ _)
  refine{u,rv,?_}
  rcases S.par y (qz hp) with k | k
  .exact .inl {k,Vm L hp hu k}
  .obtain⟨c,e⟩:=YV (n:=s.heap.objs.size+1) k
   refine .inr {.inl k,c,e,?_}
   have q:=x.cell y c e;rw[Vo L hp hu (by show g.names.lookup y≠_;rw[k];decide)] at q
   exact q
 .exact D.hok.fresh (Xf (x.above y c (Zj h)))
 .unfold QO
  show _=N.length;rw[qh,zm,va];omega
theorem zl4{CX:CXT}{P:Program}{w:World}{K:W.Frag}{mg:Str->Option Value}{C:Heap}{k:Nat}{f:Addr}{M l:Str}{D:Arguments}{body:List Stmt}{c:Scope}{dV kV U pm B ct oc:Value}{an od:Option Addr}
  {ae:Array (Option Value)} {N ps:List Str} {sp:Sp} (lk:K.lookup f=some {oc,od,.func (PySem.W.fnOf M l D body c dV kV U pm an B ct),ae}) (ab:PySem.W.codeIn K B l=true) (S:zD N ps c)
  (aa:∀G H Q E,sp G H Q E->G.length=ps.length)
  (O:∀(A:Around) (g:List Env) (s:Shared) (H:Hp) (G:List V) (Q:VK) (E:XK),Room k (A.deeper (envOfC l c s.heap.objs.size f B))->sp G H Q E ->
   ∃t,PSs (zdQ CX P w K mg C N l c f B A g s H E) body t/\t { nx:=λ_ L=>Q .non L,rt:=Q } (QO N G) H) :
  FnOk P w K mg C CX (k+1) f (PySem.W.fnOf M l D body c dV kV U pm an B ct) ps sp:=by
 refine{aa,λA g s H args us G Q E hr Y hb r a0=>?_}
 have hl:=aa _ _ _ _ a0;have KX:K.In s.heap:=Y.mod.kin.keeps λb o e=>(Y.bs b o e).1
 have ac:s.heap.NoLimit:=Y.mod.nolimit.keeps λb o e=>(Y.bs b o e).1
 have T:∀y∈ps.zip us,c.names.lookup y.1=some .local\/(c.names.lookup y.1=some .cell/\((cellsFrom 0#C c.names []).lookup y.1).isSome=true):=λ⟨n,v⟩ hy=>by
  rcases S.par n (zaO hy).1 with q | q
  .exact .inl q
  .exact .inr {q,PySem.W.cellsFrom_some _ _ _ (.inl q)}
 refine codeAny_call_function hr.depth (KX _ _ lk) rfl S.co S.gen rfl (PySem.W.codeRec_of KX ab) (hb _ _ _ _ ?_)
 refine wpAny_newFunctionEnv_cells S.kind T λaf he s1 x=>?_
 subst he;refine{ac.keeps x.toInCall.keep,codeAny_func ?_}
 obtain⟨t,ht,hq⟩:=O A g s H G Q E (hr.deeper _) a0;have I:Inv (zdQ CX P w K mg C N l c f B A g s H E) [] (QO N G) H s1:=zdH S hr.hd Y hl r x;refine ja (ht [] s1 (QO N G) H _ I hq) (λfl s' hs=>?_) λe s' hs=>hs
 have fin:∀{σ':St} {L:Hp} {v:V} {u:Value},Inv (zdQ CX P w K mg C N l c f B A g s H E) [] σ' L s'->RelV v u->Q v L->CE g P w H s Q u s':=
  λ{σ' L v u} J rv q=>⟨v,L,J.os,J.bare,J.base,J.hok,rv,q⟩
 cases fl with
 | ret u=>
  obtain⟨v,σ',L,J,rv,q⟩:=hs;exact fin J rv q
 | next=>
  obtain⟨σ',L,J,q⟩:=hs;exact fin (v:=V.non) (u:=Value.none) J rfl q
 | brk=>
  obtain⟨_,_,_,q⟩:=hs;exact False.elim q
 | cont=>
  obtain⟨_,_,_,q⟩:=hs;exact False.elim q
section
variable{X:Cx}{x:Str}{p b:Pos}{e:Expr}{c:List Expr}{t:TA}{id T:String}{r:List V->Hp->VK->Prop}
def tCB(r:List V->Hp->VK->Prop)(t:TA):TE:=λσ H Q=>t σ H λl g=>r l g Q
theorem zt(hc:xT X (.builtin id) r)(hg:Gl X x)(E:X.mg x=none)(hv:bootBuiltins x=some (.builtin id))(C:PA X (e::c) t)(G:x ≠ "__name__" :=by decide)(l:0#H=false:=by decide)
  (D:starEach (e::c) X.env=(false,eval e X.env)::starEach c X.env:=by rfl) (w:(backTo b (starEach c X.env)).any (·.1)=false:=by rfl):PE X (.Call (.Name x p) (e::c) [] b) (tCB r t):=by
 intro g s σ H Q I h;refine wpAny_Call_Name_kw (wE I hg E hv ?_ G l)
 exact PyProof.Rows.callWith_builtin1 (thn (C b g s σ H _ I h) λM s1 ⟨N,A,B,L,J⟩=>hc g s1 σ A N M Q B L J) D w
theorem jw(hc:xT X (.type T) r)(hg:Gl X x)(E:X.mg x=none)(hv:bootBuiltins x=some (.type T))(C:PA X (e::c) t)(G:x ≠ "__name__" :=by decide)(l:0#H=false:=by decide)
  (D:starEach (e::c) X.env=(false,eval e X.env)::starEach c X.env:=by rfl) (w:(backTo b (starEach c X.env)).any (·.1)=false:=by rfl):PE X (.Call (.Name x p) (e::c) [] b) (tCB r t):=by
 intro g s σ H Q I h;refine wpAny_Call_Name_kw (wE I hg E hv ?_ G l)
 exact J9 (thn (C b g s σ H _ I h) λM s1 ⟨N,A,B,L,J⟩=>hc g s1 σ A N M Q B L J) D w
end
end L2
namespace HT
open PySem PyProof.Rows
section
open PySem.SeqAt
open PySem.AutoSeq1 (wpAny_loadPart')
open PySem.MeetsSeq PySem.MeetsSeq2 PySem.MeetsSeq3
end
section
variable{b:Program}{w:World}{A:Around}{E:Value->Shared->Prop}{s:Shared}
def sIx(n d:Nat):Option Int->Nat
 | none=>d
 | some v=>if v<0 then(v+(n:Int)).toNat else min v.toNat n
theorem sIx_none(n d:Nat):sIx n d none=d:=rfl
theorem sIx_nat(n d k:Nat):sIx n d (some (k:Int))=min k n:=by
 show(if(k:Int)<0 then((k:Int)+(n:Int)).toNat else min (k:Int).toNat n)=min k n
 rw[zw (),vO]
theorem zja(n d:Nat)(hd:d<=n)(o:Option Int):sIx n d o<=n:=by
 cases o with
 | none=>exact hd
 | some v=>
  show(if v<0 then(v+(n:Int)).toNat else min v.toNat n)<=n
  by_cases hv:v<0
  .rw[zC hv];omega
  .rw[zw hv];exact Nat.min_le_right _ _
theorem zcE(v:Int)(n d:Nat):(if v<0 then max (v+(n:Int)) 0 else min v (n:Int))=((sIx n d (some v):Nat):Int):=by
 show(if v<0 then max (v+(n:Int)) 0 else min v (n:Int))=(((if v<0 then(v+(n:Int)).toNat else min v.toNat n):Nat):Int)
 by_cases hv:v<0
 .simp only[zC hv];omega
 .simp only[zw hv];omega
theorem zbh(lo c:Option Int)(n:Nat):Builtin.Slice.sliceAdjust lo c 1 (n:Int)=(((sIx n 0 lo:Nat):Int),((sIx n n c:Nat):Int)):=by
 have h1:¬((1:Int)<0):=()
 unfold Builtin.Slice.sliceAdjust;simp only[h1,if_false];refine Qz ?_ ?_
 .cases lo with
  | none=>rfl
  | some v=>exact zcE v n 0
 .cases c with
  | none=>rfl
  | some v=>exact zcE v n n
theorem zah(i j:Nat):Builtin.Slice.slicePlaces (i:Int) (j:Int) 1=j-i:=by
 unfold Builtin.Slice.slicePlaces;have h1:(1:Int)>0:=()
 simp only[h1,if_true,Int.ediv_one];split<;>omega
theorem Jt{v:Value}{o:Option Int}{Q:Option Int->Shared->Prop}(p:IsPart v o)(h:Q o s):wpAny 0#j A (Builtin.Slice.slicePartIndex v) Q E s:=by
 cases p with
 | none=>exact slicePart_none h
 | int i t=>exact slicePart_int h
theorem Qk{D:Addr}{B C:Value}{lo g:Option Int}{n:Nat}{Q:Int×Int×Nat->Shared->Prop}(hs:s.heap.IsSliceOf D B C .none)(H:IsPart B lo)(I:IsPart C g)
  (h:Q (((sIx n 0 lo:Nat):Int),1,sIx n n g-sIx n 0 lo) s):wpAny 0#j A (Builtin.Slice.sliceApplied (.ref D) (pure (n:Int))) Q E s:=by
 obtain⟨os,l,G,c⟩:=id hs;unfold Builtin.Slice.sliceApplied Builtin.Slice.sliceFields;refine zk (zk (vG l c (x:=B) rfl (zk (vG l c (x:=C) rfl (zk (vG l c (x:=.none) rfl (zx ?_)))))))
 refine zk (slicePart_none ?_)
 show wpAny _ _ (if((1:Int)==0)=true then _ else _) _ _ s
 rw[zw 1e1]
 refine zk (Jt H (zk (Jt I (zk (zx ?_)))))
 show wpAny _ _ (match Builtin.Slice.sliceAdjust lo g 1 (n:Int) with | (lo,g)=>pure (lo,(1:Int),Builtin.Slice.slicePlaces lo g 1)) _ _ s
 rw[zbh lo g n];show wpAny _ _ (pure (((sIx n 0 lo:Nat):Int),(1:Int),Builtin.Slice.slicePlaces ((sIx n 0 lo:Nat):Int) ((sIx n n g:Nat):Int) 1)) _ _ s;rw[zah];exact zx h
theorem zfh(c:Array Value)(i k:Nat):((List.range k).filterMap λ(m:Nat)=>c[((i:Int)+(m:Int)*1).toNat]?).toArray=((c.toList.drop i).take k).toArray:=by
 have e:(λ(m:Nat)=>c[((i:Int)+(m:Int)*1).toNat]?)=λm=>c[i+m]?:=by
  funext m
  have:((i:Int)+(m:Int)*1).toNat=i+m:=()
  rw[this]
 rw[e];have:=pick_run c i k;rw[List.filterMap_map] at this;have e2:((λx=>c[x]?)∘λx=>i+x)=λm=>c[i+m]?:=rfl
 rw[e2] at this;rw[this]
theorem getItem_tuple_cut{t I:Addr}{c:Array Value}{L M:Value}{lo l:Option Int}{Q:Value->Shared->Prop}(B:IsTup s.heap t c)(hs:s.heap.IsSliceOf I L M .none)(U:IsPart L lo)(Y:IsPart M l)
  (T:¬(sIx c.size 0 lo=0/\sIx c.size c.size l=c.size))
  (h:Q (.ref s.heap.objs.size) { s with heap:=s.heap.push { cls:=.type "tuple",data:=.seq ((c.toList.drop (sIx c.size 0 lo)).take (sIx c.size c.size l-sIx c.size 0 lo)).toArray } })
  (O:c.size<=sizeLine):wpAny 0#j A (getItem (.ref t) (.ref I)) Q E s:=by
 have g:sizeOk (.seq ((c.toList.drop (sIx c.size 0 lo)).take (sIx c.size c.size l-sIx c.size 0 lo)).toArray):=by
  show((c.toList.drop (sIx c.size 0 lo)).take (sIx c.size c.size l-sIx c.size 0 lo)).toArray.size<=sizeLine;rw[zX,qv,ZA,xR];omega
 have hj:sIx c.size c.size l<=c.size:=zja _ _ (zF _) l;obtain⟨os,H,D,N⟩:=id hs;have C:s.TypeIs (.ref I) "slice" :=⟨os,H,D⟩;unfold getItem;try with_reducible refine wv ?_
 first| refine zk (zx ?_) | skip
 refine zk (wpAny_sequenceKey B.typeIs 1e1 ?_)
 refine zk (Qb (name:=Str.ofString "__getitem__") B.typeIs zbg
  (yg zbg B.typeIs entry_tuple_getitem ?_ (args_tuple_getitem _ _)))
 show wpAny _ _ (Builtin.Tuple.tupleItemsOf (.ref t) >>= _) _ _ s;refine zk (tupleItemsOf_ B ?_)
 refine zk (wpAny_typeOf C ?_)
 rw[zC 1e1]
 refine zk (Qk hs U Y ?_)
 have G:¬((((sIx c.size 0 lo:Nat):Int)==0&&(1:Int)==1&&(sIx c.size c.size l-sIx c.size 0 lo)==c.size)=true):=by
  intro q;rw[xP,xP] at q;have q1:((sIx c.size 0 lo:Nat):Int)=0:=eq_of_beq q.1.1;have q2:sIx c.size c.size l-sIx c.size 0 lo=c.size:=eq_of_beq q.2;exact T {(),()}
 show wpAny _ _ (if(((sIx c.size 0 lo:Nat):Int)==0&&(1:Int)==1&&(sIx c.size c.size l-sIx c.size 0 lo)==c.size)=true then _ else _) _ _ s
 rw[zw G,zfh];first
  | exact zk (m:=Builtin.Tuple.tupleExact _) (wz (zx {_,rfl,zx h}) g)
  | exact zk (m:=Builtin.Tuple.tupleExact _) (wz (zk (zx (zx {_,rfl,zx h}))) g)
  | exact zk (zk (m:=Builtin.Tuple.tupleExact _) (wz (zx (zx {_,rfl,zx h})) g))
  | exact zk (zk (m:=Builtin.Tuple.tupleExact _) (wz (zx {_,rfl,zx h}) g))
end
end HT
namespace L2
open PySem PySem.Spec PyProof.Rows
abbrev TO:=St->Hp->(Option Int->Hp->Prop)->Prop
def PO(X:Cx)(e:Option Expr)(t:TO):Prop:=
 ∀(b:List 0#l) (s:Shared) (σ:St) (H:Hp) (Q:Option Int->Hp->Prop),Inv X b σ H s->t σ H Q ->
  wpAny 0#b X.A (evalPart e X.env) (λu g=>∃o c,Inv X b σ c g/\IsPart u o/\Q o c) X.xe s
def zgD:TO:=λ_ H Q=>Q none H
def zko(t:TE):TO:=λσ H Q=>t σ H λx b=>IsI x b λi b=>Q (some i) b
theorem JM{b:List Int}:∀{c:List Value},Vals 0#u c->IntsAre c b:=by
 induction b with
 | nil=>intro c r;rw[wZ] at r;cases r;exact .nil
 | cons n b g=>
  intro c r;rw[jz] at r;cases r with
  | cons l s=>
   obtain⟨t,e⟩:=l;subst e;exact .cons n t (g s)
section
variable{X:Cx}{e:Expr}{g:TE}{lo c:Option Expr}{A w:TO}{B C:Pos}
theorem wS:PO X none zgD:=by
 intro b s σ H Q I h;rw[evalPart_none];exact zx {none,H,I,.none,h}
theorem vf(h:PE X e g):PO X (some e) (zko g):=by
 intro b s σ H Q I E;rw[evalPart_some];refine thn (h b s σ H _ I E) λu s1 ⟨x,l,D,J,G⟩=>?_
 obtain⟨i,rfl,q⟩:=G;obtain⟨t,rfl⟩:=J;exact{some i,l,D,.int i t,q}
def SlR(X:Cx)(r:V->Option Int->Option Int->Hp->VK->Prop):Prop:=
 ∀(b:List 0#l) (s:Shared) (σ:St) (H:Hp) (x:V) (v D E:Value) (lo c:Option Int) (l:Addr) (Q:VK),Inv X b σ H s->RelV x v->s.heap.IsSliceOf l D E .none->IsPart D lo->IsPart E c->r x lo c H Q ->
  ∃T id,typeLookup (.type T) "__getitem__" = pure (some (.builtin id))/\s.TypeIs v T/\wpAny 0#b X.A (getItem v (.ref l)) (EP X b σ Q) X.xe s
def tSl(r:V->Option Int->Option Int->Hp->VK->Prop)(g:TE)(A w:TO):TE:=λσ H Q=>g σ H λx b=>A σ b λl s=>w σ s λu D=>r x l u D Q
theorem vg{r:V->Option Int->Option Int->Hp->VK->Prop}(hr:SlR X r)(he:PE X e g)(hl:PO X lo A)(hu:PO X c w):PE X (.Subscript e (.Slice lo c none C) B) (tSl r g A w):=by
 intro D s σ H Q I h;refine Subscript_ (thn (he D s σ H _ I h) λv s1 ⟨x,M,O,r1,q1⟩=>?_)
 refine wpAny_Slice (thn (hl D s1 σ M _ O q1) λG s2 ⟨l,N,U,pl,q2⟩=>thn (hu D s2 σ N _ U q2) λJ E ⟨u,L,Y,pu,q3⟩=>?_)
 rw[evalPart_none];refine zx ?_
 have I4:Inv X D σ L { E with heap:=E.heap.push { cls:=.type "slice",data:=.fields #[G,J,.none] } }:=Y.kept (t':=E.toks) λb ob q=>qX _ q
 obtain⟨T,id,hT,ht,hg⟩:=hr D { E with heap:=E.heap.push { cls:=.type "slice",data:=.fields #[G,J,.none] } } σ L x v G J l u E.heap.objs.size Q I4 r1 (Heap.IsSliceOf.new ..) pl pu q3;show wpAny 0#b X.A (subscriptTail e (.Slice lo c none C) v (.ref E.heap.objs.size)) (EP X D σ Q) X.xe { E with heap:=E.heap.push { cls:=.type "slice",data:=.fields #[G,J,.none] } };exact tail_any (ops:=[.ref E.heap.objs.size,v]) ht hT hg (by with_unfolding_all rfl)
def jA(b:List V)(lo c:Option Int):List V:=(b.drop (HT.sIx b.length 0 lo)).take (HT.sIx b.length b.length c-HT.sIx b.length 0 lo)
theorem QR(b:List V)(lo c:Option Int):(jA b lo c).length<=b.length:=by
 unfold jA;rw[qv,ZA];omega
inductive zlf(K:W.Frag)(x:V)(lo:Option Int)(c:Option Int)(H:Hp)(Q:VK):Prop
 | mk (a b:_) (_:x=.ref a) (_:SqT K H a b) (_:¬(HT.sIx b.length 0 lo=0/\HT.sIx b.length b.length c=b.length)) (_:∀p,H p=none->Q (.ref p) (upd H p (.tup (jA b lo c)))):zlf K x lo c H Q
theorem zae:SlR X (zlf X.K):=by
 intro J s σ H x v vl vu lo c U Q I O hs M N h;obtain⟨a,D,rfl,hx,L,q⟩:=h;cases O;obtain⟨E,r,G,hz⟩:=I.tuple hx;have l:E.toArray.size=D.length:=by rw[zX];exact r.length.symm
 refine{"tuple",_,zbg.lookup,G.typeIs,?_}
 refine HT.getItem_tuple_cut G hs M N (by rw[l];exact L) ?_ (by rw[l];exact hz)
 rw[l];refine{.ref s.heap.objs.size,_,I.laid (t':=s.toks) (o:=.tup (jA D lo c)) (λb T q=>qX _ q) (zF _) ?_,rfl,q _ (I.hok.fresh (zF _))}
 exact{jN (QR D lo c) hz,_,(r.drop (HT.sIx D.length 0 lo)).take (HT.sIx D.length D.length c-HT.sIx D.length 0 lo),{IsTup.new _ _,_,qQ _ rfl,rfl}}
end
def ixN(n:Nat)(i:Int):Option Nat:=if 0<=i then(if i<n then some i.toNat else none) else if -(n:Int)<=i then some (i+n).toNat else none
def atI{α:Type}(b:List α)(i:Int):Option α:=(ixN b.length i).bind λj=>b[j]?
theorem zcq{n:Nat}{i:Int}{j:Nat}(h:ixN n i=some j):seqIndex? i n=some j/\j<n/\ -(n:Int)<=i/\i<n:=by
 unfold ixN at h;by_cases h0:0<=i
 .rw[zC h0] at h
  by_cases h1:i<n
  .rw[zC h1] at h
   have e:i.toNat=j:=jC h;exact{by rw[seqIndex_of h0 h1,e],(),(),h1}
  .rw[zw h1] at h;cases h
 .rw[zw h0] at h
  by_cases h1:-(n:Int)<=i
  .rw[zC h1] at h
   have e:(i+n).toNat=j:=jC h;exact{by rw[seqIndex_neg () h1,e],(),h1,()}
  .rw[zw h1] at h;cases h
theorem V3{α:Type}{b:List α}{i:Int}{v:α}(h:atI b i=some v):∃j,seqIndex? i b.length=some j/\b[j]? =some v/\j<b.length/\ -(b.length:Int)<=i/\i<b.length:=by
 unfold atI at h;cases e:ixN b.length i with
 | none=>rw[e] at h;cases h
 | some j=>
  rw[e] at h;obtain⟨h1,h2,c,g⟩:=zcq e;exact⟨j,h1,h,h2,c,g⟩
theorem qr{α:Type}{xs:List α}{j:Nat}{v:α}(h:xs[j]? =some v):atI xs (j:Int)=some v:=by
 have b:j<xs.length:=(zK.mp h).1;have e:ixN xs.length (j:Int)=some j:=by
  unfold ixN;rw[zC (),zC ()];simp
 unfold atI;rw[e];exact h
theorem zgg{α:Type}(b:List α)(v:α):atI (b++[v]) (-1)=some v:=by
 have c:(b++[v]).length=b.length+1:=1e3
 have e:ixN (b++[v]).length (-1)=some b.length:=by
  unfold ixN;rw[c,zw 1e1,zC ()]
  congr 1
  omega
 unfold atI;rw[e];show(b++[v])[b.length]? =some v;simp
def zh2(b:Expr):Prop:=∀o i,subscripted b false o i=operate [o,i] (getItem o i)
def IxR(X:Cx)(r:R2):Prop:=
 ∀(g b:Expr) (c:List 0#l) (s:Shared) (σ:St) (H:Hp) (x y:V) (v u:Value) (Q:VK),Inv X c σ H s->RelV x v->RelV y u->r x y H Q ->
  subscripted b false v u=operate [v,u] (getItem v u)->wpAny 0#b X.A (subscriptTail g b v u) (EP X c σ Q) X.xe s
def MtR(X:Cx)(id:String)(r:V->List V->Hp->VK->Prop):Prop:=
 ∀(b:List 0#l) (s:Shared) (σ:St) (H:Hp) (x:V) (g:List V) (v:Value) (c:List Value) (Q:VK),Inv X b σ H s->RelV x v->Vals g c->r x g H Q ->
  wpAny 0#b X.A (call (.builtin id) (v::c)) (EP X b σ Q) X.xe s
section
variable{X:Cx}{a b:Expr}{G J:TE}{E:Pos}
theorem zJ{r:R2}(L:IxR X r)(A:PE X a G)(hb:PE X b J)(hs:zh2 b):PE X (.Subscript a b E) (tOp r G J):=by
 intro c s σ H Q I h;exact Subscript_ (zka A hb I h λv u s2 x y l w M N q=>L a b c s2 σ l x y v u Q w M N q (hs _ _))
inductive zjg(K:W.Frag)(x:V)(y:V)(H:Hp)(Q:VK):Prop
 | mk (p c i v:_) (_:x=.ref p) (_:y=.int i) (_:SqL K H p c) (_:atI c i=some v) (_:Q v H):zjg K x y H Q
inductive zjf(K:W.Frag)(x:V)(y:V)(H:Hp)(Q:VK):Prop
 | mk (p c i v:_) (_:x=.ref p) (_:y=.int i) (_:SqT K H p c) (_:atI c i=some v) (_:Q v H):zjf K x y H Q
inductive zli(x:V)(y:V)(H:Hp)(Q:VK):Prop
 | mk (z i c:_) (_:x=.str z) (_:y=.int i) (_:z.length<=sizeLine) (_:atI z.cps.toList i=some c) (_:Q (.str ⟨#[c]⟩) H):zli  x y H Q
theorem qO:IxR X (zjg X.K):=by
 intro O N c s σ H x y v u Q I rx ry h hs;obtain⟨p,xs,i,z,rfl,rfl,hq,he,q⟩:=h;cases rx;obtain⟨t,rfl⟩:=ry;obtain⟨A,r,L,hz⟩:=I.list hq;obtain⟨j,h1,h2,h3,Y,h5⟩:=V3 he;obtain⟨w,U,M⟩:=r.get h2;have hl:=r.length;have hn:=Qq;have fin:EP X c σ Q w s:=⟨z,H,I,M,q⟩;by_cases h0:0<=i
 .have l:i.toNat=j:=by
   rw[seqIndex_of h0 h5] at h1;exact jC h1
  exact item_listR L.isList h0 () (by rw[l];simpa using U) fin hs
 .have l:(i+(A.toArray.size:Int)).toNat=j:=by
   rw[seqIndex_neg () Y] at h1
   rw[zX,<- hl];exact jC h1
  exact subscriptTail_builtinR (x:=w) L.isList.typeIs slot_list_getitem.lookup
   (wpAny_getItem_list_neg (Q:=λr s'=>r=w/\EP X c σ Q r s') L.isList () (by rw[zX]<;>omega) () (by rw[l];simpa using U) ⟨rfl,fin⟩) hs
theorem qC:IxR X (zjf X.K):=by
 intro L A c s σ H x y v u Q I rx ry h hs;obtain⟨p,xs,i,z,rfl,rfl,hq,O,q⟩:=h;cases rx;obtain⟨t,rfl⟩:=ry;obtain⟨Y,r,M,hz⟩:=I.tuple hq;obtain⟨j,h1,h2,h3,h4,h5⟩:=V3 O;obtain⟨w,N,l⟩:=r.get h2;have U:=r.length;have hn:=Qq;have fin:EP X c σ Q w s:=⟨z,H,I,l,q⟩;exact subscriptTail_builtinR (x:=w) M.typeIs slot_tuple_getitem.lookup
  (getItem_tuple (j:=j) (Q:=λr s'=>r=w/\EP X c σ Q r s') M () () (by rw[zX,<- U];exact h1) (by simpa using N) ⟨rfl,fin⟩) hs
theorem zjW:IxR X zli:=by
 intro w l A s σ H x y v u Q I U Y h hs;obtain⟨z,i,c,rfl,rfl,hz,N,q⟩:=h;obtain⟨t,rfl⟩:=U;obtain⟨t',rfl⟩:=Y;obtain⟨j,h1,h2,h3,L,M⟩:=V3 N;have O:z.cps.toList.length=z.length:=by simp[Str.length]
 rw[O] at h1 L M;have hn:=Qq;exact tail_any (typeIs_str s z t) slot_str_getitem.lookup (getItem_str (c:=c) (by
  have e1:decide (i< -(2^63:Int))=false:=jO ()
  have e2:decide (i≥2^63)=false:=jO ()
  rw[e1,e2,Bool.or_false]) (by rw[h1];simpa using h2) {.str ⟨#[c]⟩,H,I.tok _,{_,rfl},q}) hs
theorem zau(c:List Value)(n j:Nat)(u:Value):Obj.mapSeq (·.setIfInBounds j u) { cls:=.type "list",data:=.seq c.toArray n }={ cls:=.type "list",data:=.seq (c.set j u).toArray n }:=by
 simp[Obj.mapSeq]
theorem Inv.lst{l:List (Addr×Obj)}{σ:St}{H:Hp}{s:Shared}{p:Addr}{w:List V}(I:Inv X l σ H s)(h:H p=some (.lst w)) :
  ∃(c:List Value) (n:Nat),Vals w c/\s.heap.get? p=some { cls:=.type "list",data:=.seq c.toArray n }/\w.length<=sizeLine:=by
 obtain⟨z,c,n,r,e⟩:=I.hok p _ h;exact⟨c,n,r,e,z⟩
theorem Inv.lstUpd{l:List (Addr×Obj)}{σ:St}{H:Hp}{s:Shared}{p:Addr}{O L:List V}{w c:List Value}{n A:Nat}{f:Obj->Obj}(I:Inv X l σ H s)(h:H p=some (.lst O))
  (N:s.heap.get? p=some { cls:=.type "list",data:=.seq w.toArray n }) (M:f { cls:=.type "list",data:=.seq w.toArray n }={ cls:=.type "list",data:=.seq c.toArray A }) (r:Vals L c) (hz:L.length<=sizeLine) (t:Nat) :
  Inv X l σ (upd H p (.lst L)) { s with heap:=s.heap.update p f,toks:=t }:=by
 have e:(s.heap.update p f).get? p=some { cls:=.type "list",data:=.seq c.toArray A }:=by
  rw[QV f N (by rw[M]<;>rfl),M]
 refine I.write (x:=p) (e:=p) (by rw[h];trivial) (.inl rfl) (λb u hb q=>(QL _ _ (qD hb)).trans q) {_,e} ?_
 exact⟨hz,c,A,r,e⟩
inductive ziE(o:V)(i:V)(v:V)(H:Hp)(Q:Hp->Prop):Prop
 | mk (p c k j:_) (_:o=.ref p) (_:i=.int k) (_:H p=some (.lst c)) (_:ixN c.length k=some j) (_:Q (upd H p (.lst (c.set j v)))):ziE  o i v H Q
theorem yo:zkf X ziE:=by
 intro l s σ H o i v ov iv u Q I Y U rv h;obtain⟨p,xs,k,j,rfl,rfl,hp,O,q⟩:=h;cases Y;obtain⟨t,rfl⟩:=U;obtain⟨c,n,r,A,hz⟩:=I.lst hp;obtain⟨h1,h2,M,N⟩:=zcq O;have w:=r.length;have hn:=Qq;have L:Inv X l σ (upd H p (.lst (xs.set j v))) { s with heap:=s.heap.update p (Obj.mapSeq (·.setIfInBounds j u)) }:=
  I.lstUpd hp A (zau c n j u) (r.set rv j) (by rw[QD];exact hz) s.toks
 by_cases h0:0<=k
 .have hk:k.toNat=j:=by
   rw[seqIndex_of h0 N] at h1;exact jC h1
  exact PySem.W.ki_setAt A h0 () (by rw[zX,<- w];exact N) (by rw[hk];exact{_,L,q})
 .have hk:(k+(c.toArray.size:Int)).toNat=j:=by
   rw[seqIndex_neg () M] at h1
   rw[zX,<- w];exact jC h1
  exact PySem.W.ki_setBack A () (by rw[zX,<- w];exact M) () (by rw[hk];exact{_,L,q})
theorem Vx(lo c:Option Int)(n:Nat):(sliceBounds lo c none n).1=((HT.sIx n 0 lo:Nat):Int)/\(sliceBounds lo c none n).2.1=((HT.sIx n n c:Nat):Int)/\(sliceBounds lo c none n).2.2=1:=by
 refine{?_,?_,rfl}
 .cases lo with
  | none=>simp[sliceBounds,HT.sIx]
  | some i=>
   simp only[sliceBounds,HT.sIx,Option.getD_none,show(1:Int)>0 by decide,if_true]
   by_cases h:i<0
   .simp only[h,if_true]<;>omega
   .simp only[h,if_false]<;>omega
 .cases c with
  | none=>simp[sliceBounds,HT.sIx]
  | some i=>
   simp only[sliceBounds,HT.sIx,Option.getD_none,show(1:Int)>0 by decide,if_true]
   by_cases h:i<0
   .simp only[h,if_true]<;>omega
   .simp only[h,if_false]<;>omega
theorem XG(c:List Value)(lo l:Option Int):slicePick c.toArray lo l none=((c.drop (HT.sIx c.length 0 lo)).take (HT.sIx c.length c.length l-HT.sIx c.length 0 lo)).toArray:=by
 obtain⟨h1,h2,s⟩:=Vx lo l c.toArray.size;unfold slicePick;rw[h1,h2,s];simp only[sliceRange_one,pick_run,zX]<;>rfl
inductive zlg(K:W.Frag)(x:V)(lo:Option Int)(c:Option Int)(H:Hp)(Q:VK):Prop
 | mk (a l:_) (_:x=.ref a) (_:SqL K H a l) (_:∀p,H p=none->Q (.ref p) (upd H p (.lst (jA l lo c)))):zlg K x lo c H Q
theorem yT:SlR X (zlg X.K):=by
 intro L s σ H x v vl vu lo w sl Q I U hs N O h;obtain⟨a,c,rfl,hx,q⟩:=h;cases U;obtain⟨M,r,A,hz⟩:=I.list hx;have l:=r.length;refine{"list",_,slot_list_getitem.lookup,A.isList.typeIs,?_}
 refine wpAny_getItem_list_slice A.isList hs N O .none 1e3 ?_ (by rw[zX]<;>omega)
 rw[XG,<- l];refine{.ref s.heap.objs.size,_,I.laid (t':=s.toks) (o:=.lst (jA c lo w)) (λb Y q=>qX _ q) (zF _) ?_,rfl,q _ (I.hok.fresh (zF _))}
 exact{jN (QR c lo w) hz,_,0,(r.drop (HT.sIx c.length 0 lo)).take (HT.sIx c.length c.length w-HT.sIx c.length 0 lo),qQ _ rfl}
def xj:V->Bool
 | .non=>true
 | .bl _=>true
 | .int _=>true
 | .str _=>true
 | _=>false
def eqV:V->V->Bool
 | .non,.non=>true
 | .bl a,.bl b=>a==b
 | .bl a,.int b=>(if a then 1 else 0)==b
 | .int a,.bl b=>a==(if b then 1 else 0)
 | .int a,.int b=>a==b
 | .str a,.str b=>a==b
 | _,_=>false
theorem JT{A:Around}{s:Shared}{y x:V}{u v:Value}(H:RelV y u)(c:RelV x v)(I:xj y=true)(w:xj x=true):SeqAt.EqAt A s u v (eqV y x):=by
 cases y with
 | non=>
  cases H;cases x with
  | non=>cases c;exact Zw _
  | bl b=>cases c;exact SeqAt.EqAt.none_bool b
  | int b=>obtain⟨t,rfl⟩:=c;exact SeqAt.EqAt.none_int b t
  | str b=>obtain⟨t,rfl⟩:=c;exact SeqAt.EqAt.none_str b t
  | _=>exact absurd (show false=true from w) qS
 | bl a=>
  cases H;cases x with
  | non=>cases c;exact SeqAt.EqAt.bool_none a
  | bl b=>cases c;exact SeqAt.EqAt.bool_bool a b
  | int b=>obtain⟨t,rfl⟩:=c;exact SeqAt.EqAt.bool_int a b t
  | str b=>obtain⟨t,rfl⟩:=c;exact SeqAt.EqAt.bool_str a b t
  | _=>exact absurd (show false=true from w) qS
 | int a=>
  obtain⟨l,rfl⟩:=H;cases x with
  | non=>cases c;exact SeqAt.EqAt.int_none a l
  | bl b=>cases c;exact SeqAt.EqAt.int_bool a l b
  | int b=>obtain⟨t,rfl⟩:=c;exact SeqAt.EqAt.int_int a l b t
  | str b=>obtain⟨t,rfl⟩:=c;exact SeqAt.EqAt.int_str a l b t
  | _=>exact absurd (show false=true from w) qS
 | str a=>
  obtain⟨l,rfl⟩:=H;cases x with
  | non=>cases c;exact SeqAt.EqAt.str_none a l
  | bl b=>cases c;exact SeqAt.EqAt.str_bool a l b
  | int b=>obtain⟨t,rfl⟩:=c;exact SeqAt.EqAt.str_int a l b t
  | str b=>obtain⟨t,rfl⟩:=c;exact SeqAt.EqAt.str_str a l b t
  | _=>exact absurd (show false=true from w) qS
 | _=>exact absurd (show false=true from I) qS
def eqU(x:V)(u:Value):Bool:=match u with
 | .none=>eqV .non x
 | .bool b=>eqV (.bl b) x
 | .int i _=>eqV (.int i) x
 | .str z _=>eqV (.str z) x
 | _=>false
theorem zf3{x y:V}{u:Value}(r:RelV y u)(f:xj y=true):eqU x u=eqV y x:=by
 cases y with
 | non=>cases r;rfl
 | bl b=>cases r;rfl
 | int i=>obtain⟨t,rfl⟩:=r;rfl
 | str z=>obtain⟨t,rfl⟩:=r;rfl
 | _=>exact absurd (show false=true from f) qS
theorem Z7{x:V}:∀{c:List V} {l:List Value},Vals c l->c.all xj=true->l.any (eqU x)=c.any λy=>eqV y x
 | _,_,.nil,_=>rfl
 | y::c,u::l,.cons r t,f=>by
  rw[List.all_cons,xP] at f;rw[w9,w9,zf3 r f.1,Z7 t f.2]
theorem yx{A:Around}{s:Shared}{x:V}{v:Value}(H:RelV x v)(w:xj x=true):∀{l:List V} {c:List Value},Vals l c->l.all xj=true->∀u∈c,SeqAt.EqAt A s u v (eqU x u)
 | _,_,.nil,_=>λu hu=>by cases hu
 | y::l,u::c,.cons r t,f=>λI hu=>by
  rw[List.all_cons,xP] at f;rcases qH.mp hu with rfl | hu
  .rw[zf3 r f.1];exact JT r H f.1 w
  .exact yx H w t f.2 I hu
def inV(x:V)(c:List V):Bool:=c.any λy=>eqV y x
inductive rIn(K:W.Frag)(c:Bool)(x:V)(y:V)(H:Hp)(Q:VK):Prop
 | mk (p l:_) (_:y=.ref p) (_:(SqL K H p l\/SqT K H p l)) (_:xj x=true) (_:l.all xj=true) (_:Q (.bl (if c then !inV x l else inV x l)) H):rIn K c x y H Q
theorem vU:OpR X (compareOp .In) (rIn X.K false):=by
 intro M s σ H x y v u Q I N O h;obtain⟨p,U,rfl,hq,L,fs,q⟩:=h;cases O;rcases hq with hq | hq
 .obtain⟨c,r,A,hz⟩:=I.list hq
  refine zaN (eqU x) A.isList (λw l=>yx N L r fs w (by simpa using l)) {.bl _,H,I,rfl,?_}
  rw[show c.toArray.any (eqU x)=c.any (eqU x) by simp,Z7 r fs]
  exact q
 .obtain⟨c,r,A,hz⟩:=I.tuple hq
  refine SeqAt.in_tupleAt (eqU x) A (λw l=>yx N L r fs w (by simpa using l)) {.bl _,H,I,rfl,?_}
  rw[show c.toArray.any (eqU x)=c.any (eqU x) by simp,Z7 r fs]
  exact q
theorem VG:OpR X (compareOp .NotIn) (rIn X.K true):=by
 intro M s σ H x y v u Q I N O h;obtain⟨p,U,rfl,hq,L,fs,q⟩:=h;cases O;rcases hq with hq | hq
 .obtain⟨c,r,A,hz⟩:=I.list hq
  refine SeqAt.notIn_listAt (eqU x) A.isList (λw l=>yx N L r fs w (by simpa using l)) {.bl _,H,I,rfl,?_}
  rw[show c.toArray.any (eqU x)=c.any (eqU x) by simp,Z7 r fs]
  exact q
 .obtain⟨c,r,A,hz⟩:=I.tuple hq
  refine SeqAt.notIn_tupleAt (eqU x) A (λw l=>yx N L r fs w (by simpa using l)) {.bl _,H,I,rfl,?_}
  rw[show c.toArray.any (eqU x)=c.any (eqU x) by simp,Z7 r fs]
  exact q
inductive wm(K:W.Frag)(l:List V)(H:Hp)(Q:VK):Prop
 | mk (p c:_) (_:l=[.ref p]) (_:(SqL K H p c\/SqT K H p c)) (_:Q (.int c.length) H):wm K l H Q
theorem zI:xT X (.builtin "len") (wm X.K):=by
 intro L s σ H Y U Q I r h;obtain⟨p,M,rfl,hq,q⟩:=h;obtain⟨u,rfl,N⟩:=yc r;cases N;have O:=Qq;rcases hq with hq | hq
 .obtain⟨l,A,w,hz⟩:=I.list hq
  have c:=A.length;exact Calls.call_len_list w.isList (by simp only[zX]<;>omega) {.int M.length,H,I.tok _,{s.toks+1,by rw[zX,c]},q}
 .obtain⟨l,A,w,hz⟩:=I.tuple hq
  have c:=A.length;exact len_tuple w (by simp only[zX]<;>omega) {.int M.length,H,I.tok _,{s.toks+1,by rw[zX,c]},q}
inductive yO(K:W.Frag)(s:List V)(H:Hp)(Q:VK):Prop
 | mk (p c:_) (_:s=[.ref p]) (_:(SqL K H p c\/SqT K H p c)) (_:∀l,H l=none->Q (.ref l) (upd H l (.lst c))):yO K s H Q
theorem ZZ:xT X (.type "list") (yO X.K):=by
 intro N s σ H xs us Q I r h;obtain⟨p,Y,rfl,hq,q⟩:=h;obtain⟨u,rfl,rx⟩:=yc r;cases rx;have fin:∀(c:List Value),Vals Y c->Y.length<=sizeLine->∀(l:Heap) (w:Nat),(∀b o',s.heap.get? b=some o'->l.get? b=some o') ->
   l.get? s.heap.objs.size=some { cls:=.type "list",dict:=none,data:=.seq c.toArray w,slots:=#[] }->EP X N σ Q (.ref s.heap.objs.size) { s with heap:=l }:=λc A hz l w M e=>
  {.ref s.heap.objs.size,_,I.laid (t':=s.toks) M (zF _) (show ObjOk X.prog X.w _ l _ (.lst Y) from ⟨hz,c,w,A,e⟩),rfl,q _ (I.hok.fresh (zF _))}
 rcases hq with hq | hq
 .obtain⟨c,A,U,hz⟩:=I.list hq
  have L:=A.length;obtain⟨o,O,hc,n,hd⟩:=U.isList;exact call_list_seq p (.inl rfl) O hc hd (λl w M e=>fin c A hz l w M e) (by simp only[zX]<;>omega)
 .obtain⟨c,A,U,hz⟩:=I.tuple hq
  have L:=A.length;obtain⟨o,O,hc,n,hd⟩:=U;exact call_list_seq p (.inr rfl) O hc hd (λl w M e=>fin c A hz l w M e) (by simp only[zX]<;>omega)
inductive yj(K:W.Frag)(s:List V)(H:Hp)(Q:VK):Prop
 | mk (p c:_) (_:s=[.ref p]) (_:((SqL K H p c/\∀l,H l=none->Q (.ref l) (upd H l (.tup c)))\/(SqT K H p c/\Q (.ref p) H))):yj K s H Q
theorem jJ:xT X (.type "tuple") (yj X.K):=by
 intro c s σ H xs us Q I r h;obtain⟨p,O,rfl,h⟩:=h;obtain⟨u,rfl,rx⟩:=yc r;cases rx;rcases h with ⟨hq,q⟩ | ⟨hq,q⟩
 .obtain⟨l,L,A,hz⟩:=I.list hq
  have N:=L.length;refine call_tuple_list A.isList (λw Y=>?_) (by simp only[zX]<;>omega)
  have M:Inv X c σ H { s with heap:=w }:=I.kept (t':=s.toks) Y;have U:Inv X c σ (upd H w.objs.size (.tup O)) { s with heap:=w.push { cls:=.type "tuple",data:=.seq l.toArray } }:=
   M.laid (t':=s.toks) (λb o e=>qX _ e) (zF _) (show ObjOk X.prog X.w _ _ _ (.tup O) from {hz,l,L,{IsTup.new _ _,_,qQ _ rfl,rfl}})
  exact{.ref w.objs.size,_,U,rfl,q _ (M.hok.fresh (zF _))}
 .obtain⟨l,L,A,hz⟩:=I.tuple hq
  exact call_tuple_same A {.ref p,H,I,rfl,q}
def tyV(K:W.Frag)(T:String)(x:V)(H:Hp):Prop:=match x with
 | .str _=>T = "str"
 | .int _=>T = "int"
 | .ref p=>(T = "list" /\ ∃l,SqL K H p l)\/(T = "tuple" /\ ∃o,K.lookup p=some o/\o.cls=.type "tuple" /\ o.dict=none) \/
   (T = "dict" /\ ((∃c,H p=some (.dK c))\/∃c,H p=some (.dT c)))\/(T = "set" /\ ∃S n,H p=some (.set S n))
 | _=>False
theorem ziW{w:List (Addr×Obj)}{σ:St}{H:Hp}{s:Shared}{T:String}{x:V}{v:Value}(I:Inv X w σ H s)(r:RelV x v)(ty:tyV X.K T x H) :
  s.TypeIs v T/\∀a,v=.ref a->∃L,s.heap.get? a=some L/\L.dict=none:=by
 cases x with
 | str z=>
  obtain⟨t,rfl⟩:=r;cases(show T = "str" from ty)
  exact{typeIs_str s z t,λ_ e=>nomatch e}
 | int i=>
  obtain⟨t,rfl⟩:=r;cases(show T = "int" from ty)
  exact{typeIs_int s i t,λ_ e=>nomatch e}
 | ref p=>
  cases r;rcases ty with ⟨rfl,O,hq⟩ | ⟨rfl,o,hk,hc,hd⟩ | ⟨rfl,hk⟩ | ⟨rfl,S,n,hk⟩
  .obtain⟨N,_,M,_⟩:=I.list hq
   refine{M.isList.typeIs,λa e=>?_}
   cases e;obtain⟨o,n,e,c,hd,_⟩:=M;exact⟨o,e,hd⟩
  .refine{{o,I.kIn p o hk,hc},λa e=>?_}
   cases e;exact{o,I.kIn _ o hk,hd}
  .have z:∃o,s.heap.get? p=some o/\o.ExactDict:=by
    rcases hk with ⟨A,hk⟩ | ⟨A,hk⟩
    .obtain⟨_,_,_,_,o,_,_,e,l,_⟩:=I.hok p _ hk
     exact⟨o,e,l⟩
    .obtain⟨_,_,_,_,o,_,_,e,l,_⟩:=I.hok p _ hk
     exact⟨o,e,l⟩
   obtain⟨o,e,l⟩:=z;refine{⟨o,e,l.1⟩,λa e2=>?_}
   cases e2;exact⟨o,e,l.2.1⟩
  .obtain⟨o,_,_,_,e,l,_⟩:=I.hok p _ hk
   refine{⟨o,e,l.1⟩,λa e2=>?_}
   cases e2;exact⟨o,e,l.2.1⟩
 | _=>exact False.elim ty
def tBM(K:W.Frag)(T:String)(r:V->List V->Hp->VK->Prop)(to:TE)(t:TA):TE:=λσ H Q=>to σ H λx c=>tyV K T x c/\t σ c λs l=>r x s l Q
variable{o e:Expr}{D:List Expr}{to:TE}{t:TA}{B:Str}{C g:Pos}{T id:String}{r:V->List V->Hp->VK->Prop}
theorem xi(pa:PlainAttrs T)(M:Slot T B id)(N:typeOf (.builtin id)=pure (.type "method_descriptor"))(hm:MtR X id r)(ho:PE X o to)(ha:PA X (e::D) t)
  (w:attributeBase o B X.env (eval o X.env)=eval o X.env:=by rfl)
  (L:((backTo g (starEach (e::D) X.env)).all (λx=>!x.1)&&(backToKw g (keywordEach [] X.env)).all (λx=>x.1.isSome)
   && decide ((e::D).length+([]:List Keyword).length+(if([]:List Keyword).isEmpty then 0 else 1)<30))=true:=by rfl)
  (A:(C.endLine==g.line)=true:=by rfl) (hs:starEach (e::D) X.env=(false,eval e X.env)::starEach D X.env:=by rfl) (l:(backTo g (starEach D X.env)).any (·.1)=false:=by rfl) :
  PE X (.Call (.Attribute o B C) (e::D) [] g) (tBM X.K T r to t):=by
 intro c s σ H Q I h;refine wpAny_Call_method_late w L A rfl (thn (ho c s σ H _ I h) λv s1 ⟨x,H1,O,Y,ty,q1⟩=>?_)
 obtain⟨h1,h2⟩:=ziW O Y ty;refine{T,id,pa,M,N,h1,h2,?_}
 have U:=ha g c s1 σ H1 _ O q1;rw[hs] at U ⊢;refine Wu (by show(false||(backTo g (starEach D X.env)).any (·.1))=false;rw[l]<;>rfl) (za3 ?_)
 exact thn U λus s2 ⟨vs,H2,I2,r2,q2⟩=>hm c s2 σ H2 x vs v us Q I2 Y r2 q2
end
def MtM(X:Cx)(id:String)(r:V->List V->Hp->VK->Prop):Prop:=
 ∀(b:List 0#l) (s:Shared) (σ:St) (H:Hp) (x:V) (g:List V) (v:Value) (c:List Value) (Q:VK),Inv X b σ H s->RelV x v->Vals g c->r x g H Q ->
  wpAny 0#b X.A (call (.builtin id) (v::c)) (EP X b σ Q) X.xe s
theorem Vals.one:∀{x:V} {b:List Value},Vals [x] b->∃u,b=[u]/\RelV x u
 | _,_,.cons r .nil=>{_,rfl,r}
theorem Vals.two:∀{x y:V} {b:List Value},Vals [x,y] b->∃u v,b=[u,v]/\RelV x u/\RelV y v
 | _,_,_,.cons r (.cons q .nil)=>{_,_,rfl,r,q}
theorem Vals.eraseIdx:∀{c:List V} {b:List Value} (i:Nat),Vals c b->Vals (c.eraseIdx i) (b.eraseIdx i)
 | _,_,_,.nil=>.nil
 | _,_,0,.cons _ t=>t
 | _,_,i+1,.cons r t=>.cons r (Vals.eraseIdx i t)
theorem Vals.rep{c:List V}{b:List Value}(h:Vals c b):∀k:Nat,Vals (List.replicate k c).flatten (List.replicate k b).flatten
 | 0=>.nil
 | k+1=>by
  rw[Xq,Xq,Wf,Wf];exact Vals.append h (Vals.rep h k)
theorem Vg(c:List Value):∀(k:Nat) (b:List Value),
  List.foldl (λg l=>g++l) b.toArray (List.replicate k c.toArray)=(b++(List.replicate k c).flatten).toArray
 | 0,b=>1e3
 | k+1,b=>by
  have e:b.toArray++c.toArray=(b++c).toArray:=1e3
  have e2:(b++c)++(List.replicate k c).flatten=b++(List.replicate (k+1) c).flatten:=by
   rw[Xq,Wf,je]
  rw[<- e2,<- Vg c k (b++c),<- e,Xq,zaM]
section
variable{X:Cx}{c:List (Addr×Obj)}{σ:St}{H:Hp}{s:Shared}{l b:Addr}{w g A:List V}
theorem Inv.lset{B its':List Value}{n:Nat}{f:Array Value->Array Value}{E:Nat}(I:Inv X c σ H s)(C:H l=some (.lst w))
  (e:s.heap.get? l=some { cls:=.type "list",data:=.seq B.toArray n }) (D:f B.toArray=its'.toArray) (hv:Vals g its') (hz:g.length<=sizeLine) :
  Inv X c σ (upd H l (.lst g)) { s with heap:=s.heap.update l (Obj.mapSeq f),toks:=E }:=by
 have q:=PySem.IsL.update e f;rw[D] at q;refine I.write (x:=l) (e:=l) (by rw[C];exact trivial) (.inl rfl) (λG u hb hu=>(QL s.heap (Obj.mapSeq f) (qD hb)).trans hu) {_,q} ?_
 exact{hz,its',_,hv,q}
theorem Inv.lnew{B:List Value}{t':Nat}(I:Inv X c σ H s)(hv:Vals g B)(hz:g.length<=sizeLine) :
  Inv X c σ (upd H s.heap.objs.size (.lst g)) { s with heap:=s.heap.push { cls:=.type "list",data:=.seq B.toArray },toks:=t' }:=
 I.laid (λ_ _ q=>qX _ q) (zF _) {hz,B,0,hv,qQ _ rfl}
theorem Inv.fresh(I:Inv X c σ H s):H s.heap.objs.size=none:=I.hok.fresh (zF _)
theorem Inv.lstM(I:Inv X c σ H s)(C:H l=some (.lst w)):w.length<=sizeLine/\∃(B:List Value) (n:Nat),Vals w B/\w.length=B.length/\s.heap.get? l=some { cls:=.type "list",data:=.seq B.toArray n }:=by
 obtain⟨z,B,n,r,e⟩:=I.hok l _ C;exact⟨z,B,n,r,r.length,e⟩
theorem JB{n:Nat}(h:n<=sizeLine):Builtin.List.listTooLong n=false:=by
 unfold Builtin.List.listTooLong;exact jO ()
end
section
variable{X:Cx}
inductive zb6(x:V)(c:List V)(H:Hp)(Q:VK):Prop
 | mk (l b y:_) (_:x=.ref l) (_:c=[y]) (_:H l=some (.lst b)) (_:b.length<sizeLine) (_:Q .non (upd H l (.lst (b++[y])))):zb6  x c H Q
theorem jr:MtM X "list.append" zb6:=by
 intro w s σ H x G v E Q I C B h;obtain⟨l,J,y,rfl,rfl,c,hz,q⟩:=h;cases C;obtain⟨u,rfl,A⟩:=B.one;obtain⟨z,b,n,r,D,e⟩:=I.lstM c;refine call_meets F.slot_list_append {_,e,rfl} F.entry_list_append (F.args_list_append_2 _ _) (PySem.list_append l b.toArray n u (by rw[zX];omega)) {e,?_}
 refine{.non,_,I.lset (its':=b++[u]) c e 1e3 (r.append (.cons A .nil)) ?_,rfl,q}
 rw[qh,List.length_singleton];omega
inductive zb3(x:V)(s:List V)(H:Hp)(Q:VK):Prop
 | mk (l b c g:_) (_:x=.ref l) (_:s=[.ref b]) (_:H l=some (.lst c)) (_:H b=some (.lst g)) (_:c.length+g.length<=sizeLine) (_:Q .non (upd H l (.lst (c++g)))):zb3  x s H Q
theorem Qo:MtM X "list.extend" zb3:=by
 intro D s σ H x Y v U Q I O N h;obtain⟨l,b,xs,zs,rfl,rfl,B,E,hz,q⟩:=h;cases O;obtain⟨u,rfl,M⟩:=N.one;cases M;obtain⟨z,g,n,r,T,e⟩:=I.lstM B;obtain⟨z2,c,J,L,G,e2⟩:=I.lstM E;have A:g.toArray.size+c.toArray.size<=sizeLine:=by rw[zX,zX];omega
 have w:¬(!g.toArray.isEmpty&&Builtin.List.listTooLong (g.toArray.size+c.toArray.size))=true:=by
  rw[JB A,zaK];exact qS
 refine call_meets F.slot_list_extend {_,e,rfl} F.entry_list_extend (F.args_list_extend_2 _ _)
  (AutoSeq1.list_extend_list_list_0 l g.toArray n b c.toArray J w (by rw[zX];omega) ()) {e,e2,?_}
 refine{.non,_,I.lset (its':=g++c) B e 1e3 (r.append L) ?_,rfl,q}
 rw[qh];omega
inductive zjh(x:V)(y:V)(H:Hp)(Q:VK):Prop
 | mk (l b c g:_) (_:x=.ref l) (_:y=.ref b) (_:H l=some (.lst c)) (_:H b=some (.lst g)) (_:c.length+g.length<=sizeLine) (_:∀p,H p=none->Q (.ref p) (upd H p (.lst (c++g)))):zjh  x y H Q
theorem xr:OpR X (binaryOp .Add) zjh:=by
 intro w s σ H x y v u Q I G J h;obtain⟨l,b,O,U,rfl,rfl,C,B,hz,q⟩:=h;cases G;cases J;obtain⟨z,g,n,r,L,e⟩:=I.lstM C;obtain⟨T,c,M,E,D,e2⟩:=I.lstM B;refine PySem.P.add_list e e2 ?_ (by rw[zX,zX];omega)
 have A:g.toArray++c.toArray=(g++c).toArray:=1e3
 rw[A];exact{.ref _,_,I.lnew (t':=s.toks) (r.append E) (by rw[qh];omega),rfl,q _ I.fresh}
inductive zlh(x:V)(y:V)(H:Hp)(Q:VK):Prop
 | mk (l k b:_) (_:x=.ref l) (_:y=.int k) (_:H l=some (.lst b)) (_:-(2^63)<=k) (_:k<2^63) (_:b.length*k.toNat<=sizeLine) (_:∀p,H p=none->Q (.ref p) (upd H p (.lst (List.replicate k.toNat b).flatten))):zlh  x y H Q
theorem zht{α:Type}(b:List α)(k:Nat):(List.replicate k b).flatten.length=k*b.length:=by
 induction k with
 | zero=>simp
 | succ k c=>rw[Xq,Wf,qh,c,Nat.succ_mul,Nat.add_comm]
theorem zju:OpR X (binaryOp .Mult) zlh:=by
 intro E s σ H x y v u Q I M N h;obtain⟨l,k,xs,rfl,rfl,J,h1,h2,hz,q⟩:=h;cases M;obtain⟨t,rfl⟩:=N;obtain⟨z,b,n,r,L,e⟩:=I.lstM J;have A:b.toArray.size*k.toNat<=sizeLine:=by rw[zX,<- L];exact hz
 have g:¬b.toArray.size*k.toNat>(2^63-1)/8:=by
  have:(sizeLine:Nat)<=(2^63-1)/8:=1e1
  omega
 have w:¬(!Builtin.List.listFitsIndex k)=true:=by
  rw[fitsIndex_both h1 h2];exact qS
 have c:¬Builtin.List.listTooLong (b.toArray.size*k.toNat)=true:=by
  rw[JB A];exact qS
 have B:List.foldl (λC D=>C++D) #[] (List.replicate (if b.toArray.isEmpty=true then 0 else k.toNat) b.toArray)=(List.replicate k.toNat b).flatten.toArray:=by
  have G:∀m:Nat,List.foldl (λC D=>C++D) #[] (List.replicate m b.toArray)=(List.replicate m b).flatten.toArray:=λm=>by
   have:=Vg b m [];rw[wx] at this;exact this
  rw[G];cases b with
  | nil=>simp
  | cons a Y=>rw[zw 1e3]
 refine wpAny_binaryOp_repeat_ref (T:= "list") (U:= "int") 1e1 {_,e,rfl} (λO=>typeIs_int O k t) noFill_list_mul F.fills_int_mul F.slot_int_rmul repeat_list F.slot_int_index.lookup
  (call_meets F.slot_int_rmul (typeIs_int s k t) F.entry_int_rmul (F.args_int_rmul_2 _ _) (int___rmul___int_list k t l b.toArray n)
   {e,rfl,{_,e,rfl},call_meets F.slot_list_mul {_,e,rfl} F.entry_list_mul (F.args_list_mul_2 _ _) (AutoListH.list___mul___list_int_3 l b.toArray n k t w g c) {e,?_}})
 rw[B];exact{.ref _,_,I.lnew (t':=s.toks) (r.rep k.toNat) (by rw[zht,Nat.mul_comm];exact hz),rfl,q _ I.fresh}
end
section
variable{b:Program}{w:World}{A:Around}{E:Value->Shared->Prop}{s:Shared}
end
section
variable{X:Cx}
end
end L2
namespace Att
open PySem PySem.W PySem.Calls PyProof.Rows
theorem Q7{P:Params}{h:Heap}:∀(c:List Int) (g:List Value),WellAll P h g (c.map WData.int)->IntsAre g c:=by
 intro c;induction c with
 | nil=>
  intro g w;rw[wZ] at w;cases w;exact .nil
 | cons n c l=>
  intro g w;rw[jz] at w;cases w with
  | cons a b=>
   cases a;exact .cons _ _ (l _ b)
theorem zdh{l:OpenLaw}{n:Nat}(H:l.most=some n){P:Params}{h:Heap}{args:List WData}{g:List Value}
  (c:l.row.toRowW.claim.pre args=true) (D:WellAll P h g args) :
  ∃a E b,g=[Value.ref a]/\args=[WData.list (b.map WData.int)]/\h.get? a=some { cls:=.type "list",data:=.seq E.toArray }/\IntsAre E b/\b.length<=n:=by
 have C:WShape.hasAll [] args [.list .int]=true:=(pre_splitW c).1;have hc:l.pre.holds [] { args:=args }=true:=(pre_splitW c).2;obtain⟨d,r,rfl,h1,h2⟩:=hasAllW_cons C;obtain rfl:=hasAllW_nil h2;obtain⟨M,rfl,G⟩:=hasW_list h1;obtain⟨b,rfl⟩:=items_int G;have w:b.length<=n:=by
  unfold OpenLaw.pre at hc;have A:(WTm.not (.lt (.lit (.int (n:Int))) (.len (.arg 0)))).holds [] { args:=[.list (b.map .int)] }=true:=by
   have A:=(holds_andW hc).1;rw[H] at A;exact A
  have B:=condW_of A (w_not (w_lt w_lit (w_len_list (w_arg rfl))));rw[zm] at B;refine Nat.le_of_not_lt λq=>?_
  have J:(n:Int)<((b.length:Nat):Int):=()
  first
   | (rw[qg J] at B;exact absurd B 1e1)
   | (simp at B;omega)
 cases D with
 | cons w1 L=>
  cases L;cases w1 with
  | list I s=>exact{_,_,b,rfl,rfl,I,Q7 b _ s,w}
theorem zdm(l:OpenLaw)(args:List WData):l.row.toRowW.claim.post args (.bool true) args=true:=
 postW_of (r:=l.row.toRowW) (X:=(true==true))
  (show WShape.has [] (.bool true) .bool=true by first| rfl | decide | simp[WShape.has,WShape.arms,WShape.armsAll])
  (show(WTm.eq .res (.lit (.bool true))).value [] { args:=args,res:=some (.bool true),after:=args }=some (.bool (true==true)) from w_eq_bool (w_res rfl) w_lit) rfl
theorem attach_call{l:OpenLaw}{n:Nat}{q:Program}{b:List Str}{XP:(Str->Option Value)->Heap->Prop}{YP:World->Heap->Prop}{d:DefRec}
  (hn:l.most=some n) (N:d.params.defaults=[])
  (call:∀(w:World) (s₀ c:Shared) (I T:Str->Option Value) (B:Addr) (o:Obj) (U H g:Value) (a:Addr) (A:List Value) (J:List Int),
   Ground q b [] XP w s₀ I T c.heap->YP w c.heap ->
   c.heap.get? B=some o->o.data=.func (docDef d.name d.params d.body d.scope U H g)->c.heap.CodeRec H d.name->I d.name=some (.ref B) ->
   c.heap.get? a=some { cls:=.type "list",data:=.seq A.toArray }->IntsAre A J->J.length<=n->c.gens=#[] ->
   codeAny (model l.prog w) callerA (.call (.ref B) {[.ref a],[]}) (λr L=>r=.ok (.ret (.bool true))/\OldK c.heap L.heap/\L.os=c.os/\AllBare L.gens) c) :
  WalkO q b XP YP l.row.toRowW d [] (λf A=>PySem.call f A):=by
 intro w s₀ c I T G Y B o U H g dV kV ho hd M hD O hg args aa as E a0 ac Q ab;obtain rfl:dV=.none:=Dflts.none hD N;obtain rfl:kV=.none:=Dflts.noKw hD;obtain⟨a,A,J,rfl,rfl,D,s,C⟩:=zdh hn E Q;refine enter_call (codeAny_mono (call w s₀ c I T B o U H g a A J G Y ho (fd_plain hd) M O D s C hg) λr L hq=>?_)
 obtain⟨rfl,h2,h3,h4⟩:=hq;exact{.inl {.bool true,.bool true,[],rfl,λ_=>rfl,.bool true,zdm l _,λ_=>{List.Pairwise.nil,λ_ hm=>(nomatch hm)}},h2,h3,h4}
section
variable{b:Program}{w:World}{A:Around}{E:Value->Shared->Prop}{s:Shared}{K:Frag}
def ledger(h:Heap)(L d:Addr):List 0#l:=(List.range h.objs.size).filterMap λa=>if a=L\/a=d then none else(h.get? a).map λo=>(a,o)
end
end Att
namespace L2
open PySem PySem.Spec PyProof.Rows
theorem XO:∀{c:List Value} {b:List Int},IntsAre c b->Vals 0#u c
 | _,_,.nil=>.nil
 | _,_,.cons n t h=>.cons ⟨t,rfl⟩ (XO h)
def zkg(H:Hp):Prop:=∀b,H b=none\/∃o c,H b=some (.frz o (.lst c))
theorem zfT{P:Program}{w:World}{K:W.Frag}{U mb:Str->Option Value}{CX:CXT}{k:Nat}{fa a:Addr}{fd:FuncData}{x:Str}{sp:Sp}{c:Shared}{E:List Value}{Y:List Int}
  (KX:K.In c.heap) (N:c.heap.Ns mainGlobals U) (hb:c.heap.Ns builtinsNs mb) (aa:∀x:Str,x ≠ "__name__" -> mb x=bootBuiltins x) (M:c.heap.NoLimit) (hg:c.gens=#[])
  (ha:c.heap.get? a=some { cls:=.type "list",data:=.seq E.toArray }) (hi:IntsAre E Y) (hl:Y.length<=sizeLine) (hr:Room k callerA)
  (F:∀l:Heap,K.In l->l.Ns mainGlobals U->FnOk P w K U l CX k fa fd [x] sp) (D:∀(s:Shared) (u:Value),BindsTo s fd {[u],[]} [(x,u)])
  (ab:∀H:Hp,zkg H->SqL K H a (Y.map V.int)->sp [.ref a] H (λv _=>v=.bl true) λ_ _ _=>False)
  (a0:∀H e A,CX [] H c (λ_ _ _=>False) e A->False) :
  codeAny (model P w) callerA (.call (.ref fa) {[.ref a],[]}) (λr A=>r=.ok (.ret (.bool true))/\OldK c.heap A.heap/\A.os=c.os/\AllBare A.gens) c:=by
 have rv:=XO hi;have T:=hi.length;have C:∀H:Hp,zkg H->SqL K H a (Y.map V.int)->HOk P w H c.heap->(∀b,H b≠none->b=a)->(H a≠none->K.lookup a=none) ->
   codeAny (model P w) callerA (.call (.ref fa) {[.ref a],[]}) (λr A=>r=.ok (.ret (.bool true))/\OldK c.heap A.heap/\A.os=c.os/\AllBare A.gens) c:=by
  intro H hO hS O hA hK;have g:∀{b:Addr} {o:Obj},c.heap.get? b=some o->H b=none->(VR c.heap H).get? b=some o:=λe n=>zfZ e n
  have ac:∀{b:Addr} {o:Obj} {J:Array DictEntry} {I:Nat},c.heap.get? b=some o->o.data=.dict J I->H b=none:=λ{b o J I} e d=>by
   cases q:H b with
   | none=>rfl
   | some u=>
    have e':b=a:=hA b (by rw[q];simp)
    subst e';rw[ha] at e;cases e
    have d':Data.seq E.toArray _=Data.dict J I:=d;cases d'
  have B:∀{b:Addr} {m:Str->Option Value},c.heap.Ns b m->(VR c.heap H).Ns b m:=λ{b m} ⟨o,J,I,e,d,r⟩=>{o,J,I,g e (ac e d),d,r}
  have L:K.In (VR c.heap H):=λb o e=>g (KX b o e) (by
   cases q:H b with
   | none=>rfl
   | some u=>
    have e':b=a:=hA b (by rw[q];simp)
    subst e';rw[hK (by rw[q];simp)] at e;cases e)
  have hM:Mod K U (VR c.heap H):={L,B N,{mb,B hb,aa},let ⟨mc,h1,h2⟩:=M;{mc,B h1,h2}}
  have e0:zh5 P w K U (VR c.heap H) callerA [] c H:={rfl,hM,λb o e=>zhn e,Zt (zdJ _ _),trivial,λb hb=>absurd (show b∈([]:List Addr) from hb) 1e3,O,.of_eq hg}
  refine codeAny_mono ((F _ L (B N)).run callerA [] c H {[.ref a],[]} [.ref a] [.ref a] _ _ hr e0 (D c (.ref a)) (.cons rfl .nil) (ab H hO hS)) λr A h=>?_
  cases r with
  | error e=>exact(a0 H e A h).elim
  | ok fl=>
   cases fl with
   | next=>exact False.elim h
   | brk=>exact False.elim h
   | cont=>exact False.elim h
   | ret u=>
    obtain⟨v,H',os,G,un,Q,r',q⟩:=h;have q':v=.bl true:=q;subst q';obtain rfl:u=Value.bool true:=r';refine{rfl,OldK.of_keep λb o e=>?_,os,G}
    cases q:H b with
    | none=>exact un.keep b o e q (by intro z;exact absurd (show b∈([]:List Addr) from z) 1e3) 1e3
    | some u=>
     rcases hO b with z | ⟨ob,xs,z⟩
     .rw[q] at z;cases z
     .have z2:=un.frzs b ob _ z
      obtain⟨e1,_⟩:=O b _ z;obtain⟨e2,_⟩:=Q b _ z2;rw[e] at e1;cases e1
      exact e2
 cases hk:K.lookup a with
 | some o=>
  have e:=KX a o hk;rw[ha] at e;cases e;refine C (λ_=>none) (λ_=>.inl rfl) (.inr {_,E.toArray,_,hk,rfl,rfl,rfl,by rw[zX,T];exact hl,by simpa using rv}) (λb u z=>by have z':(none:Option HO)=some u:=z;cases z') (λb z=>absurd rfl z) λz=>absurd rfl z
 | none=>
  refine C (λb=>if b=a then some (.frz { cls:=.type "list",data:=.seq E.toArray } (.lst (Y.map V.int))) else none) (λb=>?_) (.inl (.inr {{ cls:=.type "list",data:=.seq E.toArray },zC rfl})) (λb u z=>?_) (λb z=>?_) λ_=>hk
  .by_cases hb:b=a
   .exact .inr {_,_,zC hb}
   .exact .inl (zw hb)
  .by_cases hb:b=a
   .have z':=(zC hb).symm.trans z
    cases z';subst hb;exact{ha,by rw[zm];exact hl,E,_,rv,ha}
   .have z':=(zw hb).symm.trans z
    cases z'
  .by_cases hb:b=a
   .exact hb
   .exact absurd (zw hb) z
def ZY(s:Stmt):Arguments:=match s with
 | .FunctionDef _ a _ _ _ _ _ _ _ _=>a
 | _=>{ posonlyargs:=[],args:=[],vararg:=none,kwonlyargs:=[],kw_defaults:=[],kwarg:=none,defaults:=[] }
def y8(s:Stmt):List Stmt:=match s with
 | .FunctionDef _ _ b _ _ _ _ _ _ _=>b
 | _=>[]
def zu(s:Stmt):Scope:=match s with
 | .FunctionDef _ _ _ _ _ _ b _ _ _=>b
 | _=>{ kind:=.function,names:=[],isGenerator:=false,isCoroutine:=false }
abbrev CX0:CXT:=λ_ _ _ _ _ _=>False
abbrev E0:XK:=λ_ _ _=>False
theorem zlp{X:Cx}:zbi CX0 X E0:=λ_ _ _ _ _ _ _ h=>h.elim
structure Fun(K:W.Frag)(x qual:Str)(st:Stmt)(f:Addr)(fd:FuncData):Prop where
 ex:∃(oc:Value) (od:Option Addr) (kV doc pm:Value) (an:Option Addr) (cdv ct:Value) (osl:Array (Option Value)),
  fd=PySem.W.fnOf x qual (ZY st) (y8 st) (zu st) .none kV doc pm an cdv ct/\K.lookup f=some {oc,od,.func fd,osl}/\PySem.W.codeIn K cdv qual=true
 kp:PySem.W.keepIn K (.ref f)=true
section
variable{P:Program}{w:World}{K:W.Frag}{c:Str->Option Value}{b:Heap}
theorem Fun.ok{x l:Str}{st:Stmt}{f:Addr}{O:FuncData}{N L:List Str}{k:Nat}{M:Sp}(F:Fun K x l st f O)(S:zD N L (zu st))(J:∀D H Q E,M D H Q E->D.length=L.length)
  (C:∀(B:Value) (A:Around) (g:List Env) (s:Shared) (H:Hp) (D:List V) (Q:VK) (E:XK),Room k (A.deeper (envOfC l (zu st) s.heap.objs.size f B))->M D H Q E ->
   ∃t,PSs (zdQ CX0 P w K c b N l (zu st) f B A g s H E).nox (y8 st) t/\t { nx:=λ_ T=>Q .non T,rt:=Q } (QO N D) H):FnOk P w K c b CX0 (k+1) f O L M:=by
 obtain⟨oc,od,kV,U,pm,an,B,ct,a0,rfl,lk,G⟩:=F.ex;refine zl4 lk G S J λA g s H D Q E Y I=>?_
 obtain⟨t,h,q⟩:=C B A g s H D Q E Y I;exact⟨t,h.nox,q⟩
theorem Fun.binds{x g:Str}{st:Stmt}{f:Addr}{E:FuncData}{C:List Str}(F:Fun K x g st f E)
  (h:∀(kV s B:Value) (A:Option Addr) (l ct:Value) (D:List Value),D.length=C.length->bindArgs (PySem.W.fnOf x g (ZY st) (y8 st) (zu st) .none kV s B A l ct) {D,[]}=pure (C.zip D)):Binds K E C []:=by
 obtain⟨J,L,kV,s,B,A,l,ct,H,rfl,I,G⟩:=F.ex;exact .all (h kV s B A l ct)
end
theorem JN{A:Around}{k:Nat}(b:Room k A):A.units+1<cLine:=yM (za2 (by decide:1<=64) _) b.units
theorem zdf{n:Nat}(h:n<=1000):n<sizeLine:=yM h 1e1
section
variable{X:Cx}
theorem pv(i:Nat){x:Str}{c:Pos}(g:X.N[i]? =some x:=by rfl)(hv:Vis X.env.scope x:=by first| exact Or.inl rfl | exact Or.inr 0#a | exact Or.inr (Or.inr rfl))(hd:0#H=false:=by decide)
  (b:(x==("__classdict__":Str))=false:=by decide):PE X (.Name x c) (ziY i):=zjp g hv hd b
end
theorem j7{c A B:Prop}[Decidable c](h1:c->A)(h2:¬c->B):if c then A else B:=by
 by_cases h:c
 .rw[zC h]
  exact h1 h
 .rw[zw h]
  exact h2 h
def Same(H c:Hp):Prop:=∀b o,H b=some o->c b=some o
theorem Same.refl(H:Hp):Same H H:=λ_ _ h=>h
def ua:=@Same.refl
theorem Same.trans{H g l:Hp}(a:Same H g)(b:Same g l):Same H l:=λc o h=>b c o (a c o h)
theorem Same.free{H b:Hp}(e:Same H b){l:Addr}(h:b l=Option.none):H l=Option.none:=by
 cases q:H l with
 | none=>rfl
 | some o=>
  rw[e l o q] at h;cases h
theorem Same.seq{K:W.Frag}{H b:Hp}{a:Addr}{c:List V}(e:Same H b)(h:SqL K H a c):SqL K b a c:=by
 rcases h with(h | ⟨o,h⟩) | h
 .exact .inl (.inl (e _ _ h))
 .exact .inl (.inr {o,e _ _ h})
 .exact .inr h
end L2
namespace L2
inductive Ex1{b:Sort _}(P:b->Prop):Prop
 | mk (a1:b) (h:P a1):Ex1 P
inductive Ex2{b:Sort _}{c:Sort _}(P:b->c->Prop):Prop
 | mk (a1:b) (a2:c) (h:P a1 a2):Ex2 P
inductive Ex3{b:Sort _}{c:Sort _}{g:Sort _}(P:b->c->g->Prop):Prop
 | mk (a1:b) (a2:c) (a3:g) (h:P a1 a2 a3):Ex3 P
inductive Ex4{b:Sort _}{c:Sort _}{g:Sort _}{l:Sort _}(P:b->c->g->l->Prop):Prop
 | mk (a1:b) (a2:c) (a3:g) (a4:l) (h:P a1 a2 a3 a4):Ex4 P
inductive Ex5{b:Sort _}{c:Sort _}{g:Sort _}{l:Sort _}{s:Sort _}(P:b->c->g->l->s->Prop):Prop
 | mk (a1:b) (a2:c) (a3:g) (a4:l) (a5:s) (h:P a1 a2 a3 a4 a5):Ex5 P
inductive Ex6{b:Sort _}{c:Sort _}{g:Sort _}{l:Sort _}{s:Sort _}{w:Sort _}(P:b->c->g->l->s->w->Prop):Prop
 | mk (a1:b) (a2:c) (a3:g) (a4:l) (a5:s) (a6:w) (h:P a1 a2 a3 a4 a5 a6):Ex6 P
inductive Ex7{b:Sort _}{c:Sort _}{g:Sort _}{l:Sort _}{s:Sort _}{w:Sort _}{A:Sort _}(P:b->c->g->l->s->w->A->Prop):Prop
 | mk (a1:b) (a2:c) (a3:g) (a4:l) (a5:s) (a6:w) (a7:A) (h:P a1 a2 a3 a4 a5 a6 a7):Ex7 P
inductive zmn{s:Sort _}{w:Sort _}{A:Sort _}{B:Sort _}{C:Sort _}{D:Sort _}{E:Sort _}{G:Sort _}{H:Sort _}{b:Sort _}{c:Sort _}(P:s->w->A->B->C->D->E->G->H->b->c->Prop):Prop
 | mk (a1:s) (a2:w) (a3:A) (a4:B) (a5:C) (a6:D) (a7:E) (a8:G) (a9:H) (g:b) (l:c) (h:P a1 a2 a3 a4 a5 a6 a7 a8 a9 g l):zmn P
inductive An2(b c:Prop):Prop
 | mk (h1:b) (h2:c):An2 b c
inductive An4(b c g l:Prop):Prop
 | mk (h1:b) (h2:c) (s:g) (w:l):An4 b c g l
inductive An5(b c g l s:Prop):Prop
 | mk (h1:b) (h2:c) (w:g) (A:l) (B:s):An5 b c g l s
inductive An6(b c g l s w:Prop):Prop
 | mk (h1:b) (h2:c) (A:g) (B:l) (C:s) (D:w):An6 b c g l s w
inductive An7(b c g l s w A:Prop):Prop
 | mk (h1:b) (h2:c) (B:g) (C:l) (D:s) (E:w) (G:A):An7 b c g l s w A
inductive An8(b c g l s w A B:Prop):Prop
 | mk (h1:b) (h2:c) (C:g) (D:l) (E:s) (G:w) (H:A) (I:B):An8 b c g l s w A B
inductive An9(b c g l s w A B C:Prop):Prop
 | mk (h1:b) (h2:c) (D:g) (E:l) (G:s) (H:w) (I:A) (J:B) (L:C):An9 b c g l s w A B C
inductive zmp(c g l s w A B C D b:Prop):Prop
 | mk (h1:c) (h2:g) (G:l) (H:s) (I:w) (J:A) (L:B) (M:C) (N:D) (E:b):zmp c g l s w A B C D b
theorem zlW{α:Type _}{c:List α}(h:c.length=1):∃b,c=[b]:=
 match c,h with
 | [b],_=>⟨b,rfl⟩
theorem zlV{α:Type _}{c:List α}(h:c.length=2):∃b a1,c=[b,a1]:=
 match c,h with
 | [b,a1],_=>⟨b,a1,rfl⟩
theorem zlU{α:Type _}{c:List α}(h:c.length=3):∃b a1 a2,c=[b,a1,a2]:=
 match c,h with
 | [b,a1,a2],_=>⟨b,a1,a2,rfl⟩
theorem zlT{α:Type _}{c:List α}(h:c.length=4):∃b a1 a2 a3,c=[b,a1,a2,a3]:=
 match c,h with
 | [b,a1,a2,a3],_=>⟨b,a1,a2,a3,rfl⟩
theorem zlS{α:Type _}{c:List α}(h:c.length=5):∃b a1 a2 a3 a4,c=[b,a1,a2,a3,a4]:=
 match c,h with
 | [b,a1,a2,a3,a4],_=>⟨b,a1,a2,a3,a4,rfl⟩
theorem zlR{α:Type _}{c:List α}(h:c.length=6):∃b a1 a2 a3 a4 a5,c=[b,a1,a2,a3,a4,a5]:=
 match c,h with
 | [b,a1,a2,a3,a4,a5],_=>⟨b,a1,a2,a3,a4,a5,rfl⟩
end L2
set_option maxHeartbeats 4000000
namespace L2
open PySem PySem.Spec PyProof.Rows
def xA(c:List (Str×Addr)):List (Str×NameKind)->List (Str×Addr)->List (Str×Addr)
 | [],b=>b
 | (n,k)::r,b=>xA c r (if(k==NameKind.free)=true then(n,(c.lookup n).getD 0)::b else b)
theorem zgc{env:Env}(names:List (Str×NameKind)):∀(b:List (Str×Addr)),(∀y∈names,y.2=NameKind.free->∃c,env.cells.lookup y.1=some c) ->
  (forIn names b λ(x:Str×NameKind) (g:List (Str×Addr))=>
   (if(x.2==NameKind.free)=true then(cellOf env x.1 >>= λa=>(pure (ForInStep.yield ((x.1,a)::g)):Sem (ForInStep (List (Str×Addr))))) else pure (ForInStep.yield g)))=(pure (xA env.cells names b):Sem (List (Str×Addr))):=by
 induction names with
 | nil=>intro b _;rfl
 | cons y r l=>
  intro b h;obtain⟨n,k⟩:=y;rw[Wc];by_cases hk:(k==NameKind.free)=true
  .obtain⟨c,hc⟩:=h (n,k) qJ (by simpa using hk)
   have e1:cellOf env n=pure c:=by
    unfold cellOf;rw[show env.cells.lookup n=some c from hc]
   simp only[hk,if_true,e1,pure_bind];rw[l _ λz hz=>h z (xg _ hz)]
   show _=pure (xA env.cells r (if(k==NameKind.free)=true then(n,(env.cells.lookup n).getD 0)::b else b))
   rw[zC hk,show env.cells.lookup n=some c from hc]
   all_goals rfl
  .simp only[hk,pure_bind]
   simp only[QG,if_false,pure_bind];rw[l _ λz hz=>h z (xg _ hz)]
   show _=pure (xA env.cells r (if(k==NameKind.free)=true then(n,(env.cells.lookup n).getD 0)::b else b))
   rw[zw hk]
theorem zcD{g:Env}{b:Scope}(h:∀y∈b.names,y.2=NameKind.free->∃c,g.cells.lookup y.1=some c):closureFor b g=pure (xA g.cells b.names []):=by
 have e:=zgc (env:=g) b.names [] h;unfold closureFor;refine Eq.trans ?_ (Eq.trans (congrArg (λm=>m >>= λl=>(pure l:Sem (List (Str×Addr)))) e) ?_)
 .rfl
 .simp
theorem wX{l:List (Str×Addr)}{x:Str}:∀(names:List (Str×NameKind)) (b:List (Str×Addr)),(xA l names b).lookup x=(if(names.any λy=>y.2==NameKind.free&&x==y.1)=true then some ((l.lookup x).getD 0) else b.lookup x)
 | [],b=>by simp[xA]
 | (n,k)::r,b=>by
  unfold xA;rw[wX r];by_cases c:(r.any λy=>y.2==NameKind.free&&x==y.1)=true
  .rw[zC c,zC (by rw[w9,c,V7])]
  .rw[zw c]
   by_cases hk:(k==NameKind.free)=true
   .rw[zC hk]
    by_cases hx:(x==n)=true
    .rw[zC (by rw[w9];simp only[hk,hx,Bool.and_self,Bool.true_or])]
     have e:x=n:=by simpa using hx
     subst e;simp[we]
    .rw[zw (by rw[w9];simp only[hk,hx,zaK,V8];exact c)]
     have g:(x==n)=false:=by simpa using hx
     simp[we,g]
   .rw[zw hk,zw (by rw[w9];simp only[hk,Bool.false_and,V8];exact c)]
abbrev zQ(X:Cx)(c:List Str)(b:Scope)(C:Addr)(s:Shared)(H:Hp)(ex:List Addr):Cx where
 prog:=X.prog
 w:=X.w
 K:=X.K
 mg:=X.mg
 base:=X.base
 A:=X.A
 N:=c
 s₀:=s
 H₀:=H
 env:=compEnvC b (xA X.env.cells b.names []) C X.env
 outer:=X.stack
 stack:=X.stack
 ex:=ex
 fn:=λ_=>false
 calm:=X.calm
 pn:=[]
 xe:=λ_ _=>False
abbrev vS(g:List Expr)(b:Env):Sem Bool:=
 forIn g true λ(c:Expr) (r:Bool)=>if r=true then(isTrue c b (eval c b) >>= λok=>(pure (ForInStep.yield ok):Sem (ForInStep Bool))) else pure (ForInStep.yield r)
theorem zge{b:Program}{w:World}{A:Around}{R:Result->Shared->Prop}{s:Shared}{B T C:Expr}{D:List Expr}{g:Scope}{H:Pos}{L l:Value}{c:Env}(J:Nat->Shared->Prop)
  (I:∀n s,J n s->wpAny 0#j A (pyNext L) (λr s1=>match r with
   | none=>R (.ok .next) s1
   | some v=>wpAny 0#j A (letOwnedTupleGo T L v) (λ_ s2=>wpAny 0#j A (assign T c v) (λ_ s3=>
     wpAny 0#j A (vS D c) (λok M=>
      if ok=true then wpAny 0#j A (eval B c) (λx N=>
       wpAny 0#j A (call (.builtin "list.append") [l,x]) (λ_ O=>∃m,m<n/\J m O) 0#f N) 0#f M
      else ∃m,m<n/\J m M) 0#f s3) 0#f s2) 0#f s1) 0#f s)
  (n:Nat) (h:J n s):codeAny 0#j A (.compLoop (.ListComp B [{T,C,D,0}] g H) 0 L l c) R s:=by
 have G:∀{α:Type} {t:Sem α} {Q:α->Shared->Prop} {E:Value->Shared->Prop} {s:Shared},wpAny 0#j A t Q 0#f s->wpAny 0#j A t Q E s:=λx=>ja x (λ_ _ q=>q) λ_ _ q=>q.elim
 refine codeAny_loop rfl J (λk u hJ=>?_) n h
 show wpAny _ A ((compTurn (.ListComp B [{T,C,D,0}] g H) 0 L l c).onRaise (λx=>do noteFrame x c;theTreesLotGoes x)) _ _ u
 refine wpAny_noted ?_
 rw[compTurn_list];refine zk (wP (zk (G (ja (I k u hJ) (λr s1 h1=>?_) λ_ _ q=>q))))
 cases r with
 | none=>exact zx h1
 | some v=>
  refine zk (G (ja h1 (λ_ s2 h2=>zk (G (ja h2 (λ_ s3 h3=>zk (G (ja h3 (λok M Y=>?_) λ_ _ q=>q))) λ_ _ q=>q))) λ_ _ q=>q))
  cases ok with
  | false=>exact zx ⟨rfl,Y⟩
  | true=>
   have U:wpAny 0#j A (eval B c) (λx N=>wpAny 0#j A (call (.builtin "list.append") [l,x]) (λ_ O=>∃m,m<k/\J m O) 0#f N) 0#f M:=Y
   refine zk (zk (G (ja U (λx N h5=>zk (G (ja h5 (λ_ O h6=>zx (zx ⟨rfl,h6⟩)) λ_ _ q=>q))) λ_ _ q=>q)))
def PF(X:Cx)(c:List Expr)(t:TT):Prop:=
 ∀(b:List 0#l) (s:Shared) (σ:St) (H:Hp) (Q:Bool->Hp->Prop),Inv X b σ H s->t σ H Q->wpAny 0#b X.A (vS c X.env) (TP X b σ Q) X.xe s
def zl7:TT:=λ_ H Q=>Q true H
theorem qF{X:Cx}:PF X [] zl7:=λb s σ H Q I h=>zx ⟨H,I,h⟩
theorem xh{X:Cx}{c:Expr}{t:TT}(hc:PT X c t):PF X [c] t:=by
 intro b s σ H Q I h;unfold vS;simp only[Wc,zaJ,if_true];refine zk (zk (thn (hc b s σ H Q I h) λok s1 q=>zx (zx q)))
theorem zct{P:Program}{w:World}{H:Hp}{h g:Heap}{C:Addr}(x:HOk P w H h)(l:H C=none)(k:∀b o,b≠C->h.get? b=some o->g.get? b=some o):HOk P w H g:=λb u e=>by
 refine(x b u e).stay (λc v hc q=>k c v ?_ q) (λ_ q=>q) λ_ _ q=>q
 rcases hc with z | z
 .rw[z];exact zj e l
 .exact zj z l
theorem Ve{P:Program}{w:World}{H:Hp}{h:Heap}{a:Addr}{o:HO}(x:HOk P w H h)(l:H a=none)(g:ObjOk P w (upd H a o) h a o):HOk P w (upd H a o) h:=λb u e=>by
 by_cases hb:b=a
 .subst hb;rw[zc] at e;cases e;exact g
 .rw[zp hb] at e
  exact(x b u e).stay (λc v _ q=>q) (λc q=>by rw[zp (zj q l)];exact q) λc s q=>by rw[zp (zj q l)];exact q
theorem WL{fs c:List Addr}{H s:Hp}{h w:Heap}{a:Addr}{o:HO}(u:Un fs c H s h w)(A:a∈c)(g:H a=none):Un fs c H (upd s a o) h w where
 keep:=u.keep
 slot:=u.slot
 free:=λb l q n hx=>by
  have hb:b≠a:=λz=>hx (by rw[z];exact A)
  rw[zp hb];exact u.free b l q n hx
 there:=u.there
 tups:=λb C q=>by rw[zp (zj q g)];exact u.tups b C q
 frzs:=λb l v q=>by rw[zp (zj q g)];exact u.frzs b l v q
 tbls:=λb B q=>by rw[zp (zj q g)];exact u.tbls b B q
theorem zd9{fs l:List Addr}{H g:Hp}{h h1 h2:Heap}{C:Addr}(u:Un fs l H g h h1)(c:h.objs.size<=C)(k:∀b o,b≠C->h1.get? b=some o->h2.get? b=some o):Un fs l H g h h2 where
 keep:=λb o q n hb hx=>k b o (qV (xJ (zU q) c)) (u.keep b o q n hb hx)
 slot:=λb o q n hb hx=>let ⟨w,e⟩:=u.slot b o q n hb hx;{w,k b _ (qV (xJ (zU q) c)) e}
 free:=u.free
 there:=λb o q hx=>let ⟨s,e⟩:=u.there b o q hx;{s,k b _ (qV (xJ (zU q) c)) e}
 tups:=u.tups
 frzs:=u.frzs
 tbls:=u.tbls
def Z6(sn on:List (Str×NameKind))(N b:List Str)(c:List Nat):Bool:=
 sn.all (λy=>y.2 != .cell&&(y.2 != .local||sn.lookup y.1==some .local)&&(y.2 != .free||(on.lookup y.1==some .cell||on.lookup y.1==some .free)))&&b.length==c.length
  && (b.zip c).all λp=>sn.lookup p.1==some .free&&N[p.2]? ==some p.1
structure zgB(sn on:List (Str×NameKind))(N fr:List Str)(js:List Nat):Prop where
 cell:∀y∈sn,y.2≠NameKind.cell
 loc:∀y∈sn,y.2=NameKind.local->sn.lookup y.1=some .local
 free:∀y∈sn,y.2=NameKind.free->on.lookup y.1=some .cell\/on.lookup y.1=some .free
 len:fr.length=js.length
 fr:∀(k:Nat) (x:Str),fr[k]? =some x->sn.lookup x=some .free/\∃j:Nat,js[k]? =some j/\N[j]? =some x
theorem YY{sn on:List (Str×NameKind)}{N c:List Str}{b:List Nat}(h:Z6 sn on N c b=true):zgB sn on N c b:=by
 unfold Z6 at h;rw[xP,xP,vn,vn] at h;obtain⟨⟨h1,h2⟩,s⟩:=h;have g:c.length=b.length:=by simpa using h2
 refine{λy hy=>?_,λy hy e=>?_,λy hy e=>?_,g,λk x e=>?_}
 .have:=h1 y hy
  simp only[xP,bne_iff_ne] at this;exact this.1.1
 .have:=h1 y hy
  simp only[xP,Wb,bne_iff_ne,xH] at this;exact this.1.2.resolve_left λz=>z e
 .have:=h1 y hy
  simp only[xP,Wb,bne_iff_ne,xH] at this;exact this.2.resolve_left λz=>z e
 .have hk:k<c.length:=(zK.mp e).1
  have l:k<b.length:=()
  have w:(x,b[k])∈c.zip b:=by
   refine qz (i:=k) ?_
   rw[List.getElem?_zip_eq_some]
   exact{e,by simp[l]}
  have:=s _ w;simp only[xP,xH] at this;exact{this.1,b[k],by simp[l],this.2}
def upS(n:Nat)(b:List Nat)(σ:St):St:=List.replicate n none++b.map λj=>(σ[j]?).join
def tLC(U:TI)(n:Nat)(C:List Nat)(g:TG)(T:TT)(O:TE):TE:=λσ H Q=>U σ H λJ I=>
 ∃W:Nat->Nat->List V->Hp->Prop,(∃m,W 0 m [] I)/\∀i m l c,W i m l c ->
  (J.stop i c/\l.length<=sizeLine/\∀D,c D=none->Q (.ref D) (upd c D (.lst l))) \/
  (J.go i c/\∃N:List V->Hp->Prop,(∀G w,N G w->∃E,E<m/\W (i+1) E G w)/\∀x A,J.yld i c x A->g x (upS n C σ) A λs L=>s.drop n=(upS n C σ).drop n/\T s L λb B=>
   if b=true then O s B λy M=>l.length<sizeLine/\N (l++[y]) M else N l B)
theorem yp{b:Env}{x:Str}{g:NameKind}:∀{names:List (Str×NameKind)},(names.map λ(n,k)=>if 0#n then(n,NameKind.cell) else(n,k)).lookup x=some g ->
  ∃k,names.lookup x=some k/\(g=k\/(k=.free/\g=.cell))
 | [],h=>by simp at h
 | (n,k)::r,h=>by
  by_cases hx:(x==n)=true
  .refine{k,by simp[we,hx],?_}
   have h:List.lookup x ((if 0#n=true then(n,NameKind.cell) else(n,k))::_)=some g:=h
   by_cases hc:0#n=true
   .rw[zC hc,we,hx] at h
    simp only[xP,xH] at hc;exact .inr {hc.1.1,(jC h).symm}
   .rw[zw hc,we,hx] at h
    exact .inl (jC h).symm
  .have c:(x==n)=false:=by simpa using hx
   have h:List.lookup x ((if 0#n=true then(n,NameKind.cell) else(n,k))::_)=some g:=h
   have h2:(r.map λ(n,k)=>if 0#n then(n,NameKind.cell) else(n,k)).lookup x=some g:=by
    by_cases hc:0#n=true
    .rw[zC hc,we,c] at h;exact h
    .rw[zw hc,we,c] at h;exact h
   obtain⟨l,e,z⟩:=yp h2;exact{l,by rw[we,c];exact e,z}
theorem Zp{env:Env}{x:Str}:∀{names:List (Str×NameKind)},names.lookup x=some .free->∃b,(names.map λ(n,k)=>if(k==NameKind.free&&env.scope.kind==.function&&env.kindOf n==some .cell) then(n,NameKind.cell) else(n,k)).lookup x=some b/\(b=.cell\/b=.free)
 | [],h=>by simp at h
 | (n,k)::r,h=>by
  by_cases hx:(x==n)=true
  .rw[we,hx] at h
   cases(jC h);show ∃b,List.lookup x ((if(NameKind.free==NameKind.free&&env.scope.kind==.function&&env.kindOf n==some .cell)=true then(n,NameKind.cell) else(n,NameKind.free))::_)=some b/\_
   by_cases hc:(NameKind.free==NameKind.free&&env.scope.kind==.function&&env.kindOf n==some .cell)=true
   .rw[zC hc];exact{.cell,by simp[we,hx],.inl rfl}
   .rw[zw hc];exact{.free,by simp[we,hx],.inr rfl}
  .have c:(x==n)=false:=by simpa using hx
   rw[we,c] at h;obtain⟨b,e,z⟩:=Zp (env:=env) (names:=r) h;refine{b,?_,z}
   show List.lookup x ((if(k==NameKind.free&&env.scope.kind==.function&&env.kindOf n==some .cell)=true then(n,NameKind.cell) else(n,k))::_)=some b
   by_cases hc:(k==NameKind.free&&env.scope.kind==.function&&env.kindOf n==some .cell)=true
   .rw[zC hc,we,c];exact e
   .rw[zw hc,we,c];exact e
theorem jy{b:List (Str×Addr)}{names:List (Str×NameKind)}{x:Str}{c:Addr}(h:(xA b names []).lookup x=some c)(s:∀y∈names,y.2=NameKind.free->∃c,b.lookup y.1=some c):b.lookup x=some c:=by
 rw[wX] at h;by_cases g:(names.any λy=>y.2==NameKind.free&&x==y.1)=true
 .rw[zC g] at h
  obtain⟨y,hy,e⟩:=vN.mp g;simp only[xP,xH] at e;obtain⟨w,l⟩:=s y hy e.1;rw[<- e.2] at l;rw[l] at h ⊢;exact h
 .rw[zw g] at h
  cases h
theorem y9{b:List (Str×Addr)}{names:List (Str×NameKind)}{x:Str}(h:names.lookup x=some .free):(xA b names []).lookup x=some ((b.lookup x).getD 0):=by
 rw[wX,zC];exact vN.mpr {(x,.free),Zj h,1e3}
theorem ZH{n:Nat}{b:List Nat}{σ:St}{i:Nat}{v:V}(h:(upS n b σ)[i]? =some (some v)):n<=i/\((upS n b σ).drop n)[i-n]? =some (some v)/\∃j:Nat,b[i-n]? =some j/\σ[j]? =some (some v):=by
 unfold upS at h ⊢;by_cases l:i<n
 .rw[Zl (by simpa using l),List.getElem?_replicate] at h
  split at h<;>cases h
 .have e:(List.replicate n (none:Option V)++b.map λj=>(σ[j]?).join).drop n=b.map λj=>(σ[j]?).join:=by
   rw[List.drop_append_of_le_length 1e3];simp
  rw[Zn (by simpa using l),va] at h
  refine{(),by rw[e];exact h,?_}
  rw[qk] at h;cases c:b[i-n]? with
  | none=>rw[c] at h;cases h
  | some j=>
   rw[c] at h;have h:(σ[j]?).join=some v:=jC h;refine{j,rfl,?_}
   cases g:σ[j]? with
   | none=>rw[g] at h;cases h
   | some o=>rw[g] at h;exact congrArg some h
theorem zbp{n:Nat}{b:List Nat}{σ:St}:(upS n b σ).length=n+b.length:=by unfold upS;simp
section
variable{X:Cx}{E L A:Expr}{G:List Expr}{w:Scope}{M:Pos}{wi:TI}{g:TG}{U:TT}{O:TE}
theorem zdX{N:List (Addr×Obj)}{σ:St}{H:Hp}{s:Shared}{fp:List Addr}(own fr:List Str)(js:List Nat)(I:Inv X N σ H s)(B:zgB w.names X.env.scope.names X.N fr js)(hk:w.kind=.function)
  (f2:∀b∈fp,vc X N H b) (fl:∀b∈fp,b<s.heap.objs.size) {D C:Addr} (hD:D=s.heap.objs.size) {T h1:Heap} (e3:T=s.heap.push { cls:=.type "list",dict:=none,data:=.seq ([]:List Value).toArray }) (hC:C=T.objs.size)
  {m:Str->Option Value} (ae:h1.Ns C m) (k4:∀b o,T.get? b=some o->h1.get? b=some o) {t4:Nat} :
  Inv (zQ X (own++fr) w C { s with heap:=T } H (D::fp)) [] (upS own.length js σ) H { s with heap:=h1,toks:=t4 }:=by
 have k3:∀b o,s.heap.get? b=some o->T.get? b=some o:=λb o e=>by rw[e3];exact qX _ e
 have I3:Inv X N σ H { s with heap:=T }:=I.kept (t':=s.toks) k3;have hz:T.objs.size=s.heap.objs.size+1:=by rw[e3,vH]
 have J:∀y∈w.names,y.2=NameKind.free->∃c,X.env.cells.lookup y.1=some c:=λy hy e=>I.ok.has y.1 (B.free y hy e)
 have Q:∀x c,X.env.cells.lookup x=some c->c<s.heap.objs.size:=λx c e=>by
  obtain⟨v,q⟩:=I.cell x c e;exact q.lt
 refine{{I.ok.mod,hk,I.ok.glob,I.ok.blt,Zt hC.symm,λx y c e1 e2=>?_,λx hx=>?_,λx c hf=>(nomatch hf),λhc=>I.ok.hd hc,I.ok.frames,.inl rfl,λb hb=>?_,I3.bs,jN I.ok.bsz I3.sz,λb o e hb=>?_,λb hb hf=>?_,I3.stack,I3.stkFree},
  rfl,I.bare,Un.kept k4,{m,ae,λi x v e1 e2 af=>?_},λx c e=>?_,?_,λx c e=>?_,λp hp=>absurd (show p∈([]:List 0#l) from hp) 1e3,I3.hok.kept k4,?_}
 .exact I.ok.inj x y c (jy e1 J) (jy e2 J)
 .obtain⟨k,e,z⟩:∃k,w.names.lookup x=some k/\(k=.free):=by
   rcases hx with hx | hx
   .obtain⟨k,e,z⟩:=yp hx
    rcases z with z | z
    .subst z;exact absurd rfl (B.cell _ (Zj e))
    .exact⟨k,e,z.1⟩
   .obtain⟨k,e,z⟩:=yp hx
    rcases z with z | z
    .subst z;exact{_,e,rfl}
    .exact⟨k,e,z.1⟩
  subst z;exact{_,y9 e}
 .rcases qH.mp hb with z | hb
  .subst z
   refine{by rw[hD,hC,hz];exact qV (QE _),λx c e=>?_}
   have:=Q x c (jy e J);rw[hD];exact qV this
  .refine{by rw[hC,hz];exact qV (zaX (fl b hb)),λx c e=>?_}
   exact(f2 b hb).2.2.2.2.1 x c (jy e J)
 .rcases qH.mp hb with z | hb
  .have:=zU (I.bk b o e)
   rw[z,hD] at this;exact wj _ this
  .rcases(f2 b hb).2.2.2.1 with z | z
   .exact I.ok.noex b o e z
   .exact absurd (xJ (zU (I.ok.bs b o e).1) z) (wj _)
 .have aa:=qH.mp (I.stkSub b hf)
  rcases qH.mp hb with z | hb
  .rcases aa with y | y
   .have:=I.lt
    rw[<- y,z,hD] at this;exact wj _ this
   .exact I.nofs (a:=b) (by rw[z,hD];exact zF _) y
  .rcases aa with y | y
   .exact(f2 b hb).2.1 y
   .exact(f2 b hb).2.2.1 y
 .obtain⟨hn,_,j,ej,es⟩:=ZH e2
  have ex:fr[i-own.length]? =some x:=by rw[Zn hn] at e1;exact e1
  obtain⟨Y,j',a0,eN⟩:=B.fr _ x ex;have:j'=j:=by rw[ej] at a0;exact(jC a0).symm
  subst this;have ab:=B.free _ (Zj Y) rfl;obtain⟨m0,_,hl⟩:=I.loc;obtain⟨u,r,l⟩:=hl j' x v eN es (by rcases ab with z | z;exact .inr (.inl z);exact .inr (.inr z))
  refine{u,r,.inr ?_}
  rcases l with ⟨kl,_⟩ | ⟨_,c,ec,o,eo,ed⟩
  .have ac:X.env.scope.names.lookup x=some .local:=kl
   rcases ab with z | z
   .exact absurd (z.symm.trans ac) 1e1
   .exact absurd (z.symm.trans ac) 1e1
  .obtain⟨k',e',z⟩:=Zp (env:=X.env) Y
   have eq:(xA X.env.cells w.names []).lookup x=some c:=by rw[y9 Y,ec];rfl
   refine{?_,c,eq,o,k4 c o (k3 c o eo),ed}
   rcases z with z | z
   .subst z;exact .inl e'
   .subst z;exact .inr e'
 .obtain⟨v,o,eo,ed⟩:=I.cell x c (jy e J)
  exact{v,o,k4 c o (k3 c o eo),ed}
 .exact I3.hok.fresh (Zt hC.symm)
 .exact I.freeC x c (jy e J)
 .rw[zbp,<- B.len]
  show _=(own++fr).length;rw[qh]
inductive LcJ(Y:Cx)(D:Addr)(H:Nat->Heap->Prop)(C:List Addr)(c:List 0#l)(σ:St)(W:Nat->Nat->List V->Hp->Prop)(n:Nat)(s:Shared):Prop
 | mk (i:Nat) (I:List V) (l:List Value) (B:Hp) (z:Nat) (_:Inv Y c σ B s) (_:H i s.heap) (_:∀b∈C,B b=none) (_:B D=none) (_:s.heap.get? D=some { cls:=.type "list",data:=.seq l.toArray z }) (_:Vals I l) (_:W i n I B):LcJ Y D H C c σ W n s
inductive LcE(Y:Cx)(D:Addr)(b:List 0#l)(σ:St)(N:List V->Hp->Prop)(s:Shared):Prop
 | mk (B:List V) (c:List Value) (l:Hp) (z:Nat) (_:Inv Y b σ l s) (_:l D=none) (_:s.heap.get? D=some { cls:=.type "list",data:=.seq c.toArray z }) (_:Vals B c) (_:N B l):LcE Y D b σ N s
theorem zcm{Y:Cx}{D it:Addr}{B:List Addr}{tn:Nat->Heap->Prop}{J:It}{c:List 0#l}{σ4:St}{Kp:St->Prop}{W:Nat->Nat->List V->Hp->Prop}{N:List V->Hp->Prop}{n:Nat}{I:Shared}
  (hc:Y.calm=true) (hx:Y.xe=λ_ _=>False) (hg:PG Y L g) (hf:PF Y G U) (he:PE Y E O) (T:ZF Y.prog Y.w Y.K L J B it tn)
  (fD:∀s:Hp,s D=none->vc Y c s D) (f2:∀b∈B,∀s:Hp,s b=none->vc Y c s b) (nD:∀b∈B,D≠b) (bk:∀σ9 s s',Inv Y c σ9 s s'->Kp σ9->Inv Y c σ4 s s')
  (an:∀i m zs H7,W i m zs H7->(J.stop i H7/\N zs H7)\/(J.go i H7/\∃N2:List V->Hp->Prop,(∀zs s,N2 zs s->∃m',m'<m/\W (i+1) m' zs s)/\∀x H8,J.yld i H7 x H8->g x σ4 H8 λσ9 H9=>Kp σ9/\U σ9 H9 λb Q=>
    if b=true then O σ9 Q λy ao=>zs.length<sizeLine/\N2 (zs++[y]) ao else N2 zs Q)) (j:LcJ Y D tn B c σ4 W n I) :
  wpAny 0#w Y.A (pyNext (.ref it)) (λr s1=>match r with
   | none=>LcE Y D c σ4 N s1
   | some v=>wpAny 0#w Y.A (letOwnedTupleGo L (.ref it) v) (λ_ s2=>wpAny 0#w Y.A (assign L Y.env v) (λ_ s3=>
     wpAny 0#w Y.A (vS G Y.env) (λok s4=>
      if ok=true then wpAny 0#w Y.A (eval E Y.env) (λx I=>
       wpAny 0#w Y.A (call (.builtin "list.append") [.ref D,x]) (λ_ s6=>∃m,m<n/\LcJ Y D tn B c σ4 W m s6) 0#f I) 0#f s4
      else ∃m,m<n/\LcJ Y D tn B c σ4 W m s4) 0#f s3) 0#f s2) 0#f s1) 0#f I:=by
 unfold PG at hg;unfold PF at hf;unfold PE at he
 rw[hx] at hg hf he;obtain⟨i,ys,C,H5,z5,I5,am,ai,ar,al,aa,w5⟩:=j;have ah:=I5.pinned (fp:=[D]) (λb hb=>by rw[qm.mp hb];exact fD _ ar) (λb hb=>by rw[qm.mp hb];exact{_,al,λv q=>nomatch q})
 have mD:(D,({ cls:=.type "list",data:=.seq C.toArray z5 }:Obj))∈c++ju [D] I.heap:=qW _ (jW (qm.mpr rfl) al);have af:∀{s:Hp},(∀b∈B,s b=none)->∀b∈B,vc Y (c++ju [D] I.heap) s b:=λhn b hb=>by
  obtain⟨a1,a2,a3,a4,a5,a6⟩:=f2 b hb _ (hn b hb);refine{a1,a2,a3,a4,a5,λp hp=>?_}
  rcases zV.mp hp with q | q
  .exact a6 p (qw _ q)
  .rcases zV.mp q with q | q
   .exact a6 p (qW _ q)
   .rw[qm.mp (wL q).1];exact nD b hb
 rcases an i n ys H5 w5 with ⟨stop,q⟩ | ⟨go,N2,hN,step⟩
 .refine thn (T.done Y rfl rfl rfl hc i _ I _ H5 _ ah (af ai) am stop) λr s6 ⟨hr,I6⟩=>?_
  subst hr;obtain⟨o6,aw,_⟩:=I6.pin (D,_) (qW _ mD);exact⟨ys,C,H5,z5,I6.unpinned,aw,o6,aa,q⟩
 .refine thn (T.item Y rfl rfl rfl hc i _ I _ H5 _ ah (af ai) am go) λr s6 ⟨u,hr,h6⟩=>?_
  subst hr;refine thn h6 λ_ s7 ⟨x,H7,I7,r7,y7,ab,aq⟩=>?_
  refine thn (hg _ s7 _ H7 x u _ (I7.pinned (af aq) (T.obj _ _ ab)) r7 (step x H7 y7)) λ_ s8 ⟨σ8,H8,I8,as,q8⟩=>?_
  refine thn (hf _ s8 σ8 H8 _ I8 q8) λok s9 ⟨H9,I9,q9⟩=>?_
  have ag:=qW Y.pn (qw (ju B s7.heap) mD);have mF:∀b∈B,∀o,s7.heap.get? b=some o->(b,o)∈Y.pn++((c++ju [D] I.heap)++ju B s7.heap):=λb hb o e=>qW _ (qW _ (jW hb e))
  generalize hP:(c++ju [D] I.heap)++ju B s7.heap=P at I9 ag mF he;have ae:∀{s:Hp} {s':Shared},Inv Y P σ8 s s'->Inv Y c σ4 s s':=λ{s s'} J=>by subst hP;exact bk _ _ _ (J.unpinned).unpinned as
  have aj:∀{s:Hp} {s':Shared},Inv Y P σ8 s s'->∀b∈B,s b=none:=λ{s s'} J b hb=>by
   obtain⟨o,e,_⟩:=T.obj _ _ ab b hb;exact(J.pin (b,o) (mF b hb o e)).2.1
  cases ok with
  | false=>
   obtain⟨m',hm,w'⟩:=hN _ _ (show N2 ys H9 by simpa using q9)
   obtain⟨o9,ax,_⟩:=I9.pin (D,_) ag;exact{m',hm,i+1,ys,C,H9,z5,ae I9,T.keep _ _ _ ab λb hb o e=>(I9.pin (b,o) (mF b hb o e)).1,aj I9,ax,o9,aa,w'}
  | true=>
   refine thn (he _ s9 σ8 H9 (λy H6=>ys.length<sizeLine/\N2 (ys++[y]) H6) I9 (by simpa using q9)) λyv b0 ⟨y,Q,a0,az,au,ba⟩=>?_
   obtain⟨m',hm,w'⟩:=hN _ _ ba;obtain⟨ay,H,_⟩:=a0.pin (D,_) ag;refine wpAny_list_append_plain (l:=D) (items:=C.toArray) (hsz:=by rw[zX,<- aa.length];exact Xf au) {_,ay} λbc ak ac=>?_
   obtain⟨bb,ap⟩:=ak;obtain⟨d0,d1,d2,d3,d4,d5⟩:=fD _ H;refine{m',hm,i+1,ys++[y],C++[yv],Q,bb,?_,T.keep _ _ _ ab λb hb o e=>ac.extBut b o (qD (nD b hb)) (a0.pin (b,o) (mF b hb o e)).1,aj a0,H,?_,aa.append (.cons az .nil),w'}
   .exact(ae a0).turned (t':=b0.toks) (it:=D) (λb o hb e=>ac.extBut b o hb e) H d1 d3 d4 d5
   .rw[ap];simp
theorem zgb{use:Option (Value->Sem Unit)}{Qx:Value->Shared->Prop}{cp:Pos}{rest:List Comprehension}{l:List 0#l}{s:Shared}{σ:St}{H:Hp}{Q:VK}{Tl:It->(Nat->Nat->List V->Hp->Prop)->Prop}(own fr:List Str)(js:List Nat)(hk:w.kind=.function)(hb:Z6 w.names X.env.scope.names X.N fr js=true)(hi:PI X L A wi)
  (hs:∀x,foldedSetIterable A X.env x=pure x) (I:Inv X l σ H s) (h:wi σ H λJ H1=>∃W:Nat->Nat->List V->Hp->Prop,(∃m,W 0 m [] H1)/\Tl J W)
  (ah:∀(C D it:Addr) (N:List Addr) (tn:Nat->Heap->Prop) (J:It) (W:Nat->Nat->List V->Hp->Prop) (Y:Hp) (s3 s4:Shared) (m0:Nat) (R:Result->Shared->Prop),(∀b∈D::N,∀H':Hp,H' b=none->vc (zQ X (own++fr) w C s3 Y (D::N)) [] H' b)->(∀b∈N,D≠b) ->
   ZF X.prog X.w X.K L J N it tn->Tl J W->LcJ (zQ X (own++fr) w C s3 Y (D::N)) D tn N [] (upS own.length js σ) W m0 s4 ->
   (∀s6,LcE (zQ X (own++fr) w C s3 Y (D::N)) D [] (upS own.length js σ) (λys H5=>ys.length<=sizeLine/\∀D,H5 D=none->Q (.ref D) (upd H5 D (.lst ys))) s6->R (.ok .next) s6) ->
   codeAny 0#b X.A (.compLoop (.ListComp E ({L,A,G,0}::rest) w M) 0 (.ref it) (.ref D) (compEnvC w (xA X.env.cells w.names []) C X.env)) R s4)
  (fin:∀(s6:Shared) (D C:Addr) (H6:Hp) (m:Str->Option Value),s6.heap.Ns C m->(∀h7:Heap,(∀b o,b≠C->s6.heap.get? b=some o->h7.get? b=some o)->Inv X l σ H6 { s6 with heap:=h7 })->vc X l H6 C->Q (.ref D) H6->compPost 0#b X.A X.xe use Qx (.ref D) C (.ok .next) s6) :
  wpAny 0#b X.A (comprehension (.ListComp E ({L,A,G,0}::rest) w M) w X.env cp (newList []) false (eval A X.env) use) Qx X.xe s:=by
 have B:=YY hb;have a0:∀y∈w.names,y.2=NameKind.free->∃c,X.env.cells.lookup y.1=some c:=λy hy e=>I.ok.has y.1 (B.free y hy e)
 refine wpAny_comprehension_free rfl hs (zcD a0) hk (λy hy e=>B.loc y hy e) (thn (hi l s σ H _ I h) λv s1 h1=>thn h1 λaq s2 h2=>?_)
 obtain⟨it,N,tn,J,Y,e,I2,T,ae,f2,W,⟨m0,w0⟩,tl⟩:=h2;subst e;have fl:∀b∈N,b<s2.heap.objs.size:=λb hb=>let ⟨o,e,_⟩:=T.obj _ _ ae b hb;zU e
 refine wz (wpAny_newFunctionEnv B.cell (by intro y hy;simp at hy) (λh1 ab ac=>?_) hk)
 dsimp only at ab ac ⊢;generalize e3:s2.heap.push { cls:=.type "list",dict:=none,data:=.seq ([]:List Value).toArray }=h3 at ab ac ⊢;have k3:∀b o,s2.heap.get? b=some o->h3.get? b=some o:=λb o e=>by rw[<- e3];exact qX _ e
 have k4:∀b o,h3.get? b=some o->h1.get? b=some o:=λb o e=>ac.extBut b o (qV (zU e)) (qX _ e)
 have I4:Inv (zQ X (own++fr) w h3.objs.size { s2 with heap:=h3 } Y (s2.heap.objs.size::N)) [] (upS own.length js σ) Y { s2 with heap:=h1,toks:=s2.toks+([]:List (Str×Value)).length }:=
  zdX own fr js I2 B hk f2 fl rfl e3.symm rfl ab k4
 have I3:Inv X l σ Y { s2 with heap:=h3 }:=I2.kept (t':=s2.toks) k3;have hz:h3.objs.size=s2.heap.objs.size+1:=by rw[<- e3,vH]
 have aa:s2.heap.objs.size≠h3.objs.size:=by rw[hz];exact qV (QE _)
 have af:h1.get? s2.heap.objs.size=some { cls:=.type "list",data:=.seq ([]:List Value).toArray }:=k4 _ _ (by rw[<- e3];exact qQ _ rfl)
 have ak:=(I3.fpOk (b:=h3.objs.size) (zF _) (I3.hok.fresh (zF _))).2;have dN:Y s2.heap.objs.size=none:=I2.hok.fresh (zF _);have dO:=I2.fpOk (b:=s2.heap.objs.size) (zF _) dN;have fD:∀b∈N,s2.heap.objs.size≠b:=λb hb=>vL (fl b hb)
 generalize s2.heap.objs.size=D at *
 generalize eC:h3.objs.size=C at *
 have hx:∀b,vc X l Y b->∀x c,(xA X.env.cells w.names []).lookup x=some c->c≠b:=λb hb x c e=>hb.2.2.2.2.1 x c (jy e a0)
 have ao:∀b∈D::N,b∉frs X.stack:=I4.ok.exfs;have nC:∀b∈D::N,b≠C:=λb hb=>by
  rcases qH.mp hb with z | hb
  .rw[z];exact aa
  .exact(I4.ok.exf b (xg _ hb)).1
 have all:∀b∈D::N,vc X l Y b:=λb hb=>by
  rcases qH.mp hb with z | hb
  .rw[z];exact dO
  .exact f2 b hb
 have aj:∀b∈D::N,∀H':Hp,H' b=none->vc (zQ X (own++fr) w C { s2 with heap:=h3 } Y (D::N)) [] H' b:=λb hb H' hn=>
  {hn,nC b hb,ao b hb,.inl hb,λx c e=>hx b (all b hb) x c e,λp h=>absurd h 1e3}
 have go:∀s4:Shared,s4={ s2 with heap:=h1,toks:=s2.toks+([]:List (Str×Value)).length } ->
   codeAny 0#b X.A (.compLoop (.ListComp E ({L,A,G,0}::rest) w M) 0 (.ref it) (.ref D) (compEnvC w (xA X.env.cells w.names []) C X.env)) (compPost 0#b X.A X.xe use Qx (.ref D) C) s4:=by
  intro s4 e4;subst e4;refine ah C D it N tn J W Y _ _ m0 _ aj fD T tl {0,[],[],Y,0,I4,T.keep _ _ _ ae λb hb o e=>k4 b o (k3 b o e),λb hb=>(f2 b hb).1,dN,af,.nil,w0} λs6 h6=>?_
  obtain⟨ys,an,H5,z5,I6,ai,o6,ap,ag,q⟩:=h6;obtain⟨m6,am,_⟩:=I6.loc;have al:upd H5 D (.lst ys) C=none:=by rw[zp (qD aa)];exact I6.free
  refine fin s6 D C (upd H5 D (.lst ys)) m6 am (λh7 k7=>?_) ⟨al,ak⟩ (q D ai)
  refine I3.call' (s':={ s6 with heap:=h7 }) (ch:=D::N) I6.os (WL (zd9 I6.base (Zt eC) k7) qJ dN) (Ve (zct I6.hok I6.free k7) ai {ag,an,z5,ap,k7 D _ aa o6}) I6.bare λb hb=>?_
  obtain⟨_,g1,_,g3,g4,g5⟩:=all b hb;exact⟨g3,g1,g4,g5⟩
 exact codeAny_compStart_list (go _ rfl) (T.self X.A 0 _ _ _ (T.keep _ _ _ ae λb hb o e=>k4 b o (k3 b o e)) (go _ rfl))
theorem WJ{Y:Cx}{b:List (Addr×Obj)}{n:Nat}{c:List Nat}{σ B:St}{l:Hp}{s:Shared}(C:(upS n c σ).length=Y.N.length)(J:Inv Y b B l s)(hd:B.drop n=(upS n c σ).drop n):Inv Y b (upS n c σ) l s:=by
 refine J.weak (C.trans J.len.symm) λk v e=>?_
 obtain⟨D,e1,_⟩:=ZH e;rw[<- hd,Wm] at e1;rw[<- e1];congr 1
 omega
theorem zcn{C D it:Addr}{c:List Addr}{tn:Nat->Heap->Prop}{J:It}{W:Nat->Nat->List V->Hp->Prop}{H2:Hp}{s3 s4:Shared}{m0 n:Nat}{R:Result->Shared->Prop}{js:List Nat}{σ:St}{l:List Str}{N:List V->Hp->Prop}(hc:X.calm=true)
  (hg:∀C s H ex,PG (zQ X l w C s H ex) L g) (hf:∀C s H ex,PF (zQ X l w C s H ex) G U) (he:∀C s H ex,PE (zQ X l w C s H ex) E O) (aa:∀b∈D::c,∀Q:Hp,Q b=none->vc (zQ X l w C s3 H2 (D::c)) [] Q b) (fD:∀b∈c,D≠b) (T:ZF X.prog X.w X.K L J c it tn)
  (ab:∀i m B H7,W i m B H7->(J.stop i H7/\N B H7)\/(J.go i H7/\∃N2:List V->Hp->Prop,(∀B Q,N2 B Q->∃m',m'<m/\W (i+1) m' B Q)/\∀x H8,J.yld i H7 x H8->g x (upS n js σ) H8 λσ9 H9=>σ9.drop n=(upS n js σ).drop n/\U σ9 H9 λb a0=>
    if b=true then O σ9 a0 λy ac=>B.length<sizeLine/\N2 (B++[y]) ac else N2 B a0))
  (j:LcJ (zQ X l w C s3 H2 (D::c)) D tn c [] (upS n js σ) W m0 s4) (fin:∀s6,LcE (zQ X l w C s3 H2 (D::c)) D [] (upS n js σ) N s6->R (.ok .next) s6) :
  codeAny 0#b X.A (.compLoop (.ListComp E [{L,A,G,0}] w M) 0 (.ref it) (.ref D) (compEnvC w (xA X.env.cells w.names []) C X.env)) R s4:=by
 have hl:=(let ⟨_,_,_,_,_,I,_,_,_,_,_,_⟩:=j;I.len:(upS n js σ).length=l.length)
 refine zge (LcJ (zQ X l w C s3 H2 (D::c)) D tn c [] (upS n js σ) W) (λk s5 j=>ja (zcm (Y:=zQ X l w C s3 H2 (D::c)) hc rfl (hg _ _ _ _) (hf _ _ _ _) (he _ _ _ _) T (aa D qJ) (λb hb=>aa b (xg _ hb)) fD (λσ9 Q s' J hd=>WJ hl J hd) ab j) (λr s6 h6=>?_) λ_ _ q=>q) m0 j
 cases r with
 | some v=>exact h6
 | none=>exact fin s6 h6
theorem zfo(own l:List Str)(N:List Nat)(hc:X.calm=true)(hk:w.kind=.function)(hb:Z6 w.names X.env.scope.names X.N l N=true)(hi:PI X L A wi)
  (hg:∀C s H c,PG (zQ X (own++l) w C s H c) L g) (hf:∀C s H c,PF (zQ X (own++l) w C s H c) G U) (he:∀C s H c,PE (zQ X (own++l) w C s H c) E O)
  (hs:∀x,foldedSetIterable A X.env x=pure x:=by intro _;rfl):PE X (.ListComp E [{L,A,G,0}] w M) (tLC wi own.length N g U O):=by
 intro Y s σ H Q I h;rw[eval_ListComp];exact zgb (rest:=[]) own l N hk hb hi hs I h (λC D it fp tn J W H2 s3 s4 m0 R a b T tl j fin=>zcn hc hg hf he a b T tl j fin) λs6 D C H6 m hn all _ q=>{m,hn,λh7 B=>{.ref D,H6,all h7 λb o hb e=>B.extBut b o hb e,rfl,q}}
end
section
variable{X:Cx}{g:List (Addr×Obj)}{σ:St}{H:Hp}{s:Shared}
theorem Je{ch:List Addr}{h':Heap}{t':Nat}{T:Addr}{A:List V}{its:List Value}(I:Inv X g σ H s)(w:∀b∈ch,vc X g H b)(B:s.heap.objs.size<=T)
  (k:∀b o,b∉ch->s.heap.get? b=some o->h'.get? b=some o) (N:A.length<=sizeLine) (Y:Vals A its) (U:TupX h' T its.toArray) :
  Inv X g σ (upd H T (.tup A)) { s with heap:=h',toks:=t' }:=by
 have l:H T=none:=I.hok.fresh B;have ne:∀b o,s.heap.get? b=some o->b≠T:=λb o e=>qV (xJ (zU e) B)
 have C:∀b u,H b=some u->b∉ch:=λb u e hb=>by rw[(w b hb).1] at e;cases e
 refine I.step (g':=s.gens) (d':=s.drawn) (ch:=ch) (λb hb=>?_) (λb o _ _ hc e _=>k b o hc e) (λb o _ _ hc e _=>{o.slots,k b o hc e}) (λb o _ e n=>by rw[zp (ne b o e)];exact n) (λb o hc e=>{o,k b o hc e})
  (λb xs e=>by rw[zp (zj e l)];exact e) (λb o u e=>by rw[zp (zj e l)];exact e) (λb ps e=>{#[],by rw[zp (zj e l),e];simp}) (λm O=>?_) (λb u e=>?_) I.bare
 .obtain⟨_,G,_,J,L,M⟩:=w b hb
  exact⟨J,G,L,M⟩
 .obtain⟨o,E,D,Q,r⟩:=O
  exact{o,E,D,k _ o (λz=>(w _ z).2.1 rfl) Q,r}
 .by_cases hb:b=T
  .subst hb
   rw[zc] at e;cases e;exact⟨N,its,Y,U⟩
  .rw[zp hb] at e
   refine(I.hok b u e).stay (λc v hc q=>k c v ?_ q) (λc q=>by rw[zp (zj q l)];exact q) λc xs q=>by rw[zp (zj q l)];exact q
   rcases hc with z | z
   .rw[z];exact C b u e
   .exact C c _ z
end
def Ite(K:W.Frag)(a:Addr):It:=
 {λi H=>∃b x,SqL K H a b/\b[i]? =some x,λi H x c=>∃T y,x=.ref T/\H T=none/\c=upd H T (.tup [.int i,y])/\∀b,SqL K H a b->b[i]? =some y,λi H=>∃b,SqL K H a b/\b.length<=i}
theorem zc8{P:Program}{w:World}{K:W.Frag}{N:List Expr}{kk:Nat}{aj:Pos}(a e B:Addr)(J:e≠B) :
  ZF P w K (.Tuple N kk aj) (Ite K a) [e,B] e (λi h=>(∃G,IsEnum h e B i G)/\h.IsListIter B a i) where
 mem:=1e3
 obj:=λi h st b hb=>by
  obtain⟨⟨G,g⟩,⟨o,ho,c,d⟩⟩:=st;rcases qH.mp hb with z | z
  .subst z;exact{_,g,λv q=>nomatch q}
  .rw[qm.mp z];exact{o,ho,λv q=>by rw[d] at q;cases q}
 keep:=λi h h' st k=>by
  obtain⟨⟨G,g⟩,hi⟩:=st;exact{{G,k e 1e3 _ g},hi.at λo q=>k B 1e3 o q}
 item:=by
  intro X hP hw hK hc i Y s σ H E I hf st hg;subst hP hw hK;obtain⟨⟨G,g⟩,l⟩:=st;obtain⟨xs,x,hq,hx⟩:=hg;obtain⟨C,rv,p,hz⟩:=I.list hq;obtain⟨u,hu,ru⟩:=rv.get hx;have M:=p.isList;have O:a≠B:=λz=>by
   obtain⟨o,e1,c1,_⟩:=M;obtain⟨o',e2,c2,_⟩:=l;rw[z,e2] at e1;cases e1;rw[c2] at c1;exact absurd (yJ c1) 1e1
  have aa:e≠a:=λz=>by
   obtain⟨o,e1,c1,_⟩:=M;rw[<- z,g] at e1;cases e1;exact absurd (yJ c1) 1e1
  have D:=Draws.list (prog:=X.prog) (w:=X.w) (A:=X.A.in1) (I.ok.hd hc) B a O C.toArray;have hi:i<C.toArray.size:=by
   have h1:=(zK.mp hu).1;simpa using h1
  refine wpAny_pyNext_enum_itemD D g ⟨l,M⟩ hi J (by simp[J,aa]) λx' h' tk a0 Q U hT am hk=>?_
  have ex:x'=u:=by
   have h2:C[i]? =some x':=by simpa using a0
   rw[hu] at h2;exact(jC h2).symm
  subst ex;refine{_,rfl,wpAny_letOwnedTupleGo_enum Q λh2 af L=>?_}
  have eT:s.heap.objs.size≠e:=vL (zU g);have k2:∀b o,b∉[e,B]->s.heap.get? b=some o->h2.get? b=some o:=λb o hb q=>by
   have n1:b≠e:=λz=>hb (by simp[z])
   have n2:b≠B:=λz=>hb (by simp[z])
   exact(L.2 b n1).trans (hk b o n1 n2 q)
  have ai:h2.IsListIter B a (i+1):=U.1.extBut L.extBut (qD J);refine{.ref s.heap.objs.size,upd H s.heap.objs.size (.tup [.int i,x]),?_,rfl,{_,x,rfl,I.hok.fresh (zF _),rfl,λys hy=>by rw[I.list_inj hy hq];exact hx},{{_,by simpa using af},ai},λb hb=>?_}
  .refine Je (s:=s) (h':=h2) (t':=tk+1) (its:=[.int i tk,x']) I hf (zF _) k2 (by rw[sizeLine_eq];exact(by decide:2<=16777216)) (.cons ⟨tk,rfl⟩ (.cons ru .nil)) (TupX.by ((L.2 _ eT).trans hT))
  .have ab:b<s.heap.objs.size:=by
    rcases qH.mp hb with z | z
    .rw[z];exact zU g
    .rw[qm.mp z]
     obtain⟨o',e',_⟩:=l;exact zU e'
   rw[zp (qV ab)];exact(hf b hb).1
 done:=by
  intro X hP hw hK hc i Y s σ H E I hf st hg;subst hP hw hK;obtain⟨⟨G,g⟩,l⟩:=st;obtain⟨xs,hq,hx⟩:=hg;obtain⟨C,rv,p,hz⟩:=I.list hq;have M:=p.isList;have O:a≠B:=λz=>by
   obtain⟨o,e1,c1,_⟩:=M;obtain⟨o',e2,c2,_⟩:=l;rw[z,e2] at e1;cases e1;rw[c2] at c1;exact absurd (yJ c1) 1e1
  obtain⟨f0,f1,f2,f3,f4,f5⟩:=hf B 1e3
  have ag:C.toArray.size<=i:=by
   have:=rv.length;simp only[zX];omega
  have hT:s.TypeIs (.ref e) "enumerate" :={_,g,rfl};unfold pyNext;refine zk (Zu (Qb (name:=Str.ofString "__next__") hT Ws (yg Ws hT F.entry_enumerate_next ?_ (F.args_enumerate_next_1 _))))
  show wpAny _ _ (field (.ref e) 2 >>= _) _ _ _;refine zk (vG g rfl (x:=.ref B) rfl (zk (wpAny_nextOf_list_end (I.ok.hd hc) l M (by simpa using ag) λh' x ae ah=>?_)))
  obtain⟨o,ho,ac⟩:=ah;refine zk (yL (T:= "StopIteration") (b:=true) ⟨o,ho,ac⟩ isSubtype_stop ?_)
  exact zx {rfl,I.turned (t':=s.toks) (λb o hb q=>ae b o hb q) f0 f1 f3 f4 f5}
 self:=λ_ _ _ _ _ st h=>let ⟨⟨_,g⟩,_⟩:=st;wpAny_pyIter_enum g h
section
variable{X:Cx}
def zl3(K:W.Frag)(c:TA):TI:=λσ H R=>c σ H λg b=>∃a,g=[.ref a]/\(∃l,SqL K b a l)/\R (Ite K a) b
theorem VC{l:Expr}{E:TA}{p A tp:Pos}{g:List Expr}{T:Nat}(hg:Gl X "enumerate")(N:X.mg "enumerate" = none)(L:PA X [l] E)(hs:starEach [l] X.env=[(false,eval l X.env)]:=by rfl) :
  PI X (.Tuple g T tp) (.Call (.Name "enumerate" p) [l] [] A) (zl3 X.K E):=by
 intro c s σ H R I h;refine Call_ (wE I hg N boot_enumerate (J9 (thn (L A c s σ H _ I h) λus s1 ⟨vs,C,B,r1,Y⟩=>?_) hs rfl))
 obtain⟨a,e,⟨xs,hq⟩,q⟩:=Y;subst e;obtain⟨u,rfl,ru⟩:=yc r1;cases ru;obtain⟨Q,rv,U,hz⟩:=B.list hq;refine call_enumerate_list U.isList λJ D M O hk=>wpAny_pyIter_enum D ?_
 have G:Inv X c σ C { s1 with heap:=J }:=B.kept (t':=s1.toks) hk;refine{s1.heap.objs.size+1,[s1.heap.objs.size+1,s1.heap.objs.size],_,_,C,rfl,G,zc8 a _ _ (Nat.succ_ne_self _),{{_,D},M},λb hb=>?_,q}
 have w:s1.heap.objs.size<=b:=by
  rcases qH.mp hb with z | z
  .rw[z];exact QB _
  .rw[qm.mp z];exact zF _
 exact B.fpOk w (B.hok.fresh w)
theorem JQ{K:W.Frag}{a:Addr}{xs:List V}{g:TG}{B:TS}{D:XM}{σ:St}{H:Hp}(Pv:Nat->St->Hp->Prop)(h0:Pv 0 σ H)(G:∀i σ H,i<=xs.length->Pv i σ H->SqL K H a xs)
  (hs:∀i x σ H T,xs[i]? =some x->Pv i σ H->H T=none->g (.ref T) σ (upd H T (.tup [.int i,x])) λw l=>B { D with nx:=Pv (i+1),ct:=Pv (i+1),bk:=D.nx } w l) (hd:∀σ H,Pv xs.length σ H->D.nx σ H) :
  ∃W:Nat->Nat->St->Hp->Prop,(∃m,W 0 m σ H)/\∀i m σ H,W i m σ H ->
   ((Ite K a).stop i H/\D.nx σ H)\/((Ite K a).go i H/\∃N:St->Hp->Prop,(∀s b,N s b->∃A,A<m/\W (i+1) A s b)/\∀x b,(Ite K a).yld i H x b->g x σ b λw l=>B { D with nx:=N,ct:=N,bk:=D.nx } w l):=by
 fail"b"
 rintro i m σ H ⟨rfl,E,p⟩;have q:=G i σ H E p;by_cases c:i<xs.length
 .refine .inr {{xs,xs[i],q,by simp[c]},Pv (i+1),λs b I=>{xs.length-(i+1),(),rfl,c,I},λx b y=>?_}
  obtain⟨T,z,e1,C,e2,y⟩:=y;subst e1 e2;exact hs i z σ H T (y xs q) p C
 .have e:i=xs.length:=()
  subst e;exact .inl {{xs,q,zF _},hd σ H p}
inductive Q4(K:W.Frag)(c:List V)(H:Hp)(Q:VK):Prop
 | mk (p:Addr) (b:List Bool) (_:c=[.ref p]) (_:SqL K H p (b.map V.bl)) (_:Q (.bl (b.all id)) H):Q4 K c H Q
theorem x8(hc:X.calm=true):xT X (.builtin "all") (Q4 X.K):=by
 intro N s σ H xs us Q I r h;obtain⟨p,c,rfl,hq,q⟩:=h;obtain⟨u,rfl,J⟩:=yc r;cases J;obtain⟨g,L,pl,hz⟩:=I.list hq;have E:=pl.isList;have G:p≠s.heap.objs.size:=by
  obtain⟨o,e,_⟩:=E;exact qV (zU e)
 refine call_all_walk (wpAny_pyIter_list E ?_)
 refine{s.heap.objs.size,_,_,_,_,_,λi=>c.getD i true,rfl,Xb (prog:=X.prog) (w:=X.w) (A:=X.A.in1) (I.ok.hd hc) _ p G g.toArray,{{_,qQ _ rfl,rfl,rfl},E.push _},?_,λh' tk hk=>?_}
 .intro i v s' T E' D hQ
  have D:g.toArray[i]? =some v:=D;have e1:g[i]? =some v:=by simpa using D
  have l:i<c.length:=by
   have h1:=(zK.mp e1).1;have h2:=L.length;rw[zm] at h2;omega
  have e2:(c.map V.bl)[i]? =some (.bl c[i]):=by simp[l]
  obtain⟨u',M,J⟩:=L.get e2;rw[e1] at M;cases M;cases J;have U:c.getD i true=c[i]:=by simp[l]
  have B:T (c.getD i true) s':=hQ;rw[U] at B;exact Zh B
 .have k:∀b o,s.heap.get? b=some o->h'.get? b=some o:=λb o e=>hk b o (by simp;exact qV (zU e)) (qX _ e)
  have Y:(List.range g.toArray.size).all (λi=>c.getD i true)=c.all id:=by
   have C:g.toArray.size=c.length:=by
    have:=L.length;rw[zm] at this;simp only[zX];omega
   rw[C,vm,vn,vn];constructor
   .intro h b hb
    obtain⟨i,l,rfl⟩:=QJ.mp hb;have:=h i (xB.mpr l);simpa [l] using this
   .intro h i l
    have l:=xB.mp l;have:=h c[i] (wc l);simpa [l] using this
  exact{.bl (c.all id),H,I.kept k,by rw[Y];rfl,q}
end
def SqK(K:W.Frag)(c:Bool)(H:Hp)(a:Addr)(b:List V):Prop:=match c with
 | true=>SqL K H a b
 | false=>SqT K H a b
def SeqK(c:Bool)(h:Heap)(a:Addr)(b:Array Value):Prop:=match c with
 | true=>h.IsList a b
 | false=>h.IsTuple a b
def ItrK(c:Bool)(h:Heap)(b a:Addr)(i:Nat):Prop:=match c with
 | true=>h.IsListIter b a i
 | false=>h.IsTupleIter b a i
theorem SeqK.at{kd:Bool}{h c:Heap}{a:Addr}{b:Array Value}(x:SeqK kd h a b)(k:∀o,h.get? a=some o->c.get? a=some o):SeqK kd c a b:=by
 cases kd with
 | true=>exact Heap.IsList.at x k
 | false=>obtain⟨o,e,r⟩:=(show h.IsTuple a b from x);exact{o,k o e,r}
theorem ItrK.at{kd:Bool}{h c:Heap}{b a:Addr}{i:Nat}(x:ItrK kd h b a i)(k:∀o,h.get? b=some o->c.get? b=some o):ItrK kd c b a i:=by
 cases kd with
 | true=>exact Heap.IsListIter.at x k
 | false=>obtain⟨o,e,r⟩:=(show h.IsTupleIter b a i from x);exact{o,k o e,r}
theorem ItrK.obj{g:Bool}{h:Heap}{b a:Addr}{i:Nat}(x:ItrK g h b a i):∃o,h.get? b=some o/\(o.cls=.type "list_iterator" \/ o.cls=.type "tuple_iterator")/\∀v,o.data≠.cell v:=by
 cases g with
 | true=>obtain⟨o,e,c,d⟩:=(show h.IsListIter b a i from x);exact{o,e,.inl c,λv q=>by rw[d] at q;cases q}
 | false=>obtain⟨o,e,c,d⟩:=(show h.IsTupleIter b a i from x);exact{o,e,.inr c,λv q=>by rw[d] at q;cases q}
theorem SeqK.cls{g:Bool}{h:Heap}{a:Addr}{b:Array Value}(x:SeqK g h a b):∃o,h.get? a=some o/\(o.cls=.type "list" \/ o.cls=.type "tuple")/\∃n,o.data=.seq b n:=by
 cases g with
 | true=>obtain⟨o,e,c,n,d⟩:=(show h.IsList a b from x);exact{o,e,.inl c,n,d}
 | false=>obtain⟨o,e,c,n,d⟩:=(show h.IsTuple a b from x);exact{o,e,.inr c,n,d}
section
variable{l:Program}{w:World}{A:Around}{E:Value->Shared->Prop}{s:Shared}
theorem wU{kd:Bool}{c a:Addr}{i:Nat}{g:Array Value}{x:Value}{Q:Value->Shared->Prop}(I:ItrK kd s.heap c a i)(J:SeqK kd s.heap a g)(hx:g[i]? =some x)
  (H:∀C,ItrK kd C c a (i+1)->Heap.SameBut c s.heap C->Q x { s with heap:=C }):wpAny 0#D A (Builtin.SmallTypes.nextOf (.ref c)) Q E s:=by
 cases kd with
 | true=>exact wpAny_nextOf_list_item I J hx H
 | false=>
  have b:s.heap.IsTupleIter c a i:=I;obtain⟨o,B,hc,hd⟩:=id b;obtain⟨M,G,_,nl,D⟩:=(show s.heap.IsTuple a g from J)
  unfold Builtin.SmallTypes.nextOf;refine zk (Qb (name:=Str.ofString "__next__") b.typeIs WA (yg WA b.typeIs zgr ?_ (zgt _)))
  show wpAny _ _ (field (.ref c) 0 >>= _) _ _ _;refine zk (vG B hd (x:=.ref a) rfl ?_)
  show wpAny _ _ (if(Value.ref a==Value.none)=true then _ else _) _ _ _;rw[zw (show ¬((Value.ref a==Value.none)=true) from qS)]
  show wpAny _ _ (field (.ref c) 1 >>= _) _ _ _;refine zk (vG B hd (x:=.int i 0) rfl ?_)
  show wpAny _ _ (seqItems? (.ref a) >>= _) _ _ _;refine zk (ye G D ?_);simp only[vO,hx]
  refine zk (wpAny_setField B hd 1e3 (zx {x,rfl,zx (H _ (show Heap.IsTupleIter _ _ _ _ from ?_) (ZC ..))}))
  refine{_,QV _ B (za6 (Xo hd _)),(zaW ..).trans hc,?_};rw[Xo hd];simp[rawInt]
theorem yY{kd:Bool}{g a:Addr}{i:Nat}{c:Array Value}{Q:Value->Shared->Prop}(D:A.handled=none)(J:ItrK kd s.heap g a i)(L:SeqK kd s.heap a c)(hx:c[i]? =none)
  (I:∀B e,Heap.ExtBut g s.heap B->(∃o,B.get? e=some o/\o.cls=.type "StopIteration")->E (.ref e) { s with heap:=B }):wpAny 0#D A (Builtin.SmallTypes.nextOf (.ref g)) Q E s:=by
 cases kd with
 | true=>exact wpAny_nextOf_list_end D J L hx I
 | false=>
  have b:s.heap.IsTupleIter g a i:=J;obtain⟨o,G,hc,hd⟩:=id b;obtain⟨N,H,_,nl,C⟩:=(show s.heap.IsTuple a c from L)
  unfold Builtin.SmallTypes.nextOf;refine zk (Qb (name:=Str.ofString "__next__") b.typeIs WA (yg WA b.typeIs zgr ?_ (zgt _)))
  show wpAny _ _ (field (.ref g) 0 >>= _) _ _ _;refine zk (vG G hd (x:=.ref a) rfl ?_)
  show wpAny _ _ (if(Value.ref a==Value.none)=true then _ else _) _ _ _;rw[zw (show ¬((Value.ref a==Value.none)=true) from qS)]
  show wpAny _ _ (field (.ref g) 1 >>= _) _ _ _;refine zk (vG G hd (x:=.int i 0) rfl ?_)
  show wpAny _ _ (seqItems? (.ref a) >>= _) _ _ _;refine zk (ye H C ?_);simp only[vO,hx]
  refine zk (wb (zk (wpAny_setField G hd 1e3 ?_)));show wpAny _ _ (newExc (.type "StopIteration") [] >>= _) _ _ _
  refine zk ?_;simp only[newExc,newTuple];refine zk (wz ?_ (by size_fits))
  refine zk (m:=firstArgMember _ _) (QA (a:=Value.none) (by first| rfl | (simp only[firstArgMember];rfl)) (wz ?_ (by size_fits)))
  simp only[raiseNew];refine zk (wpAny_handled ?_);first| rw[show A.in1.handled=none from D] | rw[D]
  exact zk (zx (wpAny_throw (I _ _ (((ZC ..).extBut.push _).push _) {_,qQ _ rfl,rfl})))
structure Vp(k1 k2:Bool)(h:Heap)(z TI TO i1 i2 a1 a2:Addr)(i:Nat):Prop where
 zz:IsZip h z TI TO .none
 ti:IsPair h TI (.ref i1) (.ref i2)
 to:∃a b,IsPair h TO a b
 r1:ItrK k1 h i1 a1 i
 r2:ItrK k2 h i2 a2 i
structure zcI(z TI TO i1 i2:Addr):Prop where
 a:TI≠z
 b:TO≠z
 c:i1≠z
 d:i2≠z
 e:TI≠TO
 f:TI≠i1
 g:TI≠i2
 h:TO≠i1
 i:TO≠i2
 j:i1≠i2
theorem zcJ{k1 k2:Bool}{z TI TO C J a1 a2:Addr}{i:Nat}{xs ys:Array Value}{x y:Value}{Q:Option Value->Shared->Prop}(N:zcI z TI TO C J)(Z:Vp k1 k2 s.heap z TI TO C J a1 a2 i)
  (l1:SeqK k1 s.heap a1 xs) (l2:SeqK k2 s.heap a2 ys) (m1:∀b∈[z,TO,C,J],a1≠b) (m2:∀b∈[z,TO,C,J],a2≠b) (hx:xs[i]? =some x) (hy:ys[i]? =some y)
  (hQ:∀L,IsZip L z TI TO (rawInt s.heap.objs.size)->IsPair L TI (.ref C) (.ref J)->(∃a b,IsPair L TO a b)->ItrK k1 L C a1 (i+1)->ItrK k2 L J a2 (i+1)->IsPair L s.heap.objs.size x y->L.objs.size=s.heap.objs.size+1 ->
   (∀c o,c∉[z,TO,C,J]->s.heap.get? c=some o->L.get? c=some o)->Q (some (.ref s.heap.objs.size)) { s with heap:=L }):wpAny 0#D A (pyNext (.ref z)) Q E s:=by
 obtain⟨hz,ag,⟨a,b,ak⟩,h1,h2⟩:=Z;have hT:s.TypeIs (.ref z) "zip" :={_,hz,rfl};unfold pyNext;refine zk (Zu (Qb (name:=Str.ofString "__next__") hT Wa (yg Wa hT F.entry_zip_next ?_ (F.args_zip_next_1 _))))
 show wpAny _ _ (field (.ref z) 2 >>= _) _ _ _;refine zk (vG hz rfl (x:=.bool false) rfl ?_)
 show wpAny _ _ (field (.ref z) 3 >>= _) _ _ _;refine zk (vG hz rfl (x:=.ref TI) rfl (zk (ye ag rfl ?_)))
 show wpAny _ _ (Builtin.SmallTypes.ownedTupleIsFree (.ref z) >>= _) _ _ _;refine zk ?_
 unfold Builtin.SmallTypes.ownedTupleIsFree;refine zk (vG hz rfl (x:=.none) rfl (zx ?_));simp only[if_true]
 refine zk (wb (zk (vG hz rfl (x:=.ref TO) rfl (zk (QF hz 1e3 λg1 ac G=>?_)))))
 replace ac:IsZip g1 z TI TO .ellipsis:=ac
 refine zk ?_;simp only[List.zipIdx_cons,List.zipIdx_nil,Wc,zaJ]
 refine zk (zk (wpAny_onRaise ?_));show wpAny _ _ (Builtin.SmallTypes.nextOf (.ref C) >>= _) _ _ _
 refine zk (wU (h1.at λo e=>G.extBut _ o N.c e) (l1.at λo e=>G.extBut _ o (m1 z 1e3) e) hx λg2 ai M=>zx ?_)
 have U:IsPair g2 TO a b:=M.extBut _ _ N.h (G.extBut _ _ N.b ak);refine zk (ye U rfl (zk (wpAny_updateSeq_pair U λg3 D O=>?_)))
 replace D:IsPair g3 TO x b:=D
 refine zk (Zs (zx ?_));refine zk (zk (wpAny_onRaise ?_));show wpAny _ _ (Builtin.SmallTypes.nextOf (.ref J) >>= _) _ _ _
 have a0:∀c o,c∉[z,TO,C]->s.heap.get? c=some o->g3.get? c=some o:=λc o hc e=>O.extBut _ o 0#s (M.extBut _ o 0#s (G.extBut _ o 0#s e))
 refine zk (wU (h2.at λo e=>a0 _ o (by simp[N.d,qD N.i,qD N.j]) e) (l2.at λo e=>a0 _ o (by simp[m2 z 1e3,m2 TO 1e3,m2 C 1e3]) e) hy λg4 aj H=>zx ?_)
 have Y:IsPair g4 TO x b:=H.extBut _ _ N.i D;refine zk (ye Y rfl (zk (wpAny_updateSeq_pair Y λg B I=>?_)))
 replace B:IsPair g TO x y:=B
 refine zk (Zs (zx (zx (zk (ye B rfl (zk (wpAny_newTuple ?_)))))))
 have zs:g.objs.size=s.heap.objs.size:=by rw[I.1,H.1,O.1,M.1,G.1]
 have ah:IsZip g z TI TO .ellipsis:=I.extBut _ _ (qD N.b) (H.extBut _ _ (qD N.d) (O.extBut _ _ (qD N.b) (M.extBut _ _ (qD N.c) ac)));have k5:∀c o,c∉[z,TO,C,J]->s.heap.get? c=some o->g.get? c=some o:=λc o hc e=>I.extBut _ o 0#s (H.extBut _ o 0#s (a0 c o (λq=>hc (by simp at q ⊢;rcases q with q | q | q<;>simp[q])) e))
 have r1:ItrK k1 g C a1 (i+1):=ai.at λo e=>I.extBut _ o (qD N.h) (H.extBut _ o N.j (O.extBut _ o (qD N.h) e))
 have r2:ItrK k2 g J a2 (i+1):=aj.at λo e=>I.extBut _ o (qD N.i) e
 have zl:z<g.objs.size:=zU ah;show wpAny _ _ (Builtin.SmallTypes.ownedTupleHandOut (.ref z) (.ref g.objs.size) >>= _) _ _ _;refine zk ?_;unfold Builtin.SmallTypes.ownedTupleHandOut
 have al:IsZip (g.push { cls:=.type "tuple",data:=.seq #[x,y] }) z TI TO .ellipsis:=qX _ ah;refine zk (QF al 1e3 λg7 ae aa=>?_)
 replace ae:IsZip g7 z TI TO (rawInt g.objs.size):=ae
 refine QF ae 1e3 λg8 T ab=>?_
 replace T:IsZip g8 z TI TO (rawInt g.objs.size):=T
 have up:∀c o,c≠z->g.get? c=some o->g8.get? c=some o:=λc o c1 e=>ab.extBut _ o c1 (aa.extBut _ o c1 (qX _ e))
 have af:IsPair g8 g.objs.size x y:=ab.extBut _ _ (vL zl) (aa.extBut _ _ (vL zl) (qQ _ rfl));have z8:g8.objs.size=g.objs.size+1:=by rw[ab.1,aa.1,vH]
 rw[zs] at T af z8;refine zx {_,rfl,zx ?_};show Q (some (.ref g.objs.size)) _;rw[zs]
 exact hQ g8 T (up _ _ N.a (k5 _ _ (by simp[N.a,N.e,N.f,N.g]) ag)) {_,_,up _ _ N.b B} (r1.at λo e=>up _ o N.c e) (r2.at λo e=>up _ o N.d e) af z8 λc o hc e=>up c o 0#s (k5 c o hc e)
theorem zd5{k1 k2:Bool}{z TI TO J O a1 a2:Addr}{i:Nat}{xs ys:Array Value}{Q:Option Value->Shared->Prop}(hh:A.handled=none)(N:zcI z TI TO J O)(Z:Vp k1 k2 s.heap z TI TO J O a1 a2 i)
  (l1:SeqK k1 s.heap a1 xs) (l2:SeqK k2 s.heap a2 ys) (m1:∀b∈[z,TO,J,O],a1≠b) (m2:∀b∈[z,TO,J,O],a2≠b) (U:xs[i]? =none\/ys[i]? =none)
  (hQ:∀h',(∀c o,c∉[z,TO,J,O]->s.heap.get? c=some o->h'.get? c=some o)->Q none { s with heap:=h' }):wpAny 0#D A (pyNext (.ref z)) Q E s:=by
 obtain⟨hz,ac,⟨a,b,ae⟩,h1,h2⟩:=Z;have hT:s.TypeIs (.ref z) "zip" :={_,hz,rfl};unfold pyNext;refine zk (Zu (Qb (name:=Str.ofString "__next__") hT Wa (yg Wa hT F.entry_zip_next ?_ (F.args_zip_next_1 _))))
 show wpAny _ _ (field (.ref z) 2 >>= _) _ _ _;refine zk (vG hz rfl (x:=.bool false) rfl ?_)
 show wpAny _ _ (field (.ref z) 3 >>= _) _ _ _;refine zk (vG hz rfl (x:=.ref TI) rfl (zk (ye ac rfl ?_)))
 show wpAny _ _ (Builtin.SmallTypes.ownedTupleIsFree (.ref z) >>= _) _ _ _;refine zk ?_
 unfold Builtin.SmallTypes.ownedTupleIsFree;refine zk (vG hz rfl (x:=.none) rfl (zx ?_));simp only[if_true]
 refine zk (wb (zk (vG hz rfl (x:=.ref TO) rfl (zk (QF hz 1e3 λg1 H B=>?_)))))
 replace H:IsZip g1 z TI TO .ellipsis:=H
 refine zk ?_;simp only[List.zipIdx_cons,List.zipIdx_nil,Wc,zaJ]
 refine zk (zk (wpAny_onRaise ?_));show wpAny _ _ (Builtin.SmallTypes.nextOf (.ref J) >>= _) _ _ _
 cases hx:xs[i]? with
 | none=>
  refine zk (yY hh (h1.at λo e=>B.extBut _ o N.c e) (l1.at λo e=>B.extBut _ o (m1 z 1e3) e) hx λg2 e C he=>?_)
  obtain⟨oe,g,D⟩:=he;have aa:IsZip g2 z TI TO .ellipsis:=C _ _ (qD N.c) H;have M:e≠z:=λq=>by subst q;rw[aa] at g;cases g;exact absurd (yJ D) 1e1
  refine QF aa 1e3 λg3 ai G=>?_
  refine zk (yL (T:= "StopIteration") (b:=true) {oe,G.extBut _ _ M g,D} isSubtype_stop (zx (hQ _ λc o hc q=>?_)))
  exact G.extBut _ o 0#s (C _ o 0#s (B.extBut _ o 0#s q))
 | some x=>
  have hy:ys[i]? =none:=by rcases U with q | q;rw[hx] at q;cases q;exact q
  refine zk (wU (h1.at λo e=>B.extBut _ o N.c e) (l1.at λo e=>B.extBut _ o (m1 z 1e3) e) hx λg2 ah C=>zx ?_)
  have I:IsPair g2 TO a b:=C.extBut _ _ N.h (B.extBut _ _ N.b ae);refine zk (ye I rfl (zk (wpAny_updateSeq_pair I λg3 af G=>?_)))
  have L:∀c o,c∉[z,TO,J]->s.heap.get? c=some o->g3.get? c=some o:=λc o hc e=>G.extBut _ o 0#s (C.extBut _ o 0#s (B.extBut _ o 0#s e))
  refine zk (Zs (zx ?_));refine zk (zk (wpAny_onRaise ?_));show wpAny _ _ (Builtin.SmallTypes.nextOf (.ref O) >>= _) _ _ _
  refine zk (yY hh (h2.at λo e=>L _ o (by simp[N.d,qD N.i,qD N.j]) e) (l2.at λo e=>L _ o (by simp[m2 z 1e3,m2 TO 1e3,m2 J 1e3]) e) hy λg4 e Y he=>?_)
  obtain⟨oe,g,D⟩:=he;have ab:IsZip g4 z TI TO .ellipsis:=Y _ _ (qD N.d) (G.extBut _ _ (qD N.b) (C.extBut _ _ (qD N.c) H));have M:e≠z:=λq=>by subst q;rw[ab] at g;cases g;exact absurd (yJ D) 1e1
  refine QF ab 1e3 λg5 aj a0=>?_
  refine zk (yL (T:= "StopIteration") (b:=true) {oe,a0.extBut _ _ M g,D} isSubtype_stop (zx (hQ _ λc o hc q=>?_)))
  exact a0.extBut _ o 0#s (Y _ o 0#s (L c o (λq=>hc (by simp at q ⊢;rcases q with q | q | q<;>simp[q])) q))
abbrev zh(h:Heap)(b c:Obj):Heap:=((((h.push b).push c).push { cls:=.type "tuple",data:=.seq #[.ref h.objs.size,.ref (h.push b).objs.size] }).push { cls:=.type "tuple",data:=.seq #[.none,.none] }).push
 { cls:=.type "zip",data:=.fields #[.none,.bool false,.bool false,.ref ((h.push b).push c).objs.size,.ref (((h.push b).push c).push { cls:=.type "tuple",data:=.seq #[.ref h.objs.size,.ref (h.push b).objs.size] }).objs.size] }
theorem zki{H I:Bool}{a1 a2:Addr}{h:Heap}{b B:Obj}(Q:∀g:Heap,g.get? h.objs.size=some b->ItrK H g h.objs.size a1 0)(T:∀(g:Heap) (n:Addr),g.get? n=some B->ItrK I g n a2 0)(N:b.isFreed=false)(O:B.isFreed=false) :
  Vp H I (zh h b B) (h.objs.size+4) (h.objs.size+2) (h.objs.size+3) h.objs.size (h.objs.size+1) a1 a2 0/\(∀c o,h.get? c=some o->(zh h b B).get? c=some o)/\(zh h b B).objs.size=h.objs.size+5:=by
 have C:(h.push b).objs.size=h.objs.size+1:=vH ..;have D:((h.push b).push B).objs.size=h.objs.size+2:=by rw[vH,C]
 have G:(((h.push b).push B).push { cls:=.type "tuple",data:=.seq #[.ref h.objs.size,.ref (h.push b).objs.size] }).objs.size=h.objs.size+3:=by rw[vH,D]
 have M:((((h.push b).push B).push { cls:=.type "tuple",data:=.seq #[.ref h.objs.size,.ref (h.push b).objs.size] }).push { cls:=.type "tuple",data:=.seq #[.none,.none] }).objs.size=h.objs.size+4:=by rw[vH,G]
 have L:(zh h b B).get? (h.objs.size+4)=some _:=M▸qQ _ rfl;have q4:(zh h b B).get? (h.objs.size+3)=some _:=G▸qX _ (qQ _ rfl);have J:(zh h b B).get? (h.objs.size+2)=some _:=D▸qX _ (qX _ (qQ _ rfl));have Y:(zh h b B).get? (h.objs.size+1)=some B:=C▸qX _ (qX _ (qX _ (qQ _ O)));have U:(zh h b B).get? h.objs.size=some b:=qX _ (qX _ (qX _ (qX _ (qQ _ N))));rw[D,G] at L;rw[C] at J;exact{{L,J,{_,_,q4},Q _ U,T _ _ Y},λc o e=>qX _ (qX _ (qX _ (qX _ (qX _ e)))),by rw[vH,M]}
theorem zd4{k1 k2:Bool}{a1 a2:Addr}{xs ys:Array Value} :
  PySem.Meets (Builtin.«zip.__new__» {[.type "zip",.ref a1,.ref a2],[]}) (λ_ R s=>SeqK k1 s.heap a1 xs/\SeqK k2 s.heap a2 ys /\
   ∀L,Vp k1 k2 L (s.heap.objs.size+4) (s.heap.objs.size+2) (s.heap.objs.size+3) s.heap.objs.size 0#C a1 a2 0->(∀c o,s.heap.get? c=some o->L.get? c=some o)->L.objs.size=s.heap.objs.size+5->R (.ok (.ret (.ref (s.heap.objs.size+4)))) { s with heap:=L }):=
 .of_wp λl w A R s hq=>by
  obtain⟨hp,g,d,G,os⟩:=s;obtain⟨J,b,Q⟩:=hq;have M:=sub_zip;have fin:∀{D H:Obj},(∀g:Heap,g.get? hp.objs.size=some D->ItrK k1 g hp.objs.size a1 0)->(∀(g:Heap) (n:Addr),g.get? n=some H->ItrK k2 g n a2 0)->D.isFreed=false->H.isFreed=false ->
    R (.ok (.ret (.ref ((((hp.push D).push H).push { cls:=.type "tuple",data:=.seq #[.ref hp.objs.size,.ref (hp.push D).objs.size] }).push { cls:=.type "tuple",data:=.seq #[.none,.none] }).objs.size))) {zh hp D H,g,d,G,os}:=λ{D H} T U N O=>by
   obtain⟨A,B,C⟩:=zki T U N O;have e:((((hp.push D).push H).push { cls:=.type "tuple",data:=.seq #[.ref hp.objs.size,.ref (hp.push D).objs.size] }).push { cls:=.type "tuple",data:=.seq #[.none,.none] }).objs.size=hp.objs.size+4:=by
    rw[vH,vH,vH,vH]
   rw[e];exact Q _ A B C
  cases k1 with
  | true=>
   have I:Heap.IsList (Shared.heap ⟨hp,g,d,G,os⟩) a1 xs:=J;cases k2 with
   | true=>
    have L2:Heap.IsList (Shared.heap {hp.push { cls:=.type "list_iterator",data:=.fields #[.ref a1,.int 0 0] },g,d,G,os}) a2 ys:=Heap.IsList.push b _;wp_walk using wpAny_pyIter_list I,wpAny_pyIter_list L2
    exact{_,rfl,fin (λg e=>{_,e,rfl,rfl}) (λg n e=>{_,e,rfl,rfl}) rfl rfl}
   | false=>
    have L2:Heap.IsTuple (Shared.heap {hp.push { cls:=.type "list_iterator",data:=.fields #[.ref a1,.int 0 0] },g,d,G,os}) a2 ys:=Heap.IsTuple.push b _;wp_walk using wpAny_pyIter_list I,wpAny_pyIter_tuple L2
    exact{_,rfl,fin (λg e=>{_,e,rfl,rfl}) (λg n e=>{_,e,rfl,rfl}) rfl rfl}
  | false=>
   have I:Heap.IsTuple (Shared.heap ⟨hp,g,d,G,os⟩) a1 xs:=J;cases k2 with
   | true=>
    have L2:Heap.IsList (Shared.heap {hp.push { cls:=.type "tuple_iterator",data:=.fields #[.ref a1,.int 0 0] },g,d,G,os}) a2 ys:=Heap.IsList.push b _;wp_walk using wpAny_pyIter_tuple I,wpAny_pyIter_list L2
    exact{_,rfl,fin (λg e=>{_,e,rfl,rfl}) (λg n e=>{_,e,rfl,rfl}) rfl rfl}
   | false=>
    have L2:Heap.IsTuple (Shared.heap {hp.push { cls:=.type "tuple_iterator",data:=.fields #[.ref a1,.int 0 0] },g,d,G,os}) a2 ys:=Heap.IsTuple.push b _;wp_walk using wpAny_pyIter_tuple I,wpAny_pyIter_tuple L2
    exact{_,rfl,fin (λg e=>{_,e,rfl,rfl}) (λg n e=>{_,e,rfl,rfl}) rfl rfl}
theorem zdS{g B:Bool}{a1 a2:Addr}{D G:Array Value}{Q:Value->Shared->Prop}(h1:SeqK g s.heap a1 D)(h2:SeqK B s.heap a2 G)
  (h:∀b,Vp g B b (s.heap.objs.size+4) (s.heap.objs.size+2) (s.heap.objs.size+3) s.heap.objs.size 0#C a1 a2 0->(∀c o,s.heap.get? c=some o->b.get? c=some o)->b.objs.size=s.heap.objs.size+5 ->
   Q (.ref (s.heap.objs.size+4)) { s with heap:=b }):wpAny 0#D A (call (.type "zip") [.ref a1,.ref a2]) Q E s:=by
 refine callType_new F.called_zip 1e1 (F.typeCall_zip_2 _ _) (F.newCall_zip_2 _ _) (λC=>F.args_object_init_3 C _ _) F.entry_zip_new (zd4 (k1:=g) (k2:=B) (xs:=D) (ys:=G)) {h1,h2,λb Z k z=>?_}
 exact{{_,Z.zz,rfl},h b Z k z}
end
theorem Inv.seqK{X:Cx}{c:List (Addr×Obj)}{σ:St}{H:Hp}{s:Shared}{g:Bool}{a:Addr}{l:List V}(I:Inv X c σ H s)(h:SqK X.K g H a l):∃b:List Value,Vals l b/\SeqK g s.heap a b.toArray/\l.length<=sizeLine:=by
 cases g with
 | true=>obtain⟨b,r,p,z⟩:=I.list h;exact⟨b,r,p.isList,z⟩
 | false=>obtain⟨b,r,p,z⟩:=I.tuple h;exact⟨b,r,p,z⟩
theorem Inv.seqK_inj{X:Cx}{b:List (Addr×Obj)}{σ:St}{H:Hp}{s:Shared}{c:Bool}{a:Addr}{l w:List V}(I:Inv X b σ H s)(h:SqK X.K c H a l)(g:SqK X.K c H a w):l=w:=by
 cases c with
 | true=>exact I.list_inj h g
 | false=>exact I.tuple_inj h g
theorem SqK.ne_fp{X:Cx}{c:List (Addr×Obj)}{σ:St}{H:Hp}{s:Shared}{w:Bool}{a b:Addr}{g:List V}(I:Inv X c σ H s)(h:SqK X.K w H a g)(f:vc X c H b):a≠b:=λz=>by
 have A:∀o,X.K.lookup a=some o->False:=λo e=>by
  have l:=I.mod.kin a o e;rcases f.2.2.2.1 with q | q
  .exact I.ok.noex a o l (by rw[z];exact q)
  .have:=zU (I.ok.bs a o l).1
   rw[z] at this;exact wj _ (xJ this q)
 cases w with
 | true=>
  rcases(show SqL X.K H a g from h) with(q | ⟨o,q⟩) | ⟨o,_,_,q,_⟩
  .rw[z,f.1] at q;cases q
  .rw[z,f.1] at q;cases q
  .exact A o q
 | false=>
  rcases(show SqT X.K H a g from h) with(q | ⟨o,q⟩) | ⟨o,_,_,q,_⟩
  .rw[z,f.1] at q;cases q
  .rw[z,f.1] at q;cases q
  .exact A o q
def Itz(K:W.Frag)(g l:Bool)(a1 a2:Addr):It:=
 {λi H=>∃b c x y,SqK K g H a1 b/\SqK K l H a2 c/\b[i]? =some x/\c[i]? =some y,
  λi H x s=>∃T u v,x=.ref T/\H T=none/\s=upd H T (.tup [u,v])/\(∀b,SqK K g H a1 b->b[i]? =some u)/\∀c,SqK K l H a2 c->c[i]? =some v,
  λi H=>∃b c,SqK K g H a1 b/\SqK K l H a2 c/\(b.length<=i\/c.length<=i)}
theorem zea{P:Program}{w:World}{K:W.Frag}{M:List Expr}{kk:Nat}{ag:Pos}{k1 k2:Bool}{a1 a2 z TI TO C D:Addr}(N:zcI z TI TO C D) :
  ZF P w K (.Tuple M kk ag) (Itz K k1 k2 a1 a2) [z,TI,TO,C,D] z (λi h=>Vp k1 k2 h z TI TO C D a1 a2 i) where
 mem:=1e3
 obj:=λi h Z b hb=>by
  obtain⟨a,U,q⟩:=Z.to;have e1:=Z.r1.obj;have e2:=Z.r2.obj;simp only[qH,Zg,or_false] at hb;rcases hb with r | r | r | r | r
  .subst r;exact{_,Z.zz,λv q=>nomatch q}
  .subst r;exact{_,Z.ti,λv q=>nomatch q}
  .subst r;exact{_,q,λv q=>nomatch q}
  .subst r;obtain⟨o,e,_,d⟩:=e1;exact⟨o,e,d⟩
  .subst r;obtain⟨o,e,_,d⟩:=e2;exact⟨o,e,d⟩
 keep:=λi h L Z k=>by
  obtain⟨a,U,q⟩:=Z.to;exact{k _ 1e3 _ Z.zz,k _ 1e3 _ Z.ti,{a,U,k _ 1e3 _ q},Z.r1.at λo e=>k _ 1e3 o e,Z.r2.at λo e=>k _ 1e3 o e}
 item:=by
  intro X hP hw Y hc i T s σ H E I B Z hg;subst hP hw Y;obtain⟨xs,ys,x,y,g,l,hx,hy⟩:=hg;obtain⟨O,G,p1,ae⟩:=I.seqK g;obtain⟨Q,J,p2,af⟩:=I.seqK l;obtain⟨u1,ab,ah⟩:=G.get hx;obtain⟨u2,ac,ai⟩:=J.get hy;have sub:∀b∈[z,TO,C,D],b∈[z,TI,TO,C,D]:=λb hb=>by
   simp only[qH,Zg,or_false] at hb ⊢;rcases hb with r | r | r | r<;>simp[r]
  refine zcJ N Z p1 p2 (λb hb=>g.ne_fp I (B b (sub b hb))) (λb hb=>l.ne_fp I (B b (sub b hb))) (by simpa using ab) (by simpa using ac) λh1 zz ti to r1 r2 hT ak hk=>?_
  refine{_,rfl,wpAny_letOwnedTupleGo_zip zz λh2 aj A=>?_}
  have zl:z<s.heap.objs.size:=zU Z.zz;obtain⟨ta,tb,to⟩:=to;refine{.ref s.heap.objs.size,upd H s.heap.objs.size (.tup [x,y]),?_,rfl,{_,x,y,rfl,I.hok.fresh (zF _),rfl,λam L=>by rw[I.seqK_inj L g];exact hx,λan L=>by rw[I.seqK_inj L l];exact hy},
   {aj,A.extBut _ _ N.a ti,{ta,tb,A.extBut _ _ N.b to},r1.at λo e=>A.extBut _ o N.c e,r2.at λo e=>A.extBut _ o N.d e},λb hb=>?_}
  .exact Je (s:=s) (h':=h2) (t':=s.toks) (ch:=[z,TO,C,D]) (its:=[u1,u2]) I (λb hb=>B b (sub b hb)) (zF _) (λb o hb e=>A.extBut _ o (λq=>hb (by simp[q])) (hk b o hb e)) (by rw[sizeLine_eq];exact(by decide:2<=16777216)) (.cons ah (.cons ai .nil))
    (TupX.by (A.extBut _ _ (vL zl) hT))
  .have a0:b<s.heap.objs.size:=by
    have e1:=Z.r1.obj;have e2:=Z.r2.obj;obtain⟨a,U,q⟩:=Z.to;simp only[qH,Zg,or_false] at hb;rcases hb with r | r | r | r | r
    .subst r;exact zl
    .subst r;exact zU Z.ti
    .subst r;exact zU q
    .subst r;obtain⟨o,e,_⟩:=e1;exact zU e
    .subst r;obtain⟨o,e,_⟩:=e2;exact zU e
   rw[zp (qV a0)];exact(B b hb).1
 done:=by
  intro X hP hw Y hc i T s σ H E I B Z hg;subst hP hw Y;obtain⟨xs,ys,g,l,aa⟩:=hg;obtain⟨O,G,p1,ae⟩:=I.seqK g;obtain⟨Q,J,p2,af⟩:=I.seqK l;have sub:∀b∈[z,TO,C,D],b∈[z,TI,TO,C,D]:=λb hb=>by
   simp only[qH,Zg,or_false] at hb ⊢;rcases hb with r | r | r | r<;>simp[r]
  have tr:∀b u,H b=some u->b∉[z,TO,C,D]:=λb u e hb=>by rw[(B b (sub b hb)).1] at e;cases e
  refine zd5 (I.ok.hd hc) N Z p1 p2 (λb hb=>g.ne_fp I (B b (sub b hb))) (λb hb=>l.ne_fp I (B b (sub b hb))) ?_ λL hk=>{rfl,?_}
  .have l1:=G.length
   have l2:=J.length;rcases aa with q | q
   .exact .inl (by simp;omega)
   .exact .inr (by simp;omega)
  .refine I.step (g':=s.gens) (d':=s.drawn) (t':=s.toks) (ch:=[z,TO,C,D]) (λb hb=>?_) (λb o _ _ hc e _=>hk b o hc e) (λb o _ _ hc e _=>{o.slots,hk b o hc e}) (λ_ _ _ _ n=>n) (λb o hc e=>{o,hk b o hc e})
    (λ_ _ e=>e) (λ_ _ _ e=>e) (λb ps e=>{#[],by rw[e];simp}) (λm hm=>?_) (λb u e=>?_) I.bare
   .obtain⟨_,g1,_,g3,g4,g5⟩:=B b (sub b hb)
    exact⟨g3,g1,g4,g5⟩
   .obtain⟨o,es,ep,ho,r⟩:=hm
    exact{o,es,ep,hk _ o (λz=>(B _ (sub _ z)).2.1 rfl) ho,r}
   .refine(I.hok b u e).stay (λc v hc q=>hk c v ?_ q) (λ_ q=>q) λ_ _ q=>q
    rcases hc with z | z
    .rw[z];exact tr b u e
    .exact tr c _ z
 self:=λ_ _ _ _ _ Z h=>wpAny_pyIter_zip Z.zz h
section
variable{X:Cx}
def zmI(K:W.Frag)(l:TA):TI:=λσ H R=>l σ H λs b=>∃c g a1 a2,s=[.ref a1,.ref a2]/\(∃w,SqK K c b a1 w)/\(∃A,SqK K g b a2 A)/\R (Itz K c g a1 a2) b
theorem zai{l m:Expr}{O:TA}{p C tp:Pos}{w:List Expr}{kk:Nat}(hg:Gl X "zip")(Y:X.mg "zip" = none)(U:PA X [l,m] O)(hs:starEach [l,m] X.env=[(false,eval l X.env),(false,eval m X.env)]:=by rfl)(B:starEach [m] X.env=[(false,eval m X.env)]:=by rfl) :
  PI X (.Tuple w kk tp) (.Call (.Name "zip" p) [l,m] [] C) (zmI X.K O):=by
 intro c s σ H R I h;refine Call_ (wE I hg Y boot_zip (J9 (thn (U C c s σ H _ I h) λus s1 ⟨vs,J,g,r1,q1⟩=>?_) (by rw[hs,B]) (by rw[B];rfl)))
 obtain⟨k1,k2,a1,a2,e,⟨xs,D⟩,⟨ys,E⟩,q⟩:=q1;subst e;obtain⟨u,u',rfl,ru,G⟩:=XQ r1;cases ru;cases G;obtain⟨L,ac,p1,aa⟩:=g.seqK D;obtain⟨M,ae,p2,ab⟩:=g.seqK E;refine zdS p1 p2 λT Z hk a0=>wpAny_pyIter_zip Z.zz ?_
 have Q:Inv X c σ J { s1 with heap:=T }:=g.kept (t':=s1.toks) hk;have N:zcI (s1.heap.objs.size+4) (s1.heap.objs.size+2) (s1.heap.objs.size+3) s1.heap.objs.size (s1.heap.objs.size+1):=by
  constructor<;>(intro e;have e':(_:Nat)=_:=e;omega)
 refine{s1.heap.objs.size+4,_,_,_,J,rfl,Q,zea N,Z,λb hb=>?_,q}
 have A:s1.heap.objs.size<=b:=by
  simp only[qH,Zg,or_false] at hb;rcases hb with r | r | r | r | r<;>(rw[r];first| exact Nat.le_add_right _ _ | exact zF _)
 exact g.fpOk A (g.hok.fresh A)
end
def TyN(K:W.Frag)(H:Hp)(x:V)(T:String):Prop:=match x with
 | .non=>T = "NoneType"
 | .bl _=>T = "bool"
 | .int _=>T = "int"
 | .str _=>T = "str"
 | .ref a=>(T = "list" /\ ∃b,SqL K H a b)\/(T = "tuple" /\ ∃b,SqT K H a b)
 | _=>False
def ZJ(T C:String):Bool:=T==C||(T == "bool" && C == "int")
def Vu:List String:=["NoneType","bool","int","str","list","tuple"]
def V2:List String:=["bool","int","str","list","tuple","dict"]
theorem zhA{K:W.Frag}:∀T∈Vu,∀C∈V2,PySem.W.kitOne K (.type T) (.type C)=some (ZJ T C):=by
 intro T c C b;simp only[Vu,V2,qH,Zg,or_false] at c b;rcases c with rfl | rfl | rfl | rfl | rfl | rfl<;>rcases b with rfl | rfl | rfl | rfl | rfl | rfl<;>kernel_rfl
theorem TyN.mem{K:W.Frag}{H:Hp}{x:V}{T:String}(h:TyN K H x T):T∈Vu:=by
 cases x with
 | non=>cases(show T=_ from h);decide
 | bl _=>cases(show T=_ from h);decide
 | int _=>cases(show T=_ from h);decide
 | str _=>cases(show T=_ from h);decide
 | ref a=>rcases(show _\/_ from h) with ⟨e,_⟩ | ⟨e,_⟩<;>(subst e;decide)
 | _=>exact(show False from h).elim
section
variable{X:Cx}{b:List (Addr×Obj)}{σ:St}{H:Hp}{s:Shared}
theorem zhz{x:V}{u:Value}{T:String}(I:Inv X b σ H s)(c:RelV x u)(ty:TyN X.K H x T):∃P:Heap->Prop,P s.heap/\PySem.W.KitX X.K u (.type T) P/\u≠.builtin "__main__.__loader__#opaque" :=by
 cases x with
 | non=>cases(show u=Value.none from c);cases(show T=_ from ty);exact{_,True.intro,PySem.W.kitx_none,λz=>nomatch z}
 | bl y=>cases(show u=Value.bool y from c);cases(show T=_ from ty);exact{_,True.intro,PySem.W.kitx_bool,λz=>nomatch z}
 | int i=>obtain⟨t,q⟩:=(show ∃t,u=Value.int i t from c);cases q;cases(show T=_ from ty);exact{_,True.intro,PySem.W.kitx_int,λz=>nomatch z}
 | str y=>obtain⟨t,q⟩:=(show ∃t,u=Value.str y t from c);cases q;cases(show T=_ from ty);exact{_,True.intro,PySem.W.kitx_str,λz=>nomatch z}
 | ref a=>
  cases(show u=Value.ref a from c)
  rcases(show _\/_ from ty) with ⟨e,l,hx⟩ | ⟨e,l,hx⟩
  .subst e
   obtain⟨g,r,⟨o,n,e1,e2,_⟩,_⟩:=I.list hx;exact{_,⟨o,e1,e2⟩,PySem.W.kitx_list,λz=>nomatch z}
  .subst e
   obtain⟨g,r,⟨o,e1,e2,_⟩,_⟩:=I.tuple hx;exact{_,⟨o,e1,e2⟩,PySem.W.kitx_tuple,λz=>nomatch z}
 | _=>exact(show False from ty).elim
end
section
variable{X:Cx}
inductive XB(K:W.Frag)(b:List V)(H:Hp)(Q:VK):Prop
 | mk (x T C:_) (_:b=[x,.ty C]) (_:TyN K H x T) (_:C∈V2) (_:Q (.bl (ZJ T C)) H):XB K b H Q
theorem xG:xT X (.builtin "isinstance") (XB X.K):=by
 intro c s σ H G E Q I r h;obtain⟨x,T,C,rfl,ty,g,q⟩:=h;obtain⟨u,D,rfl,A,b⟩:=XQ r;cases(show D=Value.type C from b)
 obtain⟨P,l,Z,w⟩:=zhz I A ty;exact PySem.W.kia_one Z I.kIn l (zhA T ty.mem C g) w λB=>{.bl _,H,I.tok B,rfl,q}
end
inductive Dat where
 | non | bl (b:Bool) | int (i:Int) | str (x:Str) | lst (c:List Dat) | tup (c:List Dat)
mutual
def Rep(K:W.Frag)(H:Hp):Dat->V->Prop
 | .non,v=>v=.non
 | .bl b,v=>v=.bl b
 | .int i,v=>v=.int i
 | .str x,v=>v=.str x
 | .lst g,v=>∃a c,v=.ref a/\SqL K H a c/\Reps K H g c
 | .tup g,v=>∃a c,v=.ref a/\SqT K H a c/\Reps K H g c
def Reps(K:W.Frag)(H:Hp):List Dat->List V->Prop
 | [],b=>b=[]
 | d::c,b=>∃x r,b=x::r/\Rep K H d x/\Reps K H c r
end
theorem Same.sqT{K:W.Frag}{H b:Hp}{a:Addr}{c:List V}(e:Same H b)(h:SqT K H a c):SqT K b a c:=by
 rcases h with(h | ⟨o,h⟩) | h
 .exact .inl (.inl (e _ _ h))
 .exact .inl (.inr {o,e _ _ h})
 .exact .inr h
mutual
theorem Rep.same{K:W.Frag}{H g:Hp}(e:Same H g):∀{d:Dat} {v:V},Rep K H d v->Rep K g d v
 | .non,_,h=>h
 | .bl _,_,h=>h
 | .int _,_,h=>h
 | .str _,_,h=>h
 | .lst _,_,h=>by
  obtain⟨a,c,e1,e2,b⟩:=h;exact{a,c,e1,e.seq e2,Reps.same e b}
 | .tup _,_,h=>by
  obtain⟨a,c,e1,e2,b⟩:=h;exact{a,c,e1,e.sqT e2,Reps.same e b}
theorem Reps.same{K:W.Frag}{H b:Hp}(e:Same H b):∀{c:List Dat} {g:List V},Reps K H c g->Reps K b c g
 | [],_,h=>h
 | _::_,_,h=>by
  obtain⟨x,r,e1,e2,l⟩:=h;exact{x,r,e1,Rep.same e e2,Reps.same e l}
end
theorem Reps.len{K:W.Frag}{H:Hp}:∀{b:List Dat} {xs:List V},Reps K H b xs->xs.length=b.length
 | [],_,h=>by rw[show _=_ from h];rfl
 | _::_,_,h=>by
  obtain⟨x,r,e1,e2,c⟩:=h;rw[e1,jZ,jZ,Reps.len c]
theorem Reps.get{K:W.Frag}{H:Hp}:∀{b:List Dat} {c:List V} {i:Nat} {x:V},Reps K H b c->c[i]? =some x->∃d,b[i]? =some d/\Rep K H d x
 | [],_,_,_,h,e=>by rw[show _=_ from h] at e;simp at e
 | d::b,_,i,x,h,e=>by
  obtain⟨y,r,e1,e2,l⟩:=h;subst e1;cases i with
  | zero=>simp at e;subst e;exact⟨d,rfl,e2⟩
  | succ i=>
   obtain⟨g,s,w⟩:=Reps.get (i:=i) l (by simpa using e)
   exact{g,by simpa using s,w}
theorem zb{H:Hp}{a:Addr}{o:HO}(h:H a=none):Same H (upd H a o):=λb u e=>by rw[zp (zj e h)];exact e
def zdN:List V->List V->Bool
 | [],[]=>true
 | x::b,y::c=>eqV x y&&zdN b c
 | _,_=>false
theorem JS:∀(b c:List V),(((List.range (min b.length c.length)).all λj=>eqV (b.getD j .non) (c.getD j .non))&&(b.length==c.length))=zdN b c
 | [],[]=>rfl
 | [],y::c=>by simp[zdN]
 | x::b,[]=>by simp[zdN]
 | x::b,y::c=>by
  have g:=JS b c;have e1:min (x::b).length (y::c).length=min b.length c.length+1:=by simp only[jZ];omega
  rw[e1,List.range_succ_eq_map,List.all_cons,List.all_map];unfold zdN;rw[<- g,Bool.and_assoc];congr 1
  have e2:((x::b).length==(y::c).length)=(b.length==c.length):=by
   rw[vm];simp
  rw[e2];congr 1
section
variable{X:Cx}
end
structure Dfn(P:Program)(w:World)(K:W.Frag)(mg:Str->Option Value)(base:Heap)(x:Str)(k:Nat)(ps:List Str)(sp:Sp):Prop where
 ex:∃f fd,FnOk P w K mg base CX0 k f fd ps sp/\mg x=some (.ref f)/\PySem.W.keepIn K (.ref f)=true/\Binds K fd ps []
section
variable{X:Cx}{x:Str}{k:Nat}{l:List Str}{g:Sp}{p c:Pos}{e:Expr}{b:List Expr}{t:TA}
theorem zf(D:Dfn X.prog X.w X.K X.mg X.base x k l g)(B:Room k X.A)(hg:Gl X x)(w:PA X (e::b) t)(hd:0#H=false:=by decide)
  (hs:starEach (e::b) X.env=(false,eval e X.env)::starEach b X.env:=by rfl) (s:(backTo c (starEach b X.env)).any (·.1)=false:=by rfl):PE X (.Call (.Name x p) (e::b) [] c) (zh7 g [] E0 t):=by
 obtain⟨f,C,F,A,hk,hb⟩:=D.ex;exact zgY F B hg A hk hb .nil zlp w hd hs s
end
theorem ifT{b:Bool}{A B:Prop}(h:b=true)(q:A):if b=true then A else B:=by rw[zC h];exact q
theorem ifF{b:Bool}{A B:Prop}(h:b=false)(q:B):if b=true then A else B:=by rw[zw (by rw[h];exact qS)];exact q
theorem zaw{K:W.Frag}{k1 k2:Bool}{a1 a2:Addr}{xs ys:List V}{g:TG}{O:TT}{M:TE}{A:St}{n:Nat}{R:List V->Hp->Prop}{H:Hp}(Pv:Nat->List V->Hp->Prop)(h0:Pv 0 [] H)
  (h1:∀i c H,Pv i c H->SqK K k1 H a1 xs/\SqK K k2 H a2 ys)
  (hs:∀i x y c H T,xs[i]? =some x->ys[i]? =some y->Pv i c H->H T=none->g (.ref T) A (upd H T (.tup [x,y])) λs D=>s.drop n=A.drop n/\O s D λb w=>
   if b=true then M s w λv E=>c.length<sizeLine/\Pv (i+1) (c++[v]) E else Pv (i+1) c w)
  (hd:∀c H,Pv (min xs.length ys.length) c H->c.length<=sizeLine/\R c H) :
  ∃W:Nat->Nat->List V->Hp->Prop,(∃m,W 0 m [] H)/\∀i m c l,W i m c l ->
   ((Itz K k1 k2 a1 a2).stop i l/\c.length<=sizeLine/\R c l) \/
   ((Itz K k1 k2 a1 a2).go i l/\∃N:List V->Hp->Prop,(∀c B,N c B->∃L,L<m/\W (i+1) L c B)/\∀x C,(Itz K k1 k2 a1 a2).yld i l x C->g x A C λs D=>s.drop n=A.drop n/\O s D λb w=>
    if b=true then M s w λy E=>c.length<sizeLine/\N (c++[y]) E else N c w):=by
 refine{λi m c l=>m=min xs.length ys.length-i/\i<=min xs.length ys.length/\Pv i c l,{_,rfl,jv _,h0},?_}
 rintro i m c l ⟨rfl,hi,p⟩;obtain⟨I,J⟩:=h1 i c l p;by_cases G:i<min xs.length ys.length
 .have U:i<xs.length:=()
  have Y:i<ys.length:=()
  refine .inr {{xs,ys,xs[i],ys[i],I,J,by simp[U],by simp[Y]},Pv (i+1),λa0 B p'=>{_,(),rfl,G,p'},λx C y=>?_}
  obtain⟨T,u,v,e1,Q,e2,y1,y2⟩:=y;subst e1 e2;exact hs i u v c l T (y1 xs I) (y2 ys J) p Q
 .have e:i=min xs.length ys.length:=()
  subst e;obtain⟨z1,z2⟩:=hd c l p;exact .inl {{xs,ys,I,J,()},z1,z2}
theorem YF{lo:Int}{N n:Nat}{g:TG}{L:TT}{J:TE}{B:St}{R:List V->Hp->Prop}{H:Hp}(Pv:Nat->List V->Hp->Prop)(h0:Pv 0 [] H)
  (hs:∀i c H,i<N->Pv i c H->g (.int (lo+i)) B H λw E=>w.drop n=B.drop n/\L w E λb A=>if b=true then J w A λv G=>c.length<sizeLine/\Pv (i+1) (c++[v]) G else Pv (i+1) c A)
  (hd:∀c H,Pv N c H->c.length<=sizeLine/\R c H) :
  ∃W:Nat->Nat->List V->Hp->Prop,(∃m,W 0 m [] H)/\∀i m c l,W i m c l ->
   ((Itr lo N).stop i l/\c.length<=sizeLine/\R c l) \/
   ((Itr lo N).go i l/\∃M:List V->Hp->Prop,(∀c C,M c C->∃I,I<m/\W (i+1) I c C)/\∀x D,(Itr lo N).yld i l x D->g x B D λw E=>w.drop n=B.drop n/\L w E λb A=>
    if b=true then J w A λy G=>c.length<sizeLine/\M (c++[y]) G else M c A):=by
 refine{λi m c l=>m=N-i/\i<=N/\Pv i c l,{_,rfl,jv _,h0},?_}
 rintro i m c l ⟨rfl,Y,p⟩;by_cases s:i<N
 .refine .inr {s,Pv (i+1),λU C O=>{_,(),rfl,s,O},λx D y=>?_}
  obtain⟨e1,e2⟩:=y;subst e1 e2;exact hs i c _ s p
 .have e:i=N:=()
  subst e;obtain⟨Q,T⟩:=hd c l p;exact .inl {zF _,Q,T}
def wa(sn on:List (Str×NameKind))(N own b:List Str)(c:List Nat):Bool:=
 Z6 sn on N b c&&own.all (λx=>sn.lookup x==some .local)&&decide (own++b).Nodup
theorem xM{sn on:List (Str×NameKind)}{N own b:List Str}{c:List Nat}(h:wa sn on N own b c=true):Z6 sn on N b c=true/\(∀x∈own,sn.lookup x=some .local)/\(own++b).Nodup:=by
 unfold wa at h;rw[xP,xP,vn] at h;exact{h.1.1,λx hx=>by simpa using h.1.2 x hx,qP h.2}
section
variable{X:Cx}{g c:Expr}{l:List Expr}{b:Scope}{w A I J:Pos}{E:TI}{D:TT}{B:TE}{x y:Str}{G:Nat}
theorem jK{L:List Str}{C:Addr}{s:Shared}{H:Hp}{M:List Addr}{i:Nat}(N:b.names.lookup x=some .local)(Q:L.Nodup)(O:L[i]? =some x):PG (zQ X L b C s H M) (.Name x A) (xb i):=
 zq (X:=zQ X L b C s H M) Q O (.inl (lookup_relabel_local N)) (.inr (lookup_relabel_local N))
theorem jE(M:List Str)(N:List Nat)(hc:X.calm=true)(hk:b.kind=.function)(hb:wa b.names X.env.scope.names X.N [x] M N=true)(U:PI X (.Name x A) c E)
  (T:∀C s H L,PF (zQ X ([x]++M) b C s H L) l D) (Q:∀C s H L,PE (zQ X ([x]++M) b C s H L) g B)
  (hs:∀x,foldedSetIterable c X.env x=pure x:=by intro _;rfl):PE X (.ListComp g [{.Name x A,c,l,0}] b w) (tLC E 1 N (xb 0) D B):=by
 obtain⟨h1,h2,O⟩:=xM hb;exact zfo [x] M N hc hk h1 U (λC s H L=>jK (h2 x 1e3) O rfl) T Q hs
theorem vI(M:List Str)(N:List Nat)(hc:X.calm=true)(hk:b.kind=.function)(hb:wa b.names X.env.scope.names X.N [x,y] M N=true)(U:PI X (.Tuple [.Name x A,.Name y I] G J) c E)
  (T:∀C s H L,PF (zQ X ([x,y]++M) b C s H L) l D) (Q:∀C s H L,PE (zQ X ([x,y]++M) b C s H L) g B)
  (hs:∀x,foldedSetIterable c X.env x=pure x:=by intro _;rfl):PE X (.ListComp g [{.Tuple [.Name x A,.Name y I] G J,c,l,0}] b w) (tLC E 2 N (Q8 X.K 2 (xz (xb 0) (xz (xb 1) JP))) D B):=by
 obtain⟨h1,h2,O⟩:=xM hb;refine zfo [x,y] M N hc hk h1 U (λC s H L=>?_) T Q hs
 exact qE (X:=zQ X ([x,y]++M) b C s H L) hc (zn (jK (h2 x 1e3) O rfl) (zn (jK (h2 y 1e3) O rfl) z7))
end
def tWk(t:TS):TS:=λD σ H=>∃J:St->Hp->Prop,t { D with nx:=J } σ H/\∀c b,J c b->D.nx c b
theorem yU{X:Cx}{st:Stmt}{t:TS}(h:PS X st t):PS X st (tWk t):=by
 intro b s σ H D I w;obtain⟨J,A,B⟩:=w;refine thn (h b s σ H _ I A) λf s1 q=>?_
 cases f with
 | next=>obtain⟨g,c,l,z⟩:=q;exact{g,c,l,B g c z}
 | brk=>exact q
 | cont=>exact q
 | ret u=>exact q
def Dat.ok:Nat->Dat->Prop
 | n+1,.lst b=>b.length<=1000000/\∀d∈b,Dat.ok n d
 | n+1,.tup b=>b.length<=1000000/\∀d∈b,Dat.ok n d
 | 0,.lst _=>False
 | 0,.tup _=>False
 | _,_=>True
def Dat.tyN:Dat->String
 | .non=> "NoneType" | .bl _=> "bool" | .int _=> "int" | .str _=> "str" | .lst _=> "list" | .tup _=> "tuple"
theorem Rep.ty{K:W.Frag}{H:Hp}{d:Dat}{v:V}(h:Rep K H d v):TyN K H v d.tyN:=by
 cases d with
 | non=>rw[show v=_ from h];exact rfl
 | bl b=>rw[show v=_ from h];exact rfl
 | int b=>rw[show v=_ from h];exact rfl
 | str b=>rw[show v=_ from h];exact rfl
 | lst g=>obtain⟨a,c,rfl,e,_⟩:=h;exact .inl ⟨rfl,c,e⟩
 | tup g=>obtain⟨a,c,rfl,e,_⟩:=h;exact .inr ⟨rfl,c,e⟩
mutual
def Dat.py:Dat->PyData
 | .non=>.none
 | .bl b=>.bool b
 | .int i=>.int i
 | .str x=>.str x
 | .lst c=>.list (Dat.pys c)
 | .tup c=>.tuple (Dat.pys c)
def Dat.pys:List Dat->List PyData
 | []=>[]
 | d::b=>d.py::Dat.pys b
end
section
variable{X:Cx}
inductive QZ(K:W.Frag)(c:List V)(H:Hp)(Q:VK):Prop
 | mk (p:Addr) (b:List Int) (_:c=[.ref p]) (_:SqL K H p 0#u) (_:(∀z∈b,0<=z/\z<=1000000)) (_:b.length<=100000) (_:Q (.int b.sum) H):QZ K c H Q
theorem Vk(hc:X.calm=true):xT X (.builtin "sum") (QZ X.K):=by
 intro T s σ H xs us Q I r h;obtain⟨p,c,rfl,hq,hz,hn,q⟩:=h;obtain⟨u,rfl,ru⟩:=yc r;cases(show u=_ from ru)
 obtain⟨g,Y,pl,_⟩:=I.list hq;have D:=pl.isList;have E:p≠s.heap.objs.size:=by
  obtain⟨o,e,_⟩:=D;exact qV (zU e)
 have C:g.length=c.length:=by have:=Y.length;rw[zm] at this;omega
 have G:∀j,j<=c.length->0<=(c.take j).sum/\(c.take j).sum<=1000000*(j:Int):=by
  intro j;induction j with
  | zero=>intro _;simp
  | succ j ih=>
   intro O;have:=ih ()
   have e:c.take (j+1)=c.take j++[c[j]'()]:=by rw[Qc]
   have b:=hz (c[j]'()) (wc _)
   rw[e,List.sum_append];simp only[List.sum_cons,List.sum_nil];constructor
   .omega
   .have:(1000000:Int)*((j+1:Nat):Int)=1000000*(j:Int)+1000000:=()
    omega
 refine call_sum_walk (wpAny_pyIter_list D ?_)
 refine{s.heap.objs.size,_,_,_,_,_,λi=>c.getD i 0,rfl,Xb (prog:=X.prog) (w:=X.w) (A:=X.A.in1) (I.ok.hd hc) _ p E g.toArray,{{_,qQ _ rfl,rfl,rfl},D.push _},λb hb=>?_,λi v hP=>?_,λj O=>?_,λh' tk t' hk=>?_}
 .have J:(s.heap.push { cls:=.type "list_iterator",data:=.fields #[.ref p,.int 0 0] }).objs.size=s.heap.objs.size+1:=vH ..
  show b<(s.heap.push _).objs.size;rw[J];rcases qH.mp hb with z | z
  .rw[z];exact QE _
  .rw[qm.mp z]
   obtain⟨o,e,_⟩:=D;exact zaX (zU e)
 .have e1:g[i]? =some v:=by simpa using hP
  have N:i<c.length:=by have h1:=(zK.mp e1).1;omega
  obtain⟨u',M,L⟩:=Y.get (i:=i) (x:=.int c[i]) (by simp[N])
  rw[e1] at M;cases M
  obtain⟨t,e⟩:=L;exact{t,by rw[e];simp[N]}
 .have B:j<c.length:=by simp only[zX] at O;omega
  have a1:=hz c[j] (wc B);have a2:=G (j+1) ()
  have l:(2:Int)^63=9223372036854775808:=1e1
  refine{?_,?_}
  .show InLong (c.getD j 0)
   rw[show c.getD j 0=c[j] by simp[B]]
   unfold InLong;rw[l];omega
  .rw[preSum_getD]
   unfold InLong;rw[l];have:((j+1:Nat):Int)<=100000:=()
   omega
 .have k:∀b o,s.heap.get? b=some o->h'.get? b=some o:=λb o e=>hk b o (by simp;exact qV (zU e)) (qX _ e)
  refine{.int c.sum,H,I.kept k,{t',?_},q}
  rw[preSum_getD];have:c.take g.toArray.size=c:=by rw[zX,C,qB]
  rw[this]
end
section
variable{X:Cx}{b:Expr}
end
section
variable{X:Cx}
inductive zb2(x:V)(A:List V)(H:Hp)(Q:VK):Prop
 | mk (l:Addr) (s:List V) (i:Int) (y:V) (_:x=.ref l) (_:A=[.int i,y]) (_:H l=some (.lst s)) (_:0<=i) (_:i<2^62) (_:s.length<sizeLine) (_:Q .non (upd H l (.lst (s.take i.toNat++y::s.drop i.toNat)))):zb2  x A H Q
theorem zdx:MtM X "list.insert" zb2:=by
 intro J s σ H x vs v us Q I O N h;obtain⟨l,xs,i,y,rfl,rfl,D,U,Y,hz,q⟩:=h;cases O;obtain⟨u1,C,rfl,L,M⟩:=XQ N;obtain⟨t,rfl⟩:=L;obtain⟨z,A,n,r,T,e⟩:=I.lstM D;have E:=r.length;refine call_meets F.slot_list_insert {_,e,rfl} F.entry_list_insert (F.args_list_insert_3 _ _ _) (AutoListH.list_insert_list_int_val_1 l A.toArray n i t C ?_ (by rw[zX];omega)) {e,?_}
 .unfold Builtin.List.listFitsIndex
  simp;omega
 refine{.non,_,I.lset (its':=A.take i.toNat++C::A.drop i.toNat) D e ?_ ((r.take _).append (.cons M (r.drop _))) ?_,rfl,q}
 .show(have k:=if i<0 then(i+((A.toArray.size:Nat):Int)).toNat else min i.toNat A.toArray.size;(A.toArray.extract 0 k).push C++A.toArray.extract k)=_
  have hk:(if i<0 then(i+((A.toArray.size:Nat):Int)).toNat else min i.toNat A.toArray.size)=min i.toNat A.length:=by
   rw[zw (),zX]
  simp only[hk];apply Array.toList_inj.mp
  simp;by_cases B:i.toNat<=A.length
  .have h1:(A.drop i.toNat).take (A.length-i.toNat)=A.drop i.toNat:=QW (by rw[ZA];omega)
   rw[Nat.min_eq_left B,h1]
  .have h1:A.length<=i.toNat:=()
   rw[Nat.min_eq_right h1,QW h1,List.drop_of_length_le h1];simp
 .simp only[qh,qv,jZ,ZA]
  omega
variable{e st:Expr}{g:TE}{w:TO}{b c:Pos}
end
theorem qR{K:W.Frag}{a:Addr}{xs:List V}{g:TG}{L:TT}{J:TE}{B:St}{n:Nat}{R:List V->Hp->Prop}{H:Hp}(Pv:Nat->List V->Hp->Prop)(h0:Pv 0 [] H)
  (h1:∀i c H,Pv i c H->SqL K H a xs)
  (hs:∀i x c H,xs[i]? =some x->Pv i c H->g x B H λs E=>s.drop n=B.drop n/\L s E λb w=>
   if b=true then J s w λv G=>c.length<sizeLine/\Pv (i+1) (c++[v]) G else Pv (i+1) c w)
  (hd:∀c H,Pv xs.length c H->c.length<=sizeLine/\R c H) :
  ∃W:Nat->Nat->List V->Hp->Prop,(∃m,W 0 m [] H)/\∀i m c l,W i m c l ->
   ((Itl K a).stop i l/\c.length<=sizeLine/\R c l) \/
   ((Itl K a).go i l/\∃N:List V->Hp->Prop,(∀c C,N c C->∃I,I<m/\W (i+1) I c C)/\∀x D,(Itl K a).yld i l x D->g x B D λs E=>s.drop n=B.drop n/\L s E λb w=>
    if b=true then J s w λy G=>c.length<sizeLine/\N (c++[y]) G else N c w):=by
 fail"a"
 rintro i m c l ⟨rfl,U,p⟩;have q:=h1 i c l p;by_cases A:i<xs.length
 .refine .inr {{xs,xs[i],q,by simp[A]},Pv (i+1),λT C M=>{_,(),rfl,A,M},λx D y=>?_}
  obtain⟨e,y⟩:=y;subst e;exact hs i x c _ (y xs q) p
 .have e:i=xs.length:=()
  subst e;obtain⟨O,Q⟩:=hd c l p;exact .inl {{xs,q,zF _},O,Q}
theorem vz{K:W.Frag}{a:Addr}{xs:List V}{g:TG}{L:TT}{J:TE}{B:St}{n:Nat}{R:List V->Hp->Prop}{H:Hp}(Pv:Nat->List V->Hp->Prop)(h0:Pv 0 [] H)
  (h1:∀i c H,Pv i c H->SqT K H a xs)
  (hs:∀i x c H,xs[i]? =some x->Pv i c H->g x B H λs E=>s.drop n=B.drop n/\L s E λb w=>
   if b=true then J s w λv G=>c.length<sizeLine/\Pv (i+1) (c++[v]) G else Pv (i+1) c w)
  (hd:∀c H,Pv xs.length c H->c.length<=sizeLine/\R c H) :
  ∃W:Nat->Nat->List V->Hp->Prop,(∃m,W 0 m [] H)/\∀i m c l,W i m c l ->
   ((Itt K a).stop i l/\c.length<=sizeLine/\R c l) \/
   ((Itt K a).go i l/\∃N:List V->Hp->Prop,(∀c C,N c C->∃I,I<m/\W (i+1) I c C)/\∀x D,(Itt K a).yld i l x D->g x B D λs E=>s.drop n=B.drop n/\L s E λb w=>
    if b=true then J s w λy G=>c.length<sizeLine/\N (c++[y]) G else N c w):=by
 fail"a"
 rintro i m c l ⟨rfl,U,p⟩;have q:=h1 i c l p;by_cases A:i<xs.length
 .refine .inr {{xs,xs[i],q,by simp[A]},Pv (i+1),λT C M=>{_,(),rfl,A,M},λx D y=>?_}
  obtain⟨e,y⟩:=y;subst e;exact hs i x c _ (y xs q) p
 .have e:i=xs.length:=()
  subst e;obtain⟨O,Q⟩:=hd c l p;exact .inl {{xs,q,zF _},O,Q}
inductive DV(K:W.Frag)(F:Hp)(n:Nat):V->Prop
 | non:DV K F n .non
 | bl (b:Bool):DV K F n (.bl b)
 | int (i:Int) (h:i.natAbs<=10000000000+n):DV K F n (.int i)
 | str (x:Str) (h:x.length<=n):DV K F n (.str x)
 | lst (a:Addr) (c:List V) (h:SqL K F a c) (g:c.length<=n) (all:∀x∈c,DV K F n x):DV K F n (.ref a)
 | tup (a:Addr) (c:List V) (h:SqT K F a c) (g:c.length<=n) (all:∀x∈c,DV K F n x):DV K F n (.ref a)
theorem DV.up{K:W.Frag}{F l:Hp}{n m:Nat}{v:V}(h:DV K F n v)(s:Same F l)(A:n<=m):DV K l m v:=by
 induction h with
 | non=>exact .non
 | bl b=>exact .bl b
 | int i h=>exact .int i ()
 | str x h=>exact .str x ()
 | lst a g h w all c=>exact .lst a g (s.seq h) () c
 | tup a g h w all c=>exact .tup a g (s.sqT h) () c
def WX(b:List Addr)(H:Hp):Hp:=λc=>if c∈b then none else H c
theorem WX.le{b:List Addr}{H:Hp}:Same (WX b H) H:=λc o e=>by
 unfold WX at e;split at e
 .cases e
 .exact e
theorem WX.cons{b:List Addr}{H:Hp}{m:Addr}:Same (WX (m::b) H) (WX b H):=λc u e=>by
 unfold WX at e ⊢;split at e
 .cases e
 .rename_i hc
  rw[zw (λz=>hc (xg _ z))]
  exact e
theorem WX.put{b:List Addr}{H:Hp}{m:Addr}{o:HO}(h:m∈b):Same (WX b H) (WX b (upd H m o)):=λc u e=>by
 unfold WX at e ⊢;split at e
 .cases e
 .rename_i hc
  rw[zw hc,zp (show c≠m fromλz=>hc (by rw[z];exact h))]
  exact e
theorem WX.at{b:List Addr}{H:Hp}{c:Addr}{o:HO}(h:c∉b)(e:H c=some o):WX b H c=some o:=by
 unfold WX;rw[zw h];exact e
def zfJ:Expr->Bool
 | .Starred _ _=>false
 | _=>true
theorem jR{e:Expr}{c:List Expr}{b:Env}(h:zfJ e=true):starEach (e::c) b=(false,eval e b)::starEach c b:=by
 cases e<;>first| rfl | cases h
theorem pa5{X:Cx}{b e1 e2 c g:Expr}{l s w A B:TE}(h0:PE X b l)(h1:PE X e1 s)(h2:PE X e2 w)(C:PE X c A)(D:PE X g B)(h:([b,e1,e2,c,g]).all zfJ=true:=by rfl):PA X [b,e1,e2,c,g] (wG l (wG s (wG w (wG A (wG B ziZ))))):=by
 have hz:=vn.mp h;exact(za h0 (za h1 (za h2 (za C (za D zd (jR (hz _ 1e3))) (jR (hz _ 1e3))) (jR (hz _ 1e3))) (jR (hz _ 1e3))) (jR (hz _ 1e3)))
theorem pa7{X:Cx}{b e1 e2 c g l s:Expr}{w A B C D E G:TE}(h0:PE X b w)(h1:PE X e1 A)(h2:PE X e2 B)(H:PE X c C)(I:PE X g D)(J:PE X l E)(L:PE X s G)(h:([b,e1,e2,c,g,l,s]).all zfJ=true:=by rfl):PA X [b,e1,e2,c,g,l,s] (wG w (wG A (wG B (wG C (wG D (wG E (wG G ziZ))))))):=by
 have hz:=vn.mp h;exact(za h0 (za h1 (za h2 (za H (za I (za J (za L zd (jR (hz _ 1e3))) (jR (hz _ 1e3))) (jR (hz _ 1e3))) (jR (hz _ 1e3))) (jR (hz _ 1e3))) (jR (hz _ 1e3))) (jR (hz _ 1e3)))
section
variable{X:Cx}{w M l:Expr}{A:List Expr}{c:Scope}{B:Pos}{L:TI}{g:TG}{G:TT}{E:TE}
theorem zd7{y:Str}{py:Pos}{g2:TG}{s:List (Addr×Obj)}{σ:St}{O:Hp}{U:St->Hp->Prop}{I:Shared}{D C:Addr}{m:Str->Option Value}(Q:PG X (.Name y py) g2)(hn:I.heap.Ns C m)
  (all:∀h7:Heap,(∀b o,b≠C->I.heap.get? b=some o->h7.get? b=some o)->Inv X s σ O { I with heap:=h7 }) (fc:vc X s O C) (q:g2 (.ref D) σ O U) :
  wpAny 0#b X.A (assign (.Name y py) X.env (.ref D)) (λ_ H=>∃m,H.heap.Ns C m/\∀h',Heap.SameBut C H.heap h'->∃σ' Y,Inv X s σ' Y { H with heap:=h' }/\U σ' Y) X.xe I:=by
 have J0:=all I.heap λb o _ e=>e
 obtain⟨N,es,ep,J,hd,r⟩:=hn;have J1:=J0.pinned (fp:=[C]) (λb hb=>by rw[qm.mp hb];exact fc) (λb hb=>by rw[qm.mp hb];exact{N,J,λv z=>by rw[hd] at z;cases z})
 have mC:(C,N)∈s++ju [C] I.heap:=qW _ (jW (qm.mpr rfl) J);refine thn (Q _ I σ _ (.ref D) (.ref D) _ J1 rfl q) λ_ s8 ⟨σ8,H8,I8,q8⟩=>?_
 obtain⟨e8,n8,_⟩:=I8.pin (C,N) (qW _ mC);obtain⟨_,g1,_,g3,g4,g5⟩:=fc;exact{m,⟨N,es,ep,e8,hd,r⟩,λh9 T=>{σ8,H8,(I8.unpinned).turned (t':=s8.toks) (it:=C) (λb o hb e=>T.extBut b o hb e) n8 g1 g3 g4 g5,q8}}
theorem zfd{y:Str}{py N:Pos}{g2:TG}(own U:List Str)(js:List Nat)(hc:X.calm=true)(hk:c.kind=.function)(hb:Z6 c.names X.env.scope.names X.N U js=true)(hi:PI X M l L)
  (hg:∀C s H O,PG (zQ X (own++U) c C s H O) M g) (hf:∀C s H O,PF (zQ X (own++U) c C s H O) A G) (he:∀C s H O,PE (zQ X (own++U) c C s H O) w E)
  (a0:PG X (.Name y py) g2) (aa:swapsWith (.ListComp w [{M,l,A,0}] c B) (some (.Name y py)) N.line X.env=pure true:=by rfl)
  (hs:∀x,foldedSetIterable l X.env x=pure x:=by intro _;rfl):PS X (.Assign [.Name y py] (.ListComp w [{M,l,A,0}] c B) N) (zda (tLC L own.length js g G E) g2):=by
 intro Y s σ H Dn I h;rw[exec_Assign_Name_used _ _ _ _ aa];refine zk (wP (zk ?_))
 show wpAny _ X.A (do let _<-comprehension (.ListComp w [{M,l,A,0}] c B) c X.env _ (newList []) false (eval l X.env) (some (assign (.Name y py) X.env))) _ _ s
 refine zk (ja (zgb (rest:=[]) (use:=some (assign (.Name y py) X.env)) (Qx:=λ_ s'=>∃σ' H',Inv X Y σ' H' s'/\Dn.nx σ' H') (Q:=λv H1=>g2 v σ H1 Dn.nx) own U js hk hb hi hs I h (λC D it fp tn J W H2 s3 s4 m0 R a b T tl j fin=>zcn hc hg hf he a b T tl j fin) λs6 D C H6 m hn all fc q=>zd7 a0 hn all fc q) (λ_ s' hq=>zx (zx hq)) λ_ _ e=>e)
theorem wR{x y:Str}{Q T b:Pos}{U:TG}(I:List Str)(O:List Nat)(hc:X.calm=true)(hk:c.kind=.function)(hb:wa c.names X.env.scope.names X.N [x] I O=true)(hi:PI X (.Name x Q) l L)
  (hf:∀C s H D,PF (zQ X ([x]++I) c C s H D) A G) (he:∀C s H D,PE (zQ X ([x]++I) c C s H D) w E)
  (J:PG X (.Name y T) U) (N:swapsWith (.ListComp w [{.Name x Q,l,A,0}] c B) (some (.Name y T)) b.line X.env=pure true:=by rfl)
  (hs:∀x,foldedSetIterable l X.env x=pure x:=by intro _;rfl):PS X (.Assign [.Name y T] (.ListComp w [{.Name x Q,l,A,0}] c B) b) (zda (tLC L 1 O (xb 0) G E) U):=by
 obtain⟨h1,h2,Y⟩:=xM hb;exact zfd [x] I O hc hk h1 hi (λC s H D=>jK (h2 x 1e3) Y rfl) hf he J N hs
theorem zag{x z y:Str}{T Y U b tp:Pos}{Q:Nat}{g2:TG}(I:List Str)(O:List Nat)(hc:X.calm=true)(hk:c.kind=.function)(hb:wa c.names X.env.scope.names X.N [x,z] I O=true)(hi:PI X (.Tuple [.Name x T,.Name z Y] Q tp) l L)
  (hf:∀C s H D,PF (zQ X ([x,z]++I) c C s H D) A G) (he:∀C s H D,PE (zQ X ([x,z]++I) c C s H D) w E)
  (J:PG X (.Name y U) g2) (N:swapsWith (.ListComp w [{.Tuple [.Name x T,.Name z Y] Q tp,l,A,0}] c B) (some (.Name y U)) b.line X.env=pure true:=by rfl)
  (hs:∀x,foldedSetIterable l X.env x=pure x:=by intro _;rfl):PS X (.Assign [.Name y U] (.ListComp w [{.Tuple [.Name x T,.Name z Y] Q tp,l,A,0}] c B) b) (zda (tLC L 2 O (Q8 X.K 2 (xz (xb 0) (xz (xb 1) JP))) G E) g2):=by
 obtain⟨h1,h2,h3⟩:=xM hb;refine zfd [x,z] I O hc hk h1 hi (λC s H D=>?_) hf he J N hs
 exact qE (X:=zQ X ([x,z]++I) c C s H D) hc (zn (jK (h2 x 1e3) h3 rfl) (zn (jK (h2 z 1e3) h3 rfl) z7))
end
theorem Vals.mem{u:Value}:∀{b:List V} {c:List Value},Vals b c->u∈c->∃x∈b,RelV x u
 | _,_,.nil,h=>by cases h
 | x::b,v::l,.cons r t,h=>by
  rcases qH.mp h with e | h
  .rw[e];exact⟨x,qJ,r⟩
  .obtain⟨y,hy,g⟩:=Vals.mem t h
   exact{y,xg _ hy,g}
section
variable{X:Cx}
theorem zj1{G:List (Addr×Obj)}{σ:St}{H:Hp}{s:Shared}(I:Inv X G σ H s){A:Around}(hu:A.units<cLine){a c:Addr}{w B:List V}(hx:SqT X.K H a w)(hy:SqT X.K H c B)(M:w.all xj=true)(N:B.all xj=true):∃b,SeqAt.EqAt A s (.ref a) (.ref c) b:=by
 by_cases C:a=c
 .subst C
  exact{true,Zw _}
 .obtain⟨D,J,T,z1⟩:=I.tuple hx
  obtain⟨E,L,U,z2⟩:=I.tuple hy;have l1:=J.length;have l2:=L.length;refine{_,Wl C (zaV (e:=λj=>eqV (w.getD j .non) (B.getD j .non)) T U hu (λj h1 h2=>?_))}
  have g:j<w.length:=by rw[zX] at h1;omega
  have l:j<B.length:=by rw[zX] at h2;omega
  obtain⟨w1,e1,Y⟩:=J.get (i:=j) (x:=w[j]) (by simp[g])
  obtain⟨w2,e2,q2⟩:=L.get (i:=j) (x:=B[j]) (by simp[l])
  have O:D.toArray[j]=w1:=by simpa using (zK.mp e1).2
  have Q:E.toArray[j]=w2:=by simpa using (zK.mp e2).2
  rw[O,Q,show w.getD j .non=w[j] by simp[g],show B.getD j .non=B[j] by simp[l]]
  exact JT Y q2 (vn.mp M _ (wc g)) (vn.mp N _ (wc l))
inductive Vr(K:W.Frag)(x:V)(y:V)(H:Hp)(Q:VK):Prop
 | mk (a p:Addr) (l g:List V) (_:x=.ref a) (_:y=.ref p) (_:SqT K H a l) (_:l.all xj=true) (_:SqL K H p g) (_:(∀v∈g,∃(c:Addr) (b:List V),v=.ref c/\SqT K H c b/\b.all xj=true)) (_:∀r:Bool,Q (.bl r) H):Vr K x y H Q
open Classical in
theorem zg1(hu:X.A.units+64<cLine):OpR X (compareOp .In) (Vr X.K):=by
 intro C s σ H x y v u Q I M N h;obtain⟨a,p,U,T,rfl,rfl,J,E,hp,all,q⟩:=h;cases M;cases N;obtain⟨A,r,L,hz⟩:=I.list hp;have D:∀w∈A,∃b,SeqAt.EqAt X.A.in1 s w (.ref a) b:=λw l=>by
  obtain⟨x,hx,B⟩:=Vals.mem r l;obtain⟨c,O,rfl,hc,G⟩:=all x hx;cases B;exact zj1 I (by show X.A.units+1<cLine;omega) hc J G E
 refine zaN (λw=>if h:∃b,SeqAt.EqAt X.A.in1 s w (.ref a) b then h.choose else false) L.isList (λw l=>?_) {.bl _,H,I,rfl,q _}
 have g:=D w (by simpa using l)
 simp only[g,dif_pos];exact g.choose_spec
inductive Xz(K:W.Frag)(x:V)(y:V)(H:Hp)(Q:VK):Prop
 | mk (a b:Addr) (c:List V) (_:x=.ref a) (_:y=.ref b) (_:SqL K H a c) (_:SqL K H b []) (_:Q (.bl (!c.isEmpty)) H):Xz K x y H Q
theorem JA(hu:X.A.units<cLine):OpR X (compareOp .NotEq) (Xz X.K):=by
 intro A s σ H x y v u Q I D E h;obtain⟨a,b,G,rfl,rfl,hx,hy,q⟩:=h;cases D;cases E;obtain⟨c,B,l,J⟩:=I.list hx;obtain⟨g,C,w,L⟩:=I.list hy;cases C;cases B with
 | nil=>exact SeqAt.RcNeAt.lists (e:=λ_=>true) l.isList w.isList rfl hu (λj h1 _=>by simp at h1) _ _ _ _ {.bl _,H,I,rfl,q}
 | cons r t=>exact SeqAt.RcNeAt.lists_lengths l.isList w.isList 1e3 hu _ _ _ _ {.bl _,H,I,rfl,q}
inductive XA(K:W.Frag)(x:V)(y:V)(H:Hp)(Q:VK):Prop
 | mk (a b:Addr) (c:List V) (_:x=.ref a) (_:y=.ref b) (_:SqL K H a c) (_:SqL K H b []) (_:Q (.bl c.isEmpty) H):XA K x y H Q
theorem zfy(hu:X.A.units<cLine):OpR X (compareOp .Eq) (XA X.K):=by
 intro A s σ H x y v u Q I D E h;obtain⟨a,b,G,rfl,rfl,hx,hy,q⟩:=h;cases D;cases E;obtain⟨c,B,l,J⟩:=I.list hx;obtain⟨g,C,w,L⟩:=I.list hy;cases C;cases B with
 | nil=>exact zaS (e:=λ_=>true) l.isList w.isList rfl hu (λj h1 _=>by simp at h1) _ _ _ _ {.bl _,H,I,rfl,q}
 | cons r t=>exact SeqAt.RcAt.lists_lengths l.isList w.isList 1e3 hu _ _ _ _ {.bl _,H,I,rfl,q}
theorem WH:∀{b:List Value} {n k:Nat},b.length=n->(∀j v,b[j]? =some v->∃t,v=Value.int ((k+j:Nat):Int) t)->Vals ((List.range' k n).map λi:Nat=>V.int (i:Int)) b
 | [],0,k,_,_=>.nil
 | v::b,n+1,k,g,h=>by
  rw[List.range'_succ,jz];obtain⟨t,e⟩:=h 0 v rfl;refine .cons {t,by rw[e];rfl} (WH (by simpa using g) λj w l=>?_)
  obtain⟨s,c⟩:=h (j+1) w (by simpa using l)
  exact{s,by rw[c,show k+(j+1)=k+1+j by omega]}
theorem ZQ{a:Expr}{T:TA}{p J L c:Pos}(hc:X.calm=true)(hg:Gl X "list")(hm:X.mg "list" = none)(E:Gl X "range")(G:X.mg "range" = none)(hv:bootBuiltins "list" = some (.type "list"))(ha:PA X [a] T)(hs:starEach [a] X.env=[(false,eval a X.env)]:=by rfl)
  (N:starEach [.Call (.Name "range" J) [a] [] c] X.env=[(false,eval (.Call (.Name "range" J) [a] [] c) X.env)]:=by rfl) :
  PE X (.Call (.Name "list" p) [.Call (.Name "range" J) [a] [] c] [] L) (λσ H Q=>T σ H λU D=>∃j:Int,U=[.int j]/\0<=j/\j<=1000000/\∀l,D l=none->Q (.ref l) (upd D l (.lst ((List.range j.toNat).map λi:Nat=>V.int (i:Int))))):=by
 intro A s σ H Q I h;refine wpAny_Call_Name_kw (wE I hg hm hv ?_ 1e1 1e1)
 refine J9 ?_ N rfl
 rw[N];refine QH ?_
 refine Call_ (wE I E G boot_range (J9 (thn (ha c A s σ H _ I h) λus s1 ⟨U,D,Y,r1,q1⟩=>?_) hs rfl))
 obtain⟨j,e,j0,j1,q⟩:=q1;subst e;cases r1 with
 | cons r rr=>
  cases rr;obtain⟨t,rfl⟩:=r;refine call_range_1 (Wh ?_)
  have M:Inv X A σ D { s1 with heap:=s1.heap.push { cls:=.type "range",data:=.fields #[.int 0 s1.toks,.int j t,.int 1 (s1.toks+1)] },toks:=s1.toks+1+1 }:=Y.kept λb o e=>qX _ e
  have w:=bGe;refine call_list_range (n:=j.toNat) (I.ok.hd hc) (IsRange.new ..) (small_one (by rw[w];omega) (by rw[w];omega) (by rw[w];omega) (by rw[w];omega)) (by rw[rangeSize_one];split<;>omega) () λh' tk B c' C get g=>?_
  refine{.ref _,_,M.laid (t':=tk) (o:=.lst ((List.range j.toNat).map λi:Nat=>V.int (i:Int))) C (zF _) ?_,rfl,q _ (M.hok.fresh (zF _))}
  refine{by rw[zm,wg,sizeLine_eq];omega,B.toList,c',?_,by rw[Array.toArray_toList];exact get}
  rw[List.range_eq_range'];refine WH (by rw[xR];exact g.1) λi v hv=>?_
  obtain⟨O,e'⟩:=g.2 i v (by simpa using hv)
  exact{O,by rw[e'];congr 1;omega}
end
end L2
namespace L2
open PySem PySem.Spec PyProof.Rows
section
variable{b:Program}{w:World}{A:Around}{E:Value->Shared->Prop}{s:Shared}
end
section
variable{X:Cx}{A:Around}{R:Result->Shared->Prop}
end
section
variable{X:Cx}
theorem ZV{K:W.Frag}(h:X.K=K):IxR X (zjg K):=by rw[<- h];exact qO
theorem jg{K:W.Frag}(h:X.K=K):IxR X (zjf K):=by rw[<- h];exact qC
theorem vD{K:W.Frag}(h:X.K=K):xT X (.builtin "len") (wm K):=by rw[<- h];exact zI
theorem jV{K:W.Frag}(h:X.K=K):OpR X (compareOp .In) (rIn K false):=by rw[<- h];exact vU
theorem wC{K:W.Frag}(h:X.K=K):OpR X (compareOp .NotIn) (rIn K true):=by rw[<- h];exact VG
inductive Vq(x:V)(y:V)(H:Hp)(Q:VK):Prop
 | mk (a b:_) (_:x=.bl a) (_:y=.bl b) (_:Q (.bl (!decide (a=b))) H):Vq x y H Q
theorem zcb:OpR X (compareOp .IsNot) (Vq):=by
 intro c s σ H x y v u Q I g l h;obtain⟨a,b,rfl,rfl,q⟩:=h;cases g;cases l;refine wpAny_isNot_plain (by cases a<;>cases b<;>rfl) (qU I q ?_)
 cases a<;>cases b<;>rfl
end
section
open AutoSeq1 (wpAny_loadPart')
theorem yy(l:Addr)(b:Array Value)(n:Nat)(C:Option Addr)(H:Array (Option Value)) :
  Meets (Builtin.«enumerate.__new__» {[.type "enumerate",.ref l],[]}) (λ_ R s=>s.heap.get? l=some { cls:=.type "tuple",dict:=C,data:=.seq b n,slots:=H } /\
   R (.ok (.ret (.ref (s.heap.push { cls:=.type "tuple_iterator",data:=.fields #[.ref l,.int 0 0] }).objs.size)))
    { s with heap:=(s.heap.push { cls:=.type "tuple_iterator",data:=.fields #[.ref l,.int 0 0] }).push { cls:=.type "enumerate",data:=.fields #[.none,.bool false,.ref s.heap.objs.size,rawInt 0,.none,.none] } }):=
 .of_wp λG w A R s h=>by
  obtain⟨hp,g,d,I,os⟩:=s;obtain⟨B,h⟩:=h
  have E:=sub_enumerate;have D:Heap.IsTuple (Shared.heap ⟨hp,g,d,I,os⟩) l b:={_,B,rfl,n,rfl};wp_walk using wpAny_loadPart' B
  refine wpAny_stack_any λst=>zx ?_
  split
  .rename_i c _ _ _ _ _
   cases(c==Value.type "enumerate")
   .wp_walk using wpAny_loadPart' B,wpAny_pyIter_tuple D
    exact{_,rfl,h}
   .wp_walk using wpAny_loadPart' B,wpAny_pyIter_tuple D
    exact{_,rfl,h}
  .wp_walk using wpAny_loadPart' B,wpAny_pyIter_tuple D
   exact{_,rfl,h}
end
section
variable{prog:Program}{w:World}{A:Around}{E:Value->Shared->Prop}{s:Shared}
theorem yG{l:Addr}{g:Array Value}{Q:Value->Shared->Prop}(I:s.heap.IsTuple l g)
  (h:∀B,IsEnum B 0#C s.heap.objs.size 0 .none->B.IsTupleIter s.heap.objs.size l 0->B.objs.size=s.heap.objs.size+2 ->
   (∀b o,s.heap.get? b=some o->B.get? b=some o)->Q (.ref 0#C) { s with heap:=B }) :
  wpAny (model prog w) A (call (.type "enumerate") [.ref l]) Q E s:=by
 obtain⟨⟨c,C,H,L⟩,J,hc,n,hd⟩:=I;replace hc:c=.type "tuple" :=hc
 replace hd:H=.seq g n:=hd
 subst hc hd;refine callType_new F.called_enumerate 1e1 (F.typeCall_enumerate_1 _) (F.newCall_enumerate_1 _) (λD=>F.args_object_init_2 D _) F.entry_enumerate_new
  (yy l g n C L) {J,?_}
 have hz:(s.heap.push { cls:=.type "tuple_iterator",data:=.fields #[.ref l,.int 0 0] }).objs.size=s.heap.objs.size+1:=vH ..;show _/\_;rw[hz];have G:IsEnum ((s.heap.push { cls:=.type "tuple_iterator",data:=.fields #[.ref l,.int 0 0] }).push
   { cls:=.type "enumerate",data:=.fields #[.none,.bool false,.ref s.heap.objs.size,rawInt 0,.none,.none] }) 0#C s.heap.objs.size 0 .none:=by
  have:=qQ (s.heap.push { cls:=.type "tuple_iterator",data:=.fields #[.ref l,.int 0 0] })
   (o:={ cls:=.type "enumerate",data:=.fields #[.none,.bool false,.ref s.heap.objs.size,rawInt 0,.none,.none] }) rfl
  rw[hz] at this;exact this
 refine{{_,G,rfl},h _ G {_,qX _ (qQ _ rfl),rfl,rfl} (by rw[vH,hz]) λb o x=>qX _ (qX _ x)}
theorem Draws.tuple{prog:Program}{w:World}{A:Around}(L:A.handled=none)(B l:Addr)(D:l≠B)(b:Array Value) :
  Draws prog w A B [B,l] b.size (λi v=>b[i]? =some v) (λi h=>h.IsTupleIter B l i/\h.IsTuple l b) where
 live:=λ_ _ st=>let ⟨o,M,_⟩:=st.1;⟨o,M⟩
 frame:=λ_ _ _ st hk=>{ItrK.at (kd:=false) st.1 λo e=>hk B 1e3 o e,SeqK.at (kd:=false) st.2 λo e=>hk l 1e3 o e}
 item:=λi s Q E G st J=>by
  refine wU (kd:=false) st.1 st.2 (x:=b[i]) (by simp[G]) λH c g=>?_
  exact J _ H s.toks (by simp[G]) {c,SeqK.at (kd:=false) st.2 λo e=>g.extBut l o D e} g
 done:=λs Q E st I=>yY (kd:=false) L st.1 st.2 1e3 I
end
def Y1(K:W.Frag)(a:Addr):It:=
 {λi H=>∃b x,SqT K H a b/\b[i]? =some x,λi H x c=>∃T y,x=.ref T/\H T=none/\c=upd H T (.tup [.int i,y])/\∀b,SqT K H a b->b[i]? =some y,λi H=>∃b,SqT K H a b/\b.length<=i}
theorem Y8{P:Program}{w:World}{K:W.Frag}{N:List Expr}{kk:Nat}{aj:Pos}(a e l:Addr)(J:e≠l) :
  ZF P w K (.Tuple N kk aj) (Y1 K a) [e,l] e (λi h=>(∃G,IsEnum h e l i G)/\h.IsTupleIter l a i) where
 mem:=1e3
 obj:=λi h st b hb=>by
  obtain⟨⟨G,B⟩,⟨o,ho,c,d⟩⟩:=st;rcases qH.mp hb with z | z
  .subst z;exact{_,B,λv q=>nomatch q}
  .rw[qm.mp z];exact{o,ho,λv q=>by rw[d] at q;cases q}
 keep:=λi h h' st k=>by
  obtain⟨⟨G,B⟩,hi⟩:=st;exact{{G,k e 1e3 _ B},ItrK.at (kd:=false) hi λo q=>k l 1e3 o q}
 item:=by
  intro X hP hw hK hc i Y s σ H E I hf st hg;subst hP hw hK;obtain⟨⟨G,B⟩,C⟩:=st;obtain⟨xs,x,hq,hx⟩:=hg;obtain⟨g,rv,p,hz⟩:=I.tuple hq;obtain⟨u,hu,ru⟩:=rv.get hx;have M:s.heap.IsTuple a g.toArray:=p;have O:a≠l:=λz=>by
   obtain⟨o,e1,c1,_⟩:=M;obtain⟨o',e2,c2,_⟩:=C;rw[z,e2] at e1;cases e1;rw[c2] at c1;exact absurd (yJ c1) 1e1
  have aa:e≠a:=λz=>by
   obtain⟨o,e1,c1,_⟩:=M;rw[<- z,B] at e1;cases e1;exact absurd (yJ c1) 1e1
  have D:=Draws.tuple (prog:=X.prog) (w:=X.w) (A:=X.A.in1) (I.ok.hd hc) l a O g.toArray;have hi:i<g.toArray.size:=by
   have h1:=(zK.mp hu).1;simpa using h1
  refine wpAny_pyNext_enum_itemD D B ⟨C,M⟩ hi J (by simp[J,aa]) λx' h' tk a0 Q U hT am hk=>?_
  have ex:x'=u:=by
   have h2:g[i]? =some x':=by simpa using a0
   rw[hu] at h2;exact(jC h2).symm
  subst ex;refine{_,rfl,wpAny_letOwnedTupleGo_enum Q λh2 af L=>?_}
  have eT:s.heap.objs.size≠e:=vL (zU B);have k2:∀b o,b∉[e,l]->s.heap.get? b=some o->h2.get? b=some o:=λb o hb q=>by
   have n1:b≠e:=λz=>hb (by simp[z])
   have n2:b≠l:=λz=>hb (by simp[z])
   exact(L.2 b n1).trans (hk b o n1 n2 q)
  have ai:h2.IsTupleIter l a (i+1):=ItrK.at (kd:=false) U.1 λo q=>L.extBut l o (qD J) q
  refine{.ref s.heap.objs.size,upd H s.heap.objs.size (.tup [.int i,x]),?_,rfl,{_,x,rfl,I.hok.fresh (zF _),rfl,λys hy=>by rw[I.tuple_inj hy hq];exact hx},{{_,by simpa using af},ai},λb hb=>?_}
  .refine Je (s:=s) (h':=h2) (t':=tk+1) (its:=[.int i tk,x']) I hf (zF _) k2 (by rw[sizeLine_eq];exact(by decide:2<=16777216)) (.cons ⟨tk,rfl⟩ (.cons ru .nil)) (TupX.by ((L.2 _ eT).trans hT))
  .have ab:b<s.heap.objs.size:=by
    rcases qH.mp hb with z | z
    .rw[z];exact zU B
    .rw[qm.mp z]
     obtain⟨o',e',_⟩:=C;exact zU e'
   rw[zp (qV ab)];exact(hf b hb).1
 done:=by
  intro X hP hw hK hc i Y s σ H E I hf st hg;subst hP hw hK;obtain⟨⟨G,B⟩,C⟩:=st;obtain⟨xs,hq,hx⟩:=hg;obtain⟨g,rv,p,hz⟩:=I.tuple hq;have M:s.heap.IsTuple a g.toArray:=p;have O:a≠l:=λz=>by
   obtain⟨o,e1,c1,_⟩:=M;obtain⟨o',e2,c2,_⟩:=C;rw[z,e2] at e1;cases e1;rw[c2] at c1;exact absurd (yJ c1) 1e1
  obtain⟨f0,f1,f2,f3,f4,f5⟩:=hf l 1e3
  have ag:g.toArray.size<=i:=by
   have:=rv.length;simp only[zX];omega
  have hT:s.TypeIs (.ref e) "enumerate" :={_,B,rfl};unfold pyNext;refine zk (Zu (Qb (name:=Str.ofString "__next__") hT Ws (yg Ws hT F.entry_enumerate_next ?_ (F.args_enumerate_next_1 _))))
  show wpAny _ _ (field (.ref e) 2 >>= _) _ _ _;refine zk (vG B rfl (x:=.ref l) rfl (zk (yY (kd:=false) (I.ok.hd hc) C M (by simpa using ag) λh' x ae ah=>?_)))
  obtain⟨o,ho,ac⟩:=ah;refine zk (yL (T:= "StopIteration") (b:=true) ⟨o,ho,ac⟩ isSubtype_stop ?_)
  exact zx {rfl,I.turned (t':=s.toks) (λb o hb q=>ae b o hb q) f0 f1 f3 f4 f5}
 self:=λ_ _ _ _ _ st h=>let ⟨⟨_,B⟩,_⟩:=st;wpAny_pyIter_enum B h
section
variable{X:Cx}
def zjX(K:W.Frag)(c:TA):TI:=λσ H R=>c σ H λg b=>∃a,g=[.ref a]/\(∃l,SqT K b a l)/\R (Y1 K a) b
theorem wJ{l:Expr}{E:TA}{p A tp:Pos}{g:List Expr}{T:Nat}(hg:Gl X "enumerate")(N:X.mg "enumerate" = none)(L:PA X [l] E)(hs:starEach [l] X.env=[(false,eval l X.env)]:=by rfl) :
  PI X (.Tuple g T tp) (.Call (.Name "enumerate" p) [l] [] A) (zjX X.K E):=by
 intro c s σ H R I h;refine Call_ (wE I hg N boot_enumerate (J9 (thn (L A c s σ H _ I h) λus s1 ⟨vs,C,B,r1,Y⟩=>?_) hs rfl))
 obtain⟨a,e,⟨xs,hq⟩,q⟩:=Y;subst e;obtain⟨u,rfl,ru⟩:=yc r1;cases ru;obtain⟨Q,rv,U,hz⟩:=B.tuple hq;refine yG U λJ D M O hk=>wpAny_pyIter_enum D ?_
 have G:Inv X c σ C { s1 with heap:=J }:=B.kept (t':=s1.toks) hk;refine{s1.heap.objs.size+1,[s1.heap.objs.size+1,s1.heap.objs.size],_,_,C,rfl,G,Y8 a _ _ (Nat.succ_ne_self _),{{_,D},M},λb hb=>?_,q}
 have w:s1.heap.objs.size<=b:=by
  rcases qH.mp hb with z | z
  .rw[z];exact QB _
  .rw[qm.mp z];exact zF _
 exact B.fpOk w (B.hok.fresh w)
theorem Qt{K:W.Frag}{a:Addr}{xs:List V}{g:TG}{B:TS}{D:XM}{σ:St}{H:Hp}(Pv:Nat->St->Hp->Prop)(h0:Pv 0 σ H)(G:∀i σ H,i<=xs.length->Pv i σ H->SqT K H a xs)
  (hs:∀i x σ H T,xs[i]? =some x->Pv i σ H->H T=none->g (.ref T) σ (upd H T (.tup [.int i,x])) λw l=>B { D with nx:=Pv (i+1),ct:=Pv (i+1),bk:=D.nx } w l) (hd:∀σ H,Pv xs.length σ H->D.nx σ H) :
  ∃W:Nat->Nat->St->Hp->Prop,(∃m,W 0 m σ H)/\∀i m σ H,W i m σ H ->
   ((Y1 K a).stop i H/\D.nx σ H)\/((Y1 K a).go i H/\∃N:St->Hp->Prop,(∀s b,N s b->∃A,A<m/\W (i+1) A s b)/\∀x b,(Y1 K a).yld i H x b->g x σ b λw l=>B { D with nx:=N,ct:=N,bk:=D.nx } w l):=by
 fail"b"
 rintro i m σ H ⟨rfl,E,p⟩;have q:=G i σ H E p;by_cases c:i<xs.length
 .refine .inr {{xs,xs[i],q,by simp[c]},Pv (i+1),λs b I=>{xs.length-(i+1),(),rfl,c,I},λx b y=>?_}
  obtain⟨T,z,e1,C,e2,y⟩:=y;subst e1 e2;exact hs i z σ H T (y xs q) p C
 .have e:i=xs.length:=()
  subst e;exact .inl {{xs,q,zF _},hd σ H p}
end
end L2
namespace L2
open PySem PySem.Spec PyProof.Rows
section
variable{b:Program}{w:World}{A:Around}{R:Result->Shared->Prop}{s:Shared}
abbrev lc2(C G c:Expr)(l:List Expr)(H B:Expr)(D:List Expr)(g:Scope)(E:Pos):Expr:=.ListComp C [{G,c,l,0},{H,B,D,0}] g E
theorem YU(G J B:Expr)(D:List Expr)(M l:Expr)(H:List Expr)(C:Scope)(I:Pos)(L E:Value)(g:Env) :
  compTurn (lc2 G J B D M l H C I) 1 L E g=(do
   standAt l.pos
   match<-pyNext L with
   | none=>pure (.done .next)
   | some v=>
    letOwnedTupleGo M L v
    assign M g v
    let mut ok:=true
    for c in H do
     if ok then ok<-isTrue c g (eval c g)
    if ok then
     (do let _<-call (.builtin "list.append") [E,<- eval G g])
    again (.compLoop (lc2 G J B D M l H C I) 1 L E g)):=1e2
theorem V0(G D g:Expr)(C:List Expr)(L c:Expr)(H:List Expr)(B:Scope)(I:Pos)(J E:Value)(l:Env) :
  compTurn (lc2 G D g C L c H B I) 0 J E l=(do
   standAt g.pos
   match<-pyNext J with
   | none=>pure (.done .next)
   | some v=>
    letOwnedTupleGo D J v
    assign D l v
    let ok<-vS C l
    if ok=true then do
     let x<-eval c l
     standAt c.pos
     let x<-foldedSetIterable c l x
     let M<-holding [x] (pyIter x)
     let _<-runOwn (.compStart (lc2 G D g C L c H B I) 1 M E l) l
     again (.compLoop (lc2 G D g C L c H B I) 0 J E l)
    else again (.compLoop (lc2 G D g C L c H B I) 0 J E l)):=1e2
theorem yF{E I c B N l G g H M D C}
  (h0:codeAny 0#j A (.compLoop (lc2 E I c B N l G g H) 1 M D C) R s)
  (h:wpAny 0#j A (pyIter M) (λJ L=>codeAny 0#j A (.compLoop (lc2 E I c B N l G g H) 1 J D C) R L)
   (notedBy 0#j A C λx L=>R (.error x) L) s) :
  codeAny 0#j A (.compStart (lc2 E I c B N l G g H) 1 M D C) R s:=by
 refine codeAny_of_tree ?_
 show wpAny _ _ ((compStart (lc2 E I c B N l G g H) 1 M D C).onRaise (λx=>do noteFrame x C;standAt theWindowsPlace)) _ _ s
 refine wpAny_notedAt ?_
 unfold compStart;show wpAny _ _ (ask >>= _) _ _ s;refine zk (wpAny_askSetting (wpAny_ite ?_))
 split
 .first
   | exact zk (zx (zx (And.intro rfl h0)))
   | exact zx (And.intro rfl h0)
 .first
   | exact zk (wb (zk (wP (zk (ja h (λJ L O=>zx (And.intro rfl O)) λ_ _ x=>x)))))
   | (refine zk (wb ?_);show wpAny _ _ (standAt l.pos >>= _) _ _ s;exact zk (wP (zk (ja h (λJ L O=>zx (And.intro rfl O)) λ_ _ x=>x))))
theorem zj9{C M g:Expr}{D:List Expr}{tg G:Expr}{H:List Expr}{l:Scope}{L:Pos}{O B:Value}{c:Env}(J:Nat->Shared->Prop)
  (N:∀n s,J n s->wpAny 0#j A (pyNext O) (λr s1=>match r with
   | none=>R (.ok .next) s1
   | some v=>wpAny 0#j A (letOwnedTupleGo tg O v) (λ_ s2=>wpAny 0#j A (assign tg c v) (λ_ s3=>
     wpAny 0#j A (vS H c) (λok T=>
      if ok=true then wpAny 0#j A (eval C c) (λx U=>
       wpAny 0#j A (call (.builtin "list.append") [B,x]) (λ_ Y=>∃m,m<n/\J m Y) 0#f U) 0#f T
      else ∃m,m<n/\J m T) 0#f s3) 0#f s2) 0#f s1) 0#f s)
  (n:Nat) (h:J n s):codeAny 0#j A (.compLoop (lc2 C M g D tg G H l L) 1 O B c) R s:=by
 have I:∀{α:Type} {t:Sem α} {Q:α->Shared->Prop} {E:Value->Shared->Prop} {s:Shared},wpAny 0#j A t Q 0#f s->wpAny 0#j A t Q E s:=λx=>ja x (λ_ _ q=>q) λ_ _ q=>q.elim
 refine codeAny_loop rfl J (λk u hJ=>?_) n h
 show wpAny _ A ((compTurn (lc2 C M g D tg G H l L) 1 O B c).onRaise (λx=>do noteFrame x c;theTreesLotGoes x)) _ _ u
 refine wpAny_noted ?_
 rw[YU];refine zk (wP (zk (I (ja (N k u hJ) (λr s1 h1=>?_) λ_ _ q=>q))))
 cases r with
 | none=>exact zx h1
 | some v=>
  refine zk (I (ja h1 (λ_ s2 h2=>zk (I (ja h2 (λ_ s3 h3=>zk (I (ja h3 (λok T h4=>?_) λ_ _ q=>q))) λ_ _ q=>q))) λ_ _ q=>q))
  cases ok with
  | false=>exact zx ⟨rfl,h4⟩
  | true=>
   have a0:wpAny 0#j A (eval C c) (λx U=>wpAny 0#j A (call (.builtin "list.append") [B,x]) (λ_ Y=>∃m,m<k/\J m Y) 0#f U) 0#f T:=h4
   refine zk (zk (I (ja a0 (λx U h5=>zk (I (ja h5 (λ_ Y h6=>zx (zx ⟨rfl,h6⟩)) λ_ _ q=>q))) λ_ _ q=>q)))
theorem zhV{H D l:Expr}{C:List Expr}{tg c:Expr}{I:List Expr}{B:Scope}{L:Pos}{T G:Value}{g:Env}(hs:∀x,foldedSetIterable c g x=pure x)(J:Nat->Shared->Prop)
  (N:∀n s,J n s->wpAny 0#j A (pyNext T) (λr s1=>match r with
   | none=>R (.ok .next) s1
   | some v=>wpAny 0#j A (letOwnedTupleGo D T v) (λ_ s2=>wpAny 0#j A (assign D g v) (λ_ s3=>
     wpAny 0#j A (vS C g) (λok U=>
      if ok=true then wpAny 0#j A (eval c g) (λx Y=>
       wpAny 0#j A (pyIter x) (λO s6=>codeAny 0#j A (.compStart (lc2 H D l C tg c I B L) 1 O G g) (λr s7=>match r with | .ok _=>∃m,m<n/\J m s7 | .error _=>False) s6) 0#f Y) 0#f U
      else ∃m,m<n/\J m U) 0#f s3) 0#f s2) 0#f s1) 0#f s)
  (n:Nat) (h:J n s):codeAny 0#j A (.compLoop (lc2 H D l C tg c I B L) 0 T G g) R s:=by
 have M:∀{α:Type} {t:Sem α} {Q:α->Shared->Prop} {E:Value->Shared->Prop} {s:Shared},wpAny 0#j A t Q 0#f s->wpAny 0#j A t Q E s:=λx=>ja x (λ_ _ q=>q) λ_ _ q=>q.elim
 refine codeAny_loop rfl J (λk u hJ=>?_) n h
 show wpAny _ A ((compTurn (lc2 H D l C tg c I B L) 0 T G g).onRaise (λx=>do noteFrame x g;theTreesLotGoes x)) _ _ u
 refine wpAny_noted ?_
 rw[V0];refine zk (wP (zk (M (ja (N k u hJ) (λr s1 h1=>?_) λ_ _ q=>q))))
 cases r with
 | none=>exact zx h1
 | some v=>
  refine zk (M (ja h1 (λ_ s2 h2=>zk (M (ja h2 (λ_ s3 h3=>zk (M (ja h3 (λok U h4=>?_) λ_ _ q=>q))) λ_ _ q=>q))) λ_ _ q=>q))
  cases ok with
  | false=>exact zx ⟨rfl,h4⟩
  | true=>
   have a0:wpAny 0#j A (eval c g) (λx Y=>
       wpAny 0#j A (pyIter x) (λO s6=>codeAny 0#j A (.compStart (lc2 H D l C tg c I B L) 1 O G g) (λr s7=>match r with | .ok _=>∃m,m<k/\J m s7 | .error _=>False) s6) 0#f Y) 0#f U:=h4
   refine zk (M (ja a0 (λx Y h5=>zk (wP (zk (QA (hs x) (zk (wv (M (ja h5 (λO s6 h6=>?_) λ_ _ q=>q)))))))) λ_ _ q=>q))
   refine zk (wpAny_runOwn (h:=none) ?_)
   rw[Around.mark_none];refine codeAny_mono h6 λr s7 h7=>?_
   cases r with
   | ok f=>exact zx ⟨rfl,h7⟩
   | error e=>exact h7.elim
end
def Sub:St->St->Prop
 | [],[]=>True
 | none::r,_::b=>Sub r b
 | some v::r,x::b=>x=some v/\Sub r b
 | _,_=>False
theorem Sub.len:∀{a b:St},Sub a b->a.length=b.length
 | [],[],_=>rfl
 | [],_::_,h=>h.elim
 | none::_,[],h=>h.elim
 | some _::_,[],h=>h.elim
 | none::r,_::c,h=>by rw[jZ,jZ,Sub.len (a:=r) (b:=c) h]
 | some _::r,_::c,h=>by rw[jZ,jZ,Sub.len (a:=r) (b:=c) h.2]
theorem Sub.get:∀{a b:St} {i:Nat} {v:V},Sub a b->a[i]? =some (some v)->b[i]? =some (some v)
 | [],[],_,_,_,e=>e
 | [],_::_,_,_,h,_=>h.elim
 | none::_,[],_,_,h,_=>h.elim
 | some _::_,[],_,_,h,_=>h.elim
 | none::r,_::c,0,v,h,e=>by simp at e
 | none::r,_::c,i+1,v,h,e=>by
  rw[List.getElem?_cons_succ] at e ⊢
  exact Sub.get (a:=r) (b:=c) h e
 | some _::r,_::c,0,v,h,e=>by
  rw[List.getElem?_cons_zero] at e ⊢
  rw[h.1];exact e
 | some _::r,_::c,i+1,v,h,e=>by
  rw[List.getElem?_cons_succ] at e ⊢
  exact Sub.get (a:=r) (b:=c) h.2 e
def tIn(Q:TI)(g:TG)(O:TT)(M:TE)(T:List V)(N:List V->Hp->Prop):St->Hp->Prop:=λB H=>Q B H λJ I=>
 ∃W:Nat->Nat->List V->Hp->Prop,(∃m,W 0 m T I)/\∀i m c s,W i m c s ->
  (J.stop i s/\N c s) \/
  (J.go i s/\∃A:List V->Hp->Prop,(∀c D,A c D->∃G,G<m/\W (i+1) G c D)/\∀x E,J.yld i s x E->g x B E λC L=>Sub B C/\O C L λb l=>
   if b=true then M C l λy w=>c.length<sizeLine/\A (c++[y]) w else A c l)
section
variable{X:Cx}{s G c:Expr}{A:List Expr}{E B:Expr}{w:List Expr}{l:Scope}{C:Pos}{U O:TI}{g Q:TG}{L M:TT}{H:TE}
theorem zhE{Y:Cx}{D:Addr}{a0:List (Addr×Obj)}{σ4:St}{H0:Hp}{s0:Shared}{it:Addr}{fp:List Addr}{tn:Nat->Heap->Prop}{J:It}{R:Result->Shared->Prop}{N:List V->Hp->Prop}{ys:List V}{aa:List Value}{z:Nat}{m0:Nat}{W:Nat->Nat->List V->Hp->Prop}
  (hc:Y.calm=true) (hx:Y.xe=λ_ _=>False) (hg:PG Y E g) (hf:PF Y w L) (he:PE Y s H)
  (T:ZF Y.prog Y.w Y.K E J fp it tn) (fD:∀H':Hp,H' D=none->vc Y a0 H' D) (f2:∀b∈fp,∀H':Hp,H' b=none->vc Y a0 H' b) (nD:∀b∈fp,D≠b)
  (I:Inv Y a0 σ4 H0 s0) (st:tn 0 s0.heap) (fr:∀b∈fp,H0 b=none) (af:H0 D=none) (ho:s0.heap.get? D=some { cls:=.type "list",data:=.seq aa.toArray z }) (rv:Vals ys aa) (w0:W 0 m0 ys H0)
  (ac:∀i m zs H7,W i m zs H7 ->
   (J.stop i H7/\N zs H7) \/
   (J.go i H7/\∃N2:List V->Hp->Prop,(∀zs H',N2 zs H'->∃m',m'<m/\W (i+1) m' zs H')/\∀x H8,J.yld i H7 x H8->g x σ4 H8 λσ9 H9=>Sub σ4 σ9/\L σ9 H9 λb ab=>
    if b=true then H σ9 ab λy ae=>zs.length<sizeLine/\N2 (zs++[y]) ae else N2 zs ab))
  (fin:∀s',LcE Y D a0 σ4 N s'->R (.ok .next) s') :
  codeAny 0#w Y.A (.compLoop (lc2 s G c A E B w l C) 1 (.ref it) (.ref D) Y.env) R s0:=by
 refine zj9 (LcJ Y D tn fp a0 σ4 W) (λn s5 j=>ja (zcm hc hx hg hf he T fD f2 nD (λσ9 H' s' J hd=>J.weak hd.len λk v e=>hd.get e) ac j) (λr s6 h6=>?_) λ_ _ q=>q) m0 {0,ys,aa,H0,z,I,st,fr,af,ho,rv,w0}
 cases r with
 | some v=>exact h6
 | none=>exact fin s6 h6
end
def zi0(w:TI)(n:Nat)(G:List Nat)(T:TG)(s:TT)(wi:TI)(g:TG)(Y:TT)(U:TE):TE:=λσ H Q=>w σ H λJ M=>
 ∃W:Nat->Nat->List V->Hp->Prop,(∃m,W 0 m [] M)/\∀i m l c,W i m l c ->
  (J.stop i c/\l.length<=sizeLine/\∀D,c D=none->Q (.ref D) (upd c D (.lst l))) \/
  (J.go i c/\∃N:List V->Hp->Prop,(∀L B,N L B->∃I,I<m/\W (i+1) I L B)/\∀x C,J.yld i c x C->T x (upS n G σ) C λA O=>A.drop n=(upS n G σ).drop n/\s A O λb E=>
   if b=true then tIn wi g Y U l N A E else N l E)
section
variable{X:Cx}{A w iter1:Expr}{l:List Expr}{G c:Expr}{B:List Expr}{scope:Scope}{pos:Pos}{O a0:TI}{g U:TG}{M E:TT}{L:TE}
theorem zfR{Y:Cx}{D it:Addr}{C:List Addr}{tn:Nat->Heap->Prop}{J:It}{σ4:St}{Kp:St->Prop}{W:Nat->Nat->List V->Hp->Prop}{N:List V->Hp->Prop}{n:Nat}{s5:Shared}
  (hc:Y.calm=true) (hx:Y.xe=λ_ _=>False) (hg:PG Y w U) (hf:PF Y l E) (bd:PI Y G c O) (bc:PG Y G g) (bb:PF Y B M) (he:PE Y A L) (T:ZF Y.prog Y.w Y.K w J C it tn)
  (fB:∀b∈D::C,∀s:Hp,s b=none->vc Y [] s b) (nD:∀b∈C,D≠b) (bk:∀σ9 s s',Inv Y [] σ9 s s'->Kp σ9->Inv Y [] σ4 s s')
  (av:∀i m Q H7,W i m Q H7->(J.stop i H7/\N Q H7)\/(J.go i H7/\∃N2:List V->Hp->Prop,(∀Q s,N2 Q s->∃m',m'<m/\W (i+1) m' Q s)/\∀x H8,J.yld i H7 x H8->U x σ4 H8 λσ9 H9=>Kp σ9/\E σ9 H9 λb an=>
    if b=true then tIn O g M L Q N2 σ9 an else N2 Q an)) (j:LcJ Y D tn C [] σ4 W n s5) :
  wpAny 0#w Y.A (pyNext (.ref it)) (λr s1=>match r with
   | none=>LcE Y D [] σ4 N s1
   | some v=>wpAny 0#w Y.A (letOwnedTupleGo w (.ref it) v) (λ_ s2=>wpAny 0#w Y.A (assign w Y.env v) (λ_ s3=>
     wpAny 0#w Y.A (vS l Y.env) (λok s4=>
      if ok=true then wpAny 0#w Y.A (eval c Y.env) (λx s5=>
       wpAny 0#w Y.A (pyIter x) (λi2 s6=>codeAny 0#w Y.A (.compStart (lc2 A w iter1 l G c B scope pos) 1 i2 (.ref D) Y.env) (λr I=>match r with | .ok _=>∃m,m<n/\LcJ Y D tn C [] σ4 W m I | .error _=>False) s6) 0#f s5) 0#f s4
      else ∃m,m<n/\LcJ Y D tn C [] σ4 W m s4) 0#f s3) 0#f s2) 0#f s1) 0#f s5:=by
 have ag:=hg;have af:=hf;have ah:=bd
 unfold PG at ag;unfold PF at af;unfold PI at ah
 rw[hx] at ag af ah;obtain⟨i,ys,ai,H5,z5,I5,au,ap,b0,aq,ak,w5⟩:=j;have ao:=I5.pinned (fp:=[D]) (λb hb=>by rw[qm.mp hb];exact fB D qJ _ b0) (λb hb=>by rw[qm.mp hb];exact{_,aq,λv q=>nomatch q})
 have mD:(D,({ cls:=.type "list",data:=.seq ai.toArray z5 }:Obj))∈[]++ju [D] s5.heap:=qW _ (jW (qm.mpr rfl) aq);have ae:∀{s:Hp},(∀b∈C,s b=none)->∀b∈C,vc Y ([]++ju [D] s5.heap) s b:=λhn b hb=>by
  obtain⟨a1,a2,a3,a4,a5,a6⟩:=fB b (xg _ hb) _ (hn b hb);refine{a1,a2,a3,a4,a5,λp hp=>?_}
  rcases zV.mp hp with q | q
  .exact a6 p (qw _ q)
  .rw[qm.mp (wL ((zV.mp q).resolve_left 1e3)).1];exact nD b hb
 rcases av i n ys H5 w5 with ⟨stop,q⟩ | ⟨go,N2,hN,step⟩
 .refine thn (T.done Y rfl rfl rfl hc i _ s5 _ H5 _ ao (ae ap) au stop) λr s6 ⟨hr,I6⟩=>?_
  subst hr;obtain⟨o6,bg,_⟩:=I6.pin (D,_) (qW _ mD);exact⟨ys,ai,H5,z5,I6.unpinned,bg,o6,ak,q⟩
 .refine thn (T.item Y rfl rfl rfl hc i _ s5 _ H5 _ ao (ae ap) au go) λr s6 ⟨u,hr,h6⟩=>?_
  subst hr;refine thn h6 λ_ I ⟨x,H7,I7,r7,y7,al,ay⟩=>?_
  refine thn (ag _ I _ H7 x u _ (I7.pinned (ae ay) (T.obj _ _ al)) r7 (step x H7 y7)) λ_ s8 ⟨σ8,H8,I8,ba,q8⟩=>?_
  refine thn (af _ s8 σ8 H8 _ I8 q8) λok s9 ⟨H9,I9,q9⟩=>?_
  have aj:=qw (ju C I.heap) mD;have kp:∀{P:List 0#l} {s:Hp} {s':Shared},Inv Y P σ8 s s'->(∀p∈ju C I.heap,p∈P)->Inv Y [] σ4 s s'/\tn (i+1) s'.heap/\∀b∈C,s b=none:=λ{P s s'} J hP=>
   {bk _ _ _ (J.pins_of λp hp=>absurd hp 1e3) ba,T.keep _ _ _ al λb hb o e=>(J.pin (b,o) (qW _ (hP _ (jW hb e)))).1,λb hb=>by
    obtain⟨o,e,_⟩:=T.obj _ _ al b hb;exact(J.pin (b,o) (qW _ (hP _ (jW hb e)))).2.1}
  cases ok with
  | false=>
   obtain⟨m',hm,w'⟩:=hN _ _ (show N2 ys H9 by simpa using q9)
   obtain⟨o9,bh,_⟩:=I9.pin (D,_) (qW _ aj);obtain⟨k1,k2,k3⟩:=kp I9 λp hp=>qW _ hp
   exact{m',hm,i+1,ys,ai,H9,z5,k1,k2,k3,bh,o9,ak,w'}
  | true=>
   refine thn (ah _ s9 σ8 H9 _ I9 (show tIn O g M L ys N2 σ8 H9 by simpa using q9)) λxv bp az=>thn az λbo bm ⟨be,ax,bq,J2,bn,ei,ab,T2,aa,ac,W2,⟨m2,w2⟩,am⟩=>?_
   subst ei;obtain⟨bi,as,_⟩:=ab.pin (D,_) (qW _ aj);have aw:∀b∈ax,∀s:Hp,s b=none->vc Y (ju C I.heap) s b:=λb hb s hn=>by
    obtain⟨_,a2,a3,a4,a5,a6⟩:=ac b hb;exact{hn,a2,a3,a4,a5,λp hp=>a6 p ((zV.mp hp).elim (λq=>qw _ q) λq=>qW _ (qW _ q))}
   have fD:∀s:Hp,s D=none->vc Y (ju C I.heap) s D:=λs hn=>by
    obtain⟨a1,a2,a3,a4,a5,a6⟩:=fB D qJ _ hn;refine{a1,a2,a3,a4,a5,λp hp=>?_}
    rcases zV.mp hp with q | q
    .exact a6 p (qw _ q)
    .exact qD (nD _ (wL q).1)
   have H:codeAny 0#w Y.A (.compLoop (lc2 A w iter1 l G c B scope pos) 1 (.ref be) (.ref D) Y.env) (λr I=>match r with
     | .ok _=>∃m,m<n/\LcJ Y D tn C [] σ4 W m I
     | .error _=>False) bm:=by
    refine zhE (N:=N2) hc hx bc bb he T2 fD aw (λb hb=>(ac b hb).2.2.2.2.2 (D,_) (qW _ aj)) (ab.pins_of λp hp=>ab.pin p (qW _ (qW _ hp))) aa (λb hb=>(ac b hb).1) as bi ak w2 am λs' h'=>?_
    obtain⟨Q,ar,s,z',I',bf,o',bj,q'⟩:=h';obtain⟨m',hm,w'⟩:=hN _ _ q';obtain⟨k1,k2,k3⟩:=kp I' λp hp=>hp
    exact{m',hm,i+1,Q,ar,s,z',k1,k2,k3,bf,o',bj,w'}
   exact yF H (T2.self Y.A 0 _ _ _ aa H)
theorem zfS{C D it:Addr}{fp:List Addr}{tn:Nat->Heap->Prop}{J:It}{W:Nat->Nat->List V->Hp->Prop}{H2:Hp}{s3 s4:Shared}{m0 n:Nat}{R:Result->Shared->Prop}{js:List Nat}{σ:St}{Q:List Str}{N:List V->Hp->Prop}(hc:X.calm=true)
  (hg:∀C s H ex,PG (zQ X Q scope C s H ex) w U) (hf:∀C s H ex,PF (zQ X Q scope C s H ex) l E) (ag:∀C s H ex,PI (zQ X Q scope C s H ex) G c O) (af:∀C s H ex,PG (zQ X Q scope C s H ex) G g) (ae:∀C s H ex,PF (zQ X Q scope C s H ex) B M) (he:∀C s H ex,PE (zQ X Q scope C s H ex) A L)
  (ah:∀C x,foldedSetIterable c (compEnvC scope (xA X.env.cells scope.names []) C X.env) x=pure x) (ac:∀b∈D::fp,∀H':Hp,H' b=none->vc (zQ X Q scope C s3 H2 (D::fp)) [] H' b) (fD:∀b∈fp,D≠b) (T:ZF X.prog X.w X.K w J fp it tn)
  (ab:∀i m zs H7,W i m zs H7->(J.stop i H7/\N zs H7)\/(J.go i H7/\∃N2:List V->Hp->Prop,(∀zs H',N2 zs H'->∃m',m'<m/\W (i+1) m' zs H')/\∀x H8,J.yld i H7 x H8->U x (upS n js σ) H8 λσ9 H9=>σ9.drop n=(upS n js σ).drop n/\E σ9 H9 λb aa=>
    if b=true then tIn O g M L zs N2 σ9 aa else N2 zs aa))
  (j:LcJ (zQ X Q scope C s3 H2 (D::fp)) D tn fp [] (upS n js σ) W m0 s4) (fin:∀s6,LcE (zQ X Q scope C s3 H2 (D::fp)) D [] (upS n js σ) N s6->R (.ok .next) s6) :
  codeAny 0#b X.A (.compLoop (lc2 A w iter1 l G c B scope pos) 0 (.ref it) (.ref D) (compEnvC scope (xA X.env.cells scope.names []) C X.env)) R s4:=by
 have hl:=(let ⟨_,_,_,_,_,I,_,_,_,_,_,_⟩:=j;I.len:(upS n js σ).length=Q.length)
 refine zhV (ah C) (LcJ (zQ X Q scope C s3 H2 (D::fp)) D tn fp [] (upS n js σ) W) (λk s5 j=>ja (zfR (iter1:=iter1) (scope:=scope) (pos:=pos) (Y:=zQ X Q scope C s3 H2 (D::fp)) hc rfl (hg _ _ _ _) (hf _ _ _ _) (ag _ _ _ _) (af _ _ _ _) (ae _ _ _ _) (he _ _ _ _) T ac fD (λσ9 H' s' J hd=>WJ hl J hd) ab j) (λr s6 h6=>?_) λ_ _ q=>q) m0 j
 cases r with
 | some v=>exact h6
 | none=>exact fin s6 h6
theorem zfm(own Y:List Str)(js:List Nat)(hc:X.calm=true)(hk:scope.kind=.function)(hb:Z6 scope.names X.env.scope.names X.N Y js=true)(hi:PI X w iter1 a0)
  (hg:∀C s H N,PG (zQ X (own++Y) scope C s H N) w U) (hf:∀C s H N,PF (zQ X (own++Y) scope C s H N) l E)
  (ac:∀C s H N,PI (zQ X (own++Y) scope C s H N) G c O) (ab:∀C s H N,PG (zQ X (own++Y) scope C s H N) G g) (aa:∀C s H N,PF (zQ X (own++Y) scope C s H N) B M) (he:∀C s H N,PE (zQ X (own++Y) scope C s H N) A L)
  (hs:∀x,foldedSetIterable iter1 X.env x=pure x:=by intro _;rfl) (ae:∀C x,foldedSetIterable c (compEnvC scope (xA X.env.cells scope.names []) C X.env) x=pure x:=by intro _ _;rfl):PE X (lc2 A w iter1 l G c B scope pos) (zi0 a0 own.length js U E O g M L):=by
 intro ag s σ H Q I h;rw[eval_ListComp];exact zgb own Y js hk hb hi hs I h (λC D it fp tn J W H2 s3 s4 m0 R a b T tl j fin=>zfS hc hg hf ac ab aa he ae a b T tl j fin) λs6 D C H6 m hn all _ q=>{m,hn,λh7 af=>{.ref D,H6,all h7 λb o hb e=>af.extBut b o hb e,rfl,q}}
end
section
variable{X:Cx}
inductive yP(K:W.Frag)(c:List V)(H:Hp)(Q:VK):Prop
 | mk (p:Addr) (b:List Bool) (_:c=[.ref p]) (_:SqL K H p (b.map V.bl)) (_:Q (.bl (b.any id)) H):yP K c H Q
theorem Za(hc:X.calm=true):xT X (.builtin "any") (yP X.K):=by
 intro N s σ H xs us Q I r h;obtain⟨p,c,rfl,hq,q⟩:=h;obtain⟨u,rfl,J⟩:=yc r;cases J;obtain⟨g,L,pl,hz⟩:=I.list hq;have E:=pl.isList;have G:p≠s.heap.objs.size:=by
  obtain⟨o,e,_⟩:=E;exact qV (zU e)
 refine call_any_walk (wpAny_pyIter_list E ?_)
 refine{s.heap.objs.size,_,_,_,_,_,λi=>c.getD i false,rfl,Xb (prog:=X.prog) (w:=X.w) (A:=X.A.in1) (I.ok.hd hc) _ p G g.toArray,{{_,qQ _ rfl,rfl,rfl},E.push _},?_,λh' tk hk=>?_}
 .intro i v s' T E' D hQ
  have D:g.toArray[i]? =some v:=D;have e1:g[i]? =some v:=by simpa using D
  have l:i<c.length:=by
   have h1:=(zK.mp e1).1;have h2:=L.length;rw[zm] at h2;omega
  have e2:(c.map V.bl)[i]? =some (.bl c[i]):=by simp[l]
  obtain⟨u',M,J⟩:=L.get e2;rw[e1] at M;cases M;cases J;have U:c.getD i false=c[i]:=by simp[l]
  have B:T (c.getD i false) s':=hQ;rw[U] at B;exact Zh B
 .have k:∀b o,s.heap.get? b=some o->h'.get? b=some o:=λb o e=>hk b o (by simp;exact qV (zU e)) (qX _ e)
  have Y:(List.range g.toArray.size).any (λi=>c.getD i false)=c.any id:=by
   have C:g.toArray.size=c.length:=by
    have:=L.length;rw[zm] at this;simp only[zX];omega
   rw[C,vm,vN,vN];constructor
   .rintro⟨i,l,e⟩
    have l:=xB.mp l;exact{c[i],wc l,by simpa [l] using e}
   .rintro⟨b,hb,e⟩
    obtain⟨i,l,rfl⟩:=QJ.mp hb;exact{i,xB.mpr l,by simpa [l] using e}
  exact{.bl (c.any id),H,I.kept k,by rw[Y];rfl,q}
theorem Z3:bootBuiltins "any" = some (.builtin "any"):=by decide +kernel
theorem JL:∀{c:List Int} {b:List Value},Vals (c.map V.int) b->IntsAre b c
 | [],b,h=>by cases h;exact .nil
 | n::c,b,h=>by
  cases h with
  | cons r q=>
   obtain⟨t,rfl⟩:=r;exact .cons n t (JL q)
theorem QS{k:Int}:∀{c:List Int} {b:List Value},Vals (c.map V.int) b->b.countP (isInt k)=c.count k
 | [],b,h=>by cases h;rfl
 | n::c,b,h=>by
  cases h with
  | cons r q=>
   obtain⟨t,rfl⟩:=r;rw[List.countP_cons,ww,QS q];rfl
inductive zb5(x:V)(c:List V)(H:Hp)(Q:VK):Prop
 | mk (l:Addr) (b:List Int) (k:Int) (_:x=.ref l) (_:c=[.int k]) (_:H l=some (.lst 0#u)) (_:Q (.int (b.count k)) H):zb5  x c H Q
theorem Qp:MtM X "list.count" zb5:=by
 intro c s σ H x G v E Q I C B h;obtain⟨l,w,k,rfl,rfl,g,q⟩:=h;cases C;obtain⟨u,rfl,A⟩:=B.one;obtain⟨t,rfl⟩:=A;obtain⟨z,b,n,r,D,e⟩:=I.lstM g;refine call_meets F.slot_list_count {_,e,rfl} F.entry_list_count (F.args_list_count_2 _ _) (MeetsSeq.list_count l b.toArray n (.int k t) (isInt k) (λy hy=>eq_isInt k t (JL r) y (by simpa using hy))) {e,?_}
 refine{.int (w.count k),H,I.tok _,{s.toks,?_},q}
 show Value.int ((b.toArray.toList.countP (isInt k):Nat):Int) s.toks=_;rw[show b.toArray.toList=b by simp,QS r]
theorem Vh{α β:Type}(f:α->β):∀(l:List α) (i:Nat),(l.eraseIdx i).map f=(l.map f).eraseIdx i
 | [],_=>rfl
 | _::_,0=>rfl
 | a::r,i+1=>by
  show f a::(r.eraseIdx i).map f=f a::(r.map f).eraseIdx i;rw[Vh f r i]
inductive Yl(x:V)(c:List V)(H:Hp)(Q:VK):Prop
 | mk (l:Addr) (b:List Int) (k:Int) (_:x=.ref l) (_:c=[.int k]) (_:H l=some (.lst 0#u)) (_:k∈b) (_:Q .non (upd H l (.lst ((b.erase k).map V.int)))):Yl  x c H Q
theorem zar:MtM X "list.remove" Yl:=by
 intro G s σ H x vs v us Q I T O h;obtain⟨l,b,k,rfl,rfl,C,hk,q⟩:=h;cases T;obtain⟨u,rfl,A⟩:=O.one;obtain⟨t,rfl⟩:=A;obtain⟨z,c,n,r,M,e⟩:=I.lstM C;rw[zm] at M z;have U:b.idxOf k<b.length:=zbf hk;have g:∀i (D:i<c.length),isInt k c[i]=(b[i]'()==k):=λi D=>by
  have e2:(b.map V.int)[i]? =some (.int (b[i]'())):=by simp[show i<b.length by omega]
  obtain⟨u',B,A⟩:=r.get e2;rw[qK D] at B;cases B;obtain⟨Y,J⟩:=A;rw[J];rfl
 refine call_meets F.slot_list_remove {_,e,rfl} F.entry_list_remove (F.args_list_remove_2 _ _) (MeetsSeq.list_remove l c.toArray n (.int k t) (isInt k) (λy hy=>eq_isInt k t (JL r) y (by simpa using hy)) (b.idxOf k) (by simp;omega) ?_ ?_ (by simp;omega)) {e,?_}
 .rw[List.getElem_toArray,g _ ()]
  simp
 .intro m N w
  rw[List.getElem_toArray,g _ (by simpa using N)]
  have:=List.not_of_lt_findIdx (p:=(·==k)) (xs:=b) (i:=m) (by exact w)
  simpa using this
 refine{.non,_,I.lset (its':=c.eraseIdx (b.idxOf k)) C e ?_ ?_ ?_,rfl,q}
 .apply Array.toList_inj.mp
  simp[Array.toList_eraseIdxIfInBounds]
 .have L:(b.erase k).map V.int=(b.map V.int).eraseIdx (b.idxOf k):=by rw[List.erase_eq_eraseIdx_of_idxOf rfl,Vh]
  rw[L];exact r.eraseIdx _
 .rw[zm]
  exact jN (List.length_erase_le) z
end
theorem JF{K:W.Frag}{a:Addr}{xs:List V}{g:TG}{L:TT}{J:TE}{B:St}{n:Nat}{R:List V->Hp->Prop}{H:Hp}(Pv:Nat->List V->Hp->Prop)(h0:Pv 0 [] H)
  (h1:∀i c H,Pv i c H->SqT K H a xs)
  (hs:∀i x c H T,xs[i]? =some x->Pv i c H->H T=none->g (.ref T) B (upd H T (.tup [.int i,x])) λs E=>s.drop n=B.drop n/\L s E λb w=>
   if b=true then J s w λv G=>c.length<sizeLine/\Pv (i+1) (c++[v]) G else Pv (i+1) c w)
  (hd:∀c H,Pv xs.length c H->c.length<=sizeLine/\R c H) :
  ∃W:Nat->Nat->List V->Hp->Prop,(∃m,W 0 m [] H)/\∀i m c l,W i m c l ->
   ((Y1 K a).stop i l/\c.length<=sizeLine/\R c l) \/
   ((Y1 K a).go i l/\∃N:List V->Hp->Prop,(∀c C,N c C->∃I,I<m/\W (i+1) I c C)/\∀x D,(Y1 K a).yld i l x D->g x B D λs E=>s.drop n=B.drop n/\L s E λb w=>
    if b=true then J s w λy G=>c.length<sizeLine/\N (c++[y]) G else N c w):=by
 fail"a"
 rintro i m c l ⟨rfl,hi,p⟩;have q:=h1 i c l p;by_cases A:i<xs.length
 .refine .inr {{xs,xs[i],q,by simp[A]},Pv (i+1),λY C O=>{_,(),rfl,A,O},λx D y=>?_}
  obtain⟨T,z,e1,M,e2,y⟩:=y;subst e1 e2;exact hs i z c l T (y xs q) p M
 .have e:i=xs.length:=()
  subst e;obtain⟨Q,U⟩:=hd c l p;exact .inl {{xs,q,zF _},Q,U}
theorem JG{K:W.Frag}{a:Addr}{xs:List V}{g:TG}{M:TT}{O:TI}{I:TG}{B:TT}{L:TE}{C:St}{n:Nat}{R:List V->Hp->Prop}{H:Hp}(Pv:Nat->List V->Hp->Prop)(h0:Pv 0 [] H)
  (h1:∀i c H,Pv i c H->SqL K H a xs)
  (hs:∀i x c H,xs[i]? =some x->Pv i c H->g x C H λs G=>s.drop n=C.drop n/\M s G λb w=>
   if b=true then tIn O I B L c (Pv (i+1)) s w else Pv (i+1) c w)
  (hd:∀c H,Pv xs.length c H->c.length<=sizeLine/\R c H) :
  ∃W:Nat->Nat->List V->Hp->Prop,(∃m,W 0 m [] H)/\∀i m c l,W i m c l ->
   ((Itl K a).stop i l/\c.length<=sizeLine/\R c l) \/
   ((Itl K a).go i l/\∃N:List V->Hp->Prop,(∀c D,N c D->∃J,J<m/\W (i+1) J c D)/\∀x E,(Itl K a).yld i l x E->g x C E λs G=>s.drop n=C.drop n/\M s G λb w=>
    if b=true then tIn O I B L c N s w else N c w):=by
 fail"a"
 rintro i m c l ⟨rfl,hi,p⟩;have q:=h1 i c l p;by_cases A:i<xs.length
 .refine .inr {{xs,xs[i],q,by simp[A]},Pv (i+1),λY D Q=>{_,(),rfl,A,Q},λx E y=>?_}
  obtain⟨e,y⟩:=y;subst e;exact hs i x c _ (y xs q) p
 .have e:i=xs.length:=()
  subst e;obtain⟨T,U⟩:=hd c l p;exact .inl {{xs,q,zF _},T,U}
theorem zaB{K:W.Frag}{a:Addr}{xs:List V}{g:TG}{M:TT}{L:TE}{B:St}{N:List V->Hp->Prop}{O:List V}{H:Hp}(Pv:Nat->List V->Hp->Prop)(h0:Pv 0 O H)
  (h1:∀i c H,Pv i c H->SqT K H a xs)
  (hs:∀i x c H,xs[i]? =some x->Pv i c H->g x B H λs E=>Sub B s/\M s E λb w=>
   if b=true then L s w λv G=>c.length<sizeLine/\Pv (i+1) (c++[v]) G else Pv (i+1) c w)
  (hd:∀c H,Pv xs.length c H->N c H) :
  ∃W:Nat->Nat->List V->Hp->Prop,(∃m,W 0 m O H)/\∀i m c l,W i m c l ->
   ((Itt K a).stop i l/\N c l) \/
   ((Itt K a).go i l/\∃I:List V->Hp->Prop,(∀c C,I c C->∃J,J<m/\W (i+1) J c C)/\∀x D,(Itt K a).yld i l x D->g x B D λs E=>Sub B s/\M s E λb w=>
    if b=true then L s w λy G=>c.length<sizeLine/\I (c++[y]) G else I c w):=by
 fail"a"
 rintro i m c l ⟨rfl,U,p⟩;have q:=h1 i c l p;by_cases A:i<xs.length
 .refine .inr {{xs,xs[i],q,by simp[A]},Pv (i+1),λT C Q=>{_,(),rfl,A,Q},λx D y=>?_}
  obtain⟨e,y⟩:=y;subst e;exact hs i x c _ (y xs q) p
 .have e:i=xs.length:=()
  subst e;exact .inl {{xs,q,zF _},hd c l p}
section
variable{X:Cx}{w c:Expr}{l:List Expr}{g:Expr}{A:List Expr}{b:Scope}{E:Pos}{Q D:TI}{N B:TT}{M:TE}{x y z:Str}{I J L O U:Pos}{G T:Nat}
theorem zca(fr:List Str)(js:List Nat)(hc:X.calm=true)(hk:b.kind=.function)(hb:wa b.names X.env.scope.names X.N [x,y,z] fr js=true)(hi:PI X (.Tuple [.Name x I,.Name y J] G O) c D)
  (hf:∀C s H Y,PF (zQ X ([x,y,z]++fr) b C s H Y) l B) (aa:∀C s H Y,PI (zQ X ([x,y,z]++fr) b C s H Y) (.Name z L) g Q) (a0:∀C s H Y,PF (zQ X ([x,y,z]++fr) b C s H Y) A N) (he:∀C s H Y,PE (zQ X ([x,y,z]++fr) b C s H Y) w M)
  (hs:∀x,foldedSetIterable c X.env x=pure x:=by intro _;rfl) (ab:∀C x,foldedSetIterable g (compEnvC b (xA X.env.cells b.names []) C X.env) x=pure x:=by intro _ _;rfl) :
  PE X (lc2 w (.Tuple [.Name x I,.Name y J] G O) c l (.Name z L) g A b E) (zi0 D 3 js (Q8 X.K 2 (xz (xb 0) (xz (xb 1) JP))) B Q (xb 2) N M):=by
 obtain⟨h1,h2,h3⟩:=xM hb;refine zfm [x,y,z] fr js hc hk h1 hi (λC s H Y=>?_) hf aa (λC s H Y=>jK (h2 z 1e3) h3 rfl) a0 he hs ab
 exact qE (X:=zQ X ([x,y,z]++fr) b C s H Y) hc (zn (jK (h2 x 1e3) h3 rfl) (zn (jK (h2 y 1e3) h3 rfl) z7))
end
section
variable{X:Cx}
theorem Jc{K:W.Frag}(h:X.K=K){g l:Expr}{b:TE}(c:PE X l b):PI X g l (zl0 K b):=by rw[<- h];exact xO c
theorem zfj{K:W.Frag}(h:X.K=K){g l:Expr}{b:TE}(c:PE X l b):PI X g l (ziO K b):=by rw[<- h];exact zZ c
def tLT(K:W.Frag)(t:TE):TT:=λσ H Q=>t σ H λx b=>∃a c,x=.ref a/\SqL K b a c/\Q (!c.isEmpty) b
theorem zgO{e:Expr}{t:TE}(h:PE X e t)(C:∀b,isTrue e X.env b=(do let v<-b;standAt e.pos;holding [v] (truthy v)):=by intro _;rfl):PT X e (tLT X.K t):=by
 intro c s σ H Q I E;refine isTrue_plain (thn (h c s σ H _ I E) λv s1 ⟨x,A,g,L,J⟩=>?_) (C _)
 obtain⟨a,B,rfl,hq,q⟩:=J;cases(show v=_ from L)
 obtain⟨l,w,G,hz⟩:=g.list hq;have D:=w.length;refine wpAny_truthy_list G.isList (by rw[zX,<- D];rw[sizeLine_eq] at hz;omega) ?_
 have e:(!B.isEmpty)=(!l.toArray.isEmpty):=by
  cases B with
  | nil=>cases w;rfl
  | cons y M=>cases w;rfl
 first
  | exact⟨A,g.tok _,by rw[e] at q;simpa using q⟩
  | exact⟨A,g,by rw[e] at q;simpa using q⟩
end
section
variable{X:Cx}{w E b:Expr}{l:List Expr}{Q s:Expr}{A:List Expr}{c:Scope}{C:Pos}{U H:TI}{g I:TG}{O D:TT}{N:TE}{x z:Str}{L M T G:Pos}{J B:Nat}
end
def Vf:Nat->List Obj->PySem.W.Frag
 | _,[]=>[]
 | n,o::r=>match o.data with
  | .freed=>Vf (n+1) r
  | _=>(n,o)::Vf (n+1) r
def VT(h:Heap):PySem.W.Frag:=Vf 0 h.objs.toList
theorem YL:∀{l:List Obj} {n a:Nat} {o:Obj},(Vf n l).lookup a=some o->n<=a/\l[a-n]? =some o/\o.data≠.freed
 | [],n,a,o,h=>by cases h
 | x::r,n,a,o,h=>by
  have b:(Vf (n+1) r).lookup a=some o->n<=a/\(x::r)[a-n]? =some o/\o.data≠.freed:=λh=>by
   obtain⟨h1,h2,c⟩:=YL h;refine{(),?_,c}
   rw[show a-n=(a-(n+1))+1 by omega];exact h2
  unfold Vf at h;split at h
  .exact b h
  .rename_i g
   rw[we] at h;split at h
   .rename_i e
    cases h;have:=xH.mp e;subst this;exact{zF _,1e3,g}
   .exact b h
theorem zdL(h:Heap):(VT h).In h:=λa o e=>by
 obtain⟨_,h2,g⟩:=YL e;have h2:h.objs[a]? =some o:=by simpa using h2
 unfold Heap.get?;rw[h2];obtain⟨c,d,b,l⟩:=o;cases b<;>first| rfl | exact absurd rfl g
inductive Fd(K:W.Frag)(b:Str)(st:Stmt):Prop
 | mk (f:Addr) (c:FuncData) (a:PySem.W.nsIn K mainGlobals b=some (some (.ref f))) (F:Fun K b b st f c):Fd K b st
def zlY:Value->Bool
 | .none=>true
 | _=>false
def VU(K:W.Frag)(c:Str):Option (Arguments×FuncBody×Scope×Bool):=match PySem.W.nsIn K mainGlobals c with
 | some (some (.ref f))=>(match K.lookup f with
  | some ⟨_,_,.func b,_⟩=>some (b.params,b.body,b.scope,b.name==c&&(b.qualname==c&&(b.globals==mainGlobals&&(b.closure.isEmpty&&(zlY b.defaults&&(b.builtins==builtinsNs&&PySem.W.codeIn K b.code c))))))
  | _=>none)
 | _=>none
def zcw(st:Stmt):Option (Arguments×FuncBody×Scope×Bool):=some (ZY st,.stmts (y8 st),zu st,true)
theorem zl6{K:W.Frag}{G:Str}{st:Stmt}(e:VU K G=zcw st):Fd K G st:=by
 unfold VU zcw at e;split at e
 .rename_i f J
  split at e
  .rename_i c d I sl D
   simp only[We,Prod.mk.injEq,xP] at e;obtain⟨e1,e2,C,b,g,l,s,w,A,E⟩:=e;obtain⟨L,qn,Y,N,sc,T,Q,B,U,H,pm,M,O,ct,bl⟩:=I;dsimp only at e1 e2 C b g l s w A E;have b:=xH.mp b;have g:=xH.mp g;have l:=xH.mp l;have s:=List.isEmpty_iff.mp s;have A:=xH.mp A;have w:B=.none:=by cases B<;>first| rfl | exact Bool.noConfusion w
   subst e1 e2 C b g l s w A;exact{f,_,J,{{_,_,_,_,_,_,_,_,_,rfl,D,E},by unfold PySem.W.keepIn;dsimp only;rw[D]}}
  .cases e
 .cases e
theorem zj0{K:W.Frag}{l:List (Str×Stmt)}(e:l.map (λx=>VU K x.1)=l.map λx=>zcw x.2)(i:Nat){b:Str}{st:Stmt}(h:l[i]? =some (b,st)):Fd K b st:=by
 have:=congrArg (λz=>z[i]?) e
 simp only[qk,h,Zv,We] at this;exact zl6 this
theorem zhU{K:W.Frag}{l:List Str}(e:l.map (λx=>PySem.W.nsIn K mainGlobals x)=l.map λ_=>some none){x:Str}(i:Nat)(h:l[i]? =some x):PySem.W.nsIn K mainGlobals x=some none:=by
 have:=congrArg (λz=>z[i]?) e
 simpa only[qk,h,Zv,We] using this
def zgC:List Value->Option (List Str)
 | []=>some []
 | .str x _::r=>(zgC r).map (x:: ·)
 | _=>none
def Y6(K:W.Frag)(c:Str):Option (List Str×Bool):=match PySem.W.nsIn K mainGlobals c with
 | some (some (.ref a))=>(match K.lookup a with
  | some ⟨.type t,_,.seq b _,_⟩=>(zgC b.toList).map λl=>(l,t == "tuple" && decide (b.size<=1000))
  | _=>none)
 | _=>none
theorem XT:∀{b:List Value} {l:List Str},zgC b=some l->Vals (l.map V.str) b
 | [],l,h=>by cases h;exact .nil
 | v::r,l,h=>by
  cases v<;>first| (cases h;done) | skip
  simp only[zgC] at h;obtain⟨c,h1,rfl⟩:=qG.mp h;exact .cons {_,rfl} (XT h1)
theorem zkk{K:W.Frag}{c:Str}{l:List Str}(e:Y6 K c=some (l,true)):∃a:Addr,PySem.W.nsIn K mainGlobals c=some (some (.ref a))/\∀H,SqT K H a (l.map V.str):=by
 unfold Y6 at e;split at e
 .rename_i a s
  split at e
  .rename_i t _ C n B w
   obtain⟨A,h1,h2⟩:=qG.mp e;simp only[Prod.mk.injEq,xP,decide_eq_true_eq] at h2;obtain⟨rfl,b,g⟩:=h2;have b:=xH.mp b;subst b;exact{a,s,λH=>.inr {_,_,_,w,rfl,rfl,Xf (zdf g),XT h1}}
  .cases e
 .cases e
def zhp(c:List (Str×Stmt))(b:List Str)(g:List (Str×List Str))(K:W.Frag):List (Option (Arguments×FuncBody×Scope×Bool))×List (Option (Option Value))×List (Option (List Str×Bool)):=
 (c.map λx=>VU K x.1,b.map λx=>PySem.W.nsIn K mainGlobals x,g.map λx=>Y6 K x.1)
def zhK(c:List (Str×Stmt))(b:List Str)(g:List (Str×List Str)):List (Option (Arguments×FuncBody×Scope×Bool))×List (Option (Option Value))×List (Option (List Str×Bool)):=
 (c.map λx=>zcw x.2,b.map λ_=>some none,g.map λx=>some (x.2,true))
def zj4(s:Stmt):Pos:=match s with
 | .FunctionDef _ _ _ _ _ _ _ _ _ p=>p
 | _=>{0,0,0,0}
def defRec(x:Str)(s:Stmt):DefRec:={x,ZY s,y8 s,zu s,zj4 s}
structure Tp(P:Program)(w:World)(K:W.Frag)(mg:Str->Option Value)(base h:Heap)(ds:List (Str×Stmt))(bs:List Str)(ts:List (Str×List Str)):Prop where
 x:K.In h
 g:h.Ns mainGlobals mg
 e:zhp ds bs ts K=zhK ds bs ts
section
variable{P:Program}{w:World}{K:W.Frag}{g:Str->Option Value}{c h:Heap}{s:List (Str×Stmt)}{A:List Str}{B:List (Str×List Str)}
theorem Tp.fd(Z:Tp P w K g c h s A B)(i:Nat){b:Str}{st:Stmt}(l:s[i]? =some (b,st)):Fd K b st:=zj0 (congrArg Prod.fst Z.e) i l
theorem Tp.bl(Z:Tp P w K g c h s A B)(i:Nat){x:Str}(b:A[i]? =some x):g x=none:=PySem.W.mg_none_of Z.x Z.g (zhU (congrArg (λz=>z.2.1) Z.e) i b)
theorem Tp.tx(Z:Tp P w K g c h s A B)(i:Nat){x:Str}{l:List Str}(b:B[i]? =some (x,l)):∃a:Addr,g x=some (.ref a)/\∀H,SqT K H a (l.map V.str):=by
 have:=congrArg (λz=>z.2.2[i]?) Z.e
 simp only[zhp,zhK,qk,b,Zv,We] at this;obtain⟨a,h1,h2⟩:=zkk this;exact{a,PySem.W.mg_of Z.x Z.g h1,h2}
theorem Tp.dfn(Z:Tp P w K g c h s A B)(i:Nat){C:Str}{st:Stmt}{k:Nat}{D:List Str}{I:Sp}(L:s[i]? =some (C,st))
  (ok:∀f fd,Fun K C C st f fd->g C=some (.ref f)->Binds K fd D []->FnOk P w K g c CX0 k f fd D I)
  (hb:∀(kV H M:Value) (J:Option Addr) (G ct:Value) (E:List Value),E.length=D.length->bindArgs (PySem.W.fnOf C C (ZY st) (y8 st) (zu st) .none kV H M J G ct) {E,[]}=pure (D.zip E):=by
   intro _ _ _ _ _ _ E l;first| (obtain⟨_,rfl⟩:=zlW l;rfl) | (obtain⟨_,_,rfl⟩:=zlV l;rfl) | (obtain⟨_,_,_,rfl⟩:=zlU l;rfl) | (obtain⟨_,_,_,_,rfl⟩:=zlT l;rfl) | (obtain⟨_,_,_,_,_,rfl⟩:=zlS l;rfl) | (obtain⟨_,_,_,_,_,_,rfl⟩:=zlR l;rfl) | (exact match E,l with | [],_=>rfl)) :
  Dfn P w K g c C k D I:=by
 obtain⟨f,fd,a,F⟩:=Z.fd i L;have b:=F.binds hb;have m:=PySem.W.mg_of Z.x Z.g a;exact{f,fd,ok f fd F m b,m,F.kp,b}
end
inductive Seen{β:Type}(f:PySem.W.Frag->β)(v:β)(w:World)(h:Heap):Prop
 | mk (K:W.Frag) (k:K.In h) (e:f K=v):Seen f v w h
theorem Seen.keeps{β:Type}{f:PySem.W.Frag->β}{v:β}(w:World)(h c:Heap)(s:Seen f v w h)(k:∀b o,h.get? b=some o->c.get? b=some o):Seen f v w c:=by
 obtain⟨K,x,e⟩:=s;exact{K,x.keeps k,e}
theorem walkS{l:PySem.W.OpenLaw}{n k:Nat}{q:Program}{A:List Str}{T:(Str->Option Value)->Heap->Prop}{β:Type}{f:PySem.W.Frag->β}{v:β}{d:DefRec}{sp:PySem.W.Frag->Sp}{x:Str}
  (hn:l.most=some n) (M:n<=sizeLine) (J:d.params.defaults=[]) (hr:Room k callerA)
  (F:∀(w:World) (B:Str->Option Value) (D:Addr) (K:W.Frag) (h:Heap),K.In h->f K=v->h.Ns mainGlobals B->B d.name=some (.ref D) ->
   ∃I:FuncData,(∀(s:Shared) (u:Value),BindsTo s I {[u],[]} [(x,u)]) /\
    ∀b:Heap,K.In b->b.Ns mainGlobals B->FnOk l.prog w K B b CX0 k D I [x] (sp K))
  (N:∀(K:W.Frag) (H:Hp) (a:Addr) (E:List Int),E.length<=n->zkg H->SqL K H a (E.map V.int)->sp K [.ref a] H (λv _=>v=.bl true) λ_ _ _=>False) :
  PySem.W.WalkO q A T (Seen f v) l.row.toRowW d [] (λf Q=>PySem.call f Q):=by
 refine Att.attach_call hn J λw s₀ s₁ B mb D o pm cd U a Q E G Y ho hd a0 L C g c hg=>?_
 obtain⟨K,O,e⟩:=Y;obtain⟨I,hb,hF⟩:=F w B D K _ O e G.T.g L;exact zfT O G.T.g G.T.b G.T.builtins G.T.nolimit hg C g (jN c M) hr hF hb (λH hO hS=>N K H a E c hO hS) λH e s' z=>z
theorem ownHead{l:PySem.W.OpenLaw}{q:Program}{b:List Str}{β:Type}{f:PySem.W.Frag->β}{v:β}{d:DefRec}(N:Nat)
  (g:l.wellSaid=true)
  (left:∀w,(PySem.W.openEnds treeTable l.prog w N).map (λs=>(PySem.W.openSeen q b (importedModules l.prog.main.body) (λ_=>true) true s,f (VT s.heap)))=some (PySem.W.openGood q b,v))
  (c:PySem.W.defOf q l.name=some (d,[])) (hp:l.prog.theDef l.name=some (d.params,d.body,d.scope)) (hk:PySem.W.kwWritten? d.params.kwonlyargs d.params.kw_defaults=some [])
  (ok:(PySem.W.chainsOk q&&PySem.W.opensWell l.prog&&(PySem.W.frees l.row.toRowW&&l.row.within.isEmpty))=true) (hb:l.prog.bare) (A:l.row.toRowW.promised)
  (call:PySem.W.WalkO q b (λ_ _=>True) (Seen f v) l.row.toRowW d [] λf C=>PySem.call f C):l.Holds:=
 PySem.W.holds_law g λB=>PySem.W.holds_open (r:=l.row) (Yf:=λs=>f (VT s.heap)) (Ya:=λ_=>v) left (λ_ s e=>{_,zdL s.heap,e}) Seen.keeps (λ_ _=>trivial) (λ_ _ _ _ _=>trivial) c hp hk (λ_ _=>PySem.W.recFacts_nil rfl) (V7 _) B ok hb A call
def topL(i:Nat):Stmt:=PySem.Challenge.pw_pickboard_k71_whole_mended_and_run.main.body.getD i (.Pass {0,0,0,0})
structure Blt(mg:Str->Option Value):Prop where
 abs:mg "abs" = none
 all:mg "all" = none
 any:mg "any" = none
 bool:mg "bool" = none
 dict:mg "dict" = none
 divmod:mg "divmod" = none
 enumerate:mg "enumerate" = none
 int:mg "int" = none
 isinstance:mg "isinstance" = none
 len:mg "len" = none
 list:mg "list" = none
 max:mg "max" = none
 min:mg "min" = none
 range:mg "range" = none
 set:mg "set" = none
 sorted:mg "sorted" = none
 str:mg "str" = none
 sum:mg "sum" = none
 tuple:mg "tuple" = none
 zip:mg "zip" = none
theorem Z5:bootBuiltins "abs" = some (.builtin "abs"):=by decide +kernel
theorem J3:bootBuiltins "max" = some (.builtin "max"):=by decide +kernel
theorem JZ:bootBuiltins "min" = some (.builtin "min"):=by decide +kernel
theorem YX:bootBuiltins "divmod" = some (.builtin "divmod"):=by decide +kernel
theorem Z2:bootBuiltins "int" = some (.type "int"):=by decide +kernel
theorem x9:bootBuiltins "list" = some (.type "list"):=by decide +kernel
theorem jF:bootBuiltins "tuple" = some (.type "tuple"):=by decide +kernel
theorem Qw:bootBuiltins "bool" = some (.type "bool"):=by decide +kernel
theorem jt:bootBuiltins "sorted" = some (.builtin "sorted"):=by decide +kernel
theorem zdV:bootBuiltins "dict" = some (.type "dict"):=by decide +kernel
def ZE(i:Int):Int:=if i<0 then -i else i
def zlc:Str:= "abcdefghijklmnopqrstuvwxyz"
def YE(c:Nat):Bool:=decide (97<=c)&&decide (c<=122)
theorem zfP:zlc.cps.toList=List.range' 97 26:=by decide +kernel
def zaD:List (Str×Stmt):=[(("is_number":Str),topL 1),(("is_number_within":Str),topL 2),(("way_between":Str),topL 3),(("length_of":Str),topL 4),(("is_tuple_of":Str),topL 6),(("is_tuple_upto":Str),topL 7),(("turned":Str),topL 8),(("next_by":Str),topL 9),(("steps_from":Str),topL 10),(("all_from":Str),topL 11),(("ahead_of":Str),topL 12),(("feeders_for":Str),topL 13),(("picks_in":Str),topL 15),(("staying_picks":Str),topL 16),(("new_feeders":Str),topL 17),(("dropped_parts":Str),topL 18),(("mended_trip":Str),topL 19),(("mended_plan":Str),topL 20),(("restocked_job":Str),topL 21),(("flaw_at_pick":Str),topL 23),(("flaw_at_lay":Str),topL 24),(("flaw_in_trip":Str),topL 25),(("flaw_of":Str),topL 26),(("is_pick":Str),topL 28),(("are_picks":Str),topL 29),(("are_lays":Str),topL 30),(("is_trip":Str),topL 31),(("order_of":Str),topL 32),(("left_in":Str),topL 33),(("is_right":Str),topL 34),(("are_same":Str),topL 36),(("is_same":Str),topL 37),(("events_of":Str),topL 41),(("parts_of":Str),topL 42),(("is_lost":Str),topL 43),(("next_feeder":Str),topL 44),(("is_lucky":Str),topL 45),(("pick_events":Str),topL 46),(("lay_event":Str),topL 47),(("trip_events":Str),topL 48),(("way_by":Str),topL 49),(("run_plan":Str),topL 50),(("is_laid_right":Str),topL 51),(("lies_right":Str),topL 52),(("_law_box":Str),topL 54),(("_law_take":Str),topL 55),(("_law_folded":Str),topL 56),(("_law_spelled":Str),topL 57),(("_law_name":Str),topL 58),(("_law_names":Str),topL 59),(("_law_place":Str),topL 60),(("_law_places":Str),topL 61),(("_law_shuffled":Str),topL 62),(("_law_feeders":Str),topL 63),(("_law_aheads":Str),topL 64),(("_law_job":Str),topL 65),(("_law_order":Str),topL 66),(("_law_trip":Str),topL 67),(("_law_plan":Str),topL 68),(("_law_stock_now":Str),topL 69),(("_law_all_picks":Str),topL 70),(("_law_broken":Str),topL 71),(("_law_stays_right":Str),topL 72),(("_law_luck":Str),topL 73),(("_law_right":Str),topL 74),(("law":Str),topL 75)]
def zdW:List Str:=[("abs":Str),("all":Str),("any":Str),("bool":Str),("dict":Str),("divmod":Str),("enumerate":Str),("int":Str),("isinstance":Str),("len":Str),("list":Str),("max":Str),("min":Str),("range":Str),("set":Str),("sorted":Str),("str":Str),("sum":Str),("tuple":Str),("zip":Str)]
def zc6:List (Str×List Str):=[(("TRIED":Str),[("picked":Str),("missed":Str)]),(("GIVEN_UP":Str),[("behind":Str),("none":Str),("failed":Str),("dropped":Str)])]
def zkL:List Str:=zaD.dropLast.map (·.1)++[("GIVEN_UP":Str),("TRIED":Str),("__name__":Str)]
def zi8:Program:={ PySem.Challenge.pw_pickboard_k71_whole_mended_and_run with main:={ PySem.Challenge.pw_pickboard_k71_whole_mended_and_run.main with body:=[topL 75] } }
theorem head1:PySem.Challenge.rw_pickboard_k71_whole_mended_and_run.wellSaid=true:=by kernel_rfl
theorem head2:∀w,(PySem.W.openEnds treeTable PySem.Challenge.pw_pickboard_k71_whole_mended_and_run w 9999).map (λs=>(PySem.W.openSeen zi8 zkL (importedModules PySem.Challenge.pw_pickboard_k71_whole_mended_and_run.main.body) (λ_=>true) true s,zhp zaD zdW zc6 (VT s.heap)))=some (PySem.W.openGood zi8 zkL,zhK zaD zdW zc6):=λw=>by kernel_rfl
theorem head3:(PySem.W.chainsOk zi8&&PySem.W.opensWell PySem.Challenge.pw_pickboard_k71_whole_mended_and_run&&(PySem.W.frees PySem.Challenge.rw_pickboard_k71_whole_mended_and_run.row.toRowW&&PySem.Challenge.rw_pickboard_k71_whole_mended_and_run.row.within.isEmpty))=true:=by kernel_rfl
section
variable{κ:Type}[DecidableEq κ]
def jP(b:List (κ×V))(k:κ):Option V:=(b.find? λc=>decide (c.1=k)).map (·.2)
def xU(b:List (κ×V))(k:κ)(v:V):List (κ×V):=
 if(b.any λc=>decide (c.1=k))=true then b.map (λc=>if c.1=k then(c.1,v) else c) else b++[(k,v)]
theorem jX{p:κ×V}{r:List (κ×V)}{k:κ}(e:p.1=k):jP (p::r) k=some p.2:=by simp[jP,Ze,e]
theorem jY{p:κ×V}{r:List (κ×V)}{k:κ}(e:¬p.1=k):jP (p::r) k=jP r k:=by simp[jP,Ze,e]
theorem ym(k:κ):∀b:List (κ×V),(b.any λc=>decide (c.1=k))=(jP b k).isSome
 | []=>rfl
 | p::r=>by
  rw[w9];by_cases e:p.1=k
  .simp only[jX e,qg e,Bool.true_or,Option.isSome_some]
  .rw[jY e,jO e,V8];exact ym k r
theorem WI(k j:κ)(y:V):∀b:List (κ×V),jP (b.map λc=>if c.1=k then(c.1,y) else c) j=(jP b j).map λx=>if j=k then y else x
 | []=>rfl
 | p::r=>by
  have g:=WI k j y r;rw[jz];by_cases h:p.1=k
  .rw[zC h]
   by_cases e:p.1=j
   .rw[jX (p:=(p.1,y)) e,jX e,Zv,zC (e.symm.trans h)]
   .rw[jY (p:=(p.1,y)) e,jY e,g]
  .rw[zw h]
   by_cases e:p.1=j
   .rw[jX (p:=p) e,jX e,Zv,zw (λz=>h (e.trans z))]
   .rw[jY (p:=p) e,jY e,g]
theorem XR(k j:κ)(y:V):∀b:List (κ×V),jP b k=none->jP (b++[(k,y)]) j=if j=k then some y else jP b j
 | [],_=>by
  by_cases e:k=j
  .rw[zC e.symm];exact jX (p:=(k,y)) e
  .rw[zw (λz=>e z.symm)];exact jY (p:=(k,y)) e
 | p::r,c=>by
  rw[List.cons_append];have hk:¬p.1=k:=λz=>by rw[jX z] at c;cases c
  rw[jY hk] at c;have g:=XR k j y r c;by_cases e:p.1=j
  .rw[jX e,jX e,zw (λz=>hk (e.trans z))]
  .rw[jY e,jY e,g]
theorem Jl(b:List (κ×V))(k j:κ)(y:V):jP (xU b k y) j=if j=k then some y else jP b j:=by
 unfold xU;by_cases a:(b.any λc=>decide (c.1=k))=true
 .rw[zC a,WI]
  rw[ym] at a;by_cases e:j=k
  .obtain⟨x,hx⟩:=Option.isSome_iff_exists.mp a
   rw[zC e,e,hx,Zv,zC rfl]
  .rw[zw e]
   cases jP b j with
   | none=>rfl
   | some x=>rw[Zv,zw e]
 .rw[zw a]
  refine XR k j y b ?_
  rw[ym] at a;cases q:jP b k with
  | none=>rfl
  | some x=>rw[q] at a;exact(a rfl).elim
theorem vF(b:List (κ×V))(k:κ)(v:V):(xU b k v).length<=b.length+1:=by
 unfold xU;split
 .rw[zm];omega
 .rw[qh,jZ,Xj];omega
theorem Ju{b:List (κ×V)}{k:κ}(v:V)(h:jP b k=none):xU b k v=b++[(k,v)]:=by
 unfold xU;rw[ym,h];exact zw 1e1
theorem RelO.isSome_eq{o:Option V}{u:Option Value}(r:RelO o u):o.isSome=u.isSome:=by
 cases o with
 | none=>cases u with
  | none=>rfl
  | some _=>exact(show False from r).elim
 | some _=>cases u with
  | none=>exact(show False from r).elim
  | some _=>rfl
theorem RelO.getD{o:Option V}{u:Option Value}{d:V}{b:Value}(r:RelO o u)(c:RelV d b):RelV (o.getD d) (u.getD b):=by
 cases o with
 | none=>cases u with
  | none=>exact c
  | some _=>exact(show False from r).elim
 | some _=>cases u with
  | none=>exact(show False from r).elim
  | some _=>exact r
theorem KV.val{c:List (κ×V)}{s:List (κ×Value)}(r:KV c s)(k:κ):RelO (jP c k) (valueAt s k):=by
 unfold KV at r;induction r with
 | nil=>exact True.intro
 | @cons p q A l h t w=>
  obtain⟨h1,h2⟩:=h;by_cases e:p.1=k
  .have g:q.1=k:=h1.symm.trans e
   have b:valueAt (q::l) k=some q.2:=by simp[valueAt,Ze,g]
   rw[jX e,b];exact h2
  .have g:¬q.1=k:=λz=>e (h1.trans z)
   have b:valueAt (q::l) k=valueAt l k:=by simp[valueAt,Ze,g]
   rw[jY e,b];exact w
theorem KV.any{b:List (κ×V)}{g:List (κ×Value)}(r:KV b g)(k:κ):(b.any λc=>decide (c.1=k))=g.any λc=>decide (c.1=k):=by
 unfold KV at r;induction r with
 | nil=>rfl
 | cons h t l=>rw[w9,w9,l,h.1]
theorem KV.repl{c:List (κ×V)}{g:List (κ×Value)}(r:KV c g)(k:κ){y:V}{u:Value}(s:RelV y u) :
  KV (c.map λb=>if b.1=k then(b.1,y) else b) (g.map λb=>if b.1=k then(b.1,u) else b):=by
 unfold KV at r ⊢;induction r with
 | nil=>exact .nil
 | @cons p q w A h t l=>
  rw[jz,jz];refine .cons ?_ l
  obtain⟨h1,h2⟩:=h;by_cases e:p.1=k
  .rw[zC e,zC (h1.symm.trans e)];exact⟨h1,s⟩
  .rw[zw e,zw (λz=>e (h1.trans z))];exact⟨h1,h2⟩
theorem KV.put{b:List (κ×V)}{c:List (κ×Value)}(r:KV b c)(k:κ){y:V}{u:Value}(g:RelV y u):KV (xU b k y) (stored c k u):=by
 unfold xU stored;rw[r.any k];by_cases e:(c.any λl=>decide (l.1=k))=true
 .rw[zC e,zC e];exact r.repl k g
 .rw[zw e,zw e];exact Paired.snoc r ⟨rfl,g⟩
theorem KV.length{kvs:List (κ×V)}{b:List (κ×Value)}(r:KV kvs b):kvs.length=b.length:=V9 r
end
theorem yA{P:Program}{w:World}{k:Key}{u:Value}(r:RelV (kV k) u):(qo P w).is k u=true:=by
 cases k with
 | inl i=>obtain⟨t,e⟩:=(show ∃t,u=Value.int i t from r);subst e;exact Yz P w i t
 | inr x=>obtain⟨t,e⟩:=(show ∃t,u=Value.str x t from r);subst e;exact Yy P w x t
theorem Vc{P:Program}{w:World}:∀{b:List Key} {c:List Value},Vals (b.map kV) c->ItemsAre (qo P w) b c
 | [],_,r=>by rw[wZ] at r;cases r;exact .nil
 | k::b,_,r=>by
  rw[jz] at r;cases r with
  | cons h t=>exact .cons (yA h) (Vc t)
abbrev KT(H:Hp):List (List Key×V)->List (List Key×Addr×Value)->Prop:=Paired λp q=>p.1=q.1/\H q.2.1=some (.tup (p.1.map kV))/\RelV p.2 q.2.2
theorem KT.val{H:Hp}{c:List (List Key×V)}{s:List (List Key×Addr×Value)}(r:KT H c s)(k:List Key):RelO (jP c k) ((atKey s k).map (·.2)):=by
 induction r with
 | nil=>exact True.intro
 | @cons p q A l h t w=>
  obtain⟨h1,_,h2⟩:=h;by_cases e:p.1=k
  .have g:q.1=k:=h1.symm.trans e
   have b:atKey (q::l) k=some q.2:=by simp[atKey,Ze,g]
   rw[jX e,b];exact h2
  .have g:¬q.1=k:=λz=>e (h1.trans z)
   have b:atKey (q::l) k=atKey l k:=by simp[atKey,Ze,g]
   rw[jY e,b];exact w
theorem KT.repl{H:Hp}{b:List (List Key×V)}{g:List (List Key×Addr×Value)}(r:KT H b g)(k:List Key){y:V}{u:Value}(w:RelV y u) :
  KT H (b.map λc=>if c.1=k then(c.1,y) else c) (g.map (putAt k u)):=by
 induction r with
 | nil=>exact .nil
 | @cons p q A B h t s=>
  rw[jz,jz];refine .cons ?_ s
  obtain⟨h1,h2,l⟩:=h;unfold putAt;by_cases e:p.1=k
  .rw[zC e,zC (h1.symm.trans e)];exact⟨h1,h2,w⟩
  .rw[zw e,zw (λz=>e (h1.trans z))];exact⟨h1,h2,l⟩
theorem KT.put{H:Hp}{c:List (List Key×V)}{g:List (List Key×Addr×Value)}(r:KT H c g)(k:List Key){b:Addr}{y:V}{u:Value}(hb:H b=some (.tup (k.map kV)))(l:RelV y u) :
  KT H (xU c k y) (storedH g k b u):=by
 have e:(c.any λs=>decide (s.1=k))=(atKey g k).isSome:=by
  rw[ym,(r.val k).isSome_eq,Option.isSome_map]
 unfold xU storedH;rw[e];by_cases q:(atKey g k).isSome=true
 .rw[zC q,zC q];exact r.repl k l
 .rw[zw q,zw q];exact Paired.snoc r ⟨rfl,hb,l⟩
theorem KT.keeps{H g:Hp}{c:List (List Key×V)}{l:List (List Key×Addr×Value)}(r:KT H c l)(w:∀b s,H b=some (.tup s)->g b=some (.tup s)):KT g c l:=
 Paired.mapP r λ_ _ z=>{z.1,w _ _ z.2.1,z.2.2}
section
variable{P:Program}{w:World}{H:Hp}{h:Heap}{a:Addr}
theorem ziC{u:HO}(ok:HOk P w H h)(e:Rd H a u):ObjOk P w H h a u:=e.ok ok
theorem ZX{b:List (Key×V)}(ok:HOk P w H h)(e:Rd H a (.dK b)):b.length<=sizeLine/\(a==sysModules)=false/\∃c,KV b c/\h.DictOf (qo P w) a c:=
 show ObjOk P w H h a (.dK b) from ziC ok e
theorem zf4{b:List (Key×V)}(ok:HOk P w H h)(e:H a=some (.dK b)):b.length<=sizeLine/\(a==sysModules)=false/\∃c,KV b c/\h.DictOf (qo P w) a c:=ZX ok (.inl e)
theorem JJ{c:List Key}(ok:HOk P w H h)(e:H a=some (.tup (c.map kV))):(tupleKind (qo P w)).is h c a:=by
 obtain⟨_,b,r,⟨o,h1,h2,n,g⟩,_⟩:=(show ObjOk P w H h a (.tup (c.map kV)) from ok a _ e)
 exact{o,b.toArray,n,h1,h2,g,by simpa using Vc r}
theorem Vj{b:List (List Key×V)}(ok:HOk P w H h)(e:Rd H a (.dT b)):b.length<=sizeLine/\(a==sysModules)=false /\
  ∃c,KT H b c/\h.DictOfH (tupleKind (qo P w)) a c:=by
 obtain⟨z,y,c,r,o,s,g,h1,h2,A,B,C⟩:=(show ObjOk P w H h a (.dT b) from ziC ok e)
 refine{z,y,c,r,o,s,g,h1,h2,A,B,λx hx=>?_,C}
 have all:∀{l:List (List Key×V)} {m:List (List Key×Addr×Value)},KT H l m->∀x∈m,(tupleKind (qo P w)).is h x.1 x.2.1:=by
  intro l m q;induction q with
  | nil=>intro x hx;exact nomatch hx
  | @cons p q E G hq t D=>
   intro x hx;rcases qH.mp hx with e | hx
   .subst e
    exact JJ ok (by rw[<- hq.1];exact hq.2.1)
   .exact D x hx
 exact all r x hx
theorem zl9{b:List (List Key×V)}(ok:HOk P w H h)(e:H a=some (.dT b)):b.length<=sizeLine/\(a==sysModules)=false /\
  ∃c,KT H b c/\h.DictOfH (tupleKind (qo P w)) a c:=Vj ok (.inl e)
end
def DGet(H:Hp)(a:Addr)(y:V)(r:Option V):Prop:=
 (∃c k,Rd H a (.dK c)/\y=kV k/\r=jP c k)\/∃c k b,Rd H a (.dT c)/\y=.ref b/\H b=some (.tup (k.map kV))/\r=jP c k
def DPut(H:Hp)(a:Addr)(y v:V)(g:Hp):Prop:=
 (∃c k,H a=some (.dK c)/\y=kV k/\c.length<sizeLine/\g=upd H a (.dK (xU c k v))) \/
 ∃c k b,H a=some (.dT c)/\y=.ref b/\H b=some (.tup (k.map kV))/\c.length<sizeLine/\g=upd H a (.dT (xU c k v))
theorem DGet.k{H:Hp}{a:Addr}{b:List (Key×V)}{k:Key}(e:H a=some (.dK b)):DGet H a (kV k) (jP b k):=.inl {b,k,.inl e,rfl,rfl}
theorem DPut.k{H:Hp}{a:Addr}{b:List (Key×V)}{k:Key}{v:V}(e:H a=some (.dK b))(c:b.length<sizeLine):DPut H a (kV k) v (upd H a (.dK (xU b k v))):=.inl ⟨b,k,e,rfl,c,rfl⟩
section
variable{X:Cx}{B:List (Addr×Obj)}{σ:St}{H:Hp}{s:Shared}{a:Addr}{y v:V}{u r:Value}{o:Option V}{A:Around}{E:Value->Shared->Prop}
theorem Inv.big(I:Inv X B σ H s):sysModules<s.heap.objs.size:=by
 have h:mainGlobals<s.heap.objs.size:=(I.mod.glob.keeps I.bk).lt;exact Nat.lt_trans 1e1 h
theorem zdP{Q:Value->Shared->Prop}(hu:A.units+1<cLine)(I:Inv X B σ H s)(g:DGet H a y (some v))(N:RelV y u)(h:∀C O,Inv X B σ H O->RelV v C->Q C O) :
  wpAny 0#b A (getItem (.ref a) u) Q E s:=by
 rcases g with ⟨M,k,e,G,l⟩ | ⟨M,k,b,e,G,T,l⟩
 .subst G
  obtain⟨z,hd,U,c,D⟩:=ZX I.hok e;obtain⟨C,L,w⟩:=RelO.some_of (v:=v) (o:=valueAt U k) (by rw[l];exact c.val k)
  exact wpAny_getItem_of (yA N) D.mapOf L (h C _ (I.tok _) w)
 .subst G
  cases(show u=Value.ref b from N)
  obtain⟨z,hd,Y,c,D⟩:=Vj I.hok e;obtain⟨C,L,w⟩:=RelO.some_of (v:=v) (o:=(atKey Y k).map (·.2)) (by rw[l];exact c.val k)
  obtain⟨p,hp,J⟩:=qG.mp L;refine wpAny_getItem_heap (tupleKind_room_in1 hu) (JJ I.hok T) D hp ?_
  rw[J];exact h C _ (I.tok _) w
theorem zhO{Q:Value->Shared->Prop}(hu:A.units+1<cLine)(I:Inv X B σ H s)(g:DGet H a y o)(G:RelV y u)(h:∀J,Inv X B σ H J->Q (.bool (!o.isSome)) J) :
  wpAny 0#b A (compareOp .NotIn u (.ref a)) Q E s:=by
 rcases g with ⟨D,k,e,C,l⟩ | ⟨D,k,b,e,C,L,l⟩
 .subst C
  obtain⟨z,hd,M,c,w⟩:=ZX I.hok e;refine wpAny_notIn_of (yA G) hd w.mapOf ?_
  rw[<- (c.val k).isSome_eq,<- l];exact h _ (I.tok _)
 .subst C
  cases(show u=Value.ref b from G)
  obtain⟨z,hd,N,c,w⟩:=Vj I.hok e;refine wpAny_notIn_heap (tupleKind_room_in1 hu) (JJ I.hok L) hd w ?_
  have q:=(c.val k).isSome_eq;rw[Option.isSome_map] at q;rw[<- q,<- l];exact h _ (I.tok _)
theorem Jh{c:Heap}{D:Nat}{l:HO}(I:Inv X B σ H s)(C:Mut (H a))(hs:Heap.SameBut a s.heap c)(w:∃q,c.get? a=some q)(g:ObjOk X.prog X.w (upd H a l) c a l) :
  Inv X B σ (upd H a l) { s with heap:=c,toks:=D }:=
 I.write (x:=a) (e:=a) C (.inl rfl) (λb q hb z=>(hs.2 b hb).trans z) w g
theorem VY{P:Program}{w:World}{C:Hp}{l:Heap}{b:List (Key×V)}{g:List (Key×Value)}(z:b.length<=sizeLine)(hd:(a==sysModules)=false)(c:KV b g)(D:l.DictOf (qo P w) a g) :
  ObjOk P w C l a (.dK b):=⟨z,hd,g,c,D⟩
theorem zdO{O:Hp}{Q:Unit->Shared->Prop}(hu:A.units+1<cLine)(I:Inv X B σ H s)(g:DPut H a y v O)(ry:RelV y u)(rv:RelV v r)(h:∀s',Inv X B σ O s'->Q Unit.unit s') :
  wpAny 0#b A (setItem (.ref a) u r) Q E s:=by
 rcases g with ⟨w,k,e,L,l,J⟩ | ⟨w,k,b,e,L,T,l,J⟩
 .subst L J
  obtain⟨z,hd,vs,C,G⟩:=zf4 I.hok e;have hz:vs.length<=sizeLine:=by rw[<- C.length];exact z
  have M:(xU w k v).length<=sizeLine:=by have:=vF w k v;omega
  refine wpAny_setItem_pairs (hsz:=hz) (yA ry) G λY D hs=>h _ ?_
  have he:∃q,Y.get? a=some q:=let ⟨q,_,_,hq,_⟩:=D;⟨q,hq⟩
  exact Jh I (by rw[e];exact True.intro) hs he (VY M hd (C.put k rv) D)
 .subst L J
  cases(show u=Value.ref b from ry)
  obtain⟨z,hd,xs,C,G⟩:=zl9 I.hok e;have hz:xs.length<=sizeLine:=by rw[<- V9 C];exact z
  have M:(xU w k v).length<=sizeLine:=by have:=vF w k v;omega
  refine wpAny_setItem_heap (hsz:=hz) (tupleKind_room_in1 hu) (JJ I.hok T) G λY D hs=>h _ ?_
  obtain⟨q,es,ep,hq,h2,h3,h4,_,h5⟩:=D;refine Jh I (by rw[e];exact True.intro) hs ⟨q,hq⟩ {M,hd,_,(C.put k T rv).keeps λc ys U=>?_,q,es,ep,hq,h2,h3,h4,h5}
  rw[zp (zcg U e (λz=>nomatch z))]
  exact U
end
section
variable{X:Cx}{b:List (Addr×Obj)}{σ:St}{H:Hp}{s:Shared}{a:Addr}{c:List (Key×V)}{k:Key}{u:Value}{A:Around}{E:Value->Shared->Prop}
end
def zmg(i:Expr):Prop:=∀c b,subscripted i false c b=operate [c,b] (getItem c b)
theorem zgG{b:Program}{w:World}{A:Around}{E:Value->Shared->Prop}{s:Shared}{l:Env}{g c:Expr}{D:Pos}{T id:String}{Q:Value->Shared->Prop}
  (J:typeLookup (.type T) "__getitem__" = pure (some (.builtin id))) (hs:zmg c)
  (h:wpAny 0#j A (eval g l) (λo H=>wpAny 0#j A (eval c l) (λi B=>B.TypeIs o T/\wpAny 0#j A (getItem o i) Q E B) E H) E s) :
  wpAny 0#j A (eval (.Subscript g c D) l) Q E s:=by
 refine Subscript_ (ja h (λo H L=>ja L (λi B C=>?_) λ_ _ x=>x) λ_ _ x=>x)
 obtain⟨G,C⟩:=C;unfold subscriptTail;refine zk ?_
 rw[getitemInPython_of_ne G.not_modules];refine zk (wpAny_specialOf G J ?_)
 have fin:wpAny 0#j A (subscripted c false o i) (λr I=>wpAny 0#j A (letTemporaryGo g o r >>= λ_=>pure r) Q E I) E B:=by
  rw[hs o i];exact wpAny_operating (ja C (λr I M=>zk (wpAny_letTemporaryGo (zx M))) λ_ _ x=>x)
 first
  | exact zx (zk fin)
  | exact zk (zx (zk fin))
  | exact zk fin
theorem YS{X:Cx}{c:List (Addr×Obj)}{σ:St}{H:Hp}{s:Shared}{a:Addr}{y:V}{o:Option V}(I:Inv X c σ H s)(g:DGet H a y o):s.TypeIs (.ref a) "dict" :=by
 rcases g with ⟨w,k,e,_,_⟩ | ⟨w,k,b,e,_,_,_⟩
 .obtain⟨_,_,A,_,l⟩:=ZX I.hok e
  exact l.typeIs
 .obtain⟨_,_,B,_,l⟩:=Vj I.hok e
  exact l.typeIs
def zkt(g ty:TE):TE:=λσ H Q=>g σ H λx c=>ty σ c λy b=>∃a v,x=.ref a/\DGet b a y (some v)/\Q v b
def zgE(ty g:TE):TE:=λσ H Q=>ty σ H λy c=>g σ c λx b=>∃a o,x=.ref a/\DGet b a y o/\Q (.bl (!o.isSome)) b
def zld(s ty w:TE):TS:=λD σ H=>w σ H λv c=>s σ c λx g=>ty σ g λy l=>∃a b,x=.ref a/\DPut l a y v b/\D.nx σ b
section
variable{X:Cx}{o i e b:Expr}{l c A:Pos}{w ty B:TE}
theorem VE(hu:X.A.units+1<cLine)(T:PE X o w)(O:PE X i ty)(hs:zmg i):PE X (.Subscript o i l) (zkt w ty):=by
 intro C s σ H Q I h;refine zgG PySem.F.slot_dict_getitem.lookup hs (thn (T C s σ H _ I h) λu s1 ⟨x,G,L,rx,U⟩=>thn (O C s1 σ G _ L U) λiv s2 ⟨y,J,E,ry,a,v,N,g,Y⟩=>?_)
 subst N;obtain rfl:u=Value.ref a:=rx;exact{YS E g,zdP hu E g ry λw' s3 M D=>⟨v,J,M,D,Y⟩}
theorem X8(hu:X.A.units+1<cLine)(N:PE X i ty)(O:PE X o w):PC X .NotIn i o (zgE ty w):=by
 intro C s σ H Q I h;refine thn (N C s σ H _ I h) λiv s1 ⟨y,D,G,ry,U⟩=>thn (O C s1 σ D _ G U) λu s2 ⟨x,E,J,rx,a,T,M,g,Y⟩=>?_
 subst M;obtain rfl:u=Value.ref a:=rx;exact zhO hu J g ry λs3 L=>{.bl (!T.isSome),E,L,rfl,Y}
theorem zb8(hu:X.A.units+1<cLine)(U:PE X o w)(T:PE X i ty)(hv:PE X b B)(hs:swapsWith b (some (.Subscript o i c)) l.line X.env=pure false) :
  PS X (.Assign [.Subscript o i c] b l) (zld w ty B):=by
 intro C s σ H D I h;refine wpAny_Assign_Subscript (thn (hv C s σ H _ I h) λr s1 ⟨v,E,L,rv,Y⟩=>thn (U C s1 σ E _ L Y) λu s2 ⟨x,G,M,rx,q2⟩=>thn (T C s2 σ G _ M q2) λiv s3 ⟨y,H3,N,ry,a,J,Q,g,q3⟩=>?_) hs
 subst Q;obtain rfl:u=Value.ref a:=rx;exact zdO hu N g ry rv λs4 O=>⟨σ,J,O,q3⟩
end
theorem YR{P:Program}{w:World}{H:Hp}(h:Heap)(hb:sysModules<h.objs.size):ObjOk P w H (h.push { cls:=.type "dict",data:=.dict #[] }) h.objs.size (.dK []):=
 {jv _,beq_eq_false_iff_ne.mpr (qD (qV hb)),[],.nil,Heap.DictOf.new h}
def zi1:TE:=λ_ H Q=>∀p,H p=none->Q (.ref p) (upd H p (.dK []))
section
variable{X:Cx}{b:Pos}
theorem zfp:PE X (.Dict [] [] b) zi1:=λc s σ H Q I h=>
 wpAny_Dict_empty {.ref s.heap.objs.size,_,I.laid (a:=s.heap.objs.size) (o:=.dK []) (t':=s.toks) (λ_ _ q=>qX _ q) (zF _) (YR s.heap I.big),rfl,h _ (I.hok.fresh (zF _))}
end
def zab:List (TE×TE)->St->Hp->(List (V×V)->Hp->Prop)->Prop
 | [],_,H,Q=>Q [] H
 | (s,w)::r,σ,H,Q=>s σ H λx b=>w σ b λy c=>zab r σ c λl g=>Q ((x,y)::l) g
abbrev VV:List (V×V)->List (Value×Value)->Prop:=Paired λp q=>RelV p.1 q.1/\RelV p.2 q.2
def PPs(X:Cx)(l:Pos)(g:List (Option Expr))(b:List Expr)(w:List (TE×TE)):Prop:=
 ∀(c:List 0#l) (s:Shared) (σ:St) (H:Hp) (Q:List (V×V)->Hp->Prop),Inv X c σ H s->zab w σ H Q ->
  wpAny 0#b X.A (evalPairs (pairTrees g b X.env l)) (λD C=>∃B A,Inv X c σ A C/\VV B D/\Q B A) X.xe s
theorem zgQ{X:Cx}{b:Pos}:PPs X b [] [] []:=λc s σ H Q I h=>pairTrees_nil_walk {[],H,I,.nil,h}
theorem zfe{X:Cx}{c:Pos}{k v:Expr}{w:List (Option Expr)}{C:List Expr}{A B:TE}{g:List (TE×TE)}(hk:PE X k A)(hv:PE X v B)(N:PPs X c w C g) :
  PPs X c (some k::w) (v::C) ((A,B)::g):=λb s σ H Q I h=>
 pairTrees_cons_walk (thn (hk b s σ H _ I h) λu s1 ⟨x,D,J,rx,T⟩=>thn (hv b s1 σ D _ J T) λw2 s2 ⟨y,E,L,ry,U⟩=>
  thn (N b s2 σ E _ L U) λws s3 ⟨O,G,M,l,Y⟩=>{(x,y)::O,G,M,.cons ⟨rx,ry⟩ l,Y})
def xE(c more:List (Key×V)):List (Key×V):=more.foldl (λb g=>xU b g.1 g.2) c
theorem KV.merge:∀{more:List (Key×V)} {g:List (Key×Value)} {b:List (Key×V)} {c:List (Key×Value)},KV more g->KV b c->KV (xE b more) (merged c g):=by
 intro more g b c r;unfold KV at r;induction r generalizing b c with
 | nil=>intro q;exact q
 | @cons p q w A h t l=>
  intro s;have e:KV (xU b p.1 p.2) (stored c q.1 q.2):=by
   have:=s.put p.1 h.2;rw[<- h.1];exact this
  exact l e
theorem wD:∀(more b:List (Key×V)),(xE b more).length<=b.length+more.length
 | [],b=>by show b.length<=b.length+0;omega
 | p::r,b=>by
  have h1:=wD r (xU b p.1 p.2);have h2:=vF b p.1 p.2;show(xE (xU b p.1 p.2) r).length<=_;rw[jZ];omega
theorem JX{P:Program}{w:World}:∀{g:List (Key×V)} {A:List (Value×Value)},VV (g.map λs=>(kV s.1,s.2)) A->∃l,Carries (qo P w) A l/\KV g l
 | [],_,r=>by rw[wZ] at r;cases r;exact{[],True.intro,.nil}
 | p::g,_,r=>by
  rw[jz] at r;cases r with
  | @cons a b B C h t=>
   obtain⟨l,c,q⟩:=JX (P:=P) (w:=w) t;obtain⟨b1,b2⟩:=b;exact{(p.1,b2)::l,{yA h.1,rfl,c},.cons ⟨rfl,h.2⟩ q}
def zks(c:List (TE×TE)):TE:=λσ H Q=>∀p,H p=none->zab c σ (upd H p (.dK [])) λs g=>g p=some (.dK [])/\∃b:List (Key×V),s=b.map (λl=>(kV l.1,l.2))/\b.length<=15/\Q (.ref p) (upd g p (.dK (xE [] b)))
theorem zgX{X:Cx}{D:Pos}{b:List (Option Expr)}{g:List Expr}{E:List (TE×TE)}(h:PPs X D b g E)(A:b.all (·.isSome)=true)(Y:b.length=g.length)(h0:b≠[])
  (G:b.length<=15):PE X (.Dict b g D) (zks E):=by
 intro C s σ H Q I q;have hn:=I.hok.fresh (zF s.heap.objs.size);have N:=I.laid (a:=s.heap.objs.size) (o:=.dK []) (h':=s.heap.push { cls:=.type "dict",data:=.dict #[] }) (t':=s.toks) (λ_ _ q=>qX _ q) (zF _) (YR s.heap I.big)
 refine wpAny_Dict_walk (knd:=qo X.prog X.w) A Y h0 G (thn (h C _ σ _ _ N (q _ hn)) λws s2 ⟨ps,H2,L,J,e,B,T,lk,q2⟩=>?_)
 subst T;obtain⟨rs,c,rk⟩:=JX (P:=X.prog) (w:=X.w) J;obtain⟨z,hd,aa,r0,O⟩:=zf4 L.hok e;cases r0;refine{rs,c,O,λM l hs=>{.ref s.heap.objs.size,_,?_,rfl,q2}}
 have hz:(xE [] B).length<=sizeLine:=by
  have h1:=wD B [];rw[Xj] at h1;rw[sizeLine_eq];omega
 have U:∃q,M.get? s.heap.objs.size=some q:=let ⟨q,_,_,hq,_⟩:=l;⟨q,hq⟩
 exact Jh L (by rw[e];exact True.intro) hs U (VY hz hd (rk.merge .nil) l)
structure M1(X:Cx)(o:Expr)(m:Str)(apos:Pos)(e:Expr)(cpos:Pos):Prop where
 base:attributeBase o m X.env (eval o X.env)=eval o X.env
 few:((backTo cpos (starEach [e] X.env)).all (λx=>!x.1)&&(backToKw cpos (keywordEach [] X.env)).all (λx=>x.1.isSome)
  && decide (([e]:List Expr).length+([]:List Keyword).length+(if([]:List Keyword).isEmpty then 0 else 1)<30))=true
 line:(apos.endLine==cpos.line)=true
 trees:backTo cpos (starEach [e] X.env)=[(false,eval e X.env)]
structure M2(X:Cx)(o:Expr)(m:Str)(apos:Pos)(e f:Expr)(cpos:Pos):Prop where
 base:attributeBase o m X.env (eval o X.env)=eval o X.env
 few:((backTo cpos (starEach [e,f] X.env)).all (λx=>!x.1)&&(backToKw cpos (keywordEach [] X.env)).all (λx=>x.1.isSome)
  && decide (([e,f]:List Expr).length+([]:List Keyword).length+(if([]:List Keyword).isEmpty then 0 else 1)<30))=true
 line:(apos.endLine==cpos.line)=true
 trees:backTo cpos (starEach [e,f] X.env)=[(false,eval e X.env),(false,eval f X.env)]
def IsD(H:Hp)(a:Addr):Prop:=(∃b,Rd H a (.dK b))\/∃b,Rd H a (.dT b)
theorem zaA{X:Cx}{l:List (Addr×Obj)}{σ:St}{H:Hp}{s:Shared}{a:Addr}(I:Inv X l σ H s)(d:IsD H a) :
  s.TypeIs (.ref a) "dict" /\ (∀b,Value.ref a=.ref b->∃c,s.heap.get? b=some c/\c.dict=none)/\(a==sysModules)=false:=by
 rcases d with ⟨w,e⟩ | ⟨w,e⟩
 .obtain⟨_,hd,A,_,g⟩:=ZX I.hok e
  refine{g.typeIs,λb q=>?_,hd}
  cases q;obtain⟨c,_,_,h1,h2,_⟩:=g;exact⟨c,h1,h2.2.1⟩
 .obtain⟨_,hd,B,_,g⟩:=Vj I.hok e
  refine{g.typeIs,λb q=>?_,hd}
  cases q;obtain⟨c,_,_,h1,h2,_⟩:=g;exact⟨c,h1,h2.2.1⟩
section
variable{X:Cx}{c:List (Addr×Obj)}{σ:St}{H:Hp}{s:Shared}{a:Addr}{y d:V}{u r:Value}{o:Option V}{A:Around}{E:Value->Shared->Prop}
theorem zj6{Q:Value->Shared->Prop}(hu:A.units+1<cLine)(I:Inv X c σ H s)(g:DGet H a y o)(J:RelV y u)(G:RelV d r)(h:∀M L,Inv X c σ H L->RelV (o.getD d) M->Q M L) :
  wpAny 0#b A (call (.builtin "dict.get") [.ref a,u,r]) Q E s:=by
 rcases g with ⟨D,k,e,C,l⟩ | ⟨D,k,b,e,C,N,l⟩
 .subst C
  obtain⟨z,hd,T,w,B⟩:=ZX I.hok e;refine call_meetsIn za5 B.typeIs PySem.F.entry_dict_get (PySem.F.args_dict_get_3 _ _ _) (meets_dict_get_default (qo X.prog X.w) a (yA J) hd r) {_,B.mapOf,h _ _ (I.tok _) ?_}
  rw[l];exact(w.val k).getD G
 .subst C
  cases(show u=Value.ref b from J)
  obtain⟨z,hd,O,w,B⟩:=Vj I.hok e;refine call_meetsIn za5 B.typeIs PySem.F.entry_dict_get (PySem.F.args_dict_get_3 _ _ _) (meetsH_dict_get_default (tupleKind (qo X.prog X.w)) a b hd r) {tupleKind_room_in1 hu,k,O,JJ I.hok N,B,h _ _ (I.tok _) ?_}
  rw[l];exact(w.val k).getD G
end
def zi2(l ty s:TE):TE:=λσ H Q=>l σ H λx b=>∃a,x=.ref a/\IsD b a/\ty σ b λy g=>s σ g λz c=>∃o,DGet c a y o/\Q (o.getD z) c
section
variable{X:Cx}{o e f:Expr}{b c:Pos}{l ty w:TE}
theorem zfq(hu:X.A.units+1<cLine)(U:PE X o l)(O:PE X e ty)(T:PE X f w)(m:M2 X o "get" b e f c):PE X (.Call (.Attribute o "get" b) [e,f] [] c) (zi2 l ty w):=by
 intro A s σ H Q I h;refine wpAny_Call_method m.base m.few m.line zba za5 PySem.F.type_dict_get (thn (U A s σ H _ I h) λu s1 ⟨x,D,C,rx,a,N,d,Y⟩=>?_)
 subst N;obtain rfl:u=Value.ref a:=rx;obtain⟨t1,t2,_⟩:=zaA C d;refine{t1,t2,?_}
 rw[m.trees];refine Wu rfl (za3 (QH (thn (O A s1 σ D _ C Y) λiv s2 ⟨y,E,J,ry,q2⟩=>
  QH (thn (T A s2 σ E _ J q2) λfv s3 ⟨z,G,L,rz,ov,g,q3⟩=>Wh ?_))))
 exact zj6 hu L g ry rz λw' s4 M B=>{_,G,M,B,q3}
end
section
variable{X:Cx}{b:List (Addr×Obj)}{σ:St}{H:Hp}{s:Shared}{a:Addr}{c:List (Key×V)}{A:Around}{E:Value->Shared->Prop}
end
section
variable{X:Cx}{b:List (Addr×Obj)}{σ:St}{H:Hp}{s:Shared}{a:Addr}{y:V}{u:Value}{A:Around}{E:Value->Shared->Prop}
end
end L2
namespace PySem
open PySem PySem.W PySem.Calls PyProof.Rows PyProof.V PySem.Spec
end PySem
namespace L2
open PySem PySem.Spec PyProof.Rows
section
variable{X:Cx}
end
section
variable{X:Cx}{b:Expr}
end
section
variable{X:Cx}
end
section
variable{X:Cx}
variable{e st:Expr}{g:TE}{l:TO}{b c:Pos}
end
end L2
namespace PySem
def RawD(h:Heap)(d:Addr)(c:Array DictEntry)(b:Nat):Prop:=∃o,h.get? d=some o/\o.ExactDict/\o.data=.dict c b
theorem RawD.at{h l:Heap}{d:Addr}{g:Array DictEntry}{c:Nat}(x:RawD h d g c)(e:∀o,h.get? d=some o->l.get? d=some o):RawD l d g c:=let ⟨o,a,b⟩:=x;{o,e _ a,b}
section
variable{l:Program}{w:World}{A:Around}{E:Value->Shared->Prop}{s:Shared}{d g:Addr}{c:Array DictEntry}{B i:Nat}
theorem Yk{Q:Value->Shared->Prop}(hd:(d==sysModules)=false)(G:RawD s.heap d c B)
  (D:Q (.ref s.heap.objs.size) { s with heap:=s.heap.push { cls:=.type "dict_keyiterator",data:=.fields #[.ref d,.int 0 0,.int c.size 0,.int B 0] } }):wpAny 0#D A (pyIter (.ref d)) Q E s:=by
 obtain⟨o,C,hc,b⟩:=G;have ty:s.TypeIs (.ref d) "dict" :=⟨o,C,hc.1⟩;refine wpAny_pyIter_slot ty F.slot_dict_iter (yg F.slot_dict_iter ty F.entry_dict_iter ?go (F.args_dict_iter_1 _))
 unfold Builtin.«dict.__iter__» Builtin.Dict.dictSlotNone;refine zk (zk (wpAny_notOrdered_dict ty ?go2));refine(zx ?go3:wpAny _ _ (pure (Value.ref d)) _ _ s)
 refine(?go7:wpAny _ _ (Builtin.Dict.showsAll d >>= _) _ _ s);unfold Builtin.Dict.showsAll
 rw[zw (by rw[hd];exact qS)];refine zk (zx ?go5)
 refine zk (wpAny_dictEntries C b (zk (wpAny_dictEpoch C b (zk (wz (zx {_,rfl, "dict_keyiterator",_,{_,qQ _ rfl,rfl},Xx.lookup,?go6}))))))
 simpa [rawInt] using D
theorem zfa{e:DictEntry}{Q:Option Value->Shared->Prop}(D:s.heap.IsKeyIter g d i c.size B)(O:RawD s.heap d c B)(hx:c[i]? =some e)
  (M:∀H,H.IsKeyIter g d (i+1) c.size B->Heap.SameBut g s.heap H->Q (some e.key) { s with heap:=H }):wpAny 0#D A (pyNext (.ref g)) Q E s:=by
 obtain⟨o,I,hc,hd⟩:=id D;obtain⟨U,G,N,C⟩:=O;have ty:=D.typeIs;obtain⟨T,L⟩:∃h:i<c.size,c[i]=e:=Wz.mp hx;unfold pyNext;refine zk (Zu (Qb (name:=Str.ofString "__next__") ty Xx (yg Xx ty zgu ?a (zgv _))))
 refine zk (zx ?a1);refine zk (zk ?a2)
 first| refine zk (wpAny_typeNameOfWhole_keyiter ty (zx ?a3)) | refine zk (wpAny_typeNameOf_keyiter ty (zx ?a3))
 refine zk (wpAny_fieldsOf I hd ?a4)
 simp only[show Builtin.Dict_items.ownsTuple "dict_keyiterator" = false by decide,QG,if_false]
 refine(?a5:wpAny _ _ (if(Value.ref d==Value.none)=true then _ else _) _ _ s)
 rw[zw (show ¬((Value.ref d==Value.none)=true) from qS)];refine zk (zx (zk (wpAny_dictEntries G C ?a6)))
 rw[zw 1e3];refine zk (zx (zk (wpAny_dictEpoch G C ?a7)))
 rw[zw 1e3];refine zx ?a8
 simp only[show ¬((i:Int)<0) from (),if_false,vO,Zk T];refine zk ?a9
 first| refine zk (wpAny_typeNameOfWhole_keyiter ty (zx ?b1)) | refine zk (wpAny_typeNameOf_keyiter ty (zx ?b1))
 refine zk (wpAny_isOneOf_keyiter ty ?b2);refine(?b3:wpAny _ _ (setField (.ref g) 1 (rawInt ((i:Int)+1)) >>= _) _ _ s)
 have b:(s.heap.update g (Obj.mapFields (·.setIfInBounds 1 (rawInt ((i:Int)+1))))).IsKeyIter g d (i+1) c.size B:=
  {_,QV _ I (za6 (Xo hd _)),(zaW ..).trans hc,(by rw[Xo hd];simp[rawInt])}
 refine zk (wpAny_setField I hd 1e3 (zk (wv (zk (wpAny_isOneOf_keyiter (s:={ s with heap:=s.heap.update g (Obj.mapFields (·.setIfInBounds 1 (rawInt ((i:Int)+1)))) }) b.typeIs ?b4)))))
 refine(?b5:wpAny _ _ (pure c[i].key) _ _ _)
 rw[L];exact zx (zx {_,rfl,zx (M _ b (ZC ..))})
theorem zgM{Q:Option Value->Shared->Prop}(N:A.handled=none)(D:s.heap.IsKeyIter g d i c.size B)(O:RawD s.heap d c B)(hx:c.size<=i)
  (L:∀H,Heap.ExtBut g s.heap H->Q none { s with heap:=H }):wpAny 0#D A (pyNext (.ref g)) Q E s:=by
 obtain⟨o,I,hc,hd⟩:=id D;obtain⟨U,G,M,C⟩:=O;have ty:=D.typeIs;unfold pyNext;refine zk (Zu (Qb (name:=Str.ofString "__next__") ty Xx (yg Xx ty zgu ?a (zgv _))))
 refine zk (zx ?a1);refine zk (zk ?a2)
 first| refine zk (wpAny_typeNameOfWhole_keyiter ty (zx ?a3)) | refine zk (wpAny_typeNameOf_keyiter ty (zx ?a3))
 refine zk (wpAny_fieldsOf I hd ?a4)
 simp only[show Builtin.Dict_items.ownsTuple "dict_keyiterator" = false by decide,QG,if_false]
 refine(?a5:wpAny _ _ (if(Value.ref d==Value.none)=true then _ else _) _ _ s)
 rw[zw (show ¬((Value.ref d==Value.none)=true) from qS)];refine zk (zx (zk (wpAny_dictEntries G C ?a6)))
 rw[zw 1e3];refine zk (zx (zk (wpAny_dictEpoch G C ?a7)))
 rw[zw 1e3];refine zx ?a8
 simp only[show ¬((i:Int)<0) from (),if_false,vO,za9 hx];refine zk ?a9
 first| refine zk (wpAny_typeNameOfWhole_keyiter ty (zx ?b1)) | refine zk (wpAny_typeNameOf_keyiter ty (zx ?b1))
 refine(?b3:wpAny _ _ (setField (.ref g) 0 .none >>= _) _ _ s);refine zk (wpAny_setField I hd 1e3 ?b4)
 refine(?b5:wpAny _ _ (newExc (.type "StopIteration") [] >>= _) _ _ _);refine zk ?b6
 simp only[newExc,newTuple];refine zk (wz ?b7 (by size_fits))
 refine zk (m:=firstArgMember _ _) (QA (a:=Value.none) (by first| rfl | (simp only[firstArgMember];rfl)) (wz ?b8 (by size_fits)))
 simp only[raiseNew];refine zk (wpAny_handled ?b9)
 rw[show A.in1.handled=none from N];refine zk (zx (wpAny_throw ?c1))
 exact zk (yL (T:= "StopIteration") (b:=true) {_,qQ _ rfl,rfl} isSubtype_stop (zx (L _ (((ZC ..).extBut.push _).push _))))
end
end PySem
namespace L2
open PySem PySem.Spec PyProof.Rows
section
variable{X:Cx}{b:Expr}
end
section
variable{b:Program}{w:World}{A:Around}{R:Result->Shared->Prop}{s:Shared}
end
section
variable{X:Cx}{Q vx M A:Expr}{D:List Expr}{U E:Expr}{G:List Expr}{w:Scope}{J:Pos}{wi N:TI}{g O:TG}{T L:TT}{Y tv:TE}
theorem zaH{aa:List (Addr×Obj)}{σ:St}{H:Hp}{s:Shared}{fp:List Addr}(own fr:List Str)(js:List Nat)(I:Inv X aa σ H s)(B:zgB w.names X.env.scope.names X.N fr js)(hk:w.kind=.function)
  (f2:∀b∈fp,vc X aa H b) (fl:∀b∈fp,b<s.heap.objs.size) {C:Addr} (hC:C=s.heap.objs.size) {h1:Heap} {m:Str->Option Value} (ag:h1.Ns C m) (k4:∀b o,s.heap.get? b=some o->h1.get? b=some o) {t4:Nat} :
  Inv (zQ X (own++fr) w C s H fp) [] (upS own.length js σ) H { s with heap:=h1,toks:=t4 }:=by
 have a0:∀y∈w.names,y.2=NameKind.free->∃c,X.env.cells.lookup y.1=some c:=λy hy e=>I.ok.has y.1 (B.free y hy e)
 refine{{I.ok.mod,hk,I.ok.glob,I.ok.blt,Zt hC.symm,λx y c e1 e2=>?_,λx hx=>?_,λx c hf=>(nomatch hf),λhc=>I.ok.hd hc,I.ok.frames,.inl rfl,λb hb=>?_,I.bs,jN I.ok.bsz I.sz,λb o e hb=>?_,λb hb hf=>?_,I.stack,I.stkFree},
  rfl,I.bare,Un.kept k4,{m,ag,λi x v e1 e2 ah=>?_},λx c e=>?_,?_,λx c e=>?_,λp hp=>absurd (show p∈([]:List 0#l) from hp) 1e3,I.hok.kept k4,?_}
 .exact I.ok.inj x y c (jy e1 a0) (jy e2 a0)
 .obtain⟨k,e,z⟩:∃k,w.names.lookup x=some k/\(k=.free):=by
   rcases hx with hx | hx
   .obtain⟨k,e,z⟩:=yp hx
    rcases z with z | z
    .subst z;exact absurd rfl (B.cell _ (Zj e))
    .exact⟨k,e,z.1⟩
   .obtain⟨k,e,z⟩:=yp hx
    rcases z with z | z
    .subst z;exact{_,e,rfl}
    .exact⟨k,e,z.1⟩
  subst z;exact{_,y9 e}
 .refine{by rw[hC];exact qV (fl b hb),λx c e=>?_}
  exact(f2 b hb).2.2.2.2.1 x c (jy e a0)
 .rcases(f2 b hb).2.2.2.1 with z | z
  .exact I.ok.noex b o e z
  .exact absurd (xJ (zU (I.ok.bs b o e).1) z) (wj _)
 .rcases qH.mp (I.stkSub b hf) with y | y
  .exact(f2 b hb).2.1 y
  .exact(f2 b hb).2.2.1 y
 .obtain⟨hn,_,j,ej,es⟩:=ZH e2
  have ex:fr[i-own.length]? =some x:=by rw[Zn hn] at e1;exact e1
  obtain⟨ab,j',ac,eN⟩:=B.fr _ x ex;have:j'=j:=by rw[ej] at ac;exact(jC ac).symm
  subst this;have ae:=B.free _ (Zj ab) rfl;obtain⟨m0,_,hl⟩:=I.loc;obtain⟨u,r,l⟩:=hl j' x v eN es (by rcases ae with z | z;exact .inr (.inl z);exact .inr (.inr z))
  refine{u,r,.inr ?_}
  rcases l with ⟨kl,_⟩ | ⟨_,c,ec,o,eo,ed⟩
  .have af:X.env.scope.names.lookup x=some .local:=kl
   rcases ae with z | z
   .exact absurd (z.symm.trans af) 1e1
   .exact absurd (z.symm.trans af) 1e1
  .obtain⟨k',e',z⟩:=Zp (env:=X.env) ab
   have eq:(xA X.env.cells w.names []).lookup x=some c:=by rw[y9 ab,ec];rfl
   refine{?_,c,eq,o,k4 c o eo,ed}
   rcases z with z | z
   .subst z;exact .inl e'
   .subst z;exact .inr e'
 .obtain⟨v,o,eo,ed⟩:=I.cell x c (jy e a0)
  exact{v,o,k4 c o eo,ed}
 .exact I.hok.fresh (Zt hC.symm)
 .exact I.freeC x c (jy e a0)
 .rw[zbp,<- B.len]
  show _=(own++fr).length;rw[qh]
end
structure BlkOkC(sn on:List (Str×NameKind))(N:List Str)(x:Str)(fr:List Str)(js:List Nat):Prop where
 one:(sn.filter λy=>y.2==.cell)=[(x,.cell)]
 lk:sn.lookup x=some .cell
 nd:([x]++fr).Nodup
 loc:∀y∈sn,y.2=NameKind.local->sn.lookup y.1=some .local
 free:∀y∈sn,y.2=NameKind.free->on.lookup y.1=some .cell\/on.lookup y.1=some .free
 len:fr.length=js.length
 fr:∀(k:Nat) (x:Str),fr[k]? =some x->sn.lookup x=some .free/\∃j:Nat,js[k]? =some j/\N[j]? =some x
section
variable{X:Cx}{l C c:Expr}{s:List Expr}{b:Scope}{w:Pos}{D:TI}{g:TG}{B:TT}{A:TE}{x:Str}
end
end L2
namespace L2
end L2
namespace L2
open PySem PySem.W PySem.Spec PyProof.Rows
abbrev bmV:List Value:=[.type "ValueError",.type "Exception",.type "BaseException",.type "object"]
def zmr(K:Frag)(C:Addr)(c:Option Value):Bool:=match K.lookup C with
 | some ⟨.type "type",_,.cls b,s⟩=>(match b.mro with
  | .ref g::l=>(match s.toList with
   | [_,_,_,_,some (.builtin n),_]=>g==C&&(n == "ValueError.__new__" && (!b.hasDel&&(tailIn K bmV l&&(nsOkIn K b.ns&&nsIn K b.ns "__init__" == some c))))
   | _=>false)
  | _=>false)
 | _=>false
structure Xc(h:Heap)(C:Addr)(ini:Option Value):Prop where
 is:∃(bm:List Value) (N:Addr) (nm qn:Str) (bs:List Value) (hd:Bool) (sn:List Str) (sub:List Value) (ab:Bool) (col:Option Bool) (dd:Option Addr) (k0 k1 k2 k3 k5:Option Value) (mN:Str->Option Value),
  h.get? C=some (excClassObj nm qn C N bs bm hd sn sub ab col dd k0 k1 k2 k3 k5 "ValueError.__new__")/\h.Ns N mN/\mN "__init__" = ini/\OwnTail h bmV bm
end L2
namespace L2
open PySem PySem.W PySem.Spec PyProof.Rows
section
variable{P:Program}{w:World}{H:Hp}{h b:Heap}{a:Addr}{o:HO}
theorem ObjOk.has(x:ObjOk P w H h a o):∃u,h.get? a=some u:=by
 cases o with
 | lst g=>obtain⟨_,_,_,_,e⟩:=x;exact{_,e}
 | tup g=>obtain⟨_,_,_,⟨u,e,_⟩,_⟩:=x;exact⟨u,e⟩
 | dK c=>obtain⟨_,_,_,_,u,_,_,e,_⟩:=x;exact⟨u,e⟩
 | dT c=>obtain⟨_,_,_,_,u,_,_,e,_⟩:=x;exact⟨u,e⟩
 | set S n=>obtain⟨u,_,_,_,e,_⟩:=x;exact⟨u,e⟩
 | ins C l fs=>obtain⟨_,_,_,e,_⟩:=x;exact{_,e}
 | own y=>obtain⟨u,e⟩:=x;exact⟨u,e⟩
 | xd fs=>obtain⟨_,⟨u,_,_,e,_⟩,_⟩:=x;exact⟨u,e⟩
 | rng lo s=>obtain⟨_,_,_,e⟩:=x;exact{_,e}
 | frz A u=>obtain⟨e,_⟩:=x;exact{_,e}
 | tbl B=>exact{_,show h.get? a=some _ from x}
 | met f y=>exact{_,show h.get? a=some _ from x}
 | ext φ=>obtain⟨_,⟨u,e⟩,_⟩:=x;exact⟨u,e⟩
end
section
variable{X:Cx}{b:List (Addr×Obj)}{σ:St}{H:Hp}{s:Shared}{c:Heap}
end
section
variable{b:Program}{w:World}{A:Around}{E:Value->Shared->Prop}{h:Heap}{g:Array GenState}{d:Drawn}{t:Nat}{os:OsState}{C:Addr}
end
section
variable{c:Program}{w:World}{A:Around}{E:Value->Shared->Prop}{h:Heap}{g:Array GenState}{d:Drawn}{t:Nat}{os:OsState}
variable{O q:Str}{C N:Addr}{D B:List Value}{b:Bool}{sn:List Str}{sub:List Value}{s:Bool}{l:Option Bool}{G:Option Addr}{H I J L M:Option Value}
end
end L2
namespace L2
open PySem PySem.W PySem.Spec PyProof.Rows
structure XK2(K:Frag)(C:Addr)(ini:Option Value):Prop where
 cls:zmr K C ini=true
 sa:findIn K (.ref C) "__setattr__" = some (some (.builtin "object.__setattr__"))
 ga:findIn K (.ref C) "__getattribute__" = some (some (.builtin "BaseException.__getattribute__"))
 gh:findIn K (.ref C) "__getattr__" = some none
 ob:mroIn K C (.type "object")=some true
 be:mroIn K C (.type "BaseException")=some true
 hd:hasDictIn K C=true
section
variable{b:Program}{w:World}{A:Around}{E:Value->Shared->Prop}{h:Heap}{g:Array GenState}{d:Drawn}{t:Nat}{os:OsState}{K:Frag}{C e l:Addr}{c:Option Value}{f:Str}{v:Value}
end
end L2
namespace L2
open PySem PySem.W PySem.Spec PyProof.Rows
section
variable{b:Program}{w:World}{A:Around}{E:Value->Shared->Prop}{h:Heap}{g:Array GenState}{d:Drawn}{t:Nat}{os:OsState}{K:Frag}{C e D l:Addr}{B:Option Addr}{c:Option Value}{f:Str}{v:Value}{s:Str->Option Value}
end
end L2
namespace L2
open PySem PySem.W PySem.Spec PyProof.Rows
structure XKc(K:Frag)(C:Addr):Prop where
 lk:findIn K (.ref C) "__class__" = some (some (.builtin "object.__class__"))
 gt:specialIn K (.builtin "object.__class__") "__get__" = some (some (.builtin "getset_descriptor.__get__"))
 tk:takesIn K (.builtin "object.__class__")=some true
section
variable{b:Program}{w:World}{A:Around}{E:Value->Shared->Prop}{h:Heap}{g:Array GenState}{d:Drawn}{t:Nat}{os:OsState}{K:Frag}{C l e D:Addr}{s:Option Addr}{c:Option Value}{B:Option Obj}
end
end L2
namespace L2
open PySem PySem.W PySem.Spec PyProof.Rows
structure XOk(K:Frag)(C:Addr)(ini:Option Value):Prop where
 k:XK2 K C ini
 c:XKc K C
 kp:keepIn K (.ref C)=true
 ty:typeIn K (.ref C)=some (.type "type")
 cd:∃cd,clsIn K C=some cd
 ve:mroIn K C (.type "ValueError")=some true
section
variable{X:Cx}{w:CXT}{k:Nat}{f C:Addr}{D:FuncData}{G:List Str}{A:List Value}{g:List V}{H:Sp}{E:XK}{x m:Str}{p s c:Pos}{e o b:Expr}{B:List Expr}{t:TA}{I J:TE}{l:Option Value}
end
end L2
namespace L2
open PySem PySem.W PySem.Spec PyProof.Rows
section
variable{X:Cx}
inductive Y0(K:W.Frag)(x:V)(y:V)(H:Hp)(Q:VK):Prop
 | mk (a b:Addr) (c:List V) (_:x=.ref a) (_:y=.ref b) (_:SqL K H a c) (_:SqL K H b c) (_:c.all xj=true) (_:(∀v∈c,eqV v v=true)) (_:Q (.bl false) H):Y0 K x y H Q
theorem zfw(hu:X.A.units<cLine):OpR X (compareOp .NotEq) (Y0 X.K):=by
 intro C s σ H x y v u Q I Y ry h;obtain⟨a,b,w,rfl,rfl,hx,hy,J,G,q⟩:=h;cases Y;cases ry;obtain⟨g,D,N,z1⟩:=I.list hx;obtain⟨l,E,O,z2⟩:=I.list hy;have l1:=D.length;have l2:=E.length;refine SeqAt.RcNeAt.lists (e:=λ_=>true) N.isList O.isList (by rw[zX,zX];omega) hu (λj h1 h2=>?_) _ _ _ _ {.bl _,H,I,rfl,?_}
 .have c:j<w.length:=by rw[zX] at h1;omega
  obtain⟨w1,e1,T⟩:=D.get (i:=j) (x:=w[j]) (by simp[c])
  obtain⟨w2,e2,U⟩:=E.get (i:=j) (x:=w[j]) (by simp[c])
  have L:g.toArray[j]=w1:=by simpa using (zK.mp e1).2
  have M:l.toArray[j]=w2:=by simpa using (zK.mp e2).2
  have B:=vn.mp J _ (wc c);have z:=JT (A:=X.A.in1) (s:=s) T U B B;rw[G _ (wc c)] at z;rw[L,M];exact z
 .rw[show((List.range g.toArray.size).all λ_=>true)=true from vn.mpr λ_ _=>rfl]
  exact q
end
structure Xs(K:Frag)(mg:Str->Option Value)(x:Str)(C:Addr)(ini:Option Value):Prop where
 ok:XOk K C ini
 gl:mg x=some (.ref C)
structure XsI(P:Program)(w:World)(K:Frag)(mg:Str->Option Value)(base:Heap)(x:Str)(C f:Addr)(k:Nat)(ps:List Str)(sp:Sp):Prop extends Xs K mg x C (some (.ref f)) where
 ex:∃fd oF,FnOk P w K mg base CX0 k f fd ps sp/\K.lookup f=some oF/\oF.cls=.type "function" /\ Binds K fd ps []
section
variable{X:Cx}{x:Str}{k:Nat}{C f:Addr}{g:List Str}{l:Sp}{p b:Pos}{e:Expr}{c:List Expr}{t:TA}
end
end L2
namespace L2
open PySem PySem.Spec PyProof.Rows
theorem Jj:∀{c:List Value} {b:List Int},IntsAre c b->Vals 0#u c
 | _,_,.nil=>.nil
 | _,_,.cons n t r=>.cons ⟨t,rfl⟩ (Jj r)
section
variable{X:Cx}
inductive yN(K:W.Frag)(g:List V)(H:Hp)(Q:VK):Prop
 | mk (a:Addr) (c:List Int) (_:g=[.ref a]) (_:SqL K H a (c.map V.int)) (_:c.length<64) (_:∀(p:Addr) (b:List Int),H p=none->b.Perm c->b.Pairwise (·<= ·)->Q (.ref p) (upd H p (.lst 0#u))):yN K g H Q
theorem jm:xT X (.builtin "sorted") (yN X.K):=by
 intro w s σ H N M Q I r h;obtain⟨a,J,rfl,hx,G,q⟩:=h;obtain⟨u,rfl,E⟩:=Vals.one r;cases(show u=Value.ref a from E)
 obtain⟨c,A,D,hz⟩:=I.list hx;have g:=A.length;rw[zm] at g;refine sorted_ints D.isList (JM A) () λb l a1 a2 a3=>?_
 obtain⟨e,B⟩:=sortedAll_at s.heap c b;have C:H 0#C=none:=I.hok.fresh (QB _);refine{.ref 0#C,_,I.laid (a:=s.heap.objs.size+1) (o:=.lst (l.map V.int)) (t':=s.toks) (λ_ _=>sortedAll_old) (QB _) {?_,b.toList,e,Jj a1,?_},rfl,q _ l C a2 a3}
 .rw[zm,a2.length_eq,sizeLine_eq];omega
 .rw[B]
end
section
variable{g:Program}{w:World}{κ:Type}[DecidableEq κ]{c:PySem.KeyKind g w κ}{A:Around}{E:Value->Shared->Prop}{s:Shared}
theorem zeQ{d:Addr}{B:List (κ×Value)}{k:κ}{T dflt:Value}{Q:Value->Shared->Prop}(C:c.is k T=true)(hm:s.heap.DictOf c d B)(ag:B.length<=sizeLine)
  (I:∀v,valueAt B k=some v->Q v { s with toks:=s.toks+1 })
  (N:valueAt B k=none->∀h',h'.DictOf c d (stored B k dflt)->Heap.SameBut d s.heap h'->Q dflt { s with heap:=h',toks:=s.toks+1 }) :
  wpAny (model g w) A (dictSetDefault d T dflt) Q E s:=by
 obtain⟨o,D,ep,O,hc,hd,hk,hp,hn⟩:=id hm;obtain⟨o',ae,ac,H,-,L,-,hf⟩:=hm.mapOf;rw[O] at H;injection H with H;subst H;rw[hd] at L;injection L with aa af;subst aa;have ab:D.size<=sizeLine:=by
  have e1:=hp.length;have e2:D.toList.length=D.size:=1e3
  omega
 have Y:(D.findIdx? λen=>c.is k en.key)=B.findIdx? λp=>decide (p.1=k):=by
  obtain⟨l⟩:=D;rw[<- hp.findIdx k];simp
 unfold dictSetDefault;refine wv (zk (c.pyHash C (zk (wpAny_dictFind_of (s:={ s with toks:=s.toks+1 }) C O hd hk ?_))))
 cases U:D.findIdx? λen=>c.is k en.key with
 | some i=>
  have M:i<D.size:=(Array.findIdx?_eq_some_iff_findIdx_eq.mp U).1
  have G:valueAt B k=(D[i]?).map (·.val):=by rw[<- hf k,findBy_of_findIdx?,U]
  rw[Zk M] at G;refine zk (wpAny_dictEntries (s:={ s with toks:=s.toks+1 }) O hd ?_)
  rw[Zk M];exact zk (wb (zx (I _ G)))
 | none=>
  have fresh:k∉B.map (·.1):=not_mem_of_findIdx_none (Y▸U)
  have J:¬(B.any λkv=>decide (kv.1=k))=true:=λz=>by
   obtain⟨kv,h1,h2⟩:=vN.mp z;exact fresh (zN.mpr {kv,h1,qP h2})
  have G:valueAt B k=none:=by rw[<- hf k,findBy_of_findIdx?,U]
  have a0:stored B k dflt=B++[(k,dflt)]:=by rw[stored,zw J]
  refine zk (wb (zk (wpAny_updateDictKeys (s:={ s with toks:=s.toks+1 }) (hz:=ab) O hd (zx (N G _ ?_ (ZC ..))))))
  rw[a0];refine{_,_,ep+1,QV _ O (Obj.isFreed_of_dict (Obj.data_mapDictKeys hd _)),hc.mapDictKeys _,Obj.data_mapDictKeys hd _,hk.push C _,?_,?_}
  .have z:=hp.append C (c.hash k) dflt
   obtain⟨l⟩:=D;simpa using z
  .rw[zL,wf]
   refine{hn,1e3,λa ha b hb z=>fresh ?_}
   rw[show List.map (·.1) [(k,dflt)]=[k] from rfl,qm] at hb
   rw[<- hb,<- z];exact ha
end
section
variable{b:Program}{w:World}{κ:Type}[DecidableEq κ]{knd:PySem.KeyKind b w κ}
theorem zfM{d:Addr}{k:κ}{g x:Value}(B:knd.is k g=true)(hs:(d==sysModules)=false) :
  MeetsIn b w (Builtin.«dict.setdefault» {[.ref d,g,x],[]}) (λ_ R s=>∃c,s.heap.DictOf knd d c/\c.length<=sizeLine/\(∀v,valueAt c k=some v->R (.ok (.ret v)) { s with toks:=s.toks+1 }) /\
   (valueAt c k=none->∀l,l.DictOf knd d (stored c k x)->Heap.SameBut d s.heap l->R (.ok (.ret x)) { s with heap:=l,toks:=s.toks+1 })):=
 .of_wp λA R s ⟨c,G,hz,h1,h2⟩=>by
  delta Builtin.«dict.setdefault» Builtin.Dict.keyAndDefault;refine zk (zk (wpAny_notOrdered_dict G.typeIs (zx (a:=(d,g,some x)) ?_)))
  have E:¬(d==sysModules)=true:=by rw[hs];exact qS
  refine(show wpAny _ _ (if(d==sysModules)=true then _ else(dictSetDefault d g x >>= _)) _ _ _ from ?_)
  rw[zw E];exact zk (zeQ B G hz (λv hv=>zx {v,rfl,h1 v hv}) λH l C D=>zx {x,rfl,h2 H l C D})
end
section
variable{X:Cx}{g ty w:TE}{o e f:Expr}{b c:Pos}
def zmC(g ty w:TE):TE:=λσ H Q=>g σ H λx A=>∃a,x=.ref a/\IsD A a/\ty σ A λy B=>w σ B λz s=>∃l k,s a=some (.dK l)/\y=kV k/\l.length<sizeLine /\
 (∀v,jP l k=some v->Q v s)/\(jP l k=none->Q z (upd s a (.dK (xU l k z))))
theorem zjt(ho:PE X o g)(he:PE X e ty)(hf:PE X f w)(m:M2 X o "setdefault" b e f c):PE X (.Call (.Attribute o "setdefault" b) [e,f] [] c) (zmC g ty w):=by
 intro B s σ H Q I h;refine wpAny_Call_method m.base m.few m.line zba zgs PySem.F.type_dict_setdefault (thn (ho B s σ H _ I h) λu s1 ⟨x,Y,M,rx,a,ex,d,q1⟩=>?_)
 subst ex;obtain rfl:u=Value.ref a:=rx;obtain⟨t1,t2,_⟩:=zaA M d;refine{t1,t2,?_}
 rw[m.trees];refine Wu rfl (za3 (QH (thn (he B s1 σ Y _ M q1) λiv s2 ⟨y,H2,I2,ry,q2⟩=>
  QH (thn (hf B s2 σ H2 _ I2 q2) λfv s3 ⟨z,H3,J,T,A,k,O,ey,l,g1,g2⟩=>Wh ?_))))
 subst ey;obtain⟨zz,hd,U,C,N⟩:=zf4 J.hok O;have hz:U.length<=sizeLine:=by rw[<- C.length];exact zz
 refine call_meetsIn zgs N.typeIs PySem.F.entry_dict_setdefault (PySem.F.args_dict_setdefault_3 _ _ _) (zfM (knd:=qo X.prog X.w) (yA ry) hd) {U,N,hz,λv hv=>?_,λhn h' G hs=>?_}
 .have D:=C.val k
  rw[hv] at D;cases E:jP A k with
  | none=>rw[E] at D;exact D.elim
  | some L=>
   rw[E] at D;exact{L,H3,J.tok _,D,g1 L E}
 .have D:=C.val k
  rw[hn] at D;have E:jP A k=none:=by
   cases E:jP A k with
   | none=>rfl
   | some L=>rw[E] at D;exact D.elim
  have hl:(xU A k z).length<=sizeLine:=by have:=vF A k z;omega
  have ee:∃q,h'.get? a=some q:=let ⟨q,_,_,hq,_⟩:=G;⟨q,hq⟩
  exact{z,_,Jh J (by rw[O];exact True.intro) hs ee (VY hl hd (C.put k T) G),T,g2 E}
end
theorem ziM{P:Program}{w:World}{k:Key}{u:Value}(h:(qo P w).is k u=true):RelV (kV k) u:=by
 rw[zas] at h;rcases jI h with ⟨i,t,rfl,rfl⟩ | ⟨x,t,rfl,rfl⟩
 .exact⟨t,rfl⟩
 .exact⟨t,rfl⟩
theorem KV.get:∀{b:List (Key×V)} {c:List (Key×Value)} {j:Nat} {q:Key×Value},KV b c->c[j]? =some q->∃p,b[j]? =some p/\p.1=q.1/\RelV p.2 q.2
 | _,_,j,_,.nil,e=>by simp at e
 | _,_,0,_,.cons h _,e=>by simp at e;subst e;exact{_,rfl,h}
 | _,_,j+1,_,.cons _ t,e=>by
  obtain⟨p,e1,r⟩:=KV.get (j:=j) t (by simpa using e)
  exact{p,by simpa using e1,r}
theorem zbn:∀{c:List V} {b:List Value},c.length=b.length->(∀(j:Nat) u,b[j]? =some u->∃x,c[j]? =some x/\RelV x u)->Vals c b
 | [],[],_,_=>.nil
 | [],_::_,h,_=>by simp at h
 | _::_,[],h,_=>by simp at h
 | x::c,u::b,h,f=>by
  refine .cons ?_ (zbn (by simpa using h) λj v e=>?_)
  .obtain⟨y,e1,r⟩:=f 0 u rfl
   cases e1;exact r
  .obtain⟨y,e1,r⟩:=f (j+1) v (by simpa using e)
   exact{y,by simpa using e1,r}
section
variable{X:Cx}
end
section
variable{X:Cx}{g ty:TE}{o e:Expr}{b c:Pos}
end
section
variable{X:Cx}
end
def zd3(d:Addr)(o:Obj)(b:List (Key×V)):It:=
 {λi H=>H d=some (.frz o (.dK b))/\i<b.length,λi H x c=>c=H/\∃k v,b[i]? =some (k,v)/\x=kV k,λi H=>H d=some (.frz o (.dK b))/\b.length<=i}
theorem X9{P:Program}{w:World}:∀{c:List DictEntry} {g:List (Key×Value)},Pairs (qo P w) c g->∀{i:Nat} {q:Key×Value},g[i]? =some q->∃b,c[i]? =some b/\(qo P w).is q.1 b.key=true
 | _,_,.nil,_,_,h=>by simp at h
 | _,_,.cons h1 _ t,0,_,h=>by simp at h;subst h;exact{_,rfl,h1}
 | _,_,.cons _ _ t,i+1,_,h=>by
  obtain⟨b,e,r⟩:=X9 t (i:=i) (by simpa using h)
  exact{b,by simpa using e,r}
theorem KV.back:∀{b:List (Key×V)} {c:List (Key×Value)} {j:Nat} {p:Key×V},KV b c->b[j]? =some p->∃q,c[j]? =some q/\p.1=q.1
 | _,_,j,_,.nil,e=>by simp at e
 | _,_,0,_,.cons h _,e=>by simp at e;subst e;exact{_,rfl,h.1}
 | _,_,j+1,_,.cons _ t,e=>by
  obtain⟨q,e1,r⟩:=KV.back (j:=j) t (by simpa using e)
  exact{q,by simpa using e1,r}
theorem YK{P:Program}{w:World}{H:Hp}{h:Heap}{d:Addr}{o:Obj}{b:List (Key×V)}{c:Array DictEntry}{s:Nat}(ok:HOk P w H h)(e:H d=some (.frz o (.dK b)))(C:o.data=.dict c s):RawD h d c s/\c.size=b.length /\
  ∀(i:Nat) (k:Key) (v:V),b[i]? =some (k,v)->∃g:DictEntry,c[i]? =some g/\RelV (kV k) g.key:=by
 obtain⟨e1,z,y,T,r,Q,I,G,h1,h2,A,J,B,L⟩:=(show ObjOk P w H h d (.frz o (.dK b)) from ok d _ e)
 rw[e1] at h1;cases h1;rw[C] at A;cases A;have M:=B.length;have N:=r.length;have O:c.toList.length=c.size:=xR;refine{⟨o,e1,h2,C⟩,(),λi k v hk=>?_}
 obtain⟨q,e2,l⟩:=KV.back r hk;obtain⟨g,D,E⟩:=X9 B e2;have l:k=q.1:=l;exact{g,by rw[<- Qa];exact D,by rw[l];exact ziM E}
theorem Jo{P:Program}{w:World}{K:W.Frag}{tg:Expr}(d l:Addr)(o:Obj)(A:List (Key×V))(es:Array DictEntry)(ep:Nat)(he:o.data=.dict es ep):ZF P w K tg (zd3 d o A) [l] l (λi h=>h.IsKeyIter l d i es.size ep) where
 mem:=1e3
 obj:=λi h st b hb=>by
  have e:b=l:=by simpa using hb
  subst e;obtain⟨o,e,c,d⟩:=st;exact{o,e,λv z=>by rw[d] at z;cases z}
 keep:=λi h C st k=>st.at λo e=>k l 1e3 o e
 item:=by
  intro X Q U O hc i g s σ H E I D st hg;subst Q U O;obtain⟨hd,hi⟩:=hg;obtain⟨Y,sz,all⟩:=YK I.hok hd he;obtain⟨⟨k,v⟩,hx⟩:∃p,A[i]? =some p:={A[i],by simp[hi]}
  obtain⟨en,T,ek⟩:=all i k v hx;obtain⟨G,J,f2,L,M,N⟩:=D l 1e3
  refine zfa st Y T λC B sb=>?_
  have I1:Inv X g σ H { s with heap:=C }:=I.turned (t':=s.toks) (λb o hb e=>(sb.2 b hb).trans e) G J L M N
  obtain⟨o',e',c',d'⟩:=id B;exact{_,rfl,zcu (s:={ s with heap:=C }) e' c' d' 1e1 {kV k,H,I1,ek,⟨rfl,k,v,hx,rfl⟩,B,λb hb=>(D b hb).1}}
 done:=by
  intro X Q U O hc i g s σ H E I D st hg;subst Q U O;obtain⟨hd,hi⟩:=hg;obtain⟨Y,sz,_⟩:=YK I.hok hd he;obtain⟨G,J,f2,L,M,N⟩:=D l 1e3
  exact zgM (I.ok.hd hc) st Y () λC eb=>{rfl,I.turned (t':=s.toks) (λb o hb e=>eb b o hb e) G J L M N}
 self:=λ_ _ _ _ _ st h=>wpAny_pyIter_keyiter st h
section
variable{X:Cx}{c:Expr}
def zjY(l:TE):TI:=λσ H R=>l σ H λx g=>∃d b,x=.ref d/\g d=some (.dK b)/\∀o,R (zd3 d o b) (upd g d (.frz o (.dK b)))
theorem zfk{l:Expr}{G:TE}(O:PE X l G):PI X c l (zjY G):=by
 intro g s σ H R I h;refine thn (O g s σ H _ I h) λv s1 ⟨x,E,A,T,Q⟩=>?_
 obtain⟨d,w,e,hd,q⟩:=Q;subst e;cases T;obtain⟨z,y,U,r,o,C,B,h1,h2,D,L,M,N⟩:=(show ObjOk X.prog X.w E s1.heap d (.dK w) from A.hok d _ hd)
 refine Yk y ⟨o,h1,h2,D⟩ ?_
 have J:Inv X g σ (upd E d (.frz o (.dK w))) { s1 with heap:=s1.heap.push { cls:=.type "dict_keyiterator",data:=.fields #[.ref d,.int 0 0,.int C.size 0,.int B 0] },toks:=s1.toks }:=by
  refine A.write (x:=d) (e:=d) (by rw[hd];exact True.intro) (.inl rfl) (λb u _ e=>qX _ e) {o,qX _ h1} ?_
  exact{qX _ h1,z,y,U,r,o,C,B,qX _ h1,h2,D,L,M,N}
 refine{s1.heap.objs.size,[s1.heap.objs.size],_,_,_,rfl,J,Jo d _ o w C B D,{_,qQ _ rfl,rfl,rfl},λb hb=>?_,q o}
 have e:b=s1.heap.objs.size:=by simpa using hb
 subst e;refine A.fpOk (zF _) ?_
 rw[zp (qD (zj hd (A.hok.fresh (zF _))))];exact A.hok.fresh (zF _)
end
theorem YG{d:Addr}{o:Obj}{kvs:List (Key×V)}{n:Nat}{g:TG}{L:TT}{J:TE}{B:St}{R:List V->Hp->Prop}{H:Hp}(Pv:Nat->List V->Hp->Prop)(h0:Pv 0 [] H)
  (h1:∀i c H,Pv i c H->H d=some (.frz o (.dK kvs)))
  (hs:∀i k v c H,kvs[i]? =some (k,v)->Pv i c H->g (kV k) B H λs E=>s.drop n=B.drop n/\L s E λb w=>if b=true then J s w λv G=>c.length<sizeLine/\Pv (i+1) (c++[v]) G else Pv (i+1) c w)
  (hd:∀c H,Pv kvs.length c H->c.length<=sizeLine/\R c H) :
  ∃W:Nat->Nat->List V->Hp->Prop,(∃m,W 0 m [] H)/\∀i m c l,W i m c l ->
   ((zd3 d o kvs).stop i l/\c.length<=sizeLine/\R c l) \/
   ((zd3 d o kvs).go i l/\∃M:List V->Hp->Prop,(∀c C,M c C->∃I,I<m/\W (i+1) I c C)/\∀x D,(zd3 d o kvs).yld i l x D->g x B D λs E=>s.drop n=B.drop n/\L s E λb w=>
    if b=true then J s w λy G=>c.length<sizeLine/\M (c++[y]) G else M c w):=by
 refine{λi m c l=>m=kvs.length-i/\i<=kvs.length/\Pv i c l,{_,rfl,jv _,h0},?_}
 rintro i m c l ⟨rfl,U,p⟩;by_cases A:i<kvs.length
 .refine .inr {{h1 i c l p,A},Pv (i+1),λT C N=>{_,(),rfl,A,N},λx D y=>?_}
  obtain⟨e,k,v,hk,rfl⟩:=y;subst e;exact hs i k v c _ hk p
 .have e:i=kvs.length:=()
  subst e;obtain⟨O,Q⟩:=hd c l p;exact .inl {{h1 _ c l p,zF _},O,Q}
section
variable{X:Cx}{c:Expr}
def zmJ(K:W.Frag)(l:TE):TI:=λσ H R=>l σ H λx b=>∃a,x=.ref a/\(((∃g,SqL K b a g)/\R (Itl K a) b)\/((∃g,SqT K b a g)/\R (Itt K a) b))
theorem zfi{l:Expr}{D:TE}(E:PE X l D):PI X c l (zmJ X.K D):=by
 intro A s σ H R I h;refine thn (E A s σ H _ I h) λv s1 ⟨x,B,g,J,G⟩=>?_
 obtain⟨a,e,q⟩:=G;subst e;cases J;have C:∀b∈[s1.heap.objs.size],_:=λb hb=>by
  have e:b=s1.heap.objs.size:=by simpa using hb
  subst e;exact g.fpOk (zF _) (g.hok.fresh (zF _))
 rcases q with ⟨⟨N,hq⟩,q⟩ | ⟨⟨N,hq⟩,q⟩
 .obtain⟨w,L,p,hz⟩:=g.list hq
  refine wpAny_pyIter_list p.isList {s1.heap.objs.size,[s1.heap.objs.size],_,_,B,rfl,g.kept (t':=s1.toks) λb o e=>qX _ e,XU a _,{_,qQ _ rfl,rfl,rfl},?_,q}
  exact C
 .obtain⟨w,L,p,hz⟩:=g.tuple hq
  refine wpAny_pyIter_tuple (show s1.heap.IsTuple a w.toArray from p) {s1.heap.objs.size,[s1.heap.objs.size],_,_,B,rfl,g.kept (t':=s1.toks) λb o e=>qX _ e,Jn a _,{_,qQ _ rfl,rfl,rfl},?_,q}
  exact C
end
open Sem (wp)
theorem VL:typeLookup (.type "list") "keys" = pure none:=by rw[typeLookup_type,builtinLookup_eq_fast];kernel_rfl
theorem VM:typeLookup (.type "list") "__getattr__" = pure none:=by rw[typeLookup_type,builtinLookup_eq_fast];kernel_rfl
theorem Qi:isSubtype (.type "AttributeError") (.type "AttributeError")=pure true:=by rw[isSubtype_type];kernel_rfl
section
variable{c:Program}{w:World}{A:Around}{E:Value->Shared->Prop}{s:Shared}
theorem zaf{α:Type}{M:Model}{o:Value}{l g:Str}{Q:α->Shared->Prop}(D:A.handled=none)(G:g.length<=sizeLine)
  (hq:∀B H e,(∀b p,s.heap.get? b=some p->B.get? b=some p)->(∃C,B.get? e=some C/\C.cls=.type "AttributeError")->E (.ref e) { s with heap:=B,toks:=H }) :
  wpAny M A (raiseAttrError o l g:Sem α) Q E s:=by
 unfold raiseAttrError newExc newTuple;refine zk (wpAny_mkStr (zk (zk (wz (zk (m:=firstArgMember _ _) (QA (a:=Value.none) (by simp only[firstArgMember];rfl) (wz ?_)))))) G)
 refine zk (wpAny_mkText (zk (show wpAny _ _ (noteAttr _ _ _) _ _ _ from ?_)))
 unfold noteAttr;dsimp only;unfold lacksNameAndObj;refine zk (zk (yL (T:= "AttributeError") {_,qQ _ rfl,rfl} Qi ?_))
 refine zk (wpAny_load (qQ _ rfl) ?_)
 refine zx ?_
 refine zk (wb (zk (wpAny_typeOf (T:= "AttributeError") {_,qQ _ rfl,rfl} ?_)))
 refine wpAny_layMembers (qQ _ rfl) rfl ?_
 unfold raiseNew;refine zk (wpAny_handled ?_);rw[D];refine zk (zx (wpAny_throw ?_))
 refine hq _ _ _ (λb p e=>?_) {_,QV _ (qQ _ rfl) (za6 (Xo rfl _)),zaW _ _}
 rw[QL _ _ (vL (xJ (zU e) 1e3))]
 exact qX _ (qX _ e)
end
section
variable{c:Program}{w:World}{A:Around}{E:Value->Shared->Prop}{h:Heap}{g:Array GenState}{d:Drawn}{t:Nat}{os:OsState}{a:Addr}{n:Nat}{l:Array Value}
theorem Q6{G:Tok}{Q:Fin->Shared->Prop}(C:A.handled=none)(hx:h.get? a=some { cls:=.type "list",data:=.seq l n })
  (hq:∀s D e,(∀b p,h.get? b=some p->s.get? b=some p)->(∃B,s.get? e=some B/\B.cls=.type "AttributeError")->E (.ref e) ⟨s,g,d,D,os⟩) :
  wpAny (model c w) A (Builtin.«object.__getattribute__» {[.ref a,.str "keys" G],[]}) Q E ⟨h,g,d,t,os⟩:=by
 have I:(⟨h,g,d,t,os⟩:Shared).TypeIs (.ref a) "list" :={_,hx,rfl};have H:=VL;repeat(any_goals (first| assumption | wp_step))
 refine zaf C ?_ hq
 rw[sizeLine_eq];decide +kernel
theorem JH{G:Tok}{R:Result->Shared->Prop}(C:A.handled=none)(hx:h.get? a=some { cls:=.type "list",data:=.seq l n })
  (hq:∀s D e,(∀b p,h.get? b=some p->s.get? b=some p)->(∃B,s.get? e=some B/\B.cls=.type "AttributeError")->R (.error (.ref e)) ⟨s,g,d,D,os⟩) :
  codeAny (model c w) A (.call (.builtin "list.__getattribute__") {[.ref a,.str "keys" G],[]}) R ⟨h,g,d,t,os⟩:=
 codeAny_call_builtin Wy.plain F.entry_list_ga (Wy.check _ _ _ _ _ _ _ _ (show(⟨h,g,d,t,os⟩:Shared).TypeIs (.ref a) "list" from {_,hx,rfl}) (F.args_list_getattribute_2 _ _) (Q6 C hx hq))
theorem VN{H:Tok}{Q:Value->Shared->Prop}(G:A.handled=none)(hx:h.get? a=some { cls:=.type "list",data:=.seq l n })
  (hq:∀s C e,(∀b p,h.get? b=some p->s.get? b=some p)->(∃B,s.get? e=some B/\B.cls=.type "AttributeError")->E (.ref e) ⟨s,g,d,C,os⟩):wpAny (model c w) A (getAttrBy (.ref a) (.str "keys" H) false) Q E ⟨h,g,d,t,os⟩:=by
 have L:(⟨h,g,d,t,os⟩:Shared).TypeIs (.ref a) "list" :={_,hx,rfl};have I:=Wy.lookup;have J:=Wy.bind (.ref a);repeat(any_goals (first| assumption | wp_step))
 refine JH G hx λs C e k ⟨B,D,hc⟩=>?_
 dsimp only;unfold getattributeRaised;refine zk (yL (T:= "AttributeError") {_,D,hc} Qi ?_)
 rw[zC rfl];unfold hookBehind;refine zk ?_
 rw[zw 1e1]
 refine QA VM ?_
 unfold hookOrError attributeErrorLeaves;dsimp only;rw[zC (show(!false)=true from rfl)]
 first
  | exact wpAny_throw (hq s C e k ⟨B,D,hc⟩)
  | exact zk (wpAny_throw (hq s C e k ⟨B,D,hc⟩))
theorem JI{Q:Option Value->Shared->Prop}(C:A.handled=none)(hx:h.get? a=some { cls:=.type "list",data:=.seq l n })
  (hq:∀s B,(∀b p,h.get? b=some p->s.get? b=some p)->Q none ⟨s,g,d,B,os⟩):wpAny (model c w) A (getAttr? (.ref a) "keys") Q E ⟨h,g,d,t,os⟩:=by
 unfold getAttr? getAttrBy?;refine zk (wpAny_mkText (zk (Zu (VN C hx λs B e k ⟨G,D,hc⟩=>?_))))
 dsimp only;refine zk (yL (T:= "AttributeError") {_,D,hc} Qi ?_)
 rw[zC rfl];exact zx (hq s B k)
end
end L2
namespace L2
open PySem PySem.Spec PyProof.Rows
theorem Zc:entryFor table "dict.update.loop" = some Builtin.«dict.update.loop»:=entryFor_of_tree (by kernel_rfl)
theorem vC:plainId "dict.update.loop" = true:=by decide +kernel
theorem YA{K:Type}[DecidableEq K](b more:List (K×Value))(i:Nat)(c:K×Value)(h:more[i]? =some c):merged (stored b c.1 c.2) (more.drop (i+1))=merged b (more.drop i):=by
 obtain⟨h1,h2⟩:=zK.mp h;rw[List.drop_eq_getElem_cons h1,h2];rfl
section
variable{c:Program}{w:World}{K:Type}[DecidableEq K]{knd:KeyKind c w K}{A:Around}{R:Result->Shared->Prop}{it l D:Addr}{items:Array Value}{pairs:List (K×Value)}{res:Value}
theorem zhL(hh:A.handled=none)(O:l≠it)(Q:l≠D)(G:it≠D)(a0:pairs.length=items.size) :
  ∀(m:Nat) (s:Shared) (i:Nat) (g:List (K×Value)),items.size-i=m->i<=items.size->s.heap.IsListIter it l i->s.heap.IsList l items->s.heap.DictOf knd D g->g.length+m<=sizeLine ->
   (∀(j:Nat) (u:Value),items[j]? =some u->∃(T:Addr) (k:K) (B v:Value),u=.ref T/\T≠it/\T≠D/\IsTup s.heap T #[B,v]/\knd.is k B=true/\pairs[j]? =some (k,v)) ->
   (∀E tk,E.DictOf knd D (merged g (pairs.drop i))->(∀b o,b≠it->b≠D->s.heap.get? b=some o->E.get? b=some o)->R (.ok (.ret res)) { s with heap:=E,toks:=tk }) ->
   codeAny (model c w) A (.builtin "dict.update.loop" {[.ref D,.ref it,.int i 0,res],[]}) R s:=by
 intro m;induction m with
 | zero=>
  intro s i g hm hi Y L M hz U q;have H:items[i]? =none:=by simp;omega
  refine codeAny_builtin Zc ?_
  rw[Xr vC _];show wpAny _ A.in1 (pyNext (.ref it) >>= _) _ _ s;refine zk (wpAny_pyNext_list_end hh Y L H λE hx=>?_)
  show wpAny _ _ (Builtin.Dict.addKeywords D [] >>= _) _ _ _;refine zk (zx (zx ?_))
  have e0:merged g (pairs.drop i)=g:=by rw[List.drop_eq_nil_of_le ()];rfl
  have:=q E s.toks (by rw[e0];exact M.extBut hx (qD G)) (λb o hb _ e=>?_)
  .exact this
  .exact hx b o hb e
 | succ m ih=>
  intro s i g hm hi Y L M hz U q;have I:i<items.size:=()
  obtain⟨u,hu⟩:∃u,items[i]? =some u:={_,Zk I};obtain⟨T,k,B,v,rfl,nT,nD,tT,kk,ep⟩:=U i u hu;refine codeAny_builtin Zc ?_
  rw[Xr vC _];show wpAny _ A.in1 (pyNext (.ref it) >>= _) _ _ s;refine zk (wpAny_pyNext_list_item Y L hu λh1 i1 s1=>?_)
  dsimp only;refine zk (wv (zk ?_))
  obtain⟨oT,eT,cT,nn,dT⟩:=tT;have k1:∀b o,b≠it->s.heap.get? b=some o->h1.get? b=some o:=λb o hb e=>(s1.2 b hb).trans e
  have N:({ s with heap:=h1 }:Shared).TypeIs (.ref T) "tuple" :={_,k1 _ _ nT eT,cT};show wpAny _ _ (tryCatch (Builtin.Dict.pairItems (.ref T)) _) _ _ _;refine QC ?_
  unfold Builtin.Dict.pairItems;refine zk (wpAny_typeOf N ?_)
  rw[zC (show(Value.type "tuple" == Value.type "list" || Value.type "tuple" == Value.type "tuple")=true by decide)]
  refine zk (ye (k1 _ _ nT eT) dT (zx ?_))
  show wpAny _ _ (holding [B,v] (dictSet D B v)) _ _ _;refine wv (wpAny_dictSet_pairs kk (M.sameBut s1 (qD G)) (hsz:=by omega) λh2 d2 s2=>?_)
  refine zx {plainId_quiet vC _,?_}
  have k2:∀b o,b≠it->b≠D->s.heap.get? b=some o->h2.get? b=some o:=λb o hb C e=>(s2.2 b C).trans (k1 b o hb e)
  have lst:(stored g k v).length<=g.length+1:=stored_length_le g k v;have:=ih { s with heap:=h2,toks:=s.toks+1 } (i+1) (stored g k v) () I (i1.at λo e=>(s2.2 it G).trans e) (L.at λo e=>k2 l o O Q e) d2 ()
   (λj u hj=>by
    obtain⟨T',k',J,v',z1,z2,z3,z4,z5,z6⟩:=U j u hj;obtain⟨o',e',r'⟩:=z4;exact{T',k',J,v',z1,z2,z3,{o',k2 _ _ z2 z3 e',r'},z5,z6})
   (λE tk d' kp=>q E tk (by rw[<- YA g pairs i (k,v) ep];exact d') λb o hb C e=>kp b o hb C (k2 b o hb C e))
  exact this
end
def zj5:Obj:={ cls:=.type "dict",data:=.dict #[] }
theorem XF:(Value.type "list" != Value.type "dict")=true:=1e1
section
variable{c:Program}{w:World}{K:Type}[DecidableEq K]{knd:KeyKind c w K}{A:Around}{E:Value->Shared->Prop}{s:Shared}
theorem Q9{l:Addr}{items:Array Value}{n:Nat}{pairs:List (K×Value)}{Q:Value->Shared->Prop}(hh:A.handled=none)(I:s.heap.get? l=some { cls:=.type "list",data:=.seq items n })(H:pairs.length=items.size)(M:items.size<=sizeLine)
  (ht:∀(j:Nat) (u:Value),items[j]? =some u->∃(T:Addr) (k:K) (g v:Value),u=.ref T/\IsTup s.heap T #[g,v]/\knd.is k g=true/\pairs[j]? =some (k,v))
  (h:∀G Y,G.DictOf knd s.heap.objs.size (merged [] pairs)->(∀b o,s.heap.get? b=some o->G.get? b=some o)->Q (.ref s.heap.objs.size) { s with heap:=G,toks:=Y }) :
  wpAny (model c w) A (call (.type "dict") [.ref l]) Q E s:=by
 have L:(s.heap.push zj5).DictOf knd s.heap.objs.size []:=.new s.heap;have B:=qX zj5 I;refine callType_codes (Q₁:=λu s1=>u=.ref s.heap.objs.size/\s1={ s with heap:=s.heap.push zj5 }) F.kt_called_dict (F.kt_typeCall_dict_1 _) F.entry_dict_init (kt_code_dict_new _ ⟨rfl,rfl⟩) λu s1 e=>?_
 obtain⟨eu,es⟩:=e;subst eu es;refine{L.typeIs,F.args_dict_init_2 _ _,?_}
 show wpAny _ _ (Builtin.Dict.selfAndRest _ _ >>= λx=>Builtin.Dict.updateCommon _ _ x.1 x.2 _) _ _ _
 refine zk (zk (wpAny_notOrdered_dict L.typeIs ?_))
 refine zx (show wpAny _ _ (Builtin.Dict.updateFrom "dict.__init__" s.heap.objs.size (.ref l) [] .none) _ _ _ from ?_)
 refine zk (wpAny_typeOf (T:= "list") {_,B,rfl} ?_)
 rw[zC XF];refine zk (JI hh B λh1 t1 J=>?_)
 rw[zC (show(none:Option Value).isNone=true from rfl)]
 refine zk (wb (zk (wpAny_pyIter_list {_,J _ _ B,rfl,n,rfl} ?_)))
 have dD:=L.keep J;have U:=zU I;obtain⟨oD,_,_,eD,_⟩:=id dD;have O:=zU eD;have N:∀b o,s.heap.get? b=some o->(h1.push { cls:=.type "list_iterator",data:=.fields #[.ref l,.int 0 0] }).get? b=some o:=λb o e=>qX _ (J _ _ (qX _ e))
 have C:∀b o,s.heap.get? b=some o->b<h1.objs.size:=λb o e=>zU (J _ _ (qX _ e))
 refine zx {plainId_quiet vC _,?_}
 refine zhL (knd:=knd) (s:={h1.push { cls:=.type "list_iterator",data:=.fields #[.ref l,.int 0 0] },s.gens,s.drawn,t1,s.os}) (l:=l) (it:=h1.objs.size) (D:=s.heap.objs.size) (items:=items) (pairs:=pairs) (A:=A.in1) (res:=.none) hh (qV (C _ _ I)) (qV U) (vL O) H items.size 0 [] rfl (jv _) {_,qQ _ rfl,rfl,rfl} {_,N _ _ I,rfl,n,rfl} (dD.push _) (by simpa using M) (λj u hj=>?_) (λG Y d' kp=>?_)
 .obtain⟨T,k,g,v,rfl,⟨o,e,r⟩,z,y⟩:=ht j u hj
  exact{T,k,g,v,rfl,qV (C _ _ e),qV (zU e),{o,N _ _ e,r},z,y}
 .exact{rfl,h G Y (by simpa using d') λb o e=>kp b o (qV (C _ _ e)) (qV (zU e)) (N _ _ e)}
end
def PrsL(H:Hp)(c:List V)(b:List (Key×V)):Prop:=c.length=b.length/\∀(j:Nat) (x:V),c[j]? =some x->∃(T:Addr) (k:Key) (v:V),x=.ref T/\H T=some (.tup [kV k,v])/\b[j]? =some (k,v)
theorem PrsL.nil{H:Hp}:PrsL H [] []:={rfl,λj x e=>by simp at e}
theorem PrsL.same{H l:Hp}{w:List V}{g:List (Key×V)}(h:PrsL H w g)(s:Same H l):PrsL l w g:={h.1,λj x e=>let ⟨T,k,v,a,b,c⟩:=h.2 j x e;{T,k,v,a,s _ _ b,c}}
theorem PrsL.snoc{H:Hp}{w:List V}{s:List (Key×V)}{T:Addr}{k:Key}{v:V}(h:PrsL H w s)(e:H T=some (.tup [kV k,v])):PrsL H (w++[.ref T]) (s++[(k,v)]):=by
 refine{by rw[qh,qh,h.1];rfl,λj x g=>?_}
 have l:=h.1;by_cases B:j<w.length
 .rw[Zl B] at g
  obtain⟨A,C,D,a,b,c⟩:=h.2 j x g;exact{A,C,D,a,b,by rw[Zl ()];exact c}
 .rw[Zn ()] at g
  have:j=w.length:=by
   have:=(zK.mp g).1;simp at this;omega
  subst this;simp at g;subst g;exact{T,k,v,rfl,e,by rw[l,Zn (zF _)];simp}
theorem ziL:∀{b:List (Key×V)} {c:List (Key×Value)},b.length=c.length->(∀(j:Nat) p,c[j]? =some p->∃q,b[j]? =some q/\q.1=p.1/\RelV q.2 p.2)->KV b c
 | [],[],_,_=>.nil
 | [],_::_,h,_=>by simp at h
 | _::_,[],h,_=>by simp at h
 | x::l,u::g,h,f=>by
  refine .cons ?_ (ziL (by simpa using h) λj v e=>?_)
  .obtain⟨y,e1,r⟩:=f 0 u rfl
   cases e1;exact r
  .obtain⟨y,e1,r⟩:=f (j+1) v (by simpa using e)
   exact{y,by simpa using e1,r}
theorem QU{α β:Type}:∀(P:Nat->α->β->Prop) (l:List α),(∀j u,l[j]? =some u->∃b,P j u b)->∃g:List β,g.length=l.length/\∀j u,l[j]? =some u->∃b,g[j]? =some b/\P j u b
 | _,[],_=>{[],rfl,λj u e=>by simp at e}
 | P,x::l,f=>by
  obtain⟨b,hb⟩:=f 0 x rfl;obtain⟨g,h1,h2⟩:=QU (λj=>P (j+1)) l λj u e=>f (j+1) u (by simpa using e)
  refine{b::g,by simp[h1],λj u e=>?_}
  cases j with
  | zero=>simp at e;subst e;exact⟨b,rfl,hb⟩
  | succ j=>
   obtain⟨c,s,w⟩:=h2 j u (by simpa using e)
   exact{c,by simpa using s,w}
theorem Vals.at:∀{b:List V} {c:List Value} {i:Nat} {u:Value},Vals b c->c[i]? =some u->∃x,b[i]? =some x/\RelV x u:=λ{b c i u} r e=>by
 have l:=Vals.length r;have h:=(zK.mp e).1;obtain⟨v,e1,g⟩:=r.get (i:=i) (x:=b[i]'()) (qK _)
 rw[e] at e1;cases e1;exact{_,qK _,g}
section
variable{X:Cx}
inductive Qh(c:List V)(H:Hp)(Q:VK):Prop
 | mk (a:Addr) (g:List V) (b:List (Key×V)) (_:c=[.ref a]) (_:H a=some (.lst g)) (_:PrsL H g b) (_:∀p,H p=none->Q (.ref p) (upd H p (.dK (xE [] b)))):Qh c H Q
theorem zaF(hh:X.A.handled=none):xT X (.type "dict") (Qh):=by
 intro J s σ H xs us Q I r h;obtain⟨a,ys,l,rfl,hx,L,q⟩:=h;obtain⟨u,rfl,ru⟩:=Vals.one r;cases(show u=Value.ref a from ru)
 obtain⟨zz,w,n,A,hl⟩:=(show ObjOk X.prog X.w H s.heap a (.lst ys) from I.hok a _ hx)
 have ln:=A.length;have kn:=L.1;have B:∀(j:Nat) (u:Value),w[j]? =some u->∃(T:Addr) (k:Key) (g v:Value) (y:V),u=.ref T/\IsTup s.heap T #[g,v]/\(qo X.prog X.w).is k g=true/\l[j]? =some (k,y)/\RelV y v:=λj u G=>by
  obtain⟨x,Y,rx⟩:=Vals.at A G;obtain⟨T,k,v,rfl,O,U⟩:=L.2 j x Y;cases(show u=Value.ref T from rx)
  obtain⟨_,ts,rt,it,_⟩:=(show ObjOk X.prog X.w H s.heap T (.tup [kV k,v]) from I.hok T _ O)
  obtain⟨u1,u2,rfl,r1,E⟩:=Vals.two rt;exact{T,k,u1,u2,v,rfl,it,yA r1,U,E}
 obtain⟨M,lp,hp⟩:=QU (λj u (p:Key×Value)=>∃(T:Addr) (g:Value) (y:V),u=.ref T/\IsTup s.heap T #[g,p.2]/\(qo X.prog X.w).is p.1 g=true/\l[j]? =some (p.1,y)/\RelV y p.2) w λj u e=>by
  obtain⟨T,k,g,v,y,a,b,c,d,f⟩:=B j u e;exact{(k,v),T,g,y,a,b,c,d,f}
 have kv:KV l M:=ziL () λj p e=>by
  have G:=(zK.mp e).1;obtain⟨b,e1,T,g,y,_,_,_,e2,E⟩:=hp j _ (qK ())
  rw[e] at e1;cases e1;exact{_,e2,rfl,E}
 have mg:(xE [] l).length<=sizeLine:=by
  have:=wD l [];rw[Xj] at this;omega
 have hn:H s.heap.objs.size=none:=I.hok.fresh (zF _);refine Q9 (knd:=qo X.prog X.w) (pairs:=M) (items:=w.toArray) hh hl (by simp[lp]) (by simp;omega) (λj u e=>?_) λh' tk N kp=>?_
 .rw[List.getElem?_toArray] at e
  obtain⟨p,e1,T,g,y,a,b,c,d,f⟩:=hp j u e;exact⟨T,p.1,g,p.2,a,b,c,e1⟩
 .have ns:(s.heap.objs.size==sysModules)=false:=beq_eq_false_iff_ne.mpr (vL I.big)
  exact{.ref s.heap.objs.size,_,I.laid (a:=s.heap.objs.size) (o:=.dK (xE [] l)) (t':=tk) kp (zF _) (VY mg ns (KV.merge kv .nil) N),rfl,q _ hn}
end
section
variable{X:Cx}{l G c:Expr}{s:List Expr}{b:Scope}{w:Pos}{I:TI}{g:TG}{E:TT}{D:TE}{x:Str}
variable{y:Str}{B C H:Pos}{A:Nat}
end
def Up(b:Array Nat):Prop:=b.toList.Pairwise (·< ·)
theorem Up.lt{g:Array Nat}(h:Up g){i j:Nat}{a b:Nat}(l:g[i]? =some a)(s:g[j]? =some b)(c:i<j):a<b:=by
 have h1:=Wz.mp l;have h2:=Wz.mp s;obtain⟨w,e1⟩:=h1;obtain⟨A,e2⟩:=h2;have:=zgl.mp h i j (by simpa using w) (by simpa using A) c
 simpa [e1,e2] using this
theorem J4(g:Array Nat)(j:Nat):∀(fuel lo b:Nat),b-lo<=fuel->lo<=b->b<=g.size->Up g->(∀i a,i<lo->g[i]? =some a->a<j)->(∀i a,b<=i->g[i]? =some a->j<=a) ->
  SetTable.below.go g j fuel lo b<=g.size/\(∀i a,i<SetTable.below.go g j fuel lo b->g[i]? =some a->a<j)/\∀i a,SetTable.below.go g j fuel lo b<=i->g[i]? =some a->j<=a
 | 0,lo,b,h1,h2,s,u,a1,a2=>by
  have e:b=lo:=()
  subst e;exact⟨s,a1,a2⟩
 | fuel+1,lo,b,h1,h2,s,u,a1,a2=>by
  unfold SetTable.below.go;by_cases c:lo<b
  .rw[zC c]
   dsimp only;have w:(lo+b)/2<g.size:=()
   have l:g[(lo+b)/2]? =some (g[(lo+b)/2]'w):=Zk w;have B:g.getD ((lo+b)/2) j=g[(lo+b)/2]'w:=by rw[zbe,l];rfl
   rw[B];by_cases d:g[(lo+b)/2]'w<j
   .rw[zC d]
    refine J4 g j fuel _ b () () s u (λi a A e=>?_) a2
    by_cases q:i=(lo+b)/2
    .subst q;rw[l] at e;cases e;exact d
    .have:=u.lt e l ()
     omega
   .rw[zw d]
    refine J4 g j fuel lo _ () () () u a1 λi a A e=>?_
    by_cases q:i=(lo+b)/2
    .subst q;rw[l] at e;cases e;omega
    .have:=u.lt l e ()
     omega
  .rw[zw c]
   have e:b=lo:=()
   subst e;exact⟨s,a1,a2⟩
theorem zgf{b:Array Nat}(u:Up b)(j:Nat):SetTable.below b j<=b.size/\(∀i a,i<SetTable.below b j->b[i]? =some a->a<j)/\∀i a,SetTable.below b j<=i->b[i]? =some a->j<=a:=by
 unfold SetTable.below;exact J4 b j b.size 0 b.size () (jv _) (zF _) u (λi a h=>absurd h (Nat.not_lt_zero _)) λi a h e=>absurd (Wz.mp e).1 ()
theorem XS{c:Array Nat}(u:Up c){j:Nat}(E:c[SetTable.below c j]?≠some j):Up (SetTable.insertAt c (SetTable.below c j) j):=by
 obtain⟨b1,b2,b3⟩:=zgf u j;unfold Up SetTable.insertAt;generalize SetTable.below c j=p at *
 have C:((c.extract 0 p).push j++c.extract p c.size).toList=c.toList.take p++(j::c.toList.drop p):=by
  simp[Array.toList_extract,List.extract_eq_drop_take];exact QW 1e3
 rw[C,List.pairwise_append];have B:c.toList.Pairwise (·< ·):=u
 refine{B.sublist (Wg _ _),Xn.mpr {λa s=>?_,B.sublist (List.drop_sublist _ _)},λa s b hb=>?_}
 .obtain⟨k,hk,e⟩:=zgk.mp s
  have g:c[k+p]? =some a:=by rw[<- Qa,zK];exact{(),by rw[<- e];congr 1;omega}
  have:=b3 (k+p) a () g
  by_cases q:k=0
  .subst q
   rw[Xe] at g;exact Nat.lt_of_le_of_ne this λz=>E (by rw[g,z])
  .have hp:p<c.size:=by rw[xR] at hk;omega
   have:=b3 p _ (zF _) (Zk hp);have:=u.lt (Zk hp) g ()
   omega
 .obtain⟨k,hk,e⟩:=List.mem_take_iff_getElem.mp s
  have g:c[k]? =some a:=by rw[<- Qa,zK];exact{(),e}
  have w:=b2 k a () g
  rcases qH.mp hb with z | z
  .rw[z];exact w
  .obtain⟨A,D,e2⟩:=zgk.mp z
   have l:c[A+p]? =some b:=by rw[<- Qa,zK];exact{(),by rw[<- e2];congr 1;omega}
   have:=b3 (A+p) b () l
   omega
structure TabOk(b:Bool)(t:SetTable):Prop where
 up:Up t.place
 no:t.dummies=#[]
 led:t.led=b
theorem JO(j:Nat):SetTable.has #[] j=false:=by
 unfold SetTable.has;rw[show(#[]:Array Nat)[SetTable.below #[] j]? =none from za9 1e3]
 rfl
theorem zdg{t:SetTable}(h:t.dummies=#[])(j:Nat):(t.slot j=.empty/\t.place[SetTable.below t.place j]?≠some j)\/∃i,t.slot j=.live i:=by
 unfold SetTable.slot;rw[h,JO];dsimp only;by_cases c:(t.place[SetTable.below t.place j]? ==some j)=true
 .rw[zC c]
  exact .inr {_,rfl}
 .rw[zw c,zw qS]
  exact .inl {rfl,λz=>c (by rw[z];simp)}
theorem XL(t:SetTable)(p:SetTable.Probe):(t.advance p).dummy=p.dummy:=by
 unfold SetTable.advance;split
 .rfl
 .rfl
theorem QQ{t:SetTable}(hd:t.dummies=#[]){f:Nat->Int}{h:Int}:∀(fuel:Nat) (p:SetTable.Probe) (j:Nat) (d:Option Nat),SetTable.probe.go t f h fuel p=some (.empty j d)->t.place[SetTable.below t.place j]?≠some j/\d=p.dummy
 | 0,p,j,d,e=>by unfold SetTable.probe.go at e;cases e
 | fuel+1,p,j,d,e=>by
  unfold SetTable.probe.go at e;rcases zdg hd p.j with ⟨c1,b⟩ | ⟨i,c⟩
  .rw[c1] at e
   cases e;exact⟨b,rfl⟩
  .rw[c] at e
   dsimp only at e;split at e
   .cases e
   .have:=QQ hd fuel _ j d e
    rw[XL] at this;exact this
theorem zhG{t:SetTable}(hd:t.dummies=#[]){h:Int}{s:Nat}{w:Bool}(e:t.freeSlot h=some (s,w)):t.place[SetTable.below t.place s]?≠some s:=by
 unfold SetTable.freeSlot SetTable.probe at e;split at e
 .rename_i j d q
  obtain⟨h1,h2⟩:=QQ hd _ _ _ _ q;cases(show d=none from h2)
  cases e;exact h1
 .cases e
theorem zd8(n:Nat):Up (Array.range n):=by
 unfold Up;rw[Array.toList_range];exact za8
theorem TabOk.stand{b:Bool}{t:SetTable}(h:TabOk b t)(n:Nat):TabOk b (t.standIn n):={zd8 n,rfl,h.led}
theorem TabOk.plain{b p:Bool}{t:SetTable}(h:TabOk b t):TabOk b { t with plain:=p }:=⟨h.up,h.no,h.led⟩
theorem TabOk.or{b:Bool}{t:SetTable}(h:TabOk b t)(n:Nat):TabOk b (t.orStandIn n):=by
 unfold SetTable.orStandIn;split
 .exact h
 .exact h.stand n
theorem TabOk.layNew{b:Bool}{t:SetTable}(h:TabOk b t)(g:Array (Int×Value))(k:Int)(x:Value):TabOk b (layNew t g k x).2.1:=by
 unfold PySem.layNew;split
 .rename_i c w e
  have hp:TabOk b (t.put c).1:={XS h.up (zhG h.no e),by
   show(if SetTable.has t.dummies c=true then _ else t.dummies)=#[]
   rw[h.no,JO];rfl,h.led}
  exact hp.or _
 .exact h.stand _
theorem zbo{α:Type}(m:Nat)(f:Nat->Option α):(((List.range m).filterMap λj=>(f j).map (j,·)).map (·.1)).Pairwise (·< ·):=by
 have hs:∀l:List Nat,((l.filterMap λj=>(f j).map (j,·)).map (·.1)).Sublist l:=λl=>by
  induction l with
  | nil=>exact .slnil
  | cons x l b=>
   rw[Wp];cases f x with
   | none=>exact b.cons _
   | some y=>exact b.cons₂ _
 exact List.Pairwise.sublist (hs _) za8
theorem TabOk.relay{b:Bool}{t:SetTable}(h:TabOk b t)(l:Array (Int×Value))(n:Nat):TabOk b (relayAll t l n).2.1:=by
 unfold relayAll;split
 .rename_i s g e
  dsimp only;split
  .unfold SetTable.relaid SetTable.laid at e
   obtain⟨c,_,e2⟩:=Option.bind_eq_some_iff.mp e;cases e2;refine{?_,rfl,h.led}
   exact zbo _ λj=>c.getD j none
  .exact h.stand _
 .exact h.stand _
theorem TabOk.fresh(b:Bool):TabOk b (.fresh 0 0 b):=⟨List.Pairwise.nil,rfl,rfl⟩
theorem zds{α:Type}{l:List α}{x:α}(h:l.Nodup)(hx:x∉l):(l++[x]).Nodup:=by
 rw[wf];exact{h,1e3,λa c b hb e=>hx (by rw[qm] at hb;rw[<- hb,<- e];exact c)}
theorem Yp{α β:Type}{R:α->β->Prop}{A g:List β}(p:g.Perm A):∀{c:List α},Paired R c A->∃b,b.Perm c/\Paired R b g:=by
 induction p with
 | nil=>intro c h;exact{c,.refl _,h}
 | cons y _ C=>
  intro c h;cases h with
  | cons r t=>
   obtain⟨b,D,B⟩:=C t;exact{_::b,D.cons _,.cons r B}
 | swap y z l=>
  intro c h;cases h with
  | cons r t=>
   cases t with
   | cons H I=>exact{_,.swap _ _ _,.cons H (.cons r I)}
 | trans _ _ s w=>
  intro c h;obtain⟨L,E,h1⟩:=w h;obtain⟨J,G,h2⟩:=s h1;exact{J,G.trans E,h2}
theorem Jz{α β:Type}{R:α->β->Prop}{x:α}{y:β}(r:R x y):∀{b:List α} {c:List β},Paired R b c->Paired R (b++[x]) (c++[y])
 | _,_,.nil=>.cons r .nil
 | _,_,.cons h t=>.cons h (Jz r t)
theorem Jy{α β:Type}{R:α->β->Prop}:∀{c:List α} {g:List β},Paired R c g->(∀x∈c,∃y∈g,R x y)/\∀y∈g,∃x∈c,R x y
 | _,_,.nil=>{λx h=>(nomatch h),λy h=>(nomatch h)}
 | _,_,.cons h t=>by
  obtain⟨a,b⟩:=Jy t;refine{λx hx=>?_,λy hy=>?_}
  .rcases qH.mp hx with z | z
   .rw[z];exact{_,qJ,h}
   .obtain⟨y,hy,r⟩:=a x z
    exact{y,xg _ hy,r}
  .rcases qH.mp hy with z | z
   .rw[z];exact{_,qJ,h}
   .obtain⟨x,hx,r⟩:=b y z
    exact{x,xg _ hx,r}
section
variable{B:Program}{w:World}{K:Type}[DecidableEq K](l:KeyKind B w K)
def ElX(c:List (Int×Value))(g:List K):Prop:=ElemsOf l c/\∃b,b.Perm g/\Paired (λk (e:Int×Value)=>l.is k e.2=true) b c
def ObX(b:Bool)(o:Obj)(g:List K):Prop:=∃c C t,o.ExactSet/\o.data=.set c C t/\ElX l c.toList g/\g.Nodup/\c.size<scanBound/\t.fits c.size=true/\TabOk b t
def SetX(b:Bool)(h:Heap)(a:Addr)(c:List K):Prop:=∃o,h.get? a=some o/\ObX l b o c
variable{l}
theorem ElX.perm{g b:List (Int×Value)}{C:List K}(h:ElX l g C)(p:b.Perm g):ElX l b C:=by
 obtain⟨h1,D,G,I⟩:=h;obtain⟨c,H,pr2⟩:=Yp p I;exact{h1.perm p,c,H.trans G,pr2}
theorem ElX.len{b:List (Int×Value)}{c:List K}(h:ElX l b c):b.length=c.length:=by
 obtain⟨_,g,C,D⟩:=h;rw[<- C.length_eq];exact(V9 D).symm
theorem ElX.mem{c:List (Int×Value)}{g:List K}(h:ElX l c g)(k:K):k∈g↔∃e∈c,l.is k e.2=true:=by
 obtain⟨_,D,G,H⟩:=h;obtain⟨a,b⟩:=Jy H;rw[<- G.mem_iff];refine{a k,λ⟨e,C,r⟩=>?_}
 obtain⟨J,hk,I⟩:=b e C;rwa[l.inj _ _ _ r I]
theorem ElX.snoc{c:List (Int×Value)}{g:List K}(h:ElX l c g){k:K}{x:Value}(hk:l.is k x=true)(hx:x.scannable=true):ElX l (c++[(l.hash k,x)]) (g++[k]):=by
 obtain⟨h1,b,C,D⟩:=h;exact{h1.push hk hx,b++[k],C.append_right _,Jz (R:=λk (e:Int×Value)=>l.is k e.2=true) hk D}
theorem SetX.at{b:Bool}{h c:Heap}{a:Addr}{g:List K}(x:SetX l b h a g)(k:∀o,h.get? a=some o->c.get? a=some o):SetX l b c a g:=let ⟨o,e,r⟩:=x;{o,k o e,r}
variable{A:Around}{E:Value->Shared->Prop}{s:Shared}
theorem zlk{b:Bool}{h:Heap}{a:Addr}{o:Obj}{L:Array (Int×Value)}{H:Nat}{t:SetTable}(N:h.get? a=some o)(D:o.ExactSet)(hd:o.data=.set L H t){c:Array (Int×Value)}{C:SetTable}{I:List K}(J:ElX l c.toList I)(O:I.Nodup)
  (hb:c.size<scanBound) (M:C.fits c.size=true) (Q:TabOk b C):∃G,(h.update a (Obj.putSet c C)).get? a=some G/\G.ExactSet/\G.data=.set c (H+1) C/\ObX l b G I:=by
 have g:=QV (Obj.putSet c C) N (by rw[putSet_of c C hd];rfl)
 rw[putSet_of c C hd] at g;exact{_,g,D,rfl,c,H+1,C,D,rfl,J,O,hb,M,Q}
theorem zh6{b:Bool}{g:Bool->Sem Unit}(hg:∀(c:Bool) (s1:Shared) (O:Unit->Shared->Prop),O Unit.unit s1->wpAny (model B w) A (g c) O E s1){a:Addr}{o:Obj}{es:Array (Int×Value)}{ep:Nat}{t:SetTable}(U:s.heap.get? a=some o)(J:o.ExactSet)
  (hd:o.data=.set es ep t) {C:Array (Int×Value)} {G:SetTable} {L:List K} (T:ElX l C.toList L) (Y:L.Nodup) (hb:C.size<scanBound) (hf:G.fits C.size=true) (tb:TabOk b G) {D:Bool} {R:Option Bool->Shared->Prop}
  (h:∀I,Heap.SameBut a s.heap I->SetX l b I a L->R (some true) { s with heap:=I }) :
  wpAny (model B w) A (storeSet a C G >>= λ_=>if(!D&&G.tooFull)=true then g (relayAll G C (SetTable.grown C.size)).2.2 >>= λ_=>storeSet a (relayAll G C (SetTable.grown C.size)).1 (relayAll G C (SetTable.grown C.size)).2.1 >>= λ_=>pure (some true) else pure (some true)) R E s:=by
 obtain⟨o1,H,x1,Q,M⟩:=zlk U J hd T Y hb hf tb;have sb:=ZC s.heap a (Obj.putSet C G);refine zk (wpAny_storeSet_of U hd ?_ (fits_of_scanBound hb))
 split
 .have pm:=relayAll_perm G C (SetTable.grown C.size)
  have ft:=relayAll_fits G C (SetTable.grown C.size);have tr:=tb.relay C (SetTable.grown C.size);have sz:(relayAll G C (SetTable.grown C.size)).1.size=C.size:=by have:=pm.length_eq;rwa[xR,xR] at this
  obtain⟨o2,g2,x2,d2,N⟩:=zlk H x1 Q (T.perm pm) Y (by rw[sz];exact hb) ft tr
  exact zk (hg _ _ _ (zk (wpAny_storeSet_of H Q (zx (h _ (sb.trans (ZC _ a _)) ⟨o2,g2,N⟩)) (fits_of_scanBound (by rw[sz];exact hb)))))
 .exact zx (h _ sb ⟨o1,H,M⟩)
theorem zmM{b:Bool}{a:Addr}{g:List K}{k:K}{x:Value}{Q:Bool->Shared->Prop}(C:l.is k x=true)(M:x.scannable=true)(hS:SetX l b s.heap a g)(J:g.length+1<scanBound)
  (h:∀H c,Heap.SameBut a s.heap H->SetX l b H a (if k∈g then g else g++[k])->Q c { s with heap:=H }):wpAny (model B w) A (setAddHashed a x (l.hash k)) Q E s:=by
 obtain⟨o,Y,N,ep,t,I,hd,D,nd,hb,hf,tb⟩:=hS;have ln:=D.len;rw[xR] at ln;unfold setAddHashed setAddHashedIn;refine wv (zk (wpAny_setState_of Y hd hf ?_));dsimp only
 rw[byScan_of M hb D.1,zC rfl];unfold setAddByScan;refine zk (zk (wb (zk (wpAny_setScan_of C Y hd hf D.1 ?_))))
 cases hr:List.findIdx? (λe=>l.is k e.2) N.toList with
 | some j=>
  obtain⟨hj,aa,_⟩:=List.findIdx?_eq_some_iff_getElem.mp hr
  have hk:k∈g:=(D.mem k).mpr {_,wc hj,aa};have:=h s.heap false (Heap.SameBut.refl a s.heap) (by rw[zC hk];exact⟨o,Y,N,ep,t,I,hd,D,nd,hb,hf,tb⟩)
  exact zx (zx this)
 | none=>
  have hk:k∉g:=λz=>by
   obtain⟨e,he,r⟩:=(D.mem k).mp z;have:=List.findIdx?_eq_none_iff.mp hr e he
   rw[r] at this;cases this
  rw[zw hk] at h;have gw:∀(c:Bool) (s1:Shared) (Q':Unit->Shared->Prop),Q' Unit.unit s1->wpAny (model B w) A (match c with | true=>rule "set.scan.the-table-gave-way" | false=>pure Unit.unit) Q' E s1:=λc s1 Q' hq=>by
   cases c
   .exact zx hq
   .exact wb hq
  have pm:=layNew_perm t N (l.hash k) x;have T:=layNew_fits t N (l.hash k) x;have tn:=tb.layNew N (l.hash k) x;generalize layNew t N (l.hash k) x=L at pm T tn;obtain⟨O,t1,wd,ab⟩:=L;dsimp only at pm T tn ⊢;rw[Array.toList_push] at pm;have G:ElX l O.toList (g++[k]):=(D.snoc C M).perm pm;have l1:=G.len;rw[xR,qh] at l1;have U:O.size<scanBound:=by rw[l1];exact J
  have a0:(g++[k]).Nodup:=zds nd hk;refine zk (gw _ _ _ ?_)
  split
  .rw[hashByValue_scannable 8 M]
   refine zk (zx (zh6 gw Y I hd G a0 U ?_ ?_ λH sb sx=>zx (h H true sb sx)))
   .split
    .exact T
    .exact SetTable.fits_plain_off T
   .split
    .exact tn
    .exact tn.plain
  .exact zk (zx (zh6 gw Y I hd G a0 U T tn λH sb sx=>zx (h H true sb sx)))
end
def zdz(w:World):Bool:=!w.params.followText "set-order"
def zeO(w:World):Obj:={ cls:=.type "set",dict:=none,data:=.set #[] 0 (.fresh 0 0 (zdz w)) }
section
variable{K:Type}[DecidableEq K]
def wB(D:List K)(k:K):List K:=if k∈D then D else D++[k]
def XD(E D:List K):List K:=D.foldl wB E
theorem zd0(D:List K)(k:K):(wB D k).length<=D.length+1:=by
 unfold wB;split
 .omega
 .rw[qh];exact zF _
theorem WK:∀(E D:List K),(XD D E).length<=D.length+E.length
 | [],D=>zF _
 | j::E,D=>by
  have h1:=WK E (wB D j);have h2:=zd0 D j;show(XD (wB D j) E).length<=_;rw[jZ];omega
variable{c:Program}{w:World}{B:KeyKind c w K}{A:Around}{R:Result->Shared->Prop}{C l S:Addr}{g:Array Value}{s:List K}{b:Bool}
end
section
variable{b:Program}{w:World}{A:Around}{E:Value->Shared->Prop}{s:Shared}
end
section
variable{b:Program}{w:World}{K:Type}[DecidableEq K]{c:KeyKind b w K}{A:Around}{E:Value->Shared->Prop}{s:Shared}
theorem zeN(h:Heap):SetX c (zdz w) (h.push (zeO w)) h.objs.size []:=
 {zeO w,qQ _ rfl,#[],0,_,⟨rfl,rfl,rfl⟩,rfl,{λe g=>by simp at g,[],.refl _,.nil},List.nodup_nil,1e1,rfl,TabOk.fresh _}
end
section
variable{M:Model}{A:Around}{E:Value->Shared->Prop}{s:Shared}
end
section
variable{b:Program}{w:World}{A:Around}{E:Value->Shared->Prop}{h:Heap}{g:Array GenState}{d:Drawn}{B:Nat}{os:OsState}{s a:Addr}{o:Obj}{l:Array (Int×Value)}{c:Nat}{t:SetTable}{i:Nat}
end
section
variable{b:Program}{w:World}{A:Around}{E:Value->Shared->Prop}{s:Shared}{a:Addr}{o:Obj}{g:Array (Int×Value)}{c:Nat}{t:SetTable}{i l:Nat}
end
section
variable{b:Program}{w:World}{A:Around}{E:Value->Shared->Prop}{h:Heap}{g:Array GenState}{d:Drawn}{G:Nat}{os:OsState}{B a T:Addr}{o C:Obj}{s:Array (Int×Value)}{l:Nat}{t:SetTable}{i n c:Nat}{D:Array Value}
end
section
variable{b:Program}{w:World}{A:Around}{E:Value->Shared->Prop}{s:Shared}{c:Addr}{g:Obj}
end
section
variable{b:Program}{w:World}{A:Around}
variable{s a T:Addr}{o B:Obj}{l:Array (Int×Value)}{g c:Nat}{t:SetTable}
end
section
variable{b:Program}{w:World}{A:Around}{E:Value->Shared->Prop}{s:Shared}{a:Addr}{o:Obj}{g:Array (Int×Value)}{c:Nat}{t:SetTable}
end
section
variable{X:Cx}
def zeP(P:Program)(w:World)(p:Addr)(b:List Key):HO:=.ext λh=>SetX (qo P w) (zdz w) h p b
end
theorem VH{α β:Type}{f:α->β}{l:List α}(h:(l.map f).Nodup):l.Nodup:=by
 have c:l.Pairwise λa b=>f a≠f b:=Wd.mp h
 exact c.imp λn e=>n (by rw[e])
section
variable{X:Cx}
end
theorem zhJ(l:Addr)(B:Array Value)(n:Nat)(b:Addr)(c:Array Value)(h0:¬(!B.isEmpty&&Builtin.List.listTooLong (B.size+c.size))=true)(h1:B.size<=sizeLine)(h2:B.size+c.size<=sizeLine+1) :
  Meets (Builtin.«list.extend» {[.ref l,.ref b],[]}) (λ_ R s=>s.heap.get? l=some { cls:=.type "list",dict:=none,data:=.seq B n,slots:=#[] }/\IsTup s.heap b c/\R (.ok (.ret Value.none)) { s with heap:=s.heap.update l (Obj.mapSeq λx=>x++c),toks:=s.toks }):=
 .of_wp λE w A R s h=>by
  obtain⟨hp,g,d,Q,os⟩:=s;obtain⟨D,⟨⟨cls,G,data,O⟩,hb,hc,N,hd⟩,h⟩:=h;simp only at hc hd;subst hc hd;have H:=AutoSeq1.idx_int;have I:=AutoSeq1.sub_tuple_tuple;have J:=AutoSeq1.sub_list_list;have L:=AutoSeq1.sub_tuple_list;have M:=AutoSeq1.sub_list_tuple
  have hz:(B++c).size<=sizeLine+1:=by rw[Array.size_append];exact h2
  wp_walk using (wpAny_updateSeq D rfl (hz:=h1) (_hz':=hz)),AutoSeq1.wpAny_loadPart' D,AutoSeq1.wpAny_loadPart' hb
  exact{_,rfl,h}
section
variable{X:Cx}{E B g:Expr}{N G:List Expr}{c:Scope}{U:Pos}{wi a0:TI}{tf Y:TT}{te:TE}{x y z u:Str}{px py pz pu tp L:Pos}{kk J:Nat}
theorem zgW(l:List Str)(js:List Nat)(hc:X.calm=true)(hk:c.kind=.function)(hb:wa c.names X.env.scope.names X.N [x,y,z,u] l js=true)(hi:PI X (.Tuple [.Name x px,.Name y py] kk tp) B a0)
  (hf:∀C s H b,PF (zQ X ([x,y,z,u]++l) c C s H b) N Y) (aa:∀C s H b,PI (zQ X ([x,y,z,u]++l) c C s H b) (.Tuple [.Name z pz,.Name u pu] J L) g wi) (Q:∀C s H b,PF (zQ X ([x,y,z,u]++l) c C s H b) G tf)
  (he:∀C s H b,PE (zQ X ([x,y,z,u]++l) c C s H b) E te) (hs:∀x,foldedSetIterable B X.env x=pure x:=by intro _;rfl) (ab:∀C x,foldedSetIterable g (compEnvC c (xA X.env.cells c.names []) C X.env) x=pure x:=by intro _ _;rfl) :
  PE X (lc2 E (.Tuple [.Name x px,.Name y py] kk tp) B N (.Tuple [.Name z pz,.Name u pu] J L) g G c U) (zi0 a0 4 js (Q8 X.K 2 (xz (xb 0) (xz (xb 1) JP))) Y wi (Q8 X.K 2 (xz (xb 2) (xz (xb 3) JP))) tf te):=by
 obtain⟨h1,h2,I⟩:=xM hb;refine zfm [x,y,z,u] l js hc hk h1 hi (λC s H b=>?_) hf aa (λC s H b=>?_) Q he hs ab
 .exact qE (X:=zQ X ([x,y,z,u]++l) c C s H b) hc (zn (jK (h2 x 1e3) I rfl) (zn (jK (h2 y 1e3) I rfl) z7))
 .exact qE (X:=zQ X ([x,y,z,u]++l) c C s H b) hc (zn (jK (h2 z 1e3) I rfl) (zn (jK (h2 u 1e3) I rfl) z7))
theorem zfn(l:List Str)(Q:List Nat)(hc:X.calm=true)(hk:c.kind=.function)(hb:wa c.names X.env.scope.names X.N [x,y,z,u] l Q=true)(hi:PI X (.Tuple [.Name x px,.Tuple [.Name y py,.Name z pz,.Name u pu] J L] kk tp) g wi)
  (hf:∀C s H b,PF (zQ X ([x,y,z,u]++l) c C s H b) G tf) (he:∀C s H b,PE (zQ X ([x,y,z,u]++l) c C s H b) E te) (hs:∀x,foldedSetIterable g X.env x=pure x:=by intro _;rfl) :
  PE X (.ListComp E [{.Tuple [.Name x px,.Tuple [.Name y py,.Name z pz,.Name u pu] J L] kk tp,g,G,0}] c U) (tLC wi 4 Q (Q8 X.K 2 (xz (xb 0) (xz (Q8 X.K 3 (xz (xb 1) (xz (xb 2) (xz (xb 3) JP)))) JP))) tf te):=by
 obtain⟨h1,h2,I⟩:=xM hb;refine zfo [x,y,z,u] l Q hc hk h1 hi (λC s H b=>?_) hf he hs
 exact qE (X:=zQ X ([x,y,z,u]++l) c C s H b) hc (zn (jK (h2 x 1e3) I rfl) (zn (qE hc (zn (jK (h2 y 1e3) I rfl) (zn (jK (h2 z 1e3) I rfl) (zn (jK (h2 u 1e3) I rfl) z7)))) z7))
inductive Vs(K:W.Frag)(x:V)(y:V)(H:Hp)(Q:VK):Prop
 | mk (a b:Addr) (s l:List Int) (_:x=.ref a) (_:y=.ref b) (_:SqL K H a (s.map V.int)) (_:SqL K H b (l.map V.int)) (_:Q (.bl (decide (s=l))) H):Vs K x y H Q
theorem zg2(hu:X.A.units<cLine):OpR X (compareOp .Eq) (Vs X.K):=by
 intro ae s σ H x y v u Q I rx ry h;obtain⟨a,b,ns,C,rfl,rfl,hx,hy,q⟩:=h;cases rx;cases ry;obtain⟨l,r1,p1,z1⟩:=I.list hx;obtain⟨ac,r2,p2,z2⟩:=I.list hy;have l1:=r1.length;have l2:=r2.length;rw[zm] at l1 l2;by_cases hl:ns.length=C.length
 .refine zaS (e:=λj=>decide (ns.getD j 0=C.getD j 0)) p1.isList p2.isList (by rw[zX,zX];omega) hu (λj h1 h2=>?_) _ _ _ _ {.bl _,H,I,rfl,?_}
  .have aa:j<ns.length:=by rw[zX] at h1;omega
   have ab:j<C.length:=()
   obtain⟨w1,e1,q1⟩:=r1.get (i:=j) (x:=.int ns[j]) (by simp[aa])
   obtain⟨w2,e2,q2⟩:=r2.get (i:=j) (x:=.int C[j]) (by simp[ab])
   have g1:l.toArray[j]=w1:=by simpa using (zK.mp e1).2
   have g2:ac.toArray[j]=w2:=by simpa using (zK.mp e2).2
   rw[g1,g2,show ns.getD j 0=ns[j] by simp[aa],show C.getD j 0=C[j] by simp[ab]]
   exact JT q1 q2 rfl rfl
  .have e:((List.range l.toArray.size).all λj=>decide (ns.getD j 0=C.getD j 0))=decide (ns=C):=by
    rw[zX,<- l1,vm,vn,xQ];constructor
    .intro h
     refine List.ext_getElem hl λj h1 h2=>?_
     have:=qP (h j (xB.mpr h1));simpa [h1,h2] using this
    .intro h j _
     rw[h];exact qg rfl
   rw[e];exact q
 .rw[jO (λe=>hl (by rw[e]))] at q
  exact SeqAt.RcAt.lists_lengths p1.isList p2.isList (by rw[zX,zX];simpa using λe=>hl ()) hu _ _ _ _ {.bl _,H,I,rfl,q}
inductive ziH(K:W.Frag)(x:V)(I:List V)(H:Hp)(Q:VK):Prop
 | mk (l b s C:_) (_:x=.ref l) (_:I=[.ref b]) (_:H l=some (.lst s)) (_:SqT K H b C) (_:s.length+C.length<=sizeLine) (_:Q .non (upd H l (.lst (s++C)))):ziH K x I H Q
theorem zch:MtM X "list.extend" (ziH X.K):=by
 intro ac s σ H x vs v us Q I rx rv h;obtain⟨l,b,xs,zs,rfl,rfl,hH,hB,hz,q⟩:=h;cases rx;obtain⟨u,rfl,ru⟩:=rv.one;cases ru;obtain⟨z,aa,n,r,hl,e⟩:=I.lstM hH;obtain⟨C,r2,p2,z2⟩:=I.tuple hB;have l2:=r2.length;have sz:aa.toArray.size+C.toArray.size<=sizeLine:=by rw[zX,zX];omega
 refine call_meets F.slot_list_extend {_,e,rfl} F.entry_list_extend (F.args_list_extend_2 _ _) (zhJ l aa.toArray n b C.toArray (by rw[JB sz,zaK];exact qS) (by rw[zX];omega) ()) {e,p2,?_}
 exact{.non,_,I.lset (its':=aa++C) hH e 1e3 (r.append r2) (by rw[qh];omega),rfl,q}
variable{O e:Expr}{A:List Expr}{to:TE}{tt:TA}{D:Str}{M w:Pos}{T id:String}{r:V->List V->Hp->VK->Prop}
theorem zaj{K:W.Frag}(Q:X.K=K)(pa:PlainAttrs T)(H:Slot T D id)(I:typeOf (.builtin id)=pure (.type "method_descriptor"))(hm:MtR X id r)(ho:PE X O to)(ha:PA X (e::A) tt)
  (l:attributeBase O D X.env (eval O X.env)=eval O X.env:=by rfl)
  (C:((backTo w (starEach (e::A) X.env)).all (λx=>!x.1)&&(backToKw w (keywordEach [] X.env)).all (λx=>x.1.isSome)&&decide ((e::A).length+([]:List Keyword).length+(if([]:List Keyword).isEmpty then 0 else 1)<30))=true:=by rfl)
  (s:(M.endLine==w.line)=true:=by rfl) (hs:starEach (e::A) X.env=(false,eval e X.env)::starEach A X.env:=by rfl) (b:(backTo w (starEach A X.env)).any (·.1)=false:=by rfl) :
  PE X (.Call (.Attribute O D M) (e::A) [] w) (tBM K T r to tt):=by
 subst Q;exact xi pa H I hm ho ha l C s hs b
end
end L2
namespace L2
open PySem PySem.Spec PyProof.Rows PySem.W
def KRun{α:Type}(b:Nat->Nat->Bool)(n:Nat):KasT α->(α->Prop)->Prop
 | .ret a,Q=>Q a
 | .ask i j k,Q=>i<n/\j<n/\KRun b n (k (b i j)) Q
theorem KRun.mono{α:Type}{l:Nat->Nat->Bool}{n:Nat}{Q g:α->Prop}(h:∀a,Q a->g a):∀{t:KasT α},KRun l n t Q->KRun l n t g
 | .ret a,x=>h a x
 | .ask i j k,⟨a,b,c⟩=>{a,b,KRun.mono h c}
theorem KRun.bind{α β:Type}{g:Nat->Nat->Bool}{n:Nat}{f:α->KasT β}{Q:β->Prop}:∀{t:KasT α},KRun g n t (λa=>KRun g n (f a) Q)->KRun g n (t.bind f) Q
 | .ret a,x=>x
 | .ask i j k,⟨a,b,c⟩=>{a,b,KRun.bind c}
section
variable{n:Nat}{r:Nat->Nat}
def vA(r:Nat->Nat)(p:Array Nat)(k:Nat):Nat:=r (p.getD k 0)
structure Gd(n:Nat)(p:Array Nat):Prop where
 pm:p.toList.Perm (List.range n)
theorem Gd.sz{p:Array Nat}(g:Gd n p):p.size=n:=by have:=g.pm.length_eq;rwa[xR,wg] at this
theorem Gd.at{p:Array Nat}(g:Gd n p){k:Nat}(h:k<n):p[k]? =some (p.getD k 0):=by
 rw[zbe,Zk (by rw[g.sz];exact h)]
 rfl
theorem Gd.lt{p:Array Nat}(g:Gd n p)(l:0<n)(k:Nat):p.getD k 0<n:=by
 by_cases h:k<n
 .have:=g.at h
  rw[<- Qa] at this;exact xB.mp (g.pm.mem_iff.mp (qz this))
 .rw[zbe,za9 (by rw[g.sz];omega)]
  exact l
theorem Gd.inj{p:Array Nat}(g:Gd n p)(b:∀i j,i<n->j<n->r i=r j->i=j){i j:Nat}(w:i<n)(A:j<n)(e:vA r p i=vA r p j):i=j:=by
 have l:0<n:=()
 have h1:=b _ _ (g.lt l i) (g.lt l j) e;have B:p.toList.Nodup:=g.pm.nodup_iff.mpr yH;have a1:=g.at w;have a2:=g.at A;rw[<- Qa] at a1 a2;obtain⟨b1,c1⟩:=zK.mp a1;obtain⟨b2,s⟩:=zK.mp a2;exact(Xk B).mp (by rw[c1,s,h1])
def AscA(r:Nat->Nat)(p:Array Nat)(m:Nat):Prop:=∀i j,i<j->j<m->vA r p i<vA r p j
def DscA(r:Nat->Nat)(p:Array Nat)(m:Nat):Prop:=∀i j,i<j->j<m->vA r p j<vA r p i
theorem AscA.step{p:Array Nat}{m:Nat}(h:AscA r p m)(h1:1<=m)(h2:vA r p (m-1)<vA r p m):AscA r p (m+1):=λi j g l=>by
 by_cases e:j=m
 .subst e
  by_cases e2:i=j-1
  .subst e2;exact h2
  .have:=h i (j-1) () ()
   omega
 .exact h i j g ()
theorem DscA.step{p:Array Nat}{m:Nat}(h:DscA r p m)(h1:1<=m)(h2:vA r p m<vA r p (m-1)):DscA r p (m+1):=λi j g l=>by
 by_cases e:j=m
 .subst e
  by_cases e2:i=j-1
  .subst e2;exact h2
  .have:=h i (j-1) () ()
   omega
 .exact h i j g ()
variable{c:Nat->Nat->Bool}(b:∀i j,i<n->j<n->r i=r j->i=j)(hb:∀i j,i<n->j<n->c i j=decide (r i<r j))
include b hb
end
end L2
namespace L2
open PySem PySem.Spec PyProof.Rows PySem.W
section
variable{b:Program}{w:World}{A:Around}{E:Value->Shared->Prop}{s:Shared}
end
end L2
namespace L2
open PySem PySem.Spec PyProof.Rows PySem.W
section
variable{X:Cx}{b:List (Addr×Obj)}{σ:St}{s:Shared}
end
end L2
namespace L2
open PySem PySem.Spec PyProof.Rows PySem.W
section
variable{X:Cx}
def zbm(p d:Addr):HO:=.ext λh=>h.IsItemsView p d
end
end L2
namespace L2
open PySem PySem.Spec PyProof.Rows
section
variable{X:Cx}
variable{g c:Expr}{l:List Expr}{b:Scope}{s:Pos}{H:TI}{E:TT}{D:TE}{x y z:Str}{A B C G:Pos}{w:Nat}
end
section
variable{X:Cx}
end
section
variable{X:Cx}{l C c:Expr}{s:List Expr}{b:Scope}{w:Pos}{D:TI}{g:TG}{B:TT}{A:TE}{x:Str}
end
end L2
namespace L2
open PySem PySem.Spec PyProof.Rows PySem.W
section
variable{b:Program}{w:World}{A:Around}{E:Value->Shared->Prop}{s:Shared}
end
end L2
namespace L2
open PySem PySem.Spec PyProof.Rows PySem.W
section
variable{X:Cx}
def ziR(X:Cx)(f:Value)(l:List (Str×Value))(r:List V->Hp->VK->Prop):Prop:=
 ∀(b:List 0#l) (s:Shared) (σ:St) (H:Hp) (g:List V) (c:List Value) (Q:VK),Inv X b σ H s->Vals g c->r g H Q->wpAny 0#b X.A (call f c l) (EP X b σ Q) X.xe s
end
end L2
namespace L2
open PySem PySem.Spec PyProof.Rows
section
variable{X:Cx}
theorem zaG{K:W.Frag}(h:X.K=K)(hc:X.calm=true):xT X (.builtin "any") (yP K):=by subst h;exact Za hc
end
def SqQ(K:W.Frag)(H:Hp)(t:Bool)(a:Addr)(b:List V):Prop:=if t=true then SqT K H a b else SqL K H a b
section
variable{X:Cx}
end
end L2
namespace PySem
section
variable{b:Program}{w:World}{A:Around}{d:Addr}{g:Array DictEntry}{c:Nat}
end
end PySem
namespace L2
open PySem PySem.Spec PyProof.Rows
section
variable{X:Cx}
end
section
variable{X:Cx}
variable{o e:Expr}{l:List Expr}{to:TE}{t:TA}{g:Str}{b c:Pos}{id:String}{r:V->List V->Hp->VK->Prop}
end
end L2
namespace L2
open PySem PySem.Spec PyProof.Rows PySem.W
section
variable{X:Cx}
def zmA(g:TE):TE:=λσ H R=>g σ H λx c=>∃d b,x=.ref d/\c d=some (.dK b)/\∀o,R x (upd c d (.frz o (.dK b)))
theorem zjs{e:Expr}{w:TE}(D:PE X e w):PE X e (zmA w):=by
 intro g s σ H R I h;refine thn (D g s σ H _ I h) λv s1 ⟨x,A,l,G,E⟩=>?_
 obtain⟨d,c,e,hd,q⟩:=E;subst e;obtain⟨z,y,J,r,o,C,B,h1,h2⟩:=(show ObjOk X.prog X.w A s1.heap d (.dK c) from l.hok d _ hd)
 refine{.ref d,_,l.write (s:=s1) (t':=s1.toks) (h':=s1.heap) (x:=d) (e:=d) (o:=.frz o (.dK c)) (by rw[hd];exact True.intro) (.inl rfl) (λb u _ e=>e) ⟨o,h1⟩ ?_,G,q o}
 exact⟨h1,z,y,J,r,o,C,B,h1,h2⟩
inductive zb1(x:V)(c:List V)(H:Hp)(Q:VK):Prop
 | mk (d o b:_) (_:x=.ref d) (_:c=[]) (_:H d=some (.frz o (.dK b))) (_:∀p,H p=none->Q (.ref p) (upd H p (zbm p d))):zb1  x c H Q
theorem zdw:MtM X "dict.items" zb1:=by
 intro g s σ H x l v J Q I E D h;obtain⟨d,o,B,rfl,rfl,hd,q⟩:=h;cases E;cases D;obtain⟨L,lo,l,C,c⟩:=ZX I.hok (.inr ⟨o,hd⟩);have w:H s.heap.objs.size=none:=I.hok.fresh (zF _);refine call_meetsIn PySem.F.slot_dict_items c.typeIs PySem.F.entry_dict_items (PySem.F.args_dict_items_1 _) (meets_dict_items (qo X.prog X.w) d lo) {⟨l,c⟩,?_}
 exact{.ref s.heap.objs.size,_,I.laid (a:=s.heap.objs.size) (o:=zbm s.heap.objs.size d) (t':=s.toks) (λb u e=>qX _ e) (zF _) {{_,qQ _ rfl,rfl,rfl},{_,qQ _ rfl},λh1 h2 x e=>let ⟨o,A,r⟩:=x;{o,e o A,r}},rfl,q _ w}
end
def ItV(d:Addr)(o:Obj)(b:List (Key×V)):It:=
 {λi H=>H d=some (.frz o (.dK b))/\i<b.length,λi H x c=>∃T k v,x=.ref T/\H T=none/\c=upd H T (.tup [kV k,v])/\b[i]? =some (k,v),λi H=>H d=some (.frz o (.dK b))/\b.length<=i}
theorem zf1{P:Program}{w:World}{H:Hp}{h:Heap}{d:Addr}{o:Obj}{b:List (Key×V)}{l:Array DictEntry}{g:Nat}(ok:HOk P w H h)(e:H d=some (.frz o (.dK b)))(A:o.data=.dict l g) :
  (d==sysModules)=false/\∃c,KV b c/\h.DictAt (qo P w) d c g:=by
 obtain⟨e1,z,y,c,r,I,C,B,h1,h2,s,D,E,G⟩:=(show ObjOk P w H h d (.frz o (.dK b)) from ok d _ e)
 rw[e1] at h1;cases h1;rw[A] at s;cases s;exact⟨y,c,r,o,l,e1,h2,A,D,E,G⟩
theorem zc7{P:Program}{w:World}{K:W.Frag}{A:List Expr}{kk:Nat}{aa:Pos}(d c:Addr)(o:Obj)(g:List (Key×V))(es:Array DictEntry)(ep:Nat)(he:o.data=.dict es ep) :
  ZF P w K (.Tuple A kk aa) (ItV d o g) [c] c (λi h=>∃ok ov,IsItemIter h c d i g.length ep ok ov) where
 mem:=1e3
 obj:=λi h st b hb=>by
  have e:b=c:=by simpa using hb
  subst e;obtain⟨_,_,st⟩:=st;exact{_,st,λv z=>nomatch z}
 keep:=λi h N st k=>let ⟨a,b,st⟩:=st;{a,b,k c 1e3 _ st}
 item:=by
  intro X Q Y O hc i D s σ H E I G st hg;subst Q Y O;obtain⟨hd,hi⟩:=hg;obtain⟨ok,ov,st⟩:=st;obtain⟨lo,vs,r,J⟩:=zf1 I.hok hd he;have ln:=r.length;obtain⟨⟨k,v⟩,hx⟩:∃p,g[i]? =some p:={g[i],by simp[hi]}
  obtain⟨⟨k',u⟩,hy⟩:∃p,vs[i]? =some p:={vs[i]'(),1e3}
  obtain⟨p',e6,L,M⟩:=KV.get r hy;rw[hx] at e6;cases e6;have L:k=k':=L;subst L;have M:RelV v u:=M;rw[ln] at st;refine wpAny_pyNext_items_item st J hy λa0 N hk B hT ab l=>?_
  refine{_,rfl,wpAny_letOwnedTupleGo_items B λh2 U C=>?_}
  have eT:s.heap.objs.size≠c:=vL (zU st);have k2:∀b o,b∉[c]->s.heap.get? b=some o->h2.get? b=some o:=λb o hb q=>by
   have n1:b≠c:=λz=>hb (by simp[z])
   exact(C.2 b n1).trans (l b o n1 q)
  refine{.ref s.heap.objs.size,upd H s.heap.objs.size (.tup [kV k,v]),?_,rfl,{_,k,v,rfl,I.hok.fresh (zF _),rfl,hx},{_,_,by rw[ln];exact U},λb hb=>?_}
  .exact Je (s:=s) (h':=h2) (t':=s.toks) (its:=[a0,u]) I G (zF _) k2 (by rw[sizeLine_eq];exact(by decide:2<=16777216)) (.cons (ziM hk) (.cons M .nil)) (TupX.by ((C.2 _ eT).trans hT))
  .have T:b<s.heap.objs.size:=by
    rw[qm.mp hb];exact zU st
   rw[zp (qV T)];exact(G b hb).1
 done:=by
  intro X Q Y O hc i D s σ H E I G st hg;subst Q Y O;obtain⟨hd,hi⟩:=hg;obtain⟨ok,ov,st⟩:=st;obtain⟨lo,vs,r,J⟩:=zf1 I.hok hd he;have ln:=r.length;obtain⟨f0,f1,f2,f3,f4,f5⟩:=G c 1e3
  rw[ln] at st;exact wpAny_pyNext_items_end (I.ok.hd hc) st J (by simp;omega) λN eb=>{rfl,I.turned (t':=s.toks) (λb o hb e=>eb b o hb e) f0 f1 f3 f4 f5}
 self:=λ_ _ _ _ _ st h=>let ⟨_,_,st⟩:=st;kcp_self st h
section
variable{X:Cx}
def zlZ(g:TE):TI:=λσ H R=>g σ H λx c=>∃p d o b,x=.ref p/\c p=some (zbm p d)/\c d=some (.frz o (.dK b))/\R (ItV d o b) c
theorem zgU{l:Expr}{G:TE}{w:List Expr}{O:Nat}{Y:Pos}(N:PE X l G):PI X (.Tuple w O Y) l (zlZ G):=by
 intro A s σ H R I h;refine thn (N A s σ H _ I h) λv s1 ⟨x,B,g,U,T⟩=>?_
 obtain⟨p,d,o,c,e,hp,hd,q⟩:=T;subst e;cases U;obtain⟨hv,_,_⟩:=(show ObjOk X.prog X.w B s1.heap p (zbm p d) from g.hok p _ hp)
 obtain⟨e1,z,y,vs,r,o',D,C,h1,h2,E,J,L,M⟩:=(show ObjOk X.prog X.w B s1.heap d (.frz o (.dK c)) from g.hok d _ hd)
 rw[e1] at h1;cases h1;have ln:=r.length;refine wpAny_pyIter_items (knd:=qo X.prog X.w) (kvs:=vs) (ep:=C) hv ⟨o,D,e1,h2,E,J,L,M⟩ ?_
 refine{s1.heap.objs.size,[s1.heap.objs.size],_,_,B,rfl,g.kept (t':=s1.toks) (λb o e=>qX _ e),zc7 d _ o c D C E,{.none,.none,by rw[ln];exact qQ _ rfl},λb hb=>?_,q}
 have e:b=s1.heap.objs.size:=by simpa using hb
 subst e;exact g.fpOk (zF _) (g.hok.fresh (zF _))
end
theorem zhv{d:Addr}{o:Obj}{kvs:List (Key×V)}{n:Nat}{g:TG}{L:TT}{J:TE}{B:St}{R:List V->Hp->Prop}{H:Hp}(Pv:Nat->List V->Hp->Prop)(h0:Pv 0 [] H)
  (h1:∀i c H,Pv i c H->H d=some (.frz o (.dK kvs)))
  (hs:∀i k v c H T,kvs[i]? =some (k,v)->Pv i c H->H T=none->g (.ref T) B (upd H T (.tup [kV k,v])) λs E=>s.drop n=B.drop n/\L s E λb w=>if b=true then J s w λv G=>c.length<sizeLine/\Pv (i+1) (c++[v]) G else Pv (i+1) c w)
  (hd:∀c H,Pv kvs.length c H->c.length<=sizeLine/\R c H) :
  ∃W:Nat->Nat->List V->Hp->Prop,(∃m,W 0 m [] H)/\∀i m c l,W i m c l ->
   ((ItV d o kvs).stop i l/\c.length<=sizeLine/\R c l) \/
   ((ItV d o kvs).go i l/\∃M:List V->Hp->Prop,(∀c C,M c C->∃I,I<m/\W (i+1) I c C)/\∀x D,(ItV d o kvs).yld i l x D->g x B D λs E=>s.drop n=B.drop n/\L s E λb w=>
    if b=true then J s w λy G=>c.length<sizeLine/\M (c++[y]) G else M c w):=by
 refine{λi m c l=>m=kvs.length-i/\i<=kvs.length/\Pv i c l,{_,rfl,jv _,h0},?_}
 rintro i m c l ⟨rfl,hi,p⟩;by_cases A:i<kvs.length
 .refine .inr {{h1 i c l p,A},Pv (i+1),λY C O=>{_,(),rfl,A,O},λx D y=>?_}
  obtain⟨T,k,v,e1,N,e2,y⟩:=y;subst e1 e2;exact hs i k v c l T y p N
 .have e:i=kvs.length:=()
  subst e;obtain⟨Q,U⟩:=hd c l p;exact .inl {{h1 _ c l p,zF _},Q,U}
end L2
namespace L2
open PySem PySem.Spec PyProof.Rows PySem.W
section
variable{X:Cx}
end
end L2
namespace L2
open PySem PySem.Spec PyProof.Rows PySem.W
section
variable{X:Cx}
def Jk(p d:Addr):HO:=.ext λh=>h.IsValuesView p d
inductive ziD(x:V)(c:List V)(H:Hp)(Q:VK):Prop
 | mk (d b:_) (_:x=.ref d) (_:c=[]) (_:Rd H d (.dK b)) (_:∀p,H p=none->Q (.ref p) (upd H p (Jk p d))):ziD  x c H Q
theorem zdv:MtM X "dict.values" ziD:=by
 intro g s σ H x l v J Q I E D h;obtain⟨d,B,rfl,rfl,hd,q⟩:=h;cases E;cases D;obtain⟨L,lo,l,C,c⟩:=ZX I.hok hd;have w:H s.heap.objs.size=none:=I.hok.fresh (zF _);refine call_meetsIn PySem.F.slot_dict_values c.typeIs PySem.F.entry_dict_values (PySem.F.args_dict_values_1 _) (meets_dict_values (qo X.prog X.w) d lo) {⟨l,c⟩,?_}
 exact{.ref s.heap.objs.size,_,I.laid (a:=s.heap.objs.size) (o:=Jk s.heap.objs.size d) (t':=s.toks) (λb u e=>qX _ e) (zF _) {{_,qQ _ rfl,rfl,rfl},{_,qQ _ rfl},λh1 h2 x e=>let ⟨o,A,r⟩:=x;{o,e o A,r}},rfl,q _ w}
inductive Qg(c:List V)(H:Hp)(Q:VK):Prop
 | mk (a d:Addr) (b:List (Key×V)) (_:c=[.ref a]) (_:H a=some (Jk a d)) (_:Rd H d (.dK b)) (_:∀p,H p=none->Q (.ref p) (upd H p (.lst (b.map (·.2))))):Qg c H Q
theorem zaE(T:X.A.handled=none):xT X (.type "list") (Qg):=by
 intro E s σ H xs us Q I r h;obtain⟨a,d,A,rfl,O,hx,q⟩:=h;obtain⟨u,rfl,ru⟩:=Vals.one r;cases(show u=Value.ref a from ru)
 obtain⟨hv,_,_⟩:=(show ObjOk X.prog X.w H s.heap a (Jk a d) from I.hok a _ O)
 obtain⟨zz,hd,vs,B,L⟩:=ZX I.hok hx;obtain⟨D,J⟩:=L.dictAt;have ln:=B.length;refine PySem.W.kdl_call (PySem.W.kdl_values (prog:=X.prog) (w:=X.w) (knd:=qo X.prog X.w) (r:=a) (d:=d) (kvs:=vs) (ep:=D)) T ⟨hv,J⟩ () λh' tk b c l C g=>?_
 have U:H s.heap.objs.size=none:=I.hok.fresh (zF _);refine{.ref s.heap.objs.size,_,I.laid (a:=s.heap.objs.size) (o:=.lst (A.map (·.2))) (t':=tk) l (zF _) {by rw[zm];exact zz,b.toList,c,zbn ?_ ?_,by rw[C]},rfl,q _ U}
 .have z:=g.1
  have y:b.toList.length=b.size:=xR;rw[zm];omega
 .intro j u e
  rw[Qa] at e;obtain⟨k,e1⟩:=g.2 j u e;obtain⟨p,M,_,N⟩:=KV.get B e1;exact{p.2,by rw[qk,M];rfl,N}
end
end L2
namespace L2
open PySem PySem.Spec PyProof.Rows PySem.W
section
variable{c:Program}{w:World}{A:Around}{E:Value->Shared->Prop}{s:Shared}
inductive zd2(c:Program)(w:World)(A:Around)(s:Shared):List Value->List Value->Bool->Prop
 | nil:zd2 c w A s [] [] false
 | nl {y B}:zd2 c w A s [] (y::B) true
 | ln {x l}:zd2 c w A s (x::l) [] false
 | eq {x y l B b} (h:∀(Q:Bool->Shared->Prop) E,Q true s->wpAny (model c w) A (eqBool x y) Q E s) (t:zd2 c w A s l B b):zd2 c w A s (x::l) (y::B) b
 | ne {x y l B b} (h:∀(Q:Bool->Shared->Prop) E,Q false s->wpAny (model c w) A (eqBool x y) Q E s) (g:∀(Q:Value->Shared->Prop) E,Q (.bool b) s->wpAny (model c w) A (richCompare .Lt x y) Q E s):zd2 c w A s (x::l) (y::B) b
theorem eq_int(x y:Int)(t u:Tok){Q:Bool->Shared->Prop}(h:Q (decide (x=y)) s):wpAny (model c w) A (eqBool (.int x t) (.int y u)) Q E s:=by
 refine(qo c w).eqBool (a:=Sum.inl x) (b:=Sum.inl y) (yA ⟨t,rfl⟩) (yA ⟨u,rfl⟩) ?_
 rw[show decide ((Sum.inl x:Key)=Sum.inl y)=decide (x=y) from decide_eq_decide.mpr {λz=>vK z,λz=>by rw[z]}]
 exact h
theorem zhs(x y:Int)(t u:Tok){Q:Value->Shared->Prop}(h:Q (.bool (decide (x<y))) s):wpAny (model c w) A (richCompare .Lt (.int x t) (.int y u)) Q E s:=
 richCompare_gives (op:=.Lt) (typeIs_int s _ t) (typeIs_int s _ u) F.slot_int_lt F.entry_int_lt (F.args_int_lt_2 _ _) (gives_int_lt _ _ t u) (λx=>nomatch x) h
end
section
variable{b:Program}{w:World}{A:Around}{R:Result->Shared->Prop}{I S:Addr}{c g:List Addr}{n:Nat}{P:Nat->Value->Prop}{St:Nat->Heap->Prop}
end
end L2
namespace L2
open PySem PySem.Spec PyProof.Rows PySem.W
def WkR(H:Hp)(c:List V)(b:List (Int×List Int)):Prop:=c.length=b.length/\∀(j:Nat) q,b[j]? =some q->∃T U,c[j]? =some (.ref T)/\H T=some (.tup [.int q.1,.ref U])/\H U=some (.tup (q.2.map V.int))
theorem WkR.set{H:Hp}{s:List V}{l:List (Int×List Int)}{q:Int×List Int}{T U:Addr}{i:Nat}(h:WkR H s l)(e:H T=some (.tup [.int q.1,.ref U]))(B:H U=some (.tup (q.2.map V.int))):WkR H (s.set i (.ref T)) (l.set i q):=by
 refine{by rw[QD,QD,h.1],λj r b=>?_}
 by_cases c:i=j
 .subst c
  have g:=(zK.mp b).1;rw[QD] at g;rw[Wv g] at b;cases b;exact{T,U,Wv (by rw[h.1];exact g),e,B}
 .rw[Wq c] at b
  obtain⟨w,A,e1,e2,C⟩:=h.2 j r b;exact{w,A,by rw[Wq c];exact e1,e2,C}
section
variable{X:Cx}
end
end L2
namespace L2
open PySem PySem.Spec PyProof.Rows PySem.W
section
variable{X:Cx}
def zmD(r:V->List V->Hp->VK->Prop)(to:TE):TE:=λσ H Q=>to σ H λx b=>∃d,x=.ref d/\IsD b d/\r x [] b Q
theorem zfs{o:Expr}{to:TE}{b:Str}{c g:Pos}{id:String}{r:V->List V->Hp->VK->Prop}(B:Slot "dict" b id)(C:typeOf (.builtin id)=pure (.type "method_descriptor"))(G:MtM X id r)(J:PE X o to)
  (w:attributeBase o b X.env (eval o X.env)=eval o X.env:=by rfl) (A:(c.endLine==g.line)=true:=by rfl):PE X (.Call (.Attribute o b c) [] [] g) (zmD r to):=by
 intro l s σ H Q I h;refine wpAny_Call_method0_late w A (thn (J l s σ H _ I h) λv s1 ⟨x,E,D,M,d,e,hd,L⟩=>?_)
 subst e;cases M;obtain⟨h1,h2⟩:=zaA D hd;exact{"dict",id,zba,B,C,h1,h2.1,Wu rfl (PySem.evalArgs_none (G l s1 σ E (.ref d) [] _ [] Q D rfl .nil L))}
inductive Q3(P:Program)(w:World)(c:List V)(H:Hp)(Q:VK):Prop
 | mk (a:Addr) (b:List Key) (_:c=[.ref a]) (_:H a=some (zeP P w a b)) (_:Q (.int b.length) H):Q3 P w c H Q
theorem zdU:xT X (.builtin "len") (Q3 X.prog X.w):=by
 intro w s σ H T O Q I r h;obtain⟨a,l,rfl,hx,q⟩:=h;obtain⟨u,rfl,J⟩:=Vals.one r;cases(show u=Value.ref a from J)
 obtain⟨⟨o,B,c,M,t,g,hd,⟨_,D,E,G⟩,_,C,A,_⟩,_,_⟩:=(show ObjOk X.prog X.w H s.heap a (zeP X.prog X.w a l) from I.hok a _ hx)
 have ln:c.size=l.length:=by
  have e1:=G.length;have e2:=E.length_eq;have L:c.toList.length=c.size:=xR;omega
 have N:scanBound=4096:=rfl;refine call_len_set B g hd A () {.int l.length,H,I.kept (λb o e=>e),{_,by rw[ln]},q}
end
end L2
namespace L2
open PySem PySem.Spec PyProof.Rows
section
variable{X:Cx}
end
section
variable{b:Program}{w:World}{K:Type}[DecidableEq K]{c:KeyKind b w K}{A:Around}{E:Value->Shared->Prop}{s:Shared}
end
section
variable{X:Cx}
end
end L2
namespace L2
open PySem PySem.Spec PyProof.Rows PySem.W
theorem zdY(a:Value):argsOk "min" {[a],[(Str.ofString "default",.none)]}:=by unfold argsOk;kernel_rfl
section
variable{g:Program}{w:World}{A:Around}{R:Result->Shared->Prop}{I S:Addr}{B l:List Addr}{n:Nat}{P:Nat->Value->Prop}{St:Nat->Heap->Prop}
theorem zat(W:Walks g w A.in1 I B l n P St)(N:Nat->Nat->Bool)(J:Heap->Prop)(hJ:∀h C,J h->(∀b o,b∉l->b≠S->h.get? b=some o->C.get? b=some o)->J C)
  (hc:∀i j vi vj (s:Shared) (Q:Value->Shared->Prop) (E:Value->Shared->Prop),J s.heap->P i vi->P j vj->Q (.bool (N i j)) s->wpAny (model g w) A.in1 (richCompare .Lt vi vj) Q E s) (T:S∉B) :
  ∀(k j:Nat) (s:Shared) (D:Value) (c:Nat),n=j+1+k->St (j+1) s.heap->J s.heap->P (argBest N j) D->s.heap.get? S=some (seqObj "list" #[D,D] c) ->
   (∀v C Y,P (argBest N (n-1)) v->(∀b o,b∉l->b≠S->s.heap.get? b=some o->C.get? b=some o)->R (.ok (.ret v)) { s with heap:=C,toks:=Y }) ->
   codeAny (model g w) A (.builtin "min.loop" {[.ref I,.none,.ref S],[("default",.none)]}) R s:=by
 have nw:S∉l:=λh=>T (W.sub _ h)
 have nm:(toString "min" ++ toString ".loop" : String) = "min.loop" :=1e1
 intro k;induction k with
 | zero=>
  intro j s D c hn st j0 pb O hR;refine codeAny_builtin zaR ?_
  rw[Xr Zz _];show wpAny _ A.in1 (seqItems? (.ref S) >>= _) _ _ s;refine zk (ye O rfl ?_)
  show wpAny _ A.in1 (tryCatch (pyNext (.ref I)) _ >>= _) _ _ s;have a0:St n s.heap:=by rw[hn];exact st
  refine zk (QC (W.done s _ _ a0 λC Y H=>?_))
  show wpAny _ A.in1 (updateSeq S (λ_=>#[]) >>= _) _ _ _
  refine zk (wpAny_updateSeq (H S _ nw O) rfl (zk (Zs (zx ?_))))
  exact hR D _ Y (by rw[hn];exact pb) λb o b1 b2 e=>(QL _ _ (qD b2)).trans (H b o b1 e)
 | succ k ih=>
  intro j s D c hn st j0 pb O hR;refine codeAny_builtin zaR ?_
  rw[Xr Zz _];show wpAny _ A.in1 (seqItems? (.ref S) >>= _) _ _ s;refine zk (ye O rfl ?_)
  show wpAny _ A.in1 (tryCatch (pyNext (.ref I)) _ >>= _) _ _ s;refine zk (QC (W.item (j+1) s _ _ () st λv C Y pv U H=>?_))
  have G:=H S _ nw O;have j2:J C:=hJ _ _ j0 λb o b1 _ e=>H b o b1 e
  show wpAny _ A.in1 (tryCatch (holding [v,v] (richCompare .Lt v D >>= _)) _ >>= _) _ _ _;refine zk (QC (wv (zk (hc (j+1) (argBest N j) v D { s with heap:=C,toks:=Y } _ _ j2 pv pb ?_))))
  refine zk (wv (Zh (zk (Zs (zx ?_)))))
  cases hb:N (j+1) (argBest N j) with
  | true=>
   simp only[if_true];refine zk (wpAny_updateSeq G rfl (zk (Zs ?_)))
   rw[nm];have L:∀b o,b≠S->C.get? b=some o->(C.update S (Obj.mapSeq λ_=>#[v,v])).get? b=some o:=λb o b2 e=>(QL _ _ (qD b2)).trans e
   refine zx {plainId_quiet Zz _,ih (j+1) _ v _ () (W.frame _ _ _ U λb bf o e=>L b o (λz=>T (by rw[<- z];exact bf)) e) (hJ _ _ j2 λb o _ b2 e=>L b o b2 e) (by simp only[argBest,hb,if_true];exact pv) (QV _ G rfl) λv' h2 M p2 k2=>?_}
   exact hR v' h2 M p2 λb o b1 b2 e=>k2 b o b1 b2 (L b o b2 (H b o b1 e))
  | false=>
   simp only[QG,if_false];refine zk (Zs ?_)
   rw[nm];refine zx {plainId_quiet Zz _,ih (j+1) _ D c () U j2 (by simp only[argBest,hb,QG,if_false];exact pb) G λv' h2 M p2 k2=>?_}
   exact hR v' h2 M p2 λb o b1 b2 e=>k2 b o b1 b2 (H b o b1 e)
end
section
variable{X:Cx}
theorem Jx{id:String}{r:List V->Hp->VK->Prop}{x:Str}{p c T:Pos}{e B:Expr}{l:List Expr}{t:TA}(hc:ziR X (.builtin id) [(Str.ofString "default",.none)] r)(hg:Gl X x)(N:X.mg x=none)(hv:bootBuiltins x=some (.builtin id))(L:PA X (e::l) t)(hk:PE X B (tC .non))
  (O:x ≠ "__name__" :=by decide) (A:0#H=false:=by decide)
  (M:backTo c (starEach (e::l) X.env)=(false,eval e X.env)::backTo c (starEach l X.env):=by rfl)
  (g:(backTo c (starEach (e::l) X.env)).any (·.1)=false:=by rfl) :
  PE X (.Call (.Name x p) (e::l) [{some (Str.ofString "default"),B,T}] c) (tCB r t):=by
 intro b s σ H Q I h;refine wpAny_Call_Name_kw (wE I hg N hv ?_ O A)
 refine callWith_kw (thn (L c b s σ H _ I h) λus s1 ⟨C,D,E,r1,U⟩=>kws_cons (thn (hk b s1 σ D (λu w=>u=.non/\r C w Q) E ⟨rfl,U⟩) λv s2 ⟨u,w,G,ru,J,Y⟩=>kws_nil ?_)) M g rfl rfl
 subst J;cases(show v=Value.none from ru)
 exact hc b s2 σ w C us Q G r1 Y
end
end L2
namespace L2
open PySem PySem.Spec PyProof.Rows
section
variable{X:Cx}
end
end L2
namespace L2
open PySem PySem.Spec PyProof.Rows PySem.W
theorem zcG(f:Nat->Int):∀n,argBest (λi j=>decide (f i<f j)) n<=n/\∀j,j<=n->f (argBest (λi j=>decide (f i<f j)) n)<=f j
 | 0=>{zF _,λj c=>by rw[show j=0 by omega];exact yI _}
 | n+1=>by
  obtain⟨h1,h2⟩:=zcG f n;cases hb:decide (f (n+1)<f (argBest (λi j=>decide (f i<f j)) n)) with
  | true=>
   have e:argBest (λi j=>decide (f i<f j)) (n+1)=n+1:=by simp only[argBest,hb,if_true]
   rw[e];refine{zF _,λj c=>?_}
   have b:=qP hb;rcases Nat.lt_or_ge j (n+1) with z | z
   .have a:=h2 j ()
    omega
   .rw[show j=n+1 by omega];exact yI _
  | false=>
   have e:argBest (λi j=>decide (f i<f j)) (n+1)=argBest (λi j=>decide (f i<f j)) n:=by simp only[argBest,hb,QG,if_false]
   rw[e];refine{(),λj c=>?_}
   have b:=of_decide_eq_false hb;rcases Nat.lt_or_ge j (n+1) with z | z
   .exact h2 j ()
   .rw[show j=n+1 by omega];omega
section
variable{X:Cx}
inductive Qf(K:W.Frag)(c:List V)(H:Hp)(Q:VK):Prop
 | mk (p:Addr) (b:List Int) (_:c=[.ref p]) (_:SqL K H p 0#u) (_:(b=[]->Q .non H)) (_:∀m,m∈b->(∀k∈b,m<=k)->Q (.int m) H):Qf K c H Q
theorem JY(hc:X.calm=true)(hu:X.A.units+64<cLine):ziR X (.builtin "min") [(Str.ofString "default",.none)] (Qf X.K):=by
 intro af s σ H xs us Q I r h;obtain⟨p,l,rfl,hq,qn,q⟩:=h;obtain⟨u,rfl,ru⟩:=yc r;cases(show u=_ from ru)
 obtain⟨g,rv,pl,hz⟩:=I.list hq;have hl:=pl.isList;have O:=rv.length;have wl:(l.map V.int).length=l.length:=zm ..;have ab:g.length=l.length:=by rw[<- wl];first| exact O | exact O.symm
 have B:p<s.heap.objs.size:=let ⟨_,e,_⟩:=hl;zU e
 have nm:(toString "min" ++ toString ".loop" : String) = "min.loop" :=1e1
 have ah:X.A.in1.in1.units<cLine:=yM (za2 (by decide:2<=64) _) hu
 have ai:X.A.in1.units<cLine:=yM (za2 (by decide:1<=64) _) hu
 have tup:∀(j:Nat) v,g[j]? =some v->∃q t,v=Value.int q t/\l[j]? =some q:=λj v L=>by
  have ag:=(zK.mp L).1;have ek:l[j]? =some (l[j]'()):=qK _
  generalize l[j]'()=k at ek
  obtain⟨v',e4,e5⟩:=rv.get (show(l.map V.int)[j]? =some (.int k) by rw[qk,ek];rfl)
  rw[L] at e4;cases e4;obtain⟨t,rfl⟩:=e5;exact⟨k,t,rfl,ek⟩
 refine kmk_tree F.kind_min F.plain_min F.entry_min (zdY _) ?_
 show wpAny _ X.A.in1 (Builtin.Builtins.bindParams "min" ["key","default"] 0 {[],[(Str.ofString "default",.none)]} >>= _) _ _ s;refine zk (QA (show Builtin.Builtins.bindParams "min" ["key","default"] 0 {[],[(Str.ofString "default",.none)]}=pure [none,some .none] from rfl) (zk (zx (zk (wpAny_pyIter_list hl ?_)))))
 refine zk (wz ?_)
 rw[nm];have hI:s.heap.objs.size<(s.heap.push { cls:=.type "list_iterator",data:=.fields #[.ref p,.int 0 0] }).objs.size:=by rw[vH];exact QE _
 have J:(s.heap.push { cls:=.type "list_iterator",data:=.fields #[.ref p,.int 0 0] }).IsListIter s.heap.objs.size p 0:={_,qQ _ rfl,rfl,rfl};have E:(s.heap.push { cls:=.type "list_iterator",data:=.fields #[.ref p,.int 0 0] }).IsList p g.toArray:=hl.push _;have k1:∀b o,s.heap.get? b=some o->(s.heap.push { cls:=.type "list_iterator",data:=.fields #[.ref p,.int 0 0] }).get? b=some o:=λb o e=>qX _ e
 generalize s.heap.push { cls:=.type "list_iterator",data:=.fields #[.ref p,.int 0 0] }=h1 at hI J E k1;have W:=Xb (prog:=X.prog) (w:=X.w) (A:=X.A.in1.in1) (I.ok.hd hc) s.heap.objs.size p (qV B) g.toArray;have Y:=Xb (prog:=X.prog) (w:=X.w) (A:=X.A.in1) (I.ok.hd hc) s.heap.objs.size p (qV B) g.toArray;have D:h1.objs.size∉[s.heap.objs.size,p]:=by
  intro z;rcases qH.mp z with z | z
  .omega
  .exact wj _ (Nat.lt_trans B (qm.mp z▸hI))
 have hS:(h1.push { cls:=.type "list",data:=.seq ([]:List Value).toArray }).get? h1.objs.size=some (seqObj "list" #[] 0):=qQ _ rfl;refine zx {plainId_quiet Zz _,codeAny_builtin zaR ?_}
 rw[Xr Zz _];show wpAny _ _ (seqItems? (.ref h1.objs.size) >>= _) _ _ _;refine zk (ye hS rfl ?_)
 show wpAny _ _ (tryCatch (pyNext (.ref s.heap.objs.size)) _ >>= _) _ _ _;by_cases G:l=[]
 .have il:g.length=0:=by rw[ab,G];rfl
  have e0:g.toArray.size=0:=by rw[zX];exact il
  refine zk (QC (Y.done { s with heap:=h1.push { cls:=.type "list",data:=.seq ([]:List Value).toArray } } _ _ (by rw[e0];exact{J.at λo e=>qX _ e,E.push _}) λC tk kk=>?_))
  show wpAny _ _ (rule _ >>= _) _ _ _;refine zk (wb ?_)
  refine zx ?_
  exact{.non,H,I.kept (h':=C) (t':=tk) (λb o e=>kk b o (λz=>qV (zU e) (qm.mp z)) (qX _ (k1 b o e))),rfl,qn G}
 .have h0:0<l.length:=Wo.mpr G
  refine zk (QC (Y.item 0 { s with heap:=h1.push { cls:=.type "list",data:=.seq ([]:List Value).toArray } } _ _ (by rw[zX];omega) {J.at λo e=>qX _ e,E.push _} λv C tk pv ac kk=>?_))
  have nw:h1.objs.size∉[s.heap.objs.size]:=λz=>D (by simp at z;omega)
  have M:=kk _ _ nw hS;show wpAny _ _ (updateSeq h1.objs.size (λ_=>#[v,v]) >>= _) _ _ _
  refine zk (wpAny_updateSeq M rfl ?_)
  rw[nm];have T:∀b o,b≠h1.objs.size->C.get? b=some o->(C.update h1.objs.size (Obj.mapSeq λ_=>#[v,v])).get? b=some o:=λb o b2 e=>(QL _ _ (qD b2)).trans e
  have all:∀b o,s.heap.get? b=some o->b≠s.heap.objs.size/\b≠h1.objs.size:=λb o e=>{qV (zU e),qV (Nat.lt_trans (zU e) hI)}
  have j0:∀b o,s.heap.get? b=some o->(C.update h1.objs.size (Obj.mapSeq λ_=>#[v,v])).get? b=some o:=λb o e=>
   T b o (all b o e).2 (kk b o (λz=>(all b o e).1 (qm.mp z)) (qX _ (k1 b o e)))
  refine zx {plainId_quiet Zz _,zat (S:=h1.objs.size) Y (λi j=>decide (l.getD i 0<l.getD j 0)) (λh=>∀b o,s.heap.get? b=some o->h.get? b=some o) (λh h2 a b c o e=>b c o (λz=>(all c o e).1 (qm.mp z)) (all c o e).2 (a c o e)) ?_ D (g.length-1) 0 _ v _ (by rw[zX];omega) (Y.frame _ _ _ ac λb bf o e=>T b o (λz=>D (by rw[<- z];exact bf)) e) j0 pv (QV _ M rfl) λv' h2 ae p2 k2=>?_}
  .intro i j vi vj s2 Q2 E2 jj hi L N
   have ei:g[i]? =some vi:=by simpa using hi
   have ej:g[j]? =some vj:=by simpa using L
   obtain⟨qi,ti,rfl,fi⟩:=tup i vi ei;obtain⟨qj,tj,rfl,fj⟩:=tup j vj ej;rw[Zm,fi,Zm,fj] at N;exact zhs _ _ _ _ N
  .rw[zX] at p2
   have a0:g.length=l.length:=()
   have e2:g[argBest (λi j=>decide (l.getD i 0<l.getD j 0)) (l.length-1)]? =some v':=by
    rw[<- a0];simpa using p2
   obtain⟨hm,aa⟩:=zcG (λi=>l.getD i 0) (l.length-1)
   obtain⟨m,t,rfl,em⟩:=tup _ _ e2;have eg:l.getD (argBest (λi j=>decide (l.getD i 0<l.getD j 0)) (l.length-1)) 0=m:=by rw[Zm,em];rfl
   refine{.int m,H,I.kept (h':=h2) (t':=ae) (λb o e=>k2 b o (λz=>(all b o e).1 (qm.mp z)) (all b o e).2 (j0 b o e)),⟨t,rfl⟩,q m (qz em) λk hk=>?_}
   obtain⟨j,L,ej⟩:=List.getElem_of_mem hk;have:=aa j ()
   rw[eg,Zm,qK L,ej] at this;exact this
end
end L2
namespace L2
open PySem PySem.Spec PyProof.Rows
section
variable{X:Cx}
end
section
variable{b:Program}{w:World}{A:Around}{E:Value->Shared->Prop}{s:Shared}
theorem zaC{t:Addr}{c:List Value}{G:List Value->Shared->Prop}(H:IsTup s.heap t c.toArray)(z:c.length<=sizeLine)
  (k:G c { s with heap:=(s.heap.push (seqObj "list" #[] 0)).update s.heap.objs.size (Obj.mapSeq (·++c.toArray)) }):wpAny 0#j A (collect (.ref t)) G E s:=by
 obtain⟨l,D,B,m,C⟩:=id H;unfold collect;refine zk (wpAny_runValue (codeAny_builtin entry_proto_collect' ?_))
 show wpAny _ _ (do again (.builtin "list.__iadd__" {[<- newList [],.ref t],[]})) _ _ s
 refine zk (wpAny_newList (zx {Code.quiet_builtin _ (by decide +kernel),codeAny_builtin entry_list_iadd' ?_}))
 have e1:(s.heap.push (seqObj "list" #[] 0)).get? t=some l:=qX _ D;have g:(s.heap.push (seqObj "list" #[] 0)).get? s.heap.objs.size=some (seqObj "list" #[] 0):=qQ _ rfl;show wpAny _ _ (Builtin.List.listExtendWith (.ref s.heap.objs.size) (.ref t) _) _ _ { s with heap:=s.heap.push (seqObj "list" #[] 0) };unfold Builtin.List.listExtendWith;refine zk (wpAny_typeOf (T:= "tuple") ⟨l,e1,B⟩ ?_)
 rw[zC (by rw[show(Value.type "tuple" == Value.type "tuple")=true from rfl,V7])]
 refine zk (listItems_at e1 C (zk (listItems_at g rfl ?_)))
 rw[zw 1e3]
 refine zk (listUpdate_at g rfl (zx ?_) (jv _) (by show(#[]++c.toArray).size<=sizeLine+1;simp;omega))
 refine zk (wpAny_load (get?_update_seq g _) ?_)
 show wpAny _ _ (pure ((#[]:Array Value)++c.toArray).toList) G E _;have e:((#[]:Array Value)++c.toArray).toList=c:=1e3
 rw[e];exact zx k
end
section
variable{X:Cx}
inductive yk(K:W.Frag)(g:List V)(H:Hp)(Q:VK):Prop
 | mk (a:Addr) (c:List Int) (_:g=[.ref a]) (_:SqT K H a (c.map V.int)) (_:c.length<64) (_:∀(p:Addr) (b:List Int),H p=none->b.Perm c->b.Pairwise (·<= ·)->Q (.ref p) (upd H p (.lst 0#u))):yk K g H Q
theorem XJ:xT X (.builtin "sorted") (yk X.K):=by
 intro w s σ H O N Q I r h;obtain⟨a,L,rfl,hx,J,q⟩:=h;obtain⟨u,rfl,G⟩:=Vals.one r;cases(show u=Value.ref a from G)
 obtain⟨b,A,E,hz⟩:=I.tuple hx;have g:=A.length;rw[zm] at g;refine Calls.call_function_entry kind_sorted plain_sorted entry_sorted (args_sorted1 _) ?_
 unfold Builtin.«sorted»;refine zk (m:=checkCount "sorted" 1 1 _) (zx (zk (zaC E (by rw[sizeLine_eq];omega) (zk (wpAny_newList ?_ (by rw[sizeLine_eq];omega))))))
 have B:((s.heap.push (seqObj "list" #[] 0)).update s.heap.objs.size (Obj.mapSeq (·++b.toArray))).objs.size=s.heap.objs.size+1:=by rw[Heap.size_update,size_push']
 have at1:(((s.heap.push (seqObj "list" #[] 0)).update s.heap.objs.size (Obj.mapSeq (·++b.toArray))).push (seqObj "list" b.toArray 0)).get? 0#C=some (seqObj "list" b.toArray 0):=by
  rw[<- B];exact qQ _ rfl
 rw[show(Value.ref ((s.heap.push (seqObj "list" #[] 0)).update s.heap.objs.size (Obj.mapSeq (·++b.toArray))).objs.size)=Value.ref 0#C from congrArg Value.ref B]
 refine zk (wv (yg slot_list_sort {_,at1,rfl} entry_list_sort (list_sort_tree at1 (JM A) () λc l a1 a2 a3=>{_,rfl,zx {_,rfl,?_}}) (args_list_sort _)))
 obtain⟨e,C⟩:=sortedAll_at s.heap b c;have D:H 0#C=none:=I.hok.fresh (QB _);refine{.ref 0#C,_,I.laid (a:=s.heap.objs.size+1) (o:=.lst (l.map V.int)) (t':=s.toks) (λ_ _=>sortedAll_old) (QB _) {?_,c.toList,e,Jj a1,?_},rfl,q _ l D a2 a3}
 .rw[zm,a2.length_eq,sizeLine_eq];omega
 .exact C.trans (by simp[seqObj])
end
theorem zeb(s D g:Expr)(A:List Expr)(l:Scope)(B:Pos)(C w:Value)(b:Env) :
  compTurn (.SetComp s [{D,g,A,0}] l B) 0 C w b=(do
   standAt g.pos
   match<-pyNext C with
   | none=>pure (.done .next)
   | some v=>
    letOwnedTupleGo D C v
    assign D b v
    let mut ok:=true
    for c in A do
     if ok then ok<-isTrue c b (eval c b)
    if ok then
     (do let v<-eval s b;standAt s.pos;let _<-call (.builtin "set.add") [w,v])
    again (.compLoop (.SetComp s [{D,g,A,0}] l B) 0 C w b)):=1e2
section
variable{l:Program}{w:World}{A:Around}{E:Value->Shared->Prop}{R:Result->Shared->Prop}{s:Shared}
theorem zdc{D J c G rest b H I C g}
  (h0:codeAny 0#D A (.compLoop (.SetComp D ({J,c,G,0}::rest) b H) 0 I C g) R s)
  (h:wpAny 0#D A (pyIter I) (λL M=>codeAny 0#D A (.compLoop (.SetComp D ({J,c,G,0}::rest) b H) 0 L C g) R M) (notedBy 0#D A g λx M=>R (.error x) M) s) :
  codeAny 0#D A (.compStart (.SetComp D ({J,c,G,0}::rest) b H) 0 I C g) R s:=by
 refine codeAny_of_tree (show wpAny _ A ((compStart (.SetComp D ({J,c,G,0}::rest) b H) 0 I C g).onRaise (λx=>do noteFrame x g;standAt theWindowsPlace)) _ _ s from wpAny_notedAt ?_)
 unfold compStart;refine(show wpAny _ A (ask >>= _) _ _ s from zk (wpAny_askSetting (wpAny_ite ?_)))
 split
 .first
   | exact zx ⟨rfl,h0⟩
   | exact zk (zx (zx ⟨rfl,h0⟩))
 .first
   | exact zk (wb (zk (wP (zk (ja h (λ_ _ q=>zx ⟨rfl,q⟩) λ_ _ x=>x)))))
   | (refine zk (wb ?_)
      exact(show wpAny _ _ (standAt c.pos >>= _) _ _ s from zk (wP (zk (ja h (λ_ _ q=>zx ⟨rfl,q⟩) λ_ _ x=>x)))))
theorem zdi{C U D:Expr}{G:List Expr}{c:Scope}{I:Pos}{M g:Value}{b:Env}(J:Nat->Shared->Prop)
  (L:∀n s,J n s->wpAny 0#D A (pyNext M) (λr s1=>match r with
   | none=>R (.ok .next) s1
   | some v=>wpAny 0#D A (letOwnedTupleGo U M v) (λ_ s2=>wpAny 0#D A (assign U b v) (λ_ s3=>
     wpAny 0#D A (vS G b) (λok N=>
      if ok=true then wpAny 0#D A (eval C b) (λx O=>
       wpAny 0#D A (call (.builtin "set.add") [g,x]) (λ_ T=>∃m,m<n/\J m T) 0#f O) 0#f N
      else ∃m,m<n/\J m N) 0#f s3) 0#f s2) 0#f s1) 0#f s)
  (n:Nat) (h:J n s):codeAny 0#D A (.compLoop (.SetComp C [{U,D,G,0}] c I) 0 M g b) R s:=by
 have H:∀{α:Type} {t:Sem α} {Q:α->Shared->Prop} {E:Value->Shared->Prop} {s:Shared},wpAny 0#D A t Q 0#f s->wpAny 0#D A t Q E s:=λx=>ja x (λ_ _ q=>q) λ_ _ q=>q.elim
 refine codeAny_loop rfl J (λk u hJ=>?_) n h
 refine(show wpAny _ A ((compTurn (.SetComp C [{U,D,G,0}] c I) 0 M g b).onRaise (λx=>do noteFrame x b;theTreesLotGoes x)) _ _ u from wpAny_noted ?_)
 rw[zeb];refine zk (wP (zk (H (ja (L k u hJ) (λr s1 h1=>?_) λ_ _ q=>q))))
 cases r with
 | none=>exact zx h1
 | some v=>
  refine zk (H (ja h1 (λ_ s2 h2=>zk (H (ja h2 (λ_ s3 h3=>zk (H (ja h3 (λok N h4=>?_) λ_ _ q=>q))) λ_ _ q=>q))) λ_ _ q=>q))
  cases ok with
  | false=>exact zx ⟨rfl,h4⟩
  | true=>
   have Y:wpAny 0#D A (eval C b) (λx O=>wpAny 0#D A (call (.builtin "set.add") [g,x]) (λ_ T=>∃m,m<k/\J m T) 0#f O) 0#f N:=h4
   refine zk (zk (H (ja Y (λx O h5=>zk (wP (zk (H (ja h5 (λ_ T h6=>zx (zx ⟨rfl,h6⟩)) λ_ _ q=>q))))) λ_ _ q=>q)))
variable{K:Type}[DecidableEq K]{B:KeyKind l w K}
theorem zmG{a:Addr}{L:List K}{k:K}{x:Value}{b:Bool}{Q:Value->Shared->Prop}(C:B.is k x=true)(J:x.scannable=true)(N:SetX B b s.heap a L)(D:L.length+1<scanBound)
  (h:∀G M,Heap.SameBut a s.heap G->SetX B b G a (wB L k)->Q .none { s with heap:=G,toks:=M }):wpAny 0#D A (call (.builtin "set.add") [.ref a,x]) Q E s:=by
 obtain⟨o,O,hb⟩:=id N;obtain⟨es,ep,t,H,_⟩:=id hb;refine yg F.slot_set_add ⟨o,O,H.1⟩ F.entry_set_add ?_ (F.args_set_add_2 _ _)
 have ty:s.TypeIs (.ref a) "set" :=⟨o,O,H.1⟩;unfold Builtin.«set.add»;generalize I:setAdd=Y;obtain⟨hp,g,d,M,os⟩:=s;wp_walk
 subst I;refine(show wpAny _ _ (setAdd a x) _ _ _ from wv (zk (B.pyHash C ?_)))
 refine zmM (s:={hp,g,d,M+1,os}) C J N D (λG c T U=>?_)
 exact zx {_,rfl,h G _ T U}
theorem zhq{Q:Value->Shared->Prop}(h:Q (.ref s.heap.objs.size) { s with heap:=s.heap.push (zeO w) }):wpAny 0#D A (newSet (.type "set")) Q E s:=by
 unfold newSet setsByText;refine zk (zk (wpAny_askSetting (zx ?_)))
 dsimp only;simp only[newObj];exact zk (wpAny_alloc (zx h))
end
def tSC(P:Program)(w:World)(Y:TI)(n:Nat)(E:List Nat)(g:TG)(U:TT)(T:TE):TE:=λσ H Q=>Y σ H λJ L=>
 ∃W:Nat->Nat->List Key->Hp->Prop,(∃m,W 0 m [] L)/\∀i m l c,W i m l c ->
  (J.stop i c/\∀D,c D=none->Q (.ref D) (upd c D (zeP P w D l))) \/
  (J.go i c/\∃N:List Key->Hp->Prop,(∀I A,N I A->∃G,G<m/\W (i+1) G I A)/\∀x B,J.yld i c x B->g x (upS n E σ) B λs M=>s.drop n=(upS n E σ).drop n/\U s M λb C=>
   if b=true then T s C λy O=>∃k:Key,y=kV k/\l.length+1<4096/\N (wB l k) O else N l C)
section
variable{X:Cx}{A L w:Expr}{E:List Expr}{l:Scope}{G:Pos}{U:TI}{g:TG}{O:TT}{M:TE}
theorem zfU{k:Key}{u:Value}(r:RelV (kV k) u):u.scannable=true:=by
 cases k with
 | inl i=>obtain⟨t,rfl⟩:=r;rfl
 | inr i=>obtain⟨t,rfl⟩:=r;rfl
theorem zlo(own fr:List Str)(js:List Nat)(hc:X.calm=true)(hk:l.kind=.function)(hb:Z6 l.names X.env.scope.names X.N fr js=true)(hi:PI X L w U)
  (hg:∀C s H ex,PG (zQ X (own++fr) l C s H ex) L g) (hf:∀C s H ex,PF (zQ X (own++fr) l C s H ex) E O) (he:∀C s H ex,PE (zQ X (own++fr) l C s H ex) A M)
  (hs:∀x,foldedSetIterable w X.env x=pure x:=by intro _;rfl):PE X (.SetComp A [{L,w,E,0}] l G) (tSC X.prog X.w U own.length js g O M):=by
 intro aa s σ H Q I h;have B:=YY hb;have af:∀y∈l.names,y.2=NameKind.free->∃c,X.env.cells.lookup y.1=some c:=λy hy e=>I.ok.has y.1 (B.free y hy e)
 rw[arm_eval_SetComp];refine wpAny_comprehension_free (use:=none) rfl hs (zcD af) hk (λy hy e=>B.loc y hy e) (thn (hi aa s σ H _ I h) λv s1 h1=>thn h1 λbu s2 h2=>?_)
 obtain⟨it,Y,tn,J,H2,e,I2,T,ap,f2,W,⟨m0,w0⟩,bc⟩:=h2;subst e;have fl:∀b∈Y,b<s2.heap.objs.size:=λb hb=>let ⟨o,e,_⟩:=T.obj _ _ ap b hb;zU e
 refine zhq (wpAny_newFunctionEnv B.cell (by intro y hy;simp at hy) (λh1 am an=>?_) hk)
 dsimp only at am an ⊢;have b0:SetX (qo X.prog X.w) (zdz X.w) (s2.heap.push (zeO X.w)) s2.heap.objs.size []:=zeN s2.heap;have sD:=I2.fpOk (zF s2.heap.objs.size) (I2.hok.fresh (zF s2.heap.objs.size));generalize e3:s2.heap.push (zeO X.w)=h3 at am an b0 ⊢;have k3:∀b o,s2.heap.get? b=some o->h3.get? b=some o:=λb o e=>by rw[<- e3];exact qX _ e
 have k4:∀b o,h3.get? b=some o->h1.get? b=some o:=λb o e=>an.extBut b o (qV (zU e)) (qX _ e)
 have I3:Inv X aa σ H2 { s2 with heap:=h3 }:=I2.kept (t':=s2.toks) k3;have hz:h3.objs.size=s2.heap.objs.size+1:=by rw[<- e3,vH]
 have al:s2.heap.objs.size≠h3.objs.size:=by rw[hz];exact qV (QE _)
 generalize eD:s2.heap.objs.size=D at *
 have fD:∀b∈Y,D≠b:=λb hb=>vL (fl b hb)
 have f3:∀b∈D::Y,vc X aa H2 b:=λb hb=>(qH.mp hb).elim (λz=>z▸sD) (f2 b)
 have I4:Inv (zQ X (own++fr) l h3.objs.size { s2 with heap:=h3,toks:=s2.toks } H2 (D::Y)) [] (upS own.length js σ) H2 { s2 with heap:=h1,toks:=s2.toks+([]:List (Str×Value)).length }:=
  zaH own fr js I3 B hk f3 (λb hb=>by
   show b<h3.objs.size;rw[hz];exact(qH.mp hb).elim (λz=>z▸QE _) λz=>zaX (fl b z)) rfl am k4
 generalize eC:h3.objs.size=C at *
 have hx:∀b∈D::Y,∀x c,(xA X.env.cells l.names []).lookup x=some c->c≠b:=λb hb x c e=>(f3 b hb).2.2.2.2.1 x c (jy e af)
 have bo:∀b∈D::Y,b∉frs X.stack:=I4.ok.exfs;have ar:∀{a0:List 0#l} {H':Hp} {b:Addr},b∈D::Y->H' b=none->(∀p∈a0,p.1≠b)->vc 0#i a0 H' b:=λ{a0 H' b} hb hn hp=>
  {hn,(I4.ok.exf b hb).1,bo b hb,.inl hb,λx c e=>hx b hb x c e,λp h=>hp p (by simpa using h)}
 have ah:∀s4:Shared,s4={ s2 with heap:=h1,toks:=s2.toks+([]:List (Str×Value)).length } ->
   codeAny 0#b X.A (.compLoop (.SetComp A [{L,w,E,0}] l G) 0 (.ref it) (.ref D) (compEnvC l (xA X.env.cells l.names []) C X.env))
    (compPost 0#b X.A X.xe none (EP X aa σ Q) (.ref D) C) s4:=by
  intro s4 e4;refine zdi (λn s'=>∃i ks H',Inv 0#i [] (upS own.length js σ) H' s'/\tn i s'.heap/\(∀b∈Y,H' b=none)/\H' D=none/\SetX (qo X.prog X.w) (zdz X.w) s'.heap D ks/\W i n ks H') ?_ m0 ?_
  .rintro n s5 ⟨i,ks,H5,I5,az,as,bg,bq,w5⟩
   obtain⟨o5,av,ac⟩:=id bq;have nc:∀v,o5.data≠.cell v:=λv q=>by
    obtain⟨es,ep,t,_,hd,_⟩:=ac;rw[hd] at q;cases q
   have aq:=I5.pinned (fp:=[D]) (λb hb=>by rw[qm.mp hb];exact ar qJ bg (λp hp=>absurd hp 1e3)) (λb hb=>by
    rw[qm.mp hb];exact{_,av,nc})
   have pD:∀p∈[]++ju [D] s5.heap,p.1=D:=λp hp=>by
    rw[wx] at hp;exact qm.mp (wL hp).1
   have mD:(D,o5)∈[]++ju [D] s5.heap:=by
    rw[wx];exact jW (qm.mpr rfl) av
   have ak:∀{H':Hp},(∀b∈Y,H' b=none)->∀b∈Y,vc 0#i ([]++ju [D] s5.heap) H' b:=λhn b hb=>ar (xg _ hb) (hn b hb) λp hp=>by
    rw[pD p hp];exact fD b hb
   rcases bc i n ks H5 w5 with ⟨stop,q⟩ | ⟨go,N,hN,step⟩
   .refine thn (T.done 0#i rfl rfl rfl hc i _ s5 _ H5 _ aq (ak as) az stop) λr s6 ⟨hr,I6⟩=>?_
    subst hr;obtain⟨m6,bj,_⟩:=I6.loc;refine{m6,bj,λh7 bm=>?_}
    obtain⟨o6,ax,_⟩:=I6.pin (D,_) (qW _ mD);have k7:∀b o,b≠C->s6.heap.get? b=some o->h7.get? b=some o:=λb o hb e=>bm.extBut b o hb e
    have br:SetX (qo X.prog X.w) (zdz X.w) h7 D ks:={o5,k7 D _ al o6,ac};refine{.ref D,upd H5 D (zeP X.prog X.w D ks),?_,rfl,q D ax}
    refine I3.call' (s':={ s6 with heap:=h7 }) (ch:=D::Y) I6.os (WL (zd9 I6.base (Zt eC) k7) qJ sD.1) (Ve (zct I6.hok I6.free k7) ax {br,?_,λh1 h2 x e=>x.at e}) I6.bare λb hb=>?_
    .exact{o5,k7 D _ al o6}
    .obtain⟨_,g1,_,g3,g4,g5⟩:=f3 b hb
     exact⟨g3,g1,g4,g5⟩
   .refine thn (T.item 0#i rfl rfl rfl hc i _ s5 _ H5 _ aq (ak as) az go) λr s6 ⟨u,hr,h6⟩=>?_
    subst hr;refine thn h6 λ_ s7 ⟨x,H7,I7,r7,y7,ae,bf⟩=>?_
    have be:=I7.pinned (ak bf) (T.obj _ _ ae);refine thn (hg _ _ _ _ _ s7 _ H7 x u _ be r7 (step x H7 y7)) λ_ s8 ⟨σ8,H8,I8,bh,q8⟩=>?_
    refine thn (hf _ _ _ _ _ s8 σ8 H8 _ I8 q8) λok s9 ⟨H9,I9,q9⟩=>?_
    have aj:∀{H':Hp} {s':Shared},Inv 0#i (([]++ju [D] s5.heap)++ju Y s7.heap) σ8 H' s' ->
      Inv 0#i [] (upS own.length js σ) H' s':=λ{H' s'} J=>by
     refine(J.unpinned).unpinned.weak (I5.len.trans J.len.symm) λk v e=>?_
     obtain⟨hn,e1,_⟩:=ZH e;rw[<- bh,Wm] at e1;rw[<- e1];congr 1
     omega
    have mF:∀b∈Y,∀o,s7.heap.get? b=some o->(b,o)∈([]++ju [D] s5.heap)++ju Y s7.heap:=λb hb o e=>qW _ (jW hb e)
    have aw:=qw (ju Y s7.heap) mD;have au:∀{H':Hp} {s':Shared},Inv 0#i (([]++ju [D] s5.heap)++ju Y s7.heap) σ8 H' s'->∀b∈Y,H' b=none:=λ{H' s'} J b hb=>by
     obtain⟨o,e,_⟩:=T.obj _ _ ae b hb;exact(J.pin (b,o) (qW _ (mF b hb o e))).2.1
    cases ok with
    | false=>
     have ao:N ks H9:=by simpa using q9
     obtain⟨m',hm,w'⟩:=hN _ _ ao;obtain⟨o9,bn,_⟩:=I9.pin (D,_) (qW _ aw);exact{m',hm,i+1,ks,H9,aj I9,T.keep _ _ _ ae λb hb o e=>(I9.pin (b,o) (qW _ (mF b hb o e))).1,au I9,bn,⟨o5,o9,ac⟩,w'}
    | true=>
     have ao:M σ8 H9 λy H6=>∃k:Key,y=kV k/\ks.length+1<4096/\N (wB ks k) H6:=by simpa using q9
     refine thn (he _ _ _ _ _ s9 σ8 H9 _ I9 ao) λyv bv ⟨y,bd,ab,ay,ky,ey,bi,bs⟩=>?_
     subst ey;obtain⟨m',hm,w'⟩:=hN _ _ bs;obtain⟨bp,ai,_⟩:=ab.pin (D,_) (qW _ aw);refine zmG (yA ay) (zfU ay) ⟨o5,bp,ac⟩ bi λbt bb ag ba=>?_
     refine{m',hm,i+1,wB ks ky,bd,?_,T.keep _ _ _ ae λb hb o e=>ag.extBut b o (qD (fD b hb)) (ab.pin (b,o) (qW _ (mF b hb o e))).1,au ab,ai,ba,w'}
     exact(aj ab).turned (t':=bb) (it:=D) (λb o hb e=>ag.extBut b o hb e) ai al (.inl qJ) (λx c e=>hx D qJ x c e) λp hp=>absurd (show p∈([]:List 0#l) from hp) 1e3
  .subst e4
   exact{0,[],H2,I4,T.keep _ _ _ ap λb hb o e=>k4 b o (k3 b o e),λb hb=>(f2 b hb).1,sD.1,b0.at λo e=>k4 _ _ e,w0}
 exact zdc (ah _ rfl) (T.self X.A 0 _ _ _ (T.keep _ _ _ ap λb hb o e=>k4 b o (k3 b o e)) (ah _ rfl))
end
section
variable{X:Cx}{x y:Str}{B D I:Pos}{A:Nat}{g c:Expr}{l:List Expr}{b:Scope}{w:Pos}{J:TI}{G:TT}{E:TE}
theorem zjq(M:List Str)(N:List Nat)(hc:X.calm=true)(hk:b.kind=.function)(hb:wa b.names X.env.scope.names X.N [x,y] M N=true)(U:PI X (.Tuple [.Name x B,.Name y D] A I) c J)
  (T:∀C s H L,PF (zQ X ([x,y]++M) b C s H L) l G) (Q:∀C s H L,PE (zQ X ([x,y]++M) b C s H L) g E)
  (hs:∀x,foldedSetIterable c X.env x=pure x:=by intro _;rfl):PE X (.SetComp g [{.Tuple [.Name x B,.Name y D] A I,c,l,0}] b w) (tSC X.prog X.w J 2 N (Q8 X.K 2 (xz (xb 0) (xz (xb 1) JP))) G E):=by
 obtain⟨h1,h2,O⟩:=xM hb;refine zlo [x,y] M N hc hk h1 U (λC s H L=>?_) T Q hs
 exact qE (X:=zQ X ([x,y]++M) b C s H L) hc (zn (jK (h2 x 1e3) O rfl) (zn (jK (h2 y 1e3) O rfl) z7))
end
theorem zi9{K:W.Frag}{a:Addr}{xs:List V}{g:TG}{L:TT}{J:TE}{B:St}{n:Nat}{R:List Key->Hp->Prop}{H:Hp}(Pv:Nat->List Key->Hp->Prop)(h0:Pv 0 [] H)
  (h1:∀i c H,Pv i c H->SqT K H a xs)
  (hs:∀i x c H,xs[i]? =some x->Pv i c H->g x B H λs E=>s.drop n=B.drop n/\L s E λb w=>
   if b=true then J s w λv G=>∃k:Key,v=kV k/\c.length+1<4096/\Pv (i+1) (wB c k) G else Pv (i+1) c w)
  (hd:∀c H,Pv xs.length c H->R c H) :
  ∃W:Nat->Nat->List Key->Hp->Prop,(∃m,W 0 m [] H)/\∀i m c l,W i m c l ->
   ((Itt K a).stop i l/\R c l) \/
   ((Itt K a).go i l/\∃N:List Key->Hp->Prop,(∀c C,N c C->∃I,I<m/\W (i+1) I c C)/\∀x D,(Itt K a).yld i l x D->g x B D λs E=>s.drop n=B.drop n/\L s E λb w=>
    if b=true then J s w λy G=>∃k:Key,y=kV k/\c.length+1<4096/\N (wB c k) G else N c w):=by
 fail"a"
 rintro i m c l ⟨rfl,Q,p⟩;have q:=h1 i c l p;by_cases A:i<xs.length
 .refine .inr {{xs,xs[i],q,by simp[A]},Pv (i+1),λO C M=>{_,(),rfl,A,M},λx D y=>?_}
  obtain⟨e,y⟩:=y;subst e;exact hs i x c _ (y xs q) p
 .have e:i=xs.length:=()
  subst e;exact .inl {{xs,q,zF _},hd c l p}
section
variable{X:Cx}
end
section
variable{X:Cx}{b:Pos}
end
end L2
namespace L2
open PySem PySem.Spec PyProof.Rows PySem.W
def Zb:Option Int->V
 | some i=>.int i
 | none=>.non
theorem zcy{k:Int}{t:Tok}:∀{g:List (Option Int)} {b:List Value},Vals (g.map Zb) b->∀y∈b,MeetsSeq.EqGives y (.int k t) (isInt k y)
 | [],b,h=>by cases h;intro y hy;cases hy
 | n::g,b,h=>by
  cases h with
  | cons r q=>
   intro y hy;rcases qH.mp hy with z | z
   .subst z
    cases n with
    | some i=>
     obtain⟨u,rfl⟩:=r;exact MeetsSeq.EqGives.int i k u t
    | none=>
     cases r;exactλc w A E s Q h=>PySem.SeqAt.EqAt.none_int (A:=A) (s:=s) k t c w E Q h
   .exact zcy q y z
theorem JW{k:Int}:∀{c:List (Option Int)} {b:List Value},Vals (c.map Zb) b->b.countP (isInt k)=c.count (some k)
 | [],b,h=>by cases h;rfl
 | n::c,b,h=>by
  cases h with
  | cons r q=>
   rw[List.countP_cons,ww,JW q];cases n with
   | some i=>
    obtain⟨u,rfl⟩:=r;rfl
   | none=>
    cases r;rfl
section
variable{X:Cx}
inductive zb4(x:V)(g:List V)(H:Hp)(Q:VK):Prop
 | mk (l:Addr) (b:List (Option Int)) (k:Int) (_:x=.ref l) (_:g=[.int k]) (_:H l=some (.lst (b.map Zb))) (_:Q (.int (b.count (some k))) H):zb4  x g H Q
theorem zdy:MtM X "list.count" zb4:=by
 intro g s σ H x J v G Q I D C h;obtain⟨l,A,k,rfl,rfl,w,q⟩:=h;cases D;obtain⟨u,rfl,B⟩:=C.one;obtain⟨t,rfl⟩:=B;obtain⟨z,b,n,r,E,e⟩:=I.lstM w;refine call_meets F.slot_list_count {_,e,rfl} F.entry_list_count (F.args_list_count_2 _ _) (MeetsSeq.list_count l b.toArray n (.int k t) (isInt k) (λy hy=>zcy r y (by simpa using hy))) {e,?_}
 refine{.int (A.count (some k)),H,I.tok _,{s.toks,?_},q}
 show Value.int ((b.toArray.toList.countP (isInt k):Nat):Int) s.toks=_;rw[show b.toArray.toList=b by simp,JW r]
inductive ziG(K:W.Frag)(o:V)(i:V)(H:Hp)(Q:VK):Prop
 | mk (p:Addr) (b:List V) (j:Nat) (z:V) (_:o=.ref p) (_:i=.int (j:Int)) (_:SqL K H p b) (_:b[j]? =some z) (_:Q z H):ziG K o i H Q
theorem zf0:zmb X (ziG X.K):=by
 intro l s σ H o i N M Q I E D h;obtain⟨p,O,j,z,rfl,rfl,hq,g,q⟩:=h;cases E;obtain⟨t,rfl⟩:=D;obtain⟨B,r,C,hz⟩:=I.list hq;obtain⟨w,A,b⟩:=r.get g;have J:=r.length;have L:=Qq;have G:=(zK.mp g).1;exact wpAny_getItem_list C.isList () () (by simpa using A) ⟨z,H,I,b,q⟩
def tTT(K:W.Frag)(t:TE):TT:=λσ H Q=>t σ H λx b=>∃a g,x=.ref a/\SqT K b a g/\Q (!g.isEmpty) b
theorem zji{e:Expr}{t:TE}(h:PE X e t)(D:∀b,isTrue e X.env b=(do let v<-b;standAt e.pos;holding [v] (truthy v)):=by intro _;rfl):PT X e (tTT X.K t):=by
 intro g s σ H Q I G;refine isTrue_plain (thn (h g s σ H _ I G) λv s1 ⟨x,C,B,M,L⟩=>?_) (D _)
 obtain⟨a,A,rfl,hq,q⟩:=L;cases(show v=_ from M)
 obtain⟨l,w,J,hz⟩:=B.tuple hq;have E:=w.length;refine truthy_tuple J (by rw[zX,<- E];rw[sizeLine_eq] at hz;omega) ?_
 have e:(!A.isEmpty)=(!l.toArray.isEmpty):=by
  cases A with
  | nil=>cases w;rfl
  | cons x A=>cases w with | cons r q=>rfl
 exact{C,B.tok _,by rw[<- e];exact q}
theorem zgN{K:W.Frag}(g:X.K=K){e:Expr}{t:TE}(h:PE X e t)(l:∀b,isTrue e X.env b=(do let v<-b;standAt e.pos;holding [v] (truthy v)):=by intro _;rfl):PT X e (tTT K t):=by
 subst g;exact zji h l
variable{c:Expr}
def zjZ(l:TE):TI:=λσ H R=>l σ H λx g=>∃d o b,x=.ref d/\g d=some (.frz o (.dK b))/\R (zd3 d o b) g
theorem zfl{l:Expr}{C:TE}(J:PE X l C):PI X c l (zjZ C):=by
 intro w s σ H R I h;refine thn (J w s σ H _ I h) λv s1 ⟨x,D,A,M,L⟩=>?_
 obtain⟨d,o,g,e,hd,q⟩:=L;subst e;cases M;obtain⟨e1,z,y,Y,r,T,G,E,h1,h2,B,N,O,Q⟩:=(show ObjOk X.prog X.w D s1.heap d (.frz o (.dK g)) from A.hok d _ hd)
 rw[e1] at h1;cases h1;refine Yk y ⟨o,e1,h2,B⟩ ?_
 refine{s1.heap.objs.size,[s1.heap.objs.size],_,_,_,rfl,A.kept (t':=s1.toks) λb u e=>qX _ e,Jo d _ o g G E B,{_,qQ _ rfl,rfl,rfl},λb hb=>?_,q}
 have e:b=s1.heap.objs.size:=by simpa using hb
 subst e;exact A.fpOk (zF _) (A.hok.fresh (zF _))
end
end L2
namespace L2
open PySem PySem.Spec PyProof.Rows
section
variable{l:Program}{w:World}{K:Type}[DecidableEq K](g:KeyKind l w K)
def IsPK(h:Heap)(k:List K×List K)(a:Addr):Prop:=∃o n B C,h.get? a=some o/\o.cls=.type "tuple" /\ o.data=.seq #[.ref B,.ref C] n/\IsTupleKey g h k.1 B/\IsTupleKey g h k.2 C
variable{g}
theorem IsPK.inj{h:Heap}{a:Addr}{x y:List K×List K}(p:IsPK g h x a)(q:IsPK g h y a):x=y:=by
 obtain⟨o,n,B,C,e,_,d,b,c⟩:=p;obtain⟨N,M,J,L,G,_,D,H,I⟩:=q;rw[e] at G;cases G;rw[d] at D;cases D;exact Qz (b.inj H) (c.inj I)
variable{A:Around}{E:Value->Shared->Prop}{s:Shared}
end
end L2
namespace PySem
section
variable{b:Program}{w:World}{A:Around}{E:Value->Shared->Prop}{s:Shared}{d l:Addr}{g:Array DictEntry}{c i:Nat}
end
end PySem
namespace L2
open PySem PySem.Spec PyProof.Rows PySem.W
section
variable{X:Cx}{b:List (Addr×Obj)}{σ:St}{H:Hp}{s:Shared}
end
end L2
namespace L2
open PySem PySem.Spec PyProof.Rows PySem.W
section
variable{X:Cx}
end
end L2
namespace L2
open PySem PySem.Spec PyProof.Rows
abbrev zkd:=Addr->V->V->Hp->(Hp->Prop)->Prop
section
variable{X:Cx}{w E B c:Expr}{l:List Expr}{b:Scope}{s:Pos}{G:TI}{g:TG}{A:TT}{C D:TE}{mk:Addr->HO}{t:zkd}
end
end L2
namespace L2
open PySem PySem.Spec PyProof.Rows PySem.W
section
variable{X:Cx}{g E T c:Expr}{l:List Expr}{b:Scope}{A:Pos}{U:TI}{M:TT}{L N Q:TE}{mk:Addr->HO}{t:zkd}{x y z u:Str}{H I J G O B C:Pos}{D s w:Nat}
end
def WkO(h:Heap)(a:Addr)(p:Int×List Int):Prop:=∃o n t U,h.get? a=some o/\o.cls=.type "tuple" /\ o.data=.seq #[.int p.1 t,.ref U] n/\∃b g c,h.get? U=some b/\b.cls=.type "tuple" /\ b.data=.seq c g/\Vals (p.2.map V.int) c.toList
theorem WkO.keep{h c:Heap}{a:Addr}{p:Int×List Int}(x:WkO h a p)(k:∀b o,h.get? b=some o->c.get? b=some o):WkO c a p:=
 let ⟨o,n,t,U,a1,a2,a3,l,g,s,b1,b2,b3,b4⟩:=x;{o,n,t,U,k _ _ a1,a2,a3,l,g,s,k _ _ b1,b2,b3,b4}
end L2
namespace L2
open PySem PySem.Spec PyProof.Rows
section
variable{X:Cx}{w E B c:Expr}{l:List Expr}{b:Scope}{s:Pos}{G:TI}{g:TG}{A:TT}{C D:TE}{mk:Addr->HO}{t:zkd}
end
end L2
namespace L2
open PySem PySem.Spec PyProof.Rows PySem.W
end L2
namespace L2
open PySem PySem.W PySem.Spec PyProof.Rows
theorem Jg{d:Dat}:∀{b:List Dat},d∈b->d.py.depth<=PyData.depthAll (Dat.pys b)
 | e::b,h=>by
  show _<=max (PyData.depth e.py) (PyData.depthAll (Dat.pys b));rcases qH.mp h with rfl | h
  .exact Nat.le_max_left _ _
  .exact jN (Jg h) (Nat.le_max_right _ _)
section
variable{X:Cx}
theorem zgh(n:Nat):((List.range n).all λ_=>true)=true:=vn.mpr λ_ _=>rfl
def zl5:Dat->Bool
 | .lst _=>false
 | .tup _=>false
 | _=>true
theorem YO{H:Hp}{A:Around}{s:Shared}{d:Dat}(h:zl5 d=true){b g:V}{D E:Value}(B:Rep X.K H d b)(C:Rep X.K H d g)(l:RelV b D)(w:RelV g E):SeqAt.EqAt A s D E true:=by
 cases d with
 | lst I=>cases h
 | tup I=>cases h
 | non=>
  cases(show b=_ from B);cases(show g=_ from C)
  cases(show D=_ from l);cases(show E=_ from w)
  exact Zw _
 | bl c=>
  cases(show b=_ from B);cases(show g=_ from C)
  cases(show D=_ from l);cases(show E=_ from w)
  exact Zw _
 | int i=>
  cases(show b=_ from B);cases(show g=_ from C)
  obtain⟨t,rfl⟩:=l;obtain⟨G,rfl⟩:=w;have:=SeqAt.EqAt.int_int (A:=A) (s:=s) i t i G;rwa[Zf] at this
 | str x=>
  cases(show b=_ from B);cases(show g=_ from C)
  obtain⟨t,rfl⟩:=l;obtain⟨G,rfl⟩:=w;have:=SeqAt.EqAt.str_str (A:=A) (s:=s) x t x G;rwa[Zf] at this
theorem zj3{E:List (Addr×Obj)}{σ:St}{H:Hp}{s:Shared}(I:Inv X E σ H s):∀(n:Nat) {A:Around},A.units+n<cLine->∀{d:Dat},d.py.depth<=n->∀{v1 v2:V} {U Y:Value},Rep X.K H d v1->Rep X.K H d v2->RelV v1 U->RelV v2 Y->SeqAt.EqAt A s U Y true:=by
 intro n;induction n with
 | zero=>
  intro A hu d hd v1 v2 U Y c g G J;cases d with
  | lst l=>exact absurd hd (Nat.not_succ_le_zero _)
  | tup l=>exact absurd hd (Nat.not_succ_le_zero _)
  | _=>exact YO 1e2 c g G J
 | succ n ih=>
  intro A hu d hd v1 v2 U Y c g G J;have C:A.units<cLine:=()
  have D:A.in1.units+n<cLine:=by rw[Around.in1_units];omega
  cases d with
  | lst l=>
   have hd:PyData.depthAll (Dat.pys l)+1<=n+1:=hd;obtain⟨a,N,rfl,hx,L⟩:=c;obtain⟨b,O,rfl,hy,M⟩:=g;cases G;cases J;by_cases e:a=b
   .subst e
    exact Zw _
   .obtain⟨Q,c,p1,z1⟩:=I.list hx
    obtain⟨T,g,p2,z2⟩:=I.list hy;have l1:=c.length;have l2:=g.length;have lx:=L.len;have ly:=M.len;have w:=zaS (A:=A) (s:=s) (e:=λ_=>true) p1.isList p2.isList (by rw[zX,zX];omega) C (λj h1 h2=>by
     rw[zX] at h1 h2;obtain⟨c1,e1,g1⟩:=c.get (i:=j) (x:=N[j]'()) 1e3
     obtain⟨c2,e2,g2⟩:=g.get (i:=j) (x:=O[j]'()) 1e3
     obtain⟨d1,B,k1⟩:=L.get (i:=j) (x:=N[j]'()) 1e3
     obtain⟨d2,f2,k2⟩:=M.get (i:=j) (x:=O[j]'()) 1e3
     have de:d1=d2:=jC (B.symm.trans f2);subst de;have o1:Q.toArray[j]=c1:=by simpa using (zK.mp e1).2
     have o2:T.toArray[j]=c2:=by simpa using (zK.mp e2).2
     rw[o1,o2];exact ih D (jN (Jg (qz B)) ()) k1 k2 g1 g2)
    rw[zgh] at w;exact Wl e w
  | tup l=>
   have hd:PyData.depthAll (Dat.pys l)+1<=n+1:=hd;obtain⟨a,N,rfl,hx,L⟩:=c;obtain⟨b,O,rfl,hy,M⟩:=g;cases G;cases J;by_cases e:a=b
   .subst e
    exact Zw _
   .obtain⟨Q,c,p1,z1⟩:=I.tuple hx
    obtain⟨T,g,p2,z2⟩:=I.tuple hy;have l1:=c.length;have l2:=g.length;have lx:=L.len;have ly:=M.len;have w:=zaV (A:=A) (s:=s) (e:=λ_=>true) p1 p2 C (λj h1 h2=>by
     rw[zX] at h1 h2;obtain⟨c1,e1,g1⟩:=c.get (i:=j) (x:=N[j]'()) 1e3
     obtain⟨c2,e2,g2⟩:=g.get (i:=j) (x:=O[j]'()) 1e3
     obtain⟨d1,B,k1⟩:=L.get (i:=j) (x:=N[j]'()) 1e3
     obtain⟨d2,f2,k2⟩:=M.get (i:=j) (x:=O[j]'()) 1e3
     have de:d1=d2:=jC (B.symm.trans f2);subst de;have o1:Q.toArray[j]=c1:=by simpa using (zK.mp e1).2
     have o2:T.toArray[j]=c2:=by simpa using (zK.mp e2).2
     rw[o1,o2];exact ih D (jN (Jg (qz B)) ()) k1 k2 g1 g2)
    rw[zgh,Bool.true_and,show(Q.toArray.size==T.toArray.size)=true from xH.mpr (by rw[zX,zX];omega)] at w
    exact Wl e w
  | _=>exact YO 1e2 c g G J
end
end L2
namespace L2
open PySem PySem.Spec PyProof.Rows
def pr2(q:Int×Int):List V:=[.int q.1,.int q.2]
theorem VB{p q:Int×Int}(h:pr2 p=pr2 q):p=q:=by
 unfold pr2 at h;have h1:=V.int.inj (List.cons.inj h).1;have h2:=V.int.inj (List.cons.inj (List.cons.inj h).2).1;exact Qz h1 h2
theorem zjm(p q:Int×Int):zdN (pr2 p) (pr2 q)=decide (p=q):=by
 have e:∀a b:Int,eqV (.int a) (.int b)=decide (a=b):=λa b=>by
  show(a==b)=_;rw[vm,xH,xQ]
 show(eqV (.int p.1) (.int q.1)&&(eqV (.int p.2) (.int q.2)&&true))=_;rw[e,e,Bool.and_true,vm,xP,xQ,xQ,xQ,Prod.ext_iff]
section
variable{X:Cx}{b:List (Addr×Obj)}{σ:St}{H:Hp}{s:Shared}
theorem zj2(I:Inv X b σ H s){A:Around}(hu:A.units<cLine){a c:Addr}{p q:Int×Int}(hc:SqT X.K H c (pr2 q))(D:SqT X.K H a (pr2 p)):SeqAt.EqAt A s (.ref c) (.ref a) (decide (q=p)):=by
 by_cases e:c=a
 .subst e
  rw[qg (VB (I.tuple_inj hc D))];exact Zw _
 .obtain⟨g,E,O,z1⟩:=I.tuple hc
  obtain⟨l,G,Q,z2⟩:=I.tuple D;have M:=E.length;have N:=G.length;have h:=Wl e (zaV (A:=A) (s:=s) (e:=λj=>eqV ((pr2 q).getD j .non) ((pr2 p).getD j .non)) O Q hu (λj h1 h2=>?_))
  .rw[zX,zX,<- M,<- N,JS,zjm] at h
   exact h
  .have w:j<(pr2 q).length:=by rw[zX] at h1;omega
   have B:j<(pr2 p).length:=by rw[zX] at h2;omega
   obtain⟨w1,e1,T⟩:=E.get (i:=j) (x:=(pr2 q)[j]) (qK w);obtain⟨Y,e2,U⟩:=G.get (i:=j) (x:=(pr2 p)[j]) (qK B);have J:g.toArray[j]=w1:=by simpa using (zK.mp e1).2
   have L:l.toArray[j]=Y:=by simpa using (zK.mp e2).2
   have C:∀(o:Int×Int) (v:V),v∈pr2 o->xj v=true:=λo v hv=>by
    rcases qH.mp hv with rfl | hv
    .rfl
    .cases qm.mp hv;rfl
   rw[J,L,Zm,Zm,qK w,qK B];exact JT T U (C _ _ (wc w)) (C _ _ (wc B))
def zke(K:W.Frag)(H:Hp)(l:List V)(g:List (Int×Int)):Prop:=l.length=g.length/\∀(i:Nat) (r:Int×Int),g[i]? =some r->∃c,l[i]? =some (.ref c)/\SqT K H c [.int r.1,.int r.2]
open Classical in
theorem zhZ(I:Inv X b σ H s){a:Addr}{q:Int×Int}(O:SqT X.K H a (pr2 q)){L:List V}{g:List Value}{E:List (Int×Int)}(hx:zke X.K H L E)(J:Vals L g){A:Around}(hu:A.units<cLine) :
  (∀y,y∈g.toArray->SeqAt.EqAt A s y (.ref a) (decide (∃c,y=Value.ref c/\SqT X.K H c (pr2 q))))/\g.toArray.any (λy=>decide (∃c,y=Value.ref c/\SqT X.K H c (pr2 q)))=decide (q∈E):=by
 have w:∀y∈g,∃(c:Addr) (r:Int×Int),y=.ref c/\SqT X.K H c (pr2 r)/\r∈E:=λy hy=>by
  obtain⟨i,C⟩:=yi.mp hy;have T:=(zK.mp C).1;have U:=J.length;obtain⟨r,D⟩:∃r,E[i]? =some r:={_,qK (by have:=hx.1;omega)}
  obtain⟨c,e1,e2⟩:=hx.2 i r D;obtain⟨w1,B,l⟩:=J.get e1;rw[C] at B;cases B;exact{c,r,l,e2,qz D}
 constructor
 .intro y hy
  obtain⟨c,r,rfl,hc,_⟩:=w y (by simpa using hy)
  have h:=zj2 I hu hc O;by_cases e:r=q
  .subst e
   rw[qg rfl] at h;rw[qg ⟨c,rfl,hc⟩];exact h
  .rw[jO e] at h
   rw[jO]
   .exact h
   .rintro⟨M,N,G⟩
    cases N;exact e (VB (I.tuple_inj hc G))
 .rw[vm,xQ,List.any_toArray,vN]
  constructor
  .rintro⟨y,hy,Q⟩
   obtain⟨M,rfl,G⟩:=qP Q;obtain⟨c,r,e,hc,D⟩:=w _ hy;cases e;rw[<- VB (I.tuple_inj hc G)];exact D
  .intro hq
   obtain⟨i,C⟩:=yi.mp hq;obtain⟨c,e1,e2⟩:=hx.2 i q C;obtain⟨w1,B,l⟩:=J.get e1;exact{w1,qz B,qg ⟨c,l,e2⟩}
end
inductive zlj(K:W.Frag)(b:Bool)(x:V)(y:V)(H:Hp)(Q:VK):Prop
 | mk (a p:Addr) (q:Int×Int) (g:List V) (c:List (Int×Int)) (_:x=.ref a) (_:y=.ref p) (_:SqT K H a [.int q.1,.int q.2]) (_:SqL K H p g) (_:zke K H g c) (_:Q (.bl (if b then !decide (q∈c) else decide (q∈c))) H):zlj K b x y H Q
section
variable{X:Cx}
theorem zjw{K:W.Frag}(hk:X.K=K)(hu:X.A.units+64<cLine):OpR X (compareOp .In) (zlj K false):=by
 subst hk;intro b s σ H x y v u Q I w B h;obtain⟨a,p,q,D,C,rfl,rfl,c,hp,hx,k⟩:=h;cases w;cases B;obtain⟨g,r,l,hz⟩:=I.list hp;obtain⟨h1,h2⟩:=zhZ I c hx r (A:=X.A.in1) (by show X.A.units+1<cLine;omega)
 refine zaN _ l.isList h1 {.bl _,H,I,rfl,?_}
 rw[h2];exact k
end
end L2
namespace L2
open PySem PySem.Spec PyProof.Rows
def eqS:Dat->V->Bool
 | .non,.non=>true
 | .bl a,.bl b=>a==b
 | .bl a,.int b=>(if a then 1 else 0)==b
 | .int a,.bl b=>a==(if b then 1 else 0)
 | .int a,.int b=>a==b
 | .str a,.str b=>a==b
 | _,_=>false
section
variable{X:Cx}
inductive Vt(K:W.Frag)(x:V)(y:V)(H:Hp)(Q:VK):Prop
 | mk (d:_) (_:Rep K H d x) (_:xj y=true) (_:Q (.bl (eqS d y)) H):Vt K x y H Q
theorem zg3(hu:X.A.units<cLine):OpR X (compareOp .Eq) (Vt X.K):=by
 intro C s σ H x y v u Q I B c h;obtain⟨d,A,w,q⟩:=h;have fin:∀{b:Bool},b=eqS d y->SeqAt.RcAt X.A s v u b->wpAny 0#b X.A (compareOp .Eq v u) (λL J=>∃z E,Inv X C σ E J/\RelV z L/\Q z E) X.xe s:=λe r=>r _ _ _ _ {.bl _,H,I,rfl,by rw[e];exact q}
 cases d with
 | non=>
  cases(show x=_ from A)
  cases(show v=_ from B)
  cases y with
  | non=>cases c;exact fin rfl SeqAt.RcAt.none_none
  | bl b=>cases c;exact fin rfl (SeqAt.RcAt.none_bool b)
  | int b=>obtain⟨t,rfl⟩:=c;exact fin rfl (SeqAt.RcAt.none_int b t)
  | str b=>obtain⟨t,rfl⟩:=c;exact fin rfl (SeqAt.RcAt.none_str b t)
  | _=>exact absurd (show false=true from w) qS
 | bl a=>
  cases(show x=_ from A)
  cases(show v=_ from B)
  cases y with
  | non=>cases c;exact fin rfl (SeqAt.RcAt.bool_none a)
  | bl b=>cases c;exact fin rfl (SeqAt.RcAt.bool_bool a b)
  | int b=>obtain⟨t,rfl⟩:=c;exact fin rfl (SeqAt.RcAt.bool_int a b t)
  | str b=>obtain⟨t,rfl⟩:=c;exact fin rfl (SeqAt.RcAt.bool_str a b t)
  | _=>exact absurd (show false=true from w) qS
 | int a=>
  cases(show x=_ from A)
  obtain⟨l,rfl⟩:=B;cases y with
  | non=>cases c;exact fin rfl (SeqAt.RcAt.int_none a l)
  | bl b=>cases c;exact fin rfl (SeqAt.RcAt.int_bool a l b)
  | int b=>obtain⟨t,rfl⟩:=c;exact fin rfl (SeqAt.RcAt.int_int a l b t)
  | str b=>obtain⟨t,rfl⟩:=c;exact fin rfl (SeqAt.RcAt.int_str a l b t)
  | _=>exact absurd (show false=true from w) qS
 | str a=>
  cases(show x=_ from A)
  obtain⟨l,rfl⟩:=B;cases y with
  | non=>cases c;exact fin rfl (SeqAt.RcAt.str_none a l)
  | bl b=>cases c;exact fin rfl (SeqAt.RcAt.str_bool a l b)
  | int b=>obtain⟨t,rfl⟩:=c;exact fin rfl (SeqAt.RcAt.str_int a l b t)
  | str b=>obtain⟨t,rfl⟩:=c;exact fin rfl (SeqAt.RcAt.str_str a l b t)
  | _=>exact absurd (show false=true from w) qS
 | lst G=>
  obtain⟨a,M,rfl,hq,_⟩:=id A;cases(show v=_ from B)
  obtain⟨D,r,g,hz⟩:=I.list hq;cases y with
  | non=>cases c;exact fin rfl (SeqAt.RcAt.list_none g.isList hu)
  | bl b=>cases c;exact fin rfl (SeqAt.RcAt.list_bool b g.isList hu)
  | int b=>obtain⟨t,rfl⟩:=c;exact fin rfl (SeqAt.RcAt.list_int b t g.isList hu)
  | str b=>obtain⟨t,rfl⟩:=c;exact fin rfl (SeqAt.RcAt.list_str b t g.isList hu)
  | _=>exact absurd (show false=true from w) qS
 | tup G=>
  obtain⟨a,M,rfl,hq,_⟩:=id A;cases(show v=_ from B)
  obtain⟨D,r,g,hz⟩:=I.tuple hq;cases y with
  | non=>cases c;exact fin rfl (SeqAt.RcAt.tuple_none g hu)
  | bl b=>cases c;exact fin rfl (SeqAt.RcAt.tuple_bool b g hu)
  | int b=>obtain⟨t,rfl⟩:=c;exact fin rfl (SeqAt.RcAt.tuple_int b t g hu)
  | str b=>obtain⟨t,rfl⟩:=c;exact fin rfl (SeqAt.RcAt.tuple_str b t g hu)
  | _=>exact absurd (show false=true from w) qS
end
def lpN(m:Nat):Nat->Nat->Nat->Nat×Nat
 | 0,i,q=>(i,q)
 | n+1,i,q=>lpN m n (SetTable.leap m i q).1 (SetTable.leap m i q).2
def fN(m:Nat):Nat->Nat->Nat
 | 0,i=>i
 | n+1,i=>fN m n ((i*5+1) % (m+1))
theorem VW(m:Nat):∀a b i:Nat,fN m (a+b) i=fN m b (fN m a i)
 | 0,b,i=>by rw[Xe];rfl
 | a+1,b,i=>by rw[Nat.succ_add];exact VW m a b _
theorem zck(m:Nat):∀a b i q:Nat,lpN m (a+b) i q=lpN m b (lpN m a i q).1 (lpN m a i q).2
 | 0,b,i,q=>by rw[Xe];rfl
 | a+1,b,i,q=>by rw[Nat.succ_add];exact zck m a b _ _
theorem ziJ(m:Nat):∀n i q:Nat,(lpN m n i q).2=q/32^n
 | 0,i,q=>by rw[Nat.pow_zero,Nat.div_one];rfl
 | n+1,i,q=>by
  rw[Nat.pow_succ,Nat.mul_comm,<- Nat.div_div_eq_div_mul];exact ziJ m n _ _
theorem ziK(m:Nat):∀n i q:Nat,q<32->(lpN m n i q).1=fN m n i
 | 0,i,q,_=>rfl
 | n+1,i,q,h=>by
  have e:q/32=0:=Nat.div_eq_of_lt h;show(lpN m n ((i*5+1+q/32) % (m+1)) (q/32)).1=fN m n ((i*5+1) % (m+1));rw[e];exact ziK m n _ 0 1e1
theorem zfN(m:Nat):∀n i q:Nat,i<=m->(lpN m n i q).1<=m
 | 0,_,_,h=>h
 | n+1,i,q,h=>zfN m n _ _ (Xm (Xa _ (Xd m)))
def Msk(m:Nat):Prop:=m=7\/m=31\/m=127
def orb(m:Nat):Nat->Nat->List Nat
 | 0,_=>[]
 | n+1,i=>i::orb m n ((i*5+1) % (m+1))
theorem zfv(m:Nat):∀{n i j:Nat},j∈orb m n i->∃k,k<n/\fN m k i=j
 | n+1,i,j,h=>by
  rcases qH.mp h with e | h
  .exact{0,Xd n,e.symm}
  .obtain⟨k,h1,h2⟩:=zfv m h
   exact{k+1,Nat.succ_lt_succ h1,h2}
def zma(m:Nat):Bool:=(List.range (m+1)).all (λj=>(orb m (m+1) 0).contains j)&&fN m (m+1) 0==0
theorem zhT{m:Nat}(h:Msk m):zma m=true:=by
 rcases h with rfl | rfl | rfl<;>kernel_rfl
theorem Msk.hit{m i j:Nat}(h:Msk m)(w:i<=m)(g:j<=m):∃n,n<=m/\fN m n i=j:=by
 have c:=zhT h;unfold zma at c;rw[xP,vn,xH] at c;have at0:∀j,j<=m->∃k,k<m+1/\fN m k 0=j:=λj g=>zfv m (List.contains_iff_mem.mp (c.1 j (xB.mpr (Nat.lt_succ_of_le g))))
 obtain⟨a,A,l⟩:=at0 i w;obtain⟨b,hb,s⟩:=at0 j g;by_cases B:a<=b
 .refine{b-a,(),?_}
  rw[<- l,<- VW,show a+(b-a)=b by omega,s]
 .refine{m+1+b-a,(),?_}
  rw[<- l,<- VW,show a+(m+1+b-a)=m+1+b by omega,VW,c.2,s]
theorem Msk.leaps{m i j q:Nat}(h:Msk m)(b:i<=m)(c:j<=m)(hq:q<2^64):∃n,n<=m+12/\(lpN m n i q).1=j:=by
 obtain⟨n,g,e⟩:=h.hit (zfN m 12 i q b) c;refine{12+n,(),?_}
 rw[zck,ziK m n _ _ (by rw[ziJ];exact Nat.div_lt_of_lt_mul (xJ hq 1e1)),e]
inductive Far(t:SetTable):Nat->SetTable.Probe->Prop
 | here {k:Nat} {p:SetTable.Probe}:t.slot p.j=.empty->Far t k p
 | step {k:Nat} {p:SetTable.Probe}:Far t k (t.advance p)->Far t (k+1) p
theorem Far.mono{t:SetTable}{k b:Nat}{p:SetTable.Probe}(h:Far t k p)(l:k<=b):Far t b p:=by
 induction h generalizing b with
 | here e=>exact .here e
 | step _ g=>obtain⟨c,rfl⟩:∃c,b=c+1:={b-1,()};exact .step (g ())
def zlX(t:SetTable)(p:SetTable.Probe):SetTable.Probe:=t.advance { p with more:=0 }
theorem Far.more{t:SetTable}{k:Nat}:∀{m:Nat} {p:SetTable.Probe},p.more=m->Far t k (zlX t p)->Far t (k+m+1) p
 | 0,⟨j,_,i,q,d⟩,rfl,h=>.step h
 | m+1,⟨j,_,i,q,d⟩,rfl,h=>.step (Far.more (m:=m) (p:={j+1,m,i,q,d}) rfl h)
theorem X5{m i:Nat}(h:i<=m):SetTable.runEnd m i<=m/\i<=SetTable.runEnd m i/\SetTable.runEnd m i<=i+9:=by
 unfold SetTable.runEnd;split<;>omega
theorem Far.leaps{t:SetTable}:∀{n i q:Nat} {d:Option Nat},i<=t.mask->t.slot (lpN t.mask n i q).1=.empty->Far t (10*n) {i,SetTable.runEnd t.mask i-i,i,q,d}
 | 0,i,q,d,_,h=>.here h
 | n+1,i,q,d,b,h=>by
  have r:=X5 b;have:=Far.leaps (n:=n) (i:=(SetTable.leap t.mask i q).1) (q:=(SetTable.leap t.mask i q).2) (d:=d) (Xm (Xa _ (Xd _))) h;exact(Far.more (m:=SetTable.runEnd t.mask i-i) (p:={i,SetTable.runEnd t.mask i-i,i,q,d}) rfl this).mono ()
structure Prb(t:SetTable)(p:SetTable.Probe):Prop where
 le:p.j+p.more<=t.mask
 no:p.dummy=none
structure TabT(t:SetTable)(n:Nat):Prop where
 up:Up t.place
 no:t.dummies=#[]
 le:∀j∈t.place.toList,j<=t.mask
 sz:t.place.size=n
 ms:(t.mask=7/\n<=4)\/(t.mask=31/\n<=18)\/(t.mask=127/\n<=76)
theorem TabT.lt{t:SetTable}{n:Nat}(h:TabT t n):n<t.mask:=by rcases h.ms with ⟨e,_⟩ | ⟨e,_⟩ | ⟨e,_⟩<;>omega
theorem TabT.fits{t:SetTable}{n:Nat}(h:TabT t n):t.fits n=true:=by
 have:=h.lt;have z:t.place.size=n:=h.sz;have:t.fill=n:=by unfold SetTable.fill;rw[h.no,z];rfl
 unfold SetTable.fits;rw[xP,xH,xQ];omega
theorem zcv{m:Nat}{owner:Array (Option Nat)}:∀{fuel n i q:Nat},i<=m->n<fuel->(owner.getD (lpN m n i q).1 (some 0)).isNone=true ->
  ∃j,j<=m/\SetTable.layClean.free m owner fuel i q=some j/\(owner.getD j (some 0)).isNone=true
 | 0,n,i,q,_,l,_=>absurd l (Nat.not_lt_zero n)
 | fuel+1,n,i,q,b,l,h=>by
  have r:=X5 b;unfold SetTable.layClean.free;cases c:(List.range (SetTable.runEnd m i+1-i)).find? λk=>(owner.getD (i+k) (some 0)).isNone with
  | some k=>
   have h1:=List.find?_some c
   have h2:=xB.mp (zgj c);exact{i+k,(),rfl,h1}
  | none=>
   cases n with
   | zero=>
    have:=zaZ.mp c 0 (xB.mpr ())
    exact absurd h this
   | succ n=>exact zcv (Xm (Xa _ (Xd m))) (Nat.lt_of_succ_lt_succ l) h
theorem zhF{l:List (Option Nat)}{k:Nat}:∀{j:Nat},l[j]? =some none->((l.set j (some k)).filterMap id).Perm (k::l.filterMap id):=by
 induction l with
 | nil=>intro j h;simp at h
 | cons x l b=>
  intro j h;cases j with
  | zero=>
   cases(show x=none by simpa using h)
   exact .refl _
  | succ j=>
   have:=b (j:=j) (by simpa using h)
   cases x with
   | none=>exact this
   | some y=>exact(this.cons y).trans (.swap _ _ _)
structure Own(m k:Nat)(o:Array (Option Nat)):Prop where
 sz:o.size=m+1
 pm:(o.toList.filterMap id).Perm (List.range k)
theorem Own.free{m k:Nat}{o:Array (Option Nat)}(h:Own m k o)(A:k<=m):∃j,j<=m/\(o.getD j (some 0)).isNone=true:=by
 refine zgi λs=>?_
 have all:∀x∈o.toList,x.isSome=true:=λx hx=>by
  obtain⟨j,b,e⟩:=QJ.mp hx;rw[xR,h.sz] at b;cases x with
  | some y=>rfl
  | none=>
   refine absurd {j,(),?_} s
   have e2:o[j]? =some none:=by rw[<- Qa,<- e];exact qK _
   unfold Array.getD;rw[dif_pos (by rw[h.sz];exact b)]
   have:o[j]'(by rw[h.sz];exact b)=none:=jC ((Zk _).symm.trans e2)
   show(o[j]'_).isNone=true;rw[this];rfl
 have c:∀{l:List (Option Nat)},(∀x∈l,x.isSome=true)->(l.filterMap id).length=l.length:=λ{l}=>by
  induction l with
  | nil=>exactλ_=>rfl
  | cons x l g=>
   intro a;have hx:=a x 1e3
   cases x with
   | none=>cases hx
   | some y=>show(l.filterMap id).length+1=_;rw[g λz hz=>a z (xg _ hz)];rfl
 have e1:=c all;have e2:=h.pm.length_eq;rw[wg] at e2;have w:o.toList.length=m+1:=by rw[xR,h.sz]
 omega
theorem YI{m:Nat}(B:Msk m):∀{hs:List Int} {k:Nat} {o:Array (Option Nat)},Own m k o->k+hs.length<=m->∃g,hs.foldl (λl h=>(do
   let (b,k)<-l
   let j<-SetTable.layClean.free m b (SetTable.turns m) (SetTable.bits h % (m+1)) (SetTable.bits h)
   pure (b.setIfInBounds j (some k),k+1):Option (Array (Option Nat)×Nat))) (some (o,k))=some (g,k+hs.length)/\Own m (k+hs.length) g
 | [],k,o,w,_=>⟨o,rfl,w⟩
 | h::hs,k,o,w,E=>by
  rw[jZ] at E;obtain⟨L,D,G⟩:=w.free ()
  have hb:SetTable.bits h<2^64:=by
   unfold SetTable.bits;have:=Zi h (by decide:(0:Int)<2^64)
   have:=Zd h (by decide:(2^64:Int)≠0)
   omega
  have A:SetTable.bits h % (m+1)<=m:=Xm (Xa _ (Xd _));obtain⟨n,J,e⟩:=B.leaps A D hb;obtain⟨j,M,C,s⟩:=zcv (owner:=o) (fuel:=SetTable.turns m) (n:=n) A (by unfold SetTable.turns;omega) (by rw[e];exact G)
  have c:j<o.size:=by rw[w.sz];omega
  have H:o[j]? =some none:=by
   unfold Array.getD at s;rw[dif_pos c] at s;rw[Zk c];exact congrArg some (Option.isNone_iff_eq_none.mp s)
  have I:Own m (k+1) (o.setIfInBounds j (some k)):={by rw[Array.size_setIfInBounds];exact w.sz,by
   rw[Array.toList_setIfInBounds,Xi];exact((zhF (by rw[Qa];exact H)).trans (w.pm.cons k)).trans (zgn k (List.range k)).symm}
  obtain⟨g,e1,e2⟩:=YI B (hs:=hs) I ()
  refine{g,?_,by rw[jZ,show k+(hs.length+1)=k+1+hs.length by omega];exact e2}
  rw[zaM,jZ,show k+(hs.length+1)=k+1+hs.length by omega,<- e1]
  congr 1
  show((SetTable.layClean.free m o (SetTable.turns m) (SetTable.bits h % (m+1)) (SetTable.bits h)).bind λj=>pure (o.setIfInBounds j (some k),k+1))=_
  rw[C];rfl
theorem zdC{m:Nat}(b:Msk m){hs:Array Int}(l:hs.size<=m):∃o,SetTable.layClean m hs=some o/\Own m hs.size o:=by
 have g:Own m 0 (Array.replicate (m+1) none):={Array.size_replicate ..,by
  rw[Array.toList_replicate];have:∀n,(List.replicate n (none:Option Nat)).filterMap id=[]:=λn=>by
   induction n with
   | zero=>rfl
   | succ n c=>exact c
  rw[this];exact .refl _}
 obtain⟨o,e1,e2⟩:=YI b (hs:=hs.toList) g (by rw[xR];omega)
 rw[Xe,xR] at e1 e2;refine{o,?_,e2}
 unfold SetTable.layClean;rw[<- Array.foldl_toList];exact congrArg (Option.map (·.1)) e1
theorem zhx{m f v:Nat}{b p:Bool}(C:Msk m){hs:Array Int}(D:hs.size<=m)(E:(m=7/\hs.size<=4)\/(m=31/\hs.size<=18)\/(m=127/\hs.size<=76)) :
  ∃l c,SetTable.laid m f v b p hs=some (l,c)/\c.toList.Perm (List.range hs.size)/\TabT l hs.size:=by
 obtain⟨o,e,w⟩:=zdC C D;have e2:((List.range (m+1)).filterMap λj=>(o.getD j none).map (j,·)).map (·.2)=o.toList.filterMap id:=by
  rw[List.map_filterMap];have s:o.toList=(List.range (m+1)).map λj=>o.getD j none:=by
   refine List.ext_getElem (by rw[xR,w.sz,zm,wg]) λi h1 h2=>?_
   rw[List.getElem_map,List.getElem_range];unfold Array.getD;rw[dif_pos (by rwa[xR] at h1)]
   rfl
  rw[s,List.filterMap_map];refine congrArg (λf=>List.filterMap f _) (funext λj=>?_)
  show((o.getD j none).map (j,·)).map (·.2)=id (o.getD j none)
  cases o.getD j none<;>rfl
 have g:(((List.range (m+1)).filterMap λj=>(o.getD j none).map (j,·)).map (·.2)).Perm (List.range hs.size):=by rw[e2];exact w.pm
 have ln:=g.length_eq;rw[zm,wg] at ln;refine{{m,(((List.range (m+1)).filterMap λj=>(o.getD j none).map (j,·)).map λx=>x.1).toArray,#[],f,b,v,p},_,by unfold SetTable.laid;rw[e];rfl,g,?_,rfl,λj B=>?_,?_,E}
 .exact zbo (m+1) λj=>o.getD j none
 .obtain⟨x,hx,rfl⟩:=zN.mp B
  obtain⟨y,hy,A⟩:=za0.mp hx;obtain⟨z,_,rfl⟩:=qG.mp A;exact Xm (xB.mp hy)
 .show(((List.range (m+1)).filterMap λj=>(o.getD j none).map (j,·)).map (·.1)).toArray.size=_
  rw[zX,zm,ln]
theorem TabT.putAt{t:SetTable}{n j:Nat}(h:TabT t n)(g:t.place[SetTable.below t.place j]?≠some j)(l:j<=t.mask) :
  Up (t.put j).1.place/\(t.put j).1.dummies=#[]/\(∀i∈(t.put j).1.place.toList,i<=t.mask)/\(t.put j).1.place.size=n+1:=by
 have b:=SetTable.insertAt_perm t.place (SetTable.below t.place j) j;rw[Array.toList_push] at b;refine{XS h.up g,?_,λi c=>?_,?_}
 .show(if SetTable.has t.dummies j=true then _ else t.dummies)=#[]
  rw[h.no,JO];rfl
 .rcases zV.mp (b.mem_iff.mp c) with z | z
  .exact h.le i z
  .rw[qm.mp z];exact l
 .have:=b.length_eq
  rw[xR,qh,xR,h.sz] at this;exact this
theorem TabT.more{t:SetTable}{n j:Nat}(h:TabT t n)(I:n<76)(D:t.place[SetTable.below t.place j]?≠some j)(G:j<=t.mask)(p:Bool) :
  (({ (t.put j).1 with plain:=p }:SetTable).tooFull=false/\TabT { (t.put j).1 with plain:=p } (n+1)) \/
  ({ (t.put j).1 with plain:=p }:SetTable).tooFull=true/\({ (t.put j).1 with plain:=p }:SetTable).fits (n+1)=true/\SetTable.sizeAbove (SetTable.grown (n+1))<=128/\∀hs:Array Int,hs.size=n+1 ->
   ∃s g,({ (t.put j).1 with plain:=p }:SetTable).relaid hs (SetTable.grown (n+1))=some (s,g)/\g.toList.Perm (List.range hs.size)/\TabT s hs.size:=by
 obtain⟨a,b,c,d⟩:=h.putAt D G;have C:({ (t.put j).1 with plain:=p }:SetTable).fill=n+1:=by
  show(t.put j).1.place.size+(t.put j).1.dummies.size=n+1;rw[b,d];rfl
 have H:({ (t.put j).1 with plain:=p }:SetTable).tooFull=decide ((n+1)*5≥t.mask*3):=by
  unfold SetTable.tooFull;rw[C];rfl
 have ok:∀m,m=t.mask->((m=7/\n+1<=4)\/(m=31/\n+1<=18)\/(m=127/\n+1<=76))->TabT { (t.put j).1 with plain:=p } (n+1):=λm e w=>{a,b,c,d,by subst e;exact w}
 have A:∀w m,SetTable.sizeAbove w=m+1->Msk m->∀hs:Array Int,hs.size<=m->((m=7/\hs.size<=4)\/(m=31/\hs.size<=18)\/(m=127/\hs.size<=76)) ->
   ∃s g,({ (t.put j).1 with plain:=p }:SetTable).relaid hs w=some (s,g)/\g.toList.Perm (List.range hs.size)/\TabT s hs.size:=λw m e E hs l k=>by
  unfold SetTable.relaid;rw[show SetTable.sizeAbove w-1=m by omega]
  exact zhx E l k
 have B:({ (t.put j).1 with plain:=p }:SetTable).fits (n+1)=true:=by
  have:=h.lt;unfold SetTable.fits;rw[xP,xH,xQ,C];exact⟨d,this⟩
 rw[H];rcases h.ms with ⟨e,l⟩ | ⟨e,l⟩ | ⟨e,l⟩
 .by_cases z:n+1<=4
  .exact .inl {jO (),ok _ rfl (.inl ⟨e,z⟩)}
  .have z:n=4:=()
   subst z;exact .inr {qg (),B,by decide +kernel,λhs hz=>A _ 31 (by decide +kernel) (.inr (.inl rfl)) hs () (.inr (.inl {rfl,()}))}
 .by_cases z:n+1<=18
  .exact .inl {jO (),ok _ rfl (.inr (.inl ⟨e,z⟩))}
  .have z:n=18:=()
   subst z;exact .inr {qg (),B,by decide +kernel,λhs hz=>A _ 127 (by decide +kernel) (.inr (.inr rfl)) hs () (.inr (.inr {rfl,()}))}
 .exact .inl {jO (),ok _ rfl (.inr (.inr {e,()}))}
section
variable{b:Program}{w:World}{A:Around}{E:Value->Shared->Prop}{s:Shared}
def TK(b:Program)(w:World):HeapKind b w (List Key):=tupleKind (qo b w)
def zmL(b:Program)(w:World)(p:List Key×Addr):Int×Value:=((TK b w).hash p.1,.ref p.2)
def SetT(b:Program)(w:World)(h:Heap)(a:Addr)(l:List (List Key×Addr)):Prop:=
 ∃o c g t,h.get? a=some o/\o.ExactSet/\o.data=.set c g t/\c.toList.Perm (l.map (zmL b w))/\TabT t c.size
theorem SetT.at{h c:Heap}{a:Addr}{g:List (List Key×Addr)}(x:SetT b w h a g)(k:∀o,h.get? a=some o->c.get? a=some o):SetT b w c a g:=let ⟨o,B,l,t,e,r⟩:=x;{o,B,l,t,k o e,r}
end
section
variable{X:Cx}{l C c:Expr}{s:List Expr}{b:Scope}{w:Pos}{D:TI}{g:TG}{B:TT}{A:TE}
end
section
variable{X:Cx}{x:Str}{w:Pos}{g c:Expr}{l:List Expr}{b:Scope}{s:Pos}{C:TI}{B:TT}{A:TE}
end
abbrev zmO(h:Heap)(z TI TO:Addr)(b:Value)(c:Bool):Prop:=h.get? z=some { cls:=.type "zip",dict:=none,data:=.fields #[b,.bool c,.bool false,.ref TI,.ref TO],slots:=#[] }
abbrev ziQ(h:Heap)(T:Addr)(a b c:Value):Prop:=h.get? T=some { cls:=.type "tuple",data:=.seq #[a,b,c] }
structure Z3At(h:Heap)(z TI TO i1 i2 i3 a1 a2 a3:Addr)(i:Nat):Prop where
 zz:∃f0 f1,(f0=.none\/∃t:Int,f0=rawInt t)/\zmO h z TI TO f0 f1
 ti:ziQ h TI (.ref i1) (.ref i2) (.ref i3)
 to:∃a b c,ziQ h TO a b c
 r1:h.IsListIter i1 a1 i
 r2:h.IsListIter i2 a2 i
 r3:h.IsListIter i3 a3 i
section
variable{b:Program}{w:World}{A:Around}{E:Value->Shared->Prop}{s:Shared}
end
section
variable{X:Cx}
end
section
variable{X:Cx}{b:List (Addr×Obj)}{σ:St}{H:Hp}{s:Shared}
end
section
variable{X:Cx}
end
section
variable{l:Program}{w:World}{K:Type}[DecidableEq K](g:KeyKind l w K)
def IsTR(h:Heap)(k:List K×List K×List K)(a:Addr):Prop:=∃o n B C D,h.get? a=some o/\o.cls=.type "tuple" /\ o.data=.seq #[.ref B,.ref C,.ref D] n/\IsTupleKey g h k.1 B/\IsTupleKey g h k.2.1 C/\IsTupleKey g h k.2.2 D
variable{g}
theorem IsTR.inj{h:Heap}{a:Addr}{x y:List K×List K×List K}(p:IsTR g h x a)(q:IsTR g h y a):x=y:=by
 obtain⟨o,n,B,C,D,e,_,d,b,c,f⟩:=p;obtain⟨T,Q,M,N,O,H,_,G,I,J,L⟩:=q;rw[e] at H;cases H;rw[d] at G;cases G;exact Qz (b.inj I) (Qz (c.inj J) (f.inj L))
variable{A:Around}{E:Value->Shared->Prop}{s:Shared}
end
end L2
namespace L2
open PySem PySem.Spec PyProof.Rows PySem.W
section
variable{X:Cx}{b:List (Addr×Obj)}{σ:St}{H:Hp}{s:Shared}
end
end L2
namespace L2
open PySem PySem.Spec PyProof.Rows
section
variable{X:Cx}
end
open Sem (wp)
section
variable{b:Program}{w:World}{A:Around}{E:Value->Shared->Prop}{h:Heap}{g:Array GenState}{d:Drawn}{t:Nat}{os:OsState}{a:Addr}{n:Nat}{c:Array Value}{l:Array (Option Value)}
end
section
variable{b:Program}{w:World}{K:Type}[DecidableEq K]{s:KeyKind b w K}{A:Around}{R:Result->Shared->Prop}{B l D:Addr}{c:Array Value}{g:List (K×Value)}{res:Value}
end
section
variable{b:Program}{w:World}{K:Type}[DecidableEq K]{c:KeyKind b w K}{A:Around}{E:Value->Shared->Prop}{s:Shared}
end
section
variable{X:Cx}
end
end L2
namespace L2
open PySem PySem.Spec PyProof.Rows
section
variable{X:Cx}
inductive ziF(K:W.Frag)(x:V)(y:V)(H:Hp)(Q:VK):Prop
 | mk (a b:Addr) (c:List Dat) (_:x=.ref a) (_:y=.ref b) (_:Rep K H (.tup c) x) (_:Rep K H (.tup c) y) (_:PyData.depthAll (Dat.pys c)<=50) (_:Q (.bl false) H):ziF K x y H Q
theorem zg0(hu:X.A.units+64<cLine):OpR X (compareOp .NotEq) (ziF X.K):=by
 intro B s σ H x y v u Q I c g h;obtain⟨a,b,ds,rfl,rfl,hx,hy,hd,q⟩:=h;cases c;cases g;obtain⟨a',E,e1,qx,c⟩:=hx;obtain⟨b',G,e2,qy,g⟩:=hy;cases e1;cases e2;obtain⟨w,C,p1,z1⟩:=I.tuple qx;obtain⟨A,D,p2,z2⟩:=I.tuple qy;have l1:=C.length;have l2:=D.length;have lx:=c.len;have ly:=g.len;refine SeqAt.RcNeAt.tuples (e:=λ_=>true) p1 p2 () (λj h1 h2=>?_) _ _ _ _ {.bl _,H,I,rfl,?_}
 .rw[zX] at h1 h2
  obtain⟨c1,e1,T⟩:=C.get (i:=j) (x:=E[j]'()) 1e3
  obtain⟨J,e2,U⟩:=D.get (i:=j) (x:=G[j]'()) 1e3
  obtain⟨L,l,Y⟩:=c.get (i:=j) (x:=E[j]'()) 1e3
  obtain⟨M,O,k2⟩:=g.get (i:=j) (x:=G[j]'()) 1e3
  have N:L=M:=jC (l.symm.trans O);subst N;have o1:w.toArray[j]=c1:=by simpa using (zK.mp e1).2
  have o2:A.toArray[j]=J:=by simpa using (zK.mp e2).2
  rw[o1,o2];exact zj3 I 50 (by rw[Around.in1_units];omega) (jN (Jg (qz l)) hd) Y k2 T U
 .rw[zgh,Bool.true_and,show(w.toArray.size==A.toArray.size)=true from xH.mpr (by rw[zX,zX];omega)]
  exact q
end
def BoxAt(H:Hp)(b:Addr)(n:Int):Prop:=∃c b1 b2:Int,H b=some (.lst [.int c,.int b1,.int b2])/\0<=c/\0<=b1/\b1<2147483648/\0<=b2/\b2<=n
def SameB(b:Addr)(H g:Hp):Prop:=∀c o,H c=some o->c≠b->g c=some o
theorem QT{i j:Int}(h1:0<=i)(h2:i<18446744073709551616):CMul i j:=by
 have e1:(-(2^64):Int)= -18446744073709551616:=1e1
 have e2:((2^64):Int)=18446744073709551616:=1e1
 refine .inl {?_,?_}
 .rw[e1];omega
 .rw[e2];exact h2
theorem ziP{a m j:Int}(h:0<m)(h2:m<18446744073709551616):CMul (a % m) j:=QT (Zd _ ()) (Int.lt_trans (Zi _ h) h2)
section
variable{P:Program}{w:World}{K:W.Frag}{D:Str->Option Value}{C:Heap}
inductive WU(l:List V)(H:Hp)(Q:VK):Prop
 | mk (b:Addr) (c n:Int) (_:l=[.ref b,.int c]) (_:BoxAt H b n) (_:n<1099511627776) (_:0<c) (_:c<1073741824) (_:∀(r:Int) g,0<=r->r<c->BoxAt g b (n+1)->SameB b H g->Q (.int r) g):WU  l H Q
def vo:Sp:=λb H Q _=>WU  b H Q
theorem u4{N P:List Str}{S:Scope}(a:S.kind=.function:=by rfl)(b:S.isCoroutine=false:=by rfl)(c:S.isGenerator=false:=by rfl)(d:N.Nodup:=by decide +kernel)(e:N.take P.length=P:=by rfl)(f:∀x∈P,S.names.lookup x=some .local∨S.names.lookup x=some .cell:=by decide +kernel)(g:∀y∈S.names,y.2≠.free:=by decide +kernel):zD N P S:=⟨a,b,c,d,e,f,g⟩
theorem zeT:zD ["_law_box_here","_law_size","_law_found","_law_step","_law_once","_law_twice"] ["_law_box_here","_law_size"] (zu (topL 55)):=u4
theorem zg7{f:Addr}{T:FuncData}(F:Fun K "_law_take" "_law_take" (topL 55) f T)(B:Blt D):FnOk P w K D C CX0 1 f T ["_law_box_here","_law_size"] vo:=by
 have J:=zeT.nd;refine F.ok zeT 0#d (λa0 A O s H vs Q E hr h=>?_)
 .obtain⟨b,I,n,rfl,_⟩:=h
  rfl
 .obtain⟨b,I,n,rfl,⟨L,b1,b2,hb,U,Y,G,p2,aa⟩,hn,l,N,k⟩:=h
  refine{_,(ze (jb (zP Yr (zJ qO (pv 0) zg 0#c) zg (zR _))
   (ze (jQ (zt YW rfl B.divmod YX (za (zJ qO (pv 0) zg 0#c) 0#k)) (qE rfl (zn (VD (pv 0) zg yo) (zn (zq (i:=2) J rfl 0#a) z7))))
    (zi (zy (pv 2))))
   zY)
   (ze (jQ (zO jk (zJ qO (pv 0) zg 0#c) zg) (VD (pv 0) zg yo))
   (ze (zG (i:=3) J rfl 0#a (zO jk zg (zO vY (zJ qO (pv 0) zg 0#c) (zJ qO (pv 0) zg 0#c))))
   (ze (zG (i:=4) J rfl 0#a (zO vJ (zO vY (zO jk (zJ qO (pv 0) zg 0#c) (zO vY zg (zJ qO (pv 0) zg 0#c))) (pv 3)) zg))
   (ze (zG (i:=5) J rfl 0#a (zO vJ (zO jk (zO vY (pv 4) (zO jk (zO vJ (pv 4) zg) zg)) (zJ qO (pv 0) zg 0#c)) zg))
   (zi (zy (zO vJ (zO zce (zO vJ (zO vY (pv 5) (zO jk (zO vJ (pv 5) zg) zg)) zg) zg) (pv 1))))))))),?_}
  refine{_,rfl,b,_,_,_,rfl,rfl,u6 hb,rfl,_,_,rfl,rfl,_,rfl,?_}
  refine j7 (λc=>?_) (λc=>?_)
  .refine{_,rfl,b,_,_,_,rfl,rfl,u6 hb,rfl,_,rfl,_,_,rfl,⟨l,N⟩,λp hp=>?_}
   have M:b≠p:=zj hb hp;refine{p,_,rfl,u7 zc,rfl,_,_,rfl,_,rfl,b,_,_,_,rfl,rfl,(by rw[zp M];exact hb),rfl,_,_,rfl,rfl,_,rfl,?_}
   refine k _ _ (Zd _ ()) (Zi _ l) {_,b1,b2,zc,Int.ediv_nonneg U (),Y,G,p2,()} λd o e hd=>?_
   rw[zp hd,zp (zj e hp)];exact e
  .refine{_,rfl,b,_,_,_,rfl,rfl,u6 hb,rfl,_,_,rfl,rfl,_,rfl,b,_,_,_,rfl,rfl,hb,rfl,?_}
   have g:upd H b (.lst [.int L,.int b1,.int (b2+1)]) b=some (.lst [.int L,.int b1,.int (b2+1)]):=zc;refine{_,rfl,b,_,_,_,rfl,rfl,u6 g,rfl,_,rfl,b,_,_,_,rfl,rfl,u6 g,rfl,_,_,rfl,rfl,QT () (),_,_,rfl,rfl,?_}
   refine{_,rfl,b,_,_,_,rfl,rfl,u6 g,rfl,_,rfl,b,_,_,_,rfl,rfl,u6 g,rfl,_,_,rfl,rfl,QT () (),_,_,rfl,rfl,_,rfl,_,_,rfl,rfl,QT () (),_,_,rfl,rfl,(by show(0:Int)<_;decide),?_}
   refine{_,rfl,_,rfl,_,_,rfl,rfl,(by show(0:Int)<_;decide),_,_,rfl,rfl,_,_,rfl,rfl,ziP 1e1 1e1,_,rfl,b,_,_,_,rfl,rfl,u6 g,rfl,_,_,rfl,rfl,_,_,rfl,rfl,(by show(0:Int)<_;decide),?_}
   refine{_,rfl,_,rfl,_,_,rfl,rfl,(by show(0:Int)<_;decide),_,_,rfl,rfl,_,_,rfl,rfl,ziP 1e1 1e1,_,_,rfl,rfl,(by show(0:Int)<_;decide),_,_,rfl,rfl,{1e1,1e1},_,rfl,_,_,rfl,rfl,l,?_}
   refine k _ _ (Zd _ ()) (Zi _ l) {L,b1,b2+1,g,U,Y,G,(),()} λd o e hd=>?_
   rw[zp hd];exact e
inductive zbR(K:W.Frag)(b:List V)(H:Hp)(Q:VK):Prop
 | mk (a:Addr) (c:List Int) (j:Nat) (_:b=[.ref a,.int j]) (_:SqL K H a (c.map V.int)) (_:j<=100) (_:∀p o,H p=none->BoxAt (upd H p o) p 0->Q (.ref p) (upd H p o)):zbR K b H Q
def zii(K:W.Frag):Sp:=λb H Q _=>zbR K b H Q
theorem ziz:zD ["_law_script","_law_k","_law_cell"] ["_law_script","_law_k"] (zu (topL 54)):=u4
theorem zcF{c:Int}{j:Nat}(b:j<=100):CMul (ZE c) (if decide (10^18<=ZE c)=true then 1 else 0):=by
 refine .inr ?_
 split
 .exact{1e1,1e1}
 .exact{1e1,1e1}
theorem zgd{c:Int}:0<=ZE c*(if decide (10^18<=ZE c)=true then 1 else 0):=by
 have h:0<=ZE c:=by unfold ZE;split<;>omega
 split
 .rw[Int.mul_one];exact h
 .rw[Int.mul_zero];exact yI 0
theorem zjM{f:Addr}{l:FuncData}(F:Fun K "_law_box" "_law_box" (topL 54) f l)(B:Blt D):FnOk P w K D C CX0 1 f l ["_law_script","_law_k"] (zii K):=by
 have M:=ziz.nd;refine F.ok ziz (λN H Q E h=>?_) (λJ A g s H N Q E O h=>?_)
 .obtain⟨a,b,j,rfl,_⟩:=h
  rfl
 .obtain⟨a,b,j,rfl,G,I,k⟩:=h
  refine{_,(ze (zG (i:=2) M rfl 0#a (wK (zP Yq (pv 1) (zt zI rfl B.len boot_len 0#y) (zR _)) (zJ qO (pv 0) (pv 1) 0#c) zg))
   (zi (zy (z9 (za (zO vY (zt Z1 rfl B.abs Z5 0#t) (jw Qv rfl B.int Z2 (za (qZ zcd (zt Z1 rfl B.abs Z5 0#t) (zO zjv zg zg) (zR _)) zd))) (za (zO vJ (zO vY (zO jk (zO jk (zO vJ (pv 2) zg) (zO vY zg (pv 1))) zg) zg) zg) (za zg zd))))))),?_}
  refine{_,rfl,_,rfl,a,_,rfl,.inl G,_,_,rfl,rfl,_,rfl,?_}
  refine j7 (λc=>?_) (λc=>?_)
  .have L:j<b.length:=by
    have:=qP c;rw[zm] at this;omega
   refine{_,rfl,_,rfl,a,_,_,.int b[j],rfl,rfl,G,qr (by simp[L]),?_}
   generalize b[j]=z;refine{_,rfl,_,rfl,_,rfl,_,rfl,_,_,rfl,rfl,{1e1,1e1,1e1},_,_,rfl,rfl,.inr {_,rfl,_,_,rfl,rfl,zcF I,_,rfl,_,_,rfl,rfl,(by show(0:Int)<_;decide),_,rfl,_,_,rfl,rfl,QT 1e1 1e1,_,_,rfl,rfl,_,_,rfl,rfl,_,_,rfl,rfl,?_,_,_,rfl,rfl,(by show(0:Int)<_;decide),(by rw[sizeLine_eq];exact(by decide:3<=16777216)),λp hp=>k p _ hp {_,_,_,zc,?_,?_,?_,1e1,1e1}}}
   .refine QT ?_ ?_
    .have:=Zd z (show(2147483629:Int)≠0 by decide)
     omega
    .have:=Zi z (show(0:Int)<2147483629 by decide)
     omega
   .exact zgd
   .exact Zd _ 1e1
   .exact Int.lt_trans (Zi _ 1e1) 1e1
  .refine{_,rfl,_,rfl,_,rfl,_,rfl,_,_,rfl,rfl,{1e1,1e1,1e1},_,_,rfl,rfl,.inr {_,rfl,_,_,rfl,rfl,zcF I,_,rfl,_,_,rfl,rfl,(by show(0:Int)<_;decide),_,rfl,_,_,rfl,rfl,QT 1e1 1e1,_,_,rfl,rfl,_,_,rfl,rfl,_,_,rfl,rfl,?_,_,_,rfl,rfl,(by show(0:Int)<_;decide),(by rw[sizeLine_eq];exact(by decide:3<=16777216)),λp hp=>k p _ hp {_,_,_,zc,?_,?_,?_,1e1,1e1}}}
   .refine QT ?_ ?_
    .have:=Zd 0 (show(2147483629:Int)≠0 by decide)
     omega
    .have:=Zi 0 (show(0:Int)<2147483629 by decide)
     omega
   .exact zgd
   .exact Zd _ 1e1
   .exact Int.lt_trans (Zi _ 1e1) 1e1
theorem zf7{b:List V}{lo c:Option Int}{x:V}(h:x∈jA b lo c):x∈b:=List.mem_of_mem_drop (QI h)
theorem VP{n j:Nat}(h:j<n):ixN n (j:Int)=some j:=by
 unfold ixN;rw[zC (),zC ()];simp
theorem zf8(b:List Int)(lo c:Option Int):∃g:List Int,jA 0#u lo c=g.map V.int:=by
 refine{(b.drop (HT.sIx b.length 0 lo)).take (HT.sIx b.length b.length c-HT.sIx b.length 0 lo),?_}
 unfold jA;rw[zm,Xg,List.map_drop]
theorem zhP(b:List Int)(z:Nat):(jA 0#u none (some (z:Int))).length=min z b.length:=by
 unfold jA;rw[HT.sIx_nat,HT.sIx_none,qv,ZA,zm];omega
theorem zhQ(b:List Int)(z:Nat)(c:Option Int):(jA 0#u (some (z:Int)) c).length<=b.length-min z b.length:=by
 unfold jA;rw[HT.sIx_nat,qv,ZA,zm];omega
inductive Yd(K:W.Frag)(l:List V)(H:Hp)(Q:VK):Prop
 | mk (a:Addr) (g:List Int) (z:Nat) (_:l=[.ref a,.int z]) (_:SqL K H a (g.map V.int)) (_:g.length<=63) (_:1<=z) (_:z<=63) (_:∀(p:Addr) (c:List Int) b,Same H b->SqL K b p (c.map V.int)->c.length<=z->Q (.ref p) b):Yd K l H Q
def zeF(K:W.Frag):Sp:=λb H Q _=>Yd K b H Q
theorem ze5:zD ["_law_script","_law_size","_law_cells","_law_k","_law_cell"] ["_law_script","_law_size"] (zu (topL 56)):=u4
def zcY(a:_)(z:Nat)(p:_)(H:_)(q:_)(g:List Int):=λ(i:Nat) (σ:St) (b:Hp)=>(Ex3 λ(c:List Int) (l s:Option V)=>An5 (σ=[some (.ref a),some (.int z),some (.ref p),l,s]) (Same H b) (b p=some (.lst (c.map V.int))) (b q=some (.lst (jA (g.map V.int) (some (z:Int)) (some 63)))) (c.length=min z g.length):Prop)
theorem zhk{f:Addr}{fd:FuncData}(F:Fun K "_law_folded" "_law_folded" (topL 56) f fd)(B:Blt D):FnOk P w K D C CX0 1 f fd ["_law_script","_law_size"] (zeF K):=by
 have nd:=ze5.nd;refine F.ok ze5 0#d (λag A ae s H vs Q E hr h=>?_)
 .obtain⟨a,b,z,rfl,_⟩:=h
  rfl
 .obtain⟨a,b,z,rfl,hS,af,ai,aj,k⟩:=h
  refine{_,(ze (zG (i:=2) nd rfl 0#a (jw ZZ rfl B.list x9 (za (vg yT (pv 0) wS (vf (pv 1))) zd)))
   (ze (jh jL rfl (VC rfl B.enumerate (za (vg yT (pv 0) (vf (pv 1)) (vf zg)) zd)) 0#G
   (zi (jQ (zO jk (zJ qO (pv 2) (zO vJ (pv 3) (pv 1)) 0#c) (zO vY (pv 4) (zO jk (pv 3) zg))) (VD (pv 2) (zO vJ (pv 3) (pv 1)) yo))))
   (zi (zy (pv 2))))),?_}
  refine{_,rfl,_,rfl,_,rfl,a,_,rfl,hS,λl hl=>{l,_,rfl,.inl (u6 zc),λp hp=>?_}}
  have s1:Same H (upd (upd H l (.lst (jA 0#u none (some (z:Int))))) p (.lst (jA 0#u none (some (z:Int))))):=(zb hl).trans (zb hp);generalize a0:upd (upd H l (.lst (jA 0#u none (some (z:Int))))) p (.lst (jA 0#u none (some (z:Int))))=H1 at s1;have M:H1 p=some (.lst (jA 0#u none (some (z:Int)))):=by rw[<- a0];exact zc
  have np:H p=none:=(zb hl).free hp;refine{_,rfl,_,rfl,_,rfl,_,rfl,a,_,rfl,s1.seq hS,λq hq=>{q,rfl,{_,u6 zc},?_}}
  have U:p≠q:=zj M hq;obtain⟨aa,G⟩:=zf8 b none (some (z:Int));have lo:=zhP b z;have hi:=zhQ b z (some 63);refine JQ (K:=K) (a:=q) (xs:=jA 0#u (some (z:Int)) (some 63)) (zcY a z p H q b)
   {aa,none,none,rfl,s1.trans (zb hq),by rw[zp U,M,G],zc,by rw[<- lo,G,zm]} (λi σ Y _ ⟨_,_,_,_,_,_,h,_⟩=>u6 h) ?_ ?_
  .rintro i x σ Y T hx ⟨J,v3,v4,rfl,sm,g,I,L⟩ hT
   have ah:i<(jA 0#u (some (z:Int)) (some 63)).length:=(zK.mp hx).1;obtain⟨c,rfl⟩:∃c,x=V.int c:=by
    have:=zf7 (qz hx);obtain⟨c,_,e⟩:=zN.mp this;exact⟨c,e.symm⟩
   have hj:i % z<J.length:=by
    have:=Xa i (show 0<z by omega)
    omega
   have ab:p≠T:=zj g hT;have ac:q≠T:=zj I hT;have N:upd Y T (.tup [.int i,.int c]) p=some (.lst (J.map V.int)):=by rw[zp ab];exact g
   have em:((i % z:Nat):Int)=(i:Int) % (z:Int):=Int.natCast_emod i z;have O:(0:Int)<(z:Int):=()
   refine{T,_,rfl,u7 zc,rfl,_,_,rfl,_,_,rfl,rfl,?_}
   refine{_,rfl,_,rfl,_,rfl,_,_,rfl,rfl,O,p,_,_,.int J[i % z],rfl,rfl,u6 N,(by rw[<- em];exact qr (by simp[hj])),?_}
   refine{_,rfl,_,rfl,_,_,rfl,rfl,_,_,rfl,rfl,.inr {?_,?_},_,_,rfl,rfl,?_}
   .have e1:(-(2^64):Int)= -18446744073709551616:=1e1
    rw[e1];omega
   .have e2:((2^64):Int)=18446744073709551616:=1e1
    rw[e2];omega
   refine{_,rfl,_,rfl,_,rfl,_,_,rfl,rfl,O,p,_,_,i % z,rfl,rfl,N,(by rw[<- em,zm];exact VP hj),?_}
   refine{J.set (i % z) (J[i % z]+c*((i:Int)+2)),_,_,rfl,λd o e=>?_,by rw[zc,List.map_set],?_,by rw[QD];exact L}
   .rw[zp (zj e np),zp (zj (sm d o e) hT)]
    exact sm d o e
   .rw[zp (qD U),zp ac]
    exact I
  .rintro σ Y ⟨J,v3,v4,rfl,sm,g,I,L⟩
   exact{_,rfl,k p J Y sm (u6 g) ()}
theorem le0:([]:List V).length<=sizeLine:=jv _
theorem le2{x y:V}:[x,y].length<=sizeLine:=by rw[sizeLine_eq];exact(by decide:2<=16777216)
theorem SameB.refl(b:Addr)(H:Hp):SameB b H H:=λ_ _ e _=>e
def uf:=@SameB.refl
theorem SameB.trans{b:Addr}{H g l:Hp}(a:SameB b H g)(c:SameB b g l):SameB b H l:=λd o e hd=>c d o (a d o e hd) hd
theorem SameB.of{b:Addr}{H c:Hp}(a:Same H c):SameB b H c:=λd o e _=>a d o e
def uh:=@SameB.of
theorem SameB.new{b p:Addr}{o:HO}{H c:Hp}(a:SameB b H c)(h:c p=none):SameB b H (upd c p o):=a.trans (.of (zb h))
theorem BoxAt.new{b p:Addr}{o:HO}{H:Hp}{n:Int}(a:BoxAt H b n)(h:H p=none):BoxAt (upd H p o) b n:=by
 obtain⟨c,b1,b2,e,r⟩:=a;exact{c,b1,b2,by rw[zp (zj e h)];exact e,r}
theorem BoxAt.same{b:Addr}{H c:Hp}{n:Int}(a:BoxAt H b n)(s:Same H c):BoxAt c b n:=by
 obtain⟨g,b1,b2,e,r⟩:=a;exact{g,b1,b2,s _ _ e,r}
theorem BoxAt.ne{b t:Addr}{H:Hp}{n:Int}{o:HO}(a:BoxAt H b n)(h:H t=some o)(c:∀x y z,o≠.lst [x,y,z]):t≠b:=by
 obtain⟨g,b1,b2,e,r⟩:=a;exact zcg h e (c _ _ _)
theorem BoxAt.some{b:Addr}{H:Hp}{n:Int}(a:BoxAt H b n):∃o,H b=.some o:=let ⟨_,_,_,e,_⟩:=a;{_,e}
theorem BoxAt.mono{b:Addr}{H:Hp}{n m:Int}(a:BoxAt H b n)(h:n<=m):BoxAt H b m:=by
 obtain⟨c,b1,b2,e,g,l,s,A,B⟩:=a;exact{c,b1,b2,e,g,l,s,A,()}
theorem le1{x:V}:[x].length<=sizeLine:=by rw[sizeLine_eq];exact(by decide:1<=16777216)
theorem le3{x y z:V}:[x,y,z].length<=sizeLine:=by rw[sizeLine_eq];exact(by decide:3<=16777216)
theorem le4{x y z u:V}:[x,y,z,u].length<=sizeLine:=by rw[sizeLine_eq];exact(by decide:4<=16777216)
theorem leN{b:List V}(h:b.length<=1000):b.length<=sizeLine:=by rw[sizeLine_eq];omega
theorem zaI{α:Type}{xs:List α}{i:Int}(h:0<=i)(c:i<xs.length):∃v,atI xs i=some v/\xs[i.toNat]? =some v:=by
 have b:i.toNat<xs.length:=()
 refine{xs[i.toNat],?_,by simp[b]}
 have:=qr (xs:=xs) (j:=i.toNat) (v:=xs[i.toNat]) (by simp[b])
 rwa[show((i.toNat:Nat):Int)=i by omega] at this
theorem fm{α:V->Prop}{x:V}{b:List V}(h:α x)(hs:∀y∈b,α y):∀y∈x::b,α y:=λy hy=>(qH.mp hy).elim (λe=>e▸h) (hs y)
theorem SameB.put{b m:Addr}{H g:Hp}{o:HO}(s:SameB b H g)(h:H m=none):SameB b H (upd g m o):=λc u e hc=>by
 rw[zp (zj e h)];exact s c u e hc
theorem SameB.none{b m:Addr}{H c:Hp}(s:SameB b H c)(h:c m=none)(g:m≠b):H m=none:=by
 cases q:H m with
 | none=>rfl
 | some o=>have:=s m o q g;rw[h] at this;cases this
def wV(x:Str):Prop:=(x.cps.toList.map YE).all id=true
theorem zjO{r:Int}(h0:0<=r)(h1:r<26):∃c,atI zlc.cps.toList r=some c/\YE c=true:=by
 rw[zfP];obtain⟨c,e,b⟩:=zaI (xs:=List.range' 97 26) h0 (by rw[List.length_range'];omega)
 have g:=List.mem_range'_1.mp (qz b);refine{c,e,?_}
 unfold YE;rw[qg (),qg ()]
 rfl
theorem zfO{c:Nat}{y:Str}(h:YE c=true)(hy:wV y):wV ((⟨#[c]⟩:Str)++y):=by
 unfold wV at hy ⊢;show((#[c]++y.cps).toList.map YE).all id=true;rw[Array.toList_append,zL,List.all_append,hy,Bool.and_true];show(YE c&&true)=true;rw[h];rfl
theorem zfQ{c:Nat}{y:Str}:((⟨#[c]⟩:Str)++y).length=y.length+1:=by
 show(#[c]++y.cps).size=y.cps.size+1;rw[Array.size_append];show 1+_=_;omega
theorem BoxAt.nne{b p:Addr}{H:Hp}{n:Int}(a:BoxAt H b n)(h:H p=none):p≠b:=by
 obtain⟨o,e⟩:=a.some;exact(zj e h).symm
theorem BoxAt.other{b l:Addr}{H:Hp}{n:Int}{o:HO}(a:BoxAt H b n)(h:l≠b):BoxAt (upd H l o) b n:=by
 obtain⟨c,b1,b2,e,r⟩:=a;exact{c,b1,b2,by rw[zp (qD h)];exact e,r}
def Nm(x:Str):Prop:=x.length<=8/\∀c∈x.cps.toList,c<1000000
theorem zlO{x:Str}(h:x.length<=8)(l:wV x):Nm x:={h,λc hc=>by
 unfold wV at l;have:=vn.mp l (YE c) (zN.mpr ⟨c,hc,rfl⟩);unfold YE at this;simp at this;omega}
theorem Qj:∀(b:List Str),(b.map V.str).all xj=true
 | []=>rfl
 | n::b=>by
  show(true&&(b.map V.str).all xj)=true;rw[Qj b];rfl
inductive XY(g:List V)(H:Hp)(Q:VK):Prop
 | mk (c b:Int) (_:g=[.int c,.int b]) (_:0<=c) (_:1<=b) (_:b<=8) (_:∀y:Str,(y.length:Int)=b->wV y->Q (.str y) H):XY  g H Q
def zbx:Sp:=λb H Q _=>XY  b H Q
theorem zbV:zD ["_law_number","_law_size","_law_word","_law_k"] ["_law_number","_law_size"] (zu (topL 57)):=u4
def zcX(c:_)(H:_):=λ(i:Nat) (σ:St) (g:Hp)=>(Ex3 λ(b:Int) (y:Str) (l:Option V)=>An5 (σ=[some (.int b),some (.int c),some (.str y),l]) (0<=b) (y.length=i) (wV y) (g=H):Prop)
theorem zfB{f:Addr}{M:FuncData}(F:Fun K "_law_spelled" "_law_spelled" (topL 57) f M)(B:Blt D):FnOk P w K D C CX0 1 f M ["_law_number","_law_size"] zbx:=by
 have I:=zbV.nd;refine F.ok zbV 0#d (λY A L s H vs Q E hr h=>?_)
 .obtain⟨G,g,rfl,_⟩:=h
  rfl
 .obtain⟨G,g,rfl,n0,s0,s1,k⟩:=h
  have N:=bG100000;have l:=bGe;refine{_,(ze (zG (i:=2) I rfl 0#a xD)
   (ze (jh jL rfl (jS rfl B.range 0#k) (zq (i:=3) I rfl 0#a)
   (ze (zG (i:=2) I rfl 0#a (zO zam (zJ zjW xD (zO vJ (pv 0) zg) 0#c) (pv 2)))
    (zi (zG (i:=0) I rfl 0#a (zO zce (pv 0) zg)))))
   (zi (zy (pv 2))))),?_}
  refine{_,rfl,_,rfl,(by rw[l];omega),(by rw[l];omega),?_}
  refine xo (zcX g H) {G,_,_,rfl,n0,rfl,rfl,rfl} ?_ ?_
  .rintro i σ U hi ⟨b,y,v3,rfl,T,O,J,rfl⟩
   obtain⟨c,hc,lc⟩:=zjO (r:=b % 26) (Zd _ 1e1) (Zi _ 1e1)
   refine{_,rfl,_,_,rfl,rfl,(by show(0:Int)<26;decide),_,_,c,rfl,rfl,(by rw[sizeLine_eq];decide),hc,_,rfl,_,_,rfl,rfl,?_,?_}
   .show 1+y.length<=sizeLine
    omega
   .exact{_,rfl,_,_,rfl,rfl,{1e1,1e1},_,_,_,rfl,Int.ediv_nonneg T 1e1,by rw[zfQ,O],zfO lc J,rfl}
  .rintro σ U ⟨b,y,v3,rfl,T,O,J,rfl⟩
   exact{_,rfl,k y () J}
inductive zbI(l:List V)(H:Hp)(Q:VK):Prop
 | mk (b t:Addr) (n:Int) (g:List Str) (_:l=[.ref b,.ref t]) (_:BoxAt H b n) (_:n<1099511000000) (_:t≠b) (_:H t=some (.lst (g.map V.str))) (_:g.length<=1000) (_:∀(y:Str) c,SameB b H c->BoxAt c b (n+12)->1<=y.length->y.length<=8->wV y->Q (.str y) c):zbI  l H Q
def zic:Sp:=λb H Q _=>zbI  b H Q
theorem zio:zD ["_law_box_here","_law_taken","_law_size","_law_number","_law_k","_law_word","_law_turn"] ["_law_box_here","_law_taken"] (zu (topL 58)):=u4
theorem zjo{r:Int}(h0:0<=r)(h1:r<4):∃z:Int,atI [V.int 3,V.int 3,V.int 3,V.int 8] r=some (.int z)/\3<=z/\z<=8:=by
 have hc:r=0\/r=1\/r=2\/r=3:=()
 rcases hc with rfl | rfl | rfl | rfl
 .exact{3,rfl,1e1,1e1}
 .exact{3,rfl,1e1,1e1}
 .exact{3,rfl,1e1,1e1}
 .exact{8,rfl,1e1,1e1}
def zcW(b:_)(t:_)(l:_)(H:_)(n:_):=λ(i:Nat) (σ:St) (g:Hp)=>(Ex2 λ(c:Int) (s:Option V)=>An4 (σ=[some (.ref b),some (.ref t),some (.int (1+l)),some (.int c),s,none,none]) (0<=c) (SameB b H g) (BoxAt g b (n+2+i)):Prop)
def zcV(b:_)(t:_)(s:_)(c:_)(g:_):=λ(i:Nat) (σ:St) (l:Hp)=>(Ex3 λ(A B:Option V) (y:Str)=>An5 (σ=[some (.ref b),some (.ref t),some (.int (1+s)),some (.int c),A,some (.str y),B]) (1<=y.length) (y.length<=8) (wV y) (l=g):Prop)
theorem zjC{f:Addr}{fd:FuncData}(F:Fun K "_law_name" "_law_name" (topL 58) f fd)(B:Blt D)(G:Dfn P w K D C "_law_take" 1 ["_law_box_here","_law_size"] vo)(g:Dfn P w K D C "_law_spelled" 1 ["_law_number","_law_size"] zbx):FnOk P w K D C CX0 2 f fd ["_law_box_here","_law_taken"] zic:=by
 have J:=zio.nd;refine F.ok zio 0#d (λag A af s H vs Q E N h=>?_)
 .obtain⟨b,t,n,U,rfl,_⟩:=h
  rfl
 .obtain⟨b,t,n,U,rfl,B0,hn,ae,ht,ah,k⟩:=h
  have I:=bGe;refine{_,(ze (zG (i:=2) J rfl 0#a (zO jk zg (zf G N.m rfl (za (pv 0) (za (zJ qO (z9 (za zg (za zg (za zg (za zg zd))))) (zf G N.m rfl 0#h) 0#c) zd)))))
   (ze (zG (i:=3) J rfl 0#a zg)
   (ze (jh jL rfl (jS rfl B.range 0#t) (zq (i:=4) J rfl 0#a)
   (zi (zG (i:=3) J rfl 0#a (zO jk (zO vY (pv 3) zg) (zf G N.m rfl 0#h)))))
   (ze (zG (i:=5) J rfl 0#a (zf g N.m rfl (za (pv 3) 0#t)))
   (ze (jh jL rfl (jS rfl B.range (za (zO jk (zt zI rfl B.len boot_len 0#k) zg) zd)) (zq (i:=6) J rfl 0#a)
   (zi (jb (zP vU (pv 5) (pv 1) (by with_unfolding_all rfl))
    (zi (zG (i:=5) J rfl 0#a (zf g N.m rfl (za (zO jk (pv 3) (pv 6)) (za zg zd)))))
    zY)))
   (zi (zy (pv 5)))))))),?_}
  refine{_,rfl,le4,λl hl=>{_,rfl,b,4,n,rfl,B0.new hl,(),1e1,1e1,λr H1 r0 r1 B1 S1=>?_}}
  have L1:=S1 l _ (zc (H:=H)) ((B0.new hl).ne (zc (H:=H) (o:=.lst [.int 3,.int 3,.int 3,.int 8])) (by intro x y z e;cases e))
  have aa:=((uf b H).new (o:=.lst [.int 3,.int 3,.int 3,.int 8]) hl).trans S1;obtain⟨z,ez,z0,z1⟩:=zjo r0 r1;refine{l,_,_,_,rfl,rfl,u6 L1,ez,b,z,n+1,rfl,B1,(),(),(),λr2 H2 a0 a1 B2 S2=>{_,_,rfl,rfl,?_}}
  have ab:=aa.trans S2;refine{_,rfl,_,rfl,(by rw[I];omega),(by rw[I];omega),?_}
  refine xo (zcW b t r2 H n) {0,_,rfl,1e1,ab,B2.mono ()} ?_ ?_
  .rintro i σ H4 hi ⟨L,v4,rfl,m0,T,Y⟩
   refine{_,rfl,_,_,rfl,rfl,.inr {1e1,1e1},_,rfl,b,26,_,rfl,Y,(),1e1,1e1,λr3 H5 c0 c1 B5 S5=>{_,_,rfl,rfl,_,_,rfl,?_,T.trans S5,B5.mono ()}}
   omega
  .rintro σ H4 ⟨L,v4,rfl,m0,T,Y⟩
   refine{_,rfl,_,rfl,L,1+r2,rfl,m0,(),(),λy ly M=>?_}
   have O:=T t _ ht ae;have el:(U.map V.str).length=U.length:=zm ..;refine{_,rfl,t,_,rfl,.inl (u6 O),_,_,rfl,rfl,_,rfl,(by rw[I,el];omega),(by rw[I,el];omega),?_}
   refine xo (zcV b t r2 L H4) {_,_,y,rfl,(),(),M,rfl} ?_ ?_
   .rintro i σ H5 hi ⟨v4,v6,y,rfl,y0,y1,M,rfl⟩
    refine{_,rfl,_,rfl,t,_,rfl,.inl (u6 O),rfl,Qj U,_,rfl,j7 (λc=>?_) (λc=>{_,_,y,rfl,y0,y1,M,rfl})}
    exact{_,rfl,_,rfl,_,_,rfl,rfl,_,8,rfl,(),1e1,1e1,λy' ai ac=>{_,_,y',rfl,(),(),ac,rfl}}
   .rintro σ H5 ⟨v4,v6,y,rfl,y0,y1,M,rfl⟩
    exact{_,rfl,k y _ T (Y.mono ()) y0 y1 M}
def Row(H:Hp)(l:Addr)(b:List Str):Prop:=H l=some (.lst (b.map V.str))/\∀x∈b,Nm x
theorem Row.same{H b:Hp}{l:Addr}{c:List Str}(r:Row H l c)(s:Same H b):Row b l c:={s _ _ r.1,r.2}
theorem Row.draw{H c:Hp}{b l:Addr}{g:List Str}(r:Row H l g)(s:SameB b H c)(h:l≠b):Row c l g:={s _ _ r.1 h,r.2}
inductive X2(s:List V)(H:Hp)(Q:VK):Prop
 | mk (b:Addr) (m n:Int) (_:s=[.ref b,.int m]) (_:BoxAt H b n) (_:n<1000000) (_:0<=m) (_:m<=12) (_:∀(l:Addr) (g:List Str) c,SameB b H c->BoxAt c b (n+150)->l≠b->H l=none->Row c l g->(g.length:Int)=m->Q (.ref l) c):X2  s H Q
def zbH:Sp:=λb H Q _=>X2  b H Q
theorem zbY:zD ["_law_box_here","_law_many","_law_found","_law_k"] ["_law_box_here","_law_many"] (zu (topL 59)):=u4
def zcU(b:_)(m:_)(l:_)(H:_)(n:_):=λ(i:Nat) (σ:St) (c:Hp)=>(Ex2 λ(g:List Str) (s:Option V)=>An5 (σ=[some (.ref b),some (.int m),some (.ref l),s]) (SameB b H c) (BoxAt c b (n+12*i)) (Row c l g) (g.length=i):Prop)
theorem zfE{f:Addr}{fd:FuncData}(F:Fun K "_law_names" "_law_names" (topL 59) f fd)(B:Blt D)(c:Dfn P w K D C "_law_name" 2 ["_law_box_here","_law_taken"] zic):FnOk P w K D C CX0 3 f fd ["_law_box_here","_law_many"] zbH:=by
 have nd:=zbY.nd;refine F.ok zbY 0#d (λaa A O s H vs Q E hr h=>?_)
 .obtain⟨b,m,n,rfl,_⟩:=h
  rfl
 .obtain⟨b,m,n,rfl,T,hn,m0,m1,k⟩:=h
  have a0:=bG100000;have I:=bGe;refine{_,(ze (zG (i:=2) nd rfl 0#a (z9 zd))
   (ze (jh jL rfl (jS rfl B.range 0#k) (zq (i:=3) nd rfl 0#a)
   (zi (ji (xi j5 vQ vP jr (pv 2) (za (zf c hr.m rfl (za (pv 0) 0#t)) zd)))))
   (zi (zy (pv 2))))),?_}
  refine{le0,λl J=>?_}
  have nl:=T.nne J;refine{_,rfl,_,rfl,(by rw[I];omega),(by rw[I];omega),?_}
  refine xo (zcU b m l H n) {[],_,rfl,(uf b H).new J,(T.new J).mono (),{zc,λx h=>nomatch h},rfl} ?_ ?_
  .rintro i σ U hi ⟨L,v3,rfl,N,M,G,g⟩
   refine{_,rfl,.inl {rfl,_,u6 G.1},_,rfl,_,rfl,b,l,_,L,rfl,M,(),nl,G.1,(),λy H5 Y B5 y0 y1 al=>{l,_,_,rfl,rfl,(G.draw Y nl).1,by rw[zm,g];omega,?_}}
   refine{L++[y],_,rfl,(N.trans Y).put J,(B5.other nl).mono (),{by rw[zc,zL];rfl,λx hx=>?_},by rw[qh,g];rfl}
   rcases zV.mp hx with q | q
   .exact G.2 x q
   .rw[qm.mp q];exact zlO y1 al
  .rintro σ U ⟨L,v3,rfl,N,M,G,g⟩
   exact{_,rfl,k l L U N (M.mono ()) nl J G ()}
def SameT(H c:Hp):Prop:=∀a u,H a=some u->(∀g,u≠.lst g)->(∀b,u≠.dK b)->c a=some u
theorem SameT.refl(H:Hp):SameT H H:=λ_ _ e _ _=>e
theorem SameT.trans{H g l:Hp}(a:SameT H g)(b:SameT g l):SameT H l:=λc u e h i=>b c u (a c u e h i) h i
theorem SameT.of{H b:Hp}(s:Same H b):SameT H b:=λa u e _ _=>s a u e
theorem SameT.draw{H c:Hp}{b:Addr}{n:Int}(B:BoxAt H b n)(s:SameB b H c):SameT H c:=λa u e h _=>by
 obtain⟨l,b1,b2,g,_⟩:=B;exact s a u e (λz=>by rw[z,g] at e;cases e;exact h _ rfl)
def uc:=@SameT.draw
theorem SameT.put{H:Hp}{l:Addr}{b ys:List V}(h:H l=some (.lst b)):SameT H (upd H l (.lst ys)):=λa u e hu _=>by
 rw[zp (λz=>by rw[z,h] at e;cases e;exact hu _ rfl)];exact e
def ud:=@SameT.put
theorem SameT.putD{H:Hp}{l:Addr}{b:List (Key×V)}{o:HO}(h:H l=some (.dK b)):SameT H (upd H l o):=λa u e _ hu=>by
 rw[zp (λz=>by rw[z,h] at e;cases e;exact hu _ rfl)];exact e
def PlA(H:Hp)(a:Addr):Prop:=∃x y:Int,H a=some (.tup [.int x,.int y])/\0<=x/\x<=1000/\0<=y/\y<=1000
theorem PlA.draw{H c:Hp}{a b:Addr}{n:Int}(h:PlA H a)(B:BoxAt H b n)(s:SameB b H c):PlA c a:=by
 obtain⟨x,y,e,r⟩:=h;obtain⟨l,b1,b2,g,_⟩:=B;exact{x,y,s a _ e (zcg e g (by intro z;cases z)),r}
inductive X0(K:W.Frag)(l:List V)(H:Hp)(Q:VK):Prop
 | mk (b t:Addr) (n:Int) (g:List Addr) (_:l=[.ref b,.ref t]) (_:BoxAt H b n) (_:n<1099511627000) (_:t≠b) (_:H t=some (.lst (g.map V.ref))) (_:g.length<=1000) (_:(∀a∈g,PlA H a)) (_:∀(p:Addr) c,SameB b H c->BoxAt c b (n+3)->H p=none->PlA c p->Q (.ref p) c):X0 K l H Q
def Ja(K:W.Frag):Sp:=λb H Q _=>X0 K b H Q
theorem zbW:zD ["_law_box_here","_law_taken","_law_most","_law_x","_law_y","_law_turn"] ["_law_box_here","_law_taken"] (zu (topL 60)):=u4
def zcT(b:_)(t:_)(y:_)(H:_)(n:_):=λ(i:Nat) (σ:St) (c:Hp)=>(Ex3 λ(g l:Option V) (x:Int)=>An5 (σ=[some (.ref b),some (.ref t),g,some (.int x),some (.int y),l]) (0<=x) (x<=1000) (SameB b H c) (BoxAt c b (n+1+1+1)):Prop)
theorem zfC{f:Addr}{fd:FuncData}(F:Fun K "_law_place" "_law_place" (topL 60) f fd)(B:Blt D)(g:Dfn P w K D C "_law_take" 1 ["_law_box_here","_law_size"] vo):FnOk P w K D C CX0 2 f fd ["_law_box_here","_law_taken"] (Ja K):=by
 have T:=zbW.nd;refine F.ok zbW 0#d (λab A aa s H vs Q E O h=>?_)
 .obtain⟨b,t,n,U,rfl,_⟩:=h
  rfl
 .obtain⟨b,t,n,U,rfl,B0,hn,N,ht,ac,pa,k⟩:=h
  have M:=O.units;have L:=bGe;have el:(U.map V.ref).length=U.length:=zm ..;refine{_,(ze (zG (i:=2) T rfl 0#a (wK (zP xW (zf g O.m rfl 0#h) zg (zR _)) zg zg))
   (ze (Jv (i:=3) (j:=4) rfl T rfl rfl 1e1 rfl rfl (za (zf g O.m rfl (za (pv 0) 0#t)) (za (zf g O.m rfl (za (pv 0) 0#t)) zd)) 1e2)
   (ze (jh jL rfl (jS rfl B.range (za (zO jk (zt zI rfl B.len boot_len 0#k) zg) zd)) (zq (i:=5) T rfl 0#a)
   (zi (jb (zP (zg1 M) (qL (za (pv 3) (za (pv 4) zd))) (pv 1) (by with_unfolding_all rfl))
    (zi (zG (i:=3) T rfl 0#a (zO vJ (zO jk (pv 3) zg) zg)))
    zY)))
   (zi (zy (qL (za (pv 3) (za (pv 4) zd)))))))),?_}
  refine{_,rfl,b,4,n,rfl,B0,(),1e1,1e1,λr H1 r0 r1 B1 S1=>{rfl,_,rfl,j7 (λc=>?_) (λc=>?_)}}
  all_goals
   refine{_,rfl,_,rfl,b,_,n+1,rfl,B1,(),1e1,1e1,λx H2 x0 x1 B2 S2=>{_,rfl,_,rfl,b,_,n+1+1,rfl,B2,(),1e1,1e1,λy H3 y0 y1 B3 S3=>{_,_,rfl,?_}}}
   have S4:=S1.trans (S2.trans S3);have a0:=S4 t _ ht N;refine{_,rfl,t,_,rfl,.inl (u6 a0),_,_,rfl,rfl,_,rfl,(by rw[L,el];omega),(by rw[L,el];omega),?_}
   refine xo (zcT b t y H n) {_,none,x,rfl,x0,(),S4,B3} ?_ ?_
   .rintro i σ H4 _ ⟨v2,v5,x,rfl,G,I,l,J⟩
    refine{_,rfl,_,rfl,le2,λp hp=>{_,rfl,p,t,_,_,rfl,rfl,u7 zc,rfl,u6 ((l.new hp) t _ ht N),λv hv=>?_,λq=>{_,rfl,j7 (λd=>?_) (λd=>?_)}}}
    .obtain⟨c,hc,rfl⟩:=zN.mp hv
     obtain⟨cx,cy,Y,_⟩:=(pa c hc).draw B0 (l.new (o:=.tup [.int x,.int y]) hp);exact{c,_,rfl,u7 Y,rfl}
    .exact{_,rfl,_,_,rfl,rfl,_,_,rfl,rfl,(by show(0:Int)<1001;decide),_,_,_,rfl,Zd _ 1e1,by have:=Zi (x+1) (by decide:(0:Int)<1001);omega,l.new hp,J.new hp}
    .exact{_,_,x,rfl,G,I,l.new hp,J.new hp}
   .rintro σ H4 ⟨v2,v5,x,rfl,G,I,l,J⟩
    have B6:BoxAt H4 b (n+3):=by
     have e:n+3=n+1+1+1:=()
     rw[e];exact J
    exact{_,rfl,_,rfl,le2,λp hp=>k p _ (l.new hp) (B6.new hp) (l.none hp (J.nne hp)) {x,y,zc,G,I,y0,()}}
inductive Jq(s:List V)(H:Hp)(Q:VK):Prop
 | mk (b:Addr) (m n:Int) (_:s=[.ref b,.int m]) (_:BoxAt H b n) (_:n<1000000) (_:0<=m) (_:m<=100) (_:∀(l:Addr) (g:List Addr) c,SameB b H c->BoxAt c b (n+400)->l≠b->H l=none->c l=some (.lst (g.map V.ref))->(∀a∈g,PlA c a)->(g.length:Int)=m->Q (.ref l) c):Jq  s H Q
def WZ:Sp:=λb H Q _=>Jq  b H Q
theorem Yh:zD ["_law_box_here","_law_many","_law_found","_law_k"] ["_law_box_here","_law_many"] (zu (topL 61)):=u4
def zcS(b:_)(m:_)(l:_)(H:_)(n:_):=λ(i:Nat) (σ:St) (c:Hp)=>(Ex2 λ(g:List Addr) (s:Option V)=>An6 (σ=[some (.ref b),some (.int m),some (.ref l),s]) (SameB b H c) (BoxAt c b (n+3*i)) (c l=some (.lst (g.map V.ref))) ((∀a∈g,PlA c a)) (g.length=i):Prop)
theorem zdo{f:Addr}{fd:FuncData}(F:Fun K "_law_places" "_law_places" (topL 61) f fd)(B:Blt D)(c:Dfn P w K D C "_law_place" 2 ["_law_box_here","_law_taken"] (Ja K)):FnOk P w K D C CX0 3 f fd ["_law_box_here","_law_many"] WZ:=by
 have nd:=Yh.nd;refine F.ok Yh 0#d (λaa A Y s H vs Q E hr h=>?_)
 .obtain⟨b,m,n,rfl,_⟩:=h
  rfl
 .obtain⟨b,m,n,rfl,B0,hn,m0,m1,k⟩:=h
  have a0:=bG100000;have L:=bGe;refine{_,(ze (zG (i:=2) nd rfl 0#a (z9 zd))
   (ze (jh jL rfl (jS rfl B.range 0#k) (zq (i:=3) nd rfl 0#a)
   (zi (ji (xi j5 vQ vP jr (pv 2) (za (zf c hr.m rfl (za (pv 0) 0#t)) zd)))))
   (zi (zy (pv 2))))),?_}
  refine{le0,λl M=>?_}
  have nl:=B0.nne M;refine{_,rfl,_,rfl,(by rw[L];omega),(by rw[L];omega),?_}
  refine xo (zcS b m l H n) {[],_,rfl,(uf b H).new M,(B0.new M).mono (),zc,(λx h=>nomatch h),rfl} ?_ ?_
  .rintro i σ H4 hi ⟨J,v3,rfl,U,N,I,O,G⟩
   refine{_,rfl,.inl {rfl,_,u6 I},_,rfl,_,rfl,b,l,_,J,rfl,N,(),nl,I,(),O,λp H5 T B5 pN pp=>{l,_,_,rfl,rfl,T l _ I nl,by rw[zm,G];omega,?_}}
   have L5:=T l _ I nl;have g:∀{a:Addr},PlA H5 a->PlA (upd H5 l (.lst (J.map V.ref++[.ref p]))) a:=λ{a} h=>by
    obtain⟨x,y,e,r⟩:=h;exact{x,y,by rw[zp (zcg e L5 (by intro z;cases z))];exact e,r}
   refine{J++[p],_,rfl,(U.trans T).put M,(B5.other nl).mono (),by rw[zc,zL];rfl,λa ha=>?_,by rw[qh,G];rfl}
   rcases zV.mp ha with q | q
   .exact g ((O a q).draw N T)
   .rw[qm.mp q];exact g pp
  .rintro σ H4 ⟨J,v3,rfl,U,N,I,O,G⟩
   exact{_,rfl,k l J H4 U (N.mono ()) nl M I O ()}
theorem SqT.keep{H b:Hp}{a:Addr}{c:List V}(q:SqT K H a c)(s:SameT H b):SqT K b a c:=by
 rcases q with(q | ⟨o,q⟩) | q
 .exact .inl (.inl (s a _ q (λz h=>nomatch h) (λz h=>nomatch h)))
 .exact .inl (.inr {o,s a _ q (λz h=>nomatch h) (λz h=>nomatch h)})
 .exact .inr q
def SqE(K:W.Frag)(b:Addr)(H:Hp)(a:Addr)(c:List V):Prop:=(a≠b/\H a=some (.lst c))\/SqT K H a c
inductive WV(K:W.Frag)(s:List V)(H:Hp)(Q:VK):Prop
 | mk (b a:Addr) (n:Int) (g:List V) (_:s=[.ref b,.ref a]) (_:BoxAt H b n) (_:n<1000000) (_:SqE K b H a g) (_:g.length<=1000) (_:∀(l:Addr) (A:List V) c,SameB b H c->BoxAt c b (n+g.length)->l≠b->H l=none->c l=some (.lst A)->A.Perm g->Q (.ref l) c):WV K s H Q
def Vw(K:W.Frag):Sp:=λb H Q _=>WV K b H Q
theorem zeU:zD ["_law_box_here","_law_some","_law_found","_law_one"] ["_law_box_here","_law_some"] (zu (topL 62)):=u4
def zcR(b:_)(a:_)(l:_)(H:_)(n:_)(A:List V):=λ(i:Nat) (σ:St) (c:Hp)=>(Ex2 λ(g:List V) (s:Option V)=>An5 (σ=[some (.ref b),some (.ref a),some (.ref l),s]) (SameB b H c) (BoxAt c b (n+i)) (c l=some (.lst g)) (g.Perm (A.take i)):Prop)
def zcQ(b:_)(a:_)(l:_)(H:_)(n:_)(A:List V):=λ(i:Nat) (σ:St) (c:Hp)=>(Ex2 λ(g:List V) (s:Option V)=>An5 (σ=[some (.ref b),some (.ref a),some (.ref l),s]) (SameB b H c) (BoxAt c b (n+i)) (c l=some (.lst g)) (g.Perm (A.take i)):Prop)
theorem zg8{f:Addr}{fd:FuncData}(F:Fun K "_law_shuffled" "_law_shuffled" (topL 62) f fd)(B:Blt D)(c:Dfn P w K D C "_law_take" 1 ["_law_box_here","_law_size"] vo):FnOk P w K D C CX0 2 f fd ["_law_box_here","_law_some"] (Vw K):=by
 have nd:=zeU.nd;refine F.ok zeU 0#d (λab A a0 s H vs Q E hr h=>?_)
 .obtain⟨b,a,n,G,rfl,_⟩:=h
  rfl
 .obtain⟨b,a,n,G,rfl,M,hn,hq,ac,k⟩:=h
  have aa:=bG100000;have U:=bGe;refine{_,(ze (zG (i:=2) nd rfl 0#a (z9 zd))
   (ze (jh jL rfl (zfi (pv 1)) (zq (i:=3) nd rfl 0#a)
   (zi (ji (xi j5 PySem.F.slot_list_insert PySem.F.type_list_insert zdx (pv 2) (za (zf c hr.m rfl (za (pv 0) (za (zO jk (zt zI rfl B.len boot_len 0#t) zg) zd))) (za (pv 3) zd))))))
   (zi (zy (pv 2))))),?_}
  refine{le0,λl g=>?_}
  have nl:=M.nne g;refine{_,rfl,a,rfl,hq.elim (λY=>.inl {{_,u6 ((zb g) _ _ Y.2)},xF (K:=K) (a:=a) (xs:=G) (zcR b a l H n G)
   {[],_,rfl,(uf b H).new g,(M.new g).mono (),zc,.nil} (λi σ N _ ⟨_,_,_,I,_,_,_⟩=>u6 (I _ _ Y.2 Y.1)) ?s1 ?e1}) (λhT=>.inr {{_,(zb g).sqT hT},Jf (K:=K) (a:=a) (xs:=G) (zcQ b a l H n G)
   {[],_,rfl,(uf b H).new g,(M.new g).mono (),zc,.nil} (λi σ N _ ⟨_,_,_,I,_,_,_⟩=>hT.keep (uc M I)) ?s2 ?e2})}
  case s1 | s2=>
   rintro i x σ N hx ⟨O,v3,rfl,I,T,J,L⟩;have hi:=(zK.mp hx).1;have yl:O.length=i:=by rw[L.length_eq,qv];omega
   refine{_,rfl,.inl {rfl,_,u6 J},_,rfl,_,rfl,l,_,rfl,.inl (u6 J),_,_,rfl,rfl,b,_,_,rfl,T,(),(),(),λq H5 q0 q1 B5 S5=>{_,rfl,?_}}
   refine{l,O,q,x,rfl,rfl,S5 l _ J nl,q0,by rw[U];omega,(),?_}
   refine{_,_,rfl,(I.trans S5).put g,(B5.other nl).mono (),zc,?_}
   have e1:G.take (i+1)=G.take i++[x]:=by
    obtain⟨h1,h2⟩:=zK.mp hx;rw[<- h2,Qc]
   rw[e1];refine List.perm_middle.trans ?_
   rw[ZD];exact((List.Perm.cons x L).trans (zgn x _).symm)
  case e1 | e2=>
   rintro σ N ⟨O,v3,rfl,I,T,J,L⟩;rw[qB] at L;exact{_,rfl,k l O N I T nl g J L}
end
mutual
def Dat.imm:Dat->Bool
 | .lst _=>false
 | .tup b=>Dat.imms b
 | _=>true
def Dat.imms:List Dat->Bool
 | []=>true
 | d::b=>d.imm&&Dat.imms b
end
section
variable{P:Program}{w:World}{K:W.Frag}{M:Str->Option Value}{C:Heap}
mutual
theorem Rep.keep{H H':Hp}(s:SameT H H'):∀{d:Dat} {v:V},d.imm=true->Rep K H d v->Rep K H' d v
 | .non,_,_,h=>h
 | .bl _,_,_,h=>h
 | .int _,_,_,h=>h
 | .str _,_,_,h=>h
 | .lst _,_,i,_=>by cases i
 | .tup ds,_,i,h=>by
  obtain⟨a,c,e,q,r⟩:=h;exact{a,c,e,q.keep s,Reps.keep s (ds:=ds) i r}
theorem Reps.keep{H H':Hp}(s:SameT H H'):∀{ds:List Dat} {g:List V},Dat.imms ds=true->Reps K H ds g->Reps K H' ds g
 | [],_,_,h=>h
 | d::ds,_,i,h=>by
  obtain⟨x,r,e,h1,h2⟩:=h;have c:(d.imm&&Dat.imms ds)=true:=i;rw[xP] at c;exact{x,r,e,Rep.keep s c.1 h1,Reps.keep s c.2 h2}
end
theorem Reps.snoc{H:Hp}{d:Dat}{v:V}(h:Rep K H d v):∀{c:List Dat} {g:List V},Reps K H c g->Reps K H (c++[d]) (g++[v])
 | [],_,e=>by rw[show _=_ from e];exact{v,[],rfl,h,rfl}
 | _::_,_,e=>by
  obtain⟨x,r,e1,h1,h2⟩:=e;subst e1;exact{x,r++[v],rfl,h1,Reps.snoc h h2}
def ue:=@Reps.snoc
theorem ZO{α β:Type}{f:α->β}{L J:List β}(h:L.Perm J):∀{g:List α},J=g.map f->∃s:List α,s.Perm g/\L=s.map f:=by
 induction h with
 | nil=>
  intro g e;have:g=[]:=by simpa using e.symm
  exact{[],by rw[this],rfl}
 | @cons x l1 l2 p Q=>
  intro g e;cases g with
  | nil=>simp at e
  | cons a G=>
   rw[jz] at e;injection e with e1 e2;obtain⟨s,D,E⟩:=Q e2;exact{a::s,D.cons a,by rw[jz,<- E,<- e1]}
 | swap x y l=>
  intro g e;cases g with
  | nil=>simp at e
  | cons a G=>
   cases G with
   | nil=>simp at e
   | cons c I=>
    rw[jz,jz] at e;injection e with e1 e2;injection e2 with e2 O;exact{c::a::I,.swap a c I,by rw[jz,jz,<- e1,<- e2,<- O]}
 | trans p q A B=>
  intro g e;obtain⟨s,D,E⟩:=B e;obtain⟨Y,T,U⟩:=A E;exact{Y,T.trans D,U}
def jM(p:Nat×Nat):Dat:=.tup [.int p.1,.int p.2]
def Qd(c:List (Nat×Nat)):Dat:=.tup (c.map jM)
theorem qN:∀(c:List (Nat×Nat)),Dat.imms (c.map jM)=true
 | []=>rfl
 | p::c=>by
  show(Dat.imm (jM p)&&Dat.imms (c.map jM))=true;rw[qN c];rfl
def ByOrd(c:List Nat)(g:List 0#e):Prop:=∀p∈g,∃k l:Nat,k<l/\c[k]? =some p.1/\c[l]? =some p.2
theorem Reps.take{H:Hp}:∀(n:Nat) {c:List Dat} {g:List V},Reps K H c g->Reps K H (c.take n) (g.take n)
 | 0,_,_,_=>rfl
 | n+1,[],_,h=>by rw[show _=_ from h];exact rfl
 | n+1,d::c,_,h=>by
  obtain⟨x,r,e,h1,h2⟩:=h;subst e;exact{x,r.take n,rfl,h1,Reps.take n h2}
theorem Reps.app{H:Hp}:∀{c l:List Dat} {s A:List V},Reps K H c s->Reps K H l A->Reps K H (c++l) (s++A)
 | [],_,_,_,h,g=>by rw[show _=_ from h];exact g
 | d::c,_,_,_,h,g=>by
  obtain⟨x,r,e,h1,h2⟩:=h;subst e;exact{x,r++_,rfl,h1,Reps.app h2 g}
def ug:=@Reps.app
inductive Jr(K:W.Frag)(l:List V)(H:Hp)(Q:VK):Prop
 | mk (b:Addr) (m n:Int) (_:l=[.ref b,.int m]) (_:BoxAt H b n) (_:n<1000000) (_:0<=m) (_:m<=100) (_:∀(p:Addr) (g:List 0#e) (c:List Nat) H',SameB b H H'->BoxAt H' b (n+800)->Rep K H' (Qd g) (.ref p)->c.Perm (List.range m.toNat)->ByOrd c g->g.length<=300->Q (.ref p) H'):Jr K l H Q
def Yg(K:W.Frag):Sp:=λc H Q _=>Jr K c H Q
theorem Yi:zD ["_law_box_here","_law_many","_law_order_here","_law_found","_law_turn","_law_k"] ["_law_box_here","_law_many"] (zu (topL 64)):=u4
theorem zlm{m r:Int}(h:0<=r)(c:r<4)(l:2<=m)(g:m<=100):∃z:Int,atI [V.int 1,V.int 4,V.int 13,V.int (2*m)] r=some (.int z)/\1<=z/\z<=200:=by
 have hc:r=0\/r=1\/r=2\/r=3:=()
 rcases hc with rfl | rfl | rfl | rfl
 .exact{1,rfl,(),()}
 .exact{4,rfl,(),()}
 .exact{13,rfl,(),()}
 .exact{2*m,rfl,(),()}
theorem zfu{ord:List Nat}{i:Int}(h:0<=i)(c:i<ord.length):∃x:Nat,atI (ord.map λi:Nat=>V.int (i:Int)) i=some (.int (x:Int))/\ord[i.toNat]? =some x:=by
 obtain⟨v,e1,e2⟩:=zaI (xs:=ord.map λi:Nat=>V.int (i:Int)) h (by rw[zm];exact c)
 rw[qk] at e2;obtain⟨x,hx,rfl⟩:=qG.mp e2;exact⟨x,e1,hx⟩
def zcP(b:_)(m:_)(o:_)(R:_)(H:_)(n:_)(g:_)(K:_):=λ(i:Nat) (σ:St) (c:Hp)=>(Ex4 λ(l:List 0#e) (s:List V) (A B:Option V)=>An8 (σ=[some (.ref b),some (.int m),some (.ref o),some (.ref R),A,B]) (SameB b H c) (BoxAt c b (n+110+2*i)) (c o=some (.lst (g.map λi:Nat=>V.int (i:Int)))) (c R=some (.lst s)) (Reps K c (l.map jM) s) (ByOrd g l) (l.length=i):Prop)
theorem zdr{f:Addr}{fd:FuncData}(F:Fun K "_law_aheads" "_law_aheads" (topL 64) f fd)(B:Blt M)(g:Dfn P w K M C "_law_take" 1 ["_law_box_here","_law_size"] vo)(l:Dfn P w K M C "_law_shuffled" 2 ["_law_box_here","_law_some"] (Vw K)):FnOk P w K M C CX0 3 f fd ["_law_box_here","_law_many"] (Yg K):=by
 have nd:=Yi.nd;refine F.ok Yi 0#d (λao A aj s H vs Q E hr h=>?_)
 .obtain⟨b,m,n,rfl,_⟩:=h
  rfl
 .obtain⟨b,m,n,rfl,B0,hn,m0,m1,k⟩:=h
  have an:=bG100000;have ae:=bGe;refine{_,(ze (Jv (i:=2) (j:=3) rfl nd rfl rfl 1e1 rfl rfl (za (zf l hr.m rfl (za (pv 0) (za (ZQ rfl rfl B.list rfl B.range x9 0#k) zd))) (za (z9 zd) zd)) 1e2)
   (ze (jb (zP Yq (pv 1) zg (zR _))
   (zi (zy (qL zd)))
   zY)
   (ze (jh jL rfl (jS rfl B.range (za (zf g hr.m rfl (za (pv 0) (za (zJ qO (z9 (za zg (za zg (za zg (za (zO vY zg (pv 1)) zd))))) (zf g hr.m rfl 0#h) 0#c) zd))) zd)) (zq (i:=4) nd rfl 0#a)
   (ze (zG (i:=5) nd rfl 0#a (zf g hr.m rfl (za (pv 0) (za (zO vy (pv 1) zg) zd))))
    (zi (ji (xi j5 vQ vP jr (pv 3) (za (qL (za (zJ qO (pv 2) (pv 5) 0#c) (za (zJ qO (pv 2) (zO jk (zO jk (pv 5) zg) (zf g hr.m rfl (za (pv 0) (za (zO vy (zO vy (pv 1) zg) (pv 5)) zd)))) 0#c) zd))) zd))))))
   (zi (zy (jw jJ rfl B.tuple jF (za (zO xr (pv 3) (vg yT (pv 3) wS (vf (jw Qv rfl B.int Z2 (za (qZ xW (zf g hr.m rfl 0#h) zg (zR _)) zd))))) zd))))))),?_}
  refine{_,rfl,_,rfl,m,rfl,m0,(),λl0 h0=>?_}
  have U:((List.range m.toNat).map λi:Nat=>V.int (i:Int)).length=m.toNat:=by rw[zm,wg]
  refine{b,l0,n,_,rfl,B0.new h0,(),.inl {B0.nne h0,zc},by rw[U];omega,λo ys H1 S1 B1 no oN ho pm=>{le0,λR hR=>{_,_,rfl,?_}}}
  obtain⟨D,op,rfl⟩:=ZO pm rfl;have ol:D.length=m.toNat:=by rw[op.length_eq,wg]
  rw[U] at B1;have Y:=B1.nne hR;have oR:o≠R:=zj ho hR;have ac:=((uf b H).new h0).trans S1;have RH:H R=none:=ac.none hR Y;have S2:=ac.new (o:=.lst []) hR;have B2:=B1.new (o:=.lst []) hR;have O2:=(zb (o:=.lst []) hR) _ _ ho;have R2:upd H1 R 0#o R=some 0#o:=zc;generalize upd H1 R 0#o=H2 at S2 B2 O2 R2;refine{_,rfl,_,_,rfl,rfl,_,rfl,j7 (λc=>?_) (λc=>?_)}
  .exact{le0,λp hp=>k p [] D _ (S2.new hp) ((B2.new hp).mono ()) {p,[],rfl,u7 zc,rfl} op (λp h=>nomatch h) (jv _)}
  have m2:2<=m:=by
   have:¬m<2:=λz=>c (qg z)
   omega
  refine{_,rfl,_,rfl,_,_,rfl,rfl,.inl {1e1,1e1},le4,λl1 h1=>{_,rfl,b,4,_,rfl,B2.new h1,(),1e1,1e1,λr H3 r0 r1 B3 S3=>?_}}
  have L3:=S3 l1 _ zc (B2.nne h1);obtain⟨z,ez,z0,z1⟩:=zlm r0 r1 m2 m1;refine{l1,_,_,_,rfl,rfl,u6 L3,ez,b,z,_,rfl,B3,(),(),(),λcnt H4 c0 c1 B4 S4=>{_,rfl,(by rw[ae];omega),(by rw[ae];omega),?_}}
  have U4:=((uf b H2).new h1).trans (S3.trans S4);have ag:=S2.trans U4;have O4:=U4 _ _ O2 no;have R4:=U4 _ _ R2 Y;clear S2 B2 O2 R2 S3 S4 U4 L3 h1 B3;refine xo (zcP b m o R H n D K)
   {[],[],_,_,rfl,ag,B4.mono (),O4,R4,rfl,(λp h=>nomatch h),rfl} ?_ ?_
  .rintro i σ H5 hi ⟨L,G,v4,v5,rfl,S5,B5,O5,R5,rp,bo,a0⟩
   have xl:G.length=i:=by rw[rp.len,zm,a0]
   refine{_,rfl,_,rfl,_,_,rfl,rfl,b,_,_,rfl,B5,(),(),(),λkk H6 k0 k1 B6 I=>?_}
   have O6:=I _ _ O5 no;obtain⟨x1,ah,ak⟩:=zfu (ord:=D) k0 ()
   refine{_,rfl,.inl {rfl,_,u6 (I _ _ R5 Y)},_,rfl,_,rfl,o,_,_,_,rfl,rfl,u6 O6,ah,?_}
   refine{_,rfl,_,rfl,_,_,rfl,rfl,_,rfl,_,rfl,_,_,rfl,rfl,_,rfl,_,_,rfl,rfl,b,_,_,rfl,B6,(),(),(),λq H7 q0 q1 B7 S7=>{_,_,rfl,rfl,?_}}
   have O7:=S7 _ _ O6 no;have R7:=S7 _ _ (I _ _ R5 Y) Y;obtain⟨x2,ai,al⟩:=zfu (ord:=D) (i:=kk+1+q) () ()
   refine{o,_,_,_,rfl,rfl,u6 O7,ai,le2,λT O=>{R,G,.ref T,rfl,rfl,(zb O) _ _ R7,(),?_}}
   have R8:=(zb (o:=.tup [.int (x1:Int),.int (x2:Int)]) O) _ _ R7;have st:SameT H5 (upd (upd H7 T (.tup [.int (x1:Int),.int (x2:Int)])) R (.lst (G++[.ref T]))):=((uc B5 (I.trans S7)).trans (.of (zb O))).trans (.put R8);refine{L++[(x1,x2)],_,_,_,rfl,(((S5.trans I).trans S7).new O).put RH,((B7.new O).other Y).mono (),by rw[zp oR];exact(zb O) _ _ O7,zc,?_,λpq ab=>?_,by rw[qh,a0];rfl}
   .rw[zL]
    refine ue ?_ (Reps.keep st (qN L) rp)
    refine{T,_,rfl,u7 ?_,_,_,rfl,rfl,_,_,rfl,rfl,rfl}
    rw[zp (λzz=>by rw[zz,R7] at O;cases O)]
    exact zc
   .rcases zV.mp ab with w1 | w1
    .exact bo pq w1
    .rw[qm.mp w1]
     exact{kk.toNat,(kk+1+q).toNat,(),ak,al}
  .rintro σ H5 ⟨L,G,v4,v5,rfl,S5,B5,O5,R5,rp,bo,a0⟩
   have xl:G.length=L.length:=by rw[rp.len,zm]
   refine{_,rfl,_,rfl,_,rfl,b,4,_,rfl,B5,(),1e1,1e1,λr9 H6 ap aq B6 I=>{rfl,.inr {_,rfl,_,rfl,R,G,rfl,u6 (I _ _ R5 Y),λs1 J=>?_}}}
   have R6:=I _ _ R5 Y;obtain⟨t,et⟩:∃t:Nat,jA G none (some (if decide (V.int r9=V.int 0)=true then(1:Int) else 0))=G.take t/\t<=1:=by
    unfold jA;by_cases hd:decide (V.int r9=V.int 0)=true
    .rw[zC hd,show(some (1:Int))=some ((1:Nat):Int) from rfl,HT.sIx_nat,HT.sIx_none]
     refine{min 1 G.length,1e3,()}
    .rw[zw hd,show(some (0:Int))=some ((0:Nat):Int) from rfl,HT.sIx_nat,HT.sIx_none]
     refine{0,1e3,()}
   rw[et.1];have st:SameT H5 H6:=.draw B5 I;have am:=Reps.keep st (qN L) rp;have tl:(G.take t).length<=1:=by rw[qv];omega
   refine{R,s1,_,_,rfl,rfl,(zb J) _ _ R6,zc,(),λc1 aa=>{c1,_,rfl,.inl {u6 zc,λp hp=>?_}}}
   have sm:=((zb (o:=.lst (G.take t)) J).trans (zb (o:=.lst (G++G.take t)) aa)).trans (zb (o:=.tup (G++G.take t)) hp);refine k p (L++L.take t) D _ ((((S5.trans I).new J).new aa).new hp) ((((B6.new J).new aa).new hp).mono ()) {p,_,rfl,u7 zc,?_} op (λpq ab=>?_) (by rw[qh,qv];omega)
   .have af:=Reps.keep (SameT.of sm) (qN L) am
    have rt:=Reps.take t af;rw[<- Xg] at rt;have:=ug af rt;rw[<- zL] at this;exact this
   .rcases zV.mp ab with w1 | w1
    .exact bo pq w1
    .exact bo pq (QI w1)
structure xS where
 k:Str
 x:Int
 y:Int
structure xw where
 k:Str
 x:Int
 y:Int
 m:Int
def vk(p:xS):Dat:=.tup [.str p.k,.tup [.int p.x,.int p.y]]
def wq(p:xw):Dat:=.tup [.str p.k,.tup [.int p.x,.int p.y],.int p.m]
theorem vB:∀(c:List xw),Dat.imms (c.map wq)=true
 | []=>rfl
 | p::c=>by
  show(Dat.imm (wq p)&&Dat.imms (c.map wq))=true;rw[vB c];rfl
theorem xV:∀(c:List xS),Dat.imms (c.map vk)=true
 | []=>rfl
 | p::c=>by
  show(Dat.imm (vk p)&&Dat.imms (c.map vk))=true;rw[xV c];rfl
def inP(x y:Int):Prop:=0<=x/\x<=1000/\0<=y/\y<=1000
inductive Ye(K:W.Frag)(B:List V)(H:Hp)(Q:VK):Prop
 | mk (b l A:Addr) (D:Bool) (n:Int) (c:List Str) (g:List xS) (_:B=[.ref b,.ref l,.ref A,.bl D]) (_:BoxAt H b n) (_:n<900000) (_:l≠b) (_:Row H l c) (_:1<=c.length) (_:c.length<=12) (_:Rep K H (.tup (g.map vk)) (.ref A)) (_:g.length<=100) (_:∀(p:Addr) (fs:List xw) (s:List Str) H',SameB b H H'->BoxAt H' b (n+400)->Rep K H' (.tup (fs.map wq)) (.ref p)->(fs.map (·.k)).Perm (c++s)->(∀e∈s,e∈c)->fs.length<=40->(∀f∈fs,Nm f.k/\inP f.x f.y/\0<=f.m/\f.m<=400)->Q (.ref p) H'):Ye K B H Q
def zeG(K:W.Frag):Sp:=λc H Q _=>Ye K c H Q
theorem ze6:zD ["_law_box_here","_law_kinds","_law_parts","_law_plenty","_law_great","_law_more","_law_some","_law_found","_law_kind","_law_need","_law_many"] ["_law_box_here","_law_kinds","_law_parts","_law_plenty"] (zu (topL 63)):=u4
theorem zee{ns:List Str}{i:Int}(h:0<=i)(c:i<ns.length):∃x,atI (ns.map V.str) i=some (.str x)/\x∈ns:=by
 obtain⟨v,e1,e2⟩:=zaI (xs:=ns.map V.str) h (by rw[zm];exact c)
 rw[qk] at e2;obtain⟨x,hx,rfl⟩:=qG.mp e2;exact{x,e1,qz hx}
theorem zll{a c r:Int}(h:0<=r)(s:r<3)(g:0<=a)(a1:a<=400)(l:0<=c)(c1:c<=400):∃z:Int,atI [V.int a,V.int c,V.int 400] r=some (.int z)/\0<=z/\z<=400:=by
 have hc:r=0\/r=1\/r=2:=()
 rcases hc with rfl | rfl | rfl
 .exact⟨a,rfl,g,a1⟩
 .exact⟨c,rfl,l,c1⟩
 .exact{400,rfl,(),()}
def zcO(b:_)(c:_)(l:_)(g:_)(r:_)(H:_)(n:_):=λ(s:St) (H':Hp)=>(Ex1 λ(more:Int)=>An5 (s=[some (.ref b),some (.ref c),some (.ref l),some (.bl g),some (.bl (decide (V.int r=V.int 0))),some (.int more),none,none,none,none,none]) (0<=more) (more<=20) (SameB b H H') (BoxAt H' b (n+2)):Prop)
theorem zhl{f:Addr}{fd:FuncData}(F:Fun K "_law_feeders" "_law_feeders" (topL 63) f fd)(B:Blt M)(I:Dfn P w K M C "_law_take" 1 ["_law_box_here","_law_size"] vo)(U:Dfn P w K M C "_law_shuffled" 2 ["_law_box_here","_law_some"] (Vw K))(aa:Dfn P w K M C "_law_place" 2 ["_law_box_here","_law_taken"] (Ja K)):FnOk P w K M C CX0 3 f fd ["_law_box_here","_law_kinds","_law_parts","_law_plenty"] (zeG K):=by
 have nd:=ze6.nd;refine F.ok ze6 0#d (λbg A bb s H vs Q E hr h=>?_)
 .obtain⟨b,ks,ps,pl,n,G,O,rfl,_⟩:=h
  rfl
 .obtain⟨b,ks,ps,pl,n,G,O,rfl,B0,hn,nk,Rk,k0,k1,hp,lp,k⟩:=h
  have bf:=bG100000;have au:=bGe;have ek:(G.map V.str).length=G.length:=zm ..;refine{_,(ze (zG (i:=4) nd rfl 0#a (qZ xW (zf I hr.m rfl 0#h) zg (zR _)))
   (ze (yU (zG (i:=5) nd rfl 0#a (zf I hr.m rfl (za (pv 0) (za (wK (jH (pv 4)) (zO vy zg (zt zI rfl B.len boot_len 0#k)) zg) zd)))))
   (ze (zG (i:=6) nd rfl 0#a (zO xr (pv 1) (jE ["_law_kinds","_law_box_here"] [1,0] rfl rfl (by kernel_rfl) (jS rfl B.range (za (pv 5) zd)) 0#g (λ_ _ _ _=>(zJ (ZV (K:=K) rfl) (pv 1) (zf I hr.m rfl (za (pv 2) (za (zt (vD (K:=K) rfl) rfl B.len boot_len 0#k) zd))) 0#c)))))
   (ze (zG (i:=7) nd rfl 0#a (z9 zd))
   (ze (jh jL rfl (zZ (zf U hr.m rfl (za (pv 0) (za (pv 6) zd)))) (zq (i:=8) nd rfl (Or.inr rfl))
   (ze (zG (i:=9) nd rfl 0#a (zt zI rfl B.len boot_len (za (jE ["_law_kind"] [8] rfl rfl (by kernel_rfl) (xO (pv 2)) (λ_ _ _ _=>(xh (zP xW 0#A (pv 1) (zR _)))) 0#m) zd)))
    (ze (yU (zG (i:=10) nd rfl 0#a (wK (jH (pv 3)) (zJ qO (z9 (za (pv 9) (za (zO jk (pv 9) (zf I hr.m rfl 0#h)) (za zg zd)))) (zf I hr.m rfl 0#h) 0#c) (zf I hr.m rfl 0#h))))
    (zi (ji (xi j5 vQ vP jr (pv 7) (za (qL (za (pv 8) (za (zf aa hr.m rfl (za (pv 0) (za (z9 zd) zd))) (za (pv 10) zd)))) zd)))))))
   (zi (zy (jw jJ rfl B.tuple jF (za (pv 7) zd))))))))),?_}
  refine{_,rfl,b,8,n,rfl,B0,(),1e1,1e1,λr H1 r0 r1 B1 S1=>{rfl,?_}}
  have ap:=Rk.draw S1 nk;refine{zcO b ks ps pl r H n,?_,?_}
  .refine{_,rfl,_,rfl,_,rfl,j7 (λc=>?_) (λc=>?_)}
   .exact{_,rfl,ks,_,rfl,.inl (u6 ap.1),_,_,rfl,rfl,b,_,_,rfl,B1,(),(),(),λmore H2 a0 a1 B2 S2=>{_,rfl,a0,(),S1.trans S2,B2.mono ()}}
   .exact{b,4,_,rfl,B1,(),1e1,1e1,λmore H2 a0 a1 B2 S2=>{_,rfl,a0,(),S1.trans S2,B2.mono ()}}
  rintro σ' H2 ⟨more,rfl,bi,bj,S2,B2⟩;clear S1 B1 ap;have ae:=Rk.draw S2 nk;refine{_,rfl,_,rfl,_,rfl,(by rw[au];omega),(by rw[au];omega),YF (λj Y H3=>Ex1 λ(L:List Str)=>An5 (Y=L.map V.str) (L.length=j) ((∀x∈L,x∈G)) (SameB b H2 H3) (BoxAt H3 b (n+2+j))) {[],rfl,rfl,(λx h=>nomatch h),uf _ _,B2.mono ()} ?_ ?_}
  .rintro j Y H3 hj ⟨L,rfl,el,ee,S3,B3⟩
   refine{rfl,{_,rfl,_,rfl,_,rfl,ks,_,rfl,.inl (u6 (ae.draw S3 nk).1),b,_,_,rfl,B3,(),(),(),λq H4 q0 q1 B4 S4=>?_}}
   obtain⟨y,ey,my⟩:=zee (ns:=G) q0 ()
   refine{ks,_,_,_,rfl,rfl,u6 (ae.draw (S3.trans S4) nk).1,ey,by rw[zm,el];omega,L++[y],by rw[zL];rfl,by rw[qh,el];rfl,λx hx=>?_,S3.trans S4,B4.mono ()}
   rcases zV.mp hx with pq | pq
   .exact ee x pq
   .rw[qm.mp pq];exact my
  rintro Y H3 ⟨L,rfl,el,ee,S3,B3⟩;refine{by rw[zm,el];omega,λD hD=>?_}
  have ar:=(S2.trans S3).new (o:=.lst (L.map V.str)) hD;have aq:=(ae.draw S3 nk).same (zb (o:=.lst (L.map V.str)) hD);refine{ks,D,_,_,rfl,rfl,aq.1,zc,by rw[ek,zm,el];omega,λsm hs=>?_}
  have B4:=(B3.new (o:=.lst (L.map V.str)) hD).new (o:=.lst (G.map V.str++L.map V.str)) hs;have S4:=ar.new (o:=.lst (G.map V.str++L.map V.str)) hs;have ns:=(B3.new (o:=.lst (L.map V.str)) hD).nne hs;have M4:upd (upd H3 D (.lst (L.map V.str))) sm (.lst (G.map V.str++L.map V.str)) sm=some (.lst ((G++L).map V.str)):=by rw[zc,zL]
  generalize upd (upd H3 D (.lst (L.map V.str))) sm (.lst (G.map V.str++L.map V.str))=H4 at B4 S4 M4;clear S2 S3 ar ae aq B2 B3 hD hs;refine{le0,λR hR=>?_}
  have nR:=B4.nne hR;have RH:H R=none:=S4.none hR nR;have af:((G++L).map V.str).length<=32:=by rw[zm,qh,el];omega
  refine{_,rfl,_,rfl,b,sm,_,_,rfl,B4.new hR,(),.inl {ns,(zb hR) _ _ M4},(),λl ys H5 S5 B5 nl lN hl pm=>?_}
  obtain⟨sh,al,rfl⟩:=ZO pm rfl;have ay:=(S4.new (o:=.lst []) hR).trans S5;have R5:H5 R=some 0#o:=S5 _ _ zc nR;have lR:l≠R:=λz=>by rw[z,zc] at lN;cases lN
  have bp:sh.length<=32:=by rw[al.length_eq];rw[zm] at af;exact af
  have be:∀x∈sh,Nm x:=λx hx=>by
   rcases zV.mp (al.mem_iff.mp hx) with q | q
   .exact Rk.2 x q
   .exact Rk.2 x (ee x q)
  clear pm M4 S4 S5 B4 hR;refine{l,rfl,{_,u6 hl},xF (K:=K) (a:=l) (xs:=sh.map V.str) (λi σ H6=>Ex6 λ(fs:List xw) (xs:List V) (v6 v8 v9 am:Option V)=>An8 (σ=[some (.ref b),some (.ref ks),some (.ref ps),some (.bl pl),some (.bl (decide (V.int r=V.int 0))),some (.int more),v6,some (.ref R),v8,v9,am]) (SameB b H H6) (BoxAt H6 b (n+60+6*i)) (H6 l=some (.lst (sh.map V.str))) (H6 R=some (.lst xs)) (Reps K H6 (fs.map wq) xs) (fs.map (·.k)=sh.take i) (∀f∈fs,Nm f.k/\inP f.x f.y/\0<=f.m/\f.m<=400))
   {[],[],_,_,_,_,rfl,ay,B5.mono (),hl,R5,rfl,rfl,(λf h=>nomatch h)} (λi σ H6 _ ⟨_,_,_,_,_,_,_,_,_,h,_,_,_,_⟩=>u6 h) ?_ ?_}
  .rintro i x σ H6 hx ⟨fs,xs,v6,v8,v9,am,rfl,S6,B6,L6,R6,rp,fk,fa⟩
   rw[qk] at hx;obtain⟨kd,aj,rfl⟩:=qG.mp hx;have hi:=(zK.mp aj).1;have fl:fs.length=i:=by
    have:=congrArg List.length fk;rw[zm,qv] at this;omega
   have xl:xs.length=i:=by rw[rp.len,zm,fl]
   have ba:=Rep.keep (d:=.tup (O.map vk)) (uc B0 S6) (xV O) hp;obtain⟨_,aw,ep,hq,av⟩:=ba;cases ep;have bm:aw.length=O.length:=by rw[av.len,zm]
   refine{_,rfl,ps,rfl,{_,hq},vz (K:=K) (a:=ps) (xs:=aw) (λj Y H7=>Y.length<=j/\Same H6 H7) {zF _,ua _} (λj Y H7 ⟨_,s7⟩=>s7.sqT hq) ?_ ?_}
   .rintro j v Y H7 hv ⟨zl,s7⟩
    have hj:=(zK.mp hv).1;obtain⟨d,hd,rd⟩:=av.get hv;rw[qk] at hd;obtain⟨pt,_,rfl⟩:=qG.mp hd;obtain⟨c,bh,rfl,hc,u1,bo,e1,e2,e3⟩:=rd;subst e1;cases(show u1=.str pt.k from e2)
    refine{rfl,{_,rfl,c,_,_,.str pt.k,rfl,rfl,s7.sqT hc,qr (j:=0) rfl,_,rfl,rfl,_,rfl,j7 (λdd=>{_,rfl,(),by rw[qh];simp;omega,s7}) (λdd=>{(),s7})}}
   rintro Y H7 ⟨zl,s7⟩;refine{(),λD2 az=>{D2,Y,rfl,.inl (u6 zc),?_}}
   have s8:=s7.trans (zb (o:=.lst Y) az);have B8:=B6.same s8;generalize upd H7 D2 (.lst Y)=H8 at s8 B8;refine{λσ' H'=>Ex1 λ(J:Int)=>An5 (σ'=[some (.ref b),some (.ref ks),some (.ref ps),some (.bl pl),some (.bl (decide (V.int r=V.int 0))),some (.int more),v6,some (.ref R),some (.str kd),some (.int (Y.length:Int)),some (.int J)]) (0<=J) (J<=400) (SameB b H8 H') (BoxAt H' b (n+60+6*i+2)),?_,?_}
   .refine{_,rfl,_,rfl,j7 (λc=>?_) (λc=>?_)}
    .refine{_,rfl,_,rfl,_,rfl,b,9,_,rfl,B8,(),1e1,1e1,λq9 H9 a0 a1 B9 S9=>{_,_,rfl,rfl,le3,λl3 h3=>{_,rfl,b,3,_,rfl,B9.new h3,(),1e1,1e1,λq3 an c0 c1 ag ab=>?_}}}
     have ax:=ab l3 _ zc (B9.nne h3);obtain⟨z,ez,z0,z1⟩:=zll (a:=(Y.length:Int)) (c:=(Y.length:Int)+q9) c0 c1 () () () ()
     exact{l3,_,_,_,rfl,rfl,u6 ax,ez,z,rfl,z0,z1,(S9.new h3).trans ab,ag.mono ()}
    .exact{_,rfl,b,4,_,rfl,B8,(),1e1,1e1,λq9 H9 a0 a1 B9 S9=>{q9,rfl,a0,(),S9,B9.mono ()}}
   rintro σ' H9 ⟨J,rfl,y0,y1,S9,B9⟩;have as:=(uh (b:=b) s8).trans S9;have R9:=as _ _ R6 nR;refine{_,rfl,.inl {rfl,_,u6 R9},_,rfl,_,rfl,le0,λe he=>{b,e,_,[],rfl,B9.new he,(),B9.nne he,zc,jv _,(λa h=>nomatch h),λpp an ab ag bn pa=>{_,rfl,le3,λT hT=>?_}}}
   obtain⟨px,py,ac,b1,b2,b3,b4⟩:=pa;have ah:=ab _ _ ((zb he) _ _ R9) nR;have ao:=(zb (o:=.tup [.str kd,.ref pp,.int J]) hT) _ _ ah;refine{R,xs,.ref T,rfl,rfl,ao,(),?_}
   have ai:=(as.new he).trans (ab.new (o:=.tup [.str kd,.ref pp,.int J]) hT);have st:SameT H6 (upd (upd an T (.tup [.str kd,.ref pp,.int J])) R (.lst (xs++[.ref T]))):=(uc B6 ai).trans (.put ao);have TR:T≠R:=λz=>by rw[z,ah] at hT;cases hT
   have bc:pp≠R:=λz=>by rw[z,ah] at ac;cases ac
   have bd:pp≠T:=λz=>by rw[z,hT] at ac;cases ac
   refine{fs++[⟨kd,px,py,J⟩],_,_,_,_,_,rfl,(S6.trans ai).put RH,((ag.new hT).other nR).mono (),by rw[zp lR];exact ai _ _ L6 nl,zc,?_,?_,λg b0=>?_}
   .rw[zL]
    refine ue ?_ (Reps.keep st (vB fs) rp)
    refine{T,_,rfl,u7 (by rw[zp TR];exact zc),_,_,rfl,rfl,_,_,rfl,{pp,_,rfl,u7 (by rw[zp bc,zp bd];exact ac),_,_,rfl,rfl,_,_,rfl,rfl,rfl},_,_,rfl,rfl,rfl}
   .rw[zL,fk]
    obtain⟨h1,h2⟩:=zK.mp aj;rw[<- Qc h1,h2];rfl
   .rcases zV.mp b0 with q | q
    .exact fa g q
    .rw[qm.mp q]
     exact{be kd (qz aj),⟨b1,b2,b3,b4⟩,y0,y1}
  .rintro σ H6 ⟨fs,xs,v6,v8,v9,am,rfl,S6,B6,L6,R6,rp,fk,fa⟩
   rw[zm,qB] at fk;have fl:fs.length<=32:=by
    have:=congrArg List.length fk;rw[zm] at this;omega
   refine{_,rfl,R,xs,rfl,.inl {u6 R6,λp ak=>?_}}
   refine k p fs L _ (S6.new ak) ((B6.new ak).mono (by rw[zm] at *;omega)) {p,_,rfl,u7 zc,Reps.keep (SameT.of (zb ak)) (vB fs) rp} (by rw[fk];exact al) ee () fa
structure Job where
 gx:Int
 gy:Int
 hd:Int
 fs:List xw
 ps:List xS
 as:List 0#e
def j6(J:Job):Dat:=.tup [.tup [.int J.gx,.int J.gy],.int J.hd,.tup (J.fs.map wq),.tup (J.ps.map vk),Qd J.as]
theorem wN(J:Job):(j6 J).imm=true:=by
 show(true&&(true&&(Dat.imms (J.fs.map wq)&&(Dat.imms (J.ps.map vk)&&(Dat.imms (J.as.map jM)&&true)))))=true;rw[vB,xV,qN];rfl
structure JobOk(J:Job)(ord:List Nat):Prop where
 gate:inP J.gx J.gy
 hd0:1<=J.hd
 hd1:J.hd<=4
 fl:J.fs.length<=40
 fa:∀f∈J.fs,Nm f.k/\inP f.x f.y/\0<=f.m/\f.m<=400
 pl:J.ps.length<=60
 pa:∀p∈J.ps,Nm p.k/\inP p.x p.y/\∃f∈J.fs,f.k=p.k
 op:ord.Perm 0#x
 bo:ByOrd ord J.as
 al:J.as.length<=300
 f0:1<=J.fs.length
theorem zgT{r:Int}(h0:0<=r)(h1:r<4):∃z:Int,atI [V.int 3,V.int 3,V.int 3,V.int 12] r=some (.int z)/\3<=z/\z<=12:=by
 have hc:r=0\/r=1\/r=2\/r=3:=()
 rcases hc with rfl | rfl | rfl | rfl
 .exact{3,rfl,1e1,1e1}
 .exact{3,rfl,1e1,1e1}
 .exact{3,rfl,1e1,1e1}
 .exact{12,rfl,1e1,1e1}
inductive zbM(K:W.Frag)(s:List V)(H:Hp)(Q:VK):Prop
 | mk (b:Addr) (g c n:Int) (A:Bool) (_:s=[.ref b,.int g,.int c,.bl A]) (_:BoxAt H b n) (_:n<500000) (_:0<=g) (_:g<=60) (_:0<=c) (_:c<=60) (_:∀(p:Addr) (J:Job) (l:List Nat) H',SameB b H H'->BoxAt H' b (n+3000)->Rep K H' (j6 J) (.ref p)->JobOk J l->Q (.ref p) H'):zbM K s H Q
def zif(K:W.Frag):Sp:=λc H Q _=>zbM K c H Q
theorem zit:zD ["_law_box_here","_law_few","_law_most","_law_plenty","_law_many","_law_kinds","_law_parts","_law_feeders_here"] ["_law_box_here","_law_few","_law_most","_law_plenty"] (zu (topL 65)):=u4
def zcN(b:_)(g:_)(c:_)(l:_)(H:_)(n:_):=λ(s:St) (H':Hp)=>(Ex1 λ(m:Int)=>An5 (s=[some (.ref b),some (.int g),some (.int c),some (.bl l),some (.int m),none,none,none]) (0<=m) (m<=60) (SameB b H H') (BoxAt H' b (n+2)):Prop)
theorem zjG{f:Addr}{fd:FuncData}(F:Fun K "_law_job" "_law_job" (topL 65) f fd)(B:Blt M)(g:Dfn P w K M C "_law_take" 1 ["_law_box_here","_law_size"] vo)(Y:Dfn P w K M C "_law_names" 3 ["_law_box_here","_law_many"] zbH)(aa:Dfn P w K M C "_law_place" 2 ["_law_box_here","_law_taken"] (Ja K))(O:Dfn P w K M C "_law_places" 3 ["_law_box_here","_law_many"] WZ)
  (J:Dfn P w K M C "_law_feeders" 3 ["_law_box_here","_law_kinds","_law_parts","_law_plenty"] (zeG K)) (L:Dfn P w K M C "_law_aheads" 3 ["_law_box_here","_law_many"] (Yg K)):FnOk P w K M C CX0 4 f fd ["_law_box_here","_law_few","_law_most","_law_plenty"] (zif K):=by
 have nd:=zit.nd;refine F.ok zit 0#d (λbm A bf s H vs Q E hr h=>?_)
 .obtain⟨b,aq,af,n,pl,rfl,_⟩:=h
  rfl
 .obtain⟨b,aq,af,n,pl,rfl,B0,hn,f0,f1,bn,bp,k⟩:=h
  have bi:=bG100000;refine{_,(ze (yU (zG (i:=4) nd rfl 0#a (zf g hr.m rfl (za (pv 0) (za (zO jk (wK (zP Yr (zf g hr.m rfl 0#h) zg (zR _)) (pv 1) (pv 2)) zg) zd)))))
   (ze (zG (i:=5) nd rfl (Or.inr rfl) (zf Y hr.m rfl (za (pv 0) (za (zO jk zg (zf g hr.m rfl (za (pv 0) (za (zJ qO (z9 (za zg (za zg (za zg (za zg zd))))) (zf g hr.m rfl 0#h) 0#c) zd)))) zd))))
   (ze (zG (i:=6) nd rfl 0#a (jw jJ rfl B.tuple jF (za (jE ["_law_kinds","_law_box_here"] [5,0] rfl rfl (by kernel_rfl) (zZ (zf O hr.m rfl (za (pv 0) (za (pv 4) zd)))) 0#g (λ_ _ _ _=>(qL (za (zJ (ZV (K:=K) rfl) (pv 1) (zf g hr.m rfl (za (pv 2) (za (zt (vD (K:=K) rfl) rfl B.len boot_len 0#k) zd))) 0#c) 0#y)))) zd)))
   (ze (zG (i:=7) nd rfl 0#a (zf J hr.m rfl (za (pv 0) (za (pv 5) (za (pv 6) (za (pv 3) zd))))))
   (zi (zy (qL (pa5 (zf aa hr.m rfl (za (pv 0) (za (z9 zd) zd))) (zO jk zg (zf g hr.m rfl 0#h)) (pv 7) (pv 6) (zf L hr.m rfl (za (pv 0) (za (pv 4) zd))))))))))),?_}
  refine{zcN b aq af pl H n,?_,?_}
  .refine{_,rfl,_,rfl,b,8,n,rfl,B0,(),1e1,1e1,λr H1 r0 r1 B1 S1=>{_,_,rfl,rfl,_,rfl,j7 (λc=>{_,rfl,_,_,rfl,rfl,?_}) (λc=>{_,rfl,_,_,rfl,rfl,?_})}}
   .exact{b,_,_,rfl,B1,(),(),(),λm H2 a0 a1 B2 S2=>{m,rfl,a0,(),S1.trans S2,B2.mono ()}}
   .exact{b,_,_,rfl,B1,(),(),(),λm H2 a0 a1 B2 S2=>{m,rfl,a0,(),S1.trans S2,B2.mono ()}}
  rintro σ' H2 ⟨m,rfl,m0,m1,S2,B2⟩;refine{_,rfl,_,rfl,le4,λl1 h1=>{_,rfl,b,4,_,rfl,B2.new h1,(),1e1,1e1,λr H3 r0 r1 B3 S3=>?_}}
  have L3:=S3 l1 _ zc (B2.nne h1);obtain⟨z,ez,z0,z1⟩:=zgT r0 r1;refine{l1,_,_,_,rfl,rfl,u6 L3,ez,b,z,_,rfl,B3,(),(),(),λq H4 q0 q1 B4 S4=>{_,_,rfl,rfl,b,1+q,_,rfl,B4,(),(),(),λks G H5 S5 B5 nk kN Rk kl=>?_}}
  have ao:=(((S2.new h1).trans S3).trans S4).trans S5;have ek:(G.map V.str).length=G.length:=zm ..;clear S2 S3 S4 S5 B2 B3 B4 L3 h1;refine{_,rfl,_,rfl,b,m,_,rfl,B5,(),m0,(),λl as H6 S6 B6 nl lN hl pa al=>?_}
  have ae:=Rk.draw S6 nk;refine{l,rfl,{_,u6 hl},qR (K:=K) (a:=l) (xs:=as.map V.ref) (λj U H7=>Ex1 λ(I:List xS)=>An5 (Reps K H7 (I.map vk) U) (I.length=j) ((∀q∈I,q.k∈G/\inP q.x q.y)) (SameB b H6 H7) (BoxAt H7 b (n+700+j))) {[],rfl,rfl,(λx h=>nomatch h),uf _ _,B6.mono ()} (λj U H7 ⟨_,_,_,_,s7,_⟩=>u6 (s7 _ _ hl nl)) ?_ ?_}
  .rintro j x U H7 hx ⟨I,rq,ql,qa,S7,B7⟩
   rw[qk] at hx;obtain⟨a,ha,rfl⟩:=qG.mp hx;have hj:=(zK.mp ha).1;have zl:U.length=j:=by rw[rq.len,zm,ql]
   refine{rfl,{_,rfl,_,rfl,_,rfl,ks,_,rfl,.inl (u6 (ae.draw S7 nk).1),b,_,_,rfl,B7,(),(),(),λq H8 c0 c1 B8 S8=>?_}}
   obtain⟨y,ey,my⟩:=zee (ns:=G) c0 ()
   obtain⟨px,py,be,b1,b2,b3,b4⟩:=(pa a (qz ha)).draw B6 (S7.trans S8);refine{ks,_,_,_,rfl,rfl,u6 (ae.draw (S7.trans S8) nk).1,ey,_,rfl,le2,λT hT=>{(),I++[⟨y,px,py⟩],?_,by rw[qh,ql];rfl,λq hq=>?_,(S7.trans S8).new hT,(B8.new hT).mono ()}}
   .rw[zL]
    have rT:Rep K (upd H8 T (.tup [.str y,.ref a])) (vk ⟨y,px,py⟩) (.ref T):={T,_,rfl,u7 zc,_,_,rfl,rfl,_,_,rfl,{a,_,rfl,u7 ((zb hT) _ _ be),_,_,rfl,rfl,_,_,rfl,rfl,rfl},rfl};exact ue rT (Reps.keep ((uc B7 S8).trans (.of (zb hT))) (xV I) rq)
   .rcases zV.mp hq with w1 | w1
    .exact qa q w1
    .rw[qm.mp w1];exact⟨my,b1,b2,b3,b4⟩
  rintro U H7 ⟨I,rq,ql,qa,S7,B7⟩;rw[zm] at ql;have B7:BoxAt H7 b (n+800):=B7.mono (by rw[zm];omega)
  have zl:U.length=as.length:=by rw[rq.len,zm,ql]
  refine{(),λD hD=>{D,U,rfl,.inl {u6 zc,λps ar=>?_}}}
  have sm:=(zb (o:=.lst U) hD).trans (zb (o:=.tup U) ar);have S8:=(ao.trans S6).trans (S7.trans (uh (b:=b) sm));have B8:=B7.same sm;have ai:=(ae.draw S7 nk).same sm;have P8:Rep K (upd (upd H7 D (.lst U)) ps (.tup U)) (.tup (I.map vk)) (.ref ps):={ps,_,rfl,u7 zc,Reps.keep (.of sm) (xV I) rq};generalize upd (upd H7 D (.lst U)) ps (.tup U)=H8 at sm S8 B8 ai P8;clear ao S6 S7 B5 B6 B7 Rk ae rq hD ar pa hl;refine{_,rfl,_,rfl,_,rfl,_,rfl,b,ks,ps,pl,_,G,I,rfl,B8,(),nk,ai,(),(),P8,(),λfp fs es H9 S9 B9 F9 ab ee fl fa=>?_}
  have P9:=Rep.keep (d:=.tup (I.map vk)) (uc B8 S9) (xV I) P8;refine{_,rfl,le0,λt ht=>{b,t,_,[],rfl,B9.new ht,(),B9.nne ht,zc,jv _,(λa h=>nomatch h),λgp b0 an ag gN ga=>?_}}
  obtain⟨gx,gy,bc,g1,g2,g3,g4⟩:=ga;refine{_,rfl,b,4,_,rfl,ag,(),1e1,1e1,λhd bj d0 d1 ah aj=>{_,_,rfl,rfl,_,rfl,_,rfl,_,rfl,_,rfl,b,m,_,rfl,ah,(),m0,(),λap am au ac ak ax av op bo bb=>{leN (by show 5<=1000;decide),λp hp=>?_}}}
  have t9:SameT H9 ac:=((SameT.of (zb ht)).trans (.draw (B9.new ht) an)).trans ((uc ag aj).trans (.draw ah ak));have bh:SameT b0 ac:=(uc ag aj).trans (.draw ah ak);have up:Same ac (upd ac p (.tup [.ref gp,.int (1+hd),.ref fp,.ref ps,.ref ap])):=zb hp;have ay:=Rep.keep (d:=.tup (fs.map wq)) (t9.trans (.of up)) (vB fs) F9;have ba:=Rep.keep (d:=.tup (I.map vk)) (t9.trans (.of up)) (xV I) P9;have aw:=Rep.keep (d:=Qd am) (.of up) (qN am) av;have az:=(bh.trans (.of up)) gp _ bc (λxs h=>nomatch h) (λxs h=>nomatch h)
  have bg:I.length=m.toNat:=()
  have fk:∀kd∈G,∃f∈fs,f.k=kd:=λkd bd=>by
   have:=ab.mem_iff.mpr (qw es bd);obtain⟨f,hf,e⟩:=zN.mp this;exact⟨f,hf,e⟩
  refine k p {gx,gy,1+hd,fs,I,am} au _ (((S8.trans S9).trans ((uh (zb ht)).trans an)).trans ((aj.trans ak).new hp)) ((ax.new hp).mono ()) ?_ ?_
  .exact{p,_,rfl,u7 zc,_,_,rfl,{gp,_,rfl,u7 az,_,_,rfl,rfl,_,_,rfl,rfl,rfl},_,_,rfl,rfl,_,_,rfl,ay,_,_,rfl,ba,_,_,rfl,aw,rfl}
  .refine{⟨g1,g2,g3,g4⟩,by show 1<=1+hd;omega,by show 1+hd<=4;omega,fl,fa,by show I.length<=60;omega,λq hq=>?_,by show au.Perm (List.range I.length);rw[bg];exact op,bo,bb,?_}
   .obtain⟨hk,hi⟩:=qa q hq
    exact{ai.2 q.k hk,hi,fk q.k hk}
   .have:=ab.length_eq
    rw[zm,qh] at this;show 1<=fs.length;omega
theorem zM{α:Type}{l:List α}{i:Nat}{x:α}(h:l[i]? =some x):l.take (i+1)=l.take i++[x]:=by
 obtain⟨h1,h2⟩:=zK.mp h;rw[<- h2,Qc]
def zr(os:List Nat):List V:=os.map λi:Nat=>V.int (i:Int)
theorem zA(os:List Nat):(zr os).length=os.length:=zm ..
theorem Yw(os:List Nat):zr os=(os.map λi:Nat=>(i:Int)).map V.int:=by unfold zr;rw[xc];rfl
theorem xn:∀os:List Nat,(zr os).all xj=true
 | []=>rfl
 | o::os=>by
  show(true&&(zr os).all xj)=true;rw[xn os];rfl
theorem y4(k:Nat):∀os:List Nat,inV (.int (k:Int)) (zr os)=decide (k∈os)
 | []=>rfl
 | o::os=>by
  show((o:Int)==(k:Int)||inV (.int (k:Int)) (zr os))=_
  rw[y4 k os];by_cases h:o=k
  .subst h;simp
  .have e:((o:Int)==(k:Int))=false:=by simp;omega
   rw[e,V8,decide_eq_decide];exact{λz=>xg _ z,λz=>(qH.mp z).resolve_left λy=>h y.symm}
theorem Vi(k:Nat):∀os:List Nat,((os.map λi:Nat=>(i:Int)).erase (k:Int))=(os.erase k).map λi:Nat=>(i:Int)
 | []=>rfl
 | o::os=>by
  rw[jz,List.erase_cons,List.erase_cons];by_cases h:(o==k)=true
  .have e:((o:Int)==(k:Int))=true:=by
    have:=eq_of_beq h;simp[this]
   rw[zC h,zC e]
  .have e:¬((o:Int)==(k:Int))=true:=λz=>h (by
    have:=eq_of_beq z;have:o=k:=()
    simp[this])
   rw[zw h,zw e,jz,Vi k os]
theorem vZ{os:List Nat}{i:Nat}{x:V}(h:(zr os)[i]? =some x):∃k,os[i]? =some k/\x=.int (k:Int):=by
 unfold zr at h;rw[qk] at h;obtain⟨k,hk,rfl⟩:=qG.mp h;exact⟨k,hk,rfl⟩
def Early(os:List Nat)(c:List 0#e):Prop:=∀p∈c,∀l:Nat,os[l]? =some p.2->∃k:Nat,k<l/\os[k]? =some p.1
theorem Early.snoc{os:List Nat}{g:List 0#e}{k:Nat}(h:Early os g)(hk:∀p∈g,p.2=k->p.1∈os):Early (os++[k]) g:=by
 intro p hp l c;by_cases B:l<os.length
 .rw[Zl B] at c
  obtain⟨j,h1,h2⟩:=h p hp l c;exact{j,h1,by rw[Zl ()];exact h2}
 .have A:l=os.length:=by
   have:=(zK.mp c).1;rw[qh] at this;simp at this;omega
  subst A;rw[Zn (zF _),V6] at c;have e:k=p.2:=by simpa using c
  obtain⟨j,s,D⟩:=QJ.mp (hk p hp e.symm);exact{j,s,by rw[Zl s,<- D];simp[s]}
theorem ByOrd.mem1{c:List Nat}{g:List 0#e}(h:ByOrd c g){p:Nat×Nat}(hp:p∈g):p.1∈c:=by
 obtain⟨k,l,_,e,_⟩:=h p hp;exact qz e
theorem ByOrd.mem2{c:List Nat}{g:List 0#e}(h:ByOrd c g){p:Nat×Nat}(hp:p∈g):p.2∈c:=by
 obtain⟨k,l,_,_,e⟩:=h p hp;exact qz e
theorem Early.ord{os ord:List Nat}{c:List 0#e}(h:Early os c)(b:ByOrd ord c)(hp:os.Perm ord):ByOrd os c:=by
 intro p hq;obtain⟨l,s,g⟩:=QJ.mp (hp.mem_iff.mpr (b.mem2 hq));have e:os[l]? =some p.2:=by rw[<- g];simp[s]
 obtain⟨k,h1,h2⟩:=h p hq l e;exact⟨k,l,h1,h2,e⟩
def jx(left:List Nat)(c:List 0#e):List Nat:=(c.filter λp=>decide (p.1∈left)).map λp=>p.2
def xu(left:List Nat)(c:List 0#e):List Nat:=left.filter λk=>!decide (k∈jx left c)
theorem YC{left:List Nat}{g:List 0#e}{c:Nat}:c∈jx left g↔∃p∈g,p.1∈left/\p.2=c:=by
 unfold jx;rw[zN];constructor
 .rintro⟨p,hp,rfl⟩
  obtain⟨h1,h2⟩:=qI.mp hp;exact{p,h1,qP h2,rfl}
 .rintro⟨p,h1,h2,rfl⟩
  exact{p,qI.mpr {h1,qg h2},rfl}
theorem zdK{left g:List Nat}{l:List 0#e}(b:ByOrd g l)(T:g.Nodup)(hs:∀k∈left,k∈g)(D:left≠[]):xu left l≠[]:=by
 have E:∀(n:Nat) (k:Nat),k∈left->(∃i,i<n/\g[i]? =some k)->∃c∈left,c∉jx left l:=by
  intro n;induction n with
  | zero=>rintro k _ ⟨i,B,_⟩;omega
  | succ n Q=>
   rintro k hk ⟨i,B,s⟩;by_cases G:k∈jx left l
   .obtain⟨p,hp,h1,rfl⟩:=YC.mp G
    obtain⟨x,y,O,I,A⟩:=b p hp;have e:y=i:=by
     have h1:=(zK.mp s).1;have h2:=(zK.mp A).1;have J:g[y]=g[i]:=by
      rw[qK h1] at s;rw[qK h2] at A;exact(jC A).trans (jC s).symm
     exact(Xk T).mp J
    exact Q p.1 h1 {x,(),I}
   .exact⟨k,hk,G⟩
 obtain⟨k,hk⟩:∃k,k∈left:=by
  cases left with
  | nil=>exact absurd rfl D
  | cons a r=>exact{a,1e3}
 obtain⟨i,B,s⟩:=QJ.mp (hs k hk);obtain⟨c,hc,L⟩:=E (i+1) k hk {i,(),by rw[<- s];simp[B]}
 intro z;have:c∈xu left l:=qI.mpr {hc,by simp[L]}
 rw[z] at this;cases this
theorem YJ{H:Hp}{J:Job}{B:Addr}(h:Rep K H (j6 J) (.ref B)):∃g fs l c:Addr,SqT K H B [.ref g,.int J.hd,.ref fs,.ref l,.ref c]/\Rep K H (.tup [.int J.gx,.int J.gy]) (.ref g)/\Rep K H (.tup (J.fs.map wq)) (.ref fs)/\Rep K H (.tup (J.ps.map vk)) (.ref l)/\Rep K H (Qd J.as) (.ref c):=by
 obtain⟨a,xs,e,q,x0,r0,G,h0,x1,r1,e1,h1,x2,r2,e2,h2,x3,r3,I,h3,x4,r4,L,h4,O⟩:=h;cases e;subst G e1 e2 I L;have s:r4=[]:=O;subst s;have A:x1=.int J.hd:=h1;subst A;obtain⟨g,Y,rfl,U⟩:=h0;obtain⟨fs,T,rfl,Q⟩:=h2;obtain⟨l,px,rfl,pq⟩:=h3;obtain⟨c,E,rfl,D⟩:=h4;exact{g,fs,l,c,q,⟨g,Y,rfl,U⟩,⟨fs,T,rfl,Q⟩,⟨l,px,rfl,pq⟩,⟨c,E,rfl,D⟩}
theorem ZM{H:Hp}{g:List Dat}{a:Addr}(h:Rep K H (.tup g) (.ref a)):∃c,SqT K H a c/\Reps K H g c:=by
 obtain⟨l,c,e,q,r⟩:=h;cases e;exact⟨c,q,r⟩
inductive X1(K:W.Frag)(s:List V)(H:Hp)(Q:VK):Prop
 | mk (b g:Addr) (J:Job) (c:List Nat) (n:Int) (_:s=[.ref b,.ref g]) (_:BoxAt H b n) (_:n<600000) (_:Rep K H (j6 J) (.ref g)) (_:JobOk J c) (_:∀(l:Addr) (os:List Nat) H',SameB b H H'->BoxAt H' b (n+60)->l≠b->H l=none->H' l=some (.lst (zr os))->os.Perm 0#x->ByOrd os J.as->Q (.ref l) H'):X1 K s H Q
def zbE(K:W.Frag):Sp:=λc H Q _=>X1 K c H Q
inductive zme(b s g l:Addr)(H:Hp)(n:Int)(J:Job)(m:Nat)(σ:St)(c:Hp):Prop
 | mk (left os:List Nat) (A B:Option V) (_:σ=[some (.ref b),some (.ref s),some (.ref g),some (.ref l),A,B]) (_:m=left.length) (_:SameB b H c) (_:BoxAt c b (n+os.length)) (_:c g=some (.lst (zr left))) (_:c l=some (.lst (zr os))) (_:(left++os).Perm 0#x) (_:Early os J.as):zme b s g l H n J m σ c
inductive zmf(b A l s:Addr)(H:Hp)(n:Int)(J:Job)(left:List Nat)(σ:St)(g:Hp):Prop
 | mk (c os:List Nat) (B D:Option V) (_:c.length<left.length) (_:σ=[some (.ref b),some (.ref A),some (.ref l),some (.ref s),B,D]) (_:SameB b H g) (_:BoxAt g b (n+os.length)) (_:g l=some (.lst (zr c))) (_:g s=some (.lst (zr os))) (_:(c++os).Perm 0#x) (_:Early os J.as):zmf b A l s H n J left σ g
theorem zbX:zD ["_law_box_here","_law_job_here","_law_left","_law_found","_law_late","_law_free"] ["_law_box_here","_law_job_here"] (zu (topL 66)):=u4
theorem zfD{f:Addr}{fd:FuncData}(F:Fun K "_law_order" "_law_order" (topL 66) f fd)(B:Blt M)(Y:Dfn P w K M C "_law_take" 1 ["_law_box_here","_law_size"] vo):FnOk P w K M C CX0 2 f fd ["_law_box_here","_law_job_here"] (zbE K):=by
 have nd:=zbX.nd;refine F.ok zbX 0#d (λc2 A bt s H vs Q E hr h=>?_)
 .obtain⟨b,jp,J,ar,n,rfl,_⟩:=h
  rfl
 .obtain⟨b,jp,J,ar,n,rfl,B0,hn,rj,jo,k⟩:=h
  have hu:=hr.units0;have bz:=bG100000;have pl:=jo.pl;have al:=jo.al;obtain⟨g,fs,ps,as,qj,_,_,rp,ra⟩:=YJ rj;obtain⟨O,qp,bw⟩:=ZM rp;obtain⟨av,qa,bd⟩:=ZM ra;have lp:=bw.len;rw[zm] at lp;have la:=bd.len;rw[zm] at la;refine{_,(ze (jQ (qL (za (ZQ rfl rfl B.list rfl B.range x9 (za (zt zI rfl B.len boot_len (za (zJ qC (pv 1) zg 0#c) zd)) zd)) (za (z9 zd) zd))) (qE rfl (zn (zq (i:=2) nd rfl (Or.inr rfl)) (zn (zq (i:=3) nd rfl 0#a) z7))))
   (ze (Ym jL (zP (JA hu) (pv 2) (z9 zd) (zR _))
   (ze (zG (i:=4) nd rfl (Or.inr rfl) (vI ["_law_left"] [2] rfl rfl (by kernel_rfl) (xO (zJ qC (pv 1) zg 0#c)) (λ_ _ _ _=>(xh (zP (jV (K:=K) rfl) (pv 0) (pv 2) (by with_unfolding_all rfl)))) (λ_ _ _ _=>(pv 1))))
    (ze (wR ["_law_late"] [4] rfl rfl (by kernel_rfl) (zZ (pv 2)) (λ_ _ _ _=>(xh (zP (wC (K:=K) rfl) (pv 0) (pv 1) (by with_unfolding_all rfl)))) 0#m (zq (i:=5) nd rfl 0#a))
    (ze (ji (xi j5 vQ vP jr (pv 3) (za (zJ qO (pv 5) (zf Y hr.m rfl (za (pv 0) (za (zt zI rfl B.len boot_len (za (pv 5) zd)) zd))) 0#c) zd)))
    (zi (ji (xi j5 PySem.F.slot_list_remove PySem.F.type_list_remove zar (pv 2) (za (zJ qO (pv 3) (zln ziV zg) 0#c) zd))))))))
   (zi (zy (pv 3))))),?_}
  refine{_,rfl,jp,_,_,_,rfl,rfl,qj,rfl,ps,_,rfl,.inr qp,_,rfl,(),(),λG h0=>{le0,λI h1=>{le2,λt ht=>?_}}}
  have eN:((List.range ((O.length:Int)).toNat).map λi:Nat=>V.int (i:Int))=zr 0#x:=by
   unfold zr;rw[show((O.length:Int)).toNat=J.ps.length by omega]
  have n0:=B0.nne h0;have S0:=(uf b H).new (o:=.lst ((List.range ((O.length:Int)).toNat).map λi:Nat=>V.int (i:Int))) h0
  have B1:=B0.new (o:=.lst ((List.range ((O.length:Int)).toNat).map λi:Nat=>V.int (i:Int))) h0
  have L0:upd H G (.lst ((List.range ((O.length:Int)).toNat).map λi:Nat=>V.int (i:Int))) G=some (.lst (zr 0#x)):=by rw[zc,eN]
  generalize upd H G (.lst ((List.range ((O.length:Int)).toNat).map λi:Nat=>V.int (i:Int)))=H1 at S0 B1 L0 h1 ht
  have n1:=B1.nne h1;have N1:=S0.none h1 n1;have bb:G≠I:=zj L0 h1;have S1:=S0.new (o:=.lst []) h1;have B2:=B1.new (o:=.lst []) h1;have ae:=(zb (o:=.lst []) h1) _ _ L0;have L1:upd H1 I 0#o I=some 0#o:=zc;generalize upd H1 I 0#o=H2 at S1 B2 ae L1 ht;have S2:=S1.new (o:=.tup [.ref G,.ref I]) ht;have B3:=B2.new (o:=.tup [.ref G,.ref I]) ht;have af:=(zb (o:=.tup [.ref G,.ref I]) ht) _ _ ae;have ag:=(zb (o:=.tup [.ref G,.ref I]) ht) _ _ L1;have T3:upd H2 t (.tup [.ref G,.ref I]) t=some (.tup [.ref G,.ref I]):=zc;generalize upd H2 t (.tup [.ref G,.ref I])=H3 at S2 B3 af ag T3;refine{t,_,rfl,u7 T3,rfl,_,_,rfl,_,_,rfl,rfl,?_}
  clear S0 S1 B1 B2 L0 ae L1 ht h1 T3;refine{zme b jp G I H n J,
   {_,List.range J.ps.length,[],none,none,rfl,rfl,S2,B3.mono 1e3,af,ag,by rw[qA],λp _ l hl=>by simp at hl},?_}
  clear S2 B3 af ag;rintro m σ H4 ⟨left,os,v4,v5,rfl,rfl,S4,B4,LL,LO,pm,ea⟩;have ac:=pm.length_eq;rw[qh,wg] at ac;refine{_,rfl,le0,λq hq=>{G,q,_,rfl,rfl,u6 ((zb hq) _ _ LL),u6 zc,_,rfl,?_}}
  have S5:=S4.new (o:=.lst []) hq;have B5:=B4.new (o:=.lst []) hq;have a0:=(zb (o:=.lst []) hq) _ _ LL;have aa:=(zb (o:=.lst []) hq) _ _ LO;generalize upd H4 q 0#o=H5 at S5 B5 a0 aa;clear S4 B4 LL LO hq;cases left with
  | nil=>
   refine ifF rfl {_,rfl,k I os H5 S5 (B5.mono (by simp at ac;omega)) n1 N1 aa (by simpa using pm) (ea.ord jo.bo ?_)}
   have:os.Perm 0#x:=by simpa using pm
   exact this.trans jo.op.symm
  | cons c rest=>
   refine ifT rfl ?_
   have bp:c::rest≠[]:=λz=>by cases z
   generalize c::rest=left at *
   clear c rest;refine{zmf b jp G I H n J left,
    λσ' H' ⟨aq,bs,v4,v5,bo,e,a1,a2,a3,a4,a5,a6⟩=>{_,bo,aq,bs,v4,v5,e,rfl,a1,a2,a3,a4,a5,a6},?_}
   have T5:=SameT.trans (uc B0 S5) (SameT.refl H5);have bc:=qj.keep T5;have aw:=qa.keep T5;have be:=bd.keep T5 (qN J.as);refine{_,rfl,jp,_,_,_,rfl,rfl,bc,rfl,as,rfl,{_,aw},vz (K:=K) (a:=as) (xs:=av) (λi zs H6=>zs=zr (jx left (J.as.take i))/\Same H5 H6) {rfl,ua _} (λi zs H6 ⟨_,D⟩=>D.sqT aw) ?_ ?_}
   .rintro i x zs H6 hx ⟨rfl,D⟩
    obtain⟨d,e1,r1⟩:=(be.same D).get hx;rw[qk] at e1;obtain⟨p,ep,rfl⟩:=qG.mp e1;obtain⟨pa,xs,rfl,bu,y0,r0,f0,g0,y1,bv,f1,g1,f2⟩:=r1;subst f0 f1;cases(show bv=[] from f2)
    cases(show y0=_ from g0)
    cases(show y1=_ from g1)
    have hi:i<J.as.length:=(zK.mp ep).1;refine{pa,_,rfl,bu,rfl,_,_,rfl,_,_,rfl,rfl,rfl,?_}
    refine{_,rfl,_,rfl,G,zr left,rfl,.inl (u6 (D _ _ a0)),rfl,xn left,_,rfl,?_}
    have et:J.as.take (i+1)=J.as.take i++[p]:=zM ep;have ao:(if false=true then !inV (.int (p.1:Int)) (zr left) else inV (.int (p.1:Int)) (zr left))=decide (p.1∈left):=y4 p.1 left
    rw[ao];refine j7 (λc=>{_,rfl,?_,?_,D}) (λc=>{?_,D})
    .have:(jx left (J.as.take i)).length<=J.as.length:=by
      unfold jx;rw[zm];refine jN (jq _ _) ?_
      rw[qv];omega
     rw[zA];omega
    .rw[et]
     unfold jx;rw[xI,zL,QY (by exact c)]
     unfold zr;rw[zL];rfl
    .rw[et]
     unfold jx;rw[xI,QX (by exact c),Xh,qA]
   rintro zs H6 ⟨rfl,D⟩;have ay:J.as.take av.length=J.as:=by rw[la,qB]
   rw[ay];have bq:(jx left J.as).length<=300:=by
    unfold jx;rw[zm];exact jN (jq _ _) al
   refine{by rw[zA];omega,λab U=>?_}
   have S6:=(S5.trans (uh D)).new (o:=.lst (zr (jx left J.as))) U;have B6:=(B5.same D).new (o:=.lst (zr (jx left J.as))) U;have T:=(zb (o:=.lst (zr (jx left J.as))) U) _ _ (D _ _ a0);have ak:=(zb (o:=.lst (zr (jx left J.as))) U) _ _ (D _ _ aa);have ah:upd H6 ab (.lst (zr (jx left J.as))) ab=some (.lst (zr (jx left J.as))):=zc;generalize upd H6 ab (.lst (zr (jx left J.as)))=H7 at S6 B6 T ak ah;clear S5 B5 a0 aa D U T5 bc aw be;refine{_,rfl,G,rfl,{_,u6 T},qR (K:=K) (a:=G) (xs:=zr left) (λi zs H8=>zs=zr ((left.take i).filter λk=>!decide (k∈jx left J.as))/\Same H7 H8) {rfl,ua _} (λi zs H8 ⟨_,D⟩=>u6 (D _ _ T)) ?_ ?_}
   .rintro i x zs H8 hx ⟨rfl,D⟩
    obtain⟨c,ec,rfl⟩:=vZ hx;have hi:i<left.length:=(zK.mp ec).1;refine{rfl,?_}
    refine{_,rfl,_,rfl,ab,zr (jx left J.as),rfl,.inl (u6 (D _ _ ah)),rfl,xn _,_,rfl,?_}
    have ao:(if true=true then !inV (.int (c:Int)) (zr (jx left J.as)) else inV (.int (c:Int)) (zr (jx left J.as)))=!decide (c∈jx left J.as):=by rw[y4];rfl
    rw[ao,zM ec];refine j7 (λd=>{_,rfl,?_,?_,D}) (λd=>{?_,D})
    .have:=jq (λk=>!decide (k∈jx left J.as)) (left.take i)
     rw[qv] at this;rw[zA];omega
    .rw[xI,QY (by exact d)]
     unfold zr;rw[zL];rfl
    .rw[xI,QX (by exact d),Xh,qA]
   rintro zs H8 ⟨rfl,D⟩;have bj:left.take (zr left).length=left:=by rw[zA,qB]
   rw[bj];have bn:(left.filter λk=>!decide (k∈jx left J.as))=xu left J.as:=rfl
   rw[bn];have c3:(xu left J.as).length<=left.length:=jq _ _;refine{by rw[zA];omega,λlf L=>?_}
   have S7:=(S6.trans (uh D)).new (o:=.lst (zr (xu left J.as))) L;have B7:=(B6.same D).new (o:=.lst (zr (xu left J.as))) L;have ax:=(zb (o:=.lst (zr (xu left J.as))) L) _ _ (D _ _ T);have am:=(zb (o:=.lst (zr (xu left J.as))) L) _ _ (D _ _ ak);have ai:upd H8 lf (.lst (zr (xu left J.as))) lf=some (.lst (zr (xu left J.as))):=zc;have br:=(B6.same D).nne L;generalize upd H8 lf (.lst (zr (xu left J.as)))=H9 at S7 B7 ax am ai;clear S6 B6 T ak ah D L;have inr:∀x∈left,x∈ar:=λx hx=>by
    have h1:=pm.mem_iff.mp (qw os hx);exact jo.op.mem_iff.mpr h1
   have au:ar.Nodup:=jo.op.nodup_iff.mpr yH;have bm:=zdK jo.bo au inr bp;have bx:0<(xu left J.as).length:=Wo.mpr bm;refine{_,rfl,.inl {rfl,_,u6 am},_,rfl,_,rfl,_,rfl,lf,_,rfl,.inl (u6 ai),b,_,_,rfl,B7,(),by rw[zA];omega,by rw[zA];omega,λr Ha r0 r1 Ba Sa=>?_}
   rw[zA] at r1;have ba:r.toNat<(xu left J.as).length:=()
   have er:(zr (xu left J.as))[r.toNat]? =some (.int (((xu left J.as)[r.toNat]:Nat):Int)):=by
    unfold zr;rw[qk,qK ba];rfl
   have az:atI (zr (xu left J.as)) r=some (.int (((xu left J.as)[r.toNat]:Nat):Int)):=by
    have:=qr er;rwa[show((r.toNat:Nat):Int)=r by omega] at this
   have b0:=wc ba;generalize (xu left J.as)[r.toNat]=c at er az b0;obtain⟨cl,cn⟩:=qI.mp b0;have bi:c∉jx left J.as:=by simpa using cn
   have bf:=Sa _ _ ai br;have bh:=Sa _ _ am n1;have bg:=Sa _ _ ax n0;refine{lf,_,_,_,rfl,rfl,u6 bf,az,I,_,_,rfl,rfl,bh,by rw[zA];omega,?_}
   have eO:zr os++[V.int (c:Int)]=zr (os++[c]):=by unfold zr;rw[zL];rfl
   rw[eO];have Sb:=(S7.trans Sa).put (o:=.lst (zr (os++[c]))) N1;have Bb:=Ba.other (o:=.lst (zr (os++[c]))) n1;have an:upd Ha I (.lst (zr (os++[c]))) I=some (.lst (zr (os++[c]))):=zc;have aj:upd Ha I (.lst (zr (os++[c]))) G=some (.lst (zr left)):=by rw[zp bb];exact bg
   generalize upd Ha I (.lst (zr (os++[c])))=Hb at Sb Bb an aj;have ap:atI (zr (os++[c])) (-1)=some (.int (c:Int)):=by
    have:zr (os++[c])=zr os++[V.int (c:Int)]:=eO.symm;rw[this];exact zgg _ _
   refine{_,rfl,.inl {rfl,_,u6 aj},_,rfl,_,rfl,I,_,_,_,rfl,rfl,u6 an,ap,G,left.map λi:Nat=>(i:Int),(c:Int),rfl,rfl,by rw[aj,Yw],zN.mpr ⟨c,cl,rfl⟩,?_}
   have eE:((left.map λi:Nat=>(i:Int)).erase (c:Int)).map V.int=zr (left.erase c):=by rw[Vi,Yw]
   rw[eE];have N0:H G=none:=h0;have c0:(left.erase c).length+1=left.length:=by
    have:=zbc cl;have:=za7 cl;omega
   refine{left.erase c,os++[c],_,_,(),rfl,Sb.put N0,(Bb.other n0).mono (by rw[qh];simp;omega),zc,by rw[zp bb.symm];exact an,?_,?_}
   .have h1:(left++os).Perm (c::(left.erase c)++os):=(List.perm_cons_erase cl).append_right os
    have h2:(left.erase c++(os++[c])).Perm (c::left.erase c++os):=by
     rw[<- je];exact QK
    exact(h2.trans h1.symm).trans pm
   .refine ea.snoc λp hp e=>?_
    have h1:p.1∈left++os:=pm.mem_iff.mpr (jo.op.mem_iff.mp (jo.bo.mem1 hp));rcases zV.mp h1 with z | z
    .exact absurd (YC.mpr ⟨p,hp,z,e⟩) bi
    .exact z
structure zW where
 pk:List 0#e
 ly:List Nat
def Yx(k:Nat):Dat:=.int (k:Int)
def jG(t:zW):Dat:=.tup [.tup (t.pk.map jM),.tup (t.ly.map Yx)]
theorem Yv:∀(l:List Nat),Dat.imms (l.map Yx)=true
 | []=>rfl
 | k::l=>by
  show(true&&Dat.imms (l.map Yx))=true;rw[Yv l];rfl
theorem XV(t:zW):(jG t).imm=true:=by
 show(Dat.imms (t.pk.map jM)&&(Dat.imms (t.ly.map Yx)&&true))=true;rw[qN,Yv];rfl
theorem xm:∀(l:List zW),Dat.imms (l.map jG)=true
 | []=>rfl
 | t::l=>by
  show((jG t).imm&&Dat.imms (l.map jG))=true;rw[XV,xm l];rfl
theorem Reps.perm{H:Hp}{α:Type}{f:α->Dat}{E D:List V}(h:E.Perm D):∀{g:List α},Reps K H (g.map f) D->∃s:List α,s.Perm g/\Reps K H (s.map f) E:=by
 induction h with
 | nil=>intro g h;exact{g,List.Perm.refl _,h}
 | cons x hp L=>
  intro g h;cases g with
  | nil=>cases(show _=[] from h)
  | cons a g=>
   obtain⟨y,r,e,h1,h2⟩:=h;cases e;obtain⟨s,p,q⟩:=L h2;exact{a::s,p.cons a,{_,_,rfl,h1,q}}
 | swap x y l=>
  intro g h;cases g with
  | nil=>cases(show _=[] from h)
  | cons a g=>
   obtain⟨u,r,e,h1,h2⟩:=h;cases e;cases g with
   | nil=>cases(show _=[] from h2)
   | cons c g=>
    obtain⟨u,r,e,I,J⟩:=h2;cases e;exact{c::a::g,List.Perm.swap a c g,{_,_,rfl,I,_,_,rfl,h1,J}}
 | trans h1 h2 A B=>
  intro g h;obtain⟨s,p,q⟩:=B h;obtain⟨G,O,Q⟩:=A q;exact{G,O.trans p,Q}
theorem Qn{H:Hp}:∀(l:List Nat),Reps K H (l.map Yx) (zr l)
 | []=>rfl
 | k::l=>{_,_,rfl,rfl,Qn l}
theorem jc{H:Hp}{p:Nat×Nat}{x:V}(h:Rep K H (jM p) x):∃a,x=.ref a/\SqT K H a [.int p.1,.int p.2]:=by
 obtain⟨E,L,rfl,c,G,J,l,B,I,g,s,D,A⟩:=h;subst l s;cases(show g=[] from A)
 cases(show G=_ from B)
 cases(show I=_ from D)
 exact⟨E,rfl,c⟩
inductive WT(K:W.Frag)(l:List V)(H:Hp)(Q:VK):Prop
 | mk (b pk:Addr) (n:Int) (s:List V) (c:List 0#e) (_:l=[.ref b,.ref pk]) (_:BoxAt H b n) (_:n<900000) (_:pk≠b) (_:H pk=some (.lst s)) (_:Reps K H (c.map jM) s) (_:c.length<=1000) (_:∀(p:Addr) (g:List 0#e) H',SameB b H H'->BoxAt H' b (n+c.length)->g.Perm c->Rep K H' (jG {g,c.map (·.1)}) (.ref p)->Q (.ref p) H'):WT K l H Q
def zei(K:W.Frag):Sp:=λc H Q _=>WT K c H Q
theorem zeS:zD ["_law_box_here","_law_picks"] ["_law_box_here","_law_picks"] (zu (topL 67)):=u4
theorem zg6{f:Addr}{fd:FuncData}(F:Fun K "_law_trip" "_law_trip" (topL 67) f fd)(B:Blt M)(c:Dfn P w K M C "_law_shuffled" 2 ["_law_box_here","_law_some"] (Vw K)):FnOk P w K M C CX0 3 f fd ["_law_box_here","_law_picks"] (zei K):=by
 have nd:=zeS.nd;refine F.ok zeS 0#d (λak A af s H vs Q E hr h=>?_)
 .obtain⟨b,pk,n,O,g,rfl,_⟩:=h
  rfl
 .obtain⟨b,pk,n,O,g,rfl,B0,hn,T,hp,rp,lp,k⟩:=h
  have aj:=bG100000;have lx:O.length=g.length:=by have:=rp.len;rwa[zm] at this
  refine{_,(zi (zy (qL (za (jw jJ rfl B.tuple jF (za (zf c hr.m rfl (za (pv 0) 0#k)) zd)) (za (jw jJ rfl B.tuple jF (za (vI [] [] rfl rfl (by kernel_rfl) (zZ (pv 1)) 0#g 0#m) zd)) zd))))),?_}
  refine{_,rfl,_,rfl,b,pk,n,O,rfl,B0,(),.inl ⟨T,hp⟩,(),λl G H1 S1 B1 nl hl hL pm=>?_}
  have T1:=uc B0 S1;obtain⟨sh,ai,ah⟩:=Reps.perm pm (rp.keep T1 (qN g));have ag:=rp.keep T1 (qN g);refine{l,G,rfl,.inl {u6 hL,λY J=>?_}}
  have s1:=zb (o:=.tup G) J;have I:=s1 _ _ (S1 _ _ hp T);have U:=ag.same s1;have D:=ah.same s1;have a0:upd H1 Y (.tup G) Y=some (.tup G):=zc;have S2:=S1.new (o:=.tup G) J;have B2:=B1.new (o:=.tup G) J;generalize upd H1 Y (.tup G)=H2 at s1 I U D a0 S2 B2;refine{_,rfl,pk,rfl,{_,u6 I},qR (K:=K) (a:=pk) (xs:=O) (λi zs H3=>zs=zr ((g.map (·.1)).take i)/\Same H2 H3) {rfl,ua _} (λi zs H3 ⟨_,L⟩=>u6 (L _ _ I)) ?_ ?_}
  .rintro i x zs H3 hx ⟨rfl,L⟩
   obtain⟨d,e1,r1⟩:=(U.same L).get hx;rw[qk] at e1;obtain⟨p,ep,rfl⟩:=qG.mp e1;obtain⟨pa,rfl,qp⟩:=jc r1;have hi:i<g.length:=(zK.mp ep).1;refine{pa,_,rfl,qp,rfl,_,_,rfl,_,_,rfl,rfl,rfl,?_}
   refine{_,rfl,?_,?_,L}
   .rw[zA,qv,zm];omega
   .have aa:(g.map (·.1))[i]? =some p.1:=by rw[qk,ep];rfl
    rw[zM aa];unfold zr;rw[zL];rfl
  rintro zs H3 ⟨rfl,L⟩;have ab:(g.map (·.1)).take O.length=g.map (·.1):=by rw[lx,<- zm (f:=(·.1)),qB]
  rw[ab];refine{by rw[zA,zm];omega,λl2 ac=>{l2,_,rfl,.inl {u6 zc,λt2 ae=>{le2,λq hq=>?_}}}}
  have s2:=(L.trans (zb (o:=.lst (zr (g.map (·.1)))) ac)).trans (zb (o:=.tup (zr (g.map (·.1)))) ae)
  have s3:=s2.trans (zb (o:=.tup [.ref Y,.ref t2]) hq);refine k q sh _ (S2.trans (uh s3)) (B2.same s3 |>.mono ()) ai ?_
  refine{q,_,rfl,u7 zc,_,_,rfl,{Y,G,rfl,u7 (s3 _ _ a0),D.same s3},_,_,rfl,{t2,_,rfl,u7 ((zb hq) _ _ zc),Qn _},rfl}
def wF(J:Job)(p:Nat×Nat):Prop:=∃g c,J.ps[p.1]? =some g/\J.fs[p.2]? =some c/\c.k=g.k
structure QM(J:Job)(t:zW):Prop where
 p1:1<=t.pk.length
 p2:(t.pk.length:Int)<=J.hd
 ok:∀p∈t.pk,wF J p
 ly:t.ly.Perm (t.pk.map (·.1))
def zE(ts:List zW):List Nat:=ts.flatMap (·.ly)
theorem j9(ts:List zW)(t:zW):zE (ts++[t])=zE ts++t.ly:=by
 unfold zE;rw[wA];simp
def vM(ts:List zW):List 0#e:=ts.flatMap (·.pk)
theorem vq(ts:List zW)(t:zW):vM (ts++[t])=vM ts++t.pk:=by
 unfold vM;rw[wA];simp
structure StL(J:Job)(st:List Int)(l:List 0#e):Prop where
 len:st.length=J.fs.length
 nn:∀(f:Nat) (z:Int),st[f]? =some z->0<=z
 cnt:∀(f:Nat) (z:Int) (fe:xw),st[f]? =some z->J.fs[f]? =some fe->z=fe.m-((l.map (·.2)).count f:Int)
theorem StL.nil{J:Job}(h:∀f∈J.fs,0<=f.m):StL J (J.fs.map (·.m)) []:=by
 refine{zm ..,λf z e=>?_,λf z c e g=>?_}
 .rw[qk] at e
  obtain⟨x,l,rfl⟩:=qG.mp e;exact h x (qz l)
 .rw[qk,g] at e
  cases e;show c.m=c.m-((0:Nat):Int);omega
theorem StL.perm{J:Job}{st:List Int}{l c:List 0#e}(s:StL J st l)(p:l.Perm c):StL J st c:={s.len,s.nn,λf z A e g=>by rw[<- (p.map (·.2)).count_eq];exact s.cnt f z A e g}
theorem StL.take{J:Job}{st:List Int}{l:List 0#e}(s:StL J st l){c f:Nat}{z:Int}(e:st[f]? =some z)(h:0<z):StL J (st.set f (z-1)) (l++[(c,f)]):=by
 refine{by rw[QD];exact s.len,λg y A=>?_,λg y D A B=>?_}
 .rw[zaU] at A
  split at A
  .split at A
   .cases A;omega
   .cases A
  .exact s.nn g y A
 .rw[zL,yh]
  show _=_-((_+[f].count g:Nat):Int);rw[zaU] at A;split at A
  .split at A
   .cases A
    rename_i x _
    subst x;have:=s.cnt f z D e B;rw[zbd];omega
   .cases A
  .rename_i x
   have:=s.cnt g y D A B;rw[List.count_eq_zero_of_not_mem (a:=g) (l:=[f]) (λz=>x (qm.mp z).symm)]
   omega
structure PlanOk(J:Job)(os:List Nat)(ts:List zW):Prop where
 tr:∀t∈ts,QM J t
 sub:(zE ts).Sublist os
 len:ts.length<=60
 cl:∀p∈J.as,p.2∈zE ts->p.1∈zE ts
 stk:∃st,StL J st (vM ts)
structure PlC(J:Job)(ou laid pre:List Nat):Prop where
 a1:∀x∈pre,x∈laid\/x∈ou
 a2:∀p∈J.as,p.2∈laid->p.1∈laid
theorem PlC.out{J:Job}{ou laid g:List Nat}{c:Nat}(h:PlC J ou laid g):PlC J (ou++[c]) laid (g++[c]):={λx hx=>by
 rcases zV.mp hx with z | z
 .exact(h.a1 x z).imp id λy=>qw _ y
 .exact .inr (qW _ z),h.a2}
theorem PlC.lay{J:Job}{ou laid os:List Nat}{c i:Nat}(h:PlC J ou laid (os.take i))(s:os[i]? =some c)(E:os.Nodup)(g:ByOrd os J.as)(hc:∀p∈J.as,p.2=c->p.1∉ou):PlC J ou (laid++[c]) (os.take i++[c]):={λx hx=>by
 rcases zV.mp hx with z | z
 .exact(h.a1 x z).imp (λy=>qw _ y) id
 .exact .inl (qW _ z),λp hp D=>by
 rcases zV.mp D with z | z
 .exact qw _ (h.a2 p hp z)
 .have e:p.2=c:=qm.mp z
  obtain⟨k,l,I,e1,e2⟩:=g p hp;have G:l=i:=by
   obtain⟨h1,A⟩:=zK.mp e2;obtain⟨h2,B⟩:=zK.mp s;exact(Xk E).mp (A.trans (e.trans B.symm))
  have:p.1∈os.take i:=yi.mpr {k,by rw[Wj,zC ()];exact e1}
  rcases h.a1 _ this with y | y
  .exact qw _ y
  .exact absurd y (hc p hp e)}
structure PlS(K:W.Frag)(H:Hp)(b ls lf lp lo lq:Addr)(st:List Int)(tr pk:List V)(ou os:List Nat)(ts:List zW)(pks:List 0#e)(H':Hp)(n:Int):Prop where
 s:SameB b H H'
 bx:BoxAt H' b n
 nb:ls≠b/\lf≠b/\lp≠b/\lo≠b/\lq≠b
 nn:ls≠lf/\ls≠lp/\ls≠lo/\ls≠lq/\lf≠lp/\lf≠lo/\lf≠lq/\lp≠lo/\lp≠lq/\lo≠lq
 hN:H ls=none/\H lf=none/\H lp=none/\H lo=none
 hs:H' ls=some (.lst (st.map V.int))
 hf:H' lf=some (.lst tr)
 hp:H' lp=some (.lst pk)
 ho:H' lo=some (.lst (zr ou))
 hq:H' lq=some (.lst (zr os))
 rt:Reps K H' (ts.map jG) tr
 rk:Reps K H' (pks.map jM) pk
variable{H H' N:Hp}{b ls lf lp lo lq:Addr}{st:List Int}{tr pk:List V}{ou os:List Nat}{ts:List zW}{pks:List (Nat×Nat)}{n m:Int}
theorem PlS.draw(g:PlS K H b ls lf lp lo lq st tr pk ou os ts pks H' n)(S:SameB b H' N)(B:BoxAt N b m):PlS K H b ls lf lp lo lq st tr pk ou os ts pks N m:=by
 obtain⟨c,l,s,A,D⟩:=g.nb;have T:=uc g.bx S;exact{g.s.trans S,B,g.nb,g.nn,g.hN,S _ _ g.hs c,S _ _ g.hf l,S _ _ g.hp s,S _ _ g.ho A,S _ _ g.hq D,g.rt.keep T (xm ts),g.rk.keep T (qN pks)}
theorem PlS.same(g:PlS K H b ls lf lp lo lq st tr pk ou os ts pks H' n)(S:Same H' N):PlS K H b ls lf lp lo lq st tr pk ou os ts pks N n:=g.draw (uh S) (g.bx.same S)
theorem PlS.new{q:Addr}{o:HO}(g:PlS K H b ls lf lp lo lq st tr pk ou os ts pks H' n)(h:H' q=none):PlS K H b ls lf lp lo lq st tr pk ou os ts pks (upd H' q o) n:=g.same (zb h)
theorem PlS.mono(g:PlS K H b ls lf lp lo lq st tr pk ou os ts pks H' n)(h:n<=m):PlS K H b ls lf lp lo lq st tr pk ou os ts pks H' m:={g.s,g.bx.mono h,g.nb,g.nn,g.hN,g.hs,g.hf,g.hp,g.ho,g.hq,g.rt,g.rk}
theorem PlS.putO{c:List Nat}(g:PlS K H b ls lf lp lo lq st tr pk ou os ts pks H' n):PlS K H b ls lf lp lo lq st tr pk c os ts pks (upd H' lo (.lst (zr c))) n:=by
 obtain⟨A,B,D,s,E⟩:=g.nb;obtain⟨a1,a2,a3,a4,a5,a6,a7,a8,a9,l⟩:=g.nn;have T:=ud (ys:=zr c) g.ho;exact{g.s.put g.hN.2.2.2,g.bx.other s,g.nb,g.nn,g.hN,by rw[zp a3];exact g.hs,by rw[zp a6];exact g.hf,by rw[zp a8];exact g.hp,zc,by rw[zp l.symm];exact g.hq,g.rt.keep T (xm ts),g.rk.keep T (qN pks)}
theorem PlS.putS{st':List Int}(g:PlS K H b ls lf lp lo lq st tr pk ou os ts pks H' n):PlS K H b ls lf lp lo lq st' tr pk ou os ts pks (upd H' ls (.lst (st'.map V.int))) n:=by
 obtain⟨l,s,A,B,D⟩:=g.nb;obtain⟨a1,a2,a3,a4,a5,a6,a7,a8,a9,c⟩:=g.nn;have T:=ud (ys:=st'.map V.int) g.hs;exact{g.s.put g.hN.1,g.bx.other l,g.nb,g.nn,g.hN,zc,by rw[zp a1.symm];exact g.hf,by rw[zp a2.symm];exact g.hp,by rw[zp a3.symm];exact g.ho,by rw[zp a4.symm];exact g.hq,g.rt.keep T (xm ts),g.rk.keep T (qN pks)}
theorem PlS.putF{v:V}{t:zW}(g:PlS K H b ls lf lp lo lq st tr pk ou os ts pks H' n)(hv:Rep K H' (jG t) v):PlS K H b ls lf lp lo lq st (tr++[v]) pk ou os (ts++[t]) pks (upd H' lf (.lst (tr++[v]))) n:=by
 obtain⟨s,l,A,B,D⟩:=g.nb;obtain⟨a1,a2,a3,a4,a5,a6,a7,a8,a9,c⟩:=g.nn;have T:=ud (ys:=tr++[v]) g.hf;refine{g.s.put g.hN.2.1,g.bx.other l,g.nb,g.nn,g.hN,by rw[zp a1];exact g.hs,zc,by rw[zp a5.symm];exact g.hp,by rw[zp a6.symm];exact g.ho,by rw[zp a7.symm];exact g.hq,?_,g.rk.keep T (qN pks)}
 rw[zL];exact ue (hv.keep T (XV t)) (g.rt.keep T (xm ts))
theorem PlS.putP{v:V}{p:Nat×Nat}(g:PlS K H b ls lf lp lo lq st tr pk ou os ts pks H' n)(hv:Rep K H' (jM p) v):PlS K H b ls lf lp lo lq st tr (pk++[v]) ou os ts (pks++[p]) (upd H' lp (.lst (pk++[v]))) n:=by
 obtain⟨s,A,l,B,D⟩:=g.nb;obtain⟨a1,a2,a3,a4,a5,a6,a7,a8,a9,c⟩:=g.nn;have T:=ud (ys:=pk++[v]) g.hp;refine{g.s.put g.hN.2.2.1,g.bx.other l,g.nb,g.nn,g.hN,by rw[zp a2];exact g.hs,by rw[zp a5];exact g.hf,zc,by rw[zp a8.symm];exact g.ho,by rw[zp a9.symm];exact g.hq,g.rt.keep T (xm ts),?_}
 rw[zL];exact ue (hv.keep T 1e2) (g.rk.keep T (qN pks))
theorem PlS.newP{q:Addr}(g:PlS K H b ls lf lp lo lq st tr pk ou os ts pks H' n)(h:H' q=none):PlS K H b ls lf q lo lq st tr [] ou os ts [] (upd H' q 0#o) n:=by
 obtain⟨A,B,G,D,E⟩:=g.nb;obtain⟨a1,a2,a3,a4,a5,a6,a7,a8,a9,l⟩:=g.nn;have c:=g.new (o:=.lst []) h;have s:=g.bx.nne h;exact{c.s,c.bx,⟨A,B,s,D,E⟩,{a1,zj g.hs h,a3,a4,zj g.hf h,a6,a7,(zj g.ho h).symm,(zj g.hq h).symm,l},{g.hN.1,g.hN.2.1,g.s.none h s,g.hN.2.2.2},c.hs,c.hf,zc,c.ho,c.hq,c.rt,rfl}
inductive zkm(t:TT)(σ:St)(H:Hp)(Q:Bool->Hp->Prop):Prop
 | mk (J:Bool->Hp->Prop) (_:t σ H J) (_:∀c H',J c H'->Q c H'):zkm t σ H Q
theorem zb7{X:Cx}{e:Expr}{t:TT}(h:PT X e t):PT X e (zkm t):=by
 intro g s σ H Q I B;obtain⟨J,D,E⟩:=B;exact thn (h g s σ H J I D) λc s1 ⟨l,A,q⟩=>{l,A,E _ _ q}
theorem x6{H:Hp}{p:xw}{x:V}(h:Rep K H (wq p) x):∃a c,x=.ref a/\SqT K H a [.str p.k,.ref c,.int p.m]/\SqT K H c [.int p.x,.int p.y]:=by
 obtain⟨a,xs,rfl,q,Q,r0,l,D,y1,r1,s,E,T,O,A,G,B⟩:=h;subst l s A;cases(show O=[] from B)
 cases(show Q=_ from D)
 cases(show T=_ from G)
 obtain⟨c,ys,rfl,L,U,s0,g,I,Y,s1,e1,J,e2⟩:=E;subst g e1;cases(show s1=[] from e2)
 cases(show U=_ from I)
 cases(show Y=_ from J)
 exact⟨a,c,rfl,q,L⟩
theorem yV{H:Hp}{p:xS}{x:V}(h:Rep K H (vk p) x):∃a c,x=.ref a/\SqT K H a [.str p.k,.ref c]/\SqT K H c [.int p.x,.int p.y]:=by
 obtain⟨a,Y,rfl,q,L,T,l,B,y1,J,s,D,A⟩:=h;subst l s;cases(show J=[] from A)
 cases(show L=_ from B)
 obtain⟨c,ys,rfl,I,O,U,g,E,Q,s1,e1,G,e2⟩:=D;subst g e1;cases(show s1=[] from e2)
 cases(show O=_ from E)
 cases(show Q=_ from G)
 exact⟨a,c,rfl,q,I⟩
theorem J5{H:Hp}{α:Type}{f:α->Dat}{l:List α}{g:List V}(h:Reps K H (l.map f) g){i:Nat}{a:α}(s:l[i]? =some a):∃v,g[i]? =some v/\Rep K H (f a) v:=by
 have A:=h.len;rw[zm] at A;have c:i<g.length:=by have:=(zK.mp s).1;omega
 obtain⟨d,e,r⟩:=h.get (i:=i) (x:=g[i]) (by simp[c])
 rw[qk,s] at e;cases e;exact{g[i],by simp[c],r}
inductive WY(K:W.Frag)(A:List V)(H:Hp)(Q:VK):Prop
 | mk (b s:Addr) (J:Job) (g:List Nat) (c n:Int) (_:A=[.ref b,.ref s,.int c]) (_:BoxAt H b n) (_:n<500000) (_:Rep K H (j6 J) (.ref s)) (_:JobOk J g) (_:0<=c) (_:c<=100) (_:∀(l:Addr) (os:List Nat) (ts:List zW) (tr:List V) H',SameB b H H'->BoxAt H' b (n+1000)->l≠b->H l=none->H' l=some (.lst tr)->Reps K H' (ts.map jG) tr->os.Perm 0#x->ByOrd os J.as->PlanOk J os ts->Q (.ref l) H'):WY K A H Q
def zen(K:W.Frag):Sp:=λc H Q _=>WY K c H Q
theorem zeW:zD ["_law_box_here","_law_job_here","_law_most","_law_stock","_law_found","_law_picks","_law_out","_law_part","_law_some","_law_lost","_law_at"] ["_law_box_here","_law_job_here","_law_most"] (zu (topL 68)):=u4
def zcM(b:_)(l:_)(c:_)(ls:_)(lf:_)(lo:_)(K:_)(H:_)(lq:_)(os:_)(n:_)(J:_):=λ(i:Nat) (σ:St) (H':Hp)=>(zmn λ(lp:Addr) (s A B g:Option V) (st:List Int) (tr pk:List V) (ou:List Nat) (ts:List zW) (pks:List 0#e)=>zmp (σ=[some (.ref b),some (.ref l),some (.int c),some (.ref ls),some (.ref lf),some (.ref lp),some (.ref lo),s,A,B,g]) (PlS K H b ls lf lp lo lq st tr pk ou os ts pks H' (n+60+10*i)) (StL J st (vM ts++pks)) ((∀t∈ts,QM J t)) ((∀p∈pks,wF J p)) ((pks.length:Int)<J.hd) ((zE ts++pks.map (·.1)).Sublist (os.take i)) (ts.length+pks.length<=i) (ou.length<=i) (PlC J ou (zE ts++pks.map (·.1)) (os.take i)):Prop)
theorem zha{f:Addr}{fd:FuncData}(F:Fun K "_law_plan" "_law_plan" (topL 68) f fd)(B:Blt M)(aa:Dfn P w K M C "_law_take" 1 ["_law_box_here","_law_size"] vo)(au:Dfn P w K M C "_law_order" 2 ["_law_box_here","_law_job_here"] (zbE K))(ak:Dfn P w K M C "_law_trip" 3 ["_law_box_here","_law_picks"] (zei K)):FnOk P w K M C CX0 4 f fd ["_law_box_here","_law_job_here","_law_most"] (zen K):=by
 have nd:=zeW.nd;refine F.ok zeW 0#d (λea A dn s H vs Q E hr h=>?_)
 .obtain⟨b,jp,J,cu,af,n,rfl,_⟩:=h
  rfl
 .obtain⟨b,jp,J,cu,af,n,rfl,B0,hn,rj,jo,ef,eg,k⟩:=h
  have hu:=hr.units0;have e6:=bG100000;have pl:=jo.pl;have al:=jo.al;have fl:=jo.fl;have eb:=jo.hd0;have ed:=jo.hd1;obtain⟨g,fs,ps,as,qj,_,rf,rp,ra⟩:=YJ rj;obtain⟨fv,qf,cf⟩:=ZM rf;obtain⟨ej,qp,d4⟩:=ZM rp;obtain⟨av,qa,d2⟩:=ZM ra;have cp:=cf.len;rw[zm] at cp;have lp:=d4.len;rw[zm] at lp;have la:=d2.len;rw[zm] at la;refine{_,(ze (zG (i:=3) nd rfl (Or.inr rfl) (jE [] [] rfl rfl (by kernel_rfl) (xO (zJ qC (pv 1) zg 0#c)) 0#g (λ_ _ _ _=>0#A)))
   (ze (jQ (qL (za (z9 zd) (za (z9 zd) (za (z9 zd) zd)))) (qE rfl (zn (zq (i:=4) nd rfl 0#a) (zn (zq (i:=5) nd rfl 0#a) (zn (zq (i:=6) nd rfl (Or.inr rfl)) z7)))))
   (ze (jh jL rfl (zZ (zf au hr.m rfl (za (pv 0) 0#k))) (zq (i:=7) nd rfl (Or.inr rfl))
   (ze (zag ["_law_stock","_law_part","_law_job_here"] [3,7,1] rfl rfl (by kernel_rfl) (wJ rfl B.enumerate (za (zJ qC (pv 1) zg 0#c) zd)) (λ_ _ _ _=>(xh (PW.pt (VA (zP xW (zJ 0#p (pv 1) zg 0#c) (zJ 0#p (zJ 0#p (zJ 0#p (pv 4) zg 0#c) (pv 3) 0#c) zg 0#c) (zR _)) (Jb (zP Yr (zJ (ZV (K:=K) rfl) (pv 2) (pv 0) 0#c) zg (zR _))))))) 0#m (zq (i:=8) nd rfl 0#a))
    (ze (yU (zG (i:=9) nd rfl 0#a (ziI (qZ (zfy hu) (pv 8) (z9 zd) (zR _)) (vt (zt (Za rfl) rfl B.any Z3 (za (vI ["_law_part","_law_out"] [7,6] rfl rfl (by kernel_rfl) (xO (zJ qC (pv 1) zg 0#c)) 0#g (λ_ _ _ _=>(vX (qZ xW (pv 1) (pv 2) (zR _)) (vt (qZ (jV (K:=K) rfl) (pv 0) (pv 3) (by with_unfolding_all rfl)))))) zd))))))
    (ze (yU (jb (zb7 (PW.pt (QP (jH (pv 9)) (yr (PW.pt (VA (zP Yr (pv 2) zg (zR _)) (Jb (zP xW (zf aa hr.m rfl (za (pv 0) 0#t)) zg (zR _)))))))))
    (zi (ji (xi j5 vQ vP jr (pv 6) (za (pv 7) zd))))
    (ze (zG (i:=10) nd rfl 0#a (zJ qO (pv 8) (zf aa hr.m rfl (za (pv 0) (za (zt zI rfl B.len boot_len (za (pv 8) zd)) zd))) 0#c))
     (ze (jQ (zO vy (zJ qO (pv 3) (pv 10) 0#c) zg) (VD (pv 3) (pv 10) yo))
     (zi (ji (xi j5 vQ vP jr (pv 5) (za (qL (za (pv 7) (za (pv 10) zd))) zd))))))))
    (zi (jb (zb7 (PW.pt (VA (zP (JA hu) (pv 5) (z9 zd) (zR _)) (Jb (PW.pt (QP (zP xW (zt zI rfl B.len boot_len (za (pv 5) zd)) (zJ qC (pv 1) zg 0#c) (zR _)) (yr (zP xW (zf aa hr.m rfl 0#h) zg (zR _)))))))))
    (ze (ji (xi j5 vQ vP jr (pv 4) (za (zf ak hr.m rfl (za (pv 0) (za (pv 5) zd))) zd)))
     (zi (zG (i:=5) nd rfl 0#a (z9 zd))))
    zY))))))
   (zi (zy (zO xr (pv 4) (zO zju (z9 (za (zf ak hr.m rfl (za (pv 0) (za (pv 5) zd))) zd)) (jw Qv rfl B.int Z2 (za (qZ (JA hu) (pv 5) (z9 zd) (zR _)) zd))))))))),?_}
  refine{_,rfl,jp,_,_,_,rfl,rfl,qj,rfl,fs,rfl,{_,qf},vz (K:=K) (a:=fs) (xs:=fv) (λi Y H1=>Y=((J.fs.take i).map (·.m)).map V.int/\Same H H1) {rfl,ua _} (λi Y H1 ⟨_,L⟩=>L.sqT qf) ?_ ?_}
  .rintro i x Y H1 hx ⟨rfl,L⟩
   obtain⟨d,e1,r1⟩:=(cf.same L).get hx;rw[qk] at e1;obtain⟨p,ep,rfl⟩:=qG.mp e1;obtain⟨a,c,rfl,q,q'⟩:=x6 r1;have hi:i<J.fs.length:=(zK.mp ep).1;refine{rfl,{_,rfl,a,_,_,_,rfl,rfl,q,rfl,?_,?_,L}}
   .rw[zm,zm,qv];omega
   .rw[zM ep,zL,zL];rfl
  rintro Y H1 ⟨rfl,L⟩;have dc:J.fs.take fv.length=J.fs:=by rw[cp,qB]
  rw[dc];refine{by rw[zm,zm];omega,λls ap=>?_}
  have bu:StL J (J.fs.map (·.m)) []:=.nil λf hf=>(jo.fa f hf).2.2.1
  generalize J.fs.map (·.m)=aj at bu
  have S1:=(uh (b:=b) L).new (o:=.lst (aj.map V.int)) ap;have B1:=(B0.same L).new (o:=.lst (aj.map V.int)) ap;have LS:upd H1 ls (.lst (aj.map V.int)) ls=some (.lst (aj.map V.int)):=zc;have NS:H ls=none:=(uh (b:=b) L).none ap ((B0.same L).nne ap);have cr:=(B0.same L).nne ap;generalize upd H1 ls (.lst (aj.map V.int))=H2 at S1 B1 LS;refine{le0,λlf ag=>{le0,λI a0=>{le0,λlo O=>{le3,λt ht=>?_}}}}
  have ca:=B1.nne ag;have NF:=S1.none ag ca;have S2:=S1.new (o:=.lst []) ag;have B2:=B1.new (o:=.lst []) ag;have bf:=(zb (o:=.lst []) ag) _ _ LS;have b0:upd H2 lf 0#o lf=some 0#o:=zc;generalize upd H2 lf 0#o=H3 at S2 B2 bf b0 a0 O ht;have cd:=B2.nne a0;have NP:=S2.none a0 cd;have S3:=S2.new (o:=.lst []) a0;have B3:=B2.new (o:=.lst []) a0;have bg:=(zb (o:=.lst []) a0) _ _ bf;have ba:=(zb (o:=.lst []) a0) _ _ b0;have bd:upd H3 I 0#o I=some 0#o:=zc;generalize upd H3 I 0#o=H4 at S3 B3 bg ba bd O ht;have cb:=B3.nne O;have NO:=S3.none O cb;have S4:=S3.new (o:=.lst []) O;have B4:=B3.new (o:=.lst []) O;have c4:=(zb (o:=.lst []) O) _ _ bg;have bz:=(zb (o:=.lst []) O) _ _ ba;have c3:=(zb (o:=.lst []) O) _ _ bd;have c0:upd H4 lo 0#o lo=some 0#o:=zc;have a1:ls≠lf:=zj LS ag;have a2:ls≠I:=zj bf a0;have a3:ls≠lo:=zj bg O;have a5:lf≠I:=zj b0 a0;have a6:lf≠lo:=zj ba O;have a8:I≠lo:=zj bd O;generalize upd H4 lo 0#o=H5 at S4 B4 c4 bz c3 c0 ht;have s5:=zb (o:=.tup [.ref lf,.ref I,.ref lo]) ht;have T5:upd H5 t (.tup [.ref lf,.ref I,.ref lo]) t=some (.tup [.ref lf,.ref I,.ref lo]):=zc;have S5:=S4.new (o:=.tup [.ref lf,.ref I,.ref lo]) ht;have B5:=B4.new (o:=.tup [.ref lf,.ref I,.ref lo]) ht;have bh:=s5 _ _ c4;have bb:=s5 _ _ bz;have be:=s5 _ _ c3;have bc:=s5 _ _ c0;generalize upd H5 t (.tup [.ref lf,.ref I,.ref lo])=H6 at s5 T5 S5 B5 bh bb be bc;refine{t,_,rfl,u7 T5,rfl,_,_,rfl,_,_,rfl,_,_,rfl,rfl,?_}
  clear S1 S2 S3 S4 B1 B2 B3 B4 LS bf bg c4 b0 ba bz bd c3 c0 ap ag a0 O ht s5 T5;have d3:=rj.keep (uc B0 S5) (wN J);refine{_,rfl,_,rfl,b,jp,J,cu,n,rfl,B5.mono (),(),d3,jo,λlq os H7 S7 B7 dm ax ch pm ob=>?_}
  have eh:os.length=J.ps.length:=by have:=pm.length_eq;rwa[wg] at this
  have a4:ls≠lq:=zj bh ax;have a7:lf≠lq:=zj bb ax;have a9:I≠lq:=zj be ax;have d9:lo≠lq:=zj bc ax;have g0:PlS K H b ls lf I lo lq aj [] [] [] os [] [] H7 (n+60):={S5.trans S7,B7,⟨cr,ca,cd,cb,dm⟩,⟨a1,a2,a3,a4,a5,a6,a7,a8,a9,d9⟩,⟨NS,NF,NP,NO⟩,S7 _ _ bh cr,S7 _ _ bb ca,S7 _ _ be cd,S7 _ _ bc cb,ch,rfl,rfl};clear S5 S7 B5 B7 bh bb be bc ch ax d3 L;refine{lq,rfl,{_,u6 g0.hq},xF (K:=K) (a:=lq) (xs:=zr os) (zcM b jp af ls lf lo K H lq os n J)
   {I,none,none,none,none,aj,[],[],[],[],[],rfl,g0.mono (),bu,(λ_ h=>nomatch h),(λ_ h=>nomatch h),(by show((0:Nat):Int)<_;omega),ZB _,zF _,zF _,{(λx hx=>by rw[List.take_zero] at hx;cases hx),(λp _ h=>by cases(show p.2∈([]:List Nat) from h))}}
   (λi σ H' _ ⟨_,_,_,_,_,_,_,_,_,_,_,_,g,_,_,_,_,_,_,_,_⟩=>u6 g.hq) ?_ ?_}
  .rintro i x σ H8 hx ⟨lp,v7,v8,v9,bp,st,tr,pk,ou,ts,pks,rfl,g,az,bo,bj,dq,sub,cnt,cv,pc⟩
   have dk:os.Nodup:=pm.nodup_iff.mpr yH;obtain⟨c,ec,rfl⟩:=vZ hx;have en:=az.len;have hi:i<os.length:=(zK.mp ec).1;have hc:c<J.ps.length:=xB.mp (pm.mem_iff.mp (qz ec));obtain⟨pa,cj⟩:∃pa,J.ps[c]? =some pa:={J.ps[c],by simp[hc]}
   have T8:=uc B0 g.s;have ce:=qj.keep T8;have d0:=qf.keep T8;have ds:=qp.keep T8;have cz:=qa.keep T8;have dx:=cf.keep T8 (vB J.fs);have dy:=d4.keep T8 (xV J.ps);have dw:=d2.keep T8 (qN J.as);obtain⟨el,db,dz⟩:=J5 dy cj;obtain⟨dp,ei,rfl,dt,_⟩:=yV dz;refine{_,rfl,jp,_,_,_,rfl,rfl,ce,rfl,fs,rfl,{_,d0},JF (K:=K) (a:=fs) (xs:=fv) (λi' Y H9=>Ex1 λ(U:List Nat)=>An4 (Y=zr U) (U.length<=i') ((∀k'∈U,∃fe,J.fs[k']? =some fe/\fe.k=pa.k/\∃z,st[k']? =some z/\0<z)) (Same H8 H9)) {[],rfl,zF _,(λ_ h=>nomatch h),ua _} (λi' Y H9 ⟨_,_,_,_,L⟩=>L.sqT d0) ?_ ?_}
   .rintro i' x Y H9 T c8 ⟨U,rfl,kl,kk,L⟩ hT
    obtain⟨d,e1,r1⟩:=(dx.same L).get c8;rw[qk] at e1;obtain⟨fe,ao,rfl⟩:=qG.mp e1;have de:i'<J.fs.length:=(zK.mp ao).1;have sT:=L.trans (zb (o:=.tup [.int (i':Int),x]) hT);obtain⟨fa,fc,rfl,dr,_⟩:=x6 (r1.same (zb (o:=.tup [.int (i':Int),x]) hT));refine{T,_,rfl,u7 zc,rfl,_,_,rfl,_,_,rfl,rfl,rfl,?_}
    refine{_,rfl,fa,_,_,_,rfl,rfl,dr,rfl,_,rfl,jp,_,_,_,rfl,rfl,sT.sqT ce,rfl,_,rfl,ps,_,_,_,rfl,rfl,sT.sqT ds,qr db,dp,_,_,_,rfl,rfl,sT.sqT dt,rfl,rfl,_,rfl,j7 (λc1=>?_) (λc1=>?_)}
    .have ek:fe.k=pa.k:=by have:=qP c1;exact V.str.inj this
     have aq:i'<st.length:=()
     refine{_,rfl,_,rfl,ls,_,_,.int st[i'],rfl,rfl,u6 (sT _ _ g.hs),qr (by rw[qk,qK aq];rfl),_,_,rfl,rfl,_,rfl,j7 (λc2=>?_) (λc2=>?_)}
     .refine{_,rfl,by rw[zA];omega,U++[i'],?_,by rw[qh];show _+1<=_;omega,λk' df=>?_,sT}
      .unfold zr
       rw[zL];rfl
      .rcases zV.mp df with z | z
       .exact kk k' z
       .rw[qm.mp z]
        exact{fe,ao,ek,_,qK aq,qP c2}
     .exact{U,rfl,(),kk,sT}
    .exact ifF rfl {U,rfl,(),kk,sT}
   rintro Y H9 ⟨U,rfl,kl,kk,L⟩;refine{by rw[zA];omega,λlm c7=>?_}
   have bm:=L.trans (zb (o:=.lst (zr U)) c7);have LM:upd H9 lm (.lst (zr U)) lm=some (.lst (zr U)):=zc;have cq:lm≠b:=(g.same L).bx.nne c7;generalize upd H9 lm (.lst (zr U))=Ha at bm LM;clear L c7;refine{λσ' H'=>Ex1 λ(am:Bool)=>An4 (σ'=[some (.ref b),some (.ref jp),some (.int af),some (.ref ls),some (.ref lf),some (.ref lp),some (.ref lo),some (.int (c:Int)),some (.ref lm),some (.bl am),bp]) (Same H8 H') (H' lm=some (.lst (zr U))) ((am=false->U≠[]/\∀p∈J.as,p.2=c->p.1∉ou)),?_,?_}
   .refine{_,rfl,le0,λq hq=>{lm,q,zr U,rfl,rfl,u6 ((zb hq) _ _ LM),u6 zc,_,rfl,j7 (λc1=>?_) (λc1=>?_)}}
    .exact{true,rfl,bm.trans (zb hq),(zb hq) _ _ LM,λz=>nomatch z}
    .have c9:U≠[]:=λz=>c1 (by rw[z];rfl)
     have ae:=bm.trans (zb (o:=.lst []) hq);have an:=(zb (o:=.lst []) hq) _ _ LM;generalize upd Ha q 0#o=Hb at ae an;refine{_,rfl,jp,_,_,_,rfl,rfl,ae.sqT ce,rfl,as,rfl,{_,ae.sqT cz},vz (K:=K) (a:=as) (xs:=av) (λi' Y H9=>Ex1 λ(bs:List Bool)=>An4 (Y=bs.map V.bl) (bs.length<=i') ((bs.any id=false->∀p∈J.as.take i',p.2=c->p.1∉ou)) (Same Hb H9)) {[],rfl,zF _,(λ_ p hp=>by rw[List.take_zero] at hp;cases hp),ua _} (λi' Y H9 ⟨_,_,_,_,L⟩=>(ae.trans L).sqT cz) ?_ ?_}
     .rintro i' x Y H9 c8 ⟨bs,rfl,bl,bn,L⟩
      obtain⟨d,e1,r1⟩:=(dw.same (ae.trans L)).get c8;rw[qk] at e1;obtain⟨p,ep,rfl⟩:=qG.mp e1;obtain⟨pp,rfl,du⟩:=jc r1;have de:i'<J.as.length:=(zK.mp ep).1;refine{pp,_,rfl,du,rfl,_,_,rfl,_,_,rfl,rfl,rfl,?_}
      have cs:∀v:Bool,(v=false->p.2=c->p.1∉ou)->((bs++[v]).any id=false->∀p∈J.as.take (i'+1),p.2=c->p.1∉ou):=λv hv ha u hu=>by
       rw[List.any_append,Bool.or_eq_false_iff] at ha;rw[zM ep] at hu;rcases zV.mp hu with z | z
       .exact bn ha.1 u z
       .rw[qm.mp z]
        exact hv (by simpa using ha.2)
      refine{_,rfl,_,rfl,rfl,_,rfl,j7 (λc2=>?_) (λc2=>?_)}
      .refine{_,rfl,_,rfl,lo,zr ou,rfl,.inl (u6 ((ae.trans L) _ _ g.ho)),rfl,xn _,by rw[zm];omega,bs++[inV (.int (p.1:Int)) (zr ou)],?_,by rw[qh];show _+1<=_;omega,cs _ (λz _ hm=>by rw[y4] at z;exact absurd hm (of_decide_eq_false z)),L}
       rw[zL];rfl
      .refine{by rw[zm];omega,bs++[false],?_,by rw[qh];show _+1<=_;omega,cs _ (λ_ z=>absurd (show decide (V.int (p.2:Int)=V.int (c:Int))=true by rw[z];exact qg rfl) c2),L}
       rw[zL];rfl
     .rintro Y H9 ⟨bs,rfl,bl,bn,L⟩
      rw[la,qB] at bn;refine{by rw[zm];omega,λD hD=>{D,bs,rfl,u6 zc,?_}}
      have e3:=(ae.trans L).trans (zb (o:=.lst (bs.map V.bl)) hD);exact{bs.any id,rfl,e3,(zb (o:=.lst (bs.map V.bl)) hD) _ _ (L _ _ an),λz=>{c9,bn z}}
   rintro σ' Hb ⟨am,rfl,ae,an,c9⟩;have g2:=g.same ae;clear bm LM;have d8:(zE ts++pks.map (·.1)).Sublist (os.take (i+1)):=sub.trans (by rw[zM ec];exact zbb _ _)
   have eO:zr ou++[V.int (c:Int)]=zr (ou++[c]):=by unfold zr;rw[zL];rfl
   refine{λσ' H'=>Ex5 λ(bp:Option V) (ai:List Int) (ab:List V) (ah:List Nat) (l:List 0#e)=>An9 (σ'=[some (.ref b),some (.ref jp),some (.int af),some (.ref ls),some (.ref lf),some (.ref lp),some (.ref lo),some (.int (c:Int)),some (.ref lm),some (.bl am),bp]) (PlS K H b ls lf lp lo lq ai tr ab ah os ts l H' (n+60+10*i+3)) (StL J ai (vM ts++l)) ((∀p∈l,wF J p)) ((l.length:Int)<=J.hd) ((zE ts++l.map (·.1)).Sublist (os.take (i+1))) (ts.length+l.length<=i+1) (ah.length<=i+1) (PlC J ah (zE ts++l.map (·.1)) (os.take (i+1))),?_,?_}
   .have cx:∀(H':Hp) (m:Int),PlS K H b ls lf lp lo lq st tr pk ou os ts pks H' m->m<=n+60+10*i+3->PlS K H b ls lf lp lo lq st tr pk (ou++[c]) os ts pks (upd H' lo (.lst (zr ou++[V.int (c:Int)]))) (n+60+10*i+3):=λH' m g' hm=>by
     rw[eO];exact(g'.mono hm).putO
    have cw:(ou++[c]).length<=i+1:=by rw[qh];show _+1<=_;omega
    refine{λ(d:Bool) (H':Hp)=>PlS K H b ls lf lp lo lq st tr pk ou os ts pks H' (n+60+10*i+1)/\H' lm=some (.lst (zr U))/\(d=false->U≠[]/\∀p∈J.as,p.2=c->p.1∉ou),?_,?_}
    .refine{_,rfl,_,rfl,j7 (λc1=>{g2.mono (),an,(λz=>nomatch z)}) (λc1=>?_)}
     have bq:=c9 (by simpa using c1)
     exact{_,rfl,_,_,rfl,rfl,_,rfl,j7 (λc2=>{_,rfl,_,rfl,b,af,_,rfl,g2.bx,(),qP c2,(),λr Hc r0 r1 Bc Sc=>{rfl,_,rfl,(g2.draw Sc Bc).mono (),Sc _ _ an cq,λ_=>bq}}) (λc2=>{g2.mono (),an,λ_=>bq})}
    rintro d Hc ⟨g3,cg,kn⟩;refine j7 (λc1=>?_) (λc1=>?_)
    .exact{_,rfl,.inl {rfl,_,u6 g3.ho},_,rfl,lo,_,_,rfl,rfl,g3.ho,by rw[zA];omega,_,st,pk,ou++[c],pks,rfl,cx _ _ g3 (),az,bj,(),d8,(),cw,by rw[zM ec];exact pc.out}
    .have e7:0<U.length:=Wo.mpr (kn (by simpa using c1)).1
     have kc:=(kn (by simpa using c1)).2
     refine{_,rfl,_,rfl,_,rfl,lm,_,rfl,.inl (u6 cg),b,_,_,rfl,g3.bx,(),by rw[zA];omega,by rw[zA];omega,λr' Hd em dv Bd Sd=>?_}
     rw[zA] at dv;have co:r'.toNat<U.length:=()
     have ck:atI (zr U) r'=some (.int ((U[r'.toNat]:Nat):Int)):=by
      have er:(zr U)[r'.toNat]? =some (.int ((U[r'.toNat]:Nat):Int)):=by
       unfold zr;rw[qk,qK co];rfl
      have:=qr er;rwa[show((r'.toNat:Nat):Int)=r' by omega] at this
     obtain⟨fe,ao,da,z0,c5,di⟩:=kk _ (wc co);generalize U[r'.toNat]=kf at ck ao c5;have ee:kf<J.fs.length:=(zK.mp ao).1;have aq:kf<st.length:=()
     have g5:=g3.draw Sd Bd;refine{lm,_,_,_,rfl,rfl,u6 (Sd _ _ cg cq),ck,?_}
     refine{_,rfl,_,rfl,ls,_,_,.int st[kf],rfl,rfl,u6 g5.hs,qr (by rw[qk,qK aq];rfl),_,_,rfl,rfl,_,rfl,_,rfl,ls,_,_,kf,rfl,rfl,g5.hs,VP (by rw[zm];omega),?_}
     have eS:(st.map V.int).set kf (V.int (st[kf]-1))=(st.set kf (st[kf]-1)).map V.int:=by rw[List.map_set]
     rw[eS];have g6:=g5.putS (st':=st.set kf (st[kf]-1));generalize upd Hd ls (.lst ((st.set kf (st[kf]-1)).map V.int))=He at g6;refine{_,rfl,.inl {rfl,_,u6 g6.hp},_,rfl,_,rfl,le2,λq hq=>?_}
     have g7:=g6.new (o:=.tup [.int (c:Int),.int (kf:Int)]) hq;have rq:Rep K (upd He q (.tup [.int (c:Int),.int (kf:Int)])) (jM (c,kf)) (.ref q):={q,_,rfl,u7 zc,_,_,rfl,rfl,_,_,rfl,rfl,rfl};have ar:pk.length=pks.length:=by have:=g.rk.len;rwa[zm] at this
     refine{lp,_,_,rfl,rfl,g7.hp,(),_,st.set kf (st[kf]-1),pk++[.ref q],ou,pks++[(c,kf)],rfl,(g7.putP rq).mono (),by rw[<- je];exact az.take (qK aq) (by rw[qK aq] at c5;rw[jC c5];exact di),λp' aw=>?_,by rw[qh];show((_+1:Nat):Int)<=_;omega,?_,by rw[qh];show _+(_+1)<=_;omega,(),by rw[zL,<- je,zM ec];exact pc.lay ec dk ob kc}
     .rcases zV.mp aw with z | z
      .exact bj p' z
      .rw[qm.mp z]
       exact⟨pa,fe,cj,ao,da⟩
     .rw[zL,<- je,zM ec]
      exact sub.append (ZB _)
   rintro σ' Hc ⟨e9,ai,ab,ah,l,rfl,g4,bv,bt,e8,bw,ci,br,cy⟩;have ar:ab.length=l.length:=by have:=g4.rk.len;rwa[zm] at this
   have e4:tr.length=ts.length:=by have:=g4.rt.len;rwa[zm] at this
   have T9:=uc B0 g4.s;refine{λ(d:Bool) (H':Hp)=>PlS K H b ls lf lp lo lq ai tr ab ah os ts l H' (n+60+10*i+4)/\(d=true->1<=l.length)/\(d=false->(l.length:Int)<J.hd),?_,?_}
   .refine{_,rfl,le0,λq hq=>{lp,q,_,rfl,rfl,u6 (g4.new (o:=.lst []) hq).hp,u6 zc,_,rfl,j7 (λc1=>?_) (λc1=>?_)}}
    .have g5:=g4.new (o:=.lst []) hq
     have d1:=(qj.keep T9).keep (SameT.of (zb (o:=.lst []) hq));generalize upd Hc q 0#o=Hd at g5 d1;have ay:1<=l.length:=by
      cases ab with
      | nil=>cases c1
      | cons x r=>simp at ar;omega
     refine{_,rfl,lp,_,rfl,.inl (u6 g5.hp),_,rfl,jp,_,_,_,rfl,rfl,d1,rfl,rfl,_,rfl,j7 (λc2=>{g5.mono (),λ_=>ay,λz=>nomatch z}) (λc2=>{_,rfl,b,3,_,rfl,g5.bx,(),1e1,1e1,λr He r0 r1 Be Se=>{rfl,_,rfl,(g5.draw Se Be).mono (),λ_=>ay,λ_=>?_}})}
     have cn:¬(ab.length:Int)=J.hd:=λz=>c2 (by rw[z];simp)
     omega
    .have pe:l=[]:=by
      cases l with
      | nil=>rfl
      | cons x r=>
       cases ab with
       | nil=>simp at ar
       | cons y r'=>exact absurd rfl c1
     exact{(g4.new (o:=.lst []) hq).mono (),(λz=>nomatch z),λ_=>by rw[pe];show((0:Nat):Int)<_;omega}
   rintro d Hd ⟨G,ay,dg⟩;refine j7 (λc1=>?_) (λc1=>?_)
   .have ay:=ay c1
    refine{_,rfl,.inl {rfl,_,u6 G.hf},_,rfl,_,rfl,b,lp,_,ab,l,rfl,G.bx,(),G.nb.2.2.1,G.hp,G.rk,(),λp sh Hg Sg Bg ac rt=>?_}
    have G2:=G.draw Sg Bg;have d7:sh.length=l.length:=ac.length_eq;refine{lf,_,_,rfl,rfl,G2.hf,(),?_}
    have G3:=G2.putF rt;generalize upd Hg lf (.lst (tr++[.ref p]))=Hh at G3;refine{le0,λdj cm=>{dj,_,_,_,_,ai,tr++[.ref p],[],ah,ts++[{sh,l.map (·.1)}],[],rfl,(G3.newP cm).mono (),by rw[vq,qA];exact bv.perm (ac.symm.append_left _),?_,(λ_ h=>nomatch h),(by show((0:Nat):Int)<_;omega),?_,?_,br,by rw[j9,wZ,qA];exact cy}}
    .intro t' dh
     rcases zV.mp dh with z | z
     .exact bo t' z
     .rw[qm.mp z]
      exact{by show 1<=sh.length;omega,by show(sh.length:Int)<=_;omega,λp' aw=>bt p' (ac.mem_iff.mp aw),(ac.map (·.1)).symm}
    .rw[j9]
     simpa using bw
    .rw[qh]
     show _+1+0<=_;omega
   .exact{lp,_,_,_,_,ai,tr,ab,ah,ts,l,rfl,G.mono (),bv,bo,bt,dg (by simpa using c1),bw,ci,br,cy}
  .rintro σ H8 ⟨lp,v7,v8,v9,bp,st,tr,pk,ou,ts,pks,rfl,g,az,bo,bj,dq,sub,cnt,cv,pc⟩
   rw[zA] at sub cnt cv;rw[zA] at g;rw[qB] at sub;have ar:pk.length=pks.length:=by have:=g.rk.len;rwa[zm] at this
   have e4:tr.length=ts.length:=by have:=g.rt.len;rwa[zm] at this
   refine{_,rfl,_,rfl,_,rfl,b,lp,_,pk,pks,rfl,g.bx,(),g.nb.2.2.1,g.hp,g.rk,(),λp sh Hg Sg Bg ac rt=>?_}
   have g2:=g.draw Sg Bg;have d7:sh.length=pks.length:=ac.length_eq;refine{le1,λl1 cl=>?_}
   have g3:=g2.new (o:=.lst [.ref p]) cl;have d5:=rt.same (zb (o:=.lst [.ref p]) cl);have L1:upd Hg l1 (.lst [.ref p]) l1=some (.lst [.ref p]):=zc;generalize upd Hg l1 (.lst [.ref p])=Hh at g3 d5 L1;refine{_,rfl,le0,λq hq=>{lp,q,_,rfl,rfl,u6 (g3.new (o:=.lst []) hq).hp,u6 zc,.inr {_,rfl,l1,_,_,rfl,rfl,(zb hq) _ _ L1,?_,?_,?_,λl2 c6=>?_}}}
   .split<;>decide
   .split<;>decide
   .show 1*_<=sizeLine
    split<;>(first| (show 1*1<=_;omega) | (show 1*0<=_;omega))
   have g4:=g3.new (o:=.lst []) hq;have d6:=d5.same (zb (o:=.lst []) hq);generalize upd Hh q 0#o=Hi at g4 d6 c6;have fin:∀(Y:List V) (us:List zW),Reps K Hi (us.map jG) Y->Y.length<=1->us.length+ts.length<=60->(∀t∈us,QM J t)->(zE (ts++us)).Sublist os->zE (ts++us)=zE ts++pks.map (·.1)->(vM ts++pks).Perm (vM (ts++us))->zjh (V.ref lf) (V.ref l2) (upd Hi l2 (.lst Y)) Q:=by
    intro Y us rz zl ul uo e5 dd up;have g5:=g4.new (o:=.lst Y) c6;have e0:=rz.same (zb (o:=.lst Y) c6);refine{lf,l2,tr,Y,rfl,rfl,g5.hf,zc,(),λl3 bi=>?_}
    have n3:=g5.bx.nne bi;have g6:=g5.new (o:=.lst (tr++Y)) bi;refine k l3 os (ts++us) (tr++Y) _ g6.s (g6.bx.mono ()) n3 (g5.s.none bi n3) zc ?_ pm ob {λt ht=>?_,e5,by rw[qh];omega,by rw[dd];exact pc.a2,st,az.perm up}
    .rw[zL]
     exact ug g6.rt (e0.same (zb bi))
    .rcases zV.mp ht with z | z
     .exact bo t z
     .exact uo t z
   cases pks with
   | nil=>
    have e:pk=[]:=List.length_eq_zero_iff.mp (by rw[ar];rfl)
    subst e;exact fin [] [] rfl (jv _) (by show 0+_<=_;omega) (λ_ h=>nomatch h) (by rw[qA];simpa using sub) 1e3 (by rw[qA,qA])
   | cons x r=>
    have cn:∃y r',pk=y::r':=by
     cases pk with
     | nil=>simp at ar
     | cons y r'=>exact⟨y,r',rfl⟩
    obtain⟨y,r',rfl⟩:=cn;refine fin [.ref p] [{sh,(x::r).map (·.1)}] {_,_,rfl,d6,rfl} (zF _) (by simp at cnt;show 1+_<=_;omega) (λt ht=>?_) (by rw[j9];exact sub) (by rw[j9]) (by rw[vq];exact ac.symm.append_left _)
    rw[qm.mp ht];exact{by show 1<=sh.length;rw[d7];exact Nat.succ_le_succ (jv _),by show(sh.length:Int)<=_;omega,λp' aw=>bj p' (ac.mem_iff.mp aw),(ac.map (·.1)).symm}
def prD(p:Int×Int):Dat:=.tup [.int p.1,.int p.2]
inductive XW(K:W.Frag)(g:List V)(H:Hp)(Q:VK):Prop
 | mk (t:Addr) (s:List V) (c:List (Int×Int)) (_:g=[.ref t]) (_:SqT K H t s) (_:Reps K H (c.map prD) s) (_:c.length<=1000) (_:∀(l:Addr) (A:List V) H',Same H H'->H' l=some (.lst A)->Reps K H' (c.map λp=>prD p.swap) A->Q (.ref l) H'):XW K g H Q
def zbt(K:W.Frag):Sp:=λc H Q _=>XW K c H Q
theorem zbT:zD ["pairs"] ["pairs"] (zu (topL 8)):=u4
theorem zfz{f:Addr}{O:FuncData}(F:Fun K "turned" "turned" (topL 8) f O)(B:Blt M):FnOk P w K M C CX0 1 f O ["pairs"] (zbt K):=by
 have nd:=zbT.nd;refine F.ok zbT 0#d (λa0 A I s H vs Q E hr h=>?_)
 .obtain⟨t,J,D,rfl,_⟩:=h
  rfl
 .obtain⟨t,J,D,rfl,Y,rp,la,k⟩:=h
  have T:=bG100000;have lx:=rp.len;rw[zm] at lx;refine{_,(zi (zy (vI [] [] rfl rfl (by kernel_rfl) (xO (pv 0)) 0#g (λ_ _ _ _=>(qL (za (pv 1) 0#y)))))),?_}
  have l2:∀x y:V,[x,y].length<=sizeLine:=λx y=>by rw[sizeLine_eq];show 2<=_;decide
  refine{_,rfl,t,rfl,{_,Y},vz (K:=K) (a:=t) (xs:=J) (λi G H'=>Reps K H' ((D.take i).map λp=>prD p.swap) G/\Same H H') {rfl,ua _} (λi G H' ⟨_,g⟩=>g.sqT Y) ?_ ?_}
  .rintro i x G H1 hx ⟨c,g⟩
   obtain⟨d,e1,r1⟩:=(rp.same g).get hx;rw[qk] at e1;obtain⟨p,L,rfl⟩:=qG.mp e1;have hi:i<D.length:=(zK.mp L).1;obtain⟨a,ws,rfl,qa,x1,aa,rfl,e2,x2,ab,rfl,e3,e4⟩:=r1;cases e2;cases e3;cases e4;refine{a,_,rfl,qa,rfl,_,_,rfl,_,_,rfl,rfl,rfl,?_}
   refine{_,rfl,_,rfl,l2 _ _,λq hq=>{?_,?_,g.trans (zb hq)}}
   .have:=c.len
    rw[zm,qv] at this;omega
   .have e5:D.take (i+1)=D.take i++[p]:=by
     obtain⟨h1,h2⟩:=zK.mp L;rw[<- h2,Qc]
    rw[e5,zL];exact ue (d:=prD p.swap) {q,_,rfl,u7 zc,_,_,rfl,rfl,_,_,rfl,rfl,rfl} (c.same (zb hq))
  .rintro G H1 ⟨c,g⟩
   rw[lx,qB] at c;refine{by have:=c.len;rw[zm] at this;omega,λl U=>k l G _ (g.trans (zb U)) zc (c.same (zb U))}
def wQ(c:List (Int×Int))(i:Int):List Int:=(c.filter λp=>decide (p.1=i)).map (·.2)
structure NB(H0 H:Hp)(kvs:List (Key×V))(as:List (Int×Int)):Prop where
 at_:∀i v,jP kvs (Sum.inl i)=some v->∃l,v=.ref l/\H0 l=none/\H l=some (.lst ((wQ as i).map V.int))
 no:∀i,jP kvs (Sum.inl i)=none->wQ as i=[]
 inj:∀i j l,jP kvs (Sum.inl i)=some (.ref l)->jP kvs (Sum.inl j)=some (.ref l)->i=j
 few:kvs.length<=as.length
theorem yS(c:List (Int×Int))(x y i:Int):wQ (c++[(x,y)]) i=wQ c i++(if x=i then [y] else []):=by
 unfold wQ;rw[xI,zL];congr 1
 by_cases h:x=i<;>simp[h]
theorem zgF(c:List (Int×Int))(i:Int):(wQ c i).length<=c.length:=by
 unfold wQ;rw[zm];exact jq _ _
theorem NB.old{A H B:Hp}{c:List (Key×V)}{g:List (Int×Int)}{x y:Int}{l:Addr}(n:NB A H c g)(s:Same H B)(e:jP c (Sum.inl x)=some (.ref l)) :
  NB A (upd B l (.lst ((wQ g x).map V.int++[.int y]))) c (g++[(x,y)]):=by
 refine{λi v hv=>?_,λi hv=>?_,n.inj,by rw[qh];have:=n.few;omega}
 .obtain⟨D,rfl,h0,h1⟩:=n.at_ i v hv
  refine{D,rfl,h0,?_}
  rw[yS];by_cases hx:x=i
  .subst hx
   rw[e] at hv;cases hv;rw[zc,zC rfl,zL];rfl
  .have ne:D≠l:=λz=>hx (n.inj x i l e (by rw[<- z];exact hv))
   rw[zp ne,zw hx,qA];exact s _ _ h1
 .rw[yS,n.no i hv,zw (λz=>by rw[<- z,e] at hv;cases hv)]
  rfl
theorem NB.new{A H:Hp}{c:List (Key×V)}{B:List (Int×Int)}{x y:Int}{m d:Addr}(n:NB A H c B)(E:H m=none)(h0:A m=none)(hd:H d=some (.dK c))(e:jP c (Sum.inl x)=none) :
  NB A (upd (upd (upd H m 0#o) d (.dK (xU c (Sum.inl x) (.ref m)))) m (.lst ([]++[.int y]))) (xU c (Sum.inl x) (.ref m)) (B++[(x,y)]):=by
 have old:∀i l,jP c (Sum.inl i)=some (.ref l)->H l=some (.lst ((wQ B i).map V.int))/\l≠m/\l≠d:=λi l h=>by
  obtain⟨I,z,_,h1⟩:=n.at_ i _ h;cases z;refine{h1,λz=>?_,λz=>?_}
  .rw[z,E] at h1;cases h1
  .rw[z,hd] at h1;cases h1
 refine{λi v hv=>?_,λi hv=>?_,λi j l g s=>?_,?_}
 .rw[Jl] at hv
  rw[yS];by_cases hx:i=x
  .subst hx
   rw[zC rfl] at hv;cases hv;refine{m,rfl,h0,?_}
   rw[zc,n.no _ e,zC rfl];rfl
  .rw[zw (λz=>hx (vK z))] at hv
   obtain⟨l,rfl,h1,h2⟩:=n.at_ i v hv;obtain⟨_,D,G⟩:=old i l hv;refine{l,rfl,h1,?_}
   rw[zp D,zp G,zp D,zw (qD hx),qA];exact h2
 .rw[Jl] at hv
  by_cases hx:i=x
  .subst hx;rw[zC rfl] at hv;cases hv
  .rw[zw (λz=>hx (vK z))] at hv
   rw[yS,n.no i hv,zw (qD hx)];rfl
 .rw[Jl] at g s
  by_cases h1:i=x<;>by_cases h2:j=x
  .rw[h1,h2]
  .rw[zC (by rw[h1])] at g
   rw[zw (λz=>h2 (vK z))] at s
   cases g;exact absurd rfl (old j _ s).2.1
  .rw[zw (λz=>h1 (vK z))] at g
   rw[zC (by rw[h2])] at s
   cases s;exact absurd rfl (old i _ g).2.1
  .rw[zw (λz=>h1 (vK z))] at g
   rw[zw (λz=>h2 (vK z))] at s
   exact n.inj i j l g s
 .have:=vF c (Sum.inl x) (.ref m)
  have:=n.few;rw[qh,List.length_singleton];omega
inductive W1(K:W.Frag)(s:List V)(H:Hp)(Q:VK):Prop
 | mk (t:Addr) (l:List V) (g:List (Int×Int)) (_:s=[.ref t]) (_:(SqL K H t l\/SqT K H t l)) (_:Reps K H (g.map prD) l) (_:g.length<=1000) (_:∀(d:Addr) (c:List (Key×V)) H',Same H H'->H d=none->H' d=some (.dK c)->NB H H' c g->Q (.ref d) H'):W1 K s H Q
def zer(K:W.Frag):Sp:=λc H Q _=>W1 K c H Q
theorem zeY:zD ["pairs","rows","one","other"] ["pairs"] (zu (topL 9)):=u4
theorem zhd{f:Addr}{fd:FuncData}(F:Fun K "next_by" "next_by" (topL 9) f fd)(B:Blt M):FnOk P w K M C CX0 1 f fd ["pairs"] (zer K):=by
 have U:=zeY.nd;refine F.ok zeY 0#d (λac A aa s H vs Q E hr h=>?_)
 .obtain⟨t,T,J,rfl,_⟩:=h
  rfl
 .obtain⟨t,T,J,rfl,ht,rp,la,k⟩:=h
  have ab:=bG100000;have ae:=JN hr;have lx:=rp.len;rw[zm] at lx;refine{_,(ze (zG (i:=1) U rfl 0#a zfp)
   (ze (jh jL rfl (zfi (pv 0)) (qE rfl (zn (zq (i:=2) U rfl 0#a) (zn (zq (i:=3) U rfl 0#a) z7)))
   (zi (ji (xi j5 vQ vP jr (zjt (pv 1) (pv 2) (z9 zd) ⟨rfl,rfl,rfl,rfl⟩) (za (pv 3) zd)))))
   (zi (zy (pv 1))))),?_}
  refineλd hd=>?_
  have e0:NB H (upd H d (.dK [])) [] ([]:List (Int×Int)):={(λi v z=>nomatch z),0#c,(λi j l z=>nomatch z),zF _}
  have s0:Same H (upd H d (.dK [])):=zb hd;have step:∀(i:Nat) (x:V) (G:Hp) (g:List (Key×V)),T[i]? =some x->G d=some (.dK g)->NB H G g (J.take i)->Same H G->∃(a:Addr) (p:Int×Int),x=.ref a/\SqT K G a [.int p.1,.int p.2]/\J[i]? =some p/\i<J.length/\J.take (i+1)=J.take i++[p]:=λi x G g hx _ _ D=>by
   obtain⟨dd,e1,r1⟩:=(rp.same D).get hx;rw[qk] at e1;obtain⟨p,ep,rfl⟩:=qG.mp e1;obtain⟨h1,h2⟩:=zK.mp ep;obtain⟨a,ws,rfl,qa,x1,af,rfl,e2,x2,ag,rfl,e3,e4⟩:=r1;cases e2;cases e3;cases e4;exact{a,p,rfl,qa,ep,h1,by rw[<- h2,Qc]}
  refine{_,rfl,t,rfl,ht.elim (λhL=>.inl {{_,s0.seq hL},xF (K:=K) (a:=t) (xs:=T) (λi σ H'=>Ex3 λ(v2 v3:Option V) (g:List (Key×V))=>An4 (σ=[some (.ref t),some (.ref d),v2,v3]) (H' d=some (.dK g)) (NB H H' g (J.take i)) (Same H H'))
   {_,_,[],rfl,zc,e0,s0} (λi σ H' _ ⟨_,_,_,_,_,_,D⟩=>D.seq hL) ?s1 ?e1}) (λhT=>.inr {{_,s0.sqT hT},Jf (K:=K) (a:=t) (xs:=T) (λi σ H'=>Ex3 λ(v2 v3:Option V) (g:List (Key×V))=>An4 (σ=[some (.ref t),some (.ref d),v2,v3]) (H' d=some (.dK g)) (NB H H' g (J.take i)) (Same H H'))
   {_,_,[],rfl,zc,e0,s0} (λi σ H' _ ⟨_,_,_,_,_,_,D⟩=>D.sqT hT) ?s2 ?e2})}
  case e1 | e2=>
   rintro σ G ⟨v2,v3,g,rfl,h1,O,D⟩;rw[lx,qB] at O;exact{_,rfl,k d g G D hd h1 O}
  case s1 | s2=>
   rintro i x σ G hx ⟨v2,v3,g,rfl,h1,O,D⟩;obtain⟨a,p,rfl,qa,ep,hi,et⟩:=step i x G g hx h1 O D;rw[et];have a0:=O.few;rw[qv] at a0;refine{a,_,rfl,qa,rfl,_,_,rfl,_,_,rfl,rfl,?_}
   refine{_,rfl,d,rfl,.inl {_,.inl h1},_,rfl,le0,λm I=>{g,Sum.inl p.1,(zb (o:=.lst []) I) _ _ h1,rfl,(),λv hv=>?_,λhv=>?_}}
   .obtain⟨l,rfl,l0,ll⟩:=O.at_ _ v hv
    have L:=(zb (o:=.lst []) I) _ _ ll;have U:d≠l:=λz=>by rw[<- z,h1] at ll;cases ll
    have sl:=zgF (J.take i) p.1;rw[qv] at sl;refine{.inl {rfl,_,u6 L},_,rfl,l,_,_,rfl,rfl,L,by rw[zm];omega,?_}
    exact{_,_,g,rfl,by rw[zp U];exact(zb (o:=.lst []) I) _ _ h1,O.old (zb I) hv,λc o e=>by rw[zp (zj e l0)];exact(zb I) _ _ (D _ _ e)}
   .have Y:m≠d:=λz=>by rw[z,h1] at I;cases I
    have m0:H m=none:=by
     cases z:H m with
     | none=>rfl
     | some o=>rw[D _ _ z] at I;cases I
    have L:upd (upd G m 0#o) d (.dK (xU g (Sum.inl p.1) (.ref m))) m=some 0#o:=by rw[zp Y];exact zc
    refine{.inl {rfl,_,u6 L},_,rfl,m,_,_,rfl,rfl,L,by show 0<_;omega,?_}
    exact{_,_,_,rfl,by rw[zp (qD Y)];exact zc,O.new I m0 h1 hv,λc o e=>by rw[zp (zj e m0),zp (zj e hd),zp (zj e m0)];exact D _ _ e}
end
def Wk(b:List (Int×Int)):Nat->Int->Int->Prop
 | 0,i,j=>i=j
 | n+1,i,j=>∃m,(i,m)∈b/\Wk b n m j
section
variable{g:List (Int×Int)}
theorem Wk.snoc:∀{n:Nat} {i j k:Int},Wk g n i j->(j,k)∈g->Wk g (n+1) i k
 | 0,i,j,k,h,e=>by cases(show i=j from h);exact⟨k,e,rfl⟩
 | n+1,i,j,k,⟨m,h,b⟩,e=>{m,h,Wk.snoc b e}
theorem Wk.closed{C:Int->Prop}(c:∀x y,C x->(x,y)∈g->C y):∀{n:Nat} {i j:Int},C i->Wk g n i j->C j
 | 0,i,j,h,e=>by cases(show i=j from e);exact h
 | n+1,i,j,h,⟨m,e,w⟩=>Wk.closed c (c i m h e) w
theorem Wk.back:∀{n:Nat} {i j:Int},Wk g n i j->Wk (g.map Prod.swap) n j i
 | 0,i,j,h=>Eq.symm h
 | n+1,i,j,⟨m,e,w⟩=>Wk.snoc (Wk.back w) (zN.mpr {(i,m),e,rfl})
theorem YB{i j:Int}:j∈wQ g i↔(i,j)∈g:=by
 unfold wQ;rw[zN];constructor
 .rintro⟨⟨a,b⟩,h,rfl⟩
  obtain⟨h1,h2⟩:=qI.mp h;rw[<- qP h2];exact h1
 .intro h
  exact{(i,j),qI.mpr {h,qg rfl},rfl}
end
theorem XE(b:List (Int×Int)):(b.map Prod.swap).map Prod.swap=b:=by
 rw[xc];exact List.map_id'' (λ_=>rfl) b
def dkI(b:List (Int×Int)):List (Key×V):=b.map λp=>(Sum.inl p.1,V.int p.2)
theorem zcz(b:List (Int×Int)):(dkI b).length=b.length:=zm _
theorem VZ:∀(b:List (Int×Int)) (i:Int),(∃v,jP (dkI b) (Sum.inl i)=some (.int v)/\i∈b.map (·.1))\/(jP (dkI b) (Sum.inl i)=none/\i∉b.map (·.1))
 | [],i=>.inr {rfl,1e3}
 | p::b,i=>by
  by_cases h:p.1=i
  .exact .inl {p.2,jX (by show Sum.inl p.1=_;rw[h]),by simp[h]}
  .have e:jP (dkI (p::b)) (Sum.inl i)=jP (dkI b) (Sum.inl i):=jY (λz=>h (vK z))
   rcases VZ b i with ⟨v,h1,h2⟩ | ⟨h1,h2⟩
   .exact .inl {v,e.trans h1,by simp only[jz,qH];exact .inr h2}
   .exact .inr {e.trans h1,by simp only[jz,qH];rintro(z | z);exact h z.symm;exact h2 z}
theorem zhN{b:List (Int×Int)}{i v:Int}(h:jP (dkI b) (Sum.inl i)=none):xU (dkI b) (Sum.inl i) (.int v)=dkI (b++[(i,v)]):=by
 rw[Ju _ h];unfold dkI;rw[zL];rfl
theorem Va{α:Type}[DecidableEq α]:∀{l m:List α},l.Nodup->(∀x∈l,x∈m)->l.length<=m.length
 | [],_,_,_=>jv _
 | x::l,m,h,s=>by
  have hx:=s x 1e3
  have b:=Zx.mp h;have:=Va (l:=l) (m:=m.erase x) b.2 λy hy=>(List.mem_erase_of_ne (λe:y=x=>b.1 (e▸hy))).mpr (s y (xg _ hy))
  rw[zbc hx] at this;have:=za7 hx;rw[jZ];omega
def InN(n:Nat)(i:Int):Prop:=0<=i/\i<n
theorem JC{n:Nat}{l:List Int}(h:l.Nodup)(s:∀x∈l,InN n x):l.length<=n:=by
 have:=Va (m:=(List.range n).map λk:Nat=>(k:Int)) h λx hx=>by
  obtain⟨h0,h1⟩:=s x hx;exact zN.mpr {x.toNat,xB.mpr (),()}
 rwa[zm,wg] at this
theorem zap{α:Type}{l:List α}{x:α}(h:l.Nodup)(hx:x∉l):(l++[x]).Nodup:=by
 rw[wf];exact{h,1e3,λa c b hb e=>hx (by rw[qm] at hb;rw[<- hb,<- e];exact c)}
structure zgy(H:Hp)(rk:List (Key×V))(as:List (Int×Int)):Prop where
 at_:∀i v,jP rk (Sum.inl i)=some v->∃l,v=.ref l/\H l=some (.lst ((wQ as i).map V.int))
 no:∀i,jP rk (Sum.inl i)=none->wQ as i=[]
def WSt(H:Hp)(l:List (Int×Int))(n:Nat)(s:Int)(r d:Addr)(m:Nat)(σ:St)(g:Hp):Prop:=
 ∃(e:Addr) (c:List Int) (b:List (Int×Int)) (w A B:Option V),σ=[some (.int s),some (.ref r),some (.ref d),some (.ref e),w,A,B]/\H e=none/\e≠d/\g e=some (.lst (c.map V.int))/\g d=some (.dK (dkI b))/\Same H g /\
  (b.map (·.1)).Nodup/\(∀j∈b.map (·.1),∃k,Wk l k s j)/\s∈b.map (·.1)/\(∀j∈c,j∈b.map (·.1))/\(∀x∈b.map (·.1),x∉c->∀y,(x,y)∈l->y∈b.map (·.1))/\c.length<=60/\m=2*(n-b.length)+(if c=[] then 0 else 1)
structure RSt(as:List (Int×Int))(s:Int)(d l:Addr)(ps:List (Int×Int))(H H':Hp)(qs:List (Int×Int))(rs:List Int):Prop where
 hd:H' d=some (.dK (dkI qs))
 hl:H' l=some (.lst (rs.map V.int))
 sm:Same H H'
 nd:(qs.map (·.1)).Nodup
 snd:∀j∈qs.map (·.1),∃k,Wk as k s j
 eq:qs.map (·.1)=ps.map (·.1)++rs
section
variable{P:Program}{w:World}{K:W.Frag}{I:Str->Option Value}{G:Heap}
inductive XX(K:W.Frag)(A:List V)(H:Hp)(Q:VK):Prop
 | mk (s:Int) (r:Addr) (l:List (Key×V)) (b:List (Int×Int)) (n:Nat) (_:A=[.int s,.ref r]) (_:H r=some (.dK l)) (_:zgy H l b) (_:n<=60) (_:InN n s) (_:(∀p∈b,InN n p.2)) (_:b.length<=1000) (_:∀(d:Addr) (c:List (Int×Int)) g,Same H g->H d=none->g d=some (.dK (dkI c))->(c.map (·.1)).Nodup->c.length<=n->(∀j,j∈c.map (·.1)↔∃k,Wk b k s j)->Q (.ref d) g):XX K A H Q
def zbw(K:W.Frag):Sp:=λb H Q _=>XX K b H Q
theorem zbU:zD ["start","rows","steps","edge","reached","part","other"] ["start","rows"] (zu (topL 10)):=u4
theorem zfA{f:Addr}{fd:FuncData}(F:Fun K "steps_from" "steps_from" (topL 10) f fd)(B:Blt I):FnOk P w K I G CX0 1 f fd ["start","rows"] (zbw K):=by
 have nd:=zbU.nd;refine F.ok zbU 0#d (λbd A bb s H vs Q E hr h=>?_)
 .obtain⟨s,r,rk,L,n,rfl,_⟩:=h
  rfl
 .obtain⟨s,r,rk,L,n,rfl,hR,ro,be,ins,ah,al,k⟩:=h
  have bc:=bG100000;have ae:=JN hr;refine{_,(ze (zG (i:=2) nd rfl 0#a (zgX (zfe (pv 0) zg zgQ) rfl rfl (by intro z;cases z) (by show 1<=15;decide)))
   (ze (zG (i:=3) nd rfl 0#a (z9 0#y))
   (ze (Ym jL (zgO (pv 3))
   (ze (zG (i:=4) nd rfl 0#a (z9 zd))
    (ze (jh jL rfl (zZ (pv 3)) (zq (i:=5) nd rfl 0#a)
    (zi (jh jL rfl (zZ (zfq ae (pv 1) (pv 5) (z9 zd) ⟨rfl,rfl,rfl,rfl⟩)) (zq (i:=6) nd rfl 0#a)
     (zi (jb (zfc (X8 ae (pv 6) (pv 2)))
      (ze (zb8 ae (pv 2) (pv 6) (zO jk (VE ae (pv 2) (pv 5) 0#c) zg) rfl)
       (zi (ji (xi j5 vQ vP jr (pv 4) (za (pv 6) zd)))))
      zY)))))
    (zi (zG (i:=3) nd rfl 0#a (pv 4))))))
   (zi (zy (pv 2)))))),?_}
  refineλd hd=>{_,rfl,zc,[(Sum.inl s,.int 0)],rfl,(by show 1<=15;decide),_,rfl,le1,λe he=>?_}
  have ed:e≠d:=λz=>by rw[z,zc] at he;cases he
  have e0:H e=none:=by rw[zp ed,zp ed] at he;exact he
  have s0:Same H (upd (upd (upd H d (.dK [])) d (.dK (xE [] [(Sum.inl s,V.int 0)]))) e (.lst [.int s])):=λc o z=>by rw[zp (zj z e0),zp (zj z hd),zp (zj z hd)];exact z
  have ao:(upd (upd (upd H d (.dK [])) d (.dK (xE [] [(Sum.inl s,V.int 0)]))) e (.lst [.int s])) d=some (.dK (dkI [(s,0)])):=by rw[zp (qD ed),zc];rfl
  have ap:(upd (upd (upd H d (.dK [])) d (.dK (xE [] [(Sum.inl s,V.int 0)]))) e (.lst [.int s])) e=some (.lst ([s].map V.int)):=zc;generalize upd (upd (upd H d (.dK [])) d (.dK (xE [] [(Sum.inl s,V.int 0)]))) e (.lst [.int s])=H1 at s0 ao ap;refine{WSt H L n s r d,{_,e,[s],[(s,0)],_,_,_,rfl,e0,ed,ap,ao,s0,1e3,λj U=>{0,by simp at U;exact U.symm},1e3,1e3,λx hx hn=>absurd hx (by simpa using hn),1e3,rfl},?_}
  rintro m σ H2 ⟨e,es,N,v4,v5,v6,rfl,en,ba,ab,af,s2,aj,ak,au,aw,an,el,rfl⟩;have b0:∀j∈N.map (·.1),InN n j:=λj U=>by
   obtain⟨k,wk⟩:=ak j U;exact Wk.closed (C:=InN n) (λx y _ h=>ah _ h) ins wk
  have pl:N.length<=n:=by have:=JC aj b0;rwa[zm] at this
  refine{_,rfl,e,_,rfl,u6 ab,?_}
  cases es with
  | nil=>
   refine ifF 1e2 ?_
   refine{_,rfl,k d N H2 s2 hd af aj pl λj=>{ak j,λ⟨k,wk⟩=>Wk.closed (C:=λj=>j∈N.map (·.1)) (λx y hx h=>an x hx 1e3 y h) au wk}}
  | cons e1 T=>
   refine ifT 1e2 ?_
   refine{λσ' O=>∃m',m'<2*(n-N.length)+(if e1::T=[] then 0 else 1)/\WSt H L n s r d m' σ' O,λ_ _ h=>h,?_}
   refine{le0,λl Y=>?_}
   have lH:H l=none:=by
    cases z:H l with
    | none=>rfl
    | some o=>rw[s2 _ _ z] at Y;cases Y
   have ld:l≠d:=λz=>by rw[z,af] at Y;cases Y
   have le:l≠e:=λz=>by rw[z,ab] at Y;cases Y
   refine{_,rfl,e,rfl,{_,u6 ((zb Y) _ _ ab)},xF (K:=K) (a:=e) (xs:=(e1::T).map V.int) (λi σ O=>Ex4 λ(v5 v6:Option V) (b:List (Int×Int)) (J:List Int)=>An4 (σ=[some (.int s),some (.ref r),some (.ref d),some (.ref e),some (.ref l),v5,v6]) (O e=some (.lst ((e1::T).map V.int))) (RSt L s d l N H O b J) ((∀x∈(e1::T).take i,∀y,(x,y)∈L->y∈b.map (·.1))))
    {_,_,N,[],rfl,(zb Y) _ _ ab,{(zb Y) _ _ af,zc,s2.trans (zb Y),aj,ak,1e3},1e3} (λi σ O _ ⟨_,_,_,_,_,h,_,_⟩=>u6 h) ?_ ?_}
   .rintro i x σ H3 hx ⟨v5,v6,b,J,rfl,ar,g,a0⟩
    rw[qk] at hx;obtain⟨x,ex,rfl⟩:=qG.mp hx;have et:(e1::T).take (i+1)=(e1::T).take i++[x]:=by
     obtain⟨h1,h2⟩:=zK.mp ex;rw[<- h2,Qc]
    have xk:x∈N.map (·.1):=aw x (qz ex)
    have xq:x∈b.map (·.1):=by rw[g.eq];exact qw _ xk
    refine{_,rfl,r,rfl,.inl {_,.inl (g.sm _ _ hR)},_,rfl,le0,λq hq=>?_}
    have sq:=zb (H:=H3) (o:=.lst []) hq;have qd:q≠d:=λz=>by rw[z,g.hd] at hq;cases hq
    have ql:q≠l:=λz=>by rw[z,g.hl] at hq;cases hq
    refine{_,.inl {rk,Sum.inl x,.inl (sq _ _ (g.sm _ _ hR)),rfl,rfl},?_}
    have tt:∃t,(jP rk (Sum.inl x)).getD (.ref q)=.ref t/\upd H3 q 0#o t=some (.lst ((wQ L x).map V.int))/\t≠d/\t≠l:=by
     cases z:jP rk (Sum.inl x) with
     | none=>exact{q,rfl,by rw[ro.no x z];exact zc,qd,ql}
     | some v=>
      obtain⟨t,rfl,ht⟩:=ro.at_ x v z;exact{t,rfl,sq _ _ (g.sm _ _ ht),zj ht hd,zj ht lH}
    obtain⟨t,ay,ht,td,tl⟩:=tt;rw[ay];refine{t,rfl,{_,u6 ht},xF (K:=K) (a:=t) (xs:=(wQ L x).map V.int) (λk σ O=>Ex3 λ(v6:Option V) (b:List (Int×Int)) (J:List Int)=>An6 (σ=[some (.int s),some (.ref r),some (.ref d),some (.ref e),some (.ref l),some (.int x),v6]) (O e=some (.lst ((e1::T).map V.int))) (O t=some (.lst ((wQ L x).map V.int))) (RSt L s d l N H O b J) ((∀x∈(e1::T).take i,∀y,(x,y)∈L->y∈b.map (·.1))) (∀y∈(wQ L x).take k,y∈b.map (·.1)))
     {_,b,J,rfl,sq _ _ ar,ht,{sq _ _ g.hd,sq _ _ g.hl,g.sm.trans sq,g.nd,g.snd,g.eq},a0,1e3} (λi σ O _ ⟨_,_,_,_,_,h,_,_,_⟩=>u6 h) ?_ ?_}
    .rintro j y σ H4 hy ⟨v6,b,J,rfl,ac,ag,D,aa,M⟩
     rw[qk] at hy;obtain⟨y,ey,rfl⟩:=qG.mp hy;have aq:(wQ L x).take (j+1)=(wQ L x).take j++[y]:=by
      obtain⟨h1,h2⟩:=zK.mp ey;rw[<- h2,Qc]
     have xy:(x,y)∈L:=YB.mp (qz ey);have ax:x∈b.map (·.1):=by rw[D.eq];exact qw _ xk
     refine{_,rfl,_,rfl,d,_,rfl,.inl {_,Sum.inl y,.inl D.hd,rfl,rfl},?_}
     rcases VZ b y with ⟨v,hv,my⟩ | ⟨hv,my⟩
     .rw[hv]
      refine{_,rfl,ifF 1e2 ?_}
      refine{_,b,J,rfl,ac,ag,D,aa,λz hz=>?_}
      rw[aq] at hz;rcases zV.mp hz with h | h
      .exact M z h
      .rw[qm.mp h];exact my
     .rw[hv]
      refine{_,rfl,ifT 1e2 ?_}
      rcases VZ b x with ⟨vx,az,_⟩ | ⟨_,z⟩
      .have ai:∀j∈b.map (·.1),InN n j:=λj U=>by
        obtain⟨k,wk⟩:=D.snd j U;exact Wk.closed (C:=InN n) (λx y _ h=>ah _ h) ins wk
       have ql:b.length<=n:=by have:=JC D.nd ai;rwa[zm] at this
       have lq:b.length=N.length+J.length:=by
        have:=congrArg List.length D.eq;rwa[qh,zm,zm] at this
       refine{_,rfl,_,rfl,d,_,rfl,.inl {_,Sum.inl x,.inl D.hd,rfl,az.symm},_,_,rfl,rfl,_,rfl,_,rfl,d,_,rfl,.inl {_,Sum.inl y,D.hd,rfl,by rw[zcz];omega,rfl},?_}
       rw[zhN hv];have am:upd H4 d (.dK (dkI (b++[(y,vx+1)]))) l=some (.lst (J.map V.int)):=by rw[zp ld];exact D.hl
       refine{_,rfl,.inl {rfl,_,u6 am},_,rfl,l,_,_,rfl,rfl,am,by rw[zm];omega,?_}
       refine{_,b++[(y,vx+1)],J++[y],rfl,by rw[zp (qD le),zp ba];exact ac,by rw[zp tl,zp td];exact ag,{by rw[zp (qD ld)];exact zc,by rw[zc,zL];rfl,λc o z=>by rw[zp (zj z lH),zp (zj z hd)];exact D.sm _ _ z,?_,?_,by rw[zL,D.eq,je];rfl},λz hz u hu=>?_,λz hz=>?_}
       .rw[zL]
        exact zap D.nd my
       .intro z hz
        rw[zL] at hz;rcases zV.mp hz with h | h
        .exact D.snd z h
        .obtain⟨k,wk⟩:=D.snd x ax
         rw[qm.mp h];exact{k+1,wk.snoc xy}
       .rw[zL]
        exact qw _ (aa z hz u hu)
       .rw[aq] at hz
        rw[zL];rcases zV.mp hz with h | h
        .exact qw _ (M z h)
        .exact qW _ h
      .exact absurd ax z
    .rintro σ H4 ⟨v6,b,J,rfl,ac,ag,D,aa,M⟩
     rw[zm,qB] at M;refine{_,_,b,J,rfl,ac,D,λz hz y hy=>?_}
     rw[et] at hz;rcases zV.mp hz with h | h
     .exact aa z h y hy
     .rw[qm.mp h] at hy
      exact M y (YB.mpr hy)
   .rintro σ H3 ⟨v5,v6,b,J,rfl,ar,g,a0⟩
    rw[zm,qB] at a0;have ai:∀j∈b.map (·.1),InN n j:=λj U=>by
     obtain⟨k,wk⟩:=g.snd j U;exact Wk.closed (C:=InN n) (λx y _ h=>ah _ h) ins wk
    have ql:b.length<=n:=by have:=JC g.nd ai;rwa[zm] at this
    have lq:b.length=N.length+J.length:=by
     have:=congrArg List.length g.eq;rwa[qh,zm,zm] at this
    refine{_,rfl,2*(n-b.length)+(if J=[] then 0 else 1),?_,l,J,b,_,_,_,rfl,lH,ld,g.hl,g.hd,g.sm,g.nd,g.snd,by rw[g.eq];exact qw _ au,λj U=>by rw[g.eq];exact qW _ U,λx hx hn y hy=>?_,(),rfl}
    .rw[zw (by simp:¬e1::T=[])]
     split
     .omega
     .rename_i h
      have:=Wo.mpr h;omega
    .rw[g.eq] at hx
     rcases zV.mp hx with h | h
     .by_cases av:x∈e1::T
      .exact a0 x av y hy
      .rw[g.eq];exact qw _ (an x h av y hy)
     .exact absurd h hn
theorem zkj{c g:List Int}(p:c.Perm g)(s:g.Nodup)(h:c.Pairwise (·<= ·)):c.Pairwise (·< ·):=by
 have l:c.Pairwise (·≠ ·):=p.nodup_iff.mpr s
 exact(h.and l).imp λ⟨a,b⟩=>()
inductive zbS(K:W.Frag)(B:List V)(H:Hp)(Q:VK):Prop
 | mk (s:Int) (r:Addr) (A:List (Key×V)) (b:List (Int×Int)) (n:Nat) (_:B=[.int s,.ref r]) (_:H r=some (.dK A)) (_:zgy H A b) (_:n<=60) (_:InN n s) (_:(∀p∈b,InN n p.2)) (_:b.length<=1000) (_:∀(l:Addr) (c:List Int) g,Same H g->H l=none->g l=some (.lst (c.map V.int))->c.length<=60->c.Pairwise (·< ·)->(∀j,j∈c↔j≠s/\∃k,Wk b k s j)->Q (.ref l) g):zbS K B H Q
def zij(K:W.Frag):Sp:=λb H Q _=>zbS K b H Q
theorem ziA:zD ["part","rows"] ["part","rows"] (zu (topL 11)):=u4
theorem zjN{f:Addr}{fd:FuncData}(F:Fun K "all_from" "all_from" (topL 11) f fd)(B:Blt I)(g:Dfn P w K I G "steps_from" 1 ["start","rows"] (zbw K)):FnOk P w K I G CX0 2 f fd ["part","rows"] (zij K):=by
 have nd:=ziA.nd;refine F.ok ziA 0#d (λac A aa s H vs Q E hr h=>?_)
 .obtain⟨s,r,rk,as,n,rfl,_⟩:=h
  rfl
 .obtain⟨s,r,rk,as,n,rfl,hR,ro,Y,ins,T,al,k⟩:=h
  have ab:=bG100000;refine{_,(zi (zy (zt jm rfl B.sorted jt (za (jE ["part"] [0] rfl rfl (by kernel_rfl) (zfk (zf g hr.m rfl (za (pv 0) 0#k))) (λ_ _ _ _=>(xh (zP zcc (pv 0) (pv 1) (zR _)))) 0#m) zd)))),?_}
  refine{_,rfl,_,rfl,s,r,rk,as,n,rfl,hR,ro,Y,ins,T,al,λd C M s1 hd O a0 lp mem=>{d,_,rfl,O,λo=>YG (d:=d) (o:=o) (kvs:=dkI C) (λi L H'=>L=(((C.take i).map (·.1)).filter λj=>decide (j≠s)).map V.int/\H'=upd M d (.frz o (.dK (dkI C)))) ⟨rfl,rfl⟩ (λi L H' ⟨_,h⟩=>by rw[h];exact zc) ?_ ?_}}
  .rintro i kk v L H2 hx ⟨rfl,rfl⟩
   unfold dkI at hx;rw[qk] at hx;obtain⟨p,ep,e1⟩:=qG.mp hx;cases e1;have et:C.take (i+1)=C.take i++[p]:=by
    obtain⟨h1,h2⟩:=zK.mp ep;rw[<- h2,Qc]
   have hi:=(zK.mp ep).1;rw[et,zL,xI,zL];have U:=jq (λj=>decide (j≠s)) ((C.take i).map (·.1))
   rw[zm,qv] at U;refine{rfl,_,rfl,_,rfl,rfl,_,rfl,?_}
   by_cases c:p.1=s
   .refine ifF (by show(!decide (V.int p.1=V.int s))=false;rw[c];simp) {?_,rfl}
    simp[c]
   .refine ifT (by show(!decide (V.int p.1=V.int s))=true;rw[jO (λz=>c (V.int.inj z))];rfl) {_,rfl,by rw[zm];omega,?_,rfl}
    simp[c,kV]
  .rintro L H2 ⟨rfl,rfl⟩
   rw[zcz,qB];have U:=jq (λj=>decide (j≠s)) (C.map (·.1))
   rw[zm] at U;refine{by rw[zm];omega,λl J=>{l,(C.map (·.1)).filter λj=>decide (j≠s),rfl,u6 zc,(),λl2 ms D pm pw=>?_}}
   have ld:l≠d:=λz=>by rw[z,zc] at J;cases J
   have N:M l=none:=by rw[zp ld] at J;exact J
   have s3:Same H (upd (upd M d (.frz o (.dK (dkI C)))) l (.lst (((C.map (·.1)).filter λj=>decide (j≠s)).map V.int))):=λc o z=>by
    rw[zp (zj (s1 _ _ z) N),zp (zj z hd)];exact s1 _ _ z
   refine k l2 ms _ (s3.trans (zb D)) ?_ zc (by rw[pm.length_eq];omega) (zkj pm (a0.filter _) pw) λj=>?_
   .cases z:H l2 with
    | none=>rfl
    | some o=>rw[s3 _ _ z] at D;cases D
   .rw[pm.mem_iff,qI,mem j]
    constructor
    .rintro⟨a,b⟩;exact{qP b,a}
    .rintro⟨a,b⟩;exact{b,qg a}
def asI(J:Job):List (Int×Int):=J.as.map λp=>((p.1:Int),(p.2:Int))
theorem zhY(J:Job):(asI J).map prD=J.as.map jM:=by
 unfold asI;rw[xc];rfl
theorem V4(J:Job):(asI J).length=J.as.length:=zm _
inductive X4(K:W.Frag)(g:List V)(H:Hp)(Q:VK):Prop
 | mk (s:Int) (p:Addr) (J:Job) (_:g=[.ref p,.int s]) (_:Rep K H (j6 J) (.ref p)) (_:J.ps.length<=60) (_:InN J.ps.length s) (_:(∀q∈asI J,InN J.ps.length q.1/\InN J.ps.length q.2)) (_:J.as.length<=300) (_:∀(l:Addr) (b:List Int) c,Same H c->H l=none->c l=some (.lst 0#u)->b.length<=60->b.Pairwise (·< ·)->(∀j,j∈b↔j≠s/\∃k,Wk (asI J) k j s)->Q (.ref l) c):X4 K g H Q
def ZK(K:W.Frag):Sp:=λb H Q _=>X4 K b H Q
theorem zaz{J:Job}{H:Hp}{p:Addr}(h:Rep K H (j6 J) (.ref p)):∃(t:Addr) (c g l s:V) (b:List V),SqT K H p [c,g,l,s,.ref t]/\SqT K H t b/\Reps K H ((asI J).map prD) b:=by
 obtain⟨a,b,e,B,c,_,rfl,_,g,_,rfl,_,l,_,rfl,_,s,_,rfl,_,M,L,rfl,A,rfl⟩:=h;cases e;obtain⟨t,E,rfl,C,D⟩:=A;exact{t,_,_,_,_,E,B,C,by rw[zhY];exact D}
theorem zbZ:zD ["job","part"] ["job","part"] (zu (topL 12)):=u4
theorem zfG{f:Addr}{fd:FuncData}(F:Fun K "ahead_of" "ahead_of" (topL 12) f fd)(B:Blt I)(C:Dfn P w K I G "turned" 1 ["pairs"] (zbt K))(g:Dfn P w K I G "next_by" 1 ["pairs"] (zer K))(c:Dfn P w K I G "all_from" 2 ["part","rows"] (zij K)):FnOk P w K I G CX0 3 f fd ["job","part"] (ZK K):=by
 have nd:=zbZ.nd;refine F.ok zbZ 0#d (λac A aa s H vs Q E T h=>?_)
 .obtain⟨s,p,J,rfl,_⟩:=h
  rfl
 .obtain⟨s,p,J,rfl,rp,a0,ins,U,al,k⟩:=h
  have ab:=bG100000;refine{_,(zi (zy (zf c T.m rfl (za (pv 1) (za (zf g T.m rfl (za (zf C T.m rfl (za 0#z zd)) zd)) zd))))),?_}
  obtain⟨t,x0,x1,x2,x3,xs,qa,qt,rx⟩:=zaz rp;refine{_,rfl,_,rfl,p,_,_,_,rfl,rfl,qa,rfl,t,xs,asI J,rfl,qt,rx,by rw[V4];omega,λl0 ys H0 s0 M ry=>?_}
  have em:((asI J).map Prod.swap).map prD=(asI J).map λp=>prD p.swap:=by rw[xc];rfl
  refine{l0,ys,(asI J).map Prod.swap,rfl,.inl (u6 M),by rw[em];exact ry,by rw[zm,V4];omega,λd Y H1 s1 hd L nb=>?_}
  refine{s,d,Y,(asI J).map Prod.swap,J.ps.length,rfl,L,{λi v hv=>let ⟨l,a,_,b⟩:=nb.at_ i v hv;⟨l,a,b⟩,nb.no},a0,ins,λq hq=>?_,by rw[zm,V4];omega,λl ms H2 s2 hl N D pw mem=>?_}
  .obtain⟨q',O,rfl⟩:=zN.mp hq
   exact(U q' O).1
  refine k l ms H2 (s0.trans (s1.trans s2)) ?_ N D pw λj=>?_
  .cases z:H l with
   | none=>rfl
   | some o=>rw[s1 _ _ (s0 _ _ z)] at hl;cases hl
  .rw[mem j]
   refine{λ⟨a,k,b⟩=>{a,k,?_},λ⟨a,k,b⟩=>⟨a,k,b.back⟩}
   have:=b.back;rwa[XE] at this
theorem Wk.rank{g:List (Int×Int)}{c:Int->Nat}(h:∀q∈g,c q.1<c q.2):∀{k:Nat} {a b:Int},Wk g k a b->c a+k<=c b
 | 0,a,b,e=>by cases(show a=b from e);exact zF _
 | k+1,a,b,⟨m,e,w⟩=>by
  have:=Wk.rank h w;have:c a<c m:=h (a,m) e;omega
theorem Same.none{H b:Hp}{t:Addr}(s:Same H b)(h:b t=Option.none):H t=Option.none:=s.free h
theorem xX(os:List Nat)(n:Nat):zr (os++[n])=zr os++[.int (n:Int)]:=by
 unfold zr;rw[zL];rfl
theorem xL{H:Hp}{J:Job}{B:Addr}(h:Rep K H (j6 J) (.ref B)):∃(g fs c b:Addr) (A pv:List V),SqT K H B [.ref g,.int J.hd,.ref fs,.ref c,.ref b]/\Rep K H (.tup [.int J.gx,.int J.gy]) (.ref g)/\SqT K H fs A/\Reps K H (J.fs.map wq) A/\SqT K H c pv/\Reps K H (J.ps.map vk) pv/\Rep K H (Qd J.as) (.ref b):=by
 obtain⟨a,xs,e,q,x0,r0,E,h0,x1,r1,e1,h1,x2,r2,e2,h2,x3,r3,L,h3,x4,r4,M,h4,N⟩:=h;cases e;subst E e1 e2 L M;have l:r4=[]:=N;subst l;have s:x1=.int J.hd:=h1;subst s;obtain⟨g,Y,rfl,U⟩:=h0;obtain⟨fs,T,rfl,O,Q⟩:=h2;obtain⟨c,px,rfl,pq,pr⟩:=h3;obtain⟨b,D,rfl,C⟩:=h4;exact{g,fs,c,b,T,px,q,⟨g,Y,rfl,U⟩,O,Q,pq,pr,⟨b,D,rfl,C⟩}
theorem zgV{a b:List Int}(h:a.Perm b)(c:a.Pairwise (·<= ·))(hb:b.Pairwise (·<= ·)):a=b:=by
 induction a generalizing b with
 | nil=>exact(List.Perm.nil_eq h)
 | cons x a g=>
  cases b with
  | nil=>exact absurd h.length_eq 1e3
  | cons y b=>
   rw[Xn] at c hb;have l:x=y:=by
    have h1:y∈x::a:=h.mem_iff.mpr qJ;have h2:x∈y::b:=h.mem_iff.mp qJ;rcases qH.mp h1 with z | z
    .exact z.symm
    .rcases qH.mp h2 with u | u
     .exact u
     .have:=c.1 y z
      have:=hb.1 x u;omega
   subst l;rw[g (List.Perm.cons_inv h) c.2 hb.2]
theorem at2{x y z:V}{r:List V}:atI (x::y::z::r) 2=some z:=qr (j:=2) rfl
theorem at3{x y z u:V}{r:List V}:atI (x::y::z::u::r) 3=some u:=qr (j:=3) rfl
theorem at1{x y:V}{r:List V}:atI (x::y::r) 1=some y:=qr (j:=1) rfl
theorem zc5{κ:Type}[DecidableEq κ](c b:List κ)(k:κ):XD c (b++[k])=wB (XD c b) k:=by unfold XD;rw[zaT];rfl
structure TripV(J:Job)(t:zW):Prop where
 p1:1<=t.pk.length
 p2:(t.pk.length:Int)<=J.hd
 ok:∀p∈t.pk,p.1<J.ps.length/\p.2<J.fs.length
 ly:t.ly.Perm (t.pk.map (·.1))
 nd:(t.pk.map (·.1)).Nodup
theorem Jm{κ:Type}[DecidableEq κ]:∀(l b:List κ),(b++l).Nodup->XD b l=b++l
 | [],b,_=>(qA b).symm
 | k::l,b,h=>by
  have hk:k∉b:=λz=>by
   have:=(wf.mp h).2.2 k z k qJ;exact this rfl
  show XD (wB b k) l=_;rw[show wB b k=b++[k] from zw hk,Jm l (b++[k]) (by rw[je];exact h),je]
  rfl
theorem TripV.le{J:Job}{t:zW}(h:TripV J t):t.ly.length=t.pk.length:=by rw[h.ly.length_eq,zm]
def nI(l:List Nat):List Int:=l.map λk:Nat=>(k:Int)
theorem VJ(l:List Nat):zr l=(nI l).map V.int:=by
 unfold zr nI;rw[xc];rfl
theorem xK{H:Hp}{t:zW}{x:V}(h:Rep K H (jG t) x):∃a b c g l,x=.ref a/\SqT K H a [.ref b,.ref c]/\SqT K H b g/\Reps K H (t.pk.map jM) g/\SqT K H c l/\Reps K H (t.ly.map Yx) l:=by
 obtain⟨a,M,rfl,A,N,L,s,h0,O,D,e1,h1,e2⟩:=h;subst s e1;cases(show D=[] from e2)
 obtain⟨b,g,rfl,B,E⟩:=h0;obtain⟨c,l,rfl,C,J⟩:=h1;exact⟨a,b,c,g,l,rfl,A,B,E,C,J⟩
theorem yu{H:Hp}:∀{l:List Nat} {b:List V},Reps K H (l.map Yx) b->b=zr l
 | [],_,h=>h
 | k::l,_,h=>by
  obtain⟨v,r,e,h1,h2⟩:=h;subst e;rw[yu h2,show v=_ from h1]
  rfl
theorem VO{H:Hp}{J:Job}{B:Addr}(h:Rep K H (j6 J) (.ref B)):∃(g fs b c:Addr) (A pv:List V),SqT K H B [.ref g,.int J.hd,.ref fs,.ref b,.ref c]/\SqT K H fs A/\A.length=J.fs.length/\SqT K H b pv/\pv.length=J.ps.length:=by
 obtain⟨a,xs,e,q,x0,r0,E,h0,x1,r1,e1,h1,x2,r2,e2,h2,x3,r3,L,U,x4,r4,M,Y,N⟩:=h;cases e;subst E e1 e2 L M;have l:r4=[]:=N;subst l;have s:x1=.int J.hd:=h1;subst s;obtain⟨g,gx,rfl,gq⟩:=h0;obtain⟨fs,T,rfl,O,Q⟩:=h2;obtain⟨b,px,rfl,pq,pr⟩:=U;obtain⟨c,ax,rfl,aq⟩:=Y;have C:=Q.len;have D:=pr.len;rw[zm] at C D;exact⟨g,fs,b,c,T,px,q,O,C,pq,D⟩
inductive zbG(K:W.Frag)(b:List V)(H:Hp)(Q:VK):Prop
 | mk (i:Int) (_:b=[.int i]) (_:Q (.bl true) H):zbG K b H Q
def zib(K:W.Frag):Sp:=λb H Q _=>zbG K b H Q
theorem ziu:zD ["thing"] ["thing"] (zu (topL 1)):=u4
theorem zjI{f:Addr}{c:FuncData}(F:Fun K "is_number" "is_number" (topL 1) f c)(B:Blt I):FnOk P w K I G CX0 1 f c ["thing"] (zib K):=by
 have D:=ziu.nd;refine F.ok ziu (λl H Q E h=>?_) (λg A b s H l Q E C h=>?_)
 .obtain⟨i,rfl,_⟩:=h
  rfl
 .obtain⟨i,rfl,k⟩:=h
  refine{_,(zi (zy (vX (zt xG rfl B.isinstance boot_isinstance (za (pv 0) (za (vh (v:=.ty "int") rfl B.int Z2 rfl) zd))) (vt (zjr (zt xG rfl B.isinstance boot_isinstance (za (pv 0) (za (vh (v:=.ty "bool") rfl B.bool Qw rfl) zd)))))))),?_}
  exact{_,rfl,_, "int", "int",rfl,rfl,1e1,_,rfl,ifT 1e1 {_,rfl,_, "int", "bool",rfl,rfl,1e1,_,rfl,k}}
inductive WQ(K:W.Frag)(c:List V)(H:Hp)(Q:VK):Prop
 | mk (i lo b:Int) (_:c=[.int i,.int lo,.int b]) (_:lo<=i) (_:i<=b) (_:Q (.bl true) H):WQ K c H Q
def Vv(K:W.Frag):Sp:=λb H Q _=>WQ K b H Q
theorem zkN:zD ["thing","least","most"] ["thing","least","most"] (zu (topL 2)):=u4
theorem zlr{f:Addr}{g:FuncData}(F:Fun K "is_number_within" "is_number_within" (topL 2) f g)(B:Blt I)(b:Dfn P w K I G "is_number" 1 ["thing"] (zib K)):FnOk P w K I G CX0 2 f g ["thing","least","most"] (Vv K):=by
 have L:=zkN.nd;refine F.ok zkN (λJ H Q E h=>?_) (λl A c s H J Q E D h=>?_)
 .obtain⟨i,lo,C,rfl,_⟩:=h
  rfl
 .obtain⟨i,lo,C,rfl,h1,h2,k⟩:=h
  refine{_,(zi (zy (vX (zf b D.m rfl 0#y) (vt (zfr zfx zfx (pv 1) (pv 0) (pv 2)))))),?_}
  refine{_,rfl,i,rfl,_,rfl,ifT rfl {_,rfl,_,rfl,_,_,rfl,rfl,_,rfl,ifT (qg h1) {_,rfl,_,_,rfl,rfl,?_}}}
  rw[qg h2];exact k
inductive zbu(K:W.Frag)(b:List V)(H:Hp)(Q:VK):Prop
 | mk (a:Addr) (c:List V) (_:b=[.ref a,.int (c.length:Int)]) (_:SqT K H a c) (_:Q (.bl true) H):zbu K b H Q
def zbv(K:W.Frag):Sp:=λb H Q _=>zbu K b H Q
theorem zkQ:zD ["thing","many"] ["thing","many"] (zu (topL 6)):=u4
theorem zlt{f:Addr}{c:FuncData}(F:Fun K "is_tuple_of" "is_tuple_of" (topL 6) f c)(B:Blt I):FnOk P w K I G CX0 1 f c ["thing","many"] (zbv K):=by
 have J:=zkQ.nd;refine F.ok zkQ (λC H Q E h=>?_) (λl A b s H C Q E D h=>?_)
 .obtain⟨a,g,rfl,_⟩:=h
  rfl
 .obtain⟨a,g,rfl,q,k⟩:=h
  refine{_,(zi (zy (vX 0#E (vt (qZ xW (zt zI rfl B.len boot_len 0#y) (pv 1) (zR _)))))),?_}
  refine{_,rfl,_, "tuple", "tuple",rfl,.inr {rfl,_,q},1e1,_,rfl,ifT 1e1 {_,rfl,a,g,rfl,.inr q,_,rfl,rfl,?_}}
  rw[qg rfl];exact k
inductive WS(K:W.Frag)(b:List V)(H:Hp)(Q:VK):Prop
 | mk (a:Addr) (c:List V) (m:Int) (_:b=[.ref a,.int m]) (_:SqT K H a c) (_:(c.length:Int)<=m) (_:Q (.bl true) H):WS K b H Q
def zeh(K:W.Frag):Sp:=λb H Q _=>WS K b H Q
theorem zkP:zD ["thing","most"] ["thing","most"] (zu (topL 7)):=u4
theorem zls{f:Addr}{c:FuncData}(F:Fun K "is_tuple_upto" "is_tuple_upto" (topL 7) f c)(B:Blt I):FnOk P w K I G CX0 1 f c ["thing","most"] (zeh K):=by
 have L:=zkP.nd;refine F.ok zkP (λD H Q E h=>?_) (λl A b s H D Q E J h=>?_)
 .obtain⟨a,g,m,rfl,_⟩:=h
  rfl
 .obtain⟨a,g,m,rfl,q,C,k⟩:=h
  refine{_,(zi (zy (vX 0#E (vt (qZ zfx (zt zI rfl B.len boot_len 0#y) (pv 1) (zR _)))))),?_}
  refine{_,rfl,_, "tuple", "tuple",rfl,.inr {rfl,_,q},1e1,_,rfl,ifT 1e1 {_,rfl,a,g,rfl,.inr q,_,rfl,_,_,rfl,rfl,?_}}
  rw[qg C];exact k
inductive zbO(K:W.Frag)(c:List V)(H:Hp)(Q:VK):Prop
 | mk (b a:Addr) (J:Job) (p:Nat×Nat) (_:c=[.ref b,.ref a]) (_:Rep K H (j6 J) (.ref b)) (_:SqT K H a [.int (p.1:Int),.int (p.2:Int)]) (_:p.1<J.ps.length) (_:p.2<J.fs.length) (_:Q (.bl true) H):zbO K c H Q
def zih(K:W.Frag):Sp:=λb H Q _=>zbO K b H Q
theorem ziw:zD ["job","thing","part","feeder"] ["job","thing"] (zu (topL 28)):=u4
theorem zjJ{f:Addr}{L:FuncData}(F:Fun K "is_pick" "is_pick" (topL 28) f L)(B:Blt I)(c:Dfn P w K I G "is_tuple_of" 1 ["thing","many"] (zbv K))(b:Dfn P w K I G "is_number_within" 2 ["thing","least","most"] (Vv K)):FnOk P w K I G CX0 3 f L ["job","thing"] (zih K):=by
 have M:=ziw.nd;refine F.ok ziw 0#d (λT A D s H vs Q E l h=>?_)
 .obtain⟨C,a,J,p,rfl,_⟩:=h
  rfl
 .obtain⟨C,a,J,p,rfl,rj,N,l1,l2,k⟩:=h
  obtain⟨g,fs,U,as,fv,px,O,Y,lf,qp,lp⟩:=VO rj;refine{_,(ze (jb (vp (jH (zf c l.m rfl (za (pv 1) (za zg zd)))))
   (zi (zy xx))
   zY)
   (ze (jQ (pv 1) (qE rfl (zn (zq (i:=2) M rfl 0#a) (zn (zq (i:=3) M rfl 0#a) z7))))
   (zi (zy (vX (zf b l.m rfl (za (pv 2) (za zg (za (zO vy (zt zI rfl B.len boot_len (za 0#z zd)) zg) zd)))) (vt (zf b l.m rfl (za (pv 3) (za zg (za (zO vy (zt zI rfl B.len boot_len (za 0#z zd)) zg) zd)))))))))),?_}
  refine{_,rfl,a,_,rfl,N,_,rfl,ifF 1e1 ?_}
  refine{_,rfl,a,_,rfl,N,rfl,_,_,rfl,_,_,rfl,rfl,?_}
  refine{_,rfl,_,rfl,C,_,_,_,rfl,rfl,O,at3,U,_,rfl,.inr qp,_,_,rfl,rfl,_,_,_,rfl,Wi _,(),?_}
  exact{_,rfl,ifT rfl {_,rfl,_,rfl,C,_,_,_,rfl,rfl,O,at2,fs,_,rfl,.inr Y,_,_,rfl,rfl,_,_,_,rfl,Wi _,(),k}}
inductive Yc(K:W.Frag)(g:List V)(H:Hp)(Q:VK):Prop
 | mk (c a:Addr) (J:Job) (l:List V) (t:zW) (_:g=[.ref c,.ref a]) (_:Rep K H (j6 J) (.ref c)) (_:SqT K H a l) (_:Reps K H (t.pk.map jM) l) (_:TripV J t) (_:J.hd<=4) (_:∀b,Same H b->Q (.bl true) b):Yc K g H Q
def zeC(K:W.Frag):Sp:=λb H Q _=>Yc K b H Q
theorem ze4:zD ["job","thing"] ["job","thing"] (zu (topL 29)):=u4
theorem zhj{f:Addr}{fd:FuncData}(F:Fun K "are_picks" "are_picks" (topL 29) f fd)(B:Blt I)(b:Dfn P w K I G "is_tuple_upto" 1 ["thing","most"] (zeh K))(c:Dfn P w K I G "is_pick" 3 ["job","thing"] (zih K)):FnOk P w K I G CX0 4 f fd ["job","thing"] (zeC K):=by
 have nd:=ze4.nd;refine F.ok ze4 0#d (λac A aa s H vs Q E hr h=>?_)
 .obtain⟨jp,a,J,l,t,rfl,_⟩:=h
  rfl
 .obtain⟨jp,a,J,l,t,rfl,rj,C,rx,tv,ae,k⟩:=h
  obtain⟨g,fs,ps,as,fv,px,qj,qf,lf,qp,lp⟩:=VO rj;have ab:=bG1000000;have lx:=rx.len;rw[zm] at lx;have p1:=tv.p1;have p2:=tv.p2;refine{_,(ze (jb (PW.pt (QP (vp (jH (zf b hr.m rfl (za (pv 1) (za 0#z zd))))) (yr (zP xW (zt zI rfl B.len boot_len 0#k) zg (zR _)))))
   (zi (zy xx))
   zY)
   (ze (jb (vp (jH (zt (x8 rfl) rfl B.all boot_all (za (jE ["job"] [0] rfl rfl (by kernel_rfl) (xO (pv 1)) 0#g (λ_ _ _ _=>(zf c hr.m rfl (za (pv 1) 0#y)))) zd))))
   (zi (zy xx))
   zY)
   (zi (zy (qZ xW (zt zdU rfl B.len boot_len (za (zjq [] [] rfl rfl (by kernel_rfl) (xO (pv 1)) 0#g 0#m) zd)) (zt zI rfl B.len boot_len 0#k) (zR _)))))),?_}
  refine{_,rfl,_,rfl,jp,_,_,_,rfl,rfl,qj,at1,a,l,_,rfl,C,(),_,rfl,ifF 1e1 ?_}
  refine{_,rfl,a,l,rfl,.inr C,rfl,_,rfl,ifF (jO λz=>by have:=V.int.inj z;omega) ?_}
  refine{_,rfl,a,rfl,{_,C},vz (K:=K) (a:=a) (xs:=l) (λi zs N=>zs=List.replicate i (V.bl true)/\Same H N) {rfl,ua _} (λi zs N ⟨_,s1⟩=>s1.sqT C) ?_ ?_}
  .rintro i x zs N hx ⟨rfl,s1⟩
   obtain⟨d,T,rd⟩:=(rx.same s1).get hx;rw[qk] at T;obtain⟨p,U,rfl⟩:=qG.mp T;obtain⟨pp,rfl,L⟩:=jc rd;have il:=(zK.mp U).1;have Y:=tv.ok p (qz U);exact{rfl,_,rfl,_,rfl,jp,pp,J,p,rfl,rj.same s1,L,Y.1,Y.2,by rw[va];omega,by rw[Z9],s1}
  rintro zs N ⟨rfl,s1⟩;refine{by rw[va];omega,λD hD=>{D,List.replicate l.length true,rfl,u6 (by rw[zc,Z8]),?_}}
  have s2:=s1.trans (zb (o:=.lst (List.replicate l.length (V.bl true))) hD);generalize upd N D (.lst (List.replicate l.length (V.bl true)))=H2 at s2;refine{_,rfl,ifF 1e3 ?_}
  refine{_,rfl,a,rfl,{_,s2.sqT C},zi9 (K:=K) (a:=a) (xs:=l) (λi ks O=>ks=XD [] (((t.pk.take i).map λp=>(p.1:Int)).map Sum.inl:List Key)/\Same H2 O) {rfl,ua _} (λi ks O ⟨_,M⟩=>(s2.trans M).sqT C) ?_ ?_}
  .rintro i x ks O hx ⟨rfl,M⟩
   obtain⟨d,T,rd⟩:=(rx.same (s2.trans M)).get hx;rw[qk] at T;obtain⟨p,U,rfl⟩:=qG.mp T;obtain⟨pp,rfl,L⟩:=jc rd;have il:=(zK.mp U).1;refine{pp,_,rfl,L,rfl,_,_,rfl,_,_,rfl,rfl,rfl,?_}
   have:=WK (((t.pk.take i).map λp=>(p.1:Int)).map Sum.inl:List Key) []
   rw[zm,zm,qv,Xj] at this;refine{_,rfl,Sum.inl (p.1:Int),rfl,(),?_,M}
   rw[zM U,zL,zL];exact(zc5 _ _ _).symm
  rintro ks O ⟨rfl,M⟩;rw[lx,qB];intro D2 a0;have e1:(t.pk.map λp:Nat×Nat=>(p.1:Int)).Nodup:=Wd.mpr ((Wd.mp tv.nd).imp λz y=>z (w8 y))
  have e0:(([]:List Key)++((t.pk.map λp:Nat×Nat=>(p.1:Int)).map Sum.inl:List Key)).Nodup:=Wd.mpr (e1.imp λz y=>z (vK y))
  have el:(XD [] ((t.pk.map λp=>(p.1:Int)).map Sum.inl:List Key)).length=l.length:=by rw[Jm _ [] e0,wx,zm,zm,lx]
  refine{D2,_,rfl,zc,?_}
  have s4:=(s2.trans M).trans (zb (H:=O) (o:=zeP P w D2 (XD [] ((t.pk.map λp=>(p.1:Int)).map Sum.inl:List Key))) a0)
  refine{_,rfl,a,l,rfl,.inr (s4.sqT C),rfl,?_}
  rw[el,qg rfl];exact k _ s4
inductive Yb(K:W.Frag)(l:List V)(H:Hp)(Q:VK):Prop
 | mk (g a b:Addr) (J:Job) (s:List V) (t:zW) (_:l=[.ref g,.ref a,.ref b]) (_:Rep K H (j6 J) (.ref g)) (_:SqT K H a (zr t.ly)) (_:SqT K H b s) (_:Reps K H (t.pk.map jM) s) (_:TripV J t) (_:J.hd<=4) (_:∀c,Same H c->Q (.bl true) c):Yb K l H Q
def zez(K:W.Frag):Sp:=λb H Q _=>Yb K b H Q
theorem ze3:zD ["job","thing","picks"] ["job","thing","picks"] (zu (topL 30)):=u4
theorem zhi{f:Addr}{fd:FuncData}(F:Fun K "are_lays" "are_lays" (topL 30) f fd)(B:Blt I)(l:Dfn P w K I G "is_tuple_of" 1 ["thing","many"] (zbv K))(c:Dfn P w K I G "is_number_within" 2 ["thing","least","most"] (Vv K)):FnOk P w K I G CX0 4 f fd ["job","thing","picks"] (zez K):=by
 have nd:=ze3.nd;refine F.ok ze3 0#d (λae A aa s H vs Q E hr h=>?_)
 .obtain⟨jp,a,b,J,M,t,rfl,_⟩:=h
  rfl
 .obtain⟨jp,a,b,J,M,t,rfl,rj,T,qb,rx,Y,af,k⟩:=h
  obtain⟨g,fs,ps,as,fv,px,qj,qf,lf,qp,lp⟩:=VO rj;have ac:=bG1000000;have lx:=rx.len;rw[zm] at lx;have p2:=Y.p2;have le:=Y.le;have hu:=hr.units0;have ln:(zr t.ly).length=M.length:=by rw[zA];omega
  refine{_,(ze (jb (vp (jH (zf l hr.m rfl (za (pv 1) (za (zt zI rfl B.len boot_len 0#t) zd)))))
   (zi (zy xx))
   zY)
   (ze (jb (vp (jH (zt (x8 rfl) rfl B.all boot_all (za (jE ["job"] [0] rfl rfl (by kernel_rfl) (xO (pv 1)) 0#g (λ_ _ _ _=>(zf c hr.m rfl (za (pv 0) (za zg (za (zO vy (zt (vD (K:=K) rfl) rfl B.len boot_len (za (zJ 0#p (pv 1) zg 0#c) zd)) zg) zd)))))) zd))))
   (zi (zy xx))
   zY)
   (zi (zy (qZ (zg2 hu) (zt XJ rfl B.sorted jt 0#k) (zt jm rfl B.sorted jt (za (vI [] [] rfl rfl (by kernel_rfl) (xO (pv 2)) 0#g 0#m) zd)) (zR _)))))),?_}
  refine{_,rfl,_,rfl,b,M,rfl,.inr qb,a,zr t.ly,by rw[ln];rfl,T,_,rfl,ifF 1e1 ?_}
  refine{_,rfl,a,rfl,{_,T},vz (K:=K) (a:=a) (xs:=zr t.ly) (λi C N=>C=List.replicate i (V.bl true)/\Same H N) {rfl,ua _} (λi C N ⟨_,s1⟩=>s1.sqT T) ?_ ?_}
  .rintro i x C N hx ⟨rfl,s1⟩
   obtain⟨m,em,rfl⟩:=vZ hx;have il:=(zK.mp em).1;have hm:m<J.ps.length:=by
    obtain⟨u,hu,rfl⟩:=zN.mp (Y.ly.mem_iff.mp (qz em));exact(Y.ok u hu).1
   exact{rfl,_,rfl,_,rfl,jp,_,_,_,rfl,rfl,s1.sqT qj,at3,ps,_,rfl,.inr (s1.sqT qp),_,_,rfl,rfl,_,_,_,rfl,Wi _,(),by rw[va];omega,by rw[Z9],s1}
  rintro C N ⟨rfl,s1⟩;refine{by rw[va];omega,λD hD=>{D,List.replicate (zr t.ly).length true,rfl,u6 (by rw[zc,Z8]),?_}}
  have s2:=s1.trans (zb (o:=.lst (List.replicate (zr t.ly).length (V.bl true))) hD);generalize upd N D (.lst (List.replicate (zr t.ly).length (V.bl true)))=H2 at s2;refine{_,rfl,ifF 1e3 ?_}
  rw[VJ] at T;refine{_,rfl,a,nI t.ly,rfl,s2.sqT T,by unfold nI;rw[zm];omega,λp1 ms h1 m1 m2=>?_}
  have U:=s2.trans (zb (H:=H2) (o:=.lst (ms.map V.int)) h1);have P3:=zc (H:=H2) (a:=p1) (o:=.lst (ms.map V.int));generalize upd H2 p1 (.lst (ms.map V.int))=H3 at U P3;refine{_,rfl,b,rfl,{_,U.sqT qb},vz (K:=K) (a:=b) (xs:=M) (λi C O=>C=zr ((t.pk.take i).map (·.1))/\Same H3 O) {rfl,ua _} (λi C O ⟨_,L⟩=>(U.trans L).sqT qb) ?_ ?_}
  .rintro i x C O hx ⟨rfl,L⟩
   obtain⟨d,ed,rd⟩:=(rx.same (U.trans L)).get hx;rw[qk] at ed;obtain⟨p,ep,rfl⟩:=qG.mp ed;obtain⟨pp,rfl,ab⟩:=jc rd;have il:=(zK.mp ep).1;refine{pp,_,rfl,ab,rfl,_,_,rfl,_,_,rfl,rfl,rfl,?_}
   refine{_,rfl,by rw[zA,zm,qv];omega,?_,L}
   rw[zM ep,zL];unfold zr;rw[zL];rfl
  rintro C O ⟨rfl,L⟩;rw[lx,qB,VJ];refine{by unfold nI;rw[zm,zm,zm];omega,λD2 a0=>?_}
  refine{D2,nI (t.pk.map (·.1)),rfl,u6 zc,by unfold nI;rw[zm,zm];omega,λp2 ns h2 n1 n2=>?_}
  have s5:=(L.trans (zb (H:=O) (o:=.lst ((nI (t.pk.map (·.1))).map V.int)) a0)).trans (zb (o:=.lst (ns.map V.int)) h2)
  refine{p1,p2,ms,ns,rfl,rfl,u6 (s5 _ _ P3),u6 zc,?_}
  rw[qg (zgV ((m1.trans (Y.ly.map _)).trans n1.symm) m2 n2)];exact k _ (U.trans s5)
inductive zbN(K:W.Frag)(g:List V)(H:Hp)(Q:VK):Prop
 | mk (c:Addr) (J:Job) (v:V) (t:zW) (_:g=[.ref c,v]) (_:Rep K H (j6 J) (.ref c)) (_:Rep K H (jG t) v) (_:TripV J t) (_:J.hd<=4) (_:∀b,Same H b->Q (.bl true) b):zbN K g H Q
def zig(K:W.Frag):Sp:=λb H Q _=>zbN K b H Q
theorem ziv:zD ["job","thing","picks","lays"] ["job","thing"] (zu (topL 31)):=u4
theorem zjH{f:Addr}{O:FuncData}(F:Fun K "is_trip" "is_trip" (topL 31) f O)(B:Blt I)(g:Dfn P w K I G "is_tuple_of" 1 ["thing","many"] (zbv K))(l:Dfn P w K I G "are_picks" 4 ["job","thing"] (zeC K))(C:Dfn P w K I G "are_lays" 4 ["job","thing","picks"] (zez K)):FnOk P w K I G CX0 5 f O ["job","thing"] (zig K):=by
 have T:=ziv.nd;refine F.ok ziv 0#d (λa0 A N s H vs Q E L h=>?_)
 .obtain⟨M,J,v,t,rfl,_⟩:=h
  rfl
 .obtain⟨M,J,v,t,rfl,rj,rt,tv,D,k⟩:=h
  obtain⟨a,b,c,xs,ys,rfl,U,Y,rb,qc,rc⟩:=xK rt;cases yu rc;refine{_,(ze (jb (vp (jH (zf g L.m rfl (za (pv 1) (za zg zd)))))
   (zi (zy xx))
   zY)
   (ze (jQ (pv 1) (qE rfl (zn (zq (i:=2) T rfl 0#a) (zn (zq (i:=3) T rfl 0#a) z7))))
   (zi (zy (vX (zf l L.m rfl (za (pv 0) 0#t)) (vt (zf C L.m rfl (za (pv 0) (za (pv 3) 0#t))))))))),?_}
  refine{_,rfl,a,_,rfl,U,_,rfl,ifF 1e1 ?_}
  refine{_,rfl,a,_,rfl,U,rfl,_,_,rfl,_,_,rfl,rfl,?_}
  refine{_,rfl,_,rfl,M,b,J,xs,t,rfl,rj,Y,rb,tv,D,λH1 s1=>?_}
  exact{_,rfl,ifT rfl {_,rfl,_,rfl,_,rfl,M,c,b,J,xs,t,rfl,rj.same s1,s1.sqT qc,s1.sqT Y,rb.same s1,tv,D,λH2 s2=>k _ (s1.trans s2)}}
theorem Zr{k:Nat}{l:List Nat}:(k:Int)∈nI l↔k∈l:=by
 unfold nI;rw[zN];exact{λ⟨a,h,e⟩=>by rw[<- w8 e];exact h,λh=>⟨k,h,rfl⟩}
theorem ziN(z:Int)(l:List Nat):inV (.int z) (zr l)=decide (z∈nI l):=by
 induction l with
 | nil=>rfl
 | cons a r b=>
  have e1:inV (.int z) (zr (a::r))=(decide ((a:Int)=z)||inV (.int z) (zr r)):=by
   show(((a:Int)==z)||inV (.int z) (zr r))=_
   rw[show((a:Int)==z)=decide ((a:Int)=z) from rfl]
  rw[e1,b];unfold nI;rw[jz,vm,Wb,xQ,xQ,xQ,qH];exact or_congr_left ⟨Eq.symm,Eq.symm⟩
def UpA(J:Job)(p:Nat)(j:Int):Prop:=∃k,1<=k/\Wk (asI J) k j (p:Int)
def vR(b:List zW):List Nat:=(vM b).map (·.2)
theorem YH{b:List zW}{i:Nat}{t:zW}(h:b[i]? =some t):zE (b.take (i+1))=zE (b.take i)++t.ly:=by rw[zM h,j9]
theorem zc9{b:List zW}{i:Nat}{t:zW}(h:b[i]? =some t):vR (b.take (i+1))=vR (b.take i)++t.pk.map (·.2):=by unfold vR;rw[zM h,vq,zL]
theorem zco{J:Job}:∀{ts:List zW},(∀t∈ts,TripV J t)->J.hd<=4->(zE ts).length<=4*ts.length/\(vR ts).length<=4*ts.length
 | [],_,_=>{zF _,zF _}
 | t::r,h,g=>by
  obtain⟨a,b⟩:=zco (λu hu=>h u (xg _ hu)) g
  have c:=h t qJ;have:=c.p2;have:=c.le;have e1:zE (t::r)=t.ly++zE r:=rfl;have e2:vR (t::r)=t.pk.map (·.2)++vR r:=by unfold vR;rw[<- zL];rfl
  rw[e1,e2,qh,qh,zm,jZ];omega
def rkO(b:List Nat)(i:Int):Nat:=b.idxOf i.toNat
theorem yC{b:List Nat}(l:b.Nodup){k x:Nat}(e:b[k]? =some x):b.idxOf x=k:=by
 obtain⟨h1,h2⟩:=zK.mp e;have c:=zbf (qz e);have g:b[b.idxOf x]'c=x:=List.getElem_idxOf c;exact(Xk l).mp (g.trans h2.symm)
theorem ziB{J:Job}{os:List Nat}(c:os.Nodup)(g:ByOrd os J.as):∀q∈asI J,rkO os q.1<rkO os q.2:=λq hq=>by
 obtain⟨p,hp,rfl⟩:=zN.mp hq;obtain⟨k,l,b,e1,e2⟩:=g p hp;show os.idxOf ((p.1:Int)).toNat<os.idxOf ((p.2:Int)).toNat;rw[vO,vO,yC c e1,yC c e2];exact b
theorem zjc{J:Job}{b:List Nat}(c:JobOk J b):∀q∈asI J,rkO b q.1<rkO b q.2:=ziB (c.op.nodup_iff.mpr yH) c.bo
theorem UpA.of{J:Job}{b:List Nat}(c:JobOk J b){p:Nat}{j:Int}:(j≠(p:Int)/\∃k,Wk (asI J) k j (p:Int))↔UpA J p j:=by
 constructor
 .rintro⟨h,k,w⟩
  refine{k,?_,w}
  cases k with
  | zero=>exact absurd (show j=(p:Int) from w) h
  | succ k=>omega
 .rintro⟨k,h,w⟩
  refine{λe=>?_,k,w}
  have:=w.rank (zjc c);rw[e] at this;omega
theorem PlanOk.up{J:Job}{os:List Nat}{b:List zW}(c:PlanOk J os b){p:Nat}:∀{k:Nat} {j:Int},Wk (asI J) k j (p:Int)->p∈zE b->j∈nI (zE b)
 | 0,j,w,hp=>by
  cases(show j=(p:Int) from w)
  exact Zr.mpr hp
 | k+1,j,⟨m,e,w⟩,hp=>by
  have h:=PlanOk.up c w hp;obtain⟨q,hq,eq⟩:=zN.mp e;cases eq;exact Zr.mpr (c.cl q hq (Zr.mp h))
theorem zac{os l:List Nat}(s:l.Sublist os)(A:os.Nodup){i x y:Nat}(hx:l[i]? =some x)(hy:y∈l)(h:os.idxOf y<os.idxOf x):y∈l.take i:=by
 obtain⟨j,c⟩:=yi.mp hy;by_cases e:j<i
 .exact yi.mpr {j,by rw[Wj,zC e];exact c}
 .exfalso
  obtain⟨N,E⟩:=zK.mp hx;obtain⟨O,g⟩:=zK.mp c;by_cases e2:i=j
  .subst e2
   rw[E] at g;subst g;omega
  .have H:i<j:=()
   have s2:[x,y].Sublist os:=by
    refine List.Sublist.trans ?_ s
    have a1:l=l.take j++l.drop j:=(ZD j l).symm;rw[a1,show [x,y]=[x]++[y] from rfl]
    refine List.Sublist.append (Wt.mpr (yi.mpr {i,by rw[Wj,zC H];exact hx})) (Wt.mpr (yi.mpr {0,by rw[Wm];exact c}))
   obtain⟨a,b,C,D,hb⟩:=List.append_sublist_iff.mp (show([x]++[y]).Sublist os from s2)
   have B:x∈a:=Wt.mp D;have M:y∈b:=Wt.mp hb;rw[C] at A h;obtain⟨Q,T,J⟩:=wf.mp A;have L:y∉a:=λz=>J y z y M rfl
   rw[List.idxOf_append,zw L,List.idxOf_append,zC B] at h;have:=zbf B;omega
theorem zcp{b:List zW}:∀{i j p:Nat} {t:zW},b[i]? =some t->t.ly[j]? =some p->∃m,(zE b)[m]? =some p/\(zE b).take m=zE (b.take i)++t.ly.take j:=λ{i j p t} e1 e2=>by
 have h1:b=b.take i++t::b.drop (i+1):=by
  obtain⟨g,rfl⟩:=zK.mp e1;rw[List.getElem_cons_drop,ZD]
 have h2:zE b=zE (b.take i)++(t.ly++zE (b.drop (i+1))):=by
  rw (config:={occs:=.pos [1]}) [h1];unfold zE;rw[wA,Xl]
 have c:=(zK.mp e2).1;refine{(zE (b.take i)).length+j,?_,?_}
 .rw[h2,Zn (),Nat.add_sub_cancel_left,Zl c]
  exact e2
 .rw[h2,List.take_length_add_append,WB ()]
theorem zkl{b:List zW}{i j:Nat}{t:zW}{p:Nat×Nat}(e1:b[i]? =some t)(e2:t.pk[j]? =some p)(f:Nat):(vR (b.take i)++(t.pk.take (j+1)).map (·.2)).count f<=(vR b).count f:=by
 have h1:b=b.take i++t::b.drop (i+1):=by
  obtain⟨c,rfl⟩:=zK.mp e1;rw[List.getElem_cons_drop,ZD]
 have h2:vR b=vR (b.take i)++(t.pk.map (·.2)++vR (b.drop (i+1))):=by
  rw (config:={occs:=.pos [1]}) [h1];unfold vR vM;rw[wA,Xl,zL,zL]
 rw[h2];have s:((t.pk.take (j+1)).map (·.2)).Sublist 0#r:=(Wg _ _).map _
 rw[yh,yh,yh];have:=s.count_le f;omega
theorem zj7(l:List Nat)(f:Nat):(nI l).count (f:Int)=l.count f:=by
 unfold nI;induction l with
 | nil=>rfl
 | cons x l b=>
  rw[jz,ww,ww,b];by_cases h:x=f
  .simp[h]
  .have:¬(x:Int)=(f:Int):=()
   simp[h,this]
theorem JobOk.ain{J:Job}{c:List Nat}(b:JobOk J c):∀q∈asI J,InN J.ps.length q.1/\InN J.ps.length q.2:=λq hq=>by
 unfold asI at hq;obtain⟨p,hp,rfl⟩:=zN.mp hq;have h1:=xB.mp (b.op.mem_iff.mp (b.bo.mem1 hp));have h2:=xB.mp (b.op.mem_iff.mp (b.bo.mem2 hp));exact{{by show(0:Int)<=(p.1:Int);omega,by show(p.1:Int)<_;omega},{by show(0:Int)<=(p.2:Int);omega,by show(p.2:Int)<_;omega}}
theorem JV(b:List V)(k:Nat):jA b none (some (k:Int))=b.take k:=by
 unfold jA;rw[HT.sIx_none,HT.sIx_nat,List.drop_zero,Nat.sub_zero];by_cases h:k<=b.length
 .rw[Nat.min_eq_left h]
 .rw[Nat.min_eq_right (),qB,QW ()]
theorem wM(a b:List Nat):zr a++zr b=zr (a++b):=by unfold zr;rw[zL]
theorem yZ(a:List Nat)(k:Nat):(zr a).take k=zr (a.take k):=by unfold zr;rw[Xg]
theorem Same.put{m:Addr}{H b:Hp}{o:HO}(s:Same H b)(h:H m=Option.none):Same H (upd b m o):=λc u e=>by
 rw[zp (zj e h)];exact s c u e
structure zmi(J:Job)(ord tk:List Nat)(t:zW):Prop where
 pk:∀(j:Nat) (p:Nat×Nat),t.pk[j]? =some p->∃pa fe,J.ps[p.1]? =some pa/\J.fs[p.2]? =some fe/\fe.k=pa.k/\p.1∉ord/\((tk++(t.pk.take j).map (·.2)).count p.2:Int)<fe.m
 ly:∀(j p:Nat),t.ly[j]? =some p->∀x,UpA J p x->x∈nI (ord++t.ly.take j)
def zmh(J:Job)(b:List zW):Prop:=∀(i:Nat) (t:zW),b[i]? =some t->zmi J (zE (b.take i)) (vR (b.take i)) t
theorem zlN{J:Job}{os:List Nat}{g:List zW}(A:PlanOk J os g)(pm:os.Perm 0#x)(O:ByOrd os J.as):zmh J g:=by
 have H:os.Nodup:=pm.nodup_iff.mpr yH;have L:(zE g).Nodup:=H.sublist A.sub;intro i t C;have B:=A.tr t (qz C);refine{λj p l=>?_,λj p l=>?_}
 .obtain⟨pa,D,h1,h2,Q⟩:=B.ok p (qz l)
  have Y:¬p.1∈zE (g.take i):=λU=>by
   obtain⟨m,E⟩:=yi.mp (B.ly.mem_iff.mpr (zN.mpr {p,qz l,rfl}));obtain⟨q,e1,e2⟩:=zcp C E;have T:p.1∈(zE g).take q:=by rw[e2];exact qw _ U
   obtain⟨r,s⟩:=yi.mp T;rw[Wj] at s;split at s
   .have:=(List.getElem?_inj (zK.mp s).1 L).mp (s.trans e1.symm)
    omega
   .cases s
  have n2:¬D.m<=(((vR (g.take i)++(t.pk.take j).map (·.2)).count p.2:Nat):Int):=by
   obtain⟨st,M⟩:=A.stk;have N:p.2<st.length:=by rw[M.len];exact(zK.mp h2).1
   have a:=M.nn p.2 _ (qK N);have b:=M.cnt p.2 _ D (qK N) h2;have c:=zkl C l p.2;rw[zM l,zL,<- je,yh,show([p].map (·.2)).count p.2=1 from zbd] at c
   have d:(vR g).count p.2=((vM g).map (·.2)).count p.2:=rfl
   omega
  exact{pa,D,h1,h2,Q,Y,()}
 .rintro x ⟨k,h1,w⟩
  obtain⟨q,e1,e2⟩:=zcp C l;have hx:=A.up w (qz e1);obtain⟨y,hy,rfl⟩:=zN.mp hx;have rk:=w.rank (ziB H O);rw[<- e2];refine Zr.mpr (zac A.sub H e1 hy ?_)
  have a:rkO os (y:Int)=os.idxOf y:=by unfold rkO;rw[vO]
  have b:rkO os (p:Int)=os.idxOf p:=by unfold rkO;rw[vO]
  omega
structure PlV(J:Job)(od:List Nat)(ts:List zW):Prop where
 jo:JobOk J od
 tv:∀t∈ts,TripV J t
 tl:ts.length<=70
 nf:zmh J ts
inductive zeI(K:W.Frag)(C:List V)(H:Hp)(Q:VK):Prop
 | mk (g A lo l:Addr) (J:Job) (p:Nat×Nat) (b B:List Nat) (s:xS) (c:xw) (_:C=[.ref g,.ref A,.ref lo,.ref l]) (_:Rep K H (j6 J) (.ref g)) (_:SqT K H A [.int (p.1:Int),.int (p.2:Int)]) (_:J.ps[p.1]? =some s) (_:J.fs[p.2]? =some c) (_:c.k=s.k) (_:p.1∉b) (_:(B.count p.2:Int)<c.m) (_:SqL K H lo (zr b)) (_:H l=some (.lst (zr B))) (_:Q .non H):zeI K C H Q
def zkH(K:W.Frag):Sp:=λb H Q _=>zeI K b H Q
theorem zk5:zD ["job","pick","picked","taken","part","feeder","kind","place","many"] ["job","pick","picked","taken"] (zu (topL 23)):=u4
theorem zlH{f:Addr}{fd:FuncData}(F:Fun K "flaw_at_pick" "flaw_at_pick" (topL 23) f fd)(B:Blt I):FnOk P w K I G CX0 1 f fd ["job","pick","picked","taken"] (zkH K):=by
 have b:=zk5.nd;refine F.ok zk5 0#d (λa0 A L s H vs Q E hr h=>?_)
 .obtain⟨D,pk,lo,lt,J,p,c,tk,pa,fe,rfl,_⟩:=h
  rfl
 .obtain⟨D,pk,lo,lt,J,p,c,tk,pa,fe,rfl,rj,qp,h1,h2,ek,no,ab,ho,ht,k⟩:=h
  obtain⟨g,fs,ps,as,fv,px,qj,_,qf,rf,T,rp,_⟩:=xL rj;obtain⟨aa,l,U⟩:=J5 rf h2;obtain⟨fa,fc,rfl,N,_⟩:=x6 U;obtain⟨ae,C,Y⟩:=J5 rp h1;obtain⟨M,ac,rfl,O,_⟩:=yV Y;refine{_,(ze (jQ (pv 1) (qE rfl (zn (zq (i:=4) b rfl 0#a) (zn (zq (i:=5) b rfl 0#a) z7))))
   (ze (jQ (zJ qC 0#z (pv 5) 0#c) (qE rfl (zn (zq (i:=6) b rfl 0#a) (zn (zq (i:=7) b rfl 0#a) (zn (zq (i:=8) b rfl 0#a) z7)))))
   (ze (jb (zP zcc (pv 6) (zJ qC (zJ qC 0#z (pv 4) 0#c) zg 0#c) (zR _))
   (zi (zy xD))
   zY)
   (ze (jb (zP vU (pv 4) (pv 2) (by with_unfolding_all rfl))
   (zi (zy xD))
   zY)
   (ze (jb (zP zcd (xi j5 Wx Ww Qp (pv 3) (za (pv 5) zd)) (pv 8) (zR _))
   (zi (zy xD))
   zY)
   (zi (zy vv))))))),?_}
  refine{_,rfl,pk,_,rfl,qp,rfl,_,_,rfl,_,_,rfl,rfl,?_}
  refine{_,rfl,D,_,_,_,rfl,rfl,qj,rfl,_,rfl,fs,_,_,_,rfl,rfl,qf,qr l,fa,_,rfl,N,rfl,_,_,rfl,_,_,rfl,_,_,rfl,rfl,?_}
  refine{_,rfl,_,rfl,D,_,_,_,rfl,rfl,qj,rfl,_,rfl,ps,_,_,_,rfl,rfl,T,qr C,M,_,_,_,rfl,rfl,O,rfl,rfl,_,rfl,ifF (by rw[ek];simp) ?_}
  refine{_,rfl,_,rfl,lo,zr c,rfl,.inl ho,rfl,xn _,_,rfl,ifF (by rw[y4];exact jO no) ?_}
  exact{_,rfl,.inl {rfl,_,u6 ht},_,rfl,lt,nI tk,(p.2:Int),rfl,rfl,by rw[ht,VJ],_,rfl,_,_,rfl,rfl,_,rfl,ifF (by rw[zj7];exact jO ()) k}
inductive zeK(K:W.Frag)(l:List V)(H:Hp)(Q:VK):Prop
 | mk (g lo:Addr) (J:Job) (s b:List Nat) (p:Nat) (_:l=[.ref g,.int (p:Int),.ref lo]) (_:Rep K H (j6 J) (.ref g)) (_:JobOk J s) (_:p<J.ps.length) (_:SqL K H lo (zr b)) (_:(∀x,UpA J p x->x∈nI b)) (_:∀c,Same H c->Q .non c):zeK K l H Q
def zkI(K:W.Frag):Sp:=λb H Q _=>zeK K b H Q
theorem zk7:zD ["job","part","order"] ["job","part","order"] (zu (topL 24)):=u4
theorem zlJ{f:Addr}{O:FuncData}(F:Fun K "flaw_at_lay" "flaw_at_lay" (topL 24) f O)(B:Blt I)(b:Dfn P w K I G "ahead_of" 3 ["job","part"] (ZK K)):FnOk P w K I G CX0 4 f O ["job","part","order"] (zkI K):=by
 have nd:=zk7.nd;refine F.ok zk7 0#d (λa0 A M s H vs Q E hr h=>?_)
 .obtain⟨Y,lo,J,od,c,p,rfl,_⟩:=h
  rfl
 .obtain⟨Y,lo,J,od,c,p,rfl,rj,C,hp,ho,al,k⟩:=h
  have T:=bG100000;refine{_,(ze (jb (jH (zt (x8 rfl) rfl B.all boot_all (za (jE ["order"] [2] rfl rfl (by kernel_rfl) (zZ (zf b hr.m rfl (za (pv 0) 0#k))) 0#g 0#v) zd)))
   (zi (zy vv))
   zY)
   (zi (zy xD))),?_}
  refine{_,rfl,_,rfl,(p:Int),Y,J,rfl,rj,C.pl,{(),()},C.ain,C.al,λl ms H1 s1 _ U ml _ mm=>{l,rfl,{_,u6 U},qR (K:=K) (a:=l) (xs:=ms.map V.int) (λi L g=>L=List.replicate i (V.bl true)/\Same H1 g) {rfl,ua _} (λi L g ⟨_,s2⟩=>u6 (s2 _ _ U)) ?_ ?_}}
  .rintro i x L g hx ⟨rfl,s2⟩
   rw[qk] at hx;obtain⟨j,N,rfl⟩:=qG.mp hx;have hi:=(zK.mp N).1;refine{rfl,_,rfl,_,rfl,lo,zr c,rfl,.inl ((s1.trans s2).seq ho),rfl,xn _,by rw[va];omega,?_,s2}
   rw[ziN,qg (al j ((UpA.of C).mp ((mm j).mp (qz N)))),Z9];rfl
  .rintro L g ⟨rfl,s2⟩
   refine{by rw[va,zm];omega,λD hD=>{D,List.replicate (ms.map V.int).length true,rfl,u6 (by rw[zc,Z8]),?_}}
   exact{_,rfl,ifT 1e3 (k _ (s1.trans (s2.trans (zb hD))))}
inductive zeH(K:W.Frag)(B:List V)(H:Hp)(Q:VK):Prop
 | mk (l A lo s:Addr) (J:Job) (C b c:List Nat) (t:zW) (_:B=[.ref l,.ref A,.ref lo,.ref s]) (_:Rep K H (j6 J) (.ref l)) (_:JobOk J C) (_:Rep K H (jG t) (.ref A)) (_:TripV J t) (_:zmi J b c t) (_:H lo=some (.lst (zr b))) (_:H s=some (.lst (zr c))) (_:b.length<=1000) (_:c.length<=1000) (_:∀g,Same H g->Q .non g):zeH K B H Q
def zkG(K:W.Frag):Sp:=λb H Q _=>zeH K b H Q
theorem zk4:zD ["job","trip","order","taken","picks","lays","feeders","at","pick","word","part"] ["job","trip","order","taken"] (zu (topL 25)):=u4
def zcL(s:_)(C:_)(lo:_)(B:_)(b:_)(c:_)(A:_)(l:_):=λ(i:Nat) (σ:St) (g:Hp)=>(Ex3 λ(D E H:Option V)=>An2 (σ=[some (.ref s),some (.ref C),some (.ref lo),some (.ref B),some (.ref b),some (.ref c),some (.ref A),D,E,H,none]) (Same l g):Prop)
def zcK(A:_)(D:_)(lo:_)(C:_)(b:_)(c:_)(B:_)(H:_)(s:_):=λ(i:Nat) (σ:St) (l:Hp)=>(Ex3 λ(E J g:Option V)=>An2 (σ=[some (.ref A),some (.ref D),some (.ref lo),some (.ref C),some (.ref b),some (.ref c),some (.ref B),E,H,J,g]) (Same s l):Prop)
theorem zlG{f:Addr}{fd:FuncData}(F:Fun K "flaw_in_trip" "flaw_in_trip" (topL 25) f fd)(B:Blt I)(g:Dfn P w K I G "flaw_at_pick" 1 ["job","pick","picked","taken"] (zkH K))(C:Dfn P w K I G "flaw_at_lay" 4 ["job","part","order"] (zkI K)):FnOk P w K I G CX0 5 f fd ["job","trip","order","taken"] (zkG K):=by
 have M:=zk4.nd;refine F.ok zk4 0#d (λah A ae s H vs Q E hr h=>?_)
 .obtain⟨jp,tp,lo,lt,J,od,D,tk,t,rfl,_⟩:=h
  rfl
 .obtain⟨jp,tp,lo,lt,J,od,D,tk,t,rfl,rj,jo,rt,tv,nf,ho,ht,ol,tl,k⟩:=h
  have ag:=bG100000;have ai:=jo.hd1;have ak:=tv.p2;have aj:=tv.le;obtain⟨a,b,c,ps,ys,ea,qa,qb,rb,qc,rc⟩:=xK rt;cases ea;cases yu rc;have lb:=rb.len;rw[zm] at lb;refine{_,(ze (jQ (pv 1) (qE rfl (zn (zq (i:=4) M rfl 0#a) (zn (zq (i:=5) M rfl 0#a) z7))))
   (ze (zag [] [] rfl rfl (by kernel_rfl) (xO (pv 4)) 0#g (λ_ _ _ _=>(pv 1)) (zq (i:=6) M rfl 0#a))
   (ze (jh jL rfl (wJ rfl B.enumerate (za (pv 4) zd)) (qE rfl (zn (zq (i:=7) M rfl 0#a) (zn (zq (i:=8) M rfl 0#a) z7)))
   (ze (zG (i:=9) M rfl 0#a (zf g hr.m rfl (za (pv 0) (za (pv 8) (za (pv 2) (za (zO xr (pv 3) (vg yT (pv 6) wS (vf (pv 7)))) zd))))))
    (zi (jb (zP Jd (pv 9) vv (zR _))
    (zi (zy (qL (za (pv 9) (za (pv 7) zd)))))
    zY))))
   (ze (jh jL rfl (wJ rfl B.enumerate (za (pv 5) zd)) (qE rfl (zn (zq (i:=7) M rfl 0#a) (zn (zq (i:=10) M rfl 0#a) z7)))
   (ze (zG (i:=9) M rfl 0#a (zf C hr.m rfl (za (pv 0) (za (pv 10) (za (zO xr (pv 2) (jw ZZ rfl B.list x9 (za (vg zae (pv 5) wS (vf (pv 7))) zd))) zd)))))
    (zi (jb (zP Jd (pv 9) vv (zR _))
    (zi (zy (qL (za (pv 9) (za (zO jk (zt zI rfl B.len boot_len (za (pv 4) zd)) (pv 7)) zd)))))
    zY))))
   (zi (zy vv)))))),?_}
  refine{_,rfl,tp,_,rfl,qa,rfl,_,_,rfl,_,_,rfl,rfl,?_}
  refine{_,rfl,b,rfl,{_,qb},vz (K:=K) (a:=b) (xs:=ps) (λi zs H1=>zs=zr ((t.pk.take i).map (·.2))/\Same H H1) {rfl,ua _} (λi zs H1 ⟨_,s1⟩=>s1.sqT qb) ?_ ?_}
  .rintro i x zs H1 hx ⟨rfl,s1⟩
   obtain⟨d,ed,rd⟩:=(rb.same s1).get hx;rw[qk] at ed;obtain⟨p,L,rfl⟩:=qG.mp ed;obtain⟨pp,rfl,aa⟩:=jc rd;have hi:=(zK.mp L).1;refine{pp,_,rfl,aa,rfl,_,_,rfl,_,_,rfl,rfl,rfl,?_}
   refine{_,rfl,by rw[zA,zm,qv];omega,?_,s1}
   rw[zM L,zL,<- wM];rfl
  rintro zs H1 ⟨rfl,s1⟩;rw[lb,qB];refine{by rw[zA,zm];omega,λlf ac=>?_}
  have s2:=s1.trans (zb (o:=.lst (zr 0#r)) ac)
  have LF:upd H1 lf (.lst (zr 0#r)) lf=some (.lst (zr 0#r)):=zc
  generalize upd H1 lf (.lst (zr 0#r))=H2 at s2 LF
  refine{_,rfl,b,rfl,{_,s2.sqT qb},Qt (K:=K) (a:=b) (xs:=ps) (zcL jp tp lo lt b c lf H2) {_,_,_,rfl,ua _} (λi σ H' _ ⟨_,_,_,_,s3⟩=>s3.sqT (s2.sqT qb)) ?_ ?_}
  .rintro i x σ H3 T hx ⟨v7,v8,v9,rfl,s3⟩ hT
   have sT:=s3.trans (zb (o:=.tup [.int (i:Int),x]) hT);have U:=s2.trans sT;obtain⟨d,ed,rd⟩:=(rb.same U).get hx;rw[qk] at ed;obtain⟨p,L,rfl⟩:=qG.mp ed;obtain⟨pp,rfl,aa⟩:=jc rd;have hi:=(zK.mp L).1;obtain⟨pa,fe,h1,h2,h3,h4,h5⟩:=nf.pk i p L;refine{T,_,rfl,u7 zc,rfl,_,_,rfl,_,_,rfl,rfl,?_}
   generalize upd H3 T (.tup [.int (i:Int),.ref pp])=H4 at *
   refine{_,rfl,_,rfl,_,rfl,_,rfl,_,rfl,_,rfl,_,rfl,lf,_,rfl,u6 (sT _ _ LF),λq hq=>{lt,q,_,_,rfl,rfl,(U.trans (zb hq)) _ _ ht,zc,by rw[JV,yZ,zA,zA,qv,zm];omega,λN a0=>?_}}
   have Y:=(zb (o:=.lst (jA (zr 0#r) none (some (i:Int)))) hq).trans (zb (o:=.lst (zr tk++jA (zr 0#r) none (some (i:Int)))) a0)
   have L5:upd (upd H4 q (.lst (jA (zr 0#r) none (some (i:Int))))) N (.lst (zr tk++jA (zr 0#r) none (some (i:Int)))) N=some (.lst (zr (tk++(t.pk.take i).map (·.2)))):=by rw[zc,JV,yZ,wM,Xg]
   generalize upd (upd H4 q (.lst (jA (zr 0#r) none (some (i:Int))))) N (.lst (zr tk++jA (zr 0#r) none (some (i:Int))))=H5 at Y L5
   have s6:=U.trans Y;exact{jp,pp,lo,N,J,p,D,tk++(t.pk.take i).map (·.2),pa,fe,rfl,rj.same s6,Y.sqT aa,h1,h2,h3,h4,h5,u6 (s6 _ _ ho),L5,_,rfl,rfl,_,rfl,ifF rfl {_,_,_,rfl,sT.trans Y}}
  rintro σ H3 ⟨v7,v8,v9,rfl,s3⟩;have O:=s2.trans s3;refine{_,rfl,c,rfl,{_,O.sqT qc},Qt (K:=K) (a:=c) (xs:=zr t.ly) (zcK jp tp lo lt b c lf v8 H3) {_,_,_,rfl,ua _} (λi σ H' _ ⟨_,_,_,_,U⟩=>U.sqT (O.sqT qc)) ?_ ?_}
  .rintro i x σ H4 T hx ⟨v7,v9,af,rfl,U⟩ hT
   obtain⟨p,L,rfl⟩:=vZ hx;have hi:=(zK.mp L).1;have sT:=U.trans (zb (o:=.tup [.int (i:Int),.int (p:Int)]) hT);have Y:=O.trans sT;have hp:p<J.ps.length:=by
    obtain⟨u,hu,rfl⟩:=zN.mp (tv.ly.mem_iff.mp (qz L));exact(tv.ok u hu).1
   refine{T,_,rfl,u7 zc,rfl,_,_,rfl,_,_,rfl,rfl,?_}
   generalize upd H4 T (.tup [.int (i:Int),.int (p:Int)])=H5 at *
   have ab:¬(HT.sIx (zr t.ly).length 0 none=0/\HT.sIx (zr t.ly).length (zr t.ly).length (some (i:Int))=(zr t.ly).length):=λz=>by
    have z2:=z.2;rw[HT.sIx_nat,zA] at z2;omega
   refine{_,rfl,_,rfl,_,rfl,_,rfl,_,rfl,_,rfl,c,_,rfl,Y.sqT qc,ab,λq hq=>{q,_,rfl,.inr (u7 zc),λl hl=>{lo,l,_,_,rfl,rfl,((Y.trans (zb hq)).trans (zb hl)) _ _ ho,zc,by rw[JV,yZ,zA,zA,qv];omega,λN a0=>?_}}}
   have s6:=((zb (o:=.tup (jA (zr t.ly) none (some (i:Int)))) hq).trans (zb (o:=.lst (jA (zr t.ly) none (some (i:Int)))) hl)).trans (zb (o:=.lst (zr D++jA (zr t.ly) none (some (i:Int)))) a0);have L6:upd (upd (upd H5 q (.tup (jA (zr t.ly) none (some (i:Int))))) l (.lst (jA (zr t.ly) none (some (i:Int))))) N (.lst (zr D++jA (zr t.ly) none (some (i:Int)))) N=some (.lst (zr (D++t.ly.take i))):=by rw[zc,JV,yZ,wM]
   generalize upd (upd (upd H5 q (.tup (jA (zr t.ly) none (some (i:Int))))) l (.lst (jA (zr t.ly) none (some (i:Int))))) N (.lst (zr D++jA (zr t.ly) none (some (i:Int))))=H6 at s6 L6;have s7:=Y.trans s6;exact{jp,N,J,od,D++t.ly.take i,p,rfl,rj.same s7,jo,hp,u6 L6,nf.ly i p L,λH7 s8=>{_,rfl,rfl,_,rfl,ifF rfl {_,_,_,rfl,(sT.trans s6).trans s8}}}
  rintro σ H4 ⟨v7,v9,af,rfl,U⟩;exact k _ (O.trans U)
inductive zeJ(K:W.Frag)(s:List V)(H:Hp)(Q:VK):Prop
 | mk (c g:Addr) (J:Job) (B:List Nat) (l:List zW) (A:List V) (_:s=[.ref c,.ref g]) (_:Rep K H (j6 J) (.ref c)) (_:SqL K H g A) (_:Reps K H (l.map jG) A) (_:PlV J B l) (_:∀b,Same H b->Q .non b):zeJ K s H Q
def zi6(K:W.Frag):Sp:=λb H Q _=>zeJ K b H Q
theorem zk6:zD ["job","plan","order","taken","number","trip","flaw","word","place","picks","lays"] ["job","plan"] (zu (topL 26)):=u4
theorem zlI{f:Addr}{fd:FuncData}(F:Fun K "flaw_of" "flaw_of" (topL 26) f fd)(B:Blt I)(g:Dfn P w K I G "flaw_in_trip" 5 ["job","trip","order","taken"] (zkG K)):FnOk P w K I G CX0 6 f fd ["job","plan"] (zi6 K):=by
 have L:=zk6.nd;refine F.ok zk6 0#d (λao A aj s H vs Q E hr h=>?_)
 .obtain⟨jp,pl,J,od,C,xs,rfl,_⟩:=h
  rfl
 .obtain⟨jp,pl,J,od,C,xs,rfl,rj,hp,rl,U,k⟩:=h
  have an:=bG100000;have tl:=U.tl;have ll:=rl.len;rw[zm] at ll;have le:∀i,(zE (C.take i)).length<=280/\(vR (C.take i)).length<=280:=λi=>by
   have:=zco (ts:=C.take i) (λt ht=>U.tv t (QI ht)) U.jo.hd1
   rw[qv] at this;omega
  refine{_,(ze (zG (i:=2) L rfl 0#a (z9 zd))
   (ze (zG (i:=3) L rfl 0#a (z9 zd))
   (ze (jh jL rfl (VC rfl B.enumerate 0#k) (qE rfl (zn (zq (i:=4) L rfl 0#a) (zn (zq (i:=5) L rfl 0#a) z7)))
   (ze (zG (i:=6) L rfl 0#a (zf g hr.m rfl (za (pv 0) (za (pv 5) (za (pv 2) (za (pv 3) zd))))))
    (ze (jb (zP Jd (pv 6) vv (zR _))
    (ze (jQ (pv 6) (qE rfl (zn (zq (i:=7) L rfl 0#a) (zn (zq (i:=8) L rfl 0#a) z7))))
     (zi (zy (qL (za (pv 7) (za (pv 4) (za (pv 8) zd)))))))
    zY)
    (ze (jQ (pv 5) (qE rfl (zn (zq (i:=9) L rfl 0#a) (zn (zq (i:=10) L rfl 0#a) z7))))
    (ze (ji (xi j5 Xw Xv Qo (pv 3) (za (vI [] [] rfl rfl (by kernel_rfl) (xO (pv 9)) 0#g (λ_ _ _ _=>(pv 1))) zd)))
    (zi (ji (xi j5 Xw Xv zch (pv 2) (za (pv 10) zd)))))))))
   (zi (zy vv))))),?_}
  refine{le0,λlo N=>{le0,λl D=>?_}}
  have af:lo≠l:=zj (zc (H:=H) (a:=lo) (o:=.lst [])) D;have s0:=(zb (o:=.lst []) N).trans (zb (o:=.lst []) D);have a0:H l=none:=(zb (o:=.lst []) N).none D;have LO:upd (upd H lo 0#o) l 0#o lo=some 0#o:=(zb (o:=.lst []) D) _ _ zc;have LT:upd (upd H lo 0#o) l 0#o l=some 0#o:=zc;generalize upd (upd H lo 0#o) l 0#o=H1 at s0 LO LT;refine{_,rfl,pl,rfl,{_,s0.seq hp},JQ (K:=K) (a:=pl) (xs:=xs) (λi σ H'=>Ex7 λ(v4 v5 v6 v7 v8 v9 Y:Option V)=>An4 (σ=[some (.ref jp),some (.ref pl),some (.ref lo),some (.ref l),v4,v5,v6,v7,v8,v9,Y]) (Same H H') (H' lo=some (.lst (zr (zE (C.take i))))) (H' l=some (.lst (zr (vR (C.take i)))))) {_,_,_,_,_,_,_,rfl,s0,LO,LT} (λi σ H' _ ⟨_,_,_,_,_,_,_,_,s1,_,_⟩=>s1.seq hp) ?_ ?_}
  .rintro i x σ H2 T hx ⟨v4,v5,v6,v7,v8,v9,Y,rfl,s1,lo1,ac⟩ hT
   have sT:=zb (H:=H2) (o:=.tup [.int (i:Int),x]) hT;have s2:=s1.trans sT;obtain⟨d,ed,rd⟩:=(rl.same s2).get hx;rw[qk] at ed;obtain⟨t,et,rfl⟩:=qG.mp ed;obtain⟨a,b,c,ps,ys,rfl,qa,qb,rb,qc,rc⟩:=xK rd;have tv:=U.tv t (qz et);have hi:=(zK.mp et).1;refine{T,_,rfl,u7 zc,rfl,_,_,rfl,_,_,rfl,rfl,?_}
   have aa:=sT _ _ lo1;have O:=sT _ _ ac;generalize upd H2 T (.tup [.int (i:Int),.ref a])=H3 at *
   refine{_,rfl,_,rfl,_,rfl,_,rfl,jp,a,lo,l,J,od,_,_,t,rfl,rj.same s2,U.jo,rd,tv,U.nf i t et,aa,O,by have:=(le i).1;omega,by have:=(le i).2;omega,λH4 M=>?_}
   have s5:=s2.trans M;refine{_,rfl,rfl,_,rfl,ifF rfl ?_}
   have lb:=rb.len;rw[zm] at lb;have ar:=tv.p2;have ap:=U.jo.hd1;have aq:=tv.le;have l1:=le i;cases yu rc;refine{_,rfl,a,_,rfl,M.sqT qa,rfl,_,_,rfl,_,_,rfl,rfl,?_}
   refine{_,rfl,.inl {rfl,_,u6 (M _ _ O)},_,rfl,b,rfl,{_,M.sqT qb},vz (K:=K) (a:=b) (xs:=ps) (λj zs H5=>zs=zr ((t.pk.take j).map (·.2))/\Same H4 H5) {rfl,ua _} (λj zs H5 ⟨_,s6⟩=>s6.sqT (M.sqT qb)) ?_ ?_}
   .rintro j y zs H5 hy ⟨rfl,s6⟩
    obtain⟨d2,e2,r2⟩:=(rb.same (M.trans s6)).get hy;rw[qk] at e2;obtain⟨p,ep,rfl⟩:=qG.mp e2;obtain⟨pp,rfl,am⟩:=jc r2;have hj:=(zK.mp ep).1;refine{pp,_,rfl,am,rfl,_,_,rfl,_,_,rfl,rfl,rfl,?_}
    refine{_,rfl,by rw[zA,zm,qv];omega,?_,s6}
    rw[zM ep,zL,<- wM];rfl
   rintro zs H5 ⟨rfl,s6⟩;rw[lb,qB];refine{by rw[zA,zm];omega,λlf ag=>?_}
   have s7:=s6.trans (zb (o:=.lst (zr 0#r)) ag)
   have ah:=(M.trans s7) _ _ aa;have ae:=(M.trans s7) _ _ O;have LF:upd H5 lf (.lst (zr 0#r)) lf=some (.lst (zr 0#r)):=zc
   have s8:=s5.trans s7;have ak:=(M.trans s7).sqT qc;generalize upd H5 lf (.lst (zr 0#r))=H6 at *
   refine{l,lf,_,_,rfl,rfl,ae,LF,by rw[zA,zA,zm];omega,?_}
   have s9:=s8.put (o:=.lst (zr (vR (C.take i))++zr 0#r)) a0
   have ab:upd H6 l (.lst (zr (vR (C.take i))++zr 0#r)) lo=_:=(zp af).trans ah
   have ai:upd H6 l (.lst (zr (vR (C.take i))++zr 0#r)) l=some (.lst (zr (vR (C.take (i+1))))):=by rw[zc,wM,zc9 et]
   have al:=ak.keep (ud (ys:=zr (vR (C.take i))++zr 0#r) ae)
   generalize upd H6 l (.lst (zr (vR (C.take i))++zr 0#r))=H7 at *
   refine{_,rfl,.inl {rfl,_,u6 ab},_,rfl,lo,c,_,_,rfl,rfl,ab,al,by rw[zA,zA];omega,?_}
   refine{_,_,_,_,_,_,_,rfl,s9.put N,?_,?_}
   .rw[zc,wM,YH et]
   .rw[zp af.symm];exact ai
  rintro σ H2 ⟨v4,v5,v6,v7,v8,v9,Y,rfl,s1,lo1,ac⟩;exact k _ s1
inductive zeD(K:W.Frag)(s:List V)(H:Hp)(Q:VK):Prop
 | mk (c g:Addr) (J:Job) (B:List Nat) (l:List zW) (A:List V) (_:s=[.ref c,.ref g]) (_:Rep K H (j6 J) (.ref c)) (_:SqL K H g A) (_:Reps K H (l.map jG) A) (_:PlV J B l) (_:∀b,Same H b->Q (.bl true) b):zeD K s H Q
def zkF(K:W.Frag):Sp:=λb H Q _=>zeD K b H Q
theorem zk3:zD ["job","thing"] ["job","thing"] (zu (topL 34)):=u4
theorem zlF{f:Addr}{fd:FuncData}(F:Fun K "is_right" "is_right" (topL 34) f fd)(B:Blt I)(c:Dfn P w K I G "is_trip" 5 ["job","thing"] (zig K))(b:Dfn P w K I G "flaw_of" 6 ["job","plan"] (zi6 K)):FnOk P w K I G CX0 7 f fd ["job","thing"] (zkF K):=by
 have nd:=zk3.nd;refine F.ok zk3 0#d (λaa A O s H vs Q E hr h=>?_)
 .obtain⟨N,l,J,od,ts,g,rfl,_⟩:=h
  rfl
 .obtain⟨N,l,J,od,ts,g,rfl,rj,hp,T,L,k⟩:=h
  have a0:=bG100000;have tl:=L.tl;have ll:=T.len;rw[zm] at ll;refine{_,(ze (jb (PW.pt (QP (vp (jH (zt xG rfl B.isinstance boot_isinstance (za (pv 1) (za (vh (v:=.ty "list") rfl B.list x9 rfl) zd))))) (yr (vp (jH (zt (x8 rfl) rfl B.all boot_all (za (jE ["job"] [0] rfl rfl (by kernel_rfl) (zZ (pv 1)) 0#g (λ_ _ _ _=>(zf c hr.m rfl (za (pv 1) 0#y)))) zd)))))))
   (zi (zy xx))
   zY)
   (zi (zy (qZ zal (zf b hr.m rfl (za (pv 0) 0#k)) vv (zR _))))),?_}
  refine{_,rfl,.ref l, "list", "list",rfl,.inl ⟨rfl,g,hp⟩,1e1,_,rfl,ifF rfl ?_}
  refine{_,rfl,l,rfl,{_,hp},qR (K:=K) (a:=l) (xs:=g) (λi M C=>M=List.replicate i (V.bl true)/\Same H C) {rfl,ua _} (λi M C ⟨_,s1⟩=>s1.seq hp) ?_ ?_}
  .rintro i x M C hx ⟨rfl,s1⟩
   obtain⟨d,U,rd⟩:=(T.same s1).get hx;rw[qk] at U;obtain⟨t,Y,rfl⟩:=qG.mp U;have hi:=(zK.mp Y).1;exact{rfl,_,rfl,_,rfl,N,J,x,t,rfl,rj.same s1,rd,L.tv t (qz Y),L.jo.hd1,λH2 s2=>{by rw[va];omega,by rw[Z9],s1.trans s2}}
  .rintro M C ⟨rfl,s1⟩
   refine{by rw[va];omega,λD hD=>{D,List.replicate g.length true,rfl,u6 (by rw[zc,Z8]),_,rfl,ifF 1e3 ?_}}
   have s2:=s1.trans (zb (o:=.lst (List.replicate g.length (V.bl true))) hD);exact{_,rfl,_,rfl,N,l,J,od,ts,g,rfl,rj.same s2,s2.seq hp,T.same s2,L,λH2 s3=>{rfl,k _ (s2.trans s3)}}
def atK(fs:List xw)(b:Str)(n:Nat):List Nat:=(List.range n).filter λi=>decide (fs[i]?.map xw.k=some b)
theorem J6(fs:List xw)(b:Str)(n:Nat):(atK fs b n).length<=n:=jN (jq _ _) (by rw[wg];exact zF _)
theorem zhW{fs:List xw}{b:Str}{n:Nat}{f:xw}(h:fs[n]? =some f)(e:f.k=b):atK fs b (n+1)=atK fs b n++[n]:=by
 unfold atK;rw[Xi,xI,QY (by rw[h];exact qg (by show some f.k=_;rw[e]))]
 rfl
theorem zhX{fs:List xw}{b:Str}{n:Nat}{f:xw}(h:fs[n]? =some f)(e:f.k≠b):atK fs b (n+1)=atK fs b n:=by
 unfold atK;rw[Xi,xI,QX (by rw[h];simpa using e),Xh,qA]
inductive zbP(K:W.Frag)(s:List V)(H:Hp)(Q:VK):Prop
 | mk (c:Addr) (J:Job) (g:Str) (_:s=[.ref c,.str g]) (_:Rep K H (j6 J) (.ref c)) (_:J.fs.length<=100) (_:∀(l:Addr) b,H l=none->Same H b->b l=some (.lst (zr (atK J.fs g J.fs.length)))->Q (.ref l) b):zbP K s H Q
def zeE(K:W.Frag):Sp:=λb H Q _=>zbP K b H Q
theorem zix:zD ["job","kind"] ["job","kind"] (zu (topL 13)):=u4
theorem zjK{f:Addr}{U:FuncData}(F:Fun K "feeders_for" "feeders_for" (topL 13) f U)(B:Blt I):FnOk P w K I G CX0 1 f U ["job","kind"] (zeE K):=by
 have nd:=zix.nd;refine F.ok zix 0#d (λaa A N s H vs Q E hr h=>?_)
 .obtain⟨jp,J,L,rfl,_⟩:=h
  rfl
 .obtain⟨jp,J,L,rfl,rj,fl,k⟩:=h
  have a0:=bG100000;obtain⟨g,fs,ps,as,fv,ab,qj,_,qf,rf,qp,rp,_⟩:=xL rj;have lf:=rf.len;rw[zm] at lf;refine{_,(zi (zy (vI ["kind"] [1] rfl rfl (by kernel_rfl) (wJ rfl B.enumerate (za 0#z zd)) (λ_ _ _ _=>(xh (zP xW (zJ 0#p (pv 1) zg 0#c) (pv 2) (zR _)))) 0#m))),?_}
  refine{_,rfl,jp,_,_,_,rfl,rfl,qj,rfl,fs,rfl,{_,qf},JF (K:=K) (a:=fs) (xs:=fv) (λi M D=>M=zr (atK J.fs L i)/\Same H D) {rfl,ua _} (λi M D ⟨_,C⟩=>C.sqT qf) ?_ ?_}
  .rintro i x M D T hx ⟨rfl,C⟩ Y
   obtain⟨d,e1,r1⟩:=(rf.same C).get hx;rw[qk] at e1;obtain⟨fe,b,rfl⟩:=qG.mp e1;have hi:=(zK.mp b).1;have sT:=C.trans (zb (o:=.tup [.int (i:Int),x]) Y);obtain⟨fa,fc,rfl,O,_⟩:=x6 (r1.same (zb (o:=.tup [.int (i:Int),x]) Y));have le:=J6 J.fs L i;refine{T,_,rfl,u7 zc,rfl,_,_,rfl,_,_,rfl,rfl,rfl,?_}
   refine{_,rfl,fa,_,_,_,rfl,rfl,O,rfl,_,rfl,rfl,_,rfl,j7 (λc=>{_,rfl,?_,?_,sT}) (λc=>{?_,sT})}
   .rw[zA];omega
   .rw[zhW b (V.str.inj (qP c)),xX]
   .rw[zhX b λz=>c (qg (by rw[z]))]
  .rintro M D ⟨rfl,C⟩
   rw[lf];have le:=J6 J.fs L J.fs.length;exact{by rw[zA];omega,λl hl=>k l _ (C.none hl) (C.trans (zb hl)) zc}
end
def upF(g:Nat->Int)(f:Nat)(v:Int):Nat->Int:=λk=>if k=f then v else g k
def jU(n:Nat)(g:Nat->Int):List V:=(List.range n).map λk=>V.int (g k)
theorem jT(n:Nat)(g:Nat->Int):(jU n g).length=n:=by unfold jU;rw[zm,wg]
theorem vd{n f:Nat}{g:Nat->Int}(h:f<n):(jU n g)[f]? =some (.int (g f)):=by
 unfold jU;rw[qk,List.getElem?_range h]
 rfl
theorem ze7{n f:Nat}{g:Nat->Int}{v:Int}(h:f<n):(jU n g).set f (.int v)=jU n (upF g f v):=by
 refine List.ext_getElem? λi=>?_
 rw[zaU];by_cases b:i<n
 .rw[vd b,jT]
  unfold upF;by_cases e:f=i
  .subst e
   rw[zC rfl,zC h,vd h,zC rfl]
  .rw[zw e,vd b,zw (qD e)]
 .have e1:(jU n (upF g f v))[i]? =none:=Xt (by rw[jT];omega)
  have e2:(jU n g)[i]? =none:=Xt (by rw[jT];omega)
  rw[e1,e2,zw (show ¬f=i by omega)]
theorem Vz{n f:Nat}{g:Nat->Int}(h:f<n):atI (jU n g) (f:Int)=some (.int (g f)):=by
 exact qr (vd h)
def s1(s:(Nat->Int)×List (Nat×Nat))(p:Nat×Nat):(Nat->Int)×List 0#e:=if 0<s.1 p.2 then(upF s.1 p.2 (s.1 p.2-1),s.2++[p]) else s
def P1(st:Nat->Int)(b:List (Nat×Nat)):(Nat->Int)×List 0#e:=b.foldl s1 (st,[])
theorem WE(st:Nat->Int)(b:List (Nat×Nat))(p:Nat×Nat):P1 st (b++[p])=s1 (P1 st b) p:=by unfold P1;rw[zaT];rfl
def zhD(J:Job)(p:Nat):Str:=((J.ps[p]?).map xS.k).getD ""
def rdy(J:Job)(p:Nat)(b:Nat->Int):List Nat:=(atK J.fs (zhD J p) J.fs.length).filter λk=>decide (0<b k)
def s2(J:Job)(s:(Nat->Int)×List (Nat×Option Nat))(p:Nat×Nat):(Nat->Int)×List 0#F:=
 if p.1∈s.2.map (·.1) then s else match rdy J p.1 s.1 with
  | []=>(s.1,s.2++[(p.1,none)])
  | k::_=>(upF s.1 k (s.1 k-1),s.2++[(p.1,some k)])
def som(l:List (Nat×Nat)):List 0#F:=l.map λq=>(q.1,some q.2)
def P2(J:Job)(st:Nat->Int)(all b:List 0#e):(Nat->Int)×List 0#F:=b.foldl (s2 J) ((P1 st all).1,som (P1 st all).2)
theorem Ji(J:Job)(st:Nat->Int)(all b:List 0#e)(p:Nat×Nat):P2 J st all (b++[p])=s2 J (P2 J st all b) p:=by unfold P2;rw[zaT];rfl
def Cnt1(st:Nat->Int)(s:(Nat->Int)×List (Nat×Nat)):Prop:=∀k,(((s.2.map (·.2)).count k:Nat):Int)+s.1 k=st k
def Cnt2(st:Nat->Int)(s:(Nat->Int)×List (Nat×Option Nat)):Prop:=∀k,(((s.2.map (·.2)).count (some k):Nat):Int)+s.1 k=st k
theorem Cnt1.step{st:Nat->Int}{s:(Nat->Int)×List (Nat×Nat)}(h:Cnt1 st s)(p:Nat×Nat):Cnt1 st (s1 s p):=by
 unfold s1;split
 .intro k
  have hk:=h k;show((((s.2++[p]).map (·.2)).count k:Nat):Int)+upF s.1 p.2 (s.1 p.2-1) k=st k
  rw[zL,yh];unfold upF;by_cases e:k=p.2
  .subst e
   rw[zC rfl,show([p].map (·.2)).count p.2=1 by simp]
   omega
  .rw[zw e,show([p].map (·.2)).count k=0 by
    rw[jz,wZ];exact zaY.mpr (by simpa using e)]
   omega
 .exact h
theorem zbj(st:Nat->Int)(b:List (Nat×Nat)):Cnt1 st (P1 st b):=by
 unfold P1;have:∀(b:List 0#e) s,Cnt1 st s->Cnt1 st (b.foldl s1 s):=by
  intro b;induction b with
  | nil=>intro s h;exact h
  | cons p r c=>intro s h;exact c _ (h.step p)
 exact this b _ λk=>by show((0:Nat):Int)+st k=st k;omega
theorem WD(st:Nat->Int)(b:List (Nat×Nat)):(P1 st b).2.Sublist b:=by
 unfold P1;have:∀(b:List 0#e) s (q:List 0#e),s.2.Sublist q->(b.foldl s1 s).2.Sublist (q++b):=by
  intro b;induction b with
  | nil=>intro s q h;rw[qA];exact h
  | cons p r c=>
   intro s q h;rw[show q++p::r=(q++[p])++r by simp]
   refine c (s1 s p) (q++[p]) ?_
   unfold s1;split
   .exact h.append (ZB _)
   .exact h.trans (zbb _ _)
 exact this b (st,[]) [] (ZB _)
theorem Js(l:List (Nat×Nat)):(som l).map (·.1)=l.map (·.1):=by
 unfold som;rw[xc];rfl
theorem zgI(l:List (Nat×Nat))(k:Nat):((som l).map (·.2)).count (some k)=(l.map (·.2)).count k:=by
 induction l with
 | nil=>rfl
 | cons a r b=>
  show((some a.2)::(som r).map (·.2)).count (some k)=(a.2::r.map (·.2)).count k
  rw[ww,ww,b];by_cases e:a.2=k
  .rw[e];simp
  .simp[e]
theorem zb0{J:Job}{p k:Nat}{b:Nat->Int}(h:k∈rdy J p b):k<J.fs.length/\0<b k:=by
 obtain⟨h1,h2⟩:=qI.mp h;obtain⟨c,_⟩:=qI.mp h1;exact{xB.mp c,qP h2}
theorem Cnt2.step{J:Job}{st:Nat->Int}{s:(Nat->Int)×List (Nat×Option Nat)}(h:Cnt2 st s)(p:Nat×Nat):Cnt2 st (s2 J s p):=by
 unfold s2;split
 .exact h
 .split
  .intro k
   have hk:=h k;show((((s.2++[(p.1,none)]).map (λq:Nat×Option Nat=>q.2)).count (some k):Nat):Int)+s.1 k=st k
   rw[zL,yh,show(([(p.1,none)]:List 0#F).map λq=>q.2).count (some k)=0 from rfl]
   omega
  .rename_i f r e
   intro k;have hk:=h k;show((((s.2++[(p.1,some f)]).map (λq:Nat×Option Nat=>q.2)).count (some k):Nat):Int)+upF s.1 f (s.1 f-1) k=st k
   rw[zL,yh];unfold upF;by_cases e:k=f
   .subst e
    rw[zC rfl,show(([(p.1,some k)]:List 0#F).map λq=>q.2).count (some k)=1 by simp]
    omega
   .rw[zw e,show(([(p.1,some f)]:List 0#F).map λq=>q.2).count (some k)=0 by
     rw[jz,wZ];exact zaY.mpr (by simpa using e)]
    omega
theorem zgz(J:Job)(st:Nat->Int)(all b:List 0#e):Cnt2 st (P2 J st all b):=by
 unfold P2;have:∀(b:List 0#e) s,Cnt2 st s->Cnt2 st (b.foldl (s2 J) s):=by
  intro b;induction b with
  | nil=>intro s h;exact h
  | cons p r c=>intro s h;exact c _ (h.step p)
 refine this b _ λk=>?_
 show((((som (P1 st all).2).map (·.2)).count (some k):Nat):Int)+(P1 st all).1 k=st k
 rw[zgI];exact zbj st all k
structure Ky2(st:Nat->Int)(all ps:List 0#e)(s:(Nat->Int)×List 0#F):Prop where
 nd:(s.2.map (·.1)).Nodup
 al:∀p∈ps,p.1∈s.2.map (·.1)
 sub:∀x∈s.2.map (·.1),x∈all.map (·.1)
 non:∀q∈s.2,q.2=none->q.1∈ps.map (·.1)
 len:s.2.length<=all.length
theorem Qm{l m:List Nat}(h:l.Nodup)(hs:∀x∈l,x∈m):l.length<=m.length:=h.length_le_of_subset hs
theorem Ky2.step{J:Job}{st:Nat->Int}{all B:List 0#e}{s:(Nat->Int)×List 0#F}(h:Ky2 st all B s){p:Nat×Nat}(hp:p∈all):Ky2 st all (B++[p]) (s2 J s p):=by
 have A:∀{v:Option Nat} (q:Nat×Option Nat),q∈s.2++[(p.1,v)]->q∈s.2\/q.1=p.1:=λq hq=>by
  rcases zV.mp hq with h1 | h1
  .exact .inl h1
  .rw[qm.mp h1];exact .inr rfl
 have c:∀(g:Nat->Int) (v:Option Nat),p.1∉s.2.map (·.1)->Ky2 st all (B++[p]) (g,s.2++[(p.1,v)]):=λg v l=>by
  have C:((s.2++[(p.1,v)]).map (·.1)).Nodup:=by
   rw[zL];refine wf.mpr {h.nd,1e3,λa D b hb=>?_}
   rw[jz,wZ,qm] at hb;intro e;exact l (by rw[<- hb,<- e];exact D)
  have sub:∀x∈(s.2++[(p.1,v)]).map (·.1),x∈all.map (·.1):=λx hx=>by
   rw[zL] at hx;rcases zV.mp hx with h1 | h1
   .exact h.sub x h1
   .rw[jz,wZ,qm] at h1
    rw[h1];exact zN.mpr ⟨p,hp,rfl⟩
  refine{C,λq hq=>?_,sub,λq hq e=>?_,?_}
  .rw[zL]
   rcases zV.mp hq with h1 | h1
   .exact qw _ (h.al q h1)
   .rw[qm.mp h1]
    exact qW _ (qm.mpr rfl)
  .rw[zL]
   rcases A q hq with h1 | h1
   .exact qw _ (h.non q h1 e)
   .exact qW _ (by rw[h1];exact qm.mpr rfl)
  .have:=Qm C sub
   rw[zm,zm] at this;exact this
 unfold s2;split
 .rename_i w
  refine{h.nd,λq hq=>?_,h.sub,λq hq e=>?_,h.len}
  .rcases zV.mp hq with h1 | h1
   .exact h.al q h1
   .rw[qm.mp h1];exact w
  .rw[zL]
   exact qw _ (h.non q hq e)
 .rename_i l
  split
  .exact c _ _ l
  .exact c _ _ l
theorem zh4{st:Nat->Int}{all:List (Nat×Nat)}(h:(all.map (·.1)).Nodup):Ky2 st all [] ((P1 st all).1,som (P1 st all).2):=by
 have hs:=WD st all;refine{?_,(λp hp=>nomatch hp),λx hx=>?_,λq hq e=>?_,?_}
 .show((som (P1 st all).2).map (·.1)).Nodup
  rw[Js];exact(hs.map (·.1)).nodup h
 .have b:x∈(som (P1 st all).2).map (·.1):=hx
  rw[Js] at b;exact(hs.map (·.1)).subset b
 .obtain⟨u,_,rfl⟩:=zN.mp (show q∈som (P1 st all).2 from hq)
  cases e
 .show(som (P1 st all).2).length<=_
  unfold som;rw[zm];exact hs.length_le
theorem WC{J:Job}{st:Nat->Int}{all:List (Nat×Nat)}(h:(all.map (·.1)).Nodup):∀{i:Nat},i<=all.length->Ky2 st all (all.take i) (P2 J st all (all.take i))
 | 0,_=>zh4 h
 | i+1,g=>by
  have c:=WC (J:=J) (st:=st) h (i:=i) ()
  obtain⟨p,b⟩:∃p,all[i]? =some p:={all[i]'(),qK ()}
  rw[zM b,Ji];exact c.step (qz b)
def oI(o:Option Nat):Option Int:=o.map λk:Nat=>(k:Int)
def dkO(b:List (Nat×Option Nat)):List (Key×V):=b.map λq=>(Sum.inl (q.1:Int),Zb (oI q.2))
def lkF(b:List (Nat×Option Nat))(p:Nat):Option (Option Nat):=(b.find? λq=>decide (q.1=p)).map (·.2)
theorem y6(p:Nat):∀b:List (Nat×Option Nat),jP (dkO b) (Sum.inl (p:Int))=(lkF b p).map λo=>Zb (oI o)
 | []=>rfl
 | q::r=>by
  by_cases e:q.1=p
  .rw[show lkF (q::r) p=some q.2 by unfold lkF;rw[Ze,qg e];rfl]
   exact jX (p:=(Sum.inl (q.1:Int),Zb (oI q.2))) (by rw[e])
  .rw[show lkF (q::r) p=lkF r p by unfold lkF;rw[Ze,jO e],<- y6 p r]
   exact jY (p:=(Sum.inl (q.1:Int),Zb (oI q.2))) (λz=>e (by
    have c:=vK z;exact w8 c))
theorem yz{b:List (Nat×Option Nat)}{p:Nat}:lkF b p=none↔p∉b.map (·.1):=by
 unfold lkF;rw[Option.map_eq_none_iff,zaZ];constructor
 .intro h c
  obtain⟨q,hq,e⟩:=zN.mp c;exact h q hq (qg e)
 .intro h q hq e
  exact h (zN.mpr {q,hq,qP e})
theorem ZU{b:List (Nat×Option Nat)}{p:Nat}{o:Option Nat}(h:lkF b p=some o):(p,o)∈b:=by
 unfold lkF at h;obtain⟨q,e,rfl⟩:=qG.mp h;have h1:=List.find?_some e
 have h2:=zgj e;have:q.1=p:=qP h1;rw[<- this];exact h2
theorem zav{b:List (Nat×Option Nat)}(g:(b.map (·.1)).Nodup){p:Nat}{o:Option Nat}(h:(p,o)∈b):lkF b p=some o:=by
 induction b with
 | nil=>cases h
 | cons q r l=>
  rw[jz,Zx] at g;rcases qH.mp h with e | h
  .subst e
   unfold lkF;rw[Ze,qg rfl];rfl
  .have c:¬q.1=p:=λe=>g.1 (zN.mpr {(p,o),h,e.symm})
   rw[show lkF (q::r) p=lkF r p by unfold lkF;rw[Ze,jO c]]
   exact l g.2 h
theorem zhM{b:List (Nat×Option Nat)}{p:Nat}{o:Option Nat}(h:p∉b.map (·.1)):xU (dkO b) (Sum.inl (p:Int)) (Zb (oI o))=dkO (b++[(p,o)]):=by
 rw[Ju _ (by rw[y6,yz.mpr h];rfl)]
 unfold dkO;rw[zL];rfl
def xN(b:List (Nat×Option Nat)):List Nat:=(b.filter λq=>decide (q.2=none)).map (·.1)
theorem zc4(b:List (Nat×Option Nat))(p:Nat)(o:Option Nat):xN (b++[(p,o)])=xN b++(match o with | some k=>[] | none=>[p]):=by
 unfold xN;rw[xI,zL];cases o<;>rfl
theorem Vb{b:List (Nat×Option Nat)}{p:Nat}:p∈xN b↔(p,none)∈b:=by
 unfold xN;rw[zN];constructor
 .rintro⟨q,hq,rfl⟩
  obtain⟨h1,h2⟩:=qI.mp hq;have:q.2=none:=qP h2;rw[<- this];exact h1
 .intro h
  exact{(p,none),qI.mpr {h,qg rfl},rfl}
open Classical in
noncomputable def VF (b:List (Int×Int)) (c:List Nat) (p:Nat):Bool:=decide (∃j∈c,∃k,Wk b k (j:Int) (p:Int))
open Classical in
theorem yt{b:List (Int×Int)}{c:List Nat}{p:Nat}:VF b c p=true↔∃j∈c,∃k,Wk b k (j:Int) (p:Int):=by
 unfold VF;exact xQ
def fdN(b:List (Nat×Option Nat))(p:Nat):Nat:=((lkF b p).getD none).getD 0
noncomputable def xY (c:List 0#F) (b:Nat->Bool) (t:zW):zW:={(t.pk.filter λp=>!b p.1).map λp=>(p.1,fdN c p.1),t.ly.filter λp=>!b p}
noncomputable def jB (b:List 0#F) (c:Nat->Bool) (g:List zW):List zW:=(g.map (xY b c)).filter λt=>!t.pk.isEmpty
def zo(b:List zW):List 0#e:=b.flatMap (·.pk)
def srt(l:List Int):List Int:=l.mergeSort λa b=>decide (a<=b)
theorem Jp(l:List Int):(srt l).Perm l:=List.mergeSort_perm _ _
theorem zi4(l:List Int):(srt l).Pairwise (·<= ·):=by
 have:=List.pairwise_mergeSort (le:=λa b:Int=>decide (a<=b)) (λa b c h1 h2=>qg (Int.le_trans (qP h1) (qP h2))) (λa b=>by
  rcases Int.le_total a b with h | h
  .rw[qg h];rfl
  .rw[qg h,V7]) l
 exact this.imp λh=>qP h
theorem ZP{a b:List Int}(h:a.Perm b)(c:a.Pairwise (·<= ·))(hb:b.Pairwise (·<= ·)):a=b:=by
 induction a generalizing b with
 | nil=>exact(List.Perm.nil_eq h)
 | cons x a g=>
  cases b with
  | nil=>exact absurd h.length_eq 1e3
  | cons y b=>
   rw[Xn] at c hb;have l:x=y:=by
    have h1:y∈x::a:=h.mem_iff.mpr qJ;have h2:x∈y::b:=h.mem_iff.mp qJ;rcases qH.mp h1 with z | z
    .exact z.symm
    .rcases qH.mp h2 with u | u
     .exact u
     .have:=c.1 y z
      have:=hb.1 x u;omega
   subst l;rw[g (List.Perm.cons_inv h) c.2 hb.2]
theorem zef{b l:List Int}(h:b.Perm l)(hp:b.Pairwise (·<= ·)):b=srt l:=ZP (h.trans (Jp l).symm) hp (zi4 l)
noncomputable def Q5 (b:List 0#F) (c:Nat->Bool) (g:List 0#e):List Nat:=(g.filter λp=>!c p.1&&decide (fdN b p.1≠p.2)).map (·.1)
noncomputable def XH (b:Nat->Bool) (c:List 0#e):List Nat:=(c.map (·.1)).filter b
end L2
namespace L2
open PySem PySem.Spec PyProof.Rows
theorem wY(b:List zW)(t:zW):zo (b++[t])=zo b++t.pk:=by
 unfold zo;rw[wA];simp
theorem J8(b:List zW)(i:Nat):(zo (b.take i)).length<=(zo b).length:=by
 have e:zo b=zo (b.take i)++zo (b.drop i):=by
  unfold zo;rw[<- wA,ZD]
 rw[e,qh];omega
section
variable{P:Program}{w:World}{K:W.Frag}{G:Str->Option Value}{C:Heap}
inductive zep(K:W.Frag)(g:List V)(H:Hp)(Q:VK):Prop
 | mk (l:Addr) (s:List V) (c:List zW) (_:g=[.ref l]) (_:SqL K H l s) (_:Reps K H (c.map jG) s) (_:(zo c).length<=60) (_:∀(p:Addr) (A:List V) b,Same H b->H p=none->b p=some (.lst A)->Reps K b ((zo c).map jM) A->Q (.ref p) b):zep K g H Q
def zde(K:W.Frag):Sp:=λb H Q _=>zep K b H Q
theorem zkV:zD ["plan"] ["plan"] (zu (topL 15)):=u4
theorem zly{f:Addr}{fd:FuncData}(F:Fun K "picks_in" "picks_in" (topL 15) f fd)(B:Blt G):FnOk P w K G C CX0 1 f fd ["plan"] (zde K):=by
 have nd:=zkV.nd;refine F.ok zkV 0#d (λaa A U s H vs Q E hr h=>?_)
 .obtain⟨l,T,N,rfl,_⟩:=h
  rfl
 .obtain⟨l,T,N,rfl,hl,rl,al,k⟩:=h
  have a0:=bG1000000;have ll:=rl.len;rw[zm] at ll;refine{_,(zi (zy (zca [] [] rfl rfl (by kernel_rfl) (zZ (pv 0)) 0#g (λ_ _ _ _=>(Jc (K:=K) rfl (pv 0))) 0#g (λ_ _ _ _=>(pv 2))))),?_}
  refine{_,rfl,l,rfl,{_,hl},JG (K:=K) (a:=l) (xs:=T) (λi M I=>Reps K I ((zo (N.take i)).map jM) M/\Same H I) {rfl,ua _} (λi M I ⟨_,D⟩=>D.seq hl) ?_ ?_}
  .rintro i x M I hx ⟨J,D⟩
   obtain⟨d,e1,r1⟩:=(rl.same D).get hx;rw[qk] at e1;obtain⟨t,et,rfl⟩:=qG.mp e1;obtain⟨a,b,c,ps,ys,rfl,qa,qb,rb,qc,rc⟩:=xK r1;have lb:=rb.len;rw[zm] at lb;have Y:=J.len;rw[zm] at Y;have le1:=J8 N (i+1);rw[zM et,wY,qh] at le1;refine{a,_,rfl,qa,rfl,_,_,rfl,_,_,rfl,rfl,rfl,?_}
   refine{_,rfl,b,rfl,{_,qb},zaB (K:=K) (a:=b) (xs:=ps) (λj O L=>Reps K L ((zo (N.take i)++t.pk.take j).map jM) O/\Same I L) {by simpa using J,ua _} (λj O L ⟨_,s2⟩=>s2.sqT qb) ?_ ?_}
   .rintro j y O L hy ⟨g,s2⟩
    obtain⟨d2,e2,r2⟩:=(rb.same s2).get hy;rw[qk] at e2;obtain⟨p,ep,rfl⟩:=qG.mp e2;have hj:=(zK.mp ep).1;have wl:=g.len;rw[zm,qh,qv] at wl;refine{⟨rfl,rfl,trivial⟩,?_}
    refine{_,rfl,(),?_,s2}
    rw[zM ep,<- je,zL (l₂:=[p])];exact g.snoc r2
   .rintro O L ⟨g,s2⟩
    refine{?_,D.trans s2}
    rw[lb,qB] at g;rw[zM et,wY];exact g
  rintro M I ⟨J,D⟩;rw[ll,qB] at J;have Y:=J.len;rw[zm] at Y;exact{(),λp hp=>k p M _ (D.trans (zb hp)) (D.free hp) zc (J.same (zb hp))}
def kpN(l:List (Nat×Nat)):List (Key×V):=l.map λq=>(Sum.inl (q.1:Int),V.int (q.2:Int))
inductive zej(K:W.Frag)(s:List V)(H:Hp)(Q:VK):Prop
 | mk (l c:Addr) (A:List V) (g:List zW) (n:Nat) (st:Nat->Int) (_:s=[.ref l,.ref c]) (_:SqL K H l A) (_:Reps K H (g.map jG) A) (_:(zo g).length<=60) (_:SqL K H c (jU n st)) (_:n<=100) (_:(∀p∈zo g,p.2<n)) (_:∀(p:Addr) (B:List V) b,Same H b->H p=none->b p=some (.lst B)->PrsL b B (kpN (P1 st (zo g)).2)->Q (.ref p) b):zej K s H Q
def zkw(K:W.Frag):Sp:=λb H Q _=>zej K b H Q
theorem zkR:zD ["plan","stock","taken","stay","part","feeder"] ["plan","stock"] (zu (topL 16)):=u4
def zc3(l:_)(c:_)(s:_)(g:_)(H:_)(D:_)(E:_)(L:_)(n:_)(st:_)(A:_):=λ(i:Nat) (σ:St) (b:Hp)=>(Ex3 λ(I J:Option V) (B:List V)=>An7 (σ=[some (.ref l),some (.ref c),some (.ref s),some (.ref g),I,J]) (Same H b) (SameT D b) (b E=some (.lst L)) (b s=some (.lst (jU n λk=>st k-(P1 st ((zo A).take i)).1 k))) (b g=some (.lst B)) (PrsL b B (kpN (P1 st ((zo A).take i)).2)):Prop)
theorem zlu{f:Addr}{fd:FuncData}(F:Fun K "staying_picks" "staying_picks" (topL 16) f fd)(B:Blt G)(D:Dfn P w K G C "picks_in" 1 ["plan"] (zde K)):FnOk P w K G C CX0 2 f fd ["plan","stock"] (zkw K):=by
 have nd:=zkR.nd;refine F.ok zkR 0#d (λar A an s H vs Q E hr h=>?_)
 .obtain⟨l,c,xs,b,n,st,rfl,_⟩:=h
  rfl
 .obtain⟨l,c,xs,b,n,st,rfl,hl,rl,al,hc,n1,fn,k⟩:=h
  have aq:=bG1000000;refine{_,(ze (wR [] [] rfl rfl (by kernel_rfl) (zZ (pv 1)) 0#g (λ_ _ _ _=>zg) (zq (i:=2) nd rfl 0#a))
   (ze (zG (i:=3) nd rfl 0#a (z9 zd))
   (ze (jh jL rfl (zZ (zf D hr.m rfl 0#y)) (qE rfl (zn (zq (i:=4) nd rfl 0#a) (zn (zq (i:=5) nd rfl 0#a) z7)))
   (zi (jb (zP Yq (zJ qO (pv 2) (pv 5) 0#c) (zJ qO (pv 1) (pv 5) 0#c) (zR _))
    (ze (zgP (pv 2) (pv 5) zf0 zg zfV yo)
     (zi (ji (xi j5 vQ vP jr (pv 3) (za (qL (za (pv 4) (za (pv 5) zd))) zd)))))
    zY)))
   (zi (zy (pv 3)))))),?_}
  refine{_,rfl,c,rfl,{_,hc},qR (K:=K) (a:=c) (xs:=jU n st) (λi L H1=>L=jU i (λ_=>0)/\Same H H1) {rfl,ua _} (λi L H1 ⟨_,sm⟩=>sm.seq hc) ?_ ?_}
  .rintro i x L H1 hx ⟨rfl,sm⟩
   have il:=(zK.mp hx).1;rw[jT] at il;refine{rfl,by rw[jT];omega,?_,sm}
   unfold jU;rw[Xi,zL];rfl
  rintro L H1 ⟨e1,sm⟩;rw[jT n st] at e1;subst e1;refine{by rw[jT];omega,λg ac=>{le0,λM O=>?_}}
  have aa:g≠M:=zj zc O;have ap:H g=none:=sm.free ac;have ag:H M=none:=sm.free (by rw[<- O,zp (qD aa)])
  have T2:upd (upd H1 g (.lst (jU n λ_=>0))) M 0#o g=some (.lst (jU n λ_=>0)):=(zb O) _ _ zc
  have Y2:upd (upd H1 g (.lst (jU n λ_=>0))) M 0#o M=some 0#o:=zc
  have s2:=(sm.trans (zb (o:=.lst (jU n λ_=>0)) ac)).trans (zb (o:=.lst []) O)
  generalize upd (upd H1 g (.lst (jU n λ_=>0))) M 0#o=H2 at *
  refine{_,rfl,l,xs,b,rfl,s2.seq hl,rl.same s2,al,λpl ys H3 s3 ae ab rp=>?_}
  have am:pl≠g:=qD (zj T2 ae);have ak:pl≠M:=qD (zj Y2 ae);have lp:=rp.len;rw[zm] at lp;refine{pl,rfl,{_,u6 ab},xF (K:=K) (a:=pl) (xs:=ys) (zc3 l c g M H H3 pl ys n st b) {_,_,[],rfl,s2.trans s3,SameT.refl _,ab,?_,s3 _ _ Y2,PrsL.nil} (λi σ Y _ ⟨_,_,_,_,_,_,h,_,_,_⟩=>u6 h) ?_ ?_}
  .rw[s3 _ _ T2]
   have e0:(λk=>st k-(P1 st ((zo b).take 0)).1 k)=λ_=>0:=funext λk=>by
    show st k-st k=0;omega
   rw[e0]
  .rintro i x σ Y hx ⟨v4,v5,L,rfl,s4,T4,a0,I,U,J⟩
   obtain⟨d,e1,r1⟩:=(rp.keep T4 (qN _)).get hx;rw[qk] at e1;obtain⟨p,ep,rfl⟩:=qG.mp e1;obtain⟨pa,rfl,qp⟩:=jc r1;have il:=(zK.mp ep).1;have pf:=fn p (qz ep);have ah:=s4.seq hc;have es:P1 st ((zo b).take (i+1))=s1 (P1 st ((zo b).take i)) p:=by rw[zM ep,WE]
   have zl:L.length<=60:=by
    have h1:=J.1;have h2:=(WD st ((zo b).take i)).length_le;rw[qv] at h2;unfold kpN at h1;rw[zm] at h1;omega
   refine{pa,_,rfl,qp,rfl,_,_,rfl,_,_,rfl,rfl,?_}
   refine{_,rfl,_,rfl,g,_,_,_,rfl,rfl,u6 I,Vz pf,_,rfl,_,rfl,c,_,_,_,rfl,rfl,ah,Vz pf,_,_,rfl,rfl,_,rfl,j7 (λcc=>?_) (λcc=>?_)}
   .have c':0<(P1 st ((zo b).take i)).1 p.2:=by have:=qP cc;omega
    refine{_,rfl,_,rfl,g,_,p.2,_,rfl,rfl,u6 I,vd pf,_,_,rfl,rfl,g,_,_,p.2,rfl,rfl,I,by rw[jT];exact VP pf,?_}
    rw[ze7 pf];have eg:upF (λk=>st k-(P1 st ((zo b).take i)).1 k) p.2 (st p.2-(P1 st ((zo b).take i)).1 p.2+1)=λk=>st k-(P1 st ((zo b).take (i+1))).1 k:=funext λk=>by
     rw[es,s1,zC c'];unfold upF;show(if k=p.2 then _ else _)=st k-(if k=p.2 then _ else _)
     by_cases e:k=p.2
     .rw[zC e,zC e,e];omega
     .rw[zw e,zw e]
    rw[eg];have s5:=s4.put (o:=.lst 0#q) ap
    have T5:=T4.trans (ud (ys:=jU n λk=>st k-(P1 st ((zo b).take (i+1))).1 k) I)
    have ai:upd Y g (.lst 0#q) pl=some (.lst ys):=by rw[zp am];exact a0
    have aj:upd Y g (.lst 0#q) g=some (.lst 0#q):=zc
    have N:upd Y g (.lst 0#q) M=some (.lst L):=by rw[zp (qD aa)];exact U
    have ao:PrsL (upd Y g (.lst 0#q)) L (kpN (P1 st ((zo b).take i)).2):={J.1,λj x e=>by
     obtain⟨T,kk,v,h1,h2,h3⟩:=J.2 j x e;exact{T,kk,v,h1,by rw[zp (λz=>by rw[z,I] at h2;cases h2)];exact h2,h3}}
    generalize upd Y g (.lst 0#q)=H5 at *
    refine{_,rfl,.inl {rfl,_,u6 N},_,rfl,_,rfl,le2,λq hq=>?_}
    have s6:=zb (H:=H5) (o:=.tup [.int p.1,.int p.2]) hq;have as:q≠M:=qD (zj N hq);refine{M,L,.ref q,rfl,rfl,s6 _ _ N,(),_,_,L++[.ref q],rfl,(s5.trans s6).put ag,(T5.trans (SameT.of s6)).trans (ud (s6 _ _ N)),?_,?_,zc,?_}
    .rw[zp ak];exact s6 _ _ ai
    .rw[zp aa];exact s6 _ _ aj
    .rw[es,s1,zC c',show kpN ((P1 st ((zo b).take i)).2++[p])=kpN (P1 st ((zo b).take i)).2++[(Sum.inl (p.1:Int),V.int (p.2:Int))] by unfold kpN;rw[zL];rfl]
     have af:=(ao.same s6).snoc (T:=q) (k:=Sum.inl (p.1:Int)) (v:=V.int (p.2:Int)) zc;exact{af.1,λj x e=>by
      obtain⟨T,kk,v,h1,h2,h3⟩:=af.2 j x e;exact{T,kk,v,h1,by rw[zp (λz=>by rw[z,s6 _ _ N] at h2;cases h2)];exact h2,h3}}
   .have c':¬0<(P1 st ((zo b).take i)).1 p.2:=λz=>cc (qg ())
    refine{_,_,L,rfl,s4,T4,a0,?_,U,?_}
    .rw[I,es,s1,zw c']
    .rw[es,s1,zw c'];exact J
  .rintro σ Y ⟨v4,v5,L,rfl,s4,T4,a0,I,U,J⟩
   rw[lp,qB] at J;exact{_,rfl,k M L Y s4 ag U J}
theorem JE:∀(c b:List (Key×V)),((b++c).map (·.1)).Nodup->xE b c=b++c
 | [],b,_=>by rw[qA];rfl
 | q::r,b,h=>by
  have e:b++q::r=(b++[q])++r:=1e3
  have A:q.1∉b.map (·.1):=by
   rw[zL,jz] at h;obtain⟨_,_,l⟩:=wf.mp h;exactλs=>l _ s _ qJ rfl
  have hv:jP b q.1=none:=by
   unfold jP;rw[Option.map_eq_none_iff,zaZ];intro x hx g;exact A (zN.mpr {x,hx,qP g})
  show xE (xU b q.1 q.2) r=_;rw[Ju _ hv,e];exact JE r (b++[q]) (by rw[<- e];exact h)
theorem zhy(l:List (Nat×Nat)):kpN l=dkO (som l):=by
 unfold kpN dkO som;rw[xc];rfl
theorem zdD{l:List (Nat×Nat)}(h:(l.map (·.1)).Nodup):((kpN l).map (·.1)).Nodup:=by
 unfold kpN;rw[xc];have:(l.map ((λp:Key×V=>p.1)∘λq:Nat×Nat=>(Sum.inl (q.1:Int),V.int (q.2:Int))))=(l.map (·.1)).map λk:Nat=>(Sum.inl (k:Int):Key):=by rw[xc];rfl
 rw[this];exact List.Pairwise.map _ (λa b z y=>z (w8 (vK y))) h
theorem zf9(l:List (Option Nat))(k:Nat):(l.map oI).count (some (k:Int))=l.count (some k):=by
 induction l with
 | nil=>rfl
 | cons a r b=>
  rw[jz,ww,ww,b];cases a with
  | none=>rfl
  | some j=>
   have e:(oI (some j)==some (k:Int))=(some j==some k):=by
    rw[vm,xH,xH];constructor
    .intro h
     have:=jC (show some (j:Int)=some (k:Int) from h)
     rw[w8 this]
    .intro h
     rw[jC h];rfl
   rw[e]
theorem zhC{J:Job}{p:Nat}{b:xS}(h:J.ps[p]? =some b):zhD J p=b.k:=by unfold zhD;rw[h];rfl
theorem xZ{α:Type}(f:α->Bool){l:List α}{i:Nat}{x:α}(h:l[i]? =some x):(l.take (i+1)).filter f=(l.take i).filter f++(if f x=true then [x] else []):=by
 rw[zM h,xI];cases b:f x
 .rw[QX (by rw[b];exact qS)];rfl
 .rw[QY b];rfl
theorem zkb(fs:List xw)(b:Str)(n:Nat):(atK fs b n).Pairwise (·< ·):=List.Pairwise.filter _ za8
theorem zjd(J:Job)(p:Nat)(b:Nat->Int):(rdy J p b).Pairwise (·< ·):=List.Pairwise.filter _ (zkb _ _ _)
structure Brk(J:Job)(ts:List zW):Prop where
 al:(zo ts).length<=60
 nd:((zo ts).map (·.1)).Nodup
 ok:∀p∈zo ts,p.1<J.ps.length/\p.2<J.fs.length
 fl:J.fs.length<=60
def qY(J:Job)(st:Nat->Int)(b:List zW):List 0#F:=(P2 J st (zo b) (zo b)).2
inductive zeq(K:W.Frag)(A:List V)(H:Hp)(Q:VK):Prop
 | mk (s l c:Addr) (J:Job) (B:List V) (g:List zW) (st:Nat->Int) (_:A=[.ref s,.ref l,.ref c]) (_:Rep K H (j6 J) (.ref s)) (_:SqL K H l B) (_:Reps K H (g.map jG) B) (_:Brk J g) (_:SqL K H c (jU J.fs.length st)) (_:∀(p:Addr) (o:Obj) b,Same H b->H p=none->b p=some (.frz o (.dK (dkO (qY J st g))))->Q (.ref p) b):zeq K A H Q
def zkz(K:W.Frag):Sp:=λb H Q _=>zeq K b H Q
theorem zkW:zD ["job","plan","stock","feeders","part","feeder","taken","ready"] ["job","plan","stock"] (zu (topL 17)):=u4
def zc2(A:_)(l:_)(c:_)(d:_)(H:_)(s:_)(B:_)(M:_)(J:_)(st:_)(g:_):=λ(i:Nat) (σ:St) (b:Hp)=>(Ex4 λ(D E I L:Option V)=>An5 (σ=[some (.ref A),some (.ref l),some (.ref c),some (.ref d),D,E,I,L]) (Same H b) (SameT s b) (b B=some (.lst M)) (b d=some (.dK (dkO (P2 J st (zo g) ((zo g).take i)).2))):Prop)
theorem zlz{f:Addr}{fd:FuncData}(F:Fun K "new_feeders" "new_feeders" (topL 17) f fd)(B:Blt G)(N:Dfn P w K G C "picks_in" 1 ["plan"] (zde K))(D:Dfn P w K G C "staying_picks" 2 ["plan","stock"] (zkw K))(M:Dfn P w K G C "feeders_for" 1 ["job","kind"] (zeE K)):FnOk P w K G C CX0 3 f fd ["job","plan","stock"] (zkz K):=by
 have nd:=zkW.nd;refine F.ok zkW 0#d (λbf A ay s H vs Q E hr h=>?_)
 .obtain⟨jp,l,c,J,xs,L,st,rfl,_⟩:=h
  rfl
 .obtain⟨jp,l,c,J,xs,L,st,rfl,rj,hl,rl,bk,hc,k⟩:=h
  have be:=bG1000000;have am:=hr.units;have ak:=JN hr;have al:=bk.al;have fl:=bk.fl;refine{_,(ze (zG (i:=3) nd rfl 0#a (jw (zaF hr.hd) rfl B.dict zdV (za (zf D hr.m rfl (za (pv 1) 0#t)) zd)))
   (ze (jh jL rfl (zZ (zf N hr.m rfl 0#k)) (qE rfl (zn (zq (i:=4) nd rfl 0#a) (zn (zq (i:=5) nd rfl 0#a) z7)))
   (zi (jb (zfc (X8 ak (pv 4) (pv 3)))
    (ze (zG (i:=6) nd rfl (Or.inr rfl) (jw (zaE hr.hd) rfl B.list x9 (za (zfs PySem.F.slot_dict_values PySem.F.type_dict_values zdv (pv 3)) zd)))
     (ze (wR ["stock","taken"] [2,6] rfl rfl (by kernel_rfl) (zZ (zf M hr.m rfl (za (pv 0) (za (zJ qC (zJ qC 0#z (pv 4) 0#c) zg 0#c) zd)))) (λ_ _ _ _=>(xh (zP Yq (zaj (K:=K) rfl j5 Wx Ww zdy (pv 2) 0#y) (zJ (ZV (K:=K) rfl) (pv 1) (pv 0) 0#c) (zR _)))) 0#m (zq (i:=7) nd rfl 0#a))
     (zi (zb8 ak (pv 3) (pv 4) (Jx (JY rfl am) rfl B.min JZ (za (pv 7) zd) vv) rfl))))
    zY)))
   (zi (zy (zjs (pv 3)))))),?_}
  refine{_,rfl,_,rfl,l,c,xs,L,_,st,rfl,hl,rl,al,hc,(),λp hp=>(bk.ok p hp).2,λsy zs H1 aa bi aj pr=>?_}
  refine{sy,zs,_,rfl,aj,pr,λd hd=>?_}
  have aw:(((P1 st (zo L)).2).map (·.1)).Nodup:=((WD st (zo L)).map (·.1)).nodup bk.nd
  have d0:H d=none:=aa.free hd;have D2:upd H1 d (.dK (xE [] (kpN (P1 st (zo L)).2))) d=some (.dK (dkO (som (P1 st (zo L)).2))):=by rw[zc,JE _ [] (by rw[wx];exact zdD aw),wx,zhy]
  have ab:=aa.trans (zb (H:=H1) (o:=.dK (xE [] (kpN (P1 st (zo L)).2))) hd);generalize upd H1 d (.dK (xE [] (kpN (P1 st (zo L)).2)))=H2 at *
  clear aj pr aa;refine{_,rfl,l,xs,L,rfl,ab.seq hl,rl.same ab,al,λpl ys H3 s3 az ah rp=>?_}
  have ax:pl≠d:=qD (zj D2 az);have lp:=rp.len;rw[zm] at lp;refine{pl,rfl,{_,u6 ah},xF (K:=K) (a:=pl) (xs:=ys) (zc2 jp l c d H H3 pl ys J st L) {_,_,_,_,rfl,ab.trans s3,SameT.refl _,ah,s3 _ _ D2} (λi σ H4 _ ⟨_,_,_,_,_,_,_,h,_⟩=>u6 h) ?_ ?_}
  .rintro i x σ H4 hx ⟨v4,v5,v6,v7,rfl,s4,T4,a0,I⟩
   obtain⟨dd,e1,r1⟩:=(rp.keep T4 (qN _)).get hx;rw[qk] at e1;obtain⟨p,ep,rfl⟩:=qG.mp e1;obtain⟨pa,rfl,qp⟩:=jc r1;have il:=(zK.mp ep).1;obtain⟨p1,p2⟩:=bk.ok p (qz ep);have es:P2 J st (zo L) ((zo L).take (i+1))=s2 J (P2 J st (zo L) ((zo L).take i)) p:=by rw[zM ep,Ji]
   have ky:=WC (J:=J) (st:=st) bk.nd (i:=i) ()
   have cn:=zgz J st (zo L) ((zo L).take i);generalize P2 J st (zo L) ((zo L).take i)=S at es ky cn I;refine{pa,_,rfl,qp,rfl,_,_,rfl,_,_,rfl,rfl,?_}
   refine{_,rfl,_,rfl,d,_,rfl,DGet.k (k:=Sum.inl (p.1:Int)) I,_,rfl,j7 (λcc=>?_) (λcc=>?_)}
   .rw[y6] at cc
    have hn:p.1∉S.2.map (·.1):=by
     refine yz.mp ?_
     cases ar:lkF S.2 p.1 with
     | none=>rfl
     | some o=>rw[ar] at cc;cases cc
    refine{_,rfl,d,rfl,.inl {_,.inl I},d,_,rfl,rfl,.inl I,λpv ai=>{pv,d,_,rfl,zc,.inl ((zb ai) _ _ I),λtl av=>?_}}
    have ev:(dkO S.2).map (·.2)=(S.2.map λq=>oI q.2).map Zb:=by
     unfold dkO;rw[xc,xc];rfl
    have s6:=(zb (H:=H4) (o:=Jk pv d) ai).trans (zb (o:=.lst ((dkO S.2).map (·.2))) av)
    have L6:upd (upd H4 pv (Jk pv d)) tl (.lst ((dkO S.2).map (·.2))) tl=some (.lst ((S.2.map λq=>oI q.2).map Zb)):=by rw[zc,ev]
    generalize upd (upd H4 pv (Jk pv d)) tl (.lst ((dkO S.2).map (·.2)))=H6 at *
    have an:=s4.trans s6;obtain⟨g,fs,ps,as,fv,px,qj,_,qf,rf,ba,bb,_⟩:=xL (rj.same an);obtain⟨T,ac⟩:∃T,J.ps[p.1]? =some T:={J.ps[p.1],qK p1};obtain⟨v,ap,bc⟩:=J5 bb ac;obtain⟨a1,c1,rfl,b0,_⟩:=yV bc;refine{_,rfl,_,rfl,jp,_,_,_,rfl,rfl,qj,qr (j:=3) rfl,_,rfl,ps,_,_,_,rfl,rfl,ba,qr ap,a1,_,_,_,rfl,rfl,b0,qr (j:=0) rfl,jp,J,T.k,rfl,rj.same an,(),λfl H7 bh s7 ae=>?_}
    have ao:=s6.trans s7;have bd:=s4.trans ao;have L7:=s7 _ _ L6;have c7:=bd.seq hc;have lf:(zr (atK J.fs T.k J.fs.length)).length=(atK J.fs T.k J.fs.length).length:=zA _;have la:=J6 J.fs T.k J.fs.length;refine{fl,rfl,{_,u6 ae},qR (K:=K) (a:=fl) (xs:=zr (atK J.fs T.k J.fs.length)) (λi zs Y=>zs=zr (((atK J.fs T.k J.fs.length).take i).filter λk=>decide (0<S.1 k))/\Same H7 Y) {rfl,ua _} (λi zs Y ⟨_,U⟩=>u6 (U _ _ ae)) ?_ ?_}
    .rintro j x zs Y hx ⟨rfl,U⟩
     obtain⟨kk,ek,rfl⟩:=vZ hx;have jl:=(zK.mp ek).1;have kl:kk<J.fs.length:=xB.mp (qI.mp (qz ek)).1;have bg:=cn kk;have ec:((S.2.map λq=>oI q.2).count (some (kk:Int)))=(S.2.map (·.2)).count (some kk):=by
      have:(S.2.map λq=>oI q.2)=(S.2.map (·.2)).map oI:=by rw[xc];rfl
      rw[this];exact zf9 _ _
     refine{rfl,_,rfl,.inl {rfl,_,u6 (U _ _ L7)},_,rfl,tl,_,_,rfl,rfl,U _ _ L7,_,rfl,_,rfl,c,_,_,_,rfl,rfl,U.seq c7,Vz kl,_,_,rfl,rfl,_,rfl,j7 (λc2=>?_) (λc2=>?_)}
     .have c3:0<S.1 kk:=by
       have:=qP c2;rw[ec] at this;omega
      refine{_,rfl,?_,?_,U}
      .rw[zA]
       exact yM (jq _ _) (by rw[qv];omega)
      .rw[xZ _ ek,qg c3,zC rfl,xX]
     .have c3:¬0<S.1 kk:=λz=>c2 (qg (by rw[ec];omega))
      refine{?_,U}
      rw[xZ _ ek,jO c3,zw qS,qA]
    rintro zs Y ⟨e8,U⟩;rw[lf,qB,show(atK J.fs T.k J.fs.length).filter (λk=>decide (0<S.1 k))=rdy J p.1 S.1 by unfold rdy;rw[zhC ac]] at e8
    subst e8;have lr:(rdy J p.1 S.1).length<=J.fs.length:=by
     unfold rdy;exact jN (jq _ _) (J6 _ _ _)
    refine{by rw[zA];omega,λrd au=>?_}
    have s9:=U.trans (zb (H:=Y) (o:=.lst (zr (rdy J p.1 S.1))) au);have R9:upd Y rd (.lst (zr (rdy J p.1 S.1))) rd=some (.lst (zr (rdy J p.1 S.1))):=zc;generalize upd Y rd (.lst (zr (rdy J p.1 S.1)))=H9 at *
    have O:=ao.trans s9;have fin:∀o:Option Nat,(P2 J st (zo L) ((zo L).take (i+1))).2=S.2++[(p.1,o)]->Ex4 λ(v4 v5 v6 v7:Option V)=>An5 ([some (V.ref jp),some (.ref l),some (.ref c),some (.ref d),some (V.int (p.1:Int)),some (V.int (p.2:Int)),some (V.ref tl),some (V.ref rd)]=[some (.ref jp),some (.ref l),some (.ref c),some (.ref d),v4,v5,v6,v7]) (Same H (upd H9 d (.dK (xU (dkO S.2) (Sum.inl (p.1:Int)) (Zb (oI o)))))) (SameT H3 (upd H9 d (.dK (xU (dkO S.2) (Sum.inl (p.1:Int)) (Zb (oI o)))))) (upd H9 d (.dK (xU (dkO S.2) (Sum.inl (p.1:Int)) (Zb (oI o)))) pl=some (.lst ys)) (upd H9 d (.dK (xU (dkO S.2) (Sum.inl (p.1:Int)) (Zb (oI o)))) d=some (.dK (dkO (P2 J st (zo L) ((zo L).take (i+1))).2))):=λo eo=>by
     refine{_,_,_,_,rfl,(s4.trans O).put d0,(T4.trans (SameT.of O)).trans (SameT.putD (O _ _ I)),?_,?_}
     .rw[zp ax];exact O _ _ a0
     .rw[zc,eo,zhM hn]
    have kl:=ky.len;have dl:(dkO S.2).length<sizeLine:=by
     unfold dkO;rw[zm];omega
    refine{_,rfl,rd,nI (rdy J p.1 S.1),rfl,by rw[show(nI (rdy J p.1 S.1)).map V.int=zr (rdy J p.1 S.1) by unfold nI zr;rw[xc];rfl];exact u6 R9,λe0=>?_,λm hm ag=>?_}
    .have er:rdy J p.1 S.1=[]:=by
      unfold nI at e0;exact List.map_eq_nil_iff.mp e0
     obtain⟨w4,w5,w6,w7,f1,f2,f3,f4,f5⟩:=fin none (by rw[es,s2,zw hn,er])
     exact{_,rfl,_,rfl,d,_,rfl,DPut.k (k:=Sum.inl (p.1:Int)) (O _ _ I) dl,w4,w5,w6,w7,f1,f2,f3,f4,f5}
    .obtain⟨r0,rr,er⟩:∃r0 rr,rdy J p.1 S.1=r0::rr:=by
      cases h0:rdy J p.1 S.1 with
      | nil=>rw[h0] at hm;cases hm
      | cons a b=>exact⟨a,b,rfl⟩
     have pw:=zjd J p.1 S.1;rw[er,Xn] at pw;have em:m=(r0:Int):=by
      have h1:=ag (r0:Int) (by rw[er];exact qJ)
      unfold nI at hm;obtain⟨k0,af,rfl⟩:=zN.mp hm;rw[er] at af;rcases qH.mp af with z | z
      .rw[z]
      .have:=pw.1 k0 z
       omega
     subst em;obtain⟨w4,w5,w6,w7,f1,f2,f3,f4,f5⟩:=fin (some r0) (by rw[es,s2,zw hn,er])
     exact{_,rfl,_,rfl,d,_,rfl,DPut.k (k:=Sum.inl (p.1:Int)) (O _ _ I) dl,w4,w5,w6,w7,f1,f2,f3,f4,f5}
   .rw[y6] at cc
    have aq:p.1∈S.2.map (·.1):=zgi λz=>cc (by rw[yz.mpr z];rfl)
    refine{_,_,_,_,rfl,s4,T4,a0,?_}
    rw[es,s2,zC aq];exact I
  .rintro σ H4 ⟨v4,v5,v6,v7,rfl,s4,T4,a0,I⟩
   rw[lp,qB] at I;refine{_,rfl,d,_,rfl,I,λo=>k d o _ (s4.put d0) d0 zc}
theorem zlP(os:List Nat):(nI os).map V.int=zr os:=by unfold nI zr;rw[xc];rfl
theorem zfK(os:List Nat):(nI os).length=os.length:=zm ..
theorem zh0{g:List (Int×Int)}{c:List Nat}{p:Nat}{s:List Int}(h:∀j,j∈s↔j≠(p:Int)/\∃k,Wk g k j (p:Int)):(((p:Int)::s).map λj=>decide (j∈nI c)).any id=VF g c p:=by
 rw[vm,yt,vN];constructor
 .rintro⟨b,hb,e⟩
  obtain⟨j,A,rfl⟩:=zN.mp hb;have l:j∈nI c:=qP e;unfold nI at l;obtain⟨q,hq,rfl⟩:=zN.mp l;rcases qH.mp A with z | z
  .exact{q,hq,0,z}
  .exact{q,hq,((h _).mp z).2}
 .rintro⟨q,hq,k,B⟩
  refine{true,zN.mpr {(q:Int),?_,qg (Zr.mpr hq)},rfl}
  by_cases e:(q:Int)=(p:Int)
  .rw[e];exact qJ
  .exact xg _ ((h _).mpr ⟨e,k,B⟩)
theorem Y5{b:List (Nat×Option Nat)}{i:Nat}{q:Nat×Option Nat}(h:b[i]? =some q):xN (b.take (i+1))=xN (b.take i)++(if q.2=none then [q.1] else []):=by
 rw[zM h,show [q]=[(q.1,q.2)] from rfl,zc4]
 cases q.2<;>rfl
theorem XN(b:List (Nat×Option Nat)):(xN b).length<=b.length:=by
 unfold xN;rw[zm];exact jq _ _
inductive zeL(K:W.Frag)(A:List V)(H:Hp)(Q:VK):Prop
 | mk (s d:Addr) (o:Obj) (J:Job) (b:List 0#F) (_:A=[.ref s,.ref d]) (_:Rep K H (j6 J) (.ref s)) (_:J.ps.length<=60) (_:(∀q∈asI J,InN J.ps.length q.1/\InN J.ps.length q.2)) (_:J.as.length<=300) (_:H d=some (.frz o (.dK (dkO b)))) (_:b.length<=60) (_:(∀q∈b,q.1<J.ps.length)) (_:∀(l:Addr) (g:List Int) c,Same H c->H l=none->c l=some (.lst (g.map V.int))->g.Perm (nI ((b.map (·.1)).filter (VF (asI J) (xN b))))->g.Pairwise (·<= ·)->Q (.ref l) c):zeL K A H Q
def zkJ(K:W.Frag):Sp:=λb H Q _=>zeL K b H Q
theorem zk8:zD ["job","feeders","wanting"] ["job","feeders"] (zu (topL 18)):=u4
theorem zlK{f:Addr}{b:FuncData}(F:Fun K "dropped_parts" "dropped_parts" (topL 18) f b)(B:Blt G)(I:Dfn P w K G C "ahead_of" 3 ["job","part"] (ZK K)):FnOk P w K G C CX0 4 f b ["job","feeders"] (zkJ K):=by
 have nd:=zk8.nd;refine F.ok zk8 0#d (λaj A ah s H vs Q E hr h=>?_)
 .obtain⟨jp,d,o,J,b,rfl,_⟩:=h
  rfl
 .obtain⟨jp,d,o,J,b,rfl,rj,pl,ab,al,hd,fl,fp,k⟩:=h
  have ai:=bG1000000;have dl:(dkO b).length=b.length:=by unfold dkO;rw[zm]
  have N:∀{i:Nat} {kk:Key} {v:V},(dkO b)[i]? =some (kk,v)->∃q,b[i]? =some q/\kk=Sum.inl (q.1:Int)/\v=Zb (oI q.2):=λ{i kk v} h=>by
   unfold dkO at h;rw[qk] at h;obtain⟨q,eq,e⟩:=qG.mp h;cases e;exact⟨q,eq,rfl,rfl⟩
  refine{_,(ze (zG (i:=2) nd rfl (Or.inr rfl) (vI [] [] rfl rfl (by kernel_rfl) (zgU (zfs PySem.F.slot_dict_items PySem.F.type_dict_items zdw (pv 1))) (λ_ _ _ _=>(xh (zP zal (pv 1) vv (zR _)))) 0#m))
   (zi (zy (zt jm rfl B.sorted jt (za (jE ["wanting","job"] [2,0] rfl rfl (by kernel_rfl) (zfl (pv 1)) (λ_ _ _ _=>(xh (jH (zt (zaG (K:=K) rfl rfl) rfl B.any Z3 (za (jE ["wanting"] [1] rfl rfl (by kernel_rfl) (zfj (K:=K) rfl (zO xr (z9 0#y) (zf I hr.m rfl (za (pv 2) 0#y)))) 0#g 0#v) zd))))) 0#m) zd))))),?_}
  refine{_,rfl,d,rfl,.inl {_,.inr ⟨o,hd⟩},d,o,_,rfl,rfl,hd,λpv aa=>{pv,d,o,_,rfl,zc,by rw[zp (zj hd aa)];exact hd,zhv (d:=d) (o:=o) (kvs:=dkO b) (λi L O=>L=zr (xN (b.take i))/\Same H O) {rfl,zb aa} (λi L O ⟨_,s1⟩=>s1 _ _ hd) ?_ ?_}}
  .rintro i kk v L O T hk ⟨rfl,s1⟩ hT
   obtain⟨q,eq,rfl,rfl⟩:=N hk;have il:=(zK.mp eq).1;have s2:=s1.trans (zb (o:=.tup [kV (Sum.inl (q.1:Int)),Zb (oI q.2)]) hT);have wl:=XN (b.take i);rw[qv] at wl;refine{T,_,rfl,u7 zc,rfl,_,_,rfl,_,_,rfl,rfl,rfl,_,rfl,rfl,_,rfl,?_}
   rw[Y5 eq];cases e:q.2 with
   | none=>
    rw[e] at s2;refine ifT (by rw[qg];rfl) {_,rfl,by rw[zA];omega,?_,s2}
    rw[zC rfl,xX];rfl
   | some j=>
    rw[e] at s2;refine ifF (by rw[jO];intro z;cases z) {?_,s2}
    rw[zw 1e3,qA]
  rintro L O ⟨e1,s1⟩;rw[dl,qB] at e1;subst e1;have wl:=XN b;refine{by rw[zA];omega,λwt af=>?_}
  have W2:upd O wt (.lst (zr (xN b))) wt=some (.lst (zr (xN b))):=zc;have s2:=s1.trans (zb (H:=O) (o:=.lst (zr (xN b))) af);generalize upd O wt (.lst (zr (xN b)))=H2 at *
  have a0:=s2 _ _ hd;have fk:(b.map (·.1)).length=b.length:=zm ..
  refine{_,rfl,d,o,_,rfl,a0,YG (d:=d) (o:=o) (kvs:=dkO b) (λi L M=>L=zr (((b.map (·.1)).take i).filter (VF (asI J) (xN b)))/\Same H2 M) {rfl,ua _} (λi L M ⟨_,s3⟩=>s3 _ _ a0) ?_ ?_}
  .rintro i kk v L M hk ⟨rfl,s3⟩
   obtain⟨q,eq,rfl,rfl⟩:=N hk;have il:=(zK.mp eq).1;have ac:(b.map (·.1))[i]? =some q.1:=by rw[qk,eq];rfl
   have qp:=fp q (qz eq);refine{rfl,_,rfl,le1,λp1 ae=>?_}
   have U:=s3.trans (zb (H:=M) (o:=.lst [kV (Sum.inl (q.1:Int))]) ae);have P4:upd M p1 (.lst [kV (Sum.inl (q.1:Int))]) p1=some (.lst [.int (q.1:Int)]):=zc;generalize upd M p1 (.lst [kV (Sum.inl (q.1:Int))])=H4 at U P4;refine{_,rfl,_,rfl,(q.1:Int),jp,J,rfl,rj.same (s2.trans U),pl,{(),()},ab,al,λl g H5 s5 l0 hl ml pw mem=>?_}
   refine{p1,l,_,_,rfl,rfl,s5 _ _ P4,hl,by rw[zm];show 1+_<=_;omega,λc hc=>{c,rfl,{_,u6 zc},?_}}
   have e0:[V.int (q.1:Int)]++g.map V.int=((q.1:Int)::g).map V.int:=rfl;rw[e0];have s6:=(U.trans s5).trans (zb (H:=H5) (o:=.lst (((q.1:Int)::g).map V.int)) hc);have C6:upd H5 c (.lst (((q.1:Int)::g).map V.int)) c=some (.lst (((q.1:Int)::g).map V.int)):=zc;generalize upd H5 c (.lst (((q.1:Int)::g).map V.int))=H6 at *
   have W6:=s6 _ _ W2;have lm:(((q.1:Int)::g).map V.int).length=g.length+1:=by rw[zm];rfl
   refine qR (K:=K) (a:=c) (xs:=((q.1:Int)::g).map V.int) (λj L H7=>L=((((q.1:Int)::g).take j).map λj=>decide (j∈nI (xN b))).map V.bl/\Same H6 H7) {rfl,ua _} (λj L H7 ⟨_,Y⟩=>u6 (Y _ _ C6)) ?_ ?_
   .rintro j x L H7 hx ⟨rfl,Y⟩
    rw[qk] at hx;obtain⟨m,em,rfl⟩:=qG.mp hx;have jl:=(zK.mp em).1;have ak:j<g.length+1:=jl;refine{rfl,_,rfl,_,rfl,wt,_,rfl,.inl (u6 (Y _ _ W6)),rfl,xn _,?_,?_,Y}
    .rw[zm,zm,qv];omega
    .rw[zM em,zL,zL,zw qS,ziN];rfl
   rintro L H7 ⟨rfl,Y⟩;rw[lm,show((q.1:Int)::g).take (g.length+1)=(q.1:Int)::g from QW (by show g.length+1<=_;omega)]
   refine{by rw[zm,zm];show g.length+1<=_;omega,λD hD=>{D,_,rfl,u6 zc,?_}}
   rw[zh0 mem];have s8:=(s6.trans Y).trans (zb (H:=H7) (o:=.lst ((((q.1:Int)::g).map λj=>decide (j∈nI (xN b))).map V.bl)) hD)
   rw[xZ _ ac];refine{_,rfl,j7 (λcc=>{_,rfl,?_,?_,s8}) (λcc=>{?_,s8})}
   .rw[zA]
    exact yM (jq _ _) (by rw[qv];omega)
   .rw[zC cc,xX];rfl
   .rw[zw cc,qA]
  rintro L M ⟨e3,s3⟩;rw[dl,<- fk,qB] at e3;subst e3;have ol:=jq (VF (asI J) (xN b)) (b.map (·.1))
  refine{by rw[zA];omega,λD hD=>{D,nI ((b.map (·.1)).filter (VF (asI J) (xN b))),rfl,by rw[zlP];exact u6 zc,by rw[zfK];omega,λl g hl pm pw=>?_}}
  have U:=(s2.trans s3).trans (zb (H:=M) (o:=.lst (zr ((b.map (·.1)).filter (VF (asI J) (xN b))))) hD)
  exact k l g _ (U.trans (zb hl)) (U.free hl) zc pm pw
theorem yB(j:Int)(b:List Int):inV (.int j) 0#u=decide (j∈b):=by
 rw[vm,xQ];unfold inV;rw[vN];constructor
 .rintro⟨y,hy,e⟩
  obtain⟨k,hk,rfl⟩:=zN.mp hy;have:(k==j)=true:=e;rw[<- xH.mp this];exact hk
 .intro h
  exact{.int j,zN.mpr ⟨j,h,rfl⟩,(show(j==j)=true from Zf _)}
theorem Qs:∀b:List Int,(b.map V.int).all xj=true
 | []=>rfl
 | i::b=>by
  show(true&&(b.map V.int).all xj)=true;rw[Qs b];rfl
theorem zft{K:W.Frag}{H:Hp}{p:Nat×Nat}{a:Addr}(h:SqT K H a [.int p.1,.int p.2]):Rep K H (jM p) (.ref a):={a,_,rfl,h,_,_,rfl,rfl,_,_,rfl,rfl,rfl}
inductive zet(K:W.Frag)(A:List V)(H:Hp)(Q:VK):Prop
 | mk (v:V) (d l:Addr) (o:Obj) (t:zW) (b:List 0#F) (s:List Int) (g:Nat->Bool) (_:A=[v,.ref d,.ref l]) (_:Rep K H (jG t) v) (_:H d=some (.frz o (.dK (dkO b)))) (_:SqL K H l (s.map V.int)) (_:(∀p∈t.pk,((p.1:Int)∈s↔g p.1=true))) (_:(∀p∈t.pk,g p.1=false->lkF b p.1=some (some (fdN b p.1)))) (_:t.ly.Perm (t.pk.map (·.1))) (_:t.pk.length<=60) (_:∀a c,Same H c->Rep K c (jG (xY b g t)) (.ref a)->Q (.ref a) c):zet K A H Q
def zkB(K:W.Frag):Sp:=λb H Q _=>zet K b H Q
theorem zkY:zD ["trip","feeders","dropped","picks","lays","kept"] ["trip","feeders","dropped"] (zu (topL 19)):=u4
theorem zlB{f:Addr}{M:FuncData}(F:Fun K "mended_trip" "mended_trip" (topL 19) f M)(B:Blt G):FnOk P w K G C CX0 1 f M ["trip","feeders","dropped"] (zkB K):=by
 have nd:=zkY.nd;refine F.ok zkY 0#d (λas A ap s H vs Q E hr h=>?_)
 .obtain⟨v,d,dr,o,t,M,ms,D,rfl,_⟩:=h
  rfl
 .obtain⟨v,d,dr,o,t,M,ms,D,rfl,rt,hd,ae,aj,ai,aa,pl,k⟩:=h
  have ar:=bG1000000;have am:=JN hr;obtain⟨a,b,c,xs,ys,rfl,qa,qb,rb,qc,rc⟩:=xK rt;have lb:=rb.len;have lc:=rc.len;rw[zm] at lb lc;have ao:=aa.length_eq;rw[zm] at ao;refine{_,(ze (jQ (pv 0) 0#G)
   (ze (zG (i:=5) nd rfl (Or.inr rfl) (vI ["dropped"] [2] rfl rfl (by kernel_rfl) (xO (pv 3)) (λ_ _ _ _=>(xh (zP (wC (K:=K) rfl) (pv 0) (pv 2) (by with_unfolding_all rfl)))) 0#m))
   (zi (zy (qL (za (jw jJ rfl B.tuple jF (za (jE ["feeders"] [1] rfl rfl (by kernel_rfl) (zZ (pv 5)) 0#g (λ_ _ _ _=>(qL (za (pv 0) (za (VE am (pv 1) (pv 0) 0#c) zd))))) zd)) (za (jw jJ rfl B.tuple jF (za (jE ["kept"] [5] rfl rfl (by kernel_rfl) (xO (pv 4)) (λ_ _ _ _=>(xh (zP (jV (K:=K) rfl) (pv 0) (pv 1) (by with_unfolding_all rfl)))) 0#m) zd)) zd))))))),?_}
  refine{_,rfl,a,_,rfl,qa,rfl,_,_,rfl,_,_,rfl,rfl,?_}
  refine{_,rfl,b,rfl,{_,qb},vz (K:=K) (a:=b) (xs:=xs) (λi g O=>g=zr (((t.pk.take i).filter λp=>!D p.1).map (·.1))/\Same H O) {rfl,ua _} (λi g O ⟨_,s1⟩=>s1.sqT qb) ?_ ?_}
  .rintro i x g O hx ⟨rfl,s1⟩
   obtain⟨dd,ed,rd⟩:=(rb.same s1).get hx;rw[qk] at ed;obtain⟨p,I,rfl⟩:=qG.mp ed;obtain⟨pa,rfl,qp⟩:=jc rd;have il:=(zK.mp I).1;have hm:=aj p (qz I);refine{pa,_,rfl,qp,rfl,_,_,rfl,_,_,rfl,rfl,rfl,_,rfl,_,rfl,dr,_,rfl,.inl (s1.seq ae),rfl,Qs _,_,rfl,?_}
   rw[zC rfl,yB,xZ _ I];cases e:D p.1 with
   | true=>
    refine ifF (by rw[qg (hm.mpr e)];rfl) {?_,s1}
    rw[zw 1e3,qA]
   | false=>
    refine ifT (by rw[jO (λz=>by rw[hm.mp z] at e;cases e)];rfl) {_,rfl,?_,?_,s1}
    .rw[zA,zm]
     exact yM (jq _ _) (by rw[qv];omega)
    .rw[zC 1e3,zL,<- xX];rfl
  rintro g O ⟨e1,s1⟩;rw[lb,qB] at e1;subst e1;have kl:(((t.pk.filter λp=>!D p.1).map (·.1))).length<=t.pk.length:=by rw[zm];exact jq _ _
  refine{by rw[zA];omega,λU af=>?_}
  have K2:upd O U (.lst (zr ((t.pk.filter λp=>!D p.1).map (·.1)))) U=some (.lst (zr ((t.pk.filter λp=>!D p.1).map (·.1)))):=zc
  have s2:=s1.trans (zb (H:=O) (o:=.lst (zr ((t.pk.filter λp=>!D p.1).map (·.1)))) af)
  generalize upd O U (.lst (zr ((t.pk.filter λp=>!D p.1).map (·.1))))=H2 at *
  generalize ek:t.pk.filter (λp=>!D p.1)=l at *
  have ac:=s2 _ _ hd;have lk:(zr (l.map (·.1))).length=l.length:=by rw[zA,zm]
  rw[zm] at kl;refine{_,rfl,U,rfl,{_,u6 K2},qR (K:=K) (a:=U) (xs:=zr (l.map (·.1))) (λi g L=>Reps K L (((l.take i).map λp=>(p.1,fdN M p.1)).map jM) g/\Same H2 L) {rfl,ua _} (λi g L ⟨_,s3⟩=>u6 (s3 _ _ K2)) ?_ ?_}
  .rintro i x g L hx ⟨Y,s3⟩
   obtain⟨n,T,rfl⟩:=vZ hx;rw[qk] at T;obtain⟨p,I,rfl⟩:=qG.mp T;have il:=(zK.mp I).1;have hp:=qz I;rw[<- ek] at hp;obtain⟨ak,al⟩:=qI.mp hp;have hl:=ai p ak (by simpa using al)
   have zl:=Y.len;rw[zm,zm,qv] at zl;refine{rfl,_,rfl,_,rfl,_,rfl,d,.int (fdN M p.1:Int),rfl,?_,?_}
   .exact .inl {_,Sum.inl (p.1:Int),.inr {o,s3 _ _ ac},rfl,by rw[y6,hl];rfl}
   .refine{le2,λq hq=>{(),?_,s3.trans (zb hq)}}
    rw[zM I,zL,zL];exact(Y.same (zb hq)).snoc (d:=jM (p.1,fdN M p.1)) (zft (u7 zc))
  rintro g L ⟨Y,s3⟩;rw[lk,qB] at Y;have zl:=Y.len;rw[zm,zm] at zl;refine{(),λl3 ag=>{l3,_,rfl,.inl {u6 zc,λu hu=>?_}}}
  have s4:=(zb (H:=L) (o:=.lst g) ag).trans (zb (o:=.tup g) hu);have qu:upd (upd L l3 (.lst g)) u (.tup g) u=some (.tup g):=zc;have r4:=Y.same s4;have J:=s3.trans s4;generalize upd (upd L l3 (.lst g)) u (.tup g)=H4 at *
  have ab:=(s2.trans J).sqT qc;have aq:=rc.same (s2.trans J);have K4:=J _ _ K2;refine{_,rfl,c,rfl,{_,ab},vz (K:=K) (a:=c) (xs:=ys) (λi g H5=>g=zr ((t.ly.take i).filter λp=>!D p)/\Same H4 H5) {rfl,ua _} (λi g H5 ⟨_,N⟩=>N.sqT ab) ?_ ?_}
  .rintro i x ws H5 hx ⟨rfl,N⟩
   obtain⟨dd,ed,rd⟩:=(aq.same N).get hx;rw[qk] at ed;obtain⟨n,T,rfl⟩:=qG.mp ed;cases(show x=.int (n:Int) from rd)
   have il:=(zK.mp T).1;refine{rfl,_,rfl,_,rfl,U,_,rfl,.inl (u6 (N _ _ K4)),rfl,xn _,_,rfl,?_}
   rw[zw qS,y4,xZ _ T];obtain⟨p,hp,I⟩:=zN.mp (aa.mem_iff.mp (qz T));have a0:n∈l.map (·.1)↔D n=false:=by
    constructor
    .intro hm
     obtain⟨q,hq,eq⟩:=zN.mp hm;rw[<- ek] at hq;have:=(qI.mp hq).2;rw[<- eq];simpa using this
    .intro e
     refine zN.mpr {p,?_,I}
     rw[<- ek];exact qI.mpr {hp,by rw[I,e];rfl}
   cases e:D n with
   | true=>
    refine ifF (jO (λz=>by rw[a0.mp z] at e;cases e)) {?_,N}
    rw[zw 1e3,qA]
   | false=>
    refine ifT (qg (a0.mpr e)) {_,rfl,?_,?_,N}
    .rw[zA]
     exact yM (jq _ _) (by rw[qv];omega)
    .rw[zC 1e3,xX]
  rintro ws H5 ⟨e5,N⟩;rw[lc,qB] at e5;subst e5;have wl:=jq (λp=>!D p) t.ly
  refine{by rw[zA];omega,λl5 ah=>{l5,_,rfl,.inl {u6 zc,λu2 an=>{le2,λq hq=>?_}}}}
  have s6:=(zb (H:=H5) (o:=.lst (zr (t.ly.filter λp=>!D p))) ah).trans (zb (o:=.tup (zr (t.ly.filter λp=>!D p))) an)
  have s7:=s6.trans (zb (o:=.tup [.ref u,.ref u2]) hq);have s8:=N.trans s7;refine k q _ ((s2.trans J).trans s8) {q,_,rfl,u7 zc,_,_,rfl,{u,g,rfl,u7 (s8 _ _ qu),?_},_,_,rfl,{u2,_,rfl,u7 ((zb hq) _ _ zc),Qn _},rfl}
  show Reps K _ (((t.pk.filter λp=>!D p.1).map λp=>(p.1,fdN M p.1)).map jM) g
  rw[ek];exact r4.same s8
structure MOk(J:Job)(ord os:List Nat)(ts:List zW):Prop where
 jo:JobOk J ord
 po:PlanOk J os ts
 pm:os.Perm 0#x
 bo:ByOrd os J.as
theorem vw{J:Job}:∀{b:List zW},(∀t∈b,QM J t)->(zE b).Perm ((zo b).map (·.1))
 | [],_=>List.Perm.nil
 | t::r,h=>by
  show(t.ly++zE r).Perm ((t.pk++zo r).map (·.1))
  rw[zL];exact(h t qJ).ly.append (vw λu hu=>h u (xg _ hu))
theorem MOk.nd{J:Job}{b os:List Nat}{c:List zW}(m:MOk J b os c):((zo c).map (·.1)).Nodup:=by
 have g:os.Nodup:=m.pm.nodup_iff.mpr yH;exact(vw m.po.tr).nodup_iff.mp (m.po.sub.nodup g)
theorem MOk.ok{J:Job}{b os:List Nat}{c:List zW}(m:MOk J b os c):∀p∈zo c,p.1<J.ps.length/\p.2<J.fs.length:=λp hp=>by
 unfold zo at hp;obtain⟨t,g,hp⟩:=yK.mp hp;obtain⟨s,l,e1,e2,_⟩:=(m.po.tr t g).ok p hp;exact{(zK.mp e1).1,(zK.mp e2).1}
theorem MOk.brk{J:Job}{b os:List Nat}{c:List zW}(m:MOk J b os c):Brk J c:=by
 refine{?_,m.nd,m.ok,jN m.jo.fl 1e1}
 have h:=Qm (m:=List.range J.ps.length) m.nd λx hx=>by
  obtain⟨p,hp,rfl⟩:=zN.mp hx;exact xB.mpr (m.ok p hp).1
 rw[zm,wg] at h;have:=m.jo.pl;omega
noncomputable def jd (J:Job) (st:Nat->Int) (b:List zW):Nat->Bool:=VF (asI J) (xN (qY J st b))
theorem Brk.ky{J:Job}{c:List zW}(b:Brk J c)(st:Nat->Int):Ky2 st (zo c) (zo c) (P2 J st (zo c) (zo c)):=by
 have:=WC (J:=J) (st:=st) b.nd (i:=(zo c).length) (zF _);rwa[qB] at this
theorem Brk.keys{J:Job}{c:List zW}(b:Brk J c)(st:Nat->Int):((qY J st c).map (·.1)).Perm ((zo c).map (·.1)):=by
 have k:=b.ky st;refine(zgm k.nd b.nd).mpr λx=>{k.sub x,λhx=>?_}
 obtain⟨p,hp,rfl⟩:=zN.mp hx;exact k.al p hp
theorem Brk.val{J:Job}{c:List zW}(b:Brk J c)(st:Nat->Int):∀p∈zo c,jd J st c p.1=false->lkF (qY J st c) p.1=some (some (fdN (qY J st c) p.1)):=λp hp g=>by
 have hk:p.1∈(qY J st c).map (·.1):=(b.ky st).al p hp
 cases e:lkF (qY J st c) p.1 with
 | none=>exact absurd hk (yz.mp e)
 | some o=>
  cases o with
  | none=>
   have h1:=Vb.mpr (ZU e);have h2:jd J st c p.1=true:=yt.mpr {p.1,h1,0,rfl};rw[h2] at g;cases g
  | some k=>unfold fdN;rw[e];rfl
theorem ZW{t:zW}:(!t.pk.isEmpty)=true↔t.pk≠[]:=by
 cases t.pk<;>simp
theorem yd{α β:Type}{f:β->Bool}{g:α->β}{l:List α}{i:Nat}{x:α}(h:l[i]? =some x):((l.take (i+1)).map g).filter f=((l.take i).map g).filter f++(if f (g x)=true then [g x] else []):=by
 rw[zM h,zL,xI];cases b:f (g x)
 .show _++[g x].filter f=_
  rw[QX (by rw[b];exact qS)];rfl
 .show _++[g x].filter f=_
  rw[QY b];rfl
structure zmj(K:W.Frag)(H H':Hp)(q a1 a2 a3:Addr)(xs:List V)(fd:List 0#F)(ob:Nat->Bool)(ts:List zW):Prop where
 s:Same H H'
 q:SqT K H' q [.ref a1,.ref a2,.ref a3]
 f1:H a1=none
 f2:H a2=none
 f3:H a3=none
 n12:a1≠a2
 n13:a1≠a3
 n23:a2≠a3
 h1:H' a1=some (.lst xs)
 r1:Reps K H' ((jB fd ob ts).map jG) xs
 h2:H' a2=some (.lst ((srt (nI (Q5 fd ob (zo ts)))).map V.int))
 h3:H' a3=some (.lst ((srt (nI (XH ob (zo ts)))).map V.int))
inductive zeu(K:W.Frag)(B:List V)(H:Hp)(Q:VK):Prop
 | mk (A l c:Addr) (J:Job) (g os:List Nat) (D:List V) (b:List zW) (st:Nat->Int) (_:B=[.ref A,.ref l,.ref c]) (_:Rep K H (j6 J) (.ref A)) (_:SqL K H l D) (_:Reps K H (b.map jG) D) (_:MOk J g os b) (_:SqL K H c (jU J.fs.length st)) (_:∀(q a1 a2 a3:Addr) (E:List V) s,zmj K H s q a1 a2 a3 E (qY J st b) (jd J st b) b->Q (.ref q) s):zeu K B H Q
def zkC(K:W.Frag):Sp:=λb H Q _=>zeu K b H Q
theorem zkZ:zD ["job","plan","stock","feeders","dropped","trips","moved"] ["job","plan","stock"] (zu (topL 20)):=u4
theorem zlC{f:Addr}{fd:FuncData}(F:Fun K "mended_plan" "mended_plan" (topL 20) f fd)(B:Blt G)(M:Dfn P w K G C "picks_in" 1 ["plan"] (zde K))(L:Dfn P w K G C "new_feeders" 3 ["job","plan","stock"] (zkz K))(D:Dfn P w K G C "dropped_parts" 4 ["job","feeders"] (zkJ K))(I:Dfn P w K G C "mended_trip" 1 ["trip","feeders","dropped"] (zkB K)):FnOk P w K G C CX0 5 f fd ["job","plan","stock"] (zkC K):=by
 have nd:=zkZ.nd;refine F.ok zkZ 0#d (λbt A bn s H vs Q E hr h=>?_)
 .obtain⟨jp,l,c,J,bm,os,xs,g,st,rfl,_⟩:=h
  rfl
 .obtain⟨jp,l,c,J,bm,os,xs,g,st,rfl,rj,hl,rl,mo,hc,k⟩:=h
  have bs:=bG1000000;have bd:=JN hr;have bk:=mo.brk;have ky:=bk.ky st;have al:=bk.al;have tl:=mo.po.len;have ll:=rl.len;rw[zm] at ll;have be:=bk.keys st;have vl:=bk.val st;have fl:(qY J st g).length<=60:=jN ky.len al;have ba:∀q∈qY J st g,q.1<J.ps.length:=λq hq=>by
   obtain⟨p,hp,e⟩:=zN.mp (ky.sub q.1 (zN.mpr ⟨q,hq,rfl⟩));rw[<- e];exact(bk.ok p hp).1
  refine{_,(ze (zG (i:=3) nd rfl (Or.inr rfl) (zf L hr.m rfl (za (pv 0) (za (pv 1) 0#t))))
   (ze (zG (i:=4) nd rfl (Or.inr rfl) (zf D hr.m rfl (za (pv 0) (za (pv 3) zd))))
   (ze (wR ["feeders","dropped"] [3,4] rfl rfl (by kernel_rfl) (zZ (pv 1)) 0#g (λ_ _ _ _=>(zf I hr.m rfl (za (pv 0) (za (pv 1) 0#t)))) (zq (i:=5) nd rfl 0#a))
   (ze (zag ["dropped","feeders"] [4,3] rfl rfl (by kernel_rfl) (zZ (zf M hr.m rfl 0#k)) (λ_ _ _ _=>(xh (PW.pt (VA (zP (wC (K:=K) rfl) (pv 0) (pv 2) (by with_unfolding_all rfl)) (Jb (zP zcc (VE bd (pv 3) (pv 0) 0#c) (pv 1) (zR _))))))) 0#m (zq (i:=6) nd rfl 0#a))
   (zi (zy (qL (za (jE [] [] rfl rfl (by kernel_rfl) (zZ (pv 5)) (λ_ _ _ _=>(xh (zgN (K:=K) rfl 0#A))) 0#m) (za (zt jm rfl B.sorted jt (za (pv 6) zd)) (za (pv 4) zd)))))))))),?_}
  refine{_,rfl,_,rfl,_,rfl,jp,l,c,J,xs,g,st,rfl,rj,hl,rl,bk,hc,λd o H1 s1 d0 hd=>?_}
  refine{_,rfl,_,rfl,jp,d,o,J,qY J st g,rfl,rj.same s1,mo.jo.pl,mo.jo.ain,mo.jo.al,hd,fl,ba,λdl ms H2 s2 aw a0 pm pw=>?_}
  have em:ms=srt (nI (XH (jd J st g) (zo g))):=by
   refine zef (pm.trans ?_) pw
   unfold nI XH;exact(be.filter _).map _
  have ab:∀p∈zo g,((p.1:Int)∈ms↔jd J st g p.1=true):=λp hp=>by
   rw[pm.mem_iff,Zr,qI];exact{λh=>h.2,λh=>{ky.al p hp,h}}
  have U:=s1.trans s2;have ah:=s2 _ _ hd;have ai:=U.seq hl;have bq:=rl.same U;refine{_,rfl,l,rfl,{_,ai},qR (K:=K) (a:=l) (xs:=xs) (λi O H3=>Reps K H3 (((g.take i).map (xY (qY J st g) (jd J st g))).map jG) O/\Same H2 H3) {rfl,ua _} (λi O H3 ⟨_,s3⟩=>s3.seq ai) ?_ ?_}
  .rintro i x O H3 hx ⟨rz,s3⟩
   obtain⟨dd,ed,rd⟩:=(bq.same s3).get hx;rw[qk] at ed;obtain⟨t,et,rfl⟩:=qG.mp ed;have il:=(zK.mp et).1;have am:=qz et;have au:∀p∈t.pk,p∈zo g:=λp hp=>yK.mpr ⟨t,am,hp⟩
   have av:=mo.po.tr t am;have t4:=av.p2;have bu:=mo.jo.hd1;have zl:=rz.len;rw[zm,zm,qv] at zl;refine{rfl,_,rfl,_,rfl,_,rfl,x,d,dl,o,t,qY J st g,ms,jd J st g,rfl,rd,s3 _ _ ah,u6 (s3 _ _ a0),λp hp=>ab p (au p hp),λp hp=>vl p (au p hp),av.ly,(),λa H4 s4 r4=>{(),?_,s3.trans s4}}
   rw[zM et,zL,zL];exact(rz.same s4).snoc r4
  rintro O H3 ⟨rz,s3⟩;rw[ll,qB] at rz;have zl:=rz.len;rw[zm,zm] at zl;refine{(),λtp an=>?_}
  have T4:upd H3 tp (.lst O) tp=some (.lst O):=zc;have ap:=s3.trans (zb (H:=H3) (o:=.lst O) an);have r4:=rz.same (zb (H:=H3) (o:=.lst O) an);generalize upd H3 tp (.lst O)=H4 at *
  have ao:=U.trans ap;refine{_,rfl,l,xs,g,rfl,ao.seq hl,rl.same ao,al,λpk ys H5 s5 bv aj rp=>?_}
  have lp:=rp.len;rw[zm] at lp;have aa:=ap.trans s5;have bb:=aa _ _ ah;have ax:=aa _ _ a0;have ml:∀i,(Q5 (qY J st g) (jd J st g) ((zo g).take i)).length<=((zo g).take i).length:=λi=>by
   unfold Q5;rw[zm];exact jq _ _
  refine{pk,rfl,{_,u6 aj},qR (K:=K) (a:=pk) (xs:=ys) (λi O H6=>O=zr (Q5 (qY J st g) (jd J st g) ((zo g).take i))/\Same H5 H6) {rfl,ua _} (λi O H6 ⟨_,s6⟩=>u6 (s6 _ _ aj)) ?_ ?_}
  .rintro i x Y H6 hx ⟨rfl,s6⟩
   obtain⟨dd,ed,rd⟩:=(rp.same s6).get hx;rw[qk] at ed;obtain⟨p,ep,rfl⟩:=qG.mp ed;obtain⟨pa,rfl,qp⟩:=jc rd;have il:=(zK.mp ep).1;have ak:=qz ep;have hm:=ab p ak;have bg:=ml i;rw[qv] at bg;have ft:Q5 (qY J st g) (jd J st g) ((zo g).take (i+1))=Q5 (qY J st g) (jd J st g) ((zo g).take i)++(if(!jd J st g p.1&&decide (fdN (qY J st g) p.1≠p.2))=true then [p.1] else []):=by
    unfold Q5;rw[xZ _ ep,zL];split<;>rfl
   refine{pa,_,rfl,qp,rfl,_,_,rfl,_,_,rfl,rfl,rfl,_,rfl,_,rfl,dl,_,rfl,.inl (u6 (s6 _ _ ax)),rfl,Qs _,_,rfl,?_}
   rw[zC rfl,yB];cases e:jd J st g p.1 with
   | true=>
    refine ifF (by rw[qg (hm.mpr e)];rfl) (ifF rfl {?_,s6})
    rw[ft,e,zw 1e3,qA]
   | false=>
    refine ifT (by rw[jO (λz=>by rw[hm.mp z] at e;cases e)];rfl) ?_
    refine{_,rfl,_,rfl,d,.int (fdN (qY J st g) p.1:Int),rfl,.inl {_,Sum.inl (p.1:Int),.inr {o,s6 _ _ bb},rfl,by rw[y6,vl p ak e];rfl},_,rfl,rfl,_,rfl,?_}
    by_cases e2:fdN (qY J st g) p.1=p.2
    .refine ifF (by rw[e2,qg rfl];rfl) {?_,s6}
     rw[ft,e,zw (by simp[e2]),qA]
    .refine ifT (by rw[jO (show ¬V.int (fdN (qY J st g) p.1:Int)=V.int (p.2:Int) fromλz=>e2 (w8 (V.int.inj z)))];rfl) {_,rfl,?_,?_,s6}
     .rw[zA];omega
     .rw[ft,e,zC (by simp[e2]),xX]
  rintro Y H6 ⟨e6,s6⟩;rw[lp,qB] at e6;subst e6;have bf:=ml (zo g).length;rw[qB] at bf;refine{by rw[zA];omega,λmv bc=>?_}
  have M7:upd H6 mv (.lst (zr (Q5 (qY J st g) (jd J st g) (zo g)))) mv=some (.lst (zr (Q5 (qY J st g) (jd J st g) (zo g)))):=zc;have af:=s6.trans (zb (H:=H6) (o:=.lst (zr (Q5 (qY J st g) (jd J st g) (zo g)))) bc);generalize upd H6 mv (.lst (zr (Q5 (qY J st g) (jd J st g) (zo g))))=H7 at *
  have ar:=s5.trans af;have T7:=ar _ _ T4;have r7:=r4.same ar;have br:O.length=g.length:=zl;refine{_,rfl,tp,rfl,{_,u6 T7},qR (K:=K) (a:=tp) (xs:=O) (λi Y H8=>An2 (Reps K H8 ((((g.take i).map (xY (qY J st g) (jd J st g))).filter λt=>!t.pk.isEmpty).map jG) Y) (Same H7 H8)) {rfl,ua _} (λi Y H8 ⟨_,s8⟩=>u6 (s8 _ _ T7)) ?_ ?_}
  .rintro i x Y H8 hx ⟨N,s8⟩
   obtain⟨dd,ed,rd⟩:=(r7.same s8).get hx;rw[qk,qk] at ed;obtain⟨t',ay,rfl⟩:=qG.mp ed;obtain⟨t,et,rfl⟩:=qG.mp ay;obtain⟨a,b,c',us,vs,rfl,qa,qb,rb,qc,rc⟩:=xK rd;have lb:=rb.len;rw[zm] at lb;have il:=(zK.mp et).1;have wl:=N.len;have az:=jq (λt:zW=>!t.pk.isEmpty) ((g.take i).map (xY (qY J st g) (jd J st g)))
   rw[zm,qv] at az;rw[zm] at wl;have ee:(!us.isEmpty)=(!(xY (qY J st g) (jd J st g) t).pk.isEmpty):=by
    cases us with
    | nil=>
     rw[show(xY (qY J st g) (jd J st g) t).pk=[] from List.length_eq_zero_iff.mp lb.symm]
     rfl
    | cons u us=>
     cases h0:(xY (qY J st g) (jd J st g) t).pk with
     | nil=>rw[h0] at lb;cases lb
     | cons=>rfl
   refine{rfl,_,rfl,a,_,_,_,rfl,rfl,qa,qr (j:=0) rfl,b,us,rfl,qb,?_}
   rw[ee];refine j7 (λcc=>{_,rfl,(),?_,s8}) (λcc=>{?_,s8})
   .rw[yd et,zC cc,zL]
    exact N.snoc rd
   .rw[yd et,zw cc,qA]
    exact N
  rintro Y H8 ⟨N,s8⟩;rw[br,qB] at N;have wl:=N.len;rw[zm] at wl;have b0:=jq (λt:zW=>!t.pk.isEmpty) (g.map (xY (qY J st g) (jd J st g)))
  rw[zm] at b0;refine{(),λa1 ac=>?_}
  have A9:upd H8 a1 (.lst Y) a1=some (.lst Y):=zc;have as:=s8.trans (zb (H:=H8) (o:=.lst Y) ac);have r9:=N.same (zb (H:=H8) (o:=.lst Y) ac);have ae:=(aa.trans af).trans as;have ag:H2 a1=none:=((aa.trans af).trans s8).free ac;generalize upd H8 a1 (.lst Y)=H9 at *
  refine{_,rfl,mv,nI (Q5 (qY J st g) (jd J st g) (zo g)),rfl,by rw[zlP];exact u6 (as _ _ M7),by rw[zfK];omega,λa2 m2 T bo bp=>?_}
  have aq:=ae.trans (zb (H:=H9) (o:=.lst (m2.map V.int)) T);refine{_,rfl,by show 3<=_;omega,λq hq=>?_}
  have sq:=zb (H:=upd H9 a2 (.lst (m2.map V.int))) (o:=.tup [.ref a1,.ref a2,.ref dl]) hq;have bi:dl≠a1:=zj a0 ag;have bj:dl≠a2:=zj (ae _ _ a0) T;have bh:a1≠a2:=zj A9 T;refine k q a1 a2 dl Y _ {U.trans (aq.trans sq),u7 zc,U.free ag,U.free (ae.free T),?_,bh,qD bi,qD bj,sq _ _ ((zb T) _ _ A9),(r9.same (zb T)).same sq,?_,?_}
  .exact s1.free aw
  .rw[sq _ _ zc,zef bo bp]
  .rw[(aq.trans sq) _ _ a0,em]
theorem zdk(n:Nat)(g:Nat->Int)(v:Int):jU (n+1) (upF g n v)=jU n g++[.int v]:=by
 unfold jU;rw[Xi,zL];congr 1
 .refine za1 λk hk=>?_
  have:=xB.mp hk;unfold upF;rw[zw ()]
 .show [V.int (upF g n v n)]=_
  unfold upF;rw[zC rfl]
theorem zbr:∀{b:List Int},(∀z∈b,0<=z/\z<=4)->0<=b.sum/\b.sum<=4*(b.length:Int)
 | [],_=>{yI _,yI _}
 | a::r,h=>by
  have h1:=h a qJ;have h2:=zbr λz hz=>h z (xg _ hz)
  rw[List.sum_cons,jZ];omega
inductive zek(K:W.Frag)(D:List V)(H:Hp)(Q:VK):Prop
 | mk (b A l:Addr) (J:Job) (s os:List Nat) (E:List V) (B:List zW) (n:Int) (_:D=[.ref b,.ref A,.ref l]) (_:BoxAt H b n) (_:n<600000) (_:Rep K H (j6 J) (.ref A)) (_:l≠b) (_:H l=some (.lst E)) (_:Reps K H (B.map jG) E) (_:MOk J s os B) (_:∀(c:Addr) (st:Nat->Int) g,SameB b H g->BoxAt g b (n+100)->c≠b->H c=none->g c=some (.lst (jU J.fs.length st))->(∀k,0<=st k/\st k<=400)->Q (.ref c) g):zek K D H Q
def zkx(K:W.Frag):Sp:=λb H Q _=>zek K b H Q
theorem zkS:zD ["_law_box_here","_law_job_here","_law_plan_here","_law_found","_law_at","_law_feeder","_law_used","_law_some"] ["_law_box_here","_law_job_here","_law_plan_here"] (zu (topL 69)):=u4
def zc1(b:_)(s:_)(l:_)(c:_)(H:_)(n:_):=λ(i:Nat) (σ:St) (g:Hp)=>(Ex5 λ(A B D E:Option V) (st:Nat->Int)=>An5 (σ=[some (.ref b),some (.ref s),some (.ref l),some (.ref c),A,B,D,E]) (SameB b H g) (BoxAt g b (n+2*(i:Int))) (g c=some (.lst (jU i st))) ((∀k,0<=st k/\st k<=400)):Prop)
theorem zlw{f:Addr}{fd:FuncData}(F:Fun K "_law_stock_now" "_law_stock_now" (topL 69) f fd)(B:Blt G)(L:Dfn P w K G C "_law_take" 1 ["_law_box_here","_law_size"] vo):FnOk P w K G C CX0 2 f fd ["_law_box_here","_law_job_here","_law_plan_here"] (zkx K):=by
 have nd:=zkS.nd;refine F.ok zkS 0#d (λau A an s H vs Q E hr h=>?_)
 .obtain⟨b,jp,l,J,am,os,xs,ts,n,rfl,_⟩:=h
  rfl
 .obtain⟨b,jp,l,J,am,os,xs,ts,n,rfl,B0,hn,rj,ak,hl,rl,mo,k⟩:=h
  have ar:=bG1000000;have tl:=mo.po.len;have ll:=rl.len;rw[zm] at ll;obtain⟨g,fs,ps,as,fv,px,qj,_,qf,rf,_,_,_⟩:=xL rj;have lf:=rf.len;rw[zm] at lf;have fl:=mo.jo.fl;refine{_,(ze (zG (i:=3) nd rfl 0#a (z9 zd))
   (ze (jh jL rfl (wJ rfl B.enumerate (za (zJ qC (pv 1) zg 0#c) zd)) (qE rfl (zn (zq (i:=4) nd rfl (Or.inr rfl)) (zn (zq (i:=5) nd rfl 0#a) z7)))
   (ze (zG (i:=6) nd rfl 0#a (zt (Vk rfl) rfl B.sum boot_sum (za (vI ["_law_at"] [4] rfl rfl (by kernel_rfl) (zZ (pv 2)) 0#g (λ_ _ _ _=>(zt (vD (K:=K) rfl) rfl B.len boot_len (za (jE ["_law_at"] [2] rfl rfl (by kernel_rfl) (Jc (K:=K) rfl (pv 0)) (λ_ _ _ _=>(xh (zP xW 0#A (pv 1) (zR _)))) 0#m) zd)))) zd)))
    (ze (zG (i:=7) nd rfl 0#a (z9 (pa7 zg (zt (Qu rfl) rfl B.max J3 (za zg (za (zO vy (pv 6) zg) zd))) (pv 6) (zO jk (pv 6) zg) (zf L hr.m rfl 0#h) (zJ qC (pv 5) zg 0#c) zg)))
    (zi (ji (xi j5 vQ vP jr (pv 3) (za (zJ qO (pv 7) (zf L hr.m rfl 0#h) 0#c) zd)))))))
   (zi (zy (pv 3))))),?_}
  refine{le0,λc hc=>?_}
  have Y:=B0.nne hc;have s0:=zb (H:=H) (o:=.lst []) hc;refine{_,rfl,jp,_,_,_,rfl,rfl,s0.sqT qj,qr (j:=2) rfl,fs,rfl,{_,s0.sqT qf},Qt (K:=K) (a:=fs) (xs:=fv) (zc1 b jp l c H n) {_,_,_,_,λ_=>0,rfl,(uf b H).new hc,(B0.new hc).mono (),zc,λ_=>{yI 0,show(0:Int)<=400 by decide}} (λi σ H1 _ ⟨_,_,_,_,_,_,S1,_,_,_⟩=>qf.keep (uc B0 S1)) ?_ ?_}
  .rintro i x σ H1 T hx ⟨v4,v5,v6,v7,st,rfl,S1,B1,O,a0⟩ hT
   have T1:=uc B0 S1;obtain⟨d,ed,rd⟩:=(rf.keep T1 (vB _)).get hx;rw[qk] at ed;obtain⟨fe,ef,rfl⟩:=qG.mp ed;obtain⟨fa,fc,rfl,ao,_⟩:=x6 rd;have il:=(zK.mp ef).1;have aw:=(mo.jo.fa fe (qz ef)).2.2;have sT:=zb (H:=H1) (o:=.tup [.int (i:Int),.ref fa]) hT;have S2:=S1.new (o:=.tup [.int (i:Int),.ref fa]) hT;have B2:=B1.new (o:=.tup [.int (i:Int),.ref fa]) hT;have ag:=sT _ _ O;have ac:=sT.sqT ao;refine{T,_,rfl,u7 zc,rfl,_,_,rfl,_,_,rfl,rfl,?_}
   generalize upd H1 T (.tup [.int (i:Int),.ref fa])=H2 at *
   have ab:=S2 _ _ hl ak;have ap:=rl.keep (uc B0 S2) (xm ts);refine{_,rfl,l,rfl,{_,u6 ab},qR (K:=K) (a:=l) (xs:=xs) (λj zs H3=>∃N:List Int,zs=N.map V.int/\N.length=j/\(∀z∈N,0<=z/\z<=4)/\Same H2 H3) {[],rfl,rfl,(λz hz=>nomatch hz),ua _} (λj zs H3 ⟨_,_,_,_,s3⟩=>u6 (s3 _ _ ab)) ?_ ?_}
   .rintro j x zs H3 hx ⟨N,rfl,nl,nb,s3⟩
    obtain⟨d,ed,rd⟩:=(ap.same s3).get hx;rw[qk] at ed;obtain⟨t,et,rfl⟩:=qG.mp ed;have jl:=(zK.mp et).1;have aq:=mo.po.tr t (qz et);have t4:=aq.p2;have av:=mo.jo.hd1;obtain⟨a,pb,pc,us,vs,rfl,qa,qb,rb,qc,rc⟩:=xK rd;have lb:=rb.len;rw[zm] at lb;refine{a,_,rfl,qa,rfl,_,_,rfl,_,_,rfl,rfl,rfl,?_}
    refine{_,rfl,pb,rfl,{_,qb},vz (K:=K) (a:=pb) (xs:=us) (λm ws H4=>ws.length<=m/\Same H3 H4) {zF _,ua _} (λm ws H4 ⟨_,M⟩=>M.sqT qb) ?_ ?_}
    .rintro m y ws H4 hy ⟨wl,M⟩
     obtain⟨d2,e2,r2⟩:=(rb.same M).get hy;rw[qk] at e2;obtain⟨p,ep,rfl⟩:=qG.mp e2;obtain⟨pa,rfl,qp⟩:=jc r2;have ml:=(zK.mp ep).1;refine{rfl,_,rfl,pa,_,_,_,rfl,rfl,qp,qr (j:=1) rfl,_,rfl,rfl,_,rfl,j7 (λcc=>{_,rfl,(),by rw[qh];show _+1<=_;omega,M}) (λcc=>{(),M})}
    .rintro ws H4 ⟨wl,M⟩
     refine{(),λD hD=>{D,ws,rfl,.inl (u6 zc),by rw[zm];omega,N++[(ws.length:Int)],?_,?_,?_,s3.trans (M.trans (zb hD))}}
     .rw[zL];rfl
     .rw[qh,nl];rfl
     .intro z hz
      rcases zV.mp hz with hz | hz
      .exact nb z hz
      .rw[qm.mp hz]
       omega
   rintro zs H3 ⟨N,rfl,nl,nb,s3⟩;obtain⟨u0,u1⟩:=zbr nb;refine{by rw[zm];omega,λD hD=>{D,N,rfl,u6 zc,λz hz=>by have:=nb z hz;omega,(),?_}}
   generalize N.sum=I at u0 u1;have M:=s3.trans (zb (H:=H3) (o:=.lst (N.map V.int)) hD);have S4:=S2.trans (uh M);have B4:=B2.same M;have ah:=M _ _ ag;have ae:=M.sqT ac;generalize upd H3 D (.lst (N.map V.int))=H4 at *
   refine{_,rfl,_,_,rfl,rfl,_,_,rfl,_,rfl,_,rfl,_,_,rfl,rfl,_,rfl,b,5,_,rfl,B4,(),1e1,1e1,λr H5 r0 r1 B5 S5=>?_}
   have af:=ae.keep (uc B4 S5);have ai:=S5 _ _ ah Y;refine{_,rfl,fa,_,_,_,rfl,rfl,af,qr (j:=2) rfl,by show 7<=_;omega,λsm U=>?_}
   have al:=B5.nne U;have aa:=(zb (H:=H5) (o:=.lst [.int 0,.int (if I-1>0 then I-1 else 0),.int I,.int (I+1),.int r,.int fe.m,.int 400]) U) _ _ ai
   have S6:=(S4.trans S5).new (o:=.lst [.int 0,.int (if I-1>0 then I-1 else 0),.int I,.int (I+1),.int r,.int fe.m,.int 400]) U
   have B6:=B5.new (o:=.lst [.int 0,.int (if I-1>0 then I-1 else 0),.int I,.int (I+1),.int r,.int fe.m,.int 400]) U
   refine{_,rfl,.inl {rfl,_,u6 aa},_,rfl,_,rfl,b,7,_,rfl,B6,(),1e1,1e1,λr7 H7 ax ay B7 S7=>?_}
   obtain⟨v,ev,v0,v1⟩:∃v,atI [V.int 0,.int (if I-1>0 then I-1 else 0),.int I,.int (I+1),.int r,.int fe.m,.int 400] r7=some (.int v)/\0<=v/\v<=400:=by
    have hc:r7=0\/r7=1\/r7=2\/r7=3\/r7=4\/r7=5\/r7=6:=()
    rcases hc with rfl | rfl | rfl | rfl | rfl | rfl | rfl
    .exact{0,rfl,(),()}
    .exact{_,rfl,by split<;>omega,by split<;>omega}
    .exact{_,rfl,(),()}
    .exact{_,rfl,(),()}
    .exact{_,rfl,(),()}
    .exact{_,rfl,(),()}
    .exact{400,rfl,(),()}
   have aj:=S7 _ _ aa Y;refine{sm,_,_,_,rfl,rfl,u6 (S7 _ _ zc al),ev,c,_,_,rfl,rfl,aj,by rw[jT];omega,_,_,_,_,upF st i v,rfl,(S6.trans S7).put hc,(B7.other Y).mono (),?_,λk=>?_}
   .rw[zc,zdk]
   .unfold upF
    by_cases e:k=i
    .rw[zC e];exact⟨v0,v1⟩
    .rw[zw e];exact a0 k
  .rintro σ H1 ⟨v4,v5,v6,v7,st,rfl,S1,B1,O,a0⟩
   rw[lf] at O B1;exact{_,rfl,k c st H1 S1 (B1.mono ()) Y hc O a0}
end
section
variable{K:W.Frag}
theorem X6{H:Hp}:∀b:List Int,Reps K H (b.map Dat.int) 0#u
 | []=>rfl
 | m::b=>{_,_,rfl,rfl,X6 b}
end
theorem MOk.t100{J:Job}{g os:List Nat}{w:List zW}(m:MOk J g os w):∀t∈w,t.pk.length<=4/\t.ly.length<=4/\(∀p∈t.pk,p.1<100/\p.2<100)/\∀k∈t.ly,k<100:=λt s=>by
 have b:=m.po.tr t s;have B:=b.p2;have hd:=m.jo.hd1;have l:=b.ly.length_eq;rw[zm] at l;have C:=m.jo.pl;have A:=m.jo.fl;have c:∀p∈t.pk,p.1<100/\p.2<100:=λp hp=>by
  have:=m.ok p (yK.mpr ⟨t,s,hp⟩);omega
 refine{(),(),c,λk hk=>?_}
 obtain⟨p,hp,rfl⟩:=zN.mp (b.ly.mem_iff.mp hk);exact(c p hp).1
section
variable{P:Program}{w:World}{K:W.Frag}{C:Str->Option Value}{g:Heap}
inductive zeM(K:W.Frag)(E:List V)(H:Hp)(Q:VK):Prop
 | mk (b:Addr) (n:Int) (_:E=[.ref b]) (_:BoxAt H b n) (_:n<100000) (_:∀(q B l c:Addr) (J:Job) (A os:List Nat) (G:List V) (D:List zW) (st:Nat->Int) s,SameB b H s->BoxAt s b (n+6000)->SqT K s q [.ref B,.ref l,.ref c]->Rep K s (j6 J) (.ref B)->s l=some (.lst G)->Reps K s (D.map jG) G->l≠b->c≠b->MOk J A os D->s c=some (.lst (jU J.fs.length st))->(∀k,0<=st k/\st k<=400)->Q (.ref q) s):zeM K E H Q
def zkK(K:W.Frag):Sp:=λb H Q _=>zeM K b H Q
theorem zk9:zD ["_law_box_here","_law_few","_law_most","_law_job_here","_law_plan_here"] ["_law_box_here"] (zu (topL 71)):=u4
def zc0(b:_)(H:_)(n:_):=λ(A:St) (s:Hp)=>(Ex2 λ(l c:Int)=>An7 (A=[some (.ref b),some (.int l),some (.int c),none,none]) (0<=l) (l<=60) (0<=c) (c<=60) (SameB b H s) (BoxAt s b (n+1)):Prop)
theorem zlL{f:Addr}{fd:FuncData}(F:Fun K "_law_broken" "_law_broken" (topL 71) f fd)(B:Blt C)(D:Dfn P w K C g "_law_take" 1 ["_law_box_here","_law_size"] vo)(L:Dfn P w K C g "_law_job" 4 ["_law_box_here","_law_few","_law_most","_law_plenty"] (zif K))(G:Dfn P w K C g "_law_plan" 4 ["_law_box_here","_law_job_here","_law_most"] (zen K))(l:Dfn P w K C g "_law_stock_now" 2 ["_law_box_here","_law_job_here","_law_plan_here"] (zkx K)):FnOk P w K C g CX0 5 f fd ["_law_box_here"] (zkK K):=by
 have nd:=zk9.nd;refine F.ok zk9 0#d (λan A al s H vs Q E N h=>?_)
 .obtain⟨b,n,rfl,_⟩:=h
  rfl
 .obtain⟨b,n,rfl,B0,hn,k⟩:=h
  have am:=bG1000000;refine{_,(ze (yU (jQ (wK (zP xW (zf D N.m rfl 0#h) zg (zR _)) (qL (za zg (za zg zd))) (qL (za zg (za zg zd)))) (qE rfl (zn (zq (i:=1) nd rfl 0#a) (zn (zq (i:=2) nd rfl 0#a) z7)))))
   (ze (zG (i:=3) nd rfl 0#a (zf L N.m rfl (za (pv 0) (za (pv 1) (za (pv 2) (za (qZ xW (zf D N.m rfl 0#h) zg (zR _)) zd))))))
   (ze (zG (i:=4) nd rfl 0#a (zf G N.m rfl (za (pv 0) (za (pv 3) (za (zJ qO (z9 (za zg (za zg (za zg zd)))) (zf D N.m rfl 0#h) 0#c) zd)))))
   (zi (zy (qL (za (pv 3) (za (pv 4) (za (zf l N.m rfl (za (pv 0) (za (pv 3) (za (pv 4) zd)))) zd))))))))),?_}
  refine{zc0 b H n,?_,?_}
  .refine{_,rfl,b,16,n,rfl,B0,(),1e1,1e1,λr H1 r0 r1 B1 S1=>{rfl,_,rfl,j7 (λc=>{le2,λT U=>{T,_,rfl,u7 zc,rfl,_,_,rfl,_,_,rfl,rfl,60,60,rfl,1e1,1e1,1e1,1e1,S1.new U,B1.new U}}) (λc=>{le2,λT U=>{T,_,rfl,u7 zc,rfl,_,_,rfl,_,_,rfl,rfl,8,24,rfl,1e1,1e1,1e1,1e1,S1.new U,B1.new U}})}}
  rintro σ' H1 ⟨ah,aa,rfl,f0,f1,m0,m1,S1,B1⟩;refine{_,rfl,_,rfl,_,rfl,_,rfl,b,2,_,rfl,B1,(),1e1,1e1,λr H2 r0 r1 B2 S2=>{rfl,b,ah,aa,_,_,rfl,B2,(),f0,f1,m0,m1,λjp J I H3 S3 B3 rj jo=>?_}}
  have ae:=(S1.trans S2).trans S3;refine{_,rfl,_,rfl,by show 3<=_;omega,λl1 h1=>{_,rfl,b,3,_,rfl,B3.new h1,(),1e1,1e1,λr2 H4 ao ap B4 S4=>?_}}
  have n1:=B3.nne h1;have L4:=S4 l1 _ zc n1;have af:=(ae.new (o:=.lst [.int 0,.int 0,.int 5]) h1).trans S4;have ab:=(rj.same (zb (o:=.lst [.int 0,.int 0,.int 5]) h1)).keep (uc (B3.new h1) S4) (wN J);obtain⟨Y,ag,aj,ak⟩:∃Y:Int,atI [V.int 0,V.int 0,V.int 5] r2=some (.int Y)/\0<=Y/\Y<=100:=by
   have hc:r2=0\/r2=1\/r2=2:=()
   rcases hc with rfl | rfl | rfl
   .exact{0,rfl,1e1,1e1}
   .exact{0,rfl,1e1,1e1}
   .exact{5,rfl,1e1,1e1}
  refine{l1,_,_,_,rfl,rfl,u6 L4,ag,b,jp,J,I,Y,_,rfl,B4,(),ab,jo,aj,ak,λlp os ts tr H5 S5 B5 M _ LP RT pm ob po=>?_}
  have ac:=ab.keep (uc B4 S5) (wN J);have a0:MOk J I os ts:=⟨jo,po,pm,ob⟩;refine{_,rfl,_,rfl,_,rfl,_,rfl,_,rfl,b,jp,lp,J,I,os,tr,ts,_,rfl,B5,(),ac,M,LP,RT,a0,λc st H6 S6 B6 nc _ hc ai=>{by show 3<=_;omega,λq hq=>?_}}
  have T6:=uc B5 S6;have O:=zb (H:=H6) (o:=.tup [.ref jp,.ref lp,.ref c]) hq;exact k q jp lp c J I os tr ts st _ (((af.trans S5).trans S6).trans (uh O)) ((B6.same O).mono ()) (u7 zc) ((ac.keep T6 (wN J)).same O) (O _ _ (S6 _ _ LP M)) ((RT.keep T6 (xm ts)).same O) M nc a0 (O _ _ hc) ai
end
theorem xC{α:Type}{C:List α->Prop}(h0:C [])(hs:∀l a,C l->C (l++[a])):∀l,C l:=λl=>by
 have:∀r:List α,C r.reverse:=λr=>by
  induction r with
  | nil=>exact h0
  | cons a r b=>rw[List.reverse_cons];exact hs _ _ b
 have h:=this l.reverse;rwa[List.reverse_reverse] at h
def j8(J:Job)(st:Nat->Int):Job:={ J with fs:=J.fs.mapIdx λk f=>{ f with m:=st k } }
theorem ZL(J:Job)(st:Nat->Int)(k:Nat):(j8 J st).fs[k]? =(J.fs[k]?).map λf=>{ f with m:=st k }:=List.getElem?_mapIdx
theorem vE(J:Job)(st:Nat->Int):(j8 J st).fs.length=J.fs.length:=List.length_mapIdx
theorem ze8{J:Job}{st:Nat->Int}{f:xw}(h:f∈(j8 J st).fs):∃(k:Nat) (g:xw),J.fs[k]? =some g/\f={ g with m:=st k }:=by
 obtain⟨k,hk⟩:=yi.mp h;rw[ZL] at hk;obtain⟨g,hg,rfl⟩:=qG.mp hk;exact⟨k,g,hg,rfl⟩
theorem zgL{J:Job}{c:List Nat}{st:Nat->Int}(b:JobOk J c)(hs:∀k,0<=st k/\st k<=400):JobOk (j8 J st) c:=by
 refine{b.gate,b.hd0,b.hd1,by rw[vE];exact b.fl,λf l=>?_,b.pl,λp hp=>?_,b.op,b.bo,b.al,by rw[vE];exact b.f0}
 .obtain⟨k,g,hg,rfl⟩:=ze8 l
  obtain⟨h1,h2,_⟩:=b.fa g (qz hg);exact{h1,h2,(hs k).1,(hs k).2}
 .obtain⟨h1,h2,f,l,e⟩:=b.pa p hp
  refine{h1,h2,?_}
  obtain⟨k,hk⟩:=yi.mp l;have:(j8 J st).fs[k]? =some { f with m:=st k }:=by rw[ZL,hk];rfl
  exact{_,qz this,e}
theorem zdl{J:Job}{st:Nat->Int}{p:Nat×Nat}(h:wF J p):wF (j8 J st) p:=by
 obtain⟨g,c,e1,e2,b⟩:=h;exact{g,{ c with m:=st p.2 },e1,by rw[ZL,e2];rfl,b}
def Kd(J:Job)(l:List (Nat×Option Nat)):Prop:=∀q∈l,∀k,q.2=some k->wF J (q.1,k)
theorem zje{J:Job}{p k:Nat}{b:Nat->Int}(hp:p<J.ps.length)(h:k∈rdy J p b):wF J (p,k):=by
 obtain⟨h1,_⟩:=qI.mp h;obtain⟨c,g⟩:=qI.mp h1;have hk:=xB.mp c;have e:=qP g;refine{J.ps[p],J.fs[k],qK hp,qK hk,?_}
 rw[qK hk] at e;unfold zhD at e;rw[qK hp] at e;exact jC e
theorem zjV{J:Job}{st:Nat->Int}{all:List (Nat×Nat)}(h:∀p∈all,wF J p):Kd J (P2 J st all all).2:=by
 have:∀(b:List 0#e) s,(∀p∈b,wF J p)->Kd J s.2->Kd J (b.foldl (s2 J) s).2:=by
  intro b;induction b with
  | nil=>intro s _ h;exact h
  | cons p r l=>
   intro s h1 h2;rw[zaM];refine l _ (λq hq=>h1 q (xg _ hq)) ?_
   unfold s2;split
   .exact h2
   .obtain⟨w,_,g,_⟩:=h1 p qJ
    have hp:=(zK.mp g).1;split
    .intro q hq k e
     rcases zV.mp hq with hq | hq
     .exact h2 q hq k e
     .rw[qm.mp hq] at e;cases e
    .rename_i f _ c
     intro q hq k e;rcases zV.mp hq with hq | hq
     .exact h2 q hq k e
     .rw[qm.mp hq] at e ⊢
      cases e;exact zje hp (by rw[c];exact qJ)
 refine this all _ h λq hq k e=>?_
 obtain⟨p,hp,rfl⟩:=zN.mp (show q∈som (P1 st all).2 from hq)
 cases e;exact h p ((WD st all).subset hp)
theorem zmd{st:Nat->Int}(h:∀k,0<=st k)(all:List 0#e):∀k,0<=(P1 st all).1 k:=by
 induction all using xC with
 | h0=>exact h
 | hs l p b=>
  rw[WE];unfold s1;split
  .intro k
   show 0<=upF _ _ _ k;unfold upF;split
   .omega
   .exact b k
  .exact b
theorem zmc{J:Job}{st:Nat->Int}(h:∀k,0<=st k)(all c:List 0#e):∀k,0<=(P2 J st all c).1 k:=by
 induction c using xC with
 | h0=>exact zmd h all
 | hs l p b=>
  rw[Ji];unfold s2;split
  .exact b
  .split
   .exact b
   .rename_i f r e
    have g:=(zb0 (show f∈rdy J p.1 (P2 J st all l).1 by rw[e];exact qJ)).2
    intro k;show 0<=upF _ _ _ k;unfold upF;split
    .omega
    .exact b k
theorem V1{l:List (Nat×Nat)}{k:Nat}:(l.map (·.2)).count k=(l.filter λp=>decide (p.2=k)).length:=by
 induction l with
 | nil=>rfl
 | cons a r b=>
  rw[jz,ww,b,yf];by_cases e:a.2=k
  .rw[zC (qg e),jZ,zC (xH.mpr e)]
  .rw[zw (by simpa using e),zw (by simpa using e)];rfl
theorem zga{l:List (Nat×Option Nat)}{k:Nat}:(l.map (·.2)).count (some k)=(l.filter λp=>decide (p.2=some k)).length:=by
 induction l with
 | nil=>rfl
 | cons a r b=>
  rw[jz,ww,b,yf];by_cases e:a.2=some k
  .rw[zC (qg e),jZ,zC (xH.mpr e)]
  .rw[zw (by simpa using e),zw (by simpa using e)];rfl
section
variable{J:Job}{st:Nat->Int}{s os:List Nat}{l:List zW}
theorem ZN(c:List (Nat×Option Nat))(g:Nat->Bool):∀l:List zW,zo (jB c g l)=((zo l).filter λp=>!g p.1).map λp=>(p.1,fdN c p.1)
 | []=>rfl
 | t::r=>by
  have A:=ZN c g r;have e1:zo (t::r)=t.pk++zo r:=rfl;have e2:jB c g (t::r)=(if(!(xY c g t).pk.isEmpty)=true then [xY c g t] else [])++jB c g r:=by
   unfold jB;rw[jz,yf];split<;>rfl
  have w:zo (jB c g (t::r))=(xY c g t).pk++zo (jB c g r):=by
   rw[e2];split
   .rfl
   .rename_i h
    have:(xY c g t).pk=[]:=by
     cases hp:(xY c g t).pk with
     | nil=>rfl
     | cons a b=>rw[hp] at h;exact absurd rfl h
    rw[this];rfl
  rw[w,e1,A,xI,zL];rfl
theorem zcj(b:List (Nat×Option Nat))(c:Nat->Bool):∀l:List zW,(zE (jB b c l)).Sublist (zE l)
 | []=>ZB _
 | t::r=>by
  have g:=zcj b c r;have h1:(zE (t::r))=t.ly++zE r:=rfl;have h0:((xY b c t).ly).Sublist t.ly:=Xp;rw[h1];unfold jB;rw[jz,yf];split
  .exact h0.append g
  .exact g.trans (List.sublist_append_right _ _)
theorem MOk.mended(m:MOk J s os l)(hs:∀k,0<=st k/\st k<=400):MOk (j8 J st) s os 0#J /\
  ∀k,(((zo 0#J).map (·.2)).count k:Int)<=st k:=by
 have bk:=m.brk;have N:Kd J (qY J st l):=zjV λp hp=>by
  obtain⟨t,B,hp⟩:=yK.mp hp;exact(m.po.tr t B).ok p hp
 have cnt:∀k,(((zo 0#J).map (·.2)).count k:Int)<=st k:=λk=>by
  have c:=zgz J st (zo l) (zo l) k;have Y:=zmc (J:=J) (λk=>(hs k).1) (zo l) (zo l) k
  have U:((zo 0#J).map (·.2)).count k<=((qY J st l).map (·.2)).count (some k):=by
   rw[V1,zga,ZN];have nd:(((((zo l).filter λp=>!jd J st l p.1).map λp=>(p.1,fdN (qY J st l) p.1)).filter λp=>decide (p.2=k)).map (·.1)).Nodup:=by
    refine(List.Sublist.map (λp:Nat×Nat=>p.1) Xp).nodup ?_
    rw[xc];exact(List.Sublist.map (λp:Nat×Nat=>p.1) Xp).nodup bk.nd
   have:=Qm (m:=((qY J st l).filter λp=>decide (p.2=some k)).map (·.1)) nd λx hx=>by
    obtain⟨q,hq,rfl⟩:=zN.mp hx;obtain⟨h1,h2⟩:=qI.mp hq;obtain⟨p,hp,rfl⟩:=zN.mp h1;obtain⟨C,D⟩:=qI.mp hp;have e:fdN (qY J st l) p.1=k:=qP h2;have v:=ZU (bk.val st p C (by simpa using D))
    rw[e] at v;exact zN.mpr {_,qI.mpr {v,qg rfl},rfl}
   rwa[zm,zm] at this
  have O:((((qY J st l).map (·.2)).count (some k):Nat):Int)+(P2 J st (zo l) (zo l)).1 k=st k:=c
  omega
 have H:∀t∈jB (qY J st l) (jd J st l) l,QM (j8 J st) t:=λt' E=>by
  obtain⟨h1,h2⟩:=qI.mp E;obtain⟨t,B,rfl⟩:=zN.mp h1;have A:=m.po.tr t B;refine{?_,?_,λq hq=>?_,?_}
  .have:=ZW.mp h2
   cases hp:(xY (qY J st l) (jd J st l) t).pk with
   | nil=>exact absurd hp this
   | cons a b=>rw[jZ];omega
  .have T:(xY (qY J st l) (jd J st l) t).pk.length<=t.pk.length:=by
    unfold xY;rw[zm];exact jq _ _
   have:=A.p2;show _<=J.hd;omega
  .obtain⟨p,hp,rfl⟩:=zN.mp hq
   obtain⟨C,D⟩:=qI.mp hp;exact zdl (N _ (ZU (bk.val st p (yK.mpr ⟨t,B,C⟩) (by simpa using D))) _ rfl)
  .have e:(xY (qY J st l) (jd J st l) t).pk.map (·.1)=(t.pk.map (·.1)).filter λp=>!jd J st l p:=by
    unfold xY;rw[xc,zaL];rfl
   rw[e];exact A.ly.filter _
 have mem:∀x,x∈zE 0#J↔x∈zE l/\jd J st l x=false:=λx=>by
  rw[(vw H).mem_iff,(vw m.po.tr).mem_iff,ZN];simp only[zN,qI];constructor
  .rintro⟨q,⟨p,⟨h1,h2⟩,rfl⟩,rfl⟩
   exact{⟨p,h1,rfl⟩,by simpa using h2}
  .rintro⟨⟨p,h1,rfl⟩,h2⟩
   exact{_,{p,{h1,by simpa using h2},rfl},rfl}
 have I:∀p∈J.as,p.2∈zE 0#J->p.1∈zE 0#J:=λp hp h=>by
  rw[mem] at h ⊢;refine{m.po.cl p hp h.1,?_}
  cases e:jd J st l p.1 with
  | false=>rfl
  | true=>
   obtain⟨j,M,k,w⟩:=yt.mp e;have:jd J st l p.2=true:=yt.mpr {j,M,k+1,Wk.snoc w (zN.mpr ⟨p,hp,rfl⟩)};rw[h.2] at this;cases this
 refine{{zgL m.jo hs,{H,(zcj _ _ l).trans m.po.sub,?_,I,?_},m.pm,m.bo},cnt}
 .refine jN (jq _ _) ?_
  rw[zm];exact m.po.len
 .refine{(List.range J.fs.length).map λk=>st k-(((zo 0#J).map (·.2)).count k:Int),?_,λf z e=>?_,λf z Q e G=>?_}
  .rw[zm,wg,vE]
  .rw[qk] at e
   obtain⟨k,_,rfl⟩:=qG.mp e;have:=cnt k;omega
  .rw[qk] at e
   obtain⟨k,L,rfl⟩:=qG.mp e;obtain⟨hk,rfl⟩:=zK.mp L;rw[List.getElem_range] at *
   rw[ZL] at G;obtain⟨g,_,rfl⟩:=qG.mp G;rfl
end
section
variable{X:Cx}
theorem zjj{a b c d y:Str}{Q T U Y py w tp up:Pos}{N O:Nat}{g2:TG}{g:Scope}{l A:Expr}{B:List Expr}{wi:TI}{tf:TT}{te:TE}{G:Pos}(E:List Str)(M:List Nat)(hc:X.calm=true)(hk:g.kind=.function)(hb:wa g.names X.env.scope.names X.N [a,b,c,d] E M=true)(hi:PI X (.Tuple [.Tuple [.Name a Q,.Name b T,.Name c U] O up,.Name d Y] N tp) l wi)
  (hf:∀C s H D,PF (zQ X ([a,b,c,d]++E) g C s H D) B tf) (he:∀C s H D,PE (zQ X ([a,b,c,d]++E) g C s H D) A te)
  (J:PG X (.Name y py) g2) (L:swapsWith (.ListComp A [{.Tuple [.Tuple [.Name a Q,.Name b T,.Name c U] O up,.Name d Y] N tp,l,B,0}] g G) (some (.Name y py)) w.line X.env=pure true:=by rfl)
  (hs:∀x,foldedSetIterable l X.env x=pure x:=by intro _;rfl):PS X (.Assign [.Name y py] (.ListComp A [{.Tuple [.Tuple [.Name a Q,.Name b T,.Name c U] O up,.Name d Y] N tp,l,B,0}] g G) w) (zda (tLC wi 4 M (Q8 X.K 2 (xz (Q8 X.K 3 (xz (xb 0) (xz (xb 1) (xz (xb 2) JP)))) (xz (xb 3) JP))) tf te) g2):=by
 obtain⟨h1,h2,I⟩:=xM hb;refine zfd [a,b,c,d] E M hc hk h1 hi (λC s H D=>?_) hf he J L hs
 exact qE (X:=zQ X ([a,b,c,d]++E) g C s H D) hc (zn (qE (X:=zQ X ([a,b,c,d]++E) g C s H D) hc (zn (jK (h2 a 1e3) I rfl) (zn (jK (h2 b 1e3) I rfl) (zn (jK (h2 c 1e3) I rfl) z7)))) (zn (jK (h2 d 1e3) I rfl) z7))
end
section
variable{P:Program}{w:World}{K:W.Frag}{C:Str->Option Value}{l:Heap}
inductive WW(K:W.Frag)(s:List V)(H:Hp)(Q:VK):Prop
 | mk (g c:Addr) (J:Job) (st:Nat->Int) (_:s=[.ref g,.ref c]) (_:Rep K H (j6 J) (.ref g)) (_:J.fs.length<=1000) (_:SqL K H c (jU J.fs.length st)) (_:∀(p:Addr) b,Same H b->Rep K b (j6 (j8 J st)) (.ref p)->Q (.ref p) b):WW K s H Q
def zem(K:W.Frag):Sp:=λb H Q _=>WW K b H Q
theorem zeV:zD ["job","stock","gate","heads","feeders","parts","aheads","changed"] ["job","stock"] (zu (topL 21)):=u4
theorem zfY{J:Job}{st:Nat->Int}{i:Nat}{f:xw}(h:J.fs[i]? =some f):(j8 J st).fs.take (i+1)=(j8 J st).fs.take i++[{ f with m:=st i }]:=zM (by rw[ZL,h];rfl)
theorem zg9{f:Addr}{fd:FuncData}(F:Fun K "restocked_job" "restocked_job" (topL 21) f fd)(B:Blt C):FnOk P w K C l CX0 1 f fd ["job","stock"] (zem K):=by
 have I:=zeV.nd;refine F.ok zeV 0#d (λac A U s H vs Q E hr h=>?_)
 .obtain⟨jp,c,J,st,rfl,_⟩:=h
  rfl
 .obtain⟨jp,c,J,st,rfl,rj,fl,hc,k⟩:=h
  have ab:=bG1000000;obtain⟨g,fs,ps,as,fv,px,qj,rg,qf,rf,qp,rp,ra⟩:=xL rj;have lf:=rf.len;rw[zm] at lf;refine{_,(ze (jQ (pv 0) (qE rfl (zn (zq (i:=2) I rfl 0#a) (zn (zq (i:=3) I rfl 0#a) (zn (zq (i:=4) I rfl 0#a) (zn (zq (i:=5) I rfl 0#a) (zn (zq (i:=6) I rfl 0#a) z7)))))))
   (ze (zjj [] [] rfl rfl (by kernel_rfl) (zai rfl B.zip (za (pv 4) 0#k)) 0#g (λ_ _ _ _=>(qL (za (pv 0) (za (pv 1) (za (pv 3) zd))))) (zq (i:=7) I rfl 0#a))
   (zi (zy (qL (pa5 (pv 2) (pv 3) (jw jJ rfl B.tuple jF (za (pv 7) zd)) (pv 5) (pv 6))))))),?_}
  refine{_,rfl,jp,_,rfl,qj,rfl,_,_,rfl,_,_,rfl,_,_,rfl,_,_,rfl,_,_,rfl,rfl,?_}
  refine{_,rfl,_,rfl,false,true,fs,c,rfl,⟨fv,qf⟩,{_,hc},?_}
  refine zaw (K:=K) (k1:=false) (k2:=true) (xs:=fv) (ys:=jU J.fs.length st) (λi b G=>Reps K G (((j8 J st).fs.take i).map wq) b/\Same H G) {rfl,ua _} (λi b G ⟨_,M⟩=>{M.sqT qf,M.seq hc}) ?_ ?_
  .rintro i x y b G T e1 e2 ⟨L,M⟩ hT
   have s4:=M.trans (zb (o:=.tup [x,y]) hT);have aa:=L.same (zb (o:=.tup [x,y]) hT);obtain⟨d,q1,r1⟩:=(rf.same s4).get e1;rw[qk] at q1;obtain⟨fe,w1,rfl⟩:=qG.mp q1;have hi:=(zK.mp w1).1;rw[vd hi] at e2;cases e2;obtain⟨fa,fc,rfl,Y,a0⟩:=x6 r1;have zl:=L.len;rw[zm,qv] at zl;refine{T,_,rfl,u7 zc,rfl,_,_,rfl,{fa,_,rfl,Y,rfl,_,_,rfl,_,_,rfl,_,_,rfl,rfl,_,_,rfl,rfl,rfl,?_}}
   generalize upd G T (.tup [.ref fa,.int (st i)])=O at *
   refine{_,rfl,_,rfl,_,rfl,by show 3<=_;omega,λq hq=>{(),?_,s4.trans (zb hq)}}
   rw[zfY w1,zL];have sq:=zb (H:=O) (o:=.tup [.str fe.k,.ref fc,.int (st i)]) hq;exact(aa.same sq).app {_,_,rfl,{q,_,rfl,u7 zc,_,_,rfl,rfl,_,_,rfl,{fc,_,rfl,sq.sqT a0,_,_,rfl,rfl,_,_,rfl,rfl,rfl},_,_,rfl,rfl,rfl},rfl}
  .rintro b G ⟨L,M⟩
   rw[jT,lf,Nat.min_self,<- vE J st,qB] at L;have zl:=L.len;rw[zm,vE] at zl;refine{(),λD hD=>?_}
   have sD:=zb (H:=G) (o:=.lst b) hD;refine{_,rfl,_,rfl,_,rfl,D,b,rfl,.inl {u6 zc,λt ht=>?_}}
   have sT:=sD.trans (zb (o:=.tup b) ht);have qT:=zc (H:=upd G D (.lst b)) (a:=t) (o:=.tup b);generalize upd (upd G D (.lst b)) t (.tup b)=O at sT qT;refine{_,rfl,_,rfl,by show 5<=_;omega,λp hp=>?_}
   have sp:=zb (H:=O) (o:=.tup [.ref g,.int J.hd,.ref t,.ref ps,.ref as]) hp;have N:=(M.trans sT).trans sp;exact k p _ N {p,_,rfl,u7 zc,_,_,rfl,rg.same N,_,_,rfl,rfl,_,_,rfl,{t,b,rfl,u7 (sp _ _ qT),L.same (sT.trans sp)},_,_,rfl,{ps,px,rfl,N.sqT qp,rp.same N},_,_,rfl,ra.same N,rfl}
def WG(b g c s:Int):Int:=if ZE (g-s)>ZE (b-c) then ZE (g-s) else ZE (b-c)
theorem zgw(a:Int):0<=ZE a:=by unfold ZE;split<;>omega
theorem ziS(b g c s:Int):0<=WG b g c s:=by
 unfold WG;have:=zgw (g-s);have:=zgw (b-c);split<;>assumption
theorem ziT(b g c s t:Int):WG b g c s<=t↔ZE (b-c)<=t/\ZE (g-s)<=t:=by
 unfold WG;split<;>omega
theorem ziU{g A s B:Int}(a:0<=g)(b:g<=1000)(c:0<=A)(d:A<=1000)(D:0<=s)(E:s<=1000)(G:0<=B)(H:B<=1000):WG g A s B<=1000:=by
 rw[ziT];unfold ZE;constructor<;>split<;>omega
def inB(p:Int×Int):Prop:=0<=p.1/\p.1<=1000/\0<=p.2/\p.2<=1000
def wn:List (Int×Int)->List Int
 | p::q::r=>WG p.1 p.2 q.1 q.2::wn (q::r)
 | _=>[]
theorem ZG:∀b:List (Int×Int),(wn b).length=b.length-1
 | []=>rfl
 | [_]=>rfl
 | p::q::r=>by
  have:=ZG (q::r);show(wn (q::r)).length+1=_;rw[this];simp
theorem WF:∀{ps:List (Int×Int)} {i:Nat} {p q:Int×Int},ps[i]? =some p->ps[i+1]? =some q->(wn ps)[i]? =some (WG p.1 p.2 q.1 q.2)
 | [],_,_,_,h,_=>by simp at h
 | [_],i,_,_,_,h=>by simp at h
 | a::b::r,0,p,q,h1,h2=>by simp at h1 h2;subst h1;subst h2;rfl
 | a::b::r,i+1,p,q,h1,h2=>WF (ps:=b::r) (i:=i) (by simpa using h1) (by simpa using h2)
theorem zbl:∀{ps:List (Int×Int)},(∀p∈ps,inB p)->∀z∈wn ps,0<=z/\z<=1000
 | [],_,z,h=>by cases h
 | [_],_,z,h=>by cases h
 | a::b::r,hb,z,h=>by
  rcases qH.mp h with e | h
  .have h1:=hb a 1e3
   have h2:=hb b 1e3
   rw[e];exact{ziS _ _ _ _,ziU h1.1 h1.2.1 h1.2.2.1 h1.2.2.2 h2.1 h2.2.1 h2.2.2.1 h2.2.2.2}
  .exact zbl (ps:=b::r) (λp hp=>hb p (xg _ hp)) z h
def plD(p:Int×Int):Dat:=.tup [.int p.1,.int p.2]
theorem zb9{H:Hp}{p:Int×Int}{x:V}(h:Rep K H (plD p) x):∃a,x=.ref a/\SqT K H a [.int p.1,.int p.2]:=by
 obtain⟨E,L,rfl,b,G,J,g,B,I,c,s,D,A⟩:=h;subst g s;cases(show c=[] from A)
 cases(show G=_ from B)
 cases(show I=_ from D)
 exact⟨E,rfl,b⟩
inductive zbs(K:W.Frag)(b:List V)(H:Hp)(Q:VK):Prop
 | mk (u v:V) (p q:Int×Int) (_:b=[u,v]) (_:Rep K H (plD p) u) (_:Rep K H (plD q) v) (_:Q (.int (WG p.1 p.2 q.1 q.2)) H):zbs K b H Q
def zh8(K:W.Frag):Sp:=λb H Q _=>zbs K b H Q
theorem zkO:zD ["one","other"] ["one","other"] (zu (topL 3)):=u4
theorem zjx{f:Addr}{G:FuncData}(F:Fun K "way_between" "way_between" (topL 3) f G)(B:Blt C):FnOk P w K C l CX0 1 f G ["one","other"] (zh8 K):=by
 refine F.ok zkO (λL H Q E h=>?_) (λJ A D s H L Q E M h=>?_)
 .obtain⟨u,v,p,q,rfl,_⟩:=h
  rfl
 .obtain⟨u,v,p,q,rfl,c,g,k⟩:=h
  obtain⟨a,rfl,I⟩:=zb9 c;obtain⟨b,rfl,hb⟩:=zb9 g;refine{_,(zi (zy (zt (Qu rfl) rfl B.max J3 (za (zt Z1 rfl B.abs Z5 (za (zO vy 0#z (zJ qC (pv 1) zg 0#c)) zd)) (za (zt Z1 rfl B.abs Z5 (za (zO vy 0#z (zJ qC (pv 1) zg 0#c)) zd)) zd))))),?_}
  refine{_,rfl,a,_,_,_,rfl,rfl,I,rfl,_,rfl,b,_,_,_,rfl,rfl,hb,rfl,_,_,rfl,rfl,_,rfl,_,rfl,a,_,_,_,rfl,rfl,I,rfl,_,rfl,b,_,_,_,rfl,rfl,hb,rfl,_,_,rfl,rfl,_,rfl,_,_,rfl,k}
theorem zdR(b:List V):jA b (some 1) none=b.drop 1:=by
 unfold jA;rw[show(some (1:Int))=some ((1:Nat):Int) from rfl,HT.sIx_nat,HT.sIx_none]
 cases b with
 | nil=>rfl
 | cons x r=>
  have:min 1 (x::r).length=1:=by simp only[jZ];omega
  rw[this];simp
inductive zbJ(K:W.Frag)(g:List V)(H:Hp)(Q:VK):Prop
 | mk (a:Addr) (s:List V) (b:List (Int×Int)) (_:g=[.ref a]) (_:SqL K H a s) (_:Reps K H (b.map plD) s) (_:(∀p∈b,inB p)) (_:b.length<=1000) (_:∀c,Same H c->Q (.int (wn b).sum) c):zbJ K g H Q
def zid(K:W.Frag):Sp:=λb H Q _=>zbJ K b H Q
theorem ziq:zD ["places"] ["places"] (zu (topL 4)):=u4
theorem zjD{f:Addr}{fd:FuncData}(F:Fun K "length_of" "length_of" (topL 4) f fd)(B:Blt C)(b:Dfn P w K C l "way_between" 1 ["one","other"] (zh8 K)):FnOk P w K C l CX0 2 f fd ["places"] (zid K):=by
 have nd:=ziq.nd;refine F.ok ziq 0#d (λaa A Y s H vs Q E hr h=>?_)
 .obtain⟨a,c,L,rfl,_⟩:=h
  rfl
 .obtain⟨a,c,L,rfl,hx,hp,hb,hl,k⟩:=h
  have a0:=bG100000;have U:=hp.len;rw[zm] at U;refine{_,(zi (zy (zt (Vk rfl) rfl B.sum boot_sum (za (vI [] [] rfl rfl (by kernel_rfl) (zai rfl B.zip (za (pv 0) (za (vg yT (pv 0) (vf zg) wS) zd))) 0#g (λ_ _ _ _=>(zf b hr.m rfl (za (pv 0) 0#k)))) zd)))),?_}
  refine{_,rfl,_,rfl,1,rfl,a,c,rfl,hx,λt ht=>?_}
  have s1:Same H (upd H t (.lst (jA c (some 1) none))):=zb ht;have G:upd H t (.lst (jA c (some 1) none)) t=some (.lst (c.drop 1)):=by rw[zc,zdR]
  have I:=s1.seq hx;have g:=hp.same s1;generalize upd H t (.lst (jA c (some 1) none))=H1 at s1 G I g;refine{true,true,a,t,rfl,⟨c,I⟩,{_,u6 G},?_}
  refine zaw (K:=K) (k1:=true) (k2:=true) (xs:=c) (ys:=c.drop 1) (λi N M=>N=((wn L).take i).map V.int/\Same H1 M) {rfl,ua _} (λi N M ⟨_,J⟩=>{J.seq I,J.seq (u6 G)}) ?_ ?_
  .rintro i x y N M T e1 e2 ⟨rfl,J⟩ hT
   have O:c[i+1]? =some y:=by rw[Wm] at e2;rw[Nat.add_comm];exact e2
   have s4:=J.trans (zb (o:=.tup [x,y]) hT);obtain⟨d1,q1,r1⟩:=(g.same s4).get e1;obtain⟨d2,q2,r2⟩:=(g.same s4).get O;rw[qk] at q1 q2;obtain⟨p,w1,rfl⟩:=qG.mp q1;obtain⟨q,w2,rfl⟩:=qG.mp q2;refine{T,_,rfl,u7 zc,rfl,_,_,rfl,_,_,rfl,rfl,rfl,?_}
   refine{_,rfl,_,rfl,x,y,p,q,rfl,r1,r2,?_,?_,s4}
   .have:=ZG L
    rw[zm,qv];omega
   .rw[zM (WF w1 w2),zL];rfl
  .rintro N M ⟨rfl,J⟩
   have hm:min c.length (c.drop 1).length=(wn L).length:=by rw[ZG,ZA];omega
   refine{by rw[zm,qv];omega,λD hD=>{D,wn L,rfl,?_,λz hz=>?_,by rw[ZG];omega,k _ ((s1.trans J).trans (zb hD))}}
   .refine u6 ?_
    rw[zc,hm,qB]
   .have:=zbl hb z hz
    omega
end
theorem at0{x:V}{r:List V}:atI (x::r) 0=some x:=qr (j:=0) rfl
inductive Ev where
 | behind (p:Nat) | none (p:Nat) | failed (p:Nat) | dropped (p:Nat) | picked (p f:Nat) | missed (p f:Nat) | laid (p:Nat) (k:Str) (x y:Int)
def Ev.w:Ev->Str
 | .behind _=> "behind" | .none _=> "none" | .failed _=> "failed" | .dropped _=> "dropped" | .picked _ _=> "picked" | .missed _ _=> "missed" | .laid _ _ _ _=> "laid"
def Ev.p:Ev->Nat
 | .behind p=>p | .none p=>p | .failed p=>p | .dropped p=>p | .picked p _=>p | .missed p _=>p | .laid p _ _ _=>p
def Ev.r:Ev->List Dat
 | .picked _ f=>[.int (f:Int)] | .missed _ f=>[.int (f:Int)] | .laid _ k x y=>[.str k,.tup [.int x,.int y]] | _=>[]
def evD(e:Ev):Dat:=.tup (.str e.w::.int (e.p:Int)::e.r)
def zH(c:List Str)(b:List Ev):List Ev:=b.filter λe=>decide (e.w∈c)
theorem zcr(t:Str):∀l:List Str,inV (.str t) (l.map V.str)=decide (t∈l)
 | []=>(jO (λz=>nomatch z)).symm
 | x::l=>by
  show((x==t)||inV (.str t) (l.map V.str))=_
  rw[zcr t l,vm,Wb,xQ,xQ,qH,xH];exact{λh=>h.imp Eq.symm id,λh=>h.imp Eq.symm id}
theorem QN{α:Type}{f:α->Bool}{l:List α}{i:Nat}{x:α}(h:l[i]? =some x):(l.take (i+1)).filter f=(l.take i).filter f++if f x=true then [x] else []:=by
 rw[zM h,xI];congr 1
 cases q:f x with
 | true=>rw[QY q,zC rfl];rfl
 | false=>rw[QX (by rw[q];exact qS),zw qS];rfl
section
variable{P:Program}{w:World}{K:W.Frag}{I:Str->Option Value}{C:Heap}
theorem wu{H:Hp}{e:Ev}{x:V}(h:Rep K H (evD e) x):∃a r,x=.ref a/\SqT K H a (.str e.w::.int (e.p:Int)::r)/\Reps K H e.r r:=by
 obtain⟨a,s,rfl,q,c,l,rfl,h0,g,b,rfl,h1,h2⟩:=h;cases(show c=_ from h0)
 cases(show g=_ from h1)
 exact⟨a,b,rfl,q,h2⟩
def Evs(K:W.Frag)(H:Hp)(l:Addr)(c:List Ev):Prop:=∃b,H l=some (.lst b)/\Reps K H (c.map evD) b
theorem Evs.same{H c:Hp}{l:Addr}{g:List Ev}(h:Evs K H l g)(s:Same H c):Evs K c l g:=let ⟨A,a,b⟩:=h;{A,s _ _ a,b.same s}
inductive zbQ(K:W.Frag)(g:List V)(H:Hp)(Q:VK):Prop
 | mk (l t:Addr) (c:List Ev) (s:List Str) (_:g=[.ref l,.ref t]) (_:Evs K H l c) (_:SqT K H t (s.map V.str)) (_:c.length<=100000) (_:∀(p:Addr) b,H p=none->Same H b->Evs K b p (zH s c)->Q (.ref p) b):zbQ K g H Q
def X3(K:W.Frag):Sp:=λb H Q _=>zbQ K b H Q
theorem ziy:zD ["events","words"] ["events","words"] (zu (topL 41)):=u4
theorem zjL{f:Addr}{T:FuncData}(F:Fun K "events_of" "events_of" (topL 41) f T)(B:Blt I):FnOk P w K I C CX0 1 f T ["events","words"] (X3 K):=by
 have nd:=ziy.nd;refine F.ok ziy 0#d (λa0 A L s H vs Q E hr h=>?_)
 .obtain⟨l,t,g,b,rfl,_⟩:=h
  rfl
 .obtain⟨l,t,g,b,rfl,⟨xs,Y,rx⟩,ht,le,k⟩:=h
  have U:=bG1000000;have xl:=rx.len;rw[zm] at xl;refine{_,(zi (zy (jE ["words"] [1] rfl rfl (by kernel_rfl) (zZ (pv 0)) (λ_ _ _ _=>(xh (zP (jV (K:=K) rfl) 0#A (pv 1) (by with_unfolding_all rfl)))) 0#m))),?_}
  refine{_,rfl,l,rfl,{_,u6 Y},qR (K:=K) (a:=l) (xs:=xs) (λi J G=>Reps K G ((zH b (g.take i)).map evD) J/\Same H G) {rfl,ua _} (λi J G ⟨_,s1⟩=>u6 (s1 _ _ Y)) ?_ ?_}
  .rintro i x J G hx ⟨D,s1⟩
   obtain⟨d,N,rd⟩:=(rx.same s1).get hx;rw[qk] at N;obtain⟨e,O,rfl⟩:=qG.mp N;obtain⟨a,r,rfl,qa,_⟩:=wu rd;have il:=(zK.mp O).1;have M:=D.len;rw[zm] at M;have z2:(zH b (g.take i)).length<=i:=jN (jq _ _) (by rw[qv];omega)
   have e2:zH b (g.take (i+1))=zH b (g.take i)++if decide (e.w∈b)=true then [e] else []:=QN O
   refine{rfl,_,rfl,a,_,_,.str e.w,rfl,rfl,qa,at0,_,rfl,t,_,rfl,.inr (s1.sqT ht),rfl,Qj b,_,rfl,?_}
   rw[zcr,e2];refine j7 (λc=>{_,rfl,(),?_,s1}) (λc=>{?_,s1})
   .rw[zC (show decide (e.w∈b)=true from c),zL]
    exact ue rd D
   .rw[zw (show ¬decide (e.w∈b)=true from c),qA];exact D
  .rintro J G ⟨D,s1⟩
   rw[xl,qB] at D;have M:=D.len;rw[zm] at M;have z2:(zH b g).length<=g.length:=jq _ _;refine{(),λp hp=>k p _ (s1.free hp) (s1.trans (zb hp)) {_,zc,D.same (zb hp)}}
inductive zbC(K:W.Frag)(g:List V)(H:Hp)(Q:VK):Prop
 | mk (l t:Addr) (c:List Ev) (s:List Str) (_:g=[.ref l,.ref t]) (_:Evs K H l c) (_:SqT K H t (s.map V.str)) (_:c.length<=100000) (_:∀(p:Addr) b,H p=none->Same H b->b p=some (.lst ((zH s c).map λe=>V.int (e.p:Int)))->Q (.ref p) b):zbC K g H Q
def zbD(K:W.Frag):Sp:=λb H Q _=>zbC K b H Q
theorem zim:zD ["events","words"] ["events","words"] (zu (topL 42)):=u4
theorem zjA{f:Addr}{T:FuncData}(F:Fun K "parts_of" "parts_of" (topL 42) f T)(B:Blt I)(b:Dfn P w K I C "events_of" 1 ["events","words"] (X3 K)):FnOk P w K I C CX0 2 f T ["events","words"] (zbD K):=by
 have nd:=zim.nd;refine F.ok zim 0#d (λa0 A L s H vs Q E hr h=>?_)
 .obtain⟨l,t,c,D,rfl,_⟩:=h
  rfl
 .obtain⟨l,t,c,D,rfl,hl,ht,le,k⟩:=h
  have U:=bG1000000;refine{_,(zi (zy (jE [] [] rfl rfl (by kernel_rfl) (zZ (zf b hr.m rfl (za (pv 0) 0#k))) 0#g (λ_ _ _ _=>0#A)))),?_}
  refine{_,rfl,_,rfl,l,t,c,D,rfl,hl,ht,le,λq H1 hq s1 ⟨xs,hx,M⟩=>?_}
  have z2:(zH D c).length<=c.length:=jq _ _;generalize zH D c=fs at M k z2;have Y:=M.len;rw[zm] at Y;refine{q,rfl,{_,u6 hx},qR (K:=K) (a:=q) (xs:=xs) (λi G g=>G=(fs.take i).map (λe=>V.int (e.p:Int))/\Same H1 g) {rfl,ua _} (λi G g ⟨_,s2⟩=>u6 (s2 _ _ hx)) ?_ ?_}
  .rintro i x G g J ⟨rfl,s2⟩
   obtain⟨d,N,rd⟩:=(M.same s2).get J;rw[qk] at N;obtain⟨e,O,rfl⟩:=qG.mp N;obtain⟨a,r,rfl,qa,_⟩:=wu rd;have il:=(zK.mp O).1;refine{rfl,_,rfl,a,_,_,_,rfl,rfl,qa,at1,by rw[zm,qv];omega,?_,s2}
   rw[zM O,zL];rfl
  .rintro G g ⟨rfl,s2⟩
   rw[Y,qB];exact{by rw[zm];omega,λp hp=>k p _ (s1.free (s2.free hp)) ((s1.trans s2).trans (zb hp)) zc}
def zS:List Str:=["picked","missed"]
def zT:List Str:=["behind","none","failed","dropped"]
structure TxG(K:W.Frag)(a:Addr)(ws:List Str):Prop where
 all:∀H,SqT K H a (ws.map V.str)
structure JSm(J:Job):Prop where
 ps:J.ps.length<=60
 fs:J.fs.length<=60
 as:∀q∈asI J,InN J.ps.length q.1/\InN J.ps.length q.2
 al:J.as.length<=300
theorem zfW(z:Int)(l:List Ev):inV (.int z) (l.map λe=>V.int (e.p:Int))=l.any λe=>((e.p:Int)==z):=by
 unfold inV;rw[List.any_map];rfl
theorem YN(l:List Ev):(l.map λe=>V.int (e.p:Int)).all xj=true:=by
 rw[List.all_map];exact vn.mpr λ_ _=>rfl
inductive W7(K:W.Frag)(B:List V)(H:Hp)(Q:VK):Prop
 | mk (A l:Addr) (J:Job) (s:Nat) (c:List Ev) (_:B=[.ref A,.int (s:Int),.ref l]) (_:Rep K H (j6 J) (.ref A)) (_:JSm J) (_:s<J.ps.length) (_:Evs K H l c) (_:c.length<=100000) (_:∀b g,Same H g->(b=true↔∃e∈zH zT c,(e.p:Int)≠(s:Int)/\∃k,Wk (asI J) k (e.p:Int) (s:Int))->Q (.bl b) g):W7 K B H Q
def zad(K:W.Frag):Sp:=λb H Q _=>W7 K b H Q
theorem ze0:zD ["job","part","events","given"] ["job","part","events"] (zu (topL 43)):=u4
theorem zhf{f U:Addr}{fd:FuncData}(F:Fun K "is_lost" "is_lost" (topL 43) f fd)(B:Blt I)(b:I "GIVEN_UP" = some (.ref U))(G:TxG K U zT)(L:Dfn P w K I C "parts_of" 2 ["events","words"] (zbD K))(c:Dfn P w K I C "ahead_of" 3 ["job","part"] (ZK K)):FnOk P w K I C CX0 4 f fd ["job","part","events"] (zad K):=by
 have nd:=ze0.nd;refine F.ok ze0 0#d (λac A a0 s H vs Q E hr h=>?_)
 .obtain⟨jp,l,J,s,N,rfl,_⟩:=h
  rfl
 .obtain⟨jp,l,J,s',N,rfl,rj,Y,sl,hl,le,k⟩:=h
  have aa:=bG1000000;have ae:=Y.ps;refine{_,(ze (zG (i:=3) nd rfl (Or.inr rfl) (zf L hr.m rfl (za (pv 2) (za (ZR (v:=.ref U) rfl b rfl) zd))))
   (zi (zy (zt (Za rfl) rfl B.any Z3 (za (jE ["given"] [3] rfl rfl (by kernel_rfl) (zZ (zf c hr.m rfl (za (pv 0) 0#k))) 0#g 0#v) zd))))),?_}
  refine{_,rfl,l,U,N,zT,rfl,hl,G.all _,le,λg H1 hg s1 G1=>?_}
  have z2:(zH zT N).length<=N.length:=jq _ _;generalize zH zT N=fs at G1 k z2;refine{_,rfl,_,rfl,(s':Int),jp,J,rfl,rj.same s1,Y.ps,{(),()},Y.as,Y.al,λml O H2 s2 _ M2 ab _ mem=>?_}
  have G2:=s2 _ _ G1;refine{ml,rfl,{_,u6 M2},qR (K:=K) (a:=ml) (xs:=O.map V.int) (λi zs T=>zs=((O.take i).map λz=>fs.any λe=>((e.p:Int)==z)).map V.bl/\Same H2 T) {rfl,ua _} (λi zs T ⟨_,M⟩=>u6 (M _ _ M2)) ?_ ?_}
  .rintro i x zs T hx ⟨rfl,M⟩
   rw[qk] at hx;obtain⟨z,ez,rfl⟩:=qG.mp hx;have il:=(zK.mp ez).1;refine{rfl,_,rfl,_,rfl,g,_,rfl,.inl (u6 (M _ _ G2)),rfl,YN fs,by rw[zm,zm,qv];omega,?_,M}
   rw[zM ez,zL,zL,zfW];rfl
  .rintro zs T ⟨rfl,M⟩
   rw[show O.take (O.map V.int).length=O by rw[zm,qB]]
   refine{by rw[zm,zm];omega,λD hD=>{D,_,rfl,u6 zc,k _ _ ((s1.trans (s2.trans M)).trans (zb hD)) ?_}}
   rw[List.any_map,vN];constructor
   .rintro⟨z,hz,h⟩
    obtain⟨e,he,h2⟩:=vN.mp h;have h3:(e.p:Int)=z:=by simpa using h2
    rw[<- h3] at hz;exact{e,he,(mem _).mp hz}
   .rintro⟨e,he,h⟩
    exact{(e.p:Int),(mem _).mpr h,vN.mpr {e,he,1e3}}
def Ev.f:Ev->Nat
 | .picked _ f=>f | .missed _ f=>f | _=>0
def jD(b:List Ev):List Int:=(zH zS b).map λe=>(e.f:Int)
theorem zbq{b:List Ev}{e:Ev}(h:e∈zH zS b):e.r=[.int (e.f:Int)]:=by
 have:=qP (qI.mp h).2;cases e with
 | picked p f=>rfl
 | missed p f=>rfl
 | behind p=>exact absurd (show("behind":Str)∈zS from this) 1e1
 | none p=>exact absurd (show("none":Str)∈zS from this) 1e1
 | failed p=>exact absurd (show("failed":Str)∈zS from this) 1e1
 | dropped p=>exact absurd (show("dropped":Str)∈zS from this) 1e1
 | laid p k x y=>exact absurd (show("laid":Str)∈zS from this) 1e1
def yq(J:Job)(c:xS)(b:List Ev):List Nat:=(atK J.fs c.k J.fs.length).filter λf:Nat=>decide (((jD b).count (f:Int):Int)<(J.fs[f]?.map xw.m).getD 0)
inductive NF(b:List Nat)(own:Nat):V->Prop
 | own (h:own∈b):NF b own (.int (own:Int))
 | non (h:b=[]):NF b own .non
 | least (f:Nat) (n:own∉b) (h:f∈b) (l:∀g∈b,f<=g):NF b own (.int (f:Int))
theorem VQ(z:Nat)(l:List Nat):inV (.int (z:Int)) (zr l)=decide (z∈l):=by
 unfold inV zr;rw[List.any_map,vm,vN,xQ];constructor
 .rintro⟨x,hx,h⟩
  have h2:(x:Int)=(z:Int):=by simpa [eqV] using h
  rw[<- show x=z by omega];exact hx
 .intro h
  exact{z,h,by show((z:Int)==(z:Int))=true;simp}
theorem zdt(l:List Nat):(zr l).all xj=true:=by
 unfold zr;rw[List.all_map];exact vn.mpr λ_ _=>rfl
inductive zes(K:W.Frag)(B:List V)(H:Hp)(Q:VK):Prop
 | mk (g A l:Addr) (J:Job) (p own:Nat) (s:xS) (b:List Ev) (_:B=[.ref g,.ref A,.ref l]) (_:Rep K H (j6 J) (.ref g)) (_:JSm J) (_:SqT K H A [.int (p:Int),.int (own:Int)]) (_:J.ps[p]? =some s) (_:Evs K H l b) (_:b.length<=100000) (_:∀v c,Same H c->NF (yq J s b) own v->Q v c):zes K B H Q
def zkA(K:W.Frag):Sp:=λb H Q _=>zes K b H Q
theorem zkX:zD ["job","pick","events","part","own","taken","ready"] ["job","pick","events"] (zu (topL 44)):=u4
theorem zlA{f tr:Addr}{fd:FuncData}(F:Fun K "next_feeder" "next_feeder" (topL 44) f fd)(B:Blt I)(O:I "TRIED" = some (.ref tr))(G:TxG K tr zS)(M:Dfn P w K I C "events_of" 1 ["events","words"] (X3 K))(b:Dfn P w K I C "feeders_for" 1 ["job","kind"] (zeE K)):FnOk P w K I C CX0 2 f fd ["job","pick","events"] (zkA K):=by
 have nd:=zkX.nd;refine F.ok zkX 0#d (λay A ap s H vs Q E hr h=>?_)
 .obtain⟨jp,pk,l,J,p,own,pa,D,rfl,_⟩:=h
  rfl
 .obtain⟨jp,pk,l,J,p,own,pa,D,rfl,rj,js,hp,ep,hl,le,k⟩:=h
  have aw:=bG1000000;have hu:=hr.units0;have af:=hr.units;have b0:=js.fs;obtain⟨g,fs,ps,as,fv,aq,qj,_,qf,rf,qp,rp,_⟩:=xL rj;refine{_,(ze (jQ (pv 1) 0#G)
   (ze (zG (i:=5) nd rfl (Or.inr rfl) (jE [] [] rfl rfl (by kernel_rfl) (zZ (zf M hr.m rfl (za (pv 2) (za (ZR (v:=.ref tr) rfl O rfl) zd)))) 0#g (λ_ _ _ _=>0#A)))
   (ze (wR ["taken","job"] [5,0] rfl rfl (by kernel_rfl) (zZ (zf b hr.m rfl (za (pv 0) (za (zJ qC (zJ qC 0#z (pv 3) 0#c) zg 0#c) zd)))) (λ_ _ _ _=>(xh (zP Yq (zaj (K:=K) rfl j5 Wx Ww Qp (pv 1) 0#y) (zJ 0#p (zJ 0#p (zJ 0#p (pv 2) zg 0#c) (pv 0) 0#c) zg 0#c) (zR _)))) 0#m (zq (i:=6) nd rfl 0#a))
   (ze (jb (zP vU (pv 4) (pv 6) (by with_unfolding_all rfl))
   (zi (zy (pv 4)))
   zY)
   (zi (zy (Jx (JY rfl af) rfl B.min JZ (za (pv 6) zd) vv))))))),?_}
  refine{_,rfl,pk,_,rfl,hp,rfl,_,_,rfl,_,_,rfl,rfl,?_}
  refine{_,rfl,l,tr,D,zS,rfl,hl,G.all _,le,λq H1 hq s1 ⟨xs,hx,rx⟩=>?_}
  have z2:(zH zS D).length<=D.length:=jq _ _;have xl:=rx.len;rw[zm] at xl;refine{q,rfl,{_,u6 hx},qR (K:=K) (a:=q) (xs:=xs) (λi U H2=>U=(((zH zS D).take i).map λe=>(e.f:Int)).map V.int/\Same H1 H2) {rfl,ua _} (λi U H2 ⟨_,s2⟩=>u6 (s2 _ _ hx)) ?_ ?_}
  .rintro i x U H2 N ⟨rfl,s2⟩
   obtain⟨d,Y,rd⟩:=(rx.same s2).get N;rw[qk] at Y;obtain⟨e,ee,rfl⟩:=qG.mp Y;obtain⟨a,r,rfl,qa,rr⟩:=wu rd;rw[zbq (qz ee)] at rr;obtain⟨x0,r0,rfl,e0,_⟩:=rr;cases(show x0=_ from e0)
   have il:=(zK.mp ee).1;refine{rfl,_,rfl,a,_,_,_,rfl,rfl,qa,at2,by rw[zm,zm,qv];omega,?_,s2}
   rw[zM ee,zL,zL];rfl
  rintro U H2 ⟨rfl,s2⟩;rw[xl,qB];refine{by rw[zm,zm];omega,λtk ao=>?_}
  have s3:=(s1.trans s2).trans (zb (H:=H2) (o:=.lst (((zH zS D).map λe=>(e.f:Int)).map V.int)) ao)
  have T3:=zc (H:=H2) (a:=tk) (o:=.lst (((zH zS D).map λe=>(e.f:Int)).map V.int))
  rw[show((zH zS D).map λe=>(e.f:Int))=jD D from rfl] at s3 T3 ⊢
  generalize upd H2 tk (.lst ((jD D).map V.int))=H3 at s3 T3;have pl:=rp.len;rw[zm] at pl;obtain⟨xp,ae⟩:∃x,aq[p]? =some x:={_,qK (by rw[pl];exact(zK.mp ep).1)}
  obtain⟨d,Y,rd⟩:=rp.get ae;rw[qk,ep] at Y;cases Y;obtain⟨ag,pc,rfl,au,_⟩:=yV rd;refine{_,rfl,_,rfl,jp,_,_,_,rfl,rfl,s3.sqT qj,rfl,_,rfl,ps,_,_,.ref ag,rfl,rfl,s3.sqT qp,qr ae,ag,_,_,_,rfl,rfl,s3.sqT au,rfl,jp,J,pa.k,rfl,rj.same s3,(),λfl H4 az s4 L4=>?_}
  have ah:=s3.trans s4;have T4:=s4 _ _ T3;have al:=J6 J.fs pa.k J.fs.length;have a0:=rf.len;rw[zm] at a0;have ab:∀f∈atK J.fs pa.k J.fs.length,f<J.fs.length:=λf hf=>xB.mp (qI.mp hf).1
  rw[show yq J pa D=(atK J.fs pa.k J.fs.length).filter λf:Nat=>decide 0#B from rfl] at k
  generalize atK J.fs pa.k J.fs.length=L at L4 al ab k;refine{fl,rfl,{_,u6 L4},qR (K:=K) (a:=fl) (xs:=zr L) (λi U H5=>An2 (U=zr ((L.take i).filter λf:Nat=>decide 0#B)) (Same H4 H5)) {rfl,ua _} (λi U H5 ⟨_,T⟩=>u6 (T _ _ L4)) ?_ ?_}
  .rintro i x U H5 N ⟨rfl,T⟩
   have ax:=N;unfold zr at N;rw[qk] at N;obtain⟨f,ef,rfl⟩:=qG.mp N;have aj:=ab f (qz ef);have ii:=(zK.mp ef).1;obtain⟨xf,ac⟩:∃x,fv[f]? =some x:={_,qK (by rw[a0];exact aj)}
   obtain⟨d,Y,av⟩:=rf.get ac;rw[qk] at Y;obtain⟨fe,ai,rfl⟩:=qG.mp Y;obtain⟨fa,fc,rfl,ar,_⟩:=x6 av;have aa:=ah.trans T;have zl:((L.take i).filter λf:Nat=>decide 0#B).length<=i:=jN (jq _ _) (by rw[qv];omega)
   refine{rfl,_,rfl,.inl {rfl,_,u6 (T _ _ T4)},_,rfl,tk,jD D,(f:Int),rfl,rfl,T _ _ T4,_,rfl,jp,_,_,_,rfl,rfl,aa.sqT qj,rfl,_,rfl,fs,_,_,.ref fa,rfl,rfl,aa.sqT qf,qr ac,fa,_,_,_,rfl,rfl,aa.sqT ar,rfl,_,_,rfl,rfl,_,rfl,?_}
   rw[QN ef,ai];show if decide (((jD D).count (f:Int):Int)<fe.m)=true then _ else _
   refine j7 (λc=>?_) (λc=>?_)
   .refine{_,rfl,by rw[zA];omega,?_,T}
    rw[show(Option.map xw.m (some fe)).getD 0=fe.m from rfl,zC c,xX]
   .refine{?_,T}
    rw[show(Option.map xw.m (some fe)).getD 0=fe.m from rfl,zw c,qA]
  rintro U H5 ⟨rfl,T⟩;rw[show L.take (zr L).length=L by rw[zA,qB]]
  have rl:(L.filter λf:Nat=>decide 0#B).length<=L.length:=jq _ _
  generalize (L.filter λf:Nat=>decide 0#B)=R at k rl
  refine{by rw[zA];omega,λro an=>?_}
  have s6:=(ah.trans T).trans (zb (H:=H5) (o:=.lst (zr R)) an);have R6:=zc (H:=H5) (a:=ro) (o:=.lst (zr R));generalize upd H5 ro (.lst (zr R))=H6 at s6 R6;refine{_,rfl,_,rfl,ro,_,rfl,.inl (u6 R6),rfl,zdt R,_,rfl,?_}
  rw[VQ];refine j7 (λc=>?_) (λc=>?_)
  .exact{_,rfl,k _ _ s6 (.own (qP c))}
  .refine{_,rfl,ro,R.map λi:Nat=>(i:Int),rfl,u6 (by rw[R6];unfold zr;rw[xc];rfl),λh=>k _ _ s6 (.non (List.map_eq_nil_iff.mp h)),λm hm am=>?_}
   obtain⟨f,hf,rfl⟩:=zN.mp hm;exact k _ _ s6 (.least f (λz=>c (qg z)) hf λg' ak=>by have:=am _ (zN.mpr ⟨g',ak,rfl⟩);omega)
def YD(b:List Bool)(c:List Ev):Bool:=if b.length<=(zH zS c).length then true else b.getD (zH zS c).length false
theorem Evs.len{H:Hp}{l:Addr}{c:List Ev}(h:Evs K H l c):∃xs,H l=some (.lst xs)/\xs.length=c.length:=by
 obtain⟨xs,a,b⟩:=h;have:=b.len;rw[zm] at this;exact⟨xs,a,this⟩
inductive W5(K:W.Frag)(A:List V)(H:Hp)(Q:VK):Prop
 | mk (s l:Addr) (g:List Bool) (b:List Ev) (_:A=[.ref s,.ref l]) (_:SqL K H s (g.map V.bl)) (_:Evs K H l b) (_:b.length<=100000) (_:∀c,Same H c->Q (.bl (YD g b)) c):W5 K A H Q
def zev(K:W.Frag):Sp:=λb H Q _=>W5 K b H Q
theorem zeZ:zD ["luck","events","spent"] ["luck","events"] (zu (topL 45)):=u4
theorem zhe{f J:Addr}{T:FuncData}(F:Fun K "is_lucky" "is_lucky" (topL 45) f T)(B:Blt I)(g:I "TRIED" = some (.ref J))(G:TxG K J zS)(b:Dfn P w K I C "events_of" 1 ["events","words"] (X3 K)):FnOk P w K I C CX0 2 f T ["luck","events"] (zev K):=by
 have nd:=zeZ.nd;refine F.ok zeZ 0#d (λa0 A N s H vs Q E hr h=>?_)
 .obtain⟨M,l,L,O,rfl,_⟩:=h
  rfl
 .obtain⟨M,l,L,O,rfl,hk,hl,le,k⟩:=h
  refine{_,(ze (zG (i:=2) nd rfl 0#a (zt zI rfl B.len boot_len (za (zf b hr.m rfl (za (pv 1) (za (ZR (v:=.ref J) rfl g rfl) zd))) zd)))
   (zi (zy (ziI (qZ zcd (pv 2) (zt zI rfl B.len boot_len 0#y) (zR _)) (vt (zJ qO (pv 0) (pv 2) 0#c)))))),?_}
  refine{_,rfl,l,J,O,zS,rfl,hl,G.all _,le,λq Y hq s1 U=>?_}
  obtain⟨xs,hx,xl⟩:=U.len;have mb:(L.map V.bl).length=L.length:=zm ..;have D:=k Y s1;unfold YD at D;refine{q,_,rfl,.inl (u6 hx),_,rfl,_,rfl,M,_,rfl,.inl (s1.seq hk),_,_,rfl,rfl,_,rfl,j7 (λc=>?_) (λc=>?_)}
  .have c':=qP c
   rw[zC ()] at D
   exact D
  .have c':=of_decide_eq_false ((zaQ _).mp c)
   rw[zw ()] at D
   refine{_,rfl,_,rfl,M,_,_,_,rfl,rfl,s1.seq hk,?_,D}
   rw[xl];refine qr ?_
   rw[qk,Zm,qK ()];rfl
def zbk(J:Job)(p:Nat)(b:List Ev):Prop:=∃e∈zH zT b,(e.p:Int)≠(p:Int)/\∃k,Wk (asI J) k (e.p:Int) (p:Int)
inductive TryR(J:Job)(l:xS)(p own:Nat)(s:List Bool)(c:List Ev):Nat->List Ev->List Ev->Prop
 | fin (b:List Ev):TryR J l p own s c 0 b (b++[.failed p])
 | none (n:Nat) (b:List Ev) (h:NF (yq J l (c++b)) own .non):TryR J l p own s c (n+1) b (b++[.none p])
 | luck (n:Nat) (b:List Ev) (f:Nat) (h:NF (yq J l (c++b)) own (.int (f:Int))) (g:YD s (c++b)=true):TryR J l p own s c (n+1) b (b++[.picked p f])
 | miss (n:Nat) (b:List Ev) (f:Nat) (r:List Ev) (h:NF (yq J l (c++b)) own (.int (f:Int))) (g:YD s (c++b)=false) (t:TryR J l p own s c n (b++[.missed p f]) r):TryR J l p own s c (n+1) b r
def PickR(J:Job)(g:xS)(p own:Nat)(c:List Bool)(n:Nat)(b r:List Ev):Prop:=(zbk J p b/\r=[.behind p])\/(¬zbk J p b/\TryR J g p own c b n [] r)
theorem wW:∀b:List Ev,Dat.imms (b.map evD)=true
 | []=>rfl
 | e::b=>by
  show((evD e).imm&&Dat.imms (b.map evD))=true;rw[wW b];cases e<;>rfl
theorem VX{H:Hp}{T c q:Addr}{g ys:List V}{b:List Ev}{e:Ev}(r:Reps K H (b.map evD) g)(A:Reps K H (.str e.w::.int (e.p:Int)::e.r) ys)(l:H T=none)(h1:upd H T (.tup ys) c=none)(hq:upd (upd H T (.tup ys)) c (.lst [.ref T]) q=none) :
  Evs K (upd (upd (upd H T (.tup ys)) c (.lst [.ref T])) q (.lst (g++[.ref T]))) q (b++[e]):=by
 have s2:=(zb (o:=.lst [.ref T]) h1).trans (zb (o:=.lst (g++[.ref T])) hq);have s1:=(zb (o:=.tup ys) l).trans s2;refine{_,zc,?_}
 rw[zL];have s:Rep K (upd (upd (upd H T (.tup ys)) c (.lst [.ref T])) q (.lst (g++[.ref T]))) (evD e) (.ref T):={T,ys,rfl,u7 (s2 _ _ zc),A.same s1};exact ue s (r.same s1)
inductive W0(K:W.Frag)(E:List V)(H:Hp)(Q:VK):Prop
 | mk (s D A l:Addr) (J:Job) (p own:Nat) (B:xS) (g:List Bool) (n:Nat) (c:List Ev) (_:E=[.ref s,.ref D,.ref A,.int (n:Int),.ref l]) (_:Rep K H (j6 J) (.ref s)) (_:JSm J) (_:SqT K H D [.int (p:Int),.int (own:Int)]) (_:J.ps[p]? =some B) (_:SqL K H A (g.map V.bl)) (_:n<=10) (_:Evs K H l c) (_:c.length<=10000) (_:∀(q:Addr) (r:List Ev) b,H q=none->Same H b->Evs K b q r->r.length<=n+1->PickR J B p own g n c r->Q (.ref q) b):W0 K E H Q
def zeo(K:W.Frag):Sp:=λb H Q _=>W0 K b H Q
theorem zeX:zD ["job","pick","luck","tries","events","part","found","step","feeder"] ["job","pick","luck","tries","events"] (zu (topL 46)):=u4
theorem zhb{f:Addr}{fd:FuncData}(F:Fun K "pick_events" "pick_events" (topL 46) f fd)(B:Blt I)(O:Dfn P w K I C "is_lost" 4 ["job","part","events"] (zad K))(G:Dfn P w K I C "next_feeder" 2 ["job","pick","events"] (zkA K))(M:Dfn P w K I C "is_lucky" 2 ["luck","events"] (zev K)):FnOk P w K I C CX0 5 f fd ["job","pick","luck","tries","events"] (zeo K):=by
 have nd:=zeX.nd;refine F.ok zeX 0#d (λao A am s H vs Q E hr h=>?_)
 .obtain⟨jp,pk,lk,l,J,p,own,pa,bs,n,es,rfl,_⟩:=h
  rfl
 .obtain⟨jp,pk,lk,l,J,p,own,pa,bs,n,es,rfl,rj,js,hp,ep,hk,ap,hl,le,k⟩:=h
  have an:=bG1000000;have ac:=bGe;have pl:=(zK.mp ep).1;refine{_,(ze (zG (i:=5) nd rfl 0#a (zJ qC (pv 1) zg 0#c))
   (ze (jb (jH (zf O hr.m rfl (za (pv 0) (za (pv 5) (za (pv 4) zd)))))
   (zi (zy (z9 (za (qL (za xD (za (pv 5) zd))) zd))))
   zY)
   (ze (zG (i:=6) nd rfl 0#a (z9 zd))
   (ze (jh jL rfl (jS rfl B.range (za (pv 3) zd)) (zq (i:=7) nd rfl 0#a)
   (ze (zG (i:=8) nd rfl 0#a (zf G hr.m rfl (za (pv 0) (za (pv 1) (za (zO xr (pv 4) (pv 6)) zd)))))
    (ze (jb (zP zal (pv 8) vv (zR _))
    (zi (zy (zO xr (pv 6) (z9 (za (qL (za xD (za (pv 5) zd))) zd)))))
    zY)
    (ze (jb (jH (zf M hr.m rfl (za (pv 2) (za (zO xr (pv 4) (pv 6)) zd))))
    (zi (zy (zO xr (pv 6) (z9 (za (qL (za xD (za (pv 5) (za (pv 8) zd)))) zd)))))
    zY)
    (zi (ji (xi j5 vQ vP jr (pv 6) (za (qL (za xD (za (pv 5) (za (pv 8) zd)))) zd))))))))
   (zi (zy (zO xr (pv 6) (z9 (za (qL (za xD (za (pv 5) zd))) zd))))))))),?_}
  refine{_,rfl,pk,_,_,_,rfl,rfl,hp,rfl,?_}
  refine{_,rfl,_,rfl,_,rfl,jp,l,J,p,es,rfl,rj,js,pl,hl,(),λb H1 s1 hb=>{_,rfl,?_}}
  obtain⟨U,af,a0⟩:=hl;have ae:=a0.len;rw[zm] at ae;cases b with
  | true=>
   refine ifT rfl ?_
   refine{_,rfl,le2,λT L=>{le1,λq hq=>?_}}
   have s2:=(zb (o:=.tup [.str "behind",.int (p:Int)]) L).trans (zb (o:=.lst [.ref T]) hq);have he:Rep K (upd (upd H1 T (.tup [.str "behind",.int (p:Int)])) q (.lst [.ref T])) (evD (.behind p)) (.ref T):={T,_,rfl,u7 ((zb hq) _ _ zc),_,_,rfl,rfl,_,_,rfl,rfl,rfl};refine k q [.behind p] _ (s1.free ((zb L).free hq)) (s1.trans s2) {_,zc,_,_,rfl,he,rfl} (by show 1<=_;omega) (.inl {hb.mp rfl,rfl})
  | false=>
   refine ifF rfl ?_
   have nl:¬zbk J p es:=λz=>by have:=hb.mpr z;cases this
   refine{le0,λfo ag=>?_}
   have al:H fo=none:=s1.free ag;refine{_,rfl,_,rfl,(by rw[ac];omega),(by rw[ac];omega),?_}
   rw[vO];refine xo (λi σ H'=>Ex4 λ(D:List Ev) (N:List V) (v7 v8:Option V)=>An6 (σ=[some (.ref jp),some (.ref pk),some (.ref lk),some (.int (n:Int)),some (.ref l),some (.int (p:Int)),some (.ref fo),v7,v8]) (Same H H') (H' fo=some (.lst N)) (Reps K H' (D.map evD) N) (D.length<=i) (∀r,TryR J pa p own bs es (n-i) D r->TryR J pa p own bs es n [] r)) {[],[],_,_,rfl,s1.trans (zb ag),zc,rfl,zF _,λr h=>h} ?_ ?_
   .rintro i σ H2 hi ⟨D,N,v7,v8,rfl,s2,F2,R2,fl,tr⟩
    have xl:=R2.len;rw[zm] at xl;obtain⟨m,em⟩:∃m,n-i=m+1:={n-i-1,()}
    have aj:n-(i+1)=m:=()
    rw[em] at tr;rw[aj];refine{_,rfl,_,rfl,_,rfl,_,rfl,l,fo,_,_,rfl,rfl,s2 _ _ af,F2,(),λc hc=>?_}
    have s3:=zb (H:=H2) (o:=.lst (U++N)) hc;have C3:Evs K (upd H2 c (.lst (U++N))) c (es++D):={_,zc,by rw[zL];exact ug (a0.same (s2.trans s3)) (R2.same s3)}
    generalize upd H2 c (.lst (U++N))=H3 at s3 C3;have aa:=s2.trans s3;refine{jp,pk,c,J,p,own,pa,es++D,rfl,rj.same aa,js,aa.sqT hp,ep,C3,by rw[qh];omega,λv H4 s4 nf=>?_}
    have Y:=aa.trans s4;have F4:=s4 _ _ (s3 _ _ F2);have R4:=R2.same (s3.trans s4);refine{_,rfl,rfl,_,rfl,j7 (λc1=>?_) (λc1=>?_)}
    .have ev:v=.non:=qP c1
     subst ev;refine{_,rfl,_,rfl,le2,λT L=>{le1,λl1 h1=>{fo,l1,_,_,rfl,rfl,(zb h1) _ _ ((zb L) _ _ F4),zc,by show _+1<=_;omega,λq hq=>?_}}}
     have s5:=(zb (o:=.tup [.str "none",.int (p:Int)]) L).trans ((zb (o:=.lst [.ref T]) h1).trans (zb (o:=.lst (N++[.ref T])) hq));exact k q (D++[.none p]) _ (Y.free ((zb L).free ((zb h1).free hq))) (Y.trans s5) (VX (e:=.none p) (ys:=[.str "none",.int (p:Int)]) R4 {_,_,rfl,rfl,_,_,rfl,rfl,rfl} L h1 hq) (by rw[qh];show _+1<=_;omega) (.inr {nl,tr _ (.none m D nf)})
    obtain⟨g,rfl⟩:∃g:Nat,v=.int (g:Int):=by
     cases nf with
     | own h=>exact{_,rfl}
     | non h=>exact absurd (qg rfl) c1
     | least f a b d=>exact{_,rfl}
    refine{_,rfl,_,rfl,_,rfl,l,fo,_,_,rfl,rfl,Y _ _ af,F4,(),λc2 ak=>?_}
    have s5:=zb (H:=H4) (o:=.lst (U++N)) ak;have C5:Evs K (upd H4 c2 (.lst (U++N))) c2 (es++D):={_,zc,by rw[zL];exact ug (a0.same (Y.trans s5)) (R4.same s5)}
    generalize upd H4 c2 (.lst (U++N))=H5 at s5 C5;have ah:=Y.trans s5;refine{lk,c2,bs,es++D,rfl,ah.seq hk,C5,by rw[qh];omega,λH6 s6=>{_,rfl,?_}}
    have ab:=ah.trans s6;have F6:=s6 _ _ (s5 _ _ F4);have R6:=R4.same (s5.trans s6);refine j7 (λc3=>?_) (λc3=>?_)
    .refine{_,rfl,_,rfl,_,rfl,le3,λT L=>{le1,λl1 h1=>{fo,l1,_,_,rfl,rfl,(zb h1) _ _ ((zb L) _ _ F6),zc,by show _+1<=_;omega,λq hq=>?_}}}
     have s7:=(zb (o:=.tup [.str "picked",.int (p:Int),.int (g:Int)]) L).trans ((zb (o:=.lst [.ref T]) h1).trans (zb (o:=.lst (N++[.ref T])) hq));exact k q (D++[.picked p g]) _ (ab.free ((zb L).free ((zb h1).free hq))) (ab.trans s7) (VX (e:=.picked p g) (ys:=[.str "picked",.int (p:Int),.int (g:Int)]) R6 {_,_,rfl,rfl,_,_,rfl,rfl,_,_,rfl,rfl,rfl} L h1 hq) (by rw[qh];show _+1<=_;omega) (.inr {nl,tr _ (.luck m D g nf c3)})
    .refine{_,rfl,.inl {rfl,_,u6 F6},_,rfl,_,rfl,le3,λT L=>{fo,_,_,rfl,rfl,(zb L) _ _ F6,(),?_}}
     have s7:=zb (H:=H6) (o:=.tup [.str "missed",.int (p:Int),.int (g:Int)]) L;have F7:=s7 _ _ F6;have he:Rep K (upd H6 T (.tup [.str "missed",.int (p:Int),.int (g:Int)])) (evD (.missed p g)) (.ref T):={T,_,rfl,u7 zc,_,_,rfl,rfl,_,_,rfl,rfl,_,_,rfl,rfl,rfl};have R7:Reps K (upd H6 T (.tup [.str "missed",.int (p:Int),.int (g:Int)])) ((D++[Ev.missed p g]).map evD) (N++[.ref T]):=by rw[zL];exact ue he (R6.same s7)
     have ai:=ab.trans s7;generalize upd H6 T (.tup [.str "missed",.int (p:Int),.int (g:Int)])=H7 at ai F7 R7;refine{D++[.missed p g],N++[.ref T],_,_,rfl,λc0 u0 e0=>?_,zc,R7.keep (ud F7) (wW _),by rw[qh];show _+1<=_;omega,λr h=>tr r (.miss m D g r nf ((zaQ _).mp c3) h)}
     rw[zp (zj e0 al)];exact ai c0 u0 e0
   .rintro σ H2 ⟨D,N,v7,v8,rfl,s2,F2,R2,fl,tr⟩
    have xl:=R2.len;rw[zm] at xl;rw[V6] at tr;refine{_,rfl,_,rfl,le2,λT L=>{le1,λl1 h1=>{fo,l1,_,_,rfl,rfl,(zb h1) _ _ ((zb L) _ _ F2),zc,by show _+1<=_;omega,λq hq=>?_}}}
    have s5:=(zb (o:=.tup [.str "failed",.int (p:Int)]) L).trans ((zb (o:=.lst [.ref T]) h1).trans (zb (o:=.lst (N++[.ref T])) hq));exact k q (D++[.failed p]) _ (s2.free ((zb L).free ((zb h1).free hq))) (s2.trans s5) (VX (e:=.failed p) (ys:=[.str "failed",.int (p:Int)]) R2 {_,_,rfl,rfl,_,_,rfl,rfl,rfl} L h1 hq) (by rw[qh];show _+1<=_;omega) (.inr {nl,tr _ (.fin D)})
def zmk(J:Job)(b:xS)(p:Nat)(c:List Ev)(e:Ev):Prop:=(zbk J p c/\e=.dropped p)\/(¬zbk J p c/\e=.laid p b.k b.x b.y)
theorem zak{H:Hp}{p:xS}{x:V}(h:Rep K H (vk p) x):∃a c,x=.ref a/\SqT K H a [.str p.k,.ref c]/\Rep K H (.tup [.int p.x,.int p.y]) (.ref c):=by
 obtain⟨a,M,rfl,q,G,L,b,A,N,E,g,B,l⟩:=h;subst b g;cases(show E=[] from l)
 cases(show G=_ from A)
 obtain⟨c,J,rfl,D,s⟩:=B;exact⟨a,c,rfl,q,c,J,rfl,D,s⟩
theorem zgZ{H:Hp}{J:Job}{b:List V}{p:Nat}{l:xS}(D:Reps K H (J.ps.map vk) b)(A:J.ps[p]? =some l):∃a c,b[p]? =some (.ref a)/\SqT K H a [.str l.k,.ref c]/\Rep K H (.tup [.int l.x,.int l.y]) (.ref c):=by
 have B:=D.len;rw[zm] at B;obtain⟨M,g⟩:∃x,b[p]? =some x:={_,qK (by rw[B];exact(zK.mp A).1)}
 obtain⟨d,s,L⟩:=D.get g;rw[qk,A] at s;cases s;obtain⟨a,c,rfl,E,G⟩:=zak L;exact⟨a,c,g,E,G⟩
inductive zbK(K:W.Frag)(A:List V)(H:Hp)(Q:VK):Prop
 | mk (g l:Addr) (J:Job) (p:Nat) (s:xS) (c:List Ev) (_:A=[.ref g,.int (p:Int),.ref l]) (_:Rep K H (j6 J) (.ref g)) (_:JSm J) (_:J.ps[p]? =some s) (_:Evs K H l c) (_:c.length<=100000) (_:∀(T:Addr) (e:Ev) b,Same H b->Rep K b (evD e) (.ref T)->zmk J s p c e->Q (.ref T) b):zbK K A H Q
def zie(K:W.Frag):Sp:=λb H Q _=>zbK K b H Q
theorem zir:zD ["job","part","events","kind","place"] ["job","part","events"] (zu (topL 47)):=u4
theorem zjE{f:Addr}{fd:FuncData}(F:Fun K "lay_event" "lay_event" (topL 47) f fd)(B:Blt I)(D:Dfn P w K I C "is_lost" 4 ["job","part","events"] (zad K)):FnOk P w K I C CX0 5 f fd ["job","part","events"] (zie K):=by
 have nd:=zir.nd;refine F.ok zir 0#d (λa0 A U s H vs Q E hr h=>?_)
 .obtain⟨O,l,J,p,L,M,rfl,_⟩:=h
  rfl
 .obtain⟨O,l,J,p,L,M,rfl,rj,js,Y,hl,le,k⟩:=h
  obtain⟨g,fs,ps,as,fv,aa,qj,_,qf,rf,qp,rp,_⟩:=xL rj;obtain⟨a,c,N,qa,rc⟩:=zgZ rp Y;refine{_,(ze (jb (jH (zf D hr.m rfl (za (pv 0) (za (pv 1) 0#t))))
   (zi (zy (qL (za xD 0#k))))
   zY)
   (ze (jQ (zJ qC 0#z (pv 1) 0#c) 0#G)
   (zi (zy (qL (za xD (za (pv 1) (za (pv 3) (za (pv 4) zd))))))))),?_}
  refine{_,rfl,_,rfl,_,rfl,O,l,J,p,M,rfl,rj,js,(zK.mp Y).1,hl,le,λb H1 s1 hb=>{_,rfl,?_}}
  cases b with
  | true=>
   refine ifT rfl {_,rfl,le2,λT G=>?_}
   exact k T (.dropped p) _ (s1.trans (zb G)) {T,_,rfl,u7 zc,_,_,rfl,rfl,_,_,rfl,rfl,rfl} (.inl {hb.mp rfl,rfl})
  | false=>
   refine ifF rfl ?_
   have nl:¬zbk J p M:=λz=>by have:=hb.mpr z;cases this
   refine{_,rfl,O,_,_,_,rfl,rfl,s1.sqT qj,rfl,_,rfl,ps,_,_,.ref a,rfl,rfl,s1.sqT qp,qr N,a,_,rfl,s1.sqT qa,rfl,_,_,rfl,_,_,rfl,rfl,?_}
   refine{_,rfl,_,rfl,_,rfl,le4,λT G=>?_}
   exact k T (.laid p L.k L.x L.y) _ (s1.trans (zb G)) {T,_,rfl,u7 zc,_,_,rfl,rfl,_,_,rfl,rfl,_,_,rfl,rfl,_,_,rfl,rc.same (s1.trans (zb G)),rfl} (.inr ⟨nl,rfl⟩)
def zle(c:List (Nat×Nat))(b:List Nat):Dat:=.tup [.tup (c.map jM),.tup (b.map λn:Nat=>Dat.int (n:Int))]
inductive PksR(J:Job)(l:List Bool)(n:Nat)(s:List Ev):List 0#e->List Ev->Prop
 | nil:PksR J l n s [] []
 | snoc (c:List 0#e) (b:List Ev) (p own:Nat) (A:xS) (r:List Ev) (h:PksR J l n s c b) (e:J.ps[p]? =some A) (g:PickR J A p own l n (s++b) r):PksR J l n s (c++[(p,own)]) (b++r)
inductive LysR(J:Job)(A:List Ev)(s:List Ev):List Nat->List Ev->Prop
 | nil (b:List Ev) (h:b=s):LysR J A s [] b
 | skip (c:List Nat) (b:List Ev) (p:Nat) (h:LysR J A s c b) (g:(zH ["picked"] s).any (λe=>((e.p:Int)==(p:Int)))=false):LysR J A s (c++[p]) b
 | lay (c:List Nat) (b:List Ev) (p:Nat) (B:xS) (e:Ev) (h:LysR J A s c b) (g:(zH ["picked"] s).any (λe=>((e.p:Int)==(p:Int)))=true) (D:J.ps[p]? =some B) (l:zmk J B p (A++b) e):LysR J A s (c++[p]) (b++[e])
def TripR(J:Job)(s:List Bool)(n:Nat)(l:List Ev)(g:List 0#e)(c:List Nat)(r:List Ev):Prop:=∃b,PksR J s n l g b/\LysR J l b c r
inductive zbB(K:W.Frag)(G:List V)(H:Hp)(Q:VK):Prop
 | mk (B E D l:Addr) (J:Job) (c:List 0#e) (b:List Nat) (A:List Bool) (n:Nat) (s:List Ev) (_:G=[.ref B,.ref E,.ref D,.int (n:Int),.ref l]) (_:Rep K H (j6 J) (.ref B)) (_:JSm J) (_:Rep K H (zle c b) (.ref E)) (_:(∀q∈c,q.1<J.ps.length)) (_:(∀q∈b,q<J.ps.length)) (_:c.length<=60) (_:b.length<=60) (_:SqL K H D (A.map V.bl)) (_:n<=10) (_:Evs K H l s) (_:s.length<=5000) (_:∀(q:Addr) (r:List Ev) g,H q=none->Same H g->Evs K g q r->r.length<=11*c.length+b.length->TripR J A n s c b r->Q (.ref q) g):zbB K G H Q
def zh9(K:W.Frag):Sp:=λb H Q _=>zbB K b H Q
theorem zil:zD ["job","trip","luck","tries","events","picks","lays","found","pick","picked","part"] ["job","trip","luck","tries","events"] (zu (topL 48)):=u4
theorem zjz{f:Addr}{fd:FuncData}(F:Fun K "trip_events" "trip_events" (topL 48) f fd)(B:Blt I)(G:Dfn P w K I C "pick_events" 5 ["job","pick","luck","tries","events"] (zeo K))(M:Dfn P w K I C "parts_of" 2 ["events","words"] (zbD K))(L:Dfn P w K I C "lay_event" 5 ["job","part","events"] (zie K)):FnOk P w K I C CX0 6 f fd ["job","trip","luck","tries","events"] (zh9 K):=by
 have nd:=zil.nd;refine F.ok zil 0#d (λbe A ay s H vs Q E hr h=>?_)
 .obtain⟨jp,tp,lk,l,J,af,an,bs,n,es,rfl,_⟩:=h
  rfl
 .obtain⟨jp,tp,lk,l,J,af,an,bs,n,es,rfl,rj,js,rt,b0,as,bg,bf,hk,aw,hl,le,k⟩:=h
  have bd:=bG1000000;obtain⟨O,ak,ac⟩:=hl;have aj:=ac.len;rw[zm] at aj;obtain⟨t0,bh,e0,qt,x0,r0,rfl,⟨pt,ba,rfl,qp,ap⟩,x1,r1,rfl,⟨lt,av,rfl,ql,ao⟩,e1⟩:=rt;cases e0;cases(show r1=[] from e1)
  have ag:=ap.len;rw[zm] at ag;have ae:=ao.len;rw[zm] at ae;refine{_,(ze (jQ (pv 1) (qE rfl (zn (zq (i:=5) nd rfl 0#a) (zn (zq (i:=6) nd rfl 0#a) z7))))
   (ze (zG (i:=7) nd rfl 0#a (z9 zd))
   (ze (jh jL rfl (xO (pv 5)) (zq (i:=8) nd rfl 0#a)
   (zi (ji (xi j5 Xw Xv Qo (pv 7) (za (zf G hr.m rfl (pa5 (pv 0) (pv 8) (pv 2) (pv 3) (zO xr (pv 4) (pv 7)))) zd)))))
   (ze (zG (i:=9) nd rfl 0#a (zf M hr.m rfl (za (pv 7) (za (qL (za xD zd)) zd))))
   (ze (jh jL rfl (xO (pv 6)) (zq (i:=10) nd rfl 0#a)
   (zi (jb (zP vU (pv 10) (pv 9) (by with_unfolding_all rfl))
    (zi (ji (xi j5 vQ vP jr (pv 7) (za (zf L hr.m rfl (za (pv 0) (za (pv 10) (za (zO xr (pv 4) (pv 7)) zd)))) zd))))
    zY)))
   (zi (zy (pv 7)))))))),?_}
  refine{_,rfl,tp,_,rfl,qt,rfl,_,_,rfl,_,_,rfl,rfl,le0,λU a0=>?_}
  have s1:=zb (H:=H) (o:=.lst []) a0;refine{_,rfl,pt,rfl,{_,s1.sqT qp},Jf (K:=K) (a:=pt) (xs:=ba) (λi σ Y=>Ex3 λ(b:List Ev) (D:List V) (v8:Option V)=>An6 (σ=[some (.ref jp),some (.ref tp),some (.ref lk),some (.int (n:Int)),some (.ref l),some (.ref pt),some (.ref lt),some (.ref U),v8,none,none]) (Same H Y) (Y U=some (.lst D)) (Reps K Y (b.map evD) D) (b.length<=11*i) (PksR J bs n es (af.take i) b)) {[],[],_,rfl,s1,zc,rfl,zF _,.nil} (λi σ Y _ ⟨_,_,_,_,s',_,_,_,_⟩=>s'.sqT qp) ?_ ?_}
  .rintro i x σ H2 hx ⟨b,D,v8,rfl,s2,F2,R2,fl,pr⟩
   have xl:=R2.len;rw[zm] at xl;have il:=(zK.mp hx).1;obtain⟨d,ed,rd⟩:=(ap.same s2).get hx;rw[qk] at ed;obtain⟨⟨p,own⟩,al,rfl⟩:=qG.mp ed;obtain⟨az,ys,rfl,bb,y0,r0,rfl,g0,y1,r1,rfl,g1,g2⟩:=rd;cases(show r1=[] from g2)
   cases(show y0=_ from g0)
   cases(show y1=_ from g1)
   have hp:=b0 _ (qz al);have ep:J.ps[p]? =some J.ps[p]:=qK hp;generalize J.ps[p]=pa at ep;refine{_,rfl,.inl {rfl,_,u6 F2},_,rfl,_,rfl,_,rfl,_,rfl,_,rfl,_,rfl,l,U,_,_,rfl,rfl,s2 _ _ ak,F2,(),λc hc=>?_}
   have N:=zb (H:=H2) (o:=.lst (O++D)) hc;have C3:Evs K (upd H2 c (.lst (O++D))) c (es++b):={_,zc,by rw[zL];exact ug (ac.same (s2.trans N)) (R2.same N)}
   generalize upd H2 c (.lst (O++D))=H3 at N C3;have ah:=s2.trans N;refine{jp,az,lk,c,J,p,own,pa,bs,n,es++b,rfl,rj.same ah,js,N.sqT bb,ep,ah.seq hk,aw,C3,by rw[qh];omega,λq r H4 hq s4 ⟨zs,hz,rz⟩ rl pk=>?_}
   have zl:=rz.len;rw[zm] at zl;have F4:=s4 _ _ (N _ _ F2);have R4:Reps K H4 ((b++r).map evD) (D++zs):=by rw[zL];exact ug (R2.same (N.trans s4)) rz
   have aa:=ah.trans s4;refine{U,q,_,_,rfl,rfl,F4,hz,(),b++r,D++zs,_,rfl,λc0 u0 e0=>?_,zc,R4.keep (ud F4) (wW _),by rw[qh];omega,?_}
   .rw[zp (zj e0 a0)];exact aa c0 u0 e0
   .rw[zM al]
    exact .snoc _ b p own pa r pr ep pk
  rintro σ H2 ⟨b,D,v8,rfl,s2,F2,R2,fl,pr⟩;rw[ag,qB] at pr;rw[ag] at fl;refine{_,rfl,le1,λwt ar=>?_}
  have N:=zb (H:=H2) (o:=.tup [.str "picked"]) ar;have W3:=zc (H:=H2) (a:=wt) (o:=.tup [.str "picked"]);generalize upd H2 wt (.tup [.str "picked"])=H3 at N W3;refine{U,wt,b,["picked"],rfl,{D,N _ _ F2,R2.same N},u7 W3,(),λpd H4 am s4 P4=>?_}
  have aa:=s2.trans (N.trans s4);have F4:=s4 _ _ (N _ _ F2);have R4:=R2.same (N.trans s4);have ax:U≠pd:=λz=>by rw[<- z,N _ _ F2] at am;cases am
  refine{_,rfl,lt,rfl,{_,aa.sqT ql},Jf (K:=K) (a:=lt) (xs:=av) (λi σ Y=>Ex3 λ(g:List Ev) (D:List V) (ai:Option V)=>An7 (σ=[some (.ref jp),some (.ref tp),some (.ref lk),some (.int (n:Int)),some (.ref l),some (.ref pt),some (.ref lt),some (.ref U),v8,some (.ref pd),ai]) (Same H Y) (Y U=some (.lst D)) (Reps K Y (g.map evD) D) (g.length<=11*af.length+i) (Y pd=some (.lst ((zH ["picked"] b).map λe=>V.int (e.p:Int)))) (LysR J es b (an.take i) g)) {b,D,_,rfl,aa,F4,R4,(),P4,.nil _ rfl} (λi σ Y _ ⟨_,_,_,_,s',_,_,_,_,_⟩=>s'.sqT ql) ?_ ?_}
  .rintro i x σ H5 hx ⟨g,D,ai,rfl,s5,F5,R5,ol,P5,lr⟩
   have xl:=R5.len;rw[zm] at xl;have il:=(zK.mp hx).1;obtain⟨d,ed,rd⟩:=(ao.same s5).get hx;rw[qk] at ed;obtain⟨p,ab,rfl⟩:=qG.mp ed;cases(show x=_ from rd)
   have hp:=as _ (qz ab);have ep:J.ps[p]? =some J.ps[p]:=qK hp;generalize J.ps[p]=pa at ep;refine{_,rfl,_,rfl,pd,_,rfl,.inl (u6 P5),rfl,YN _,_,rfl,?_}
   rw[zfW];refine j7 (λc1=>?_) (λc1=>?_)
   .refine{_,rfl,.inl {rfl,_,u6 F5},_,rfl,_,rfl,_,rfl,_,rfl,l,U,_,_,rfl,rfl,s5 _ _ ak,F5,(),λc hc=>?_}
    have s6:=zb (H:=H5) (o:=.lst (O++D)) hc;have C6:Evs K (upd H5 c (.lst (O++D))) c (es++g):={_,zc,by rw[zL];exact ug (ac.same (s5.trans s6)) (R5.same s6)}
    generalize upd H5 c (.lst (O++D))=H6 at s6 C6;have aq:=s5.trans s6;refine{jp,c,J,p,pa,es++g,rfl,rj.same aq,js,ep,C6,by rw[qh];omega,λT e H7 s7 re au=>?_}
    have F7:=s7 _ _ (s6 _ _ F5);have P7:=s7 _ _ (s6 _ _ P5);have R7:Reps K H7 ((g++[e]).map evD) (D++[.ref T]):=by rw[zL];exact ue re (R5.same (s6.trans s7))
    have bc:=aq.trans s7;refine{U,_,_,rfl,rfl,F7,(),g++[e],D++[.ref T],_,rfl,λc0 u0 e0=>?_,zc,R7.keep (ud F7) (wW _),by rw[qh];show _+1<=_;omega,by rw[zp (qD ax)];exact P7,?_}
    .rw[zp (zj e0 a0)];exact bc c0 u0 e0
    .rw[zM ab]
     exact .lay _ g p pa e lr c1 ep au
   .refine{g,D,_,rfl,s5,F5,R5,(),P5,?_}
    rw[zM ab];exact .skip _ g p lr ((zaQ _).mp c1)
  .rintro σ H5 ⟨g,D,ai,rfl,s5,F5,R5,ol,_,lr⟩
   rw[ae,qB] at lr;rw[ae] at ol;exact{_,rfl,k U g H5 a0 s5 ⟨D,F5,R5⟩ ol ⟨b,pr,lr⟩}
def Ev.xy:Ev->Int×Int
 | .laid _ _ x y=>(x,y)
 | _=>(0,0)
structure yQ(J:Job)(e:Ev):Prop where
 tr:e.w∈zS->e.f<J.fs.length
 ly:inB e.xy
structure JIn(J:Job):Prop where
 g:inB (J.gx,J.gy)
 f:∀f∈J.fs,inB (f.x,f.y)
 p:∀p∈J.ps,inB (p.x,p.y)
def XI(J:Job)(i:Nat):Int×Int:=((J.fs[i]?.map xw.x).getD 0,(J.fs[i]?.map xw.y).getD 0)
def Vy(J:Job)(b:List Ev):List (Int×Int):=(([(J.gx,J.gy)]++(zH zS b).map λe=>XI J e.f)++(zH ["laid"] b).map Ev.xy)++[(J.gx,J.gy)]
theorem zjQ{b:List Ev}{e:Ev}(h:e∈zH ["laid"] b):∃k,e.r=[.str k,plD e.xy]:=by
 have:=qP (qI.mp h).2;cases e with
 | laid p k x y=>exact⟨k,rfl⟩
 | picked p f=>exact absurd (show("picked":Str)∈(["laid"]:List Str) from this) 1e1
 | missed p f=>exact absurd (show("missed":Str)∈(["laid"]:List Str) from this) 1e1
 | behind p=>exact absurd (show("behind":Str)∈(["laid"]:List Str) from this) 1e1
 | none p=>exact absurd (show("none":Str)∈(["laid"]:List Str) from this) 1e1
 | failed p=>exact absurd (show("failed":Str)∈(["laid"]:List Str) from this) 1e1
 | dropped p=>exact absurd (show("dropped":Str)∈(["laid"]:List Str) from this) 1e1
theorem zhH{J:Job}(j:JIn J){i:Nat}(h:i<J.fs.length):inB (XI J i):=by
 unfold XI;rw[qK h];exact j.f _ (wc _)
theorem zgJ{J:Job}{c:List Ev}(j:JIn J)(h:∀e∈c,yQ J e):∀p∈Vy J c,inB p:=λp hp=>by
 rcases zV.mp hp with hp | hp
 .rcases zV.mp hp with hp | hp
  .rcases zV.mp hp with hp | hp
   .rw[qm.mp hp];exact j.g
   .obtain⟨e,b,rfl⟩:=zN.mp hp
    obtain⟨h1,h2⟩:=qI.mp b;exact zhH j ((h e h1).tr (qP h2))
  .obtain⟨e,b,rfl⟩:=zN.mp hp
   exact(h e (qI.mp b).1).ly
 .rw[qm.mp hp];exact j.g
theorem zhI{H:Hp}{J:Job}{g:List V}{i:Nat}(D:Reps K H (J.fs.map wq) g)(l:i<J.fs.length):∃a c k m,g[i]? =some (.ref a)/\SqT K H a [.str k,.ref c,.int m]/\Rep K H (plD (XI J i)) (.ref c):=by
 have B:=D.len;rw[zm] at B;obtain⟨L,b⟩:∃x,g[i]? =some x:={_,qK (by rw[B];exact l)}
 obtain⟨d,A,G⟩:=D.get b;rw[qk,qK l] at A;cases A;obtain⟨a,c,rfl,E,s⟩:=x6 G;have s:Rep K _ (.tup [.int _,.int _]) (.ref c):={c,_,rfl,s,_,_,rfl,rfl,_,_,rfl,rfl,rfl};refine{a,c,_,_,b,E,?_}
 unfold XI;rw[qK l];exact s
inductive WR(K:W.Frag)(s:List V)(H:Hp)(Q:VK):Prop
 | mk (g l:Addr) (J:Job) (b:List Ev) (_:s=[.ref g,.ref l]) (_:Rep K H (j6 J) (.ref g)) (_:JIn J) (_:Evs K H l b) (_:(∀e∈b,yQ J e)) (_:b.length<=400) (_:∀c,Same H c->Q (.int (wn (Vy J b)).sum) c):WR K s H Q
def zeg(K:W.Frag):Sp:=λb H Q _=>WR K b H Q
theorem zeR:zD ["job","events","feeders","places"] ["job","events"] (zu (topL 49)):=u4
theorem zg5{f tr:Addr}{fd:FuncData}(F:Fun K "way_by" "way_by" (topL 49) f fd)(B:Blt I)(M:I "TRIED" = some (.ref tr))(G:TxG K tr zS)(b:Dfn P w K I C "events_of" 1 ["events","words"] (X3 K))(D:Dfn P w K I C "length_of" 2 ["places"] (zid K)):FnOk P w K I C CX0 3 f fd ["job","events"] (zeg K):=by
 have nd:=zeR.nd;refine F.ok zeR 0#d (λay A ap s H vs Q E hr h=>?_)
 .obtain⟨jp,l,J,N,rfl,_⟩:=h
  rfl
 .obtain⟨jp,l,J,N,rfl,rj,ao,hl,ok,le,k⟩:=h
  have ax:=bG1000000;obtain⟨g,fs,ps,as,fv,b0,qj,rg,qf,rf,qp,rp,_⟩:=xL rj;refine{_,(ze (wR ["job"] [0] rfl rfl (by kernel_rfl) (zZ (zf b hr.m rfl (za (pv 1) (za (ZR (v:=.ref tr) rfl M rfl) zd)))) 0#g (λ_ _ _ _=>(zJ 0#p (zJ 0#p (zJ 0#p (pv 1) zg 0#c) 0#A 0#c) zg 0#c)) (zq (i:=2) nd rfl 0#a))
   (ze (wR [] [] rfl rfl (by kernel_rfl) (zZ (zf b hr.m rfl (za (pv 1) (za (qL (za xD zd)) zd)))) 0#g (λ_ _ _ _=>0#A) (zq (i:=3) nd rfl 0#a))
   (zi (zy (zf D hr.m rfl (za (zO xr (zO xr (zO xr (z9 (za 0#z zd)) (pv 2)) (pv 3)) (z9 (za 0#z zd))) zd)))))),?_}
  refine{_,rfl,l,tr,N,zS,rfl,hl,G.all _,(),λq H1 hq s1 ⟨xs,hx,rx⟩=>?_}
  have z2:(zH zS N).length<=N.length:=jq _ _;have xl:=rx.len;rw[zm] at xl;refine{q,rfl,{_,u6 hx},qR (K:=K) (a:=q) (xs:=xs) (λi c L=>Reps K L ((((zH zS N).take i).map λe=>XI J e.f).map plD) c/\Same H1 L) {rfl,ua _} (λi c L ⟨_,s2⟩=>u6 (s2 _ _ hx)) ?_ ?_}
  .rintro i x c L Y ⟨rz,s2⟩
   obtain⟨d,ed,rd⟩:=(rx.same s2).get Y;rw[qk] at ed;obtain⟨e,U,rfl⟩:=qG.mp ed;obtain⟨a,r,rfl,qa,rr⟩:=wu rd;have hm:=qz U;rw[zbq hm] at rr;obtain⟨x0,r0,rfl,e0,_⟩:=rr;cases(show x0=_ from e0)
   have il:=(zK.mp U).1;have zl:=rz.len;rw[zm,zm,qv] at zl;have hf:=(ok e (qI.mp hm).1).tr (qP (qI.mp hm).2);obtain⟨fa,fc,fk,fm,ef,aq,ar⟩:=zhI rf hf;have T:=s1.trans s2;refine{rfl,_,rfl,jp,_,_,_,rfl,rfl,T.sqT qj,rfl,_,rfl,a,_,_,_,rfl,rfl,qa,at2,fs,_,_,.ref fa,rfl,rfl,T.sqT qf,qr ef,fa,_,_,_,rfl,rfl,T.sqT aq,rfl,(),?_,s2}
   rw[zM U,zL,zL];exact ue (ar.same T) rz
  rintro c L ⟨rz,s2⟩;rw[xl,qB] at rz;have zl:=rz.len;rw[zm,zm] at zl;refine{(),λfe a0=>?_}
  have s3:=(s1.trans s2).trans (zb (H:=L) (o:=.lst c) a0);have F3:=zc (H:=L) (a:=fe) (o:=.lst c);have ag:=rz.same (zb (H:=L) (o:=.lst c) a0);generalize upd L fe (.lst c)=H3 at s3 F3 ag;clear rz;refine{_,rfl,le1,λwt an=>?_}
  have s4:=zb (H:=H3) (o:=.tup [.str "laid"]) an;have W4:=zc (H:=H3) (a:=wt) (o:=.tup [.str "laid"]);generalize upd H3 wt (.tup [.str "laid"])=H4 at s4 W4;refine{l,wt,N,["laid"],rfl,hl.same (s3.trans s4),u7 W4,(),λq2 H5 az s5 ⟨aw,ab,af⟩=>?_}
  have y2:(zH ["laid"] N).length<=N.length:=jq _ _;have aj:=af.len;rw[zm] at aj;refine{q2,rfl,{_,u6 ab},qR (K:=K) (a:=q2) (xs:=aw) (λi c L=>Reps K L ((((zH ["laid"] N).take i).map Ev.xy).map plD) c/\Same H5 L) {rfl,ua _} (λi c L ⟨_,s2⟩=>u6 (s2 _ _ ab)) ?_ ?_}
  .rintro i x O H6 Y ⟨ru,s6⟩
   obtain⟨d,ed,rd⟩:=(af.same s6).get Y;rw[qk] at ed;obtain⟨e,U,rfl⟩:=qG.mp ed;obtain⟨a,r,rfl,qa,rr⟩:=wu rd;obtain⟨lk,el⟩:=zjQ (qz U);rw[el] at rr;obtain⟨x0,r0,rfl,e0,x1,r1,rfl,e1,_⟩:=rr;have il:=(zK.mp U).1;have ul:=ru.len;rw[zm,zm,qv] at ul;refine{rfl,_,rfl,a,_,_,x1,rfl,rfl,qa,(show atI (V.str e.w::V.int (e.p:Int)::x0::x1::r1) ((3:Nat):Int)=some x1 from qr rfl),(),?_,s6}
   rw[zM U,zL,zL];exact ue e1 ru
  rintro O H6 ⟨ru,s6⟩;rw[aj,qB] at ru;have ul:=ru.len;rw[zm,zm] at ul;refine{(),λpl aa=>?_}
  have t6:=(s4.trans (s5.trans s6)).trans (zb (H:=H6) (o:=.lst O) aa);have P7:=zc (H:=H6) (a:=pl) (o:=.lst O);have ae:=ru.same (zb (H:=H6) (o:=.lst O) aa);generalize upd H6 pl (.lst O)=H7 at t6 P7 ae;have s7:=s3.trans t6;have F7:=t6 _ _ F3;have av:=ag.same t6;refine{_,rfl,jp,_,_,_,rfl,rfl,s7.sqT qj,rfl,le1,λa1 h1=>{_,rfl,a1,fe,_,_,rfl,rfl,zc,(zb h1) _ _ F7,by show 1+_<=_;omega,λc1 ak=>?_}}
  have s8:=(zb (H:=H7) (o:=.lst [.ref g]) h1).trans (zb (o:=.lst ([.ref g]++c)) ak);have C8:=zc (H:=upd H7 a1 (.lst [.ref g])) (a:=c1) (o:=.lst ([.ref g]++c));generalize upd (upd H7 a1 (.lst [.ref g])) c1 (.lst ([.ref g]++c))=H8 at s8 C8;refine{_,rfl,c1,pl,_,_,rfl,rfl,C8,s8 _ _ P7,by rw[qh];show 1+_+_<=_;omega,λc2 al=>?_}
  have s9:=s8.trans (zb (H:=H8) (o:=.lst (([.ref g]++c)++O)) al);have C9:=zc (H:=H8) (a:=c2) (o:=.lst (([.ref g]++c)++O));generalize upd H8 c2 (.lst (([.ref g]++c)++O))=H9 at s9 C9;have ah:=s7.trans s9;refine{_,rfl,jp,_,_,_,rfl,rfl,ah.sqT qj,rfl,le1,λa2 h2=>{c2,a2,_,_,rfl,rfl,(zb h2) _ _ C9,zc,by rw[qh,qh];show 1+_+_+1<=_;omega,λc3 am=>?_}}
  have sA:=(zb (H:=H9) (o:=.lst [.ref g]) h2).trans (zb (o:=.lst ((([.ref g]++c)++O)++[.ref g])) am);have ai:=ah.trans sA;have au:=rg.same ai;have ac:Reps K (upd (upd H9 a2 (.lst [.ref g])) c3 (.lst ((([.ref g]++c)++O)++[.ref g]))) ([(J.gx,J.gy)].map plD) [.ref g]:={_,_,rfl,au,rfl};refine{c3,_,Vy J N,rfl,u6 zc,?_,zgJ ao ok,?_,λH' s'=>k H' (ai.trans s')}
  .unfold Vy
   rw[zL,zL,zL];exact ug (ug (ug ac (av.same (s9.trans sA))) (ae.same (s9.trans sA))) ac
  .unfold Vy
   rw[qh,qh,qh,zm,zm];show 1+_+_+1<=_;omega
end
theorem zdI:inB ((0,0):Int×Int):={1e1,1e1,1e1,1e1}
theorem Yj{J:Job}{c:xS}{b:List Ev}{f:Nat}(h:f∈yq J c b):f<J.fs.length:=xB.mp (qI.mp (qI.mp h).1).1
theorem VI{b:List Nat}{own f:Nat}(h:NF b own (.int (f:Int))):f∈b:=by
 generalize hv:V.int (f:Int)=v at h;cases h with
 | own h=>rw[show f=own by have:=V.int.inj hv;omega];exact h
 | non h=>cases hv
 | least g n h l=>rw[show f=g by have:=V.int.inj hv;omega];exact h
theorem yX{J:Job}{a b:List Ev}(h:∀e∈a,yQ J e)(g:∀e∈b,yQ J e):∀e∈a++b,yQ J e:=λe c=>(zV.mp c).elim (h e) (g e)
theorem Ql{J:Job}{x:Ev}(h:yQ J x):∀e∈[x],yQ J e:=λe b=>by rw[qm.mp b];exact h
theorem zdq{J:Job}{p:Nat}:yQ J (.behind p):={λh=>absurd (show("behind":Str)∈zS from h) 1e1,zdI}
theorem zhc{J:Job}{p:Nat}:yQ J (.none p):={λh=>absurd (show("none":Str)∈zS from h) 1e1,zdI}
theorem zdp{J:Job}{p:Nat}:yQ J (.failed p):={λh=>absurd (show("failed":Str)∈zS from h) 1e1,zdI}
theorem zao{J:Job}{p:Nat}:yQ J (.dropped p):={λh=>absurd (show("dropped":Str)∈zS from h) 1e1,zdI}
theorem TryR.ok{J:Job}{A:xS}{p own:Nat}{l:List Bool}{s:List Ev}{n:Nat}{b r:List Ev}(h:TryR J A p own l s n b r):(∀e∈b,yQ J e)->∀e∈r,yQ J e:=by
 induction h with
 | fin b=>exactλc=>yX c (Ql zdp)
 | none n b h=>exactλc=>yX c (Ql zhc)
 | luck n b f h g=>exactλc=>yX c (Ql {λ_=>Yj (VI h),zdI})
 | miss n b f r h g t w=>exactλc=>w (yX c (Ql {λ_=>Yj (VI h),zdI}))
theorem PksR.ok{J:Job}{l:List Bool}{n:Nat}{s:List Ev}{b:List 0#e}{r:List Ev}(h:PksR J l n s b r):∀e∈r,yQ J e:=by
 induction h with
 | nil=>exactλe c=>nomatch c
 | snoc b w p own B r h e g A=>
  refine yX A ?_
  rcases g with ⟨_,rfl⟩ | ⟨_,t⟩
  .exact Ql zdq
  .exact t.ok λe c=>nomatch c
theorem LysR.ok{J:Job}(j:JIn J){B w:List Ev}{b:List Nat}{r:List Ev}(h:LysR J B w b r)(hp:∀e∈w,yQ J e):∀e∈r,yQ J e:=by
 induction h with
 | nil c h=>rw[h];exact hp
 | skip b c p h g s=>exact s
 | lay b c p C e h g A l s=>
  refine yX s (Ql ?_)
  rcases l with ⟨_,rfl⟩ | ⟨_,rfl⟩
  .exact zao
  .exact{λh=>absurd (show("laid":Str)∈zS from h) 1e1,j.p _ (qz A)}
theorem TripR.ok{J:Job}(j:JIn J){l:List Bool}{n:Nat}{s:List Ev}{g:List 0#e}{c:List Nat}{r:List Ev}(h:TripR J l n s g c r):∀e∈r,yQ J e:=let ⟨_,a,b⟩:=h;b.ok j a.ok
inductive RunR(J:Job)(g:List Bool)(n:Nat):List (List 0#e×List Nat)->List Ev->Int->Prop
 | nil:RunR J g n [] [] 0
 | snoc (s:List (List 0#e×List Nat)) (l:List Ev) (w:Int) (c:List 0#e) (b:List Nat) (r:List Ev) (h:RunR J g n s l w) (t:TripR J g n l c b r):RunR J g n (s++[(c,b)]) (l++r) (w+(wn (Vy J r)).sum)
def zlQ(b:List Bool)(s:Nat):Bool:=if b.length<=s then true else b.getD s false
def spent(b:List Ev):Nat:=(zH zS b).length
theorem zhr(b:List Bool)(c:List Ev):YD b c=zlQ b (spent c):=rfl
theorem zB(c:List Str)(a b:List Ev):zH c (a++b)=zH c a++zH c b:=xI ..
theorem vT(a b:List Ev):spent (a++b)=spent a+spent b:=by unfold spent;rw[zB,qh]
theorem zdd{e:Ev}(h:e.w∈zS):spent [e]=1:=by
 show([e].filter λe=>decide (e.w∈zS)).length=1
 rw[QY (p:=λe:Ev=>decide (e.w∈zS)) (qg h)];rfl
theorem zgH(p f:Nat):spent [.missed p f]=1:=zdd (show("missed":Str)∈zS by decide)
theorem NF.uniq{s:List Nat}{own:Nat}{v w:V}(a:NF s own v)(b:NF s own w):v=w:=by
 cases a with
 | own h=>
  cases b with
  | own _=>rfl
  | non c=>rw[c] at h;cases h
  | least f n _ _=>exact absurd h n
 | non h=>
  cases b with
  | own c=>rw[h] at c;cases c
  | non _=>rfl
  | least f n c _=>rw[h] at c;cases c
 | least f n h l=>
  cases b with
  | own c=>exact absurd c n
  | non c=>rw[c] at h;cases h
  | least g _ c A=>
   have:=l g c;have:=A f h;rw[show f=g by omega]
theorem NF.f_uniq{g:List Nat}{own f c:Nat}(a:NF g own (.int (f:Int)))(b:NF g own (.int (c:Int))):f=c:=by
 have:=V.int.inj (a.uniq b);omega
section
variable{J:Job}{s:xS}{p own n:Nat}{c w:List Bool}{l:List Ev}
theorem TryR.uniq{b r E:List Ev}(h:TryR J s p own c l n b r)(B:TryR J s p own c l n b E):r=E:=by
 induction h with
 | fin b=>cases B;rfl
 | none n b h=>
  cases B with
  | none _ _ _=>rfl
  | luck _ _ f g _=>exact absurd (h.uniq g) (λz=>nomatch z)
  | miss _ _ f _ g _ _=>exact absurd (h.uniq g) (λz=>nomatch z)
 | luck n b f h g=>
  cases B with
  | none _ _ A=>exact absurd (A.uniq h) (λz=>nomatch z)
  | luck _ _ C A _=>rw[h.f_uniq A]
  | miss _ _ C _ _ A _=>rw[g] at A;cases A
 | miss n b f r h g t D=>
  cases B with
  | none _ _ A=>exact absurd (A.uniq h) (λz=>nomatch z)
  | luck _ _ C _ A=>rw[g] at A;cases A
  | miss _ _ C _ A _ G=>rw[h.f_uniq A] at D;exact D G
theorem PickR.uniq{r A:List Ev}(h:PickR J s p own c n l r)(g:PickR J s p own c n l A):r=A:=by
 rcases h with ⟨a,rfl⟩ | ⟨a,t⟩
 .rcases g with ⟨_,rfl⟩ | ⟨b,_⟩
  .rfl
  .exact absurd a b
 .rcases g with ⟨b,_⟩ | ⟨_,B⟩
  .exact absurd b a
  .exact t.uniq B
end
section
variable{J:Job}{n:Nat}{s w:List Bool}{c:List Ev}
theorem wH{α:Type}{a b:List α}{x y:α}(h:a++[x]=b++[y]):a=b/\x=y:=by
 have:=List.append_inj' h rfl;exact{this.1,by simpa using this.2}
theorem PksR.uniq{A l:List 0#e}{B b:List Ev}(h:PksR J s n c A B)(E:PksR J s n c l b)(e:A=l):B=b:=by
 induction h generalizing l b with
 | nil=>
  cases E with
  | nil=>rfl
  | snoc A _ p own _ _ _ _ _=>exact absurd e.symm 1e3
 | snoc A B p own Q r h I g M=>
  cases E with
  | nil=>exact absurd e 1e3
  | snoc H D O G N T h2 C L=>
   obtain⟨e1,e2⟩:=wH e;cases e2;cases M h2 e1;rw[I] at C;cases C;rw[g.uniq L]
theorem LysR.uniq{O:List Ev}{l H:List Nat}{r M:List Ev}(h:LysR J c O l r)(E:LysR J c O H M)(e:l=H):r=M:=by
 induction h generalizing H M with
 | nil B h=>
  cases E with
  | nil _ h2=>rw[h,h2]
  | skip l _ _ _ _=>exact absurd e.symm 1e3
  | lay l _ _ _ _ _ _ _ _=>exact absurd e.symm 1e3
 | skip l B p h g G=>
  cases E with
  | nil _ _=>exact absurd e 1e3
  | skip I _ L h2 _=>
   obtain⟨e1,_⟩:=wH e;exact G h2 e1
  | lay I _ L _ _ _ C _ _=>
   obtain⟨_,rfl⟩:=wH e;rw[g] at C;cases C
 | lay l B p Y x h g Q T G=>
  cases E with
  | nil _ _=>exact absurd e 1e3
  | skip I _ L _ C=>
   obtain⟨_,rfl⟩:=wH e;rw[g] at C;cases C
  | lay I N L U x2 h2 _ A D=>
   obtain⟨e1,rfl⟩:=wH e;cases G h2 e1;rw[Q] at A;cases A;rcases T with ⟨a,rfl⟩ | ⟨a,rfl⟩
   .rcases D with ⟨_,rfl⟩ | ⟨b,_⟩
    .rfl
    .exact absurd a b
   .rcases D with ⟨b,_⟩ | ⟨_,rfl⟩
    .exact absurd b a
    .rfl
theorem TripR.uniq{b:List (Nat×Nat)}{l:List Nat}{r C:List Ev}(h:TripR J s n c b l r)(E:TripR J s n c b l C):r=C:=by
 obtain⟨D,h1,h2⟩:=h;obtain⟨B,g,A⟩:=E;cases h1.uniq g rfl;exact h2.uniq A rfl
end
section
variable{J:Job}{n:Nat}{b c:List Bool}
theorem RunR.uniq{A s:List (List 0#e×List Nat)}{B g:List Ev}{w C:Int}(h:RunR J b n A B w)(D:RunR J b n s g C)(e:A=s):B=g/\w=C:=by
 induction h generalizing s g C with
 | nil=>
  cases D with
  | nil=>exact⟨rfl,rfl⟩
  | snoc A _ _ _ _ _ _ _=>exact absurd e.symm 1e3
 | snoc A B w I l r h t H=>
  cases D with
  | nil=>exact absurd e 1e3
  | snoc M G Q E N O h2 L=>
   obtain⟨e1,e2⟩:=wH e;cases e2;obtain⟨rfl,rfl⟩:=H h2 e1;cases t.uniq L;exact⟨rfl,rfl⟩
end
def YZ(b:List (List 0#e×List Nat)):List 0#e:=b.flatMap (·.1)
def V5(b:List (List 0#e×List Nat)):List Nat:=b.flatMap (·.2)
theorem zdZ(b:List (List 0#e×List Nat))(t:List 0#e×List Nat):YZ (b++[t])=YZ b++t.1:=by
 unfold YZ;rw[wA,Xl,zaP,qA]
theorem Qy(b:List (List 0#e×List Nat))(t:List 0#e×List Nat):V5 (b++[t])=V5 b++t.2:=by
 unfold V5;rw[wA,Xl,zaP,qA]
theorem zfI{α:Type}[DecidableEq α]:∀{l m:List α},l.Nodup->(∀x∈l,x∈m)->l.length<=m.length
 | [],_,_,_=>jv _
 | a::l,m,s,h=>by
  obtain⟨c,g⟩:=Zx.mp s;have b:=h a qJ;have:=zfI (l:=l) (m:=m.erase a) g λx hx=>(List.mem_erase_of_ne (λz=>c (by rw[<- z];exact hx))).mpr (h x (xg _ hx))
  rw[zbc b] at this;have:=za7 b;rw[jZ];omega
inductive PkX(p:Nat):Ev->Prop
 | behind:PkX p (.behind p)
 | none:PkX p (.none p)
 | failed:PkX p (.failed p)
 | picked (f:Nat):PkX p (.picked p f)
inductive PkN(p:Nat):Ev->Prop
 | behind:PkN p (.behind p)
 | none:PkN p (.none p)
 | failed:PkN p (.failed p)
section
variable{J:Job}{A:xS}{p own n:Nat}{s:List Bool}{w:List Ev}
theorem TryR.form{b r:List Ev}(h:TryR J A p own s w n b r):∃(fs:List Nat) (x:Ev),r=b++fs.map (.missed p)++[x]/\fs.length<=n/\PkX p x:=by
 induction h with
 | fin b=>exact{[],_,1e3,jv _,.failed}
 | none n b h=>exact{[],_,1e3,jv _,.none}
 | luck n b f h g=>exact{[],_,1e3,jv _,.picked f}
 | miss n b f r h g t c=>
  obtain⟨fs,x,e,l,k⟩:=c;exact{f::fs,x,by rw[e];simp,by rw[jZ];omega,k}
theorem PickR.form{r:List Ev}(h:PickR J A p own s n w r):∃(fs:List Nat) (x:Ev),r=fs.map (.missed p)++[x]/\fs.length<=n/\PkX p x:=by
 rcases h with ⟨_,rfl⟩ | ⟨_,t⟩
 .exact{[],_,rfl,jv _,.behind}
 .obtain⟨fs,x,e,l,k⟩:=t.form
  exact{fs,x,by rw[e,wx],l,k}
theorem vV(b:List Str)(h:("missed":Str)∉b)(p:Nat):∀fs:List Nat,zH b (fs.map (.missed p))=[]
 | []=>rfl
 | f::fs=>by
  show zH b ([.missed p f]++fs.map (.missed p))=[];rw[zB,vV b h p fs,qA];exact QX (p:=λe:Ev=>decide (e.w∈b)) (λz=>h (qP z))
theorem JR(b:List Str)(e:Ev):zH b [e]=if decide (e.w∈b)=true then [e] else []:=by
 unfold zH;rw[yf];rfl
theorem PkX.one{x:Ev}(h:PkX p x):(zH zT [x]).length+(zH ["picked"] [x]).length=1/\zH ["laid"] [x]=[]/\spent [x]<=1:=by
 cases h<;>exact{rfl,rfl,by first| exact zF _ | exact jv _}
theorem WP(p:Nat):∀fs:List Nat,spent (fs.map (.missed p))=fs.length
 | []=>rfl
 | f::fs=>by
  show spent ([.missed p f]++fs.map (.missed p))=_;rw[vT,zgH,WP p fs,jZ];omega
theorem PickR.counts{r:List Ev}(h:PickR J A p own s n w r):(zH zT r).length+(zH ["picked"] r).length=1/\zH ["laid"] r=[]/\spent r<=n+1:=by
 obtain⟨fs,x,rfl,l,k⟩:=h.form;obtain⟨a,b,c⟩:=k.one;rw[zB,zB,zB,vV _ 1e1,vV _ 1e1,vV _ 1e1,vT,WP]
 exact{a,b,()}
end
section
variable{J:Job}{n:Nat}{B:List Bool}{A:List Ev}
theorem PksR.counts{s:List (Nat×Nat)}{l:List Ev}(h:PksR J B n A s l):(zH zT l).length+(zH ["picked"] l).length=s.length/\zH ["laid"] l=[]/\spent l<=(n+1)*s.length:=by
 induction h with
 | nil=>exact{rfl,rfl,jv _}
 | snoc s l p own G r h e g C=>
  obtain⟨a,b,c⟩:=C;obtain⟨D,w,E⟩:=g.counts;rw[zB,zB,zB,qh,qh,qh,b,w,vT,Nat.mul_add];exact{by show _=s.length+1;omega,rfl,by show _<=_+(n+1)*1;omega}
theorem LysR.parts{E:List Ev}{l:List Nat}{r:List Ev}(h:LysR J A E l r):∃s:List Ev,r=E++s/\(s.map Ev.p).Sublist l/\(∀e∈s,∃x∈zH ["picked"] E,x.p=e.p)/\(zH zT s).length+(zH ["laid"] s).length=s.length/\spent s=0/\zH ["picked"] s=[]:=by
 induction h with
 | nil w h=>exact{[],by rw[h,qA],ZB _,(λe I=>nomatch I),rfl,rfl,rfl}
 | skip l w p h g C=>
  obtain⟨s,a,b,c⟩:=C;exact{s,a,b.trans (zbb _ _),c}
 | lay l w p N x h g M G C=>
  obtain⟨s,a,b,c,d,e,f⟩:=C;have L:x.p=p:=by rcases G with ⟨_,rfl⟩ | ⟨_,rfl⟩<;>rfl
  have D:(zH zT [x]).length+(zH ["laid"] [x]).length=1/\spent [x]=0/\zH ["picked"] [x]=[]:=by rcases G with ⟨_,rfl⟩ | ⟨_,rfl⟩<;>exact⟨rfl,rfl,rfl⟩
  refine{s++[x],by rw[a,je],?_,λy hy=>?_,?_,by rw[vT,e,D.2.1],by rw[zB,f,D.2.2];rfl}
  .rw[zL]
   exact b.append (by rw[<- L];exact ZB _)
  .rcases zV.mp hy with z | z
   .exact c y z
   .cases qm.mp z
    obtain⟨u,hu,H⟩:=vN.mp g;exact{u,hu,by have:=eq_of_beq H;omega}
  .rw[zB,zB,qh,qh,qh]
   have:=D.1;show _=_+1;omega
theorem TripR.counts{g:List (Nat×Nat)}{l:List Nat}{r:List Ev}(h:TripR J B n A g l r)(E:l.Nodup):(zH zT r).length+(zH ["laid"] r).length<=g.length/\spent r<=(n+1)*g.length:=by
 obtain⟨w,h1,h2⟩:=h;obtain⟨a,b,c⟩:=h1.counts;obtain⟨G,rfl,s,m,d,e,_⟩:=h2.parts;have D:=zfI (E.sublist s) (m:=(zH ["picked"] w).map Ev.p) λq hq=>by
  obtain⟨y,hy,rfl⟩:=zN.mp hq;obtain⟨x,hx,C⟩:=m y hy;exact zN.mpr ⟨x,hx,C⟩
 rw[zm,zm] at D;rw[zB,zB,qh,qh,b,vT,e];exact{by show _+(0+_)<=_;omega,()}
theorem RunR.counts{g:List (List 0#e×List Nat)}{A:List Ev}{w:Int}(h:RunR J B n g A w):(∀t∈g,t.2.Nodup)->(zH zT A).length+(zH ["laid"] A).length<=(YZ g).length/\spent A<=(n+1)*(YZ g).length:=by
 induction h with
 | nil=>exactλ_=>{jv _,jv _}
 | snoc g A w c l r h t D=>
  intro s;obtain⟨a,b⟩:=D λt C=>s t (qw _ C)
  obtain⟨E,G⟩:=t.counts (s (c,l) (qW _ (qm.mpr rfl)));rw[zB,zB,qh,qh,zdZ,qh,vT,Nat.mul_add];exact{by show _<=_+c.length;omega,by show _<=_+(n+1)*c.length;omega}
end
def mOf(J:Job)(f:Nat):Int:=(J.fs[f]?.map xw.m).getD 0
def Stk(J:Job)(b:List Ev):Prop:=∀f:Nat,((jD b).count (f:Int):Int)<=mOf J f
theorem yR(a b:List Ev):jD (a++b)=jD a++jD b:=by unfold jD;rw[zB,zL]
theorem zec{e:Ev}(h:e.w∉zS):jD [e]=[]:=by
 unfold jD;rw[JR,zw (λz=>h (qP z))];rfl
theorem Stk.no{J:Job}{b:List Ev}{e:Ev}(s:Stk J b)(h:e.w∉zS):Stk J (b++[e]):=λf=>by rw[yR,zec h,qA];exact s f
section
variable{J:Job}{g:xS}{p own n:Nat}{b:List Bool}{c:List Ev}
end
def isM(q:Nat)(e:Ev):Bool:=decide (e.w = "missed")&&decide (e.p=q)
def qtW:List Str:=["picked","laid","dropped"]
structure Unl(n:Nat)(ps:List Nat)(r:List Ev):Prop where
 gv:(zH zT r).map Ev.p=ps
 qt:∀e∈r,e.w∉qtW
 ms:∀q,(r.filter (isM q)).length<=n*ps.count q
theorem Unl.none{n:Nat}{g:List Nat}{r:List Ev}(u:Unl n g r){b:List Str}(h:∀w∈b,w∈qtW):zH b r=[]:=Xu.mpr λe c z=>u.qt e c (h _ (qP z))
section
variable{J:Job}{n:Nat}{b:List Bool}{c:List Ev}
end
section
variable{J:Job}{n:Nat}{b:List Bool}
end
section
variable{P:Program}{w:World}{K:W.Frag}{g:Str->Option Value}{c:Heap}
inductive zby(K:W.Frag)(M:List V)(H:Hp)(Q:VK):Prop
 | mk (G L I:Addr) (J:Job) (s:List (List 0#e×List Nat)) (D:List Bool) (n:Nat) (_:M=[.ref G,.ref L,.ref I,.int (n:Int)]) (_:Rep K H (j6 J) (.ref G)) (_:JSm J) (_:JIn J) (_:Rep K H (.lst (s.map λt=>zle t.1 t.2)) (.ref L)) (_:s.length<=60) (_:(YZ s).length<=60) (_:(∀t∈s,t.2.Nodup)) (_:(∀t∈s,t.1.length<=4/\t.2.length<=4/\(∀q∈t.1,q.1<J.ps.length)/\∀q∈t.2,q<J.ps.length)) (_:SqL K H I (D.map V.bl)) (_:n<=10) (_:∀(T E a b:Addr) (A:List Ev) (w:Int) (C B:List Int) l,Same H l->l T=some (.tup [.ref E,.ref a,.ref b,.int w])->Evs K l E A->l a=some (.lst (C.map V.int))->l b=some (.lst (B.map V.int))->C.Perm ((zH ["laid"] A).map λe=>(e.p:Int))->C.Pairwise (·<= ·)->B.Perm ((zH zT A).map λe=>(e.p:Int))->B.Pairwise (·<= ·)->A.length<=5000->RunR J D n s A w->Q (.ref T) l):zby K M H Q
def zbz(K:W.Frag):Sp:=λb H Q _=>zby K b H Q
theorem zik:zD ["job","plan","luck","tries","events","way","trip","found"] ["job","plan","luck","tries"] (zu (topL 50)):=u4
theorem zjy{f gu:Addr}{fd:FuncData}(F:Fun K "run_plan" "run_plan" (topL 50) f fd)(B:Blt g)(I:g "GIVEN_UP" = some (.ref gu))(G:TxG K gu zT)(D:Dfn P w K g c "trip_events" 6 ["job","trip","luck","tries","events"] (zh9 K))(O:Dfn P w K g c "way_by" 3 ["job","events"] (zeg K))(C:Dfn P w K g c "parts_of" 2 ["events","words"] (zbD K)):FnOk P w K g c CX0 7 f fd ["job","plan","luck","tries"] (zbz K):=by
 have nd:=zik.nd;refine F.ok zik 0#d (λav A ak s H vs Q E hr h=>?_)
 .obtain⟨jp,pl,lk,J,ts,bs,n,rfl,_⟩:=h
  rfl
 .obtain⟨jp,pl,lk,J,ts,bs,n,rfl,rj,js,ab,ao,t2,ap,as,ar,hk,ai,k⟩:=h
  have au:=bG1000000;obtain⟨ax,am,e0,af,ag⟩:=ao;cases e0;have a0:=ag.len;rw[zm] at a0;refine{_,(ze (zG (i:=4) nd rfl 0#a (z9 zd))
   (ze (zG (i:=5) nd rfl 0#a zg)
   (ze (jh jL rfl (zZ (pv 1)) (zq (i:=6) nd rfl 0#a)
   (ze (zG (i:=7) nd rfl 0#a (zf D hr.m rfl (pa5 (pv 0) (pv 6) (pv 2) (pv 3) (pv 4))))
    (ze (ji (xi j5 Xw Xv Qo (pv 4) (za (pv 7) zd)))
    (zi (zjk (i:=5) nd rfl 0#a (zf O hr.m rfl (za (pv 0) (za (pv 7) zd))) zfV)))))
   (zi (zy (qL (za (pv 4) (za (zt jm rfl B.sorted jt (za (zf C hr.m rfl (za (pv 4) (za (qL (za xD zd)) zd))) zd)) (za (zt jm rfl B.sorted jt (za (zf C hr.m rfl (za (pv 4) (za (ZR (v:=.ref gu) rfl I rfl) zd))) zd)) (za (pv 5) zd)))))))))),?_}
  refine{le0,λM aa=>?_}
  have s1:=zb (H:=H) (o:=.lst []) aa;refine{_,rfl,pl,rfl,{_,s1.seq af},xF (K:=K) (a:=pl) (xs:=am) (λi σ H'=>Ex5 λ(L:List Ev) (N:List V) (Y:Int) (v6 v7:Option V)=>An6 (σ=[some (.ref jp),some (.ref pl),some (.ref lk),some (.int (n:Int)),some (.ref M),some (.int Y),v6,v7]) (Same H H') (H' M=some (.lst N)) (Reps K H' (L.map evD) N) (L.length<=48*i) (RunR J bs n (ts.take i) L Y)) {[],[],0,_,_,rfl,s1,zc,rfl,zF _,.nil} (λi σ H' _ ⟨_,_,_,_,_,_,s',_,_,_,_⟩=>s'.seq af) ?_ ?_}
  .rintro i x σ H2 hx ⟨L,N,Y,v6,v7,rfl,s2,F2,R2,el,rr⟩
   have xl:=R2.len;rw[zm] at xl;have il:=(zK.mp hx).1;obtain⟨d,ed,rd⟩:=(ag.same s2).get hx;rw[qk] at ed;obtain⟨⟨ae,ac⟩,et,rfl⟩:=qG.mp ed;obtain⟨h1,h2,h3,h4⟩:=ar _ (qz et);dsimp only at h1 h2 h3 h4 rd;have an:=rd;obtain⟨tp,_,rfl,_⟩:=an;refine{_,rfl,_,rfl,_,rfl,_,rfl,_,rfl,jp,tp,lk,M,J,ae,ac,bs,n,L,rfl,rj.same s2,js,rd,h3,h4,(),(),s2.seq hk,ai,⟨N,F2,R2⟩,(),λq r H3 hq s3 ⟨zs,hz,rz⟩ rl tr=>?_}
   have zl:=rz.len;rw[zm] at zl;have F3:=s3 _ _ F2;have aq:=s2.trans s3;have aj:q≠M:=λz=>by rw[z,F2] at hq;cases hq
   refine{_,rfl,.inl {rfl,_,u6 F3},_,rfl,M,q,_,_,rfl,rfl,F3,hz,(),?_}
   have R3:Reps K H3 ((L++r).map evD) (N++zs):=by rw[zL];exact ug (R2.same s3) rz
   have R4:=R3.keep (ud (ys:=N++zs) F3) (wW _);have Z4:Evs K (upd H3 M (.lst (N++zs))) q r:={zs,by rw[zp aj];exact hz,rz.keep (ud F3) (wW _)}
   have F4:=zc (H:=H3) (a:=M) (o:=.lst (N++zs));have s4:Same H (upd H3 M (.lst (N++zs))):=λc0 u0 e0=>by rw[zp (zj e0 aa)];exact aq c0 u0 e0
   generalize upd H3 M (.lst (N++zs))=H4 at R4 Z4 F4 s4;refine{_,rfl,_,rfl,_,rfl,jp,q,J,r,rfl,rj.same s4,ab,Z4,tr.ok ab,(),λH5 U=>{_,_,rfl,rfl,?_}}
   refine{L++r,N++zs,Y+(wn (Vy J r)).sum,_,_,rfl,s4.trans U,U _ _ F4,R4.same U,by rw[qh];omega,?_}
   rw[zM et];exact .snoc _ L Y ae ac r rr tr
  .rintro σ H2 ⟨L,N,Y,v6,v7,rfl,s2,F2,R2,el,rr⟩
   rw[a0,qB] at rr;rw[a0] at el;have z1:=(rr.counts as).1;have E2:Evs K H2 M L:=⟨N,F2,R2⟩;have mp:∀l:List Ev,(l.map λe=>V.int (e.p:Int))=(l.map λe=>(e.p:Int)).map V.int:=λl=>by rw[xc];rfl
   refine{_,rfl,_,rfl,le1,λwt ah=>?_}
   have s3:=zb (H:=H2) (o:=.tup [.str "laid"]) ah;have W3:=zc (H:=H2) (a:=wt) (o:=.tup [.str "laid"]);generalize upd H2 wt (.tup [.str "laid"])=H3 at s3 W3;refine{M,wt,L,["laid"],rfl,E2.same s3,u7 W3,(),λq H4 hq s4 L4=>?_}
   refine{q,(zH ["laid"] L).map λe=>(e.p:Int),rfl,u6 (by rw[L4,mp]),by rw[zm];omega,λa ls ha pa pw=>?_}
   have U:=(s3.trans s4).trans (zb (H:=H4) (o:=.lst (ls.map V.int)) ha);have A5:=zc (H:=H4) (a:=a) (o:=.lst (ls.map V.int));generalize upd H4 a (.lst (ls.map V.int))=H5 at U A5;refine{_,rfl,M,gu,L,zT,rfl,E2.same U,G.all _,(),λq2 H6 aw s6 L6=>?_}
   refine{q2,(zH zT L).map λe=>(e.p:Int),rfl,u6 (by rw[L6,mp]),by rw[zm];omega,λb gs hb pb al=>?_}
   have s7:=s6.trans (zb (H:=H6) (o:=.lst (gs.map V.int)) hb);have B7:=zc (H:=H6) (a:=b) (o:=.lst (gs.map V.int));generalize upd H6 b (.lst (gs.map V.int))=H7 at s7 B7;refine{_,rfl,le4,λT hT=>?_}
   have s8:=zb (H:=H7) (o:=.tup [.ref M,.ref a,.ref b,.int Y]) hT;exact k T M a b L Y ls gs _ (s2.trans (U.trans (s7.trans s8))) zc (E2.same (U.trans (s7.trans s8))) ((s7.trans s8) _ _ A5) (s8 _ _ B7) pa pw pb al () rr
inductive zbF(K:W.Frag)(C:List V)(H:Hp)(Q:VK):Prop
 | mk (A:Addr) (s:List zW) (B:List V) (_:C=[.ref A]) (_:H A=some (.lst B)) (_:Reps K H (s.map jG) B) (_:(zE s).length<=1000) (_:∀(l:Addr) b,H l=none->Same H b->b l=some (.lst (zr (zE s)))->Q (.ref l) b):zbF K C H Q
def zia(K:W.Frag):Sp:=λb H Q _=>zbF K b H Q
theorem zin:zD ["plan"] ["plan"] (zu (topL 32)):=u4
theorem zdB(b:List zW)(i:Nat):(zE (b.take i)).length<=(zE b).length:=by
 have:zE b=zE (b.take i)++zE (b.drop i):=by
  unfold zE;rw[<- wA,ZD]
 rw[this,qh];omega
theorem zjB{f:Addr}{fd:FuncData}(F:Fun K "order_of" "order_of" (topL 32) f fd)(B:Blt g):FnOk P w K g c CX0 1 f fd ["plan"] (zia K):=by
 have nd:=zin.nd;refine F.ok zin 0#d (λaa A O s H vs Q E hr h=>?_)
 .obtain⟨T,l,U,rfl,_⟩:=h
  rfl
 .obtain⟨T,l,U,rfl,hp,rt,ll,k⟩:=h
  have a0:=bG100000;have G:=rt.len;rw[zm] at G;refine{_,(zi (zy (zca [] [] rfl rfl (by kernel_rfl) (zZ (pv 0)) 0#g (λ_ _ _ _=>(Jc (K:=K) rfl (pv 1))) 0#g (λ_ _ _ _=>(pv 2))))),?_}
  refine{_,rfl,T,rfl,{_,u6 hp},JG (K:=K) (a:=T) (xs:=U) (λi L C=>L=zr (zE (l.take i))/\Same H C) {rfl,ua _} (λi L C ⟨_,b⟩=>u6 (b _ _ hp)) ?_ ?_}
  .rintro i x L C hx ⟨rfl,b⟩
   obtain⟨d,e1,r1⟩:=(rt.same b).get hx;rw[qk] at e1;obtain⟨t,et,rfl⟩:=qG.mp e1;obtain⟨tp,ta,tc,xs,ys,rfl,qt,qa,ra,qc,rc⟩:=xK r1;have N:=yu rc;subst N;have le1:=zdB l (i+1);rw[zM et,j9,qh] at le1;refine{tp,_,rfl,qt,rfl,_,_,rfl,_,_,rfl,rfl,rfl,?_}
   refine{_,rfl,tc,rfl,{_,qc},zaB (K:=K) (a:=tc) (xs:=zr t.ly) (λj J I=>J=zr (zE (l.take i))++zr (t.ly.take j)/\Same C I) {by simp[zr],ua _} (λj J I ⟨_,s2⟩=>s2.sqT qc) ?_ ?_}
   .rintro j y J I hy ⟨rfl,s2⟩
    obtain⟨k',Y,rfl⟩:=vZ hy;have hj:j<t.ly.length:=(zK.mp Y).1;refine{⟨rfl,rfl,trivial⟩,?_}
    refine{_,rfl,?_,?_,s2}
    .rw[qh,zA,zA,qv];omega
    .rw[zM Y,je]
     unfold zr;rw[zL];rfl
   .rintro J I ⟨rfl,s2⟩
    refine{?_,b.trans s2}
    rw[zA,qB,zM et,j9];unfold zr;rw[zL]
  .rintro L C ⟨rfl,b⟩
   have M:l.take U.length=l:=by rw[G,qB]
   rw[M];exact{by rw[zA];omega,λD hD=>k D _ (b.none hD) (b.trans (zb hD)) zc}
end
def wI(q:Nat×Nat):Ev:=.picked q.1 q.2
def Qr(J:Job)(p:Nat):Ev:=match J.ps[p]? with
 | some b=>.laid p b.k b.x b.y
 | none=>.laid p "" 0 0
theorem zhw{J:Job}{p:Nat}{b:xS}(h:J.ps[p]? =some b):Qr J p=.laid p b.k b.x b.y:=by unfold Qr;rw[h]
theorem zjP(J:Job)(p:Nat):(Qr J p).w = "laid" :=by unfold Qr;split<;>rfl
def Zq(J:Job)(t:zW):List Ev:=t.pk.map wI++t.ly.map (Qr J)
def vW(J:Job)(b:List zW):List Ev:=b.flatMap (Zq J)
theorem wo(J:Job)(b:List zW)(t:zW):vW J (b++[t])=vW J b++Zq J t:=by
 unfold vW;rw[wA,Xl,zaP,qA]
theorem zfX{α:Type}(c:List Str)(g:α->Ev)(w:Str)(s:∀a,(g a).w=w)(l:List α):zH c (l.map g)=if w∈c then l.map g else []:=by
 unfold zH;by_cases h:w∈c
 .rw[zC h]
  refine Wn.mpr λe b=>?_
  obtain⟨a,_,rfl⟩:=zN.mp b;exact qg (by rw[s];exact h)
 .rw[zw h]
  refine Xu.mpr λe b=>?_
  obtain⟨a,_,rfl⟩:=zN.mp b;rw[s];exactλz=>h (qP z)
theorem Vd(b:List Str)(l:List 0#e):zH b (l.map wI)=if("picked":Str)∈b then l.map wI else []:=zfX b wI "picked" (λ_=>rfl) l
theorem zcs(b:List Str)(J:Job)(l:List Nat):zH b (l.map (Qr J))=if("laid":Str)∈b then l.map (Qr J) else []:=zfX b (Qr J) "laid" (zjP J) l
theorem VS(J:Job)(t:zW):zH zT (Zq J t)=[]:=by
 unfold Zq;rw[zB,Vd,zcs,zw 1e1,zw 1e1];rfl
theorem yD(J:Job)(b:List zW):zH zT (vW J b)=[]:=by
 induction b using xC with
 | h0=>rfl
 | hs b t c=>rw[wo,zB,c,VS];rfl
theorem WO(l:List (Nat×Nat)):jD (l.map wI)=l.map λq=>(q.2:Int):=by
 unfold jD;rw[Vd,zC 1e1,xc];rfl
theorem zed(J:Job)(l:List Nat):jD (l.map (Qr J))=[]:=by
 unfold jD;rw[zcs,zw 1e1];rfl
theorem WN(J:Job)(b:List zW):jD (vW J b)=(vM b).map λq=>(q.2:Int):=by
 induction b using xC with
 | h0=>rfl
 | hs b t c=>
  rw[wo,yR,c,vq,zL];unfold Zq;rw[yR,WO,zed,qA]
theorem zhS(l:List (Nat×Nat))(f:Nat):(l.map λq=>(q.2:Int)).count (f:Int)=(l.map (·.2)).count f:=by
 induction l with
 | nil=>rfl
 | cons x l b=>
  rw[jz,jz,ww,ww,b];by_cases h:x.2=f
  .simp[h]
  .have:¬(x.2:Int)=(f:Int):=()
   simp[h,this]
theorem Yt{J:Job}{p:Nat}{b:List Ev}(h:zH zT b=[]):¬zbk J p b:=λ⟨e,c,_⟩=>by rw[h] at c;cases c
section
variable{J:Job}{bs:List Bool}{n:Nat}
def zmq(bs:List Bool):Prop:=∀s,zlQ bs s=true
theorem Yo(a:zmq bs){A:List Ev}{l:List 0#e}(g:zH zT A=[])(I:jD A=l.map λq=>(q.2:Int))(b:List 0#e):(∀q∈b,wF J q)->(∀(f:Nat) (s:xw),J.fs[f]? =some s->(((l++b).map (·.2)).count f:Int)<=s.m)->PksR J bs (n+1) A b (b.map wI):=by
 induction b using xC with
 | h0=>exactλ_ _=>.nil
 | hs b q G=>
  intro ok st;obtain⟨H,s,D,w,C⟩:=ok q (qW _ (qm.mpr rfl));rw[zL];have c:=st q.2 s w;rw[<- je,zL,yh] at c;have c1:([q].map (·.2)).count q.2=1:=zbd
  rw[c1] at c;have E:zH zT (A++b.map wI)=[]:=by rw[zB,g,Vd,zw 1e1];rfl
  refine .snoc b (b.map wI) q.1 q.2 H [wI q] (G (λx hx=>ok x (qw _ hx)) λf B e=>?_) D (.inr {Yt E,?_})
  .have:=st f B e
   rw[<- je,zL,yh] at this;omega
  .refine .luck n [] q.2 (.own ?_) (by rw[zhr];exact a _)
   rw[qA];refine qI.mpr {qI.mpr {xB.mpr (zK.mp w).1,qg (by rw[w];show some s.k=_;rw[C])},qg ?_}
   rw[yR,I,WO,<- zL,zhS,w];show _<s.m;omega
theorem zax{s:List Ev}{b:List 0#e}(g:zH zT s=[])(l:List Nat):(∀p∈l,p∈b.map (·.1))->(∀p∈l,p<J.ps.length)->LysR J s (b.map wI) l (b.map wI++l.map (Qr J)):=by
 induction l using xC with
 | h0=>exactλ_ _=>.nil _ (qA _)
 | hs l p w=>
  intro h1 h2;have hp:=h2 p (qW _ (qm.mpr rfl));have c:J.ps[p]? =some J.ps[p]:=qK hp;rw[zL,<- je];refine .lay l _ p J.ps[p] (Qr J p) (w (λx hx=>h1 x (qw _ hx)) λx hx=>h2 x (qw _ hx)) ?_ c (.inr {Yt ?_,zhw c})
  .rw[Vd,zC 1e1]
   obtain⟨q,hq,eq⟩:=zN.mp (h1 p (qW _ (qm.mpr rfl)));refine vN.mpr {wI q,zN.mpr ⟨q,hq,rfl⟩,?_}
   rw[<- eq];exact Zf _
  .rw[zB,zB,g,Vd,zcs,zw 1e1,zw 1e1];rfl
def prT(t:zW):List (Nat×Nat)×List Nat:=(t.pk,t.ly)
theorem zdj(a:zmq bs)(b:List zW):(∀t∈b,QM J t)->(∀(f:Nat) (g:xw),J.fs[f]? =some g->(((vM b).map (·.2)).count f:Int)<=g.m)->∃w,RunR J bs (n+1) (b.map prT) (vW J b) w:=by
 induction b using xC with
 | h0=>exactλ_ _=>{_,.nil}
 | hs b t A=>
  intro ok st;have c:=ok t (qW _ (qm.mpr rfl));rw[zL,wo];obtain⟨w,l⟩:=A (λx hx=>ok x (qw _ hx)) λf g e=>by
   have:=st f g e;rw[vq,zL,yh] at this;omega
  refine{_,RunR.snoc (b.map prT) (vW J b) w t.pk t.ly (Zq J t) l {t.pk.map wI,Yo (n:=n) a (yD J b) (WN J b) t.pk c.ok λf g e=>?_,zax (yD J b) t.ly (λp hp=>c.ly.mem_iff.mp hp) λp hp=>?_}}
  .have:=st f g e
   rwa[vq] at this
  .obtain⟨q,hq,rfl⟩:=zN.mp (c.ly.mem_iff.mp hp)
   obtain⟨B,_,s,_⟩:=c.ok q hq;exact(zK.mp s).1
end
theorem StL.le{J:Job}{st:List Int}{l:List 0#e}(s:StL J st l){f:Nat}{c:xw}(e:J.fs[f]? =some c):((l.map (·.2)).count f:Int)<=c.m:=by
 have h:f<st.length:=by rw[s.len];exact(zK.mp e).1
 have a:=s.nn f _ (qK h);have b:=s.cnt f _ c (qK h) e;omega
theorem JobOk.jsm{J:Job}{c:List Nat}(b:JobOk J c):JSm J:={b.pl,jN b.fl 1e1,b.ain,b.al}
theorem JobOk.jin{J:Job}{c:List Nat}(b:JobOk J c):JIn J:={b.gate,λf g=>(b.fa f g).2.1,λp hp=>(b.pa p hp).2.1}
theorem zcH(b:List zW):YZ (b.map prT)=zo b:=by
 induction b with
 | nil=>rfl
 | cons t b c=>show t.pk++YZ (b.map prT)=t.pk++zo b;rw[c]
theorem zay(J:Job)(b:List zW):(zH ["laid"] (vW J b)).map (λe=>(e.p:Int))=nI (zE b):=by
 unfold nI;induction b using xC with
 | h0=>rfl
 | hs b t c=>
  rw[wo,zB,zL,c,j9,zL];unfold Zq;rw[zB,Vd,zcs,zw 1e1,zC 1e1,wx,xc]
  refine congrArg _ (za1 λk _=>?_)
  show((Qr J k).p:Int)=(k:Int);unfold Qr;split<;>rfl
section
variable{J:Job}{c os:List Nat}{b:List zW}{st:Nat->Int}
theorem MOk.lays(m:MOk J c os b):(zE b).length<=60:=by
 have h1:=m.po.sub.length_le;have h2:=m.pm.length_eq;rw[wg] at h2;have:=m.jo.pl;omega
theorem MOk.run(m:MOk J c os b){n:Nat}{g:List Ev}{w:Int}(r:RunR J [] (n+1) (b.map prT) g w):g=vW J b:=by
 obtain⟨s,A⟩:=m.po.stk;obtain⟨D,l⟩:=zdj (J:=J) (bs:=[]) (n:=n) (λs=>zC (jv _)) b m.po.tr λf C e=>A.le e
 exact(r.uniq l rfl).1
end
section
variable{P:Program}{w:World}{K:W.Frag}{I:Str->Option Value}{G:Heap}
theorem zgK:∀b:List Int,jU b.length (λk=>b.getD k 0)=b.map V.int:=λb=>by
 refine List.ext_getElem? λi=>?_
 by_cases h:i<b.length
 .rw[vd h,qk,qK h,Zm,qK h];rfl
 .rw[Xt (by rw[jT];omega),Xt (by rw[zm];omega)]
theorem JD(l:List Nat):zr l=(nI l).map V.int:=by
 unfold zr nI;rw[xc];rfl
theorem zcx(l:List Int):(l.map V.int).all xj=true:=vn.mpr λv hv=>by
 obtain⟨z,_,rfl⟩:=zN.mp hv;rfl
theorem zl8(l:List Int):∀v∈l.map V.int,eqV v v=true:=λv hv=>by
 obtain⟨z,_,rfl⟩:=zN.mp hv;exact Zf z
theorem zfg{H:Hp}{M D N:Addr}{J:Job}{O os:List Nat}{l:List zW}{U:List V}{m:Nat}{Q:VK}{E:XK}(c:MOk J O os l)(rj:Rep K H (j6 J) (.ref M))(hl:H D=some (.lst U))(rl:Reps K H (l.map jG) U)(hk:H N=some 0#o)(m5:m<=9)(k:∀(T C a b:Addr) (w:Int) (A:List Int) g,Same H g->g T=some (.tup [.ref C,.ref a,.ref b,.int w])->Evs K g C (vW J l)->(vW J l).length<=5000->g a=some (.lst (A.map V.int))->g b=some 0#o->A.Perm (nI (zE l))->A.Pairwise (·<= ·)->Q (.ref T) g):zbz K [.ref M,.ref D,.ref N,.int ((m+1:Nat):Int)] H Q E:=by
 have nd:(zE l).Nodup:=(c.pm.nodup_iff.mpr yH).sublist c.po.sub;have B:=c.t100;refine{M,D,N,J,l.map prT,[],m+1,rfl,rj,c.jo.jsm,c.jo.jin,{D,U,rfl,u6 hl,?_},by rw[zm];exact c.po.len,by rw[zcH];exact c.brk.al,λt L=>?_,λt L=>?_,u6 hk,(),λT C a b es w A gs g s hT he ha hb p1 p2 p3 p4 el r=>?_}
 .rw[xc]
  exact rl
 .obtain⟨x,hx,rfl⟩:=zN.mp L
  exact(za4.mp nd).1 x hx
 .obtain⟨x,hx,rfl⟩:=zN.mp L
  obtain⟨h1,h2,_⟩:=B x hx;have Y:∀q∈x.pk,q.1<J.ps.length:=λq hq=>(c.ok q (yK.mpr ⟨x,hx,hq⟩)).1
  refine{h1,h2,Y,λq hq=>?_}
  obtain⟨p,hp,rfl⟩:=zN.mp ((c.po.tr x hx).ly.mem_iff.mp hq);exact Y p hp
 .obtain rfl:=c.run r
  rw[yD] at p3;cases p3.eq_nil;rw[zay] at p1;exact k T C a b w A g s hT he el ha hb p1 p2
def mkQ(t:Bool)(b:List Dat):Dat:=if t=true then .tup b else .lst b
theorem SqQ.same{H b:Hp}{t:Bool}{a:Addr}{c:List V}(h:SqQ K H t a c)(s:Same H b):SqQ K b t a c:=by
 cases t with
 | true=>exact s.sqT h
 | false=>exact s.seq h
theorem SqQ.or{H:Hp}{t:Bool}{a:Addr}{b:List V}(h:SqQ K H t a b):SqL K H a b\/SqT K H a b:=by
 cases t with
 | true=>exact .inr h
 | false=>exact .inl h
theorem SqQ.k{H:Hp}{t:Bool}{a:Addr}{b:List V}(h:SqQ K H t a b):SqK K (!t) H a b:=by
 cases t
 .exact h
 .exact h
def zi7(K:W.Frag):Nat->Sp
 | 0=>λ_ _ _ _=>False
 | n+1=>λA H Q _=>∃(t:Bool) (a b:Addr) (l s:List V) (c:List Dat),A=[.ref a,.ref b]/\SqQ K H t a l/\SqQ K H t b s/\Reps K H c l/\Reps K H c s/\c.length<=1000000/\(∀e∈c,Dat.ok n e)/\∀g,Same H g->Q (.bl true) g
inductive zeB(K:W.Frag)(n:Nat)(c:List V)(H:Hp)(Q:VK):Prop
 | mk (d:Dat) (f v:V) (_:c=[f,v]) (_:Rep K H d f) (_:Rep K H d v) (_:Dat.ok n d) (_:∀b,Same H b->Q (.bl true) b):zeB K n c H Q
def zi5(K:W.Frag)(n:Nat):Sp:=λb H Q _=>zeB K n b H Q
theorem zla:zD ["things","told"] ["things","told"] (zu (topL 36)):=u4
theorem zhm{f:Addr}{b:FuncData}(_:Fun K "are_same" "are_same" (topL 36) f b)(_:Blt I):FnOk P w K I G CX0 0 f b ["things","told"] (zi7 K 0):={λ_ _ _ _ h=>h.elim,λ_ _ _ _ _ _ _ _ _ _ _ _ _ h=>h.elim}
theorem zfF{f:Addr}{Y:FuncData}(F:Fun K "are_same" "are_same" (topL 36) f Y)(B:Blt I)(n:Nat)(c:Dfn P w K I G "is_same" (2*n+1) ["thing","told"] (zi5 K n)):FnOk P w K I G CX0 (2*n+2) f Y ["things","told"] (zi7 K (n+1)):=by
 have nd:=zla.nd;refine F.ok zla 0#d (λaa A M s H vs Q E hr h=>?_)
 .obtain⟨t,a,b,g,l,ds,rfl,_⟩:=h
  rfl
 .obtain⟨t,a,b,g,l,ds,rfl,hx,hy,rx,ry,el,ok,k⟩:=h
  have a0:=bG1000000;have lx:=rx.len;have ly:=ry.len;refine{_,(zi (zy (vX (qZ xW (zt zI rfl B.len boot_len 0#y) (zt zI rfl B.len boot_len 0#k) (zR _)) (vt (zt (x8 rfl) rfl B.all boot_all (za (vI [] [] rfl rfl (by kernel_rfl) (zai rfl B.zip (za (pv 0) 0#k)) 0#g (λ_ _ _ _=>(zf c (hr.mono ()) rfl (za (pv 0) 0#k)))) zd)))))),?_}
  refine{_,rfl,a,g,rfl,hx.or,_,rfl,b,l,rfl,hy.or,rfl,_,rfl,ifT (by rw[lx,ly];exact qg rfl) ?_}
  refine{_,rfl,_,rfl,!t,!t,a,b,rfl,⟨g,hx.k⟩,⟨l,hy.k⟩,?_}
  refine zaw (K:=K) (k1:=!t) (k2:=!t) (xs:=g) (ys:=l) (λi L J=>L=List.replicate i (V.bl true)/\Same H J) {rfl,ua _} (λi L J ⟨_,C⟩=>{(hx.same C).k,(hy.same C).k}) ?_ ?_
  .rintro i x y L J T e1 e2 ⟨rfl,C⟩ hT
   obtain⟨U,q1,r1⟩:=rx.get e1;obtain⟨d2,N,r2⟩:=ry.get e2;cases q1.symm.trans N;have hi:=(zK.mp N).1;have O:=C.trans (zb (o:=.tup [x,y]) hT);refine{T,_,rfl,u7 zc,rfl,_,_,rfl,_,_,rfl,rfl,rfl,?_}
   exact{_,rfl,_,rfl,U,x,y,rfl,r1.same O,r2.same O,ok U (qz N),λH5 s5=>{by rw[va];omega,by rw[Z9],O.trans s5}}
  .rintro L J ⟨rfl,C⟩
   refine{by rw[va];omega,λD hD=>{D,List.replicate (min g.length l.length) true,rfl,u6 (by rw[zc,Z8]),?_}}
   rw[show(List.replicate (min g.length l.length) true).all id=true by simp]
   exact k _ (C.trans (zb hD))
theorem zk2:zD ["thing","told"] ["thing","told"] (zu (topL 37)):=u4
theorem zan{f:Addr}{fd:FuncData}(F:Fun K "is_same" "is_same" (topL 37) f fd)(B:Blt I)(n:Nat)(g:Dfn P w K I G "are_same" (2*n) ["things","told"] (zi7 K n)):FnOk P w K I G CX0 (2*n+1) f fd ["thing","told"] (zi5 K n):=by
 have nd:=zk2.nd;refine F.ok zk2 0#d (λa0 A U s H vs Q E T h=>?_)
 .obtain⟨d,f,v,rfl,_⟩:=h
  rfl
 .obtain⟨d,f,v,rfl,M,C,ok,k⟩:=h
  have hu:=T.units0;have kk:=k H (ua _);refine{_,(ze (jb (jH (zt xG rfl B.isinstance boot_isinstance (za (pv 1) (za (vh (v:=.ty "list") rfl B.list x9 rfl) zd))))
   (zi (zy (vX (zt xG rfl B.isinstance boot_isinstance (za (pv 0) (za (vh (v:=.ty "list") rfl B.list x9 rfl) zd))) (vt (zf g (T.mono ()) rfl (za (pv 0) 0#k))))))
   zY)
   (ze (jb (jH (zt xG rfl B.isinstance boot_isinstance (za (pv 1) (za (vh (v:=.ty "tuple") rfl B.tuple jF rfl) zd))))
   (zi (zy (vX 0#E (vt (zf g (T.mono ()) rfl (za (pv 0) 0#k))))))
   zY)
   (zi (zy (vX (qZ xW (zt xG rfl B.isinstance boot_isinstance (za (pv 0) (za (vh (v:=.ty "bool") rfl B.bool Qw rfl) zd))) (zt xG rfl B.isinstance boot_isinstance (za (pv 1) (za (vh (v:=.ty "bool") rfl B.bool Qw rfl) zd))) (zR _)) (vt (qZ (zg3 hu) (pv 0) (pv 1) (zR _)))))))),?_}
  refine{_,rfl,v,d.tyN, "list",rfl,C.ty,1e1,_,rfl,?_}
  have sc:ZJ d.tyN "list" = false->ZJ d.tyN "tuple" = false->xj v=true/\eqS d v=true:=λh1 h2=>by
   cases d with
   | lst l=>exact absurd h1 (show ¬ZJ "list" "list" = false by decide)
   | tup l=>exact absurd h2 (show ¬ZJ "tuple" "tuple" = false by decide)
   | non=>cases(show v=_ from C);exact⟨rfl,rfl⟩
   | bl b=>cases(show v=_ from C);exact{rfl,Zf b}
   | int b=>cases(show v=_ from C);exact{rfl,Zf b}
   | str b=>cases(show v=_ from C);exact{rfl,Zf b}
  by_cases c:ZJ d.tyN "list" = false/\ZJ d.tyN "tuple" = false
  .obtain⟨fl,e⟩:=sc c.1 c.2
   refine ifF c.1 {_,rfl,v,d.tyN, "tuple",rfl,C.ty,1e1,_,rfl,ifF c.2 ?_}
   refine{_,rfl,f,d.tyN, "bool",rfl,M.ty,1e1,_,rfl,v,d.tyN, "bool",rfl,C.ty,1e1,rfl,_,rfl,ifT (qg rfl) {_,rfl,_,rfl,d,M,fl,?_}}
   rw[e];exact kk
  .have N:∀{l:List Dat} {u:Bool},Dat.ok n (mkQ u l)->∃m,n=m+1/\l.length<=1000000/\∀e∈l,Dat.ok m e:=λ{l u} h=>by
    cases n with
    | zero=>cases u<;>exact(show False from h).elim
    | succ m=>cases u<;>exact⟨m,rfl,h⟩
   cases d with
   | lst l=>
    obtain⟨m,rfl,O,D⟩:=N (u:=false) ok;have J:=M;have L:=C;obtain⟨a,xs,rfl,hx,Y⟩:=J;obtain⟨b,ys,rfl,hy,ry⟩:=L;exact ifT rfl {_,rfl,.ref a, "list", "list",rfl,M.ty,1e1,_,rfl,ifT rfl {_,rfl,_,rfl,false,a,b,xs,ys,l,rfl,hx,hy,Y,ry,O,D,k}}
   | tup l=>
    obtain⟨m,rfl,O,D⟩:=N (u:=true) ok;have J:=M;have L:=C;obtain⟨a,xs,rfl,hx,Y⟩:=J;obtain⟨b,ys,rfl,hy,ry⟩:=L;exact ifF rfl {_,rfl,.ref b, "tuple", "tuple",rfl,C.ty,1e1,_,rfl,ifT rfl {_,rfl,.ref a, "tuple", "tuple",rfl,M.ty,1e1,_,rfl,ifT rfl {_,rfl,_,rfl,true,a,b,xs,ys,l,rfl,hx,hy,Y,ry,O,D,k}}}
   | non=>exact absurd {1e1,1e1} c
   | bl b=>exact absurd {(show ZJ "bool" "list" = false by decide),(show ZJ "bool" "tuple" = false by decide)} c
   | int b=>exact absurd {(show ZJ "int" "list" = false by decide),(show ZJ "int" "tuple" = false by decide)} c
   | str b=>exact absurd {(show ZJ "str" "list" = false by decide),(show ZJ "str" "tuple" = false by decide)} c
def pOf(l:List Ev):List Nat:=l.map Ev.p
theorem wO{b:List Str}{l:List Ev}(h:∀e∈l,e.w∉b):zH b l=[]:=Xu.mpr λe c=>by rw[xQ];exact h e c
theorem zf2{b:List Str}{l:List Ev}(h:∀e∈l,e.w∈b):zH b l=l:=Wn.mpr λe c=>qg (h e c)
theorem yW{b:List Str}{e:Ev}(h:e.w∈b):zH b [e]=[e]:=zf2 λx hx=>by rw[qm.mp hx];exact h
theorem ZS{b:List Str}{e:Ev}(h:e.w∉b):zH b [e]=[]:=wO λx hx=>by rw[qm.mp hx];exact h
theorem jf(a b:List Ev):pOf (a++b)=pOf a++pOf b:=zL
def zkh(J:Job)(b:List Ev)(p:Nat)(k:Str)(x y:Int):Prop:=(∃c,J.ps[p]? =some c/\k=c.k/\x=c.x/\y=c.y)/\p∉pOf (zH ["laid"] b)/\∀j:Nat,(∃n,1<=n/\Wk (asI J) n (j:Int) (p:Int))->j∈pOf (zH ["laid"] b)
inductive Lies(J:Job):List Ev->Prop
 | nil:Lies J []
 | other (b:List Ev) (e:Ev) (h:Lies J b) (n:e.w ≠ "laid"):Lies J (b++[e])
 | laid (b:List Ev) (p:Nat) (k:Str) (x y:Int) (h:Lies J b) (o:zkh J b p k x y):Lies J (b++[.laid p k x y])
theorem Lies.more{J:Job}{b:List Ev}(h:Lies J b):∀{r:List Ev},(∀e∈r,e.w ≠ "laid")->Lies J (b++r):=λ{r}=>by
 refine xC (C:=λr:List Ev=>(∀e∈r,Ev.w e≠("laid":Str))->Lies J (b++r)) (λ_=>by rw[qA];exact h) (λl a s c=>?_) r
 rw[<- je];exact .other _ _ (s λe g=>c e (qw _ g)) (c a (qW _ qJ))
theorem zdA{os L:List Nat}(g:os.Nodup)(s:L.Sublist os):L.Pairwise λa b=>os.idxOf a<os.idxOf b:=by
 have:os.Pairwise λa b=>os.idxOf a<os.idxOf b:=by
  rw[zgl];intro i j l A c;rw[yC g (qK l),yC g (qK A)];exact c
 exact this.sublist s
theorem Wk.cl{J:Job}{L:List Nat}(cl:∀p∈J.as,p.2∈L->p.1∈L):∀{n:Nat} {j p:Int},Wk (asI J) n j p->(∃q∈L,p=(q:Nat))->∃q∈L,j=(q:Nat)
 | 0,_,_,w,h=>by rw[show _=_ from w];exact h
 | n+1,j,p,w,h=>by
  obtain⟨m,g,w⟩:=w;obtain⟨q,hq,rfl⟩:=Wk.cl cl w h;obtain⟨e,c,b⟩:=zN.mp g;have e1:(e.1:Int)=j:=congrArg Prod.fst b;have e2:(e.2:Int)=q:=congrArg Prod.snd b;exact{e.1,cl e c (by rw[show e.2=q by omega];exact hq),e1.symm}
theorem zd1{J:Job}{os L c b:List Nat}{p:Nat}(B:os.Nodup)(s:L.Sublist os)(D:ByOrd os J.as)(E:∀p∈J.as,p.2∈L->p.1∈L)(e:L=c++p::b){j:Nat}(h:∃n,1<=n/\Wk (asI J) n (j:Int) (p:Int)):j∈c:=by
 obtain⟨n,N,w⟩:=h;have H:∀q∈asI J,rkO os q.1<rkO os q.2:=λq hq=>by
  obtain⟨x,hx,rfl⟩:=zN.mp hq;obtain⟨k,l,A,e1,e2⟩:=D x hx;show os.idxOf ((x.1:Int)).toNat<os.idxOf ((x.2:Int)).toNat;rw[vO,vO,yC B e1,yC B e2];exact A
 have r:=w.rank H;obtain⟨q,hq,eq⟩:=Wk.cl E w {p,by rw[e];simp,rfl}
 have g:j=q:=()
 subst g;have M:os.idxOf j<os.idxOf p:=by
  have:rkO os (j:Int)+n<=rkO os (p:Int):=r;unfold rkO at this;rw[vO,vO] at this;omega
 have C:=zdA B s;rw[e] at hq C;rcases zV.mp hq with h1 | h1
 .exact h1
 .rcases qH.mp h1 with h2 | h2
  .subst h2;omega
  .have:=(Xn.mp (List.pairwise_append.mp C).2.1).1 j h2
   omega
theorem TryR.end{J:Job}{H:xS}{p own:Nat}{B:List Bool}{C:List Ev}{n:Nat}{b r:List Ev}(h:TryR J H p own B C n b r):(∀e∈b,e.w ≠ "laid")->(∀e∈r,e.w ≠ "laid")/\((∃f,Ev.picked p f∈r)\/p∈pOf (zH zT r)):=by
 have c:∀{l:List Ev} {x:Ev},(∀e∈l,e.w ≠ "laid")->x.w ≠ "laid" -> ∀e∈l++[x],e.w ≠ "laid" :=λh1 h2 e D=>by
  rcases zV.mp D with z | z
  .exact h1 e z
  .rw[qm.mp z];exact h2
 have A:∀{l:List Ev} {x:Ev},x.w∈zT->x.p∈pOf (zH zT (l++[x])):=λhx=>by
  rw[zB,yW hx,jf];exact qW _ qJ
 induction h with
 | fin b=>exactλs=>{c s (show("failed":Str) ≠ "laid" by decide),.inr (A (x:=.failed p) (show("failed":Str)∈zT by decide))}
 | none n b h=>exactλs=>{c s (show("none":Str) ≠ "laid" by decide),.inr (A (x:=.none p) (show("none":Str)∈zT by decide))}
 | luck n b f h g=>exactλs=>{c s (show("picked":Str) ≠ "laid" by decide),.inl {f,qW _ qJ}}
 | miss n b f r h g t E=>exactλs=>E (c s (show("missed":Str) ≠ "laid" by decide))
theorem PksR.end{J:Job}{B:List Bool}{n:Nat}{C:List Ev}{c:List 0#e}{r:List Ev}(h:PksR J B n C c r):(∀e∈r,e.w ≠ "laid")/\∀q∈c,(∃f,Ev.picked q.1 f∈r)\/q.1∈pOf (zH zT r):=by
 induction h with
 | nil=>exact{(λe l=>nomatch l),λq hq=>nomatch hq}
 | snoc c D p own N r h e g L=>
  obtain⟨E,H⟩:=L;have s:(∀e∈r,e.w ≠ "laid")/\((∃f,Ev.picked p f∈r)\/p∈pOf (zH zT r)):=by
   rcases g with ⟨_,rfl⟩ | ⟨_,t⟩
   .refine{λe l=>by rw[qm.mp l];exact(show("behind":Str) ≠ "laid" by decide),.inr ?_}
    rw[yW (e:=.behind p) (show("behind":Str)∈zT by decide)]
    exact qJ
   .exact t.end λe l=>nomatch l
  refine{λx hx=>?_,λq hq=>?_}
  .rcases zV.mp hx with z | z
   .exact E x z
   .exact s.1 x z
  .rw[zB,jf]
   have M:∀{q:Nat} {a b:List Ev},(∃f,Ev.picked q f∈a)\/q∈pOf (zH zT a)->((∃f,Ev.picked q f∈a++b)\/q∈pOf (zH zT a)++pOf (zH zT b)):=λh=>h.imp (λ⟨f,A⟩=>{f,qw _ A}) λh=>qw _ h
   rcases zV.mp hq with z | z
   .exact M (H q z)
   .rw[qm.mp z]
    exact s.2.imp (λ⟨f,A⟩=>{f,qW _ A}) λh=>qW _ h
structure Done(J:Job)(pre:List Nat)(es:List Ev):Prop where
 ls:Lies J es
 al:∀q∈pre,q∈pOf (zH ["laid"] es)\/q∈pOf (zH zT es)
 inn:∀q∈pOf (zH ["laid"] es),q∈pre
theorem Done.picks{J:Job}{c:List Nat}{g b:List Ev}(d:Done J c g)(h:∀e∈b,e.w ≠ "laid"):Done J c (g++b):=by
 have n:zH ["laid"] b=[]:=wO λe l z=>h e l (qm.mp z)
 refine{d.ls.more h,λq hq=>?_,λq hq=>?_}
 .rw[zB,n,qA,zB,jf]
  exact(d.al q hq).imp id λz=>qw _ z
 .rw[zB,n,qA] at hq
  exact d.inn q hq
theorem LysR.done{J:Job}{os L D:List Nat}{E M:List Ev}(nd:os.Nodup)(s:L.Sublist os)(bo:ByOrd os J.as)(cl:∀p∈J.as,p.2∈L->p.1∈L)(d:Done J D E)(hp:∀e∈M,e.w ≠ "laid"){B:List Nat}{r:List Ev}(h:LysR J E M B r):(∃c,L=D++B++c)->(∀q∈B,(∃f,Ev.picked q f∈M)\/q∈pOf (zH zT M))->Done J (D++B) (E++r)/\∃t,r=M++t:=by
 induction h with
 | nil A h=>
  intro _ _;rw[h,qA];exact{d.picks hp,[],(qA _).symm}
 | skip B A p h g ih=>
  rintro⟨c,Q⟩ hq;obtain⟨C,t,T⟩:=ih {p::c,by rw[Q];simp} λq b=>hq q (qw _ b)
  refine{?_,t,T}
  rw[<- je];refine{C.ls,λq b=>?_,λq b=>qw _ (C.inn q b)}
  rcases zV.mp b with z | z
  .exact C.al q z
  .rw[qm.mp z]
   rcases hq p (qW _ qJ) with ⟨f,hf⟩ | hg
   .exfalso
    have:((zH ["picked"] M).any λe=>((e.p:Int)==(p:Int)))=true:=vN.mpr {_,qI.mpr {hf,qg (show("picked":Str)∈(["picked"]:List Str) by decide)},Zf _}
    rw[this] at g;cases g
   .rw[T,zB zT E,zB zT M,jf,jf]
    exact .inr (qW _ (qw _ hg))
 | lay B A p H e h g ep l ih=>
  rintro⟨c,Q⟩ hq;obtain⟨C,t,T⟩:=ih {p::c,by rw[Q];simp} λq b=>hq q (qw _ b)
  have N:L=(D++B)++p::c:=by rw[Q];simp
  have O:L.Nodup:=s.nodup nd;have pn:p∉D++B:=by
   rw[N] at O;exactλz=>(wf.mp O).2.2 p z p qJ rfl
  rw[<- je,<- je];refine{?_,t++[e],by rw[T,je]}
  rcases l with ⟨hl,rfl⟩ | ⟨hl,rfl⟩
  .have Y:(Ev.dropped p).w∈zT:=show("dropped":Str)∈zT by decide
   have U:(Ev.dropped p).w∉(["laid"]:List Str):=show("dropped":Str)∉(["laid"]:List Str) by decide
   refine{.other _ _ C.ls (show("dropped":Str) ≠ "laid" by decide),λq b=>?_,λq b=>?_}
   .rw[zB _ (E++A),ZS U,qA,zB _ (E++A),yW Y,jf]
    rcases zV.mp b with z | z
    .exact(C.al q z).imp id λz=>qw _ z
    .rw[qm.mp z]
     exact .inr (qW _ qJ)
   .rw[zB _ (E++A),ZS U,qA] at b
    exact qw _ (C.inn q b)
  .have Y:(Ev.laid p H.k H.x H.y).w∈(["laid"]:List Str):=show("laid":Str)∈(["laid"]:List Str) by decide
   have U:(Ev.laid p H.k H.x H.y).w∉zT:=show("laid":Str)∉zT by decide
   refine{.laid _ _ _ _ _ C.ls {⟨H,ep,rfl,rfl,rfl⟩,λz=>pn (C.inn p z),λj hj=>?_},λq b=>?_,λq b=>?_}
   .have jp:=zd1 nd s bo cl N hj
    rcases C.al j jp with z | z
    .exact z
    .exfalso
     obtain⟨x,hx,rfl⟩:=zN.mp z;obtain⟨n,n1,w⟩:=hj;exact hl {x,hx,λz=>pn (by rw[<- show x.p=p by omega];exact jp),n,w}
   .rw[zB _ (E++A),yW Y,jf,zB _ (E++A),ZS U,qA]
    rcases zV.mp b with z | z
    .exact(C.al q z).imp (λz=>qw _ z) id
    .rw[qm.mp z]
     exact .inl (qW _ qJ)
   .rw[zB _ (E++A),yW Y,jf] at b
    rcases zV.mp b with z | z
    .exact qw _ (C.inn q z)
    .rw[qm.mp z]
     exact qW _ qJ
theorem RunR.done{J:Job}{os L:List Nat}(T:os.Nodup)(s:L.Sublist os)(D:ByOrd os J.as)(H:∀p∈J.as,p.2∈L->p.1∈L){E:List Bool}{n:Nat}{B:List (List 0#e×List Nat)}{C:List Ev}{w:Int}(h:RunR J E n B C w):(∃c,L=B.flatMap (·.2)++c)->(∀t∈B,t.2.Perm (t.1.map (·.1)))->Done J (B.flatMap (·.2)) C:=by
 induction h with
 | nil=>exactλ_ _=>{.nil,(λq hq=>nomatch hq),λq hq=>nomatch hq}
 | snoc Y C w l g r h t Q=>
  rintro⟨c,A⟩ hp;rw[wA] at A ⊢;have e1:[(l,g)].flatMap (·.2)=g:=qA _
  rw[e1] at A ⊢;have O:=Q {g++c,by rw[A,je]} λt N=>hp t (qw _ N)
  obtain⟨M,a,b⟩:=t;obtain⟨a1,a2⟩:=a.end;refine(b.done T s D H O a1 ⟨c,A⟩ λq hq=>?_).1
  have U:g.Perm (l.map (·.1)):=hp (l,g) (qW _ qJ)
  obtain⟨x,hx,rfl⟩:=zN.mp (U.mem_iff.mp hq);exact a2 x hx
def zj8(p:Nat)(b:List Ev):Nat:=(pOf (zH zS b)).count p
structure zkc(J:Job)(n:Nat)(L:List Nat)(pre:List Ev)(e:Ev):Prop where
 g:e.p∉pOf (zH zT pre)
 l:e.p∉pOf (zH ["laid"] pre)
 o:e.p∈L
 t:e.w∈zS->zj8 e.p pre<n/\e.p∉pOf (zH ["picked"] pre)/\∃fe pa,J.fs[e.f]? =some fe/\J.ps[e.p]? =some pa/\fe.k=pa.k/\((jD pre).count (e.f:Int):Int)<fe.m
 d:e.w=("laid":Str)->e.p∈pOf (zH ["picked"] pre)
inductive Wlk(J:Job)(n:Nat)(L:List Nat):List Ev->Prop
 | nil:Wlk J n L []
 | snoc (b:List Ev) (e:Ev) (h:Wlk J n L b) (o:zkc J n L b e):Wlk J n L (b++[e])
theorem Wlk.at{J:Job}{n:Nat}{L:List Nat}{b:List Ev}(h:Wlk J n L b):∀{i:Nat} {e:Ev},b[i]? =some e->zkc J n L (b.take i) e:=by
 induction h with
 | nil=>exactλh=>nomatch h
 | snoc b e h o s=>
  intro i x hx;by_cases c:i<b.length
  .rw[Zl c] at hx
   rw[WB ()]
   exact s hx
  .have l:=(zK.mp hx).1
   rw[qh] at l;have g:i=b.length:=by
    have:([e]:List Ev).length=1:=rfl;omega
   subst g;rw[Zn (zF _),V6] at hx;cases hx;rw[List.take_left];exact o
theorem wT{p:Nat}{b:List Str}{l:List Ev}(h:∀e∈l,e.p=p->e.w∉b):p∉pOf (zH b l):=λz=>by
 obtain⟨e,g,c⟩:=zN.mp z;obtain⟨h1,h2⟩:=qI.mp g;exact h e h1 c (qP h2)
theorem zd6{J:Job}{n:Nat}{L:List Nat}{b:List Ev}{x:Ev}(hx:x.w∉zS)(c:x.w≠("laid":Str))(g:x.p∉pOf (zH zT b))(l:x.p∉pOf (zH ["laid"] b))(o:x.p∈L):zkc J n L b x:={g,l,o,λh=>absurd h hx,λh=>absurd h c}
theorem ze9{J:Job}{l:xS}{c:List Ev}{f:Nat}(h:f∈yq J l c):∃b,J.fs[f]? =some b/\b.k=l.k/\((jD c).count (f:Int):Int)<b.m:=by
 obtain⟨h1,h2⟩:=qI.mp h;obtain⟨s,g⟩:=qI.mp h1;have A:f<J.fs.length:=xB.mp s;have e:J.fs[f]? =some J.fs[f]:=qK A;rw[e] at h2 g;exact{_,e,jC (qP g),qP h2}
theorem yw{p:Nat}{c b:List Ev}(B:∀e∈c,e.p≠p)(A:∀e∈b,∃f,e=.missed p f){g:List Str}(h:("missed":Str)∉g):p∉pOf (zH g (c++b)):=wT λe s l=>by
 rcases zV.mp s with z | z
 .exact absurd l (B e z)
 .obtain⟨f,rfl⟩:=A e z
  exact h
theorem zhR{p:Nat}{b fnd:List Ev}(l:∀e∈b,e.p≠p):zj8 p (b++fnd)<=fnd.length:=by
 unfold zj8;rw[zB,jf,yh,zaY.mpr (wT λe g c=>absurd c (l e g)),Xe]
 refine jN List.count_le_length ?_
 unfold pOf;rw[zm];exact jq _ _
theorem TryR.wlk{J:Job}{D:xS}{p own:Nat}{E:List Bool}{A:List Ev}{k n:Nat}{L:List Nat}{b r:List Ev}(h:TryR J D p own E A k b r)(M:J.ps[p]? =some D)(hp:p∈L)(B:∀e∈A,e.p≠p):(∀e∈b,∃f,e=.missed p f)->b.length+k<=n->Wlk J n L (A++b)->Wlk J n L (A++r):=by
 have fin:∀{b:List Ev} {x:Ev},x.p=p->x.w∉zS->x.w≠("laid":Str)->(∀e∈b,∃f,e=.missed p f)->Wlk J n L (A++b)->Wlk J n L (A++(b++[x])):=λs h1 h2 c w=>by
  rw[<- je];exact .snoc _ _ w (zd6 h1 h2 (by rw[s];exact yw B c 1e1) (by rw[s];exact yw B c 1e1) (by rw[s];exact hp))
 have C:∀{b:List Ev} {x:Ev} {k:Nat},x.p=p->x.f∈yq J D (A++b)->x.w≠("laid":Str)->(∀e∈b,∃f,e=.missed p f)->b.length+(k+1)<=n->Wlk J n L (A++b)->Wlk J n L (A++(b++[x])):=λ{b x k} s T h2 c l w=>by
  rw[<- je];obtain⟨N,e1,e2,H⟩:=ze9 T;refine .snoc _ _ w {by rw[s];exact yw B c 1e1,by rw[s];exact yw B c 1e1,by rw[s];exact hp,λ_=>{?_,by rw[s];exact yw B c 1e1,N,D,e1,by rw[s];exact M,e2,H},λh=>absurd h h2}
  rw[s];have:=zhR (fnd:=b) B;omega
 induction h with
 | fin b=>exactλc _ w=>fin rfl (show("failed":Str)∉zS by decide) (show("failed":Str) ≠ "laid" by decide) c w
 | none n b h=>exactλc _ w=>fin rfl (show("none":Str)∉zS by decide) (show("none":Str) ≠ "laid" by decide) c w
 | luck n b f h g=>exactλc l w=>C (x:=.picked p f) rfl (VI h) (show("picked":Str) ≠ "laid" by decide) c l w
 | miss n b f r h g t Q=>
  intro c l w;refine Q (λe O=>?_) (by rw[qh];show _+1+n<=_;omega) (C (x:=.missed p f) rfl (VI h) (show("missed":Str) ≠ "laid" by decide) c l w)
  rcases zV.mp O with z | z
  .exact c e z
  .exact{f,qm.mp z}
theorem PickR.wlk{J:Job}{l:xS}{p own:Nat}{s:List Bool}{c:List Ev}{n:Nat}{L:List Nat}{r:List Ev}(h:PickR J l p own s n c r)(A:J.ps[p]? =some l)(hp:p∈L)(g:∀e∈c,e.p≠p)(w:Wlk J n L c):Wlk J n L (c++r)/\(∀e∈r,e.p=p)/\(p∈pOf (zH ["picked"] r)->p∉pOf (zH zT r))/\pOf (zH ["picked"] r)++pOf (zH zT r)=[p]:=by
 refine{?_,?_}
 .rcases h with ⟨_,rfl⟩ | ⟨_,t⟩
  .exact .snoc _ _ w (zd6 (show("behind":Str)∉zS by decide) (show("behind":Str) ≠ "laid" by decide) (wT λe b z=>absurd z (g e b)) (wT λe b z=>absurd z (g e b)) hp)
  .exact t.wlk A hp g (λe b=>nomatch b) (by show 0+n<=n;omega) (by rw[qA];exact w)
 .obtain⟨fs,x,rfl,_,k⟩:=h.form
  have B:x.p=p:=by cases k<;>rfl
  refine{λe b=>?_,?_}
  .rcases zV.mp b with z | z
   .obtain⟨f,_,rfl⟩:=zN.mp z
    rfl
   .rw[qm.mp z];exact B
  .rw[zB,zB,vV _ 1e1,vV _ 1e1,wx,wx]
   cases k with
   | picked f=>exact{λ_=>Zg,rfl}
   | behind=>exact{λh=>absurd h Zg,rfl}
   | none=>exact{λh=>absurd h Zg,rfl}
   | failed=>exact{λh=>absurd h Zg,rfl}
theorem PksR.wlk{J:Job}{N:List Bool}{n:Nat}{L:List Nat}{A:List Ev}{c:List 0#e}{b:List Ev}(h:PksR J N n A c b)(w:Wlk J n L A):(c.map (·.1)).Nodup->(∀q∈c,q.1∈L)->(∀q∈c,∀e∈A,e.p≠q.1)->Wlk J n L (A++b)/\(∀e∈b,e.p∈c.map (·.1))/\(∀p∈pOf (zH ["picked"] b),p∉pOf (zH zT b))/\(pOf (zH ["picked"] b)++pOf (zH zT b)).Perm (c.map (·.1)):=by
 induction h with
 | nil=>exactλ_ _ _=>{by rw[qA];exact w,(λe O=>nomatch O),(λp hp=>nomatch hp),.refl _}
 | snoc c b p own pa r h e g Y=>
  intro C s M;rw[zL] at C;have D:p∉c.map (·.1):=λz=>(wf.mp C).2.2 p z p qJ rfl
  obtain⟨Q,B,T,U⟩:=Y (wf.mp C).1 (λq hq=>s q (qw _ hq)) λq hq=>M q (qw _ hq)
  obtain⟨j1,H,j3,j4⟩:=g.wlk e (s (p,own) (qW _ qJ)) (λx hx=>by
   rcases zV.mp hx with z | z
   .exact M (p,own) (qW _ qJ) x z
   .exactλy=>D (by rw[<- y];exact B x z)) Q
  have l:∀{q:Nat} {E:List Str},q∈pOf (zH E b)->q∈c.map (·.1):=λhq=>by
   obtain⟨x,hx,rfl⟩:=zN.mp hq;exact B x (qI.mp hx).1
  have inR:∀{q:Nat} {E:List Str},q∈pOf (zH E r)->q=p:=λhq=>by
   obtain⟨x,hx,rfl⟩:=zN.mp hq;exact H x (qI.mp hx).1
  refine{by rw[<- je];exact j1,λx hx=>?_,λq hq=>?_,?_}
  .rw[zL]
   rcases zV.mp hx with z | z
   .exact qw _ (B x z)
   .exact qW _ (by rw[H x z];exact qJ)
  .rw[zB,jf] at hq ⊢
   intro hg;rcases zV.mp hq with z | z
   .rcases zV.mp hg with y | y
    .exact T q z y
    .exact D (by rw[<- inR y];exact l z)
   .cases inR z
    rcases zV.mp hg with y | y
    .exact D (l y)
    .exact j3 z y
  .rw[zB,zB,jf,jf,zL]
   have e1:([(p,own)]:List 0#e).map (·.1)=[p]:=rfl
   rw[e1,<- j4];refine List.Perm.trans ?_ (U.append_right _)
   rw[je,je];refine Wr _ ?_
   rw[<- je,<- je];exact QK.append_right _
theorem J7{b:List Ev}{p:Nat}:((zH ["picked"] b).any λe=>((e.p:Int)==(p:Int)))=true↔p∈pOf (zH ["picked"] b):=by
 rw[vN];constructor
 .rintro⟨x,hx,e⟩
  exact zN.mpr {x,hx,by have:=eq_of_beq e;omega}
 .intro h
  obtain⟨x,hx,rfl⟩:=zN.mp h;exact{x,hx,Zf _}
theorem LysR.wlk{J:Job}{n:Nat}{L:List Nat}{H D:List Ev}{b:List Nat}{r:List Ev}(h:LysR J H D b r)(w:Wlk J n L (H++D))(hl:∀e∈D,e.w ≠ "laid")(hg:∀p∈pOf (zH ["picked"] D),p∉pOf (zH zT D)):b.Nodup->(∀p∈b,p∈L)->(∀p∈b,∀e∈H,e.p≠p)->Wlk J n L (H++r)/\∃C,r=D++C/\(∀e∈C,e.p∈b/\e.w∉zS)/\(pOf (zH ["laid"] C)++pOf (zH zT C)).Perm (b.filter λp=>decide (p∈pOf (zH ["picked"] D))):=by
 induction h with
 | nil s h=>exactλ_ _ _=>{by rw[h];exact w,[],by rw[h,qA],(λe c=>nomatch c),.refl _}
 | skip b s p h g ih=>
  intro U A T;obtain⟨Y,C,e1,E,i3⟩:=ih (wf.mp U).1 (λq hq=>A q (qw _ hq)) λq hq=>T q (qw _ hq)
  have np:¬p∈pOf (zH ["picked"] D):=λz=>by rw[J7.mpr z] at g;cases g
  refine{Y,C,e1,λe c=>{qw _ (E e c).1,(E e c).2},?_}
  rw[xI,QX (by rw[xQ];exact np),Xh,qA]
  exact i3
 | lay b s p pa e h g B l ih=>
  intro U A T;obtain⟨Y,C,e1,E,i3⟩:=ih (wf.mp U).1 (λq hq=>A q (qw _ hq)) λq hq=>T q (qw _ hq)
  have hp:=J7.mp g;have O:p∉b:=λz=>(wf.mp U).2.2 p z p qJ rfl
  have Q:e.p=p:=by rcases l with ⟨_,rfl⟩ | ⟨_,rfl⟩<;>rfl
  have xt:e.w∉zS:=by
   rcases l with ⟨_,rfl⟩ | ⟨_,rfl⟩
   .exact(show("dropped":Str)∉zS by decide)
   .exact(show("laid":Str)∉zS by decide)
  have M:p∈L:=A p (qW _ qJ);have N:=T p (qW _ qJ);have ng:p∉pOf (zH zT (H++s)):=by
   rw[e1,zB,zB,jf,jf];intro z;rcases zV.mp z with z | z
   .exact wT (λe c B=>absurd B (N e c)) z
   .rcases zV.mp z with z | z
    .exact hg p hp z
    .exact wT (λe c B=>absurd (by rw[<- B];exact(E e c).1) O) z
  have nl:p∉pOf (zH ["laid"] (H++s)):=by
   rw[e1,zB,zB,jf,jf];intro z;rcases zV.mp z with z | z
   .exact wT (λe c B=>absurd B (N e c)) z
   .rcases zV.mp z with z | z
    .exact wT (λe c _ y=>hl e c (qm.mp y)) z
    .exact wT (λe c B=>absurd (by rw[<- B];exact(E e c).1) O) z
  refine{?_,C++[e],by rw[e1,je],λx hx=>?_,?_}
  .rw[<- je]
   refine .snoc _ _ Y {by rw[Q];exact ng,by rw[Q];exact nl,by rw[Q];exact M,λz=>absurd z xt,λ_=>?_}
   rw[Q,e1,zB,zB,jf,jf];exact qW _ (qw _ hp)
  .rcases zV.mp hx with z | z
   .exact{qw _ (E x z).1,(E x z).2}
   .rw[qm.mp z,Q]
    exact{qW _ qJ,xt}
  .rw[xI,QY (by rw[xQ];exact hp),Xh,zB,zB,jf,jf]
   refine List.Perm.trans ?_ (i3.append_right _)
   have a0:pOf (zH ["laid"] [e])++pOf (zH zT [e])=[p]:=by
    rcases l with ⟨_,rfl⟩ | ⟨_,rfl⟩<;>rfl
   rw[<- a0,je,je];refine Wr _ ?_
   rw[<- je,<- je];exact QK.append_right _
def Yn(J:Job)(b:List Ev):List (Int×Int):=b.flatMap λe=>(if e.w∈zS then [XI J e.f] else [])++if e.w=("laid":Str) then [e.xy] else []
def zdM(J:Job)(b:List Ev):Int:=(wn (([(J.gx,J.gy)]++Yn J b)++[(J.gx,J.gy)])).sum
theorem zff(J:Job)(a b:List Ev):Yn J (a++b)=Yn J a++Yn J b:=wA
theorem Jw{J:Job}:∀{l:List Ev},(∀e∈l,e.w ≠ "laid")->Yn J l=(zH zS l).map λe=>XI J e.f
 | [],_=>rfl
 | e::l,h=>by
  show((if e.w∈zS then [XI J e.f] else [])++if e.w=("laid":Str) then [e.xy] else [])++Yn J l=_
  rw[Jw λx hx=>h x (xg _ hx),zw (h e qJ),qA]
  show _=(zH zS ([e]++l)).map _;rw[zB,zL,JR];by_cases c:e.w∈zS
  .rw[zC c,zC (qg c)];rfl
  .rw[zw c,zw (λz=>c (qP z))];rfl
theorem X7{J:Job}:∀{l:List Ev},(∀e∈l,e.w∉zS)->Yn J l=(zH ["laid"] l).map Ev.xy
 | [],_=>rfl
 | e::l,h=>by
  show((if e.w∈zS then [XI J e.f] else [])++if e.w=("laid":Str) then [e.xy] else [])++Yn J l=_
  rw[X7 λx hx=>h x (xg _ hx),zw (h e qJ),wx]
  show _=(zH ["laid"] ([e]++l)).map _;rw[zB,zL,JR];by_cases c:e.w=("laid":Str)
  .rw[zC c,zC (qg (qm.mpr c))];rfl
  .rw[zw c,zw (λz=>c (qm.mp (qP z)))];rfl
def ofP(l:List Nat)(b:List Ev):List Ev:=b.filter λe=>decide (e.p∈l)
theorem zho{l:List Nat}{b:List Ev}(h:∀e∈b,e.p∈l):ofP l b=b:=Wn.mpr λe c=>qg (h e c)
theorem Ys{l:List Nat}{es:List Ev}(h:∀e∈es,e.p∉l):ofP l es=[]:=Xu.mpr λe b=>by rw[xQ];exact h e b
theorem zcf(l:List Nat)(a b:List Ev):ofP l (a++b)=ofP l a++ofP l b:=xI ..
structure zmP(J:Job)(n:Nat)(L:List Nat)(ts:List (List 0#e×List Nat))(es:List Ev)(w:Int):Prop where
 wk:Wlk J n L es
 pt:∀e∈es,e.p∈V5 ts
 pm:(pOf (zH ["laid"] es)++pOf (zH zT es)).Perm (V5 ts)
 far:w=(ts.map λt=>zdM J (ofP t.2 es)).sum
theorem RunR.wlk{J:Job}{bs:List Bool}{n:Nat}{L:List Nat}{C:List (List 0#e×List Nat)}{s:List Ev}{w:Int}(h:RunR J bs n C s w):(V5 C).Nodup->(∀t∈C,t.2.Perm (t.1.map (·.1)))->(∀p∈V5 C,p∈L)->zmP J n L C s w:=by
 induction h with
 | nil=>exactλ_ _ _=>{.nil,(λe g=>nomatch g),.refl _,rfl}
 | snoc C s w E l r h t ih=>
  intro U Y A;rw[Qy] at U A;obtain⟨d1,Q,T⟩:=wf.mp U;have i:=ih d1 (λt M=>Y t (qw _ M)) λp hp=>A p (qw _ hp)
  have D:l.Perm (E.map (·.1)):=Y (E,l) (qW _ qJ)
  have N:∀p∈l,∀e∈s,e.p≠p:=λp hp e g z=>T _ (i.pt e g) p hp z
  obtain⟨c,a,b⟩:=t;obtain⟨a1,a2,a3,a4⟩:=a.wlk i.wk (D.nodup_iff.mp Q) (λq hq=>A _ (qW _ (D.mem_iff.mpr (zN.mpr ⟨q,hq,rfl⟩)))) λq hq=>N _ (D.mem_iff.mpr (zN.mpr ⟨q,hq,rfl⟩))
  have H:=a.end.1;obtain⟨b1,B,rfl,b2,b3⟩:=b.wlk a1 H a3 Q (λp hp=>A p (qW _ hp)) N
  have O:∀e∈c++B,e.p∈l:=λe g=>by
   rcases zV.mp g with z | z
   .exact D.mem_iff.mpr (a2 e z)
   .exact(b2 e z).1
  refine{b1,λe g=>?_,?_,?_}
  .rw[Qy]
   rcases zV.mp g with z | z
   .exact qw _ (i.pt e z)
   .exact qW _ (O e z)
  .have nl:zH ["laid"] c=[]:=wO λe g z=>H e g (qm.mp z)
   have tr:(pOf (zH ["laid"] (c++B))++pOf (zH zT (c++B))).Perm l:=by
    rw[zB,zB,nl,wx,jf];have f1:(l.filter λp=>decide (p∈pOf (zH ["picked"] c))).Perm (pOf (zH ["picked"] c)):=by
     refine((D.trans a4.symm).filter _).trans ?_
     rw[xI,Wn.mpr λp hp=>qg hp,Xu.mpr,qA]
     intro p hp z;exact a3 p (qP z) hp
    refine List.Perm.trans ?_ (a4.trans D.symm)
    refine List.Perm.trans ?_ ((b3.trans f1).append_right _)
    rw[je];exact Wr _ QK
   rw[Qy,zB _ s,zB _ s,jf,jf];refine List.Perm.trans ?_ (i.pm.append tr)
   rw[je,je];refine Wr _ ?_
   rw[<- je,<- je];exact QK.append_right _
  .rw[zL,List.sum_append]
   have e1:zdM J (ofP l (s++(c++B)))=(wn (Vy J (c++B))).sum:=by
    rw[zcf,Ys λe g z=>N _ z e g rfl,zho O,wx]
    unfold zdM Vy;have t1:zH zS B=[]:=wO λe g=>(b2 e g).2
    have t2:zH ["laid"] c=[]:=wO λe g z=>H e g (qm.mp z)
    rw[zff,Jw H,X7 λe g=>(b2 e g).2,zB,zB,t1,t2,qA,wx]
    simp only[je]
   have e2:(C.map λt=>zdM J (ofP t.2 (s++(c++B))))=C.map λt=>zdM J (ofP t.2 s):=za1 λt M=>by
    rw[zcf,Ys (es:=c++B) λe g z=>T _ (yK.mpr ⟨t,M,z⟩) _ (O e g) rfl,qA]
   rw[e2,<- i.far];show _=w+(zdM J (ofP l (s++(c++B)))+0);rw[e1];omega
theorem Wk.in1{c:List (Int×Int)}{n:Nat}(h:∀q∈c,InN n q.1/\InN n q.2):∀{k:Nat} {a b:Int},1<=k->Wk c k a b->InN n a
 | k+1,a,b,_,⟨m,e,w⟩=>(h _ e).1
theorem zf6(x y:V)(r:List V):jA (x::y::r) (some 2) none=r:=by
 unfold jA;rw[show(some (2:Int))=some ((2:Nat):Int) from rfl,HT.sIx_nat,HT.sIx_none]
 have:min 2 (x::y::r).length=2:=by simp only[jZ];omega
 rw[this];simp
inductive zeA(K:W.Frag)(B:List V)(H:Hp)(Q:VK):Prop
 | mk (s l A:Addr) (J:Job) (c:List Nat) (p:Nat) (b:xS) (met:List Nat) (_:B=[.ref s,.ref l,.ref A]) (_:Rep K H (j6 J) (.ref s)) (_:JobOk J c) (_:Rep K H (evD (.laid p b.k b.x b.y)) (.ref l)) (_:J.ps[p]? =some b) (_:SqL K H A (zr met)) (_:p∉met) (_:(∀j:Nat,(∃n,1<=n/\Wk (asI J) n (j:Int) (p:Int))->j∈met)) (_:∀g,Same H g->Q (.bl true) g):zeA K B H Q
def zkE(K:W.Frag):Sp:=λb H Q _=>zeA K b H Q
theorem zk1:zD ["job","event","laid","part"] ["job","event","laid"] (zu (topL 51)):=u4
theorem zlD{f:Addr}{fd:FuncData}(F:Fun K "is_laid_right" "is_laid_right" (topL 51) f fd)(B:Blt I)(c:Dfn P w K I G "is_number_within" 2 ["thing","least","most"] (Vv K))(C:Dfn P w K I G "is_same" 5 ["thing","told"] (zi5 K 2))(g:Dfn P w K I G "ahead_of" 3 ["job","part"] (ZK K)):FnOk P w K I G CX0 6 f fd ["job","event","laid"] (zkE K):=by
 have nd:=zk1.nd;refine F.ok zk1 0#d (λao A al s H vs Q E hr h=>?_)
 .obtain⟨jp,ev,lp,J,L,p,pa,met,rfl,_⟩:=h
  rfl
 .obtain⟨jp,ev,lp,J,L,p,pa,met,rfl,rj,M,re,O,hl,np,ab,k⟩:=h
  have an:=bG1000000;have a0:=M.pl;have hp:=(zK.mp O).1;obtain⟨ap,rs,e0,qe,rr⟩:=wu re;cases e0;obtain⟨gg,fs,ps,as,fv,px,qj,_,qf,rf,aa,ac,_⟩:=xL rj;have ak:=ac.len;rw[zm] at ak;obtain⟨aq,ai,ae⟩:=J5 ac O;refine{_,(ze (zG (i:=3) nd rfl 0#a (zJ qC (pv 1) zg 0#c))
   (ze (jb (PW.pt (QP (vp (jH (zf c hr.m rfl (za (pv 3) (za zg (za (zO vy (zt zI rfl B.len boot_len (za 0#z zd)) zg) zd)))))) (yr (zP vU (pv 3) (pv 2) (by with_unfolding_all rfl)))))
   (zi (zy xx))
   zY)
   (ze (jb (vp (jH (zf C hr.m rfl (za (vg zae (pv 1) (vf zg) wS) (za (zJ qC 0#z (pv 3) 0#c) zd)))))
   (zi (zy xx))
   zY)
   (zi (zy (zt (x8 rfl) rfl B.all boot_all (za (jE ["laid"] [2] rfl rfl (by kernel_rfl) (zZ (zf g hr.m rfl (za (pv 0) (za (pv 3) zd)))) 0#g 0#v) zd))))))),?_}
  refine{_,rfl,ev,_,_,_,rfl,rfl,qe,qr (j:=1) rfl,?_}
  refine{_,rfl,_,rfl,jp,_,_,_,rfl,rfl,qj,rfl,ps,_,rfl,.inr aa,_,_,rfl,rfl,(p:Int),0,_,rfl,Wi _,(),_,rfl,?_}
  refine ifF rfl {_,rfl,_,rfl,lp,_,rfl,.inl hl,rfl,xn _,_,rfl,?_}
  rw[zw qS,VQ];refine ifF (jO np) ?_
  refine{_,rfl,2,rfl,ev,_,rfl,qe,(λz=>absurd z.1 (by
   rw[show(some (2:Int))=some ((2:Nat):Int) from rfl,HT.sIx_nat]
   simp only[jZ];omega)),λT hT=>?_}
  rw[zf6];have s1:=zb (H:=H) (o:=.tup rs) hT;have U:=zc (H:=H) (a:=T) (o:=.tup rs);generalize upd H T (.tup rs)=H1 at s1 U ⊢;have af:=ae;obtain⟨am,_,rfl,_⟩:=af;refine{_,rfl,jp,_,_,_,rfl,rfl,s1.sqT qj,rfl,_,rfl,ps,_,_,_,rfl,rfl,s1.sqT aa,qr ai,vk pa,.ref T,.ref am,rfl,{T,rs,rfl,u7 U,rr.same s1},ae.same s1,?_,λH2 s2=>{_,rfl,ifF rfl ?_}}
  .refine{by show 2<=1000000;decide,λd hd=>?_}
   rcases qH.mp hd with rfl | hd
   .trivial
   .cases qm.mp hd
    refine{by show 2<=1000000;decide,λd hd=>?_}
    rcases qH.mp hd with rfl | hd
    .trivial
    .cases qm.mp hd;trivial
  have ag:=s1.trans s2;refine{_,rfl,_,rfl,(p:Int),jp,J,rfl,rj.same ag,a0,{(),()},M.jsm.as,M.al,λl ms H3 s3 l0 Y ml _ mm=>{l,rfl,{_,u6 Y},?_}}
  have ah:=ag.trans s3;have rk:∀q∈asI J,rkO L q.1<rkO L q.2:=λq hq=>by
   obtain⟨x,hx,rfl⟩:=zN.mp hq;obtain⟨a,b,aj,e1,e2⟩:=M.bo x hx;have nd:=M.op.nodup_iff.mpr yH;show L.idxOf ((x.1:Int)).toNat<L.idxOf ((x.2:Int)).toNat;rw[vO,vO,yC nd e1,yC nd e2];exact aj
  refine qR (K:=K) (a:=l) (xs:=ms.map V.int) (λi zs H4=>zs=List.replicate i (V.bl true)/\Same H3 H4) {rfl,ua _} (λi zs H4 ⟨_,N⟩=>u6 (N _ _ Y)) ?_ ?_
  .rintro i x zs H4 hx ⟨rfl,N⟩
   rw[qk] at hx;obtain⟨j,ej,rfl⟩:=qG.mp hx;have il:=(zK.mp ej).1;obtain⟨ne,n,wk⟩:=(mm j).mp (qz ej);have n1:1<=n:=by
    cases n with
    | zero=>exact absurd (show j=(p:Int) from wk) ne
    | succ n=>omega
   have j0:=(Wk.in1 M.jsm.as n1 wk).1;obtain⟨jn,rfl⟩:∃jn:Nat,j=(jn:Int):={j.toNat,()}
   refine{rfl,_,rfl,_,rfl,lp,_,rfl,.inl ((ah.trans N).seq hl),rfl,xn _,by rw[va];omega,?_,N}
   rw[VQ,qg (ab jn ⟨n,n1,wk⟩),Z9];rfl
  .rintro zs H4 ⟨rfl,N⟩
   refine{by rw[va,zm];omega,λD hD=>{D,List.replicate (ms.map V.int).length true,rfl,u6 (by rw[zc,Z8]),?_}}
   rw[show(List.replicate (ms.map V.int).length true).all id=true by simp]
   exact k _ ((ah.trans N).trans (zb hD))
inductive W8(K:W.Frag)(A:List V)(H:Hp)(Q:VK):Prop
 | mk (s l:Addr) (J:Job) (c:List Nat) (b:List Ev) (_:A=[.ref s,.ref l]) (_:Rep K H (j6 J) (.ref s)) (_:JobOk J c) (_:Evs K H l b) (_:Lies J b) (_:b.length<=10000) (_:∀g,Same H g->Q (.bl true) g):W8 K A H Q
def zex(K:W.Frag):Sp:=λb H Q _=>W8 K b H Q
theorem Lies.at{J:Job}{b:List Ev}(h:Lies J b):∀{i:Nat} {e:Ev},(zH ["laid"] b)[i]? =some e->∃(p:Nat) (g:xS),e=.laid p g.k g.x g.y/\J.ps[p]? =some g/\p∉pOf ((zH ["laid"] b).take i)/\∀j:Nat,(∃n,1<=n/\Wk (asI J) n (j:Int) (p:Int))->j∈pOf ((zH ["laid"] b).take i):=by
 induction h with
 | nil=>exactλh=>nomatch h
 | other b e h n l=>
  intro i x hx;rw[zB,ZS (λz=>n (qm.mp z)),qA] at hx ⊢
  exact l hx
 | laid b p k x y h o l=>
  intro i z hz;rw[zB,yW (e:=.laid p k x y) (show("laid":Str)∈(["laid"]:List Str) by decide)] at hz ⊢
  by_cases c:i<(zH ["laid"] b).length
  .rw[Zl c] at hz
   rw[WB ()]
   exact l hz
  .have A:=(zK.mp hz).1
   rw[qh] at A;have s:i=(zH ["laid"] b).length:=by
    have:([.laid p k x y]:List Ev).length=1:=rfl;omega
   subst s;rw[Zn (zF _),V6] at hz;cases hz;rw[List.take_left];obtain⟨⟨g,e1,rfl,rfl,rfl⟩,B,C⟩:=o;exact⟨p,g,rfl,e1,B,C⟩
theorem ze1:zD ["job","events","laid","event"] ["job","events"] (zu (topL 52)):=u4
theorem zhg{f:Addr}{fd:FuncData}(F:Fun K "lies_right" "lies_right" (topL 52) f fd)(B:Blt I)(g:Dfn P w K I G "events_of" 1 ["events","words"] (X3 K))(b:Dfn P w K I G "is_laid_right" 6 ["job","event","laid"] (zkE K)):FnOk P w K I G CX0 7 f fd ["job","events"] (zex K):=by
 have nd:=ze1.nd;refine F.ok ze1 0#d (λai A ag s H vs Q E hr h=>?_)
 .obtain⟨jp,l,J,aa,es,rfl,_⟩:=h
  rfl
 .obtain⟨jp,l,J,aa,es,rfl,rj,jo,hl,ls,el,k⟩:=h
  have ah:=bG1000000;have fl:(zH ["laid"] es).length<=10000:=jN (jq _ _) el;refine{_,(ze (zG (i:=2) nd rfl 0#a (z9 zd))
   (ze (jh jL rfl (zZ (zf g hr.m rfl (za (pv 1) (za (qL (za xD zd)) zd)))) (zq (i:=3) nd rfl 0#a)
   (ze (jb (vp (jH (zf b hr.m rfl (za (pv 0) (za (pv 3) 0#t)))))
    (zi (zy xx))
    zY)
    (zi (ji (xi j5 vQ vP jr (pv 2) (za (zJ qC (pv 3) zg 0#c) zd))))))
   (zi (zy xx)))),?_}
  refine{le0,λD U=>{_,rfl,le1,λT hT=>?_}}
  have s1:=(zb (H:=H) (o:=.lst []) U).trans (zb (o:=.tup [.str "laid"]) hT);have L:=(zb (o:=.tup [.str "laid"]) hT) _ _ (zc (H:=H) (a:=D) (o:=.lst []));have N:=zc (H:=upd H D 0#o) (a:=T) (o:=.tup [.str "laid"]);generalize upd (upd H D 0#o) T (.tup [.str "laid"])=H1 at s1 L N ⊢;refine{l,T,es,["laid"],rfl,hl.same s1,u7 N,(),λp H2 hp s2 ⟨xs,hx,rx⟩=>{p,rfl,{_,u6 hx},?_}}
  have af:p≠D:=λz=>by rw[z,L] at hp;cases hp
  have a0:=λ(i:Nat) (e:Ev)=>ls.at (i:=i) (e:=e)
  generalize zH ["laid"] es=fs at fl rx a0;have xl:=rx.len;rw[zm] at xl;refine xF (K:=K) (a:=p) (xs:=xs) (λi σ C=>Ex1 λ(v3:Option V)=>An5 (σ=[some (.ref jp),some (.ref l),some (.ref D),v3]) (Same H C) (C D=some (.lst (zr (pOf (fs.take i))))) (C p=some (.lst xs)) (Reps K C (fs.map evD) xs)) {_,rfl,s1.trans s2,s2 _ _ L,hx,rx} (λi σ C _ ⟨_,_,_,_,h3,_⟩=>u6 h3) ?_ ?_
  .rintro i x σ C Y ⟨v3,rfl,s3,O,ae,ab⟩
   have il:=(zK.mp Y).1;obtain⟨d,ed,rd⟩:=ab.get Y;rw[qk] at ed;obtain⟨e,ee,rfl⟩:=qG.mp ed;obtain⟨q,pa,rfl,ac,o2,o3⟩:=a0 i e ee;obtain⟨a,rs,rfl,qa,_⟩:=wu rd;refine{_,rfl,_,rfl,_,rfl,jp,a,D,J,aa,q,pa,_,rfl,rj.same s3,jo,rd,ac,u6 O,o2,o3,λH4 s4=>{_,rfl,?_}}
   have M:=s4 _ _ O;refine ifF rfl {_,rfl,.inl {rfl,_,u6 M},_,rfl,a,_,_,_,rfl,rfl,s4.sqT qa,qr (j:=1) rfl,D,_,_,rfl,rfl,M,?_,_,rfl,?_,?_,by rw[zp af];exact s4 _ _ ae,(ab.same s4).keep (ud M) (wW _)}
   .unfold pOf
    rw[zA,zm,qv];omega
   .exactλc u e=>by
     rw[zp (zj e U)];exact(s3.trans s4) c u e
   .rw[zc,zM ee,jf]
    unfold zr;rw[zL];rfl
  .rintro σ C ⟨v3,rfl,s3,_⟩
   exact k C s3
theorem Y9{H:Hp}{t:zW}{l:Addr}(h:Rep K H (jG t) (.ref l)):∃a c b g,SqT K H l [.ref a,.ref c]/\SqT K H a b/\Reps K H (t.pk.map jM) b/\SqT K H c g/\Reps K H (t.ly.map Yx) g:=by
 obtain⟨a,U,e,q,Q,O,s,C,T,L,A,D,B⟩:=h;cases e;subst s A;cases(show L=[] from B)
 obtain⟨a,b,rfl,E,M⟩:=C;obtain⟨c,g,rfl,J,N⟩:=D;exact⟨a,c,b,g,q,E,M,J,N⟩
theorem zgS{r:Int}(h0:0<=r)(h1:r<4):∃z:Int,atI [V.int 6,V.int 41,V.int 41,V.int 401] r=some (.int z)/\6<=z/\z<=401:=by
 have hc:r=0\/r=1\/r=2\/r=3:=()
 rcases hc with rfl | rfl | rfl | rfl
 .exact{_,rfl,1e1,1e1}
 .exact{_,rfl,1e1,1e1}
 .exact{_,rfl,1e1,1e1}
 .exact{_,rfl,1e1,1e1}
theorem zjn{r:Int}(h0:0<=r)(h1:r<4)(a b c d:Bool):∃z:Bool,atI [V.bl a,V.bl b,V.bl c,V.bl d] r=some (.bl z):=by
 have hc:r=0\/r=1\/r=2\/r=3:=()
 rcases hc with rfl | rfl | rfl | rfl<;>exact{_,rfl}
inductive zew(s:List V)(H:Hp)(Q:VK):Prop
 | mk (b:Addr) (n:Int) (_:s=[.ref b]) (_:BoxAt H b n) (_:n<500000) (_:∀(l:Addr) (g:List Bool) c,SameB b H c->BoxAt c b (n+1000)->H l=none->l≠b->c l=some (.lst (g.map V.bl))->g.length<=400->Q (.ref l) c):zew  s H Q
def zkD:Sp:=λb H Q _=>zew  b H Q
theorem zk0:zD ["_law_box_here","_law_draw","_law_found","_law_many","_law_k"] ["_law_box_here"] (zu (topL 73)):=u4
def zcZ(b:_)(d:_)(l:_)(m:_)(H:_)(n:_):=λ(i:Nat) (σ:St) (c:Hp)=>(Ex2 λ(g:List Bool) (s:Option V)=>An5 (σ=[some (.ref b),some (.int d),some (.ref l),some (.int m),s]) (SameB b H c) (BoxAt c b (n+3+2*i)) (c l=some (.lst (g.map V.bl))) (g.length=i):Prop)
theorem zlE{f:Addr}{fd:FuncData}(F:Fun K "_law_luck" "_law_luck" (topL 73) f fd)(B:Blt I)(c:Dfn P w K I G "_law_take" 1 ["_law_box_here","_law_size"] vo):FnOk P w K I G CX0 2 f fd ["_law_box_here"] zkD:=by
 have nd:=zk0.nd;refine F.ok zk0 0#d (λac A aa s H vs Q E D h=>?_)
 .obtain⟨b,n,rfl,_⟩:=h
  rfl
 .obtain⟨b,n,rfl,B0,hn,k⟩:=h
  have ab:=bG100000;refine{_,(ze (Jv (i:=1) (j:=2) rfl nd rfl rfl 1e1 rfl rfl (za (zf c D.m rfl 0#h) (za (z9 zd) zd)) 1e2)
   (ze (zG (i:=3) nd rfl 0#a (zf c D.m rfl (za (pv 0) (za (zJ qO (z9 (za zg (za zg (za zg (za zg zd))))) (zf c D.m rfl 0#h) 0#c) zd))))
   (ze (jh jL rfl (jS rfl B.range (za (pv 3) zd)) (zq (i:=4) nd rfl 0#a)
   (zi (ji (xi j5 vQ vP jr (pv 2) (za (zJ qO (z9 (za xx (za xx (za (qZ xW (zf c D.m rfl 0#h) zg (zR _)) (za (qZ Yr (zf c D.m rfl 0#h) zg (zR _)) zd))))) (pv 1) 0#c) zd)))))
   (zi (zy (pv 2)))))),?_}
  have C:=bGe;refine{_,rfl,b,4,n,rfl,B0,(),1e1,1e1,λd H1 d0 d1 B1 S1=>{le0,λl M=>?_}}
  have g:=B1.nne M;have S2:=S1.new (o:=.lst []) M;have U:=B1.new (o:=.lst []) M;have L2:upd H1 l 0#o l=some 0#o:=zc;have lN:=S1.none M g;generalize upd H1 l 0#o=H2 at S2 U L2;refine{_,_,rfl,_,rfl,le4,λq hq=>{_,rfl,b,4,_,rfl,U.new hq,(),1e1,1e1,λr H3 r0 O B3 S3=>?_}}
  obtain⟨z,L,z0,z1⟩:=zgS r0 O;have qb:=U.nne hq;refine{q,_,_,_,rfl,rfl,u6 (S3 _ _ zc qb),L,b,z,_,rfl,B3,(),(),(),λm H4 m0 m1 B4 S4=>?_}
  have S5:=((S2.new hq).trans S3).trans S4;have L5:=S4 _ _ (S3 _ _ ((zb (o:=.lst [.int 6,.int 41,.int 41,.int 401]) hq) _ _ L2) g) g;refine{_,rfl,_,rfl,(by rw[C];omega),(by rw[C];omega),?_}
  refine xo (zcZ b d l m H n) {[],_,rfl,S5,B4.mono (),L5,rfl} ?_ ?_
  .rintro i σ H' hi ⟨bs,v4,rfl,Y,T,J,bl⟩
   refine{_,rfl,.inl {rfl,_,u6 J},_,rfl,b,2,_,rfl,T,(),1e1,1e1,λO H6 a0 a1 B6 S6=>{rfl,_,rfl,b,5,_,rfl,B6,(),1e1,1e1,λr2 H7 c0 c1 B7 S7=>{_,_,rfl,rfl,le4,λt N=>?_}}}
   obtain⟨z,L⟩:=zjn d0 d1 false true (decide (V.int O=V.int 0)) (decide (0<r2));have tb:=B7.nne N;have S8:=(Y.trans S6).trans S7;have L8:=(zb (o:=.lst [.bl false,.bl true,.bl (decide (V.int O=V.int 0)),.bl (decide (0<r2))]) N) _ _ (S7 _ _ (S6 _ _ J g) g);refine{_,rfl,t,_,_,_,rfl,rfl,u6 zc,(by first| exact L | (rw[<- L];rfl)),l,_,_,rfl,rfl,L8,by rw[zm];omega,bs++[z],_,rfl,(S8.new N).put lN,((B7.new N).other g).mono (),by rw[zc,zL];rfl,by rw[qh,bl];rfl}
  .rintro σ H' ⟨bs,v4,rfl,Y,T,J,bl⟩
   exact{_,rfl,k l bs H' Y (T.mono ()) lN g J ()}
theorem zlb:zD ["_law_plan_here","_law_found","_law_picks","_law_lays"] ["_law_plan_here"] (zu (topL 70)):=u4
theorem zlM{f:Addr}{fd:FuncData}(F:Fun K "_law_all_picks" "_law_all_picks" (topL 70) f fd)(B:Blt I):FnOk P w K I G CX0 1 f fd ["_law_plan_here"] (zde K):=by
 have M:=zlb.nd;refine F.ok zlb 0#d (λaa A N s H vs Q E hr h=>?_)
 .obtain⟨l,xs,T,rfl,_⟩:=h
  rfl
 .obtain⟨l,xs,T,rfl,hl,rl,al,k⟩:=h
  have a0:=bG1000000;have ll:=rl.len;rw[zm] at ll;refine{_,(ze (zG (i:=1) M rfl 0#a (z9 zd))
   (ze (jh jL rfl (zZ (pv 0)) (qE rfl (zn (zq (i:=2) M rfl 0#a) (zn (zq (i:=3) M rfl 0#a) z7)))
   (zi (ji (xi j5 Xw Xv zch (pv 1) 0#t))))
   (zi (zy (pv 1))))),?_}
  refine{le0,λr J=>?_}
  have s0:=zb (H:=H) (o:=.lst []) J;refine{_,rfl,l,rfl,{_,s0.seq hl},xF (K:=K) (a:=l) (xs:=xs) (λi σ C=>Ex3 λ(U Y:Option V) (D:List V)=>An5 (σ=[some (.ref l),some (.ref r),U,Y]) (Same H C) (C r=some (.lst D)) (SameT (upd H r 0#o) C) (Reps K C ((zo (T.take i)).map jM) D)) {_,_,[],rfl,s0,zc,SameT.refl _,rfl} (λi σ C _ ⟨_,_,_,_,s1,_,_,_⟩=>s1.seq hl) ?_ ?_}
  .rintro i x σ C hx ⟨U,Y,D,rfl,s1,g,T1,L⟩
   obtain⟨d,ed,rd⟩:=(rl.same s1).get hx;rw[qk] at ed;obtain⟨t,et,rfl⟩:=qG.mp ed;obtain⟨a,b,c,O,ys,rfl,qa,qb,rb,qc,rc⟩:=xK rd;have lb:=rb.len;rw[zm] at lb;have zl:=L.len;rw[zm] at zl;have le1:=J8 T (i+1);rw[zM et,wY,qh] at le1;refine{a,_,rfl,qa,rfl,_,_,rfl,_,_,rfl,rfl,?_}
   refine{_,rfl,.inl {rfl,_,u6 g},_,rfl,?_}
   have TT:=ud (ys:=D++O) g;refine{r,b,D,O,rfl,rfl,g,qb,(),_,_,D++O,rfl,s1.put J,zc,T1.trans TT,?_}
   rw[zM et,wY,zL];exact(L.keep TT (qN _)).app (rb.keep TT (qN _))
  .rintro σ C ⟨U,Y,D,rfl,s1,g,T1,L⟩
   rw[ll,qB] at L;exact{_,rfl,k r D C s1 J g L}
def qM(b:List zW):List Nat:=b.flatMap λt=>t.pk.map (·.2)
theorem ZI(b:List zW)(t:zW):qM (b++[t])=qM b++t.pk.map (·.2):=by
 unfold qM;rw[wA];simp
theorem zaa(b:List zW)(i:Nat):(qM (b.take i)).length<=(qM b).length:=by
 have:qM b=qM (b.take i)++qM (b.drop i):=by
  unfold qM;rw[<- wA,ZD]
 rw[this,qh];omega
def JU(fs:List xw)(c:Nat->Nat):List Int:=fs.zipIdx.map λp=>p.1.m-(c p.2:Int)
theorem yE(fs:List xw)(c:Nat->Nat):(JU fs c).length=fs.length:=by
 unfold JU;rw[zm,List.length_zipIdx]
theorem YQ{fs:List xw}{c:Nat->Nat}{k:Nat}{f:xw}(h:fs[k]? =some f):(JU fs c)[k]? =some (f.m-(c k:Int)):=by
 unfold JU;rw[qk,List.getElem?_zipIdx,h]
 simp
theorem zaq(l:List Nat)(k:Nat):(l.map λi:Nat=>(i:Int)).count (k:Int)=l.count k:=by
 induction l with
 | nil=>rfl
 | cons x l b=>
  rw[jz,ww,ww,b];by_cases h:x=k
  .simp[h]
  .have:¬(x:Int)=(k:Int):=()
   simp[h,this]
theorem zdu(l:List Nat):zr l=(l.map λi:Nat=>(i:Int)).map V.int:=by
 unfold zr;rw[xc];rfl
theorem zdG{J:Job}{H:Hp}{p:Addr}(h:Rep K H (j6 J) (.ref p)):∃(c g l s:V) (t:Addr) (b:List V),SqT K H p [c,g,.ref t,l,s]/\SqT K H t b/\Reps K H (J.fs.map wq) b:=by
 obtain⟨a,b,e,A,c,_,rfl,_,g,_,rfl,_,L,_,rfl,e2,l,_,rfl,_,s,E,rfl,_,rfl⟩:=h;cases e;obtain⟨t,D,rfl,B,C⟩:=e2;exact{_,_,_,_,t,D,A,B,C}
inductive W9(K:W.Frag)(B:List V)(H:Hp)(Q:VK):Prop
 | mk (g s:Addr) (J:Job) (c:List zW) (A:List V) (_:B=[.ref g,.ref s]) (_:Rep K H (j6 J) (.ref g)) (_:J.fs.length<=100) (_:SqL K H s A) (_:Reps K H (c.map jG) A) (_:(qM c).length<=1000) (_:∀(l:Addr) b,H l=none->Same H b->b l=some (.lst ((JU J.fs λk=>(qM c).count k).map V.int))->Q (.ref l) b):W9 K B H Q
def zey(K:W.Frag):Sp:=λb H Q _=>W9 K b H Q
theorem ze2:zD ["job","plan","taken"] ["job","plan"] (zu (topL 33)):=u4
theorem zhh{f:Addr}{fd:FuncData}(F:Fun K "left_in" "left_in" (topL 33) f fd)(B:Blt I):FnOk P w K I G CX0 1 f fd ["job","plan"] (zey K):=by
 have nd:=ze2.nd;refine F.ok ze2 0#d (λaf A a0 s H vs Q E hr h=>?_)
 .obtain⟨jp,pl,J,b,tr,rfl,_⟩:=h
  rfl
 .obtain⟨jp,pl,J,b,tr,rfl,rj,fl,hp,rt,tl,k⟩:=h
  have ae:=bG100000;have U:=rt.len;rw[zm] at U;refine{_,(ze (zG (i:=2) nd rfl (Or.inr rfl) (zgW [] [] rfl rfl (by kernel_rfl) (zZ (pv 1)) 0#g (λ_ _ _ _=>(Jc (K:=K) rfl (pv 0))) 0#g (λ_ _ _ _=>(pv 3))))
   (zi (zy (zfn ["taken"] [2] rfl rfl (by kernel_rfl) (wJ rfl B.enumerate (za 0#z zd)) 0#g (λ_ _ _ _=>(zO vy (pv 3) (zaj (K:=K) rfl j5 Wx Ww Qp (pv 4) 0#y))))))),?_}
  refine{_,rfl,pl,rfl,{_,hp},JG (K:=K) (a:=pl) (xs:=tr) (λi g C=>g=zr (qM (b.take i))/\Same H C) {rfl,ua _} (λi g C ⟨_,L⟩=>L.seq hp) ?_ ?_}
  .rintro i x g C hx ⟨rfl,L⟩
   obtain⟨d,e1,r1⟩:=(rt.same L).get hx;rw[qk] at e1;obtain⟨t,et,rfl⟩:=qG.mp e1;obtain⟨tp,zz,ex,_⟩:=id r1;subst ex;obtain⟨ta,tc,xs,ys,qt,qa,ra,qc,rc⟩:=Y9 r1;have Y:=ra.len;rw[zm] at Y;have le1:=zaa b (i+1);rw[zM et,ZI,qh,zm] at le1;refine{tp,_,rfl,qt,rfl,_,_,rfl,_,_,rfl,rfl,rfl,?_}
   refine{_,rfl,ta,rfl,{_,qa},zaB (K:=K) (a:=ta) (xs:=xs) (λj ws M=>ws=zr (qM (b.take i))++zr ((t.pk.take j).map (·.2))/\Same C M) {by simp[zr],ua _} (λj ws M ⟨_,s2⟩=>s2.sqT qa) ?_ ?_}
   .rintro j y ws M hy ⟨rfl,s2⟩
    obtain⟨d2,e2,r2⟩:=(ra.same s2).get hy;rw[qk] at e2;obtain⟨p,ep,rfl⟩:=qG.mp e2;have hj:=(zK.mp ep).1;obtain⟨pa,pw,rfl,qp,x1,ab,rfl,e3,x2,ac,rfl,e4,e5⟩:=r2;cases e3;cases e4;cases e5;refine{pa,_,rfl,qp,rfl,_,_,rfl,_,_,rfl,rfl,⟨rfl,rfl,trivial⟩,?_}
    refine{_,rfl,?_,?_,s2}
    .rw[qh,zA,zA,zm,qv];omega
    .rw[zM ep,je,zL]
     unfold zr;rw[zL];rfl
   .rintro ws M ⟨rfl,s2⟩
    refine{?_,L.trans s2}
    rw[Y,qB,zM et,ZI];unfold zr;rw[zL]
  .rintro g C ⟨rfl,L⟩
   rw[U,qB,zdu];refine{by rw[zm,zm];omega,λl hl=>?_}
   have s1:=L.trans (zb (o:=.lst (((qM b).map λi:Nat=>(i:Int)).map V.int)) hl)
   have L1:upd C l (.lst (((qM b).map λi:Nat=>(i:Int)).map V.int)) l=some (.lst (((qM b).map λi:Nat=>(i:Int)).map V.int)):=zc
   have lH:=L.none hl;generalize upd C l (.lst (((qM b).map λi:Nat=>(i:Int)).map V.int))=M at s1 L1
   obtain⟨x0,x1,x2,x3,t2,fv,qj,qf,rf⟩:=zdG (rj.same s1);have lf:=rf.len;rw[zm] at lf;refine{_,rfl,jp,_,_,_,rfl,rfl,qj,rfl,t2,rfl,{_,qf},JF (K:=K) (a:=t2) (xs:=fv) (λi g H3=>g=((JU J.fs λk=>(qM b).count k).take i).map V.int/\Same M H3) {rfl,ua _} (λi g H3 ⟨_,D⟩=>D.sqT qf) ?_ ?_}
   .rintro i x g H3 T hx ⟨rfl,D⟩ hT
    obtain⟨d,e1,r1⟩:=(rf.same D).get hx;rw[qk] at e1;obtain⟨fe,N,rfl⟩:=qG.mp e1;have hi:=(zK.mp N).1;have sT:=D.trans (zb (o:=.tup [.int (i:Int),x]) hT);obtain⟨fa,fw,rfl,aa,y1,ab,rfl,e2,y2,ac,rfl,e3,y3,ag,rfl,e4,e5⟩:=r1.same (zb (o:=.tup [.int (i:Int),x]) hT);cases e5;cases(show y3=.int fe.m from e4)
    have eg:=YQ (c:=λk=>(qM b).count k) N
    rw[zM eg,zL];refine{T,_,rfl,u7 zc,rfl,_,_,rfl,_,_,rfl,fa,_,rfl,aa,rfl,_,_,rfl,_,_,rfl,_,_,rfl,rfl,rfl,rfl,?_}
    refine{_,rfl,_,rfl,.inl {rfl,_,u6 (sT _ _ L1)},_,rfl,l,_,(i:Int),rfl,rfl,sT _ _ L1,_,_,rfl,rfl,?_,?_,sT}
    .rw[zm,qv,yE];omega
    .rw[zaq]
     rfl
   .rintro g H3 ⟨rfl,D⟩
    rw[lf,<- yE J.fs λk=>(qM b).count k,qB]
    refine{by rw[zm,yE];omega,λl2 O=>k l2 _ (s1.none (D.none O)) (s1.trans (D.trans (zb O))) zc}
end
def onF(f:Nat)(b:List (Nat×Nat)):List 0#e:=b.filter λp=>decide (p.2=f)
theorem ZT(f:Nat)(b:List (Nat×Nat))(p:Nat×Nat):onF f (b++[p])=onF f b++if p.2=f then [p] else []:=by
 unfold onF;rw[xI,yf];congr 1
 by_cases e:p.2=f
 .rw[zC (qg e),zC e];rfl
 .rw[zw (by simpa using e),zw e];rfl
theorem zgA{st:Nat->Int}(hs:∀k,0<=st k)(f:Nat)(b:List 0#e):onF f (P1 st b).2=(onF f b).take (st f).toNat:=by
 refine xC (C:=λb=>onF f (P1 st b).2=(onF f b).take (st f).toNat) (by simp[onF,P1]) (λb p g=>?_) b
 rw[WE,ZT];have c:=zbj st b f;rw[V1,show((P1 st b).2.filter λp=>decide (p.2=f))=_ from g,qv] at c
 have h0:=hs f;unfold s1;by_cases e:p.2=f
 .rw[zC e,e]
  split
  .rename_i h
   show onF f ((P1 st b).2++[p])=_;rw[ZT,zC e,g,QW (),QW (by rw[qh];show _+1<=_;omega)]
  .rename_i h
   rw[g,WB ()]
 .rw[zw e,qA]
  split
  .show onF f ((P1 st b).2++[p])=_
   rw[ZT,zw e,qA,g]
  .exact g
structure P2K(J:Job)(st:Nat->Int)(all ps:List 0#e):Prop where
 le:∀k,(P2 J st all ps).1 k<=(P1 st all).1 k
 old:∀q∈som (P1 st all).2,q∈(P2 J st all ps).2
 new:∀p f,(p,some f)∈(P2 J st all ps).2->(p,f)∈(P1 st all).2\/0<(P1 st all).1 f
theorem zh3(J:Job)(st:Nat->Int)(all c:List 0#e):P2K J st all c:=by
 refine xC (C:=λc=>P2K J st all c) {λ_=>yI _,λ_ h=>h,λp f h=>?_} (λc p b=>?_) c
 .obtain⟨q,hq,e⟩:=zN.mp (show(p,some f)∈som (P1 st all).2 from h)
  cases e;exact .inl hq
 .have e:=Ji J st all c p
  unfold s2 at e;split at e
  .exact{by rw[e];exact b.le,by rw[e];exact b.old,by rw[e];exact b.new}
  .split at e
   .refine{by rw[e];exact b.le,λq h=>by rw[e];exact qw _ (b.old q h),λx f h=>?_}
    rw[e] at h;rcases zV.mp h with h | h
    .exact b.new x f h
    .cases qm.mp h
   .rename_i k l g
    have hk:=(zb0 (show k∈rdy J p.1 (P2 J st all c).1 by rw[g];exact qJ ..)).2
    refine{λj=>?_,λq h=>by rw[e];exact qw _ (b.old q h),λx f h=>?_}
    .rw[e]
     have:=b.le j;show upF (P2 J st all c).1 k _ j<=_;unfold upF;split
     .rename_i z;subst z;omega
     .exact this
    .rw[e] at h
     rcases zV.mp h with h | h
     .exact b.new x f h
     .cases qm.mp h
      have:=b.le k;exact .inr ()
theorem zhB{all:List (Nat×Nat)}(c:(all.map (·.1)).Nodup){p a b:Nat}(h1:(p,a)∈all)(h2:(p,b)∈all):a=b:=by
 have n:((som all).map (·.1)).Nodup:=by rw[Js];exact c
 have e1:=zav n (zN.mpr {_,h1,rfl}:(p,some a)∈som all);have e2:=zav n (zN.mpr {_,h2,rfl}:(p,some b)∈som all);rw[e1] at e2;exact jC (jC e2)
theorem YM{α:Type}(c:α->Bool):∀l:List α,(l.filter λx=>!c x).length+(l.filter c).length=l.length
 | []=>rfl
 | a::l=>by
  have h:=YM c l;rw[yf,yf];cases e:c a
  .simp;omega
  .simp;omega
section
variable{J:Job}{g os:List Nat}{b:List zW}{st:Nat->Int}
theorem MOk.stay_iff(m:MOk J g os b)(hs:∀k,0<=st k){p f:Nat}(h:(p,f)∈zo b):lkF (qY J st b) p=some (some f)↔(p,f)∈(onF f (zo b)).take (st f).toNat:=by
 have s:=zh3 J st (zo b) (zo b);have w:=m.brk.ky st;have l:=zgA hs f (zo b);constructor
 .intro e
  rw[<- l];refine qI.mpr {?_,qg rfl}
  rcases s.new p f (ZU e) with z | z
  .exact z
  .have c:=zbj st (zo b) f
   rw[V1,show((P1 st (zo b)).2.filter λp=>decide (p.2=f))=_ from l,qv] at c
   have:(p,f)∈onF f (P1 st (zo b)).2:=by
    rw[l,QW ()]
    exact qI.mpr {h,qg rfl}
   exact(qI.mp this).1
 .intro e
  rw[<- l] at e;exact zav w.nd (s.old _ (zN.mpr {_,(qI.mp e).1,rfl}))
theorem MOk.stays(m:MOk J g os b)(hs:∀k,0<=st k)(f:Nat) :
  ((zo (jB (qY J st b) (jd J st b) b)).filter λq=>decide (q∈onF f (zo b))).length+(((onF f (zo b)).take (st f).toNat).filter λq=>jd J st b q.1).length=((onF f (zo b)).take (st f).toNat).length:=by
 have nd:=m.nd;have c:(zo b).Nodup:=VH nd;have sub:((onF f (zo b)).take (st f).toNat).Sublist (zo b):=(Wg _ _).trans Xp;have e1:∀p∈zo b,(decide ((p.1,fdN (qY J st b) p.1)∈onF f (zo b))&&!jd J st b p.1)=(!jd J st b p.1&&decide (p∈(onF f (zo b)).take (st f).toNat)):=λp hp=>by
  cases A:jd J st b p.1 with
  | true=>simp
  | false=>
   have hk:p.1∈(qY J st b).map (·.1):=(m.brk.keys st).mem_iff.mpr (zN.mpr ⟨p,hp,rfl⟩)
   obtain⟨k,l⟩:∃k,lkF (qY J st b) p.1=some (some k):=by
    cases e:lkF (qY J st b) p.1 with
    | none=>exact absurd hk (yz.mp e)
    | some o=>
     cases o with
     | some k=>exact⟨k,rfl⟩
     | none=>
      have:jd J st b p.1=true:=yt.mpr {p.1,Vb.mpr (ZU e),0,rfl};rw[A] at this;cases this
   have w:fdN (qY J st b) p.1=k:=by unfold fdN;rw[l];rfl
   rw[w,Bool.not_false,Bool.and_true,Bool.true_and,decide_eq_decide];constructor
   .intro h
    obtain⟨h1,h2⟩:=qI.mp h;have h2:k=f:=qP h2;subst h2;have e2:p.2=k:=zhB nd hp h1;have:=(m.stay_iff hs h1).mp l;rw[<- e2] at this ⊢;exact this
   .intro h
    obtain⟨h1,h2⟩:=qI.mp (QI h);have h2:p.2=f:=qP h2;have s:(p.1,f)∈(onF f (zo b)).take (st f).toNat:=by rw[<- h2] at h ⊢;exact h
    have:=(m.stay_iff hs (by rw[<- h2];exact hp)).mpr s
    rw[l] at this;cases this;exact QI s
 have e2:((zo b).filter λp=>decide (p∈(onF f (zo b)).take (st f).toNat)).Perm ((onF f (zo b)).take (st f).toNat):=by
  refine(zgm (c.sublist Xp) (c.sublist sub)).mpr λx=>?_
  rw[qI];exact{λh=>qP h.2,λh=>{sub.subset h,qg h}}
 rw[ZN,zaL,zm,List.filter_filter,<- YM (λq=>jd J st b q.1) ((onF f (zo b)).take (st f).toNat)]
 congr 1
 refine(congrArg List.length (List.filter_congr e1)).trans ?_
 rw[<- (e2.filter _).length_eq,List.filter_filter]
end
theorem zfL(q:Nat×Nat)(l:List (Nat×Nat)):decide (((q.1:Int),(q.2:Int))∈l.map λq=>((q.1:Int),(q.2:Int)))=decide (q∈l):=by
 rw[decide_eq_decide,zN];constructor
 .rintro⟨r,b,e⟩
  obtain⟨e1,e2⟩:=Prod.mk.inj e;have:r=q:=Qz (w8 e1) (w8 e2);rwa[<- this]
 .exactλh=>⟨q,h,rfl⟩
section
variable{P:Program}{w:World}{K:W.Frag}{g:Str->Option Value}{b:Heap}
theorem zjl{H:Hp}{l:List (Nat×Nat)}{c:List V}(r:Reps K H (l.map jM) c):zke K H c (l.map λq=>((q.1:Int),(q.2:Int))):=by
 have A:=r.len;rw[zm] at A;refine{by rw[zm];exact A,λi q e=>?_}
 rw[qk] at e;obtain⟨p,s,rfl⟩:=qG.mp e;have E:=(zK.mp s).1;have hx:c[i]? =some c[i]:=qK ()
 obtain⟨d,e1,D⟩:=r.get hx;rw[qk,s] at e1;cases e1;obtain⟨a,B,C⟩:=jc D;exact{a,by rw[hx,B],C}
inductive zel(K:W.Frag)(D:List V)(H:Hp)(Q:VK):Prop
 | mk (I l c t o:Addr) (A B:List zW) (E G:List V) (st:Nat->Int) (n:Nat) (s:List Int) (_:D=[.ref I,.ref l,.ref c,.ref t,.ref o]) (_:SqL K H l E) (_:Reps K H (A.map jG) E) (_:(zo A).length<=60) (_:SqL K H t G) (_:Reps K H (B.map jG) G) (_:(zo B).length<=60) (_:SqL K H c (jU n st)) (_:n<=100) (_:(∀k,0<=st k)) (_:SqL K H o (s.map V.int)) (_:(∀f,f<n->((zo B).filter λq=>decide (q∈onF f (zo A))).length+(((onF f (zo A)).take (st f).toNat).filter λq=>decide ((q.1:Int)∈s)).length=((onF f (zo A)).take (st f).toNat).length)) (_:∀C,Same H C->Q (.bl true) C):zel K D H Q
def zky(K:W.Frag):Sp:=λc H Q _=>zel K c H Q
theorem zkT:zD ["_law_job_here","_law_plan_here","_law_stock","_law_trips","_law_out","_law_at","_law_many","_law_ahead","_law_now","_law_lost"] ["_law_job_here","_law_plan_here","_law_stock","_law_trips","_law_out"] (zu (topL 72)):=u4
def Y4(A:_)(l:_)(c:_)(t:_)(o:_)(H:_):=λ(i:Nat) (σ:St) (s:Hp)=>(Ex5 λ(B C D E G:Option V)=>An2 (σ=[some (.ref A),some (.ref l),some (.ref c),some (.ref t),some (.ref o),B,C,D,E,G]) (Same H s):Prop)
theorem zlv{f:Addr}{fd:FuncData}(F:Fun K "_law_stays_right" "_law_stays_right" (topL 72) f fd)(B:Blt g)(C:Dfn P w K g b "_law_all_picks" 1 ["_law_plan_here"] (zde K)):FnOk P w K g b CX0 2 f fd ["_law_job_here","_law_plan_here","_law_stock","_law_trips","_law_out"] (zky K):=by
 have nd:=zkT.nd;refine F.ok zkT (λJ H Q E h=>?_) (λap A ak s H J Q E hr h=>?_)
 .obtain⟨jp,l,c,t,o,G,us,xs,ys,st,n,I,rfl,_⟩:=h
  rfl
 .obtain⟨jp,l,c,t,o,G,us,xs,ys,st,n,I,rfl,hl,rl,pl,ht,rt,pt,hc,ao,hs,ho,ai,k⟩:=h
  have hu:=hr.units0;have as:=JN hr;have ae:=hr.units;have hg:=hr.gd;have am:=bG1000000;have ar:=bGe;refine{_,(ze (jh jL rfl (VC rfl B.enumerate 0#t) (qE rfl (zn (zq (i:=5) nd rfl (Or.inr rfl)) (zn (zq (i:=6) nd rfl 0#a) z7)))
   (ze (zG (i:=7) nd rfl (Or.inr rfl) (jE ["_law_at"] [5] rfl rfl (by kernel_rfl) (zZ (zf C hr.m rfl 0#k)) (λ_ _ _ _=>(xh (zP xW 0#A (pv 1) (zR _)))) 0#m))
    (ze (wR ["_law_ahead"] [7] rfl rfl (by kernel_rfl) (zZ (zf C hr.m rfl (za (pv 3) zd))) (λ_ _ _ _=>(xh (zP (zjw rfl ae) (pv 0) (pv 1) (by with_unfolding_all rfl)))) 0#m (zq (i:=8) nd rfl 0#a))
    (ze (wR ["_law_out"] [4] rfl rfl (by kernel_rfl) (zZ (vg yT (pv 7) wS (vf (pv 6)))) (λ_ _ _ _=>(xh (zP (jV (K:=K) rfl) 0#A (pv 1) (by with_unfolding_all rfl)))) 0#m (zq (i:=9) nd rfl 0#a))
    (zi (jb (zP zcc (zO jk (zt zI rfl B.len boot_len (za (pv 8) zd)) (zt zI rfl B.len boot_len (za (pv 9) zd))) (zt (zdT rfl) rfl B.min JZ (za (pv 6) (za (zt zI rfl B.len boot_len (za (pv 7) zd)) zd))) (zR _))
    (zi (zy xx))
    zY))))))
   (zi (zy xx))),?_}
  have aq:10000<sizeLine:=()
  refine{_,rfl,c,rfl,{_,hc},JQ (K:=K) (a:=c) (xs:=jU n st) (Y4 jp l c t o H) {_,_,_,_,_,rfl,ua _} (λi σ H' _ ⟨_,_,_,_,_,_,s⟩=>s.seq hc) ?_ ?_}
  .rintro i x σ H1 T hx ⟨v5,v6,v7,v8,v9,rfl,s1⟩ hT
   have hi:i<n:=by
    have:=(zK.mp hx).1;rwa[jT] at this
   obtain rfl:V.int (st i)=x:=jC ((vd hi).symm.trans hx);have si:=hs i;have s2:=s1.trans (zb (o:=.tup [.int (i:Int),.int (st i)]) hT);refine{T,_,rfl,u7 zc,rfl,_,_,rfl,_,_,rfl,rfl,?_}
   generalize upd H1 T (.tup [.int (i:Int),.int (st i)])=H2 at s2;refine{_,rfl,l,xs,G,rfl,s2.seq hl,rl.same s2,pl,λp ps H3 s3 _ hp rp=>?_}
   have ah:=rp.len;rw[zm] at ah;refine{p,rfl,{_,u6 hp},qR (K:=K) (a:=p) (xs:=ps) (λj D Y=>Reps K Y ((onF i ((zo G).take j)).map jM) D/\Same H3 Y) {rfl,ua _} (λj D Y ⟨_,s⟩=>u6 (s _ _ hp)) ?_ ?_}
   .rintro j x D Y hx ⟨M,s4⟩
    obtain⟨d,e1,r4⟩:=(rp.same s4).get hx;rw[qk] at e1;obtain⟨q,eq,rfl⟩:=qG.mp e1;obtain⟨pa,rfl,qp⟩:=jc r4;have lz:=M.len;have lf:(onF i ((zo G).take j)).length<=60:=jN (jq _ _) (by rw[qv];omega)
    rw[zm] at lz;rw[zM eq,ZT];refine{rfl,_,rfl,pa,_,_,_,rfl,rfl,qp,qr (j:=1) rfl,_,rfl,rfl,_,rfl,j7 (λe=>{_,rfl,(),?_,s4}) (λe=>{?_,s4})}
    .have e:q.2=i:=w8 (V.int.inj (qP e))
     rw[zC e,zL];exact ue r4 M
    .have e:¬q.2=i:=λz=>e (qg (by rw[z]))
     rw[zw e,qA];exact M
   rintro D Y ⟨M,s4⟩;rw[ah,qB] at M;have lz:=M.len;have lf:(onF i (zo G)).length<=60:=jN (jq _ _) pl;rw[zm] at lz;refine{(),λA hA=>?_}
   have u5:=zb (o:=.lst D) hA;have s5:=(s2.trans (s3.trans s4)).trans u5;have A5:upd Y A (.lst D) A=some (.lst D):=zc;have ab:=M.same u5;generalize upd Y A (.lst D)=H5 at s5 A5 ab;clear hA s4 s3 hp rp M u5;refine{_,rfl,t,ys,us,rfl,s5.seq ht,rt.same s5,pt,λp2 al H6 s6 _ a0 aa=>?_}
   have ag:=aa.len;rw[zm] at ag;refine{p2,rfl,{_,u6 a0},qR (K:=K) (a:=p2) (xs:=al) (λj J H7=>J.length=(((zo us).take j).filter λq=>decide (q∈onF i (zo G))).length/\Same H6 H7) {rfl,ua _} (λj J H7 ⟨_,s⟩=>u6 (s _ _ a0)) ?_ ?_}
   .rintro j x J H7 hx ⟨lv,O⟩
    obtain⟨d,e1,r7⟩:=(aa.same O).get hx;rw[qk] at e1;obtain⟨q,eq,rfl⟩:=qG.mp e1;obtain⟨pa,rfl,qp⟩:=jc r7;have af:=jq (λq=>decide (q∈onF i (zo G))) ((zo us).take j)
    rw[qv] at af;refine{rfl,_,rfl,_,rfl,pa,A,((q.1:Int),(q.2:Int)),D,_,rfl,rfl,qp,u6 ((s6.trans O) _ _ A5),zjl (ab.same (s6.trans O)),_,rfl,j7 (λe=>{_,rfl,(),?_,O}) (λe=>{?_,O})}
    .have e:decide (q∈onF i (zo G))=true:=(zfL _ _).symm.trans e
     rw[zM eq,xI,qh,qh,lv,yf,zC e];rfl
    .have e:¬decide (q∈onF i (zo G))=true:=λz=>e ((zfL _ _).trans z)
     rw[zM eq,xI,qh,lv,yf,zw e];rfl
   rintro J H7 ⟨lv,O⟩;rw[ag,qB] at lv;have af:=jq (λq=>decide (q∈onF i (zo G))) (zo us)
   refine{(),λN hN=>?_}
   have u8:=zb (o:=.lst J) hN;have s8:=(s6.trans O).trans u8;have N8:upd H7 N (.lst J) N=some (.lst J):=zc;generalize upd H7 N (.lst J)=H8 at s8 N8;clear hN O s6 a0 aa u8;have cT:jA D none (some (st i))=D.take (st i).toNat:=by
    have:st i=((st i).toNat:Int):=()
    rw[this,JV];rfl
   refine{_,rfl,_,rfl,_,rfl,A,D,rfl,u6 (s8 _ _ A5),λp3 ac=>?_}
   have u9:=zb (o:=.lst (jA D none (some (st i)))) ac;have s9:=s8.trans u9;have P9:upd H8 p3 (.lst (jA D none (some (st i)))) p3=some (.lst (D.take (st i).toNat)):=by rw[zc,cT]
   have N9:=u9 _ _ N8;generalize upd H8 p3 (.lst (jA D none (some (st i))))=H9 at s9 P9 N9;clear ac u9 s8 N8;have r9:Reps K H9 (((onF i (zo G)).take (st i).toNat).map jM) (D.take (st i).toNat):=by rw[Xg];exact Reps.take _ (ab.same s9)
   have l9:=r9.len;rw[zm] at l9;have av:=List.length_take_le (st i).toNat (onF i (zo G));have an:((onF i (zo G)).take (st i).toNat).length<=60:=by rw[qv];omega
   refine{p3,rfl,{_,u6 P9},qR (K:=K) (a:=p3) (xs:=D.take (st i).toNat) (λj U Ha=>An2 (U.length=((((onF i (zo G)).take (st i).toNat).take j).filter λq=>decide ((q.1:Int)∈I)).length) (Same H9 Ha)) {rfl,ua _} (λj U Ha ⟨_,s⟩=>u6 (s _ _ P9)) ?_ ?_}
   .rintro j x U Ha hx ⟨lw,sa⟩
    obtain⟨d,e1,ra⟩:=(r9.same sa).get hx;rw[qk] at e1;obtain⟨q,eq,rfl⟩:=qG.mp e1;obtain⟨pa,rfl,qp⟩:=jc ra;have aj:=jq (λq:Nat×Nat=>decide ((q.1:Int)∈I)) (((onF i (zo G)).take (st i).toNat).take j)
    have au:(((onF i (zo G)).take (st i).toNat).take j).length<=60:=by rw[qv];omega
    refine{rfl,_,rfl,pa,_,_,_,rfl,rfl,qp,qr (j:=0) rfl,_,rfl,o,_,rfl,.inl ((s5.trans (s9.trans sa)).seq ho),rfl,zcx I,_,rfl,j7 (λe=>{_,rfl,(),?_,sa}) (λe=>{?_,sa})}
    .have e:decide ((q.1:Int)∈I)=true:=(yB _ _).symm.trans e
     rw[zM eq,xI,qh,qh,lw,yf,zC e];rfl
    .have e:¬decide ((q.1:Int)∈I)=true:=λz=>e ((yB _ _).trans z)
     rw[zM eq,xI,qh,lw,yf,zw e];rfl
   rintro U Ha ⟨lw,sa⟩;rw[l9,qB] at lw;have aj:=jq (λq:Nat×Nat=>decide ((q.1:Int)∈I)) ((onF i (zo G)).take (st i).toNat)
   refine{(),λL hL=>?_}
   have ub:=zb (o:=.lst U) hL;have sb:=(s9.trans sa).trans ub;have m:=ai i hi;rw[qv (i:=(st i).toNat)] at m;refine{_,rfl,N,J,rfl,.inl (u6 ((sa.trans ub) _ _ N9)),_,rfl,L,U,rfl,.inl (u6 zc),_,_,rfl,rfl,_,rfl,_,rfl,A,D,rfl,.inl (u6 (sb _ _ A5)),_,_,rfl,rfl,_,rfl,ifF ?_ {_,_,_,_,_,rfl,s5.trans sb}}
   have:((J.length:Int)+(U.length:Int))=if(D.length:Int)<st i then(D.length:Int) else st i:=by split<;>omega
   show(!decide (V.int ((J.length:Int)+(U.length:Int))=V.int (if(D.length:Int)<st i then(D.length:Int) else st i)))=false
   rw[this];simp
  .rintro σ H1 ⟨v5,v6,v7,v8,v9,rfl,s1⟩
   exact k H1 s1
end
theorem zgR{J:Job}{os:List Nat}{g:List zW}(s:PlanOk J os g)(A:os.Perm 0#x):∀t∈g,TripV J t:=λt l=>by
 have b:=s.tr t l;have w:(zE g).Nodup:=(A.nodup_iff.mpr yH).sublist s.sub;have c:t.ly.Nodup:=(za4.mp w).1 t l;refine{b.p1,b.p2,λp hp=>?_,b.ly,b.ly.nodup_iff.mp c}
 obtain⟨C,B,e1,e2,_⟩:=b.ok p hp;exact{(zK.mp e1).1,(zK.mp e2).1}
theorem YT{α:Type}{f:α->Dat}{c:Nat}(h:∀a,(f a).py.depth<=c):∀l:List α,PyData.depthAll (Dat.pys (l.map f))<=c
 | []=>jv _
 | a::l=>by
  have h1:=h a;have h2:=YT h l;show max (PyData.depth (f a).py) (PyData.depthAll (Dat.pys (l.map f)))<=c;omega
theorem WM(b:List zW):qM b=(vM b).map (·.2):=by
 induction b with
 | nil=>rfl
 | cons t b c=>
  show t.pk.map (·.2)++qM b=(t.pk++vM b).map (·.2)
  rw[c,zL]
theorem zci{l:List Nat}{k:Nat}:(k:Int)∈srt (nI l)↔k∈l:=((Jp _).mem_iff).trans Zr
section
variable{J:Job}{c os:List Nat}{b:List zW}{st:Nat->Int}
theorem zhu(m:MOk J c os b):∀z∈JU J.fs λk=>(qM b).count k,0<=z:=λz hz=>by
 obtain⟨j,g⟩:=yi.mp hz;have h:=(zK.mp g).1;rw[yE] at h;have l:J.fs[j]? =some J.fs[j]:=qK h;rw[YQ l] at g;obtain⟨s,hs⟩:=m.po.stk;have:=hs.le l;rw[<- jC g,WM];omega
theorem MOk.staysI(m:MOk J c os b)(hs:∀k,0<=st k)(f:Nat):((zo (jB (qY J st b) (jd J st b) b)).filter λq=>decide (q∈onF f (zo b))).length+(((onF f (zo b)).take (st f).toNat).filter λq=>decide ((q.1:Int)∈srt (nI (XH (jd J st b) (zo b))))).length=((onF f (zo b)).take (st f).toNat).length:=by
 refine Eq.trans (congrArg (_+ ·) (congrArg List.length (List.filter_congr λq hq=>?_))) (m.stays hs f)
 have g:=(qI.mp (QI hq)).1;rw[vm,xQ,zci];unfold XH;rw[qI];exact{λh=>h.2,λh=>{zN.mpr ⟨q,g,rfl⟩,h}}
theorem MOk.outs(m:MOk J c os b)(g:MOk (j8 J st) c os (jB (qY J st b) (jd J st b) b)):(zE (jB (qY J st b) (jd J st b) b)++XH (jd J st b) (zo b)).Perm (zE b):=by
 have h1:=vw g.po.tr;rw[ZN,xc] at h1;have e:((zo b).filter λp=>!jd J st b p.1).map ((λx=>x.1)∘λp=>(p.1,fdN (qY J st b) p.1))=((zo b).map (·.1)).filter λx=>!jd J st b x:=by
  rw[zaL];rfl
 rw[e] at h1;refine(h1.append_right _).trans ?_
 unfold XH;exact QK.trans ((List.filter_append_perm _ _).trans (vw m.po.tr).symm)
theorem MOk.outs_no(m:MOk J c os b)(g:MOk (j8 J st) c os (jB (qY J st b) (jd J st b) b)){p:Nat}(h:p∈zE (jB (qY J st b) (jd J st b) b)):(p:Int)∉srt (nI (XH (jd J st b) (zo b))):=λz=>by
 have nd:(zE b).Nodup:=(m.pm.nodup_iff.mpr yH).sublist m.po.sub;have:=(m.outs g).nodup_iff.mpr nd;exact(wf.mp this).2.2 p h p (zci.mp z) rfl
end
section
variable{P:Program}{w:World}{K:W.Frag}{C:Str->Option Value}{g:Heap}
theorem zdn{H:Hp}{jp pl lk:Addr}{J:Job}{a0 os:List Nat}{A:List zW}{xs:List V}{bs:List Bool}{m:Nat}{Q:VK}{E:XK}(c:MOk J a0 os A)(rj:Rep K H (j6 J) (.ref jp))(hl:H pl=some (.lst xs))(rl:Reps K H (A.map jG) xs)(hk:H lk=some (.lst (bs.map V.bl)))(m5:m<=9)(k:∀(T Y a b:Addr) (D:List Ev) (w:Int) (ls gs:List Int) B,Same H B->B T=some (.tup [.ref Y,.ref a,.ref b,.int w])->Evs K B Y D->D.length<=5000->B a=some (.lst (ls.map V.int))->B b=some (.lst (gs.map V.int))->(ls++gs).Perm (nI (zE A))->Lies J D->(∀e∈D,e.p∈zE A)->Q (.ref T) B):zbz K [.ref jp,.ref pl,.ref lk,.int ((m+1:Nat):Int)] H Q E:=by
 have M:os.Nodup:=c.pm.nodup_iff.mpr yH;have nd:(zE A).Nodup:=M.sublist c.po.sub;have U:=c.t100;have G:V5 (A.map prT)=zE A:=by unfold V5 zE;rw[List.flatMap_map];rfl
 have N:∀t∈A.map prT,t.2.Perm (t.1.map (·.1)):=λt I=>by
  obtain⟨x,hx,rfl⟩:=zN.mp I;exact(c.po.tr x hx).ly
 refine{jp,pl,lk,J,A.map prT,bs,m+1,rfl,rj,c.jo.jsm,c.jo.jin,{pl,xs,rfl,u6 hl,?_},by rw[zm];exact c.po.len,by rw[zcH];exact c.brk.al,λt I=>?_,λt I=>?_,u6 hk,(),λT Y a b D w ls gs B s hT he ha hb p1 p2 p3 p4 el r=>?_}
 .rw[xc]
  exact rl
 .obtain⟨x,hx,rfl⟩:=zN.mp I
  exact(za4.mp nd).1 x hx
 .obtain⟨x,hx,rfl⟩:=zN.mp I
  obtain⟨h1,h2,_⟩:=U x hx;have h3:∀q∈x.pk,q.1<J.ps.length:=λq hq=>(c.ok q (yK.mpr ⟨x,hx,hq⟩)).1
  refine{h1,h2,h3,λq hq=>?_}
  obtain⟨p,hp,rfl⟩:=zN.mp ((c.po.tr x hx).ly.mem_iff.mp hq);exact h3 p hp
 .have O:=r.wlk (L:=zE A) (by rw[G];exact nd) N (by rw[G];exactλp h=>h)
  have dn:=r.done (os:=os) (L:=zE A) M c.po.sub c.bo c.po.cl {[],by rw[qA];exact G.symm} N
  have e1:∀l:List Ev,(l.map λe=>(e.p:Int))=nI (pOf l):=λl=>by unfold nI pOf;rw[xc];rfl
  refine k T Y a b D w ls gs B s hT he el ha hb ?_ dn.ls (by rw[<- G];exact O.pt)
  refine(p1.append p3).trans ?_
  rw[e1,e1];have:=O.pm;rw[G] at this;unfold nI;rw[<- zL];exact this.map _
inductive XZ(l:List V)(H:Hp)(Q:VK):Prop
 | mk (b:Addr) (n:Int) (_:l=[.ref b]) (_:BoxAt H b n) (_:n<1000) (_:∀c,SameB b H c->Q (.bl true) c):XZ  l H Q
def zbA:Sp:=λb H Q _=>XZ  b H Q
theorem zkU:zD ["_law_box_here","_law_job_here","_law_plan_here","_law_stock","_law_luck_here","_law_tries","_law_turn","_law_trips","_law_moved","_law_out","_law_events","_law_laid","_law_given","_law_far"] ["_law_box_here"] (zu (topL 74)):=u4
def Y3(b:_)(s:_)(n:_)(i:Nat):=λ(j:Nat) (A:List V) (l:Hp)=>(Ex1 λ(c:List Int)=>An5 (A=c.map V.int) (c.length=j) ((∀z∈c,0<=z/\z<=400)) (SameB b s l) (BoxAt l b (n+8000+100*(i:Int)+(j:Int))):Prop)
theorem zlx{f:Addr}{fd:FuncData}(F:Fun K "_law_right" "_law_right" (topL 74) f fd)(B:Blt C)(an:Dfn P w K C g "_law_broken" 5 ["_law_box_here"] (zkK K))(ba:Dfn P w K C g "_law_luck" 2 ["_law_box_here"] zkD)(am:Dfn P w K C g "_law_take" 1 ["_law_box_here","_law_size"] vo)(ab:Dfn P w K C g "mended_plan" 5 ["job","plan","stock"] (zkC K))(O:Dfn P w K C g "restocked_job" 1 ["job","stock"] (zem K))(aj:Dfn P w K C g "is_right" 7 ["job","thing"] (zkF K))(ao:Dfn P w K C g "flaw_of" 6 ["job","plan"] (zi6 K))(ap:Dfn P w K C g "left_in" 1 ["job","plan"] (zey K))(U:Dfn P w K C g "_law_stays_right" 2 ["_law_job_here","_law_plan_here","_law_stock","_law_trips","_law_out"] (zky K))(I:Dfn P w K C g "order_of" 1 ["plan"] (zia K))(Y:Dfn P w K C g "run_plan" 7 ["job","plan","luck","tries"] (zbz K))(ac:Dfn P w K C g "lies_right" 7 ["job","events"] (zex K)):FnOk P w K C g CX0 8 f fd ["_law_box_here"] zbA:=by
 have nd:=zkU.nd;refine F.ok zkU 0#d (λde A d8 s H vs Q E hr h=>?_)
 .obtain⟨b,n,rfl,_⟩:=h
  rfl
 .obtain⟨b,n,rfl,B0,hn,k⟩:=h
  have hu:=hr.units0;have dg:=JN hr;have co:=hr.units;have hg:=hr.gd;have dc:=bG1000000;have cd:=bGe;refine{_,(ze (jQ (zf an hr.m rfl 0#y) (qE rfl (zn (zq (i:=1) nd rfl 0#a) (zn (zq (i:=2) nd rfl 0#a) (zn (zq (i:=3) nd rfl 0#a) z7)))))
   (ze (Jv (i:=4) (j:=5) rfl nd rfl rfl 1e1 rfl rfl (za (zf ba hr.m rfl 0#y) (za (zO jk zg (zf am hr.m rfl 0#h)) zd)) 1e2)
   (ze (jh jL rfl (jS rfl B.range (za zg zd)) (zq (i:=6) nd rfl 0#a)
   (ze (jQ (zf ab hr.m rfl (za (pv 1) (za (pv 2) (za (pv 3) zd)))) (qE rfl (zn (zq (i:=7) nd rfl 0#a) (zn (zq (i:=8) nd rfl 0#a) (zn (zq (i:=9) nd rfl (Or.inr rfl)) z7)))))
    (ze (zG (i:=1) nd rfl 0#a (zf O hr.m rfl (za (pv 1) (za (pv 3) zd))))
    (ze (jb (PW.pt (QP (zP zcb (zf aj hr.m rfl (za (pv 1) (za (pv 7) zd))) xx (zR _)) (yr (zP Jd (zf ao hr.m rfl (za (pv 1) (za (pv 7) zd))) vv (zR _)))))
    (zi (zy xx))
    zY)
    (ze (jb (PW.pt (QP (vp (jH (zt (x8 rfl) rfl B.all boot_all (za (jE [] [] rfl rfl (by kernel_rfl) (zZ (zf ap hr.m rfl (za (pv 1) (za (pv 7) zd)))) 0#g (λ_ _ _ _=>(qZ zcd (pv 0) zg (zR _)))) zd)))) (yr (vp (jH (zf U hr.m rfl (pa5 (pv 1) (pv 2) (pv 3) (pv 7) (pv 9))))))))
    (zi (zy xx))
    zY)
    (ze (jb (zP (zfw hu) (zt jm rfl B.sorted jt (za (zO xr (zf I hr.m rfl (za (pv 7) zd)) (pv 9)) zd)) (zt jm rfl B.sorted jt (za (zf I hr.m rfl 0#t) zd)) (zR _))
    (zi (zy xx))
    zY)
    (ze (jQ (zf Y hr.m rfl (za (pv 1) (za (pv 7) (za (pv 4) (za (pv 5) zd))))) (qE rfl (zn (zq (i:=10) nd rfl 0#a) (zn (zq (i:=11) nd rfl 0#a) (zn (zq (i:=12) nd rfl 0#a) (zn (zq (i:=13) nd rfl 0#a) z7))))))
    (ze (jb (PW.pt (QP (zP (zfw hu) (zt jm rfl B.sorted jt (za (zO xr (pv 11) (pv 12)) zd)) (zt jm rfl B.sorted jt (za (zf I hr.m rfl (za (pv 7) zd)) zd)) (zR _)) (yr (zP zcb (zf ac hr.m rfl (za (pv 1) (za (pv 10) zd))) xx (zR _)))))
    (zi (zy xx))
    zY)
    (ze (jb (jH (zt (Za rfl) rfl B.any Z3 (za (jE ["_law_out"] [9] rfl rfl (by kernel_rfl) (zZ (pv 10)) 0#g (λ_ _ _ _=>(qZ (jV (K:=K) rfl) 0#A (pv 1) (by with_unfolding_all rfl)))) zd)))
    (zi (zy xx))
    zY)
    (ze (jb (zP (zg0 co) (vg zae (zf Y hr.m rfl (za (pv 1) (za (pv 7) (za (z9 zd) (za (pv 5) zd))))) (vf zg) (vf zg)) (qL (za (zt jm rfl B.sorted jt (za (zf I hr.m rfl (za (pv 7) zd)) zd)) (za (z9 zd) zd))) (zR _))
    (zi (zy xx))
    zY)
    (zi (Jv (i:=2) (j:=3) rfl nd rfl rfl 1e1 rfl rfl (za (pv 7) (za (jE ["_law_box_here"] [0] rfl rfl (by kernel_rfl) (zZ (pv 3)) 0#g (λ_ _ _ _=>(zf am hr.m rfl (za (pv 1) (za (zO jk (pv 0) zg) zd))))) zd)) 1e2))))))))))))
   (zi (zy xx))))),?_}
  refine{_,rfl,b,n,rfl,B0,(),λq jp l c J a0 os xs ts st H1 S1 B1 qq rj hl rl be aw mo hc ar=>{q,_,rfl,qq,rfl,_,_,rfl,_,_,rfl,_,_,rfl,rfl,?_}}
  refine{_,rfl,b,_,rfl,B1,(),λlk bs H2 S2 B2 d3 cr Lk dd=>{_,rfl,b,5,_,rfl,B2,(),1e1,1e1,λr H3 r0 r1 B3 S3=>{_,_,rfl,rfl,?_}}}
  obtain⟨m,rfl⟩:∃m:Nat,r=(m:Int):={r.toNat,()}
  rw[show(1:Int)+(m:Int)=((m+1:Nat):Int) by omega]
  have bb:=S2.trans S3;have bp:=(uc B1 S2).trans (uc B2 S3);have cv:=rj.keep bp (wN J);have cw:=rl.keep bp (xm ts);have cj:=bb _ _ hl be;have cf:=bb _ _ hc aw;have c9:=S3 _ _ Lk cr;have cb:=S1.trans bb;clear rj rl hl hc Lk S2 S3 B1 B2 bb bp S1 qq d3;refine{_,_,rfl,2,rfl,by rw[cd];decide,by rw[cd];decide,xo (λi σ H'=>∃(jp l c:Addr) (J:Job) (a0 os:List Nat) (xs:List V) (ts:List zW) (st:Nat->Int) (v6 v7 v8 v9 c3 c4 c5 c6:Option V),σ=[some (.ref b),some (.ref jp),some (.ref l),some (.ref c),some (.ref lk),some (.int ((m+1:Nat):Int)),v6,v7,v8,v9,c3,c4,c5,c6]/\SameB b H H'/\BoxAt H' b (n+8000+100*(i:Int))/\Rep K H' (j6 J) (.ref jp)/\H' l=some (.lst xs)/\Reps K H' (ts.map jG) xs/\l≠b/\c≠b/\MOk J a0 os ts/\H' c=some (.lst (jU J.fs.length st))/\(∀k,0<=st k/\st k<=400)/\H' lk=some (.lst (bs.map V.bl))) {jp,l,c,J,a0,os,xs,ts,st,_,_,_,_,_,_,_,_,rfl,cb,B3.mono (),cv,cj,cw,be,aw,mo,cf,ar,c9} ?_ ?_}
  .clear cv cj cw be aw mo cf ar c9 cb B3
   rintro i σ H4 hi ⟨jp,l,c,J,a0,os,xs,ts,st,v6,v7,v8,v9,c3,c4,c5,c6,rfl,S4,B4,rj,hl,rl,be,aw,mo,hc,ar,Lk⟩;have df:i<2:=hi;obtain⟨L,db⟩:=mo.mended ar;have fl:=mo.jo.fl;have bm:∀k,0<=st k:=λk=>(ar k).1
   refine{_,rfl,_,rfl,_,rfl,jp,l,c,J,a0,os,xs,ts,st,rfl,rj,u6 hl,rl,mo,u6 hc,λmq a1 a2 a3 ws H5 mt=>{mq,_,rfl,mt.q,rfl,_,_,rfl,_,_,rfl,_,_,rfl,rfl,?_}}
   obtain⟨N,d5⟩:∃N,N=jB (qY J st ts) (jd J st ts) ts:={_,rfl};obtain⟨ol,d4⟩:∃ol,ol=XH (jd J st ts) (zo ts):={_,rfl};have stI:=λf=>mo.staysI bm f
   have oP:=mo.outs L;have oN:∀p:Nat,p∈zE (jB (qY J st ts) (jd J st ts) ts)->(p:Int)∉srt (nI (XH (jd J st ts) (zo ts))):=λp h=>mo.outs_no L h
   have mr:=mt.r1;have m3:=mt.h3;rw[<- d5] at L stI oP oN mr;rw[<- d4] at stI oP oN m3;have al:=mo.brk.al;have d0:=L.brk.al;have pv:PlV (j8 J st) a0 N:={L.jo,zgR L.po L.pm,jN L.po.len 1e1,zlN L.po L.pm L.bo}
   have cq:=B4.nne mt.f1;have ll:(zE ts).length<=60:=mo.lays;have d7:(zE N).length<=60:=L.lays;have cs:(nI (zE N)++srt (nI ol)).Perm (nI (zE ts)):=by
    refine((Jp (nI ol)).append_left _).trans ?_
    have:=oP.map λk:Nat=>(k:Int)
    rw[zL] at this;exact this
   have au:∀l:List Nat,(nI l).length=l.length:=λl=>zm _
   have dh:(nI (zE N)++srt (nI ol)).length<=60:=by rw[cs.length_eq,au];exact ll
   have cx:(qM N).length<=1000:=by
    rw[WM,zm];have e:(vM N).length=(zo N).length:=rfl;omega
   refine{_,rfl,_,rfl,jp,c,J,st,rfl,rj.same mt.s,(),u6 (mt.s _ _ hc),λop H6 s6 ro=>?_}
   have ak:=mt.s.trans s6;have RT:=mr.same s6;have h1:=s6 _ _ mt.h1;have h3:=s6 _ _ m3;have bv:=ak _ _ hl;have c0:=rl.same ak;have br:=ak _ _ hc;have ca:=ak _ _ Lk;have S6:=S4.trans (.of ak);have B6:=B4.same ak;clear rj hl rl hc Lk mr m3 ak s6 S4 B4;refine{_,rfl,_,rfl,op,a1,j8 J st,a0,N,ws,rfl,ro,u6 h1,RT,pv,λH7 s7=>{_,_,rfl,rfl,_,rfl,ifF rfl ?_}}
   refine{_,rfl,_,rfl,op,a1,j8 J st,a0,N,ws,rfl,ro.same s7,u6 (s7 _ _ h1),RT.same s7,pv,λH8 s8=>{rfl,_,rfl,ifF rfl ?_}}
   have s8:=s7.trans s8;refine{_,rfl,_,rfl,op,a1,j8 J st,N,ws,rfl,ro.same s8,by rw[vE];omega,u6 (s8 _ _ h1),RT.same s8,cx,λlf H9 _ s9 bw=>?_}
   have dl:=yE (j8 J st).fs λk=>(qM N).count k
   rw[vE] at dl;refine{lf,rfl,{_,u6 bw},qR (K:=K) (a:=lf) (xs:=(JU (j8 J st).fs λk=>(qM N).count k).map V.int) (λj zs Ha=>zs=List.replicate j (V.bl true)/\Same H9 Ha) {rfl,ua _} (λj zs Ha ⟨_,s⟩=>u6 (s _ _ bw)) ?_ ?_}
   .rintro j x zs Ha hx ⟨rfl,sa⟩
    rw[qk] at hx;obtain⟨z,ez,rfl⟩:=qG.mp hx;have z0:=zhu L z (qz ez);have jl:=(zK.mp ez).1;refine{rfl,_,rfl,_,_,rfl,rfl,by rw[va];omega,?_,sa}
    rw[show decide ((0:Int)<=z)=true from qg z0,Z9]
   rintro zs Ha ⟨rfl,sa⟩;refine{by rw[va,zm];omega,λD hD=>{D,List.replicate ((JU (j8 J st).fs λk=>(qM N).count k).map V.int).length true,rfl,u6 (by rw[zc,Z8]),_,rfl,ifF 1e3 ?_}}
   have sb:=((s8.trans s9).trans sa).trans (zb (o:=.lst (List.replicate ((JU (j8 J st).fs λk=>(qM N).count k).map V.int).length (V.bl true))) hD)
   generalize upd Ha D (.lst (List.replicate ((JU (j8 J st).fs λk=>(qM N).count k).map V.int).length (V.bl true)))=Hb at sb
   clear hD sa s9 s8 s7 bw;refine{_,rfl,_,rfl,_,rfl,_,rfl,_,rfl,op,l,c,a1,a3,ts,N,xs,ws,st,J.fs.length,srt (nI ol),rfl,u6 (sb _ _ bv),c0.same sb,al,u6 (sb _ _ h1),RT.same sb,d0,u6 (sb _ _ br),(),bm,u6 (sb _ _ h3),λf _=>stI f,λHc sc=>{_,rfl,ifF rfl ?_}}
   have sc:=sb.trans sc;refine{_,rfl,a1,N,ws,rfl,sc _ _ h1,RT.same sc,(),λlo Hd _ sd Lo=>?_}
   have sd:=sc.trans sd;refine{_,rfl,lo,a3,_,_,rfl,rfl,Lo,sd _ _ h3,by rw[JD,zm,zm,<- qh];omega,λlc aq=>?_}
   have se:=sd.trans (zb (o:=.lst (zr (zE N)++(srt (nI ol)).map V.int)) aq);have Lc:upd Hd lc (.lst (zr (zE N)++(srt (nI ol)).map V.int)) lc=some (.lst ((nI (zE N)++srt (nI ol)).map V.int)):=by rw[zc,JD,zL]
   generalize upd Hd lc (.lst (zr (zE N)++(srt (nI ol)).map V.int))=He at se Lc;refine{lc,_,rfl,u6 Lc,(),λp1 G as ax ay=>?_}
   have sf:=se.trans (zb (o:=.lst (G.map V.int)) as);have P1:upd He p1 (.lst (G.map V.int)) p1=some (.lst (G.map V.int)):=zc;generalize upd He p1 (.lst (G.map V.int))=Hf at sf P1;refine{_,rfl,l,ts,xs,rfl,sf _ _ bv,c0.same sf,(),λav Hg _ sg af=>?_}
   refine{av,nI (zE ts),rfl,u6 (by rw[af,JD]),by rw[au];omega,λp2 M ag ah ai=>?_}
   obtain rfl:G=M:=ZP (ax.trans (cs.trans ah.symm)) ay ai;have sh:=sg.trans (zb (o:=.lst (G.map V.int)) ag);refine{p1,p2,_,rfl,rfl,u6 (sh _ _ P1),u6 zc,zcx _,zl8 _,_,rfl,ifF rfl ?_}
   have si:=sf.trans sh;generalize upd Hg p2 (.lst (G.map V.int))=Hh at si;clear ag sh ah ai af sg P1 sf ax ay as Lc se aq Lo sd sc sb;have ro:=ro.same si;have RT:=RT.same si;have h1:=si _ _ h1;have h3:=si _ _ h3;have cg:=si _ _ br;have bo:=si _ _ ca;have S8:=S6.trans (.of si);have B8:=B6.same si;clear si bv c0 br ca S6 B6;refine{_,rfl,_,rfl,_,rfl,_,rfl,?_}
   refine zdn (E:=E0) L ro h1 RT bo () λT eo pa pb es wy ls gs Hi si hT he el ck cl pP cp d6=>{T,_,rfl,u7 hT,rfl,_,_,rfl,_,_,rfl,_,_,rfl,_,_,rfl,rfl,?_}
   have lP:(ls++gs).length<=60:=by rw[pP.length_eq,au];exact d7
   refine{_,rfl,_,rfl,pa,pb,_,_,rfl,rfl,ck,cl,by rw[zm,zm,<- qh];omega,λlc aq=>?_}
   have sj:=si.trans (zb (o:=.lst (ls.map V.int++gs.map V.int)) aq);have bt:=he.same (zb (o:=.lst (ls.map V.int++gs.map V.int)) aq);have Lc:upd Hi lc (.lst (ls.map V.int++gs.map V.int)) lc=some (.lst ((ls++gs).map V.int)):=by rw[zc,zL]
   generalize upd Hi lc (.lst (ls.map V.int++gs.map V.int))=Hj at sj bt Lc;refine{lc,_,rfl,u6 Lc,(),λp1 G as ax ay=>?_}
   have t1:=zb (o:=.lst (G.map V.int)) as;have P1:upd Hj p1 (.lst (G.map V.int)) p1=some (.lst (G.map V.int)):=zc;generalize upd Hj p1 (.lst (G.map V.int))=Hk at t1 P1;have sk:=sj.trans t1;refine{_,rfl,a1,N,ws,rfl,sk _ _ h1,RT.same sk,(),λav Hl _ sl af=>?_}
   refine{av,nI (zE N),rfl,u6 (by rw[af,JD]),by rw[au];omega,λp2 M ag ah ai=>?_}
   obtain rfl:G=M:=ZP (ax.trans (pP.trans ah.symm)) ay ai;have t2:=sl.trans (zb (o:=.lst (G.map V.int)) ag);refine{p1,p2,_,rfl,rfl,u6 (t2 _ _ P1),u6 zc,zcx _,zl8 _,_,rfl,ifF rfl ?_}
   have sm:=sk.trans t2;have bd:=(bt.same t1).same t2;generalize upd Hl p2 (.lst (G.map V.int))=Hm at sm bd;clear t2 ag ah ai af sl sk t1 P1 as ax ay Lc sj bt aq hT he ck cl;refine{_,rfl,_,rfl,op,eo,j8 J st,a0,es,rfl,ro.same sm,L.jo,bd,cp,(),λHn sn=>{_,_,rfl,rfl,_,rfl,ifF rfl ?_}}
   have so:=sm.trans sn;obtain⟨bc,bu,bz⟩:=bd.same sn;have d1:=bz.len;rw[zm] at d1;refine{_,rfl,eo,rfl,{_,u6 bu},qR (K:=K) (a:=eo) (xs:=bc) (λj zs Ho=>zs=List.replicate j (V.bl false)/\Same Hn Ho) {rfl,ua _} (λj zs Ho ⟨_,s⟩=>u6 (s _ _ bu)) ?_ ?_}
   .rintro j x zs Ho hx ⟨rfl,sp⟩
    obtain⟨d,ed,rd⟩:=(bz.same sp).get hx;rw[qk] at ed;obtain⟨e,ee,rfl⟩:=qG.mp ed;obtain⟨aa,r,rfl,qa,_⟩:=wu rd;have il:=(zK.mp ee).1;refine{rfl,_,rfl,aa,_,_,_,rfl,rfl,qa,qr (j:=1) rfl,_,rfl,a3,_,rfl,.inl ((so.trans sp).seq (u6 h3)),rfl,zcx _,by rw[va];omega,?_,sp}
    show _++[V.bl (inV (.int (e.p:Int)) ((srt (nI ol)).map V.int))]=_;rw[yB,jO (oN e.p (d6 e (qz ee))),Z9]
   rintro zs Ho ⟨rfl,sp⟩;refine{by rw[va];omega,λD hD=>{D,List.replicate bc.length false,rfl,u6 (by rw[zc,Z8]),_,rfl,ifF 1e3 ?_}}
   have sq:=(so.trans sp).trans (zb (o:=.lst (List.replicate bc.length (V.bl false))) hD);generalize upd Ho D (.lst (List.replicate bc.length (V.bl false)))=c8 at sq;clear hD sp bu bz so sn bd sm;refine{_,rfl,_,rfl,le0,λbx bh=>{_,rfl,?_}}
   have sr:=sq.trans (zb (o:=.lst []) bh);have bn:upd c8 bx 0#o bx=some 0#o:=zc;generalize upd c8 bx 0#o=Hq at sr bn;refine zfg (E:=E0) L (ro.same sr) (sr _ _ h1) (RT.same sr) bn () λT2 bq bf bg c7 ae Hr ss ce _ _ bi bj d9 cu=>?_
   refine{_,rfl,_,rfl,T2,_,rfl,u7 ce,(λh=>absurd (show HT.sIx 4 0 (some 1)=0 from h.1) 1e1),λtz cn=>?_}
   have t1:=zb (o:=.tup (jA [V.ref bq,.ref bf,.ref bg,.int c7] (some 1) (some 3))) cn;have TZ:upd Hr tz (.tup (jA [V.ref bq,.ref bf,.ref bg,.int c7] (some 1) (some 3))) tz=some (.tup [.ref bf,.ref bg]):=zc;have az:=(sr.trans ss).trans t1;have A1:=t1 _ _ bi;have A2:=t1 _ _ bj;generalize upd Hr tz (.tup (jA [V.ref bq,.ref bf,.ref bg,.int c7] (some 1) (some 3)))=Hs at TZ az A1 A2;clear t1 cn ce bi bj ss bn bh sr sq;refine{_,rfl,a1,N,ws,rfl,az _ _ h1,RT.same az,(),λav Ht _ su af=>?_}
   refine{av,nI (zE N),rfl,u6 (by rw[af,JD]),by rw[au];omega,λp2 M ag ah ai=>{le0,λe1 ci=>{le2,λtw cm=>?_}}}
   obtain rfl:ae=M:=ZP (d9.trans ah.symm) cu ai;have u1:=zb (o:=.lst (ae.map V.int)) ag;have u2:=zb (o:=.lst []) ci;have u3:=zb (o:=.tup [.ref p2,.ref e1]) cm;have c2:=u2.trans u3;have sv:=su.trans (u1.trans c2);have ri:∀{H':Hp} {x y t:Addr},SqT K H' t [.ref x,.ref y]->H' x=some (.lst (ae.map V.int))->H' y=some 0#o->Rep K H' (.tup [.lst (ae.map Dat.int),.lst []]) (.ref t):=λ{H' x y t} h1 h2 h3=>{t,_,rfl,h1,_,_,rfl,{x,_,rfl,u6 h2,X6 _},_,_,rfl,{y,[],rfl,u6 h3,rfl},rfl}
   refine{tz,tw,[.lst (ae.map Dat.int),.lst []],rfl,rfl,ri (u7 (sv _ _ TZ)) (sv _ _ A1) (sv _ _ A2),ri (u7 zc) (c2 _ _ zc) (u3 _ _ zc),?_,_,rfl,ifF rfl ?_}
   .have h:=YT (f:=Dat.int) (c:=1) (λp=>by show PyData.depth (.int p)<=1;simp[PyData.depth]) ae
    show max (PyData.depth (.list (Dat.pys (ae.map Dat.int)))) (max (PyData.depth (.list (Dat.pys []))) 0)<=50;have e1:PyData.depth (.list (Dat.pys (ae.map Dat.int)))<=10:=by simp only[PyData.depth];omega
    have e2:PyData.depth (.list (Dat.pys []))<=10:=1e1
    omega
   have sw:=az.trans sv;generalize upd (upd (upd Ht p2 (.lst (ae.map V.int))) e1 0#o) tw (.tup [.ref p2,.ref e1])=Hu at sw;clear sv c2 u3 u2 u1 cm ci ah ai ag af su az A1 A2 TZ ri;have da:=ro.same sw;have cz:=RT.same sw;have d2:=sw _ _ h1;have ch:=sw _ _ cg;have cy:=sw _ _ bo;have S9:=S8.trans (.of sw);have B9:=B8.same sw;clear sw ro RT h1 cg bo S8 B8 h3;refine{_,rfl,_,rfl,c,rfl,{_,u6 ch},qR (K:=K) (a:=c) (xs:=jU J.fs.length st) (Y3 b Hu n i) {[],rfl,rfl,(λ_ h=>nomatch h),uf b _,B9.mono ()} (λj zs H' ⟨_,_,_,_,S',_⟩=>u6 (S' _ _ ch aw)) ?_ ?_}
   .rintro j x zs H' hx ⟨ms,rfl,ml,mb,S',B'⟩
    have hj:j<J.fs.length:=by
     have:=(zK.mp hx).1;rwa[jT] at this
    obtain rfl:V.int (st j)=x:=jC ((vd hj).symm.trans hx);have b0:=ar j;refine{rfl,_,rfl,_,rfl,_,_,rfl,rfl,b,st j+1,_,rfl,B',(),(),(),λr H2 r0 r1 B2 S2=>{by rw[zm];omega,ms++[r],by rw[zL];rfl,by rw[qh,ml];rfl,λz hz=>?_,S'.trans S2,B2.mono ()}}
    rcases zV.mp hz with hz | hz
    .exact mb z hz
    .rw[qm.mp hz];omega
   rintro zs H' ⟨ms,rfl,ml,mb,S',B'⟩;rw[jT] at ml B';refine{by rw[zm];omega,λD hD=>{_,_,rfl,?_}}
   have T':=uc B9 S';have uD:=zb (o:=.lst (ms.map V.int)) hD;have Dd:upd H' D (.lst (ms.map V.int)) D=some (.lst (jU (j8 J st).fs.length λk=>ms.getD k 0)):=by rw[zc,vE,<- ml,zgK]
   exact{op,a1,D,j8 J st,a0,os,ws,N,_,_,_,_,_,_,_,_,_,rfl,S9.trans (S'.trans (.of uD)),(B'.same uD).mono (),(da.keep T' (wN _)).same uD,uD _ _ (S' _ _ d2 cq),(cz.keep T' (xm N)).same uD,cq,B'.nne hD,L,Dd,λk=>by
    by_cases hk:k<ms.length
    .rw[Zm,qK hk]
     exact mb _ (wc hk)
    .rw[Zm,Xt ()]
     exact{yI _,1e1},uD _ _ (S' _ _ cy cr)}
  .rintro σ H4 ⟨jp,l,c,J,a0,os,xs,ts,st,v6,v7,v8,v9,c3,c4,c5,c6,rfl,S4,_⟩
   exact k H4 S4
inductive zbL(K:W.Frag)(c:List V)(H:Hp)(Q:VK):Prop
 | mk (a:Addr) (b:List Int) (_:c=[.ref a]) (_:SqL K H a 0#u) (_:b.length<=63) (_:∀l,Q (.bl true) l):zbL K c H Q
def spLaw(K:W.Frag):Sp:=λb H Q _=>zbL K b H Q
theorem zis:zD ["_law_script","_law_cells"] ["_law_script"] (zu (topL 75)):=u4
theorem zjF{f:Addr}{Y:FuncData}(F:Fun K "law" "law" (topL 75) f Y)(B:Blt C)(b:Dfn P w K C g "_law_folded" 1 ["_law_script","_law_size"] (zeF K))(I:Dfn P w K C g "_law_box" 1 ["_law_script","_law_k"] (zii K))
  (l:Dfn P w K C g "_law_right" 8 ["_law_box_here"] zbA):FnOk P w K C g CX0 9 f Y ["_law_script"] (spLaw K):=by
 have nd:=zis.nd;refine F.ok zis 0#d (λaa A T s H vs Q E O h=>?_)
 .obtain⟨a,ns,rfl,_⟩:=h
  rfl
 .obtain⟨a,ns,rfl,hS,L,k⟩:=h
  refine{_,(ze (zG (i:=1) nd rfl (Or.inr rfl) (zf b O.m rfl 0#h))
   (zi (zy (zt (x8 rfl) rfl B.all boot_all (za (jE ["_law_cells"] [1] rfl rfl (by kernel_rfl) (jS rfl B.range (za (zt (Qu rfl) rfl B.max J3 (za zg (za (zt zI rfl B.len boot_len 0#k) zd))) zd)) 0#g (λ_ _ _ _=>(zf l O.m rfl (za (zf I O.m rfl (za (pv 1) 0#y)) zd)))) zd))))),?_}
  refine{_,rfl,a,ns,3,rfl,hS,L,1e1,1e1,λp G H1 s1 hp hm=>?_}
  have J:=bGe;have hl:(G.map V.int).length<=3:=by rw[zm];exact hm
  refine{_,rfl,p,_,rfl,.inl hp,_,_,rfl,_,rfl,(by rw[J];split<;>omega),(by rw[J];split<;>omega),?_}
  have hN:(if((G.map V.int).length:Int)>2 then((G.map V.int).length:Int) else 2).toNat<=8:=by split<;>omega
  have a0:=bG100;refine YF (λi U M=>U=List.replicate i (V.bl true)/\Same H1 M) {rfl,ua _} ?_ ?_
  .rintro i U M hi ⟨rfl,N⟩
   rw[Int.zero_add];refine{rfl,?_}
   refine{_,rfl,_,rfl,p,G,i,rfl,N.seq hp,(),λq o hq Bq=>{q,0,rfl,Bq,1e1,λH3 s3=>{?_,?_,λc u e=>?_}}}
   .rw[va];omega
   .rw[Z9]
   .exact s3 c u ((zb hq) c u (N c u e)) (zj (N c u e) hq)
  .rintro U M ⟨rfl,N⟩
   refine{by rw[va];omega,λD hD=>{D,List.replicate (if((G.map V.int).length:Int)>2 then((G.map V.int).length:Int) else 2).toNat true,rfl,?_,?_}}
   .refine u6 ?_
    rw[zc,Z8]
   .have:=k (upd M D (.lst (List.replicate (if((G.map V.int).length:Int)>2 then((G.map V.int).length:Int) else 2).toNat (V.bl true))))
    simpa using this
end
theorem all_mk{l:PySem.W.OpenLaw}{w:World}{K:W.Frag}{h:Heap}{mg:Str->Option Value}{fa:Addr}(X:K.In h)(e:zhp zaD zdW zc6 K=zhK zaD zdW zc6)(G:h.Ns mainGlobals mg)(c4:mg "law" = some (.ref fa)) :
  ∃fd:FuncData,(∀(s:Shared) (v:Value),BindsTo s fd {[v],[]} [("_law_script",v)])/\∀bt:Heap,K.In bt->bt.Ns mainGlobals mg->FnOk l.prog w K mg bt CX0 9 fa fd ["_law_script"] (spLaw K):=by
 have Z0:Tp l.prog w K mg h h zaD zdW zc6:=⟨X,G,e⟩;have B:Blt mg:={Z0.bl 0 rfl,Z0.bl 1 rfl,Z0.bl 2 rfl,Z0.bl 3 rfl,Z0.bl 4 rfl,Z0.bl 5 rfl,Z0.bl 6 rfl,Z0.bl 7 rfl,Z0.bl 8 rfl,Z0.bl 9 rfl,Z0.bl 10 rfl,Z0.bl 11 rfl,Z0.bl 12 rfl,Z0.bl 13 rfl,Z0.bl 14 rfl,Z0.bl 15 rfl,Z0.bl 16 rfl,Z0.bl 17 rfl,Z0.bl 18 rfl,Z0.bl 19 rfl};obtain⟨f,fd,a,F⟩:=Z0.fd 65 rfl;cases c4.symm.trans (PySem.W.mg_of X G a);refine{fd,?_,λbt _ _=>?_}
 .obtain⟨_,_,_,_,_,_,_,_,_,rfl,_,_⟩:=F.ex
  exactλs v=>.of_eq rfl
 have Z:Tp l.prog w K mg bt h zaD zdW zc6:=⟨X,G,e⟩;obtain⟨t0,au,O⟩:=Z.tx 0 rfl;have O:TxG K t0 [("picked":Str),("missed":Str)]:=⟨O⟩;obtain⟨t1,ae,I⟩:=Z.tx 1 rfl;have I:TxG K t1 [("behind":Str),("none":Str),("failed":Str),("dropped":Str)]:=⟨I⟩;have bb:=Z.dfn 0 rfl λ_ _ F _ _=>zjI F B
 have c:=Z.dfn 1 rfl λ_ _ F _ _=>zlr F B bb
 have as:=Z.dfn 2 rfl λ_ _ F _ _=>zjx F B
 have bg:=Z.dfn 3 rfl λ_ _ F _ _=>zjD F B as
 have E:=Z.dfn 4 rfl λ_ _ F _ _=>zlt F B
 have Y:=Z.dfn 5 rfl λ_ _ F _ _=>zls F B
 have c2:=Z.dfn 6 rfl λ_ _ F _ _=>zfz F B
 have c0:=Z.dfn 7 rfl λ_ _ F _ _=>zhd F B
 have b0:=Z.dfn 8 rfl λ_ _ F _ _=>zfA F B
 have bh:=Z.dfn 9 rfl λ_ _ F _ _=>zjN F B b0
 have H:=Z.dfn 10 rfl λ_ _ F _ _=>zfG F B c2 c0 bh
 have L:=Z.dfn 11 rfl λ_ _ F _ _=>zjK F B
 have N:=Z.dfn 12 rfl λ_ _ F _ _=>zly F B
 have ac:=Z.dfn 13 rfl λ_ _ F _ _=>zlu F B N
 have ao:=Z.dfn 14 rfl λ_ _ F _ _=>zlz F B N ac L
 have T:=Z.dfn 15 rfl λ_ _ F _ _=>zlK F B H
 have an:=Z.dfn 16 rfl λ_ _ F _ _=>zlB F B
 have am:=Z.dfn 17 rfl λ_ _ F _ _=>zlC F B N ao T an
 have ab:=Z.dfn 18 rfl λ_ _ F _ _=>zg9 F B
 have af:=Z.dfn 19 rfl λ_ _ F _ _=>zlH F B
 have ah:=Z.dfn 20 rfl λ_ _ F _ _=>zlJ F B H
 have ag:=Z.dfn 21 rfl λ_ _ F _ _=>zlG F B af ah
 have ai:=Z.dfn 22 rfl λ_ _ F _ _=>zlI F B ag
 have bu:=Z.dfn 23 rfl λ_ _ F _ _=>zjJ F B E c
 have ba:=Z.dfn 24 rfl λ_ _ F _ _=>zhj F B Y bu
 have bi:=Z.dfn 25 rfl λ_ _ F _ _=>zhi F B E c
 have bv:=Z.dfn 26 rfl λ_ _ F _ _=>zjH F B E ba bi
 have br:=Z.dfn 27 rfl λ_ _ F _ _=>zjB F B
 have bz:=Z.dfn 28 rfl λ_ _ F _ _=>zhh F B
 have bm:=Z.dfn 29 rfl λ_ _ F _ _=>zlF F B bv ai
 have g:=Z.dfn 32 rfl λ_ _ F _ _=>zjL F B
 have M:=Z.dfn 33 rfl λ_ _ F _ _=>zjA F B g
 have aj:=Z.dfn 34 rfl λ_ _ F _ _=>zhf F B (ae) (I) M H
 have ap:=Z.dfn 35 rfl λ_ _ F _ _=>zlA F B (au) (O) g L
 have bj:=Z.dfn 36 rfl λ_ _ F _ _=>zhe F B (au) (O) g
 have aq:=Z.dfn 37 rfl λ_ _ F _ _=>zhb F B aj ap bj
 have bf:=Z.dfn 38 rfl λ_ _ F _ _=>zjE F B aj
 have ar:=Z.dfn 39 rfl λ_ _ F _ _=>zjz F B aq M bf
 have c3:=Z.dfn 40 rfl λ_ _ F _ _=>zg5 F B (au) (O) g bg
 have bs:=Z.dfn 41 rfl λ_ _ F _ _=>zjy F B (ae) (I) ar c3 M
 have A:=Z.dfn 30 rfl λ_ _ F _ _=>zhm F B
 have D:=Z.dfn 31 rfl λ_ _ F _ _=>zan F B (0) A
 have A:=Z.dfn 30 rfl λ_ _ F _ _=>zfF F B (0) D
 have D:=Z.dfn 31 rfl λ_ _ F _ _=>zan F B (1) A
 have A:=Z.dfn 30 rfl λ_ _ F _ _=>zfF F B (1) D
 have D:=Z.dfn 31 rfl λ_ _ F _ _=>zan F B (2) A
 have U:=Z.dfn 42 rfl λ_ _ F _ _=>zlD F B c D H
 have az:=Z.dfn 43 rfl λ_ _ F _ _=>zhg F B g U
 have bw:=Z.dfn 44 rfl λ_ _ F _ _=>zjM F B
 have b:=Z.dfn 45 rfl λ_ _ F _ _=>zg7 F B
 have ax:=Z.dfn 46 rfl λ_ _ F _ _=>zhk F B
 have al:=Z.dfn 47 rfl λ_ _ F _ _=>zfB F B
 have bo:=Z.dfn 48 rfl λ_ _ F _ _=>zjC F B b al
 have bc:=Z.dfn 49 rfl λ_ _ F _ _=>zfE F B bo
 have J:=Z.dfn 50 rfl λ_ _ F _ _=>zfC F B b
 have ay:=Z.dfn 51 rfl λ_ _ F _ _=>zdo F B J
 have C:=Z.dfn 52 rfl λ_ _ F _ _=>zg8 F B b
 have ak:=Z.dfn 53 rfl λ_ _ F _ _=>zhl F B b C J
 have av:=Z.dfn 54 rfl λ_ _ F _ _=>zdr F B b C
 have bx:=Z.dfn 55 rfl λ_ _ F _ _=>zjG F B b bc J ay ak av
 have bd:=Z.dfn 56 rfl λ_ _ F _ _=>zfD F B b
 have bq:=Z.dfn 57 rfl λ_ _ F _ _=>zg6 F B C
 have bp:=Z.dfn 58 rfl λ_ _ F _ _=>zha F B b bd bq
 have aa:=Z.dfn 59 rfl λ_ _ F _ _=>zlw F B b
 have a0:=Z.dfn 60 rfl λ_ _ F _ _=>zlM F B
 have aw:=Z.dfn 61 rfl λ_ _ F _ _=>zlL F B b bx bp aa
 have Q:=Z.dfn 62 rfl λ_ _ F _ _=>zlv F B a0
 have bn:=Z.dfn 63 rfl λ_ _ F _ _=>zlE F B b
 have be:=Z.dfn 64 rfl λ_ _ F _ _=>zlx F B aw bn b am ab bm ai bz Q br bs az
 exact zjF F B ax bw be
end L2
open PySem PySem.W PyProof.Rows
set_option maxRecDepth 100000 in
set_option maxHeartbeats 0 in
theorem PySem.Challenge.cw_pickboard_k71_whole_mended_and_run_holds : PySem.Challenge.rw_pickboard_k71_whole_mended_and_run.Holds := by
 refine L2.ownHead (d:=L2.defRec "law" (L2.topL 75)) 9999 L2.head1 L2.head2 (by kernel_rfl) (by kernel_rfl) (by kernel_rfl) L2.head3 ⟨rfl,rfl,rfl,rfl,rfl,by decide +kernel⟩ (by w_witness2) ?_
 exact L2.walkS (n:=63) (k:=9) (x:= "_law_script") (sp:=L2.spLaw) rfl (by decide) (by kernel_rfl) ⟨rfl,by decide,by decide,rfl⟩ (fun _ _ _ _ _ X e G m=>L2.all_mk X e G m) fun _ _ a ns hl _ hS=>⟨a,ns,rfl,hS,hl,fun _=>rfl⟩
