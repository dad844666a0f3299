import PyProof.Rows.All
import Wide.All
import OpenK.AllK
import Wide.FinOn
import Lean
import PyProof.EqAt
import PyProof.EqKinds
import PyProof.TupleCall
import PyProof.NeKinds
import PyProof.ReprRoads
import PyProof.ReprBulk
import PyProof.SumWalk
import PyProof.FString5
import PyProof.StrBlock2
import PyProof.StrBlockI
import PyProof.StrBlockH
import PyProof.StrWalks
import PyProof.StrLawsIn
import PyProof.AutoListH
import PyProof.CompUse
import PyProof.ListRange
import PyProof.CallFns
import PyProof.ListTruth
import PyProof.Rows.Range3
import PyProof.SeqI3
import KE.KRevSl
import PyProof.DictIter
import PyProof.DictWalks
import PyProof.DictCompW
import PyProof.Cells
import OpenK.KOwn
import PyProof.ExcClass3
import PyProof.ExcInit
import PyProof.ExcBaseAll.ValueError
import PyProof.ExcArgsOwn
import PyProof.ExcAttrAll.ValueError
import PyProof.Rows.SortWalk
import PyProof.Rows.SortStr
import PyProof.MeetsDict
import PyProof.DictUpdate
import PyProof.FactsAll.dict_3
import KE.KDictList
import PyProof.FactsAll.dict_4
import KE.KDictSum
import PyProof.IsiH_list
import PyProof.Rows.Exc
import KE.KDictOf
import PyProof.SetKind
import PyProof.Rows.SetFrom
import PyProof.FactsAll.set_1
import PyProof.FactsAll.set_2
import KE.KSortTup
import KE.KItemsList
import PyProof.Rows.SortRev
import PyProof.Rows.StrCase
import PyProof.Rows.StrLen
import KE.KPairComp
import KE.KMinKey
import PyProof.CallStr
import PyProof.StrCalls2
import PyProof.StrLawsTight
import PyProof.FString
import PyProof.StrBlock
import KE.KUnpack
import PyProof.Rows.TupMore
import PyProof.DictItems
import PyProof.IsiH_tuple
import PyProof.TupleIter
import PySem.Challenge.RW_pickboard_k15_whole_plans_parted_and_joi
set_option Elab.async false
set_option linter.all false
set_option maxRecDepth 100000
def zp:=@List.length_map
def zi:=@PySem.wpAny_bind
def zK:=@List.getElem?_eq_some_iff
def qr:=@PySem.Heap.get?_push_of_some
def zZ:=@List.length_append
def zR:=@List.map_append
def zE:=@PySem.wpAny_pure
def zM:=@Nat.le_refl
def qJ:=@Option.map_eq_some_iff
def qv:=@List.getElem?_map
def zY:=@List.mem_singleton
def zX:=@List.size_toArray
def qq:=@List.mem_of_getElem?
def qk:=@PySem.Heap.get?_push_size
def qB:=@List.mem_append_right
def zP:=@PySem.Heap.lt_size
def qP:=@List.getElem?_eq_getElem
def qi:=@List.length_take
def zv:=@if_neg
def qo:=@List.mem_append
def qA:=@List.take_length
def qO:=@Bool.false_ne_true
def qm:=@List.mem_cons
def zC:=@if_pos
def jn:=@List.mem_cons_of_mem
def jA:=@List.mem_append_left
def qw:=@Nat.ne_of_lt
def qz:=@List.mem_map
def qg:=@PySem.wpAny_mono
def jz:=@List.mem_cons_self
def jD:=@Nat.lt_of_lt_of_le
def xj:=@PySem.F.plainAttrs_list
def xH:=@List.getElem?_append_left
def jO:=@Array.length_toList
def xQ:=@List.getElem?_append_right
def xi:=@List.take_append_drop
def qY:=@List.map_cons
def jm:=@Option.some.inj
def je:=@decide_eq_true
def jy:=@PySem.PassesOwn.never
def qQ:=@Nat.zero_le
def jH:=@List.append_nil
def jW:=@Bool.and_eq_true
def jN:=@decide_eq_false
def xP:=@List.mem_iff_getElem?
def xU:=@List.length_filter_le
def jx:=@Nat.le_trans
def xh:=@List.length_cons
def qu:=@Ne.symm
def xG:=@List.append_assoc
def xF:=@of_decide_eq_true
def we:=@PySem.F.slot_list_append
def wc:=@PySem.F.type_list_append
def xE:=@List.lookup_cons
def xx:=@List.mem_filter
def xg:=@PySem.Heap.size_push
def wG:=@Array.getElem?_eq_getElem
def xO:=@List.all_eq_true
def xD:=@List.mem_range
def vi:=@PySem.wpAny_newObj_type
def vh:=@List.length_range
def yt:=@List.take_append_getElem
def wF:=@List.length_replicate
def jM:=@beq_iff_eq
def wb:=@List.flatMap_append
def yr:=@PySem.wpAny_callSpecial?_slot
def v1:=@List.filter_append
def vF:=@List.length_drop
def vE:=@PySem.wpAny_call_entry
def wE:=@PySem.mem_of_lookup
def Qe:=@PyProof.Rows.callWith_type1
def v0:=@PySem.wpAny_truthy_bool
def xw:=@PySem.wpAny_field
def wD:=@Int.emod_lt_of_pos
def vZ:=@List.getElem_mem
def wC:=@List.count_append
def vg:=@PySem.wpAny_standAt
def Zj:=@Array.getElem?_toList
def Zi:=@List.mem_of_mem_take
def vD:=@PySem.wpAny_holding
def yq:=@Int.toNat_natCast
def wB:=@Int.emod_nonneg
def vC:=@List.map_map
def xT:=@PySem.wpAny_rule
def Vv:=@PySem.F.slot_dict_keyiterator_next
def Qd:=@PySem.Heap.SameBut.update
def vB:=@Sum.inl.inj
def vY:=@Nat.ne_of_gt
def wA:=@Nat.lt_irrefl
def Zh:=@PySem.wpAny_isInstance
def Zg:=@List.nodup_range
def Jv:=@PySem.Heap.get?_update_self
def yp:=@PySem.wpAny_seqItems
def Zf:=@Bool.eq_iff_iff
def Ju:=@List.mem_iff_getElem
def Qc:=@List.nodup_append
def yo:=@List.any_cons
def Qb:=@Nat.lt_succ_self
def Ze:=@PySem.Value.type.inj
def Qa:=@List.filter_cons
def Qq:=@List.take_of_length_le
def yY:=@PySem.Calls.spliced_cons
def yX:=@PySem.wpAny_setField_rec
def vz:=@Nat.zero_add
def yW:=@decide_eq_true_iff
def wS:=@PySem.wpAny_passesOwn
def wR:=@Option.map_some
def wQ:=@List.find?_cons
def Xr:=@PySem.F.slot_tuple_iterator_next
def Xq:=@Array.getElem?_eq_some_iff
def yV:=@Nat.le_of_lt_succ
def Xp:=@PySem.F.slot_tuple_getattribute
def Qp:=@List.mem_of_mem_drop
def wf:=@Nat.le_of_eq
def yU:=@List.not_mem_nil
def Qo:=@List.replicate_succ
def WD:=@PyProof.Rows.slot_tuple_getitem
def wP:=@PySem.wpAny_attempt
def yT:=@List.nodup_cons
def yS:=@List.length_set
def Qn:=@PySem.Obj.data_mapFields
def yR:=@Nat.not_lt_zero
def Qm:=@List.getElem?_take
def Xo:=@List.getElem?_set_self
def Xn:=@List.singleton_sublist
def Xm:=@PySem.F.slot_enumerate_next
def wO:=@Nat.sub_self
def wN:=@Nat.succ_pos
def WC:=@List.idxOf_lt_length_of_mem
def WB:=@Array.getD_eq_getD_getElem?
def Ql:=@List.getElem_inj
def Xl:=@List.getElem?_set_ne
def Qk:=@List.any_eq_true
def Xk:=@List.replicate_succ'
def yQ:=@List.map_take
def Xj:=@List.filterMap_cons
def Xi:=@List.length_pos_iff
def Qj:=@List.length_nil
def Qi:=@List.count_cons
def WA:=@List.drop_eq_getElem_cons
def Wz:=@List.count_singleton_self
def yP:=@Nat.le_of_lt
def Wy:=@PySem.F.args_tuple_add_2
def Xh:=@List.getElem?_drop
def Xg:=@List.map_replicate
def Wx:=@PySem.F.slot_list_extend
def Ww:=@PySem.F.type_list_extend
def Wv:=@PySem.F.entry_tuple_add
def Wu:=@List.length_eq_zero_iff
def Xf:=@PySem.Calls.spliced_nil
def Xe:=@List.flatten_cons
def Xd:=@Option.some.injEq
def Xb:=@List.pairwise_map
def Wt:=@PySem.F.slot_tuple_add
def Ws:=@PySem.Heap.get?_update_other
def Wr:=@PySem.Calls.callWith_builtin
def yO:=@Nat.le_succ
def Wq:=@Array.getElem?_eq_none
def Qh:=@Bool.false_or
def Qg:=@Int.ofNat.inj
def Wp:=@List.length_singleton
def Wo:=@PySem.Obj.isFreed_of_fields
def Wn:=@PySem.F.slot_dict_get
def Qf:=@List.map_nil
def Wm:=@PySem.Calls.evalArgs_plain
def Xa:=@List.nil_append
def J9:=@List.forIn_cons
def J8:=@PySem.F.slot_zip_next
def zc7:=@PySem.F.args_dict_keyiterator_next_1
def yN:=@Nat.mod_lt
def Wl:=@List.getElem?_zipIdx
def Wj:=@List.count_le_length
def zc6:=@PySem.F.entry_dict_keyiterator_next
def zc5:=@List.take_append_of_le_length
def Wi:=@List.filter_sublist
def zc4:=@PySem.F.args_tuple_iterator_next_1
def zc3:=@PySem.F.slot_dict_setdefault
def Wh:=@List.mem_filterMap
def Wg:=@Bool.false_eq_true
def zc2:=@PySem.F.entry_tuple_iterator_next
def Wf:=@List.find?_eq_none
def We:=@Int.natCast_nonneg
def J7:=@PySem.Paired.length
def zc1:=@PySem.Calls.Name_function_global
def zc0:=@Int.fdiv_eq_ediv_of_nonneg
def zcZ:=@Int.fmod_eq_emod_of_nonneg
def zcY:=@List.perm_append_singleton
def Wd:=@List.take_sublist
def Wc:=@Nat.lt_succ_of_lt
def Wb:=@PySem.Obj.cls_mapFields
def zcX:=@List.mem_drop_iff_getElem
def zcW:=@List.mem_of_find?_eq_some
def Wa:=@List.getElem_map
def V9:=@List.of_mem_zip
def V8:=@Bool.or_eq_true
def V7:=@Bool.and_false
def V6:=@List.forIn_nil
def V5:=@List.take_zero
namespace L2
open PySem PySem.Spec PyProof.Rows
theorem bG100000:100000<sizeLine:=by rw[sizeLine_eq];decide
theorem bG1000000:1000000<sizeLine:=by rw[sizeLine_eq];decide
theorem bG100:100<sizeLine:=by rw[sizeLine_eq];decide
theorem bGe:(2:Int)^62=4611686018427387904:=by decide
abbrev Key:=Sum Int Str
def ZV:Key->Value->Bool
 | .inl k,v=>Value.isInt k v
 | .inr x,v=>Value.isStrOf x v
def zhF(w:World):Key->Int
 | .inl k=>hashInt k
 | .inr x=>hashStr w x
theorem qK:∀{k:Key} {v:Value},ZV k v=true->(∃i t,k=Sum.inl i/\v=Value.int i t)\/(∃x t,k=Sum.inr x/\v=Value.str x t)
 | .inl i,v,h=>by
  obtain⟨t,e⟩:=Value.isInt_shape (k:=i) (v:=v) h;exact .inl ⟨i,t,rfl,e⟩
 | .inr x,v,h=>by
  obtain⟨t,e⟩:=Value.isStrOf_shape (x:=x) (v:=v) h;exact .inr ⟨x,t,rfl,e⟩
theorem zaG(i:Int)(t:Tok):ZV (.inl i) (.int i t)=true:=by simp[ZV,Value.isInt]
theorem zaF(x:Str)(t:Tok):ZV (.inr x) (.str x t)=true:=by simp[ZV,Value.isStrOf]
theorem zfF(a b:Int):decide ((Sum.inl a:Key)=Sum.inl b)=(a==b):=by
 by_cases e:a=b
 ·subst e;simp
 ·have h:¬(Sum.inl a:Key)=Sum.inl b:=fun q=>e (vB q)
  rw[jN h];exact(beq_eq_false_iff_ne.mpr e).symm
theorem zfC(a b:Str):decide ((Sum.inr a:Key)=Sum.inr b)=decide (a=b):=by
 by_cases e:a=b
 ·subst e;simp
 ·have h:¬(Sum.inr a:Key)=Sum.inr b:=fun q=>e (Sum.inr.inj q)
  rw[jN h,jN e]
theorem zfE(a:Int)(b:Str):decide ((Sum.inl a:Key)=Sum.inr b)=false:=jN (fun q=>nomatch q)
theorem zfD(a:Str)(b:Int):decide ((Sum.inr a:Key)=Sum.inl b)=false:=jN (fun q=>nomatch q)
def zW(c:Program)(w:World):PySem.KeyKind c w Key where
 is:=ZV
 hash:=zhF w
 inj:=fun v a b g hb=>by
  rcases qK g with ⟨i,t,rfl,rfl⟩ | ⟨x,t,rfl,rfl⟩
  ·rcases qK hb with ⟨j,u,rfl,e⟩ | ⟨y,u,rfl,e⟩
   ·injection e with e1 _;rw[e1]
   ·exact nomatch e
  ·rcases qK hb with ⟨j,u,rfl,e⟩ | ⟨y,u,rfl,e⟩
   ·exact nomatch e
   ·injection e with e1 _;rw[e1]
 byValue:=fun k v h=>by
  rcases qK h with ⟨i,t,rfl,rfl⟩ | ⟨x,t,rfl,rfl⟩<;>rfl
 pyHash:=fun f h=>by
  rcases qK f with ⟨i,t,rfl,rfl⟩ | ⟨x,t,rfl,rfl⟩
  ·exact wpAny_pyHash_int h
  ·exact wpAny_pyHash_str h
 eqBool:=fun hu f h=>by
  rcases qK hu with ⟨i,t,rfl,rfl⟩ | ⟨x,t,rfl,rfl⟩
  ·rcases qK f with ⟨j,u,rfl,rfl⟩ | ⟨y,u,rfl,rfl⟩
   ·rw[zfF] at h;exact wpAny_eqBool_int h
   ·rw[zfE] at h;exact SeqAt.EqAt.int_str i t y u _ _ _ _ h
  ·rcases qK f with ⟨j,u,rfl,rfl⟩ | ⟨y,u,rfl,rfl⟩
   ·rw[zfD] at h;exact SeqAt.EqAt.str_int x t j u _ _ _ _ h
   ·rw[zfC] at h;exact wpAny_eqBool_str h
 «strs»:=fun k x t v h=>by
  rcases qK h with ⟨i,u,rfl,e⟩ | ⟨y,u,rfl,e⟩
  ·exact nomatch e
  ·injection e with e1 _
   subst e1;cases v<;>rfl
theorem VW(c:Program)(w:World)(k:Key)(v:Value):(zW c w).is k v=ZV k v:=rfl
theorem X6(c:Program)(w:World)(i:Int)(t:Tok):(zW c w).is (.inl i) (.int i t)=true:=zaG i t
theorem X5(c:Program)(w:World)(x:Str)(t:Tok):(zW c w).is (.inr x) (.str x t)=true:=zaF x t
inductive V where
 | non | bl (b:Bool) | int (i:Int) | str (x:Str) | byt (b:Array UInt8) | flt (b:UInt64) | ref (a:Addr) | ty (n:String)
 deriving DecidableEq
def RelV:V->Value->Prop
 | .non,u=>u=Value.none
 | .bl b,u=>u=Value.bool b
 | .int i,u=>∃t,u=Value.int i t
 | .str x,u=>∃t,u=Value.str x t
 | .byt b,u=>∃t,u=Value.bytes b t
 | .flt b,u=>∃t,u=Value.float b t
 | .ref a,u=>u=Value.ref a
 | .ty n,u=>u=Value.type n
abbrev Vals:List V->List Value->Prop:=Paired RelV
theorem Vals.length{e:List V}{c:List Value}(r:Vals e c):e.length=c.length:=J7 r
theorem Vals.get:∀{f:List V} {c:List Value} {i:Nat} {x:V},Vals f c->f[i]? =some x->∃u,c[i]? =some u/\RelV x u
 | _,_,_,_,.nil,e=>by simp at e
 | _,_,0,_,.cons r _,e=>by simp at e;subst e;exact⟨_,rfl,r⟩
 | _,_,i+1,x,.cons _ t,e=>by
  obtain⟨u,g,l⟩:=Vals.get (i:=i) (x:=x) t (by simpa using e)
  exact⟨u,by simpa using g,l⟩
theorem Vals.set{x:V}{u:Value}(r:RelV x u):∀{e:List V} {c:List Value} (i:Nat),Vals e c->Vals (e.set i x) (c.set i u)
 | _,_,_,.nil=>.nil
 | _,_,0,.cons _ t=>.cons r t
 | _,_,i+1,.cons q t=>.cons q (Vals.set r i t)
theorem Vals.append:∀{f g:List V} {c e:List Value},Vals f c->Vals g e->Vals (f++g) (c++e)
 | _,_,_,_,.nil,s=>s
 | _,_,_,_,.cons r t,s=>.cons r (Vals.append t s)
theorem Vals.take:∀{e:List V} {c:List Value} (n:Nat),Vals e c->Vals (e.take n) (c.take n)
 | _,_,0,_=>.nil
 | _,_,_+1,.nil=>.nil
 | _,_,n+1,.cons r t=>.cons r (Vals.take n t)
theorem Vals.drop:∀{e:List V} {c:List Value} (n:Nat),Vals e c->Vals (e.drop n) (c.drop n)
 | _,_,0,r=>r
 | _,_,_+1,.nil=>.nil
 | _,_,n+1,.cons _ t=>Vals.drop n t
def RelO:Option V->Option Value->Prop
 | some v,some u=>RelV v u
 | none,none=>True
 | _,_=>False
def KV{κ:Type}:List (κ×V)->List (κ×Value)->Prop:=Paired fun(p:κ×V) (q:κ×Value)=>p.1=q.1/\RelV p.2 q.2
def kV:Key->V
 | .inl i=>.int i
 | .inr x=>.str x
inductive HO where
  | lst (g:List V)
  | tup (g:List V)
  | dK (c:List (Key×V)) | dT (c:List (List Key×V))
  | set (S:Int->Bool) (n:Nat)
  | ins (C l:Addr) (e:List (Str×V))
  | own (x:Addr)
  | xd (e:List (Str×V))
  | met (f x:Addr)
  | rng (lo s:Int)
  | frz (o:Obj) (u:HO)
  | tbl (w:Array Value)
  | ext (φ:Heap->Prop)
abbrev Hp:=Addr->Option HO
def upd(H:Hp)(a:Addr)(o:HO):Hp:=fun b=>if b=a then some o else H b
theorem zc{H:Hp}{a:Addr}{o:HO}:upd H a o a=some o:=by unfold upd;rw[zC rfl]
theorem zm{H:Hp}{a b:Addr}{o:HO}(h:b≠a):upd H a o b=H b:=by unfold upd;rw[zv h]
theorem Yx{H:Hp}{a b:Addr}{o u:HO}(h:H a=some o)(c:H b=some u)(d:o≠u):a≠b:=by
 intro e;subst e;rw[h] at c;exact d (jm c)
theorem zk{H:Hp}{a b:Addr}{o:HO}(h:H a=some o)(c:H b=none):a≠b:=by
 intro e;subst e;rw[h] at c;cases c
section
variable(P:Program)(w:World)
def TupX(h:Heap)(a:Addr)(c:Array Value):Prop:=IsTup h a c/\∃o,h.get? a=some o/\o.dict=none
theorem TupX.by{h:Heap}{a:Addr}{c:Array Value}{n:Nat}(e:h.get? a=some { cls:=.type "tuple",data:=.seq c n }):TupX h a c:=⟨⟨_,e,rfl,n,rfl⟩,_,e,rfl⟩
def ObjOk(H:Hp)(h:Heap)(a:Addr):HO->Prop
 | .lst g=>g.length<=sizeLine/\∃(c:List Value) (n:Nat),Vals g c/\h.get? a=some { cls:=.type "list",data:=.seq c.toArray n }
 | .tup g=>g.length<=sizeLine/\∃c:List Value,Vals g c/\TupX h a c.toArray
 | .dK e=>e.length<=sizeLine/\(a==sysModules)=false/\∃G,KV e G/\h.DictOf (zW P w) a G
 | .dT e=>e.length<=sizeLine/\(a==sysModules)=false/\∃g:List (List Key×Addr×Value),
   Paired (fun(p:List Key×V) (q:List Key×Addr×Value)=>p.1=q.1/\H q.2.1=some (.tup (p.1.map kV))/\RelV p.2 q.2.2) e g /\
   ∃o B I,h.get? a=some o/\o.ExactDict/\o.data=.dict B I/\B.toList=g.map (entryOfKey (tupleKind (zW P w)))/\(g.map (·.1)).Nodup
 | .set S n=>h.SetOf (intKind P w) a S n
 | .ins C A s=>H A=some (.own a)/\s.length<=1000/\A≠a/\h.get? a=some (PySem.W.instObj C A) /\
   ∃l,h.Ns1 A l/\(∀f,RelO (s.lookup f) (l f))/\PySem.Within l (s.map (·.1))
 | .own _=>∃o,h.get? a=some o
 | .xd s=>∃l,h.Ns1 a l/\∀f,RelO (s.lookup f) (l f)
 | .rng lo J=>∃t u v,h.get? a=some { cls:=.type "range",data:=.fields #[.int lo t,.int J u,.int 1 v] }
 | .frz o u=>h.get? a=some o/\ObjOk H h a u
 | .tbl L=>h.get? a=some { cls:=.none,data:=.fields L }
 | .met f x=>h.get? a=some (PySem.W.methodObj (.ref f) (.ref x))
 | .ext φ=>φ h/\(∃o,h.get? a=some o)/\∀D E:Heap,φ D->(∀o,D.get? a=some o->E.get? a=some o)->φ E
def HOk(H:Hp)(h:Heap):Prop:=∀a o,H a=some o->ObjOk P w H h a o
end
section
variable{P:Program}{w:World}{H g:Hp}{h h':Heap}{a:Addr}{o:HO}
theorem ObjOk.lt(x:ObjOk P w H h a o):a<h.objs.size:=by
 cases o with
 | lst xs=>obtain⟨_,_,_,_,e⟩:=x;exact zP e
 | tup xs=>obtain⟨_,_,_,p⟩:=x;exact p.1.lt
 | dK c=>obtain⟨_,_,_,_,o,_,_,e,_⟩:=x;exact zP e
 | dT c=>obtain⟨_,_,_,_,o,_,_,e,_⟩:=x;exact zP e
 | set S n=>obtain⟨o,_,_,_,e,_⟩:=x;exact zP e
 | ins C s l=>obtain⟨_,_,_,e,_⟩:=x;exact zP e
 | own y=>obtain⟨_,e⟩:=x;exact zP e
 | xd l=>obtain⟨_,⟨_,_,_,e,_⟩,_⟩:=x;exact zP e
 | rng lo A=>obtain⟨_,_,_,e⟩:=x;exact zP e
 | frz B u=>obtain⟨e,_⟩:=x;exact zP e
 | tbl D=>exact zP (show h.get? a=some _ from x)
 | met f y=>exact zP (show h.get? a=some _ from x)
 | ext φ=>obtain⟨_,⟨_,e⟩,_⟩:=x;exact zP e
theorem Paired.mapP{α β:Type}{F G:α->β->Prop}:∀{c:List α} {e:List β},Paired F c e->(∀a b,F a b->G a b)->Paired G c e
 | _,_,.nil,_=>.nil
 | _,_,.cons r t,f=>.cons (f _ _ r) (Paired.mapP t f)
theorem ObjOk.stay(x:ObjOk P w H h a o)(k:∀b u,(b=a\/H b=some (.own a))->h.get? b=some u->h'.get? b=some u)
  (N:∀b,H b=some (.own a)->g b=some (.own a)) (O:∀b D,H b=some (.tup D)->g b=some (.tup D)):ObjOk P w g h' a o:=by
 induction o with
 | lst D=>obtain⟨z,B,n,r,e⟩:=x;exact⟨z,B,n,r,k _ _ (.inl rfl) e⟩
 | tup D=>obtain⟨z,B,r,⟨l,e,c⟩,T,e2,L⟩:=x;exact⟨z,B,r,⟨l,k _ _ (.inl rfl) e,c⟩,T,k _ _ (.inl rfl) e2,L⟩
 | dK E=>obtain⟨z,y,U,r,l,A,s,e,c⟩:=x;exact⟨z,y,U,r,l,A,s,k _ _ (.inl rfl) e,c⟩
 | dT E=>
  obtain⟨z,y,D,r,l,A,s,e,c⟩:=x;exact⟨z,y,D,Paired.mapP r fun p q z=>⟨z.1,O _ _ z.2.1,z.2.2⟩,l,A,s,k _ _ (.inl rfl) e,c⟩
 | set S n=>obtain⟨l,A,s,t,e,c⟩:=x;exact⟨l,A,s,t,k _ _ (.inl rfl) e,c⟩
 | ins C Y M=>
  obtain⟨d,z,ne,e,G,⟨I,A,s,e2,c⟩,r⟩:=x;exact⟨N _ d,z,ne,k _ _ (.inl rfl) e,G,⟨I,A,s,k _ _ (.inr d) e2,c⟩,r⟩
 | own y=>obtain⟨l,e⟩:=x;exact⟨l,k _ _ (.inl rfl) e⟩
 | xd M=>obtain⟨G,⟨I,A,s,e,c⟩,r⟩:=x;exact⟨G,⟨I,A,s,k _ _ (.inl rfl) e,c⟩,r⟩
 | rng lo hi=>obtain⟨t,u,v,e⟩:=x;exact⟨t,u,v,k _ _ (.inl rfl) e⟩
 | frz l u Q=>obtain⟨e,q⟩:=x;exact⟨k _ _ (.inl rfl) e,Q q⟩
 | tbl J=>
  have e:h.get? a=some { cls:=.none,data:=.fields J }:=x;show h'.get? a=some { cls:=.none,data:=.fields J };exact k a _ (.inl rfl) e
 | met f y=>
  have e:h.get? a=some (PySem.W.methodObj (.ref f) (.ref y)):=x;show h'.get? a=some (PySem.W.methodObj (.ref f) (.ref y));exact k a _ (.inl rfl) e
 | ext φ=>obtain⟨p,⟨o,e⟩,st⟩:=x;exact⟨st _ _ p fun o q=>k _ _ (.inl rfl) q,⟨o,k _ _ (.inl rfl) e⟩,st⟩
theorem HOk.lt(x:HOk P w H h)(e:H a=some o):a<h.objs.size:=(x a o e).lt
theorem HOk.fresh(x:HOk P w H h)(e:h.objs.size<=a):H a=none:=by
 cases q:H a with
 | none=>rfl
 | some u=>exact absurd (jD (x.lt q) e) (wA _)
theorem HOk.kept(x:HOk P w H h)(k:∀b u,h.get? b=some u->h'.get? b=some u):HOk P w H h':=fun a o e=>
 (x a o e).stay (fun b u _ q=>k b u q) (fun _ q=>q) fun _ _ q=>q
theorem HOk.laid(x:HOk P w H h)(k:∀b u,h.get? b=some u->h'.get? b=some u)(hp:h.objs.size<=a)(f:ObjOk P w (upd H a o) h' a o):HOk P w (upd H a o) h':=fun b u e=>by
 have l:=x.fresh hp;by_cases hb:b=a
 ·subst hb;rw[zc] at e;cases e;exact f
 ·rw[zm hb] at e
  exact(x b u e).stay (fun c v _ q=>k c v q) (fun c q=>by rw[zm (zk q l)];exact q) fun c s q=>by rw[zm (zk q l)];exact q
end
def Rd(H:Hp)(a:Addr)(u:HO):Prop:=H a=some u\/∃o,H a=some (.frz o u)
theorem Rd.of{H:Hp}{a:Addr}{u:HO}(h:H a=some u):Rd H a u:=.inl h
theorem Rd.ok{P:Program}{w:World}{H:Hp}{h:Heap}{a:Addr}{u:HO}(r:Rd H a u)(x:HOk P w H h):ObjOk P w H h a u:=by
 rcases r with r | ⟨o,r⟩
 ·exact x a u r
 ·obtain⟨_,q⟩:=x a _ r
  exact q
def Mut:Option HO->Prop
 | some (.lst _)=>True
 | some (.dK _)=>True
 | some (.dT _)=>True
 | some (.set _ _)=>True
 | some (.ins _ _ _)=>True
 | some (.ext _)=>True
 | _=>False
section
variable{P:Program}{w:World}{H:Hp}{h f:Heap}{x e:Addr}{g:HO}
theorem HOk.write(ok:HOk P w H h)(B:Mut (H x))(G:e=x\/H e=some (.own x))(k:∀b u,b≠e->h.get? b=some u->f.get? b=some u)(D:∃u,f.get? e=some u)
  (E:ObjOk P w (upd H x g) f x g):HOk P w (upd H x g) f:=fun b u q=>by
 have s:∀c y,H c=some (.own y)->c≠x:=fun c y r z=>by subst z;rw[r] at B;exact B
 have A:∀c C,H c=some (.tup C)->c≠x:=fun c C r z=>by subst z;rw[r] at B;exact B
 by_cases hb:b=x
 ·subst hb;rw[zc] at q;cases q;exact E
 ·rw[zm hb] at q
  by_cases l:b=e
  ·have I:H b=some (.own x):=by
    rcases G with z | z
    ·exact absurd (l.trans z) hb
    ·rw[l];exact z
   rw[q] at I;cases I
   obtain⟨v,J⟩:=D;exact⟨v,by rw[l];exact J⟩
  ·refine(ok b u q).stay (fun c v hc r=>k c v ?_ r) (fun c r=>by rw[zm (s c b r)];exact r) fun c C r=>by rw[zm (A c C r)];exact r
   rcases hc with rfl | hc
   ·exact l
   ·rintro rfl
    rcases G with z | z
    ·exact s c b hc z
    ·rw[hc] at z;cases z;exact hb rfl
end
structure Un(fs ex:List Addr)(H H':Hp)(h h':Heap):Prop where
 keep:∀b o,h.get? b=some o->H b=none->b∉fs->b∉ex->h'.get? b=some o
 slot:∀b o,h.get? b=some o->H b=none->b∈fs->b∉ex->∃sl,h'.get? b=some { o with slots:=sl }
 free:∀b o,h.get? b=some o->H b=none->b∉ex->H' b=none
 there:∀b o,h.get? b=some o->b∉ex->∃o',h'.get? b=some o'
 tups:∀b xs,H b=some (.tup xs)->H' b=some (.tup xs)
 frzs:∀b o u,H b=some (.frz o u)->H' b=some (.frz o u)
 tbls:∀b ps,H b=some (.tbl ps)->∃more,H' b=some (.tbl (ps++more))
section
variable{g A f w:List Addr}{H s B:Hp}{h l C h':Heap}{a x e:Addr}{o:HO}
theorem Un.any(u:Un g f H s h l){b:Addr}{c:Obj}(q:h.get? b=some c)(n:H b=none)(hx:b∉f):∃D,l.get? b=some { c with slots:=D }:=by
 by_cases hb:b∈g
 ·exact u.slot b c q n hb hx
 ·exact⟨c.slots,u.keep b c q n hb hx⟩
theorem Un.trans(a:Un g f H s h l)(b:Un g f s B l C):Un g f H B h C where
 keep:=fun c D q n hc hx=>b.keep c D (a.keep c D q n hc hx) (a.free c D q n hx) hc hx
 slot:=fun c D q n hc hx=>by
  obtain⟨N,e1⟩:=a.slot c D q n hc hx;obtain⟨I,e2⟩:=b.slot c _ e1 (a.free c D q n hx) hc hx;exact⟨I,e2⟩
 free:=fun c D q n hx=>by
  obtain⟨G,e1⟩:=a.there c D q hx;exact b.free c G e1 (a.free c D q n hx) hx
 there:=fun c D q hx=>by
  obtain⟨G,e1⟩:=a.there c D q hx;exact b.there c G e1 hx
 tups:=fun c E q=>b.tups c E (a.tups c E q)
 frzs:=fun c D E q=>b.frzs c D E (a.frzs c D E q)
 tbls:=fun c M q=>by
  obtain⟨J,e1⟩:=a.tbls c M q;obtain⟨L,e2⟩:=b.tbls c _ e1;exact⟨J++L,by rw[e2,Array.append_assoc]⟩
theorem Un.kept(k:∀b u,h.get? b=some u->h'.get? b=some u):Un g f H H h h':=
 ⟨fun b c q _ _ _=>k b c q,fun b c q _ _ _=>⟨c.slots,k b c q⟩,fun _ _ _ n _=>n,fun b c q _=>⟨c,k b c q⟩,fun _ _ q=>q,fun _ _ _ q=>q,fun _ D q=>⟨#[],by rw[q];simp⟩⟩
theorem Un.refl:Un g f H H h h:=Un.kept fun _ _ q=>q
theorem Un.laid(k:∀b u,h.get? b=some u->h'.get? b=some u)(hp:h.objs.size<=a)(c:H a=none):Un g f H (upd H a o) h h' where
 keep:=fun b u q _ _ _=>k b u q
 slot:=fun b u q _ _ _=>⟨u.slots,k b u q⟩
 free:=fun b u q n _=>by rw[zm (qw (jD (zP q) hp))];exact n
 there:=fun b u q _=>⟨u,k b u q⟩
 tups:=fun b D q=>by rw[zm (zk q c)];exact q
 frzs:=fun b u D q=>by rw[zm (zk q c)];exact q
 tbls:=fun b E q=>⟨#[],by rw[zm (zk q c),q];simp⟩
theorem Un.write(D:Mut (H x))(I:e=x\/H e=some (.own x))(k:∀b u,b≠e->h.get? b=some u->h'.get? b=some u)(E:∃u,h'.get? e=some u):Un g f H (upd H x o) h h':=by
 have hx:∀b,H b=none->b≠x:=fun b n z=>by subst z;rw[n] at D;exact D
 have hb:∀b,H b=none->b≠e:=fun b n z=>by
  subst z;rcases I with r | r
  ·exact hx b n r
  ·rw[n] at r;cases r
 have G:∀b u,H b=some u->¬Mut (some u)->b≠x:=fun b u q J z=>by subst z;rw[q] at D;exact J D
 refine⟨fun b u q n _ _=>k b u (hb b n) q,fun b u q n _ _=>⟨u.slots,k b u (hb b n) q⟩,fun b u q n _=>by rw[zm (hx b n)];exact n,fun b u q _=>?_,
  fun b L q=>by rw[zm (G b _ q fun z=>z)];exact q,fun b u L q=>by rw[zm (G b _ q fun z=>z)];exact q,fun b M q=>⟨#[],by rw[zm (G b _ q fun z=>z),q];simp⟩⟩
 by_cases c:b=e
 ·subst c;exact E
 ·exact⟨u,k b u c q⟩
theorem Un.mono(u:Un g f H s h l)(E:∀b∈g,b∈A)(hx:∀b∈f,b∈w):Un A w H s h l:=
 ⟨fun b D q n hb c=>u.keep b D q n (fun z=>hb (E b z)) fun z=>c (hx b z),fun _ _ q n _ c=>u.any q n fun z=>c (hx _ z),fun b D q n c=>u.free b D q n fun z=>c (hx b z),fun b D q c=>u.there b D q fun z=>c (hx b z),u.tups,u.frzs,u.tbls⟩
end
def trk(h:Heap)(H:Hp):List Addr:=(List.range h.objs.size).filter fun a=>(H a).isSome
def JQ(h:Heap)(H:Hp):Heap:=PySem.W.hideAll h (trk h H)
theorem zaJ(h:Heap)(H:Hp):(JQ h H).objs.size=h.objs.size:=PySem.W.hideAll_size _ _
theorem zcD{h:Heap}{H:Hp}{b:Addr}{o:Obj}(e:h.get? b=some o)(n:H b=none):(JQ h H).get? b=some o:=
 PySem.W.hideAll_get _ e fun c=>by
  have q:(H b).isSome=true:=(xx.mp c).2;rw[n] at q;simp at q
theorem zdN{h:Heap}{H:Hp}{b:Addr}{o:Obj}(e:(JQ h H).get? b=some o):h.get? b=some o/\H b=none:=by
 have c:h.get? b=some o:=PySem.W.of_hideAll (trk h H) e;refine⟨c,?_⟩
 cases q:H b with
 | none=>rfl
 | some x=>
  have f:b∈trk h H:=xx.mpr ⟨xD.mpr (zP c),by simp[q]⟩
  have z:(JQ h H).get? b=none:=PySem.W.hideAll_none (trk h H) f;rw[z] at e;cases e
def zea(g h:Heap)(L:Addr):List (Addr×Obj):=(List.range h.objs.size).filterMap fun a=>if a=L\/(g.get? a).isSome=true then none else(h.get? a).map fun o=>(a,o)
def rest(g h:Heap)(L d:Addr):List (Addr×Obj):=(zea g h L).filter fun p=>decide (p.1≠d)
structure Mod(K:W.Frag)(mg:Str->Option Value)(base:Heap):Prop where
 kin:K.In base
 glob:base.Ns mainGlobals mg
 blt:∃mb,base.Ns builtinsNs mb/\∀x:Str,x ≠ "__name__" -> mb x=bootBuiltins x
 nolimit:base.NoLimit
structure Cx where
 prog:Program
 w:World
 K:PySem.W.Frag
 mg:Str->Option Value
 base:Heap
 A:Around
 N:List Str
 s₀:Shared
 H₀:Hp
 env:Env
 outer:List Env
 stack:List Env
 ex:List Addr
 fn:Str->Bool
 calm:Bool
 pn:List (Addr×Obj)
 xe:Value->Shared->Prop
def frs(l:List Env):List Addr:=l.filterMap (·.frame)
abbrev Cx.fs(X:Cx):List Addr:=frs X.outer
def Vis(c:Scope)(x:Str):Prop:=c.names.lookup x=some .local\/c.names.lookup x=some .cell\/c.names.lookup x=some .free
def Loc(c:Scope)(x:Str):Prop:=c.names.lookup x=some .local\/c.names.lookup x=some .cell
def zhN(e:Env)(h:Heap)(m:Str->Option Value)(x:Str)(u:Value):Prop:=
 (e.kindOf x=some .local/\m x=some u)\/((e.kindOf x=some .cell\/e.kindOf x=some .free)/\∃c,e.cells.lookup x=some c/\h.IsCell c (some u))
structure Cx.Ok(X:Cx):Prop where
 mod:Mod X.K X.mg X.base
 kind:X.env.scope.kind=.function
 glob:X.env.globals=mainGlobals
 blt:X.env.builtins=builtinsNs
 above:X.s₀.heap.objs.size<=X.env.locals
 inj:∀x y c,X.env.cells.lookup x=some c->X.env.cells.lookup y=some c->x=y
 has:∀x,(X.env.kindOf x=some .cell\/X.env.kindOf x=some .free)->∃c,X.env.cells.lookup x=some c
 cab:∀x c,X.fn x=true->X.env.cells.lookup x=some c->X.s₀.heap.objs.size<=c
 hd:X.calm=true->X.A.handled=none
 frames:X.A.frames=some X.stack
 stk:X.stack=X.outer\/(X.stack=X.env::X.outer/\X.env.frame=some X.env.locals)
 exf:∀b∈X.ex,b≠X.env.locals/\∀x c,X.env.cells.lookup x=some c->c≠b
 bs:∀b o,X.base.get? b=some o->X.s₀.heap.get? b=some o/\X.H₀ b=none
 bsz:X.base.objs.size<=X.s₀.heap.objs.size
 noex:∀b o,X.base.get? b=some o->b∉X.ex
 exfs:∀b∈X.ex,b∉X.fs
 funs:X.s₀.heap.FunFrames X.base X.outer
 frf:∀b∈X.fs,X.H₀ b=none
structure Inv(X:Cx)(pins:List (Addr×Obj))(σ:List (Option V))(H:Hp)(s:Shared):Prop where
 ok:X.Ok
 os:s.os=X.s₀.os
 bare:AllBare s.gens
 base:Un X.fs X.ex X.H₀ H X.s₀.heap s.heap
 loc:∃m,s.heap.Ns X.env.locals m/\∀(i:Nat) (x:Str) (v:V),X.N[i]? =some x->σ[i]? =some (some v)->Vis X.env.scope x->∃u,RelV v u/\zhN X.env s.heap m x u
 cell:∀x c,X.env.cells.lookup x=some c->∃v,s.heap.IsCell c v
 free:H X.env.locals=none
 freeC:∀x c,X.env.cells.lookup x=some c->H c=none
 pin:∀p∈X.pn++pins,s.heap.get? p.1=some p.2/\H p.1=none/\p.1≠X.env.locals/\p.1∉X.fs/\∀v,p.2.data≠.cell v
 hok:HOk X.prog X.w H s.heap
 len:σ.length=X.N.length
section
variable{X:Cx}{f:List (Addr×Obj)}{σ:List (Option V)}{H g:Hp}{s:Shared}{h':Heap}
theorem Cx.Ok.nofr(ok:X.Ok){b:Addr}{o:Obj}(e:X.base.get? b=some o):b∉X.fs:=fun hb=>by
 have:=(ok.funs.mem hb).1;rw[e] at this;cases this
theorem Inv.bs(I:Inv X f σ H s):∀b o,X.base.get? b=some o->s.heap.get? b=some o/\H b=none:=fun b o e=>
 ⟨I.base.keep b o (I.ok.bs b o e).1 (I.ok.bs b o e).2 (I.ok.nofr e) (I.ok.noex b o e),I.base.free b o (I.ok.bs b o e).1 (I.ok.bs b o e).2 (I.ok.noex b o e)⟩
theorem Inv.bk(I:Inv X f σ H s):∀b o,X.base.get? b=some o->s.heap.get? b=some o:=fun b o e=>(I.bs b o e).1
theorem Inv.mod(I:Inv X f σ H s):Mod X.K X.mg X.base:=I.ok.mod
theorem Inv.kIn(I:Inv X f σ H s):X.K.In s.heap:=I.ok.mod.kin.keeps I.bk
theorem Inv.nolimit(I:Inv X f σ H s):s.heap.NoLimit:=I.ok.mod.nolimit.keeps I.bk
theorem Inv.fr(I:Inv X f σ H s):∃m,Fr X.base X.env.locals s.heap m:=
 let ⟨m,c,_⟩:=I.loc
 ⟨m,c,I.bk,jx I.ok.bsz I.ok.above⟩
theorem Inv.lt(I:Inv X f σ H s):X.env.locals<s.heap.objs.size:=let ⟨_,c,_⟩:=I.loc;c.lt
theorem Inv.sz(I:Inv X f σ H s):X.s₀.heap.objs.size<=s.heap.objs.size:=jx I.ok.above (yP I.lt)
theorem Inv.nofs(I:Inv X f σ H s){a:Addr}(h:s.heap.objs.size<=a):a∉X.fs:=fun hb=>by
 obtain⟨_,o,c,_⟩:=I.ok.funs.mem hb;exact absurd (jD (zP c) (jx I.sz h)) (wA _)
theorem Inv.cne(I:Inv X f σ H s):∀x c,X.env.cells.lookup x=some c->c≠X.env.locals:=fun x c e z=>by
 obtain⟨v,o,B,A⟩:=I.cell x c e;obtain⟨m,⟨E,D,C,w,l,_⟩,_⟩:=I.loc;rw[z,w] at B;cases B;rw[l] at A;cases A
theorem Inv.funs(I:Inv X f σ H s):s.heap.FunFrames X.base X.outer:=by
 have all:∀(l:List Env),(∀b∈frs l,b∈X.fs)->X.s₀.heap.FunFrames X.base l->s.heap.FunFrames X.base l:=by
  intro l;induction l with
  | nil=>intro _ _;trivial
  | cons B r M=>
   intro A D;obtain⟨hk,⟨L,o,w,E,G,C⟩,J⟩:=D;have c:L∈X.fs:=A L (by unfold frs;rw[Xj,w];exact jz)
   obtain⟨N,e⟩:=I.base.slot L o G (I.ok.frf L c) c fun z=>I.ok.exfs L z c
   exact⟨hk,⟨L,_,w,E,e,C⟩,M (fun b hb=>A b (by unfold frs;rw[Xj,w];exact jn _ hb)) J⟩
 exact all X.outer (fun _ hb=>hb) I.ok.funs
theorem Inv.stack(I:Inv X f σ H s):s.heap.FunFrames X.base X.stack:=by
 rcases I.ok.stk with e | ⟨e,c⟩
 ·rw[e];exact I.funs
 ·rw[e]
  obtain⟨m,l,_⟩:=I.loc;refine .cons (by rw[I.ok.kind];decide) c l ?_ I.funs
  exact Heap.get?_none_of_le (jx I.ok.bsz I.ok.above)
theorem Inv.stkSub(I:Inv X f σ H s):∀b∈frs X.stack,b∈X.env.locals::X.fs:=fun b hb=>by
 rcases I.ok.stk with e | ⟨e,c⟩
 ·rw[e] at hb;exact jn _ hb
 ·rw[e] at hb
  unfold frs at hb;rw[Xj,c] at hb;exact hb
theorem Inv.stkFree(I:Inv X f σ H s):∀b∈frs X.stack,H b=none:=fun b hb=>by
 rcases qm.mp (I.stkSub b hb) with e | hb
 ·rw[e];exact I.free
 ·obtain⟨_,o,c,_⟩:=I.ok.funs.mem hb
  exact I.base.free b o c (I.ok.frf b hb) fun z=>I.ok.exfs b z hb
theorem Inv.step{g':Array GenState}{t':Nat}{d':Drawn}{ch:List Addr}(I:Inv X f σ H s)
  (B:∀b∈ch,(b∈X.ex\/X.s₀.heap.objs.size<=b)/\b≠X.env.locals/\(∀x c,X.env.cells.lookup x=some c->c≠b)/\∀p∈X.pn++f,p.1≠b)
  (C:∀b o,b≠X.env.locals->b∉X.fs->b∉ch->s.heap.get? b=some o->H b=none->h'.get? b=some o)
  (G:∀b o,b≠X.env.locals->b∈X.fs->b∉ch->s.heap.get? b=some o->H b=none->∃sl,h'.get? b=some { o with slots:=sl }) (w:∀b o,b∉ch->s.heap.get? b=some o->H b=none->g b=none)
  (L:∀b o,b∉ch->s.heap.get? b=some o->∃Q,h'.get? b=some Q)
  (U:∀b J,H b=some (.tup J)->g b=some (.tup J)) (N:∀b o u,H b=some (.frz o u)->g b=some (.frz o u)) (T:∀b Y,H b=some (.tbl Y)->∃more,g b=some (.tbl (Y++more)))
  (ns:∀m,s.heap.Ns X.env.locals m->h'.Ns X.env.locals m) (a0:HOk X.prog X.w g h') (hg:AllBare g') :
  Inv X f σ g { s with heap:=h',gens:=g',drawn:=d',toks:=t' }:=by
 have O:∀b o,X.s₀.heap.get? b=some o->b≠X.env.locals:=fun b o e=>qw (jD (zP e) I.ok.above)
 have E:∀b o,X.s₀.heap.get? b=some o->b∉X.ex->b∉ch:=fun b o e hx hb=>by
  rcases(B b hb).1 with z | z
  ·exact hx z
  ·exact absurd (jD (zP e) z) (wA _)
 have A:∀x c,X.env.cells.lookup x=some c->∀v,s.heap.IsCell c v->h'.IsCell c v:=fun x c e v ⟨o,M,hd⟩=>by
  have D:c∉ch:=fun z=>(B c z).2.2.1 x c e rfl
  by_cases hc:c∈X.fs
  ·obtain⟨sl,q⟩:=G c o (I.cne x c e) hc D M (I.freeC x c e)
   exact⟨_,q,hd⟩
  ·exact⟨o,C c o (I.cne x c e) hc D M (I.freeC x c e),hd⟩
 refine⟨I.ok,I.os,hg,⟨fun b o e n hb hx=>?_,fun b o e n hb hx=>?_,fun b o e n hx=>?_,fun b o e hx=>?_,fun b J e=>U b J (I.base.tups b J e),fun b o J e=>N b o J (I.base.frzs b o J e),fun b Y e=>?_⟩,?_,fun x c e=>?_,?_,fun x c e=>?_,fun p hp=>?_,a0,I.len⟩
 ·exact C b o (O b o e) hb (E b o e hx) (I.base.keep b o e n hb hx) (I.base.free b o e n hx)
 ·obtain⟨sl,e1⟩:=I.base.slot b o e n hb hx
  obtain⟨aa,e2⟩:=G b _ (O b o e) hb (E b o e hx) e1 (I.base.free b o e n hx);exact⟨aa,e2⟩
 ·obtain⟨Q,e1⟩:=I.base.there b o e hx
  exact w b Q (E b o e hx) e1 (I.base.free b o e n hx)
 ·obtain⟨Q,e1⟩:=I.base.there b o e hx
  exact L b Q (E b o e hx) e1
 ·obtain⟨m1,e1⟩:=I.base.tbls b Y e
  obtain⟨m2,e2⟩:=T b _ e1;exact⟨m1++m2,by rw[e2,Array.append_assoc]⟩
 ·obtain⟨m,hn,hl⟩:=I.loc
  refine⟨m,ns m hn,fun i x v e1 e2 e3=>?_⟩
  obtain⟨u,r,l⟩:=hl i x v e1 e2 e3;refine⟨u,r,?_⟩
  rcases l with l | ⟨k,c,e,z⟩
  ·exact .inl l
  ·exact .inr ⟨k,c,e,A x c e _ z⟩
 ·obtain⟨v,z⟩:=I.cell x c e
  exact⟨v,A x c e v z⟩
 ·obtain⟨m,⟨o,_,_,M,_⟩,_⟩:=I.loc
  exact w _ o (fun z=>(B _ z).2.1 rfl) M I.free
 ·obtain⟨v,o,M,hd⟩:=I.cell x c e
  exact w c o (fun z=>(B c z).2.2.1 x c e rfl) M (I.freeC x c e)
 ·obtain⟨e,n,ne,nf,d⟩:=I.pin p hp
  have D:p.1∉ch:=fun z=>(B p.1 z).2.2.2 p hp rfl
  exact⟨C p.1 p.2 ne nf D e n,w p.1 p.2 D e n,ne,nf,d⟩
theorem Inv.un{t':Nat}(I:Inv X f σ H s)(u:Un X.fs [] H g s.heap h')(A:HOk X.prog X.w g h'):Inv X f σ g { s with heap:=h',toks:=t' }:=by
 obtain⟨m,⟨o,M,L,B,r⟩,_⟩:=id I.loc;obtain⟨T,C⟩:=u.any B I.free (by simp)
 exact I.step (g':=s.gens) (d':=s.drawn) (ch:=[]) (fun _ z=>nomatch z) (fun b o _ hb _ e n=>u.keep b o e n hb (by simp)) (fun b o _ hb _ e n=>u.slot b o e n hb (by simp)) (fun b o _ e n=>u.free b o e n (by simp)) (fun b o _ e=>u.there b o e (by simp)) u.tups u.frzs u.tbls (fun O D=>by
  obtain⟨Q,w,l,c,E⟩:=D;rw[B] at c;cases c
  exact⟨_,w,l,C,E⟩) A I.bare
theorem Inv.call{g':Array GenState}{t':Nat}{d':Drawn}{ch:List Addr}(I:Inv X f σ H s)(u:Un (frs X.stack) ch H g s.heap h')(D:HOk X.prog X.w g h')(G:AllBare g')
  (l:∀b∈ch,(b∈X.ex\/X.s₀.heap.objs.size<=b)/\b≠X.env.locals/\(∀x c,X.env.cells.lookup x=some c->c≠b)/\∀p∈X.pn++f,p.1≠b) :
  Inv X f σ g { s with heap:=h',gens:=g',drawn:=d',toks:=t' }:=by
 obtain⟨m,⟨o,N,M,E,r⟩,_⟩:=id I.loc;obtain⟨T,C⟩:=u.any E I.free fun z=>(l _ z).2.1 rfl
 exact I.step (ch:=ch) l (fun b o C hb hc e n=>u.keep b o e n (fun z=>(qm.mp (I.stkSub b z)).elim C hb) hc) (fun b o _ _ hc e n=>u.any e n hc) (fun b o hc e n=>u.free b o e n hc) (fun b o hc e=>u.there b o e hc) u.tups u.frzs u.tbls (fun O J=>by
  obtain⟨Q,B,A,w,L⟩:=J;rw[E] at w;cases w
  exact⟨_,B,A,C,L⟩) D G
theorem Inv.turned{t':Nat}{it:Addr}(I:Inv X f σ H s)(k:∀b o,b≠it->s.heap.get? b=some o->h'.get? b=some o)(J:H it=none)(w:it≠X.env.locals)
  (C:it∈X.ex\/X.s₀.heap.objs.size<=it) (D:∀x c,X.env.cells.lookup x=some c->c≠it) (E:∀p∈X.pn++f,p.1≠it):Inv X f σ H { s with heap:=h',toks:=t' }:=by
 have l:∀b u,H b=some u->b≠it:=fun b u e z=>by rw[z,J] at e;cases e
 refine I.step (g':=s.gens) (d':=s.drawn) (ch:=[it]) (fun b hb=>?_) (fun b o _ _ hc e _=>k b o (fun z=>hc (by simp[z])) e) (fun b o _ _ hc e _=>⟨o.slots,k b o (fun z=>hc (by simp[z])) e⟩) (fun _ _ _ _ n=>n)
  (fun b o hc e=>⟨o,k b o (fun z=>hc (by simp[z])) e⟩) (fun _ _ e=>e) (fun _ _ _ e=>e) (fun b Q e=>⟨#[],by rw[e];simp⟩) (fun m G=>?_) (fun b u e=>?_) I.bare
 ·have e:b=it:=by simpa using hb
  subst e;exact⟨C,w,D,E⟩
 ·obtain⟨o,B,A,L,r⟩:=G
  exact⟨o,B,A,k _ o (qu w) L,r⟩
 ·refine(I.hok b u e).stay (fun c v hc q=>k c v ?_ q) (fun _ q=>q) fun _ _ q=>q
  rcases hc with z | z
  ·rw[z];exact l b u e
  ·exact l c _ z
theorem Inv.tok(I:Inv X f σ H s)(t:Nat):Inv X f σ H { s with toks:=t }:=I.un (h':=s.heap) (t':=t) Un.refl I.hok
theorem Inv.kept{t':Nat}(I:Inv X f σ H s)(k:∀b u,s.heap.get? b=some u->h'.get? b=some u):Inv X f σ H { s with heap:=h',toks:=t' }:=I.un (Un.kept k) (I.hok.kept k)
theorem Inv.laid{a:Addr}{o:HO}{t':Nat}(I:Inv X f σ H s)(k:∀b u,s.heap.get? b=some u->h'.get? b=some u)(hp:s.heap.objs.size<=a)(c:ObjOk X.prog X.w (upd H a o) h' a o) :
  Inv X f σ (upd H a o) { s with heap:=h',toks:=t' }:=I.un (Un.laid k hp (I.hok.fresh hp)) (I.hok.laid k hp c)
theorem Inv.write{x e:Addr}{o:HO}{B:Nat}(I:Inv X f σ H s)(A:Mut (H x))(w:e=x\/H e=some (.own x))(k:∀b u,b≠e->s.heap.get? b=some u->h'.get? b=some u)(c:∃u,h'.get? e=some u)
  (l:ObjOk X.prog X.w (upd H x o) h' x o):Inv X f σ (upd H x o) { s with heap:=h',toks:=B }:=I.un (Un.write A w k c) (I.hok.write A w k c l)
theorem Inv.weak{e:List (Option V)}(I:Inv X f σ H s)(A:e.length=σ.length)(w:∀(i:Nat) v,e[i]? =some (some v)->σ[i]? =some (some v)):Inv X f e H s:=
 ⟨I.ok,I.os,I.bare,I.base,let ⟨m,B,c⟩:=I.loc;⟨m,B,fun i x v e1 e2 l=>c i x v e1 (w i v e2) l⟩,I.cell,I.free,I.freeC,I.pin,I.hok,A.trans I.len⟩
theorem Inv.pins_of{c:List (Addr×Obj)}(I:Inv X f σ H s)(h:∀p∈c,s.heap.get? p.1=some p.2/\H p.1=none/\p.1≠X.env.locals/\p.1∉X.fs/\∀v,p.2.data≠.cell v):Inv X c σ H s:=
 ⟨I.ok,I.os,I.bare,I.base,I.loc,I.cell,I.free,I.freeC,fun p hp=>(qo.mp hp).elim (fun z=>I.pin p (jA _ z)) (h p),I.hok,I.len⟩
theorem X2{N:List Str}(c:N.Nodup){i j:Nat}{x:Str}(a:N[i]? =some x)(b:N[j]? =some x):i=j:=by
 obtain⟨e,e1⟩:=zK.mp a;obtain⟨l,e2⟩:=zK.mp b;exact(Ql c).mp (e1.trans e2.symm)
theorem zao{M:Model}{A:Around}{E:Value->Shared->Prop}{i:Nat}{x:Str}{v:V}{u:Value}{Q:Unit->Shared->Prop}(I:Inv X f σ H s)(hN:X.N.Nodup)(O:X.N[i]? =some x)(hx:Loc X.env.scope x)(r:RelV v u)
  (h:∀s',Inv X f (σ.set i (some v)) H s'->(∃a,Heap.SameBut a s.heap s'.heap/\(a=X.env.locals\/X.env.cells.lookup x=some a))->Q () s') (hf:X.fn x=true\/X.env.scope.names.lookup x=some .local:=by first| exact .inl rfl | exact .inr rfl | assumption):wpAny M A (storeName X.env x u) Q E s:=by
 obtain⟨m,hn,hl⟩:=id I.loc;have N:(X.env.scope.kind==.class||(X.env.scope.kind==.module&&X.env.locals != X.env.globals))=false:=by rw[I.ok.kind];rfl
 have T:i<σ.length:=by rw[I.len];exact(zK.mp O).1
 have C:=I.cne;have w:∀{a:Addr} {h':Heap},(∃o,s.heap.get? a=some o/\H a=none)->Heap.SameBut a s.heap h'->HOk X.prog X.w H h':=fun {a h'} ha l b ob e=>by
  obtain⟨_,_,B⟩:=ha;refine(I.hok b ob e).stay (fun c w' hc q=>(l.2 c ?_).trans q) (fun _ q=>q) fun _ _ q=>q
  rintro rfl;rcases hc with rfl | hc
  ·rw[B] at e;cases e
  ·rw[B] at hc;cases hc
 rcases hx with hk | hk
 ·refine wpAny_storeName_local hk hn (fun h' a0 l=>?_) N
  obtain⟨oL,_,_,aa,_⟩:=id hn;refine h _ ⟨I.ok,I.os,I.bare,⟨fun b o e n hb hx=>?_,fun b o e n hb hx=>?_,I.base.free,fun b o e hx=>?_,I.base.tups,I.base.frzs,I.base.tbls⟩,⟨_,a0,fun j y v' e1 e2 e3=>?_⟩,fun y c e=>?_,I.free,I.freeC,fun p hp=>?_,w ⟨oL,aa,I.free⟩ l,by simpa using I.len⟩ ⟨_,l,.inl rfl⟩
  ·exact(l.2 b (qw (jD (zP e) I.ok.above))).trans (I.base.keep b o e n hb hx)
  ·obtain⟨sl,e1⟩:=I.base.slot b o e n hb hx
   exact⟨sl,(l.2 b (qw (jD (zP e) I.ok.above))).trans e1⟩
  ·obtain⟨o',e1⟩:=I.base.there b o e hx
   exact⟨o',(l.2 b (qw (jD (zP e) I.ok.above))).trans e1⟩
  ·by_cases G:j=i
   ·subst G
    rw[O] at e1;cases e1
    rw[Xo T] at e2;cases e2;exact⟨u,r,.inl ⟨hk,by simp⟩⟩
   ·rw[Xl (qu G)] at e2
    obtain⟨u',r',q⟩:=hl j y v' e1 e2 e3;refine⟨u',r',?_⟩
    rcases q with ⟨k,e⟩ | ⟨k,c,e,z⟩
    ·refine .inl ⟨k,?_⟩
     have:y≠x:=fun e=>G (X2 hN e1 (e▸O))
     simp[this,e]
    ·exact .inr ⟨k,c,e,z.sameBut l (C y c e)⟩
  ·obtain⟨w',z⟩:=I.cell y c e
   exact⟨w',z.sameBut l (C y c e)⟩
  ·obtain⟨e,n,ne,nf,d⟩:=I.pin p hp
   exact⟨(l.2 p.1 ne).trans e,n,ne,nf,d⟩
 ·have D:X.fn x=true:=by
   rcases hf with z | z
   ·exact z
   ·rw[z] at hk;cases hk
  obtain⟨c,hc⟩:=I.ok.has x (.inl hk);obtain⟨w',z⟩:=I.cell x c hc;refine wpAny_storeName_cell I.ok.kind hk hc z (fun h' J l=>?_)
  obtain⟨oc,U,Y⟩:=id z;refine h { s with heap:=h' } ⟨I.ok,I.os,I.bare,⟨fun b o e n hb hx=>?_,fun b o e n hb hx=>?_,I.base.free,fun b o e hx=>?_,I.base.tups,I.base.frzs,I.base.tbls⟩,⟨m,hn.sameBut l (qu (C x c hc)),fun j y v' e1 e2 e3=>?_⟩,fun y c' e=>?_,I.free,I.freeC,fun p hp=>?_,w ⟨oc,U,I.freeC x c hc⟩ l,by simpa using I.len⟩ ⟨c,l,.inr hc⟩
  ·exact(l.2 b (qw (jD (zP e) (I.ok.cab x c D hc)))).trans (I.base.keep b o e n hb hx)
  ·obtain⟨sl,e1⟩:=I.base.slot b o e n hb hx
   exact⟨sl,(l.2 b (qw (jD (zP e) (I.ok.cab x c D hc)))).trans e1⟩
  ·obtain⟨o',e1⟩:=I.base.there b o e hx
   exact⟨o',(l.2 b (qw (jD (zP e) (I.ok.cab x c D hc)))).trans e1⟩
  ·by_cases G:j=i
   ·subst G
    rw[O] at e1;cases e1
    rw[Xo T] at e2;cases e2;exact⟨u,r,.inr ⟨.inl hk,c,hc,J⟩⟩
   ·rw[Xl (qu G)] at e2
    obtain⟨u',r',q⟩:=hl j y v' e1 e2 e3;refine⟨u',r',?_⟩
    rcases q with q | ⟨k,c',e,z'⟩
    ·exact .inl q
    ·refine .inr ⟨k,c',e,z'.sameBut l ?_⟩
     rintro rfl;exact G (X2 hN e1 (I.ok.inj _ _ _ e hc▸O))
  ·by_cases L:c'=c
   ·subst L;exact⟨_,J⟩
   ·obtain⟨w2,z2⟩:=I.cell y c' e
    exact⟨w2,z2.sameBut l L⟩
  ·obtain⟨e,n,ne,nf,d⟩:=I.pin p hp
   refine⟨(l.2 p.1 ?_).trans e,n,ne,nf,d⟩
   intro q;rw[q,U] at e;have q':oc=p.2:=jm e;exact d w' (by rw[<- q'];exact Y)
theorem wW{M:Model}{A:Around}{E:Value->Shared->Prop}{i:Nat}{x:Str}{v:V}{u:Value}{Q:Unit->Shared->Prop}(I:Inv X f σ H s)(l:X.N.Nodup)(B:X.N[i]? =some x)(hx:Loc X.env.scope x)(r:RelV v u)
  (h:∀c,Inv X f (σ.set i (some v)) H c->Q () c) (w:X.fn x=true\/X.env.scope.names.lookup x=some .local:=by first| exact .inl rfl | exact .inr rfl | assumption):wpAny M A (storeName X.env x u) Q E s:=
 zao I l B hx r (fun c e _=>h c e) w
theorem Inv.call'{s':Shared}{ch:List Addr}(I:Inv X f σ H s)(E:s'.os=s.os)(u:Un (frs X.stack) ch H g s.heap s'.heap)(w:HOk X.prog X.w g s'.heap)(D:AllBare s'.gens)
  (l:∀b∈ch,(b∈X.ex\/X.s₀.heap.objs.size<=b)/\b≠X.env.locals/\(∀x c,X.env.cells.lookup x=some c->c≠b)/\∀p∈X.pn++f,p.1≠b):Inv X f σ g s':=by
 obtain⟨h',B,A,C,G⟩:=s';have e:G=s.os:=E;subst e;exact I.call (g':=B) (t':=C) (d':=A) u w D l
end
abbrev XK:=Value->Option Addr->Hp->Prop
abbrev St:=List (Option V)
abbrev VK:=V->Hp->Prop
abbrev TE:=St->Hp->VK->Prop
abbrev TT:=St->Hp->(Bool->Hp->Prop)->Prop
abbrev TA:=St->Hp->(List V->Hp->Prop)->Prop
structure QI where
 nx:St->Hp->Prop
 rt:VK
 bk:St->Hp->Prop:=fun _ _=>False
 ct:St->Hp->Prop:=fun _ _=>False
abbrev TS:=QI->St->Hp->Prop
def EP(X:Cx)(c:List (Addr×Obj))(σ:St)(Q:VK)(u:Value)(f:Shared):Prop:=∃v e,Inv X c σ e f/\RelV v u/\Q v e
def TP(X:Cx)(c:List (Addr×Obj))(σ:St)(Q:Bool->Hp->Prop)(b:Bool)(f:Shared):Prop:=∃e,Inv X c σ e f/\Q b e
def AP(X:Cx)(c:List (Addr×Obj))(σ:St)(Q:List V->Hp->Prop)(l:List Value)(g:Shared):Prop:=∃f e,Inv X c σ e g/\Vals f l/\Q f e
def SP(X:Cx)(c:List (Addr×Obj))(D:QI)(f:Flow)(l:Shared):Prop:=
 match f with
 | .next=>∃g e,Inv X c g e l/\D.nx g e
 | .brk=>∃g e,Inv X c g e l/\D.bk g e
 | .cont=>∃g e,Inv X c g e l/\D.ct g e
 | .ret u=>∃v g e,Inv X c g e l/\RelV v u/\D.rt v e
def PE(X:Cx)(e:Expr)(t:TE):Prop:=
 ∀(c:List (Addr×Obj)) (s:Shared) (σ:St) (H:Hp) (Q:VK),Inv X c σ H s->t σ H Q->wpAny (model X.prog X.w) X.A (eval e X.env) (EP X c σ Q) X.xe s
def PT(X:Cx)(e:Expr)(t:TT):Prop:=
 ∀(c:List (Addr×Obj)) (s:Shared) (σ:St) (H:Hp) (Q:Bool->Hp->Prop),Inv X c σ H s->t σ H Q->wpAny (model X.prog X.w) X.A (isTrue e X.env (eval e X.env)) (TP X c σ Q) X.xe s
def PW(X:Cx)(e:Expr)(t:TT):Prop:=
 ∀(f:Sem Value) (c:List (Addr×Obj)) (s:Shared) (σ:St) (H:Hp) (Q:Bool->Hp->Prop),Inv X c σ H s->t σ H Q->wpAny (model X.prog X.w) X.A (isTrue e X.env f) (TP X c σ Q) X.xe s
theorem PW.pt{X:Cx}{e:Expr}{t:TT}(h:PW X e t):PT X e t:=h _
def PA(X:Cx)(f:List Expr)(t:TA):Prop:=
 ∀(e:Pos) (c:List (Addr×Obj)) (s:Shared) (σ:St) (H:Hp) (Q:List V->Hp->Prop),Inv X c σ H s->t σ H Q->wpAny (model X.prog X.w) X.A (spliced (backTo e (starEach f X.env))) (AP X c σ Q) X.xe s
def PS(X:Cx)(st:Stmt)(t:TS):Prop:=
 ∀(c:List (Addr×Obj)) (s:Shared) (σ:St) (H:Hp) (D:QI),Inv X c σ H s->t D σ H->wpAny (model X.prog X.w) X.A (exec st X.env) (SP X c D) X.xe s
def PSs(X:Cx)(st:List Stmt)(t:TS):Prop:=
 ∀(c:List (Addr×Obj)) (s:Shared) (σ:St) (H:Hp) (D:QI),Inv X c σ H s->t D σ H->wpAny (model X.prog X.w) X.A (execs st X.env) (SP X c D) X.xe s
theorem thn{α:Type}{t:Sem α}{Q c:α->Shared->Prop}{M:Model}{A:Around}{E:Value->Shared->Prop}{s:Shared}(h:wpAny M A t Q E s)(e:∀a s,Q a s->c a s):wpAny M A t c E s:=qg h e fun _ _ x=>x
section
variable{X:Cx}
inductive IsB(x:V)(H:Hp)(Q:Bool->Hp->Prop):Prop
 | mk (c:Bool) (h:x=.bl c) (q:Q c H):IsB x H Q
inductive IsI(x:V)(H:Hp)(Q:Int->Hp->Prop):Prop
 | mk (i:Int) (h:x=.int i) (q:Q i H):IsI x H Q
inductive zhn(c:List V)(H:Hp)(Q:V->V->Hp->Prop):Prop
 | mk (v w:V) (h:c=[v,w]) (q:Q v w H):zhn c H Q
inductive zeU(i:Nat)(σ:St)(H:Hp)(Q:VK):Prop
 | mk (v:_) (_:σ[i]? =some (some v)) (_:Q v H):zeU i σ H Q
def tC(v:V):TE:=fun _ H Q=>Q v H
theorem zfg{i:Nat}{x:Str}{f:Pos}(L:X.N[i]? =some x)(T:Vis X.env.scope x)(J:(x==("__debug__":Str))=false:=by decide)(G:(x==("__classdict__":Str))=false:=by decide):PE X (.Name x f) (zeU i):=by
 intro E s σ H Q I h;obtain⟨v,e,h⟩:=h;obtain⟨m,O,M⟩:=I.loc;obtain⟨u,r,l⟩:=M i x v L e T;have D:EP X E σ Q u s:=⟨v,H,I,r,h⟩;rcases l with ⟨hk,N⟩ | ⟨hk,c,hc,w⟩
 ·exact wpAny_Name (wpAny_loadName_local I.ok.kind hk O N D) J
 ·rcases hk with hk | hk
  ·exact wpAny_Name (wpAny_loadName_cell I.ok.kind hk hc w D) J
  ·exact wpAny_Name (wpAny_loadName_free I.ok.kind hk hc w D G) J
theorem zf{i j f}:PE X (.Constant (.int i) j f) (tC (.int i)):=fun _ _ _ H _ I h=>wpAny_Constant_int ⟨.int i,H,I.tok _,⟨_,rfl⟩,h⟩
theorem jF{b j f}:PE X (.Constant (.bool b) j f) (tC (.bl b)):=fun _ _ _ H _ I h=>Constant_bool ⟨.bl b,H,I,rfl,h⟩
theorem xX{j f}:PE X (.Constant .none j f) (tC .non):=fun _ _ _ H _ I h=>Constant_none ⟨.non,H,I,rfl,h⟩
theorem wL{x j f}:PE X (.Constant (.str x) j f) (tC (.str x)):=fun _ _ _ H _ I h=>Calls.Constant_str ⟨.str x,H,I.tok _,⟨_,rfl⟩,h⟩
def Gl(X:Cx)(x:Str):Prop:=X.env.kindOf x=some .globalImplicit
theorem zdR{E:Value->Shared->Prop}{c:List (Addr×Obj)}{s:Shared}{σ:St}{H:Hp}{x:Str}{u:Value}{f:Pos}{Q:Value->Shared->Prop}(I:Inv X c σ H s)(l:Gl X x)(w:X.mg x=some u)(h:Q u s)
  (e:(x==("__debug__":Str))=false:=by decide):wpAny (model X.prog X.w) X.A (eval (.Name x f) X.env) Q E s:=
 zc1 I.ok.kind l (Calls.loadGlobal_global (by rw[I.ok.glob];exact I.mod.glob.keeps I.bk) w h) e
theorem vv{E:Value->Shared->Prop}{c:List (Addr×Obj)}{s:Shared}{σ:St}{H:Hp}{x:Str}{u:Value}{f:Pos}{Q:Value->Shared->Prop}(I:Inv X c σ H s)(D:Gl X x)(G:X.mg x=none)(L:bootBuiltins x=some u)(h:Q u s)
  (J:x ≠ "__name__" :=by decide) (w:(x==("__debug__":Str))=false:=by decide):wpAny (model X.prog X.w) X.A (eval (.Name x f) X.env) Q E s:=by
 obtain⟨M,e,l⟩:=I.mod.blt;exact zc1 I.ok.kind D (Calls.loadGlobal_builtin (by rw[I.ok.glob];exact I.mod.glob.keeps I.bk) G (by rw[I.ok.blt];exact e.keeps I.bk) ((l x J).trans L) h) w
theorem yc{x:Str}{v:V}{u:Value}{f:Pos}(e:Gl X x)(l:X.mg x=none)(w:bootBuiltins x=some u)(r:RelV v u)(s:x ≠ "__name__" :=by decide)(c:(x==("__debug__":Str))=false:=by decide):PE X (.Name x f) (tC v):=
 fun _ _ _ H _ I h=>vv I e l w ⟨v,H,I,r,h⟩ s c
variable{a b:Expr}{g B:TE}{f:Pos}
def PC(X:Cx)(e:CmpOp)(a b:Expr)(t:TE):Prop:=
 ∀(c:List (Addr×Obj)) (s:Shared) (σ:St) (H:Hp) (Q:VK),Inv X c σ H s->t σ H Q ->
  wpAny (model X.prog X.w) X.A (eval a X.env) (fun v l=>wpAny (model X.prog X.w) X.A (eval b X.env) (fun u w=>wpAny (model X.prog X.w) X.A (compareOp e v u) (EP X c σ Q) X.xe w) X.xe l) X.xe s
theorem zco(b:Expr){c:CmpOp}(h:c≠.In)(e:c≠.NotIn):behindInMarks c b=false:=by
 have e1:(c==CmpOp.In)=false:=by cases c<;>first| rfl | exact absurd rfl h
 have e2:(c==CmpOp.NotIn)=false:=by cases c<;>first| rfl | exact absurd rfl e
 cases b<;>simp[behindInMarks,e1,e2]
def tB(t:TE):TT:=fun σ H Q=>t σ H fun x c=>IsB x c Q
theorem zfa{w:CmpOp}{t:TE}(h:PC X w a b t)(l:behindInMarks w b=false:=by first| exact zco _ (by decide) (by decide) | rfl):PT X (.Compare a [w] [b] f) (tB t):=by
 intro e s σ H Q I J;refine wpAny_isTrue_Compare1 (thn (h e s σ H _ I J) fun v s1 l=>thn l fun u s2 G=>thn G fun c N ⟨x,D,E,M,L⟩=>?_) l
 obtain⟨d,rfl,q⟩:=L;cases M;exact v0 ⟨D,E,q⟩
theorem j5{e:Expr}{t:TE}(h:PE X e t)(E:∀c,isTrue e X.env c=(do let v<-c;standAt e.pos;holding [v] (truthy v)):=by intro _;rfl):PT X e (tB t):=by
 intro l s σ H Q I G;refine isTrue_plain (thn (h l s σ H _ I G) fun v s1 ⟨x,w,D,L,J⟩=>?_) (E _)
 obtain⟨d,rfl,q⟩:=J;cases L;exact v0 ⟨w,D,q⟩
variable{A C:TT}{rest:List Expr}
def zhD(t u:TT):TT:=fun σ H Q=>t σ H fun c e=>if c=true then u σ e Q else Q false e
def tOr(t u:TT):TT:=fun σ H Q=>t σ H fun c e=>if c=true then Q true e else u σ e Q
def zhy(t:TT):TT:=fun σ H Q=>t σ H fun c e=>Q (!c) e
theorem Zt(w:PT X a A):PW X (.BoolOp .And [a] f) A:=by
 intro D l s σ H Q I h;refine isTrue_and (thn (w l s σ H Q I h) fun c s1 e=>?_)
 cases c with
 | true=>exact isTrue_and_nil e
 | false=>exact e
theorem wK(w:PT X a A):PW X (.BoolOp .Or [a] f) A:=by
 intro D l s σ H Q I h;refine isTrue_or (thn (w l s σ H Q I h) fun c s1 e=>?_)
 cases c with
 | false=>exact isTrue_or_nil e
 | true=>exact e
theorem JI(E:PT X a A)(hb:PW X (.BoolOp .And (b::rest) f) C):PW X (.BoolOp .And (a::b::rest) f) (zhD A C):=by
 intro G e s σ H Q I h;refine isTrue_and (thn (E e s σ H _ I h) fun c s1 ⟨l,w,D⟩=>?_)
 cases c with
 | true=>exact hb G e s1 σ l Q w D
 | false=>exact⟨l,w,D⟩
theorem ZL(E:PT X a A)(hb:PW X (.BoolOp .Or (b::rest) f) C):PW X (.BoolOp .Or (a::b::rest) f) (tOr A C):=by
 intro G e s σ H Q I h;refine isTrue_or (thn (E e s σ H _ I h) fun c s1 ⟨l,w,D⟩=>?_)
 cases c with
 | true=>exact⟨l,w,D⟩
 | false=>exact hb G e s1 σ l Q w D
theorem xW(w:PT X a A):PT X (.UnaryOp .Not a f) (zhy A):=by
 intro e s σ H Q I h;exact isTrue_not (w e s σ H (fun c l=>Q (!c) l) I h)
def zf5(g B:TE):TE:=fun σ H Q=>g σ H fun x e=>IsB x e fun c e=>if c=true then B σ e Q else Q (.bl false) e
def zhx(g B:TE):TE:=fun σ H Q=>g σ H fun x e=>IsB x e fun c e=>if c=true then Q (.bl true) e else B σ e Q
def zfZ(g:TE):TE:=fun σ H Q=>g σ H fun x e=>IsB x e fun c e=>Q (.bl (!c)) e
theorem vo{l}{t:TE}(h:PE X a t):PE X (.BoolOp l [a] f) t:=fun c s σ H Q I e=>BoolOp_one (h c s σ H Q I e)
theorem vO(E:PE X a g)(hb:PE X (.BoolOp .And (b::rest) f) B):PE X (.BoolOp .And (a::b::rest) f) (zf5 g B):=by
 intro e s σ H Q I h;refine BoolOp_and (thn (E e s σ H _ I h) fun v s1 ⟨x,w,D,G,l⟩=>?_)
 obtain⟨c,rfl,l⟩:=l;cases G;refine v0 ?_
 cases c with
 | true=>exact hb e s1 σ w Q D l
 | false=>exact⟨.bl false,w,D,rfl,l⟩
theorem zgD(E:PE X a g)(hb:PE X (.BoolOp .Or (b::rest) f) B):PE X (.BoolOp .Or (a::b::rest) f) (zhx g B):=by
 intro e s σ H Q I h;refine BoolOp_or (thn (E e s σ H _ I h) fun v s1 ⟨x,w,D,G,l⟩=>?_)
 obtain⟨c,rfl,l⟩:=l;cases G;refine v0 ?_
 cases c with
 | false=>exact hb e s1 σ w Q D l
 | true=>exact⟨.bl true,w,D,rfl,l⟩
theorem zfi(E:PE X a g):PE X (.UnaryOp .Not a f) (zfZ g):=by
 intro e s σ H Q I h;refine UnaryOp_ (thn (E e s σ H _ I h) fun v s1 ⟨x,w,D,G,l⟩=>?_)
 obtain⟨c,rfl,l⟩:=l;cases G;exact not_of (v0 ⟨.bl (!c),w,D,rfl,l⟩)
def tIf(t:TT)(g B:TE):TE:=fun σ H Q=>t σ H fun c e=>if c=true then g σ e Q else B σ e Q
theorem vN{c:Expr}(hc:PT X c A)(E:PE X a g)(hb:PE X b B):PE X (.IfExp c a b f) (tIf A g B):=by
 intro e s σ H Q I h;refine wpAny_IfExp (thn (hc e s σ H _ I h) fun d s1 ⟨l,w,D⟩=>?_)
 cases d with
 | true=>exact E e s1 σ l Q w D
 | false=>exact hb e s1 σ l Q w D
end
def SqL(K:W.Frag)(H:Hp)(a:Addr)(e:List V):Prop:=
 Rd H a (.lst e) \/
  ∃(o:Obj) (c:Array Value) (n:Nat),K.lookup a=some o/\o.cls=.type "list" /\ o.dict=none/\o.data=.seq c n/\c.size<=sizeLine/\Vals e c.toList
def SqT(K:W.Frag)(H:Hp)(a:Addr)(e:List V):Prop:=
 Rd H a (.tup e) \/
  ∃(o:Obj) (c:Array Value) (n:Nat),K.lookup a=some o/\o.cls=.type "tuple" /\ o.data=.seq c n/\c.size<=sizeLine/\Vals e c.toList
def zhL:Value->Option V
 | .none=>some .non
 | .bool b=>some (.bl b)
 | .int i _=>some (.int i)
 | .str x _=>some (.str x)
 | .bytes b _=>some (.byt b)
 | .float b _=>some (.flt b)
 | .ref a=>some (.ref a)
 | .type n=>some (.ty n)
 | _=>none
theorem RelV.abs{x:V}{u:Value}(r:RelV x u):zhL u=some x:=by
 cases x with
 | non=>cases r;rfl
 | bl _=>cases r;rfl
 | int _=>obtain⟨t,rfl⟩:=r;rfl
 | str _=>obtain⟨t,rfl⟩:=r;rfl
 | byt _=>obtain⟨t,rfl⟩:=r;rfl
 | flt _=>obtain⟨t,rfl⟩:=r;rfl
 | ref _=>cases r;rfl
 | ty _=>cases r;rfl
theorem RelV.inj{x y:V}{u:Value}(r:RelV x u)(q:RelV y u):x=y:=jm (r.abs.symm.trans q.abs)
theorem Vals.inj:∀{e f:List V} {c:List Value},Vals e c->Vals f c->e=f
 | _,_,_,.nil,.nil=>rfl
 | _,_,_,.cons r t,.cons g l=>by rw[r.inj g,Vals.inj t l]
section
variable{X:Cx}{c:List (Addr×Obj)}{σ:St}{H:Hp}{s:Shared}{a:Addr}{f g:List V}
theorem SqL.of{K:W.Frag}(h:H a=some (.lst f)):SqL K H a f:=.inl (.inl h)
def u6:=@SqL.of
theorem SqT.of{K:W.Frag}(h:H a=some (.tup f)):SqT K H a f:=.inl (.inl h)
def ua:=@SqT.of
theorem Inv.list(I:Inv X c σ H s)(h:SqL X.K H a f):∃l:List Value,Vals f l/\PlainL s.heap a l.toArray/\f.length<=sizeLine:=by
 rcases h with h | ⟨o,l,n,hk,hc,w,A,B,r⟩
 ·obtain⟨z,l,n,r,e⟩:=h.ok I.hok
  exact⟨l,r,⟨_,n,e,rfl,rfl,rfl⟩,z⟩
 ·refine⟨l.toList,r,⟨o,n,I.kIn a o hk,hc,w,by simpa using A⟩,?_⟩
  have e:=r.length;simp only[jO] at e;omega
theorem Inv.tuple(I:Inv X c σ H s)(h:SqT X.K H a f):∃l:List Value,Vals f l/\IsTup s.heap a l.toArray/\f.length<=sizeLine:=by
 rcases h with h | ⟨o,l,n,hk,hc,w,A,r⟩
 ·obtain⟨z,l,r,p⟩:=h.ok I.hok
  exact⟨l,r,p.1,z⟩
 ·refine⟨l.toList,r,⟨o,I.kIn a o hk,hc,n,by simpa using w⟩,?_⟩
  have e:=r.length;simp only[jO] at e;omega
theorem Inv.list_inj(I:Inv X c σ H s)(h:SqL X.K H a f)(D:SqL X.K H a g):f=g:=by
 obtain⟨w,r,⟨o,n,e,_,_,d⟩,_⟩:=I.list h;obtain⟨l,E,⟨J,G,B,_,_,A⟩,_⟩:=I.list D;rw[e] at B;cases B
 rw[d] at A;injection A with C _;have:w=l:=by simpa using congrArg Array.toList C
 subst this;exact r.inj E
theorem Inv.tuple_inj(I:Inv X c σ H s)(h:SqT X.K H a f)(D:SqT X.K H a g):f=g:=by
 obtain⟨w,r,⟨o,e,_,n,d⟩,_⟩:=I.tuple h;obtain⟨l,E,⟨J,B,_,G,A⟩,_⟩:=I.tuple D;rw[e] at B;cases B
 rw[d] at A;injection A with C _;have:w=l:=by simpa using congrArg Array.toList C
 subst this;exact r.inj E
end
abbrev Cx.wish(X:Cx)(E:Value->Shared->Prop):Cx:={ X with xe:=E }
abbrev Cx.nox(X:Cx):Cx:=X.wish fun _ _=>False
theorem Cx.Ok.wish{X:Cx}(ok:X.Ok)(E:Value->Shared->Prop):(X.wish E).Ok:=
 ⟨ok.mod,ok.kind,ok.glob,ok.blt,ok.above,ok.inj,ok.has,ok.cab,ok.hd,ok.frames,ok.stk,ok.exf,ok.bs,ok.bsz,ok.noex,ok.exfs,ok.funs,ok.frf⟩
theorem Cx.Ok.unwish{X:Cx}{E:Value->Shared->Prop}(ok:(X.wish E).Ok):X.Ok:=
 ⟨ok.mod,ok.kind,ok.glob,ok.blt,ok.above,ok.inj,ok.has,ok.cab,ok.hd,ok.frames,ok.stk,ok.exf,ok.bs,ok.bsz,ok.noex,ok.exfs,ok.funs,ok.frf⟩
section
variable{X:Cx}{c:List (Addr×Obj)}{σ:St}{H:Hp}{s:Shared}{E:Value->Shared->Prop}
theorem Inv.wish(I:Inv X c σ H s)(E:Value->Shared->Prop):Inv (X.wish E) c σ H s:=⟨I.ok.wish E,I.os,I.bare,I.base,I.loc,I.cell,I.free,I.freeC,I.pin,I.hok,I.len⟩
theorem Inv.unwish(I:Inv (X.wish E) c σ H s):Inv X c σ H s:=⟨I.ok.unwish,I.os,I.bare,I.base,I.loc,I.cell,I.free,I.freeC,I.pin,I.hok,I.len⟩
theorem SP.unwish{D:QI}{f:Flow}{l:Shared}(h:SP (X.wish E) c D f l):SP X c D f l:=by
 cases f with
 | next=>obtain⟨g,e,I,q⟩:=h;exact⟨g,e,I.unwish,q⟩
 | brk=>obtain⟨g,e,I,q⟩:=h;exact⟨g,e,I.unwish,q⟩
 | cont=>obtain⟨g,e,I,q⟩:=h;exact⟨g,e,I.unwish,q⟩
 | ret u=>obtain⟨v,g,e,I,r,q⟩:=h;exact⟨v,g,e,I.unwish,r,q⟩
theorem PE.nox{e:Expr}{t:TE}(h:PE X.nox e t):PE X e t:=fun c s σ H Q I l=>
 qg (h c s σ H Q (I.wish _) l) (fun _ _ ⟨v,f,g,r,q⟩=>⟨v,f,g.unwish,r,q⟩) fun _ _ z=>False.elim z
theorem PT.nox{e:Expr}{t:TT}(h:PT X.nox e t):PT X e t:=fun c s σ H Q I l=>
 qg (h c s σ H Q (I.wish _) l) (fun _ _ ⟨f,g,q⟩=>⟨f,g.unwish,q⟩) fun _ _ z=>False.elim z
theorem PSs.nox{st:List Stmt}{t:TS}(h:PSs X.nox st t):PSs X st t:=fun c s σ H D I e=>
 qg (h c s σ H D (I.wish _) e) (fun _ _ q=>q.unwish) fun _ _ z=>False.elim z
end
section
variable{X:Cx}{st:Stmt}{rest:List Stmt}{t u:TS}{e:Expr}{l:TE}{g:Pos}
def zf1:TS:=fun D σ H=>D.nx σ H
def zhu(t u:TS):TS:=fun D σ H=>t { D with nx:=u D } σ H
theorem zU:PSs X [] zf1:=fun _ _ σ H _ I h=>wpAny_execs_nil ⟨σ,H,I,h⟩
theorem ze(B:PS X st t)(C:PSs X rest u):PSs X (st::rest) (zhu t u):=by
 intro c s σ H D I h;refine wpAny_execs_cons (thn (B c s σ H { D with nx:=u D } I h) fun f s1 q=>?_)
 cases f with
 | next=>
  obtain⟨E,w,A,q⟩:=q;exact C c s1 E w D A q
 | ret v=>exact q
 | brk=>exact q
 | cont=>exact q
theorem zj(w:PS X st t):PSs X [st] t:=by
 intro c s σ H D I h;refine wpAny_execs_cons (thn (w c s σ H D I h) fun f s1 q=>?_)
 cases f with
 | next=>exact wpAny_execs_nil q
 | ret v=>exact q
 | brk=>exact q
 | cont=>exact q
theorem Inv.quiet{c:List (Addr×Obj)}{σ:St}{H:Hp}{s:Shared}(I:Inv X c σ H s):interactive X.env=false:=by simp[interactive,I.ok.kind]
def zf2(l:TE):TS:=fun D σ H=>l σ H fun _ c=>D.nx σ c
theorem jb(A:PE X e l)(B:swapsWith e none g.line X.env=pure false:=by rfl):PS X (.Expr e g) (zf2 l):=by
 intro c s σ H D I h;exact wpAny_Expr_any (thn (A c s σ H _ I h) fun v s1 ⟨x,f,w,E,C⟩=>⟨σ,f,w,C⟩) I.quiet B
def zhv(l:TE):TS:=fun D σ H=>l σ H D.rt
theorem zw(A:PE X e l):PS X (.Return (some e) g) (zhv l):=by
 intro c s σ H D I h;exact wpAny_Return_some (thn (A c s σ H _ I h) fun v s1 ⟨x,f,w,C,B⟩=>⟨x,σ,f,w,C,B⟩)
def zhA(c:TT)(t u:TS):TS:=fun D σ H=>c σ H fun b f=>if b=true then t D σ f else u D σ f
theorem qI{c:Expr}{a b:List Stmt}{C:TT}(hc:PT X c C)(E:PSs X a t)(hb:PSs X b u):PS X (.If c a b g) (zhA C t u):=by
 intro f s σ H D I h;refine wpAny_If (thn (hc f s σ H _ I h) fun d s1 ⟨w,A,B⟩=>?_)
 cases d with
 | true=>exact E f s1 σ w D A B
 | false=>exact hb f s1 σ w D A B
end
abbrev TG:=V->St->Hp->(St->Hp->Prop)->Prop
abbrev TGs:=List V->St->Hp->(St->Hp->Prop)->Prop
def PG(X:Cx)(c:Expr)(t:TG):Prop:=
 ∀(e:List (Addr×Obj)) (s:Shared) (σ:St) (H:Hp) (v:V) (u:Value) (Q:St->Hp->Prop),Inv X e σ H s->RelV v u->t v σ H Q ->
  wpAny (model X.prog X.w) X.A (assign c X.env u) (fun _ l=>∃g f,Inv X e g f l/\Q g f) X.xe s
def PGs(X:Cx)(A:List Expr)(t:TGs):Prop:=
 ∀(c:List (Addr×Obj)) (s:Shared) (σ:St) (H:Hp) (g:List V) (f:List Value) (Q:St->Hp->Prop),Inv X c σ H s->Vals g f->t g σ H Q ->
  wpAny (model X.prog X.w) X.A (assignInOrder ((assignEach A X.env).map (·.2)) f) (fun _ w=>∃l e,Inv X c l e w/\Q l e) X.xe s
abbrev zfS:=V->V->V->Hp->(Hp->Prop)->Prop
def zhj(X:Cx)(t:zfS):Prop:=
 ∀(c:List (Addr×Obj)) (s:Shared) (σ:St) (H:Hp) (o i v:V) (g f u:Value) (Q:Hp->Prop),Inv X c σ H s->RelV o g->RelV i f->RelV v u->t o i v H Q ->
  wpAny (model X.prog X.w) X.A (setItem g f u) (fun _ l=>∃e,Inv X c σ e l/\Q e) X.xe s
section
variable{X:Cx}{l:Pos}
def jG(i:Nat):TG:=fun v σ H Q=>Q (σ.set i (some v)) H
theorem zy{i:Nat}{x:Str}(f:X.N.Nodup)(w:X.N[i]? =some x)(hx:Loc X.env.scope x)(g:X.fn x=true\/X.env.scope.names.lookup x=some .local:=by first| exact .inl rfl | exact .inr rfl | assumption):PG X (.Name x l) (jG i):=by
 intro c s σ H v u Q I r h;exact wpAny_assign_Name (wW I f w hx r (fun A e=>⟨_,H,e,h⟩) g)
def JR:TGs:=fun c σ H Q=>c=[]/\Q σ H
inductive j8(t:TG)(u:TGs)(c:List V)(σ:St)(H:Hp)(Q:St->Hp->Prop):Prop
 | mk (v r:_) (_:c=v::r) (_:t v σ H fun f e=>u r f e Q):j8 t u c σ H Q
theorem qe:PGs X [] JR:=by
 intro c s σ H g f Q I r h;obtain⟨e,h⟩:=h;subst e;cases r;exact assignInOrder_nil ⟨σ,H,I,h⟩
theorem zr{e:Expr}{f:List Expr}{t:TG}{u:TGs}(A:PG X e t)(B:PGs X f u)
  (C:(assignEach (e::f) X.env).map (·.2)=assign e X.env::(assignEach f X.env).map (·.2):=by rfl):PGs X (e::f) (j8 t u):=by
 intro c s σ H M J Q I r h;obtain⟨v,L,e1,h⟩:=h;subst e1;cases r with
 | cons r E=>
  rw[C];refine assignInOrder_cons (thn (A c s σ H _ _ _ I r h) fun _ s1 ⟨G,g,w,D⟩=>?_)
  exact B c s1 G g _ _ Q w E D
inductive QF(K:W.Frag)(n:Nat)(t:TGs)(v:V)(σ:St)(H:Hp)(Q:St->Hp->Prop):Prop
 | mk (a c:_) (_:v=.ref a) (_:SqT K H a c) (_:c.length=n) (_:t c σ H Q):QF K n t v σ H Q
theorem qF{f:List Expr}{k:Nat}{t:TGs}{n:Nat}(hc:X.calm=true)(h:PGs X f t)
  (E:(assignEach f X.env).length=n:=by rfl) (g:(assignEach f X.env).findIdx? (·.1)=none:=by rfl):PG X (.Tuple f k l) (QF X.K n t):=by
 intro c s σ H v u Q I r w;obtain⟨a,L,e1,hq,D,w⟩:=w;subst e1;cases r;obtain⟨J,A,G,M⟩:=I.tuple hq;refine assign_Tuple_tuple (I.ok.hd hc) G (by simp[E,<- D,A.length]) g fun C hx=>?_
 have B:Inv X c σ H { s with heap:=C }:=I.kept (t':=s.toks) fun b o e=>hx b o (qw (zP e)) e
 exact h c _ σ H L _ Q B (by simpa using A) w
def zhI(to g:TE)(t:zfS):TG:=fun v σ H Q=>to σ H fun o c=>g σ c fun i e=>t o i v e fun f=>Q σ f
theorem JK{o i:Expr}{to g:TE}{t:zfS}(L:PE X o to)(J:PE X i g)(M:zhj X t)
  (G:∀v,assign (.Subscript o i l) X.env v=(do
   let e<-holding [v] (eval o X.env)
   let f<-holding [v,e] (eval i X.env)
   standAt l
   holding [v,e,f] (setItem e f v)
   release [v,e,f] []):=by intro _;rfl):PG X (.Subscript o i l) (zhI to g t):=by
 intro c s σ H v u Q I r h;rw[G];refine zi (vD (thn (L c s σ H _ I h) fun e s1 ⟨x,w,C,U,N⟩=>?_))
 refine zi (vD (thn (J c s1 σ w _ C N) fun f s2 ⟨y,A,D,Y,O⟩=>?_))
 refine zi (vg (zi (vD (thn (M c s2 σ A x y v e f u _ D U Y r O) fun _ s3 ⟨B,E,T⟩=>?_))))
 exact wpAny_release ⟨σ,B,E,T⟩
def zbb(e:TE)(g:TG):TS:=fun D σ H=>e σ H fun x c=>g x σ c D.nx
theorem j6{f e:Expr}{w:TE}{g:TG}(E:PE X e w)(G:PG X f g)(J:swapsWithSole [f] e l.line X.env=pure false:=by rfl)(L:swappedStores [f] e X.env=pure none:=by rfl)
  (C:(assignEach [f] X.env).map (·.2)=[assign f X.env]:=by rfl):PS X (.Assign [f] e l) (zbb w g):=by
 intro c s σ H D I h;refine wpAny_Assign_stores (thn (E c s σ H _ I h) fun v s1 ⟨x,A,B,N,M⟩=>?_) J L
 rw[C];exact thn (G c s1 σ A x v _ B N M) fun _ s2 q=>q
theorem zG{i:Nat}{x:Str}{e:Expr}{g:TE}{c:Pos}(C:X.N.Nodup)(J:X.N[i]? =some x)(hx:Loc X.env.scope x)(E:PE X e g)(L:swapsWith e (some (.Name x c)) l.line X.env=pure false:=by rfl)(G:X.fn x=true\/X.env.scope.names.lookup x=some .local:=by first| exact .inl rfl | exact .inr rfl | assumption) :
  PS X (.Assign [.Name x c] e l) (zbb g (jG i)):=by
 intro f s σ H D I h;refine wpAny_Assign_Name (thn (E f s σ H _ I h) fun v s1 ⟨y,w,A,N,M⟩=>?_) L
 exact wW A C J hx N (fun s2 B=>⟨_,w,B,M⟩) G
def zhw(i j:Nat)(e:TA):TS:=fun D σ H=>e σ H fun f c=>zhn f c fun v w c=>D.nx ((σ.set i (some v)).set j (some w)) c
theorem zbU{i j:Nat}{x y:Str}{a b:Expr}{ta:TA}{M N L:Pos}{J G g}(hc:X.calm=true)(hN:X.N.Nodup)(hi:X.N[i]? =some x)(hj:X.N[j]? =some y)(C:i≠j)
  (hx:X.env.scope.names.lookup x=some .local) (hy:X.env.scope.names.lookup y=some .local) (ha:PA X [a,b] ta)
  (hw:swappedStores [.Tuple [.Name x M,.Name y N] J L] (.Tuple [a,b] G g) X.env=pure (some [x,y]))
  (hs:swapsWithSole [.Tuple [.Name x M,.Name y N] J L] (.Tuple [a,b] G g) l.line X.env=pure false:=by rfl) :
  PS X (.Assign [.Tuple [.Name x M,.Name y N] J L] (.Tuple [a,b] G g) l) (zhw i j ta):=by
 intro f s σ H D I h;rw[exec_Assign_arm];refine zi (vg ?_)
 rw[hs];refine zi (zE ?_)
 rw[zv (by decide)]
 refine zi (Tuple_ (thn (ha _ f s σ H _ I h) fun us s1 ⟨vs,T,I1,r1,O⟩=>?_))
 obtain⟨v,w,e1,O⟩:=O;subst e1;obtain⟨A,B,rfl,rv,Q⟩:∃A B,us=[A,B]/\RelV v A/\RelV w B:=by
  cases r1 with
  | cons p q=>
   cases q with
   | cons p' q'=>
    cases q';exact⟨_,_,rfl,p,p'⟩
 refine vi ?_ (by show 2<=sizeLine;decide)
 have I2:Inv X f σ T { s1 with heap:=s1.heap.push { cls:=.type "tuple",data:=.seq [A,B].toArray } }:=I1.kept (t':=s1.toks) fun b o e=>qr _ e
 rw[hw];refine zi (zE ?_)
 show wpAny (model X.prog X.w) X.A (do rule "assign.swapped-stores";let c<-unpackItems (.ref s1.heap.objs.size) 2 none;assignInOrder [fun v=>bindName X.env y v,fun v=>bindName X.env x v] c.reverse;pure Flow.next) _ _ _
 refine zi (xT (zi (unpackItems_tuple (items:=#[A,B]) (I.ok.hd hc) (IsTup.new s1.heap _) fun Y E=>?_)))
 have I3:=I2.kept (h':=Y) (t':=s1.toks) fun b o e=>E b o (qw (zP e)) e
 show wpAny _ _ (assignInOrder [fun v=>bindName X.env y v,fun v=>bindName X.env x v] [B,A] >>= fun _=>pure Flow.next) _ _ _
 refine zi (assignInOrder_cons (wpAny_bindName (wW I3 hN hj (.inl hy) Q (fun s2 I4=>?_) (.inr hy))))
 refine assignInOrder_cons (wpAny_bindName (wW I4 hN hi (.inl hx) rv (fun s3 U=>assignInOrder_nil (zE ?_)) (.inr hx)))
 rw[List.set_comm _ _ (qu C)] at U;exact⟨_,T,U,O⟩
def zeT(c:TT)(w:TS):TS:=fun D σ H=>∃W:Nat->St->Hp->Prop,(∃m,W m σ H)/\∀m σ H,W m σ H ->
 c σ H fun b f=>if b=true then ∃N:St->Hp->Prop,(∀s e,N s e->∃g,g<m/\W g s e)/\w { D with nx:=N,ct:=N,bk:=D.nx } σ f else D.nx σ f
theorem XZ{c:Expr}{body:List Stmt}{tc:TT}{tb:TS}(hp:PassesOwn (model X.prog X.w) X.A X.env X.xe)(hc:PT X c tc)(hb:PSs X body tb):PS X (.While c body [] l) (zeT tc tb):=by
 intro e s σ H D I h;obtain⟨W,⟨m0,w0⟩,w⟩:=h;refine wpAny_While (codeAny_whileLoop (fun n s'=>∃σ' Q,Inv X e σ' Q s'/\W n σ' Q) ?_ m0 ⟨σ,H,I,w0⟩)
 rintro n s1 ⟨E,T,I1,w1⟩;refine wS hp (thn (hc e s1 E T _ I1 (w n E T w1)) fun b s2 ⟨U,Y,B⟩=>?_)
 cases b with
 | true=>
  obtain⟨N,hN,B⟩:=B;rw[zC rfl];refine wS hp (thn (hb e s2 E U _ Y B) fun f s3 C=>?_)
  cases f with
  | next=>
   obtain⟨A,g,G,M⟩:=C;obtain⟨L,J,O⟩:=hN A g M;exact⟨L,J,A,g,G,O⟩
  | cont=>
   obtain⟨A,g,G,M⟩:=C;obtain⟨L,J,O⟩:=hN A g M;exact⟨L,J,A,g,G,O⟩
  | brk=>exact C
  | ret v=>exact C
 | false=>
  rw[zv qO];exact wpAny_execs_nil ⟨E,U,Y,B⟩
end
structure It where
 go:Nat->Hp->Prop
 yld:Nat->Hp->V->Hp->Prop
 stop:Nat->Hp->Prop
def jX(X:Cx)(e:List (Addr×Obj))(H:Hp)(b:Addr):Prop:=
 H b=none/\b≠X.env.locals/\b∉X.fs/\(b∈X.ex\/X.s₀.heap.objs.size<=b)/\(∀x c,X.env.cells.lookup x=some c->c≠b)/\∀p∈X.pn++e,p.1≠b
theorem Inv.fpOk{X:Cx}{f:List (Addr×Obj)}{σ:St}{H g:Hp}{s:Shared}{b:Addr}(I:Inv X f σ H s)(hb:s.heap.objs.size<=b)(l:g b=none):jX X f g b:=by
 refine⟨l,vY (jD I.lt hb),I.nofs hb,.inr (jx I.sz hb),fun x c e z=>?_,fun p hp z=>?_⟩
 ·obtain⟨v,q⟩:=I.cell x c e
  exact absurd (jD q.lt (by rw[z];exact hb)) (wA _)
 ·exact absurd (jD (zP (I.pin p hp).1) (by rw[z];exact hb)) (wA _)
structure yw(P:Program)(w:World)(K:W.Frag)(tg:Expr)(J:It)(fp:List Addr)(it:Addr)(tn:Nat->Heap->Prop):Prop where
 mem:it∈fp
 obj:∀i h,tn i h->∀b∈fp,∃o,h.get? b=some o/\∀v,o.data≠.cell v
 keep:∀i h h',tn i h->(∀b∈fp,∀o,h.get? b=some o->h'.get? b=some o)->tn i h'
 item:∀(X:Cx),X.prog=P->X.w=w->X.K=K->X.calm=true->∀(i:Nat) (pins:List (Addr×Obj)) (s:Shared) (σ:St) (H:Hp) (E:Value->Shared->Prop),Inv X pins σ H s->(∀b∈fp,jX X pins H b)->tn i s.heap->J.go i H ->
  wpAny (model P w) X.A (pyNext (.ref it)) (fun r s1=>∃u,r=some u /\
   wpAny (model P w) X.A (letOwnedTupleGo tg (.ref it) u) (fun _ s2=>∃x H',Inv X pins σ H' s2/\RelV x u/\J.yld i H x H'/\tn (i+1) s2.heap/\∀b∈fp,H' b=none) E s1) E s
 done:∀(X:Cx),X.prog=P->X.w=w->X.K=K->X.calm=true->∀(i:Nat) (pins:List (Addr×Obj)) (s:Shared) (σ:St) (H:Hp) (E:Value->Shared->Prop),Inv X pins σ H s->(∀b∈fp,jX X pins H b)->tn i s.heap->J.stop i H ->
  wpAny (model P w) X.A (pyNext (.ref it)) (fun r s1=>r=none/\Inv X pins σ H s1) E s
 self:∀(A:Around) (i:Nat) (s:Shared) (Q:Value->Shared->Prop) (E:Value->Shared->Prop),tn i s.heap->Q (.ref it) s->wpAny (model P w) A (pyIter (.ref it)) Q E s
abbrev TI:=St->Hp->(It->Hp->Prop)->Prop
def PIE(X:Cx)(c:List (Addr×Obj))(σ:St)(w:Expr)(R:It->Hp->Prop)(f:Value)(s2:Shared):Prop:=
 ∃(l:Addr) (g:List Addr) (s:Nat->Heap->Prop) (J:It) (e:Hp),f=.ref l/\Inv X c σ e s2/\yw X.prog X.w X.K w J g l s/\s 0 s2.heap/\(∀b∈g,jX X c e b)/\R J e
def PI(X:Cx)(f e:Expr)(g:TI):Prop:=
 ∀(c:List (Addr×Obj)) (s:Shared) (σ:St) (H:Hp) (R:It->Hp->Prop),Inv X c σ H s->g σ H R ->
  wpAny (model X.prog X.w) X.A (eval e X.env) (fun v s1=>wpAny (model X.prog X.w) X.A (pyIter v) (PIE X c σ f R) X.xe s1) X.xe s
theorem YG{M:Model}{A:Around}{E:Value->Shared->Prop}{s:Shared}{f:Expr}{e:Addr}{u:Value}{o:Obj}{n:String}{g:Array Value}{Q:Unit->Shared->Prop}(B:s.heap.get? e=some o)(hc:o.cls=.type n)(l:o.data=.fields g)
  (w:["enumerate", "zip", "dict_itemiterator", "dict_reverseitemiterator", "odict_iterator", "itertools.zip_longest", "itertools.pairwise"].contains n=false) (c:Q () s):wpAny M A (letOwnedTupleGo f (.ref e) u) Q E s:=by
 unfold letOwnedTupleGo;cases f<;>first
  | exact zE c
  | (cases u<;>first
    | exact zE c
    | (refine zi (wpAny_load B ?_)
       rw[hc,l];show wpAny M A (if(["enumerate", "zip", "dict_itemiterator", "dict_reverseitemiterator", "odict_iterator", "itertools.zip_longest", "itertools.pairwise"].contains n&&g[0]? ==some (rawInt _))=true then _ else _) Q E s
       rw[zv (by intro h;rw[w,Bool.false_and] at h;cases h)]
       exact zE c))
def Itl(K:W.Frag)(a:Addr):It:=
 ⟨fun i H=>∃c x,SqL K H a c/\c[i]? =some x,fun i H x e=>e=H/\∀c,SqL K H a c->c[i]? =some x,fun i H=>∃c,SqL K H a c/\c.length<=i⟩
def Itt(K:W.Frag)(a:Addr):It:=
 ⟨fun i H=>∃c x,SqT K H a c/\c[i]? =some x,fun i H x e=>e=H/\∀c,SqT K H a c->c[i]? =some x,fun i H=>∃c,SqT K H a c/\c.length<=i⟩
def Itr(lo:Int)(n:Nat):It:=⟨fun i _=>i<n,fun i H x c=>c=H/\x=.int (lo+i),fun i _=>n<=i⟩
theorem QN{P:Program}{w:World}{K:W.Frag}{tg:Expr}(a g:Addr):yw P w K tg (Itl K a) [g] g (fun i h=>h.IsListIter g a i) where
 mem:=by simp
 obj:=fun i h st b hb=>by
  have e:b=g:=by simpa using hb
  subst e;obtain⟨o,e,c,d⟩:=st;exact⟨o,e,fun v z=>by rw[d] at z;cases z⟩
 keep:=fun i h A st k=>st.at fun o e=>k g (by simp) o e
 item:=by
  intro X N Q M hc i f s σ H E I B st O;subst N Q M;obtain⟨xs,x,hq,hx⟩:=O;obtain⟨T,U,p,hz⟩:=I.list hq;obtain⟨u,hu,ru⟩:=U.get hx;obtain⟨C,D,f2,G,J,L⟩:=B g (by simp)
  refine wpAny_pyNext_list_item st p.isList (x:=u) (by simpa using hu) fun A l sb=>?_
  have Y:Inv X f σ H { s with heap:=A }:=I.turned (t':=s.toks) (fun b o hb e=>(sb.2 b hb).trans e) C D G J L
  obtain⟨o,e,c,d⟩:=id l;exact⟨u,rfl,YG (s:={ s with heap:=A }) e c d (by decide) ⟨x,H,Y,ru,⟨rfl,fun ys hy=>by rw[I.list_inj hy hq];exact hx⟩,l,fun b hb=>(B b hb).1⟩⟩
 done:=by
  intro X N Q M hc i f s σ H E I B st O;subst N Q M;obtain⟨xs,hq,hx⟩:=O;obtain⟨T,U,p,hz⟩:=I.list hq;obtain⟨C,D,f2,G,J,L⟩:=B g (by simp)
  have hl:=U.length;exact wpAny_pyNext_list_end (I.ok.hd hc) st p.isList (by simp;omega) fun A eb=>⟨rfl,I.turned (t':=s.toks) (fun b o hb e=>eb b o hb e) C D G J L⟩
 self:=fun _ _ _ _ _ st h=>wpAny_pyIter_listiter st h
theorem ZD{P:Program}{w:World}{K:W.Frag}{tg:Expr}(a g:Addr):yw P w K tg (Itt K a) [g] g (fun i h=>h.IsTupleIter g a i) where
 mem:=by simp
 obj:=fun i h st b hb=>by
  have e:b=g:=by simpa using hb
  subst e;obtain⟨o,e,c,d⟩:=st;exact⟨o,e,fun v z=>by rw[d] at z;cases z⟩
 keep:=fun i h B st k=>st.at fun o e=>k g (by simp) o e
 item:=by
  intro X O T N hc i f s σ H E I C st Q;subst O T N;obtain⟨xs,x,hq,hx⟩:=Q;obtain⟨l,U,p,hz⟩:=I.tuple hq;obtain⟨u,hu,ru⟩:=U.get hx;obtain⟨D,G,f2,J,L,M⟩:=C g (by simp)
  refine wpAny_pyNext_tuple_item st (show s.heap.IsTuple a l.toArray from p) (x:=u) (by simpa using hu) fun B A sb=>?_
  have Y:Inv X f σ H { s with heap:=B }:=I.turned (t':=s.toks) (fun b o hb e=>(sb.2 b hb).trans e) D G J L M
  obtain⟨o,e,c,d⟩:=id A;exact⟨u,rfl,YG (s:={ s with heap:=B }) e c d (by decide) ⟨x,H,Y,ru,⟨rfl,fun ys hy=>by rw[I.tuple_inj hy hq];exact hx⟩,A,fun b hb=>(C b hb).1⟩⟩
 done:=by
  intro X O T N hc i f s σ H E I C st Q;subst O T N;obtain⟨xs,hq,hx⟩:=Q;obtain⟨l,U,p,hz⟩:=I.tuple hq;obtain⟨D,G,f2,J,L,M⟩:=C g (by simp)
  have hl:=U.length;exact wpAny_pyNext_tuple_end (I.ok.hd hc) st (show s.heap.IsTuple a l.toArray from p) (by simp;omega) fun B eb=>⟨rfl,I.turned (t':=s.toks) (fun b o hb e=>eb b o hb e) D G J L M⟩
 self:=fun _ _ _ _ _ st h=>wpAny_pyIter_tupleiter st h
theorem VB{P:Program}{w:World}{K:W.Frag}{tg:Expr}(c:Addr)(lo:Int)(n:Nat):yw P w K tg (Itr lo n) [c] c (fun i h=>IsRangeIter h c (lo+(i:Nat)*1) ((n:Int)-(i:Nat)) 1) where
 mem:=by simp
 obj:=fun i h st b hb=>by
  have e:b=c:=by simpa using hb
  subst e;exact⟨_,st,fun v z=>by
   have z':Data.fields _=Data.cell v:=z;cases z'⟩
 keep:=fun i h l st k=>k c (by simp) _ st
 item:=by
  intro X M O L hc i f s σ H E I A st N;subst M O L;obtain⟨B,C,f2,D,G,J⟩:=A c (by simp)
  have W:=Walks.range (prog:=X.prog) (w:=X.w) (I.ok.hd hc) c lo 1 n;refine W.item i s _ _ N st fun v l T hv g kk=>?_
  obtain⟨t,rfl⟩:=hv;have U:Inv X f σ H { s with heap:=l,toks:=T }:=I.turned (fun b o hb e=>kk b o (by simpa using hb) e) B C D G J
  refine⟨_,rfl,YG (s:={ s with heap:=l,toks:=T }) (n:= "range_iterator") g rfl rfl (by decide) ⟨.int (lo+i),H,U,⟨t,?_⟩,⟨rfl,rfl⟩,g,fun b hb=>(A b hb).1⟩⟩
  rw[Int.mul_one]
 done:=by
  intro X M O L hc i f s σ H E I A st N;subst M O L;obtain⟨B,C,f2,D,G,J⟩:=A c (by simp)
  exact wpAny_pyNext_range_end (I.ok.hd hc) st (by have:n<=i:=N;omega) fun l Y=>⟨rfl,I.turned (t':=s.toks) (fun b o hb e=>Y b o hb e) B C D G J⟩
 self:=fun _ _ _ _ _ st h=>wpAny_pyIter_rangeiter st h
section
variable{X:Cx}{c:Expr}
inductive InL(K:W.Frag)(x:V)(H:Hp)(R:It->Hp->Prop):Prop
 | mk (a:Addr) (h:x=.ref a) (e:∃f,SqL K H a f) (r:R (Itl K a) H):InL K x H R
inductive InT(K:W.Frag)(x:V)(H:Hp)(R:It->Hp->Prop):Prop
 | mk (a:Addr) (h:x=.ref a) (e:∃f,SqT K H a f) (r:R (Itt K a) H):InT K x H R
def zg8(K:W.Frag)(f:TE):TI:=fun σ H R=>f σ H fun x e=>InL K x e R
def zg6(K:W.Frag)(f:TE):TI:=fun σ H R=>f σ H fun x e=>InT K x e R
theorem qW{l:Expr}{w:TE}(B:PE X l w):PI X c l (zg8 X.K w):=by
 intro f s σ H R I h;refine thn (B f s σ H _ I h) fun v s1 ⟨x,A,g,E,D⟩=>?_
 obtain⟨a,e,⟨M,hq⟩,q⟩:=D;subst e;cases E;obtain⟨C,J,p,G⟩:=g.list hq;refine wpAny_pyIter_list p.isList ?_
 refine⟨s1.heap.objs.size,[s1.heap.objs.size],_,_,A,rfl,g.kept (t':=s1.toks) fun b o e=>qr _ e,QN a _,⟨_,qk _ rfl,rfl,rfl⟩,fun b hb=>?_,q⟩
 have e:b=s1.heap.objs.size:=by simpa using hb
 subst e;exact g.fpOk (zM _) (g.hok.fresh (zM _))
theorem jt{l:Expr}{A:TE}(C:PE X l A):PI X c l (zg6 X.K A):=by
 intro f s σ H R I h;refine thn (C f s σ H _ I h) fun v s1 ⟨x,B,g,E,D⟩=>?_
 obtain⟨a,e,⟨M,hq⟩,q⟩:=D;subst e;cases E;obtain⟨w,J,p,G⟩:=g.tuple hq;refine wpAny_pyIter_tuple (show s1.heap.IsTuple a w.toArray from p) ?_
 refine⟨s1.heap.objs.size,[s1.heap.objs.size],_,_,B,rfl,g.kept (t':=s1.toks) fun b o e=>qr _ e,ZD a _,⟨_,qk _ rfl,rfl,rfl⟩,fun b hb=>?_,q⟩
 have e:b=s1.heap.objs.size:=by simpa using hb
 subst e;exact g.fpOk (zM _) (g.hok.fresh (zM _))
theorem zbR{g:List (Addr×Obj)}{σ:St}{H:Hp}{s:Shared}{R:It->Hp->Prop}{E:Value->Shared->Prop}{lo f:Int}{t u v:Tok}{w:Nat}(I:Inv X g σ H s)(A:-(2^62)<=lo)(B:lo<2^62)(C:-(2^62)<=f)(D:f<2^62)
  (q:R (Itr lo (f-lo).toNat) H):wpAny (model X.prog X.w) X.A (pyIter (.ref s.heap.objs.size)) (PIE X g σ c R) E { s with heap:=s.heap.push { cls:=.type "range",data:=.fields #[.int lo t,.int f u,.int 1 v] },toks:=w }:=by
 refine wpAny_pyIter_range (IsRange.new ..) (small_one A B C D) ?_
 have l:Inv X g σ H { s with heap:=s.heap.push { cls:=.type "range",data:=.fields #[.int lo t,.int f u,.int 1 v] },toks:=w }:=I.kept fun b o e=>qr _ e
 refine⟨(s.heap.push { cls:=.type "range",data:=.fields #[.int lo t,.int f u,.int 1 v] }).objs.size,[(s.heap.push { cls:=.type "range",data:=.fields #[.int lo t,.int f u,.int 1 v] }).objs.size],_,_,H,rfl,
  l.kept (t':=w) fun b o e=>qr _ e,VB _ lo (f-lo).toNat,?_,fun b hb=>?_,q⟩
 ·have e1:lo+((0:Nat):Int)*1=lo:=by simp
  have e2:(((f-lo).toNat:Nat):Int)-((0:Nat):Int)=Builtin.Range.rangeSize lo f 1:=by rw[rangeSize_one];split<;>omega
  show IsRangeIter _ _ (lo+((0:Nat):Int)*1) ((((f-lo).toNat:Nat):Int)-((0:Nat):Int)) 1;rw[e1,e2];exact qk _ rfl
 ·have e:b=(s.heap.push { cls:=.type "range",data:=.fields #[.int lo t,.int f u,.int 1 v] }).objs.size:=by simpa using hb
  subst e;exact l.fpOk (zM _) (l.hok.fresh (zM _))
inductive zho(e:List V)(H:Hp)(R:It->Hp->Prop):Prop
 | mk (j:Int) (h:e=[.int j]) (f:-(2^62)<=j) (g:j<2^62) (r:R (Itr 0 j.toNat) H):zho e H R
def zg7(f:TA):TI:=fun σ H R=>f σ H fun g e=>zho g e R
theorem jq{a:Expr}{w:TA}{p g:Pos}(C:Gl X "range")(D:X.mg "range" = none)(B:PA X [a] w)(E:starEach [a] X.env=[(false,eval a X.env)]:=by rfl):PI X c (.Call (.Name "range" p) [a] [] g) (zg7 w):=by
 intro f s σ H R I h;refine Call_ (vv I C D boot_range (Qe (thn (B g f s σ H _ I h) fun N s1 ⟨O,M,A,J,l⟩=>?_) E rfl))
 obtain⟨j,e,l,G,q⟩:=l;subst e;cases J with
 | cons r L=>
  cases L;obtain⟨t,rfl⟩:=r;exact call_range_1 (zbR A (by omega) (by omega) l G (by simpa using q))
def zhB(B:TI)(g:TG)(A:TS):TS:=fun D σ H=>B σ H fun J s=>∃W:Nat->Nat->St->Hp->Prop,(∃m,W 0 m σ s)/\∀i m σ H,W i m σ H ->
 (J.stop i H/\D.nx σ H)\/(J.go i H/\∃N:St->Hp->Prop,(∀l e,N l e->∃f,f<m/\W (i+1) f l e)/\∀x e,J.yld i H x e->g x σ e fun C w=>A { D with nx:=N,ct:=N,bk:=D.nx } C w)
def qC(e:List Addr)(h:Heap):List (Addr×Obj):=e.filterMap fun b=>(h.get? b).map fun o=>(b,o)
theorem qZ{f:List Addr}{h:Heap}{b:Addr}{o:Obj}(hb:b∈f)(e:h.get? b=some o):(b,o)∈qC f h:=Wh.mpr ⟨b,hb,by rw[e];rfl⟩
theorem x8{f:List Addr}{h:Heap}{p:Addr×Obj}(hp:p∈qC f h):p.1∈f/\h.get? p.1=some p.2:=by
 obtain⟨b,hb,e⟩:=Wh.mp hp;cases q:h.get? b with
 | none=>rw[q] at e;cases e
 | some o=>
  rw[q] at e;have g:(b,o)=p:=jm e;subst g;exact⟨hb,q⟩
theorem Inv.pinned{f:List (Addr×Obj)}{σ:St}{H:Hp}{s:Shared}{fp:List Addr}(I:Inv X f σ H s)(B:∀b∈fp,jX X f H b)(C:∀b∈fp,∃o,s.heap.get? b=some o/\∀v,o.data≠.cell v):Inv X (f++qC fp s.heap) σ H s:=
 I.pins_of fun p hp=>(qo.mp hp).elim (fun z=>I.pin p (qB _ z)) fun z=>by
  obtain⟨hb,e⟩:=x8 z;obtain⟨l,w,A,_⟩:=B p.1 hb;obtain⟨o,g,d⟩:=C p.1 hb;rw[e] at g;cases g
  exact⟨e,l,w,A,d⟩
theorem Inv.unpinned{e f:List (Addr×Obj)}{σ:St}{H:Hp}{s:Shared}(I:Inv X (e++f) σ H s):Inv X e σ H s:=I.pins_of fun p hp=>I.pin p (qB _ (jA _ hp))
theorem qR{B:Expr}{body:List Stmt}{wi:TI}{g:TG}{tb:TS}{ac:Pos}(hp:PassesOwn (model X.prog X.w) X.A X.env X.xe)(hc:X.calm=true)(hi:PI X c B wi)(hg:PG X c g)(hb:PSs X body tb)
  (hs:∀x,foldedSetIterable B X.env x=pure x:=by intro _;rfl):PS X (.For c B body [] ac) (zhB wi g tb):=by
 intro l s σ H D I h;refine wpAny_For (thn (hi l s σ H _ I h) fun v s1 h1=>thn h1 fun af s2 h2=>?_) hs
 obtain⟨it,O,tn,J,H2,e,I2,T,ae,f2,W,⟨m0,w0⟩,a0⟩:=h2;subst e;have C:∀{G:Hp},(∀b∈O,G b=none)->∀b∈O,jX X l G b:=fun hn b hb=>⟨hn b hb,(f2 b hb).2⟩
 refine codeAny_forLoop_any (fun n s'=>∃i σ' G,Inv X l σ' G s'/\tn i s'.heap/\(∀b∈O,G b=none)/\W i n σ' G) ?_ m0 ⟨0,σ,H2,I2,ae,fun b hb=>(f2 b hb).1,w0⟩
 rintro n s3 ⟨i,σ3,H3,I3,Y,Q,w3⟩;rcases a0 i n σ3 H3 w3 with ⟨stop,qn⟩ | ⟨go,N,hN,step⟩
 ·refine wS hp (thn (T.done X rfl rfl rfl hc i l s3 σ3 H3 X.xe I3 (C Q) Y stop) fun r s4 ⟨hr,I4⟩=>?_)
  subst hr;exact wpAny_execs_nil ⟨σ3,H3,I4,qn⟩
 ·refine wS hp (thn (T.item X rfl rfl rfl hc i l s3 σ3 H3 X.xe I3 (C Q) Y go) fun r s4 ⟨u,hr,h4⟩=>?_)
  subst hr;refine wS hp (thn h4 fun _ s5 ⟨x,H5,I5,r5,y5,M,ab⟩=>?_)
  have aa:=I5.pinned (C ab) (T.obj _ _ M);refine wS hp (thn (hg _ s5 σ3 H5 x u _ aa r5 (step x H5 y5)) fun _ s6 ⟨σ6,H6,I6,q6⟩=>?_)
  refine wS hp (thn (hb _ s6 σ6 H6 _ I6 q6) fun f s7 L=>?_)
  have again:∀{E:St} {w:Hp},Inv X (l++qC O s5.heap) E w s7->N E w->∃m,m<n/\∃i σ' G,Inv X l σ' G s7/\tn i s7.heap/\(∀b∈O,G b=none)/\W i m σ' G:=fun {E w} A U=>by
   obtain⟨m',hm,w7⟩:=hN E w U;refine⟨m',hm,i+1,E,w,A.unpinned,T.keep _ _ _ M fun b hb o e=>(A.pin (b,o) (qB _ (qB _ (qZ hb e)))).1,fun b hb=>?_,w7⟩
   obtain⟨o,e,d⟩:=T.obj _ _ M b hb;exact(A.pin (b,o) (qB _ (qB _ (qZ hb e)))).2.1
  cases f with
  | next=>obtain⟨E,w,A,U⟩:=L;exact again A U
  | cont=>obtain⟨E,w,A,U⟩:=L;exact again A U
  | brk=>obtain⟨E,w,A,L⟩:=L;exact⟨E,w,A.unpinned,L⟩
  | ret v=>obtain⟨x7,E,w,A,r7,L⟩:=L;exact⟨x7,E,w,A.unpinned,r7,L⟩
end
theorem jL{K:W.Frag}{a:Addr}{xs:List V}{g:TG}{B:TS}{D:QI}{σ:St}{H:Hp}(Pv:Nat->St->Hp->Prop)(C:Pv 0 σ H)(I:∀i σ H,i<=xs.length->Pv i σ H->SqL K H a xs)
  (J:∀i x σ H,xs[i]? =some x->Pv i σ H->g x σ H fun w l=>B { D with nx:=Pv (i+1),ct:=Pv (i+1),bk:=D.nx } w l) (E:∀σ H,Pv xs.length σ H->D.nx σ H) :
  ∃W:Nat->Nat->St->Hp->Prop,(∃m,W 0 m σ H)/\∀i m σ H,W i m σ H ->
   ((Itl K a).stop i H/\D.nx σ H)\/((Itl K a).go i H/\∃N:St->Hp->Prop,(∀s c,N s c->∃A,A<m/\W (i+1) A s c)/\∀x c,(Itl K a).yld i H x c->g x σ c fun w l=>B { D with nx:=N,ct:=N,bk:=D.nx } w l):=by
 refine⟨fun i m σ H=>m=xs.length-i/\i<=xs.length/\Pv i σ H,⟨xs.length,by simp,qQ _,C⟩,?_⟩
 rintro i m σ H ⟨rfl,G,p⟩;have q:=I i σ H G p;by_cases f:i<xs.length
 ·refine .inr ⟨⟨xs,xs[i],q,by simp[f]⟩,Pv (i+1),fun s c L=>⟨xs.length-(i+1),by omega,rfl,f,L⟩,fun x c y=>?_⟩
  obtain⟨e,y⟩:=y;subst e;exact J i x σ _ (y xs q) p
 ·have e:i=xs.length:=by omega
  subst e;exact .inl ⟨⟨xs,q,zM _⟩,E σ H p⟩
theorem YI{K:W.Frag}{a:Addr}{xs:List V}{g:TG}{B:TS}{D:QI}{σ:St}{H:Hp}(Pv:Nat->St->Hp->Prop)(C:Pv 0 σ H)(I:∀i σ H,i<=xs.length->Pv i σ H->SqT K H a xs)
  (J:∀i x σ H,xs[i]? =some x->Pv i σ H->g x σ H fun w l=>B { D with nx:=Pv (i+1),ct:=Pv (i+1),bk:=D.nx } w l) (E:∀σ H,Pv xs.length σ H->D.nx σ H) :
  ∃W:Nat->Nat->St->Hp->Prop,(∃m,W 0 m σ H)/\∀i m σ H,W i m σ H ->
   ((Itt K a).stop i H/\D.nx σ H)\/((Itt K a).go i H/\∃N:St->Hp->Prop,(∀s c,N s c->∃A,A<m/\W (i+1) A s c)/\∀x c,(Itt K a).yld i H x c->g x σ c fun w l=>B { D with nx:=N,ct:=N,bk:=D.nx } w l):=by
 refine⟨fun i m σ H=>m=xs.length-i/\i<=xs.length/\Pv i σ H,⟨xs.length,by simp,qQ _,C⟩,?_⟩
 rintro i m σ H ⟨rfl,G,p⟩;have q:=I i σ H G p;by_cases f:i<xs.length
 ·refine .inr ⟨⟨xs,xs[i],q,by simp[f]⟩,Pv (i+1),fun s c L=>⟨xs.length-(i+1),by omega,rfl,f,L⟩,fun x c y=>?_⟩
  obtain⟨e,y⟩:=y;subst e;exact J i x σ _ (y xs q) p
 ·have e:i=xs.length:=by omega
  subst e;exact .inl ⟨⟨xs,q,zM _⟩,E σ H p⟩
theorem jU{lo:Int}{n:Nat}{g:TG}{B:TS}{D:QI}{σ:St}{H:Hp}(Pv:Nat->St->Hp->Prop)(C:Pv 0 σ H)
  (G:∀i σ H,i<n->Pv i σ H->g (.int (lo+i)) σ H fun w l=>B { D with nx:=Pv (i+1),ct:=Pv (i+1),bk:=D.nx } w l) (E:∀σ H,Pv n σ H->D.nx σ H) :
  ∃W:Nat->Nat->St->Hp->Prop,(∃m,W 0 m σ H)/\∀i m σ H,W i m σ H ->
   ((Itr lo n).stop i H/\D.nx σ H)\/((Itr lo n).go i H/\∃N:St->Hp->Prop,(∀s c,N s c->∃A,A<m/\W (i+1) A s c)/\∀x c,(Itr lo n).yld i H x c->g x σ c fun w l=>B { D with nx:=N,ct:=N,bk:=D.nx } w l):=by
 refine⟨fun i m σ H=>m=n-i/\i<=n/\Pv i σ H,⟨n,by simp,qQ _,C⟩,?_⟩
 rintro i m σ H ⟨rfl,J,p⟩;by_cases f:i<n
 ·refine .inr ⟨f,Pv (i+1),fun s c I=>⟨n-(i+1),by omega,rfl,f,I⟩,fun x c y=>?_⟩
  obtain⟨e,y⟩:=y;subst e y;exact G i σ _ f p
 ·have e:i=n:=by omega
  subst e;exact .inl ⟨zM _,E σ H p⟩
abbrev R2:=V->V->Hp->VK->Prop
def OpR(X:Cx)(f:Value->Value->Sem Value)(r:R2):Prop:=
 ∀(c:List (Addr×Obj)) (s:Shared) (σ:St) (H:Hp) (x y:V) (v u:Value) (Q:VK),Inv X c σ H s->RelV x v->RelV y u->r x y H Q ->
  wpAny (model X.prog X.w) X.A (f v u) (EP X c σ Q) X.xe s
def UnR(X:Cx)(f:Value->Sem Value)(r:V->Hp->VK->Prop):Prop:=
 ∀(c:List (Addr×Obj)) (s:Shared) (σ:St) (H:Hp) (x:V) (v:Value) (Q:VK),Inv X c σ H s->RelV x v->r x H Q ->
  wpAny (model X.prog X.w) X.A (f v) (EP X c σ Q) X.xe s
def CallR(X:Cx)(f:Value)(r:List V->Hp->VK->Prop):Prop:=
 ∀(c:List (Addr×Obj)) (s:Shared) (σ:St) (H:Hp) (g:List V) (e:List Value) (Q:VK),Inv X c σ H s->Vals g e->r g H Q ->
  wpAny (model X.prog X.w) X.A (call f e) (EP X c σ Q) X.xe s
def tOp(r:R2)(f g:TE):TE:=fun σ H Q=>f σ H fun x c=>g σ c fun y e=>r x y e Q
def tUn(r:V->Hp->VK->Prop)(e:TE):TE:=fun σ H Q=>e σ H fun x c=>r x c Q
inductive rI(C:Int->Int->Prop)(g:Int->Int->V)(x:V)(y:V)(H:Hp)(Q:VK):Prop
 | mk (i j:_) (_:x=.int i) (_:y=.int j) (_:C i j) (_:Q (g i j) H):rI C g x y H Q
inductive rI0(g:Int->Int->V)(x:V)(y:V)(H:Hp)(Q:VK):Prop
 | mk (i j:_) (_:x=.int i) (_:y=.int j) (_:Q (g i j) H):rI0 g x y H Q
inductive rU(g:Int->V)(x:V)(H:Hp)(Q:VK):Prop
 | mk (i:_) (_:x=.int i) (_:Q (g i) H):rU g x H Q
section
variable{X:Cx}{a b c:Expr}{e w A:TE}{l:Pos}
theorem zfR(G:PE X a e)(hb:PE X b w){g:List (Addr×Obj)}{s:Shared}{σ:St}{H:Hp}{R:V->V->Hp->Prop}(I:Inv X g σ H s)
  (h:e σ H fun x C=>w σ C fun y B=>R x y B) {Q:Value->Shared->Prop} {f:Value->Value->Sem Value}
  (J:∀v u s2 x y B,Inv X g σ B s2->RelV x v->RelV y u->R x y B->wpAny (model X.prog X.w) X.A (f v u) Q X.xe s2) :
  wpAny (model X.prog X.w) X.A (eval a X.env) (fun v T=>wpAny (model X.prog X.w) X.A (eval b X.env) (fun u U=>wpAny (model X.prog X.w) X.A (f v u) Q X.xe U) X.xe T) X.xe s:=by
 refine thn (G g s σ H _ I h) fun v s1 ⟨x,C,D,N,L⟩=>?_
 refine thn (hb g s1 σ C _ D L) fun u s2 ⟨y,B,E,O,M⟩=>?_
 exact J v u s2 x y B E N O M
theorem zA{g:Operator}{r:R2}(E:OpR X (binaryOp g) r)(D:PE X a e)(hb:PE X b w):PE X (.BinOp a g b l) (tOp r e w):=by
 intro f s σ H Q I h;exact wpAny_BinOp (zfR D hb I h fun v u s2 x y B C G J q=>E f s2 σ B x y v u Q C G J q)
theorem zeF{g:UnaryOp}{r:V->Hp->VK->Prop}(E:UnR X (unaryOp g) r)(D:PE X a e):PE X (.UnaryOp g a l) (tUn r e):=by
 intro f s σ H Q I h;exact UnaryOp_ (thn (D f s σ H _ I h) fun v s1 ⟨x,B,C,J,G⟩=>E f s1 σ B x v Q C J G)
theorem opI{f:Value->Value->Sem Value}{C:Int->Int->Prop}{g:Int->Int->Int}
  (rule:∀(i j:Int) (t u:Tok) (s:Shared) (Q:Value->Shared->Prop) (E:Value->Shared->Prop),C i j->Q (.int (g i j) s.toks) { s with toks:=s.toks+1 }->wpAny (model X.prog X.w) X.A (f (.int i t) (.int j u)) Q E s) :
  OpR X f (rI C fun i j=>.int (g i j)):=by
 intro B s σ H x y v u Q I D G h;obtain⟨i,j,rfl,rfl,hc,q⟩:=h;obtain⟨t,rfl⟩:=D;obtain⟨J,rfl⟩:=G;exact rule i j t J s _ _ hc ⟨.int (g i j),H,I.tok _,⟨_,rfl⟩,q⟩
theorem zgG{f:Value->Value->Sem Value}{g:Int->Int->Int}
  (rule:∀(i j:Int) (t u:Tok) (s:Shared) (Q:Value->Shared->Prop) (E:Value->Shared->Prop),Q (.int (g i j) s.toks) { s with toks:=s.toks+1 }->wpAny (model X.prog X.w) X.A (f (.int i t) (.int j u)) Q E s) :
  OpR X f (rI0 fun i j=>.int (g i j)):=by
 intro B s σ H x y v u Q I C D h;obtain⟨i,j,rfl,rfl,q⟩:=h;obtain⟨t,rfl⟩:=C;obtain⟨G,rfl⟩:=D;exact rule i j t G s _ _ ⟨.int (g i j),H,I.tok _,⟨_,rfl⟩,q⟩
theorem zdz{f:Value->Value->Sem Value}{g:Int->Int->Bool}
  (rule:∀(i j:Int) (t u:Tok) (s:Shared) (Q:Value->Shared->Prop) (E:Value->Shared->Prop),Q (.bool (g i j)) s->wpAny (model X.prog X.w) X.A (f (.int i t) (.int j u)) Q E s) :
  OpR X f (rI0 fun i j=>.bl (g i j)):=by
 intro B s σ H x y v u Q I C D h;obtain⟨i,j,rfl,rfl,q⟩:=h;obtain⟨t,rfl⟩:=C;obtain⟨G,rfl⟩:=D;exact rule i j t G s _ _ ⟨.bl (g i j),H,I,rfl,q⟩
def zhq(i j:Int):Prop:=0<j/\j<1073741824
def zhO(i j:Int):Prop:=0<=j/\j<=1000000/\i.natAbs<2^64
def CMul(i j:Int):Prop:=(-(2^64)<i/\i<2^64)\/(-(2^64)<j/\j<2^64)
theorem CMul.ok{i j:Int}(h:CMul i j):IntMulOk i j:=by
 rcases h with ⟨f,g⟩ | ⟨f,g⟩
 ·exact .of_left (intBits_le_64 f g)
 ·exact .of_right (intBits_le_64 f g)
theorem qh:OpR X (binaryOp .Add) (rI0 fun i j=>.int (i+j)):=zgG fun _ _ _ _ _ _ _ q=>add_int q
theorem jI:OpR X (binaryOp .Sub) (rI0 fun i j=>.int (i-j)):=zgG fun _ _ _ _ _ _ _ q=>sub_int q
theorem xM:OpR X (binaryOp .Mult) (rI CMul fun i j=>.int (i*j)):=opI fun _ _ _ _ _ _ _ hc q=>mul_int q hc.ok
theorem Yv:OpR X (binaryOp .FloorDiv) (rI zhq fun i j=>.int (i/j)):=opI fun i j _ _ _ _ _ hc q=>by
 have f:(0:Int)<j:=hc.1;have g:j<1073741824:=hc.2;exact floordiv_int (by omega) (by rw[zc0 i (by omega)];exact q) (.inl (PyProof.noPylong_small (by omega)))
theorem xz:OpR X (binaryOp .Mod) (rI (fun _ j=>0<j) fun i j=>.int (i % j)):=opI fun i j _ _ _ _ _ hc q=>by
 have f:(0:Int)<j:=hc;exact mod_int' (by omega) (by rw[zcZ i (by omega)];exact q)
theorem zfm:OpR X (binaryOp .Pow) (rI zhO fun i j=>.int (i^j.toNat)):=opI fun _ _ _ _ _ _ _ hc q=>pow_int_small hc.1 hc.2.1 hc.2.2 q
theorem unI{f:Value->Sem Value}{g:Int->Int}
  (rule:∀(i:Int) (t:Tok) (s:Shared) (Q:Value->Shared->Prop) (E:Value->Shared->Prop),Q (.int (g i) s.toks) { s with toks:=s.toks+1 }->wpAny (model X.prog X.w) X.A (f (.int i t)) Q E s) :
  UnR X f (rU fun i=>.int (g i)):=by
 intro B s σ H x v Q I C h;obtain⟨i,rfl,q⟩:=h;obtain⟨t,rfl⟩:=C;exact rule i t s _ _ ⟨.int (g i),H,I.tok _,⟨_,rfl⟩,q⟩
theorem za5:UnR X (unaryOp .USub) (rU fun i=>.int (-i)):=unI fun _ _ _ _ _ q=>neg_int q
end
def zge:V->V->Bool
 | .non,.non=>true | .non,.int _=>true | .int _,.non=>true | .non,.bl _=>true | .bl _,.non=>true | .non,.str _=>true | .str _,.non=>true
 | .int _,.int _=>true | .bl _,.bl _=>true | .str _,.str _=>true | .byt _,.byt _=>true
 | .int _,.str _=>true | .str _,.int _=>true | .bl _,.str _=>true | .str _,.bl _=>true
 | _,_=>false
def rEq:R2:=fun x y H Q=>zge x y=true/\Q (.bl (decide (x=y))) H
def rNe:R2:=fun x y H Q=>zge x y=true/\Q (.bl (!decide (x=y))) H
theorem YO{i j:Int}:decide (V.int i=V.int j)=(i==j):=by
 rw[Zf];simp
theorem zcM{i j:Bool}:decide (V.bl i=V.bl j)=(i==j):=by
 rw[Zf];simp
theorem YN{i j:Str}:decide (V.str i=V.str j)=(i==j):=by
 rw[Zf];simp
theorem YQ{i j:Array UInt8}:decide (V.byt i=V.byt j)=(i.toList==j.toList):=by
 rw[Zf];cases i;cases j;simp
section
variable{X:Cx}{a b c:Expr}{g l A:TE}{w:Pos}
theorem z9{f:List (Addr×Obj)}{σ:St}{H:Hp}{s:Shared}{Q:VK}{k B:Bool}(I:Inv X f σ H s)(q:Q (.bl k) H)(e:k=B):EP X f σ Q (.bool B) s:=by
 subst e;exact⟨.bl k,H,I,rfl,q⟩
theorem xN:OpR X (compareOp .Eq) rEq:=by
 intro D s σ H x y v u Q I C e h;obtain⟨B,q⟩:=h;cases x with
 | non=>
  cases C;cases y with
  | non=>cases e;exact PySem.EqNone.eq_none_none (z9 I q (by simp))
  | bl j=>cases e;exact PySem.EqNone.eq_none_bool (z9 I q (by simp))
  | int j=>obtain⟨f,rfl⟩:=e;exact PySem.EqNone.eq_none_int (z9 I q (by simp))
  | str j=>obtain⟨f,rfl⟩:=e;exact PySem.EqNone.eq_none_str (z9 I q (by simp))
  | _=>exact absurd (show false=true from B) qO
 | bl i=>
  cases C;cases y with
  | non=>cases e;exact PySem.EqNone.eq_bool_none (z9 I q (by simp))
  | bl j=>cases e;exact eq_bool (z9 I q zcM)
  | str j=>obtain⟨f,rfl⟩:=e;exact PySem.EqMixed.eq_bool_str (z9 I q (by simp))
  | _=>exact absurd (show false=true from B) qO
 | int i=>
  obtain⟨t,rfl⟩:=C;cases y with
  | non=>cases e;exact PySem.EqNone.eq_int_none (z9 I q (by simp))
  | int j=>obtain⟨f,rfl⟩:=e;exact eq_int (z9 I q YO)
  | str j=>obtain⟨f,rfl⟩:=e;exact PySem.EqMixed.eq_int_str (z9 I q (by simp))
  | _=>exact absurd (show false=true from B) qO
 | str i=>
  obtain⟨t,rfl⟩:=C;cases y with
  | non=>cases e;exact PySem.EqNone.eq_str_none (z9 I q (by simp))
  | bl j=>cases e;exact PySem.EqMixed.eq_str_bool (z9 I q (by simp))
  | int j=>obtain⟨f,rfl⟩:=e;exact PySem.EqMixed.eq_str_int (z9 I q (by simp))
  | str j=>obtain⟨f,rfl⟩:=e;exact eq_str (z9 I q YN)
  | _=>exact absurd (show false=true from B) qO
 | byt i=>
  obtain⟨t,rfl⟩:=C;cases y with
  | byt j=>obtain⟨f,rfl⟩:=e;exact PySem.W.eq_bytes (z9 I q YQ)
  | _=>exact absurd (show false=true from B) qO
 | _=>cases y<;>exact absurd (show false=true from B) qO
theorem zcc:OpR X (compareOp .NotEq) rNe:=by
 intro D s σ H x y v u Q I C e h;obtain⟨B,q⟩:=h;cases x with
 | non=>
  cases C;cases y with
  | non=>cases e;exact PySem.EqNone.ne_none_none (z9 I q (by simp))
  | bl j=>cases e;exact PySem.EqNone.ne_none_bool (z9 I q (by simp))
  | int j=>obtain⟨f,rfl⟩:=e;exact PySem.EqNone.ne_none_int (z9 I q (by simp))
  | str j=>obtain⟨f,rfl⟩:=e;exact PySem.EqNone.ne_none_str (z9 I q (by simp))
  | _=>exact absurd (show false=true from B) qO
 | bl i=>
  cases C;cases y with
  | non=>cases e;exact PySem.EqNone.ne_bool_none (z9 I q (by simp))
  | bl j=>cases e;exact ne_bool (z9 I q (congrArg not zcM))
  | str j=>obtain⟨f,rfl⟩:=e;exact PySem.EqMixed.ne_bool_str (z9 I q (by simp))
  | _=>exact absurd (show false=true from B) qO
 | int i=>
  obtain⟨t,rfl⟩:=C;cases y with
  | non=>cases e;exact PySem.EqNone.ne_int_none (z9 I q (by simp))
  | int j=>obtain⟨f,rfl⟩:=e;exact ne_int (z9 I q (congrArg not YO))
  | str j=>obtain⟨f,rfl⟩:=e;exact PySem.EqMixed.ne_int_str (z9 I q (by simp))
  | _=>exact absurd (show false=true from B) qO
 | str i=>
  obtain⟨t,rfl⟩:=C;cases y with
  | non=>cases e;exact PySem.EqNone.ne_str_none (z9 I q (by simp))
  | bl j=>cases e;exact PySem.EqMixed.ne_str_bool (z9 I q (by simp))
  | int j=>obtain⟨f,rfl⟩:=e;exact PySem.EqMixed.ne_str_int (z9 I q (by simp))
  | str j=>obtain⟨f,rfl⟩:=e;exact ne_str (z9 I q (congrArg not YN))
  | _=>exact absurd (show false=true from B) qO
 | byt i=>
  obtain⟨t,rfl⟩:=C;cases y with
  | byt j=>obtain⟨f,rfl⟩:=e;exact PySem.W.ne_bytes (z9 I q (congrArg not YQ))
  | _=>exact absurd (show false=true from B) qO
 | _=>cases y<;>exact absurd (show false=true from B) qO
theorem X1:OpR X (compareOp .Lt) (rI0 fun i j=>.bl (decide (i<j))):=zdz fun _ _ _ _ _ _ _ q=>lt_int q
theorem Yt:OpR X (compareOp .LtE) (rI0 fun i j=>.bl (decide (i<=j))):=zdz fun _ _ _ _ _ _ _ q=>le_int q
theorem Yu:OpR X (compareOp .Gt) (rI0 fun i j=>.bl (decide (j<i))):=zdz fun _ _ _ _ _ _ _ q=>gt_int q
theorem zeG:OpR X (compareOp .GtE) (rI0 fun i j=>.bl (decide (j<=i))):=zdz fun _ _ _ _ _ _ _ q=>ge_int q
theorem zcd:OpR X (compareOp .Is) (fun x y H Q=>y=.non/\Q (.bl (decide (x=.non))) H):=by
 intro e s σ H x y v u Q I f B h;obtain⟨rfl,q⟩:=h;cases B;refine is_none_gen (z9 I q ?_)
 cases x<;>first
  | (cases f;rfl)
  | (obtain⟨t,rfl⟩:=f;rfl)
theorem Zv:OpR X (compareOp .IsNot) (fun x y H Q=>y=.non/\Q (.bl (!decide (x=.non))) H):=by
 intro e s σ H x y v u Q I f B h;obtain⟨rfl,q⟩:=h;cases B;refine isnot_none_gen (z9 I q ?_)
 cases x<;>first
  | (cases f;rfl)
  | (obtain⟨t,rfl⟩:=f;rfl)
theorem OpR.or{f:Value->Value->Sem Value}{r B:R2}(h:OpR X f r)(E:OpR X f B):OpR X f (fun x y H Q=>r x y H Q\/B x y H Q):=by
 intro e s σ H x y v u Q I C D q;rcases q with q | q
 ·exact h e s σ H x y v u Q I C D q
 ·exact E e s σ H x y v u Q I C D q
theorem zO(b:Expr){e:CmpOp}(h:e≠.In:=by decide)(f:e≠.NotIn:=by decide):behindInMarks e b=false:=by
 have e1:(e==CmpOp.In)=false:=by cases e<;>first| rfl | exact absurd rfl h
 have e2:(e==CmpOp.NotIn)=false:=by cases e<;>first| rfl | exact absurd rfl f
 cases b<;>simp[behindInMarks,e1,e2]
theorem qX{f:CmpOp}{r:R2}(G:OpR X (compareOp f) r)(D:PE X a g)(hb:PE X b l)(E:behindInMarks f b=false):PE X (.Compare a [f] [b] w) (tOp r g l):=by
 intro e s σ H Q I h;exact wpAny_Compare1 (zfR D hb I h fun v u s2 x y B C J L q=>G e s2 σ B x y v u Q C J L q) E
def zef(t:TE):TT:=fun σ H Q=>t σ H fun x e=>IsB x e Q
theorem zJ{B:CmpOp}{r:R2}(O:OpR X (compareOp B) r)(M:PE X a g)(hb:PE X b l)(N:behindInMarks B b=false):PT X (.Compare a [B] [b] w) (zef (tOp r g l)):=by
 intro f s σ H Q I h;refine wpAny_isTrue_Compare1 (thn (M f s σ H _ I h) fun v s1 ⟨x,C,G,r1,T⟩=>thn (hb f s1 σ C _ G T) fun u s2 ⟨y,D,J,r2,U⟩=>
  thn (O f s2 σ D x y v u _ J r1 r2 U) fun c s3 ⟨z,E,L,r3,k,e,Y⟩=>?_) N
 subst e;cases r3;exact v0 ⟨E,L,Y⟩
def zba(r C:R2)(g l A:TE):TE:=fun σ H Q=>g σ H fun x f=>l σ f fun y s=>r x y s fun z e=>∃k,z=.bl k /\
 (if k=true then A σ e fun D B=>C y D B Q else Q (.bl false) e)
theorem zb8{D B:CmpOp}{r L:R2}(ho:OpR X (compareOp D) r)(C:OpR X (compareOp B) L)(ha:PE X a g)(hb:PE X b l)(hc:PE X c A)
  (hm:lastMarks [D,B] [b,c]=false:=by with_unfolding_all rfl):PE X (.Compare a [D,B] [b,c] w) (zba r L g l A):=by
 intro f s σ H Q I h;refine Compare_chain (thn (ha f s σ H _ I h) fun v s1 ⟨x,N,U,r1,q1⟩=>chain_link (thn (hb f s1 σ N _ U q1) fun u s2 ⟨y,O,Y,M,q2⟩=>
  thn (ho f s2 σ O x y v u _ Y r1 M q2) fun d s3 ⟨z,E,G,r3,k,e,J⟩=>?_)) hm
 subst e;cases r3;refine v0 ?_
 cases k with
 | false=>exact ite_ff ⟨.bl false,E,G,rfl,J⟩
 | true=>exact ite_tt (chain_last (thn (hc f s3 σ E _ G J) fun w' s4 ⟨z',T,I4,r4,q4⟩=>C f s4 σ T y z' u w' Q I4 M r4 q4))
theorem zbT{D B:CmpOp}{r L:R2}(ho:OpR X (compareOp D) r)(C:OpR X (compareOp B) L)(ha:PE X a g)(hb:PE X b l)(hc:PE X c A)
  (hm:lastMarks [D,B] [b,c]=false:=by with_unfolding_all rfl):PT X (.Compare a [D,B] [b,c] w) (zef (zba r L g l A)):=by
 intro f s σ H Q I h;refine isTrue_chain (thn (ha f s σ H _ I h) fun v s1 ⟨x,N,Y,r1,q1⟩=>test_link (thn (hb f s1 σ N _ Y q1) fun u s2 ⟨y,O,I2,M,q2⟩=>
  thn (ho f s2 σ O x y v u _ I2 r1 M q2) fun d s3 ⟨z,E,G,r3,k,e,J⟩=>?_)) hm
 subst e;cases r3;refine v0 ?_
 cases k with
 | false=>
  obtain⟨k',e',q'⟩:=J;cases e';exact ite_ff ⟨E,G,q'⟩
 | true=>
  refine ite_tt (test_last (thn (hc f s3 σ E _ G J) fun w' s4 ⟨z',T,I4,r4,q4⟩=>thn (C f s4 σ T y z' u w' _ I4 M r4 q4) fun d' s5 ⟨z2,U,I5,r5,k2,e2,q5⟩=>?_))
  subst e2;cases r5;exact v0 ⟨U,I5,q5⟩
theorem ZT:(sizeLine:Nat)<2^63:=by rw[sizeLine_eq];decide
inductive yx(x:V)(y:V)(H:Hp)(Q:VK):Prop
 | mk (i j:_) (_:x=.str i) (_:y=.str j) (_:i.length+j.length<=sizeLine) (_:Q (.str (i++j)) H):yx x y H Q
theorem VQ:OpR X (binaryOp .Add) (yx):=by
 intro e s σ H x y v u Q I B C h;obtain⟨i,j,rfl,rfl,f,q⟩:=h;obtain⟨t,rfl⟩:=B;obtain⟨D,rfl⟩:=C;exact add_str (fun D E=>⟨.str (i++j),H,I.tok _,⟨_,rfl⟩,q⟩) f
theorem vJ{x:V}{e:List Value}(r:Vals [x] e):∃u,e=[u]/\RelV x u:=by
 cases r with
 | cons f s=>cases s;exact⟨_,rfl,f⟩
theorem Xv{x y:V}{e:List Value}(r:Vals [x,y] e):∃u f,e=[u,f]/\RelV x u/\RelV y f:=by
 cases r with
 | cons s B=>
  cases B with
  | cons C D=>cases D;exact⟨_,_,rfl,s,C⟩
inductive Qw(e:List V)(H:Hp)(Q:VK):Prop
 | mk (i:_) (_:e=[.int i]) (_:Q (.int (if i<0 then -i else i)) H):Qw e H Q
theorem vc:CallR X (.builtin "abs") (Qw):=by
 intro e s σ H C B Q I r h;obtain⟨i,rfl,q⟩:=h;obtain⟨u,rfl,t,rfl⟩:=vJ r;exact call_abs_int fun u f=>⟨.int (if i<0 then -i else i),H,I.tok _,⟨_,rfl⟩,q⟩
inductive Zl(e:List V)(H:Hp)(Q:VK):Prop
 | mk (i j:_) (_:e=[.int i,.int j]) (_:Q (.int (if j>i then j else i)) H):Zl e H Q
theorem yK(hc:X.calm=true):CallR X (.builtin "max") (Zl):=by
 intro f s σ H J E Q I r h;obtain⟨i,j,rfl,q⟩:=h;obtain⟨u,G,rfl,⟨t,rfl⟩,⟨C,rfl⟩⟩:=Xv r;refine max_two_ints (I.ok.hd hc) fun B D k=>⟨_,H,I.kept k,?_,q⟩
 by_cases e:j>i
 ·rw[zC e,zC e];exact⟨_,rfl⟩
 ·rw[zv e,zv e];exact⟨_,rfl⟩
theorem yL:CallR X (.type "int") (fun e H Q=>(∃i,e=[.int i]/\Q (.int i) H)\/∃k,e=[.bl k]/\Q (.int (if k then 1 else 0)) H):=by
 intro f s σ H e C Q I r h;rcases h with ⟨i,rfl,q⟩ | ⟨k,rfl,q⟩
 ·obtain⟨u,rfl,t,rfl⟩:=vJ r
  exact call_int_int ⟨.int i,H,I,⟨_,rfl⟩,q⟩
 ·obtain⟨u,rfl,B⟩:=vJ r
  cases B;exact call_int_bool ⟨.int (if k then 1 else 0),H,I.tok _,⟨_,rfl⟩,q⟩
inductive wH(e:List V)(H:Hp)(Q:VK):Prop
 | mk (i j:_) (_:e=[.int i,.int j]) (_:zhq i j) (_:∀p,H p=none->Q (.ref p) (upd H p (.tup [.int (i/j),.int (i % j)]))):wH e H Q
theorem Vr:CallR X (.builtin "divmod") (wH):=by
 intro f s σ H L G Q I r h;obtain⟨i,j,rfl,⟨C,D⟩,q⟩:=h;obtain⟨u,J,rfl,⟨t,rfl⟩,⟨E,rfl⟩⟩:=Xv r;refine divmod_int (by omega) ?_ (.inl (PyProof.noPylong_small (by omega)))
 rw[zc0 i (by omega),zcZ i (by omega)]
 have B:H s.heap.objs.size=none:=I.hok.fresh (zM _);refine⟨.ref s.heap.objs.size,_,?_,rfl,q _ B⟩
 refine I.laid (fun b o e=>qr _ e) (zM _) ⟨by simp only[xh,Qj];rw[sizeLine_eq];decide,[.int (i/j) s.toks,.int (i % j) (s.toks+1)],.cons ⟨_,rfl⟩ (.cons ⟨_,rfl⟩ .nil),?_⟩
 exact⟨⟨_,qk s.heap rfl,rfl,0,rfl⟩,_,qk s.heap rfl,rfl⟩
end
structure ObjM(h:Heap)(x dx C:Addr)(mA:Str->Option Value):Prop where
 obj:h.get? x=some (PySem.W.instObj C dx)
 ns:h.Ns1 dx mA
 ne:dx≠x
section
variable{e:Program}{w:World}{A:Around}{E:Value->Shared->Prop}{s:Shared}{K:W.Frag}{x g C f:Addr}{l:Str->Option Value}{c:Str}{v:Value}
end
def putF(f:Str)(v:V):List (Str×V)->List (Str×V)
 | []=>[(f,v)]
 | (g,x)::r=>if g=f then(g,v)::r else(g,x)::putF f v r
theorem RelO.some_of{v:V}{o:Option Value}(r:RelO (some v) o):∃u,o=some u/\RelV v u:=by
 cases o with
 | none=>exact(show False from r).elim
 | some u=>exact⟨u,rfl,r⟩
section
variable{P:Program}{w:World}{H e:Hp}{h l:Heap}{a C f:Addr}{g c:List (Str×V)}
end
structure Cls(K:W.Frag)(C:Addr):Prop where
 pg:PySem.W.plainGet K C Str.empty=true
 hd:PySem.W.hasDictIn K C=true
 po:PySem.W.plainOver K C=true
 sa:PySem.W.findIn K (.ref C) "__setattr__" = some (some (.builtin "object.__setattr__"))
theorem Cls.get{K:W.Frag}{C:Addr}(c:Cls K C)(f:Str):PySem.W.plainGet K C f=true:=c.pg
structure Con(K:W.Frag)(C:Addr)(f:Str)(v:V)(u:Value):Prop where
 at_:PySem.W.findIn K (.ref C) f=some (some u)
 rel:RelV v u
 get:PySem.W.specialIn K u "__get__" = some none
 cp:PySem.W.copiedNames.contains f=false
structure Meth(K:W.Frag)(C:Addr)(m:Str)(f:Addr):Prop where
 at_:PySem.W.findIn K (.ref C) m=some (some (.ref f))
 fn:PySem.W.isFn K (.ref f)=true
 kp:PySem.W.keepIn K (.ref f)=true
section
variable{X:Cx}{c:List (Addr×Obj)}{σ:St}{H:Hp}{s:Shared}{a C g:Addr}{l:List (Str×V)}{f:Str}{v:V}{A:Around}{E:Value->Shared->Prop}
theorem Inv.made(I:Inv X c σ H s):Inv X c σ (upd (upd H s.heap.objs.size (.own (s.heap.objs.size+1))) (s.heap.objs.size+1) (.ins C s.heap.objs.size []))
  { s with heap:=(s.heap.push PySem.W.emptyDict).push (PySem.W.instObj C s.heap.objs.size) }:=by
 have e1:(s.heap.push PySem.W.emptyDict).get? s.heap.objs.size=some PySem.W.emptyDict:=qk s.heap rfl;have e2:((s.heap.push PySem.W.emptyDict).push (PySem.W.instObj C s.heap.objs.size)).get? (s.heap.objs.size+1)=some (PySem.W.instObj C s.heap.objs.size):=by
  have:=qk (s.heap.push PySem.W.emptyDict) (o:=PySem.W.instObj C s.heap.objs.size) rfl;rwa[xg] at this
 have B:(s.heap.push PySem.W.emptyDict).Ns s.heap.objs.size (fun _=>none):=⟨PySem.W.emptyDict,#[],_,e1,rfl,(fun e D=>absurd D (by simp)),fun _=>rfl⟩
 have w:=I.laid (a:=s.heap.objs.size) (o:=.own (s.heap.objs.size+1)) (h':=s.heap.push PySem.W.emptyDict) (t':=s.toks) (fun b u q=>qr _ q) (zM _) ⟨_,e1⟩
 refine w.laid (a:=s.heap.objs.size+1) (o:=.ins C s.heap.objs.size []) (t':=s.toks) (fun b u q=>qr _ q) (wf (xg _ _)) ?_
 have ne:s.heap.objs.size≠s.heap.objs.size+1:=qw (Qb _);refine⟨by rw[zm ne,zc],qQ _,ne,e2,fun _=>none,(Heap.Ns1.of_empty B).at fun o q=>qr _ q,fun _=>True.intro,fun y hy=>absurd rfl hy⟩
end
section
variable{X:Cx}{o e c:Expr}{f:Str}{s g l:Pos}{w A:TE}
end
section
variable{X:Cx}{f:List (Addr×Obj)}{σ:St}{H:Hp}{s:Shared}{A:Around}{E:Value->Shared->Prop}{Q:Value->Shared->Prop}{c:Value}{b:Bool}
inductive Qr(K:W.Frag)(H:Hp):V->Value->Prop where
 | non:Qr K H .non (.type "NoneType")
 | bl (x:Bool):Qr K H (.bl x) (.type "bool")
 | int (i:Int):Qr K H (.int i) (.type "int")
 | str (x:Str):Qr K H (.str x) (.type "str")
 | flt (x:UInt64):Qr K H (.flt x) (.type "float")
 | lst {a:Addr} {l:List V} (e:H a=some (.lst l)):Qr K H (.ref a) (.type "list")
 | frz {a:Addr} {o:Obj} {l:List V} (e:H a=some (.frz o (.lst l))):Qr K H (.ref a) (.type "list")
 | tup {a:Addr} {l:List V} (e:H a=some (.tup l)):Qr K H (.ref a) (.type "tuple")
 | dK {a:Addr} {g:List (Key×V)} (e:H a=some (.dK g)):Qr K H (.ref a) (.type "dict")
 | dT {a:Addr} {g:List (List Key×V)} (e:H a=some (.dT g)):Qr K H (.ref a) (.type "dict")
 | ins {a C w:Addr} {B:List (Str×V)} (e:H a=some (.ins C w B)) (G:Cls K C) (I:PySem.W.findIn K (.ref C) "__class__" = some (some (.builtin "object.__class__")))
   (L:PySem.W.specialIn K (.builtin "object.__class__") "__get__" = some (some (.builtin "getset_descriptor.__get__"))) (D:PySem.W.takesIn K (.builtin "object.__class__")=some true)
   (J:PySem.W.mroIn K C (.type "object")=some true):Qr K H (.ref a) (.ref C)
end
structure Room(k:Nat)(A:Around):Prop where
 hd:A.handled=none
 dp:A.depth+3*k+5<recursionLimit
 un:A.units+16*k+200<cLine
 gd:A.guards=some []
theorem Room.mono{j k:Nat}{A:Around}(r:Room k A)(h:j<=k):Room j A:=⟨r.hd,by have:=r.dp;omega,by have:=r.un;omega,r.gd⟩
theorem Room.m{j k:Nat}{A:Around}(r:Room k A)(h:j<=k:=by decide):Room j A:=r.mono h
theorem Room.deeper{k:Nat}{A:Around}(r:Room (k+1) A)(c:Env):Room k (A.deeper c):=
 ⟨r.hd,by have:=r.dp;show A.depth+1+3*k+5<_;omega,by have:=r.un;show A.units+3+16*k+200<_;omega,r.gd⟩
theorem Room.in1{k:Nat}{A:Around}(r:Room (k+1) A):Room k A.in1:=
 ⟨r.hd,by have:=r.dp;show A.depth+3*k+5<_;omega,by have:=r.un;show A.units+1+16*k+200<_;omega,r.gd⟩
theorem Room.depth{k:Nat}{A:Around}(r:Room k A):A.depth<recursionLimit:=by have:=r.dp;omega
theorem Room.units{k:Nat}{A:Around}(r:Room k A):A.units+64<cLine:=by have:=r.un;omega
theorem Room.units0{k:Nat}{A:Around}(r:Room k A):A.units<cLine:=by have:=r.un;omega
def zf0:TA:=fun _ H Q=>Q [] H
def QO(f:TE)(g:TA):TA:=fun σ H Q=>f σ H fun x c=>g σ c fun l e=>Q (x::l) e
section
variable{X:Cx}{e:Expr}{f:List Expr}{g:TE}{t:TA}{c:Pos}
theorem zd:PA X [] zf0:=fun _ _ _ _ H Q I h=>Xf ⟨[],H,I,.nil,h⟩
theorem za(D:PE X e g)(E:PA X f t)(G:starEach (e::f) X.env=(false,eval e X.env)::starEach f X.env:=by rfl):PA X (e::f) (QO g t):=by
 intro c l s σ H Q I h;rw[G];show wpAny _ _ (spliced ((false,eval e X.env)::backTo c (starEach f X.env))) _ _ s;refine yY (thn (D l s σ H _ I h) fun u s1 ⟨x,w,B,M,J⟩=>?_)
 exact thn (E c l s1 σ w _ B J) fun T s2 ⟨O,A,C,N,L⟩=>⟨x::O,A,C,.cons M N,L⟩
def zht(t:TA):TE:=fun σ H Q=>t σ H fun s l=>s.length<=sizeLine/\∀p,l p=none->Q (.ref p) (upd l p (.tup s))
def zhz(t:TA):TE:=fun σ H Q=>t σ H fun s l=>s.length<=sizeLine/\∀p,l p=none->Q (.ref p) (upd l p (.lst s))
theorem qS{D}(h:PA X f t):PE X (.Tuple f D c) (zht t):=by
 intro l s σ H Q I hq;refine wpAny_Tuple_spliced (thn (h c l s σ H _ I hq) fun C s1 ⟨E,w,A,r,z,q⟩=>⟨by rw[<- r.length];exact z,?_⟩)
 have B:w s1.heap.objs.size=none:=A.hok.fresh (zM _);refine⟨.ref s1.heap.objs.size,upd w s1.heap.objs.size (.tup E),A.laid (t':=s1.toks) (fun b u e=>qr _ e) (zM _) ?_,rfl,q _ B⟩
 exact⟨z,C,r,⟨_,qk _ rfl,rfl,_,rfl⟩,_,qk _ rfl,rfl⟩
theorem zV(h:PA X f t):PE X (.List f c) (zhz t):=by
 intro l s σ H Q I hq;refine wpAny_List_spliced (thn (h c l s σ H _ I hq) fun C s1 ⟨D,w,A,r,z,q⟩=>⟨by rw[<- r.length];exact z,?_⟩)
 have B:w s1.heap.objs.size=none:=A.hok.fresh (zM _);refine⟨.ref s1.heap.objs.size,upd w s1.heap.objs.size (.lst D),A.laid (t':=s1.toks) (fun b u e=>qr _ e) (zM _) ?_,rfl,q _ B⟩
 exact⟨z,C,0,r,qk _ rfl⟩
end
abbrev Sp:=List V->Hp->VK->XK->Prop
abbrev CXT:=List Env->Hp->Shared->XK->Value->Shared->Prop
structure Env0(P:Program)(w:World)(K:W.Frag)(mg:Str->Option Value)(base:Heap)(A:Around)(outer:List Env)(s:Shared)(H:Hp):Prop where
 frames:A.frames=some outer
 mod:Mod K mg base
 bs:∀b o,base.get? b=some o->s.heap.get? b=some o/\H b=none
 bsz:base.objs.size<=s.heap.objs.size
 funs:s.heap.FunFrames base outer
 frf:∀b∈frs outer,H b=none
 hok:HOk P w H s.heap
 bare:AllBare s.gens
def CE(c:List Env)(P:Program)(w:World)(H:Hp)(s:Shared)(Q:VK)(u:Value)(e:Shared):Prop:=
 ∃v f,e.os=s.os/\AllBare e.gens/\Un (frs c) [] H f s.heap e.heap/\HOk P w f e.heap/\RelV v u/\Q v f
def CR(g:CXT)(c:List Env)(P:Program)(w:World)(H:Hp)(s:Shared)(Q:VK)(E:XK)(r:Result)(f:Shared):Prop:=
 match r with
 | .ok (.ret u)=>CE c P w H s Q u f
 | .ok _=>False
 | .error e=>g c H s E e f
structure FnOk(P:Program)(w:World)(K:W.Frag)(mg:Str->Option Value)(base:Heap)(CX:CXT)(k:Nat)(f:Addr)(fd:FuncData)(ps:List Str)(sp:Sp):Prop where
 len:∀vs H Q E,sp vs H Q E->vs.length=ps.length
 run:∀(A:Around) (outer:List Env) (s:Shared) (H:Hp) (args:Args) (us:List Value) (vs:List V) (Q:VK) (E:XK),Room k A->Env0 P w K mg base A outer s H->BindsTo s fd args (ps.zip us)->Vals vs us->sp vs H Q E ->
  codeAny (model P w) A (.call (.ref f) args) (CR CX outer P w H s Q E) s
theorem FnOk.mono{P:Program}{w:World}{K:W.Frag}{B:Str->Option Value}{c:Heap}{g:CXT}{j k:Nat}{f:Addr}{l:FuncData}{C:List Str}{D:Sp}(F:FnOk P w K B c g j f l C D)(h:j<=k) :
  FnOk P w K B c g k f l C D:=⟨F.len,fun A e s H args I J Q E G=>F.run A e s H args I J Q E (G.mono h)⟩
theorem FnOk.imp{P:Program}{w:World}{K:W.Frag}{D:Str->Option Value}{c:Heap}{B:CXT}{k:Nat}{f:Addr}{C:FuncData}{G:List Str}{I l:Sp}(F:FnOk P w K D c B k f C G I)
  (h:∀g H Q E,l g H Q E->I g H Q E):FnOk P w K D c B k f C G l:=
 ⟨fun g H Q E q=>F.len g H Q E (h _ _ _ _ q),fun A e s H args O g Q E L J hb N M=>F.run A e s H args O g Q E L J hb N (h _ _ _ _ M)⟩
theorem Env0.in1{P:Program}{w:World}{K:W.Frag}{g:Str->Option Value}{f:Heap}{A:Around}{c:List Env}{s:Shared}{H:Hp}(e:Env0 P w K g f A c s H) :
  Env0 P w K g f A.in1 c s H:=⟨e.frames,e.mod,e.bs,e.bsz,e.funs,e.frf,e.hok,e.bare⟩
section
variable{X:Cx}{c:List (Addr×Obj)}{σ:St}{H:Hp}{s e:Shared}
theorem Inv.env0(I:Inv X c σ H s):Env0 X.prog X.w X.K X.mg X.base X.A X.stack s H:=
 ⟨I.ok.frames,I.ok.mod,I.bs,jx I.ok.bsz I.sz,I.stack,I.stkFree,I.hok,I.bare⟩
theorem Inv.after{Q:VK}{u:Value}(I:Inv X c σ H s)(h:CE X.stack X.prog X.w H s Q u e):EP X c σ Q u e:=by
 obtain⟨v,A,os,f,un,l,r,q⟩:=h;obtain⟨B,g,d,t,w⟩:=e;obtain rfl:w=s.os:=os;exact⟨v,A,I.call (h':=B) (g':=g) (d':=d) (t':=t) (ch:=[]) un l f (fun b z=>absurd z (by simp)),r,q⟩
end
def zeg(f:Sp)(c:List V)(E:XK)(t:TA):TE:=fun σ H Q=>t σ H fun g e=>f (g++c) e Q E
def Binds(K:W.Frag)(g:FuncData)(f:List Str)(e:List Value):Prop:=
 ∀(s:Shared) (c:List Value),K.In s.heap->(c++e).length=f.length->BindsTo s g ⟨c,[]⟩ (f.zip (c++e))
theorem Binds.all{K:W.Frag}{f:FuncData}{e:List Str}(h:∀c:List Value,c.length=e.length->bindArgs f ⟨c,[]⟩=pure (e.zip c)):Binds K f e []:=fun s c _ g=>by
 rw[jH] at g ⊢;exact .of_eq (h c g)
def WG(g:CXT)(X:Cx)(E:XK):Prop:=∀(c:List (Addr×Obj)) (σ:St) (H:Hp) (s:Shared) (e:Value) (f:Shared),Inv X c σ H s->g X.stack H s E e f->X.xe e f
section
variable{X:Cx}{B:CXT}{k:Nat}{f C:Addr}{D:FuncData}{A:List Str}{G:Sp}{c:List V}{g:List Value}{E:XK}{x m:Str}{p l J:Pos}{e o:Expr}{w:List Expr}{L:TE}{t:TA}
theorem ze5{M:List (Addr×Obj)}{σ:St}{H:Hp}{s:Shared}{Q:VK}{N:List Value}{O:List V}(F:FnOk X.prog X.w X.K X.mg X.base B k f D A G)(hr:Room k X.A)(hb:Binds X.K D A g)(Y:Vals c g)(hx:WG B X E)
  (I:Inv X M σ H s) (r:Vals O N) (h:G (O++c) H Q E):wpAny (model X.prog X.w) X.A (call (.ref f) N) (EP X M σ Q) X.xe s:=by
 have T:Vals (O++c) (N++g):=r.append Y;have hl:(N++g).length=A.length:=by rw[<- T.length];exact F.len _ _ _ _ h
 refine wpAny_call (codeAny_mono (F.run X.A X.stack s H ⟨N,[]⟩ (N++g) (O++c) Q E hr I.env0 (hb s N I.kIn hl) T h) fun r s' hq=>?_)
 cases r with
 | error e=>exact hx M σ H s e s' I hq
 | ok U=>
  cases U with
  | ret u=>exact I.after hq
  | next=>exact False.elim hq
  | brk=>exact False.elim hq
  | cont=>exact False.elim hq
theorem zdu(F:FnOk X.prog X.w X.K X.mg X.base B k f D A G)(hr:Room k X.A)(hg:Gl X x)(hm:X.mg x=some (.ref f))(hk:PySem.W.keepIn X.K (.ref f)=true)(hb:Binds X.K D A g)(Y:Vals c g)(hx:WG B X E)
  (U:PA X (e::w) t) (N:(x==("__debug__":Str))=false:=by decide) (he:starEach (e::w) X.env=(false,eval e X.env)::starEach w X.env:=by rfl) (O:(backTo l (starEach w X.env)).any (·.1)=false:=by rfl) :
  PE X (.Call (.Name x p) (e::w) [] l) (zeg G c E t):=by
 intro M s σ H Q I h;refine wpAny_Call_Name_kw (zdR I hg hm ?_ N)
 refine PySem.W.callWith_K (h₀:=X.base) I.ok.mod.kin hk (thn (U l M s σ H _ I h) fun us s1 ⟨vs,H1,T,r,q⟩=>⟨T.kIn,?_⟩) he O
 exact ze5 F hr hb Y hx T r q
structure Mk(K:W.Frag)(C f:Addr):Prop where
 makes:PySem.W.makesIn K C=true
 init:PySem.W.findIn K (.ref C) "__init__" = some (some (.ref f))
 fn:PySem.W.isFn K (.ref f)=true
 kp:PySem.W.keepIn K (.ref C)=true
end
section
variable{X:Cx}{B:CXT}{k:Nat}{f C:Addr}{fd:FuncData}{ps ks:List Str}{H:Sp}{E:XK}{x m:Str}{p A c l:Pos}{e o:Expr}{D:List Expr}{w:List Keyword}{J I:TE}{t L:TA}{G:Option Str}
structure KBinds(K:W.Frag)(fd:FuncData)(ps ks:List Str)(g:List Value->List Value->List Value)(gV:List V->List V->List V):Prop where
 to:∀(s:Shared) (us ws:List Value),K.In s.heap->(g us ws).length=ps.length->BindsTo s fd ⟨us,ks.zip ws⟩ (ps.zip (g us ws))
 rel:∀{vs:List V} {us:List Value} {zs:List V} {ws:List Value},Vals vs us->Vals zs ws->Vals (gV vs zs) (g us ws)
variable{g:List Value->List Value->List Value}{gV:List V->List V->List V}
end
structure zB(N P:List Str)(sc:Scope):Prop where
 kind:sc.kind=.function
 co:sc.isCoroutine=false
 gen:sc.isGenerator=false
 nd:N.Nodup
 pre:N.take P.length=P
 par:∀x∈P,sc.names.lookup x=some .local\/sc.names.lookup x=some .cell
 nofree:∀y∈sc.names,y.2≠.free
theorem Jq{kindOf:Str->Option NameKind}{x:Str}:∀{c:List (Str×Value)} {m:Str->Option Value},(∀v,(x,v)∉c)->bindL kindOf c m x=m x
 | [],_,_=>rfl
 | (n,v)::r,m,h=>by
  unfold bindL;rw[Jq fun w e=>h w (jn _ e)]
  split
  ·have:x≠n:=by rintro rfl;exact h v jz
   simp[this]
  ·rfl
theorem Js{kindOf:Str->Option NameKind}{x:Str}:∀{c:List (Str×Value)} {m:Str->Option Value},(∀v,(x,v)∉c)->bindC kindOf c m x=m x
 | [],_,_=>rfl
 | (n,v)::r,m,h=>by
  unfold bindC;rw[Js fun w e=>h w (jn _ e)]
  split
  ·rfl
  ·have:x≠n:=by rintro rfl;exact h v jz
   simp[this]
theorem Jr{kindOf:Str->Option NameKind}{x:Str}{v:Value}:∀{P:List Str} {c:List Value} {i:Nat} {m:Str->Option Value},P.Nodup->P[i]? =some x->c[i]? =some v->kindOf x=some .local ->
  bindL kindOf (P.zip c) m x=some v
 | [],_,_,_,_,h,_,_=>by simp at h
 | _::_,[],_,_,_,_,h,_=>by simp at h
 | p::P,w::c,0,m,g,e,f,hk=>by
  simp at e f;subst e;subst f
  show bindL kindOf ((p,w)::P.zip c) m p=_;unfold bindL;rw[Jq fun v l=>(yT.mp g).1 (V9 l).1,zC hk]
  simp
 | p::P,w::c,i+1,m,g,e,f,hk=>by
  show bindL kindOf ((p,w)::P.zip c) m x=_;unfold bindL;exact Jr (i:=i) (yT.mp g).2 (by simpa using e) (by simpa using f) hk
theorem Jt{kindOf:Str->Option NameKind}{x:Str}{v:Value}:∀{P:List Str} {c:List Value} {i:Nat} {m:Str->Option Value},P.Nodup->P[i]? =some x->c[i]? =some v->kindOf x≠some .local ->
  bindC kindOf (P.zip c) m x=some v
 | [],_,_,_,_,h,_,_=>by simp at h
 | _::_,[],_,_,_,_,h,_=>by simp at h
 | p::P,w::c,0,m,g,e,f,hk=>by
  simp at e f;subst e;subst f
  show bindC kindOf ((p,w)::P.zip c) m p=_;unfold bindC;rw[Js fun v l=>(yT.mp g).1 (V9 l).1,zv hk]
  simp
 | p::P,w::c,i+1,m,g,e,f,hk=>by
  show bindC kindOf ((p,w)::P.zip c) m x=_;unfold bindC;exact Jt (i:=i) (yT.mp g).2 (by simpa using e) (by simpa using f) hk
def y4(N:List Str)(c:List V):St:=c.map some++List.replicate (N.length-c.length) none
def zaO(C:CXT)(P:Program)(w:World)(K:W.Frag)(mg:Str->Option Value)(base:Heap)(N:List Str)(g:Str)(c:Scope)(f:Addr)(B:Value)(A:Around)(outer:List Env)(s:Shared)(H:Hp)(E:XK):Cx where
 prog:=P
 w:=w
 K:=K
 mg:=mg
 base:=base
 A:=A.deeper (envOfC g c s.heap.objs.size f B)
 N:=N
 s₀:=s
 H₀:=H
 env:=envOfC g c s.heap.objs.size f B
 outer:=outer
 stack:=envOfC g c s.heap.objs.size f B::outer
 ex:=[]
 calm:=true
 fn:=fun _=>true
 pn:=[]
 xe:=fun e G=>wpAny (model P w) (A.deeper (envOfC g c s.heap.objs.size f B)) (leaving (envOfC g c s.heap.objs.size f B) e) (fun _ l=>C outer H s E e l) (fun D l=>C outer H s E D l) G
theorem Vq{e:Scope}{n:Nat}{x:Str}(h:e.names.lookup x=some .cell):∃c,(cellsFrom n e.names []).lookup x=some c:=by
 have q:=PySem.W.cellsFrom_some e.names n [] (.inl h);exact Option.isSome_iff_exists.mp q
theorem zaI{CX:CXT}{P:Program}{w:World}{K:W.Frag}{U:Str->Option Value}{D:Heap}{N J:List Str}{B:Str}{g:Scope}{f:Addr}{O:Value}{A:Around}{l:List Env}{s s1:Shared}{H:Hp}{E:XK}{Y:List Value}{L:List V}
  (S:zB N J g) (hd:A.handled=none) (G:Env0 P w K U D A l s H) (hl:L.length=J.length) (r:Vals L Y)
  (x:InCallC s s.heap.objs.size (bindL (envOfC B g s.heap.objs.size f O).kindOf (J.zip Y) fun _=>none) (cellsFrom (s.heap.objs.size+1) g.names []) (bindC (envOfC B g s.heap.objs.size f O).kindOf (J.zip Y) fun _=>none) s1) :
  Inv (zaO CX P w K U D N B g f O A l s H E) [] (y4 N L) H s1:=by
 have a0:J.length<=N.length:=by have:=congrArg List.length S.pre;rw[qi] at this;omega
 obtain⟨Q,tk,rfl,hk⟩:=x.done;have I:∀b:Addr,b∉(zaO CX P w K U D N B g f O A l s H E).ex:=fun b z=>absurd (show b∈([]:List Addr) from z) (by simp)
 refine⟨⟨G.mod,S.kind,rfl,rfl,zM _,fun y z c Q C=>?_,fun y hy=>?_,fun y c _ h=>?_,fun _=>hd,Around.frames_deeper G.frames,.inr ⟨rfl,rfl⟩,fun b z=>absurd z (I b),G.bs,G.bsz,fun b _ _=>I b,fun b z=>absurd z (I b),G.funs,G.frf⟩,
  rfl,G.bare,Un.kept hk,⟨_,x.toInCall.ns,fun i y v Q C h3=>?_⟩,fun y c h=>⟨_,x.cell y c h⟩,G.hok.fresh (zM _),fun y c h=>?_,fun p hp=>absurd (show p∈([]:List (Addr×Obj)) from hp) (by simp),G.hok.kept hk,?_⟩
 ·exact name_of_addr x.apart (wE Q) (wE C)
 ·have hy:g.names.lookup y=some .cell\/g.names.lookup y=some .free:=hy
  rcases hy with hy | hy
  ·exact Vq hy
  ·exact absurd rfl (S.nofree _ (wE hy))
 ·exact yP (x.above y c (wE h))
 ·have T:i<L.length:=by
   unfold y4 at C;by_cases T:i<L.length
   ·exact T
   ·rw[xQ (by simpa using T)] at C
    rw[List.getElem?_replicate] at C
    split at C<;>cases C
  have ha:L[i]? =some v:=by
   unfold y4 at C;rw[xH (by simpa using T),qv] at C
   cases e:L[i]? with
   | none=>rw[e] at C;cases C
   | some a=>rw[e] at C;cases C;rfl
  obtain⟨u,hu,rv⟩:=r.get ha;have hp:J[i]? =some y:=by
   rw[<- S.pre,List.getElem?_take_of_lt (by omega)];exact Q
  have M:J.Nodup:=by rw[<- S.pre];exact S.nd.sublist (Wd _ _)
  refine⟨u,rv,?_⟩
  rcases S.par y (qq hp) with k | k
  ·exact .inl ⟨k,Jr M hp hu k⟩
  ·obtain⟨c,e⟩:=Vq (n:=s.heap.objs.size+1) k
   refine .inr ⟨.inl k,c,e,?_⟩
   have q:=x.cell y c e;rw[Jt M hp hu (by show g.names.lookup y≠_;rw[k];decide)] at q
   exact q
 ·exact G.hok.fresh (yP (x.above y c (wE h)))
 ·unfold y4
  show _=N.length;rw[zZ,zp,wF];omega
theorem zha{CX:CXT}{P:Program}{w:World}{K:W.Frag}{mg:Str->Option Value}{C:Heap}{k:Nat}{f:Addr}{M l:Str}{D:Arguments}{body:List Stmt}{c:Scope}{dV kV Y pm B ct oc:Value}{an od:Option Addr}
  {af:Array (Option Value)} {N ps:List Str} {sp:Sp} (lk:K.lookup f=some ⟨oc,od,.func (PySem.W.fnOf M l D body c dV kV Y pm an B ct),af⟩) (ac:PySem.W.codeIn K B l=true) (S:zB N ps c)
  (ab:∀G H Q E,sp G H Q E->G.length=ps.length)
  (O:∀(A:Around) (g:List Env) (s:Shared) (H:Hp) (G:List V) (Q:VK) (E:XK),Room k (A.deeper (envOfC l c s.heap.objs.size f B))->sp G H Q E ->
   ∃t,PSs (zaO CX P w K mg C N l c f B A g s H E) body t/\t { nx:=fun _ L=>Q .non L,rt:=Q } (y4 N G) H) :
  FnOk P w K mg C CX (k+1) f (PySem.W.fnOf M l D body c dV kV Y pm an B ct) ps sp:=by
 refine⟨ab,fun A g s H args us G Q E hr e0 hb r aa=>?_⟩
 have hl:=ab _ _ _ _ aa;have KX:K.In s.heap:=e0.mod.kin.keeps fun b o e=>(e0.bs b o e).1
 have ae:s.heap.NoLimit:=e0.mod.nolimit.keeps fun b o e=>(e0.bs b o e).1
 have T:∀y∈ps.zip us,c.names.lookup y.1=some .local\/(c.names.lookup y.1=some .cell/\((cellsFrom (s.heap.objs.size+1) c.names []).lookup y.1).isSome=true):=fun ⟨n,v⟩ hy=>by
  rcases S.par n (V9 hy).1 with q | q
  ·exact .inl q
  ·exact .inr ⟨q,PySem.W.cellsFrom_some _ _ _ (.inl q)⟩
 refine codeAny_call_function hr.depth (KX _ _ lk) rfl S.co S.gen rfl (PySem.W.codeRec_of KX ac) (hb _ _ _ _ ?_)
 refine wpAny_newFunctionEnv_cells S.kind T fun ag he s1 x=>?_
 subst he;refine⟨ae.keeps x.toInCall.keep,codeAny_func ?_⟩
 obtain⟨t,ht,hq⟩:=O A g s H G Q E (hr.deeper _) aa;have I:Inv (zaO CX P w K mg C N l c f B A g s H E) [] (y4 N G) H s1:=zaI S hr.hd e0 hl r x;refine qg (ht [] s1 (y4 N G) H _ I hq) (fun fl s' U=>?_) fun e s' U=>U
 have a0:∀{σ':St} {L:Hp} {v:V} {u:Value},Inv (zaO CX P w K mg C N l c f B A g s H E) [] σ' L s'->RelV v u->Q v L->CE g P w H s Q u s':=
  fun {σ' L v u} J rv q=>⟨v,L,J.os,J.bare,J.base,J.hok,rv,q⟩
 cases fl with
 | ret u=>
  obtain⟨v,σ',L,J,rv,q⟩:=U;exact a0 J rv q
 | next=>
  obtain⟨σ',L,J,q⟩:=U;exact a0 (v:=V.non) (u:=Value.none) J rfl q
 | brk=>
  obtain⟨_,_,_,q⟩:=U;exact False.elim q
 | cont=>
  obtain⟨_,_,_,q⟩:=U;exact False.elim q
section
variable{X:Cx}{x:Str}{p c:Pos}{e:Expr}{f:List Expr}{t:TA}{id T:String}{r:List V->Hp->VK->Prop}
def tCB(r:List V->Hp->VK->Prop)(t:TA):TE:=fun σ H Q=>t σ H fun l g=>r l g Q
theorem zt(hc:CallR X (.builtin id) r)(E:Gl X x)(G:X.mg x=none)(L:bootBuiltins x=some (.builtin id))(C:PA X (e::f) t)(J:x ≠ "__name__" :=by decide)(l:(x==("__debug__":Str))=false:=by decide)
  (D:starEach (e::f) X.env=(false,eval e X.env)::starEach f X.env:=by rfl) (w:(backTo c (starEach f X.env)).any (·.1)=false:=by rfl):PE X (.Call (.Name x p) (e::f) [] c) (tCB r t):=by
 intro g s σ H Q I h;refine wpAny_Call_Name_kw (vv I E G L ?_ J l)
 exact PyProof.Rows.callWith_builtin1 (thn (C c g s σ H _ I h) fun O s1 ⟨U,A,B,N,M⟩=>hc g s1 σ A U O Q B N M) D w
theorem qL(hc:CallR X (.type T) r)(E:Gl X x)(G:X.mg x=none)(L:bootBuiltins x=some (.type T))(C:PA X (e::f) t)(J:x ≠ "__name__" :=by decide)(l:(x==("__debug__":Str))=false:=by decide)
  (D:starEach (e::f) X.env=(false,eval e X.env)::starEach f X.env:=by rfl) (w:(backTo c (starEach f X.env)).any (·.1)=false:=by rfl):PE X (.Call (.Name x p) (e::f) [] c) (tCB r t):=by
 intro g s σ H Q I h;refine wpAny_Call_Name_kw (vv I E G L ?_ J l)
 exact Qe (thn (C c g s σ H _ I h) fun O s1 ⟨U,A,B,N,M⟩=>hc g s1 σ A U O Q B N M) D w
end
end L2
namespace HT
open PySem PyProof.Rows
section
open PySem.SeqAt
open PySem.AutoSeq1 (wpAny_loadPart')
open PySem.MeetsSeq PySem.MeetsSeq2 PySem.MeetsSeq3
end
section
variable{c:Program}{w:World}{A:Around}{E:Value->Shared->Prop}{s:Shared}
theorem cat_tup{t b:Addr}{l f:List Value}{Q:Value->Shared->Prop}(ht:IsTup s.heap t l.toArray)(hb:IsTup s.heap b f.toArray)(O:l≠[])
  (Y:f=[]->Q (.ref t) s) (h2:f≠[]->Q (.ref s.heap.objs.size) { s with heap:=s.heap.push { cls:=.type "tuple",data:=.seq (l++f).toArray } })
  (J:l.length+f.length<=sizeLine):wpAny (model c w) A (binaryOp .Add (.ref t) (.ref b)) Q E s:=by
 obtain⟨⟨cls,M,data,U⟩,H,hc,n,N⟩:=id ht;obtain⟨⟨L,B,data2,G⟩,g,C,T,D⟩:=id hb;simp only at hc N C D;subst hc N C D;have e:l.toArray++f.toArray=(l++f).toArray:=by simp
 by_cases I:f=[]
 ·exact concat_meets ⟨_,H,rfl⟩ ⟨_,g,rfl⟩ noFill_tuple_add seq_tuple_add Wt Wv (Wy _ _)
   (tuple_addW1 t b l.toArray f.toArray n T M B U G (by simpa using O) (by simp[I])) ⟨H,g,Y I⟩
 ·refine concat_meets ⟨_,H,rfl⟩ ⟨_,g,rfl⟩ noFill_tuple_add seq_tuple_add Wt Wv (Wy _ _)
   (tuple_addW2 t b l.toArray f.toArray n T M B U G (by simpa using O) (by simpa using I) (by rw[zX,zX];exact J)) ⟨H,g,?_⟩
  rw[e];exact h2 I
def sIx(n d:Nat):Option Int->Nat
 | none=>d
 | some v=>if v<0 then(v+(n:Int)).toNat else min v.toNat n
theorem sIx_none(n d:Nat):sIx n d none=d:=rfl
theorem sIx_nat(n d k:Nat):sIx n d (some (k:Int))=min k n:=by
 show(if(k:Int)<0 then((k:Int)+(n:Int)).toNat else min (k:Int).toNat n)=min k n
 rw[zv (by omega),yq]
theorem ze4(n d:Nat)(f:d<=n)(o:Option Int):sIx n d o<=n:=by
 cases o with
 | none=>exact f
 | some v=>
  show(if v<0 then(v+(n:Int)).toNat else min v.toNat n)<=n
  by_cases e:v<0
  ·rw[zC e];omega
  ·rw[zv e];exact Nat.min_le_right _ _
theorem YS(v:Int)(n d:Nat):(if v<0 then max (v+(n:Int)) 0 else min v (n:Int))=((sIx n d (some v):Nat):Int):=by
 show(if v<0 then max (v+(n:Int)) 0 else min v (n:Int))=(((if v<0 then(v+(n:Int)).toNat else min v.toNat n):Nat):Int)
 by_cases e:v<0
 ·simp only[zC e];omega
 ·simp only[zv e];omega
theorem WE(lo e:Option Int)(n:Nat):Builtin.Slice.sliceAdjust lo e 1 (n:Int)=(((sIx n 0 lo:Nat):Int),((sIx n n e:Nat):Int)):=by
 have f:¬((1:Int)<0):=by omega
 unfold Builtin.Slice.sliceAdjust;simp only[f,if_false];refine Prod.ext ?_ ?_
 ·cases lo with
  | none=>rfl
  | some v=>exact YS v n 0
 ·cases e with
  | none=>rfl
  | some v=>exact YS v n n
theorem VO(i j:Nat):Builtin.Slice.slicePlaces (i:Int) (j:Int) 1=j-i:=by
 unfold Builtin.Slice.slicePlaces;have e:(1:Int)>0:=by omega
 simp only[e,if_true,Int.ediv_one];split<;>omega
theorem ZK{v:Value}{o:Option Int}{Q:Option Int->Shared->Prop}(p:IsPart v o)(h:Q o s):wpAny (model c w) A (Builtin.Slice.slicePartIndex v) Q E s:=by
 cases p with
 | none=>exact slicePart_none h
 | int i t=>exact slicePart_int h
theorem yB{C:Addr}{l B:Value}{lo f:Option Int}{n:Nat}{Q:Int×Int×Nat->Shared->Prop}(G:s.heap.IsSliceOf C l B .none)(H:IsPart l lo)(I:IsPart B f)
  (h:Q (((sIx n 0 lo:Nat):Int),1,sIx n n f-sIx n 0 lo) s):wpAny (model c w) A (Builtin.Slice.sliceApplied (.ref C) (pure (n:Int))) Q E s:=by
 obtain⟨os,g,D,e⟩:=id G;unfold Builtin.Slice.sliceApplied Builtin.Slice.sliceFields;refine zi (zi (xw g e (x:=l) rfl (zi (xw g e (x:=B) rfl (zi (xw g e (x:=.none) rfl (zE ?_)))))))
 refine zi (slicePart_none ?_)
 show wpAny _ _ (if((1:Int)==0)=true then _ else _) _ _ s
 rw[zv (by decide)]
 refine zi (ZK H (zi (ZK I (zi (zE ?_)))))
 show wpAny _ _ (match Builtin.Slice.sliceAdjust lo f 1 (n:Int) with | (lo,f)=>pure (lo,(1:Int),Builtin.Slice.slicePlaces lo f 1)) _ _ s
 rw[WE lo f n];show wpAny _ _ (pure (((sIx n 0 lo:Nat):Int),(1:Int),Builtin.Slice.slicePlaces ((sIx n 0 lo:Nat):Int) ((sIx n n f:Nat):Int) 1)) _ _ s;rw[VO];exact zE h
theorem zb0(f:Array Value)(i k:Nat):((List.range k).filterMap fun(m:Nat)=>f[((i:Int)+(m:Int)*1).toNat]?).toArray=((f.toList.drop i).take k).toArray:=by
 have e:(fun(m:Nat)=>f[((i:Int)+(m:Int)*1).toNat]?)=fun m=>f[i+m]?:=by
  funext m
  have:((i:Int)+(m:Int)*1).toNat=i+m:=by omega
  rw[this]
 rw[e];have:=pick_run f i k;rw[List.filterMap_map] at this;have e2:((fun x=>f[x]?)∘fun x=>i+x)=fun m=>f[i+m]?:=rfl
 rw[e2] at this;rw[this]
theorem getItem_tuple_cut{t H:Addr}{e:Array Value}{L M:Value}{lo g:Option Int}{Q:Value->Shared->Prop}(l:IsTup s.heap t e)(I:s.heap.IsSliceOf H L M .none)(U:IsPart L lo)(Y:IsPart M g)
  (T:¬(sIx e.size 0 lo=0/\sIx e.size e.size g=e.size))
  (h:Q (.ref s.heap.objs.size) { s with heap:=s.heap.push { cls:=.type "tuple",data:=.seq ((e.toList.drop (sIx e.size 0 lo)).take (sIx e.size e.size g-sIx e.size 0 lo)).toArray } })
  (O:e.size<=sizeLine):wpAny (model c w) A (getItem (.ref t) (.ref H)) Q E s:=by
 have f:sizeOk (.seq ((e.toList.drop (sIx e.size 0 lo)).take (sIx e.size e.size g-sIx e.size 0 lo)).toArray):=by
  show((e.toList.drop (sIx e.size 0 lo)).take (sIx e.size e.size g-sIx e.size 0 lo)).toArray.size<=sizeLine;rw[zX,qi,vF,jO];omega
 have hj:sIx e.size e.size g<=e.size:=ze4 _ _ (zM _) g;obtain⟨os,G,C,N⟩:=id I;have B:s.TypeIs (.ref H) "slice" :=⟨os,G,C⟩;unfold getItem;try with_reducible refine vD ?_
 first| refine zi (zE ?_) | skip
 refine zi (wpAny_sequenceKey l.typeIs (by decide) ?_)
 refine zi (yr (name:=Str.ofString "__getitem__") l.typeIs WD
  (vE WD l.typeIs entry_tuple_getitem ?_ (args_tuple_getitem _ _)))
 show wpAny _ _ (Builtin.Tuple.tupleItemsOf (.ref t) >>= _) _ _ s;refine zi (tupleItemsOf_ l ?_)
 refine zi (wpAny_typeOf B ?_)
 rw[zC (by decide)]
 refine zi (yB I U Y ?_)
 have D:¬((((sIx e.size 0 lo:Nat):Int)==0&&(1:Int)==1&&(sIx e.size e.size g-sIx e.size 0 lo)==e.size)=true):=by
  intro q;rw[jW,jW] at q;have q1:((sIx e.size 0 lo:Nat):Int)=0:=eq_of_beq q.1.1;have q2:sIx e.size e.size g-sIx e.size 0 lo=e.size:=eq_of_beq q.2;exact T ⟨by omega,by omega⟩
 show wpAny _ _ (if(((sIx e.size 0 lo:Nat):Int)==0&&(1:Int)==1&&(sIx e.size e.size g-sIx e.size 0 lo)==e.size)=true then _ else _) _ _ s
 rw[zv D,zb0];first
  | exact zi (m:=Builtin.Tuple.tupleExact _) (vi (zE ⟨_,rfl,zE h⟩) f)
  | exact zi (m:=Builtin.Tuple.tupleExact _) (vi (zi (zE (zE ⟨_,rfl,zE h⟩))) f)
  | exact zi (zi (m:=Builtin.Tuple.tupleExact _) (vi (zE (zE ⟨_,rfl,zE h⟩)) f))
  | exact zi (zi (m:=Builtin.Tuple.tupleExact _) (vi (zE ⟨_,rfl,zE h⟩) f))
end
end HT
namespace L2
open PySem PySem.Spec PyProof.Rows
abbrev TO:=St->Hp->(Option Int->Hp->Prop)->Prop
def PO(X:Cx)(e:Option Expr)(t:TO):Prop:=
 ∀(c:List (Addr×Obj)) (s:Shared) (σ:St) (H:Hp) (Q:Option Int->Hp->Prop),Inv X c σ H s->t σ H Q ->
  wpAny (model X.prog X.w) X.A (evalPart e X.env) (fun u g=>∃o f,Inv X c σ f g/\IsPart u o/\Q o f) X.xe s
def zdf:TO:=fun _ H Q=>Q none H
def zfY(t:TE):TO:=fun σ H Q=>t σ H fun x c=>IsI x c fun i c=>Q (some i) c
theorem Z1{c:List Int}:∀{f:List Value},Vals (c.map V.int) f->IntsAre f c:=by
 induction c with
 | nil=>intro f r;rw[Qf] at r;cases r;exact .nil
 | cons n c g=>
  intro f r;rw[qY] at r;cases r with
  | cons l s=>
   obtain⟨t,e⟩:=l;subst e;exact .cons n t (g s)
section
variable{X:Cx}{e:Expr}{f:TE}{lo c:Option Expr}{B A:TO}{C g:Pos}
theorem jQ:PO X none zdf:=by
 intro l s σ H Q I h;rw[evalPart_none];exact zE ⟨none,H,I,.none,h⟩
theorem jv(h:PE X e f):PO X (some e) (zfY f):=by
 intro l s σ H Q I E;rw[evalPart_some];refine thn (h l s σ H _ I E) fun u s1 ⟨x,w,D,J,G⟩=>?_
 obtain⟨i,rfl,q⟩:=G;obtain⟨t,rfl⟩:=J;exact⟨some i,w,D,.int i t,q⟩
def SlR(X:Cx)(r:V->Option Int->Option Int->Hp->VK->Prop):Prop:=
 ∀(l:List (Addr×Obj)) (s:Shared) (σ:St) (H:Hp) (x:V) (v D E:Value) (lo c:Option Int) (w:Addr) (Q:VK),Inv X l σ H s->RelV x v->s.heap.IsSliceOf w D E .none->IsPart D lo->IsPart E c->r x lo c H Q ->
  ∃T id,typeLookup (.type T) "__getitem__" = pure (some (.builtin id))/\s.TypeIs v T/\wpAny (model X.prog X.w) X.A (getItem v (.ref w)) (EP X l σ Q) X.xe s
theorem SlR.or{r G:V->Option Int->Option Int->Hp->VK->Prop}(h:SlR X r)(O:SlR X G):SlR X (fun x lo c H Q=>r x lo c H Q\/G x lo c H Q):=by
 intro l s σ H x v M N lo c L Q I J w D E q;rcases q with q | q
 ·exact h l s σ H x v M N lo c L Q I J w D E q
 ·exact O l s σ H x v M N lo c L Q I J w D E q
def tSl(r:V->Option Int->Option Int->Hp->VK->Prop)(f:TE)(B A:TO):TE:=fun σ H Q=>f σ H fun x s=>B σ s fun l w=>A σ w fun u D=>r x l u D Q
theorem jc{r:V->Option Int->Option Int->Hp->VK->Prop}(hr:SlR X r)(he:PE X e f)(hl:PO X lo B)(hu:PO X c A):PE X (.Subscript e (.Slice lo c none g) C) (tSl r f B A):=by
 intro w s σ H Q I h;refine Subscript_ (thn (he w s σ H _ I h) fun v s1 ⟨x,L,N,r1,q1⟩=>?_)
 refine wpAny_Slice (thn (hl w s1 σ L _ N q1) fun E s2 ⟨l,M,O,pl,q2⟩=>thn (hu w s2 σ M _ O q2) fun G D ⟨u,J,U,pu,q3⟩=>?_)
 rw[evalPart_none];refine zE ?_
 have Y:Inv X w σ J { D with heap:=D.heap.push { cls:=.type "slice",data:=.fields #[E,G,.none] } }:=U.kept (t':=D.toks) fun b ob q=>qr _ q
 obtain⟨T,id,hT,ht,hg⟩:=hr w { D with heap:=D.heap.push { cls:=.type "slice",data:=.fields #[E,G,.none] } } σ J x v E G l u D.heap.objs.size Q Y r1 (Heap.IsSliceOf.new ..) pl pu q3;show wpAny (model X.prog X.w) X.A (subscriptTail e (.Slice lo c none g) v (.ref D.heap.objs.size)) (EP X w σ Q) X.xe { D with heap:=D.heap.push { cls:=.type "slice",data:=.fields #[E,G,.none] } };exact tail_any (ops:=[.ref D.heap.objs.size,v]) ht hT hg (by with_unfolding_all rfl)
def z7(l:List V)(lo c:Option Int):List V:=(l.drop (HT.sIx l.length 0 lo)).take (HT.sIx l.length l.length c-HT.sIx l.length 0 lo)
theorem Za(l:List V)(lo c:Option Int):(z7 l lo c).length<=l.length:=by
 unfold z7;rw[qi,vF];omega
inductive zgw(K:W.Frag)(x:V)(lo:Option Int)(c:Option Int)(H:Hp)(Q:VK):Prop
 | mk (a l:_) (_:x=.ref a) (_:SqT K H a l) (_:¬(HT.sIx l.length 0 lo=0/\HT.sIx l.length l.length c=l.length)) (_:∀p,H p=none->Q (.ref p) (upd H p (.tup (z7 l lo c)))):zgw K x lo c H Q
theorem ze0:SlR X (zgw X.K):=by
 intro J s σ H x v vl vu lo c Y Q I T L N O h;obtain⟨a,w,rfl,hx,M,q⟩:=h;cases T;obtain⟨D,r,E,G⟩:=I.tuple hx;have l:D.toArray.size=w.length:=by rw[zX];exact r.length.symm
 refine⟨"tuple",_,WD.lookup,E.typeIs,?_⟩
 refine HT.getItem_tuple_cut E L N O (by rw[l];exact M) ?_ (by rw[l];exact G)
 rw[l];refine⟨.ref s.heap.objs.size,_,I.laid (t':=s.toks) (o:=.tup (z7 w lo c)) (fun b U q=>qr _ q) (zM _) ?_,rfl,q _ (I.hok.fresh (zM _))⟩
 exact⟨jx (Za w lo c) G,_,(r.drop (HT.sIx w.length 0 lo)).take (HT.sIx w.length w.length c-HT.sIx w.length 0 lo),⟨IsTup.new _ _,_,qk _ rfl,rfl⟩⟩
inductive zeC(K:W.Frag)(x:V)(y:V)(H:Hp)(Q:VK):Prop
 | mk (a b s l:_) (_:x=.ref a) (_:y=.ref b) (_:SqT K H a s) (_:SqT K H b l) (_:s≠[]) (_:s.length+l.length<=sizeLine) (_:(l=[]->Q (.ref a) H)) (_:(l≠[]->∀p,H p=none->Q (.ref p) (upd H p (.tup (s++l))))):zeC K x y H Q
theorem Vals.nil_iff{s:List V}{l:List Value}(r:Vals s l):l=[]↔s=[]:=by
 cases r with
 | nil=>simp
 | cons _ _=>simp
theorem zdy:OpR X (binaryOp .Add) (zeC X.K):=by
 intro J s σ H x y v u Q I U Y h;obtain⟨a,b,xs,ys,rfl,rfl,L,hb,hx,E,O,T⟩:=h;cases U;cases Y;obtain⟨M,D,N,_⟩:=I.tuple L;obtain⟨G,l,g,_⟩:=I.tuple hb;refine HT.cat_tup N g (fun z=>hx (D.nil_iff.mp z)) (fun z=>⟨.ref a,H,I,rfl,O (l.nil_iff.mp z)⟩) (fun z=>?_) (by rw[<- D.length,<- l.length];exact E)
 refine⟨.ref s.heap.objs.size,_,I.laid (t':=s.toks) (o:=.tup (xs++ys)) (fun b ob q=>qr _ q) (zM _) ?_,rfl,T (fun w=>z (l.nil_iff.mpr w)) _ (I.hok.fresh (zM _))⟩
 exact⟨by rw[zZ];exact E,_,D.append l,⟨IsTup.new _ _,_,qk _ rfl,rfl⟩⟩
end
def ixN(n:Nat)(i:Int):Option Nat:=if 0<=i then(if i<n then some i.toNat else none) else if -(n:Int)<=i then some (i+n).toNat else none
def atI{α:Type}(c:List α)(i:Int):Option α:=(ixN c.length i).bind fun j=>c[j]?
theorem YD{n:Nat}{i:Int}{j:Nat}(h:ixN n i=some j):seqIndex? i n=some j/\j<n/\ -(n:Int)<=i/\i<n:=by
 unfold ixN at h;by_cases f:0<=i
 ·rw[zC f] at h
  by_cases c:i<n
  ·rw[zC c] at h
   have e:i.toNat=j:=jm h;exact⟨by rw[seqIndex_of f c,e],by omega,by omega,c⟩
  ·rw[zv c] at h;cases h
 ·rw[zv f] at h
  by_cases c:-(n:Int)<=i
  ·rw[zC c] at h
   have e:(i+n).toNat=j:=jm h;exact⟨by rw[seqIndex_neg (by omega) c,e],by omega,c,by omega⟩
  ·rw[zv c] at h;cases h
theorem J6{α:Type}{c:List α}{i:Int}{v:α}(h:atI c i=some v):∃j,seqIndex? i c.length=some j/\c[j]? =some v/\j<c.length/\ -(c.length:Int)<=i/\i<c.length:=by
 unfold atI at h;cases e:ixN c.length i with
 | none=>rw[e] at h;cases h
 | some j=>
  rw[e] at h;obtain⟨f,g,l,s⟩:=YD e;exact⟨j,f,h,g,l,s⟩
theorem zQ{α:Type}{xs:List α}{j:Nat}{v:α}(h:xs[j]? =some v):atI xs (j:Int)=some v:=by
 have c:j<xs.length:=(zK.mp h).1;have e:ixN xs.length (j:Int)=some j:=by
  unfold ixN;rw[zC (by omega),zC (by omega)];simp
 unfold atI;rw[e];exact h
theorem Vu{α:Type}(c:List α)(v:α):atI (c++[v]) (-1)=some v:=by
 have f:(c++[v]).length=c.length+1:=by simp
 have e:ixN (c++[v]).length (-1)=some c.length:=by
  unfold ixN;rw[f,zv (by decide),zC (by omega)]
  congr 1
  omega
 unfold atI;rw[e];show(c++[v])[c.length]? =some v;simp
def zeb(b:Expr):Prop:=∀o i,subscripted b false o i=operate [o,i] (getItem o i)
def IxR(X:Cx)(r:R2):Prop:=
 ∀(f c:Expr) (e:List (Addr×Obj)) (s:Shared) (σ:St) (H:Hp) (x y:V) (v u:Value) (Q:VK),Inv X e σ H s->RelV x v->RelV y u->r x y H Q ->
  subscripted c false v u=operate [v,u] (getItem v u)->wpAny (model X.prog X.w) X.A (subscriptTail f c v u) (EP X e σ Q) X.xe s
def MtR(X:Cx)(id:String)(r:V->List V->Hp->VK->Prop):Prop:=
 ∀(c:List (Addr×Obj)) (s:Shared) (σ:St) (H:Hp) (x:V) (f:List V) (v:Value) (e:List Value) (Q:VK),Inv X c σ H s->RelV x v->Vals f e->r x f H Q ->
  wpAny (model X.prog X.w) X.A (call (.builtin id) (v::e)) (EP X c σ Q) X.xe s
section
variable{X:Cx}{a b:Expr}{G J:TE}{E:Pos}
theorem IxR.or{r A:R2}(h:IxR X r)(N:IxR X A):IxR X (fun x y H Q=>r x y H Q\/A x y H Q):=by
 intro f c l s σ H x y v u Q I L M q w;rcases q with q | q
 ·exact h f c l s σ H x y v u Q I L M q w
 ·exact N f c l s σ H x y v u Q I L M q w
theorem MtR.or{id:String}{r l:V->List V->Hp->VK->Prop}(h:MtR X id r)(M:MtR X id l):MtR X id (fun x f H Q=>r x f H Q\/l x f H Q):=by
 intro c s σ H x f v L Q I A w q;rcases q with q | q
 ·exact h c s σ H x f v L Q I A w q
 ·exact M c s σ H x f v L Q I A w q
theorem zx{r:R2}(A:IxR X r)(w:PE X a G)(hb:PE X b J)(L:zeb b):PE X (.Subscript a b E) (tOp r G J):=by
 intro c s σ H Q I h;exact Subscript_ (zfR w hb I h fun v u s2 x y f l M N q=>A a b c s2 σ f x y v u Q l M N q (L _ _))
inductive ze8(K:W.Frag)(x:V)(y:V)(H:Hp)(Q:VK):Prop
 | mk (p c i v:_) (_:x=.ref p) (_:y=.int i) (_:SqL K H p c) (_:atI c i=some v) (_:Q v H):ze8 K x y H Q
inductive ze7(K:W.Frag)(x:V)(y:V)(H:Hp)(Q:VK):Prop
 | mk (p c i v:_) (_:x=.ref p) (_:y=.int i) (_:SqT K H p c) (_:atI c i=some v) (_:Q v H):ze7 K x y H Q
inductive zgy(x:V)(y:V)(H:Hp)(Q:VK):Prop
 | mk (z i c:_) (_:x=.str z) (_:y=.int i) (_:z.length<=sizeLine) (_:atI z.cps.toList i=some c) (_:Q (.str ⟨#[c]⟩) H):zgy  x y H Q
theorem zT:IxR X (ze8 X.K):=by
 intro U O c s σ H x y v u Q I rx ry h hs;obtain⟨p,xs,i,z,rfl,rfl,hq,he,q⟩:=h;cases rx;obtain⟨t,rfl⟩:=ry;obtain⟨L,r,M,hz⟩:=I.list hq;obtain⟨j,l,h2,h3,h4,h5⟩:=J6 he;obtain⟨w,Y,N⟩:=r.get h2;have hl:=r.length;have hn:=ZT;have f:EP X c σ Q w s:=⟨z,H,I,N,q⟩;by_cases h0:0<=i
 ·have A:i.toNat=j:=by
   rw[seqIndex_of h0 h5] at l;exact jm l
  exact item_listR M.isList h0 (by omega) (by rw[A];simpa using Y) f hs
 ·have A:(i+(L.toArray.size:Int)).toNat=j:=by
   rw[seqIndex_neg (by omega) h4] at l
   rw[zX,<- hl];exact jm l
  exact subscriptTail_builtinR (x:=w) M.isList.typeIs slot_list_getitem.lookup
   (wpAny_getItem_list_neg (Q:=fun r s'=>r=w/\EP X c σ Q r s') M.isList (by omega) (by rw[zX]<;>omega) (by omega) (by rw[A];simpa using Y) ⟨rfl,f⟩) hs
theorem zN:IxR X (ze7 X.K):=by
 intro L A c s σ H x y v u Q I rx ry h hs;obtain⟨p,xs,i,z,rfl,rfl,hq,Y,q⟩:=h;cases rx;obtain⟨t,rfl⟩:=ry;obtain⟨a0,r,M,hz⟩:=I.tuple hq;obtain⟨j,O,U,h3,h4,h5⟩:=J6 Y;obtain⟨w,N,l⟩:=r.get U;have hl:=r.length;have hn:=ZT;have f:EP X c σ Q w s:=⟨z,H,I,l,q⟩;exact subscriptTail_builtinR (x:=w) M.typeIs slot_tuple_getitem.lookup
  (getItem_tuple (j:=j) (Q:=fun r s'=>r=w/\EP X c σ Q r s') M (by omega) (by omega) (by rw[zX,<- hl];exact O) (by simpa using N) ⟨rfl,f⟩) hs
theorem zfG:IxR X zgy:=by
 intro l f A s σ H x y v u Q I rx ry h Y;obtain⟨z,i,c,rfl,rfl,hz,O,q⟩:=h;obtain⟨t,rfl⟩:=rx;obtain⟨t',rfl⟩:=ry;obtain⟨j,w,L,h3,M,N⟩:=J6 O;have U:z.cps.toList.length=z.length:=by simp[Str.length]
 rw[U] at w M N;have hn:=ZT;exact tail_any (typeIs_str s z t) slot_str_getitem.lookup (getItem_str (c:=c) (by
  have e1:decide (i< -(2^63:Int))=false:=jN (by omega)
  have e2:decide (i≥2^63)=false:=jN (by omega)
  rw[e1,e2,Bool.or_false]) (by rw[w];simpa using L) ⟨.str ⟨#[c]⟩,H,I.tok _,⟨_,rfl⟩,q⟩) Y
theorem VX(c:List Value)(n j:Nat)(u:Value):Obj.mapSeq (·.setIfInBounds j u) { cls:=.type "list",data:=.seq c.toArray n }={ cls:=.type "list",data:=.seq (c.set j u).toArray n }:=by
 simp[Obj.mapSeq]
theorem Inv.lst{f:List (Addr×Obj)}{σ:St}{H:Hp}{s:Shared}{p:Addr}{l:List V}(I:Inv X f σ H s)(h:H p=some (.lst l)) :
  ∃(c:List Value) (n:Nat),Vals l c/\s.heap.get? p=some { cls:=.type "list",data:=.seq c.toArray n }/\l.length<=sizeLine:=by
 obtain⟨z,c,n,r,e⟩:=I.hok p _ h;exact⟨c,n,r,e,z⟩
theorem Inv.lstUpd{l:List (Addr×Obj)}{σ:St}{H:Hp}{s:Shared}{p:Addr}{Q L:List V}{w c:List Value}{n A:Nat}{f:Obj->Obj}(I:Inv X l σ H s)(h:H p=some (.lst Q))
  (N:s.heap.get? p=some { cls:=.type "list",data:=.seq w.toArray n }) (M:f { cls:=.type "list",data:=.seq w.toArray n }={ cls:=.type "list",data:=.seq c.toArray A }) (r:Vals L c) (O:L.length<=sizeLine) (t:Nat) :
  Inv X l σ (upd H p (.lst L)) { s with heap:=s.heap.update p f,toks:=t }:=by
 have e:(s.heap.update p f).get? p=some { cls:=.type "list",data:=.seq c.toArray A }:=by
  rw[Jv f N (by rw[M]<;>rfl),M]
 refine I.write (x:=p) (e:=p) (by rw[h];trivial) (.inl rfl) (fun b u hb q=>(Ws _ _ (qu hb)).trans q) ⟨_,e⟩ ?_
 exact⟨O,c,A,r,e⟩
inductive zeA(o:V)(i:V)(v:V)(H:Hp)(Q:Hp->Prop):Prop
 | mk (p c k j:_) (_:o=.ref p) (_:i=.int k) (_:H p=some (.lst c)) (_:ixN c.length k=some j) (_:Q (upd H p (.lst (c.set j v)))):zeA  o i v H Q
theorem wX:zhj X zeA:=by
 intro f s σ H o i v ov iv u Q I ro ri rv h;obtain⟨p,xs,k,j,rfl,rfl,hp,U,q⟩:=h;cases ro;obtain⟨t,rfl⟩:=ri;obtain⟨c,n,r,A,Y⟩:=I.lst hp;obtain⟨l,h2,N,O⟩:=YD U;have w:=r.length;have hn:=ZT;have L:Inv X f σ (upd H p (.lst (xs.set j v))) { s with heap:=s.heap.update p (Obj.mapSeq (·.setIfInBounds j u)) }:=
  I.lstUpd hp A (VX c n j u) (r.set rv j) (by rw[yS];exact Y) s.toks
 by_cases M:0<=k
 ·have hk:k.toNat=j:=by
   rw[seqIndex_of M O] at l;exact jm l
  exact PySem.W.ki_setAt A M (by omega) (by rw[zX,<- w];exact O) (by rw[hk];exact⟨_,L,q⟩)
 ·have hk:(k+(c.toArray.size:Int)).toNat=j:=by
   rw[seqIndex_neg (by omega) N] at l
   rw[zX,<- w];exact jm l
  exact PySem.W.ki_setBack A (by omega) (by rw[zX,<- w];exact N) (by omega) (by rw[hk];exact⟨_,L,q⟩)
theorem JG(lo c:Option Int)(n:Nat):(sliceBounds lo c none n).1=((HT.sIx n 0 lo:Nat):Int)/\(sliceBounds lo c none n).2.1=((HT.sIx n n c:Nat):Int)/\(sliceBounds lo c none n).2.2=1:=by
 refine⟨?_,?_,rfl⟩
 ·cases lo with
  | none=>simp[sliceBounds,HT.sIx]
  | some i=>
   simp only[sliceBounds,HT.sIx,Option.getD_none,show(1:Int)>0 by decide,if_true]
   by_cases h:i<0
   ·simp only[h,if_true]<;>omega
   ·simp only[h,if_false]<;>omega
 ·cases c with
  | none=>simp[sliceBounds,HT.sIx]
  | some i=>
   simp only[sliceBounds,HT.sIx,Option.getD_none,show(1:Int)>0 by decide,if_true]
   by_cases h:i<0
   ·simp only[h,if_true]<;>omega
   ·simp only[h,if_false]<;>omega
theorem QA(c:List Value)(lo f:Option Int):slicePick c.toArray lo f none=((c.drop (HT.sIx c.length 0 lo)).take (HT.sIx c.length c.length f-HT.sIx c.length 0 lo)).toArray:=by
 obtain⟨l,s,w⟩:=JG lo f c.toArray.size;unfold slicePick;rw[l,s,w];simp only[sliceRange_one,pick_run,zX]<;>rfl
inductive ze6(K:W.Frag)(x:V)(lo:Option Int)(c:Option Int)(H:Hp)(Q:VK):Prop
 | mk (a f:_) (_:x=.ref a) (_:SqL K H a f) (_:∀p,H p=none->Q (.ref p) (upd H p (.lst (z7 f lo c)))):ze6 K x lo c H Q
theorem jP:SlR X (ze6 X.K):=by
 intro A s σ H x v vl vu lo l sl Q I Y L O U h;obtain⟨a,c,rfl,hx,q⟩:=h;cases Y;obtain⟨N,r,w,M⟩:=I.list hx;have f:=r.length;refine⟨"list",_,slot_list_getitem.lookup,w.isList.typeIs,?_⟩
 refine wpAny_getItem_list_slice w.isList L O U .none (by simp) ?_ (by rw[zX]<;>omega)
 rw[QA,<- f];refine⟨.ref s.heap.objs.size,_,I.laid (t':=s.toks) (o:=.lst (z7 c lo l)) (fun b ob q=>qr _ q) (zM _) ?_,rfl,q _ (I.hok.fresh (zM _))⟩
 exact⟨jx (Za c lo l) M,_,0,(r.drop (HT.sIx c.length 0 lo)).take (HT.sIx c.length c.length l-HT.sIx c.length 0 lo),qk _ rfl⟩
def xf:V->Bool
 | .non=>true
 | .bl _=>true
 | .int _=>true
 | .str _=>true
 | _=>false
def eqV:V->V->Bool
 | .non,.non=>true
 | .bl a,.bl b=>a==b
 | .bl a,.int b=>(if a then 1 else 0)==b
 | .int a,.bl b=>a==(if b then 1 else 0)
 | .int a,.int b=>a==b
 | .str a,.str b=>a==b
 | _,_=>false
theorem JW{A:Around}{s:Shared}{y x:V}{u v:Value}(w:RelV y u)(c:RelV x v)(H:xf y=true)(l:xf x=true):SeqAt.EqAt A s u v (eqV y x):=by
 cases y with
 | non=>
  cases w;cases x with
  | non=>cases c;exact SeqAt.EqAt.same _
  | bl b=>cases c;exact SeqAt.EqAt.none_bool b
  | int b=>obtain⟨t,rfl⟩:=c;exact SeqAt.EqAt.none_int b t
  | str b=>obtain⟨t,rfl⟩:=c;exact SeqAt.EqAt.none_str b t
  | _=>exact absurd (show false=true from l) qO
 | bl a=>
  cases w;cases x with
  | non=>cases c;exact SeqAt.EqAt.bool_none a
  | bl b=>cases c;exact SeqAt.EqAt.bool_bool a b
  | int b=>obtain⟨t,rfl⟩:=c;exact SeqAt.EqAt.bool_int a b t
  | str b=>obtain⟨t,rfl⟩:=c;exact SeqAt.EqAt.bool_str a b t
  | _=>exact absurd (show false=true from l) qO
 | int a=>
  obtain⟨f,rfl⟩:=w;cases x with
  | non=>cases c;exact SeqAt.EqAt.int_none a f
  | bl b=>cases c;exact SeqAt.EqAt.int_bool a f b
  | int b=>obtain⟨t,rfl⟩:=c;exact SeqAt.EqAt.int_int a f b t
  | str b=>obtain⟨t,rfl⟩:=c;exact SeqAt.EqAt.int_str a f b t
  | _=>exact absurd (show false=true from l) qO
 | str a=>
  obtain⟨f,rfl⟩:=w;cases x with
  | non=>cases c;exact SeqAt.EqAt.str_none a f
  | bl b=>cases c;exact SeqAt.EqAt.str_bool a f b
  | int b=>obtain⟨t,rfl⟩:=c;exact SeqAt.EqAt.str_int a f b t
  | str b=>obtain⟨t,rfl⟩:=c;exact SeqAt.EqAt.str_str a f b t
  | _=>exact absurd (show false=true from l) qO
 | _=>exact absurd (show false=true from H) qO
def eqU(x:V)(u:Value):Bool:=match u with
 | .none=>eqV .non x
 | .bool b=>eqV (.bl b) x
 | .int i _=>eqV (.int i) x
 | .str z _=>eqV (.str z) x
 | _=>false
theorem zcI{x y:V}{u:Value}(r:RelV y u)(f:xf y=true):eqU x u=eqV y x:=by
 cases y with
 | non=>cases r;rfl
 | bl b=>cases r;rfl
 | int i=>obtain⟨t,rfl⟩:=r;rfl
 | str z=>obtain⟨t,rfl⟩:=r;rfl
 | _=>exact absurd (show false=true from f) qO
theorem yn{x:V}:∀{c:List V} {l:List Value},Vals c l->c.all xf=true->l.any (eqU x)=c.any fun y=>eqV y x
 | _,_,.nil,_=>rfl
 | y::c,u::l,.cons r t,f=>by
  rw[List.all_cons,jW] at f;rw[yo,yo,zcI r f.1,yn t f.2]
theorem vQ{A:Around}{s:Shared}{x:V}{v:Value}(H:RelV x v)(w:xf x=true):∀{l:List V} {c:List Value},Vals l c->l.all xf=true->∀u∈c,SeqAt.EqAt A s u v (eqU x u)
 | _,_,.nil,_=>fun u hu=>by cases hu
 | y::l,u::c,.cons r t,f=>fun I hu=>by
  rw[List.all_cons,jW] at f;rcases qm.mp hu with rfl | hu
  ·rw[zcI r f.1];exact JW r H f.1 w
  ·exact vQ H w t f.2 I hu
def inV(x:V)(c:List V):Bool:=c.any fun y=>eqV y x
inductive rIn(K:W.Frag)(c:Bool)(x:V)(y:V)(H:Hp)(Q:VK):Prop
 | mk (p f:_) (_:y=.ref p) (_:(SqL K H p f\/SqT K H p f)) (_:xf x=true) (_:f.all xf=true) (_:Q (.bl (if c then !inV x f else inV x f)) H):rIn K c x y H Q
theorem wn:OpR X (compareOp .In) (rIn X.K false):=by
 intro M s σ H x y v u Q I N U h;obtain⟨p,Y,rfl,hq,L,f,q⟩:=h;cases U;rcases hq with hq | hq
 ·obtain⟨c,r,A,O⟩:=I.list hq
  refine SeqAt.in_listAt (eqU x) A.isList (fun w l=>vQ N L r f w (by simpa using l)) ⟨.bl _,H,I,rfl,?_⟩
  rw[show c.toArray.any (eqU x)=c.any (eqU x) by simp,yn r f]
  exact q
 ·obtain⟨c,r,A,O⟩:=I.tuple hq
  refine SeqAt.in_tupleAt (eqU x) A (fun w l=>vQ N L r f w (by simpa using l)) ⟨.bl _,H,I,rfl,?_⟩
  rw[show c.toArray.any (eqU x)=c.any (eqU x) by simp,yn r f]
  exact q
theorem JL:OpR X (compareOp .NotIn) (rIn X.K true):=by
 intro M s σ H x y v u Q I N U h;obtain⟨p,Y,rfl,hq,L,f,q⟩:=h;cases U;rcases hq with hq | hq
 ·obtain⟨c,r,A,O⟩:=I.list hq
  refine SeqAt.notIn_listAt (eqU x) A.isList (fun w l=>vQ N L r f w (by simpa using l)) ⟨.bl _,H,I,rfl,?_⟩
  rw[show c.toArray.any (eqU x)=c.any (eqU x) by simp,yn r f]
  exact q
 ·obtain⟨c,r,A,O⟩:=I.tuple hq
  refine SeqAt.notIn_tupleAt (eqU x) A (fun w l=>vQ N L r f w (by simpa using l)) ⟨.bl _,H,I,rfl,?_⟩
  rw[show c.toArray.any (eqU x)=c.any (eqU x) by simp,yn r f]
  exact q
inductive xS(K:W.Frag)(f:List V)(H:Hp)(Q:VK):Prop
 | mk (p c:_) (_:f=[.ref p]) (_:(SqL K H p c\/SqT K H p c)) (_:Q (.int c.length) H):xS K f H Q
theorem zD:CallR X (.builtin "len") (xS X.K):=by
 intro A s σ H Y U Q I r h;obtain⟨p,L,rfl,hq,q⟩:=h;obtain⟨u,rfl,N⟩:=vJ r;cases N;have O:=ZT;rcases hq with hq | hq
 ·obtain⟨f,w,l,M⟩:=I.list hq
  have c:=w.length;exact Calls.call_len_list l.isList (by simp only[zX]<;>omega) ⟨.int L.length,H,I.tok _,⟨s.toks+1,by rw[zX,c]⟩,q⟩
 ·obtain⟨f,w,l,M⟩:=I.tuple hq
  have c:=w.length;exact len_tuple l (by simp only[zX]<;>omega) ⟨.int L.length,H,I.tok _,⟨s.toks+1,by rw[zX,c]⟩,q⟩
theorem CallR.or{f:Value}{r w:List V->Hp->VK->Prop}(h:CallR X f r)(M:CallR X f w):CallR X f (fun l H Q=>r l H Q\/w l H Q):=by
 intro c s σ H l L Q I A q;rcases q with q | q
 ·exact h c s σ H l L Q I A q
 ·exact M c s σ H l L Q I A q
inductive wj(K:W.Frag)(f:List V)(H:Hp)(Q:VK):Prop
 | mk (p c:_) (_:f=[.ref p]) (_:(SqL K H p c\/SqT K H p c)) (_:∀l,H l=none->Q (.ref l) (upd H l (.lst c))):wj K f H Q
theorem yi:CallR X (.type "list") (wj X.K):=by
 intro O s σ H xs us Q I r h;obtain⟨p,ys,rfl,hq,q⟩:=h;obtain⟨u,rfl,rx⟩:=vJ r;cases rx;have A:∀(c:List Value),Vals ys c->ys.length<=sizeLine->∀(f:Heap) (l:Nat),(∀b o',s.heap.get? b=some o'->f.get? b=some o') ->
   f.get? s.heap.objs.size=some { cls:=.type "list",dict:=none,data:=.seq c.toArray l,slots:=#[] }->EP X O σ Q (.ref s.heap.objs.size) { s with heap:=f }:=fun c w M f l N e=>
  ⟨.ref s.heap.objs.size,_,I.laid (t':=s.toks) N (zM _) (show ObjOk X.prog X.w _ f _ (.lst ys) from ⟨M,c,l,w,e⟩),rfl,q _ (I.hok.fresh (zM _))⟩
 rcases hq with hq | hq
 ·obtain⟨c,w,pl,M⟩:=I.list hq
  have L:=w.length;obtain⟨o,Y,hc,n,U⟩:=pl.isList;exact call_list_seq p (.inl rfl) Y hc U (fun f l N e=>A c w M f l N e) (by simp only[zX]<;>omega)
 ·obtain⟨c,w,pl,M⟩:=I.tuple hq
  have L:=w.length;obtain⟨o,Y,hc,n,U⟩:=pl;exact call_list_seq p (.inr rfl) Y hc U (fun f l N e=>A c w M f l N e) (by simp only[zX]<;>omega)
inductive vG(K:W.Frag)(f:List V)(H:Hp)(Q:VK):Prop
 | mk (p c:_) (_:f=[.ref p]) (_:((SqL K H p c/\∀l,H l=none->Q (.ref l) (upd H l (.tup c)))\/(SqT K H p c/\Q (.ref p) H))):vG K f H Q
theorem ja:CallR X (.type "tuple") (vG X.K):=by
 intro c s σ H xs us Q I r h;obtain⟨p,O,rfl,h⟩:=h;obtain⟨u,rfl,rx⟩:=vJ r;cases rx;rcases h with ⟨hq,q⟩ | ⟨hq,q⟩
 ·obtain⟨f,A,w,N⟩:=I.list hq
  have M:=A.length;refine call_tuple_list w.isList (fun l Y=>?_) (by simp only[zX]<;>omega)
  have L:Inv X c σ H { s with heap:=l }:=I.kept (t':=s.toks) Y;have U:Inv X c σ (upd H l.objs.size (.tup O)) { s with heap:=l.push { cls:=.type "tuple",data:=.seq f.toArray } }:=
   L.laid (t':=s.toks) (fun b o e=>qr _ e) (zM _) (show ObjOk X.prog X.w _ _ _ (.tup O) from ⟨N,f,A,⟨IsTup.new _ _,_,qk _ rfl,rfl⟩⟩)
  exact⟨.ref l.objs.size,_,U,rfl,q _ (L.hok.fresh (zM _))⟩
 ·obtain⟨f,A,w,N⟩:=I.tuple hq
  exact call_tuple_same w ⟨.ref p,H,I,rfl,q⟩
def tyV(K:W.Frag)(T:String)(x:V)(H:Hp):Prop:=match x with
 | .str _=>T = "str"
 | .int _=>T = "int"
 | .ref p=>(T = "list" /\ ∃f,SqL K H p f)\/(T = "tuple" /\ ∃o,K.lookup p=some o/\o.cls=.type "tuple" /\ o.dict=none) \/
   (T = "dict" /\ ((∃c,H p=some (.dK c))\/∃c,H p=some (.dT c)))\/(T = "set" /\ ∃S n,H p=some (.set S n))
 | _=>False
theorem zeS{l:List (Addr×Obj)}{σ:St}{H:Hp}{s:Shared}{T:String}{x:V}{v:Value}(I:Inv X l σ H s)(r:RelV x v)(ty:tyV X.K T x H) :
  s.TypeIs v T/\∀a,v=.ref a->∃L,s.heap.get? a=some L/\L.dict=none:=by
 cases x with
 | str z=>
  obtain⟨t,rfl⟩:=r;cases(show T = "str" from ty)
  exact⟨typeIs_str s z t,fun _ e=>nomatch e⟩
 | int i=>
  obtain⟨t,rfl⟩:=r;cases(show T = "int" from ty)
  exact⟨typeIs_int s i t,fun _ e=>nomatch e⟩
 | ref p=>
  cases r;rcases ty with ⟨rfl,O,hq⟩ | ⟨rfl,o,hk,hc,w⟩ | ⟨rfl,hk⟩ | ⟨rfl,S,n,hk⟩
  ·obtain⟨N,_,M,_⟩:=I.list hq
   refine⟨M.isList.typeIs,fun a e=>?_⟩
   cases e;obtain⟨o,n,e,c,w,_⟩:=M;exact⟨o,e,w⟩
  ·refine⟨⟨o,I.kIn p o hk,hc⟩,fun a e=>?_⟩
   cases e;exact⟨o,I.kIn _ o hk,w⟩
  ·have z:∃o,s.heap.get? p=some o/\o.ExactDict:=by
    rcases hk with ⟨A,hk⟩ | ⟨A,hk⟩
    ·obtain⟨_,_,_,_,o,_,_,e,f,_⟩:=I.hok p _ hk
     exact⟨o,e,f⟩
    ·obtain⟨_,_,_,_,o,_,_,e,f,_⟩:=I.hok p _ hk
     exact⟨o,e,f⟩
   obtain⟨o,e,f⟩:=z;refine⟨⟨o,e,f.1⟩,fun a e2=>?_⟩
   cases e2;exact⟨o,e,f.2.1⟩
  ·obtain⟨o,_,_,_,e,f,_⟩:=I.hok p _ hk
   refine⟨⟨o,e,f.1⟩,fun a e2=>?_⟩
   cases e2;exact⟨o,e,f.2.1⟩
 | _=>exact False.elim ty
def tBM(K:W.Frag)(T:String)(r:V->List V->Hp->VK->Prop)(to:TE)(t:TA):TE:=fun σ H Q=>to σ H fun x c=>tyV K T x c/\t σ c fun l f=>r x l f Q
variable{o e:Expr}{D:List Expr}{to:TE}{t:TA}{B:Str}{C g:Pos}{T id:String}{r:V->List V->Hp->VK->Prop}
theorem xc(pa:PlainAttrs T)(L:Slot T B id)(M:typeOf (.builtin id)=pure (.type "method_descriptor"))(hm:MtR X id r)(ho:PE X o to)(ha:PA X (e::D) t)
  (l:attributeBase o B X.env (eval o X.env)=eval o X.env:=by rfl)
  (A:((backTo g (starEach (e::D) X.env)).all (fun x=>!x.1)&&(backToKw g (keywordEach [] X.env)).all (fun x=>x.1.isSome)
   && decide ((e::D).length+([]:List Keyword).length+(if([]:List Keyword).isEmpty then 0 else 1)<30))=true:=by rfl)
  (w:(C.endLine==g.line)=true:=by rfl) (hs:starEach (e::D) X.env=(false,eval e X.env)::starEach D X.env:=by rfl) (f:(backTo g (starEach D X.env)).any (·.1)=false:=by rfl) :
  PE X (.Call (.Attribute o B C) (e::D) [] g) (tBM X.K T r to t):=by
 intro c s σ H Q I h;refine wpAny_Call_method_late l A w rfl (thn (ho c s σ H _ I h) fun v s1 ⟨x,Y,N,U,ty,q1⟩=>?_)
 obtain⟨h1,h2⟩:=zeS N U ty;refine⟨T,id,pa,L,M,h1,h2,?_⟩
 have O:=ha g c s1 σ Y _ N q1;rw[hs] at O ⊢;refine Wr (by show(false||(backTo g (starEach D X.env)).any (·.1))=false;rw[f]<;>rfl) (Wm ?_)
 exact thn O fun us s2 ⟨vs,H2,I2,r2,q2⟩=>hm c s2 σ H2 x vs v us Q I2 U r2 q2
end
def MtM(X:Cx)(id:String)(r:V->List V->Hp->VK->Prop):Prop:=
 ∀(c:List (Addr×Obj)) (s:Shared) (σ:St) (H:Hp) (x:V) (f:List V) (v:Value) (e:List Value) (Q:VK),Inv X c σ H s->RelV x v->Vals f e->r x f H Q ->
  wpAny (model X.prog X.w) X.A (call (.builtin id) (v::e)) (EP X c σ Q) X.xe s
theorem Vals.one:∀{x:V} {c:List Value},Vals [x] c->∃u,c=[u]/\RelV x u
 | _,_,.cons r .nil=>⟨_,rfl,r⟩
theorem Vals.two:∀{x y:V} {c:List Value},Vals [x,y] c->∃u v,c=[u,v]/\RelV x u/\RelV y v
 | _,_,_,.cons r (.cons q .nil)=>⟨_,_,rfl,r,q⟩
theorem Vals.zero:∀{c:List Value},Vals [] c->c=[]
 | _,.nil=>rfl
theorem Vals.dropLast{e:List V}{c:List Value}(h:Vals e c):Vals e.dropLast c.dropLast:=by
 induction h with
 | nil=>exact .nil
 | cons r t f=>
  cases t with
  | nil=>exact .nil
  | cons q g=>exact .cons r f
theorem Vals.eraseIdx:∀{e:List V} {c:List Value} (i:Nat),Vals e c->Vals (e.eraseIdx i) (c.eraseIdx i)
 | _,_,_,.nil=>.nil
 | _,_,0,.cons _ t=>t
 | _,_,i+1,.cons r t=>.cons r (Vals.eraseIdx i t)
theorem Vals.reverse{e:List V}{c:List Value}(h:Vals e c):Vals e.reverse c.reverse:=by
 induction h with
 | nil=>exact .nil
 | cons r t f=>rw[List.reverse_cons,List.reverse_cons];exact Vals.append f (.cons r .nil)
theorem Vals.rep{e:List V}{c:List Value}(h:Vals e c):∀k:Nat,Vals (List.replicate k e).flatten (List.replicate k c).flatten
 | 0=>.nil
 | k+1=>by
  rw[Qo,Qo,Xe,Xe];exact Vals.append h (Vals.rep h k)
theorem Ji(f:List Value):∀(k:Nat) (c:List Value),
  List.foldl (fun g l=>g++l) c.toArray (List.replicate k f.toArray)=(c++(List.replicate k f).flatten).toArray
 | 0,c=>by simp
 | k+1,c=>by
  have e:c.toArray++f.toArray=(c++f).toArray:=by simp
  have e2:(c++f)++(List.replicate k f).flatten=c++(List.replicate (k+1) f).flatten:=by
   rw[Qo,Xe,xG]
  rw[<- e2,<- Ji f k (c++f),<- e,Qo,List.foldl_cons]
section
variable{X:Cx}{c:List (Addr×Obj)}{σ:St}{H:Hp}{s:Shared}{l b:Addr}{w g A:List V}
theorem Inv.lset{B its':List Value}{n:Nat}{f:Array Value->Array Value}{J:Nat}(I:Inv X c σ H s)(C:H l=some (.lst w))
  (e:s.heap.get? l=some { cls:=.type "list",data:=.seq B.toArray n }) (D:f B.toArray=its'.toArray) (E:Vals g its') (G:g.length<=sizeLine) :
  Inv X c σ (upd H l (.lst g)) { s with heap:=s.heap.update l (Obj.mapSeq f),toks:=J }:=by
 have q:=PySem.IsL.update e f;rw[D] at q;refine I.write (x:=l) (e:=l) (by rw[C];exact trivial) (.inl rfl) (fun L u hb hu=>(Ws s.heap (Obj.mapSeq f) (qu hb)).trans hu) ⟨_,q⟩ ?_
 exact⟨G,its',_,E,q⟩
theorem Inv.lnew{e:List Value}{t':Nat}(I:Inv X c σ H s)(f:Vals g e)(B:g.length<=sizeLine) :
  Inv X c σ (upd H s.heap.objs.size (.lst g)) { s with heap:=s.heap.push { cls:=.type "list",data:=.seq e.toArray },toks:=t' }:=
 I.laid (fun _ _ q=>qr _ q) (zM _) ⟨B,e,0,f,qk _ rfl⟩
theorem Inv.fresh(I:Inv X c σ H s):H s.heap.objs.size=none:=I.hok.fresh (zM _)
theorem Inv.lstM(I:Inv X c σ H s)(B:H l=some (.lst w)):w.length<=sizeLine/\∃(f:List Value) (n:Nat),Vals w f/\w.length=f.length/\s.heap.get? l=some { cls:=.type "list",data:=.seq f.toArray n }:=by
 obtain⟨z,f,n,r,e⟩:=I.hok l _ B;exact⟨z,f,n,r,r.length,e⟩
theorem ZS{n:Nat}(h:n<=sizeLine):Builtin.List.listTooLong n=false:=by
 unfold Builtin.List.listTooLong;exact jN (by omega)
end
section
variable{X:Cx}
inductive Yo(x:V)(e:List V)(H:Hp)(Q:VK):Prop
 | mk (l c y:_) (_:x=.ref l) (_:e=[y]) (_:H l=some (.lst c)) (_:c.length<sizeLine) (_:Q .non (upd H l (.lst (c++[y])))):Yo  x e H Q
theorem jd:MtM X "list.append" Yo:=by
 intro w s σ H x J v G Q I C B h;obtain⟨l,L,y,rfl,rfl,f,E,q⟩:=h;cases C;obtain⟨u,rfl,A⟩:=B.one;obtain⟨z,c,n,r,D,e⟩:=I.lstM f;refine call_meets F.slot_list_append ⟨_,e,rfl⟩ F.entry_list_append (F.args_list_append_2 _ _) (PySem.list_append l c.toArray n u (by rw[zX];omega)) ⟨e,?_⟩
 refine⟨.non,_,I.lset (its':=c++[u]) f e (by simp) (r.append (.cons A .nil)) ?_,rfl,q⟩
 rw[zZ,Wp];omega
inductive Ym(x:V)(f:List V)(H:Hp)(Q:VK):Prop
 | mk (l b c e:_) (_:x=.ref l) (_:f=[.ref b]) (_:H l=some (.lst c)) (_:H b=some (.lst e)) (_:c.length+e.length<=sizeLine) (_:Q .non (upd H l (.lst (c++e)))):Ym  x f H Q
theorem Q9:MtM X "list.extend" Ym:=by
 intro C s σ H x Y v U Q I N M h;obtain⟨l,b,xs,zs,rfl,rfl,A,D,T,q⟩:=h;cases N;obtain⟨u,rfl,L⟩:=M.one;cases L;obtain⟨z,f,n,r,O,e⟩:=I.lstM A;obtain⟨z2,c,G,J,E,e2⟩:=I.lstM D;have w:f.toArray.size+c.toArray.size<=sizeLine:=by rw[zX,zX];omega
 have g:¬(!f.toArray.isEmpty&&Builtin.List.listTooLong (f.toArray.size+c.toArray.size))=true:=by
  rw[ZS w,V7];exact qO
 refine call_meets F.slot_list_extend ⟨_,e,rfl⟩ F.entry_list_extend (F.args_list_extend_2 _ _)
  (AutoSeq1.list_extend_list_list_0 l f.toArray n b c.toArray G g (by rw[zX];omega) (by omega)) ⟨e,e2,?_⟩
 refine⟨.non,_,I.lset (its':=f++c) A e (by simp) (r.append J) ?_,rfl,q⟩
 rw[zZ];omega
inductive ze9(x:V)(y:V)(H:Hp)(Q:VK):Prop
 | mk (l b c e:_) (_:x=.ref l) (_:y=.ref b) (_:H l=some (.lst c)) (_:H b=some (.lst e)) (_:c.length+e.length<=sizeLine) (_:∀p,H p=none->Q (.ref p) (upd H p (.lst (c++e)))):ze9  x y H Q
theorem xA:OpR X (binaryOp .Add) ze9:=by
 intro g s σ H x y v u Q I E G h;obtain⟨l,b,O,U,rfl,rfl,B,A,L,q⟩:=h;cases E;cases G;obtain⟨z,f,n,r,J,e⟩:=I.lstM B;obtain⟨T,c,M,D,C,e2⟩:=I.lstM A;refine PySem.P.add_list e e2 ?_ (by rw[zX,zX];omega)
 have w:f.toArray++c.toArray=(f++c).toArray:=by simp
 rw[w];exact⟨.ref _,_,I.lnew (t':=s.toks) (r.append D) (by rw[zZ];omega),rfl,q _ I.fresh⟩
inductive zgx(x:V)(y:V)(H:Hp)(Q:VK):Prop
 | mk (l k c:_) (_:x=.ref l) (_:y=.int k) (_:H l=some (.lst c)) (_:-(2^63)<=k) (_:k<2^63) (_:c.length*k.toNat<=sizeLine) (_:∀p,H p=none->Q (.ref p) (upd H p (.lst (List.replicate k.toNat c).flatten))):zgx  x y H Q
theorem zdQ{α:Type}(c:List α)(k:Nat):(List.replicate k c).flatten.length=k*c.length:=by
 induction k with
 | zero=>simp
 | succ k e=>rw[Qo,Xe,zZ,e,Nat.succ_mul,Nat.add_comm]
theorem zfl:OpR X (binaryOp .Mult) zgx:=by
 intro G s σ H x y v u Q I Y ry h;obtain⟨l,k,xs,rfl,rfl,N,L,M,E,q⟩:=h;cases Y;obtain⟨t,rfl⟩:=ry;obtain⟨z,c,n,r,O,e⟩:=I.lstM N;have A:c.toArray.size*k.toNat<=sizeLine:=by rw[zX,<- O];exact E
 have g:¬c.toArray.size*k.toNat>(2^63-1)/8:=by
  have:(sizeLine:Nat)<=(2^63-1)/8:=by decide
  omega
 have w:¬(!Builtin.List.listFitsIndex k)=true:=by
  rw[fitsIndex_both L M];exact qO
 have f:¬Builtin.List.listTooLong (c.toArray.size*k.toNat)=true:=by
  rw[ZS A];exact qO
 have B:List.foldl (fun C D=>C++D) #[] (List.replicate (if c.toArray.isEmpty=true then 0 else k.toNat) c.toArray)=(List.replicate k.toNat c).flatten.toArray:=by
  have J:∀m:Nat,List.foldl (fun C D=>C++D) #[] (List.replicate m c.toArray)=(List.replicate m c).flatten.toArray:=fun m=>by
   have:=Ji c m [];rw[Xa] at this;exact this
  rw[J];cases c with
  | nil=>simp
  | cons a r'=>rw[zv (by simp)]
 refine wpAny_binaryOp_repeat_ref (T:= "list") (U:= "int") (by decide) ⟨_,e,rfl⟩ (fun s'=>typeIs_int s' k t) noFill_list_mul F.fills_int_mul F.slot_int_rmul repeat_list F.slot_int_index.lookup
  (call_meets F.slot_int_rmul (typeIs_int s k t) F.entry_int_rmul (F.args_int_rmul_2 _ _) (int___rmul___int_list k t l c.toArray n)
   ⟨e,rfl,⟨_,e,rfl⟩,call_meets F.slot_list_mul ⟨_,e,rfl⟩ F.entry_list_mul (F.args_list_mul_2 _ _) (AutoListH.list___mul___list_int_3 l c.toArray n k t w g f) ⟨e,?_⟩⟩)
 rw[B];exact⟨.ref _,_,I.lnew (t':=s.toks) (r.rep k.toNat) (by rw[zdQ,Nat.mul_comm];exact E),rfl,q _ I.fresh⟩
end
section
variable{c:Program}{w:World}{A:Around}{E:Value->Shared->Prop}{s:Shared}
end
section
variable{X:Cx}
end
end L2
namespace Att
open PySem PySem.W PySem.Calls PyProof.Rows
theorem Zr{P:Params}{h:Heap}:∀(c:List Int) (e:List Value),WellAll P h e (c.map WData.int)->IntsAre e c:=by
 intro c;induction c with
 | nil=>
  intro e w;rw[Qf] at w;cases w;exact .nil
 | cons n c f=>
  intro e w;rw[qY] at w;cases w with
  | cons a b=>
   cases a;exact .cons _ _ (f _ b)
theorem zar{l:OpenLaw}{n:Nat}(I:l.most=some n){P:Params}{h:Heap}{args:List WData}{f:List Value}
  (e:l.row.toRowW.claim.pre args=true) (C:WellAll P h f args) :
  ∃a D c,f=[Value.ref a]/\args=[WData.list (c.map WData.int)]/\h.get? a=some { cls:=.type "list",data:=.seq D.toArray }/\IntsAre D c/\c.length<=n:=by
 have B:WShape.hasAll [] args [.list .int]=true:=(pre_splitW e).1;have hc:l.pre.holds [] { args:=args }=true:=(pre_splitW e).2;obtain⟨d,r,rfl,E,G⟩:=hasAllW_cons B;obtain rfl:=hasAllW_nil G;obtain⟨N,rfl,H⟩:=hasW_list E;obtain⟨c,rfl⟩:=items_int H;have s:c.length<=n:=by
  unfold OpenLaw.pre at hc;have w:(WTm.not (.lt (.lit (.int (n:Int))) (.len (.arg 0)))).holds [] { args:=[.list (c.map .int)] }=true:=by
   have w:=(holds_andW hc).1;rw[I] at w;exact w
  have A:=condW_of w (w_not (w_lt w_lit (w_len_list (w_arg rfl))));rw[zp] at A;refine Nat.le_of_not_lt fun q=>?_
  have L:(n:Int)<((c.length:Nat):Int):=by omega
  first
   | (rw[je L] at A;exact absurd A (by decide))
   | (simp at A;omega)
 cases C with
 | cons w1 M=>
  cases M;cases w1 with
  | list J g=>exact⟨_,_,c,rfl,rfl,J,Zr c _ g,s⟩
theorem zat(l:OpenLaw)(args:List WData):l.row.toRowW.claim.post args (.bool true) args=true:=
 postW_of (r:=l.row.toRowW) (X:=(true==true))
  (show WShape.has [] (.bool true) .bool=true by first| rfl | decide | simp[WShape.has,WShape.arms,WShape.armsAll])
  (show(WTm.eq .res (.lit (.bool true))).value [] { args:=args,res:=some (.bool true),after:=args }=some (.bool (true==true)) from w_eq_bool (w_res rfl) w_lit) rfl
theorem attach_call{l:OpenLaw}{n:Nat}{q:Program}{c:List Str}{XP:(Str->Option Value)->Heap->Prop}{YP:World->Heap->Prop}{d:DefRec}
  (hn:l.most=some n) (N:d.params.defaults=[])
  (call:∀(w:World) (s₀ e:Shared) (I T:Str->Option Value) (B:Addr) (o:Obj) (U H g:Value) (a:Addr) (A:List Value) (J:List Int),
   Ground q c [] XP w s₀ I T e.heap->YP w e.heap ->
   e.heap.get? B=some o->o.data=.func (docDef d.name d.params d.body d.scope U H g)->e.heap.CodeRec H d.name->I d.name=some (.ref B) ->
   e.heap.get? a=some { cls:=.type "list",data:=.seq A.toArray }->IntsAre A J->J.length<=n->e.gens=#[] ->
   codeAny (model l.prog w) callerA (.call (.ref B) ⟨[.ref a],[]⟩) (fun r L=>r=.ok (.ret (.bool true))/\OldK e.heap L.heap/\L.os=e.os/\AllBare L.gens) e) :
  WalkO q c XP YP l.row.toRowW d [] (fun f A=>PySem.call f A):=by
 intro w s₀ e I T G Y B o U H g dV kV ho hd M hD O hg args aa as E a0 ac Q ab;obtain rfl:dV=.none:=Dflts.none hD N;obtain rfl:kV=.none:=Dflts.noKw hD;obtain⟨a,A,J,rfl,rfl,D,s,C⟩:=zar hn E Q;refine enter_call (codeAny_mono (call w s₀ e I T B o U H g a A J G Y ho (fd_plain hd) M O D s C hg) fun r L hq=>?_)
 obtain⟨rfl,h2,h3,h4⟩:=hq;exact⟨.inl ⟨.bool true,.bool true,[],rfl,fun _=>rfl,.bool true,zat l _,fun _=>⟨List.Pairwise.nil,fun _ hm=>(nomatch hm)⟩⟩,h2,h3,h4⟩
section
variable{c:Program}{w:World}{A:Around}{E:Value->Shared->Prop}{s:Shared}{K:Frag}
def ledger(h:Heap)(L d:Addr):List (Addr×Obj):=(List.range h.objs.size).filterMap fun a=>if a=L\/a=d then none else(h.get? a).map fun o=>(a,o)
end
end Att
namespace L2
open PySem PySem.Spec PyProof.Rows
theorem QJ:∀{e:List Value} {c:List Int},IntsAre e c->Vals (c.map V.int) e
 | _,_,.nil=>.nil
 | _,_,.cons n t h=>.cons ⟨t,rfl⟩ (QJ h)
def zec(H:Hp):Prop:=∀b,H b=none\/∃o c,H b=some (.frz o (.lst c))
theorem Vh{P:Program}{w:World}{K:W.Frag}{T mb:Str->Option Value}{CX:CXT}{k:Nat}{fa a:Addr}{fd:FuncData}{x:Str}{sp:Sp}{c:Shared}{D:List Value}{U:List Int}
  (KX:K.In c.heap) (M:c.heap.Ns mainGlobals T) (hb:c.heap.Ns builtinsNs mb) (aa:∀x:Str,x ≠ "__name__" -> mb x=bootBuiltins x) (L:c.heap.NoLimit) (hg:c.gens=#[])
  (ha:c.heap.get? a=some { cls:=.type "list",data:=.seq D.toArray }) (hi:IntsAre D U) (hl:U.length<=sizeLine) (hr:Room k callerA)
  (F:∀g:Heap,K.In g->g.Ns mainGlobals T->FnOk P w K T g CX k fa fd [x] sp) (C:∀(s:Shared) (u:Value),BindsTo s fd ⟨[u],[]⟩ [(x,u)])
  (ab:∀H:Hp,zec H->SqL K H a (U.map V.int)->sp [.ref a] H (fun v _=>v=.bl true) fun _ _ _=>False)
  (a0:∀H e l,CX [] H c (fun _ _ _=>False) e l->False) :
  codeAny (model P w) callerA (.call (.ref fa) ⟨[.ref a],[]⟩) (fun r l=>r=.ok (.ret (.bool true))/\OldK c.heap l.heap/\l.os=c.os/\AllBare l.gens) c:=by
 have rv:=QJ hi;have Q:=hi.length;have B:∀H:Hp,zec H->SqL K H a (U.map V.int)->HOk P w H c.heap->(∀b,H b≠none->b=a)->(H a≠none->K.lookup a=none) ->
   codeAny (model P w) callerA (.call (.ref fa) ⟨[.ref a],[]⟩) (fun r l=>r=.ok (.ret (.bool true))/\OldK c.heap l.heap/\l.os=c.os/\AllBare l.gens) c:=by
  intro H hO hS N hA hK;have f:∀{b:Addr} {o:Obj},c.heap.get? b=some o->H b=none->(JQ c.heap H).get? b=some o:=fun e n=>zcD e n
  have ac:∀{b:Addr} {o:Obj} {I:Array DictEntry} {G:Nat},c.heap.get? b=some o->o.data=.dict I G->H b=none:=fun {b o I G} e d=>by
   cases q:H b with
   | none=>rfl
   | some u=>
    have e':b=a:=hA b (by rw[q];simp)
    subst e';rw[ha] at e;cases e
    have d':Data.seq D.toArray _=Data.dict I G:=d;cases d'
  have A:∀{b:Addr} {m:Str->Option Value},c.heap.Ns b m->(JQ c.heap H).Ns b m:=fun {b m} ⟨o,I,G,e,d,r⟩=>⟨o,I,G,f e (ac e d),d,r⟩
  have J:K.In (JQ c.heap H):=fun b o e=>f (KX b o e) (by
   cases q:H b with
   | none=>rfl
   | some u=>
    have e':b=a:=hA b (by rw[q];simp)
    subst e';rw[hK (by rw[q];simp)] at e;cases e)
  have hM:Mod K T (JQ c.heap H):=⟨J,A M,⟨mb,A hb,aa⟩,let ⟨mc,h1,h2⟩:=L;⟨mc,A h1,h2⟩⟩
  have e0:Env0 P w K T (JQ c.heap H) callerA [] c H:=⟨rfl,hM,fun b o e=>zdN e,wf (zaJ _ _),trivial,fun b hb=>absurd (show b∈([]:List Addr) from hb) (by simp),N,.of_eq hg⟩
  refine codeAny_mono ((F _ J (A M)).run callerA [] c H ⟨[.ref a],[]⟩ [.ref a] [.ref a] _ _ hr e0 (C c (.ref a)) (.cons rfl .nil) (ab H hO hS)) fun r l h=>?_
  cases r with
  | error e=>exact(a0 H e l h).elim
  | ok fl=>
   cases fl with
   | next=>exact False.elim h
   | brk=>exact False.elim h
   | cont=>exact False.elim h
   | ret u=>
    obtain⟨v,H',os,E,un,O,r',q⟩:=h;have q':v=.bl true:=q;subst q';obtain rfl:u=Value.bool true:=r';refine⟨rfl,OldK.of_keep fun b o e=>?_,os,E⟩
    cases q:H b with
    | none=>exact un.keep b o e q (by intro z;exact absurd (show b∈([]:List Addr) from z) (by simp)) (by simp)
    | some u=>
     rcases hO b with z | ⟨ob,xs,z⟩
     ·rw[q] at z;cases z
     ·have z2:=un.frzs b ob _ z
      obtain⟨e1,_⟩:=N b _ z;obtain⟨e2,_⟩:=O b _ z2;rw[e] at e1;cases e1
      exact e2
 cases hk:K.lookup a with
 | some o=>
  have e:=KX a o hk;rw[ha] at e;cases e;refine B (fun _=>none) (fun _=>.inl rfl) (.inr ⟨_,D.toArray,_,hk,rfl,rfl,rfl,by rw[zX,Q];exact hl,by simpa using rv⟩) (fun b u z=>by have Y:(none:Option HO)=some u:=z;cases Y) (fun b z=>absurd rfl z) fun z=>absurd rfl z
 | none=>
  refine B (fun b=>if b=a then some (.frz { cls:=.type "list",data:=.seq D.toArray } (.lst (U.map V.int))) else none) (fun b=>?_) (.inl (.inr ⟨{ cls:=.type "list",data:=.seq D.toArray },zC rfl⟩)) (fun b u z=>?_) (fun b z=>?_) fun _=>hk
  ·by_cases hb:b=a
   ·exact .inr ⟨_,_,zC hb⟩
   ·exact .inl (zv hb)
  ·by_cases hb:b=a
   ·have Y:=(zC hb).symm.trans z
    cases Y;subst hb;exact⟨ha,by rw[zp];exact hl,D,_,rv,ha⟩
   ·have Y:=(zv hb).symm.trans z
    cases Y
  ·by_cases hb:b=a
   ·exact hb
   ·exact absurd (zv hb) z
abbrev KOf{K:W.Frag}{h:Heap}(_:K.In h):PySem.W.Frag:=K
theorem walk_of{l:PySem.W.OpenLaw}{n k:Nat}{q:Program}{B:List Str}{XP:(Str->Option Value)->Heap->Prop}{YP:World->Heap->Prop}{d:DefRec}{K:Params->PySem.W.Frag}{U:World->CXT}{sp:World->Sp}{x:Str}
  (hn:l.most=some n) (O:n<=sizeLine) (M:d.params.defaults=[]) (hr:Room k callerA)
  (hY:∀(w:World) (h:Heap),YP w h->(K w.params).In h)
  (F:∀(w:World) (C:Str->Option Value) (E:Addr) (h:Heap),(K w.params).In h->h.Ns mainGlobals C->C d.name=some (.ref E) ->
   ∃J:FuncData,(∀(s:Shared) (u:Value),BindsTo s J ⟨[u],[]⟩ [(x,u)]) /\
    ∀c:Heap,(K w.params).In c->c.Ns mainGlobals C->FnOk l.prog w (K w.params) C c (U w) k E J [x] (sp w))
  (Q:∀(w:World) (H:Hp) (a:Addr) (I:List Int),I.length<=n->zec H->SqL (K w.params) H a (I.map V.int)->sp w [.ref a] H (fun v _=>v=.bl true) fun _ _ _=>False)
  (L:∀(w:World) (H:Hp) (s:Shared) (e:Value) (T:Shared),U w [] H s (fun _ _ _=>False) e T->False) :
  PySem.W.WalkO q B XP YP l.row.toRowW d [] (fun f vs=>PySem.call f vs):=by
 refine Att.attach_call hn M fun w s₀ s₁ C mb E o pm cd a0 a vs I G Y ho hd aa N D A g hg=>?_
 have KX:=hY w _ Y;obtain⟨J,hb,hF⟩:=F w C E _ KX G.T.g N;exact Vh KX G.T.g G.T.b G.T.builtins G.T.nolimit hg D A (jx g O) hr hF hb (fun H hO hS=>Q w H a I g hO hS) fun H e T=>L w H s₁ e T
def yg(s:Stmt):Arguments:=match s with
 | .FunctionDef _ a _ _ _ _ _ _ _ _=>a
 | _=>{ posonlyargs:=[],args:=[],vararg:=none,kwonlyargs:=[],kw_defaults:=[],kwarg:=none,defaults:=[] }
def wx(s:Stmt):List Stmt:=match s with
 | .FunctionDef _ _ b _ _ _ _ _ _ _=>b
 | _=>[]
def zq(s:Stmt):Scope:=match s with
 | .FunctionDef _ _ _ _ _ _ c _ _ _=>c
 | _=>{ kind:=.function,names:=[],isGenerator:=false,isCoroutine:=false }
abbrev CX0:CXT:=fun _ _ _ _ _ _=>False
abbrev E0:XK:=fun _ _ _=>False
theorem zgE{X:Cx}:WG CX0 X E0:=fun _ _ _ _ _ _ _ h=>h.elim
structure Fun(K:W.Frag)(x qual:Str)(st:Stmt)(f:Addr)(fd:FuncData):Prop where
 ex:∃(oc:Value) (od:Option Addr) (kV doc pm:Value) (an:Option Addr) (cdv ct:Value) (osl:Array (Option Value)),
  fd=PySem.W.fnOf x qual (yg st) (wx st) (zq st) .none kV doc pm an cdv ct/\K.lookup f=some ⟨oc,od,.func fd,osl⟩/\PySem.W.codeIn K cdv qual=true
 kp:PySem.W.keepIn K (.ref f)=true
section
variable{P:Program}{w:World}{K:W.Frag}{e:Str->Option Value}{c:Heap}
theorem Fun.ok{x l:Str}{st:Stmt}{f:Addr}{O:FuncData}{N L:List Str}{k:Nat}{M:Sp}(F:Fun K x l st f O)(S:zB N L (zq st))(J:∀D H Q E,M D H Q E->D.length=L.length)
  (C:∀(B:Value) (A:Around) (g:List Env) (s:Shared) (H:Hp) (D:List V) (Q:VK) (E:XK),Room k (A.deeper (envOfC l (zq st) s.heap.objs.size f B))->M D H Q E ->
   ∃t,PSs (zaO CX0 P w K e c N l (zq st) f B A g s H E).nox (wx st) t/\t { nx:=fun _ T=>Q .non T,rt:=Q } (y4 N D) H):FnOk P w K e c CX0 (k+1) f O L M:=by
 obtain⟨oc,od,kV,U,pm,an,B,ct,a0,rfl,lk,G⟩:=F.ex;refine zha lk G S J fun A g s H D Q E Y I=>?_
 obtain⟨t,h,q⟩:=C B A g s H D Q E Y I;exact⟨t,h.nox,q⟩
theorem Fun.binds{x g:Str}{st:Stmt}{f:Addr}{E:FuncData}{C:List Str}(F:Fun K x g st f E)
  (h:∀(kV s B:Value) (A:Option Addr) (l ct:Value) (D:List Value),D.length=C.length->bindArgs (PySem.W.fnOf x g (yg st) (wx st) (zq st) .none kV s B A l ct) ⟨D,[]⟩=pure (C.zip D)):Binds K E C []:=by
 obtain⟨J,L,kV,s,B,A,l,ct,H,rfl,I,G⟩:=F.ex;exact .all (h kV s B A l ct)
end
theorem Je{A:Around}{k:Nat}(c:Room k A):A.units+1<cLine:=Nat.lt_of_le_of_lt (Nat.add_le_add_left (by decide:1<=64) _) c.units
theorem zaq{n:Nat}(h:n<=1000):n<sizeLine:=Nat.lt_of_le_of_lt h (by decide)
section
variable{X:Cx}
theorem pv(i:Nat){x:Str}{e:Pos}(f:X.N[i]? =some x:=by rfl)(l:Vis X.env.scope x:=by first| exact Or.inl rfl | exact Or.inr (Or.inl rfl) | exact Or.inr (Or.inr rfl))(g:(x==("__debug__":Str))=false:=by decide)
  (c:(x==("__classdict__":Str))=false:=by decide):PE X (.Name x e) (zeU i):=zfg f l g c
end
theorem jC{c A B:Prop}[Decidable c](e:c->A)(f:¬c->B):if c then A else B:=by
 by_cases h:c
 ·rw[zC h]
  exact e h
 ·rw[zv h]
  exact f h
def Same(H c:Hp):Prop:=∀b o,H b=some o->c b=some o
theorem Same.refl(H:Hp):Same H H:=fun _ _ h=>h
def ub:=@Same.refl
theorem Same.trans{H e f:Hp}(a:Same H e)(b:Same e f):Same H f:=fun c o h=>b c o (a c o h)
theorem Same.free{H c:Hp}(e:Same H c){l:Addr}(h:c l=Option.none):H l=Option.none:=by
 cases q:H l with
 | none=>rfl
 | some o=>
  rw[e l o q] at h;cases h
theorem Same.seq{K:W.Frag}{H c:Hp}{a:Addr}{f:List V}(e:Same H c)(h:SqL K H a f):SqL K c a f:=by
 rcases h with(h | ⟨o,h⟩) | h
 ·exact .inl (.inl (e _ _ h))
 ·exact .inl (.inr ⟨o,e _ _ h⟩)
 ·exact .inr h
end L2
namespace L2
inductive Ex1{c:Sort _}(P:c->Prop):Prop
 | mk (a1:c) (h:P a1):Ex1 P
inductive Ex2{c:Sort _}{e:Sort _}(P:c->e->Prop):Prop
 | mk (a1:c) (a2:e) (h:P a1 a2):Ex2 P
inductive Ex3{c:Sort _}{e:Sort _}{f:Sort _}(P:c->e->f->Prop):Prop
 | mk (a1:c) (a2:e) (a3:f) (h:P a1 a2 a3):Ex3 P
inductive Ex4{c:Sort _}{e:Sort _}{f:Sort _}{g:Sort _}(P:c->e->f->g->Prop):Prop
 | mk (a1:c) (a2:e) (a3:f) (a4:g) (h:P a1 a2 a3 a4):Ex4 P
inductive Ex5{c:Sort _}{e:Sort _}{f:Sort _}{g:Sort _}{l:Sort _}(P:c->e->f->g->l->Prop):Prop
 | mk (a1:c) (a2:e) (a3:f) (a4:g) (a5:l) (h:P a1 a2 a3 a4 a5):Ex5 P
inductive Ex6{c:Sort _}{e:Sort _}{f:Sort _}{g:Sort _}{l:Sort _}{s:Sort _}(P:c->e->f->g->l->s->Prop):Prop
 | mk (a1:c) (a2:e) (a3:f) (a4:g) (a5:l) (a6:s) (h:P a1 a2 a3 a4 a5 a6):Ex6 P
inductive Ex7{c:Sort _}{e:Sort _}{f:Sort _}{g:Sort _}{l:Sort _}{s:Sort _}{w:Sort _}(P:c->e->f->g->l->s->w->Prop):Prop
 | mk (a1:c) (a2:e) (a3:f) (a4:g) (a5:l) (a6:s) (a7:w) (h:P a1 a2 a3 a4 a5 a6 a7):Ex7 P
inductive zhp{l:Sort _}{s:Sort _}{w:Sort _}{A:Sort _}{B:Sort _}{C:Sort _}{D:Sort _}{E:Sort _}{G:Sort _}{c:Sort _}{e:Sort _}(P:l->s->w->A->B->C->D->E->G->c->e->Prop):Prop
 | mk (a1:l) (a2:s) (a3:w) (a4:A) (a5:B) (a6:C) (a7:D) (a8:E) (a9:G) (f:c) (g:e) (h:P a1 a2 a3 a4 a5 a6 a7 a8 a9 f g):zhp P
inductive An3(c e f:Prop):Prop
 | mk (g:c) (l:e) (s:f):An3 c e f
inductive An4(c e f g:Prop):Prop
 | mk (l:c) (s:e) (w:f) (A:g):An4 c e f g
inductive An5(c e f g l:Prop):Prop
 | mk (s:c) (w:e) (A:f) (B:g) (C:l):An5 c e f g l
inductive An6(c e f g l s:Prop):Prop
 | mk (w:c) (A:e) (B:f) (C:g) (D:l) (E:s):An6 c e f g l s
inductive An8(c e f g l s w A:Prop):Prop
 | mk (B:c) (C:e) (D:f) (E:g) (G:l) (H:s) (I:w) (J:A):An8 c e f g l s w A
inductive An9(c e f g l s w A B:Prop):Prop
 | mk (C:c) (D:e) (E:f) (G:g) (H:l) (I:s) (J:w) (L:A) (M:B):An9 c e f g l s w A B
inductive zhr(e f g l s w A B C c:Prop):Prop
 | mk (E:e) (G:f) (H:g) (I:l) (J:s) (L:w) (M:A) (N:B) (O:C) (D:c):zhr e f g l s w A B C c
theorem zg2{α:Type _}{e:List α}(h:e.length=1):∃c,e=[c]:=
 match e,h with
 | [c],_=>⟨c,rfl⟩
theorem zg1{α:Type _}{e:List α}(h:e.length=2):∃c a1,e=[c,a1]:=
 match e,h with
 | [c,a1],_=>⟨c,a1,rfl⟩
theorem zg0{α:Type _}{e:List α}(h:e.length=3):∃c a1 a2,e=[c,a1,a2]:=
 match e,h with
 | [c,a1,a2],_=>⟨c,a1,a2,rfl⟩
theorem zgZ{α:Type _}{e:List α}(h:e.length=4):∃c a1 a2 a3,e=[c,a1,a2,a3]:=
 match e,h with
 | [c,a1,a2,a3],_=>⟨c,a1,a2,a3,rfl⟩
theorem zgY{α:Type _}{e:List α}(h:e.length=5):∃c a1 a2 a3 a4,e=[c,a1,a2,a3,a4]:=
 match e,h with
 | [c,a1,a2,a3,a4],_=>⟨c,a1,a2,a3,a4,rfl⟩
theorem zgX{α:Type _}{e:List α}(h:e.length=6):∃c a1 a2 a3 a4 a5,e=[c,a1,a2,a3,a4,a5]:=
 match e,h with
 | [c,a1,a2,a3,a4,a5],_=>⟨c,a1,a2,a3,a4,a5,rfl⟩
end L2
set_option maxHeartbeats 4000000
namespace L2
open PySem PySem.Spec PyProof.Rows
def jw(e:List (Str×Addr)):List (Str×NameKind)->List (Str×Addr)->List (Str×Addr)
 | [],c=>c
 | (n,k)::r,c=>jw e r (if(k==NameKind.free)=true then(n,(e.lookup n).getD 0)::c else c)
theorem zcR{env:Env}(names:List (Str×NameKind)):∀(e:List (Str×Addr)),(∀y∈names,y.2=NameKind.free->∃c,env.cells.lookup y.1=some c) ->
  (forIn names e fun(x:Str×NameKind) (g:List (Str×Addr))=>
   (if(x.2==NameKind.free)=true then(cellOf env x.1 >>= fun a=>(pure (ForInStep.yield ((x.1,a)::g)):Sem (ForInStep (List (Str×Addr))))) else pure (ForInStep.yield g)))=(pure (jw env.cells names e):Sem (List (Str×Addr))):=by
 induction names with
 | nil=>intro e _;rfl
 | cons y r l=>
  intro e h;obtain⟨n,k⟩:=y;rw[J9];by_cases hk:(k==NameKind.free)=true
  ·obtain⟨c,hc⟩:=h (n,k) jz (by simpa using hk)
   have e1:cellOf env n=pure c:=by
    unfold cellOf;rw[show env.cells.lookup n=some c from hc]
   simp only[hk,if_true,e1,pure_bind];rw[l _ fun z f=>h z (jn _ f)]
   show _=pure (jw env.cells r (if(k==NameKind.free)=true then(n,(env.cells.lookup n).getD 0)::e else e))
   rw[zC hk,show env.cells.lookup n=some c from hc]
   all_goals rfl
  ·simp only[hk,pure_bind]
   simp only[Wg,if_false,pure_bind];rw[l _ fun z f=>h z (jn _ f)]
   show _=pure (jw env.cells r (if(k==NameKind.free)=true then(n,(env.cells.lookup n).getD 0)::e else e))
   rw[zv hk]
theorem YR{g:Env}{f:Scope}(h:∀y∈f.names,y.2=NameKind.free->∃c,g.cells.lookup y.1=some c):closureFor f g=pure (jw g.cells f.names []):=by
 have e:=zcR (env:=g) f.names [] h;unfold closureFor;refine Eq.trans ?_ (Eq.trans (congrArg (fun m=>m >>= fun l=>(pure l:Sem (List (Str×Addr)))) e) ?_)
 ·rfl
 ·simp
theorem vy{l:List (Str×Addr)}{x:Str}:∀(names:List (Str×NameKind)) (c:List (Str×Addr)),(jw l names c).lookup x=(if(names.any fun y=>y.2==NameKind.free&&x==y.1)=true then some ((l.lookup x).getD 0) else c.lookup x)
 | [],c=>by simp[jw]
 | (n,k)::r,c=>by
  unfold jw;rw[vy r];by_cases f:(r.any fun y=>y.2==NameKind.free&&x==y.1)=true
  ·rw[zC f,zC (by rw[yo,f,Bool.or_true])]
  ·rw[zv f]
   by_cases hk:(k==NameKind.free)=true
   ·rw[zC hk]
    by_cases hx:(x==n)=true
    ·rw[zC (by rw[yo];simp only[hk,hx,Bool.and_self,Bool.true_or])]
     have e:x=n:=by simpa using hx
     subst e;simp[xE]
    ·rw[zv (by rw[yo];simp only[hk,hx,V7,Qh];exact f)]
     have g:(x==n)=false:=by simpa using hx
     simp[xE,g]
   ·rw[zv hk,zv (by rw[yo];simp only[hk,Bool.false_and,Qh];exact f)]
abbrev zH(X:Cx)(e:List Str)(c:Scope)(C:Addr)(s:Shared)(H:Hp)(ex:List Addr):Cx where
 prog:=X.prog
 w:=X.w
 K:=X.K
 mg:=X.mg
 base:=X.base
 A:=X.A
 N:=e
 s₀:=s
 H₀:=H
 env:=compEnvC c (jw X.env.cells c.names []) C X.env
 outer:=X.stack
 stack:=X.stack
 ex:=ex
 fn:=fun _=>false
 calm:=X.calm
 pn:=[]
 xe:=fun _ _=>False
abbrev xI(f:List Expr)(e:Env):Sem Bool:=
 forIn f true fun(c:Expr) (r:Bool)=>if r=true then(isTrue c e (eval c e) >>= fun ok=>(pure (ForInStep.yield ok):Sem (ForInStep Bool))) else pure (ForInStep.yield r)
theorem zcU{c:Program}{w:World}{A:Around}{R:Result->Shared->Prop}{s:Shared}{l O B:Expr}{C:List Expr}{f:Scope}{G:Pos}{I g:Value}{e:Env}(J:Nat->Shared->Prop)
  (H:∀n s,J n s->wpAny (model c w) A (pyNext I) (fun r s1=>match r with
   | none=>R (.ok .next) s1
   | some v=>wpAny (model c w) A (letOwnedTupleGo O I v) (fun _ s2=>wpAny (model c w) A (assign O e v) (fun _ s3=>
     wpAny (model c w) A (xI C e) (fun ok L=>
      if ok=true then wpAny (model c w) A (eval l e) (fun x M=>
       wpAny (model c w) A (call (.builtin "list.append") [g,x]) (fun _ N=>∃m,m<n/\J m N) (fun _ _=>False) M) (fun _ _=>False) L
      else ∃m,m<n/\J m L) (fun _ _=>False) s3) (fun _ _=>False) s2) (fun _ _=>False) s1) (fun _ _=>False) s)
  (n:Nat) (h:J n s):codeAny (model c w) A (.compLoop (.ListComp l [⟨O,B,C,0⟩] f G) 0 I g e) R s:=by
 have D:∀{α:Type} {t:Sem α} {Q:α->Shared->Prop} {E:Value->Shared->Prop} {s:Shared},wpAny (model c w) A t Q (fun _ _=>False) s->wpAny (model c w) A t Q E s:=fun x=>qg x (fun _ _ q=>q) fun _ _ q=>q.elim
 refine codeAny_loop rfl J (fun k u hJ=>?_) n h
 show wpAny _ A ((compTurn (.ListComp l [⟨O,B,C,0⟩] f G) 0 I g e).onRaise (fun x=>do noteFrame x e;theTreesLotGoes x)) _ _ u
 refine wpAny_noted ?_
 rw[compTurn_list];refine zi (vg (zi (D (qg (H k u hJ) (fun r s1 U=>?_) fun _ _ q=>q))))
 cases r with
 | none=>exact zE U
 | some v=>
  refine zi (D (qg U (fun _ s2 h2=>zi (D (qg h2 (fun _ s3 h3=>zi (D (qg h3 (fun ok L Y=>?_) fun _ _ q=>q))) fun _ _ q=>q))) fun _ _ q=>q))
  cases ok with
  | false=>exact zE ⟨rfl,Y⟩
  | true=>
   have T:wpAny (model c w) A (eval l e) (fun x M=>wpAny (model c w) A (call (.builtin "list.append") [g,x]) (fun _ N=>∃m,m<k/\J m N) (fun _ _=>False) M) (fun _ _=>False) L:=Y
   refine zi (zi (D (qg T (fun x M h5=>zi (D (qg h5 (fun _ N h6=>zE (zE ⟨rfl,h6⟩)) fun _ _ q=>q))) fun _ _ q=>q)))
def PF(X:Cx)(e:List Expr)(t:TT):Prop:=
 ∀(c:List (Addr×Obj)) (s:Shared) (σ:St) (H:Hp) (Q:Bool->Hp->Prop),Inv X c σ H s->t σ H Q->wpAny (model X.prog X.w) X.A (xI e X.env) (TP X c σ Q) X.xe s
def zhd:TT:=fun _ H Q=>Q true H
theorem qG{X:Cx}:PF X [] zhd:=fun c s σ H Q I h=>zE ⟨H,I,h⟩
theorem vn{X:Cx}{c:Expr}{t:TT}(hc:PT X c t):PF X [c] t:=by
 intro e s σ H Q I h;unfold xI;simp only[J9,V6,if_true];refine zi (zi (thn (hc e s σ H Q I h) fun ok s1 q=>zE (zE q)))
theorem YF{P:Program}{w:World}{H:Hp}{h f:Heap}{C:Addr}(x:HOk P w H h)(g:H C=none)(k:∀b o,b≠C->h.get? b=some o->f.get? b=some o):HOk P w H f:=fun b u e=>by
 refine(x b u e).stay (fun c v hc q=>k c v ?_ q) (fun _ q=>q) fun _ _ q=>q
 rcases hc with z | z
 ·rw[z];exact zk e g
 ·exact zk z g
theorem Jf{P:Program}{w:World}{H:Hp}{h:Heap}{a:Addr}{o:HO}(x:HOk P w H h)(g:H a=none)(f:ObjOk P w (upd H a o) h a o):HOk P w (upd H a o) h:=fun b u e=>by
 by_cases hb:b=a
 ·subst hb;rw[zc] at e;cases e;exact f
 ·rw[zm hb] at e
  exact(x b u e).stay (fun c v _ q=>q) (fun c q=>by rw[zm (zk q g)];exact q) fun c l q=>by rw[zm (zk q g)];exact q
theorem Xz{l c:List Addr}{H g:Hp}{h s:Heap}{a:Addr}{o:HO}(u:Un l c H g h s)(w:a∈c)(e:H a=none):Un l c H (upd g a o) h s where
 keep:=u.keep
 slot:=u.slot
 free:=fun b f q n hx=>by
  have hb:b≠a:=fun z=>hx (by rw[z];exact w)
  rw[zm hb];exact u.free b f q n hx
 there:=u.there
 tups:=fun b B q=>by rw[zm (zk q e)];exact u.tups b B q
 frzs:=fun b f v q=>by rw[zm (zk q e)];exact u.frzs b f v q
 tbls:=fun b A q=>by rw[zm (zk q e)];exact u.tbls b A q
theorem za6{l g:List Addr}{H f:Hp}{h s w:Heap}{C:Addr}(u:Un l g H f h s)(c:h.objs.size<=C)(k:∀b o,b≠C->s.get? b=some o->w.get? b=some o):Un l g H f h w where
 keep:=fun b o q n hb hx=>k b o (qw (jD (zP q) c)) (u.keep b o q n hb hx)
 slot:=fun b o q n hb hx=>let ⟨B,e⟩:=u.slot b o q n hb hx;⟨B,k b _ (qw (jD (zP q) c)) e⟩
 free:=u.free
 there:=fun b o q hx=>let ⟨A,e⟩:=u.there b o q hx;⟨A,k b _ (qw (jD (zP q) c)) e⟩
 tups:=u.tups
 frzs:=u.frzs
 tbls:=u.tbls
def yk(sn on:List (Str×NameKind))(N c:List Str)(e:List Nat):Bool:=
 sn.all (fun y=>y.2 != .cell&&(y.2 != .local||sn.lookup y.1==some .local)&&(y.2 != .free||(on.lookup y.1==some .cell||on.lookup y.1==some .free)))&&c.length==e.length
  && (c.zip e).all fun p=>sn.lookup p.1==some .free&&N[p.2]? ==some p.1
structure zda(sn on:List (Str×NameKind))(N fr:List Str)(js:List Nat):Prop where
 cell:∀y∈sn,y.2≠NameKind.cell
 loc:∀y∈sn,y.2=NameKind.local->sn.lookup y.1=some .local
 free:∀y∈sn,y.2=NameKind.free->on.lookup y.1=some .cell\/on.lookup y.1=some .free
 len:fr.length=js.length
 fr:∀(k:Nat) (x:Str),fr[k]? =some x->sn.lookup x=some .free/\∃j:Nat,js[k]? =some j/\N[j]? =some x
theorem Vt{sn on:List (Str×NameKind)}{N f:List Str}{c:List Nat}(h:yk sn on N f c=true):zda sn on N f c:=by
 unfold yk at h;rw[jW,jW,xO,xO] at h;obtain⟨⟨g,w⟩,A⟩:=h;have l:f.length=c.length:=by simpa using w
 refine⟨fun y hy=>?_,fun y hy e=>?_,fun y hy e=>?_,l,fun k x e=>?_⟩
 ·have:=g y hy
  simp only[jW,bne_iff_ne] at this;exact this.1.1
 ·have:=g y hy
  simp only[jW,V8,bne_iff_ne,jM] at this;exact this.1.2.resolve_left fun z=>z e
 ·have:=g y hy
  simp only[jW,V8,bne_iff_ne,jM] at this;exact this.2.resolve_left fun z=>z e
 ·have hk:k<f.length:=(zK.mp e).1
  have s:k<c.length:=by omega
  have B:(x,c[k])∈f.zip c:=by
   refine qq (i:=k) ?_
   rw[List.getElem?_zip_eq_some]
   exact⟨e,by simp[s]⟩
  have:=A _ B;simp only[jW,jM] at this;exact⟨this.1,c[k],by simp[s],this.2⟩
def upS(n:Nat)(c:List Nat)(σ:St):St:=List.replicate n none++c.map fun j=>(σ[j]?).join
def tLC(O:TI)(n:Nat)(A:List Nat)(g:TG)(M:TT)(L:TE):TE:=fun σ H Q=>O σ H fun J E=>
 ∃W:Nat->Nat->List V->Hp->Prop,(∃m,W 0 m [] E)/\∀i m e c,W i m e c ->
  (J.stop i c/\e.length<=sizeLine/\∀D,c D=none->Q (.ref D) (upd c D (.lst e))) \/
  (J.go i c/\∃N:List V->Hp->Prop,(∀C l,N C l->∃B,B<m/\W (i+1) B C l)/\∀x s,J.yld i c x s->g x (upS n A σ) s fun f G=>f.drop n=(upS n A σ).drop n/\M f G fun b w=>
   if b=true then L f w fun y I=>e.length<sizeLine/\N (e++[y]) I else N e w)
theorem vL{c:Env}{x:Str}{g:NameKind}:∀{names:List (Str×NameKind)},(names.map fun(n,k)=>if(k==NameKind.free&&c.scope.kind==.function&&c.kindOf n==some .cell) then(n,NameKind.cell) else(n,k)).lookup x=some g ->
  ∃k,names.lookup x=some k/\(g=k\/(k=.free/\g=.cell))
 | [],h=>by simp at h
 | (n,k)::r,h=>by
  by_cases hx:(x==n)=true
  ·refine⟨k,by simp[xE,hx],?_⟩
   have h:List.lookup x ((if(k==NameKind.free&&c.scope.kind==.function&&c.kindOf n==some .cell)=true then(n,NameKind.cell) else(n,k))::_)=some g:=h
   by_cases hc:(k==NameKind.free&&c.scope.kind==.function&&c.kindOf n==some .cell)=true
   ·rw[zC hc,xE,hx] at h
    simp only[jW,jM] at hc;exact .inr ⟨hc.1.1,(jm h).symm⟩
   ·rw[zv hc,xE,hx] at h
    exact .inl (jm h).symm
  ·have f:(x==n)=false:=by simpa using hx
   have h:List.lookup x ((if(k==NameKind.free&&c.scope.kind==.function&&c.kindOf n==some .cell)=true then(n,NameKind.cell) else(n,k))::_)=some g:=h
   have l:(r.map fun(n,k)=>if(k==NameKind.free&&c.scope.kind==.function&&c.kindOf n==some .cell) then(n,NameKind.cell) else(n,k)).lookup x=some g:=by
    by_cases hc:(k==NameKind.free&&c.scope.kind==.function&&c.kindOf n==some .cell)=true
    ·rw[zC hc,xE,f] at h;exact h
    ·rw[zv hc,xE,f] at h;exact h
   obtain⟨s,e,z⟩:=vL l;exact⟨s,by rw[xE,f];exact e,z⟩
theorem wJ{env:Env}{x:Str}:∀{names:List (Str×NameKind)},names.lookup x=some .free->∃c,(names.map fun(n,k)=>if(k==NameKind.free&&env.scope.kind==.function&&env.kindOf n==some .cell) then(n,NameKind.cell) else(n,k)).lookup x=some c/\(c=.cell\/c=.free)
 | [],h=>by simp at h
 | (n,k)::r,h=>by
  by_cases hx:(x==n)=true
  ·rw[xE,hx] at h
   cases(jm h);show ∃c,List.lookup x ((if(NameKind.free==NameKind.free&&env.scope.kind==.function&&env.kindOf n==some .cell)=true then(n,NameKind.cell) else(n,NameKind.free))::_)=some c/\_
   by_cases hc:(NameKind.free==NameKind.free&&env.scope.kind==.function&&env.kindOf n==some .cell)=true
   ·rw[zC hc];exact⟨.cell,by simp[xE,hx],.inl rfl⟩
   ·rw[zv hc];exact⟨.free,by simp[xE,hx],.inr rfl⟩
  ·have f:(x==n)=false:=by simpa using hx
   rw[xE,f] at h;obtain⟨c,e,z⟩:=wJ (env:=env) (names:=r) h;refine⟨c,?_,z⟩
   show List.lookup x ((if(k==NameKind.free&&env.scope.kind==.function&&env.kindOf n==some .cell)=true then(n,NameKind.cell) else(n,k))::_)=some c
   by_cases hc:(k==NameKind.free&&env.scope.kind==.function&&env.kindOf n==some .cell)=true
   ·rw[zC hc,xE,f];exact e
   ·rw[zv hc,xE,f];exact e
theorem qE{f:List (Str×Addr)}{names:List (Str×NameKind)}{x:Str}{c:Addr}(h:(jw f names []).lookup x=some c)(s:∀y∈names,y.2=NameKind.free->∃c,f.lookup y.1=some c):f.lookup x=some c:=by
 rw[vy] at h;by_cases g:(names.any fun y=>y.2==NameKind.free&&x==y.1)=true
 ·rw[zC g] at h
  obtain⟨y,hy,e⟩:=Qk.mp g;simp only[jW,jM] at e;obtain⟨w,l⟩:=s y hy e.1;rw[<- e.2] at l;rw[l] at h ⊢;exact h
 ·rw[zv g] at h
  cases h
theorem wy{c:List (Str×Addr)}{names:List (Str×NameKind)}{x:Str}(h:names.lookup x=some .free):(jw c names []).lookup x=some ((c.lookup x).getD 0):=by
 rw[vy,zC];exact Qk.mpr ⟨(x,.free),wE h,by simp⟩
theorem wU{n:Nat}{c:List Nat}{σ:St}{i:Nat}{v:V}(h:(upS n c σ)[i]? =some (some v)):n<=i/\((upS n c σ).drop n)[i-n]? =some (some v)/\∃j:Nat,c[i-n]? =some j/\σ[j]? =some (some v):=by
 unfold upS at h ⊢;by_cases l:i<n
 ·rw[xH (by simpa using l),List.getElem?_replicate] at h
  split at h<;>cases h
 ·have e:(List.replicate n (none:Option V)++c.map fun j=>(σ[j]?).join).drop n=c.map fun j=>(σ[j]?).join:=by
   rw[List.drop_append_of_le_length (by simp)];simp
  rw[xQ (by simpa using l),wF] at h
  refine⟨by omega,by rw[e];exact h,?_⟩
  rw[qv] at h;cases f:c[i-n]? with
  | none=>rw[f] at h;cases h
  | some j=>
   rw[f] at h;have h:(σ[j]?).join=some v:=jm h;refine⟨j,rfl,?_⟩
   cases g:σ[j]? with
   | none=>rw[g] at h;cases h
   | some o=>rw[g] at h;exact congrArg some h
theorem WL{n:Nat}{c:List Nat}{σ:St}:(upS n c σ).length=n+c.length:=by unfold upS;simp
section
variable{X:Cx}{A G w:Expr}{E:List Expr}{f:Scope}{L:Pos}{U:TI}{g:TG}{O:TT}{M:TE}
theorem zaW{N:List (Addr×Obj)}{σ:St}{H:Hp}{s:Shared}{fp:List Addr}(own fr:List Str)(js:List Nat)(I:Inv X N σ H s)(B:zda f.names X.env.scope.names X.N fr js)(hk:f.kind=.function)
  (f2:∀b∈fp,jX X N H b) (fl:∀b∈fp,b<s.heap.objs.size) {D C:Addr} (hD:D=s.heap.objs.size) {T h1:Heap} (e3:T=s.heap.push { cls:=.type "list",dict:=none,data:=.seq ([]:List Value).toArray }) (hC:C=T.objs.size)
  {m:Str->Option Value} (ae:h1.Ns C m) (k4:∀b o,T.get? b=some o->h1.get? b=some o) {t4:Nat} :
  Inv (zH X (own++fr) f C { s with heap:=T } H (D::fp)) [] (upS own.length js σ) H { s with heap:=h1,toks:=t4 }:=by
 have k3:∀b o,s.heap.get? b=some o->T.get? b=some o:=fun b o e=>by rw[e3];exact qr _ e
 have I3:Inv X N σ H { s with heap:=T }:=I.kept (t':=s.toks) k3;have hz:T.objs.size=s.heap.objs.size+1:=by rw[e3,xg]
 have J:∀y∈f.names,y.2=NameKind.free->∃c,X.env.cells.lookup y.1=some c:=fun y hy e=>I.ok.has y.1 (B.free y hy e)
 have Q:∀x c,X.env.cells.lookup x=some c->c<s.heap.objs.size:=fun x c e=>by
  obtain⟨v,q⟩:=I.cell x c e;exact q.lt
 refine⟨⟨I.ok.mod,hk,I.ok.glob,I.ok.blt,wf hC.symm,fun x y c e1 e2=>?_,fun x hx=>?_,fun x c hf=>(nomatch hf),fun hc=>I.ok.hd hc,I.ok.frames,.inl rfl,fun b hb=>?_,I3.bs,jx I.ok.bsz I3.sz,fun b o e hb=>?_,fun b hb hf=>?_,I3.stack,I3.stkFree⟩,
  rfl,I.bare,Un.kept k4,⟨m,ae,fun i x v e1 e2 af=>?_⟩,fun x c e=>?_,?_,fun x c e=>?_,fun p hp=>absurd (show p∈([]:List (Addr×Obj)) from hp) (by simp),I3.hok.kept k4,?_⟩
 ·exact I.ok.inj x y c (qE e1 J) (qE e2 J)
 ·obtain⟨k,e,z⟩:∃k,f.names.lookup x=some k/\(k=.free):=by
   rcases hx with hx | hx
   ·obtain⟨k,e,z⟩:=vL hx
    rcases z with z | z
    ·subst z;exact absurd rfl (B.cell _ (wE e))
    ·exact⟨k,e,z.1⟩
   ·obtain⟨k,e,z⟩:=vL hx
    rcases z with z | z
    ·subst z;exact⟨_,e,rfl⟩
    ·exact⟨k,e,z.1⟩
  subst z;exact⟨_,wy e⟩
 ·rcases qm.mp hb with z | hb
  ·subst z
   refine⟨by rw[hD,hC,hz];exact qw (Qb _),fun x c e=>?_⟩
   have:=Q x c (qE e J);rw[hD];exact qw this
  ·refine⟨by rw[hC,hz];exact qw (Wc (fl b hb)),fun x c e=>?_⟩
   exact(f2 b hb).2.2.2.2.1 x c (qE e J)
 ·rcases qm.mp hb with z | hb
  ·have:=zP (I.bk b o e)
   rw[z,hD] at this;exact wA _ this
  ·rcases(f2 b hb).2.2.2.1 with z | z
   ·exact I.ok.noex b o e z
   ·exact absurd (jD (zP (I.ok.bs b o e).1) z) (wA _)
 ·have aa:=qm.mp (I.stkSub b hf)
  rcases qm.mp hb with z | hb
  ·rcases aa with y | y
   ·have:=I.lt
    rw[<- y,z,hD] at this;exact wA _ this
   ·exact I.nofs (a:=b) (by rw[z,hD];exact zM _) y
  ·rcases aa with y | y
   ·exact(f2 b hb).2.1 y
   ·exact(f2 b hb).2.2.1 y
 ·obtain⟨hn,_,j,ej,es⟩:=wU e2
  have ex:fr[i-own.length]? =some x:=by rw[xQ hn] at e1;exact e1
  obtain⟨Y,j',a0,eN⟩:=B.fr _ x ex;have:j'=j:=by rw[ej] at a0;exact(jm a0).symm
  subst this;have ab:=B.free _ (wE Y) rfl;obtain⟨m0,_,hl⟩:=I.loc;obtain⟨u,r,l⟩:=hl j' x v eN es (by rcases ab with z | z;exact .inr (.inl z);exact .inr (.inr z))
  refine⟨u,r,.inr ?_⟩
  rcases l with ⟨kl,_⟩ | ⟨_,c,ec,o,eo,ed⟩
  ·have ac:X.env.scope.names.lookup x=some .local:=kl
   rcases ab with z | z
   ·exact absurd (z.symm.trans ac) (by decide)
   ·exact absurd (z.symm.trans ac) (by decide)
  ·obtain⟨k',e',z⟩:=wJ (env:=X.env) Y
   have eq:(jw X.env.cells f.names []).lookup x=some c:=by rw[wy Y,ec];rfl
   refine⟨?_,c,eq,o,k4 c o (k3 c o eo),ed⟩
   rcases z with z | z
   ·subst z;exact .inl e'
   ·subst z;exact .inr e'
 ·obtain⟨v,o,eo,ed⟩:=I.cell x c (qE e J)
  exact⟨v,o,k4 c o (k3 c o eo),ed⟩
 ·exact I3.hok.fresh (wf hC.symm)
 ·exact I.freeC x c (qE e J)
 ·rw[WL,<- B.len]
  show _=(own++fr).length;rw[zZ]
inductive LcJ(Y:Cx)(D:Addr)(C:Nat->Heap->Prop)(B:List Addr)(c:List (Addr×Obj))(σ:St)(W:Nat->Nat->List V->Hp->Prop)(n:Nat)(s:Shared):Prop
 | mk (i:Nat) (H:List V) (e:List Value) (l:Hp) (z:Nat) (_:Inv Y c σ l s) (_:C i s.heap) (_:∀b∈B,l b=none) (_:l D=none) (_:s.heap.get? D=some { cls:=.type "list",data:=.seq e.toArray z }) (_:Vals H e) (_:W i n H l):LcJ Y D C B c σ W n s
inductive LcE(Y:Cx)(D:Addr)(c:List (Addr×Obj))(σ:St)(N:List V->Hp->Prop)(s:Shared):Prop
 | mk (B:List V) (e:List Value) (l:Hp) (z:Nat) (_:Inv Y c σ l s) (_:l D=none) (_:s.heap.get? D=some { cls:=.type "list",data:=.seq e.toArray z }) (_:Vals B e) (_:N B l):LcE Y D c σ N s
theorem Yz{Y:Cx}{D it:Addr}{B:List Addr}{tn:Nat->Heap->Prop}{J:It}{c:List (Addr×Obj)}{σ4:St}{Kp:St->Prop}{W:Nat->Nat->List V->Hp->Prop}{N:List V->Hp->Prop}{n:Nat}{I:Shared}
  (hc:Y.calm=true) (hx:Y.xe=fun _ _=>False) (hg:PG Y G g) (hf:PF Y E O) (he:PE Y A M) (T:yw Y.prog Y.w Y.K G J B it tn)
  (fD:∀s:Hp,s D=none->jX Y c s D) (f2:∀b∈B,∀s:Hp,s b=none->jX Y c s b) (nD:∀b∈B,D≠b) (bk:∀σ9 s s',Inv Y c σ9 s s'->Kp σ9->Inv Y c σ4 s s')
  (an:∀i m zs H7,W i m zs H7->(J.stop i H7/\N zs H7)\/(J.go i H7/\∃N2:List V->Hp->Prop,(∀zs s,N2 zs s->∃m',m'<m/\W (i+1) m' zs s)/\∀x H8,J.yld i H7 x H8->g x σ4 H8 fun σ9 H9=>Kp σ9/\O σ9 H9 fun b Q=>
    if b=true then M σ9 Q fun y ao=>zs.length<sizeLine/\N2 (zs++[y]) ao else N2 zs Q)) (j:LcJ Y D tn B c σ4 W n I) :
  wpAny (model Y.prog Y.w) Y.A (pyNext (.ref it)) (fun r s1=>match r with
   | none=>LcE Y D c σ4 N s1
   | some v=>wpAny (model Y.prog Y.w) Y.A (letOwnedTupleGo G (.ref it) v) (fun _ s2=>wpAny (model Y.prog Y.w) Y.A (assign G Y.env v) (fun _ s3=>
     wpAny (model Y.prog Y.w) Y.A (xI E Y.env) (fun ok s4=>
      if ok=true then wpAny (model Y.prog Y.w) Y.A (eval A Y.env) (fun x I=>
       wpAny (model Y.prog Y.w) Y.A (call (.builtin "list.append") [.ref D,x]) (fun _ s6=>∃m,m<n/\LcJ Y D tn B c σ4 W m s6) (fun _ _=>False) I) (fun _ _=>False) s4
      else ∃m,m<n/\LcJ Y D tn B c σ4 W m s4) (fun _ _=>False) s3) (fun _ _=>False) s2) (fun _ _=>False) s1) (fun _ _=>False) I:=by
 unfold PG at hg;unfold PF at hf;unfold PE at he
 rw[hx] at hg hf he;obtain⟨i,ys,C,H5,z5,I5,am,ai,ar,al,aa,w5⟩:=j;have ah:=I5.pinned (fp:=[D]) (fun b hb=>by rw[zY.mp hb];exact fD _ ar) (fun b hb=>by rw[zY.mp hb];exact⟨_,al,fun v q=>nomatch q⟩)
 have mD:(D,({ cls:=.type "list",data:=.seq C.toArray z5 }:Obj))∈c++qC [D] I.heap:=qB _ (qZ (zY.mpr rfl) al);have af:∀{s:Hp},(∀b∈B,s b=none)->∀b∈B,jX Y (c++qC [D] I.heap) s b:=fun hn b hb=>by
  obtain⟨a1,a2,a3,a4,a5,a6⟩:=f2 b hb _ (hn b hb);refine⟨a1,a2,a3,a4,a5,fun p hp=>?_⟩
  rcases qo.mp hp with q | q
  ·exact a6 p (jA _ q)
  ·rcases qo.mp q with q | q
   ·exact a6 p (qB _ q)
   ·rw[zY.mp (x8 q).1];exact nD b hb
 rcases an i n ys H5 w5 with ⟨stop,q⟩ | ⟨go,N2,hN,step⟩
 ·refine thn (T.done Y rfl rfl rfl hc i _ I _ H5 _ ah (af ai) am stop) fun r s6 ⟨hr,I6⟩=>?_
  subst hr;obtain⟨o6,aw,_⟩:=I6.pin (D,_) (qB _ mD);exact⟨ys,C,H5,z5,I6.unpinned,aw,o6,aa,q⟩
 ·refine thn (T.item Y rfl rfl rfl hc i _ I _ H5 _ ah (af ai) am go) fun r s6 ⟨u,hr,h6⟩=>?_
  subst hr;refine thn h6 fun _ s7 ⟨x,H7,I7,r7,y7,ab,aq⟩=>?_
  refine thn (hg _ s7 _ H7 x u _ (I7.pinned (af aq) (T.obj _ _ ab)) r7 (step x H7 y7)) fun _ s8 ⟨σ8,H8,I8,as,q8⟩=>?_
  refine thn (hf _ s8 σ8 H8 _ I8 q8) fun ok s9 ⟨H9,I9,q9⟩=>?_
  have ag:=qB Y.pn (jA (qC B s7.heap) mD);have mF:∀b∈B,∀o,s7.heap.get? b=some o->(b,o)∈Y.pn++((c++qC [D] I.heap)++qC B s7.heap):=fun b hb o e=>qB _ (qB _ (qZ hb e))
  generalize hP:(c++qC [D] I.heap)++qC B s7.heap=P at I9 ag mF he;have ae:∀{s:Hp} {s':Shared},Inv Y P σ8 s s'->Inv Y c σ4 s s':=fun {s s'} J=>by subst hP;exact bk _ _ _ (J.unpinned).unpinned as
  have aj:∀{s:Hp} {s':Shared},Inv Y P σ8 s s'->∀b∈B,s b=none:=fun {s s'} J b hb=>by
   obtain⟨o,e,_⟩:=T.obj _ _ ab b hb;exact(J.pin (b,o) (mF b hb o e)).2.1
  cases ok with
  | false=>
   obtain⟨m',hm,w'⟩:=hN _ _ (show N2 ys H9 by simpa using q9)
   obtain⟨o9,ax,_⟩:=I9.pin (D,_) ag;exact⟨m',hm,i+1,ys,C,H9,z5,ae I9,T.keep _ _ _ ab fun b hb o e=>(I9.pin (b,o) (mF b hb o e)).1,aj I9,ax,o9,aa,w'⟩
  | true=>
   refine thn (he _ s9 σ8 H9 (fun y H6=>ys.length<sizeLine/\N2 (ys++[y]) H6) I9 (by simpa using q9)) fun yv b0 ⟨y,Q,a0,az,au,ba⟩=>?_
   obtain⟨m',hm,w'⟩:=hN _ _ ba;obtain⟨ay,H,_⟩:=a0.pin (D,_) ag;refine wpAny_list_append_plain (l:=D) (items:=C.toArray) (hsz:=by rw[zX,<- aa.length];exact yP au) ⟨_,ay⟩ fun bc ak ac=>?_
   obtain⟨bb,ap⟩:=ak;obtain⟨d0,d1,d2,d3,d4,d5⟩:=fD _ H;refine⟨m',hm,i+1,ys++[y],C++[yv],Q,bb,?_,T.keep _ _ _ ab fun b hb o e=>ac.extBut b o (qu (nD b hb)) (a0.pin (b,o) (mF b hb o e)).1,aj a0,H,?_,aa.append (.cons az .nil),w'⟩
   ·exact(ae a0).turned (t':=b0.toks) (it:=D) (fun b o hb e=>ac.extBut b o hb e) H d1 d3 d4 d5
   ·rw[ap];simp
theorem zcQ{use:Option (Value->Sem Unit)}{Qx:Value->Shared->Prop}{cp:Pos}{rest:List Comprehension}{l:List (Addr×Obj)}{s:Shared}{σ:St}{H:Hp}{Q:VK}{Tl:It->(Nat->Nat->List V->Hp->Prop)->Prop}(own fr:List Str)(js:List Nat)(hk:f.kind=.function)(hb:yk f.names X.env.scope.names X.N fr js=true)(hi:PI X G w U)
  (hs:∀x,foldedSetIterable w X.env x=pure x) (I:Inv X l σ H s) (h:U σ H fun J H1=>∃W:Nat->Nat->List V->Hp->Prop,(∃m,W 0 m [] H1)/\Tl J W)
  (ah:∀(C D it:Addr) (N:List Addr) (tn:Nat->Heap->Prop) (J:It) (W:Nat->Nat->List V->Hp->Prop) (Y:Hp) (s3 s4:Shared) (m0:Nat) (R:Result->Shared->Prop),(∀b∈D::N,∀H':Hp,H' b=none->jX (zH X (own++fr) f C s3 Y (D::N)) [] H' b)->(∀b∈N,D≠b) ->
   yw X.prog X.w X.K G J N it tn->Tl J W->LcJ (zH X (own++fr) f C s3 Y (D::N)) D tn N [] (upS own.length js σ) W m0 s4 ->
   (∀s6,LcE (zH X (own++fr) f C s3 Y (D::N)) D [] (upS own.length js σ) (fun ys H5=>ys.length<=sizeLine/\∀D,H5 D=none->Q (.ref D) (upd H5 D (.lst ys))) s6->R (.ok .next) s6) ->
   codeAny (model X.prog X.w) X.A (.compLoop (.ListComp A (⟨G,w,E,0⟩::rest) f L) 0 (.ref it) (.ref D) (compEnvC f (jw X.env.cells f.names []) C X.env)) R s4)
  (aj:∀(s6:Shared) (D C:Addr) (H6:Hp) (m:Str->Option Value),s6.heap.Ns C m->(∀h7:Heap,(∀b o,b≠C->s6.heap.get? b=some o->h7.get? b=some o)->Inv X l σ H6 { s6 with heap:=h7 })->jX X l H6 C->Q (.ref D) H6->compPost (model X.prog X.w) X.A X.xe use Qx (.ref D) C (.ok .next) s6) :
  wpAny (model X.prog X.w) X.A (comprehension (.ListComp A (⟨G,w,E,0⟩::rest) f L) f X.env cp (newList []) false (eval w X.env) use) Qx X.xe s:=by
 have B:=Vt hb;have a0:∀y∈f.names,y.2=NameKind.free->∃c,X.env.cells.lookup y.1=some c:=fun y hy e=>I.ok.has y.1 (B.free y hy e)
 refine wpAny_comprehension_free rfl hs (YR a0) hk (fun y hy e=>B.loc y hy e) (thn (hi l s σ H _ I h) fun v s1 h1=>thn h1 fun ar s2 h2=>?_)
 obtain⟨it,N,tn,J,Y,e,I2,T,ae,f2,W,⟨m0,w0⟩,tl⟩:=h2;subst e;have fl:∀b∈N,b<s2.heap.objs.size:=fun b hb=>let ⟨o,e,_⟩:=T.obj _ _ ae b hb;zP e
 refine vi (wpAny_newFunctionEnv B.cell (by intro y hy;simp at hy) (fun h1 ab ac=>?_) hk)
 dsimp only at ab ac ⊢;generalize e3:s2.heap.push { cls:=.type "list",dict:=none,data:=.seq ([]:List Value).toArray }=h3 at ab ac ⊢;have k3:∀b o,s2.heap.get? b=some o->h3.get? b=some o:=fun b o e=>by rw[<- e3];exact qr _ e
 have k4:∀b o,h3.get? b=some o->h1.get? b=some o:=fun b o e=>ac.extBut b o (qw (zP e)) (qr _ e)
 have I4:Inv (zH X (own++fr) f h3.objs.size { s2 with heap:=h3 } Y (s2.heap.objs.size::N)) [] (upS own.length js σ) Y { s2 with heap:=h1,toks:=s2.toks+([]:List (Str×Value)).length }:=
  zaW own fr js I2 B hk f2 fl rfl e3.symm rfl ab k4
 have I3:Inv X l σ Y { s2 with heap:=h3 }:=I2.kept (t':=s2.toks) k3;have hz:h3.objs.size=s2.heap.objs.size+1:=by rw[<- e3,xg]
 have aa:s2.heap.objs.size≠h3.objs.size:=by rw[hz];exact qw (Qb _)
 have af:h1.get? s2.heap.objs.size=some { cls:=.type "list",data:=.seq ([]:List Value).toArray }:=k4 _ _ (by rw[<- e3];exact qk _ rfl)
 have al:=(I3.fpOk (b:=h3.objs.size) (zM _) (I3.hok.fresh (zM _))).2;have dN:Y s2.heap.objs.size=none:=I2.hok.fresh (zM _);have dO:=I2.fpOk (b:=s2.heap.objs.size) (zM _) dN;have fD:∀b∈N,s2.heap.objs.size≠b:=fun b hb=>vY (fl b hb)
 generalize s2.heap.objs.size=D at *
 generalize eC:h3.objs.size=C at *
 have hx:∀b,jX X l Y b->∀x c,(jw X.env.cells f.names []).lookup x=some c->c≠b:=fun b hb x c e=>hb.2.2.2.2.1 x c (qE e a0)
 have ap:∀b∈D::N,b∉frs X.stack:=I4.ok.exfs;have nC:∀b∈D::N,b≠C:=fun b hb=>by
  rcases qm.mp hb with z | hb
  ·rw[z];exact aa
  ·exact(I4.ok.exf b (jn _ hb)).1
 have all:∀b∈D::N,jX X l Y b:=fun b hb=>by
  rcases qm.mp hb with z | hb
  ·rw[z];exact dO
  ·exact f2 b hb
 have ak:∀b∈D::N,∀H':Hp,H' b=none->jX (zH X (own++fr) f C { s2 with heap:=h3 } Y (D::N)) [] H' b:=fun b hb H' hn=>
  ⟨hn,nC b hb,ap b hb,.inl hb,fun x c e=>hx b (all b hb) x c e,fun p h=>absurd h (by simp)⟩
 have go:∀s4:Shared,s4={ s2 with heap:=h1,toks:=s2.toks+([]:List (Str×Value)).length } ->
   codeAny (model X.prog X.w) X.A (.compLoop (.ListComp A (⟨G,w,E,0⟩::rest) f L) 0 (.ref it) (.ref D) (compEnvC f (jw X.env.cells f.names []) C X.env)) (compPost (model X.prog X.w) X.A X.xe use Qx (.ref D) C) s4:=by
  intro s4 e4;subst e4;refine ah C D it N tn J W Y _ _ m0 _ ak fD T tl ⟨0,[],[],Y,0,I4,T.keep _ _ _ ae fun b hb o e=>k4 b o (k3 b o e),fun b hb=>(f2 b hb).1,dN,af,.nil,w0⟩ fun s6 h6=>?_
  obtain⟨ys,ao,H5,z5,I6,ai,o6,aq,ag,q⟩:=h6;obtain⟨m6,an,_⟩:=I6.loc;have am:upd H5 D (.lst ys) C=none:=by rw[zm (qu aa)];exact I6.free
  refine aj s6 D C (upd H5 D (.lst ys)) m6 an (fun h7 k7=>?_) ⟨am,al⟩ (q D ai)
  refine I3.call' (s':={ s6 with heap:=h7 }) (ch:=D::N) I6.os (Xz (za6 I6.base (wf eC) k7) jz dN) (Jf (YF I6.hok I6.free k7) ai ⟨ag,ao,z5,aq,k7 D _ aa o6⟩) I6.bare fun b hb=>?_
  obtain⟨_,g1,_,g3,g4,g5⟩:=all b hb;exact⟨g3,g1,g4,g5⟩
 exact codeAny_compStart_list (go _ rfl) (T.self X.A 0 _ _ _ (T.keep _ _ _ ae fun b hb o e=>k4 b o (k3 b o e)) (go _ rfl))
theorem Xx{Y:Cx}{c:List (Addr×Obj)}{n:Nat}{l:List Nat}{σ C:St}{s:Hp}{B:Shared}(H:(upS n l σ).length=Y.N.length)(J:Inv Y c C s B)(D:C.drop n=(upS n l σ).drop n):Inv Y c (upS n l σ) s B:=by
 refine J.weak (H.trans J.len.symm) fun k v e=>?_
 obtain⟨I,e1,_⟩:=wU e;rw[<- D,Xh] at e1;rw[<- e1];congr 1
 omega
theorem YA{C D it:Addr}{c:List Addr}{tn:Nat->Heap->Prop}{J:It}{W:Nat->Nat->List V->Hp->Prop}{H2:Hp}{s3 s4:Shared}{m0 n:Nat}{R:Result->Shared->Prop}{Q:List Nat}{σ:St}{e:List Str}{N:List V->Hp->Prop}(hc:X.calm=true)
  (hg:∀C s H ex,PG (zH X e f C s H ex) G g) (hf:∀C s H ex,PF (zH X e f C s H ex) E O) (he:∀C s H ex,PE (zH X e f C s H ex) A M) (aa:∀b∈D::c,∀B:Hp,B b=none->jX (zH X e f C s3 H2 (D::c)) [] B b) (fD:∀b∈c,D≠b) (T:yw X.prog X.w X.K G J c it tn)
  (ab:∀i m l H7,W i m l H7->(J.stop i H7/\N l H7)\/(J.go i H7/\∃N2:List V->Hp->Prop,(∀l B,N2 l B->∃m',m'<m/\W (i+1) m' l B)/\∀x H8,J.yld i H7 x H8->g x (upS n Q σ) H8 fun σ9 H9=>σ9.drop n=(upS n Q σ).drop n/\O σ9 H9 fun b a0=>
    if b=true then M σ9 a0 fun y ac=>l.length<sizeLine/\N2 (l++[y]) ac else N2 l a0))
  (j:LcJ (zH X e f C s3 H2 (D::c)) D tn c [] (upS n Q σ) W m0 s4) (ae:∀s6,LcE (zH X e f C s3 H2 (D::c)) D [] (upS n Q σ) N s6->R (.ok .next) s6) :
  codeAny (model X.prog X.w) X.A (.compLoop (.ListComp A [⟨G,w,E,0⟩] f L) 0 (.ref it) (.ref D) (compEnvC f (jw X.env.cells f.names []) C X.env)) R s4:=by
 have hl:=(let ⟨_,_,_,_,_,I,_,_,_,_,_,_⟩:=j;I.len:(upS n Q σ).length=e.length)
 refine zcU (LcJ (zH X e f C s3 H2 (D::c)) D tn c [] (upS n Q σ) W) (fun k s5 j=>qg (Yz (Y:=zH X e f C s3 H2 (D::c)) hc rfl (hg _ _ _ _) (hf _ _ _ _) (he _ _ _ _) T (aa D jz) (fun b hb=>aa b (jn _ hb)) fD (fun σ9 B s' J hd=>Xx hl J hd) ab j) (fun r s6 h6=>?_) fun _ _ q=>q) m0 j
 cases r with
 | some v=>exact h6
 | none=>exact ae s6 h6
theorem zb5(own l:List Str)(Y:List Nat)(hc:X.calm=true)(hk:f.kind=.function)(hb:yk f.names X.env.scope.names X.N l Y=true)(hi:PI X G w U)
  (hg:∀C s H c,PG (zH X (own++l) f C s H c) G g) (hf:∀C s H c,PF (zH X (own++l) f C s H c) E O) (he:∀C s H c,PE (zH X (own++l) f C s H c) A M)
  (hs:∀x,foldedSetIterable w X.env x=pure x:=by intro _;rfl):PE X (.ListComp A [⟨G,w,E,0⟩] f L) (tLC U own.length Y g O M):=by
 intro a0 s σ H Q I h;rw[eval_ListComp];exact zcQ (rest:=[]) own l Y hk hb hi hs I h (fun C D it fp tn J W H2 s3 s4 m0 R a b T tl j B=>YA hc hg hf he a b T tl j B) fun s6 D C H6 m hn all _ q=>⟨m,hn,fun h7 N=>⟨.ref D,H6,all h7 fun b o hb e=>N.extBut b o hb e,rfl,q⟩⟩
end
section
variable{X:Cx}{f:List (Addr×Obj)}{σ:St}{H:Hp}{s:Shared}
theorem JO{ch:List Addr}{h':Heap}{t':Nat}{T:Addr}{w:List V}{its:List Value}(I:Inv X f σ H s)(l:∀b∈ch,jX X f H b)(A:s.heap.objs.size<=T)
  (k:∀b o,b∉ch->s.heap.get? b=some o->h'.get? b=some o) (M:w.length<=sizeLine) (U:Vals w its) (Q:TupX h' T its.toArray) :
  Inv X f σ (upd H T (.tup w)) { s with heap:=h',toks:=t' }:=by
 have g:H T=none:=I.hok.fresh A;have ne:∀b o,s.heap.get? b=some o->b≠T:=fun b o e=>qw (jD (zP e) A)
 have B:∀b u,H b=some u->b∉ch:=fun b u e hb=>by rw[(l b hb).1] at e;cases e
 refine I.step (g':=s.gens) (d':=s.drawn) (ch:=ch) (fun b hb=>?_) (fun b o _ _ hc e _=>k b o hc e) (fun b o _ _ hc e _=>⟨o.slots,k b o hc e⟩) (fun b o _ e n=>by rw[zm (ne b o e)];exact n) (fun b o hc e=>⟨o,k b o hc e⟩)
  (fun b Y e=>by rw[zm (zk e g)];exact e) (fun b o u e=>by rw[zm (zk e g)];exact e) (fun b ps e=>⟨#[],by rw[zm (zk e g),e];simp⟩) (fun m N=>?_) (fun b u e=>?_) I.bare
 ·obtain⟨_,E,_,G,J,L⟩:=l b hb
  exact⟨G,E,J,L⟩
 ·obtain⟨o,D,C,O,r⟩:=N
  exact⟨o,D,C,k _ o (fun z=>(l _ z).2.1 rfl) O,r⟩
 ·by_cases hb:b=T
  ·subst hb
   rw[zc] at e;cases e;exact⟨M,its,U,Q⟩
  ·rw[zm hb] at e
   refine(I.hok b u e).stay (fun c v hc q=>k c v ?_ q) (fun c q=>by rw[zm (zk q g)];exact q) fun c Y q=>by rw[zm (zk q g)];exact q
   rcases hc with z | z
   ·rw[z];exact B b u e
   ·exact B c _ z
end
def Ite(K:W.Frag)(a:Addr):It:=
 ⟨fun i H=>∃c x,SqL K H a c/\c[i]? =some x,fun i H x e=>∃T y,x=.ref T/\H T=none/\e=upd H T (.tup [.int i,y])/\∀c,SqL K H a c->c[i]? =some y,fun i H=>∃c,SqL K H a c/\c.length<=i⟩
theorem zal{P:Program}{w:World}{K:W.Frag}{N:List Expr}{kk:Nat}{aj:Pos}(a e l:Addr)(G:e≠l) :
  yw P w K (.Tuple N kk aj) (Ite K a) [e,l] e (fun i h=>(∃C,IsEnum h e l i C)/\h.IsListIter l a i) where
 mem:=by simp
 obj:=fun i h st b hb=>by
  obtain⟨⟨C,f⟩,⟨o,ho,c,d⟩⟩:=st;rcases qm.mp hb with z | z
  ·subst z;exact⟨_,f,fun v q=>nomatch q⟩
  ·rw[zY.mp z];exact⟨o,ho,fun v q=>by rw[d] at q;cases q⟩
 keep:=fun i h h' st k=>by
  obtain⟨⟨C,f⟩,hi⟩:=st;exact⟨⟨C,k e (by simp) _ f⟩,hi.at fun o q=>k l (by simp) o q⟩
 item:=by
  intro X hP hw hK hc i Y s σ H E I hf st hg;subst hP hw hK;obtain⟨⟨C,f⟩,g⟩:=st;obtain⟨xs,x,hq,hx⟩:=hg;obtain⟨B,rv,p,hz⟩:=I.list hq;obtain⟨u,hu,ru⟩:=rv.get hx;have M:=p.isList;have O:a≠l:=fun z=>by
   obtain⟨o,e1,c1,_⟩:=M;obtain⟨o',e2,c2,_⟩:=g;rw[z,e2] at e1;cases e1;rw[c2] at c1;exact absurd (Ze c1) (by decide)
  have aa:e≠a:=fun z=>by
   obtain⟨o,e1,c1,_⟩:=M;rw[<- z,f] at e1;cases e1;exact absurd (Ze c1) (by decide)
  have D:=Draws.list (prog:=X.prog) (w:=X.w) (A:=X.A.in1) (I.ok.hd hc) l a O B.toArray;have hi:i<B.toArray.size:=by
   have h1:=(zK.mp hu).1;simpa using h1
  refine wpAny_pyNext_enum_itemD D f ⟨g,M⟩ hi G (by simp[G,aa]) fun x' h' tk a0 Q U hT am hk=>?_
  have ex:x'=u:=by
   have L:B[i]? =some x':=by simpa using a0
   rw[hu] at L;exact(jm L).symm
  subst ex;refine⟨_,rfl,wpAny_letOwnedTupleGo_enum Q fun L af J=>?_⟩
  have eT:s.heap.objs.size≠e:=vY (zP f);have k2:∀b o,b∉[e,l]->s.heap.get? b=some o->L.get? b=some o:=fun b o hb q=>by
   have n1:b≠e:=fun z=>hb (by simp[z])
   have n2:b≠l:=fun z=>hb (by simp[z])
   exact(J.2 b n1).trans (hk b o n1 n2 q)
  have ai:L.IsListIter l a (i+1):=U.1.extBut J.extBut (qu G);refine⟨.ref s.heap.objs.size,upd H s.heap.objs.size (.tup [.int i,x]),?_,rfl,⟨_,x,rfl,I.hok.fresh (zM _),rfl,fun ys hy=>by rw[I.list_inj hy hq];exact hx⟩,⟨⟨_,by simpa using af⟩,ai⟩,fun b hb=>?_⟩
  ·refine JO (s:=s) (h':=L) (t':=tk+1) (its:=[.int i tk,x']) I hf (zM _) k2 (by rw[sizeLine_eq];exact(by decide:2<=16777216)) (.cons ⟨tk,rfl⟩ (.cons ru .nil)) (TupX.by ((J.2 _ eT).trans hT))
  ·have ab:b<s.heap.objs.size:=by
    rcases qm.mp hb with z | z
    ·rw[z];exact zP f
    ·rw[zY.mp z]
     obtain⟨o',e',_⟩:=g;exact zP e'
   rw[zm (qw ab)];exact(hf b hb).1
 done:=by
  intro X hP hw hK hc i Y s σ H E I hf st hg;subst hP hw hK;obtain⟨⟨C,f⟩,g⟩:=st;obtain⟨xs,hq,hx⟩:=hg;obtain⟨B,rv,p,hz⟩:=I.list hq;have M:=p.isList;have O:a≠l:=fun z=>by
   obtain⟨o,e1,c1,_⟩:=M;obtain⟨o',e2,c2,_⟩:=g;rw[z,e2] at e1;cases e1;rw[c2] at c1;exact absurd (Ze c1) (by decide)
  obtain⟨f0,f1,f2,f3,f4,f5⟩:=hf l (by simp)
  have ag:B.toArray.size<=i:=by
   have:=rv.length;simp only[zX];omega
  have hT:s.TypeIs (.ref e) "enumerate" :=⟨_,f,rfl⟩;unfold pyNext;refine zi (wP (yr (name:=Str.ofString "__next__") hT Xm (vE Xm hT F.entry_enumerate_next ?_ (F.args_enumerate_next_1 _))))
  show wpAny _ _ (field (.ref e) 2 >>= _) _ _ _;refine zi (xw f rfl (x:=.ref l) rfl (zi (wpAny_nextOf_list_end (I.ok.hd hc) g M (by simpa using ag) fun h' x ae ah=>?_)))
  obtain⟨o,ho,ac⟩:=ah;refine zi (Zh (T:= "StopIteration") (b:=true) ⟨o,ho,ac⟩ isSubtype_stop ?_)
  exact zE ⟨rfl,I.turned (t':=s.toks) (fun b o hb q=>ae b o hb q) f0 f1 f3 f4 f5⟩
 self:=fun _ _ _ _ _ st h=>let ⟨⟨_,f⟩,_⟩:=st;wpAny_pyIter_enum f h
section
variable{X:Cx}
def zg9(K:W.Frag)(e:TA):TI:=fun σ H R=>e σ H fun f c=>∃a,f=[.ref a]/\(∃g,SqL K c a g)/\R (Ite K a) c
theorem JJ{l:Expr}{D:TA}{p w tp:Pos}{f:List Expr}{U:Nat}(L:Gl X "enumerate")(N:X.mg "enumerate" = none)(J:PA X [l] D)(O:starEach [l] X.env=[(false,eval l X.env)]:=by rfl) :
  PI X (.Tuple f U tp) (.Call (.Name "enumerate" p) [l] [] w) (zg9 X.K D):=by
 intro c s σ H R I h;refine Call_ (vv I L N boot_enumerate (Qe (thn (J w c s σ H _ I h) fun us s1 ⟨vs,B,A,r1,q1⟩=>?_) O rfl))
 obtain⟨a,e,⟨xs,hq⟩,q⟩:=q1;subst e;obtain⟨u,rfl,ru⟩:=vJ r1;cases ru;obtain⟨T,rv,Y,hz⟩:=A.list hq;refine call_enumerate_list Y.isList fun G C M Q hk=>wpAny_pyIter_enum C ?_
 have E:Inv X c σ B { s1 with heap:=G }:=A.kept (t':=s1.toks) hk;refine⟨s1.heap.objs.size+1,[s1.heap.objs.size+1,s1.heap.objs.size],_,_,B,rfl,E,zal a _ _ (Nat.succ_ne_self _),⟨⟨_,C⟩,M⟩,fun b hb=>?_,q⟩
 have g:s1.heap.objs.size<=b:=by
  rcases qm.mp hb with z | z
  ·rw[z];exact yO _
  ·rw[zY.mp z];exact zM _
 exact A.fpOk g (A.hok.fresh g)
theorem Vm{K:W.Frag}{a:Addr}{xs:List V}{g:TG}{B:TS}{D:QI}{σ:St}{H:Hp}(Pv:Nat->St->Hp->Prop)(C:Pv 0 σ H)(J:∀i σ H,i<=xs.length->Pv i σ H->SqL K H a xs)
  (L:∀i x σ H T,xs[i]? =some x->Pv i σ H->H T=none->g (.ref T) σ (upd H T (.tup [.int i,x])) fun w l=>B { D with nx:=Pv (i+1),ct:=Pv (i+1),bk:=D.nx } w l) (G:∀σ H,Pv xs.length σ H->D.nx σ H) :
  ∃W:Nat->Nat->St->Hp->Prop,(∃m,W 0 m σ H)/\∀i m σ H,W i m σ H ->
   ((Ite K a).stop i H/\D.nx σ H)\/((Ite K a).go i H/\∃N:St->Hp->Prop,(∀s c,N s c->∃A,A<m/\W (i+1) A s c)/\∀x c,(Ite K a).yld i H x c->g x σ c fun w l=>B { D with nx:=N,ct:=N,bk:=D.nx } w l):=by
 refine⟨fun i m σ H=>m=xs.length-i/\i<=xs.length/\Pv i σ H,⟨xs.length,by simp,qQ _,C⟩,?_⟩
 rintro i m σ H ⟨rfl,I,p⟩;have q:=J i σ H I p;by_cases f:i<xs.length
 ·refine .inr ⟨⟨xs,xs[i],q,by simp[f]⟩,Pv (i+1),fun s c M=>⟨xs.length-(i+1),by omega,rfl,f,M⟩,fun x c y=>?_⟩
  obtain⟨T,z,e1,E,e2,y⟩:=y;subst e1 e2;exact L i z σ H T (y xs q) p E
 ·have e:i=xs.length:=by omega
  subst e;exact .inl ⟨⟨xs,q,zM _⟩,G σ H p⟩
inductive Zo(K:W.Frag)(e:List V)(H:Hp)(Q:VK):Prop
 | mk (p:Addr) (c:List Bool) (_:e=[.ref p]) (_:SqL K H p (c.map V.bl)) (_:Q (.bl (c.all id)) H):Zo K e H Q
theorem vb(hc:X.calm=true):CallR X (.builtin "all") (Zo X.K):=by
 intro M s σ H xs us Q I r h;obtain⟨p,c,rfl,hq,q⟩:=h;obtain⟨u,rfl,G⟩:=vJ r;cases G;obtain⟨f,J,pl,hz⟩:=I.list hq;have D:=pl.isList;have E:p≠s.heap.objs.size:=by
  obtain⟨o,e,_⟩:=D;exact qw (zP e)
 refine call_all_walk (wpAny_pyIter_list D ?_)
 refine⟨s.heap.objs.size,_,_,_,_,_,fun i=>c.getD i true,rfl,Walks.list (prog:=X.prog) (w:=X.w) (A:=X.A.in1) (I.ok.hd hc) _ p E f.toArray,⟨⟨_,qk _ rfl,rfl,rfl⟩,D.push _⟩,?_,fun Y tk hk=>?_⟩
 ·intro i v s' O E' C hQ
  have C:f.toArray[i]? =some v:=C;have e1:f[i]? =some v:=by simpa using C
  have g:i<c.length:=by
   have h1:=(zK.mp e1).1;have h2:=J.length;rw[zp] at h2;omega
  have e2:(c.map V.bl)[i]? =some (.bl c[i]):=by simp[g]
  obtain⟨u',L,G⟩:=J.get e2;rw[e1] at L;cases L;cases G;have T:c.getD i true=c[i]:=by simp[g]
  have l:O (c.getD i true) s':=hQ;rw[T] at l;exact v0 l
 ·have k:∀b o,s.heap.get? b=some o->Y.get? b=some o:=fun b o e=>hk b o (by simp;exact qw (zP e)) (qr _ e)
  have U:(List.range f.toArray.size).all (fun i=>c.getD i true)=c.all id:=by
   have B:f.toArray.size=c.length:=by
    have:=J.length;rw[zp] at this;simp only[zX];omega
   rw[B,Zf,xO,xO];constructor
   ·intro h b hb
    obtain⟨i,g,rfl⟩:=Ju.mp hb;have:=h i (xD.mpr g);simpa [g] using this
   ·intro h i g
    have g:=xD.mp g;have:=h c[i] (vZ g);simpa [g] using this
  exact⟨.bl (c.all id),H,I.kept k,by rw[U];rfl,q⟩
end
def SqK(K:W.Frag)(e:Bool)(H:Hp)(a:Addr)(c:List V):Prop:=match e with
 | true=>SqL K H a c
 | false=>SqT K H a c
def SeqK(e:Bool)(h:Heap)(a:Addr)(c:Array Value):Prop:=match e with
 | true=>h.IsList a c
 | false=>h.IsTuple a c
def ItrK(e:Bool)(h:Heap)(c a:Addr)(i:Nat):Prop:=match e with
 | true=>h.IsListIter c a i
 | false=>h.IsTupleIter c a i
theorem SeqK.at{kd:Bool}{h f:Heap}{a:Addr}{c:Array Value}(x:SeqK kd h a c)(k:∀o,h.get? a=some o->f.get? a=some o):SeqK kd f a c:=by
 cases kd with
 | true=>exact Heap.IsList.at x k
 | false=>obtain⟨o,e,r⟩:=(show h.IsTuple a c from x);exact⟨o,k o e,r⟩
theorem ItrK.at{kd:Bool}{h f:Heap}{c a:Addr}{i:Nat}(x:ItrK kd h c a i)(k:∀o,h.get? c=some o->f.get? c=some o):ItrK kd f c a i:=by
 cases kd with
 | true=>exact Heap.IsListIter.at x k
 | false=>obtain⟨o,e,r⟩:=(show h.IsTupleIter c a i from x);exact⟨o,k o e,r⟩
theorem ItrK.obj{g:Bool}{h:Heap}{f a:Addr}{i:Nat}(x:ItrK g h f a i):∃o,h.get? f=some o/\(o.cls=.type "list_iterator" \/ o.cls=.type "tuple_iterator")/\∀v,o.data≠.cell v:=by
 cases g with
 | true=>obtain⟨o,e,c,d⟩:=(show h.IsListIter f a i from x);exact⟨o,e,.inl c,fun v q=>by rw[d] at q;cases q⟩
 | false=>obtain⟨o,e,c,d⟩:=(show h.IsTupleIter f a i from x);exact⟨o,e,.inr c,fun v q=>by rw[d] at q;cases q⟩
theorem SeqK.cls{g:Bool}{h:Heap}{a:Addr}{f:Array Value}(x:SeqK g h a f):∃o,h.get? a=some o/\(o.cls=.type "list" \/ o.cls=.type "tuple")/\∃n,o.data=.seq f n:=by
 cases g with
 | true=>obtain⟨o,e,c,n,d⟩:=(show h.IsList a f from x);exact⟨o,e,.inl c,n,d⟩
 | false=>obtain⟨o,e,c,n,d⟩:=(show h.IsTuple a f from x);exact⟨o,e,.inr c,n,d⟩
section
variable{l:Program}{w:World}{A:Around}{E:Value->Shared->Prop}{s:Shared}
theorem vq{kd:Bool}{e a:Addr}{i:Nat}{f:Array Value}{x:Value}{Q:Value->Shared->Prop}(I:ItrK kd s.heap e a i)(J:SeqK kd s.heap a f)(hx:f[i]? =some x)
  (H:∀C,ItrK kd C e a (i+1)->Heap.SameBut e s.heap C->Q x { s with heap:=C }):wpAny (model l w) A (Builtin.SmallTypes.nextOf (.ref e)) Q E s:=by
 cases kd with
 | true=>exact wpAny_nextOf_list_item I J hx H
 | false=>
  have c:s.heap.IsTupleIter e a i:=I;obtain⟨o,B,hc,g⟩:=id c;obtain⟨M,G,_,nl,D⟩:=(show s.heap.IsTuple a f from J)
  unfold Builtin.SmallTypes.nextOf;refine zi (yr (name:=Str.ofString "__next__") c.typeIs Xr (vE Xr c.typeIs zc2 ?_ (zc4 _)))
  show wpAny _ _ (field (.ref e) 0 >>= _) _ _ _;refine zi (xw B g (x:=.ref a) rfl ?_)
  show wpAny _ _ (if(Value.ref a==Value.none)=true then _ else _) _ _ _;rw[zv (show ¬((Value.ref a==Value.none)=true) from qO)]
  show wpAny _ _ (field (.ref e) 1 >>= _) _ _ _;refine zi (xw B g (x:=.int i 0) rfl ?_)
  show wpAny _ _ (seqItems? (.ref a) >>= _) _ _ _;refine zi (yp G D ?_);simp only[yq,hx]
  refine zi (wpAny_setField B g (by simp) (zE ⟨x,rfl,zE (H _ (show Heap.IsTupleIter _ _ _ _ from ?_) (Qd ..))⟩))
  refine⟨_,Jv _ B (Wo (Qn g _)),(Wb ..).trans hc,?_⟩;rw[Qn g];simp[rawInt]
theorem wq{kd:Bool}{g a:Addr}{i:Nat}{f:Array Value}{Q:Value->Shared->Prop}(G:A.handled=none)(L:ItrK kd s.heap g a i)(M:SeqK kd s.heap a f)(hx:f[i]? =none)
  (J:∀B e,Heap.ExtBut g s.heap B->(∃o,B.get? e=some o/\o.cls=.type "StopIteration")->E (.ref e) { s with heap:=B }):wpAny (model l w) A (Builtin.SmallTypes.nextOf (.ref g)) Q E s:=by
 cases kd with
 | true=>exact wpAny_nextOf_list_end G L M hx J
 | false=>
  have c:s.heap.IsTupleIter g a i:=L;obtain⟨o,H,hc,C⟩:=id c;obtain⟨O,I,_,nl,D⟩:=(show s.heap.IsTuple a f from M)
  unfold Builtin.SmallTypes.nextOf;refine zi (yr (name:=Str.ofString "__next__") c.typeIs Xr (vE Xr c.typeIs zc2 ?_ (zc4 _)))
  show wpAny _ _ (field (.ref g) 0 >>= _) _ _ _;refine zi (xw H C (x:=.ref a) rfl ?_)
  show wpAny _ _ (if(Value.ref a==Value.none)=true then _ else _) _ _ _;rw[zv (show ¬((Value.ref a==Value.none)=true) from qO)]
  show wpAny _ _ (field (.ref g) 1 >>= _) _ _ _;refine zi (xw H C (x:=.int i 0) rfl ?_)
  show wpAny _ _ (seqItems? (.ref a) >>= _) _ _ _;refine zi (yp I D ?_);simp only[yq,hx]
  refine zi (xT (zi (wpAny_setField H C (by simp) ?_)));show wpAny _ _ (newExc (.type "StopIteration") [] >>= _) _ _ _
  refine zi ?_;simp only[newExc,newTuple];refine zi (vi ?_ (by size_fits))
  refine zi (m:=firstArgMember _ _) (wpAny_of_eq (a:=Value.none) (by first| rfl | (simp only[firstArgMember];rfl)) (vi ?_ (by size_fits)))
  simp only[raiseNew];refine zi (wpAny_handled ?_);first| rw[show A.in1.handled=none from G] | rw[G]
  exact zi (zE (wpAny_throw (J _ _ (((Qd ..).extBut.push _).push _) ⟨_,qk _ rfl,rfl⟩)))
structure Jw(k1 k2:Bool)(h:Heap)(z TI TO i1 i2 a1 a2:Addr)(i:Nat):Prop where
 zz:IsZip h z TI TO .none
 ti:IsPair h TI (.ref i1) (.ref i2)
 to:∃a b,IsPair h TO a b
 r1:ItrK k1 h i1 a1 i
 r2:ItrK k2 h i2 a2 i
structure YW(z TI TO i1 i2:Addr):Prop where
 a:TI≠z
 b:TO≠z
 c:i1≠z
 d:i2≠z
 e:TI≠TO
 f:TI≠i1
 g:TI≠i2
 h:TO≠i1
 i:TO≠i2
 j:i1≠i2
theorem YX{k1 k2:Bool}{z TI TO B I a1 a2:Addr}{i:Nat}{xs ys:Array Value}{x y:Value}{Q:Option Value->Shared->Prop}(N:YW z TI TO B I)(Z:Jw k1 k2 s.heap z TI TO B I a1 a2 i)
  (l1:SeqK k1 s.heap a1 xs) (l2:SeqK k2 s.heap a2 ys) (m1:∀b∈[z,TO,B,I],a1≠b) (m2:∀b∈[z,TO,B,I],a2≠b) (hx:xs[i]? =some x) (hy:ys[i]? =some y)
  (hQ:∀J,IsZip J z TI TO (rawInt s.heap.objs.size)->IsPair J TI (.ref B) (.ref I)->(∃a b,IsPair J TO a b)->ItrK k1 J B a1 (i+1)->ItrK k2 J I a2 (i+1)->IsPair J s.heap.objs.size x y->J.objs.size=s.heap.objs.size+1 ->
   (∀c o,c∉[z,TO,B,I]->s.heap.get? c=some o->J.get? c=some o)->Q (some (.ref s.heap.objs.size)) { s with heap:=J }):wpAny (model l w) A (pyNext (.ref z)) Q E s:=by
 obtain⟨hz,af,⟨a,b,aj⟩,h1,h2⟩:=Z;have hT:s.TypeIs (.ref z) "zip" :=⟨_,hz,rfl⟩;unfold pyNext;refine zi (wP (yr (name:=Str.ofString "__next__") hT J8 (vE J8 hT F.entry_zip_next ?_ (F.args_zip_next_1 _))))
 show wpAny _ _ (field (.ref z) 2 >>= _) _ _ _;refine zi (xw hz rfl (x:=.bool false) rfl ?_)
 show wpAny _ _ (field (.ref z) 3 >>= _) _ _ _;refine zi (xw hz rfl (x:=.ref TI) rfl (zi (yp af rfl ?_)))
 show wpAny _ _ (Builtin.SmallTypes.ownedTupleIsFree (.ref z) >>= _) _ _ _;refine zi ?_
 unfold Builtin.SmallTypes.ownedTupleIsFree;refine zi (xw hz rfl (x:=.none) rfl (zE ?_));simp only[if_true]
 refine zi (xT (zi (xw hz rfl (x:=.ref TO) rfl (zi (yX hz (by simp) fun g1 ab D=>?_)))))
 replace ab:IsZip g1 z TI TO .ellipsis:=ab
 refine zi ?_;simp only[List.zipIdx_cons,List.zipIdx_nil,J9,V6]
 refine zi (zi (wpAny_onRaise ?_));show wpAny _ _ (Builtin.SmallTypes.nextOf (.ref B) >>= _) _ _ _
 refine zi (vq (h1.at fun o e=>D.extBut _ o N.c e) (l1.at fun o e=>D.extBut _ o (m1 z (by simp)) e) hx fun g2 ah L=>zE ?_)
 have T:IsPair g2 TO a b:=L.extBut _ _ N.h (D.extBut _ _ N.b aj);refine zi (yp T rfl (zi (wpAny_updateSeq_pair T fun g3 C M=>?_)))
 replace C:IsPair g3 TO x b:=C
 refine zi (wpAny_letGo (zE ?_));refine zi (zi (wpAny_onRaise ?_));show wpAny _ _ (Builtin.SmallTypes.nextOf (.ref I) >>= _) _ _ _
 have Y:∀c o,c∉[z,TO,B]->s.heap.get? c=some o->g3.get? c=some o:=fun c o hc e=>M.extBut _ o (fun q=>hc (by simp[q])) (L.extBut _ o (fun q=>hc (by simp[q])) (D.extBut _ o (fun q=>hc (by simp[q])) e))
 refine zi (vq (h2.at fun o e=>Y _ o (by simp[N.d,qu N.i,qu N.j]) e) (l2.at fun o e=>Y _ o (by simp[m2 z (by simp),m2 TO (by simp),m2 B (by simp)]) e) hy fun g4 ai G=>zE ?_)
 have U:IsPair g4 TO x b:=G.extBut _ _ N.i C;refine zi (yp U rfl (zi (wpAny_updateSeq_pair U fun f g H=>?_)))
 replace g:IsPair f TO x y:=g
 refine zi (wpAny_letGo (zE (zE (zi (yp g rfl (zi (wpAny_newTuple ?_)))))))
 have zs:f.objs.size=s.heap.objs.size:=by rw[H.1,G.1,M.1,L.1,D.1]
 have ag:IsZip f z TI TO .ellipsis:=H.extBut _ _ (qu N.b) (G.extBut _ _ (qu N.d) (M.extBut _ _ (qu N.b) (L.extBut _ _ (qu N.c) ab)));have k5:∀c o,c∉[z,TO,B,I]->s.heap.get? c=some o->f.get? c=some o:=fun c o hc e=>H.extBut _ o (fun q=>hc (by simp[q])) (G.extBut _ o (fun q=>hc (by simp[q])) (Y c o (fun q=>hc (by simp at q ⊢;rcases q with q | q | q<;>simp[q])) e))
 have r1:ItrK k1 f B a1 (i+1):=ah.at fun o e=>H.extBut _ o (qu N.h) (G.extBut _ o N.j (M.extBut _ o (qu N.h) e))
 have r2:ItrK k2 f I a2 (i+1):=ai.at fun o e=>H.extBut _ o (qu N.i) e
 have zl:z<f.objs.size:=zP ag;show wpAny _ _ (Builtin.SmallTypes.ownedTupleHandOut (.ref z) (.ref f.objs.size) >>= _) _ _ _;refine zi ?_;unfold Builtin.SmallTypes.ownedTupleHandOut
 have ak:IsZip (f.push { cls:=.type "tuple",data:=.seq #[x,y] }) z TI TO .ellipsis:=qr _ ag;refine zi (yX ak (by simp) fun g7 ac a0=>?_)
 replace ac:IsZip g7 z TI TO (rawInt f.objs.size):=ac
 refine yX ac (by simp) fun g8 O aa=>?_
 replace O:IsZip g8 z TI TO (rawInt f.objs.size):=O
 have up:∀c o,c≠z->f.get? c=some o->g8.get? c=some o:=fun c o c1 e=>aa.extBut _ o c1 (a0.extBut _ o c1 (qr _ e))
 have ae:IsPair g8 f.objs.size x y:=aa.extBut _ _ (vY zl) (a0.extBut _ _ (vY zl) (qk _ rfl));have z8:g8.objs.size=f.objs.size+1:=by rw[aa.1,a0.1,xg]
 rw[zs] at O ae z8;refine zE ⟨_,rfl,zE ?_⟩;show Q (some (.ref f.objs.size)) _;rw[zs]
 exact hQ g8 O (up _ _ N.a (k5 _ _ (by simp[N.a,N.e,N.f,N.g]) af)) ⟨_,_,up _ _ N.b g⟩ (r1.at fun o e=>up _ o N.c e) (r2.at fun o e=>up _ o N.d e) ae z8 fun c o hc e=>up c o (fun q=>hc (by simp[q])) (k5 c o hc e)
theorem za1{k1 k2:Bool}{z TI TO I O a1 a2:Addr}{i:Nat}{xs ys:Array Value}{Q:Option Value->Shared->Prop}(hh:A.handled=none)(N:YW z TI TO I O)(Z:Jw k1 k2 s.heap z TI TO I O a1 a2 i)
  (l1:SeqK k1 s.heap a1 xs) (l2:SeqK k2 s.heap a2 ys) (m1:∀b∈[z,TO,I,O],a1≠b) (m2:∀b∈[z,TO,I,O],a2≠b) (U:xs[i]? =none\/ys[i]? =none)
  (hQ:∀h',(∀c o,c∉[z,TO,I,O]->s.heap.get? c=some o->h'.get? c=some o)->Q none { s with heap:=h' }):wpAny (model l w) A (pyNext (.ref z)) Q E s:=by
 obtain⟨M,ac,⟨a,b,ae⟩,h1,h2⟩:=Z;have hT:s.TypeIs (.ref z) "zip" :=⟨_,M,rfl⟩;unfold pyNext;refine zi (wP (yr (name:=Str.ofString "__next__") hT J8 (vE J8 hT F.entry_zip_next ?_ (F.args_zip_next_1 _))))
 show wpAny _ _ (field (.ref z) 2 >>= _) _ _ _;refine zi (xw M rfl (x:=.bool false) rfl ?_)
 show wpAny _ _ (field (.ref z) 3 >>= _) _ _ _;refine zi (xw M rfl (x:=.ref TI) rfl (zi (yp ac rfl ?_)))
 show wpAny _ _ (Builtin.SmallTypes.ownedTupleIsFree (.ref z) >>= _) _ _ _;refine zi ?_
 unfold Builtin.SmallTypes.ownedTupleIsFree;refine zi (xw M rfl (x:=.none) rfl (zE ?_));simp only[if_true]
 refine zi (xT (zi (xw M rfl (x:=.ref TO) rfl (zi (yX M (by simp) fun g1 G g=>?_)))))
 replace G:IsZip g1 z TI TO .ellipsis:=G
 refine zi ?_;simp only[List.zipIdx_cons,List.zipIdx_nil,J9,V6]
 refine zi (zi (wpAny_onRaise ?_));show wpAny _ _ (Builtin.SmallTypes.nextOf (.ref I) >>= _) _ _ _
 cases hx:xs[i]? with
 | none=>
  refine zi (wq hh (h1.at fun o e=>g.extBut _ o N.c e) (l1.at fun o e=>g.extBut _ o (m1 z (by simp)) e) hx fun g2 e B he=>?_)
  obtain⟨oe,f,C⟩:=he;have aa:IsZip g2 z TI TO .ellipsis:=B _ _ (qu N.c) G;have L:e≠z:=fun q=>by subst q;rw[aa] at f;cases f;exact absurd (Ze C) (by decide)
  refine yX aa (by simp) fun g3 ai D=>?_
  refine zi (Zh (T:= "StopIteration") (b:=true) ⟨oe,D.extBut _ _ L f,C⟩ isSubtype_stop (zE (hQ _ fun c o hc q=>?_)))
  exact D.extBut _ o (fun q=>hc (by simp[q])) (B _ o (fun q=>hc (by simp[q])) (g.extBut _ o (fun q=>hc (by simp[q])) q))
 | some x=>
  have hy:ys[i]? =none:=by rcases U with q | q;rw[hx] at q;cases q;exact q
  refine zi (vq (h1.at fun o e=>g.extBut _ o N.c e) (l1.at fun o e=>g.extBut _ o (m1 z (by simp)) e) hx fun g2 ah B=>zE ?_)
  have H:IsPair g2 TO a b:=B.extBut _ _ N.h (g.extBut _ _ N.b ae);refine zi (yp H rfl (zi (wpAny_updateSeq_pair H fun g3 af D=>?_)))
  have J:∀c o,c∉[z,TO,I]->s.heap.get? c=some o->g3.get? c=some o:=fun c o hc e=>D.extBut _ o (fun q=>hc (by simp[q])) (B.extBut _ o (fun q=>hc (by simp[q])) (g.extBut _ o (fun q=>hc (by simp[q])) e))
  refine zi (wpAny_letGo (zE ?_));refine zi (zi (wpAny_onRaise ?_));show wpAny _ _ (Builtin.SmallTypes.nextOf (.ref O) >>= _) _ _ _
  refine zi (wq hh (h2.at fun o e=>J _ o (by simp[N.d,qu N.i,qu N.j]) e) (l2.at fun o e=>J _ o (by simp[m2 z (by simp),m2 TO (by simp),m2 I (by simp)]) e) hy fun g4 e Y he=>?_)
  obtain⟨oe,f,C⟩:=he;have ab:IsZip g4 z TI TO .ellipsis:=Y _ _ (qu N.d) (D.extBut _ _ (qu N.b) (B.extBut _ _ (qu N.c) G));have L:e≠z:=fun q=>by subst q;rw[ab] at f;cases f;exact absurd (Ze C) (by decide)
  refine yX ab (by simp) fun g5 aj a0=>?_
  refine zi (Zh (T:= "StopIteration") (b:=true) ⟨oe,a0.extBut _ _ L f,C⟩ isSubtype_stop (zE (hQ _ fun c o hc q=>?_)))
  exact a0.extBut _ o (fun q=>hc (by simp[q])) (Y _ o (fun q=>hc (by simp[q])) (J c o (fun q=>hc (by simp at q ⊢;rcases q with q | q | q<;>simp[q])) q))
abbrev zh(h:Heap)(c e:Obj):Heap:=((((h.push c).push e).push { cls:=.type "tuple",data:=.seq #[.ref h.objs.size,.ref (h.push c).objs.size] }).push { cls:=.type "tuple",data:=.seq #[.none,.none] }).push
 { cls:=.type "zip",data:=.fields #[.none,.bool false,.bool false,.ref ((h.push c).push e).objs.size,.ref (((h.push c).push e).push { cls:=.type "tuple",data:=.seq #[.ref h.objs.size,.ref (h.push c).objs.size] }).objs.size] }
theorem zfU{H I:Bool}{a1 a2:Addr}{h:Heap}{f B:Obj}(Q:∀g:Heap,g.get? h.objs.size=some f->ItrK H g h.objs.size a1 0)(T:∀(g:Heap) (n:Addr),g.get? n=some B->ItrK I g n a2 0)(N:f.isFreed=false)(O:B.isFreed=false) :
  Jw H I (zh h f B) (h.objs.size+4) (h.objs.size+2) (h.objs.size+3) h.objs.size (h.objs.size+1) a1 a2 0/\(∀c o,h.get? c=some o->(zh h f B).get? c=some o)/\(zh h f B).objs.size=h.objs.size+5:=by
 have C:(h.push f).objs.size=h.objs.size+1:=xg ..;have D:((h.push f).push B).objs.size=h.objs.size+2:=by rw[xg,C]
 have G:(((h.push f).push B).push { cls:=.type "tuple",data:=.seq #[.ref h.objs.size,.ref (h.push f).objs.size] }).objs.size=h.objs.size+3:=by rw[xg,D]
 have M:((((h.push f).push B).push { cls:=.type "tuple",data:=.seq #[.ref h.objs.size,.ref (h.push f).objs.size] }).push { cls:=.type "tuple",data:=.seq #[.none,.none] }).objs.size=h.objs.size+4:=by rw[xg,G]
 have L:(zh h f B).get? (h.objs.size+4)=some _:=M▸qk _ rfl;have q4:(zh h f B).get? (h.objs.size+3)=some _:=G▸qr _ (qk _ rfl);have J:(zh h f B).get? (h.objs.size+2)=some _:=D▸qr _ (qr _ (qk _ rfl));have Y:(zh h f B).get? (h.objs.size+1)=some B:=C▸qr _ (qr _ (qr _ (qk _ O)));have U:(zh h f B).get? h.objs.size=some f:=qr _ (qr _ (qr _ (qr _ (qk _ N))));rw[D,G] at L;rw[C] at J;exact⟨⟨L,J,⟨_,_,q4⟩,Q _ U,T _ _ Y⟩,fun c o e=>qr _ (qr _ (qr _ (qr _ (qr _ e)))),by rw[xg,M]⟩
theorem za0{k1 k2:Bool}{a1 a2:Addr}{xs ys:Array Value} :
  PySem.Meets (Builtin.«zip.__new__» ⟨[.type "zip",.ref a1,.ref a2],[]⟩) (fun _ R s=>SeqK k1 s.heap a1 xs/\SeqK k2 s.heap a2 ys /\
   ∀M,Jw k1 k2 M (s.heap.objs.size+4) (s.heap.objs.size+2) (s.heap.objs.size+3) s.heap.objs.size (s.heap.objs.size+1) a1 a2 0->(∀c o,s.heap.get? c=some o->M.get? c=some o)->M.objs.size=s.heap.objs.size+5->R (.ok (.ret (.ref (s.heap.objs.size+4)))) { s with heap:=M }):=
 .of_wp fun l w A R s hq=>by
  obtain⟨hp,g,d,H,os⟩:=s;obtain⟨L,D,T⟩:=hq;have N:=sub_zip;have f:∀{G I:Obj},(∀g:Heap,g.get? hp.objs.size=some G->ItrK k1 g hp.objs.size a1 0)->(∀(g:Heap) (n:Addr),g.get? n=some I->ItrK k2 g n a2 0)->G.isFreed=false->I.isFreed=false ->
    R (.ok (.ret (.ref ((((hp.push G).push I).push { cls:=.type "tuple",data:=.seq #[.ref hp.objs.size,.ref (hp.push G).objs.size] }).push { cls:=.type "tuple",data:=.seq #[.none,.none] }).objs.size))) ⟨zh hp G I,g,d,H,os⟩:=fun {G I} U Y O Q=>by
   obtain⟨A,B,C⟩:=zfU U Y O Q;have e:((((hp.push G).push I).push { cls:=.type "tuple",data:=.seq #[.ref hp.objs.size,.ref (hp.push G).objs.size] }).push { cls:=.type "tuple",data:=.seq #[.none,.none] }).objs.size=hp.objs.size+4:=by
    rw[xg,xg,xg,xg]
   rw[e];exact T _ A B C
  cases k1 with
  | true=>
   have J:Heap.IsList (Shared.heap ⟨hp,g,d,H,os⟩) a1 xs:=L;cases k2 with
   | true=>
    have L2:Heap.IsList (Shared.heap ⟨hp.push { cls:=.type "list_iterator",data:=.fields #[.ref a1,.int 0 0] },g,d,H,os⟩) a2 ys:=Heap.IsList.push D _;wp_walk using wpAny_pyIter_list J,wpAny_pyIter_list L2
    exact⟨_,rfl,f (fun g e=>⟨_,e,rfl,rfl⟩) (fun g n e=>⟨_,e,rfl,rfl⟩) rfl rfl⟩
   | false=>
    have L2:Heap.IsTuple (Shared.heap ⟨hp.push { cls:=.type "list_iterator",data:=.fields #[.ref a1,.int 0 0] },g,d,H,os⟩) a2 ys:=Heap.IsTuple.push D _;wp_walk using wpAny_pyIter_list J,wpAny_pyIter_tuple L2
    exact⟨_,rfl,f (fun g e=>⟨_,e,rfl,rfl⟩) (fun g n e=>⟨_,e,rfl,rfl⟩) rfl rfl⟩
  | false=>
   have J:Heap.IsTuple (Shared.heap ⟨hp,g,d,H,os⟩) a1 xs:=L;cases k2 with
   | true=>
    have L2:Heap.IsList (Shared.heap ⟨hp.push { cls:=.type "tuple_iterator",data:=.fields #[.ref a1,.int 0 0] },g,d,H,os⟩) a2 ys:=Heap.IsList.push D _;wp_walk using wpAny_pyIter_tuple J,wpAny_pyIter_list L2
    exact⟨_,rfl,f (fun g e=>⟨_,e,rfl,rfl⟩) (fun g n e=>⟨_,e,rfl,rfl⟩) rfl rfl⟩
   | false=>
    have L2:Heap.IsTuple (Shared.heap ⟨hp.push { cls:=.type "tuple_iterator",data:=.fields #[.ref a1,.int 0 0] },g,d,H,os⟩) a2 ys:=Heap.IsTuple.push D _;wp_walk using wpAny_pyIter_tuple J,wpAny_pyIter_tuple L2
    exact⟨_,rfl,f (fun g e=>⟨_,e,rfl,rfl⟩) (fun g n e=>⟨_,e,rfl,rfl⟩) rfl rfl⟩
theorem zaQ{f g:Bool}{a1 a2:Addr}{C D:Array Value}{Q:Value->Shared->Prop}(G:SeqK f s.heap a1 C)(H:SeqK g s.heap a2 D)
  (h:∀e,Jw f g e (s.heap.objs.size+4) (s.heap.objs.size+2) (s.heap.objs.size+3) s.heap.objs.size (s.heap.objs.size+1) a1 a2 0->(∀c o,s.heap.get? c=some o->e.get? c=some o)->e.objs.size=s.heap.objs.size+5 ->
   Q (.ref (s.heap.objs.size+4)) { s with heap:=e }):wpAny (model l w) A (call (.type "zip") [.ref a1,.ref a2]) Q E s:=by
 refine callType_new F.called_zip (by decide) (F.typeCall_zip_2 _ _) (F.newCall_zip_2 _ _) (fun B=>F.args_object_init_3 B _ _) F.entry_zip_new (za0 (k1:=f) (k2:=g) (xs:=C) (ys:=D)) ⟨G,H,fun e Z k z=>?_⟩
 exact⟨⟨_,Z.zz,rfl⟩,h e Z k z⟩
end
theorem Inv.seqK{X:Cx}{e:List (Addr×Obj)}{σ:St}{H:Hp}{s:Shared}{f:Bool}{a:Addr}{g:List V}(I:Inv X e σ H s)(h:SqK X.K f H a g):∃c:List Value,Vals g c/\SeqK f s.heap a c.toArray/\g.length<=sizeLine:=by
 cases f with
 | true=>obtain⟨c,r,p,z⟩:=I.list h;exact⟨c,r,p.isList,z⟩
 | false=>obtain⟨c,r,p,z⟩:=I.tuple h;exact⟨c,r,p,z⟩
theorem Inv.seqK_inj{X:Cx}{c:List (Addr×Obj)}{σ:St}{H:Hp}{s:Shared}{e:Bool}{a:Addr}{g l:List V}(I:Inv X c σ H s)(h:SqK X.K e H a g)(f:SqK X.K e H a l):g=l:=by
 cases e with
 | true=>exact I.list_inj h f
 | false=>exact I.tuple_inj h f
theorem SqK.ne_fp{X:Cx}{c:List (Addr×Obj)}{σ:St}{H:Hp}{s:Shared}{w:Bool}{a b:Addr}{g:List V}(I:Inv X c σ H s)(h:SqK X.K w H a g)(f:jX X c H b):a≠b:=fun z=>by
 have A:∀o,X.K.lookup a=some o->False:=fun o e=>by
  have l:=I.mod.kin a o e;rcases f.2.2.2.1 with q | q
  ·exact I.ok.noex a o l (by rw[z];exact q)
  ·have:=zP (I.ok.bs a o l).1
   rw[z] at this;exact wA _ (jD this q)
 cases w with
 | true=>
  rcases(show SqL X.K H a g from h) with(q | ⟨o,q⟩) | ⟨o,_,_,q,_⟩
  ·rw[z,f.1] at q;cases q
  ·rw[z,f.1] at q;cases q
  ·exact A o q
 | false=>
  rcases(show SqT X.K H a g from h) with(q | ⟨o,q⟩) | ⟨o,_,_,q,_⟩
  ·rw[z,f.1] at q;cases q
  ·rw[z,f.1] at q;cases q
  ·exact A o q
def Itz(K:W.Frag)(f g:Bool)(a1 a2:Addr):It:=
 ⟨fun i H=>∃c e x y,SqK K f H a1 c/\SqK K g H a2 e/\c[i]? =some x/\e[i]? =some y,
  fun i H x l=>∃T u v,x=.ref T/\H T=none/\l=upd H T (.tup [u,v])/\(∀c,SqK K f H a1 c->c[i]? =some u)/\∀e,SqK K g H a2 e->e[i]? =some v,
  fun i H=>∃c e,SqK K f H a1 c/\SqK K g H a2 e/\(c.length<=i\/e.length<=i)⟩
theorem za7{P:Program}{w:World}{K:W.Frag}{L:List Expr}{kk:Nat}{ag:Pos}{k1 k2:Bool}{a1 a2 z TI TO B C:Addr}(N:YW z TI TO B C) :
  yw P w K (.Tuple L kk ag) (Itz K k1 k2 a1 a2) [z,TI,TO,B,C] z (fun i h=>Jw k1 k2 h z TI TO B C a1 a2 i) where
 mem:=by simp
 obj:=fun i h Z b hb=>by
  obtain⟨a,T,q⟩:=Z.to;have e1:=Z.r1.obj;have e2:=Z.r2.obj;simp only[qm,yU,or_false] at hb;rcases hb with r | r | r | r | r
  ·subst r;exact⟨_,Z.zz,fun v q=>nomatch q⟩
  ·subst r;exact⟨_,Z.ti,fun v q=>nomatch q⟩
  ·subst r;exact⟨_,q,fun v q=>nomatch q⟩
  ·subst r;obtain⟨o,e,_,d⟩:=e1;exact⟨o,e,d⟩
  ·subst r;obtain⟨o,e,_,d⟩:=e2;exact⟨o,e,d⟩
 keep:=fun i h J Z k=>by
  obtain⟨a,T,q⟩:=Z.to;exact⟨k _ (by simp) _ Z.zz,k _ (by simp) _ Z.ti,⟨a,T,k _ (by simp) _ q⟩,Z.r1.at fun o e=>k _ (by simp) o e,Z.r2.at fun o e=>k _ (by simp) o e⟩
 item:=by
  intro X Y hw U hc i Q s σ H E I A Z hg;subst Y hw U;obtain⟨xs,ys,x,y,f,g,hx,hy⟩:=hg;obtain⟨M,D,p1,ae⟩:=I.seqK f;obtain⟨O,G,p2,af⟩:=I.seqK g;obtain⟨u1,ab,ah⟩:=D.get hx;obtain⟨u2,ac,ai⟩:=G.get hy;have sub:∀b∈[z,TO,B,C],b∈[z,TI,TO,B,C]:=fun b hb=>by
   simp only[qm,yU,or_false] at hb ⊢;rcases hb with r | r | r | r<;>simp[r]
  refine YX N Z p1 p2 (fun b hb=>f.ne_fp I (A b (sub b hb))) (fun b hb=>g.ne_fp I (A b (sub b hb))) (by simpa using ab) (by simpa using ac) fun h1 zz ti to r1 r2 hT ak hk=>?_
  refine⟨_,rfl,wpAny_letOwnedTupleGo_zip zz fun h2 aj l=>?_⟩
  have zl:z<s.heap.objs.size:=zP Z.zz;obtain⟨ta,tb,to⟩:=to;refine⟨.ref s.heap.objs.size,upd H s.heap.objs.size (.tup [x,y]),?_,rfl,⟨_,x,y,rfl,I.hok.fresh (zM _),rfl,fun am J=>by rw[I.seqK_inj J f];exact hx,fun an J=>by rw[I.seqK_inj J g];exact hy⟩,
   ⟨aj,l.extBut _ _ N.a ti,⟨ta,tb,l.extBut _ _ N.b to⟩,r1.at fun o e=>l.extBut _ o N.c e,r2.at fun o e=>l.extBut _ o N.d e⟩,fun b hb=>?_⟩
  ·exact JO (s:=s) (h':=h2) (t':=s.toks) (ch:=[z,TO,B,C]) (its:=[u1,u2]) I (fun b hb=>A b (sub b hb)) (zM _) (fun b o hb e=>l.extBut _ o (fun q=>hb (by simp[q])) (hk b o hb e)) (by rw[sizeLine_eq];exact(by decide:2<=16777216)) (.cons ah (.cons ai .nil))
    (TupX.by (l.extBut _ _ (vY zl) hT))
  ·have a0:b<s.heap.objs.size:=by
    have e1:=Z.r1.obj;have e2:=Z.r2.obj;obtain⟨a,T,q⟩:=Z.to;simp only[qm,yU,or_false] at hb;rcases hb with r | r | r | r | r
    ·subst r;exact zl
    ·subst r;exact zP Z.ti
    ·subst r;exact zP q
    ·subst r;obtain⟨o,e,_⟩:=e1;exact zP e
    ·subst r;obtain⟨o,e,_⟩:=e2;exact zP e
   rw[zm (qw a0)];exact(A b hb).1
 done:=by
  intro X Y hw U hc i Q s σ H E I A Z hg;subst Y hw U;obtain⟨xs,ys,f,g,aa⟩:=hg;obtain⟨M,D,p1,ae⟩:=I.seqK f;obtain⟨O,G,p2,af⟩:=I.seqK g;have sub:∀b∈[z,TO,B,C],b∈[z,TI,TO,B,C]:=fun b hb=>by
   simp only[qm,yU,or_false] at hb ⊢;rcases hb with r | r | r | r<;>simp[r]
  have tr:∀b u,H b=some u->b∉[z,TO,B,C]:=fun b u e hb=>by rw[(A b (sub b hb)).1] at e;cases e
  refine za1 (I.ok.hd hc) N Z p1 p2 (fun b hb=>f.ne_fp I (A b (sub b hb))) (fun b hb=>g.ne_fp I (A b (sub b hb))) ?_ fun J hk=>⟨rfl,?_⟩
  ·have l1:=D.length
   have l2:=G.length;rcases aa with q | q
   ·exact .inl (by simp;omega)
   ·exact .inr (by simp;omega)
  ·refine I.step (g':=s.gens) (d':=s.drawn) (t':=s.toks) (ch:=[z,TO,B,C]) (fun b hb=>?_) (fun b o _ _ hc e _=>hk b o hc e) (fun b o _ _ hc e _=>⟨o.slots,hk b o hc e⟩) (fun _ _ _ _ n=>n) (fun b o hc e=>⟨o,hk b o hc e⟩)
    (fun _ _ e=>e) (fun _ _ _ e=>e) (fun b ps e=>⟨#[],by rw[e];simp⟩) (fun m hm=>?_) (fun b u e=>?_) I.bare
   ·obtain⟨_,g1,_,g3,g4,g5⟩:=A b (sub b hb)
    exact⟨g3,g1,g4,g5⟩
   ·obtain⟨o,es,ep,ho,r⟩:=hm
    exact⟨o,es,ep,hk _ o (fun z=>(A _ (sub _ z)).2.1 rfl) ho,r⟩
   ·refine(I.hok b u e).stay (fun c v hc q=>hk c v ?_ q) (fun _ q=>q) fun _ _ q=>q
    rcases hc with z | z
    ·rw[z];exact tr b u e
    ·exact tr c _ z
 self:=fun _ _ _ _ _ Z h=>wpAny_pyIter_zip Z.zz h
section
variable{X:Cx}
def zhG(K:W.Frag)(g:TA):TI:=fun σ H R=>g σ H fun l c=>∃e f a1 a2,l=[.ref a1,.ref a2]/\(∃s,SqK K e c a1 s)/\(∃w,SqK K f c a2 w)/\R (Itz K e f a1 a2) c
theorem zff{l m:Expr}{M:TA}{p B tp:Pos}{g:List Expr}{kk:Nat}(U:Gl X "zip")(Y:X.mg "zip" = none)(T:PA X [l,m] M)(hs:starEach [l,m] X.env=[(false,eval l X.env),(false,eval m X.env)]:=by rfl)(A:starEach [m] X.env=[(false,eval m X.env)]:=by rfl) :
  PI X (.Tuple g kk tp) (.Call (.Name "zip" p) [l,m] [] B) (zhG X.K M):=by
 intro c s σ H R I h;refine Call_ (vv I U Y boot_zip (Qe (thn (T B c s σ H _ I h) fun us s1 ⟨vs,G,f,r1,q1⟩=>?_) (by rw[hs,A]) (by rw[A];rfl)))
 obtain⟨k1,k2,a1,a2,e,⟨xs,C⟩,⟨ys,D⟩,q⟩:=q1;subst e;obtain⟨u,u',rfl,ru,E⟩:=Xv r1;cases ru;cases E;obtain⟨J,ac,p1,aa⟩:=f.seqK C;obtain⟨L,ae,p2,ab⟩:=f.seqK D;refine zaQ p1 p2 fun Q Z hk a0=>wpAny_pyIter_zip Z.zz ?_
 have O:Inv X c σ G { s1 with heap:=Q }:=f.kept (t':=s1.toks) hk;have N:YW (s1.heap.objs.size+4) (s1.heap.objs.size+2) (s1.heap.objs.size+3) s1.heap.objs.size (s1.heap.objs.size+1):=by
  constructor<;>(intro e;have e':(_:Nat)=_:=e;omega)
 refine⟨s1.heap.objs.size+4,_,_,_,G,rfl,O,za7 N,Z,fun b hb=>?_,q⟩
 have w:s1.heap.objs.size<=b:=by
  simp only[qm,yU,or_false] at hb;rcases hb with r | r | r | r | r<;>(rw[r];first| exact Nat.le_add_right _ _ | exact zM _)
 exact f.fpOk w (f.hok.fresh w)
end
def TyN(K:W.Frag)(H:Hp)(x:V)(T:String):Prop:=match x with
 | .non=>T = "NoneType"
 | .bl _=>T = "bool"
 | .int _=>T = "int"
 | .str _=>T = "str"
 | .ref a=>(T = "list" /\ ∃c,SqL K H a c)\/(T = "tuple" /\ ∃c,SqT K H a c)
 | _=>False
def zf6(T C:String):Bool:=T==C||(T == "bool" && C == "int")
def JC:List String:=["NoneType","bool","int","str","list","tuple"]
def J4:List String:=["bool","int","str","list","tuple","dict"]
theorem zdV{K:W.Frag}:∀T∈JC,∀C∈J4,PySem.W.kitOne K (.type T) (.type C)=some (zf6 T C):=by
 intro T e C c;simp only[JC,J4,qm,yU,or_false] at e c;rcases e with rfl | rfl | rfl | rfl | rfl | rfl<;>rcases c with rfl | rfl | rfl | rfl | rfl | rfl<;>kernel_rfl
theorem TyN.mem{K:W.Frag}{H:Hp}{x:V}{T:String}(h:TyN K H x T):T∈JC:=by
 cases x with
 | non=>cases(show T=_ from h);decide
 | bl _=>cases(show T=_ from h);decide
 | int _=>cases(show T=_ from h);decide
 | str _=>cases(show T=_ from h);decide
 | ref a=>rcases(show _\/_ from h) with ⟨e,_⟩ | ⟨e,_⟩<;>(subst e;decide)
 | _=>exact(show False from h).elim
section
variable{X:Cx}{c:List (Addr×Obj)}{σ:St}{H:Hp}{s:Shared}
theorem zdU{x:V}{u:Value}{T:String}(I:Inv X c σ H s)(f:RelV x u)(ty:TyN X.K H x T):∃P:Heap->Prop,P s.heap/\PySem.W.KitX X.K u (.type T) P/\u≠.builtin "__main__.__loader__#opaque" :=by
 cases x with
 | non=>cases(show u=Value.none from f);cases(show T=_ from ty);exact⟨_,True.intro,PySem.W.kitx_none,fun z=>nomatch z⟩
 | bl y=>cases(show u=Value.bool y from f);cases(show T=_ from ty);exact⟨_,True.intro,PySem.W.kitx_bool,fun z=>nomatch z⟩
 | int i=>obtain⟨t,q⟩:=(show ∃t,u=Value.int i t from f);cases q;cases(show T=_ from ty);exact⟨_,True.intro,PySem.W.kitx_int,fun z=>nomatch z⟩
 | str y=>obtain⟨t,q⟩:=(show ∃t,u=Value.str y t from f);cases q;cases(show T=_ from ty);exact⟨_,True.intro,PySem.W.kitx_str,fun z=>nomatch z⟩
 | ref a=>
  cases(show u=Value.ref a from f)
  rcases(show _\/_ from ty) with ⟨e,l,hx⟩ | ⟨e,l,hx⟩
  ·subst e
   obtain⟨g,r,⟨o,n,e1,e2,_⟩,_⟩:=I.list hx;exact⟨_,⟨o,e1,e2⟩,PySem.W.kitx_list,fun z=>nomatch z⟩
  ·subst e
   obtain⟨g,r,⟨o,e1,e2,_⟩,_⟩:=I.tuple hx;exact⟨_,⟨o,e1,e2⟩,PySem.W.kitx_tuple,fun z=>nomatch z⟩
 | _=>exact(show False from ty).elim
end
section
variable{X:Cx}
inductive Qv(K:W.Frag)(c:List V)(H:Hp)(Q:VK):Prop
 | mk (x T C:_) (_:c=[x,.ty C]) (_:TyN K H x T) (_:C∈J4) (_:Q (.bl (zf6 T C)) H):Qv K c H Q
theorem vV:CallR X (.builtin "isinstance") (Qv X.K):=by
 intro e s σ H E D Q I r h;obtain⟨x,T,C,rfl,ty,f,q⟩:=h;obtain⟨u,B,rfl,w,c⟩:=Xv r;cases(show B=Value.type C from c)
 obtain⟨P,g,Z,l⟩:=zdU I w ty;exact PySem.W.kia_one Z I.kIn g (zdV T ty.mem C f) l fun A=>⟨.bl _,H,I.tok A,rfl,q⟩
end
inductive Dat where
 | non | bl (b:Bool) | int (i:Int) | str (x:Str) | lst (c:List Dat) | tup (c:List Dat)
mutual
def Rep(K:W.Frag)(H:Hp):Dat->V->Prop
 | .non,v=>v=.non
 | .bl b,v=>v=.bl b
 | .int i,v=>v=.int i
 | .str x,v=>v=.str x
 | .lst e,v=>∃a c,v=.ref a/\SqL K H a c/\Reps K H e c
 | .tup e,v=>∃a c,v=.ref a/\SqT K H a c/\Reps K H e c
def Reps(K:W.Frag)(H:Hp):List Dat->List V->Prop
 | [],c=>c=[]
 | d::e,c=>∃x r,c=x::r/\Rep K H d x/\Reps K H e r
end
mutual
def Dat.dp:Dat->Nat
 | .lst c=>Dat.dps c+1
 | .tup c=>Dat.dps c+1
 | _=>0
def Dat.dps:List Dat->Nat
 | []=>0
 | d::c=>max d.dp (Dat.dps c)
end
theorem Same.sqT{K:W.Frag}{H c:Hp}{a:Addr}{f:List V}(e:Same H c)(h:SqT K H a f):SqT K c a f:=by
 rcases h with(h | ⟨o,h⟩) | h
 ·exact .inl (.inl (e _ _ h))
 ·exact .inl (.inr ⟨o,e _ _ h⟩)
 ·exact .inr h
mutual
theorem Rep.same{K:W.Frag}{H g:Hp}(e:Same H g):∀{d:Dat} {v:V},Rep K H d v->Rep K g d v
 | .non,_,h=>h
 | .bl _,_,h=>h
 | .int _,_,h=>h
 | .str _,_,h=>h
 | .lst _,_,h=>by
  obtain⟨a,f,e1,e2,c⟩:=h;exact⟨a,f,e1,e.seq e2,Reps.same e c⟩
 | .tup _,_,h=>by
  obtain⟨a,f,e1,e2,c⟩:=h;exact⟨a,f,e1,e.sqT e2,Reps.same e c⟩
theorem Reps.same{K:W.Frag}{H c:Hp}(e:Same H c):∀{f:List Dat} {g:List V},Reps K H f g->Reps K c f g
 | [],_,h=>h
 | _::_,_,h=>by
  obtain⟨x,r,e1,e2,l⟩:=h;exact⟨x,r,e1,Rep.same e e2,Reps.same e l⟩
end
theorem Reps.len{K:W.Frag}{H:Hp}:∀{c:List Dat} {xs:List V},Reps K H c xs->xs.length=c.length
 | [],_,h=>by rw[show _=_ from h];rfl
 | _::_,_,h=>by
  obtain⟨x,r,e1,e2,e⟩:=h;rw[e1,xh,xh,Reps.len e]
theorem Reps.get{K:W.Frag}{H:Hp}:∀{c:List Dat} {f:List V} {i:Nat} {x:V},Reps K H c f->f[i]? =some x->∃d,c[i]? =some d/\Rep K H d x
 | [],_,_,_,h,e=>by rw[show _=_ from h] at e;simp at e
 | d::c,_,i,x,h,e=>by
  obtain⟨y,r,e1,e2,l⟩:=h;subst e1;cases i with
  | zero=>simp at e;subst e;exact⟨d,rfl,e2⟩
  | succ i=>
   obtain⟨g,s,w⟩:=Reps.get (i:=i) l (by simpa using e)
   exact⟨g,by simpa using s,w⟩
theorem zb{H:Hp}{a:Addr}{o:HO}(h:H a=none):Same H (upd H a o):=fun b u e=>by rw[zm (zk e h)];exact e
section
variable{X:Cx}
end
structure Dfn(P:Program)(w:World)(K:W.Frag)(mg:Str->Option Value)(base:Heap)(x:Str)(k:Nat)(ps:List Str)(sp:Sp):Prop where
 ex:∃f fd,FnOk P w K mg base CX0 k f fd ps sp/\mg x=some (.ref f)/\PySem.W.keepIn K (.ref f)=true/\Binds K fd ps []
theorem Dfn.imp{P:Program}{w:World}{K:W.Frag}{g:Str->Option Value}{c:Heap}{x:Str}{k:Nat}{l:List Str}{s e:Sp}(D:Dfn P w K g c x k l s)(h:∀A H Q E,e A H Q E->s A H Q E):Dfn P w K g c x k l e:=by
 obtain⟨f,B,F,r⟩:=D.ex;exact⟨f,B,F.imp h,r⟩
section
variable{X:Cx}{x:Str}{k:Nat}{s:List Str}{l:Sp}{p g:Pos}{e:Expr}{c:List Expr}{t:TA}
theorem zg(D:Dfn X.prog X.w X.K X.mg X.base x k s l)(G:Room k X.A)(C:Gl X x)(A:PA X (e::c) t)(B:(x==("__debug__":Str))=false:=by decide)
  (H:starEach (e::c) X.env=(false,eval e X.env)::starEach c X.env:=by rfl) (w:(backTo g (starEach c X.env)).any (·.1)=false:=by rfl):PE X (.Call (.Name x p) (e::c) [] g) (zeg l [] E0 t):=by
 obtain⟨f,I,F,E,hk,hb⟩:=D.ex;exact zdu F G C E hk hb .nil zgE A B H w
end
theorem ifT{b:Bool}{A B:Prop}(h:b=true)(q:A):if b=true then A else B:=by rw[zC h];exact q
theorem ifF{b:Bool}{A B:Prop}(h:b=false)(q:B):if b=true then A else B:=by rw[zv (by rw[h];exact qO)];exact q
theorem zfB{K:W.Frag}{k1 k2:Bool}{a1 a2:Addr}{xs ys:List V}{g:TG}{M:TT}{L:TE}{w:St}{n:Nat}{R:List V->Hp->Prop}{H:Hp}(Pv:Nat->List V->Hp->Prop)(O:Pv 0 [] H)
  (Q:∀i c H,Pv i c H->SqK K k1 H a1 xs/\SqK K k2 H a2 ys)
  (hs:∀i x y c H T,xs[i]? =some x->ys[i]? =some y->Pv i c H->H T=none->g (.ref T) w (upd H T (.tup [x,y])) fun l C=>l.drop n=w.drop n/\M l C fun b s=>
   if b=true then L l s fun v D=>c.length<sizeLine/\Pv (i+1) (c++[v]) D else Pv (i+1) c s)
  (Y:∀c H,Pv (min xs.length ys.length) c H->c.length<=sizeLine/\R c H) :
  ∃W:Nat->Nat->List V->Hp->Prop,(∃m,W 0 m [] H)/\∀i m c f,W i m c f ->
   ((Itz K k1 k2 a1 a2).stop i f/\c.length<=sizeLine/\R c f) \/
   ((Itz K k1 k2 a1 a2).go i f/\∃N:List V->Hp->Prop,(∀c A,N c A->∃J,J<m/\W (i+1) J c A)/\∀x B,(Itz K k1 k2 a1 a2).yld i f x B->g x w B fun l C=>l.drop n=w.drop n/\M l C fun b s=>
    if b=true then L l s fun y D=>c.length<sizeLine/\N (c++[y]) D else N c s):=by
 refine⟨fun i m c f=>m=min xs.length ys.length-i/\i<=min xs.length ys.length/\Pv i c f,⟨_,rfl,qQ _,O⟩,?_⟩
 rintro i m c f ⟨rfl,hi,p⟩;obtain⟨G,I⟩:=Q i c f p;by_cases E:i<min xs.length ys.length
 ·have l1:i<xs.length:=by omega
  have l2:i<ys.length:=by omega
  refine .inr ⟨⟨xs,ys,xs[i],ys[i],G,I,by simp[l1],by simp[l2]⟩,Pv (i+1),fun a0 A p'=>⟨_,by omega,rfl,E,p'⟩,fun x B y=>?_⟩
  obtain⟨T,u,v,e1,U,e2,y1,y2⟩:=y;subst e1 e2;exact hs i u v c f T (y1 xs G) (y2 ys I) p U
 ·have e:i=min xs.length ys.length:=by omega
  subst e;obtain⟨z1,z2⟩:=Y c f p;exact .inl ⟨⟨xs,ys,G,I,by omega⟩,z1,z2⟩
theorem Vb{lo:Int}{N n:Nat}{g:TG}{J:TT}{I:TE}{A:St}{R:List V->Hp->Prop}{H:Hp}(Pv:Nat->List V->Hp->Prop)(L:Pv 0 [] H)
  (Q:∀i c H,i<N->Pv i c H->g (.int (lo+i)) A H fun s D=>s.drop n=A.drop n/\J s D fun b w=>if b=true then I s w fun v E=>c.length<sizeLine/\Pv (i+1) (c++[v]) E else Pv (i+1) c w)
  (O:∀c H,Pv N c H->c.length<=sizeLine/\R c H) :
  ∃W:Nat->Nat->List V->Hp->Prop,(∃m,W 0 m [] H)/\∀i m c f,W i m c f ->
   ((Itr lo N).stop i f/\c.length<=sizeLine/\R c f) \/
   ((Itr lo N).go i f/\∃M:List V->Hp->Prop,(∀c B,M c B->∃G,G<m/\W (i+1) G c B)/\∀x C,(Itr lo N).yld i f x C->g x A C fun s D=>s.drop n=A.drop n/\J s D fun b w=>
    if b=true then I s w fun y E=>c.length<sizeLine/\M (c++[y]) E else M c w):=by
 refine⟨fun i m c f=>m=N-i/\i<=N/\Pv i c f,⟨_,rfl,qQ _,L⟩,?_⟩
 rintro i m c f ⟨rfl,hi,p⟩;by_cases l:i<N
 ·refine .inr ⟨l,Pv (i+1),fun a0 B T=>⟨_,by omega,rfl,l,T⟩,fun x C y=>?_⟩
  obtain⟨e1,e2⟩:=y;subst e1 e2;exact Q i c _ l p
 ·have e:i=N:=by omega
  subst e;obtain⟨U,Y⟩:=O c f p;exact .inl ⟨zM _,U,Y⟩
def x5(sn on:List (Str×NameKind))(N own c:List Str)(e:List Nat):Bool:=
 yk sn on N c e&&own.all (fun x=>sn.lookup x==some .local)&&decide (own++c).Nodup
theorem jV{sn on:List (Str×NameKind)}{N own c:List Str}{e:List Nat}(h:x5 sn on N own c e=true):yk sn on N c e=true/\(∀x∈own,sn.lookup x=some .local)/\(own++c).Nodup:=by
 unfold x5 at h;rw[jW,jW,xO] at h;exact⟨h.1.1,fun x hx=>by simpa using h.1.2 x hx,xF h.2⟩
section
variable{X:Cx}{f e:Expr}{g:List Expr}{c:Scope}{l w G I:Pos}{D:TI}{B:TT}{A:TE}{x y:Str}{E:Nat}
theorem jf{J:List Str}{C:Addr}{s:Shared}{H:Hp}{L:List Addr}{i:Nat}(M:c.names.lookup x=some .local)(O:J.Nodup)(N:J[i]? =some x):PG (zH X J c C s H L) (.Name x w) (jG i):=
 zy (X:=zH X J c C s H L) O N (.inl (lookup_relabel_local M)) (.inr (lookup_relabel_local M))
theorem jS(L:List Str)(M:List Nat)(hc:X.calm=true)(hk:c.kind=.function)(hb:x5 c.names X.env.scope.names X.N [x] L M=true)(Y:PI X (.Name x w) e D)
  (U:∀C s H J,PF (zH X ([x]++L) c C s H J) g B) (T:∀C s H J,PE (zH X ([x]++L) c C s H J) f A)
  (hs:∀x,foldedSetIterable e X.env x=pure x:=by intro _;rfl):PE X (.ListComp f [⟨.Name x w,e,g,0⟩] c l) (tLC D 1 M (jG 0) B A):=by
 obtain⟨N,O,Q⟩:=jV hb;exact zb5 [x] L M hc hk N Y (fun C s H J=>jf (O x (by simp)) Q rfl) U T hs
theorem vM(L:List Str)(M:List Nat)(hc:X.calm=true)(hk:c.kind=.function)(hb:x5 c.names X.env.scope.names X.N [x,y] L M=true)(Y:PI X (.Tuple [.Name x w,.Name y G] E I) e D)
  (U:∀C s H J,PF (zH X ([x,y]++L) c C s H J) g B) (T:∀C s H J,PE (zH X ([x,y]++L) c C s H J) f A)
  (hs:∀x,foldedSetIterable e X.env x=pure x:=by intro _;rfl):PE X (.ListComp f [⟨.Tuple [.Name x w,.Name y G] E I,e,g,0⟩] c l) (tLC D 2 M (QF X.K 2 (j8 (jG 0) (j8 (jG 1) JR))) B A):=by
 obtain⟨Q,N,O⟩:=jV hb;refine zb5 [x,y] L M hc hk Q Y (fun C s H J=>?_) U T hs
 exact qF (X:=zH X ([x,y]++L) c C s H J) hc (zr (jf (N x (by simp)) O rfl) (zr (jf (N y (by simp)) O rfl) qe))
end
def tWk(t:TS):TS:=fun D σ H=>∃J:St->Hp->Prop,t { D with nx:=J } σ H/\∀e c,J e c->D.nx e c
theorem wY{X:Cx}{st:Stmt}{t:TS}(h:PS X st t):PS X st (tWk t):=by
 intro c s σ H D I w;obtain⟨J,A,B⟩:=w;refine thn (h c s σ H _ I A) fun f s1 q=>?_
 cases f with
 | next=>obtain⟨g,e,l,z⟩:=q;exact⟨g,e,l,B g e z⟩
 | brk=>exact q
 | cont=>exact q
 | ret u=>exact q
def Dat.ok:Nat->Dat->Prop
 | n+1,.lst c=>c.length<=1000000/\∀d∈c,Dat.ok n d
 | n+1,.tup c=>c.length<=1000000/\∀d∈c,Dat.ok n d
 | 0,.lst _=>False
 | 0,.tup _=>False
 | _,_=>True
def Dat.tyN:Dat->String
 | .non=> "NoneType" | .bl _=> "bool" | .int _=> "int" | .str _=> "str" | .lst _=> "list" | .tup _=> "tuple"
theorem Rep.ty{K:W.Frag}{H:Hp}{d:Dat}{v:V}(h:Rep K H d v):TyN K H v d.tyN:=by
 cases d with
 | non=>rw[show v=_ from h];exact rfl
 | bl b=>rw[show v=_ from h];exact rfl
 | int b=>rw[show v=_ from h];exact rfl
 | str b=>rw[show v=_ from h];exact rfl
 | lst f=>obtain⟨a,c,rfl,e,_⟩:=h;exact .inl ⟨rfl,c,e⟩
 | tup f=>obtain⟨a,c,rfl,e,_⟩:=h;exact .inr ⟨rfl,c,e⟩
mutual
def Dat.py:Dat->PyData
 | .non=>.none
 | .bl b=>.bool b
 | .int i=>.int i
 | .str x=>.str x
 | .lst c=>.list (Dat.pys c)
 | .tup c=>.tuple (Dat.pys c)
def Dat.pys:List Dat->List PyData
 | []=>[]
 | d::c=>d.py::Dat.pys c
end
section
variable{X:Cx}
inductive Zk(K:W.Frag)(e:List V)(H:Hp)(Q:VK):Prop
 | mk (p:Addr) (c:List Int) (_:e=[.ref p]) (_:SqL K H p (c.map V.int)) (_:(∀z∈c,0<=z/\z<=1000000)) (_:c.length<=100000) (_:Q (.int c.sum) H):Zk K e H Q
theorem Jp(hc:X.calm=true):CallR X (.builtin "sum") (Zk X.K):=by
 intro T s σ H xs us Q I r h;obtain⟨p,c,rfl,hq,O,hn,q⟩:=h;obtain⟨u,rfl,ru⟩:=vJ r;cases(show u=_ from ru)
 obtain⟨f,Y,pl,_⟩:=I.list hq;have C:=pl.isList;have D:p≠s.heap.objs.size:=by
  obtain⟨o,e,_⟩:=C;exact qw (zP e)
 have B:f.length=c.length:=by have:=Y.length;rw[zp] at this;omega
 have E:∀j,j<=c.length->0<=(c.take j).sum/\(c.take j).sum<=1000000*(j:Int):=by
  intro j;induction j with
  | zero=>intro _;simp
  | succ j ih=>
   intro N;have:=ih (by omega)
   have e:c.take (j+1)=c.take j++[c[j]'(by omega)]:=by rw[yt]
   have b:=O (c[j]'(by omega)) (vZ _)
   rw[e,List.sum_append];simp only[List.sum_cons,List.sum_nil];constructor
   ·omega
   ·have:(1000000:Int)*((j+1:Nat):Int)=1000000*(j:Int)+1000000:=by omega
    omega
 refine call_sum_walk (wpAny_pyIter_list C ?_)
 refine⟨s.heap.objs.size,_,_,_,_,_,fun i=>c.getD i 0,rfl,Walks.list (prog:=X.prog) (w:=X.w) (A:=X.A.in1) (I.ok.hd hc) _ p D f.toArray,⟨⟨_,qk _ rfl,rfl,rfl⟩,C.push _⟩,fun b hb=>?_,fun i v hP=>?_,fun j N=>?_,fun h' tk t' hk=>?_⟩
 ·have G:(s.heap.push { cls:=.type "list_iterator",data:=.fields #[.ref p,.int 0 0] }).objs.size=s.heap.objs.size+1:=xg ..
  show b<(s.heap.push _).objs.size;rw[G];rcases qm.mp hb with z | z
  ·rw[z];exact Qb _
  ·rw[zY.mp z]
   obtain⟨o,e,_⟩:=C;exact Wc (zP e)
 ·have e1:f[i]? =some v:=by simpa using hP
  have M:i<c.length:=by have h1:=(zK.mp e1).1;omega
  obtain⟨u',L,J⟩:=Y.get (i:=i) (x:=.int c[i]) (by simp[M])
  rw[e1] at L;cases L
  obtain⟨t,e⟩:=J;exact⟨t,by rw[e];simp[M]⟩
 ·have l:j<c.length:=by simp only[zX] at N;omega
  have a1:=O c[j] (vZ l);have a2:=E (j+1) (by omega)
  have g:(2:Int)^63=9223372036854775808:=by decide
  refine⟨?_,?_⟩
  ·show InLong (c.getD j 0)
   rw[show c.getD j 0=c[j] by simp[l]]
   unfold InLong;rw[g];omega
  ·rw[preSum_getD]
   unfold InLong;rw[g];have:((j+1:Nat):Int)<=100000:=by omega
   omega
 ·have k:∀b o,s.heap.get? b=some o->h'.get? b=some o:=fun b o e=>hk b o (by simp;exact qw (zP e)) (qr _ e)
  refine⟨.int c.sum,H,I.kept k,⟨t',?_⟩,q⟩
  rw[preSum_getD];have:c.take f.toArray.size=c:=by rw[zX,B,qA]
  rw[this]
end
section
variable{X:Cx}{c:Expr}
end
section
variable{X:Cx}
inductive Yl(x:V)(A:List V)(H:Hp)(Q:VK):Prop
 | mk (l:Addr) (s:List V) (i:Int) (y:V) (_:x=.ref l) (_:A=[.int i,y]) (_:H l=some (.lst s)) (_:0<=i) (_:i<2^62) (_:s.length<sizeLine) (_:Q .non (upd H l (.lst (s.take i.toNat++y::s.drop i.toNat)))):Yl  x A H Q
theorem zaB:MtM X "list.insert" Yl:=by
 intro L s σ H x vs v us Q I T O h;obtain⟨l,xs,i,y,rfl,rfl,E,i0,i1,Y,q⟩:=h;cases T;obtain⟨u1,D,rfl,M,N⟩:=Xv O;obtain⟨t,rfl⟩:=M;obtain⟨z,A,n,r,U,e⟩:=I.lstM E;have G:=r.length;refine call_meets F.slot_list_insert ⟨_,e,rfl⟩ F.entry_list_insert (F.args_list_insert_3 _ _ _) (AutoListH.list_insert_list_int_val_1 l A.toArray n i t D ?_ (by rw[zX];omega)) ⟨e,?_⟩
 ·unfold Builtin.List.listFitsIndex
  simp;omega
 refine⟨.non,_,I.lset (its':=A.take i.toNat++D::A.drop i.toNat) E e ?_ ((r.take _).append (.cons N (r.drop _))) ?_,rfl,q⟩
 ·show(have k:=if i<0 then(i+((A.toArray.size:Nat):Int)).toNat else min i.toNat A.toArray.size;(A.toArray.extract 0 k).push D++A.toArray.extract k)=_
  have hk:(if i<0 then(i+((A.toArray.size:Nat):Int)).toNat else min i.toNat A.toArray.size)=min i.toNat A.length:=by
   rw[zv (by omega),zX]
  simp only[hk];apply Array.toList_inj.mp
  simp;by_cases C:i.toNat<=A.length
  ·have B:(A.drop i.toNat).take (A.length-i.toNat)=A.drop i.toNat:=Qq (by rw[vF];omega)
   rw[Nat.min_eq_left C,B]
  ·have B:A.length<=i.toNat:=by omega
   rw[Nat.min_eq_right B,Qq B,List.drop_of_length_le B];simp
 ·simp only[zZ,qi,xh,vF]
  omega
variable{e st:Expr}{g:TE}{w:TO}{c f:Pos}
end
theorem vw{K:W.Frag}{a:Addr}{xs:List V}{g:TG}{J:TT}{I:TE}{A:St}{n:Nat}{R:List V->Hp->Prop}{H:Hp}(Pv:Nat->List V->Hp->Prop)(L:Pv 0 [] H)
  (M:∀i c H,Pv i c H->SqL K H a xs)
  (Q:∀i x c H,xs[i]? =some x->Pv i c H->g x A H fun l D=>l.drop n=A.drop n/\J l D fun b s=>
   if b=true then I l s fun v E=>c.length<sizeLine/\Pv (i+1) (c++[v]) E else Pv (i+1) c s)
  (O:∀c H,Pv xs.length c H->c.length<=sizeLine/\R c H) :
  ∃W:Nat->Nat->List V->Hp->Prop,(∃m,W 0 m [] H)/\∀i m c f,W i m c f ->
   ((Itl K a).stop i f/\c.length<=sizeLine/\R c f) \/
   ((Itl K a).go i f/\∃N:List V->Hp->Prop,(∀c B,N c B->∃G,G<m/\W (i+1) G c B)/\∀x C,(Itl K a).yld i f x C->g x A C fun l D=>l.drop n=A.drop n/\J l D fun b s=>
    if b=true then I l s fun y E=>c.length<sizeLine/\N (c++[y]) E else N c s):=by
 refine⟨fun i m c f=>m=xs.length-i/\i<=xs.length/\Pv i c f,⟨_,rfl,qQ _,L⟩,?_⟩
 rintro i m c f ⟨rfl,hi,p⟩;have q:=M i c f p;by_cases w:i<xs.length
 ·refine .inr ⟨⟨xs,xs[i],q,by simp[w]⟩,Pv (i+1),fun a0 B T=>⟨_,by omega,rfl,w,T⟩,fun x C y=>?_⟩
  obtain⟨e,y⟩:=y;subst e;exact Q i x c _ (y xs q) p
 ·have e:i=xs.length:=by omega
  subst e;obtain⟨U,Y⟩:=O c f p;exact .inl ⟨⟨xs,q,zM _⟩,U,Y⟩
theorem jJ{K:W.Frag}{a:Addr}{xs:List V}{g:TG}{J:TT}{I:TE}{A:St}{n:Nat}{R:List V->Hp->Prop}{H:Hp}(Pv:Nat->List V->Hp->Prop)(L:Pv 0 [] H)
  (M:∀i c H,Pv i c H->SqT K H a xs)
  (Q:∀i x c H,xs[i]? =some x->Pv i c H->g x A H fun l D=>l.drop n=A.drop n/\J l D fun b s=>
   if b=true then I l s fun v E=>c.length<sizeLine/\Pv (i+1) (c++[v]) E else Pv (i+1) c s)
  (O:∀c H,Pv xs.length c H->c.length<=sizeLine/\R c H) :
  ∃W:Nat->Nat->List V->Hp->Prop,(∃m,W 0 m [] H)/\∀i m c f,W i m c f ->
   ((Itt K a).stop i f/\c.length<=sizeLine/\R c f) \/
   ((Itt K a).go i f/\∃N:List V->Hp->Prop,(∀c B,N c B->∃G,G<m/\W (i+1) G c B)/\∀x C,(Itt K a).yld i f x C->g x A C fun l D=>l.drop n=A.drop n/\J l D fun b s=>
    if b=true then I l s fun y E=>c.length<sizeLine/\N (c++[y]) E else N c s):=by
 refine⟨fun i m c f=>m=xs.length-i/\i<=xs.length/\Pv i c f,⟨_,rfl,qQ _,L⟩,?_⟩
 rintro i m c f ⟨rfl,hi,p⟩;have q:=M i c f p;by_cases w:i<xs.length
 ·refine .inr ⟨⟨xs,xs[i],q,by simp[w]⟩,Pv (i+1),fun a0 B T=>⟨_,by omega,rfl,w,T⟩,fun x C y=>?_⟩
  obtain⟨e,y⟩:=y;subst e;exact Q i x c _ (y xs q) p
 ·have e:i=xs.length:=by omega
  subst e;obtain⟨U,Y⟩:=O c f p;exact .inl ⟨⟨xs,q,zM _⟩,U,Y⟩
inductive DV(K:W.Frag)(F:Hp)(n:Nat):V->Prop
 | non:DV K F n .non
 | bl (b:Bool):DV K F n (.bl b)
 | int (i:Int) (h:i.natAbs<=10000000000+n):DV K F n (.int i)
 | str (x:Str) (h:x.length<=n):DV K F n (.str x)
 | lst (a:Addr) (c:List V) (h:SqL K F a c) (e:c.length<=n) (all:∀x∈c,DV K F n x):DV K F n (.ref a)
 | tup (a:Addr) (c:List V) (h:SqT K F a c) (e:c.length<=n) (all:∀x∈c,DV K F n x):DV K F n (.ref a)
theorem DV.up{K:W.Frag}{F f:Hp}{n m:Nat}{v:V}(h:DV K F n v)(s:Same F f)(l:n<=m):DV K f m v:=by
 induction h with
 | non=>exact .non
 | bl b=>exact .bl b
 | int i h=>exact .int i (by omega)
 | str x h=>exact .str x (by omega)
 | lst a e h g all c=>exact .lst a e (s.seq h) (by omega) c
 | tup a e h g all c=>exact .tup a e (s.sqT h) (by omega) c
def WX(e:List Addr)(H:Hp):Hp:=fun c=>if c∈e then none else H c
theorem WX.le{f:List Addr}{H:Hp}:Same (WX f H) H:=fun c o e=>by
 unfold WX at e;split at e
 ·cases e
 ·exact e
theorem WX.new{f:List Addr}{H:Hp}{p:Addr}{o:HO}(h:H p=none):Same (WX f H) (WX f (upd H p o)):=fun c u e=>by
 unfold WX at e ⊢;split at e
 ·cases e
 ·rename_i hc
  rw[zv hc,zm (zk e h)];exact e
theorem WX.same{g:List Addr}{H f:Hp}(h:Same H f):Same (WX g H) (WX g f):=fun c u e=>by
 unfold WX at e ⊢;split at e
 ·cases e
 ·rename_i hc
  rw[zv hc];exact h c u e
theorem WX.cons{f:List Addr}{H:Hp}{m:Addr}:Same (WX (m::f) H) (WX f H):=fun c u e=>by
 unfold WX at e ⊢;split at e
 ·cases e
 ·rename_i hc
  rw[zv (fun z=>hc (jn _ z))]
  exact e
theorem WX.fresh{f:List Addr}{H:Hp}{m:Addr}(h:H m=none)(o:HO):Same (WX f H) (WX (m::f) (upd H m o)):=fun c u e=>by
 unfold WX at e ⊢;split at e
 ·cases e
 ·rename_i hc
  have g:c≠m:=zk e h;rw[zv (fun z=>(qm.mp z).elim g hc),zm g]
  exact e
theorem WX.put{f:List Addr}{H:Hp}{m:Addr}{o:HO}(h:m∈f):Same (WX f H) (WX f (upd H m o)):=fun c u e=>by
 unfold WX at e ⊢;split at e
 ·cases e
 ·rename_i hc
  rw[zv hc,zm (show c≠m from fun z=>hc (by rw[z];exact h))]
  exact e
theorem WX.at{f:List Addr}{H:Hp}{c:Addr}{o:HO}(h:c∉f)(e:H c=some o):WX f H c=some o:=by
 unfold WX;rw[zv h];exact e
def zeH:Expr->Bool
 | .Starred _ _=>false
 | _=>true
theorem x6{e:Expr}{f:List Expr}{c:Env}(h:zeH e=true):starEach (e::f) c=(false,eval e c)::starEach f c:=by
 cases e<;>first| rfl | cases h
theorem pa5{X:Cx}{e e1 e2 f g:Expr}{l s w A B:TE}(C:PE X e l)(D:PE X e1 s)(E:PE X e2 w)(G:PE X f A)(H:PE X g B)(h:([e,e1,e2,f,g]).all zeH=true:=by rfl):PA X [e,e1,e2,f,g] (QO l (QO s (QO w (QO A (QO B zf0))))):=by
 have c:=xO.mp h;exact(za C (za D (za E (za G (za H zd (x6 (c _ (by simp)))) (x6 (c _ (by simp)))) (x6 (c _ (by simp)))) (x6 (c _ (by simp)))) (x6 (c _ (by simp))))
section
variable{X:Cx}{l L f:Expr}{w:List Expr}{c:Scope}{A:Pos}{G:TI}{g:TG}{E:TT}{B:TE}
theorem za3{y:Str}{py:Pos}{g2:TG}{s:List (Addr×Obj)}{σ:St}{N:Hp}{T:St->Hp->Prop}{I:Shared}{D C:Addr}{m:Str->Option Value}(O:PG X (.Name y py) g2)(hn:I.heap.Ns C m)
  (all:∀h7:Heap,(∀b o,b≠C->I.heap.get? b=some o->h7.get? b=some o)->Inv X s σ N { I with heap:=h7 }) (fc:jX X s N C) (q:g2 (.ref D) σ N T) :
  wpAny (model X.prog X.w) X.A (assign (.Name y py) X.env (.ref D)) (fun _ H=>∃m,H.heap.Ns C m/\∀h',Heap.SameBut C H.heap h'->∃σ' U,Inv X s σ' U { H with heap:=h' }/\T σ' U) X.xe I:=by
 have J0:=all I.heap fun b o _ e=>e
 obtain⟨M,es,ep,J,hd,r⟩:=hn;have J1:=J0.pinned (fp:=[C]) (fun b hb=>by rw[zY.mp hb];exact fc) (fun b hb=>by rw[zY.mp hb];exact⟨M,J,fun v z=>by rw[hd] at z;cases z⟩)
 have mC:(C,M)∈s++qC [C] I.heap:=qB _ (qZ (zY.mpr rfl) J);refine thn (O _ I σ _ (.ref D) (.ref D) _ J1 rfl q) fun _ s8 ⟨σ8,H8,Y,q8⟩=>?_
 obtain⟨e8,n8,_⟩:=Y.pin (C,M) (qB _ mC);obtain⟨_,g1,_,g3,g4,g5⟩:=fc;exact⟨m,⟨M,es,ep,e8,hd,r⟩,fun h9 Q=>⟨σ8,H8,(Y.unpinned).turned (t':=s8.toks) (it:=C) (fun b o hb e=>Q.extBut b o hb e) n8 g1 g3 g4 g5,q8⟩⟩
theorem zeE{y:Str}{Y M:Pos}{g2:TG}(own O:List Str)(js:List Nat)(hc:X.calm=true)(hk:c.kind=.function)(hb:yk c.names X.env.scope.names X.N O js=true)(hi:PI X L f G)
  (hg:∀C s H N,PG (zH X (own++O) c C s H N) L g) (hf:∀C s H N,PF (zH X (own++O) c C s H N) w E) (he:∀C s H N,PE (zH X (own++O) c C s H N) l B)
  (aa:PG X (.Name y Y) g2) (ab:swapsWith (.ListComp l [⟨L,f,w,0⟩] c A) (some (.Name y Y)) M.line X.env=pure true:=by rfl)
  (hs:∀x,foldedSetIterable f X.env x=pure x:=by intro _;rfl):PS X (.Assign [.Name y Y] (.ListComp l [⟨L,f,w,0⟩] c A) M) (zbb (tLC G own.length js g E B) g2):=by
 intro U s σ H Dn I h;rw[exec_Assign_Name_used _ _ _ _ ab];refine zi (vg (zi ?_))
 show wpAny _ X.A (do let _<-comprehension (.ListComp l [⟨L,f,w,0⟩] c A) c X.env _ (newList []) false (eval f X.env) (some (assign (.Name y Y) X.env))) _ _ s
 refine zi (qg (zcQ (rest:=[]) (use:=some (assign (.Name y Y) X.env)) (Qx:=fun _ s'=>∃σ' H',Inv X U σ' H' s'/\Dn.nx σ' H') (Q:=fun v H1=>g2 v σ H1 Dn.nx) own O js hk hb hi hs I h (fun C D it fp tn J W H2 s3 s4 m0 R a b T tl j a0=>YA hc hg hf he a b T tl j a0) fun s6 D C H6 m hn all fc q=>za3 aa hn all fc q) (fun _ s' hq=>zE (zE hq)) fun _ _ e=>e)
theorem VN{x y:Str}{O Q e:Pos}{T:TG}(I:List Str)(N:List Nat)(hc:X.calm=true)(hk:c.kind=.function)(hb:x5 c.names X.env.scope.names X.N [x] I N=true)(hi:PI X (.Name x O) f G)
  (hf:∀C s H D,PF (zH X ([x]++I) c C s H D) w E) (he:∀C s H D,PE (zH X ([x]++I) c C s H D) l B)
  (J:PG X (.Name y Q) T) (M:swapsWith (.ListComp l [⟨.Name x O,f,w,0⟩] c A) (some (.Name y Q)) e.line X.env=pure true:=by rfl)
  (hs:∀x,foldedSetIterable f X.env x=pure x:=by intro _;rfl):PS X (.Assign [.Name y Q] (.ListComp l [⟨.Name x O,f,w,0⟩] c A) e) (zbb (tLC G 1 N (jG 0) E B) T):=by
 obtain⟨U,Y,h3⟩:=jV hb;exact zeE [x] I N hc hk U hi (fun C s H D=>jf (Y x (by simp)) h3 rfl) hf he J M hs
theorem VM{x z y:Str}{Q U T e Y:Pos}{O:Nat}{g2:TG}(I:List Str)(N:List Nat)(hc:X.calm=true)(hk:c.kind=.function)(hb:x5 c.names X.env.scope.names X.N [x,z] I N=true)(hi:PI X (.Tuple [.Name x Q,.Name z U] O Y) f G)
  (hf:∀C s H D,PF (zH X ([x,z]++I) c C s H D) w E) (he:∀C s H D,PE (zH X ([x,z]++I) c C s H D) l B)
  (J:PG X (.Name y T) g2) (M:swapsWith (.ListComp l [⟨.Tuple [.Name x Q,.Name z U] O Y,f,w,0⟩] c A) (some (.Name y T)) e.line X.env=pure true:=by rfl)
  (hs:∀x,foldedSetIterable f X.env x=pure x:=by intro _;rfl):PS X (.Assign [.Name y T] (.ListComp l [⟨.Tuple [.Name x Q,.Name z U] O Y,f,w,0⟩] c A) e) (zbb (tLC G 2 N (QF X.K 2 (j8 (jG 0) (j8 (jG 1) JR))) E B) g2):=by
 obtain⟨h1,h2,h3⟩:=jV hb;refine zeE [x,z] I N hc hk h1 hi (fun C s H D=>?_) hf he J M hs
 exact qF (X:=zH X ([x,z]++I) c C s H D) hc (zr (jf (h2 x (by simp)) h3 rfl) (zr (jf (h2 z (by simp)) h3 rfl) qe))
end
theorem Vals.mem{u:Value}:∀{c:List V} {f:List Value},Vals c f->u∈f->∃x∈c,RelV x u
 | _,_,.nil,h=>by cases h
 | x::c,v::l,.cons r t,h=>by
  rcases qm.mp h with e | h
  ·rw[e];exact⟨x,jz,r⟩
  ·obtain⟨y,hy,g⟩:=Vals.mem t h
   exact⟨y,jn _ hy,g⟩
section
variable{X:Cx}
theorem zfL{E:List (Addr×Obj)}{σ:St}{H:Hp}{s:Shared}(I:Inv X E σ H s){A:Around}(hu:A.units<cLine){a c:Addr}{l w:List V}(hx:SqT X.K H a l)(hy:SqT X.K H c w)(L:l.all xf=true)(M:w.all xf=true):∃b,SeqAt.EqAt A s (.ref a) (.ref c) b:=by
 by_cases B:a=c
 ·subst B
  exact⟨true,SeqAt.EqAt.same _⟩
 ·obtain⟨C,G,U,z1⟩:=I.tuple hx
  obtain⟨D,J,Y,z2⟩:=I.tuple hy;have l1:=G.length;have l2:=J.length;refine⟨_,SeqAt.EqAt.of_refs B (SeqAt.RcAt.tuples (e:=fun j=>eqV (l.getD j .non) (w.getD j .non)) U Y hu (fun j Q T=>?_))⟩
  have f:j<l.length:=by rw[zX] at Q;omega
  have g:j<w.length:=by rw[zX] at T;omega
  obtain⟨w1,e1,q1⟩:=G.get (i:=j) (x:=l[j]) (by simp[f])
  obtain⟨w2,e2,q2⟩:=J.get (i:=j) (x:=w[j]) (by simp[g])
  have N:C.toArray[j]=w1:=by simpa using (zK.mp e1).2
  have O:D.toArray[j]=w2:=by simpa using (zK.mp e2).2
  rw[N,O,show l.getD j .non=l[j] by simp[f],show w.getD j .non=w[j] by simp[g]]
  exact JW q1 q2 (xO.mp L _ (vZ f)) (xO.mp M _ (vZ g))
inductive Jz(K:W.Frag)(x:V)(y:V)(H:Hp)(Q:VK):Prop
 | mk (a p:Addr) (g f:List V) (_:x=.ref a) (_:y=.ref p) (_:SqT K H a g) (_:g.all xf=true) (_:SqL K H p f) (_:(∀v∈f,∃(c:Addr) (e:List V),v=.ref c/\SqT K H c e/\e.all xf=true)) (_:∀r:Bool,Q (.bl r) H):Jz K x y H Q
open Classical in
theorem zdw(hu:X.A.units+64<cLine):OpR X (compareOp .In) (Jz X.K):=by
 intro A s σ H x y v u Q I J L h;obtain⟨a,p,T,O,rfl,rfl,E,C,hp,all,q⟩:=h;cases J;cases L;obtain⟨g,r,G,M⟩:=I.list hp;have B:∀w∈g,∃b,SeqAt.EqAt X.A.in1 s w (.ref a) b:=fun w f=>by
  obtain⟨x,hx,l⟩:=Vals.mem r f;obtain⟨c,N,rfl,hc,D⟩:=all x hx;cases l;exact zfL I (by show X.A.units+1<cLine;omega) hc E D C
 refine SeqAt.in_listAt (fun w=>if h:∃b,SeqAt.EqAt X.A.in1 s w (.ref a) b then h.choose else false) G.isList (fun w f=>?_) ⟨.bl _,H,I,rfl,q _⟩
 have e:=B w (by simpa using f)
 simp only[e,dif_pos];exact e.choose_spec
inductive Qt(K:W.Frag)(x:V)(y:V)(H:Hp)(Q:VK):Prop
 | mk (a b:Addr) (c:List V) (_:x=.ref a) (_:y=.ref b) (_:SqL K H a c) (_:SqL K H b []) (_:Q (.bl (!c.isEmpty)) H):Qt K x y H Q
theorem ZQ(hu:X.A.units<cLine):OpR X (compareOp .NotEq) (Qt X.K):=by
 intro w s σ H x y v u Q I D E h;obtain⟨a,b,G,rfl,rfl,hx,hy,q⟩:=h;cases D;cases E;obtain⟨c,B,g,J⟩:=I.list hx;obtain⟨f,C,l,L⟩:=I.list hy;cases C;cases B with
 | nil=>exact SeqAt.RcNeAt.lists (e:=fun _=>true) g.isList l.isList rfl hu (fun j A _=>by simp at A) _ _ _ _ ⟨.bl _,H,I,rfl,q⟩
 | cons r t=>exact SeqAt.RcNeAt.lists_lengths g.isList l.isList (by simp) hu _ _ _ _ ⟨.bl _,H,I,rfl,q⟩
inductive Qu(K:W.Frag)(x:V)(y:V)(H:Hp)(Q:VK):Prop
 | mk (a b:Addr) (c:List V) (_:x=.ref a) (_:y=.ref b) (_:SqL K H a c) (_:SqL K H b []) (_:Q (.bl c.isEmpty) H):Qu K x y H Q
theorem ZR(hu:X.A.units<cLine):OpR X (compareOp .Eq) (Qu X.K):=by
 intro w s σ H x y v u Q I D E h;obtain⟨a,b,G,rfl,rfl,hx,hy,q⟩:=h;cases D;cases E;obtain⟨c,B,g,J⟩:=I.list hx;obtain⟨f,C,l,L⟩:=I.list hy;cases C;cases B with
 | nil=>exact SeqAt.RcAt.lists (e:=fun _=>true) g.isList l.isList rfl hu (fun j A _=>by simp at A) _ _ _ _ ⟨.bl _,H,I,rfl,q⟩
 | cons r t=>exact SeqAt.RcAt.lists_lengths g.isList l.isList (by simp) hu _ _ _ _ ⟨.bl _,H,I,rfl,q⟩
theorem Xu:∀{c:List Value} {n k:Nat},c.length=n->(∀j v,c[j]? =some v->∃t,v=Value.int ((k+j:Nat):Int) t)->Vals ((List.range' k n).map fun i:Nat=>V.int (i:Int)) c
 | [],0,k,_,_=>.nil
 | v::c,n+1,k,g,h=>by
  rw[List.range'_succ,qY];obtain⟨t,e⟩:=h 0 v rfl;refine .cons ⟨t,by rw[e];rfl⟩ (Xu (by simpa using g) fun j w l=>?_)
  obtain⟨s,f⟩:=h (j+1) w (by simpa using l)
  exact⟨s,by rw[f,show k+(j+1)=k+1+j by omega]⟩
theorem w9{a:Expr}{T:TA}{p J L c:Pos}(hc:X.calm=true)(hg:Gl X "list")(hm:X.mg "list" = none)(D:Gl X "range")(E:X.mg "range" = none)(G:bootBuiltins "list" = some (.type "list"))(ha:PA X [a] T)(hs:starEach [a] X.env=[(false,eval a X.env)]:=by rfl)
  (N:starEach [.Call (.Name "range" J) [a] [] c] X.env=[(false,eval (.Call (.Name "range" J) [a] [] c) X.env)]:=by rfl) :
  PE X (.Call (.Name "list" p) [.Call (.Name "range" J) [a] [] c] [] L) (fun σ H Q=>T σ H fun U C=>∃j:Int,U=[.int j]/\0<=j/\j<=1000000/\∀l,C l=none->Q (.ref l) (upd C l (.lst ((List.range j.toNat).map fun i:Nat=>V.int (i:Int))))):=by
 intro w s σ H Q I h;refine wpAny_Call_Name_kw (vv I hg hm G ?_ (by decide) (by decide))
 refine Qe ?_ N rfl
 rw[N];refine yY ?_
 refine Call_ (vv I D E boot_range (Qe (thn (ha c w s σ H _ I h) fun us s1 ⟨U,C,Y,r1,q1⟩=>?_) hs rfl))
 obtain⟨j,e,j0,j1,q⟩:=q1;subst e;cases r1 with
 | cons r rr=>
  cases rr;obtain⟨t,rfl⟩:=r;refine call_range_1 (Xf ?_)
  have M:Inv X w σ C { s1 with heap:=s1.heap.push { cls:=.type "range",data:=.fields #[.int 0 s1.toks,.int j t,.int 1 (s1.toks+1)] },toks:=s1.toks+1+1 }:=Y.kept fun b o e=>qr _ e
  have g:=bGe;refine call_list_range (n:=j.toNat) (I.ok.hd hc) (IsRange.new ..) (small_one (by rw[g];omega) (by rw[g];omega) (by rw[g];omega) (by rw[g];omega)) (by rw[rangeSize_one];split<;>omega) (by omega) fun h' tk A c' B get f=>?_
  refine⟨.ref _,_,M.laid (t':=tk) (o:=.lst ((List.range j.toNat).map fun i:Nat=>V.int (i:Int))) B (zM _) ?_,rfl,q _ (M.hok.fresh (zM _))⟩
  refine⟨by rw[zp,vh,sizeLine_eq];omega,A.toList,c',?_,by rw[Array.toArray_toList];exact get⟩
  rw[List.range_eq_range'];refine Xu (by rw[jO];exact f.1) fun i v G=>?_
  obtain⟨O,e'⟩:=f.2 i v (by simpa using G)
  exact⟨O,by rw[e'];congr 1;omega⟩
end
end L2
namespace L2
open PySem PySem.Spec PyProof.Rows
section
variable{c:Program}{w:World}{A:Around}{E:Value->Shared->Prop}{s:Shared}
end
def Tups(H:Hp)(e f:List V)(c:List Addr):Prop:=∀(j:Nat) (T:Addr),c[j]? =some T->∃x y,e[j]? =some x/\f[j]? =some y/\H T=some (.tup [x,y])
theorem Tups.same{H f:Hp}{l w:List V}{g:List Addr}(h:Tups H l w g)(s:Same H f):Tups f l w g:=fun j T e=>let ⟨x,y,a,b,c⟩:=h j T e;⟨x,y,a,b,s _ _ c⟩
theorem Tups.snoc{H:Hp}{f g:List V}{c:List Addr}{T:Addr}{x y:V}(h:Tups H f g c)(hx:f[c.length]? =some x)(hy:g[c.length]? =some y)(l:H T=some (.tup [x,y])):Tups H f g (c++[T]):=fun j U e=>by
 by_cases s:j<c.length
 ·rw[xH s] at e
  exact h j U e
 ·rw[xQ (by omega)] at e
  have:j=c.length:=by
   have:=(zK.mp e).1;simp at this;omega
  subst this;simp at e;subst e;exact⟨x,y,hx,hy,l⟩
section
variable{X:Cx}{A:Around}{R:Result->Shared->Prop}
end
section
variable{X:Cx}
theorem ZY{K:W.Frag}(h:X.K=K):IxR X (ze8 K):=by rw[<- h];exact zT
theorem ji{K:W.Frag}(h:X.K=K):IxR X (ze7 K):=by rw[<- h];exact zN
theorem xo{K:W.Frag}(h:X.K=K):CallR X (.builtin "len") (xS K):=by rw[<- h];exact zD
theorem vp{K:W.Frag}(h:X.K=K):OpR X (compareOp .In) (rIn K false):=by rw[<- h];exact wn
theorem xY{K:W.Frag}(h:X.K=K):OpR X (compareOp .NotIn) (rIn K true):=by rw[<- h];exact JL
inductive Jx(x:V)(y:V)(H:Hp)(Q:VK):Prop
 | mk (a b:_) (_:x=.bl a) (_:y=.bl b) (_:Q (.bl (!decide (a=b))) H):Jx x y H Q
theorem Zw:OpR X (compareOp .IsNot) (Jx):=by
 intro c s σ H x y v u Q I e f h;obtain⟨a,b,rfl,rfl,q⟩:=h;cases e;cases f;refine wpAny_isNot_plain (by cases a<;>cases b<;>rfl) (z9 I q ?_)
 cases a<;>cases b<;>rfl
end
section
open AutoSeq1 (wpAny_loadPart')
theorem vR(l:Addr)(e:Array Value)(n:Nat)(B:Option Addr)(G:Array (Option Value)) :
  Meets (Builtin.«enumerate.__new__» ⟨[.type "enumerate",.ref l],[]⟩) (fun _ R s=>s.heap.get? l=some { cls:=.type "tuple",dict:=B,data:=.seq e n,slots:=G } /\
   R (.ok (.ret (.ref (s.heap.push { cls:=.type "tuple_iterator",data:=.fields #[.ref l,.int 0 0] }).objs.size)))
    { s with heap:=(s.heap.push { cls:=.type "tuple_iterator",data:=.fields #[.ref l,.int 0 0] }).push { cls:=.type "enumerate",data:=.fields #[.none,.bool false,.ref s.heap.objs.size,rawInt 0,.none,.none] } }):=
 .of_wp fun E w A R s h=>by
  obtain⟨hp,g,d,H,os⟩:=s;obtain⟨f,h⟩:=h
  have D:=sub_enumerate;have C:Heap.IsTuple (Shared.heap ⟨hp,g,d,H,os⟩) l e:=⟨_,f,rfl,n,rfl⟩;wp_walk using wpAny_loadPart' f
  refine wpAny_stack_any fun st=>zE ?_
  split
  ·rename_i c _ _ _ _ _
   cases(c==Value.type "enumerate")
   ·wp_walk using wpAny_loadPart' f,wpAny_pyIter_tuple C
    exact⟨_,rfl,h⟩
   ·wp_walk using wpAny_loadPart' f,wpAny_pyIter_tuple C
    exact⟨_,rfl,h⟩
  ·wp_walk using wpAny_loadPart' f,wpAny_pyIter_tuple C
   exact⟨_,rfl,h⟩
end
section
variable{prog:Program}{w:World}{A:Around}{E:Value->Shared->Prop}{s:Shared}
theorem vW{l:Addr}{e:Array Value}{Q:Value->Shared->Prop}(I:s.heap.IsTuple l e)
  (h:∀f,IsEnum f (s.heap.objs.size+1) s.heap.objs.size 0 .none->f.IsTupleIter s.heap.objs.size l 0->f.objs.size=s.heap.objs.size+2 ->
   (∀b o,s.heap.get? b=some o->f.get? b=some o)->Q (.ref (s.heap.objs.size+1)) { s with heap:=f }) :
  wpAny (model prog w) A (call (.type "enumerate") [.ref l]) Q E s:=by
 obtain⟨⟨c,g,H,L⟩,J,hc,n,B⟩:=I;replace hc:c=.type "tuple" :=hc
 replace B:H=.seq e n:=B
 subst hc B;refine callType_new F.called_enumerate (by decide) (F.typeCall_enumerate_1 _) (F.newCall_enumerate_1 _) (fun D=>F.args_object_init_2 D _) F.entry_enumerate_new
  (vR l e n g L) ⟨J,?_⟩
 have C:(s.heap.push { cls:=.type "tuple_iterator",data:=.fields #[.ref l,.int 0 0] }).objs.size=s.heap.objs.size+1:=xg ..;show _/\_;rw[C];have G:IsEnum ((s.heap.push { cls:=.type "tuple_iterator",data:=.fields #[.ref l,.int 0 0] }).push
   { cls:=.type "enumerate",data:=.fields #[.none,.bool false,.ref s.heap.objs.size,rawInt 0,.none,.none] }) (s.heap.objs.size+1) s.heap.objs.size 0 .none:=by
  have:=qk (s.heap.push { cls:=.type "tuple_iterator",data:=.fields #[.ref l,.int 0 0] })
   (o:={ cls:=.type "enumerate",data:=.fields #[.none,.bool false,.ref s.heap.objs.size,rawInt 0,.none,.none] }) rfl
  rw[C] at this;exact this
 refine⟨⟨_,G,rfl⟩,h _ G ⟨_,qr _ (qk _ rfl),rfl,rfl⟩ (by rw[xg,C]) fun b o x=>qr _ (qr _ x)⟩
theorem Draws.tuple{prog:Program}{w:World}{A:Around}(L:A.handled=none)(B l:Addr)(D:l≠B)(c:Array Value) :
  Draws prog w A B [B,l] c.size (fun i v=>c[i]? =some v) (fun i h=>h.IsTupleIter B l i/\h.IsTuple l c) where
 live:=fun _ _ st=>let ⟨o,M,_⟩:=st.1;⟨o,M⟩
 frame:=fun _ _ _ st hk=>⟨ItrK.at (kd:=false) st.1 fun o e=>hk B (by simp) o e,SeqK.at (kd:=false) st.2 fun o e=>hk l (by simp) o e⟩
 item:=fun i s Q E G st J=>by
  refine vq (kd:=false) st.1 st.2 (x:=c[i]) (by simp[G]) fun H f g=>?_
  exact J _ H s.toks (by simp[G]) ⟨f,SeqK.at (kd:=false) st.2 fun o e=>g.extBut l o D e⟩ g
 done:=fun s Q E st I=>wq (kd:=false) L st.1 st.2 (by simp) I
end
def Vy(K:W.Frag)(a:Addr):It:=
 ⟨fun i H=>∃c x,SqT K H a c/\c[i]? =some x,fun i H x e=>∃T y,x=.ref T/\H T=none/\e=upd H T (.tup [.int i,y])/\∀c,SqT K H a c->c[i]? =some y,fun i H=>∃c,SqT K H a c/\c.length<=i⟩
theorem VC{P:Program}{w:World}{K:W.Frag}{N:List Expr}{kk:Nat}{aj:Pos}(a e g:Addr)(G:e≠g) :
  yw P w K (.Tuple N kk aj) (Vy K a) [e,g] e (fun i h=>(∃C,IsEnum h e g i C)/\h.IsTupleIter g a i) where
 mem:=by simp
 obj:=fun i h st b hb=>by
  obtain⟨⟨C,l⟩,⟨o,ho,c,d⟩⟩:=st;rcases qm.mp hb with z | z
  ·subst z;exact⟨_,l,fun v q=>nomatch q⟩
  ·rw[zY.mp z];exact⟨o,ho,fun v q=>by rw[d] at q;cases q⟩
 keep:=fun i h h' st k=>by
  obtain⟨⟨C,l⟩,hi⟩:=st;exact⟨⟨C,k e (by simp) _ l⟩,ItrK.at (kd:=false) hi fun o q=>k g (by simp) o q⟩
 item:=by
  intro X hP hw hK hc i Y s σ H E I hf st hg;subst hP hw hK;obtain⟨⟨C,l⟩,B⟩:=st;obtain⟨xs,x,hq,hx⟩:=hg;obtain⟨f,rv,p,hz⟩:=I.tuple hq;obtain⟨u,hu,ru⟩:=rv.get hx;have M:s.heap.IsTuple a f.toArray:=p;have O:a≠g:=fun z=>by
   obtain⟨o,e1,c1,_⟩:=M;obtain⟨o',e2,c2,_⟩:=B;rw[z,e2] at e1;cases e1;rw[c2] at c1;exact absurd (Ze c1) (by decide)
  have aa:e≠a:=fun z=>by
   obtain⟨o,e1,c1,_⟩:=M;rw[<- z,l] at e1;cases e1;exact absurd (Ze c1) (by decide)
  have D:=Draws.tuple (prog:=X.prog) (w:=X.w) (A:=X.A.in1) (I.ok.hd hc) g a O f.toArray;have hi:i<f.toArray.size:=by
   have h1:=(zK.mp hu).1;simpa using h1
  refine wpAny_pyNext_enum_itemD D l ⟨B,M⟩ hi G (by simp[G,aa]) fun x' h' tk a0 Q U hT am hk=>?_
  have ex:x'=u:=by
   have L:f[i]? =some x':=by simpa using a0
   rw[hu] at L;exact(jm L).symm
  subst ex;refine⟨_,rfl,wpAny_letOwnedTupleGo_enum Q fun L af J=>?_⟩
  have eT:s.heap.objs.size≠e:=vY (zP l);have k2:∀b o,b∉[e,g]->s.heap.get? b=some o->L.get? b=some o:=fun b o hb q=>by
   have n1:b≠e:=fun z=>hb (by simp[z])
   have n2:b≠g:=fun z=>hb (by simp[z])
   exact(J.2 b n1).trans (hk b o n1 n2 q)
  have ai:L.IsTupleIter g a (i+1):=ItrK.at (kd:=false) U.1 fun o q=>J.extBut g o (qu G) q
  refine⟨.ref s.heap.objs.size,upd H s.heap.objs.size (.tup [.int i,x]),?_,rfl,⟨_,x,rfl,I.hok.fresh (zM _),rfl,fun ys hy=>by rw[I.tuple_inj hy hq];exact hx⟩,⟨⟨_,by simpa using af⟩,ai⟩,fun b hb=>?_⟩
  ·refine JO (s:=s) (h':=L) (t':=tk+1) (its:=[.int i tk,x']) I hf (zM _) k2 (by rw[sizeLine_eq];exact(by decide:2<=16777216)) (.cons ⟨tk,rfl⟩ (.cons ru .nil)) (TupX.by ((J.2 _ eT).trans hT))
  ·have ab:b<s.heap.objs.size:=by
    rcases qm.mp hb with z | z
    ·rw[z];exact zP l
    ·rw[zY.mp z]
     obtain⟨o',e',_⟩:=B;exact zP e'
   rw[zm (qw ab)];exact(hf b hb).1
 done:=by
  intro X hP hw hK hc i Y s σ H E I hf st hg;subst hP hw hK;obtain⟨⟨C,l⟩,B⟩:=st;obtain⟨xs,hq,hx⟩:=hg;obtain⟨f,rv,p,hz⟩:=I.tuple hq;have M:s.heap.IsTuple a f.toArray:=p;have O:a≠g:=fun z=>by
   obtain⟨o,e1,c1,_⟩:=M;obtain⟨o',e2,c2,_⟩:=B;rw[z,e2] at e1;cases e1;rw[c2] at c1;exact absurd (Ze c1) (by decide)
  obtain⟨f0,f1,f2,f3,f4,f5⟩:=hf g (by simp)
  have ag:f.toArray.size<=i:=by
   have:=rv.length;simp only[zX];omega
  have hT:s.TypeIs (.ref e) "enumerate" :=⟨_,l,rfl⟩;unfold pyNext;refine zi (wP (yr (name:=Str.ofString "__next__") hT Xm (vE Xm hT F.entry_enumerate_next ?_ (F.args_enumerate_next_1 _))))
  show wpAny _ _ (field (.ref e) 2 >>= _) _ _ _;refine zi (xw l rfl (x:=.ref g) rfl (zi (wq (kd:=false) (I.ok.hd hc) B M (by simpa using ag) fun h' x ae ah=>?_)))
  obtain⟨o,ho,ac⟩:=ah;refine zi (Zh (T:= "StopIteration") (b:=true) ⟨o,ho,ac⟩ isSubtype_stop ?_)
  exact zE ⟨rfl,I.turned (t':=s.toks) (fun b o hb q=>ae b o hb q) f0 f1 f3 f4 f5⟩
 self:=fun _ _ _ _ _ st h=>let ⟨⟨_,l⟩,_⟩:=st;wpAny_pyIter_enum l h
section
variable{X:Cx}
def zfH(K:W.Frag)(e:TA):TI:=fun σ H R=>e σ H fun f c=>∃a,f=[.ref a]/\(∃g,SqT K c a g)/\R (Vy K a) c
theorem wZ{l:Expr}{D:TA}{p w tp:Pos}{f:List Expr}{U:Nat}(L:Gl X "enumerate")(N:X.mg "enumerate" = none)(J:PA X [l] D)(O:starEach [l] X.env=[(false,eval l X.env)]:=by rfl) :
  PI X (.Tuple f U tp) (.Call (.Name "enumerate" p) [l] [] w) (zfH X.K D):=by
 intro c s σ H R I h;refine Call_ (vv I L N boot_enumerate (Qe (thn (J w c s σ H _ I h) fun us s1 ⟨vs,B,A,r1,q1⟩=>?_) O rfl))
 obtain⟨a,e,⟨xs,hq⟩,q⟩:=q1;subst e;obtain⟨u,rfl,ru⟩:=vJ r1;cases ru;obtain⟨T,rv,Y,hz⟩:=A.tuple hq;refine vW Y fun G C M Q hk=>wpAny_pyIter_enum C ?_
 have E:Inv X c σ B { s1 with heap:=G }:=A.kept (t':=s1.toks) hk;refine⟨s1.heap.objs.size+1,[s1.heap.objs.size+1,s1.heap.objs.size],_,_,B,rfl,E,VC a _ _ (Nat.succ_ne_self _),⟨⟨_,C⟩,M⟩,fun b hb=>?_,q⟩
 have g:s1.heap.objs.size<=b:=by
  rcases qm.mp hb with z | z
  ·rw[z];exact yO _
  ·rw[zY.mp z];exact zM _
 exact A.fpOk g (A.hok.fresh g)
theorem Jh{K:W.Frag}{a:Addr}{xs:List V}{g:TG}{B:TS}{D:QI}{σ:St}{H:Hp}(Pv:Nat->St->Hp->Prop)(C:Pv 0 σ H)(J:∀i σ H,i<=xs.length->Pv i σ H->SqT K H a xs)
  (L:∀i x σ H T,xs[i]? =some x->Pv i σ H->H T=none->g (.ref T) σ (upd H T (.tup [.int i,x])) fun w l=>B { D with nx:=Pv (i+1),ct:=Pv (i+1),bk:=D.nx } w l) (G:∀σ H,Pv xs.length σ H->D.nx σ H) :
  ∃W:Nat->Nat->St->Hp->Prop,(∃m,W 0 m σ H)/\∀i m σ H,W i m σ H ->
   ((Vy K a).stop i H/\D.nx σ H)\/((Vy K a).go i H/\∃N:St->Hp->Prop,(∀s c,N s c->∃A,A<m/\W (i+1) A s c)/\∀x c,(Vy K a).yld i H x c->g x σ c fun w l=>B { D with nx:=N,ct:=N,bk:=D.nx } w l):=by
 refine⟨fun i m σ H=>m=xs.length-i/\i<=xs.length/\Pv i σ H,⟨xs.length,by simp,qQ _,C⟩,?_⟩
 rintro i m σ H ⟨rfl,I,p⟩;have q:=J i σ H I p;by_cases f:i<xs.length
 ·refine .inr ⟨⟨xs,xs[i],q,by simp[f]⟩,Pv (i+1),fun s c M=>⟨xs.length-(i+1),by omega,rfl,f,M⟩,fun x c y=>?_⟩
  obtain⟨T,z,e1,E,e2,y⟩:=y;subst e1 e2;exact L i z σ H T (y xs q) p E
 ·have e:i=xs.length:=by omega
  subst e;exact .inl ⟨⟨xs,q,zM _⟩,G σ H p⟩
end
end L2
namespace L2
open PySem PySem.Spec PyProof.Rows
section
variable{g:Program}{w:World}{A:Around}{R:Result->Shared->Prop}{s:Shared}
abbrev lc2(B E c:Expr)(f:List Expr)(G l:Expr)(C:List Expr)(e:Scope)(D:Pos):Expr:=.ListComp B [⟨E,c,f,0⟩,⟨G,l,C,0⟩] e D
theorem Vp(E I l:Expr)(C:List Expr)(L f:Expr)(G:List Expr)(B:Scope)(H:Pos)(J D:Value)(e:Env) :
  compTurn (lc2 E I l C L f G B H) 1 J D e=(do
   standAt f.pos
   match<-pyNext J with
   | none=>pure (.done .next)
   | some v=>
    letOwnedTupleGo L J v
    assign L e v
    let mut ok:=true
    for c in G do
     if ok then ok<-isTrue c e (eval c e)
    if ok then
     (do let _<-call (.builtin "list.append") [D,<- eval E e])
    again (.compLoop (lc2 E I l C L f G B H) 1 J D e)):=by rfl
theorem J3(E C e:Expr)(B:List Expr)(J c:Expr)(G:List Expr)(l:Scope)(H:Pos)(I D:Value)(f:Env) :
  compTurn (lc2 E C e B J c G l H) 0 I D f=(do
   standAt e.pos
   match<-pyNext I with
   | none=>pure (.done .next)
   | some v=>
    letOwnedTupleGo C I v
    assign C f v
    let ok<-xI B f
    if ok=true then do
     let x<-eval c f
     standAt c.pos
     let x<-foldedSetIterable c f x
     let L<-holding [x] (pyIter x)
     let _<-runOwn (.compStart (lc2 E C e B J c G l H) 1 L D f) f
     again (.compLoop (lc2 E C e B J c G l H) 0 I D f)
    else again (.compLoop (lc2 E C e B J c G l H) 0 I D f)):=by rfl
theorem vU{D H c l M f E e G L C B}
  (O:codeAny (model g w) A (.compLoop (lc2 D H c l M f E e G) 1 L C B) R s)
  (h:wpAny (model g w) A (pyIter L) (fun I J=>codeAny (model g w) A (.compLoop (lc2 D H c l M f E e G) 1 I C B) R J)
   (notedBy (model g w) A B fun x J=>R (.error x) J) s) :
  codeAny (model g w) A (.compStart (lc2 D H c l M f E e G) 1 L C B) R s:=by
 refine codeAny_of_tree ?_
 show wpAny _ _ ((compStart (lc2 D H c l M f E e G) 1 L C B).onRaise (fun x=>do noteFrame x B;standAt theWindowsPlace)) _ _ s
 refine wpAny_notedAt ?_
 unfold compStart;show wpAny _ _ (ask >>= _) _ _ s;refine zi (wpAny_askSetting (wpAny_ite ?_))
 split
 ·first
   | exact zi (zE (zE (And.intro rfl O)))
   | exact zE (And.intro rfl O)
 ·first
   | exact zi (xT (zi (vg (zi (qg h (fun I J N=>zE (And.intro rfl N)) fun _ _ x=>x)))))
   | (refine zi (xT ?_);show wpAny _ _ (standAt f.pos >>= _) _ _ s;exact zi (vg (zi (qg h (fun I J N=>zE (And.intro rfl N)) fun _ _ x=>x))))
theorem zfQ{B L e:Expr}{C:List Expr}{Y D:Expr}{G:List Expr}{f:Scope}{I:Pos}{N l:Value}{c:Env}(J:Nat->Shared->Prop)
  (M:∀n s,J n s->wpAny (model g w) A (pyNext N) (fun r s1=>match r with
   | none=>R (.ok .next) s1
   | some v=>wpAny (model g w) A (letOwnedTupleGo Y N v) (fun _ s2=>wpAny (model g w) A (assign Y c v) (fun _ s3=>
     wpAny (model g w) A (xI G c) (fun ok O=>
      if ok=true then wpAny (model g w) A (eval B c) (fun x T=>
       wpAny (model g w) A (call (.builtin "list.append") [l,x]) (fun _ U=>∃m,m<n/\J m U) (fun _ _=>False) T) (fun _ _=>False) O
      else ∃m,m<n/\J m O) (fun _ _=>False) s3) (fun _ _=>False) s2) (fun _ _=>False) s1) (fun _ _=>False) s)
  (n:Nat) (h:J n s):codeAny (model g w) A (.compLoop (lc2 B L e C Y D G f I) 1 N l c) R s:=by
 have H:∀{α:Type} {t:Sem α} {Q:α->Shared->Prop} {E:Value->Shared->Prop} {s:Shared},wpAny (model g w) A t Q (fun _ _=>False) s->wpAny (model g w) A t Q E s:=fun x=>qg x (fun _ _ q=>q) fun _ _ q=>q.elim
 refine codeAny_loop rfl J (fun k u hJ=>?_) n h
 show wpAny _ A ((compTurn (lc2 B L e C Y D G f I) 1 N l c).onRaise (fun x=>do noteFrame x c;theTreesLotGoes x)) _ _ u
 refine wpAny_noted ?_
 rw[Vp];refine zi (vg (zi (H (qg (M k u hJ) (fun r s1 h1=>?_) fun _ _ q=>q))))
 cases r with
 | none=>exact zE h1
 | some v=>
  refine zi (H (qg h1 (fun _ s2 h2=>zi (H (qg h2 (fun _ s3 h3=>zi (H (qg h3 (fun ok O h4=>?_) fun _ _ q=>q))) fun _ _ q=>q))) fun _ _ q=>q))
  cases ok with
  | false=>exact zE ⟨rfl,h4⟩
  | true=>
   have a0:wpAny (model g w) A (eval B c) (fun x T=>wpAny (model g w) A (call (.builtin "list.append") [l,x]) (fun _ U=>∃m,m<k/\J m U) (fun _ _=>False) T) (fun _ _=>False) O:=h4
   refine zi (zi (H (qg a0 (fun x T h5=>zi (H (qg h5 (fun _ U h6=>zE (zE ⟨rfl,h6⟩)) fun _ _ q=>q))) fun _ _ q=>q)))
theorem zd8{I G B:Expr}{D:List Expr}{tg c:Expr}{L:List Expr}{C:Scope}{M:Pos}{U H:Value}{l:Env}(hs:∀x,foldedSetIterable c l x=pure x)(J:Nat->Shared->Prop)
  (O:∀n s,J n s->wpAny (model g w) A (pyNext U) (fun r s1=>match r with
   | none=>R (.ok .next) s1
   | some v=>wpAny (model g w) A (letOwnedTupleGo G U v) (fun _ s2=>wpAny (model g w) A (assign G l v) (fun _ s3=>
     wpAny (model g w) A (xI D l) (fun ok Y=>
      if ok=true then wpAny (model g w) A (eval c l) (fun x s5=>
       wpAny (model g w) A (pyIter x) (fun T s6=>codeAny (model g w) A (.compStart (lc2 I G B D tg c L C M) 1 T H l) (fun r s7=>match r with | .ok _=>∃m,m<n/\J m s7 | .error _=>False) s6) (fun _ _=>False) s5) (fun _ _=>False) Y
      else ∃m,m<n/\J m Y) (fun _ _=>False) s3) (fun _ _=>False) s2) (fun _ _=>False) s1) (fun _ _=>False) s)
  (n:Nat) (h:J n s):codeAny (model g w) A (.compLoop (lc2 I G B D tg c L C M) 0 U H l) R s:=by
 have N:∀{α:Type} {t:Sem α} {Q:α->Shared->Prop} {E:Value->Shared->Prop} {s:Shared},wpAny (model g w) A t Q (fun _ _=>False) s->wpAny (model g w) A t Q E s:=fun x=>qg x (fun _ _ q=>q) fun _ _ q=>q.elim
 refine codeAny_loop rfl J (fun k u hJ=>?_) n h
 show wpAny _ A ((compTurn (lc2 I G B D tg c L C M) 0 U H l).onRaise (fun x=>do noteFrame x l;theTreesLotGoes x)) _ _ u
 refine wpAny_noted ?_
 rw[J3];refine zi (vg (zi (N (qg (O k u hJ) (fun r s1 h1=>?_) fun _ _ q=>q))))
 cases r with
 | none=>exact zE h1
 | some v=>
  refine zi (N (qg h1 (fun _ s2 h2=>zi (N (qg h2 (fun _ s3 h3=>zi (N (qg h3 (fun ok Y h4=>?_) fun _ _ q=>q))) fun _ _ q=>q))) fun _ _ q=>q))
  cases ok with
  | false=>exact zE ⟨rfl,h4⟩
  | true=>
   have a0:wpAny (model g w) A (eval c l) (fun x s5=>
       wpAny (model g w) A (pyIter x) (fun T s6=>codeAny (model g w) A (.compStart (lc2 I G B D tg c L C M) 1 T H l) (fun r s7=>match r with | .ok _=>∃m,m<k/\J m s7 | .error _=>False) s6) (fun _ _=>False) s5) (fun _ _=>False) Y:=h4
   refine zi (N (qg a0 (fun x s5 h5=>zi (vg (zi (wpAny_of_eq (hs x) (zi (vD (N (qg h5 (fun T s6 h6=>?_) fun _ _ q=>q)))))))) fun _ _ q=>q))
   refine zi (wpAny_runOwn (h:=none) ?_)
   rw[Around.mark_none];refine codeAny_mono h6 fun r s7 h7=>?_
   cases r with
   | ok f=>exact zE ⟨rfl,h7⟩
   | error e=>exact h7.elim
end
def Sub:St->St->Prop
 | [],[]=>True
 | none::r,_::c=>Sub r c
 | some v::r,x::c=>x=some v/\Sub r c
 | _,_=>False
theorem Sub.len:∀{a b:St},Sub a b->a.length=b.length
 | [],[],_=>rfl
 | [],_::_,h=>h.elim
 | none::_,[],h=>h.elim
 | some _::_,[],h=>h.elim
 | none::r,_::c,h=>by rw[xh,xh,Sub.len (a:=r) (b:=c) h]
 | some _::r,_::c,h=>by rw[xh,xh,Sub.len (a:=r) (b:=c) h.2]
theorem Sub.get:∀{a b:St} {i:Nat} {v:V},Sub a b->a[i]? =some (some v)->b[i]? =some (some v)
 | [],[],_,_,_,e=>e
 | [],_::_,_,_,h,_=>h.elim
 | none::_,[],_,_,h,_=>h.elim
 | some _::_,[],_,_,h,_=>h.elim
 | none::r,_::c,0,v,h,e=>by simp at e
 | none::r,_::c,i+1,v,h,e=>by
  rw[List.getElem?_cons_succ] at e ⊢
  exact Sub.get (a:=r) (b:=c) h e
 | some _::r,_::c,0,v,h,e=>by
  rw[List.getElem?_cons_zero] at e ⊢
  rw[h.1];exact e
 | some _::r,_::c,i+1,v,h,e=>by
  rw[List.getElem?_cons_succ] at e ⊢
  exact Sub.get (a:=r) (b:=c) h.2 e
def tIn(M:TI)(g:TG)(L:TT)(I:TE)(O:List V)(N:List V->Hp->Prop):St->Hp->Prop:=fun w E=>M w E fun J G=>
 ∃W:Nat->Nat->List V->Hp->Prop,(∃m,W 0 m O G)/\∀i m c f,W i m c f ->
  (J.stop i f/\N c f) \/
  (J.go i f/\∃s:List V->Hp->Prop,(∀c B,s c B->∃D,D<m/\W (i+1) D c B)/\∀x C,J.yld i f x C->g x w C fun A H=>Sub w A/\L A H fun b e=>
   if b=true then I A e fun y l=>c.length<sizeLine/\s (c++[y]) l else s c e)
section
variable{X:Cx}{l E c:Expr}{w:List Expr}{C A:Expr}{s:List Expr}{f:Scope}{B:Pos}{Q M:TI}{g O:TG}{H L:TT}{G:TE}
theorem zdW{Y:Cx}{D:Addr}{U:List (Addr×Obj)}{σ4:St}{H0:Hp}{s0:Shared}{it:Addr}{fp:List Addr}{tn:Nat->Heap->Prop}{J:It}{R:Result->Shared->Prop}{N:List V->Hp->Prop}{ys:List V}{a0:List Value}{z:Nat}{m0:Nat}{W:Nat->Nat->List V->Hp->Prop}
  (hc:Y.calm=true) (hx:Y.xe=fun _ _=>False) (hg:PG Y C g) (hf:PF Y s H) (he:PE Y l G)
  (T:yw Y.prog Y.w Y.K C J fp it tn) (fD:∀H':Hp,H' D=none->jX Y U H' D) (f2:∀b∈fp,∀H':Hp,H' b=none->jX Y U H' b) (nD:∀b∈fp,D≠b)
  (I:Inv Y U σ4 H0 s0) (st:tn 0 s0.heap) (fr:∀b∈fp,H0 b=none) (af:H0 D=none) (ho:s0.heap.get? D=some { cls:=.type "list",data:=.seq a0.toArray z }) (rv:Vals ys a0) (w0:W 0 m0 ys H0)
  (ab:∀i m zs H7,W i m zs H7 ->
   (J.stop i H7/\N zs H7) \/
   (J.go i H7/\∃N2:List V->Hp->Prop,(∀zs H',N2 zs H'->∃m',m'<m/\W (i+1) m' zs H')/\∀x H8,J.yld i H7 x H8->g x σ4 H8 fun σ9 H9=>Sub σ4 σ9/\H σ9 H9 fun b aa=>
    if b=true then G σ9 aa fun y ac=>zs.length<sizeLine/\N2 (zs++[y]) ac else N2 zs aa))
  (ae:∀s',LcE Y D U σ4 N s'->R (.ok .next) s') :
  codeAny (model Y.prog Y.w) Y.A (.compLoop (lc2 l E c w C A s f B) 1 (.ref it) (.ref D) Y.env) R s0:=by
 refine zfQ (LcJ Y D tn fp U σ4 W) (fun n s5 j=>qg (Yz hc hx hg hf he T fD f2 nD (fun σ9 H' s' J hd=>J.weak hd.len fun k v e=>hd.get e) ab j) (fun r s6 h6=>?_) fun _ _ q=>q) m0 ⟨0,ys,a0,H0,z,I,st,fr,af,ho,rv,w0⟩
 cases r with
 | some v=>exact h6
 | none=>exact ae s6 h6
end
def zeV(l:TI)(n:Nat)(C:List Nat)(M:TG)(f:TT)(U:TI)(g:TG)(T:TT)(O:TE):TE:=fun σ H Q=>l σ H fun J I=>
 ∃W:Nat->Nat->List V->Hp->Prop,(∃m,W 0 m [] I)/\∀i m e c,W i m e c ->
  (J.stop i c/\e.length<=sizeLine/\∀D,c D=none->Q (.ref D) (upd c D (.lst e))) \/
  (J.go i c/\∃N:List V->Hp->Prop,(∀G w,N G w->∃E,E<m/\W (i+1) E G w)/\∀x A,J.yld i c x A->M x (upS n C σ) A fun s L=>s.drop n=(upS n C σ).drop n/\f s L fun b B=>
   if b=true then tIn U g T O e N s B else N e B)
section
variable{X:Cx}{w l iter1:Expr}{f:List Expr}{E c:Expr}{A:List Expr}{scope:Scope}{pos:Pos}{M U:TI}{g O:TG}{L B:TT}{G:TE}
theorem zcx{Y:Cx}{D it:Addr}{C:List Addr}{tn:Nat->Heap->Prop}{J:It}{σ4:St}{Kp:St->Prop}{W:Nat->Nat->List V->Hp->Prop}{N:List V->Hp->Prop}{n:Nat}{s5:Shared}
  (hc:Y.calm=true) (hx:Y.xe=fun _ _=>False) (hg:PG Y l O) (hf:PF Y f B) (bc:PI Y E c M) (bb:PG Y E g) (ba:PF Y A L) (he:PE Y w G) (T:yw Y.prog Y.w Y.K l J C it tn)
  (fB:∀b∈D::C,∀s:Hp,s b=none->jX Y [] s b) (nD:∀b∈C,D≠b) (bk:∀σ9 s s',Inv Y [] σ9 s s'->Kp σ9->Inv Y [] σ4 s s')
  (au:∀i m Q H7,W i m Q H7->(J.stop i H7/\N Q H7)\/(J.go i H7/\∃N2:List V->Hp->Prop,(∀Q s,N2 Q s->∃m',m'<m/\W (i+1) m' Q s)/\∀x H8,J.yld i H7 x H8->O x σ4 H8 fun σ9 H9=>Kp σ9/\B σ9 H9 fun b am=>
    if b=true then tIn M g L G Q N2 σ9 am else N2 Q am)) (j:LcJ Y D tn C [] σ4 W n s5) :
  wpAny (model Y.prog Y.w) Y.A (pyNext (.ref it)) (fun r s1=>match r with
   | none=>LcE Y D [] σ4 N s1
   | some v=>wpAny (model Y.prog Y.w) Y.A (letOwnedTupleGo l (.ref it) v) (fun _ s2=>wpAny (model Y.prog Y.w) Y.A (assign l Y.env v) (fun _ s3=>
     wpAny (model Y.prog Y.w) Y.A (xI f Y.env) (fun ok s4=>
      if ok=true then wpAny (model Y.prog Y.w) Y.A (eval c Y.env) (fun x s5=>
       wpAny (model Y.prog Y.w) Y.A (pyIter x) (fun i2 s6=>codeAny (model Y.prog Y.w) Y.A (.compStart (lc2 w l iter1 f E c A scope pos) 1 i2 (.ref D) Y.env) (fun r I=>match r with | .ok _=>∃m,m<n/\LcJ Y D tn C [] σ4 W m I | .error _=>False) s6) (fun _ _=>False) s5) (fun _ _=>False) s4
      else ∃m,m<n/\LcJ Y D tn C [] σ4 W m s4) (fun _ _=>False) s3) (fun _ _=>False) s2) (fun _ _=>False) s1) (fun _ _=>False) s5:=by
 have af:=hg;have ae:=hf;have ag:=bc
 unfold PG at af;unfold PF at ae;unfold PI at ag
 rw[hx] at af ae ag;obtain⟨i,ys,ah,H5,z5,I5,as,ao,az,ap,aj,w5⟩:=j;have an:=I5.pinned (fp:=[D]) (fun b hb=>by rw[zY.mp hb];exact fB D jz _ az) (fun b hb=>by rw[zY.mp hb];exact⟨_,ap,fun v q=>nomatch q⟩)
 have mD:(D,({ cls:=.type "list",data:=.seq ah.toArray z5 }:Obj))∈[]++qC [D] s5.heap:=qB _ (qZ (zY.mpr rfl) ap);have ac:∀{s:Hp},(∀b∈C,s b=none)->∀b∈C,jX Y ([]++qC [D] s5.heap) s b:=fun hn b hb=>by
  obtain⟨a1,a2,a3,a4,a5,a6⟩:=fB b (jn _ hb) _ (hn b hb);refine⟨a1,a2,a3,a4,a5,fun p hp=>?_⟩
  rcases qo.mp hp with q | q
  ·exact a6 p (jA _ q)
  ·rw[zY.mp (x8 ((qo.mp q).resolve_left (by simp))).1];exact nD b hb
 rcases au i n ys H5 w5 with ⟨stop,q⟩ | ⟨go,N2,hN,step⟩
 ·refine thn (T.done Y rfl rfl rfl hc i _ s5 _ H5 _ an (ac ao) as stop) fun r s6 ⟨hr,I6⟩=>?_
  subst hr;obtain⟨o6,bf,_⟩:=I6.pin (D,_) (qB _ mD);exact⟨ys,ah,H5,z5,I6.unpinned,bf,o6,aj,q⟩
 ·refine thn (T.item Y rfl rfl rfl hc i _ s5 _ H5 _ an (ac ao) as go) fun r s6 ⟨u,hr,h6⟩=>?_
  subst hr;refine thn h6 fun _ I ⟨x,H7,I7,r7,y7,ak,ax⟩=>?_
  refine thn (af _ I _ H7 x u _ (I7.pinned (ac ax) (T.obj _ _ ak)) r7 (step x H7 y7)) fun _ s8 ⟨σ8,H8,I8,b0,q8⟩=>?_
  refine thn (ae _ s8 σ8 H8 _ I8 q8) fun ok s9 ⟨H9,I9,q9⟩=>?_
  have ai:=jA (qC C I.heap) mD;have kp:∀{P:List (Addr×Obj)} {s:Hp} {s':Shared},Inv Y P σ8 s s'->(∀p∈qC C I.heap,p∈P)->Inv Y [] σ4 s s'/\tn (i+1) s'.heap/\∀b∈C,s b=none:=fun {P s s'} J hP=>
   ⟨bk _ _ _ (J.pins_of fun p hp=>absurd hp (by simp)) b0,T.keep _ _ _ ak fun b hb o e=>(J.pin (b,o) (qB _ (hP _ (qZ hb e)))).1,fun b hb=>by
    obtain⟨o,e,_⟩:=T.obj _ _ ak b hb;exact(J.pin (b,o) (qB _ (hP _ (qZ hb e)))).2.1⟩
  cases ok with
  | false=>
   obtain⟨m',hm,w'⟩:=hN _ _ (show N2 ys H9 by simpa using q9)
   obtain⟨o9,bg,_⟩:=I9.pin (D,_) (qB _ ai);obtain⟨k1,k2,k3⟩:=kp I9 fun p hp=>qB _ hp
   exact⟨m',hm,i+1,ys,ah,H9,z5,k1,k2,k3,bg,o9,aj,w'⟩
  | true=>
   refine thn (ag _ s9 σ8 H9 _ I9 (show tIn M g L G ys N2 σ8 H9 by simpa using q9)) fun xv bo ay=>thn ay fun bn bj ⟨bd,aw,bp,J2,bm,ei,aa,T2,a0,ab,W2,⟨m2,w2⟩,al⟩=>?_
   subst ei;obtain⟨bh,ar,_⟩:=aa.pin (D,_) (qB _ ai);have av:∀b∈aw,∀s:Hp,s b=none->jX Y (qC C I.heap) s b:=fun b hb s hn=>by
    obtain⟨_,a2,a3,a4,a5,a6⟩:=ab b hb;exact⟨hn,a2,a3,a4,a5,fun p hp=>a6 p ((qo.mp hp).elim (fun q=>jA _ q) fun q=>qB _ (qB _ q))⟩
   have fD:∀s:Hp,s D=none->jX Y (qC C I.heap) s D:=fun s hn=>by
    obtain⟨a1,a2,a3,a4,a5,a6⟩:=fB D jz _ hn;refine⟨a1,a2,a3,a4,a5,fun p hp=>?_⟩
    rcases qo.mp hp with q | q
    ·exact a6 p (jA _ q)
    ·exact qu (nD _ (x8 q).1)
   have H:codeAny (model Y.prog Y.w) Y.A (.compLoop (lc2 w l iter1 f E c A scope pos) 1 (.ref bd) (.ref D) Y.env) (fun r I=>match r with
     | .ok _=>∃m,m<n/\LcJ Y D tn C [] σ4 W m I
     | .error _=>False) bj:=by
    refine zdW (N:=N2) hc hx bb ba he T2 fD av (fun b hb=>(ab b hb).2.2.2.2.2 (D,_) (qB _ ai)) (aa.pins_of fun p hp=>aa.pin p (qB _ (qB _ hp))) a0 (fun b hb=>(ab b hb).1) ar bh aj w2 al fun s' h'=>?_
    obtain⟨Q,aq,s,z',I',be,o',bi,q'⟩:=h';obtain⟨m',hm,w'⟩:=hN _ _ q';obtain⟨k1,k2,k3⟩:=kp I' fun p hp=>hp
    exact⟨m',hm,i+1,Q,aq,s,z',k1,k2,k3,be,o',bi,w'⟩
   exact vU H (T2.self Y.A 0 _ _ _ a0 H)
theorem zcy{C D it:Addr}{fp:List Addr}{tn:Nat->Heap->Prop}{J:It}{W:Nat->Nat->List V->Hp->Prop}{H2:Hp}{s3 s4:Shared}{m0 n:Nat}{R:Result->Shared->Prop}{js:List Nat}{σ:St}{e:List Str}{N:List V->Hp->Prop}(hc:X.calm=true)
  (hg:∀C s H Q,PG (zH X e scope C s H Q) l O) (hf:∀C s H Q,PF (zH X e scope C s H Q) f B) (ag:∀C s H Q,PI (zH X e scope C s H Q) E c M) (af:∀C s H Q,PG (zH X e scope C s H Q) E g) (ae:∀C s H Q,PF (zH X e scope C s H Q) A L) (he:∀C s H Q,PE (zH X e scope C s H Q) w G)
  (ah:∀C x,foldedSetIterable c (compEnvC scope (jw X.env.cells scope.names []) C X.env) x=pure x) (ac:∀b∈D::fp,∀H':Hp,H' b=none->jX (zH X e scope C s3 H2 (D::fp)) [] H' b) (fD:∀b∈fp,D≠b) (T:yw X.prog X.w X.K l J fp it tn)
  (aa:∀i m zs H7,W i m zs H7->(J.stop i H7/\N zs H7)\/(J.go i H7/\∃N2:List V->Hp->Prop,(∀zs H',N2 zs H'->∃m',m'<m/\W (i+1) m' zs H')/\∀x H8,J.yld i H7 x H8->O x (upS n js σ) H8 fun σ9 H9=>σ9.drop n=(upS n js σ).drop n/\B σ9 H9 fun b a0=>
    if b=true then tIn M g L G zs N2 σ9 a0 else N2 zs a0))
  (j:LcJ (zH X e scope C s3 H2 (D::fp)) D tn fp [] (upS n js σ) W m0 s4) (ab:∀s6,LcE (zH X e scope C s3 H2 (D::fp)) D [] (upS n js σ) N s6->R (.ok .next) s6) :
  codeAny (model X.prog X.w) X.A (.compLoop (lc2 w l iter1 f E c A scope pos) 0 (.ref it) (.ref D) (compEnvC scope (jw X.env.cells scope.names []) C X.env)) R s4:=by
 have hl:=(let ⟨_,_,_,_,_,I,_,_,_,_,_,_⟩:=j;I.len:(upS n js σ).length=e.length)
 refine zd8 (ah C) (LcJ (zH X e scope C s3 H2 (D::fp)) D tn fp [] (upS n js σ) W) (fun k s5 j=>qg (zcx (iter1:=iter1) (scope:=scope) (pos:=pos) (Y:=zH X e scope C s3 H2 (D::fp)) hc rfl (hg _ _ _ _) (hf _ _ _ _) (ag _ _ _ _) (af _ _ _ _) (ae _ _ _ _) (he _ _ _ _) T ac fD (fun σ9 H' s' J hd=>Xx hl J hd) aa j) (fun r s6 h6=>?_) fun _ _ q=>q) m0 j
 cases r with
 | some v=>exact h6
 | none=>exact ab s6 h6
theorem zb3(own Y:List Str)(js:List Nat)(hc:X.calm=true)(hk:scope.kind=.function)(hb:yk scope.names X.env.scope.names X.N Y js=true)(hi:PI X l iter1 U)
  (hg:∀C s H N,PG (zH X (own++Y) scope C s H N) l O) (hf:∀C s H N,PF (zH X (own++Y) scope C s H N) f B)
  (ac:∀C s H N,PI (zH X (own++Y) scope C s H N) E c M) (ab:∀C s H N,PG (zH X (own++Y) scope C s H N) E g) (aa:∀C s H N,PF (zH X (own++Y) scope C s H N) A L) (he:∀C s H N,PE (zH X (own++Y) scope C s H N) w G)
  (hs:∀x,foldedSetIterable iter1 X.env x=pure x:=by intro _;rfl) (ae:∀C x,foldedSetIterable c (compEnvC scope (jw X.env.cells scope.names []) C X.env) x=pure x:=by intro _ _;rfl):PE X (lc2 w l iter1 f E c A scope pos) (zeV U own.length js O B M g L G):=by
 intro ag s σ H Q I h;rw[eval_ListComp];exact zcQ own Y js hk hb hi hs I h (fun C D it fp tn J W H2 s3 s4 m0 R a b T tl j a0=>zcy hc hg hf ac ab aa he ae a b T tl j a0) fun s6 D C H6 m hn all _ q=>⟨m,hn,fun h7 af=>⟨.ref D,H6,all h7 fun b o hb e=>af.extBut b o hb e,rfl,q⟩⟩
end
section
variable{X:Cx}
inductive Zn(K:W.Frag)(e:List V)(H:Hp)(Q:VK):Prop
 | mk (p:Addr) (c:List Bool) (_:e=[.ref p]) (_:SqL K H p (c.map V.bl)) (_:Q (.bl (c.any id)) H):Zn K e H Q
theorem zaS(hc:X.calm=true):CallR X (.builtin "any") (Zn X.K):=by
 intro M s σ H xs us Q I r h;obtain⟨p,c,rfl,hq,q⟩:=h;obtain⟨u,rfl,G⟩:=vJ r;cases G;obtain⟨f,J,pl,hz⟩:=I.list hq;have D:=pl.isList;have E:p≠s.heap.objs.size:=by
  obtain⟨o,e,_⟩:=D;exact qw (zP e)
 refine call_any_walk (wpAny_pyIter_list D ?_)
 refine⟨s.heap.objs.size,_,_,_,_,_,fun i=>c.getD i false,rfl,Walks.list (prog:=X.prog) (w:=X.w) (A:=X.A.in1) (I.ok.hd hc) _ p E f.toArray,⟨⟨_,qk _ rfl,rfl,rfl⟩,D.push _⟩,?_,fun Y tk hk=>?_⟩
 ·intro i v s' O E' C hQ
  have C:f.toArray[i]? =some v:=C;have e1:f[i]? =some v:=by simpa using C
  have g:i<c.length:=by
   have h1:=(zK.mp e1).1;have h2:=J.length;rw[zp] at h2;omega
  have e2:(c.map V.bl)[i]? =some (.bl c[i]):=by simp[g]
  obtain⟨u',L,G⟩:=J.get e2;rw[e1] at L;cases L;cases G;have T:c.getD i false=c[i]:=by simp[g]
  have l:O (c.getD i false) s':=hQ;rw[T] at l;exact v0 l
 ·have k:∀b o,s.heap.get? b=some o->Y.get? b=some o:=fun b o e=>hk b o (by simp;exact qw (zP e)) (qr _ e)
  have U:(List.range f.toArray.size).any (fun i=>c.getD i false)=c.any id:=by
   have B:f.toArray.size=c.length:=by
    have:=J.length;rw[zp] at this;simp only[zX];omega
   rw[B,Zf,Qk,Qk];constructor
   ·rintro⟨i,g,e⟩
    have g:=xD.mp g;exact⟨c[i],vZ g,by simpa [g] using e⟩
   ·rintro⟨b,hb,e⟩
    obtain⟨i,g,rfl⟩:=Ju.mp hb;exact⟨i,xD.mpr g,by simpa [g] using e⟩
  exact⟨.bl (c.any id),H,I.kept k,by rw[U];rfl,q⟩
theorem zcT:bootBuiltins "any" = some (.builtin "any"):=by decide +kernel
theorem ZZ:∀{e:List Int} {c:List Value},Vals (e.map V.int) c->IntsAre c e
 | [],c,h=>by cases h;exact .nil
 | n::e,c,h=>by
  cases h with
  | cons r q=>
   obtain⟨t,rfl⟩:=r;exact .cons n t (ZZ q)
theorem Zb{k:Int}:∀{e:List Int} {c:List Value},Vals (e.map V.int) c->c.countP (isInt k)=e.count k
 | [],c,h=>by cases h;rfl
 | n::e,c,h=>by
  cases h with
  | cons r q=>
   obtain⟨t,rfl⟩:=r;rw[List.countP_cons,Qi,Zb q];rfl
inductive Yn(x:V)(e:List V)(H:Hp)(Q:VK):Prop
 | mk (l:Addr) (c:List Int) (k:Int) (_:x=.ref l) (_:e=[.int k]) (_:H l=some (.lst (c.map V.int))) (_:Q (.int (c.count k)) H):Yn  x e H Q
theorem Ja:MtM X "list.count" Yn:=by
 intro f s σ H x G v E Q I C B h;obtain⟨l,w,k,rfl,rfl,g,q⟩:=h;cases C;obtain⟨u,rfl,A⟩:=B.one;obtain⟨t,rfl⟩:=A;obtain⟨z,c,n,r,D,e⟩:=I.lstM g;refine call_meets F.slot_list_count ⟨_,e,rfl⟩ F.entry_list_count (F.args_list_count_2 _ _) (MeetsSeq.list_count l c.toArray n (.int k t) (isInt k) (fun y hy=>eq_isInt k t (ZZ r) y (by simpa using hy))) ⟨e,?_⟩
 refine⟨.int (w.count k),H,I.tok _,⟨s.toks,?_⟩,q⟩
 show Value.int ((c.toArray.toList.countP (isInt k):Nat):Int) s.toks=_;rw[show c.toArray.toList=c by simp,Zb r]
theorem Jj{α β:Type}(f:α->β):∀(l:List α) (i:Nat),(l.eraseIdx i).map f=(l.map f).eraseIdx i
 | [],_=>rfl
 | _::_,0=>rfl
 | a::r,i+1=>by
  show f a::(r.eraseIdx i).map f=f a::(r.map f).eraseIdx i;rw[Jj f r i]
inductive XY(x:V)(e:List V)(H:Hp)(Q:VK):Prop
 | mk (l:Addr) (c:List Int) (k:Int) (_:x=.ref l) (_:e=[.int k]) (_:H l=some (.lst (c.map V.int))) (_:k∈c) (_:Q .non (upd H l (.lst ((c.erase k).map V.int)))):XY  x e H Q
theorem VU:MtM X "list.remove" XY:=by
 intro G s σ H x vs v us Q I T O h;obtain⟨l,c,k,rfl,rfl,C,hk,q⟩:=h;cases T;obtain⟨u,rfl,A⟩:=O.one;obtain⟨t,rfl⟩:=A;obtain⟨z,f,n,r,M,e⟩:=I.lstM C;rw[zp] at M z;have U:c.idxOf k<c.length:=WC hk;have g:∀i (D:i<f.length),isInt k f[i]=(c[i]'(by omega)==k):=fun i D=>by
  have e2:(c.map V.int)[i]? =some (.int (c[i]'(by omega))):=by simp[show i<c.length by omega]
  obtain⟨u',B,A⟩:=r.get e2;rw[qP D] at B;cases B;obtain⟨Y,J⟩:=A;rw[J];rfl
 refine call_meets F.slot_list_remove ⟨_,e,rfl⟩ F.entry_list_remove (F.args_list_remove_2 _ _) (MeetsSeq.list_remove l f.toArray n (.int k t) (isInt k) (fun y hy=>eq_isInt k t (ZZ r) y (by simpa using hy)) (c.idxOf k) (by simp;omega) ?_ ?_ (by simp;omega)) ⟨e,?_⟩
 ·rw[List.getElem_toArray,g _ (by omega)]
  simp
 ·intro m N w
  rw[List.getElem_toArray,g _ (by simpa using N)]
  have:=List.not_of_lt_findIdx (p:=(·==k)) (xs:=c) (i:=m) (by exact w)
  simpa using this
 refine⟨.non,_,I.lset (its':=f.eraseIdx (c.idxOf k)) C e ?_ ?_ ?_,rfl,q⟩
 ·apply Array.toList_inj.mp
  simp[Array.toList_eraseIdxIfInBounds]
 ·have L:(c.erase k).map V.int=(c.map V.int).eraseIdx (c.idxOf k):=by rw[List.erase_eq_eraseIdx_of_idxOf rfl,Jj]
  rw[L];exact r.eraseIdx _
 ·rw[zp]
  exact jx (List.length_erase_le) z
end
theorem Vc{K:W.Frag}{a:Addr}{xs:List V}{g:TG}{J:TT}{I:TE}{A:St}{n:Nat}{R:List V->Hp->Prop}{H:Hp}(Pv:Nat->List V->Hp->Prop)(L:Pv 0 [] H)
  (M:∀i c H,Pv i c H->SqT K H a xs)
  (U:∀i x c H T,xs[i]? =some x->Pv i c H->H T=none->g (.ref T) A (upd H T (.tup [.int i,x])) fun l D=>l.drop n=A.drop n/\J l D fun b s=>
   if b=true then I l s fun v E=>c.length<sizeLine/\Pv (i+1) (c++[v]) E else Pv (i+1) c s)
  (Q:∀c H,Pv xs.length c H->c.length<=sizeLine/\R c H) :
  ∃W:Nat->Nat->List V->Hp->Prop,(∃m,W 0 m [] H)/\∀i m c f,W i m c f ->
   ((Vy K a).stop i f/\c.length<=sizeLine/\R c f) \/
   ((Vy K a).go i f/\∃N:List V->Hp->Prop,(∀c B,N c B->∃G,G<m/\W (i+1) G c B)/\∀x C,(Vy K a).yld i f x C->g x A C fun l D=>l.drop n=A.drop n/\J l D fun b s=>
    if b=true then I l s fun y E=>c.length<sizeLine/\N (c++[y]) E else N c s):=by
 refine⟨fun i m c f=>m=xs.length-i/\i<=xs.length/\Pv i c f,⟨_,rfl,qQ _,L⟩,?_⟩
 rintro i m c f ⟨rfl,hi,p⟩;have q:=M i c f p;by_cases w:i<xs.length
 ·refine .inr ⟨⟨xs,xs[i],q,by simp[w]⟩,Pv (i+1),fun a0 B Y=>⟨_,by omega,rfl,w,Y⟩,fun x C y=>?_⟩
  obtain⟨T,z,e1,O,e2,y⟩:=y;subst e1 e2;exact U i z c f T (y xs q) p O
 ·have e:i=xs.length:=by omega
  subst e;obtain⟨z1,z2⟩:=Q c f p;exact .inl ⟨⟨xs,q,zM _⟩,z1,z2⟩
theorem zcv{K:W.Frag}{a:Addr}{xs:List V}{g:TG}{J:TT}{I:TE}{A:St}{n:Nat}{R:List V->Hp->Prop}{H:Hp}(Pv:Nat->List V->Hp->Prop)(L:Pv 0 [] H)
  (M:∀i c H,Pv i c H->SqL K H a xs)
  (U:∀i x c H T,xs[i]? =some x->Pv i c H->H T=none->g (.ref T) A (upd H T (.tup [.int i,x])) fun l D=>l.drop n=A.drop n/\J l D fun b s=>
   if b=true then I l s fun v E=>c.length<sizeLine/\Pv (i+1) (c++[v]) E else Pv (i+1) c s)
  (Q:∀c H,Pv xs.length c H->c.length<=sizeLine/\R c H) :
  ∃W:Nat->Nat->List V->Hp->Prop,(∃m,W 0 m [] H)/\∀i m c f,W i m c f ->
   ((Ite K a).stop i f/\c.length<=sizeLine/\R c f) \/
   ((Ite K a).go i f/\∃N:List V->Hp->Prop,(∀c B,N c B->∃G,G<m/\W (i+1) G c B)/\∀x C,(Ite K a).yld i f x C->g x A C fun l D=>l.drop n=A.drop n/\J l D fun b s=>
    if b=true then I l s fun y E=>c.length<sizeLine/\N (c++[y]) E else N c s):=by
 refine⟨fun i m c f=>m=xs.length-i/\i<=xs.length/\Pv i c f,⟨_,rfl,qQ _,L⟩,?_⟩
 rintro i m c f ⟨rfl,hi,p⟩;have q:=M i c f p;by_cases w:i<xs.length
 ·refine .inr ⟨⟨xs,xs[i],q,by simp[w]⟩,Pv (i+1),fun a0 B Y=>⟨_,by omega,rfl,w,Y⟩,fun x C y=>?_⟩
  obtain⟨T,z,e1,O,e2,y⟩:=y;subst e1 e2;exact U i z c f T (y xs q) p O
 ·have e:i=xs.length:=by omega
  subst e;obtain⟨z1,z2⟩:=Q c f p;exact .inl ⟨⟨xs,q,zM _⟩,z1,z2⟩
theorem Vd{K:W.Frag}{a:Addr}{xs:List V}{g:TG}{L:TT}{M:TI}{G:TG}{A:TT}{J:TE}{B:St}{n:Nat}{R:List V->Hp->Prop}{H:Hp}(Pv:Nat->List V->Hp->Prop)(O:Pv 0 [] H)
  (Q:∀i c H,Pv i c H->SqL K H a xs)
  (U:∀i x c H,xs[i]? =some x->Pv i c H->g x B H fun l E=>l.drop n=B.drop n/\L l E fun b s=>
   if b=true then tIn M G A J c (Pv (i+1)) l s else Pv (i+1) c s)
  (T:∀c H,Pv xs.length c H->c.length<=sizeLine/\R c H) :
  ∃W:Nat->Nat->List V->Hp->Prop,(∃m,W 0 m [] H)/\∀i m c f,W i m c f ->
   ((Itl K a).stop i f/\c.length<=sizeLine/\R c f) \/
   ((Itl K a).go i f/\∃N:List V->Hp->Prop,(∀c C,N c C->∃I,I<m/\W (i+1) I c C)/\∀x D,(Itl K a).yld i f x D->g x B D fun l E=>l.drop n=B.drop n/\L l E fun b s=>
    if b=true then tIn M G A J c N l s else N c s):=by
 refine⟨fun i m c f=>m=xs.length-i/\i<=xs.length/\Pv i c f,⟨_,rfl,qQ _,O⟩,?_⟩
 rintro i m c f ⟨rfl,hi,p⟩;have q:=Q i c f p;by_cases w:i<xs.length
 ·refine .inr ⟨⟨xs,xs[i],q,by simp[w]⟩,Pv (i+1),fun a0 C Y=>⟨_,by omega,rfl,w,Y⟩,fun x D y=>?_⟩
  obtain⟨e,y⟩:=y;subst e;exact U i x c _ (y xs q) p
 ·have e:i=xs.length:=by omega
  subst e;obtain⟨z1,z2⟩:=T c f p;exact .inl ⟨⟨xs,q,zM _⟩,z1,z2⟩
theorem zcC{K:W.Frag}{a:Addr}{xs:List V}{g:TG}{L:TT}{J:TE}{A:St}{N:List V->Hp->Prop}{M:List V}{H:Hp}(Pv:Nat->List V->Hp->Prop)(O:Pv 0 M H)
  (Q:∀i c H,Pv i c H->SqT K H a xs)
  (U:∀i x c H,xs[i]? =some x->Pv i c H->g x A H fun l D=>Sub A l/\L l D fun b s=>
   if b=true then J l s fun v E=>c.length<sizeLine/\Pv (i+1) (c++[v]) E else Pv (i+1) c s)
  (T:∀c H,Pv xs.length c H->N c H) :
  ∃W:Nat->Nat->List V->Hp->Prop,(∃m,W 0 m M H)/\∀i m c f,W i m c f ->
   ((Itt K a).stop i f/\N c f) \/
   ((Itt K a).go i f/\∃G:List V->Hp->Prop,(∀c B,G c B->∃I,I<m/\W (i+1) I c B)/\∀x C,(Itt K a).yld i f x C->g x A C fun l D=>Sub A l/\L l D fun b s=>
    if b=true then J l s fun y E=>c.length<sizeLine/\G (c++[y]) E else G c s):=by
 refine⟨fun i m c f=>m=xs.length-i/\i<=xs.length/\Pv i c f,⟨_,rfl,qQ _,O⟩,?_⟩
 rintro i m c f ⟨rfl,hi,p⟩;have q:=Q i c f p;by_cases w:i<xs.length
 ·refine .inr ⟨⟨xs,xs[i],q,by simp[w]⟩,Pv (i+1),fun a0 B Y=>⟨_,by omega,rfl,w,Y⟩,fun x C y=>?_⟩
  obtain⟨e,y⟩:=y;subst e;exact U i x c _ (y xs q) p
 ·have e:i=xs.length:=by omega
  subst e;exact .inl ⟨⟨xs,q,zM _⟩,T c f p⟩
section
variable{X:Cx}{l e:Expr}{g:List Expr}{f:Expr}{w:List Expr}{c:Scope}{D:Pos}{O B:TI}{M A:TT}{L:TE}{x y z:Str}{G I J N T:Pos}{E Q:Nat}
theorem zds(Y:List Str)(js:List Nat)(hc:X.calm=true)(hk:c.kind=.function)(hb:x5 c.names X.env.scope.names X.N [x,y,z] Y js=true)(hi:PI X (.Tuple [.Name x G,.Name y I] E N) e B)
  (hf:∀C s H U,PF (zH X ([x,y,z]++Y) c C s H U) g A) (aa:∀C s H U,PI (zH X ([x,y,z]++Y) c C s H U) (.Name z J) f O) (a0:∀C s H U,PF (zH X ([x,y,z]++Y) c C s H U) w M) (he:∀C s H U,PE (zH X ([x,y,z]++Y) c C s H U) l L)
  (hs:∀x,foldedSetIterable e X.env x=pure x:=by intro _;rfl) (ab:∀C x,foldedSetIterable f (compEnvC c (jw X.env.cells c.names []) C X.env) x=pure x:=by intro _ _;rfl) :
  PE X (lc2 l (.Tuple [.Name x G,.Name y I] E N) e g (.Name z J) f w c D) (zeV B 3 js (QF X.K 2 (j8 (jG 0) (j8 (jG 1) JR))) A O (jG 2) M L):=by
 obtain⟨h1,h2,h3⟩:=jV hb;refine zb3 [x,y,z] Y js hc hk h1 hi (fun C s H U=>?_) hf aa (fun C s H U=>jf (h2 z (by simp)) h3 rfl) a0 he hs ab
 exact qF (X:=zH X ([x,y,z]++Y) c C s H U) hc (zr (jf (h2 x (by simp)) h3 rfl) (zr (jf (h2 y (by simp)) h3 rfl) qe))
end
section
variable{X:Cx}
theorem Yq{K:W.Frag}(h:X.K=K){f l:Expr}{c:TE}(e:PE X l c):PI X f l (zg6 K c):=by rw[<- h];exact jt e
def tLT(K:W.Frag)(t:TE):TT:=fun σ H Q=>t σ H fun x c=>∃a e,x=.ref a/\SqL K c a e/\Q (!e.isEmpty) c
theorem zdk{e:Expr}{t:TE}(h:PE X e t)(C:∀c,isTrue e X.env c=(do let v<-c;standAt e.pos;holding [v] (truthy v)):=by intro _;rfl):PT X e (tLT X.K t):=by
 intro f s σ H Q I E;refine isTrue_plain (thn (h f s σ H _ I E) fun v s1 ⟨x,A,g,M,L⟩=>?_) (C _)
 obtain⟨a,B,rfl,hq,q⟩:=L;cases(show v=_ from M)
 obtain⟨l,w,J,G⟩:=g.list hq;have D:=w.length;refine wpAny_truthy_list J.isList (by rw[zX,<- D];rw[sizeLine_eq] at G;omega) ?_
 have e:(!B.isEmpty)=(!l.toArray.isEmpty):=by
  cases B with
  | nil=>cases w;rfl
  | cons y N=>cases w;rfl
 first
  | exact⟨A,g.tok _,by rw[e] at q;simpa using q⟩
  | exact⟨A,g,by rw[e] at q;simpa using q⟩
end
section
variable{X:Cx}{s D c:Expr}{f:List Expr}{O l:Expr}{w:List Expr}{e:Scope}{B:Pos}{T G:TI}{g H:TG}{N C:TT}{M:TE}{x z:Str}{J L Q E:Pos}{I A:Nat}
end
def Jg:Nat->List Obj->PySem.W.Frag
 | _,[]=>[]
 | n,o::r=>match o.data with
  | .freed=>Jg (n+1) r
  | _=>(n,o)::Jg (n+1) r
def JS(h:Heap):PySem.W.Frag:=Jg 0 h.objs.toList
theorem Vl:∀{l:List Obj} {n a:Nat} {o:Obj},(Jg n l).lookup a=some o->n<=a/\l[a-n]? =some o/\o.data≠.freed
 | [],n,a,o,h=>by cases h
 | x::r,n,a,o,h=>by
  have c:(Jg (n+1) r).lookup a=some o->n<=a/\(x::r)[a-n]? =some o/\o.data≠.freed:=fun h=>by
   obtain⟨w,f,g⟩:=Vl h;refine⟨by omega,?_,g⟩
   rw[show a-n=(a-(n+1))+1 by omega];exact f
  unfold Jg at h;split at h
  ·exact c h
  ·rename_i s
   rw[xE] at h;split at h
   ·rename_i e
    cases h;have:=jM.mp e;subst this;exact⟨zM _,by simp,s⟩
   ·exact c h
theorem zaL(h:Heap):(JS h).In h:=fun a o e=>by
 obtain⟨_,f,l⟩:=Vl e;have f:h.objs[a]? =some o:=by simpa using f
 unfold Heap.get?;rw[f];obtain⟨c,d,g,s⟩:=o;cases g<;>first| rfl | exact absurd rfl l
inductive Fd(K:W.Frag)(c:Str)(st:Stmt):Prop
 | mk (f:Addr) (e:FuncData) (a:PySem.W.nsIn K mainGlobals c=some (some (.ref f))) (F:Fun K c c st f e):Fd K c st
def zg5:Value->Bool
 | .none=>true
 | _=>false
def JT(K:W.Frag)(e:Str):Option (Arguments×FuncBody×Scope×Bool):=match PySem.W.nsIn K mainGlobals e with
 | some (some (.ref f))=>(match K.lookup f with
  | some ⟨_,_,.func c,_⟩=>some (c.params,c.body,c.scope,c.name==e&&(c.qualname==e&&(c.globals==mainGlobals&&(c.closure.isEmpty&&(zg5 c.defaults&&(c.builtins==builtinsNs&&PySem.W.codeIn K c.code e))))))
  | _=>none)
 | _=>none
def YJ(st:Stmt):Option (Arguments×FuncBody×Scope×Bool):=some (yg st,.stmts (wx st),zq st,true)
theorem zhc{K:W.Frag}{H:Str}{st:Stmt}(e:JT K H=YJ st):Fd K H st:=by
 unfold JT YJ at e;split at e
 ·rename_i f L
  split at e
  ·rename_i c d J sl E
   simp only[Xd,Prod.mk.injEq,jW] at e;obtain⟨e1,e2,D,g,l,s,w,A,B,G⟩:=e;obtain⟨M,qn,pa,O,sc,U,T,C,Y,I,pm,N,Q,ct,bl⟩:=J;dsimp only at e1 e2 D g l s w A B G;have g:=jM.mp g;have l:=jM.mp l;have s:=jM.mp s;have w:=List.isEmpty_iff.mp w;have B:=jM.mp B;have A:C=.none:=by cases C<;>first| rfl | exact Bool.noConfusion A
   subst e1 e2 D g l s w A B;exact⟨f,_,L,⟨⟨_,_,_,_,_,_,_,_,_,rfl,E,G⟩,by unfold PySem.W.keepIn;dsimp only;rw[E]⟩⟩
  ·cases e
 ·cases e
theorem zfK{K:W.Frag}{l:List (Str×Stmt)}(e:l.map (fun x=>JT K x.1)=l.map fun x=>YJ x.2)(i:Nat){c:Str}{st:Stmt}(h:l[i]? =some (c,st)):Fd K c st:=by
 have:=congrArg (fun z=>z[i]?) e
 simp only[qv,h,wR,Xd] at this;exact zhc this
theorem zd7{K:W.Frag}{l:List Str}(e:l.map (fun x=>PySem.W.nsIn K mainGlobals x)=l.map fun _=>some none){x:Str}(i:Nat)(h:l[i]? =some x):PySem.W.nsIn K mainGlobals x=some none:=by
 have:=congrArg (fun z=>z[i]?) e
 simpa only[qv,h,wR,Xd] using this
def zdd:List Value->Option (List Str)
 | []=>some []
 | .str x _::r=>(zdd r).map (x:: ·)
 | _=>none
def VA(K:W.Frag)(e:Str):Option (List Str×Bool):=match PySem.W.nsIn K mainGlobals e with
 | some (some (.ref a))=>(match K.lookup a with
  | some ⟨.type t,_,.seq c _,_⟩=>(zdd c.toList).map fun l=>(l,t == "tuple" && decide (c.size<=1000))
  | _=>none)
 | _=>none
theorem QM:∀{c:List Value} {l:List Str},zdd c=some l->Vals (l.map V.str) c
 | [],l,h=>by cases h;exact .nil
 | v::r,l,h=>by
  cases v<;>first| (cases h;done) | skip
  simp only[zdd] at h;obtain⟨f,e,rfl⟩:=qJ.mp h;exact .cons ⟨_,rfl⟩ (QM e)
theorem zfW{K:W.Frag}{g:Str}{l:List Str}(e:VA K g=some (l,true)):∃a:Addr,PySem.W.nsIn K mainGlobals g=some (some (.ref a))/\∀H,SqT K H a (l.map V.str):=by
 unfold VA at e;split at e
 ·rename_i a A
  split at e
  ·rename_i t _ E n D B
   obtain⟨C,s,f⟩:=qJ.mp e;simp only[Prod.mk.injEq,jW,decide_eq_true_eq] at f;obtain⟨rfl,c,w⟩:=f;have c:=jM.mp c;subst c;exact⟨a,A,fun H=>.inr ⟨_,_,_,B,rfl,rfl,yP (zaq w),QM s⟩⟩
  ·cases e
 ·cases e
def zfy(e:List (Str×Stmt))(c:List Str)(f:List (Str×List Str))(K:W.Frag):List (Option (Arguments×FuncBody×Scope×Bool))×List (Option (Option Value))×List (Option (List Str×Bool)):=
 (e.map fun x=>JT K x.1,c.map fun x=>PySem.W.nsIn K mainGlobals x,f.map fun x=>VA K x.1)
def zfM(e:List (Str×Stmt))(c:List Str)(f:List (Str×List Str)):List (Option (Arguments×FuncBody×Scope×Bool))×List (Option (Option Value))×List (Option (List Str×Bool)):=
 (e.map fun x=>YJ x.2,c.map fun _=>some none,f.map fun x=>some (x.2,true))
def zfN(s:Stmt):Pos:=match s with
 | .FunctionDef _ _ _ _ _ _ _ _ _ p=>p
 | _=>⟨0,0,0,0⟩
def defRec(x:Str)(s:Stmt):DefRec:=⟨x,yg s,wx s,zq s,zfN s⟩
structure Tp(P:Program)(w:World)(K:W.Frag)(mg:Str->Option Value)(base h:Heap)(ds:List (Str×Stmt))(bs:List Str)(ts:List (Str×List Str)):Prop where
 x:K.In h
 g:h.Ns mainGlobals mg
 e:zfy ds bs ts K=zfM ds bs ts
section
variable{P:Program}{w:World}{K:W.Frag}{e:Str->Option Value}{c h:Heap}{g:List (Str×Stmt)}{s:List Str}{A:List (Str×List Str)}
theorem Tp.fd(Z:Tp P w K e c h g s A)(i:Nat){f:Str}{st:Stmt}(l:g[i]? =some (f,st)):Fd K f st:=zfK (congrArg Prod.fst Z.e) i l
theorem Tp.bl(Z:Tp P w K e c h g s A)(i:Nat){x:Str}(f:s[i]? =some x):e x=none:=PySem.W.mg_none_of Z.x Z.g (zd7 (congrArg (fun z=>z.2.1) Z.e) i f)
theorem Tp.tx(Z:Tp P w K e c h g s A)(i:Nat){x:Str}{l:List Str}(C:A[i]? =some (x,l)):∃a:Addr,e x=some (.ref a)/\∀H,SqT K H a (l.map V.str):=by
 have:=congrArg (fun z=>z.2.2[i]?) Z.e
 simp only[zfy,zfM,qv,C,wR,Xd] at this;obtain⟨a,f,B⟩:=zfW this;exact⟨a,PySem.W.mg_of Z.x Z.g f,B⟩
theorem Tp.dfn(Z:Tp P w K e c h g s A)(i:Nat){B:Str}{st:Stmt}{k:Nat}{C:List Str}{H:Sp}(J:g[i]? =some (B,st))
  (ok:∀f fd,Fun K B B st f fd->e B=some (.ref f)->Binds K fd C []->FnOk P w K e c CX0 k f fd C H)
  (hb:∀(kV G L:Value) (I:Option Addr) (E ct:Value) (D:List Value),D.length=C.length->bindArgs (PySem.W.fnOf B B (yg st) (wx st) (zq st) .none kV G L I E ct) ⟨D,[]⟩=pure (C.zip D):=by
   intro _ _ _ _ _ _ D l;first| (obtain⟨_,rfl⟩:=zg2 l;rfl) | (obtain⟨_,_,rfl⟩:=zg1 l;rfl) | (obtain⟨_,_,_,rfl⟩:=zg0 l;rfl) | (obtain⟨_,_,_,_,rfl⟩:=zgZ l;rfl) | (obtain⟨_,_,_,_,_,rfl⟩:=zgY l;rfl) | (obtain⟨_,_,_,_,_,_,rfl⟩:=zgX l;rfl) | (exact match D,l with | [],_=>rfl)) :
  Dfn P w K e c B k C H:=by
 obtain⟨f,fd,a,F⟩:=Z.fd i J;have b:=F.binds hb;have m:=PySem.W.mg_of Z.x Z.g a;exact⟨f,fd,ok f fd F m b,m,F.kp,b⟩
end
inductive Seen{β:Type}(f:PySem.W.Frag->β)(v:β)(w:World)(h:Heap):Prop
 | mk (K:W.Frag) (k:K.In h) (e:f K=v):Seen f v w h
theorem Seen.keeps{β:Type}{f:PySem.W.Frag->β}{v:β}(w:World)(h c:Heap)(s:Seen f v w h)(k:∀b o,h.get? b=some o->c.get? b=some o):Seen f v w c:=by
 obtain⟨K,x,e⟩:=s;exact⟨K,x.keeps k,e⟩
theorem walkS{l:PySem.W.OpenLaw}{n k:Nat}{q:Program}{B:List Str}{U:(Str->Option Value)->Heap->Prop}{β:Type}{f:PySem.W.Frag->β}{v:β}{d:DefRec}{sp:PySem.W.Frag->Sp}{x:Str}
  (hn:l.most=some n) (N:n<=sizeLine) (L:d.params.defaults=[]) (hr:Room k callerA)
  (F:∀(w:World) (C:Str->Option Value) (E:Addr) (K:W.Frag) (h:Heap),K.In h->f K=v->h.Ns mainGlobals C->C d.name=some (.ref E) ->
   ∃J:FuncData,(∀(s:Shared) (u:Value),BindsTo s J ⟨[u],[]⟩ [(x,u)]) /\
    ∀c:Heap,K.In c->c.Ns mainGlobals C->FnOk l.prog w K C c CX0 k E J [x] (sp K))
  (O:∀(K:W.Frag) (H:Hp) (a:Addr) (I:List Int),I.length<=n->zec H->SqL K H a (I.map V.int)->sp K [.ref a] H (fun v _=>v=.bl true) fun _ _ _=>False) :
  PySem.W.WalkO q B U (Seen f v) l.row.toRowW d [] (fun f T=>PySem.call f T):=by
 refine Att.attach_call hn L fun w s₀ s₁ C mb E o pm cd a0 a T I G Y ho hd aa M D A g hg=>?_
 obtain⟨K,Q,e⟩:=Y;obtain⟨J,hb,hF⟩:=F w C E K _ Q e G.T.g M;exact Vh Q G.T.g G.T.b G.T.builtins G.T.nolimit hg D A (jx g N) hr hF hb (fun H hO hS=>O K H a I g hO hS) fun H e s' z=>z
theorem ownHead{l:PySem.W.OpenLaw}{q:Program}{c:List Str}{β:Type}{f:PySem.W.Frag->β}{v:β}{d:DefRec}(N:Nat)
  (A:l.wellSaid=true)
  (left:∀w,(PySem.W.openEnds treeTable l.prog w N).map (fun s=>(PySem.W.openSeen q c (importedModules l.prog.main.body) (fun _=>true) true s,f (JS s.heap)))=some (PySem.W.openGood q c,v))
  (g:PySem.W.defOf q l.name=some (d,[])) (hp:l.prog.theDef l.name=some (d.params,d.body,d.scope)) (hk:PySem.W.kwWritten? d.params.kwonlyargs d.params.kw_defaults=some [])
  (ok:(PySem.W.chainsOk q&&PySem.W.opensWell l.prog&&(PySem.W.frees l.row.toRowW&&l.row.within.isEmpty))=true) (hb:l.prog.bare) (B:l.row.toRowW.promised)
  (call:PySem.W.WalkO q c (fun _ _=>True) (Seen f v) l.row.toRowW d [] fun f D=>PySem.call f D):l.Holds:=
 PySem.W.holds_law A fun C=>PySem.W.holds_open (r:=l.row) (Yf:=fun s=>f (JS s.heap)) (Ya:=fun _=>v) left (fun _ s e=>⟨_,zaL s.heap,e⟩) Seen.keeps (fun _ _=>trivial) (fun _ _ _ _ _=>trivial) g hp hk (fun _ _=>PySem.W.recFacts_nil rfl) (Bool.or_true _) C ok hb B call
def VS(o:Obj):Bool:=match o.cls,o.dict with
 | .type t,some _=>!(t == "tuple")
 | _,_=>true
def JD(K:W.Frag):Bool:=List.all K fun p=>VS p.2
def zgV(e:List (Str×Stmt))(c:List Str)(f:List (Str×List Str))(K:W.Frag):=(zfy e c f K,JD K)
def zhe(e:List (Str×Stmt))(c:List Str)(f:List (Str×List Str)):(List (Option (Arguments×FuncBody×Scope×Bool))×List (Option (Option Value))×List (Option (List Str×Bool)))×Bool:=(zfM e c f,true)
def topL(i:Nat):Stmt:=PySem.Challenge.pw_pickboard_k15_whole_plans_parted_and_joi.main.body.getD i (.Pass ⟨0,0,0,0⟩)
structure Blt(mg:Str->Option Value):Prop where
 abs:mg "abs" = none
 all:mg "all" = none
 any:mg "any" = none
 bool:mg "bool" = none
 dict:mg "dict" = none
 divmod:mg "divmod" = none
 enumerate:mg "enumerate" = none
 int:mg "int" = none
 isinstance:mg "isinstance" = none
 len:mg "len" = none
 list:mg "list" = none
 max:mg "max" = none
 min:mg "min" = none
 range:mg "range" = none
 set:mg "set" = none
 sorted:mg "sorted" = none
 str:mg "str" = none
 sum:mg "sum" = none
 tuple:mg "tuple" = none
 zip:mg "zip" = none
theorem vf:bootBuiltins "abs" = some (.builtin "abs"):=by decide +kernel
theorem Z7:bootBuiltins "max" = some (.builtin "max"):=by decide +kernel
theorem Vs:bootBuiltins "divmod" = some (.builtin "divmod"):=by decide +kernel
theorem yj:bootBuiltins "int" = some (.type "int"):=by decide +kernel
theorem vd:bootBuiltins "list" = some (.type "list"):=by decide +kernel
theorem jj:bootBuiltins "tuple" = some (.type "tuple"):=by decide +kernel
theorem zaU:bootBuiltins "bool" = some (.type "bool"):=by decide +kernel
theorem vX:bootBuiltins "sorted" = some (.builtin "sorted"):=by decide +kernel
theorem zaT:bootBuiltins "dict" = some (.type "dict"):=by decide +kernel
def xR(i:Int):Int:=if i<0 then -i else i
def zgu:Str:= "abcdefghijklmnopqrstuvwxyz"
def Va(c:Nat):Bool:=decide (97<=c)&&decide (c<=122)
theorem zcs:zgu.cps.toList=List.range' 97 26:=by decide +kernel
def V2:List (Str×Stmt):=[(("is_number":Str),topL 1),(("is_number_within":Str),topL 2),(("way_between":Str),topL 3),(("length_of":Str),topL 4),(("is_tuple_of":Str),topL 6),(("is_tuple_upto":Str),topL 7),(("turned":Str),topL 8),(("next_by":Str),topL 9),(("steps_from":Str),topL 10),(("all_from":Str),topL 11),(("ahead_of":Str),topL 12),(("behind_of":Str),topL 13),(("flaw_at_pick":Str),topL 15),(("flaw_at_lay":Str),topL 16),(("flaw_in_trip":Str),topL 17),(("flaw_of":Str),topL 18),(("is_pick":Str),topL 20),(("are_picks":Str),topL 21),(("are_lays":Str),topL 22),(("is_trip":Str),topL 23),(("stops_of":Str),topL 24),(("trip_way":Str),topL 25),(("plan_way":Str),topL 26),(("order_of":Str),topL 27),(("left_in":Str),topL 28),(("is_right":Str),topL 29),(("_law_box":Str),topL 31),(("_law_take":Str),topL 32),(("_law_folded":Str),topL 33),(("_law_spelled":Str),topL 34),(("_law_name":Str),topL 35),(("_law_names":Str),topL 36),(("_law_place":Str),topL 37),(("_law_places":Str),topL 38),(("_law_shuffled":Str),topL 39),(("_law_feeders":Str),topL 40),(("_law_aheads":Str),topL 41),(("_law_job":Str),topL 42),(("_law_order":Str),topL 43),(("_law_trip":Str),topL 44),(("_law_plan":Str),topL 45),(("_law_way":Str),topL 46),(("_law_without":Str),topL 47),(("_law_parted":Str),topL 48),(("_law_joined":Str),topL 49),(("_law_parts_right":Str),topL 50),(("_law_picks":Str),topL 51),(("_law_turned_right":Str),topL 52),(("_law_right":Str),topL 53),(("law":Str),topL 54)]
def zaV:List Str:=[("abs":Str),("all":Str),("any":Str),("bool":Str),("dict":Str),("divmod":Str),("enumerate":Str),("int":Str),("isinstance":Str),("len":Str),("list":Str),("max":Str),("min":Str),("range":Str),("set":Str),("sorted":Str),("str":Str),("sum":Str),("tuple":Str),("zip":Str)]
def zak:List (Str×List Str):=[]
def zgd:List Str:=V2.dropLast.map (·.1)++[("__name__":Str)]
def ze1:Program:={ PySem.Challenge.pw_pickboard_k15_whole_plans_parted_and_joi with main:={ PySem.Challenge.pw_pickboard_k15_whole_plans_parted_and_joi.main with body:=[topL 54] } }
theorem head1:PySem.Challenge.rw_pickboard_k15_whole_plans_parted_and_joi.wellSaid=true:=by kernel_rfl
theorem head2:∀w,(PySem.W.openEnds treeTable PySem.Challenge.pw_pickboard_k15_whole_plans_parted_and_joi w 9999).map (fun s=>(PySem.W.openSeen ze1 zgd (importedModules PySem.Challenge.pw_pickboard_k15_whole_plans_parted_and_joi.main.body) (fun _=>true) true s,zgV V2 zaV zak (JS s.heap)))=some (PySem.W.openGood ze1 zgd,zhe V2 zaV zak):=fun w=>by kernel_rfl
theorem head3:(PySem.W.chainsOk ze1&&PySem.W.opensWell PySem.Challenge.pw_pickboard_k15_whole_plans_parted_and_joi&&(PySem.W.frees PySem.Challenge.rw_pickboard_k15_whole_plans_parted_and_joi.row.toRowW&&PySem.Challenge.rw_pickboard_k15_whole_plans_parted_and_joi.row.within.isEmpty))=true:=by kernel_rfl
section
variable{κ:Type}[DecidableEq κ]
def qH(c:List (κ×V))(k:κ):Option V:=(c.find? fun e=>decide (e.1=k)).map (·.2)
def j4(c:List (κ×V))(k:κ)(v:V):List (κ×V):=
 if(c.any fun e=>decide (e.1=k))=true then c.map (fun e=>if e.1=k then(e.1,v) else e) else c++[(k,v)]
def zeM(c:List (κ×V))(k:κ):List (κ×V):=c.filter fun e=>decide (e.1≠k)
theorem qV{p:κ×V}{r:List (κ×V)}{k:κ}(e:p.1=k):qH (p::r) k=some p.2:=by simp[qH,wQ,e]
theorem qN{p:κ×V}{r:List (κ×V)}{k:κ}(e:¬p.1=k):qH (p::r) k=qH r k:=by simp[qH,wQ,e]
theorem vK(k:κ):∀c:List (κ×V),(c.any fun f=>decide (f.1=k))=(qH c k).isSome
 | []=>rfl
 | p::r=>by
  rw[yo];by_cases e:p.1=k
  ·simp only[qV e,je e,Bool.true_or,Option.isSome_some]
  ·rw[qN e,jN e,Qh];exact vK k r
theorem Xw(k j:κ)(y:V):∀c:List (κ×V),qH (c.map fun f=>if f.1=k then(f.1,y) else f) j=(qH c j).map fun x=>if j=k then y else x
 | []=>rfl
 | p::r=>by
  have g:=Xw k j y r;rw[qY];by_cases h:p.1=k
  ·rw[zC h]
   by_cases e:p.1=j
   ·rw[qV (p:=(p.1,y)) e,qV e,wR,zC (e.symm.trans h)]
   ·rw[qN (p:=(p.1,y)) e,qN e,g]
  ·rw[zv h]
   by_cases e:p.1=j
   ·rw[qV (p:=p) e,qV e,wR,zv (fun z=>h (e.trans z))]
   ·rw[qN (p:=p) e,qN e,g]
theorem QK(k j:κ)(y:V):∀c:List (κ×V),qH c k=none->qH (c++[(k,y)]) j=if j=k then some y else qH c j
 | [],_=>by
  by_cases e:k=j
  ·rw[zC e.symm];exact qV (p:=(k,y)) e
  ·rw[zv (fun z=>e z.symm)];exact qN (p:=(k,y)) e
 | p::r,f=>by
  rw[List.cons_append];have hk:¬p.1=k:=fun z=>by rw[qV z] at f;cases f
  rw[qN hk] at f;have g:=QK k j y r f;by_cases e:p.1=j
  ·rw[qV e,qV e,zv (fun z=>hk (e.trans z))]
  ·rw[qN e,qN e,g]
theorem wT(c:List (κ×V))(k j:κ)(y:V):qH (j4 c k y) j=if j=k then some y else qH c j:=by
 unfold j4;by_cases a:(c.any fun f=>decide (f.1=k))=true
 ·rw[zC a,Xw]
  rw[vK] at a;by_cases e:j=k
  ·obtain⟨x,hx⟩:=Option.isSome_iff_exists.mp a
   rw[zC e,e,hx,wR,zC rfl]
  ·rw[zv e]
   cases qH c j with
   | none=>rfl
   | some x=>rw[wR,zv e]
 ·rw[zv a]
  refine QK k j y c ?_
  rw[vK] at a;cases q:qH c k with
  | none=>rfl
  | some x=>rw[q] at a;exact(a rfl).elim
theorem xt(c:List (κ×V))(k:κ)(v:V):(j4 c k v).length<=c.length+1:=by
 unfold j4;split
 ·rw[zp];omega
 ·rw[zZ,xh,Qj];omega
theorem zbS{c:List (κ×V)}{k:κ}(v:V)(h:qH c k=none):j4 c k v=c++[(k,v)]:=by
 unfold j4;rw[vK,h];exact zv (by decide)
theorem RelO.isSome_eq{o:Option V}{u:Option Value}(r:RelO o u):o.isSome=u.isSome:=by
 cases o with
 | none=>cases u with
  | none=>rfl
  | some _=>exact(show False from r).elim
 | some _=>cases u with
  | none=>exact(show False from r).elim
  | some _=>rfl
theorem RelO.getD{o:Option V}{u:Option Value}{d:V}{c:Value}(r:RelO o u)(e:RelV d c):RelV (o.getD d) (u.getD c):=by
 cases o with
 | none=>cases u with
  | none=>exact e
  | some _=>exact(show False from r).elim
 | some _=>cases u with
  | none=>exact(show False from r).elim
  | some _=>exact r
theorem KV.val{c:List (κ×V)}{s:List (κ×Value)}(r:KV c s)(k:κ):RelO (qH c k) (valueAt s k):=by
 unfold KV at r;induction r with
 | nil=>exact True.intro
 | @cons p q B g h t A=>
  obtain⟨l,w⟩:=h;by_cases e:p.1=k
  ·have f:q.1=k:=l.symm.trans e
   have b:valueAt (q::g) k=some q.2:=by simp[valueAt,wQ,f]
   rw[qV e,b];exact w
  ·have f:¬q.1=k:=fun z=>e (l.trans z)
   have b:valueAt (q::g) k=valueAt g k:=by simp[valueAt,wQ,f]
   rw[qN e,b];exact A
theorem KV.any{c:List (κ×V)}{f:List (κ×Value)}(r:KV c f)(k:κ):(c.any fun e=>decide (e.1=k))=f.any fun e=>decide (e.1=k):=by
 unfold KV at r;induction r with
 | nil=>rfl
 | cons h t g=>rw[yo,yo,g,h.1]
theorem KV.repl{f:List (κ×V)}{l:List (κ×Value)}(r:KV f l)(k:κ){y:V}{u:Value}(A:RelV y u) :
  KV (f.map fun c=>if c.1=k then(c.1,y) else c) (l.map fun c=>if c.1=k then(c.1,u) else c):=by
 unfold KV at r ⊢;induction r with
 | nil=>exact .nil
 | @cons p q B C h t w=>
  rw[qY,qY];refine .cons ?_ w
  obtain⟨g,s⟩:=h;by_cases e:p.1=k
  ·rw[zC e,zC (g.symm.trans e)];exact⟨g,A⟩
  ·rw[zv e,zv (fun z=>e (g.trans z))];exact⟨g,s⟩
theorem KV.put{c:List (κ×V)}{f:List (κ×Value)}(r:KV c f)(k:κ){y:V}{u:Value}(g:RelV y u):KV (j4 c k y) (stored f k u):=by
 unfold j4 stored;rw[r.any k];by_cases e:(f.any fun l=>decide (l.1=k))=true
 ·rw[zC e,zC e];exact r.repl k g
 ·rw[zv e,zv e];exact Paired.snoc r ⟨rfl,g⟩
theorem KV.drop{c:List (κ×V)}{l:List (κ×Value)}(r:KV c l)(k:κ):KV (zeM c k) (without l k):=by
 unfold KV at r ⊢;unfold zeM without;induction r with
 | nil=>exact .nil
 | @cons p q A B h t g=>
  obtain⟨f,w⟩:=h;rw[Qa,Qa];by_cases e:p.1=k
  ·have a:¬decide (p.1≠k)=true:=by simp[e]
   have b:¬decide (q.1≠k)=true:=by simp[f.symm.trans e]
   rw[zv a,zv b];exact g
  ·have s:¬q.1=k:=fun z=>e (f.trans z)
   have a:decide (p.1≠k)=true:=by simp[e]
   have b:decide (q.1≠k)=true:=by simp[s]
   rw[zC a,zC b];exact .cons ⟨f,w⟩ g
theorem KV.keys{c:List (κ×V)}{e:List (κ×Value)}(r:KV c e):c.map (·.1)=e.map (·.1):=by
 unfold KV at r;induction r with
 | nil=>rfl
 | cons h t f=>rw[qY,qY,f,h.1]
theorem KV.length{c:List (κ×V)}{e:List (κ×Value)}(r:KV c e):c.length=e.length:=J7 r
end
theorem vS{P:Program}{w:World}{k:Key}{u:Value}(r:RelV (kV k) u):(zW P w).is k u=true:=by
 cases k with
 | inl i=>obtain⟨t,e⟩:=(show ∃t,u=Value.int i t from r);subst e;exact X6 P w i t
 | inr x=>obtain⟨t,e⟩:=(show ∃t,u=Value.str x t from r);subst e;exact X5 P w x t
theorem Jc{P:Program}{w:World}:∀{c:List Key} {e:List Value},Vals (c.map kV) e->ItemsAre (zW P w) c e
 | [],_,r=>by rw[Qf] at r;cases r;exact .nil
 | k::c,_,r=>by
  rw[qY] at r;cases r with
  | cons h t=>exact .cons (vS h) (Jc t)
abbrev KT(H:Hp):List (List Key×V)->List (List Key×Addr×Value)->Prop:=Paired fun p q=>p.1=q.1/\H q.2.1=some (.tup (p.1.map kV))/\RelV p.2 q.2.2
theorem KT.val{H:Hp}{c:List (List Key×V)}{s:List (List Key×Addr×Value)}(r:KT H c s)(k:List Key):RelO (qH c k) ((atKey s k).map (·.2)):=by
 induction r with
 | nil=>exact True.intro
 | @cons p q B g h t A=>
  obtain⟨l,_,w⟩:=h;by_cases e:p.1=k
  ·have f:q.1=k:=l.symm.trans e
   have b:atKey (q::g) k=some q.2:=by simp[atKey,wQ,f]
   rw[qV e,b];exact w
  ·have f:¬q.1=k:=fun z=>e (l.trans z)
   have b:atKey (q::g) k=atKey g k:=by simp[atKey,wQ,f]
   rw[qN e,b];exact A
theorem KT.repl{H:Hp}{c:List (List Key×V)}{s:List (List Key×Addr×Value)}(r:KT H c s)(k:List Key){y:V}{u:Value}(B:RelV y u) :
  KT H (c.map fun g=>if g.1=k then(g.1,y) else g) (s.map (putAt k u)):=by
 induction r with
 | nil=>exact .nil
 | @cons p q C D h t A=>
  rw[qY,qY];refine .cons ?_ A
  obtain⟨f,l,w⟩:=h;unfold putAt;by_cases e:p.1=k
  ·rw[zC e,zC (f.symm.trans e)];exact⟨f,l,B⟩
  ·rw[zv e,zv (fun z=>e (f.trans z))];exact⟨f,l,w⟩
theorem KT.put{H:Hp}{c:List (List Key×V)}{f:List (List Key×Addr×Value)}(r:KT H c f)(k:List Key){b:Addr}{y:V}{u:Value}(hb:H b=some (.tup (k.map kV)))(g:RelV y u) :
  KT H (j4 c k y) (storedH f k b u):=by
 have e:(c.any fun l=>decide (l.1=k))=(atKey f k).isSome:=by
  rw[vK,(r.val k).isSome_eq,Option.isSome_map]
 unfold j4 storedH;rw[e];by_cases q:(atKey f k).isSome=true
 ·rw[zC q,zC q];exact r.repl k g
 ·rw[zv q,zv q];exact Paired.snoc r ⟨rfl,hb,g⟩
theorem KT.keeps{H e:Hp}{c:List (List Key×V)}{f:List (List Key×Addr×Value)}(r:KT H c f)(l:∀b g,H b=some (.tup g)->e b=some (.tup g)):KT e c f:=
 Paired.mapP r fun _ _ z=>⟨z.1,l _ _ z.2.1,z.2.2⟩
section
variable{P:Program}{w:World}{H:Hp}{h:Heap}{a:Addr}
theorem zez{u:HO}(ok:HOk P w H h)(e:Rd H a u):ObjOk P w H h a u:=e.ok ok
theorem Jm{c:List (Key×V)}(ok:HOk P w H h)(e:Rd H a (.dK c)):c.length<=sizeLine/\(a==sysModules)=false/\∃f,KV c f/\h.DictOf (zW P w) a f:=
 show ObjOk P w H h a (.dK c) from zez ok e
theorem zcL{c:List (Key×V)}(ok:HOk P w H h)(e:H a=some (.dK c)):c.length<=sizeLine/\(a==sysModules)=false/\∃f,KV c f/\h.DictOf (zW P w) a f:=Jm ok (.inl e)
theorem ZU{f:List Key}(ok:HOk P w H h)(e:H a=some (.tup (f.map kV))):(tupleKind (zW P w)).is h f a:=by
 obtain⟨_,c,r,⟨o,g,l,n,s⟩,_⟩:=(show ObjOk P w H h a (.tup (f.map kV)) from ok a _ e)
 exact⟨o,c.toArray,n,g,l,s,by simpa using Jc r⟩
theorem Jl{c:List (List Key×V)}(ok:HOk P w H h)(e:Rd H a (.dT c)):c.length<=sizeLine/\(a==sysModules)=false /\
  ∃f,KT H c f/\h.DictOfH (tupleKind (zW P w)) a f:=by
 obtain⟨z,y,f,r,o,s,g,A,B,C,D,E⟩:=(show ObjOk P w H h a (.dT c) from zez ok e)
 refine⟨z,y,f,r,o,s,g,A,B,C,D,fun x hx=>?_,E⟩
 have all:∀{l:List (List Key×V)} {m:List (List Key×Addr×Value)},KT H l m->∀x∈m,(tupleKind (zW P w)).is h x.1 x.2.1:=by
  intro l m q;induction q with
  | nil=>intro x hx;exact nomatch hx
  | @cons p q I J hq t G=>
   intro x hx;rcases qm.mp hx with e | hx
   ·subst e
    exact ZU ok (by rw[<- hq.1];exact hq.2.1)
   ·exact G x hx
 exact all r x hx
theorem zhf{c:List (List Key×V)}(ok:HOk P w H h)(e:H a=some (.dT c)):c.length<=sizeLine/\(a==sysModules)=false /\
  ∃f,KT H c f/\h.DictOfH (tupleKind (zW P w)) a f:=Jl ok (.inl e)
end
def DGet(H:Hp)(a:Addr)(y:V)(r:Option V):Prop:=
 (∃c k,Rd H a (.dK c)/\y=kV k/\r=qH c k)\/∃c k b,Rd H a (.dT c)/\y=.ref b/\H b=some (.tup (k.map kV))/\r=qH c k
def DPut(H:Hp)(a:Addr)(y v:V)(e:Hp):Prop:=
 (∃c k,H a=some (.dK c)/\y=kV k/\c.length<sizeLine/\e=upd H a (.dK (j4 c k v))) \/
 ∃c k b,H a=some (.dT c)/\y=.ref b/\H b=some (.tup (k.map kV))/\c.length<sizeLine/\e=upd H a (.dT (j4 c k v))
theorem DGet.k{H:Hp}{a:Addr}{c:List (Key×V)}{k:Key}(e:H a=some (.dK c)):DGet H a (kV k) (qH c k):=.inl ⟨c,k,.inl e,rfl,rfl⟩
theorem DGet.t{H:Hp}{a b:Addr}{c:List (List Key×V)}{k:List Key}(e:H a=some (.dT c))(f:H b=some (.tup (k.map kV))):DGet H a (.ref b) (qH c k):=.inr ⟨c,k,b,.inl e,rfl,f,rfl⟩
theorem DPut.k{H:Hp}{a:Addr}{c:List (Key×V)}{k:Key}{v:V}(e:H a=some (.dK c))(f:c.length<sizeLine):DPut H a (kV k) v (upd H a (.dK (j4 c k v))):=.inl ⟨c,k,e,rfl,f,rfl⟩
theorem DPut.t{H:Hp}{a b:Addr}{c:List (List Key×V)}{k:List Key}{v:V}(e:H a=some (.dT c))(f:H b=some (.tup (k.map kV)))(g:c.length<sizeLine) :
  DPut H a (.ref b) v (upd H a (.dT (j4 c k v))):=.inr ⟨c,k,b,e,rfl,f,g,rfl⟩
section
variable{X:Cx}{f:List (Addr×Obj)}{σ:St}{H:Hp}{s:Shared}{a:Addr}{y v:V}{u r:Value}{o:Option V}{A:Around}{E:Value->Shared->Prop}
theorem Inv.big(I:Inv X f σ H s):sysModules<s.heap.objs.size:=by
 have h:mainGlobals<s.heap.objs.size:=(I.mod.glob.keeps I.bk).lt;exact Nat.lt_trans (by decide) h
theorem zaN{Q:Value->Shared->Prop}(hu:A.units+1<cLine)(I:Inv X f σ H s)(g:DGet H a y (some v))(M:RelV y u)(h:∀B N,Inv X f σ H N->RelV v B->Q B N) :
  wpAny (model X.prog X.w) A (getItem (.ref a) u) Q E s:=by
 rcases g with ⟨L,k,e,D,l⟩ | ⟨L,k,b,e,D,O,l⟩
 ·subst D
  obtain⟨z,T,U,c,C⟩:=Jm I.hok e;obtain⟨B,J,w⟩:=RelO.some_of (v:=v) (o:=valueAt U k) (by rw[l];exact c.val k)
  exact wpAny_getItem_of (vS M) C.mapOf J (h B _ (I.tok _) w)
 ·subst D
  cases(show u=Value.ref b from M)
  obtain⟨z,T,Y,c,C⟩:=Jl I.hok e;obtain⟨B,J,w⟩:=RelO.some_of (v:=v) (o:=(atKey Y k).map (·.2)) (by rw[l];exact c.val k)
  obtain⟨p,hp,G⟩:=qJ.mp J;refine wpAny_getItem_heap (tupleKind_room_in1 hu) (ZU I.hok O) C hp ?_
  rw[G];exact h B _ (I.tok _) w
theorem zd3{Q:Value->Shared->Prop}(hu:A.units+1<cLine)(I:Inv X f σ H s)(g:DGet H a y o)(G:RelV y u)(h:∀J,Inv X f σ H J->Q (.bool (!o.isSome)) J) :
  wpAny (model X.prog X.w) A (compareOp .NotIn u (.ref a)) Q E s:=by
 rcases g with ⟨D,k,e,B,l⟩ | ⟨D,k,b,e,B,L,l⟩
 ·subst B
  obtain⟨z,C,M,c,w⟩:=Jm I.hok e;refine wpAny_notIn_of (vS G) C w.mapOf ?_
  rw[<- (c.val k).isSome_eq,<- l];exact h _ (I.tok _)
 ·subst B
  cases(show u=Value.ref b from G)
  obtain⟨z,C,N,c,w⟩:=Jl I.hok e;refine wpAny_notIn_heap (tupleKind_room_in1 hu) (ZU I.hok L) C w ?_
  have q:=(c.val k).isSome_eq;rw[Option.isSome_map] at q;rw[<- q,<- l];exact h _ (I.tok _)
theorem Zz{c:Heap}{D:Nat}{l:HO}(I:Inv X f σ H s)(C:Mut (H a))(B:Heap.SameBut a s.heap c)(w:∃q,c.get? a=some q)(g:ObjOk X.prog X.w (upd H a l) c a l) :
  Inv X f σ (upd H a l) { s with heap:=c,toks:=D }:=
 I.write (x:=a) (e:=a) C (.inl rfl) (fun b q hb z=>(B.2 b hb).trans z) w g
theorem JX{P:Program}{w:World}{B:Hp}{l:Heap}{c:List (Key×V)}{g:List (Key×Value)}(z:c.length<=sizeLine)(D:(a==sysModules)=false)(e:KV c g)(C:l.DictOf (zW P w) a g) :
  ObjOk P w B l a (.dK c):=⟨z,D,g,e,C⟩
theorem zaM{U:Hp}{Q:Unit->Shared->Prop}(hu:A.units+1<cLine)(I:Inv X f σ H s)(g:DPut H a y v U)(ry:RelV y u)(rv:RelV v r)(h:∀s',Inv X f σ U s'->Q () s') :
  wpAny (model X.prog X.w) A (setItem (.ref a) u r) Q E s:=by
 rcases g with ⟨w,k,e,J,l,G⟩ | ⟨w,k,b,e,J,Y,l,G⟩
 ·subst J G
  obtain⟨z,L,vs,B,D⟩:=zcL I.hok e;have T:vs.length<=sizeLine:=by rw[<- B.length];exact z
  have M:(j4 w k v).length<=sizeLine:=by have:=xt w k v;omega
  refine wpAny_setItem_pairs (hsz:=T) (vS ry) D fun h' C N=>h _ ?_
  have he:∃q,h'.get? a=some q:=let ⟨q,_,_,hq,_⟩:=C;⟨q,hq⟩
  exact Zz I (by rw[e];exact True.intro) N he (JX M L (B.put k rv) C)
 ·subst J G
  cases(show u=Value.ref b from ry)
  obtain⟨z,L,xs,B,D⟩:=zhf I.hok e;have T:xs.length<=sizeLine:=by rw[<- J7 B];exact z
  have M:(j4 w k v).length<=sizeLine:=by have:=xt w k v;omega
  refine wpAny_setItem_heap (hsz:=T) (tupleKind_room_in1 hu) (ZU I.hok Y) D fun h' C N=>h _ ?_
  obtain⟨q,es,ep,hq,h2,h3,h4,_,h5⟩:=C;refine Zz I (by rw[e];exact True.intro) N ⟨q,hq⟩ ⟨M,L,_,(B.put k Y rv).keeps fun c ys ec=>?_,q,es,ep,hq,h2,h3,h4,h5⟩
  rw[zm (Yx ec e (fun z=>nomatch z))]
  exact ec
end
section
variable{X:Cx}{c:List (Addr×Obj)}{σ:St}{H:Hp}{s:Shared}{a:Addr}{e:List (Key×V)}{k:Key}{u:Value}{A:Around}{E:Value->Shared->Prop}
end
def zhm(i:Expr):Prop:=∀e c,subscripted i false e c=operate [e,c] (getItem e c)
theorem zdi{c:Program}{w:World}{A:Around}{E:Value->Shared->Prop}{s:Shared}{g:Env}{f e:Expr}{D:Pos}{T id:String}{Q:Value->Shared->Prop}
  (J:typeLookup (.type T) "__getitem__" = pure (some (.builtin id))) (L:zhm e)
  (h:wpAny (model c w) A (eval f g) (fun o H=>wpAny (model c w) A (eval e g) (fun i B=>B.TypeIs o T/\wpAny (model c w) A (getItem o i) Q E B) E H) E s) :
  wpAny (model c w) A (eval (.Subscript f e D) g) Q E s:=by
 refine Subscript_ (qg h (fun o H M=>qg M (fun i B C=>?_) fun _ _ x=>x) fun _ _ x=>x)
 obtain⟨G,C⟩:=C;unfold subscriptTail;refine zi ?_
 rw[getitemInPython_of_ne G.not_modules];refine zi (wpAny_specialOf G J ?_)
 have l:wpAny (model c w) A (subscripted e false o i) (fun r I=>wpAny (model c w) A (letTemporaryGo f o r >>= fun _=>pure r) Q E I) E B:=by
  rw[L o i];exact wpAny_operating (qg C (fun r I N=>zi (wpAny_letTemporaryGo (zE N))) fun _ _ x=>x)
 first
  | exact zE (zi l)
  | exact zi (zE (zi l))
  | exact zi l
theorem Vo{X:Cx}{c:List (Addr×Obj)}{σ:St}{H:Hp}{s:Shared}{a:Addr}{y:V}{o:Option V}(I:Inv X c σ H s)(g:DGet H a y o):s.TypeIs (.ref a) "dict" :=by
 rcases g with ⟨l,k,e,_,_⟩ | ⟨l,k,b,e,_,_,_⟩
 ·obtain⟨_,_,w,_,f⟩:=Jm I.hok e
  exact f.typeIs
 ·obtain⟨_,_,A,_,f⟩:=Jl I.hok e
  exact f.typeIs
def zf4(f ty:TE):TE:=fun σ H Q=>f σ H fun x e=>ty σ e fun y c=>∃a v,x=.ref a/\DGet c a y (some v)/\Q v c
def zdg(ty f:TE):TE:=fun σ H Q=>ty σ H fun y e=>f σ e fun x c=>∃a o,x=.ref a/\DGet c a y o/\Q (.bl (!o.isSome)) c
def zgv(l ty s:TE):TS:=fun D σ H=>s σ H fun v e=>l σ e fun x f=>ty σ f fun y g=>∃a c,x=.ref a/\DPut g a y v c/\D.nx σ c
section
variable{X:Cx}{o i e c:Expr}{l f A:Pos}{w ty B:TE}
theorem Yr(hu:X.A.units+1<cLine)(T:PE X o w)(O:PE X i ty)(U:zhm i):PE X (.Subscript o i l) (zf4 w ty):=by
 intro C s σ H Q I h;refine zdi PySem.F.slot_dict_getitem.lookup U (thn (T C s σ H _ I h) fun u s1 ⟨x,G,L,rx,Y⟩=>thn (O C s1 σ G _ L Y) fun iv s2 ⟨y,J,E,ry,a,v,N,g,q2⟩=>?_)
 subst N;obtain rfl:u=Value.ref a:=rx;exact⟨Vo E g,zaN hu E g ry fun w' s3 M D=>⟨v,J,M,D,q2⟩⟩
theorem zav(hu:X.A.units+1<cLine)(N:PE X i ty)(O:PE X o w):PC X .NotIn i o (zdg ty w):=by
 intro C s σ H Q I h;refine thn (N C s σ H _ I h) fun iv s1 ⟨y,D,G,ry,U⟩=>thn (O C s1 σ D _ G U) fun u s2 ⟨x,E,J,rx,a,T,M,g,Y⟩=>?_
 subst M;obtain rfl:u=Value.ref a:=rx;exact zd3 hu J g ry fun s3 L=>⟨.bl (!T.isSome),E,L,rfl,Y⟩
theorem zdl(hu:X.A.units+1<cLine)(U:PE X o w)(T:PE X i ty)(hv:PE X c B)(Y:swapsWith c (some (.Subscript o i f)) l.line X.env=pure false) :
  PS X (.Assign [.Subscript o i f] c l) (zgv w ty B):=by
 intro C s σ H D I h;refine wpAny_Assign_Subscript (thn (hv C s σ H _ I h) fun r s1 ⟨v,E,L,rv,q1⟩=>thn (U C s1 σ E _ L q1) fun u s2 ⟨x,G,M,rx,q2⟩=>thn (T C s2 σ G _ M q2) fun iv s3 ⟨y,H3,N,ry,a,J,Q,g,q3⟩=>?_) Y
 subst Q;obtain rfl:u=Value.ref a:=rx;exact zaM hu N g ry rv fun s4 O=>⟨σ,J,O,q3⟩
end
theorem Vn{P:Program}{w:World}{H:Hp}(h:Heap)(hb:sysModules<h.objs.size):ObjOk P w H (h.push { cls:=.type "dict",data:=.dict #[] }) h.objs.size (.dK []):=
 ⟨qQ _,beq_eq_false_iff_ne.mpr (qu (qw hb)),[],.nil,Heap.DictOf.new h⟩
def zeW:TE:=fun _ H Q=>∀p,H p=none->Q (.ref p) (upd H p (.dK []))
section
variable{X:Cx}{c:Pos}
theorem zb6:PE X (.Dict [] [] c) zeW:=fun e s σ H Q I h=>
 wpAny_Dict_empty ⟨.ref s.heap.objs.size,_,I.laid (a:=s.heap.objs.size) (o:=.dK []) (t':=s.toks) (fun _ _ q=>qr _ q) (zM _) (Vn s.heap I.big),rfl,h _ (I.hok.fresh (zM _))⟩
end
def VG:List (TE×TE)->St->Hp->(List (V×V)->Hp->Prop)->Prop
 | [],_,H,Q=>Q [] H
 | (l,s)::r,σ,H,Q=>l σ H fun x c=>s σ c fun y e=>VG r σ e fun g f=>Q ((x,y)::g) f
abbrev VV:List (V×V)->List (Value×Value)->Prop:=Paired fun p q=>RelV p.1 q.1/\RelV p.2 q.2
def PPs(X:Cx)(g:Pos)(f:List (Option Expr))(c:List Expr)(l:List (TE×TE)):Prop:=
 ∀(e:List (Addr×Obj)) (s:Shared) (σ:St) (H:Hp) (Q:List (V×V)->Hp->Prop),Inv X e σ H s->VG l σ H Q ->
  wpAny (model X.prog X.w) X.A (evalPairs (pairTrees f c X.env g)) (fun C B=>∃A w,Inv X e σ w B/\VV A C/\Q A w) X.xe s
theorem zdn{X:Cx}{c:Pos}:PPs X c [] [] []:=fun e s σ H Q I h=>pairTrees_nil_walk ⟨[],H,I,.nil,h⟩
theorem zbW{X:Cx}{e:Pos}{k v:Expr}{l:List (Option Expr)}{B:List Expr}{w A:TE}{f:List (TE×TE)}(hk:PE X k w)(N:PE X v A)(M:PPs X e l B f) :
  PPs X e (some k::l) (v::B) ((w,A)::f):=fun c s σ H Q I h=>
 pairTrees_cons_walk (thn (hk c s σ H _ I h) fun u s1 ⟨x,C,G,rx,T⟩=>thn (N c s1 σ C _ G T) fun w2 s2 ⟨y,D,J,ry,U⟩=>
  thn (M c s2 σ D _ J U) fun ws s3 ⟨O,E,L,g,Y⟩=>⟨(x,y)::O,E,L,.cons ⟨rx,ry⟩ g,Y⟩)
def jg(e more:List (Key×V)):List (Key×V):=more.foldl (fun c f=>j4 c f.1 f.2) e
theorem KV.merge:∀{more:List (Key×V)} {g:List (Key×Value)} {c:List (Key×V)} {f:List (Key×Value)},KV more g->KV c f->KV (jg c more) (merged f g):=by
 intro more g c f r;unfold KV at r;induction r generalizing c f with
 | nil=>intro q;exact q
 | @cons p q w A h t l=>
  intro s;have e:KV (j4 c p.1 p.2) (stored f q.1 q.2):=by
   have:=s.put p.1 h.2;rw[<- h.1];exact this
  exact l e
theorem xZ:∀(more c:List (Key×V)),(jg c more).length<=c.length+more.length
 | [],c=>by show c.length<=c.length+0;omega
 | p::r,c=>by
  have e:=xZ r (j4 c p.1 p.2);have f:=xt c p.1 p.2;show(jg (j4 c p.1 p.2) r).length<=_;rw[xh];omega
theorem Z6{P:Program}{w:World}:∀{e:List (Key×V)} {l:List (Value×Value)},VV (e.map fun g=>(kV g.1,g.2)) l->∃f,Carries (zW P w) l f/\KV e f
 | [],_,r=>by rw[Qf] at r;cases r;exact⟨[],True.intro,.nil⟩
 | p::e,_,r=>by
  rw[qY] at r;cases r with
  | @cons a b s A h t=>
   obtain⟨f,c,q⟩:=Z6 (P:=P) (w:=w) t;obtain⟨b1,b2⟩:=b;exact⟨(p.1,b2)::f,⟨vS h.1,rfl,c⟩,.cons ⟨rfl,h.2⟩ q⟩
def zf3(e:List (TE×TE)):TE:=fun σ H Q=>∀p,H p=none->VG e σ (upd H p (.dK [])) fun l f=>f p=some (.dK [])/\∃c:List (Key×V),l=c.map (fun g=>(kV g.1,g.2))/\c.length<=15/\Q (.ref p) (upd f p (.dK (jg [] c)))
theorem zdt{X:Cx}{D:Pos}{f:List (Option Expr)}{g:List Expr}{E:List (TE×TE)}(h:PPs X D f g E)(A:f.all (·.isSome)=true)(hl:f.length=g.length)(U:f≠[])
  (G:f.length<=15):PE X (.Dict f g D) (zf3 E):=by
 intro C s σ H Q I q;have hn:=I.hok.fresh (zM s.heap.objs.size);have N:=I.laid (a:=s.heap.objs.size) (o:=.dK []) (h':=s.heap.push { cls:=.type "dict",data:=.dict #[] }) (t':=s.toks) (fun _ _ q=>qr _ q) (zM _) (Vn s.heap I.big)
 refine wpAny_Dict_walk (knd:=zW X.prog X.w) A hl U G (thn (h C _ σ _ _ N (q _ hn)) fun ws s2 ⟨ps,H2,L,J,e,B,T,lk,q2⟩=>?_)
 subst T;obtain⟨rs,c,rk⟩:=Z6 (P:=X.prog) (w:=X.w) J;obtain⟨z,hd,aa,r0,O⟩:=zcL L.hok e;cases r0;refine⟨rs,c,O,fun M l hs=>⟨.ref s.heap.objs.size,_,?_,rfl,q2⟩⟩
 have hz:(jg [] B).length<=sizeLine:=by
  have Y:=xZ B [];rw[Qj] at Y;rw[sizeLine_eq];omega
 have he:∃q,M.get? s.heap.objs.size=some q:=let ⟨q,_,_,hq,_⟩:=l;⟨q,hq⟩
 exact Zz L (by rw[e];exact True.intro) hs he (JX hz hd (rk.merge .nil) l)
structure M1(X:Cx)(o:Expr)(m:Str)(apos:Pos)(e:Expr)(cpos:Pos):Prop where
 base:attributeBase o m X.env (eval o X.env)=eval o X.env
 few:((backTo cpos (starEach [e] X.env)).all (fun x=>!x.1)&&(backToKw cpos (keywordEach [] X.env)).all (fun x=>x.1.isSome)
  && decide (([e]:List Expr).length+([]:List Keyword).length+(if([]:List Keyword).isEmpty then 0 else 1)<30))=true
 line:(apos.endLine==cpos.line)=true
 trees:backTo cpos (starEach [e] X.env)=[(false,eval e X.env)]
structure M2(X:Cx)(o:Expr)(m:Str)(apos:Pos)(e f:Expr)(cpos:Pos):Prop where
 base:attributeBase o m X.env (eval o X.env)=eval o X.env
 few:((backTo cpos (starEach [e,f] X.env)).all (fun x=>!x.1)&&(backToKw cpos (keywordEach [] X.env)).all (fun x=>x.1.isSome)
  && decide (([e,f]:List Expr).length+([]:List Keyword).length+(if([]:List Keyword).isEmpty then 0 else 1)<30))=true
 line:(apos.endLine==cpos.line)=true
 trees:backTo cpos (starEach [e,f] X.env)=[(false,eval e X.env),(false,eval f X.env)]
def IsD(H:Hp)(a:Addr):Prop:=(∃c,Rd H a (.dK c))\/∃c,Rd H a (.dT c)
theorem zcA{X:Cx}{g:List (Addr×Obj)}{σ:St}{H:Hp}{s:Shared}{a:Addr}(I:Inv X g σ H s)(d:IsD H a) :
  s.TypeIs (.ref a) "dict" /\ (∀b,Value.ref a=.ref b->∃c,s.heap.get? b=some c/\c.dict=none)/\(a==sysModules)=false:=by
 rcases d with ⟨B,e⟩ | ⟨B,e⟩
 ·obtain⟨_,A,C,_,f⟩:=Jm I.hok e
  refine⟨f.typeIs,fun b q=>?_,A⟩
  cases q;obtain⟨c,_,_,l,w,_⟩:=f;exact⟨c,l,w.2.1⟩
 ·obtain⟨_,A,D,_,f⟩:=Jl I.hok e
  refine⟨f.typeIs,fun b q=>?_,A⟩
  cases q;obtain⟨c,_,_,l,w,_⟩:=f;exact⟨c,l,w.2.1⟩
section
variable{X:Cx}{c:List (Addr×Obj)}{σ:St}{H:Hp}{s:Shared}{a:Addr}{y d:V}{u r:Value}{o:Option V}{A:Around}{E:Value->Shared->Prop}
theorem zfP{Q:Value->Shared->Prop}(hu:A.units+1<cLine)(I:Inv X c σ H s)(g:DGet H a y o)(J:RelV y u)(G:RelV d r)(h:∀M L,Inv X c σ H L->RelV (o.getD d) M->Q M L) :
  wpAny (model X.prog X.w) A (call (.builtin "dict.get") [.ref a,u,r]) Q E s:=by
 rcases g with ⟨D,k,e,B,l⟩ | ⟨D,k,b,e,B,N,l⟩
 ·subst B
  obtain⟨z,C,T,f,w⟩:=Jm I.hok e;refine call_meetsIn Wn w.typeIs PySem.F.entry_dict_get (PySem.F.args_dict_get_3 _ _ _) (meets_dict_get_default (zW X.prog X.w) a (vS J) C r) ⟨_,w.mapOf,h _ _ (I.tok _) ?_⟩
  rw[l];exact(f.val k).getD G
 ·subst B
  cases(show u=Value.ref b from J)
  obtain⟨z,C,O,f,w⟩:=Jl I.hok e;refine call_meetsIn Wn w.typeIs PySem.F.entry_dict_get (PySem.F.args_dict_get_3 _ _ _) (meetsH_dict_get_default (tupleKind (zW X.prog X.w)) a b C r) ⟨tupleKind_room_in1 hu,k,O,ZU I.hok N,w,h _ _ (I.tok _) ?_⟩
  rw[l];exact(f.val k).getD G
end
def zeX(g ty l:TE):TE:=fun σ H Q=>g σ H fun x c=>∃a,x=.ref a/\IsD c a/\ty σ c fun y f=>l σ f fun z e=>∃o,DGet e a y o/\Q (o.getD z) e
section
variable{X:Cx}{o e f:Expr}{c l:Pos}{w ty A:TE}
theorem zb7(hu:X.A.units+1<cLine)(Y:PE X o w)(T:PE X e ty)(U:PE X f A)(m:M2 X o "get" c e f l):PE X (.Call (.Attribute o "get" c) [e,f] [] l) (zeX w ty A):=by
 intro B s σ H Q I h;refine wpAny_Call_method m.base m.few m.line PySem.F.plainAttrs_dict Wn PySem.F.type_dict_get (thn (Y B s σ H _ I h) fun u s1 ⟨x,E,D,rx,a,O,d,q1⟩=>?_)
 subst O;obtain rfl:u=Value.ref a:=rx;obtain⟨t1,t2,_⟩:=zcA D d;refine⟨t1,t2,?_⟩
 rw[m.trees];refine Wr rfl (Wm (yY (thn (T B s1 σ E _ D q1) fun iv s2 ⟨y,G,L,ry,q2⟩=>
  yY (thn (U B s2 σ G _ L q2) fun fv s3 ⟨z,J,M,rz,ov,g,q3⟩=>Xf ?_))))
 exact zfP hu M g ry rz fun w' s4 N C=>⟨_,J,N,C,q3⟩
end
section
variable{X:Cx}{c:List (Addr×Obj)}{σ:St}{H:Hp}{s:Shared}{a:Addr}{e:List (Key×V)}{A:Around}{E:Value->Shared->Prop}
end
section
variable{X:Cx}{c:List (Addr×Obj)}{σ:St}{H:Hp}{s:Shared}{a:Addr}{y:V}{u:Value}{A:Around}{E:Value->Shared->Prop}
end
end L2
namespace PySem
open PySem PySem.W PySem.Calls PyProof.Rows PyProof.V PySem.Spec
end PySem
namespace L2
open PySem PySem.Spec PyProof.Rows
section
variable{X:Cx}
end
section
variable{X:Cx}{c:Expr}
end
section
variable{X:Cx}
end
section
variable{X:Cx}
variable{e st:Expr}{g:TE}{l:TO}{c f:Pos}
end
end L2
namespace PySem
def RawD(h:Heap)(d:Addr)(e:Array DictEntry)(c:Nat):Prop:=∃o,h.get? d=some o/\o.ExactDict/\o.data=.dict e c
theorem RawD.at{h g:Heap}{d:Addr}{f:Array DictEntry}{c:Nat}(x:RawD h d f c)(e:∀o,h.get? d=some o->g.get? d=some o):RawD g d f c:=let ⟨o,a,b⟩:=x;⟨o,e _ a,b⟩
section
variable{g:Program}{w:World}{A:Around}{E:Value->Shared->Prop}{s:Shared}{d f:Addr}{c:Array DictEntry}{l i:Nat}
theorem zbP{Q:Value->Shared->Prop}(D:(d==sysModules)=false)(G:RawD s.heap d c l)
  (C:Q (.ref s.heap.objs.size) { s with heap:=s.heap.push { cls:=.type "dict_keyiterator",data:=.fields #[.ref d,.int 0 0,.int c.size 0,.int l 0] } }):wpAny (model g w) A (pyIter (.ref d)) Q E s:=by
 obtain⟨o,B,hc,e⟩:=G;have ty:s.TypeIs (.ref d) "dict" :=⟨o,B,hc.1⟩;refine wpAny_pyIter_slot ty F.slot_dict_iter (vE F.slot_dict_iter ty F.entry_dict_iter ?go (F.args_dict_iter_1 _))
 unfold Builtin.«dict.__iter__» Builtin.Dict.dictSlotNone;refine zi (zi (wpAny_notOrdered_dict ty ?go2));refine(zE ?go3:wpAny _ _ (pure (Value.ref d)) _ _ s)
 refine(?go7:wpAny _ _ (Builtin.Dict.showsAll d >>= _) _ _ s);unfold Builtin.Dict.showsAll
 rw[zv (by rw[D];exact qO)];refine zi (zE ?go5)
 refine zi (wpAny_dictEntries B e (zi (wpAny_dictEpoch B e (zi (vi (zE ⟨_,rfl, "dict_keyiterator",_,⟨_,qk _ rfl,rfl⟩,Vv.lookup,?go6⟩))))))
 simpa [rawInt] using C
theorem zbQ{e:DictEntry}{Q:Option Value->Shared->Prop}(D:s.heap.IsKeyIter f d i c.size l)(T:RawD s.heap d c l)(hx:c[i]? =some e)
  (N:∀I,I.IsKeyIter f d (i+1) c.size l->Heap.SameBut f s.heap I->Q (some e.key) { s with heap:=I }):wpAny (model g w) A (pyNext (.ref f)) Q E s:=by
 obtain⟨o,J,hc,H⟩:=id D;obtain⟨Y,G,O,C⟩:=T;have ty:=D.typeIs;obtain⟨U,M⟩:∃h:i<c.size,c[i]=e:=Xq.mp hx;unfold pyNext;refine zi (wP (yr (name:=Str.ofString "__next__") ty Vv (vE Vv ty zc6 ?a (zc7 _))))
 refine zi (zE ?a1);refine zi (zi ?a2)
 first| refine zi (wpAny_typeNameOfWhole_keyiter ty (zE ?a3)) | refine zi (wpAny_typeNameOf_keyiter ty (zE ?a3))
 refine zi (wpAny_fieldsOf J H ?a4)
 simp only[show Builtin.Dict_items.ownsTuple "dict_keyiterator" = false by decide,Wg,if_false]
 refine(?a5:wpAny _ _ (if(Value.ref d==Value.none)=true then _ else _) _ _ s)
 rw[zv (show ¬((Value.ref d==Value.none)=true) from qO)];refine zi (zE (zi (wpAny_dictEntries G C ?a6)))
 rw[zv (by simp)];refine zi (zE (zi (wpAny_dictEpoch G C ?a7)))
 rw[zv (by simp)];refine zE ?a8
 simp only[show ¬((i:Int)<0) from by omega,if_false,yq,wG U];refine zi ?a9
 first| refine zi (wpAny_typeNameOfWhole_keyiter ty (zE ?b1)) | refine zi (wpAny_typeNameOf_keyiter ty (zE ?b1))
 refine zi (wpAny_isOneOf_keyiter ty ?b2);refine(?b3:wpAny _ _ (setField (.ref f) 1 (rawInt ((i:Int)+1)) >>= _) _ _ s)
 have B:(s.heap.update f (Obj.mapFields (·.setIfInBounds 1 (rawInt ((i:Int)+1))))).IsKeyIter f d (i+1) c.size l:=
  ⟨_,Jv _ J (Wo (Qn H _)),(Wb ..).trans hc,(by rw[Qn H];simp[rawInt])⟩
 refine zi (wpAny_setField J H (by simp) (zi (vD (zi (wpAny_isOneOf_keyiter (s:={ s with heap:=s.heap.update f (Obj.mapFields (·.setIfInBounds 1 (rawInt ((i:Int)+1)))) }) B.typeIs ?b4)))))
 refine(?b5:wpAny _ _ (pure c[i].key) _ _ _)
 rw[M];exact zE (zE ⟨_,rfl,zE (N _ B (Qd ..))⟩)
theorem zdj{Q:Option Value->Shared->Prop}(M:A.handled=none)(B:s.heap.IsKeyIter f d i c.size l)(N:RawD s.heap d c l)(hx:c.size<=i)
  (J:∀D,Heap.ExtBut f s.heap D->Q none { s with heap:=D }):wpAny (model g w) A (pyNext (.ref f)) Q E s:=by
 obtain⟨o,H,hc,G⟩:=id B;obtain⟨O,C,L,e⟩:=N;have ty:=B.typeIs;unfold pyNext;refine zi (wP (yr (name:=Str.ofString "__next__") ty Vv (vE Vv ty zc6 ?a (zc7 _))))
 refine zi (zE ?a1);refine zi (zi ?a2)
 first| refine zi (wpAny_typeNameOfWhole_keyiter ty (zE ?a3)) | refine zi (wpAny_typeNameOf_keyiter ty (zE ?a3))
 refine zi (wpAny_fieldsOf H G ?a4)
 simp only[show Builtin.Dict_items.ownsTuple "dict_keyiterator" = false by decide,Wg,if_false]
 refine(?a5:wpAny _ _ (if(Value.ref d==Value.none)=true then _ else _) _ _ s)
 rw[zv (show ¬((Value.ref d==Value.none)=true) from qO)];refine zi (zE (zi (wpAny_dictEntries C e ?a6)))
 rw[zv (by simp)];refine zi (zE (zi (wpAny_dictEpoch C e ?a7)))
 rw[zv (by simp)];refine zE ?a8
 simp only[show ¬((i:Int)<0) from by omega,if_false,yq,Wq hx];refine zi ?a9
 first| refine zi (wpAny_typeNameOfWhole_keyiter ty (zE ?b1)) | refine zi (wpAny_typeNameOf_keyiter ty (zE ?b1))
 refine(?b3:wpAny _ _ (setField (.ref f) 0 .none >>= _) _ _ s);refine zi (wpAny_setField H G (by simp) ?b4)
 refine(?b5:wpAny _ _ (newExc (.type "StopIteration") [] >>= _) _ _ _);refine zi ?b6
 simp only[newExc,newTuple];refine zi (vi ?b7 (by size_fits))
 refine zi (m:=firstArgMember _ _) (wpAny_of_eq (a:=Value.none) (by first| rfl | (simp only[firstArgMember];rfl)) (vi ?b8 (by size_fits)))
 simp only[raiseNew];refine zi (wpAny_handled ?b9)
 rw[show A.in1.handled=none from M];refine zi (zE (wpAny_throw ?c1))
 exact zi (Zh (T:= "StopIteration") (b:=true) ⟨_,qk _ rfl,rfl⟩ isSubtype_stop (zE (J _ (((Qd ..).extBut.push _).push _))))
end
end PySem
namespace L2
open PySem PySem.Spec PyProof.Rows
section
variable{X:Cx}{c:Expr}
end
section
variable{c:Program}{w:World}{A:Around}{R:Result->Shared->Prop}{s:Shared}
end
def DPutT(H:Hp)(D:Addr)(y v:V)(e:Hp):Prop:=∃c k b,H D=some (.dT c)/\y=.ref b/\H b=some (.tup (k.map kV))/\c.length<sizeLine/\e=upd H D (.dT (j4 c k v))
theorem DPutT.t{H:Hp}{a b:Addr}{c:List (List Key×V)}{k:List Key}{v:V}(e:H a=some (.dT c))(f:H b=some (.tup (k.map kV)))(g:c.length<sizeLine):DPutT H a (.ref b) v (upd H a (.dT (j4 c k v))):=⟨c,k,b,e,rfl,f,g,rfl⟩
section
variable{X:Cx}{O vx L w:Expr}{A:List Expr}{T D:Expr}{E:List Expr}{f:Scope}{G:Pos}{wi M:TI}{g N:TG}{Q J:TT}{U Y:TE}
theorem V4{aa:List (Addr×Obj)}{σ:St}{H:Hp}{s:Shared}{fp:List Addr}(own fr:List Str)(js:List Nat)(I:Inv X aa σ H s)(B:zda f.names X.env.scope.names X.N fr js)(hk:f.kind=.function)
  (f2:∀b∈fp,jX X aa H b) (fl:∀b∈fp,b<s.heap.objs.size) {C:Addr} (hC:C=s.heap.objs.size) {h1:Heap} {m:Str->Option Value} (ag:h1.Ns C m) (k4:∀b o,s.heap.get? b=some o->h1.get? b=some o) {t4:Nat} :
  Inv (zH X (own++fr) f C s H fp) [] (upS own.length js σ) H { s with heap:=h1,toks:=t4 }:=by
 have a0:∀y∈f.names,y.2=NameKind.free->∃c,X.env.cells.lookup y.1=some c:=fun y hy e=>I.ok.has y.1 (B.free y hy e)
 refine⟨⟨I.ok.mod,hk,I.ok.glob,I.ok.blt,wf hC.symm,fun x y c e1 e2=>?_,fun x hx=>?_,fun x c hf=>(nomatch hf),fun hc=>I.ok.hd hc,I.ok.frames,.inl rfl,fun b hb=>?_,I.bs,jx I.ok.bsz I.sz,fun b o e hb=>?_,fun b hb hf=>?_,I.stack,I.stkFree⟩,
  rfl,I.bare,Un.kept k4,⟨m,ag,fun i x v e1 e2 ah=>?_⟩,fun x c e=>?_,?_,fun x c e=>?_,fun p hp=>absurd (show p∈([]:List (Addr×Obj)) from hp) (by simp),I.hok.kept k4,?_⟩
 ·exact I.ok.inj x y c (qE e1 a0) (qE e2 a0)
 ·obtain⟨k,e,z⟩:∃k,f.names.lookup x=some k/\(k=.free):=by
   rcases hx with hx | hx
   ·obtain⟨k,e,z⟩:=vL hx
    rcases z with z | z
    ·subst z;exact absurd rfl (B.cell _ (wE e))
    ·exact⟨k,e,z.1⟩
   ·obtain⟨k,e,z⟩:=vL hx
    rcases z with z | z
    ·subst z;exact⟨_,e,rfl⟩
    ·exact⟨k,e,z.1⟩
  subst z;exact⟨_,wy e⟩
 ·refine⟨by rw[hC];exact qw (fl b hb),fun x c e=>?_⟩
  exact(f2 b hb).2.2.2.2.1 x c (qE e a0)
 ·rcases(f2 b hb).2.2.2.1 with z | z
  ·exact I.ok.noex b o e z
  ·exact absurd (jD (zP (I.ok.bs b o e).1) z) (wA _)
 ·rcases qm.mp (I.stkSub b hf) with y | y
  ·exact(f2 b hb).2.1 y
  ·exact(f2 b hb).2.2.1 y
 ·obtain⟨hn,_,j,ej,es⟩:=wU e2
  have ex:fr[i-own.length]? =some x:=by rw[xQ hn] at e1;exact e1
  obtain⟨ab,j',ac,eN⟩:=B.fr _ x ex;have:j'=j:=by rw[ej] at ac;exact(jm ac).symm
  subst this;have ae:=B.free _ (wE ab) rfl;obtain⟨m0,_,hl⟩:=I.loc;obtain⟨u,r,l⟩:=hl j' x v eN es (by rcases ae with z | z;exact .inr (.inl z);exact .inr (.inr z))
  refine⟨u,r,.inr ?_⟩
  rcases l with ⟨kl,_⟩ | ⟨_,c,ec,o,eo,ed⟩
  ·have af:X.env.scope.names.lookup x=some .local:=kl
   rcases ae with z | z
   ·exact absurd (z.symm.trans af) (by decide)
   ·exact absurd (z.symm.trans af) (by decide)
  ·obtain⟨k',e',z⟩:=wJ (env:=X.env) ab
   have eq:(jw X.env.cells f.names []).lookup x=some c:=by rw[wy ab,ec];rfl
   refine⟨?_,c,eq,o,k4 c o eo,ed⟩
   rcases z with z | z
   ·subst z;exact .inl e'
   ·subst z;exact .inr e'
 ·obtain⟨v,o,eo,ed⟩:=I.cell x c (qE e a0)
  exact⟨v,o,k4 c o eo,ed⟩
 ·exact I.hok.fresh (wf hC.symm)
 ·exact I.freeC x c (qE e a0)
 ·rw[WL,<- B.len]
  show _=(own++fr).length;rw[zZ]
end
structure BlkOkC(sn on:List (Str×NameKind))(N:List Str)(x:Str)(fr:List Str)(js:List Nat):Prop where
 one:(sn.filter fun y=>y.2==.cell)=[(x,.cell)]
 lk:sn.lookup x=some .cell
 nd:([x]++fr).Nodup
 loc:∀y∈sn,y.2=NameKind.local->sn.lookup y.1=some .local
 free:∀y∈sn,y.2=NameKind.free->on.lookup y.1=some .cell\/on.lookup y.1=some .free
 len:fr.length=js.length
 fr:∀(k:Nat) (x:Str),fr[k]? =some x->sn.lookup x=some .free/\∃j:Nat,js[k]? =some j/\N[j]? =some x
theorem BlkOkC.is{sn on:List (Str×NameKind)}{N:List Str}{x:Str}{c:List Str}{f:List Nat}(B:BlkOkC sn on N x c f){y:Str×NameKind}(h:y∈sn)(e:y.2=.cell):y.1=x:=by
 have:y∈sn.filter fun y=>y.2==.cell:=xx.mpr ⟨h,by rw[e];rfl⟩
 rw[B.one,zY] at this;rw[this]
section
variable{X:Cx}{f B e:Expr}{l:List Expr}{c:Scope}{s:Pos}{C:TI}{g:TG}{A:TT}{w:TE}{x:Str}
end
end L2
namespace L2
end L2
namespace L2
open PySem PySem.W PySem.Spec PyProof.Rows
abbrev bmV:List Value:=[.type "ValueError",.type "Exception",.type "BaseException",.type "object"]
def zhs(K:Frag)(C:Addr)(e:Option Value):Bool:=match K.lookup C with
 | some ⟨.type "type",_,.cls c,l⟩=>(match c.mro with
  | .ref f::g=>(match l.toList with
   | [_,_,_,_,some (.builtin n),_]=>f==C&&(n == "ValueError.__new__" && (!c.hasDel&&(tailIn K bmV g&&(nsOkIn K c.ns&&nsIn K c.ns "__init__" == some e))))
   | _=>false)
  | _=>false)
 | _=>false
structure Xc(h:Heap)(C:Addr)(ini:Option Value):Prop where
 is:∃(bm:List Value) (N:Addr) (nm qn:Str) (bs:List Value) (hd:Bool) (sn:List Str) (sub:List Value) (ab:Bool) (col:Option Bool) (dd:Option Addr) (k0 k1 k2 k3 k5:Option Value) (mN:Str->Option Value),
  h.get? C=some (excClassObj nm qn C N bs bm hd sn sub ab col dd k0 k1 k2 k3 k5 "ValueError.__new__")/\h.Ns N mN/\mN "__init__" = ini/\OwnTail h bmV bm
end L2
namespace L2
open PySem PySem.W PySem.Spec PyProof.Rows
section
variable{P:Program}{w:World}{H:Hp}{h c:Heap}{a:Addr}{o:HO}
theorem ObjOk.has(x:ObjOk P w H h a o):∃u,h.get? a=some u:=by
 cases o with
 | lst s=>obtain⟨_,_,_,_,e⟩:=x;exact⟨_,e⟩
 | tup s=>obtain⟨_,_,_,⟨u,e,_⟩,_⟩:=x;exact⟨u,e⟩
 | dK g=>obtain⟨_,_,_,_,u,_,_,e,_⟩:=x;exact⟨u,e⟩
 | dT g=>obtain⟨_,_,_,_,u,_,_,e,_⟩:=x;exact⟨u,e⟩
 | set S n=>obtain⟨u,_,_,_,e,_⟩:=x;exact⟨u,e⟩
 | ins C A l=>obtain⟨_,_,_,e,_⟩:=x;exact⟨_,e⟩
 | own y=>obtain⟨u,e⟩:=x;exact⟨u,e⟩
 | xd l=>obtain⟨_,⟨u,_,_,e,_⟩,_⟩:=x;exact⟨u,e⟩
 | rng lo B=>obtain⟨_,_,_,e⟩:=x;exact⟨_,e⟩
 | frz D u=>obtain⟨e,_⟩:=x;exact⟨_,e⟩
 | tbl E=>exact⟨_,show h.get? a=some _ from x⟩
 | met f y=>exact⟨_,show h.get? a=some _ from x⟩
 | ext φ=>obtain⟨_,⟨u,e⟩,_⟩:=x;exact⟨u,e⟩
end
section
variable{X:Cx}{c:List (Addr×Obj)}{σ:St}{H:Hp}{s:Shared}{e:Heap}
end
section
variable{c:Program}{w:World}{A:Around}{E:Value->Shared->Prop}{h:Heap}{g:Array GenState}{d:Drawn}{t:Nat}{os:OsState}{C:Addr}
end
section
variable{e:Program}{w:World}{A:Around}{E:Value->Shared->Prop}{h:Heap}{g:Array GenState}{d:Drawn}{t:Nat}{os:OsState}
variable{M q:Str}{C N:Addr}{B s:List Value}{c:Bool}{sn:List Str}{sub:List Value}{l:Bool}{f:Option Bool}{D:Option Addr}{G H I J L:Option Value}
end
end L2
namespace L2
open PySem PySem.W PySem.Spec PyProof.Rows
structure XK2(K:Frag)(C:Addr)(ini:Option Value):Prop where
 cls:zhs K C ini=true
 sa:findIn K (.ref C) "__setattr__" = some (some (.builtin "object.__setattr__"))
 ga:findIn K (.ref C) "__getattribute__" = some (some (.builtin "BaseException.__getattribute__"))
 gh:findIn K (.ref C) "__getattr__" = some none
 ob:mroIn K C (.type "object")=some true
 be:mroIn K C (.type "BaseException")=some true
 hd:hasDictIn K C=true
section
variable{c:Program}{w:World}{A:Around}{E:Value->Shared->Prop}{h:Heap}{g:Array GenState}{d:Drawn}{t:Nat}{os:OsState}{K:Frag}{C e s:Addr}{l:Option Value}{f:Str}{v:Value}
end
end L2
namespace L2
open PySem PySem.W PySem.Spec PyProof.Rows
section
variable{c:Program}{w:World}{A:Around}{E:Value->Shared->Prop}{h:Heap}{g:Array GenState}{d:Drawn}{t:Nat}{os:OsState}{K:Frag}{C e G s:Addr}{D:Option Addr}{l:Option Value}{f:Str}{v:Value}{B:Str->Option Value}
end
end L2
namespace L2
open PySem PySem.W PySem.Spec PyProof.Rows
structure XKc(K:Frag)(C:Addr):Prop where
 lk:findIn K (.ref C) "__class__" = some (some (.builtin "object.__class__"))
 gt:specialIn K (.builtin "object.__class__") "__get__" = some (some (.builtin "getset_descriptor.__get__"))
 tk:takesIn K (.builtin "object.__class__")=some true
section
variable{c:Program}{w:World}{A:Around}{E:Value->Shared->Prop}{h:Heap}{g:Array GenState}{d:Drawn}{t:Nat}{os:OsState}{K:Frag}{C l e D:Addr}{s:Option Addr}{f:Option Value}{B:Option Obj}
end
end L2
namespace L2
open PySem PySem.W PySem.Spec PyProof.Rows
structure XOk(K:Frag)(C:Addr)(ini:Option Value):Prop where
 k:XK2 K C ini
 c:XKc K C
 kp:keepIn K (.ref C)=true
 ty:typeIn K (.ref C)=some (.type "type")
 cd:∃cd,clsIn K C=some cd
 ve:mroIn K C (.type "ValueError")=some true
section
variable{X:Cx}{A:CXT}{k:Nat}{f C:Addr}{G:FuncData}{H:List Str}{B:List Value}{l:List V}{I:Sp}{E:XK}{x m:Str}{p w g:Pos}{e o c:Expr}{D:List Expr}{t:TA}{J L:TE}{s:Option Value}
end
end L2
namespace L2
open PySem PySem.W PySem.Spec PyProof.Rows
section
variable{X:Cx}
inductive Vw(K:W.Frag)(x:V)(y:V)(H:Hp)(Q:VK):Prop
 | mk (a b:Addr) (c:List V) (_:x=.ref a) (_:y=.ref b) (_:SqL K H a c) (_:SqL K H b c) (_:c.all xf=true) (_:(∀v∈c,eqV v v=true)) (_:Q (.bl false) H):Vw K x y H Q
theorem zcb(hu:X.A.units<cLine):OpR X (compareOp .NotEq) (Vw X.K):=by
 intro B s σ H x y v u Q I Y ry h;obtain⟨a,b,l,rfl,rfl,hx,hy,G,E,q⟩:=h;cases Y;cases ry;obtain⟨f,C,N,z1⟩:=I.list hx;obtain⟨g,D,O,z2⟩:=I.list hy;have l1:=C.length;have l2:=D.length;refine SeqAt.RcNeAt.lists (e:=fun _=>true) N.isList O.isList (by rw[zX,zX];omega) hu (fun j M h2=>?_) _ _ _ _ ⟨.bl _,H,I,rfl,?_⟩
 ·have c:j<l.length:=by rw[zX] at M;omega
  obtain⟨w1,e1,T⟩:=C.get (i:=j) (x:=l[j]) (by simp[c])
  obtain⟨w2,e2,U⟩:=D.get (i:=j) (x:=l[j]) (by simp[c])
  have J:f.toArray[j]=w1:=by simpa using (zK.mp e1).2
  have L:g.toArray[j]=w2:=by simpa using (zK.mp e2).2
  have w:=xO.mp G _ (vZ c);have z:=JW (A:=X.A.in1) (s:=s) T U w w;rw[E _ (vZ c)] at z;rw[J,L];exact z
 ·rw[show((List.range f.toArray.size).all fun _=>true)=true from xO.mpr fun _ _=>rfl]
  exact q
end
structure Xs(K:Frag)(mg:Str->Option Value)(x:Str)(C:Addr)(ini:Option Value):Prop where
 ok:XOk K C ini
 gl:mg x=some (.ref C)
structure XsI(P:Program)(w:World)(K:Frag)(mg:Str->Option Value)(base:Heap)(x:Str)(C f:Addr)(k:Nat)(ps:List Str)(sp:Sp):Prop extends Xs K mg x C (some (.ref f)) where
 ex:∃fd oF,FnOk P w K mg base CX0 k f fd ps sp/\K.lookup f=some oF/\oF.cls=.type "function" /\ Binds K fd ps []
section
variable{X:Cx}{x:Str}{k:Nat}{C f:Addr}{l:List Str}{s:Sp}{p c:Pos}{e:Expr}{g:List Expr}{t:TA}
end
end L2
namespace L2
open PySem PySem.Spec PyProof.Rows
theorem ZB:∀{e:List Value} {c:List Int},IntsAre e c->Vals (c.map V.int) e
 | _,_,.nil=>.nil
 | _,_,.cons n t r=>.cons ⟨t,rfl⟩ (ZB r)
section
variable{X:Cx}
inductive wg(K:W.Frag)(f:List V)(H:Hp)(Q:VK):Prop
 | mk (a:Addr) (e:List Int) (_:f=[.ref a]) (_:SqL K H a (e.map V.int)) (_:e.length<64) (_:∀(p:Addr) (c:List Int),H p=none->c.Perm e->c.Pairwise (·<= ·)->Q (.ref p) (upd H p (.lst (c.map V.int)))):wg K f H Q
theorem yh:CallR X (.builtin "sorted") (wg X.K):=by
 intro w s σ H O N Q I r h;obtain⟨a,L,rfl,hx,G,q⟩:=h;obtain⟨u,rfl,E⟩:=Vals.one r;cases(show u=Value.ref a from E)
 obtain⟨f,A,D,J⟩:=I.list hx;have g:=A.length;rw[zp] at g;refine sorted_ints D.isList (Z1 A) (by omega) fun c l a1 a2 a3=>?_
 obtain⟨e,B⟩:=sortedAll_at s.heap f c;have C:H (s.heap.objs.size+1)=none:=I.hok.fresh (yO _);refine⟨.ref (s.heap.objs.size+1),_,I.laid (a:=s.heap.objs.size+1) (o:=.lst (l.map V.int)) (t':=s.toks) (fun _ _=>sortedAll_old) (yO _) ⟨?_,c.toList,e,ZB a1,?_⟩,rfl,q _ l C a2 a3⟩
 ·rw[zp,a2.length_eq,sizeLine_eq];omega
 ·rw[B]
end
section
variable{e:Program}{w:World}{κ:Type}[DecidableEq κ]{c:PySem.KeyKind e w κ}{A:Around}{E:Value->Shared->Prop}{s:Shared}
theorem zbB{d:Addr}{f:List (κ×Value)}{k:κ}{O dflt:Value}{Q:Value->Shared->Prop}(g:c.is k O=true)(hm:s.heap.DictOf c d f)(ag:f.length<=sizeLine)
  (G:∀v,valueAt f k=some v->Q v { s with toks:=s.toks+1 })
  (M:valueAt f k=none->∀h',h'.DictOf c d (stored f k dflt)->Heap.SameBut d s.heap h'->Q dflt { s with heap:=h',toks:=s.toks+1 }) :
  wpAny (model e w) A (dictSetDefault d O dflt) Q E s:=by
 obtain⟨o,B,ep,N,hc,H,hk,hp,hn⟩:=id hm;obtain⟨o',ae,ac,D,-,J,-,hf⟩:=hm.mapOf;rw[N] at D;injection D with D;subst D;rw[H] at J;injection J with aa af;subst aa;have ab:B.size<=sizeLine:=by
  have e1:=hp.length;have e2:B.toList.length=B.size:=by simp
  omega
 have U:(B.findIdx? fun Y=>c.is k Y.key)=f.findIdx? fun p=>decide (p.1=k):=by
  obtain⟨l⟩:=B;rw[<- hp.findIdx k];simp
 unfold dictSetDefault;refine vD (zi (c.pyHash g (zi (wpAny_dictFind_of (s:={ s with toks:=s.toks+1 }) g N H hk ?_))))
 cases T:B.findIdx? fun Y=>c.is k Y.key with
 | some i=>
  have L:i<B.size:=(Array.findIdx?_eq_some_iff_findIdx_eq.mp T).1
  have C:valueAt f k=(B[i]?).map (·.val):=by rw[<- hf k,findBy_of_findIdx?,T]
  rw[wG L] at C;refine zi (wpAny_dictEntries (s:={ s with toks:=s.toks+1 }) N H ?_)
  rw[wG L];exact zi (xT (zE (G _ C)))
 | none=>
  have fresh:k∉f.map (·.1):=not_mem_of_findIdx_none (U▸T)
  have I:¬(f.any fun kv=>decide (kv.1=k))=true:=fun z=>by
   obtain⟨kv,h1,h2⟩:=Qk.mp z;exact fresh (qz.mpr ⟨kv,h1,xF h2⟩)
  have C:valueAt f k=none:=by rw[<- hf k,findBy_of_findIdx?,T]
  have a0:stored f k dflt=f++[(k,dflt)]:=by rw[stored,zv I]
  refine zi (xT (zi (wpAny_updateDictKeys (s:={ s with toks:=s.toks+1 }) (hz:=ab) N H (zE (M C _ ?_ (Qd ..))))))
  rw[a0];refine⟨_,_,ep+1,Jv _ N (Obj.isFreed_of_dict (Obj.data_mapDictKeys H _)),hc.mapDictKeys _,Obj.data_mapDictKeys H _,hk.push g _,?_,?_⟩
  ·have z:=hp.append g (c.hash k) dflt
   obtain⟨l⟩:=B;simpa using z
  ·rw[zR,Qc]
   refine⟨hn,by simp,fun a ha b hb z=>fresh ?_⟩
   rw[show List.map (·.1) [(k,dflt)]=[k] from rfl,zY] at hb
   rw[<- hb,<- z];exact ha
end
section
variable{c:Program}{w:World}{κ:Type}[DecidableEq κ]{knd:PySem.KeyKind c w κ}
theorem zcp{d:Addr}{k:κ}{f x:Value}(l:knd.is k f=true)(J:(d==sysModules)=false) :
  MeetsIn c w (Builtin.«dict.setdefault» ⟨[.ref d,f,x],[]⟩) (fun _ R s=>∃e,s.heap.DictOf knd d e/\e.length<=sizeLine/\(∀v,valueAt e k=some v->R (.ok (.ret v)) { s with toks:=s.toks+1 }) /\
   (valueAt e k=none->∀g,g.DictOf knd d (stored e k x)->Heap.SameBut d s.heap g->R (.ok (.ret x)) { s with heap:=g,toks:=s.toks+1 })):=
 .of_wp fun A R s ⟨e,E,M,G,H⟩=>by
  delta Builtin.«dict.setdefault» Builtin.Dict.keyAndDefault;refine zi (zi (wpAny_notOrdered_dict E.typeIs (zE (a:=(d,f,some x)) ?_)))
  have D:¬(d==sysModules)=true:=by rw[J];exact qO
  refine(show wpAny _ _ (if(d==sysModules)=true then _ else(dictSetDefault d f x >>= _)) _ _ _ from ?_)
  rw[zv D];exact zi (zbB l E M (fun v L=>zE ⟨v,rfl,G v L⟩) fun I g B C=>zE ⟨x,rfl,H I g B C⟩)
end
section
variable{X:Cx}{w ty A:TE}{o e f:Expr}{c g:Pos}
def zhC(w ty A:TE):TE:=fun σ H Q=>w σ H fun x B=>∃a,x=.ref a/\IsD B a/\ty σ B fun y C=>A σ C fun z s=>∃l k,s a=some (.dK l)/\y=kV k/\l.length<sizeLine /\
 (∀v,qH l k=some v->Q v s)/\(qH l k=none->Q z (upd s a (.dK (j4 l k z))))
theorem zfj(ho:PE X o w)(he:PE X e ty)(hf:PE X f A)(m:M2 X o "setdefault" c e f g):PE X (.Call (.Attribute o "setdefault" c) [e,f] [] g) (zhC w ty A):=by
 intro C s σ H Q I h;refine wpAny_Call_method m.base m.few m.line PySem.F.plainAttrs_dict zc3 PySem.F.type_dict_setdefault (thn (ho C s σ H _ I h) fun u s1 ⟨x,H1,N,rx,a,ex,d,q1⟩=>?_)
 subst ex;obtain rfl:u=Value.ref a:=rx;obtain⟨t1,t2,_⟩:=zcA N d;refine⟨t1,t2,?_⟩
 rw[m.trees];refine Wr rfl (Wm (yY (thn (he C s1 σ H1 _ N q1) fun iv s2 ⟨y,H2,I2,ry,q2⟩=>
  yY (thn (hf C s2 σ H2 _ I2 q2) fun fv s3 ⟨z,H3,L,Y,B,k,T,ey,l,g1,g2⟩=>Xf ?_))))
 subst ey;obtain⟨zz,U,vs,D,O⟩:=zcL L.hok T;have hz:vs.length<=sizeLine:=by rw[<- D.length];exact zz
 refine call_meetsIn zc3 O.typeIs PySem.F.entry_dict_setdefault (PySem.F.args_dict_setdefault_3 _ _ _) (zcp (knd:=zW X.prog X.w) (vS ry) U) ⟨vs,O,hz,fun v hv=>?_,fun hn h' J hs=>?_⟩
 ·have E:=D.val k
  rw[hv] at E;cases G:qH B k with
  | none=>rw[G] at E;exact E.elim
  | some M=>
   rw[G] at E;exact⟨M,H3,L.tok _,E,g1 M G⟩
 ·have E:=D.val k
  rw[hn] at E;have G:qH B k=none:=by
   cases G:qH B k with
   | none=>rfl
   | some M=>rw[G] at E;exact E.elim
  have hl:(j4 B k z).length<=sizeLine:=by have:=xt B k z;omega
  have ee:∃q,h'.get? a=some q:=let ⟨q,_,_,hq,_⟩:=J;⟨q,hq⟩
  exact⟨z,_,Zz L (by rw[T];exact True.intro) hs ee (JX hl U (D.put k Y) J),Y,g2 G⟩
end
theorem zg4{P:Program}{w:World}{k:Key}{u:Value}(h:(zW P w).is k u=true):RelV (kV k) u:=by
 rw[VW] at h;rcases qK h with ⟨i,t,rfl,rfl⟩ | ⟨x,t,rfl,rfl⟩
 ·exact⟨t,rfl⟩
 ·exact⟨t,rfl⟩
theorem KV.get:∀{c:List (Key×V)} {f:List (Key×Value)} {j:Nat} {q:Key×Value},KV c f->f[j]? =some q->∃p,c[j]? =some p/\p.1=q.1/\RelV p.2 q.2
 | _,_,j,_,.nil,e=>by simp at e
 | _,_,0,_,.cons h _,e=>by simp at e;subst e;exact⟨_,rfl,h⟩
 | _,_,j+1,_,.cons _ t,e=>by
  obtain⟨p,e1,r⟩:=KV.get (j:=j) t (by simpa using e)
  exact⟨p,by simpa using e1,r⟩
section
variable{X:Cx}
end
section
variable{X:Cx}{g ty:TE}{o e:Expr}{c f:Pos}
end
section
variable{X:Cx}
end
def zc9(d:Addr)(o:Obj)(c:List (Key×V)):It:=
 ⟨fun i H=>H d=some (.frz o (.dK c))/\i<c.length,fun i H x e=>e=H/\∃k v,c[i]? =some (k,v)/\x=kV k,fun i H=>H d=some (.frz o (.dK c))/\c.length<=i⟩
theorem Q6{P:Program}{w:World}:∀{f:List DictEntry} {g:List (Key×Value)},Pairs (zW P w) f g->∀{i:Nat} {q:Key×Value},g[i]? =some q->∃c,f[i]? =some c/\(zW P w).is q.1 c.key=true
 | _,_,.nil,_,_,h=>by simp at h
 | _,_,.cons l _ t,0,_,h=>by simp at h;subst h;exact⟨_,rfl,l⟩
 | _,_,.cons _ _ t,i+1,_,h=>by
  obtain⟨c,e,r⟩:=Q6 t (i:=i) (by simpa using h)
  exact⟨c,by simpa using e,r⟩
theorem KV.back:∀{c:List (Key×V)} {f:List (Key×Value)} {j:Nat} {p:Key×V},KV c f->c[j]? =some p->∃q,f[j]? =some q/\p.1=q.1
 | _,_,j,_,.nil,e=>by simp at e
 | _,_,0,_,.cons h _,e=>by simp at e;subst e;exact⟨_,rfl,h.1⟩
 | _,_,j+1,_,.cons _ t,e=>by
  obtain⟨q,e1,r⟩:=KV.back (j:=j) t (by simpa using e)
  exact⟨q,by simpa using e1,r⟩
theorem Vk{P:Program}{w:World}{H:Hp}{h:Heap}{d:Addr}{o:Obj}{c:List (Key×V)}{f:Array DictEntry}{s:Nat}(ok:HOk P w H h)(e:H d=some (.frz o (.dK c)))(D:o.data=.dict f s):RawD h d f s/\f.size=c.length /\
  ∀(i:Nat) (k:Key) (v:V),c[i]? =some (k,v)->∃g:DictEntry,f[i]? =some g/\RelV (kV k) g.key:=by
 obtain⟨e1,z,y,Y,r,U,J,I,A,L,B,M,C,N⟩:=(show ObjOk P w H h d (.frz o (.dK c)) from ok d _ e)
 rw[e1] at A;cases A;rw[D] at B;cases B;have O:=C.length;have Q:=r.length;have T:f.toList.length=f.size:=jO;refine⟨⟨o,e1,L,D⟩,by omega,fun i k v hk=>?_⟩
 obtain⟨q,e2,l⟩:=KV.back r hk;obtain⟨g,E,G⟩:=Q6 C e2;have l:k=q.1:=l;exact⟨g,by rw[<- Zj];exact E,by rw[l];exact zg4 G⟩
theorem VD{P:Program}{w:World}{K:W.Frag}{tg:Expr}(d g:Addr)(o:Obj)(l:List (Key×V))(es:Array DictEntry)(ep:Nat)(he:o.data=.dict es ep):yw P w K tg (zc9 d o l) [g] g (fun i h=>h.IsKeyIter g d i es.size ep) where
 mem:=by simp
 obj:=fun i h st b hb=>by
  have e:b=g:=by simpa using hb
  subst e;obtain⟨o,e,c,d⟩:=st;exact⟨o,e,fun v z=>by rw[d] at z;cases z⟩
 keep:=fun i h B st k=>st.at fun o e=>k g (by simp) o e
 item:=by
  intro X O Y N hc i f s σ H E I C st U;subst O Y N;obtain⟨Q,hi⟩:=U;obtain⟨rd,sz,all⟩:=Vk I.hok Q he;obtain⟨⟨k,v⟩,hx⟩:∃p,l[i]? =some p:=⟨l[i],by simp[hi]⟩
  obtain⟨en,T,ek⟩:=all i k v hx;obtain⟨D,G,f2,J,L,M⟩:=C g (by simp)
  refine zbQ st rd T fun B A sb=>?_
  have I1:Inv X f σ H { s with heap:=B }:=I.turned (t':=s.toks) (fun b o hb e=>(sb.2 b hb).trans e) D G J L M
  obtain⟨o',e',c',d'⟩:=id A;exact⟨_,rfl,YG (s:={ s with heap:=B }) e' c' d' (by decide) ⟨kV k,H,I1,ek,⟨rfl,k,v,hx,rfl⟩,A,fun b hb=>(C b hb).1⟩⟩
 done:=by
  intro X O Y N hc i f s σ H E I C st U;subst O Y N;obtain⟨Q,hi⟩:=U;obtain⟨rd,sz,_⟩:=Vk I.hok Q he;obtain⟨D,G,f2,J,L,M⟩:=C g (by simp)
  exact zdj (I.ok.hd hc) st rd (by omega) fun B eb=>⟨rfl,I.turned (t':=s.toks) (fun b o hb e=>eb b o hb e) D G J L M⟩
 self:=fun _ _ _ _ _ st h=>wpAny_pyIter_keyiter st h
section
variable{X:Cx}{c:Expr}
def zfI(g:TE):TI:=fun σ H R=>g σ H fun x f=>∃d e,x=.ref d/\f d=some (.dK e)/\∀o,R (zc9 d o e) (upd f d (.frz o (.dK e)))
theorem zb2{l:Expr}{L:TE}(T:PE X l L):PI X c l (zfI L):=by
 intro f s σ H R I h;refine thn (T f s σ H _ I h) fun v s1 ⟨x,G,w,Y,U⟩=>?_
 obtain⟨d,g,e,E,q⟩:=U;subst e;cases Y;obtain⟨z,y,vs,r,o,C,B,A,J,D,N,O,Q⟩:=(show ObjOk X.prog X.w G s1.heap d (.dK g) from w.hok d _ E)
 refine zbP y ⟨o,A,J,D⟩ ?_
 have M:Inv X f σ (upd G d (.frz o (.dK g))) { s1 with heap:=s1.heap.push { cls:=.type "dict_keyiterator",data:=.fields #[.ref d,.int 0 0,.int C.size 0,.int B 0] },toks:=s1.toks }:=by
  refine w.write (x:=d) (e:=d) (by rw[E];exact True.intro) (.inl rfl) (fun b u _ e=>qr _ e) ⟨o,qr _ A⟩ ?_
  exact⟨qr _ A,z,y,vs,r,o,C,B,qr _ A,J,D,N,O,Q⟩
 refine⟨s1.heap.objs.size,[s1.heap.objs.size],_,_,_,rfl,M,VD d _ o g C B D,⟨_,qk _ rfl,rfl,rfl⟩,fun b hb=>?_,q o⟩
 have e:b=s1.heap.objs.size:=by simpa using hb
 subst e;refine w.fpOk (zM _) ?_
 rw[zm (qu (zk E (w.hok.fresh (zM _))))];exact w.hok.fresh (zM _)
end
theorem zcw{d:Addr}{o:Obj}{kvs:List (Key×V)}{n:Nat}{g:TG}{L:TT}{J:TE}{A:St}{R:List V->Hp->Prop}{H:Hp}(Pv:Nat->List V->Hp->Prop)(N:Pv 0 [] H)
  (G:∀i c H,Pv i c H->H d=some (.frz o (.dK kvs)))
  (Q:∀i k v c H,kvs[i]? =some (k,v)->Pv i c H->g (kV k) A H fun l D=>l.drop n=A.drop n/\L l D fun b s=>if b=true then J l s fun v E=>c.length<sizeLine/\Pv (i+1) (c++[v]) E else Pv (i+1) c s)
  (O:∀c H,Pv kvs.length c H->c.length<=sizeLine/\R c H) :
  ∃W:Nat->Nat->List V->Hp->Prop,(∃m,W 0 m [] H)/\∀i m c f,W i m c f ->
   ((zc9 d o kvs).stop i f/\c.length<=sizeLine/\R c f) \/
   ((zc9 d o kvs).go i f/\∃M:List V->Hp->Prop,(∀c B,M c B->∃I,I<m/\W (i+1) I c B)/\∀x C,(zc9 d o kvs).yld i f x C->g x A C fun l D=>l.drop n=A.drop n/\L l D fun b s=>
    if b=true then J l s fun y E=>c.length<sizeLine/\M (c++[y]) E else M c s):=by
 refine⟨fun i m c f=>m=kvs.length-i/\i<=kvs.length/\Pv i c f,⟨_,rfl,qQ _,N⟩,?_⟩
 rintro i m c f ⟨rfl,hi,p⟩;by_cases w:i<kvs.length
 ·refine .inr ⟨⟨G i c f p,w⟩,Pv (i+1),fun a0 B T=>⟨_,by omega,rfl,w,T⟩,fun x C y=>?_⟩
  obtain⟨e,k,v,hk,rfl⟩:=y;subst e;exact Q i k v c _ hk p
 ·have e:i=kvs.length:=by omega
  subst e;obtain⟨U,Y⟩:=O c f p;exact .inl ⟨⟨G _ c f p,zM _⟩,U,Y⟩
section
variable{X:Cx}{c:Expr}
def zhH(K:W.Frag)(g:TE):TI:=fun σ H R=>g σ H fun x e=>∃a,x=.ref a/\(((∃f,SqL K e a f)/\R (Itl K a) e)\/((∃f,SqT K e a f)/\R (Itt K a) e))
theorem zb1{l:Expr}{C:TE}(D:PE X l C):PI X c l (zhH X.K C):=by
 intro w s σ H R I h;refine thn (D w s σ H _ I h) fun v s1 ⟨x,A,f,J,G⟩=>?_
 obtain⟨a,e,q⟩:=G;subst e;cases J;have B:∀b∈[s1.heap.objs.size],_:=fun b hb=>by
  have e:b=s1.heap.objs.size:=by simpa using hb
  subst e;exact f.fpOk (zM _) (f.hok.fresh (zM _))
 rcases q with ⟨⟨N,hq⟩,q⟩ | ⟨⟨N,hq⟩,q⟩
 ·obtain⟨g,L,p,E⟩:=f.list hq
  refine wpAny_pyIter_list p.isList ⟨s1.heap.objs.size,[s1.heap.objs.size],_,_,A,rfl,f.kept (t':=s1.toks) fun b o e=>qr _ e,QN a _,⟨_,qk _ rfl,rfl,rfl⟩,?_,q⟩
  exact B
 ·obtain⟨g,L,p,E⟩:=f.tuple hq
  refine wpAny_pyIter_tuple (show s1.heap.IsTuple a g.toArray from p) ⟨s1.heap.objs.size,[s1.heap.objs.size],_,_,A,rfl,f.kept (t':=s1.toks) fun b o e=>qr _ e,ZD a _,⟨_,qk _ rfl,rfl,rfl⟩,?_,q⟩
  exact B
end
open Sem (wp)
theorem yz:isSubtype (.type "AttributeError") (.type "AttributeError")=pure true:=by rw[isSubtype_type];kernel_rfl
section
variable{c:Program}{w:World}{A:Around}{E:Value->Shared->Prop}{s:Shared}
theorem VL{α:Type}{M:Model}{o:Value}{g f:Str}{Q:α->Shared->Prop}(C:A.handled=none)(D:f.length<=sizeLine)
  (hq:∀l G e,(∀b p,s.heap.get? b=some p->l.get? b=some p)->(∃B,l.get? e=some B/\B.cls=.type "AttributeError")->E (.ref e) { s with heap:=l,toks:=G }) :
  wpAny M A (raiseAttrError o g f:Sem α) Q E s:=by
 unfold raiseAttrError newExc newTuple;refine zi (wpAny_mkStr (zi (zi (vi (zi (m:=firstArgMember _ _) (wpAny_of_eq (a:=Value.none) (by simp only[firstArgMember];rfl) (vi ?_)))))) D)
 refine zi (wpAny_mkText (zi (show wpAny _ _ (noteAttr _ _ _) _ _ _ from ?_)))
 unfold noteAttr;dsimp only;unfold lacksNameAndObj;refine zi (zi (Zh (T:= "AttributeError") ⟨_,qk _ rfl,rfl⟩ yz ?_))
 refine zi (wpAny_load (qk _ rfl) ?_)
 refine zE ?_
 refine zi (xT (zi (wpAny_typeOf (T:= "AttributeError") ⟨_,qk _ rfl,rfl⟩ ?_)))
 refine wpAny_layMembers (qk _ rfl) rfl ?_
 unfold raiseNew;refine zi (wpAny_handled ?_);rw[C];refine zi (zE (wpAny_throw ?_))
 refine hq _ _ _ (fun b p e=>?_) ⟨_,Jv _ (qk _ rfl) (Wo (Qn rfl _)),Wb _ _⟩
 rw[Ws _ _ (vY (jD (zP e) (by simp)))]
 exact qr _ (qr _ e)
end
section
variable{c:Program}{w:World}{A:Around}{E:Value->Shared->Prop}{h:Heap}{g:Array GenState}{d:Drawn}{t:Nat}{os:OsState}{a:Addr}{n:Nat}{e:Array Value}
end
end L2
namespace L2
open PySem PySem.Spec PyProof.Rows
theorem wz:entryFor table "dict.update.loop" = some Builtin.«dict.update.loop»:=entryFor_of_tree (by kernel_rfl)
theorem xn:plainId "dict.update.loop" = true:=by decide +kernel
theorem X7{K:Type}[DecidableEq K](c more:List (K×Value))(i:Nat)(e:K×Value)(h:more[i]? =some e):merged (stored c e.1 e.2) (more.drop (i+1))=merged c (more.drop i):=by
 obtain⟨f,g⟩:=zK.mp h;rw[WA f,g];rfl
section
variable{c:Program}{w:World}{K:Type}[DecidableEq K]{g:KeyKind c w K}{A:Around}{R:Result->Shared->Prop}{s l D:Addr}{e:Array Value}{f:List (K×Value)}{res:Value}
end
def zfO:Obj:={ cls:=.type "dict",data:=.dict #[] }
section
variable{c:Program}{w:World}{K:Type}[DecidableEq K]{e:KeyKind c w K}{A:Around}{E:Value->Shared->Prop}{s:Shared}
end
def PrsL(H:Hp)(e:List V)(c:List (Key×V)):Prop:=e.length=c.length/\∀(j:Nat) (x:V),e[j]? =some x->∃(T:Addr) (k:Key) (v:V),x=.ref T/\H T=some (.tup [kV k,v])/\c[j]? =some (k,v)
theorem PrsL.nil{H:Hp}:PrsL H [] []:=⟨rfl,fun j x e=>by simp at e⟩
theorem PrsL.same{H g:Hp}{l:List V}{f:List (Key×V)}(h:PrsL H l f)(s:Same H g):PrsL g l f:=⟨h.1,fun j x e=>let ⟨T,k,v,a,b,c⟩:=h.2 j x e;⟨T,k,v,a,s _ _ b,c⟩⟩
theorem PrsL.snoc{H:Hp}{s:List V}{g:List (Key×V)}{T:Addr}{k:Key}{v:V}(h:PrsL H s g)(e:H T=some (.tup [kV k,v])):PrsL H (s++[.ref T]) (g++[(k,v)]):=by
 refine⟨by rw[zZ,zZ,h.1];rfl,fun j x f=>?_⟩
 have l:=h.1;by_cases A:j<s.length
 ·rw[xH A] at f
  obtain⟨w,B,C,a,b,c⟩:=h.2 j x f;exact⟨w,B,C,a,b,by rw[xH (by omega)];exact c⟩
 ·rw[xQ (by omega)] at f
  have:j=s.length:=by
   have:=(zK.mp f).1;simp at this;omega
  subst this;simp at f;subst f;exact⟨T,k,v,rfl,e,by rw[l,xQ (zM _)];simp⟩
theorem zeK:∀{c:List (Key×V)} {g:List (Key×Value)},c.length=g.length->(∀(j:Nat) p,g[j]? =some p->∃q,c[j]? =some q/\q.1=p.1/\RelV q.2 p.2)->KV c g
 | [],[],_,_=>.nil
 | [],_::_,h,_=>by simp at h
 | _::_,[],h,_=>by simp at h
 | x::s,u::l,h,f=>by
  refine .cons ?_ (zeK (by simpa using h) fun j v e=>?_)
  ·obtain⟨y,e1,r⟩:=f 0 u rfl
   cases e1;exact r
  ·obtain⟨y,e1,r⟩:=f (j+1) v (by simpa using e)
   exact⟨y,by simpa using e1,r⟩
theorem Zd{α β:Type}:∀(P:Nat->α->β->Prop) (l:List α),(∀j u,l[j]? =some u->∃b,P j u b)->∃g:List β,g.length=l.length/\∀j u,l[j]? =some u->∃b,g[j]? =some b/\P j u b
 | _,[],_=>⟨[],rfl,fun j u e=>by simp at e⟩
 | P,x::l,f=>by
  obtain⟨b,hb⟩:=f 0 x rfl;obtain⟨g,s,w⟩:=Zd (fun j=>P (j+1)) l fun j u e=>f (j+1) u (by simpa using e)
  refine⟨b::g,by simp[s],fun j u e=>?_⟩
  cases j with
  | zero=>simp at e;subst e;exact⟨b,rfl,hb⟩
  | succ j=>
   obtain⟨c,A,B⟩:=w j u (by simpa using e)
   exact⟨c,by simpa using A,B⟩
theorem Vals.at:∀{c:List V} {f:List Value} {i:Nat} {u:Value},Vals c f->f[i]? =some u->∃x,c[i]? =some x/\RelV x u:=fun {c f i u} r e=>by
 have l:=Vals.length r;have h:=(zK.mp e).1;obtain⟨v,e1,g⟩:=r.get (i:=i) (x:=c[i]'(by omega)) (qP _)
 rw[e] at e1;cases e1;exact⟨_,qP _,g⟩
section
variable{X:Cx}
end
section
variable{X:Cx}{f E e:Expr}{l:List Expr}{c:Scope}{s:Pos}{H:TI}{g:TG}{D:TT}{C:TE}{x:Str}
variable{y:Str}{A B G:Pos}{w:Nat}
end
def Up(c:Array Nat):Prop:=c.toList.Pairwise (·< ·)
theorem Up.lt{xs:Array Nat}(h:Up xs){i j:Nat}{a b:Nat}(g:xs[i]? =some a)(l:xs[j]? =some b)(c:i<j):a<b:=by
 have e:=Xq.mp g;have f:=Xq.mp l;obtain⟨s,e1⟩:=e;obtain⟨w,e2⟩:=f;have:=List.pairwise_iff_getElem.mp h i j (by simpa using s) (by simpa using w) c
 simpa [e1,e2] using this
theorem Z8(g:Array Nat)(j:Nat):∀(fuel lo f:Nat),f-lo<=fuel->lo<=f->f<=g.size->Up g->(∀i a,i<lo->g[i]? =some a->a<j)->(∀i a,f<=i->g[i]? =some a->j<=a) ->
  SetTable.below.go g j fuel lo f<=g.size/\(∀i a,i<SetTable.below.go g j fuel lo f->g[i]? =some a->a<j)/\∀i a,SetTable.below.go g j fuel lo f<=i->g[i]? =some a->j<=a
 | 0,lo,f,C,D,s,u,a1,a2=>by
  have e:f=lo:=by omega
  subst e;exact⟨s,a1,a2⟩
 | fuel+1,lo,f,C,D,s,u,a1,a2=>by
  unfold SetTable.below.go;by_cases c:lo<f
  ·rw[zC c]
   dsimp only;have w:(lo+f)/2<g.size:=by omega
   have l:g[(lo+f)/2]? =some (g[(lo+f)/2]'w):=wG w;have B:g.getD ((lo+f)/2) j=g[(lo+f)/2]'w:=by rw[WB,l];rfl
   rw[B];by_cases d:g[(lo+f)/2]'w<j
   ·rw[zC d]
    refine Z8 g j fuel _ f (by omega) (by omega) s u (fun i a A e=>?_) a2
    by_cases q:i=(lo+f)/2
    ·subst q;rw[l] at e;cases e;exact d
    ·have:=u.lt e l (by omega)
     omega
   ·rw[zv d]
    refine Z8 g j fuel lo _ (by omega) (by omega) (by omega) u a1 fun i a A e=>?_
    by_cases q:i=(lo+f)/2
    ·subst q;rw[l] at e;cases e;omega
    ·have:=u.lt l e (by omega)
     omega
  ·rw[zv c]
   have e:f=lo:=by omega
   subst e;exact⟨s,a1,a2⟩
theorem zcV{c:Array Nat}(u:Up c)(j:Nat):SetTable.below c j<=c.size/\(∀i a,i<SetTable.below c j->c[i]? =some a->a<j)/\∀i a,SetTable.below c j<=i->c[i]? =some a->j<=a:=by
 unfold SetTable.below;exact Z8 c j c.size 0 c.size (by omega) (qQ _) (zM _) u (fun i a h=>absurd h (yR _)) fun i a h e=>absurd (Xq.mp e).1 (by omega)
theorem QL{c:Array Nat}(u:Up c){j:Nat}(D:c[SetTable.below c j]?≠some j):Up (SetTable.insertAt c (SetTable.below c j) j):=by
 obtain⟨b1,b2,b3⟩:=zcV u j;unfold Up SetTable.insertAt;generalize SetTable.below c j=p at *
 have B:((c.extract 0 p).push j++c.extract p c.size).toList=c.toList.take p++(j::c.toList.drop p):=by
  simp[Array.toList_extract,List.extract_eq_drop_take];exact Qq (by simp)
 rw[B,List.pairwise_append];have A:c.toList.Pairwise (·< ·):=u
 refine⟨A.sublist (Wd _ _),List.pairwise_cons.mpr ⟨fun a l=>?_,A.sublist (List.drop_sublist _ _)⟩,fun a l b hb=>?_⟩
 ·obtain⟨k,hk,e⟩:=zcX.mp l
  have f:c[k+p]? =some a:=by rw[<- Zj,zK];exact⟨by omega,by rw[<- e];congr 1;omega⟩
  have:=b3 (k+p) a (by omega) f
  by_cases q:k=0
  ·subst q
   rw[vz] at f;exact Nat.lt_of_le_of_ne this fun z=>D (by rw[f,z])
  ·have hp:p<c.size:=by rw[jO] at hk;omega
   have:=b3 p _ (zM _) (wG hp);have:=u.lt (wG hp) f (by omega)
   omega
 ·obtain⟨k,hk,e⟩:=List.mem_take_iff_getElem.mp l
  have f:c[k]? =some a:=by rw[<- Zj,zK];exact⟨by omega,e⟩
  have s:=b2 k a (by omega) f
  rcases qm.mp hb with z | z
  ·rw[z];exact s
  ·obtain⟨w,C,e2⟩:=zcX.mp z
   have g:c[w+p]? =some b:=by rw[<- Zj,zK];exact⟨by omega,by rw[<- e2];congr 1;omega⟩
   have:=b3 (w+p) b (by omega) g
   omega
structure TabOk(b:Bool)(t:SetTable):Prop where
 up:Up t.place
 no:t.dummies=#[]
 led:t.led=b
theorem Z3(j:Nat):SetTable.has #[] j=false:=by
 unfold SetTable.has;rw[show(#[]:Array Nat)[SetTable.below #[] j]? =none from Wq (by simp)]
 rfl
theorem Q3{t:SetTable}(h:t.dummies=#[])(j:Nat):(t.slot j=.empty/\t.place[SetTable.below t.place j]?≠some j)\/∃i,t.slot j=.live i:=by
 unfold SetTable.slot;rw[h,Z3];dsimp only;by_cases c:(t.place[SetTable.below t.place j]? ==some j)=true
 ·rw[zC c]
  exact .inr ⟨_,rfl⟩
 ·rw[zv c,zv qO]
  exact .inl ⟨rfl,fun z=>c (by rw[z];simp)⟩
theorem QH(t:SetTable)(p:SetTable.Probe):(t.advance p).dummy=p.dummy:=by
 unfold SetTable.advance;split
 ·rfl
 ·rfl
theorem y9{t:SetTable}(g:t.dummies=#[]){f:Nat->Int}{h:Int}:∀(fuel:Nat) (p:SetTable.Probe) (j:Nat) (d:Option Nat),SetTable.probe.go t f h fuel p=some (.empty j d)->t.place[SetTable.below t.place j]?≠some j/\d=p.dummy
 | 0,p,j,d,e=>by unfold SetTable.probe.go at e;cases e
 | fuel+1,p,j,d,e=>by
  unfold SetTable.probe.go at e;rcases Q3 g p.j with ⟨c1,l⟩ | ⟨i,c⟩
  ·rw[c1] at e
   cases e;exact⟨l,rfl⟩
  ·rw[c] at e
   dsimp only at e;split at e
   ·cases e
   ·have:=y9 g fuel _ j d e
    rw[QH] at this;exact this
theorem zdY{t:SetTable}(g:t.dummies=#[]){h:Int}{s:Nat}{w:Bool}(e:t.freeSlot h=some (s,w)):t.place[SetTable.below t.place s]?≠some s:=by
 unfold SetTable.freeSlot SetTable.probe at e;split at e
 ·rename_i j d q
  obtain⟨c,f⟩:=y9 g _ _ _ _ q;cases(show d=none from f)
  cases e;exact c
 ·cases e
theorem za4(n:Nat):Up (Array.range n):=by
 unfold Up;rw[Array.toList_range];exact List.pairwise_lt_range
theorem TabOk.stand{b:Bool}{t:SetTable}(h:TabOk b t)(n:Nat):TabOk b (t.standIn n):=⟨za4 n,rfl,h.led⟩
theorem TabOk.plain{b p:Bool}{t:SetTable}(h:TabOk b t):TabOk b { t with plain:=p }:=⟨h.up,h.no,h.led⟩
theorem TabOk.or{b:Bool}{t:SetTable}(h:TabOk b t)(n:Nat):TabOk b (t.orStandIn n):=by
 unfold SetTable.orStandIn;split
 ·exact h
 ·exact h.stand n
theorem TabOk.layNew{b:Bool}{t:SetTable}(h:TabOk b t)(f:Array (Int×Value))(k:Int)(x:Value):TabOk b (layNew t f k x).2.1:=by
 unfold PySem.layNew;split
 ·rename_i c w e
  have hp:TabOk b (t.put c).1:=⟨QL h.up (zdY h.no e),by
   show(if SetTable.has t.dummies c=true then _ else t.dummies)=#[]
   rw[h.no,Z3];rfl,h.led⟩
  exact hp.or _
 ·exact h.stand _
theorem WK{α:Type}(m:Nat)(f:Nat->Option α):(((List.range m).filterMap fun j=>(f j).map (j,·)).map (·.1)).Pairwise (·< ·):=by
 have e:∀l:List Nat,((l.filterMap fun j=>(f j).map (j,·)).map (·.1)).Sublist l:=fun l=>by
  induction l with
  | nil=>exact .slnil
  | cons x l c=>
   rw[Xj];cases f x with
   | none=>exact c.cons _
   | some y=>exact c.cons₂ _
 exact List.Pairwise.sublist (e _) List.pairwise_lt_range
theorem TabOk.relay{b:Bool}{t:SetTable}(h:TabOk b t)(g:Array (Int×Value))(n:Nat):TabOk b (relayAll t g n).2.1:=by
 unfold relayAll;split
 ·rename_i l f e
  dsimp only;split
  ·unfold SetTable.relaid SetTable.laid at e
   obtain⟨c,_,e2⟩:=Option.bind_eq_some_iff.mp e;cases e2;refine⟨?_,rfl,h.led⟩
   exact WK _ fun j=>c.getD j none
  ·exact h.stand _
 ·exact h.stand _
theorem TabOk.fresh(b:Bool):TabOk b (.fresh 0 0 b):=⟨List.Pairwise.nil,rfl,rfl⟩
theorem zaz{α:Type}{l:List α}{x:α}(h:l.Nodup)(hx:x∉l):(l++[x]).Nodup:=by
 rw[Qc];exact⟨h,by simp,fun a c b hb e=>hx (by rw[zY] at hb;rw[<- hb,<- e];exact c)⟩
theorem X0{α β:Type}{R:α->β->Prop}{w f:List β}(p:f.Perm w):∀{e:List α},Paired R e w->∃c,c.Perm e/\Paired R c f:=by
 induction p with
 | nil=>intro e h;exact⟨e,.refl _,h⟩
 | cons y _ D=>
  intro e h;cases h with
  | cons r t=>
   obtain⟨c,E,A⟩:=D t;exact⟨_::c,E.cons _,.cons r A⟩
 | swap y z l=>
  intro e h;cases h with
  | cons r t=>
   cases t with
   | cons I J=>exact⟨_,.swap _ _ _,.cons I (.cons r J)⟩
 | trans _ _ g s=>
  intro e h;obtain⟨M,G,B⟩:=s h;obtain⟨L,H,C⟩:=g B;exact⟨L,H.trans G,C⟩
theorem ZP{α β:Type}{R:α->β->Prop}{x:α}{y:β}(r:R x y):∀{c:List α} {e:List β},Paired R c e->Paired R (c++[x]) (e++[y])
 | _,_,.nil=>.cons r .nil
 | _,_,.cons h t=>.cons h (ZP r t)
theorem ZO{α β:Type}{R:α->β->Prop}:∀{c:List α} {e:List β},Paired R c e->(∀x∈c,∃y∈e,R x y)/\∀y∈e,∃x∈c,R x y
 | _,_,.nil=>⟨fun x h=>(nomatch h),fun y h=>(nomatch h)⟩
 | _,_,.cons h t=>by
  obtain⟨a,b⟩:=ZO t;refine⟨fun x hx=>?_,fun y hy=>?_⟩
  ·rcases qm.mp hx with z | z
   ·rw[z];exact⟨_,jz,h⟩
   ·obtain⟨y,hy,r⟩:=a x z
    exact⟨y,jn _ hy,r⟩
  ·rcases qm.mp hy with z | z
   ·rw[z];exact⟨_,jz,h⟩
   ·obtain⟨x,hx,r⟩:=b y z
    exact⟨x,jn _ hx,r⟩
section
variable{l:Program}{w:World}{K:Type}[DecidableEq K](f:KeyKind l w K)
def ElX(g:List (Int×Value))(B:List K):Prop:=ElemsOf f g/\∃c,c.Perm B/\Paired (fun k (e:Int×Value)=>f.is k e.2=true) c g
def ObX(b:Bool)(o:Obj)(e:List K):Prop:=∃c g t,o.ExactSet/\o.data=.set c g t/\ElX f c.toList e/\e.Nodup/\c.size<scanBound/\t.fits c.size=true/\TabOk b t
def SetX(b:Bool)(h:Heap)(a:Addr)(c:List K):Prop:=∃o,h.get? a=some o/\ObX f b o c
variable{f}
theorem ElX.perm{g c:List (Int×Value)}{B:List K}(h:ElX f g B)(p:c.Perm g):ElX f c B:=by
 obtain⟨C,D,G,I⟩:=h;obtain⟨e,H,pr2⟩:=X0 p I;exact⟨C.perm p,e,H.trans G,pr2⟩
theorem ElX.len{c:List (Int×Value)}{e:List K}(h:ElX f c e):c.length=e.length:=by
 obtain⟨_,g,B,C⟩:=h;rw[<- B.length_eq];exact(J7 C).symm
theorem ElX.mem{c:List (Int×Value)}{g:List K}(h:ElX f c g)(k:K):k∈g↔∃e∈c,f.is k e.2=true:=by
 obtain⟨_,C,D,G⟩:=h;obtain⟨a,b⟩:=ZO G;rw[<- D.mem_iff];refine⟨a k,fun ⟨e,B,r⟩=>?_⟩
 obtain⟨I,hk,H⟩:=b e B;rwa[f.inj _ _ _ r H]
theorem ElX.snoc{g:List (Int×Value)}{B:List K}(h:ElX f g B){k:K}{x:Value}(hk:f.is k x=true)(hx:x.scannable=true):ElX f (g++[(f.hash k,x)]) (B++[k]):=by
 obtain⟨C,c,D,G⟩:=h;exact⟨C.push hk hx,c++[k],D.append_right _,ZP (R:=fun k (e:Int×Value)=>f.is k e.2=true) hk G⟩
theorem SetX.at{b:Bool}{h c:Heap}{a:Addr}{g:List K}(x:SetX f b h a g)(k:∀o,h.get? a=some o->c.get? a=some o):SetX f b c a g:=let ⟨o,e,r⟩:=x;⟨o,k o e,r⟩
variable{A:Around}{E:Value->Shared->Prop}{s:Shared}
theorem zgz{b:Bool}{h:Heap}{a:Addr}{o:Obj}{J:Array (Int×Value)}{D:Nat}{t:SetTable}(M:h.get? a=some o)(B:o.ExactSet)(H:o.data=.set J D t){c:Array (Int×Value)}{e:SetTable}{G:List K}(I:ElX f c.toList G)(N:G.Nodup)
  (hb:c.size<scanBound) (L:e.fits c.size=true) (O:TabOk b e):∃C,(h.update a (Obj.putSet c e)).get? a=some C/\C.ExactSet/\C.data=.set c (D+1) e/\ObX f b C G:=by
 have g:=Jv (Obj.putSet c e) M (by rw[putSet_of c e H];rfl)
 rw[putSet_of c e H] at g;exact⟨_,g,B,rfl,c,D+1,e,B,rfl,I,N,hb,L,O⟩
theorem zee{b:Bool}{g:Bool->Sem Unit}(hg:∀(c:Bool) (s1:Shared) (M:Unit->Shared->Prop),M () s1->wpAny (model l w) A (g c) M E s1){a:Addr}{o:Obj}{es:Array (Int×Value)}{ep:Nat}{t:SetTable}(T:s.heap.get? a=some o)(H:o.ExactSet)
  (Q:o.data=.set es ep t) {e:Array (Int×Value)} {C:SetTable} {I:List K} (O:ElX f e.toList I) (U:I.Nodup) (hb:e.size<scanBound) (hf:C.fits e.size=true) (tb:TabOk b C) {B:Bool} {R:Option Bool->Shared->Prop}
  (h:∀G,Heap.SameBut a s.heap G->SetX f b G a I->R (some true) { s with heap:=G }) :
  wpAny (model l w) A (storeSet a e C >>= fun _=>if(!B&&C.tooFull)=true then g (relayAll C e (SetTable.grown e.size)).2.2 >>= fun _=>storeSet a (relayAll C e (SetTable.grown e.size)).1 (relayAll C e (SetTable.grown e.size)).2.1 >>= fun _=>pure (some true) else pure (some true)) R E s:=by
 obtain⟨o1,D,x1,N,J⟩:=zgz T H Q O U hb hf tb;have sb:=Qd s.heap a (Obj.putSet e C);refine zi (wpAny_storeSet_of T Q ?_ (fits_of_scanBound hb))
 split
 ·have Y:=relayAll_perm C e (SetTable.grown e.size)
  have ft:=relayAll_fits C e (SetTable.grown e.size);have tr:=tb.relay e (SetTable.grown e.size);have sz:(relayAll C e (SetTable.grown e.size)).1.size=e.size:=by have:=Y.length_eq;rwa[jO,jO] at this
  obtain⟨o2,g2,x2,d2,L⟩:=zgz D x1 N (O.perm Y) U (by rw[sz];exact hb) ft tr
  exact zi (hg _ _ _ (zi (wpAny_storeSet_of D N (zE (h _ (sb.trans (Qd _ a _)) ⟨o2,g2,L⟩)) (fits_of_scanBound (by rw[sz];exact hb)))))
 ·exact zE (h _ sb ⟨o1,D,J⟩)
theorem zhK{b:Bool}{a:Addr}{g:List K}{k:K}{x:Value}{Q:Bool->Shared->Prop}(B:f.is k x=true)(J:x.scannable=true)(hS:SetX f b s.heap a g)(I:g.length+1<scanBound)
  (h:∀G c,Heap.SameBut a s.heap G->SetX f b G a (if k∈g then g else g++[k])->Q c { s with heap:=G }):wpAny (model l w) A (setAddHashed a x (f.hash k)) Q E s:=by
 obtain⟨o,Y,M,ep,t,H,U,C,nd,hb,hf,tb⟩:=hS;have ln:=C.len;rw[jO] at ln;unfold setAddHashed setAddHashedIn;refine vD (zi (wpAny_setState_of Y U hf ?_));dsimp only
 rw[byScan_of J hb C.1,zC rfl];unfold setAddByScan;refine zi (zi (xT (zi (wpAny_setScan_of B Y U hf C.1 ?_))))
 cases hr:List.findIdx? (fun e=>f.is k e.2) M.toList with
 | some j=>
  obtain⟨hj,aa,_⟩:=List.findIdx?_eq_some_iff_getElem.mp hr
  have hk:k∈g:=(C.mem k).mpr ⟨_,vZ hj,aa⟩;have:=h s.heap false (Heap.SameBut.refl a s.heap) (by rw[zC hk];exact⟨o,Y,M,ep,t,H,U,C,nd,hb,hf,tb⟩)
  exact zE (zE this)
 | none=>
  have hk:k∉g:=fun z=>by
   obtain⟨e,he,r⟩:=(C.mem k).mp z;have:=List.findIdx?_eq_none_iff.mp hr e he
   rw[r] at this;cases this
  rw[zv hk] at h;have gw:∀(c:Bool) (s1:Shared) (Q':Unit->Shared->Prop),Q' () s1->wpAny (model l w) A (match c with | true=>rule "set.scan.the-table-gave-way" | false=>pure ()) Q' E s1:=fun c s1 Q' hq=>by
   cases c
   ·exact zE hq
   ·exact xT hq
  have pm:=layNew_perm t M (f.hash k) x;have O:=layNew_fits t M (f.hash k) x;have tn:=tb.layNew M (f.hash k) x;generalize layNew t M (f.hash k) x=L at pm O tn;obtain⟨N,t1,wd,ab⟩:=L;dsimp only at pm O tn ⊢;rw[Array.toList_push] at pm;have D:ElX f N.toList (g++[k]):=(C.snoc B J).perm pm;have l1:=D.len;rw[jO,zZ] at l1;have T:N.size<scanBound:=by rw[l1];exact I
  have a0:(g++[k]).Nodup:=zaz nd hk;refine zi (gw _ _ _ ?_)
  split
  ·rw[hashByValue_scannable 8 J]
   refine zi (zE (zee gw Y H U D a0 T ?_ ?_ fun G sb sx=>zE (h G true sb sx)))
   ·split
    ·exact O
    ·exact SetTable.fits_plain_off O
   ·split
    ·exact tn
    ·exact tn.plain
  ·exact zi (zE (zee gw Y H U D a0 T O tn fun G sb sx=>zE (h G true sb sx)))
end
def zaC(w:World):Bool:=!w.params.followText "set-order"
def VJ(w:World):Obj:={ cls:=.type "set",dict:=none,data:=.set #[] 0 (.fresh 0 0 (zaC w)) }
section
variable{K:Type}[DecidableEq K]
def xV(B:List K)(k:K):List K:=if k∈B then B else B++[k]
def Qy(C B:List K):List K:=B.foldl xV C
theorem zaY(B:List K)(k:K):(xV B k).length<=B.length+1:=by
 unfold xV;split
 ·omega
 ·rw[zZ];exact zM _
theorem Xy:∀(C B:List K),(Qy B C).length<=B.length+C.length
 | [],B=>zM _
 | j::C,B=>by
  have D:=Xy C (xV B j);have E:=zaY B j;show(Qy (xV B j) C).length<=_;rw[xh];omega
variable{c:Program}{w:World}{g:KeyKind c w K}{A:Around}{R:Result->Shared->Prop}{s l S:Addr}{e:Array Value}{f:List K}{b:Bool}
end
section
variable{c:Program}{w:World}{A:Around}{E:Value->Shared->Prop}{s:Shared}
end
section
variable{c:Program}{w:World}{K:Type}[DecidableEq K]{f:KeyKind c w K}{A:Around}{E:Value->Shared->Prop}{s:Shared}
theorem zbz(h:Heap):SetX f (zaC w) (h.push (VJ w)) h.objs.size []:=
 ⟨VJ w,qk _ rfl,#[],0,_,⟨rfl,rfl,rfl⟩,rfl,⟨fun e g=>by simp at g,[],.refl _,.nil⟩,List.nodup_nil,by decide,rfl,TabOk.fresh _⟩
end
section
variable{M:Model}{A:Around}{E:Value->Shared->Prop}{s:Shared}
end
section
variable{c:Program}{w:World}{A:Around}{E:Value->Shared->Prop}{h:Heap}{g:Array GenState}{d:Drawn}{s:Nat}{os:OsState}{l a:Addr}{o:Obj}{f:Array (Int×Value)}{e:Nat}{t:SetTable}{i:Nat}
end
section
variable{c:Program}{w:World}{A:Around}{E:Value->Shared->Prop}{s:Shared}{a:Addr}{o:Obj}{f:Array (Int×Value)}{e:Nat}{t:SetTable}{i g:Nat}
end
section
variable{e:Program}{w:World}{A:Around}{E:Value->Shared->Prop}{h:Heap}{g:Array GenState}{d:Drawn}{D:Nat}{os:OsState}{s a T:Addr}{o B:Obj}{l:Array (Int×Value)}{f:Nat}{t:SetTable}{i n c:Nat}{C:Array Value}
end
section
variable{c:Program}{w:World}{A:Around}{E:Value->Shared->Prop}{s:Shared}{e:Addr}{f:Obj}
end
section
variable{e:Program}{w:World}{A:Around}
variable{l a T:Addr}{o s:Obj}{g:Array (Int×Value)}{f c:Nat}{t:SetTable}
end
section
variable{c:Program}{w:World}{A:Around}{E:Value->Shared->Prop}{s:Shared}{a:Addr}{o:Obj}{f:Array (Int×Value)}{e:Nat}{t:SetTable}
end
section
variable{X:Cx}
def zbA(P:Program)(w:World)(p:Addr)(c:List Key):HO:=.ext fun h=>SetX (zW P w) (zaC w) h p c
end
theorem Inv.drawn{X:Cx}{c:List (Addr×Obj)}{σ:St}{H:Hp}{s:Shared}(I:Inv X c σ H s)(d:Drawn):Inv X c σ H { s with drawn:=d }:=
 I.call' (s':={ s with drawn:=d }) (ch:=[]) rfl Un.refl I.hok I.bare fun b hb=>(nomatch hb)
section
variable{X:Cx}
end
theorem zd1(l:Addr)(e:Array Value)(n:Nat)(b:Addr)(c:Array Value)(Q:¬(!e.isEmpty&&Builtin.List.listTooLong (e.size+c.size))=true)(G:e.size<=sizeLine)(H:e.size+c.size<=sizeLine+1) :
  Meets (Builtin.«list.extend» ⟨[.ref l,.ref b],[]⟩) (fun _ R s=>s.heap.get? l=some { cls:=.type "list",dict:=none,data:=.seq e n,slots:=#[] }/\IsTup s.heap b c/\R (.ok (.ret Value.none)) { s with heap:=s.heap.update l (Obj.mapSeq fun x=>x++c),toks:=s.toks }):=
 .of_wp fun E w A R s h=>by
  obtain⟨hp,g,d,Y,os⟩:=s;obtain⟨C,⟨⟨cls,I,data,U⟩,hb,hc,T,B⟩,h⟩:=h;simp only at hc B;subst hc B;have J:=AutoSeq1.idx_int;have L:=AutoSeq1.sub_tuple_tuple;have M:=AutoSeq1.sub_list_list;have N:=AutoSeq1.sub_tuple_list;have O:=AutoSeq1.sub_list_tuple
  have D:(e++c).size<=sizeLine+1:=by rw[Array.size_append];exact H
  wp_walk using (wpAny_updateSeq C rfl (hz:=G) (_hz':=D)),AutoSeq1.wpAny_loadPart' C,AutoSeq1.wpAny_loadPart' hb
  exact⟨_,rfl,h⟩
section
variable{X:Cx}{D A f:Expr}{M E:List Expr}{c:Scope}{O:Pos}{wi Y:TI}{tf U:TT}{te:TE}{x y z u:Str}{px py pz pu tp J:Pos}{kk G:Nat}
theorem zdr(I:List Str)(js:List Nat)(hc:X.calm=true)(hk:c.kind=.function)(hb:x5 c.names X.env.scope.names X.N [x,y,z,u] I js=true)(hi:PI X (.Tuple [.Name x px,.Name y py] kk tp) A Y)
  (hf:∀C s H l,PF (zH X ([x,y,z,u]++I) c C s H l) M U) (aa:∀C s H l,PI (zH X ([x,y,z,u]++I) c C s H l) (.Tuple [.Name z pz,.Name u pu] G J) f wi) (a0:∀C s H l,PF (zH X ([x,y,z,u]++I) c C s H l) E tf)
  (he:∀C s H l,PE (zH X ([x,y,z,u]++I) c C s H l) D te) (hs:∀x,foldedSetIterable A X.env x=pure x:=by intro _;rfl) (ab:∀C x,foldedSetIterable f (compEnvC c (jw X.env.cells c.names []) C X.env) x=pure x:=by intro _ _;rfl) :
  PE X (lc2 D (.Tuple [.Name x px,.Name y py] kk tp) A M (.Tuple [.Name z pz,.Name u pu] G J) f E c O) (zeV Y 4 js (QF X.K 2 (j8 (jG 0) (j8 (jG 1) JR))) U wi (QF X.K 2 (j8 (jG 2) (j8 (jG 3) JR))) tf te):=by
 obtain⟨h1,Q,h3⟩:=jV hb;refine zb3 [x,y,z,u] I js hc hk h1 hi (fun C s H l=>?_) hf aa (fun C s H l=>?_) a0 he hs ab
 ·exact qF (X:=zH X ([x,y,z,u]++I) c C s H l) hc (zr (jf (Q x (by simp)) h3 rfl) (zr (jf (Q y (by simp)) h3 rfl) qe))
 ·exact qF (X:=zH X ([x,y,z,u]++I) c C s H l) hc (zr (jf (Q z (by simp)) h3 rfl) (zr (jf (Q u (by simp)) h3 rfl) qe))
theorem zb4(I:List Str)(js:List Nat)(hc:X.calm=true)(hk:c.kind=.function)(hb:x5 c.names X.env.scope.names X.N [x,y,z,u] I js=true)(hi:PI X (.Tuple [.Name x px,.Tuple [.Name y py,.Name z pz,.Name u pu] G J] kk tp) f wi)
  (hf:∀C s H l,PF (zH X ([x,y,z,u]++I) c C s H l) E tf) (he:∀C s H l,PE (zH X ([x,y,z,u]++I) c C s H l) D te) (hs:∀x,foldedSetIterable f X.env x=pure x:=by intro _;rfl) :
  PE X (.ListComp D [⟨.Tuple [.Name x px,.Tuple [.Name y py,.Name z pz,.Name u pu] G J] kk tp,f,E,0⟩] c O) (tLC wi 4 js (QF X.K 2 (j8 (jG 0) (j8 (QF X.K 3 (j8 (jG 1) (j8 (jG 2) (j8 (jG 3) JR)))) JR))) tf te):=by
 obtain⟨h1,Q,h3⟩:=jV hb;refine zb5 [x,y,z,u] I js hc hk h1 hi (fun C s H l=>?_) hf he hs
 exact qF (X:=zH X ([x,y,z,u]++I) c C s H l) hc (zr (jf (Q x (by simp)) h3 rfl) (zr (qF hc (zr (jf (Q y (by simp)) h3 rfl) (zr (jf (Q z (by simp)) h3 rfl) (zr (jf (Q u (by simp)) h3 rfl) qe)))) qe))
inductive JA(K:W.Frag)(x:V)(y:V)(H:Hp)(Q:VK):Prop
 | mk (a b:Addr) (s l:List Int) (_:x=.ref a) (_:y=.ref b) (_:SqL K H a (s.map V.int)) (_:SqL K H b (l.map V.int)) (_:Q (.bl (decide (s=l))) H):JA K x y H Q
theorem zdx(hu:X.A.units<cLine):OpR X (compareOp .Eq) (JA X.K):=by
 intro ac s σ H x y v u Q I rx ry h;obtain⟨a,b,ns,C,rfl,rfl,hx,hy,q⟩:=h;cases rx;cases ry;obtain⟨l,r1,p1,z1⟩:=I.list hx;obtain⟨ab,r2,p2,z2⟩:=I.list hy;have l1:=r1.length;have l2:=r2.length;rw[zp] at l1 l2;by_cases hl:ns.length=C.length
 ·refine SeqAt.RcAt.lists (e:=fun j=>decide (ns.getD j 0=C.getD j 0)) p1.isList p2.isList (by rw[zX,zX];omega) hu (fun j h1 h2=>?_) _ _ _ _ ⟨.bl _,H,I,rfl,?_⟩
  ·have a0:j<ns.length:=by rw[zX] at h1;omega
   have aa:j<C.length:=by omega
   obtain⟨w1,e1,q1⟩:=r1.get (i:=j) (x:=.int ns[j]) (by simp[a0])
   obtain⟨w2,e2,q2⟩:=r2.get (i:=j) (x:=.int C[j]) (by simp[aa])
   have g1:l.toArray[j]=w1:=by simpa using (zK.mp e1).2
   have g2:ab.toArray[j]=w2:=by simpa using (zK.mp e2).2
   rw[g1,g2,show ns.getD j 0=ns[j] by simp[a0],show C.getD j 0=C[j] by simp[aa]]
   exact JW q1 q2 rfl rfl
  ·have e:((List.range l.toArray.size).all fun j=>decide (ns.getD j 0=C.getD j 0))=decide (ns=C):=by
    rw[zX,<- l1,Zf,xO,yW];constructor
    ·intro h
     refine List.ext_getElem hl fun j h1 h2=>?_
     have:=xF (h j (xD.mpr h1));simpa [h1,h2] using this
    ·intro h j _
     rw[h];exact je rfl
   rw[e];exact q
 ·rw[jN (fun e=>hl (by rw[e]))] at q
  exact SeqAt.RcAt.lists_lengths p1.isList p2.isList (by rw[zX,zX];simpa using fun e=>hl (by omega)) hu _ _ _ _ ⟨.bl _,H,I,rfl,q⟩
inductive Jy(K:W.Frag)(x:V)(y:V)(H:Hp)(Q:VK):Prop
 | mk (a b:Addr) (l:List V) (_:x=.ref a) (_:y=.ref b) (_:SqT K H a l) (_:SqT K H b []) (_:Q (.bl (!l.isEmpty)) H):Jy K x y H Q
theorem zdv(hu:X.A.units<cLine):OpR X (compareOp .NotEq) (Jy X.K):=by
 intro a0 s σ H x y v u Q I rx ry h;obtain⟨a,b,xs,rfl,rfl,hx,hy,q⟩:=h;cases rx;cases ry;obtain⟨l,r1,p1,z1⟩:=I.tuple hx;obtain⟨C,r2,p2,z2⟩:=I.tuple hy;cases r2;refine SeqAt.RcNeAt.tuples (e:=fun _=>true) p1 p2 hu (fun j h1 h2=>by simp at h2) _ _ _ _ ⟨.bl _,H,I,rfl,?_⟩
 have e:(!((List.range (min l.toArray.size ([]:List Value).toArray.size)).all (fun _=>true)&&l.toArray.size==([]:List Value).toArray.size))=!xs.isEmpty:=by
  cases r1 with
  | nil=>rfl
  | cons r t=>simp
 rw[e];exact q
inductive zeB(K:W.Frag)(x:V)(I:List V)(H:Hp)(Q:VK):Prop
 | mk (l b s C:_) (_:x=.ref l) (_:I=[.ref b]) (_:H l=some (.lst s)) (_:SqT K H b C) (_:s.length+C.length<=sizeLine) (_:Q .non (upd H l (.lst (s++C)))):zeB K x I H Q
theorem zdP:MtM X "list.extend" (zeB X.K):=by
 intro ab s σ H x vs v us Q I rx rv h;obtain⟨l,b,xs,zs,rfl,rfl,hH,hB,hz,q⟩:=h;cases rx;obtain⟨u,rfl,ru⟩:=rv.one;cases ru;obtain⟨z,a0,n,r,hl,e⟩:=I.lstM hH;obtain⟨C,r2,p2,z2⟩:=I.tuple hB;have l2:=r2.length;have sz:a0.toArray.size+C.toArray.size<=sizeLine:=by rw[zX,zX];omega
 refine call_meets F.slot_list_extend ⟨_,e,rfl⟩ F.entry_list_extend (F.args_list_extend_2 _ _) (zd1 l a0.toArray n b C.toArray (by rw[ZS sz,V7];exact qO) (by rw[zX];omega) (by omega)) ⟨e,p2,?_⟩
 exact⟨.non,_,I.lset (its':=a0++C) hH e (by simp) (r.append r2) (by rw[zZ];omega),rfl,q⟩
variable{N e:Expr}{w:List Expr}{to:TE}{tt:TA}{B:Str}{L g:Pos}{T id:String}{r:V->List V->Hp->VK->Prop}
theorem zfk{K:W.Frag}(hK:X.K=K)(pa:PlainAttrs T)(I:Slot T B id)(Q:typeOf (.builtin id)=pure (.type "method_descriptor"))(hm:MtR X id r)(ho:PE X N to)(ha:PA X (e::w) tt)
  (s:attributeBase N B X.env (eval N X.env)=eval N X.env:=by rfl)
  (H:((backTo g (starEach (e::w) X.env)).all (fun x=>!x.1)&&(backToKw g (keywordEach [] X.env)).all (fun x=>x.1.isSome)&&decide ((e::w).length+([]:List Keyword).length+(if([]:List Keyword).isEmpty then 0 else 1)<30))=true:=by rfl)
  (C:(L.endLine==g.line)=true:=by rfl) (hs:starEach (e::w) X.env=(false,eval e X.env)::starEach w X.env:=by rfl) (l:(backTo g (starEach w X.env)).any (·.1)=false:=by rfl) :
  PE X (.Call (.Attribute N B L) (e::w) [] g) (tBM K T r to tt):=by
 subst hK;exact xc pa I Q hm ho ha s H C hs l
end
end L2
namespace L2
open PySem PySem.Spec PyProof.Rows PySem.W
def KRun{α:Type}(c:Nat->Nat->Bool)(n:Nat):KasT α->(α->Prop)->Prop
 | .ret a,Q=>Q a
 | .ask i j k,Q=>i<n/\j<n/\KRun c n (k (c i j)) Q
theorem KRun.mono{α:Type}{f:Nat->Nat->Bool}{n:Nat}{Q e:α->Prop}(h:∀a,Q a->e a):∀{t:KasT α},KRun f n t Q->KRun f n t e
 | .ret a,x=>h a x
 | .ask i j k,⟨a,b,c⟩=>⟨a,b,KRun.mono h c⟩
theorem KRun.bind{α β:Type}{e:Nat->Nat->Bool}{n:Nat}{f:α->KasT β}{Q:β->Prop}:∀{t:KasT α},KRun e n t (fun a=>KRun e n (f a) Q)->KRun e n (t.bind f) Q
 | .ret a,x=>x
 | .ask i j k,⟨a,b,c⟩=>⟨a,b,KRun.bind c⟩
theorem KRun.wp{α:Type}{g:Nat->Nat->Bool}{n:Nat}{ask:Nat->Nat->(Bool->Shared->Prop)->Shared->Prop}{J:Shared->Prop}{Q:α->Prop}{G:α->Shared->Prop}
  (l:∀i j,i<n->j<n->∀(C:Bool->Shared->Prop) s,J s->(∀f,J f->C (g i j) f)->ask i j C s) (w:∀a s,Q a->J s->G a s):∀{t:KasT α} {s:Shared},KRun g n t Q->J s->t.kasWp ask G s
 | .ret a,s,x,j=>w a s x j
 | .ask i j k,s,⟨a,b,c⟩,A=>l i j a b _ s A fun f e=>KRun.wp l w c e
section
variable{n:Nat}{r:Nat->Nat}
def vA(r:Nat->Nat)(p:Array Nat)(k:Nat):Nat:=r (p.getD k 0)
structure Gd(n:Nat)(p:Array Nat):Prop where
 pm:p.toList.Perm (List.range n)
theorem Gd.sz{p:Array Nat}(g:Gd n p):p.size=n:=by have:=g.pm.length_eq;rwa[jO,vh] at this
theorem Gd.at{p:Array Nat}(g:Gd n p){k:Nat}(h:k<n):p[k]? =some (p.getD k 0):=by
 rw[WB,wG (by rw[g.sz];exact h)]
 rfl
theorem Gd.lt{p:Array Nat}(g:Gd n p)(e:0<n)(k:Nat):p.getD k 0<n:=by
 by_cases h:k<n
 ·have:=g.at h
  rw[<- Zj] at this;exact xD.mp (g.pm.mem_iff.mp (qq this))
 ·rw[WB,Wq (by rw[g.sz];omega)]
  exact e
theorem Gd.inj{p:Array Nat}(g:Gd n p)(c:∀i j,i<n->j<n->r i=r j->i=j){i j:Nat}(A:i<n)(B:j<n)(e:vA r p i=vA r p j):i=j:=by
 have l:0<n:=by omega
 have w:=c _ _ (g.lt l i) (g.lt l j) e;have C:p.toList.Nodup:=g.pm.nodup_iff.mpr Zg;have a1:=g.at A;have a2:=g.at B;rw[<- Zj] at a1 a2;obtain⟨b1,c1⟩:=zK.mp a1;obtain⟨b2,s⟩:=zK.mp a2;exact(Ql C).mp (by rw[c1,s,w])
def AscA(r:Nat->Nat)(p:Array Nat)(m:Nat):Prop:=∀i j,i<j->j<m->vA r p i<vA r p j
def DscA(r:Nat->Nat)(p:Array Nat)(m:Nat):Prop:=∀i j,i<j->j<m->vA r p j<vA r p i
theorem AscA.step{p:Array Nat}{m:Nat}(h:AscA r p m)(s:1<=m)(l:vA r p (m-1)<vA r p m):AscA r p (m+1):=fun i j g w=>by
 by_cases e:j=m
 ·subst e
  by_cases e2:i=j-1
  ·subst e2;exact l
  ·have:=h i (j-1) (by omega) (by omega)
   omega
 ·exact h i j g (by omega)
theorem DscA.step{p:Array Nat}{m:Nat}(h:DscA r p m)(s:1<=m)(l:vA r p m<vA r p (m-1)):DscA r p (m+1):=fun i j g w=>by
 by_cases e:j=m
 ·subst e
  by_cases e2:i=j-1
  ·subst e2;exact l
  ·have:=h i (j-1) (by omega) (by omega)
   omega
 ·exact h i j g (by omega)
variable{f:Nat->Nat->Bool}(c:∀i j,i<n->j<n->r i=r j->i=j)(hb:∀i j,i<n->j<n->f i j=decide (r i<r j))
include c hb
end
end L2
namespace L2
open PySem PySem.Spec PyProof.Rows PySem.W
section
variable{c:Program}{w:World}{A:Around}{E:Value->Shared->Prop}{s:Shared}
end
end L2
namespace L2
open PySem PySem.Spec PyProof.Rows PySem.W
section
variable{X:Cx}{c:List (Addr×Obj)}{σ:St}{s:Shared}
end
end L2
namespace L2
open PySem PySem.Spec PyProof.Rows PySem.W
section
variable{X:Cx}
end
end L2
namespace L2
open PySem PySem.Spec PyProof.Rows
section
variable{X:Cx}
variable{f e:Expr}{g:List Expr}{c:Scope}{l:Pos}{G:TI}{D:TT}{C:TE}{x y z:Str}{w A B E:Pos}{s:Nat}
end
section
variable{X:Cx}
end
section
variable{X:Cx}{f B e:Expr}{l:List Expr}{c:Scope}{s:Pos}{C:TI}{g:TG}{A:TT}{w:TE}{x:Str}
end
end L2
namespace L2
open PySem PySem.Spec PyProof.Rows PySem.W
section
variable{c:Program}{w:World}{A:Around}{E:Value->Shared->Prop}{s:Shared}
end
end L2
namespace L2
open PySem PySem.Spec PyProof.Rows PySem.W
def PrR(H:Hp)(e:List V)(c:List (Int×Int)):Prop:=e.length=c.length/\∀(j:Nat) q,c[j]? =some q->∃T,e[j]? =some (.ref T)/\H T=some (.tup [.int q.1,.int q.2])
theorem PrR.nil{H:Hp}:PrR H [] []:=⟨rfl,fun j q e=>by simp at e⟩
theorem PrR.same{H c:Hp}{g:List V}{f:List (Int×Int)}(h:PrR H g f)(s:Same H c):PrR c g f:=⟨h.1,fun j k e=>let ⟨T,a,b⟩:=h.2 j k e;⟨T,a,s _ _ b⟩⟩
theorem PrR.snoc{H:Hp}{s:List V}{f:List (Int×Int)}{q:Int×Int}{T:Addr}(h:PrR H s f)(e:H T=some (.tup [.int q.1,.int q.2])):PrR H (s++[.ref T]) (f++[q]):=by
 refine⟨by rw[zZ,zZ,h.1];rfl,fun j r c=>?_⟩
 by_cases g:j<f.length
 ·rw[xH g] at c
  obtain⟨U,e1,e2⟩:=h.2 j r c;exact⟨U,by rw[xH (by rw[h.1];exact g)];exact e1,e2⟩
 ·have l:=(zK.mp c).1
  rw[zZ] at l;have w:j=f.length:=by simp at l;omega
  subst w;rw[xQ (zM _),wO] at c;have:q=r:=by simpa using c
  subst this;exact⟨T,by rw[<- h.1,xQ (zM _),wO];rfl,e⟩
section
variable{X:Cx}
end
end L2
namespace L2
open PySem PySem.Spec PyProof.Rows
section
variable{X:Cx}
theorem zby{K:W.Frag}(h:X.K=K):SlR X (ze6 K):=by rw[<- h];exact jP
end
def AtQ(K:W.Frag)(H:Hp)(t:Bool)(a:Addr)(c:List V):Prop:=if t=true then SqT K H a c else H a=some (.lst c)
def SqQ(K:W.Frag)(H:Hp)(t:Bool)(a:Addr)(c:List V):Prop:=if t=true then SqT K H a c else SqL K H a c
theorem AtQ.sq{K:W.Frag}{H:Hp}{t:Bool}{a:Addr}{c:List V}(h:AtQ K H t a c):SqQ K H t a c:=by
 cases t with
 | true=>exact h
 | false=>exact u6 h
theorem AtQ.same{K:W.Frag}{H c:Hp}{t:Bool}{a:Addr}{e:List V}(h:AtQ K H t a e)(s:Same H c):AtQ K c t a e:=by
 cases t with
 | true=>exact s.sqT h
 | false=>exact s _ _ h
def oQ(t:Bool)(c:List V):HO:=if t=true then .tup c else .lst c
def Tkn(H:Hp)(c:List Addr):Prop:=∀e∈c,∃o,H e=some o
theorem Tkn.out{H:Hp}{c:List Addr}{p:Addr}(h:Tkn H c)(hp:H p=none):p∉c:=fun z=>by
 obtain⟨o,e⟩:=h p z;rw[hp] at e;cases e
theorem AtQ.new{K:W.Frag}{H:Hp}{e:List Addr}{p:Addr}(T:Tkn H e)(hp:H p=none)(t:Bool)(c:List V):AtQ K (WX e (upd H p (oQ t c))) t p c:=by
 have:=WX.at (T.out hp) (zc (H:=H) (a:=p) (o:=oQ t c));cases t with
 | true=>exact ua this
 | false=>exact this
section
variable{X:Cx}
theorem zce{x y:V}(c:List (Addr×Obj))(s:Shared)(σ:St)(H:Hp)(v u:Value)(Q:VK)(I:Inv X c σ H s)(Y:RelV x v)(ry:RelV y u)(h:∃a b l,x=.ref a/\y=.ref b/\SqT X.K H a []/\SqT X.K H b l/\Q (.ref b) H) :
  wpAny (model X.prog X.w) X.A (binaryOp .Add v u) (EP X c σ Q) X.xe s:=by
 obtain⟨a,b,l,rfl,rfl,B,hb,q⟩:=h;cases Y;cases ry;obtain⟨e,U,O,_⟩:=I.tuple B;obtain⟨D,r2,T,_⟩:=I.tuple hb;have C:e=[]:=U.nil_iff.mpr rfl;obtain⟨⟨c1,w,g1,J⟩,f,E,M,e1⟩:=O;obtain⟨⟨c2,A,g2,L⟩,g,G,N,e2⟩:=T;cases E;cases e1;cases G;cases e2;have m:=tuple_addW0 a b e.toArray D.toArray M N w A J L (by simp[C])
 exact concat_meets ⟨_,f,rfl⟩ ⟨_,g,rfl⟩ noFill_tuple_add seq_tuple_add Wt Wv (Wy _ _) m ⟨f,g,.ref b,H,I,rfl,q⟩
end
end L2
namespace PySem
section
variable{c:Program}{w:World}{A:Around}{d:Addr}{f:Array DictEntry}{e:Nat}
end
end PySem
namespace L2
open PySem PySem.Spec PyProof.Rows
section
variable{X:Cx}
end
section
variable{X:Cx}
variable{o e:Expr}{l:List Expr}{to:TE}{t:TA}{g:Str}{c f:Pos}{id:String}{r:V->List V->Hp->VK->Prop}
end
end L2
namespace L2
open PySem PySem.Spec PyProof.Rows PySem.W
section
variable{X:Cx}
end
end L2
namespace L2
open PySem PySem.Spec PyProof.Rows PySem.W
section
variable{X:Cx}
end
end L2
namespace L2
open PySem PySem.Spec PyProof.Rows PySem.W
section
variable{X:Cx}
end
end L2
namespace L2
open PySem PySem.Spec PyProof.Rows PySem.W
section
variable{c:Program}{w:World}{A:Around}{E:Value->Shared->Prop}{s:Shared}
inductive zaZ(c:Program)(w:World)(A:Around)(s:Shared):List Value->List Value->Bool->Prop
 | nil:zaZ c w A s [] [] false
 | nl {y f}:zaZ c w A s [] (y::f) true
 | ln {x e}:zaZ c w A s (x::e) [] false
 | eq {x y e f b} (h:∀(Q:Bool->Shared->Prop) E,Q true s->wpAny (model c w) A (eqBool x y) Q E s) (t:zaZ c w A s e f b):zaZ c w A s (x::e) (y::f) b
 | ne {x y e f b} (h:∀(Q:Bool->Shared->Prop) E,Q false s->wpAny (model c w) A (eqBool x y) Q E s) (g:∀(Q:Value->Shared->Prop) E,Q (.bool b) s->wpAny (model c w) A (richCompare .Lt x y) Q E s):zaZ c w A s (x::e) (y::f) b
theorem eq_int(x y:Int)(t u:Tok){Q:Bool->Shared->Prop}(h:Q (decide (x=y)) s):wpAny (model c w) A (eqBool (.int x t) (.int y u)) Q E s:=by
 refine(zW c w).eqBool (a:=Sum.inl x) (b:=Sum.inl y) (vS ⟨t,rfl⟩) (vS ⟨u,rfl⟩) ?_
 rw[show decide ((Sum.inl x:Key)=Sum.inl y)=decide (x=y) from decide_eq_decide.mpr ⟨fun z=>vB z,fun z=>by rw[z]⟩]
 exact h
end
section
variable{c:Program}{w:World}{A:Around}{R:Result->Shared->Prop}{I S:Addr}{e f:List Addr}{n:Nat}{P:Nat->Value->Prop}{St:Nat->Heap->Prop}
end
end L2
namespace L2
open PySem PySem.Spec PyProof.Rows PySem.W
def WkR(H:Hp)(e:List V)(c:List (Int×List Int)):Prop:=e.length=c.length/\∀(j:Nat) q,c[j]? =some q->∃T U,e[j]? =some (.ref T)/\H T=some (.tup [.int q.1,.ref U])/\H U=some (.tup (q.2.map V.int))
theorem WkR.nil{H:Hp}:WkR H [] []:=⟨rfl,fun j q e=>by simp at e⟩
theorem WkR.same{H f:Hp}{l:List V}{g:List (Int×List Int)}(h:WkR H l g)(s:Same H f):WkR f l g:=⟨h.1,fun j k e=>let ⟨T,U,a,b,c⟩:=h.2 j k e;⟨T,U,a,s _ _ b,s _ _ c⟩⟩
theorem WkR.snoc{H:Hp}{s:List V}{f:List (Int×List Int)}{q:Int×List Int}{T U:Addr}(h:WkR H s f)(e:H T=some (.tup [.int q.1,.ref U]))(B:H U=some (.tup (q.2.map V.int))):WkR H (s++[.ref T]) (f++[q]):=by
 refine⟨by rw[zZ,zZ,h.1];rfl,fun j r c=>?_⟩
 by_cases g:j<f.length
 ·rw[xH g] at c
  obtain⟨w,A,e1,e2,C⟩:=h.2 j r c;exact⟨w,A,by rw[xH (by rw[h.1];exact g)];exact e1,e2,C⟩
 ·have l:=(zK.mp c).1
  rw[zZ] at l;have D:j=f.length:=by simp at l;omega
  subst D;rw[xQ (zM _),wO] at c;have:q=r:=by simpa using c
  subst this;exact⟨T,U,by rw[<- h.1,xQ (zM _),wO];rfl,e,B⟩
theorem WkR.set{H:Hp}{s:List V}{l:List (Int×List Int)}{q:Int×List Int}{T U:Addr}{i:Nat}(h:WkR H s l)(e:H T=some (.tup [.int q.1,.ref U]))(B:H U=some (.tup (q.2.map V.int))):WkR H (s.set i (.ref T)) (l.set i q):=by
 refine⟨by rw[yS,yS,h.1],fun j r c=>?_⟩
 by_cases f:i=j
 ·subst f
  have g:=(zK.mp c).1;rw[yS] at g;rw[Xo g] at c;cases c;exact⟨T,U,Xo (by rw[h.1];exact g),e,B⟩
 ·rw[Xl f] at c
  obtain⟨w,A,e1,e2,C⟩:=h.2 j r c;exact⟨w,A,by rw[Xl f];exact e1,e2,C⟩
section
variable{X:Cx}
end
end L2
namespace L2
open PySem PySem.Spec PyProof.Rows PySem.W
section
variable{X:Cx}
inductive Zm(P:Program)(w:World)(e:List V)(H:Hp)(Q:VK):Prop
 | mk (a:Addr) (c:List Key) (_:e=[.ref a]) (_:H a=some (zbA P w a c)) (_:Q (.int c.length) H):Zm P w e H Q
theorem zaR:CallR X (.builtin "len") (Zm X.prog X.w):=by
 intro l s σ H T O Q I r h;obtain⟨a,g,rfl,hx,q⟩:=h;obtain⟨u,rfl,J⟩:=Vals.one r;cases(show u=Value.ref a from J)
 obtain⟨⟨o,B,c,M,t,f,w,⟨_,D,E,G⟩,_,C,A,_⟩,_,_⟩:=(show ObjOk X.prog X.w H s.heap a (zbA X.prog X.w a g) from I.hok a _ hx)
 have ln:c.size=g.length:=by
  have e1:=G.length;have e2:=E.length_eq;have L:c.toList.length=c.size:=jO;omega
 have N:scanBound=4096:=rfl;refine call_len_set B f w A (by omega) ⟨.int g.length,H,I.kept (fun b o e=>e),⟨_,by rw[ln]⟩,q⟩
end
end L2
namespace L2
open PySem PySem.Spec PyProof.Rows
section
variable{X:Cx}
end
section
variable{c:Program}{w:World}{K:Type}[DecidableEq K]{e:KeyKind c w K}{A:Around}{E:Value->Shared->Prop}{s:Shared}
end
section
variable{X:Cx}
end
end L2
namespace L2
open PySem PySem.Spec PyProof.Rows PySem.W
section
variable{c:Program}{w:World}{A:Around}{R:Result->Shared->Prop}{I S:Addr}{e f:List Addr}{n:Nat}{P:Nat->Value->Prop}{St:Nat->Heap->Prop}
end
section
variable{X:Cx}
end
end L2
namespace L2
open PySem PySem.Spec PyProof.Rows
section
variable{X:Cx}
end
end L2
namespace L2
open PySem PySem.Spec PyProof.Rows PySem.W
section
variable{X:Cx}
end
end L2
namespace L2
open PySem PySem.Spec PyProof.Rows
section
variable{X:Cx}
end
section
variable{c:Program}{w:World}{A:Around}{E:Value->Shared->Prop}{s:Shared}
theorem V0{t:Addr}{f:List Value}{G:List Value->Shared->Prop}(H:IsTup s.heap t f.toArray)(z:f.length<=sizeLine)
  (k:G f { s with heap:=(s.heap.push (seqObj "list" #[] 0)).update s.heap.objs.size (Obj.mapSeq (·++f.toArray)) }):wpAny (model c w) A (collect (.ref t)) G E s:=by
 obtain⟨l,D,B,m,C⟩:=id H;unfold collect;refine zi (wpAny_runValue (codeAny_builtin entry_proto_collect' ?_))
 show wpAny _ _ (do again (.builtin "list.__iadd__" ⟨[<- newList [],.ref t],[]⟩)) _ _ s
 refine zi (wpAny_newList (zE ⟨Code.quiet_builtin _ (by decide +kernel),codeAny_builtin entry_list_iadd' ?_⟩))
 have e1:(s.heap.push (seqObj "list" #[] 0)).get? t=some l:=qr _ D;have g:(s.heap.push (seqObj "list" #[] 0)).get? s.heap.objs.size=some (seqObj "list" #[] 0):=qk _ rfl;show wpAny _ _ (Builtin.List.listExtendWith (.ref s.heap.objs.size) (.ref t) _) _ _ { s with heap:=s.heap.push (seqObj "list" #[] 0) };unfold Builtin.List.listExtendWith;refine zi (wpAny_typeOf (T:= "tuple") ⟨l,e1,B⟩ ?_)
 rw[zC (by rw[show(Value.type "tuple" == Value.type "tuple")=true from rfl,Bool.or_true])]
 refine zi (listItems_at e1 C (zi (listItems_at g rfl ?_)))
 rw[zv (by simp)]
 refine zi (listUpdate_at g rfl (zE ?_) (qQ _) (by show(#[]++f.toArray).size<=sizeLine+1;simp;omega))
 refine zi (wpAny_load (get?_update_seq g _) ?_)
 show wpAny _ _ (pure ((#[]:Array Value)++f.toArray).toList) G E _;have e:((#[]:Array Value)++f.toArray).toList=f:=by simp
 rw[e];exact zE k
end
section
variable{X:Cx}
inductive vH(K:W.Frag)(f:List V)(H:Hp)(Q:VK):Prop
 | mk (a:Addr) (e:List Int) (_:f=[.ref a]) (_:SqT K H a (e.map V.int)) (_:e.length<64) (_:∀(p:Addr) (c:List Int),H p=none->c.Perm e->c.Pairwise (·<= ·)->Q (.ref p) (upd H p (.lst (c.map V.int)))):vH K f H Q
theorem QG:CallR X (.builtin "sorted") (vH X.K):=by
 intro w s σ H T O Q I r h;obtain⟨a,M,rfl,hx,J,q⟩:=h;obtain⟨u,rfl,G⟩:=Vals.one r;cases(show u=Value.ref a from G)
 obtain⟨c,A,E,L⟩:=I.tuple hx;have g:=A.length;rw[zp] at g;refine Calls.call_function_entry kind_sorted plain_sorted entry_sorted (args_sorted1 _) ?_
 unfold Builtin.«sorted»;refine zi (m:=checkCount "sorted" 1 1 _) (zE (zi (V0 E (by rw[sizeLine_eq];omega) (zi (wpAny_newList ?_ (by rw[sizeLine_eq];omega))))))
 have B:((s.heap.push (seqObj "list" #[] 0)).update s.heap.objs.size (Obj.mapSeq (·++c.toArray))).objs.size=s.heap.objs.size+1:=by rw[Heap.size_update,size_push']
 have at1:(((s.heap.push (seqObj "list" #[] 0)).update s.heap.objs.size (Obj.mapSeq (·++c.toArray))).push (seqObj "list" c.toArray 0)).get? (s.heap.objs.size+1)=some (seqObj "list" c.toArray 0):=by
  rw[<- B];exact qk _ rfl
 rw[show(Value.ref ((s.heap.push (seqObj "list" #[] 0)).update s.heap.objs.size (Obj.mapSeq (·++c.toArray))).objs.size)=Value.ref (s.heap.objs.size+1) from congrArg Value.ref B]
 refine zi (vD (vE slot_list_sort ⟨_,at1,rfl⟩ entry_list_sort (list_sort_tree at1 (Z1 A) (by omega) fun f l a1 a2 a3=>⟨_,rfl,zE ⟨_,rfl,?_⟩⟩) (args_list_sort _)))
 obtain⟨e,C⟩:=sortedAll_at s.heap c f;have D:H (s.heap.objs.size+1)=none:=I.hok.fresh (yO _);refine⟨.ref (s.heap.objs.size+1),_,I.laid (a:=s.heap.objs.size+1) (o:=.lst (l.map V.int)) (t':=s.toks) (fun _ _=>sortedAll_old) (yO _) ⟨?_,f.toList,e,ZB a1,?_⟩,rfl,q _ l D a2 a3⟩
 ·rw[zp,a2.length_eq,sizeLine_eq];omega
 ·exact C.trans (by simp[seqObj])
end
theorem za8(l C f:Expr)(w:List Expr)(g:Scope)(A:Pos)(B s:Value)(e:Env) :
  compTurn (.SetComp l [⟨C,f,w,0⟩] g A) 0 B s e=(do
   standAt f.pos
   match<-pyNext B with
   | none=>pure (.done .next)
   | some v=>
    letOwnedTupleGo C B v
    assign C e v
    let mut ok:=true
    for c in w do
     if ok then ok<-isTrue c e (eval c e)
    if ok then
     (do let v<-eval l e;standAt l.pos;let _<-call (.builtin "set.add") [s,v])
    again (.compLoop (.SetComp l [⟨C,f,w,0⟩] g A) 0 B s e)):=by rfl
section
variable{e:Program}{w:World}{A:Around}{E:Value->Shared->Prop}{R:Result->Shared->Prop}{s:Shared}
theorem zap{C I g D rest c G H B l}
  (M:codeAny (model e w) A (.compLoop (.SetComp C (⟨I,g,D,0⟩::rest) c G) 0 H B l) R s)
  (h:wpAny (model e w) A (pyIter H) (fun J L=>codeAny (model e w) A (.compLoop (.SetComp C (⟨I,g,D,0⟩::rest) c G) 0 J B l) R L) (notedBy (model e w) A l fun x L=>R (.error x) L) s) :
  codeAny (model e w) A (.compStart (.SetComp C (⟨I,g,D,0⟩::rest) c G) 0 H B l) R s:=by
 refine codeAny_of_tree (show wpAny _ A ((compStart (.SetComp C (⟨I,g,D,0⟩::rest) c G) 0 H B l).onRaise (fun x=>do noteFrame x l;standAt theWindowsPlace)) _ _ s from wpAny_notedAt ?_)
 unfold compStart;refine(show wpAny _ A (ask >>= _) _ _ s from zi (wpAny_askSetting (wpAny_ite ?_)))
 split
 ·first
   | exact zE ⟨rfl,M⟩
   | exact zi (zE (zE ⟨rfl,M⟩))
 ·first
   | exact zi (xT (zi (vg (zi (qg h (fun _ _ q=>zE ⟨rfl,q⟩) fun _ _ x=>x)))))
   | (refine zi (xT ?_)
      exact(show wpAny _ _ (standAt g.pos >>= _) _ _ s from zi (vg (zi (qg h (fun _ _ q=>zE ⟨rfl,q⟩) fun _ _ x=>x)))))
theorem zas{B T C:Expr}{D:List Expr}{g:Scope}{H:Pos}{L l:Value}{c:Env}(J:Nat->Shared->Prop)
  (I:∀n s,J n s->wpAny (model e w) A (pyNext L) (fun r s1=>match r with
   | none=>R (.ok .next) s1
   | some v=>wpAny (model e w) A (letOwnedTupleGo T L v) (fun _ s2=>wpAny (model e w) A (assign T c v) (fun _ s3=>
     wpAny (model e w) A (xI D c) (fun ok M=>
      if ok=true then wpAny (model e w) A (eval B c) (fun x N=>
       wpAny (model e w) A (call (.builtin "set.add") [l,x]) (fun _ O=>∃m,m<n/\J m O) (fun _ _=>False) N) (fun _ _=>False) M
      else ∃m,m<n/\J m M) (fun _ _=>False) s3) (fun _ _=>False) s2) (fun _ _=>False) s1) (fun _ _=>False) s)
  (n:Nat) (h:J n s):codeAny (model e w) A (.compLoop (.SetComp B [⟨T,C,D,0⟩] g H) 0 L l c) R s:=by
 have G:∀{α:Type} {t:Sem α} {Q:α->Shared->Prop} {E:Value->Shared->Prop} {s:Shared},wpAny (model e w) A t Q (fun _ _=>False) s->wpAny (model e w) A t Q E s:=fun x=>qg x (fun _ _ q=>q) fun _ _ q=>q.elim
 refine codeAny_loop rfl J (fun k u hJ=>?_) n h
 refine(show wpAny _ A ((compTurn (.SetComp B [⟨T,C,D,0⟩] g H) 0 L l c).onRaise (fun x=>do noteFrame x c;theTreesLotGoes x)) _ _ u from wpAny_noted ?_)
 rw[za8];refine zi (vg (zi (G (qg (I k u hJ) (fun r s1 Y=>?_) fun _ _ q=>q))))
 cases r with
 | none=>exact zE Y
 | some v=>
  refine zi (G (qg Y (fun _ s2 h2=>zi (G (qg h2 (fun _ s3 h3=>zi (G (qg h3 (fun ok M h4=>?_) fun _ _ q=>q))) fun _ _ q=>q))) fun _ _ q=>q))
  cases ok with
  | false=>exact zE ⟨rfl,h4⟩
  | true=>
   have U:wpAny (model e w) A (eval B c) (fun x N=>wpAny (model e w) A (call (.builtin "set.add") [l,x]) (fun _ O=>∃m,m<k/\J m O) (fun _ _=>False) N) (fun _ _=>False) M:=h4
   refine zi (zi (G (qg U (fun x N h5=>zi (vg (zi (G (qg h5 (fun _ O h6=>zE (zE ⟨rfl,h6⟩)) fun _ _ q=>q))))) fun _ _ q=>q)))
variable{K:Type}[DecidableEq K]{f:KeyKind e w K}
theorem zhE{a:Addr}{I:List K}{k:K}{x:Value}{b:Bool}{Q:Value->Shared->Prop}(l:f.is k x=true)(H:x.scannable=true)(L:SetX f b s.heap a I)(B:I.length+1<scanBound)
  (h:∀C J,Heap.SameBut a s.heap C->SetX f b C a (xV I k)->Q .none { s with heap:=C,toks:=J }):wpAny (model e w) A (call (.builtin "set.add") [.ref a,x]) Q E s:=by
 obtain⟨o,M,hb⟩:=id L;obtain⟨Y,U,t,D,_⟩:=id hb;refine vE F.slot_set_add ⟨o,M,D.1⟩ F.entry_set_add ?_ (F.args_set_add_2 _ _)
 have ty:s.TypeIs (.ref a) "set" :=⟨o,M,D.1⟩;unfold Builtin.«set.add»;generalize G:setAdd=T;obtain⟨hp,g,d,J,os⟩:=s;wp_walk
 subst G;refine(show wpAny _ _ (setAdd a x) _ _ _ from vD (zi (f.pyHash l ?_)))
 refine zhK (s:=⟨hp,g,d,J+1,os⟩) l H L B (fun C c N O=>?_)
 exact zE ⟨_,rfl,h C _ N O⟩
theorem zdO{Q:Value->Shared->Prop}(h:Q (.ref s.heap.objs.size) { s with heap:=s.heap.push (VJ w) }):wpAny (model e w) A (newSet (.type "set")) Q E s:=by
 unfold newSet setsByText;refine zi (zi (wpAny_askSetting (zE ?_)))
 dsimp only;simp only[newObj];exact zi (wpAny_alloc (zE h))
end
def tSC(P:Program)(w:World)(T:TI)(n:Nat)(B:List Nat)(g:TG)(O:TT)(M:TE):TE:=fun σ H Q=>T σ H fun J G=>
 ∃W:Nat->Nat->List Key->Hp->Prop,(∃m,W 0 m [] G)/\∀i m e c,W i m e c ->
  (J.stop i c/\∀D,c D=none->Q (.ref D) (upd c D (zbA P w D e))) \/
  (J.go i c/\∃N:List Key->Hp->Prop,(∀E l,N E l->∃C,C<m/\W (i+1) C E l)/\∀x s,J.yld i c x s->g x (upS n B σ) s fun f I=>f.drop n=(upS n B σ).drop n/\O f I fun b A=>
   if b=true then M f A fun y L=>∃k:Key,y=kV k/\e.length+1<4096/\N (xV e k) L else N e A)
section
variable{X:Cx}{w G l:Expr}{A:List Expr}{f:Scope}{E:Pos}{O:TI}{g:TG}{M:TT}{L:TE}
theorem zcz{k:Key}{u:Value}(r:RelV (kV k) u):u.scannable=true:=by
 cases k with
 | inl i=>obtain⟨t,rfl⟩:=r;rfl
 | inr i=>obtain⟨t,rfl⟩:=r;rfl
theorem zgC(own fr:List Str)(js:List Nat)(hc:X.calm=true)(hk:f.kind=.function)(hb:yk f.names X.env.scope.names X.N fr js=true)(hi:PI X G l O)
  (hg:∀C s H ex,PG (zH X (own++fr) f C s H ex) G g) (hf:∀C s H ex,PF (zH X (own++fr) f C s H ex) A M) (he:∀C s H ex,PE (zH X (own++fr) f C s H ex) w L)
  (hs:∀x,foldedSetIterable l X.env x=pure x:=by intro _;rfl):PE X (.SetComp w [⟨G,l,A,0⟩] f E) (tSC X.prog X.w O own.length js g M L):=by
 intro aa s σ H Q I h;have B:=Vt hb;have af:∀y∈f.names,y.2=NameKind.free->∃c,X.env.cells.lookup y.1=some c:=fun y hy e=>I.ok.has y.1 (B.free y hy e)
 rw[arm_eval_SetComp];refine wpAny_comprehension_free (use:=none) rfl hs (YR af) hk (fun y hy e=>B.loc y hy e) (thn (hi aa s σ H _ I h) fun v s1 h1=>thn h1 fun bu s2 h2=>?_)
 obtain⟨it,U,tn,J,H2,e,I2,T,ap,f2,W,⟨m0,w0⟩,bc⟩:=h2;subst e;have fl:∀b∈U,b<s2.heap.objs.size:=fun b hb=>let ⟨o,e,_⟩:=T.obj _ _ ap b hb;zP e
 refine zdO (wpAny_newFunctionEnv B.cell (by intro y hy;simp at hy) (fun h1 am an=>?_) hk)
 dsimp only at am an ⊢;have b0:SetX (zW X.prog X.w) (zaC X.w) (s2.heap.push (VJ X.w)) s2.heap.objs.size []:=zbz s2.heap;have sD:=I2.fpOk (zM s2.heap.objs.size) (I2.hok.fresh (zM s2.heap.objs.size));generalize e3:s2.heap.push (VJ X.w)=h3 at am an b0 ⊢;have k3:∀b o,s2.heap.get? b=some o->h3.get? b=some o:=fun b o e=>by rw[<- e3];exact qr _ e
 have k4:∀b o,h3.get? b=some o->h1.get? b=some o:=fun b o e=>an.extBut b o (qw (zP e)) (qr _ e)
 have I3:Inv X aa σ H2 { s2 with heap:=h3 }:=I2.kept (t':=s2.toks) k3;have hz:h3.objs.size=s2.heap.objs.size+1:=by rw[<- e3,xg]
 have al:s2.heap.objs.size≠h3.objs.size:=by rw[hz];exact qw (Qb _)
 generalize eD:s2.heap.objs.size=D at *
 have fD:∀b∈U,D≠b:=fun b hb=>vY (fl b hb)
 have f3:∀b∈D::U,jX X aa H2 b:=fun b hb=>(qm.mp hb).elim (fun z=>z▸sD) (f2 b)
 have I4:Inv (zH X (own++fr) f h3.objs.size { s2 with heap:=h3,toks:=s2.toks } H2 (D::U)) [] (upS own.length js σ) H2 { s2 with heap:=h1,toks:=s2.toks+([]:List (Str×Value)).length }:=
  V4 own fr js I3 B hk f3 (fun b hb=>by
   show b<h3.objs.size;rw[hz];exact(qm.mp hb).elim (fun z=>z▸Qb _) fun z=>Wc (fl b z)) rfl am k4
 generalize eC:h3.objs.size=C at *
 have hx:∀b∈D::U,∀x c,(jw X.env.cells f.names []).lookup x=some c->c≠b:=fun b hb x c e=>(f3 b hb).2.2.2.2.1 x c (qE e af)
 have bo:∀b∈D::U,b∉frs X.stack:=I4.ok.exfs;have ar:∀{a0:List (Addr×Obj)} {Y:Hp} {b:Addr},b∈D::U->Y b=none->(∀p∈a0,p.1≠b)->jX (zH X (own++fr) f C { s2 with heap:=h3,toks:=s2.toks } H2 (D::U)) a0 Y b:=fun {a0 Y b} hb hn hp=>
  ⟨hn,(I4.ok.exf b hb).1,bo b hb,.inl hb,fun x c e=>hx b hb x c e,fun p h=>hp p (by simpa using h)⟩
 have ah:∀s4:Shared,s4={ s2 with heap:=h1,toks:=s2.toks+([]:List (Str×Value)).length } ->
   codeAny (model X.prog X.w) X.A (.compLoop (.SetComp w [⟨G,l,A,0⟩] f E) 0 (.ref it) (.ref D) (compEnvC f (jw X.env.cells f.names []) C X.env))
    (compPost (model X.prog X.w) X.A X.xe none (EP X aa σ Q) (.ref D) C) s4:=by
  intro s4 e4;refine zas (fun n s'=>∃i ks Y,Inv (zH X (own++fr) f C { s2 with heap:=h3,toks:=s2.toks } H2 (D::U)) [] (upS own.length js σ) Y s'/\tn i s'.heap/\(∀b∈U,Y b=none)/\Y D=none/\SetX (zW X.prog X.w) (zaC X.w) s'.heap D ks/\W i n ks Y) ?_ m0 ?_
  ·rintro n s5 ⟨i,ks,H5,I5,az,as,bg,bq,w5⟩
   obtain⟨o5,av,ac⟩:=id bq;have nc:∀v,o5.data≠.cell v:=fun v q=>by
    obtain⟨es,ep,t,_,hd,_⟩:=ac;rw[hd] at q;cases q
   have aq:=I5.pinned (fp:=[D]) (fun b hb=>by rw[zY.mp hb];exact ar jz bg (fun p hp=>absurd hp (by simp))) (fun b hb=>by
    rw[zY.mp hb];exact⟨_,av,nc⟩)
   have pD:∀p∈[]++qC [D] s5.heap,p.1=D:=fun p hp=>by
    rw[Xa] at hp;exact zY.mp (x8 hp).1
   have mD:(D,o5)∈[]++qC [D] s5.heap:=by
    rw[Xa];exact qZ (zY.mpr rfl) av
   have ak:∀{Y:Hp},(∀b∈U,Y b=none)->∀b∈U,jX (zH X (own++fr) f C { s2 with heap:=h3,toks:=s2.toks } H2 (D::U)) ([]++qC [D] s5.heap) Y b:=fun hn b hb=>ar (jn _ hb) (hn b hb) fun p hp=>by
    rw[pD p hp];exact fD b hb
   rcases bc i n ks H5 w5 with ⟨stop,q⟩ | ⟨go,N,hN,step⟩
   ·refine thn (T.done (zH X (own++fr) f C { s2 with heap:=h3,toks:=s2.toks } H2 (D::U)) rfl rfl rfl hc i _ s5 _ H5 _ aq (ak as) az stop) fun r s6 ⟨hr,I6⟩=>?_
    subst hr;obtain⟨m6,bj,_⟩:=I6.loc;refine⟨m6,bj,fun h7 bm=>?_⟩
    obtain⟨o6,ax,_⟩:=I6.pin (D,_) (qB _ mD);have k7:∀b o,b≠C->s6.heap.get? b=some o->h7.get? b=some o:=fun b o hb e=>bm.extBut b o hb e
    have br:SetX (zW X.prog X.w) (zaC X.w) h7 D ks:=⟨o5,k7 D _ al o6,ac⟩;refine⟨.ref D,upd H5 D (zbA X.prog X.w D ks),?_,rfl,q D ax⟩
    refine I3.call' (s':={ s6 with heap:=h7 }) (ch:=D::U) I6.os (Xz (za6 I6.base (wf eC) k7) jz sD.1) (Jf (YF I6.hok I6.free k7) ax ⟨br,?_,fun h1 h2 x e=>x.at e⟩) I6.bare fun b hb=>?_
    ·exact⟨o5,k7 D _ al o6⟩
    ·obtain⟨_,g1,_,g3,g4,g5⟩:=f3 b hb
     exact⟨g3,g1,g4,g5⟩
   ·refine thn (T.item (zH X (own++fr) f C { s2 with heap:=h3,toks:=s2.toks } H2 (D::U)) rfl rfl rfl hc i _ s5 _ H5 _ aq (ak as) az go) fun r s6 ⟨u,hr,h6⟩=>?_
    subst hr;refine thn h6 fun _ s7 ⟨x,H7,I7,r7,y7,ae,bf⟩=>?_
    have be:=I7.pinned (ak bf) (T.obj _ _ ae);refine thn (hg _ _ _ _ _ s7 _ H7 x u _ be r7 (step x H7 y7)) fun _ s8 ⟨σ8,H8,I8,bh,q8⟩=>?_
    refine thn (hf _ _ _ _ _ s8 σ8 H8 _ I8 q8) fun ok s9 ⟨H9,I9,q9⟩=>?_
    have aj:∀{Y:Hp} {s':Shared},Inv (zH X (own++fr) f C { s2 with heap:=h3,toks:=s2.toks } H2 (D::U)) (([]++qC [D] s5.heap)++qC U s7.heap) σ8 Y s' ->
      Inv (zH X (own++fr) f C { s2 with heap:=h3,toks:=s2.toks } H2 (D::U)) [] (upS own.length js σ) Y s':=fun {Y s'} J=>by
     refine(J.unpinned).unpinned.weak (I5.len.trans J.len.symm) fun k v e=>?_
     obtain⟨hn,e1,_⟩:=wU e;rw[<- bh,Xh] at e1;rw[<- e1];congr 1
     omega
    have mF:∀b∈U,∀o,s7.heap.get? b=some o->(b,o)∈([]++qC [D] s5.heap)++qC U s7.heap:=fun b hb o e=>qB _ (qZ hb e)
    have aw:=jA (qC U s7.heap) mD;have au:∀{Y:Hp} {s':Shared},Inv (zH X (own++fr) f C { s2 with heap:=h3,toks:=s2.toks } H2 (D::U)) (([]++qC [D] s5.heap)++qC U s7.heap) σ8 Y s'->∀b∈U,Y b=none:=fun {Y s'} J b hb=>by
     obtain⟨o,e,_⟩:=T.obj _ _ ae b hb;exact(J.pin (b,o) (qB _ (mF b hb o e))).2.1
    cases ok with
    | false=>
     have ao:N ks H9:=by simpa using q9
     obtain⟨m',hm,w'⟩:=hN _ _ ao;obtain⟨o9,bn,_⟩:=I9.pin (D,_) (qB _ aw);exact⟨m',hm,i+1,ks,H9,aj I9,T.keep _ _ _ ae fun b hb o e=>(I9.pin (b,o) (qB _ (mF b hb o e))).1,au I9,bn,⟨o5,o9,ac⟩,w'⟩
    | true=>
     have ao:L σ8 H9 fun y H6=>∃k:Key,y=kV k/\ks.length+1<4096/\N (xV ks k) H6:=by simpa using q9
     refine thn (he _ _ _ _ _ s9 σ8 H9 _ I9 ao) fun yv bv ⟨y,bd,ab,ay,ky,ey,bi,bs⟩=>?_
     subst ey;obtain⟨m',hm,w'⟩:=hN _ _ bs;obtain⟨bp,ai,_⟩:=ab.pin (D,_) (qB _ aw);refine zhE (vS ay) (zcz ay) ⟨o5,bp,ac⟩ bi fun bt bb ag ba=>?_
     refine⟨m',hm,i+1,xV ks ky,bd,?_,T.keep _ _ _ ae fun b hb o e=>ag.extBut b o (qu (fD b hb)) (ab.pin (b,o) (qB _ (mF b hb o e))).1,au ab,ai,ba,w'⟩
     exact(aj ab).turned (t':=bb) (it:=D) (fun b o hb e=>ag.extBut b o hb e) ai al (.inl jz) (fun x c e=>hx D jz x c e) fun p hp=>absurd (show p∈([]:List (Addr×Obj)) from hp) (by simp)
  ·subst e4
   exact⟨0,[],H2,I4,T.keep _ _ _ ap fun b hb o e=>k4 b o (k3 b o e),fun b hb=>(f2 b hb).1,sD.1,b0.at fun o e=>k4 _ _ e,w0⟩
 exact zap (ah _ rfl) (T.self X.A 0 _ _ _ (T.keep _ _ _ ap fun b hb o e=>k4 b o (k3 b o e)) (ah _ rfl))
end
section
variable{X:Cx}{x y:Str}{A B G:Pos}{w:Nat}{f e:Expr}{g:List Expr}{c:Scope}{l:Pos}{I:TI}{E:TT}{D:TE}
theorem zfh(L:List Str)(M:List Nat)(hc:X.calm=true)(hk:c.kind=.function)(hb:x5 c.names X.env.scope.names X.N [x,y] L M=true)(Y:PI X (.Tuple [.Name x A,.Name y B] w G) e I)
  (U:∀C s H J,PF (zH X ([x,y]++L) c C s H J) g E) (T:∀C s H J,PE (zH X ([x,y]++L) c C s H J) f D)
  (hs:∀x,foldedSetIterable e X.env x=pure x:=by intro _;rfl):PE X (.SetComp f [⟨.Tuple [.Name x A,.Name y B] w G,e,g,0⟩] c l) (tSC X.prog X.w I 2 M (QF X.K 2 (j8 (jG 0) (j8 (jG 1) JR))) E D):=by
 obtain⟨Q,N,O⟩:=jV hb;refine zgC [x,y] L M hc hk Q Y (fun C s H J=>?_) U T hs
 exact qF (X:=zH X ([x,y]++L) c C s H J) hc (zr (jf (N x (by simp)) O rfl) (zr (jf (N y (by simp)) O rfl) qe))
end
theorem ze2{K:W.Frag}{a:Addr}{xs:List V}{g:TG}{J:TT}{I:TE}{A:St}{n:Nat}{R:List Key->Hp->Prop}{H:Hp}(Pv:Nat->List Key->Hp->Prop)(L:Pv 0 [] H)
  (M:∀i c H,Pv i c H->SqT K H a xs)
  (Q:∀i x c H,xs[i]? =some x->Pv i c H->g x A H fun l D=>l.drop n=A.drop n/\J l D fun b s=>
   if b=true then I l s fun v E=>∃k:Key,v=kV k/\c.length+1<4096/\Pv (i+1) (xV c k) E else Pv (i+1) c s)
  (O:∀c H,Pv xs.length c H->R c H) :
  ∃W:Nat->Nat->List Key->Hp->Prop,(∃m,W 0 m [] H)/\∀i m c f,W i m c f ->
   ((Itt K a).stop i f/\R c f) \/
   ((Itt K a).go i f/\∃N:List Key->Hp->Prop,(∀c B,N c B->∃G,G<m/\W (i+1) G c B)/\∀x C,(Itt K a).yld i f x C->g x A C fun l D=>l.drop n=A.drop n/\J l D fun b s=>
    if b=true then I l s fun y E=>∃k:Key,y=kV k/\c.length+1<4096/\N (xV c k) E else N c s):=by
 refine⟨fun i m c f=>m=xs.length-i/\i<=xs.length/\Pv i c f,⟨_,rfl,qQ _,L⟩,?_⟩
 rintro i m c f ⟨rfl,Y,p⟩;have q:=M i c f p;by_cases w:i<xs.length
 ·refine .inr ⟨⟨xs,xs[i],q,by simp[w]⟩,Pv (i+1),fun U B T=>⟨_,by omega,rfl,w,T⟩,fun x C y=>?_⟩
  obtain⟨e,y⟩:=y;subst e;exact Q i x c _ (y xs q) p
 ·have e:i=xs.length:=by omega
  subst e;exact .inl ⟨⟨xs,q,zM _⟩,O c f p⟩
section
variable{X:Cx}
end
section
variable{X:Cx}{c:Pos}
end
end L2
namespace L2
open PySem PySem.Spec PyProof.Rows PySem.W
section
variable{X:Cx}
variable{c:Expr}
end
end L2
namespace L2
open PySem PySem.Spec PyProof.Rows
section
variable{g:Program}{w:World}{K:Type}[DecidableEq K](f:KeyKind g w K)
def IsPK(h:Heap)(k:List K×List K)(a:Addr):Prop:=∃o n B C,h.get? a=some o/\o.cls=.type "tuple" /\ o.data=.seq #[.ref B,.ref C] n/\IsTupleKey f h k.1 B/\IsTupleKey f h k.2 C
variable{f}
theorem IsPK.ty{s:Shared}{k:List K×List K}{a:Addr}(x:IsPK f s.heap k a):s.TypeIs (.ref a) "tuple" :=let ⟨o,_,_,_,p,q,_⟩:=x;⟨o,p,q⟩
theorem IsPK.inj{h:Heap}{a:Addr}{x y:List K×List K}(p:IsPK f h x a)(q:IsPK f h y a):x=y:=by
 obtain⟨o,n,B,C,e,_,d,b,c⟩:=p;obtain⟨M,L,I,J,D,_,l,G,H⟩:=q;rw[e] at D;cases D;rw[d] at l;cases l;exact Prod.ext (b.inj G) (c.inj H)
theorem IsPK.keeps{h H:Heap}{k:List K×List K}{a d:Addr}{o:Obj}{J I}(x:IsPK f h k a)(l:h.get? d=some o)(D:o.data=.dict J I)(G:Heap.SameBut d h H):IsPK f H k a:=by
 obtain⟨p,n,B,C,e,t,q,b,c⟩:=x;refine⟨p,n,B,C,(G.2 a fun z=>?_).trans e,t,q,b.keeps l D G,c.keeps l D G⟩
 subst z;rw[e] at l;cases l;rw[D] at q;exact nomatch q
variable{A:Around}{E:Value->Shared->Prop}{s:Shared}
end
end L2
namespace PySem
section
variable{c:Program}{w:World}{A:Around}{E:Value->Shared->Prop}{s:Shared}{d g:Addr}{f:Array DictEntry}{e i:Nat}
end
end PySem
namespace L2
open PySem PySem.Spec PyProof.Rows PySem.W
section
variable{X:Cx}{c:List (Addr×Obj)}{σ:St}{H:Hp}{s:Shared}
end
end L2
namespace L2
open PySem PySem.Spec PyProof.Rows PySem.W
section
variable{X:Cx}
end
end L2
namespace L2
open PySem PySem.Spec PyProof.Rows
abbrev zfT:=Addr->V->V->Hp->(Hp->Prop)->Prop
section
variable{X:Cx}{s D A e:Expr}{f:List Expr}{c:Scope}{l:Pos}{E:TI}{g:TG}{w:TT}{B C:TE}{mk:Addr->HO}{t:zfT}
end
end L2
namespace L2
open PySem PySem.Spec PyProof.Rows PySem.W
section
variable{X:Cx}{f D Q e:Expr}{g:List Expr}{c:Scope}{w:Pos}{T:TI}{L:TT}{J M O:TE}{mk:Addr->HO}{t:zfT}{x y z u:Str}{G H I E N A B:Pos}{C l s:Nat}
end
def zhh(K:W.Frag)(H:Hp)(a:Addr)(p:Int×List Int):Prop:=∃U,SqT K H a [.int p.1,.ref U]/\SqT K H U (p.2.map V.int)
def WkO(h:Heap)(a:Addr)(p:Int×List Int):Prop:=∃o n t U,h.get? a=some o/\o.cls=.type "tuple" /\ o.data=.seq #[.int p.1 t,.ref U] n/\∃c f e,h.get? U=some c/\c.cls=.type "tuple" /\ c.data=.seq e f/\Vals (p.2.map V.int) e.toList
theorem WkO.keep{h c:Heap}{a:Addr}{p:Int×List Int}(x:WkO h a p)(k:∀b o,h.get? b=some o->c.get? b=some o):WkO c a p:=
 let ⟨o,n,t,U,a1,a2,a3,f,e,g,b1,b2,b3,b4⟩:=x;⟨o,n,t,U,k _ _ a1,a2,a3,f,e,g,k _ _ b1,b2,b3,b4⟩
end L2
namespace L2
open PySem PySem.Spec PyProof.Rows
section
variable{X:Cx}{s D A e:Expr}{f:List Expr}{c:Scope}{l:Pos}{E:TI}{g:TG}{w:TT}{B C:TE}{mk:Addr->HO}{t:zfT}
end
end L2
namespace L2
open PySem PySem.Spec PyProof.Rows PySem.W
def WkS(K:W.Frag)(H:Hp)(e:List V)(c:List (Int×List Int)):Prop:=e.length=c.length/\∀(j:Nat) q,c[j]? =some q->∃T,e[j]? =some (.ref T)/\zhh K H T q
theorem WkS.nil{K:W.Frag}{H:Hp}:WkS K H [] []:=⟨rfl,fun j q e=>by simp at e⟩
theorem WkS.snoc{K:W.Frag}{H:Hp}{s:List V}{f:List (Int×List Int)}{q:Int×List Int}{T:Addr}(h:WkS K H s f)(e:zhh K H T q):WkS K H (s++[.ref T]) (f++[q]):=by
 refine⟨by rw[zZ,zZ,h.1];rfl,fun j r c=>?_⟩
 by_cases g:j<f.length
 ·rw[xH g] at c
  obtain⟨w,e1,e2⟩:=h.2 j r c;exact⟨w,by rw[xH (by rw[h.1];exact g)];exact e1,e2⟩
 ·have l:=(zK.mp c).1
  rw[zZ] at l;have A:j=f.length:=by simp at l;omega
  subst A;rw[xQ (zM _),wO] at c;cases(show some q=some r from c)
  exact⟨T,by rw[<- h.1,xQ (zM _),wO];rfl,e⟩
end L2
namespace L2
open PySem PySem.W PySem.Spec PyProof.Rows
section
variable{X:Cx}
end
end L2
namespace L2
open PySem PySem.Spec PyProof.Rows
def pr2(q:Int×Int):List V:=[.int q.1,.int q.2]
section
variable{X:Cx}{c:List (Addr×Obj)}{σ:St}{H:Hp}{s:Shared}
end
section
variable{X:Cx}
end
def lpN(m:Nat):Nat->Nat->Nat->Nat×Nat
 | 0,i,q=>(i,q)
 | n+1,i,q=>lpN m n (SetTable.leap m i q).1 (SetTable.leap m i q).2
def fN(m:Nat):Nat->Nat->Nat
 | 0,i=>i
 | n+1,i=>fN m n ((i*5+1) % (m+1))
theorem JV(m:Nat):∀a b i:Nat,fN m (a+b) i=fN m b (fN m a i)
 | 0,b,i=>by rw[vz];rfl
 | a+1,b,i=>by rw[Nat.succ_add];exact JV m a b _
theorem Yy(m:Nat):∀a b i q:Nat,lpN m (a+b) i q=lpN m b (lpN m a i q).1 (lpN m a i q).2
 | 0,b,i,q=>by rw[vz];rfl
 | a+1,b,i,q=>by rw[Nat.succ_add];exact Yy m a b _ _
theorem zeI(m:Nat):∀n i q:Nat,(lpN m n i q).2=q/32^n
 | 0,i,q=>by rw[Nat.pow_zero,Nat.div_one];rfl
 | n+1,i,q=>by
  rw[Nat.pow_succ,Nat.mul_comm,<- Nat.div_div_eq_div_mul];exact zeI m n _ _
theorem zeJ(m:Nat):∀n i q:Nat,q<32->(lpN m n i q).1=fN m n i
 | 0,i,q,_=>rfl
 | n+1,i,q,h=>by
  have e:q/32=0:=Nat.div_eq_of_lt h;show(lpN m n ((i*5+1+q/32) % (m+1)) (q/32)).1=fN m n ((i*5+1) % (m+1));rw[e];exact zeJ m n _ 0 (by decide)
theorem zcq(m:Nat):∀n i q:Nat,i<=m->(lpN m n i q).1<=m
 | 0,_,_,h=>h
 | n+1,i,q,h=>zcq m n _ _ (yV (yN _ (wN m)))
def Msk(m:Nat):Prop:=m=7\/m=31\/m=127
def orb(m:Nat):Nat->Nat->List Nat
 | 0,_=>[]
 | n+1,i=>i::orb m n ((i*5+1) % (m+1))
theorem zca(m:Nat):∀{n i j:Nat},j∈orb m n i->∃k,k<n/\fN m k i=j
 | n+1,i,j,h=>by
  rcases qm.mp h with e | h
  ·exact⟨0,wN n,e.symm⟩
  ·obtain⟨k,c,f⟩:=zca m h
   exact⟨k+1,Nat.succ_lt_succ c,f⟩
def zhg(m:Nat):Bool:=(List.range (m+1)).all (fun j=>(orb m (m+1) 0).contains j)&&fN m (m+1) 0==0
theorem zd6{m:Nat}(h:Msk m):zhg m=true:=by
 rcases h with rfl | rfl | rfl<;>kernel_rfl
theorem Msk.hit{m i j:Nat}(h:Msk m)(s:i<=m)(f:j<=m):∃n,n<=m/\fN m n i=j:=by
 have c:=zd6 h;unfold zhg at c;rw[jW,xO,jM] at c;have e:∀j,j<=m->∃k,k<m+1/\fN m k 0=j:=fun j f=>zca m (List.contains_iff_mem.mp (c.1 j (xD.mpr (Nat.lt_succ_of_le f))))
 obtain⟨a,w,g⟩:=e i s;obtain⟨b,hb,l⟩:=e j f;by_cases A:a<=b
 ·refine⟨b-a,by omega,?_⟩
  rw[<- g,<- JV,show a+(b-a)=b by omega,l]
 ·refine⟨m+1+b-a,by omega,?_⟩
  rw[<- g,<- JV,show a+(m+1+b-a)=m+1+b by omega,JV,c.2,l]
theorem Msk.leaps{m i j q:Nat}(h:Msk m)(c:i<=m)(f:j<=m)(hq:q<2^64):∃n,n<=m+12/\(lpN m n i q).1=j:=by
 obtain⟨n,g,e⟩:=h.hit (zcq m 12 i q c) f;refine⟨12+n,by omega,?_⟩
 rw[Yy,zeJ m n _ _ (by rw[zeI];exact Nat.div_lt_of_lt_mul (jD hq (by decide))),e]
inductive Far(t:SetTable):Nat->SetTable.Probe->Prop
 | here {k:Nat} {p:SetTable.Probe}:t.slot p.j=.empty->Far t k p
 | step {k:Nat} {p:SetTable.Probe}:Far t k (t.advance p)->Far t (k+1) p
theorem Far.mono{t:SetTable}{k f:Nat}{p:SetTable.Probe}(h:Far t k p)(l:k<=f):Far t f p:=by
 induction h generalizing f with
 | here e=>exact .here e
 | step _ g=>obtain⟨c,rfl⟩:∃c,f=c+1:=⟨f-1,by omega⟩;exact .step (g (by omega))
def zg3(t:SetTable)(p:SetTable.Probe):SetTable.Probe:=t.advance { p with more:=0 }
theorem Far.more{t:SetTable}{k:Nat}:∀{m:Nat} {p:SetTable.Probe},p.more=m->Far t k (zg3 t p)->Far t (k+m+1) p
 | 0,⟨j,_,i,q,d⟩,rfl,h=>.step h
 | m+1,⟨j,_,i,q,d⟩,rfl,h=>.step (Far.more (m:=m) (p:=⟨j+1,m,i,q,d⟩) rfl h)
theorem yC{m i:Nat}(h:i<=m):SetTable.runEnd m i<=m/\i<=SetTable.runEnd m i/\SetTable.runEnd m i<=i+9:=by
 unfold SetTable.runEnd;split<;>omega
theorem Far.leaps{t:SetTable}:∀{n i q:Nat} {d:Option Nat},i<=t.mask->t.slot (lpN t.mask n i q).1=.empty->Far t (10*n) ⟨i,SetTable.runEnd t.mask i-i,i,q,d⟩
 | 0,i,q,d,_,h=>.here h
 | n+1,i,q,d,c,h=>by
  have r:=yC c;have:=Far.leaps (n:=n) (i:=(SetTable.leap t.mask i q).1) (q:=(SetTable.leap t.mask i q).2) (d:=d) (yV (yN _ (wN _))) h;exact(Far.more (m:=SetTable.runEnd t.mask i-i) (p:=⟨i,SetTable.runEnd t.mask i-i,i,q,d⟩) rfl this).mono (by omega)
structure Prb(t:SetTable)(p:SetTable.Probe):Prop where
 le:p.j+p.more<=t.mask
 no:p.dummy=none
theorem Prb.of{t:SetTable}{i q:Nat}(h:i<=t.mask):Prb t ⟨i,SetTable.runEnd t.mask i-i,i,q,none⟩:=⟨by have:=yC h;show i+(SetTable.runEnd t.mask i-i)<=_;omega,rfl⟩
theorem Prb.next{t:SetTable}{p:SetTable.Probe}(h:Prb t p):Prb t (t.advance p):=by
 obtain⟨j,m,i,q,d⟩:=p;cases(show d=none from h.no)
 have l:j+m<=t.mask:=h.le;cases m with
 | zero=>exact Prb.of (yV (yN _ (wN _)))
 | succ m=>exact⟨show j+1+m<=t.mask by omega,rfl⟩
theorem Far.go{t:SetTable}{f:Nat->Int}{h:Int}(B:t.dummies=#[]):∀{fuel k:Nat} {p:SetTable.Probe},Far t k p->Prb t p->k<fuel ->
  (∃j,SetTable.probe.go t f h fuel p=some (.empty j none)/\t.place[SetTable.below t.place j]?≠some j/\j<=t.mask) \/
  ∃j i q s,SetTable.probe.go t f h fuel p=some (.candidate j i q)/\t.slot j=.live i/\f i=h/\Prb t q/\Far t s q/\s<k
 | 0,k,p,_,_,l=>absurd l (yR k)
 | fuel+1,k,p,D,A,l=>by
  have M:=A.le;rcases Q3 B p.j with ⟨c1,C⟩ | ⟨i,c⟩
  ·refine .inl ⟨p.j,?_,C,by omega⟩
   unfold SetTable.probe.go;rw[c1];show some (SetTable.Met.empty p.j p.dummy)=_;rw[A.no]
  ·cases D with
   | here e=>rw[c] at e;cases e
   | @step s _ g=>
    by_cases e:f i=h
    ·refine .inr ⟨p.j,i,t.advance p,s,?_,c,e,A.next,g,Qb _⟩
     unfold SetTable.probe.go;rw[c];dsimp only;rw[zC (jM.mpr e)]
    ·have e2:SetTable.probe.go t f h (fuel+1) p=SetTable.probe.go t f h fuel (t.advance p):=by
      rw[SetTable.probe.go];rw[c];dsimp only;rw[zv fun z=>e (jM.mp z)]
     rw[e2];rcases Far.go (f:=f) (h:=h) B g A.next (by omega:s<fuel) with w | ⟨j,E,q,G,w1,H,I,J,L,N⟩
     ·exact .inl w
     ·exact .inr ⟨j,E,q,G,w1,H,I,J,L,by omega⟩
structure TabT(t:SetTable)(n:Nat):Prop where
 up:Up t.place
 no:t.dummies=#[]
 le:∀j∈t.place.toList,j<=t.mask
 sz:t.place.size=n
 ms:(t.mask=7/\n<=4)\/(t.mask=31/\n<=18)\/(t.mask=127/\n<=76)
theorem TabT.lt{t:SetTable}{n:Nat}(h:TabT t n):n<t.mask:=by rcases h.ms with ⟨e,_⟩ | ⟨e,_⟩ | ⟨e,_⟩<;>omega
theorem TabT.fits{t:SetTable}{n:Nat}(h:TabT t n):t.fits n=true:=by
 have:=h.lt;have z:t.place.size=n:=h.sz;have:t.fill=n:=by unfold SetTable.fill;rw[h.no,z];rfl
 unfold SetTable.fits;rw[jW,jM,yW];omega
theorem TabT.fresh(b:Bool):TabT (.fresh 0 0 b) 0:=⟨List.Pairwise.nil,rfl,fun j h=>(nomatch h),rfl,.inl ⟨rfl,by decide⟩⟩
theorem YH{m:Nat}{owner:Array (Option Nat)}:∀{fuel n i q:Nat},i<=m->n<fuel->(owner.getD (lpN m n i q).1 (some 0)).isNone=true ->
  ∃j,j<=m/\SetTable.layClean.free m owner fuel i q=some j/\(owner.getD j (some 0)).isNone=true
 | 0,n,i,q,_,l,_=>absurd l (yR n)
 | fuel+1,n,i,q,f,l,h=>by
  have r:=yC f;unfold SetTable.layClean.free;cases c:(List.range (SetTable.runEnd m i+1-i)).find? fun k=>(owner.getD (i+k) (some 0)).isNone with
  | some k=>
   have e:=List.find?_some c
   have g:=xD.mp (zcW c);exact⟨i+k,by omega,rfl,e⟩
  | none=>
   cases n with
   | zero=>
    have:=Wf.mp c 0 (xD.mpr (by omega))
    exact absurd h this
   | succ n=>exact YH (yV (yN _ (wN m))) (Nat.lt_of_succ_lt_succ l) h
theorem zdX{l:List (Option Nat)}{k:Nat}:∀{j:Nat},l[j]? =some none->((l.set j (some k)).filterMap id).Perm (k::l.filterMap id):=by
 induction l with
 | nil=>intro j h;simp at h
 | cons x l c=>
  intro j h;cases j with
  | zero=>
   cases(show x=none by simpa using h)
   exact .refl _
  | succ j=>
   have:=c (j:=j) (by simpa using h)
   cases x with
   | none=>exact this
   | some y=>exact(this.cons y).trans (.swap _ _ _)
structure Own(m k:Nat)(o:Array (Option Nat)):Prop where
 sz:o.size=m+1
 pm:(o.toList.filterMap id).Perm (List.range k)
theorem Own.free{m k:Nat}{o:Array (Option Nat)}(h:Own m k o)(B:k<=m):∃j,j<=m/\(o.getD j (some 0)).isNone=true:=by
 refine Classical.byContradiction fun w=>?_
 have all:∀x∈o.toList,x.isSome=true:=fun x hx=>by
  obtain⟨j,c,e⟩:=Ju.mp hx;rw[jO,h.sz] at c;cases x with
  | some y=>rfl
  | none=>
   refine absurd ⟨j,by omega,?_⟩ w
   have e2:o[j]? =some none:=by rw[<- Zj,<- e];exact qP _
   unfold Array.getD;rw[dif_pos (by rw[h.sz];exact c)]
   have:o[j]'(by rw[h.sz];exact c)=none:=jm ((wG _).symm.trans e2)
   show(o[j]'_).isNone=true;rw[this];rfl
 have f:∀{l:List (Option Nat)},(∀x∈l,x.isSome=true)->(l.filterMap id).length=l.length:=fun {l}=>by
  induction l with
  | nil=>exact fun _=>rfl
  | cons x l s=>
   intro a;have hx:=a x (by simp)
   cases x with
   | none=>cases hx
   | some y=>show(l.filterMap id).length+1=_;rw[s fun z g=>a z (jn _ g)];rfl
 have e1:=f all;have e2:=h.pm.length_eq;rw[vh] at e2;have A:o.toList.length=m+1:=by rw[jO,h.sz]
 omega
theorem Vf{m:Nat}(B:Msk m):∀{hs:List Int} {k:Nat} {o:Array (Option Nat)},Own m k o->k+hs.length<=m->∃g,hs.foldl (fun l h=>(do
   let (c,k)<-l
   let j<-SetTable.layClean.free m c (SetTable.turns m) (SetTable.bits h % (m+1)) (SetTable.bits h)
   pure (c.setIfInBounds j (some k),k+1):Option (Array (Option Nat)×Nat))) (some (o,k))=some (g,k+hs.length)/\Own m (k+hs.length) g
 | [],k,o,w,_=>⟨o,rfl,w⟩
 | h::hs,k,o,w,E=>by
  rw[xh] at E;obtain⟨L,D,G⟩:=w.free (by omega)
  have hb:SetTable.bits h<2^64:=by
   unfold SetTable.bits;have:=wD h (by decide:(0:Int)<2^64)
   have:=wB h (by decide:(2^64:Int)≠0)
   omega
  have A:SetTable.bits h % (m+1)<=m:=yV (yN _ (wN _));obtain⟨n,J,e⟩:=B.leaps A D hb;obtain⟨j,M,C,s⟩:=YH (owner:=o) (fuel:=SetTable.turns m) (n:=n) A (by unfold SetTable.turns;omega) (by rw[e];exact G)
  have f:j<o.size:=by rw[w.sz];omega
  have H:o[j]? =some none:=by
   unfold Array.getD at s;rw[dif_pos f] at s;rw[wG f];exact congrArg some (Option.isNone_iff_eq_none.mp s)
  have I:Own m (k+1) (o.setIfInBounds j (some k)):=⟨by rw[Array.size_setIfInBounds];exact w.sz,by
   rw[Array.toList_setIfInBounds,List.range_succ];exact((zdX (by rw[Zj];exact H)).trans (w.pm.cons k)).trans (zcY k (List.range k)).symm⟩
  obtain⟨g,e1,e2⟩:=Vf B (hs:=hs) I (by omega)
  refine⟨g,?_,by rw[xh,show k+(hs.length+1)=k+1+hs.length by omega];exact e2⟩
  rw[List.foldl_cons,xh,show k+(hs.length+1)=k+1+hs.length by omega,<- e1]
  congr 1
  show((SetTable.layClean.free m o (SetTable.turns m) (SetTable.bits h % (m+1)) (SetTable.bits h)).bind fun j=>pure (o.setIfInBounds j (some k),k+1))=_
  rw[C];rfl
theorem zaE{m:Nat}(e:Msk m){c:Array Int}(l:c.size<=m):∃o,SetTable.layClean m c=some o/\Own m c.size o:=by
 have g:Own m 0 (Array.replicate (m+1) none):=⟨Array.size_replicate ..,by
  rw[Array.toList_replicate];have:∀n,(List.replicate n (none:Option Nat)).filterMap id=[]:=fun n=>by
   induction n with
   | zero=>rfl
   | succ n f=>exact f
  rw[this];exact .refl _⟩
 obtain⟨o,e1,e2⟩:=Vf e (hs:=c.toList) g (by rw[jO];omega)
 rw[vz,jO] at e1 e2;refine⟨o,?_,e2⟩
 unfold SetTable.layClean;rw[<- Array.foldl_toList];exact congrArg (Option.map (·.1)) e1
theorem zdS{m f v:Nat}{b p:Bool}(E:Msk m){c:Array Int}(G:c.size<=m)(H:(m=7/\c.size<=4)\/(m=31/\c.size<=18)\/(m=127/\c.size<=76)) :
  ∃s g,SetTable.laid m f v b p c=some (s,g)/\g.toList.Perm (List.range c.size)/\TabT s c.size:=by
 obtain⟨o,e,w⟩:=zaE E G;have e2:((List.range (m+1)).filterMap fun j=>(o.getD j none).map (j,·)).map (·.2)=o.toList.filterMap id:=by
  rw[List.map_filterMap];have A:o.toList=(List.range (m+1)).map fun j=>o.getD j none:=by
   refine List.ext_getElem (by rw[jO,w.sz,zp,vh]) fun i C I=>?_
   rw[Wa,List.getElem_range];unfold Array.getD;rw[dif_pos (by rwa[jO] at C)]
   rfl
  rw[A,List.filterMap_map];refine congrArg (fun f=>List.filterMap f _) (funext fun j=>?_)
  show((o.getD j none).map (j,·)).map (·.2)=id (o.getD j none)
  cases o.getD j none<;>rfl
 have l:(((List.range (m+1)).filterMap fun j=>(o.getD j none).map (j,·)).map (·.2)).Perm (List.range c.size):=by rw[e2];exact w.pm
 have ln:=l.length_eq;rw[zp,vh] at ln;refine⟨⟨m,(((List.range (m+1)).filterMap fun j=>(o.getD j none).map (j,·)).map fun x=>x.1).toArray,#[],f,b,v,p⟩,_,by unfold SetTable.laid;rw[e];rfl,l,?_,rfl,fun j D=>?_,?_,H⟩
 ·exact WK (m+1) fun j=>o.getD j none
 ·obtain⟨x,hx,rfl⟩:=qz.mp D
  obtain⟨y,hy,B⟩:=Wh.mp hx;obtain⟨z,_,rfl⟩:=qJ.mp B;exact yV (xD.mp hy)
 ·show(((List.range (m+1)).filterMap fun j=>(o.getD j none).map (j,·)).map (·.1)).toArray.size=_
  rw[zX,zp,ln]
theorem TabT.putAt{t:SetTable}{n j:Nat}(h:TabT t n)(f:t.place[SetTable.below t.place j]?≠some j)(g:j<=t.mask) :
  Up (t.put j).1.place/\(t.put j).1.dummies=#[]/\(∀i∈(t.put j).1.place.toList,i<=t.mask)/\(t.put j).1.place.size=n+1:=by
 have c:=SetTable.insertAt_perm t.place (SetTable.below t.place j) j;rw[Array.toList_push] at c;refine⟨QL h.up f,?_,fun i e=>?_,?_⟩
 ·show(if SetTable.has t.dummies j=true then _ else t.dummies)=#[]
  rw[h.no,Z3];rfl
 ·rcases qo.mp (c.mem_iff.mp e) with z | z
  ·exact h.le i z
  ·rw[zY.mp z];exact g
 ·have:=c.length_eq
  rw[jO,zZ,jO,h.sz] at this;exact this
theorem TabT.more{t:SetTable}{n j:Nat}(h:TabT t n)(J:n<76)(D:t.place[SetTable.below t.place j]?≠some j)(H:j<=t.mask)(p:Bool) :
  (({ (t.put j).1 with plain:=p }:SetTable).tooFull=false/\TabT { (t.put j).1 with plain:=p } (n+1)) \/
  ({ (t.put j).1 with plain:=p }:SetTable).tooFull=true/\({ (t.put j).1 with plain:=p }:SetTable).fits (n+1)=true/\SetTable.sizeAbove (SetTable.grown (n+1))<=128/\∀f:Array Int,f.size=n+1 ->
   ∃s g,({ (t.put j).1 with plain:=p }:SetTable).relaid f (SetTable.grown (n+1))=some (s,g)/\g.toList.Perm (List.range f.size)/\TabT s f.size:=by
 obtain⟨a,b,c,d⟩:=h.putAt D H;have C:({ (t.put j).1 with plain:=p }:SetTable).fill=n+1:=by
  show(t.put j).1.place.size+(t.put j).1.dummies.size=n+1;rw[b,d];rfl
 have I:({ (t.put j).1 with plain:=p }:SetTable).tooFull=decide ((n+1)*5≥t.mask*3):=by
  unfold SetTable.tooFull;rw[C];rfl
 have ok:∀m,m=t.mask->((m=7/\n+1<=4)\/(m=31/\n+1<=18)\/(m=127/\n+1<=76))->TabT { (t.put j).1 with plain:=p } (n+1):=fun m e w=>⟨a,b,c,d,by subst e;exact w⟩
 have A:∀w m,SetTable.sizeAbove w=m+1->Msk m->∀f:Array Int,f.size<=m->((m=7/\f.size<=4)\/(m=31/\f.size<=18)\/(m=127/\f.size<=76)) ->
   ∃s g,({ (t.put j).1 with plain:=p }:SetTable).relaid f w=some (s,g)/\g.toList.Perm (List.range f.size)/\TabT s f.size:=fun w m e E f l k=>by
  unfold SetTable.relaid;rw[show SetTable.sizeAbove w-1=m by omega]
  exact zdS E l k
 have B:({ (t.put j).1 with plain:=p }:SetTable).fits (n+1)=true:=by
  have:=h.lt;unfold SetTable.fits;rw[jW,jM,yW,C];exact⟨d,this⟩
 rw[I];rcases h.ms with ⟨e,l⟩ | ⟨e,l⟩ | ⟨e,l⟩
 ·by_cases z:n+1<=4
  ·exact .inl ⟨jN (by omega),ok _ rfl (.inl ⟨e,z⟩)⟩
  ·have z:n=4:=by omega
   subst z;exact .inr ⟨je (by omega),B,by decide +kernel,fun f G=>A _ 31 (by decide +kernel) (.inr (.inl rfl)) f (by omega) (.inr (.inl ⟨rfl,by omega⟩))⟩
 ·by_cases z:n+1<=18
  ·exact .inl ⟨jN (by omega),ok _ rfl (.inr (.inl ⟨e,z⟩))⟩
  ·have z:n=18:=by omega
   subst z;exact .inr ⟨je (by omega),B,by decide +kernel,fun f G=>A _ 127 (by decide +kernel) (.inr (.inr rfl)) f (by omega) (.inr (.inr ⟨rfl,by omega⟩))⟩
 ·exact .inl ⟨jN (by omega),ok _ rfl (.inr (.inr ⟨e,by omega⟩))⟩
section
variable{c:Program}{w:World}{A:Around}{E:Value->Shared->Prop}{s:Shared}
def TK(c:Program)(w:World):HeapKind c w (List Key):=tupleKind (zW c w)
def zhJ(c:Program)(w:World)(p:List Key×Addr):Int×Value:=((TK c w).hash p.1,.ref p.2)
def SetT(c:Program)(w:World)(h:Heap)(a:Addr)(g:List (List Key×Addr)):Prop:=
 ∃o e f t,h.get? a=some o/\o.ExactSet/\o.data=.set e f t/\e.toList.Perm (g.map (zhJ c w))/\TabT t e.size
theorem SetT.at{h f:Heap}{a:Addr}{g:List (List Key×Addr)}(x:SetT c w h a g)(k:∀o,h.get? a=some o->f.get? a=some o):SetT c w f a g:=let ⟨o,B,l,t,e,r⟩:=x;⟨o,B,l,t,k o e,r⟩
theorem SetT.new(h:Heap):SetT c w (h.push (VJ w)) h.objs.size []:=
 ⟨VJ w,#[],0,_,qk _ rfl,⟨rfl,rfl,rfl⟩,rfl,.refl _,TabT.fresh _⟩
end
section
variable{X:Cx}{f B e:Expr}{l:List Expr}{c:Scope}{s:Pos}{C:TI}{g:TG}{A:TT}{w:TE}
end
section
variable{X:Cx}{x:Str}{s:Pos}{f e:Expr}{g:List Expr}{c:Scope}{l:Pos}{B:TI}{A:TT}{w:TE}
end
abbrev zhM(h:Heap)(z TI TO:Addr)(c:Value)(e:Bool):Prop:=h.get? z=some { cls:=.type "zip",dict:=none,data:=.fields #[c,.bool e,.bool false,.ref TI,.ref TO],slots:=#[] }
abbrev zeO(h:Heap)(T:Addr)(a b c:Value):Prop:=h.get? T=some { cls:=.type "tuple",data:=.seq #[a,b,c] }
structure Z3At(h:Heap)(z TI TO i1 i2 i3 a1 a2 a3:Addr)(i:Nat):Prop where
 zz:∃f0 f1,(f0=.none\/∃t:Int,f0=rawInt t)/\zhM h z TI TO f0 f1
 ti:zeO h TI (.ref i1) (.ref i2) (.ref i3)
 to:∃a b c,zeO h TO a b c
 r1:h.IsListIter i1 a1 i
 r2:h.IsListIter i2 a2 i
 r3:h.IsListIter i3 a3 i
section
variable{c:Program}{w:World}{A:Around}{E:Value->Shared->Prop}{s:Shared}
end
section
variable{X:Cx}
end
section
variable{X:Cx}{c:List (Addr×Obj)}{σ:St}{H:Hp}{s:Shared}
end
section
variable{X:Cx}
end
section
variable{l:Program}{w:World}{K:Type}[DecidableEq K](g:KeyKind l w K)
def IsTR(h:Heap)(k:List K×List K×List K)(a:Addr):Prop:=∃o n B C D,h.get? a=some o/\o.cls=.type "tuple" /\ o.data=.seq #[.ref B,.ref C,.ref D] n/\IsTupleKey g h k.1 B/\IsTupleKey g h k.2.1 C/\IsTupleKey g h k.2.2 D
variable{g}
theorem IsTR.ty{s:Shared}{k:List K×List K×List K}{a:Addr}(x:IsTR g s.heap k a):s.TypeIs (.ref a) "tuple" :=let ⟨o,_,_,_,_,p,q,_⟩:=x;⟨o,p,q⟩
theorem IsTR.inj{h:Heap}{a:Addr}{x y:List K×List K×List K}(p:IsTR g h x a)(q:IsTR g h y a):x=y:=by
 obtain⟨o,n,B,C,D,e,_,d,b,c,f⟩:=p;obtain⟨T,Q,M,N,O,H,_,G,I,J,L⟩:=q;rw[e] at H;cases H;rw[d] at G;cases G;exact Prod.ext (b.inj I) (Prod.ext (c.inj J) (f.inj L))
theorem IsTR.keeps{h J:Heap}{k:List K×List K×List K}{a d:Addr}{o:Obj}{M L}(x:IsTR g h k a)(G:h.get? d=some o)(H:o.data=.dict M L)(I:Heap.SameBut d h J):IsTR g J k a:=by
 obtain⟨p,n,B,C,D,e,t,q,b,c,f⟩:=x;refine⟨p,n,B,C,D,(I.2 a fun z=>?_).trans e,t,q,b.keeps G H I,c.keeps G H I,f.keeps G H I⟩
 subst z;rw[e] at G;cases G;rw[H] at q;exact nomatch q
variable{A:Around}{E:Value->Shared->Prop}{s:Shared}
end
end L2
namespace L2
open PySem PySem.Spec PyProof.Rows PySem.W
section
variable{X:Cx}{c:List (Addr×Obj)}{σ:St}{H:Hp}{s:Shared}
end
end L2
namespace L2
open PySem PySem.Spec PyProof.Rows
section
variable{X:Cx}
end
open Sem (wp)
theorem QC:typeLookup (.type "tuple") "keys" = pure none:=by rw[typeLookup_type,builtinLookup_eq_fast];kernel_rfl
theorem QD:typeLookup (.type "tuple") "__getattr__" = pure none:=by rw[typeLookup_type,builtinLookup_eq_fast];kernel_rfl
section
variable{c:Program}{w:World}{A:Around}{E:Value->Shared->Prop}{h:Heap}{g:Array GenState}{d:Drawn}{t:Nat}{os:OsState}{a:Addr}{n:Nat}{f:Array Value}{l:Array (Option Value)}
theorem yG{G:Tok}{Q:Fin->Shared->Prop}(C:A.handled=none)(hx:h.get? a=some ⟨.type "tuple",none,.seq f n,l⟩)
  (hq:∀s D e,(∀b p,h.get? b=some p->s.get? b=some p)->(∃B,s.get? e=some B/\B.cls=.type "AttributeError")->E (.ref e) ⟨s,g,d,D,os⟩) :
  wpAny (model c w) A (Builtin.«object.__getattribute__» ⟨[.ref a,.str "keys" G],[]⟩) Q E ⟨h,g,d,t,os⟩:=by
 have I:(⟨h,g,d,t,os⟩:Shared).TypeIs (.ref a) "tuple" :=⟨_,hx,rfl⟩;have H:=QC;repeat(any_goals (first| assumption | wp_step))
 refine VL C ?_ hq
 rw[sizeLine_eq];decide +kernel
theorem Zp{G:Tok}{R:Result->Shared->Prop}(C:A.handled=none)(hx:h.get? a=some ⟨.type "tuple",none,.seq f n,l⟩)
  (hq:∀s D e,(∀b p,h.get? b=some p->s.get? b=some p)->(∃B,s.get? e=some B/\B.cls=.type "AttributeError")->R (.error (.ref e)) ⟨s,g,d,D,os⟩) :
  codeAny (model c w) A (.call (.builtin "tuple.__getattribute__") ⟨[.ref a,.str "keys" G],[]⟩) R ⟨h,g,d,t,os⟩:=
 codeAny_call_builtin Xp.plain F.entry_tuple_ga (Xp.check _ _ _ _ _ _ _ _ (show(⟨h,g,d,t,os⟩:Shared).TypeIs (.ref a) "tuple" from ⟨_,hx,rfl⟩) (F.args_tuple_getattribute_2 _ _) (yG C hx hq))
theorem QE{H:Tok}{Q:Value->Shared->Prop}(G:A.handled=none)(hx:h.get? a=some ⟨.type "tuple",none,.seq f n,l⟩)
  (hq:∀s C e,(∀b p,h.get? b=some p->s.get? b=some p)->(∃B,s.get? e=some B/\B.cls=.type "AttributeError")->E (.ref e) ⟨s,g,d,C,os⟩):wpAny (model c w) A (getAttrBy (.ref a) (.str "keys" H) false) Q E ⟨h,g,d,t,os⟩:=by
 have L:(⟨h,g,d,t,os⟩:Shared).TypeIs (.ref a) "tuple" :=⟨_,hx,rfl⟩;have I:=Xp.lookup;have J:=Xp.bind (.ref a);repeat(any_goals (first| assumption | wp_step))
 refine Zp G hx fun s C e k ⟨B,D,hc⟩=>?_
 dsimp only;unfold getattributeRaised;refine zi (Zh (T:= "AttributeError") ⟨_,D,hc⟩ yz ?_)
 rw[zC rfl];unfold hookBehind;refine zi ?_
 rw[zv (by decide)]
 refine wpAny_of_eq QD ?_
 unfold hookOrError attributeErrorLeaves;dsimp only;rw[zC (show(!false)=true from rfl)]
 first
  | exact wpAny_throw (hq s C e k ⟨B,D,hc⟩)
  | exact zi (wpAny_throw (hq s C e k ⟨B,D,hc⟩))
theorem Zq{Q:Option Value->Shared->Prop}(C:A.handled=none)(hx:h.get? a=some ⟨.type "tuple",none,.seq f n,l⟩)
  (hq:∀s B,(∀b p,h.get? b=some p->s.get? b=some p)->Q none ⟨s,g,d,B,os⟩):wpAny (model c w) A (getAttr? (.ref a) "keys") Q E ⟨h,g,d,t,os⟩:=by
 unfold getAttr? getAttrBy?;refine zi (wpAny_mkText (zi (wP (QE C hx fun s B e k ⟨G,D,hc⟩=>?_))))
 dsimp only;refine zi (Zh (T:= "AttributeError") ⟨_,D,hc⟩ yz ?_)
 rw[zC rfl];exact zE (hq s B k)
end
section
variable{c:Program}{w:World}{K:Type}[DecidableEq K]{knd:KeyKind c w K}{A:Around}{R:Result->Shared->Prop}{it l D:Addr}{items:Array Value}{pairs:List (K×Value)}{res:Value}
theorem zcK(hh:A.handled=none)(N:l≠it)(O:l≠D)(E:it≠D)(a0:pairs.length=items.size) :
  ∀(m:Nat) (s:Shared) (i:Nat) (f:List (K×Value)),items.size-i=m->i<=items.size->s.heap.IsTupleIter it l i->s.heap.IsTuple l items->s.heap.DictOf knd D f->f.length+m<=sizeLine ->
   (∀(j:Nat) (u:Value),items[j]? =some u->∃(T:Addr) (k:K) (g v:Value),u=.ref T/\T≠it/\T≠D/\IsTup s.heap T #[g,v]/\knd.is k g=true/\pairs[j]? =some (k,v)) ->
   (∀C tk,C.DictOf knd D (merged f (pairs.drop i))->(∀b o,b≠it->b≠D->s.heap.get? b=some o->C.get? b=some o)->R (.ok (.ret res)) { s with heap:=C,toks:=tk }) ->
   codeAny (model c w) A (.builtin "dict.update.loop" ⟨[.ref D,.ref it,.int i 0,res],[]⟩) R s:=by
 intro m;induction m with
 | zero=>
  intro s i f hm hi U J L hz Q q;have G:items[i]? =none:=by simp;omega
  refine codeAny_builtin wz ?_
  rw[Around.under_plainId xn _];show wpAny _ A.in1 (pyNext (.ref it) >>= _) _ _ s;refine zi (wpAny_pyNext_tuple_end hh U J G fun C hx=>?_)
  show wpAny _ _ (Builtin.Dict.addKeywords D [] >>= _) _ _ _;refine zi (zE (zE ?_))
  have e0:merged f (pairs.drop i)=f:=by rw[List.drop_eq_nil_of_le (by omega)];rfl
  have:=q C s.toks (by rw[e0];exact L.extBut hx (qu E)) (fun b o hb _ e=>?_)
  ·exact this
  ·exact hx b o hb e
 | succ m ih=>
  intro s i f hm hi U J L hz Q q;have H:i<items.size:=by omega
  obtain⟨u,hu⟩:∃u,items[i]? =some u:=⟨_,wG H⟩;obtain⟨T,k,g,v,rfl,nT,nD,tT,kk,ep⟩:=Q i u hu;refine codeAny_builtin wz ?_
  rw[Around.under_plainId xn _];show wpAny _ A.in1 (pyNext (.ref it) >>= _) _ _ s;refine zi (wpAny_pyNext_tuple_item U J hu fun h1 i1 s1=>?_)
  dsimp only;refine zi (vD (zi ?_))
  obtain⟨oT,eT,cT,nn,dT⟩:=tT;have Y:∀b o,b≠it->s.heap.get? b=some o->h1.get? b=some o:=fun b o hb e=>(s1.2 b hb).trans e
  have M:({ s with heap:=h1 }:Shared).TypeIs (.ref T) "tuple" :=⟨_,Y _ _ nT eT,cT⟩;show wpAny _ _ (tryCatch (Builtin.Dict.pairItems (.ref T)) _) _ _ _;refine wpAny_tryCatch ?_
  unfold Builtin.Dict.pairItems;refine zi (wpAny_typeOf M ?_)
  rw[zC (show(Value.type "tuple" == Value.type "list" || Value.type "tuple" == Value.type "tuple")=true by decide)]
  refine zi (yp (Y _ _ nT eT) dT (zE ?_))
  show wpAny _ _ (holding [g,v] (dictSet D g v)) _ _ _;refine vD (wpAny_dictSet_pairs kk (L.sameBut s1 (qu E)) (hsz:=by omega) fun h2 d2 s2=>?_)
  refine zE ⟨plainId_quiet xn _,?_⟩
  have k2:∀b o,b≠it->b≠D->s.heap.get? b=some o->h2.get? b=some o:=fun b o hb B e=>(s2.2 b B).trans (Y b o hb e)
  have lst:(stored f k v).length<=f.length+1:=stored_length_le f k v;have:=ih { s with heap:=h2,toks:=s.toks+1 } (i+1) (stored f k v) (by omega) H (i1.at fun o e=>(s2.2 it E).trans e) (J.at fun o e=>k2 l o N O e) d2 (by omega)
   (fun j u hj=>by
    obtain⟨T',k',I,v',z1,z2,z3,z4,z5,z6⟩:=Q j u hj;obtain⟨o',e',r'⟩:=z4;exact⟨T',k',I,v',z1,z2,z3,⟨o',k2 _ _ z2 z3 e',r'⟩,z5,z6⟩)
   (fun C tk d' kp=>q C tk (by rw[<- X7 f pairs i (k,v) ep];exact d') fun b o hb B e=>kp b o hb B (k2 b o hb B e))
  exact this
end
theorem ZF:(Value.type "tuple" != Value.type "dict")=true:=by decide
section
variable{c:Program}{w:World}{K:Type}[DecidableEq K]{knd:KeyKind c w K}{A:Around}{E:Value->Shared->Prop}{s:Shared}
theorem yM{l:Addr}{items:Array Value}{n:Nat}{sl:Array (Option Value)}{pairs:List (K×Value)}{Q:Value->Shared->Prop}(hh:A.handled=none)(I:s.heap.get? l=some ⟨.type "tuple",none,.seq items n,sl⟩)(G:pairs.length=items.size)(M:items.size<=sizeLine)
  (ht:∀(j:Nat) (u:Value),items[j]? =some u->∃(T:Addr) (k:K) (f v:Value),u=.ref T/\IsTup s.heap T #[f,v]/\knd.is k f=true/\pairs[j]? =some (k,v))
  (h:∀C Y,C.DictOf knd s.heap.objs.size (merged [] pairs)->(∀b o,s.heap.get? b=some o->C.get? b=some o)->Q (.ref s.heap.objs.size) { s with heap:=C,toks:=Y }) :
  wpAny (model c w) A (call (.type "dict") [.ref l]) Q E s:=by
 have L:(s.heap.push zfO).DictOf knd s.heap.objs.size []:=.new s.heap;have g:=qr zfO I;refine callType_codes (Q₁:=fun u s1=>u=.ref s.heap.objs.size/\s1={ s with heap:=s.heap.push zfO }) F.kt_called_dict (F.kt_typeCall_dict_1 _) F.entry_dict_init (kt_code_dict_new _ ⟨rfl,rfl⟩) fun u s1 e=>?_
 obtain⟨eu,es⟩:=e;subst eu es;refine⟨L.typeIs,F.args_dict_init_2 _ _,?_⟩
 show wpAny _ _ (Builtin.Dict.selfAndRest _ _ >>= fun x=>Builtin.Dict.updateCommon _ _ x.1 x.2 _) _ _ _
 refine zi (zi (wpAny_notOrdered_dict L.typeIs ?_))
 refine zE (show wpAny _ _ (Builtin.Dict.updateFrom "dict.__init__" s.heap.objs.size (.ref l) [] .none) _ _ _ from ?_)
 refine zi (wpAny_typeOf (T:= "tuple") ⟨_,g,rfl⟩ ?_)
 rw[zC ZF];refine zi (Zq hh g fun H t1 J=>?_)
 rw[zC (show(none:Option Value).isNone=true from rfl)]
 refine zi (xT (zi (wpAny_pyIter_tuple ⟨_,J _ _ g,rfl,n,rfl⟩ ?_)))
 have dD:=L.keep J;have U:=zP I;obtain⟨oD,_,_,eD,_⟩:=id dD;have O:=zP eD;have N:∀b o,s.heap.get? b=some o->(H.push { cls:=.type "tuple_iterator",data:=.fields #[.ref l,.int 0 0] }).get? b=some o:=fun b o e=>qr _ (J _ _ (qr _ e))
 have B:∀b o,s.heap.get? b=some o->b<H.objs.size:=fun b o e=>zP (J _ _ (qr _ e))
 refine zE ⟨plainId_quiet xn _,?_⟩
 refine zcK (knd:=knd) (s:=⟨H.push { cls:=.type "tuple_iterator",data:=.fields #[.ref l,.int 0 0] },s.gens,s.drawn,t1,s.os⟩) (l:=l) (it:=H.objs.size) (D:=s.heap.objs.size) (items:=items) (pairs:=pairs) (A:=A.in1) (res:=.none) hh (qw (B _ _ I)) (qw U) (vY O) G items.size 0 [] rfl (qQ _) ⟨_,qk _ rfl,rfl,rfl⟩ ⟨_,N _ _ I,rfl,n,rfl⟩ (dD.push _) (by simpa using M) (fun j u hj=>?_) (fun C Y d' kp=>?_)
 ·obtain⟨T,k,f,v,rfl,⟨o,e,r⟩,z,y⟩:=ht j u hj
  exact⟨T,k,f,v,rfl,qw (B _ _ e),qw (zP e),⟨o,N _ _ e,r⟩,z,y⟩
 ·exact⟨rfl,h C Y (by simpa using d') fun b o e=>kp b o (qw (B _ _ e)) (qw (zP e)) (N _ _ e)⟩
end
def Tdn(K:W.Frag):Prop:=∀a o,K.lookup a=some o->o.cls=.type "tuple" -> o.dict=none
def zhi(K:W.Frag)(H:Hp)(e:List V)(c:List (Key×V)):Prop:=e.length=c.length/\∀(j:Nat) (x:V),e[j]? =some x->∃(T:Addr) (k:Key) (v:V),x=.ref T/\SqT K H T [kV k,v]/\c[j]? =some (k,v)
section
variable{X:Cx}
theorem zam{g:List (Addr×Obj)}{σ:St}{H:Hp}{s:Shared}{a:Addr}{A:List V}(I:Inv X g σ H s)(T:Tdn X.K)(h:SqT X.K H a A):∃(f:List Value) (n:Nat) (l:Array (Option Value)),Vals A f/\A.length<=sizeLine/\s.heap.get? a=some ⟨.type "tuple",none,.seq f.toArray n,l⟩:=by
 rcases h with h | ⟨o,f,n,hk,hc,D,E,r⟩
 ·obtain⟨z,f,r,⟨⟨o,e,c,n,d⟩,G,B,w⟩⟩:=h.ok I.hok
  rw[e] at B;cases B;obtain⟨cls,C,data,l⟩:=o;cases c;cases d;cases w;exact⟨f,n,l,r,z,e⟩
 ·have w:=T a o hk hc
  obtain⟨cls,C,data,l⟩:=o;cases hc;cases D;cases w;have e:=r.length;simp only[jO] at e;exact⟨f.toList,n,l,r,by omega,by simpa using I.kIn a _ hk⟩
theorem V3{K:W.Frag}(hK:X.K=K)(U:Tdn K)(hh:X.A.handled=none):CallR X (.type "dict") (fun O H Q=>∃(a:Addr) (G:List V) (l:List (Key×V)),O=[.ref a]/\SqT K H a G/\zhi K H G l/\∀p,H p=none->Q (.ref p) (upd H p (.dK (jg [] l)))):=by
 intro L s σ H O us Q I r h;subst hK;obtain⟨a,G,l,rfl,hx,M,q⟩:=h;obtain⟨u,rfl,ru⟩:=Vals.one r;cases(show u=Value.ref a from ru)
 obtain⟨w,n,sl,A,zz,hl⟩:=zam I U hx;have ln:=A.length;have kn:=M.1;have B:∀(j:Nat) (u:Value),w[j]? =some u->∃(T:Addr) (k:Key) (g v:Value) (y:V),u=.ref T/\IsTup s.heap T #[g,v]/\(zW X.prog X.w).is k g=true/\l[j]? =some (k,y)/\RelV y v:=fun j u J=>by
  obtain⟨x,ex,rx⟩:=Vals.at A J;obtain⟨T,k,v,rfl,eT,ek⟩:=M.2 j x ex;cases(show u=Value.ref T from rx)
  obtain⟨ts,rt,it,_⟩:=I.tuple eT;obtain⟨u1,u2,rfl,r1,E⟩:=Vals.two rt;exact⟨T,k,u1,u2,v,rfl,it,vS r1,ek,E⟩
 obtain⟨N,lp,hp⟩:=Zd (fun j u (p:Key×Value)=>∃(T:Addr) (g:Value) (y:V),u=.ref T/\IsTup s.heap T #[g,p.2]/\(zW X.prog X.w).is p.1 g=true/\l[j]? =some (p.1,y)/\RelV y p.2) w fun j u e=>by
  obtain⟨T,k,g,v,y,a,b,c,d,f⟩:=B j u e;exact⟨(k,v),T,g,y,a,b,c,d,f⟩
 have kv:KV l N:=zeK (by omega) fun j p e=>by
  have J:=(zK.mp e).1;obtain⟨b,e1,T,g,y,_,_,_,e2,E⟩:=hp j _ (qP (by omega))
  rw[e] at e1;cases e1;exact⟨_,e2,rfl,E⟩
 have mg:(jg [] l).length<=sizeLine:=by
  have:=xZ l [];rw[Qj] at this;omega
 have hn:H s.heap.objs.size=none:=I.hok.fresh (zM _);refine yM (knd:=zW X.prog X.w) (pairs:=N) (items:=w.toArray) hh hl (by simp[lp]) (by simp;omega) (fun j u e=>?_) fun h' tk Y kp=>?_
 ·rw[List.getElem?_toArray] at e
  obtain⟨p,e1,T,g,y,a,b,c,d,f⟩:=hp j u e;exact⟨T,p.1,g,p.2,a,b,c,e1⟩
 ·have ns:(s.heap.objs.size==sysModules)=false:=beq_eq_false_iff_ne.mpr (vY I.big)
  exact⟨.ref s.heap.objs.size,_,I.laid (a:=s.heap.objs.size) (o:=.dK (jg [] l)) (t':=tk) kp (zM _) (JX mg ns (KV.merge kv .nil) Y),rfl,q _ hn⟩
end
end L2
namespace L2
open PySem PySem.Spec PyProof.Rows
def BoxAt(H:Hp)(b:Addr)(n:Int):Prop:=∃c b1 b2:Int,H b=some (.lst [.int c,.int b1,.int b2])/\0<=c/\0<=b1/\b1<2147483648/\0<=b2/\b2<=n
def SameB(b:Addr)(H e:Hp):Prop:=∀c o,H c=some o->c≠b->e c=some o
theorem Zc{i j:Int}(e:0<=i)(c:i<18446744073709551616):CMul i j:=by
 have e1:(-(2^64):Int)= -18446744073709551616:=by decide
 have e2:((2^64):Int)=18446744073709551616:=by decide
 refine .inl ⟨?_,?_⟩
 ·rw[e1];omega
 ·rw[e2];exact c
theorem zeN{a m j:Int}(h:0<m)(c:m<18446744073709551616):CMul (a % m) j:=Zc (wB _ (by omega)) (Int.lt_trans (wD _ h) c)
section
variable{P:Program}{w:World}{K:W.Frag}{D:Str->Option Value}{C:Heap}
inductive XE(f:List V)(H:Hp)(Q:VK):Prop
 | mk (b:Addr) (c n:Int) (_:f=[.ref b,.int c]) (_:BoxAt H b n) (_:n<1099511627776) (_:0<c) (_:c<1073741824) (_:∀(r:Int) e,0<=r->r<c->BoxAt e b (n+1)->SameB b H e->Q (.int r) e):XE  f H Q
def xL:Sp:=fun c H Q _=>XE  c H Q
theorem u0{N P:List Str}{S:Scope}(a:S.kind=.function:=by rfl)(b:S.isCoroutine=false:=by rfl)(c:S.isGenerator=false:=by rfl)(d:N.Nodup:=by decide +kernel)(e:N.take P.length=P:=by rfl)(f:∀x∈P,S.names.lookup x=some .local∨S.names.lookup x=some .cell:=by decide +kernel)(g:∀y∈S.names,y.2≠.free:=by decide +kernel):zB N P S:=⟨a,b,c,d,e,f,g⟩
theorem zbD:zB ["_law_box_here","_law_size","_law_found","_law_step","_law_once","_law_twice"] ["_law_box_here","_law_size"] (zq (topL 32)):=u0
theorem zdB{f:Addr}{U:FuncData}(F:Fun K "_law_take" "_law_take" (topL 32) f U)(B:Blt D):FnOk P w K D C CX0 1 f U ["_law_box_here","_law_size"] xL:=by
 have J:=zbD.nd;refine F.ok zbD (fun vs H Q E h=>?_) (fun a0 A T s H vs Q E hr h=>?_)
 ·obtain⟨b,I,n,rfl,_⟩:=h
  rfl
 ·obtain⟨b,I,n,rfl,⟨L,b1,b2,hb,Y,p1,G,p2,aa⟩,hn,l,O,k⟩:=h
  refine⟨_,(ze (qI (zJ Yu (zx zT (pv 0) zf (fun _ _=>rfl)) zf (zO _))
   (ze (j6 (zt Vr rfl B.divmod Vs (za (zx zT (pv 0) zf (fun _ _=>rfl)) (za (pv 1) zd))) (qF rfl (zr (JK (pv 0) zf wX) (zr (zy (i:=2) J rfl (Or.inl rfl)) qe))))
    (zj (zw (pv 2))))
   zU)
   (ze (j6 (zA qh (zx zT (pv 0) zf (fun _ _=>rfl)) zf) (JK (pv 0) zf wX))
   (ze (zG (i:=3) J rfl (Or.inl rfl) (zA qh zf (zA xM (zx zT (pv 0) zf (fun _ _=>rfl)) (zx zT (pv 0) zf (fun _ _=>rfl)))))
   (ze (zG (i:=4) J rfl (Or.inl rfl) (zA xz (zA xM (zA qh (zx zT (pv 0) zf (fun _ _=>rfl)) (zA xM zf (zx zT (pv 0) zf (fun _ _=>rfl)))) (pv 3)) zf))
   (ze (zG (i:=5) J rfl (Or.inl rfl) (zA xz (zA qh (zA xM (pv 4) (zA qh (zA xz (pv 4) zf) zf)) (zx zT (pv 0) zf (fun _ _=>rfl))) zf))
   (zj (zw (zA xz (zA Yv (zA xz (zA xM (pv 5) (zA qh (zA xz (pv 5) zf) zf)) zf) zf) (pv 1))))))))),?_⟩
  refine⟨_,rfl,b,_,_,_,rfl,rfl,u6 hb,rfl,_,_,rfl,rfl,_,rfl,?_⟩
  refine jC (fun c=>?_) (fun c=>?_)
  ·refine⟨_,rfl,b,_,_,_,rfl,rfl,u6 hb,rfl,_,rfl,_,_,rfl,⟨l,O⟩,fun p hp=>?_⟩
   have M:b≠p:=zk hb hp;refine⟨p,_,rfl,ua zc,rfl,_,_,rfl,_,rfl,b,_,_,_,rfl,rfl,(by rw[zm M];exact hb),rfl,_,_,rfl,rfl,_,rfl,?_⟩
   refine k _ _ (wB _ (by omega)) (wD _ l) ⟨_,b1,b2,zc,Int.ediv_nonneg Y (by omega),p1,G,p2,by omega⟩ fun d o e N=>?_
   rw[zm N,zm (zk e hp)];exact e
  ·refine⟨_,rfl,b,_,_,_,rfl,rfl,u6 hb,rfl,_,_,rfl,rfl,_,rfl,b,_,_,_,rfl,rfl,hb,rfl,?_⟩
   have g:upd H b (.lst [.int L,.int b1,.int (b2+1)]) b=some (.lst [.int L,.int b1,.int (b2+1)]):=zc;refine⟨_,rfl,b,_,_,_,rfl,rfl,u6 g,rfl,_,rfl,b,_,_,_,rfl,rfl,u6 g,rfl,_,_,rfl,rfl,Zc (by omega) (by omega),_,_,rfl,rfl,?_⟩
   refine⟨_,rfl,b,_,_,_,rfl,rfl,u6 g,rfl,_,rfl,b,_,_,_,rfl,rfl,u6 g,rfl,_,_,rfl,rfl,Zc (by omega) (by omega),_,_,rfl,rfl,_,rfl,_,_,rfl,rfl,Zc (by omega) (by omega),_,_,rfl,rfl,(by show(0:Int)<_;decide),?_⟩
   refine⟨_,rfl,_,rfl,_,_,rfl,rfl,(by show(0:Int)<_;decide),_,_,rfl,rfl,_,_,rfl,rfl,zeN (by decide) (by decide),_,rfl,b,_,_,_,rfl,rfl,u6 g,rfl,_,_,rfl,rfl,_,_,rfl,rfl,(by show(0:Int)<_;decide),?_⟩
   refine⟨_,rfl,_,rfl,_,_,rfl,rfl,(by show(0:Int)<_;decide),_,_,rfl,rfl,_,_,rfl,rfl,zeN (by decide) (by decide),_,_,rfl,rfl,(by show(0:Int)<_;decide),_,_,rfl,rfl,⟨by decide,by decide⟩,_,rfl,_,_,rfl,rfl,l,?_⟩
   refine k _ _ (wB _ (by omega)) (wD _ l) ⟨L,b1,b2+1,g,Y,p1,G,by omega,by omega⟩ fun d o e N=>?_
   rw[zm N];exact e
inductive W8(K:W.Frag)(c:List V)(H:Hp)(Q:VK):Prop
 | mk (a:Addr) (e:List Int) (j:Nat) (_:c=[.ref a,.int j]) (_:SqL K H a (e.map V.int)) (_:j<=100) (_:∀p o,H p=none->BoxAt (upd H p o) p 0->Q (.ref p) (upd H p o)):W8 K c H Q
def zen(K:W.Frag):Sp:=fun c H Q _=>W8 K c H Q
theorem zew:zB ["_law_script","_law_k","_law_cell"] ["_law_script","_law_k"] (zq (topL 31)):=u0
theorem YT{c:Int}{j:Nat}(e:j<=100):CMul (xR c) (if decide (10^18<=xR c)=true then 1 else 0):=by
 refine .inr ?_
 split
 ·exact⟨by decide,by decide⟩
 ·exact⟨by decide,by decide⟩
theorem zcS{c:Int}:0<=xR c*(if decide (10^18<=xR c)=true then 1 else 0):=by
 have h:0<=xR c:=by unfold xR;split<;>omega
 split
 ·rw[Int.mul_one];exact h
 ·rw[Int.mul_zero];exact Int.le_refl 0
theorem zfw{f:Addr}{l:FuncData}(F:Fun K "_law_box" "_law_box" (topL 31) f l)(B:Blt D):FnOk P w K D C CX0 1 f l ["_law_script","_law_k"] (zen K):=by
 have M:=zew.nd;refine F.ok zew (fun N H Q E h=>?_) (fun J A g s H N Q E O h=>?_)
 ·obtain⟨a,e,j,rfl,_⟩:=h
  rfl
 ·obtain⟨a,e,j,rfl,G,I,k⟩:=h
  refine⟨_,(ze (zG (i:=2) M rfl (Or.inl rfl) (vN (zJ X1 (pv 1) (zt zD rfl B.len boot_len (za (pv 0) zd)) (zO _)) (zx zT (pv 0) (pv 1) (fun _ _=>rfl)) zf))
   (zj (zw (zV (za (zA xM (zt vc rfl B.abs vf (za (pv 2) zd)) (qL yL rfl B.int yj (za (qX zeG (zt vc rfl B.abs vf (za (pv 2) zd)) (zA zfm zf zf) (zO _)) zd))) (za (zA xz (zA xM (zA qh (zA qh (zA xz (pv 2) zf) (zA xM zf (pv 1))) zf) zf) zf) (za zf zd))))))),?_⟩
  refine⟨_,rfl,_,rfl,a,_,rfl,.inl G,_,_,rfl,rfl,_,rfl,?_⟩
  refine jC (fun c=>?_) (fun c=>?_)
  ·have L:j<e.length:=by
    have:=xF c;rw[zp] at this;omega
   refine⟨_,rfl,_,rfl,a,_,_,.int e[j],rfl,rfl,G,zQ (by simp[L]),?_⟩
   generalize e[j]=z;refine⟨_,rfl,_,rfl,_,rfl,_,rfl,_,_,rfl,rfl,⟨by decide,by decide,by decide⟩,_,_,rfl,rfl,.inr ⟨_,rfl,_,_,rfl,rfl,YT I,_,rfl,_,_,rfl,rfl,(by show(0:Int)<_;decide),_,rfl,_,_,rfl,rfl,Zc (by decide) (by decide),_,_,rfl,rfl,_,_,rfl,rfl,_,_,rfl,rfl,?_,_,_,rfl,rfl,(by show(0:Int)<_;decide),(by rw[sizeLine_eq];exact(by decide:3<=16777216)),fun p hp=>k p _ hp ⟨_,_,_,zc,?_,?_,?_,by decide,by decide⟩⟩⟩
   ·refine Zc ?_ ?_
    ·have:=wB z (show(2147483629:Int)≠0 by decide)
     omega
    ·have:=wD z (show(0:Int)<2147483629 by decide)
     omega
   ·exact zcS
   ·exact wB _ (by decide)
   ·exact Int.lt_trans (wD _ (by decide)) (by decide)
  ·refine⟨_,rfl,_,rfl,_,rfl,_,rfl,_,_,rfl,rfl,⟨by decide,by decide,by decide⟩,_,_,rfl,rfl,.inr ⟨_,rfl,_,_,rfl,rfl,YT I,_,rfl,_,_,rfl,rfl,(by show(0:Int)<_;decide),_,rfl,_,_,rfl,rfl,Zc (by decide) (by decide),_,_,rfl,rfl,_,_,rfl,rfl,_,_,rfl,rfl,?_,_,_,rfl,rfl,(by show(0:Int)<_;decide),(by rw[sizeLine_eq];exact(by decide:3<=16777216)),fun p hp=>k p _ hp ⟨_,_,_,zc,?_,?_,?_,by decide,by decide⟩⟩⟩
   ·refine Zc ?_ ?_
    ·have:=wB 0 (show(2147483629:Int)≠0 by decide)
     omega
    ·have:=wD 0 (show(0:Int)<2147483629 by decide)
     omega
   ·exact zcS
   ·exact wB _ (by decide)
   ·exact Int.lt_trans (wD _ (by decide)) (by decide)
theorem zcN{c:List V}{lo e:Option Int}{x:V}(h:x∈z7 c lo e):x∈c:=Qp (Zi h)
theorem YE{n j:Nat}(h:j<n):ixN n (j:Int)=some j:=by
 unfold ixN;rw[zC (by omega),zC (by omega)];simp
theorem zcO(c:List Int)(lo e:Option Int):∃f:List Int,z7 (c.map V.int) lo e=f.map V.int:=by
 refine⟨(c.drop (HT.sIx c.length 0 lo)).take (HT.sIx c.length c.length e-HT.sIx c.length 0 lo),?_⟩
 unfold z7;rw[zp,yQ,List.map_drop]
theorem zd4(c:List Int)(z:Nat):(z7 (c.map V.int) none (some (z:Int))).length=min z c.length:=by
 unfold z7;rw[HT.sIx_nat,HT.sIx_none,qi,vF,zp];omega
theorem zd5(c:List Int)(z:Nat)(e:Option Int):(z7 (c.map V.int) (some (z:Int)) e).length<=c.length-min z c.length:=by
 unfold z7;rw[HT.sIx_nat,qi,vF,zp];omega
inductive XQ(K:W.Frag)(g:List V)(H:Hp)(Q:VK):Prop
 | mk (a:Addr) (f:List Int) (z:Nat) (_:g=[.ref a,.int z]) (_:SqL K H a (f.map V.int)) (_:f.length<=63) (_:1<=z) (_:z<=63) (_:∀(p:Addr) (e:List Int) c,Same H c->SqL K c p (e.map V.int)->e.length<=z->Q (.ref p) c):XQ K g H Q
def zbr(K:W.Frag):Sp:=fun c H Q _=>XQ K c H Q
theorem zbM:zB ["_law_script","_law_size","_law_cells","_law_k","_law_cell"] ["_law_script","_law_size"] (zq (topL 33)):=u0
def zaf(a:_)(z:Nat)(p:_)(H:_)(q:_)(f:List Int):=fun(i:Nat) (σ:St) (c:Hp)=>(Ex3 fun(e:List Int) (g l:Option V)=>An5 (σ=[some (.ref a),some (.int z),some (.ref p),g,l]) (Same H c) (c p=some (.lst (e.map V.int))) (c q=some (.lst (z7 (f.map V.int) (some (z:Int)) (some 63)))) (e.length=min z f.length):Prop)
theorem zdL{f:Addr}{fd:FuncData}(F:Fun K "_law_folded" "_law_folded" (topL 33) f fd)(B:Blt D):FnOk P w K D C CX0 1 f fd ["_law_script","_law_size"] (zbr K):=by
 have nd:=zbM.nd;refine F.ok zbM (fun vs H Q E h=>?_) (fun ag A ae s H vs Q E hr h=>?_)
 ·obtain⟨a,g,z,rfl,_⟩:=h
  rfl
 ·obtain⟨a,g,z,rfl,hS,af,ai,aj,k⟩:=h
  refine⟨_,(ze (zG (i:=2) nd rfl (Or.inl rfl) (qL yi rfl B.list vd (za (jc jP (pv 0) jQ (jv (pv 1))) zd)))
   (ze (qR jy rfl (JJ rfl B.enumerate (za (jc jP (pv 0) (jv (pv 1)) (jv zf)) zd)) (qF rfl (zr (zy (i:=3) nd rfl (Or.inl rfl)) (zr (zy (i:=4) nd rfl (Or.inl rfl)) qe)))
   (zj (j6 (zA qh (zx zT (pv 2) (zA xz (pv 3) (pv 1)) (fun _ _=>rfl)) (zA xM (pv 4) (zA qh (pv 3) zf))) (JK (pv 2) (zA xz (pv 3) (pv 1)) wX))))
   (zj (zw (pv 2))))),?_⟩
  refine⟨_,rfl,_,rfl,_,rfl,a,_,rfl,hS,fun l hl=>⟨l,_,rfl,.inl (u6 zc),fun p hp=>?_⟩⟩
  have s1:Same H (upd (upd H l (.lst (z7 (g.map V.int) none (some (z:Int))))) p (.lst (z7 (g.map V.int) none (some (z:Int))))):=(zb hl).trans (zb hp);generalize a0:upd (upd H l (.lst (z7 (g.map V.int) none (some (z:Int))))) p (.lst (z7 (g.map V.int) none (some (z:Int))))=H1 at s1;have N:H1 p=some (.lst (z7 (g.map V.int) none (some (z:Int)))):=by rw[<- a0];exact zc
  have np:H p=none:=(zb hl).free hp;refine⟨_,rfl,_,rfl,_,rfl,_,rfl,a,_,rfl,s1.seq hS,fun q hq=>⟨q,rfl,⟨_,u6 zc⟩,?_⟩⟩
  have Y:p≠q:=zk N hq;obtain⟨aa,I⟩:=zcO g none (some (z:Int));have lo:=zd4 g z;have hi:=zd5 g z (some 63);refine Vm (K:=K) (a:=q) (xs:=z7 (g.map V.int) (some (z:Int)) (some 63)) (zaf a z p H q g)
   ⟨aa,none,none,rfl,s1.trans (zb hq),by rw[zm Y,N,I],zc,by rw[<- lo,I,zp]⟩ (fun i σ H2 _ ⟨_,_,_,_,_,_,h,_⟩=>u6 h) ?_ ?_
  ·rintro i x σ H2 T hx ⟨L,v3,v4,rfl,sm,G,J,M⟩ hT
   have ah:i<(z7 (g.map V.int) (some (z:Int)) (some 63)).length:=(zK.mp hx).1;obtain⟨c,rfl⟩:∃c,x=V.int c:=by
    have:=zcN (qq hx);obtain⟨c,_,e⟩:=qz.mp this;exact⟨c,e.symm⟩
   have hj:i % z<L.length:=by
    have:=yN i (show 0<z by omega)
    omega
   have ab:p≠T:=zk G hT;have ac:q≠T:=zk J hT;have O:upd H2 T (.tup [.int i,.int c]) p=some (.lst (L.map V.int)):=by rw[zm ab];exact G
   have em:((i % z:Nat):Int)=(i:Int) % (z:Int):=Int.natCast_emod i z;have U:(0:Int)<(z:Int):=by omega
   refine⟨T,_,rfl,ua zc,rfl,_,_,rfl,_,_,rfl,rfl,?_⟩
   refine⟨_,rfl,_,rfl,_,rfl,_,_,rfl,rfl,U,p,_,_,.int L[i % z],rfl,rfl,u6 O,(by rw[<- em];exact zQ (by simp[hj])),?_⟩
   refine⟨_,rfl,_,rfl,_,_,rfl,rfl,_,_,rfl,rfl,.inr ⟨?_,?_⟩,_,_,rfl,rfl,?_⟩
   ·have e1:(-(2^64):Int)= -18446744073709551616:=by decide
    rw[e1];omega
   ·have e2:((2^64):Int)=18446744073709551616:=by decide
    rw[e2];omega
   refine⟨_,rfl,_,rfl,_,rfl,_,_,rfl,rfl,U,p,_,_,i % z,rfl,rfl,O,(by rw[<- em,zp];exact YE hj),?_⟩
   refine⟨L.set (i % z) (L[i % z]+c*((i:Int)+2)),_,_,rfl,fun d o e=>?_,by rw[zc,List.map_set],?_,by rw[yS];exact M⟩
   ·rw[zm (zk e np),zm (zk (sm d o e) hT)]
    exact sm d o e
   ·rw[zm (qu Y),zm ac]
    exact J
  ·rintro σ H2 ⟨L,v3,v4,rfl,sm,G,J,M⟩
   exact⟨_,rfl,k p L H2 sm (u6 G) (by omega)⟩
theorem le0:([]:List V).length<=sizeLine:=qQ _
theorem le2{x y:V}:[x,y].length<=sizeLine:=by rw[sizeLine_eq];exact(by decide:2<=16777216)
theorem SameB.refl(b:Addr)(H:Hp):SameB b H H:=fun _ _ e _=>e
def ue:=@SameB.refl
theorem SameB.trans{b:Addr}{H f g:Hp}(a:SameB b H f)(c:SameB b f g):SameB b H g:=fun d o e l=>c d o (a d o e l) l
theorem SameB.of{b:Addr}{H c:Hp}(a:Same H c):SameB b H c:=fun d o e _=>a d o e
def uf:=@SameB.of
theorem SameB.new{b p:Addr}{o:HO}{H c:Hp}(a:SameB b H c)(h:c p=none):SameB b H (upd c p o):=a.trans (.of (zb h))
theorem BoxAt.new{b p:Addr}{o:HO}{H:Hp}{n:Int}(a:BoxAt H b n)(h:H p=none):BoxAt (upd H p o) b n:=by
 obtain⟨c,b1,b2,e,r⟩:=a;exact⟨c,b1,b2,by rw[zm (zk e h)];exact e,r⟩
theorem BoxAt.same{b:Addr}{H c:Hp}{n:Int}(a:BoxAt H b n)(s:Same H c):BoxAt c b n:=by
 obtain⟨f,b1,b2,e,r⟩:=a;exact⟨f,b1,b2,s _ _ e,r⟩
theorem BoxAt.ne{b t:Addr}{H:Hp}{n:Int}{o:HO}(a:BoxAt H b n)(h:H t=some o)(c:∀x y z,o≠.lst [x,y,z]):t≠b:=by
 obtain⟨f,b1,b2,e,r⟩:=a;exact Yx h e (c _ _ _)
theorem BoxAt.some{b:Addr}{H:Hp}{n:Int}(a:BoxAt H b n):∃o,H b=.some o:=let ⟨_,_,_,e,_⟩:=a;⟨_,e⟩
theorem BoxAt.mono{b:Addr}{H:Hp}{n m:Int}(a:BoxAt H b n)(h:n<=m):BoxAt H b m:=by
 obtain⟨c,b1,b2,e,f,g,l,s,A⟩:=a;exact⟨c,b1,b2,e,f,g,l,s,by omega⟩
theorem le1{x:V}:[x].length<=sizeLine:=by rw[sizeLine_eq];exact(by decide:1<=16777216)
theorem le3{x y z:V}:[x,y,z].length<=sizeLine:=by rw[sizeLine_eq];exact(by decide:3<=16777216)
theorem le4{x y z u:V}:[x,y,z,u].length<=sizeLine:=by rw[sizeLine_eq];exact(by decide:4<=16777216)
theorem leN{c:List V}(h:c.length<=1000):c.length<=sizeLine:=by rw[sizeLine_eq];omega
theorem J5{α:Type}{xs:List α}{i:Int}(h:0<=i)(e:i<xs.length):∃v,atI xs i=some v/\xs[i.toNat]? =some v:=by
 have c:i.toNat<xs.length:=by omega
 refine⟨xs[i.toNat],?_,by simp[c]⟩
 have:=zQ (xs:=xs) (j:=i.toNat) (v:=xs[i.toNat]) (by simp[c])
 rwa[show((i.toNat:Nat):Int)=i by omega] at this
theorem SameB.put{b m:Addr}{H f:Hp}{o:HO}(s:SameB b H f)(h:H m=none):SameB b H (upd f m o):=fun c u e hc=>by
 rw[zm (zk e h)];exact s c u e hc
theorem SameB.none{b m:Addr}{H c:Hp}(s:SameB b H c)(h:c m=none)(e:m≠b):H m=none:=by
 cases q:H m with
 | none=>rfl
 | some o=>have:=s m o q e;rw[h] at this;cases this
def vt(x:Str):Prop:=(x.cps.toList.map Va).all id=true
theorem zfA{r:Int}(g:0<=r)(l:r<26):∃c,atI zgu.cps.toList r=some c/\Va c=true:=by
 rw[zcs];obtain⟨c,e,f⟩:=J5 (xs:=List.range' 97 26) g (by rw[List.length_range'];omega)
 have s:=List.mem_range'_1.mp (qq f);refine⟨c,e,?_⟩
 unfold Va;rw[je (by omega),je (by omega)]
 rfl
theorem zcr{c:Nat}{y:Str}(h:Va c=true)(hy:vt y):vt ((⟨#[c]⟩:Str)++y):=by
 unfold vt at hy ⊢;show((#[c]++y.cps).toList.map Va).all id=true;rw[Array.toList_append,zR,List.all_append,hy,Bool.and_true];show(Va c&&true)=true;rw[h];rfl
theorem zcu{c:Nat}{y:Str}:((⟨#[c]⟩:Str)++y).length=y.length+1:=by
 show(#[c]++y.cps).size=y.cps.size+1;rw[Array.size_append];show 1+_=_;omega
theorem BoxAt.nne{b p:Addr}{H:Hp}{n:Int}(a:BoxAt H b n)(h:H p=none):p≠b:=by
 obtain⟨o,e⟩:=a.some;exact(zk e h).symm
theorem BoxAt.other{b l:Addr}{H:Hp}{n:Int}{o:HO}(a:BoxAt H b n)(h:l≠b):BoxAt (upd H l o) b n:=by
 obtain⟨c,b1,b2,e,r⟩:=a;exact⟨c,b1,b2,by rw[zm (qu h)];exact e,r⟩
def Nm(x:Str):Prop:=x.length<=8/\∀c∈x.cps.toList,c<1000000
theorem zgW{x:Str}(h:x.length<=8)(l:vt x):Nm x:=⟨h,fun c hc=>by
 unfold vt at l;have:=xO.mp l (Va c) (qz.mpr ⟨c,hc,rfl⟩);unfold Va at this;simp at this;omega⟩
theorem QP:∀(c:List Str),(c.map V.str).all xf=true
 | []=>rfl
 | n::c=>by
  show(true&&(c.map V.str).all xf)=true;rw[QP c];rfl
inductive QU(f:List V)(H:Hp)(Q:VK):Prop
 | mk (e c:Int) (_:f=[.int e,.int c]) (_:0<=e) (_:1<=c) (_:c<=8) (_:∀y:Str,(y.length:Int)=c->vt y->Q (.str y) H):QU  f H Q
def WT:Sp:=fun c H Q _=>QU  c H Q
theorem Ye:zB ["_law_number","_law_size","_law_word","_law_k"] ["_law_number","_law_size"] (zq (topL 34)):=u0
def zae(e:_)(H:_):=fun(i:Nat) (σ:St) (f:Hp)=>(Ex3 fun(c:Int) (y:Str) (g:Option V)=>An5 (σ=[some (.int c),some (.int e),some (.str y),g]) (0<=c) (y.length=i) (vt y) (f=H):Prop)
theorem zci{f:Addr}{M:FuncData}(F:Fun K "_law_spelled" "_law_spelled" (topL 34) f M)(B:Blt D):FnOk P w K D C CX0 1 f M ["_law_number","_law_size"] WT:=by
 have I:=Ye.nd;refine F.ok Ye (fun vs H Q E h=>?_) (fun Y A L s H vs Q E hr h=>?_)
 ·obtain⟨G,g,rfl,_⟩:=h
  rfl
 ·obtain⟨G,g,rfl,n0,s0,s1,k⟩:=h
  have N:=bG100000;have l:=bGe;refine⟨_,(ze (zG (i:=2) I rfl (Or.inl rfl) wL)
   (ze (qR jy rfl (jq rfl B.range (za (pv 1) zd)) (zy (i:=3) I rfl (Or.inl rfl))
   (ze (zG (i:=2) I rfl (Or.inl rfl) (zA VQ (zx zfG wL (zA xz (pv 0) zf) (fun _ _=>rfl)) (pv 2)))
    (zj (zG (i:=0) I rfl (Or.inl rfl) (zA Yv (pv 0) zf)))))
   (zj (zw (pv 2))))),?_⟩
  refine⟨_,rfl,_,rfl,(by rw[l];omega),(by rw[l];omega),?_⟩
  refine jU (zae g H) ⟨G,_,_,rfl,n0,rfl,rfl,rfl⟩ ?_ ?_
  ·rintro i σ U hi ⟨e,y,v3,rfl,T,O,J,rfl⟩
   obtain⟨c,hc,lc⟩:=zfA (r:=e % 26) (wB _ (by decide)) (wD _ (by decide))
   refine⟨_,rfl,_,_,rfl,rfl,(by show(0:Int)<26;decide),_,_,c,rfl,rfl,(by rw[sizeLine_eq];decide),hc,_,rfl,_,_,rfl,rfl,?_,?_⟩
   ·show 1+y.length<=sizeLine
    omega
   ·exact⟨_,rfl,_,_,rfl,rfl,⟨by decide,by decide⟩,_,_,_,rfl,Int.ediv_nonneg T (by decide),by rw[zcu,O],zcr lc J,rfl⟩
  ·rintro σ U ⟨e,y,v3,rfl,T,O,J,rfl⟩
   exact⟨_,rfl,k y (by omega) J⟩
inductive W3(f:List V)(H:Hp)(Q:VK):Prop
 | mk (b t:Addr) (n:Int) (e:List Str) (_:f=[.ref b,.ref t]) (_:BoxAt H b n) (_:n<1099511000000) (_:t≠b) (_:H t=some (.lst (e.map V.str))) (_:e.length<=1000) (_:∀(y:Str) c,SameB b H c->BoxAt c b (n+12)->1<=y.length->y.length<=8->vt y->Q (.str y) c):W3  f H Q
def zej:Sp:=fun c H Q _=>W3  c H Q
theorem zeq:zB ["_law_box_here","_law_taken","_law_size","_law_number","_law_k","_law_word","_law_turn"] ["_law_box_here","_law_taken"] (zq (topL 35)):=u0
theorem zfd{r:Int}(c:0<=r)(e:r<4):∃z:Int,atI [V.int 3,V.int 3,V.int 3,V.int 8] r=some (.int z)/\3<=z/\z<=8:=by
 have hc:r=0\/r=1\/r=2\/r=3:=by omega
 rcases hc with rfl | rfl | rfl | rfl
 ·exact⟨3,rfl,by decide,by decide⟩
 ·exact⟨3,rfl,by decide,by decide⟩
 ·exact⟨3,rfl,by decide,by decide⟩
 ·exact⟨8,rfl,by decide,by decide⟩
def zad(b:_)(t:_)(f:_)(H:_)(n:_):=fun(i:Nat) (σ:St) (e:Hp)=>(Ex2 fun(c:Int) (g:Option V)=>An4 (σ=[some (.ref b),some (.ref t),some (.int (1+f)),some (.int c),g,none,none]) (0<=c) (SameB b H e) (BoxAt e b (n+2+i)):Prop)
def zac(b:_)(t:_)(g:_)(c:_)(e:_):=fun(i:Nat) (σ:St) (f:Hp)=>(Ex3 fun(l s:Option V) (y:Str)=>An5 (σ=[some (.ref b),some (.ref t),some (.int (1+g)),some (.int c),l,some (.str y),s]) (1<=y.length) (y.length<=8) (vt y) (f=e):Prop)
theorem zfq{f:Addr}{fd:FuncData}(F:Fun K "_law_name" "_law_name" (topL 35) f fd)(B:Blt D)(G:Dfn P w K D C "_law_take" 1 ["_law_box_here","_law_size"] xL)(g:Dfn P w K D C "_law_spelled" 1 ["_law_number","_law_size"] WT):FnOk P w K D C CX0 2 f fd ["_law_box_here","_law_taken"] zej:=by
 have J:=zeq.nd;refine F.ok zeq (fun vs H Q E h=>?_) (fun ag A af s H vs Q E N h=>?_)
 ·obtain⟨b,t,n,U,rfl,_⟩:=h
  rfl
 ·obtain⟨b,t,n,U,rfl,B0,hn,ae,ht,ah,k⟩:=h
  have I:=bGe;refine⟨_,(ze (zG (i:=2) J rfl (Or.inl rfl) (zA qh zf (zg G N.m rfl (za (pv 0) (za (zx zT (zV (za zf (za zf (za zf (za zf zd))))) (zg G N.m rfl (za (pv 0) (za zf zd))) (fun _ _=>rfl)) zd)))))
   (ze (zG (i:=3) J rfl (Or.inl rfl) zf)
   (ze (qR jy rfl (jq rfl B.range (za (pv 2) zd)) (zy (i:=4) J rfl (Or.inl rfl))
   (zj (zG (i:=3) J rfl (Or.inl rfl) (zA qh (zA xM (pv 3) zf) (zg G N.m rfl (za (pv 0) (za zf zd)))))))
   (ze (zG (i:=5) J rfl (Or.inl rfl) (zg g N.m rfl (za (pv 3) (za (pv 2) zd))))
   (ze (qR jy rfl (jq rfl B.range (za (zA qh (zt zD rfl B.len boot_len (za (pv 1) zd)) zf) zd)) (zy (i:=6) J rfl (Or.inl rfl))
   (zj (qI (zJ wn (pv 5) (pv 1) (by with_unfolding_all rfl))
    (zj (zG (i:=5) J rfl (Or.inl rfl) (zg g N.m rfl (za (zA qh (pv 3) (pv 6)) (za zf zd)))))
    zU)))
   (zj (zw (pv 5)))))))),?_⟩
  refine⟨_,rfl,le4,fun l hl=>⟨_,rfl,b,4,n,rfl,B0.new hl,by omega,by decide,by decide,fun r H1 r0 r1 B1 S1=>?_⟩⟩
  have L1:=S1 l _ (zc (H:=H)) ((B0.new hl).ne (zc (H:=H) (o:=.lst [.int 3,.int 3,.int 3,.int 8])) (by intro x y z e;cases e))
  have aa:=((ue b H).new (o:=.lst [.int 3,.int 3,.int 3,.int 8]) hl).trans S1;obtain⟨z,ez,z0,z1⟩:=zfd r0 r1;refine⟨l,_,_,_,rfl,rfl,u6 L1,ez,b,z,n+1,rfl,B1,by omega,by omega,by omega,fun r2 H2 a0 a1 B2 S2=>⟨_,_,rfl,rfl,?_⟩⟩
  have ab:=aa.trans S2;refine⟨_,rfl,_,rfl,(by rw[I];omega),(by rw[I];omega),?_⟩
  refine jU (zad b t r2 H n) ⟨0,_,rfl,by decide,ab,B2.mono (by omega)⟩ ?_ ?_
  ·rintro i σ H4 hi ⟨L,v4,rfl,m0,T,Y⟩
   refine⟨_,rfl,_,_,rfl,rfl,.inr ⟨by decide,by decide⟩,_,rfl,b,26,_,rfl,Y,by omega,by decide,by decide,fun r3 H5 c0 c1 B5 S5=>⟨_,_,rfl,rfl,_,_,rfl,?_,T.trans S5,B5.mono (by omega)⟩⟩
   omega
  ·rintro σ H4 ⟨L,v4,rfl,m0,T,Y⟩
   refine⟨_,rfl,_,rfl,L,1+r2,rfl,m0,by omega,by omega,fun y ly M=>?_⟩
   have O:=T t _ ht ae;have el:(U.map V.str).length=U.length:=zp ..;refine⟨_,rfl,t,_,rfl,.inl (u6 O),_,_,rfl,rfl,_,rfl,(by rw[I,el];omega),(by rw[I,el];omega),?_⟩
   refine jU (zac b t r2 L H4) ⟨_,_,y,rfl,by omega,by omega,M,rfl⟩ ?_ ?_
   ·rintro i σ H5 hi ⟨v4,v6,y,rfl,y0,y1,M,rfl⟩
    refine⟨_,rfl,_,rfl,t,_,rfl,.inl (u6 O),rfl,QP U,_,rfl,jC (fun c=>?_) (fun c=>⟨_,_,y,rfl,y0,y1,M,rfl⟩)⟩
    exact⟨_,rfl,_,rfl,_,_,rfl,rfl,_,8,rfl,by omega,by decide,by decide,fun y' ai ac=>⟨_,_,y',rfl,by omega,by omega,ac,rfl⟩⟩
   ·rintro σ H5 ⟨v4,v6,y,rfl,y0,y1,M,rfl⟩
    exact⟨_,rfl,k y _ T (Y.mono (by omega)) y0 y1 M⟩
def Row(H:Hp)(l:Addr)(c:List Str):Prop:=H l=some (.lst (c.map V.str))/\∀x∈c,Nm x
theorem Row.same{H c:Hp}{l:Addr}{e:List Str}(r:Row H l e)(s:Same H c):Row c l e:=⟨s _ _ r.1,r.2⟩
theorem Row.draw{H c:Hp}{b l:Addr}{e:List Str}(r:Row H l e)(s:SameB b H c)(h:l≠b):Row c l e:=⟨s _ _ r.1 h,r.2⟩
inductive Q0(f:List V)(H:Hp)(Q:VK):Prop
 | mk (b:Addr) (m n:Int) (_:f=[.ref b,.int m]) (_:BoxAt H b n) (_:n<1000000) (_:0<=m) (_:m<=12) (_:∀(l:Addr) (e:List Str) c,SameB b H c->BoxAt c b (n+150)->l≠b->H l=none->Row c l e->(e.length:Int)=m->Q (.ref l) c):Q0  f H Q
def W1:Sp:=fun c H Q _=>Q0  c H Q
theorem Yj:zB ["_law_box_here","_law_many","_law_found","_law_k"] ["_law_box_here","_law_many"] (zq (topL 36)):=u0
def zab(b:_)(m:_)(l:_)(H:_)(n:_):=fun(i:Nat) (σ:St) (c:Hp)=>(Ex2 fun(e:List Str) (f:Option V)=>An5 (σ=[some (.ref b),some (.int m),some (.ref l),f]) (SameB b H c) (BoxAt c b (n+12*i)) (Row c l e) (e.length=i):Prop)
theorem zcm{f:Addr}{Y:FuncData}(F:Fun K "_law_names" "_law_names" (topL 36) f Y)(B:Blt D)(c:Dfn P w K D C "_law_name" 2 ["_law_box_here","_law_taken"] zej):FnOk P w K D C CX0 3 f Y ["_law_box_here","_law_many"] W1:=by
 have nd:=Yj.nd;refine F.ok Yj (fun vs H Q E h=>?_) (fun aa A N s H vs Q E hr h=>?_)
 ·obtain⟨b,m,n,rfl,_⟩:=h
  rfl
 ·obtain⟨b,m,n,rfl,O,hn,m0,m1,k⟩:=h
  have a0:=bG100000;have G:=bGe;refine⟨_,(ze (zG (i:=2) nd rfl (Or.inl rfl) (zV zd))
   (ze (qR jy rfl (jq rfl B.range (za (pv 1) zd)) (zy (i:=3) nd rfl (Or.inl rfl))
   (zj (jb (xc xj we wc jd (pv 2) (za (zg c hr.m rfl (za (pv 0) (za (pv 2) zd))) zd)))))
   (zj (zw (pv 2))))),?_⟩
  refine⟨le0,fun l I=>?_⟩
  have nl:=O.nne I;refine⟨_,rfl,_,rfl,(by rw[G];omega),(by rw[G];omega),?_⟩
  refine jU (zab b m l H n) ⟨[],_,rfl,(ue b H).new I,(O.new I).mono (by omega),⟨zc,fun x h=>nomatch h⟩,rfl⟩ ?_ ?_
  ·rintro i σ T hi ⟨J,v3,rfl,M,L,g,e⟩
   refine⟨_,rfl,.inl ⟨rfl,_,u6 g.1⟩,_,rfl,_,rfl,b,l,_,J,rfl,L,by omega,nl,g.1,by omega,fun y H5 U B5 y0 y1 al=>⟨l,_,_,rfl,rfl,(g.draw U nl).1,by rw[zp,e];omega,?_⟩⟩
   refine⟨J++[y],_,rfl,(M.trans U).put I,(B5.other nl).mono (by omega),⟨by rw[zc,zR];rfl,fun x hx=>?_⟩,by rw[zZ,e];rfl⟩
   rcases qo.mp hx with q | q
   ·exact g.2 x q
   ·rw[zY.mp q];exact zgW y1 al
  ·rintro σ T ⟨J,v3,rfl,M,L,g,e⟩
   exact⟨_,rfl,k l J T M (L.mono (by omega)) nl I g (by omega)⟩
def SameT(H e:Hp):Prop:=∀a u,H a=some u->(∀f,u≠.lst f)->(∀c,u≠.dK c)->e a=some u
theorem SameT.refl(H:Hp):SameT H H:=fun _ _ e _ _=>e
theorem SameT.trans{H f g:Hp}(a:SameT H f)(b:SameT f g):SameT H g:=fun c u e h i=>b c u (a c u e h i) h i
theorem SameT.of{H c:Hp}(s:Same H c):SameT H c:=fun a u e _ _=>s a u e
theorem SameT.draw{H c:Hp}{b:Addr}{n:Int}(B:BoxAt H b n)(s:SameB b H c):SameT H c:=fun a u e h _=>by
 obtain⟨g,b1,b2,f,_⟩:=B;exact s a u e (fun z=>by rw[z,f] at e;cases e;exact h _ rfl)
def uc:=@SameT.draw
theorem SameT.put{H:Hp}{l:Addr}{c ys:List V}(h:H l=some (.lst c)):SameT H (upd H l (.lst ys)):=fun a u e hu _=>by
 rw[zm (fun z=>by rw[z,h] at e;cases e;exact hu _ rfl)];exact e
def ui:=@SameT.put
def PlA(H:Hp)(a:Addr):Prop:=∃x y:Int,H a=some (.tup [.int x,.int y])/\0<=x/\x<=1000/\0<=y/\y<=1000
theorem PlA.imp{H c:Hp}{a:Addr}(h:PlA H a)(f:∀o,H a=some o->c a=some o):PlA c a:=let ⟨x,y,e,r⟩:=h;⟨x,y,f _ e,r⟩
theorem PlA.draw{H c:Hp}{a b:Addr}{n:Int}(h:PlA H a)(B:BoxAt H b n)(s:SameB b H c):PlA c a:=by
 obtain⟨x,y,e,r⟩:=h;obtain⟨g,b1,b2,f,_⟩:=B;exact⟨x,y,s a _ e (Yx e f (by intro z;cases z)),r⟩
inductive QX(K:W.Frag)(f:List V)(H:Hp)(Q:VK):Prop
 | mk (b t:Addr) (n:Int) (e:List Addr) (_:f=[.ref b,.ref t]) (_:BoxAt H b n) (_:n<1099511627000) (_:t≠b) (_:H t=some (.lst (e.map V.ref))) (_:e.length<=1000) (_:(∀a∈e,PlA H a)) (_:∀(p:Addr) c,SameB b H c->BoxAt c b (n+3)->H p=none->PlA c p->Q (.ref p) c):QX K f H Q
def Zs(K:W.Frag):Sp:=fun c H Q _=>QX K c H Q
theorem Yg:zB ["_law_box_here","_law_taken","_law_most","_law_x","_law_y","_law_turn"] ["_law_box_here","_law_taken"] (zq (topL 37)):=u0
def zaa(b:_)(t:_)(y:_)(H:_)(n:_):=fun(i:Nat) (σ:St) (c:Hp)=>(Ex3 fun(e f:Option V) (x:Int)=>An5 (σ=[some (.ref b),some (.ref t),e,some (.int x),some (.int y),f]) (0<=x) (x<=1000) (SameB b H c) (BoxAt c b (n+1+1+1)):Prop)
theorem zcj{f:Addr}{fd:FuncData}(F:Fun K "_law_place" "_law_place" (topL 37) f fd)(B:Blt D)(g:Dfn P w K D C "_law_take" 1 ["_law_box_here","_law_size"] xL):FnOk P w K D C CX0 2 f fd ["_law_box_here","_law_taken"] (Zs K):=by
 have T:=Yg.nd;refine F.ok Yg (fun vs H Q E h=>?_) (fun ab A aa s H vs Q E O h=>?_)
 ·obtain⟨b,t,n,U,rfl,_⟩:=h
  rfl
 ·obtain⟨b,t,n,U,rfl,B0,hn,N,ht,ac,pa,k⟩:=h
  have M:=O.units;have L:=bGe;have el:(U.map V.ref).length=U.length:=zp ..;refine⟨_,(ze (zG (i:=2) T rfl (Or.inl rfl) (vN (zJ xN (zg g O.m rfl (za (pv 0) (za zf zd))) zf (zO _)) zf zf))
   (ze (zbU (i:=3) (j:=4) rfl T rfl rfl (by decide) rfl rfl (za (zg g O.m rfl (za (pv 0) (za (pv 2) zd))) (za (zg g O.m rfl (za (pv 0) (za (pv 2) zd))) zd)) (by rfl))
   (ze (qR jy rfl (jq rfl B.range (za (zA qh (zt zD rfl B.len boot_len (za (pv 1) zd)) zf) zd)) (zy (i:=5) T rfl (Or.inl rfl))
   (zj (qI (zJ (zdw M) (qS (za (pv 3) (za (pv 4) zd))) (pv 1) (by with_unfolding_all rfl))
    (zj (zG (i:=3) T rfl (Or.inl rfl) (zA xz (zA qh (pv 3) zf) zf)))
    zU)))
   (zj (zw (qS (za (pv 3) (za (pv 4) zd)))))))),?_⟩
  refine⟨_,rfl,b,4,n,rfl,B0,by omega,by decide,by decide,fun r H1 r0 r1 B1 S1=>⟨rfl,_,rfl,jC (fun c=>?_) (fun c=>?_)⟩⟩
  all_goals
   refine⟨_,rfl,_,rfl,b,_,n+1,rfl,B1,by omega,by decide,by decide,fun x H2 x0 x1 B2 S2=>⟨_,rfl,_,rfl,b,_,n+1+1,rfl,B2,by omega,by decide,by decide,fun y H3 y0 y1 B3 S3=>⟨_,_,rfl,?_⟩⟩⟩
   have S4:=S1.trans (S2.trans S3);have a0:=S4 t _ ht N;refine⟨_,rfl,t,_,rfl,.inl (u6 a0),_,_,rfl,rfl,_,rfl,(by rw[L,el];omega),(by rw[L,el];omega),?_⟩
   refine jU (zaa b t y H n) ⟨_,none,x,rfl,x0,by omega,S4,B3⟩ ?_ ?_
   ·rintro i σ H4 _ ⟨v2,v5,x,rfl,G,I,l,J⟩
    refine⟨_,rfl,_,rfl,le2,fun p hp=>⟨_,rfl,p,t,_,_,rfl,rfl,ua zc,rfl,u6 ((l.new hp) t _ ht N),fun v hv=>?_,fun q=>⟨_,rfl,jC (fun d=>?_) (fun d=>?_)⟩⟩⟩
    ·obtain⟨c,hc,rfl⟩:=qz.mp hv
     obtain⟨cx,cy,Y,_⟩:=(pa c hc).draw B0 (l.new (o:=.tup [.int x,.int y]) hp);exact⟨c,_,rfl,ua Y,rfl⟩
    ·exact⟨_,rfl,_,_,rfl,rfl,_,_,rfl,rfl,(by show(0:Int)<1001;decide),_,_,_,rfl,wB _ (by decide),by have:=wD (x+1) (by decide:(0:Int)<1001);omega,l.new hp,J.new hp⟩
    ·exact⟨_,_,x,rfl,G,I,l.new hp,J.new hp⟩
   ·rintro σ H4 ⟨v2,v5,x,rfl,G,I,l,J⟩
    have B6:BoxAt H4 b (n+3):=by
     have e:n+3=n+1+1+1:=by omega
     rw[e];exact J
    exact⟨_,rfl,_,rfl,le2,fun p hp=>k p _ (l.new hp) (B6.new hp) (l.none hp (J.nne hp)) ⟨x,y,zc,G,I,y0,by omega⟩⟩
inductive ZH(f:List V)(H:Hp)(Q:VK):Prop
 | mk (b:Addr) (m n:Int) (_:f=[.ref b,.int m]) (_:BoxAt H b n) (_:n<1000000) (_:0<=m) (_:m<=100) (_:∀(l:Addr) (e:List Addr) c,SameB b H c->BoxAt c b (n+400)->l≠b->H l=none->c l=some (.lst (e.map V.ref))->(∀a∈e,PlA c a)->(e.length:Int)=m->Q (.ref l) c):ZH  f H Q
def XH:Sp:=fun c H Q _=>ZH  c H Q
theorem XU:zB ["_law_box_here","_law_many","_law_found","_law_k"] ["_law_box_here","_law_many"] (zq (topL 38)):=u0
def Y9(b:_)(m:_)(l:_)(H:_)(n:_):=fun(i:Nat) (σ:St) (c:Hp)=>(Ex2 fun(e:List Addr) (f:Option V)=>An6 (σ=[some (.ref b),some (.int m),some (.ref l),f]) (SameB b H c) (BoxAt c b (n+3*i)) (c l=some (.lst (e.map V.ref))) ((∀a∈e,PlA c a)) (e.length=i):Prop)
theorem zaw{f:Addr}{fd:FuncData}(F:Fun K "_law_places" "_law_places" (topL 38) f fd)(B:Blt D)(c:Dfn P w K D C "_law_place" 2 ["_law_box_here","_law_taken"] (Zs K)):FnOk P w K D C CX0 3 f fd ["_law_box_here","_law_many"] XH:=by
 have nd:=XU.nd;refine F.ok XU (fun vs H Q E h=>?_) (fun aa A Y s H vs Q E hr h=>?_)
 ·obtain⟨b,m,n,rfl,_⟩:=h
  rfl
 ·obtain⟨b,m,n,rfl,B0,hn,m0,m1,k⟩:=h
  have a0:=bG100000;have L:=bGe;refine⟨_,(ze (zG (i:=2) nd rfl (Or.inl rfl) (zV zd))
   (ze (qR jy rfl (jq rfl B.range (za (pv 1) zd)) (zy (i:=3) nd rfl (Or.inl rfl))
   (zj (jb (xc xj we wc jd (pv 2) (za (zg c hr.m rfl (za (pv 0) (za (pv 2) zd))) zd)))))
   (zj (zw (pv 2))))),?_⟩
  refine⟨le0,fun l M=>?_⟩
  have nl:=B0.nne M;refine⟨_,rfl,_,rfl,(by rw[L];omega),(by rw[L];omega),?_⟩
  refine jU (Y9 b m l H n) ⟨[],_,rfl,(ue b H).new M,(B0.new M).mono (by omega),zc,(fun x h=>nomatch h),rfl⟩ ?_ ?_
  ·rintro i σ H4 hi ⟨J,v3,rfl,U,N,I,O,G⟩
   refine⟨_,rfl,.inl ⟨rfl,_,u6 I⟩,_,rfl,_,rfl,b,l,_,J,rfl,N,by omega,nl,I,by omega,O,fun p H5 T B5 pN pp=>⟨l,_,_,rfl,rfl,T l _ I nl,by rw[zp,G];omega,?_⟩⟩
   have L5:=T l _ I nl;have g:∀{a:Addr},PlA H5 a->PlA (upd H5 l (.lst (J.map V.ref++[.ref p]))) a:=fun {a} h=>by
    obtain⟨x,y,e,r⟩:=h;exact⟨x,y,by rw[zm (Yx e L5 (by intro z;cases z))];exact e,r⟩
   refine⟨J++[p],_,rfl,(U.trans T).put M,(B5.other nl).mono (by omega),by rw[zc,zR];rfl,fun a ha=>?_,by rw[zZ,G];rfl⟩
   rcases qo.mp ha with q | q
   ·exact g ((O a q).draw N T)
   ·rw[zY.mp q];exact g pp
  ·rintro σ H4 ⟨J,v3,rfl,U,N,I,O,G⟩
   exact⟨_,rfl,k l J H4 U (N.mono (by omega)) nl M I O (by omega)⟩
theorem SqT.keep{H c:Hp}{a:Addr}{e:List V}(q:SqT K H a e)(s:SameT H c):SqT K c a e:=by
 rcases q with(q | ⟨o,q⟩) | q
 ·exact .inl (.inl (s a _ q (fun z h=>nomatch h) (fun z h=>nomatch h)))
 ·exact .inl (.inr ⟨o,s a _ q (fun z h=>nomatch h) (fun z h=>nomatch h)⟩)
 ·exact .inr q
def SqE(K:W.Frag)(b:Addr)(H:Hp)(a:Addr)(c:List V):Prop:=(a≠b/\H a=some (.lst c))\/SqT K H a c
inductive XF(K:W.Frag)(f:List V)(H:Hp)(Q:VK):Prop
 | mk (b a:Addr) (n:Int) (e:List V) (_:f=[.ref b,.ref a]) (_:BoxAt H b n) (_:n<1000000) (_:SqE K b H a e) (_:e.length<=1000) (_:∀(l:Addr) (g:List V) c,SameB b H c->BoxAt c b (n+e.length)->l≠b->H l=none->c l=some (.lst g)->g.Perm e->Q (.ref l) c):XF K f H Q
def JE(K:W.Frag):Sp:=fun c H Q _=>XF K c H Q
theorem zbE:zB ["_law_box_here","_law_some","_law_found","_law_one"] ["_law_box_here","_law_some"] (zq (topL 39)):=u0
def Y8(b:_)(a:_)(l:_)(H:_)(n:_)(g:List V):=fun(i:Nat) (σ:St) (c:Hp)=>(Ex2 fun(e:List V) (f:Option V)=>An5 (σ=[some (.ref b),some (.ref a),some (.ref l),f]) (SameB b H c) (BoxAt c b (n+i)) (c l=some (.lst e)) (e.Perm (g.take i)):Prop)
def Y7(b:_)(a:_)(l:_)(H:_)(n:_)(g:List V):=fun(i:Nat) (σ:St) (c:Hp)=>(Ex2 fun(e:List V) (f:Option V)=>An5 (σ=[some (.ref b),some (.ref a),some (.ref l),f]) (SameB b H c) (BoxAt c b (n+i)) (c l=some (.lst e)) (e.Perm (g.take i)):Prop)
theorem zdC{f:Addr}{fd:FuncData}(F:Fun K "_law_shuffled" "_law_shuffled" (topL 39) f fd)(B:Blt D)(c:Dfn P w K D C "_law_take" 1 ["_law_box_here","_law_size"] xL):FnOk P w K D C CX0 2 f fd ["_law_box_here","_law_some"] (JE K):=by
 have nd:=zbE.nd;refine F.ok zbE (fun vs H Q E h=>?_) (fun aa A Y s H vs Q E hr h=>?_)
 ·obtain⟨b,a,n,g,rfl,_⟩:=h
  rfl
 ·obtain⟨b,a,n,g,rfl,L,hn,hq,ab,k⟩:=h
  have a0:=bG100000;have T:=bGe;refine⟨_,(ze (zG (i:=2) nd rfl (Or.inl rfl) (zV zd))
   (ze (qR jy rfl (zb1 (pv 1)) (zy (i:=3) nd rfl (Or.inl rfl))
   (zj (jb (xc xj PySem.F.slot_list_insert PySem.F.type_list_insert zaB (pv 2) (za (zg c hr.m rfl (za (pv 0) (za (zA qh (zt zD rfl B.len boot_len (za (pv 2) zd)) zf) zd))) (za (pv 3) zd))))))
   (zj (zw (pv 2))))),?_⟩
  refine⟨le0,fun l e=>?_⟩
  have nl:=L.nne e;refine⟨_,rfl,a,rfl,hq.elim (fun U=>.inl ⟨⟨_,u6 ((zb e) _ _ U.2)⟩,jL (K:=K) (a:=a) (xs:=g) (Y8 b a l H n g)
   ⟨[],_,rfl,(ue b H).new e,(L.new e).mono (by omega),zc,.nil⟩ (fun i σ M _ ⟨_,_,_,G,_,_,_⟩=>u6 (G _ _ U.2 U.1)) ?s1 ?e1⟩) (fun hT=>.inr ⟨⟨_,(zb e).sqT hT⟩,YI (K:=K) (a:=a) (xs:=g) (Y7 b a l H n g)
   ⟨[],_,rfl,(ue b H).new e,(L.new e).mono (by omega),zc,.nil⟩ (fun i σ M _ ⟨_,_,_,G,_,_,_⟩=>hT.keep (uc L G)) ?s2 ?e2⟩)⟩
  case s1 | s2=>
   rintro i x σ M hx ⟨N,v3,rfl,G,O,I,J⟩;have hi:=(zK.mp hx).1;have yl:N.length=i:=by rw[J.length_eq,qi];omega
   refine⟨_,rfl,.inl ⟨rfl,_,u6 I⟩,_,rfl,_,rfl,l,_,rfl,.inl (u6 I),_,_,rfl,rfl,b,_,_,rfl,O,by omega,by omega,by omega,fun q H5 q0 q1 B5 S5=>⟨_,rfl,?_⟩⟩
   refine⟨l,N,q,x,rfl,rfl,S5 l _ I nl,q0,by rw[T];omega,by omega,?_⟩
   refine⟨_,_,rfl,(G.trans S5).put e,(B5.other nl).mono (by omega),zc,?_⟩
   have e1:g.take (i+1)=g.take i++[x]:=by
    obtain⟨h1,h2⟩:=zK.mp hx;rw[<- h2,yt]
   rw[e1];refine List.perm_middle.trans ?_
   rw[xi];exact((List.Perm.cons x J).trans (zcY x _).symm)
  case e1 | e2=>
   rintro σ M ⟨N,v3,rfl,G,O,I,J⟩;rw[qA] at J;exact⟨_,rfl,k l N M G O nl e I J⟩
end
mutual
def Dat.imm:Dat->Bool
 | .lst _=>false
 | .tup c=>Dat.imms c
 | _=>true
def Dat.imms:List Dat->Bool
 | []=>true
 | d::c=>d.imm&&Dat.imms c
end
section
variable{P:Program}{w:World}{K:W.Frag}{M:Str->Option Value}{C:Heap}
mutual
theorem Rep.keep{H H':Hp}(s:SameT H H'):∀{d:Dat} {v:V},d.imm=true->Rep K H d v->Rep K H' d v
 | .non,_,_,h=>h
 | .bl _,_,_,h=>h
 | .int _,_,_,h=>h
 | .str _,_,_,h=>h
 | .lst _,_,i,_=>by cases i
 | .tup ds,_,i,h=>by
  obtain⟨a,c,e,q,r⟩:=h;exact⟨a,c,e,q.keep s,Reps.keep s (ds:=ds) i r⟩
theorem Reps.keep{H H':Hp}(s:SameT H H'):∀{ds:List Dat} {f:List V},Dat.imms ds=true->Reps K H ds f->Reps K H' ds f
 | [],_,_,h=>h
 | d::ds,_,i,h=>by
  obtain⟨x,r,e,g,l⟩:=h;have c:(d.imm&&Dat.imms ds)=true:=i;rw[jW] at c;exact⟨x,r,e,Rep.keep s c.1 g,Reps.keep s c.2 l⟩
end
theorem Reps.snoc{H:Hp}{d:Dat}{v:V}(h:Rep K H d v):∀{c:List Dat} {f:List V},Reps K H c f->Reps K H (c++[d]) (f++[v])
 | [],_,e=>by rw[show _=_ from e];exact⟨v,[],rfl,h,rfl⟩
 | _::_,_,e=>by
  obtain⟨x,r,e1,g,l⟩:=e;subst e1;exact⟨x,r++[v],rfl,g,Reps.snoc h l⟩
def ud:=@Reps.snoc
theorem w8{α β:Type}{f:α->β}{L J:List β}(h:L.Perm J):∀{g:List α},J=g.map f->∃s:List α,s.Perm g/\L=s.map f:=by
 induction h with
 | nil=>
  intro g e;have:g=[]:=by simpa using e.symm
  exact⟨[],by rw[this],rfl⟩
 | @cons x l1 l2 p Q=>
  intro g e;cases g with
  | nil=>simp at e
  | cons a G=>
   rw[qY] at e;injection e with e1 e2;obtain⟨s,D,E⟩:=Q e2;exact⟨a::s,D.cons a,by rw[qY,<- E,<- e1]⟩
 | swap x y l=>
  intro g e;cases g with
  | nil=>simp at e
  | cons a G=>
   cases G with
   | nil=>simp at e
   | cons c I=>
    rw[qY,qY] at e;injection e with e1 e2;injection e2 with e2 O;exact⟨c::a::I,.swap a c I,by rw[qY,qY,<- e1,<- e2,<- O]⟩
 | trans p q A B=>
  intro g e;obtain⟨s,D,E⟩:=B e;obtain⟨Y,T,U⟩:=A E;exact⟨Y,T.trans D,U⟩
def jK(p:Nat×Nat):Dat:=.tup [.int p.1,.int p.2]
def yu(c:List (Nat×Nat)):Dat:=.tup (c.map jK)
theorem qx:∀(c:List (Nat×Nat)),Dat.imms (c.map jK)=true
 | []=>rfl
 | p::c=>by
  show(Dat.imm (jK p)&&Dat.imms (c.map jK))=true;rw[qx c];rfl
def ByOrd(c:List Nat)(e:List (Nat×Nat)):Prop:=∀p∈e,∃k l:Nat,k<l/\c[k]? =some p.1/\c[l]? =some p.2
theorem Reps.take{H:Hp}:∀(n:Nat) {c:List Dat} {f:List V},Reps K H c f->Reps K H (c.take n) (f.take n)
 | 0,_,_,_=>rfl
 | n+1,[],_,h=>by rw[show _=_ from h];exact rfl
 | n+1,d::c,_,h=>by
  obtain⟨x,r,e,g,l⟩:=h;subst e;exact⟨x,r.take n,rfl,g,Reps.take n l⟩
theorem Reps.app{H:Hp}:∀{c g:List Dat} {l s:List V},Reps K H c l->Reps K H g s->Reps K H (c++g) (l++s)
 | [],_,_,_,h,f=>by rw[show _=_ from h];exact f
 | d::c,_,_,_,h,f=>by
  obtain⟨x,r,e,A,B⟩:=h;subst e;exact⟨x,r++_,rfl,A,Reps.app B f⟩
def ug:=@Reps.app
inductive ZJ(K:W.Frag)(f:List V)(H:Hp)(Q:VK):Prop
 | mk (b:Addr) (m n:Int) (_:f=[.ref b,.int m]) (_:BoxAt H b n) (_:n<1000000) (_:0<=m) (_:m<=100) (_:∀(p:Addr) (e:List (Nat×Nat)) (c:List Nat) H',SameB b H H'->BoxAt H' b (n+800)->Rep K H' (yu e) (.ref p)->c.Perm (List.range m.toNat)->ByOrd c e->e.length<=300->Q (.ref p) H'):ZJ K f H Q
def XT(K:W.Frag):Sp:=fun c H Q _=>ZJ K c H Q
theorem XW:zB ["_law_box_here","_law_many","_law_order_here","_law_found","_law_turn","_law_k"] ["_law_box_here","_law_many"] (zq (topL 41)):=u0
theorem zgB{m r:Int}(h:0<=r)(c:r<4)(f:2<=m)(e:m<=100):∃z:Int,atI [V.int 1,V.int 4,V.int 13,V.int (2*m)] r=some (.int z)/\1<=z/\z<=200:=by
 have hc:r=0\/r=1\/r=2\/r=3:=by omega
 rcases hc with rfl | rfl | rfl | rfl
 ·exact⟨1,rfl,by omega,by omega⟩
 ·exact⟨4,rfl,by omega,by omega⟩
 ·exact⟨13,rfl,by omega,by omega⟩
 ·exact⟨2*m,rfl,by omega,by omega⟩
theorem zb9{ord:List Nat}{i:Int}(h:0<=i)(c:i<ord.length):∃x:Nat,atI (ord.map fun i:Nat=>V.int (i:Int)) i=some (.int (x:Int))/\ord[i.toNat]? =some x:=by
 obtain⟨v,e1,e2⟩:=J5 (xs:=ord.map fun i:Nat=>V.int (i:Int)) h (by rw[zp];exact c)
 rw[qv] at e2;obtain⟨x,hx,rfl⟩:=qJ.mp e2;exact⟨x,e1,hx⟩
def Y6(b:_)(m:_)(o:_)(R:_)(H:_)(n:_)(e:_)(K:_):=fun(i:Nat) (σ:St) (c:Hp)=>(Ex4 fun(f:List (Nat×Nat)) (g:List V) (l s:Option V)=>An8 (σ=[some (.ref b),some (.int m),some (.ref o),some (.ref R),l,s]) (SameB b H c) (BoxAt c b (n+110+2*i)) (c o=some (.lst (e.map fun i:Nat=>V.int (i:Int)))) (c R=some (.lst g)) (Reps K c (f.map jK) g) (ByOrd e f) (f.length=i):Prop)
theorem zay{f:Addr}{fd:FuncData}(F:Fun K "_law_aheads" "_law_aheads" (topL 41) f fd)(B:Blt M)(e:Dfn P w K M C "_law_take" 1 ["_law_box_here","_law_size"] xL)(g:Dfn P w K M C "_law_shuffled" 2 ["_law_box_here","_law_some"] (JE K)):FnOk P w K M C CX0 3 f fd ["_law_box_here","_law_many"] (XT K):=by
 have nd:=XW.nd;refine F.ok XW (fun vs H Q E h=>?_) (fun an A ai s H vs Q E hr h=>?_)
 ·obtain⟨b,m,n,rfl,_⟩:=h
  rfl
 ·obtain⟨b,m,n,rfl,B0,hn,m0,m1,k⟩:=h
  have am:=bG100000;have ac:=bGe;refine⟨_,(ze (zbU (i:=2) (j:=3) rfl nd rfl rfl (by decide) rfl rfl (za (zg g hr.m rfl (za (pv 0) (za (w9 rfl rfl B.list rfl B.range vd (za (pv 1) zd)) zd))) (za (zV zd) zd)) (by rfl))
   (ze (qI (zJ X1 (pv 1) zf (zO _))
   (zj (zw (qS zd)))
   zU)
   (ze (qR jy rfl (jq rfl B.range (za (zg e hr.m rfl (za (pv 0) (za (zx zT (zV (za zf (za zf (za zf (za (zA xM zf (pv 1)) zd))))) (zg e hr.m rfl (za (pv 0) (za zf zd))) (fun _ _=>rfl)) zd))) zd)) (zy (i:=4) nd rfl (Or.inl rfl))
   (ze (zG (i:=5) nd rfl (Or.inl rfl) (zg e hr.m rfl (za (pv 0) (za (zA jI (pv 1) zf) zd))))
    (zj (jb (xc xj we wc jd (pv 3) (za (qS (za (zx zT (pv 2) (pv 5) (fun _ _=>rfl)) (za (zx zT (pv 2) (zA qh (zA qh (pv 5) zf) (zg e hr.m rfl (za (pv 0) (za (zA jI (zA jI (pv 1) zf) (pv 5)) zd)))) (fun _ _=>rfl)) zd))) zd))))))
   (zj (zw (qL ja rfl B.tuple jj (za (zA xA (pv 3) (jc jP (pv 3) jQ (jv (qL yL rfl B.int yj (za (qX xN (zg e hr.m rfl (za (pv 0) (za zf zd))) zf (zO _)) zd))))) zd))))))),?_⟩
  refine⟨_,rfl,_,rfl,m,rfl,m0,by omega,fun l0 h0=>?_⟩
  have O:((List.range m.toNat).map fun i:Nat=>V.int (i:Int)).length=m.toNat:=by rw[zp,vh]
  refine⟨b,l0,n,_,rfl,B0.new h0,by omega,.inl ⟨B0.nne h0,zc⟩,by rw[O];omega,fun o ys H1 S1 B1 no oN ho pm=>⟨le0,fun R hR=>⟨_,_,rfl,?_⟩⟩⟩
  obtain⟨l,op,rfl⟩:=w8 pm rfl;have ol:l.length=m.toNat:=by rw[op.length_eq,vh]
  rw[O] at B1;have U:=B1.nne hR;have oR:o≠R:=zk ho hR;have ab:=((ue b H).new h0).trans S1;have RH:H R=none:=ab.none hR U;have S2:=ab.new (o:=.lst []) hR;have B2:=B1.new (o:=.lst []) hR;have O2:=(zb (o:=.lst []) hR) _ _ ho;have R2:upd H1 R (.lst []) R=some (.lst []):=zc;generalize upd H1 R (.lst [])=H2 at S2 B2 O2 R2;refine⟨_,rfl,_,_,rfl,rfl,_,rfl,jC (fun c=>?_) (fun c=>?_)⟩
  ·exact⟨le0,fun p hp=>k p [] l _ (S2.new hp) ((B2.new hp).mono (by omega)) ⟨p,[],rfl,ua zc,rfl⟩ op (fun p h=>nomatch h) (qQ _)⟩
  have m2:2<=m:=by
   have:¬m<2:=fun z=>c (je z)
   omega
  refine⟨_,rfl,_,rfl,_,_,rfl,rfl,.inl ⟨by decide,by decide⟩,le4,fun l1 h1=>⟨_,rfl,b,4,_,rfl,B2.new h1,by omega,by decide,by decide,fun r H3 r0 r1 B3 S3=>?_⟩⟩
  have L3:=S3 l1 _ zc (B2.nne h1);obtain⟨z,ez,z0,z1⟩:=zgB r0 r1 m2 m1;refine⟨l1,_,_,_,rfl,rfl,u6 L3,ez,b,z,_,rfl,B3,by omega,by omega,by omega,fun cnt H4 c0 c1 B4 S4=>⟨_,rfl,(by rw[ac];omega),(by rw[ac];omega),?_⟩⟩
  have U4:=((ue b H2).new h1).trans (S3.trans S4);have af:=S2.trans U4;have O4:=U4 _ _ O2 no;have R4:=U4 _ _ R2 U;clear S2 B2 O2 R2 S3 S4 U4 L3 h1 B3;refine jU (Y6 b m o R H n l K)
   ⟨[],[],_,_,rfl,af,B4.mono (by omega),O4,R4,rfl,(fun p h=>nomatch h),rfl⟩ ?_ ?_
  ·rintro i σ H5 hi ⟨J,D,v4,v5,rfl,S5,B5,O5,R5,rp,bo,Y⟩
   have xl:D.length=i:=by rw[rp.len,zp,Y]
   refine⟨_,rfl,_,rfl,_,_,rfl,rfl,b,_,_,rfl,B5,by omega,by omega,by omega,fun kk H6 k0 k1 B6 G=>?_⟩
   have O6:=G _ _ O5 no;obtain⟨x1,ag,aj⟩:=zb9 (ord:=l) k0 (by omega)
   refine⟨_,rfl,.inl ⟨rfl,_,u6 (G _ _ R5 U)⟩,_,rfl,_,rfl,o,_,_,_,rfl,rfl,u6 O6,ag,?_⟩
   refine⟨_,rfl,_,rfl,_,_,rfl,rfl,_,rfl,_,rfl,_,_,rfl,rfl,_,rfl,_,_,rfl,rfl,b,_,_,rfl,B6,by omega,by omega,by omega,fun q H7 q0 q1 B7 S7=>⟨_,_,rfl,rfl,?_⟩⟩
   have O7:=S7 _ _ O6 no;have R7:=S7 _ _ (G _ _ R5 U) U;obtain⟨x2,ah,ak⟩:=zb9 (ord:=l) (i:=kk+1+q) (by omega) (by omega)
   refine⟨o,_,_,_,rfl,rfl,u6 O7,ah,le2,fun T L=>⟨R,D,.ref T,rfl,rfl,(zb L) _ _ R7,by omega,?_⟩⟩
   have R8:=(zb (o:=.tup [.int (x1:Int),.int (x2:Int)]) L) _ _ R7;have st:SameT H5 (upd (upd H7 T (.tup [.int (x1:Int),.int (x2:Int)])) R (.lst (D++[.ref T]))):=((uc B5 (G.trans S7)).trans (.of (zb L))).trans (.put R8);refine⟨J++[(x1,x2)],_,_,_,rfl,(((S5.trans G).trans S7).new L).put RH,((B7.new L).other U).mono (by omega),by rw[zm oR];exact(zb L) _ _ O7,zc,?_,fun pq aa=>?_,by rw[zZ,Y];rfl⟩
   ·rw[zR]
    refine ud ?_ (Reps.keep st (qx J) rp)
    refine⟨T,_,rfl,ua ?_,_,_,rfl,rfl,_,_,rfl,rfl,rfl⟩
    rw[zm (fun zz=>by rw[zz,R7] at L;cases L)]
    exact zc
   ·rcases qo.mp aa with w1 | w1
    ·exact bo pq w1
    ·rw[zY.mp w1]
     exact⟨kk.toNat,(kk+1+q).toNat,by omega,aj,ak⟩
  ·rintro σ H5 ⟨J,D,v4,v5,rfl,S5,B5,O5,R5,rp,bo,Y⟩
   have xl:D.length=J.length:=by rw[rp.len,zp]
   refine⟨_,rfl,_,rfl,_,rfl,b,4,_,rfl,B5,by omega,by decide,by decide,fun r9 H6 ao ap B6 G=>⟨rfl,.inr ⟨_,rfl,_,rfl,R,D,rfl,u6 (G _ _ R5 U),fun s1 I=>?_⟩⟩⟩
   have R6:=G _ _ R5 U;obtain⟨t,et⟩:∃t:Nat,z7 D none (some (if decide (V.int r9=V.int 0)=true then(1:Int) else 0))=D.take t/\t<=1:=by
    unfold z7;by_cases hd:decide (V.int r9=V.int 0)=true
    ·rw[zC hd,show(some (1:Int))=some ((1:Nat):Int) from rfl,HT.sIx_nat,HT.sIx_none]
     refine⟨min 1 D.length,by simp,by omega⟩
    ·rw[zv hd,show(some (0:Int))=some ((0:Nat):Int) from rfl,HT.sIx_nat,HT.sIx_none]
     refine⟨0,by simp,by omega⟩
   rw[et.1];have st:SameT H5 H6:=.draw B5 G;have al:=Reps.keep st (qx J) rp;have tl:(D.take t).length<=1:=by rw[qi];omega
   refine⟨R,s1,_,_,rfl,rfl,(zb I) _ _ R6,zc,by omega,fun c1 a0=>⟨c1,_,rfl,.inl ⟨u6 zc,fun p hp=>?_⟩⟩⟩
   have sm:=((zb (o:=.lst (D.take t)) I).trans (zb (o:=.lst (D++D.take t)) a0)).trans (zb (o:=.tup (D++D.take t)) hp);refine k p (J++J.take t) l _ ((((S5.trans G).new I).new a0).new hp) ((((B6.new I).new a0).new hp).mono (by omega)) ⟨p,_,rfl,ua zc,?_⟩ op (fun pq aa=>?_) (by rw[zZ,qi];omega)
   ·have ae:=Reps.keep (SameT.of sm) (qx J) al
    have rt:=Reps.take t ae;rw[<- yQ] at rt;have:=ug ae rt;rw[<- zR] at this;exact this
   ·rcases qo.mp aa with w1 | w1
    ·exact bo pq w1
    ·exact bo pq (Zi w1)
structure Vx where
 k:Str
 x:Int
 y:Int
structure yZ where
 k:Str
 x:Int
 y:Int
 m:Int
def xB(p:Vx):Dat:=.tup [.str p.k,.tup [.int p.x,.int p.y]]
def va(p:yZ):Dat:=.tup [.str p.k,.tup [.int p.x,.int p.y],.int p.m]
theorem xK:∀(c:List yZ),Dat.imms (c.map va)=true
 | []=>rfl
 | p::c=>by
  show(Dat.imm (va p)&&Dat.imms (c.map va))=true;rw[xK c];rfl
theorem jT:∀(c:List Vx),Dat.imms (c.map xB)=true
 | []=>rfl
 | p::c=>by
  show(Dat.imm (xB p)&&Dat.imms (c.map xB))=true;rw[jT c];rfl
def inP(x y:Int):Prop:=0<=x/\x<=1000/\0<=y/\y<=1000
inductive XR(K:W.Frag)(D:List V)(H:Hp)(Q:VK):Prop
 | mk (b s B:Addr) (E:Bool) (n:Int) (c:List Str) (g:List Vx) (_:D=[.ref b,.ref s,.ref B,.bl E]) (_:BoxAt H b n) (_:n<900000) (_:s≠b) (_:Row H s c) (_:1<=c.length) (_:c.length<=12) (_:Rep K H (.tup (g.map xB)) (.ref B)) (_:g.length<=100) (_:∀(p:Addr) (l:List yZ) (A:List Str) H',SameB b H H'->BoxAt H' b (n+400)->Rep K H' (.tup (l.map va)) (.ref p)->(l.map (·.k)).Perm (c++A)->(∀e∈A,e∈c)->l.length<=40->(∀f∈l,Nm f.k/\inP f.x f.y/\0<=f.m/\f.m<=400)->Q (.ref p) H'):XR K D H Q
def zbs(K:W.Frag):Sp:=fun c H Q _=>XR K c H Q
theorem zbN:zB ["_law_box_here","_law_kinds","_law_parts","_law_plenty","_law_great","_law_more","_law_some","_law_found","_law_kind","_law_need","_law_many"] ["_law_box_here","_law_kinds","_law_parts","_law_plenty"] (zq (topL 40)):=u0
theorem zbd{ns:List Str}{i:Int}(h:0<=i)(c:i<ns.length):∃x,atI (ns.map V.str) i=some (.str x)/\x∈ns:=by
 obtain⟨v,e1,e2⟩:=J5 (xs:=ns.map V.str) h (by rw[zp];exact c)
 rw[qv] at e2;obtain⟨x,hx,rfl⟩:=qJ.mp e2;exact⟨x,e1,qq hx⟩
theorem zgA{a c r:Int}(h:0<=r)(g:r<3)(e:0<=a)(a1:a<=400)(f:0<=c)(c1:c<=400):∃z:Int,atI [V.int a,V.int c,V.int 400] r=some (.int z)/\0<=z/\z<=400:=by
 have hc:r=0\/r=1\/r=2:=by omega
 rcases hc with rfl | rfl | rfl
 ·exact⟨a,rfl,e,a1⟩
 ·exact⟨c,rfl,f,c1⟩
 ·exact⟨400,rfl,by omega,by omega⟩
def Y5(c:List Str)(b:_)(g:_)(n:_):=fun(j:Nat) (l:List V) (f:Hp)=>(Ex1 fun(e:List Str)=>An5 (l=e.map V.str) (e.length=j) ((∀x∈e,x∈c)) (SameB b g f) (BoxAt f b (n+2+j)):Prop)
theorem zdM{f:Addr}{fd:FuncData}(F:Fun K "_law_feeders" "_law_feeders" (topL 40) f fd)(B:Blt M)(I:Dfn P w K M C "_law_take" 1 ["_law_box_here","_law_size"] xL)(O:Dfn P w K M C "_law_shuffled" 2 ["_law_box_here","_law_some"] (JE K))(aa:Dfn P w K M C "_law_place" 2 ["_law_box_here","_law_taken"] (Zs K)):FnOk P w K M C CX0 3 f fd ["_law_box_here","_law_kinds","_law_parts","_law_plenty"] (zbs K):=by
 have nd:=zbN.nd;refine F.ok zbN (fun vs H Q E h=>?_) (fun bg A bb s H vs Q E hr h=>?_)
 ·obtain⟨b,ks,ps,pl,n,G,L,rfl,_⟩:=h
  rfl
 ·obtain⟨b,ks,ps,pl,n,G,L,rfl,B0,hn,nk,Rk,k0,k1,hp,lp,k⟩:=h
  have bf:=bG100000;have au:=bGe;have ek:(G.map V.str).length=G.length:=zp ..;refine⟨_,(ze (zG (i:=4) nd rfl (Or.inl rfl) (qX xN (zg I hr.m rfl (za (pv 0) (za zf zd))) zf (zO _)))
   (ze (wY (zG (i:=5) nd rfl (Or.inl rfl) (zg I hr.m rfl (za (pv 0) (za (vN (j5 (pv 4)) (zA jI zf (zt zD rfl B.len boot_len (za (pv 1) zd))) zf) zd)))))
   (ze (zG (i:=6) nd rfl (Or.inl rfl) (zA xA (pv 1) (jS ["_law_kinds","_law_box_here"] [1,0] rfl rfl (by kernel_rfl) (jq rfl B.range (za (pv 5) zd)) (fun _ _ _ _=>qG) (fun _ _ _ _=>(zx (ZY (K:=K) rfl) (pv 1) (zg I hr.m rfl (za (pv 2) (za (zt (xo (K:=K) rfl) rfl B.len boot_len (za (pv 1) zd)) zd))) (fun _ _=>rfl))))))
   (ze (zG (i:=7) nd rfl (Or.inl rfl) (zV zd))
   (ze (qR jy rfl (qW (zg O hr.m rfl (za (pv 0) (za (pv 6) zd)))) (zy (i:=8) nd rfl (Or.inr rfl))
   (ze (zG (i:=9) nd rfl (Or.inl rfl) (zt zD rfl B.len boot_len (za (jS ["_law_kind"] [8] rfl rfl (by kernel_rfl) (jt (pv 2)) (fun _ _ _ _=>(vn (zJ xN (zx (ji (K:=K) rfl) (pv 0) zf (fun _ _=>rfl)) (pv 1) (zO _)))) (fun _ _ _ _=>(pv 0))) zd)))
    (ze (wY (zG (i:=10) nd rfl (Or.inl rfl) (vN (j5 (pv 3)) (zx zT (zV (za (pv 9) (za (zA qh (pv 9) (zg I hr.m rfl (za (pv 0) (za zf zd)))) (za zf zd)))) (zg I hr.m rfl (za (pv 0) (za zf zd))) (fun _ _=>rfl)) (zg I hr.m rfl (za (pv 0) (za zf zd))))))
    (zj (jb (xc xj we wc jd (pv 7) (za (qS (za (pv 8) (za (zg aa hr.m rfl (za (pv 0) (za (zV zd) zd))) (za (pv 10) zd)))) zd)))))))
   (zj (zw (qL ja rfl B.tuple jj (za (pv 7) zd))))))))),?_⟩
  refine⟨_,rfl,b,8,n,rfl,B0,by omega,by decide,by decide,fun r H1 r0 r1 B1 S1=>⟨rfl,?_⟩⟩
  have ap:=Rk.draw S1 nk;refine⟨fun σ' H'=>Ex1 fun(more:Int)=>An5 (σ'=[some (.ref b),some (.ref ks),some (.ref ps),some (.bl pl),some (.bl (decide (V.int r=V.int 0))),some (.int more),none,none,none,none,none]) (0<=more) (more<=20) (SameB b H H') (BoxAt H' b (n+2)),?_,?_⟩
  ·refine⟨_,rfl,_,rfl,_,rfl,jC (fun c=>?_) (fun c=>?_)⟩
   ·exact⟨_,rfl,ks,_,rfl,.inl (u6 ap.1),_,_,rfl,rfl,b,_,_,rfl,B1,by omega,by omega,by omega,fun more H2 a0 a1 B2 S2=>⟨_,rfl,a0,by omega,S1.trans S2,B2.mono (by omega)⟩⟩
   ·exact⟨b,4,_,rfl,B1,by omega,by decide,by decide,fun more H2 a0 a1 B2 S2=>⟨_,rfl,a0,by omega,S1.trans S2,B2.mono (by omega)⟩⟩
  rintro σ' H2 ⟨more,rfl,bi,bj,S2,B2⟩;clear S1 B1 ap;have ae:=Rk.draw S2 nk;refine⟨_,rfl,_,rfl,_,rfl,(by rw[au];omega),(by rw[au];omega),Vb (Y5 G b H2 n) ⟨[],rfl,rfl,(fun x h=>nomatch h),ue _ _,B2.mono (by omega)⟩ ?_ ?_⟩
  ·rintro j Y H3 hj ⟨U,rfl,el,ee,S3,B3⟩
   refine⟨rfl,⟨_,rfl,_,rfl,_,rfl,ks,_,rfl,.inl (u6 (ae.draw S3 nk).1),b,_,_,rfl,B3,by omega,by omega,by omega,fun q H4 q0 q1 B4 S4=>?_⟩⟩
   obtain⟨y,ey,my⟩:=zbd (ns:=G) q0 (by omega)
   refine⟨ks,_,_,_,rfl,rfl,u6 (ae.draw (S3.trans S4) nk).1,ey,by rw[zp,el];omega,U++[y],by rw[zR];rfl,by rw[zZ,el];rfl,fun x hx=>?_,S3.trans S4,B4.mono (by omega)⟩
   rcases qo.mp hx with pq | pq
   ·exact ee x pq
   ·rw[zY.mp pq];exact my
  rintro Y H3 ⟨U,rfl,el,ee,S3,B3⟩;refine⟨by rw[zp,el];omega,fun D hD=>?_⟩
  have ar:=(S2.trans S3).new (o:=.lst (U.map V.str)) hD;have aq:=(ae.draw S3 nk).same (zb (o:=.lst (U.map V.str)) hD);refine⟨ks,D,_,_,rfl,rfl,aq.1,zc,by rw[ek,zp,el];omega,fun sm hs=>?_⟩
  have B4:=(B3.new (o:=.lst (U.map V.str)) hD).new (o:=.lst (G.map V.str++U.map V.str)) hs;have S4:=ar.new (o:=.lst (G.map V.str++U.map V.str)) hs;have ns:=(B3.new (o:=.lst (U.map V.str)) hD).nne hs;have M4:upd (upd H3 D (.lst (U.map V.str))) sm (.lst (G.map V.str++U.map V.str)) sm=some (.lst ((G++U).map V.str)):=by rw[zc,zR]
  generalize upd (upd H3 D (.lst (U.map V.str))) sm (.lst (G.map V.str++U.map V.str))=H4 at B4 S4 M4;clear S2 S3 ar ae aq B2 B3 hD hs;refine⟨le0,fun R hR=>?_⟩
  have nR:=B4.nne hR;have RH:H R=none:=S4.none hR nR;have af:((G++U).map V.str).length<=32:=by rw[zp,zZ,el];omega
  refine⟨_,rfl,_,rfl,b,sm,_,_,rfl,B4.new hR,by omega,.inl ⟨ns,(zb hR) _ _ M4⟩,by omega,fun l ys H5 S5 B5 nl lN hl pm=>?_⟩
  obtain⟨sh,al,rfl⟩:=w8 pm rfl;have ay:=(S4.new (o:=.lst []) hR).trans S5;have R5:H5 R=some (.lst []):=S5 _ _ zc nR;have lR:l≠R:=fun z=>by rw[z,zc] at lN;cases lN
  have bp:sh.length<=32:=by rw[al.length_eq];rw[zp] at af;exact af
  have be:∀x∈sh,Nm x:=fun x hx=>by
   rcases qo.mp (al.mem_iff.mp hx) with q | q
   ·exact Rk.2 x q
   ·exact Rk.2 x (ee x q)
  clear pm M4 S4 S5 B4 hR;refine⟨l,rfl,⟨_,u6 hl⟩,jL (K:=K) (a:=l) (xs:=sh.map V.str) (fun i σ H6=>Ex6 fun(fs:List yZ) (xs:List V) (v6 v8 v9 am:Option V)=>An8 (σ=[some (.ref b),some (.ref ks),some (.ref ps),some (.bl pl),some (.bl (decide (V.int r=V.int 0))),some (.int more),v6,some (.ref R),v8,v9,am]) (SameB b H H6) (BoxAt H6 b (n+60+6*i)) (H6 l=some (.lst (sh.map V.str))) (H6 R=some (.lst xs)) (Reps K H6 (fs.map va) xs) (fs.map (·.k)=sh.take i) (∀f∈fs,Nm f.k/\inP f.x f.y/\0<=f.m/\f.m<=400))
   ⟨[],[],_,_,_,_,rfl,ay,B5.mono (by omega),hl,R5,rfl,rfl,(fun f h=>nomatch h)⟩ (fun i σ H6 _ ⟨_,_,_,_,_,_,_,_,_,h,_,_,_,_⟩=>u6 h) ?_ ?_⟩
  ·rintro i x σ H6 hx ⟨fs,xs,v6,v8,v9,am,rfl,S6,B6,L6,R6,rp,fk,fa⟩
   rw[qv] at hx;obtain⟨kd,aj,rfl⟩:=qJ.mp hx;have hi:=(zK.mp aj).1;have fl:fs.length=i:=by
    have:=congrArg List.length fk;rw[zp,qi] at this;omega
   have xl:xs.length=i:=by rw[rp.len,zp,fl]
   have ba:=Rep.keep (d:=.tup (L.map xB)) (uc B0 S6) (jT L) hp;obtain⟨_,aw,ep,hq,av⟩:=ba;cases ep;have bm:aw.length=L.length:=by rw[av.len,zp]
   refine⟨_,rfl,ps,rfl,⟨_,hq⟩,jJ (K:=K) (a:=ps) (xs:=aw) (fun j Y H7=>Y.length<=j/\Same H6 H7) ⟨zM _,ub _⟩ (fun j Y H7 ⟨_,s7⟩=>s7.sqT hq) ?_ ?_⟩
   ·rintro j v Y H7 hv ⟨zl,s7⟩
    have hj:=(zK.mp hv).1;obtain⟨d,hd,rd⟩:=av.get hv;rw[qv] at hd;obtain⟨pt,_,rfl⟩:=qJ.mp hd;obtain⟨c,bh,rfl,hc,u1,bo,e1,e2,e3⟩:=rd;subst e1;cases(show u1=.str pt.k from e2)
    refine⟨rfl,⟨_,rfl,c,_,_,.str pt.k,rfl,rfl,s7.sqT hc,zQ (j:=0) rfl,_,rfl,rfl,_,rfl,jC (fun dd=>⟨_,rfl,by omega,by rw[zZ];simp;omega,s7⟩) (fun dd=>⟨by omega,s7⟩)⟩⟩
   rintro Y H7 ⟨zl,s7⟩;refine⟨by omega,fun D2 az=>⟨D2,Y,rfl,.inl (u6 zc),?_⟩⟩
   have s8:=s7.trans (zb (o:=.lst Y) az);have B8:=B6.same s8;generalize upd H7 D2 (.lst Y)=H8 at s8 B8;refine⟨fun σ' H'=>Ex1 fun(J:Int)=>An5 (σ'=[some (.ref b),some (.ref ks),some (.ref ps),some (.bl pl),some (.bl (decide (V.int r=V.int 0))),some (.int more),v6,some (.ref R),some (.str kd),some (.int (Y.length:Int)),some (.int J)]) (0<=J) (J<=400) (SameB b H8 H') (BoxAt H' b (n+60+6*i+2)),?_,?_⟩
   ·refine⟨_,rfl,_,rfl,jC (fun c=>?_) (fun c=>?_)⟩
    ·refine⟨_,rfl,_,rfl,_,rfl,b,9,_,rfl,B8,by omega,by decide,by decide,fun q9 H9 a0 a1 B9 S9=>⟨_,_,rfl,rfl,le3,fun l3 h3=>⟨_,rfl,b,3,_,rfl,B9.new h3,by omega,by decide,by decide,fun q3 an c0 c1 ag ab=>?_⟩⟩⟩
     have ax:=ab l3 _ zc (B9.nne h3);obtain⟨z,ez,z0,z1⟩:=zgA (a:=(Y.length:Int)) (c:=(Y.length:Int)+q9) c0 c1 (by omega) (by omega) (by omega) (by omega)
     exact⟨l3,_,_,_,rfl,rfl,u6 ax,ez,z,rfl,z0,z1,(S9.new h3).trans ab,ag.mono (by omega)⟩
    ·exact⟨_,rfl,b,4,_,rfl,B8,by omega,by decide,by decide,fun q9 H9 a0 a1 B9 S9=>⟨q9,rfl,a0,by omega,S9,B9.mono (by omega)⟩⟩
   rintro σ' H9 ⟨J,rfl,y0,y1,S9,B9⟩;have as:=(uf (b:=b) s8).trans S9;have R9:=as _ _ R6 nR;refine⟨_,rfl,.inl ⟨rfl,_,u6 R9⟩,_,rfl,_,rfl,le0,fun e he=>⟨b,e,_,[],rfl,B9.new he,by omega,B9.nne he,zc,qQ _,(fun a h=>nomatch h),fun pp an ab ag bn pa=>⟨_,rfl,le3,fun T hT=>?_⟩⟩⟩
   obtain⟨px,py,ac,b1,b2,b3,b4⟩:=pa;have ah:=ab _ _ ((zb he) _ _ R9) nR;have ao:=(zb (o:=.tup [.str kd,.ref pp,.int J]) hT) _ _ ah;refine⟨R,xs,.ref T,rfl,rfl,ao,by omega,?_⟩
   have ai:=(as.new he).trans (ab.new (o:=.tup [.str kd,.ref pp,.int J]) hT);have st:SameT H6 (upd (upd an T (.tup [.str kd,.ref pp,.int J])) R (.lst (xs++[.ref T]))):=(uc B6 ai).trans (.put ao);have TR:T≠R:=fun z=>by rw[z,ah] at hT;cases hT
   have bc:pp≠R:=fun z=>by rw[z,ah] at ac;cases ac
   have bd:pp≠T:=fun z=>by rw[z,hT] at ac;cases ac
   refine⟨fs++[⟨kd,px,py,J⟩],_,_,_,_,_,rfl,(S6.trans ai).put RH,((ag.new hT).other nR).mono (by omega),by rw[zm lR];exact ai _ _ L6 nl,zc,?_,?_,fun g b0=>?_⟩
   ·rw[zR]
    refine ud ?_ (Reps.keep st (xK fs) rp)
    refine⟨T,_,rfl,ua (by rw[zm TR];exact zc),_,_,rfl,rfl,_,_,rfl,⟨pp,_,rfl,ua (by rw[zm bc,zm bd];exact ac),_,_,rfl,rfl,_,_,rfl,rfl,rfl⟩,_,_,rfl,rfl,rfl⟩
   ·rw[zR,fk]
    obtain⟨h1,h2⟩:=zK.mp aj;rw[<- yt h1,h2];rfl
   ·rcases qo.mp b0 with q | q
    ·exact fa g q
    ·rw[zY.mp q]
     exact⟨be kd (qq aj),⟨b1,b2,b3,b4⟩,y0,y1⟩
  ·rintro σ H6 ⟨fs,xs,v6,v8,v9,am,rfl,S6,B6,L6,R6,rp,fk,fa⟩
   rw[zp,qA] at fk;have fl:fs.length<=32:=by
    have:=congrArg List.length fk;rw[zp] at this;omega
   refine⟨_,rfl,R,xs,rfl,.inl ⟨u6 R6,fun p ak=>?_⟩⟩
   refine k p fs U _ (S6.new ak) ((B6.new ak).mono (by rw[zp] at *;omega)) ⟨p,_,rfl,ua zc,Reps.keep (SameT.of (zb ak)) (xK fs) rp⟩ (by rw[fk];exact al) ee (by omega) fa
structure Job where
 gx:Int
 gy:Int
 hd:Int
 fs:List yZ
 ps:List Vx
 as:List (Nat×Nat)
def xu(J:Job):Dat:=.tup [.tup [.int J.gx,.int J.gy],.int J.hd,.tup (J.fs.map va),.tup (J.ps.map xB),yu J.as]
theorem vT(J:Job):(xu J).imm=true:=by
 show(true&&(true&&(Dat.imms (J.fs.map va)&&(Dat.imms (J.ps.map xB)&&(Dat.imms (J.as.map jK)&&true)))))=true;rw[xK,jT,qx];rfl
structure JobOk(J:Job)(ord:List Nat):Prop where
 gate:inP J.gx J.gy
 hd0:1<=J.hd
 hd1:J.hd<=4
 fl:J.fs.length<=40
 fa:∀f∈J.fs,Nm f.k/\inP f.x f.y/\0<=f.m/\f.m<=400
 pl:J.ps.length<=60
 pa:∀p∈J.ps,Nm p.k/\inP p.x p.y/\∃f∈J.fs,f.k=p.k
 op:ord.Perm (List.range J.ps.length)
 bo:ByOrd ord J.as
 al:J.as.length<=300
 f0:1<=J.fs.length
theorem zdp{r:Int}(c:0<=r)(e:r<4):∃z:Int,atI [V.int 3,V.int 3,V.int 3,V.int 12] r=some (.int z)/\3<=z/\z<=12:=by
 have hc:r=0\/r=1\/r=2\/r=3:=by omega
 rcases hc with rfl | rfl | rfl | rfl
 ·exact⟨3,rfl,by decide,by decide⟩
 ·exact⟨3,rfl,by decide,by decide⟩
 ·exact⟨3,rfl,by decide,by decide⟩
 ·exact⟨12,rfl,by decide,by decide⟩
inductive W6(K:W.Frag)(g:List V)(H:Hp)(Q:VK):Prop
 | mk (b:Addr) (e c n:Int) (l:Bool) (_:g=[.ref b,.int e,.int c,.bl l]) (_:BoxAt H b n) (_:n<500000) (_:0<=e) (_:e<=60) (_:0<=c) (_:c<=60) (_:∀(p:Addr) (J:Job) (f:List Nat) H',SameB b H H'->BoxAt H' b (n+3000)->Rep K H' (xu J) (.ref p)->JobOk J f->Q (.ref p) H'):W6 K g H Q
def zel(K:W.Frag):Sp:=fun c H Q _=>W6 K c H Q
theorem zet:zB ["_law_box_here","_law_few","_law_most","_law_plenty","_law_many","_law_kinds","_law_parts","_law_feeders_here"] ["_law_box_here","_law_few","_law_most","_law_plenty"] (zq (topL 42)):=u0
def Y4(b:_)(e:_)(c:_)(f:_)(H:_)(n:_):=fun(g:St) (H':Hp)=>(Ex1 fun(m:Int)=>An5 (g=[some (.ref b),some (.int e),some (.int c),some (.bl f),some (.int m),none,none,none]) (0<=m) (m<=60) (SameB b H H') (BoxAt H' b (n+2)):Prop)
def Y3(K:_)(c:List Str)(b:_)(g:_)(n:_):=fun(j:Nat) (l:List V) (e:Hp)=>(Ex1 fun(f:List Vx)=>An5 (Reps K e (f.map xB) l) (f.length=j) ((∀q∈f,q.k∈c/\inP q.x q.y)) (SameB b g e) (BoxAt e b (n+700+j)):Prop)
theorem zft{f:Addr}{fd:FuncData}(F:Fun K "_law_job" "_law_job" (topL 42) f fd)(B:Blt M)(g:Dfn P w K M C "_law_take" 1 ["_law_box_here","_law_size"] xL)(U:Dfn P w K M C "_law_names" 3 ["_law_box_here","_law_many"] W1)(Y:Dfn P w K M C "_law_place" 2 ["_law_box_here","_law_taken"] (Zs K))(O:Dfn P w K M C "_law_places" 3 ["_law_box_here","_law_many"] XH)
  (I:Dfn P w K M C "_law_feeders" 3 ["_law_box_here","_law_kinds","_law_parts","_law_plenty"] (zbs K)) (L:Dfn P w K M C "_law_aheads" 3 ["_law_box_here","_law_many"] (XT K)):FnOk P w K M C CX0 4 f fd ["_law_box_here","_law_few","_law_most","_law_plenty"] (zel K):=by
 have nd:=zet.nd;refine F.ok zet (fun vs H Q E h=>?_) (fun bj A be s H vs Q E hr h=>?_)
 ·obtain⟨b,ao,ae,n,pl,rfl,_⟩:=h
  rfl
 ·obtain⟨b,ao,ae,n,pl,rfl,B0,hn,f0,f1,bm,bn,k⟩:=h
  have bh:=bG100000;refine⟨_,(ze (wY (zG (i:=4) nd rfl (Or.inl rfl) (zg g hr.m rfl (za (pv 0) (za (zA qh (vN (zJ Yu (zg g hr.m rfl (za (pv 0) (za zf zd))) zf (zO _)) (pv 1) (pv 2)) zf) zd)))))
   (ze (zG (i:=5) nd rfl (Or.inr rfl) (zg U hr.m rfl (za (pv 0) (za (zA qh zf (zg g hr.m rfl (za (pv 0) (za (zx zT (zV (za zf (za zf (za zf (za zf zd))))) (zg g hr.m rfl (za (pv 0) (za zf zd))) (fun _ _=>rfl)) zd)))) zd))))
   (ze (zG (i:=6) nd rfl (Or.inl rfl) (qL ja rfl B.tuple jj (za (jS ["_law_kinds","_law_box_here"] [5,0] rfl rfl (by kernel_rfl) (qW (zg O hr.m rfl (za (pv 0) (za (pv 4) zd)))) (fun _ _ _ _=>qG) (fun _ _ _ _=>(qS (za (zx (ZY (K:=K) rfl) (pv 1) (zg g hr.m rfl (za (pv 2) (za (zt (xo (K:=K) rfl) rfl B.len boot_len (za (pv 1) zd)) zd))) (fun _ _=>rfl)) (za (pv 0) zd))))) zd)))
   (ze (zG (i:=7) nd rfl (Or.inl rfl) (zg I hr.m rfl (za (pv 0) (za (pv 5) (za (pv 6) (za (pv 3) zd))))))
   (zj (zw (qS (pa5 (zg Y hr.m rfl (za (pv 0) (za (zV zd) zd))) (zA qh zf (zg g hr.m rfl (za (pv 0) (za zf zd)))) (pv 7) (pv 6) (zg L hr.m rfl (za (pv 0) (za (pv 4) zd))))))))))),?_⟩
  refine⟨Y4 b ao ae pl H n,?_,?_⟩
  ·refine⟨_,rfl,_,rfl,b,8,n,rfl,B0,by omega,by decide,by decide,fun r H1 r0 r1 B1 S1=>⟨_,_,rfl,rfl,_,rfl,jC (fun c=>⟨_,rfl,_,_,rfl,rfl,?_⟩) (fun c=>⟨_,rfl,_,_,rfl,rfl,?_⟩)⟩⟩
   ·exact⟨b,_,_,rfl,B1,by omega,by omega,by omega,fun m H2 a0 a1 B2 S2=>⟨m,rfl,a0,by omega,S1.trans S2,B2.mono (by omega)⟩⟩
   ·exact⟨b,_,_,rfl,B1,by omega,by omega,by omega,fun m H2 a0 a1 B2 S2=>⟨m,rfl,a0,by omega,S1.trans S2,B2.mono (by omega)⟩⟩
  rintro σ' H2 ⟨m,rfl,m0,m1,S2,B2⟩;refine⟨_,rfl,_,rfl,le4,fun l1 h1=>⟨_,rfl,b,4,_,rfl,B2.new h1,by omega,by decide,by decide,fun r H3 r0 r1 B3 S3=>?_⟩⟩
  have L3:=S3 l1 _ zc (B2.nne h1);obtain⟨z,ez,z0,z1⟩:=zdp r0 r1;refine⟨l1,_,_,_,rfl,rfl,u6 L3,ez,b,z,_,rfl,B3,by omega,by omega,by omega,fun q H4 q0 q1 B4 S4=>⟨_,_,rfl,rfl,b,1+q,_,rfl,B4,by omega,by omega,by omega,fun ks G H5 S5 B5 nk kN Rk kl=>?_⟩⟩
  have an:=(((S2.new h1).trans S3).trans S4).trans S5;have ek:(G.map V.str).length=G.length:=zp ..;clear S2 S3 S4 S5 B2 B3 B4 L3 h1;refine⟨_,rfl,_,rfl,b,m,_,rfl,B5,by omega,m0,by omega,fun l as H6 S6 B6 nl lN hl pa al=>?_⟩
  have ac:=Rk.draw S6 nk;refine⟨l,rfl,⟨_,u6 hl⟩,vw (K:=K) (a:=l) (xs:=as.map V.ref) (Y3 K G b H6 n) ⟨[],rfl,rfl,(fun x h=>nomatch h),ue _ _,B6.mono (by omega)⟩ (fun j zs H7 ⟨_,_,_,_,s7,_⟩=>u6 (s7 _ _ hl nl)) ?_ ?_⟩
  ·rintro j x zs H7 hx ⟨J,rq,ql,qa,S7,B7⟩
   rw[qv] at hx;obtain⟨a,ha,rfl⟩:=qJ.mp hx;have hj:=(zK.mp ha).1;have zl:zs.length=j:=by rw[rq.len,zp,ql]
   refine⟨rfl,⟨_,rfl,_,rfl,_,rfl,ks,_,rfl,.inl (u6 (ac.draw S7 nk).1),b,_,_,rfl,B7,by omega,by omega,by omega,fun q H8 c0 c1 B8 S8=>?_⟩⟩
   obtain⟨y,ey,my⟩:=zbd (ns:=G) c0 (by omega)
   obtain⟨px,py,bd,b1,b2,b3,b4⟩:=(pa a (qq ha)).draw B6 (S7.trans S8);refine⟨ks,_,_,_,rfl,rfl,u6 (ac.draw (S7.trans S8) nk).1,ey,_,rfl,le2,fun T hT=>⟨by omega,J++[⟨y,px,py⟩],?_,by rw[zZ,ql];rfl,fun q hq=>?_,(S7.trans S8).new hT,(B8.new hT).mono (by omega)⟩⟩
   ·rw[zR]
    have rT:Rep K (upd H8 T (.tup [.str y,.ref a])) (xB ⟨y,px,py⟩) (.ref T):=⟨T,_,rfl,ua zc,_,_,rfl,rfl,_,_,rfl,⟨a,_,rfl,ua ((zb hT) _ _ bd),_,_,rfl,rfl,_,_,rfl,rfl,rfl⟩,rfl⟩;exact ud rT (Reps.keep ((uc B7 S8).trans (.of (zb hT))) (jT J) rq)
   ·rcases qo.mp hq with w1 | w1
    ·exact qa q w1
    ·rw[zY.mp w1];exact⟨my,b1,b2,b3,b4⟩
  rintro zs H7 ⟨J,rq,ql,qa,S7,B7⟩;rw[zp] at ql;have B7:BoxAt H7 b (n+800):=B7.mono (by rw[zp];omega)
  have zl:zs.length=as.length:=by rw[rq.len,zp,ql]
  refine⟨by omega,fun D hD=>⟨D,zs,rfl,.inl ⟨u6 zc,fun ps aq=>?_⟩⟩⟩
  have sm:=(zb (o:=.lst zs) hD).trans (zb (o:=.tup zs) aq);have S8:=(an.trans S6).trans (S7.trans (uf (b:=b) sm));have B8:=B7.same sm;have ah:=(ac.draw S7 nk).same sm;have P8:Rep K (upd (upd H7 D (.lst zs)) ps (.tup zs)) (.tup (J.map xB)) (.ref ps):=⟨ps,_,rfl,ua zc,Reps.keep (.of sm) (jT J) rq⟩;generalize upd (upd H7 D (.lst zs)) ps (.tup zs)=H8 at sm S8 B8 ah P8;clear an S6 S7 B5 B6 B7 Rk ac rq hD aq pa hl;refine⟨_,rfl,_,rfl,_,rfl,_,rfl,b,ks,ps,pl,_,G,J,rfl,B8,by omega,nk,ah,by omega,by omega,P8,by omega,fun fp fs es H9 S9 B9 F9 aa ee fl fa=>?_⟩
  have P9:=Rep.keep (d:=.tup (J.map xB)) (uc B8 S9) (jT J) P8;refine⟨_,rfl,le0,fun t ht=>⟨b,t,_,[],rfl,B9.new ht,by omega,B9.nne ht,zc,qQ _,(fun a h=>nomatch h),fun gp az am af gN ga=>?_⟩⟩
  obtain⟨gx,gy,bb,g1,g2,g3,g4⟩:=ga;refine⟨_,rfl,b,4,_,rfl,af,by omega,by decide,by decide,fun hd bi d0 d1 ag ai=>⟨_,_,rfl,rfl,_,rfl,_,rfl,_,rfl,_,rfl,b,m,_,rfl,ag,by omega,m0,by omega,fun ap ak ar ab aj aw au op bo ba=>⟨leN (by show 5<=1000;decide),fun p hp=>?_⟩⟩⟩
  have t9:SameT H9 ab:=((SameT.of (zb ht)).trans (.draw (B9.new ht) am)).trans ((uc af ai).trans (.draw ag aj));have bg:SameT az ab:=(uc af ai).trans (.draw ag aj);have up:Same ab (upd ab p (.tup [.ref gp,.int (1+hd),.ref fp,.ref ps,.ref ap])):=zb hp;have ax:=Rep.keep (d:=.tup (fs.map va)) (t9.trans (.of up)) (xK fs) F9;have b0:=Rep.keep (d:=.tup (J.map xB)) (t9.trans (.of up)) (jT J) P9;have av:=Rep.keep (d:=yu ak) (.of up) (qx ak) au;have ay:=(bg.trans (.of up)) gp _ bb (fun xs h=>nomatch h) (fun xs h=>nomatch h)
  have bf:J.length=m.toNat:=by omega
  have fk:∀kd∈G,∃f∈fs,f.k=kd:=fun kd bc=>by
   have:=aa.mem_iff.mpr (jA es bc);obtain⟨f,hf,e⟩:=qz.mp this;exact⟨f,hf,e⟩
  refine k p ⟨gx,gy,1+hd,fs,J,ak⟩ ar _ (((S8.trans S9).trans ((uf (zb ht)).trans am)).trans ((ai.trans aj).new hp)) ((aw.new hp).mono (by omega)) ?_ ?_
  ·exact⟨p,_,rfl,ua zc,_,_,rfl,⟨gp,_,rfl,ua ay,_,_,rfl,rfl,_,_,rfl,rfl,rfl⟩,_,_,rfl,rfl,_,_,rfl,ax,_,_,rfl,b0,_,_,rfl,av,rfl⟩
  ·refine⟨⟨g1,g2,g3,g4⟩,by show 1<=1+hd;omega,by show 1+hd<=4;omega,fl,fa,by show J.length<=60;omega,fun q hq=>?_,by show ar.Perm (List.range J.length);rw[bf];exact op,bo,ba,?_⟩
   ·obtain⟨hk,hi⟩:=qa q hq
    exact⟨ah.2 q.k hk,hi,fk q.k hk⟩
   ·have:=aa.length_eq
    rw[zp,zZ] at this;show 1<=fs.length;omega
theorem zL{α:Type}{l:List α}{i:Nat}{x:α}(h:l[i]? =some x):l.take (i+1)=l.take i++[x]:=by
 obtain⟨e,c⟩:=zK.mp h;rw[<- c,yt]
def zn(os:List Nat):List V:=os.map fun i:Nat=>V.int (i:Int)
theorem zu(os:List Nat):(zn os).length=os.length:=zp ..
theorem X4(os:List Nat):zn os=(os.map fun i:Nat=>(i:Int)).map V.int:=by unfold zn;rw[vC];rfl
theorem jr:∀os:List Nat,(zn os).all xf=true
 | []=>rfl
 | o::os=>by
  show(true&&(zn os).all xf)=true;rw[jr os];rfl
theorem wu(k:Nat):∀os:List Nat,inV (.int (k:Int)) (zn os)=decide (k∈os)
 | []=>rfl
 | o::os=>by
  show((o:Int)==(k:Int)||inV (.int (k:Int)) (zn os))=_
  rw[wu k os];by_cases h:o=k
  ·subst h;simp
  ·have e:((o:Int)==(k:Int))=false:=by simp;omega
   rw[e,Qh,decide_eq_decide];exact⟨fun z=>jn _ z,fun z=>(qm.mp z).resolve_left fun y=>h y.symm⟩
theorem Jk(k:Nat):∀os:List Nat,((os.map fun i:Nat=>(i:Int)).erase (k:Int))=(os.erase k).map fun i:Nat=>(i:Int)
 | []=>rfl
 | o::os=>by
  rw[qY,List.erase_cons,List.erase_cons];by_cases h:(o==k)=true
  ·have e:((o:Int)==(k:Int))=true:=by
    have:=eq_of_beq h;simp[this]
   rw[zC h,zC e]
  ·have e:¬((o:Int)==(k:Int))=true:=fun z=>h (by
    have:=eq_of_beq z;have:o=k:=by omega
    simp[this])
   rw[zv h,zv e,qY,Jk k os]
theorem j7{os:List Nat}{i:Nat}{x:V}(h:(zn os)[i]? =some x):∃k,os[i]? =some k/\x=.int (k:Int):=by
 unfold zn at h;rw[qv] at h;obtain⟨k,hk,rfl⟩:=qJ.mp h;exact⟨k,hk,rfl⟩
def Early(os:List Nat)(c:List (Nat×Nat)):Prop:=∀p∈c,∀l:Nat,os[l]? =some p.2->∃k:Nat,k<l/\os[k]? =some p.1
theorem Early.snoc{os:List Nat}{f:List (Nat×Nat)}{k:Nat}(h:Early os f)(hk:∀p∈f,p.2=k->p.1∈os):Early (os++[k]) f:=by
 intro p hp l c;by_cases A:l<os.length
 ·rw[xH A] at c
  obtain⟨j,D,E⟩:=h p hp l c;exact⟨j,D,by rw[xH (by omega)];exact E⟩
 ·have s:l=os.length:=by
   have:=(zK.mp c).1;rw[zZ] at this;simp at this;omega
  subst s;rw[xQ (zM _),wO] at c;have e:k=p.2:=by simpa using c
  obtain⟨j,g,B⟩:=Ju.mp (hk p hp e.symm);exact⟨j,g,by rw[xH g,<- B];simp[g]⟩
theorem ByOrd.mem1{c:List Nat}{f:List (Nat×Nat)}(h:ByOrd c f){p:Nat×Nat}(hp:p∈f):p.1∈c:=by
 obtain⟨k,l,_,e,_⟩:=h p hp;exact qq e
theorem ByOrd.mem2{c:List Nat}{f:List (Nat×Nat)}(h:ByOrd c f){p:Nat×Nat}(hp:p∈f):p.2∈c:=by
 obtain⟨k,l,_,_,e⟩:=h p hp;exact qq e
theorem Early.ord{os ord:List Nat}{c:List (Nat×Nat)}(h:Early os c)(b:ByOrd ord c)(hp:os.Perm ord):ByOrd os c:=by
 intro p hq;obtain⟨l,A,f⟩:=Ju.mp (hp.mem_iff.mpr (b.mem2 hq));have e:os[l]? =some p.2:=by rw[<- f];simp[A]
 obtain⟨k,g,s⟩:=h p hq l e;exact⟨k,l,g,s,e⟩
def qD(left:List Nat)(c:List (Nat×Nat)):List Nat:=(c.filter fun p=>decide (p.1∈left)).map fun p=>p.2
def ju(left:List Nat)(c:List (Nat×Nat)):List Nat:=left.filter fun k=>!decide (k∈qD left c)
theorem X9{left:List Nat}{g:List (Nat×Nat)}{c:Nat}:c∈qD left g↔∃p∈g,p.1∈left/\p.2=c:=by
 unfold qD;rw[qz];constructor
 ·rintro⟨p,hp,rfl⟩
  obtain⟨e,f⟩:=xx.mp hp;exact⟨p,e,xF f,rfl⟩
 ·rintro⟨p,e,f,rfl⟩
  exact⟨p,xx.mpr ⟨e,je f⟩,rfl⟩
theorem zaK{left f:List Nat}{g:List (Nat×Nat)}(b:ByOrd f g)(Y:f.Nodup)(Q:∀k∈left,k∈f)(D:left≠[]):ju left g≠[]:=by
 have E:∀(n:Nat) (k:Nat),k∈left->(∃i,i<n/\f[i]? =some k)->∃c∈left,c∉qD left g:=by
  intro n;induction n with
  | zero=>rintro k _ ⟨i,B,_⟩;omega
  | succ n U=>
   rintro k hk ⟨i,B,l⟩;by_cases G:k∈qD left g
   ·obtain⟨p,hp,A,rfl⟩:=X9.mp G
    obtain⟨x,y,T,I,s⟩:=b p hp;have e:y=i:=by
     have A:=(zK.mp l).1;have J:=(zK.mp s).1;have L:f[y]=f[i]:=by
      rw[qP A] at l;rw[qP J] at s;exact(jm s).trans (jm l).symm
     exact(Ql Y).mp L
    exact U p.1 A ⟨x,by omega,I⟩
   ·exact⟨k,hk,G⟩
 obtain⟨k,hk⟩:∃k,k∈left:=by
  cases left with
  | nil=>exact absurd rfl D
  | cons a r=>exact⟨a,by simp⟩
 obtain⟨i,B,l⟩:=Ju.mp (Q k hk);obtain⟨c,hc,O⟩:=E (i+1) k hk ⟨i,by omega,by rw[<- l];simp[B]⟩
 intro z;have:c∈ju left g:=xx.mpr ⟨hc,by simp[O]⟩
 rw[z] at this;cases this
theorem ZW{H:Hp}{J:Job}{B:Addr}(h:Rep K H (xu J) (.ref B)):∃g f l c:Addr,SqT K H B [.ref g,.int J.hd,.ref f,.ref l,.ref c]/\Rep K H (.tup [.int J.gx,.int J.gy]) (.ref g)/\Rep K H (.tup (J.fs.map va)) (.ref f)/\Rep K H (.tup (J.ps.map xB)) (.ref l)/\Rep K H (yu J.as) (.ref c):=by
 obtain⟨a,xs,e,q,x0,r0,G,h0,x1,r1,e1,h1,x2,r2,e2,h2,x3,r3,I,h3,x4,r4,L,h4,O⟩:=h;cases e;subst G e1 e2 I L;have s:r4=[]:=O;subst s;have A:x1=.int J.hd:=h1;subst A;obtain⟨g,Y,rfl,U⟩:=h0;obtain⟨f,T,rfl,Q⟩:=h2;obtain⟨l,px,rfl,pq⟩:=h3;obtain⟨c,E,rfl,D⟩:=h4;exact⟨g,f,l,c,q,⟨g,Y,rfl,U⟩,⟨f,T,rfl,Q⟩,⟨l,px,rfl,pq⟩,⟨c,E,rfl,D⟩⟩
theorem vk{H:Hp}{f:List Dat}{a:Addr}(h:Rep K H (.tup f) (.ref a)):∃c,SqT K H a c/\Reps K H f c:=by
 obtain⟨g,c,e,q,r⟩:=h;cases e;exact⟨c,q,r⟩
inductive QZ(K:W.Frag)(f:List V)(H:Hp)(Q:VK):Prop
 | mk (b e:Addr) (J:Job) (c:List Nat) (n:Int) (_:f=[.ref b,.ref e]) (_:BoxAt H b n) (_:n<600000) (_:Rep K H (xu J) (.ref e)) (_:JobOk J c) (_:∀(l:Addr) (os:List Nat) H',SameB b H H'->BoxAt H' b (n+60)->l≠b->H l=none->H' l=some (.lst (zn os))->os.Perm (List.range J.ps.length)->ByOrd os J.as->Q (.ref l) H'):QZ K f H Q
def WY(K:W.Frag):Sp:=fun c H Q _=>QZ K c H Q
inductive zhk(b g e f:Addr)(H:Hp)(n:Int)(J:Job)(m:Nat)(σ:St)(c:Hp):Prop
 | mk (left os:List Nat) (l s:Option V) (_:σ=[some (.ref b),some (.ref g),some (.ref e),some (.ref f),l,s]) (_:m=left.length) (_:SameB b H c) (_:BoxAt c b (n+os.length)) (_:c e=some (.lst (zn left))) (_:c f=some (.lst (zn os))) (_:(left++os).Perm (List.range J.ps.length)) (_:Early os J.as):zhk b g e f H n J m σ c
inductive zhl(b l f g:Addr)(H:Hp)(n:Int)(J:Job)(left:List Nat)(σ:St)(e:Hp):Prop
 | mk (c os:List Nat) (s A:Option V) (_:c.length<left.length) (_:σ=[some (.ref b),some (.ref l),some (.ref f),some (.ref g),s,A]) (_:SameB b H e) (_:BoxAt e b (n+os.length)) (_:e f=some (.lst (zn c))) (_:e g=some (.lst (zn os))) (_:(c++os).Perm (List.range J.ps.length)) (_:Early os J.as):zhl b l f g H n J left σ e
theorem Yi:zB ["_law_box_here","_law_job_here","_law_left","_law_found","_law_late","_law_free"] ["_law_box_here","_law_job_here"] (zq (topL 43)):=u0
theorem zcl{f:Addr}{fd:FuncData}(F:Fun K "_law_order" "_law_order" (topL 43) f fd)(B:Blt M)(a0:Dfn P w K M C "_law_take" 1 ["_law_box_here","_law_size"] xL):FnOk P w K M C CX0 2 f fd ["_law_box_here","_law_job_here"] (WY K):=by
 have nd:=Yi.nd;refine F.ok Yi (fun vs H Q E h=>?_) (fun c3 A bu s H vs Q E hr h=>?_)
 ·obtain⟨b,jp,J,au,n,rfl,_⟩:=h
  rfl
 ·obtain⟨b,jp,J,au,n,rfl,B0,hn,rj,jo,k⟩:=h
  have hu:=hr.units0;have c0:=bG100000;have pl:=jo.pl;have al:=jo.al;obtain⟨g,fs,ps,as,qj,_,_,rp,ra⟩:=ZW rj;obtain⟨T,qp,bx⟩:=vk rp;obtain⟨av,qa,be⟩:=vk ra;have lp:=bx.len;rw[zp] at lp;have la:=be.len;rw[zp] at la;refine⟨_,(ze (j6 (qS (za (w9 rfl rfl B.list rfl B.range vd (za (zt zD rfl B.len boot_len (za (zx zN (pv 1) zf (fun _ _=>rfl)) zd)) zd)) (za (zV zd) zd))) (qF rfl (zr (zy (i:=2) nd rfl (Or.inr rfl)) (zr (zy (i:=3) nd rfl (Or.inl rfl)) qe))))
   (ze (XZ jy (zJ (ZQ hu) (pv 2) (zV zd) (zO _))
   (ze (zG (i:=4) nd rfl (Or.inr rfl) (vM ["_law_left"] [2] rfl rfl (by kernel_rfl) (jt (zx zN (pv 1) zf (fun _ _=>rfl))) (fun _ _ _ _=>(vn (zJ (vp (K:=K) rfl) (pv 0) (pv 2) (by with_unfolding_all rfl)))) (fun _ _ _ _=>(pv 1))))
    (ze (VN ["_law_late"] [4] rfl rfl (by kernel_rfl) (qW (pv 2)) (fun _ _ _ _=>(vn (zJ (xY (K:=K) rfl) (pv 0) (pv 1) (by with_unfolding_all rfl)))) (fun _ _ _ _=>(pv 0)) (zy (i:=5) nd rfl (Or.inl rfl)))
    (ze (jb (xc xj we wc jd (pv 3) (za (zx zT (pv 5) (zg a0 hr.m rfl (za (pv 0) (za (zt zD rfl B.len boot_len (za (pv 5) zd)) zd))) (fun _ _=>rfl)) zd)))
    (zj (jb (xc xj PySem.F.slot_list_remove PySem.F.type_list_remove VU (pv 2) (za (zx zT (pv 3) (zeF za5 zf) (fun _ _=>rfl)) zd))))))))
   (zj (zw (pv 3))))),?_⟩
  refine⟨_,rfl,jp,_,_,_,rfl,rfl,qj,rfl,ps,_,rfl,.inr qp,_,rfl,by omega,by omega,fun G h0=>⟨le0,fun I L=>⟨le2,fun t ht=>?_⟩⟩⟩
  have eN:((List.range ((T.length:Int)).toNat).map fun i:Nat=>V.int (i:Int))=zn (List.range J.ps.length):=by
   unfold zn;rw[show((T.length:Int)).toNat=J.ps.length by omega]
  have n0:=B0.nne h0;have S0:=(ue b H).new (o:=.lst ((List.range ((T.length:Int)).toNat).map fun i:Nat=>V.int (i:Int))) h0
  have B1:=B0.new (o:=.lst ((List.range ((T.length:Int)).toNat).map fun i:Nat=>V.int (i:Int))) h0
  have L0:upd H G (.lst ((List.range ((T.length:Int)).toNat).map fun i:Nat=>V.int (i:Int))) G=some (.lst (zn (List.range J.ps.length))):=by rw[zc,eN]
  generalize upd H G (.lst ((List.range ((T.length:Int)).toNat).map fun i:Nat=>V.int (i:Int)))=H1 at S0 B1 L0 L ht
  have n1:=B1.nne L;have N1:=S0.none L n1;have bc:G≠I:=zk L0 L;have S1:=S0.new (o:=.lst []) L;have B2:=B1.new (o:=.lst []) L;have af:=(zb (o:=.lst []) L) _ _ L0;have L1:upd H1 I (.lst []) I=some (.lst []):=zc;generalize upd H1 I (.lst [])=H2 at S1 B2 af L1 ht;have S2:=S1.new (o:=.tup [.ref G,.ref I]) ht;have B3:=B2.new (o:=.tup [.ref G,.ref I]) ht;have ag:=(zb (o:=.tup [.ref G,.ref I]) ht) _ _ af;have ah:=(zb (o:=.tup [.ref G,.ref I]) ht) _ _ L1;have T3:upd H2 t (.tup [.ref G,.ref I]) t=some (.tup [.ref G,.ref I]):=zc;generalize upd H2 t (.tup [.ref G,.ref I])=H3 at S2 B3 ag ah T3;refine⟨t,_,rfl,ua T3,rfl,_,_,rfl,_,_,rfl,rfl,?_⟩
  clear S0 S1 B1 B2 L0 af L1 ht L T3;refine⟨zhk b jp G I H n J,
   ⟨_,List.range J.ps.length,[],none,none,rfl,rfl,S2,B3.mono (by simp),ag,ah,by rw[jH],fun p _ l hl=>by simp at hl⟩,?_⟩
  clear S2 B3 ag ah;rintro m σ H4 ⟨left,os,v4,v5,rfl,rfl,S4,B4,LL,LO,pm,ea⟩;have ae:=pm.length_eq;rw[zZ,vh] at ae;refine⟨_,rfl,le0,fun q hq=>⟨G,q,_,rfl,rfl,u6 ((zb hq) _ _ LL),u6 zc,_,rfl,?_⟩⟩
  have S5:=S4.new (o:=.lst []) hq;have B5:=B4.new (o:=.lst []) hq;have aa:=(zb (o:=.lst []) hq) _ _ LL;have ab:=(zb (o:=.lst []) hq) _ _ LO;generalize upd H4 q (.lst [])=H5 at S5 B5 aa ab;clear S4 B4 LL LO hq;cases left with
  | nil=>
   refine ifF rfl ⟨_,rfl,k I os H5 S5 (B5.mono (by simp at ae;omega)) n1 N1 ab (by simpa using pm) (ea.ord jo.bo ?_)⟩
   have:os.Perm (List.range J.ps.length):=by simpa using pm
   exact this.trans jo.op.symm
  | cons c rest=>
   refine ifT rfl ?_
   have bq:c::rest≠[]:=fun z=>by cases z
   generalize c::rest=left at *
   clear c rest;refine⟨zhl b jp G I H n J left,
    fun σ' H' ⟨ar,bt,v4,v5,bp,e,a1,a2,a3,a4,a5,a6⟩=>⟨_,bp,ar,bt,v4,v5,e,rfl,a1,a2,a3,a4,a5,a6⟩,?_⟩
   have T5:=SameT.trans (uc B0 S5) (SameT.refl H5);have bd:=qj.keep T5;have ax:=qa.keep T5;have bf:=be.keep T5 (qx J.as);refine⟨_,rfl,jp,_,_,_,rfl,rfl,bd,rfl,as,rfl,⟨_,ax⟩,jJ (K:=K) (a:=as) (xs:=av) (fun i zs H6=>zs=zn (qD left (J.as.take i))/\Same H5 H6) ⟨rfl,ub _⟩ (fun i zs H6 ⟨_,D⟩=>D.sqT ax) ?_ ?_⟩
   ·rintro i x zs H6 hx ⟨rfl,D⟩
    obtain⟨d,e1,r1⟩:=(bf.same D).get hx;rw[qv] at e1;obtain⟨p,ep,rfl⟩:=qJ.mp e1;obtain⟨pa,xs,rfl,bv,y0,r0,f0,g0,y1,bw,f1,g1,f2⟩:=r1;subst f0 f1;cases(show bw=[] from f2)
    cases(show y0=_ from g0)
    cases(show y1=_ from g1)
    have hi:i<J.as.length:=(zK.mp ep).1;refine⟨pa,_,rfl,bv,rfl,_,_,rfl,_,_,rfl,rfl,rfl,?_⟩
    refine⟨_,rfl,_,rfl,G,zn left,rfl,.inl (u6 (D _ _ aa)),rfl,jr left,_,rfl,?_⟩
    have et:J.as.take (i+1)=J.as.take i++[p]:=zL ep;have ap:(if false=true then !inV (.int (p.1:Int)) (zn left) else inV (.int (p.1:Int)) (zn left))=decide (p.1∈left):=wu p.1 left
    rw[ap];refine jC (fun c=>⟨_,rfl,?_,?_,D⟩) (fun c=>⟨?_,D⟩)
    ·have:(qD left (J.as.take i)).length<=J.as.length:=by
      unfold qD;rw[zp];refine jx (xU _ _) ?_
      rw[qi];omega
     rw[zu];omega
    ·rw[et]
     unfold qD;rw[v1,zR,List.filter_cons_of_pos (by exact c)]
     unfold zn;rw[zR];rfl
    ·rw[et]
     unfold qD;rw[v1,List.filter_cons_of_neg (by exact c),List.filter_nil,jH]
   rintro zs H6 ⟨rfl,D⟩;have az:J.as.take av.length=J.as:=by rw[la,qA]
   rw[az];have br:(qD left J.as).length<=300:=by
    unfold qD;rw[zp];exact jx (xU _ _) al
   refine⟨by rw[zu];omega,fun ac Y=>?_⟩
   have S6:=(S5.trans (uf D)).new (o:=.lst (zn (qD left J.as))) Y;have B6:=(B5.same D).new (o:=.lst (zn (qD left J.as))) Y;have U:=(zb (o:=.lst (zn (qD left J.as))) Y) _ _ (D _ _ aa);have am:=(zb (o:=.lst (zn (qD left J.as))) Y) _ _ (D _ _ ab);have ai:upd H6 ac (.lst (zn (qD left J.as))) ac=some (.lst (zn (qD left J.as))):=zc;generalize upd H6 ac (.lst (zn (qD left J.as)))=H7 at S6 B6 U am ai;clear S5 B5 aa ab D Y T5 bd ax bf;refine⟨_,rfl,G,rfl,⟨_,u6 U⟩,vw (K:=K) (a:=G) (xs:=zn left) (fun i zs H8=>zs=zn ((left.take i).filter fun k=>!decide (k∈qD left J.as))/\Same H7 H8) ⟨rfl,ub _⟩ (fun i zs H8 ⟨_,D⟩=>u6 (D _ _ U)) ?_ ?_⟩
   ·rintro i x zs H8 hx ⟨rfl,D⟩
    obtain⟨c,ec,rfl⟩:=j7 hx;have hi:i<left.length:=(zK.mp ec).1;refine⟨rfl,?_⟩
    refine⟨_,rfl,_,rfl,ac,zn (qD left J.as),rfl,.inl (u6 (D _ _ ai)),rfl,jr _,_,rfl,?_⟩
    have ap:(if true=true then !inV (.int (c:Int)) (zn (qD left J.as)) else inV (.int (c:Int)) (zn (qD left J.as)))=!decide (c∈qD left J.as):=by rw[wu];rfl
    rw[ap,zL ec];refine jC (fun d=>⟨_,rfl,?_,?_,D⟩) (fun d=>⟨?_,D⟩)
    ·have:=xU (fun k=>!decide (k∈qD left J.as)) (left.take i)
     rw[qi] at this;rw[zu];omega
    ·rw[v1,List.filter_cons_of_pos (by exact d)]
     unfold zn;rw[zR];rfl
    ·rw[v1,List.filter_cons_of_neg (by exact d),List.filter_nil,jH]
   rintro zs H8 ⟨rfl,D⟩;have bm:left.take (zn left).length=left:=by rw[zu,qA]
   rw[bm];have bo:(left.filter fun k=>!decide (k∈qD left J.as))=ju left J.as:=rfl
   rw[bo];have c4:(ju left J.as).length<=left.length:=xU _ _;refine⟨by rw[zu];omega,fun lf O=>?_⟩
   have S7:=(S6.trans (uf D)).new (o:=.lst (zn (ju left J.as))) O;have B7:=(B6.same D).new (o:=.lst (zn (ju left J.as))) O;have ay:=(zb (o:=.lst (zn (ju left J.as))) O) _ _ (D _ _ U);have an:=(zb (o:=.lst (zn (ju left J.as))) O) _ _ (D _ _ am);have aj:upd H8 lf (.lst (zn (ju left J.as))) lf=some (.lst (zn (ju left J.as))):=zc;have bs:=(B6.same D).nne O;generalize upd H8 lf (.lst (zn (ju left J.as)))=H9 at S7 B7 ay an aj;clear S6 B6 U am ai D O;have inr:∀x∈left,x∈au:=fun x hx=>by
    have L:=pm.mem_iff.mp (jA os hx);exact jo.op.mem_iff.mpr L
   have aw:au.Nodup:=jo.op.nodup_iff.mpr Zg;have bn:=zaK jo.bo aw inr bq;have bz:0<(ju left J.as).length:=Xi.mpr bn;refine⟨_,rfl,.inl ⟨rfl,_,u6 an⟩,_,rfl,_,rfl,_,rfl,lf,_,rfl,.inl (u6 aj),b,_,_,rfl,B7,by omega,by rw[zu];omega,by rw[zu];omega,fun r Ha r0 r1 Ba Sa=>?_⟩
   rw[zu] at r1;have bb:r.toNat<(ju left J.as).length:=by omega
   have er:(zn (ju left J.as))[r.toNat]? =some (.int (((ju left J.as)[r.toNat]:Nat):Int)):=by
    unfold zn;rw[qv,qP bb];rfl
   have b0:atI (zn (ju left J.as)) r=some (.int (((ju left J.as)[r.toNat]:Nat):Int)):=by
    have:=zQ er;rwa[show((r.toNat:Nat):Int)=r by omega] at this
   have ba:=vZ bb;generalize (ju left J.as)[r.toNat]=c at er b0 ba;obtain⟨cl,cn⟩:=xx.mp ba;have bj:c∉qD left J.as:=by simpa using cn
   have bg:=Sa _ _ aj bs;have bi:=Sa _ _ an n1;have bh:=Sa _ _ ay n0;refine⟨lf,_,_,_,rfl,rfl,u6 bg,b0,I,_,_,rfl,rfl,bi,by rw[zu];omega,?_⟩
   have eO:zn os++[V.int (c:Int)]=zn (os++[c]):=by unfold zn;rw[zR];rfl
   rw[eO];have Sb:=(S7.trans Sa).put (o:=.lst (zn (os++[c]))) N1;have Bb:=Ba.other (o:=.lst (zn (os++[c]))) n1;have ao:upd Ha I (.lst (zn (os++[c]))) I=some (.lst (zn (os++[c]))):=zc;have ak:upd Ha I (.lst (zn (os++[c]))) G=some (.lst (zn left)):=by rw[zm bc];exact bh
   generalize upd Ha I (.lst (zn (os++[c])))=Hb at Sb Bb ao ak;have aq:atI (zn (os++[c])) (-1)=some (.int (c:Int)):=by
    have:zn (os++[c])=zn os++[V.int (c:Int)]:=eO.symm;rw[this];exact Vu _ _
   refine⟨_,rfl,.inl ⟨rfl,_,u6 ak⟩,_,rfl,_,rfl,I,_,_,_,rfl,rfl,u6 ao,aq,G,left.map fun i:Nat=>(i:Int),(c:Int),rfl,rfl,by rw[ak,X4],qz.mpr ⟨c,cl,rfl⟩,?_⟩
   have eE:((left.map fun i:Nat=>(i:Int)).erase (c:Int)).map V.int=zn (left.erase c):=by rw[Jk,X4]
   rw[eE];have N0:H G=none:=h0;have c2:(left.erase c).length+1=left.length:=by
    have:=List.length_erase_of_mem cl;have:=List.length_pos_of_mem cl;omega
   refine⟨left.erase c,os++[c],_,_,by omega,rfl,Sb.put N0,(Bb.other n0).mono (by rw[zZ];simp;omega),zc,by rw[zm bc.symm];exact ao,?_,?_⟩
   ·have L:(left++os).Perm (c::(left.erase c)++os):=(List.perm_cons_erase cl).append_right os
    have h2:(left.erase c++(os++[c])).Perm (c::left.erase c++os):=by
     rw[<- xG];exact List.perm_append_comm
    exact(h2.trans L.symm).trans pm
   ·refine ea.snoc fun p hp e=>?_
    have L:p.1∈left++os:=pm.mem_iff.mpr (jo.op.mem_iff.mp (jo.bo.mem1 hp));rcases qo.mp L with z | z
    ·exact absurd (X9.mpr ⟨p,hp,z,e⟩) bj
    ·exact z
structure zF where
 pk:List (Nat×Nat)
 ly:List Nat
def QB(k:Nat):Dat:=.int (k:Int)
def qy(t:zF):Dat:=.tup [.tup (t.pk.map jK),.tup (t.ly.map QB)]
theorem X3:∀(l:List Nat),Dat.imms (l.map QB)=true
 | []=>rfl
 | k::l=>by
  show(true&&Dat.imms (l.map QB))=true;rw[X3 l];rfl
theorem yy(t:zF):(qy t).imm=true:=by
 show(Dat.imms (t.pk.map jK)&&(Dat.imms (t.ly.map QB)&&true))=true;rw[qx,X3];rfl
theorem jE:∀(l:List zF),Dat.imms (l.map qy)=true
 | []=>rfl
 | t::l=>by
  show((qy t).imm&&Dat.imms (l.map qy))=true;rw[yy,jE l];rfl
theorem Reps.perm{H:Hp}{α:Type}{f:α->Dat}{I G:List V}(h:I.Perm G):∀{g:List α},Reps K H (g.map f) G->∃s:List α,s.Perm g/\Reps K H (s.map f) I:=by
 induction h with
 | nil=>intro g h;exact⟨g,List.Perm.refl _,h⟩
 | cons x hp Q=>
  intro g h;cases g with
  | nil=>cases(show _=[] from h)
  | cons a g=>
   obtain⟨y,r,e,B,A⟩:=h;cases e;obtain⟨s,p,q⟩:=Q A;exact⟨a::s,p.cons a,⟨_,_,rfl,B,q⟩⟩
 | swap x y l=>
  intro g h;cases g with
  | nil=>cases(show _=[] from h)
  | cons a g=>
   obtain⟨u,r,e,B,A⟩:=h;cases e;cases g with
   | nil=>cases(show _=[] from A)
   | cons c g=>
    obtain⟨u,r,e,L,O⟩:=A;cases e;exact⟨c::a::g,List.Perm.swap a c g,⟨_,_,rfl,L,_,_,rfl,B,O⟩⟩
 | trans B A D E=>
  intro g h;obtain⟨s,p,q⟩:=E h;obtain⟨J,T,U⟩:=D q;exact⟨J,T.trans p,U⟩
theorem yE{H:Hp}:∀(l:List Nat),Reps K H (l.map QB) (zn l)
 | []=>rfl
 | k::l=>⟨_,_,rfl,rfl,yE l⟩
theorem qM{H:Hp}{p:Nat×Nat}{x:V}(h:Rep K H (jK p) x):∃a,x=.ref a/\SqT K H a [.int p.1,.int p.2]:=by
 obtain⟨B,I,rfl,c,D,G,f,s,E,e,g,A,l⟩:=h;subst f g;cases(show e=[] from l)
 cases(show D=_ from s)
 cases(show E=_ from A)
 exact⟨B,rfl,c⟩
inductive XD(K:W.Frag)(f:List V)(H:Hp)(Q:VK):Prop
 | mk (b pk:Addr) (n:Int) (g:List V) (c:List (Nat×Nat)) (_:f=[.ref b,.ref pk]) (_:BoxAt H b n) (_:n<900000) (_:pk≠b) (_:H pk=some (.lst g)) (_:Reps K H (c.map jK) g) (_:c.length<=1000) (_:∀(p:Addr) (e:List (Nat×Nat)) H',SameB b H H'->BoxAt H' b (n+c.length)->e.Perm c->Rep K H' (qy ⟨e,c.map (·.1)⟩) (.ref p)->Q (.ref p) H'):XD K f H Q
def zbg(K:W.Frag):Sp:=fun c H Q _=>XD K c H Q
theorem zbC:zB ["_law_box_here","_law_picks_here"] ["_law_box_here","_law_picks_here"] (zq (topL 44)):=u0
theorem zdA{f:Addr}{fd:FuncData}(F:Fun K "_law_trip" "_law_trip" (topL 44) f fd)(B:Blt M)(c:Dfn P w K M C "_law_shuffled" 2 ["_law_box_here","_law_some"] (JE K)):FnOk P w K M C CX0 3 f fd ["_law_box_here","_law_picks_here"] (zbg K):=by
 have nd:=zbC.nd;refine F.ok zbC (fun vs H Q E h=>?_) (fun aj A ae s H vs Q E hr h=>?_)
 ·obtain⟨b,pk,n,L,e,rfl,_⟩:=h
  rfl
 ·obtain⟨b,pk,n,L,e,rfl,B0,hn,O,hp,rp,lp,k⟩:=h
  have ai:=bG100000;have lx:L.length=e.length:=by have:=rp.len;rwa[zp] at this
  refine⟨_,(zj (zw (qS (za (qL ja rfl B.tuple jj (za (zg c hr.m rfl (za (pv 0) (za (pv 1) zd))) zd)) (za (qL ja rfl B.tuple jj (za (vM [] [] rfl rfl (by kernel_rfl) (qW (pv 1)) (fun _ _ _ _=>qG) (fun _ _ _ _=>(pv 0))) zd)) zd))))),?_⟩
  refine⟨_,rfl,_,rfl,b,pk,n,L,rfl,B0,by omega,.inl ⟨O,hp⟩,by omega,fun l D H1 S1 B1 nl hl hL pm=>?_⟩
  have T1:=uc B0 S1;obtain⟨sh,ah,ag⟩:=Reps.perm pm (rp.keep T1 (qx e));have af:=rp.keep T1 (qx e);refine⟨l,D,rfl,.inl ⟨u6 hL,fun U I=>?_⟩⟩
  have s1:=zb (o:=.tup D) I;have G:=s1 _ _ (S1 _ _ hp O);have T:=af.same s1;have g:=ag.same s1;have Y:upd H1 U (.tup D) U=some (.tup D):=zc;have S2:=S1.new (o:=.tup D) I;have B2:=B1.new (o:=.tup D) I;generalize upd H1 U (.tup D)=H2 at s1 G T g Y S2 B2;refine⟨_,rfl,pk,rfl,⟨_,u6 G⟩,vw (K:=K) (a:=pk) (xs:=L) (fun i zs H3=>zs=zn ((e.map (·.1)).take i)/\Same H2 H3) ⟨rfl,ub _⟩ (fun i zs H3 ⟨_,J⟩=>u6 (J _ _ G)) ?_ ?_⟩
  ·rintro i x zs H3 hx ⟨rfl,J⟩
   obtain⟨d,e1,r1⟩:=(T.same J).get hx;rw[qv] at e1;obtain⟨p,ep,rfl⟩:=qJ.mp e1;obtain⟨pa,rfl,qp⟩:=qM r1;have hi:i<e.length:=(zK.mp ep).1;refine⟨pa,_,rfl,qp,rfl,_,_,rfl,_,_,rfl,rfl,rfl,?_⟩
   refine⟨_,rfl,?_,?_,J⟩
   ·rw[zu,qi,zp];omega
   ·have a0:(e.map (·.1))[i]? =some p.1:=by rw[qv,ep];rfl
    rw[zL a0];unfold zn;rw[zR];rfl
  rintro zs H3 ⟨rfl,J⟩;have aa:(e.map (·.1)).take L.length=e.map (·.1):=by rw[lx,<- zp (f:=(·.1)),qA]
  rw[aa];refine⟨by rw[zu,zp];omega,fun l2 ab=>⟨l2,_,rfl,.inl ⟨u6 zc,fun t2 ac=>⟨le2,fun q hq=>?_⟩⟩⟩⟩
  have s2:=(J.trans (zb (o:=.lst (zn (e.map (·.1)))) ab)).trans (zb (o:=.tup (zn (e.map (·.1)))) ac)
  have s3:=s2.trans (zb (o:=.tup [.ref U,.ref t2]) hq);refine k q sh _ (S2.trans (uf s3)) (B2.same s3 |>.mono (by omega)) ah ?_
  refine⟨q,_,rfl,ua zc,_,_,rfl,⟨U,D,rfl,ua (s3 _ _ Y),g.same s3⟩,_,_,rfl,⟨t2,_,rfl,ua ((zb hq) _ _ zc),yE _⟩,rfl⟩
def WF(J:Job)(p:Nat×Nat):Prop:=∃e c,J.ps[p.1]? =some e/\J.fs[p.2]? =some c/\c.k=e.k
structure TripOk(J:Job)(t:zF):Prop where
 p1:1<=t.pk.length
 p2:(t.pk.length:Int)<=J.hd
 ok:∀p∈t.pk,WF J p
 ly:t.ly.Perm (t.pk.map (·.1))
def zo(ts:List zF):List Nat:=ts.flatMap (·.ly)
theorem jB(ts:List zF)(t:zF):zo (ts++[t])=zo ts++t.ly:=by
 unfold zo;rw[wb];simp
def zI(ts:List zF):List (Nat×Nat):=ts.flatMap (·.pk)
theorem vm(ts:List zF)(t:zF):zI (ts++[t])=zI ts++t.pk:=by
 unfold zI;rw[wb];simp
structure StL(J:Job)(st:List Int)(l:List (Nat×Nat)):Prop where
 len:st.length=J.fs.length
 nn:∀(f:Nat) (z:Int),st[f]? =some z->0<=z
 cnt:∀(f:Nat) (z:Int) (fe:yZ),st[f]? =some z->J.fs[f]? =some fe->z=fe.m-((l.map (·.2)).count f:Int)
theorem StL.nil{J:Job}(h:∀f∈J.fs,0<=f.m):StL J (J.fs.map (·.m)) []:=by
 refine⟨zp ..,fun f z e=>?_,fun f z c e g=>?_⟩
 ·rw[qv] at e
  obtain⟨x,l,rfl⟩:=qJ.mp e;exact h x (qq l)
 ·rw[qv,g] at e
  cases e;show c.m=c.m-((0:Nat):Int);omega
theorem StL.perm{J:Job}{st:List Int}{l c:List (Nat×Nat)}(s:StL J st l)(p:l.Perm c):StL J st c:=⟨s.len,s.nn,fun f z A e g=>by rw[<- (p.map (·.2)).count_eq];exact s.cnt f z A e g⟩
theorem StL.take{J:Job}{st:List Int}{l:List (Nat×Nat)}(s:StL J st l){c f:Nat}{z:Int}(e:st[f]? =some z)(h:0<z):StL J (st.set f (z-1)) (l++[(c,f)]):=by
 refine⟨by rw[yS];exact s.len,fun g y A=>?_,fun g y D A B=>?_⟩
 ·rw[List.getElem?_set] at A
  split at A
  ·split at A
   ·cases A;omega
   ·cases A
  ·exact s.nn g y A
 ·rw[zR,wC]
  show _=_-((_+[f].count g:Nat):Int);rw[List.getElem?_set] at A
  split at A
  ·split at A
   ·cases A
    rename_i x _
    subst x;have:=s.cnt f z D e B;rw[Wz];omega
   ·cases A
  ·rename_i x
   have:=s.cnt g y D A B;rw[List.count_eq_zero_of_not_mem (a:=g) (l:=[f]) (fun z=>x (zY.mp z).symm)]
   omega
structure PlanOk(J:Job)(os:List Nat)(ts:List zF):Prop where
 tr:∀t∈ts,TripOk J t
 sub:(zo ts).Sublist os
 len:ts.length<=60
 cl:∀p∈J.as,p.2∈zo ts->p.1∈zo ts
 stk:∃st,StL J st (zI ts)
structure PlC(J:Job)(ou laid pre:List Nat):Prop where
 a1:∀x∈pre,x∈laid\/x∈ou
 a2:∀p∈J.as,p.2∈laid->p.1∈laid
theorem PlC.out{J:Job}{ou e f:List Nat}{c:Nat}(h:PlC J ou e f):PlC J (ou++[c]) e (f++[c]):=⟨fun x hx=>by
 rcases qo.mp hx with z | z
 ·exact(h.a1 x z).imp id fun y=>jA _ y
 ·exact .inr (qB _ z),h.a2⟩
theorem PlC.lay{J:Job}{ou f os:List Nat}{c i:Nat}(h:PlC J ou f (os.take i))(s:os[i]? =some c)(E:os.Nodup)(g:ByOrd os J.as)(hc:∀p∈J.as,p.2=c->p.1∉ou):PlC J ou (f++[c]) (os.take i++[c]):=⟨fun x hx=>by
 rcases qo.mp hx with z | z
 ·exact(h.a1 x z).imp (fun y=>jA _ y) id
 ·exact .inl (qB _ z),fun p hp D=>by
 rcases qo.mp D with z | z
 ·exact jA _ (h.a2 p hp z)
 ·have e:p.2=c:=zY.mp z
  obtain⟨k,l,O,e1,e2⟩:=g p hp;have L:l=i:=by
   obtain⟨G,A⟩:=zK.mp e2;obtain⟨I,B⟩:=zK.mp s;exact(Ql E).mp (A.trans (e.trans B.symm))
  have:p.1∈os.take i:=xP.mpr ⟨k,by rw[Qm,zC (by omega)];exact e1⟩
  rcases h.a1 _ this with y | y
  ·exact jA _ y
  ·exact absurd y (hc p hp e)⟩
structure PlS(K:W.Frag)(H:Hp)(b ls lf lp lo lq:Addr)(st:List Int)(tr pk:List V)(ou os:List Nat)(ts:List zF)(pks:List (Nat×Nat))(H':Hp)(n:Int):Prop where
 s:SameB b H H'
 bx:BoxAt H' b n
 nb:ls≠b/\lf≠b/\lp≠b/\lo≠b/\lq≠b
 nn:ls≠lf/\ls≠lp/\ls≠lo/\ls≠lq/\lf≠lp/\lf≠lo/\lf≠lq/\lp≠lo/\lp≠lq/\lo≠lq
 hN:H ls=none/\H lf=none/\H lp=none/\H lo=none
 hs:H' ls=some (.lst (st.map V.int))
 hf:H' lf=some (.lst tr)
 hp:H' lp=some (.lst pk)
 ho:H' lo=some (.lst (zn ou))
 hq:H' lq=some (.lst (zn os))
 rt:Reps K H' (ts.map qy) tr
 rk:Reps K H' (pks.map jK) pk
variable{H H' N:Hp}{b ls lf lp lo lq:Addr}{st:List Int}{tr pk:List V}{ou os:List Nat}{ts:List zF}{pks:List (Nat×Nat)}{n m:Int}
theorem PlS.draw(g:PlS K H b ls lf lp lo lq st tr pk ou os ts pks H' n)(S:SameB b H' N)(B:BoxAt N b m):PlS K H b ls lf lp lo lq st tr pk ou os ts pks N m:=by
 obtain⟨c,e,f,l,s⟩:=g.nb;have T:=uc g.bx S;exact⟨g.s.trans S,B,g.nb,g.nn,g.hN,S _ _ g.hs c,S _ _ g.hf e,S _ _ g.hp f,S _ _ g.ho l,S _ _ g.hq s,g.rt.keep T (jE ts),g.rk.keep T (qx pks)⟩
theorem PlS.same(g:PlS K H b ls lf lp lo lq st tr pk ou os ts pks H' n)(S:Same H' N):PlS K H b ls lf lp lo lq st tr pk ou os ts pks N n:=g.draw (uf S) (g.bx.same S)
theorem PlS.new{q:Addr}{o:HO}(g:PlS K H b ls lf lp lo lq st tr pk ou os ts pks H' n)(h:H' q=none):PlS K H b ls lf lp lo lq st tr pk ou os ts pks (upd H' q o) n:=g.same (zb h)
theorem PlS.mono(g:PlS K H b ls lf lp lo lq st tr pk ou os ts pks H' n)(h:n<=m):PlS K H b ls lf lp lo lq st tr pk ou os ts pks H' m:=⟨g.s,g.bx.mono h,g.nb,g.nn,g.hN,g.hs,g.hf,g.hp,g.ho,g.hq,g.rt,g.rk⟩
theorem PlS.putO{c:List Nat}(g:PlS K H b ls lf lp lo lq st tr pk ou os ts pks H' n):PlS K H b ls lf lp lo lq st tr pk c os ts pks (upd H' lo (.lst (zn c))) n:=by
 obtain⟨l,s,A,f,B⟩:=g.nb;obtain⟨a1,a2,a3,a4,a5,a6,a7,a8,a9,e⟩:=g.nn;have T:=ui (ys:=zn c) g.ho;exact⟨g.s.put g.hN.2.2.2,g.bx.other f,g.nb,g.nn,g.hN,by rw[zm a3];exact g.hs,by rw[zm a6];exact g.hf,by rw[zm a8];exact g.hp,zc,by rw[zm e.symm];exact g.hq,g.rt.keep T (jE ts),g.rk.keep T (qx pks)⟩
theorem PlS.putS{st':List Int}(g:PlS K H b ls lf lp lo lq st tr pk ou os ts pks H' n):PlS K H b ls lf lp lo lq st' tr pk ou os ts pks (upd H' ls (.lst (st'.map V.int))) n:=by
 obtain⟨e,f,l,s,A⟩:=g.nb;obtain⟨a1,a2,a3,a4,a5,a6,a7,a8,a9,c⟩:=g.nn;have T:=ui (ys:=st'.map V.int) g.hs;exact⟨g.s.put g.hN.1,g.bx.other e,g.nb,g.nn,g.hN,zc,by rw[zm a1.symm];exact g.hf,by rw[zm a2.symm];exact g.hp,by rw[zm a3.symm];exact g.ho,by rw[zm a4.symm];exact g.hq,g.rt.keep T (jE ts),g.rk.keep T (qx pks)⟩
theorem PlS.putF{v:V}{t:zF}(g:PlS K H b ls lf lp lo lq st tr pk ou os ts pks H' n)(e:Rep K H' (qy t) v):PlS K H b ls lf lp lo lq st (tr++[v]) pk ou os (ts++[t]) pks (upd H' lf (.lst (tr++[v]))) n:=by
 obtain⟨l,f,s,A,B⟩:=g.nb;obtain⟨a1,a2,a3,a4,a5,a6,a7,a8,a9,c⟩:=g.nn;have T:=ui (ys:=tr++[v]) g.hf;refine⟨g.s.put g.hN.2.1,g.bx.other f,g.nb,g.nn,g.hN,by rw[zm a1];exact g.hs,zc,by rw[zm a5.symm];exact g.hp,by rw[zm a6.symm];exact g.ho,by rw[zm a7.symm];exact g.hq,?_,g.rk.keep T (qx pks)⟩
 rw[zR];exact ud (e.keep T (yy t)) (g.rt.keep T (jE ts))
theorem PlS.putP{v:V}{p:Nat×Nat}(g:PlS K H b ls lf lp lo lq st tr pk ou os ts pks H' n)(e:Rep K H' (jK p) v):PlS K H b ls lf lp lo lq st tr (pk++[v]) ou os ts (pks++[p]) (upd H' lp (.lst (pk++[v]))) n:=by
 obtain⟨l,s,f,A,B⟩:=g.nb;obtain⟨a1,a2,a3,a4,a5,a6,a7,a8,a9,c⟩:=g.nn;have T:=ui (ys:=pk++[v]) g.hp;refine⟨g.s.put g.hN.2.2.1,g.bx.other f,g.nb,g.nn,g.hN,by rw[zm a2];exact g.hs,by rw[zm a5];exact g.hf,zc,by rw[zm a8.symm];exact g.ho,by rw[zm a9.symm];exact g.hq,g.rt.keep T (jE ts),?_⟩
 rw[zR];exact ud (e.keep T (by rfl)) (g.rk.keep T (qx pks))
theorem PlS.newP{q:Addr}(g:PlS K H b ls lf lp lo lq st tr pk ou os ts pks H' n)(h:H' q=none):PlS K H b ls lf q lo lq st tr [] ou os ts [] (upd H' q (.lst [])) n:=by
 obtain⟨l,s,D,A,B⟩:=g.nb;obtain⟨a1,a2,a3,a4,a5,a6,a7,a8,a9,e⟩:=g.nn;have c:=g.new (o:=.lst []) h;have f:=g.bx.nne h;exact⟨c.s,c.bx,⟨l,s,f,A,B⟩,⟨a1,zk g.hs h,a3,a4,zk g.hf h,a6,a7,(zk g.ho h).symm,(zk g.hq h).symm,e⟩,⟨g.hN.1,g.hN.2.1,g.s.none h f,g.hN.2.2.2⟩,c.hs,c.hf,zc,c.ho,c.hq,c.rt,rfl⟩
inductive zfX(t:TT)(σ:St)(H:Hp)(Q:Bool->Hp->Prop):Prop
 | mk (J:Bool->Hp->Prop) (_:t σ H J) (_:∀c H',J c H'->Q c H'):zfX t σ H Q
theorem Yp{X:Cx}{e:Expr}{t:TT}(h:PT X e t):PT X e (zfX t):=by
 intro f s σ H Q I A;obtain⟨J,B,D⟩:=A;exact thn (h f s σ H J I B) fun c s1 ⟨g,l,q⟩=>⟨g,l,D _ _ q⟩
theorem ww{H:Hp}{p:yZ}{x:V}(h:Rep K H (va p) x):∃a c,x=.ref a/\SqT K H a [.str p.k,.ref c,.int p.m]/\SqT K H c [.int p.x,.int p.y]:=by
 obtain⟨a,xs,rfl,q,L,U,f,A,y1,Y,g,B,O,J,l,D,s⟩:=h;subst f g l;cases(show J=[] from s)
 cases(show L=_ from A)
 cases(show O=_ from D)
 obtain⟨c,ys,rfl,I,Q,s0,e,E,T,s1,e1,G,e2⟩:=B;subst e e1;cases(show s1=[] from e2)
 cases(show Q=_ from E)
 cases(show T=_ from G)
 exact⟨a,c,rfl,q,I⟩
theorem yD{H:Hp}{p:Vx}{x:V}(h:Rep K H (xB p) x):∃a c,x=.ref a/\SqT K H a [.str p.k,.ref c]/\SqT K H c [.int p.x,.int p.y]:=by
 obtain⟨a,T,rfl,q,I,O,f,s,U,G,g,A,l⟩:=h;subst f g;cases(show G=[] from l)
 cases(show I=_ from s)
 obtain⟨c,Y,rfl,E,J,Q,e,B,L,s1,e1,D,e2⟩:=A;subst e e1;cases(show s1=[] from e2)
 cases(show J=_ from B)
 cases(show L=_ from D)
 exact⟨a,c,rfl,q,E⟩
theorem Z9{H:Hp}{α:Type}{f:α->Dat}{l:List α}{g:List V}(h:Reps K H (l.map f) g){i:Nat}{a:α}(s:l[i]? =some a):∃v,g[i]? =some v/\Rep K H (f a) v:=by
 have A:=h.len;rw[zp] at A;have c:i<g.length:=by have:=(zK.mp s).1;omega
 obtain⟨d,e,r⟩:=h.get (i:=i) (x:=g[i]) (by simp[c])
 rw[qv,s] at e;cases e;exact⟨g[i],by simp[c],r⟩
inductive XG(K:W.Frag)(g:List V)(H:Hp)(Q:VK):Prop
 | mk (b f:Addr) (J:Job) (e:List Nat) (c n:Int) (_:g=[.ref b,.ref f,.int c]) (_:BoxAt H b n) (_:n<500000) (_:Rep K H (xu J) (.ref f)) (_:JobOk J e) (_:0<=c) (_:c<=100) (_:∀(l:Addr) (os:List Nat) (ts:List zF) (tr:List V) H',SameB b H H'->BoxAt H' b (n+1000)->l≠b->H l=none->H' l=some (.lst tr)->Reps K H' (ts.map qy) tr->os.Perm (List.range J.ps.length)->ByOrd os J.as->PlanOk J os ts->Q (.ref l) H'):XG K g H Q
def zbi(K:W.Frag):Sp:=fun c H Q _=>XG K c H Q
theorem zbF:zB ["_law_box_here","_law_job_here","_law_most","_law_stock","_law_found","_law_picks_here","_law_out","_law_part","_law_some","_law_lost","_law_at"] ["_law_box_here","_law_job_here","_law_most"] (zq (topL 45)):=u0
def Y2(b:_)(f:_)(c:_)(ls:_)(lf:_)(lo:_)(K:_)(H:_)(lq:_)(os:List Nat)(n:_)(J:Job):=fun(i:Nat) (σ:St) (H':Hp)=>(zhp fun(lp:Addr) (g l s e:Option V) (st:List Int) (tr pk:List V) (ou:List Nat) (ts:List zF) (pks:List (Nat×Nat))=>zhr (σ=[some (.ref b),some (.ref f),some (.int c),some (.ref ls),some (.ref lf),some (.ref lp),some (.ref lo),g,l,s,e]) (PlS K H b ls lf lp lo lq st tr pk ou os ts pks H' (n+60+10*i)) (StL J st (zI ts++pks)) ((∀t∈ts,TripOk J t)) ((∀p∈pks,WF J p)) ((pks.length:Int)<J.hd) ((zo ts++pks.map (·.1)).Sublist (os.take i)) (ts.length+pks.length<=i) (ou.length<=i) (PlC J ou (zo ts++pks.map (·.1)) (os.take i)):Prop)
def Y1(J:Job)(A:Vx)(st:List Int)(g:_):=fun(s:Nat) (B:List V) (l:Hp)=>(Ex1 fun(c:List Nat)=>An4 (B=zn c) (c.length<=s) ((∀f∈c,∃e,J.fs[f]? =some e/\e.k=A.k/\∃z,st[f]? =some z/\0<z)) (Same g l):Prop)
theorem zdD{f:Addr}{fd:FuncData}(F:Fun K "_law_plan" "_law_plan" (topL 45) f fd)(B:Blt M)(a0:Dfn P w K M C "_law_take" 1 ["_law_box_here","_law_size"] xL)(ar:Dfn P w K M C "_law_order" 2 ["_law_box_here","_law_job_here"] (WY K))(aj:Dfn P w K M C "_law_trip" 3 ["_law_box_here","_law_picks_here"] (zbg K)):FnOk P w K M C CX0 4 f fd ["_law_box_here","_law_job_here","_law_most"] (zbi K):=by
 have nd:=zbF.nd;refine F.ok zbF (fun vs H Q E h=>?_) (fun ea A dn s H vs Q E hr h=>?_)
 ·obtain⟨b,jp,J,cu,ae,n,rfl,_⟩:=h
  rfl
 ·obtain⟨b,jp,J,cu,ae,n,rfl,B0,hn,rj,jo,ef,eg,k⟩:=h
  have hu:=hr.units0;have e6:=bG100000;have pl:=jo.pl;have al:=jo.al;have fl:=jo.fl;have eb:=jo.hd0;have ed:=jo.hd1;obtain⟨g,fs,ps,as,qj,_,rf,rp,ra⟩:=ZW rj;obtain⟨fv,qf,ce⟩:=vk rf;obtain⟨ej,qp,d4⟩:=vk rp;obtain⟨av,qa,d2⟩:=vk ra;have cp:=ce.len;rw[zp] at cp;have lp:=d4.len;rw[zp] at lp;have la:=d2.len;rw[zp] at la;refine⟨_,(ze (zG (i:=3) nd rfl (Or.inr rfl) (jS [] [] rfl rfl (by kernel_rfl) (jt (zx zN (pv 1) zf (fun _ _=>rfl))) (fun _ _ _ _=>qG) (fun _ _ _ _=>(zx (ji (K:=K) rfl) (pv 0) zf (fun _ _=>rfl)))))
   (ze (j6 (qS (za (zV zd) (za (zV zd) (za (zV zd) zd)))) (qF rfl (zr (zy (i:=4) nd rfl (Or.inl rfl)) (zr (zy (i:=5) nd rfl (Or.inl rfl)) (zr (zy (i:=6) nd rfl (Or.inr rfl)) qe)))))
   (ze (qR jy rfl (qW (zg ar hr.m rfl (za (pv 0) (za (pv 1) zd)))) (zy (i:=7) nd rfl (Or.inr rfl))
   (ze (VM ["_law_stock","_law_part","_law_job_here"] [3,7,1] rfl rfl (by kernel_rfl) (wZ rfl B.enumerate (za (zx zN (pv 1) zf (fun _ _=>rfl)) zd)) (fun _ _ _ _=>(vn (PW.pt (JI (zJ xN (zx (ji (K:=K) rfl) (pv 1) zf (fun _ _=>rfl)) (zx (ji (K:=K) rfl) (zx (ji (K:=K) rfl) (zx (ji (K:=K) rfl) (pv 4) zf (fun _ _=>rfl)) (pv 3) (fun _ _=>rfl)) zf (fun _ _=>rfl)) (zO _)) (Zt (zJ Yu (zx (ZY (K:=K) rfl) (pv 2) (pv 0) (fun _ _=>rfl)) zf (zO _))))))) (fun _ _ _ _=>(pv 0)) (zy (i:=8) nd rfl (Or.inl rfl)))
    (ze (wY (zG (i:=9) nd rfl (Or.inl rfl) (zgD (qX (ZR hu) (pv 8) (zV zd) (zO _)) (vo (zt (zaS rfl) rfl B.any zcT (za (vM ["_law_part","_law_out"] [7,6] rfl rfl (by kernel_rfl) (jt (zx zN (pv 1) zf (fun _ _=>rfl))) (fun _ _ _ _=>qG) (fun _ _ _ _=>(vO (qX xN (pv 1) (pv 2) (zO _)) (vo (qX (vp (K:=K) rfl) (pv 0) (pv 3) (by with_unfolding_all rfl)))))) zd))))))
    (ze (wY (qI (Yp (PW.pt (ZL (j5 (pv 9)) (wK (PW.pt (JI (zJ Yu (pv 2) zf (zO _)) (Zt (zJ xN (zg a0 hr.m rfl (za (pv 0) (za (pv 2) zd))) zf (zO _)))))))))
    (zj (jb (xc xj we wc jd (pv 6) (za (pv 7) zd))))
    (ze (zG (i:=10) nd rfl (Or.inl rfl) (zx zT (pv 8) (zg a0 hr.m rfl (za (pv 0) (za (zt zD rfl B.len boot_len (za (pv 8) zd)) zd))) (fun _ _=>rfl)))
     (ze (j6 (zA jI (zx zT (pv 3) (pv 10) (fun _ _=>rfl)) zf) (JK (pv 3) (pv 10) wX))
     (zj (jb (xc xj we wc jd (pv 5) (za (qS (za (pv 7) (za (pv 10) zd))) zd))))))))
    (zj (qI (Yp (PW.pt (JI (zJ (ZQ hu) (pv 5) (zV zd) (zO _)) (Zt (PW.pt (ZL (zJ xN (zt zD rfl B.len boot_len (za (pv 5) zd)) (zx zN (pv 1) zf (fun _ _=>rfl)) (zO _)) (wK (zJ xN (zg a0 hr.m rfl (za (pv 0) (za zf zd))) zf (zO _)))))))))
    (ze (jb (xc xj we wc jd (pv 4) (za (zg aj hr.m rfl (za (pv 0) (za (pv 5) zd))) zd)))
     (zj (zG (i:=5) nd rfl (Or.inl rfl) (zV zd))))
    zU))))))
   (zj (zw (zA xA (pv 4) (zA zfl (zV (za (zg aj hr.m rfl (za (pv 0) (za (pv 5) zd))) zd)) (qL yL rfl B.int yj (za (qX (ZQ hu) (pv 5) (zV zd) (zO _)) zd))))))))),?_⟩
  refine⟨_,rfl,jp,_,_,_,rfl,rfl,qj,rfl,fs,rfl,⟨_,qf⟩,jJ (K:=K) (a:=fs) (xs:=fv) (fun i U H1=>U=((J.fs.take i).map (·.m)).map V.int/\Same H H1) ⟨rfl,ub _⟩ (fun i U H1 ⟨_,L⟩=>L.sqT qf) ?_ ?_⟩
  ·rintro i x U H1 hx ⟨rfl,L⟩
   obtain⟨d,e1,r1⟩:=(ce.same L).get hx;rw[qv] at e1;obtain⟨p,ep,rfl⟩:=qJ.mp e1;obtain⟨a,c,rfl,q,q'⟩:=ww r1;have hi:i<J.fs.length:=(zK.mp ep).1;refine⟨rfl,⟨_,rfl,a,_,_,_,rfl,rfl,q,rfl,?_,?_,L⟩⟩
   ·rw[zp,zp,qi];omega
   ·rw[zL ep,zR,zR];rfl
  rintro U H1 ⟨rfl,L⟩;have dc:J.fs.take fv.length=J.fs:=by rw[cp,qA]
  rw[dc];refine⟨by rw[zp,zp];omega,fun ls ao=>?_⟩
  have bt:StL J (J.fs.map (·.m)) []:=.nil fun f hf=>(jo.fa f hf).2.2.1
  generalize J.fs.map (·.m)=ai at bt
  have S1:=(uf (b:=b) L).new (o:=.lst (ai.map V.int)) ao;have B1:=(B0.same L).new (o:=.lst (ai.map V.int)) ao;have LS:upd H1 ls (.lst (ai.map V.int)) ls=some (.lst (ai.map V.int)):=zc;have NS:H ls=none:=(uf (b:=b) L).none ao ((B0.same L).nne ao);have cr:=(B0.same L).nne ao;generalize upd H1 ls (.lst (ai.map V.int))=H2 at S1 B1 LS;refine⟨le0,fun lf af=>⟨le0,fun I Y=>⟨le0,fun lo O=>⟨le3,fun t ht=>?_⟩⟩⟩⟩
  have c9:=B1.nne af;have NF:=S1.none af c9;have S2:=S1.new (o:=.lst []) af;have B2:=B1.new (o:=.lst []) af;have be:=(zb (o:=.lst []) af) _ _ LS;have az:upd H2 lf (.lst []) lf=some (.lst []):=zc;generalize upd H2 lf (.lst [])=H3 at S2 B2 be az Y O ht;have cb:=B2.nne Y;have NP:=S2.none Y cb;have S3:=S2.new (o:=.lst []) Y;have B3:=B2.new (o:=.lst []) Y;have bf:=(zb (o:=.lst []) Y) _ _ be;have b0:=(zb (o:=.lst []) Y) _ _ az;have bc:upd H3 I (.lst []) I=some (.lst []):=zc;generalize upd H3 I (.lst [])=H4 at S3 B3 bf b0 bc O ht;have ca:=B3.nne O;have NO:=S3.none O ca;have S4:=S3.new (o:=.lst []) O;have B4:=B3.new (o:=.lst []) O;have c3:=(zb (o:=.lst []) O) _ _ bf;have bw:=(zb (o:=.lst []) O) _ _ b0;have c0:=(zb (o:=.lst []) O) _ _ bc;have bz:upd H4 lo (.lst []) lo=some (.lst []):=zc;have a1:ls≠lf:=zk LS af;have a2:ls≠I:=zk be Y;have a3:ls≠lo:=zk bf O;have a5:lf≠I:=zk az Y;have a6:lf≠lo:=zk b0 O;have a8:I≠lo:=zk bc O;generalize upd H4 lo (.lst [])=H5 at S4 B4 c3 bw c0 bz ht;have s5:=zb (o:=.tup [.ref lf,.ref I,.ref lo]) ht;have T5:upd H5 t (.tup [.ref lf,.ref I,.ref lo]) t=some (.tup [.ref lf,.ref I,.ref lo]):=zc;have S5:=S4.new (o:=.tup [.ref lf,.ref I,.ref lo]) ht;have B5:=B4.new (o:=.tup [.ref lf,.ref I,.ref lo]) ht;have bg:=s5 _ _ c3;have ba:=s5 _ _ bw;have bd:=s5 _ _ c0;have bb:=s5 _ _ bz;generalize upd H5 t (.tup [.ref lf,.ref I,.ref lo])=H6 at s5 T5 S5 B5 bg ba bd bb;refine⟨t,_,rfl,ua T5,rfl,_,_,rfl,_,_,rfl,_,_,rfl,rfl,?_⟩
  clear S1 S2 S3 S4 B1 B2 B3 B4 LS be bf c3 az b0 bw bc c0 bz ao af Y O ht s5 T5;have d3:=rj.keep (uc B0 S5) (vT J);refine⟨_,rfl,_,rfl,b,jp,J,cu,n,rfl,B5.mono (by omega),by omega,d3,jo,fun lq os H7 S7 B7 dm aw cg pm ob=>?_⟩
  have eh:os.length=J.ps.length:=by have:=pm.length_eq;rwa[vh] at this
  have a4:ls≠lq:=zk bg aw;have a7:lf≠lq:=zk ba aw;have a9:I≠lq:=zk bd aw;have d9:lo≠lq:=zk bb aw;have g0:PlS K H b ls lf I lo lq ai [] [] [] os [] [] H7 (n+60):=⟨S5.trans S7,B7,⟨cr,c9,cb,ca,dm⟩,⟨a1,a2,a3,a4,a5,a6,a7,a8,a9,d9⟩,⟨NS,NF,NP,NO⟩,S7 _ _ bg cr,S7 _ _ ba c9,S7 _ _ bd cb,S7 _ _ bb ca,cg,rfl,rfl⟩;clear S5 S7 B5 B7 bg ba bd bb cg aw d3 L;refine⟨lq,rfl,⟨_,u6 g0.hq⟩,jL (K:=K) (a:=lq) (xs:=zn os) (Y2 b jp ae ls lf lo K H lq os n J)
   ⟨I,none,none,none,none,ai,[],[],[],[],[],rfl,g0.mono (by omega),bt,(fun _ h=>nomatch h),(fun _ h=>nomatch h),(by show((0:Nat):Int)<_;omega),List.Sublist.refl _,zM _,zM _,⟨(fun x hx=>by rw[V5] at hx;cases hx),(fun p _ h=>by cases(show p.2∈([]:List Nat) from h))⟩⟩
   (fun i σ H' _ ⟨_,_,_,_,_,_,_,_,_,_,_,_,g,_,_,_,_,_,_,_,_⟩=>u6 g.hq) ?_ ?_⟩
  ·rintro i x σ H8 hx ⟨lp,v7,v8,v9,bo,st,tr,pk,ou,ts,pks,rfl,g,ay,bm,bi,dq,sub,cnt,cv,pc⟩
   have dk:os.Nodup:=pm.nodup_iff.mpr Zg;obtain⟨c,ec,rfl⟩:=j7 hx;have en:=ay.len;have hi:i<os.length:=(zK.mp ec).1;have hc:c<J.ps.length:=xD.mp (pm.mem_iff.mp (qq ec));obtain⟨pa,ci⟩:∃pa,J.ps[c]? =some pa:=⟨J.ps[c],by simp[hc]⟩
   have T8:=uc B0 g.s;have cd:=qj.keep T8;have d0:=qf.keep T8;have ds:=qp.keep T8;have cz:=qa.keep T8;have dx:=ce.keep T8 (xK J.fs);have dy:=d4.keep T8 (jT J.ps);have dw:=d2.keep T8 (qx J.as);obtain⟨el,db,dz⟩:=Z9 dy ci;obtain⟨dp,ei,rfl,dt,_⟩:=yD dz;refine⟨_,rfl,jp,_,_,_,rfl,rfl,cd,rfl,fs,rfl,⟨_,d0⟩,Vc (K:=K) (a:=fs) (xs:=fv) (Y1 J pa st H8) ⟨[],rfl,zM _,(fun _ h=>nomatch h),ub _⟩ (fun i' U H9 ⟨_,_,_,_,L⟩=>L.sqT d0) ?_ ?_⟩
   ·rintro i' x U H9 T c7 ⟨ks,rfl,kl,kk,L⟩ hT
    obtain⟨d,e1,r1⟩:=(dx.same L).get c7;rw[qv] at e1;obtain⟨fe,an,rfl⟩:=qJ.mp e1;have de:i'<J.fs.length:=(zK.mp an).1;have sT:=L.trans (zb (o:=.tup [.int (i':Int),x]) hT);obtain⟨fa,fc,rfl,dr,_⟩:=ww (r1.same (zb (o:=.tup [.int (i':Int),x]) hT));refine⟨T,_,rfl,ua zc,rfl,_,_,rfl,_,_,rfl,rfl,rfl,?_⟩
    refine⟨_,rfl,fa,_,_,_,rfl,rfl,dr,rfl,_,rfl,jp,_,_,_,rfl,rfl,sT.sqT cd,rfl,_,rfl,ps,_,_,_,rfl,rfl,sT.sqT ds,zQ db,dp,_,_,_,rfl,rfl,sT.sqT dt,rfl,rfl,_,rfl,jC (fun c1=>?_) (fun c1=>?_)⟩
    ·have ek:fe.k=pa.k:=by have:=xF c1;exact V.str.inj this
     have ap:i'<st.length:=by omega
     refine⟨_,rfl,_,rfl,ls,_,_,.int st[i'],rfl,rfl,u6 (sT _ _ g.hs),zQ (by rw[qv,qP ap];rfl),_,_,rfl,rfl,_,rfl,jC (fun c2=>?_) (fun c2=>?_)⟩
     ·refine⟨_,rfl,by rw[zu];omega,ks++[i'],?_,by rw[zZ];show _+1<=_;omega,fun k' df=>?_,sT⟩
      ·unfold zn
       rw[zR];rfl
      ·rcases qo.mp df with z | z
       ·exact kk k' z
       ·rw[zY.mp z]
        exact⟨fe,an,ek,_,qP ap,xF c2⟩
     ·exact⟨ks,rfl,by omega,kk,sT⟩
    ·exact ifF rfl ⟨ks,rfl,by omega,kk,sT⟩
   rintro U H9 ⟨ks,rfl,kl,kk,L⟩;refine⟨by rw[zu];omega,fun lm c6=>?_⟩
   have bj:=L.trans (zb (o:=.lst (zn ks)) c6);have LM:upd H9 lm (.lst (zn ks)) lm=some (.lst (zn ks)):=zc;have cq:lm≠b:=(g.same L).bx.nne c6;generalize upd H9 lm (.lst (zn ks))=Ha at bj LM;clear L c6;refine⟨fun σ' H'=>Ex1 fun(ak:Bool)=>An4 (σ'=[some (.ref b),some (.ref jp),some (.int ae),some (.ref ls),some (.ref lf),some (.ref lp),some (.ref lo),some (.int (c:Int)),some (.ref lm),some (.bl ak),bo]) (Same H8 H') (H' lm=some (.lst (zn ks))) ((ak=false->ks≠[]/\∀p∈J.as,p.2=c->p.1∉ou)),?_,?_⟩
   ·refine⟨_,rfl,le0,fun q hq=>⟨lm,q,zn ks,rfl,rfl,u6 ((zb hq) _ _ LM),u6 zc,_,rfl,jC (fun c1=>?_) (fun c1=>?_)⟩⟩
    ·exact⟨true,rfl,bj.trans (zb hq),(zb hq) _ _ LM,fun z=>nomatch z⟩
    ·have c8:ks≠[]:=fun z=>c1 (by rw[z];rfl)
     have ac:=bj.trans (zb (o:=.lst []) hq);have am:=(zb (o:=.lst []) hq) _ _ LM;generalize upd Ha q (.lst [])=Hb at ac am;refine⟨_,rfl,jp,_,_,_,rfl,rfl,ac.sqT cd,rfl,as,rfl,⟨_,ac.sqT cz⟩,jJ (K:=K) (a:=as) (xs:=av) (fun i' U H9=>Ex1 fun(bs:List Bool)=>An4 (U=bs.map V.bl) (bs.length<=i') ((bs.any id=false->∀p∈J.as.take i',p.2=c->p.1∉ou)) (Same Hb H9)) ⟨[],rfl,zM _,(fun _ p hp=>by rw[V5] at hp;cases hp),ub _⟩ (fun i' U H9 ⟨_,_,_,_,L⟩=>(ac.trans L).sqT cz) ?_ ?_⟩
     ·rintro i' x U H9 c7 ⟨bs,rfl,bl,bn,L⟩
      obtain⟨d,e1,r1⟩:=(dw.same (ac.trans L)).get c7;rw[qv] at e1;obtain⟨p,ep,rfl⟩:=qJ.mp e1;obtain⟨pp,rfl,du⟩:=qM r1;have de:i'<J.as.length:=(zK.mp ep).1;refine⟨pp,_,rfl,du,rfl,_,_,rfl,_,_,rfl,rfl,rfl,?_⟩
      have cs:∀v:Bool,(v=false->p.2=c->p.1∉ou)->((bs++[v]).any id=false->∀p∈J.as.take (i'+1),p.2=c->p.1∉ou):=fun v hv ha u hu=>by
       rw[List.any_append,Bool.or_eq_false_iff] at ha;rw[zL ep] at hu;rcases qo.mp hu with z | z
       ·exact bn ha.1 u z
       ·rw[zY.mp z]
        exact hv (by simpa using ha.2)
      refine⟨_,rfl,_,rfl,rfl,_,rfl,jC (fun c2=>?_) (fun c2=>?_)⟩
      ·refine⟨_,rfl,_,rfl,lo,zn ou,rfl,.inl (u6 ((ac.trans L) _ _ g.ho)),rfl,jr _,by rw[zp];omega,bs++[inV (.int (p.1:Int)) (zn ou)],?_,by rw[zZ];show _+1<=_;omega,cs _ (fun z _ hm=>by rw[wu] at z;exact absurd hm (of_decide_eq_false z)),L⟩
       rw[zR];rfl
      ·refine⟨by rw[zp];omega,bs++[false],?_,by rw[zZ];show _+1<=_;omega,cs _ (fun _ z=>absurd (show decide (V.int (p.2:Int)=V.int (c:Int))=true by rw[z];exact je rfl) c2),L⟩
       rw[zR];rfl
     ·rintro U H9 ⟨bs,rfl,bl,bn,L⟩
      rw[la,qA] at bn;refine⟨by rw[zp];omega,fun D hD=>⟨D,bs,rfl,u6 zc,?_⟩⟩
      have e3:=(ac.trans L).trans (zb (o:=.lst (bs.map V.bl)) hD);exact⟨bs.any id,rfl,e3,(zb (o:=.lst (bs.map V.bl)) hD) _ _ (L _ _ am),fun z=>⟨c8,bn z⟩⟩
   rintro σ' Hb ⟨ak,rfl,ac,am,c8⟩;have g2:=g.same ac;clear bj LM;have d8:(zo ts++pks.map (·.1)).Sublist (os.take (i+1)):=sub.trans (by rw[zL ec];exact List.sublist_append_left _ _)
   have eO:zn ou++[V.int (c:Int)]=zn (ou++[c]):=by unfold zn;rw[zR];rfl
   refine⟨fun σ' H'=>Ex5 fun(bo:Option V) (ah:List Int) (aa:List V) (ag:List Nat) (l:List (Nat×Nat))=>An9 (σ'=[some (.ref b),some (.ref jp),some (.int ae),some (.ref ls),some (.ref lf),some (.ref lp),some (.ref lo),some (.int (c:Int)),some (.ref lm),some (.bl ak),bo]) (PlS K H b ls lf lp lo lq ah tr aa ag os ts l H' (n+60+10*i+3)) (StL J ah (zI ts++l)) ((∀p∈l,WF J p)) ((l.length:Int)<=J.hd) ((zo ts++l.map (·.1)).Sublist (os.take (i+1))) (ts.length+l.length<=i+1) (ag.length<=i+1) (PlC J ag (zo ts++l.map (·.1)) (os.take (i+1))),?_,?_⟩
   ·have cx:∀(H':Hp) (m:Int),PlS K H b ls lf lp lo lq st tr pk ou os ts pks H' m->m<=n+60+10*i+3->PlS K H b ls lf lp lo lq st tr pk (ou++[c]) os ts pks (upd H' lo (.lst (zn ou++[V.int (c:Int)]))) (n+60+10*i+3):=fun H' m g' hm=>by
     rw[eO];exact(g'.mono hm).putO
    have cw:(ou++[c]).length<=i+1:=by rw[zZ];show _+1<=_;omega
    refine⟨fun(d:Bool) (H':Hp)=>PlS K H b ls lf lp lo lq st tr pk ou os ts pks H' (n+60+10*i+1)/\H' lm=some (.lst (zn ks))/\(d=false->ks≠[]/\∀p∈J.as,p.2=c->p.1∉ou),?_,?_⟩
    ·refine⟨_,rfl,_,rfl,jC (fun c1=>⟨g2.mono (by omega),am,(fun z=>nomatch z)⟩) (fun c1=>?_)⟩
     have bp:=c8 (by simpa using c1)
     exact⟨_,rfl,_,_,rfl,rfl,_,rfl,jC (fun c2=>⟨_,rfl,_,rfl,b,ae,_,rfl,g2.bx,by omega,xF c2,by omega,fun r Hc r0 r1 Bc Sc=>⟨rfl,_,rfl,(g2.draw Sc Bc).mono (by omega),Sc _ _ am cq,fun _=>bp⟩⟩) (fun c2=>⟨g2.mono (by omega),am,fun _=>bp⟩)⟩
    rintro d Hc ⟨g3,cf,kn⟩;refine jC (fun c1=>?_) (fun c1=>?_)
    ·exact⟨_,rfl,.inl ⟨rfl,_,u6 g3.ho⟩,_,rfl,lo,_,_,rfl,rfl,g3.ho,by rw[zu];omega,_,st,pk,ou++[c],pks,rfl,cx _ _ g3 (by omega),ay,bi,by omega,d8,by omega,cw,by rw[zL ec];exact pc.out⟩
    ·have e7:0<ks.length:=Xi.mpr (kn (by simpa using c1)).1
     have kc:=(kn (by simpa using c1)).2
     refine⟨_,rfl,_,rfl,_,rfl,lm,_,rfl,.inl (u6 cf),b,_,_,rfl,g3.bx,by omega,by rw[zu];omega,by rw[zu];omega,fun r' Hd em dv Bd Sd=>?_⟩
     rw[zu] at dv;have co:r'.toNat<ks.length:=by omega
     have cj:atI (zn ks) r'=some (.int ((ks[r'.toNat]:Nat):Int)):=by
      have er:(zn ks)[r'.toNat]? =some (.int ((ks[r'.toNat]:Nat):Int)):=by
       unfold zn;rw[qv,qP co];rfl
      have:=zQ er;rwa[show((r'.toNat:Nat):Int)=r' by omega] at this
     obtain⟨fe,an,da,z0,c4,di⟩:=kk _ (vZ co);generalize ks[r'.toNat]=kf at cj an c4;have ee:kf<J.fs.length:=(zK.mp an).1;have ap:kf<st.length:=by omega
     have g5:=g3.draw Sd Bd;refine⟨lm,_,_,_,rfl,rfl,u6 (Sd _ _ cf cq),cj,?_⟩
     refine⟨_,rfl,_,rfl,ls,_,_,.int st[kf],rfl,rfl,u6 g5.hs,zQ (by rw[qv,qP ap];rfl),_,_,rfl,rfl,_,rfl,_,rfl,ls,_,_,kf,rfl,rfl,g5.hs,YE (by rw[zp];omega),?_⟩
     have eS:(st.map V.int).set kf (V.int (st[kf]-1))=(st.set kf (st[kf]-1)).map V.int:=by rw[List.map_set]
     rw[eS];have g6:=g5.putS (st':=st.set kf (st[kf]-1));generalize upd Hd ls (.lst ((st.set kf (st[kf]-1)).map V.int))=He at g6;refine⟨_,rfl,.inl ⟨rfl,_,u6 g6.hp⟩,_,rfl,_,rfl,le2,fun q hq=>?_⟩
     have g7:=g6.new (o:=.tup [.int (c:Int),.int (kf:Int)]) hq;have rq:Rep K (upd He q (.tup [.int (c:Int),.int (kf:Int)])) (jK (c,kf)) (.ref q):=⟨q,_,rfl,ua zc,_,_,rfl,rfl,_,_,rfl,rfl,rfl⟩;have aq:pk.length=pks.length:=by have:=g.rk.len;rwa[zp] at this
     refine⟨lp,_,_,rfl,rfl,g7.hp,by omega,_,st.set kf (st[kf]-1),pk++[.ref q],ou,pks++[(c,kf)],rfl,(g7.putP rq).mono (by omega),by rw[<- xG];exact ay.take (qP ap) (by rw[qP ap] at c4;rw[jm c4];exact di),fun p' au=>?_,by rw[zZ];show((_+1:Nat):Int)<=_;omega,?_,by rw[zZ];show _+(_+1)<=_;omega,by omega,by rw[zR,<- xG,zL ec];exact pc.lay ec dk ob kc⟩
     ·rcases qo.mp au with z | z
      ·exact bi p' z
      ·rw[zY.mp z]
       exact⟨pa,fe,ci,an,da⟩
     ·rw[zR,<- xG,zL ec]
      exact sub.append (List.Sublist.refl _)
   rintro σ' Hc ⟨e9,ah,aa,ag,l,rfl,g4,bu,br,e8,bv,ch,bq,cy⟩;have aq:aa.length=l.length:=by have:=g4.rk.len;rwa[zp] at this
   have e4:tr.length=ts.length:=by have:=g4.rt.len;rwa[zp] at this
   have T9:=uc B0 g4.s;refine⟨fun(d:Bool) (H':Hp)=>PlS K H b ls lf lp lo lq ah tr aa ag os ts l H' (n+60+10*i+4)/\(d=true->1<=l.length)/\(d=false->(l.length:Int)<J.hd),?_,?_⟩
   ·refine⟨_,rfl,le0,fun q hq=>⟨lp,q,_,rfl,rfl,u6 (g4.new (o:=.lst []) hq).hp,u6 zc,_,rfl,jC (fun c1=>?_) (fun c1=>?_)⟩⟩
    ·have g5:=g4.new (o:=.lst []) hq
     have d1:=(qj.keep T9).keep (SameT.of (zb (o:=.lst []) hq));generalize upd Hc q (.lst [])=Hd at g5 d1;have ax:1<=l.length:=by
      cases aa with
      | nil=>cases c1
      | cons x r=>simp at aq;omega
     refine⟨_,rfl,lp,_,rfl,.inl (u6 g5.hp),_,rfl,jp,_,_,_,rfl,rfl,d1,rfl,rfl,_,rfl,jC (fun c2=>⟨g5.mono (by omega),fun _=>ax,fun z=>nomatch z⟩) (fun c2=>⟨_,rfl,b,3,_,rfl,g5.bx,by omega,by decide,by decide,fun r He r0 r1 Be Se=>⟨rfl,_,rfl,(g5.draw Se Be).mono (by omega),fun _=>ax,fun _=>?_⟩⟩)⟩
     have cn:¬(aa.length:Int)=J.hd:=fun z=>c2 (by rw[z];simp)
     omega
    ·have pe:l=[]:=by
      cases l with
      | nil=>rfl
      | cons x r=>
       cases aa with
       | nil=>simp at aq
       | cons y r'=>exact absurd rfl c1
     exact⟨(g4.new (o:=.lst []) hq).mono (by omega),(fun z=>nomatch z),fun _=>by rw[pe];show((0:Nat):Int)<_;omega⟩
   rintro d Hd ⟨G,ax,dg⟩;refine jC (fun c1=>?_) (fun c1=>?_)
   ·have ax:=ax c1
    refine⟨_,rfl,.inl ⟨rfl,_,u6 G.hf⟩,_,rfl,_,rfl,b,lp,_,aa,l,rfl,G.bx,by omega,G.nb.2.2.1,G.hp,G.rk,by omega,fun p sh Hg Sg Bg ab rt=>?_⟩
    have G2:=G.draw Sg Bg;have d7:sh.length=l.length:=ab.length_eq;refine⟨lf,_,_,rfl,rfl,G2.hf,by omega,?_⟩
    have G3:=G2.putF rt;generalize upd Hg lf (.lst (tr++[.ref p]))=Hh at G3;refine⟨le0,fun dj cm=>⟨dj,_,_,_,_,ah,tr++[.ref p],[],ag,ts++[⟨sh,l.map (·.1)⟩],[],rfl,(G3.newP cm).mono (by omega),by rw[vm,jH];exact bu.perm (ab.symm.append_left _),?_,(fun _ h=>nomatch h),(by show((0:Nat):Int)<_;omega),?_,?_,bq,by rw[jB,Qf,jH];exact cy⟩⟩
    ·intro t' dh
     rcases qo.mp dh with z | z
     ·exact bm t' z
     ·rw[zY.mp z]
      exact⟨by show 1<=sh.length;omega,by show(sh.length:Int)<=_;omega,fun p' au=>br p' (ab.mem_iff.mp au),(ab.map (·.1)).symm⟩
    ·rw[jB]
     simpa using bv
    ·rw[zZ]
     show _+1+0<=_;omega
   ·exact⟨lp,_,_,_,_,ah,tr,aa,ag,ts,l,rfl,G.mono (by omega),bu,bm,br,dg (by simpa using c1),bv,ch,bq,cy⟩
  ·rintro σ H8 ⟨lp,v7,v8,v9,bo,st,tr,pk,ou,ts,pks,rfl,g,ay,bm,bi,dq,sub,cnt,cv,pc⟩
   rw[zu] at sub cnt cv;rw[zu] at g;rw[qA] at sub;have aq:pk.length=pks.length:=by have:=g.rk.len;rwa[zp] at this
   have e4:tr.length=ts.length:=by have:=g.rt.len;rwa[zp] at this
   refine⟨_,rfl,_,rfl,_,rfl,b,lp,_,pk,pks,rfl,g.bx,by omega,g.nb.2.2.1,g.hp,g.rk,by omega,fun p sh Hg Sg Bg ab rt=>?_⟩
   have g2:=g.draw Sg Bg;have d7:sh.length=pks.length:=ab.length_eq;refine⟨le1,fun l1 cl=>?_⟩
   have g3:=g2.new (o:=.lst [.ref p]) cl;have d5:=rt.same (zb (o:=.lst [.ref p]) cl);have L1:upd Hg l1 (.lst [.ref p]) l1=some (.lst [.ref p]):=zc;generalize upd Hg l1 (.lst [.ref p])=Hh at g3 d5 L1;refine⟨_,rfl,le0,fun q hq=>⟨lp,q,_,rfl,rfl,u6 (g3.new (o:=.lst []) hq).hp,u6 zc,.inr ⟨_,rfl,l1,_,_,rfl,rfl,(zb hq) _ _ L1,?_,?_,?_,fun l2 c5=>?_⟩⟩⟩
   ·split<;>decide
   ·split<;>decide
   ·show 1*_<=sizeLine
    split<;>(first| (show 1*1<=_;omega) | (show 1*0<=_;omega))
   have g4:=g3.new (o:=.lst []) hq;have d6:=d5.same (zb (o:=.lst []) hq);generalize upd Hh q (.lst [])=Hi at g4 d6 c5;have ck:∀(U:List V) (us:List zF),Reps K Hi (us.map qy) U->U.length<=1->us.length+ts.length<=60->(∀t∈us,TripOk J t)->(zo (ts++us)).Sublist os->zo (ts++us)=zo ts++pks.map (·.1)->(zI ts++pks).Perm (zI (ts++us))->ze9 (V.ref lf) (V.ref l2) (upd Hi l2 (.lst U)) Q:=by
    intro U us rz zl ul uo e5 dd up;have g5:=g4.new (o:=.lst U) c5;have e0:=rz.same (zb (o:=.lst U) c5);refine⟨lf,l2,tr,U,rfl,rfl,g5.hf,zc,by omega,fun l3 bh=>?_⟩
    have n3:=g5.bx.nne bh;have g6:=g5.new (o:=.lst (tr++U)) bh;refine k l3 os (ts++us) (tr++U) _ g6.s (g6.bx.mono (by omega)) n3 (g5.s.none bh n3) zc ?_ pm ob ⟨fun t ht=>?_,e5,by rw[zZ];omega,by rw[dd];exact pc.a2,st,ay.perm up⟩
    ·rw[zR]
     exact ug g6.rt (e0.same (zb bh))
    ·rcases qo.mp ht with z | z
     ·exact bm t z
     ·exact uo t z
   cases pks with
   | nil=>
    have e:pk=[]:=Wu.mp (by rw[aq];rfl)
    subst e;exact ck [] [] rfl (qQ _) (by show 0+_<=_;omega) (fun _ h=>nomatch h) (by rw[jH];simpa using sub) (by simp) (by rw[jH,jH])
   | cons x r=>
    have cn:∃y r',pk=y::r':=by
     cases pk with
     | nil=>simp at aq
     | cons y r'=>exact⟨y,r',rfl⟩
    obtain⟨y,r',rfl⟩:=cn;refine ck [.ref p] [⟨sh,(x::r).map (·.1)⟩] ⟨_,_,rfl,d6,rfl⟩ (zM _) (by simp at cnt;show 1+_<=_;omega) (fun t ht=>?_) (by rw[jB];exact sub) (by rw[jB]) (by rw[vm];exact ab.symm.append_left _)
    rw[zY.mp ht];exact⟨by show 1<=sh.length;rw[d7];exact Nat.succ_le_succ (qQ _),by show(sh.length:Int)<=_;omega,fun p' au=>bi p' (ab.mem_iff.mp au),(ab.map (·.1)).symm⟩
def prD(p:Int×Int):Dat:=.tup [.int p.1,.int p.2]
inductive QR(K:W.Frag)(e:List V)(H:Hp)(Q:VK):Prop
 | mk (t:Addr) (f:List V) (c:List (Int×Int)) (_:e=[.ref t]) (_:SqT K H t f) (_:Reps K H (c.map prD) f) (_:c.length<=1000) (_:∀(l:Addr) (g:List V) H',Same H H'->H' l=some (.lst g)->Reps K H' (c.map fun p=>prD p.swap) g->Q (.ref l) H'):QR K e H Q
def WO(K:W.Frag):Sp:=fun c H Q _=>QR K c H Q
theorem Yb:zB ["pairs"] ["pairs"] (zq (topL 8)):=u0
theorem zcf{f:Addr}{L:FuncData}(F:Fun K "turned" "turned" (topL 8) f L)(B:Blt M):FnOk P w K M C CX0 1 f L ["pairs"] (WO K):=by
 have nd:=Yb.nd;refine F.ok Yb (fun vs H Q E h=>?_) (fun a0 A G s H vs Q E hr h=>?_)
 ·obtain⟨t,I,g,rfl,_⟩:=h
  rfl
 ·obtain⟨t,I,g,rfl,U,rp,la,k⟩:=h
  have O:=bG100000;have Y:=rp.len;rw[zp] at Y;refine⟨_,(zj (zw (vM [] [] rfl rfl (by kernel_rfl) (jt (pv 0)) (fun _ _ _ _=>qG) (fun _ _ _ _=>(qS (za (pv 1) (za (pv 0) zd))))))),?_⟩
  have l2:∀x y:V,[x,y].length<=sizeLine:=fun x y=>by rw[sizeLine_eq];show 2<=_;decide
  refine⟨_,rfl,t,rfl,⟨_,U⟩,jJ (K:=K) (a:=t) (xs:=I) (fun i D H'=>Reps K H' ((g.take i).map fun p=>prD p.swap) D/\Same H H') ⟨rfl,ub _⟩ (fun i D H' ⟨_,e⟩=>e.sqT U) ?_ ?_⟩
  ·rintro i x D H1 hx ⟨c,e⟩
   obtain⟨d,e1,r1⟩:=(rp.same e).get hx;rw[qv] at e1;obtain⟨p,J,rfl⟩:=qJ.mp e1;have hi:i<g.length:=(zK.mp J).1;obtain⟨a,ws,rfl,qa,x1,aa,rfl,e2,x2,ab,rfl,e3,e4⟩:=r1;cases e2;cases e3;cases e4;refine⟨a,_,rfl,qa,rfl,_,_,rfl,_,_,rfl,rfl,rfl,?_⟩
   refine⟨_,rfl,_,rfl,l2 _ _,fun q hq=>⟨?_,?_,e.trans (zb hq)⟩⟩
   ·have:=c.len
    rw[zp,qi] at this;omega
   ·have e5:g.take (i+1)=g.take i++[p]:=by
     obtain⟨h1,h2⟩:=zK.mp J;rw[<- h2,yt]
    rw[e5,zR];exact ud (d:=prD p.swap) ⟨q,_,rfl,ua zc,_,_,rfl,rfl,_,_,rfl,rfl,rfl⟩ (c.same (zb hq))
  ·rintro D H1 ⟨c,e⟩
   rw[Y,qA] at c;refine⟨by have:=c.len;rw[zp] at this;omega,fun l T=>k l D _ (e.trans (zb T)) zc (c.same (zb T))⟩
def vj(c:List (Int×Int))(i:Int):List Int:=(c.filter fun p=>decide (p.1=i)).map (·.2)
structure NB(H0 H:Hp)(kvs:List (Key×V))(as:List (Int×Int)):Prop where
 at_:∀i v,qH kvs (Sum.inl i)=some v->∃l,v=.ref l/\H0 l=none/\H l=some (.lst ((vj as i).map V.int))
 no:∀i,qH kvs (Sum.inl i)=none->vj as i=[]
 inj:∀i j l,qH kvs (Sum.inl i)=some (.ref l)->qH kvs (Sum.inl j)=some (.ref l)->i=j
 few:kvs.length<=as.length
theorem wm(c:List (Int×Int))(x y i:Int):vj (c++[(x,y)]) i=vj c i++(if x=i then [y] else []):=by
 unfold vj;rw[v1,zR];congr 1
 by_cases h:x=i<;>simp[h]
theorem zdh(c:List (Int×Int))(i:Int):(vj c i).length<=c.length:=by
 unfold vj;rw[zp];exact xU _ _
theorem NB.old{A H B:Hp}{f:List (Key×V)}{g:List (Int×Int)}{x y:Int}{l:Addr}(n:NB A H f g)(s:Same H B)(e:qH f (Sum.inl x)=some (.ref l)) :
  NB A (upd B l (.lst ((vj g x).map V.int++[.int y]))) f (g++[(x,y)]):=by
 refine⟨fun i v c=>?_,fun i c=>?_,n.inj,by rw[zZ];have:=n.few;omega⟩
 ·obtain⟨D,rfl,E,G⟩:=n.at_ i v c
  refine⟨D,rfl,E,?_⟩
  rw[wm];by_cases hx:x=i
  ·subst hx
   rw[e] at c;cases c;rw[zc,zC rfl,zR];rfl
  ·have ne:D≠l:=fun z=>hx (n.inj x i l e (by rw[<- z];exact c))
   rw[zm ne,zv hx,jH];exact s _ _ G
 ·rw[wm,n.no i c,zv (fun z=>by rw[<- z,e] at c;cases c)]
  rfl
theorem NB.new{D H:Hp}{c:List (Key×V)}{E:List (Int×Int)}{x y:Int}{m d:Addr}(n:NB D H c E)(L:H m=none)(I:D m=none)(J:H d=some (.dK c))(e:qH c (Sum.inl x)=none) :
  NB D (upd (upd (upd H m (.lst [])) d (.dK (j4 c (Sum.inl x) (.ref m)))) m (.lst ([]++[.int y]))) (j4 c (Sum.inl x) (.ref m)) (E++[(x,y)]):=by
 have old:∀i l,qH c (Sum.inl i)=some (.ref l)->H l=some (.lst ((vj E i).map V.int))/\l≠m/\l≠d:=fun i l h=>by
  obtain⟨Q,z,_,f⟩:=n.at_ i _ h;cases z;refine⟨f,fun z=>?_,fun z=>?_⟩
  ·rw[z,L] at f;cases f
  ·rw[z,J] at f;cases f
 refine⟨fun i v g=>?_,fun i g=>?_,fun i j l s A=>?_,?_⟩
 ·rw[wT] at g
  rw[wm];by_cases hx:i=x
  ·subst hx
   rw[zC rfl] at g;cases g;refine⟨m,rfl,I,?_⟩
   rw[zc,n.no _ e,zC rfl];rfl
  ·rw[zv (fun z=>hx (vB z))] at g
   obtain⟨l,rfl,f,B⟩:=n.at_ i v g;obtain⟨_,G,O⟩:=old i l g;refine⟨l,rfl,f,?_⟩
   rw[zm G,zm O,zm G,zv (qu hx),jH];exact B
 ·rw[wT] at g
  by_cases hx:i=x
  ·subst hx;rw[zC rfl] at g;cases g
  ·rw[zv (fun z=>hx (vB z))] at g
   rw[wm,n.no i g,zv (qu hx)];rfl
 ·rw[wT] at s A
  by_cases f:i=x<;>by_cases B:j=x
  ·rw[f,B]
  ·rw[zC (by rw[f])] at s
   rw[zv (fun z=>B (vB z))] at A
   cases s;exact absurd rfl (old j _ A).2.1
  ·rw[zv (fun z=>f (vB z))] at s
   rw[zC (by rw[B])] at A
   cases A;exact absurd rfl (old i _ s).2.1
  ·rw[zv (fun z=>f (vB z))] at s
   rw[zv (fun z=>B (vB z))] at A
   exact n.inj i j l s A
 ·have:=xt c (Sum.inl x) (.ref m)
  have:=n.few;rw[zZ,Wp];omega
inductive XL(K:W.Frag)(g:List V)(H:Hp)(Q:VK):Prop
 | mk (t:Addr) (f:List V) (e:List (Int×Int)) (_:g=[.ref t]) (_:(SqL K H t f\/SqT K H t f)) (_:Reps K H (e.map prD) f) (_:e.length<=1000) (_:∀(d:Addr) (c:List (Key×V)) H',Same H H'->H d=none->H' d=some (.dK c)->NB H H' c e->Q (.ref d) H'):XL K g H Q
def VI(K:W.Frag):Sp:=fun c H Q _=>XL K c H Q
theorem zbI:zB ["pairs","rows","one","other"] ["pairs"] (zq (topL 9)):=u0
theorem zdG{f:Addr}{fd:FuncData}(F:Fun K "next_by" "next_by" (topL 9) f fd)(B:Blt M):FnOk P w K M C CX0 1 f fd ["pairs"] (VI K):=by
 have Y:=zbI.nd;refine F.ok zbI (fun vs H Q E h=>?_) (fun ae A ab s H vs Q E hr h=>?_)
 ·obtain⟨t,U,O,rfl,_⟩:=h
  rfl
 ·obtain⟨t,U,O,rfl,ht,rp,la,k⟩:=h
  have ac:=bG100000;have af:=Je hr;have lx:=rp.len;rw[zp] at lx;refine⟨_,(ze (zG (i:=1) Y rfl (Or.inl rfl) zb6)
   (ze (qR jy rfl (zb1 (pv 0)) (qF rfl (zr (zy (i:=2) Y rfl (Or.inl rfl)) (zr (zy (i:=3) Y rfl (Or.inl rfl)) qe)))
   (zj (jb (xc xj we wc jd (zfj (pv 1) (pv 2) (zV zd) ⟨rfl,rfl,rfl,rfl⟩) (za (pv 3) zd)))))
   (zj (zw (pv 1))))),?_⟩
  refine fun d hd=>?_
  have e0:NB H (upd H d (.dK [])) [] ([]:List (Int×Int)):=⟨(fun i v z=>nomatch z),(fun _ _=>rfl),(fun i j l z=>nomatch z),zM _⟩
  have s0:Same H (upd H d (.dK [])):=zb hd;have step:∀(i:Nat) (x:V) (I:Hp) (g:List (Key×V)),U[i]? =some x->I d=some (.dK g)->NB H I g (O.take i)->Same H I->∃(a:Addr) (p:Int×Int),x=.ref a/\SqT K I a [.int p.1,.int p.2]/\O[i]? =some p/\i<O.length/\O.take (i+1)=O.take i++[p]:=fun i x I g hx _ _ D=>by
   obtain⟨dd,e1,r1⟩:=(rp.same D).get hx;rw[qv] at e1;obtain⟨p,ep,rfl⟩:=qJ.mp e1;obtain⟨G,h2⟩:=zK.mp ep;obtain⟨a,ws,rfl,qa,x1,ag,rfl,e2,x2,ah,rfl,e3,e4⟩:=r1;cases e2;cases e3;cases e4;exact⟨a,p,rfl,qa,ep,G,by rw[<- h2,yt]⟩
  refine⟨_,rfl,t,rfl,ht.elim (fun hL=>.inl ⟨⟨_,s0.seq hL⟩,jL (K:=K) (a:=t) (xs:=U) (fun i σ H'=>Ex3 fun(v2 v3:Option V) (g:List (Key×V))=>An4 (σ=[some (.ref t),some (.ref d),v2,v3]) (H' d=some (.dK g)) (NB H H' g (O.take i)) (Same H H'))
   ⟨_,_,[],rfl,zc,e0,s0⟩ (fun i σ H' _ ⟨_,_,_,_,_,_,D⟩=>D.seq hL) ?s1 ?e1⟩) (fun hT=>.inr ⟨⟨_,s0.sqT hT⟩,YI (K:=K) (a:=t) (xs:=U) (fun i σ H'=>Ex3 fun(v2 v3:Option V) (g:List (Key×V))=>An4 (σ=[some (.ref t),some (.ref d),v2,v3]) (H' d=some (.dK g)) (NB H H' g (O.take i)) (Same H H'))
   ⟨_,_,[],rfl,zc,e0,s0⟩ (fun i σ H' _ ⟨_,_,_,_,_,_,D⟩=>D.sqT hT) ?s2 ?e2⟩)⟩
  case e1 | e2=>
   rintro σ I ⟨v2,v3,g,rfl,G,T,D⟩;rw[lx,qA] at T;exact⟨_,rfl,k d g I D hd G T⟩
  case s1 | s2=>
   rintro i x σ I hx ⟨v2,v3,g,rfl,G,T,D⟩;obtain⟨a,p,rfl,qa,ep,hi,et⟩:=step i x I g hx G T D;rw[et];have aa:=T.few;rw[qi] at aa;refine⟨a,_,rfl,qa,rfl,_,_,rfl,_,_,rfl,rfl,?_⟩
   refine⟨_,rfl,d,rfl,.inl ⟨_,.inl G⟩,_,rfl,le0,fun m J=>⟨g,Sum.inl p.1,(zb (o:=.lst []) J) _ _ G,rfl,by omega,fun v hv=>?_,fun hv=>?_⟩⟩
   ·obtain⟨l,rfl,l0,ll⟩:=T.at_ _ v hv
    have L:=(zb (o:=.lst []) J) _ _ ll;have Y:d≠l:=fun z=>by rw[<- z,G] at ll;cases ll
    have sl:=zdh (O.take i) p.1;rw[qi] at sl;refine⟨.inl ⟨rfl,_,u6 L⟩,_,rfl,l,_,_,rfl,rfl,L,by rw[zp];omega,?_⟩
    exact⟨_,_,g,rfl,by rw[zm Y];exact(zb (o:=.lst []) J) _ _ G,T.old (zb J) hv,fun c o e=>by rw[zm (zk e l0)];exact(zb J) _ _ (D _ _ e)⟩
   ·have a0:m≠d:=fun z=>by rw[z,G] at J;cases J
    have m0:H m=none:=by
     cases z:H m with
     | none=>rfl
     | some o=>rw[D _ _ z] at J;cases J
    have L:upd (upd I m (.lst [])) d (.dK (j4 g (Sum.inl p.1) (.ref m))) m=some (.lst []):=by rw[zm a0];exact zc
    refine⟨.inl ⟨rfl,_,u6 L⟩,_,rfl,m,_,_,rfl,rfl,L,by show 0<_;omega,?_⟩
    exact⟨_,_,_,rfl,by rw[zm (qu a0)];exact zc,T.new J m0 G hv,fun c o e=>by rw[zm (zk e m0),zm (zk e hd),zm (zk e m0)];exact D _ _ e⟩
end
def Wk(c:List (Int×Int)):Nat->Int->Int->Prop
 | 0,i,j=>i=j
 | n+1,i,j=>∃m,(i,m)∈c/\Wk c n m j
section
variable{f:List (Int×Int)}
theorem Wk.snoc:∀{n:Nat} {i j k:Int},Wk f n i j->(j,k)∈f->Wk f (n+1) i k
 | 0,i,j,k,h,e=>by cases(show i=j from h);exact⟨k,e,rfl⟩
 | n+1,i,j,k,⟨m,h,c⟩,e=>⟨m,h,Wk.snoc c e⟩
theorem Wk.add:∀{n m:Nat} {i j k:Int},Wk f n i j->Wk f m j k->Wk f (n+m) i k
 | 0,m,i,j,k,h,e=>by cases(show i=j from h);rw[vz];exact e
 | n+1,m,i,j,k,⟨x,h,c⟩,e=>by rw[Nat.add_right_comm];exact⟨x,h,Wk.add c e⟩
theorem Wk.split:∀{n m:Nat} {i k:Int},Wk f (n+m) i k->∃j,Wk f n i j/\Wk f m j k
 | 0,m,i,k,h=>by rw[vz] at h;exact⟨i,rfl,h⟩
 | n+1,m,i,k,h=>by
  rw[Nat.add_right_comm] at h;obtain⟨x,c,e⟩:=h;obtain⟨j,g,l⟩:=Wk.split e;exact⟨j,⟨x,c,g⟩,l⟩
theorem Wk.closed{C:Int->Prop}(c:∀x y,C x->(x,y)∈f->C y):∀{n:Nat} {i j:Int},C i->Wk f n i j->C j
 | 0,i,j,h,e=>by cases(show i=j from e);exact h
 | n+1,i,j,h,⟨m,e,w⟩=>Wk.closed c (c i m h e) w
def uh:=@Wk.closed
theorem Wk.back:∀{n:Nat} {i j:Int},Wk f n i j->Wk (f.map Prod.swap) n j i
 | 0,i,j,h=>Eq.symm h
 | n+1,i,j,⟨m,e,w⟩=>Wk.snoc (Wk.back w) (qz.mpr ⟨(i,m),e,rfl⟩)
theorem X8{i j:Int}:j∈vj f i↔(i,j)∈f:=by
 unfold vj;rw[qz];constructor
 ·rintro⟨⟨a,b⟩,h,rfl⟩
  obtain⟨c,e⟩:=xx.mp h;rw[<- xF e];exact c
 ·intro h
  exact⟨(i,j),xx.mpr ⟨h,je rfl⟩,rfl⟩
end
theorem Qz(c:List (Int×Int)):(c.map Prod.swap).map Prod.swap=c:=by
 rw[vC];exact List.map_id'' (fun _=>rfl) c
def dkI(c:List (Int×Int)):List (Key×V):=c.map fun p=>(Sum.inl p.1,V.int p.2)
theorem YM(c:List (Int×Int)):(dkI c).length=c.length:=zp _
theorem JY:∀(c:List (Int×Int)) (i:Int),(∃v,qH (dkI c) (Sum.inl i)=some (.int v)/\i∈c.map (·.1))\/(qH (dkI c) (Sum.inl i)=none/\i∉c.map (·.1))
 | [],i=>.inr ⟨rfl,by simp⟩
 | p::c,i=>by
  by_cases h:p.1=i
  ·exact .inl ⟨p.2,qV (by show Sum.inl p.1=_;rw[h]),by simp[h]⟩
  ·have e:qH (dkI (p::c)) (Sum.inl i)=qH (dkI c) (Sum.inl i):=qN (fun z=>h (vB z))
   rcases JY c i with ⟨v,f,g⟩ | ⟨f,g⟩
   ·exact .inl ⟨v,e.trans f,by simp only[qY,qm];exact .inr g⟩
   ·exact .inr ⟨e.trans f,by simp only[qY,qm];rintro(z | z);exact h z.symm;exact g z⟩
theorem zd2{c:List (Int×Int)}{i v:Int}(h:qH (dkI c) (Sum.inl i)=none):j4 (dkI c) (Sum.inl i) (.int v)=dkI (c++[(i,v)]):=by
 rw[zbS _ h];unfold dkI;rw[zR];rfl
theorem Q8{α:Type}[DecidableEq α]:∀{l m:List α},l.Nodup->(∀x∈l,x∈m)->l.length<=m.length
 | [],_,_,_=>qQ _
 | x::l,m,h,s=>by
  have hx:=s x (by simp)
  have c:=yT.mp h;have:=Q8 (l:=l) (m:=m.erase x) c.2 fun y hy=>(List.mem_erase_of_ne (fun e:y=x=>c.1 (e▸hy))).mpr (s y (jn _ hy))
  rw[List.length_erase_of_mem hx] at this;have:=List.length_pos_of_mem hx;rw[xh];omega
def InN(n:Nat)(i:Int):Prop:=0<=i/\i<n
theorem yd{n:Nat}{l:List Int}(h:l.Nodup)(s:∀x∈l,InN n x):l.length<=n:=by
 have:=Q8 (m:=(List.range n).map fun k:Nat=>(k:Int)) h fun x hx=>by
  obtain⟨c,e⟩:=s x hx;exact qz.mpr ⟨x.toNat,xD.mpr (by omega),by omega⟩
 rwa[zp,vh] at this
theorem VR{α:Type}{l:List α}{x:α}(h:l.Nodup)(hx:x∉l):(l++[x]).Nodup:=by
 rw[Qc];exact⟨h,by simp,fun a c b hb e=>hx (by rw[zY] at hb;rw[<- hb,<- e];exact c)⟩
structure RowsOk(H:Hp)(rk:List (Key×V))(as:List (Int×Int)):Prop where
 at_:∀i v,qH rk (Sum.inl i)=some v->∃l,v=.ref l/\H l=some (.lst ((vj as i).map V.int))
 no:∀i,qH rk (Sum.inl i)=none->vj as i=[]
theorem RowsOk.same{H c:Hp}{g:List (Key×V)}{f:List (Int×Int)}(r:RowsOk H g f)(s:Same H c):RowsOk c g f:=⟨fun i v e=>let ⟨l,a,b⟩:=r.at_ i v e;⟨l,a,s _ _ b⟩,r.no⟩
def WSt(H:Hp)(l:List (Int×Int))(n:Nat)(s:Int)(r d:Addr)(m:Nat)(σ:St)(g:Hp):Prop:=
 ∃(e:Addr) (f:List Int) (c:List (Int×Int)) (w A B:Option V),σ=[some (.int s),some (.ref r),some (.ref d),some (.ref e),w,A,B]/\H e=none/\e≠d/\g e=some (.lst (f.map V.int))/\g d=some (.dK (dkI c))/\Same H g /\
  (c.map (·.1)).Nodup/\(∀j∈c.map (·.1),∃k,Wk l k s j)/\s∈c.map (·.1)/\(∀j∈f,j∈c.map (·.1))/\(∀x∈c.map (·.1),x∉f->∀y,(x,y)∈l->y∈c.map (·.1))/\f.length<=60/\m=2*(n-c.length)+(if f=[] then 0 else 1)
structure RSt(as:List (Int×Int))(s:Int)(d l:Addr)(ps:List (Int×Int))(H H':Hp)(qs:List (Int×Int))(rs:List Int):Prop where
 hd:H' d=some (.dK (dkI qs))
 hl:H' l=some (.lst (rs.map V.int))
 sm:Same H H'
 nd:(qs.map (·.1)).Nodup
 snd:∀j∈qs.map (·.1),∃k,Wk as k s j
 eq:qs.map (·.1)=ps.map (·.1)++rs
section
variable{P:Program}{w:World}{K:W.Frag}{I:Str->Option Value}{G:Heap}
inductive QT(K:W.Frag)(l:List V)(H:Hp)(Q:VK):Prop
 | mk (s:Int) (r:Addr) (g:List (Key×V)) (c:List (Int×Int)) (n:Nat) (_:l=[.int s,.ref r]) (_:H r=some (.dK g)) (_:RowsOk H g c) (_:n<=60) (_:InN n s) (_:(∀p∈c,InN n p.2)) (_:c.length<=1000) (_:∀(d:Addr) (e:List (Int×Int)) f,Same H f->H d=none->f d=some (.dK (dkI e))->(e.map (·.1)).Nodup->e.length<=n->(∀j,j∈e.map (·.1)↔∃k,Wk c k s j)->Q (.ref d) f):QT K l H Q
def WS(K:W.Frag):Sp:=fun c H Q _=>QT K c H Q
theorem Yd:zB ["start","rows","steps","edge","reached","part","other"] ["start","rows"] (zq (topL 10)):=u0
theorem zch{f:Addr}{fd:FuncData}(F:Fun K "steps_from" "steps_from" (topL 10) f fd)(B:Blt I):FnOk P w K I G CX0 1 f fd ["start","rows"] (WS K):=by
 have nd:=Yd.nd;refine F.ok Yd (fun vs H Q E h=>?_) (fun bd A bb s H vs Q E hr h=>?_)
 ·obtain⟨s,r,rk,M,n,rfl,_⟩:=h
  rfl
 ·obtain⟨s,r,rk,M,n,rfl,hR,ro,be,ins,ah,al,k⟩:=h
  have bc:=bG100000;have ae:=Je hr;refine⟨_,(ze (zG (i:=2) nd rfl (Or.inl rfl) (zdt (zbW (pv 0) zf zdn) rfl rfl (by intro z;cases z) (by show 1<=15;decide)))
   (ze (zG (i:=3) nd rfl (Or.inl rfl) (zV (za (pv 0) zd)))
   (ze (XZ jy (zdk (pv 3))
   (ze (zG (i:=4) nd rfl (Or.inl rfl) (zV zd))
    (ze (qR jy rfl (qW (pv 3)) (zy (i:=5) nd rfl (Or.inl rfl))
    (zj (qR jy rfl (qW (zb7 ae (pv 1) (pv 5) (zV zd) ⟨rfl,rfl,rfl,rfl⟩)) (zy (i:=6) nd rfl (Or.inl rfl))
     (zj (qI (zfa (zav ae (pv 6) (pv 2)))
      (ze (zdl ae (pv 2) (pv 6) (zA qh (Yr ae (pv 2) (pv 5) (fun _ _=>rfl)) zf) rfl)
       (zj (jb (xc xj we wc jd (pv 4) (za (pv 6) zd)))))
      zU)))))
    (zj (zG (i:=3) nd rfl (Or.inl rfl) (pv 4))))))
   (zj (zw (pv 2)))))),?_⟩
  refine fun d hd=>⟨_,rfl,zc,[(Sum.inl s,.int 0)],rfl,(by show 1<=15;decide),_,rfl,le1,fun e he=>?_⟩
  have ed:e≠d:=fun z=>by rw[z,zc] at he;cases he
  have e0:H e=none:=by rw[zm ed,zm ed] at he;exact he
  have s0:Same H (upd (upd (upd H d (.dK [])) d (.dK (jg [] [(Sum.inl s,V.int 0)]))) e (.lst [.int s])):=fun c o z=>by rw[zm (zk z e0),zm (zk z hd),zm (zk z hd)];exact z
  have ao:(upd (upd (upd H d (.dK [])) d (.dK (jg [] [(Sum.inl s,V.int 0)]))) e (.lst [.int s])) d=some (.dK (dkI [(s,0)])):=by rw[zm (qu ed),zc];rfl
  have ap:(upd (upd (upd H d (.dK [])) d (.dK (jg [] [(Sum.inl s,V.int 0)]))) e (.lst [.int s])) e=some (.lst ([s].map V.int)):=zc;generalize upd (upd (upd H d (.dK [])) d (.dK (jg [] [(Sum.inl s,V.int 0)]))) e (.lst [.int s])=H1 at s0 ao ap;refine⟨WSt H M n s r d,⟨_,e,[s],[(s,0)],_,_,_,rfl,e0,ed,ap,ao,s0,by simp,fun j hj=>⟨0,by simp at hj;exact hj.symm⟩,by simp,by simp,fun x hx hn=>absurd hx (by simpa using hn),by simp,rfl⟩,?_⟩
  rintro m σ H2 ⟨e,es,T,v4,v5,v6,rfl,en,ba,ab,af,s2,aj,ak,au,aw,an,el,rfl⟩;have b0:∀j∈T.map (·.1),InN n j:=fun j hj=>by
   obtain⟨k,wk⟩:=ak j hj;exact uh (C:=InN n) (fun x y _ h=>ah _ h) ins wk
  have pl:T.length<=n:=by have:=yd aj b0;rwa[zp] at this
  refine⟨_,rfl,e,_,rfl,u6 ab,?_⟩
  cases es with
  | nil=>
   refine ifF (by rfl) ?_
   refine⟨_,rfl,k d T H2 s2 hd af aj pl fun j=>⟨ak j,fun ⟨k,wk⟩=>uh (C:=fun j=>j∈T.map (·.1)) (fun x y hx h=>an x hx (by simp) y h) au wk⟩⟩
  | cons e1 Y=>
   refine ifT (by rfl) ?_
   refine⟨fun σ' U=>∃m',m'<2*(n-T.length)+(if e1::Y=[] then 0 else 1)/\WSt H M n s r d m' σ' U,fun _ _ h=>h,?_⟩
   refine⟨le0,fun l hl=>?_⟩
   have lH:H l=none:=by
    cases z:H l with
    | none=>rfl
    | some o=>rw[s2 _ _ z] at hl;cases hl
   have ld:l≠d:=fun z=>by rw[z,af] at hl;cases hl
   have le:l≠e:=fun z=>by rw[z,ab] at hl;cases hl
   refine⟨_,rfl,e,rfl,⟨_,u6 ((zb hl) _ _ ab)⟩,jL (K:=K) (a:=e) (xs:=(e1::Y).map V.int) (fun i σ U=>Ex4 fun(v5 v6:Option V) (g:List (Int×Int)) (L:List Int)=>An4 (σ=[some (.int s),some (.ref r),some (.ref d),some (.ref e),some (.ref l),v5,v6]) (U e=some (.lst ((e1::Y).map V.int))) (RSt M s d l T H U g L) ((∀x∈(e1::Y).take i,∀y,(x,y)∈M->y∈g.map (·.1))))
    ⟨_,_,T,[],rfl,(zb hl) _ _ ab,⟨(zb hl) _ _ af,zc,s2.trans (zb hl),aj,ak,by simp⟩,by simp⟩ (fun i σ U _ ⟨_,_,_,_,_,h,_,_⟩=>u6 h) ?_ ?_⟩
   ·rintro i x σ H3 hx ⟨v5,v6,g,L,rfl,ar,D,a0⟩
    rw[qv] at hx;obtain⟨x,ex,rfl⟩:=qJ.mp hx;have et:(e1::Y).take (i+1)=(e1::Y).take i++[x]:=by
     obtain⟨h1,h2⟩:=zK.mp ex;rw[<- h2,yt]
    have xk:x∈T.map (·.1):=aw x (qq ex)
    have xq:x∈g.map (·.1):=by rw[D.eq];exact jA _ xk
    refine⟨_,rfl,r,rfl,.inl ⟨_,.inl (D.sm _ _ hR)⟩,_,rfl,le0,fun q hq=>?_⟩
    have sq:=zb (H:=H3) (o:=.lst []) hq;have qd:q≠d:=fun z=>by rw[z,D.hd] at hq;cases hq
    have ql:q≠l:=fun z=>by rw[z,D.hl] at hq;cases hq
    refine⟨_,.inl ⟨rk,Sum.inl x,.inl (sq _ _ (D.sm _ _ hR)),rfl,rfl⟩,?_⟩
    have tt:∃t,(qH rk (Sum.inl x)).getD (.ref q)=.ref t/\upd H3 q (.lst []) t=some (.lst ((vj M x).map V.int))/\t≠d/\t≠l:=by
     cases z:qH rk (Sum.inl x) with
     | none=>exact⟨q,rfl,by rw[ro.no x z];exact zc,qd,ql⟩
     | some v=>
      obtain⟨t,rfl,ht⟩:=ro.at_ x v z;exact⟨t,rfl,sq _ _ (D.sm _ _ ht),zk ht hd,zk ht lH⟩
    obtain⟨t,ay,ht,td,tl⟩:=tt;rw[ay];refine⟨t,rfl,⟨_,u6 ht⟩,jL (K:=K) (a:=t) (xs:=(vj M x).map V.int) (fun k σ U=>Ex3 fun(v6:Option V) (g:List (Int×Int)) (L:List Int)=>An6 (σ=[some (.int s),some (.ref r),some (.ref d),some (.ref e),some (.ref l),some (.int x),v6]) (U e=some (.lst ((e1::Y).map V.int))) (U t=some (.lst ((vj M x).map V.int))) (RSt M s d l T H U g L) ((∀x∈(e1::Y).take i,∀y,(x,y)∈M->y∈g.map (·.1))) (∀y∈(vj M x).take k,y∈g.map (·.1)))
     ⟨_,g,L,rfl,sq _ _ ar,ht,⟨sq _ _ D.hd,sq _ _ D.hl,D.sm.trans sq,D.nd,D.snd,D.eq⟩,a0,by simp⟩ (fun i σ U _ ⟨_,_,_,_,_,h,_,_,_⟩=>u6 h) ?_ ?_⟩
    ·rintro j y σ H4 hy ⟨v6,g,L,rfl,ac,ag,J,aa,O⟩
     rw[qv] at hy;obtain⟨y,ey,rfl⟩:=qJ.mp hy;have aq:(vj M x).take (j+1)=(vj M x).take j++[y]:=by
      obtain⟨h1,h2⟩:=zK.mp ey;rw[<- h2,yt]
     have xy:(x,y)∈M:=X8.mp (qq ey);have ax:x∈g.map (·.1):=by rw[J.eq];exact jA _ xk
     refine⟨_,rfl,_,rfl,d,_,rfl,.inl ⟨_,Sum.inl y,.inl J.hd,rfl,rfl⟩,?_⟩
     rcases JY g y with ⟨v,hv,my⟩ | ⟨hv,my⟩
     ·rw[hv]
      refine⟨_,rfl,ifF (by rfl) ?_⟩
      refine⟨_,g,L,rfl,ac,ag,J,aa,fun z N=>?_⟩
      rw[aq] at N;rcases qo.mp N with h | h
      ·exact O z h
      ·rw[zY.mp h];exact my
     ·rw[hv]
      refine⟨_,rfl,ifT (by rfl) ?_⟩
      rcases JY g x with ⟨vx,az,_⟩ | ⟨_,z⟩
      ·have ai:∀j∈g.map (·.1),InN n j:=fun j hj=>by
        obtain⟨k,wk⟩:=J.snd j hj;exact uh (C:=InN n) (fun x y _ h=>ah _ h) ins wk
       have ql:g.length<=n:=by have:=yd J.nd ai;rwa[zp] at this
       have lq:g.length=T.length+L.length:=by
        have:=congrArg List.length J.eq;rwa[zZ,zp,zp] at this
       refine⟨_,rfl,_,rfl,d,_,rfl,.inl ⟨_,Sum.inl x,.inl J.hd,rfl,az.symm⟩,_,_,rfl,rfl,_,rfl,_,rfl,d,_,rfl,.inl ⟨_,Sum.inl y,J.hd,rfl,by rw[YM];omega,rfl⟩,?_⟩
       rw[zd2 hv];have am:upd H4 d (.dK (dkI (g++[(y,vx+1)]))) l=some (.lst (L.map V.int)):=by rw[zm ld];exact J.hl
       refine⟨_,rfl,.inl ⟨rfl,_,u6 am⟩,_,rfl,l,_,_,rfl,rfl,am,by rw[zp];omega,?_⟩
       refine⟨_,g++[(y,vx+1)],L++[y],rfl,by rw[zm (qu le),zm ba];exact ac,by rw[zm tl,zm td];exact ag,⟨by rw[zm (qu ld)];exact zc,by rw[zc,zR];rfl,fun c o z=>by rw[zm (zk z lH),zm (zk z hd)];exact J.sm _ _ z,?_,?_,by rw[zR,J.eq,xG];rfl⟩,fun z N u hu=>?_,fun z N=>?_⟩
       ·rw[zR]
        exact VR J.nd my
       ·intro z N
        rw[zR] at N;rcases qo.mp N with h | h
        ·exact J.snd z h
        ·obtain⟨k,wk⟩:=J.snd x ax
         rw[zY.mp h];exact⟨k+1,wk.snoc xy⟩
       ·rw[zR]
        exact jA _ (aa z N u hu)
       ·rw[aq] at N
        rw[zR];rcases qo.mp N with h | h
        ·exact jA _ (O z h)
        ·exact qB _ h
      ·exact absurd ax z
    ·rintro σ H4 ⟨v6,g,L,rfl,ac,ag,J,aa,O⟩
     rw[zp,qA] at O;refine⟨_,_,g,L,rfl,ac,J,fun z N y hy=>?_⟩
     rw[et] at N;rcases qo.mp N with h | h
     ·exact aa z h y hy
     ·rw[zY.mp h] at hy
      exact O y (X8.mpr hy)
   ·rintro σ H3 ⟨v5,v6,g,L,rfl,ar,D,a0⟩
    rw[zp,qA] at a0;have ai:∀j∈g.map (·.1),InN n j:=fun j hj=>by
     obtain⟨k,wk⟩:=D.snd j hj;exact uh (C:=InN n) (fun x y _ h=>ah _ h) ins wk
    have ql:g.length<=n:=by have:=yd D.nd ai;rwa[zp] at this
    have lq:g.length=T.length+L.length:=by
     have:=congrArg List.length D.eq;rwa[zZ,zp,zp] at this
    refine⟨_,rfl,2*(n-g.length)+(if L=[] then 0 else 1),?_,l,L,g,_,_,_,rfl,lH,ld,D.hl,D.hd,D.sm,D.nd,D.snd,by rw[D.eq];exact jA _ au,fun j hj=>by rw[D.eq];exact qB _ hj,fun x hx hn y hy=>?_,by omega,rfl⟩
    ·rw[zv (by simp:¬e1::Y=[])]
     split
     ·omega
     ·rename_i h
      have:=Xi.mpr h;omega
    ·rw[D.eq] at hx
     rcases qo.mp hx with h | h
     ·by_cases av:x∈e1::Y
      ·exact a0 x av y hy
      ·rw[D.eq];exact jA _ (an x h av y hy)
     ·exact absurd h hn
theorem zfV{c e:List Int}(p:c.Perm e)(g:e.Nodup)(h:c.Pairwise (·<= ·)):c.Pairwise (·< ·):=by
 have f:c.Pairwise (·≠ ·):=p.nodup_iff.mpr g
 exact(h.and f).imp fun ⟨a,b⟩=>by omega
inductive W9(K:W.Frag)(A:List V)(H:Hp)(Q:VK):Prop
 | mk (s:Int) (r:Addr) (g:List (Key×V)) (c:List (Int×Int)) (n:Nat) (_:A=[.int s,.ref r]) (_:H r=some (.dK g)) (_:RowsOk H g c) (_:n<=60) (_:InN n s) (_:(∀p∈c,InN n p.2)) (_:c.length<=1000) (_:∀(l:Addr) (e:List Int) f,Same H f->H l=none->f l=some (.lst (e.map V.int))->e.length<=60->e.Pairwise (·< ·)->(∀j,j∈e↔j≠s/\∃k,Wk c k s j)->Q (.ref l) f):W9 K A H Q
def zbx(K:W.Frag):Sp:=fun c H Q _=>W9 K c H Q
theorem zex:zB ["part","rows"] ["part","rows"] (zq (topL 11)):=u0
theorem zfx{f:Addr}{fd:FuncData}(F:Fun K "all_from" "all_from" (topL 11) f fd)(B:Blt I)(e:Dfn P w K I G "steps_from" 1 ["start","rows"] (WS K)):FnOk P w K I G CX0 2 f fd ["part","rows"] (zbx K):=by
 have nd:=zex.nd;refine F.ok zex (fun vs H Q E h=>?_) (fun ab A a0 s H vs Q E hr h=>?_)
 ·obtain⟨s,r,rk,as,n,rfl,_⟩:=h
  rfl
 ·obtain⟨s,r,rk,as,n,rfl,hR,ro,U,ins,O,al,k⟩:=h
  have aa:=bG100000;refine⟨_,(zj (zw (zt yh rfl B.sorted vX (za (jS ["part"] [0] rfl rfl (by kernel_rfl) (zb2 (zg e hr.m rfl (za (pv 0) (za (pv 1) zd)))) (fun _ _ _ _=>(vn (zJ zcc (pv 0) (pv 1) (zO _)))) (fun _ _ _ _=>(pv 0))) zd)))),?_⟩
  refine⟨_,rfl,_,rfl,s,r,rk,as,n,rfl,hR,ro,U,ins,O,al,fun d g L s1 hd N Y lp mem=>⟨d,_,rfl,N,fun o=>zcw (d:=d) (o:=o) (kvs:=dkI g) (fun i J H'=>J=(((g.take i).map (·.1)).filter fun j=>decide (j≠s)).map V.int/\H'=upd L d (.frz o (.dK (dkI g)))) ⟨rfl,rfl⟩ (fun i J H' ⟨_,h⟩=>by rw[h];exact zc) ?_ ?_⟩⟩
  ·rintro i kk v J H2 hx ⟨rfl,rfl⟩
   unfold dkI at hx;rw[qv] at hx;obtain⟨p,ep,e1⟩:=qJ.mp hx;cases e1;have et:g.take (i+1)=g.take i++[p]:=by
    obtain⟨h1,h2⟩:=zK.mp ep;rw[<- h2,yt]
   have hi:=(zK.mp ep).1;rw[et,zR,v1,zR];have T:=xU (fun j=>decide (j≠s)) ((g.take i).map (·.1))
   rw[zp,qi] at T;refine⟨rfl,_,rfl,_,rfl,rfl,_,rfl,?_⟩
   by_cases c:p.1=s
   ·refine ifF (by show(!decide (V.int p.1=V.int s))=false;rw[c];simp) ⟨?_,rfl⟩
    simp[c]
   ·refine ifT (by show(!decide (V.int p.1=V.int s))=true;rw[jN (fun z=>c (V.int.inj z))];rfl) ⟨_,rfl,by rw[zp];omega,?_,rfl⟩
    simp[c,kV]
  ·rintro J H2 ⟨rfl,rfl⟩
   rw[YM,qA];have T:=xU (fun j=>decide (j≠s)) (g.map (·.1))
   rw[zp] at T;refine⟨by rw[zp];omega,fun l D=>⟨l,(g.map (·.1)).filter fun j=>decide (j≠s),rfl,u6 zc,by omega,fun l2 ms C pm pw=>?_⟩⟩
   have ld:l≠d:=fun z=>by rw[z,zc] at D;cases D
   have M:L l=none:=by rw[zm ld] at D;exact D
   have s3:Same H (upd (upd L d (.frz o (.dK (dkI g)))) l (.lst (((g.map (·.1)).filter fun j=>decide (j≠s)).map V.int))):=fun c o z=>by
    rw[zm (zk (s1 _ _ z) M),zm (zk z hd)];exact s1 _ _ z
   refine k l2 ms _ (s3.trans (zb C)) ?_ zc (by rw[pm.length_eq];omega) (zfV pm (Y.filter _) pw) fun j=>?_
   ·cases z:H l2 with
    | none=>rfl
    | some o=>rw[s3 _ _ z] at C;cases C
   ·rw[pm.mem_iff,xx,mem j]
    constructor
    ·rintro⟨a,b⟩;exact⟨xF b,a⟩
    ·rintro⟨a,b⟩;exact⟨b,je a⟩
def asI(J:Job):List (Int×Int):=J.as.map fun p=>((p.1:Int),(p.2:Int))
theorem zd9(J:Job):(asI J).map prD=J.as.map jK:=by
 unfold asI;rw[vC];rfl
theorem ym(J:Job):(asI J).length=J.as.length:=zp _
inductive Q2(K:W.Frag)(f:List V)(H:Hp)(Q:VK):Prop
 | mk (s:Int) (p:Addr) (J:Job) (_:f=[.ref p,.int s]) (_:Rep K H (xu J) (.ref p)) (_:J.ps.length<=60) (_:InN J.ps.length s) (_:(∀q∈asI J,InN J.ps.length q.1/\InN J.ps.length q.2)) (_:J.as.length<=300) (_:∀(l:Addr) (c:List Int) e,Same H e->H l=none->e l=some (.lst (c.map V.int))->c.length<=60->c.Pairwise (·< ·)->(∀j,j∈c↔j≠s/\∃k,Wk (asI J) k j s)->Q (.ref l) e):Q2 K f H Q
def JF(K:W.Frag):Sp:=fun c H Q _=>Q2 K c H Q
theorem ZX{J:Job}{H:Hp}{p:Addr}(h:Rep K H (xu J) (.ref p)):∃(t:Addr) (f g l s:V) (c:List V),SqT K H p [f,g,l,s,.ref t]/\SqT K H t c/\Reps K H ((asI J).map prD) c:=by
 obtain⟨a,c,e,B,f,_,rfl,_,g,_,rfl,_,l,_,rfl,_,s,_,rfl,_,M,L,rfl,A,rfl⟩:=h;cases e;obtain⟨t,E,rfl,C,D⟩:=A;exact⟨t,_,_,_,_,E,B,C,by rw[zd9];exact D⟩
theorem Yk:zB ["job","part"] ["job","part"] (zq (topL 12)):=u0
theorem zcn{f:Addr}{fd:FuncData}(F:Fun K "ahead_of" "ahead_of" (topL 12) f fd)(B:Blt I)(g:Dfn P w K I G "turned" 1 ["pairs"] (WO K))(e:Dfn P w K I G "next_by" 1 ["pairs"] (VI K))(c:Dfn P w K I G "all_from" 2 ["part","rows"] (zbx K)):FnOk P w K I G CX0 3 f fd ["job","part"] (JF K):=by
 have nd:=Yk.nd;refine F.ok Yk (fun vs H Q E h=>?_) (fun ab A a0 s H vs Q E O h=>?_)
 ·obtain⟨s,p,J,rfl,_⟩:=h
  rfl
 ·obtain⟨s,p,J,rfl,rp,Y,ins,T,al,k⟩:=h
  have aa:=bG100000;refine⟨_,(zj (zw (zg c O.m rfl (za (pv 1) (za (zg e O.m rfl (za (zg g O.m rfl (za (zx zN (pv 0) zf (fun _ _=>rfl)) zd)) zd)) zd))))),?_⟩
  obtain⟨t,x0,x1,x2,x3,xs,qa,qt,rx⟩:=ZX rp;refine⟨_,rfl,_,rfl,p,_,_,_,rfl,rfl,qa,rfl,t,xs,asI J,rfl,qt,rx,by rw[ym];omega,fun l0 ys H0 s0 L ry=>?_⟩
  have em:((asI J).map Prod.swap).map prD=(asI J).map fun p=>prD p.swap:=by rw[vC];rfl
  refine⟨l0,ys,(asI J).map Prod.swap,rfl,.inl (u6 L),by rw[em];exact ry,by rw[zp,ym];omega,fun d U H1 s1 hd D nb=>?_⟩
  refine⟨s,d,U,(asI J).map Prod.swap,J.ps.length,rfl,D,⟨fun i v hv=>let ⟨l,a,_,b⟩:=nb.at_ i v hv;⟨l,a,b⟩,nb.no⟩,Y,ins,fun q hq=>?_,by rw[zp,ym];omega,fun l ms H2 s2 hl M C pw mem=>?_⟩
  ·obtain⟨q',N,rfl⟩:=qz.mp hq
   exact(T q' N).1
  refine k l ms H2 (s0.trans (s1.trans s2)) ?_ M C pw fun j=>?_
  ·cases z:H l with
   | none=>rfl
   | some o=>rw[s1 _ _ (s0 _ _ z)] at hl;cases hl
  ·rw[mem j]
   refine⟨fun ⟨a,k,b⟩=>⟨a,k,?_⟩,fun ⟨a,k,b⟩=>⟨a,k,b.back⟩⟩
   have:=b.back;rwa[Qz] at this
theorem Same.none{H c:Hp}{t:Addr}(s:Same H c)(h:c t=Option.none):H t=Option.none:=s.free h
theorem yF(os:List Nat)(n:Nat):zn (os++[n])=zn os++[.int (n:Int)]:=by
 unfold zn;rw[zR];rfl
theorem yH{H:Hp}{J:Job}{C:Addr}(h:Rep K H (xu J) (.ref C)):∃(g f l c:Addr) (B pv:List V),SqT K H C [.ref g,.int J.hd,.ref f,.ref l,.ref c]/\Rep K H (.tup [.int J.gx,.int J.gy]) (.ref g)/\SqT K H f B/\Reps K H (J.fs.map va) B/\SqT K H l pv/\Reps K H (J.ps.map xB) pv/\Rep K H (yu J.as) (.ref c):=by
 obtain⟨a,xs,e,q,x0,r0,L,h0,x1,r1,e1,h1,x2,r2,e2,h2,x3,r3,M,h3,x4,r4,N,h4,O⟩:=h;cases e;subst L e1 e2 M N;have s:r4=[]:=O;subst s;have A:x1=.int J.hd:=h1;subst A;obtain⟨g,gx,rfl,Y⟩:=h0;obtain⟨f,U,rfl,Q,T⟩:=h2;obtain⟨l,px,rfl,pq,pr⟩:=h3;obtain⟨c,E,rfl,D⟩:=h4;exact⟨g,f,l,c,U,px,q,⟨g,gx,rfl,Y⟩,Q,T,pq,pr,⟨c,E,rfl,D⟩⟩
theorem zdq{a b:List Int}(h:a.Perm b)(c:a.Pairwise (·<= ·))(hb:b.Pairwise (·<= ·)):a=b:=by
 induction a generalizing b with
 | nil=>exact(List.Perm.nil_eq h)
 | cons x a g=>
  cases b with
  | nil=>exact absurd h.length_eq (by simp)
  | cons y b=>
   rw[List.pairwise_cons] at c hb;have l:x=y:=by
    have e:y∈x::a:=h.mem_iff.mpr jz;have f:x∈y::b:=h.mem_iff.mp jz;rcases qm.mp e with z | z
    ·exact z.symm
    ·rcases qm.mp f with u | u
     ·exact u
     ·have:=c.1 y z
      have:=hb.1 x u;omega
   subst l;rw[g (List.Perm.cons_inv h) c.2 hb.2]
theorem at2{x y z:V}{r:List V}:atI (x::y::z::r) 2=some z:=zQ (j:=2) rfl
theorem at3{x y z u:V}{r:List V}:atI (x::y::z::u::r) 3=some u:=zQ (j:=3) rfl
theorem at1{x y:V}{r:List V}:atI (x::y::r) 1=some y:=zQ (j:=1) rfl
theorem zaj{κ:Type}[DecidableEq κ](e c:List κ)(k:κ):Qy e (c++[k])=xV (Qy e c) k:=by unfold Qy;rw[List.foldl_append];rfl
structure TripV(J:Job)(t:zF):Prop where
 p1:1<=t.pk.length
 p2:(t.pk.length:Int)<=J.hd
 ok:∀p∈t.pk,p.1<J.ps.length/\p.2<J.fs.length
 ly:t.ly.Perm (t.pk.map (·.1))
 nd:(t.pk.map (·.1)).Nodup
theorem ZC{κ:Type}[DecidableEq κ]:∀(l c:List κ),(c++l).Nodup->Qy c l=c++l
 | [],c,_=>(jH c).symm
 | k::l,c,h=>by
  have hk:k∉c:=fun z=>by
   have:=(Qc.mp h).2.2 k z k jz;exact this rfl
  show Qy (xV c k) l=_;rw[show xV c k=c++[k] from zv hk,ZC l (c++[k]) (by rw[xG];exact h),xG]
  rfl
theorem TripV.le{J:Job}{t:zF}(h:TripV J t):t.ly.length=t.pk.length:=by rw[h.ly.length_eq,zp]
def nI(l:List Nat):List Int:=l.map fun k:Nat=>(k:Int)
theorem JM(l:List Nat):zn l=(nI l).map V.int:=by
 unfold zn nI;rw[vC];rfl
theorem qT{H:Hp}{t:zF}{x:V}(h:Rep K H (qy t) x):∃a b c e f,x=.ref a/\SqT K H a [.ref b,.ref c]/\SqT K H b e/\Reps K H (t.pk.map jK) e/\SqT K H c f/\Reps K H (t.ly.map QB) f:=by
 obtain⟨a,M,rfl,A,N,L,g,l,O,D,e1,s,e2⟩:=h;subst g e1;cases(show D=[] from e2)
 obtain⟨b,e,rfl,B,E⟩:=l;obtain⟨c,f,rfl,C,J⟩:=s;exact⟨a,b,c,e,f,rfl,A,B,E,C,J⟩
theorem xr{H:Hp}:∀{l:List Nat} {c:List V},Reps K H (l.map QB) c->c=zn l
 | [],_,h=>h
 | k::l,_,h=>by
  obtain⟨v,r,e,f,g⟩:=h;subst e;rw[xr g,show v=_ from f]
  rfl
theorem JN{H:Hp}{J:Job}{C:Addr}(h:Rep K H (xu J) (.ref C)):∃(g c f l:Addr) (B pv:List V),SqT K H C [.ref g,.int J.hd,.ref c,.ref f,.ref l]/\SqT K H c B/\B.length=J.fs.length/\SqT K H f pv/\pv.length=J.ps.length:=by
 obtain⟨a,xs,e,q,x0,r0,L,Y,x1,r1,e1,h1,x2,r2,e2,h2,x3,r3,M,h3,x4,r4,N,h4,O⟩:=h;cases e;subst L e1 e2 M N;have s:r4=[]:=O;subst s;have A:x1=.int J.hd:=h1;subst A;obtain⟨g,gx,rfl,gq⟩:=Y;obtain⟨c,U,rfl,Q,T⟩:=h2;obtain⟨f,px,rfl,pq,pr⟩:=h3;obtain⟨l,ax,rfl,aq⟩:=h4;have D:=T.len;have E:=pr.len;rw[zp] at D E;exact⟨g,c,f,l,U,px,q,Q,D,pq,E⟩
inductive W0(K:W.Frag)(c:List V)(H:Hp)(Q:VK):Prop
 | mk (i:Int) (_:c=[.int i]) (_:Q (.bl true) H):W0 K c H Q
def zei(K:W.Frag):Sp:=fun c H Q _=>W0 K c H Q
theorem zeu:zB ["thing"] ["thing"] (zq (topL 1)):=u0
theorem zfv{f:Addr}{e:FuncData}(F:Fun K "is_number" "is_number" (topL 1) f e)(B:Blt I):FnOk P w K I G CX0 1 f e ["thing"] (zei K):=by
 have D:=zeu.nd;refine F.ok zeu (fun l H Q E h=>?_) (fun g A c s H l Q E C h=>?_)
 ·obtain⟨i,rfl,_⟩:=h
  rfl
 ·obtain⟨i,rfl,k⟩:=h
  refine⟨_,(zj (zw (vO (zt vV rfl B.isinstance boot_isinstance (za (pv 0) (za (yc (v:=.ty "int") rfl B.int yj rfl) zd))) (vo (zfi (zt vV rfl B.isinstance boot_isinstance (za (pv 0) (za (yc (v:=.ty "bool") rfl B.bool zaU rfl) zd)))))))),?_⟩
  exact⟨_,rfl,_, "int", "int",rfl,rfl,(by decide),_,rfl,ifT (by decide) ⟨_,rfl,_, "int", "bool",rfl,rfl,(by decide),_,rfl,k⟩⟩
inductive XB(K:W.Frag)(e:List V)(H:Hp)(Q:VK):Prop
 | mk (i lo c:Int) (_:e=[.int i,.int lo,.int c]) (_:lo<=i) (_:i<=c) (_:Q (.bl true) H):XB K e H Q
def VH(K:W.Frag):Sp:=fun c H Q _=>XB K c H Q
theorem zgf:zB ["thing","least","most"] ["thing","least","most"] (zq (topL 2)):=u0
theorem zgH{f:Addr}{g:FuncData}(F:Fun K "is_number_within" "is_number_within" (topL 2) f g)(B:Blt I)(c:Dfn P w K I G "is_number" 1 ["thing"] (zei K)):FnOk P w K I G CX0 2 f g ["thing","least","most"] (VH K):=by
 have N:=zgf.nd;refine F.ok zgf (fun M H Q E h=>?_) (fun l A e s H M Q E L h=>?_)
 ·obtain⟨i,lo,J,rfl,_⟩:=h
  rfl
 ·obtain⟨i,lo,J,rfl,C,D,k⟩:=h
  refine⟨_,(zj (zw (vO (zg c L.m rfl (za (pv 0) zd)) (vo (zb8 Yt Yt (pv 1) (pv 0) (pv 2)))))),?_⟩
  refine⟨_,rfl,i,rfl,_,rfl,ifT rfl ⟨_,rfl,_,rfl,_,_,rfl,rfl,_,rfl,ifT (je C) ⟨_,rfl,_,_,rfl,rfl,?_⟩⟩⟩
  rw[je D];exact k
inductive WP(K:W.Frag)(c:List V)(H:Hp)(Q:VK):Prop
 | mk (a:Addr) (e:List V) (_:c=[.ref a,.int (e.length:Int)]) (_:SqT K H a e) (_:Q (.bl true) H):WP K c H Q
def WQ(K:W.Frag):Sp:=fun c H Q _=>WP K c H Q
theorem zgl:zB ["thing","many"] ["thing","many"] (zq (topL 6)):=u0
theorem zgM{f:Addr}{e:FuncData}(F:Fun K "is_tuple_of" "is_tuple_of" (topL 6) f e)(B:Blt I):FnOk P w K I G CX0 1 f e ["thing","many"] (WQ K):=by
 have J:=zgl.nd;refine F.ok zgl (fun C H Q E h=>?_) (fun l A c s H C Q E D h=>?_)
 ·obtain⟨a,g,rfl,_⟩:=h
  rfl
 ·obtain⟨a,g,rfl,q,k⟩:=h
  refine⟨_,(zj (zw (vO (zt vV rfl B.isinstance boot_isinstance (za (pv 0) (za (yc (v:=.ty "tuple") rfl B.tuple jj rfl) zd))) (vo (qX xN (zt zD rfl B.len boot_len (za (pv 0) zd)) (pv 1) (zO _)))))),?_⟩
  refine⟨_,rfl,_, "tuple", "tuple",rfl,.inr ⟨rfl,_,q⟩,(by decide),_,rfl,ifT (by decide) ⟨_,rfl,a,g,rfl,.inr q,_,rfl,rfl,?_⟩⟩
  rw[je rfl];exact k
inductive XC(K:W.Frag)(c:List V)(H:Hp)(Q:VK):Prop
 | mk (a:Addr) (e:List V) (m:Int) (_:c=[.ref a,.int m]) (_:SqT K H a e) (_:(e.length:Int)<=m) (_:Q (.bl true) H):XC K c H Q
def zbf(K:W.Frag):Sp:=fun c H Q _=>XC K c H Q
theorem zgj:zB ["thing","most"] ["thing","most"] (zq (topL 7)):=u0
theorem zgK{f:Addr}{e:FuncData}(F:Fun K "is_tuple_upto" "is_tuple_upto" (topL 7) f e)(B:Blt I):FnOk P w K I G CX0 1 f e ["thing","most"] (zbf K):=by
 have L:=zgj.nd;refine F.ok zgj (fun D H Q E h=>?_) (fun l A c s H D Q E J h=>?_)
 ·obtain⟨a,g,m,rfl,_⟩:=h
  rfl
 ·obtain⟨a,g,m,rfl,q,C,k⟩:=h
  refine⟨_,(zj (zw (vO (zt vV rfl B.isinstance boot_isinstance (za (pv 0) (za (yc (v:=.ty "tuple") rfl B.tuple jj rfl) zd))) (vo (qX Yt (zt zD rfl B.len boot_len (za (pv 0) zd)) (pv 1) (zO _)))))),?_⟩
  refine⟨_,rfl,_, "tuple", "tuple",rfl,.inr ⟨rfl,_,q⟩,(by decide),_,rfl,ifT (by decide) ⟨_,rfl,a,g,rfl,.inr q,_,rfl,_,_,rfl,rfl,?_⟩⟩
  rw[je C];exact k
inductive XI(K:W.Frag)(e:List V)(H:Hp)(Q:VK):Prop
 | mk (c a:Addr) (J:Job) (p:Nat×Nat) (_:e=[.ref c,.ref a]) (_:Rep K H (xu J) (.ref c)) (_:SqT K H a [.int (p.1:Int),.int (p.2:Int)]) (_:p.1<J.ps.length) (_:p.2<J.fs.length) (_:Q (.bl true) H):XI K e H Q
def zbj(K:W.Frag):Sp:=fun c H Q _=>XI K c H Q
theorem zbG:zB ["job","thing","part","feeder"] ["job","thing"] (zq (topL 20)):=u0
theorem zdE{f:Addr}{L:FuncData}(F:Fun K "is_pick" "is_pick" (topL 20) f L)(B:Blt I)(e:Dfn P w K I G "is_tuple_of" 1 ["thing","many"] (WQ K))(c:Dfn P w K I G "is_number_within" 2 ["thing","least","most"] (VH K)):FnOk P w K I G CX0 3 f L ["job","thing"] (zbj K):=by
 have M:=zbG.nd;refine F.ok zbG (fun vs H Q E h=>?_) (fun T A D s H vs Q E l h=>?_)
 ·obtain⟨C,a,J,p,rfl,_⟩:=h
  rfl
 ·obtain⟨C,a,J,p,rfl,rj,N,l1,l2,k⟩:=h
  obtain⟨g,U,Y,as,fv,px,O,qf,lf,qp,lp⟩:=JN rj;refine⟨_,(ze (qI (xW (j5 (zg e l.m rfl (za (pv 1) (za zf zd)))))
   (zj (zw jF))
   zU)
   (ze (j6 (pv 1) (qF rfl (zr (zy (i:=2) M rfl (Or.inl rfl)) (zr (zy (i:=3) M rfl (Or.inl rfl)) qe))))
   (zj (zw (vO (zg c l.m rfl (za (pv 2) (za zf (za (zA jI (zt zD rfl B.len boot_len (za (zx zN (pv 0) zf (fun _ _=>rfl)) zd)) zf) zd)))) (vo (zg c l.m rfl (za (pv 3) (za zf (za (zA jI (zt zD rfl B.len boot_len (za (zx zN (pv 0) zf (fun _ _=>rfl)) zd)) zf) zd)))))))))),?_⟩
  refine⟨_,rfl,a,_,rfl,N,_,rfl,ifF (by decide) ?_⟩
  refine⟨_,rfl,a,_,rfl,N,rfl,_,_,rfl,_,_,rfl,rfl,?_⟩
  refine⟨_,rfl,_,rfl,C,_,_,_,rfl,rfl,O,at3,Y,_,rfl,.inr qp,_,_,rfl,rfl,_,_,_,rfl,We _,by omega,?_⟩
  exact⟨_,rfl,ifT rfl ⟨_,rfl,_,rfl,C,_,_,_,rfl,rfl,O,at2,U,_,rfl,.inr qf,_,_,rfl,rfl,_,_,_,rfl,We _,by omega,k⟩⟩
inductive QY(K:W.Frag)(f:List V)(H:Hp)(Q:VK):Prop
 | mk (e a:Addr) (J:Job) (g:List V) (t:zF) (_:f=[.ref e,.ref a]) (_:Rep K H (xu J) (.ref e)) (_:SqT K H a g) (_:Reps K H (t.pk.map jK) g) (_:TripV J t) (_:J.hd<=4) (_:∀c,Same H c->Q (.bl true) c):QY K f H Q
def WW(K:W.Frag):Sp:=fun c H Q _=>QY K c H Q
theorem Yh:zB ["job","thing"] ["job","thing"] (zq (topL 21)):=u0
theorem zck{f:Addr}{fd:FuncData}(F:Fun K "are_picks" "are_picks" (topL 21) f fd)(B:Blt I)(c:Dfn P w K I G "is_tuple_upto" 1 ["thing","most"] (zbf K))(e:Dfn P w K I G "is_pick" 3 ["job","thing"] (zbj K)):FnOk P w K I G CX0 4 f fd ["job","thing"] (WW K):=by
 have nd:=Yh.nd;refine F.ok Yh (fun vs H Q E h=>?_) (fun ac A aa s H vs Q E hr h=>?_)
 ·obtain⟨jp,a,J,l,t,rfl,_⟩:=h
  rfl
 ·obtain⟨jp,a,J,l,t,rfl,rj,C,rx,tv,ae,k⟩:=h
  obtain⟨g,fs,ps,as,fv,px,qj,qf,lf,qp,lp⟩:=JN rj;have ab:=bG1000000;have lx:=rx.len;rw[zp] at lx;have p1:=tv.p1;have p2:=tv.p2;refine⟨_,(ze (qI (PW.pt (ZL (xW (j5 (zg c hr.m rfl (za (pv 1) (za (zx zN (pv 0) zf (fun _ _=>rfl)) zd))))) (wK (zJ xN (zt zD rfl B.len boot_len (za (pv 1) zd)) zf (zO _)))))
   (zj (zw jF))
   zU)
   (ze (qI (xW (j5 (zt (vb rfl) rfl B.all boot_all (za (jS ["job"] [0] rfl rfl (by kernel_rfl) (jt (pv 1)) (fun _ _ _ _=>qG) (fun _ _ _ _=>(zg e hr.m rfl (za (pv 1) (za (pv 0) zd))))) zd))))
   (zj (zw jF))
   zU)
   (zj (zw (qX xN (zt zaR rfl B.len boot_len (za (zfh [] [] rfl rfl (by kernel_rfl) (jt (pv 1)) (fun _ _ _ _=>qG) (fun _ _ _ _=>(pv 0))) zd)) (zt zD rfl B.len boot_len (za (pv 1) zd)) (zO _)))))),?_⟩
  refine⟨_,rfl,_,rfl,jp,_,_,_,rfl,rfl,qj,at1,a,l,_,rfl,C,by omega,_,rfl,ifF (by decide) ?_⟩
  refine⟨_,rfl,a,l,rfl,.inr C,rfl,_,rfl,ifF (jN fun z=>by have:=V.int.inj z;omega) ?_⟩
  refine⟨_,rfl,a,rfl,⟨_,C⟩,jJ (K:=K) (a:=a) (xs:=l) (fun i zs N=>zs=List.replicate i (V.bl true)/\Same H N) ⟨rfl,ub _⟩ (fun i zs N ⟨_,s1⟩=>s1.sqT C) ?_ ?_⟩
  ·rintro i x zs N hx ⟨rfl,s1⟩
   obtain⟨d,T,rd⟩:=(rx.same s1).get hx;rw[qv] at T;obtain⟨p,U,rfl⟩:=qJ.mp T;obtain⟨pp,rfl,L⟩:=qM rd;have il:=(zK.mp U).1;have Y:=tv.ok p (qq U);exact⟨rfl,_,rfl,_,rfl,jp,pp,J,p,rfl,rj.same s1,L,Y.1,Y.2,by rw[wF];omega,by rw[Xk],s1⟩
  rintro zs N ⟨rfl,s1⟩;refine⟨by rw[wF];omega,fun D hD=>⟨D,List.replicate l.length true,rfl,u6 (by rw[zc,Xg]),?_⟩⟩
  have s2:=s1.trans (zb (o:=.lst (List.replicate l.length (V.bl true))) hD);generalize upd N D (.lst (List.replicate l.length (V.bl true)))=H2 at s2;refine⟨_,rfl,ifF (by simp) ?_⟩
  refine⟨_,rfl,a,rfl,⟨_,s2.sqT C⟩,ze2 (K:=K) (a:=a) (xs:=l) (fun i ks O=>ks=Qy [] (((t.pk.take i).map fun p=>(p.1:Int)).map Sum.inl:List Key)/\Same H2 O) ⟨rfl,ub _⟩ (fun i ks O ⟨_,M⟩=>(s2.trans M).sqT C) ?_ ?_⟩
  ·rintro i x ks O hx ⟨rfl,M⟩
   obtain⟨d,T,rd⟩:=(rx.same (s2.trans M)).get hx;rw[qv] at T;obtain⟨p,U,rfl⟩:=qJ.mp T;obtain⟨pp,rfl,L⟩:=qM rd;have il:=(zK.mp U).1;refine⟨pp,_,rfl,L,rfl,_,_,rfl,_,_,rfl,rfl,rfl,?_⟩
   have:=Xy (((t.pk.take i).map fun p=>(p.1:Int)).map Sum.inl:List Key) []
   rw[zp,zp,qi,Qj] at this;refine⟨_,rfl,Sum.inl (p.1:Int),rfl,by omega,?_,M⟩
   rw[zL U,zR,zR];exact(zaj _ _ _).symm
  rintro ks O ⟨rfl,M⟩;rw[lx,qA];intro D2 a0;have e1:(t.pk.map fun p:Nat×Nat=>(p.1:Int)).Nodup:=Xb.mpr ((Xb.mp tv.nd).imp fun z y=>z (Qg y))
  have e0:(([]:List Key)++((t.pk.map fun p:Nat×Nat=>(p.1:Int)).map Sum.inl:List Key)).Nodup:=Xb.mpr (e1.imp fun z y=>z (vB y))
  have el:(Qy [] ((t.pk.map fun p=>(p.1:Int)).map Sum.inl:List Key)).length=l.length:=by rw[ZC _ [] e0,Xa,zp,zp,lx]
  refine⟨D2,_,rfl,zc,?_⟩
  have s4:=(s2.trans M).trans (zb (H:=O) (o:=zbA P w D2 (Qy [] ((t.pk.map fun p=>(p.1:Int)).map Sum.inl:List Key))) a0)
  refine⟨_,rfl,a,l,rfl,.inr (s4.sqT C),rfl,?_⟩
  rw[el,je rfl];exact k _ s4
inductive XN(K:W.Frag)(f:List V)(H:Hp)(Q:VK):Prop
 | mk (e a b:Addr) (J:Job) (g:List V) (t:zF) (_:f=[.ref e,.ref a,.ref b]) (_:Rep K H (xu J) (.ref e)) (_:SqT K H a (zn t.ly)) (_:SqT K H b g) (_:Reps K H (t.pk.map jK) g) (_:TripV J t) (_:J.hd<=4) (_:∀c,Same H c->Q (.bl true) c):XN K f H Q
def zbo(K:W.Frag):Sp:=fun c H Q _=>XN K c H Q
theorem zbK:zB ["job","thing","picks"] ["job","thing","picks"] (zq (topL 22)):=u0
theorem zdJ{f:Addr}{fd:FuncData}(F:Fun K "are_lays" "are_lays" (topL 22) f fd)(B:Blt I)(e:Dfn P w K I G "is_tuple_of" 1 ["thing","many"] (WQ K))(c:Dfn P w K I G "is_number_within" 2 ["thing","least","most"] (VH K)):FnOk P w K I G CX0 4 f fd ["job","thing","picks"] (zbo K):=by
 have nd:=zbK.nd;refine F.ok zbK (fun vs H Q E h=>?_) (fun ae A aa s H vs Q E hr h=>?_)
 ·obtain⟨jp,a,b,J,L,t,rfl,_⟩:=h
  rfl
 ·obtain⟨jp,a,b,J,L,t,rfl,rj,O,qb,rx,U,af,k⟩:=h
  obtain⟨g,fs,ps,as,fv,px,qj,qf,lf,qp,lp⟩:=JN rj;have ac:=bG1000000;have lx:=rx.len;rw[zp] at lx;have p2:=U.p2;have le:=U.le;have hu:=hr.units0;have ln:(zn t.ly).length=L.length:=by rw[zu];omega
  refine⟨_,(ze (qI (xW (j5 (zg e hr.m rfl (za (pv 1) (za (zt zD rfl B.len boot_len (za (pv 2) zd)) zd)))))
   (zj (zw jF))
   zU)
   (ze (qI (xW (j5 (zt (vb rfl) rfl B.all boot_all (za (jS ["job"] [0] rfl rfl (by kernel_rfl) (jt (pv 1)) (fun _ _ _ _=>qG) (fun _ _ _ _=>(zg c hr.m rfl (za (pv 0) (za zf (za (zA jI (zt (xo (K:=K) rfl) rfl B.len boot_len (za (zx (ji (K:=K) rfl) (pv 1) zf (fun _ _=>rfl)) zd)) zf) zd)))))) zd))))
   (zj (zw jF))
   zU)
   (zj (zw (qX (zdx hu) (zt QG rfl B.sorted vX (za (pv 1) zd)) (zt yh rfl B.sorted vX (za (vM [] [] rfl rfl (by kernel_rfl) (jt (pv 2)) (fun _ _ _ _=>qG) (fun _ _ _ _=>(pv 0))) zd)) (zO _)))))),?_⟩
  refine⟨_,rfl,_,rfl,b,L,rfl,.inr qb,a,zn t.ly,by rw[ln];rfl,O,_,rfl,ifF (by decide) ?_⟩
  refine⟨_,rfl,a,rfl,⟨_,O⟩,jJ (K:=K) (a:=a) (xs:=zn t.ly) (fun i l M=>l=List.replicate i (V.bl true)/\Same H M) ⟨rfl,ub _⟩ (fun i l M ⟨_,s1⟩=>s1.sqT O) ?_ ?_⟩
  ·rintro i x l M hx ⟨rfl,s1⟩
   obtain⟨m,em,rfl⟩:=j7 hx;have il:=(zK.mp em).1;have hm:m<J.ps.length:=by
    obtain⟨u,hu,rfl⟩:=qz.mp (U.ly.mem_iff.mp (qq em));exact(U.ok u hu).1
   exact⟨rfl,_,rfl,_,rfl,jp,_,_,_,rfl,rfl,s1.sqT qj,at3,ps,_,rfl,.inr (s1.sqT qp),_,_,rfl,rfl,_,_,_,rfl,We _,by omega,by rw[wF];omega,by rw[Xk],s1⟩
  rintro l M ⟨rfl,s1⟩;refine⟨by rw[wF];omega,fun D hD=>⟨D,List.replicate (zn t.ly).length true,rfl,u6 (by rw[zc,Xg]),?_⟩⟩
  have s2:=s1.trans (zb (o:=.lst (List.replicate (zn t.ly).length (V.bl true))) hD);generalize upd M D (.lst (List.replicate (zn t.ly).length (V.bl true)))=H2 at s2;refine⟨_,rfl,ifF (by simp) ?_⟩
  rw[JM] at O;refine⟨_,rfl,a,nI t.ly,rfl,s2.sqT O,by unfold nI;rw[zp];omega,fun p1 Y h1 m1 m2=>?_⟩
  have T:=s2.trans (zb (H:=H2) (o:=.lst (Y.map V.int)) h1);have P3:=zc (H:=H2) (a:=p1) (o:=.lst (Y.map V.int));generalize upd H2 p1 (.lst (Y.map V.int))=H3 at T P3;refine⟨_,rfl,b,rfl,⟨_,T.sqT qb⟩,jJ (K:=K) (a:=b) (xs:=L) (fun i l N=>l=zn ((t.pk.take i).map (·.1))/\Same H3 N) ⟨rfl,ub _⟩ (fun i l N ⟨_,C⟩=>(T.trans C).sqT qb) ?_ ?_⟩
  ·rintro i x l N hx ⟨rfl,C⟩
   obtain⟨d,ed,rd⟩:=(rx.same (T.trans C)).get hx;rw[qv] at ed;obtain⟨p,ep,rfl⟩:=qJ.mp ed;obtain⟨pp,rfl,ab⟩:=qM rd;have il:=(zK.mp ep).1;refine⟨pp,_,rfl,ab,rfl,_,_,rfl,_,_,rfl,rfl,rfl,?_⟩
   refine⟨_,rfl,by rw[zu,zp,qi];omega,?_,C⟩
   rw[zL ep,zR];unfold zn;rw[zR];rfl
  rintro l N ⟨rfl,C⟩;rw[lx,qA,JM];refine⟨by unfold nI;rw[zp,zp,zp];omega,fun D2 a0=>?_⟩
  refine⟨D2,nI (t.pk.map (·.1)),rfl,u6 zc,by unfold nI;rw[zp,zp];omega,fun p2 ns h2 n1 n2=>?_⟩
  have s5:=(C.trans (zb (H:=N) (o:=.lst ((nI (t.pk.map (·.1))).map V.int)) a0)).trans (zb (o:=.lst (ns.map V.int)) h2)
  refine⟨p1,p2,Y,ns,rfl,rfl,u6 (s5 _ _ P3),u6 zc,?_⟩
  rw[je (zdq ((m1.trans (U.ly.map _)).trans n1.symm) m2 n2)];exact k _ (T.trans s5)
inductive W7(K:W.Frag)(f:List V)(H:Hp)(Q:VK):Prop
 | mk (e:Addr) (J:Job) (v:V) (t:zF) (_:f=[.ref e,v]) (_:Rep K H (xu J) (.ref e)) (_:Rep K H (qy t) v) (_:TripV J t) (_:J.hd<=4) (_:∀c,Same H c->Q (.bl true) c):W7 K f H Q
def zem(K:W.Frag):Sp:=fun c H Q _=>W7 K c H Q
theorem zev:zB ["job","thing","picks","lays"] ["job","thing"] (zq (topL 23)):=u0
theorem zfu{f:Addr}{N:FuncData}(F:Fun K "is_trip" "is_trip" (topL 23) f N)(B:Blt I)(e:Dfn P w K I G "is_tuple_of" 1 ["thing","many"] (WQ K))(g:Dfn P w K I G "are_picks" 4 ["job","thing"] (WW K))(l:Dfn P w K I G "are_lays" 4 ["job","thing","picks"] (zbo K)):FnOk P w K I G CX0 5 f N ["job","thing"] (zem K):=by
 have O:=zev.nd;refine F.ok zev (fun vs H Q E h=>?_) (fun a0 A M s H vs Q E D h=>?_)
 ·obtain⟨L,J,v,t,rfl,_⟩:=h
  rfl
 ·obtain⟨L,J,v,t,rfl,rj,rt,tv,C,k⟩:=h
  obtain⟨a,b,c,xs,ys,rfl,T,U,Y,qc,rc⟩:=qT rt;cases xr rc;refine⟨_,(ze (qI (xW (j5 (zg e D.m rfl (za (pv 1) (za zf zd)))))
   (zj (zw jF))
   zU)
   (ze (j6 (pv 1) (qF rfl (zr (zy (i:=2) O rfl (Or.inl rfl)) (zr (zy (i:=3) O rfl (Or.inl rfl)) qe))))
   (zj (zw (vO (zg g D.m rfl (za (pv 0) (za (pv 2) zd))) (vo (zg l D.m rfl (za (pv 0) (za (pv 3) (za (pv 2) zd)))))))))),?_⟩
  refine⟨_,rfl,a,_,rfl,T,_,rfl,ifF (by decide) ?_⟩
  refine⟨_,rfl,a,_,rfl,T,rfl,_,_,rfl,_,_,rfl,rfl,?_⟩
  refine⟨_,rfl,_,rfl,L,b,J,xs,t,rfl,rj,U,Y,tv,C,fun H1 s1=>?_⟩
  exact⟨_,rfl,ifT rfl ⟨_,rfl,_,rfl,_,rfl,L,c,b,J,xs,t,rfl,rj.same s1,s1.sqT qc,s1.sqT U,Y.same s1,tv,C,fun H2 s2=>k _ (s1.trans s2)⟩⟩
theorem Wk.rank{f:List (Int×Int)}{c:Int->Nat}(h:∀q∈f,c q.1<c q.2):∀{k:Nat} {a b:Int},Wk f k a b->c a+k<=c b
 | 0,a,b,e=>by cases(show a=b from e);exact zM _
 | k+1,a,b,⟨m,e,w⟩=>by
  have:=Wk.rank h w;have:c a<c m:=h (a,m) e;omega
end
def ye{α:Type}(f:Nat->Option α):Nat->Nat->Option (α×Nat)
 | _,0=>none
 | i,k+1=>match f i with
  | some w=>some (w,i)
  | none=>ye f (i+1) k
theorem Vj{α:Type}{f:Nat->Option α}:∀{k i:Nat},(∀j,i<=j->j<i+k->f j=none)->ye f i k=none
 | 0,_,_=>rfl
 | k+1,i,h=>by
  unfold ye;rw[h i (zM _) (by omega)]
  exact Vj fun j c e=>h j (by omega) (by omega)
theorem zcE{α:Type}{f:Nat->Option α}{w:α}{j:Nat}:∀{k i:Nat},i<=j->j<i+k->(∀m,i<=m->m<j->f m=none)->f j=some w->ye f i k=some (w,j)
 | 0,_,l,s,_,_=>by omega
 | k+1,i,l,s,c,g=>by
  unfold ye;by_cases e:i=j
  ·subst e
   rw[g]
  ·rw[c i (zM _) (by omega)]
   exact zcE (by omega) (by omega) (fun m a b=>c m (by omega) b) g
theorem wv{α:Type}{f:Nat->Option α}{n:Nat}(h:∀j,j<n->f j=none):ye f 0 n=none:=Vj fun j _ c=>h j (by omega)
theorem V1{α:Type}{f:Nat->Option α}{w:α}{n j:Nat}(c:j<n)(h:∀m,m<j->f m=none)(e:f j=some w):ye f 0 n=some (w,j):=zcE (qQ _) (by omega) (fun m _ b=>h m b) e
theorem vP{k:Nat}{l:List Nat}:(k:Int)∈nI l↔k∈l:=by
 unfold nI;rw[qz];exact⟨fun ⟨a,h,e⟩=>by rw[<- Qg e];exact h,fun h=>⟨k,h,rfl⟩⟩
theorem zeL(z:Int)(l:List Nat):inV (.int z) (zn l)=decide (z∈nI l):=by
 induction l with
 | nil=>rfl
 | cons a r c=>
  have e1:inV (.int z) (zn (a::r))=(decide ((a:Int)=z)||inV (.int z) (zn r)):=by
   show(((a:Int)==z)||inV (.int z) (zn r))=_
   rw[show((a:Int)==z)=decide ((a:Int)=z) from rfl]
  rw[e1,c];unfold nI;rw[qY,Zf,V8,yW,yW,yW,qm];exact or_congr_left ⟨Eq.symm,Eq.symm⟩
def UpA(J:Job)(p:Nat)(j:Int):Prop:=∃k,1<=k/\Wk (asI J) k j (p:Int)
def Q4(J:Job)(c g:List Nat)(p:Nat×Nat):Option Str:=match J.ps[p.1]?,J.fs[p.2]? with
 | some f,some e=>if e.k=f.k then if p.1∈c then some "twice" else if e.m<=(g.count p.2:Int) then some "empty" else none else some "kind"
 | _,_=>none
theorem ZN{J:Job}{c g:List Nat}{p:Nat×Nat}{f:Vx}{e:yZ}(l:J.ps[p.1]? =some f)(s:J.fs[p.2]? =some e):Q4 J c g p=if e.k=f.k then if p.1∈c then some ("twice":Str) else if e.m<=(g.count p.2:Int) then some ("empty":Str) else none else some ("kind":Str):=by
 unfold Q4;rw[l,s]
open Classical in
noncomputable def Vg (J:Job) (c:List Nat) (p:Nat):Option Str:=if ∀j,UpA J p j->j∈nI c then none else some "ahead"
def pkF(J:Job)(c e:List Nat)(t:zF)(i:Nat):Option Str:=(t.pk[i]?).bind fun p=>Q4 J c (e++(t.pk.take i).map (·.2)) p
noncomputable def lyF (J:Job) (c:List Nat) (t:zF) (i:Nat):Option Str:=(t.ly[i]?).bind fun p=>Vg J (c++t.ly.take i) p
theorem VP{J:Job}{ord tk:List Nat}{t:zF}{i:Nat}{p:Nat×Nat}(h:t.pk[i]? =some p):pkF J ord tk t i=Q4 J ord (tk++(t.pk.take i).map (·.2)) p:=by unfold pkF;rw[h];rfl
theorem VY{J:Job}{ord:List Nat}{t:zF}{i:Nat}{p:Nat}(h:t.ly[i]? =some p):lyF J ord t i=Vg J (ord++t.ly.take i) p:=by unfold lyF;rw[h];rfl
noncomputable def flT (J:Job) (c e:List Nat) (t:zF):Option (Str×Nat):=match ye (pkF J c e t) 0 t.pk.length with
 | some x=>some x
 | none=>(ye (lyF J c t) 0 t.ly.length).map fun x=>(x.1,t.pk.length+x.2)
theorem zcH{J:Job}{c f:List Nat}{t:zF}{w:Str}{j:Nat}(g:j<t.pk.length)(h:∀m,m<j->pkF J c f t m=none)(e:pkF J c f t j=some w):flT J c f t=some (w,j):=by
 unfold flT;rw[V1 g h e]
theorem zd0{J:Job}{c f:List Nat}{t:zF}{w:Str}{j:Nat}(g:∀m,m<t.pk.length->pkF J c f t m=none)(l:j<t.ly.length)(h:∀m,m<j->lyF J c t m=none)(e:lyF J c t j=some w):flT J c f t=some (w,t.pk.length+j):=by
 unfold flT;rw[wv g,V1 l h e];rfl
theorem YK{J:Job}{c e:List Nat}{t:zF}(f:∀m,m<t.pk.length->pkF J c e t m=none)(h:∀m,m<t.ly.length->lyF J c t m=none):flT J c e t=none:=by
 unfold flT;rw[wv f,wv h];rfl
def j3(c:List zF):List Nat:=(zI c).map (·.2)
noncomputable def flF (J:Job) (c:List zF) (i:Nat):Option (Str×Nat):=(c[i]?).bind fun t=>flT J (zo (c.take i)) (j3 (c.take i)) t
theorem JU{J:Job}{c:List zF}{i:Nat}{t:zF}(h:c[i]? =some t):flF J c i=flT J (zo (c.take i)) (j3 (c.take i)) t:=by unfold flF;rw[h];rfl
noncomputable def Z4 (J:Job) (c:List zF):Option ((Str×Nat)×Nat):=ye (flF J c) 0 c.length
def flD:Option ((Str×Nat)×Nat)->Dat
 | none=>.non
 | some x=>.tup [.str x.1.1,.int (x.2:Int),.int (x.1.2:Int)]
theorem Ve{c:List zF}{i:Nat}{t:zF}(h:c[i]? =some t):zo (c.take (i+1))=zo (c.take i)++t.ly:=by rw[zL h,jB]
theorem zan{c:List zF}{i:Nat}{t:zF}(h:c[i]? =some t):j3 (c.take (i+1))=j3 (c.take i)++t.pk.map (·.2):=by unfold j3;rw[zL h,vm,zR]
theorem YB{J:Job}:∀{ts:List zF},(∀t∈ts,TripV J t)->J.hd<=4->(zo ts).length<=4*ts.length/\(j3 ts).length<=4*ts.length
 | [],_,_=>⟨zM _,zM _⟩
 | t::r,h,e=>by
  obtain⟨a,b⟩:=YB (fun u hu=>h u (jn _ hu)) e
  have c:=h t jz;have:=c.p2;have:=c.le;have e1:zo (t::r)=t.ly++zo r:=rfl;have e2:j3 (t::r)=t.pk.map (·.2)++j3 r:=by unfold j3;rw[<- zR];rfl
  rw[e1,e2,zZ,zZ,zp,xh];omega
def rkO(c:List Nat)(i:Int):Nat:=c.idxOf i.toNat
theorem JP{c:List Nat}(s:c.Nodup){k x:Nat}(e:c[k]? =some x):c.idxOf x=k:=by
 obtain⟨w,g⟩:=zK.mp e;have f:=WC (qq e);have l:c[c.idxOf x]'f=x:=List.getElem_idxOf f;exact(Ql s).mp (l.trans g.symm)
theorem zey{J:Job}{os:List Nat}(e:os.Nodup)(f:ByOrd os J.as):∀q∈asI J,rkO os q.1<rkO os q.2:=fun q hq=>by
 obtain⟨p,hp,rfl⟩:=qz.mp hq;obtain⟨k,l,c,e1,e2⟩:=f p hp;show os.idxOf ((p.1:Int)).toNat<os.idxOf ((p.2:Int)).toNat;rw[yq,yq,JP e e1,JP e e2];exact c
theorem zbO{J:Job}{c:List Nat}(e:JobOk J c):∀q∈asI J,rkO c q.1<rkO c q.2:=zey (e.op.nodup_iff.mpr Zg) e.bo
theorem UpA.of{J:Job}{c:List Nat}(f:JobOk J c){p:Nat}{j:Int}:(j≠(p:Int)/\∃k,Wk (asI J) k j (p:Int))↔UpA J p j:=by
 constructor
 ·rintro⟨h,k,w⟩
  refine⟨k,?_,w⟩
  cases k with
  | zero=>exact absurd (show j=(p:Int) from w) h
  | succ k=>omega
 ·rintro⟨k,h,w⟩
  refine⟨fun e=>?_,k,w⟩
  have:=w.rank (zbO f);rw[e] at this;omega
theorem PlanOk.up{J:Job}{os:List Nat}{c:List zF}(f:PlanOk J os c){p:Nat}:∀{k:Nat} {j:Int},Wk (asI J) k j (p:Int)->p∈zo c->j∈nI (zo c)
 | 0,j,w,hp=>by
  cases(show j=(p:Int) from w)
  exact vP.mpr hp
 | k+1,j,⟨m,e,w⟩,hp=>by
  have h:=PlanOk.up f w hp;obtain⟨q,hq,eq⟩:=qz.mp e;cases eq;exact vP.mpr (f.cl q hq (vP.mp h))
theorem ZG{os l:List Nat}(s:l.Sublist os)(g:os.Nodup){i x y:Nat}(hx:l[i]? =some x)(hy:y∈l)(h:os.idxOf y<os.idxOf x):y∈l.take i:=by
 obtain⟨j,c⟩:=xP.mp hy;by_cases e:j<i
 ·exact xP.mpr ⟨j,by rw[Qm,zC e];exact c⟩
 ·exfalso
  obtain⟨I,C⟩:=zK.mp hx;obtain⟨J,f⟩:=zK.mp c;by_cases e2:i=j
  ·subst e2
   rw[C] at f;subst f;omega
  ·have D:i<j:=by omega
   have s2:[x,y].Sublist os:=by
    refine List.Sublist.trans ?_ s
    have a1:l=l.take j++l.drop j:=(xi j l).symm;rw[a1,show [x,y]=[x]++[y] from rfl]
    refine List.Sublist.append (Xn.mpr (xP.mpr ⟨i,by rw[Qm,zC D];exact hx⟩)) (Xn.mpr (xP.mpr ⟨0,by rw[Xh];exact c⟩))
   obtain⟨a,b,A,B,hb⟩:=List.append_sublist_iff.mp (show([x]++[y]).Sublist os from s2)
   have w:x∈a:=Xn.mp B;have H:y∈b:=Xn.mp hb;rw[A] at g h;obtain⟨L,M,E⟩:=Qc.mp g;have G:y∉a:=fun z=>E y z y H rfl
   rw[List.idxOf_append,zv G,List.idxOf_append,zC w] at h;have:=WC w;omega
theorem Zy{c:List zF}:∀{i j p:Nat} {t:zF},c[i]? =some t->t.ly[j]? =some p->∃m,(zo c)[m]? =some p/\(zo c).take m=zo (c.take i)++t.ly.take j:=fun {i j p t} e1 e2=>by
 have f:c=c.take i++t::c.drop (i+1):=by
  obtain⟨l,rfl⟩:=zK.mp e1;rw[List.getElem_cons_drop,xi]
 have e:zo c=zo (c.take i)++(t.ly++zo (c.drop (i+1))):=by
  rw (config:={occs:=.pos [1]}) [f];unfold zo;rw[wb,List.flatMap_cons]
 have g:=(zK.mp e2).1;refine⟨(zo (c.take i)).length+j,?_,?_⟩
 ·rw[e,xQ (by omega),Nat.add_sub_cancel_left,xH g]
  exact e2
 ·rw[e,List.take_length_add_append,zc5 (by omega)]
theorem zed{c:List zF}{i j:Nat}{t:zF}{p:Nat×Nat}(e1:c[i]? =some t)(e2:t.pk[j]? =some p)(f:Nat):(j3 (c.take i)++(t.pk.take (j+1)).map (·.2)).count f<=(j3 c).count f:=by
 have e:c=c.take i++t::c.drop (i+1):=by
  obtain⟨l,rfl⟩:=zK.mp e1;rw[List.getElem_cons_drop,xi]
 have g:j3 c=j3 (c.take i)++(t.pk.map (·.2)++j3 (c.drop (i+1))):=by
  rw (config:={occs:=.pos [1]}) [e];unfold j3 zI;rw[wb,List.flatMap_cons,zR,zR]
 rw[g];have s:((t.pk.take (j+1)).map (·.2)).Sublist (t.pk.map (·.2)):=(Wd _ _).map _
 rw[wC,wC,wC];have:=s.count_le f;omega
theorem yf{J:Job}{H os:List Nat}{e:List zF}(jo:JobOk J H)(s:PlanOk J os e)(pm:os.Perm (List.range J.ps.length))(O:ByOrd os J.as):Z4 J e=none:=by
 have E:os.Nodup:=pm.nodup_iff.mpr Zg;have G:(zo e).Nodup:=E.sublist s.sub;unfold Z4;refine wv fun i U=>?_
 have g:e[i]? =some e[i]:=qP U;generalize e[i]=t at g;have A:=s.tr t (qq g);rw[JU g];refine YK (fun j C=>?_) (fun j C=>?_)
 ·have f:t.pk[j]? =some t.pk[j]:=qP C
  generalize t.pk[j]=p at f;obtain⟨pa,L,M,B,Q⟩:=A.ok p (qq f);have n1:¬p.1∈zo (e.take i):=fun Y=>by
   obtain⟨m,D⟩:=xP.mp (A.ly.mem_iff.mpr (qz.mpr ⟨p,qq f,rfl⟩));obtain⟨q,e1,e2⟩:=Zy g D;have T:p.1∈(zo e).take q:=by rw[e2];exact jA _ Y
   obtain⟨r,l⟩:=xP.mp T;rw[Qm] at l;split at l
   ·have:=(List.getElem?_inj (zK.mp l).1 G).mp (l.trans e1.symm)
    omega
   ·cases l
  have n2:¬L.m<=(((j3 (e.take i)++(t.pk.take j).map (·.2)).count p.2:Nat):Int):=by
   obtain⟨st,I⟩:=s.stk;have N:p.2<st.length:=by rw[I.len];exact(zK.mp B).1
   have a:=I.nn p.2 _ (qP N);have b:=I.cnt p.2 _ L (qP N) B;have c:=zed g f p.2;rw[zL f,zR,<- xG,wC,show([p].map (·.2)).count p.2=1 from Wz] at c
   have d:(j3 e).count p.2=((zI e).map (·.2)).count p.2:=rfl
   omega
  rw[VP f,ZN M B,zC Q,zv n1,zv n2]
 ·have f:t.ly[j]? =some t.ly[j]:=qP C
  generalize t.ly[j]=p at f;rw[VY f];unfold Vg;rw[zC];rintro x ⟨k,M,w⟩;obtain⟨q,e1,e2⟩:=Zy g f;have hx:=s.up w (qq e1);obtain⟨y,hy,rfl⟩:=qz.mp hx;have rk:=w.rank (zey E O);rw[<- e2];refine vP.mpr (ZG s.sub E e1 hy ?_)
  have a:rkO os (y:Int)=os.idxOf y:=by unfold rkO;rw[yq]
  have b:rkO os (p:Int)=os.idxOf p:=by unfold rkO;rw[yq]
  omega
end L2
namespace L2
open PySem PySem.Spec PyProof.Rows
def zgF:Option Str->V
 | none=>.non
 | some w=>.str w
theorem zcP(l:List Nat)(f:Nat):(nI l).count (f:Int)=l.count f:=by
 unfold nI;induction l with
 | nil=>rfl
 | cons x l c=>
  rw[qY,Qi,Qi,c];by_cases h:x=f
  ·simp[h]
  ·have:¬(x:Int)=(f:Int):=by omega
   simp[h,this]
theorem JobOk.ain{J:Job}{e:List Nat}(c:JobOk J e):∀q∈asI J,InN J.ps.length q.1/\InN J.ps.length q.2:=fun q hq=>by
 unfold asI at hq;obtain⟨p,hp,rfl⟩:=qz.mp hq;have f:=xD.mp (c.op.mem_iff.mp (c.bo.mem1 hp));have g:=xD.mp (c.op.mem_iff.mp (c.bo.mem2 hp));exact⟨⟨by show(0:Int)<=(p.1:Int);omega,by show(p.1:Int)<_;omega⟩,⟨by show(0:Int)<=(p.2:Int);omega,by show(p.2:Int)<_;omega⟩⟩
section
variable{P:Program}{w:World}{K:W.Frag}{G:Str->Option Value}{C:Heap}
inductive zbu(K:W.Frag)(s:List V)(H:Hp)(Q:VK):Prop
 | mk (e g lo f:Addr) (J:Job) (p:Nat×Nat) (c l:List Nat) (_:s=[.ref e,.ref g,.ref lo,.ref f]) (_:Rep K H (xu J) (.ref e)) (_:SqT K H g [.int (p.1:Int),.int (p.2:Int)]) (_:p.1<J.ps.length) (_:p.2<J.fs.length) (_:SqL K H lo (zn c)) (_:H f=some (.lst (zn l))) (_:Q (zgF (Q4 J c l p)) H):zbu K s H Q
def zgb(K:W.Frag):Sp:=fun c H Q _=>zbu K c H Q
theorem zgr:zB ["job","pick","picked","taken","part","feeder","kind","place","many"] ["job","pick","picked","taken"] (zq (topL 15)):=u0
theorem zgS{f:Addr}{fd:FuncData}(F:Fun K "flaw_at_pick" "flaw_at_pick" (topL 15) f fd)(B:Blt G):FnOk P w K G C CX0 1 f fd ["job","pick","picked","taken"] (zgb K):=by
 have l:=zgr.nd;refine F.ok zgr (fun vs H Q E h=>?_) (fun ag A U s H vs Q E hr h=>?_)
 ·obtain⟨T,pk,lo,lt,J,p,D,tk,rfl,_⟩:=h
  rfl
 ·obtain⟨T,pk,lo,lt,J,p,D,tk,rfl,rj,qp,hp,hf,ho,ht,k⟩:=h
  have N:J.ps[p.1]? =some J.ps[p.1]:=qP hp;have O:J.fs[p.2]? =some J.fs[p.2]:=qP hf;generalize J.ps[p.1]=Y at N;generalize J.fs[p.2]=M at O;rw[ZN N O] at k;obtain⟨g,fs,ps,as,fv,px,qj,_,qf,rf,ac,rp,_⟩:=yH rj;obtain⟨ah,I,ae⟩:=Z9 rf O;obtain⟨fa,fc,rfl,aa,_⟩:=ww ae;obtain⟨aj,L,af⟩:=Z9 rp N;obtain⟨a0,ai,rfl,ab,_⟩:=yD af;refine⟨_,(ze (j6 (pv 1) (qF rfl (zr (zy (i:=4) l rfl (Or.inl rfl)) (zr (zy (i:=5) l rfl (Or.inl rfl)) qe))))
   (ze (j6 (zx zN (zx zN (pv 0) zf (fun _ _=>rfl)) (pv 5) (fun _ _=>rfl)) (qF rfl (zr (zy (i:=6) l rfl (Or.inl rfl)) (zr (zy (i:=7) l rfl (Or.inl rfl)) (zr (zy (i:=8) l rfl (Or.inl rfl)) qe)))))
   (ze (qI (zJ zcc (pv 6) (zx zN (zx zN (zx zN (pv 0) zf (fun _ _=>rfl)) (pv 4) (fun _ _=>rfl)) zf (fun _ _=>rfl)) (zO _))
   (zj (zw wL))
   zU)
   (ze (qI (zJ wn (pv 4) (pv 2) (by with_unfolding_all rfl))
   (zj (zw wL))
   zU)
   (ze (qI (zJ zeG (xc xj PySem.F.slot_list_count PySem.F.type_list_count Ja (pv 3) (za (pv 5) zd)) (pv 8) (zO _))
   (zj (zw wL))
   zU)
   (zj (zw xX))))))),?_⟩
  refine⟨_,rfl,pk,_,rfl,qp,rfl,_,_,rfl,_,_,rfl,rfl,?_⟩
  refine⟨_,rfl,T,_,_,_,rfl,rfl,qj,rfl,_,rfl,fs,_,_,_,rfl,rfl,qf,zQ I,fa,_,rfl,aa,rfl,_,_,rfl,_,_,rfl,_,_,rfl,rfl,?_⟩
  refine⟨_,rfl,_,rfl,T,_,_,_,rfl,rfl,qj,rfl,_,rfl,ps,_,_,_,rfl,rfl,ac,zQ L,a0,_,_,_,rfl,rfl,ab,rfl,rfl,_,rfl,jC (fun c=>?_) (fun c=>?_)⟩
  ·have:¬M.k=Y.k:=fun e=>by
    rw[e] at c;simp at c
   rw[zv this] at k;exact k
  ·have:M.k=Y.k:=by
    have:V.str M.k=V.str Y.k:=by simpa using c
    exact V.str.inj this
   rw[zC this] at k;refine⟨_,rfl,_,rfl,lo,zn D,rfl,.inl ho,rfl,jr _,_,rfl,jC (fun c=>?_) (fun c=>?_)⟩
   ·rw[wu] at c
    rw[zC (xF c)] at k;exact k
   ·rw[wu] at c
    rw[zv (by simpa using c)] at k
    refine⟨_,rfl,.inl ⟨rfl,_,u6 ht⟩,_,rfl,lt,nI tk,(p.2:Int),rfl,rfl,by rw[ht,JM],_,rfl,_,_,rfl,rfl,_,rfl,jC (fun c=>?_) (fun c=>?_)⟩
    ·rw[zcP] at c
     rw[zC (xF c)] at k;exact k
    ·rw[zcP] at c
     rw[zv (fun z=>c (je z))] at k
     exact k
inductive zbw(K:W.Frag)(g:List V)(H:Hp)(Q:VK):Prop
 | mk (f lo:Addr) (J:Job) (l c:List Nat) (p:Nat) (_:g=[.ref f,.int (p:Int),.ref lo]) (_:Rep K H (xu J) (.ref f)) (_:JobOk J l) (_:p<J.ps.length) (_:SqL K H lo (zn c)) (_:∀e,Same H e->Q (zgF (Vg J c p)) e):zbw K g H Q
def zgc(K:W.Frag):Sp:=fun c H Q _=>zbw K c H Q
theorem zgt:zB ["job","part","order"] ["job","part","order"] (zq (topL 16)):=u0
theorem all_map{α:Type}{l:List α}{f:α->Bool}:(l.map f).all id=l.all f:=by rw[List.all_map];rfl
theorem zgU{f:Addr}{fd:FuncData}(F:Fun K "flaw_at_lay" "flaw_at_lay" (topL 16) f fd)(B:Blt G)(e:Dfn P w K G C "ahead_of" 3 ["job","part"] (JF K)):FnOk P w K G C CX0 4 f fd ["job","part","order"] (zgc K):=by
 have nd:=zgt.nd;refine F.ok zgt (fun vs H Q E h=>?_) (fun aa A U s H vs Q E hr h=>?_)
 ·obtain⟨jp,lo,J,od,g,p,rfl,_⟩:=h
  rfl
 ·obtain⟨jp,lo,J,od,g,p,rfl,rj,L,hp,ho,k⟩:=h
  have a0:=bG100000;refine⟨_,(ze (qI (j5 (zt (vb rfl) rfl B.all boot_all (za (jS ["order"] [2] rfl rfl (by kernel_rfl) (qW (zg e hr.m rfl (za (pv 0) (za (pv 1) zd)))) (fun _ _ _ _=>qG) (fun _ _ _ _=>(qX (vp (K:=K) rfl) (pv 0) (pv 1) (by with_unfolding_all rfl)))) zd)))
   (zj (zw xX))
   zU)
   (zj (zw wL))),?_⟩
  refine⟨_,rfl,_,rfl,(p:Int),jp,J,rfl,rj,L.pl,⟨by omega,by omega⟩,L.ain,L.al,fun l I H1 s1 _ hl ml _ mm=>⟨l,rfl,⟨_,u6 hl⟩,vw (K:=K) (a:=l) (xs:=I.map V.int) (fun i T O=>T=((I.take i).map fun j=>decide (j∈nI g)).map V.bl/\Same H1 O) ⟨rfl,ub _⟩ (fun i T O ⟨_,s2⟩=>u6 (s2 _ _ hl)) ?_ ?_⟩⟩
  ·rintro i x T O hx ⟨rfl,s2⟩
   rw[qv] at hx;obtain⟨j,Y,rfl⟩:=qJ.mp hx;have hi:=(zK.mp Y).1;refine⟨rfl,_,rfl,_,rfl,lo,zn g,rfl,.inl ((s1.trans s2).seq ho),rfl,jr _,by rw[zp,zp,qi];omega,?_,s2⟩
   rw[zL Y,zR,zR,zeL];rfl
  ·rintro T O ⟨rfl,s2⟩
   have et:I.take (I.map V.int).length=I:=by rw[zp,qA]
   rw[et];refine⟨by rw[zp,zp];omega,fun D hD=>⟨D,I.map fun j=>decide (j∈nI g),rfl,u6 zc,?_⟩⟩
   have s3:=s1.trans (s2.trans (zb (o:=.lst ((I.map fun j=>decide (j∈nI g)).map V.bl)) hD))
   have M:((I.map fun j=>decide (j∈nI g)).all id=true)↔∀j,UpA J p j->j∈nI g:=by
    rw[all_map,xO];constructor
    ·intro h j u
     exact xF (h j ((mm j).mpr ((UpA.of L).mpr u)))
    ·intro h j hj
     exact je (h j ((UpA.of L).mp ((mm j).mp hj)))
   have N:=k _ s3;unfold Vg at N;refine⟨_,rfl,jC (fun c=>?_) (fun c=>?_)⟩
   ·rw[zC (M.mp c)] at N
    exact N
   ·rw[zv (fun z=>c (M.mpr z))] at N
    exact N
theorem JZ(c:List V)(k:Nat):z7 c none (some (k:Int))=c.take k:=by
 unfold z7;rw[HT.sIx_none,HT.sIx_nat,List.drop_zero,Nat.sub_zero];by_cases h:k<=c.length
 ·rw[Nat.min_eq_left h]
 ·rw[Nat.min_eq_right (by omega),qA,Qq (by omega)]
theorem x9(a b:List Nat):zn a++zn b=zn (a++b):=by unfold zn;rw[zR]
theorem wt(a:List Nat)(k:Nat):(zn a).take k=zn (a.take k):=by unfold zn;rw[yQ]
def FlV(K:W.Frag)(H:Hp)(o:Option (Str×Nat))(v:V):Prop:=match o with
 | none=>v=.non
 | some x=>∃a,v=.ref a/\SqT K H a [.str x.1,.int (x.2:Int)]
inductive zbt(K:W.Frag)(A:List V)(H:Hp)(Q:VK):Prop
 | mk (g s lo l:Addr) (J:Job) (B c f:List Nat) (t:zF) (_:A=[.ref g,.ref s,.ref lo,.ref l]) (_:Rep K H (xu J) (.ref g)) (_:JobOk J B) (_:Rep K H (qy t) (.ref s)) (_:TripV J t) (_:H lo=some (.lst (zn c))) (_:H l=some (.lst (zn f))) (_:c.length<=1000) (_:f.length<=1000) (_:∀(v:V) e,Same H e->FlV K e (flT J c f t) v->Q v e):zbt K A H Q
def zga(K:W.Frag):Sp:=fun c H Q _=>zbt K c H Q
theorem zgq:zB ["job","trip","order","taken","picks","lays","feeders","at","pick","word","part"] ["job","trip","order","taken"] (zq (topL 17)):=u0
def Y0(l:_)(D:_)(lo:_)(A:_)(b:_)(c:_)(s:_)(g:_)(J:_)(e:_)(B:_)(t:_):=fun(i:Nat) (σ:St) (f:Hp)=>(Ex3 fun(E H I:Option V)=>An3 (σ=[some (.ref l),some (.ref D),some (.ref lo),some (.ref A),some (.ref b),some (.ref c),some (.ref s),E,H,I,none]) (Same g f) (∀m,m<i->pkF J e B t m=none):Prop)
def YZ(s:_)(D:_)(lo:_)(B:_)(b:_)(c:_)(A:_)(H:_)(l:_)(J:_)(e:_)(t:_):=fun(i:Nat) (σ:St) (g:Hp)=>(Ex3 fun(E I f:Option V)=>An3 (σ=[some (.ref s),some (.ref D),some (.ref lo),some (.ref B),some (.ref b),some (.ref c),some (.ref A),E,H,I,f]) (Same l g) (∀m,m<i->lyF J e t m=none):Prop)
theorem zgR{f:Addr}{fd:FuncData}(F:Fun K "flaw_in_trip" "flaw_in_trip" (topL 17) f fd)(B:Blt G)(D:Dfn P w K G C "flaw_at_pick" 1 ["job","pick","picked","taken"] (zgb K))(I:Dfn P w K G C "flaw_at_lay" 4 ["job","part","order"] (zgc K)):FnOk P w K G C CX0 5 f fd ["job","trip","order","taken"] (zga K):=by
 have N:=zgq.nd;refine F.ok zgq (fun vs H Q E h=>?_) (fun ai A af s H vs Q E hr h=>?_)
 ·obtain⟨jp,tp,lo,lt,J,od,g,M,t,rfl,_⟩:=h
  rfl
 ·obtain⟨jp,tp,lo,lt,J,od,g,M,t,rfl,rj,jo,rt,tv,ho,ht,ol,tl,k⟩:=h
  have ah:=bG100000;have aj:=jo.hd1;have al:=tv.p2;have ak:=tv.le;obtain⟨a,b,c,ps,ys,ea,qa,qb,rb,qc,rc⟩:=qT rt;cases ea;cases xr rc;have lb:=rb.len;rw[zp] at lb;refine⟨_,(ze (j6 (pv 1) (qF rfl (zr (zy (i:=4) N rfl (Or.inl rfl)) (zr (zy (i:=5) N rfl (Or.inl rfl)) qe))))
   (ze (VM [] [] rfl rfl (by kernel_rfl) (jt (pv 4)) (fun _ _ _ _=>qG) (fun _ _ _ _=>(pv 1)) (zy (i:=6) N rfl (Or.inl rfl)))
   (ze (qR jy rfl (wZ rfl B.enumerate (za (pv 4) zd)) (qF rfl (zr (zy (i:=7) N rfl (Or.inl rfl)) (zr (zy (i:=8) N rfl (Or.inl rfl)) qe)))
   (ze (zG (i:=9) N rfl (Or.inl rfl) (zg D hr.m rfl (za (pv 0) (za (pv 8) (za (pv 2) (za (zA xA (pv 3) (jc jP (pv 6) jQ (jv (pv 7)))) zd))))))
    (zj (qI (zJ Zv (pv 9) xX (zO _))
    (zj (zw (qS (za (pv 9) (za (pv 7) zd)))))
    zU))))
   (ze (qR jy rfl (wZ rfl B.enumerate (za (pv 5) zd)) (qF rfl (zr (zy (i:=7) N rfl (Or.inl rfl)) (zr (zy (i:=10) N rfl (Or.inl rfl)) qe)))
   (ze (zG (i:=9) N rfl (Or.inl rfl) (zg I hr.m rfl (za (pv 0) (za (pv 10) (za (zA xA (pv 2) (qL yi rfl B.list vd (za (jc ze0 (pv 5) jQ (jv (pv 7))) zd))) zd)))))
    (zj (qI (zJ Zv (pv 9) xX (zO _))
    (zj (zw (qS (za (pv 9) (za (zA qh (zt zD rfl B.len boot_len (za (pv 4) zd)) (pv 7)) zd)))))
    zU))))
   (zj (zw xX)))))),?_⟩
  refine⟨_,rfl,tp,_,rfl,qa,rfl,_,_,rfl,_,_,rfl,rfl,?_⟩
  refine⟨_,rfl,b,rfl,⟨_,qb⟩,jJ (K:=K) (a:=b) (xs:=ps) (fun i zs H1=>zs=zn ((t.pk.take i).map (·.2))/\Same H H1) ⟨rfl,ub _⟩ (fun i zs H1 ⟨_,s1⟩=>s1.sqT qb) ?_ ?_⟩
  ·rintro i x zs H1 hx ⟨rfl,s1⟩
   obtain⟨d,ed,rd⟩:=(rb.same s1).get hx;rw[qv] at ed;obtain⟨p,L,rfl⟩:=qJ.mp ed;obtain⟨pp,rfl,aa⟩:=qM rd;have hi:=(zK.mp L).1;refine⟨pp,_,rfl,aa,rfl,_,_,rfl,_,_,rfl,rfl,rfl,?_⟩
   refine⟨_,rfl,by rw[zu,zp,qi];omega,?_,s1⟩
   rw[zL L,zR,<- x9];rfl
  rintro zs H1 ⟨rfl,s1⟩;rw[lb,qA];refine⟨by rw[zu,zp];omega,fun lf ae=>?_⟩
  have s2:=s1.trans (zb (o:=.lst (zn (t.pk.map (·.2)))) ae)
  have LF:upd H1 lf (.lst (zn (t.pk.map (·.2)))) lf=some (.lst (zn (t.pk.map (·.2)))):=zc
  generalize upd H1 lf (.lst (zn (t.pk.map (·.2))))=H2 at s2 LF
  refine⟨_,rfl,b,rfl,⟨_,s2.sqT qb⟩,Jh (K:=K) (a:=b) (xs:=ps) (Y0 jp tp lo lt b c lf H2 J g M t) ⟨_,_,_,rfl,ub _,(fun m h=>absurd h (yR _))⟩ (fun i σ H' _ ⟨_,_,_,_,s3,_⟩=>s3.sqT (s2.sqT qb)) ?_ ?_⟩
  ·rintro i x σ H3 T hx ⟨v7,v8,v9,rfl,s3,nn⟩ hT
   have sT:=s3.trans (zb (o:=.tup [.int (i:Int),x]) hT);have Y:=s2.trans sT;obtain⟨d,ed,rd⟩:=(rb.same Y).get hx;rw[qv] at ed;obtain⟨p,L,rfl⟩:=qJ.mp ed;obtain⟨pp,rfl,aa⟩:=qM rd;have hi:=(zK.mp L).1;have ac:=tv.ok p (qq L);refine⟨T,_,rfl,ua zc,rfl,_,_,rfl,_,_,rfl,rfl,?_⟩
   generalize upd H3 T (.tup [.int (i:Int),.ref pp])=H4 at *
   refine⟨_,rfl,_,rfl,_,rfl,_,rfl,_,rfl,_,rfl,_,rfl,lf,_,rfl,u6 (sT _ _ LF),fun q hq=>⟨lt,q,_,_,rfl,rfl,(Y.trans (zb hq)) _ _ ht,zc,by rw[JZ,wt,zu,zu,qi,zp];omega,fun O a0=>?_⟩⟩
   have s5:=(zb (o:=.lst (z7 (zn (t.pk.map (·.2))) none (some (i:Int)))) hq).trans (zb (o:=.lst (zn M++z7 (zn (t.pk.map (·.2))) none (some (i:Int)))) a0)
   have L5:upd (upd H4 q (.lst (z7 (zn (t.pk.map (·.2))) none (some (i:Int))))) O (.lst (zn M++z7 (zn (t.pk.map (·.2))) none (some (i:Int)))) O=some (.lst (zn (M++(t.pk.take i).map (·.2)))):=by rw[zc,JZ,wt,x9,yQ]
   generalize upd (upd H4 q (.lst (z7 (zn (t.pk.map (·.2))) none (some (i:Int))))) O (.lst (zn M++z7 (zn (t.pk.map (·.2))) none (some (i:Int))))=H5 at s5 L5
   have s6:=Y.trans s5;refine⟨jp,pp,lo,O,J,p,g,M++(t.pk.take i).map (·.2),rfl,rj.same s6,s5.sqT aa,ac.1,ac.2,u6 (s6 _ _ ho),L5,?_⟩
   have e:=VP (J:=J) (ord:=g) (tk:=M) L;cases hw:Q4 J g (M++(t.pk.take i).map (·.2)) p with
   | none=>
    rw[hw] at e;refine⟨_,rfl,rfl,_,rfl,ifF rfl ⟨_,_,_,rfl,sT.trans s5,fun m hm=>?_⟩⟩
    by_cases h:m<i
    ·exact nn m h
    ·rw[show m=i by omega];exact e
   | some wd=>
    rw[hw] at e;refine⟨_,rfl,rfl,_,rfl,ifT rfl ⟨_,rfl,_,rfl,le2,fun a ha=>k _ _ (s6.trans (zb ha)) ?_⟩⟩
    rw[zcH hi nn e];exact⟨a,rfl,ua zc⟩
  rintro σ H3 ⟨v7,v8,v9,rfl,s3,nn⟩;rw[lb] at nn;have U:=s2.trans s3;refine⟨_,rfl,c,rfl,⟨_,U.sqT qc⟩,Jh (K:=K) (a:=c) (xs:=zn t.ly) (YZ jp tp lo lt b c lf v8 H3 J g t) ⟨_,_,_,rfl,ub _,(fun m h=>absurd h (yR _))⟩ (fun i σ H' _ ⟨_,_,_,_,Y,_⟩=>Y.sqT (U.sqT qc)) ?_ ?_⟩
  ·rintro i x σ H4 T hx ⟨v7,v9,ag,rfl,Y,nl⟩ hT
   obtain⟨p,L,rfl⟩:=j7 hx;have hi:=(zK.mp L).1;have sT:=Y.trans (zb (o:=.tup [.int (i:Int),.int (p:Int)]) hT);have s5:=U.trans sT;have hp:p<J.ps.length:=by
    obtain⟨u,hu,rfl⟩:=qz.mp (tv.ly.mem_iff.mp (qq L));exact(tv.ok u hu).1
   refine⟨T,_,rfl,ua zc,rfl,_,_,rfl,_,_,rfl,rfl,?_⟩
   generalize upd H4 T (.tup [.int (i:Int),.int (p:Int)])=H5 at *
   have ab:¬(HT.sIx (zn t.ly).length 0 none=0/\HT.sIx (zn t.ly).length (zn t.ly).length (some (i:Int))=(zn t.ly).length):=fun z=>by
    have z2:=z.2;rw[HT.sIx_nat,zu] at z2;omega
   refine⟨_,rfl,_,rfl,_,rfl,_,rfl,_,rfl,_,rfl,c,_,rfl,s5.sqT qc,ab,fun q hq=>⟨q,_,rfl,.inr (ua zc),fun l hl=>⟨lo,l,_,_,rfl,rfl,((s5.trans (zb hq)).trans (zb hl)) _ _ ho,zc,by rw[JZ,wt,zu,zu,qi];omega,fun O a0=>?_⟩⟩⟩
   have s6:=((zb (o:=.tup (z7 (zn t.ly) none (some (i:Int)))) hq).trans (zb (o:=.lst (z7 (zn t.ly) none (some (i:Int)))) hl)).trans (zb (o:=.lst (zn g++z7 (zn t.ly) none (some (i:Int)))) a0);have L6:upd (upd (upd H5 q (.tup (z7 (zn t.ly) none (some (i:Int))))) l (.lst (z7 (zn t.ly) none (some (i:Int))))) O (.lst (zn g++z7 (zn t.ly) none (some (i:Int)))) O=some (.lst (zn (g++t.ly.take i))):=by rw[zc,JZ,wt,x9]
   generalize upd (upd (upd H5 q (.tup (z7 (zn t.ly) none (some (i:Int))))) l (.lst (z7 (zn t.ly) none (some (i:Int))))) O (.lst (zn g++z7 (zn t.ly) none (some (i:Int))))=H6 at s6 L6;have s7:=s5.trans s6;refine⟨jp,O,J,od,g++t.ly.take i,p,rfl,rj.same s7,jo,hp,u6 L6,fun H7 s8=>?_⟩
   have e:=VY (J:=J) (ord:=g) L;cases hw:Vg J (g++t.ly.take i) p with
   | none=>
    rw[hw] at e;refine⟨_,rfl,rfl,_,rfl,ifF rfl ⟨_,_,_,rfl,(sT.trans s6).trans s8,fun m hm=>?_⟩⟩
    by_cases h:m<i
    ·exact nl m h
    ·rw[show m=i by omega];exact e
   | some wd=>
    rw[hw] at e;have s9:=s7.trans s8;refine⟨_,rfl,rfl,_,rfl,ifT rfl ⟨_,rfl,_,rfl,b,_,rfl,.inr (s9.sqT qb),_,rfl,_,_,rfl,rfl,le2,fun a ha=>k _ _ (s9.trans (zb ha)) ?_⟩⟩
    rw[zd0 nn hi nl e,<- lb];exact⟨a,rfl,ua zc⟩
  rintro σ H4 ⟨v7,v9,ag,rfl,Y,nl⟩;rw[zu] at nl;refine k _ _ (U.trans Y) ?_
  rw[YK nn nl];exact rfl
theorem Same.put{m:Addr}{H f:Hp}{o:HO}(s:Same H f)(h:H m=Option.none):Same H (upd f m o):=fun c u e=>by
 rw[zm (zk e h)];exact s c u e
structure PlV(J:Job)(od:List Nat)(ts:List zF):Prop where
 jo:JobOk J od
 tv:∀t∈ts,TripV J t
 tl:ts.length<=70
inductive zbv(K:W.Frag)(l:List V)(H:Hp)(Q:VK):Prop
 | mk (f g:Addr) (J:Job) (A:List Nat) (e:List zF) (s:List V) (_:l=[.ref f,.ref g]) (_:Rep K H (xu J) (.ref f)) (_:SqL K H g s) (_:Reps K H (e.map qy) s) (_:PlV J A e) (_:∀(v:V) c,Same H c->Rep K c (flD (Z4 J e)) v->Q v c):zbv K l H Q
def zeZ(K:W.Frag):Sp:=fun c H Q _=>zbv K c H Q
theorem zgs:zB ["job","plan","order","taken","number","trip","flaw","word","place","picks","lays"] ["job","plan"] (zq (topL 18)):=u0
def YY(l:_)(s:_)(lo:_)(g:_)(H:_)(e:_)(J:_):=fun(i:Nat) (σ:St) (c:Hp)=>(Ex7 fun(A B D E I L f:Option V)=>An5 (σ=[some (.ref l),some (.ref s),some (.ref lo),some (.ref g),A,B,D,E,I,L,f]) (Same H c) (c lo=some (.lst (zn (zo (e.take i))))) (c g=some (.lst (zn (j3 (e.take i))))) (∀m,m<i->flF J e m=none):Prop)
theorem zgT{f:Addr}{fd:FuncData}(F:Fun K "flaw_of" "flaw_of" (topL 18) f fd)(B:Blt G)(g:Dfn P w K G C "flaw_in_trip" 5 ["job","trip","order","taken"] (zga K)):FnOk P w K G C CX0 6 f fd ["job","plan"] (zeZ K):=by
 have L:=zgs.nd;refine F.ok zgs (fun vs H Q E h=>?_) (fun aq A aj s H vs Q E hr h=>?_)
 ·obtain⟨jp,pl,J,od,l,xs,rfl,_⟩:=h
  rfl
 ·obtain⟨jp,pl,J,od,l,xs,rfl,rj,hp,rl,Y,k⟩:=h
  have ap:=bG100000;have tl:=Y.tl;have ll:=rl.len;rw[zp] at ll;have le:∀i,(zo (l.take i)).length<=280/\(j3 (l.take i)).length<=280:=fun i=>by
   have:=YB (ts:=l.take i) (fun t ht=>Y.tv t (Zi ht)) Y.jo.hd1
   rw[qi] at this;omega
  refine⟨_,(ze (zG (i:=2) L rfl (Or.inl rfl) (zV zd))
   (ze (zG (i:=3) L rfl (Or.inl rfl) (zV zd))
   (ze (qR jy rfl (JJ rfl B.enumerate (za (pv 1) zd)) (qF rfl (zr (zy (i:=4) L rfl (Or.inl rfl)) (zr (zy (i:=5) L rfl (Or.inl rfl)) qe)))
   (ze (zG (i:=6) L rfl (Or.inl rfl) (zg g hr.m rfl (za (pv 0) (za (pv 5) (za (pv 2) (za (pv 3) zd))))))
    (ze (qI (zJ Zv (pv 6) xX (zO _))
    (ze (j6 (pv 6) (qF rfl (zr (zy (i:=7) L rfl (Or.inl rfl)) (zr (zy (i:=8) L rfl (Or.inl rfl)) qe))))
     (zj (zw (qS (za (pv 7) (za (pv 4) (za (pv 8) zd)))))))
    zU)
    (ze (j6 (pv 5) (qF rfl (zr (zy (i:=9) L rfl (Or.inl rfl)) (zr (zy (i:=10) L rfl (Or.inl rfl)) qe))))
    (ze (jb (xc xj Wx Ww Q9 (pv 3) (za (vM [] [] rfl rfl (by kernel_rfl) (jt (pv 9)) (fun _ _ _ _=>qG) (fun _ _ _ _=>(pv 1))) zd)))
    (zj (jb (xc xj Wx Ww zdP (pv 2) (za (pv 10) zd)))))))))
   (zj (zw xX))))),?_⟩
  refine⟨le0,fun lo N=>⟨le0,fun D I=>?_⟩⟩
  have af:lo≠D:=zk (zc (H:=H) (a:=lo) (o:=.lst [])) I;have s0:=(zb (o:=.lst []) N).trans (zb (o:=.lst []) I);have a0:H D=none:=(zb (o:=.lst []) N).none I;have LO:upd (upd H lo (.lst [])) D (.lst []) lo=some (.lst []):=(zb (o:=.lst []) I) _ _ zc;have LT:upd (upd H lo (.lst [])) D (.lst []) D=some (.lst []):=zc;generalize upd (upd H lo (.lst [])) D (.lst [])=H1 at s0 LO LT;refine⟨_,rfl,pl,rfl,⟨_,s0.seq hp⟩,Vm (K:=K) (a:=pl) (xs:=xs) (YY jp pl lo D H l J) ⟨_,_,_,_,_,_,_,rfl,s0,LO,LT,(fun m h=>absurd h (yR _))⟩ (fun i σ H' _ ⟨_,_,_,_,_,_,_,_,s1,_,_,_⟩=>s1.seq hp) ?_ ?_⟩
  ·rintro i x σ H2 T hx ⟨v4,v5,v6,v7,v8,v9,ao,rfl,s1,lo1,ac,nn⟩ hT
   have sT:=zb (H:=H2) (o:=.tup [.int (i:Int),x]) hT;have s2:=s1.trans sT;obtain⟨d,ed,rd⟩:=(rl.same s2).get hx;rw[qv] at ed;obtain⟨t,et,rfl⟩:=qJ.mp ed;obtain⟨a,b,c,ps,ys,rfl,qa,qb,rb,qc,rc⟩:=qT rd;have tv:=Y.tv t (qq et);have hi:=(zK.mp et).1;refine⟨T,_,rfl,ua zc,rfl,_,_,rfl,_,_,rfl,rfl,?_⟩
   have aa:=sT _ _ lo1;have O:=sT _ _ ac;generalize upd H2 T (.tup [.int (i:Int),.ref a])=H3 at *
   refine⟨_,rfl,_,rfl,_,rfl,_,rfl,jp,a,lo,D,J,od,_,_,t,rfl,rj.same s2,Y.jo,rd,tv,aa,O,by have:=(le i).1;omega,by have:=(le i).2;omega,fun v H4 M fv=>?_⟩
   have e:=JU (J:=J) et;have s5:=s2.trans M;cases hw:flT J (zo (l.take i)) (j3 (l.take i)) t with
   | some u=>
    rw[hw] at e fv;obtain⟨fa,rfl,am⟩:=fv;refine⟨_,rfl,rfl,_,rfl,ifT rfl ⟨_,rfl,fa,_,rfl,am,rfl,_,_,rfl,_,_,rfl,rfl,⟨_,rfl,_,rfl,_,rfl,le3,fun q hq=>k _ _ (s5.trans (zb hq)) ?_⟩⟩⟩
    rw[show Z4 J l=some (u,i) from V1 hi nn e]
    exact⟨q,_,rfl,ua zc,_,_,rfl,rfl,_,_,rfl,rfl,_,_,rfl,rfl,rfl⟩
   | none=>
    rw[hw] at e fv;cases(show v=.non from fv)
    refine⟨_,rfl,rfl,_,rfl,ifF rfl ?_⟩
    have lb:=rb.len;rw[zp] at lb;have au:=tv.p2;have ar:=Y.jo.hd1;have as:=tv.le;have l1:=le i;cases xr rc;refine⟨_,rfl,a,_,rfl,M.sqT qa,rfl,_,_,rfl,_,_,rfl,rfl,?_⟩
    refine⟨_,rfl,.inl ⟨rfl,_,u6 (M _ _ O)⟩,_,rfl,b,rfl,⟨_,M.sqT qb⟩,jJ (K:=K) (a:=b) (xs:=ps) (fun j zs U=>zs=zn ((t.pk.take j).map (·.2))/\Same H4 U) ⟨rfl,ub _⟩ (fun j zs U ⟨_,s6⟩=>s6.sqT (M.sqT qb)) ?_ ?_⟩
    ·rintro j y zs U hy ⟨rfl,s6⟩
     obtain⟨d2,e2,r2⟩:=(rb.same (M.trans s6)).get hy;rw[qv] at e2;obtain⟨p,ep,rfl⟩:=qJ.mp e2;obtain⟨pp,rfl,an⟩:=qM r2;have hj:=(zK.mp ep).1;refine⟨pp,_,rfl,an,rfl,_,_,rfl,_,_,rfl,rfl,rfl,?_⟩
     refine⟨_,rfl,by rw[zu,zp,qi];omega,?_,s6⟩
     rw[zL ep,zR,<- x9];rfl
    rintro zs U ⟨rfl,s6⟩;rw[lb,qA];refine⟨by rw[zu,zp];omega,fun lf ag=>?_⟩
    have s7:=s6.trans (zb (o:=.lst (zn (t.pk.map (·.2)))) ag)
    have ah:=(M.trans s7) _ _ aa;have ae:=(M.trans s7) _ _ O;have LF:upd U lf (.lst (zn (t.pk.map (·.2)))) lf=some (.lst (zn (t.pk.map (·.2)))):=zc
    have s8:=s5.trans s7;have ak:=(M.trans s7).sqT qc;generalize upd U lf (.lst (zn (t.pk.map (·.2))))=H6 at *
    refine⟨D,lf,_,_,rfl,rfl,ae,LF,by rw[zu,zu,zp];omega,?_⟩
    have s9:=s8.put (o:=.lst (zn (j3 (l.take i))++zn (t.pk.map (·.2)))) a0
    have ab:upd H6 D (.lst (zn (j3 (l.take i))++zn (t.pk.map (·.2)))) lo=_:=(zm af).trans ah
    have ai:upd H6 D (.lst (zn (j3 (l.take i))++zn (t.pk.map (·.2)))) D=some (.lst (zn (j3 (l.take (i+1))))):=by rw[zc,x9,zan et]
    have al:=ak.keep (ui (ys:=zn (j3 (l.take i))++zn (t.pk.map (·.2))) ae)
    generalize upd H6 D (.lst (zn (j3 (l.take i))++zn (t.pk.map (·.2))))=H7 at *
    refine⟨_,rfl,.inl ⟨rfl,_,u6 ab⟩,_,rfl,lo,c,_,_,rfl,rfl,ab,al,by rw[zu,zu];omega,?_⟩
    refine⟨_,_,_,_,_,_,_,rfl,s9.put N,?_,?_,fun m hm=>?_⟩
    ·rw[zc,x9,Ve et]
    ·rw[zm af.symm];exact ai
    ·by_cases h:m<i
     ·exact nn m h
     ·rw[show m=i by omega];exact e
  rintro σ H2 ⟨v4,v5,v6,v7,v8,v9,ao,rfl,s1,lo1,ac,nn⟩;rw[ll] at nn;refine k _ _ s1 ?_
  rw[show Z4 J l=none from wv nn]
  exact rfl
inductive zbq(K:W.Frag)(l:List V)(H:Hp)(Q:VK):Prop
 | mk (f g:Addr) (J:Job) (A:List Nat) (c:List zF) (s:List V) (_:l=[.ref f,.ref g]) (_:Rep K H (xu J) (.ref f)) (_:SqL K H g s) (_:Reps K H (c.map qy) s) (_:PlV J A c) (_:Z4 J c=none) (_:∀e,Same H e->Q (.bl true) e):zbq K l H Q
def zeY(K:W.Frag):Sp:=fun c H Q _=>zbq K c H Q
theorem zgp:zB ["job","thing"] ["job","thing"] (zq (topL 29)):=u0
theorem zgQ{f:Addr}{fd:FuncData}(F:Fun K "is_right" "is_right" (topL 29) f fd)(B:Blt G)(e:Dfn P w K G C "is_trip" 5 ["job","thing"] (zem K))(c:Dfn P w K G C "flaw_of" 6 ["job","plan"] (zeZ K)):FnOk P w K G C CX0 7 f fd ["job","thing"] (zeY K):=by
 have nd:=zgp.nd;refine F.ok zgp (fun vs H Q E h=>?_) (fun aa A O s H vs Q E hr h=>?_)
 ·obtain⟨N,l,J,od,ts,g,rfl,_⟩:=h
  rfl
 ·obtain⟨N,l,J,od,ts,g,rfl,rj,hp,T,L,pn,k⟩:=h
  have a0:=bG100000;have tl:=L.tl;have ll:=T.len;rw[zp] at ll;refine⟨_,(ze (qI (PW.pt (ZL (xW (j5 (zt vV rfl B.isinstance boot_isinstance (za (pv 1) (za (yc (v:=.ty "list") rfl B.list vd rfl) zd))))) (wK (xW (j5 (zt (vb rfl) rfl B.all boot_all (za (jS ["job"] [0] rfl rfl (by kernel_rfl) (qW (pv 1)) (fun _ _ _ _=>qG) (fun _ _ _ _=>(zg e hr.m rfl (za (pv 1) (za (pv 0) zd))))) zd)))))))
   (zj (zw jF))
   zU)
   (zj (zw (qX zcd (zg c hr.m rfl (za (pv 0) (za (pv 1) zd))) xX (zO _))))),?_⟩
  refine⟨_,rfl,.ref l, "list", "list",rfl,.inl ⟨rfl,g,hp⟩,by decide,_,rfl,ifF rfl ?_⟩
  refine⟨_,rfl,l,rfl,⟨_,hp⟩,vw (K:=K) (a:=l) (xs:=g) (fun i M I=>M=List.replicate i (V.bl true)/\Same H I) ⟨rfl,ub _⟩ (fun i M I ⟨_,s1⟩=>s1.seq hp) ?_ ?_⟩
  ·rintro i x M I hx ⟨rfl,s1⟩
   obtain⟨d,U,rd⟩:=(T.same s1).get hx;rw[qv] at U;obtain⟨t,Y,rfl⟩:=qJ.mp U;have hi:=(zK.mp Y).1;exact⟨rfl,_,rfl,_,rfl,N,J,x,t,rfl,rj.same s1,rd,L.tv t (qq Y),L.jo.hd1,fun H2 s2=>⟨by rw[wF];omega,by rw[Xk],s1.trans s2⟩⟩
  ·rintro M I ⟨rfl,s1⟩
   refine⟨by rw[wF];omega,fun D hD=>⟨D,List.replicate g.length true,rfl,u6 (by rw[zc,Xg]),_,rfl,ifF (by simp) ?_⟩⟩
   have s2:=s1.trans (zb (o:=.lst (List.replicate g.length (V.bl true))) hD);refine⟨_,rfl,_,rfl,N,l,J,od,ts,g,rfl,rj.same s2,s2.seq hp,T.same s2,L,fun v H2 s3 rv=>?_⟩
   rw[pn] at rv;cases(show v=.non from rv)
   exact⟨rfl,k _ (s2.trans s3)⟩
def jR(c f e g:Int):Int:=if xR (f-g)>xR (c-e) then xR (f-g) else xR (c-e)
theorem zc8(a:Int):0<=xR a:=by unfold xR;split<;>omega
theorem zeP(c f e g:Int):0<=jR c f e g:=by
 unfold jR;have:=zc8 (f-g);have:=zc8 (c-e);split<;>assumption
theorem zeQ(c f e g t:Int):jR c f e g<=t↔xR (c-e)<=t/\xR (f-g)<=t:=by
 unfold jR;split<;>omega
theorem zeR{e g f l:Int}(a:0<=e)(b:e<=1000)(c:0<=g)(d:g<=1000)(s:0<=f)(A:f<=1000)(B:0<=l)(D:l<=1000):jR e g f l<=1000:=by
 rw[zeQ];unfold xR;constructor<;>split<;>omega
def inB(p:Int×Int):Prop:=0<=p.1/\p.1<=1000/\0<=p.2/\p.2<=1000
def jY:List (Int×Int)->List Int
 | p::q::r=>jR p.1 p.2 q.1 q.2::jY (q::r)
 | _=>[]
theorem vI:∀c:List (Int×Int),(jY c).length=c.length-1
 | []=>rfl
 | [_]=>rfl
 | p::q::r=>by
  have:=vI (q::r);show(jY (q::r)).length+1=_;rw[this];simp
theorem Xt:∀{ps:List (Int×Int)} {i:Nat} {p q:Int×Int},ps[i]? =some p->ps[i+1]? =some q->(jY ps)[i]? =some (jR p.1 p.2 q.1 q.2)
 | [],_,_,_,h,_=>by simp at h
 | [_],i,_,_,_,h=>by simp at h
 | a::b::r,0,p,q,c,e=>by simp at c e;subst c;subst e;rfl
 | a::b::r,i+1,p,q,c,e=>Xt (ps:=b::r) (i:=i) (by simpa using c) (by simpa using e)
theorem JB:∀{ps:List (Int×Int)},(∀p∈ps,inB p)->∀z∈jY ps,0<=z/\z<=1000
 | [],_,z,h=>by cases h
 | [_],_,z,h=>by cases h
 | a::b::r,hb,z,h=>by
  rcases qm.mp h with e | h
  ·have c:=hb a (by simp)
   have f:=hb b (by simp)
   rw[e];exact⟨zeP _ _ _ _,zeR c.1 c.2.1 c.2.2.1 c.2.2.2 f.1 f.2.1 f.2.2.1 f.2.2.2⟩
  ·exact JB (ps:=b::r) (fun p hp=>hb p (jn _ hp)) z h
def plD(p:Int×Int):Dat:=.tup [.int p.1,.int p.2]
def fpl(J:Job)(f:Nat):Int×Int:=match J.fs[f]? with
 | some c=>(c.x,c.y)
 | none=>(0,0)
def ppl(J:Job)(p:Nat):Int×Int:=match J.ps[p]? with
 | some c=>(c.x,c.y)
 | none=>(0,0)
def xC(J:Job):Int×Int:=(J.gx,J.gy)
def xm(J:Job)(t:zF):List (Int×Int):=[xC J]++t.pk.map (fun p=>fpl J p.2)++t.ly.map (ppl J)++[xC J]
structure Qs(J:Job)(t:zF):Prop where
 f:∀p∈t.pk,p.2<J.fs.length
 p:∀k∈t.ly,k<J.ps.length
 l1:t.pk.length<=4
 l2:t.ly.length<=4
theorem TripOk.bd{J:Job}{t:zF}(h:TripOk J t)(g:J.hd<=4):Qs J t:=by
 have l:=h.ly.length_eq;rw[zp] at l;have s:=h.p2;refine⟨fun p hp=>?_,fun k hk=>?_,by omega,by omega⟩
 ·obtain⟨f,c,_,e,_⟩:=h.ok p hp
  exact(zK.mp e).1
 ·obtain⟨p,hp,rfl⟩:=qz.mp (h.ly.mem_iff.mp hk)
  obtain⟨f,c,e,_,_⟩:=h.ok p hp;exact(zK.mp e).1
theorem QQ{J:Job}{t:zF}(h:Qs J t):(xm J t).length<=10:=by
 unfold xm;have:=h.l1;have:=h.l2;simp only[zZ,zp,Wp];omega
theorem zfJ{J:Job}{c:List Nat}(l:JobOk J c)(f:Nat):inB (fpl J f):=by
 unfold fpl;cases e:J.fs[f]? with
 | none=>exact⟨by decide,by decide,by decide,by decide⟩
 | some g=>
  have:=(l.fa g (qq e)).2.1;exact this
theorem zfc{J:Job}{c:List Nat}(g:JobOk J c)(f:Nat):inB (ppl J f):=by
 unfold ppl;cases e:J.ps[f]? with
 | none=>exact⟨by decide,by decide,by decide,by decide⟩
 | some l=>
  have:=(g.pa l (qq e)).2.1;exact this
theorem XA{J:Job}{e:List Nat}(c:JobOk J e)(t:zF):∀p∈xm J t,inB p:=by
 intro p hp;unfold xm at hp;have f:inB (xC J):=c.gate;rcases qo.mp hp with hp | hp
 ·rcases qo.mp hp with hp | hp
  ·rcases qo.mp hp with hp | hp
   ·rw[zY.mp hp];exact f
   ·obtain⟨x,_,rfl⟩:=qz.mp hp
    exact zfJ c _
  ·obtain⟨x,_,rfl⟩:=qz.mp hp
   exact zfc c _
 ·rw[zY.mp hp];exact f
def jZ(J:Job)(t:zF):Int:=(jY (xm J t)).sum
theorem zbc:∀{l:List Int} {m:Int},(∀z∈l,0<=z/\z<=m)->0<=l.sum/\l.sum<=m*(l.length:Int)
 | [],m,_=>by simp
 | a::l,m,h=>by
  have e:=h a (by simp)
  have f:=zbc (l:=l) (m:=m) fun z c=>h z (jn _ c)
  rw[List.sum_cons,xh];have:m*((l.length+1:Nat):Int)=m*(l.length:Int)+m:=by rw[Int.natCast_add,Int.mul_add];simp
  omega
theorem VE{J:Job}{c:List Nat}{t:zF}(e:JobOk J c)(h:Qs J t):0<=jZ J t/\jZ J t<=10000:=by
 unfold jZ;have b:=zbc (l:=jY (xm J t)) (m:=1000) (JB (XA e t));have l:=vI (xm J t);have f:=QQ h;have:(1000:Int)*((jY (xm J t)).length:Int)<=10000:=by omega
 omega
theorem Zu{H:Hp}{p:Int×Int}{x:V}(h:Rep K H (plD p) x):∃a,x=.ref a/\SqT K H a [.int p.1,.int p.2]:=by
 obtain⟨B,J,rfl,c,D,I,f,s,E,e,g,A,l⟩:=h;subst f g;cases(show e=[] from l)
 cases(show D=_ from s)
 cases(show E=_ from A)
 exact⟨B,rfl,c⟩
theorem zbY{H:Hp}{a:Addr}{x y:Int}(h:SqT K H a [.int x,.int y]):Rep K H (plD (x,y)) (.ref a):=⟨a,_,rfl,h,_,_,rfl,rfl,_,_,rfl,rfl,rfl⟩
theorem wI{H:Hp}{t:zF}{l:Addr}(h:Rep K H (qy t) (.ref l)):∃a c f g,SqT K H l [.ref a,.ref c]/\SqT K H a f/\Reps K H (t.pk.map jK) f/\SqT K H c g/\Reps K H (t.ly.map QB) g:=by
 obtain⟨a,U,e,q,Q,O,s,D,T,L,A,E,B⟩:=h;cases e;subst s A;cases(show L=[] from B)
 obtain⟨a,f,rfl,I,M⟩:=D;obtain⟨c,g,rfl,J,N⟩:=E;exact⟨a,c,f,g,q,I,M,J,N⟩
theorem zfz{H:Hp}{l:List Nat}{c:List V}(h:Reps K H (l.map QB) c){i:Nat}{x:V}(hx:c[i]? =some x):∃k,l[i]? =some k/\x=.int (k:Int):=by
 obtain⟨d,e,r⟩:=h.get hx;rw[qv] at e;obtain⟨k,f,rfl⟩:=qJ.mp e;exact⟨k,f,r⟩
inductive WM(K:W.Frag)(c:List V)(H:Hp)(Q:VK):Prop
 | mk (u v:V) (p q:Int×Int) (_:c=[u,v]) (_:Rep K H (plD p) u) (_:Rep K H (plD q) v) (_:Q (.int (jR p.1 p.2 q.1 q.2)) H):WM K c H Q
def WN(K:W.Frag):Sp:=fun c H Q _=>WM K c H Q
theorem zgh:zB ["one","other"] ["one","other"] (zq (topL 3)):=u0
theorem zfn{f:Addr}{l:FuncData}(F:Fun K "way_between" "way_between" (topL 3) f l)(B:Blt G):FnOk P w K G C CX0 1 f l ["one","other"] (WN K):=by
 refine F.ok zgh (fun J H Q E h=>?_) (fun I A g s H J Q E L h=>?_)
 ·obtain⟨u,v,p,q,rfl,_⟩:=h
  rfl
 ·obtain⟨u,v,p,q,rfl,c,e,k⟩:=h
  obtain⟨a,rfl,D⟩:=Zu c;obtain⟨b,rfl,hb⟩:=Zu e;refine⟨_,(zj (zw (zt (yK rfl) rfl B.max Z7 (za (zt vc rfl B.abs vf (za (zA jI (zx zN (pv 0) zf (fun _ _=>rfl)) (zx zN (pv 1) zf (fun _ _=>rfl))) zd)) (za (zt vc rfl B.abs vf (za (zA jI (zx zN (pv 0) zf (fun _ _=>rfl)) (zx zN (pv 1) zf (fun _ _=>rfl))) zd)) zd))))),?_⟩
  refine⟨_,rfl,a,_,_,_,rfl,rfl,D,rfl,_,rfl,b,_,_,_,rfl,rfl,hb,rfl,_,_,rfl,rfl,_,rfl,_,rfl,a,_,_,_,rfl,rfl,D,rfl,_,rfl,b,_,_,_,rfl,rfl,hb,rfl,_,_,rfl,rfl,_,rfl,_,_,rfl,k⟩
theorem ze3:zB ["_law_one","_law_other"] ["_law_one","_law_other"] (zq (topL 46)):=u0
theorem zdH{f:Addr}{l:FuncData}(F:Fun K "_law_way" "_law_way" (topL 46) f l)(B:Blt G):FnOk P w K G C CX0 1 f l ["_law_one","_law_other"] (WN K):=by
 refine F.ok ze3 (fun J H Q E h=>?_) (fun I A g s H J Q E L h=>?_)
 ·obtain⟨u,v,p,q,rfl,_⟩:=h
  rfl
 ·obtain⟨u,v,p,q,rfl,c,e,k⟩:=h
  obtain⟨a,rfl,D⟩:=Zu c;obtain⟨b,rfl,hb⟩:=Zu e;refine⟨_,(zj (zw (zt (yK rfl) rfl B.max Z7 (za (zt vc rfl B.abs vf (za (zA jI (zx zN (pv 0) zf (fun _ _=>rfl)) (zx zN (pv 1) zf (fun _ _=>rfl))) zd)) (za (zt vc rfl B.abs vf (za (zA jI (zx zN (pv 0) zf (fun _ _=>rfl)) (zx zN (pv 1) zf (fun _ _=>rfl))) zd)) zd))))),?_⟩
  refine⟨_,rfl,a,_,_,_,rfl,rfl,D,rfl,_,rfl,b,_,_,_,rfl,rfl,hb,rfl,_,_,rfl,rfl,_,rfl,_,rfl,a,_,_,_,rfl,rfl,D,rfl,_,rfl,b,_,_,_,rfl,rfl,hb,rfl,_,_,rfl,rfl,_,rfl,_,_,rfl,k⟩
theorem zaP(c:List V):z7 c (some 1) none=c.drop 1:=by
 unfold z7;rw[show(some (1:Int))=some ((1:Nat):Int) from rfl,HT.sIx_nat,HT.sIx_none]
 cases c with
 | nil=>rfl
 | cons x r=>
  have:min 1 (x::r).length=1:=by simp only[xh];omega
  rw[this];simp
inductive W4(K:W.Frag)(f:List V)(H:Hp)(Q:VK):Prop
 | mk (a:Addr) (g:List V) (c:List (Int×Int)) (_:f=[.ref a]) (_:SqL K H a g) (_:Reps K H (c.map plD) g) (_:(∀p∈c,inB p)) (_:c.length<=1000) (_:∀e,Same H e->Q (.int (jY c).sum) e):W4 K f H Q
def zek(K:W.Frag):Sp:=fun c H Q _=>W4 K c H Q
theorem zer:zB ["places"] ["places"] (zq (topL 4)):=u0
theorem zfr{f:Addr}{fd:FuncData}(F:Fun K "length_of" "length_of" (topL 4) f fd)(B:Blt G)(c:Dfn P w K G C "way_between" 1 ["one","other"] (WN K)):FnOk P w K G C CX0 2 f fd ["places"] (zek K):=by
 have nd:=zer.nd;refine F.ok zer (fun vs H Q E h=>?_) (fun aa A Y s H vs Q E hr h=>?_)
 ·obtain⟨a,e,L,rfl,_⟩:=h
  rfl
 ·obtain⟨a,e,L,rfl,hx,hp,hb,hl,k⟩:=h
  have a0:=bG100000;have U:=hp.len;rw[zp] at U;refine⟨_,(zj (zw (zt (Jp rfl) rfl B.sum boot_sum (za (vM [] [] rfl rfl (by kernel_rfl) (zff rfl B.zip (za (pv 0) (za (jc jP (pv 0) (jv zf) jQ) zd))) (fun _ _ _ _=>qG) (fun _ _ _ _=>(zg c hr.m rfl (za (pv 0) (za (pv 1) zd))))) zd)))),?_⟩
  refine⟨_,rfl,_,rfl,1,rfl,a,e,rfl,hx,fun t ht=>?_⟩
  have s1:Same H (upd H t (.lst (z7 e (some 1) none))):=zb ht;have l:upd H t (.lst (z7 e (some 1) none)) t=some (.lst (e.drop 1)):=by rw[zc,zaP]
  have I:=s1.seq hx;have g:=hp.same s1;generalize upd H t (.lst (z7 e (some 1) none))=H1 at s1 l I g;refine⟨true,true,a,t,rfl,⟨e,I⟩,⟨_,u6 l⟩,?_⟩
  refine zfB (K:=K) (k1:=true) (k2:=true) (xs:=e) (ys:=e.drop 1) (fun i N M=>N=((jY L).take i).map V.int/\Same H1 M) ⟨rfl,ub _⟩ (fun i N M ⟨_,J⟩=>⟨J.seq I,J.seq (u6 l)⟩) ?_ ?_
  ·rintro i x y N M T e1 e2 ⟨rfl,J⟩ hT
   have O:e[i+1]? =some y:=by rw[Xh] at e2;rw[Nat.add_comm];exact e2
   have s4:=J.trans (zb (o:=.tup [x,y]) hT);obtain⟨d1,q1,r1⟩:=(g.same s4).get e1;obtain⟨d2,q2,r2⟩:=(g.same s4).get O;rw[qv] at q1 q2;obtain⟨p,w1,rfl⟩:=qJ.mp q1;obtain⟨q,w2,rfl⟩:=qJ.mp q2;refine⟨T,_,rfl,ua zc,rfl,_,_,rfl,_,_,rfl,rfl,rfl,?_⟩
   refine⟨_,rfl,_,rfl,x,y,p,q,rfl,r1,r2,?_,?_,s4⟩
   ·have:=vI L
    rw[zp,qi];omega
   ·rw[zL (Xt w1 w2),zR];rfl
  ·rintro N M ⟨rfl,J⟩
   have hm:min e.length (e.drop 1).length=(jY L).length:=by rw[vI,vF];omega
   refine⟨by rw[zp,qi];omega,fun D hD=>⟨D,jY L,rfl,?_,fun z hz=>?_,by rw[vI];omega,k _ ((s1.trans J).trans (zb hD))⟩⟩
   ·refine u6 ?_
    rw[zc,hm,qA]
   ·have:=JB hb z hz
    omega
theorem XX{H f:Hp}{t:Addr}{o:HO}(s:Same H f)(h:H t=Option.none):Same H (upd f t o):=fun c u e=>by
 rw[zm (zk e h)];exact s c u e
theorem zcF{H:Hp}{J:Job}{fs:Addr}{g:List V}(D:Reps K H (J.fs.map va) g){f:Nat}(s:f<J.fs.length):∃a c,g[f]? =some (.ref a)/\(∃x z,SqT K H a [x,.ref c,z])/\Rep K H (plD (fpl J f)) (.ref c):=by
 have e:J.fs[f]? =some J.fs[f]:=by simp[s]
 obtain⟨v,l,E⟩:=Z9 D e;obtain⟨a,c,rfl,A,B⟩:=ww E;refine⟨a,c,l,⟨_,_,A⟩,?_⟩
 have:fpl J f=(J.fs[f].x,J.fs[f].y):=by unfold fpl;rw[e]
 rw[this];exact zbY B
theorem zbX{H:Hp}{J:Job}{ps:Addr}{pv:List V}(B:Reps K H (J.ps.map xB) pv){f:Nat}(l:f<J.ps.length):∃a c,pv[f]? =some (.ref a)/\(∃x,SqT K H a [x,.ref c])/\Rep K H (plD (ppl J f)) (.ref c):=by
 have e:J.ps[f]? =some J.ps[f]:=by simp[l]
 obtain⟨v,g,D⟩:=Z9 B e;obtain⟨a,c,rfl,s,A⟩:=yD D;refine⟨a,c,g,⟨_,s⟩,?_⟩
 have:ppl J f=(J.ps[f].x,J.ps[f].y):=by unfold ppl;rw[e]
 rw[this];exact zbY A
inductive QS(K:W.Frag)(s:List V)(H:Hp)(Q:VK):Prop
 | mk (e f:Addr) (J:Job) (t:zF) (_:s=[.ref e,.ref f]) (_:Rep K H (xu J) (.ref e)) (_:Rep K H (qy t) (.ref f)) (_:Qs J t) (_:∀(l:Addr) (g:List V) c,H l=none->Same H c->c l=some (.lst g)->Reps K c ((xm J t).map plD) g->Q (.ref l) c):QS K s H Q
def WR(K:W.Frag):Sp:=fun c H Q _=>QS K c H Q
theorem Yc:zB ["job","trip","picks","lays","feeders","parts"] ["job","trip"] (zq (topL 24)):=u0
theorem zcg{f:Addr}{fd:FuncData}(F:Fun K "stops_of" "stops_of" (topL 24) f fd)(B:Blt G):FnOk P w K G C CX0 1 f fd ["job","trip"] (WR K):=by
 have nd:=Yc.nd;refine F.ok Yc (fun vs H Q E h=>?_) (fun ar A am s H vs Q E hr h=>?_)
 ·obtain⟨jp,tp,J,t,rfl,_⟩:=h
  rfl
 ·obtain⟨jp,tp,J,t,rfl,rj,rt,tb,k⟩:=h
  have aq:=bG100000;have l1:=tb.l1;have l2:=tb.l2;obtain⟨g,fs,ps,as,qj,rg,rf,rp,_⟩:=ZW rj;obtain⟨fv,qf,ao⟩:=vk rf;obtain⟨au,qp,ap⟩:=vk rp;obtain⟨ta,tc,xs,ys,qt,qa,ra,qc,rc⟩:=wI rt;have ac:=ra.len;rw[zp] at ac;have ae:=rc.len;rw[zp] at ae;refine⟨_,(ze (j6 (pv 1) (qF rfl (zr (zy (i:=2) nd rfl (Or.inl rfl)) (zr (zy (i:=3) nd rfl (Or.inl rfl)) qe))))
   (ze (VM ["job"] [0] rfl rfl (by kernel_rfl) (jt (pv 2)) (fun _ _ _ _=>qG) (fun _ _ _ _=>(zx (ji (K:=K) rfl) (zx (ji (K:=K) rfl) (zx (ji (K:=K) rfl) (pv 2) zf (fun _ _=>rfl)) (pv 1) (fun _ _=>rfl)) zf (fun _ _=>rfl))) (zy (i:=4) nd rfl (Or.inl rfl)))
   (ze (VN ["job"] [0] rfl rfl (by kernel_rfl) (jt (pv 3)) (fun _ _ _ _=>qG) (fun _ _ _ _=>(zx (ji (K:=K) rfl) (zx (ji (K:=K) rfl) (zx (ji (K:=K) rfl) (pv 1) zf (fun _ _=>rfl)) (pv 0) (fun _ _=>rfl)) zf (fun _ _=>rfl))) (zy (i:=5) nd rfl (Or.inl rfl)))
   (zj (zw (zA xA (zA xA (zA xA (zV (za (zx zN (pv 0) zf (fun _ _=>rfl)) zd)) (pv 4)) (pv 5)) (zV (za (zx zN (pv 0) zf (fun _ _=>rfl)) zd)))))))),?_⟩
  refine⟨_,rfl,tp,_,rfl,qt,rfl,_,_,rfl,_,_,rfl,rfl,?_⟩
  refine⟨_,rfl,ta,rfl,⟨_,qa⟩,jJ (K:=K) (a:=ta) (xs:=xs) (fun i I M=>Reps K M ((t.pk.take i).map fun p=>plD (fpl J p.2)) I/\Same H M) ⟨rfl,ub _⟩ (fun i I M ⟨_,e⟩=>e.sqT qa) ?_ ?_⟩
  ·rintro i x I M hx ⟨T,e⟩
   obtain⟨d,e1,r1⟩:=(ra.same e).get hx;rw[qv] at e1;obtain⟨p,ep,rfl⟩:=qJ.mp e1;obtain⟨pa,rfl,an⟩:=qM r1;have hi:i<t.pk.length:=(zK.mp ep).1;obtain⟨a,c,ea,⟨x',z',q1⟩,q2⟩:=zcF (fs:=fs) (ao.same e) (tb.f p (qq ep));refine⟨pa,_,rfl,an,rfl,_,_,rfl,_,_,rfl,rfl,rfl,?_⟩
   have zl:=T.len;rw[zp,qi] at zl;refine⟨_,rfl,jp,_,_,_,rfl,rfl,e.sqT qj,rfl,_,rfl,fs,_,_,_,rfl,rfl,e.sqT qf,zQ ea,a,_,_,_,rfl,rfl,q1,rfl,by omega,?_,e⟩
   rw[zL ep,zR];exact ud q2 T
  rintro I M ⟨T,e⟩;have ai:t.pk.take xs.length=t.pk:=by rw[ac,qA]
  rw[ai] at T;have zl:=T.len;rw[zp] at zl;refine⟨by omega,fun d1 O=>?_⟩
  have s1:=e.trans (zb (o:=.lst I) O);have U:=T.same (zb (o:=.lst I) O);have D1:upd M d1 (.lst I) d1=some (.lst I):=zc;generalize upd M d1 (.lst I)=H2 at s1 U D1;clear e T O;refine⟨_,rfl,tc,rfl,⟨_,s1.sqT qc⟩,jJ (K:=K) (a:=tc) (xs:=ys) (fun i D N=>Reps K N ((t.ly.take i).map fun p=>plD (ppl J p)) D/\Same H2 N) ⟨rfl,ub _⟩ (fun i D N ⟨_,e⟩=>(s1.trans e).sqT qc) ?_ ?_⟩
  ·rintro i x D N hx ⟨l,e⟩
   obtain⟨k',ek,rfl⟩:=zfz (rc.same (s1.trans e)) hx;have hi:i<t.ly.length:=(zK.mp ek).1;have s2:=s1.trans e;obtain⟨a,c,ea,⟨x',q1⟩,q2⟩:=zbX (ps:=ps) (ap.same s2) (tb.p k' (qq ek));refine⟨rfl,?_⟩
   have wl:=l.len;rw[zp,qi] at wl;refine⟨_,rfl,jp,_,_,_,rfl,rfl,s2.sqT qj,rfl,_,rfl,ps,_,_,_,rfl,rfl,s2.sqT qp,zQ ea,a,_,_,_,rfl,rfl,q1,rfl,by omega,?_,e⟩
   rw[zL ek,zR];exact ud q2 l
  rintro D N ⟨l,e⟩;have a0:t.ly.take ys.length=t.ly:=by rw[ae,qA]
  rw[a0] at l;have wl:=l.len;rw[zp] at wl;refine⟨by omega,fun d2 L=>?_⟩
  have s2:=(s1.trans e).trans (zb (o:=.lst D) L);have ah:=(U.same e).same (zb (o:=.lst D) L);have ag:=l.same (zb (o:=.lst D) L);have Y:=(zb (o:=.lst D) L) _ _ (e _ _ D1);have D2:upd N d2 (.lst D) d2=some (.lst D):=zc;generalize upd N d2 (.lst D)=H4 at s2 ah ag Y D2;clear e l L U D1 s1;refine⟨_,rfl,jp,_,_,_,rfl,rfl,s2.sqT qj,rfl,le1,fun l1 aj=>?_⟩
  have u1:=zb (o:=.lst [.ref g]) aj;refine⟨_,rfl,l1,d1,_,_,rfl,rfl,zc,u1 _ _ Y,by show 1+_<=_;omega,fun l2 ak=>?_⟩
  have u2:=u1.trans (zb (o:=.lst ([.ref g]++I)) ak);refine⟨_,rfl,l2,d2,_,_,rfl,rfl,zc,u2 _ _ D2,by simp;omega,fun l3 al=>?_⟩
  have u3:=u2.trans (zb (o:=.lst ([.ref g]++I++D)) al);refine⟨_,rfl,jp,_,_,_,rfl,rfl,(s2.trans u3).sqT qj,rfl,le1,fun l4 aa=>?_⟩
  have u4:=u3.trans (zb (o:=.lst [.ref g]) aa);refine⟨l3,l4,_,_,rfl,rfl,(zb aa) _ _ zc,zc,by simp;omega,fun l5 ab=>?_⟩
  have u5:=u4.trans (zb (o:=.lst ([.ref g]++I++D++[.ref g])) ab);refine k l5 _ _ ((s2.trans u4).none ab) (s2.trans u5) zc ?_
  have af:Rep K _ (plD (xC J)) (.ref g):=(rg.same s2).same u5;unfold xm;rw[zR,zR,zR,vC,vC];exact ud af (ug (ug (⟨_,_,rfl,af,rfl⟩) (ah.same u5)) (ag.same u5))
inductive y6(K:W.Frag)(l:List V)(H:Hp)(Q:VK):Prop
 | mk (f g:Addr) (J:Job) (c:List Nat) (t:zF) (_:l=[.ref f,.ref g]) (_:Rep K H (xu J) (.ref f)) (_:JobOk J c) (_:Rep K H (qy t) (.ref g)) (_:Qs J t) (_:∀e,Same H e->Q (.int (jZ J t)) e):y6 K l H Q
def yA(K:W.Frag):Sp:=fun c H Q _=>y6 K c H Q
theorem zgi:zB ["job","trip"] ["job","trip"] (zq (topL 25)):=u0
theorem zgJ{f:Addr}{I:FuncData}(F:Fun K "trip_way" "trip_way" (topL 25) f I)(B:Blt G)(e:Dfn P w K G C "stops_of" 1 ["job","trip"] (WR K))(c:Dfn P w K G C "length_of" 2 ["places"] (zek K)):FnOk P w K G C CX0 3 f I ["job","trip"] (yA K):=by
 have nd:=zgi.nd;refine F.ok zgi (fun vs H Q E h=>?_) (fun Y A D s H vs Q E L h=>?_)
 ·obtain⟨M,O,J,g,t,rfl,_⟩:=h
  rfl
 ·obtain⟨M,O,J,g,t,rfl,rj,jo,rt,N,k⟩:=h
  refine⟨_,(zj (zw (zg c L.m rfl (za (zg e L.m rfl (za (pv 0) (za (pv 1) zd))) zd)))),?_⟩
  refine⟨_,rfl,_,rfl,M,O,J,t,rfl,rj,rt,N,fun l us H1 _ s1 U r1=>?_⟩
  exact⟨l,us,xm J t,rfl,u6 U,r1,XA jo t,by have:=QQ N;omega,fun T s2=>k T (s1.trans s2)⟩
def xp(J:Job)(c:List zF):Int:=(c.map (jZ J)).sum
inductive y8(K:W.Frag)(A:List V)(H:Hp)(Q:VK):Prop
 | mk (g l:Addr) (J:Job) (e:List Nat) (c:List zF) (s:List V) (_:A=[.ref g,.ref l]) (_:Rep K H (xu J) (.ref g)) (_:JobOk J e) (_:H l=some (.lst s)) (_:Reps K H (c.map qy) s) (_:(∀t∈c,Qs J t)) (_:c.length<=60) (_:∀f,Same H f->Q (.int (xp J c)) f):y8 K A H Q
def QW(K:W.Frag):Sp:=fun c H Q _=>y8 K c H Q
theorem zgn:zB ["job","plan"] ["job","plan"] (zq (topL 26)):=u0
theorem zgO{f:Addr}{fd:FuncData}(F:Fun K "plan_way" "plan_way" (topL 26) f fd)(B:Blt G)(c:Dfn P w K G C "trip_way" 3 ["job","trip"] (yA K)):FnOk P w K G C CX0 4 f fd ["job","plan"] (QW K):=by
 have nd:=zgn.nd;refine F.ok zgn (fun vs H Q E h=>?_) (fun aa A T s H vs Q E hr h=>?_)
 ·obtain⟨jp,U,J,I,g,Y,rfl,_⟩:=h
  rfl
 ·obtain⟨jp,U,J,I,g,Y,rfl,rj,jo,hp,rt,tb,tl,k⟩:=h
  have a0:=bG100000;have l:=rt.len;rw[zp] at l;refine⟨_,(zj (zw (zt (Jp rfl) rfl B.sum boot_sum (za (jS ["job"] [0] rfl rfl (by kernel_rfl) (qW (pv 1)) (fun _ _ _ _=>qG) (fun _ _ _ _=>(zg c hr.m rfl (za (pv 1) (za (pv 0) zd))))) zd)))),?_⟩
  refine⟨_,rfl,U,rfl,⟨_,u6 hp⟩,vw (K:=K) (a:=U) (xs:=Y) (fun i M L=>M=((g.take i).map (jZ J)).map V.int/\Same H L) ⟨rfl,ub _⟩ (fun i M L ⟨_,e⟩=>u6 (e _ _ hp)) ?_ ?_⟩
  ·rintro i x M L hx ⟨rfl,e⟩
   obtain⟨d,e1,r1⟩:=(rt.same e).get hx;rw[qv] at e1;obtain⟨t,N,rfl⟩:=qJ.mp e1;obtain⟨tp,zz,ex,_⟩:=id r1;subst ex;have hi:i<g.length:=(zK.mp N).1;refine⟨rfl,⟨_,rfl,_,rfl,jp,tp,J,I,t,rfl,rj.same e,jo,r1,tb t (qq N),fun H2 s2=>⟨?_,?_,e.trans s2⟩⟩⟩
   ·rw[zp,zp,qi];omega
   ·rw[zL N,zR,zR];rfl
  ·rintro M L ⟨rfl,e⟩
   have O:g.take Y.length=g:=by rw[l,qA]
   rw[O];refine⟨by rw[zp,zp];omega,fun D hD=>⟨D,g.map (jZ J),rfl,u6 zc,fun z hz=>?_,by rw[zp];omega,k _ (e.trans (zb hD))⟩⟩
   obtain⟨t,ht,rfl⟩:=qz.mp hz;have:=VE jo (tb t ht);omega
inductive WZ(K:W.Frag)(s:List V)(H:Hp)(Q:VK):Prop
 | mk (f:Addr) (e:List zF) (g:List V) (_:s=[.ref f]) (_:H f=some (.lst g)) (_:Reps K H (e.map qy) g) (_:(zo e).length<=1000) (_:∀(l:Addr) c,H l=none->Same H c->c l=some (.lst (zn (zo e)))->Q (.ref l) c):WZ K s H Q
def zbm(K:W.Frag):Sp:=fun c H Q _=>WZ K c H Q
theorem zep:zB ["plan"] ["plan"] (zq (topL 27)):=u0
theorem zaD(c:List zF)(i:Nat):(zo (c.take i)).length<=(zo c).length:=by
 have:zo c=zo (c.take i)++zo (c.drop i):=by
  unfold zo;rw[<- wb,xi]
 rw[this,zZ];omega
theorem zfp{f:Addr}{fd:FuncData}(F:Fun K "order_of" "order_of" (topL 27) f fd)(B:Blt G):FnOk P w K G C CX0 1 f fd ["plan"] (zbm K):=by
 have nd:=zep.nd;refine F.ok zep (fun vs H Q E h=>?_) (fun aa A O s H vs Q E hr h=>?_)
 ·obtain⟨T,e,U,rfl,_⟩:=h
  rfl
 ·obtain⟨T,e,U,rfl,hp,rt,ll,k⟩:=h
  have a0:=bG100000;have l:=rt.len;rw[zp] at l;refine⟨_,(zj (zw (zds [] [] rfl rfl (by kernel_rfl) (qW (pv 0)) (fun _ _ _ _=>qG) (fun _ _ _ _=>(Yq (K:=K) rfl (pv 1))) (fun _ _ _ _=>qG) (fun _ _ _ _=>(pv 2))))),?_⟩
  refine⟨_,rfl,T,rfl,⟨_,u6 hp⟩,Vd (K:=K) (a:=T) (xs:=U) (fun i L g=>L=zn (zo (e.take i))/\Same H g) ⟨rfl,ub _⟩ (fun i L g ⟨_,c⟩=>u6 (c _ _ hp)) ?_ ?_⟩
  ·rintro i x L g hx ⟨rfl,c⟩
   obtain⟨d,e1,r1⟩:=(rt.same c).get hx;rw[qv] at e1;obtain⟨t,et,rfl⟩:=qJ.mp e1;obtain⟨tp,zz,ex,_⟩:=id r1;subst ex;obtain⟨ta,tc,xs,ys,qt,qa,ra,qc,rc⟩:=wI r1;have N:=xr rc;subst N;have le1:=zaD e (i+1);rw[zL et,jB,zZ] at le1;refine⟨tp,_,rfl,qt,rfl,_,_,rfl,_,_,rfl,rfl,rfl,?_⟩
   refine⟨_,rfl,tc,rfl,⟨_,qc⟩,zcC (K:=K) (a:=tc) (xs:=zn t.ly) (fun j J I=>J=zn (zo (e.take i))++zn (t.ly.take j)/\Same g I) ⟨by simp[zn],ub _⟩ (fun j J I ⟨_,s2⟩=>s2.sqT qc) ?_ ?_⟩
   ·rintro j y J I hy ⟨rfl,s2⟩
    obtain⟨k',Y,rfl⟩:=j7 hy;have hj:j<t.ly.length:=(zK.mp Y).1;refine⟨⟨rfl,rfl,trivial⟩,?_⟩
    refine⟨_,rfl,?_,?_,s2⟩
    ·rw[zZ,zu,zu,qi];omega
    ·rw[zL Y,xG]
     unfold zn;rw[zR];rfl
   ·rintro J I ⟨rfl,s2⟩
    refine⟨?_,c.trans s2⟩
    rw[zu,qA,zL et,jB];unfold zn;rw[zR]
  ·rintro L g ⟨rfl,c⟩
   have M:e.take U.length=e:=by rw[l,qA]
   rw[M];exact⟨by rw[zu];omega,fun D hD=>k D _ (c.none hD) (c.trans (zb hD)) zc⟩
def zS(c:List zF):List Nat:=c.flatMap fun t=>t.pk.map (·.2)
theorem wV(c:List zF)(t:zF):zS (c++[t])=zS c++t.pk.map (·.2):=by
 unfold zS;rw[wb];simp
theorem VF(c:List zF)(i:Nat):(zS (c.take i)).length<=(zS c).length:=by
 have:zS c=zS (c.take i)++zS (c.drop i):=by
  unfold zS;rw[<- wb,xi]
 rw[this,zZ];omega
def wM(e:List yZ)(c:Nat->Nat):List Int:=e.zipIdx.map fun p=>p.1.m-(c p.2:Int)
theorem j9(e:List yZ)(c:Nat->Nat):(wM e c).length=e.length:=by
 unfold wM;rw[zp,List.length_zipIdx]
theorem Z5{e:List yZ}{c:Nat->Nat}{k:Nat}{f:yZ}(h:e[k]? =some f):(wM e c)[k]? =some (f.m-(c k:Int)):=by
 unfold wM;rw[qv,Wl,h];simp
theorem VT(l:List Nat)(k:Nat):(l.map fun i:Nat=>(i:Int)).count (k:Int)=l.count k:=by
 induction l with
 | nil=>rfl
 | cons x l c=>
  rw[qY,Qi,Qi,c];by_cases h:x=k
  ·simp[h]
  ·have:¬(x:Int)=(k:Int):=by omega
   simp[h,this]
theorem zaA(l:List Nat):zn l=(l.map fun i:Nat=>(i:Int)).map V.int:=by
 unfold zn;rw[vC];rfl
theorem zaH{J:Job}{H:Hp}{p:Addr}(h:Rep K H (xu J) (.ref p)):∃(f g l s:V) (t:Addr) (c:List V),SqT K H p [f,g,.ref t,l,s]/\SqT K H t c/\Reps K H (J.fs.map va) c:=by
 obtain⟨a,c,e,A,f,_,rfl,_,g,_,rfl,_,L,_,rfl,e2,l,_,rfl,_,s,I,rfl,_,rfl⟩:=h;cases e;obtain⟨t,E,rfl,B,D⟩:=e2;exact⟨_,_,_,_,t,E,A,B,D⟩
inductive XM(K:W.Frag)(A:List V)(H:Hp)(Q:VK):Prop
 | mk (f g:Addr) (J:Job) (e:List zF) (s:List V) (_:A=[.ref f,.ref g]) (_:Rep K H (xu J) (.ref f)) (_:J.fs.length<=100) (_:SqL K H g s) (_:Reps K H (e.map qy) s) (_:(zS e).length<=1000) (_:∀(l:Addr) c,H l=none->Same H c->c l=some (.lst ((wM J.fs fun k=>(zS e).count k).map V.int))->Q (.ref l) c):XM K A H Q
def zbn(K:W.Frag):Sp:=fun c H Q _=>XM K c H Q
theorem zbJ:zB ["job","plan","taken"] ["job","plan"] (zq (topL 28)):=u0
theorem zdI{f:Addr}{fd:FuncData}(F:Fun K "left_in" "left_in" (topL 28) f fd)(B:Blt G):FnOk P w K G C CX0 1 f fd ["job","plan"] (zbn K):=by
 have nd:=zbJ.nd;refine F.ok zbJ (fun vs H Q E h=>?_) (fun af A a0 s H vs Q E hr h=>?_)
 ·obtain⟨jp,pl,J,e,tr,rfl,_⟩:=h
  rfl
 ·obtain⟨jp,pl,J,e,tr,rfl,rj,fl,hp,rt,tl,k⟩:=h
  have ae:=bG100000;have U:=rt.len;rw[zp] at U;refine⟨_,(ze (zG (i:=2) nd rfl (Or.inr rfl) (zdr [] [] rfl rfl (by kernel_rfl) (qW (pv 1)) (fun _ _ _ _=>qG) (fun _ _ _ _=>(Yq (K:=K) rfl (pv 0))) (fun _ _ _ _=>qG) (fun _ _ _ _=>(pv 3))))
   (zj (zw (zb4 ["taken"] [2] rfl rfl (by kernel_rfl) (wZ rfl B.enumerate (za (zx zN (pv 0) zf (fun _ _=>rfl)) zd)) (fun _ _ _ _=>qG) (fun _ _ _ _=>(zA jI (pv 3) (zfk (K:=K) rfl xj PySem.F.slot_list_count PySem.F.type_list_count Ja (pv 4) (za (pv 0) zd)))))))),?_⟩
  refine⟨_,rfl,pl,rfl,⟨_,hp⟩,Vd (K:=K) (a:=pl) (xs:=tr) (fun i g D=>g=zn (zS (e.take i))/\Same H D) ⟨rfl,ub _⟩ (fun i g D ⟨_,L⟩=>L.seq hp) ?_ ?_⟩
  ·rintro i x g D hx ⟨rfl,L⟩
   obtain⟨d,e1,r1⟩:=(rt.same L).get hx;rw[qv] at e1;obtain⟨t,et,rfl⟩:=qJ.mp e1;obtain⟨tp,zz,ex,_⟩:=id r1;subst ex;obtain⟨ta,tc,xs,ys,qt,qa,ra,qc,rc⟩:=wI r1;have Y:=ra.len;rw[zp] at Y;have le1:=VF e (i+1);rw[zL et,wV,zZ,zp] at le1;refine⟨tp,_,rfl,qt,rfl,_,_,rfl,_,_,rfl,rfl,rfl,?_⟩
   refine⟨_,rfl,ta,rfl,⟨_,qa⟩,zcC (K:=K) (a:=ta) (xs:=xs) (fun j ws M=>ws=zn (zS (e.take i))++zn ((t.pk.take j).map (·.2))/\Same D M) ⟨by simp[zn],ub _⟩ (fun j ws M ⟨_,s2⟩=>s2.sqT qa) ?_ ?_⟩
   ·rintro j y ws M hy ⟨rfl,s2⟩
    obtain⟨d2,e2,r2⟩:=(ra.same s2).get hy;rw[qv] at e2;obtain⟨p,ep,rfl⟩:=qJ.mp e2;have hj:=(zK.mp ep).1;obtain⟨pa,pw,rfl,qp,x1,ab,rfl,e3,x2,ac,rfl,e4,e5⟩:=r2;cases e3;cases e4;cases e5;refine⟨pa,_,rfl,qp,rfl,_,_,rfl,_,_,rfl,rfl,⟨rfl,rfl,trivial⟩,?_⟩
    refine⟨_,rfl,?_,?_,s2⟩
    ·rw[zZ,zu,zu,zp,qi];omega
    ·rw[zL ep,xG,zR]
     unfold zn;rw[zR];rfl
   ·rintro ws M ⟨rfl,s2⟩
    refine⟨?_,L.trans s2⟩
    rw[Y,qA,zL et,wV];unfold zn;rw[zR]
  ·rintro g D ⟨rfl,L⟩
   rw[U,qA,zaA];refine⟨by rw[zp,zp];omega,fun l hl=>?_⟩
   have s1:=L.trans (zb (o:=.lst (((zS e).map fun i:Nat=>(i:Int)).map V.int)) hl)
   have L1:upd D l (.lst (((zS e).map fun i:Nat=>(i:Int)).map V.int)) l=some (.lst (((zS e).map fun i:Nat=>(i:Int)).map V.int)):=zc
   have lH:=L.none hl;generalize upd D l (.lst (((zS e).map fun i:Nat=>(i:Int)).map V.int))=M at s1 L1
   obtain⟨x0,x1,x2,x3,t2,fv,qj,qf,rf⟩:=zaH (rj.same s1);have lf:=rf.len;rw[zp] at lf;refine⟨_,rfl,jp,_,_,_,rfl,rfl,qj,rfl,t2,rfl,⟨_,qf⟩,Vc (K:=K) (a:=t2) (xs:=fv) (fun i g H3=>g=((wM J.fs fun k=>(zS e).count k).take i).map V.int/\Same M H3) ⟨rfl,ub _⟩ (fun i g H3 ⟨_,I⟩=>I.sqT qf) ?_ ?_⟩
   ·rintro i x g H3 T hx ⟨rfl,I⟩ hT
    obtain⟨d,e1,r1⟩:=(rf.same I).get hx;rw[qv] at e1;obtain⟨fe,N,rfl⟩:=qJ.mp e1;have hi:=(zK.mp N).1;have sT:=I.trans (zb (o:=.tup [.int (i:Int),x]) hT);obtain⟨fa,fw,rfl,aa,y1,ab,rfl,e2,y2,ac,rfl,e3,y3,ag,rfl,e4,e5⟩:=r1.same (zb (o:=.tup [.int (i:Int),x]) hT);cases e5;cases(show y3=.int fe.m from e4)
    have eg:=Z5 (c:=fun k=>(zS e).count k) N
    rw[zL eg,zR];refine⟨T,_,rfl,ua zc,rfl,_,_,rfl,_,_,rfl,fa,_,rfl,aa,rfl,_,_,rfl,_,_,rfl,_,_,rfl,rfl,rfl,rfl,?_⟩
    refine⟨_,rfl,_,rfl,.inl ⟨rfl,_,u6 (sT _ _ L1)⟩,_,rfl,l,_,(i:Int),rfl,rfl,sT _ _ L1,_,_,rfl,rfl,?_,?_,sT⟩
    ·rw[zp,qi,j9];omega
    ·rw[VT]
     rfl
   ·rintro g H3 ⟨rfl,I⟩
    rw[lf,<- j9 J.fs fun k=>(zS e).count k,qA]
    refine⟨by rw[zp,j9];omega,fun l2 O=>k l2 _ (s1.none (I.none O)) (s1.trans (I.trans (zb O))) zc⟩
inductive ZI(K:W.Frag)(f:List V)(H:Hp)(Q:VK):Prop
 | mk (s:Int) (p:Addr) (J:Job) (_:f=[.ref p,.int s]) (_:Rep K H (xu J) (.ref p)) (_:J.ps.length<=60) (_:InN J.ps.length s) (_:(∀q∈asI J,InN J.ps.length q.1/\InN J.ps.length q.2)) (_:J.as.length<=300) (_:∀(l:Addr) (e:List Int) c,Same H c->H l=none->c l=some (.lst (e.map V.int))->e.Pairwise (·< ·)->(∀j,j∈e↔j≠s/\∃k,Wk (asI J) k s j)->Q (.ref l) c):ZI K f H Q
def XS(K:W.Frag):Sp:=fun c H Q _=>ZI K c H Q
theorem XV:zB ["job","part"] ["job","part"] (zq (topL 13)):=u0
theorem zax{f:Addr}{O:FuncData}(F:Fun K "behind_of" "behind_of" (topL 13) f O)(B:Blt G)(e:Dfn P w K G C "next_by" 1 ["pairs"] (VI K))(c:Dfn P w K G C "all_from" 2 ["part","rows"] (zbx K)):FnOk P w K G C CX0 3 f O ["job","part"] (XS K):=by
 have nd:=XV.nd;refine F.ok XV (fun vs H Q E h=>?_) (fun a0 A N s H vs Q E Y h=>?_)
 ·obtain⟨s,p,J,rfl,_⟩:=h
  rfl
 ·obtain⟨s,p,J,rfl,rp,M,ins,I,al,k⟩:=h
  have T:=bG100000;refine⟨_,(zj (zw (zg c Y.m rfl (za (pv 1) (za (zg e Y.m rfl (za (zx zN (pv 0) zf (fun _ _=>rfl)) zd)) zd))))),?_⟩
  obtain⟨t,x0,x1,x2,x3,xs,qa,qt,rx⟩:=ZX rp;refine⟨_,rfl,_,rfl,p,_,_,_,rfl,rfl,qa,rfl,t,xs,asI J,rfl,.inr qt,rx,by rw[ym];omega,fun d L H1 s1 hd g nb=>?_⟩
  ·refine⟨s,d,L,asI J,J.ps.length,rfl,g,⟨fun i v hv=>let ⟨l,a,_,b⟩:=nb.at_ i v hv;⟨l,a,b⟩,nb.no⟩,M,ins,fun q hq=>(I q hq).2,by rw[ym];omega,fun l ms H2 s2 U D _ pw mem=>?_⟩
   refine k l ms H2 (s1.trans s2) ?_ D pw mem
   cases z:H l with
   | none=>rfl
   | some o=>rw[s1 _ _ z] at U;cases U
end
theorem qU(a b:List zF):zI (a++b)=zI a++zI b:=by unfold zI;rw[wb]
theorem jh(a b:List zF):zo (a++b)=zo a++zo b:=by unfold zo;rw[wb]
theorem StL.less{J:Job}{st:List Int}{l l':List (Nat×Nat)}(s:StL J st l)(h:∀f,(l'.map (·.2)).count f<=(l.map (·.2)).count f):∃A,StL J A l':=by
 refine⟨J.fs.zipIdx.map fun p=>p.1.m-((l'.map (·.2)).count p.2:Int),⟨by rw[zp,List.length_zipIdx],fun f z e=>?_,fun f z g e c=>?_⟩⟩
 ·rw[qv,Wl] at e
  obtain⟨p,C,rfl⟩:=qJ.mp e;obtain⟨g,c,rfl⟩:=qJ.mp C;have D:=(zK.mp c).1;obtain⟨w,B⟩:∃w,st[f]? =some w:=⟨_,qP (by rw[s.len];exact D)⟩
  have E:=s.nn f w B;have G:=s.cnt f w g B c;have H:=h f;show 0<=g.m-((l'.map (·.2)).count (0+f):Int)
  rw[vz];omega
 ·rw[qv,Wl,c] at e
  cases e;show g.m-((l'.map (·.2)).count (0+f):Int)=_
  rw[vz]
theorem zct{J:Job}{c:List zF}(h:∀t∈c,TripOk J t):c.length<=(zo c).length:=by
 induction c with
 | nil=>exact zM _
 | cons t c g=>
  have i:=g fun s f=>h s (jn _ f)
  have e:=h t (jz ..);have l:=e.ly.length_eq;have w:=e.p1;rw[zp] at l;show c.length+1<=(t.ly++zo c).length;rw[zZ];omega
section
variable{J:Job}{os:List Nat}{c g:List zF}
theorem PlanOk.of(C:PlanOk J os c)(B:os.length<=60)(e:∀t∈g,TripOk J t)(l:(zo g).Sublist os)(s:∀p∈J.as,p.2∈zo g->p.1∈zo g)(w:∀f,((zI g).map (·.2)).count f<=((zI c).map (·.2)).count f):PlanOk J os g:=by
 obtain⟨st,A⟩:=C.stk;exact⟨e,l,jx (zct e) (jx l.length_le B),s,A.less w⟩
theorem PlanOk.first(w:PlanOk J os c)(nd:os.Nodup)(A:ByOrd os J.as){a b:List Nat}(e:zo c=a++b):∀p∈J.as,p.2∈a->p.1∈a:=fun p hp h=>by
 have C:=w.cl p hp (by rw[e];exact jA _ h)
 obtain⟨j,f⟩:=xP.mp h;have s:=(zK.mp f).1;obtain⟨k,l,B,e1,e2⟩:=A p hp;have b1:=ZG w.sub nd (i:=j) (x:=p.2) (y:=p.1) (by rw[e,xH s];exact f) C (by
  rw[JP nd e1,JP nd e2];exact B)
 rw[e,zc5 (yP s)] at b1;exact Zi b1
theorem PlanOk.take(e:PlanOk J os c)(nd:os.Nodup)(l:ByOrd os J.as)(s:os.length<=60)(k:Nat):PlanOk J os (c.take k):=by
 have e1:zo c=zo (c.take k)++zo (c.drop k):=by rw[<- jh,xi]
 have e2:zI c=zI (c.take k)++zI (c.drop k):=by rw[<- qU,xi]
 refine e.of s (fun t h=>e.tr t (Zi h)) ?_ (e.first nd l e1) fun f=>?_
 ·have:=e.sub
  rw[e1] at this;exact(List.sublist_append_left _ _).trans this
 ·rw[e2,zR,wC];omega
end
def fdr(t:zF)(p:Nat):Nat:=((t.pk.find? fun q=>q.1==p).map (·.2)).getD 0
theorem YL{t:zF}{p:Nat}(h:p∈t.pk.map (·.1)):(p,fdr t p)∈t.pk:=by
 unfold fdr;obtain⟨q,hq,e⟩:=qz.mp h;cases c:t.pk.find? fun q=>q.1==p with
 | none=>
  have:=Wf.mp c q hq;exact absurd (jM.mpr e) this
 | some r=>
  have f:=List.find?_some c
  have g:=zcW c;show(p,r.2)∈t.pk;rw[<- eq_of_beq f];exact g
def xJ(t:zF):List zF:=t.ly.map fun p=>⟨[(p,fdr t p)],[p]⟩
theorem VZ(t:zF):zo (xJ t)=t.ly:=by
 have c:∀l:List Nat,zo (l.map fun p=>(⟨[(p,fdr t p)],[p]⟩:zF))=l:=fun l=>by
  induction l with
  | nil=>rfl
  | cons a l e=>show a::zo (l.map _)=a::l;rw[e]
 exact c t.ly
theorem zau(t:zF):zI (xJ t)=t.ly.map fun p=>(p,fdr t p):=by
 have c:∀l:List Nat,zI (l.map fun p=>(⟨[(p,fdr t p)],[p]⟩:zF))=l.map fun p=>(p,fdr t p):=fun l=>by
  induction l with
  | nil=>rfl
  | cons a l e=>show(a,fdr t a)::zI (l.map _)=_::_;rw[e]
 exact c t.ly
theorem zbV{t:zF}(B:t.ly.Perm (t.pk.map (·.1)))(s:(t.pk.map (·.1)).Nodup):(zI (xJ t)).Perm t.pk:=by
 rw[zau];refine(B.map _).trans ?_
 rw[vC];have:t.pk.map ((fun p=>(p,fdr t p))∘fun x=>x.1)=t.pk:=by
  refine(List.map_congr_left fun q hq=>?_).trans (List.map_id _)
  show(q.1,fdr t q.1)=q;have m:=YL (qz.mpr ⟨q,hq,rfl⟩:q.1∈t.pk.map (·.1))
  have:(q.1,fdr t q.1)=q:=by
   obtain⟨i,l⟩:=xP.mp m;obtain⟨j,f⟩:=xP.mp hq;have c:=(zK.mp l);have g:=(zK.mp f);obtain⟨C,w⟩:=c;obtain⟨D,A⟩:=g;have b1:(t.pk.map (·.1)).idxOf q.1=i:=by
    have:=s.idxOf_getElem i (by rw[zp];exact C)
    rwa[Wa,w] at this
   have b2:(t.pk.map (·.1)).idxOf q.1=j:=by
    have:=s.idxOf_getElem j (by rw[zp];exact D)
    rwa[Wa,A] at this
   have e:i=j:=b1.symm.trans b2;subst e;rw[l] at f;exact jm f
  exact this
 rw[this]
theorem zfb{J:Job}{t:zF}(h:TripOk J t)(c:1<=J.hd):∀u∈xJ t,TripOk J u:=fun u hu=>by
 obtain⟨p,hp,rfl⟩:=qz.mp hu;have m:=YL (h.ly.mem_iff.mp hp);refine⟨zM _,c,fun q hq=>?_,.refl _⟩
 rw[zY.mp hq];exact h.ok _ m
def Vi(a b:zF):zF:=⟨a.pk++b.pk,a.ly++b.ly⟩
def woT(S:List Nat)(t:zF):zF:=⟨t.pk.filter fun q=>!decide (q.1∈S),t.ly.filter fun p=>!decide (p∈S)⟩
def woP(S:List Nat)(c:List zF):List zF:=(c.map (woT S)).filter fun t=>!t.pk.isEmpty
section
variable{J:Job}{os:List Nat}{c:List zF}
theorem PlanOk.nd(l:PlanOk J os c)(nd:os.Nodup){t:zF}(f:t∈c):(t.pk.map (·.1)).Nodup:=by
 obtain⟨i,A⟩:=xP.mp f;have e:zo c=zo (c.take i)++(t.ly++zo (c.drop (i+1))):=by
  have:c=c.take i++t::c.drop (i+1):=by
   obtain⟨s,w⟩:=zK.mp A;rw[<- w,<- WA s,xi]
  conv=>lhs;rw[this,jh]
  rfl
 have g:=l.sub.nodup nd;rw[e] at g;have B:=(Qc.mp (Qc.mp g).2.1).1;exact(l.tr t f).ly.nodup_iff.mp B
theorem PlanOk.tv(f:PlanOk J os c)(nd:os.Nodup){t:zF}(e:t∈c):TripV J t:=by
 have h:=f.tr t e;refine⟨h.p1,h.p2,fun q hq=>?_,h.ly,f.nd nd e⟩
 obtain⟨l,g,e1,e2,_⟩:=h.ok q hq;exact⟨(zK.mp e1).1,(zK.mp e2).1⟩
theorem PlanOk.part(g:PlanOk J os c)(nd:os.Nodup)(D:os.length<=60)(C:1<=J.hd)(k:Nat):PlanOk J os (c.take k++(c.drop k).flatMap xJ)/\zo (c.take k++(c.drop k).flatMap xJ)=zo c:=by
 have B:∀l:List zF,zo (l.flatMap xJ)=zo l:=fun l=>by
  induction l with
  | nil=>rfl
  | cons t l s=>
   show zo (xJ t++l.flatMap xJ)=t.ly++zo l;rw[jh,VZ,s]
 have e:zo (c.take k++(c.drop k).flatMap xJ)=zo c:=by
  rw[jh,B,<- jh,xi]
 have G:∀l:List zF,(∀t∈l,t∈c)->(zI (l.flatMap xJ)).Perm (zI l):=fun l=>by
  induction l with
  | nil=>intro _;exact .refl _
  | cons t l s=>
   intro w;show(zI (xJ t++l.flatMap xJ)).Perm (t.pk++zI l);rw[qU];have A:=w t (jz ..);exact(zbV (g.tr t A).ly (g.nd nd A)).append (s fun H h=>w H (jn _ h))
 refine⟨g.of D (fun t h=>?_) (by rw[e];exact g.sub) (by rw[e];exact g.cl) fun f=>?_,e⟩
 ·rcases qo.mp h with h | h
  ·exact g.tr t (Zi h)
  ·obtain⟨u,hu,h⟩:=List.mem_flatMap.mp h
   exact zfb (g.tr u (Qp hu)) C t h
 ·have E:(zI (c.take k++(c.drop k).flatMap xJ)).Perm (zI c):=by
   rw[qU];have:=(List.Perm.refl (zI (c.take k))).append (G (c.drop k) fun t h=>Qp h)
   have e2:zI (c.take k)++zI (c.drop k)=zI c:=by rw[<- qU,xi]
   rw[e2] at this;exact this
  rw[(E.map _).count_eq];exact zM _
theorem PlanOk.join(s:PlanOk J os c)(E:os.length<=60){a b:zF}{l g:List zF}(e:c=l++[a,b]++g)(G:(a.ly.length:Int)+b.ly.length<=J.hd):PlanOk J os (l++[Vi a b]++g):=by
 have w:=s.tr a (by rw[e];simp)
 have hb:=s.tr b (by rw[e];simp)
 have A:zo (l++[Vi a b]++g)=zo c:=by
  rw[e,jh,jh,jh,jh];congr 2
  show(a.ly++b.ly)++[]=a.ly++(b.ly++[]);rw[jH,jH]
 have B:zI (l++[Vi a b]++g)=zI c:=by
  rw[e,qU,qU,qU,qU];congr 2
  show(a.pk++b.pk)++[]=a.pk++(b.pk++[]);rw[jH,jH]
 have C:=w.ly.length_eq;have D:=hb.ly.length_eq;rw[zp] at C D;refine s.of E (fun t h=>?_) (by rw[A];exact s.sub) (by rw[A];exact s.cl) fun f=>by rw[B];exact zM _
 rcases qo.mp h with h | h
 ·rcases qo.mp h with h | h
  ·exact s.tr t (by rw[e];simp[h])
  ·rw[zY.mp h]
   refine⟨?_,?_,fun q hq=>?_,?_⟩
   ·show 1<=(a.pk++b.pk).length
    rw[zZ];have:=w.p1;omega
   ·show((a.pk++b.pk).length:Int)<=J.hd
    rw[zZ];omega
   ·rcases qo.mp hq with h | h
    ·exact w.ok q h
    ·exact hb.ok q h
   ·show(a.ly++b.ly).Perm ((a.pk++b.pk).map (·.1))
    rw[zR];exact w.ly.append hb.ly
 ·exact s.tr t (by rw[e];simp[h])
end
theorem yJ{α:Type}{f:Nat->Option α}:∀{k i:Nat},ye f i k=none->∀j,i<=j->j<i+k->f j=none
 | 0,_,_,_,c,g=>by omega
 | k+1,i,h,j,c,g=>by
  unfold ye at h;cases e:f i with
  | some w=>rw[e] at h;cases h
  | none=>
   rw[e] at h;by_cases z:i=j
   ·rw[<- z];exact e
   ·exact yJ h j (by omega) (by omega)
theorem yI{α:Type}{f:Nat->Option α}{x:α×Nat}:∀{k i:Nat},ye f i k=some x->x.2<i+k/\f x.2=some x.1
 | 0,_,h=>by cases h
 | k+1,i,h=>by
  unfold ye at h;cases e:f i with
  | some w=>
   rw[e] at h;cases h;exact⟨by show i<i+(k+1);omega,e⟩
  | none=>
   rw[e] at h;obtain⟨g,c⟩:=yI h;exact⟨by omega,c⟩
section
variable{J:Job}{os:List Nat}{e:List zF}
theorem zdo(T:∀t∈e,TripOk J t)(sub:(zo e).Sublist os)(Q:os.Nodup){st:List Int}(C:StL J st (zI e)){i:Nat}{t:zF}(s:e[i]? =some t):∀j,j<t.pk.length->pkF J (zo (e.take i)) (j3 (e.take i)) t j=none:=fun j L=>by
 have B:(zo e).Nodup:=Q.sublist sub;have l:=T t (qq s);have f:t.pk[j]? =some t.pk[j]:=qP L;generalize t.pk[j]=p at f;obtain⟨U,D,G,w,H⟩:=l.ok p (qq f);have N:¬p.1∈zo (e.take i):=fun M=>by
  obtain⟨m,A⟩:=xP.mp (l.ly.mem_iff.mpr (qz.mpr ⟨p,qq f,rfl⟩));obtain⟨q,e1,e2⟩:=Zy s A;have I:p.1∈(zo e).take q:=by rw[e2];exact jA _ M
  obtain⟨r,g⟩:=xP.mp I;rw[Qm] at g;split at g
  ·have:=(List.getElem?_inj (zK.mp g).1 B).mp (g.trans e1.symm)
   omega
  ·cases g
 have O:¬D.m<=(((j3 (e.take i)++(t.pk.take j).map (·.2)).count p.2:Nat):Int):=by
  have E:p.2<st.length:=by rw[C.len];exact(zK.mp w).1
  have a:=C.nn p.2 _ (qP E);have b:=C.cnt p.2 _ D (qP E) w;have c:=zed s f p.2;rw[zL f,zR,<- xG,wC,show([p].map (·.2)).count p.2=1 from Wz] at c
  have d:(j3 e).count p.2=((zI e).map (·.2)).count p.2:=rfl
  omega
 rw[VP f,ZN G w,zC H,zv N,zv O]
theorem zcG(B:∀t∈e,TripOk J t)(sub:(zo e).Sublist os)(w:os.Nodup){st:List Int}(A:StL J st (zI e)){x:(Str×Nat)×Nat}(h:Z4 J e=some x):x.1.1 = "ahead" :=by
 obtain⟨s,f⟩:=yI h;rw[vz] at s;have l:e[x.2]? =some e[x.2]:=qP s;rw[JU l] at f;unfold flT at f;rw[wv (zdo B sub w A l)] at f;obtain⟨y,e1,e2⟩:=qJ.mp f;obtain⟨_,g⟩:=yI e1;unfold lyF at g;obtain⟨p,_,c⟩:=Option.bind_eq_some_iff.mp g;unfold Vg at c;rw[<- e2];split at c
 ·cases c
 ·exact(jm c).symm
theorem zdZ{q:Nat}{x:Int}(hq:q∈zo e)(hu:UpA J q x)(hx:x∉nI (zo e)):Z4 J e≠none:=fun h=>by
 obtain⟨t,B,w⟩:=List.mem_flatMap.mp hq;obtain⟨i,s⟩:=xP.mp B;obtain⟨j,l⟩:=xP.mp w;have C:=(zK.mp s).1;have D:=(zK.mp l).1;have c:=yJ h i (qQ _) (by omega)
 rw[JU s] at c;unfold flT at c;split at c
 ·cases c
 ·have g:=yJ (Option.map_eq_none_iff.mp c) j (qQ _) (by omega)
  rw[VY l] at g;unfold Vg at g;split at g
  ·rename_i f
   have A:=f x hu;obtain⟨m,_,e2⟩:=Zy s l;rw[<- e2] at A;obtain⟨y,hy,rfl⟩:=qz.mp A;exact hx (vP.mpr (Zi hy))
  ·cases g
end
section
variable{J:Job}{os:List Nat}{c:List zF}{S:List Nat}
theorem WH{t:zF}(h:t.ly.Perm (t.pk.map (·.1))):(woT S t).ly.Perm ((woT S t).pk.map (·.1)):=by
 have:=h.filter fun p=>!decide (p∈S)
 rw[List.filter_map] at this;exact this
theorem Zx(h:∀t∈c,t.ly.Perm (t.pk.map (·.1))):zo (woP S c)=(zo c).filter fun p=>!decide (p∈S):=by
 induction c with
 | nil=>rfl
 | cons t c A=>
  have i:=A fun B s=>h B (jn _ s)
  have e:(zo (t::c)).filter (fun p=>!decide (p∈S))=(woT S t).ly++zo (woP S c):=by
   rw[i];show(t.ly++zo c).filter _=_;rw[v1];rfl
  rw[e];unfold woP;rw[qY,Qa];split
  ·rfl
  ·rename_i z
   have g:(woT S t).pk=[]:=by
    cases w:(woT S t).pk with
    | nil=>rfl
    | cons a l=>rw[w] at z;exact absurd rfl z
   have f:(woT S t).ly=[]:=by
    have:=(WH (S:=S) (h t (jz ..))).length_eq;rw[g] at this;exact Wu.mp this
   rw[f];rfl
theorem zbZ:zI (woP S c)=(zI c).filter fun q=>!decide (q.1∈S):=by
 induction c with
 | nil=>rfl
 | cons t c g=>
  have e:(zI (t::c)).filter (fun q=>!decide (q.1∈S))=(woT S t).pk++zI (woP S c):=by
   rw[g];show(t.pk++zI c).filter _=_;rw[v1];rfl
  rw[e];unfold woP;rw[qY,Qa];split
  ·rfl
  ·rename_i z
   have f:(woT S t).pk=[]:=by
    cases w:(woT S t).pk with
    | nil=>rfl
    | cons a l=>rw[w] at z;exact absurd rfl z
   rw[f];rfl
theorem WI(s:∀t∈c,TripOk J t):∀u∈woP S c,TripOk J u:=fun u hu=>by
 obtain⟨f,e⟩:=xx.mp hu;obtain⟨t,g,rfl⟩:=qz.mp f;have h:=s t g;refine⟨?_,?_,fun q hq=>h.ok q (xx.mp hq).1,WH h.ly⟩
 ·cases w:(woT S t).pk with
  | nil=>rw[w] at e;cases e
  | cons a l=>exact wN _
 ·have:=xU (fun q:Nat×Nat=>!decide (q.1∈S)) t.pk
  have:=h.p2;show((t.pk.filter fun q:Nat×Nat=>!decide (q.1∈S)).length:Int)<=J.hd
  omega
theorem Vz(e:PlanOk J os c):(zo (woP S c)).Sublist os:=by
 rw[Zx fun t h=>(e.tr t h).ly]
 exact Wi.trans e.sub
theorem ZA(f:Nat):((zI (woP S c)).map (·.2)).count f<=((zI c).map (·.2)).count f:=by
 rw[zbZ];exact(Wi.map _).count_le f
theorem PlanOk.wo(e:PlanOk J os c)(s:os.length<=60)(l:∀p∈J.as,p.1∈S->p.2∈S):PlanOk J os (woP S c):=by
 refine e.of s (WI e.tr) (Vz e) (fun p hp h=>?_) ZA
 rw[Zx fun t h=>(e.tr t h).ly] at h ⊢
 obtain⟨f,g⟩:=xx.mp h;refine xx.mpr ⟨e.cl p hp f,?_⟩
 have n:p.2∉S:=by simpa using g
 have:p.1∉S:=fun z=>n (l p hp z)
 simpa using this
end
section
variable{P:Program}{w:World}{K:W.Frag}{G:Str->Option Value}{C:Heap}
theorem inS(z:Nat)(S:List Nat):inV (.int (z:Int)) (zn S)=decide (z∈S):=by
 rw[zeL];by_cases h:z∈S
 ·rw[je h,je (vP.mpr h)]
 ·rw[jN h,jN fun e=>h (vP.mp e)]
inductive zbe(K:W.Frag)(B:List V)(H:Hp)(Q:VK):Prop
 | mk (f g:Addr) (e:List zF) (s:List V) (S:List Nat) (_:B=[.ref f,.ref g]) (_:SqL K H f s) (_:Reps K H (e.map qy) s) (_:e.length<=100) (_:(∀t∈e,t.pk.length<=100/\t.ly.length<=100)) (_:SqL K H g (zn S)) (_:∀(l:Addr) (A:List V) c,H l=none->Same H c->c l=some (.lst A)->Reps K c ((woP S e).map qy) A->Q (.ref l) c):zbe K B H Q
def zf7(K:W.Frag):Sp:=fun c H Q _=>zbe K c H Q
theorem zgg:zB ["_law_plan_here","_law_parts","_law_found","_law_picks_here","_law_lays","_law_rest"] ["_law_plan_here","_law_parts"] (zq (topL 47)):=u0
theorem zgI{f:Addr}{fd:FuncData}(F:Fun K "_law_without" "_law_without" (topL 47) f fd)(B:Blt G):FnOk P w K G C CX0 1 f fd ["_law_plan_here","_law_parts"] (zf7 K):=by
 have nd:=zgg.nd;refine F.ok zgg (fun vs H Q E h=>?_) (fun am A ak s H vs Q E hr h=>?_)
 ·obtain⟨pl,pt,U,tr,S,rfl,_⟩:=h
  rfl
 ·obtain⟨pl,pt,U,tr,S,rfl,hp,rt,tl,tb,hs,k⟩:=h
  have hu:=hr.units0;have al:=bG100000;refine⟨_,(ze (zG (i:=2) nd rfl (Or.inl rfl) (zV zd))
   (ze (qR jy rfl (qW (pv 0)) (qF rfl (zr (zy (i:=3) nd rfl (Or.inl rfl)) (zr (zy (i:=4) nd rfl (Or.inl rfl)) qe)))
   (ze (zG (i:=5) nd rfl (Or.inl rfl) (qL ja rfl B.tuple jj (za (jS ["_law_parts"] [1] rfl rfl (by kernel_rfl) (jt (pv 3)) (fun _ _ _ _=>(vn (zJ (xY (K:=K) rfl) (zx (ji (K:=K) rfl) (pv 0) zf (fun _ _=>rfl)) (pv 1) (by with_unfolding_all rfl)))) (fun _ _ _ _=>(pv 0))) zd)))
    (zj (qI (zJ (zdv hu) (pv 5) (qS zd) (zO _))
    (zj (jb (xc xj we wc jd (pv 2) (za (qS (za (pv 5) (za (qL ja rfl B.tuple jj (za (jS ["_law_parts"] [1] rfl rfl (by kernel_rfl) (jt (pv 4)) (fun _ _ _ _=>(vn (zJ (xY (K:=K) rfl) (pv 0) (pv 1) (by with_unfolding_all rfl)))) (fun _ _ _ _=>(pv 0))) zd)) zd))) zd))))
    zU))))
   (zj (zw (pv 2))))),?_⟩
  refine⟨le0,fun q hq=>⟨_,rfl,pl,rfl,⟨_,(zb hq).seq hp⟩,?_⟩⟩
  have ai:H q=none:=hq;have lt:=rt.len;rw[zp] at lt;refine jL (K:=K) (a:=pl) (xs:=tr) (fun i σ J=>Ex4 fun(v3 v4 v5:Option V) (M:List V)=>An4 (σ=[some (.ref pl),some (.ref pt),some (.ref q),v3,v4,v5]) (Same H J) (J q=some (.lst M)) (Reps K J ((woP S (U.take i)).map qy) M))
   ⟨_,_,_,[],rfl,zb hq,zc,rfl⟩ (fun i σ J _ ⟨_,_,_,_,_,s,_,_⟩=>s.seq hp) ?_ ?_
  ·rintro i x σ H1 hx ⟨v3,v4,v5,M,rfl,s1,Q1,r1⟩
   obtain⟨d,ed,rd⟩:=(rt.same s1).get hx;rw[qv] at ed;obtain⟨t,et,rfl⟩:=qJ.mp ed;have hi:=(zK.mp et).1;obtain⟨tp,a,c,xs,ys,rfl,qt,qa,ra,qc,rc⟩:=qT (K:=K) rd;cases xr rc;obtain⟨bp,bl⟩:=tb t (qq et);have lx:=ra.len;rw[zp] at lx;refine⟨tp,_,rfl,qt,rfl,_,_,rfl,_,_,rfl,rfl,?_⟩
   refine⟨_,rfl,a,rfl,⟨_,qa⟩,jJ (K:=K) (a:=a) (xs:=xs) (fun j g J=>Reps K J (((t.pk.take j).filter fun q=>!decide (q.1∈S)).map jK) g/\Same H1 J) ⟨rfl,ub _⟩ (fun j g J ⟨_,s⟩=>s.sqT qa) ?_ ?_⟩
   ·rintro j x g H2 hx ⟨O,s2⟩
    obtain⟨d,e1,r2⟩:=(ra.same s2).get hx;rw[qv] at e1;obtain⟨p,ep,rfl⟩:=qJ.mp e1;have hj:=(zK.mp ep).1;obtain⟨pa,rfl,qp⟩:=qM (K:=K) r2;have Y:=O.len;have lf:=xU (fun q:Nat×Nat=>!decide (q.1∈S)) (t.pk.take j)
    rw[zp] at Y;rw[qi] at lf;have ht:(t.pk.take (j+1)).filter (fun q:Nat×Nat=>!decide (q.1∈S))=(t.pk.take j).filter (fun q:Nat×Nat=>!decide (q.1∈S))++if !decide (p.1∈S) then [p] else []:=by
     rw[zL ep,v1,Qa];rfl
    rw[ht];refine⟨rfl,_,rfl,pa,_,_,_,rfl,rfl,qp,rfl,_,rfl,pt,_,rfl,.inl (s2.seq (s1.seq hs)),rfl,jr S,_,rfl,?_⟩
    rw[inS];refine jC (fun e=>⟨_,rfl,by omega,?_,s2⟩) (fun e=>⟨?_,s2⟩)
    ·have e:(!decide (p.1∈S))=true:=e
     rw[zC e,zR];exact ud r2 O
    ·have e:¬(!decide (p.1∈S))=true:=e
     rw[zv e,jH];exact O
   rintro g H2 ⟨O,s2⟩;have aj:t.pk.take xs.length=t.pk:=by rw[lx,qA]
   rw[aj] at O;have Y:=O.len;have lf:=xU (fun q:Nat×Nat=>!decide (q.1∈S)) t.pk
   rw[zp] at Y;refine⟨by omega,fun D hD=>⟨D,g,rfl,.inl ⟨u6 zc,fun I N=>?_⟩⟩⟩
   have u3:=(zb (o:=.lst g) hD).trans (zb (o:=.tup g) N);have R3:SqT K (upd (upd H2 D (.lst g)) I (.tup g)) I g:=ua zc;have s3:=s2.trans u3;have ac:=O.same u3;generalize upd (upd H2 D (.lst g)) I (.tup g)=H3 at u3 R3 s3 ac;clear hD N u3 s2 O;refine⟨_,rfl,le0,fun e he=>?_⟩
   have u4:=zb (o:=.tup []) he;have L:=s3.trans u4;have R4:=u4.sqT R3;have ae:=ac.same u4;refine⟨I,e,g,rfl,rfl,R4,ua zc,_,rfl,?_⟩
   generalize upd H3 e (.tup [])=H4 at u4 L R4 ae;have ag:U.take (i+1)=U.take i++[t]:=zL et;have wa:woP S (U.take (i+1))=woP S (U.take i)++if(woT S t).pk.isEmpty then [] else [woT S t]:=by
    rw[ag];unfold woP;rw[zR,v1];congr 1
    show([woT S t].filter fun t=>!t.pk.isEmpty)=_
    rw[Qa];cases(woT S t).pk.isEmpty<;>rfl
   have ez:g.isEmpty=(woT S t).pk.isEmpty:=by
    show _=(t.pk.filter fun q:Nat×Nat=>!decide (q.1∈S)).isEmpty
    cases g with
    | nil=>
     have:(t.pk.filter fun q:Nat×Nat=>!decide (q.1∈S))=[]:=Wu.mp Y.symm
     rw[this];rfl
    | cons z g=>
     cases e':(t.pk.filter fun q:Nat×Nat=>!decide (q.1∈S)) with
     | nil=>rw[e'] at Y;cases Y
     | cons p l=>rfl
   rw[wa,<- ez];refine jC (fun hc=>?_) (fun hc=>?_)
   ·refine⟨_,rfl,.inl ⟨rfl,_,u6 (L _ _ Q1)⟩,?_⟩
    have ah:g.isEmpty=false:=by simpa using hc
    have ss:=s1.trans L;refine⟨_,rfl,_,rfl,c,rfl,⟨_,L.sqT qc⟩,jJ (K:=K) (a:=c) (xs:=zn t.ly) (fun j vs J=>vs=zn ((t.ly.take j).filter fun p=>!decide (p∈S))/\Same H4 J) ⟨rfl,ub _⟩ (fun j vs J ⟨_,s⟩=>s.sqT (L.sqT qc)) ?_ ?_⟩
    ·rintro j x vs H5 hx ⟨rfl,s5⟩
     obtain⟨pn,ep,rfl⟩:=j7 hx;have hj:=(zK.mp ep).1;have ab:=xU (fun p=>!decide (p∈S)) (t.ly.take j)
     rw[qi] at ab;have ht:(t.ly.take (j+1)).filter (fun p=>!decide (p∈S))=(t.ly.take j).filter (fun p=>!decide (p∈S))++if !decide (pn∈S) then [pn] else []:=by
      rw[zL ep,v1,Qa];rfl
     rw[ht];refine⟨rfl,_,rfl,_,rfl,pt,_,rfl,.inl (s5.seq (ss.seq hs)),rfl,jr S,_,rfl,?_⟩
     rw[inS];refine jC (fun e=>⟨_,rfl,by rw[zu];omega,?_,s5⟩) (fun e=>⟨?_,s5⟩)
     ·have e:(!decide (pn∈S))=true:=e
      rw[zC e,yF]
     ·have e:¬(!decide (pn∈S))=true:=e
      rw[zv e,jH]
    rintro vs H5 ⟨rfl,s5⟩;have af:t.ly.take (zn t.ly).length=t.ly:=by rw[zu,qA]
    rw[af];have ab:=xU (fun p=>!decide (p∈S)) t.ly
    refine⟨by rw[zu];omega,fun D hD=>⟨D,_,rfl,.inl ⟨u6 zc,fun lt' a0=>⟨le2,fun tt aa=>?_⟩⟩⟩⟩
    have u5:=(zb (o:=.lst (zn (t.ly.filter fun p=>!decide (p∈S)))) hD).trans (zb (o:=.tup (zn (t.ly.filter fun p=>!decide (p∈S)))) a0)
    have L6:upd (upd H5 D (.lst (zn (t.ly.filter fun p=>!decide (p∈S))))) lt' (.tup (zn (t.ly.filter fun p=>!decide (p∈S)))) lt'=some (.tup (zn (t.ly.filter fun p=>!decide (p∈S)))):=zc
    have s6:=s5.trans u5;generalize upd (upd H5 D (.lst (zn (t.ly.filter fun p=>!decide (p∈S))))) lt' (.tup (zn (t.ly.filter fun p=>!decide (p∈S))))=H6 at s6 L6 aa
    have u7:=zb (o:=.tup [.ref I,.ref lt']) aa;have s7:=s6.trans u7;have RT:Rep K (upd H6 tt (.tup [.ref I,.ref lt'])) (qy (woT S t)) (.ref tt):=⟨tt,_,rfl,ua zc,_,_,rfl,⟨I,g,rfl,s7.sqT R4,ae.same s7⟩,_,_,rfl,⟨lt',_,rfl,ua (u7 _ _ L6),yE _⟩,rfl⟩;have Q7:=s7 _ _ (L _ _ Q1);have r7:=r1.same (L.trans s7);have S7:=ss.trans s7;generalize upd H6 tt (.tup [.ref I,.ref lt'])=H7 at u7 s7 RT Q7 r7 S7;have lu:M.length<=100:=by
     have:=r7.len;rw[zp] at this;have a:=xU (fun t:zF=>!t.pk.isEmpty) ((U.take i).map (woT S))
     rw[zp,qi] at a;show M.length<=100;rw[this];exact jx a (by omega)
    refine⟨q,_,_,rfl,rfl,Q7,by omega,_,_,_,M++[.ref tt],rfl,?_,zc,?_⟩
    ·exact XX S7 ai
    ·rw[ah,zv (by decide),zR]
     have T:=ui (ys:=M++[.ref tt]) Q7;exact ud (RT.keep T (yy _)) (r7.keep T (jE _))
   ·have:g.isEmpty=true:=by simpa using hc
    rw[this];exact⟨_,_,_,M,rfl,s1.trans L,L _ _ Q1,by rw[zC rfl,jH];exact r1.same L⟩
  ·rintro σ H1 ⟨v3,v4,v5,M,rfl,s1,Q1,r1⟩
   rw[lt,qA] at r1;exact⟨_,rfl,k q M H1 (by
    cases e:H q with
    | none=>rfl
    | some o=>rw[e] at hq;cases hq) s1 Q1 r1⟩
inductive zeD(K:W.Frag)(x y:V)(H:Hp)(Q:VK):Prop
 | mk (a b:Addr) (e f:List V) (_:x=.ref a) (_:y=.ref b) (_:SqT K H a e) (_:SqT K H b f) (_:e.length+f.length<=sizeLine) (_:∀p c,Same H c->SqT K c p (e++f)->Q (.ref p) c):zeD K x y H Q
theorem Yw{X:Cx}:OpR X (binaryOp .Add) (zeD X.K):=by
 intro c s σ H x y v u Q I g l h;obtain⟨a,b,A,B,rfl,rfl,f,hb,D,q⟩:=h;by_cases e:A=[]
 ·subst e
  exact zce c s σ H v u Q I g l ⟨a,b,B,rfl,rfl,f,hb,q b H (ub _) hb⟩
 ·refine zdy c s σ H _ _ v u Q I g l ⟨a,b,A,B,rfl,rfl,f,hb,e,D,fun z=>?_,fun z p hp=>q p _ (zb hp) (ua zc)⟩
  exact q a H (ub _) (by rw[z,jH];exact f)
theorem WJ{k:Key}:∀{c:List (Key×V)},k∉c.map (·.1)->qH c k=none
 | [],_=>rfl
 | p::r,h=>by
  rw[qY,qm] at h;rw[qN fun e=>h (.inl e.symm)]
  exact WJ fun z=>h (.inr z)
theorem Jb(j:Key):∀(more c:List (Key×V)),(more.map (·.1)).Nodup->qH (jg c more) j=(qH more j).or (qH c j)
 | [],c,_=>rfl
 | (k,v)::more,c,g=>by
  have f:=yT.mp g;show qH (jg (j4 c k v) more) j=_;rw[Jb j more _ f.2,wT];by_cases e:k=j
  ·subst e
   rw[qV (p:=(k,v)) rfl,WJ f.1,zC rfl];rfl
  ·rw[qN (p:=(k,v)) e,zv fun z=>e z.symm]
def kpT(c:List (Nat×Nat)):List (Key×V):=c.map fun q=>(Sum.inl (q.1:Int),V.int (q.2:Int))
theorem YC(p:Nat):∀c:List (Nat×Nat),qH (kpT c) (Sum.inl (p:Int))=((c.find? fun q=>q.1==p).map (·.2)).map fun f:Nat=>V.int (f:Int)
 | []=>rfl
 | q::c=>by
  show qH ((Sum.inl (q.1:Int),V.int (q.2:Int))::kpT c) _=_;rw[wQ];by_cases e:q.1=p
  ·rw[qV (by rw[e]),jM.mpr e];rfl
  ·rw[qN (fun z=>e (Qg (vB z))),beq_eq_false_iff_ne.mpr e]
   exact YC p c
theorem zdT{t:zF}{p:Nat}(f:(t.pk.map (·.1)).Nodup)(h:p∈t.pk.map (·.1)):qH (jg [] (kpT t.pk)) (Sum.inl (p:Int))=some (.int (fdr t p:Int)):=by
 have g:((kpT t.pk).map (·.1)).Nodup:=by
  unfold kpT;rw[vC];rw[show((fun x:Key×V=>x.1)∘fun q:Nat×Nat=>((Sum.inl (q.1:Int):Key),V.int (q.2:Int)))=(fun n:Nat=>(Sum.inl (n:Int):Key))∘fun q:Nat×Nat=>q.1 from rfl,<- vC]
  exact Xb.mpr (f.imp fun h e=>h (Qg (vB e)))
 rw[Jb _ _ _ g,YC];unfold fdr;obtain⟨q,hq,e⟩:=qz.mp h;cases c:t.pk.find? fun q=>q.1==p with
 | none=>exact absurd (jM.mpr e) (Wf.mp c q hq)
 | some r=>rfl
theorem zdm{H:Hp}{c:List (Nat×Nat)}{f:List V}(r:Reps K H (c.map jK) f):zhi K H f (kpT c):=by
 have ln:=r.len;rw[zp] at ln;refine⟨by unfold kpT;rw[ln,zp],fun j x e=>?_⟩
 obtain⟨d,e1,s⟩:=r.get e;rw[qv] at e1;obtain⟨p,g,rfl⟩:=qJ.mp e1;obtain⟨a,rfl,l⟩:=qM (K:=K) s;exact⟨a,Sum.inl (p.1:Int),.int (p.2:Int),rfl,l,by unfold kpT;rw[qv,g];rfl⟩
inductive XJ(K:W.Frag)(g:List V)(H:Hp)(Q:VK):Prop
 | mk (e:Addr) (t:zF) (_:g=[.ref e]) (_:Rep K H (qy t) (.ref e)) (_:t.pk.length<=100) (_:t.ly.Perm (t.pk.map (·.1))) (_:(t.pk.map (·.1)).Nodup) (_:∀(l:Addr) (f:List V) c,H l=none->Same H c->c l=some (.lst f)->Reps K c ((xJ t).map qy) f->Q (.ref l) c):XJ K g H Q
def zbk(K:W.Frag):Sp:=fun c H Q _=>XJ K c H Q
theorem zbH:zB ["_law_trip_here","_law_feeders_here"] ["_law_trip_here"] (zq (topL 48)):=u0
theorem zdF{f:Addr}{fd:FuncData}(F:Fun K "_law_parted" "_law_parted" (topL 48) f fd)(B:Blt G)(T0:Tdn K):FnOk P w K G C CX0 1 f fd ["_law_trip_here"] (zbk K):=by
 have nd:=zbH.nd;refine F.ok zbH (fun vs H Q E h=>?_) (fun ae A ab s H vs Q E U h=>?_)
 ·obtain⟨tp,t,rfl,_⟩:=h
  rfl
 ·obtain⟨tp,t,rfl,rt,tl,ly,aa,k⟩:=h
  have hu:=U.units0;have Y:=Je U;have ac:=bG100000;refine⟨_,(ze (zG (i:=1) nd rfl (Or.inr rfl) (qL (V3 (K:=K) rfl T0 U.hd) rfl B.dict zaT (za (zx zN (pv 0) zf (fun _ _=>rfl)) zd)))
   (zj (zw (jS ["_law_feeders_here"] [1] rfl rfl (by kernel_rfl) (jt (zx zN (pv 0) zf (fun _ _=>rfl))) (fun _ _ _ _=>qG) (fun _ _ _ _=>(qS (za (qS (za (qS (za (pv 0) (za (Yr Y (pv 1) (pv 0) (fun _ _=>rfl)) zd))) zd)) (za (qS (za (pv 0) zd)) zd)))))))),?_⟩
  obtain⟨af,a,c,xs,ys,e,qt,qa,ra,qc,rc⟩:=qT (K:=K) rt;cases e;cases xr rc;have a0:=ly.length_eq;rw[zp] at a0;refine⟨_,rfl,tp,_,_,_,rfl,rfl,qt,rfl,a,xs,kpT t.pk,rfl,qa,zdm ra,fun d hd=>?_⟩
  have s1:=zb (o:=.dK (jg [] (kpT t.pk))) hd;have D1:upd H d (.dK (jg [] (kpT t.pk))) d=some (.dK (jg [] (kpT t.pk))):=zc;generalize upd H d (.dK (jg [] (kpT t.pk)))=H1 at s1 D1;refine⟨_,rfl,tp,_,_,_,rfl,rfl,s1.sqT qt,rfl,c,rfl,⟨_,s1.sqT qc⟩,jJ (K:=K) (a:=c) (xs:=zn t.ly) (fun j I N=>Reps K N (((t.ly.take j).map fun p=>(⟨[(p,fdr t p)],[p]⟩:zF)).map qy) I/\Same H1 N) ⟨rfl,ub _⟩ (fun j I N ⟨_,s⟩=>s.sqT (s1.sqT qc)) ?_ ?_⟩
  ·rintro j x I J hx ⟨l,s2⟩
   obtain⟨p,O,rfl⟩:=j7 hx;have hj:=(zK.mp O).1;have hv:=zdT aa (ly.mem_iff.mp (qq O));have lz:=l.len;rw[zp,zp,qi] at lz;refine⟨rfl,_,rfl,_,rfl,_,rfl,d,.int (fdr t p:Int),rfl,by rw[<- hv];exact DGet.k (k:=Sum.inl (p:Int)) (s2 _ _ D1),le2,fun g h1=>⟨le1,fun L h2=>⟨_,rfl,le1,fun t3 h3=>⟨le2,fun t4 h4=>⟨by omega,?_,?_⟩⟩⟩⟩⟩
   ·have u1:=zc (H:=J) (a:=g) (o:=.tup [.int (p:Int),.int (fdr t p:Int)])
    have v2:=zb (o:=.tup [.ref g]) h2;have u2:=zc (H:=upd J g (.tup [.int (p:Int),.int (fdr t p:Int)])) (a:=L) (o:=.tup [.ref g]);have v3:=zb (o:=.tup [.int (p:Int)]) h3;have u3:=zc (H:=upd (upd J g (.tup [.int (p:Int),.int (fdr t p:Int)])) L (.tup [.ref g])) (a:=t3) (o:=.tup [.int (p:Int)]);have M:=zb (o:=.tup [.ref L,.ref t3]) h4;have v:=((zb (o:=.tup [.int (p:Int),.int (fdr t p:Int)]) h1).trans v2).trans (v3.trans M);rw[zL O,zR,zR];exact ud (d:=qy ⟨[(p,fdr t p)],[p]⟩) ⟨t4,_,rfl,ua zc,_,_,rfl,⟨L,_,rfl,ua (M _ _ (v3 _ _ u2)),_,_,rfl,⟨g,_,rfl,ua (M _ _ (v3 _ _ (v2 _ _ u1))),_,_,rfl,rfl,_,_,rfl,rfl,rfl⟩,rfl⟩,_,_,rfl,⟨t3,_,rfl,ua (M _ _ u3),_,_,rfl,rfl,rfl⟩,rfl⟩ (l.same v)
   ·exact s2.trans (((zb h1).trans (zb h2)).trans ((zb h3).trans (zb h4)))
  rintro I J ⟨l,s2⟩;rw[zu,qA] at l;have lz:=l.len;rw[zp,zp] at lz;refine⟨by omega,fun D T=>?_⟩
  have s3:=(s1.trans s2).trans (zb (o:=.lst I) T);exact k D I _ ((s1.trans s2).free T) s3 zc (l.same (zb T))
inductive XO(K:W.Frag)(l:List V)(H:Hp)(Q:VK):Prop
 | mk (e f:Addr) (a b:zF) (_:l=[.ref e,.ref f]) (_:Rep K H (qy a) (.ref e)) (_:Rep K H (qy b) (.ref f)) (_:a.pk.length<=100) (_:a.ly.length<=100) (_:b.pk.length<=100) (_:b.ly.length<=100) (_:∀(g:Addr) c,Same H c->Rep K c (qy (Vi a b)) (.ref g)->Q (.ref g) c):XO K l H Q
def zbp(K:W.Frag):Sp:=fun c H Q _=>XO K c H Q
theorem zbL:zB ["_law_one","_law_other"] ["_law_one","_law_other"] (zq (topL 49)):=u0
theorem zdK{f:Addr}{O:FuncData}(F:Fun K "_law_joined" "_law_joined" (topL 49) f O)(B:Blt G):FnOk P w K G C CX0 1 f O ["_law_one","_law_other"] (zbp K):=by
 have nd:=zbL.nd;refine F.ok zbL (fun vs H Q E h=>?_) (fun a0 A I s H vs Q E hr h=>?_)
 ·obtain⟨M,N,a,b,rfl,_⟩:=h
  rfl
 ·obtain⟨M,N,a,b,rfl,ra,rb,l1,l2,l3,l4,k⟩:=h
  have T:=bG100000;refine⟨_,(zj (zw (qS (za (zA Yw (zx zN (pv 0) zf (fun _ _=>rfl)) (zx zN (pv 1) zf (fun _ _=>rfl))) (za (zA Yw (zx zN (pv 0) zf (fun _ _=>rfl)) (zx zN (pv 1) zf (fun _ _=>rfl))) zd))))),?_⟩
  obtain⟨t1,ap,al,xs,ys,e,qa,qp,rp,ql,rl⟩:=qT (K:=K) ra;cases e;obtain⟨t2,bp,bl,us,vs,e,qb,L,g,J,c⟩:=qT (K:=K) rb;cases e;have n1:=rp.len;have n2:=rl.len;have n3:=g.len;have n4:=c.len;rw[zp] at n1 n2 n3 n4;refine⟨_,rfl,M,_,_,_,rfl,rfl,qa,rfl,_,rfl,N,_,_,_,rfl,rfl,qb,rfl,ap,bp,_,_,rfl,rfl,qp,L,by omega,fun U H1 s1 P1=>?_⟩
  refine⟨_,rfl,M,_,_,_,rfl,rfl,s1.sqT qa,rfl,_,rfl,N,_,_,_,rfl,rfl,s1.sqT qb,rfl,al,bl,_,_,rfl,rfl,s1.sqT ql,s1.sqT J,by omega,fun Y H2 s2 P2=>⟨le2,fun tc D=>?_⟩⟩
  have u:=zb (o:=.tup [.ref U,.ref Y]) D;have l:=(s1.trans s2).trans u;refine k tc _ l ⟨tc,_,rfl,ua zc,_,_,rfl,⟨U,_,rfl,u.sqT (s2.sqT P1),?_⟩,_,_,rfl,⟨Y,_,rfl,u.sqT P2,?_⟩,rfl⟩
  ·show Reps K _ ((a.pk++b.pk).map jK) _
   rw[zR];exact ug (rp.same l) (g.same l)
  ·show Reps K _ ((a.ly++b.ly).map QB) _
   rw[zR];exact ug (rl.same l) (c.same l)
inductive WV(K:W.Frag)(A:List V)(H:Hp)(Q:VK):Prop
 | mk (g:Addr) (e:List zF) (s:List V) (f:Nat) (_:A=[.ref g,.int (f:Int)]) (_:SqL K H g s) (_:Reps K H (e.map qy) s) (_:(zI e).length<=1000) (_:∀(l:Addr) (B:List V) c,H l=none->Same H c->c l=some (.lst B)->B.length=((zI e).map (·.2)).count f->Q (.ref l) c):WV K A H Q
def zeh(K:W.Frag):Sp:=fun c H Q _=>WV K c H Q
theorem zeo:zB ["_law_plan_here","_law_feeder","_law_found","_law_picks_here","_law_lays"] ["_law_plan_here","_law_feeder"] (zq (topL 51)):=u0
def zai(g:_)(e:Nat)(q:_)(H:_)(l:List zF):=fun(i:Nat) (σ:St) (c:Hp)=>(Ex3 fun(s A:Option V) (f:List V)=>An4 (σ=[some (.ref g),some (.int (e:Int)),some (.ref q),s,A]) (Same H c) (c q=some (.lst f)) (f.length=((zI (l.take i)).map (·.2)).count e):Prop)
theorem zfo{f:Addr}{fd:FuncData}(F:Fun K "_law_picks" "_law_picks" (topL 51) f fd)(B:Blt G):FnOk P w K G C CX0 1 f fd ["_law_plan_here","_law_feeder"] (zeh K):=by
 have nd:=zeo.nd;refine F.ok zeo (fun vs H Q E h=>?_) (fun ab A a0 s H vs Q E hr h=>?_)
 ·obtain⟨T,g,tr,I,rfl,_⟩:=h
  rfl
 ·obtain⟨T,g,tr,I,rfl,hp,rt,lp,k⟩:=h
  have aa:=bG100000;refine⟨_,(ze (zG (i:=2) nd rfl (Or.inl rfl) (zV zd))
   (ze (qR jy rfl (qW (pv 0)) (qF rfl (zr (zy (i:=3) nd rfl (Or.inl rfl)) (zr (zy (i:=4) nd rfl (Or.inl rfl)) qe)))
   (zj (jb (xc xj Wx Ww Q9 (pv 2) (za (jS ["_law_feeder"] [1] rfl rfl (by kernel_rfl) (jt (pv 3)) (fun _ _ _ _=>(vn (zJ xN (zx (ji (K:=K) rfl) (pv 0) zf (fun _ _=>rfl)) (pv 1) (zO _)))) (fun _ _ _ _=>(pv 0))) zd)))))
   (zj (zw (pv 2))))),?_⟩
  refine⟨le0,fun q hq=>⟨_,rfl,T,rfl,⟨_,(zb hq).seq hp⟩,?_⟩⟩
  have L:H q=none:=hq;have lt:=rt.len;rw[zp] at lt;refine jL (K:=K) (a:=T) (xs:=tr) (zai T I q H g)
   ⟨_,_,[],rfl,zb hq,zc,rfl⟩ (fun i σ Y _ ⟨_,_,_,_,s,_,_⟩=>s.seq hp) ?_ ?_
  ·rintro i x σ H1 hx ⟨v3,v4,U,rfl,s1,N,O⟩
   obtain⟨d,ed,rd⟩:=(rt.same s1).get hx;rw[qv] at ed;obtain⟨t,et,rfl⟩:=qJ.mp ed;obtain⟨tp,a,c,xs,ys,rfl,qt,qa,ra,qc,rc⟩:=qT (K:=K) rd;have lx:=ra.len;rw[zp] at lx;have ac:t.pk.length<=1000:=by
    have e:zI g=zI (g.take i)++zI (g.drop i):=by rw[<- qU,xi]
    obtain⟨h1,h2⟩:=zK.mp et;rw[WA h1,h2] at e;have e2:(zI g).length=(zI (g.take i)).length+(t.pk.length+(zI (g.drop (i+1))).length):=by
     rw[e,zZ];show _+(t.pk++zI (g.drop (i+1))).length=_;rw[zZ]
    omega
   refine⟨tp,_,rfl,qt,rfl,_,_,rfl,_,_,rfl,rfl,?_⟩
   refine⟨_,rfl,.inl ⟨rfl,_,u6 N⟩,_,rfl,a,rfl,⟨_,qa⟩,jJ (K:=K) (a:=a) (xs:=xs) (fun j J Y=>J.length=((t.pk.take j).map (·.2)).count I/\Same H1 Y) ⟨rfl,ub _⟩ (fun j J Y ⟨_,s⟩=>s.sqT qa) ?_ ?_⟩
   ·rintro j x J H2 hx ⟨M,s2⟩
    obtain⟨d,e1,r2⟩:=(ra.same s2).get hx;rw[qv] at e1;obtain⟨p,ep,rfl⟩:=qJ.mp e1;have hj:=(zK.mp ep).1;obtain⟨pa,rfl,qp⟩:=qM (K:=K) r2;have lc:=Wj (a:=I) (l:=(t.pk.take j).map (·.2))
    rw[zp,qi] at lc;have ht:((t.pk.take (j+1)).map (·.2)).count I=((t.pk.take j).map (·.2)).count I+if p.2=I then 1 else 0:=by
     rw[zL ep,zR,wC,List.map_singleton,List.count_singleton];by_cases e:p.2=I
     ·rw[zC e,zC (jM.mpr e)]
     ·rw[zv e,zv (fun z=>e (jM.mp z))]
    rw[ht];refine⟨rfl,_,rfl,pa,_,_,_,rfl,rfl,qp,rfl,_,rfl,rfl,_,rfl,jC (fun e=>⟨_,rfl,by omega,?_,s2⟩) (fun e=>⟨?_,s2⟩)⟩
    ·have e:p.2=I:=Qg (V.int.inj (xF e))
     rw[zC e,zZ,M];rfl
    ·have e:¬p.2=I:=fun z=>e (je (by rw[z]))
     rw[zv e,M];rfl
   rintro J H2 ⟨M,s2⟩;rw[lx,qA] at M;have ce:=Wj (a:=I) (l:=t.pk.map (·.2))
   have cu:=Wj (a:=I) (l:=(zI (g.take i)).map (·.2))
   rw[zp] at ce cu;have e:zI g=zI (g.take i)++zI (g.drop i):=by rw[<- qU,xi]
   have el:(zI (g.take i)).length<=(zI g).length:=by rw[e,zZ];omega
   refine⟨by omega,fun D hD=>?_⟩
   have u:=zb (o:=.lst J) hD;have s3:=s2.trans u;refine⟨q,D,U,J,rfl,rfl,s3 _ _ N,zc,by omega,_,_,U++J,rfl,XX (s1.trans s3) L,zc,?_⟩
   rw[zL et,vm,zR,wC,zZ,O,M]
  ·rintro σ H1 ⟨v3,v4,U,rfl,s1,N,O⟩
   rw[lt,qA] at O;exact⟨_,rfl,k q U H1 L s1 N O⟩
theorem Jo(c:List V)(n:Nat)(h:n<=c.length):z7 c (some (n:Int)) none=c.drop n:=by
 unfold z7;rw[HT.sIx_nat,HT.sIx_none];have:min n c.length=n:=by omega
 rw[this];apply Qq
 rw[vF];omega
theorem Jn(c:List V)(n:Nat)(h:n<=c.length):z7 c none (some (n:Int))=c.take n:=by
 unfold z7;rw[HT.sIx_nat,HT.sIx_none];have:min n c.length=n:=by omega
 rw[this];simp
theorem zdc(J:Job)(c:List zF)(k:Nat):xp J (c.take k)+xp J (c.drop k)=xp J c:=by
 have e:xp J (c.take k++c.drop k)=xp J (c.take k)+xp J (c.drop k):=by
  unfold xp;rw[zR,List.sum_append]
 rw[<- e,xi]
theorem ZE(c:List zF):zS c=(zI c).map (·.2):=by
 induction c with
 | nil=>rfl
 | cons t c e=>
  show t.pk.map (·.2)++zS c=(t.pk++zI c).map (·.2)
  rw[e,zR]
theorem ZM{J:Job}:∀{c:List zF},(∀t∈c,TripOk J t)->(zI c).length=(zo c).length
 | [],_=>rfl
 | t::c,h=>by
  have l:=(h t (jz ..)).ly.length_eq;rw[zp] at l;show(t.pk++zI c).length=(t.ly++zo c).length;rw[zZ,zZ,l,ZM fun f e=>h f (jn _ e)]
theorem PlanOk.pl{J:Job}{os:List Nat}{e:List zF}(c:PlanOk J os e)(f:os.length<=60):(zI e).length<=60:=by
 rw[ZM c.tr];exact jx c.sub.length_le f
theorem zcJ(g:List yZ){c d e:Nat->Nat}(h:∀f,c f=d f+e f){j:Nat}{z:Int}(l:(wM g c)[j]? =some z):(wM g d)[j]? =some (z+(e j:Int)):=by
 have A:=(zK.mp l).1;rw[j9] at A;have s:g[j]? =some g[j]:=qP A;rw[Z5 s] at l;rw[Z5 s,<- jm l,h j];congr 1
 omega
theorem Jd(c:List Int):(c.map V.int).all xf=true:=by
 rw[List.all_map];exact xO.mpr fun _ _=>rfl
theorem zcB(e:List Int):∀v∈e.map V.int,eqV v v=true:=fun v c=>by
 obtain⟨z,_,rfl⟩:=qz.mp c;show(z==z)=true;simp
theorem Reps.dropR{H:Hp}:∀(n:Nat) {c:List Dat} {f:List V},Reps K H c f->Reps K H (c.drop n) (f.drop n)
 | 0,_,_,h=>h
 | n+1,[],_,h=>by rw[show _=_ from h];exact rfl
 | n+1,d::c,_,h=>by
  obtain⟨x,r,e,l,g⟩:=h;subst e;exact Reps.dropR n g
theorem JH{α:Type}{H:Hp}{l:List α}{f:α->Dat}{c:List V}(r:Reps K H (l.map f) c){k:Nat}{p:α}(e:l[k]? =some p):∃y,c[k]? =some y/\Rep K H (f p) y:=by
 have h:=(zK.mp e).1;have g:k<c.length:=by rw[r.len,zp];exact h
 obtain⟨d,e1,e2⟩:=r.get (qP g);rw[qv,e] at e1;cases e1;exact⟨_,qP g,e2⟩
inductive zbl(K:W.Frag)(s:List V)(H:Hp)(Q:VK):Prop
 | mk (e f:Addr) (J:Job) (A os:List Nat) (l:List zF) (g:List V) (_:s=[.ref e,.ref f]) (_:Rep K H (xu J) (.ref e)) (_:JobOk J A) (_:H f=some (.lst g)) (_:Reps K H (l.map qy) g) (_:PlanOk J os l) (_:os.Perm (List.range J.ps.length)) (_:ByOrd os J.as) (_:∀c,Same H c->Q (.bl true) c):zbl K s H Q
def zf9(K:W.Frag):Sp:=fun c H Q _=>zbl K c H Q
theorem zgo:zB ["_law_job_here","_law_plan_here","_law_k","_law_begun","_law_some","_law_trip_here"] ["_law_job_here","_law_plan_here"] (zq (topL 50)):=u0
def zah(s:_)(A:_)(i:Nat)(b1:_)(e:_)(K:_)(g:List zF):=fun(m:Nat) (σ:St) (c:Hp)=>(Ex3 fun(f:Addr) (l:List V) (B:Option V)=>An4 (σ=[some (.ref s),some (.ref A),some (.int (i:Int)),some (.ref b1),some (.ref f),B]) (Same e c) (c f=some (.lst l)) (Reps K c ((g.take i++((g.drop i).take m).flatMap xJ).map qy) l):Prop)
theorem zgP{f:Addr}{fd:FuncData}(F:Fun K "_law_parts_right" "_law_parts_right" (topL 50) f fd)(B:Blt G)(L:Dfn P w K G C "is_right" 7 ["job","thing"] (zeY K))(M:Dfn P w K G C "plan_way" 4 ["job","plan"] (QW K))(Y:Dfn P w K G C "left_in" 1 ["job","plan"] (zbn K))(ag:Dfn P w K G C "_law_picks" 1 ["_law_plan_here","_law_feeder"] (zeh K))(ac:Dfn P w K G C "_law_parted" 1 ["_law_trip_here"] (zbk K))(O:Dfn P w K G C "order_of" 1 ["plan"] (zbm K))(ab:Dfn P w K G C "_law_joined" 1 ["_law_one","_law_other"] (zbp K)):FnOk P w K G C CX0 8 f fd ["_law_job_here","_law_plan_here"] (zf9 K):=by
 have nd:=zgo.nd;refine F.ok zgo (fun vs H Q E h=>?_) (fun dn A d6 s H vs Q E hr h=>?_)
 ·obtain⟨jp,pl,J,od,os,I,e,rfl,_⟩:=h
  rfl
 ·obtain⟨jp,pl,J,od,os,I,e,rfl,rj,jk,hp,rt,po,op,bo,k⟩:=h
  have hu:=hr.units0;have dp:=Je hr;have de:=hr.units;have hg:=hr.gd;have dd:=bG1000000;have bx:=bGe;refine⟨_,(ze (qR jy rfl (jq rfl B.range (za (zA qh (zt zD rfl B.len boot_len (za (pv 1) zd)) zf) zd)) (zy (i:=2) nd rfl (Or.inr rfl))
   (ze (zG (i:=3) nd rfl (Or.inl rfl) (jc jP (pv 1) jQ (jv (pv 2))))
    (ze (qI (zJ Zw (zg L hr.m rfl (za (pv 0) (za (pv 3) zd))) jF (zO _))
    (zj (zw jF))
    zU)
    (ze (qI (zJ zcc (zA qh (zg M hr.m rfl (za (pv 0) (za (pv 3) zd))) (zg M hr.m rfl (za (pv 0) (za (jc jP (pv 1) (jv (pv 2)) jQ) zd)))) (zg M hr.m rfl (za (pv 0) (za (pv 1) zd))) (zO _))
    (zj (zw jF))
    zU)
    (ze (qI (zJ (zcb hu) (zg Y hr.m rfl (za (pv 0) (za (pv 3) zd))) (vM ["_law_plan_here","_law_k"] [1,2] rfl rfl (by kernel_rfl) (JJ rfl B.enumerate (za (zg Y hr.m rfl (za (pv 0) (za (pv 1) zd))) zd)) (fun _ _ _ _=>qG) (fun _ _ _ _=>(zA qh (pv 1) (zt (xo (K:=K) rfl) rfl B.len boot_len (za (zg ag hr.m rfl (za (jc (zby (K:=K) rfl) (pv 2) (jv (pv 3)) jQ) (za (pv 0) zd))) zd))))) (zO _))
    (zj (zw jF))
    zU)
    (ze (zG (i:=4) nd rfl (Or.inl rfl) (jc jP (pv 1) jQ (jv (pv 2))))
    (ze (qR jy rfl (qW (jc jP (pv 1) (jv (pv 2)) jQ)) (zy (i:=5) nd rfl (Or.inl rfl))
    (zj (zG (i:=4) nd rfl (Or.inl rfl) (zA xA (pv 4) (zg ac hr.m rfl (za (pv 5) zd))))))
    (ze (qI (PW.pt (ZL (zJ Zw (zg L hr.m rfl (za (pv 0) (za (pv 4) zd))) jF (zO _)) (wK (zJ (zcb hu) (zg O hr.m rfl (za (pv 4) zd)) (zg O hr.m rfl (za (pv 1) zd)) (zO _)))))
    (zj (zw jF))
    zU)
    (zj (qI (PW.pt (JI (zbT X1 X1 zf (pv 2) (zt zD rfl B.len boot_len (za (pv 1) zd))) (Zt (zJ Yt (zA qh (zt zD rfl B.len boot_len (za (zx zN (zx zT (pv 1) (zA jI (pv 2) zf) (fun _ _=>rfl)) zf (fun _ _=>rfl)) zd)) (zt zD rfl B.len boot_len (za (zx zN (zx zT (pv 1) (pv 2) (fun _ _=>rfl)) zf (fun _ _=>rfl)) zd))) (zx zN (pv 0) zf (fun _ _=>rfl)) (zO _)))))
    (zj (qI (zJ Zw (zg L hr.m rfl (za (pv 0) (za (zA xA (zA xA (jc jP (pv 1) jQ (jv (zA jI (pv 2) zf))) (zV (za (zg ab hr.m rfl (za (zx zT (pv 1) (zA jI (pv 2) zf) (fun _ _=>rfl)) (za (zx zT (pv 1) (pv 2) (fun _ _=>rfl)) zd))) zd))) (jc jP (pv 1) (jv (zA qh (pv 2) zf)) jQ)) zd))) jF (zO _))
     (zj (zw jF))
     zU))
    zU))))))))))
   (zj (zw jF))),?_⟩
  have aj:os.Nodup:=op.nodup_iff.mpr Zg;have ol:os.length<=60:=by rw[op.length_eq,vh];exact jk.pl
  have tl:=po.len;have lt:=rt.len;rw[zp] at lt;have c4:=jk.hd0;have tb:∀t∈I,Qs J t:=fun t ht=>(po.tr t ht).bd jk.hd1
  have be:∀{us:List zF},PlanOk J os us->PlV J od us:=fun pu=>⟨jk,fun t ht=>pu.tv aj ht,jx pu.len (by decide)⟩
  refine⟨_,rfl,pl,_,rfl,.inl (u6 hp),_,_,rfl,rfl,_,rfl,(by rw[bx];omega),(by rw[bx];omega),?_⟩
  have eN:((e.length:Int)+1).toNat=I.length+1:=by omega
  refine jU (fun i σ H'=>∃v2 v3 v4 v5:Option V,σ=[some (.ref jp),some (.ref pl),v2,v3,v4,v5]/\Same H H') ⟨_,_,_,_,rfl,ub _⟩ ?_ ?_
  ·rintro i σ H1 hi ⟨v2,v3,v4,v5,rfl,s1⟩
   rw[eN] at hi;have e0:(0:Int)+(i:Int)=(i:Int):=Int.zero_add _;rw[e0];have cT:z7 e none (some (i:Int))=e.take i:=Jn e i (by omega)
   have cD:z7 e (some (i:Int)) none=e.drop i:=Jo e i (by omega)
   have pT:=po.take aj bo ol i;have RT:∀{H'},Same H H'->Reps K H' ((I.take i).map qy) (e.take i):=fun s=>by rw[yQ];exact Reps.take i (rt.same s)
   have RD:∀{H'},Same H H'->Reps K H' ((I.drop i).map qy) (e.drop i):=fun s=>by rw[List.map_drop];exact Reps.dropR i (rt.same s)
   refine⟨_,rfl,_,rfl,_,rfl,pl,e,rfl,u6 (s1 _ _ hp),fun b1 cn=>?_⟩
   have s2:=s1.trans (zb (o:=.lst (z7 e none (some (i:Int)))) cn);have P2:upd H1 b1 (.lst (z7 e none (some (i:Int)))) b1=some (.lst (e.take i)):=by rw[zc,cT]
   generalize upd H1 b1 (.lst (z7 e none (some (i:Int))))=H2 at s2 P2;refine⟨_,rfl,_,rfl,jp,b1,J,od,I.take i,e.take i,rfl,rj.same s2,u6 P2,RT s2,be pT,yf jk pT op bo,fun H3 s3=>⟨_,_,rfl,rfl,_,rfl,ifF rfl ?_⟩⟩
   have P3:=s3 _ _ P2;have s3:=s2.trans s3;refine⟨_,rfl,_,rfl,jp,b1,J,od,I.take i,e.take i,rfl,rj.same s3,jk,P3,RT s3,(fun t ht=>tb t (Zi ht)),by rw[qi];omega,fun H4 s4=>?_⟩
   have P4:=s4 _ _ P3;have s4:=s3.trans s4;refine⟨_,rfl,_,rfl,_,rfl,_,rfl,pl,e,rfl,u6 (s4 _ _ hp),fun b2 co=>?_⟩
   have u5:=zb (o:=.lst (z7 e (some (i:Int)) none)) co;have P5:=u5 _ _ P4;have s5:=s4.trans u5;have B5:upd H4 b2 (.lst (z7 e (some (i:Int)) none)) b2=some (.lst (e.drop i)):=by rw[zc,cD]
   generalize upd H4 b2 (.lst (z7 e (some (i:Int)) none))=H5 at u5 P5 s5 B5;refine⟨jp,b2,J,od,I.drop i,e.drop i,rfl,rj.same s5,jk,B5,RD s5,(fun t ht=>tb t (Qp ht)),by rw[vF];omega,fun H6 s6=>⟨_,_,rfl,rfl,?_⟩⟩
   have P6:=s6 _ _ P5;have s6:=s5.trans s6;refine⟨_,rfl,_,rfl,jp,pl,J,od,I,e,rfl,rj.same s6,jk,s6 _ _ hp,rt.same s6,tb,tl,fun H7 s7=>⟨rfl,_,rfl,ifF (by rw[zdc];simp) ?_⟩⟩
   have P7:=s7 _ _ P6;have s7:=s6.trans s7;clear P2 P3 P4 P5 P6 B5 s1 s2 s3 s4 s5 s6 u5;have dq:=po.pl ol;have tk:∀us:List zF,(zS us).length=(zI us).length:=fun us=>by rw[ZE,zp]
   have dr:(zI (I.take i)).length+(zI (I.drop i)).length=(zI I).length:=by rw[<- zZ,<- qU,xi]
   have cnt:∀f,(zS I).count f=(zS (I.take i)).count f+((zI (I.drop i)).map (·.2)).count f:=fun f=>by
    rw[ZE,ZE,<- wC,<- zR,<- qU,xi]
   refine⟨_,rfl,_,rfl,jp,b1,J,I.take i,e.take i,rfl,rj.same s7,jx jk.fl (by decide),u6 P7,RT s7,by rw[tk];omega,fun l8 H8 _ s8 L8=>?_⟩
   have P8:=s8 _ _ P7;have s8:=s7.trans s8;refine⟨_,rfl,_,rfl,jp,pl,J,I,e,rfl,rj.same s8,jx jk.fl (by decide),u6 (s8 _ _ hp),rt.same s8,by rw[tk];omega,fun l9 H9 _ s9 L9=>?_⟩
   have P9:=s9 _ _ P8;have bs:=s9 _ _ L8;have s9:=s8.trans s9;refine⟨l9,rfl,⟨_,u6 L9⟩,zcv (K:=K) (a:=l9) (xs:=(wM J.fs fun f=>(zS I).count f).map V.int) (fun j zs H'=>zs=((wM J.fs fun f=>(zS (I.take i)).count f).take j).map V.int/\Same H9 H') ⟨rfl,ub _⟩ (fun j zs H' ⟨_,s⟩=>u6 (s _ _ L9)) ?_ ?_⟩
   ·rintro j x zs az T hx ⟨rfl,ar⟩ hT
    rw[qv] at hx;obtain⟨z,hz,rfl⟩:=qJ.mp hx;have sT:=ar.trans (zb (o:=.tup [.int (j:Int),.int z]) hT);have sH:=s9.trans sT;have hj:=(zK.mp hz).1;rw[j9] at hj;have fl:=jk.fl;refine⟨T,_,rfl,ua zc,rfl,_,_,rfl,_,_,rfl,rfl,rfl,?_⟩
    refine⟨_,rfl,_,rfl,_,rfl,_,rfl,pl,e,rfl,u6 (sH _ _ hp),fun b3 cp=>?_⟩
    have u:=zb (o:=.lst (z7 e (some (i:Int)) none)) cp;have sB:=sH.trans u;have B3:upd (upd az T (.tup [.int (j:Int),.int z])) b3 (.lst (z7 e (some (i:Int)) none)) b3=some (.lst (e.drop i)):=by rw[zc,cD]
    refine⟨_,rfl,b3,I.drop i,e.drop i,j,rfl,u6 B3,RD sB,by omega,fun cv zz df _ ak ch lz=>⟨cv,zz,rfl,.inl (u6 ch),_,_,rfl,rfl,?_,?_,sT.trans (u.trans ak)⟩⟩
    ·rw[zp,qi,j9];omega
    ·rw[lz,zL (zcJ J.fs cnt hz),zR];rfl
   rintro zs az ⟨rfl,ar⟩;have eT:(wM J.fs fun f=>(zS (I.take i)).count f).take ((wM J.fs fun f=>(zS I).count f).map V.int).length=wM J.fs fun f=>(zS (I.take i)).count f:=by
    rw[zp,j9,<- j9 J.fs (fun f=>(zS (I.take i)).count f),qA]
   rw[eT];have fl:=jk.fl;refine⟨by rw[zp,j9];omega,fun D hD=>?_⟩
   have u:=zb (o:=.lst ((wM J.fs fun f=>(zS (I.take i)).count f).map V.int)) hD
   have ak:=ar.trans u;refine⟨l8,D,_,rfl,rfl,u6 (ak _ _ bs),u6 zc,Jd _,zcB _,_,rfl,ifF rfl ?_⟩
   have au:=s9.trans ak;clear u ak ar s9 s8 s7 L8 bs L9 P7 P8 P9;generalize upd az D (.lst ((wM J.fs fun f=>(zS (I.take i)).count f).map V.int))=bg at au
   refine⟨_,rfl,_,rfl,_,rfl,pl,e,rfl,u6 (au _ _ hp),fun b4 cq=>?_⟩
   have av:=au.trans (zb (o:=.lst (z7 e none (some (i:Int)))) cq);have b0:upd bg b4 (.lst (z7 e none (some (i:Int)))) b4=some (.lst (e.take i)):=by rw[zc,cT]
   generalize upd bg b4 (.lst (z7 e none (some (i:Int))))=bh at av b0;refine⟨_,rfl,_,rfl,_,rfl,pl,e,rfl,u6 (av _ _ hp),fun b5 cr=>?_⟩
   have u:=zb (o:=.lst (z7 e (some (i:Int)) none)) cr;have bb:=u _ _ b0;have aq:upd bh b5 (.lst (z7 e (some (i:Int)) none)) b5=some (.lst (e.drop i)):=by rw[zc,cD]
   have am:=av.trans u;generalize upd bh b5 (.lst (z7 e (some (i:Int)) none))=bi at am bb aq;clear av au u b0;refine⟨b5,rfl,⟨_,u6 aq⟩,jL (K:=K) (a:=b5) (xs:=e.drop i) (zah jp pl i b1 bi K I) ⟨b4,e.take i,_,rfl,ub _,bb,?_⟩ (fun m σ H' _ ⟨_,_,_,_,s,_,_⟩=>u6 (s _ _ aq)) ?_ ?_⟩
   ·rw[V5]
    show Reps K bi ((I.take i++[]).map qy) _;rw[jH];exact RT am
   ·rintro m x σ cg hx ⟨sl,us,v5,rfl,an,ai,ae⟩
    have ao:=am.trans an;obtain⟨d,ed,rd⟩:=(RD ao).get hx;rw[qv] at ed;obtain⟨t,et,rfl⟩:=qJ.mp ed;have mt:t∈I:=Qp (qq et);obtain⟨tp,a,c,xs,ys,rfl,_⟩:=qT (K:=K) rd;have db:=po.tr t mt;have dc:=po.tv aj mt;have p4:=(tb t mt).l1;refine⟨_,rfl,_,rfl,tp,t,rfl,rd,by omega,db.ly,dc.nd,fun l ur dg hl U ci bt=>?_⟩
    have cj:=U _ _ ai;have c8:=ae.same U;have cz:=bt.len;have d0:=c8.len;rw[zp] at cz d0;have l1:(xJ t).length<=4:=by
     have:=(tb t mt).l2;unfold xJ;rw[zp];exact this
    have ck:(I.drop i).take (m+1)=(I.drop i).take m++[t]:=zL et;have PP:=po.part aj ol c4 i;have ll:(I.take i++((I.drop i).take m).flatMap xJ).length<=60:=by
     have e2:(I.drop i).flatMap xJ=((I.drop i).take m).flatMap xJ++((I.drop i).drop m).flatMap xJ:=by
      rw[<- wb,xi]
     have:=PP.1.len;rw[e2,zZ,zZ] at this;rw[zZ];omega
    refine⟨sl,l,us,ur,rfl,rfl,cj,ci,by omega,fun q hq=>⟨q,us++ur,_,rfl,(an.trans U).trans (zb hq),zc,?_⟩⟩
    rw[ck,wb,<- xG,zR];refine ug (c8.same (zb hq)) ?_
    rw[show [t].flatMap xJ=xJ t from jH _]
    exact bt.same (zb hq)
   rintro σ cg ⟨sl,us,v5,rfl,an,ai,ae⟩;have eD:(I.drop i).take (e.drop i).length=I.drop i:=by
    rw[vF,lt,<- vF,qA]
   rw[eD] at ae;have PP:=po.part aj ol c4 i;have ao:=am.trans an;refine⟨_,rfl,_,rfl,jp,sl,J,od,_,us,rfl,rj.same ao,u6 ai,ae,be PP.1,yf jk PP.1 op bo,fun dh U=>⟨_,_,rfl,rfl,_,rfl,ifF rfl ?_⟩⟩
   have bw:=U _ _ ai;have c9:=ae.same U;have U:=ao.trans U;have cy:(zo I).length<=60:=jx po.sub.length_le ol;refine⟨_,rfl,sl,_,us,rfl,bw,c9,by rw[PP.2];omega,fun cw di _ af bq=>?_⟩
   have af:=U.trans af;refine⟨_,rfl,pl,I,e,rfl,af _ _ hp,rt.same af,by omega,fun cx bj _ N br=>?_⟩
   have ah:=N _ _ bq;have N:=af.trans N;rw[PP.2] at ah;refine⟨cw,cx,_,rfl,rfl,u6 ah,u6 br,jr _,?_,_,rfl,ifF rfl ?_⟩
   ·intro v hv
    unfold zn at hv;obtain⟨z,_,rfl⟩:=qz.mp hv;show((z:Int)==(z:Int))=true;simp
   clear ah bq br c9 bw ae ai an ao am bb aq U af;refine⟨_,rfl,0,(i:Int),rfl,rfl,_,rfl,?_⟩
   by_cases c0:0<i
   ·refine ifT (je (by omega)) ⟨_,rfl,pl,_,rfl,.inl (u6 (N _ _ hp)),(i:Int),_,rfl,rfl,?_⟩
    by_cases c1:i<I.length
    ·have ed:decide ((i:Int)<(e.length:Int))=true:=je (by omega)
     rw[ed];refine⟨true,rfl,ifT rfl ?_⟩
     obtain⟨ta,ea⟩:∃ta,I[i-1]? =some ta:=⟨_,qP (by omega)⟩
     obtain⟨a0,eb⟩:∃a0,I[i]? =some a0:=⟨_,qP c1⟩;obtain⟨xa,cm,ca⟩:=JH (rt.same N) ea;obtain⟨xb,c3,cb⟩:=JH (rt.same N) eb;obtain⟨aa,ap,al,xs,ys,rfl,qa,qp,rp,ql,rl⟩:=qT (K:=K) ca;obtain⟨ba,bp,bl,dv,dw,rfl,qb,dt,du,d7,d8⟩:=qT (K:=K) cb;obtain⟨g,fs,ps,as,fv,ds,qj,_⟩:=yH (rj.same N);have n2:=rl.len;have n4:=d8.len;rw[zp] at n2 n4;have bz:(i:Int)-1=((i-1:Nat):Int):=by omega
     have ay:atI e ((i:Int)-1)=some (.ref aa):=by rw[bz];exact zQ cm
     refine⟨_,rfl,_,rfl,_,_,rfl,rfl,pl,_,_,_,rfl,rfl,u6 (N _ _ hp),ay,aa,_,_,_,rfl,rfl,qa,rfl,al,_,rfl,.inr ql,?_⟩
     refine⟨_,rfl,_,rfl,pl,_,_,_,rfl,rfl,u6 (N _ _ hp),zQ c3,ba,_,_,_,rfl,rfl,qb,rfl,bl,_,rfl,.inr d7,_,_,rfl,rfl,_,rfl,jp,_,_,_,rfl,rfl,qj,rfl,_,_,rfl,rfl,_,rfl,?_⟩
     refine jC (fun c2=>?_) (fun c2=>⟨_,_,_,_,rfl,N⟩)
     have c2:=xF c2;have cl:I=I.take (i-1)++[ta,a0]++I.drop (i+1):=by
      have h1:I.take (i-1+1)=I.take (i-1)++[ta]:=zL ea;have h2:I.take (i+1)=I.take i++[a0]:=zL eb;have h3:i-1+1=i:=by omega
      rw[h3] at h1;have h4:=xi (i+1) I;rw[h2,h1] at h4;rw[xG,xG] at h4;rw[xG];exact h4.symm
     have PJ:=po.join ol cl (by rw[<- n2,<- n4];exact c2)
     have ce:=tb ta (qq ea);have cf:=tb a0 (qq eb);have cA:z7 e none (some ((i:Int)-1))=e.take (i-1):=by rw[bz];exact Jn e (i-1) (by omega)
     have cB:z7 e (some ((i:Int)+1)) none=e.drop (i+1):=Jo e (i+1) (by omega)
     refine⟨_,rfl,_,rfl,_,rfl,_,_,rfl,rfl,_,rfl,pl,e,rfl,u6 (N _ _ hp),fun d1 c5=>?_⟩
     have u1:=zb (o:=.lst (z7 e none (some ((i:Int)-1)))) c5;have D1:upd bj d1 (.lst (z7 e none (some ((i:Int)-1)))) d1=some (.lst (e.take (i-1))):=by rw[zc,cA]
     have aw:=N.trans u1;generalize upd bj d1 (.lst (z7 e none (some ((i:Int)-1))))=dj at u1 D1 aw;refine⟨_,rfl,_,rfl,_,_,rfl,rfl,pl,_,_,_,rfl,rfl,u6 (aw _ _ hp),ay,_,rfl,_,rfl,pl,_,_,_,rfl,rfl,u6 (aw _ _ hp),zQ c3,aa,ba,ta,a0,rfl,ca.same u1,cb.same u1,?_,?_,?_,?_,fun tc bm d9 RC=>⟨le1,fun d2 c6=>?_⟩⟩
     ·have:=ce.l1;omega
     ·have:=ce.l2;omega
     ·have:=cf.l1;omega
     ·have:=cf.l2;omega
     have u2:=d9.trans (zb (o:=.lst [.ref tc]) c6);refine⟨d1,d2,_,_,rfl,rfl,u2 _ _ D1,zc,?_,fun d3 c7=>?_⟩
     ·rw[qi];show _+1<=sizeLine;omega
     have u3:=u2.trans (zb (o:=.lst (e.take (i-1)++[.ref tc])) c7);have D3:upd (upd bm d2 (.lst [.ref tc])) d3 (.lst (e.take (i-1)++[.ref tc])) d3=some (.lst (e.take (i-1)++[.ref tc])):=zc;have bu:=RC.same ((zb (o:=.lst [.ref tc]) c6).trans (zb (o:=.lst (e.take (i-1)++[.ref tc])) c7));have bc:=aw.trans u3;generalize upd (upd bm d2 (.lst [.ref tc])) d3 (.lst (e.take (i-1)++[.ref tc]))=bn at D3 bu bc;refine⟨_,rfl,_,rfl,_,_,rfl,rfl,_,rfl,pl,e,rfl,u6 (bc _ _ hp),fun d4 cs=>?_⟩
     have u4:=zb (o:=.lst (z7 e (some ((i:Int)+1)) none)) cs;have D4:upd bn d4 (.lst (z7 e (some ((i:Int)+1)) none)) d4=some (.lst (e.drop (i+1))):=by rw[zc,cB]
     have bf:=u4 _ _ D3;have bv:=bu.same u4;have cd:=bc.trans u4;generalize upd bn d4 (.lst (z7 e (some ((i:Int)+1)) none))=dk at u4 D4 bf bv cd;refine⟨d3,d4,_,_,rfl,rfl,bf,D4,?_,fun d5 cu=>?_⟩
     ·rw[zZ,qi,vF];show _+1+_<=sizeLine;omega
     have u5:=zb (o:=.lst (e.take (i-1)++[.ref tc]++e.drop (i+1))) cu;have ax:=cd.trans u5;refine⟨jp,d5,J,od,I.take (i-1)++[Vi ta a0]++I.drop (i+1),_,rfl,rj.same ax,u6 zc,?_,be PJ,yf jk PJ op bo,fun dm da=>⟨_,_,rfl,rfl,_,rfl,ifF rfl ⟨_,_,_,_,rfl,ax.trans da⟩⟩⟩
     rw[zR,zR,yQ,List.map_drop];refine ug (ud (bv.same u5) (Reps.take (i-1) (rt.same ax))) (Reps.dropR (i+1) (rt.same ax))
    ·have ed:decide ((i:Int)<(e.length:Int))=false:=jN (by omega)
     rw[ed];exact⟨false,rfl,ifF (by decide) (ifF (by decide) ⟨_,_,_,_,rfl,N⟩)⟩
   ·refine ifF (jN (by omega)) ?_
    exact⟨false,rfl,ifF (by decide) (ifF (by decide) ⟨_,_,_,_,rfl,N⟩)⟩
  ·rintro σ H1 ⟨v2,v3,v4,v5,rfl,s1⟩
   exact k _ s1
end
section
variable{J:Job}{f os:List Nat}{c:List zF}
theorem YU{p:Nat×Nat}(h:p∈J.as):((p.1:Int),(p.2:Int))∈asI J:=qz.mpr ⟨p,h,rfl⟩
theorem Wk.nat{k p:Nat}{j:Int}(h:Wk (asI J) k (p:Int) j):∃m:Nat,j=(m:Int):=
 uh (C:=fun x=>∃m:Nat,x=(m:Int)) (fun x y _ hq=>by
  obtain⟨p,_,e⟩:=qz.mp hq;exact⟨p.2,(Prod.mk.inj e).2.symm⟩) ⟨p,rfl⟩ h
theorem zaX(C:JobOk J f){q:Nat}{g:List Int}(A:∀j,j∈g↔j≠(q:Int)/\∃k,Wk (asI J) k (q:Int) j) :
  zn (q::g.map Int.toNat)=V.int (q:Int)::g.map V.int/\∀p∈J.as,p.1∈q::g.map Int.toNat->p.2∈q::g.map Int.toNat:=by
 refine⟨?_,fun p hp h=>?_⟩
 ·unfold zn
  rw[qY,vC];congr 1
  refine List.map_congr_left fun j s=>?_
  obtain⟨_,k,w⟩:=(A j).mp s;obtain⟨m,rfl⟩:=w.nat;rfl
 ·have D:=zbO C
  have l:∀k,Wk (asI J) k (q:Int) (p.1:Int)->p.2∈q::g.map Int.toNat:=fun k w=>by
   have B:=w.snoc (YU hp);refine jn _ (qz.mpr ⟨(p.2:Int),(A _).mpr ⟨fun e=>?_,_,B⟩,rfl⟩)
   have:=B.rank D;rw[e] at this;omega
  rcases qm.mp h with h | h
  ·exact l 0 (by rw[h];rfl)
  ·obtain⟨j,s,e⟩:=qz.mp h
   obtain⟨_,k,w⟩:=(A j).mp s;obtain⟨m,rfl⟩:=w.nat;have e:m=p.1:=e;subst e;exact l k w
theorem Z2(z:Int):∀g:List Int,inV (.int z) (g.map V.int)=decide (z∈g)
 | []=>rfl
 | a::r=>by
  show((a==z)||inV (.int z) (r.map V.int))=_
  rw[Z2 z r];by_cases e:a=z
  ·subst e;simp
  ·have:(a==z)=false:=by simp[e]
   rw[this,Qh,decide_eq_decide,qm];exact⟨.inr,fun h=>h.resolve_left fun x=>e x.symm⟩
theorem zhb(B:JobOk J f)(g:PlanOk J os c)(D:os.Perm (List.range J.ps.length))(H:ByOrd os J.as){p:Nat}{s:List Nat}(mk:∀q,q∈s↔q∈zo c/\UpA J q (p:Int)) :
  (s=[]->Z4 J (woP [p] c)=none)/\(s≠[]->∃x,Z4 J (woP [p] c)=some x/\x.1.1 = "ahead"):=by
 have C:os.Nodup:=D.nodup_iff.mpr Zg;have N:os.length<=60:=by rw[D.length_eq,vh];exact B.pl
 have I:=Zx (S:=[p]) fun t h=>(g.tr t h).ly
 have w:∀q,q∈zo (woP [p] c)↔q∈zo c/\q≠p:=fun q=>by
  rw[I,xx];simp
 refine⟨fun e=>?_,fun e=>?_⟩
 ·refine yf B (g.of N (WI g.tr) (Vz g) (fun r G h=>?_) ZA) D H
  obtain⟨l,Q⟩:=(w _).mp h;refine(w _).mpr ⟨g.cl r G l,fun z=>?_⟩
  have:r.2∈s:=(mk _).mpr ⟨l,1,zM _,_,by rw[<- z];exact YU G,rfl⟩
  rw[e] at this;cases this
 ·obtain⟨q,hq⟩:=List.exists_mem_of_ne_nil _ e
  obtain⟨l,u⟩:=(mk q).mp hq;have M:q≠p:=fun z=>by
   have:=(UpA.of B).mpr u;exact this.1 (by rw[z])
  have ne:=zdZ ((w q).mpr ⟨l,M⟩) u fun z=>((w p).mp (vP.mp z)).2 rfl
  obtain⟨st,L⟩:=g.stk;obtain⟨O,A⟩:=L.less (l':=zI (woP [p] c)) ZA;cases E:Z4 J (woP [p] c) with
  | none=>exact absurd E ne
  | some x=>exact⟨x,rfl,zcG (WI g.tr) (Vz g) C A E⟩
end
section
variable{P:Program}{w:World}{K:W.Frag}{I:Str->Option Value}{G:Heap}
inductive zbh(K:W.Frag)(s:List V)(H:Hp)(Q:VK):Prop
 | mk (b f c:Addr) (J:Job) (A os:List Nat) (l:List zF) (g:List V) (n:Int) (_:s=[.ref b,.ref f,.ref c]) (_:BoxAt H b n) (_:n<500000) (_:Rep K H (xu J) (.ref f)) (_:JobOk J A) (_:H c=some (.lst g)) (_:c≠b) (_:Reps K H (l.map qy) g) (_:PlanOk J os l) (_:os.Perm (List.range J.ps.length)) (_:ByOrd os J.as) (_:∀e,SameB b H e->Q (.bl true) e):zbh K s H Q
def zf8(K:W.Frag):Sp:=fun c H Q _=>zbh K c H Q
theorem zgk:zB ["_law_box_here","_law_job_here","_law_plan_here","_law_order_here","_law_part","_law_some","_law_late","_law_found"] ["_law_box_here","_law_job_here","_law_plan_here"] (zq (topL 52)):=u0
def zag(g:List zF)(J:Job)(p:Nat)(f:_):=fun(i:Nat) (l:List V) (e:Hp)=>(Ex1 fun(c:List Nat)=>An4 (l=zn c) (c.length<=i) ((∀q,q∈c↔q∈(zo g).take i/\UpA J q (p:Int))) (Same f e):Prop)
theorem zgL{f:Addr}{fd:FuncData}(F:Fun K "_law_turned_right" "_law_turned_right" (topL 52) f fd)(B:Blt I)(L:Dfn P w K I G "order_of" 1 ["plan"] (zbm K))(ac:Dfn P w K I G "_law_take" 1 ["_law_box_here","_law_size"] xL)(g:Dfn P w K I G "_law_without" 1 ["_law_plan_here","_law_parts"] (zf7 K))(M:Dfn P w K I G "behind_of" 3 ["job","part"] (XS K))(T:Dfn P w K I G "is_right" 7 ["job","thing"] (zeY K))(O:Dfn P w K I G "ahead_of" 3 ["job","part"] (JF K))(Y:Dfn P w K I G "flaw_of" 6 ["job","plan"] (zeZ K)):FnOk P w K I G CX0 8 f fd ["_law_box_here","_law_job_here","_law_plan_here"] (zf8 K):=by
 have nd:=zgk.nd;refine F.ok zgk (fun vs H Q E h=>?_) (fun bu A bf s H vs Q E hr h=>?_)
 ·obtain⟨b,jp,pl,J,od,os,U,tr,n,rfl,_⟩:=h
  rfl
 ·obtain⟨b,jp,pl,J,od,os,U,tr,n,rfl,B0,hn,rj,N,hp,bg,rt,po,op,bo,k⟩:=h
  have hu:=hr.units0;have bx:=Je hr;have bq:=hr.units;have hg:=hr.gd;have bp:=bG1000000;have bv:=bGe;refine⟨_,(ze (zG (i:=3) nd rfl (Or.inl rfl) (zg L hr.m rfl (za (pv 2) zd)))
   (ze (qI (zJ (ZR hu) (pv 3) (zV zd) (zO _))
   (zj (zw jF))
   zU)
   (ze (zG (i:=4) nd rfl (Or.inr rfl) (zx zT (pv 3) (zg ac hr.m rfl (za (pv 0) (za (zt zD rfl B.len boot_len (za (pv 3) zd)) zd))) (fun _ _=>rfl)))
   (ze (zG (i:=5) nd rfl (Or.inl rfl) (zg g hr.m rfl (za (pv 2) (za (zA xA (zV (za (pv 4) zd)) (zg M hr.m rfl (za (pv 1) (za (pv 4) zd)))) zd))))
   (ze (qI (PW.pt (ZL (zJ Zw (zg T hr.m rfl (za (pv 1) (za (pv 5) zd))) jF (zO _)) (wK (zJ wn (pv 4) (zg L hr.m rfl (za (pv 5) zd)) (by with_unfolding_all rfl)))))
   (zj (zw jF))
   zU)
   (ze (VN ["_law_part","_law_job_here"] [4,1] rfl rfl (by kernel_rfl) (qW (pv 3)) (fun _ _ _ _=>(vn (zJ (vp (K:=K) rfl) (pv 1) (zg O hr.m rfl (za (pv 2) (za (pv 0) zd))) (by with_unfolding_all rfl)))) (fun _ _ _ _=>(pv 0)) (zy (i:=6) nd rfl (Or.inl rfl)))
   (ze (zG (i:=7) nd rfl (Or.inl rfl) (zg Y hr.m rfl (za (pv 1) (za (zg g hr.m rfl (za (pv 2) (za (zV (za (pv 4) zd)) zd))) zd))))
   (ze (qI (zJ (ZR hu) (pv 6) (zV zd) (zO _))
   (zj (zw (qX zcd (pv 7) xX (zO _))))
   zU)
   (zj (zw (vO (qX Zv (pv 7) xX (zO _)) (vo (qX xN (zx zN (pv 7) zf (fun _ _=>rfl)) wL (zO _)))))))))))))),?_⟩
  have bd:os.Nodup:=op.nodup_iff.mpr Zg;have ol:os.length<=60:=by rw[op.length_eq,vh];exact N.pl
  have ll:(zo U).length<=60:=jx po.sub.length_le ol;have tl:=po.len;have bw:=N.hd1;have aw:∀{S:List Nat},PlV J od (woP S U):=fun {S}=>by
   refine⟨N,fun u hu=>?_,?_⟩
   ·have h:=WI po.tr u hu
    obtain⟨h1,_⟩:=xx.mp hu;obtain⟨t,ht,rfl⟩:=qz.mp h1;refine⟨h.p1,h.p2,fun q hq=>?_,h.ly,(po.nd bd ht).sublist (Wi.map _)⟩
    obtain⟨pa,fe,e1,e2,_⟩:=h.ok q hq;exact⟨(zK.mp e1).1,(zK.mp e2).1⟩
   ·unfold woP
    have:=xU (fun t:zF=>!t.pk.isEmpty) (U.map (woT S))
    rw[zp] at this;omega
  have tb:∀t∈U,t.pk.length<=100/\t.ly.length<=100:=fun t ht=>by
   have h:=po.tr t ht;have:=h.p2;have l:=h.ly.length_eq;rw[zp] at l;omega
  refine⟨_,rfl,pl,U,tr,rfl,hp,rt,by omega,fun lh H1 al s1 L1=>?_⟩
  have bc:=B0.nne al;refine⟨_,rfl,le0,fun e he=>⟨lh,e,_,rfl,rfl,u6 ((zb he) _ _ L1),u6 zc,_,rfl,?_⟩⟩
  have s2:=s1.trans (zb (o:=.lst []) he);have L2:=(zb (o:=.lst []) he) _ _ L1;generalize upd H1 e (.lst [])=H2 at s2 L2;refine jC (fun _=>k H2 (.of s2)) (fun hc=>?_)
  have ba:zo U≠[]:=fun z=>hc (by rw[z];rfl)
  have lp:=Xi.mpr ba;have B2:=B0.same s2;refine⟨_,rfl,_,rfl,_,rfl,lh,_,rfl,.inl (u6 L2),b,((zn (zo U)).length:Int),n,rfl,B2,by omega,by rw[zu];omega,by rw[zu];omega,fun r H3 r0 r1 B3 S3=>?_⟩
  rw[zu] at r1;obtain⟨z,ez,hz⟩:=J5 (xs:=zn (zo U)) r0 (by rw[zu];exact r1)
  obtain⟨p,ep,rfl⟩:=j7 hz;have mp:=qq ep;have inr:∀{q},q∈zo U->q<J.ps.length:=fun h=>xD.mp (op.mem_iff.mp (po.sub.subset h))
  have aj:SameB b H H3:=(uf s2).trans S3;have L3:=S3 _ _ L2 bc;have am:=aj _ _ hp bg;have T3:=uc B2 S3;have aq:=(rt.same s2).keep T3 (jE _);have af:=(rj.same s2).keep T3 (vT J);clear S3 T3 L2 L1 s1 he al;refine⟨lh,_,r,_,rfl,rfl,u6 L3,ez,?_⟩
  have ip:=inr mp;refine⟨_,rfl,_,rfl,le1,fun x0 ao=>?_⟩
  have u4:=zb (o:=.lst [.int (p:Int)]) ao;refine⟨_,rfl,_,rfl,(p:Int),jp,J,rfl,af.same u4,N.pl,⟨by omega,by omega⟩,N.ain,N.al,fun lb ms H5 s5 b0 Lb pw mm=>?_⟩
  obtain⟨eS,cS⟩:=zaX N mm;have lm:=yd (pw.imp fun h=>Int.ne_of_lt h) (fun j hj=>by
   obtain⟨_,k,w⟩:=(mm j).mp hj;exact uh (C:=InN J.ps.length) (fun _ _ _ hq=>(N.ain _ hq).2) ⟨by omega,by omega⟩ w:∀j∈ms,InN J.ps.length j)
  have c0:=N.pl;refine⟨x0,lb,_,_,rfl,rfl,s5 _ _ zc,Lb,(by rw[zp];show 1+ms.length<=_;omega),fun pt an=>?_⟩
  have s6:=(u4.trans s5).trans (zb (o:=.lst ([.int (p:Int)]++ms.map V.int)) an);have P6:upd H5 pt (.lst ([.int (p:Int)]++ms.map V.int)) pt=some (.lst (zn (p::ms.map Int.toNat))):=by rw[zc,eS];rfl
  generalize upd H5 pt (.lst ([.int (p:Int)]++ms.map V.int))=H6 at s6 P6;clear an Lb b0 s5 u4 ao;refine⟨pl,pt,U,tr,p::ms.map Int.toNat,rfl,u6 (s6 _ _ am),aq.same s6,by omega,tb,u6 P6,fun wl ur H7 bz s7 Lw ag=>?_⟩
  have s7:=s6.trans s7;have pw:=po.wo ol cS;refine⟨_,rfl,_,rfl,jp,wl,J,od,_,ur,rfl,af.same s7,u6 Lw,ag,aw,yf N pw op bo,fun H8 s8=>⟨_,_,rfl,rfl,_,rfl,ifF rfl ?_⟩⟩
  have s9:=s7.trans s8;have lw:=pw.sub.length_le;refine⟨_,rfl,_,rfl,wl,_,ur,rfl,s8 _ _ Lw,ag.same s8,by omega,fun be H9 _ ar Lo=>⟨be,_,rfl,.inl (u6 Lo),rfl,jr _,_,rfl,ifF ?_ ?_⟩⟩
  ·rw[inS,jN]
   ·simp
   ·rw[Zx fun t h=>(po.tr t h).ly,xx]
    rintro⟨_,z⟩;simp at z
  have sA:=s9.trans ar;have LA:=sA _ _ L3;have bb:=sA _ _ am;have bi:=aq.same sA;have ap:=af.same sA;have SA:SameB b H H9:=aj.trans (.of sA);clear sA ar s9 s8 s7 s6 ag Lw P6;refine⟨_,rfl,lh,rfl,⟨_,u6 LA⟩,vw (K:=K) (a:=lh) (xs:=zn (zo U)) (zag U J p H9) ⟨[],rfl,zM _,fun q=>by simp,ub _⟩ (fun i zs H' ⟨_,_,_,_,s⟩=>u6 (s _ _ LA)) ?_ ?_⟩
  ·rintro i x zs ae hx ⟨ks,rfl,lk,mk,aa⟩
   obtain⟨q,eq,rfl⟩:=j7 hx;have hi:=(zK.mp eq).1;have iq:=inr (qq eq);refine⟨rfl,_,rfl,_,rfl,_,rfl,(q:Int),jp,J,rfl,ap.same aa,N.pl,⟨by omega,by omega⟩,N.ain,N.al,fun l ns br ab hl Ln _ _ mn=>⟨l,_,rfl,.inl (u6 Ln),rfl,Jd ns,_,rfl,?_⟩⟩
   have a0:=aa.trans ab;refine jC (fun e=>⟨_,rfl,by rw[zu];omega,ks++[q],(yF ..).symm,by rw[zZ];exact Nat.succ_le_succ lk,fun r=>?_,a0⟩) (fun e=>⟨ks,rfl,by omega,fun r=>?_,a0⟩)
   ·have e:inV (.int (p:Int)) (ns.map V.int)=true:=e
    rw[Z2] at e;have e:=(UpA.of N).mp ((mn _).mp (xF e));rw[zL eq,qo,qo,mk,zY];constructor
    ·rintro(⟨h1,h2⟩ | rfl)
     ·exact⟨.inl h1,h2⟩
     ·exact⟨.inr rfl,e⟩
    ·rintro⟨h1 | rfl,h2⟩
     ·exact .inl ⟨h1,h2⟩
     ·exact .inr rfl
   ·have e:¬UpA J q (p:Int):=fun u=>e (show inV (.int (p:Int)) (ns.map V.int)=true by rw[Z2];exact je ((mn _).mpr ((UpA.of N).mpr u)))
    rw[zL eq,qo,mk,zY];constructor
    ·rintro⟨h1,h2⟩
     exact⟨.inl h1,h2⟩
    ·rintro⟨h1 | rfl,h2⟩
     ·exact⟨h1,h2⟩
     ·exact absurd h2 e
  ·rintro zs ae ⟨ks,rfl,lk,mk,aa⟩
   rw[zu] at lk;rw[zu,qA] at mk;refine⟨by rw[zu];omega,fun D hD=>?_⟩
   have ab:=aa.trans (zb (o:=.lst (zn ks)) hD);have ai:upd ae D (.lst (zn ks)) D=some (.lst (zn ks)):=zc;generalize upd ae D (.lst (zn ks))=bs at ab ai;clear hD aa;refine⟨_,rfl,_,rfl,_,rfl,le1,fun y hy=>?_⟩
   have ax:=zb (o:=.lst [.int (p:Int)]) hy;have a0:=ab.trans ax;refine⟨pl,y,U,tr,[p],rfl,u6 (a0 _ _ bb),bi.same a0,by omega,tb,u6 zc,fun bn bm bt _ as az bh=>?_⟩
   have au:=a0.trans as;refine⟨jp,bn,J,od,_,bm,rfl,ap.same au,u6 az,bh,aw,fun v ah bj rv=>?_⟩
   have av:=(ax.trans as).trans bj;have ay:=av _ _ ai;obtain⟨f1,f2⟩:=zhb N po op bo mk;have ak:SameB b H ah:=SA.trans (.of (ab.trans av));refine⟨_,rfl,le0,fun e he=>⟨D,e,_,rfl,rfl,u6 ((zb he) _ _ ay),u6 zc,_,rfl,jC (fun c=>?_) (fun c=>?_)⟩⟩
   ·have c:ks=[]:=by
     cases ks with
     | nil=>rfl
     | cons a l=>cases c
    rw[f1 c] at rv;cases(show v=.non from rv)
    exact⟨_,rfl,rfl,k _ (ak.trans (.of (zb he)))⟩
   ·have c:ks≠[]:=fun z=>c (by rw[z];rfl)
    obtain⟨x,ex,ew⟩:=f2 c;rw[ex] at rv;obtain⟨a,xs,rfl,qa,x0,r,rfl,h0,_⟩:=(show Rep K ah (.tup [.str x.1.1,.int (x.2:Int),.int (x.1.2:Int)]) v from rv)
    cases(show x0=.str x.1.1 from h0)
    refine⟨_,rfl,rfl,_,rfl,?_⟩
    refine jC (fun _=>?_) (fun z=>absurd (by rfl) z)
    refine⟨_,rfl,a,_,_,_,rfl,rfl,(zb he).sqT qa,zQ (j:=0) rfl,rfl,?_⟩
    rw[ew];exact k _ (ak.trans (.of (zb he)))
theorem YV(a b c:Int):xR (a-c)<=xR (a-b)+xR (b-c):=by
 unfold xR;split<;>split<;>split<;>omega
theorem za2(a b c d:Int):xR (a-c)<=jR a b c d/\xR (b-d)<=jR a b c d:=by
 unfold jR;split<;>constructor<;>omega
theorem zdb(p q r:Int×Int):jR p.1 p.2 r.1 r.2<=jR p.1 p.2 q.1 q.2+jR q.1 q.2 r.1 r.2:=by
 have c:=za2 p.1 p.2 q.1 q.2;have e:=za2 q.1 q.2 r.1 r.2;have f:=YV p.1 q.1 r.1;have g:=YV p.2 q.2 r.2;have:jR p.1 p.2 r.1 r.2=xR (p.2-r.2)\/jR p.1 p.2 r.1 r.2=xR (p.1-r.1):=by
  unfold jR;split
  ·exact .inl rfl
  ·exact .inr rfl
 omega
theorem Ys(c:Int×Int):∀(l:List (Int×Int)) (a:Int×Int),jR a.1 a.2 c.1 c.2<=(jY (a::(l++[c]))).sum
 | [],a=>by
  show _<=jR a.1 a.2 c.1 c.2+0;omega
 | b::l,a=>by
  have h:=Ys c l b;have t:=zdb a b c;show _<=jR a.1 a.2 b.1 b.2+(jY (b::(l++[c]))).sum;omega
theorem Q5(c d:Int×Int):∀(l:List (Int×Int)) (a:Int×Int),(jY (a::(l++[c,d]))).sum=(jY (a::(l++[c]))).sum+jR c.1 c.2 d.1 d.2
 | [],a=>by
  show jR a.1 a.2 c.1 c.2+(jR c.1 c.2 d.1 d.2+0)=(jR a.1 a.2 c.1 c.2+0)+jR c.1 c.2 d.1 d.2;omega
 | b::l,a=>by
  have h:=Q5 c d l b;show jR a.1 a.2 b.1 b.2+(jY (b::(l++[c,d]))).sum=(jR a.1 a.2 b.1 b.2+(jY (b::(l++[c]))).sum)+_;omega
theorem zde(J:Job){t:zF}{q:Nat×Nat}{f:List (Nat×Nat)}{c:List Nat}{p:Nat}(e1:t.pk=q::f)(e2:t.ly=c++[p]) :
  jR (xC J).1 (xC J).2 (fpl J q.2).1 (fpl J q.2).2+jR (fpl J q.2).1 (fpl J q.2).2 (ppl J p).1 (ppl J p).2+jR (ppl J p).1 (ppl J p).2 (xC J).1 (xC J).2<=jZ J t:=by
 have e:xm J t=xC J::fpl J q.2::((f.map (fun p=>fpl J p.2)++c.map (ppl J))++[ppl J p,xC J]):=by
  unfold xm;rw[e1,e2];simp
 unfold jZ;rw[e];have h:=Ys (ppl J p) (f.map (fun p=>fpl J p.2)++c.map (ppl J)) (fpl J q.2)
 show _<=jR (xC J).1 (xC J).2 (fpl J q.2).1 (fpl J q.2).2+(jY (fpl J q.2::((f.map (fun p=>fpl J p.2)++c.map (ppl J))++[ppl J p,xC J]))).sum
 rw[Q5];omega
inductive QV(e:List V)(H:Hp)(Q:VK):Prop
 | mk (b:Addr) (n:Int) (_:e=[.ref b]) (_:BoxAt H b n) (_:n<1000) (_:∀c,SameB b H c->Q (.bl true) c):QV  e H Q
def WU:Sp:=fun c H Q _=>QV  c H Q
theorem zfe{r:Int}(c:0<=r)(e:r<2):∃z:Int,atI [V.int 0,V.int 5] r=some (.int z)/\0<=z/\z<=5:=by
 have hc:r=0\/r=1:=by omega
 rcases hc with rfl | rfl
 ·exact⟨0,rfl,by decide,by decide⟩
 ·exact⟨5,rfl,by decide,by decide⟩
theorem zgm:zB ["_law_box_here","_law_job_here","_law_plan_here","_law_trip_here","_law_ends"] ["_law_box_here"] (zq (topL 53)):=u0
theorem zgN{f:Addr}{fd:FuncData}(F:Fun K "_law_right" "_law_right" (topL 53) f fd)(B:Blt I)(N:Dfn P w K I G "_law_take" 1 ["_law_box_here","_law_size"] xL)(aa:Dfn P w K I G "_law_job" 4 ["_law_box_here","_law_few","_law_most","_law_plenty"] (zel K))(T:Dfn P w K I G "_law_plan" 4 ["_law_box_here","_law_job_here","_law_most"] (zbi K))(D:Dfn P w K I G "_law_parts_right" 8 ["_law_job_here","_law_plan_here"] (zf9 K))(C:Dfn P w K I G "_law_turned_right" 8 ["_law_box_here","_law_job_here","_law_plan_here"] (zf8 K))(M:Dfn P w K I G "trip_way" 3 ["job","trip"] (yA K))(L:Dfn P w K I G "_law_way" 1 ["_law_one","_law_other"] (WN K)):FnOk P w K I G CX0 9 f fd ["_law_box_here"] WU:=by
 have nd:=zgm.nd;refine F.ok zgm (fun vs H Q E h=>?_) (fun b0 A ar s H vs Q E O h=>?_)
 ·obtain⟨b,n,rfl,_⟩:=h
  rfl
 ·obtain⟨b,n,rfl,B0,hn,k⟩:=h
  have hu:=O.units0;have bb:=Je O;have ay:=O.units;have hg:=O.gd;have ax:=bG1000000;have ba:=bGe;refine⟨_,(ze (zG (i:=1) nd rfl (Or.inl rfl) (zg aa O.m rfl (za (pv 0) (za zf (za zf (za (qX xN (zg N O.m rfl (za (pv 0) (za zf zd))) zf (zO _)) zd))))))
   (ze (zG (i:=2) nd rfl (Or.inl rfl) (zg T O.m rfl (za (pv 0) (za (pv 1) (za (zx zT (zV (za zf (za zf zd))) (zg N O.m rfl (za (pv 0) (za zf zd))) (fun _ _=>rfl)) zd)))))
   (ze (qI (PW.pt (ZL (xW (j5 (zg D O.m rfl (za (pv 1) (za (pv 2) zd))))) (wK (xW (j5 (zg C O.m rfl (za (pv 0) (za (pv 1) (za (pv 2) zd)))))))))
   (zj (zw jF))
   zU)
   (ze (qR jy rfl (qW (pv 2)) (zy (i:=3) nd rfl (Or.inl rfl))
   (ze (zG (i:=4) nd rfl (Or.inl rfl) (zV (za (zx zN (pv 1) zf (fun _ _=>rfl)) (za (zx zN (zx zN (zx zN (pv 1) zf (fun _ _=>rfl)) (zx zN (zx zN (zx zN (pv 3) zf (fun _ _=>rfl)) zf (fun _ _=>rfl)) zf (fun _ _=>rfl)) (fun _ _=>rfl)) zf (fun _ _=>rfl)) (za (zx zN (zx zN (zx zN (pv 1) zf (fun _ _=>rfl)) (zx zN (zx zN (pv 3) zf (fun _ _=>rfl)) (zeF za5 zf) (fun _ _=>rfl)) (fun _ _=>rfl)) zf (fun _ _=>rfl)) zd)))))
    (zj (qI (zJ X1 (zg M O.m rfl (za (pv 1) (za (pv 3) zd))) (zA qh (zA qh (zg L O.m rfl (za (zx zT (pv 4) zf (fun _ _=>rfl)) (za (zx zT (pv 4) zf (fun _ _=>rfl)) zd))) (zg L O.m rfl (za (zx zT (pv 4) zf (fun _ _=>rfl)) (za (zx zT (pv 4) zf (fun _ _=>rfl)) zd)))) (zg L O.m rfl (za (zx zT (pv 4) zf (fun _ _=>rfl)) (za (zx zT (pv 4) zf (fun _ _=>rfl)) zd)))) (zO _))
    (zj (zw jF))
    zU))))
   (zj (zw jF)))))),?_⟩
  refine⟨_,rfl,_,rfl,b,2,n,rfl,B0,by omega,by decide,by decide,fun r1 H1 _ _ B1 S1=>⟨rfl,b,7,24,_,_,rfl,B1,by omega,by decide,by decide,by decide,by decide,fun jp J od H2 S2 B2 rj jo=>?_⟩⟩
  have af:=S1.trans S2;refine⟨_,rfl,_,rfl,le2,fun l1 h1=>⟨_,rfl,b,2,_,rfl,B2.new h1,by omega,by decide,by decide,fun r2 H3 av aw B3 S3=>?_⟩⟩
  have n1:=B2.nne h1;have L3:=S3 l1 _ zc n1;have ag:=(af.new (o:=.lst [.int 0,.int 5]) h1).trans S3;have ab:=(rj.same (zb (o:=.lst [.int 0,.int 5]) h1)).keep (uc (B2.new h1) S3) (vT J);obtain⟨mo,ao,aq,bc⟩:=zfe av aw;refine⟨l1,_,_,_,rfl,rfl,u6 L3,ao,b,jp,J,od,mo,_,rfl,B3,by omega,ab,jo,aq,by omega,fun pl os ts xs H4 S4 B4 ai _ LP RT pm ob po=>?_⟩
  have Y:=ab.keep (uc B3 S4) (vT J);have ah:=ag.trans S4;refine⟨_,rfl,_,rfl,jp,pl,J,od,os,ts,xs,rfl,Y,jo,LP,RT,po,pm,ob,fun H5 s5=>⟨_,rfl,ifF rfl ?_⟩⟩
  have B5:=B4.same s5;refine⟨_,rfl,_,rfl,_,rfl,b,jp,pl,J,od,os,ts,xs,_,rfl,B5,by omega,Y.same s5,jo,s5 _ _ LP,ai,RT.same s5,po,pm,ob,fun H6 S6=>⟨_,rfl,ifF rfl ?_⟩⟩
  have T6:=uc B5 S6;have ak:=(Y.same s5).keep T6 (vT J);have am:=(RT.same s5).keep T6 (jE ts);have ae:=S6 _ _ (s5 _ _ LP) ai;have an:=(ah.trans (.of s5)).trans S6;clear S1 S2 S3 S4 B1 B2 B3 B4 af ag ah rj ab Y L3 n1 h1 RT LP s5 B5 S6 T6;refine⟨_,rfl,pl,rfl,⟨_,u6 ae⟩,?_⟩
  refine jL (K:=K) (a:=pl) (xs:=xs) (fun i σ H'=>∃v3 v4:Option V,σ=[some (.ref b),some (.ref jp),some (.ref pl),v3,v4]/\Same H6 H') ⟨_,_,rfl,ub _⟩ (fun i σ H' _ ⟨_,_,_,s⟩=>u6 (s _ _ ae)) ?_ ?_
  ·rintro i x σ H7 hx ⟨v3,v4,rfl,s7⟩
   obtain⟨d,ed,rd⟩:=(am.same s7).get hx;rw[qv] at ed;obtain⟨t,et,rfl⟩:=qJ.mp ed;have ac:=po.tr t (qq et);have tb:=ac.bd jo.hd1;obtain⟨q,pk,e1⟩:∃q pk,t.pk=q::pk:=by
    have:=ac.p1;cases e:t.pk with
    | nil=>rw[e] at this;exact absurd this (by decide)
    | cons q pk=>exact⟨_,_,rfl⟩
   obtain⟨ly,p,e2⟩:∃ly p,t.ly=ly++[p]:=by
    have l:=ac.ly.length_eq;rw[e1] at l;exact⟨_,_,(List.dropLast_concat_getLast (l:=t.ly) (fun z=>by rw[z] at l;cases l)).symm⟩
   have ge:=zde J e1 e2;obtain⟨tp,a,c,ys,zs,rfl,qt,qa,ra,qc,rc⟩:=qT (K:=K) (id rd);cases xr rc;obtain⟨g,fs,ps,az,fv,pv,qj,rg,qf,rf,qp,rp,_⟩:=yH (ak.same s7);obtain⟨fa,fc,ef,⟨x',z',as⟩,aj⟩:=zcF (fs:=fs) rf (tb.f q (by rw[e1];exact jz ..))
   obtain⟨pa,pc,ep,⟨x2,au⟩,al⟩:=zbX (ps:=ps) rp (tb.p p (by rw[e2];exact qB _ (zY.mpr rfl)))
   obtain⟨y0,ey,ry⟩:=JH ra (k:=0) (p:=q) (by rw[e1];rfl)
   obtain⟨a0,rfl,q0⟩:=qM (K:=K) ry;refine⟨_,rfl,jp,_,_,_,rfl,rfl,qj,zQ (j:=0) rfl,_,rfl,jp,_,_,_,rfl,rfl,qj,zQ (j:=2) rfl,_,rfl,tp,_,_,_,rfl,rfl,qt,zQ (j:=0) rfl,a,_,_,_,rfl,rfl,qa,zQ ey,a0,_,_,_,rfl,rfl,q0,zQ (j:=1) rfl,fs,_,_,_,rfl,rfl,qf,zQ ef,fa,_,_,_,rfl,rfl,as,zQ (j:=1) rfl,_,rfl,jp,_,_,_,rfl,rfl,qj,zQ (j:=3) rfl,_,rfl,tp,_,_,_,rfl,rfl,qt,zQ (j:=1) rfl,_,rfl,c,_,_,_,rfl,rfl,qc,(by rw[e2,yF];exact Vu _ _),ps,_,_,_,rfl,rfl,qp,zQ ep,pa,_,_,_,rfl,rfl,au,zQ (j:=1) rfl,le3,fun U ap=>?_⟩
   have u8:=zb (o:=.lst [.ref g,.ref fc,.ref pc]) ap;have E8:upd H7 U (.lst [.ref g,.ref fc,.ref pc]) U=some (.lst [.ref g,.ref fc,.ref pc]):=zc;generalize upd H7 U (.lst [.ref g,.ref fc,.ref pc])=H8 at u8 E8;have s8:=s7.trans u8;refine⟨_,rfl,_,rfl,jp,tp,J,od,t,rfl,ak.same s8,jo,rd.same u8,tb,fun H9 s9=>?_⟩
   have u9:=u8.trans s9;have LE:=s9 _ _ E8;have Rg:Rep K H9 (plD (xC J)) (.ref g):=rg.same u9;refine⟨_,rfl,U,_,_,_,rfl,rfl,u6 LE,zQ (j:=0) rfl,_,rfl,U,_,_,_,rfl,rfl,u6 LE,zQ (j:=1) rfl,_,_,xC J,fpl J q.2,rfl,Rg,aj.same u9,_,rfl,U,_,_,_,rfl,rfl,u6 LE,zQ (j:=1) rfl,_,rfl,U,_,_,_,rfl,rfl,u6 LE,zQ (j:=2) rfl,_,_,fpl J q.2,ppl J p,rfl,aj.same u9,al.same u9,_,_,rfl,rfl,_,rfl,U,_,_,_,rfl,rfl,u6 LE,zQ (j:=2) rfl,_,rfl,U,_,_,_,rfl,rfl,u6 LE,zQ (j:=0) rfl,_,_,ppl J p,xC J,rfl,al.same u9,Rg,_,_,rfl,rfl,_,_,rfl,rfl,_,rfl,ifF (jN (by omega)) ⟨_,_,rfl,s8.trans s9⟩⟩
  ·rintro σ H7 ⟨v3,v4,rfl,s7⟩
   exact k _ (an.trans (.of s7))
inductive W5(K:W.Frag)(e:List V)(H:Hp)(Q:VK):Prop
 | mk (a:Addr) (c:List Int) (_:e=[.ref a]) (_:SqL K H a (c.map V.int)) (_:c.length<=63) (_:∀f,Q (.bl true) f):W5 K e H Q
def spLaw(K:W.Frag):Sp:=fun c H Q _=>W5 K c H Q
theorem zes:zB ["_law_script","_law_cells"] ["_law_script"] (zq (topL 54)):=u0
theorem zfs{f:Addr}{fd:FuncData}(F:Fun K "law" "law" (topL 54) f fd)(B:Blt I)(g:Dfn P w K I G "_law_folded" 1 ["_law_script","_law_size"] (zbr K))(J:Dfn P w K I G "_law_box" 1 ["_law_script","_law_k"] (zen K))
  (l:Dfn P w K I G "_law_right" 9 ["_law_box_here"] WU):FnOk P w K I G CX0 10 f fd ["_law_script"] (spLaw K):=by
 have nd:=zes.nd;refine F.ok zes (fun vs H Q E h=>?_) (fun aa A U s H vs Q E T h=>?_)
 ·obtain⟨a,ns,rfl,_⟩:=h
  rfl
 ·obtain⟨a,ns,rfl,hS,M,k⟩:=h
  refine⟨_,(ze (zG (i:=1) nd rfl (Or.inr rfl) (zg g T.m rfl (za (pv 0) (za zf zd))))
   (zj (zw (zt (vb rfl) rfl B.all boot_all (za (jS ["_law_cells"] [1] rfl rfl (by kernel_rfl) (jq rfl B.range (za (zt (yK rfl) rfl B.max Z7 (za zf (za (zt zD rfl B.len boot_len (za (pv 1) zd)) zd))) zd)) (fun _ _ _ _=>qG) (fun _ _ _ _=>(zg l T.m rfl (za (zg J T.m rfl (za (pv 1) (za (pv 0) zd))) zd)))) zd))))),?_⟩
  refine⟨_,rfl,a,ns,6,rfl,hS,M,by decide,by decide,fun p C H1 s1 hp hm=>?_⟩
  have L:=bGe;have hl:(C.map V.int).length<=6:=by rw[zp];exact hm
  refine⟨_,rfl,p,_,rfl,.inl hp,_,_,rfl,_,rfl,(by rw[L];split<;>omega),(by rw[L];split<;>omega),?_⟩
  have hN:(if((C.map V.int).length:Int)>2 then((C.map V.int).length:Int) else 2).toNat<=8:=by split<;>omega
  have a0:=bG100;refine Vb (fun i Y N=>Y=List.replicate i (V.bl true)/\Same H1 N) ⟨rfl,ub _⟩ ?_ ?_
  ·rintro i Y N hi ⟨rfl,O⟩
   rw[Int.zero_add];refine⟨rfl,?_⟩
   refine⟨_,rfl,_,rfl,p,C,i,rfl,O.seq hp,by omega,fun q o hq Bq=>⟨q,0,rfl,Bq,by decide,fun H3 s3=>⟨?_,?_,fun c u e=>?_⟩⟩⟩
   ·rw[wF];omega
   ·rw[Xk]
   ·exact s3 c u ((zb hq) c u (O c u e)) (zk (O c u e) hq)
  ·rintro Y N ⟨rfl,O⟩
   refine⟨by rw[wF];omega,fun D hD=>⟨D,List.replicate (if((C.map V.int).length:Int)>2 then((C.map V.int).length:Int) else 2).toNat true,rfl,?_,?_⟩⟩
   ·refine u6 ?_
    rw[zc,Xg]
   ·have:=k (upd N D (.lst (List.replicate (if((C.map V.int).length:Int)>2 then((C.map V.int).length:Int) else 2).toNat (V.bl true))))
    simpa using this
end
theorem za9:∀{K:W.Frag},JD K=true->Tdn K
 | [],_,a,o,h,_=>by cases h
 | (n,x)::r,e,a,o,h,hc=>by
  have e:(VS x&&JD r)=true:=e;obtain⟨e1,e2⟩:=Bool.and_eq_true_iff.mp e;have h:List.lookup a ((n,x)::r)=some o:=h;rw[xE] at h;split at h
  ·cases h
   unfold VS at e1;rw[hc] at e1;cases d:x.dict with
   | none=>rfl
   | some z=>rw[d] at e1;cases e1
  ·exact za9 e2 a o h hc
theorem all_mk{l:PySem.W.OpenLaw}{w:World}{K:W.Frag}{h:Heap}{mg:Str->Option Value}{fa:Addr}(X:K.In h)(e:zgV V2 zaV zak K=zhe V2 zaV zak)(G:h.Ns mainGlobals mg)(bh:mg "law" = some (.ref fa)) :
  ∃fd:FuncData,(∀(s:Shared) (v:Value),BindsTo s fd ⟨[v],[]⟩ [("_law_script",v)])/\∀b0:Heap,K.In b0->b0.Ns mainGlobals mg->FnOk l.prog w K mg b0 CX0 10 fa fd ["_law_script"] (spLaw K):=by
 have Z0:Tp l.prog w K mg h h V2 zaV zak:=⟨X,G,congrArg Prod.fst e⟩;have B:Blt mg:=⟨Z0.bl 0 rfl,Z0.bl 1 rfl,Z0.bl 2 rfl,Z0.bl 3 rfl,Z0.bl 4 rfl,Z0.bl 5 rfl,Z0.bl 6 rfl,Z0.bl 7 rfl,Z0.bl 8 rfl,Z0.bl 9 rfl,Z0.bl 10 rfl,Z0.bl 11 rfl,Z0.bl 12 rfl,Z0.bl 13 rfl,Z0.bl 14 rfl,Z0.bl 15 rfl,Z0.bl 16 rfl,Z0.bl 17 rfl,Z0.bl 18 rfl,Z0.bl 19 rfl⟩;obtain⟨f,fd,a,F⟩:=Z0.fd 49 rfl;cases bh.symm.trans (PySem.W.mg_of X G a);refine⟨fd,?_,fun b0 _ _=>?_⟩
 ·obtain⟨_,_,_,_,_,_,_,_,_,rfl,_,_⟩:=F.ex
  exact fun s v=>.of_eq rfl
 have Z:Tp l.prog w K mg b0 h V2 zaV zak:=⟨X,G,congrArg Prod.fst e⟩;have an:=Z.dfn 0 rfl fun _ _ F _ _=>zfv F B
 have A:=Z.dfn 1 rfl fun _ _ F _ _=>zgH F B an
 have ae:=Z.dfn 2 rfl fun _ _ F _ _=>zfn F B
 have as:=Z.dfn 3 rfl fun _ _ F _ _=>zfr F B ae
 have C:=Z.dfn 4 rfl fun _ _ F _ _=>zgM F B
 have I:=Z.dfn 5 rfl fun _ _ F _ _=>zgK F B
 have bg:=Z.dfn 6 rfl fun _ _ F _ _=>zcf F B
 have ac:=Z.dfn 7 rfl fun _ _ F _ _=>zdG F B
 have ak:=Z.dfn 8 rfl fun _ _ F _ _=>zch F B
 have L:=Z.dfn 9 rfl fun _ _ F _ _=>zfx F B ak
 have J:=Z.dfn 10 rfl fun _ _ F _ _=>zcn F B bg ac L
 have am:=Z.dfn 11 rfl fun _ _ F _ _=>zax F B ac L
 have Q:=Z.dfn 12 rfl fun _ _ F _ _=>zgS F B
 have U:=Z.dfn 13 rfl fun _ _ F _ _=>zgU F B J
 have T:=Z.dfn 14 rfl fun _ _ F _ _=>zgR F B Q U
 have Y:=Z.dfn 15 rfl fun _ _ F _ _=>zgT F B T
 have ba:=Z.dfn 16 rfl fun _ _ F _ _=>zdE F B C A
 have al:=Z.dfn 17 rfl fun _ _ F _ _=>zck F B I ba
 have au:=Z.dfn 18 rfl fun _ _ F _ _=>zdJ F B C A
 have bb:=Z.dfn 19 rfl fun _ _ F _ _=>zfu F B C al au
 have az:=Z.dfn 20 rfl fun _ _ F _ _=>zcg F B
 have O:=Z.dfn 21 rfl fun _ _ F _ _=>zgJ F B az as
 have ay:=Z.dfn 22 rfl fun _ _ F _ _=>zgO F B O
 have N:=Z.dfn 23 rfl fun _ _ F _ _=>zfp F B
 have bf:=Z.dfn 24 rfl fun _ _ F _ _=>zdI F B
 have M:=Z.dfn 25 rfl fun _ _ F _ _=>zgQ F B bb Y
 have bc:=Z.dfn 26 rfl fun _ _ F _ _=>zfw F B
 have c:=Z.dfn 27 rfl fun _ _ F _ _=>zdB F B
 have ag:=Z.dfn 28 rfl fun _ _ F _ _=>zdL F B
 have aa:=Z.dfn 29 rfl fun _ _ F _ _=>zci F B
 have av:=Z.dfn 30 rfl fun _ _ F _ _=>zfq F B c aa
 have ao:=Z.dfn 31 rfl fun _ _ F _ _=>zcm F B av
 have D:=Z.dfn 32 rfl fun _ _ F _ _=>zcj F B c
 have aj:=Z.dfn 33 rfl fun _ _ F _ _=>zaw F B D
 have g:=Z.dfn 34 rfl fun _ _ F _ _=>zdC F B c
 have a0:=Z.dfn 35 rfl fun _ _ F _ _=>zdM F B c g D
 have af:=Z.dfn 36 rfl fun _ _ F _ _=>zay F B c g
 have bd:=Z.dfn 37 rfl fun _ _ F _ _=>zft F B c ao D aj a0 af
 have ap:=Z.dfn 38 rfl fun _ _ F _ _=>zcl F B c
 have ax:=Z.dfn 39 rfl fun _ _ F _ _=>zdA F B g
 have aw:=Z.dfn 40 rfl fun _ _ F _ _=>zdD F B c ap ax
 have be:=Z.dfn 41 rfl fun _ _ F _ _=>zdH F B
 have ab:=Z.dfn 42 rfl fun _ _ F _ _=>zgI F B
 have T0:Tdn K:=za9 (congrArg Prod.snd e);have ai:=Z.dfn 43 rfl fun _ _ F _ _=>zdF F B T0
 have ah:=Z.dfn 44 rfl fun _ _ F _ _=>zdK F B
 have aq:=Z.dfn 46 rfl fun _ _ F _ _=>zfo F B
 have H:=Z.dfn 45 rfl fun _ _ F _ _=>zgP F B M ay bf aq ai N ah
 have E:=Z.dfn 47 rfl fun _ _ F _ _=>zgL F B N c ab am M J Y
 have ar:=Z.dfn 48 rfl fun _ _ F _ _=>zgN F B c bd aw H E O be
 exact zfs F B ag bc ar
end L2
open PySem PySem.W PyProof.Rows
set_option maxRecDepth 100000 in
set_option maxHeartbeats 0 in
theorem PySem.Challenge.cw_pickboard_k15_whole_plans_parted_and_joi_holds : PySem.Challenge.rw_pickboard_k15_whole_plans_parted_and_joi.Holds := by
 refine L2.ownHead (d:=L2.defRec "law" (L2.topL 54)) 9999 L2.head1 L2.head2 (by kernel_rfl) (by kernel_rfl) (by kernel_rfl) L2.head3 ⟨rfl,rfl,rfl,rfl,rfl,by decide +kernel⟩ (by w_witness2) ?_
 exact L2.walkS (n:=63) (k:=10) (x:= "_law_script") (sp:=L2.spLaw) rfl (by decide) (by kernel_rfl) ⟨rfl,by decide,by decide,rfl⟩ (fun _ _ _ _ _ X e G m=>L2.all_mk X e G m) fun _ _ a ns hl _ hS=>⟨a,ns,rfl,hS,hl,fun _=>rfl⟩
