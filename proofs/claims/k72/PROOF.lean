import PyProof.Rows.All
import Wide.All
import OpenK.AllK
import Wide.FinOn
import Lean
import PyProof.EqAt
import PyProof.EqKinds
import PyProof.TupleCall
import PyProof.NeKinds
import PyProof.ReprRoads
import PyProof.ReprBulk
import PyProof.SumWalk
import PyProof.FString5
import PyProof.StrBlock2
import PyProof.StrBlockI
import PyProof.StrBlockH
import PyProof.StrWalks
import PyProof.StrLawsIn
import PyProof.AutoListH
import PyProof.CompUse
import PyProof.ListRange
import PyProof.CallFns
import PyProof.ListTruth
import PyProof.Rows.Range3
import PyProof.SeqI3
import KE.KRevSl
import PyProof.DictIter
import PyProof.DictWalks
import PyProof.DictCompW
import PyProof.Cells
import KE.KUnpack
import PySem.Challenge.RW_pickboard_k72_whole_two_plans_on_one_rai
set_option Elab.async false
set_option linter.all false
set_option maxRecDepth 100000
def zj:=@PySem.wpAny_bind
def zx:=@List.length_map
def zZ:=@List.getElem?_eq_some_iff
def qd:=@PySem.Heap.get?_push_of_some
def zB:=@PySem.wpAny_pure
def zJ:=@Nat.le_refl
def qu:=@List.mem_singleton
def qG:=@List.length_append
def jb:=@Option.map_eq_some_iff
def qF:=@List.size_toArray
def qi:=@List.mem_append_right
def zX:=@List.getElem?_map
def zK:=@PySem.Heap.lt_size
def qy:=@PySem.Heap.get?_push_size
def zS:=@decide_eq_true
def zq:=@if_neg
def zY:=@List.map_append
def qx:=@Bool.false_ne_true
def qI:=@List.mem_of_getElem?
def zW:=@List.mem_cons
def zw:=@if_pos
def zP:=@PySem.wpAny_mono
def qC:=@List.mem_append
def z9:=@Nat.ne_of_lt
def je:=@List.length_pos_iff
def jv:=@List.mem_cons_of_mem
def qW:=@Option.some.inj
def jd:=@List.lookup_cons
def ju:=@Nat.lt_of_lt_of_le
def xf:=@PySem.F.plainAttrs_list
def jc:=@PySem.PassesOwn.never
def jr:=@List.length_cons
def jq:=@List.length_take
def jn:=@Bool.and_eq_true
def xc:=@List.length_replicate
def jH:=@of_decide_eq_true
def xK:=@PySem.F.slot_list_append
def xJ:=@PySem.F.type_list_append
def qQ:=@Nat.zero_le
def jt:=@PySem.Heap.size_push
def jO:=@List.take_length
def jG:=@decide_eq_false
def xn:=@List.mem_cons_self
def jm:=@Nat.le_trans
def x6:=@List.length_filter_le
def wp:=@List.getElem?_append_right
def xm:=@List.all_eq_true
def xk:=@List.mem_filter
def xj:=@List.append_nil
def qB:=@Ne.symm
def vt:=@PySem.mem_of_lookup
def yf:=@List.getElem?_append_left
def xI:=@List.filter_cons
def x5:=@PySem.wpAny_newObj_type
def yY:=@PyProof.Rows.callWith_type1
def ye:=@Option.isSome_iff_exists
def yd:=@List.getElem?_eq_getElem
def jS:=@List.mem_map
def xi:=@PySem.wpAny_standAt
def xZ:=@List.getElem_mem
def yc:=@PySem.wpAny_callSpecial?_slot
def wo:=@List.mem_append_left
def xE:=@Nat.lt_irrefl
def xD:=@List.map_cons
def vq:=@Nat.lt_succ_self
def xb:=@PySem.wpAny_field
def j9:=@beq_iff_eq
def vp:=@Bool.and_false
def yb:=@List.filter_append
def wm:=@PySem.wpAny_call_entry
def wj:=@List.not_mem_nil
def vn:=@PySem.Paired.length
def ya:=@PySem.wpAny_truthy_bool
def w4:=@Nat.lt_succ_of_lt
def yX:=@Array.length_toList
def vm:=@Nat.ne_of_gt
def wZ:=@List.length_drop
def yW:=@Int.emod_lt_of_pos
def Vt:=@PySem.F.slot_dict_keyiterator_next
def yV:=@List.append_assoc
def yU:=@List.length_range
def wY:=@List.find?_cons
def ZU:=@List.replicate_succ
def vO:=@Nat.le_of_eq
def wg:=@PySem.wpAny_holding
def Vs:=@List.getD_eq_getElem?_getD
def yT:=@decide_eq_decide
def wX:=@List.mem_range
def yS:=@Bool.eq_iff_iff
def yR:=@Option.map_some
def yQ:=@Int.emod_nonneg
def Jk:=@List.replicate_succ'
def wW:=@List.any_cons
def yP:=@PySem.Value.type.inj
def yO:=@PySem.wpAny_seqItems
def Vr:=@List.take_of_length_le
def Jj:=@List.getElem?_drop
def Ji:=@PySem.wpAny_setField_rec
def Jh:=@List.map_replicate
def ZT:=@PySem.wpAny_passesOwn
def Xi:=@PySem.F.slot_tuple_iterator_next
def yF:=@List.flatten_cons
def Z4:=@List.mem_iff_getElem
def yE:=@PySem.wpAny_isInstance
def yD:=@Bool.not_eq_true
def Wi:=@PyProof.Rows.slot_tuple_getitem
def Xh:=@List.getElem?_cons_succ
def yC:=@List.nil_append
def yB:=@Nat.min_eq_left
def Z3:=@Int.toNat_natCast
def wD:=@Nat.le_of_lt
def yA:=@Bool.false_and
def Xg:=@PySem.F.slot_enumerate_next
def Z2:=@List.any_eq_true
def yz:=@PySem.wpAny_attempt
def yy:=@Bool.and_true
def Xf:=@PySem.Heap.SameBut.update
def Z1:=@List.nodup_cons
def ZZ:=@List.forIn_cons
def ZY:=@Bool.or_eq_true
def Wh:=@List.drop_eq_getElem_cons
def Xe:=@PySem.Obj.data_mapFields
def yw:=@Nat.succ_pos
def wC:=@PySem.wpAny_rule
def Wg:=@List.getElem?_cons_zero
def Xd:=@List.reverse_cons
def Xc:=@Option.some.injEq
def Wf:=@PyProof.noPylong_small
def yu:=@Nat.le_succ
def ZX:=@List.map_take
def Xb:=@List.mem_flatMap
def We:=@PySem.Heap.get?_update_self
def Wd:=@List.length_singleton
def Wc:=@List.take_append_drop
def ZW:=@Nat.add_comm
def Xa:=@PySem.F.slot_zip_next
def zbR:=@Array.isEmpty_iff_size_eq_zero
def zbQ:=@PySem.F.args_dict_keyiterator_next_1
def Wb:=@List.mem_of_mem_take
def ZV:=@List.map_map
def zbP:=@PySem.F.entry_dict_keyiterator_next
def Wa:=@List.filterMap_cons
def V9:=@List.flatMap_append
def J9:=@List.forIn_nil
def zbO:=@PySem.F.args_tuple_iterator_next_1
def V8:=@Bool.false_eq_true
def zbN:=@PySem.F.entry_tuple_iterator_next
def zbM:=@PySem.Calls.Name_function_global
def zbL:=@Int.fdiv_eq_ediv_of_nonneg
def zbK:=@Int.fmod_eq_emod_of_nonneg
def J8:=@Bool.false_or
def J7:=@Prod.mk.injEq
def J6:=@PySem.W.mg_of
def J5:=@Bool.true_and
def V7:=@Option.isSome_map
def zbJ:=@List.getElem?_zip_eq_some
def V5:=@Nat.min_le_right
def J4:=@List.map_nil
def V4:=@Array.toList_inj
def J3:=@Nat.sub_self
def JZ:=@Int.zero_add
def V3:=@Nat.zero_lt_succ
def V2:=@List.length_nil
def V1:=@List.of_mem_zip
def V0:=@List.length_set
def VZ:=@List.filter_nil
def VY:=@List.range_succ
def JY:=@PySem.Paired.snoc
namespace L2
open PySem PySem.Spec PyProof.Rows
theorem bG100000:100000<sizeLine:=by rw[sizeLine_eq];decide
theorem bG1000000:1000000<sizeLine:=by rw[sizeLine_eq];decide
theorem bG100:100<sizeLine:=by rw[sizeLine_eq];decide
theorem bGe:(2:Int)^62=4611686018427387904:=by decide
abbrev Key:=Sum Int Str
def QT:Key->Value->Bool
 | .inl k,v=>Value.isInt k v
 | .inr x,v=>Value.isStrOf x v
def zfv(w:World):Key->Int
 | .inl k=>hashInt k
 | .inr x=>hashStr w x
theorem qO:∀{k:Key} {v:Value},QT k v=true->(∃i t,k=Sum.inl i/\v=Value.int i t)\/(∃x t,k=Sum.inr x/\v=Value.str x t)
 | .inl i,v,h=>by
  obtain⟨t,e⟩:=Value.isInt_shape (k:=i) (v:=v) h;exact .inl ⟨i,t,rfl,e⟩
 | .inr x,v,h=>by
  obtain⟨t,e⟩:=Value.isStrOf_shape (x:=x) (v:=v) h;exact .inr ⟨x,t,rfl,e⟩
theorem Y5(i:Int)(t:Tok):QT (.inl i) (.int i t)=true:=by simp[QT,Value.isInt]
theorem Y4(x:Str)(t:Tok):QT (.inr x) (.str x t)=true:=by simp[QT,Value.isStrOf]
theorem zd7(a b:Int):decide ((Sum.inl a:Key)=Sum.inl b)=(a==b):=by
 by_cases e:a=b
 ·subst e;simp
 ·have h:¬(Sum.inl a:Key)=Sum.inl b:=fun q=>e (Sum.inl.inj q)
  rw[jG h];exact(beq_eq_false_iff_ne.mpr e).symm
theorem zd4(a b:Str):decide ((Sum.inr a:Key)=Sum.inr b)=decide (a=b):=by
 by_cases e:a=b
 ·subst e;simp
 ·have h:¬(Sum.inr a:Key)=Sum.inr b:=fun q=>e (Sum.inr.inj q)
  rw[jG h,jG e]
theorem zd6(a:Int)(b:Str):decide ((Sum.inl a:Key)=Sum.inr b)=false:=jG (fun q=>nomatch q)
theorem zd5(a:Str)(b:Int):decide ((Sum.inr a:Key)=Sum.inl b)=false:=jG (fun q=>nomatch q)
def qS(g:Program)(w:World):PySem.KeyKind g w Key where
 is:=QT
 hash:=zfv w
 inj:=fun v a b ha hb=>by
  rcases qO ha with ⟨i,t,rfl,rfl⟩ | ⟨x,t,rfl,rfl⟩
  ·rcases qO hb with ⟨j,u,rfl,e⟩ | ⟨y,u,rfl,e⟩
   ·injection e with f _;rw[f]
   ·exact nomatch e
  ·rcases qO hb with ⟨j,u,rfl,e⟩ | ⟨y,u,rfl,e⟩
   ·exact nomatch e
   ·injection e with f _;rw[f]
 byValue:=fun k v h=>by
  rcases qO h with ⟨i,t,rfl,rfl⟩ | ⟨x,t,rfl,rfl⟩<;>rfl
 pyHash:=fun l h=>by
  rcases qO l with ⟨i,t,rfl,rfl⟩ | ⟨x,t,rfl,rfl⟩
  ·exact wpAny_pyHash_int h
  ·exact wpAny_pyHash_str h
 eqBool:=fun hu l h=>by
  rcases qO hu with ⟨i,t,rfl,rfl⟩ | ⟨x,t,rfl,rfl⟩
  ·rcases qO l with ⟨j,u,rfl,rfl⟩ | ⟨y,u,rfl,rfl⟩
   ·rw[zd7] at h;exact wpAny_eqBool_int h
   ·rw[zd6] at h;exact SeqAt.EqAt.int_str i t y u _ _ _ _ h
  ·rcases qO l with ⟨j,u,rfl,rfl⟩ | ⟨y,u,rfl,rfl⟩
   ·rw[zd5] at h;exact SeqAt.EqAt.str_int x t j u _ _ _ _ h
   ·rw[zd4] at h;exact wpAny_eqBool_str h
 «strs»:=fun k x t v h=>by
  rcases qO h with ⟨i,u,rfl,e⟩ | ⟨y,u,rfl,e⟩
  ·exact nomatch e
  ·injection e with f _
   subst f;cases v<;>rfl
theorem X0(f:Program)(w:World)(i:Int)(t:Tok):(qS f w).is (.inl i) (.int i t)=true:=Y5 i t
theorem XZ(f:Program)(w:World)(x:Str)(t:Tok):(qS f w).is (.inr x) (.str x t)=true:=Y4 x t
inductive V where
 | non | bl (b:Bool) | int (i:Int) | str (x:Str) | byt (b:Array UInt8) | flt (b:UInt64) | ref (a:Addr) | ty (n:String)
 deriving DecidableEq
def RelV:V->Value->Prop
 | .non,u=>u=Value.none
 | .bl b,u=>u=Value.bool b
 | .int i,u=>∃t,u=Value.int i t
 | .str x,u=>∃t,u=Value.str x t
 | .byt b,u=>∃t,u=Value.bytes b t
 | .flt b,u=>∃t,u=Value.float b t
 | .ref a,u=>u=Value.ref a
 | .ty n,u=>u=Value.type n
abbrev Vals:List V->List Value->Prop:=Paired RelV
theorem Vals.length{xs:List V}{f:List Value}(r:Vals xs f):xs.length=f.length:=vn r
theorem Vals.get:∀{g:List V} {f:List Value} {i:Nat} {x:V},Vals g f->g[i]? =some x->∃u,f[i]? =some u/\RelV x u
 | _,_,_,_,.nil,e=>by simp at e
 | _,_,0,_,.cons r _,e=>by simp at e;subst e;exact⟨_,rfl,r⟩
 | _,_,i+1,x,.cons _ t,e=>by
  obtain⟨u,j,l⟩:=Vals.get (i:=i) (x:=x) t (by simpa using e)
  exact⟨u,by simpa using j,l⟩
theorem Vals.set{x:V}{u:Value}(r:RelV x u):∀{g:List V} {f:List Value} (i:Nat),Vals g f->Vals (g.set i x) (f.set i u)
 | _,_,_,.nil=>.nil
 | _,_,0,.cons _ t=>.cons r t
 | _,_,i+1,.cons q t=>.cons q (Vals.set r i t)
theorem Vals.append:∀{j l:List V} {f g:List Value},Vals j f->Vals l g->Vals (j++l) (f++g)
 | _,_,_,_,.nil,s=>s
 | _,_,_,_,.cons r t,s=>.cons r (Vals.append t s)
theorem Vals.take:∀{g:List V} {f:List Value} (n:Nat),Vals g f->Vals (g.take n) (f.take n)
 | _,_,0,_=>.nil
 | _,_,_+1,.nil=>.nil
 | _,_,n+1,.cons r t=>.cons r (Vals.take n t)
theorem Vals.drop:∀{g:List V} {f:List Value} (n:Nat),Vals g f->Vals (g.drop n) (f.drop n)
 | _,_,0,r=>r
 | _,_,_+1,.nil=>.nil
 | _,_,n+1,.cons _ t=>Vals.drop n t
def RelO:Option V->Option Value->Prop
 | some v,some u=>RelV v u
 | none,none=>True
 | _,_=>False
def KV{κ:Type}:List (κ×V)->List (κ×Value)->Prop:=Paired fun(p:κ×V) (q:κ×Value)=>p.1=q.1/\RelV p.2 q.2
def kV:Key->V
 | .inl i=>.int i
 | .inr x=>.str x
inductive HO where
  | lst (l:List V)
  | tup (l:List V)
  | dK (g:List (Key×V)) | dT (g:List (List Key×V))
  | set (S:Int->Bool) (n:Nat)
  | ins (C s:Addr) (j:List (Str×V))
  | own (x:Addr)
  | xd (j:List (Str×V))
  | met (f x:Addr)
  | rng (lo w:Int)
  | frz (o:Obj) (u:HO)
  | tbl (A:Array Value)
  | ext (φ:Heap->Prop)
abbrev Hp:=Addr->Option HO
def upd(H:Hp)(a:Addr)(o:HO):Hp:=fun b=>if b=a then some o else H b
theorem zd{H:Hp}{a:Addr}{o:HO}:upd H a o a=some o:=by unfold upd;rw[zw rfl]
theorem zm{H:Hp}{a b:Addr}{o:HO}(h:b≠a):upd H a o b=H b:=by unfold upd;rw[zq h]
theorem xW{H:Hp}{a b:Addr}{o u:HO}(h:H a=some o)(f:H b=some u)(d:o≠u):a≠b:=by
 intro e;subst e;rw[h] at f;exact d (qW f)
theorem zi{H:Hp}{a b:Addr}{o:HO}(h:H a=some o)(f:H b=none):a≠b:=by
 intro e;subst e;rw[h] at f;cases f
section
variable(P:Program)(w:World)
def TupX(h:Heap)(a:Addr)(f:Array Value):Prop:=IsTup h a f/\∃o,h.get? a=some o/\o.dict=none
theorem TupX.by{h:Heap}{a:Addr}{f:Array Value}{n:Nat}(e:h.get? a=some { cls:=.type "tuple",data:=.seq f n }):TupX h a f:=⟨⟨_,e,rfl,n,rfl⟩,_,e,rfl⟩
def ObjOk(H:Hp)(h:Heap)(a:Addr):HO->Prop
 | .lst l=>l.length<=sizeLine/\∃(g:List Value) (n:Nat),Vals l g/\h.get? a=some { cls:=.type "list",data:=.seq g.toArray n }
 | .tup l=>l.length<=sizeLine/\∃g:List Value,Vals l g/\TupX h a g.toArray
 | .dK j=>j.length<=sizeLine/\(a==sysModules)=false/\∃I,KV j I/\h.DictOf (qS P w) a I
 | .dT j=>j.length<=sizeLine/\(a==sysModules)=false/\∃l:List (List Key×Addr×Value),
   Paired (fun(p:List Key×V) (q:List Key×Addr×Value)=>p.1=q.1/\H q.2.1=some (.tup (p.1.map kV))/\RelV p.2 q.2.2) j l /\
   ∃o D J,h.get? a=some o/\o.ExactDict/\o.data=.dict D J/\D.toList=l.map (entryOfKey (tupleKind (qS P w)))/\(l.map (·.1)).Nodup
 | .set S n=>h.SetOf (intKind P w) a S n
 | .ins C B A=>H B=some (.own a)/\A.length<=1000/\B≠a/\h.get? a=some (PySem.W.instObj C B) /\
   ∃s,h.Ns1 B s/\(∀f,RelO (A.lookup f) (s f))/\PySem.Within s (A.map (·.1))
 | .own _=>∃o,h.get? a=some o
 | .xd A=>∃s,h.Ns1 a s/\∀f,RelO (A.lookup f) (s f)
 | .rng lo L=>∃t u v,h.get? a=some { cls:=.type "range",data:=.fields #[.int lo t,.int L u,.int 1 v] }
 | .frz o u=>h.get? a=some o/\ObjOk H h a u
 | .tbl M=>h.get? a=some { cls:=.none,data:=.fields M }
 | .met f x=>h.get? a=some (PySem.W.methodObj (.ref f) (.ref x))
 | .ext φ=>φ h/\(∃o,h.get? a=some o)/\∀E G:Heap,φ E->(∀o,E.get? a=some o->G.get? a=some o)->φ G
def HOk(H:Hp)(h:Heap):Prop:=∀a o,H a=some o->ObjOk P w H h a o
end
section
variable{P:Program}{w:World}{H g:Hp}{h h':Heap}{a:Addr}{o:HO}
theorem ObjOk.lt(x:ObjOk P w H h a o):a<h.objs.size:=by
 cases o with
 | lst s=>obtain⟨_,_,_,_,e⟩:=x;exact zK e
 | tup s=>obtain⟨_,_,_,p⟩:=x;exact p.1.lt
 | dK j=>obtain⟨_,_,_,_,o,_,_,e,_⟩:=x;exact zK e
 | dT j=>obtain⟨_,_,_,_,o,_,_,e,_⟩:=x;exact zK e
 | set S n=>obtain⟨o,_,_,_,e,_⟩:=x;exact zK e
 | ins C A l=>obtain⟨_,_,_,e,_⟩:=x;exact zK e
 | own y=>obtain⟨_,e⟩:=x;exact zK e
 | xd l=>obtain⟨_,⟨_,_,_,e,_⟩,_⟩:=x;exact zK e
 | rng lo B=>obtain⟨_,_,_,e⟩:=x;exact zK e
 | frz D u=>obtain⟨e,_⟩:=x;exact zK e
 | tbl E=>exact zK (show h.get? a=some _ from x)
 | met f y=>exact zK (show h.get? a=some _ from x)
 | ext φ=>obtain⟨_,⟨_,e⟩,_⟩:=x;exact zK e
theorem Paired.mapP{α β:Type}{F G:α->β->Prop}:∀{j:List α} {l:List β},Paired F j l->(∀a b,F a b->G a b)->Paired G j l
 | _,_,.nil,_=>.nil
 | _,_,.cons r t,f=>.cons (f _ _ r) (Paired.mapP t f)
def uk:=@Paired.mapP
theorem ObjOk.stay(x:ObjOk P w H h a o)(k:∀b u,(b=a\/H b=some (.own a))->h.get? b=some u->h'.get? b=some u)
  (N:∀b,H b=some (.own a)->g b=some (.own a)) (O:∀b B,H b=some (.tup B)->g b=some (.tup B)):ObjOk P w g h' a o:=by
 induction o with
 | lst B=>obtain⟨z,A,n,r,e⟩:=x;exact⟨z,A,n,r,k _ _ (.inl rfl) e⟩
 | tup B=>obtain⟨z,A,r,⟨j,e,c⟩,o2,D,L⟩:=x;exact⟨z,A,r,⟨j,k _ _ (.inl rfl) e,c⟩,o2,k _ _ (.inl rfl) D,L⟩
 | dK E=>obtain⟨z,y,U,r,j,s,l,e,c⟩:=x;exact⟨z,y,U,r,j,s,l,k _ _ (.inl rfl) e,c⟩
 | dT E=>
  obtain⟨z,y,B,r,j,s,l,e,c⟩:=x;exact⟨z,y,B,uk r fun p q z=>⟨z.1,O _ _ z.2.1,z.2.2⟩,j,s,l,k _ _ (.inl rfl) e,c⟩
 | set S n=>obtain⟨j,s,l,t,e,c⟩:=x;exact⟨j,s,l,t,k _ _ (.inl rfl) e,c⟩
 | ins C Y M=>
  obtain⟨d,z,T,e,G,⟨I,s,l,D,c⟩,r⟩:=x;exact⟨N _ d,z,T,k _ _ (.inl rfl) e,G,⟨I,s,l,k _ _ (.inr d) D,c⟩,r⟩
 | own y=>obtain⟨j,e⟩:=x;exact⟨j,k _ _ (.inl rfl) e⟩
 | xd M=>obtain⟨G,⟨I,s,l,e,c⟩,r⟩:=x;exact⟨G,⟨I,s,l,k _ _ (.inl rfl) e,c⟩,r⟩
 | rng lo hi=>obtain⟨t,u,v,e⟩:=x;exact⟨t,u,v,k _ _ (.inl rfl) e⟩
 | frz j u Q=>obtain⟨e,q⟩:=x;exact⟨k _ _ (.inl rfl) e,Q q⟩
 | tbl J=>
  have e:h.get? a=some { cls:=.none,data:=.fields J }:=x;show h'.get? a=some { cls:=.none,data:=.fields J };exact k a _ (.inl rfl) e
 | met f y=>
  have e:h.get? a=some (PySem.W.methodObj (.ref f) (.ref y)):=x;show h'.get? a=some (PySem.W.methodObj (.ref f) (.ref y));exact k a _ (.inl rfl) e
 | ext φ=>obtain⟨p,⟨o,e⟩,st⟩:=x;exact⟨st _ _ p fun o q=>k _ _ (.inl rfl) q,⟨o,k _ _ (.inl rfl) e⟩,st⟩
theorem HOk.lt(x:HOk P w H h)(e:H a=some o):a<h.objs.size:=(x a o e).lt
theorem HOk.fresh(x:HOk P w H h)(e:h.objs.size<=a):H a=none:=by
 cases q:H a with
 | none=>rfl
 | some u=>exact absurd (ju (x.lt q) e) (xE _)
theorem HOk.kept(x:HOk P w H h)(k:∀b u,h.get? b=some u->h'.get? b=some u):HOk P w H h':=fun a o e=>
 (x a o e).stay (fun b u _ q=>k b u q) (fun _ q=>q) fun _ _ q=>q
theorem HOk.laid(x:HOk P w H h)(k:∀b u,h.get? b=some u->h'.get? b=some u)(hp:h.objs.size<=a)(f:ObjOk P w (upd H a o) h' a o):HOk P w (upd H a o) h':=fun b u e=>by
 have j:=x.fresh hp;by_cases hb:b=a
 ·subst hb;rw[zd] at e;cases e;exact f
 ·rw[zm hb] at e
  exact(x b u e).stay (fun c v _ q=>k c v q) (fun c q=>by rw[zm (zi q j)];exact q) fun c l q=>by rw[zm (zi q j)];exact q
end
def Rd(H:Hp)(a:Addr)(u:HO):Prop:=H a=some u\/∃o,H a=some (.frz o u)
theorem Rd.of{H:Hp}{a:Addr}{u:HO}(h:H a=some u):Rd H a u:=.inl h
theorem Rd.ok{P:Program}{w:World}{H:Hp}{h:Heap}{a:Addr}{u:HO}(r:Rd H a u)(x:HOk P w H h):ObjOk P w H h a u:=by
 rcases r with r | ⟨o,r⟩
 ·exact x a u r
 ·obtain⟨_,q⟩:=x a _ r
  exact q
def Mut:Option HO->Prop
 | some (.lst _)=>True
 | some (.dK _)=>True
 | some (.dT _)=>True
 | some (.set _ _)=>True
 | some (.ins _ _ _)=>True
 | some (.ext _)=>True
 | _=>False
section
variable{P:Program}{w:World}{H:Hp}{h f:Heap}{x e:Addr}{g:HO}
theorem HOk.write(ok:HOk P w H h)(A:Mut (H x))(E:e=x\/H e=some (.own x))(k:∀b u,b≠e->h.get? b=some u->f.get? b=some u)(C:∃u,f.get? e=some u)
  (D:ObjOk P w (upd H x g) f x g):HOk P w (upd H x g) f:=fun b u q=>by
 have l:∀c y,H c=some (.own y)->c≠x:=fun c y r z=>by subst z;rw[r] at A;exact A
 have s:∀c B,H c=some (.tup B)->c≠x:=fun c B r z=>by subst z;rw[r] at A;exact A
 by_cases hb:b=x
 ·subst hb;rw[zd] at q;cases q;exact D
 ·rw[zm hb] at q
  by_cases j:b=e
  ·have G:H b=some (.own x):=by
    rcases E with z | z
    ·exact absurd (j.trans z) hb
    ·rw[j];exact z
   rw[q] at G;cases G
   obtain⟨v,I⟩:=C;exact⟨v,by rw[j];exact I⟩
  ·refine(ok b u q).stay (fun c v hc r=>k c v ?_ r) (fun c r=>by rw[zm (l c b r)];exact r) fun c B r=>by rw[zm (s c B r)];exact r
   rcases hc with rfl | hc
   ·exact j
   ·rintro rfl
    rcases E with z | z
    ·exact l c b hc z
    ·rw[hc] at z;cases z;exact hb rfl
end
structure Un(fs ex:List Addr)(H H':Hp)(h h':Heap):Prop where
 keep:∀b o,h.get? b=some o->H b=none->b∉fs->b∉ex->h'.get? b=some o
 slot:∀b o,h.get? b=some o->H b=none->b∈fs->b∉ex->∃sl,h'.get? b=some { o with slots:=sl }
 free:∀b o,h.get? b=some o->H b=none->b∉ex->H' b=none
 there:∀b o,h.get? b=some o->b∉ex->∃o',h'.get? b=some o'
 tups:∀b xs,H b=some (.tup xs)->H' b=some (.tup xs)
 frzs:∀b o u,H b=some (.frz o u)->H' b=some (.frz o u)
 tbls:∀b ps,H b=some (.tbl ps)->∃more,H' b=some (.tbl (ps++more))
section
variable{g w f s:List Addr}{H l A:Hp}{h j B h':Heap}{a x e:Addr}{o:HO}
theorem Un.any(u:Un g f H l h j){b:Addr}{C:Obj}(q:h.get? b=some C)(n:H b=none)(hx:b∉f):∃D,j.get? b=some { C with slots:=D }:=by
 by_cases hb:b∈g
 ·exact u.slot b C q n hb hx
 ·exact⟨C.slots,u.keep b C q n hb hx⟩
theorem Un.trans(a:Un g f H l h j)(b:Un g f l A j B):Un g f H A h B where
 keep:=fun c u q n hc hx=>b.keep c u (a.keep c u q n hc hx) (a.free c u q n hx) hc hx
 slot:=fun c u q n hc hx=>by
  obtain⟨N,C⟩:=a.slot c u q n hc hx;obtain⟨I,E⟩:=b.slot c _ C (a.free c u q n hx) hc hx;exact⟨I,E⟩
 free:=fun c u q n hx=>by
  obtain⟨G,C⟩:=a.there c u q hx;exact b.free c G C (a.free c u q n hx) hx
 there:=fun c u q hx=>by
  obtain⟨G,C⟩:=a.there c u q hx;exact b.there c G C hx
 tups:=fun c D q=>b.tups c D (a.tups c D q)
 frzs:=fun c u D q=>b.frzs c u D (a.frzs c u D q)
 tbls:=fun c M q=>by
  obtain⟨J,C⟩:=a.tbls c M q;obtain⟨L,E⟩:=b.tbls c _ C;exact⟨J++L,by rw[E,Array.append_assoc]⟩
theorem Un.kept(k:∀b u,h.get? b=some u->h'.get? b=some u):Un g f H H h h':=
 ⟨fun b C q _ _ _=>k b C q,fun b C q _ _ _=>⟨C.slots,k b C q⟩,fun _ _ _ n _=>n,fun b C q _=>⟨C,k b C q⟩,fun _ _ q=>q,fun _ _ _ q=>q,fun _ D q=>⟨#[],by rw[q];simp⟩⟩
theorem Un.refl:Un g f H H h h:=Un.kept fun _ _ q=>q
theorem Un.laid(k:∀b u,h.get? b=some u->h'.get? b=some u)(hp:h.objs.size<=a)(C:H a=none):Un g f H (upd H a o) h h' where
 keep:=fun b u q _ _ _=>k b u q
 slot:=fun b u q _ _ _=>⟨u.slots,k b u q⟩
 free:=fun b u q n _=>by rw[zm (z9 (ju (zK q) hp))];exact n
 there:=fun b u q _=>⟨u,k b u q⟩
 tups:=fun b D q=>by rw[zm (zi q C)];exact q
 frzs:=fun b u D q=>by rw[zm (zi q C)];exact q
 tbls:=fun b E q=>⟨#[],by rw[zm (zi q C),q];simp⟩
theorem Un.write(D:Mut (H x))(G:e=x\/H e=some (.own x))(k:∀b u,b≠e->h.get? b=some u->h'.get? b=some u)(E:∃u,h'.get? e=some u):Un g f H (upd H x o) h h':=by
 have hx:∀b,H b=none->b≠x:=fun b n z=>by subst z;rw[n] at D;exact D
 have hb:∀b,H b=none->b≠e:=fun b n z=>by
  subst z;rcases G with r | r
  ·exact hx b n r
  ·rw[n] at r;cases r
 have hm:∀b u,H b=some u->¬Mut (some u)->b≠x:=fun b u q I z=>by subst z;rw[q] at D;exact I D
 refine⟨fun b u q n _ _=>k b u (hb b n) q,fun b u q n _ _=>⟨u.slots,k b u (hb b n) q⟩,fun b u q n _=>by rw[zm (hx b n)];exact n,fun b u q _=>?_,
  fun b J q=>by rw[zm (hm b _ q fun z=>z)];exact q,fun b u J q=>by rw[zm (hm b _ q fun z=>z)];exact q,fun b L q=>⟨#[],by rw[zm (hm b _ q fun z=>z),q];simp⟩⟩
 by_cases C:b=e
 ·subst C;exact E
 ·exact⟨u,k b u C q⟩
theorem Un.mono(u:Un g f H l h j)(E:∀b∈g,b∈w)(hx:∀b∈f,b∈s):Un w s H l h j:=
 ⟨fun b D q n hb C=>u.keep b D q n (fun z=>hb (E b z)) fun z=>C (hx b z),fun _ _ q n _ C=>u.any q n fun z=>C (hx _ z),fun b D q n C=>u.free b D q n fun z=>C (hx b z),fun b D q C=>u.there b D q fun z=>C (hx b z),u.tups,u.frzs,u.tbls⟩
end
def trk(h:Heap)(H:Hp):List Addr:=(List.range h.objs.size).filter fun a=>(H a).isSome
def JJ(h:Heap)(H:Hp):Heap:=PySem.W.hideAll h (trk h H)
theorem Y7(h:Heap)(H:Hp):(JJ h H).objs.size=h.objs.size:=PySem.W.hideAll_size _ _
theorem zbt{h:Heap}{H:Hp}{b:Addr}{o:Obj}(e:h.get? b=some o)(n:H b=none):(JJ h H).get? b=some o:=
 PySem.W.hideAll_get _ e fun hm=>by
  have q:(H b).isSome=true:=(xk.mp hm).2;rw[n] at q;simp at q
theorem zcu{h:Heap}{H:Hp}{b:Addr}{o:Obj}(e:(JJ h H).get? b=some o):h.get? b=some o/\H b=none:=by
 have f:h.get? b=some o:=PySem.W.of_hideAll (trk h H) e;refine⟨f,?_⟩
 cases q:H b with
 | none=>rfl
 | some x=>
  have hm:b∈trk h H:=xk.mpr ⟨wX.mpr (zK f),by simp[q]⟩
  have z:(JJ h H).get? b=none:=PySem.W.hideAll_none (trk h H) hm;rw[z] at e;cases e
def zcP(g h:Heap)(L:Addr):List (Addr×Obj):=(List.range h.objs.size).filterMap fun a=>if a=L\/(g.get? a).isSome=true then none else(h.get? a).map fun o=>(a,o)
def rest(g h:Heap)(L d:Addr):List (Addr×Obj):=(zcP g h L).filter fun p=>decide (p.1≠d)
structure Mod(K:W.Frag)(mg:Str->Option Value)(base:Heap):Prop where
 kin:K.In base
 glob:base.Ns mainGlobals mg
 blt:∃mb,base.Ns builtinsNs mb/\∀x:Str,x ≠ "__name__" -> mb x=bootBuiltins x
 nolimit:base.NoLimit
structure Cx where
 prog:Program
 w:World
 K:PySem.W.Frag
 mg:Str->Option Value
 base:Heap
 A:Around
 N:List Str
 s₀:Shared
 H₀:Hp
 env:Env
 outer:List Env
 stack:List Env
 ex:List Addr
 fn:Str->Bool
 calm:Bool
 pn:List (Addr×Obj)
 xe:Value->Shared->Prop
def frs(l:List Env):List Addr:=l.filterMap (·.frame)
abbrev Cx.fs(X:Cx):List Addr:=frs X.outer
def Vis(f:Scope)(x:Str):Prop:=f.names.lookup x=some .local\/f.names.lookup x=some .cell\/f.names.lookup x=some .free
def Loc(f:Scope)(x:Str):Prop:=f.names.lookup x=some .local\/f.names.lookup x=some .cell
def zfB(f:Env)(h:Heap)(m:Str->Option Value)(x:Str)(u:Value):Prop:=
 (f.kindOf x=some .local/\m x=some u)\/((f.kindOf x=some .cell\/f.kindOf x=some .free)/\∃c,f.cells.lookup x=some c/\h.IsCell c (some u))
structure Cx.Ok(X:Cx):Prop where
 mod:Mod X.K X.mg X.base
 kind:X.env.scope.kind=.function
 glob:X.env.globals=mainGlobals
 blt:X.env.builtins=builtinsNs
 above:X.s₀.heap.objs.size<=X.env.locals
 inj:∀x y c,X.env.cells.lookup x=some c->X.env.cells.lookup y=some c->x=y
 has:∀x,(X.env.kindOf x=some .cell\/X.env.kindOf x=some .free)->∃c,X.env.cells.lookup x=some c
 cab:∀x c,X.fn x=true->X.env.cells.lookup x=some c->X.s₀.heap.objs.size<=c
 hd:X.calm=true->X.A.handled=none
 frames:X.A.frames=some X.stack
 stk:X.stack=X.outer\/(X.stack=X.env::X.outer/\X.env.frame=some X.env.locals)
 exf:∀b∈X.ex,b≠X.env.locals/\∀x c,X.env.cells.lookup x=some c->c≠b
 bs:∀b o,X.base.get? b=some o->X.s₀.heap.get? b=some o/\X.H₀ b=none
 bsz:X.base.objs.size<=X.s₀.heap.objs.size
 noex:∀b o,X.base.get? b=some o->b∉X.ex
 exfs:∀b∈X.ex,b∉X.fs
 funs:X.s₀.heap.FunFrames X.base X.outer
 frf:∀b∈X.fs,X.H₀ b=none
structure Inv(X:Cx)(pins:List (Addr×Obj))(σ:List (Option V))(H:Hp)(s:Shared):Prop where
 ok:X.Ok
 os:s.os=X.s₀.os
 bare:AllBare s.gens
 base:Un X.fs X.ex X.H₀ H X.s₀.heap s.heap
 loc:∃m,s.heap.Ns X.env.locals m/\∀(i:Nat) (x:Str) (v:V),X.N[i]? =some x->σ[i]? =some (some v)->Vis X.env.scope x->∃u,RelV v u/\zfB X.env s.heap m x u
 cell:∀x c,X.env.cells.lookup x=some c->∃v,s.heap.IsCell c v
 free:H X.env.locals=none
 freeC:∀x c,X.env.cells.lookup x=some c->H c=none
 pin:∀p∈X.pn++pins,s.heap.get? p.1=some p.2/\H p.1=none/\p.1≠X.env.locals/\p.1∉X.fs/\∀v,p.2.data≠.cell v
 hok:HOk X.prog X.w H s.heap
 len:σ.length=X.N.length
section
variable{X:Cx}{f:List (Addr×Obj)}{σ:List (Option V)}{H g:Hp}{s:Shared}{h':Heap}
theorem Cx.Ok.nofr(ok:X.Ok){b:Addr}{o:Obj}(e:X.base.get? b=some o):b∉X.fs:=fun hb=>by
 have:=(ok.funs.mem hb).1;rw[e] at this;cases this
theorem Inv.bs(I:Inv X f σ H s):∀b o,X.base.get? b=some o->s.heap.get? b=some o/\H b=none:=fun b o e=>
 ⟨I.base.keep b o (I.ok.bs b o e).1 (I.ok.bs b o e).2 (I.ok.nofr e) (I.ok.noex b o e),I.base.free b o (I.ok.bs b o e).1 (I.ok.bs b o e).2 (I.ok.noex b o e)⟩
theorem Inv.bk(I:Inv X f σ H s):∀b o,X.base.get? b=some o->s.heap.get? b=some o:=fun b o e=>(I.bs b o e).1
theorem Inv.mod(I:Inv X f σ H s):Mod X.K X.mg X.base:=I.ok.mod
theorem Inv.kIn(I:Inv X f σ H s):X.K.In s.heap:=I.ok.mod.kin.keeps I.bk
theorem Inv.nolimit(I:Inv X f σ H s):s.heap.NoLimit:=I.ok.mod.nolimit.keeps I.bk
theorem Inv.fr(I:Inv X f σ H s):∃m,Fr X.base X.env.locals s.heap m:=
 let ⟨m,j,_⟩:=I.loc
 ⟨m,j,I.bk,jm I.ok.bsz I.ok.above⟩
theorem Inv.lt(I:Inv X f σ H s):X.env.locals<s.heap.objs.size:=let ⟨_,j,_⟩:=I.loc;j.lt
theorem Inv.sz(I:Inv X f σ H s):X.s₀.heap.objs.size<=s.heap.objs.size:=jm I.ok.above (wD I.lt)
theorem Inv.nofs(I:Inv X f σ H s){a:Addr}(h:s.heap.objs.size<=a):a∉X.fs:=fun hb=>by
 obtain⟨_,o,j,_⟩:=I.ok.funs.mem hb;exact absurd (ju (zK j) (jm I.sz h)) (xE _)
theorem Inv.cne(I:Inv X f σ H s):∀x c,X.env.cells.lookup x=some c->c≠X.env.locals:=fun x c e z=>by
 obtain⟨v,o,w,u⟩:=I.cell x c e;obtain⟨m,⟨C,B,A,l,j,_⟩,_⟩:=I.loc;rw[z,l] at w;cases w;rw[j] at u;cases u
theorem Inv.funs(I:Inv X f σ H s):s.heap.FunFrames X.base X.outer:=by
 have all:∀(l:List Env),(∀b∈frs l,b∈X.fs)->X.s₀.heap.FunFrames X.base l->s.heap.FunFrames X.base l:=by
  intro l;induction l with
  | nil=>intro _ _;trivial
  | cons w r G=>
   intro u B;obtain⟨hk,⟨L,o,hf,C,D,A⟩,E⟩:=B;have j:L∈X.fs:=u L (by unfold frs;rw[Wa,hf];exact xn)
   obtain⟨J,e⟩:=I.base.slot L o D (I.ok.frf L j) j fun z=>I.ok.exfs L z j
   exact⟨hk,⟨L,_,hf,C,e,A⟩,G (fun b hb=>u b (by unfold frs;rw[Wa,hf];exact jv _ hb)) E⟩
 exact all X.outer (fun _ hb=>hb) I.ok.funs
theorem Inv.stack(I:Inv X f σ H s):s.heap.FunFrames X.base X.stack:=by
 rcases I.ok.stk with e | ⟨e,hf⟩
 ·rw[e];exact I.funs
 ·rw[e]
  obtain⟨m,j,_⟩:=I.loc;refine .cons (by rw[I.ok.kind];decide) hf j ?_ I.funs
  exact Heap.get?_none_of_le (jm I.ok.bsz I.ok.above)
theorem Inv.stkSub(I:Inv X f σ H s):∀b∈frs X.stack,b∈X.env.locals::X.fs:=fun b hb=>by
 rcases I.ok.stk with e | ⟨e,hf⟩
 ·rw[e] at hb;exact jv _ hb
 ·rw[e] at hb
  unfold frs at hb;rw[Wa,hf] at hb;exact hb
theorem Inv.stkFree(I:Inv X f σ H s):∀b∈frs X.stack,H b=none:=fun b hb=>by
 rcases zW.mp (I.stkSub b hb) with e | hb
 ·rw[e];exact I.free
 ·obtain⟨_,o,j,_⟩:=I.ok.funs.mem hb
  exact I.base.free b o j (I.ok.frf b hb) fun z=>I.ok.exfs b z hb
theorem Inv.step{g':Array GenState}{t':Nat}{d':Drawn}{ch:List Addr}(I:Inv X f σ H s)
  (A:∀b∈ch,(b∈X.ex\/X.s₀.heap.objs.size<=b)/\b≠X.env.locals/\(∀x c,X.env.cells.lookup x=some c->c≠b)/\∀p∈X.pn++f,p.1≠b)
  (B:∀b o,b≠X.env.locals->b∉X.fs->b∉ch->s.heap.get? b=some o->H b=none->h'.get? b=some o)
  (G:∀b o,b≠X.env.locals->b∈X.fs->b∉ch->s.heap.get? b=some o->H b=none->∃sl,h'.get? b=some { o with slots:=sl }) (j:∀b o,b∉ch->s.heap.get? b=some o->H b=none->g b=none)
  (L:∀b o,b∉ch->s.heap.get? b=some o->∃U,h'.get? b=some U)
  (a0:∀b J,H b=some (.tup J)->g b=some (.tup J)) (O:∀b o u,H b=some (.frz o u)->g b=some (.frz o u)) (Y:∀b ps,H b=some (.tbl ps)->∃Q,g b=some (.tbl (ps++Q)))
  (ns:∀m,s.heap.Ns X.env.locals m->h'.Ns X.env.locals m) (aa:HOk X.prog X.w g h') (hg:AllBare g') :
  Inv X f σ g { s with heap:=h',gens:=g',drawn:=d',toks:=t' }:=by
 have T:∀b o,X.s₀.heap.get? b=some o->b≠X.env.locals:=fun b o e=>z9 (ju (zK e) I.ok.above)
 have E:∀b o,X.s₀.heap.get? b=some o->b∉X.ex->b∉ch:=fun b o e hx hb=>by
  rcases(A b hb).1 with z | z
  ·exact hx z
  ·exact absurd (ju (zK e) z) (xE _)
 have w:∀x c,X.env.cells.lookup x=some c->∀v,s.heap.IsCell c v->h'.IsCell c v:=fun x c e v ⟨o,M,hd⟩=>by
  have C:c∉ch:=fun z=>(A c z).2.2.1 x c e rfl
  by_cases hc:c∈X.fs
  ·obtain⟨sl,q⟩:=G c o (I.cne x c e) hc C M (I.freeC x c e)
   exact⟨_,q,hd⟩
  ·exact⟨o,B c o (I.cne x c e) hc C M (I.freeC x c e),hd⟩
 refine⟨I.ok,I.os,hg,⟨fun b o e n hb hx=>?_,fun b o e n hb hx=>?_,fun b o e n hx=>?_,fun b o e hx=>?_,fun b J e=>a0 b J (I.base.tups b J e),fun b o J e=>O b o J (I.base.frzs b o J e),fun b ps e=>?_⟩,?_,fun x c e=>?_,?_,fun x c e=>?_,fun p hp=>?_,aa,I.len⟩
 ·exact B b o (T b o e) hb (E b o e hx) (I.base.keep b o e n hb hx) (I.base.free b o e n hx)
 ·obtain⟨sl,D⟩:=I.base.slot b o e n hb hx
  obtain⟨ab,N⟩:=G b _ (T b o e) hb (E b o e hx) D (I.base.free b o e n hx);exact⟨ab,N⟩
 ·obtain⟨U,D⟩:=I.base.there b o e hx
  exact j b U (E b o e hx) D (I.base.free b o e n hx)
 ·obtain⟨U,D⟩:=I.base.there b o e hx
  exact L b U (E b o e hx) D
 ·obtain⟨m1,D⟩:=I.base.tbls b ps e
  obtain⟨m2,N⟩:=Y b _ D;exact⟨m1++m2,by rw[N,Array.append_assoc]⟩
 ·obtain⟨m,hn,hl⟩:=I.loc
  refine⟨m,ns m hn,fun i x v D N e3=>?_⟩
  obtain⟨u,r,l⟩:=hl i x v D N e3;refine⟨u,r,?_⟩
  rcases l with l | ⟨k,c,e,z⟩
  ·exact .inl l
  ·exact .inr ⟨k,c,e,w x c e _ z⟩
 ·obtain⟨v,z⟩:=I.cell x c e
  exact⟨v,w x c e v z⟩
 ·obtain⟨m,⟨o,_,_,M,_⟩,_⟩:=I.loc
  exact j _ o (fun z=>(A _ z).2.1 rfl) M I.free
 ·obtain⟨v,o,M,hd⟩:=I.cell x c e
  exact j c o (fun z=>(A c z).2.2.1 x c e rfl) M (I.freeC x c e)
 ·obtain⟨e,n,ne,nf,d⟩:=I.pin p hp
  have C:p.1∉ch:=fun z=>(A p.1 z).2.2.2 p hp rfl
  exact⟨B p.1 p.2 ne nf C e n,j p.1 p.2 C e n,ne,nf,d⟩
theorem Inv.un{t':Nat}(I:Inv X f σ H s)(u:Un X.fs [] H g s.heap h')(A:HOk X.prog X.w g h'):Inv X f σ g { s with heap:=h',toks:=t' }:=by
 obtain⟨m,⟨o,L,J,B,r⟩,_⟩:=id I.loc;obtain⟨Q,C⟩:=u.any B I.free (by simp)
 exact I.step (g':=s.gens) (d':=s.drawn) (ch:=[]) (fun _ z=>nomatch z) (fun b o _ hb _ e n=>u.keep b o e n hb (by simp)) (fun b o _ hb _ e n=>u.slot b o e n hb (by simp)) (fun b o _ e n=>u.free b o e n (by simp)) (fun b o _ e=>u.there b o e (by simp)) u.tups u.frzs u.tbls (fun N hm=>by
  obtain⟨O,w,l,j,D⟩:=hm;rw[B] at j;cases j
  exact⟨_,w,l,C,D⟩) A I.bare
theorem Inv.call{g':Array GenState}{t':Nat}{d':Drawn}{ch:List Addr}(I:Inv X f σ H s)(u:Un (frs X.stack) ch H g s.heap h')(C:HOk X.prog X.w g h')(E:AllBare g')
  (j:∀b∈ch,(b∈X.ex\/X.s₀.heap.objs.size<=b)/\b≠X.env.locals/\(∀x c,X.env.cells.lookup x=some c->c≠b)/\∀p∈X.pn++f,p.1≠b) :
  Inv X f σ g { s with heap:=h',gens:=g',drawn:=d',toks:=t' }:=by
 obtain⟨m,⟨o,L,J,D,r⟩,_⟩:=id I.loc;obtain⟨O,B⟩:=u.any D I.free fun z=>(j _ z).2.1 rfl
 exact I.step (ch:=ch) j (fun b o B hb hc e n=>u.keep b o e n (fun z=>(zW.mp (I.stkSub b z)).elim B hb) hc) (fun b o _ _ hc e n=>u.any e n hc) (fun b o hc e n=>u.free b o e n hc) (fun b o hc e=>u.there b o e hc) u.tups u.frzs u.tbls (fun M hm=>by
  obtain⟨N,A,w,l,G⟩:=hm;rw[D] at l;cases l
  exact⟨_,A,w,B,G⟩) C E
theorem Inv.turned{t':Nat}{it:Addr}(I:Inv X f σ H s)(k:∀b o,b≠it->s.heap.get? b=some o->h'.get? b=some o)(E:H it=none)(l:it≠X.env.locals)
  (B:it∈X.ex\/X.s₀.heap.objs.size<=it) (C:∀x c,X.env.cells.lookup x=some c->c≠it) (D:∀p∈X.pn++f,p.1≠it):Inv X f σ H { s with heap:=h',toks:=t' }:=by
 have j:∀b u,H b=some u->b≠it:=fun b u e z=>by rw[z,E] at e;cases e
 refine I.step (g':=s.gens) (d':=s.drawn) (ch:=[it]) (fun b hb=>?_) (fun b o _ _ hc e _=>k b o (fun z=>hc (by simp[z])) e) (fun b o _ _ hc e _=>⟨o.slots,k b o (fun z=>hc (by simp[z])) e⟩) (fun _ _ _ _ n=>n)
  (fun b o hc e=>⟨o,k b o (fun z=>hc (by simp[z])) e⟩) (fun _ _ e=>e) (fun _ _ _ e=>e) (fun b N e=>⟨#[],by rw[e];simp⟩) (fun m hm=>?_) (fun b u e=>?_) I.bare
 ·have e:b=it:=by simpa using hb
  subst e;exact⟨B,l,C,D⟩
 ·obtain⟨o,A,w,G,r⟩:=hm
  exact⟨o,A,w,k _ o (qB l) G,r⟩
 ·refine(I.hok b u e).stay (fun c v hc q=>k c v ?_ q) (fun _ q=>q) fun _ _ q=>q
  rcases hc with z | z
  ·rw[z];exact j b u e
  ·exact j c _ z
theorem Inv.tok(I:Inv X f σ H s)(t:Nat):Inv X f σ H { s with toks:=t }:=I.un (h':=s.heap) (t':=t) Un.refl I.hok
theorem Inv.kept{t':Nat}(I:Inv X f σ H s)(k:∀b u,s.heap.get? b=some u->h'.get? b=some u):Inv X f σ H { s with heap:=h',toks:=t' }:=I.un (Un.kept k) (I.hok.kept k)
theorem Inv.laid{a:Addr}{o:HO}{t':Nat}(I:Inv X f σ H s)(k:∀b u,s.heap.get? b=some u->h'.get? b=some u)(hp:s.heap.objs.size<=a)(j:ObjOk X.prog X.w (upd H a o) h' a o) :
  Inv X f σ (upd H a o) { s with heap:=h',toks:=t' }:=I.un (Un.laid k hp (I.hok.fresh hp)) (I.hok.laid k hp j)
theorem Inv.write{x e:Addr}{o:HO}{B:Nat}(I:Inv X f σ H s)(A:Mut (H x))(w:e=x\/H e=some (.own x))(k:∀b u,b≠e->s.heap.get? b=some u->h'.get? b=some u)(j:∃u,h'.get? e=some u)
  (l:ObjOk X.prog X.w (upd H x o) h' x o):Inv X f σ (upd H x o) { s with heap:=h',toks:=B }:=I.un (Un.write A w k j) (I.hok.write A w k j l)
theorem Inv.weak{l:List (Option V)}(I:Inv X f σ H s)(C:l.length=σ.length)(w:∀(i:Nat) v,l[i]? =some (some v)->σ[i]? =some (some v)):Inv X f l H s:=
 ⟨I.ok,I.os,I.bare,I.base,let ⟨m,D,j⟩:=I.loc;⟨m,D,fun i x v u A B=>j i x v u (w i v A) B⟩,I.cell,I.free,I.freeC,I.pin,I.hok,C.trans I.len⟩
theorem Inv.pins_of{pins':List (Addr×Obj)}(I:Inv X f σ H s)(h:∀p∈pins',s.heap.get? p.1=some p.2/\H p.1=none/\p.1≠X.env.locals/\p.1∉X.fs/\∀v,p.2.data≠.cell v):Inv X pins' σ H s:=
 ⟨I.ok,I.os,I.bare,I.base,I.loc,I.cell,I.free,I.freeC,fun p hp=>(qC.mp hp).elim (fun z=>I.pin p (wo _ z)) (h p),I.hok,I.len⟩
theorem XT{N:List Str}(w:N.Nodup){i j:Nat}{x:Str}(a:N[i]? =some x)(b:N[j]? =some x):i=j:=by
 obtain⟨A,l⟩:=zZ.mp a;obtain⟨B,u⟩:=zZ.mp b;exact(List.getElem_inj w).mp (l.trans u.symm)
theorem YW{M:Model}{A:Around}{E:Value->Shared->Prop}{i:Nat}{x:Str}{v:V}{u:Value}{Q:Unit->Shared->Prop}(I:Inv X f σ H s)(hN:X.N.Nodup)(U:X.N[i]? =some x)(hx:Loc X.env.scope x)(r:RelV v u)
  (h:∀s',Inv X f (σ.set i (some v)) H s'->(∃a,Heap.SameBut a s.heap s'.heap/\(a=X.env.locals\/X.env.cells.lookup x=some a))->Q () s') (hf:X.fn x=true\/X.env.scope.names.lookup x=some .local:=by first| exact .inl rfl | exact .inr rfl | assumption):wpAny M A (storeName X.env x u) Q E s:=by
 obtain⟨m,hn,hl⟩:=id I.loc;have T:(X.env.scope.kind==.class||(X.env.scope.kind==.module&&X.env.locals != X.env.globals))=false:=by rw[I.ok.kind];rfl
 have Y:i<σ.length:=by rw[I.len];exact(zZ.mp U).1
 have G:=I.cne;have B:∀{a:Addr} {h':Heap},(∃o,s.heap.get? a=some o/\H a=none)->Heap.SameBut a s.heap h'->HOk X.prog X.w H h':=fun {a h'} ha l b ob e=>by
  obtain⟨_,_,C⟩:=ha;refine(I.hok b ob e).stay (fun c w' hc q=>(l.2 c ?_).trans q) (fun _ q=>q) fun _ _ q=>q
  rintro rfl;rcases hc with rfl | hc
  ·rw[C] at e;cases e
  ·rw[C] at hc;cases hc
 rcases hx with hk | hk
 ·refine wpAny_storeName_local hk hn (fun h' ab l=>?_) T
  obtain⟨oL,_,_,ac,_⟩:=id hn;refine h _ ⟨I.ok,I.os,I.bare,⟨fun b o e n hb hx=>?_,fun b o e n hb hx=>?_,I.base.free,fun b o e hx=>?_,I.base.tups,I.base.frzs,I.base.tbls⟩,⟨_,ab,fun j y v' w D e3=>?_⟩,fun y c e=>?_,I.free,I.freeC,fun p hp=>?_,B ⟨oL,ac,I.free⟩ l,by simpa using I.len⟩ ⟨_,l,.inl rfl⟩
  ·exact(l.2 b (z9 (ju (zK e) I.ok.above))).trans (I.base.keep b o e n hb hx)
  ·obtain⟨sl,w⟩:=I.base.slot b o e n hb hx
   exact⟨sl,(l.2 b (z9 (ju (zK e) I.ok.above))).trans w⟩
  ·obtain⟨o',w⟩:=I.base.there b o e hx
   exact⟨o',(l.2 b (z9 (ju (zK e) I.ok.above))).trans w⟩
  ·by_cases L:j=i
   ·subst L
    rw[U] at w;cases w
    rw[List.getElem?_set_self Y] at D
    cases D;exact⟨u,r,.inl ⟨hk,by simp⟩⟩
   ·rw[List.getElem?_set_ne (qB L)] at D
    obtain⟨u',r',q⟩:=hl j y v' w D e3;refine⟨u',r',?_⟩
    rcases q with ⟨k,e⟩ | ⟨k,c,e,z⟩
    ·refine .inl ⟨k,?_⟩
     have:y≠x:=fun e=>L (XT hN w (e▸U))
     simp[this,e]
    ·exact .inr ⟨k,c,e,z.sameBut l (G y c e)⟩
  ·obtain⟨w',z⟩:=I.cell y c e
   exact⟨w',z.sameBut l (G y c e)⟩
  ·obtain⟨e,n,ne,nf,d⟩:=I.pin p hp
   exact⟨(l.2 p.1 ne).trans e,n,ne,nf,d⟩
 ·have J:X.fn x=true:=by
   rcases hf with z | z
   ·exact z
   ·rw[z] at hk;cases hk
  obtain⟨c,hc⟩:=I.ok.has x (.inl hk);obtain⟨w',z⟩:=I.cell x c hc;refine wpAny_storeName_cell I.ok.kind hk hc z (fun h' N l=>?_)
  obtain⟨oc,a0,aa⟩:=id z;refine h { s with heap:=h' } ⟨I.ok,I.os,I.bare,⟨fun b o e n hb hx=>?_,fun b o e n hb hx=>?_,I.base.free,fun b o e hx=>?_,I.base.tups,I.base.frzs,I.base.tbls⟩,⟨m,hn.sameBut l (qB (G x c hc)),fun j y v' w D e3=>?_⟩,fun y c' e=>?_,I.free,I.freeC,fun p hp=>?_,B ⟨oc,a0,I.freeC x c hc⟩ l,by simpa using I.len⟩ ⟨c,l,.inr hc⟩
  ·exact(l.2 b (z9 (ju (zK e) (I.ok.cab x c J hc)))).trans (I.base.keep b o e n hb hx)
  ·obtain⟨sl,w⟩:=I.base.slot b o e n hb hx
   exact⟨sl,(l.2 b (z9 (ju (zK e) (I.ok.cab x c J hc)))).trans w⟩
  ·obtain⟨o',w⟩:=I.base.there b o e hx
   exact⟨o',(l.2 b (z9 (ju (zK e) (I.ok.cab x c J hc)))).trans w⟩
  ·by_cases L:j=i
   ·subst L
    rw[U] at w;cases w
    rw[List.getElem?_set_self Y] at D
    cases D;exact⟨u,r,.inr ⟨.inl hk,c,hc,N⟩⟩
   ·rw[List.getElem?_set_ne (qB L)] at D
    obtain⟨u',r',q⟩:=hl j y v' w D e3;refine⟨u',r',?_⟩
    rcases q with q | ⟨k,c',e,z'⟩
    ·exact .inl q
    ·refine .inr ⟨k,c',e,z'.sameBut l ?_⟩
     rintro rfl;exact L (XT hN w (I.ok.inj _ _ _ e hc▸U))
  ·by_cases O:c'=c
   ·subst O;exact⟨_,N⟩
   ·obtain⟨w2,z2⟩:=I.cell y c' e
    exact⟨w2,z2.sameBut l O⟩
  ·obtain⟨e,n,ne,nf,d⟩:=I.pin p hp
   refine⟨(l.2 p.1 ?_).trans e,n,ne,nf,d⟩
   intro q;rw[q,a0] at e;have q':oc=p.2:=qW e;exact d w' (by rw[<- q'];exact aa)
theorem wG{M:Model}{A:Around}{E:Value->Shared->Prop}{i:Nat}{x:Str}{v:V}{u:Value}{Q:Unit->Shared->Prop}(I:Inv X f σ H s)(w:X.N.Nodup)(B:X.N[i]? =some x)(hx:Loc X.env.scope x)(r:RelV v u)
  (h:∀j,Inv X f (σ.set i (some v)) H j->Q () j) (hf:X.fn x=true\/X.env.scope.names.lookup x=some .local:=by first| exact .inl rfl | exact .inr rfl | assumption):wpAny M A (storeName X.env x u) Q E s:=
 YW I w B hx r (fun j l _=>h j l) hf
theorem Inv.call'{s':Shared}{ch:List Addr}(I:Inv X f σ H s)(D:s'.os=s.os)(u:Un (frs X.stack) ch H g s.heap s'.heap)(l:HOk X.prog X.w g s'.heap)(C:AllBare s'.gens)
  (j:∀b∈ch,(b∈X.ex\/X.s₀.heap.objs.size<=b)/\b≠X.env.locals/\(∀x c,X.env.cells.lookup x=some c->c≠b)/\∀p∈X.pn++f,p.1≠b):Inv X f σ g s':=by
 obtain⟨h',A,w,B,E⟩:=s';have e:E=s.os:=D;subst e;exact I.call (g':=A) (t':=B) (d':=w) u l C j
end
abbrev XK:=Value->Option Addr->Hp->Prop
abbrev St:=List (Option V)
abbrev VK:=V->Hp->Prop
abbrev TE:=St->Hp->VK->Prop
abbrev TT:=St->Hp->(Bool->Hp->Prop)->Prop
abbrev TA:=St->Hp->(List V->Hp->Prop)->Prop
structure Qg where
 nx:St->Hp->Prop
 rt:VK
 bk:St->Hp->Prop:=fun _ _=>False
 ct:St->Hp->Prop:=fun _ _=>False
abbrev TS:=Qg->St->Hp->Prop
def EP(X:Cx)(f:List (Addr×Obj))(σ:St)(Q:VK)(u:Value)(j:Shared):Prop:=∃v g,Inv X f σ g j/\RelV v u/\Q v g
def TP(X:Cx)(f:List (Addr×Obj))(σ:St)(Q:Bool->Hp->Prop)(b:Bool)(j:Shared):Prop:=∃g,Inv X f σ g j/\Q b g
def AP(X:Cx)(f:List (Addr×Obj))(σ:St)(Q:List V->Hp->Prop)(s:List Value)(l:Shared):Prop:=∃j g,Inv X f σ g l/\Vals j s/\Q j g
def SP(X:Cx)(g:List (Addr×Obj))(D:Qg)(f:Flow)(s:Shared):Prop:=
 match f with
 | .next=>∃l j,Inv X g l j s/\D.nx l j
 | .brk=>∃l j,Inv X g l j s/\D.bk l j
 | .cont=>∃l j,Inv X g l j s/\D.ct l j
 | .ret u=>∃v l j,Inv X g l j s/\RelV v u/\D.rt v j
def PE(X:Cx)(e:Expr)(t:TE):Prop:=
 ∀(f:List (Addr×Obj)) (s:Shared) (σ:St) (H:Hp) (Q:VK),Inv X f σ H s->t σ H Q->wpAny (model X.prog X.w) X.A (eval e X.env) (EP X f σ Q) X.xe s
def PT(X:Cx)(e:Expr)(t:TT):Prop:=
 ∀(f:List (Addr×Obj)) (s:Shared) (σ:St) (H:Hp) (Q:Bool->Hp->Prop),Inv X f σ H s->t σ H Q->wpAny (model X.prog X.w) X.A (isTrue e X.env (eval e X.env)) (TP X f σ Q) X.xe s
def PW(X:Cx)(e:Expr)(t:TT):Prop:=
 ∀(g:Sem Value) (f:List (Addr×Obj)) (s:Shared) (σ:St) (H:Hp) (Q:Bool->Hp->Prop),Inv X f σ H s->t σ H Q->wpAny (model X.prog X.w) X.A (isTrue e X.env g) (TP X f σ Q) X.xe s
theorem PW.pt{X:Cx}{e:Expr}{t:TT}(h:PW X e t):PT X e t:=h _
def uf:=@PW.pt
def PA(X:Cx)(j:List Expr)(t:TA):Prop:=
 ∀(g:Pos) (f:List (Addr×Obj)) (s:Shared) (σ:St) (H:Hp) (Q:List V->Hp->Prop),Inv X f σ H s->t σ H Q->wpAny (model X.prog X.w) X.A (spliced (backTo g (starEach j X.env))) (AP X f σ Q) X.xe s
def PS(X:Cx)(st:Stmt)(t:TS):Prop:=
 ∀(f:List (Addr×Obj)) (s:Shared) (σ:St) (H:Hp) (D:Qg),Inv X f σ H s->t D σ H->wpAny (model X.prog X.w) X.A (exec st X.env) (SP X f D) X.xe s
def PSs(X:Cx)(st:List Stmt)(t:TS):Prop:=
 ∀(f:List (Addr×Obj)) (s:Shared) (σ:St) (H:Hp) (D:Qg),Inv X f σ H s->t D σ H->wpAny (model X.prog X.w) X.A (execs st X.env) (SP X f D) X.xe s
theorem thn{α:Type}{t:Sem α}{Q f:α->Shared->Prop}{M:Model}{A:Around}{E:Value->Shared->Prop}{s:Shared}(h:wpAny M A t Q E s)(g:∀a s,Q a s->f a s):wpAny M A t f E s:=zP h g fun _ _ x=>x
section
variable{X:Cx}
inductive IsB(x:V)(H:Hp)(Q:Bool->Hp->Prop):Prop
 | mk (c:Bool) (h:x=.bl c) (q:Q c H):IsB x H Q
inductive IsI(x:V)(H:Hp)(Q:Int->Hp->Prop):Prop
 | mk (i:Int) (h:x=.int i) (q:Q i H):IsI x H Q
inductive zfe(j:List V)(H:Hp)(Q:V->V->Hp->Prop):Prop
 | mk (v w:V) (h:j=[v,w]) (q:Q v w H):zfe j H Q
inductive zdl(i:Nat)(σ:St)(H:Hp)(Q:VK):Prop
 | mk (v:_) (_:σ[i]? =some (some v)) (_:Q v H):zdl i σ H Q
def tC(v:V):TE:=fun _ H Q=>Q v H
theorem zdE{i:Nat}{x:Str}{f:Pos}(J:X.N[i]? =some x)(N:Vis X.env.scope x)(G:(x==("__debug__":Str))=false:=by decide)(E:(x==("__classdict__":Str))=false:=by decide):PE X (.Name x f) (zdl i):=by
 intro D s σ H Q I h;obtain⟨v,e,h⟩:=h;obtain⟨m,M,L⟩:=I.loc;obtain⟨u,r,l⟩:=L i x v J e N;have w:EP X D σ Q u s:=⟨v,H,I,r,h⟩;rcases l with ⟨hk,hm⟩ | ⟨hk,c,hc,j⟩
 ·exact wpAny_Name (wpAny_loadName_local I.ok.kind hk M hm w) G
 ·rcases hk with hk | hk
  ·exact wpAny_Name (wpAny_loadName_cell I.ok.kind hk hc j w) G
  ·exact wpAny_Name (wpAny_loadName_free I.ok.kind hk hc j w E) G
theorem zf{i j f}:PE X (.Constant (.int i) j f) (tC (.int i)):=fun _ _ _ H _ I h=>wpAny_Constant_int ⟨.int i,H,I.tok _,⟨_,rfl⟩,h⟩
theorem jP{b j f}:PE X (.Constant (.bool b) j f) (tC (.bl b)):=fun _ _ _ H _ I h=>Constant_bool ⟨.bl b,H,I,rfl,h⟩
theorem xx{j f}:PE X (.Constant .none j f) (tC .non):=fun _ _ _ H _ I h=>Constant_none ⟨.non,H,I,rfl,h⟩
theorem xM{x j f}:PE X (.Constant (.str x) j f) (tC (.str x)):=fun _ _ _ H _ I h=>Calls.Constant_str ⟨.str x,H,I.tok _,⟨_,rfl⟩,h⟩
def Gl(X:Cx)(x:Str):Prop:=X.env.kindOf x=some .globalImplicit
theorem W7{E:Value->Shared->Prop}{j:List (Addr×Obj)}{s:Shared}{σ:St}{H:Hp}{x:Str}{u:Value}{f:Pos}{Q:Value->Shared->Prop}(I:Inv X j σ H s)(w:Gl X x)(hm:X.mg x=some u)(h:Q u s)
  (l:(x==("__debug__":Str))=false:=by decide):wpAny (model X.prog X.w) X.A (eval (.Name x f) X.env) Q E s:=
 zbM I.ok.kind w (Calls.loadGlobal_global (by rw[I.ok.glob];exact I.mod.glob.keeps I.bk) hm h) l
theorem xN{E:Value->Shared->Prop}{j:List (Addr×Obj)}{s:Shared}{σ:St}{H:Hp}{x:Str}{u:Value}{f:Pos}{Q:Value->Shared->Prop}(I:Inv X j σ H s)(G:Gl X x)(hm:X.mg x=none)(L:bootBuiltins x=some u)(h:Q u s)
  (J:x ≠ "__name__" :=by decide) (D:(x==("__debug__":Str))=false:=by decide):wpAny (model X.prog X.w) X.A (eval (.Name x f) X.env) Q E s:=by
 obtain⟨M,l,w⟩:=I.mod.blt;exact zbM I.ok.kind G (Calls.loadGlobal_builtin (by rw[I.ok.glob];exact I.mod.glob.keeps I.bk) hm (by rw[I.ok.blt];exact l.keeps I.bk) ((w x J).trans L) h) D
theorem zcc{x:Str}{v:V}{u:Value}{f:Pos}(l:Gl X x)(hm:X.mg x=some u)(r:RelV v u)(j:(x==("__debug__":Str))=false:=by decide):PE X (.Name x f) (tC v):=
 fun _ _ _ H _ I h=>W7 I l hm ⟨v,H,I,r,h⟩ j
theorem vQ{x:Str}{v:V}{u:Value}{f:Pos}(l:Gl X x)(hm:X.mg x=none)(w:bootBuiltins x=some u)(r:RelV v u)(s:x ≠ "__name__" :=by decide)(j:(x==("__debug__":Str))=false:=by decide):PE X (.Name x f) (tC v):=
 fun _ _ _ H _ I h=>xN I l hm w ⟨v,H,I,r,h⟩ s j
variable{a b:Expr}{g B:TE}{f:Pos}
def PC(X:Cx)(l:CmpOp)(a b:Expr)(t:TE):Prop:=
 ∀(j:List (Addr×Obj)) (s:Shared) (σ:St) (H:Hp) (Q:VK),Inv X j σ H s->t σ H Q ->
  wpAny (model X.prog X.w) X.A (eval a X.env) (fun v w=>wpAny (model X.prog X.w) X.A (eval b X.env) (fun u D=>wpAny (model X.prog X.w) X.A (compareOp l v u) (EP X j σ Q) X.xe D) X.xe w) X.xe s
theorem XU(b:Expr){j:CmpOp}(h:j≠.In)(u:j≠.NotIn):behindInMarks j b=false:=by
 have l:(j==CmpOp.In)=false:=by cases j<;>first| rfl | exact absurd rfl h
 have s:(j==CmpOp.NotIn)=false:=by cases j<;>first| rfl | exact absurd rfl u
 cases b<;>simp[behindInMarks,l,s]
def tB(t:TE):TT:=fun σ H Q=>t σ H fun x j=>IsB x j Q
theorem Jy{l:CmpOp}{t:TE}(h:PC X l a b t)(u:behindInMarks l b=false:=by first| exact XU _ (by decide) (by decide) | rfl):PE X (.Compare a [l] [b] f) t:=fun j s σ H Q I w=>wpAny_Compare1 (h j s σ H Q I w) u
theorem wu{w:CmpOp}{t:TE}(h:PC X w a b t)(l:behindInMarks w b=false:=by first| exact XU _ (by decide) (by decide) | rfl):PT X (.Compare a [w] [b] f) (tB t):=by
 intro j s σ H Q I J;refine wpAny_isTrue_Compare1 (thn (h j s σ H _ I J) fun v N l=>thn l fun u O G=>thn G fun c T ⟨x,D,E,M,L⟩=>?_) l
 obtain⟨d,rfl,q⟩:=L;cases M;exact ya ⟨D,E,q⟩
theorem jJ{e:Expr}{t:TE}(h:PE X e t)(D:∀j,isTrue e X.env j=(do let v<-j;standAt e.pos;holding [v] (truthy v)):=by intro _;rfl):PT X e (tB t):=by
 intro l s σ H Q I E;refine isTrue_plain (thn (h l s σ H _ I E) fun v L ⟨x,u,w,J,G⟩=>?_) (D _)
 obtain⟨d,rfl,q⟩:=G;cases J;exact ya ⟨u,w,q⟩
variable{A C:TT}{rest:List Expr}
def zft(t u:TT):TT:=fun σ H Q=>t σ H fun c j=>if c=true then u σ j Q else Q false j
def tOr(t u:TT):TT:=fun σ H Q=>t σ H fun c j=>if c=true then Q true j else u σ j Q
def zfo(t:TT):TT:=fun σ H Q=>t σ H fun c j=>Q (!c) j
theorem xH(ha:PT X a A):PW X (.BoolOp .And [a] f) A:=by
 intro u j s σ H Q I h;refine isTrue_and (thn (ha j s σ H Q I h) fun c l e=>?_)
 cases c with
 | true=>exact isTrue_and_nil e
 | false=>exact e
theorem vb(ha:PT X a A):PW X (.BoolOp .Or [a] f) A:=by
 intro u j s σ H Q I h;refine isTrue_or (thn (ha j s σ H Q I h) fun c l e=>?_)
 cases c with
 | false=>exact isTrue_or_nil e
 | true=>exact e
theorem vc(ha:PT X a A)(hb:PW X (.BoolOp .And (b::rest) f) C):PW X (.BoolOp .And (a::b::rest) f) (zft A C):=by
 intro E j s σ H Q I h;refine isTrue_and (thn (ha j s σ H _ I h) fun c D ⟨l,u,w⟩=>?_)
 cases c with
 | true=>exact hb E j D σ l Q u w
 | false=>exact⟨l,u,w⟩
theorem vZ(ha:PT X a A)(hb:PW X (.BoolOp .Or (b::rest) f) C):PW X (.BoolOp .Or (a::b::rest) f) (tOr A C):=by
 intro E j s σ H Q I h;refine isTrue_or (thn (ha j s σ H _ I h) fun c D ⟨l,u,w⟩=>?_)
 cases c with
 | true=>exact⟨l,u,w⟩
 | false=>exact hb E j D σ l Q u w
theorem xL(ha:PT X a A):PT X (.UnaryOp .Not a f) (zfo A):=by
 intro j s σ H Q I h;exact isTrue_not (ha j s σ H (fun c l=>Q (!c) l) I h)
def zeu(g B:TE):TE:=fun σ H Q=>g σ H fun x j=>IsB x j fun c j=>if c=true then B σ j Q else Q (.bl false) j
def zfn(g B:TE):TE:=fun σ H Q=>g σ H fun x j=>IsB x j fun c j=>if c=true then Q (.bl true) j else B σ j Q
def zep(g:TE):TE:=fun σ H Q=>g σ H fun x j=>IsB x j fun c j=>Q (.bl (!c)) j
theorem wv{u}{t:TE}(h:PE X a t):PE X (.BoolOp u [a] f) t:=fun j s σ H Q I l=>BoolOp_one (h j s σ H Q I l)
theorem ZA(ha:PE X a g)(hb:PE X (.BoolOp .And (b::rest) f) B):PE X (.BoolOp .And (a::b::rest) f) (zeu g B):=by
 intro j s σ H Q I h;refine BoolOp_and (thn (ha j s σ H _ I h) fun v E ⟨x,u,w,D,l⟩=>?_)
 obtain⟨c,rfl,l⟩:=l;cases D;refine ya ?_
 cases c with
 | true=>exact hb j E σ u Q w l
 | false=>exact⟨.bl false,u,w,rfl,l⟩
theorem zda(ha:PE X a g)(hb:PE X (.BoolOp .Or (b::rest) f) B):PE X (.BoolOp .Or (a::b::rest) f) (zfn g B):=by
 intro j s σ H Q I h;refine BoolOp_or (thn (ha j s σ H _ I h) fun v E ⟨x,u,w,D,l⟩=>?_)
 obtain⟨c,rfl,l⟩:=l;cases D;refine ya ?_
 cases c with
 | false=>exact hb j E σ u Q w l
 | true=>exact⟨.bl true,u,w,rfl,l⟩
theorem zdG(ha:PE X a g):PE X (.UnaryOp .Not a f) (zep g):=by
 intro j s σ H Q I h;refine UnaryOp_ (thn (ha j s σ H _ I h) fun v E ⟨x,u,w,D,l⟩=>?_)
 obtain⟨c,rfl,l⟩:=l;cases D;exact not_of (ya ⟨.bl (!c),u,w,rfl,l⟩)
def tIf(t:TT)(g B:TE):TE:=fun σ H Q=>t σ H fun c j=>if c=true then g σ j Q else B σ j Q
theorem Zy{c:Expr}(hc:PT X c A)(ha:PE X a g)(hb:PE X b B):PE X (.IfExp c a b f) (tIf A g B):=by
 intro j s σ H Q I h;refine wpAny_IfExp (thn (hc j s σ H _ I h) fun d D ⟨l,u,w⟩=>?_)
 cases d with
 | true=>exact ha j D σ l Q u w
 | false=>exact hb j D σ l Q u w
end
def SqL(K:W.Frag)(H:Hp)(a:Addr)(g:List V):Prop:=
 Rd H a (.lst g) \/
  ∃(o:Obj) (f:Array Value) (n:Nat),K.lookup a=some o/\o.cls=.type "list" /\ o.dict=none/\o.data=.seq f n/\f.size<=sizeLine/\Vals g f.toList
def SqT(K:W.Frag)(H:Hp)(a:Addr)(g:List V):Prop:=
 Rd H a (.tup g) \/
  ∃(o:Obj) (f:Array Value) (n:Nat),K.lookup a=some o/\o.cls=.type "tuple" /\ o.data=.seq f n/\f.size<=sizeLine/\Vals g f.toList
def zfA:Value->Option V
 | .none=>some .non
 | .bool b=>some (.bl b)
 | .int i _=>some (.int i)
 | .str x _=>some (.str x)
 | .bytes b _=>some (.byt b)
 | .float b _=>some (.flt b)
 | .ref a=>some (.ref a)
 | .type n=>some (.ty n)
 | _=>none
theorem RelV.abs{x:V}{u:Value}(r:RelV x u):zfA u=some x:=by
 cases x with
 | non=>cases r;rfl
 | bl _=>cases r;rfl
 | int _=>obtain⟨t,rfl⟩:=r;rfl
 | str _=>obtain⟨t,rfl⟩:=r;rfl
 | byt _=>obtain⟨t,rfl⟩:=r;rfl
 | flt _=>obtain⟨t,rfl⟩:=r;rfl
 | ref _=>cases r;rfl
 | ty _=>cases r;rfl
theorem RelV.inj{x y:V}{u:Value}(r:RelV x u)(q:RelV y u):x=y:=qW (r.abs.symm.trans q.abs)
theorem Vals.inj:∀{g j:List V} {f:List Value},Vals g f->Vals j f->g=j
 | _,_,_,.nil,.nil=>rfl
 | _,_,_,.cons r t,.cons l s=>by rw[r.inj l,Vals.inj t s]
section
variable{X:Cx}{f:List (Addr×Obj)}{σ:St}{H:Hp}{s:Shared}{a:Addr}{g j:List V}
theorem SqL.of{K:W.Frag}(h:H a=some (.lst g)):SqL K H a g:=.inl (.inl h)
def u9:=@SqL.of
theorem SqT.of{K:W.Frag}(h:H a=some (.tup g)):SqT K H a g:=.inl (.inl h)
def ua:=@SqT.of
theorem Inv.list(I:Inv X f σ H s)(h:SqL X.K H a g):∃l:List Value,Vals g l/\PlainL s.heap a l.toArray/\g.length<=sizeLine:=by
 rcases h with h | ⟨o,l,n,hk,hc,u,w,hz,r⟩
 ·obtain⟨z,l,n,r,e⟩:=h.ok I.hok
  exact⟨l,r,⟨_,n,e,rfl,rfl,rfl⟩,z⟩
 ·refine⟨l.toList,r,⟨o,n,I.kIn a o hk,hc,u,by simpa using w⟩,?_⟩
  have e:=r.length;simp only[yX] at e;omega
theorem Inv.tuple(I:Inv X f σ H s)(h:SqT X.K H a g):∃l:List Value,Vals g l/\IsTup s.heap a l.toArray/\g.length<=sizeLine:=by
 rcases h with h | ⟨o,l,n,hk,hc,u,hz,r⟩
 ·obtain⟨z,l,r,p⟩:=h.ok I.hok
  exact⟨l,r,p.1,z⟩
 ·refine⟨l.toList,r,⟨o,I.kIn a o hk,hc,n,by simpa using u⟩,?_⟩
  have e:=r.length;simp only[yX] at e;omega
theorem Inv.list_inj(I:Inv X f σ H s)(h:SqL X.K H a g)(C:SqL X.K H a j):g=j:=by
 obtain⟨u,r,⟨o,n,e,_,_,d⟩,_⟩:=I.list h;obtain⟨l,D,⟨G,E,A,_,_,w⟩,_⟩:=I.list C;rw[e] at A;cases A
 rw[d] at w;injection w with B _;have:u=l:=by simpa using congrArg Array.toList B
 subst this;exact r.inj D
theorem Inv.tuple_inj(I:Inv X f σ H s)(h:SqT X.K H a g)(C:SqT X.K H a j):g=j:=by
 obtain⟨u,r,⟨o,e,_,n,d⟩,_⟩:=I.tuple h;obtain⟨l,D,⟨G,A,_,E,w⟩,_⟩:=I.tuple C;rw[e] at A;cases A
 rw[d] at w;injection w with B _;have:u=l:=by simpa using congrArg Array.toList B
 subst this;exact r.inj D
end
abbrev Cx.wish(X:Cx)(E:Value->Shared->Prop):Cx:={ X with xe:=E }
abbrev Cx.nox(X:Cx):Cx:=X.wish fun _ _=>False
theorem Cx.Ok.wish{X:Cx}(ok:X.Ok)(E:Value->Shared->Prop):(X.wish E).Ok:=
 ⟨ok.mod,ok.kind,ok.glob,ok.blt,ok.above,ok.inj,ok.has,ok.cab,ok.hd,ok.frames,ok.stk,ok.exf,ok.bs,ok.bsz,ok.noex,ok.exfs,ok.funs,ok.frf⟩
theorem Cx.Ok.unwish{X:Cx}{E:Value->Shared->Prop}(ok:(X.wish E).Ok):X.Ok:=
 ⟨ok.mod,ok.kind,ok.glob,ok.blt,ok.above,ok.inj,ok.has,ok.cab,ok.hd,ok.frames,ok.stk,ok.exf,ok.bs,ok.bsz,ok.noex,ok.exfs,ok.funs,ok.frf⟩
section
variable{X:Cx}{g:List (Addr×Obj)}{σ:St}{H:Hp}{s:Shared}{E:Value->Shared->Prop}
theorem Inv.wish(I:Inv X g σ H s)(E:Value->Shared->Prop):Inv (X.wish E) g σ H s:=⟨I.ok.wish E,I.os,I.bare,I.base,I.loc,I.cell,I.free,I.freeC,I.pin,I.hok,I.len⟩
theorem Inv.unwish(I:Inv (X.wish E) g σ H s):Inv X g σ H s:=⟨I.ok.unwish,I.os,I.bare,I.base,I.loc,I.cell,I.free,I.freeC,I.pin,I.hok,I.len⟩
theorem SP.unwish{D:Qg}{f:Flow}{w:Shared}(h:SP (X.wish E) g D f w):SP X g D f w:=by
 cases f with
 | next=>obtain⟨l,j,I,q⟩:=h;exact⟨l,j,I.unwish,q⟩
 | brk=>obtain⟨l,j,I,q⟩:=h;exact⟨l,j,I.unwish,q⟩
 | cont=>obtain⟨l,j,I,q⟩:=h;exact⟨l,j,I.unwish,q⟩
 | ret u=>obtain⟨v,l,j,I,r,q⟩:=h;exact⟨v,l,j,I.unwish,r,q⟩
theorem PE.nox{e:Expr}{t:TE}(h:PE X.nox e t):PE X e t:=fun g s σ H Q I l=>
 zP (h g s σ H Q (I.wish _) l) (fun _ _ ⟨v,f,j,r,q⟩=>⟨v,f,j.unwish,r,q⟩) fun _ _ z=>False.elim z
theorem PT.nox{e:Expr}{t:TT}(h:PT X.nox e t):PT X e t:=fun g s σ H Q I l=>
 zP (h g s σ H Q (I.wish _) l) (fun _ _ ⟨f,j,q⟩=>⟨f,j.unwish,q⟩) fun _ _ z=>False.elim z
theorem PSs.nox{st:List Stmt}{t:TS}(h:PSs X.nox st t):PSs X st t:=fun g s σ H D I f=>
 zP (h g s σ H D (I.wish _) f) (fun _ _ q=>q.unwish) fun _ _ z=>False.elim z
end
section
variable{X:Cx}{st:Stmt}{rest:List Stmt}{t u:TS}{e:Expr}{j:TE}{g:Pos}
def zeq:TS:=fun D σ H=>D.nx σ H
def zfk(t u:TS):TS:=fun D σ H=>t { D with nx:=u D } σ H
theorem zQ:PSs X [] zeq:=fun _ _ σ H _ I h=>wpAny_execs_nil ⟨σ,H,I,h⟩
theorem zg(B:PS X st t)(C:PSs X rest u):PSs X (st::rest) (zfk t u):=by
 intro l s σ H D I h;refine wpAny_execs_cons (thn (B l s σ H { D with nx:=u D } I h) fun f E q=>?_)
 cases f with
 | next=>
  obtain⟨G,w,A,q⟩:=q;exact C l E G w D A q
 | ret v=>exact q
 | brk=>exact q
 | cont=>exact q
theorem zk(w:PS X st t):PSs X [st] t:=by
 intro l s σ H D I h;refine wpAny_execs_cons (thn (w l s σ H D I h) fun f A q=>?_)
 cases f with
 | next=>exact wpAny_execs_nil q
 | ret v=>exact q
 | brk=>exact q
 | cont=>exact q
theorem Inv.quiet{f:List (Addr×Obj)}{σ:St}{H:Hp}{s:Shared}(I:Inv X f σ H s):interactive X.env=false:=by simp[interactive,I.ok.kind]
def zer(j:TE):TS:=fun D σ H=>j σ H fun _ f=>D.nx σ f
theorem qM(A:PE X e j)(B:swapsWith e none g.line X.env=pure false:=by rfl):PS X (.Expr e g) (zer j):=by
 intro f s σ H D I h;exact wpAny_Expr_any (thn (A f s σ H _ I h) fun v G ⟨x,l,w,E,C⟩=>⟨σ,l,w,C⟩) I.quiet B
def zfl(j:TE):TS:=fun D σ H=>j σ H D.rt
theorem zC(A:PE X e j):PS X (.Return (some e) g) (zfl j):=by
 intro f s σ H D I h;exact wpAny_Return_some (thn (A f s σ H _ I h) fun v E ⟨x,l,w,C,B⟩=>⟨x,σ,l,w,C,B⟩)
def zfq(c:TT)(t u:TS):TS:=fun D σ H=>c σ H fun b f=>if b=true then t D σ f else u D σ f
theorem qH{c:Expr}{a b:List Stmt}{C:TT}(hc:PT X c C)(ha:PSs X a t)(hb:PSs X b u):PS X (.If c a b g) (zfq C t u):=by
 intro f s σ H D I h;refine wpAny_If (thn (hc f s σ H _ I h) fun d B ⟨l,w,A⟩=>?_)
 cases d with
 | true=>exact ha f B σ l D w A
 | false=>exact hb f B σ l D w A
end
abbrev TG:=V->St->Hp->(St->Hp->Prop)->Prop
abbrev TGs:=List V->St->Hp->(St->Hp->Prop)->Prop
def PG(X:Cx)(f:Expr)(t:TG):Prop:=
 ∀(g:List (Addr×Obj)) (s:Shared) (σ:St) (H:Hp) (v:V) (u:Value) (Q:St->Hp->Prop),Inv X g σ H s->RelV v u->t v σ H Q ->
  wpAny (model X.prog X.w) X.A (assign f X.env u) (fun _ w=>∃l j,Inv X g l j w/\Q l j) X.xe s
def PGs(X:Cx)(A:List Expr)(t:TGs):Prop:=
 ∀(f:List (Addr×Obj)) (s:Shared) (σ:St) (H:Hp) (l:List V) (j:List Value) (Q:St->Hp->Prop),Inv X f σ H s->Vals l j->t l σ H Q ->
  wpAny (model X.prog X.w) X.A (assignInOrder ((assignEach A X.env).map (·.2)) j) (fun _ w=>∃u g,Inv X f u g w/\Q u g) X.xe s
abbrev zej:=V->V->V->Hp->(Hp->Prop)->Prop
def zfa(X:Cx)(t:zej):Prop:=
 ∀(f:List (Addr×Obj)) (s:Shared) (σ:St) (H:Hp) (o i v:V) (l j u:Value) (Q:Hp->Prop),Inv X f σ H s->RelV o l->RelV i j->RelV v u->t o i v H Q ->
  wpAny (model X.prog X.w) X.A (setItem l j u) (fun _ w=>∃g,Inv X f σ g w/\Q g) X.xe s
section
variable{X:Cx}{l:Pos}
def jQ(i:Nat):TG:=fun v σ H Q=>Q (σ.set i (some v)) H
theorem zp{i:Nat}{x:Str}(j:X.N.Nodup)(w:X.N[i]? =some x)(hx:Loc X.env.scope x)(hf:X.fn x=true\/X.env.scope.names.lookup x=some .local:=by first| exact .inl rfl | exact .inr rfl | assumption):PG X (.Name x l) (jQ i):=by
 intro f s σ H v u Q I r h;exact wpAny_assign_Name (wG I j w hx r (fun A g=>⟨_,H,g,h⟩) hf)
def zbu:TGs:=fun f σ H Q=>f=[]/\Q σ H
inductive wc(t:TG)(u:TGs)(f:List V)(σ:St)(H:Hp)(Q:St->Hp->Prop):Prop
 | mk (v r:_) (_:f=v::r) (_:t v σ H fun j g=>u r j g Q):wc t u f σ H Q
theorem qq:PGs X [] zbu:=by
 intro f s σ H j g Q I r h;obtain⟨e,h⟩:=h;subst e;cases r;exact assignInOrder_nil ⟨σ,H,I,h⟩
theorem zu{e:Expr}{g:List Expr}{t:TG}{u:TGs}(B:PG X e t)(C:PGs X g u)
  (D:(assignEach (e::g) X.env).map (·.2)=assign e X.env::(assignEach g X.env).map (·.2):=by rfl):PGs X (e::g) (wc t u):=by
 intro f s σ H O M Q I r h;obtain⟨v,N,A,h⟩:=h;subst A;cases r with
 | cons r G=>
  rw[D];refine assignInOrder_cons (thn (B f s σ H _ _ _ I r h) fun _ J ⟨L,j,w,E⟩=>?_)
  exact C f J L j _ _ Q w G E
inductive Y8(K:W.Frag)(n:Nat)(t:TGs)(v:V)(σ:St)(H:Hp)(Q:St->Hp->Prop):Prop
 | mk (a f:_) (_:v=.ref a) (_:SqT K H a f) (_:f.length=n) (_:t f σ H Q):Y8 K n t v σ H Q
theorem qR{g:List Expr}{k:Nat}{t:TGs}{n:Nat}(hc:X.calm=true)(h:PGs X g t)
  (G:(assignEach g X.env).length=n:=by rfl) (j:(assignEach g X.env).findIdx? (·.1)=none:=by rfl):PG X (.Tuple g k l) (Y8 X.K n t):=by
 intro f s σ H v u Q I r w;obtain⟨a,M,C,hq,E,w⟩:=w;subst C;cases r;obtain⟨L,A,J,hz⟩:=I.tuple hq;refine assign_Tuple_tuple (I.ok.hd hc) J (by simp[G,<- E,A.length]) j fun D hx=>?_
 have B:Inv X f σ H { s with heap:=D }:=I.kept (t':=s.toks) fun b o e=>hx b o (z9 (zK e)) e
 exact h f _ σ H M _ Q B (by simpa using A) w
def zfy(to s:TE)(t:zej):TG:=fun v σ H Q=>to σ H fun o f=>s σ f fun i g=>t o i v g fun j=>Q σ j
theorem Jw{o i:Expr}{to w:TE}{t:zej}(L:PE X o to)(J:PE X i w)(M:zfa X t)
  (ha:∀v,assign (.Subscript o i l) X.env v=(do
   let g<-holding [v] (eval o X.env)
   let j<-holding [v,g] (eval i X.env)
   standAt l
   holding [v,g,j] (setItem g j v)
   release [v,g,j] []):=by intro _;rfl):PG X (.Subscript o i l) (zfy to w t):=by
 intro f s σ H v u Q I r h;rw[ha];refine zj (wg (thn (L f s σ H _ I h) fun g s1 ⟨x,A,D,U,N⟩=>?_))
 refine zj (wg (thn (J f s1 σ A _ D N) fun j s2 ⟨y,B,E,Y,O⟩=>?_))
 refine zj (xi (zj (wg (thn (M f s2 σ B x y v g j u _ E U Y r O) fun _ s3 ⟨C,G,T⟩=>?_))))
 exact wpAny_release ⟨σ,C,G,T⟩
def VD(j:TE)(g:TG):TS:=fun D σ H=>j σ H fun x f=>g x σ f D.nx
theorem jK{j e:Expr}{u:TE}{g:TG}(C:PE X e u)(E:PG X j g)(G:swapsWithSole [j] e l.line X.env=pure false:=by rfl)(J:swappedStores [j] e X.env=pure none:=by rfl)
  (B:(assignEach [j] X.env).map (·.2)=[assign j X.env]:=by rfl):PS X (.Assign [j] e l) (VD u g):=by
 intro f s σ H D I h;refine wpAny_Assign_stores (thn (C f s σ H _ I h) fun v N ⟨x,w,A,M,L⟩=>?_) G J
 rw[B];exact thn (E f N σ w x v _ A M L) fun _ O q=>q
theorem zF{i:Nat}{x:Str}{e:Expr}{j:TE}{f:Pos}(B:X.N.Nodup)(E:X.N[i]? =some x)(hx:Loc X.env.scope x)(C:PE X e j)(G:swapsWith e (some (.Name x f)) l.line X.env=pure false:=by rfl)(hf:X.fn x=true\/X.env.scope.names.lookup x=some .local:=by first| exact .inl rfl | exact .inr rfl | assumption) :
  PS X (.Assign [.Name x f] e l) (VD j (jQ i)):=by
 intro g s σ H D I h;refine wpAny_Assign_Name (thn (C g s σ H _ I h) fun v M ⟨y,u,w,L,J⟩=>?_) G
 exact wG w B E hx L (fun N A=>⟨_,u,A,J⟩) hf
def zfm(i j:Nat)(g:TA):TS:=fun D σ H=>g σ H fun s f=>zfe s f fun v w f=>D.nx ((σ.set i (some v)).set j (some w)) f
theorem VG{i j:Nat}{x y:Str}{a b:Expr}{ta:TA}{N O M:Pos}{L J u}(hc:X.calm=true)(hN:X.N.Nodup)(hi:X.N[i]? =some x)(hj:X.N[j]? =some y)(E:i≠j)
  (hx:X.env.scope.names.lookup x=some .local) (hy:X.env.scope.names.lookup y=some .local) (ha:PA X [a,b] ta)
  (hw:swappedStores [.Tuple [.Name x N,.Name y O] L M] (.Tuple [a,b] J u) X.env=pure (some [x,y]))
  (hs:swapsWithSole [.Tuple [.Name x N,.Name y O] L M] (.Tuple [a,b] J u) l.line X.env=pure false:=by rfl) :
  PS X (.Assign [.Tuple [.Name x N,.Name y O] L M] (.Tuple [a,b] J u) l) (zfm i j ta):=by
 intro g s σ H D I h;rw[exec_Assign_arm];refine zj (xi ?_)
 rw[hs];refine zj (zB ?_)
 rw[zq (by decide)]
 refine zj (Tuple_ (thn (ha _ g s σ H _ I h) fun us A ⟨vs,U,I1,r1,Q⟩=>?_))
 obtain⟨v,w,e1,Q⟩:=Q;subst e1;obtain⟨B,C,rfl,rv,T⟩:∃B C,us=[B,C]/\RelV v B/\RelV w C:=by
  cases r1 with
  | cons p q=>
   cases q with
   | cons p' q'=>
    cases q';exact⟨_,_,rfl,p,p'⟩
 refine x5 ?_ (by show 2<=sizeLine;decide)
 have I2:Inv X g σ U { A with heap:=A.heap.push { cls:=.type "tuple",data:=.seq [B,C].toArray } }:=I1.kept (t':=A.toks) fun b o e=>qd _ e
 rw[hw];refine zj (zB ?_)
 show wpAny (model X.prog X.w) X.A (do rule "assign.swapped-stores";let f<-unpackItems (.ref A.heap.objs.size) 2 none;assignInOrder [fun v=>bindName X.env y v,fun v=>bindName X.env x v] f.reverse;pure Flow.next) _ _ _
 refine zj (wC (zj (unpackItems_tuple (items:=#[B,C]) (I.ok.hd hc) (IsTup.new A.heap _) fun h' G=>?_)))
 have I3:=I2.kept (h':=h') (t':=A.toks) fun b o e=>G b o (z9 (zK e)) e
 show wpAny _ _ (assignInOrder [fun v=>bindName X.env y v,fun v=>bindName X.env x v] [C,B] >>= fun _=>pure Flow.next) _ _ _
 refine zj (assignInOrder_cons (wpAny_bindName (wG I3 hN hj (.inl hy) T (fun s2 I4=>?_) (.inr hy))))
 refine assignInOrder_cons (wpAny_bindName (wG I4 hN hi (.inl hx) rv (fun s3 Y=>assignInOrder_nil (zB ?_)) (.inr hx)))
 rw[List.set_comm _ _ (qB E)] at Y;exact⟨_,U,Y,Q⟩
def zdk(c:TT)(u:TS):TS:=fun D σ H=>∃W:Nat->St->Hp->Prop,(∃m,W m σ H)/\∀m σ H,W m σ H ->
 c σ H fun b g=>if b=true then ∃N:St->Hp->Prop,(∀s f,N s f->∃j,j<m/\W j s f)/\u { D with nx:=N,ct:=N,bk:=D.nx } σ g else D.nx σ g
theorem Zv{c:Expr}{body:List Stmt}{tc:TT}{Y:TS}(hp:PassesOwn (model X.prog X.w) X.A X.env X.xe)(hc:PT X c tc)(hb:PSs X body Y):PS X (.While c body [] l) (zdk tc Y):=by
 intro g s σ H D I h;obtain⟨W,⟨m0,w0⟩,u⟩:=h;refine wpAny_While (codeAny_whileLoop (fun n s'=>∃σ' M,Inv X g σ' M s'/\W n σ' M) ?_ m0 ⟨σ,H,I,w0⟩)
 rintro n s1 ⟨C,O,I1,w1⟩;refine ZT hp (thn (hc g s1 C O _ I1 (u n C O w1)) fun b s2 ⟨Q,T,A⟩=>?_)
 cases b with
 | true=>
  obtain⟨N,U,A⟩:=A;rw[zw rfl];refine ZT hp (thn (hb g s2 C Q _ T A) fun f s3 B=>?_)
  cases f with
  | next=>
   obtain⟨w,j,E,J⟩:=B;obtain⟨G,hm,L⟩:=U w j J;exact⟨G,hm,w,j,E,L⟩
  | cont=>
   obtain⟨w,j,E,J⟩:=B;obtain⟨G,hm,L⟩:=U w j J;exact⟨G,hm,w,j,E,L⟩
  | brk=>exact B
  | ret v=>exact B
 | false=>
  rw[zq qx];exact wpAny_execs_nil ⟨C,Q,T,A⟩
end
structure It where
 go:Nat->Hp->Prop
 yld:Nat->Hp->V->Hp->Prop
 stop:Nat->Hp->Prop
def jf(X:Cx)(f:List (Addr×Obj))(H:Hp)(b:Addr):Prop:=
 H b=none/\b≠X.env.locals/\b∉X.fs/\(b∈X.ex\/X.s₀.heap.objs.size<=b)/\(∀x c,X.env.cells.lookup x=some c->c≠b)/\∀p∈X.pn++f,p.1≠b
theorem Inv.fpOk{X:Cx}{f:List (Addr×Obj)}{σ:St}{H g:Hp}{s:Shared}{b:Addr}(I:Inv X f σ H s)(hb:s.heap.objs.size<=b)(j:g b=none):jf X f g b:=by
 refine⟨j,vm (ju I.lt hb),I.nofs hb,.inr (jm I.sz hb),fun x c e z=>?_,fun p hp z=>?_⟩
 ·obtain⟨v,q⟩:=I.cell x c e
  exact absurd (ju q.lt (by rw[z];exact hb)) (xE _)
 ·exact absurd (ju (zK (I.pin p hp).1) (by rw[z];exact hb)) (xE _)
structure vY(P:Program)(w:World)(K:W.Frag)(tg:Expr)(J:It)(fp:List Addr)(it:Addr)(tn:Nat->Heap->Prop):Prop where
 mem:it∈fp
 obj:∀i h,tn i h->∀b∈fp,∃o,h.get? b=some o/\∀v,o.data≠.cell v
 keep:∀i h h',tn i h->(∀b∈fp,∀o,h.get? b=some o->h'.get? b=some o)->tn i h'
 item:∀(X:Cx),X.prog=P->X.w=w->X.K=K->X.calm=true->∀(i:Nat) (pins:List (Addr×Obj)) (s:Shared) (σ:St) (H:Hp) (E:Value->Shared->Prop),Inv X pins σ H s->(∀b∈fp,jf X pins H b)->tn i s.heap->J.go i H ->
  wpAny (model P w) X.A (pyNext (.ref it)) (fun r s1=>∃u,r=some u /\
   wpAny (model P w) X.A (letOwnedTupleGo tg (.ref it) u) (fun _ s2=>∃x H',Inv X pins σ H' s2/\RelV x u/\J.yld i H x H'/\tn (i+1) s2.heap/\∀b∈fp,H' b=none) E s1) E s
 done:∀(X:Cx),X.prog=P->X.w=w->X.K=K->X.calm=true->∀(i:Nat) (pins:List (Addr×Obj)) (s:Shared) (σ:St) (H:Hp) (E:Value->Shared->Prop),Inv X pins σ H s->(∀b∈fp,jf X pins H b)->tn i s.heap->J.stop i H ->
  wpAny (model P w) X.A (pyNext (.ref it)) (fun r s1=>r=none/\Inv X pins σ H s1) E s
 self:∀(A:Around) (i:Nat) (s:Shared) (Q:Value->Shared->Prop) (E:Value->Shared->Prop),tn i s.heap->Q (.ref it) s->wpAny (model P w) A (pyIter (.ref it)) Q E s
abbrev TI:=St->Hp->(It->Hp->Prop)->Prop
def PIE(X:Cx)(f:List (Addr×Obj))(σ:St)(A:Expr)(R:It->Hp->Prop)(j:Value)(u:Shared):Prop:=
 ∃(s:Addr) (l:List Addr) (w:Nat->Heap->Prop) (J:It) (g:Hp),j=.ref s/\Inv X f σ g u/\vY X.prog X.w X.K A J l s w/\w 0 u.heap/\(∀b∈l,jf X f g b)/\R J g
def PI(X:Cx)(l g:Expr)(u:TI):Prop:=
 ∀(f:List (Addr×Obj)) (s:Shared) (σ:St) (H:Hp) (R:It->Hp->Prop),Inv X f σ H s->u σ H R ->
  wpAny (model X.prog X.w) X.A (eval g X.env) (fun v j=>wpAny (model X.prog X.w) X.A (pyIter v) (PIE X f σ l R) X.xe j) X.xe s
theorem X9{M:Model}{A:Around}{E:Value->Shared->Prop}{s:Shared}{j:Expr}{g:Addr}{u:Value}{o:Obj}{n:String}{l:Array Value}{Q:Unit->Shared->Prop}(C:s.heap.get? g=some o)(hc:o.cls=.type n)(w:o.data=.fields l)
  (B:["enumerate", "zip", "dict_itemiterator", "dict_reverseitemiterator", "odict_iterator", "itertools.zip_longest", "itertools.pairwise"].contains n=false) (f:Q () s):wpAny M A (letOwnedTupleGo j (.ref g) u) Q E s:=by
 unfold letOwnedTupleGo;cases j<;>first
  | exact zB f
  | (cases u<;>first
    | exact zB f
    | (refine zj (wpAny_load C ?_)
       rw[hc,w];show wpAny M A (if(["enumerate", "zip", "dict_itemiterator", "dict_reverseitemiterator", "odict_iterator", "itertools.zip_longest", "itertools.pairwise"].contains n&&l[0]? ==some (rawInt _))=true then _ else _) Q E s
       rw[zq (by intro h;rw[B,yA] at h;cases h)]
       exact zB f))
def Itl(K:W.Frag)(a:Addr):It:=
 ⟨fun i H=>∃f x,SqL K H a f/\f[i]? =some x,fun i H x g=>g=H/\∀f,SqL K H a f->f[i]? =some x,fun i H=>∃f,SqL K H a f/\f.length<=i⟩
def Itt(K:W.Frag)(a:Addr):It:=
 ⟨fun i H=>∃f x,SqT K H a f/\f[i]? =some x,fun i H x g=>g=H/\∀f,SqT K H a f->f[i]? =some x,fun i H=>∃f,SqT K H a f/\f.length<=i⟩
def Itr(lo:Int)(n:Nat):It:=⟨fun i _=>i<n,fun i H x f=>f=H/\x=.int (lo+i),fun i _=>n<=i⟩
theorem YQ{P:Program}{w:World}{K:W.Frag}{tg:Expr}(a g:Addr):vY P w K tg (Itl K a) [g] g (fun i h=>h.IsListIter g a i) where
 mem:=by simp
 obj:=fun i h st b hb=>by
  have e:b=g:=by simpa using hb
  subst e;obtain⟨o,e,c,d⟩:=st;exact⟨o,e,fun v z=>by rw[d] at z;cases z⟩
 keep:=fun i h l st k=>st.at fun o e=>k g (by simp) o e
 item:=by
  intro X L N J hc i f s σ H E I hf st M;subst L N J;obtain⟨xs,x,hq,hx⟩:=M;obtain⟨O,Q,p,hz⟩:=I.list hq;obtain⟨u,hu,ru⟩:=Q.get hx;obtain⟨A,B,Y,C,D,G⟩:=hf g (by simp)
  refine wpAny_pyNext_list_item st p.isList (x:=u) (by simpa using hu) fun l j sb=>?_
  have T:Inv X f σ H { s with heap:=l }:=I.turned (t':=s.toks) (fun b o hb e=>(sb.2 b hb).trans e) A B C D G
  obtain⟨o,e,c,d⟩:=id j;exact⟨u,rfl,X9 (s:={ s with heap:=l }) e c d (by decide) ⟨x,H,T,ru,⟨rfl,fun ys hy=>by rw[I.list_inj hy hq];exact hx⟩,j,fun b hb=>(hf b hb).1⟩⟩
 done:=by
  intro X L N J hc i f s σ H E I hf st M;subst L N J;obtain⟨xs,hq,hx⟩:=M;obtain⟨O,Q,p,hz⟩:=I.list hq;obtain⟨A,B,Y,C,D,G⟩:=hf g (by simp)
  have hl:=Q.length;exact wpAny_pyNext_list_end (I.ok.hd hc) st p.isList (by simp;omega) fun l U=>⟨rfl,I.turned (t':=s.toks) (fun b o hb e=>U b o hb e) A B C D G⟩
 self:=fun _ _ _ _ _ st h=>wpAny_pyIter_listiter st h
theorem Vz{P:Program}{w:World}{K:W.Frag}{tg:Expr}(a g:Addr):vY P w K tg (Itt K a) [g] g (fun i h=>h.IsTupleIter g a i) where
 mem:=by simp
 obj:=fun i h st b hb=>by
  have e:b=g:=by simpa using hb
  subst e;obtain⟨o,e,c,d⟩:=st;exact⟨o,e,fun v z=>by rw[d] at z;cases z⟩
 keep:=fun i h A st k=>st.at fun o e=>k g (by simp) o e
 item:=by
  intro X M O L hc i f s σ H E I hf st N;subst M O L;obtain⟨xs,x,hq,hx⟩:=N;obtain⟨j,Q,p,hz⟩:=I.tuple hq;obtain⟨u,hu,ru⟩:=Q.get hx;obtain⟨B,C,Y,D,G,J⟩:=hf g (by simp)
  refine wpAny_pyNext_tuple_item st (show s.heap.IsTuple a j.toArray from p) (x:=u) (by simpa using hu) fun A l sb=>?_
  have T:Inv X f σ H { s with heap:=A }:=I.turned (t':=s.toks) (fun b o hb e=>(sb.2 b hb).trans e) B C D G J
  obtain⟨o,e,c,d⟩:=id l;exact⟨u,rfl,X9 (s:={ s with heap:=A }) e c d (by decide) ⟨x,H,T,ru,⟨rfl,fun ys hy=>by rw[I.tuple_inj hy hq];exact hx⟩,l,fun b hb=>(hf b hb).1⟩⟩
 done:=by
  intro X M O L hc i f s σ H E I hf st N;subst M O L;obtain⟨xs,hq,hx⟩:=N;obtain⟨j,Q,p,hz⟩:=I.tuple hq;obtain⟨B,C,Y,D,G,J⟩:=hf g (by simp)
  have hl:=Q.length;exact wpAny_pyNext_tuple_end (I.ok.hd hc) st (show s.heap.IsTuple a j.toArray from p) (by simp;omega) fun A U=>⟨rfl,I.turned (t':=s.toks) (fun b o hb e=>U b o hb e) B C D G J⟩
 self:=fun _ _ _ _ _ st h=>wpAny_pyIter_tupleiter st h
theorem VA{P:Program}{w:World}{K:W.Frag}{tg:Expr}(f:Addr)(lo:Int)(n:Nat):vY P w K tg (Itr lo n) [f] f (fun i h=>IsRangeIter h f (lo+(i:Nat)*1) ((n:Int)-(i:Nat)) 1) where
 mem:=by simp
 obj:=fun i h st b hb=>by
  have e:b=f:=by simpa using hb
  subst e;exact⟨_,st,fun v z=>by
   have z':Data.fields _=Data.cell v:=z;cases z'⟩
 keep:=fun i h l st k=>k f (by simp) _ st
 item:=by
  intro X J M G hc i g s σ H E I hf st L;subst J M G;obtain⟨u,A,U,B,C,D⟩:=hf f (by simp)
  have W:=Walks.range (prog:=X.prog) (w:=X.w) (I.ok.hd hc) f lo 1 n;refine W.item i s _ _ L st fun v l O Y j kk=>?_
  obtain⟨t,rfl⟩:=Y;have Q:Inv X g σ H { s with heap:=l,toks:=O }:=I.turned (fun b o hb e=>kk b o (by simpa using hb) e) u A B C D
  refine⟨_,rfl,X9 (s:={ s with heap:=l,toks:=O }) (n:= "range_iterator") j rfl rfl (by decide) ⟨.int (lo+i),H,Q,⟨t,?_⟩,⟨rfl,rfl⟩,j,fun b hb=>(hf b hb).1⟩⟩
  rw[Int.mul_one]
 done:=by
  intro X J M G hc i g s σ H E I hf st L;subst J M G;obtain⟨u,A,U,B,C,D⟩:=hf f (by simp)
  exact wpAny_pyNext_range_end (I.ok.hd hc) st (by have:n<=i:=L;omega) fun l T=>⟨rfl,I.turned (t':=s.toks) (fun b o hb e=>T b o hb e) u A B C D⟩
 self:=fun _ _ _ _ _ st h=>wpAny_pyIter_rangeiter st h
section
variable{X:Cx}{w:Expr}
inductive InL(K:W.Frag)(x:V)(H:Hp)(R:It->Hp->Prop):Prop
 | mk (a:Addr) (h:x=.ref a) (e:∃f,SqL K H a f) (r:R (Itl K a) H):InL K x H R
inductive InT(K:W.Frag)(x:V)(H:Hp)(R:It->Hp->Prop):Prop
 | mk (a:Addr) (h:x=.ref a) (e:∃f,SqT K H a f) (r:R (Itt K a) H):InT K x H R
def zde(K:W.Frag)(g:TE):TI:=fun σ H R=>g σ H fun x f=>InL K x f R
def zfx(K:W.Frag)(g:TE):TI:=fun σ H R=>g σ H fun x f=>InT K x f R
theorem qz{l:Expr}{u:TE}(B:PE X l u):PI X w l (zde X.K u):=by
 intro f s σ H R I h;refine thn (B f s σ H _ I h) fun v j ⟨x,A,g,E,D⟩=>?_
 obtain⟨a,e,⟨L,hq⟩,q⟩:=D;subst e;cases E;obtain⟨C,G,p,hz⟩:=g.list hq;refine wpAny_pyIter_list p.isList ?_
 refine⟨j.heap.objs.size,[j.heap.objs.size],_,_,A,rfl,g.kept (t':=j.toks) fun b o e=>qd _ e,YQ a _,⟨_,qy _ rfl,rfl,rfl⟩,fun b hb=>?_,q⟩
 have e:b=j.heap.objs.size:=by simpa using hb
 subst e;exact g.fpOk (zJ _) (g.hok.fresh (zJ _))
theorem ym{l:Expr}{A:TE}(C:PE X l A):PI X w l (zfx X.K A):=by
 intro f s σ H R I h;refine thn (C f s σ H _ I h) fun v g ⟨x,B,j,E,D⟩=>?_
 obtain⟨a,e,⟨L,hq⟩,q⟩:=D;subst e;cases E;obtain⟨u,G,p,hz⟩:=j.tuple hq;refine wpAny_pyIter_tuple (show g.heap.IsTuple a u.toArray from p) ?_
 refine⟨g.heap.objs.size,[g.heap.objs.size],_,_,B,rfl,j.kept (t':=g.toks) fun b o e=>qd _ e,Vz a _,⟨_,qy _ rfl,rfl,rfl⟩,fun b hb=>?_,q⟩
 have e:b=g.heap.objs.size:=by simpa using hb
 subst e;exact j.fpOk (zJ _) (j.hok.fresh (zJ _))
theorem zaW{g:List (Addr×Obj)}{σ:St}{H:Hp}{s:Shared}{R:It->Hp->Prop}{E:Value->Shared->Prop}{lo f:Int}{t u v:Tok}{l:Nat}(I:Inv X g σ H s)(C:-(2^62)<=lo)(D:lo<2^62)(G:-(2^62)<=f)(J:f<2^62)
  (q:R (Itr lo (f-lo).toNat) H):wpAny (model X.prog X.w) X.A (pyIter (.ref s.heap.objs.size)) (PIE X g σ w R) E { s with heap:=s.heap.push { cls:=.type "range",data:=.fields #[.int lo t,.int f u,.int 1 v] },toks:=l }:=by
 refine wpAny_pyIter_range (IsRange.new ..) (small_one C D G J) ?_
 have j:Inv X g σ H { s with heap:=s.heap.push { cls:=.type "range",data:=.fields #[.int lo t,.int f u,.int 1 v] },toks:=l }:=I.kept fun b o e=>qd _ e
 refine⟨(s.heap.push { cls:=.type "range",data:=.fields #[.int lo t,.int f u,.int 1 v] }).objs.size,[(s.heap.push { cls:=.type "range",data:=.fields #[.int lo t,.int f u,.int 1 v] }).objs.size],_,_,H,rfl,
  j.kept (t':=l) fun b o e=>qd _ e,VA _ lo (f-lo).toNat,?_,fun b hb=>?_,q⟩
 ·have A:lo+((0:Nat):Int)*1=lo:=by simp
  have B:(((f-lo).toNat:Nat):Int)-((0:Nat):Int)=Builtin.Range.rangeSize lo f 1:=by rw[rangeSize_one];split<;>omega
  show IsRangeIter _ _ (lo+((0:Nat):Int)*1) ((((f-lo).toNat:Nat):Int)-((0:Nat):Int)) 1;rw[A,B];exact qy _ rfl
 ·have e:b=(s.heap.push { cls:=.type "range",data:=.fields #[.int lo t,.int f u,.int 1 v] }).objs.size:=by simpa using hb
  subst e;exact j.fpOk (zJ _) (j.hok.fresh (zJ _))
inductive zff(f:List V)(H:Hp)(R:It->Hp->Prop):Prop
 | mk (j:Int) (h:f=[.int j]) (g:-(2^62)<=j) (l:j<2^62) (r:R (Itr 0 j.toNat) H):zff f H R
def zeZ(g:TA):TI:=fun σ H R=>g σ H fun j f=>zff j f R
theorem qU{a:Expr}{u:TA}{p g:Pos}(B:Gl X "range")(hm:X.mg "range" = none)(ha:PA X [a] u)(C:starEach [a] X.env=[(false,eval a X.env)]:=by rfl):PI X w (.Call (.Name "range" p) [a] [] g) (zeZ u):=by
 intro f s σ H R I h;refine Call_ (xN I B hm boot_range (yY (thn (ha g f s σ H _ I h) fun M L ⟨N,J,A,E,l⟩=>?_) C rfl))
 obtain⟨j,e,l,D,q⟩:=l;subst e;cases E with
 | cons r G=>
  cases G;obtain⟨t,rfl⟩:=r;exact call_range_1 (zaW A (by omega) (by omega) l D (by simpa using q))
def zfr(B:TI)(g:TG)(A:TS):TS:=fun D σ H=>B σ H fun J s=>∃W:Nat->Nat->St->Hp->Prop,(∃m,W 0 m σ s)/\∀i m σ H,W i m σ H ->
 (J.stop i H/\D.nx σ H)\/(J.go i H/\∃N:St->Hp->Prop,(∀l f,N l f->∃j,j<m/\W (i+1) j l f)/\∀x f,J.yld i H x f->g x σ f fun C u=>A { D with nx:=N,ct:=N,bk:=D.nx } C u)
def zR(f:List Addr)(h:Heap):List (Addr×Obj):=f.filterMap fun b=>(h.get? b).map fun o=>(b,o)
theorem qD{f:List Addr}{h:Heap}{b:Addr}{o:Obj}(hb:b∈f)(e:h.get? b=some o):(b,o)∈zR f h:=List.mem_filterMap.mpr ⟨b,hb,by rw[e];rfl⟩
theorem xU{f:List Addr}{h:Heap}{p:Addr×Obj}(hp:p∈zR f h):p.1∈f/\h.get? p.1=some p.2:=by
 obtain⟨b,hb,e⟩:=List.mem_filterMap.mp hp;cases q:h.get? b with
 | none=>rw[q] at e;cases e
 | some o=>
  rw[q] at e;have g:(b,o)=p:=qW e;subst g;exact⟨hb,q⟩
theorem Inv.pinned{f:List (Addr×Obj)}{σ:St}{H:Hp}{s:Shared}{fp:List Addr}(I:Inv X f σ H s)(hf:∀b∈fp,jf X f H b)(A:∀b∈fp,∃o,s.heap.get? b=some o/\∀v,o.data≠.cell v):Inv X (f++zR fp s.heap) σ H s:=
 I.pins_of fun p hp=>(qC.mp hp).elim (fun z=>I.pin p (qi _ z)) fun z=>by
  obtain⟨hb,e⟩:=xU z;obtain⟨j,l,u,_⟩:=hf p.1 hb;obtain⟨o,g,d⟩:=A p.1 hb;rw[e] at g;cases g
  exact⟨e,j,l,u,d⟩
theorem Inv.unpinned{f g:List (Addr×Obj)}{σ:St}{H:Hp}{s:Shared}(I:Inv X (f++g) σ H s):Inv X f σ H s:=I.pins_of fun p hp=>I.pin p (qi _ (wo _ hp))
theorem qJ{B:Expr}{body:List Stmt}{wi:TI}{g:TG}{tb:TS}{ac:Pos}(hp:PassesOwn (model X.prog X.w) X.A X.env X.xe)(hc:X.calm=true)(hi:PI X w B wi)(hg:PG X w g)(hb:PSs X body tb)
  (hs:∀x,foldedSetIterable B X.env x=pure x:=by intro _;rfl):PS X (.For w B body [] ac) (zfr wi g tb):=by
 intro j s σ H D I h;refine wpAny_For (thn (hi j s σ H _ I h) fun v s1 h1=>thn h1 fun af s2 h2=>?_) hs
 obtain⟨it,O,tn,J,H2,e,I2,T,ae,f2,W,⟨m0,w0⟩,a0⟩:=h2;subst e;have C:∀{G:Hp},(∀b∈O,G b=none)->∀b∈O,jf X j G b:=fun hn b hb=>⟨hn b hb,(f2 b hb).2⟩
 refine codeAny_forLoop_any (fun n s'=>∃i σ' G,Inv X j σ' G s'/\tn i s'.heap/\(∀b∈O,G b=none)/\W i n σ' G) ?_ m0 ⟨0,σ,H2,I2,ae,fun b hb=>(f2 b hb).1,w0⟩
 rintro n s3 ⟨i,σ3,H3,I3,Y,Q,w3⟩;rcases a0 i n σ3 H3 w3 with ⟨stop,qn⟩ | ⟨go,N,hN,step⟩
 ·refine ZT hp (thn (T.done X rfl rfl rfl hc i j s3 σ3 H3 X.xe I3 (C Q) Y stop) fun r s4 ⟨hr,I4⟩=>?_)
  subst hr;exact wpAny_execs_nil ⟨σ3,H3,I4,qn⟩
 ·refine ZT hp (thn (T.item X rfl rfl rfl hc i j s3 σ3 H3 X.xe I3 (C Q) Y go) fun r s4 ⟨u,hr,h4⟩=>?_)
  subst hr;refine ZT hp (thn h4 fun _ s5 ⟨x,H5,I5,r5,y5,M,ab⟩=>?_)
  have aa:=I5.pinned (C ab) (T.obj _ _ M);refine ZT hp (thn (hg _ s5 σ3 H5 x u _ aa r5 (step x H5 y5)) fun _ s6 ⟨σ6,H6,I6,q6⟩=>?_)
  refine ZT hp (thn (hb _ s6 σ6 H6 _ I6 q6) fun f s7 L=>?_)
  have again:∀{E:St} {l:Hp},Inv X (j++zR O s5.heap) E l s7->N E l->∃m,m<n/\∃i σ' G,Inv X j σ' G s7/\tn i s7.heap/\(∀b∈O,G b=none)/\W i m σ' G:=fun {E l} A U=>by
   obtain⟨m',hm,w7⟩:=hN E l U;refine⟨m',hm,i+1,E,l,A.unpinned,T.keep _ _ _ M fun b hb o e=>(A.pin (b,o) (qi _ (qi _ (qD hb e)))).1,fun b hb=>?_,w7⟩
   obtain⟨o,e,d⟩:=T.obj _ _ M b hb;exact(A.pin (b,o) (qi _ (qi _ (qD hb e)))).2.1
  cases f with
  | next=>obtain⟨E,l,A,U⟩:=L;exact again A U
  | cont=>obtain⟨E,l,A,U⟩:=L;exact again A U
  | brk=>obtain⟨E,l,A,L⟩:=L;exact⟨E,l,A.unpinned,L⟩
  | ret v=>obtain⟨x7,E,l,A,r7,L⟩:=L;exact⟨x7,E,l,A.unpinned,r7,L⟩
end
theorem xA{K:W.Frag}{a:Addr}{xs:List V}{g:TG}{A:TS}{D:Qg}{σ:St}{H:Hp}(Pv:Nat->St->Hp->Prop)(B:Pv 0 σ H)(G:∀i σ H,i<=xs.length->Pv i σ H->SqL K H a xs)
  (I:∀i x σ H,xs[i]? =some x->Pv i σ H->g x σ H fun u l=>A { D with nx:=Pv (i+1),ct:=Pv (i+1),bk:=D.nx } u l) (C:∀σ H,Pv xs.length σ H->D.nx σ H) :
  ∃W:Nat->Nat->St->Hp->Prop,(∃m,W 0 m σ H)/\∀i m σ H,W i m σ H ->
   ((Itl K a).stop i H/\D.nx σ H)\/((Itl K a).go i H/\∃N:St->Hp->Prop,(∀s f,N s f->∃w,w<m/\W (i+1) w s f)/\∀x f,(Itl K a).yld i H x f->g x σ f fun u l=>A { D with nx:=N,ct:=N,bk:=D.nx } u l):=by
 refine⟨fun i m σ H=>m=xs.length-i/\i<=xs.length/\Pv i σ H,⟨xs.length,by simp,qQ _,B⟩,?_⟩
 rintro i m σ H ⟨rfl,E,p⟩;have q:=G i σ H E p;by_cases j:i<xs.length
 ·refine .inr ⟨⟨xs,xs[i],q,by simp[j]⟩,Pv (i+1),fun s f J=>⟨xs.length-(i+1),by omega,rfl,j,J⟩,fun x f y=>?_⟩
  obtain⟨e,y⟩:=y;subst e;exact I i x σ _ (y xs q) p
 ·have e:i=xs.length:=by omega
  subst e;exact .inl ⟨⟨xs,q,zJ _⟩,C σ H p⟩
theorem zcF{K:W.Frag}{a:Addr}{xs:List V}{g:TG}{A:TS}{D:Qg}{σ:St}{H:Hp}(Pv:Nat->St->Hp->Prop)(B:Pv 0 σ H)(G:∀i σ H,i<=xs.length->Pv i σ H->SqT K H a xs)
  (I:∀i x σ H,xs[i]? =some x->Pv i σ H->g x σ H fun u l=>A { D with nx:=Pv (i+1),ct:=Pv (i+1),bk:=D.nx } u l) (C:∀σ H,Pv xs.length σ H->D.nx σ H) :
  ∃W:Nat->Nat->St->Hp->Prop,(∃m,W 0 m σ H)/\∀i m σ H,W i m σ H ->
   ((Itt K a).stop i H/\D.nx σ H)\/((Itt K a).go i H/\∃N:St->Hp->Prop,(∀s f,N s f->∃w,w<m/\W (i+1) w s f)/\∀x f,(Itt K a).yld i H x f->g x σ f fun u l=>A { D with nx:=N,ct:=N,bk:=D.nx } u l):=by
 refine⟨fun i m σ H=>m=xs.length-i/\i<=xs.length/\Pv i σ H,⟨xs.length,by simp,qQ _,B⟩,?_⟩
 rintro i m σ H ⟨rfl,E,p⟩;have q:=G i σ H E p;by_cases j:i<xs.length
 ·refine .inr ⟨⟨xs,xs[i],q,by simp[j]⟩,Pv (i+1),fun s f J=>⟨xs.length-(i+1),by omega,rfl,j,J⟩,fun x f y=>?_⟩
  obtain⟨e,y⟩:=y;subst e;exact I i x σ _ (y xs q) p
 ·have e:i=xs.length:=by omega
  subst e;exact .inl ⟨⟨xs,q,zJ _⟩,C σ H p⟩
theorem jF{lo:Int}{n:Nat}{g:TG}{A:TS}{D:Qg}{σ:St}{H:Hp}(Pv:Nat->St->Hp->Prop)(B:Pv 0 σ H)
  (E:∀i σ H,i<n->Pv i σ H->g (.int (lo+i)) σ H fun u l=>A { D with nx:=Pv (i+1),ct:=Pv (i+1),bk:=D.nx } u l) (C:∀σ H,Pv n σ H->D.nx σ H) :
  ∃W:Nat->Nat->St->Hp->Prop,(∃m,W 0 m σ H)/\∀i m σ H,W i m σ H ->
   ((Itr lo n).stop i H/\D.nx σ H)\/((Itr lo n).go i H/\∃N:St->Hp->Prop,(∀s f,N s f->∃w,w<m/\W (i+1) w s f)/\∀x f,(Itr lo n).yld i H x f->g x σ f fun u l=>A { D with nx:=N,ct:=N,bk:=D.nx } u l):=by
 refine⟨fun i m σ H=>m=n-i/\i<=n/\Pv i σ H,⟨n,by simp,qQ _,B⟩,?_⟩
 rintro i m σ H ⟨rfl,I,p⟩;by_cases j:i<n
 ·refine .inr ⟨j,Pv (i+1),fun s f G=>⟨n-(i+1),by omega,rfl,j,G⟩,fun x f y=>?_⟩
  obtain⟨e,y⟩:=y;subst e y;exact E i σ _ j p
 ·have e:i=n:=by omega
  subst e;exact .inl ⟨zJ _,C σ H p⟩
abbrev R2:=V->V->Hp->VK->Prop
def OpR(X:Cx)(f:Value->Value->Sem Value)(r:R2):Prop:=
 ∀(g:List (Addr×Obj)) (s:Shared) (σ:St) (H:Hp) (x y:V) (v u:Value) (Q:VK),Inv X g σ H s->RelV x v->RelV y u->r x y H Q ->
  wpAny (model X.prog X.w) X.A (f v u) (EP X g σ Q) X.xe s
def UnR(X:Cx)(f:Value->Sem Value)(r:V->Hp->VK->Prop):Prop:=
 ∀(g:List (Addr×Obj)) (s:Shared) (σ:St) (H:Hp) (x:V) (v:Value) (Q:VK),Inv X g σ H s->RelV x v->r x H Q ->
  wpAny (model X.prog X.w) X.A (f v) (EP X g σ Q) X.xe s
def CallR(X:Cx)(f:Value)(r:List V->Hp->VK->Prop):Prop:=
 ∀(g:List (Addr×Obj)) (s:Shared) (σ:St) (H:Hp) (l:List V) (j:List Value) (Q:VK),Inv X g σ H s->Vals l j->r l H Q ->
  wpAny (model X.prog X.w) X.A (call f j) (EP X g σ Q) X.xe s
def tOp(r:R2)(j l:TE):TE:=fun σ H Q=>j σ H fun x f=>l σ f fun y g=>r x y g Q
def tUn(r:V->Hp->VK->Prop)(g:TE):TE:=fun σ H Q=>g σ H fun x f=>r x f Q
inductive rI(C:Int->Int->Prop)(g:Int->Int->V)(x:V)(y:V)(H:Hp)(Q:VK):Prop
 | mk (i j:_) (_:x=.int i) (_:y=.int j) (_:C i j) (_:Q (g i j) H):rI C g x y H Q
inductive rI0(g:Int->Int->V)(x:V)(y:V)(H:Hp)(Q:VK):Prop
 | mk (i j:_) (_:x=.int i) (_:y=.int j) (_:Q (g i j) H):rI0 g x y H Q
inductive rU(g:Int->V)(x:V)(H:Hp)(Q:VK):Prop
 | mk (i:_) (_:x=.int i) (_:Q (g i) H):rU g x H Q
section
variable{X:Cx}{a b c:Expr}{l A B:TE}{w:Pos}
theorem zei(ha:PE X a l)(hb:PE X b A){g:List (Addr×Obj)}{s:Shared}{σ:St}{H:Hp}{R:V->V->Hp->Prop}(I:Inv X g σ H s)
  (h:l σ H fun x D=>A σ D fun y j=>R x y j) {Q:Value->Shared->Prop} {f:Value->Value->Sem Value}
  (hf:∀v u C x y j,Inv X g σ j C->RelV x v->RelV y u->R x y j->wpAny (model X.prog X.w) X.A (f v u) Q X.xe C) :
  wpAny (model X.prog X.w) X.A (eval a X.env) (fun v T=>wpAny (model X.prog X.w) X.A (eval b X.env) (fun u U=>wpAny (model X.prog X.w) X.A (f v u) Q X.xe U) X.xe T) X.xe s:=by
 refine thn (ha g s σ H _ I h) fun v O ⟨x,D,E,M,J⟩=>?_
 refine thn (hb g O σ D _ E J) fun u C ⟨y,j,G,N,L⟩=>?_
 exact hf v u C x y j G M N L
theorem zr{g:Operator}{r:R2}(D:OpR X (binaryOp g) r)(ha:PE X a l)(hb:PE X b A):PE X (.BinOp a g b w) (tOp r l A):=by
 intro f s σ H Q I h;exact wpAny_BinOp (zei ha hb I h fun v u J x y j C E G q=>D f J σ j x y v u Q C E G q)
theorem wJ{g:UnaryOp}{r:V->Hp->VK->Prop}(C:UnR X (unaryOp g) r)(ha:PE X a l):PE X (.UnaryOp g a w) (tUn r l):=by
 intro f s σ H Q I h;exact UnaryOp_ (thn (ha f s σ H _ I h) fun v G ⟨x,j,u,E,D⟩=>C f G σ j x v Q u E D)
theorem opI{f:Value->Value->Sem Value}{C:Int->Int->Prop}{g:Int->Int->Int}
  (rule:∀(i j:Int) (t u:Tok) (s:Shared) (Q:Value->Shared->Prop) (E:Value->Shared->Prop),C i j->Q (.int (g i j) s.toks) { s with toks:=s.toks+1 }->wpAny (model X.prog X.w) X.A (f (.int i t) (.int j u)) Q E s) :
  OpR X f (rI C fun i j=>.int (g i j)):=by
 intro D s σ H x y v u Q I G J h;obtain⟨i,j,rfl,rfl,hc,q⟩:=h;obtain⟨t,rfl⟩:=G;obtain⟨L,rfl⟩:=J;exact rule i j t L s _ _ hc ⟨.int (g i j),H,I.tok _,⟨_,rfl⟩,q⟩
theorem zeL{f:Value->Value->Sem Value}{g:Int->Int->Int}
  (rule:∀(i j:Int) (t u:Tok) (s:Shared) (Q:Value->Shared->Prop) (E:Value->Shared->Prop),Q (.int (g i j) s.toks) { s with toks:=s.toks+1 }->wpAny (model X.prog X.w) X.A (f (.int i t) (.int j u)) Q E s) :
  OpR X f (rI0 fun i j=>.int (g i j)):=by
 intro C s σ H x y v u Q I D G h;obtain⟨i,j,rfl,rfl,q⟩:=h;obtain⟨t,rfl⟩:=D;obtain⟨J,rfl⟩:=G;exact rule i j t J s _ _ ⟨.int (g i j),H,I.tok _,⟨_,rfl⟩,q⟩
theorem zcj{f:Value->Value->Sem Value}{g:Int->Int->Bool}
  (rule:∀(i j:Int) (t u:Tok) (s:Shared) (Q:Value->Shared->Prop) (E:Value->Shared->Prop),Q (.bool (g i j)) s->wpAny (model X.prog X.w) X.A (f (.int i t) (.int j u)) Q E s) :
  OpR X f (rI0 fun i j=>.bl (g i j)):=by
 intro C s σ H x y v u Q I D G h;obtain⟨i,j,rfl,rfl,q⟩:=h;obtain⟨t,rfl⟩:=D;obtain⟨J,rfl⟩:=G;exact rule i j t J s _ _ ⟨.bl (g i j),H,I,rfl,q⟩
def zfh(i j:Int):Prop:=0<j/\j<1073741824
def zfC(i j:Int):Prop:=0<=j/\j<=1000000/\i.natAbs<2^64
def CMul(i j:Int):Prop:=(-(2^64)<i/\i<2^64)\/(-(2^64)<j/\j<2^64)
theorem CMul.ok{i j:Int}(h:CMul i j):IntMulOk i j:=by
 rcases h with ⟨f,g⟩ | ⟨f,g⟩
 ·exact .of_left (intBits_le_64 f g)
 ·exact .of_right (intBits_le_64 f g)
theorem zD:OpR X (binaryOp .Add) (rI0 fun i j=>.int (i+j)):=zeL fun _ _ _ _ _ _ _ q=>add_int q
theorem jk:OpR X (binaryOp .Sub) (rI0 fun i j=>.int (i-j)):=zeL fun _ _ _ _ _ _ _ q=>sub_int q
theorem xy:OpR X (binaryOp .Mult) (rI CMul fun i j=>.int (i*j)):=opI fun _ _ _ _ _ _ _ hc q=>mul_int q hc.ok
theorem W5:OpR X (binaryOp .FloorDiv) (rI zfh fun i j=>.int (i/j)):=opI fun i j _ _ _ _ _ hc q=>by
 have f:(0:Int)<j:=hc.1;have g:j<1073741824:=hc.2;exact floordiv_int (by omega) (by rw[zbL i (by omega)];exact q) (.inl (Wf (by omega)))
theorem xz:OpR X (binaryOp .Mod) (rI (fun _ j=>0<j) fun i j=>.int (i % j)):=opI fun i j _ _ _ _ _ hc q=>by
 have f:(0:Int)<j:=hc;exact mod_int' (by omega) (by rw[zbK i (by omega)];exact q)
theorem zdL:OpR X (binaryOp .Pow) (rI zfC fun i j=>.int (i^j.toNat)):=opI fun _ _ _ _ _ _ _ hc q=>pow_int_small hc.1 hc.2.1 hc.2.2 q
theorem unI{f:Value->Sem Value}{g:Int->Int}
  (rule:∀(i:Int) (t:Tok) (s:Shared) (Q:Value->Shared->Prop) (E:Value->Shared->Prop),Q (.int (g i) s.toks) { s with toks:=s.toks+1 }->wpAny (model X.prog X.w) X.A (f (.int i t)) Q E s) :
  UnR X f (rU fun i=>.int (g i)):=by
 intro j s σ H x v Q I u h;obtain⟨i,rfl,q⟩:=h;obtain⟨t,rfl⟩:=u;exact rule i t s _ _ ⟨.int (g i),H,I.tok _,⟨_,rfl⟩,q⟩
theorem x8:UnR X (unaryOp .USub) (rU fun i=>.int (-i)):=unI fun _ _ _ _ _ q=>neg_int q
end
def zez:V->V->Bool
 | .non,.non=>true | .non,.int _=>true | .int _,.non=>true | .non,.bl _=>true | .bl _,.non=>true | .non,.str _=>true | .str _,.non=>true
 | .int _,.int _=>true | .bl _,.bl _=>true | .str _,.str _=>true | .byt _,.byt _=>true
 | .int _,.str _=>true | .str _,.int _=>true | .bl _,.str _=>true | .str _,.bl _=>true
 | _,_=>false
def rEq:R2:=fun x y H Q=>zez x y=true/\Q (.bl (decide (x=y))) H
def rNe:R2:=fun x y H Q=>zez x y=true/\Q (.bl (!decide (x=y))) H
theorem Yi{i j:Int}:decide (V.int i=V.int j)=(i==j):=by
 rw[yS];simp
theorem zbx{i j:Bool}:decide (V.bl i=V.bl j)=(i==j):=by
 rw[yS];simp
theorem Yh{i j:Str}:decide (V.str i=V.str j)=(i==j):=by
 rw[yS];simp
theorem Yj{i j:Array UInt8}:decide (V.byt i=V.byt j)=(i.toList==j.toList):=by
 rw[yS];cases i;cases j;simp
section
variable{X:Cx}{a b c:Expr}{g l A:TE}{w:Pos}
theorem zV{f:List (Addr×Obj)}{σ:St}{H:Hp}{s:Shared}{Q:VK}{k j:Bool}(I:Inv X f σ H s)(q:Q (.bl k) H)(e:k=j):EP X f σ Q (.bool j) s:=by
 subst e;exact⟨.bl k,H,I,rfl,q⟩
theorem v1:OpR X (compareOp .Eq) rEq:=by
 intro E s σ H x y v u Q I D f h;obtain⟨C,q⟩:=h;cases x with
 | non=>
  cases D;cases y with
  | non=>cases f;exact PySem.EqNone.eq_none_none (zV I q (by simp))
  | bl j=>cases f;exact PySem.EqNone.eq_none_bool (zV I q (by simp))
  | int j=>obtain⟨B,rfl⟩:=f;exact PySem.EqNone.eq_none_int (zV I q (by simp))
  | str j=>obtain⟨B,rfl⟩:=f;exact PySem.EqNone.eq_none_str (zV I q (by simp))
  | _=>exact absurd (show false=true from C) qx
 | bl i=>
  cases D;cases y with
  | non=>cases f;exact PySem.EqNone.eq_bool_none (zV I q (by simp))
  | bl j=>cases f;exact eq_bool (zV I q zbx)
  | str j=>obtain⟨B,rfl⟩:=f;exact PySem.EqMixed.eq_bool_str (zV I q (by simp))
  | _=>exact absurd (show false=true from C) qx
 | int i=>
  obtain⟨t,rfl⟩:=D;cases y with
  | non=>cases f;exact PySem.EqNone.eq_int_none (zV I q (by simp))
  | int j=>obtain⟨B,rfl⟩:=f;exact eq_int (zV I q Yi)
  | str j=>obtain⟨B,rfl⟩:=f;exact PySem.EqMixed.eq_int_str (zV I q (by simp))
  | _=>exact absurd (show false=true from C) qx
 | str i=>
  obtain⟨t,rfl⟩:=D;cases y with
  | non=>cases f;exact PySem.EqNone.eq_str_none (zV I q (by simp))
  | bl j=>cases f;exact PySem.EqMixed.eq_str_bool (zV I q (by simp))
  | int j=>obtain⟨B,rfl⟩:=f;exact PySem.EqMixed.eq_str_int (zV I q (by simp))
  | str j=>obtain⟨B,rfl⟩:=f;exact eq_str (zV I q Yh)
  | _=>exact absurd (show false=true from C) qx
 | byt i=>
  obtain⟨t,rfl⟩:=D;cases y with
  | byt j=>obtain⟨B,rfl⟩:=f;exact PySem.W.eq_bytes (zV I q Yj)
  | _=>exact absurd (show false=true from C) qx
 | _=>cases y<;>exact absurd (show false=true from C) qx
theorem zdc:OpR X (compareOp .NotEq) rNe:=by
 intro E s σ H x y v u Q I D f h;obtain⟨C,q⟩:=h;cases x with
 | non=>
  cases D;cases y with
  | non=>cases f;exact PySem.EqNone.ne_none_none (zV I q (by simp))
  | bl j=>cases f;exact PySem.EqNone.ne_none_bool (zV I q (by simp))
  | int j=>obtain⟨B,rfl⟩:=f;exact PySem.EqNone.ne_none_int (zV I q (by simp))
  | str j=>obtain⟨B,rfl⟩:=f;exact PySem.EqNone.ne_none_str (zV I q (by simp))
  | _=>exact absurd (show false=true from C) qx
 | bl i=>
  cases D;cases y with
  | non=>cases f;exact PySem.EqNone.ne_bool_none (zV I q (by simp))
  | bl j=>cases f;exact ne_bool (zV I q (congrArg not zbx))
  | str j=>obtain⟨B,rfl⟩:=f;exact PySem.EqMixed.ne_bool_str (zV I q (by simp))
  | _=>exact absurd (show false=true from C) qx
 | int i=>
  obtain⟨t,rfl⟩:=D;cases y with
  | non=>cases f;exact PySem.EqNone.ne_int_none (zV I q (by simp))
  | int j=>obtain⟨B,rfl⟩:=f;exact ne_int (zV I q (congrArg not Yi))
  | str j=>obtain⟨B,rfl⟩:=f;exact PySem.EqMixed.ne_int_str (zV I q (by simp))
  | _=>exact absurd (show false=true from C) qx
 | str i=>
  obtain⟨t,rfl⟩:=D;cases y with
  | non=>cases f;exact PySem.EqNone.ne_str_none (zV I q (by simp))
  | bl j=>cases f;exact PySem.EqMixed.ne_str_bool (zV I q (by simp))
  | int j=>obtain⟨B,rfl⟩:=f;exact PySem.EqMixed.ne_str_int (zV I q (by simp))
  | str j=>obtain⟨B,rfl⟩:=f;exact ne_str (zV I q (congrArg not Yh))
  | _=>exact absurd (show false=true from C) qx
 | byt i=>
  obtain⟨t,rfl⟩:=D;cases y with
  | byt j=>obtain⟨B,rfl⟩:=f;exact PySem.W.ne_bytes (zV I q (congrArg not Yj))
  | _=>exact absurd (show false=true from C) qx
 | _=>cases y<;>exact absurd (show false=true from C) qx
theorem XO:OpR X (compareOp .Lt) (rI0 fun i j=>.bl (decide (i<j))):=zcj fun _ _ _ _ _ _ _ q=>lt_int q
theorem yK:OpR X (compareOp .LtE) (rI0 fun i j=>.bl (decide (i<=j))):=zcj fun _ _ _ _ _ _ _ q=>le_int q
theorem wL:OpR X (compareOp .Gt) (rI0 fun i j=>.bl (decide (j<i))):=zcj fun _ _ _ _ _ _ _ q=>gt_int q
theorem zeK:OpR X (compareOp .GtE) (rI0 fun i j=>.bl (decide (j<=i))):=zcj fun _ _ _ _ _ _ _ q=>ge_int q
theorem JC:OpR X (compareOp .Is) (fun x y H Q=>y=.non/\Q (.bl (decide (x=.non))) H):=by
 intro f s σ H x y v u Q I j B h;obtain⟨rfl,q⟩:=h;cases B;refine is_none_gen (zV I q ?_)
 cases x<;>first
  | (cases j;rfl)
  | (obtain⟨t,rfl⟩:=j;rfl)
theorem W4:OpR X (compareOp .IsNot) (fun x y H Q=>y=.non/\Q (.bl (!decide (x=.non))) H):=by
 intro f s σ H x y v u Q I j B h;obtain⟨rfl,q⟩:=h;cases B;refine isnot_none_gen (zV I q ?_)
 cases x<;>first
  | (cases j;rfl)
  | (obtain⟨t,rfl⟩:=j;rfl)
theorem OpR.or{f:Value->Value->Sem Value}{r B:R2}(h:OpR X f r)(E:OpR X f B):OpR X f (fun x y H Q=>r x y H Q\/B x y H Q):=by
 intro j s σ H x y v u Q I C D q;rcases q with q | q
 ·exact h j s σ H x y v u Q I C D q
 ·exact E j s σ H x y v u Q I C D q
theorem zE(b:Expr){f:CmpOp}(h:f≠.In:=by decide)(u:f≠.NotIn:=by decide):behindInMarks f b=false:=by
 have j:(f==CmpOp.In)=false:=by cases f<;>first| rfl | exact absurd rfl h
 have s:(f==CmpOp.NotIn)=false:=by cases f<;>first| rfl | exact absurd rfl u
 cases b<;>simp[behindInMarks,j,s]
theorem qv{j:CmpOp}{r:R2}(D:OpR X (compareOp j) r)(ha:PE X a g)(hb:PE X b l)(hm:behindInMarks j b=false):PE X (.Compare a [j] [b] w) (tOp r g l):=by
 intro f s σ H Q I h;exact wpAny_Compare1 (zei ha hb I h fun v u J x y B C E G q=>D f J σ B x y v u Q C E G q) hm
def zen(t:TE):TT:=fun σ H Q=>t σ H fun x f=>IsB x f Q
theorem zG{j:CmpOp}{r:R2}(L:OpR X (compareOp j) r)(ha:PE X a g)(hb:PE X b l)(hm:behindInMarks j b=false):PT X (.Compare a [j] [b] w) (zen (tOp r g l)):=by
 intro f s σ H Q I h;refine wpAny_isTrue_Compare1 (thn (ha f s σ H _ I h) fun v s1 ⟨x,B,E,T,M⟩=>thn (hb f s1 σ B _ E M) fun u s2 ⟨y,C,G,U,N⟩=>
  thn (L f s2 σ C x y v u _ G T U N) fun c s3 ⟨z,D,J,Y,k,e,O⟩=>?_) hm
 subst e;cases Y;exact ya ⟨D,J,O⟩
def zdo(r B:R2)(g l A:TE):TE:=fun σ H Q=>g σ H fun x j=>l σ j fun y s=>r x y s fun z f=>∃k,z=.bl k /\
 (if k=true then A σ f fun C u=>B y C u Q else Q (.bl false) f)
theorem za2{C j:CmpOp}{r J:R2}(ho:OpR X (compareOp C) r)(B:OpR X (compareOp j) J)(ha:PE X a g)(hb:PE X b l)(hc:PE X c A)
  (hm:lastMarks [C,j] [b,c]=false:=by with_unfolding_all rfl):PE X (.Compare a [C,j] [b,c] w) (zdo r J g l A):=by
 intro f s σ H Q I h;refine Compare_chain (thn (ha f s σ H _ I h) fun v s1 ⟨x,M,T,r1,q1⟩=>chain_link (thn (hb f s1 σ M _ T q1) fun u s2 ⟨y,N,U,L,q2⟩=>
  thn (ho f s2 σ N x y v u _ U r1 L q2) fun d s3 ⟨z,D,E,r3,k,e,G⟩=>?_)) hm
 subst e;cases r3;refine ya ?_
 cases k with
 | false=>exact ite_ff ⟨.bl false,D,E,rfl,G⟩
 | true=>exact ite_tt (chain_last (thn (hc f s3 σ D _ E G) fun w' s4 ⟨z',O,Y,r4,q4⟩=>B f s4 σ O y z' u w' Q Y L r4 q4))
theorem ZE:(sizeLine:Nat)<2^63:=by rw[sizeLine_eq];decide
inductive yg(x:V)(y:V)(H:Hp)(Q:VK):Prop
 | mk (i j:_) (_:x=.str i) (_:y=.str j) (_:i.length+j.length<=sizeLine) (_:Q (.str (i++j)) H):yg x y H Q
theorem VJ:OpR X (binaryOp .Add) (yg):=by
 intro f s σ H x y v u Q I B C h;obtain⟨i,j,rfl,rfl,hz,q⟩:=h;obtain⟨t,rfl⟩:=B;obtain⟨D,rfl⟩:=C;exact add_str (fun D E=>⟨.str (i++j),H,I.tok _,⟨_,rfl⟩,q⟩) hz
theorem vy{x:V}{f:List Value}(r:Vals [x] f):∃u,f=[u]/\RelV x u:=by
 cases r with
 | cons j s=>cases s;exact⟨_,rfl,j⟩
theorem Qn{x y:V}{f:List Value}(r:Vals [x,y] f):∃u j,f=[u,j]/\RelV x u/\RelV y j:=by
 cases r with
 | cons s B=>
  cases B with
  | cons C D=>cases D;exact⟨_,_,rfl,s,C⟩
inductive Qe(f:List V)(H:Hp)(Q:VK):Prop
 | mk (i:_) (_:f=[.int i]) (_:Q (.int (if i<0 then -i else i)) H):Qe f H Q
theorem vL:CallR X (.builtin "abs") (Qe):=by
 intro f s σ H C B Q I r h;obtain⟨i,rfl,q⟩:=h;obtain⟨u,rfl,t,rfl⟩:=vy r;exact call_abs_int fun u j=>⟨.int (if i<0 then -i else i),H,I.tok _,⟨_,rfl⟩,q⟩
inductive y6(f:List V)(H:Hp)(Q:VK):Prop
 | mk (i j:_) (_:f=[.int i,.int j]) (_:Q (.int (if j>i then j else i)) H):y6 f H Q
theorem vW(hc:X.calm=true):CallR X (.builtin "max") (y6):=by
 intro B s σ H L G Q I r h;obtain⟨i,j,rfl,q⟩:=h;obtain⟨u,J,rfl,⟨t,rfl⟩,⟨D,rfl⟩⟩:=Qn r;refine max_two_ints (I.ok.hd hc) fun C E k=>⟨_,H,I.kept k,?_,q⟩
 by_cases f:j>i
 ·rw[zw f,zw f];exact⟨_,rfl⟩
 ·rw[zq f,zq f];exact⟨_,rfl⟩
inductive y4(f:List V)(H:Hp)(Q:VK):Prop
 | mk (i j:_) (_:f=[.int i,.int j]) (_:Q (.int (if j<i then j else i)) H):y4 f H Q
theorem zak(hc:X.calm=true):CallR X (.builtin "min") (y4):=by
 intro B s σ H L G Q I r h;obtain⟨i,j,rfl,q⟩:=h;obtain⟨u,J,rfl,⟨t,rfl⟩,⟨D,rfl⟩⟩:=Qn r;refine min_two_ints (I.ok.hd hc) fun C E k=>⟨_,H,I.kept k,?_,q⟩
 by_cases f:j<i
 ·rw[zw f,zw f];exact⟨_,rfl⟩
 ·rw[zq f,zq f];exact⟨_,rfl⟩
theorem xr:CallR X (.type "int") (fun f H Q=>(∃i,f=[.int i]/\Q (.int i) H)\/∃k,f=[.bl k]/\Q (.int (if k then 1 else 0)) H):=by
 intro j s σ H f C Q I r h;rcases h with ⟨i,rfl,q⟩ | ⟨k,rfl,q⟩
 ·obtain⟨u,rfl,t,rfl⟩:=vy r
  exact call_int_int ⟨.int i,H,I,⟨_,rfl⟩,q⟩
 ·obtain⟨u,rfl,B⟩:=vy r
  cases B;exact call_int_bool ⟨.int (if k then 1 else 0),H,I.tok _,⟨_,rfl⟩,q⟩
inductive wq(f:List V)(H:Hp)(Q:VK):Prop
 | mk (i j:_) (_:f=[.int i,.int j]) (_:zfh i j) (_:∀p,H p=none->Q (.ref p) (upd H p (.tup [.int (i/j),.int (i % j)]))):wq f H Q
theorem Vk:CallR X (.builtin "divmod") (wq):=by
 intro f s σ H L G Q I r h;obtain⟨i,j,rfl,⟨C,D⟩,q⟩:=h;obtain⟨u,J,rfl,⟨t,rfl⟩,⟨E,rfl⟩⟩:=Qn r;refine divmod_int (by omega) ?_ (.inl (Wf (by omega)))
 rw[zbL i (by omega),zbK i (by omega)]
 have B:H s.heap.objs.size=none:=I.hok.fresh (zJ _);refine⟨.ref s.heap.objs.size,_,?_,rfl,q _ B⟩
 refine I.laid (fun b o e=>qd _ e) (zJ _) ⟨by simp only[jr,V2];rw[sizeLine_eq];decide,[.int (i/j) s.toks,.int (i % j) (s.toks+1)],.cons ⟨_,rfl⟩ (.cons ⟨_,rfl⟩ .nil),?_⟩
 exact⟨⟨_,qy s.heap rfl,rfl,0,rfl⟩,_,qy s.heap rfl,rfl⟩
end
structure ObjM(h:Heap)(x dx C:Addr)(mA:Str->Option Value):Prop where
 obj:h.get? x=some (PySem.W.instObj C dx)
 ns:h.Ns1 dx mA
 ne:dx≠x
theorem Y3{h:Heap}{j:Addr}{s:Str->Option Value}(n:h.Ns1 j s):∃u,h.get? j=some u/\∀f,PySem.W.lookIn f u=some (s f):=by
 obtain⟨o,l,C,B,A,hk,_,hm⟩:=n;refine⟨o,B,fun f=>?_⟩
 have e:=hm f;unfold nsFind findBy at e;rw[<- Array.find?_toList] at e
 unfold PySem.W.lookIn;rw[A];dsimp only;split
 ·rename_i y q
  rw[q] at e;exact congrArg some e
 ·rename_i q
  rw[q] at e;have a:l.toList.any (·.refKey)=false:=by
   rw[List.any_eq_false];intro y hy;obtain⟨z,t,g⟩:=hk y (Array.mem_toList_iff.mp hy);simp[DictEntry.refKey,g]
  have w:¬l.toList.any (·.refKey)=true:=by rw[a];exact qx
  rw[zq w];exact congrArg some e
theorem ObjM.look{h:Heap}{x j C:Addr}{l:Str->Option Value}(I:ObjM h x j C l):∃g,PySem.W.InstAt h x (PySem.W.instObj C j) C (some g)/\∀f,PySem.W.lookIn f g=some (l f):=
 let ⟨g,u,s⟩:=Y3 I.ns
 ⟨g,⟨I.obj,rfl,rfl,u⟩,s⟩
section
variable{j:Program}{w:World}{A:Around}{E:Value->Shared->Prop}{s:Shared}{K:W.Frag}{x l C f:Addr}{u:Str->Option Value}{g:Str}{v:Value}
end
def putF(f:Str)(v:V):List (Str×V)->List (Str×V)
 | []=>[(f,v)]
 | (g,x)::r=>if g=f then(g,v)::r else(g,x)::putF f v r
theorem RelO.some_of{v:V}{o:Option Value}(r:RelO (some v) o):∃u,o=some u/\RelV v u:=by
 cases o with
 | none=>exact(show False from r).elim
 | some u=>exact⟨u,rfl,r⟩
section
variable{P:Program}{w:World}{H g:Hp}{h s:Heap}{a C j:Addr}{l f:List (Str×V)}
end
structure Cls(K:W.Frag)(C:Addr):Prop where
 pg:PySem.W.plainGet K C Str.empty=true
 hd:PySem.W.hasDictIn K C=true
 po:PySem.W.plainOver K C=true
 sa:PySem.W.findIn K (.ref C) "__setattr__" = some (some (.builtin "object.__setattr__"))
theorem Cls.get{K:W.Frag}{C:Addr}(c:Cls K C)(f:Str):PySem.W.plainGet K C f=true:=c.pg
structure Con(K:W.Frag)(C:Addr)(f:Str)(v:V)(u:Value):Prop where
 at_:PySem.W.findIn K (.ref C) f=some (some u)
 rel:RelV v u
 get:PySem.W.specialIn K u "__get__" = some none
 cp:PySem.W.copiedNames.contains f=false
structure Meth(K:W.Frag)(C:Addr)(m:Str)(f:Addr):Prop where
 at_:PySem.W.findIn K (.ref C) m=some (some (.ref f))
 fn:PySem.W.isFn K (.ref f)=true
 kp:PySem.W.keepIn K (.ref f)=true
section
variable{X:Cx}{g:List (Addr×Obj)}{σ:St}{H:Hp}{s:Shared}{a C j:Addr}{l:List (Str×V)}{f:Str}{v:V}{A:Around}{E:Value->Shared->Prop}
theorem Inv.made(I:Inv X g σ H s):Inv X g σ (upd (upd H s.heap.objs.size (.own (s.heap.objs.size+1))) (s.heap.objs.size+1) (.ins C s.heap.objs.size []))
  { s with heap:=(s.heap.push PySem.W.emptyDict).push (PySem.W.instObj C s.heap.objs.size) }:=by
 have w:(s.heap.push PySem.W.emptyDict).get? s.heap.objs.size=some PySem.W.emptyDict:=qy s.heap rfl;have G:((s.heap.push PySem.W.emptyDict).push (PySem.W.instObj C s.heap.objs.size)).get? (s.heap.objs.size+1)=some (PySem.W.instObj C s.heap.objs.size):=by
  have:=qy (s.heap.push PySem.W.emptyDict) (o:=PySem.W.instObj C s.heap.objs.size) rfl;rwa[jt] at this
 have J:(s.heap.push PySem.W.emptyDict).Ns s.heap.objs.size (fun _=>none):=⟨PySem.W.emptyDict,#[],_,w,rfl,(fun e L=>absurd L (by simp)),fun _=>rfl⟩
 have D:=I.laid (a:=s.heap.objs.size) (o:=.own (s.heap.objs.size+1)) (h':=s.heap.push PySem.W.emptyDict) (t':=s.toks) (fun b u q=>qd _ q) (zJ _) ⟨_,w⟩
 refine D.laid (a:=s.heap.objs.size+1) (o:=.ins C s.heap.objs.size []) (t':=s.toks) (fun b u q=>qd _ q) (vO (jt _ _)) ?_
 have B:s.heap.objs.size≠s.heap.objs.size+1:=z9 (vq _);refine⟨by rw[zm B,zd],qQ _,B,G,fun _=>none,(Heap.Ns1.of_empty J).at fun o q=>qd _ q,fun _=>True.intro,fun y hy=>absurd rfl hy⟩
end
section
variable{X:Cx}{o e g:Expr}{f:Str}{s j l:Pos}{u w:TE}
end
section
variable{X:Cx}{f:List (Addr×Obj)}{σ:St}{H:Hp}{s:Shared}{A:Around}{E:Value->Shared->Prop}{Q:Value->Shared->Prop}{c:Value}{b:Bool}
inductive Qa(K:W.Frag)(H:Hp):V->Value->Prop where
 | non:Qa K H .non (.type "NoneType")
 | bl (x:Bool):Qa K H (.bl x) (.type "bool")
 | int (i:Int):Qa K H (.int i) (.type "int")
 | str (x:Str):Qa K H (.str x) (.type "str")
 | flt (x:UInt64):Qa K H (.flt x) (.type "float")
 | lst {a:Addr} {j:List V} (e:H a=some (.lst j)):Qa K H (.ref a) (.type "list")
 | frz {a:Addr} {o:Obj} {j:List V} (e:H a=some (.frz o (.lst j))):Qa K H (.ref a) (.type "list")
 | tup {a:Addr} {j:List V} (e:H a=some (.tup j)):Qa K H (.ref a) (.type "tuple")
 | dK {a:Addr} {g:List (Key×V)} (e:H a=some (.dK g)):Qa K H (.ref a) (.type "dict")
 | dT {a:Addr} {g:List (List Key×V)} (e:H a=some (.dT g)):Qa K H (.ref a) (.type "dict")
 | ins {a C l:Addr} {u:List (Str×V)} (e:H a=some (.ins C l u)) (B:Cls K C) (ha:PySem.W.findIn K (.ref C) "__class__" = some (some (.builtin "object.__class__")))
   (D:PySem.W.specialIn K (.builtin "object.__class__") "__get__" = some (some (.builtin "getset_descriptor.__get__"))) (w:PySem.W.takesIn K (.builtin "object.__class__")=some true)
   (hm:PySem.W.mroIn K C (.type "object")=some true):Qa K H (.ref a) (.ref C)
end
structure Room(k:Nat)(A:Around):Prop where
 hd:A.handled=none
 dp:A.depth+3*k+5<recursionLimit
 un:A.units+16*k+200<cLine
 gd:A.guards=some []
theorem Room.mono{j k:Nat}{A:Around}(r:Room k A)(h:j<=k):Room j A:=⟨r.hd,by have:=r.dp;omega,by have:=r.un;omega,r.gd⟩
theorem Room.m{j k:Nat}{A:Around}(r:Room k A)(h:j<=k:=by decide):Room j A:=r.mono h
theorem Room.deeper{k:Nat}{A:Around}(r:Room (k+1) A)(f:Env):Room k (A.deeper f):=
 ⟨r.hd,by have:=r.dp;show A.depth+1+3*k+5<_;omega,by have:=r.un;show A.units+3+16*k+200<_;omega,r.gd⟩
theorem Room.in1{k:Nat}{A:Around}(r:Room (k+1) A):Room k A.in1:=
 ⟨r.hd,by have:=r.dp;show A.depth+3*k+5<_;omega,by have:=r.un;show A.units+1+16*k+200<_;omega,r.gd⟩
theorem Room.depth{k:Nat}{A:Around}(r:Room k A):A.depth<recursionLimit:=by have:=r.dp;omega
theorem Room.units{k:Nat}{A:Around}(r:Room k A):A.units+64<cLine:=by have:=r.un;omega
theorem Room.units0{k:Nat}{A:Around}(r:Room k A):A.units<cLine:=by have:=r.un;omega
def zdm:TA:=fun _ H Q=>Q [] H
def xR(j:TE)(l:TA):TA:=fun σ H Q=>j σ H fun x f=>l σ f fun s g=>Q (x::s) g
section
variable{X:Cx}{e:Expr}{g:List Expr}{j:TE}{t:TA}{f:Pos}
theorem ze:PA X [] zdm:=fun _ _ _ _ H Q I h=>Calls.spliced_nil ⟨[],H,I,.nil,h⟩
theorem za(ha:PE X e j)(D:PA X g t)(E:starEach (e::g) X.env=(false,eval e X.env)::starEach g X.env:=by rfl):PA X (e::g) (xR j t):=by
 intro f l s σ H Q I h;rw[E];show wpAny _ _ (spliced ((false,eval e X.env)::backTo f (starEach g X.env))) _ _ s;refine Calls.spliced_cons (thn (ha l s σ H _ I h) fun u N ⟨x,w,B,L,G⟩=>?_)
 exact thn (D f l N σ w _ B G) fun U T ⟨O,A,C,M,J⟩=>⟨x::O,A,C,.cons L M,J⟩
def zfj(t:TA):TE:=fun σ H Q=>t σ H fun s l=>s.length<=sizeLine/\∀p,l p=none->Q (.ref p) (upd l p (.tup s))
def zfp(t:TA):TE:=fun σ H Q=>t σ H fun s l=>s.length<=sizeLine/\∀p,l p=none->Q (.ref p) (upd l p (.lst s))
theorem zN{D}(h:PA X g t):PE X (.Tuple g D f) (zfj t):=by
 intro l s σ H Q I hq;refine wpAny_Tuple_spliced (thn (h f l s σ H _ I hq) fun C w ⟨E,A,B,r,z,q⟩=>⟨by rw[<- r.length];exact z,?_⟩)
 have hf:A w.heap.objs.size=none:=B.hok.fresh (zJ _);refine⟨.ref w.heap.objs.size,upd A w.heap.objs.size (.tup E),B.laid (t':=w.toks) (fun b u e=>qd _ e) (zJ _) ?_,rfl,q _ hf⟩
 exact⟨z,C,r,⟨_,qy _ rfl,rfl,_,rfl⟩,_,qy _ rfl,rfl⟩
theorem zT(h:PA X g t):PE X (.List g f) (zfp t):=by
 intro l s σ H Q I hq;refine wpAny_List_spliced (thn (h f l s σ H _ I hq) fun C w ⟨D,A,B,r,z,q⟩=>⟨by rw[<- r.length];exact z,?_⟩)
 have hf:A w.heap.objs.size=none:=B.hok.fresh (zJ _);refine⟨.ref w.heap.objs.size,upd A w.heap.objs.size (.lst D),B.laid (t':=w.toks) (fun b u e=>qd _ e) (zJ _) ?_,rfl,q _ hf⟩
 exact⟨z,C,0,r,qy _ rfl⟩
end
abbrev Sp:=List V->Hp->VK->XK->Prop
abbrev CXT:=List Env->Hp->Shared->XK->Value->Shared->Prop
structure Env0(P:Program)(w:World)(K:W.Frag)(mg:Str->Option Value)(base:Heap)(A:Around)(outer:List Env)(s:Shared)(H:Hp):Prop where
 frames:A.frames=some outer
 mod:Mod K mg base
 bs:∀b o,base.get? b=some o->s.heap.get? b=some o/\H b=none
 bsz:base.objs.size<=s.heap.objs.size
 funs:s.heap.FunFrames base outer
 frf:∀b∈frs outer,H b=none
 hok:HOk P w H s.heap
 bare:AllBare s.gens
def CE(f:List Env)(P:Program)(w:World)(H:Hp)(s:Shared)(Q:VK)(u:Value)(g:Shared):Prop:=
 ∃v j,g.os=s.os/\AllBare g.gens/\Un (frs f) [] H j s.heap g.heap/\HOk P w j g.heap/\RelV v u/\Q v j
def CR(j:CXT)(f:List Env)(P:Program)(w:World)(H:Hp)(s:Shared)(Q:VK)(E:XK)(r:Result)(g:Shared):Prop:=
 match r with
 | .ok (.ret u)=>CE f P w H s Q u g
 | .ok _=>False
 | .error e=>j f H s E e g
structure FnOk(P:Program)(w:World)(K:W.Frag)(mg:Str->Option Value)(base:Heap)(CX:CXT)(k:Nat)(f:Addr)(fd:FuncData)(ps:List Str)(sp:Sp):Prop where
 len:∀vs H Q E,sp vs H Q E->vs.length=ps.length
 run:∀(A:Around) (outer:List Env) (s:Shared) (H:Hp) (args:Args) (us:List Value) (vs:List V) (Q:VK) (E:XK),Room k A->Env0 P w K mg base A outer s H->BindsTo s fd args (ps.zip us)->Vals vs us->sp vs H Q E ->
  codeAny (model P w) A (.call (.ref f) args) (CR CX outer P w H s Q E) s
theorem FnOk.mono{P:Program}{w:World}{K:W.Frag}{C:Str->Option Value}{g:Heap}{u:CXT}{j k:Nat}{f:Addr}{B:FuncData}{D:List Str}{G:Sp}(F:FnOk P w K C g u j f B D G)(h:j<=k) :
  FnOk P w K C g u k f B D G:=⟨F.len,fun A l s H args J L Q E I=>F.run A l s H args J L Q E (I.mono h)⟩
theorem FnOk.imp{P:Program}{w:World}{K:W.Frag}{D:Str->Option Value}{g:Heap}{B:CXT}{k:Nat}{f:Addr}{C:FuncData}{G:List Str}{I u:Sp}(F:FnOk P w K D g B k f C G I)
  (h:∀l H Q E,u l H Q E->I l H Q E):FnOk P w K D g B k f C G u:=
 ⟨fun l H Q E q=>F.len l H Q E (h _ _ _ _ q),fun A j s H args O l Q E L J hb N M=>F.run A j s H args O l Q E L J hb N (h _ _ _ _ M)⟩
theorem Env0.in1{P:Program}{w:World}{K:W.Frag}{j:Str->Option Value}{g:Heap}{A:Around}{f:List Env}{s:Shared}{H:Hp}(e:Env0 P w K j g A f s H) :
  Env0 P w K j g A.in1 f s H:=⟨e.frames,e.mod,e.bs,e.bsz,e.funs,e.frf,e.hok,e.bare⟩
section
variable{X:Cx}{f:List (Addr×Obj)}{σ:St}{H:Hp}{s j:Shared}
theorem Inv.env0(I:Inv X f σ H s):Env0 X.prog X.w X.K X.mg X.base X.A X.stack s H:=
 ⟨I.ok.frames,I.ok.mod,I.bs,jm I.ok.bsz I.sz,I.stack,I.stkFree,I.hok,I.bare⟩
theorem Inv.after{Q:VK}{u:Value}(I:Inv X f σ H s)(h:CE X.stack X.prog X.w H s Q u j):EP X f σ Q u j:=by
 obtain⟨v,B,os,l,un,w,r,q⟩:=h;obtain⟨C,g,d,t,A⟩:=j;obtain rfl:A=s.os:=os;exact⟨v,B,I.call (h':=C) (g':=g) (d':=d) (t':=t) (ch:=[]) un w l (fun b z=>absurd z (by simp)),r,q⟩
end
def zcT(j:Sp)(f:List V)(E:XK)(t:TA):TE:=fun σ H Q=>t σ H fun l g=>j (l++f) g Q E
def Binds(K:W.Frag)(l:FuncData)(j:List Str)(g:List Value):Prop:=
 ∀(s:Shared) (f:List Value),K.In s.heap->(f++g).length=j.length->BindsTo s l ⟨f,[]⟩ (j.zip (f++g))
theorem Binds.all{K:W.Frag}{j:FuncData}{g:List Str}(h:∀f:List Value,f.length=g.length->bindArgs j ⟨f,[]⟩=pure (g.zip f)):Binds K j g []:=fun s f _ l=>by
 rw[xj] at l ⊢;exact .of_eq (h f l)
def Wl(j:CXT)(X:Cx)(E:XK):Prop:=∀(f:List (Addr×Obj)) (σ:St) (H:Hp) (s:Shared) (e:Value) (g:Shared),Inv X f σ H s->j X.stack H s E e g->X.xe e g
section
variable{X:Cx}{B:CXT}{k:Nat}{f C:Addr}{D:FuncData}{A:List Str}{G:Sp}{g:List V}{j:List Value}{E:XK}{x m:Str}{p l J:Pos}{e o:Expr}{w:List Expr}{L:TE}{t:TA}
theorem zdt{M:List (Addr×Obj)}{σ:St}{H:Hp}{s:Shared}{Q:VK}{N:List Value}{O:List V}(F:FnOk X.prog X.w X.K X.mg X.base B k f D A G)(hr:Room k X.A)(hb:Binds X.K D A j)(Y:Vals g j)(hx:Wl B X E)
  (I:Inv X M σ H s) (r:Vals O N) (h:G (O++g) H Q E):wpAny (model X.prog X.w) X.A (call (.ref f) N) (EP X M σ Q) X.xe s:=by
 have T:Vals (O++g) (N++j):=r.append Y;have hl:(N++j).length=A.length:=by rw[<- T.length];exact F.len _ _ _ _ h
 refine wpAny_call (codeAny_mono (F.run X.A X.stack s H ⟨N,[]⟩ (N++j) (O++g) Q E hr I.env0 (hb s N I.kIn hl) T h) fun r s' hq=>?_)
 cases r with
 | error e=>exact hx M σ H s e s' I hq
 | ok U=>
  cases U with
  | ret u=>exact I.after hq
  | next=>exact False.elim hq
  | brk=>exact False.elim hq
  | cont=>exact False.elim hq
theorem zcf(F:FnOk X.prog X.w X.K X.mg X.base B k f D A G)(hr:Room k X.A)(Y:Gl X x)(hm:X.mg x=some (.ref f))(hk:PySem.W.keepIn X.K (.ref f)=true)(hb:Binds X.K D A j)(T:Vals g j)(hx:Wl B X E)
  (ha:PA X (e::w) t) (M:(x==("__debug__":Str))=false:=by decide) (U:starEach (e::w) X.env=(false,eval e X.env)::starEach w X.env:=by rfl) (N:(backTo l (starEach w X.env)).any (·.1)=false:=by rfl) :
  PE X (.Call (.Name x p) (e::w) [] l) (zcT G g E t):=by
 intro u s σ H Q I h;refine wpAny_Call_Name_kw (W7 I Y hm ?_ M)
 refine PySem.W.callWith_K (h₀:=X.base) I.ok.mod.kin hk (thn (ha l u s σ H _ I h) fun us s1 ⟨vs,H1,O,r,q⟩=>⟨O.kIn,?_⟩) U N
 exact zdt F hr hb T hx O r q
structure Mk(K:W.Frag)(C f:Addr):Prop where
 makes:PySem.W.makesIn K C=true
 init:PySem.W.findIn K (.ref C) "__init__" = some (some (.ref f))
 fn:PySem.W.isFn K (.ref f)=true
 kp:PySem.W.keepIn K (.ref C)=true
end
section
variable{X:Cx}{A:CXT}{k:Nat}{f C:Addr}{fd:FuncData}{ps ks:List Str}{G:Sp}{E:XK}{x m:Str}{p w j l:Pos}{e o:Expr}{B:List Expr}{u:List Keyword}{I H:TE}{t J:TA}{D:Option Str}
structure KBinds(K:W.Frag)(fd:FuncData)(ps ks:List Str)(g:List Value->List Value->List Value)(gV:List V->List V->List V):Prop where
 to:∀(s:Shared) (us ws:List Value),K.In s.heap->(g us ws).length=ps.length->BindsTo s fd ⟨us,ks.zip ws⟩ (ps.zip (g us ws))
 rel:∀{vs:List V} {us:List Value} {zs:List V} {ws:List Value},Vals vs us->Vals zs ws->Vals (gV vs zs) (g us ws)
variable{g:List Value->List Value->List Value}{gV:List V->List V->List V}
end
structure zI(N P:List Str)(sc:Scope):Prop where
 kind:sc.kind=.function
 co:sc.isCoroutine=false
 gen:sc.isGenerator=false
 nd:N.Nodup
 pre:N.take P.length=P
 par:∀x∈P,sc.names.lookup x=some .local\/sc.names.lookup x=some .cell
 nofree:∀y∈sc.names,y.2≠.free
theorem Jd{kindOf:Str->Option NameKind}{x:Str}:∀{f:List (Str×Value)} {m:Str->Option Value},(∀v,(x,v)∉f)->bindL kindOf f m x=m x
 | [],_,_=>rfl
 | (n,v)::r,m,h=>by
  unfold bindL;rw[Jd fun w g=>h w (jv _ g)]
  split
  ·have:x≠n:=by rintro rfl;exact h v xn
   simp[this]
  ·rfl
theorem Jf{kindOf:Str->Option NameKind}{x:Str}:∀{f:List (Str×Value)} {m:Str->Option Value},(∀v,(x,v)∉f)->bindC kindOf f m x=m x
 | [],_,_=>rfl
 | (n,v)::r,m,h=>by
  unfold bindC;rw[Jf fun w g=>h w (jv _ g)]
  split
  ·rfl
  ·have:x≠n:=by rintro rfl;exact h v xn
   simp[this]
theorem Je{kindOf:Str->Option NameKind}{x:Str}{v:Value}:∀{P:List Str} {f:List Value} {i:Nat} {m:Str->Option Value},P.Nodup->P[i]? =some x->f[i]? =some v->kindOf x=some .local ->
  bindL kindOf (P.zip f) m x=some v
 | [],_,_,_,_,h,_,_=>by simp at h
 | _::_,[],_,_,_,_,h,_=>by simp at h
 | p::P,w::f,0,m,l,g,j,hk=>by
  simp at g j;subst g;subst j
  show bindL kindOf ((p,w)::P.zip f) m p=_;unfold bindL;rw[Jd fun v s=>(Z1.mp l).1 (V1 s).1,zw hk]
  simp
 | p::P,w::f,i+1,m,l,g,j,hk=>by
  show bindL kindOf ((p,w)::P.zip f) m x=_;unfold bindL;exact Je (i:=i) (Z1.mp l).2 (by simpa using g) (by simpa using j) hk
theorem Jg{kindOf:Str->Option NameKind}{x:Str}{v:Value}:∀{P:List Str} {f:List Value} {i:Nat} {m:Str->Option Value},P.Nodup->P[i]? =some x->f[i]? =some v->kindOf x≠some .local ->
  bindC kindOf (P.zip f) m x=some v
 | [],_,_,_,_,h,_,_=>by simp at h
 | _::_,[],_,_,_,_,h,_=>by simp at h
 | p::P,w::f,0,m,l,g,j,hk=>by
  simp at g j;subst g;subst j
  show bindC kindOf ((p,w)::P.zip f) m p=_;unfold bindC;rw[Jf fun v s=>(Z1.mp l).1 (V1 s).1,zq hk]
  simp
 | p::P,w::f,i+1,m,l,g,j,hk=>by
  show bindC kindOf ((p,w)::P.zip f) m x=_;unfold bindC;exact Jg (i:=i) (Z1.mp l).2 (by simpa using g) (by simpa using j) hk
def yH(N:List Str)(f:List V):St:=f.map some++List.replicate (N.length-f.length) none
def zaf(l:CXT)(P:Program)(w:World)(K:W.Frag)(mg:Str->Option Value)(base:Heap)(N:List Str)(qual:Str)(scope:Scope)(f:Addr)(j:Value)(A:Around)(outer:List Env)(s:Shared)(H:Hp)(E:XK):Cx where
 prog:=P
 w:=w
 K:=K
 mg:=mg
 base:=base
 A:=A.deeper (envOfC qual scope s.heap.objs.size f j)
 N:=N
 s₀:=s
 H₀:=H
 env:=envOfC qual scope s.heap.objs.size f j
 outer:=outer
 stack:=envOfC qual scope s.heap.objs.size f j::outer
 ex:=[]
 calm:=true
 fn:=fun _=>true
 pn:=[]
 xe:=fun e B=>wpAny (model P w) (A.deeper (envOfC qual scope s.heap.objs.size f j)) (leaving (envOfC qual scope s.heap.objs.size f j) e) (fun _ g=>l outer H s E e g) (fun u g=>l outer H s E u g) B
theorem Vj{f:Scope}{n:Nat}{x:Str}(h:f.names.lookup x=some .cell):∃c,(cellsFrom n f.names []).lookup x=some c:=by
 have q:=PySem.W.cellsFrom_some f.names n [] (.inl h);exact ye.mp q
theorem Y6{T:CXT}{P:Program}{w:World}{K:W.Frag}{O:Str->Option Value}{l:Heap}{N D:List Str}{qual:Str}{scope:Scope}{f:Addr}{J:Value}{A:Around}{g:List Env}{s U:Shared}{H:Hp}{E:XK}{Q:List Value}{G:List V}
  (S:zI N D scope) (Y:A.handled=none) (B:Env0 P w K O l A g s H) (hl:G.length=D.length) (r:Vals G Q)
  (x:InCallC s s.heap.objs.size (bindL (envOfC qual scope s.heap.objs.size f J).kindOf (D.zip Q) fun _=>none) (cellsFrom (s.heap.objs.size+1) scope.names []) (bindC (envOfC qual scope s.heap.objs.size f J).kindOf (D.zip Q) fun _=>none) U) :
  Inv (zaf T P w K O l N qual scope f J A g s H E) [] (yH N G) H U:=by
 have a0:D.length<=N.length:=by have:=congrArg List.length S.pre;rw[jq] at this;omega
 obtain⟨L,tk,rfl,hk⟩:=x.done;have C:∀b:Addr,b∉(zaf T P w K O l N qual scope f J A g s H E).ex:=fun b z=>absurd (show b∈([]:List Addr) from z) (by simp)
 refine⟨⟨B.mod,S.kind,rfl,rfl,zJ _,fun y z c L j=>?_,fun y hy=>?_,fun y c _ h=>?_,fun _=>Y,Around.frames_deeper B.frames,.inr ⟨rfl,rfl⟩,fun b z=>absurd z (C b),B.bs,B.bsz,fun b _ _=>C b,fun b z=>absurd z (C b),B.funs,B.frf⟩,
  rfl,B.bare,Un.kept hk,⟨_,x.toInCall.ns,fun i y v L j h3=>?_⟩,fun y c h=>⟨_,x.cell y c h⟩,B.hok.fresh (zJ _),fun y c h=>?_,fun p hp=>absurd (show p∈([]:List (Addr×Obj)) from hp) (by simp),B.hok.kept hk,?_⟩
 ·exact name_of_addr x.apart (vt L) (vt j)
 ·have hy:scope.names.lookup y=some .cell\/scope.names.lookup y=some .free:=hy
  rcases hy with hy | hy
  ·exact Vj hy
  ·exact absurd rfl (S.nofree _ (vt hy))
 ·exact wD (x.above y c (vt h))
 ·have M:i<G.length:=by
   unfold yH at j;by_cases M:i<G.length
   ·exact M
   ·rw[wp (by simpa using M)] at j
    rw[List.getElem?_replicate] at j
    split at j<;>cases j
  have ha:G[i]? =some v:=by
   unfold yH at j;rw[yf (by simpa using M),zX] at j
   cases e:G[i]? with
   | none=>rw[e] at j;cases j
   | some a=>rw[e] at j;cases j;rfl
  obtain⟨u,hu,rv⟩:=r.get ha;have hp:D[i]? =some y:=by
   rw[<- S.pre,List.getElem?_take_of_lt (by omega)];exact L
  have I:D.Nodup:=by rw[<- S.pre];exact S.nd.sublist (List.take_sublist _ _)
  refine⟨u,rv,?_⟩
  rcases S.par y (qI hp) with k | k
  ·exact .inl ⟨k,Je I hp hu k⟩
  ·obtain⟨c,e⟩:=Vj (n:=s.heap.objs.size+1) k
   refine .inr ⟨.inl k,c,e,?_⟩
   have q:=x.cell y c e;rw[Jg I hp hu (by show scope.names.lookup y≠_;rw[k];decide)] at q
   exact q
 ·exact B.hok.fresh (wD (x.above y c (vt h)))
 ·unfold yH
  show _=N.length;rw[qG,zx,xc];omega
theorem ze3{CX:CXT}{P:Program}{w:World}{K:W.Frag}{mg:Str->Option Value}{l:Heap}{k:Nat}{f:Addr}{G qual:Str}{B:Arguments}{body:List Stmt}{scope:Scope}{dV kV T pm j ct oc:Value}{an od:Option Addr}
  {ae:Array (Option Value)} {N ps:List Str} {sp:Sp} (lk:K.lookup f=some ⟨oc,od,.func (PySem.W.fnOf G qual B body scope dV kV T pm an j ct),ae⟩) (ab:PySem.W.codeIn K j qual=true) (S:zI N ps scope)
  (aa:∀C H Q E,sp C H Q E->C.length=ps.length)
  (L:∀(A:Around) (g:List Env) (s:Shared) (H:Hp) (C:List V) (Q:VK) (E:XK),Room k (A.deeper (envOfC qual scope s.heap.objs.size f j))->sp C H Q E ->
   ∃t,PSs (zaf CX P w K mg l N qual scope f j A g s H E) body t/\t { nx:=fun _ D=>Q .non D,rt:=Q } (yH N C) H) :
  FnOk P w K mg l CX (k+1) f (PySem.W.fnOf G qual B body scope dV kV T pm an j ct) ps sp:=by
 refine⟨aa,fun A g s H args us C Q E hr U hb r a0=>?_⟩
 have hl:=aa _ _ _ _ a0;have KX:K.In s.heap:=U.mod.kin.keeps fun b o e=>(U.bs b o e).1
 have ac:s.heap.NoLimit:=U.mod.nolimit.keeps fun b o e=>(U.bs b o e).1
 have M:∀y∈ps.zip us,scope.names.lookup y.1=some .local\/(scope.names.lookup y.1=some .cell/\((cellsFrom (s.heap.objs.size+1) scope.names []).lookup y.1).isSome=true):=fun ⟨n,v⟩ hy=>by
  rcases S.par n (V1 hy).1 with q | q
  ·exact .inl q
  ·exact .inr ⟨q,PySem.W.cellsFrom_some _ _ _ (.inl q)⟩
 refine codeAny_call_function hr.depth (KX _ _ lk) rfl S.co S.gen rfl (PySem.W.codeRec_of KX ab) (hb _ _ _ _ ?_)
 refine wpAny_newFunctionEnv_cells S.kind M fun af he s1 x=>?_
 subst he;refine⟨ac.keeps x.toInCall.keep,codeAny_func ?_⟩
 obtain⟨t,ht,hq⟩:=L A g s H C Q E (hr.deeper _) a0;have I:Inv (zaf CX P w K mg l N qual scope f j A g s H E) [] (yH N C) H s1:=Y6 S hr.hd U hl r x;refine zP (ht [] s1 (yH N C) H _ I hq) (fun fl s' O=>?_) fun e s' O=>O
 have Y:∀{σ':St} {D:Hp} {v:V} {u:Value},Inv (zaf CX P w K mg l N qual scope f j A g s H E) [] σ' D s'->RelV v u->Q v D->CE g P w H s Q u s':=
  fun {σ' D v u} J rv q=>⟨v,D,J.os,J.bare,J.base,J.hok,rv,q⟩
 cases fl with
 | ret u=>
  obtain⟨v,σ',D,J,rv,q⟩:=O;exact Y J rv q
 | next=>
  obtain⟨σ',D,J,q⟩:=O;exact Y (v:=V.non) (u:=Value.none) J rfl q
 | brk=>
  obtain⟨_,_,_,q⟩:=O;exact False.elim q
 | cont=>
  obtain⟨_,_,_,q⟩:=O;exact False.elim q
section
variable{X:Cx}{x:Str}{p f:Pos}{e:Expr}{g:List Expr}{t:TA}{id T:String}{r:List V->Hp->VK->Prop}
def tCB(r:List V->Hp->VK->Prop)(t:TA):TE:=fun σ H Q=>t σ H fun l j=>r l j Q
theorem zo(hc:CallR X (.builtin id) r)(C:Gl X x)(hm:X.mg x=none)(E:bootBuiltins x=some (.builtin id))(ha:PA X (e::g) t)(D:x ≠ "__name__" :=by decide)(l:(x==("__debug__":Str))=false:=by decide)
  (B:starEach (e::g) X.env=(false,eval e X.env)::starEach g X.env:=by rfl) (u:(backTo f (starEach g X.env)).any (·.1)=false:=by rfl):PE X (.Call (.Name x p) (e::g) [] f) (tCB r t):=by
 intro j s σ H Q I h;refine wpAny_Call_Name_kw (xN I C hm E ?_ D l)
 exact PyProof.Rows.callWith_builtin1 (thn (ha f j s σ H _ I h) fun M L ⟨N,w,A,J,G⟩=>hc j L σ w N M Q A J G) B u
theorem jg(hc:CallR X (.type T) r)(C:Gl X x)(hm:X.mg x=none)(E:bootBuiltins x=some (.type T))(ha:PA X (e::g) t)(D:x ≠ "__name__" :=by decide)(l:(x==("__debug__":Str))=false:=by decide)
  (B:starEach (e::g) X.env=(false,eval e X.env)::starEach g X.env:=by rfl) (u:(backTo f (starEach g X.env)).any (·.1)=false:=by rfl):PE X (.Call (.Name x p) (e::g) [] f) (tCB r t):=by
 intro j s σ H Q I h;refine wpAny_Call_Name_kw (xN I C hm E ?_ D l)
 exact yY (thn (ha f j s σ H _ I h) fun M L ⟨N,w,A,J,G⟩=>hc j L σ w N M Q A J G) B u
end
end L2
namespace HT
open PySem PyProof.Rows
section
open PySem.SeqAt
open PySem.AutoSeq1 (wpAny_loadPart')
open PySem.MeetsSeq PySem.MeetsSeq2 PySem.MeetsSeq3
end
section
variable{f:Program}{w:World}{A:Around}{E:Value->Shared->Prop}{s:Shared}
def sIx(n d:Nat):Option Int->Nat
 | none=>d
 | some v=>if v<0 then(v+(n:Int)).toNat else min v.toNat n
theorem sIx_none(n d:Nat):sIx n d none=d:=rfl
theorem sIx_nat(n d k:Nat):sIx n d (some (k:Int))=min k n:=by
 show(if(k:Int)<0 then((k:Int)+(n:Int)).toNat else min (k:Int).toNat n)=min k n
 rw[zq (by omega),Z3]
theorem zds(n d:Nat)(j:d<=n)(o:Option Int):sIx n d o<=n:=by
 cases o with
 | none=>exact j
 | some v=>
  show(if v<0 then(v+(n:Int)).toNat else min v.toNat n)<=n
  by_cases g:v<0
  ·rw[zw g];omega
  ·rw[zq g];exact V5 _ _
theorem Yl(v:Int)(n d:Nat):(if v<0 then max (v+(n:Int)) 0 else min v (n:Int))=((sIx n d (some v):Nat):Int):=by
 show(if v<0 then max (v+(n:Int)) 0 else min v (n:Int))=(((if v<0 then(v+(n:Int)).toNat else min v.toNat n):Nat):Int)
 by_cases g:v<0
 ·simp only[zw g];omega
 ·simp only[zq g];omega
theorem Wj(lo g:Option Int)(n:Nat):Builtin.Slice.sliceAdjust lo g 1 (n:Int)=(((sIx n 0 lo:Nat):Int),((sIx n n g:Nat):Int)):=by
 have j:¬((1:Int)<0):=by omega
 unfold Builtin.Slice.sliceAdjust;simp only[j,if_false];refine Prod.ext ?_ ?_
 ·cases lo with
  | none=>rfl
  | some v=>exact Yl v n 0
 ·cases g with
  | none=>rfl
  | some v=>exact Yl v n n
theorem VH(i j:Nat):Builtin.Slice.slicePlaces (i:Int) (j:Int) 1=j-i:=by
 unfold Builtin.Slice.slicePlaces;have g:(1:Int)>0:=by omega
 simp only[g,if_true,Int.ediv_one];split<;>omega
theorem Zp{v:Value}{o:Option Int}{Q:Option Int->Shared->Prop}(p:IsPart v o)(h:Q o s):wpAny (model f w) A (Builtin.Slice.slicePartIndex v) Q E s:=by
 cases p with
 | none=>exact slicePart_none h
 | int i t=>exact slicePart_int h
theorem yj{C:Addr}{u B:Value}{lo j:Option Int}{n:Nat}{Q:Int×Int×Nat->Shared->Prop}(G:s.heap.IsSliceOf C u B .none)(H:IsPart u lo)(I:IsPart B j)
  (h:Q (((sIx n 0 lo:Nat):Int),1,sIx n n j-sIx n 0 lo) s):wpAny (model f w) A (Builtin.Slice.sliceApplied (.ref C) (pure (n:Int))) Q E s:=by
 obtain⟨os,l,D,g⟩:=id G;unfold Builtin.Slice.sliceApplied Builtin.Slice.sliceFields;refine zj (zj (xb l g (x:=u) rfl (zj (xb l g (x:=B) rfl (zj (xb l g (x:=.none) rfl (zB ?_)))))))
 refine zj (slicePart_none ?_)
 show wpAny _ _ (if((1:Int)==0)=true then _ else _) _ _ s
 rw[zq (by decide)]
 refine zj (Zp H (zj (Zp I (zj (zB ?_)))))
 show wpAny _ _ (match Builtin.Slice.sliceAdjust lo j 1 (n:Int) with | (lo,j)=>pure (lo,(1:Int),Builtin.Slice.slicePlaces lo j 1)) _ _ s
 rw[Wj lo j n];show wpAny _ _ (pure (((sIx n 0 lo:Nat):Int),(1:Int),Builtin.Slice.slicePlaces ((sIx n 0 lo:Nat):Int) ((sIx n n j:Nat):Int) 1)) _ _ s;rw[VH];exact zB h
theorem za0(g:Array Value)(i k:Nat):((List.range k).filterMap fun(m:Nat)=>g[((i:Int)+(m:Int)*1).toNat]?).toArray=((g.toList.drop i).take k).toArray:=by
 have e:(fun(m:Nat)=>g[((i:Int)+(m:Int)*1).toNat]?)=fun m=>g[i+m]?:=by
  funext m
  have:((i:Int)+(m:Int)*1).toNat=i+m:=by omega
  rw[this]
 rw[e];have:=pick_run g i k;rw[List.filterMap_map] at this;have j:((fun x=>g[x]?)∘fun x=>i+x)=fun m=>g[i+m]?:=rfl
 rw[j] at this;rw[this]
theorem getItem_tuple_cut{t H:Addr}{g:Array Value}{L M:Value}{lo l:Option Int}{Q:Value->Shared->Prop}(u:IsTup s.heap t g)(I:s.heap.IsSliceOf H L M .none)(U:IsPart L lo)(Y:IsPart M l)
  (T:¬(sIx g.size 0 lo=0/\sIx g.size g.size l=g.size))
  (h:Q (.ref s.heap.objs.size) { s with heap:=s.heap.push { cls:=.type "tuple",data:=.seq ((g.toList.drop (sIx g.size 0 lo)).take (sIx g.size g.size l-sIx g.size 0 lo)).toArray } })
  (O:g.size<=sizeLine):wpAny (model f w) A (getItem (.ref t) (.ref H)) Q E s:=by
 have j:sizeOk (.seq ((g.toList.drop (sIx g.size 0 lo)).take (sIx g.size g.size l-sIx g.size 0 lo)).toArray):=by
  show((g.toList.drop (sIx g.size 0 lo)).take (sIx g.size g.size l-sIx g.size 0 lo)).toArray.size<=sizeLine;rw[qF,jq,wZ,yX];omega
 have hj:sIx g.size g.size l<=g.size:=zds _ _ (zJ _) l;obtain⟨os,G,C,N⟩:=id I;have B:s.TypeIs (.ref H) "slice" :=⟨os,G,C⟩;unfold getItem;try with_reducible refine wg ?_
 first| refine zj (zB ?_) | skip
 refine zj (wpAny_sequenceKey u.typeIs (by decide) ?_)
 refine zj (yc (name:=Str.ofString "__getitem__") u.typeIs Wi
  (wm Wi u.typeIs entry_tuple_getitem ?_ (args_tuple_getitem _ _)))
 show wpAny _ _ (Builtin.Tuple.tupleItemsOf (.ref t) >>= _) _ _ s;refine zj (tupleItemsOf_ u ?_)
 refine zj (wpAny_typeOf B ?_)
 rw[zw (by decide)]
 refine zj (yj I U Y ?_)
 have D:¬((((sIx g.size 0 lo:Nat):Int)==0&&(1:Int)==1&&(sIx g.size g.size l-sIx g.size 0 lo)==g.size)=true):=by
  intro q;rw[jn,jn] at q;have q1:((sIx g.size 0 lo:Nat):Int)=0:=eq_of_beq q.1.1;have q2:sIx g.size g.size l-sIx g.size 0 lo=g.size:=eq_of_beq q.2;exact T ⟨by omega,by omega⟩
 show wpAny _ _ (if(((sIx g.size 0 lo:Nat):Int)==0&&(1:Int)==1&&(sIx g.size g.size l-sIx g.size 0 lo)==g.size)=true then _ else _) _ _ s
 rw[zq D,za0];first
  | exact zj (m:=Builtin.Tuple.tupleExact _) (x5 (zB ⟨_,rfl,zB h⟩) j)
  | exact zj (m:=Builtin.Tuple.tupleExact _) (x5 (zj (zB (zB ⟨_,rfl,zB h⟩))) j)
  | exact zj (zj (m:=Builtin.Tuple.tupleExact _) (x5 (zB (zB ⟨_,rfl,zB h⟩)) j))
  | exact zj (zj (m:=Builtin.Tuple.tupleExact _) (x5 (zB ⟨_,rfl,zB h⟩) j))
end
end HT
namespace L2
open PySem PySem.Spec PyProof.Rows
abbrev TO:=St->Hp->(Option Int->Hp->Prop)->Prop
def PO(X:Cx)(e:Option Expr)(t:TO):Prop:=
 ∀(f:List (Addr×Obj)) (s:Shared) (σ:St) (H:Hp) (Q:Option Int->Hp->Prop),Inv X f σ H s->t σ H Q ->
  wpAny (model X.prog X.w) X.A (evalPart e X.env) (fun u j=>∃o g,Inv X f σ g j/\IsPart u o/\Q o g) X.xe s
def zbY:TO:=fun _ H Q=>Q none H
def zeo(t:TE):TO:=fun σ H Q=>t σ H fun x f=>IsI x f fun i f=>Q (some i) f
section
variable{X:Cx}{e:Expr}{g:TE}{lo f:Option Expr}{w j:TO}{A B:Pos}
theorem j4:PO X none zbY:=by
 intro l s σ H Q I h;rw[evalPart_none];exact zB ⟨none,H,I,.none,h⟩
theorem qX(h:PE X e g):PO X (some e) (zeo g):=by
 intro l s σ H Q I E;rw[evalPart_some];refine thn (h l s σ H _ I E) fun u L ⟨x,C,D,J,G⟩=>?_
 obtain⟨i,rfl,q⟩:=G;obtain⟨t,rfl⟩:=J;exact⟨some i,C,D,.int i t,q⟩
def SlR(X:Cx)(r:V->Option Int->Option Int->Hp->VK->Prop):Prop:=
 ∀(l:List (Addr×Obj)) (s:Shared) (σ:St) (H:Hp) (x:V) (v C D:Value) (lo f:Option Int) (u:Addr) (Q:VK),Inv X l σ H s->RelV x v->s.heap.IsSliceOf u C D .none->IsPart C lo->IsPart D f->r x lo f H Q ->
  ∃T id,typeLookup (.type T) "__getitem__" = pure (some (.builtin id))/\s.TypeIs v T/\wpAny (model X.prog X.w) X.A (getItem v (.ref u)) (EP X l σ Q) X.xe s
theorem SlR.or{r E:V->Option Int->Option Int->Hp->VK->Prop}(h:SlR X r)(N:SlR X E):SlR X (fun x lo f H Q=>r x lo f H Q\/E x lo f H Q):=by
 intro l s σ H x v L M lo f J Q I G u C D q;rcases q with q | q
 ·exact h l s σ H x v L M lo f J Q I G u C D q
 ·exact N l s σ H x v L M lo f J Q I G u C D q
def tSl(r:V->Option Int->Option Int->Hp->VK->Prop)(g:TE)(w j:TO):TE:=fun σ H Q=>g σ H fun x s=>w σ s fun l C=>j σ C fun u D=>r x l u D Q
theorem ja{r:V->Option Int->Option Int->Hp->VK->Prop}(hr:SlR X r)(he:PE X e g)(hl:PO X lo w)(hu:PO X f j):PE X (.Subscript e (.Slice lo f none B) A) (tSl r g w j):=by
 intro C s σ H Q I h;refine Subscript_ (thn (he C s σ H _ I h) fun v s1 ⟨x,L,N,r1,q1⟩=>?_)
 refine wpAny_Slice (thn (hl C s1 σ L _ N q1) fun E s2 ⟨l,M,O,pl,q2⟩=>thn (hu C s2 σ M _ O q2) fun G D ⟨u,J,U,pu,q3⟩=>?_)
 rw[evalPart_none];refine zB ?_
 have Y:Inv X C σ J { D with heap:=D.heap.push { cls:=.type "slice",data:=.fields #[E,G,.none] } }:=U.kept (t':=D.toks) fun b ob q=>qd _ q
 obtain⟨T,id,hT,ht,hg⟩:=hr C { D with heap:=D.heap.push { cls:=.type "slice",data:=.fields #[E,G,.none] } } σ J x v E G l u D.heap.objs.size Q Y r1 (Heap.IsSliceOf.new ..) pl pu q3;show wpAny (model X.prog X.w) X.A (subscriptTail e (.Slice lo f none B) v (.ref D.heap.objs.size)) (EP X C σ Q) X.xe { D with heap:=D.heap.push { cls:=.type "slice",data:=.fields #[E,G,.none] } };exact tail_any (ops:=[.ref D.heap.objs.size,v]) ht hT hg (by with_unfolding_all rfl)
def qk(l:List V)(lo f:Option Int):List V:=(l.drop (HT.sIx l.length 0 lo)).take (HT.sIx l.length l.length f-HT.sIx l.length 0 lo)
theorem yM(l:List V)(lo f:Option Int):(qk l lo f).length<=l.length:=by
 unfold qk;rw[jq,wZ];omega
inductive zdu(K:W.Frag)(x:V)(lo:Option Int)(f:Option Int)(H:Hp)(Q:VK):Prop
 | mk (a l:_) (_:x=.ref a) (_:SqT K H a l) (_:¬(HT.sIx l.length 0 lo=0/\HT.sIx l.length l.length f=l.length)) (_:∀p,H p=none->Q (.ref p) (upd H p (.tup (qk l lo f)))):zdu K x lo f H Q
theorem zdq:SlR X (zdu X.K):=by
 intro E s σ H x v Y vu lo f T Q I N G L M h;obtain⟨a,u,rfl,hx,J,q⟩:=h;cases N;obtain⟨C,r,D,hz⟩:=I.tuple hx;have l:C.toArray.size=u.length:=by rw[qF];exact r.length.symm
 refine⟨"tuple",_,Wi.lookup,D.typeIs,?_⟩
 refine HT.getItem_tuple_cut D G L M (by rw[l];exact J) ?_ (by rw[l];exact hz)
 rw[l];refine⟨.ref s.heap.objs.size,_,I.laid (t':=s.toks) (o:=.tup (qk u lo f)) (fun b O q=>qd _ q) (zJ _) ?_,rfl,q _ (I.hok.fresh (zJ _))⟩
 exact⟨jm (yM u lo f) hz,_,(r.drop (HT.sIx u.length 0 lo)).take (HT.sIx u.length u.length f-HT.sIx u.length 0 lo),⟨IsTup.new _ _,_,qy _ rfl,rfl⟩⟩
end
def ixN(n:Nat)(i:Int):Option Nat:=if 0<=i then(if i<n then some i.toNat else none) else if -(n:Int)<=i then some (i+n).toNat else none
def atI{α:Type}(f:List α)(i:Int):Option α:=(ixN f.length i).bind fun j=>f[j]?
theorem Yb{n:Nat}{i:Int}{j:Nat}(h:ixN n i=some j):seqIndex? i n=some j/\j<n/\ -(n:Int)<=i/\i<n:=by
 unfold ixN at h;by_cases g:0<=i
 ·rw[zw g] at h
  by_cases f:i<n
  ·rw[zw f] at h
   have e:i.toNat=j:=qW h;exact⟨by rw[seqIndex_of g f,e],by omega,by omega,f⟩
  ·rw[zq f] at h;cases h
 ·rw[zq g] at h
  by_cases f:-(n:Int)<=i
  ·rw[zw f] at h
   have e:(i+n).toNat=j:=qW h;exact⟨by rw[seqIndex_neg (by omega) f,e],by omega,f,by omega⟩
  ·rw[zq f] at h;cases h
theorem JX{α:Type}{f:List α}{i:Int}{v:α}(h:atI f i=some v):∃j,seqIndex? i f.length=some j/\f[j]? =some v/\j<f.length/\ -(f.length:Int)<=i/\i<f.length:=by
 unfold atI at h;cases e:ixN f.length i with
 | none=>rw[e] at h;cases h
 | some j=>
  rw[e] at h;obtain⟨g,l,s,u⟩:=Yb e;exact⟨j,g,h,l,s,u⟩
theorem qP{α:Type}{xs:List α}{j:Nat}{v:α}(h:xs[j]? =some v):atI xs (j:Int)=some v:=by
 have f:j<xs.length:=(zZ.mp h).1;have e:ixN xs.length (j:Int)=some j:=by
  unfold ixN;rw[zw (by omega),zw (by omega)];simp
 unfold atI;rw[e];exact h
theorem vN{α:Type}(f:List α)(v:α):atI (f++[v]) (-1)=some v:=by
 have g:(f++[v]).length=f.length+1:=by simp
 have e:ixN (f++[v]).length (-1)=some f.length:=by
  unfold ixN;rw[g,zq (by decide),zw (by omega)]
  congr 1
  omega
 unfold atI;rw[e];show(f++[v])[f.length]? =some v;simp
def zcQ(b:Expr):Prop:=∀o i,subscripted b false o i=operate [o,i] (getItem o i)
def IxR(X:Cx)(r:R2):Prop:=
 ∀(j f:Expr) (g:List (Addr×Obj)) (s:Shared) (σ:St) (H:Hp) (x y:V) (v u:Value) (Q:VK),Inv X g σ H s->RelV x v->RelV y u->r x y H Q ->
  subscripted f false v u=operate [v,u] (getItem v u)->wpAny (model X.prog X.w) X.A (subscriptTail j f v u) (EP X g σ Q) X.xe s
def MtR(X:Cx)(id:String)(r:V->List V->Hp->VK->Prop):Prop:=
 ∀(f:List (Addr×Obj)) (s:Shared) (σ:St) (H:Hp) (x:V) (j:List V) (v:Value) (g:List Value) (Q:VK),Inv X f σ H s->RelV x v->Vals j g->r x j H Q ->
  wpAny (model X.prog X.w) X.A (call (.builtin id) (v::g)) (EP X f σ Q) X.xe s
section
variable{X:Cx}{a b:Expr}{G J:TE}{E:Pos}
theorem IxR.or{r A:R2}(h:IxR X r)(N:IxR X A):IxR X (fun x y H Q=>r x y H Q\/A x y H Q):=by
 intro j f l s σ H x y v u Q I L M q w;rcases q with q | q
 ·exact h j f l s σ H x y v u Q I L M q w
 ·exact N j f l s σ H x y v u Q I L M q w
theorem MtR.or{id:String}{r l:V->List V->Hp->VK->Prop}(h:MtR X id r)(L:MtR X id l):MtR X id (fun x j H Q=>r x j H Q\/l x j H Q):=by
 intro f s σ H x j v A Q I w u q;rcases q with q | q
 ·exact h f s σ H x j v A Q I w u q
 ·exact L f s σ H x j v A Q I w u q
theorem zy{r:R2}(w:IxR X r)(ha:PE X a G)(hb:PE X b J)(A:zcQ b):PE X (.Subscript a b E) (tOp r G J):=by
 intro f s σ H Q I h;exact Subscript_ (zei ha hb I h fun v u N x y j l L M q=>w a b f N σ j x y v u Q l L M q (A _ _))
inductive zdw(K:W.Frag)(x:V)(y:V)(H:Hp)(Q:VK):Prop
 | mk (p f i v:_) (_:x=.ref p) (_:y=.int i) (_:SqL K H p f) (_:atI f i=some v) (_:Q v H):zdw K x y H Q
inductive zdv(K:W.Frag)(x:V)(y:V)(H:Hp)(Q:VK):Prop
 | mk (p f i v:_) (_:x=.ref p) (_:y=.int i) (_:SqT K H p f) (_:atI f i=some v) (_:Q v H):zdv K x y H Q
inductive zeI(x:V)(y:V)(H:Hp)(Q:VK):Prop
 | mk (z i c:_) (_:x=.str z) (_:y=.int i) (_:z.length<=sizeLine) (_:atI z.cps.toList i=some c) (_:Q (.str ⟨#[c]⟩) H):zeI  x y H Q
theorem zH:IxR X (zdw X.K):=by
 intro Y U f s σ H x y v u Q I rx ry h hs;obtain⟨p,xs,i,z,rfl,rfl,hq,he,q⟩:=h;cases rx;obtain⟨t,rfl⟩:=ry;obtain⟨M,r,N,hz⟩:=I.list hq;obtain⟨j,A,h2,h3,h4,h5⟩:=JX he;obtain⟨w,ew,O⟩:=r.get h2;have hl:=r.length;have hn:=ZE;have l:EP X f σ Q w s:=⟨z,H,I,O,q⟩;by_cases h0:0<=i
 ·have L:i.toNat=j:=by
   rw[seqIndex_of h0 h5] at A;exact qW A
  exact item_listR N.isList h0 (by omega) (by rw[L];simpa using ew) l hs
 ·have L:(i+(M.toArray.size:Int)).toNat=j:=by
   rw[seqIndex_neg (by omega) h4] at A
   rw[qF,<- hl];exact qW A
  exact subscriptTail_builtinR (x:=w) N.isList.typeIs slot_list_getitem.lookup
   (wpAny_getItem_list_neg (Q:=fun r s'=>r=w/\EP X f σ Q r s') N.isList (by omega) (by rw[qF]<;>omega) (by omega) (by rw[L];simpa using ew) ⟨rfl,l⟩) hs
theorem qh:IxR X (zdv X.K):=by
 intro M L f s σ H x y v u Q I rx ry h hs;obtain⟨p,xs,i,z,rfl,rfl,hq,he,q⟩:=h;cases rx;obtain⟨t,rfl⟩:=ry;obtain⟨a0,r,N,hz⟩:=I.tuple hq;obtain⟨j,U,Y,h3,h4,h5⟩:=JX he;obtain⟨w,O,A⟩:=r.get Y;have hl:=r.length;have hn:=ZE;have l:EP X f σ Q w s:=⟨z,H,I,A,q⟩;exact subscriptTail_builtinR (x:=w) N.typeIs slot_tuple_getitem.lookup
  (getItem_tuple (j:=j) (Q:=fun r s'=>r=w/\EP X f σ Q r s') N (by omega) (by omega) (by rw[qF,<- hl];exact U) (by simpa using O) ⟨rfl,l⟩) hs
theorem zd8:IxR X zeI:=by
 intro l f A s σ H x y v u Q I rx ry h hs;obtain⟨z,i,c,rfl,rfl,hz,Y,q⟩:=h;obtain⟨t,rfl⟩:=rx;obtain⟨t',rfl⟩:=ry;obtain⟨j,w,N,h3,O,U⟩:=JX Y;have hl:z.cps.toList.length=z.length:=by simp[Str.length]
 rw[hl] at w O U;have hn:=ZE;exact tail_any (typeIs_str s z t) slot_str_getitem.lookup (getItem_str (c:=c) (by
  have L:decide (i< -(2^63:Int))=false:=jG (by omega)
  have M:decide (i≥2^63)=false:=jG (by omega)
  rw[L,M,Bool.or_false]) (by rw[w];simpa using N) ⟨.str ⟨#[c]⟩,H,I.tok _,⟨_,rfl⟩,q⟩) hs
theorem VQ(f:List Value)(n j:Nat)(u:Value):Obj.mapSeq (·.setIfInBounds j u) { cls:=.type "list",data:=.seq f.toArray n }={ cls:=.type "list",data:=.seq (f.set j u).toArray n }:=by
 simp[Obj.mapSeq]
theorem Inv.lst{j:List (Addr×Obj)}{σ:St}{H:Hp}{s:Shared}{p:Addr}{l:List V}(I:Inv X j σ H s)(h:H p=some (.lst l)) :
  ∃(f:List Value) (n:Nat),Vals l f/\s.heap.get? p=some { cls:=.type "list",data:=.seq f.toArray n }/\l.length<=sizeLine:=by
 obtain⟨z,f,n,r,e⟩:=I.hok p _ h;exact⟨f,n,r,e,z⟩
theorem Inv.lstUpd{l:List (Addr×Obj)}{σ:St}{H:Hp}{s:Shared}{p:Addr}{N L:List V}{w j:List Value}{n A:Nat}{f:Obj->Obj}(I:Inv X l σ H s)(h:H p=some (.lst N))
  (M:s.heap.get? p=some { cls:=.type "list",data:=.seq w.toArray n }) (hf:f { cls:=.type "list",data:=.seq w.toArray n }={ cls:=.type "list",data:=.seq j.toArray A }) (r:Vals L j) (hz:L.length<=sizeLine) (t:Nat) :
  Inv X l σ (upd H p (.lst L)) { s with heap:=s.heap.update p f,toks:=t }:=by
 have e:(s.heap.update p f).get? p=some { cls:=.type "list",data:=.seq j.toArray A }:=by
  rw[We f M (by rw[hf]<;>rfl),hf]
 refine I.write (x:=p) (e:=p) (by rw[h];trivial) (.inl rfl) (fun b u hb q=>(Heap.get?_update_other _ _ (qB hb)).trans q) ⟨_,e⟩ ?_
 exact⟨hz,j,A,r,e⟩
inductive zc8(o:V)(i:V)(v:V)(H:Hp)(Q:Hp->Prop):Prop
 | mk (p f k j:_) (_:o=.ref p) (_:i=.int k) (_:H p=some (.lst f)) (_:ixN f.length k=some j) (_:Q (upd H p (.lst (f.set j v)))):zc8  o i v H Q
theorem wI:zfa X zc8:=by
 intro l s σ H o i v ov iv u Q I ro ri rv h;obtain⟨p,xs,k,j,rfl,rfl,hp,Y,q⟩:=h;cases ro;obtain⟨t,rfl⟩:=ri;obtain⟨f,n,r,L,hz⟩:=I.lst hp;obtain⟨w,h2,O,U⟩:=Yb Y;have A:=r.length;have hn:=ZE;have M:Inv X l σ (upd H p (.lst (xs.set j v))) { s with heap:=s.heap.update p (Obj.mapSeq (·.setIfInBounds j u)) }:=
  I.lstUpd hp L (VQ f n j u) (r.set rv j) (by rw[V0];exact hz) s.toks
 by_cases N:0<=k
 ·have hk:k.toNat=j:=by
   rw[seqIndex_of N U] at w;exact qW w
  exact PySem.W.ki_setAt L N (by omega) (by rw[qF,<- A];exact U) (by rw[hk];exact⟨_,M,q⟩)
 ·have hk:(k+(f.toArray.size:Int)).toNat=j:=by
   rw[seqIndex_neg (by omega) O] at w
   rw[qF,<- A];exact qW w
  exact PySem.W.ki_setBack L (by omega) (by rw[qF,<- A];exact O) (by omega) (by rw[hk];exact⟨_,M,q⟩)
theorem Jt(lo f:Option Int)(n:Nat):(sliceBounds lo f none n).1=((HT.sIx n 0 lo:Nat):Int)/\(sliceBounds lo f none n).2.1=((HT.sIx n n f:Nat):Int)/\(sliceBounds lo f none n).2.2=1:=by
 refine⟨?_,?_,rfl⟩
 ·cases lo with
  | none=>simp[sliceBounds,HT.sIx]
  | some i=>
   simp only[sliceBounds,HT.sIx,Option.getD_none,show(1:Int)>0 by decide,if_true]
   by_cases h:i<0
   ·simp only[h,if_true]<;>omega
   ·simp only[h,if_false]<;>omega
 ·cases f with
  | none=>simp[sliceBounds,HT.sIx]
  | some i=>
   simp only[sliceBounds,HT.sIx,Option.getD_none,show(1:Int)>0 by decide,if_true]
   by_cases h:i<0
   ·simp only[h,if_true]<;>omega
   ·simp only[h,if_false]<;>omega
theorem Qh(f:List Value)(lo j:Option Int):slicePick f.toArray lo j none=((f.drop (HT.sIx f.length 0 lo)).take (HT.sIx f.length f.length j-HT.sIx f.length 0 lo)).toArray:=by
 obtain⟨l,s,u⟩:=Jt lo j f.toArray.size;unfold slicePick;rw[l,s,u];simp only[sliceRange_one,pick_run,qF]<;>rfl
inductive zeG(K:W.Frag)(x:V)(lo:Option Int)(f:Option Int)(H:Hp)(Q:VK):Prop
 | mk (a j:_) (_:x=.ref a) (_:SqL K H a j) (_:∀p,H p=none->Q (.ref p) (upd H p (.lst (qk j lo f)))):zeG K x lo f H Q
theorem jI:SlR X (zeG X.K):=by
 intro w s σ H x v vl vu lo l Y Q I O A M N h;obtain⟨a,f,rfl,hx,q⟩:=h;cases O;obtain⟨L,r,u,hz⟩:=I.list hx;have j:=r.length;refine⟨"list",_,slot_list_getitem.lookup,u.isList.typeIs,?_⟩
 refine wpAny_getItem_list_slice u.isList A M N .none (by simp) ?_ (by rw[qF]<;>omega)
 rw[Qh,<- j];refine⟨.ref s.heap.objs.size,_,I.laid (t':=s.toks) (o:=.lst (qk f lo l)) (fun b U q=>qd _ q) (zJ _) ?_,rfl,q _ (I.hok.fresh (zJ _))⟩
 exact⟨jm (yM f lo l) hz,_,0,(r.drop (HT.sIx f.length 0 lo)).take (HT.sIx f.length f.length l-HT.sIx f.length 0 lo),qy _ rfl⟩
def jR:V->Bool
 | .non=>true
 | .bl _=>true
 | .int _=>true
 | .str _=>true
 | _=>false
def eqV:V->V->Bool
 | .non,.non=>true
 | .bl a,.bl b=>a==b
 | .bl a,.int b=>(if a then 1 else 0)==b
 | .int a,.bl b=>a==(if b then 1 else 0)
 | .int a,.int b=>a==b
 | .str a,.str b=>a==b
 | _,_=>false
theorem JM{A:Around}{s:Shared}{y x:V}{u v:Value}(w:RelV y u)(f:RelV x v)(H:jR y=true)(l:jR x=true):SeqAt.EqAt A s u v (eqV y x):=by
 cases y with
 | non=>
  cases w;cases x with
  | non=>cases f;exact SeqAt.EqAt.same _
  | bl b=>cases f;exact SeqAt.EqAt.none_bool b
  | int b=>obtain⟨t,rfl⟩:=f;exact SeqAt.EqAt.none_int b t
  | str b=>obtain⟨t,rfl⟩:=f;exact SeqAt.EqAt.none_str b t
  | _=>exact absurd (show false=true from l) qx
 | bl a=>
  cases w;cases x with
  | non=>cases f;exact SeqAt.EqAt.bool_none a
  | bl b=>cases f;exact SeqAt.EqAt.bool_bool a b
  | int b=>obtain⟨t,rfl⟩:=f;exact SeqAt.EqAt.bool_int a b t
  | str b=>obtain⟨t,rfl⟩:=f;exact SeqAt.EqAt.bool_str a b t
  | _=>exact absurd (show false=true from l) qx
 | int a=>
  obtain⟨j,rfl⟩:=w;cases x with
  | non=>cases f;exact SeqAt.EqAt.int_none a j
  | bl b=>cases f;exact SeqAt.EqAt.int_bool a j b
  | int b=>obtain⟨t,rfl⟩:=f;exact SeqAt.EqAt.int_int a j b t
  | str b=>obtain⟨t,rfl⟩:=f;exact SeqAt.EqAt.int_str a j b t
  | _=>exact absurd (show false=true from l) qx
 | str a=>
  obtain⟨j,rfl⟩:=w;cases x with
  | non=>cases f;exact SeqAt.EqAt.str_none a j
  | bl b=>cases f;exact SeqAt.EqAt.str_bool a j b
  | int b=>obtain⟨t,rfl⟩:=f;exact SeqAt.EqAt.str_int a j b t
  | str b=>obtain⟨t,rfl⟩:=f;exact SeqAt.EqAt.str_str a j b t
  | _=>exact absurd (show false=true from l) qx
 | _=>exact absurd (show false=true from H) qx
def eqU(x:V)(u:Value):Bool:=match u with
 | .none=>eqV .non x
 | .bool b=>eqV (.bl b) x
 | .int i _=>eqV (.int i) x
 | .str z _=>eqV (.str z) x
 | _=>false
theorem zbv{x y:V}{u:Value}(r:RelV y u)(f:jR y=true):eqU x u=eqV y x:=by
 cases y with
 | non=>cases r;rfl
 | bl b=>cases r;rfl
 | int i=>obtain⟨t,rfl⟩:=r;rfl
 | str z=>obtain⟨t,rfl⟩:=r;rfl
 | _=>exact absurd (show false=true from f) qx
theorem wV{x:V}:∀{j:List V} {l:List Value},Vals j l->j.all jR=true->l.any (eqU x)=j.any fun y=>eqV y x
 | _,_,.nil,_=>rfl
 | y::j,u::l,.cons r t,f=>by
  rw[List.all_cons,jn] at f;rw[wW,wW,zbv r f.1,wV t f.2]
theorem vG{A:Around}{s:Shared}{x:V}{v:Value}(H:RelV x v)(w:jR x=true):∀{l:List V} {j:List Value},Vals l j->l.all jR=true->∀u∈j,SeqAt.EqAt A s u v (eqU x u)
 | _,_,.nil,_=>fun u hu=>by cases hu
 | y::l,u::j,.cons r t,f=>fun I hu=>by
  rw[List.all_cons,jn] at f;rcases zW.mp hu with rfl | hu
  ·rw[zbv r f.1];exact JM r H f.1 w
  ·exact vG H w t f.2 I hu
def inV(x:V)(f:List V):Bool:=f.any fun y=>eqV y x
inductive rIn(K:W.Frag)(f:Bool)(x:V)(y:V)(H:Hp)(Q:VK):Prop
 | mk (p j:_) (_:y=.ref p) (_:(SqL K H p j\/SqT K H p j)) (_:jR x=true) (_:j.all jR=true) (_:Q (.bl (if f then !inV x j else inV x j)) H):rIn K f x y H Q
theorem vR:OpR X (compareOp .In) (rIn X.K false):=by
 intro M s σ H x y v u Q I N O h;obtain⟨p,U,rfl,hq,L,j,q⟩:=h;cases O;rcases hq with hq | hq
 ·obtain⟨f,r,A,hz⟩:=I.list hq
  refine SeqAt.in_listAt (eqU x) A.isList (fun w l=>vG N L r j w (by simpa using l)) ⟨.bl _,H,I,rfl,?_⟩
  rw[show f.toArray.any (eqU x)=f.any (eqU x) by simp,wV r j]
  exact q
 ·obtain⟨f,r,A,hz⟩:=I.tuple hq
  refine SeqAt.in_tupleAt (eqU x) A (fun w l=>vG N L r j w (by simpa using l)) ⟨.bl _,H,I,rfl,?_⟩
  rw[show f.toArray.any (eqU x)=f.any (eqU x) by simp,wV r j]
  exact q
theorem JA:OpR X (compareOp .NotIn) (rIn X.K true):=by
 intro M s σ H x y v u Q I N O h;obtain⟨p,U,rfl,hq,L,j,q⟩:=h;cases O;rcases hq with hq | hq
 ·obtain⟨f,r,A,hz⟩:=I.list hq
  refine SeqAt.notIn_listAt (eqU x) A.isList (fun w l=>vG N L r j w (by simpa using l)) ⟨.bl _,H,I,rfl,?_⟩
  rw[show f.toArray.any (eqU x)=f.any (eqU x) by simp,wV r j]
  exact q
 ·obtain⟨f,r,A,hz⟩:=I.tuple hq
  refine SeqAt.notIn_tupleAt (eqU x) A (fun w l=>vG N L r j w (by simpa using l)) ⟨.bl _,H,I,rfl,?_⟩
  rw[show f.toArray.any (eqU x)=f.any (eqU x) by simp,wV r j]
  exact q
inductive xF(K:W.Frag)(j:List V)(H:Hp)(Q:VK):Prop
 | mk (p f:_) (_:j=[.ref p]) (_:(SqL K H p f\/SqT K H p f)) (_:Q (.int f.length) H):xF K j H Q
theorem zA:CallR X (.builtin "len") (xF X.K):=by
 intro A s σ H U O Q I r h;obtain⟨p,L,rfl,hq,q⟩:=h;obtain⟨u,rfl,M⟩:=vy r;cases M;have N:=ZE;rcases hq with hq | hq
 ·obtain⟨j,w,l,hz⟩:=I.list hq
  have f:=w.length;exact Calls.call_len_list l.isList (by simp only[qF]<;>omega) ⟨.int L.length,H,I.tok _,⟨s.toks+1,by rw[qF,f]⟩,q⟩
 ·obtain⟨j,w,l,hz⟩:=I.tuple hq
  have f:=w.length;exact len_tuple l (by simp only[qF]<;>omega) ⟨.int L.length,H,I.tok _,⟨s.toks+1,by rw[qF,f]⟩,q⟩
theorem CallR.or{f:Value}{r u:List V->Hp->VK->Prop}(h:CallR X f r)(L:CallR X f u):CallR X f (fun l H Q=>r l H Q\/u l H Q):=by
 intro j s σ H l A Q I w q;rcases q with q | q
 ·exact h j s σ H l A Q I w q
 ·exact L j s σ H l A Q I w q
inductive vP(K:W.Frag)(j:List V)(H:Hp)(Q:VK):Prop
 | mk (p f:_) (_:j=[.ref p]) (_:(SqL K H p f\/SqT K H p f)) (_:∀l,H l=none->Q (.ref l) (upd H l (.lst f))):vP K j H Q
theorem JS:CallR X (.type "list") (vP X.K):=by
 intro N s σ H xs us Q I r h;obtain⟨p,ys,rfl,hq,q⟩:=h;obtain⟨u,rfl,rx⟩:=vy r;cases rx;have A:∀(f:List Value),Vals ys f->ys.length<=sizeLine->∀(j:Heap) (l:Nat),(∀b o',s.heap.get? b=some o'->j.get? b=some o') ->
   j.get? s.heap.objs.size=some { cls:=.type "list",dict:=none,data:=.seq f.toArray l,slots:=#[] }->EP X N σ Q (.ref s.heap.objs.size) { s with heap:=j }:=fun f w hz j l M e=>
  ⟨.ref s.heap.objs.size,_,I.laid (t':=s.toks) M (zJ _) (show ObjOk X.prog X.w _ j _ (.lst ys) from ⟨hz,f,l,w,e⟩),rfl,q _ (I.hok.fresh (zJ _))⟩
 rcases hq with hq | hq
 ·obtain⟨f,w,Y,hz⟩:=I.list hq
  have L:=w.length;obtain⟨o,U,hc,n,O⟩:=Y.isList;exact call_list_seq p (.inl rfl) U hc O (fun j l M e=>A f w hz j l M e) (by simp only[qF]<;>omega)
 ·obtain⟨f,w,Y,hz⟩:=I.tuple hq
  have L:=w.length;obtain⟨o,U,hc,n,O⟩:=Y;exact call_list_seq p (.inr rfl) U hc O (fun j l M e=>A f w hz j l M e) (by simp only[qF]<;>omega)
inductive vw(K:W.Frag)(j:List V)(H:Hp)(Q:VK):Prop
 | mk (p f:_) (_:j=[.ref p]) (_:((SqL K H p f/\∀l,H l=none->Q (.ref l) (upd H l (.tup f)))\/(SqT K H p f/\Q (.ref p) H))):vw K j H Q
theorem xO:CallR X (.type "tuple") (vw X.K):=by
 intro f s σ H xs us Q I r h;obtain⟨p,N,rfl,h⟩:=h;obtain⟨u,rfl,Y⟩:=vy r;cases Y;rcases h with ⟨hq,q⟩ | ⟨hq,q⟩
 ·obtain⟨j,A,w,hz⟩:=I.list hq
  have M:=A.length;refine call_tuple_list w.isList (fun l U=>?_) (by simp only[qF]<;>omega)
  have L:Inv X f σ H { s with heap:=l }:=I.kept (t':=s.toks) U;have O:Inv X f σ (upd H l.objs.size (.tup N)) { s with heap:=l.push { cls:=.type "tuple",data:=.seq j.toArray } }:=
   L.laid (t':=s.toks) (fun b o e=>qd _ e) (zJ _) (show ObjOk X.prog X.w _ _ _ (.tup N) from ⟨hz,j,A,⟨IsTup.new _ _,_,qy _ rfl,rfl⟩⟩)
  exact⟨.ref l.objs.size,_,O,rfl,q _ (L.hok.fresh (zJ _))⟩
 ·obtain⟨j,A,w,hz⟩:=I.tuple hq
  exact call_tuple_same w ⟨.ref p,H,I,rfl,q⟩
def tyV(K:W.Frag)(T:String)(x:V)(H:Hp):Prop:=match x with
 | .str _=>T = "str"
 | .int _=>T = "int"
 | .ref p=>(T = "list" /\ ∃j,SqL K H p j)\/(T = "tuple" /\ ∃o,K.lookup p=some o/\o.cls=.type "tuple" /\ o.dict=none) \/
   (T = "dict" /\ ((∃f,H p=some (.dK f))\/∃f,H p=some (.dT f)))\/(T = "set" /\ ∃S n,H p=some (.set S n))
 | _=>False
theorem zdh{j:List (Addr×Obj)}{σ:St}{H:Hp}{s:Shared}{T:String}{x:V}{v:Value}(I:Inv X j σ H s)(r:RelV x v)(ty:tyV X.K T x H) :
  s.TypeIs v T/\∀a,v=.ref a->∃A,s.heap.get? a=some A/\A.dict=none:=by
 cases x with
 | str z=>
  obtain⟨t,rfl⟩:=r;cases(show T = "str" from ty)
  exact⟨typeIs_str s z t,fun _ e=>nomatch e⟩
 | int i=>
  obtain⟨t,rfl⟩:=r;cases(show T = "int" from ty)
  exact⟨typeIs_int s i t,fun _ e=>nomatch e⟩
 | ref p=>
  cases r;rcases ty with ⟨rfl,N,hq⟩ | ⟨rfl,o,hk,hc,u⟩ | ⟨rfl,hk⟩ | ⟨rfl,S,n,hk⟩
  ·obtain⟨M,_,L,_⟩:=I.list hq
   refine⟨L.isList.typeIs,fun a e=>?_⟩
   cases e;obtain⟨o,n,e,c,u,_⟩:=L;exact⟨o,e,u⟩
  ·refine⟨⟨o,I.kIn p o hk,hc⟩,fun a e=>?_⟩
   cases e;exact⟨o,I.kIn _ o hk,u⟩
  ·have z:∃o,s.heap.get? p=some o/\o.ExactDict:=by
    rcases hk with ⟨w,hk⟩ | ⟨w,hk⟩
    ·obtain⟨_,_,_,_,o,_,_,e,f,_⟩:=I.hok p _ hk
     exact⟨o,e,f⟩
    ·obtain⟨_,_,_,_,o,_,_,e,f,_⟩:=I.hok p _ hk
     exact⟨o,e,f⟩
   obtain⟨o,e,f⟩:=z;refine⟨⟨o,e,f.1⟩,fun a l=>?_⟩
   cases l;exact⟨o,e,f.2.1⟩
  ·obtain⟨o,_,_,_,e,f,_⟩:=I.hok p _ hk
   refine⟨⟨o,e,f.1⟩,fun a l=>?_⟩
   cases l;exact⟨o,e,f.2.1⟩
 | _=>exact False.elim ty
def tBM(K:W.Frag)(T:String)(r:V->List V->Hp->VK->Prop)(to:TE)(t:TA):TE:=fun σ H Q=>to σ H fun x f=>tyV K T x f/\t σ f fun l j=>r x l j Q
variable{o e:Expr}{D:List Expr}{to:TE}{t:TA}{B:Str}{C g:Pos}{T id:String}{r:V->List V->Hp->VK->Prop}
theorem j7(pa:PlainAttrs T)(A:Slot T B id)(L:typeOf (.builtin id)=pure (.type "method_descriptor"))(hm:MtR X id r)(ho:PE X o to)(ha:PA X (e::D) t)
  (l:attributeBase o B X.env (eval o X.env)=eval o X.env:=by rfl)
  (w:((backTo g (starEach (e::D) X.env)).all (fun x=>!x.1)&&(backToKw g (keywordEach [] X.env)).all (fun x=>x.1.isSome)
   && decide ((e::D).length+([]:List Keyword).length+(if([]:List Keyword).isEmpty then 0 else 1)<30))=true:=by rfl)
  (u:(C.endLine==g.line)=true:=by rfl) (hs:starEach (e::D) X.env=(false,eval e X.env)::starEach D X.env:=by rfl) (j:(backTo g (starEach D X.env)).any (·.1)=false:=by rfl) :
  PE X (.Call (.Attribute o B C) (e::D) [] g) (tBM X.K T r to t):=by
 intro f s σ H Q I h;refine wpAny_Call_method_late l w u rfl (thn (ho f s σ H _ I h) fun v s1 ⟨x,U,M,O,ty,q1⟩=>?_)
 obtain⟨h1,h2⟩:=zdh M O ty;refine⟨T,id,pa,A,L,h1,h2,?_⟩
 have N:=ha g f s1 σ U _ M q1;rw[hs] at N ⊢;refine Calls.callWith_builtin (by show(false||(backTo g (starEach D X.env)).any (·.1))=false;rw[j]<;>rfl) (Calls.evalArgs_plain ?_)
 exact thn N fun us s2 ⟨vs,Y,I2,r2,q2⟩=>hm f s2 σ Y x vs v us Q I2 O r2 q2
end
def MtM(X:Cx)(id:String)(r:V->List V->Hp->VK->Prop):Prop:=
 ∀(f:List (Addr×Obj)) (s:Shared) (σ:St) (H:Hp) (x:V) (j:List V) (v:Value) (g:List Value) (Q:VK),Inv X f σ H s->RelV x v->Vals j g->r x j H Q ->
  wpAny (model X.prog X.w) X.A (call (.builtin id) (v::g)) (EP X f σ Q) X.xe s
theorem Vals.one:∀{x:V} {f:List Value},Vals [x] f->∃u,f=[u]/\RelV x u
 | _,_,.cons r .nil=>⟨_,rfl,r⟩
theorem Vals.two:∀{x y:V} {f:List Value},Vals [x,y] f->∃u v,f=[u,v]/\RelV x u/\RelV y v
 | _,_,_,.cons r (.cons q .nil)=>⟨_,_,rfl,r,q⟩
theorem Vals.zero:∀{f:List Value},Vals [] f->f=[]
 | _,.nil=>rfl
theorem Vals.dropLast{g:List V}{f:List Value}(h:Vals g f):Vals g.dropLast f.dropLast:=by
 induction h with
 | nil=>exact .nil
 | cons r t j=>
  cases t with
  | nil=>exact .nil
  | cons q l=>exact .cons r j
theorem Vals.eraseIdx:∀{g:List V} {f:List Value} (i:Nat),Vals g f->Vals (g.eraseIdx i) (f.eraseIdx i)
 | _,_,_,.nil=>.nil
 | _,_,0,.cons _ t=>t
 | _,_,i+1,.cons r t=>.cons r (Vals.eraseIdx i t)
theorem Vals.reverse{g:List V}{f:List Value}(h:Vals g f):Vals g.reverse f.reverse:=by
 induction h with
 | nil=>exact .nil
 | cons r t j=>rw[Xd,Xd];exact Vals.append j (.cons r .nil)
theorem Vals.rep{g:List V}{f:List Value}(h:Vals g f):∀k:Nat,Vals (List.replicate k g).flatten (List.replicate k f).flatten
 | 0=>.nil
 | k+1=>by
  rw[ZU,ZU,yF,yF];exact Vals.append h (Vals.rep h k)
theorem QX(g:List Value):∀(k:Nat) (f:List Value),
  List.foldl (fun l s=>l++s) f.toArray (List.replicate k g.toArray)=(f++(List.replicate k g).flatten).toArray
 | 0,f=>by simp
 | k+1,f=>by
  have e:f.toArray++g.toArray=(f++g).toArray:=by simp
  have j:(f++g)++(List.replicate k g).flatten=f++(List.replicate (k+1) g).flatten:=by
   rw[ZU,yF,yV]
  rw[<- j,<- QX g k (f++g),<- e,ZU,List.foldl_cons]
section
variable{X:Cx}{g:List (Addr×Obj)}{σ:St}{H:Hp}{s:Shared}{l b:Addr}{w j A:List V}
theorem Inv.lset{B its':List Value}{n:Nat}{f:Array Value->Array Value}{E:Nat}(I:Inv X g σ H s)(C:H l=some (.lst w))
  (e:s.heap.get? l=some { cls:=.type "list",data:=.seq B.toArray n }) (hf:f B.toArray=its'.toArray) (D:Vals j its') (hz:j.length<=sizeLine) :
  Inv X g σ (upd H l (.lst j)) { s with heap:=s.heap.update l (Obj.mapSeq f),toks:=E }:=by
 have q:=PySem.IsL.update e f;rw[hf] at q;refine I.write (x:=l) (e:=l) (by rw[C];exact trivial) (.inl rfl) (fun G u hb hu=>(Heap.get?_update_other s.heap (Obj.mapSeq f) (qB hb)).trans hu) ⟨_,q⟩ ?_
 exact⟨hz,its',_,D,q⟩
theorem Inv.lnew{f:List Value}{t':Nat}(I:Inv X g σ H s)(u:Vals j f)(hz:j.length<=sizeLine) :
  Inv X g σ (upd H s.heap.objs.size (.lst j)) { s with heap:=s.heap.push { cls:=.type "list",data:=.seq f.toArray },toks:=t' }:=
 I.laid (fun _ _ q=>qd _ q) (zJ _) ⟨hz,f,0,u,qy _ rfl⟩
theorem Inv.fresh(I:Inv X g σ H s):H s.heap.objs.size=none:=I.hok.fresh (zJ _)
theorem Inv.lstM(I:Inv X g σ H s)(u:H l=some (.lst w)):w.length<=sizeLine/\∃(f:List Value) (n:Nat),Vals w f/\w.length=f.length/\s.heap.get? l=some { cls:=.type "list",data:=.seq f.toArray n }:=by
 obtain⟨z,f,n,r,e⟩:=I.hok l _ u;exact⟨z,f,n,r,r.length,e⟩
theorem XS{n:Nat}(h:n<=sizeLine):Builtin.List.listTooLong n=false:=by
 unfold Builtin.List.listTooLong;exact jG (by omega)
end
section
variable{X:Cx}
inductive WZ(x:V)(g:List V)(H:Hp)(Q:VK):Prop
 | mk (l f y:_) (_:x=.ref l) (_:g=[y]) (_:H l=some (.lst f)) (_:f.length<sizeLine) (_:Q .non (upd H l (.lst (f++[y])))):WZ  x g H Q
theorem qA:MtM X "list.append" WZ:=by
 intro w s σ H x G v E Q I C B h;obtain⟨l,J,y,rfl,rfl,g,hz,q⟩:=h;cases C;obtain⟨u,rfl,A⟩:=B.one;obtain⟨z,f,n,r,D,e⟩:=I.lstM g;refine call_meets F.slot_list_append ⟨_,e,rfl⟩ F.entry_list_append (F.args_list_append_2 _ _) (PySem.list_append l f.toArray n u (by rw[qF];omega)) ⟨e,?_⟩
 refine⟨.non,_,I.lset (its':=f++[u]) g e (by simp) (r.append (.cons A .nil)) ?_,rfl,q⟩
 rw[qG,Wd];omega
inductive WY(x:V)(j:List V)(H:Hp)(Q:VK):Prop
 | mk (l b f g:_) (_:x=.ref l) (_:j=[.ref b]) (_:H l=some (.lst f)) (_:H b=some (.lst g)) (_:f.length+g.length<=sizeLine) (_:Q .non (upd H l (.lst (f++g)))):WY  x j H Q
theorem Y2:MtM X "list.extend" WY:=by
 intro C s σ H x Y v U Q I O N h;obtain⟨l,b,xs,zs,rfl,rfl,A,E,hz,q⟩:=h;cases O;obtain⟨u,rfl,M⟩:=N.one;cases M;obtain⟨z,g,n,r,T,e⟩:=I.lstM A;obtain⟨z2,f,J,L,G,D⟩:=I.lstM E;have w:g.toArray.size+f.toArray.size<=sizeLine:=by rw[qF,qF];omega
 have j:¬(!g.toArray.isEmpty&&Builtin.List.listTooLong (g.toArray.size+f.toArray.size))=true:=by
  rw[XS w,vp];exact qx
 refine call_meets F.slot_list_extend ⟨_,e,rfl⟩ F.entry_list_extend (F.args_list_extend_2 _ _)
  (AutoSeq1.list_extend_list_list_0 l g.toArray n b f.toArray J j (by rw[qF];omega) (by omega)) ⟨e,D,?_⟩
 refine⟨.non,_,I.lset (its':=g++f) A e (by simp) (r.append L) ?_,rfl,q⟩
 rw[qG];omega
inductive zdy(x:V)(y:V)(H:Hp)(Q:VK):Prop
 | mk (l b f g:_) (_:x=.ref l) (_:y=.ref b) (_:H l=some (.lst f)) (_:H b=some (.lst g)) (_:f.length+g.length<=sizeLine) (_:∀p,H p=none->Q (.ref p) (upd H p (.lst (f++g)))):zdy  x y H Q
theorem yp:OpR X (binaryOp .Add) zdy:=by
 intro j s σ H x y v u Q I G J h;obtain⟨l,b,O,T,rfl,rfl,C,B,hz,q⟩:=h;cases G;cases J;obtain⟨z,g,n,r,L,e⟩:=I.lstM C;obtain⟨z2,f,M,E,D,w⟩:=I.lstM B;refine PySem.P.add_list e w ?_ (by rw[qF,qF];omega)
 have A:g.toArray++f.toArray=(g++f).toArray:=by simp
 rw[A];exact⟨.ref _,_,I.lnew (t':=s.toks) (r.append E) (by rw[qG];omega),rfl,q _ I.fresh⟩
inductive zeH(x:V)(y:V)(H:Hp)(Q:VK):Prop
 | mk (l k f:_) (_:x=.ref l) (_:y=.int k) (_:H l=some (.lst f)) (_:-(2^63)<=k) (_:k<2^63) (_:f.length*k.toNat<=sizeLine) (_:∀p,H p=none->Q (.ref p) (upd H p (.lst (List.replicate k.toNat f).flatten))):zeH  x y H Q
theorem zcy{α:Type}(f:List α)(k:Nat):(List.replicate k f).flatten.length=k*f.length:=by
 induction k with
 | zero=>simp
 | succ k g=>rw[ZU,yF,qG,g,Nat.succ_mul,ZW]
theorem Jz:OpR X (binaryOp .Mult) zeH:=by
 intro E s σ H x y v u Q I O Y h;obtain⟨l,k,xs,rfl,rfl,M,J,L,hz,q⟩:=h;cases O;obtain⟨t,rfl⟩:=Y;obtain⟨z,f,n,r,N,e⟩:=I.lstM M;have A:f.toArray.size*k.toNat<=sizeLine:=by rw[qF,<- N];exact hz
 have j:¬f.toArray.size*k.toNat>(2^63-1)/8:=by
  have:(sizeLine:Nat)<=(2^63-1)/8:=by decide
  omega
 have w:¬(!Builtin.List.listFitsIndex k)=true:=by
  rw[fitsIndex_both J L];exact qx
 have g:¬Builtin.List.listTooLong (f.toArray.size*k.toNat)=true:=by
  rw[XS A];exact qx
 have B:List.foldl (fun C D=>C++D) #[] (List.replicate (if f.toArray.isEmpty=true then 0 else k.toNat) f.toArray)=(List.replicate k.toNat f).flatten.toArray:=by
  have G:∀m:Nat,List.foldl (fun C D=>C++D) #[] (List.replicate m f.toArray)=(List.replicate m f).flatten.toArray:=fun m=>by
   have:=QX f m [];rw[yC] at this;exact this
  rw[G];cases f with
  | nil=>simp
  | cons a r'=>rw[zq (by simp)]
 refine wpAny_binaryOp_repeat_ref (T:= "list") (U:= "int") (by decide) ⟨_,e,rfl⟩ (fun s'=>typeIs_int s' k t) noFill_list_mul F.fills_int_mul F.slot_int_rmul repeat_list F.slot_int_index.lookup
  (call_meets F.slot_int_rmul (typeIs_int s k t) F.entry_int_rmul (F.args_int_rmul_2 _ _) (int___rmul___int_list k t l f.toArray n)
   ⟨e,rfl,⟨_,e,rfl⟩,call_meets F.slot_list_mul ⟨_,e,rfl⟩ F.entry_list_mul (F.args_list_mul_2 _ _) (AutoListH.list___mul___list_int_3 l f.toArray n k t w j g) ⟨e,?_⟩⟩)
 rw[B];exact⟨.ref _,_,I.lnew (t':=s.toks) (r.rep k.toNat) (by rw[zcy,Nat.mul_comm];exact hz),rfl,q _ I.fresh⟩
end
section
variable{f:Program}{w:World}{A:Around}{E:Value->Shared->Prop}{s:Shared}
end
section
variable{X:Cx}
end
end L2
namespace Att
open PySem PySem.W PySem.Calls PyProof.Rows
theorem Za{P:Params}{h:Heap}:∀(f:List Int) (g:List Value),WellAll P h g (f.map WData.int)->IntsAre g f:=by
 intro f;induction f with
 | nil=>
  intro g w;rw[J4] at w;cases w;exact .nil
 | cons n f j=>
  intro g w;rw[xD] at w;cases w with
  | cons a b=>
   cases a;exact .cons _ _ (j _ b)
theorem YX{l:OpenLaw}{n:Nat}(I:l.most=some n){P:Params}{h:Heap}{args:List WData}{j:List Value}
  (g:l.row.toRowW.claim.pre args=true) (C:WellAll P h j args) :
  ∃a D f,j=[Value.ref a]/\args=[WData.list (f.map WData.int)]/\h.get? a=some { cls:=.type "list",data:=.seq D.toArray }/\IntsAre D f/\f.length<=n:=by
 have B:WShape.hasAll [] args [.list .int]=true:=(pre_splitW g).1;have hc:l.pre.holds [] { args:=args }=true:=(pre_splitW g).2;obtain⟨d,r,rfl,E,G⟩:=hasAllW_cons B;obtain rfl:=hasAllW_nil G;obtain⟨N,rfl,H⟩:=hasW_list E;obtain⟨f,rfl⟩:=items_int H;have u:f.length<=n:=by
  unfold OpenLaw.pre at hc;have w:(WTm.not (.lt (.lit (.int (n:Int))) (.len (.arg 0)))).holds [] { args:=[.list (f.map .int)] }=true:=by
   have w:=(holds_andW hc).1;rw[I] at w;exact w
  have A:=condW_of w (w_not (w_lt w_lit (w_len_list (w_arg rfl))));rw[zx] at A;refine Nat.le_of_not_lt fun q=>?_
  have L:(n:Int)<((f.length:Nat):Int):=by omega
  first
   | (rw[zS L] at A;exact absurd A (by decide))
   | (simp at A;omega)
 cases C with
 | cons w1 M=>
  cases M;cases w1 with
  | list J s=>exact⟨_,_,f,rfl,rfl,J,Za f _ s,u⟩
theorem YY(l:OpenLaw)(args:List WData):l.row.toRowW.claim.post args (.bool true) args=true:=
 postW_of (r:=l.row.toRowW) (X:=(true==true))
  (show WShape.has [] (.bool true) .bool=true by first| rfl | decide | simp[WShape.has,WShape.arms,WShape.armsAll])
  (show(WTm.eq .res (.lit (.bool true))).value [] { args:=args,res:=some (.bool true),after:=args }=some (.bool (true==true)) from w_eq_bool (w_res rfl) w_lit) rfl
theorem attach_call{l:OpenLaw}{n:Nat}{q:Program}{g:List Str}{XP:(Str->Option Value)->Heap->Prop}{YP:World->Heap->Prop}{d:DefRec}
  (hn:l.most=some n) (N:d.params.defaults=[])
  (call:∀(w:World) (s₀ j:Shared) (I T:Str->Option Value) (B:Addr) (o:Obj) (U H s:Value) (a:Addr) (A:List Value) (J:List Int),
   Ground q g [] XP w s₀ I T j.heap->YP w j.heap ->
   j.heap.get? B=some o->o.data=.func (docDef d.name d.params d.body d.scope U H s)->j.heap.CodeRec H d.name->I d.name=some (.ref B) ->
   j.heap.get? a=some { cls:=.type "list",data:=.seq A.toArray }->IntsAre A J->J.length<=n->j.gens=#[] ->
   codeAny (model l.prog w) callerA (.call (.ref B) ⟨[.ref a],[]⟩) (fun r L=>r=.ok (.ret (.bool true))/\OldK j.heap L.heap/\L.os=j.os/\AllBare L.gens) j) :
  WalkO q g XP YP l.row.toRowW d [] (fun f A=>PySem.call f A):=by
 intro w s₀ j I T G Y B o U H s dV kV ho hd M hD O hg args aa as E a0 ac Q ab;obtain rfl:dV=.none:=Dflts.none hD N;obtain rfl:kV=.none:=Dflts.noKw hD;obtain⟨a,A,J,rfl,rfl,D,u,C⟩:=YX hn E Q;refine enter_call (codeAny_mono (call w s₀ j I T B o U H s a A J G Y ho (fd_plain hd) M O D u C hg) fun r L hq=>?_)
 obtain⟨rfl,h2,h3,h4⟩:=hq;exact⟨.inl ⟨.bool true,.bool true,[],rfl,fun _=>rfl,.bool true,YY l _,fun _=>⟨List.Pairwise.nil,fun _ hm=>(nomatch hm)⟩⟩,h2,h3,h4⟩
section
variable{f:Program}{w:World}{A:Around}{E:Value->Shared->Prop}{s:Shared}{K:Frag}
def ledger(h:Heap)(L d:Addr):List (Addr×Obj):=(List.range h.objs.size).filterMap fun a=>if a=L\/a=d then none else(h.get? a).map fun o=>(a,o)
end
end Att
namespace L2
open PySem PySem.Spec PyProof.Rows
theorem Qm:∀{g:List Value} {f:List Int},IntsAre g f->Vals (f.map V.int) g
 | _,_,.nil=>.nil
 | _,_,.cons n t h=>.cons ⟨t,rfl⟩ (Qm h)
def zcR(H:Hp):Prop:=∀b,H b=none\/∃o f,H b=some (.frz o (.lst f))
theorem X4{P:Program}{w:World}{K:W.Frag}{T mb:Str->Option Value}{CX:CXT}{k:Nat}{fa a:Addr}{fd:FuncData}{x:Str}{sp:Sp}{f:Shared}{D:List Value}{U:List Int}
  (KX:K.In f.heap) (M:f.heap.Ns mainGlobals T) (hb:f.heap.Ns builtinsNs mb) (aa:∀x:Str,x ≠ "__name__" -> mb x=bootBuiltins x) (L:f.heap.NoLimit) (hg:f.gens=#[])
  (ha:f.heap.get? a=some { cls:=.type "list",data:=.seq D.toArray }) (hi:IntsAre D U) (hl:U.length<=sizeLine) (hr:Room k callerA)
  (F:∀j:Heap,K.In j->j.Ns mainGlobals T->FnOk P w K T j CX k fa fd [x] sp) (C:∀(s:Shared) (u:Value),BindsTo s fd ⟨[u],[]⟩ [(x,u)])
  (ab:∀H:Hp,zcR H->SqL K H a (U.map V.int)->sp [.ref a] H (fun v _=>v=.bl true) fun _ _ _=>False)
  (a0:∀H e l,CX [] H f (fun _ _ _=>False) e l->False) :
  codeAny (model P w) callerA (.call (.ref fa) ⟨[.ref a],[]⟩) (fun r l=>r=.ok (.ret (.bool true))/\OldK f.heap l.heap/\l.os=f.os/\AllBare l.gens) f:=by
 have rv:=Qm hi;have Q:=hi.length;have B:∀H:Hp,zcR H->SqL K H a (U.map V.int)->HOk P w H f.heap->(∀b,H b≠none->b=a)->(H a≠none->K.lookup a=none) ->
   codeAny (model P w) callerA (.call (.ref fa) ⟨[.ref a],[]⟩) (fun r l=>r=.ok (.ret (.bool true))/\OldK f.heap l.heap/\l.os=f.os/\AllBare l.gens) f:=by
  intro H hO hS N hA hK;have g:∀{b:Addr} {o:Obj},f.heap.get? b=some o->H b=none->(JJ f.heap H).get? b=some o:=fun e n=>zbt e n
  have ac:∀{b:Addr} {o:Obj} {I:Array DictEntry} {G:Nat},f.heap.get? b=some o->o.data=.dict I G->H b=none:=fun {b o I G} e d=>by
   cases q:H b with
   | none=>rfl
   | some u=>
    have e':b=a:=hA b (by rw[q];simp)
    subst e';rw[ha] at e;cases e
    have d':Data.seq D.toArray _=Data.dict I G:=d;cases d'
  have A:∀{b:Addr} {m:Str->Option Value},f.heap.Ns b m->(JJ f.heap H).Ns b m:=fun {b m} ⟨o,I,G,e,d,r⟩=>⟨o,I,G,g e (ac e d),d,r⟩
  have J:K.In (JJ f.heap H):=fun b o e=>g (KX b o e) (by
   cases q:H b with
   | none=>rfl
   | some u=>
    have e':b=a:=hA b (by rw[q];simp)
    subst e';rw[hK (by rw[q];simp)] at e;cases e)
  have hM:Mod K T (JJ f.heap H):=⟨J,A M,⟨mb,A hb,aa⟩,let ⟨mc,h1,h2⟩:=L;⟨mc,A h1,h2⟩⟩
  have e0:Env0 P w K T (JJ f.heap H) callerA [] f H:=⟨rfl,hM,fun b o e=>zcu e,vO (Y7 _ _),trivial,fun b hb=>absurd (show b∈([]:List Addr) from hb) (by simp),N,.of_eq hg⟩
  refine codeAny_mono ((F _ J (A M)).run callerA [] f H ⟨[.ref a],[]⟩ [.ref a] [.ref a] _ _ hr e0 (C f (.ref a)) (.cons rfl .nil) (ab H hO hS)) fun r l h=>?_
  cases r with
  | error e=>exact(a0 H e l h).elim
  | ok fl=>
   cases fl with
   | next=>exact False.elim h
   | brk=>exact False.elim h
   | cont=>exact False.elim h
   | ret u=>
    obtain⟨v,H',os,E,un,O,r',q⟩:=h;have q':v=.bl true:=q;subst q';obtain rfl:u=Value.bool true:=r';refine⟨rfl,OldK.of_keep fun b o e=>?_,os,E⟩
    cases q:H b with
    | none=>exact un.keep b o e q (by intro z;exact absurd (show b∈([]:List Addr) from z) (by simp)) (by simp)
    | some u=>
     rcases hO b with z | ⟨ob,xs,z⟩
     ·rw[q] at z;cases z
     ·have z2:=un.frzs b ob _ z
      obtain⟨e1,_⟩:=N b _ z;obtain⟨e2,_⟩:=O b _ z2;rw[e] at e1;cases e1
      exact e2
 cases hk:K.lookup a with
 | some o=>
  have e:=KX a o hk;rw[ha] at e;cases e;refine B (fun _=>none) (fun _=>.inl rfl) (.inr ⟨_,D.toArray,_,hk,rfl,rfl,rfl,by rw[qF,Q];exact hl,by simpa using rv⟩) (fun b u z=>by have Y:(none:Option HO)=some u:=z;cases Y) (fun b z=>absurd rfl z) fun z=>absurd rfl z
 | none=>
  refine B (fun b=>if b=a then some (.frz { cls:=.type "list",data:=.seq D.toArray } (.lst (U.map V.int))) else none) (fun b=>?_) (.inl (.inr ⟨{ cls:=.type "list",data:=.seq D.toArray },zw rfl⟩)) (fun b u z=>?_) (fun b z=>?_) fun _=>hk
  ·by_cases hb:b=a
   ·exact .inr ⟨_,_,zw hb⟩
   ·exact .inl (zq hb)
  ·by_cases hb:b=a
   ·have Y:=(zw hb).symm.trans z
    cases Y;subst hb;exact⟨ha,by rw[zx];exact hl,D,_,rv,ha⟩
   ·have Y:=(zq hb).symm.trans z
    cases Y
  ·by_cases hb:b=a
   ·exact hb
   ·exact absurd (zq hb) z
abbrev KOf{K:W.Frag}{h:Heap}(_:K.In h):PySem.W.Frag:=K
theorem walk_of{l:PySem.W.OpenLaw}{n k:Nat}{q:Program}{B:List Str}{XP:(Str->Option Value)->Heap->Prop}{YP:World->Heap->Prop}{d:DefRec}{K:Params->PySem.W.Frag}{U:World->CXT}{sp:World->Sp}{x:Str}
  (hn:l.most=some n) (O:n<=sizeLine) (M:d.params.defaults=[]) (hr:Room k callerA)
  (hY:∀(w:World) (h:Heap),YP w h->(K w.params).In h)
  (F:∀(w:World) (C:Str->Option Value) (E:Addr) (h:Heap),(K w.params).In h->h.Ns mainGlobals C->C d.name=some (.ref E) ->
   ∃J:FuncData,(∀(s:Shared) (u:Value),BindsTo s J ⟨[u],[]⟩ [(x,u)]) /\
    ∀g:Heap,(K w.params).In g->g.Ns mainGlobals C->FnOk l.prog w (K w.params) C g (U w) k E J [x] (sp w))
  (Q:∀(w:World) (H:Hp) (a:Addr) (I:List Int),I.length<=n->zcR H->SqL (K w.params) H a (I.map V.int)->sp w [.ref a] H (fun v _=>v=.bl true) fun _ _ _=>False)
  (L:∀(w:World) (H:Hp) (s:Shared) (e:Value) (T:Shared),U w [] H s (fun _ _ _=>False) e T->False) :
  PySem.W.WalkO q B XP YP l.row.toRowW d [] (fun f vs=>PySem.call f vs):=by
 refine Att.attach_call hn M fun w s₀ s₁ C mb E o pm cd a0 a vs I G Y ho hd aa N D A j hg=>?_
 have KX:=hY w _ Y;obtain⟨J,hb,hF⟩:=F w C E _ KX G.T.g N;exact X4 KX G.T.g G.T.b G.T.builtins G.T.nolimit hg D A (jm j O) hr hF hb (fun H hO hS=>Q w H a I j hO hS) fun H e T=>L w H s₁ e T
def wT(s:Stmt):Arguments:=match s with
 | .FunctionDef _ a _ _ _ _ _ _ _ _=>a
 | _=>{ posonlyargs:=[],args:=[],vararg:=none,kwonlyargs:=[],kw_defaults:=[],kwarg:=none,defaults:=[] }
def vV(s:Stmt):List Stmt:=match s with
 | .FunctionDef _ _ b _ _ _ _ _ _ _=>b
 | _=>[]
def zv(s:Stmt):Scope:=match s with
 | .FunctionDef _ _ _ _ _ _ f _ _ _=>f
 | _=>{ kind:=.function,names:=[],isGenerator:=false,isCoroutine:=false }
abbrev CX0:CXT:=fun _ _ _ _ _ _=>False
abbrev E0:XK:=fun _ _ _=>False
theorem zeJ{X:Cx}:Wl CX0 X E0:=fun _ _ _ _ _ _ _ h=>h.elim
structure Fun(K:W.Frag)(x qual:Str)(st:Stmt)(f:Addr)(fd:FuncData):Prop where
 ex:∃(oc:Value) (od:Option Addr) (kV doc pm:Value) (an:Option Addr) (cdv ct:Value) (osl:Array (Option Value)),
  fd=PySem.W.fnOf x qual (wT st) (vV st) (zv st) .none kV doc pm an cdv ct/\K.lookup f=some ⟨oc,od,.func fd,osl⟩/\PySem.W.codeIn K cdv qual=true
 kp:PySem.W.keepIn K (.ref f)=true
section
variable{P:Program}{w:World}{K:W.Frag}{j:Str->Option Value}{g:Heap}
theorem Fun.ok{x qual:Str}{st:Stmt}{f:Addr}{M:FuncData}{N J:List Str}{k:Nat}{L:Sp}(F:Fun K x qual st f M)(S:zI N J (zv st))(I:∀C H Q E,L C H Q E->C.length=J.length)
  (B:∀(u:Value) (A:Around) (l:List Env) (s:Shared) (H:Hp) (C:List V) (Q:VK) (E:XK),Room k (A.deeper (envOfC qual (zv st) s.heap.objs.size f u))->L C H Q E ->
   ∃t,PSs (zaf CX0 P w K j g N qual (zv st) f u A l s H E).nox (vV st) t/\t { nx:=fun _ O=>Q .non O,rt:=Q } (yH N C) H):FnOk P w K j g CX0 (k+1) f M J L:=by
 obtain⟨oc,od,kV,T,pm,an,u,ct,a0,rfl,Y,D⟩:=F.ex;refine ze3 Y D S I fun A l s H C Q E U G=>?_
 obtain⟨t,h,q⟩:=B u A l s H C Q E U G;exact⟨t,h.nox,q⟩
theorem Fun.binds{x qual:Str}{st:Stmt}{f:Addr}{D:FuncData}{B:List Str}(F:Fun K x qual st f D)
  (h:∀(kV s A:Value) (u:Option Addr) (l ct:Value) (C:List Value),C.length=B.length->bindArgs (PySem.W.fnOf x qual (wT st) (vV st) (zv st) .none kV s A u l ct) ⟨C,[]⟩=pure (B.zip C)):Binds K D B []:=by
 obtain⟨I,J,kV,s,A,u,l,ct,G,rfl,H,E⟩:=F.ex;exact .all (h kV s A u l ct)
end
theorem QV{A:Around}{k:Nat}(f:Room k A):A.units+1<cLine:=Nat.lt_of_le_of_lt (Nat.add_le_add_left (by decide:1<=64) _) f.units
theorem QL{n:Nat}(h:n<=1000):n<sizeLine:=Nat.lt_of_le_of_lt h (by decide)
section
variable{X:Cx}
theorem pv(i:Nat){x:Str}{g:Pos}(j:X.N[i]? =some x:=by rfl)(s:Vis X.env.scope x:=by first| exact Or.inl rfl | exact Or.inr (Or.inl rfl) | exact Or.inr (Or.inr rfl))(l:(x==("__debug__":Str))=false:=by decide)
  (f:(x==("__classdict__":Str))=false:=by decide):PE X (.Name x g) (zdl i):=zdE j s l f
end
theorem qZ{c A B:Prop}[Decidable c](f:c->A)(g:¬c->B):if c then A else B:=by
 by_cases h:c
 ·rw[zw h]
  exact f h
 ·rw[zq h]
  exact g h
def Same(H f:Hp):Prop:=∀b o,H b=some o->f b=some o
theorem Same.refl(H:Hp):Same H H:=fun _ _ h=>h
def uc:=@Same.refl
theorem Same.trans{H f g:Hp}(a:Same H f)(b:Same f g):Same H g:=fun c o h=>b c o (a c o h)
theorem Same.free{H f:Hp}(e:Same H f){l:Addr}(h:f l=Option.none):H l=Option.none:=by
 cases q:H l with
 | none=>rfl
 | some o=>
  rw[e l o q] at h;cases h
theorem Same.seq{K:W.Frag}{H f:Hp}{a:Addr}{g:List V}(e:Same H f)(h:SqL K H a g):SqL K f a g:=by
 rcases h with(h | ⟨o,h⟩) | h
 ·exact .inl (.inl (e _ _ h))
 ·exact .inl (.inr ⟨o,e _ _ h⟩)
 ·exact .inr h
end L2
namespace L2
inductive Ex1{f:Sort _}(P:f->Prop):Prop
 | mk (a1:f) (h:P a1):Ex1 P
inductive Ex2{f:Sort _}{g:Sort _}(P:f->g->Prop):Prop
 | mk (a1:f) (a2:g) (h:P a1 a2):Ex2 P
inductive Ex3{f:Sort _}{g:Sort _}{j:Sort _}(P:f->g->j->Prop):Prop
 | mk (a1:f) (a2:g) (a3:j) (h:P a1 a2 a3):Ex3 P
inductive Ex4{f:Sort _}{g:Sort _}{j:Sort _}{l:Sort _}(P:f->g->j->l->Prop):Prop
 | mk (a1:f) (a2:g) (a3:j) (a4:l) (h:P a1 a2 a3 a4):Ex4 P
inductive Ex5{f:Sort _}{g:Sort _}{j:Sort _}{l:Sort _}{s:Sort _}(P:f->g->j->l->s->Prop):Prop
 | mk (a1:f) (a2:g) (a3:j) (a4:l) (a5:s) (h:P a1 a2 a3 a4 a5):Ex5 P
inductive Ex6{f:Sort _}{g:Sort _}{j:Sort _}{l:Sort _}{s:Sort _}{u:Sort _}(P:f->g->j->l->s->u->Prop):Prop
 | mk (a1:f) (a2:g) (a3:j) (a4:l) (a5:s) (a6:u) (h:P a1 a2 a3 a4 a5 a6):Ex6 P
inductive Ex7{f:Sort _}{g:Sort _}{j:Sort _}{l:Sort _}{s:Sort _}{u:Sort _}{w:Sort _}(P:f->g->j->l->s->u->w->Prop):Prop
 | mk (a1:f) (a2:g) (a3:j) (a4:l) (a5:s) (a6:u) (a7:w) (h:P a1 a2 a3 a4 a5 a6 a7):Ex7 P
inductive zfg{s:Sort _}{u:Sort _}{w:Sort _}{A:Sort _}{B:Sort _}{C:Sort _}{D:Sort _}{E:Sort _}{G:Sort _}{f:Sort _}{g:Sort _}(P:s->u->w->A->B->C->D->E->G->f->g->Prop):Prop
 | mk (a1:s) (a2:u) (a3:w) (a4:A) (a5:B) (a6:C) (a7:D) (a8:E) (a9:G) (j:f) (l:g) (h:P a1 a2 a3 a4 a5 a6 a7 a8 a9 j l):zfg P
inductive An2(f g:Prop):Prop
 | mk (j:f) (l:g):An2 f g
inductive An3(f g j:Prop):Prop
 | mk (l:f) (s:g) (u:j):An3 f g j
inductive An4(f g j l:Prop):Prop
 | mk (s:f) (u:g) (w:j) (A:l):An4 f g j l
inductive An5(f g j l s:Prop):Prop
 | mk (u:f) (w:g) (A:j) (B:l) (C:s):An5 f g j l s
inductive An6(f g j l s u:Prop):Prop
 | mk (w:f) (A:g) (B:j) (C:l) (D:s) (E:u):An6 f g j l s u
inductive An7(f g j l s u w:Prop):Prop
 | mk (A:f) (B:g) (C:j) (D:l) (E:s) (G:u) (H:w):An7 f g j l s u w
inductive An8(f g j l s u w A:Prop):Prop
 | mk (B:f) (C:g) (D:j) (E:l) (G:s) (H:u) (I:w) (J:A):An8 f g j l s u w A
inductive An9(f g j l s u w A B:Prop):Prop
 | mk (C:f) (D:g) (E:j) (G:l) (H:s) (I:u) (J:w) (L:A) (M:B):An9 f g j l s u w A B
inductive zfi(j l s u w A B C D f g:Prop):Prop
 | mk (H:j) (I:l) (J:s) (L:u) (M:w) (N:A) (O:B) (Q:C) (T:D) (E:f) (G:g):zfi j l s u w A B C D f g
theorem zeW{α:Type _}{g:List α}(h:g.length=1):∃f,g=[f]:=
 match g,h with
 | [f],_=>⟨f,rfl⟩
theorem zeV{α:Type _}{g:List α}(h:g.length=2):∃f a1,g=[f,a1]:=
 match g,h with
 | [f,a1],_=>⟨f,a1,rfl⟩
theorem zeU{α:Type _}{g:List α}(h:g.length=3):∃f a1 a2,g=[f,a1,a2]:=
 match g,h with
 | [f,a1,a2],_=>⟨f,a1,a2,rfl⟩
theorem zeT{α:Type _}{g:List α}(h:g.length=4):∃f a1 a2 a3,g=[f,a1,a2,a3]:=
 match g,h with
 | [f,a1,a2,a3],_=>⟨f,a1,a2,a3,rfl⟩
theorem zeS{α:Type _}{g:List α}(h:g.length=5):∃f a1 a2 a3 a4,g=[f,a1,a2,a3,a4]:=
 match g,h with
 | [f,a1,a2,a3,a4],_=>⟨f,a1,a2,a3,a4,rfl⟩
theorem zeR{α:Type _}{g:List α}(h:g.length=6):∃f a1 a2 a3 a4 a5,g=[f,a1,a2,a3,a4,a5]:=
 match g,h with
 | [f,a1,a2,a3,a4,a5],_=>⟨f,a1,a2,a3,a4,a5,rfl⟩
end L2
set_option maxHeartbeats 4000000
namespace L2
open PySem PySem.Spec PyProof.Rows
def z6(g:List (Str×Addr)):List (Str×NameKind)->List (Str×Addr)->List (Str×Addr)
 | [],f=>f
 | (n,k)::r,f=>z6 g r (if(k==NameKind.free)=true then(n,(g.lookup n).getD 0)::f else f)
theorem zbE{env:Env}(names:List (Str×NameKind)):∀(f:List (Str×Addr)),(∀y∈names,y.2=NameKind.free->∃c,env.cells.lookup y.1=some c) ->
  (forIn names f fun(x:Str×NameKind) (g:List (Str×Addr))=>
   (if(x.2==NameKind.free)=true then(cellOf env x.1 >>= fun a=>(pure (ForInStep.yield ((x.1,a)::g)):Sem (ForInStep (List (Str×Addr))))) else pure (ForInStep.yield g)))=(pure (z6 env.cells names f):Sem (List (Str×Addr))):=by
 induction names with
 | nil=>intro f _;rfl
 | cons y r j=>
  intro f h;obtain⟨n,k⟩:=y;rw[ZZ];by_cases hk:(k==NameKind.free)=true
  ·obtain⟨c,hc⟩:=h (n,k) xn (by simpa using hk)
   have l:cellOf env n=pure c:=by
    unfold cellOf;rw[show env.cells.lookup n=some c from hc]
   simp only[hk,if_true,l,pure_bind];rw[j _ fun z hz=>h z (jv _ hz)]
   show _=pure (z6 env.cells r (if(k==NameKind.free)=true then(n,(env.cells.lookup n).getD 0)::f else f))
   rw[zw hk,show env.cells.lookup n=some c from hc]
   all_goals rfl
  ·simp only[hk,pure_bind]
   simp only[V8,if_false,pure_bind];rw[j _ fun z hz=>h z (jv _ hz)]
   show _=pure (z6 env.cells r (if(k==NameKind.free)=true then(n,(env.cells.lookup n).getD 0)::f else f))
   rw[zq hk]
theorem JP{f:Env}{scope:Scope}(h:∀y∈scope.names,y.2=NameKind.free->∃c,f.cells.lookup y.1=some c):closureFor scope f=pure (z6 f.cells scope.names []):=by
 have e:=zbE (env:=f) scope.names [] h;unfold closureFor;refine Eq.trans ?_ (Eq.trans (congrArg (fun m=>m >>= fun g=>(pure g:Sem (List (Str×Addr)))) e) ?_)
 ·rfl
 ·simp
theorem vh{l:List (Str×Addr)}{x:Str}:∀(names:List (Str×NameKind)) (f:List (Str×Addr)),(z6 l names f).lookup x=(if(names.any fun y=>y.2==NameKind.free&&x==y.1)=true then some ((l.lookup x).getD 0) else f.lookup x)
 | [],f=>by simp[z6]
 | (n,k)::r,f=>by
  unfold z6;rw[vh r];by_cases g:(r.any fun y=>y.2==NameKind.free&&x==y.1)=true
  ·rw[zw g,zw (by rw[wW,g,Bool.or_true])]
  ·rw[zq g]
   by_cases hk:(k==NameKind.free)=true
   ·rw[zw hk]
    by_cases hx:(x==n)=true
    ·rw[zw (by rw[wW];simp only[hk,hx,Bool.and_self,Bool.true_or])]
     have e:x=n:=by simpa using hx
     subst e;simp[jd]
    ·rw[zq (by rw[wW];simp only[hk,hx,vp,J8];exact g)]
     have j:(x==n)=false:=by simpa using hx
     simp[jd,j]
   ·rw[zq hk,zq (by rw[wW];simp only[hk,yA,J8];exact g)]
abbrev zt(X:Cx)(f:List Str)(scope:Scope)(C:Addr)(s:Shared)(H:Hp)(ex:List Addr):Cx where
 prog:=X.prog
 w:=X.w
 K:=X.K
 mg:=X.mg
 base:=X.base
 A:=X.A
 N:=f
 s₀:=s
 H₀:=H
 env:=compEnvC scope (z6 X.env.cells scope.names []) C X.env
 outer:=X.stack
 stack:=X.stack
 ex:=ex
 fn:=fun _=>false
 calm:=X.calm
 pn:=[]
 xe:=fun _ _=>False
abbrev jA(g:List Expr)(f:Env):Sem Bool:=
 forIn g true fun(c:Expr) (r:Bool)=>if r=true then(isTrue c f (eval c f) >>= fun ok=>(pure (ForInStep.yield ok):Sem (ForInStep Bool))) else pure (ForInStep.yield r)
theorem Vo{f:Program}{w:World}{A:Around}{R:Result->Shared->Prop}{s:Shared}{l O B:Expr}{C:List Expr}{scope:Scope}{G:Pos}{I j:Value}{g:Env}(J:Nat->Shared->Prop)
  (H:∀n s,J n s->wpAny (model f w) A (pyNext I) (fun r U=>match r with
   | none=>R (.ok .next) U
   | some v=>wpAny (model f w) A (letOwnedTupleGo O I v) (fun _ s2=>wpAny (model f w) A (assign O g v) (fun _ s3=>
     wpAny (model f w) A (jA C g) (fun ok L=>
      if ok=true then wpAny (model f w) A (eval l g) (fun x M=>
       wpAny (model f w) A (call (.builtin "list.append") [j,x]) (fun _ N=>∃m,m<n/\J m N) (fun _ _=>False) M) (fun _ _=>False) L
      else ∃m,m<n/\J m L) (fun _ _=>False) s3) (fun _ _=>False) s2) (fun _ _=>False) U) (fun _ _=>False) s)
  (n:Nat) (h:J n s):codeAny (model f w) A (.compLoop (.ListComp l [⟨O,B,C,0⟩] scope G) 0 I j g) R s:=by
 have D:∀{α:Type} {t:Sem α} {Q:α->Shared->Prop} {E:Value->Shared->Prop} {s:Shared},wpAny (model f w) A t Q (fun _ _=>False) s->wpAny (model f w) A t Q E s:=fun x=>zP x (fun _ _ q=>q) fun _ _ q=>q.elim
 refine codeAny_loop rfl J (fun k u hJ=>?_) n h
 show wpAny _ A ((compTurn (.ListComp l [⟨O,B,C,0⟩] scope G) 0 I j g).onRaise (fun x=>do noteFrame x g;theTreesLotGoes x)) _ _ u
 refine wpAny_noted ?_
 rw[compTurn_list];refine zj (xi (zj (D (zP (H k u hJ) (fun r U Y=>?_) fun _ _ q=>q))))
 cases r with
 | none=>exact zB Y
 | some v=>
  refine zj (D (zP Y (fun _ s2 h2=>zj (D (zP h2 (fun _ s3 h3=>zj (D (zP h3 (fun ok L h4=>?_) fun _ _ q=>q))) fun _ _ q=>q))) fun _ _ q=>q))
  cases ok with
  | false=>exact zB ⟨rfl,h4⟩
  | true=>
   have T:wpAny (model f w) A (eval l g) (fun x M=>wpAny (model f w) A (call (.builtin "list.append") [j,x]) (fun _ N=>∃m,m<k/\J m N) (fun _ _=>False) M) (fun _ _=>False) L:=h4
   refine zj (zj (D (zP T (fun x M h5=>zj (D (zP h5 (fun _ N h6=>zB (zB ⟨rfl,h6⟩)) fun _ _ q=>q))) fun _ _ q=>q)))
def PF(X:Cx)(g:List Expr)(t:TT):Prop:=
 ∀(f:List (Addr×Obj)) (s:Shared) (σ:St) (H:Hp) (Q:Bool->Hp->Prop),Inv X f σ H s->t σ H Q->wpAny (model X.prog X.w) X.A (jA g X.env) (TP X f σ Q) X.xe s
def ze5:TT:=fun _ H Q=>Q true H
theorem qV{X:Cx}:PF X [] ze5:=fun f s σ H Q I h=>zB ⟨H,I,h⟩
theorem vC{X:Cx}{c:Expr}{t:TT}(hc:PT X c t):PF X [c] t:=by
 intro f s σ H Q I h;unfold jA;simp only[ZZ,J9,if_true];refine zj (zj (thn (hc f s σ H Q I h) fun ok g q=>zB (zB q)))
theorem JI{P:Program}{w:World}{H:Hp}{h f:Heap}{C:Addr}(x:HOk P w H h)(g:H C=none)(k:∀b o,b≠C->h.get? b=some o->f.get? b=some o):HOk P w H f:=fun b u e=>by
 refine(x b u e).stay (fun c v hc q=>k c v ?_ q) (fun _ q=>q) fun _ _ q=>q
 rcases hc with z | z
 ·rw[z];exact zi e g
 ·exact zi z g
theorem yq{P:Program}{w:World}{H:Hp}{h:Heap}{a:Addr}{o:HO}(x:HOk P w H h)(g:H a=none)(f:ObjOk P w (upd H a o) h a o):HOk P w (upd H a o) h:=fun b u e=>by
 by_cases hb:b=a
 ·subst hb;rw[zd] at e;cases e;exact f
 ·rw[zm hb] at e
  exact(x b u e).stay (fun c v _ q=>q) (fun c q=>by rw[zm (zi q g)];exact q) fun c j q=>by rw[zm (zi q g)];exact q
theorem Zj{s f:List Addr}{H l:Hp}{h w:Heap}{a:Addr}{o:HO}(u:Un s f H l h w)(ha:a∈f)(g:H a=none):Un s f H (upd l a o) h w where
 keep:=u.keep
 slot:=u.slot
 free:=fun b j q n hx=>by
  have hb:b≠a:=fun z=>hx (by rw[z];exact ha)
  rw[zm hb];exact u.free b j q n hx
 there:=u.there
 tups:=fun b B q=>by rw[zm (zi q g)];exact u.tups b B q
 frzs:=fun b j v q=>by rw[zm (zi q g)];exact u.frzs b j v q
 tbls:=fun b A q=>by rw[zm (zi q g)];exact u.tbls b A q
theorem Vx{l j:List Addr}{H g:Hp}{h s w:Heap}{C:Addr}(u:Un l j H g h s)(f:h.objs.size<=C)(k:∀b o,b≠C->s.get? b=some o->w.get? b=some o):Un l j H g h w where
 keep:=fun b o q n hb hx=>k b o (z9 (ju (zK q) f)) (u.keep b o q n hb hx)
 slot:=fun b o q n hb hx=>let ⟨B,e⟩:=u.slot b o q n hb hx;⟨B,k b _ (z9 (ju (zK q) f)) e⟩
 free:=u.free
 there:=fun b o q hx=>let ⟨A,e⟩:=u.there b o q hx;⟨A,k b _ (z9 (ju (zK q) f)) e⟩
 tups:=u.tups
 frzs:=u.frzs
 tbls:=u.tbls
def wf(sn on:List (Str×NameKind))(N f:List Str)(g:List Nat):Bool:=
 sn.all (fun y=>y.2 != .cell&&(y.2 != .local||sn.lookup y.1==some .local)&&(y.2 != .free||(on.lookup y.1==some .cell||on.lookup y.1==some .free)))&&f.length==g.length
  && (f.zip g).all fun p=>sn.lookup p.1==some .free&&N[p.2]? ==some p.1
structure zbV(sn on:List (Str×NameKind))(N fr:List Str)(js:List Nat):Prop where
 cell:∀y∈sn,y.2≠NameKind.cell
 loc:∀y∈sn,y.2=NameKind.local->sn.lookup y.1=some .local
 free:∀y∈sn,y.2=NameKind.free->on.lookup y.1=some .cell\/on.lookup y.1=some .free
 len:fr.length=js.length
 fr:∀(k:Nat) (x:Str),fr[k]? =some x->sn.lookup x=some .free/\∃j:Nat,js[k]? =some j/\N[j]? =some x
theorem Vp{sn on:List (Str×NameKind)}{N g:List Str}{f:List Nat}(h:wf sn on N g f=true):zbV sn on N g f:=by
 unfold wf at h;rw[jn,jn,xm,xm] at h;obtain⟨⟨j,u⟩,w⟩:=h;have l:g.length=f.length:=by simpa using u
 refine⟨fun y hy=>?_,fun y hy e=>?_,fun y hy e=>?_,l,fun k x e=>?_⟩
 ·have:=j y hy
  simp only[jn,bne_iff_ne] at this;exact this.1.1
 ·have:=j y hy
  simp only[jn,ZY,bne_iff_ne,j9] at this;exact this.1.2.resolve_left fun z=>z e
 ·have:=j y hy
  simp only[jn,ZY,bne_iff_ne,j9] at this;exact this.2.resolve_left fun z=>z e
 ·have hk:k<g.length:=(zZ.mp e).1
  have s:k<f.length:=by omega
  have hm:(x,f[k])∈g.zip f:=by
   refine qI (i:=k) ?_
   rw[zbJ];exact⟨e,by simp[s]⟩
  have:=w _ hm;simp only[jn,j9] at this;exact⟨this.1,f[k],by simp[s],this.2⟩
def upS(n:Nat)(f:List Nat)(σ:St):St:=List.replicate n none++f.map fun j=>(σ[j]?).join
def tLC(O:TI)(n:Nat)(A:List Nat)(g:TG)(M:TT)(L:TE):TE:=fun σ H Q=>O σ H fun J E=>
 ∃W:Nat->Nat->List V->Hp->Prop,(∃m,W 0 m [] E)/\∀i m j f,W i m j f ->
  (J.stop i f/\j.length<=sizeLine/\∀D,f D=none->Q (.ref D) (upd f D (.lst j))) \/
  (J.go i f/\∃N:List V->Hp->Prop,(∀C s,N C s->∃B,B<m/\W (i+1) B C s)/\∀x u,J.yld i f x u->g x (upS n A σ) u fun l G=>l.drop n=(upS n A σ).drop n/\M l G fun b w=>
   if b=true then L l w fun y I=>j.length<sizeLine/\N (j++[y]) I else N j w)
theorem xw{f:Env}{x:Str}{j:NameKind}:∀{names:List (Str×NameKind)},(names.map fun(n,k)=>if(k==NameKind.free&&f.scope.kind==.function&&f.kindOf n==some .cell) then(n,NameKind.cell) else(n,k)).lookup x=some j ->
  ∃k,names.lookup x=some k/\(j=k\/(k=.free/\j=.cell))
 | [],h=>by simp at h
 | (n,k)::r,h=>by
  by_cases hx:(x==n)=true
  ·refine⟨k,by simp[jd,hx],?_⟩
   have h:List.lookup x ((if(k==NameKind.free&&f.scope.kind==.function&&f.kindOf n==some .cell)=true then(n,NameKind.cell) else(n,k))::_)=some j:=h
   by_cases hc:(k==NameKind.free&&f.scope.kind==.function&&f.kindOf n==some .cell)=true
   ·rw[zw hc,jd,hx] at h
    simp only[jn,j9] at hc;exact .inr ⟨hc.1.1,(qW h).symm⟩
   ·rw[zq hc,jd,hx] at h
    exact .inl (qW h).symm
  ·have g:(x==n)=false:=by simpa using hx
   have h:List.lookup x ((if(k==NameKind.free&&f.scope.kind==.function&&f.kindOf n==some .cell)=true then(n,NameKind.cell) else(n,k))::_)=some j:=h
   have l:(r.map fun(n,k)=>if(k==NameKind.free&&f.scope.kind==.function&&f.kindOf n==some .cell) then(n,NameKind.cell) else(n,k)).lookup x=some j:=by
    by_cases hc:(k==NameKind.free&&f.scope.kind==.function&&f.kindOf n==some .cell)=true
    ·rw[zw hc,jd,g] at h;exact h
    ·rw[zq hc,jd,g] at h;exact h
   obtain⟨s,e,z⟩:=xw l;exact⟨s,by rw[jd,g];exact e,z⟩
theorem va{env:Env}{x:Str}:∀{names:List (Str×NameKind)},names.lookup x=some .free->∃f,(names.map fun(n,k)=>if(k==NameKind.free&&env.scope.kind==.function&&env.kindOf n==some .cell) then(n,NameKind.cell) else(n,k)).lookup x=some f/\(f=.cell\/f=.free)
 | [],h=>by simp at h
 | (n,k)::r,h=>by
  by_cases hx:(x==n)=true
  ·rw[jd,hx] at h
   cases(qW h);show ∃f,List.lookup x ((if(NameKind.free==NameKind.free&&env.scope.kind==.function&&env.kindOf n==some .cell)=true then(n,NameKind.cell) else(n,NameKind.free))::_)=some f/\_
   by_cases hc:(NameKind.free==NameKind.free&&env.scope.kind==.function&&env.kindOf n==some .cell)=true
   ·rw[zw hc];exact⟨.cell,by simp[jd,hx],.inl rfl⟩
   ·rw[zq hc];exact⟨.free,by simp[jd,hx],.inr rfl⟩
  ·have g:(x==n)=false:=by simpa using hx
   rw[jd,g] at h;obtain⟨f,e,z⟩:=va (env:=env) (names:=r) h;refine⟨f,?_,z⟩
   show List.lookup x ((if(k==NameKind.free&&env.scope.kind==.function&&env.kindOf n==some .cell)=true then(n,NameKind.cell) else(n,k))::_)=some f
   by_cases hc:(k==NameKind.free&&env.scope.kind==.function&&env.kindOf n==some .cell)=true
   ·rw[zw hc,jd,g];exact e
   ·rw[zq hc,jd,g];exact e
theorem zO{f:List (Str×Addr)}{names:List (Str×NameKind)}{x:Str}{c:Addr}(h:(z6 f names []).lookup x=some c)(hf:∀y∈names,y.2=NameKind.free->∃c,f.lookup y.1=some c):f.lookup x=some c:=by
 rw[vh] at h;by_cases g:(names.any fun y=>y.2==NameKind.free&&x==y.1)=true
 ·rw[zw g] at h
  obtain⟨y,hy,e⟩:=Z2.mp g;simp only[jn,j9] at e;obtain⟨l,j⟩:=hf y hy e.1;rw[<- e.2] at j;rw[j] at h ⊢;exact h
 ·rw[zq g] at h
  cases h
theorem xq{f:List (Str×Addr)}{names:List (Str×NameKind)}{x:Str}(h:names.lookup x=some .free):(z6 f names []).lookup x=some ((f.lookup x).getD 0):=by
 rw[vh,zw];exact Z2.mpr ⟨(x,.free),vt h,by simp⟩
theorem xQ{n:Nat}{f:List Nat}{σ:St}{i:Nat}{v:V}(h:(upS n f σ)[i]? =some (some v)):n<=i/\((upS n f σ).drop n)[i-n]? =some (some v)/\∃j:Nat,f[i-n]? =some j/\σ[j]? =some (some v):=by
 unfold upS at h ⊢;by_cases s:i<n
 ·rw[yf (by simpa using s),List.getElem?_replicate] at h
  split at h<;>cases h
 ·have e:(List.replicate n (none:Option V)++f.map fun j=>(σ[j]?).join).drop n=f.map fun j=>(σ[j]?).join:=by
   rw[List.drop_append_of_le_length (by simp)];simp
  rw[wp (by simpa using s),xc] at h
  refine⟨by omega,by rw[e];exact h,?_⟩
  rw[zX] at h;cases g:f[i-n]? with
  | none=>rw[g] at h;cases h
  | some j=>
   rw[g] at h;have h:(σ[j]?).join=some v:=qW h;refine⟨j,rfl,?_⟩
   cases l:σ[j]? with
   | none=>rw[l] at h;cases h
   | some o=>rw[l] at h;exact congrArg some h
theorem Jq{n:Nat}{f:List Nat}{σ:St}:(upS n f σ).length=n+f.length:=by unfold upS;simp
section
variable{X:Cx}{w E f:Expr}{A:List Expr}{scope:Scope}{G:Pos}{O:TI}{g:TG}{M:TT}{L:TE}
theorem zan{N:List (Addr×Obj)}{σ:St}{H:Hp}{s:Shared}{fp:List Addr}(own fr:List Str)(js:List Nat)(I:Inv X N σ H s)(B:zbV scope.names X.env.scope.names X.N fr js)(hk:scope.kind=.function)
  (f2:∀b∈fp,jf X N H b) (fl:∀b∈fp,b<s.heap.objs.size) {D C:Addr} (hD:D=s.heap.objs.size) {T h1:Heap} (e3:T=s.heap.push { cls:=.type "list",dict:=none,data:=.seq ([]:List Value).toArray }) (hC:C=T.objs.size)
  {m:Str->Option Value} (ae:h1.Ns C m) (k4:∀b o,T.get? b=some o->h1.get? b=some o) {t4:Nat} :
  Inv (zt X (own++fr) scope C { s with heap:=T } H (D::fp)) [] (upS own.length js σ) H { s with heap:=h1,toks:=t4 }:=by
 have k3:∀b o,s.heap.get? b=some o->T.get? b=some o:=fun b o e=>by rw[e3];exact qd _ e
 have Y:Inv X N σ H { s with heap:=T }:=I.kept (t':=s.toks) k3;have hz:T.objs.size=s.heap.objs.size+1:=by rw[e3,jt]
 have J:∀y∈scope.names,y.2=NameKind.free->∃c,X.env.cells.lookup y.1=some c:=fun y hy e=>I.ok.has y.1 (B.free y hy e)
 have Q:∀x c,X.env.cells.lookup x=some c->c<s.heap.objs.size:=fun x c e=>by
  obtain⟨v,q⟩:=I.cell x c e;exact q.lt
 refine⟨⟨I.ok.mod,hk,I.ok.glob,I.ok.blt,vO hC.symm,fun x y c e1 e2=>?_,fun x hx=>?_,fun x c hf=>(nomatch hf),fun hc=>I.ok.hd hc,I.ok.frames,.inl rfl,fun b hb=>?_,Y.bs,jm I.ok.bsz Y.sz,fun b o e hb=>?_,fun b hb hf=>?_,Y.stack,Y.stkFree⟩,
  rfl,I.bare,Un.kept k4,⟨m,ae,fun i x v e1 e2 af=>?_⟩,fun x c e=>?_,?_,fun x c e=>?_,fun p hp=>absurd (show p∈([]:List (Addr×Obj)) from hp) (by simp),Y.hok.kept k4,?_⟩
 ·exact I.ok.inj x y c (zO e1 J) (zO e2 J)
 ·obtain⟨k,e,z⟩:∃k,scope.names.lookup x=some k/\(k=.free):=by
   rcases hx with hx | hx
   ·obtain⟨k,e,z⟩:=xw hx
    rcases z with z | z
    ·subst z;exact absurd rfl (B.cell _ (vt e))
    ·exact⟨k,e,z.1⟩
   ·obtain⟨k,e,z⟩:=xw hx
    rcases z with z | z
    ·subst z;exact⟨_,e,rfl⟩
    ·exact⟨k,e,z.1⟩
  subst z;exact⟨_,xq e⟩
 ·rcases zW.mp hb with z | hb
  ·subst z
   refine⟨by rw[hD,hC,hz];exact z9 (vq _),fun x c e=>?_⟩
   have:=Q x c (zO e J);rw[hD];exact z9 this
  ·refine⟨by rw[hC,hz];exact z9 (w4 (fl b hb)),fun x c e=>?_⟩
   exact(f2 b hb).2.2.2.2.1 x c (zO e J)
 ·rcases zW.mp hb with z | hb
  ·have:=zK (I.bk b o e)
   rw[z,hD] at this;exact xE _ this
  ·rcases(f2 b hb).2.2.2.1 with z | z
   ·exact I.ok.noex b o e z
   ·exact absurd (ju (zK (I.ok.bs b o e).1) z) (xE _)
 ·have aa:=zW.mp (I.stkSub b hf)
  rcases zW.mp hb with z | hb
  ·rcases aa with y | y
   ·have:=I.lt
    rw[<- y,z,hD] at this;exact xE _ this
   ·exact I.nofs (a:=b) (by rw[z,hD];exact zJ _) y
  ·rcases aa with y | y
   ·exact(f2 b hb).2.1 y
   ·exact(f2 b hb).2.2.1 y
 ·obtain⟨hn,_,j,ej,es⟩:=xQ e2
  have ex:fr[i-own.length]? =some x:=by rw[wp hn] at e1;exact e1
  obtain⟨U,j',a0,eN⟩:=B.fr _ x ex;have:j'=j:=by rw[ej] at a0;exact(qW a0).symm
  subst this;have ab:=B.free _ (vt U) rfl;obtain⟨m0,_,hl⟩:=I.loc;obtain⟨u,r,l⟩:=hl j' x v eN es (by rcases ab with z | z;exact .inr (.inl z);exact .inr (.inr z))
  refine⟨u,r,.inr ?_⟩
  rcases l with ⟨kl,_⟩ | ⟨_,c,ec,o,eo,ed⟩
  ·have ac:X.env.scope.names.lookup x=some .local:=kl
   rcases ab with z | z
   ·exact absurd (z.symm.trans ac) (by decide)
   ·exact absurd (z.symm.trans ac) (by decide)
  ·obtain⟨k',e',z⟩:=va (env:=X.env) U
   have eq:(z6 X.env.cells scope.names []).lookup x=some c:=by rw[xq U,ec];rfl
   refine⟨?_,c,eq,o,k4 c o (k3 c o eo),ed⟩
   rcases z with z | z
   ·subst z;exact .inl e'
   ·subst z;exact .inr e'
 ·obtain⟨v,o,eo,ed⟩:=I.cell x c (zO e J)
  exact⟨v,o,k4 c o (k3 c o eo),ed⟩
 ·exact Y.hok.fresh (vO hC.symm)
 ·exact I.freeC x c (zO e J)
 ·rw[Jq,<- B.len]
  show _=(own++fr).length;rw[qG]
inductive LcJ(Y:Cx)(D:Addr)(C:Nat->Heap->Prop)(B:List Addr)(j:List (Addr×Obj))(σ:St)(W:Nat->Nat->List V->Hp->Prop)(n:Nat)(s:Shared):Prop
 | mk (i:Nat) (H:List V) (l:List Value) (u:Hp) (z:Nat) (_:Inv Y j σ u s) (_:C i s.heap) (_:∀b∈B,u b=none) (_:u D=none) (_:s.heap.get? D=some { cls:=.type "list",data:=.seq l.toArray z }) (_:Vals H l) (_:W i n H u):LcJ Y D C B j σ W n s
inductive LcE(Y:Cx)(D:Addr)(j:List (Addr×Obj))(σ:St)(N:List V->Hp->Prop)(s:Shared):Prop
 | mk (B:List V) (l:List Value) (u:Hp) (z:Nat) (_:Inv Y j σ u s) (_:u D=none) (_:s.heap.get? D=some { cls:=.type "list",data:=.seq l.toArray z }) (_:Vals B l) (_:N B u):LcE Y D j σ N s
theorem W8{Y:Cx}{D it:Addr}{C:List Addr}{tn:Nat->Heap->Prop}{J:It}{s:List (Addr×Obj)}{σ4:St}{Kp:St->Prop}{W:Nat->Nat->List V->Hp->Prop}{N:List V->Hp->Prop}{n:Nat}{Q:Shared}
  (hc:Y.calm=true) (hx:Y.xe=fun _ _=>False) (hg:PG Y E g) (hf:PF Y A M) (he:PE Y w L) (T:vY Y.prog Y.w Y.K E J C it tn)
  (fD:∀B:Hp,B D=none->jf Y s B D) (f2:∀b∈C,∀B:Hp,B b=none->jf Y s B b) (nD:∀b∈C,D≠b) (bk:∀σ9 B s',Inv Y s σ9 B s'->Kp σ9->Inv Y s σ4 B s')
  (an:∀i m zs H7,W i m zs H7->(J.stop i H7/\N zs H7)\/(J.go i H7/\∃N2:List V->Hp->Prop,(∀zs B,N2 zs B->∃m',m'<m/\W (i+1) m' zs B)/\∀x H8,J.yld i H7 x H8->g x σ4 H8 fun σ9 H9=>Kp σ9/\M σ9 H9 fun b U=>
    if b=true then L σ9 U fun y ao=>zs.length<sizeLine/\N2 (zs++[y]) ao else N2 zs U)) (j:LcJ Y D tn C s σ4 W n Q) :
  wpAny (model Y.prog Y.w) Y.A (pyNext (.ref it)) (fun r s1=>match r with
   | none=>LcE Y D s σ4 N s1
   | some v=>wpAny (model Y.prog Y.w) Y.A (letOwnedTupleGo E (.ref it) v) (fun _ s2=>wpAny (model Y.prog Y.w) Y.A (assign E Y.env v) (fun _ s3=>
     wpAny (model Y.prog Y.w) Y.A (jA A Y.env) (fun ok s4=>
      if ok=true then wpAny (model Y.prog Y.w) Y.A (eval w Y.env) (fun x Q=>
       wpAny (model Y.prog Y.w) Y.A (call (.builtin "list.append") [.ref D,x]) (fun _ s6=>∃m,m<n/\LcJ Y D tn C s σ4 W m s6) (fun _ _=>False) Q) (fun _ _=>False) s4
      else ∃m,m<n/\LcJ Y D tn C s σ4 W m s4) (fun _ _=>False) s3) (fun _ _=>False) s2) (fun _ _=>False) s1) (fun _ _=>False) Q:=by
 unfold PG at hg;unfold PF at hf;unfold PE at he
 rw[hx] at hg hf he;obtain⟨i,ys,H,H5,z5,I5,am,ai,ar,al,aa,w5⟩:=j;have ah:=I5.pinned (fp:=[D]) (fun b hb=>by rw[qu.mp hb];exact fD _ ar) (fun b hb=>by rw[qu.mp hb];exact⟨_,al,fun v q=>nomatch q⟩)
 have mD:(D,({ cls:=.type "list",data:=.seq H.toArray z5 }:Obj))∈s++zR [D] Q.heap:=qi _ (qD (qu.mpr rfl) al);have af:∀{B:Hp},(∀b∈C,B b=none)->∀b∈C,jf Y (s++zR [D] Q.heap) B b:=fun hn b hb=>by
  obtain⟨a1,a2,a3,a4,a5,a6⟩:=f2 b hb _ (hn b hb);refine⟨a1,a2,a3,a4,a5,fun p hp=>?_⟩
  rcases qC.mp hp with q | q
  ·exact a6 p (wo _ q)
  ·rcases qC.mp q with q | q
   ·exact a6 p (qi _ q)
   ·rw[qu.mp (xU q).1];exact nD b hb
 rcases an i n ys H5 w5 with ⟨stop,q⟩ | ⟨go,N2,hN,step⟩
 ·refine thn (T.done Y rfl rfl rfl hc i _ Q _ H5 _ ah (af ai) am stop) fun r s6 ⟨hr,I6⟩=>?_
  subst hr;obtain⟨o6,aw,_⟩:=I6.pin (D,_) (qi _ mD);exact⟨ys,H,H5,z5,I6.unpinned,aw,o6,aa,q⟩
 ·refine thn (T.item Y rfl rfl rfl hc i _ Q _ H5 _ ah (af ai) am go) fun r s6 ⟨u,hr,h6⟩=>?_
  subst hr;refine thn h6 fun _ s7 ⟨x,H7,I7,r7,y7,ab,aq⟩=>?_
  refine thn (hg _ s7 _ H7 x u _ (I7.pinned (af aq) (T.obj _ _ ab)) r7 (step x H7 y7)) fun _ s8 ⟨σ8,H8,I8,as,q8⟩=>?_
  refine thn (hf _ s8 σ8 H8 _ I8 q8) fun ok s9 ⟨H9,I9,q9⟩=>?_
  have ag:=qi Y.pn (wo (zR C s7.heap) mD);have mF:∀b∈C,∀o,s7.heap.get? b=some o->(b,o)∈Y.pn++((s++zR [D] Q.heap)++zR C s7.heap):=fun b hb o e=>qi _ (qi _ (qD hb e))
  generalize hP:(s++zR [D] Q.heap)++zR C s7.heap=P at I9 ag mF he;have ae:∀{B:Hp} {s':Shared},Inv Y P σ8 B s'->Inv Y s σ4 B s':=fun {B s'} J=>by subst hP;exact bk _ _ _ (J.unpinned).unpinned as
  have aj:∀{B:Hp} {s':Shared},Inv Y P σ8 B s'->∀b∈C,B b=none:=fun {B s'} J b hb=>by
   obtain⟨o,e,_⟩:=T.obj _ _ ab b hb;exact(J.pin (b,o) (mF b hb o e)).2.1
  cases ok with
  | false=>
   obtain⟨m',hm,w'⟩:=hN _ _ (show N2 ys H9 by simpa using q9)
   obtain⟨o9,ax,_⟩:=I9.pin (D,_) ag;exact⟨m',hm,i+1,ys,H,H9,z5,ae I9,T.keep _ _ _ ab fun b hb o e=>(I9.pin (b,o) (mF b hb o e)).1,aj I9,ax,o9,aa,w'⟩
  | true=>
   refine thn (he _ s9 σ8 H9 (fun y H6=>ys.length<sizeLine/\N2 (ys++[y]) H6) I9 (by simpa using q9)) fun yv b0 ⟨y,U,a0,az,au,ba⟩=>?_
   obtain⟨m',hm,w'⟩:=hN _ _ ba;obtain⟨ay,I,_⟩:=a0.pin (D,_) ag;refine wpAny_list_append_plain (l:=D) (items:=H.toArray) (hsz:=by rw[qF,<- aa.length];exact wD au) ⟨_,ay⟩ fun bc ak ac=>?_
   obtain⟨bb,ap⟩:=ak;obtain⟨d0,d1,d2,d3,d4,d5⟩:=fD _ I;refine⟨m',hm,i+1,ys++[y],H++[yv],U,bb,?_,T.keep _ _ _ ab fun b hb o e=>ac.extBut b o (qB (nD b hb)) (a0.pin (b,o) (mF b hb o e)).1,aj a0,I,?_,aa.append (.cons az .nil),w'⟩
   ·exact(ae a0).turned (t':=b0.toks) (it:=D) (fun b o hb e=>ac.extBut b o hb e) I d1 d3 d4 d5
   ·rw[ap];simp
theorem Yk{use:Option (Value->Sem Unit)}{Qx:Value->Shared->Prop}{cp:Pos}{rest:List Comprehension}{j:List (Addr×Obj)}{s:Shared}{σ:St}{H:Hp}{Q:VK}{Tl:It->(Nat->Nat->List V->Hp->Prop)->Prop}(own fr:List Str)(js:List Nat)(hk:scope.kind=.function)(hb:wf scope.names X.env.scope.names X.N fr js=true)(hi:PI X E f O)
  (hs:∀x,foldedSetIterable f X.env x=pure x) (I:Inv X j σ H s) (h:O σ H fun J H1=>∃W:Nat->Nat->List V->Hp->Prop,(∃m,W 0 m [] H1)/\Tl J W)
  (ah:∀(C D it:Addr) (u:List Addr) (tn:Nat->Heap->Prop) (J:It) (W:Nat->Nat->List V->Hp->Prop) (N:Hp) (s3 s4:Shared) (m0:Nat) (R:Result->Shared->Prop),(∀b∈D::u,∀H':Hp,H' b=none->jf (zt X (own++fr) scope C s3 N (D::u)) [] H' b)->(∀b∈u,D≠b) ->
   vY X.prog X.w X.K E J u it tn->Tl J W->LcJ (zt X (own++fr) scope C s3 N (D::u)) D tn u [] (upS own.length js σ) W m0 s4 ->
   (∀Y,LcE (zt X (own++fr) scope C s3 N (D::u)) D [] (upS own.length js σ) (fun ys H5=>ys.length<=sizeLine/\∀D,H5 D=none->Q (.ref D) (upd H5 D (.lst ys))) Y->R (.ok .next) Y) ->
   codeAny (model X.prog X.w) X.A (.compLoop (.ListComp w (⟨E,f,A,0⟩::rest) scope G) 0 (.ref it) (.ref D) (compEnvC scope (z6 X.env.cells scope.names []) C X.env)) R s4)
  (aj:∀(Y:Shared) (D C:Addr) (H6:Hp) (m:Str->Option Value),Y.heap.Ns C m->(∀h7:Heap,(∀b o,b≠C->Y.heap.get? b=some o->h7.get? b=some o)->Inv X j σ H6 { Y with heap:=h7 })->jf X j H6 C->Q (.ref D) H6->compPost (model X.prog X.w) X.A X.xe use Qx (.ref D) C (.ok .next) Y) :
  wpAny (model X.prog X.w) X.A (comprehension (.ListComp w (⟨E,f,A,0⟩::rest) scope G) scope X.env cp (newList []) false (eval f X.env) use) Qx X.xe s:=by
 have B:=Vp hb;have a0:∀y∈scope.names,y.2=NameKind.free->∃c,X.env.cells.lookup y.1=some c:=fun y hy e=>I.ok.has y.1 (B.free y hy e)
 refine wpAny_comprehension_free rfl hs (JP a0) hk (fun y hy e=>B.loc y hy e) (thn (hi j s σ H _ I h) fun v s1 h1=>thn h1 fun ar l h2=>?_)
 obtain⟨it,u,tn,J,N,e,I2,T,ae,f2,W,⟨m0,w0⟩,tl⟩:=h2;subst e;have fl:∀b∈u,b<l.heap.objs.size:=fun b hb=>let ⟨o,e,_⟩:=T.obj _ _ ae b hb;zK e
 refine x5 (wpAny_newFunctionEnv B.cell (by intro y hy;simp at hy) (fun h1 ab ac=>?_) hk)
 dsimp only at ab ac ⊢;generalize e3:l.heap.push { cls:=.type "list",dict:=none,data:=.seq ([]:List Value).toArray }=U at ab ac ⊢;have k3:∀b o,l.heap.get? b=some o->U.get? b=some o:=fun b o e=>by rw[<- e3];exact qd _ e
 have k4:∀b o,U.get? b=some o->h1.get? b=some o:=fun b o e=>ac.extBut b o (z9 (zK e)) (qd _ e)
 have I4:Inv (zt X (own++fr) scope U.objs.size { l with heap:=U } N (l.heap.objs.size::u)) [] (upS own.length js σ) N { l with heap:=h1,toks:=l.toks+([]:List (Str×Value)).length }:=
  zan own fr js I2 B hk f2 fl rfl e3.symm rfl ab k4
 have I3:Inv X j σ N { l with heap:=U }:=I2.kept (t':=l.toks) k3;have hz:U.objs.size=l.heap.objs.size+1:=by rw[<- e3,jt]
 have aa:l.heap.objs.size≠U.objs.size:=by rw[hz];exact z9 (vq _)
 have af:h1.get? l.heap.objs.size=some { cls:=.type "list",data:=.seq ([]:List Value).toArray }:=k4 _ _ (by rw[<- e3];exact qy _ rfl)
 have al:=(I3.fpOk (b:=U.objs.size) (zJ _) (I3.hok.fresh (zJ _))).2;have dN:N l.heap.objs.size=none:=I2.hok.fresh (zJ _);have dO:=I2.fpOk (b:=l.heap.objs.size) (zJ _) dN;have fD:∀b∈u,l.heap.objs.size≠b:=fun b hb=>vm (fl b hb)
 generalize l.heap.objs.size=D at *
 generalize eC:U.objs.size=C at *
 have hx:∀b,jf X j N b->∀x c,(z6 X.env.cells scope.names []).lookup x=some c->c≠b:=fun b hb x c e=>hb.2.2.2.2.1 x c (zO e a0)
 have ap:∀b∈D::u,b∉frs X.stack:=I4.ok.exfs;have nC:∀b∈D::u,b≠C:=fun b hb=>by
  rcases zW.mp hb with z | hb
  ·rw[z];exact aa
  ·exact(I4.ok.exf b (jv _ hb)).1
 have all:∀b∈D::u,jf X j N b:=fun b hb=>by
  rcases zW.mp hb with z | hb
  ·rw[z];exact dO
  ·exact f2 b hb
 have ak:∀b∈D::u,∀H':Hp,H' b=none->jf (zt X (own++fr) scope C { l with heap:=U } N (D::u)) [] H' b:=fun b hb H' hn=>
  ⟨hn,nC b hb,ap b hb,.inl hb,fun x c e=>hx b (all b hb) x c e,fun p h=>absurd h (by simp)⟩
 have go:∀s4:Shared,s4={ l with heap:=h1,toks:=l.toks+([]:List (Str×Value)).length } ->
   codeAny (model X.prog X.w) X.A (.compLoop (.ListComp w (⟨E,f,A,0⟩::rest) scope G) 0 (.ref it) (.ref D) (compEnvC scope (z6 X.env.cells scope.names []) C X.env)) (compPost (model X.prog X.w) X.A X.xe use Qx (.ref D) C) s4:=by
  intro s4 e4;subst e4;refine ah C D it u tn J W N _ _ m0 _ ak fD T tl ⟨0,[],[],N,0,I4,T.keep _ _ _ ae fun b hb o e=>k4 b o (k3 b o e),fun b hb=>(f2 b hb).1,dN,af,.nil,w0⟩ fun Y h6=>?_
  obtain⟨ys,ao,H5,z5,I6,ai,o6,aq,ag,q⟩:=h6;obtain⟨m6,an,_⟩:=I6.loc;have am:upd H5 D (.lst ys) C=none:=by rw[zm (qB aa)];exact I6.free
  refine aj Y D C (upd H5 D (.lst ys)) m6 an (fun h7 k7=>?_) ⟨am,al⟩ (q D ai)
  refine I3.call' (s':={ Y with heap:=h7 }) (ch:=D::u) I6.os (Zj (Vx I6.base (vO eC) k7) xn dN) (yq (JI I6.hok I6.free k7) ai ⟨ag,ao,z5,aq,k7 D _ aa o6⟩) I6.bare fun b hb=>?_
  obtain⟨_,g1,_,g3,g4,g5⟩:=all b hb;exact⟨g3,g1,g4,g5⟩
 exact codeAny_compStart_list (go _ rfl) (T.self X.A 0 _ _ _ (T.keep _ _ _ ae fun b hb o e=>k4 b o (k3 b o e)) (go _ rfl))
theorem Xp{Y:Cx}{j:List (Addr×Obj)}{n:Nat}{l:List Nat}{σ C:St}{s:Hp}{B:Shared}(H:(upS n l σ).length=Y.N.length)(J:Inv Y j C s B)(D:C.drop n=(upS n l σ).drop n):Inv Y j (upS n l σ) s B:=by
 refine J.weak (H.trans J.len.symm) fun k v e=>?_
 obtain⟨I,u,_⟩:=xQ e;rw[<- D,Jj] at u;rw[<- u];congr 1
 omega
theorem W9{C D it:Addr}{l:List Addr}{tn:Nat->Heap->Prop}{J:It}{W:Nat->Nat->List V->Hp->Prop}{H2:Hp}{s3 s4:Shared}{m0 n:Nat}{R:Result->Shared->Prop}{U:List Nat}{σ:St}{u:List Str}{N:List V->Hp->Prop}(hc:X.calm=true)
  (hg:∀C s H ex,PG (zt X u scope C s H ex) E g) (hf:∀C s H ex,PF (zt X u scope C s H ex) A M) (he:∀C s H ex,PE (zt X u scope C s H ex) w L) (aa:∀b∈D::l,∀Q:Hp,Q b=none->jf (zt X u scope C s3 H2 (D::l)) [] Q b) (fD:∀b∈l,D≠b) (T:vY X.prog X.w X.K E J l it tn)
  (ab:∀i m B H7,W i m B H7->(J.stop i H7/\N B H7)\/(J.go i H7/\∃N2:List V->Hp->Prop,(∀B Q,N2 B Q->∃m',m'<m/\W (i+1) m' B Q)/\∀x H8,J.yld i H7 x H8->g x (upS n U σ) H8 fun σ9 H9=>σ9.drop n=(upS n U σ).drop n/\M σ9 H9 fun b a0=>
    if b=true then L σ9 a0 fun y ac=>B.length<sizeLine/\N2 (B++[y]) ac else N2 B a0))
  (j:LcJ (zt X u scope C s3 H2 (D::l)) D tn l [] (upS n U σ) W m0 s4) (ae:∀s6,LcE (zt X u scope C s3 H2 (D::l)) D [] (upS n U σ) N s6->R (.ok .next) s6) :
  codeAny (model X.prog X.w) X.A (.compLoop (.ListComp w [⟨E,f,A,0⟩] scope G) 0 (.ref it) (.ref D) (compEnvC scope (z6 X.env.cells scope.names []) C X.env)) R s4:=by
 have hl:=(let ⟨_,_,_,_,_,I,_,_,_,_,_,_⟩:=j;I.len:(upS n U σ).length=u.length)
 refine Vo (LcJ (zt X u scope C s3 H2 (D::l)) D tn l [] (upS n U σ) W) (fun k s5 j=>zP (W8 (Y:=zt X u scope C s3 H2 (D::l)) hc rfl (hg _ _ _ _) (hf _ _ _ _) (he _ _ _ _) T (aa D xn) (fun b hb=>aa b (jv _ hb)) fD (fun σ9 Q s' J hd=>Xp hl J hd) ab j) (fun r s6 h6=>?_) fun _ _ q=>q) m0 j
 cases r with
 | some v=>exact h6
 | none=>exact ae s6 h6
theorem zdb(own u:List Str)(U:List Nat)(hc:X.calm=true)(hk:scope.kind=.function)(hb:wf scope.names X.env.scope.names X.N u U=true)(hi:PI X E f O)
  (hg:∀C s H l,PG (zt X (own++u) scope C s H l) E g) (hf:∀C s H l,PF (zt X (own++u) scope C s H l) A M) (he:∀C s H l,PE (zt X (own++u) scope C s H l) w L)
  (hs:∀x,foldedSetIterable f X.env x=pure x:=by intro _;rfl):PE X (.ListComp w [⟨E,f,A,0⟩] scope G) (tLC O own.length U g M L):=by
 intro Y s σ H Q I h;rw[eval_ListComp];exact Yk (rest:=[]) own u U hk hb hi hs I h (fun C D it fp tn J W H2 s3 s4 m0 R a b T tl j B=>W9 hc hg hf he a b T tl j B) fun s6 D C H6 m hn all _ q=>⟨m,hn,fun h7 N=>⟨.ref D,H6,all h7 fun b o hb e=>N.extBut b o hb e,rfl,q⟩⟩
end
section
variable{X:Cx}{f:List (Addr×Obj)}{σ:St}{H:Hp}{s:Shared}
theorem JG{ch:List Addr}{h':Heap}{t':Nat}{T:Addr}{j:List V}{its:List Value}(I:Inv X f σ H s)(hf:∀b∈ch,jf X f H b)(l:s.heap.objs.size<=T)
  (k:∀b o,b∉ch->s.heap.get? b=some o->h'.get? b=some o) (J:j.length<=sizeLine) (O:Vals j its) (M:TupX h' T its.toArray) :
  Inv X f σ (upd H T (.tup j)) { s with heap:=h',toks:=t' }:=by
 have g:H T=none:=I.hok.fresh l;have N:∀b o,s.heap.get? b=some o->b≠T:=fun b o e=>z9 (ju (zK e) l)
 have w:∀b u,H b=some u->b∉ch:=fun b u e hb=>by rw[(hf b hb).1] at e;cases e
 refine I.step (g':=s.gens) (d':=s.drawn) (ch:=ch) (fun b hb=>?_) (fun b o _ _ hc e _=>k b o hc e) (fun b o _ _ hc e _=>⟨o.slots,k b o hc e⟩) (fun b o _ e n=>by rw[zm (N b o e)];exact n) (fun b o hc e=>⟨o,k b o hc e⟩)
  (fun b Q e=>by rw[zm (zi e g)];exact e) (fun b o u e=>by rw[zm (zi e g)];exact e) (fun b ps e=>⟨#[],by rw[zm (zi e g),e];simp⟩) (fun m hm=>?_) (fun b u e=>?_) I.bare
 ·obtain⟨_,C,_,D,E,G⟩:=hf b hb
  exact⟨D,C,E,G⟩
 ·obtain⟨o,B,A,L,r⟩:=hm
  exact⟨o,B,A,k _ o (fun z=>(hf _ z).2.1 rfl) L,r⟩
 ·by_cases hb:b=T
  ·subst hb
   rw[zd] at e;cases e;exact⟨J,its,O,M⟩
  ·rw[zm hb] at e
   refine(I.hok b u e).stay (fun c v hc q=>k c v ?_ q) (fun c q=>by rw[zm (zi q g)];exact q) fun c Q q=>by rw[zm (zi q g)];exact q
   rcases hc with z | z
   ·rw[z];exact w b u e
   ·exact w c _ z
end
def Ite(K:W.Frag)(a:Addr):It:=
 ⟨fun i H=>∃f x,SqL K H a f/\f[i]? =some x,fun i H x g=>∃T y,x=.ref T/\H T=none/\g=upd H T (.tup [.int i,y])/\∀f,SqL K H a f->f[i]? =some y,fun i H=>∃f,SqL K H a f/\f.length<=i⟩
theorem YR{P:Program}{w:World}{K:W.Frag}{N:List Expr}{kk:Nat}{aj:Pos}(a e j:Addr)(G:e≠j) :
  vY P w K (.Tuple N kk aj) (Ite K a) [e,j] e (fun i h=>(∃B,IsEnum h e j i B)/\h.IsListIter j a i) where
 mem:=by simp
 obj:=fun i h st b hb=>by
  obtain⟨⟨B,f⟩,⟨o,ho,c,d⟩⟩:=st;rcases zW.mp hb with z | z
  ·subst z;exact⟨_,f,fun v q=>nomatch q⟩
  ·rw[qu.mp z];exact⟨o,ho,fun v q=>by rw[d] at q;cases q⟩
 keep:=fun i h h' st k=>by
  obtain⟨⟨B,f⟩,hi⟩:=st;exact⟨⟨B,k e (by simp) _ f⟩,hi.at fun o q=>k j (by simp) o q⟩
 item:=by
  intro X hP hw hK hc i Y s σ H E I hf st hg;subst hP hw hK;obtain⟨⟨B,f⟩,g⟩:=st;obtain⟨xs,x,hq,hx⟩:=hg;obtain⟨l,rv,p,hz⟩:=I.list hq;obtain⟨u,hu,ru⟩:=rv.get hx;have M:=p.isList;have O:a≠j:=fun z=>by
   obtain⟨o,C,c1,_⟩:=M;obtain⟨o',e2,c2,_⟩:=g;rw[z,e2] at C;cases C;rw[c2] at c1;exact absurd (yP c1) (by decide)
  have aa:e≠a:=fun z=>by
   obtain⟨o,C,c1,_⟩:=M;rw[<- z,f] at C;cases C;exact absurd (yP c1) (by decide)
  have D:=Draws.list (prog:=X.prog) (w:=X.w) (A:=X.A.in1) (I.ok.hd hc) j a O l.toArray;have hi:i<l.toArray.size:=by
   have h1:=(zZ.mp hu).1;simpa using h1
  refine wpAny_pyNext_enum_itemD D f ⟨g,M⟩ hi G (by simp[G,aa]) fun x' h' tk a0 Q U hT am hk=>?_
  have ex:x'=u:=by
   have L:l[i]? =some x':=by simpa using a0
   rw[hu] at L;exact(qW L).symm
  subst ex;refine⟨_,rfl,wpAny_letOwnedTupleGo_enum Q fun L af J=>?_⟩
  have eT:s.heap.objs.size≠e:=vm (zK f);have k2:∀b o,b∉[e,j]->s.heap.get? b=some o->L.get? b=some o:=fun b o hb q=>by
   have n1:b≠e:=fun z=>hb (by simp[z])
   have n2:b≠j:=fun z=>hb (by simp[z])
   exact(J.2 b n1).trans (hk b o n1 n2 q)
  have ai:L.IsListIter j a (i+1):=U.1.extBut J.extBut (qB G);refine⟨.ref s.heap.objs.size,upd H s.heap.objs.size (.tup [.int i,x]),?_,rfl,⟨_,x,rfl,I.hok.fresh (zJ _),rfl,fun ys hy=>by rw[I.list_inj hy hq];exact hx⟩,⟨⟨_,by simpa using af⟩,ai⟩,fun b hb=>?_⟩
  ·refine JG (s:=s) (h':=L) (t':=tk+1) (its:=[.int i tk,x']) I hf (zJ _) k2 (by rw[sizeLine_eq];exact(by decide:2<=16777216)) (.cons ⟨tk,rfl⟩ (.cons ru .nil)) (TupX.by ((J.2 _ eT).trans hT))
  ·have ab:b<s.heap.objs.size:=by
    rcases zW.mp hb with z | z
    ·rw[z];exact zK f
    ·rw[qu.mp z]
     obtain⟨o',e',_⟩:=g;exact zK e'
   rw[zm (z9 ab)];exact(hf b hb).1
 done:=by
  intro X hP hw hK hc i Y s σ H E I hf st hg;subst hP hw hK;obtain⟨⟨B,f⟩,g⟩:=st;obtain⟨xs,hq,hx⟩:=hg;obtain⟨l,rv,p,hz⟩:=I.list hq;have M:=p.isList;have O:a≠j:=fun z=>by
   obtain⟨o,C,c1,_⟩:=M;obtain⟨o',e2,c2,_⟩:=g;rw[z,e2] at C;cases C;rw[c2] at c1;exact absurd (yP c1) (by decide)
  obtain⟨f0,f1,f2,f3,f4,f5⟩:=hf j (by simp)
  have ag:l.toArray.size<=i:=by
   have:=rv.length;simp only[qF];omega
  have hT:s.TypeIs (.ref e) "enumerate" :=⟨_,f,rfl⟩;unfold pyNext;refine zj (yz (yc (name:=Str.ofString "__next__") hT Xg (wm Xg hT F.entry_enumerate_next ?_ (F.args_enumerate_next_1 _))))
  show wpAny _ _ (field (.ref e) 2 >>= _) _ _ _;refine zj (xb f rfl (x:=.ref j) rfl (zj (wpAny_nextOf_list_end (I.ok.hd hc) g M (by simpa using ag) fun h' x ae ah=>?_)))
  obtain⟨o,ho,ac⟩:=ah;refine zj (yE (T:= "StopIteration") (b:=true) ⟨o,ho,ac⟩ isSubtype_stop ?_)
  exact zB ⟨rfl,I.turned (t':=s.toks) (fun b o hb q=>ae b o hb q) f0 f1 f3 f4 f5⟩
 self:=fun _ _ _ _ _ st h=>let ⟨⟨_,f⟩,_⟩:=st;wpAny_pyIter_enum f h
section
variable{X:Cx}
def ze0(K:W.Frag)(g:TA):TI:=fun σ H R=>g σ H fun j f=>∃a,j=[.ref a]/\(∃l,SqL K f a l)/\R (Ite K a) f
theorem Zf{l:Expr}{E:TA}{p A tp:Pos}{j:List Expr}{T:Nat}(L:Gl X "enumerate")(hm:X.mg "enumerate" = none)(ha:PA X [l] E)(N:starEach [l] X.env=[(false,eval l X.env)]:=by rfl) :
  PI X (.Tuple j T tp) (.Call (.Name "enumerate" p) [l] [] A) (ze0 X.K E):=by
 intro f s σ H R I h;refine Call_ (xN I L hm boot_enumerate (yY (thn (ha A f s σ H _ I h) fun us g ⟨vs,C,B,r1,Y⟩=>?_) N rfl))
 obtain⟨a,e,⟨xs,hq⟩,q⟩:=Y;subst e;obtain⟨u,rfl,ru⟩:=vy r1;cases ru;obtain⟨Q,rv,U,hz⟩:=B.list hq;refine call_enumerate_list U.isList fun J D M O hk=>wpAny_pyIter_enum D ?_
 have G:Inv X f σ C { g with heap:=J }:=B.kept (t':=g.toks) hk;refine⟨g.heap.objs.size+1,[g.heap.objs.size+1,g.heap.objs.size],_,_,C,rfl,G,YR a _ _ (Nat.succ_ne_self _),⟨⟨_,D⟩,M⟩,fun b hb=>?_,q⟩
 have w:g.heap.objs.size<=b:=by
  rcases zW.mp hb with z | z
  ·rw[z];exact yu _
  ·rw[qu.mp z];exact zJ _
 exact B.fpOk w (B.hok.fresh w)
theorem ZL{K:W.Frag}{a:Addr}{xs:List V}{g:TG}{A:TS}{D:Qg}{σ:St}{H:Hp}(Pv:Nat->St->Hp->Prop)(E:Pv 0 σ H)(L:∀i σ H,i<=xs.length->Pv i σ H->SqL K H a xs)
  (M:∀i x σ H T,xs[i]? =some x->Pv i σ H->H T=none->g (.ref T) σ (upd H T (.tup [.int i,x])) fun u l=>A { D with nx:=Pv (i+1),ct:=Pv (i+1),bk:=D.nx } u l) (I:∀σ H,Pv xs.length σ H->D.nx σ H) :
  ∃W:Nat->Nat->St->Hp->Prop,(∃m,W 0 m σ H)/\∀i m σ H,W i m σ H ->
   ((Ite K a).stop i H/\D.nx σ H)\/((Ite K a).go i H/\∃N:St->Hp->Prop,(∀s f,N s f->∃w,w<m/\W (i+1) w s f)/\∀x f,(Ite K a).yld i H x f->g x σ f fun u l=>A { D with nx:=N,ct:=N,bk:=D.nx } u l):=by
 refine⟨fun i m σ H=>m=xs.length-i/\i<=xs.length/\Pv i σ H,⟨xs.length,by simp,qQ _,E⟩,?_⟩
 rintro i m σ H ⟨rfl,J,p⟩;have q:=L i σ H J p;by_cases j:i<xs.length
 ·refine .inr ⟨⟨xs,xs[i],q,by simp[j]⟩,Pv (i+1),fun s f O=>⟨xs.length-(i+1),by omega,rfl,j,O⟩,fun x f y=>?_⟩
  obtain⟨T,z,B,G,C,y⟩:=y;subst B C;exact M i z σ H T (y xs q) p G
 ·have e:i=xs.length:=by omega
  subst e;exact .inl ⟨⟨xs,q,zJ _⟩,I σ H p⟩
inductive y9(K:W.Frag)(g:List V)(H:Hp)(Q:VK):Prop
 | mk (p:Addr) (f:List Bool) (_:g=[.ref p]) (_:SqL K H p (f.map V.bl)) (_:Q (.bl (f.all id)) H):y9 K g H Q
theorem jX(hc:X.calm=true):CallR X (.builtin "all") (y9 X.K):=by
 intro N s σ H xs us Q I r h;obtain⟨p,f,rfl,hq,q⟩:=h;obtain⟨u,rfl,G⟩:=vy r;cases G;obtain⟨g,J,pl,hz⟩:=I.list hq;have D:=pl.isList;have E:p≠s.heap.objs.size:=by
  obtain⟨o,e,_⟩:=D;exact z9 (zK e)
 refine call_all_walk (wpAny_pyIter_list D ?_)
 refine⟨s.heap.objs.size,_,_,_,_,_,fun i=>f.getD i true,rfl,Walks.list (prog:=X.prog) (w:=X.w) (A:=X.A.in1) (I.ok.hd hc) _ p E g.toArray,⟨⟨_,qy _ rfl,rfl,rfl⟩,D.push _⟩,?_,fun h' tk hk=>?_⟩
 ·intro i v s' T E' C hQ
  have C:g.toArray[i]? =some v:=C;have L:g[i]? =some v:=by simpa using C
  have j:i<f.length:=by
   have h1:=(zZ.mp L).1;have h2:=J.length;rw[zx] at h2;omega
  have U:(f.map V.bl)[i]? =some (.bl f[i]):=by simp[j]
  obtain⟨u',M,G⟩:=J.get U;rw[L] at M;cases M;cases G;have Y:f.getD i true=f[i]:=by simp[j]
  have l:T (f.getD i true) s':=hQ;rw[Y] at l;exact ya l
 ·have k:∀b o,s.heap.get? b=some o->h'.get? b=some o:=fun b o e=>hk b o (by simp;exact z9 (zK e)) (qd _ e)
  have ea:(List.range g.toArray.size).all (fun i=>f.getD i true)=f.all id:=by
   have B:g.toArray.size=f.length:=by
    have:=J.length;rw[zx] at this;simp only[qF];omega
   rw[B,yS,xm,xm];constructor
   ·intro h b hb
    obtain⟨i,j,rfl⟩:=Z4.mp hb;have:=h i (wX.mpr j);simpa [j] using this
   ·intro h i j
    have j:=wX.mp j;have:=h f[i] (xZ j);simpa [j] using this
  exact⟨.bl (f.all id),H,I.kept k,by rw[ea];rfl,q⟩
end
def SqK(K:W.Frag)(g:Bool)(H:Hp)(a:Addr)(f:List V):Prop:=match g with
 | true=>SqL K H a f
 | false=>SqT K H a f
def SeqK(g:Bool)(h:Heap)(a:Addr)(f:Array Value):Prop:=match g with
 | true=>h.IsList a f
 | false=>h.IsTuple a f
def ItrK(g:Bool)(h:Heap)(f a:Addr)(i:Nat):Prop:=match g with
 | true=>h.IsListIter f a i
 | false=>h.IsTupleIter f a i
theorem SeqK.at{kd:Bool}{h g:Heap}{a:Addr}{f:Array Value}(x:SeqK kd h a f)(k:∀o,h.get? a=some o->g.get? a=some o):SeqK kd g a f:=by
 cases kd with
 | true=>exact Heap.IsList.at x k
 | false=>obtain⟨o,e,r⟩:=(show h.IsTuple a f from x);exact⟨o,k o e,r⟩
theorem ItrK.at{kd:Bool}{h g:Heap}{f a:Addr}{i:Nat}(x:ItrK kd h f a i)(k:∀o,h.get? f=some o->g.get? f=some o):ItrK kd g f a i:=by
 cases kd with
 | true=>exact Heap.IsListIter.at x k
 | false=>obtain⟨o,e,r⟩:=(show h.IsTupleIter f a i from x);exact⟨o,k o e,r⟩
theorem ItrK.obj{g:Bool}{h:Heap}{f a:Addr}{i:Nat}(x:ItrK g h f a i):∃o,h.get? f=some o/\(o.cls=.type "list_iterator" \/ o.cls=.type "tuple_iterator")/\∀v,o.data≠.cell v:=by
 cases g with
 | true=>obtain⟨o,e,c,d⟩:=(show h.IsListIter f a i from x);exact⟨o,e,.inl c,fun v q=>by rw[d] at q;cases q⟩
 | false=>obtain⟨o,e,c,d⟩:=(show h.IsTupleIter f a i from x);exact⟨o,e,.inr c,fun v q=>by rw[d] at q;cases q⟩
theorem SeqK.cls{g:Bool}{h:Heap}{a:Addr}{f:Array Value}(x:SeqK g h a f):∃o,h.get? a=some o/\(o.cls=.type "list" \/ o.cls=.type "tuple")/\∃n,o.data=.seq f n:=by
 cases g with
 | true=>obtain⟨o,e,c,n,d⟩:=(show h.IsList a f from x);exact⟨o,e,.inl c,n,d⟩
 | false=>obtain⟨o,e,c,n,d⟩:=(show h.IsTuple a f from x);exact⟨o,e,.inr c,n,d⟩
section
variable{l:Program}{w:World}{A:Around}{E:Value->Shared->Prop}{s:Shared}
theorem vf{kd:Bool}{g a:Addr}{i:Nat}{j:Array Value}{x:Value}{Q:Value->Shared->Prop}(I:ItrK kd s.heap g a i)(J:SeqK kd s.heap a j)(hx:j[i]? =some x)
  (H:∀C,ItrK kd C g a (i+1)->Heap.SameBut g s.heap C->Q x { s with heap:=C }):wpAny (model l w) A (Builtin.SmallTypes.nextOf (.ref g)) Q E s:=by
 cases kd with
 | true=>exact wpAny_nextOf_list_item I J hx H
 | false=>
  have f:s.heap.IsTupleIter g a i:=I;obtain⟨o,B,hc,u⟩:=id f;obtain⟨N,G,_,M,D⟩:=(show s.heap.IsTuple a j from J)
  unfold Builtin.SmallTypes.nextOf;refine zj (yc (name:=Str.ofString "__next__") f.typeIs Xi (wm Xi f.typeIs zbN ?_ (zbO _)))
  show wpAny _ _ (field (.ref g) 0 >>= _) _ _ _;refine zj (xb B u (x:=.ref a) rfl ?_)
  show wpAny _ _ (if(Value.ref a==Value.none)=true then _ else _) _ _ _;rw[zq (show ¬((Value.ref a==Value.none)=true) from qx)]
  show wpAny _ _ (field (.ref g) 1 >>= _) _ _ _;refine zj (xb B u (x:=.int i 0) rfl ?_)
  show wpAny _ _ (seqItems? (.ref a) >>= _) _ _ _;refine zj (yO G D ?_);simp only[Z3,hx]
  refine zj (wpAny_setField B u (by simp) (zB ⟨x,rfl,zB (H _ (show Heap.IsTupleIter _ _ _ _ from ?_) (Xf ..))⟩))
  refine⟨_,We _ B (Obj.isFreed_of_fields (Xe u _)),(Obj.cls_mapFields ..).trans hc,?_⟩;rw[Xe u];simp[rawInt]
theorem vS{kd:Bool}{j a:Addr}{i:Nat}{g:Array Value}{Q:Value->Shared->Prop}(D:A.handled=none)(J:ItrK kd s.heap j a i)(L:SeqK kd s.heap a g)(hx:g[i]? =none)
  (I:∀u e,Heap.ExtBut j s.heap u->(∃o,u.get? e=some o/\o.cls=.type "StopIteration")->E (.ref e) { s with heap:=u }):wpAny (model l w) A (Builtin.SmallTypes.nextOf (.ref j)) Q E s:=by
 cases kd with
 | true=>exact wpAny_nextOf_list_end D J L hx I
 | false=>
  have f:s.heap.IsTupleIter j a i:=J;obtain⟨o,G,hc,B⟩:=id f;obtain⟨O,H,_,N,C⟩:=(show s.heap.IsTuple a g from L)
  unfold Builtin.SmallTypes.nextOf;refine zj (yc (name:=Str.ofString "__next__") f.typeIs Xi (wm Xi f.typeIs zbN ?_ (zbO _)))
  show wpAny _ _ (field (.ref j) 0 >>= _) _ _ _;refine zj (xb G B (x:=.ref a) rfl ?_)
  show wpAny _ _ (if(Value.ref a==Value.none)=true then _ else _) _ _ _;rw[zq (show ¬((Value.ref a==Value.none)=true) from qx)]
  show wpAny _ _ (field (.ref j) 1 >>= _) _ _ _;refine zj (xb G B (x:=.int i 0) rfl ?_)
  show wpAny _ _ (seqItems? (.ref a) >>= _) _ _ _;refine zj (yO H C ?_);simp only[Z3,hx]
  refine zj (wC (zj (wpAny_setField G B (by simp) ?_)));show wpAny _ _ (newExc (.type "StopIteration") [] >>= _) _ _ _
  refine zj ?_;simp only[newExc,newTuple];refine zj (x5 ?_ (by size_fits))
  refine zj (m:=firstArgMember _ _) (wpAny_of_eq (a:=Value.none) (by first| rfl | (simp only[firstArgMember];rfl)) (x5 ?_ (by size_fits)))
  simp only[raiseNew];refine zj (wpAny_handled ?_);first| rw[show A.in1.handled=none from D] | rw[D]
  exact zj (zB (wpAny_throw (I _ _ (((Xf ..).extBut.push _).push _) ⟨_,qy _ rfl,rfl⟩)))
structure Jl(k1 k2:Bool)(h:Heap)(z TI TO i1 i2 a1 a2:Addr)(i:Nat):Prop where
 zz:IsZip h z TI TO .none
 ti:IsPair h TI (.ref i1) (.ref i2)
 to:∃a b,IsPair h TO a b
 r1:ItrK k1 h i1 a1 i
 r2:ItrK k2 h i2 a2 i
structure Yp(z TI TO i1 i2:Addr):Prop where
 a:TI≠z
 b:TO≠z
 c:i1≠z
 d:i2≠z
 e:TI≠TO
 f:TI≠i1
 g:TI≠i2
 h:TO≠i1
 i:TO≠i2
 j:i1≠i2
theorem Yr{k1 k2:Bool}{z TI TO j G a1 a2:Addr}{i:Nat}{xs ys:Array Value}{x y:Value}{Q:Option Value->Shared->Prop}(N:Yp z TI TO j G)(Z:Jl k1 k2 s.heap z TI TO j G a1 a2 i)
  (l1:SeqK k1 s.heap a1 xs) (l2:SeqK k2 s.heap a2 ys) (m1:∀b∈[z,TO,j,G],a1≠b) (m2:∀b∈[z,TO,j,G],a2≠b) (hx:xs[i]? =some x) (hy:ys[i]? =some y)
  (hQ:∀H,IsZip H z TI TO (rawInt s.heap.objs.size)->IsPair H TI (.ref j) (.ref G)->(∃a b,IsPair H TO a b)->ItrK k1 H j a1 (i+1)->ItrK k2 H G a2 (i+1)->IsPair H s.heap.objs.size x y->H.objs.size=s.heap.objs.size+1 ->
   (∀c o,c∉[z,TO,j,G]->s.heap.get? c=some o->H.get? c=some o)->Q (some (.ref s.heap.objs.size)) { s with heap:=H }):wpAny (model l w) A (pyNext (.ref z)) Q E s:=by
 obtain⟨hz,ac,⟨a,b,ah⟩,h1,h2⟩:=Z;have hT:s.TypeIs (.ref z) "zip" :=⟨_,hz,rfl⟩;unfold pyNext;refine zj (yz (yc (name:=Str.ofString "__next__") hT Xa (wm Xa hT F.entry_zip_next ?_ (F.args_zip_next_1 _))))
 show wpAny _ _ (field (.ref z) 2 >>= _) _ _ _;refine zj (xb hz rfl (x:=.bool false) rfl ?_)
 show wpAny _ _ (field (.ref z) 3 >>= _) _ _ _;refine zj (xb hz rfl (x:=.ref TI) rfl (zj (yO ac rfl ?_)))
 show wpAny _ _ (Builtin.SmallTypes.ownedTupleIsFree (.ref z) >>= _) _ _ _;refine zj ?_
 unfold Builtin.SmallTypes.ownedTupleIsFree;refine zj (xb hz rfl (x:=.none) rfl (zB ?_));simp only[if_true]
 refine zj (wC (zj (xb hz rfl (x:=.ref TO) rfl (zj (Ji hz (by simp) fun g1 a0 B=>?_)))))
 replace a0:IsZip g1 z TI TO .ellipsis:=a0
 refine zj ?_;simp only[List.zipIdx_cons,List.zipIdx_nil,ZZ,J9]
 refine zj (zj (wpAny_onRaise ?_));show wpAny _ _ (Builtin.SmallTypes.nextOf (.ref j) >>= _) _ _ _
 refine zj (vf (h1.at fun o e=>B.extBut _ o N.c e) (l1.at fun o e=>B.extBut _ o (m1 z (by simp)) e) hx fun g2 af I=>zB ?_)
 have M:IsPair g2 TO a b:=I.extBut _ _ N.h (B.extBut _ _ N.b ah);refine zj (yO M rfl (zj (wpAny_updateSeq_pair M fun g3 u J=>?_)))
 replace u:IsPair g3 TO x b:=u
 refine zj (wpAny_letGo (zB ?_));refine zj (zj (wpAny_onRaise ?_));show wpAny _ _ (Builtin.SmallTypes.nextOf (.ref G) >>= _) _ _ _
 have T:∀c o,c∉[z,TO,j]->s.heap.get? c=some o->g3.get? c=some o:=fun c o hc e=>J.extBut _ o (fun q=>hc (by simp[q])) (I.extBut _ o (fun q=>hc (by simp[q])) (B.extBut _ o (fun q=>hc (by simp[q])) e))
 refine zj (vf (h2.at fun o e=>T _ o (by simp[N.d,qB N.i,qB N.j]) e) (l2.at fun o e=>T _ o (by simp[m2 z (by simp),m2 TO (by simp),m2 j (by simp)]) e) hy fun g4 ag C=>zB ?_)
 have O:IsPair g4 TO x b:=C.extBut _ _ N.i u;refine zj (yO O rfl (zj (wpAny_updateSeq_pair O fun f g D=>?_)))
 replace g:IsPair f TO x y:=g
 refine zj (wpAny_letGo (zB (zB (zj (yO g rfl (zj (wpAny_newTuple ?_)))))))
 have zs:f.objs.size=s.heap.objs.size:=by rw[D.1,C.1,J.1,I.1,B.1]
 have ae:IsZip f z TI TO .ellipsis:=D.extBut _ _ (qB N.b) (C.extBut _ _ (qB N.d) (J.extBut _ _ (qB N.b) (I.extBut _ _ (qB N.c) a0)));have k5:∀c o,c∉[z,TO,j,G]->s.heap.get? c=some o->f.get? c=some o:=fun c o hc e=>D.extBut _ o (fun q=>hc (by simp[q])) (C.extBut _ o (fun q=>hc (by simp[q])) (T c o (fun q=>hc (by simp at q ⊢;rcases q with q | q | q<;>simp[q])) e))
 have r1:ItrK k1 f j a1 (i+1):=af.at fun o e=>D.extBut _ o (qB N.h) (C.extBut _ o N.j (J.extBut _ o (qB N.h) e))
 have r2:ItrK k2 f G a2 (i+1):=ag.at fun o e=>D.extBut _ o (qB N.i) e
 have zl:z<f.objs.size:=zK ae;show wpAny _ _ (Builtin.SmallTypes.ownedTupleHandOut (.ref z) (.ref f.objs.size) >>= _) _ _ _;refine zj ?_;unfold Builtin.SmallTypes.ownedTupleHandOut
 have ai:IsZip (f.push { cls:=.type "tuple",data:=.seq #[x,y] }) z TI TO .ellipsis:=qd _ ae;refine zj (Ji ai (by simp) fun g7 aa U=>?_)
 replace aa:IsZip g7 z TI TO (rawInt f.objs.size):=aa
 refine Ji aa (by simp) fun g8 L Y=>?_
 replace L:IsZip g8 z TI TO (rawInt f.objs.size):=L
 have up:∀c o,c≠z->f.get? c=some o->g8.get? c=some o:=fun c o c1 e=>Y.extBut _ o c1 (U.extBut _ o c1 (qd _ e))
 have ab:IsPair g8 f.objs.size x y:=Y.extBut _ _ (vm zl) (U.extBut _ _ (vm zl) (qy _ rfl));have z8:g8.objs.size=f.objs.size+1:=by rw[Y.1,U.1,jt]
 rw[zs] at L ab z8;refine zB ⟨_,rfl,zB ?_⟩;show Q (some (.ref f.objs.size)) _;rw[zs]
 exact hQ g8 L (up _ _ N.a (k5 _ _ (by simp[N.a,N.e,N.f,N.g]) ac)) ⟨_,_,up _ _ N.b g⟩ (r1.at fun o e=>up _ o N.c e) (r2.at fun o e=>up _ o N.d e) ab z8 fun c o hc e=>up c o (fun q=>hc (by simp[q])) (k5 c o hc e)
theorem zas{k1 k2:Bool}{z TI TO G J a1 a2:Addr}{i:Nat}{xs ys:Array Value}{Q:Option Value->Shared->Prop}(hh:A.handled=none)(N:Yp z TI TO G J)(Z:Jl k1 k2 s.heap z TI TO G J a1 a2 i)
  (l1:SeqK k1 s.heap a1 xs) (l2:SeqK k2 s.heap a2 ys) (m1:∀b∈[z,TO,G,J],a1≠b) (m2:∀b∈[z,TO,G,J],a2≠b) (L:xs[i]? =none\/ys[i]? =none)
  (hQ:∀h',(∀c o,c∉[z,TO,G,J]->s.heap.get? c=some o->h'.get? c=some o)->Q none { s with heap:=h' }):wpAny (model l w) A (pyNext (.ref z)) Q E s:=by
 obtain⟨hz,a0,⟨a,b,aa⟩,h1,h2⟩:=Z;have hT:s.TypeIs (.ref z) "zip" :=⟨_,hz,rfl⟩;unfold pyNext;refine zj (yz (yc (name:=Str.ofString "__next__") hT Xa (wm Xa hT F.entry_zip_next ?_ (F.args_zip_next_1 _))))
 show wpAny _ _ (field (.ref z) 2 >>= _) _ _ _;refine zj (xb hz rfl (x:=.bool false) rfl ?_)
 show wpAny _ _ (field (.ref z) 3 >>= _) _ _ _;refine zj (xb hz rfl (x:=.ref TI) rfl (zj (yO a0 rfl ?_)))
 show wpAny _ _ (Builtin.SmallTypes.ownedTupleIsFree (.ref z) >>= _) _ _ _;refine zj ?_
 unfold Builtin.SmallTypes.ownedTupleIsFree;refine zj (xb hz rfl (x:=.none) rfl (zB ?_));simp only[if_true]
 refine zj (wC (zj (xb hz rfl (x:=.ref TO) rfl (zj (Ji hz (by simp) fun g1 C g=>?_)))))
 replace C:IsZip g1 z TI TO .ellipsis:=C
 refine zj ?_;simp only[List.zipIdx_cons,List.zipIdx_nil,ZZ,J9]
 refine zj (zj (wpAny_onRaise ?_));show wpAny _ _ (Builtin.SmallTypes.nextOf (.ref G) >>= _) _ _ _
 cases hx:xs[i]? with
 | none=>
  refine zj (vS hh (h1.at fun o e=>g.extBut _ o N.c e) (l1.at fun o e=>g.extBut _ o (m1 z (by simp)) e) hx fun g2 e j he=>?_)
  obtain⟨oe,f,u⟩:=he;have U:IsZip g2 z TI TO .ellipsis:=j _ _ (qB N.c) C;have I:e≠z:=fun q=>by subst q;rw[U] at f;cases f;exact absurd (yP u) (by decide)
  refine Ji U (by simp) fun g3 af B=>?_
  refine zj (yE (T:= "StopIteration") (b:=true) ⟨oe,B.extBut _ _ I f,u⟩ isSubtype_stop (zB (hQ _ fun c o hc q=>?_)))
  exact B.extBut _ o (fun q=>hc (by simp[q])) (j _ o (fun q=>hc (by simp[q])) (g.extBut _ o (fun q=>hc (by simp[q])) q))
 | some x=>
  have hy:ys[i]? =none:=by rcases L with q | q;rw[hx] at q;cases q;exact q
  refine zj (vf (h1.at fun o e=>g.extBut _ o N.c e) (l1.at fun o e=>g.extBut _ o (m1 z (by simp)) e) hx fun g2 ae j=>zB ?_)
  have D:IsPair g2 TO a b:=j.extBut _ _ N.h (g.extBut _ _ N.b aa);refine zj (yO D rfl (zj (wpAny_updateSeq_pair D fun g3 ab B=>?_)))
  have H:∀c o,c∉[z,TO,G]->s.heap.get? c=some o->g3.get? c=some o:=fun c o hc e=>B.extBut _ o (fun q=>hc (by simp[q])) (j.extBut _ o (fun q=>hc (by simp[q])) (g.extBut _ o (fun q=>hc (by simp[q])) e))
  refine zj (wpAny_letGo (zB ?_));refine zj (zj (wpAny_onRaise ?_));show wpAny _ _ (Builtin.SmallTypes.nextOf (.ref J) >>= _) _ _ _
  refine zj (vS hh (h2.at fun o e=>H _ o (by simp[N.d,qB N.i,qB N.j]) e) (l2.at fun o e=>H _ o (by simp[m2 z (by simp),m2 TO (by simp),m2 G (by simp)]) e) hy fun g4 e M he=>?_)
  obtain⟨oe,f,u⟩:=he;have Y:IsZip g4 z TI TO .ellipsis:=M _ _ (qB N.d) (B.extBut _ _ (qB N.b) (j.extBut _ _ (qB N.c) C));have I:e≠z:=fun q=>by subst q;rw[Y] at f;cases f;exact absurd (yP u) (by decide)
  refine Ji Y (by simp) fun g5 ag O=>?_
  refine zj (yE (T:= "StopIteration") (b:=true) ⟨oe,O.extBut _ _ I f,u⟩ isSubtype_stop (zB (hQ _ fun c o hc q=>?_)))
  exact O.extBut _ o (fun q=>hc (by simp[q])) (M _ o (fun q=>hc (by simp[q])) (H c o (fun q=>hc (by simp at q ⊢;rcases q with q | q | q<;>simp[q])) q))
abbrev zh(h:Heap)(o1 o2:Obj):Heap:=((((h.push o1).push o2).push { cls:=.type "tuple",data:=.seq #[.ref h.objs.size,.ref (h.push o1).objs.size] }).push { cls:=.type "tuple",data:=.seq #[.none,.none] }).push
 { cls:=.type "zip",data:=.fields #[.none,.bool false,.bool false,.ref ((h.push o1).push o2).objs.size,.ref (((h.push o1).push o2).push { cls:=.type "tuple",data:=.seq #[.ref h.objs.size,.ref (h.push o1).objs.size] }).objs.size] }
theorem zek{u B:Bool}{a1 a2:Addr}{h:Heap}{o1 o2:Obj}(J:∀g:Heap,g.get? h.objs.size=some o1->ItrK u g h.objs.size a1 0)(L:∀(g:Heap) (n:Addr),g.get? n=some o2->ItrK B g n a2 0)(H:o1.isFreed=false)(I:o2.isFreed=false) :
  Jl u B (zh h o1 o2) (h.objs.size+4) (h.objs.size+2) (h.objs.size+3) h.objs.size (h.objs.size+1) a1 a2 0/\(∀c o,h.get? c=some o->(zh h o1 o2).get? c=some o)/\(zh h o1 o2).objs.size=h.objs.size+5:=by
 have f:(h.push o1).objs.size=h.objs.size+1:=jt ..;have z2:((h.push o1).push o2).objs.size=h.objs.size+2:=by rw[jt,f]
 have j:(((h.push o1).push o2).push { cls:=.type "tuple",data:=.seq #[.ref h.objs.size,.ref (h.push o1).objs.size] }).objs.size=h.objs.size+3:=by rw[jt,z2]
 have G:((((h.push o1).push o2).push { cls:=.type "tuple",data:=.seq #[.ref h.objs.size,.ref (h.push o1).objs.size] }).push { cls:=.type "tuple",data:=.seq #[.none,.none] }).objs.size=h.objs.size+4:=by rw[jt,j]
 have D:(zh h o1 o2).get? (h.objs.size+4)=some _:=G▸qy _ rfl;have O:(zh h o1 o2).get? (h.objs.size+3)=some _:=j▸qd _ (qy _ rfl);have C:(zh h o1 o2).get? (h.objs.size+2)=some _:=z2▸qd _ (qd _ (qy _ rfl));have N:(zh h o1 o2).get? (h.objs.size+1)=some o2:=f▸qd _ (qd _ (qd _ (qy _ I)));have M:(zh h o1 o2).get? h.objs.size=some o1:=qd _ (qd _ (qd _ (qd _ (qy _ H))));rw[z2,j] at D;rw[f] at C;exact⟨⟨D,C,⟨_,_,O⟩,J _ M,L _ _ N⟩,fun c o e=>qd _ (qd _ (qd _ (qd _ (qd _ e)))),by rw[jt,G]⟩
theorem zar{k1 k2:Bool}{a1 a2:Addr}{xs ys:Array Value} :
  PySem.Meets (Builtin.«zip.__new__» ⟨[.type "zip",.ref a1,.ref a2],[]⟩) (fun _ R s=>SeqK k1 s.heap a1 xs/\SeqK k2 s.heap a2 ys /\
   ∀H,Jl k1 k2 H (s.heap.objs.size+4) (s.heap.objs.size+2) (s.heap.objs.size+3) s.heap.objs.size (s.heap.objs.size+1) a1 a2 0->(∀c o,s.heap.get? c=some o->H.get? c=some o)->H.objs.size=s.heap.objs.size+5->R (.ok (.ret (.ref (s.heap.objs.size+4)))) { s with heap:=H }):=
 .of_wp fun l w A R s hq=>by
  obtain⟨hp,g,d,u,os⟩:=s;obtain⟨G,j,M⟩:=hq;have I:=sub_zip;have f:∀{o1 o2:Obj},(∀g:Heap,g.get? hp.objs.size=some o1->ItrK k1 g hp.objs.size a1 0)->(∀(g:Heap) (n:Addr),g.get? n=some o2->ItrK k2 g n a2 0)->o1.isFreed=false->o2.isFreed=false ->
    R (.ok (.ret (.ref ((((hp.push o1).push o2).push { cls:=.type "tuple",data:=.seq #[.ref hp.objs.size,.ref (hp.push o1).objs.size] }).push { cls:=.type "tuple",data:=.seq #[.none,.none] }).objs.size))) ⟨zh hp o1 o2,g,d,u,os⟩:=fun {o1 o2} N O J L=>by
   obtain⟨A,B,C⟩:=zek N O J L;have e:((((hp.push o1).push o2).push { cls:=.type "tuple",data:=.seq #[.ref hp.objs.size,.ref (hp.push o1).objs.size] }).push { cls:=.type "tuple",data:=.seq #[.none,.none] }).objs.size=hp.objs.size+4:=by
    rw[jt,jt,jt,jt]
   rw[e];exact M _ A B C
  cases k1 with
  | true=>
   have D:Heap.IsList (Shared.heap ⟨hp,g,d,u,os⟩) a1 xs:=G;cases k2 with
   | true=>
    have L2:Heap.IsList (Shared.heap ⟨hp.push { cls:=.type "list_iterator",data:=.fields #[.ref a1,.int 0 0] },g,d,u,os⟩) a2 ys:=Heap.IsList.push j _;wp_walk using wpAny_pyIter_list D,wpAny_pyIter_list L2
    exact⟨_,rfl,f (fun g e=>⟨_,e,rfl,rfl⟩) (fun g n e=>⟨_,e,rfl,rfl⟩) rfl rfl⟩
   | false=>
    have L2:Heap.IsTuple (Shared.heap ⟨hp.push { cls:=.type "list_iterator",data:=.fields #[.ref a1,.int 0 0] },g,d,u,os⟩) a2 ys:=Heap.IsTuple.push j _;wp_walk using wpAny_pyIter_list D,wpAny_pyIter_tuple L2
    exact⟨_,rfl,f (fun g e=>⟨_,e,rfl,rfl⟩) (fun g n e=>⟨_,e,rfl,rfl⟩) rfl rfl⟩
  | false=>
   have D:Heap.IsTuple (Shared.heap ⟨hp,g,d,u,os⟩) a1 xs:=G;cases k2 with
   | true=>
    have L2:Heap.IsList (Shared.heap ⟨hp.push { cls:=.type "tuple_iterator",data:=.fields #[.ref a1,.int 0 0] },g,d,u,os⟩) a2 ys:=Heap.IsList.push j _;wp_walk using wpAny_pyIter_tuple D,wpAny_pyIter_list L2
    exact⟨_,rfl,f (fun g e=>⟨_,e,rfl,rfl⟩) (fun g n e=>⟨_,e,rfl,rfl⟩) rfl rfl⟩
   | false=>
    have L2:Heap.IsTuple (Shared.heap ⟨hp.push { cls:=.type "tuple_iterator",data:=.fields #[.ref a1,.int 0 0] },g,d,u,os⟩) a2 ys:=Heap.IsTuple.push j _;wp_walk using wpAny_pyIter_tuple D,wpAny_pyIter_tuple L2
    exact⟨_,rfl,f (fun g e=>⟨_,e,rfl,rfl⟩) (fun g n e=>⟨_,e,rfl,rfl⟩) rfl rfl⟩
theorem zai{g j:Bool}{a1 a2:Addr}{B C:Array Value}{Q:Value->Shared->Prop}(D:SeqK g s.heap a1 B)(G:SeqK j s.heap a2 C)
  (h:∀f,Jl g j f (s.heap.objs.size+4) (s.heap.objs.size+2) (s.heap.objs.size+3) s.heap.objs.size (s.heap.objs.size+1) a1 a2 0->(∀c o,s.heap.get? c=some o->f.get? c=some o)->f.objs.size=s.heap.objs.size+5 ->
   Q (.ref (s.heap.objs.size+4)) { s with heap:=f }):wpAny (model l w) A (call (.type "zip") [.ref a1,.ref a2]) Q E s:=by
 refine callType_new F.called_zip (by decide) (F.typeCall_zip_2 _ _) (F.newCall_zip_2 _ _) (fun u=>F.args_object_init_3 u _ _) F.entry_zip_new (zar (k1:=g) (k2:=j) (xs:=B) (ys:=C)) ⟨D,G,fun f Z k z=>?_⟩
 exact⟨⟨_,Z.zz,rfl⟩,h f Z k z⟩
end
theorem Inv.seqK{X:Cx}{g:List (Addr×Obj)}{σ:St}{H:Hp}{s:Shared}{j:Bool}{a:Addr}{l:List V}(I:Inv X g σ H s)(h:SqK X.K j H a l):∃f:List Value,Vals l f/\SeqK j s.heap a f.toArray/\l.length<=sizeLine:=by
 cases j with
 | true=>obtain⟨f,r,p,z⟩:=I.list h;exact⟨f,r,p.isList,z⟩
 | false=>obtain⟨f,r,p,z⟩:=I.tuple h;exact⟨f,r,p,z⟩
theorem Inv.seqK_inj{X:Cx}{f:List (Addr×Obj)}{σ:St}{H:Hp}{s:Shared}{g:Bool}{a:Addr}{l u:List V}(I:Inv X f σ H s)(h:SqK X.K g H a l)(j:SqK X.K g H a u):l=u:=by
 cases g with
 | true=>exact I.list_inj h j
 | false=>exact I.tuple_inj h j
theorem SqK.ne_fp{X:Cx}{g:List (Addr×Obj)}{σ:St}{H:Hp}{s:Shared}{u:Bool}{a b:Addr}{j:List V}(I:Inv X g σ H s)(h:SqK X.K u H a j)(f:jf X g H b):a≠b:=fun z=>by
 have w:∀o,X.K.lookup a=some o->False:=fun o e=>by
  have l:=I.mod.kin a o e;rcases f.2.2.2.1 with q | q
  ·exact I.ok.noex a o l (by rw[z];exact q)
  ·have:=zK (I.ok.bs a o l).1
   rw[z] at this;exact xE _ (ju this q)
 cases u with
 | true=>
  rcases(show SqL X.K H a j from h) with(q | ⟨o,q⟩) | ⟨o,_,_,q,_⟩
  ·rw[z,f.1] at q;cases q
  ·rw[z,f.1] at q;cases q
  ·exact w o q
 | false=>
  rcases(show SqT X.K H a j from h) with(q | ⟨o,q⟩) | ⟨o,_,_,q,_⟩
  ·rw[z,f.1] at q;cases q
  ·rw[z,f.1] at q;cases q
  ·exact w o q
def Itz(K:W.Frag)(j l:Bool)(a1 a2:Addr):It:=
 ⟨fun i H=>∃f g x y,SqK K j H a1 f/\SqK K l H a2 g/\f[i]? =some x/\g[i]? =some y,
  fun i H x s=>∃T u v,x=.ref T/\H T=none/\s=upd H T (.tup [u,v])/\(∀f,SqK K j H a1 f->f[i]? =some u)/\∀g,SqK K l H a2 g->g[i]? =some v,
  fun i H=>∃f g,SqK K j H a1 f/\SqK K l H a2 g/\(f.length<=i\/g.length<=i)⟩
theorem zau{P:Program}{w:World}{K:W.Frag}{G:List Expr}{kk:Nat}{ag:Pos}{k1 k2:Bool}{a1 a2 z TI TO l A:Addr}(N:Yp z TI TO l A) :
  vY P w K (.Tuple G kk ag) (Itz K k1 k2 a1 a2) [z,TI,TO,l,A] z (fun i h=>Jl k1 k2 h z TI TO l A a1 a2 i) where
 mem:=by simp
 obj:=fun i h Z b hb=>by
  obtain⟨a,O,q⟩:=Z.to;have Q:=Z.r1.obj;have T:=Z.r2.obj;simp only[zW,wj,or_false] at hb;rcases hb with r | r | r | r | r
  ·subst r;exact⟨_,Z.zz,fun v q=>nomatch q⟩
  ·subst r;exact⟨_,Z.ti,fun v q=>nomatch q⟩
  ·subst r;exact⟨_,q,fun v q=>nomatch q⟩
  ·subst r;obtain⟨o,e,_,d⟩:=Q;exact⟨o,e,d⟩
  ·subst r;obtain⟨o,e,_,d⟩:=T;exact⟨o,e,d⟩
 keep:=fun i h D Z k=>by
  obtain⟨a,O,q⟩:=Z.to;exact⟨k _ (by simp) _ Z.zz,k _ (by simp) _ Z.ti,⟨a,O,k _ (by simp) _ q⟩,Z.r1.at fun o e=>k _ (by simp) o e,Z.r2.at fun o e=>k _ (by simp) o e⟩
 item:=by
  intro X Y hw U hc i M s σ H E I hf Z hg;subst Y hw U;obtain⟨xs,ys,x,y,f,g,hx,hy⟩:=hg;obtain⟨J,B,p1,ae⟩:=I.seqK f;obtain⟨L,C,p2,af⟩:=I.seqK g;obtain⟨u1,ab,ah⟩:=B.get hx;obtain⟨u2,ac,ai⟩:=C.get hy;have sub:∀b∈[z,TO,l,A],b∈[z,TI,TO,l,A]:=fun b hb=>by
   simp only[zW,wj,or_false] at hb ⊢;rcases hb with r | r | r | r<;>simp[r]
  refine Yr N Z p1 p2 (fun b hb=>f.ne_fp I (hf b (sub b hb))) (fun b hb=>g.ne_fp I (hf b (sub b hb))) (by simpa using ab) (by simpa using ac) fun h1 zz ti to r1 r2 hT ak hk=>?_
  refine⟨_,rfl,wpAny_letOwnedTupleGo_zip zz fun h2 aj j=>?_⟩
  have zl:z<s.heap.objs.size:=zK Z.zz;obtain⟨ta,tb,to⟩:=to;refine⟨.ref s.heap.objs.size,upd H s.heap.objs.size (.tup [x,y]),?_,rfl,⟨_,x,y,rfl,I.hok.fresh (zJ _),rfl,fun am D=>by rw[I.seqK_inj D f];exact hx,fun an D=>by rw[I.seqK_inj D g];exact hy⟩,
   ⟨aj,j.extBut _ _ N.a ti,⟨ta,tb,j.extBut _ _ N.b to⟩,r1.at fun o e=>j.extBut _ o N.c e,r2.at fun o e=>j.extBut _ o N.d e⟩,fun b hb=>?_⟩
  ·exact JG (s:=s) (h':=h2) (t':=s.toks) (ch:=[z,TO,l,A]) (its:=[u1,u2]) I (fun b hb=>hf b (sub b hb)) (zJ _) (fun b o hb e=>j.extBut _ o (fun q=>hb (by simp[q])) (hk b o hb e)) (by rw[sizeLine_eq];exact(by decide:2<=16777216)) (.cons ah (.cons ai .nil))
    (TupX.by (j.extBut _ _ (vm zl) hT))
  ·have a0:b<s.heap.objs.size:=by
    have Q:=Z.r1.obj;have T:=Z.r2.obj;obtain⟨a,O,q⟩:=Z.to;simp only[zW,wj,or_false] at hb;rcases hb with r | r | r | r | r
    ·subst r;exact zl
    ·subst r;exact zK Z.ti
    ·subst r;exact zK q
    ·subst r;obtain⟨o,e,_⟩:=Q;exact zK e
    ·subst r;obtain⟨o,e,_⟩:=T;exact zK e
   rw[zm (z9 a0)];exact(hf b hb).1
 done:=by
  intro X Y hw U hc i M s σ H E I hf Z hg;subst Y hw U;obtain⟨xs,ys,f,g,aa⟩:=hg;obtain⟨J,B,p1,ae⟩:=I.seqK f;obtain⟨L,C,p2,af⟩:=I.seqK g;have sub:∀b∈[z,TO,l,A],b∈[z,TI,TO,l,A]:=fun b hb=>by
   simp only[zW,wj,or_false] at hb ⊢;rcases hb with r | r | r | r<;>simp[r]
  have tr:∀b u,H b=some u->b∉[z,TO,l,A]:=fun b u e hb=>by rw[(hf b (sub b hb)).1] at e;cases e
  refine zas (I.ok.hd hc) N Z p1 p2 (fun b hb=>f.ne_fp I (hf b (sub b hb))) (fun b hb=>g.ne_fp I (hf b (sub b hb))) ?_ fun D hk=>⟨rfl,?_⟩
  ·have l1:=B.length
   have l2:=C.length;rcases aa with q | q
   ·exact .inl (by simp;omega)
   ·exact .inr (by simp;omega)
  ·refine I.step (g':=s.gens) (d':=s.drawn) (t':=s.toks) (ch:=[z,TO,l,A]) (fun b hb=>?_) (fun b o _ _ hc e _=>hk b o hc e) (fun b o _ _ hc e _=>⟨o.slots,hk b o hc e⟩) (fun _ _ _ _ n=>n) (fun b o hc e=>⟨o,hk b o hc e⟩)
    (fun _ _ e=>e) (fun _ _ _ e=>e) (fun b ps e=>⟨#[],by rw[e];simp⟩) (fun m hm=>?_) (fun b u e=>?_) I.bare
   ·obtain⟨_,g1,_,g3,g4,g5⟩:=hf b (sub b hb)
    exact⟨g3,g1,g4,g5⟩
   ·obtain⟨o,es,ep,ho,r⟩:=hm
    exact⟨o,es,ep,hk _ o (fun z=>(hf _ (sub _ z)).2.1 rfl) ho,r⟩
   ·refine(I.hok b u e).stay (fun c v hc q=>hk c v ?_ q) (fun _ q=>q) fun _ _ q=>q
    rcases hc with z | z
    ·rw[z];exact tr b u e
    ·exact tr c _ z
 self:=fun _ _ _ _ _ Z h=>wpAny_pyIter_zip Z.zz h
section
variable{X:Cx}
def zfw(K:W.Frag)(l:TA):TI:=fun σ H R=>l σ H fun s f=>∃g j a1 a2,s=[.ref a1,.ref a2]/\(∃u,SqK K g f a1 u)/\(∃w,SqK K j f a2 w)/\R (Itz K g j a1 a2) f
theorem VI{l m:Expr}{O:TA}{p C tp:Pos}{w:List Expr}{kk:Nat}(U:Gl X "zip")(hm:X.mg "zip" = none)(ha:PA X [l,m] O)(Y:starEach [l,m] X.env=[(false,eval l X.env),(false,eval m X.env)]:=by rfl)(B:starEach [m] X.env=[(false,eval m X.env)]:=by rfl) :
  PI X (.Tuple w kk tp) (.Call (.Name "zip" p) [l,m] [] C) (zfw X.K O):=by
 intro g s σ H R I h;refine Call_ (xN I U hm boot_zip (yY (thn (ha C g s σ H _ I h) fun us f ⟨vs,J,j,r1,q1⟩=>?_) (by rw[Y,B]) (by rw[B];rfl)))
 obtain⟨k1,k2,a1,a2,e,⟨xs,D⟩,⟨ys,E⟩,q⟩:=q1;subst e;obtain⟨u,u',rfl,ru,G⟩:=Qn r1;cases ru;cases G;obtain⟨L,ac,p1,aa⟩:=j.seqK D;obtain⟨M,ae,p2,ab⟩:=j.seqK E;refine zai p1 p2 fun T Z hk a0=>wpAny_pyIter_zip Z.zz ?_
 have Q:Inv X g σ J { f with heap:=T }:=j.kept (t':=f.toks) hk;have N:Yp (f.heap.objs.size+4) (f.heap.objs.size+2) (f.heap.objs.size+3) f.heap.objs.size (f.heap.objs.size+1):=by
  constructor<;>(intro e;have e':(_:Nat)=_:=e;omega)
 refine⟨f.heap.objs.size+4,_,_,_,J,rfl,Q,zau N,Z,fun b hb=>?_,q⟩
 have A:f.heap.objs.size<=b:=by
  simp only[zW,wj,or_false] at hb;rcases hb with r | r | r | r | r<;>(rw[r];first| exact Nat.le_add_right _ _ | exact zJ _)
 exact j.fpOk A (j.hok.fresh A)
end
def TyN(K:W.Frag)(H:Hp)(x:V)(T:String):Prop:=match x with
 | .non=>T = "NoneType"
 | .bl _=>T = "bool"
 | .int _=>T = "int"
 | .str _=>T = "str"
 | .ref a=>(T = "list" /\ ∃f,SqL K H a f)\/(T = "tuple" /\ ∃f,SqT K H a f)
 | _=>False
def zev(T C:String):Bool:=T==C||(T == "bool" && C == "int")
def Jr:List String:=["NoneType","bool","int","str","list","tuple"]
def JQ:List String:=["bool","int","str","list","tuple","dict"]
theorem zcA{K:W.Frag}:∀T∈Jr,∀C∈JQ,PySem.W.kitOne K (.type T) (.type C)=some (zev T C):=by
 intro T g C f;simp only[Jr,JQ,zW,wj,or_false] at g f;rcases g with rfl | rfl | rfl | rfl | rfl | rfl<;>rcases f with rfl | rfl | rfl | rfl | rfl | rfl<;>kernel_rfl
theorem TyN.mem{K:W.Frag}{H:Hp}{x:V}{T:String}(h:TyN K H x T):T∈Jr:=by
 cases x with
 | non=>cases(show T=_ from h);decide
 | bl _=>cases(show T=_ from h);decide
 | int _=>cases(show T=_ from h);decide
 | str _=>cases(show T=_ from h);decide
 | ref a=>rcases(show _\/_ from h) with ⟨e,_⟩ | ⟨e,_⟩<;>(subst e;decide)
 | _=>exact(show False from h).elim
section
variable{X:Cx}{f:List (Addr×Obj)}{σ:St}{H:Hp}{s:Shared}
theorem zcz{x:V}{u:Value}{T:String}(I:Inv X f σ H s)(g:RelV x u)(ty:TyN X.K H x T):∃P:Heap->Prop,P s.heap/\PySem.W.KitX X.K u (.type T) P/\u≠.builtin "__main__.__loader__#opaque" :=by
 cases x with
 | non=>cases(show u=Value.none from g);cases(show T=_ from ty);exact⟨_,True.intro,PySem.W.kitx_none,fun z=>nomatch z⟩
 | bl y=>cases(show u=Value.bool y from g);cases(show T=_ from ty);exact⟨_,True.intro,PySem.W.kitx_bool,fun z=>nomatch z⟩
 | int i=>obtain⟨t,q⟩:=(show ∃t,u=Value.int i t from g);cases q;cases(show T=_ from ty);exact⟨_,True.intro,PySem.W.kitx_int,fun z=>nomatch z⟩
 | str y=>obtain⟨t,q⟩:=(show ∃t,u=Value.str y t from g);cases q;cases(show T=_ from ty);exact⟨_,True.intro,PySem.W.kitx_str,fun z=>nomatch z⟩
 | ref a=>
  cases(show u=Value.ref a from g)
  rcases(show _\/_ from ty) with ⟨e,A,hx⟩ | ⟨e,A,hx⟩
  ·subst e
   obtain⟨w,r,⟨o,n,j,l,_⟩,_⟩:=I.list hx;exact⟨_,⟨o,j,l⟩,PySem.W.kitx_list,fun z=>nomatch z⟩
  ·subst e
   obtain⟨w,r,⟨o,j,l,_⟩,_⟩:=I.tuple hx;exact⟨_,⟨o,j,l⟩,PySem.W.kitx_tuple,fun z=>nomatch z⟩
 | _=>exact(show False from ty).elim
end
section
variable{X:Cx}
inductive Qd(K:W.Frag)(f:List V)(H:Hp)(Q:VK):Prop
 | mk (x T C:_) (_:f=[x,.ty C]) (_:TyN K H x T) (_:C∈JQ) (_:Q (.bl (zev T C)) H):Qd K f H Q
theorem xY:CallR X (.builtin "isinstance") (Qd X.K):=by
 intro g s σ H G E Q I r h;obtain⟨x,T,C,rfl,ty,j,q⟩:=h;obtain⟨u,D,rfl,A,f⟩:=Qn r;cases(show D=Value.type C from f)
 obtain⟨P,l,Z,w⟩:=zcz I A ty;exact PySem.W.kia_one Z I.kIn l (zcA T ty.mem C j) w fun B=>⟨.bl _,H,I.tok B,rfl,q⟩
end
inductive Dat where
 | non | bl (b:Bool) | int (i:Int) | str (x:Str) | lst (f:List Dat) | tup (f:List Dat)
mutual
def Rep(K:W.Frag)(H:Hp):Dat->V->Prop
 | .non,v=>v=.non
 | .bl b,v=>v=.bl b
 | .int i,v=>v=.int i
 | .str x,v=>v=.str x
 | .lst g,v=>∃a f,v=.ref a/\SqL K H a f/\Reps K H g f
 | .tup g,v=>∃a f,v=.ref a/\SqT K H a f/\Reps K H g f
def Reps(K:W.Frag)(H:Hp):List Dat->List V->Prop
 | [],f=>f=[]
 | d::g,f=>∃x r,f=x::r/\Rep K H d x/\Reps K H g r
end
mutual
def Dat.dp:Dat->Nat
 | .lst f=>Dat.dps f+1
 | .tup f=>Dat.dps f+1
 | _=>0
def Dat.dps:List Dat->Nat
 | []=>0
 | d::f=>max d.dp (Dat.dps f)
end
theorem Same.sqT{K:W.Frag}{H f:Hp}{a:Addr}{g:List V}(e:Same H f)(h:SqT K H a g):SqT K f a g:=by
 rcases h with(h | ⟨o,h⟩) | h
 ·exact .inl (.inl (e _ _ h))
 ·exact .inl (.inr ⟨o,e _ _ h⟩)
 ·exact .inr h
mutual
theorem Rep.same{K:W.Frag}{H s:Hp}(e:Same H s):∀{d:Dat} {v:V},Rep K H d v->Rep K s d v
 | .non,_,h=>h
 | .bl _,_,h=>h
 | .int _,_,h=>h
 | .str _,_,h=>h
 | .lst _,_,h=>by
  obtain⟨a,l,f,g,j⟩:=h;exact⟨a,l,f,e.seq g,Reps.same e j⟩
 | .tup _,_,h=>by
  obtain⟨a,l,f,g,j⟩:=h;exact⟨a,l,f,e.sqT g,Reps.same e j⟩
theorem Reps.same{K:W.Frag}{H f:Hp}(e:Same H f):∀{g:List Dat} {j:List V},Reps K H g j->Reps K f g j
 | [],_,h=>h
 | _::_,_,h=>by
  obtain⟨x,r,l,s,u⟩:=h;exact⟨x,r,l,Rep.same e s,Reps.same e u⟩
end
theorem Reps.len{K:W.Frag}{H:Hp}:∀{f:List Dat} {g:List V},Reps K H f g->g.length=f.length
 | [],_,h=>by rw[show _=_ from h];rfl
 | _::_,_,h=>by
  obtain⟨x,r,j,s,l⟩:=h;rw[j,jr,jr,Reps.len l]
theorem Reps.get{K:W.Frag}{H:Hp}:∀{f:List Dat} {g:List V} {i:Nat} {x:V},Reps K H f g->g[i]? =some x->∃d,f[i]? =some d/\Rep K H d x
 | [],_,_,_,h,e=>by rw[show _=_ from h] at e;simp at e
 | d::f,_,i,x,h,e=>by
  obtain⟨y,r,l,s,u⟩:=h;subst l;cases i with
  | zero=>simp at e;subst e;exact⟨d,rfl,s⟩
  | succ i=>
   obtain⟨j,w,A⟩:=Reps.get (i:=i) u (by simpa using e)
   exact⟨j,by simpa using w,A⟩
theorem zc{H:Hp}{a:Addr}{o:HO}(h:H a=none):Same H (upd H a o):=fun b u e=>by rw[zm (zi e h)];exact e
def Zb:List V->List V->Bool
 | [],[]=>true
 | x::f,y::g=>eqV x y&&Zb f g
 | _,_=>false
theorem wy:∀(f g:List V),(((List.range (min f.length g.length)).all fun j=>eqV (f.getD j .non) (g.getD j .non))&&(f.length==g.length))=Zb f g
 | [],[]=>rfl
 | [],y::g=>by simp[Zb]
 | x::f,[]=>by simp[Zb]
 | x::f,y::g=>by
  have u:=wy f g;have l:min (x::f).length (y::g).length=min f.length g.length+1:=by simp only[jr];omega
  rw[l,List.range_succ_eq_map,List.all_cons,List.all_map];unfold Zb;rw[<- u,Bool.and_assoc];congr 1
  have s:((x::f).length==(y::g).length)=(f.length==g.length):=by
   rw[yS];simp
  rw[s];congr 1
inductive zdx(K:W.Frag)(f:Bool)(x:V)(y:V)(H:Hp)(Q:VK):Prop
 | mk (a b g j:_) (_:x=.ref a) (_:y=.ref b) (_:SqT K H a g) (_:SqT K H b j) (_:g.all jR=true) (_:j.all jR=true) (_:Q (.bl (if f then !Zb g j else Zb g j)) H):zdx K f x y H Q
section
variable{X:Cx}
theorem za3(hu:X.A.units<cLine):OpR X (compareOp .Eq) (zdx X.K false):=by
 intro C s σ H x y v u Q I rx ry h;obtain⟨a,b,A,B,rfl,rfl,hx,hy,L,M,q⟩:=h;cases rx;cases ry;obtain⟨l,D,p1,z1⟩:=I.tuple hx;obtain⟨w,E,p2,z2⟩:=I.tuple hy;have Y:=D.length;have l2:=E.length;refine SeqAt.eq_tupleAt (e:=fun j=>eqV (A.getD j .non) (B.getD j .non)) p1 p2 hu (fun j T U=>?_) ⟨.bl _,H,I,rfl,?_⟩
 ·have f:j<A.length:=by rw[qF] at T;omega
  have g:j<B.length:=by rw[qF] at U;omega
  obtain⟨w1,G,q1⟩:=D.get (i:=j) (x:=A[j]) (by simp[f])
  obtain⟨w2,J,q2⟩:=E.get (i:=j) (x:=B[j]) (by simp[g])
  have N:l.toArray[j]=w1:=by simpa using (zZ.mp G).2
  have O:w.toArray[j]=w2:=by simpa using (zZ.mp J).2
  rw[N,O,show A.getD j .non=A[j] by simp[f],show B.getD j .non=B[j] by simp[g]]
  exact JM q1 q2 (xm.mp L _ (xZ f)) (xm.mp M _ (xZ g))
 ·rw[qF,qF,<- Y,<- l2,wy]
  exact q
theorem zdM(hu:X.A.units<cLine):OpR X (compareOp .NotEq) (zdx X.K true):=by
 intro C s σ H x y v u Q I rx ry h;obtain⟨a,b,A,B,rfl,rfl,hx,hy,L,M,q⟩:=h;cases rx;cases ry;obtain⟨l,D,p1,z1⟩:=I.tuple hx;obtain⟨w,E,p2,z2⟩:=I.tuple hy;have Y:=D.length;have l2:=E.length;refine SeqAt.RcNeAt.tuples (e:=fun j=>eqV (A.getD j .non) (B.getD j .non)) p1 p2 hu (fun j T U=>?_) _ _ _ _ ⟨.bl _,H,I,rfl,?_⟩
 ·have f:j<A.length:=by rw[qF] at T;omega
  have g:j<B.length:=by rw[qF] at U;omega
  obtain⟨w1,G,q1⟩:=D.get (i:=j) (x:=A[j]) (by simp[f])
  obtain⟨w2,J,q2⟩:=E.get (i:=j) (x:=B[j]) (by simp[g])
  have N:l.toArray[j]=w1:=by simpa using (zZ.mp G).2
  have O:w.toArray[j]=w2:=by simpa using (zZ.mp J).2
  rw[N,O,show A.getD j .non=A[j] by simp[f],show B.getD j .non=B[j] by simp[g]]
  exact JM q1 q2 (xm.mp L _ (xZ f)) (xm.mp M _ (xZ g))
 ·rw[qF,qF,<- Y,<- l2,wy]
  exact q
end
structure Dfn(P:Program)(w:World)(K:W.Frag)(mg:Str->Option Value)(base:Heap)(x:Str)(k:Nat)(ps:List Str)(sp:Sp):Prop where
 ex:∃f fd,FnOk P w K mg base CX0 k f fd ps sp/\mg x=some (.ref f)/\PySem.W.keepIn K (.ref f)=true/\Binds K fd ps []
theorem Dfn.imp{P:Program}{w:World}{K:W.Frag}{l:Str->Option Value}{g:Heap}{x:Str}{k:Nat}{s:List Str}{u j:Sp}(D:Dfn P w K l g x k s u)(h:∀A H Q E,j A H Q E->u A H Q E):Dfn P w K l g x k s j:=by
 obtain⟨f,B,F,r⟩:=D.ex;exact⟨f,B,F.imp h,r⟩
section
variable{X:Cx}{x:Str}{k:Nat}{s:List Str}{l:Sp}{p j:Pos}{e:Expr}{g:List Expr}{t:TA}
theorem zn(D:Dfn X.prog X.w X.K X.mg X.base x k s l)(B:Room k X.A)(A:Gl X x)(ha:PA X (e::g) t)(w:(x==("__debug__":Str))=false:=by decide)
  (C:starEach (e::g) X.env=(false,eval e X.env)::starEach g X.env:=by rfl) (u:(backTo j (starEach g X.env)).any (·.1)=false:=by rfl):PE X (.Call (.Name x p) (e::g) [] j) (zcT l [] E0 t):=by
 obtain⟨f,E,F,hm,hk,hb⟩:=D.ex;exact zcf F B A hm hk hb .nil zeJ ha w C u
end
theorem ifT{b:Bool}{A B:Prop}(h:b=true)(q:A):if b=true then A else B:=by rw[zw h];exact q
theorem ifF{b:Bool}{A B:Prop}(h:b=false)(q:B):if b=true then A else B:=by rw[zq (by rw[h];exact qx)];exact q
theorem zbm{K:W.Frag}{k1 k2:Bool}{a1 a2:Addr}{xs ys:List V}{g:TG}{M:TT}{L:TE}{w:St}{n:Nat}{R:List V->Hp->Prop}{H:Hp}(Pv:Nat->List V->Hp->Prop)(U:Pv 0 [] H)
  (Y:∀i f H,Pv i f H->SqK K k1 H a1 xs/\SqK K k2 H a2 ys)
  (hs:∀i x y f H T,xs[i]? =some x->ys[i]? =some y->Pv i f H->H T=none->g (.ref T) w (upd H T (.tup [x,y])) fun l C=>l.drop n=w.drop n/\M l C fun b s=>
   if b=true then L l s fun v D=>f.length<sizeLine/\Pv (i+1) (f++[v]) D else Pv (i+1) f s)
  (hd:∀f H,Pv (min xs.length ys.length) f H->f.length<=sizeLine/\R f H) :
  ∃W:Nat->Nat->List V->Hp->Prop,(∃m,W 0 m [] H)/\∀i m f j,W i m f j ->
   ((Itz K k1 k2 a1 a2).stop i j/\f.length<=sizeLine/\R f j) \/
   ((Itz K k1 k2 a1 a2).go i j/\∃N:List V->Hp->Prop,(∀f A,N f A->∃J,J<m/\W (i+1) J f A)/\∀x B,(Itz K k1 k2 a1 a2).yld i j x B->g x w B fun l C=>l.drop n=w.drop n/\M l C fun b s=>
    if b=true then L l s fun y D=>f.length<sizeLine/\N (f++[y]) D else N f s):=by
 refine⟨fun i m f j=>m=min xs.length ys.length-i/\i<=min xs.length ys.length/\Pv i f j,⟨_,rfl,qQ _,U⟩,?_⟩
 rintro i m f j ⟨rfl,hi,p⟩;obtain⟨G,I⟩:=Y i f j p;by_cases E:i<min xs.length ys.length
 ·have l1:i<xs.length:=by omega
  have l2:i<ys.length:=by omega
  refine .inr ⟨⟨xs,ys,xs[i],ys[i],G,I,by simp[l1],by simp[l2]⟩,Pv (i+1),fun a0 A p'=>⟨_,by omega,rfl,E,p'⟩,fun x B y=>?_⟩
  obtain⟨T,u,v,O,hT,Q,y1,y2⟩:=y;subst O Q;exact hs i u v f j T (y1 xs G) (y2 ys I) p hT
 ·have e:i=min xs.length ys.length:=by omega
  subst e;obtain⟨z1,z2⟩:=hd f j p;exact .inl ⟨⟨xs,ys,G,I,by omega⟩,z1,z2⟩
theorem ZG{lo:Int}{N n:Nat}{g:TG}{I:TT}{G:TE}{w:St}{R:List V->Hp->Prop}{H:Hp}(Pv:Nat->List V->Hp->Prop)(O:Pv 0 [] H)
  (T:∀i f H,i<N->Pv i f H->g (.int (lo+i)) w H fun s C=>s.drop n=w.drop n/\I s C fun b u=>if b=true then G s u fun v D=>f.length<sizeLine/\Pv (i+1) (f++[v]) D else Pv (i+1) f u)
  (Q:∀f H,Pv N f H->f.length<=sizeLine/\R f H) :
  ∃W:Nat->Nat->List V->Hp->Prop,(∃m,W 0 m [] H)/\∀i m f j,W i m f j ->
   ((Itr lo N).stop i j/\f.length<=sizeLine/\R f j) \/
   ((Itr lo N).go i j/\∃M:List V->Hp->Prop,(∀f A,M f A->∃E,E<m/\W (i+1) E f A)/\∀x B,(Itr lo N).yld i j x B->g x w B fun s C=>s.drop n=w.drop n/\I s C fun b u=>
    if b=true then G s u fun y D=>f.length<sizeLine/\M (f++[y]) D else M f u):=by
 refine⟨fun i m f j=>m=N-i/\i<=N/\Pv i f j,⟨_,rfl,qQ _,O⟩,?_⟩
 rintro i m f j ⟨rfl,hi,p⟩;by_cases l:i<N
 ·refine .inr ⟨l,Pv (i+1),fun a0 A U=>⟨_,by omega,rfl,l,U⟩,fun x B y=>?_⟩
  obtain⟨J,L⟩:=y;subst J L;exact T i f _ l p
 ·have e:i=N:=by omega
  subst e;obtain⟨Y,z2⟩:=Q f j p;exact .inl ⟨zJ _,Y,z2⟩
def vi(sn on:List (Str×NameKind))(N own f:List Str)(g:List Nat):Bool:=
 wf sn on N f g&&own.all (fun x=>sn.lookup x==some .local)&&decide (own++f).Nodup
theorem jY{sn on:List (Str×NameKind)}{N own f:List Str}{g:List Nat}(h:vi sn on N own f g=true):wf sn on N f g=true/\(∀x∈own,sn.lookup x=some .local)/\(own++f).Nodup:=by
 unfold vi at h;rw[jn,jn,xm] at h;exact⟨h.1.1,fun x hx=>by simpa using h.1.2 x hx,jH h.2⟩
section
variable{X:Cx}{g f:Expr}{j:List Expr}{scope:Scope}{l u E G:Pos}{B:TI}{A:TT}{w:TE}{x y:Str}{D:Nat}
theorem jL{I:List Str}{C:Addr}{s:Shared}{H:Hp}{J:List Addr}{i:Nat}(L:scope.names.lookup x=some .local)(N:I.Nodup)(M:I[i]? =some x):PG (zt X I scope C s H J) (.Name x u) (jQ i):=
 zp (X:=zt X I scope C s H J) N M (.inl (lookup_relabel_local L)) (.inr (lookup_relabel_local L))
theorem vD(J:List Str)(L:List Nat)(hc:X.calm=true)(hk:scope.kind=.function)(hb:vi scope.names X.env.scope.names X.N [x] J L=true)(T:PI X (.Name x u) f B)
  (hf:∀C s H I,PF (zt X ([x]++J) scope C s H I) j A) (Q:∀C s H I,PE (zt X ([x]++J) scope C s H I) g w)
  (U:∀x,foldedSetIterable f X.env x=pure x:=by intro _;rfl):PE X (.ListComp g [⟨.Name x u,f,j,0⟩] scope l) (tLC B 1 L (jQ 0) A w):=by
 obtain⟨M,N,O⟩:=jY hb;exact zdb [x] J L hc hk M T (fun C s H I=>jL (N x (by simp)) O rfl) hf Q U
theorem Zx(J:List Str)(L:List Nat)(hc:X.calm=true)(hk:scope.kind=.function)(hb:vi scope.names X.env.scope.names X.N [x,y] J L=true)(T:PI X (.Tuple [.Name x u,.Name y E] D G) f B)
  (hf:∀C s H I,PF (zt X ([x,y]++J) scope C s H I) j A) (Q:∀C s H I,PE (zt X ([x,y]++J) scope C s H I) g w)
  (U:∀x,foldedSetIterable f X.env x=pure x:=by intro _;rfl):PE X (.ListComp g [⟨.Tuple [.Name x u,.Name y E] D G,f,j,0⟩] scope l) (tLC B 2 L (Y8 X.K 2 (wc (jQ 0) (wc (jQ 1) zbu))) A w):=by
 obtain⟨O,M,N⟩:=jY hb;refine zdb [x,y] J L hc hk O T (fun C s H I=>?_) hf Q U
 exact qR (X:=zt X ([x,y]++J) scope C s H I) hc (zu (jL (M x (by simp)) N rfl) (zu (jL (M y (by simp)) N rfl) qq))
end
def tWk(t:TS):TS:=fun D σ H=>∃J:St->Hp->Prop,t { D with nx:=J } σ H/\∀g f,J g f->D.nx g f
theorem vd{X:Cx}{st:Stmt}{t:TS}(h:PS X st t):PS X st (tWk t):=by
 intro g s σ H D I A;obtain⟨J,B,C⟩:=A;refine thn (h g s σ H _ I B) fun f E q=>?_
 cases f with
 | next=>obtain⟨l,j,w,z⟩:=q;exact⟨l,j,w,C l j z⟩
 | brk=>exact q
 | cont=>exact q
 | ret u=>exact q
def Dat.ok:Nat->Dat->Prop
 | n+1,.lst f=>f.length<=1000000/\∀d∈f,Dat.ok n d
 | n+1,.tup f=>f.length<=1000000/\∀d∈f,Dat.ok n d
 | 0,.lst _=>False
 | 0,.tup _=>False
 | _,_=>True
def Dat.tyN:Dat->String
 | .non=> "NoneType" | .bl _=> "bool" | .int _=> "int" | .str _=> "str" | .lst _=> "list" | .tup _=> "tuple"
theorem Rep.ty{K:W.Frag}{H:Hp}{d:Dat}{v:V}(h:Rep K H d v):TyN K H v d.tyN:=by
 cases d with
 | non=>rw[show v=_ from h];exact rfl
 | bl b=>rw[show v=_ from h];exact rfl
 | int b=>rw[show v=_ from h];exact rfl
 | str b=>rw[show v=_ from h];exact rfl
 | lst g=>obtain⟨a,f,rfl,e,_⟩:=h;exact .inl ⟨rfl,f,e⟩
 | tup g=>obtain⟨a,f,rfl,e,_⟩:=h;exact .inr ⟨rfl,f,e⟩
mutual
def Dat.py:Dat->PyData
 | .non=>.none
 | .bl b=>.bool b
 | .int i=>.int i
 | .str x=>.str x
 | .lst f=>.list (Dat.pys f)
 | .tup f=>.tuple (Dat.pys f)
def Dat.pys:List Dat->List PyData
 | []=>[]
 | d::f=>d.py::Dat.pys f
end
section
variable{X:Cx}
end
theorem zcE{K:W.Frag}{k1 k2:Bool}{a1 a2:Addr}{xs ys:List V}{g:TG}{E:TS}{D:Qg}{σ:St}{H:Hp}(Pv:Nat->St->Hp->Prop)(J:Pv 0 σ H)
  (O:∀i σ H,Pv i σ H->SqK K k1 H a1 xs/\SqK K k2 H a2 ys)
  (Q:∀i x y σ H T,xs[i]? =some x->ys[i]? =some y->Pv i σ H->H T=none->g (.ref T) σ (upd H T (.tup [x,y])) fun B j=>E { D with nx:=Pv (i+1),ct:=Pv (i+1),bk:=D.nx } B j)
  (M:∀σ H,Pv (min xs.length ys.length) σ H->D.nx σ H) :
  ∃W:Nat->Nat->St->Hp->Prop,(∃m,W 0 m σ H)/\∀i m σ H,W i m σ H ->
   ((Itz K k1 k2 a1 a2).stop i H/\D.nx σ H)\/((Itz K k1 k2 a1 a2).go i H/\∃N:St->Hp->Prop,(∀A f,N A f->∃C,C<m/\W (i+1) C A f)/\∀x f,(Itz K k1 k2 a1 a2).yld i H x f->g x σ f fun B j=>E { D with nx:=N,ct:=N,bk:=D.nx } B j):=by
 refine⟨fun i m σ H=>m=min xs.length ys.length-i/\i<=min xs.length ys.length/\Pv i σ H,⟨_,rfl,qQ _,J⟩,?_⟩
 rintro i m σ H ⟨rfl,hi,p⟩;obtain⟨s,w⟩:=O i σ H p;by_cases l:i<min xs.length ys.length
 ·have U:i<xs.length:=by omega
  have Y:i<ys.length:=by omega
  refine .inr ⟨⟨xs,ys,xs[i],ys[i],s,w,by simp[U],by simp[Y]⟩,Pv (i+1),fun A f p'=>⟨_,by omega,rfl,l,p'⟩,fun x f y=>?_⟩
  obtain⟨T,u,v,G,L,I,y1,y2⟩:=y;subst G I;exact Q i u v σ H T (y1 xs s) (y2 ys w) p L
 ·have e:i=min xs.length ys.length:=by omega
  subst e;exact .inl ⟨⟨xs,ys,s,w,by omega⟩,M σ H p⟩
section
variable{X:Cx}
end
section
variable{X:Cx}{f:Expr}
end
section
variable{X:Cx}
inductive WW(x:V)(w:List V)(H:Hp)(Q:VK):Prop
 | mk (l:Addr) (s:List V) (i:Int) (y:V) (_:x=.ref l) (_:w=[.int i,y]) (_:H l=some (.lst s)) (_:0<=i) (_:i<2^62) (_:s.length<sizeLine) (_:Q .non (upd H l (.lst (s.take i.toNat++y::s.drop i.toNat)))):WW  x w H Q
theorem Y1:MtM X "list.insert" WW:=by
 intro J s σ H x vs v us Q I O N h;obtain⟨l,xs,i,y,rfl,rfl,D,U,Y,hz,q⟩:=h;cases O;obtain⟨u1,C,rfl,L,M⟩:=Qn N;obtain⟨t,rfl⟩:=L;obtain⟨z,w,n,r,T,e⟩:=I.lstM D;have E:=r.length;refine call_meets F.slot_list_insert ⟨_,e,rfl⟩ F.entry_list_insert (F.args_list_insert_3 _ _ _) (AutoListH.list_insert_list_int_val_1 l w.toArray n i t C ?_ (by rw[qF];omega)) ⟨e,?_⟩
 ·unfold Builtin.List.listFitsIndex
  simp;omega
 refine⟨.non,_,I.lset (its':=w.take i.toNat++C::w.drop i.toNat) D e ?_ ((r.take _).append (.cons M (r.drop _))) ?_,rfl,q⟩
 ·show(have k:=if i<0 then(i+((w.toArray.size:Nat):Int)).toNat else min i.toNat w.toArray.size;(w.toArray.extract 0 k).push C++w.toArray.extract k)=_
  have hk:(if i<0 then(i+((w.toArray.size:Nat):Int)).toNat else min i.toNat w.toArray.size)=min i.toNat w.length:=by
   rw[zq (by omega),qF]
  simp only[hk];apply V4.mp
  simp;by_cases B:i.toNat<=w.length
  ·have A:(w.drop i.toNat).take (w.length-i.toNat)=w.drop i.toNat:=Vr (by rw[wZ];omega)
   rw[yB B,A]
  ·have A:w.length<=i.toNat:=by omega
   rw[Nat.min_eq_right A,Vr A,List.drop_of_length_le A];simp
 ·simp only[qG,jq,jr,wZ]
  omega
variable{e st:Expr}{j:TE}{u:TO}{f g:Pos}
end
theorem jM{K:W.Frag}{a:Addr}{xs:List V}{g:TG}{I:TT}{G:TE}{w:St}{n:Nat}{R:List V->Hp->Prop}{H:Hp}(Pv:Nat->List V->Hp->Prop)(J:Pv 0 [] H)
  (L:∀i f H,Pv i f H->SqL K H a xs)
  (O:∀i x f H,xs[i]? =some x->Pv i f H->g x w H fun l C=>l.drop n=w.drop n/\I l C fun b s=>
   if b=true then G l s fun v D=>f.length<sizeLine/\Pv (i+1) (f++[v]) D else Pv (i+1) f s)
  (M:∀f H,Pv xs.length f H->f.length<=sizeLine/\R f H) :
  ∃W:Nat->Nat->List V->Hp->Prop,(∃m,W 0 m [] H)/\∀i m f j,W i m f j ->
   ((Itl K a).stop i j/\f.length<=sizeLine/\R f j) \/
   ((Itl K a).go i j/\∃N:List V->Hp->Prop,(∀f A,N f A->∃E,E<m/\W (i+1) E f A)/\∀x B,(Itl K a).yld i j x B->g x w B fun l C=>l.drop n=w.drop n/\I l C fun b s=>
    if b=true then G l s fun y D=>f.length<sizeLine/\N (f++[y]) D else N f s):=by
 refine⟨fun i m f j=>m=xs.length-i/\i<=xs.length/\Pv i f j,⟨_,rfl,qQ _,J⟩,?_⟩
 rintro i m f j ⟨rfl,Y,p⟩;have q:=L i f j p;by_cases u:i<xs.length
 ·refine .inr ⟨⟨xs,xs[i],q,by simp[u]⟩,Pv (i+1),fun U A Q=>⟨_,by omega,rfl,u,Q⟩,fun x B y=>?_⟩
  obtain⟨e,y⟩:=y;subst e;exact O i x f _ (y xs q) p
 ·have e:i=xs.length:=by omega
  subst e;obtain⟨T,z2⟩:=M f j p;exact .inl ⟨⟨xs,q,zJ _⟩,T,z2⟩
theorem ZF{K:W.Frag}{a:Addr}{xs:List V}{g:TG}{I:TT}{G:TE}{w:St}{n:Nat}{R:List V->Hp->Prop}{H:Hp}(Pv:Nat->List V->Hp->Prop)(J:Pv 0 [] H)
  (L:∀i f H,Pv i f H->SqT K H a xs)
  (O:∀i x f H,xs[i]? =some x->Pv i f H->g x w H fun l C=>l.drop n=w.drop n/\I l C fun b s=>
   if b=true then G l s fun v D=>f.length<sizeLine/\Pv (i+1) (f++[v]) D else Pv (i+1) f s)
  (M:∀f H,Pv xs.length f H->f.length<=sizeLine/\R f H) :
  ∃W:Nat->Nat->List V->Hp->Prop,(∃m,W 0 m [] H)/\∀i m f j,W i m f j ->
   ((Itt K a).stop i j/\f.length<=sizeLine/\R f j) \/
   ((Itt K a).go i j/\∃N:List V->Hp->Prop,(∀f A,N f A->∃E,E<m/\W (i+1) E f A)/\∀x B,(Itt K a).yld i j x B->g x w B fun l C=>l.drop n=w.drop n/\I l C fun b s=>
    if b=true then G l s fun y D=>f.length<sizeLine/\N (f++[y]) D else N f s):=by
 refine⟨fun i m f j=>m=xs.length-i/\i<=xs.length/\Pv i f j,⟨_,rfl,qQ _,J⟩,?_⟩
 rintro i m f j ⟨rfl,Y,p⟩;have q:=L i f j p;by_cases u:i<xs.length
 ·refine .inr ⟨⟨xs,xs[i],q,by simp[u]⟩,Pv (i+1),fun U A Q=>⟨_,by omega,rfl,u,Q⟩,fun x B y=>?_⟩
  obtain⟨e,y⟩:=y;subst e;exact O i x f _ (y xs q) p
 ·have e:i=xs.length:=by omega
  subst e;obtain⟨T,z2⟩:=M f j p;exact .inl ⟨⟨xs,q,zJ _⟩,T,z2⟩
inductive DV(K:W.Frag)(F:Hp)(n:Nat):V->Prop
 | non:DV K F n .non
 | bl (b:Bool):DV K F n (.bl b)
 | int (i:Int) (h:i.natAbs<=10000000000+n):DV K F n (.int i)
 | str (x:Str) (h:x.length<=n):DV K F n (.str x)
 | lst (a:Addr) (f:List V) (h:SqL K F a f) (g:f.length<=n) (all:∀x∈f,DV K F n x):DV K F n (.ref a)
 | tup (a:Addr) (f:List V) (h:SqT K F a f) (g:f.length<=n) (all:∀x∈f,DV K F n x):DV K F n (.ref a)
theorem DV.up{K:W.Frag}{F j:Hp}{n m:Nat}{v:V}(h:DV K F n v)(s:Same F j)(hm:n<=m):DV K j m v:=by
 induction h with
 | non=>exact .non
 | bl b=>exact .bl b
 | int i h=>exact .int i (by omega)
 | str x h=>exact .str x (by omega)
 | lst a g h l all f=>exact .lst a g (s.seq h) (by omega) f
 | tup a g h l all f=>exact .tup a g (s.sqT h) (by omega) f
def WX(f:List Addr)(H:Hp):Hp:=fun c=>if c∈f then none else H c
theorem WX.new{f:List Addr}{H:Hp}{p:Addr}{o:HO}(h:H p=none):Same (WX f H) (WX f (upd H p o)):=fun c u e=>by
 unfold WX at e ⊢;split at e
 ·cases e
 ·rename_i hc
  rw[zq hc,zm (zi e h)];exact e
theorem WX.same{g:List Addr}{H f:Hp}(h:Same H f):Same (WX g H) (WX g f):=fun c u e=>by
 unfold WX at e ⊢;split at e
 ·cases e
 ·rename_i hc
  rw[zq hc];exact h c u e
theorem WX.cons{f:List Addr}{H:Hp}{m:Addr}:Same (WX (m::f) H) (WX f H):=fun c u e=>by
 unfold WX at e ⊢;split at e
 ·cases e
 ·rename_i hc
  rw[zq (fun z=>hc (jv _ z))]
  exact e
theorem WX.fresh{f:List Addr}{H:Hp}{m:Addr}(h:H m=none)(o:HO):Same (WX f H) (WX (m::f) (upd H m o)):=fun c u e=>by
 unfold WX at e ⊢;split at e
 ·cases e
 ·rename_i hc
  have hm:c≠m:=zi e h;rw[zq (fun z=>(zW.mp z).elim hm hc),zm hm]
  exact e
theorem WX.put{f:List Addr}{H:Hp}{m:Addr}{o:HO}(h:m∈f):Same (WX f H) (WX f (upd H m o)):=fun c u e=>by
 unfold WX at e ⊢;split at e
 ·cases e
 ·rename_i hc
  rw[zq hc,zm (show c≠m from fun z=>hc (by rw[z];exact h))]
  exact e
theorem WX.at{f:List Addr}{H:Hp}{c:Addr}{o:HO}(h:c∉f)(e:H c=some o):WX f H c=some o:=by
 unfold WX;rw[zq h];exact e
def zbi:Expr->Bool
 | .Starred _ _=>false
 | _=>true
theorem qK{e:Expr}{g:List Expr}{f:Env}(h:zbi e=true):starEach (e::g) f=(false,eval e f)::starEach g f:=by
 cases e<;>first| rfl | cases h
theorem pa5{X:Cx}{f g j l s:Expr}{u w A B C:TE}(D:PE X f u)(E:PE X g w)(G:PE X j A)(H:PE X l B)(I:PE X s C)(h:([f,g,j,l,s]).all zbi=true:=by rfl):PA X [f,g,j,l,s] (xR u (xR w (xR A (xR B (xR C zdm))))):=by
 have hz:=xm.mp h;exact(za D (za E (za G (za H (za I ze (qK (hz _ (by simp)))) (qK (hz _ (by simp)))) (qK (hz _ (by simp)))) (qK (hz _ (by simp)))) (qK (hz _ (by simp))))
theorem pa7{X:Cx}{f g j l s u w:Expr}{A B C D E G H:TE}(I:PE X f A)(J:PE X g B)(L:PE X j C)(M:PE X l D)(N:PE X s E)(O:PE X u G)(Q:PE X w H)(h:([f,g,j,l,s,u,w]).all zbi=true:=by rfl):PA X [f,g,j,l,s,u,w] (xR A (xR B (xR C (xR D (xR E (xR G (xR H zdm))))))):=by
 have hz:=xm.mp h;exact(za I (za J (za L (za M (za N (za O (za Q ze (qK (hz _ (by simp)))) (qK (hz _ (by simp)))) (qK (hz _ (by simp)))) (qK (hz _ (by simp)))) (qK (hz _ (by simp)))) (qK (hz _ (by simp)))) (qK (hz _ (by simp))))
section
variable{X:Cx}{l G f:Expr}{u:List Expr}{scope:Scope}{w:Pos}{E:TI}{g:TG}{B:TT}{A:TE}
theorem Xo{y:Str}{py:Pos}{Y:TG}{j:List (Addr×Obj)}{σ:St}{L:Hp}{O:St->Hp->Prop}{H:Shared}{D C:Addr}{m:Str->Option Value}(M:PG X (.Name y py) Y)(hn:H.heap.Ns C m)
  (all:∀h7:Heap,(∀b o,b≠C->H.heap.get? b=some o->h7.get? b=some o)->Inv X j σ L { H with heap:=h7 }) (U:jf X j L C) (q:Y (.ref D) σ L O) :
  wpAny (model X.prog X.w) X.A (assign (.Name y py) X.env (.ref D)) (fun _ s=>∃m,s.heap.Ns C m/\∀h',Heap.SameBut C s.heap h'->∃σ' Q,Inv X j σ' Q { s with heap:=h' }/\O σ' Q) X.xe H:=by
 have J0:=all H.heap fun b o _ e=>e
 obtain⟨J,es,ep,I,hd,r⟩:=hn;have J1:=J0.pinned (fp:=[C]) (fun b hb=>by rw[qu.mp hb];exact U) (fun b hb=>by rw[qu.mp hb];exact⟨J,I,fun v z=>by rw[hd] at z;cases z⟩)
 have mC:(C,J)∈j++zR [C] H.heap:=qi _ (qD (qu.mpr rfl) I);refine thn (M _ H σ _ (.ref D) (.ref D) _ J1 rfl q) fun _ s8 ⟨σ8,H8,T,q8⟩=>?_
 obtain⟨e8,n8,_⟩:=T.pin (C,J) (qi _ mC);obtain⟨_,g1,_,g3,g4,g5⟩:=U;exact⟨m,⟨J,es,ep,e8,hd,r⟩,fun h9 N=>⟨σ8,H8,(T.unpinned).turned (t':=s8.toks) (it:=C) (fun b o hb e=>N.extBut b o hb e) n8 g1 g3 g4 g5,q8⟩⟩
theorem zc9{y:Str}{U L:Pos}{g2:TG}(own N:List Str)(js:List Nat)(hc:X.calm=true)(hk:scope.kind=.function)(hb:wf scope.names X.env.scope.names X.N N js=true)(hi:PI X G f E)
  (hg:∀C s H M,PG (zt X (own++N) scope C s H M) G g) (hf:∀C s H M,PF (zt X (own++N) scope C s H M) u B) (he:∀C s H M,PE (zt X (own++N) scope C s H M) l A)
  (a0:PG X (.Name y U) g2) (aa:swapsWith (.ListComp l [⟨G,f,u,0⟩] scope w) (some (.Name y U)) L.line X.env=pure true:=by rfl)
  (hs:∀x,foldedSetIterable f X.env x=pure x:=by intro _;rfl):PS X (.Assign [.Name y U] (.ListComp l [⟨G,f,u,0⟩] scope w) L) (VD (tLC E own.length js g B A) g2):=by
 intro O s σ H Dn I h;rw[exec_Assign_Name_used _ _ _ _ aa];refine zj (xi (zj ?_))
 show wpAny _ X.A (do let _<-comprehension (.ListComp l [⟨G,f,u,0⟩] scope w) scope X.env _ (newList []) false (eval f X.env) (some (assign (.Name y U) X.env))) _ _ s
 refine zj (zP (Yk (rest:=[]) (use:=some (assign (.Name y U) X.env)) (Qx:=fun _ s'=>∃σ' H',Inv X O σ' H' s'/\Dn.nx σ' H') (Q:=fun v H1=>g2 v σ H1 Dn.nx) own N js hk hb hi hs I h (fun C D it fp tn J W H2 s3 s4 m0 R a b T tl j Y=>W9 hc hg hf he a b T tl j Y) fun s6 D C H6 m hn all fc q=>Xo a0 hn all fc q) (fun _ s' hq=>zB (zB hq)) fun _ _ e=>e)
theorem yk{x y:Str}{N O j:Pos}{Q:TG}(I:List Str)(M:List Nat)(hc:X.calm=true)(hk:scope.kind=.function)(hb:vi scope.names X.env.scope.names X.N [x] I M=true)(hi:PI X (.Name x N) f E)
  (hf:∀C s H D,PF (zt X ([x]++I) scope C s H D) u B) (he:∀C s H D,PE (zt X ([x]++I) scope C s H D) l A)
  (J:PG X (.Name y O) Q) (L:swapsWith (.ListComp l [⟨.Name x N,f,u,0⟩] scope w) (some (.Name y O)) j.line X.env=pure true:=by rfl)
  (hs:∀x,foldedSetIterable f X.env x=pure x:=by intro _;rfl):PS X (.Assign [.Name y O] (.ListComp l [⟨.Name x N,f,u,0⟩] scope w) j) (VD (tLC E 1 M (jQ 0) B A) Q):=by
 obtain⟨T,U,Y⟩:=jY hb;exact zc9 [x] I M hc hk T hi (fun C s H D=>jL (U x (by simp)) Y rfl) hf he J L hs
theorem zaX{x z y:Str}{O T Q j U:Pos}{N:Nat}{Y:TG}(I:List Str)(M:List Nat)(hc:X.calm=true)(hk:scope.kind=.function)(hb:vi scope.names X.env.scope.names X.N [x,z] I M=true)(hi:PI X (.Tuple [.Name x O,.Name z T] N U) f E)
  (hf:∀C s H D,PF (zt X ([x,z]++I) scope C s H D) u B) (he:∀C s H D,PE (zt X ([x,z]++I) scope C s H D) l A)
  (J:PG X (.Name y Q) Y) (L:swapsWith (.ListComp l [⟨.Tuple [.Name x O,.Name z T] N U,f,u,0⟩] scope w) (some (.Name y Q)) j.line X.env=pure true:=by rfl)
  (hs:∀x,foldedSetIterable f X.env x=pure x:=by intro _;rfl):PS X (.Assign [.Name y Q] (.ListComp l [⟨.Tuple [.Name x O,.Name z T] N U,f,u,0⟩] scope w) j) (VD (tLC E 2 M (Y8 X.K 2 (wc (jQ 0) (wc (jQ 1) zbu))) B A) Y):=by
 obtain⟨h1,h2,h3⟩:=jY hb;refine zc9 [x,z] I M hc hk h1 hi (fun C s H D=>?_) hf he J L hs
 exact qR (X:=zt X ([x,z]++I) scope C s H D) hc (zu (jL (h2 x (by simp)) h3 rfl) (zu (jL (h2 z (by simp)) h3 rfl) qq))
end
theorem Vals.mem{u:Value}:∀{f:List V} {g:List Value},Vals f g->u∈g->∃x∈f,RelV x u
 | _,_,.nil,h=>by cases h
 | x::f,v::l,.cons r t,h=>by
  rcases zW.mp h with e | h
  ·rw[e];exact⟨x,xn,r⟩
  ·obtain⟨y,hy,j⟩:=Vals.mem t h
   exact⟨y,jv _ hy,j⟩
section
variable{X:Cx}
theorem zed{D:List (Addr×Obj)}{σ:St}{H:Hp}{s:Shared}(I:Inv X D σ H s){A:Around}(hu:A.units<cLine){a c:Addr}{l u:List V}(hx:SqT X.K H a l)(hy:SqT X.K H c u)(M:l.all jR=true)(N:u.all jR=true):∃b,SeqAt.EqAt A s (.ref a) (.ref c) b:=by
 by_cases w:a=c
 ·subst w
  exact⟨true,SeqAt.EqAt.same _⟩
 ·obtain⟨B,E,Y,z1⟩:=I.tuple hx
  obtain⟨C,G,p2,z2⟩:=I.tuple hy;have l1:=E.length;have l2:=G.length;refine⟨_,SeqAt.EqAt.of_refs w (SeqAt.RcAt.tuples (e:=fun j=>eqV (l.getD j .non) (u.getD j .non)) Y p2 hu (fun j T U=>?_))⟩
  have f:j<l.length:=by rw[qF] at T;omega
  have g:j<u.length:=by rw[qF] at U;omega
  obtain⟨w1,J,q1⟩:=E.get (i:=j) (x:=l[j]) (by simp[f])
  obtain⟨w2,L,q2⟩:=G.get (i:=j) (x:=u[j]) (by simp[g])
  have O:B.toArray[j]=w1:=by simpa using (zZ.mp J).2
  have Q:C.toArray[j]=w2:=by simpa using (zZ.mp L).2
  rw[O,Q,show l.getD j .non=l[j] by simp[f],show u.getD j .non=u[j] by simp[g]]
  exact JM q1 q2 (xm.mp M _ (xZ f)) (xm.mp N _ (xZ g))
inductive Jn(K:W.Frag)(x:V)(y:V)(H:Hp)(Q:VK):Prop
 | mk (a p:Addr) (j g:List V) (_:x=.ref a) (_:y=.ref p) (_:SqT K H a j) (_:j.all jR=true) (_:SqL K H p g) (_:(∀v∈g,∃(c:Addr) (f:List V),v=.ref c/\SqT K H c f/\f.all jR=true)) (_:∀r:Bool,Q (.bl r) H):Jn K x y H Q
open Classical in
theorem zcg(hu:X.A.units+64<cLine):OpR X (compareOp .In) (Jn X.K):=by
 intro A s σ H x y v u Q I G J h;obtain⟨a,p,N,M,rfl,rfl,ha,C,hp,all,q⟩:=h;cases G;cases J;obtain⟨j,r,E,hz⟩:=I.list hp;have B:∀w∈j,∃b,SeqAt.EqAt X.A.in1 s w (.ref a) b:=fun w g=>by
  obtain⟨x,hx,l⟩:=Vals.mem r g;obtain⟨c,L,rfl,hc,D⟩:=all x hx;cases l;exact zed I (by show X.A.units+1<cLine;omega) hc ha D C
 refine SeqAt.in_listAt (fun w=>if h:∃b,SeqAt.EqAt X.A.in1 s w (.ref a) b then h.choose else false) E.isList (fun w g=>?_) ⟨.bl _,H,I,rfl,q _⟩
 have f:=B w (by simpa using g)
 simp only[f,dif_pos];exact f.choose_spec
inductive Qb(K:W.Frag)(x:V)(y:V)(H:Hp)(Q:VK):Prop
 | mk (a b:Addr) (f:List V) (_:x=.ref a) (_:y=.ref b) (_:SqL K H a f) (_:SqL K H b []) (_:Q (.bl (!f.isEmpty)) H):Qb K x y H Q
theorem wK(hu:X.A.units<cLine):OpR X (compareOp .NotEq) (Qb X.K):=by
 intro A s σ H x y v u Q I E G h;obtain⟨a,b,J,rfl,rfl,hx,hy,q⟩:=h;cases E;cases G;obtain⟨f,C,l,L⟩:=I.list hx;obtain⟨g,D,w,z2⟩:=I.list hy;cases D;cases C with
 | nil=>exact SeqAt.RcNeAt.lists (e:=fun _=>true) l.isList w.isList rfl hu (fun j B _=>by simp at B) _ _ _ _ ⟨.bl _,H,I,rfl,q⟩
 | cons r t=>exact SeqAt.RcNeAt.lists_lengths l.isList w.isList (by simp) hu _ _ _ _ ⟨.bl _,H,I,rfl,q⟩
inductive Qc(K:W.Frag)(x:V)(y:V)(H:Hp)(Q:VK):Prop
 | mk (a b:Addr) (f:List V) (_:x=.ref a) (_:y=.ref b) (_:SqL K H a f) (_:SqL K H b []) (_:Q (.bl f.isEmpty) H):Qc K x y H Q
theorem XQ(hu:X.A.units<cLine):OpR X (compareOp .Eq) (Qc X.K):=by
 intro A s σ H x y v u Q I E G h;obtain⟨a,b,J,rfl,rfl,hx,hy,q⟩:=h;cases E;cases G;obtain⟨f,C,l,L⟩:=I.list hx;obtain⟨g,D,w,z2⟩:=I.list hy;cases D;cases C with
 | nil=>exact SeqAt.RcAt.lists (e:=fun _=>true) l.isList w.isList rfl hu (fun j B _=>by simp at B) _ _ _ _ ⟨.bl _,H,I,rfl,q⟩
 | cons r t=>exact SeqAt.RcAt.lists_lengths l.isList w.isList (by simp) hu _ _ _ _ ⟨.bl _,H,I,rfl,q⟩
theorem Xl:∀{f:List Value} {n k:Nat},f.length=n->(∀j v,f[j]? =some v->∃t,v=Value.int ((k+j:Nat):Int) t)->Vals ((List.range' k n).map fun i:Nat=>V.int (i:Int)) f
 | [],0,k,_,_=>.nil
 | v::f,n+1,k,l,h=>by
  rw[List.range'_succ,xD];obtain⟨t,e⟩:=h 0 v rfl;refine .cons ⟨t,by rw[e];rfl⟩ (Xl (by simpa using l) fun j w s=>?_)
  obtain⟨u,g⟩:=h (j+1) w (by simpa using s)
  exact⟨u,by rw[g,show k+(j+1)=k+1+j by omega]⟩
theorem Jx{a:Expr}{U:TA}{p L M f:Pos}(hc:X.calm=true)(hg:Gl X "list")(hm:X.mg "list" = none)(E:Gl X "range")(G:X.mg "range" = none)(J:bootBuiltins "list" = some (.type "list"))(ha:PA X [a] U)(hs:starEach [a] X.env=[(false,eval a X.env)]:=by rfl)
  (O:starEach [.Call (.Name "range" L) [a] [] f] X.env=[(false,eval (.Call (.Name "range" L) [a] [] f) X.env)]:=by rfl) :
  PE X (.Call (.Name "list" p) [.Call (.Name "range" L) [a] [] f] [] M) (fun σ H Q=>U σ H fun Y D=>∃j:Int,Y=[.int j]/\0<=j/\j<=1000000/\∀l,D l=none->Q (.ref l) (upd D l (.lst ((List.range j.toNat).map fun i:Nat=>V.int (i:Int))))):=by
 intro w s σ H Q I h;refine wpAny_Call_Name_kw (xN I hg hm J ?_ (by decide) (by decide))
 refine yY ?_ O rfl
 rw[O];refine Calls.spliced_cons ?_
 refine Call_ (xN I E G boot_range (yY (thn (ha f w s σ H _ I h) fun us C ⟨Y,D,I1,r1,q1⟩=>?_) hs rfl))
 obtain⟨j,e,j0,j1,q⟩:=q1;subst e;cases r1 with
 | cons r rr=>
  cases rr;obtain⟨t,rfl⟩:=r;refine call_range_1 (Calls.spliced_nil ?_)
  have N:Inv X w σ D { C with heap:=C.heap.push { cls:=.type "range",data:=.fields #[.int 0 C.toks,.int j t,.int 1 (C.toks+1)] },toks:=C.toks+1+1 }:=I1.kept fun b o e=>qd _ e
  have u:=bGe;refine call_list_range (n:=j.toNat) (I.ok.hd hc) (IsRange.new ..) (small_one (by rw[u];omega) (by rw[u];omega) (by rw[u];omega) (by rw[u];omega)) (by rw[rangeSize_one];split<;>omega) (by omega) fun h' tk A c' B get g=>?_
  refine⟨.ref _,_,N.laid (t':=tk) (o:=.lst ((List.range j.toNat).map fun i:Nat=>V.int (i:Int))) B (zJ _) ?_,rfl,q _ (N.hok.fresh (zJ _))⟩
  refine⟨by rw[zx,yU,sizeLine_eq];omega,A.toList,c',?_,by rw[Array.toArray_toList];exact get⟩
  rw[List.range_eq_range'];refine Xl (by rw[yX];exact g.1) fun i v J=>?_
  obtain⟨T,e'⟩:=g.2 i v (by simpa using J)
  exact⟨T,by rw[e'];congr 1;omega⟩
end
end L2
namespace L2
open PySem PySem.Spec PyProof.Rows
section
variable{f:Program}{w:World}{A:Around}{E:Value->Shared->Prop}{s:Shared}
end
theorem Inv.track{X:Cx}{g:List (Addr×Obj)}{σ:St}{H:Hp}{s:Shared}{a:Addr}{o:HO}(I:Inv X g σ H s)(f:jf X g H a)(j:ObjOk X.prog X.w (upd H a o) s.heap a o):Inv X g σ (upd H a o) s:=by
 refine I.call' (s':=s) (ch:=[a]) rfl (Zj Un.refl (qu.mpr rfl) f.1) (yq I.hok f.1 j) I.bare fun b hb=>?_
 rw[qu.mp hb];exact⟨f.2.2.2.1,f.2.1,f.2.2.2.2.1,f.2.2.2.2.2⟩
def Tups(H:Hp)(g l:List V)(f:List Addr):Prop:=∀(j:Nat) (T:Addr),f[j]? =some T->∃x y,g[j]? =some x/\l[j]? =some y/\H T=some (.tup [x,y])
theorem Tups.same{H f:Hp}{l u:List V}{g:List Addr}(h:Tups H l u g)(s:Same H f):Tups f l u g:=fun j T e=>let ⟨x,y,a,b,c⟩:=h j T e;⟨x,y,a,b,s _ _ c⟩
theorem Tups.snoc{H:Hp}{g l:List V}{f:List Addr}{T:Addr}{x y:V}(h:Tups H g l f)(hx:g[f.length]? =some x)(hy:l[f.length]? =some y)(s:H T=some (.tup [x,y])):Tups H g l (f++[T]):=fun j U e=>by
 by_cases u:j<f.length
 ·rw[yf u] at e
  exact h j U e
 ·rw[wp (by omega)] at e
  have:j=f.length:=by
   have:=(zZ.mp e).1;simp at this;omega
  subst this;simp at e;subst e;exact⟨x,y,hx,hy,s⟩
section
variable{X:Cx}{A:Around}{R:Result->Shared->Prop}
end
section
variable{X:Cx}
theorem wR{K:W.Frag}(h:X.K=K):IxR X (zdw K):=by rw[<- h];exact zH
theorem qY{K:W.Frag}(h:X.K=K):IxR X (zdv K):=by rw[<- h];exact qh
theorem j5{K:W.Frag}(h:X.K=K):CallR X (.builtin "len") (xF K):=by rw[<- h];exact zA
theorem ZB{K:W.Frag}(h:X.K=K):OpR X (compareOp .In) (rIn K false):=by rw[<- h];exact vR
theorem Qi{K:W.Frag}(h:X.K=K):OpR X (compareOp .NotIn) (rIn K true):=by rw[<- h];exact JA
inductive Vu(x:V)(y:V)(H:Hp)(Q:VK):Prop
 | mk (a b:_) (_:x=.bl a) (_:y=.bl b) (_:Q (.bl (decide (a=b))) H):Vu x y H Q
theorem zdN:OpR X (compareOp .Is) (Vu):=by
 intro f s σ H x y v u Q I g j h;obtain⟨a,b,rfl,rfl,q⟩:=h;cases g;cases j;refine wpAny_is_plain (by cases a<;>cases b<;>rfl) (zV I q ?_)
 cases a<;>cases b<;>rfl
inductive Jm(x:V)(y:V)(H:Hp)(Q:VK):Prop
 | mk (a b:_) (_:x=.bl a) (_:y=.bl b) (_:Q (.bl (!decide (a=b))) H):Jm x y H Q
theorem JB:OpR X (compareOp .IsNot) (Jm):=by
 intro f s σ H x y v u Q I g j h;obtain⟨a,b,rfl,rfl,q⟩:=h;cases g;cases j;refine wpAny_isNot_plain (by cases a<;>cases b<;>rfl) (zV I q ?_)
 cases a<;>cases b<;>rfl
end
section
open AutoSeq1 (wpAny_loadPart')
theorem vH(l:Addr)(f:Array Value)(n:Nat)(u:Option Addr)(E:Array (Option Value)) :
  Meets (Builtin.«enumerate.__new__» ⟨[.type "enumerate",.ref l],[]⟩) (fun _ R s=>s.heap.get? l=some { cls:=.type "tuple",dict:=u,data:=.seq f n,slots:=E } /\
   R (.ok (.ret (.ref (s.heap.push { cls:=.type "tuple_iterator",data:=.fields #[.ref l,.int 0 0] }).objs.size)))
    { s with heap:=(s.heap.push { cls:=.type "tuple_iterator",data:=.fields #[.ref l,.int 0 0] }).push { cls:=.type "enumerate",data:=.fields #[.none,.bool false,.ref s.heap.objs.size,rawInt 0,.none,.none] } }):=
 .of_wp fun D w A R s h=>by
  obtain⟨hp,g,d,G,os⟩:=s;obtain⟨j,h⟩:=h
  have C:=sub_enumerate;have B:Heap.IsTuple (Shared.heap ⟨hp,g,d,G,os⟩) l f:=⟨_,j,rfl,n,rfl⟩;wp_walk using wpAny_loadPart' j
  refine wpAny_stack_any fun st=>zB ?_
  split
  ·rename_i c _ _ _ _ _
   cases(c==Value.type "enumerate")
   ·wp_walk using wpAny_loadPart' j,wpAny_pyIter_tuple B
    exact⟨_,rfl,h⟩
   ·wp_walk using wpAny_loadPart' j,wpAny_pyIter_tuple B
    exact⟨_,rfl,h⟩
  ·wp_walk using wpAny_loadPart' j,wpAny_pyIter_tuple B
   exact⟨_,rfl,h⟩
end
section
variable{prog:Program}{w:World}{A:Around}{E:Value->Shared->Prop}{s:Shared}
theorem vK{l:Addr}{f:Array Value}{Q:Value->Shared->Prop}(G:s.heap.IsTuple l f)
  (h:∀g,IsEnum g (s.heap.objs.size+1) s.heap.objs.size 0 .none->g.IsTupleIter s.heap.objs.size l 0->g.objs.size=s.heap.objs.size+2 ->
   (∀b o,s.heap.get? b=some o->g.get? b=some o)->Q (.ref (s.heap.objs.size+1)) { s with heap:=g }) :
  wpAny (model prog w) A (call (.type "enumerate") [.ref l]) Q E s:=by
 obtain⟨⟨c,j,D,I⟩,H,hc,n,u⟩:=G;replace hc:c=.type "tuple" :=hc
 replace u:D=.seq f n:=u
 subst hc u;refine callType_new F.called_enumerate (by decide) (F.typeCall_enumerate_1 _) (F.newCall_enumerate_1 _) (fun B=>F.args_object_init_2 B _) F.entry_enumerate_new
  (vH l f n j I) ⟨H,?_⟩
 have hz:(s.heap.push { cls:=.type "tuple_iterator",data:=.fields #[.ref l,.int 0 0] }).objs.size=s.heap.objs.size+1:=jt ..;show _/\_;rw[hz];have C:IsEnum ((s.heap.push { cls:=.type "tuple_iterator",data:=.fields #[.ref l,.int 0 0] }).push
   { cls:=.type "enumerate",data:=.fields #[.none,.bool false,.ref s.heap.objs.size,rawInt 0,.none,.none] }) (s.heap.objs.size+1) s.heap.objs.size 0 .none:=by
  have:=qy (s.heap.push { cls:=.type "tuple_iterator",data:=.fields #[.ref l,.int 0 0] })
   (o:={ cls:=.type "enumerate",data:=.fields #[.none,.bool false,.ref s.heap.objs.size,rawInt 0,.none,.none] }) rfl
  rw[hz] at this;exact this
 refine⟨⟨_,C,rfl⟩,h _ C ⟨_,qd _ (qy _ rfl),rfl,rfl⟩ (by rw[jt,hz]) fun b o x=>qd _ (qd _ x)⟩
theorem Draws.tuple{prog:Program}{w:World}{A:Around}(J:A.handled=none)(u l:Addr)(C:l≠u)(f:Array Value) :
  Draws prog w A u [u,l] f.size (fun i v=>f[i]? =some v) (fun i h=>h.IsTupleIter u l i/\h.IsTuple l f) where
 live:=fun _ _ st=>let ⟨o,L,_⟩:=st.1;⟨o,L⟩
 frame:=fun _ _ _ st hk=>⟨ItrK.at (kd:=false) st.1 fun o e=>hk u (by simp) o e,SeqK.at (kd:=false) st.2 fun o e=>hk l (by simp) o e⟩
 item:=fun i s Q E D st I=>by
  refine vf (kd:=false) st.1 st.2 (x:=f[i]) (by simp[D]) fun G g j=>?_
  exact I _ G s.toks (by simp[D]) ⟨g,SeqK.at (kd:=false) st.2 fun o e=>j.extBut l o C e⟩ j
 done:=fun s Q E st H=>vS (kd:=false) J st.1 st.2 (by simp) H
end
def zbU(K:W.Frag)(a:Addr):It:=
 ⟨fun i H=>∃f x,SqT K H a f/\f[i]? =some x,fun i H x g=>∃T y,x=.ref T/\H T=none/\g=upd H T (.tup [.int i,y])/\∀f,SqT K H a f->f[i]? =some y,fun i H=>∃f,SqT K H a f/\f.length<=i⟩
theorem VB{P:Program}{w:World}{K:W.Frag}{N:List Expr}{kk:Nat}{aj:Pos}(a e g:Addr)(G:e≠g) :
  vY P w K (.Tuple N kk aj) (zbU K a) [e,g] e (fun i h=>(∃B,IsEnum h e g i B)/\h.IsTupleIter g a i) where
 mem:=by simp
 obj:=fun i h st b hb=>by
  obtain⟨⟨B,j⟩,⟨o,ho,c,d⟩⟩:=st;rcases zW.mp hb with z | z
  ·subst z;exact⟨_,j,fun v q=>nomatch q⟩
  ·rw[qu.mp z];exact⟨o,ho,fun v q=>by rw[d] at q;cases q⟩
 keep:=fun i h h' st k=>by
  obtain⟨⟨B,j⟩,hi⟩:=st;exact⟨⟨B,k e (by simp) _ j⟩,ItrK.at (kd:=false) hi fun o q=>k g (by simp) o q⟩
 item:=by
  intro X hP hw hK hc i Y s σ H E I hf st hg;subst hP hw hK;obtain⟨⟨B,j⟩,l⟩:=st;obtain⟨xs,x,hq,hx⟩:=hg;obtain⟨f,rv,p,hz⟩:=I.tuple hq;obtain⟨u,hu,ru⟩:=rv.get hx;have M:s.heap.IsTuple a f.toArray:=p;have O:a≠g:=fun z=>by
   obtain⟨o,C,c1,_⟩:=M;obtain⟨o',e2,c2,_⟩:=l;rw[z,e2] at C;cases C;rw[c2] at c1;exact absurd (yP c1) (by decide)
  have aa:e≠a:=fun z=>by
   obtain⟨o,C,c1,_⟩:=M;rw[<- z,j] at C;cases C;exact absurd (yP c1) (by decide)
  have D:=Draws.tuple (prog:=X.prog) (w:=X.w) (A:=X.A.in1) (I.ok.hd hc) g a O f.toArray;have hi:i<f.toArray.size:=by
   have h1:=(zZ.mp hu).1;simpa using h1
  refine wpAny_pyNext_enum_itemD D j ⟨l,M⟩ hi G (by simp[G,aa]) fun x' h' tk a0 Q U hT am hk=>?_
  have ex:x'=u:=by
   have L:f[i]? =some x':=by simpa using a0
   rw[hu] at L;exact(qW L).symm
  subst ex;refine⟨_,rfl,wpAny_letOwnedTupleGo_enum Q fun L af J=>?_⟩
  have eT:s.heap.objs.size≠e:=vm (zK j);have k2:∀b o,b∉[e,g]->s.heap.get? b=some o->L.get? b=some o:=fun b o hb q=>by
   have n1:b≠e:=fun z=>hb (by simp[z])
   have n2:b≠g:=fun z=>hb (by simp[z])
   exact(J.2 b n1).trans (hk b o n1 n2 q)
  have ai:L.IsTupleIter g a (i+1):=ItrK.at (kd:=false) U.1 fun o q=>J.extBut g o (qB G) q
  refine⟨.ref s.heap.objs.size,upd H s.heap.objs.size (.tup [.int i,x]),?_,rfl,⟨_,x,rfl,I.hok.fresh (zJ _),rfl,fun ys hy=>by rw[I.tuple_inj hy hq];exact hx⟩,⟨⟨_,by simpa using af⟩,ai⟩,fun b hb=>?_⟩
  ·refine JG (s:=s) (h':=L) (t':=tk+1) (its:=[.int i tk,x']) I hf (zJ _) k2 (by rw[sizeLine_eq];exact(by decide:2<=16777216)) (.cons ⟨tk,rfl⟩ (.cons ru .nil)) (TupX.by ((J.2 _ eT).trans hT))
  ·have ab:b<s.heap.objs.size:=by
    rcases zW.mp hb with z | z
    ·rw[z];exact zK j
    ·rw[qu.mp z]
     obtain⟨o',e',_⟩:=l;exact zK e'
   rw[zm (z9 ab)];exact(hf b hb).1
 done:=by
  intro X hP hw hK hc i Y s σ H E I hf st hg;subst hP hw hK;obtain⟨⟨B,j⟩,l⟩:=st;obtain⟨xs,hq,hx⟩:=hg;obtain⟨f,rv,p,hz⟩:=I.tuple hq;have M:s.heap.IsTuple a f.toArray:=p;have O:a≠g:=fun z=>by
   obtain⟨o,C,c1,_⟩:=M;obtain⟨o',e2,c2,_⟩:=l;rw[z,e2] at C;cases C;rw[c2] at c1;exact absurd (yP c1) (by decide)
  obtain⟨f0,f1,f2,f3,f4,f5⟩:=hf g (by simp)
  have ag:f.toArray.size<=i:=by
   have:=rv.length;simp only[qF];omega
  have hT:s.TypeIs (.ref e) "enumerate" :=⟨_,j,rfl⟩;unfold pyNext;refine zj (yz (yc (name:=Str.ofString "__next__") hT Xg (wm Xg hT F.entry_enumerate_next ?_ (F.args_enumerate_next_1 _))))
  show wpAny _ _ (field (.ref e) 2 >>= _) _ _ _;refine zj (xb j rfl (x:=.ref g) rfl (zj (vS (kd:=false) (I.ok.hd hc) l M (by simpa using ag) fun h' x ae ah=>?_)))
  obtain⟨o,ho,ac⟩:=ah;refine zj (yE (T:= "StopIteration") (b:=true) ⟨o,ho,ac⟩ isSubtype_stop ?_)
  exact zB ⟨rfl,I.turned (t':=s.toks) (fun b o hb q=>ae b o hb q) f0 f1 f3 f4 f5⟩
 self:=fun _ _ _ _ _ st h=>let ⟨⟨_,j⟩,_⟩:=st;wpAny_pyIter_enum j h
section
variable{X:Cx}
def zd9(K:W.Frag)(g:TA):TI:=fun σ H R=>g σ H fun j f=>∃a,j=[.ref a]/\(∃l,SqT K f a l)/\R (zbU K a) f
theorem za1{l:Expr}{E:TA}{p A tp:Pos}{j:List Expr}{T:Nat}(L:Gl X "enumerate")(hm:X.mg "enumerate" = none)(ha:PA X [l] E)(N:starEach [l] X.env=[(false,eval l X.env)]:=by rfl) :
  PI X (.Tuple j T tp) (.Call (.Name "enumerate" p) [l] [] A) (zd9 X.K E):=by
 intro f s σ H R I h;refine Call_ (xN I L hm boot_enumerate (yY (thn (ha A f s σ H _ I h) fun us g ⟨vs,C,B,r1,Y⟩=>?_) N rfl))
 obtain⟨a,e,⟨xs,hq⟩,q⟩:=Y;subst e;obtain⟨u,rfl,ru⟩:=vy r1;cases ru;obtain⟨Q,rv,U,hz⟩:=B.tuple hq;refine vK U fun J D M O hk=>wpAny_pyIter_enum D ?_
 have G:Inv X f σ C { g with heap:=J }:=B.kept (t':=g.toks) hk;refine⟨g.heap.objs.size+1,[g.heap.objs.size+1,g.heap.objs.size],_,_,C,rfl,G,VB a _ _ (Nat.succ_ne_self _),⟨⟨_,D⟩,M⟩,fun b hb=>?_,q⟩
 have w:g.heap.objs.size<=b:=by
  rcases zW.mp hb with z | z
  ·rw[z];exact yu _
  ·rw[qu.mp z];exact zJ _
 exact B.fpOk w (B.hok.fresh w)
end
end L2
namespace L2
open PySem PySem.Spec PyProof.Rows
section
variable{g:Program}{w:World}{A:Around}{R:Result->Shared->Prop}{s:Shared}
abbrev lc2(u D f:Expr)(j:List Expr)(E l:Expr)(B:List Expr)(scope:Scope)(C:Pos):Expr:=.ListComp u [⟨D,f,j,0⟩,⟨E,l,B,0⟩] scope C
theorem Vg(C G l:Expr)(u:List Expr)(I j:Expr)(D:List Expr)(scope:Scope)(E:Pos)(H B:Value)(f:Env) :
  compTurn (lc2 C G l u I j D scope E) 1 H B f=(do
   standAt j.pos
   match<-pyNext H with
   | none=>pure (.done .next)
   | some v=>
    letOwnedTupleGo I H v
    assign I f v
    let mut ok:=true
    for c in D do
     if ok then ok<-isTrue c f (eval c f)
    if ok then
     (do let _<-call (.builtin "list.append") [B,<- eval C f])
    again (.compLoop (lc2 C G l u I j D scope E) 1 H B f)):=by rfl
theorem JN(D B j:Expr)(u:List Expr)(I f:Expr)(E:List Expr)(scope:Scope)(G:Pos)(H C:Value)(l:Env) :
  compTurn (lc2 D B j u I f E scope G) 0 H C l=(do
   standAt j.pos
   match<-pyNext H with
   | none=>pure (.done .next)
   | some v=>
    letOwnedTupleGo B H v
    assign B l v
    let ok<-jA u l
    if ok=true then do
     let x<-eval f l
     standAt f.pos
     let x<-foldedSetIterable f l x
     let J<-holding [x] (pyIter x)
     let _<-runOwn (.compStart (lc2 D B j u I f E scope G) 1 J C l) l
     again (.compLoop (lc2 D B j u I f E scope G) 0 H C l)
    else again (.compLoop (lc2 D B j u I f E scope G) 0 H C l)):=by rfl
theorem vI{C G f l L j D scope E J B u}
  (N:codeAny (model g w) A (.compLoop (lc2 C G f l L j D scope E) 1 J B u) R s)
  (h:wpAny (model g w) A (pyIter J) (fun H I=>codeAny (model g w) A (.compLoop (lc2 C G f l L j D scope E) 1 H B u) R I)
   (notedBy (model g w) A u fun x I=>R (.error x) I) s) :
  codeAny (model g w) A (.compStart (lc2 C G f l L j D scope E) 1 J B u) R s:=by
 refine codeAny_of_tree ?_
 show wpAny _ _ ((compStart (lc2 C G f l L j D scope E) 1 J B u).onRaise (fun x=>do noteFrame x u;standAt theWindowsPlace)) _ _ s
 refine wpAny_notedAt ?_
 unfold compStart;show wpAny _ _ (ask >>= _) _ _ s;refine zj (wpAny_askSetting (wpAny_ite ?_))
 split
 ·first
   | exact zj (zB (zB (And.intro rfl N)))
   | exact zB (And.intro rfl N)
 ·first
   | exact zj (wC (zj (xi (zj (zP h (fun H I M=>zB (And.intro rfl M)) fun _ _ x=>x)))))
   | (refine zj (wC ?_);show wpAny _ _ (standAt j.pos >>= _) _ _ s;exact zj (xi (zj (zP h (fun H I M=>zB (And.intro rfl M)) fun _ _ x=>x))))
theorem zeh{B L j:Expr}{C:List Expr}{Y D:Expr}{G:List Expr}{scope:Scope}{I:Pos}{N l:Value}{f:Env}(J:Nat->Shared->Prop)
  (M:∀n s,J n s->wpAny (model g w) A (pyNext N) (fun r s1=>match r with
   | none=>R (.ok .next) s1
   | some v=>wpAny (model g w) A (letOwnedTupleGo Y N v) (fun _ s2=>wpAny (model g w) A (assign Y f v) (fun _ s3=>
     wpAny (model g w) A (jA G f) (fun ok O=>
      if ok=true then wpAny (model g w) A (eval B f) (fun x T=>
       wpAny (model g w) A (call (.builtin "list.append") [l,x]) (fun _ U=>∃m,m<n/\J m U) (fun _ _=>False) T) (fun _ _=>False) O
      else ∃m,m<n/\J m O) (fun _ _=>False) s3) (fun _ _=>False) s2) (fun _ _=>False) s1) (fun _ _=>False) s)
  (n:Nat) (h:J n s):codeAny (model g w) A (.compLoop (lc2 B L j C Y D G scope I) 1 N l f) R s:=by
 have H:∀{α:Type} {t:Sem α} {Q:α->Shared->Prop} {E:Value->Shared->Prop} {s:Shared},wpAny (model g w) A t Q (fun _ _=>False) s->wpAny (model g w) A t Q E s:=fun x=>zP x (fun _ _ q=>q) fun _ _ q=>q.elim
 refine codeAny_loop rfl J (fun k u hJ=>?_) n h
 show wpAny _ A ((compTurn (lc2 B L j C Y D G scope I) 1 N l f).onRaise (fun x=>do noteFrame x f;theTreesLotGoes x)) _ _ u
 refine wpAny_noted ?_
 rw[Vg];refine zj (xi (zj (H (zP (M k u hJ) (fun r s1 h1=>?_) fun _ _ q=>q))))
 cases r with
 | none=>exact zB h1
 | some v=>
  refine zj (H (zP h1 (fun _ s2 h2=>zj (H (zP h2 (fun _ s3 h3=>zj (H (zP h3 (fun ok O h4=>?_) fun _ _ q=>q))) fun _ _ q=>q))) fun _ _ q=>q))
  cases ok with
  | false=>exact zB ⟨rfl,h4⟩
  | true=>
   have a0:wpAny (model g w) A (eval B f) (fun x T=>wpAny (model g w) A (call (.builtin "list.append") [l,x]) (fun _ U=>∃m,m<k/\J m U) (fun _ _=>False) T) (fun _ _=>False) O:=h4
   refine zj (zj (H (zP a0 (fun x T h5=>zj (H (zP h5 (fun _ U h6=>zB (zB ⟨rfl,h6⟩)) fun _ _ q=>q))) fun _ _ q=>q)))
theorem zcO{H D B:Expr}{C:List Expr}{tg j:Expr}{I:List Expr}{scope:Scope}{L:Pos}{T G:Value}{l:Env}(hs:∀x,foldedSetIterable j l x=pure x)(J:Nat->Shared->Prop)
  (N:∀n s,J n s->wpAny (model g w) A (pyNext T) (fun r s1=>match r with
   | none=>R (.ok .next) s1
   | some v=>wpAny (model g w) A (letOwnedTupleGo D T v) (fun _ s2=>wpAny (model g w) A (assign D l v) (fun _ s3=>
     wpAny (model g w) A (jA C l) (fun ok U=>
      if ok=true then wpAny (model g w) A (eval j l) (fun x Y=>
       wpAny (model g w) A (pyIter x) (fun O s6=>codeAny (model g w) A (.compStart (lc2 H D B C tg j I scope L) 1 O G l) (fun r s7=>match r with | .ok _=>∃m,m<n/\J m s7 | .error _=>False) s6) (fun _ _=>False) Y) (fun _ _=>False) U
      else ∃m,m<n/\J m U) (fun _ _=>False) s3) (fun _ _=>False) s2) (fun _ _=>False) s1) (fun _ _=>False) s)
  (n:Nat) (h:J n s):codeAny (model g w) A (.compLoop (lc2 H D B C tg j I scope L) 0 T G l) R s:=by
 have M:∀{α:Type} {t:Sem α} {Q:α->Shared->Prop} {E:Value->Shared->Prop} {s:Shared},wpAny (model g w) A t Q (fun _ _=>False) s->wpAny (model g w) A t Q E s:=fun x=>zP x (fun _ _ q=>q) fun _ _ q=>q.elim
 refine codeAny_loop rfl J (fun k u hJ=>?_) n h
 show wpAny _ A ((compTurn (lc2 H D B C tg j I scope L) 0 T G l).onRaise (fun x=>do noteFrame x l;theTreesLotGoes x)) _ _ u
 refine wpAny_noted ?_
 rw[JN];refine zj (xi (zj (M (zP (N k u hJ) (fun r s1 h1=>?_) fun _ _ q=>q))))
 cases r with
 | none=>exact zB h1
 | some v=>
  refine zj (M (zP h1 (fun _ s2 h2=>zj (M (zP h2 (fun _ s3 h3=>zj (M (zP h3 (fun ok U h4=>?_) fun _ _ q=>q))) fun _ _ q=>q))) fun _ _ q=>q))
  cases ok with
  | false=>exact zB ⟨rfl,h4⟩
  | true=>
   have a0:wpAny (model g w) A (eval j l) (fun x Y=>
       wpAny (model g w) A (pyIter x) (fun O s6=>codeAny (model g w) A (.compStart (lc2 H D B C tg j I scope L) 1 O G l) (fun r s7=>match r with | .ok _=>∃m,m<k/\J m s7 | .error _=>False) s6) (fun _ _=>False) Y) (fun _ _=>False) U:=h4
   refine zj (M (zP a0 (fun x Y h5=>zj (xi (zj (wpAny_of_eq (hs x) (zj (wg (M (zP h5 (fun O s6 h6=>?_) fun _ _ q=>q)))))))) fun _ _ q=>q))
   refine zj (wpAny_runOwn (h:=none) ?_)
   rw[Around.mark_none];refine codeAny_mono h6 fun r s7 h7=>?_
   cases r with
   | ok f=>exact zB ⟨rfl,h7⟩
   | error e=>exact h7.elim
end
def Sub:St->St->Prop
 | [],[]=>True
 | none::r,_::f=>Sub r f
 | some v::r,x::f=>x=some v/\Sub r f
 | _,_=>False
theorem Sub.len:∀{a b:St},Sub a b->a.length=b.length
 | [],[],_=>rfl
 | [],_::_,h=>h.elim
 | none::_,[],h=>h.elim
 | some _::_,[],h=>h.elim
 | none::r,_::f,h=>by rw[jr,jr,Sub.len (a:=r) (b:=f) h]
 | some _::r,_::f,h=>by rw[jr,jr,Sub.len (a:=r) (b:=f) h.2]
theorem Sub.get:∀{a b:St} {i:Nat} {v:V},Sub a b->a[i]? =some (some v)->b[i]? =some (some v)
 | [],[],_,_,_,e=>e
 | [],_::_,_,_,h,_=>h.elim
 | none::_,[],_,_,h,_=>h.elim
 | some _::_,[],_,_,h,_=>h.elim
 | none::r,_::f,0,v,h,e=>by simp at e
 | none::r,_::f,i+1,v,h,e=>by
  rw[Xh] at e ⊢;exact Sub.get (a:=r) (b:=f) h e
 | some _::r,_::f,0,v,h,e=>by
  rw[Wg] at e ⊢;rw[h.1];exact e
 | some _::r,_::f,i+1,v,h,e=>by
  rw[Xh] at e ⊢;exact Sub.get (a:=r) (b:=f) h.2 e
def tIn(M:TI)(g:TG)(L:TT)(I:TE)(O:List V)(N:List V->Hp->Prop):St->Hp->Prop:=fun w E=>M w E fun J G=>
 ∃W:Nat->Nat->List V->Hp->Prop,(∃m,W 0 m O G)/\∀i m f l,W i m f l ->
  (J.stop i l/\N f l) \/
  (J.go i l/\∃u:List V->Hp->Prop,(∀f B,u f B->∃D,D<m/\W (i+1) D f B)/\∀x C,J.yld i l x C->g x w C fun A H=>Sub w A/\L A H fun b j=>
   if b=true then I A j fun y s=>f.length<sizeLine/\u (f++[y]) s else u f j)
section
variable{X:Cx}{l C f:Expr}{u:List Expr}{B w:Expr}{s:List Expr}{scope:Scope}{A:Pos}{O L:TI}{g M:TG}{G H:TT}{E:TE}
theorem zcB{Y:Cx}{D:Addr}{Q:List (Addr×Obj)}{σ4:St}{H0:Hp}{s0:Shared}{it:Addr}{fp:List Addr}{tn:Nat->Heap->Prop}{J:It}{R:Result->Shared->Prop}{N:List V->Hp->Prop}{ys:List V}{a0:List Value}{z:Nat}{m0:Nat}{W:Nat->Nat->List V->Hp->Prop}
  (hc:Y.calm=true) (hx:Y.xe=fun _ _=>False) (hg:PG Y B g) (hf:PF Y s G) (he:PE Y l E)
  (T:vY Y.prog Y.w Y.K B J fp it tn) (fD:∀U:Hp,U D=none->jf Y Q U D) (f2:∀b∈fp,∀U:Hp,U b=none->jf Y Q U b) (nD:∀b∈fp,D≠b)
  (I:Inv Y Q σ4 H0 s0) (st:tn 0 s0.heap) (fr:∀b∈fp,H0 b=none) (af:H0 D=none) (ho:s0.heap.get? D=some { cls:=.type "list",data:=.seq a0.toArray z }) (rv:Vals ys a0) (w0:W 0 m0 ys H0)
  (ab:∀i m zs H7,W i m zs H7 ->
   (J.stop i H7/\N zs H7) \/
   (J.go i H7/\∃N2:List V->Hp->Prop,(∀zs U,N2 zs U->∃m',m'<m/\W (i+1) m' zs U)/\∀x H8,J.yld i H7 x H8->g x σ4 H8 fun σ9 H9=>Sub σ4 σ9/\G σ9 H9 fun b aa=>
    if b=true then E σ9 aa fun y ac=>zs.length<sizeLine/\N2 (zs++[y]) ac else N2 zs aa))
  (ae:∀s',LcE Y D Q σ4 N s'->R (.ok .next) s') :
  codeAny (model Y.prog Y.w) Y.A (.compLoop (lc2 l C f u B w s scope A) 1 (.ref it) (.ref D) Y.env) R s0:=by
 refine zeh (LcJ Y D tn fp Q σ4 W) (fun n s5 j=>zP (W8 hc hx hg hf he T fD f2 nD (fun σ9 U s' J hd=>J.weak hd.len fun k v e=>hd.get e) ab j) (fun r s6 h6=>?_) fun _ _ q=>q) m0 ⟨0,ys,a0,H0,z,I,st,fr,af,ho,rv,w0⟩
 cases r with
 | some v=>exact h6
 | none=>exact ae s6 h6
end
def zbZ(s:TI)(n:Nat)(C:List Nat)(M:TG)(l:TT)(U:TI)(g:TG)(T:TT)(O:TE):TE:=fun σ H Q=>s σ H fun J I=>
 ∃W:Nat->Nat->List V->Hp->Prop,(∃m,W 0 m [] I)/\∀i m j f,W i m j f ->
  (J.stop i f/\j.length<=sizeLine/\∀D,f D=none->Q (.ref D) (upd f D (.lst j))) \/
  (J.go i f/\∃N:List V->Hp->Prop,(∀G w,N G w->∃E,E<m/\W (i+1) E G w)/\∀x A,J.yld i f x A->M x (upS n C σ) A fun u L=>u.drop n=(upS n C σ).drop n/\l u L fun b B=>
   if b=true then tIn U g T O j N u B else N j B)
section
variable{X:Cx}{A w iter1:Expr}{l:List Expr}{G f:Expr}{B:List Expr}{scope:Scope}{pos:Pos}{O a0:TI}{g U:TG}{M E:TT}{L:TE}
theorem zbo{Y:Cx}{D it:Addr}{C:List Addr}{tn:Nat->Heap->Prop}{J:It}{σ4:St}{Kp:St->Prop}{W:Nat->Nat->List V->Hp->Prop}{N:List V->Hp->Prop}{n:Nat}{s5:Shared}
  (hc:Y.calm=true) (hx:Y.xe=fun _ _=>False) (hg:PG Y w U) (hf:PF Y l E) (bd:PI Y G f O) (bc:PG Y G g) (bb:PF Y B M) (he:PE Y A L) (T:vY Y.prog Y.w Y.K w J C it tn)
  (fB:∀b∈D::C,∀s:Hp,s b=none->jf Y [] s b) (nD:∀b∈C,D≠b) (bk:∀σ9 s s',Inv Y [] σ9 s s'->Kp σ9->Inv Y [] σ4 s s')
  (av:∀i m Q H7,W i m Q H7->(J.stop i H7/\N Q H7)\/(J.go i H7/\∃N2:List V->Hp->Prop,(∀Q s,N2 Q s->∃m',m'<m/\W (i+1) m' Q s)/\∀x H8,J.yld i H7 x H8->U x σ4 H8 fun σ9 H9=>Kp σ9/\E σ9 H9 fun b an=>
    if b=true then tIn O g M L Q N2 σ9 an else N2 Q an)) (j:LcJ Y D tn C [] σ4 W n s5) :
  wpAny (model Y.prog Y.w) Y.A (pyNext (.ref it)) (fun r s1=>match r with
   | none=>LcE Y D [] σ4 N s1
   | some v=>wpAny (model Y.prog Y.w) Y.A (letOwnedTupleGo w (.ref it) v) (fun _ s2=>wpAny (model Y.prog Y.w) Y.A (assign w Y.env v) (fun _ s3=>
     wpAny (model Y.prog Y.w) Y.A (jA l Y.env) (fun ok s4=>
      if ok=true then wpAny (model Y.prog Y.w) Y.A (eval f Y.env) (fun x s5=>
       wpAny (model Y.prog Y.w) Y.A (pyIter x) (fun i2 s6=>codeAny (model Y.prog Y.w) Y.A (.compStart (lc2 A w iter1 l G f B scope pos) 1 i2 (.ref D) Y.env) (fun r I=>match r with | .ok _=>∃m,m<n/\LcJ Y D tn C [] σ4 W m I | .error _=>False) s6) (fun _ _=>False) s5) (fun _ _=>False) s4
      else ∃m,m<n/\LcJ Y D tn C [] σ4 W m s4) (fun _ _=>False) s3) (fun _ _=>False) s2) (fun _ _=>False) s1) (fun _ _=>False) s5:=by
 have ag:=hg;have af:=hf;have ah:=bd
 unfold PG at ag;unfold PF at af;unfold PI at ah
 rw[hx] at ag af ah;obtain⟨i,ys,ai,H5,z5,I5,au,ap,b0,aq,ak,w5⟩:=j;have ao:=I5.pinned (fp:=[D]) (fun b hb=>by rw[qu.mp hb];exact fB D xn _ b0) (fun b hb=>by rw[qu.mp hb];exact⟨_,aq,fun v q=>nomatch q⟩)
 have mD:(D,({ cls:=.type "list",data:=.seq ai.toArray z5 }:Obj))∈[]++zR [D] s5.heap:=qi _ (qD (qu.mpr rfl) aq);have ae:∀{s:Hp},(∀b∈C,s b=none)->∀b∈C,jf Y ([]++zR [D] s5.heap) s b:=fun hn b hb=>by
  obtain⟨a1,a2,a3,a4,a5,a6⟩:=fB b (jv _ hb) _ (hn b hb);refine⟨a1,a2,a3,a4,a5,fun p hp=>?_⟩
  rcases qC.mp hp with q | q
  ·exact a6 p (wo _ q)
  ·rw[qu.mp (xU ((qC.mp q).resolve_left (by simp))).1];exact nD b hb
 rcases av i n ys H5 w5 with ⟨stop,q⟩ | ⟨go,N2,hN,step⟩
 ·refine thn (T.done Y rfl rfl rfl hc i _ s5 _ H5 _ ao (ae ap) au stop) fun r s6 ⟨hr,I6⟩=>?_
  subst hr;obtain⟨o6,bg,_⟩:=I6.pin (D,_) (qi _ mD);exact⟨ys,ai,H5,z5,I6.unpinned,bg,o6,ak,q⟩
 ·refine thn (T.item Y rfl rfl rfl hc i _ s5 _ H5 _ ao (ae ap) au go) fun r s6 ⟨u,hr,h6⟩=>?_
  subst hr;refine thn h6 fun _ I ⟨x,H7,I7,r7,y7,al,ay⟩=>?_
  refine thn (ag _ I _ H7 x u _ (I7.pinned (ae ay) (T.obj _ _ al)) r7 (step x H7 y7)) fun _ s8 ⟨σ8,H8,I8,ba,q8⟩=>?_
  refine thn (af _ s8 σ8 H8 _ I8 q8) fun ok s9 ⟨H9,I9,q9⟩=>?_
  have aj:=wo (zR C I.heap) mD;have kp:∀{P:List (Addr×Obj)} {s:Hp} {s':Shared},Inv Y P σ8 s s'->(∀p∈zR C I.heap,p∈P)->Inv Y [] σ4 s s'/\tn (i+1) s'.heap/\∀b∈C,s b=none:=fun {P s s'} J hP=>
   ⟨bk _ _ _ (J.pins_of fun p hp=>absurd hp (by simp)) ba,T.keep _ _ _ al fun b hb o e=>(J.pin (b,o) (qi _ (hP _ (qD hb e)))).1,fun b hb=>by
    obtain⟨o,e,_⟩:=T.obj _ _ al b hb;exact(J.pin (b,o) (qi _ (hP _ (qD hb e)))).2.1⟩
  cases ok with
  | false=>
   obtain⟨m',hm,w'⟩:=hN _ _ (show N2 ys H9 by simpa using q9)
   obtain⟨o9,bh,_⟩:=I9.pin (D,_) (qi _ aj);obtain⟨k1,k2,k3⟩:=kp I9 fun p hp=>qi _ hp
   exact⟨m',hm,i+1,ys,ai,H9,z5,k1,k2,k3,bh,o9,ak,w'⟩
  | true=>
   refine thn (ah _ s9 σ8 H9 _ I9 (show tIn O g M L ys N2 σ8 H9 by simpa using q9)) fun xv bp az=>thn az fun bo bm ⟨be,ax,bq,J2,bn,ei,ab,T2,aa,ac,W2,⟨m2,w2⟩,am⟩=>?_
   subst ei;obtain⟨bi,as,_⟩:=ab.pin (D,_) (qi _ aj);have aw:∀b∈ax,∀s:Hp,s b=none->jf Y (zR C I.heap) s b:=fun b hb s hn=>by
    obtain⟨_,a2,a3,a4,a5,a6⟩:=ac b hb;exact⟨hn,a2,a3,a4,a5,fun p hp=>a6 p ((qC.mp hp).elim (fun q=>wo _ q) fun q=>qi _ (qi _ q))⟩
   have fD:∀s:Hp,s D=none->jf Y (zR C I.heap) s D:=fun s hn=>by
    obtain⟨a1,a2,a3,a4,a5,a6⟩:=fB D xn _ hn;refine⟨a1,a2,a3,a4,a5,fun p hp=>?_⟩
    rcases qC.mp hp with q | q
    ·exact a6 p (wo _ q)
    ·exact qB (nD _ (xU q).1)
   have H:codeAny (model Y.prog Y.w) Y.A (.compLoop (lc2 A w iter1 l G f B scope pos) 1 (.ref be) (.ref D) Y.env) (fun r I=>match r with
     | .ok _=>∃m,m<n/\LcJ Y D tn C [] σ4 W m I
     | .error _=>False) bm:=by
    refine zcB (N:=N2) hc hx bc bb he T2 fD aw (fun b hb=>(ac b hb).2.2.2.2.2 (D,_) (qi _ aj)) (ab.pins_of fun p hp=>ab.pin p (qi _ (qi _ hp))) aa (fun b hb=>(ac b hb).1) as bi ak w2 am fun s' h'=>?_
    obtain⟨Q,ar,s,z',I',bf,o',bj,q'⟩:=h';obtain⟨m',hm,w'⟩:=hN _ _ q';obtain⟨k1,k2,k3⟩:=kp I' fun p hp=>hp
    exact⟨m',hm,i+1,Q,ar,s,z',k1,k2,k3,bf,o',bj,w'⟩
   exact vI H (T2.self Y.A 0 _ _ _ aa H)
theorem X3{C D it:Addr}{fp:List Addr}{tn:Nat->Heap->Prop}{J:It}{W:Nat->Nat->List V->Hp->Prop}{H2:Hp}{s3 s4:Shared}{m0 n:Nat}{R:Result->Shared->Prop}{js:List Nat}{σ:St}{u:List Str}{N:List V->Hp->Prop}(hc:X.calm=true)
  (hg:∀C s H Q,PG (zt X u scope C s H Q) w U) (hf:∀C s H Q,PF (zt X u scope C s H Q) l E) (ah:∀C s H Q,PI (zt X u scope C s H Q) G f O) (ag:∀C s H Q,PG (zt X u scope C s H Q) G g) (af:∀C s H Q,PF (zt X u scope C s H Q) B M) (he:∀C s H Q,PE (zt X u scope C s H Q) A L)
  (ai:∀C x,foldedSetIterable f (compEnvC scope (z6 X.env.cells scope.names []) C X.env) x=pure x) (ae:∀b∈D::fp,∀H':Hp,H' b=none->jf (zt X u scope C s3 H2 (D::fp)) [] H' b) (fD:∀b∈fp,D≠b) (T:vY X.prog X.w X.K w J fp it tn)
  (ab:∀i m zs H7,W i m zs H7->(J.stop i H7/\N zs H7)\/(J.go i H7/\∃N2:List V->Hp->Prop,(∀zs H',N2 zs H'->∃m',m'<m/\W (i+1) m' zs H')/\∀x H8,J.yld i H7 x H8->U x (upS n js σ) H8 fun σ9 H9=>σ9.drop n=(upS n js σ).drop n/\E σ9 H9 fun b aa=>
    if b=true then tIn O g M L zs N2 σ9 aa else N2 zs aa))
  (j:LcJ (zt X u scope C s3 H2 (D::fp)) D tn fp [] (upS n js σ) W m0 s4) (ac:∀s6,LcE (zt X u scope C s3 H2 (D::fp)) D [] (upS n js σ) N s6->R (.ok .next) s6) :
  codeAny (model X.prog X.w) X.A (.compLoop (lc2 A w iter1 l G f B scope pos) 0 (.ref it) (.ref D) (compEnvC scope (z6 X.env.cells scope.names []) C X.env)) R s4:=by
 have hl:=(let ⟨_,_,_,_,_,I,_,_,_,_,_,_⟩:=j;I.len:(upS n js σ).length=u.length)
 refine zcO (ai C) (LcJ (zt X u scope C s3 H2 (D::fp)) D tn fp [] (upS n js σ) W) (fun k s5 j=>zP (zbo (iter1:=iter1) (scope:=scope) (pos:=pos) (Y:=zt X u scope C s3 H2 (D::fp)) hc rfl (hg _ _ _ _) (hf _ _ _ _) (ah _ _ _ _) (ag _ _ _ _) (af _ _ _ _) (he _ _ _ _) T ae fD (fun σ9 H' s' J hd=>Xp hl J hd) ab j) (fun r s6 h6=>?_) fun _ _ q=>q) m0 j
 cases r with
 | some v=>exact h6
 | none=>exact ac s6 h6
theorem zdI(own N:List Str)(js:List Nat)(hc:X.calm=true)(hk:scope.kind=.function)(hb:wf scope.names X.env.scope.names X.N N js=true)(hi:PI X w iter1 a0)
  (hg:∀C s H u,PG (zt X (own++N) scope C s H u) w U) (hf:∀C s H u,PF (zt X (own++N) scope C s H u) l E)
  (ac:∀C s H u,PI (zt X (own++N) scope C s H u) G f O) (ab:∀C s H u,PG (zt X (own++N) scope C s H u) G g) (aa:∀C s H u,PF (zt X (own++N) scope C s H u) B M) (he:∀C s H u,PE (zt X (own++N) scope C s H u) A L)
  (hs:∀x,foldedSetIterable iter1 X.env x=pure x:=by intro _;rfl) (ae:∀C x,foldedSetIterable f (compEnvC scope (z6 X.env.cells scope.names []) C X.env) x=pure x:=by intro _ _;rfl):PE X (lc2 A w iter1 l G f B scope pos) (zbZ a0 own.length js U E O g M L):=by
 intro ag s σ H Q I h;rw[eval_ListComp];exact Yk own N js hk hb hi hs I h (fun C D it fp tn J W H2 s3 s4 m0 R a b T tl j Y=>X3 hc hg hf ac ab aa he ae a b T tl j Y) fun s6 D C H6 m hn all _ q=>⟨m,hn,fun h7 af=>⟨.ref D,H6,all h7 fun b o hb e=>af.extBut b o hb e,rfl,q⟩⟩
end
section
variable{X:Cx}
inductive y8(K:W.Frag)(g:List V)(H:Hp)(Q:VK):Prop
 | mk (p:Addr) (f:List Bool) (_:g=[.ref p]) (_:SqL K H p (f.map V.bl)) (_:Q (.bl (f.any id)) H):y8 K g H Q
theorem Jb(hc:X.calm=true):CallR X (.builtin "any") (y8 X.K):=by
 intro N s σ H xs us Q I r h;obtain⟨p,f,rfl,hq,q⟩:=h;obtain⟨u,rfl,G⟩:=vy r;cases G;obtain⟨g,J,pl,hz⟩:=I.list hq;have D:=pl.isList;have E:p≠s.heap.objs.size:=by
  obtain⟨o,e,_⟩:=D;exact z9 (zK e)
 refine call_any_walk (wpAny_pyIter_list D ?_)
 refine⟨s.heap.objs.size,_,_,_,_,_,fun i=>f.getD i false,rfl,Walks.list (prog:=X.prog) (w:=X.w) (A:=X.A.in1) (I.ok.hd hc) _ p E g.toArray,⟨⟨_,qy _ rfl,rfl,rfl⟩,D.push _⟩,?_,fun h' tk hk=>?_⟩
 ·intro i v s' T E' C hQ
  have C:g.toArray[i]? =some v:=C;have L:g[i]? =some v:=by simpa using C
  have j:i<f.length:=by
   have h1:=(zZ.mp L).1;have h2:=J.length;rw[zx] at h2;omega
  have U:(f.map V.bl)[i]? =some (.bl f[i]):=by simp[j]
  obtain⟨u',M,G⟩:=J.get U;rw[L] at M;cases M;cases G;have Y:f.getD i false=f[i]:=by simp[j]
  have l:T (f.getD i false) s':=hQ;rw[Y] at l;exact ya l
 ·have k:∀b o,s.heap.get? b=some o->h'.get? b=some o:=fun b o e=>hk b o (by simp;exact z9 (zK e)) (qd _ e)
  have ea:(List.range g.toArray.size).any (fun i=>f.getD i false)=f.any id:=by
   have B:g.toArray.size=f.length:=by
    have:=J.length;rw[zx] at this;simp only[qF];omega
   rw[B,yS,Z2,Z2];constructor
   ·rintro⟨i,j,e⟩
    have j:=wX.mp j;exact⟨f[i],xZ j,by simpa [j] using e⟩
   ·rintro⟨b,hb,e⟩
    obtain⟨i,j,rfl⟩:=Z4.mp hb;exact⟨i,wX.mpr j,by simpa [j] using e⟩
  exact⟨.bl (f.any id),H,I.kept k,by rw[ea];rfl,q⟩
theorem Vn:bootBuiltins "any" = some (.builtin "any"):=by decide +kernel
theorem X7:∀{g:List Int} {f:List Value},Vals (g.map V.int) f->IntsAre f g
 | [],f,h=>by cases h;exact .nil
 | n::g,f,h=>by
  cases h with
  | cons r q=>
   obtain⟨t,rfl⟩:=r;exact .cons n t (X7 q)
theorem QY{α β:Type}(f:α->β):∀(l:List α) (i:Nat),(l.eraseIdx i).map f=(l.map f).eraseIdx i
 | [],_=>rfl
 | _::_,0=>rfl
 | a::r,i+1=>by
  show f a::(r.eraseIdx i).map f=f a::(r.map f).eraseIdx i;rw[QY f r i]
inductive XL(x:V)(g:List V)(H:Hp)(Q:VK):Prop
 | mk (l:Addr) (f:List Int) (k:Int) (_:x=.ref l) (_:g=[.int k]) (_:H l=some (.lst (f.map V.int))) (_:k∈f) (_:Q .non (upd H l (.lst ((f.erase k).map V.int)))):XL  x g H Q
theorem VP:MtM X "list.remove" XL:=by
 intro G s σ H x vs v us Q I T O h;obtain⟨l,f,k,rfl,rfl,C,hk,q⟩:=h;cases T;obtain⟨u,rfl,A⟩:=O.one;obtain⟨t,rfl⟩:=A;obtain⟨z,g,n,r,N,e⟩:=I.lstM C;rw[zx] at N z;have U:f.idxOf k<f.length:=List.idxOf_lt_length_of_mem hk;have j:∀i (D:i<g.length),isInt k g[i]=(f[i]'(by omega)==k):=fun i D=>by
  have L:(f.map V.int)[i]? =some (.int (f[i]'(by omega))):=by simp[show i<f.length by omega]
  obtain⟨u',B,A⟩:=r.get L;rw[yd D] at B;cases B;obtain⟨Y,J⟩:=A;rw[J];rfl
 refine call_meets F.slot_list_remove ⟨_,e,rfl⟩ F.entry_list_remove (F.args_list_remove_2 _ _) (MeetsSeq.list_remove l g.toArray n (.int k t) (isInt k) (fun y hy=>eq_isInt k t (X7 r) y (by simpa using hy)) (f.idxOf k) (by simp;omega) ?_ ?_ (by simp;omega)) ⟨e,?_⟩
 ·rw[List.getElem_toArray,j _ (by omega)]
  simp
 ·intro m hm w
  rw[List.getElem_toArray,j _ (by simpa using hm)]
  have:=List.not_of_lt_findIdx (p:=(·==k)) (xs:=f) (i:=m) (by exact w)
  simpa using this
 refine⟨.non,_,I.lset (its':=g.eraseIdx (f.idxOf k)) C e ?_ ?_ ?_,rfl,q⟩
 ·apply V4.mp
  simp[Array.toList_eraseIdxIfInBounds]
 ·have M:(f.erase k).map V.int=(f.map V.int).eraseIdx (f.idxOf k):=by rw[List.erase_eq_eraseIdx_of_idxOf rfl,QY]
  rw[M];exact r.eraseIdx _
 ·rw[zx]
  exact jm (List.length_erase_le) z
end
theorem zbn{K:W.Frag}{a:Addr}{xs:List V}{g:TG}{I:TT}{G:TE}{w:St}{n:Nat}{R:List V->Hp->Prop}{H:Hp}(Pv:Nat->List V->Hp->Prop)(M:Pv 0 [] H)
  (O:∀i f H,Pv i f H->SqT K H a xs)
  (Y:∀i x f H T,xs[i]? =some x->Pv i f H->H T=none->g (.ref T) w (upd H T (.tup [.int i,x])) fun l C=>l.drop n=w.drop n/\I l C fun b s=>
   if b=true then G l s fun v D=>f.length<sizeLine/\Pv (i+1) (f++[v]) D else Pv (i+1) f s)
  (U:∀f H,Pv xs.length f H->f.length<=sizeLine/\R f H) :
  ∃W:Nat->Nat->List V->Hp->Prop,(∃m,W 0 m [] H)/\∀i m f j,W i m f j ->
   ((zbU K a).stop i j/\f.length<=sizeLine/\R f j) \/
   ((zbU K a).go i j/\∃N:List V->Hp->Prop,(∀f A,N f A->∃E,E<m/\W (i+1) E f A)/\∀x B,(zbU K a).yld i j x B->g x w B fun l C=>l.drop n=w.drop n/\I l C fun b s=>
    if b=true then G l s fun y D=>f.length<sizeLine/\N (f++[y]) D else N f s):=by
 refine⟨fun i m f j=>m=xs.length-i/\i<=xs.length/\Pv i f j,⟨_,rfl,qQ _,M⟩,?_⟩
 rintro i m f j ⟨rfl,hi,p⟩;have q:=O i f j p;by_cases u:i<xs.length
 ·refine .inr ⟨⟨xs,xs[i],q,by simp[u]⟩,Pv (i+1),fun a0 A p'=>⟨_,by omega,rfl,u,p'⟩,fun x B y=>?_⟩
  obtain⟨T,z,J,Q,L,y⟩:=y;subst J L;exact Y i z f j T (y xs q) p Q
 ·have e:i=xs.length:=by omega
  subst e;obtain⟨z1,z2⟩:=U f j p;exact .inl ⟨⟨xs,q,zJ _⟩,z1,z2⟩
theorem zbp{K:W.Frag}{a:Addr}{xs:List V}{g:TG}{J:TT}{L:TI}{E:TG}{w:TT}{I:TE}{A:St}{n:Nat}{R:List V->Hp->Prop}{H:Hp}(Pv:Nat->List V->Hp->Prop)(M:Pv 0 [] H)
  (O:∀i f H,Pv i f H->SqL K H a xs)
  (T:∀i x f H,xs[i]? =some x->Pv i f H->g x A H fun l D=>l.drop n=A.drop n/\J l D fun b s=>
   if b=true then tIn L E w I f (Pv (i+1)) l s else Pv (i+1) f s)
  (Q:∀f H,Pv xs.length f H->f.length<=sizeLine/\R f H) :
  ∃W:Nat->Nat->List V->Hp->Prop,(∃m,W 0 m [] H)/\∀i m f j,W i m f j ->
   ((Itl K a).stop i j/\f.length<=sizeLine/\R f j) \/
   ((Itl K a).go i j/\∃N:List V->Hp->Prop,(∀f B,N f B->∃G,G<m/\W (i+1) G f B)/\∀x C,(Itl K a).yld i j x C->g x A C fun l D=>l.drop n=A.drop n/\J l D fun b s=>
    if b=true then tIn L E w I f N l s else N f s):=by
 refine⟨fun i m f j=>m=xs.length-i/\i<=xs.length/\Pv i f j,⟨_,rfl,qQ _,M⟩,?_⟩
 rintro i m f j ⟨rfl,hi,p⟩;have q:=O i f j p;by_cases u:i<xs.length
 ·refine .inr ⟨⟨xs,xs[i],q,by simp[u]⟩,Pv (i+1),fun a0 B U=>⟨_,by omega,rfl,u,U⟩,fun x C y=>?_⟩
  obtain⟨e,y⟩:=y;subst e;exact T i x f _ (y xs q) p
 ·have e:i=xs.length:=by omega
  subst e;obtain⟨Y,z2⟩:=Q f j p;exact .inl ⟨⟨xs,q,zJ _⟩,Y,z2⟩
theorem Yd{K:W.Frag}{a:Addr}{xs:List V}{g:TG}{J:TT}{I:TE}{w:St}{N:List V->Hp->Prop}{L:List V}{H:Hp}(Pv:Nat->List V->Hp->Prop)(M:Pv 0 L H)
  (O:∀i f H,Pv i f H->SqL K H a xs)
  (T:∀i x f H,xs[i]? =some x->Pv i f H->g x w H fun l C=>Sub w l/\J l C fun b s=>
   if b=true then I l s fun v D=>f.length<sizeLine/\Pv (i+1) (f++[v]) D else Pv (i+1) f s)
  (Q:∀f H,Pv xs.length f H->N f H) :
  ∃W:Nat->Nat->List V->Hp->Prop,(∃m,W 0 m L H)/\∀i m f j,W i m f j ->
   ((Itl K a).stop i j/\N f j) \/
   ((Itl K a).go i j/\∃E:List V->Hp->Prop,(∀f A,E f A->∃G,G<m/\W (i+1) G f A)/\∀x B,(Itl K a).yld i j x B->g x w B fun l C=>Sub w l/\J l C fun b s=>
    if b=true then I l s fun y D=>f.length<sizeLine/\E (f++[y]) D else E f s):=by
 refine⟨fun i m f j=>m=xs.length-i/\i<=xs.length/\Pv i f j,⟨_,rfl,qQ _,M⟩,?_⟩
 rintro i m f j ⟨rfl,hi,p⟩;have q:=O i f j p;by_cases u:i<xs.length
 ·refine .inr ⟨⟨xs,xs[i],q,by simp[u]⟩,Pv (i+1),fun Y A U=>⟨_,by omega,rfl,u,U⟩,fun x B y=>?_⟩
  obtain⟨e,y⟩:=y;subst e;exact T i x f _ (y xs q) p
 ·have e:i=xs.length:=by omega
  subst e;exact .inl ⟨⟨xs,q,zJ _⟩,Q f j p⟩
section
variable{X:Cx}{l f:Expr}{j:List Expr}{g:Expr}{u:List Expr}{scope:Scope}{B:Pos}{N A:TI}{L w:TT}{J:TE}{x y z:Str}{E G I M Q:Pos}{D O:Nat}
theorem zcb(U:List Str)(js:List Nat)(hc:X.calm=true)(hk:scope.kind=.function)(hb:vi scope.names X.env.scope.names X.N [x,y,z] U js=true)(hi:PI X (.Name x E) f A)
  (hf:∀C s H T,PF (zt X ([x,y,z]++U) scope C s H T) j w) (aa:∀C s H T,PI (zt X ([x,y,z]++U) scope C s H T) (.Tuple [.Name y G,.Name z I] D M) g N) (a0:∀C s H T,PF (zt X ([x,y,z]++U) scope C s H T) u L) (he:∀C s H T,PE (zt X ([x,y,z]++U) scope C s H T) l J)
  (hs:∀x,foldedSetIterable f X.env x=pure x:=by intro _;rfl) (ab:∀C x,foldedSetIterable g (compEnvC scope (z6 X.env.cells scope.names []) C X.env) x=pure x:=by intro _ _;rfl) :
  PE X (lc2 l (.Name x E) f j (.Tuple [.Name y G,.Name z I] D M) g u scope B) (zbZ A 3 js (jQ 0) w N (Y8 X.K 2 (wc (jQ 1) (wc (jQ 2) zbu))) L J):=by
 obtain⟨h1,Y,h3⟩:=jY hb;refine zdI [x,y,z] U js hc hk h1 hi (fun C s H T=>jL (Y x (by simp)) h3 rfl) hf aa (fun C s H T=>?_) a0 he hs ab
 exact qR (X:=zt X ([x,y,z]++U) scope C s H T) hc (zu (jL (Y y (by simp)) h3 rfl) (zu (jL (Y z (by simp)) h3 rfl) qq))
end
section
variable{X:Cx}
theorem Zw{K:W.Frag}(h:X.K=K){j l:Expr}{f:TE}(g:PE X l f):PI X j l (zde K f):=by rw[<- h];exact qz g
def tLT(K:W.Frag)(t:TE):TT:=fun σ H Q=>t σ H fun x f=>∃a g,x=.ref a/\SqL K f a g/\Q (!g.isEmpty) f
theorem W1{e:Expr}{t:TE}(h:PE X e t)(B:∀f,isTrue e X.env f=(do let v<-f;standAt e.pos;holding [v] (truthy v)):=by intro _;rfl):PT X e (tLT X.K t):=by
 intro g s σ H Q I D;refine isTrue_plain (thn (h g s σ H _ I D) fun v L ⟨x,w,j,J,G⟩=>?_) (B _)
 obtain⟨a,A,rfl,hq,q⟩:=G;cases(show v=_ from J)
 obtain⟨l,u,E,hz⟩:=j.list hq;have C:=u.length;refine wpAny_truthy_list E.isList (by rw[qF,<- C];rw[sizeLine_eq] at hz;omega) ?_
 have e:(!A.isEmpty)=(!l.toArray.isEmpty):=by
  cases A with
  | nil=>cases u;rfl
  | cons y M=>cases u;rfl
 first
  | exact⟨w,j.tok _,by rw[e] at q;simpa using q⟩
  | exact⟨w,j,by rw[e] at q;simpa using q⟩
end
section
variable{X:Cx}{w E f:Expr}{u:List Expr}{M l:Expr}{A:List Expr}{scope:Scope}{B:Pos}{U L:TI}{g g1:TG}{O G:TT}{N:TE}{x z:Str}{Y pz tp aa:Pos}{kk a0:Nat}
theorem zdz{y:Str}{py ab:Pos}{g2:TG}(own fr:List Str)(js:List Nat)(hc:X.calm=true)(hk:scope.kind=.function)(hb:wf scope.names X.env.scope.names X.N fr js=true)(hi:PI X E f L)
  (hg:∀C s H ex,PG (zt X (own++fr) scope C s H ex) E g1) (hf:∀C s H ex,PF (zt X (own++fr) scope C s H ex) u G)
  (ai:∀C s H ex,PI (zt X (own++fr) scope C s H ex) M l U) (ah:∀C s H ex,PG (zt X (own++fr) scope C s H ex) M g) (af:∀C s H ex,PF (zt X (own++fr) scope C s H ex) A O) (he:∀C s H ex,PE (zt X (own++fr) scope C s H ex) w N)
  (ag:PG X (.Name y py) g2) (ak:swapsWith (lc2 w E f u M l A scope B) (some (.Name y py)) ab.line X.env=pure true:=by rfl)
  (hs:∀x,foldedSetIterable f X.env x=pure x:=by intro _;rfl) (aj:∀C x,foldedSetIterable l (compEnvC scope (z6 X.env.cells scope.names []) C X.env) x=pure x:=by intro _ _;rfl):PS X (.Assign [.Name y py] (lc2 w E f u M l A scope B) ab) (VD (zbZ L own.length js g1 G U g O N) g2):=by
 intro ac s σ H Dn I h;rw[exec_Assign_Name_used _ _ _ _ ak];refine zj (xi (zj ?_))
 show wpAny _ X.A (do let _<-comprehension (lc2 w E f u M l A scope B) scope X.env _ (newList []) false (eval f X.env) (some (assign (.Name y py) X.env))) _ _ s
 exact zj (zP (Yk (use:=some (assign (.Name y py) X.env)) (Qx:=fun _ s'=>∃σ' H',Inv X ac σ' H' s'/\Dn.nx σ' H') (Q:=fun v H1=>g2 v σ H1 Dn.nx) own fr js hk hb hi hs I h (fun C D it fp tn J W H2 s3 s4 m0 R a b T tl j ae=>X3 hc hg hf ai ah af he aj a b T tl j ae) fun s6 D C H6 m hn all fc q=>Xo ag hn all fc q) (fun _ s' hq=>zB (zB hq)) fun _ _ e=>e)
theorem zb7{y:Str}{py D:Pos}{g2:TG}(I:List Str)(js:List Nat)(hc:X.calm=true)(hk:scope.kind=.function)(hb:vi scope.names X.env.scope.names X.N [x,z] I js=true)(hi:PI X (.Name x Y) f L)
  (hf:∀C s H j,PF (zt X ([x,z]++I) scope C s H j) u G) (T:∀C s H j,PI (zt X ([x,z]++I) scope C s H j) (.Name z pz) l U) (J:∀C s H j,PF (zt X ([x,z]++I) scope C s H j) A O) (he:∀C s H j,PE (zt X ([x,z]++I) scope C s H j) w N)
  (Q:PG X (.Name y py) g2) (ac:swapsWith (lc2 w (.Name x Y) f u (.Name z pz) l A scope B) (some (.Name y py)) D.line X.env=pure true:=by rfl)
  (hs:∀x,foldedSetIterable f X.env x=pure x:=by intro _;rfl) (ab:∀C x,foldedSetIterable l (compEnvC scope (z6 X.env.cells scope.names []) C X.env) x=pure x:=by intro _ _;rfl) :
  PS X (.Assign [.Name y py] (lc2 w (.Name x Y) f u (.Name z pz) l A scope B) D) (VD (zbZ L 2 js (jQ 0) G U (jQ 1) O N) g2):=by
 obtain⟨h1,h2,h3⟩:=jY hb;exact zdz [x,z] I js hc hk h1 hi (fun C s H j=>jL (h2 x (by simp)) h3 rfl) hf T (fun C s H j=>jL (h2 z (by simp)) h3 rfl) J he Q ac hs ab
end
def QW:Nat->List Obj->PySem.W.Frag
 | _,[]=>[]
 | n,o::r=>match o.data with
  | .freed=>QW (n+1) r
  | _=>(n,o)::QW (n+1) r
def JK(h:Heap):PySem.W.Frag:=QW 0 h.objs.toList
theorem Va:∀{l:List Obj} {n a:Nat} {o:Obj},(QW n l).lookup a=some o->n<=a/\l[a-n]? =some o/\o.data≠.freed
 | [],n,a,o,h=>by cases h
 | x::r,n,a,o,h=>by
  have f:(QW (n+1) r).lookup a=some o->n<=a/\(x::r)[a-n]? =some o/\o.data≠.freed:=fun h=>by
   obtain⟨u,g,j⟩:=Va h;refine⟨by omega,?_,j⟩
   rw[show a-n=(a-(n+1))+1 by omega];exact g
  unfold QW at h;split at h
  ·exact f h
  ·rename_i s
   rw[jd] at h;split at h
   ·rename_i e
    cases h;have:=j9.mp e;subst this;exact⟨zJ _,by simp,s⟩
   ·exact f h
theorem zaa(h:Heap):(JK h).In h:=fun a o e=>by
 obtain⟨_,f,j⟩:=Va e;have f:h.objs[a]? =some o:=by simpa using f
 unfold Heap.get?;rw[f];obtain⟨c,d,g,l⟩:=o;cases g<;>first| rfl | exact absurd rfl j
inductive Fd(K:W.Frag)(g:Str)(st:Stmt):Prop
 | mk (f:Addr) (j:FuncData) (a:PySem.W.nsIn K mainGlobals g=some (some (.ref f))) (F:Fun K g g st f j):Fd K g st
def zeX:Value->Bool
 | .none=>true
 | _=>false
def JL(K:W.Frag)(j:Str):Option (Arguments×FuncBody×Scope×Bool):=match PySem.W.nsIn K mainGlobals j with
 | some (some (.ref f))=>(match K.lookup f with
  | some ⟨_,_,.func g,_⟩=>some (g.params,g.body,g.scope,g.name==j&&(g.qualname==j&&(g.globals==mainGlobals&&(g.closure.isEmpty&&(zeX g.defaults&&(g.builtins==builtinsNs&&PySem.W.codeIn K g.code j))))))
  | _=>none)
 | _=>none
def Yg(st:Stmt):Option (Arguments×FuncBody×Scope×Bool):=some (wT st,.stmts (vV st),zv st,true)
theorem ze4{K:W.Frag}{H:Str}{st:Stmt}(e:JL K H=Yg st):Fd K H st:=by
 unfold JL Yg at e;split at e
 ·rename_i f hf
  split at e
  ·rename_i c d J sl E
   simp only[Xc,J7,jn] at e;obtain⟨B,C,D,g,j,l,s,u,w,G⟩:=e;obtain⟨L,qn,Y,N,sc,T,Q,A,U,I,pm,M,O,ct,bl⟩:=J;dsimp only at B C D g j l s u w G;have g:=j9.mp g;have j:=j9.mp j;have l:=j9.mp l;have s:=List.isEmpty_iff.mp s;have w:=j9.mp w;have u:A=.none:=by cases A<;>first| rfl | exact Bool.noConfusion u
   subst B C D g j l s u w;exact⟨f,_,hf,⟨⟨_,_,_,_,_,_,_,_,_,rfl,E,G⟩,by unfold PySem.W.keepIn;dsimp only;rw[E]⟩⟩
  ·cases e
 ·cases e
theorem zec{K:W.Frag}{l:List (Str×Stmt)}(e:l.map (fun x=>JL K x.1)=l.map fun x=>Yg x.2)(i:Nat){f:Str}{st:Stmt}(h:l[i]? =some (f,st)):Fd K f st:=by
 have:=congrArg (fun z=>z[i]?) e
 simp only[zX,h,yR,Xc] at this;exact ze4 this
theorem zcN{K:W.Frag}{l:List Str}(e:l.map (fun x=>PySem.W.nsIn K mainGlobals x)=l.map fun _=>some none){x:Str}(i:Nat)(h:l[i]? =some x):PySem.W.nsIn K mainGlobals x=some none:=by
 have:=congrArg (fun z=>z[i]?) e
 simpa only[zX,h,yR,Xc] using this
def zbX:List Value->Option (List Str)
 | []=>some []
 | .str x _::r=>(zbX r).map (x:: ·)
 | _=>none
def Vy(K:W.Frag)(g:Str):Option (List Str×Bool):=match PySem.W.nsIn K mainGlobals g with
 | some (some (.ref a))=>(match K.lookup a with
  | some ⟨.type t,_,.seq f _,_⟩=>(zbX f.toList).map fun l=>(l,t == "tuple" && decide (f.size<=1000))
  | _=>none)
 | _=>none
theorem Qp:∀{f:List Value} {l:List Str},zbX f=some l->Vals (l.map V.str) f
 | [],l,h=>by cases h;exact .nil
 | v::r,l,h=>by
  cases v<;>first| (cases h;done) | skip
  simp only[zbX] at h;obtain⟨j,g,rfl⟩:=jb.mp h;exact .cons ⟨_,rfl⟩ (Qp g)
theorem zel{K:W.Frag}{j:Str}{l:List Str}(e:Vy K j=some (l,true)):∃a:Addr,PySem.W.nsIn K mainGlobals j=some (some (.ref a))/\∀H,SqT K H a (l.map V.str):=by
 unfold Vy at e;split at e
 ·rename_i a ha
  split at e
  ·rename_i t _ C n B w
   obtain⟨A,s,g⟩:=jb.mp e;simp only[J7,jn,decide_eq_true_eq] at g;obtain⟨rfl,f,u⟩:=g;have f:=j9.mp f;subst f;exact⟨a,ha,fun H=>.inr ⟨_,_,_,w,rfl,rfl,wD (QL u),Qp s⟩⟩
  ·cases e
 ·cases e
def zd0(g:List (Str×Stmt))(f:List Str)(j:List (Str×List Str))(K:W.Frag):List (Option (Arguments×FuncBody×Scope×Bool))×List (Option (Option Value))×List (Option (List Str×Bool)):=
 (g.map fun x=>JL K x.1,f.map fun x=>PySem.W.nsIn K mainGlobals x,j.map fun x=>Vy K x.1)
def zee(g:List (Str×Stmt))(f:List Str)(j:List (Str×List Str)):List (Option (Arguments×FuncBody×Scope×Bool))×List (Option (Option Value))×List (Option (List Str×Bool)):=
 (g.map fun x=>Yg x.2,f.map fun _=>some none,j.map fun x=>some (x.2,true))
def zeg(s:Stmt):Pos:=match s with
 | .FunctionDef _ _ _ _ _ _ _ _ _ p=>p
 | _=>⟨0,0,0,0⟩
def defRec(x:Str)(s:Stmt):DefRec:=⟨x,wT s,vV s,zv s,zeg s⟩
structure Tp(P:Program)(w:World)(K:W.Frag)(mg:Str->Option Value)(base h:Heap)(ds:List (Str×Stmt))(bs:List Str)(ts:List (Str×List Str)):Prop where
 x:K.In h
 g:h.Ns mainGlobals mg
 e:zd0 ds bs ts K=zee ds bs ts
section
variable{P:Program}{w:World}{K:W.Frag}{j:Str->Option Value}{g h:Heap}{s:List (Str×Stmt)}{u:List Str}{A:List (Str×List Str)}
theorem Tp.fd(Z:Tp P w K j g h s u A)(i:Nat){f:Str}{st:Stmt}(l:s[i]? =some (f,st)):Fd K f st:=zec (congrArg Prod.fst Z.e) i l
theorem Tp.bl(Z:Tp P w K j g h s u A)(i:Nat){x:Str}(f:u[i]? =some x):j x=none:=PySem.W.mg_none_of Z.x Z.g (zcN (congrArg (fun z=>z.2.1) Z.e) i f)
theorem Tp.tx(Z:Tp P w K j g h s u A)(i:Nat){x:Str}{l:List Str}(C:A[i]? =some (x,l)):∃a:Addr,j x=some (.ref a)/\∀H,SqT K H a (l.map V.str):=by
 have:=congrArg (fun z=>z.2.2[i]?) Z.e
 simp only[zd0,zee,zX,C,yR,Xc] at this;obtain⟨a,f,B⟩:=zel this;exact⟨a,J6 Z.x Z.g f,B⟩
theorem Tp.dfn(Z:Tp P w K j g h s u A)(i:Nat){B:Str}{st:Stmt}{k:Nat}{C:List Str}{H:Sp}(J:s[i]? =some (B,st))
  (ok:∀f fd,Fun K B B st f fd->j B=some (.ref f)->Binds K fd C []->FnOk P w K j g CX0 k f fd C H)
  (hb:∀(kV G L:Value) (I:Option Addr) (E ct:Value) (D:List Value),D.length=C.length->bindArgs (PySem.W.fnOf B B (wT st) (vV st) (zv st) .none kV G L I E ct) ⟨D,[]⟩=pure (C.zip D):=by
   intro _ _ _ _ _ _ D l;first| (obtain⟨_,rfl⟩:=zeW l;rfl) | (obtain⟨_,_,rfl⟩:=zeV l;rfl) | (obtain⟨_,_,_,rfl⟩:=zeU l;rfl) | (obtain⟨_,_,_,_,rfl⟩:=zeT l;rfl) | (obtain⟨_,_,_,_,_,rfl⟩:=zeS l;rfl) | (obtain⟨_,_,_,_,_,_,rfl⟩:=zeR l;rfl) | (exact match D,l with | [],_=>rfl)) :
  Dfn P w K j g B k C H:=by
 obtain⟨f,fd,a,F⟩:=Z.fd i J;have b:=F.binds hb;have m:=J6 Z.x Z.g a;exact⟨f,fd,ok f fd F m b,m,F.kp,b⟩
end
inductive Seen{β:Type}(f:PySem.W.Frag->β)(v:β)(w:World)(h:Heap):Prop
 | mk (K:W.Frag) (k:K.In h) (e:f K=v):Seen f v w h
theorem Seen.keeps{β:Type}{f:PySem.W.Frag->β}{v:β}(w:World)(h g:Heap)(s:Seen f v w h)(k:∀b o,h.get? b=some o->g.get? b=some o):Seen f v w g:=by
 obtain⟨K,x,e⟩:=s;exact⟨K,x.keeps k,e⟩
theorem walkS{l:PySem.W.OpenLaw}{n k:Nat}{q:Program}{B:List Str}{U:(Str->Option Value)->Heap->Prop}{β:Type}{f:PySem.W.Frag->β}{v:β}{d:DefRec}{sp:PySem.W.Frag->Sp}{x:Str}
  (hn:l.most=some n) (N:n<=sizeLine) (L:d.params.defaults=[]) (hr:Room k callerA)
  (F:∀(w:World) (C:Str->Option Value) (E:Addr) (K:W.Frag) (h:Heap),K.In h->f K=v->h.Ns mainGlobals C->C d.name=some (.ref E) ->
   ∃J:FuncData,(∀(s:Shared) (u:Value),BindsTo s J ⟨[u],[]⟩ [(x,u)]) /\
    ∀g:Heap,K.In g->g.Ns mainGlobals C->FnOk l.prog w K C g CX0 k E J [x] (sp K))
  (O:∀(K:W.Frag) (H:Hp) (a:Addr) (I:List Int),I.length<=n->zcR H->SqL K H a (I.map V.int)->sp K [.ref a] H (fun v _=>v=.bl true) fun _ _ _=>False) :
  PySem.W.WalkO q B U (Seen f v) l.row.toRowW d [] (fun f T=>PySem.call f T):=by
 refine Att.attach_call hn L fun w s₀ s₁ C mb E o pm cd a0 a T I G Y ho hd aa M D A j hg=>?_
 obtain⟨K,Q,e⟩:=Y;obtain⟨J,hb,hF⟩:=F w C E K _ Q e G.T.g M;exact X4 Q G.T.g G.T.b G.T.builtins G.T.nolimit hg D A (jm j N) hr hF hb (fun H hO hS=>O K H a I j hO hS) fun H e s' z=>z
theorem ownHead{l:PySem.W.OpenLaw}{q:Program}{g:List Str}{β:Type}{f:PySem.W.Frag->β}{v:β}{d:DefRec}(N:Nat)
  (u:l.wellSaid=true)
  (left:∀w,(PySem.W.openEnds treeTable l.prog w N).map (fun s=>(PySem.W.openSeen q g (importedModules l.prog.main.body) (fun _=>true) true s,f (JK s.heap)))=some (PySem.W.openGood q g,v))
  (j:PySem.W.defOf q l.name=some (d,[])) (hp:l.prog.theDef l.name=some (d.params,d.body,d.scope)) (hk:PySem.W.kwWritten? d.params.kwonlyargs d.params.kw_defaults=some [])
  (ok:(PySem.W.chainsOk q&&PySem.W.opensWell l.prog&&(PySem.W.frees l.row.toRowW&&l.row.within.isEmpty))=true) (hb:l.prog.bare) (A:l.row.toRowW.promised)
  (call:PySem.W.WalkO q g (fun _ _=>True) (Seen f v) l.row.toRowW d [] fun f C=>PySem.call f C):l.Holds:=
 PySem.W.holds_law u fun B=>PySem.W.holds_open (r:=l.row) (Yf:=fun s=>f (JK s.heap)) (Ya:=fun _=>v) left (fun _ s e=>⟨_,zaa s.heap,e⟩) Seen.keeps (fun _ _=>trivial) (fun _ _ _ _ _=>trivial) j hp hk (fun _ _=>PySem.W.recFacts_nil rfl) (Bool.or_true _) B ok hb A call
def Js(K:W.Frag)(a:Addr):Option (Str×Int×Int):=match K.lookup a with
 | some ⟨.type t,_,.seq f _,_⟩=>(match f.toList with
  | [.str s _,.int i _,.int j _]=>if t == "tuple" then some (s,i,j) else none
  | _=>none)
 | _=>none
def Wm(K:W.Frag):List Value->Option (List (Str×Int×Int))
 | []=>some []
 | .ref a::r=>(match Js K a with
  | some x=>(Wm K r).map (x:: ·)
  | none=>none)
 | _=>none
def Zc(K:W.Frag)(g:Str):Option (List (Str×Int×Int)×Bool):=match PySem.W.nsIn K mainGlobals g with
 | some (some (.ref a))=>(match K.lookup a with
  | some ⟨.type t,_,.seq f _,_⟩=>(Wm K f.toList).map fun l=>(l,t == "tuple" && decide (f.size<=1000))
  | _=>none)
 | _=>none
theorem zdj{K:W.Frag}{a:Addr}{m:Str×Int×Int}(e:Js K a=some m)(H:Hp):SqT K H a [.str m.1,.int m.2.1,.int m.2.2]:=by
 unfold Js at e;split at e
 ·rename_i t _ w n A u
  split at e
  ·rename_i s _ i _ j _ g
   split at e
   ·rename_i f
    cases e;have f:=j9.mp f;subst f;have l:w.size=3:=by rw[<- yX,g];rfl
    refine .inr ⟨_,_,_,u,rfl,rfl,by rw[l,sizeLine_eq];decide,?_⟩
    rw[g];exact .cons ⟨_,rfl⟩ (.cons ⟨_,rfl⟩ (.cons ⟨_,rfl⟩ .nil))
   ·cases e
  ·cases e
 ·cases e
theorem Xq{K:W.Frag}:∀{g:List Value} {l:List (Str×Int×Int)},Wm K g=some l->∃f:List Addr,Vals (f.map V.ref) g/\f.length=l.length/\∀(k:Nat) (c:Addr),f[k]? =some c->∃m:Str×Int×Int,l[k]? =some m/\∀H,SqT K H c [.str m.1,.int m.2.1,.int m.2.2]
 | [],l,h=>by cases h;exact⟨[],.nil,rfl,fun k c h=>by simp at h⟩
 | v::r,l,h=>by
  cases v<;>first| (cases h;done) | skip
  rename_i a
  simp only[Wm] at h;split at h
  ·rename_i x hx
   obtain⟨A,j,rfl⟩:=jb.mp h;obtain⟨f,s,u,w⟩:=Xq j;refine⟨a::f,.cons rfl s,by rw[jr,jr,u],fun k c hk=>?_⟩
   cases k with
   | zero=>cases hk;exact⟨x,rfl,zdj hx⟩
   | succ k=>exact w k c hk
  ·cases h
theorem zdi{K:W.Frag}{s:Str}{l:List (Str×Int×Int)}(e:Zc K s=some (l,true)):∃(a:Addr) (f:List Addr),PySem.W.nsIn K mainGlobals s=some (some (.ref a))/\(∀H,SqT K H a (f.map V.ref))/\f.length=l.length/\∀(k:Nat) (c:Addr),f[k]? =some c->∃m:Str×Int×Int,l[k]? =some m/\∀H,SqT K H c [.str m.1,.int m.2.1,.int m.2.2]:=by
 unfold Zc at e;split at e
 ·rename_i a ha
  split at e
  ·rename_i t _ I n G A
   obtain⟨E,u,j⟩:=jb.mp e;simp only[J7,jn,decide_eq_true_eq] at j;obtain⟨rfl,g,w⟩:=j;have g:=j9.mp g;subst g;obtain⟨f,B,C,D⟩:=Xq u;exact⟨a,f,ha,fun H=>.inr ⟨_,_,_,A,rfl,rfl,wD (QL w),B⟩,C,D⟩
  ·cases e
 ·cases e
def zeO(g:List (Str×Stmt))(f:List Str)(j:List (Str×List Str))(x:Str)(K:W.Frag):=(zd0 g f j K,Zc K x)
def ze7(g:List (Str×Stmt))(f:List Str)(j:List (Str×List Str))(l:List (Str×Int×Int)):(List (Option (Arguments×FuncBody×Scope×Bool))×List (Option (Option Value))×List (Option (List Str×Bool)))×Option (List (Str×Int×Int)×Bool):=(zee g f j,some (l,true))
def topL(i:Nat):Stmt:=PySem.Challenge.pw_pickboard_k72_whole_two_plans_on_one_rai.main.body.getD i (.Pass ⟨0,0,0,0⟩)
structure Blt(mg:Str->Option Value):Prop where
 abs:mg "abs" = none
 all:mg "all" = none
 divmod:mg "divmod" = none
 enumerate:mg "enumerate" = none
 int:mg "int" = none
 isinstance:mg "isinstance" = none
 len:mg "len" = none
 list:mg "list" = none
 max:mg "max" = none
 min:mg "min" = none
 range:mg "range" = none
 str:mg "str" = none
 tuple:mg "tuple" = none
 bool:mg "bool" = none
 zip:mg "zip" = none
 sum:mg "sum" = none
 any:mg "any" = none
 repr:mg "repr" = none
 set:mg "set" = none
 sorted:mg "sorted" = none
theorem vM:bootBuiltins "abs" = some (.builtin "abs"):=by decide +kernel
theorem wU:bootBuiltins "max" = some (.builtin "max"):=by decide +kernel
theorem Vl:bootBuiltins "min" = some (.builtin "min"):=by decide +kernel
theorem Vm:bootBuiltins "divmod" = some (.builtin "divmod"):=by decide +kernel
theorem xC:bootBuiltins "int" = some (.type "int"):=by decide +kernel
theorem xt:bootBuiltins "list" = some (.type "list"):=by decide +kernel
theorem wB:bootBuiltins "tuple" = some (.type "tuple"):=by decide +kernel
theorem zal:bootBuiltins "bool" = some (.type "bool"):=by decide +kernel
def jZ(i:Int):Int:=if i<0 then -i else i
def zeE:Str:= "abcdefghijklmnopqrstuvwxyz"
def X2(c:Nat):Bool:=decide (97<=c)&&decide (c<=122)
theorem zbk:zeE.cps.toList=List.range' 97 26:=by decide +kernel
def VS:List (Str×Stmt):=[(("is_number":Str),topL 1),(("is_number_within":Str),topL 2),(("way_between":Str),topL 3),(("nearer_by":Str),topL 4),(("going_to":Str),topL 5),(("is_too_near":Str),topL 8),(("ends_of":Str),topL 9),(("moves_at":Str),topL 10),(("all_reached":Str),topL 11),(("moves_together":Str),topL 12),(("goal_of":Str),topL 13),(("shows_together":Str),topL 14),(("never_moves":Str),topL 15),(("is_rising_below":Str),topL 16),(("shows_never":Str),topL 17),(("stops_of":Str),topL 19),(("is_track":Str),topL 21),(("track_by":Str),topL 22),(("track_of":Str),topL 23),(("_law_box":Str),topL 25),(("_law_take":Str),topL 26),(("_law_folded":Str),topL 27),(("_law_spelled":Str),topL 28),(("_law_name":Str),topL 29),(("_law_names":Str),topL 30),(("_law_shuffled":Str),topL 31),(("_law_order":Str),topL 32),(("_law_trip":Str),topL 33),(("_law_plan":Str),topL 34),(("_law_counts":Str),topL 35),(("_law_back_open":Str),topL 36),(("_law_drawn_moves":Str),topL 37),(("_law_near_job":Str),topL 38),(("_law_apart":Str),topL 39),(("_law_right":Str),topL 40),(("law":Str),topL 41)]
def zam:List Str:=[("abs":Str),("all":Str),("divmod":Str),("enumerate":Str),("int":Str),("isinstance":Str),("len":Str),("list":Str),("max":Str),("min":Str),("range":Str),("str":Str),("tuple":Str),("bool":Str),("zip":Str),("sum":Str),("any":Str),("repr":Str),("set":Str),("sorted":Str)]
def YO:List (Str×List Str):=[]
def mvL:List (Str×Int×Int):=[("both",1,1),("left",1,0),("right",0,1)]
def zey:List Str:=VS.dropLast.map (·.1)++[("MOVES":Str),("__name__":Str)]
def zdr:Program:={ PySem.Challenge.pw_pickboard_k72_whole_two_plans_on_one_rai with main:={ PySem.Challenge.pw_pickboard_k72_whole_two_plans_on_one_rai.main with body:=[topL 41] } }
theorem head1:PySem.Challenge.rw_pickboard_k72_whole_two_plans_on_one_rai.wellSaid=true:=by kernel_rfl
theorem head2:∀w,(PySem.W.openEnds treeTable PySem.Challenge.pw_pickboard_k72_whole_two_plans_on_one_rai w 9999).map (fun s=>(PySem.W.openSeen zdr zey (importedModules PySem.Challenge.pw_pickboard_k72_whole_two_plans_on_one_rai.main.body) (fun _=>true) true s,zeO VS zam YO "MOVES" (JK s.heap)))=some (PySem.W.openGood zdr zey,ze7 VS zam YO mvL):=fun w=>by kernel_rfl
theorem head3:(PySem.W.chainsOk zdr&&PySem.W.opensWell PySem.Challenge.pw_pickboard_k72_whole_two_plans_on_one_rai&&(PySem.W.frees PySem.Challenge.rw_pickboard_k72_whole_two_plans_on_one_rai.row.toRowW&&PySem.Challenge.rw_pickboard_k72_whole_two_plans_on_one_rai.row.within.isEmpty))=true:=by kernel_rfl
section
variable{κ:Type}[DecidableEq κ]
def qE(f:List (κ×V))(k:κ):Option V:=(f.find? fun g=>decide (g.1=k)).map (·.2)
def jy(f:List (κ×V))(k:κ)(v:V):List (κ×V):=
 if(f.any fun g=>decide (g.1=k))=true then f.map (fun g=>if g.1=k then(g.1,v) else g) else f++[(k,v)]
def zdf(f:List (κ×V))(k:κ):List (κ×V):=f.filter fun g=>decide (g.1≠k)
theorem ji{p:κ×V}{r:List (κ×V)}{k:κ}(e:p.1=k):qE (p::r) k=some p.2:=by simp[qE,wY,e]
theorem jj{p:κ×V}{r:List (κ×V)}{k:κ}(e:¬p.1=k):qE (p::r) k=qE r k:=by simp[qE,wY,e]
theorem xP(k:κ):∀f:List (κ×V),(f.any fun g=>decide (g.1=k))=(qE f k).isSome
 | []=>rfl
 | p::r=>by
  rw[wW];by_cases e:p.1=k
  ·simp only[ji e,zS e,Bool.true_or,Option.isSome_some]
  ·rw[jj e,jG e,J8];exact xP k r
theorem Xn(k j:κ)(y:V):∀f:List (κ×V),qE (f.map fun g=>if g.1=k then(g.1,y) else g) j=(qE f j).map fun x=>if j=k then y else x
 | []=>rfl
 | p::r=>by
  have l:=Xn k j y r;rw[xD];by_cases h:p.1=k
  ·rw[zw h]
   by_cases e:p.1=j
   ·rw[ji (p:=(p.1,y)) e,ji e,yR,zw (e.symm.trans h)]
   ·rw[jj (p:=(p.1,y)) e,jj e,l]
  ·rw[zq h]
   by_cases e:p.1=j
   ·rw[ji (p:=p) e,ji e,yR,zq (fun z=>h (e.trans z))]
   ·rw[jj (p:=p) e,jj e,l]
theorem Qo(k j:κ)(y:V):∀f:List (κ×V),qE f k=none->qE (f++[(k,y)]) j=if j=k then some y else qE f j
 | [],_=>by
  by_cases e:k=j
  ·rw[zw e.symm];exact ji (p:=(k,y)) e
  ·rw[zq (fun z=>e z.symm)];exact jj (p:=(k,y)) e
 | p::r,g=>by
  rw[List.cons_append];have hk:¬p.1=k:=fun z=>by rw[ji z] at g;cases g
  rw[jj hk] at g;have l:=Qo k j y r g;by_cases e:p.1=j
  ·rw[ji e,ji e,zq (fun z=>hk (e.trans z))]
  ·rw[jj e,jj e,l]
theorem xu(f:List (κ×V))(k j:κ)(y:V):qE (jy f k y) j=if j=k then some y else qE f j:=by
 unfold jy;by_cases a:(f.any fun g=>decide (g.1=k))=true
 ·rw[zw a,Xn]
  rw[xP] at a;by_cases e:j=k
  ·obtain⟨x,hx⟩:=ye.mp a
   rw[zw e,e,hx,yR,zw rfl]
  ·rw[zq e]
   cases qE f j with
   | none=>rfl
   | some x=>rw[yR,zq e]
 ·rw[zq a]
  refine Qo k j y f ?_
  rw[xP] at a;cases q:qE f k with
  | none=>rfl
  | some x=>rw[q] at a;exact(a rfl).elim
theorem j8(f:List (κ×V))(k:κ)(v:V):(jy f k v).length<=f.length+1:=by
 unfold jy;split
 ·rw[zx];omega
 ·rw[qG,jr,V2];omega
theorem XM{f:List (κ×V)}{k:κ}(v:V)(h:qE f k=none):jy f k v=f++[(k,v)]:=by
 unfold jy;rw[xP,h];exact zq (by decide)
theorem RelO.isSome_eq{o:Option V}{u:Option Value}(r:RelO o u):o.isSome=u.isSome:=by
 cases o with
 | none=>cases u with
  | none=>rfl
  | some _=>exact(show False from r).elim
 | some _=>cases u with
  | none=>exact(show False from r).elim
  | some _=>rfl
theorem RelO.getD{o:Option V}{u:Option Value}{d:V}{f:Value}(r:RelO o u)(g:RelV d f):RelV (o.getD d) (u.getD f):=by
 cases o with
 | none=>cases u with
  | none=>exact g
  | some _=>exact(show False from r).elim
 | some _=>cases u with
  | none=>exact(show False from r).elim
  | some _=>exact r
theorem KV.val{f:List (κ×V)}{s:List (κ×Value)}(r:KV f s)(k:κ):RelO (qE f k) (valueAt s k):=by
 unfold KV at r;induction r with
 | nil=>exact True.intro
 | @cons p q A j h t w=>
  obtain⟨l,u⟩:=h;by_cases e:p.1=k
  ·have g:q.1=k:=l.symm.trans e
   have b:valueAt (q::j) k=some q.2:=by simp[valueAt,wY,g]
   rw[ji e,b];exact u
  ·have g:¬q.1=k:=fun z=>e (l.trans z)
   have b:valueAt (q::j) k=valueAt j k:=by simp[valueAt,wY,g]
   rw[jj e,b];exact w
theorem KV.any{f:List (κ×V)}{j:List (κ×Value)}(r:KV f j)(k:κ):(f.any fun g=>decide (g.1=k))=j.any fun g=>decide (g.1=k):=by
 unfold KV at r;induction r with
 | nil=>rfl
 | cons h t l=>rw[wW,wW,l,h.1]
theorem KV.repl{g:List (κ×V)}{l:List (κ×Value)}(r:KV g l)(k:κ){y:V}{u:Value}(A:RelV y u) :
  KV (g.map fun f=>if f.1=k then(f.1,y) else f) (l.map fun f=>if f.1=k then(f.1,u) else f):=by
 unfold KV at r ⊢;induction r with
 | nil=>exact .nil
 | @cons p q B C h t w=>
  rw[xD,xD];refine .cons ?_ w
  obtain⟨j,s⟩:=h;by_cases e:p.1=k
  ·rw[zw e,zw (j.symm.trans e)];exact⟨j,A⟩
  ·rw[zq e,zq (fun z=>e (j.trans z))];exact⟨j,s⟩
theorem KV.put{kvs:List (κ×V)}{f:List (κ×Value)}(r:KV kvs f)(k:κ){y:V}{u:Value}(g:RelV y u):KV (jy kvs k y) (stored f k u):=by
 unfold jy stored;rw[r.any k];by_cases e:(f.any fun j=>decide (j.1=k))=true
 ·rw[zw e,zw e];exact r.repl k g
 ·rw[zq e,zq e];exact JY r ⟨rfl,g⟩
theorem KV.drop{f:List (κ×V)}{l:List (κ×Value)}(r:KV f l)(k:κ):KV (zdf f k) (without l k):=by
 unfold KV at r ⊢;unfold zdf without;induction r with
 | nil=>exact .nil
 | @cons p q w A h t j=>
  obtain⟨g,u⟩:=h;rw[xI,xI];by_cases e:p.1=k
  ·have a:¬decide (p.1≠k)=true:=by simp[e]
   have b:¬decide (q.1≠k)=true:=by simp[g.symm.trans e]
   rw[zq a,zq b];exact j
  ·have s:¬q.1=k:=fun z=>e (g.trans z)
   have a:decide (p.1≠k)=true:=by simp[e]
   have b:decide (q.1≠k)=true:=by simp[s]
   rw[zw a,zw b];exact .cons ⟨g,u⟩ j
theorem KV.keys{f:List (κ×V)}{g:List (κ×Value)}(r:KV f g):f.map (·.1)=g.map (·.1):=by
 unfold KV at r;induction r with
 | nil=>rfl
 | cons h t j=>rw[xD,xD,j,h.1]
theorem KV.length{f:List (κ×V)}{g:List (κ×Value)}(r:KV f g):f.length=g.length:=vn r
end
theorem X5{P:Program}{w:World}{k:Key}{u:Value}(r:RelV (kV k) u):(qS P w).is k u=true:=by
 cases k with
 | inl i=>obtain⟨t,e⟩:=(show ∃t,u=Value.int i t from r);subst e;exact X0 P w i t
 | inr x=>obtain⟨t,e⟩:=(show ∃t,u=Value.str x t from r);subst e;exact XZ P w x t
theorem QU{P:Program}{w:World}:∀{f:List Key} {g:List Value},Vals (f.map kV) g->ItemsAre (qS P w) f g
 | [],_,r=>by rw[J4] at r;cases r;exact .nil
 | k::f,_,r=>by
  rw[xD] at r;cases r with
  | cons h t=>exact .cons (X5 h) (QU t)
abbrev KT(H:Hp):List (List Key×V)->List (List Key×Addr×Value)->Prop:=Paired fun p q=>p.1=q.1/\H q.2.1=some (.tup (p.1.map kV))/\RelV p.2 q.2.2
theorem KT.val{H:Hp}{f:List (List Key×V)}{s:List (List Key×Addr×Value)}(r:KT H f s)(k:List Key):RelO (qE f k) ((atKey s k).map (·.2)):=by
 induction r with
 | nil=>exact True.intro
 | @cons p q A j h t w=>
  obtain⟨l,_,u⟩:=h;by_cases e:p.1=k
  ·have g:q.1=k:=l.symm.trans e
   have b:atKey (q::j) k=some q.2:=by simp[atKey,wY,g]
   rw[ji e,b];exact u
  ·have g:¬q.1=k:=fun z=>e (l.trans z)
   have b:atKey (q::j) k=atKey j k:=by simp[atKey,wY,g]
   rw[jj e,b];exact w
theorem KT.repl{H:Hp}{f:List (List Key×V)}{s:List (List Key×Addr×Value)}(r:KT H f s)(k:List Key){y:V}{u:Value}(B:RelV y u) :
  KT H (f.map fun j=>if j.1=k then(j.1,y) else j) (s.map (putAt k u)):=by
 induction r with
 | nil=>exact .nil
 | @cons p q C D h t A=>
  rw[xD,xD];refine .cons ?_ A
  obtain⟨g,l,w⟩:=h;unfold putAt;by_cases e:p.1=k
  ·rw[zw e,zw (g.symm.trans e)];exact⟨g,l,B⟩
  ·rw[zq e,zq (fun z=>e (g.trans z))];exact⟨g,l,w⟩
theorem KT.put{H:Hp}{kvs:List (List Key×V)}{xs:List (List Key×Addr×Value)}(r:KT H kvs xs)(k:List Key){b:Addr}{y:V}{u:Value}(hb:H b=some (.tup (k.map kV)))(f:RelV y u) :
  KT H (jy kvs k y) (storedH xs k b u):=by
 have e:(kvs.any fun g=>decide (g.1=k))=(atKey xs k).isSome:=by
  rw[xP,(r.val k).isSome_eq,V7]
 unfold jy storedH;rw[e];by_cases q:(atKey xs k).isSome=true
 ·rw[zw q,zw q];exact r.repl k f
 ·rw[zq q,zq q];exact JY r ⟨rfl,hb,f⟩
theorem KT.keeps{H g:Hp}{f:List (List Key×V)}{j:List (List Key×Addr×Value)}(r:KT H f j)(s:∀b l,H b=some (.tup l)->g b=some (.tup l)):KT g f j:=
 uk r fun _ _ z=>⟨z.1,s _ _ z.2.1,z.2.2⟩
section
variable{P:Program}{w:World}{H:Hp}{h:Heap}{a:Addr}
theorem WV{u:HO}(ok:HOk P w H h)(e:Rd H a u):ObjOk P w H h a u:=e.ok ok
theorem Vd{f:List (Key×V)}(ok:HOk P w H h)(e:Rd H a (.dK f)):f.length<=sizeLine/\(a==sysModules)=false/\∃g,KV f g/\h.DictOf (qS P w) a g:=
 show ObjOk P w H h a (.dK f) from WV ok e
theorem ze8{f:List (Key×V)}(ok:HOk P w H h)(e:H a=some (.dK f)):f.length<=sizeLine/\(a==sysModules)=false/\∃g,KV f g/\h.DictOf (qS P w) a g:=Vd ok (.inl e)
theorem wx{g:List Key}(ok:HOk P w H h)(e:H a=some (.tup (g.map kV))):(tupleKind (qS P w)).is h g a:=by
 obtain⟨_,f,r,⟨o,j,l,n,s⟩,_⟩:=(show ObjOk P w H h a (.tup (g.map kV)) from ok a _ e)
 exact⟨o,f.toArray,n,j,l,s,by simpa using QU r⟩
theorem Vc{f:List (List Key×V)}(ok:HOk P w H h)(e:Rd H a (.dT f)):f.length<=sizeLine/\(a==sysModules)=false /\
  ∃g,KT H f g/\h.DictOfH (tupleKind (qS P w)) a g:=by
 obtain⟨z,y,g,r,o,s,j,u,A,B,C,D⟩:=(show ObjOk P w H h a (.dT f) from WV ok e)
 refine⟨z,y,g,r,o,s,j,u,A,B,C,fun x hx=>?_,D⟩
 have all:∀{l:List (List Key×V)} {m:List (List Key×Addr×Value)},KT H l m->∀x∈m,(tupleKind (qS P w)).is h x.1 x.2.1:=by
  intro l m q;induction q with
  | nil=>intro x hx;exact nomatch hx
  | @cons p q G I hq t E=>
   intro x hx;rcases zW.mp hx with e | hx
   ·subst e
    exact wx ok (by rw[<- hq.1];exact hq.2.1)
   ·exact E x hx
 exact all r x hx
theorem zbw{f:List (List Key×V)}(ok:HOk P w H h)(e:H a=some (.dT f)):f.length<=sizeLine/\(a==sysModules)=false /\
  ∃g,KT H f g/\h.DictOfH (tupleKind (qS P w)) a g:=Vc ok (.inl e)
end
def DGet(H:Hp)(a:Addr)(y:V)(r:Option V):Prop:=
 (∃f k,Rd H a (.dK f)/\y=kV k/\r=qE f k)\/∃f k b,Rd H a (.dT f)/\y=.ref b/\H b=some (.tup (k.map kV))/\r=qE f k
def DPut(H:Hp)(a:Addr)(y v:V)(g:Hp):Prop:=
 (∃f k,H a=some (.dK f)/\y=kV k/\f.length<sizeLine/\g=upd H a (.dK (jy f k v))) \/
 ∃f k b,H a=some (.dT f)/\y=.ref b/\H b=some (.tup (k.map kV))/\f.length<sizeLine/\g=upd H a (.dT (jy f k v))
theorem DGet.k{H:Hp}{a:Addr}{f:List (Key×V)}{k:Key}(e:H a=some (.dK f)):DGet H a (kV k) (qE f k):=.inl ⟨f,k,.inl e,rfl,rfl⟩
theorem DGet.t{H:Hp}{a b:Addr}{f:List (List Key×V)}{k:List Key}(e:H a=some (.dT f))(g:H b=some (.tup (k.map kV))):DGet H a (.ref b) (qE f k):=.inr ⟨f,k,b,.inl e,rfl,g,rfl⟩
def ui:=@DGet.t
theorem DPut.k{H:Hp}{a:Addr}{f:List (Key×V)}{k:Key}{v:V}(e:H a=some (.dK f))(g:f.length<sizeLine):DPut H a (kV k) v (upd H a (.dK (jy f k v))):=.inl ⟨f,k,e,rfl,g,rfl⟩
theorem DPut.t{H:Hp}{a b:Addr}{f:List (List Key×V)}{k:List Key}{v:V}(e:H a=some (.dT f))(g:H b=some (.tup (k.map kV)))(j:f.length<sizeLine) :
  DPut H a (.ref b) v (upd H a (.dT (jy f k v))):=.inr ⟨f,k,b,e,rfl,g,j,rfl⟩
section
variable{X:Cx}{f:List (Addr×Obj)}{σ:St}{H:Hp}{s:Shared}{a:Addr}{y v:V}{u r:Value}{o:Option V}{A:Around}{E:Value->Shared->Prop}
theorem Inv.big(I:Inv X f σ H s):sysModules<s.heap.objs.size:=by
 have h:mainGlobals<s.heap.objs.size:=(I.mod.glob.keeps I.bk).lt;exact Nat.lt_trans (by decide) h
theorem zac{Q:Value->Shared->Prop}(hu:A.units+1<cLine)(I:Inv X f σ H s)(g:DGet H a y (some v))(M:RelV y u)(h:∀B N,Inv X f σ H N->RelV v B->Q B N) :
  wpAny (model X.prog X.w) A (getItem (.ref a) u) Q E s:=by
 rcases g with ⟨L,k,e,D,l⟩ | ⟨L,k,b,e,D,O,l⟩
 ·subst D
  obtain⟨z,T,U,j,C⟩:=Vd I.hok e;obtain⟨B,J,w⟩:=RelO.some_of (v:=v) (o:=valueAt U k) (by rw[l];exact j.val k)
  exact wpAny_getItem_of (X5 M) C.mapOf J (h B _ (I.tok _) w)
 ·subst D
  cases(show u=Value.ref b from M)
  obtain⟨z,T,Y,j,C⟩:=Vc I.hok e;obtain⟨B,J,w⟩:=RelO.some_of (v:=v) (o:=(atKey Y k).map (·.2)) (by rw[l];exact j.val k)
  obtain⟨p,hp,G⟩:=jb.mp J;refine wpAny_getItem_heap (tupleKind_room_in1 hu) (wx I.hok O) C hp ?_
  rw[G];exact h B _ (I.tok _) w
theorem zfz{Q:Value->Shared->Prop}(hu:A.units+1<cLine)(I:Inv X f σ H s)(g:DGet H a y o)(G:RelV y u)(h:∀J,Inv X f σ H J->Q (.bool o.isSome) J) :
  wpAny (model X.prog X.w) A (compareOp .In u (.ref a)) Q E s:=by
 rcases g with ⟨D,k,e,B,l⟩ | ⟨D,k,b,e,B,L,l⟩
 ·subst B
  obtain⟨z,C,M,j,w⟩:=Vd I.hok e;refine wpAny_in_of (X5 G) C w.mapOf ?_
  rw[<- (j.val k).isSome_eq,<- l];exact h _ (I.tok _)
 ·subst B
  cases(show u=Value.ref b from G)
  obtain⟨z,C,N,j,w⟩:=Vc I.hok e;refine wpAny_in_heap (tupleKind_room_in1 hu) (wx I.hok L) C w ?_
  have q:=(j.val k).isSome_eq;rw[V7] at q;rw[<- q,<- l];exact h _ (I.tok _)
theorem zcJ{Q:Value->Shared->Prop}(hu:A.units+1<cLine)(I:Inv X f σ H s)(g:DGet H a y o)(G:RelV y u)(h:∀J,Inv X f σ H J->Q (.bool (!o.isSome)) J) :
  wpAny (model X.prog X.w) A (compareOp .NotIn u (.ref a)) Q E s:=by
 rcases g with ⟨D,k,e,B,l⟩ | ⟨D,k,b,e,B,L,l⟩
 ·subst B
  obtain⟨z,C,M,j,w⟩:=Vd I.hok e;refine wpAny_notIn_of (X5 G) C w.mapOf ?_
  rw[<- (j.val k).isSome_eq,<- l];exact h _ (I.tok _)
 ·subst B
  cases(show u=Value.ref b from G)
  obtain⟨z,C,N,j,w⟩:=Vc I.hok e;refine wpAny_notIn_heap (tupleKind_room_in1 hu) (wx I.hok L) C w ?_
  have q:=(j.val k).isSome_eq;rw[V7] at q;rw[<- q,<- l];exact h _ (I.tok _)
theorem Zg{g:Heap}{D:Nat}{l:HO}(I:Inv X f σ H s)(C:Mut (H a))(B:Heap.SameBut a s.heap g)(w:∃q,g.get? a=some q)(j:ObjOk X.prog X.w (upd H a l) g a l) :
  Inv X f σ (upd H a l) { s with heap:=g,toks:=D }:=
 I.write (x:=a) (e:=a) C (.inl rfl) (fun b q hb z=>(B.2 b hb).trans z) w j
theorem zef{P:Program}{w:World}{C:Hp}{B:Heap}{g:List (Key×V)}{l:List (Key×Value)}(z:g.length<=sizeLine)(G:(a==sysModules)=false)(j:KV g l)(D:B.DictOf (qS P w) a l) :
  ObjOk P w C B a (.dK g):=⟨z,G,l,j,D⟩
theorem zab{O:Hp}{Q:Unit->Shared->Prop}(hu:A.units+1<cLine)(I:Inv X f σ H s)(g:DPut H a y v O)(ry:RelV y u)(rv:RelV v r)(h:∀s',Inv X f σ O s'->Q () s') :
  wpAny (model X.prog X.w) A (setItem (.ref a) u r) Q E s:=by
 rcases g with ⟨j,k,e,G,l,D⟩ | ⟨j,k,b,e,G,T,l,D⟩
 ·subst G D
  obtain⟨z,J,vs,w,C⟩:=ze8 I.hok e;have hz:vs.length<=sizeLine:=by rw[<- w.length];exact z
  have L:(jy j k v).length<=sizeLine:=by have:=j8 j k v;omega
  refine wpAny_setItem_pairs (hsz:=hz) (X5 ry) C fun Y B M=>h _ ?_
  have he:∃q,Y.get? a=some q:=let ⟨q,_,_,hq,_⟩:=B;⟨q,hq⟩
  exact Zg I (by rw[e];exact True.intro) M he (zef L J (w.put k rv) B)
 ·subst G D
  cases(show u=Value.ref b from ry)
  obtain⟨z,J,xs,w,C⟩:=zbw I.hok e;have hz:xs.length<=sizeLine:=by rw[<- vn w];exact z
  have L:(jy j k v).length<=sizeLine:=by have:=j8 j k v;omega
  refine wpAny_setItem_heap (hsz:=hz) (tupleKind_room_in1 hu) (wx I.hok T) C fun Y B M=>h _ ?_
  obtain⟨q,es,ep,hq,h2,h3,h4,_,h5⟩:=B;refine Zg I (by rw[e];exact True.intro) M ⟨q,hq⟩ ⟨L,J,_,(w.put k T rv).keeps fun c ys U=>?_,q,es,ep,hq,h2,h3,h4,h5⟩
  rw[zm (xW U e (fun z=>nomatch z))]
  exact U
end
section
variable{X:Cx}{f:List (Addr×Obj)}{σ:St}{H:Hp}{s:Shared}{a:Addr}{g:List (Key×V)}{k:Key}{u:Value}{A:Around}{E:Value->Shared->Prop}
end
def zfd(i:Expr):Prop:=∀g f,subscripted i false g f=operate [g,f] (getItem g f)
theorem zb2{f:Program}{w:World}{A:Around}{E:Value->Shared->Prop}{s:Shared}{l:Env}{j g:Expr}{D:Pos}{T id:String}{Q:Value->Shared->Prop}
  (J:typeLookup (.type T) "__getitem__" = pure (some (.builtin id))) (L:zfd g)
  (h:wpAny (model f w) A (eval j l) (fun o H=>wpAny (model f w) A (eval g l) (fun i B=>B.TypeIs o T/\wpAny (model f w) A (getItem o i) Q E B) E H) E s) :
  wpAny (model f w) A (eval (.Subscript j g D) l) Q E s:=by
 refine Subscript_ (zP h (fun o H M=>zP M (fun i B C=>?_) fun _ _ x=>x) fun _ _ x=>x)
 obtain⟨G,C⟩:=C;unfold subscriptTail;refine zj ?_
 rw[getitemInPython_of_ne G.not_modules];refine zj (wpAny_specialOf G J ?_)
 have u:wpAny (model f w) A (subscripted g false o i) (fun r I=>wpAny (model f w) A (letTemporaryGo j o r >>= fun _=>pure r) Q E I) E B:=by
  rw[L o i];exact wpAny_operating (zP C (fun r I N=>zj (wpAny_letTemporaryGo (zB N))) fun _ _ x=>x)
 first
  | exact zB (zj u)
  | exact zj (zB (zj u))
  | exact zj u
theorem Ve{X:Cx}{f:List (Addr×Obj)}{σ:St}{H:Hp}{s:Shared}{a:Addr}{y:V}{o:Option V}(I:Inv X f σ H s)(g:DGet H a y o):s.TypeIs (.ref a) "dict" :=by
 rcases g with ⟨l,k,e,_,_⟩ | ⟨l,k,b,e,_,_,_⟩
 ·obtain⟨_,_,u,_,j⟩:=Vd I.hok e
  exact j.typeIs
 ·obtain⟨_,_,w,_,j⟩:=Vc I.hok e
  exact j.typeIs
def zes(j ty:TE):TE:=fun σ H Q=>j σ H fun x g=>ty σ g fun y f=>∃a v,x=.ref a/\DGet f a y (some v)/\Q v f
def zfs(ty j:TE):TE:=fun σ H Q=>ty σ H fun y g=>j σ g fun x f=>∃a o,x=.ref a/\DGet f a y o/\Q (.bl o.isSome) f
def zb1(ty j:TE):TE:=fun σ H Q=>ty σ H fun y g=>j σ g fun x f=>∃a o,x=.ref a/\DGet f a y o/\Q (.bl (!o.isSome)) f
def zeF(s ty u:TE):TS:=fun D σ H=>u σ H fun v g=>s σ g fun x j=>ty σ j fun y l=>∃a f,x=.ref a/\DPut l a y v f/\D.nx σ f
section
variable{X:Cx}{o i e f:Expr}{w j A:Pos}{l ty B:TE}
theorem zcd(hu:X.A.units+1<cLine)(T:PE X o l)(O:PE X i ty)(U:zfd i):PE X (.Subscript o i w) (zes l ty):=by
 intro C s σ H Q I h;refine zb2 PySem.F.slot_dict_getitem.lookup U (thn (T C s σ H _ I h) fun u s1 ⟨x,G,L,rx,Y⟩=>thn (O C s1 σ G _ L Y) fun iv s2 ⟨y,J,E,ry,a,v,N,g,q2⟩=>?_)
 subst N;obtain rfl:u=Value.ref a:=rx;exact⟨Ve E g,zac hu E g ry fun w' s3 M D=>⟨v,J,M,D,q2⟩⟩
theorem vE(hu:X.A.units+1<cLine)(N:PE X i ty)(O:PE X o l):PC X .In i o (zfs ty l):=by
 intro C s σ H Q I h;refine thn (N C s σ H _ I h) fun iv s1 ⟨y,D,G,ry,U⟩=>thn (O C s1 σ D _ G U) fun u s2 ⟨x,E,J,rx,a,T,M,g,Y⟩=>?_
 subst M;obtain rfl:u=Value.ref a:=rx;exact zfz hu J g ry fun s3 L=>⟨.bl T.isSome,E,L,rfl,Y⟩
theorem yn(hu:X.A.units+1<cLine)(N:PE X i ty)(O:PE X o l):PC X .NotIn i o (zb1 ty l):=by
 intro C s σ H Q I h;refine thn (N C s σ H _ I h) fun iv s1 ⟨y,D,G,ry,U⟩=>thn (O C s1 σ D _ G U) fun u s2 ⟨x,E,J,rx,a,T,M,g,Y⟩=>?_
 subst M;obtain rfl:u=Value.ref a:=rx;exact zcJ hu J g ry fun s3 L=>⟨.bl (!T.isSome),E,L,rfl,Y⟩
theorem W3(hu:X.A.units+1<cLine)(U:PE X o l)(T:PE X i ty)(hv:PE X f B)(Y:swapsWith f (some (.Subscript o i j)) w.line X.env=pure false) :
  PS X (.Assign [.Subscript o i j] f w) (zeF l ty B):=by
 intro C s σ H D I h;refine wpAny_Assign_Subscript (thn (hv C s σ H _ I h) fun r s1 ⟨v,E,L,rv,q1⟩=>thn (U C s1 σ E _ L q1) fun u s2 ⟨x,G,M,rx,q2⟩=>thn (T C s2 σ G _ M q2) fun iv s3 ⟨y,H3,N,ry,a,J,Q,g,q3⟩=>?_) Y
 subst Q;obtain rfl:u=Value.ref a:=rx;exact zab hu N g ry rv fun s4 O=>⟨σ,J,O,q3⟩
end
theorem ZM{P:Program}{w:World}{H:Hp}(h:Heap)(hb:sysModules<h.objs.size):ObjOk P w H (h.push { cls:=.type "dict",data:=.dict #[] }) h.objs.size (.dT []):=
 ⟨qQ _,beq_eq_false_iff_ne.mpr (qB (z9 hb)),[],.nil,_,#[],0,qy _ rfl,⟨rfl,rfl,rfl⟩,rfl,rfl,List.nodup_nil⟩
def zdn:TE:=fun _ H Q=>∀p,H p=none->Q (.ref p) (upd H p (.dT []))
section
variable{X:Cx}{f:Pos}
theorem Zz:PE X (.Dict [] [] f) zdn:=fun g s σ H Q I h=>
 wpAny_Dict_empty ⟨.ref s.heap.objs.size,_,I.laid (a:=s.heap.objs.size) (o:=.dT []) (t':=s.toks) (fun _ _ q=>qd _ q) (zJ _) (ZM s.heap I.big),rfl,h _ (I.hok.fresh (zJ _))⟩
end
def VC:List (TE×TE)->St->Hp->(List (V×V)->Hp->Prop)->Prop
 | [],_,H,Q=>Q [] H
 | (s,u)::r,σ,H,Q=>s σ H fun x f=>u σ f fun y g=>VC r σ g fun l j=>Q ((x,y)::l) j
abbrev VV:List (V×V)->List (Value×Value)->Prop:=Paired fun p q=>RelV p.1 q.1/\RelV p.2 q.2
def PPs(X:Cx)(l:Pos)(j:List (Option Expr))(f:List Expr)(u:List (TE×TE)):Prop:=
 ∀(g:List (Addr×Obj)) (s:Shared) (σ:St) (H:Hp) (Q:List (V×V)->Hp->Prop),Inv X g σ H s->VC u σ H Q ->
  wpAny (model X.prog X.w) X.A (evalPairs (pairTrees j f X.env l)) (fun C B=>∃A w,Inv X g σ w B/\VV A C/\Q A w) X.xe s
theorem zb8{X:Cx}{f:Pos}:PPs X f [] [] []:=fun g s σ H Q I h=>pairTrees_nil_walk ⟨[],H,I,.nil,h⟩
theorem zaY{X:Cx}{pos:Pos}{k v:Expr}{l:List (Option Expr)}{B:List Expr}{w A:TE}{g:List (TE×TE)}(hk:PE X k w)(N:PE X v A)(M:PPs X pos l B g) :
  PPs X pos (some k::l) (v::B) ((w,A)::g):=fun f s σ H Q I h=>
 pairTrees_cons_walk (thn (hk f s σ H _ I h) fun u s1 ⟨x,C,G,rx,T⟩=>thn (N f s1 σ C _ G T) fun w2 s2 ⟨y,D,J,ry,U⟩=>
  thn (M f s2 σ D _ J U) fun ws s3 ⟨O,E,L,j,Y⟩=>⟨(x,y)::O,E,L,.cons ⟨rx,ry⟩ j,Y⟩)
structure M1(X:Cx)(o:Expr)(m:Str)(apos:Pos)(e:Expr)(cpos:Pos):Prop where
 base:attributeBase o m X.env (eval o X.env)=eval o X.env
 few:((backTo cpos (starEach [e] X.env)).all (fun x=>!x.1)&&(backToKw cpos (keywordEach [] X.env)).all (fun x=>x.1.isSome)
  && decide (([e]:List Expr).length+([]:List Keyword).length+(if([]:List Keyword).isEmpty then 0 else 1)<30))=true
 line:(apos.endLine==cpos.line)=true
 trees:backTo cpos (starEach [e] X.env)=[(false,eval e X.env)]
structure M2(X:Cx)(o:Expr)(m:Str)(apos:Pos)(e f:Expr)(cpos:Pos):Prop where
 base:attributeBase o m X.env (eval o X.env)=eval o X.env
 few:((backTo cpos (starEach [e,f] X.env)).all (fun x=>!x.1)&&(backToKw cpos (keywordEach [] X.env)).all (fun x=>x.1.isSome)
  && decide (([e,f]:List Expr).length+([]:List Keyword).length+(if([]:List Keyword).isEmpty then 0 else 1)<30))=true
 line:(apos.endLine==cpos.line)=true
 trees:backTo cpos (starEach [e,f] X.env)=[(false,eval e X.env),(false,eval f X.env)]
section
variable{X:Cx}{f:List (Addr×Obj)}{σ:St}{H:Hp}{s:Shared}{a:Addr}{y d:V}{u r:Value}{o:Option V}{A:Around}{E:Value->Shared->Prop}
end
section
variable{X:Cx}{o e f:Expr}{g j:Pos}{l ty s:TE}
end
section
variable{X:Cx}{f:List (Addr×Obj)}{σ:St}{H:Hp}{s:Shared}{a:Addr}{g:List (Key×V)}{A:Around}{E:Value->Shared->Prop}
end
section
variable{X:Cx}{f:List (Addr×Obj)}{σ:St}{H:Hp}{s:Shared}{a:Addr}{y:V}{u:Value}{A:Around}{E:Value->Shared->Prop}
end
end L2
namespace PySem
open PySem PySem.W PySem.Calls PyProof.Rows PyProof.V PySem.Spec
theorem dict_eq_nil(a b:Addr)(l:Array DictEntry)(n M:Nat)(I C:Option Addr)(N G:Array (Option Value))(ha:(a==sysModules)=false)(hb:(b==sysModules)=false) :
  Meets (Builtin.«dict.__eq__» ⟨[.ref a,.ref b],[]⟩)
   (fun _ R s=>s.heap.get? a=some { cls:=.type "dict",dict:=I,data:=.dict l n,slots:=N }/\s.heap.get? b=some { cls:=.type "dict",dict:=C,data:=.dict #[] M,slots:=G } /\
    R (.ok (.ret (.bool l.isEmpty))) s):=
 .of_wp fun H w A R s h=>by
  obtain⟨hp,g,d,O,os⟩:=s;obtain⟨E,u,h⟩:=h
  have J:isSubtype (.type "dict") (.type "dict")=pure true:=by rw[isSubtype_type];kernel_rfl
  have D:(⟨hp,g,d,O,os⟩:Shared).TypeIs (.ref b) "dict" :=⟨_,u,rfl⟩;refine zj ?_
  refine zj (wpAny_notOrdered_dict ⟨_,E,rfl⟩ ?_)
  refine zj (zB ?_)
  refine zB ?_
  refine zj (yE (T:= "dict") (b:=true) D J ?_)
  refine wpAny_ite_split (fun j=>absurd j (by decide)) (fun _=>?_)
  refine zj (zB ?_)
  refine zj (zB ?_)
  have Q:(a==sysModules)=true↔False:=by rw[ha];simp
  have U:(b==sysModules)=true↔False:=by rw[hb];simp
  unfold Builtin.Dict.samePairs Builtin.Dict.showsAll;refine zj ?_
  rw[zq (by rw[ha];exact qx),zq (by rw[hb];exact qx)]
  refine zj (zB ?_)
  refine zj (zB ?_)
  refine zj (wpAny_dictEntries E rfl ?_)
  refine zj (wpAny_dictEntries u rfl ?_)
  cases B:l.isEmpty with
  | true=>
   have hz:l=#[]:=by simpa using B
   subst hz;refine wpAny_ite_split (fun j=>absurd j (by decide)) (fun _=>?_)
   refine zj (wpAny_dictEpoch E rfl ?_)
   rw[B] at h;have L:∀{β:Type} (x:β) (f:Nat->β->Sem (ForInStep β)),forIn [0:(#[]:Array DictEntry).size] x f=pure x:=fun x f=>by
    rw[Std.Legacy.Range.forIn_eq_forIn_range'];rfl
   rw[L];refine zj (zB ?_)
   wp_walk
   exact⟨_,rfl,h⟩
  | false=>
   have hz:l.size≠0:=fun z=>by rw[Array.size_eq_zero_iff.mp z] at B;cases B
   refine wpAny_ite_split (fun _=>?_) (fun j=>absurd (by simpa using hz) j)
   rw[B] at h;wp_walk
   exact⟨_,rfl,h⟩
end PySem
namespace L2
open PySem PySem.Spec PyProof.Rows
section
variable{X:Cx}
inductive Jp(x:V)(y:V)(H:Hp)(Q:VK):Prop
 | mk (a b:Addr) (f:List (List Key×V)) (_:x=.ref a) (_:y=.ref b) (_:H a=some (.dT f)) (_:H b=some (.dT [])) (_:Q (.bl f.isEmpty) H):Jp x y H Q
theorem zci(hu:X.A.units<cLine):OpR X (compareOp .Eq) (Jp):=by
 intro U s σ H x y v u Q I rx ry h;obtain⟨a,b,f,rfl,rfl,hx,hy,q⟩:=h;cases rx;cases ry;obtain⟨_,sa,xs,ra,o,w,ep,O,⟨c1,L,M⟩,T,h4,_⟩:=(show ObjOk _ _ H s.heap a (.dT f) from WV I.hok (.inl hx))
 obtain⟨_,sb,ys,rb,o',E,D,A,⟨g,j,l⟩,B,G,_⟩:=(show ObjOk _ _ H s.heap b (.dT []) from WV I.hok (.inl hy))
 cases rb;have e0:E=#[]:=by
  apply V4.mp
  rw[G];rfl
 have ez:w.isEmpty=f.isEmpty:=by
  have J:w.size=f.length:=by rw[<- yX,h4,zx];exact(vn ra).symm
  cases f with
  | nil=>rw[zbR.mpr J];rfl
  | cons p r=>
   cases e:w.isEmpty with
   | false=>rfl
   | true=>rw[zbR.mp e] at J;simp at J
 obtain⟨cls,dd,data,sl⟩:=o;obtain⟨N,Y,C,a0⟩:=o';simp only at c1 L M T g j l B;subst c1 L M T g j l B e0;refine richCompare_meets_room (op:=.Eq) ⟨_,O,rfl⟩ ⟨_,A,rfl⟩ F.slot_dict_eq F.entry_dict_eq (F.args_dict_eq_2 _ _) (PySem.dict_eq_nil a b w ep D none none #[] #[] sa sb)
  ⟨O,A,show Value.bool w.isEmpty≠Value.notImplemented/\_ from ⟨(fun x=>nomatch x),?_⟩⟩ hu
 rw[ez];exact⟨.bl _,H,I,rfl,q⟩
inductive Jo(K:W.Frag)(x:V)(y:V)(H:Hp)(Q:VK):Prop
 | mk (t:Str) (d:Dat) (_:x=.str t) (_:Rep K H d y) (_:Q (.bl (match d with | .str z=>t==z | _=>false)) H):Jo K x y H Q
theorem zch(hu:X.A.units<cLine):OpR X (compareOp .Eq) (Jo X.K):=by
 intro B s σ H x y v u Q I D j h;obtain⟨t,d,rfl,g,q⟩:=h;obtain⟨l,rfl⟩:=D;cases d with
 | non=>
  cases(show y=_ from g)
  cases(show u=_ from j)
  exact SeqAt.RcAt.str_none t l _ _ _ _ ⟨.bl _,H,I,rfl,q⟩
 | bl b=>
  cases(show y=_ from g)
  cases(show u=_ from j)
  exact SeqAt.RcAt.str_bool t l b _ _ _ _ ⟨.bl _,H,I,rfl,q⟩
 | int i=>
  cases(show y=_ from g)
  obtain⟨f,rfl⟩:=j;exact SeqAt.RcAt.str_int t l i f _ _ _ _ ⟨.bl _,H,I,rfl,q⟩
 | str z=>
  cases(show y=_ from g)
  obtain⟨f,rfl⟩:=j;exact SeqAt.RcAt.str_str t l z f _ _ _ _ ⟨.bl _,H,I,rfl,q⟩
 | lst C=>
  obtain⟨a,E,rfl,hq,_⟩:=id g;cases(show u=_ from j)
  obtain⟨w,r,A,hz⟩:=I.list hq;exact SeqAt.RcAt.str_list t l A.isList hu _ _ _ _ ⟨.bl _,H,I,rfl,q⟩
 | tup C=>
  obtain⟨a,E,rfl,hq,_⟩:=id g;cases(show u=_ from j)
  obtain⟨w,r,A,hz⟩:=I.tuple hq;exact SeqAt.RcAt.str_tuple t l A hu _ _ _ _ ⟨.bl _,H,I,rfl,q⟩
end
def Itd(lo:Int)(n:Nat):It:=⟨fun i _=>i<n,fun i H x f=>f=H/\x=.int (lo-i),fun i _=>n<=i⟩
theorem YS{P:Program}{w:World}{K:W.Frag}{tg:Expr}(f:Addr)(lo:Int)(n:Nat):vY P w K tg (Itd lo n) [f] f (fun i h=>IsRangeIter h f (lo+(i:Nat)*(-1)) ((n:Int)-(i:Nat)) (-1)) where
 mem:=by simp
 obj:=fun i h st b hb=>by
  have e:b=f:=by simpa using hb
  subst e;exact⟨_,st,fun v z=>by
   have z':Data.fields _=Data.cell v:=z;cases z'⟩
 keep:=fun i h l st k=>k f (by simp) _ st
 item:=by
  intro X J M G hc i g s σ H E I hf st L;subst J M G;obtain⟨u,A,U,B,C,D⟩:=hf f (by simp)
  have W:=Walks.range (prog:=X.prog) (w:=X.w) (I.ok.hd hc) f lo (-1) n;refine W.item i s _ _ L st fun v l O Y j kk=>?_
  obtain⟨t,rfl⟩:=Y;have Q:Inv X g σ H { s with heap:=l,toks:=O }:=I.turned (fun b o hb e=>kk b o (by simpa using hb) e) u A B C D
  refine⟨_,rfl,X9 (s:={ s with heap:=l,toks:=O }) (n:= "range_iterator") j rfl rfl (by decide) ⟨.int (lo-i),H,Q,⟨t,?_⟩,⟨rfl,rfl⟩,j,fun b hb=>(hf b hb).1⟩⟩
  rw[show lo+(i:Int)*(-1)=lo-i by omega]
 done:=by
  intro X J M G hc i g s σ H E I hf st L;subst J M G;obtain⟨u,A,U,B,C,D⟩:=hf f (by simp)
  exact wpAny_pyNext_range_end (I.ok.hd hc) st (by have:n<=i:=L;omega) fun l T=>⟨rfl,I.turned (t':=s.toks) (fun b o hb e=>T b o hb e) u A B C D⟩
 self:=fun _ _ _ _ _ st h=>wpAny_pyIter_rangeiter st h
theorem vB(a b:Int):Builtin.Range.rangeSize a b (-1)=if a>b then a-b else 0:=by
 unfold Builtin.Range.rangeSize;simp only[show ¬((-1:Int)>0) by decide,if_false,Int.neg_neg,Int.ediv_one]
 split<;>omega
theorem VE{a b:Int}(ha:-(2^62)<=a)(f:a<2^62)(hb:-(2^62)<=b)(g:b<2^62):Builtin.Range.small a b (-1)=true:=by
 unfold Builtin.Range.small;rw[vB];simp only[Builtin.Range.rangeFitsLong,jn,ZY,decide_eq_true_eq,j9,show ¬((-1:Int)>0) by decide,if_false]
 split<;>omega
section
variable{X:Cx}{f:Expr}
theorem zcG{j:List (Addr×Obj)}{σ:St}{H:Hp}{s:Shared}{R:It->Hp->Prop}{E:Value->Shared->Prop}{lo g:Int}{t u v:Tok}{w:Nat}(I:Inv X j σ H s)(C:-(2^62)<=lo)(D:lo<2^62)(G:-(2^62)<=g)(J:g<2^62)
  (q:R (Itd lo (lo-g).toNat) H):wpAny (model X.prog X.w) X.A (pyIter (.ref s.heap.objs.size)) (PIE X j σ f R) E { s with heap:=s.heap.push { cls:=.type "range",data:=.fields #[.int lo t,.int g u,.int (-1) v] },toks:=w }:=by
 refine wpAny_pyIter_range (IsRange.new ..) (VE C D G J) ?_
 have l:Inv X j σ H { s with heap:=s.heap.push { cls:=.type "range",data:=.fields #[.int lo t,.int g u,.int (-1) v] },toks:=w }:=I.kept fun b o e=>qd _ e
 refine⟨(s.heap.push { cls:=.type "range",data:=.fields #[.int lo t,.int g u,.int (-1) v] }).objs.size,[(s.heap.push { cls:=.type "range",data:=.fields #[.int lo t,.int g u,.int (-1) v] }).objs.size],_,_,H,rfl,
  l.kept (t':=w) fun b o e=>qd _ e,YS _ lo (lo-g).toNat,?_,fun b hb=>?_,q⟩
 ·have A:lo+((0:Nat):Int)*(-1)=lo:=by simp
  have B:(((lo-g).toNat:Nat):Int)-((0:Nat):Int)=Builtin.Range.rangeSize lo g (-1):=by rw[vB];split<;>omega
  show IsRangeIter _ _ (lo+((0:Nat):Int)*(-1)) ((((lo-g).toNat:Nat):Int)-((0:Nat):Int)) (-1);rw[A,B];exact qy _ rfl
 ·have e:b=(s.heap.push { cls:=.type "range",data:=.fields #[.int lo t,.int g u,.int (-1) v] }).objs.size:=by simpa using hb
  subst e;exact l.fpOk (zJ _) (l.hok.fresh (zJ _))
def zeY(l:TA):TI:=fun σ H R=>l σ H fun s g=>∃i j:Int,s=[.int i,.int j,.int (-1)]/\(-(2^62)<=i/\i<2^62/\ -(2^62)<=j/\j<2^62)/\R (Itd i (i-j).toNat) g
theorem QP{a b c:Expr}{C:TA}{p u:Pos}(E:Gl X "range")(hm:X.mg "range" = none)(ha:PA X [a,b,c] C)(G:starEach [a,b,c] X.env=[(false,eval a X.env),(false,eval b X.env),(false,eval c X.env)]:=by rfl)(g:starEach [b,c] X.env=[(false,eval b X.env),(false,eval c X.env)]:=by rfl) :
  PI X f (.Call (.Name "range" p) [a,b,c] [] u) (zeY C):=by
 intro l s σ H R I h;refine Call_ (xN I E hm boot_range (yY (thn (ha u l s σ H _ I h) fun us U ⟨vs,T,D,O,A⟩=>?_) (by rw[G,g]) (by rw[g];rfl)))
 obtain⟨i,j,e,⟨A,J,L,M⟩,q⟩:=A;subst e;cases O with
 | cons r w=>
  cases w with
  | cons N w=>
   cases w with
   | cons B w=>
    cases w;obtain⟨t,rfl⟩:=r;obtain⟨Y,rfl⟩:=N;obtain⟨Q,rfl⟩:=B;exact call_range_3 (by decide) (zcG D A J L M q) (Or.inl (Wf (by decide)))
end
theorem Vb{lo:Int}{n:Nat}{g:TG}{A:TS}{D:Qg}{σ:St}{H:Hp}(Pv:Nat->St->Hp->Prop)(B:Pv 0 σ H)
  (E:∀i σ H,i<n->Pv i σ H->g (.int (lo-i)) σ H fun u l=>A { D with nx:=Pv (i+1),ct:=Pv (i+1),bk:=D.nx } u l) (C:∀σ H,Pv n σ H->D.nx σ H) :
  ∃W:Nat->Nat->St->Hp->Prop,(∃m,W 0 m σ H)/\∀i m σ H,W i m σ H ->
   ((Itd lo n).stop i H/\D.nx σ H)\/((Itd lo n).go i H/\∃N:St->Hp->Prop,(∀s f,N s f->∃w,w<m/\W (i+1) w s f)/\∀x f,(Itd lo n).yld i H x f->g x σ f fun u l=>A { D with nx:=N,ct:=N,bk:=D.nx } u l):=by
 refine⟨fun i m σ H=>m=n-i/\i<=n/\Pv i σ H,⟨n,by simp,qQ _,B⟩,?_⟩
 rintro i m σ H ⟨rfl,I,p⟩;by_cases j:i<n
 ·refine .inr ⟨j,Pv (i+1),fun s f G=>⟨n-(i+1),by omega,rfl,j,G⟩,fun x f y=>?_⟩
  obtain⟨e,y⟩:=y;subst e y;exact E i σ _ j p
 ·have e:i=n:=by omega
  subst e;exact .inl ⟨zJ _,C σ H p⟩
section
variable{X:Cx}
end
def zb0(l s:TE):TE:=fun σ H Q=>∀p,H p=none->VC [(l,s)] σ (upd H p (.dT [])) fun j f=>∃(x y:V) (g:List Key) (b:Addr),j=[(x,y)]/\f p=some (.dT [])/\x=.ref b/\f b=some (.tup (g.map kV))/\Q (.ref p) (upd f p (.dT [(g,y)]))
theorem YZ{X:Cx}{f:Pos}{k v:Expr}{E G:TE}(hu:X.A.units+1<cLine)(hk:PE X k E)(hv:PE X v G):PE X (.Dict [some k] [v] f) (zb0 E G):=by
 intro g s σ H Q I q;have hn:=I.hok.fresh (zJ s.heap.objs.size);have J:=I.laid (a:=s.heap.objs.size) (o:=.dT []) (h':=s.heap.push { cls:=.type "dict",data:=.dict #[] }) (t':=s.toks) (fun _ _ q=>qd _ q) (zJ _) (ZM s.heap I.big)
 refine wpAny_Dict_any rfl rfl (by simp) (show 1<=15 by decide) (thn (zaY (pos:=f) hk hv zb8 g _ σ _ _ J (q _ hn)) fun ws s2 ⟨ps,H2,j,B,x,y,kk,b,w,e,N,C,q2⟩=>?_)
 subst w N;cases B with
 | @cons _ w0 _ _ h t=>
  cases t;obtain⟨u,r⟩:=w0;obtain⟨ru,rr⟩:=h;cases(show u=Value.ref b from ru)
  obtain⟨z,hd,xs,rx,L⟩:=zbw j.hok e;cases rx;unfold storeAll;rw[ZZ];have A:X.A.units<cLine:=Nat.lt_of_succ_lt hu;refine zj (zj (wpAny_dictSet_heap (hsz:=qQ _) (knd:=tupleKind (qS X.prog X.w)) A (wx j.hok C) L fun O l hs=>zB ?_))
  dsimp only;rw[J9];refine zB ⟨.ref s.heap.objs.size,_,?_,rfl,q2⟩
  obtain⟨q,M,w,hq,T,U,Y,_,h5⟩:=l;refine Zg j (by rw[e];exact True.intro) hs ⟨q,hq⟩ ⟨?_,hd,_,(KT.put (kvs:=[]) (xs:=[]) .nil kk C rr).keeps fun c ys D=>?_,q,M,w,hq,T,U,Y,h5⟩
  ·rw[sizeLine_eq];exact(by decide:1<=16777216)
  ·rw[zm (xW D e (fun z=>nomatch z))]
   exact D
section
variable{X:Cx}
inductive y3(K:W.Frag)(g:List V)(H:Hp)(Q:VK):Prop
 | mk (p:Addr) (f:List Int) (_:g=[.ref p]) (_:SqL K H p (f.map V.int)) (_:f≠[]) (_:∀m:Int,m∈f->(∀a∈f,m<=a)->Q (.int m) H):y3 K g H Q
theorem zaj(hc:X.calm=true):CallR X (.builtin "min") (y3 X.K):=by
 intro Y s σ H xs us Q I r h;obtain⟨p,g,rfl,hq,E,q⟩:=h;obtain⟨u,rfl,J⟩:=vy r;cases(show u=_ from J)
 obtain⟨f,rv,pl,_⟩:=I.list hq;have D:=pl.isList;have G:p≠s.heap.objs.size:=by
  obtain⟨o,e,_⟩:=D;exact z9 (zK e)
 have U:f.length=g.length:=by have:=rv.length;rw[zx] at this;omega
 have h0:0<g.length:=je.mpr E;have B:p<s.heap.objs.size:=by
  obtain⟨o,e,_⟩:=D;exact zK e
 refine call_min_walk (wpAny_pyIter_list D ?_)
 have l:∀i v,f.toArray[i]? =some v->∃t,v=Value.int (g.getD i 0) t:=by
  intro i v C;have L:f[i]? =some v:=by simpa using C
  have T:i<g.length:=by
   have N:=(zZ.mp L).1;omega
  have e2:(g.map V.int)[i]? =some (.int g[i]):=by simp[T]
  obtain⟨u',M,J⟩:=rv.get e2;rw[L] at M;cases M;obtain⟨t,rfl⟩:=J;exact⟨t,by simp[T]⟩
 refine⟨s.heap.objs.size,_,_,_,_,_,fun i j=>decide (g.getD i 0<g.getD j 0),rfl,Walks.list (prog:=X.prog) (w:=X.w) (A:=X.A.in1) (I.ok.hd hc) _ p G f.toArray,⟨⟨_,qy _ rfl,rfl,rfl⟩,D.push _⟩,?_,?_,CmpOf.ints_lt (fun i=>g.getD i 0) l,fun v h' tk C hk=>?_⟩
 ·intro b hb
  show b<(s.heap.push _).objs.size;rw[jt];rcases zW.mp hb with rfl | hb
  ·exact vq _
  ·rcases zW.mp hb with rfl | hb
   ·exact w4 B
   ·cases hb
 ·show 0<f.toArray.size
  rw[qF];omega
 ·obtain⟨t,rfl⟩:=l _ v C
  obtain⟨N,O⟩:=argBest_lt (fun i=>g.getD i 0) (f.toArray.size-1)
  rw[qF] at N O C;refine⟨.int _,H,I.kept (old_kept hk),⟨t,rfl⟩,q _ ?_ fun a ha=>?_⟩
  ·rw[qF]
   have hb:argBest (fun i j=>decide (g.getD i 0<g.getD j 0)) (f.length-1)<g.length:=by omega
   rw[Vs,yd hb];exact xZ _
  ·rw[qF]
   obtain⟨j,hj,rfl⟩:=List.getElem_of_mem ha;have:=O j (by omega)
   rw[show g.getD j 0=g[j] by simp[hj]] at this
   exact this
end
theorem Xm:∀{g:List V} {f:List Value},Vals g f->Vals g.reverse f.reverse
 | _,_,.nil=>.nil
 | _,_,.cons r t=>by
  rw[Xd,Xd];exact(Xm t).append (.cons r .nil)
section
variable{X:Cx}
variable{e st:Expr}{j:TE}{l:TO}{f g:Pos}
theorem zdF(O:PE X e j)(hk:PO X (some st) l):PE X (.Subscript e (.Slice none none (some st) g) f) (fun σ H Q=>j σ H fun x B=>l σ B fun k C=>∃a A,x=.ref a/\k=some (-1)/\SqL X.K C a A /\
  ∀p,C p=none->Q (.ref p) (upd C p (.lst A.reverse))):=by
 intro u s σ H Q I h;refine Subscript_ (thn (O u s σ H _ I h) fun v s1 ⟨x,B,M,r1,q1⟩=>?_)
 refine wpAny_Slice ?_
 rw[evalPart_none];refine zB (zB ?_)
 refine thn (hk u s1 σ B _ M q1) fun J w ⟨k,L,N,pk,q3⟩=>?_
 obtain⟨a,A,rfl,rfl,hx,q⟩:=q3;cases r1;have D:Inv X u σ L { w with heap:=w.heap.push { cls:=.type "slice",data:=.fields #[.none,.none,J] } }:=N.kept (t':=w.toks) fun b Y q=>qd _ q
 obtain⟨U,r,G,hz⟩:=D.list hx;have E:=r.length;show wpAny (model X.prog X.w) X.A (subscriptTail e (.Slice none none (some st) g) (.ref a) (.ref w.heap.objs.size)) (EP X u σ Q) X.xe { w with heap:=w.heap.push { cls:=.type "slice",data:=.fields #[.none,.none,J] } };refine tail_any (ops:=[.ref a,.ref w.heap.objs.size]) (T:= "list") G.isList.typeIs slot_list_getitem.lookup ?_ (by with_unfolding_all rfl)
 refine wpAny_getItem_list_slice (lo:=none) (hi:=none) (st:=some (-1)) G.isList (Heap.IsSliceOf.new ..) .none .none pk (by decide) ?_ (by rw[qF]<;>omega)
 rw[PySem.W.krv_pick];refine⟨.ref _,_,D.laid (t':=w.toks) (o:=.lst A.reverse) (fun b Y q=>qd _ q) (zJ _) ?_,rfl,q _ (D.hok.fresh (zJ _))⟩
 exact⟨by rw[List.length_reverse];omega,_,0,Xm r,qy _ rfl⟩
end
end L2
namespace PySem
def RawD(h:Heap)(d:Addr)(g:Array DictEntry)(f:Nat):Prop:=∃o,h.get? d=some o/\o.ExactDict/\o.data=.dict g f
theorem RawD.at{h j:Heap}{d:Addr}{g:Array DictEntry}{f:Nat}(x:RawD h d g f)(e:∀o,h.get? d=some o->j.get? d=some o):RawD j d g f:=let ⟨o,a,b⟩:=x;⟨o,e _ a,b⟩
section
variable{j:Program}{w:World}{A:Around}{E:Value->Shared->Prop}{s:Shared}{d g:Addr}{f:Array DictEntry}{l i:Nat}
theorem zaU{Q:Value->Shared->Prop}(D:(d==sysModules)=false)(hm:RawD s.heap d f l)
  (C:Q (.ref s.heap.objs.size) { s with heap:=s.heap.push { cls:=.type "dict_keyiterator",data:=.fields #[.ref d,.int 0 0,.int f.size 0,.int l 0] } }):wpAny (model j w) A (pyIter (.ref d)) Q E s:=by
 obtain⟨o,B,hc,u⟩:=hm;have ty:s.TypeIs (.ref d) "dict" :=⟨o,B,hc.1⟩;refine wpAny_pyIter_slot ty F.slot_dict_iter (wm F.slot_dict_iter ty F.entry_dict_iter ?go (F.args_dict_iter_1 _))
 unfold Builtin.«dict.__iter__» Builtin.Dict.dictSlotNone;refine zj (zj (wpAny_notOrdered_dict ty ?go2));refine(zB ?go3:wpAny _ _ (pure (Value.ref d)) _ _ s)
 refine(?go7:wpAny _ _ (Builtin.Dict.showsAll d >>= _) _ _ s);unfold Builtin.Dict.showsAll
 rw[zq (by rw[D];exact qx)];refine zj (zB ?go5)
 refine zj (wpAny_dictEntries B u (zj (wpAny_dictEpoch B u (zj (x5 (zB ⟨_,rfl, "dict_keyiterator",_,⟨_,qy _ rfl,rfl⟩,Vt.lookup,?go6⟩))))))
 simpa [rawInt] using C
theorem zaV{e:DictEntry}{Q:Option Value->Shared->Prop}(C:s.heap.IsKeyIter g d i f.size l)(hm:RawD s.heap d f l)(hx:f[i]? =some e)
  (M:∀H,H.IsKeyIter g d (i+1) f.size l->Heap.SameBut g s.heap H->Q (some e.key) { s with heap:=H }):wpAny (model j w) A (pyNext (.ref g)) Q E s:=by
 obtain⟨o,I,hc,G⟩:=id C;obtain⟨T,D,N,B⟩:=hm;have ty:=C.typeIs;obtain⟨O,L⟩:∃h:i<f.size,f[i]=e:=Array.getElem?_eq_some_iff.mp hx
 unfold pyNext;refine zj (yz (yc (name:=Str.ofString "__next__") ty Vt (wm Vt ty zbP ?a (zbQ _))))
 refine zj (zB ?a1);refine zj (zj ?a2)
 first| refine zj (wpAny_typeNameOfWhole_keyiter ty (zB ?a3)) | refine zj (wpAny_typeNameOf_keyiter ty (zB ?a3))
 refine zj (wpAny_fieldsOf I G ?a4)
 simp only[show Builtin.Dict_items.ownsTuple "dict_keyiterator" = false by decide,V8,if_false]
 refine(?a5:wpAny _ _ (if(Value.ref d==Value.none)=true then _ else _) _ _ s)
 rw[zq (show ¬((Value.ref d==Value.none)=true) from qx)];refine zj (zB (zj (wpAny_dictEntries D B ?a6)))
 rw[zq (by simp)];refine zj (zB (zj (wpAny_dictEpoch D B ?a7)))
 rw[zq (by simp)];refine zB ?a8
 simp only[show ¬((i:Int)<0) from by omega,if_false,Z3,Array.getElem?_eq_getElem O];refine zj ?a9
 first| refine zj (wpAny_typeNameOfWhole_keyiter ty (zB ?b1)) | refine zj (wpAny_typeNameOf_keyiter ty (zB ?b1))
 refine zj (wpAny_isOneOf_keyiter ty ?b2);refine(?b3:wpAny _ _ (setField (.ref g) 1 (rawInt ((i:Int)+1)) >>= _) _ _ s)
 have u:(s.heap.update g (Obj.mapFields (·.setIfInBounds 1 (rawInt ((i:Int)+1))))).IsKeyIter g d (i+1) f.size l:=
  ⟨_,We _ I (Obj.isFreed_of_fields (Xe G _)),(Obj.cls_mapFields ..).trans hc,(by rw[Xe G];simp[rawInt])⟩
 refine zj (wpAny_setField I G (by simp) (zj (wg (zj (wpAny_isOneOf_keyiter (s:={ s with heap:=s.heap.update g (Obj.mapFields (·.setIfInBounds 1 (rawInt ((i:Int)+1)))) }) u.typeIs ?b4)))))
 refine(?b5:wpAny _ _ (pure f[i].key) _ _ _)
 rw[L];exact zB (zB ⟨_,rfl,zB (M _ u (Xf ..))⟩)
theorem zb6{Q:Option Value->Shared->Prop}(M:A.handled=none)(B:s.heap.IsKeyIter g d i f.size l)(hm:RawD s.heap d f l)(hx:f.size<=i)
  (J:∀D,Heap.ExtBut g s.heap D->Q none { s with heap:=D }):wpAny (model j w) A (pyNext (.ref g)) Q E s:=by
 obtain⟨o,H,hc,G⟩:=id B;obtain⟨N,C,L,u⟩:=hm;have ty:=B.typeIs;unfold pyNext;refine zj (yz (yc (name:=Str.ofString "__next__") ty Vt (wm Vt ty zbP ?a (zbQ _))))
 refine zj (zB ?a1);refine zj (zj ?a2)
 first| refine zj (wpAny_typeNameOfWhole_keyiter ty (zB ?a3)) | refine zj (wpAny_typeNameOf_keyiter ty (zB ?a3))
 refine zj (wpAny_fieldsOf H G ?a4)
 simp only[show Builtin.Dict_items.ownsTuple "dict_keyiterator" = false by decide,V8,if_false]
 refine(?a5:wpAny _ _ (if(Value.ref d==Value.none)=true then _ else _) _ _ s)
 rw[zq (show ¬((Value.ref d==Value.none)=true) from qx)];refine zj (zB (zj (wpAny_dictEntries C u ?a6)))
 rw[zq (by simp)];refine zj (zB (zj (wpAny_dictEpoch C u ?a7)))
 rw[zq (by simp)];refine zB ?a8
 simp only[show ¬((i:Int)<0) from by omega,if_false,Z3,Array.getElem?_eq_none hx];refine zj ?a9
 first| refine zj (wpAny_typeNameOfWhole_keyiter ty (zB ?b1)) | refine zj (wpAny_typeNameOf_keyiter ty (zB ?b1))
 refine(?b3:wpAny _ _ (setField (.ref g) 0 .none >>= _) _ _ s);refine zj (wpAny_setField H G (by simp) ?b4)
 refine(?b5:wpAny _ _ (newExc (.type "StopIteration") [] >>= _) _ _ _);refine zj ?b6
 simp only[newExc,newTuple];refine zj (x5 ?b7 (by size_fits))
 refine zj (m:=firstArgMember _ _) (wpAny_of_eq (a:=Value.none) (by first| rfl | (simp only[firstArgMember];rfl)) (x5 ?b8 (by size_fits)))
 simp only[raiseNew];refine zj (wpAny_handled ?b9)
 rw[show A.in1.handled=none from M];refine zj (zB (wpAny_throw ?c1))
 exact zj (yE (T:= "StopIteration") (b:=true) ⟨_,qy _ rfl,rfl⟩ isSubtype_stop (zB (J _ (((Xf ..).extBut.push _).push _))))
end
end PySem
namespace L2
open PySem PySem.Spec PyProof.Rows
def Itk(d:Addr)(o:Obj)(f:List (List Key×V)):It:=
 ⟨fun i H=>H d=some (.frz o (.dT f))/\i<f.length,fun i H x g=>g=H/\∃b k v,f[i]? =some (k,v)/\x=.ref b/\H b=some (.tup (k.map kV)),fun i H=>H d=some (.frz o (.dT f))/\f.length<=i⟩
theorem zbr{H:Hp}:∀{f:List (List Key×V)} {g:List (List Key×Addr×Value)},KT H f g->∀{i:Nat} {k:List Key} {v:V},f[i]? =some (k,v)->∃b u,g[i]? =some (k,b,u)/\H b=some (.tup (k.map kV))
 | _,_,.nil,_,_,_,h=>by simp at h
 | _,_,.cons (a:=p) (b:=q) r t,0,k,v,h=>by
  rw[Wg] at h ⊢;cases h;obtain⟨s,b,u⟩:=q;obtain⟨j,l,w⟩:=r;cases j;exact⟨b,u,rfl,l⟩
 | _,_,.cons r t,i+1,k,v,h=>by
  rw[Xh] at h ⊢;exact zbr t h
theorem Ye{P:Program}{w:World}{H:Hp}{h:Heap}{d:Addr}{o:Obj}{f:List (List Key×V)}{g:Array DictEntry}{s:Nat}(ok:HOk P w H h)(e:H d=some (.frz o (.dT f)))(D:o.data=.dict g s):RawD h d g s/\g.size=f.length /\
  ∀(i:Nat) (k:List Key) (v:V),f[i]? =some (k,v)->∃(b:Addr) (l:DictEntry),g[i]? =some l/\l.key=Value.ref b/\H b=some (.tup (k.map kV)):=by
 obtain⟨j,z,y,O,r,N,G,E,A,J,B,C,M⟩:=(show ObjOk P w H h d (.frz o (.dT f)) from ok d _ e)
 rw[j] at A;cases A;rw[D] at B;cases B;have L:g.size=f.length:=by rw[<- yX,C,zx];exact(vn r).symm
 refine⟨⟨o,j,J,D⟩,L,fun i k v hk=>?_⟩
 obtain⟨b,u,I,hb⟩:=zbr r hk;refine⟨b,entryOfKey (tupleKind (qS P w)) (k,b,u),?_,rfl,hb⟩
 rw[<- Array.getElem?_toList,C,zX,I];rfl
theorem YT{P:Program}{w:World}{K:W.Frag}{tg:Expr}(d g:Addr)(o:Obj)(j:List (List Key×V))(Y:Array DictEntry)(U:Nat)(he:o.data=.dict Y U):vY P w K tg (Itk d o j) [g] g (fun i h=>h.IsKeyIter g d i Y.size U) where
 mem:=by simp
 obj:=fun i h st b hb=>by
  have e:b=g:=by simpa using hb
  subst e;obtain⟨o,e,c,d⟩:=st;exact⟨o,e,fun v z=>by rw[d] at z;cases z⟩
 keep:=fun i h u st k=>st.at fun o e=>k g (by simp) o e
 item:=by
  intro X L Q J hc i f s σ H E I hf st O;subst L Q J;obtain⟨M,hi⟩:=O;obtain⟨T,sz,all⟩:=Ye I.hok M he;obtain⟨⟨k,v⟩,hx⟩:∃p,j[i]? =some p:=⟨j[i],by simp[hi]⟩
  obtain⟨b,en,N,ek,hb⟩:=all i k v hx;obtain⟨A,B,f2,C,D,G⟩:=hf g (by simp)
  refine zaV st T N fun u l sb=>?_
  have I1:Inv X f σ H { s with heap:=u }:=I.turned (t':=s.toks) (fun b o hb e=>(sb.2 b hb).trans e) A B C D G
  obtain⟨o',e',c',d'⟩:=id l;exact⟨_,rfl,X9 (s:={ s with heap:=u }) e' c' d' (by decide) ⟨.ref b,H,I1,ek,⟨rfl,b,k,v,hx,rfl,hb⟩,l,fun b hb=>(hf b hb).1⟩⟩
 done:=by
  intro X L Q J hc i f s σ H E I hf st O;subst L Q J;obtain⟨M,hi⟩:=O;obtain⟨T,sz,_⟩:=Ye I.hok M he;obtain⟨A,B,f2,C,D,G⟩:=hf g (by simp)
  exact zb6 (I.ok.hd hc) st T (by omega) fun u eb=>⟨rfl,I.turned (t':=s.toks) (fun b o hb e=>eb b o hb e) A B C D G⟩
 self:=fun _ _ _ _ _ st h=>wpAny_pyIter_keyiter st h
section
variable{X:Cx}{f:Expr}
def ze1(l:TE):TI:=fun σ H R=>l σ H fun x j=>∃d g,x=.ref d/\j d=some (.dT g)/\∀o,R (Itk d o g) (upd j d (.frz o (.dT g)))
theorem zca{l:Expr}{N:TE}(T:PE X l N):PI X f l (ze1 N):=by
 intro j s σ H R I h;refine thn (T j s σ H _ I h) fun v w ⟨x,J,A,Y,U⟩=>?_
 obtain⟨d,g,e,D,q⟩:=U;subst e;cases Y;obtain⟨z,y,xs,r,o,B,E,C,L,G,M,Q⟩:=(show ObjOk X.prog X.w J w.heap d (.dT g) from A.hok d _ D)
 have hs:B.size=g.length:=by rw[<- yX,M,zx];exact(vn r).symm
 refine zaU y ⟨o,C,L,G⟩ ?_
 have O:Inv X j σ (upd J d (.frz o (.dT g))) { w with heap:=w.heap.push { cls:=.type "dict_keyiterator",data:=.fields #[.ref d,.int 0 0,.int B.size 0,.int E 0] },toks:=w.toks }:=by
  refine A.write (x:=d) (e:=d) (by rw[D];exact True.intro) (.inl rfl) (fun b u _ e=>qd _ e) ⟨o,qd _ C⟩ ?_
  refine⟨qd _ C,z,y,xs,uk r fun p q z=>⟨z.1,?_,z.2.2⟩,o,B,E,qd _ C,L,G,M,Q⟩
  rw[zm (xW z.2.1 D (fun z=>nomatch z))]
  exact z.2.1
 refine⟨w.heap.objs.size,[w.heap.objs.size],_,_,_,rfl,O,YT d _ o g B E G,⟨_,qy _ rfl,rfl,rfl⟩,fun b hb=>?_,q o⟩
 have e:b=w.heap.objs.size:=by simpa using hb
 subst e;refine A.fpOk (zJ _) ?_
 rw[zm (qB (zi D (A.hok.fresh (zJ _))))];exact A.hok.fresh (zJ _)
end
theorem zbq{d:Addr}{o:Obj}{kvs:List (List Key×V)}{g:TG}{L:TT}{M:TI}{E:TG}{w:TT}{J:TE}{A:St}{n:Nat}{R:List V->Hp->Prop}{H:Hp}(Pv:Nat->List V->Hp->Prop)(O:Pv 0 [] H)
  (G:∀i f H,Pv i f H->H d=some (.frz o (.dT kvs)))
  (T:∀i b k v f H,kvs[i]? =some (k,v)->H b=some (.tup (k.map kV))->Pv i f H->g (.ref b) A H fun l D=>l.drop n=A.drop n/\L l D fun b s=>
   if b=true then tIn M E w J f (Pv (i+1)) l s else Pv (i+1) f s)
  (Q:∀f H,Pv kvs.length f H->f.length<=sizeLine/\R f H) :
  ∃W:Nat->Nat->List V->Hp->Prop,(∃m,W 0 m [] H)/\∀i m f j,W i m f j ->
   ((Itk d o kvs).stop i j/\f.length<=sizeLine/\R f j) \/
   ((Itk d o kvs).go i j/\∃N:List V->Hp->Prop,(∀f B,N f B->∃I,I<m/\W (i+1) I f B)/\∀x C,(Itk d o kvs).yld i j x C->g x A C fun l D=>l.drop n=A.drop n/\L l D fun b s=>
    if b=true then tIn M E w J f N l s else N f s):=by
 refine⟨fun i m f j=>m=kvs.length-i/\i<=kvs.length/\Pv i f j,⟨_,rfl,qQ _,O⟩,?_⟩
 rintro i m f j ⟨rfl,hi,p⟩;by_cases u:i<kvs.length
 ·refine .inr ⟨⟨G i f j p,u⟩,Pv (i+1),fun a0 B U=>⟨_,by omega,rfl,u,U⟩,fun x C y=>?_⟩
  obtain⟨e,b,k,v,hk,rfl,hb⟩:=y;subst e;exact T i b k v f _ hk hb p
 ·have e:i=kvs.length:=by omega
  subst e;obtain⟨Y,z2⟩:=Q f j p;exact .inl ⟨⟨G _ f j p,zJ _⟩,Y,z2⟩
section
variable{g:Program}{w:World}{A:Around}{R:Result->Shared->Prop}{s:Shared}
abbrev dc2(D G C f:Expr)(j:List Expr)(E l:Expr)(u:List Expr)(scope:Scope)(B:Pos):Expr:=.DictComp D G [⟨C,f,j,0⟩,⟨E,l,u,0⟩] scope B
theorem zbA(I G E l:Expr)(u:List Expr)(J j:Expr)(B:List Expr)(scope:Scope)(C:Pos)(H:Value)(D:Addr)(f:Env) :
  compTurn (dc2 I G E l u J j B scope C) 1 H (.ref D) f=(do
   standAt j.pos
   match<-pyNext H with
   | none=>pure (.done .next)
   | some v=>
    letOwnedTupleGo J H v
    assign J f v
    let ok<-jA B f
    if ok then(do let L<-eval I f;let M<-holding [L] (eval G f);standAt { I.pos with endLine:=G.pos.endLine,endCol:=G.pos.endCol };holding [L,M] (dictSet D L M))
    again (.compLoop (dc2 I G E l u J j B scope C) 1 H (.ref D) f)):=by rfl
theorem zad(H J B j:Expr)(u:List Expr)(I f:Expr)(D:List Expr)(scope:Scope)(E:Pos)(G C:Value)(l:Env) :
  compTurn (dc2 H J B j u I f D scope E) 0 G C l=(do
   standAt j.pos
   match<-pyNext G with
   | none=>pure (.done .next)
   | some v=>
    letOwnedTupleGo B G v
    assign B l v
    let ok<-jA u l
    if ok=true then do
     let x<-eval f l
     standAt f.pos
     let x<-foldedSetIterable f l x
     let L<-holding [x] (pyIter x)
     let _<-runOwn (.compStart (dc2 H J B j u I f D scope E) 1 L C l) l
     again (.compLoop (dc2 H J B j u I f D scope E) 0 G C l)
    else again (.compLoop (dc2 H J B j u I f D scope E) 0 G C l)):=by rfl
theorem zae{H L E f l J j C scope D G B u}
  (N:codeAny (model g w) A (.compLoop (dc2 H L E f l J j C scope D) 1 G B u) R s)
  (h:wpAny (model g w) A (pyIter G) (fun M I=>codeAny (model g w) A (.compLoop (dc2 H L E f l J j C scope D) 1 M B u) R I)
   (notedBy (model g w) A u fun x I=>R (.error x) I) s) :
  codeAny (model g w) A (.compStart (dc2 H L E f l J j C scope D) 1 G B u) R s:=by
 refine codeAny_of_tree ?_;show wpAny _ _ ((compStart (dc2 H L E f l J j C scope D) 1 G B u).onRaise (fun x=>do noteFrame x u;standAt theWindowsPlace)) _ _ s
 refine wpAny_notedAt ?_;unfold compStart;show wpAny _ _ (ask >>= _) _ _ s
 refine zj (wpAny_askSetting (wpAny_ite ?_));split
 ·first| exact zj (zB (zB (And.intro rfl N))) | exact zB (And.intro rfl N)
 ·refine zj (wC ?_);show wpAny _ _ (standAt j.pos >>= _) _ _ s
  exact zj (xi (zj (zP h (fun i I q=>zB ⟨rfl,q⟩) fun _ _ q=>q)))
theorem zcI{O vx I j:Expr}{l:List Expr}{tg B:Expr}{C:List Expr}{scope:Scope}{H:Pos}{M:Value}{D:Addr}{f:Env}(J:Nat->Shared->Prop)
  (L:∀n s,J n s->wpAny (model g w) A (pyNext M) (fun r s1=>match r with
   | none=>R (.ok .next) s1
   | some v=>wpAny (model g w) A (letOwnedTupleGo tg M v) (fun _ s2=>wpAny (model g w) A (assign tg f v) (fun _ s3=>
     wpAny (model g w) A (jA C f) (fun ok T=>
      if ok=true then wpAny (model g w) A (eval O f) (fun N U=>wpAny (model g w) A (eval vx f) (fun vv Y=>
       wpAny (model g w) A (dictSet D N vv) (fun _ s7=>∃m,m<n/\J m s7) (fun _ _=>False) Y) (fun _ _=>False) U) (fun _ _=>False) T
      else ∃m,m<n/\J m T) (fun _ _=>False) s3) (fun _ _=>False) s2) (fun _ _=>False) s1) (fun _ _=>False) s)
  (n:Nat) (h:J n s):codeAny (model g w) A (.compLoop (dc2 O vx I j l tg B C scope H) 1 M (.ref D) f) R s:=by
 have G:∀{α:Type} {t:Sem α} {Q:α->Shared->Prop} {E:Value->Shared->Prop} {s:Shared},wpAny (model g w) A t Q (fun _ _=>False) s->wpAny (model g w) A t Q E s:=fun x=>zP x (fun _ _ q=>q) fun _ _ q=>q.elim
 refine codeAny_loop rfl J (fun k u hJ=>?_) n h
 show wpAny _ A ((compTurn (dc2 O vx I j l tg B C scope H) 1 M (.ref D) f).onRaise (fun x=>do noteFrame x f;theTreesLotGoes x)) _ _ u
 refine wpAny_noted ?_
 rw[zbA];refine zj (xi (zj (G (zP (L k u hJ) (fun r s1 h1=>?_) fun _ _ q=>q))))
 cases r with
 | none=>exact zB h1
 | some v=>
  refine zj (G (zP h1 (fun _ s2 h2=>zj (G (zP h2 (fun _ s3 h3=>zj (G (zP h3 (fun ok T h4=>?_) fun _ _ q=>q))) fun _ _ q=>q))) fun _ _ q=>q))
  cases ok with
  | false=>exact zB ⟨rfl,h4⟩
  | true=>
   have a0:wpAny (model g w) A (eval O f) (fun N U=>wpAny (model g w) A (eval vx f) (fun vv Y=>wpAny (model g w) A (dictSet D N vv) (fun _ s7=>∃m,m<k/\J m s7) (fun _ _=>False) Y) (fun _ _=>False) U) (fun _ _=>False) T:=h4
   exact zj (zj (G (zP a0 (fun N U h5=>zj (wg (G (zP h5 (fun vv Y h6=>zj (xi (wg (G (zP h6 (fun _ s7 h7=>zB ⟨rfl,h7⟩) fun _ _ q=>q))))) fun _ _ q=>q)))) fun _ _ q=>q)))
theorem zbz{T vx D B:Expr}{C:List Expr}{tg j:Expr}{H:List Expr}{scope:Scope}{I:Pos}{O G:Value}{l:Env}(hs:∀x,foldedSetIterable j l x=pure x)(J:Nat->Shared->Prop)
  (M:∀n s,J n s->wpAny (model g w) A (pyNext O) (fun r s1=>match r with
   | none=>R (.ok .next) s1
   | some v=>wpAny (model g w) A (letOwnedTupleGo D O v) (fun _ s2=>wpAny (model g w) A (assign D l v) (fun _ s3=>
     wpAny (model g w) A (jA C l) (fun ok U=>
      if ok=true then wpAny (model g w) A (eval j l) (fun x Y=>
       wpAny (model g w) A (pyIter x) (fun N s6=>codeAny (model g w) A (.compStart (dc2 T vx D B C tg j H scope I) 1 N G l) (fun r s7=>match r with | .ok _=>∃m,m<n/\J m s7 | .error _=>False) s6) (fun _ _=>False) Y) (fun _ _=>False) U
      else ∃m,m<n/\J m U) (fun _ _=>False) s3) (fun _ _=>False) s2) (fun _ _=>False) s1) (fun _ _=>False) s)
  (n:Nat) (h:J n s):codeAny (model g w) A (.compLoop (dc2 T vx D B C tg j H scope I) 0 O G l) R s:=by
 have L:∀{α:Type} {t:Sem α} {Q:α->Shared->Prop} {E:Value->Shared->Prop} {s:Shared},wpAny (model g w) A t Q (fun _ _=>False) s->wpAny (model g w) A t Q E s:=fun x=>zP x (fun _ _ q=>q) fun _ _ q=>q.elim
 refine codeAny_loop rfl J (fun k u hJ=>?_) n h
 show wpAny _ A ((compTurn (dc2 T vx D B C tg j H scope I) 0 O G l).onRaise (fun x=>do noteFrame x l;theTreesLotGoes x)) _ _ u
 refine wpAny_noted ?_
 rw[zad];refine zj (xi (zj (L (zP (M k u hJ) (fun r s1 h1=>?_) fun _ _ q=>q))))
 cases r with
 | none=>exact zB h1
 | some v=>
  refine zj (L (zP h1 (fun _ s2 h2=>zj (L (zP h2 (fun _ s3 h3=>zj (L (zP h3 (fun ok U h4=>?_) fun _ _ q=>q))) fun _ _ q=>q))) fun _ _ q=>q))
  cases ok with
  | false=>exact zB ⟨rfl,h4⟩
  | true=>
   have a0:wpAny (model g w) A (eval j l) (fun x Y=>
       wpAny (model g w) A (pyIter x) (fun N s6=>codeAny (model g w) A (.compStart (dc2 T vx D B C tg j H scope I) 1 N G l) (fun r s7=>match r with | .ok _=>∃m,m<k/\J m s7 | .error _=>False) s6) (fun _ _=>False) Y) (fun _ _=>False) U:=h4
   refine zj (L (zP a0 (fun x Y h5=>zj (xi (zj (wpAny_of_eq (hs x) (zj (wg (L (zP h5 (fun N s6 h6=>?_) fun _ _ q=>q)))))))) fun _ _ q=>q))
   refine zj (wpAny_runOwn (h:=none) ?_)
   rw[Around.mark_none];refine codeAny_mono h6 fun r s7 h7=>?_
   cases r with
   | ok f=>exact zB ⟨rfl,h7⟩
   | error e=>exact h7.elim
end
def DPutT(H:Hp)(D:Addr)(y v:V)(g:Hp):Prop:=∃f k b,H D=some (.dT f)/\y=.ref b/\H b=some (.tup (k.map kV))/\f.length<sizeLine/\g=upd H D (.dT (jy f k v))
theorem DPutT.t{H:Hp}{a b:Addr}{f:List (List Key×V)}{k:List Key}{v:V}(e:H a=some (.dT f))(g:H b=some (.tup (k.map kV)))(j:f.length<sizeLine):DPutT H a (.ref b) v (upd H a (.dT (jy f k v))):=⟨f,k,b,e,rfl,g,j,rfl⟩
theorem Vf{X:Cx}{f:List (Addr×Obj)}{σ:St}{H C:Hp}{s:Shared}{a:Addr}{y v:V}{u r:Value}{A:Around}{E:Value->Shared->Prop}{Q:Unit->Shared->Prop}(hu:A.units<cLine)(I:Inv X f σ H s)(g:DPutT H a y v C)(ry:RelV y u)(rv:RelV v r)(h:∀J,Inv X f σ C J->Q () J) :
  wpAny (model X.prog X.w) A (dictSet a u r) Q E s:=by
 obtain⟨j,k,b,e,T,D,l,M⟩:=g;subst T M;cases(show u=Value.ref b from ry)
 obtain⟨z,hd,xs,w,L⟩:=zbw I.hok e;refine wpAny_dictSet_heap (hsz:=by rw[<- vn w];exact z) (knd:=tupleKind (qS X.prog X.w)) hu (wx I.hok D) L fun h' B hs=>h _ ?_
 have hl:(jy j k v).length<=sizeLine:=by have:=j8 j k v;omega
 obtain⟨q,O,N,hq,U,Y,h4,_,h5⟩:=B;refine Zg I (by rw[e];exact True.intro) hs ⟨q,hq⟩ ⟨hl,hd,_,(KT.put w k D rv).keeps fun c ys G=>?_,q,O,N,hq,U,Y,h4,h5⟩
 rw[zm (xW G e (fun z=>nomatch z))]
 exact G
def tDN(T:TI)(g:TG)(M:TT)(O Q:TE)(D:Addr)(N:Hp->Prop):St->Hp->Prop:=fun B H=>T B H fun J I=>
 ∃W:Nat->Nat->Hp->Prop,(∃m,W 0 m I)/\∀i m l,W i m l ->
  (J.stop i l/\N l) \/
  (J.go i l/\∃A:Hp->Prop,(∀C,A C->∃G,G<m/\W (i+1) G C)/\∀x E,J.yld i l x E->g x B E fun s L=>Sub B s/\M s L fun b f=>
   if b=true then O s f fun y u=>Q s u fun v w=>∃j,DPutT w D y v j/\A j else A f)
def zet(l:TI)(n:Nat)(C:List Nat)(I:TG)(j:TT)(T:TI)(g:TG)(L:TT)(M O:TE):TE:=fun σ H Q=>l σ H fun J w=>∀D,w D=none ->
 ∃W:Nat->Nat->Hp->Prop,(∃m,W 0 m (upd w D (.dT [])))/\∀i m f,W i m f ->
  (J.stop i f/\Q (.ref D) f) \/
  (J.go i f/\∃N:Hp->Prop,(∀u,N u->∃E,E<m/\W (i+1) E u)/\∀x A,J.yld i f x A->I x (upS n C σ) A fun s G=>s.drop n=(upS n C σ).drop n/\j s G fun b B=>
   if b=true then tDN T g L M O D N s B else N B)
section
variable{X:Cx}{U vx G f:Expr}{A:List Expr}{Y w:Expr}{E:List Expr}{scope:Scope}{L:Pos}{wi O:TI}{g g1:TG}{tf M:TT}{tk tv:TE}
theorem VW{J:List (Addr×Obj)}{σ:St}{H:Hp}{s:Shared}{fp:List Addr}(own fr:List Str)(js:List Nat)(I:Inv X J σ H s)(B:zbV scope.names X.env.scope.names X.N fr js)(hk:scope.kind=.function)
  (f2:∀b∈fp,jf X J H b) (fl:∀b∈fp,b<s.heap.objs.size) {C:Addr} (hC:C=s.heap.objs.size) {h1:Heap} {m:Str->Option Value} (aa:h1.Ns C m) (k4:∀b o,s.heap.get? b=some o->h1.get? b=some o) {t4:Nat} :
  Inv (zt X (own++fr) scope C s H fp) [] (upS own.length js σ) H { s with heap:=h1,toks:=t4 }:=by
 have D:∀y∈scope.names,y.2=NameKind.free->∃c,X.env.cells.lookup y.1=some c:=fun y hy e=>I.ok.has y.1 (B.free y hy e)
 refine⟨⟨I.ok.mod,hk,I.ok.glob,I.ok.blt,vO hC.symm,fun x y c e1 e2=>?_,fun x hx=>?_,fun x c hf=>(nomatch hf),fun hc=>I.ok.hd hc,I.ok.frames,.inl rfl,fun b hb=>?_,I.bs,jm I.ok.bsz I.sz,fun b o e hb=>?_,fun b hb hf=>?_,I.stack,I.stkFree⟩,
  rfl,I.bare,Un.kept k4,⟨m,aa,fun i x v e1 e2 ab=>?_⟩,fun x c e=>?_,?_,fun x c e=>?_,fun p hp=>absurd (show p∈([]:List (Addr×Obj)) from hp) (by simp),I.hok.kept k4,?_⟩
 ·exact I.ok.inj x y c (zO e1 D) (zO e2 D)
 ·obtain⟨k,e,z⟩:∃k,scope.names.lookup x=some k/\(k=.free):=by
   rcases hx with hx | hx
   ·obtain⟨k,e,z⟩:=xw hx
    rcases z with z | z
    ·subst z;exact absurd rfl (B.cell _ (vt e))
    ·exact⟨k,e,z.1⟩
   ·obtain⟨k,e,z⟩:=xw hx
    rcases z with z | z
    ·subst z;exact⟨_,e,rfl⟩
    ·exact⟨k,e,z.1⟩
  subst z;exact⟨_,xq e⟩
 ·refine⟨by rw[hC];exact z9 (fl b hb),fun x c e=>?_⟩
  exact(f2 b hb).2.2.2.2.1 x c (zO e D)
 ·rcases(f2 b hb).2.2.2.1 with z | z
  ·exact I.ok.noex b o e z
  ·exact absurd (ju (zK (I.ok.bs b o e).1) z) (xE _)
 ·rcases zW.mp (I.stkSub b hf) with y | y
  ·exact(f2 b hb).2.1 y
  ·exact(f2 b hb).2.2.1 y
 ·obtain⟨hn,_,j,ej,es⟩:=xQ e2
  have ex:fr[i-own.length]? =some x:=by rw[wp hn] at e1;exact e1
  obtain⟨N,j',Q,eN⟩:=B.fr _ x ex;have:j'=j:=by rw[ej] at Q;exact(qW Q).symm
  subst this;have T:=B.free _ (vt N) rfl;obtain⟨m0,_,hl⟩:=I.loc;obtain⟨u,r,l⟩:=hl j' x v eN es (by rcases T with z | z;exact .inr (.inl z);exact .inr (.inr z))
  refine⟨u,r,.inr ?_⟩
  rcases l with ⟨kl,_⟩ | ⟨_,c,ec,o,eo,ed⟩
  ·have a0:X.env.scope.names.lookup x=some .local:=kl
   rcases T with z | z
   ·exact absurd (z.symm.trans a0) (by decide)
   ·exact absurd (z.symm.trans a0) (by decide)
  ·obtain⟨k',e',z⟩:=va (env:=X.env) N
   have eq:(z6 X.env.cells scope.names []).lookup x=some c:=by rw[xq N,ec];rfl
   refine⟨?_,c,eq,o,k4 c o eo,ed⟩
   rcases z with z | z
   ·subst z;exact .inl e'
   ·subst z;exact .inr e'
 ·obtain⟨v,o,eo,ed⟩:=I.cell x c (zO e D)
  exact⟨v,o,k4 c o eo,ed⟩
 ·exact I.hok.fresh (vO hC.symm)
 ·exact I.freeC x c (zO e D)
 ·rw[Jq,<- B.len]
  show _=(own++fr).length;rw[qG]
theorem zbs{B:List Str}{C D:Addr}{sx:Shared}{s:Hp}{H:List Addr}{j:List (Addr×Obj)}{σ4:St}{H0:Hp}{s0:Shared}{it:Addr}{fp:List Addr}{tn:Nat->Heap->Prop}{J:It}{R:Result->Shared->Prop}{N:Hp->Prop}{m0:Nat}{W:Nat->Nat->Hp->Prop}
  (hu:X.A.units<cLine) (hc:X.calm=true) (hg:PG (zt X B scope C sx s H) Y g) (hf:PF (zt X B scope C sx s H) E tf) (hk:PE (zt X B scope C sx s H) U tk) (hv:PE (zt X B scope C sx s H) vx tv)
  (T:vY X.prog X.w X.K Y J fp it tn) (f2:∀b∈fp,∀l:Hp,l b=none->jf (zt X B scope C sx s H) j l b)
  (I:Inv (zt X B scope C sx s H) j σ4 H0 s0) (st:tn 0 s0.heap) (fr:∀b∈fp,H0 b=none) (w0:W 0 m0 H0)
  (ao:∀i m H7,W i m H7 ->
   (J.stop i H7/\N H7) \/
   (J.go i H7/\∃N2:Hp->Prop,(∀l,N2 l->∃m',m'<m/\W (i+1) m' l)/\∀x H8,J.yld i H7 x H8->g x σ4 H8 fun σ9 H9=>Sub σ4 σ9/\tf σ9 H9 fun b aa=>
    if b=true then tk σ9 aa fun y ab=>tv σ9 ab fun v ae=>∃a0,DPutT ae D y v a0/\N2 a0 else N2 aa))
  (as:∀(l:Hp) (Q:Shared),Inv (zt X B scope C sx s H) j σ4 l Q->N l->R (.ok .next) Q) :
  codeAny (model X.prog X.w) X.A (.compLoop (dc2 U vx G f A Y w E scope L) 1 (.ref it) (.ref D) (compEnvC scope (z6 X.env.cells scope.names []) C X.env)) R s0:=by
 refine zcI (fun n Q=>∃i l,Inv (zt X B scope C sx s H) j σ4 l Q/\tn i Q.heap/\(∀b∈fp,l b=none)/\W i n l) ?_ m0 ⟨0,H0,I,st,fr,w0⟩
 rintro n s5 ⟨i,H5,I5,an,aj,w5⟩;have ag:∀{l:Hp},(∀b∈fp,l b=none)->∀b∈fp,jf (zt X B scope C sx s H) j l b:=fun hn b hb=>f2 b hb _ (hn b hb)
 rcases ao i n H5 w5 with ⟨stop,q⟩ | ⟨go,N2,hN,step⟩
 ·refine thn (T.done (zt X B scope C sx s H) rfl rfl rfl hc i _ s5 _ H5 _ I5 (ag aj) an stop) fun r s6 ⟨hr,I6⟩=>?_
  subst hr;exact as H5 s6 I6 q
 ·refine thn (T.item (zt X B scope C sx s H) rfl rfl rfl hc i _ s5 _ H5 _ I5 (ag aj) an go) fun r s6 ⟨u,hr,h6⟩=>?_
  subst hr;refine thn h6 fun _ s7 ⟨x,H7,I7,r7,y7,ai,au⟩=>?_
  have ar:=I7.pinned (ag au) (T.obj _ _ ai);refine thn (hg _ s7 _ H7 x u _ ar r7 (step x H7 y7)) fun _ s8 ⟨σ8,H8,I8,al,q8⟩=>?_
  refine thn (hf _ s8 σ8 H8 _ I8 q8) fun ok s9 ⟨H9,I9,q9⟩=>?_
  have ac:∀{l:Hp} {Q:Shared},Inv (zt X B scope C sx s H) (j++zR fp s7.heap) σ8 l Q->Inv (zt X B scope C sx s H) j σ4 l Q:=fun {l Q} J=>(J.unpinned).weak al.len fun k v e=>al.get e
  have mF:∀b∈fp,∀o,s7.heap.get? b=some o->(b,o)∈j++zR fp s7.heap:=fun b hb o e=>qi _ (qD hb e)
  have ak:∀{l:Hp} {Q:Shared},Inv (zt X B scope C sx s H) (j++zR fp s7.heap) σ8 l Q->∀b∈fp,l b=none:=fun {l Q} J b hb=>by
   obtain⟨o,e,_⟩:=T.obj _ _ ai b hb;exact(J.pin (b,o) (qi _ (mF b hb o e))).2.1
  have am:∀{l:Hp} {Q:Shared},Inv (zt X B scope C sx s H) (j++zR fp s7.heap) σ8 l Q->tn (i+1) Q.heap:=fun {l Q} J=>T.keep _ _ _ ai fun b hb o e=>(J.pin (b,o) (qi _ (mF b hb o e))).1
  cases ok with
  | false=>
   have ah:N2 H9:=by simpa using q9
   obtain⟨m',hm,w'⟩:=hN _ ah;exact⟨m',hm,i+1,H9,ac I9,am I9,ak I9,w'⟩
  | true=>
   have ah:tk σ8 H9 fun y ab=>tv σ8 ab fun v ae=>∃a0,DPutT ae D y v a0/\N2 a0:=by simpa using q9
   refine thn (hk _ s9 σ8 H9 _ I9 ah) fun kv ay ⟨y,aa,ap,aw,av⟩=>?_
   refine thn (hv _ ay σ8 aa _ ap av) fun vv b0 ⟨v,ab,aq,ax,a0,dp,az⟩=>?_
   refine Vf (X:=zt X B scope C sx s H) hu aq dp aw ax fun ba af=>?_
   obtain⟨m',hm,w'⟩:=hN _ az;exact⟨m',hm,i+1,a0,ac af,am af,ak af,w'⟩
theorem zdK(own fr:List Str)(js:List Nat)(hu:X.A.units<cLine)(hc:X.calm=true)(hk:scope.kind=.function)(hb:wf scope.names X.env.scope.names X.N fr js=true)(hi:PI X G f O)
  (hg:∀C s H ex,PG (zt X (own++fr) scope C s H ex) G g1) (hf:∀C s H ex,PF (zt X (own++fr) scope C s H ex) A M)
  (be:∀C s H ex,PI (zt X (own++fr) scope C s H ex) Y w wi) (bd:∀C s H ex,PG (zt X (own++fr) scope C s H ex) Y g) (bc:∀C s H ex,PF (zt X (own++fr) scope C s H ex) E tf) (bf:∀C s H ex,PE (zt X (own++fr) scope C s H ex) U tk) (bm:∀C s H ex,PE (zt X (own++fr) scope C s H ex) vx tv)
  (hs:∀x,foldedSetIterable f X.env x=pure x:=by intro _;rfl) (bi:∀C x,foldedSetIterable w (compEnvC scope (z6 X.env.cells scope.names []) C X.env) x=pure x:=by intro _ _;rfl):PE X (dc2 U vx G f A Y w E scope L) (zet O own.length js g1 M wi g tf tk tv):=by
 intro ab s σ H Q I h;have B:=Vp hb;have ac:∀y∈scope.names,y.2=NameKind.free->∃c,X.env.cells.lookup y.1=some c:=fun y hy e=>I.ok.has y.1 (B.free y hy e)
 rw[arm_eval_DictComp];refine wpAny_comprehension_free (use:=none) rfl hs (JP ac) hk (fun y hy e=>B.loc y hy e) (thn (hi ab s σ H _ I h) fun v s1 h1=>thn h1 fun bp j h2=>?_)
 obtain⟨it,fp,tn,J,H2,e,I2,T,ak,f2,hD⟩:=h2;subst e;have fl:∀b∈fp,b<j.heap.objs.size:=fun b hb=>let ⟨o,e,_⟩:=T.obj _ _ ak b hb;zK e
 refine x5 (wpAny_newFunctionEnv B.cell (by intro y hy;simp at hy) (fun h1 ah ai=>?_) hk)
 dsimp only at ah ai ⊢;have bg:=I2.hok.fresh (zJ j.heap.objs.size);obtain⟨W,⟨m0,w0⟩,as⟩:=hD _ bg;have I3:=I2.laid (a:=j.heap.objs.size) (o:=.dT []) (h':=j.heap.push { cls:=.type "dict",data:=.dict #[] }) (t':=j.toks) (fun _ _ q=>qd _ q) (zJ _) (ZM j.heap I2.big)
 generalize e3:j.heap.push { cls:=.type "dict",dict:=none,data:=.dict #[] }=h3 at ah ai I3 ⊢;have k3:∀b o,j.heap.get? b=some o->h3.get? b=some o:=fun b o e=>by rw[<- e3];exact qd _ e
 have k4:∀b o,h3.get? b=some o->h1.get? b=some o:=fun b o e=>ai.extBut b o (z9 (zK e)) (qd _ e)
 have hz:h3.objs.size=j.heap.objs.size+1:=by rw[<- e3,jt]
 generalize eD:j.heap.objs.size=D at *
 have fD:∀b∈fp,b≠D:=fun b hb=>z9 (fl b hb)
 have f3:∀b∈fp,jf X ab (upd H2 D (.dT [])) b:=fun b hb=>by
  obtain⟨a1,a2⟩:=f2 b hb;exact⟨by rw[zm (fD b hb)];exact a1,a2⟩
 have I4:Inv (zt X (own++fr) scope h3.objs.size { j with heap:=h3,toks:=j.toks } (upd H2 D (.dT [])) fp) [] (upS own.length js σ) (upd H2 D (.dT [])) { j with heap:=h1,toks:=j.toks+([]:List (Str×Value)).length }:=
  VW own fr js I3 B hk f3 (fun b hb=>by show b<h3.objs.size;rw[hz];exact w4 (fl b hb)) rfl ah k4
 generalize eC:h3.objs.size=C at *
 have bn:∀b∈fp,∀x c,(z6 X.env.cells scope.names []).lookup x=some c->c≠b:=fun b hb x c e=>(f2 b hb).2.2.2.2.1 x c (zO e ac)
 have bq:∀b∈fp,b∉frs X.stack:=I4.ok.exfs;have az:∀{a0:List (Addr×Obj)} {l:Hp} {b:Addr},b∈fp->l b=none->(∀p∈a0,p.1≠b)->jf (zt X (own++fr) scope C { j with heap:=h3,toks:=j.toks } (upd H2 D (.dT [])) fp) a0 l b:=fun {a0 l b} hb hn hp=>
  ⟨hn,(I4.ok.exf b hb).1,bq b hb,.inl hb,fun x c e=>bn b hb x c e,fun p h=>hp p (by simpa using h)⟩
 have ae:∀s4:Shared,s4={ j with heap:=h1,toks:=j.toks+([]:List (Str×Value)).length } ->
   codeAny (model X.prog X.w) X.A (.compLoop (dc2 U vx G f A Y w E scope L) 0 (.ref it) (.ref D) (compEnvC scope (z6 X.env.cells scope.names []) C X.env))
    (compPost (model X.prog X.w) X.A X.xe none (EP X ab σ Q) (.ref D) C) s4:=by
  intro s4 e4;refine zbz (bi C) (fun n s'=>∃i l,Inv (zt X (own++fr) scope C { j with heap:=h3,toks:=j.toks } (upd H2 D (.dT [])) fp) [] (upS own.length js σ) l s'/\tn i s'.heap/\(∀b∈fp,l b=none)/\W i n l) ?_ m0 ?_
  ·rintro n s5 ⟨i,H5,I5,ar,ao,w5⟩
   have ag:∀{l:Hp},(∀b∈fp,l b=none)->∀b∈fp,jf (zt X (own++fr) scope C { j with heap:=h3,toks:=j.toks } (upd H2 D (.dT [])) fp) [] l b:=fun hn b hb=>az hb (hn b hb) fun p hp=>absurd hp (by simp)
   rcases as i n H5 w5 with ⟨stop,q⟩ | ⟨go,N,hN,step⟩
   ·refine thn (T.done (zt X (own++fr) scope C { j with heap:=h3,toks:=j.toks } (upd H2 D (.dT [])) fp) rfl rfl rfl hc i _ s5 _ H5 _ I5 (ag ao) ar stop) fun r s6 ⟨hr,I6⟩=>?_
    subst hr;obtain⟨m6,bh,_⟩:=I6.loc;refine⟨m6,bh,fun h7 bj=>?_⟩
    have k7:∀b o,b≠C->s6.heap.get? b=some o->h7.get? b=some o:=fun b o hb e=>bj.extBut b o hb e
    refine⟨.ref D,H5,?_,rfl,q⟩
    refine I3.call' (s':={ s6 with heap:=h7 }) (ch:=fp) I6.os (Vx I6.base (vO eC) k7) (JI I6.hok I6.free k7) I6.bare fun b hb=>?_
    obtain⟨_,g1,_,g3,g4,g5⟩:=f3 b hb;exact⟨g3,g1,g4,g5⟩
   ·refine thn (T.item (zt X (own++fr) scope C { j with heap:=h3,toks:=j.toks } (upd H2 D (.dT [])) fp) rfl rfl rfl hc i _ s5 _ H5 _ I5 (ag ao) ar go) fun r s6 ⟨u,hr,h6⟩=>?_
    subst hr;refine thn h6 fun _ s7 ⟨x,H7,I7,r7,y7,al,b0⟩=>?_
    have aw:=I7.pinned (ag b0) (T.obj _ _ al);refine thn (hg _ _ _ _ _ s7 _ H7 x u _ aw r7 (step x H7 y7)) fun _ s8 ⟨σ8,H8,I8,bb,q8⟩=>?_
    refine thn (hf _ _ _ _ _ s8 σ8 H8 _ I8 q8) fun ok s9 ⟨H9,I9,q9⟩=>?_
    have au:∀{l:Hp} {s':Shared} {pp:List (Addr×Obj)},Inv (zt X (own++fr) scope C { j with heap:=h3,toks:=j.toks } (upd H2 D (.dT [])) fp) pp σ8 l s'->Inv (zt X (own++fr) scope C { j with heap:=h3,toks:=j.toks } (upd H2 D (.dT [])) fp) [] (upS own.length js σ) l s':=fun {l s' pp} J=>by
     refine(J.pins_of (pins':=[]) fun p hp=>absurd hp (by simp)).weak (I5.len.trans J.len.symm) fun k v e=>?_
     obtain⟨hn,e1,_⟩:=xQ e;rw[<- bb,Jj] at e1;rw[<- e1];congr 1
     omega
    have mF:∀b∈fp,∀o,s7.heap.get? b=some o->(b,o)∈[]++zR fp s7.heap:=fun b hb o e=>qi _ (qD hb e)
    have ap:∀{l:Hp} {s':Shared},Inv (zt X (own++fr) scope C { j with heap:=h3,toks:=j.toks } (upd H2 D (.dT [])) fp) ([]++zR fp s7.heap) σ8 l s'->∀b∈fp,l b=none:=fun {l s'} J b hb=>by
     obtain⟨o,e,_⟩:=T.obj _ _ al b hb;exact(J.pin (b,o) (qi _ (mF b hb o e))).2.1
    have aq:∀{l:Hp} {s':Shared},Inv (zt X (own++fr) scope C { j with heap:=h3,toks:=j.toks } (upd H2 D (.dT [])) fp) ([]++zR fp s7.heap) σ8 l s'->tn (i+1) s'.heap:=fun {l s'} J=>T.keep _ _ _ al fun b hb o e=>(J.pin (b,o) (qi _ (mF b hb o e))).1
    cases ok with
    | false=>
     have aj:N H9:=by simpa using q9
     obtain⟨m',hm,w'⟩:=hN _ aj;exact⟨m',hm,i+1,H9,au I9,aq I9,ap I9,w'⟩
    | true=>
     have aj:tDN wi g tf tk tv D N σ8 H9:=by simpa using q9
     refine thn (be _ _ _ _ _ s9 σ8 H9 _ I9 aj) fun xv bt ba=>thn ba fun bp br ⟨bo,ay,bu,J2,bs,ei,av,T2,af,an,W2,⟨m2,w2⟩,am⟩=>?_
     subst ei;have ax:∀b∈ay,∀l:Hp,l b=none->jf (zt X (own++fr) scope C { j with heap:=h3,toks:=j.toks } (upd H2 D (.dT [])) fp) ([]++zR fp s7.heap) l b:=fun b hb l hn=>⟨hn,(an b hb).2⟩
     have aa:codeAny (model X.prog X.w) X.A (.compLoop (dc2 U vx G f A Y w E scope L) 1 (.ref bo) (.ref D) (compEnvC scope (z6 X.env.cells scope.names []) C X.env)) (fun r s7=>match r with
       | .ok _=>∃m,m<n/\∃i l,Inv (zt X (own++fr) scope C { j with heap:=h3,toks:=j.toks } (upd H2 D (.dT [])) fp) [] (upS own.length js σ) l s7/\tn i s7.heap/\(∀b∈fp,l b=none)/\W i m l
       | .error _=>False) br:=by
      refine zbs (N:=N) hu hc (bd _ _ _ _) (bc _ _ _ _) (bf _ _ _ _) (bm _ _ _ _) T2 ax av af (fun b hb=>(an b hb).1) w2 am fun l s' I' q'=>?_
      obtain⟨m',hm,w'⟩:=hN _ q';exact⟨m',hm,i+1,l,au I',aq I',ap I',w'⟩
     exact zae aa (T2.self X.A 0 _ _ _ af aa)
  ·subst e4
   exact⟨0,_,I4,T.keep _ _ _ ak fun b hb o e=>k4 b o (k3 b o e),fun b hb=>(f3 b hb).1,w0⟩
 exact codeAny_compStart_dict (ae _ rfl) (T.self X.A 0 _ _ _ (T.keep _ _ _ ak fun b hb o e=>k4 b o (k3 b o e)) (ae _ rfl))
theorem zce{x y z:Str}{px py pz tp:Pos}{kk:Nat}(l:List Str)(T:List Nat)(hu:X.A.units<cLine)(hc:X.calm=true)(hk:scope.kind=.function)(hb:vi scope.names X.env.scope.names X.N [x,y,z] l T=true)(hi:PI X (.Tuple [.Name x px,.Name y py] kk tp) f O)
  (hf:∀C s H j,PF (zt X ([x,y,z]++l) scope C s H j) A M) (I:∀C s H j,PI (zt X ([x,y,z]++l) scope C s H j) (.Name z pz) w wi) (D:∀C s H j,PF (zt X ([x,y,z]++l) scope C s H j) E tf) (J:∀C s H j,PE (zt X ([x,y,z]++l) scope C s H j) U tk) (Q:∀C s H j,PE (zt X ([x,y,z]++l) scope C s H j) vx tv)
  (hs:∀x,foldedSetIterable f X.env x=pure x:=by intro _;rfl) (N:∀C x,foldedSetIterable w (compEnvC scope (z6 X.env.cells scope.names []) C X.env) x=pure x:=by intro _ _;rfl) :
  PE X (dc2 U vx (.Tuple [.Name x px,.Name y py] kk tp) f A (.Name z pz) w E scope L) (zet O 3 T (Y8 X.K 2 (wc (jQ 0) (wc (jQ 1) zbu))) M wi (jQ 2) tf tk tv):=by
 obtain⟨h1,u,B⟩:=jY hb;refine zdK [x,y,z] l T hu hc hk h1 hi (fun C s H j=>?_) hf I (fun C s H j=>jL (u z (by simp)) B rfl) D J Q hs N
 exact qR (X:=zt X ([x,y,z]++l) scope C s H j) hc (zu (jL (u x (by simp)) B rfl) (zu (jL (u y (by simp)) B rfl) qq))
end
abbrev jl(X:Cx)(f:List Str)(scope:Scope)(x:Str)(C:Addr)(s:Shared)(H:Hp)(ex:List Addr):Cx where
 prog:=X.prog
 w:=X.w
 K:=X.K
 mg:=X.mg
 base:=X.base
 A:=X.A
 N:=f
 s₀:=s
 H₀:=H
 env:=compEnvC scope ((x,C+1)::z6 X.env.cells scope.names []) C X.env
 outer:=X.stack
 stack:=X.stack
 ex:=ex
 fn:=fun y=>y==x
 calm:=X.calm
 pn:=[]
 xe:=fun _ _=>False
def JT(sn on:List (Str×NameKind))(N:List Str)(x:Str)(f:List Str)(g:List Nat):Bool:=
 (sn.filter fun y=>y.2==.cell)==[(x,.cell)]&&sn.lookup x==some .cell&&decide ([x]++f).Nodup&&sn.all (fun y=>(y.2 != .local||sn.lookup y.1==some .local)&&(y.2 != .free||(on.lookup y.1==some .cell||on.lookup y.1==some .free)))&&f.length==g.length
  && (f.zip g).all fun p=>sn.lookup p.1==some .free&&N[p.2]? ==some p.1
structure BlkOkC(sn on:List (Str×NameKind))(N:List Str)(x:Str)(fr:List Str)(js:List Nat):Prop where
 one:(sn.filter fun y=>y.2==.cell)=[(x,.cell)]
 lk:sn.lookup x=some .cell
 nd:([x]++fr).Nodup
 loc:∀y∈sn,y.2=NameKind.local->sn.lookup y.1=some .local
 free:∀y∈sn,y.2=NameKind.free->on.lookup y.1=some .cell\/on.lookup y.1=some .free
 len:fr.length=js.length
 fr:∀(k:Nat) (x:Str),fr[k]? =some x->sn.lookup x=some .free/\∃j:Nat,js[k]? =some j/\N[j]? =some x
theorem BlkOkC.is{sn on:List (Str×NameKind)}{N:List Str}{x:Str}{f:List Str}{g:List Nat}(B:BlkOkC sn on N x f g){y:Str×NameKind}(h:y∈sn)(e:y.2=.cell):y.1=x:=by
 have:y∈sn.filter fun y=>y.2==.cell:=xk.mpr ⟨h,by rw[e];rfl⟩
 rw[B.one,qu] at this;rw[this]
theorem Jc{sn on:List (Str×NameKind)}{N:List Str}{x:Str}{g:List Str}{f:List Nat}(h:JT sn on N x g f=true):BlkOkC sn on N x g f:=by
 unfold JT at h;simp only[jn,xm,j9,decide_eq_true_eq] at h;obtain⟨⟨⟨⟨⟨s,u⟩,B⟩,j⟩,w⟩,A⟩:=h;refine⟨s,u,B,fun y hy e=>?_,fun y hy e=>?_,w,fun k x e=>?_⟩
 ·have:=(j y hy).1
  simp only[ZY,bne_iff_ne,j9] at this;exact this.resolve_left fun z=>z e
 ·have:=(j y hy).2
  simp only[ZY,bne_iff_ne,j9] at this;exact this.resolve_left fun z=>z e
 ·have hk:k<g.length:=(zZ.mp e).1
  have l:k<f.length:=by omega
  have hm:(x,f[k])∈g.zip f:=by
   refine qI (i:=k) ?_
   rw[zbJ];exact⟨e,by simp[l]⟩
  have:=A _ hm;exact⟨this.1,f[k],by simp[l],this.2⟩
theorem ZR:∀{names:List (Str×NameKind)} (n:Nat) (f:List (Str×Addr)) (h:Heap),(names.filter fun y=>y.2==.cell)=[]->cellsFrom n names f=f/\pushCells h names=h
 | [],_,_,_,_=>⟨rfl,rfl⟩
 | (a,k)::r,n,f,h,e=>by
  by_cases q:(k==NameKind.cell)=true
  ·rw[xI,zw (show((a,k).2==NameKind.cell)=true from q)] at e
   cases e
  ·rw[xI,zq (show ¬((a,k).2==NameKind.cell)=true from q)] at e
   unfold cellsFrom pushCells;rw[zq q,zq q];exact ZR n f h e
theorem Ja{x:Str}:∀{names:List (Str×NameKind)} (n:Nat) (f:List (Str×Addr)) (h:Heap),(names.filter fun y=>y.2==.cell)=[(x,.cell)]->cellsFrom n names f=(x,n)::f/\pushCells h names=h.push { cls:=.type "cell",data:=.cell none }
 | [],_,_,_,e=>by cases e
 | (a,k)::r,n,f,h,e=>by
  by_cases q:(k==NameKind.cell)=true
  ·rw[xI,zw (show((a,k).2==NameKind.cell)=true from q)] at e
   injection e with g j;cases g;unfold cellsFrom pushCells;rw[zw q,zw q];exact ZR _ _ _ j
  ·rw[xI,zq (show ¬((a,k).2==NameKind.cell)=true from q)] at e
   unfold cellsFrom pushCells;rw[zq q,zq q];exact Ja n f h e
theorem VM{M:Model}{A:Around}{E:Value->Shared->Prop}{s:Shared}{scope:Scope}{globals:Addr}{g:List (Str×Addr)}{qual:Str}{f:Env}{x:Str}{Q:Env->Shared->Prop}(l:(scope.names.filter fun y=>y.2==.cell)=[(x,.cell)])
  (C:Q { scope:=scope,locals:=s.heap.objs.size,globals:=globals,cells:=(x,s.heap.objs.size+1)::g,qual:=qual,func:=none,code:=f.code,frame:=f.frame,builtins:=f.builtins } { s with heap:=(s.heap.push { cls:=.type "dict",data:=.dict #[] }).push { cls:=.type "cell",data:=.cell none } }) :
  wpAny M A (newFunctionEnv scope globals g [] qual none .none (some f)) Q E s:=by
 simp only[newFunctionEnv,Option.isSome_some,if_true];refine zj (wpAny_alloc (zj (wpAny_layCells _ (fun u kind cells=>by cases j:kind==NameKind.cell<;>simp[j]) _ _ _ _ ?_)))
 obtain⟨w,B⟩:=Ja (names:=scope.names) (x:=x) (s.heap.push { cls:=.type "dict",data:=.dict #[] }).objs.size g (s.heap.push { cls:=.type "dict",data:=.dict #[] }) l;rw[w,B,jt];exact zj (zB (zB C))
theorem wt{f:Env}{x:Str}:∀{names:List (Str×NameKind)},names.lookup x=some .cell->(names.map fun(n,k)=>if(k==NameKind.free&&f.scope.kind==.function&&f.kindOf n==some .cell) then(n,NameKind.cell) else(n,k)).lookup x=some .cell
 | [],h=>by simp at h
 | (n,k)::r,h=>by
  show List.lookup x ((if(k==NameKind.free&&f.scope.kind==.function&&f.kindOf n==some .cell)=true then(n,NameKind.cell) else(n,k))::_)=some NameKind.cell
  by_cases hx:(x==n)=true
  ·rw[jd,hx] at h
   cases(qW h);split<;>simp[jd,hx]
  ·have g:(x==n)=false:=by simpa using hx
   rw[jd,g] at h;split
   ·rw[jd,g];exact wt h
   ·rw[jd,g];exact wt h
section
variable{X:Cx}{w M f:Expr}{A:List Expr}{scope:Scope}{E:Pos}{O:TI}{g:TG}{L:TT}{G:TE}{x:Str}
theorem VU{T:List (Addr×Obj)}{σ:St}{H:Hp}{s:Shared}{fp:List Addr}(fr:List Str)(js:List Nat)(I:Inv X T σ H s)(B:BlkOkC scope.names X.env.scope.names X.N x fr js)(hk:scope.kind=.function)
  (f2:∀b∈fp,jf X T H b) (fl:∀b∈fp,b<s.heap.objs.size) {D C:Addr} (hD:D=s.heap.objs.size) {U h1:Heap} (e3:U=s.heap.push { cls:=.type "list",dict:=none,data:=.seq ([]:List Value).toArray }) (hC:C=U.objs.size)
  {m:Str->Option Value} (ah:h1.Ns C m) (a0:h1.IsCell (C+1) none) (k4:∀b o,U.get? b=some o->h1.get? b=some o) {t4:Nat} :
  Inv (jl X ([x]++fr) scope x C { s with heap:=U } H (D::fp)) [] (upS 1 js σ) H { s with heap:=h1,toks:=t4 }:=by
 have k3:∀b o,s.heap.get? b=some o->U.get? b=some o:=fun b o e=>by rw[e3];exact qd _ e
 have I3:Inv X T σ H { s with heap:=U }:=I.kept (t':=s.toks) k3;have hz:U.objs.size=s.heap.objs.size+1:=by rw[e3,jt]
 have J:∀y∈scope.names,y.2=NameKind.free->∃c,X.env.cells.lookup y.1=some c:=fun y hy e=>I.ok.has y.1 (B.free y hy e)
 have N:∀x c,X.env.cells.lookup x=some c->c<s.heap.objs.size:=fun x c e=>by
  obtain⟨v,q⟩:=I.cell x c e;exact q.lt
 have aa:∀y c,(z6 X.env.cells scope.names []).lookup y=some c->c<C:=fun y c e=>by
  have:=N y c (zO e J);rw[hC,hz];exact w4 this
 have look:∀y c,((x,C+1)::z6 X.env.cells scope.names []).lookup y=some c->(y=x/\c=C+1)\/(y≠x/\(z6 X.env.cells scope.names []).lookup y=some c):=fun y c e=>by
  rw[jd] at e;by_cases q:(y==x)=true
  ·rw[q] at e
   exact .inl ⟨by simpa using q,(qW e).symm⟩
  ·rw[(yD _).mp q] at e
   exact .inr ⟨fun z=>q (by simpa using z),e⟩
 refine⟨⟨I.ok.mod,hk,I.ok.glob,I.ok.blt,vO hC.symm,fun y1 y2 c e1 e2=>?_,fun y hy=>?_,fun y c hf e=>?_,fun hc=>I.ok.hd hc,I.ok.frames,.inl rfl,fun b hb=>?_,I3.bs,jm I.ok.bsz I3.sz,fun b o e hb=>?_,fun b hb hf=>?_,I3.stack,I3.stkFree⟩,
  rfl,I.bare,Un.kept k4,⟨m,ah,fun i y v e1 e2 ai=>?_⟩,fun y c e=>?_,?_,fun y c e=>?_,fun p hp=>absurd (show p∈([]:List (Addr×Obj)) from hp) (by simp),I3.hok.kept k4,?_⟩
 ·rcases look _ _ e1 with ⟨a1,a2⟩ | ⟨a1,a2⟩<;>rcases look _ _ e2 with ⟨b1,b2⟩ | ⟨b1,b2⟩
  ·rw[a1,b1]
  ·have:=aa _ _ b2
   rw[a2] at this;exact absurd this (Nat.not_lt.mpr (yu _))
  ·have:=aa _ _ a2
   rw[b2] at this;exact absurd this (Nat.not_lt.mpr (yu _))
  ·exact I.ok.inj _ _ c (zO a2 J) (zO b2 J)
 ·by_cases q:y=x
  ·subst q
   exact⟨C+1,by show List.lookup y ((y,C+1)::_)=_;simp[jd]⟩
  obtain⟨k,e,z⟩:∃k,scope.names.lookup y=some k/\(k=.free):=by
   rcases hy with hx | hx
   ·obtain⟨k,e,z⟩:=xw hx
    rcases z with z | z
    ·subst z;exact absurd (B.is (vt e) rfl) q
    ·exact⟨k,e,z.1⟩
   ·obtain⟨k,e,z⟩:=xw hx
    rcases z with z | z
    ·subst z;exact⟨_,e,rfl⟩
    ·exact⟨k,e,z.1⟩
  subst z;refine⟨(X.env.cells.lookup y).getD 0,?_⟩
  show List.lookup y ((x,C+1)::_)=_;rw[jd,show(y==x)=false from by simpa using q]
  exact xq e
 ·rcases look _ _ e with ⟨a1,a2⟩ | ⟨a1,a2⟩
  ·rw[a2]
   show U.objs.size<=C+1;rw[hC];exact yu _
  ·exact absurd (by simpa using hf) a1
 ·have Q:∀b,b<C->∀y c,((x,C+1)::z6 X.env.cells scope.names []).lookup y=some c->(∀y c,X.env.cells.lookup y=some c->c≠b)->c≠b:=fun b hb y c e h=>by
   rcases look _ _ e with ⟨a1,a2⟩ | ⟨a1,a2⟩
   ·rw[a2];exact vm (w4 hb)
   ·exact h y c (zO a2 J)
  rcases zW.mp hb with z | hb
  ·subst z
   refine⟨by rw[hD,hC,hz];exact z9 (vq _),fun y c e=>Q _ (by rw[hD,hC,hz];exact vq _) y c e fun y c e=>?_⟩
   have:=N y c e;rw[hD];exact z9 this
  ·have af:b<C:=by rw[hC,hz];exact w4 (fl b hb)
   exact⟨z9 af,fun y c e=>Q _ af y c e fun y c e=>(f2 b hb).2.2.2.2.1 y c e⟩
 ·rcases zW.mp hb with z | hb
  ·have:=zK (I.bk b o e)
   rw[z,hD] at this;exact xE _ this
  ·rcases(f2 b hb).2.2.2.1 with z | z
   ·exact I.ok.noex b o e z
   ·exact absurd (ju (zK (I.ok.bs b o e).1) z) (xE _)
 ·have ac:=zW.mp (I.stkSub b hf)
  rcases zW.mp hb with z | hb
  ·rcases ac with y | y
   ·have:=I.lt
    rw[<- y,z,hD] at this;exact xE _ this
   ·exact I.nofs (a:=b) (by rw[z,hD];exact zJ _) y
  ·rcases ac with y | y
   ·exact(f2 b hb).2.1 y
   ·exact(f2 b hb).2.2.1 y
 ·obtain⟨hn,_,j,ej,es⟩:=xQ e2
  have ex:fr[i-1]? =some y:=by
   rw[wp (show([x]:List Str).length<=i from hn)] at e1
   exact e1
  obtain⟨Y,j',ab,eN⟩:=B.fr _ y ex;have:j'=j:=by rw[ej] at ab;exact(qW ab).symm
  subst this;have ae:=B.free _ (vt Y) rfl;obtain⟨m0,_,hl⟩:=I.loc;obtain⟨u,r,l⟩:=hl j' y v eN es (by rcases ae with z | z;exact .inr (.inl z);exact .inr (.inr z))
  refine⟨u,r,.inr ?_⟩
  have yx:y≠x:=fun z=>by
   have:=B.lk;rw[<- z,Y] at this;cases this
  rcases l with ⟨kl,_⟩ | ⟨_,c,ec,o,eo,ed⟩
  ·have ag:X.env.scope.names.lookup y=some .local:=kl
   rcases ae with z | z
   ·exact absurd (z.symm.trans ag) (by decide)
   ·exact absurd (z.symm.trans ag) (by decide)
  ·obtain⟨k',e',z⟩:=va (env:=X.env) Y
   have eq:((x,C+1)::z6 X.env.cells scope.names []).lookup y=some c:=by
    rw[jd,show(y==x)=false from by simpa using yx]
    show(z6 X.env.cells scope.names []).lookup y=some c;rw[xq Y,ec];rfl
   refine⟨?_,c,eq,o,k4 c o (k3 c o eo),ed⟩
   rcases z with z | z
   ·subst z;exact .inl e'
   ·subst z;exact .inr e'
 ·rcases look _ _ e with ⟨a1,a2⟩ | ⟨a1,a2⟩
  ·rw[a2];exact⟨none,a0⟩
  ·obtain⟨v,o,eo,ed⟩:=I.cell y c (zO a2 J)
   exact⟨v,o,k4 c o (k3 c o eo),ed⟩
 ·exact I3.hok.fresh (vO hC.symm)
 ·rcases look _ _ e with ⟨a1,a2⟩ | ⟨a1,a2⟩
  ·rw[a2]
   exact I3.hok.fresh (by show U.objs.size<=C+1;rw[hC];exact yu _)
  ·exact I.freeC y c (zO a2 J)
 ·rw[Jq,<- B.len]
  show _=([x]++fr).length;rw[qG];rfl
theorem zdJ(fr:List Str)(js:List Nat)(hc:X.calm=true)(hk:scope.kind=.function)(hb:JT scope.names X.env.scope.names X.N x fr js=true)(hi:PI X M f O)
  (hg:∀C s H ex,PG (jl X ([x]++fr) scope x C s H ex) M g) (hf:∀C s H ex,PF (jl X ([x]++fr) scope x C s H ex) A L) (he:∀C s H ex,PE (jl X ([x]++fr) scope x C s H ex) w G)
  (hs:∀x,foldedSetIterable f X.env x=pure x:=by intro _;rfl):PE X (.ListComp w [⟨M,f,A,0⟩] scope E) (tLC O 1 js g L G):=by
 intro ab s σ H Q I h;have B:=Jc hb;have ag:∀y∈scope.names,y.2=NameKind.free->∃c,X.env.cells.lookup y.1=some c:=fun y hy e=>I.ok.has y.1 (B.free y hy e)
 rw[eval_ListComp];refine wpAny_comprehension_free (use:=none) rfl hs (JP ag) hk (fun y hy e=>B.loc y hy e) (thn (hi ab s σ H _ I h) fun v s1 h1=>thn h1 fun c0 s2 h2=>?_)
 obtain⟨it,U,tn,J,H2,e,I2,T,ao,f2,W,⟨m0,w0⟩,bb⟩:=h2;subst e;have fl:∀b∈U,b<s2.heap.objs.size:=fun b hb=>let ⟨o,e,_⟩:=T.obj _ _ ao b hb;zK e
 refine x5 (VM B.one ?_)
 dsimp only;generalize e3:s2.heap.push { cls:=.type "list",dict:=none,data:=.seq ([]:List Value).toArray }=Y;have aw:((Y.push { cls:=.type "dict",data:=.dict #[] }).push { cls:=.type "cell",data:=.cell none }).Ns Y.objs.size (fun _=>none):=(Heap.Ns.new Y (.type "dict")).keeps fun b o e=>qd _ e
 have aa:((Y.push { cls:=.type "dict",data:=.dict #[] }).push { cls:=.type "cell",data:=.cell none }).IsCell (Y.objs.size+1) none:=⟨_,by have:=qy (Y.push { cls:=.type "dict",data:=.dict #[] }) (o:={ cls:=.type "cell",data:=.cell none }) rfl;rwa[jt] at this,rfl⟩
 have k4:∀b o,Y.get? b=some o->((Y.push { cls:=.type "dict",data:=.dict #[] }).push { cls:=.type "cell",data:=.cell none }).get? b=some o:=fun b o e=>qd _ (qd _ e)
 generalize (Y.push { cls:=.type "dict",data:=.dict #[] }).push { cls:=.type "cell",data:=.cell none }=h1 at aw aa k4;have k3:∀b o,s2.heap.get? b=some o->Y.get? b=some o:=fun b o e=>by rw[<- e3];exact qd _ e
 have I4:Inv (jl X ([x]++fr) scope x Y.objs.size { s2 with heap:=Y } H2 (s2.heap.objs.size::U)) [] (upS 1 js σ) H2 { s2 with heap:=h1 }:=
  VU fr js I2 B hk f2 fl rfl e3.symm rfl aw aa k4
 have I3:Inv X ab σ H2 { s2 with heap:=Y }:=I2.kept (t':=s2.toks) k3;have hz:Y.objs.size=s2.heap.objs.size+1:=by rw[<- e3,jt]
 have am:s2.heap.objs.size≠Y.objs.size:=by rw[hz];exact z9 (vq _)
 have as:h1.get? s2.heap.objs.size=some { cls:=.type "list",data:=.seq ([]:List Value).toArray }:=k4 _ _ (by rw[<- e3];exact qy _ rfl)
 generalize eD:s2.heap.objs.size=D at *
 generalize eC:Y.objs.size=C at *
 have fD:∀b∈U,D≠b:=fun b hb=>vm (fl b hb)
 have look:∀y c,((x,C+1)::z6 X.env.cells scope.names []).lookup y=some c->c=C+1\/X.env.cells.lookup y=some c:=fun y c e=>by
  rw[jd] at e;by_cases q:(y==x)=true
  ·rw[q] at e
   exact .inl (qW e).symm
  ·rw[(yD _).mp q] at e
   exact .inr (zO e ag)
 have hx:∀y c,((x,C+1)::z6 X.env.cells scope.names []).lookup y=some c->c≠D:=fun y c e=>by
  rcases look y c e with z | z
  ·rw[z,hz];exact vm (w4 (vq _))
  ·obtain⟨v,q⟩:=I2.cell y c z
   rw[<- eD];exact z9 q.lt
 have bp:∀b∈U,∀y c,((x,C+1)::z6 X.env.cells scope.names []).lookup y=some c->c≠b:=fun b hb y c e=>by
  rcases look y c e with z | z
  ·rw[z,hz];exact vm (w4 (w4 (fl b hb)))
  ·exact(f2 b hb).2.2.2.2.1 y c z
 have b0:∀b∈D::U,b∉frs X.stack:=I4.ok.exfs;have bf:∀{j:List (Addr×Obj)} {H':Hp} {b:Addr},b∈U->H' b=none->(∀p∈j,p.1≠b)->jf (jl X ([x]++fr) scope x C { s2 with heap:=Y } H2 (D::U)) j H' b:=fun {j H' b} hb hn hp=>
  ⟨hn,(I4.ok.exf b (jv _ hb)).1,b0 b (jv _ hb),.inl (jv _ hb),fun x c e=>bp b hb x c e,fun p h=>hp p (by simpa using h)⟩
 have bg:∀{j:List (Addr×Obj)} {H':Hp},H' D=none->(∀p∈j,p.1≠D)->jf (jl X ([x]++fr) scope x C { s2 with heap:=Y } H2 (D::U)) j H' D:=fun {j H'} hn hp=>
  ⟨hn,am,b0 D xn,.inl xn,fun x c e=>hx x c e,fun p h=>hp p (by simpa using h)⟩
 have ai:∀s4:Shared,s4={ s2 with heap:=h1 } ->
   codeAny (model X.prog X.w) X.A (.compLoop (.ListComp w [⟨M,f,A,0⟩] scope E) 0 (.ref it) (.ref D) (compEnvC scope ((x,C+1)::z6 X.env.cells scope.names []) C X.env))
    (compPost (model X.prog X.w) X.A X.xe none (EP X ab σ Q) (.ref D) C) s4:=by
  intro s4 e4;refine Vo (fun n s'=>∃i ys a0 H',∃z:Nat,Inv (jl X ([x]++fr) scope x C { s2 with heap:=Y } H2 (D::U)) [] (upS 1 js σ) H' s'/\tn i s'.heap/\(∀b∈U,H' b=none)/\H' D=none /\
   s'.heap.get? D=some { cls:=.type "list",data:=.seq (a0:List Value).toArray z }/\Vals ys a0/\W i n ys H') ?_ m0 ?_
  ·rintro n s5 ⟨i,ys,a0,H5,z5,I5,ba,aq,bi,ax,ae,w5⟩
   have ap:=I5.pinned (fp:=[D]) (fun b hb=>by rw[qu.mp hb];exact bg bi (fun p hp=>absurd hp (by simp))) (fun b hb=>by
    rw[qu.mp hb];exact⟨_,ax,fun v q=>nomatch q⟩)
   have pD:∀p∈[]++zR [D] s5.heap,p.1=D:=fun p hp=>by
    rw[yC] at hp;exact qu.mp (xU hp).1
   have mD:(D,({ cls:=.type "list",data:=.seq a0.toArray z5 }:Obj))∈[]++zR [D] s5.heap:=by
    rw[yC];exact qD (qu.mpr rfl) ax
   have al:∀{H':Hp},(∀b∈U,H' b=none)->∀b∈U,jf (jl X ([x]++fr) scope x C { s2 with heap:=Y } H2 (D::U)) ([]++zR [D] s5.heap) H' b:=fun hn b hb=>bf hb (hn b hb) fun p hp=>by
    rw[pD p hp];exact fD b hb
   rcases bb i n ys H5 w5 with ⟨stop,av,q⟩ | ⟨go,N,hN,step⟩
   ·refine thn (T.done (jl X ([x]++fr) scope x C { s2 with heap:=Y } H2 (D::U)) rfl rfl rfl hc i _ s5 _ H5 _ ap (al aq) ba stop) fun r s6 ⟨hr,I6⟩=>?_
    subst hr;obtain⟨m6,bn,_⟩:=I6.loc;refine⟨m6,bn,fun h7 bo=>?_⟩
    obtain⟨o6,az,_⟩:=I6.pin (D,_) (qi _ mD);have k7:∀b o,b≠C->s6.heap.get? b=some o->h7.get? b=some o:=fun b o hb e=>bo.extBut b o hb e
    refine⟨.ref D,upd H5 D (.lst ys),?_,rfl,q D az⟩
    refine I3.call' (s':={ s6 with heap:=h7 }) (ch:=D::U) I6.os (Zj (Vx I6.base (vO eC) k7) xn (I2.hok.fresh ?_)) (yq (JI I6.hok I6.free k7) az ⟨av,a0,z5,ae,k7 D _ am o6⟩) I6.bare fun b hb=>?_
    ·rw[<- eD];exact zJ _
    ·rcases zW.mp hb with y | hb
     ·subst y
      refine⟨.inr (by rw[<- eD];exact I2.sz),by rw[<- eD];exact vm I2.lt,fun x c e=>?_,fun p hp=>?_⟩
      ·obtain⟨v,q⟩:=I2.cell x c e
       rw[<- eD];exact z9 q.lt
      ·rw[<- eD];exact z9 (zK (I2.pin p hp).1)
     ·obtain⟨_,g1,_,g3,g4,g5⟩:=f2 b hb
      exact⟨g3,g1,g4,g5⟩
   ·refine thn (T.item (jl X ([x]++fr) scope x C { s2 with heap:=Y } H2 (D::U)) rfl rfl rfl hc i _ s5 _ H5 _ ap (al aq) ba go) fun r s6 ⟨u,hr,h6⟩=>?_
    subst hr;refine thn h6 fun _ s7 ⟨x7,H7,I7,r7,y7,af,bh⟩=>?_
    have bd:=I7.pinned (al bh) (T.obj _ _ af);refine thn (hg _ _ _ _ _ s7 _ H7 x7 u _ bd r7 (step x7 H7 y7)) fun _ s8 ⟨σ8,H8,I8,bj,q8⟩=>?_
    refine thn (hf _ _ _ _ _ s8 σ8 H8 _ I8 q8) fun ok s9 ⟨H9,I9,q9⟩=>?_
    have ak:∀{H':Hp} {s':Shared},Inv (jl X ([x]++fr) scope x C { s2 with heap:=Y } H2 (D::U)) (([]++zR [D] s5.heap)++zR U s7.heap) σ8 H' s' ->
      Inv (jl X ([x]++fr) scope x C { s2 with heap:=Y } H2 (D::U)) [] (upS 1 js σ) H' s':=fun {H' s'} J=>by
     refine(J.unpinned).unpinned.weak (I5.len.trans J.len.symm) fun k v e=>?_
     obtain⟨hn,e1,_⟩:=xQ e;rw[<- bj,Jj] at e1;rw[<- e1];congr 1
     omega
    have mF:∀b∈U,∀o,s7.heap.get? b=some o->(b,o)∈([]++zR [D] s5.heap)++zR U s7.heap:=fun b hb o e=>qi _ (qD hb e)
    have ay:=wo (zR U s7.heap) mD;have ar:∀{H':Hp} {s':Shared},Inv (jl X ([x]++fr) scope x C { s2 with heap:=Y } H2 (D::U)) (([]++zR [D] s5.heap)++zR U s7.heap) σ8 H' s'->∀b∈U,H' b=none:=fun {H' s'} J b hb=>by
     obtain⟨o,e,_⟩:=T.obj _ _ af b hb;exact(J.pin (b,o) (qi _ (mF b hb o e))).2.1
    cases ok with
    | false=>
     have an:N ys H9:=by simpa using q9
     obtain⟨m',hm,w'⟩:=hN _ _ an;obtain⟨o9,br,_⟩:=I9.pin (D,_) (qi _ ay);exact⟨m',hm,i+1,ys,a0,H9,z5,ak I9,T.keep _ _ _ af fun b hb o e=>(I9.pin (b,o) (qi _ (mF b hb o e))).1,ar I9,br,o9,ae,w'⟩
    | true=>
     have an:G σ8 H9 fun y H6=>ys.length<sizeLine/\N (ys++[y]) H6:=by simpa using q9
     refine thn (he _ _ _ _ _ s9 σ8 H9 _ I9 an) fun yv bu ⟨y,bc,ac,bt,bm,bv⟩=>?_
     obtain⟨m',hm,w'⟩:=hN _ _ bv;obtain⟨bs,aj,_⟩:=ac.pin (D,_) (qi _ ay);refine wpAny_list_append_plain (l:=D) (items:=a0.toArray) (hsz:=by rw[qF,<- ae.length];exact wD bm) ⟨_,bs⟩ fun bx au ah=>?_
     obtain⟨bw,be⟩:=au;refine⟨m',hm,i+1,ys++[y],a0++[yv],bc,bw,?_,T.keep _ _ _ af fun b hb o e=>ah.extBut b o (qB (fD b hb)) (ac.pin (b,o) (qi _ (mF b hb o e))).1,ar ac,aj,?_,ae.append (.cons bt .nil),w'⟩
     ·exact(ak ac).turned (t':=bu.toks) (it:=D) (fun b o hb e=>ah.extBut b o hb e) aj am (.inl xn) (fun x c e=>hx x c e) fun p hp=>absurd (show p∈([]:List (Addr×Obj)) from hp) (by simp)
     ·rw[be];simp
  ·subst e4
   exact⟨0,[],[],H2,0,I4,T.keep _ _ _ ao fun b hb o e=>k4 b o (k3 b o e),fun b hb=>(f2 b hb).1,I2.hok.fresh (by rw[<- eD];exact zJ _),as,.nil,w0⟩
 exact codeAny_compStart_list (ai _ rfl) (T.self X.A 0 _ _ _ (T.keep _ _ _ ao fun b hb o e=>k4 b o (k3 b o e)) (ai _ rfl))
theorem zdH{D:Pos}(l:List Str)(u:List Nat)(hc:X.calm=true)(hk:scope.kind=.function)(hb:JT scope.names X.env.scope.names X.N x l u=true)(J:PI X (.Name x D) f O)
  (hf:∀C s H j,PF (jl X ([x]++l) scope x C s H j) A L) (I:∀C s H j,PE (jl X ([x]++l) scope x C s H j) w G)
  (N:∀x,foldedSetIterable f X.env x=pure x:=by intro _;rfl):PE X (.ListComp w [⟨.Name x D,f,A,0⟩] scope E) (tLC O 1 u (jQ 0) L G):=by
 have B:=Jc hb;refine zdJ l u hc hk hb J (fun C s H j=>?_) hf I N
 have Q:(compEnvC scope ((x,C+1)::z6 X.env.cells scope.names []) C X.env).scope.names.lookup x=some .cell:=wt B.lk;exact zp (X:=jl X ([x]++l) scope x C s H j) B.nd rfl (.inr Q) (.inl (by show(x==x)=true;simp))
end
theorem zby{K:W.Frag}{a D:Addr}{xs:List V}{g:TG}{I:TT}{M:TI}{E:TG}{u:TT}{J L:TE}{w:St}{n:Nat}{R:Hp->Prop}{H:Hp}(Pv:Nat->Hp->Prop)(U:Pv 0 H)
  (Y:∀i H,Pv i H->SqL K H a xs)
  (hs:∀i x H T,xs[i]? =some x->Pv i H->H T=none->g (.ref T) w (upd H T (.tup [.int i,x])) fun j C=>j.drop n=w.drop n/\I j C fun b l=>
   if b=true then tDN M E u J L D (Pv (i+1)) j l else Pv (i+1) l)
  (hd:∀H,Pv xs.length H->R H) :
  ∃W:Nat->Nat->Hp->Prop,(∃m,W 0 m H)/\∀i m f,W i m f ->
   ((Ite K a).stop i f/\R f) \/
   ((Ite K a).go i f/\∃N:Hp->Prop,(∀A,N A->∃G,G<m/\W (i+1) G A)/\∀x B,(Ite K a).yld i f x B->g x w B fun j C=>j.drop n=w.drop n/\I j C fun b l=>
    if b=true then tDN M E u J L D N j l else N l):=by
 refine⟨fun i m f=>m=xs.length-i/\i<=xs.length/\Pv i f,⟨_,rfl,qQ _,U⟩,?_⟩
 rintro i m f ⟨rfl,hi,p⟩;have q:=Y i f p;by_cases s:i<xs.length
 ·refine .inr ⟨⟨xs,xs[i],q,by simp[s]⟩,Pv (i+1),fun A p'=>⟨_,by omega,rfl,s,p'⟩,fun x B y=>?_⟩
  obtain⟨T,z,O,hT,Q,y⟩:=y;subst O Q;exact hs i z f T (y xs q) p hT
 ·have e:i=xs.length:=by omega
  subst e;exact .inl ⟨⟨xs,q,zJ _⟩,hd f p⟩
theorem zcH{K:W.Frag}{a D:Addr}{xs:List V}{g:TG}{L:TT}{M O:TE}{w:St}{N:Hp->Prop}{H:Hp}(Pv:Nat->Hp->Prop)(Q:Pv 0 H)
  (T:∀i H,Pv i H->SqL K H a xs)
  (Y:∀i x H,xs[i]? =some x->Pv i H->g x w H fun j C=>Sub w j/\L j C fun b l=>
   if b=true then M j l fun y E=>O j E fun v G=>∃s,DPutT G D y v s/\Pv (i+1) s else Pv (i+1) l)
  (U:∀H,Pv xs.length H->N H) :
  ∃W:Nat->Nat->Hp->Prop,(∃m,W 0 m H)/\∀i m f,W i m f ->
   ((Itl K a).stop i f/\N f) \/
   ((Itl K a).go i f/\∃I:Hp->Prop,(∀A,I A->∃J,J<m/\W (i+1) J A)/\∀x B,(Itl K a).yld i f x B->g x w B fun j C=>Sub w j/\L j C fun b l=>
    if b=true then M j l fun y E=>O j E fun v G=>∃s,DPutT G D y v s/\I s else I l):=by
 refine⟨fun i m f=>m=xs.length-i/\i<=xs.length/\Pv i f,⟨_,rfl,qQ _,Q⟩,?_⟩
 rintro i m f ⟨rfl,hi,p⟩;have q:=T i f p;by_cases u:i<xs.length
 ·refine .inr ⟨⟨xs,xs[i],q,by simp[u]⟩,Pv (i+1),fun A p'=>⟨_,by omega,rfl,u,p'⟩,fun x B y=>?_⟩
  obtain⟨e,y⟩:=y;subst e;exact Y i x _ (y xs q) p
 ·have e:i=xs.length:=by omega
  subst e;exact .inl ⟨⟨xs,q,zJ _⟩,U f p⟩
def BoxAt(H:Hp)(b:Addr)(n:Int):Prop:=∃f b1 b2:Int,H b=some (.lst [.int f,.int b1,.int b2])/\0<=f/\0<=b1/\b1<2147483648/\0<=b2/\b2<=n
def SameB(b:Addr)(H f:Hp):Prop:=∀c o,H c=some o->c≠b->f c=some o
theorem yN{i j:Int}(s:0<=i)(l:i<18446744073709551616):CMul i j:=by
 have f:(-(2^64):Int)= -18446744073709551616:=by decide
 have g:((2^64):Int)=18446744073709551616:=by decide
 refine .inl ⟨?_,?_⟩
 ·rw[f];omega
 ·rw[g];exact l
theorem zdg{a m j:Int}(h:0<m)(f:m<18446744073709551616):CMul (a % m) j:=yN (yQ _ (by omega)) (Int.lt_trans (yW _ h) f)
section
variable{P:Program}{w:World}{K:W.Frag}{D:Str->Option Value}{C:Heap}
inductive Xt(j:List V)(H:Hp)(Q:VK):Prop
 | mk (b:Addr) (f n:Int) (_:j=[.ref b,.int f]) (_:BoxAt H b n) (_:n<1099511627776) (_:0<f) (_:f<1073741824) (_:∀(r:Int) g,0<=r->r<f->BoxAt g b (n+1)->SameB b H g->Q (.int r) g):Xt  j H Q
def vA:Sp:=fun f H Q _=>Xt  f H Q
theorem u7{N P:List Str}{S:Scope}(a:S.kind=.function:=by rfl)(b:S.isCoroutine=false:=by rfl)(c:S.isGenerator=false:=by rfl)(d:N.Nodup:=by decide +kernel)(e:N.take P.length=P:=by rfl)(f:∀x∈P,S.names.lookup x=some .local∨S.names.lookup x=some .cell:=by decide +kernel)(g:∀y∈S.names,y.2≠.free:=by decide +kernel):zI N P S:=⟨a,b,c,d,e,f,g⟩
theorem zaL:zI ["_law_box_here","_law_size","_law_found","_law_step","_law_once","_law_twice"] ["_law_box_here","_law_size"] (zv (topL 26)):=u7
theorem zcl{f:Addr}{O:FuncData}(F:Fun K "_law_take" "_law_take" (topL 26) f O)(B:Blt D):FnOk P w K D C CX0 1 f O ["_law_box_here","_law_size"] vA:=by
 have G:=zaL.nd;refine F.ok zaL (fun vs H Q E h=>?_) (fun Y A N s H vs Q E hr h=>?_)
 ·obtain⟨b,u,n,rfl,_⟩:=h
  rfl
 ·obtain⟨b,u,n,rfl,⟨I,b1,b2,hb,T,U,l,p2,a0⟩,hn,j,M,k⟩:=h
  refine⟨_,(zg (qH (zG wL (zy zH (pv 0) zf (fun _ _=>rfl)) zf (zE _))
   (zg (jK (zo Vk rfl B.divmod Vm (za (zy zH (pv 0) zf (fun _ _=>rfl)) (za (pv 1) ze))) (qR rfl (zu (Jw (pv 0) zf wI) (zu (zp (i:=2) G rfl (Or.inl rfl)) qq))))
    (zk (zC (pv 2))))
   zQ)
   (zg (jK (zr zD (zy zH (pv 0) zf (fun _ _=>rfl)) zf) (Jw (pv 0) zf wI))
   (zg (zF (i:=3) G rfl (Or.inl rfl) (zr zD zf (zr xy (zy zH (pv 0) zf (fun _ _=>rfl)) (zy zH (pv 0) zf (fun _ _=>rfl)))))
   (zg (zF (i:=4) G rfl (Or.inl rfl) (zr xz (zr xy (zr zD (zy zH (pv 0) zf (fun _ _=>rfl)) (zr xy zf (zy zH (pv 0) zf (fun _ _=>rfl)))) (pv 3)) zf))
   (zg (zF (i:=5) G rfl (Or.inl rfl) (zr xz (zr zD (zr xy (pv 4) (zr zD (zr xz (pv 4) zf) zf)) (zy zH (pv 0) zf (fun _ _=>rfl))) zf))
   (zk (zC (zr xz (zr W5 (zr xz (zr xy (pv 5) (zr zD (zr xz (pv 5) zf) zf)) zf) zf) (pv 1))))))))),?_⟩
  refine⟨_,rfl,b,_,_,_,rfl,rfl,u9 hb,rfl,_,_,rfl,rfl,_,rfl,?_⟩
  refine qZ (fun c=>?_) (fun c=>?_)
  ·refine⟨_,rfl,b,_,_,_,rfl,rfl,u9 hb,rfl,_,rfl,_,_,rfl,⟨j,M⟩,fun p hp=>?_⟩
   have J:b≠p:=zi hb hp;refine⟨p,_,rfl,ua zd,rfl,_,_,rfl,_,rfl,b,_,_,_,rfl,rfl,(by rw[zm J];exact hb),rfl,_,_,rfl,rfl,_,rfl,?_⟩
   refine k _ _ (yQ _ (by omega)) (yW _ j) ⟨_,b1,b2,zd,Int.ediv_nonneg T (by omega),U,l,p2,by omega⟩ fun d o e L=>?_
   rw[zm L,zm (zi e hp)];exact e
  ·refine⟨_,rfl,b,_,_,_,rfl,rfl,u9 hb,rfl,_,_,rfl,rfl,_,rfl,b,_,_,_,rfl,rfl,hb,rfl,?_⟩
   have g:upd H b (.lst [.int I,.int b1,.int (b2+1)]) b=some (.lst [.int I,.int b1,.int (b2+1)]):=zd;refine⟨_,rfl,b,_,_,_,rfl,rfl,u9 g,rfl,_,rfl,b,_,_,_,rfl,rfl,u9 g,rfl,_,_,rfl,rfl,yN (by omega) (by omega),_,_,rfl,rfl,?_⟩
   refine⟨_,rfl,b,_,_,_,rfl,rfl,u9 g,rfl,_,rfl,b,_,_,_,rfl,rfl,u9 g,rfl,_,_,rfl,rfl,yN (by omega) (by omega),_,_,rfl,rfl,_,rfl,_,_,rfl,rfl,yN (by omega) (by omega),_,_,rfl,rfl,(by show(0:Int)<_;decide),?_⟩
   refine⟨_,rfl,_,rfl,_,_,rfl,rfl,(by show(0:Int)<_;decide),_,_,rfl,rfl,_,_,rfl,rfl,zdg (by decide) (by decide),_,rfl,b,_,_,_,rfl,rfl,u9 g,rfl,_,_,rfl,rfl,_,_,rfl,rfl,(by show(0:Int)<_;decide),?_⟩
   refine⟨_,rfl,_,rfl,_,_,rfl,rfl,(by show(0:Int)<_;decide),_,_,rfl,rfl,_,_,rfl,rfl,zdg (by decide) (by decide),_,_,rfl,rfl,(by show(0:Int)<_;decide),_,_,rfl,rfl,⟨by decide,by decide⟩,_,rfl,_,_,rfl,rfl,j,?_⟩
   refine k _ _ (yQ _ (by omega)) (yW _ j) ⟨I,b1,b2+1,g,T,U,l,by omega,by omega⟩ fun d o e L=>?_
   rw[zm L];exact e
inductive WI(K:W.Frag)(f:List V)(H:Hp)(Q:VK):Prop
 | mk (a:Addr) (g:List Int) (j:Nat) (_:f=[.ref a,.int j]) (_:SqL K H a (g.map V.int)) (_:j<=100) (_:∀p o,H p=none->BoxAt (upd H p o) p 0->Q (.ref p) (upd H p o)):WI K f H Q
def zcZ(K:W.Frag):Sp:=fun f H Q _=>WI K f H Q
theorem zc7:zI ["_law_script","_law_k","_law_cell"] ["_law_script","_law_k"] (zv (topL 25)):=u7
theorem Yn{c:Int}{j:Nat}(f:j<=100):CMul (jZ c) (if decide (10^18<=jZ c)=true then 1 else 0):=by
 refine .inr ?_
 split
 ·exact⟨by decide,by decide⟩
 ·exact⟨by decide,by decide⟩
theorem zbH{c:Int}:0<=jZ c*(if decide (10^18<=jZ c)=true then 1 else 0):=by
 have h:0<=jZ c:=by unfold jZ;split<;>omega
 split
 ·rw[Int.mul_one];exact h
 ·rw[Int.mul_zero];exact Int.le_refl 0
theorem zdZ{f:Addr}{u:FuncData}(F:Fun K "_law_box" "_law_box" (topL 25) f u)(B:Blt D):FnOk P w K D C CX0 1 f u ["_law_script","_law_k"] (zcZ K):=by
 have M:=zc7.nd;refine F.ok zc7 (fun N H Q E h=>?_) (fun J A l s H N Q E O h=>?_)
 ·obtain⟨a,g,j,rfl,_⟩:=h
  rfl
 ·obtain⟨a,g,j,rfl,G,I,k⟩:=h
  refine⟨_,(zg (zF (i:=2) M rfl (Or.inl rfl) (Zy (zG XO (pv 1) (zo zA rfl B.len boot_len (za (pv 0) ze)) (zE _)) (zy zH (pv 0) (pv 1) (fun _ _=>rfl)) zf))
   (zk (zC (zT (za (zr xy (zo vL rfl B.abs vM (za (pv 2) ze)) (jg xr rfl B.int xC (za (qv zeK (zo vL rfl B.abs vM (za (pv 2) ze)) (zr zdL zf zf) (zE _)) ze))) (za (zr xz (zr xy (zr zD (zr zD (zr xz (pv 2) zf) (zr xy zf (pv 1))) zf) zf) zf) (za zf ze))))))),?_⟩
  refine⟨_,rfl,_,rfl,a,_,rfl,.inl G,_,_,rfl,rfl,_,rfl,?_⟩
  refine qZ (fun c=>?_) (fun c=>?_)
  ·have L:j<g.length:=by
    have:=jH c;rw[zx] at this;omega
   refine⟨_,rfl,_,rfl,a,_,_,.int g[j],rfl,rfl,G,qP (by simp[L]),?_⟩
   generalize g[j]=z;refine⟨_,rfl,_,rfl,_,rfl,_,rfl,_,_,rfl,rfl,⟨by decide,by decide,by decide⟩,_,_,rfl,rfl,.inr ⟨_,rfl,_,_,rfl,rfl,Yn I,_,rfl,_,_,rfl,rfl,(by show(0:Int)<_;decide),_,rfl,_,_,rfl,rfl,yN (by decide) (by decide),_,_,rfl,rfl,_,_,rfl,rfl,_,_,rfl,rfl,?_,_,_,rfl,rfl,(by show(0:Int)<_;decide),(by rw[sizeLine_eq];exact(by decide:3<=16777216)),fun p hp=>k p _ hp ⟨_,_,_,zd,?_,?_,?_,by decide,by decide⟩⟩⟩
   ·refine yN ?_ ?_
    ·have:=yQ z (show(2147483629:Int)≠0 by decide)
     omega
    ·have:=yW z (show(0:Int)<2147483629 by decide)
     omega
   ·exact zbH
   ·exact yQ _ (by decide)
   ·exact Int.lt_trans (yW _ (by decide)) (by decide)
  ·refine⟨_,rfl,_,rfl,_,rfl,_,rfl,_,_,rfl,rfl,⟨by decide,by decide,by decide⟩,_,_,rfl,rfl,.inr ⟨_,rfl,_,_,rfl,rfl,Yn I,_,rfl,_,_,rfl,rfl,(by show(0:Int)<_;decide),_,rfl,_,_,rfl,rfl,yN (by decide) (by decide),_,_,rfl,rfl,_,_,rfl,rfl,_,_,rfl,rfl,?_,_,_,rfl,rfl,(by show(0:Int)<_;decide),(by rw[sizeLine_eq];exact(by decide:3<=16777216)),fun p hp=>k p _ hp ⟨_,_,_,zd,?_,?_,?_,by decide,by decide⟩⟩⟩
   ·refine yN ?_ ?_
    ·have:=yQ 0 (show(2147483629:Int)≠0 by decide)
     omega
    ·have:=yW 0 (show(0:Int)<2147483629 by decide)
     omega
   ·exact zbH
   ·exact yQ _ (by decide)
   ·exact Int.lt_trans (yW _ (by decide)) (by decide)
theorem zbB{f:List V}{lo g:Option Int}{x:V}(h:x∈qk f lo g):x∈f:=List.mem_of_mem_drop (Wb h)
theorem Yc{n j:Nat}(h:j<n):ixN n (j:Int)=some j:=by
 unfold ixN;rw[zw (by omega),zw (by omega)];simp
theorem zbC(f:List Int)(lo g:Option Int):∃j:List Int,qk (f.map V.int) lo g=j.map V.int:=by
 refine⟨(f.drop (HT.sIx f.length 0 lo)).take (HT.sIx f.length f.length g-HT.sIx f.length 0 lo),?_⟩
 unfold qk;rw[zx,ZX,List.map_drop]
theorem zcL(f:List Int)(z:Nat):(qk (f.map V.int) none (some (z:Int))).length=min z f.length:=by
 unfold qk;rw[HT.sIx_nat,HT.sIx_none,jq,wZ,zx];omega
theorem zcM(f:List Int)(z:Nat)(g:Option Int):(qk (f.map V.int) (some (z:Int)) g).length<=f.length-min z f.length:=by
 unfold qk;rw[HT.sIx_nat,jq,wZ,zx];omega
inductive Xz(K:W.Frag)(l:List V)(H:Hp)(Q:VK):Prop
 | mk (a:Addr) (j:List Int) (z:Nat) (_:l=[.ref a,.int z]) (_:SqL K H a (j.map V.int)) (_:j.length<=63) (_:1<=z) (_:z<=63) (_:∀(p:Addr) (g:List Int) f,Same H f->SqL K f p (g.map V.int)->g.length<=z->Q (.ref p) f):Xz K l H Q
def zaH(K:W.Frag):Sp:=fun f H Q _=>Xz K f H Q
theorem zaR:zI ["_law_script","_law_size","_law_cells","_law_k","_law_cell"] ["_law_script","_law_size"] (zv (topL 27)):=u7
def YG(a:_)(z:Nat)(p:_)(H:_)(q:_)(j:List Int):=fun(i:Nat) (σ:St) (f:Hp)=>(Ex3 fun(g:List Int) (l s:Option V)=>An5 (σ=[some (.ref a),some (.int z),some (.ref p),l,s]) (Same H f) (f p=some (.lst (g.map V.int))) (f q=some (.lst (qk (j.map V.int) (some (z:Int)) (some 63)))) (g.length=min z j.length):Prop)
theorem zcr{f:Addr}{fd:FuncData}(F:Fun K "_law_folded" "_law_folded" (topL 27) f fd)(B:Blt D):FnOk P w K D C CX0 1 f fd ["_law_script","_law_size"] (zaH K):=by
 have nd:=zaR.nd;refine F.ok zaR (fun vs H Q E h=>?_) (fun ag A ae s H vs Q E hr h=>?_)
 ·obtain⟨a,g,z,rfl,_⟩:=h
  rfl
 ·obtain⟨a,g,z,rfl,hS,af,ai,aj,k⟩:=h
  refine⟨_,(zg (zF (i:=2) nd rfl (Or.inl rfl) (jg JS rfl B.list xt (za (ja jI (pv 0) j4 (qX (pv 1))) ze)))
   (zg (qJ jc rfl (Zf rfl B.enumerate (za (ja jI (pv 0) (qX (pv 1)) (qX zf)) ze)) (qR rfl (zu (zp (i:=3) nd rfl (Or.inl rfl)) (zu (zp (i:=4) nd rfl (Or.inl rfl)) qq)))
   (zk (jK (zr zD (zy zH (pv 2) (zr xz (pv 3) (pv 1)) (fun _ _=>rfl)) (zr xy (pv 4) (zr zD (pv 3) zf))) (Jw (pv 2) (zr xz (pv 3) (pv 1)) wI))))
   (zk (zC (pv 2))))),?_⟩
  refine⟨_,rfl,_,rfl,_,rfl,a,_,rfl,hS,fun l hl=>⟨l,_,rfl,.inl (u9 zd),fun p hp=>?_⟩⟩
  have s1:Same H (upd (upd H l (.lst (qk (g.map V.int) none (some (z:Int))))) p (.lst (qk (g.map V.int) none (some (z:Int))))):=(zc hl).trans (zc hp);generalize a0:upd (upd H l (.lst (qk (g.map V.int) none (some (z:Int))))) p (.lst (qk (g.map V.int) none (some (z:Int))))=H1 at s1;have L:H1 p=some (.lst (qk (g.map V.int) none (some (z:Int)))):=by rw[<- a0];exact zd
  have np:H p=none:=(zc hl).free hp;refine⟨_,rfl,_,rfl,_,rfl,_,rfl,a,_,rfl,s1.seq hS,fun q hq=>⟨q,rfl,⟨_,u9 zd⟩,?_⟩⟩
  have O:p≠q:=zi L hq;obtain⟨aa,u⟩:=zbC g none (some (z:Int));have lo:=zcL g z;have hi:=zcM g z (some 63);refine ZL (K:=K) (a:=q) (xs:=qk (g.map V.int) (some (z:Int)) (some 63)) (YG a z p H q g)
   ⟨aa,none,none,rfl,s1.trans (zc hq),by rw[zm O,L,u],zd,by rw[<- lo,u,zx]⟩ (fun i σ U _ ⟨_,_,_,_,_,_,h,_⟩=>u9 h) ?_ ?_
  ·rintro i x σ U T hx ⟨I,v3,v4,rfl,Y,j,G,J⟩ hT
   have ah:i<(qk (g.map V.int) (some (z:Int)) (some 63)).length:=(zZ.mp hx).1;obtain⟨c,rfl⟩:∃c,x=V.int c:=by
    have:=zbB (qI hx);obtain⟨c,_,e⟩:=jS.mp this;exact⟨c,e.symm⟩
   have hj:i % z<I.length:=by
    have:=Nat.mod_lt i (show 0<z by omega)
    omega
   have ab:p≠T:=zi j hT;have ac:q≠T:=zi G hT;have M:upd U T (.tup [.int i,.int c]) p=some (.lst (I.map V.int)):=by rw[zm ab];exact j
   have em:((i % z:Nat):Int)=(i:Int) % (z:Int):=Int.natCast_emod i z;have N:(0:Int)<(z:Int):=by omega
   refine⟨T,_,rfl,ua zd,rfl,_,_,rfl,_,_,rfl,rfl,?_⟩
   refine⟨_,rfl,_,rfl,_,rfl,_,_,rfl,rfl,N,p,_,_,.int I[i % z],rfl,rfl,u9 M,(by rw[<- em];exact qP (by simp[hj])),?_⟩
   refine⟨_,rfl,_,rfl,_,_,rfl,rfl,_,_,rfl,rfl,.inr ⟨?_,?_⟩,_,_,rfl,rfl,?_⟩
   ·have e1:(-(2^64):Int)= -18446744073709551616:=by decide
    rw[e1];omega
   ·have e2:((2^64):Int)=18446744073709551616:=by decide
    rw[e2];omega
   refine⟨_,rfl,_,rfl,_,rfl,_,_,rfl,rfl,N,p,_,_,i % z,rfl,rfl,M,(by rw[<- em,zx];exact Yc hj),?_⟩
   refine⟨I.set (i % z) (I[i % z]+c*((i:Int)+2)),_,_,rfl,fun d o e=>?_,by rw[zd,List.map_set],?_,by rw[V0];exact J⟩
   ·rw[zm (zi e np),zm (zi (Y d o e) hT)]
    exact Y d o e
   ·rw[zm (qB O),zm ac]
    exact G
  ·rintro σ U ⟨I,v3,v4,rfl,Y,j,G,J⟩
   exact⟨_,rfl,k p I U Y (u9 j) (by omega)⟩
theorem le0:([]:List V).length<=sizeLine:=qQ _
theorem le2{x y:V}:[x,y].length<=sizeLine:=by rw[sizeLine_eq];exact(by decide:2<=16777216)
theorem SameB.refl(b:Addr)(H:Hp):SameB b H H:=fun _ _ e _=>e
def um:=@SameB.refl
theorem SameB.trans{b:Addr}{H f g:Hp}(a:SameB b H f)(c:SameB b f g):SameB b H g:=fun d o e j=>c d o (a d o e j) j
theorem SameB.of{b:Addr}{H f:Hp}(a:Same H f):SameB b H f:=fun d o e _=>a d o e
def ue:=@SameB.of
theorem SameB.new{b p:Addr}{o:HO}{H f:Hp}(a:SameB b H f)(h:f p=none):SameB b H (upd f p o):=a.trans (.of (zc h))
theorem BoxAt.new{b p:Addr}{o:HO}{H:Hp}{n:Int}(a:BoxAt H b n)(h:H p=none):BoxAt (upd H p o) b n:=by
 obtain⟨f,b1,b2,e,r⟩:=a;exact⟨f,b1,b2,by rw[zm (zi e h)];exact e,r⟩
theorem BoxAt.same{b:Addr}{H f:Hp}{n:Int}(a:BoxAt H b n)(s:Same H f):BoxAt f b n:=by
 obtain⟨g,b1,b2,e,r⟩:=a;exact⟨g,b1,b2,s _ _ e,r⟩
theorem BoxAt.ne{b t:Addr}{H:Hp}{n:Int}{o:HO}(a:BoxAt H b n)(h:H t=some o)(f:∀x y z,o≠.lst [x,y,z]):t≠b:=by
 obtain⟨g,b1,b2,e,r⟩:=a;exact xW h e (f _ _ _)
theorem BoxAt.some{b:Addr}{H:Hp}{n:Int}(a:BoxAt H b n):∃o,H b=.some o:=let ⟨_,_,_,e,_⟩:=a;⟨_,e⟩
theorem BoxAt.mono{b:Addr}{H:Hp}{n m:Int}(a:BoxAt H b n)(h:n<=m):BoxAt H b m:=by
 obtain⟨f,b1,b2,e,g,j,l,s,u⟩:=a;exact⟨f,b1,b2,e,g,j,l,s,by omega⟩
theorem le1{x:V}:[x].length<=sizeLine:=by rw[sizeLine_eq];exact(by decide:1<=16777216)
theorem le3{x y z:V}:[x,y,z].length<=sizeLine:=by rw[sizeLine_eq];exact(by decide:3<=16777216)
theorem le4{x y z u:V}:[x,y,z,u].length<=sizeLine:=by rw[sizeLine_eq];exact(by decide:4<=16777216)
theorem leN{f:List V}(h:f.length<=1000):f.length<=sizeLine:=by rw[sizeLine_eq];omega
theorem JV{α:Type}{xs:List α}{i:Int}(h:0<=i)(g:i<xs.length):∃v,atI xs i=some v/\xs[i.toNat]? =some v:=by
 have f:i.toNat<xs.length:=by omega
 refine⟨xs[i.toNat],?_,by simp[f]⟩
 have:=qP (xs:=xs) (j:=i.toNat) (v:=xs[i.toNat]) (by simp[f])
 rwa[show((i.toNat:Nat):Int)=i by omega] at this
theorem SameB.put{b m:Addr}{H f:Hp}{o:HO}(s:SameB b H f)(h:H m=none):SameB b H (upd f m o):=fun c u e hc=>by
 rw[zm (zi e h)];exact s c u e hc
theorem SameB.none{b m:Addr}{H f:Hp}(s:SameB b H f)(h:f m=none)(hm:m≠b):H m=none:=by
 cases q:H m with
 | none=>rfl
 | some o=>have:=s m o q hm;rw[h] at this;cases this
def vg(x:Str):Prop:=(x.cps.toList.map X2).all id=true
theorem zd3{r:Int}(g:0<=r)(j:r<26):∃c,atI zeE.cps.toList r=some c/\X2 c=true:=by
 rw[zbk];obtain⟨c,e,f⟩:=JV (xs:=List.range' 97 26) g (by rw[List.length_range'];omega)
 have hm:=List.mem_range'_1.mp (qI f);refine⟨c,e,?_⟩
 unfold X2;rw[zS (by omega),zS (by omega)]
 rfl
theorem zbj{c:Nat}{y:Str}(h:X2 c=true)(hy:vg y):vg ((⟨#[c]⟩:Str)++y):=by
 unfold vg at hy ⊢;show((#[c]++y.cps).toList.map X2).all id=true;rw[Array.toList_append,zY,List.all_append,hy,yy];show(X2 c&&true)=true;rw[h];rfl
theorem zbl{c:Nat}{y:Str}:((⟨#[c]⟩:Str)++y).length=y.length+1:=by
 show(#[c]++y.cps).size=y.cps.size+1;rw[Array.size_append];show 1+_=_;omega
theorem BoxAt.nne{b p:Addr}{H:Hp}{n:Int}(a:BoxAt H b n)(h:H p=none):p≠b:=by
 obtain⟨o,e⟩:=a.some;exact(zi e h).symm
theorem BoxAt.other{b l:Addr}{H:Hp}{n:Int}{o:HO}(a:BoxAt H b n)(h:l≠b):BoxAt (upd H l o) b n:=by
 obtain⟨f,b1,b2,e,r⟩:=a;exact⟨f,b1,b2,by rw[zm (qB h)];exact e,r⟩
def Nm(x:Str):Prop:=x.length<=8/\∀c∈x.cps.toList,c<1000000
theorem zeP{x:Str}(h:x.length<=8)(l:vg x):Nm x:=⟨h,fun c hc=>by
 unfold vg at l;have:=xm.mp l (X2 c) (jS.mpr ⟨c,hc,rfl⟩);unfold X2 at this;simp at this;omega⟩
theorem Qs:∀(f:List Str),(f.map V.str).all jR=true
 | []=>rfl
 | n::f=>by
  show(true&&(f.map V.str).all jR)=true;rw[Qs f];rfl
inductive QB(j:List V)(H:Hp)(Q:VK):Prop
 | mk (g f:Int) (_:j=[.int g,.int f]) (_:0<=g) (_:1<=f) (_:f<=8) (_:∀y:Str,(y.length:Int)=f->vg y->Q (.str y) H):QB  j H Q
def Wu:Sp:=fun f H Q _=>QB  f H Q
theorem WL:zI ["_law_number","_law_size","_law_word","_law_k"] ["_law_number","_law_size"] (zv (topL 28)):=u7
def YF(g:_)(H:_):=fun(i:Nat) (σ:St) (j:Hp)=>(Ex3 fun(f:Int) (y:Str) (l:Option V)=>An5 (σ=[some (.int f),some (.int g),some (.str y),l]) (0<=f) (y.length=i) (vg y) (j=H):Prop)
theorem za5{f:Addr}{L:FuncData}(F:Fun K "_law_spelled" "_law_spelled" (topL 28) f L)(B:Blt D):FnOk P w K D C CX0 1 f L ["_law_number","_law_size"] Wu:=by
 have G:=WL.nd;refine F.ok WL (fun vs H Q E h=>?_) (fun U A J s H vs Q E hr h=>?_)
 ·obtain⟨u,j,rfl,_⟩:=h
  rfl
 ·obtain⟨u,j,rfl,n0,s0,s1,k⟩:=h
  have M:=bG100000;have l:=bGe;refine⟨_,(zg (zF (i:=2) G rfl (Or.inl rfl) xM)
   (zg (qJ jc rfl (qU rfl B.range (za (pv 1) ze)) (zp (i:=3) G rfl (Or.inl rfl))
   (zg (zF (i:=2) G rfl (Or.inl rfl) (zr VJ (zy zd8 xM (zr xz (pv 0) zf) (fun _ _=>rfl)) (pv 2)))
    (zk (zF (i:=0) G rfl (Or.inl rfl) (zr W5 (pv 0) zf)))))
   (zk (zC (pv 2))))),?_⟩
  refine⟨_,rfl,_,rfl,(by rw[l];omega),(by rw[l];omega),?_⟩
  refine jF (YF j H) ⟨u,_,_,rfl,n0,rfl,rfl,rfl⟩ ?_ ?_
  ·rintro i σ T hi ⟨g,y,v3,rfl,O,N,I,rfl⟩
   obtain⟨c,hc,Y⟩:=zd3 (r:=g % 26) (yQ _ (by decide)) (yW _ (by decide))
   refine⟨_,rfl,_,_,rfl,rfl,(by show(0:Int)<26;decide),_,_,c,rfl,rfl,(by rw[sizeLine_eq];decide),hc,_,rfl,_,_,rfl,rfl,?_,?_⟩
   ·show 1+y.length<=sizeLine
    omega
   ·exact⟨_,rfl,_,_,rfl,rfl,⟨by decide,by decide⟩,_,_,_,rfl,Int.ediv_nonneg O (by decide),by rw[zbl,N],zbj Y I,rfl⟩
  ·rintro σ T ⟨g,y,v3,rfl,O,N,I,rfl⟩
   exact⟨_,rfl,k y (by omega) I⟩
inductive WC(j:List V)(H:Hp)(Q:VK):Prop
 | mk (b t:Addr) (n:Int) (g:List Str) (_:j=[.ref b,.ref t]) (_:BoxAt H b n) (_:n<1099511000000) (_:t≠b) (_:H t=some (.lst (g.map V.str))) (_:g.length<=1000) (_:∀(y:Str) f,SameB b H f->BoxAt f b (n+12)->1<=y.length->y.length<=8->vg y->Q (.str y) f):WC  j H Q
def zcX:Sp:=fun f H Q _=>WC  f H Q
theorem zc3:zI ["_law_box_here","_law_taken","_law_size","_law_number","_law_k","_law_word","_law_turn"] ["_law_box_here","_law_taken"] (zv (topL 29)):=u7
theorem zdC{r:Int}(f:0<=r)(g:r<4):∃z:Int,atI [V.int 3,V.int 3,V.int 3,V.int 8] r=some (.int z)/\3<=z/\z<=8:=by
 have hc:r=0\/r=1\/r=2\/r=3:=by omega
 rcases hc with rfl | rfl | rfl | rfl
 ·exact⟨3,rfl,by decide,by decide⟩
 ·exact⟨3,rfl,by decide,by decide⟩
 ·exact⟨3,rfl,by decide,by decide⟩
 ·exact⟨8,rfl,by decide,by decide⟩
def YE(b:_)(t:_)(j:_)(H:_)(n:_):=fun(i:Nat) (σ:St) (g:Hp)=>(Ex2 fun(f:Int) (l:Option V)=>An4 (σ=[some (.ref b),some (.ref t),some (.int (1+j)),some (.int f),l,none,none]) (0<=f) (SameB b H g) (BoxAt g b (n+2+i)):Prop)
def YD(b:_)(t:_)(l:_)(f:_)(g:_):=fun(i:Nat) (σ:St) (j:Hp)=>(Ex3 fun(s u:Option V) (y:Str)=>An5 (σ=[some (.ref b),some (.ref t),some (.int (1+l)),some (.int f),s,some (.str y),u]) (1<=y.length) (y.length<=8) (vg y) (j=g):Prop)
theorem zdU{f:Addr}{fd:FuncData}(F:Fun K "_law_name" "_law_name" (topL 29) f fd)(B:Blt D)(j:Dfn P w K D C "_law_take" 1 ["_law_box_here","_law_size"] vA)(g:Dfn P w K D C "_law_spelled" 1 ["_law_number","_law_size"] Wu):FnOk P w K D C CX0 2 f fd ["_law_box_here","_law_taken"] zcX:=by
 have G:=zc3.nd;refine F.ok zc3 (fun vs H Q E h=>?_) (fun ae A ac s H vs Q E L h=>?_)
 ·obtain⟨b,t,n,O,rfl,_⟩:=h
  rfl
 ·obtain⟨b,t,n,O,rfl,B0,hn,ab,ht,af,k⟩:=h
  have u:=bGe;refine⟨_,(zg (zF (i:=2) G rfl (Or.inl rfl) (zr zD zf (zn j L.m rfl (za (pv 0) (za (zy zH (zT (za zf (za zf (za zf (za zf ze))))) (zn j L.m rfl (za (pv 0) (za zf ze))) (fun _ _=>rfl)) ze)))))
   (zg (zF (i:=3) G rfl (Or.inl rfl) zf)
   (zg (qJ jc rfl (qU rfl B.range (za (pv 2) ze)) (zp (i:=4) G rfl (Or.inl rfl))
   (zk (zF (i:=3) G rfl (Or.inl rfl) (zr zD (zr xy (pv 3) zf) (zn j L.m rfl (za (pv 0) (za zf ze)))))))
   (zg (zF (i:=5) G rfl (Or.inl rfl) (zn g L.m rfl (za (pv 3) (za (pv 2) ze))))
   (zg (qJ jc rfl (qU rfl B.range (za (zr zD (zo zA rfl B.len boot_len (za (pv 1) ze)) zf) ze)) (zp (i:=6) G rfl (Or.inl rfl))
   (zk (qH (zG vR (pv 5) (pv 1) (by with_unfolding_all rfl))
    (zk (zF (i:=5) G rfl (Or.inl rfl) (zn g L.m rfl (za (zr zD (pv 3) (pv 6)) (za zf ze)))))
    zQ)))
   (zk (zC (pv 5)))))))),?_⟩
  refine⟨_,rfl,le4,fun l hl=>⟨_,rfl,b,4,n,rfl,B0.new hl,by omega,by decide,by decide,fun r H1 r0 r1 B1 S1=>?_⟩⟩
  have L1:=S1 l _ (zd (H:=H)) ((B0.new hl).ne (zd (H:=H) (o:=.lst [.int 3,.int 3,.int 3,.int 8])) (by intro x y z e;cases e))
  have U:=((um b H).new (o:=.lst [.int 3,.int 3,.int 3,.int 8]) hl).trans S1;obtain⟨z,ez,z0,z1⟩:=zdC r0 r1;refine⟨l,_,_,_,rfl,rfl,u9 L1,ez,b,z,n+1,rfl,B1,by omega,by omega,by omega,fun r2 H2 a0 a1 B2 S2=>⟨_,_,rfl,rfl,?_⟩⟩
  have Y:=U.trans S2;refine⟨_,rfl,_,rfl,(by rw[u];omega),(by rw[u];omega),?_⟩
  refine jF (YE b t r2 H n) ⟨0,_,rfl,by decide,Y,B2.mono (by omega)⟩ ?_ ?_
  ·rintro i σ H4 hi ⟨I,v4,rfl,m0,N,T⟩
   refine⟨_,rfl,_,_,rfl,rfl,.inr ⟨by decide,by decide⟩,_,rfl,b,26,_,rfl,T,by omega,by decide,by decide,fun r3 H5 c0 c1 B5 S5=>⟨_,_,rfl,rfl,_,_,rfl,?_,N.trans S5,B5.mono (by omega)⟩⟩
   omega
  ·rintro σ H4 ⟨I,v4,rfl,m0,N,T⟩
   refine⟨_,rfl,_,rfl,I,1+r2,rfl,m0,by omega,by omega,fun y ly J=>?_⟩
   have M:=N t _ ht ab;have el:(O.map V.str).length=O.length:=zx ..;refine⟨_,rfl,t,_,rfl,.inl (u9 M),_,_,rfl,rfl,_,rfl,(by rw[u,el];omega),(by rw[u,el];omega),?_⟩
   refine jF (YD b t r2 I H4) ⟨_,_,y,rfl,by omega,by omega,J,rfl⟩ ?_ ?_
   ·rintro i σ H5 hi ⟨v4,v6,y,rfl,y0,y1,J,rfl⟩
    refine⟨_,rfl,_,rfl,t,_,rfl,.inl (u9 M),rfl,Qs O,_,rfl,qZ (fun c=>?_) (fun c=>⟨_,_,y,rfl,y0,y1,J,rfl⟩)⟩
    exact⟨_,rfl,_,rfl,_,_,rfl,rfl,_,8,rfl,by omega,by decide,by decide,fun y' ag aa=>⟨_,_,y',rfl,by omega,by omega,aa,rfl⟩⟩
   ·rintro σ H5 ⟨v4,v6,y,rfl,y0,y1,J,rfl⟩
    exact⟨_,rfl,k y _ N (T.mono (by omega)) y0 y1 J⟩
def Row(H:Hp)(l:Addr)(f:List Str):Prop:=H l=some (.lst (f.map V.str))/\∀x∈f,Nm x
theorem Row.same{H f:Hp}{l:Addr}{g:List Str}(r:Row H l g)(s:Same H f):Row f l g:=⟨s _ _ r.1,r.2⟩
theorem Row.draw{H f:Hp}{b l:Addr}{g:List Str}(r:Row H l g)(s:SameB b H f)(h:l≠b):Row f l g:=⟨s _ _ r.1 h,r.2⟩
inductive QG(j:List V)(H:Hp)(Q:VK):Prop
 | mk (b:Addr) (m n:Int) (_:j=[.ref b,.int m]) (_:BoxAt H b n) (_:n<1000000) (_:0<=m) (_:m<=12) (_:∀(l:Addr) (g:List Str) f,SameB b H f->BoxAt f b (n+150)->l≠b->H l=none->Row f l g->(g.length:Int)=m->Q (.ref l) f):QG  j H Q
def WB:Sp:=fun f H Q _=>QG  f H Q
theorem WQ:zI ["_law_box_here","_law_many","_law_found","_law_k"] ["_law_box_here","_law_many"] (zv (topL 30)):=u7
def YC(b:_)(m:_)(l:_)(H:_)(n:_):=fun(i:Nat) (σ:St) (f:Hp)=>(Ex2 fun(g:List Str) (j:Option V)=>An5 (σ=[some (.ref b),some (.int m),some (.ref l),j]) (SameB b H f) (BoxAt f b (n+12*i)) (Row f l g) (g.length=i):Prop)
theorem zba{f:Addr}{fd:FuncData}(F:Fun K "_law_names" "_law_names" (topL 30) f fd)(B:Blt D)(g:Dfn P w K D C "_law_name" 2 ["_law_box_here","_law_taken"] zcX):FnOk P w K D C CX0 3 f fd ["_law_box_here","_law_many"] WB:=by
 have nd:=WQ.nd;refine F.ok WQ (fun vs H Q E h=>?_) (fun aa A O s H vs Q E hr h=>?_)
 ·obtain⟨b,m,n,rfl,_⟩:=h
  rfl
 ·obtain⟨b,m,n,rfl,T,hn,m0,m1,k⟩:=h
  have a0:=bG100000;have G:=bGe;refine⟨_,(zg (zF (i:=2) nd rfl (Or.inl rfl) (zT ze))
   (zg (qJ jc rfl (qU rfl B.range (za (pv 1) ze)) (zp (i:=3) nd rfl (Or.inl rfl))
   (zk (qM (j7 xf xK xJ qA (pv 2) (za (zn g hr.m rfl (za (pv 0) (za (pv 2) ze))) ze)))))
   (zk (zC (pv 2))))),?_⟩
  refine⟨le0,fun l I=>?_⟩
  have J:=T.nne I;refine⟨_,rfl,_,rfl,(by rw[G];omega),(by rw[G];omega),?_⟩
  refine jF (YC b m l H n) ⟨[],_,rfl,(um b H).new I,(T.new I).mono (by omega),⟨zd,fun x h=>nomatch h⟩,rfl⟩ ?_ ?_
  ·rintro i σ U hi ⟨L,v3,rfl,N,M,u,j⟩
   refine⟨_,rfl,.inl ⟨rfl,_,u9 u.1⟩,_,rfl,_,rfl,b,l,_,L,rfl,M,by omega,J,u.1,by omega,fun y H5 Y B5 y0 y1 al=>⟨l,_,_,rfl,rfl,(u.draw Y J).1,by rw[zx,j];omega,?_⟩⟩
   refine⟨L++[y],_,rfl,(N.trans Y).put I,(B5.other J).mono (by omega),⟨by rw[zd,zY];rfl,fun x hx=>?_⟩,by rw[qG,j];rfl⟩
   rcases qC.mp hx with q | q
   ·exact u.2 x q
   ·rw[qu.mp q];exact zeP y1 al
  ·rintro σ U ⟨L,v3,rfl,N,M,u,j⟩
   exact⟨_,rfl,k l L U N (M.mono (by omega)) J I u (by omega)⟩
inductive Xu(K:W.Frag)(j:List V)(H:Hp)(Q:VK):Prop
 | mk (b a:Addr) (n:Int) (g:List V) (_:j=[.ref b,.ref a]) (_:BoxAt H b n) (_:n<1000000) (_:a≠b) (_:H a=some (.lst g)) (_:g.length<=1000) (_:∀(l:Addr) (s:List V) f,SameB b H f->BoxAt f b (n+g.length)->l≠b->H l=none->f l=some (.lst s)->s.Perm g->Q (.ref l) f):Xu K j H Q
def zaA(K:W.Frag):Sp:=fun f H Q _=>Xu K f H Q
theorem zaM:zI ["_law_box_here","_law_some","_law_found","_law_one"] ["_law_box_here","_law_some"] (zv (topL 31)):=u7
def YB(b:_)(a:_)(l:_)(H:_)(n:_)(g:List V):=fun(i:Nat) (σ:St) (f:Hp)=>(Ex2 fun(j:List V) (s:Option V)=>An6 (σ=[some (.ref b),some (.ref a),some (.ref l),s]) (SameB b H f) (BoxAt f b (n+i)) (f a=some (.lst g)) (f l=some (.lst j)) (j.Perm (g.take i)):Prop)
theorem zcm{f:Addr}{fd:FuncData}(F:Fun K "_law_shuffled" "_law_shuffled" (topL 31) f fd)(B:Blt D)(g:Dfn P w K D C "_law_take" 1 ["_law_box_here","_law_size"] vA):FnOk P w K D C CX0 2 f fd ["_law_box_here","_law_some"] (zaA K):=by
 have nd:=zaM.nd;refine F.ok zaM (fun vs H Q E h=>?_) (fun ab A a0 s H vs Q E hr h=>?_)
 ·obtain⟨b,a,n,u,rfl,_⟩:=h
  rfl
 ·obtain⟨b,a,n,u,rfl,B0,hn,U,ha,ac,k⟩:=h
  have aa:=bG100000;have T:=bGe;refine⟨_,(zg (zF (i:=2) nd rfl (Or.inl rfl) (zT ze))
   (zg (qJ jc rfl (qz (pv 1)) (zp (i:=3) nd rfl (Or.inl rfl))
   (zk (qM (j7 xf PySem.F.slot_list_insert PySem.F.type_list_insert Y1 (pv 2) (za (zn g hr.m rfl (za (pv 0) (za (zr zD (zo zA rfl B.len boot_len (za (pv 2) ze)) zf) ze))) (za (pv 3) ze))))))
   (zk (zC (pv 2))))),?_⟩
  refine⟨le0,fun l j=>?_⟩
  have nl:=B0.nne j;have Y:a≠l:=zi ha j;refine⟨_,rfl,a,rfl,⟨_,u9 ((zc j) _ _ ha)⟩,xA (K:=K) (a:=a) (xs:=u) (YB b a l H n u)
   ⟨[],_,rfl,(um b H).new j,(B0.new j).mono (by omega),(zc j) _ _ ha,zd,.nil⟩ (fun i σ M _ ⟨_,_,_,_,_,h,_,_⟩=>u9 h) ?_ ?_⟩
  ·rintro i x σ M hx ⟨J,v3,rfl,N,L,A4,G,I⟩
   have hi:=(zZ.mp hx).1;have yl:J.length=i:=by rw[I.length_eq,jq];omega
   refine⟨_,rfl,.inl ⟨rfl,_,u9 G⟩,_,rfl,_,rfl,l,_,rfl,.inl (u9 G),_,_,rfl,rfl,b,_,_,rfl,L,by omega,by omega,by omega,fun q H5 q0 q1 B5 O=>⟨_,rfl,?_⟩⟩
   refine⟨l,J,q,x,rfl,rfl,O l _ G nl,q0,by rw[T];omega,by omega,?_⟩
   refine⟨_,_,rfl,(N.trans O).put j,(B5.other nl).mono (by omega),by rw[zm Y];exact O a _ A4 U,zd,?_⟩
   have e1:u.take (i+1)=u.take i++[x]:=by
    obtain⟨h1,h2⟩:=zZ.mp hx;rw[<- h2,List.take_append_getElem]
   rw[e1];refine List.perm_middle.trans ?_
   rw[Wc];exact((List.Perm.cons x I).trans (List.perm_append_singleton x _).symm)
  ·rintro σ M ⟨J,v3,rfl,N,L,A4,G,I⟩
   rw[jO] at I;exact⟨_,rfl,k l J M N L nl j G I⟩
end
def SameT(H f:Hp):Prop:=∀a u,H a=some u->(∀g,u≠.lst g)->f a=some u
theorem SameT.refl(H:Hp):SameT H H:=fun _ _ e _=>e
theorem SameT.trans{H f g:Hp}(a:SameT H f)(b:SameT f g):SameT H g:=fun c u e h=>b c u (a c u e h) h
theorem SameT.of{H f:Hp}(s:Same H f):SameT H f:=fun a u e _=>s a u e
theorem SameT.draw{H f:Hp}{b:Addr}{n:Int}(B:BoxAt H b n)(s:SameB b H f):SameT H f:=fun a u e h=>by
 obtain⟨j,b1,b2,g,_⟩:=B;exact s a u e (fun z=>by rw[z,g] at e;cases e;exact h _ rfl)
def uh:=@SameT.draw
theorem SameT.put{H:Hp}{l:Addr}{xs ys:List V}(h:H l=some (.lst xs)):SameT H (upd H l (.lst ys)):=fun a u e hu=>by
 rw[zm (fun z=>by rw[z,h] at e;cases e;exact hu _ rfl)];exact e
mutual
def Dat.imm:Dat->Bool
 | .lst _=>false
 | .tup f=>Dat.imms f
 | _=>true
def Dat.imms:List Dat->Bool
 | []=>true
 | d::f=>d.imm&&Dat.imms f
end
section
variable{P:Program}{w:World}{K:W.Frag}{L:Str->Option Value}{C:Heap}
theorem SqT.keep{H H':Hp}{a:Addr}{f:List V}(q:SqT K H a f)(s:SameT H H'):SqT K H' a f:=by
 rcases q with(q | ⟨o,q⟩) | q
 ·exact .inl (.inl (s a _ q (fun z h=>nomatch h)))
 ·exact .inl (.inr ⟨o,s a _ q (fun z h=>nomatch h)⟩)
 ·exact .inr q
mutual
theorem Rep.keep{H H':Hp}(s:SameT H H'):∀{d:Dat} {v:V},d.imm=true->Rep K H d v->Rep K H' d v
 | .non,_,_,h=>h
 | .bl _,_,_,h=>h
 | .int _,_,_,h=>h
 | .str _,_,_,h=>h
 | .lst _,_,i,_=>by cases i
 | .tup ds,_,i,h=>by
  obtain⟨a,f,e,q,r⟩:=h;exact⟨a,f,e,q.keep s,Reps.keep s (ds:=ds) i r⟩
theorem Reps.keep{H H':Hp}(s:SameT H H'):∀{ds:List Dat} {g:List V},Dat.imms ds=true->Reps K H ds g->Reps K H' ds g
 | [],_,_,h=>h
 | d::ds,_,i,h=>by
  obtain⟨x,r,e,j,l⟩:=h;have f:(d.imm&&Dat.imms ds)=true:=i;rw[jn] at f;exact⟨x,r,e,Rep.keep s f.1 j,Reps.keep s f.2 l⟩
end
theorem Reps.snoc{H:Hp}{d:Dat}{v:V}(h:Rep K H d v):∀{f:List Dat} {g:List V},Reps K H f g->Reps K H (f++[d]) (g++[v])
 | [],_,e=>by rw[show _=_ from e];exact⟨v,[],rfl,h,rfl⟩
 | _::_,_,e=>by
  obtain⟨x,r,j,l,s⟩:=e;subst j;exact⟨x,r++[v],rfl,l,Reps.snoc h s⟩
def uj:=@Reps.snoc
def xT(p:Nat×Nat):Dat:=.tup [.int p.1,.int p.2]
def Yo(f:List (Nat×Nat)):Dat:=.tup (f.map xT)
theorem qL:∀(f:List (Nat×Nat)),Dat.imms (f.map xT)=true
 | []=>rfl
 | p::f=>by
  show(Dat.imm (xT p)&&Dat.imms (f.map xT))=true;rw[qL f];rfl
def ByOrd(f:List Nat)(g:List (Nat×Nat)):Prop:=∀p∈g,∃k l:Nat,k<l/\f[k]? =some p.1/\f[l]? =some p.2
theorem Reps.take{H:Hp}:∀(n:Nat) {f:List Dat} {g:List V},Reps K H f g->Reps K H (f.take n) (g.take n)
 | 0,_,_,_=>rfl
 | n+1,[],_,h=>by rw[show _=_ from h];exact rfl
 | n+1,d::f,_,h=>by
  obtain⟨x,r,e,j,l⟩:=h;subst e;exact⟨x,r.take n,rfl,j,Reps.take n l⟩
theorem Reps.app{H:Hp}:∀{f j:List Dat} {l s:List V},Reps K H f l->Reps K H j s->Reps K H (f++j) (l++s)
 | [],_,_,_,h,g=>by rw[show _=_ from h];exact g
 | d::f,_,_,_,h,g=>by
  obtain⟨x,r,e,u,A⟩:=h;subst e;exact⟨x,r++_,rfl,u,Reps.app A g⟩
structure zaq where
 k:Str
 x:Int
 y:Int
structure zcS where
 k:Str
 x:Int
 y:Int
 m:Int
def xS(p:zaq):Dat:=.tup [.str p.k,.tup [.int p.x,.int p.y]]
def we(p:zcS):Dat:=.tup [.str p.k,.tup [.int p.x,.int p.y],.int p.m]
theorem vU:∀(f:List zcS),Dat.imms (f.map we)=true
 | []=>rfl
 | p::f=>by
  show(Dat.imm (we p)&&Dat.imms (f.map we))=true;rw[vU f];rfl
theorem jU:∀(f:List zaq),Dat.imms (f.map xS)=true
 | []=>rfl
 | p::f=>by
  show(Dat.imm (xS p)&&Dat.imms (f.map xS))=true;rw[jU f];rfl
def inP(x y:Int):Prop:=0<=x/\x<=1000/\0<=y/\y<=1000
structure Job where
 gx:Int
 gy:Int
 hd:Int
 fs:List zcS
 ps:List zaq
 as:List (Nat×Nat)
def X6(J:Job):Dat:=.tup [.tup [.int J.gx,.int J.gy],.int J.hd,.tup (J.fs.map we),.tup (J.ps.map xS),Yo J.as]
theorem xX(J:Job):(X6 J).imm=true:=by
 show(true&&(true&&(Dat.imms (J.fs.map we)&&(Dat.imms (J.ps.map xS)&&(Dat.imms (J.as.map xT)&&true)))))=true;rw[vU,jU,qL];rfl
structure wr(J:Job)(ord:List Nat):Prop where
 gate:inP J.gx J.gy
 hd0:1<=J.hd
 hd1:J.hd<=4
 fl:J.fs.length<=40
 fa:∀f∈J.fs,Nm f.k/\inP f.x f.y/\0<=f.m/\f.m<=400
 pl:J.ps.length<=60
 pa:∀p∈J.ps,Nm p.k/\inP p.x p.y/\∃f∈J.fs,f.k=p.k
 op:ord.Perm (List.range J.ps.length)
 bo:ByOrd ord J.as
 al:J.as.length<=300
 f0:1<=J.fs.length
theorem qe{α:Type}{l:List α}{i:Nat}{x:α}(h:l[i]? =some x):l.take (i+1)=l.take i++[x]:=by
 obtain⟨g,f⟩:=zZ.mp h;rw[<- f,List.take_append_getElem]
def zL(os:List Nat):List V:=os.map fun i:Nat=>V.int (i:Int)
theorem qg(os:List Nat):(zL os).length=os.length:=zx ..
theorem XX(os:List Nat):zL os=(os.map fun i:Nat=>(i:Int)).map V.int:=by unfold zL;rw[ZV];rfl
theorem vT:∀os:List Nat,(zL os).all jR=true
 | []=>rfl
 | o::os=>by
  show(true&&(zL os).all jR)=true;rw[vT os];rfl
theorem JH(k:Nat):∀os:List Nat,inV (.int (k:Int)) (zL os)=decide (k∈os)
 | []=>rfl
 | o::os=>by
  show((o:Int)==(k:Int)||inV (.int (k:Int)) (zL os))=_
  rw[JH k os];by_cases h:o=k
  ·subst h;simp
  ·have e:((o:Int)==(k:Int))=false:=by simp;omega
   rw[e,J8,yT];exact⟨fun z=>jv _ z,fun z=>(zW.mp z).resolve_left fun y=>h y.symm⟩
theorem QZ(k:Nat):∀os:List Nat,((os.map fun i:Nat=>(i:Int)).erase (k:Int))=(os.erase k).map fun i:Nat=>(i:Int)
 | []=>rfl
 | o::os=>by
  rw[xD,List.erase_cons,List.erase_cons];by_cases h:(o==k)=true
  ·have e:((o:Int)==(k:Int))=true:=by
    have:=eq_of_beq h;simp[this]
   rw[zw h,zw e]
  ·have e:¬((o:Int)==(k:Int))=true:=fun z=>h (by
    have:=eq_of_beq z;have:o=k:=by omega
    simp[this])
   rw[zq h,zq e,xD,QZ k os]
theorem XY{os:List Nat}{i:Nat}{x:V}(h:(zL os)[i]? =some x):∃k,os[i]? =some k/\x=.int (k:Int):=by
 unfold zL at h;rw[zX] at h;obtain⟨k,hk,rfl⟩:=jb.mp h;exact⟨k,hk,rfl⟩
def Early(os:List Nat)(f:List (Nat×Nat)):Prop:=∀p∈f,∀l:Nat,os[l]? =some p.2->∃k:Nat,k<l/\os[k]? =some p.1
theorem Early.snoc{os:List Nat}{g:List (Nat×Nat)}{k:Nat}(h:Early os g)(hk:∀p∈g,p.2=k->p.1∈os):Early (os++[k]) g:=by
 intro p hp l f;by_cases A:l<os.length
 ·rw[yf A] at f
  obtain⟨j,D,E⟩:=h p hp l f;exact⟨j,D,by rw[yf (by omega)];exact E⟩
 ·have u:l=os.length:=by
   have:=(zZ.mp f).1;rw[qG] at this;simp at this;omega
  subst u;rw[wp (zJ _),J3] at f;have e:k=p.2:=by simpa using f
  obtain⟨j,s,B⟩:=Z4.mp (hk p hp e.symm);exact⟨j,s,by rw[yf s,<- B];simp[s]⟩
theorem ByOrd.mem1{f:List Nat}{g:List (Nat×Nat)}(h:ByOrd f g){p:Nat×Nat}(hp:p∈g):p.1∈f:=by
 obtain⟨k,l,_,e,_⟩:=h p hp;exact qI e
theorem ByOrd.mem2{f:List Nat}{g:List (Nat×Nat)}(h:ByOrd f g){p:Nat×Nat}(hp:p∈g):p.2∈f:=by
 obtain⟨k,l,_,_,e⟩:=h p hp;exact qI e
theorem Early.ord{os ord:List Nat}{f:List (Nat×Nat)}(h:Early os f)(b:ByOrd ord f)(hp:os.Perm ord):ByOrd os f:=by
 intro p hq;obtain⟨l,u,g⟩:=Z4.mp (hp.mem_iff.mpr (b.mem2 hq));have e:os[l]? =some p.2:=by rw[<- g];simp[u]
 obtain⟨k,j,s⟩:=h p hq l e;exact⟨k,l,j,s,e⟩
def qr(left:List Nat)(f:List (Nat×Nat)):List Nat:=(f.filter fun p=>decide (p.1∈left)).map fun p=>p.2
def jh(left:List Nat)(f:List (Nat×Nat)):List Nat:=left.filter fun k=>!decide (k∈qr left f)
theorem X1{left:List Nat}{j:List (Nat×Nat)}{c:Nat}:c∈qr left j↔∃p∈j,p.1∈left/\p.2=c:=by
 unfold qr;rw[jS];constructor
 ·rintro⟨p,hp,rfl⟩
  obtain⟨f,g⟩:=xk.mp hp;exact⟨p,f,jH g,rfl⟩
 ·rintro⟨p,f,g,rfl⟩
  exact⟨p,xk.mpr ⟨f,zS g⟩,rfl⟩
theorem Y9{left f:List Nat}{g:List (Nat×Nat)}(b:ByOrd f g)(T:f.Nodup)(M:∀k∈left,k∈f)(A:left≠[]):jh left g≠[]:=by
 have B:∀(n:Nat) (k:Nat),k∈left->(∃i,i<n/\f[i]? =some k)->∃c∈left,c∉qr left g:=by
  intro n;induction n with
  | zero=>rintro k _ ⟨i,u,_⟩;omega
  | succ n Q=>
   rintro k hk ⟨i,u,j⟩;by_cases D:k∈qr left g
   ·obtain⟨p,hp,s,rfl⟩:=X1.mp D
    obtain⟨x,y,O,E,l⟩:=b p hp;have e:y=i:=by
     have s:=(zZ.mp j).1;have G:=(zZ.mp l).1;have I:f[y]=f[i]:=by
      rw[yd s] at j;rw[yd G] at l;exact(qW l).trans (qW j).symm
     exact(List.getElem_inj T).mp I
    exact Q p.1 s ⟨x,by omega,E⟩
   ·exact⟨k,hk,D⟩
 obtain⟨k,hk⟩:∃k,k∈left:=by
  cases left with
  | nil=>exact absurd rfl A
  | cons a r=>exact⟨a,by simp⟩
 obtain⟨i,u,j⟩:=Z4.mp (M k hk);obtain⟨c,hc,J⟩:=B (i+1) k hk ⟨i,by omega,by rw[<- j];simp[u]⟩
 intro z;have:c∈jh left g:=xk.mpr ⟨hc,by simp[J]⟩
 rw[z] at this;cases this
theorem wQ{H:Hp}{J:Job}{A:Addr}(h:Rep K H (X6 J) (.ref A)):∃g j l f:Addr,SqT K H A [.ref g,.int J.hd,.ref j,.ref l,.ref f]/\Rep K H (.tup [.int J.gx,.int J.gy]) (.ref g)/\Rep K H (.tup (J.fs.map we)) (.ref j)/\Rep K H (.tup (J.ps.map xS)) (.ref l)/\Rep K H (Yo J.as) (.ref f):=by
 obtain⟨a,xs,e,q,x0,r0,E,h0,x1,r1,G,h1,x2,r2,I,h2,x3,r3,M,h3,x4,r4,O,h4,Q⟩:=h;cases e;subst E G I M O;have s:r4=[]:=Q;subst s;have u:x1=.int J.hd:=h1;subst u;obtain⟨g,gx,rfl,Y⟩:=h0;obtain⟨j,U,rfl,T⟩:=h2;obtain⟨l,px,rfl,pq⟩:=h3;obtain⟨f,D,rfl,B⟩:=h4;exact⟨g,j,l,f,q,⟨g,gx,rfl,Y⟩,⟨j,U,rfl,T⟩,⟨l,px,rfl,pq⟩,⟨f,D,rfl,B⟩⟩
theorem x9{H:Hp}{g:List Dat}{a:Addr}(h:Rep K H (.tup g) (.ref a)):∃f,SqT K H a f/\Reps K H g f:=by
 obtain⟨j,f,e,q,r⟩:=h;cases e;exact⟨f,q,r⟩
inductive QE(K:W.Frag)(j:List V)(H:Hp)(Q:VK):Prop
 | mk (b g:Addr) (J:Job) (f:List Nat) (n:Int) (_:j=[.ref b,.ref g]) (_:BoxAt H b n) (_:n<600000) (_:Rep K H (X6 J) (.ref g)) (_:wr J f) (_:∀(l:Addr) (os:List Nat) H',SameB b H H'->BoxAt H' b (n+60)->l≠b->H l=none->H' l=some (.lst (zL os))->os.Perm (List.range J.ps.length)->ByOrd os J.as->Q (.ref l) H'):QE K j H Q
def Wy(K:W.Frag):Sp:=fun f H Q _=>QE K f H Q
inductive zfb(b l g j:Addr)(H:Hp)(n:Int)(J:Job)(m:Nat)(σ:St)(f:Hp):Prop
 | mk (left os:List Nat) (s u:Option V) (_:σ=[some (.ref b),some (.ref l),some (.ref g),some (.ref j),s,u]) (_:m=left.length) (_:SameB b H f) (_:BoxAt f b (n+os.length)) (_:f g=some (.lst (zL left))) (_:f j=some (.lst (zL os))) (_:(left++os).Perm (List.range J.ps.length)) (_:Early os J.as):zfb b l g j H n J m σ f
inductive zfc(b s j l:Addr)(H:Hp)(n:Int)(J:Job)(left:List Nat)(σ:St)(g:Hp):Prop
 | mk (f os:List Nat) (u A:Option V) (_:f.length<left.length) (_:σ=[some (.ref b),some (.ref s),some (.ref j),some (.ref l),u,A]) (_:SameB b H g) (_:BoxAt g b (n+os.length)) (_:g j=some (.lst (zL f))) (_:g l=some (.lst (zL os))) (_:(f++os).Perm (List.range J.ps.length)) (_:Early os J.as):zfc b s j l H n J left σ g
theorem WO:zI ["_law_box_here","_law_job","_law_left","_law_found","_law_late","_law_free"] ["_law_box_here","_law_job"] (zv (topL 32)):=u7
theorem za8{f:Addr}{fd:FuncData}(F:Fun K "_law_order" "_law_order" (topL 32) f fd)(B:Blt L)(U:Dfn P w K L C "_law_take" 1 ["_law_box_here","_law_size"] vA):FnOk P w K L C CX0 2 f fd ["_law_box_here","_law_job"] (Wy K):=by
 have nd:=WO.nd;refine F.ok WO (fun vs H Q E h=>?_) (fun c0 A bs s H vs Q E hr h=>?_)
 ·obtain⟨b,jp,J,aq,n,rfl,_⟩:=h
  rfl
 ·obtain⟨b,jp,J,aq,n,rfl,B0,hn,rj,jo,k⟩:=h
  have hu:=hr.units0;have bx:=bG100000;have pl:=jo.pl;have al:=jo.al;obtain⟨g,fs,ps,as,qj,_,_,rp,ra⟩:=wQ rj;obtain⟨M,qp,bv⟩:=x9 rp;obtain⟨av,qa,bc⟩:=x9 ra;have lp:=bv.len;rw[zx] at lp;have la:=bc.len;rw[zx] at la;refine⟨_,(zg (jK (zN (za (Jx rfl rfl B.list rfl B.range xt (za (zo zA rfl B.len boot_len (za (zy qh (pv 1) zf (fun _ _=>rfl)) ze)) ze)) (za (zT ze) ze))) (qR rfl (zu (zp (i:=2) nd rfl (Or.inr rfl)) (zu (zp (i:=3) nd rfl (Or.inl rfl)) qq))))
   (zg (Zv jc (zG (wK hu) (pv 2) (zT ze) (zE _))
   (zg (zF (i:=4) nd rfl (Or.inr rfl) (Zx ["_law_left"] [2] rfl rfl (by kernel_rfl) (ym (zy qh (pv 1) zf (fun _ _=>rfl))) (fun _ _ _ _=>(vC (zG (ZB (K:=K) rfl) (pv 0) (pv 2) (by with_unfolding_all rfl)))) (fun _ _ _ _=>(pv 1))))
    (zg (yk ["_law_late"] [4] rfl rfl (by kernel_rfl) (qz (pv 2)) (fun _ _ _ _=>(vC (zG (Qi (K:=K) rfl) (pv 0) (pv 1) (by with_unfolding_all rfl)))) (fun _ _ _ _=>(pv 0)) (zp (i:=5) nd rfl (Or.inl rfl)))
    (zg (qM (j7 xf xK xJ qA (pv 3) (za (zy zH (pv 5) (zn U hr.m rfl (za (pv 0) (za (zo zA rfl B.len boot_len (za (pv 5) ze)) ze))) (fun _ _=>rfl)) ze)))
    (zk (qM (j7 xf PySem.F.slot_list_remove PySem.F.type_list_remove VP (pv 2) (za (zy zH (pv 3) (wJ x8 zf) (fun _ _=>rfl)) ze))))))))
   (zk (zC (pv 3))))),?_⟩
  refine⟨_,rfl,jp,_,_,_,rfl,rfl,qj,rfl,ps,_,rfl,.inr qp,_,rfl,by omega,by omega,fun u h0=>⟨le0,fun D G=>⟨le2,fun t ht=>?_⟩⟩⟩
  have eN:((List.range ((M.length:Int)).toNat).map fun i:Nat=>V.int (i:Int))=zL (List.range J.ps.length):=by
   unfold zL;rw[show((M.length:Int)).toNat=J.ps.length by omega]
  have n0:=B0.nne h0;have S0:=(um b H).new (o:=.lst ((List.range ((M.length:Int)).toNat).map fun i:Nat=>V.int (i:Int))) h0
  have B1:=B0.new (o:=.lst ((List.range ((M.length:Int)).toNat).map fun i:Nat=>V.int (i:Int))) h0
  have L0:upd H u (.lst ((List.range ((M.length:Int)).toNat).map fun i:Nat=>V.int (i:Int))) u=some (.lst (zL (List.range J.ps.length))):=by rw[zd,eN]
  generalize upd H u (.lst ((List.range ((M.length:Int)).toNat).map fun i:Nat=>V.int (i:Int)))=H1 at S0 B1 L0 G ht
  have n1:=B1.nne G;have N1:=S0.none G n1;have ba:u≠D:=zi L0 G;have S1:=S0.new (o:=.lst []) G;have B2:=B1.new (o:=.lst []) G;have ac:=(zc (o:=.lst []) G) _ _ L0;have L1:upd H1 D (.lst []) D=some (.lst []):=zd;generalize upd H1 D (.lst [])=H2 at S1 B2 ac L1 ht;have S2:=S1.new (o:=.tup [.ref u,.ref D]) ht;have B3:=B2.new (o:=.tup [.ref u,.ref D]) ht;have ae:=(zc (o:=.tup [.ref u,.ref D]) ht) _ _ ac;have af:=(zc (o:=.tup [.ref u,.ref D]) ht) _ _ L1;have T3:upd H2 t (.tup [.ref u,.ref D]) t=some (.tup [.ref u,.ref D]):=zd;generalize upd H2 t (.tup [.ref u,.ref D])=H3 at S2 B3 ae af T3;refine⟨t,_,rfl,ua T3,rfl,_,_,rfl,_,_,rfl,rfl,?_⟩
  clear S0 S1 B1 B2 L0 ac L1 ht G T3;refine⟨zfb b jp u D H n J,
   ⟨_,List.range J.ps.length,[],none,none,rfl,rfl,S2,B3.mono (by simp),ae,af,by rw[xj],fun p _ l hl=>by simp at hl⟩,?_⟩
  clear S2 B3 ae af;rintro m σ H4 ⟨left,os,v4,v5,rfl,rfl,S4,B4,LL,LO,pm,ea⟩;have ab:=pm.length_eq;rw[qG,yU] at ab;refine⟨_,rfl,le0,fun q hq=>⟨u,q,_,rfl,rfl,u9 ((zc hq) _ _ LL),u9 zd,_,rfl,?_⟩⟩
  have S5:=S4.new (o:=.lst []) hq;have B5:=B4.new (o:=.lst []) hq;have Y:=(zc (o:=.lst []) hq) _ _ LL;have a0:=(zc (o:=.lst []) hq) _ _ LO;generalize upd H4 q (.lst [])=H5 at S5 B5 Y a0;clear S4 B4 LL LO hq;cases left with
  | nil=>
   refine ifF rfl ⟨_,rfl,k D os H5 S5 (B5.mono (by simp at ab;omega)) n1 N1 a0 (by simpa using pm) (ea.ord jo.bo ?_)⟩
   have:os.Perm (List.range J.ps.length):=by simpa using pm
   exact this.trans jo.op.symm
  | cons c rest=>
   refine ifT rfl ?_
   have bo:c::rest≠[]:=fun z=>by cases z
   generalize c::rest=left at *
   clear c rest;refine⟨zfc b jp u D H n J left,
    fun σ' H' ⟨ap,br,v4,v5,bn,e,a1,a2,a3,a4,a5,a6⟩=>⟨_,bn,ap,br,v4,v5,e,rfl,a1,a2,a3,a4,a5,a6⟩,?_⟩
   have T5:=SameT.trans (uh B0 S5) (SameT.refl H5);have bb:=qj.keep T5;have au:=qa.keep T5;have bd:=bc.keep T5 (qL J.as);refine⟨_,rfl,jp,_,_,_,rfl,rfl,bb,rfl,as,rfl,⟨_,au⟩,ZF (K:=K) (a:=as) (xs:=av) (fun i zs H6=>zs=zL (qr left (J.as.take i))/\Same H5 H6) ⟨rfl,uc _⟩ (fun i zs H6 ⟨_,j⟩=>j.sqT au) ?_ ?_⟩
   ·rintro i x zs H6 hx ⟨rfl,j⟩
    obtain⟨d,e1,r1⟩:=(bd.same j).get hx;rw[zX] at e1;obtain⟨p,ep,rfl⟩:=jb.mp e1;obtain⟨pa,xs,rfl,bt,y0,r0,f0,g0,y1,bu,f1,g1,f2⟩:=r1;subst f0 f1;cases(show bu=[] from f2)
    cases(show y0=_ from g0)
    cases(show y1=_ from g1)
    have hi:i<J.as.length:=(zZ.mp ep).1;refine⟨pa,_,rfl,bt,rfl,_,_,rfl,_,_,rfl,rfl,rfl,?_⟩
    refine⟨_,rfl,_,rfl,u,zL left,rfl,.inl (u9 (j _ _ Y)),rfl,vT left,_,rfl,?_⟩
    have et:J.as.take (i+1)=J.as.take i++[p]:=qe ep;have an:(if false=true then !inV (.int (p.1:Int)) (zL left) else inV (.int (p.1:Int)) (zL left))=decide (p.1∈left):=JH p.1 left
    rw[an];refine qZ (fun c=>⟨_,rfl,?_,?_,j⟩) (fun c=>⟨?_,j⟩)
    ·have:(qr left (J.as.take i)).length<=J.as.length:=by
      unfold qr;rw[zx];refine jm (x6 _ _) ?_
      rw[jq];omega
     rw[qg];omega
    ·rw[et]
     unfold qr;rw[yb,zY,List.filter_cons_of_pos (by exact c)]
     unfold zL;rw[zY];rfl
    ·rw[et]
     unfold qr;rw[yb,List.filter_cons_of_neg (by exact c),VZ,xj]
   rintro zs H6 ⟨rfl,j⟩;have ax:J.as.take av.length=J.as:=by rw[la,jO]
   rw[ax];have bp:(qr left J.as).length<=300:=by
    unfold qr;rw[zx];exact jm (x6 _ _) al
   refine⟨by rw[qg];omega,fun aa T=>?_⟩
   have S6:=(S5.trans (ue j)).new (o:=.lst (zL (qr left J.as))) T;have B6:=(B5.same j).new (o:=.lst (zL (qr left J.as))) T;have O:=(zc (o:=.lst (zL (qr left J.as))) T) _ _ (j _ _ Y);have aj:=(zc (o:=.lst (zL (qr left J.as))) T) _ _ (j _ _ a0);have ag:upd H6 aa (.lst (zL (qr left J.as))) aa=some (.lst (zL (qr left J.as))):=zd;generalize upd H6 aa (.lst (zL (qr left J.as)))=H7 at S6 B6 O aj ag;clear S5 B5 Y a0 j T T5 bb au bd;refine⟨_,rfl,u,rfl,⟨_,u9 O⟩,jM (K:=K) (a:=u) (xs:=zL left) (fun i zs H8=>zs=zL ((left.take i).filter fun k=>!decide (k∈qr left J.as))/\Same H7 H8) ⟨rfl,uc _⟩ (fun i zs H8 ⟨_,j⟩=>u9 (j _ _ O)) ?_ ?_⟩
   ·rintro i x zs H8 hx ⟨rfl,j⟩
    obtain⟨c,ec,rfl⟩:=XY hx;have hi:i<left.length:=(zZ.mp ec).1;refine⟨rfl,?_⟩
    refine⟨_,rfl,_,rfl,aa,zL (qr left J.as),rfl,.inl (u9 (j _ _ ag)),rfl,vT _,_,rfl,?_⟩
    have an:(if true=true then !inV (.int (c:Int)) (zL (qr left J.as)) else inV (.int (c:Int)) (zL (qr left J.as)))=!decide (c∈qr left J.as):=by rw[JH];rfl
    rw[an,qe ec];refine qZ (fun d=>⟨_,rfl,?_,?_,j⟩) (fun d=>⟨?_,j⟩)
    ·have:=x6 (fun k=>!decide (k∈qr left J.as)) (left.take i)
     rw[jq] at this;rw[qg];omega
    ·rw[yb,List.filter_cons_of_pos (by exact d)]
     unfold zL;rw[zY];rfl
    ·rw[yb,List.filter_cons_of_neg (by exact d),VZ,xj]
   rintro zs H8 ⟨rfl,j⟩;have bi:left.take (zL left).length=left:=by rw[qg,jO]
   rw[bi];have bm:(left.filter fun k=>!decide (k∈qr left J.as))=jh left J.as:=rfl
   rw[bm];have c2:(jh left J.as).length<=left.length:=x6 _ _;refine⟨by rw[qg];omega,fun lf I=>?_⟩
   have S7:=(S6.trans (ue j)).new (o:=.lst (zL (jh left J.as))) I;have B7:=(B6.same j).new (o:=.lst (zL (jh left J.as))) I;have aw:=(zc (o:=.lst (zL (jh left J.as))) I) _ _ (j _ _ O);have ak:=(zc (o:=.lst (zL (jh left J.as))) I) _ _ (j _ _ aj);have ah:upd H8 lf (.lst (zL (jh left J.as))) lf=some (.lst (zL (jh left J.as))):=zd;have bq:=(B6.same j).nne I;generalize upd H8 lf (.lst (zL (jh left J.as)))=H9 at S7 B7 aw ak ah;clear S6 B6 O aj ag j I;have inr:∀x∈left,x∈aq:=fun x hx=>by
    have G:=pm.mem_iff.mp (wo os hx);exact jo.op.mem_iff.mpr G
   have ar:aq.Nodup:=jo.op.nodup_iff.mpr List.nodup_range;have bj:=Y9 jo.bo ar inr bo;have bw:0<(jh left J.as).length:=je.mpr bj;refine⟨_,rfl,.inl ⟨rfl,_,u9 ak⟩,_,rfl,_,rfl,_,rfl,lf,_,rfl,.inl (u9 ah),b,_,_,rfl,B7,by omega,by rw[qg];omega,by rw[qg];omega,fun r Ha r0 r1 Ba Sa=>?_⟩
   rw[qg] at r1;have b0:r.toNat<(jh left J.as).length:=by omega
   have er:(zL (jh left J.as))[r.toNat]? =some (.int (((jh left J.as)[r.toNat]:Nat):Int)):=by
    unfold zL;rw[zX,yd b0];rfl
   have ay:atI (zL (jh left J.as)) r=some (.int (((jh left J.as)[r.toNat]:Nat):Int)):=by
    have:=qP er;rwa[show((r.toNat:Nat):Int)=r by omega] at this
   have az:=xZ b0;generalize (jh left J.as)[r.toNat]=c at er ay az;obtain⟨cl,cn⟩:=xk.mp az;have bh:c∉qr left J.as:=by simpa using cn
   have be:=Sa _ _ ah bq;have bg:=Sa _ _ ak n1;have bf:=Sa _ _ aw n0;refine⟨lf,_,_,_,rfl,rfl,u9 be,ay,D,_,_,rfl,rfl,bg,by rw[qg];omega,?_⟩
   have eO:zL os++[V.int (c:Int)]=zL (os++[c]):=by unfold zL;rw[zY];rfl
   rw[eO];have Sb:=(S7.trans Sa).put (o:=.lst (zL (os++[c]))) N1;have Bb:=Ba.other (o:=.lst (zL (os++[c]))) n1;have am:upd Ha D (.lst (zL (os++[c]))) D=some (.lst (zL (os++[c]))):=zd;have ai:upd Ha D (.lst (zL (os++[c]))) u=some (.lst (zL left)):=by rw[zm ba];exact bf
   generalize upd Ha D (.lst (zL (os++[c])))=Hb at Sb Bb am ai;have ao:atI (zL (os++[c])) (-1)=some (.int (c:Int)):=by
    have:zL (os++[c])=zL os++[V.int (c:Int)]:=eO.symm;rw[this];exact vN _ _
   refine⟨_,rfl,.inl ⟨rfl,_,u9 ai⟩,_,rfl,_,rfl,D,_,_,_,rfl,rfl,u9 am,ao,u,left.map fun i:Nat=>(i:Int),(c:Int),rfl,rfl,by rw[ai,XX],jS.mpr ⟨c,cl,rfl⟩,?_⟩
   have eE:((left.map fun i:Nat=>(i:Int)).erase (c:Int)).map V.int=zL (left.erase c):=by rw[QZ,XX]
   rw[eE];have N0:H u=none:=h0;have bz:(left.erase c).length+1=left.length:=by
    have:=List.length_erase_of_mem cl;have:=List.length_pos_of_mem cl;omega
   refine⟨left.erase c,os++[c],_,_,by omega,rfl,Sb.put N0,(Bb.other n0).mono (by rw[qG];simp;omega),zd,by rw[zm ba.symm];exact am,?_,?_⟩
   ·have G:(left++os).Perm (c::(left.erase c)++os):=(List.perm_cons_erase cl).append_right os
    have h2:(left.erase c++(os++[c])).Perm (c::left.erase c++os):=by
     rw[<- yV];exact List.perm_append_comm
    exact(h2.trans G.symm).trans pm
   ·refine ea.snoc fun p hp e=>?_
    have G:p.1∈left++os:=pm.mem_iff.mpr (jo.op.mem_iff.mp (jo.bo.mem1 hp));rcases qC.mp G with z | z
    ·exact absurd (X1.mpr ⟨p,hp,z,e⟩) bh
    ·exact z
structure jw where
 pk:List (Nat×Nat)
 ly:List Nat
def VO(k:Nat):Dat:=.int (k:Int)
def vj(t:jw):Dat:=.tup [.tup (t.pk.map xT),.tup (t.ly.map VO)]
theorem XW:∀(l:List Nat),Dat.imms (l.map VO)=true
 | []=>rfl
 | k::l=>by
  show(true&&Dat.imms (l.map VO))=true;rw[XW l];rfl
theorem Qq(t:jw):(vj t).imm=true:=by
 show(Dat.imms (t.pk.map xT)&&(Dat.imms (t.ly.map VO)&&true))=true;rw[qL,XW];rfl
theorem jT:∀(l:List jw),Dat.imms (l.map vj)=true
 | []=>rfl
 | t::l=>by
  show((vj t).imm&&Dat.imms (l.map vj))=true;rw[Qq,jT l];rfl
theorem Reps.perm{H:Hp}{α:Type}{f:α->Dat}{G E:List V}(h:G.Perm E):∀{g:List α},Reps K H (g.map f) E->∃j:List α,j.Perm g/\Reps K H (j.map f) G:=by
 induction h with
 | nil=>intro g h;exact⟨g,List.Perm.refl _,h⟩
 | cons x hp O=>
  intro g h;cases g with
  | nil=>cases(show _=[] from h)
  | cons a g=>
   obtain⟨y,r,e,A,s⟩:=h;cases e;obtain⟨j,p,q⟩:=O s;exact⟨a::j,p.cons a,⟨_,_,rfl,A,q⟩⟩
 | swap x y l=>
  intro g h;cases g with
  | nil=>cases(show _=[] from h)
  | cons a g=>
   obtain⟨u,r,e,A,s⟩:=h;cases e;cases g with
   | nil=>cases(show _=[] from s)
   | cons c g=>
    obtain⟨u,r,e,J,M⟩:=s;cases e;exact⟨c::a::g,List.Perm.swap a c g,⟨_,_,rfl,J,_,_,rfl,A,M⟩⟩
 | trans A s B D=>
  intro g h;obtain⟨j,p,q⟩:=D h;obtain⟨I,Q,T⟩:=B q;exact⟨I,Q.trans p,T⟩
theorem QS{H:Hp}:∀(l:List Nat),Reps K H (l.map VO) (zL l)
 | []=>rfl
 | k::l=>⟨_,_,rfl,rfl,QS l⟩
theorem yo{H:Hp}{p:Nat×Nat}{x:V}(h:Rep K H (xT p) x):∃a,x=.ref a/\SqT K H a [.int p.1,.int p.2]:=by
 obtain⟨B,I,rfl,f,D,G,j,u,E,g,l,A,s⟩:=h;subst j l;cases(show g=[] from s)
 cases(show D=_ from u)
 cases(show E=_ from A)
 exact⟨B,rfl,f⟩
inductive Xs(K:W.Frag)(j:List V)(H:Hp)(Q:VK):Prop
 | mk (b pk:Addr) (n:Int) (l:List V) (f:List (Nat×Nat)) (_:j=[.ref b,.ref pk]) (_:BoxAt H b n) (_:n<900000) (_:pk≠b) (_:H pk=some (.lst l)) (_:Reps K H (f.map xT) l) (_:f.length<=1000) (_:∀(p:Addr) (g:List (Nat×Nat)) H',SameB b H H'->BoxAt H' b (n+f.length)->g.Perm f->Rep K H' (vj ⟨g,f.map (·.1)⟩) (.ref p)->Q (.ref p) H'):Xs K j H Q
def zaz(K:W.Frag):Sp:=fun f H Q _=>Xs K f H Q
theorem zaK:zI ["_law_box_here","_law_picks"] ["_law_box_here","_law_picks"] (zv (topL 33)):=u7
theorem zck{f:Addr}{fd:FuncData}(F:Fun K "_law_trip" "_law_trip" (topL 33) f fd)(B:Blt L)(g:Dfn P w K L C "_law_shuffled" 2 ["_law_box_here","_law_some"] (zaA K)):FnOk P w K L C CX0 3 f fd ["_law_box_here","_law_picks"] (zaz K):=by
 have nd:=zaK.nd;refine F.ok zaK (fun vs H Q E h=>?_) (fun aj A ae s H vs Q E hr h=>?_)
 ·obtain⟨b,pk,n,M,j,rfl,_⟩:=h
  rfl
 ·obtain⟨b,pk,n,M,j,rfl,B0,hn,O,hp,rp,lp,k⟩:=h
  have ai:=bG100000;have lx:M.length=j.length:=by have:=rp.len;rwa[zx] at this
  refine⟨_,(zk (zC (zN (za (jg xO rfl B.tuple wB (za (zn g hr.m rfl (za (pv 0) (za (pv 1) ze))) ze)) (za (jg xO rfl B.tuple wB (za (Zx [] [] rfl rfl (by kernel_rfl) (qz (pv 1)) (fun _ _ _ _=>qV) (fun _ _ _ _=>(pv 0))) ze)) ze))))),?_⟩
  refine⟨_,rfl,_,rfl,b,pk,n,M,rfl,B0,by omega,O,hp,by omega,fun l D H1 S1 B1 nl hl hL pm=>?_⟩
  have T1:=uh B0 S1;obtain⟨sh,ah,ag⟩:=Reps.perm pm (rp.keep T1 (qL j));have af:=rp.keep T1 (qL j);refine⟨l,D,rfl,.inl ⟨u9 hL,fun U I=>?_⟩⟩
  have s1:=zc (o:=.tup D) I;have G:=s1 _ _ (S1 _ _ hp O);have T:=af.same s1;have u:=ag.same s1;have Y:upd H1 U (.tup D) U=some (.tup D):=zd;have S2:=S1.new (o:=.tup D) I;have B2:=B1.new (o:=.tup D) I;generalize upd H1 U (.tup D)=H2 at s1 G T u Y S2 B2;refine⟨_,rfl,pk,rfl,⟨_,u9 G⟩,jM (K:=K) (a:=pk) (xs:=M) (fun i zs H3=>zs=zL ((j.map (·.1)).take i)/\Same H2 H3) ⟨rfl,uc _⟩ (fun i zs H3 ⟨_,J⟩=>u9 (J _ _ G)) ?_ ?_⟩
  ·rintro i x zs H3 hx ⟨rfl,J⟩
   obtain⟨d,e1,r1⟩:=(T.same J).get hx;rw[zX] at e1;obtain⟨p,ep,rfl⟩:=jb.mp e1;obtain⟨pa,rfl,qp⟩:=yo r1;have hi:i<j.length:=(zZ.mp ep).1;refine⟨pa,_,rfl,qp,rfl,_,_,rfl,_,_,rfl,rfl,rfl,?_⟩
   refine⟨_,rfl,?_,?_,J⟩
   ·rw[qg,jq,zx];omega
   ·have a0:(j.map (·.1))[i]? =some p.1:=by rw[zX,ep];rfl
    rw[qe a0];unfold zL;rw[zY];rfl
  rintro zs H3 ⟨rfl,J⟩;have aa:(j.map (·.1)).take M.length=j.map (·.1):=by rw[lx,<- zx (f:=(·.1)),jO]
  rw[aa];refine⟨by rw[qg,zx];omega,fun l2 ab=>⟨l2,_,rfl,.inl ⟨u9 zd,fun t2 ac=>⟨le2,fun q hq=>?_⟩⟩⟩⟩
  have s2:=(J.trans (zc (o:=.lst (zL (j.map (·.1)))) ab)).trans (zc (o:=.tup (zL (j.map (·.1)))) ac)
  have s3:=s2.trans (zc (o:=.tup [.ref U,.ref t2]) hq);refine k q sh _ (S2.trans (ue s3)) (B2.same s3 |>.mono (by omega)) ah ?_
  refine⟨q,_,rfl,ua zd,_,_,rfl,⟨U,D,rfl,ua (s3 _ _ Y),u.same s3⟩,_,_,rfl,⟨t2,_,rfl,ua ((zc hq) _ _ zd),QS _⟩,rfl⟩
def Wk(J:Job)(p:Nat×Nat):Prop:=∃g f,J.ps[p.1]? =some g/\J.fs[p.2]? =some f/\f.k=g.k
structure TripOk(J:Job)(t:jw):Prop where
 p1:1<=t.pk.length
 p2:(t.pk.length:Int)<=J.hd
 ok:∀p∈t.pk,Wk J p
 ly:t.ly.Perm (t.pk.map (·.1))
def jW(ts:List jw):List Nat:=ts.flatMap (·.ly)
theorem yL(ts:List jw)(t:jw):jW (ts++[t])=jW ts++t.ly:=by
 unfold jW;rw[V9];simp
structure zbT(J:Job)(os:List Nat)(ts:List jw):Prop where
 tr:∀t∈ts,TripOk J t
 sub:(jW ts).Sublist os
 len:ts.length<=60
structure PlS(K:W.Frag)(H:Hp)(b ls lf lp lo lq:Addr)(st:List Int)(tr pk:List V)(ou os:List Nat)(ts:List jw)(pks:List (Nat×Nat))(H':Hp)(n:Int):Prop where
 s:SameB b H H'
 bx:BoxAt H' b n
 nb:ls≠b/\lf≠b/\lp≠b/\lo≠b/\lq≠b
 nn:ls≠lf/\ls≠lp/\ls≠lo/\ls≠lq/\lf≠lp/\lf≠lo/\lf≠lq/\lp≠lo/\lp≠lq/\lo≠lq
 hN:H ls=none/\H lf=none/\H lp=none/\H lo=none
 hs:H' ls=some (.lst (st.map V.int))
 hf:H' lf=some (.lst tr)
 hp:H' lp=some (.lst pk)
 ho:H' lo=some (.lst (zL ou))
 hq:H' lq=some (.lst (zL os))
 rt:Reps K H' (ts.map vj) tr
 rk:Reps K H' (pks.map xT) pk
variable{H H' N:Hp}{b ls lf lp lo lq:Addr}{st:List Int}{tr pk:List V}{ou os:List Nat}{ts:List jw}{pks:List (Nat×Nat)}{n m:Int}
theorem PlS.draw(g:PlS K H b ls lf lp lo lq st tr pk ou os ts pks H' n)(S:SameB b H' N)(B:BoxAt N b m):PlS K H b ls lf lp lo lq st tr pk ou os ts pks N m:=by
 obtain⟨f,j,l,s,u⟩:=g.nb;have T:=uh g.bx S;exact⟨g.s.trans S,B,g.nb,g.nn,g.hN,S _ _ g.hs f,S _ _ g.hf j,S _ _ g.hp l,S _ _ g.ho s,S _ _ g.hq u,g.rt.keep T (jT ts),g.rk.keep T (qL pks)⟩
theorem PlS.same(g:PlS K H b ls lf lp lo lq st tr pk ou os ts pks H' n)(S:Same H' N):PlS K H b ls lf lp lo lq st tr pk ou os ts pks N n:=g.draw (ue S) (g.bx.same S)
theorem PlS.new{q:Addr}{o:HO}(g:PlS K H b ls lf lp lo lq st tr pk ou os ts pks H' n)(h:H' q=none):PlS K H b ls lf lp lo lq st tr pk ou os ts pks (upd H' q o) n:=g.same (zc h)
theorem PlS.mono(g:PlS K H b ls lf lp lo lq st tr pk ou os ts pks H' n)(h:n<=m):PlS K H b ls lf lp lo lq st tr pk ou os ts pks H' m:=⟨g.s,g.bx.mono h,g.nb,g.nn,g.hN,g.hs,g.hf,g.hp,g.ho,g.hq,g.rt,g.rk⟩
theorem PlS.putO{f:List Nat}(g:PlS K H b ls lf lp lo lq st tr pk ou os ts pks H' n):PlS K H b ls lf lp lo lq st tr pk f os ts pks (upd H' lo (.lst (zL f))) n:=by
 obtain⟨s,u,A,l,B⟩:=g.nb;obtain⟨a1,a2,a3,a4,a5,a6,a7,a8,a9,j⟩:=g.nn;have T:=SameT.put (ys:=zL f) g.ho;exact⟨g.s.put g.hN.2.2.2,g.bx.other l,g.nb,g.nn,g.hN,by rw[zm a3];exact g.hs,by rw[zm a6];exact g.hf,by rw[zm a8];exact g.hp,zd,by rw[zm j.symm];exact g.hq,g.rt.keep T (jT ts),g.rk.keep T (qL pks)⟩
theorem PlS.putS{st':List Int}(g:PlS K H b ls lf lp lo lq st tr pk ou os ts pks H' n):PlS K H b ls lf lp lo lq st' tr pk ou os ts pks (upd H' ls (.lst (st'.map V.int))) n:=by
 obtain⟨j,l,s,u,A⟩:=g.nb;obtain⟨a1,a2,a3,a4,a5,a6,a7,a8,a9,f⟩:=g.nn;have T:=SameT.put (ys:=st'.map V.int) g.hs;exact⟨g.s.put g.hN.1,g.bx.other j,g.nb,g.nn,g.hN,zd,by rw[zm a1.symm];exact g.hf,by rw[zm a2.symm];exact g.hp,by rw[zm a3.symm];exact g.ho,by rw[zm a4.symm];exact g.hq,g.rt.keep T (jT ts),g.rk.keep T (qL pks)⟩
theorem PlS.putF{v:V}{t:jw}(g:PlS K H b ls lf lp lo lq st tr pk ou os ts pks H' n)(j:Rep K H' (vj t) v):PlS K H b ls lf lp lo lq st (tr++[v]) pk ou os (ts++[t]) pks (upd H' lf (.lst (tr++[v]))) n:=by
 obtain⟨s,l,u,A,B⟩:=g.nb;obtain⟨a1,a2,a3,a4,a5,a6,a7,a8,a9,f⟩:=g.nn;have T:=SameT.put (ys:=tr++[v]) g.hf;refine⟨g.s.put g.hN.2.1,g.bx.other l,g.nb,g.nn,g.hN,by rw[zm a1];exact g.hs,zd,by rw[zm a5.symm];exact g.hp,by rw[zm a6.symm];exact g.ho,by rw[zm a7.symm];exact g.hq,?_,g.rk.keep T (qL pks)⟩
 rw[zY];exact uj (j.keep T (Qq t)) (g.rt.keep T (jT ts))
theorem PlS.putP{v:V}{p:Nat×Nat}(g:PlS K H b ls lf lp lo lq st tr pk ou os ts pks H' n)(j:Rep K H' (xT p) v):PlS K H b ls lf lp lo lq st tr (pk++[v]) ou os ts (pks++[p]) (upd H' lp (.lst (pk++[v]))) n:=by
 obtain⟨s,u,l,A,B⟩:=g.nb;obtain⟨a1,a2,a3,a4,a5,a6,a7,a8,a9,f⟩:=g.nn;have T:=SameT.put (ys:=pk++[v]) g.hp;refine⟨g.s.put g.hN.2.2.1,g.bx.other l,g.nb,g.nn,g.hN,by rw[zm a2];exact g.hs,by rw[zm a5];exact g.hf,zd,by rw[zm a8.symm];exact g.ho,by rw[zm a9.symm];exact g.hq,g.rt.keep T (jT ts),?_⟩
 rw[zY];exact uj (j.keep T (by rfl)) (g.rk.keep T (qL pks))
theorem PlS.newP{q:Addr}(g:PlS K H b ls lf lp lo lq st tr pk ou os ts pks H' n)(h:H' q=none):PlS K H b ls lf q lo lq st tr [] ou os ts [] (upd H' q (.lst [])) n:=by
 obtain⟨s,u,D,A,B⟩:=g.nb;obtain⟨a1,a2,a3,a4,a5,a6,a7,a8,a9,j⟩:=g.nn;have f:=g.new (o:=.lst []) h;have l:=g.bx.nne h;exact⟨f.s,f.bx,⟨s,u,l,A,B⟩,⟨a1,zi g.hs h,a3,a4,zi g.hf h,a6,a7,(zi g.ho h).symm,(zi g.hq h).symm,j⟩,⟨g.hN.1,g.hN.2.1,g.s.none h l,g.hN.2.2.2⟩,f.hs,f.hf,zd,f.ho,f.hq,f.rt,rfl⟩
inductive zem(t:TT)(σ:St)(H:Hp)(Q:Bool->Hp->Prop):Prop
 | mk (J:Bool->Hp->Prop) (_:t σ H J) (_:∀c H',J c H'->Q c H'):zem t σ H Q
theorem W0{X:Cx}{e:Expr}{t:TT}(h:PT X e t):PT X e (zem t):=by
 intro f s σ H Q I l;obtain⟨J,u,A⟩:=l;exact thn (h f s σ H J I u) fun c B ⟨g,j,q⟩=>⟨g,j,A _ _ q⟩
theorem yr{H:Hp}{p:zcS}{x:V}(h:Rep K H (we p) x):∃a c,x=.ref a/\SqT K H a [.str p.k,.ref c,.int p.m]/\SqT K H c [.int p.x,.int p.y]:=by
 obtain⟨a,xs,rfl,q,Q,r0,l,B,y1,r1,s,D,T,M,u,E,A⟩:=h;subst l s u;cases(show M=[] from A)
 cases(show Q=_ from B)
 cases(show T=_ from E)
 obtain⟨c,ys,rfl,J,U,s0,f,G,Y,O,g,I,j⟩:=D;subst f g;cases(show O=[] from j)
 cases(show U=_ from G)
 cases(show Y=_ from I)
 exact⟨a,c,rfl,q,J⟩
theorem QQ{H:Hp}{p:zaq}{x:V}(h:Rep K H (xS p) x):∃a c,x=.ref a/\SqT K H a [.str p.k,.ref c]/\SqT K H c [.int p.x,.int p.y]:=by
 obtain⟨a,Y,rfl,q,M,T,l,A,y1,I,s,B,u⟩:=h;subst l s;cases(show I=[] from u)
 cases(show M=_ from A)
 obtain⟨c,ys,rfl,G,O,U,f,D,Q,J,g,E,j⟩:=B;subst f g;cases(show J=[] from j)
 cases(show O=_ from D)
 cases(show Q=_ from E)
 exact⟨a,c,rfl,q,G⟩
theorem VX{H:Hp}{α:Type}{f:α->Dat}{l:List α}{j:List V}(h:Reps K H (l.map f) j){i:Nat}{a:α}(s:l[i]? =some a):∃v,j[i]? =some v/\Rep K H (f a) v:=by
 have u:=h.len;rw[zx] at u;have g:i<j.length:=by have:=(zZ.mp s).1;omega
 obtain⟨d,e,r⟩:=h.get (i:=i) (x:=j[i]) (by simp[g])
 rw[zX,s] at e;cases e;exact⟨j[i],by simp[g],r⟩
inductive Xw(K:W.Frag)(s:List V)(H:Hp)(Q:VK):Prop
 | mk (b j:Addr) (J:Job) (g:List Nat) (f n:Int) (_:s=[.ref b,.ref j,.int f]) (_:BoxAt H b n) (_:n<500000) (_:Rep K H (X6 J) (.ref j)) (_:wr J g) (_:0<=f) (_:f<=100) (_:∀(l:Addr) (os:List Nat) (ts:List jw) (tr:List V) H',SameB b H H'->BoxAt H' b (n+1000)->l≠b->H l=none->H' l=some (.lst tr)->Reps K H' (ts.map vj) tr->os.Perm (List.range J.ps.length)->ByOrd os J.as->zbT J os ts->Q (.ref l) H'):Xw K s H Q
def zaC(K:W.Frag):Sp:=fun f H Q _=>Xw K f H Q
theorem zaO:zI ["_law_box_here","_law_job","_law_most","_law_stock","_law_found","_law_picks","_law_out","_law_part","_law_some","_law_lost","_law_at"] ["_law_box_here","_law_job","_law_most"] (zv (topL 34)):=u7
def YA(b:_)(j:_)(f:_)(ls:_)(lf:_)(lo:_)(K:_)(H:_)(lq:_)(os:_)(n:Int)(J:Job):=fun(i:Nat) (σ:St) (H':Hp)=>(zfg fun(lp:Addr) (l s u g:Option V) (st:List Int) (tr pk:List V) (ou:List Nat) (ts:List jw) (pks:List (Nat×Nat))=>An9 (σ=[some (.ref b),some (.ref j),some (.int f),some (.ref ls),some (.ref lf),some (.ref lp),some (.ref lo),l,s,u,g]) (PlS K H b ls lf lp lo lq st tr pk ou os ts pks H' (n+60+10*i)) (st.length=J.fs.length) ((∀t∈ts,TripOk J t)) ((∀p∈pks,Wk J p)) ((pks.length:Int)<J.hd) ((jW ts++pks.map (·.1)).Sublist (os.take i)) (ts.length+pks.length<=i) (ou.length<=i):Prop)
def Yz(J:Job)(A:zaq)(j:_):=fun(s:Nat) (B:List V) (l:Hp)=>(Ex1 fun(f:List Nat)=>An4 (B=zL f) (f.length<=s) ((∀u∈f,∃g,J.fs[u]? =some g/\g.k=A.k)) (Same j l):Prop)
def Yy(b:_)(A:_)(g:_)(ls:_)(lf:_)(lp:_)(lo:_)(c:Nat)(s:_)(j:_)(u:_)(l:_):=fun(B:St) (H':Hp)=>(Ex1 fun(f:Bool)=>An4 (B=[some (.ref b),some (.ref A),some (.int g),some (.ref ls),some (.ref lf),some (.ref lp),some (.ref lo),some (.int (c:Int)),some (.ref s),some (.bl f),j]) (Same u H') (H' s=some (.lst (zL l))) ((f=false->l≠[])):Prop)
def Yx(b:_)(B:_)(j:_)(ls:_)(lf:_)(lp:_)(lo:_)(c:Nat)(D:_)(g:_)(K:_)(H:_)(lq:_)(tr:_)(os:_)(ts:List jw)(n:Int)(i:Nat)(J:Job):=fun(E:St) (H':Hp)=>(Ex5 fun(A:Option V) (s:List Int) (u:List V) (l:List Nat) (f:List (Nat×Nat))=>An8 (E=[some (.ref b),some (.ref B),some (.int j),some (.ref ls),some (.ref lf),some (.ref lp),some (.ref lo),some (.int (c:Int)),some (.ref D),some (.bl g),A]) (PlS K H b ls lf lp lo lq s tr u l os ts f H' (n+60+10*i+3)) (s.length=J.fs.length) ((∀p∈f,Wk J p)) ((f.length:Int)<=J.hd) ((jW ts++f.map (·.1)).Sublist (os.take (i+1))) (ts.length+f.length<=i+1) (l.length<=i+1):Prop)
theorem zco{f:Addr}{fd:FuncData}(F:Fun K "_law_plan" "_law_plan" (topL 34) f fd)(B:Blt L)(Y:Dfn P w K L C "_law_take" 1 ["_law_box_here","_law_size"] vA)(am:Dfn P w K L C "_law_order" 2 ["_law_box_here","_law_job"] (Wy K))(ag:Dfn P w K L C "_law_trip" 3 ["_law_box_here","_law_picks"] (zaz K)):FnOk P w K L C CX0 4 f fd ["_law_box_here","_law_job","_law_most"] (zaC K):=by
 have nd:=zaO.nd;refine F.ok zaO (fun vs H Q E h=>?_) (fun e0 A de s H vs Q E hr h=>?_)
 ·obtain⟨b,jp,J,co,aa,n,rfl,_⟩:=h
  rfl
 ·obtain⟨b,jp,J,co,aa,n,rfl,B0,hn,rj,jo,e5,e6,k⟩:=h
  have hu:=hr.units0;have dw:=bG100000;have pl:=jo.pl;have al:=jo.al;have fl:=jo.fl;have e2:=jo.hd0;have e3:=jo.hd1;obtain⟨g,fs,ps,as,qj,_,rf,rp,ra⟩:=wQ rj;obtain⟨fv,qf,c7⟩:=x9 rf;obtain⟨e9,qp,cy⟩:=x9 rp;obtain⟨av,qa,cw⟩:=x9 ra;have ck:=c7.len;rw[zx] at ck;have lp:=cy.len;rw[zx] at lp;have la:=cw.len;rw[zx] at la;refine⟨_,(zg (zF (i:=3) nd rfl (Or.inr rfl) (vD [] [] rfl rfl (by kernel_rfl) (ym (zy qh (pv 1) zf (fun _ _=>rfl))) (fun _ _ _ _=>qV) (fun _ _ _ _=>(zy (qY (K:=K) rfl) (pv 0) zf (fun _ _=>rfl)))))
   (zg (jK (zN (za (zT ze) (za (zT ze) (za (zT ze) ze)))) (qR rfl (zu (zp (i:=4) nd rfl (Or.inl rfl)) (zu (zp (i:=5) nd rfl (Or.inl rfl)) (zu (zp (i:=6) nd rfl (Or.inr rfl)) qq)))))
   (zg (qJ jc rfl (qz (zn am hr.m rfl (za (pv 0) (za (pv 1) ze)))) (zp (i:=7) nd rfl (Or.inr rfl))
   (zg (zaX ["_law_stock","_law_part","_law_job"] [3,7,1] rfl rfl (by kernel_rfl) (za1 rfl B.enumerate (za (zy qh (pv 1) zf (fun _ _=>rfl)) ze)) (fun _ _ _ _=>(vC (uf (vc (zG v1 (zy (qY (K:=K) rfl) (pv 1) zf (fun _ _=>rfl)) (zy (qY (K:=K) rfl) (zy (qY (K:=K) rfl) (zy (qY (K:=K) rfl) (pv 4) zf (fun _ _=>rfl)) (pv 3) (fun _ _=>rfl)) zf (fun _ _=>rfl)) (zE _)) (xH (zG wL (zy (wR (K:=K) rfl) (pv 2) (pv 0) (fun _ _=>rfl)) zf (zE _))))))) (fun _ _ _ _=>(pv 0)) (zp (i:=8) nd rfl (Or.inl rfl)))
    (zg (vd (zF (i:=9) nd rfl (Or.inl rfl) (zda (qv (XQ hu) (pv 8) (zT ze) (zE _)) (wv (zo (Jb rfl) rfl B.any Vn (za (Zx ["_law_part","_law_out"] [7,6] rfl rfl (by kernel_rfl) (ym (zy qh (pv 1) zf (fun _ _=>rfl))) (fun _ _ _ _=>qV) (fun _ _ _ _=>(ZA (qv v1 (pv 1) (pv 2) (zE _)) (wv (qv (ZB (K:=K) rfl) (pv 0) (pv 3) (by with_unfolding_all rfl)))))) ze))))))
    (zg (vd (qH (W0 (uf (vZ (jJ (pv 9)) (vb (uf (vc (zG wL (pv 2) zf (zE _)) (xH (zG v1 (zn Y hr.m rfl (za (pv 0) (za (pv 2) ze))) zf (zE _)))))))))
    (zk (qM (j7 xf xK xJ qA (pv 6) (za (pv 7) ze))))
    (zg (zF (i:=10) nd rfl (Or.inl rfl) (zy zH (pv 8) (zn Y hr.m rfl (za (pv 0) (za (zo zA rfl B.len boot_len (za (pv 8) ze)) ze))) (fun _ _=>rfl)))
     (zg (jK (zr jk (zy zH (pv 3) (pv 10) (fun _ _=>rfl)) zf) (Jw (pv 3) (pv 10) wI))
     (zk (qM (j7 xf xK xJ qA (pv 5) (za (zN (za (pv 7) (za (pv 10) ze))) ze))))))))
    (zk (qH (W0 (uf (vc (zG (wK hu) (pv 5) (zT ze) (zE _)) (xH (uf (vZ (zG v1 (zo zA rfl B.len boot_len (za (pv 5) ze)) (zy qh (pv 1) zf (fun _ _=>rfl)) (zE _)) (vb (zG v1 (zn Y hr.m rfl (za (pv 0) (za zf ze))) zf (zE _)))))))))
    (zg (qM (j7 xf xK xJ qA (pv 4) (za (zn ag hr.m rfl (za (pv 0) (za (pv 5) ze))) ze)))
     (zk (zF (i:=5) nd rfl (Or.inl rfl) (zT ze))))
    zQ))))))
   (zk (zC (zr yp (pv 4) (zr Jz (zT (za (zn ag hr.m rfl (za (pv 0) (za (pv 5) ze))) ze)) (jg xr rfl B.int xC (za (qv (wK hu) (pv 5) (zT ze) (zE _)) ze))))))))),?_⟩
  refine⟨_,rfl,jp,_,_,_,rfl,rfl,qj,rfl,fs,rfl,⟨_,qf⟩,ZF (K:=K) (a:=fs) (xs:=fv) (fun i M H1=>M=((J.fs.take i).map (·.m)).map V.int/\Same H H1) ⟨rfl,uc _⟩ (fun i M H1 ⟨_,u⟩=>u.sqT qf) ?_ ?_⟩
  ·rintro i x M H1 hx ⟨rfl,u⟩
   obtain⟨d,e1,r1⟩:=(c7.same u).get hx;rw[zX] at e1;obtain⟨p,ep,rfl⟩:=jb.mp e1;obtain⟨a,c,rfl,q,q'⟩:=yr r1;have hi:i<J.fs.length:=(zZ.mp ep).1;refine⟨rfl,⟨_,rfl,a,_,_,_,rfl,rfl,q,rfl,?_,?_,u⟩⟩
   ·rw[zx,zx,jq];omega
   ·rw[qe ep,zY,zY];rfl
  rintro M H1 ⟨rfl,u⟩;have d7:J.fs.take fv.length=J.fs:=by rw[ck,jO]
  rw[d7];refine⟨by rw[zx,zx];omega,fun ls aj=>?_⟩
  have bj:(J.fs.map (·.m)).length=J.fs.length:=zx ..
  generalize J.fs.map (·.m)=af at bj
  have S1:=(ue (b:=b) u).new (o:=.lst (af.map V.int)) aj;have B1:=(B0.same u).new (o:=.lst (af.map V.int)) aj;have LS:upd H1 ls (.lst (af.map V.int)) ls=some (.lst (af.map V.int)):=zd;have NS:H ls=none:=(ue (b:=b) u).none aj ((B0.same u).nne aj);have cn:=(B0.same u).nne aj;generalize upd H1 ls (.lst (af.map V.int))=H2 at S1 B1 LS;refine⟨le0,fun lf ab=>⟨le0,fun l O=>⟨le0,fun lo I=>⟨le3,fun t ht=>?_⟩⟩⟩⟩
  have c0:=B1.nne ab;have NF:=S1.none ab c0;have S2:=S1.new (o:=.lst []) ab;have B2:=B1.new (o:=.lst []) ab;have az:=(zc (o:=.lst []) ab) _ _ LS;have aq:upd H2 lf (.lst []) lf=some (.lst []):=zd;generalize upd H2 lf (.lst [])=H3 at S2 B2 az aq O I ht;have c4:=B2.nne O;have NP:=S2.none O c4;have S3:=S2.new (o:=.lst []) O;have B3:=B2.new (o:=.lst []) O;have b0:=(zc (o:=.lst []) O) _ _ az;have ar:=(zc (o:=.lst []) O) _ _ aq;have ax:upd H3 l (.lst []) l=some (.lst []):=zd;generalize upd H3 l (.lst [])=H4 at S3 B3 b0 ar ax I ht;have c3:=B3.nne I;have NO:=S3.none I c3;have S4:=S3.new (o:=.lst []) I;have B4:=B3.new (o:=.lst []) I;have br:=(zc (o:=.lst []) I) _ _ b0;have bo:=(zc (o:=.lst []) I) _ _ ar;have bq:=(zc (o:=.lst []) I) _ _ ax;have bp:upd H4 lo (.lst []) lo=some (.lst []):=zd;have a1:ls≠lf:=zi LS ab;have a2:ls≠l:=zi az O;have a3:ls≠lo:=zi b0 I;have a5:lf≠l:=zi aq O;have a6:lf≠lo:=zi ar I;have a8:l≠lo:=zi ax I;generalize upd H4 lo (.lst [])=H5 at S4 B4 br bo bq bp ht;have s5:=zc (o:=.tup [.ref lf,.ref l,.ref lo]) ht;have T5:upd H5 t (.tup [.ref lf,.ref l,.ref lo]) t=some (.tup [.ref lf,.ref l,.ref lo]):=zd;have S5:=S4.new (o:=.tup [.ref lf,.ref l,.ref lo]) ht;have B5:=B4.new (o:=.tup [.ref lf,.ref l,.ref lo]) ht;have ba:=s5 _ _ br;have au:=s5 _ _ bo;have ay:=s5 _ _ bq;have aw:=s5 _ _ bp;generalize upd H5 t (.tup [.ref lf,.ref l,.ref lo])=H6 at s5 T5 S5 B5 ba au ay aw;refine⟨t,_,rfl,ua T5,rfl,_,_,rfl,_,_,rfl,_,_,rfl,rfl,?_⟩
  clear S1 S2 S3 S4 B1 B2 B3 B4 LS az b0 br aq ar bo ax bq bp aj ab O I ht s5 T5;have cx:=rj.keep (uh B0 S5) (xX J);refine⟨_,rfl,_,rfl,b,jp,J,co,n,rfl,B5.mono (by omega),by omega,cx,jo,fun lq os H7 S7 B7 dd ao ca pm ob=>?_⟩
  have e7:os.length=J.ps.length:=by have:=pm.length_eq;rwa[yU] at this
  have a4:ls≠lq:=zi ba ao;have a7:lf≠lq:=zi au ao;have a9:l≠lq:=zi ay ao;have d4:lo≠lq:=zi aw ao;have g0:PlS K H b ls lf l lo lq af [] [] [] os [] [] H7 (n+60):=⟨S5.trans S7,B7,⟨cn,c0,c4,c3,dd⟩,⟨a1,a2,a3,a4,a5,a6,a7,a8,a9,d4⟩,⟨NS,NF,NP,NO⟩,S7 _ _ ba cn,S7 _ _ au c0,S7 _ _ ay c4,S7 _ _ aw c3,ca,rfl,rfl⟩;clear S5 S7 B5 B7 ba au ay aw ca ao cx u;refine⟨lq,rfl,⟨_,u9 g0.hq⟩,xA (K:=K) (a:=lq) (xs:=zL os) (YA b jp aa ls lf lo K H lq os n J)
   ⟨l,none,none,none,none,af,[],[],[],[],[],rfl,g0.mono (by omega),bj,(fun _ h=>nomatch h),(fun _ h=>nomatch h),(by show((0:Nat):Int)<_;omega),List.Sublist.refl _,zJ _,zJ _⟩
   (fun i σ H' _ ⟨_,_,_,_,_,_,_,_,_,_,_,_,g,_,_,_,_,_,_,_⟩=>u9 g.hq) ?_ ?_⟩
  ·rintro i x σ H8 hx ⟨lp,v7,v8,v9,d3,st,tr,pk,ou,ts,pks,rfl,g,c8,bf,bc,dg,sub,cnt,cp⟩
   obtain⟨c,ec,rfl⟩:=XY hx;have hi:i<os.length:=(zZ.mp ec).1;have hc:c<J.ps.length:=wX.mp (pm.mem_iff.mp (qI ec));obtain⟨pa,cd⟩:∃pa,J.ps[c]? =some pa:=⟨J.ps[c],by simp[hc]⟩
   have T8:=uh B0 g.s;have c6:=qj.keep T8;have cu:=qf.keep T8;have di:=qp.keep T8;have cs:=qa.keep T8;have dp:=c7.keep T8 (vU J.fs);have dq:=cy.keep T8 (jU J.ps);have dn:=cw.keep T8 (qL J.as);obtain⟨ea,d6,dr⟩:=VX dq cd;obtain⟨df,e8,rfl,dj,_⟩:=QQ dr;refine⟨_,rfl,jp,_,_,_,rfl,rfl,c6,rfl,fs,rfl,⟨_,cu⟩,zbn (K:=K) (a:=fs) (xs:=fv) (Yz J pa H8) ⟨[],rfl,zJ _,(fun _ h=>nomatch h),uc _⟩ (fun i' M H9 ⟨_,_,_,_,u⟩=>u.sqT cu) ?_ ?_⟩
   ·rintro i' x M H9 T bw ⟨U,rfl,kl,kk,u⟩ hT
    obtain⟨d,e1,r1⟩:=(dp.same u).get bw;rw[zX] at e1;obtain⟨fe,ai,rfl⟩:=jb.mp e1;have d8:i'<J.fs.length:=(zZ.mp ai).1;have sT:=u.trans (zc (o:=.tup [.int (i':Int),x]) hT);obtain⟨fa,fc,rfl,dh,_⟩:=yr (r1.same (zc (o:=.tup [.int (i':Int),x]) hT));refine⟨T,_,rfl,ua zd,rfl,_,_,rfl,_,_,rfl,rfl,rfl,?_⟩
    refine⟨_,rfl,fa,_,_,_,rfl,rfl,dh,rfl,_,rfl,jp,_,_,_,rfl,rfl,sT.sqT c6,rfl,_,rfl,ps,_,_,_,rfl,rfl,sT.sqT di,qP d6,df,_,_,_,rfl,rfl,sT.sqT dj,rfl,rfl,_,rfl,qZ (fun c1=>?_) (fun c1=>?_)⟩
    ·have ek:fe.k=pa.k:=by have:=jH c1;exact V.str.inj this
     have bv:i'<st.length:=by omega
     refine⟨_,rfl,_,rfl,ls,_,_,.int st[i'],rfl,rfl,u9 (sT _ _ g.hs),qP (by rw[zX,yd bv];rfl),_,_,rfl,rfl,_,rfl,qZ (fun c2=>?_) (fun c2=>?_)⟩
     ·refine⟨_,rfl,by rw[qg];omega,U++[i'],?_,by rw[qG];show _+1<=_;omega,fun k' d9=>?_,sT⟩
      ·unfold zL
       rw[zY];rfl
      ·rcases qC.mp d9 with z | z
       ·exact kk k' z
       ·rw[qu.mp z]
        exact⟨fe,ai,ek⟩
     ·exact⟨U,rfl,by omega,kk,sT⟩
    ·exact ifF rfl ⟨U,rfl,by omega,kk,sT⟩
   rintro M H9 ⟨U,rfl,kl,kk,u⟩;refine⟨by rw[qg];omega,fun lm bu=>?_⟩
   have bd:=u.trans (zc (o:=.lst (zL U)) bu);have LM:upd H9 lm (.lst (zL U)) lm=some (.lst (zL U)):=zd;have cm:lm≠b:=(g.same u).bx.nne bu;generalize upd H9 lm (.lst (zL U))=Ha at bd LM;clear u bu;refine⟨Yy b jp aa ls lf lp lo c lm d3 H8 U,?_,?_⟩
   ·refine⟨_,rfl,le0,fun q hq=>⟨lm,q,zL U,rfl,rfl,u9 ((zc hq) _ _ LM),u9 zd,_,rfl,qZ (fun c1=>?_) (fun c1=>?_)⟩⟩
    ·exact⟨true,rfl,bd.trans (zc hq),(zc hq) _ _ LM,fun z=>nomatch z⟩
    ·have bz:U≠[]:=fun z=>c1 (by rw[z];rfl)
     have a0:=bd.trans (zc (o:=.lst []) hq);have ah:=(zc (o:=.lst []) hq) _ _ LM;generalize upd Ha q (.lst [])=Hb at a0 ah;refine⟨_,rfl,jp,_,_,_,rfl,rfl,a0.sqT c6,rfl,as,rfl,⟨_,a0.sqT cs⟩,ZF (K:=K) (a:=as) (xs:=av) (fun i' M H9=>∃bs:List Bool,M=bs.map V.bl/\bs.length<=i'/\Same Hb H9) ⟨[],rfl,zJ _,uc _⟩ (fun i' M H9 ⟨_,_,_,u⟩=>(a0.trans u).sqT cs) ?_ ?_⟩
     ·rintro i' x M H9 bw ⟨bs,rfl,bl,u⟩
      obtain⟨d,e1,r1⟩:=(dn.same (a0.trans u)).get bw;rw[zX] at e1;obtain⟨p,ep,rfl⟩:=jb.mp e1;obtain⟨pp,rfl,dk⟩:=yo r1;have d8:i'<J.as.length:=(zZ.mp ep).1;refine⟨pp,_,rfl,dk,rfl,_,_,rfl,_,_,rfl,rfl,rfl,?_⟩
      refine⟨_,rfl,_,rfl,rfl,_,rfl,qZ (fun c2=>?_) (fun c2=>?_)⟩
      ·refine⟨_,rfl,_,rfl,lo,zL ou,rfl,.inl (u9 ((a0.trans u) _ _ g.ho)),rfl,vT _,by rw[zx];omega,bs++[inV (.int (p.1:Int)) (zL ou)],?_,by rw[qG];show _+1<=_;omega,u⟩
       rw[zY];rfl
      ·refine⟨by rw[zx];omega,bs++[false],?_,by rw[qG];show _+1<=_;omega,u⟩
       rw[zY];rfl
     ·rintro M H9 ⟨bs,rfl,bl,u⟩
      refine⟨by rw[zx];omega,fun D hD=>⟨D,bs,rfl,u9 zd,?_⟩⟩
      have dt:=(a0.trans u).trans (zc (o:=.lst (bs.map V.bl)) hD);exact⟨bs.any id,rfl,dt,(zc (o:=.lst (bs.map V.bl)) hD) _ _ (u _ _ ah),fun _=>bz⟩
   rintro σ' Hb ⟨cl,rfl,a0,ah,bz⟩;have g2:=g.same a0;clear bd LM;have d2:(jW ts++pks.map (·.1)).Sublist (os.take (i+1)):=sub.trans (by rw[qe ec];exact List.sublist_append_left _ _)
   have eO:zL ou++[V.int (c:Int)]=zL (ou++[c]):=by unfold zL;rw[zY];rfl
   refine⟨Yx b jp aa ls lf lp lo c lm cl K H lq tr os ts n i J,?_,?_⟩
   ·have cr:∀(H':Hp) (m:Int),PlS K H b ls lf lp lo lq st tr pk ou os ts pks H' m->m<=n+60+10*i+3->PlS K H b ls lf lp lo lq st tr pk (ou++[c]) os ts pks (upd H' lo (.lst (zL ou++[V.int (c:Int)]))) (n+60+10*i+3):=fun H' m g' hm=>by
     rw[eO];exact(g'.mono hm).putO
    have cq:(ou++[c]).length<=i+1:=by rw[qG];show _+1<=_;omega
    refine⟨fun(d:Bool) (H':Hp)=>PlS K H b ls lf lp lo lq st tr pk ou os ts pks H' (n+60+10*i+1)/\H' lm=some (.lst (zL U))/\(d=false->U≠[]),?_,?_⟩
    ·refine⟨_,rfl,_,rfl,qZ (fun c1=>⟨g2.mono (by omega),ah,(fun z=>nomatch z)⟩) (fun c1=>?_)⟩
     have bg:=bz (by simpa using c1)
     exact⟨_,rfl,_,_,rfl,rfl,_,rfl,qZ (fun c2=>⟨_,rfl,_,rfl,b,aa,_,rfl,g2.bx,by omega,jH c2,by omega,fun r Hc r0 r1 Bc Sc=>⟨rfl,_,rfl,(g2.draw Sc Bc).mono (by omega),Sc _ _ ah cm,fun _=>bg⟩⟩) (fun c2=>⟨g2.mono (by omega),ah,fun _=>bg⟩)⟩
    rintro d Hc ⟨g3,c9,kn⟩;refine qZ (fun c1=>?_) (fun c1=>?_)
    ·exact⟨_,rfl,.inl ⟨rfl,_,u9 g3.ho⟩,_,rfl,lo,_,_,rfl,rfl,g3.ho,by rw[qg];omega,_,st,pk,ou++[c],pks,rfl,cr _ _ g3 (by omega),c8,bc,by omega,d2,by omega,cq⟩
    ·have dx:0<U.length:=je.mpr (kn (by simpa using c1))
     refine⟨_,rfl,_,rfl,_,rfl,lm,_,rfl,.inl (u9 c9),b,_,_,rfl,g3.bx,by omega,by rw[qg];omega,by rw[qg];omega,fun r' Hd eb dm Bd Sd=>?_⟩
     rw[qg] at dm;have cj:r'.toNat<U.length:=by omega
     have ce:atI (zL U) r'=some (.int ((U[r'.toNat]:Nat):Int)):=by
      have er:(zL U)[r'.toNat]? =some (.int ((U[r'.toNat]:Nat):Int)):=by
       unfold zL;rw[zX,yd cj];rfl
      have:=qP er;rwa[show((r'.toNat:Nat):Int)=r' by omega] at this
     obtain⟨fe,ai,d5⟩:=kk _ (xZ cj);generalize U[r'.toNat]=kf at ce ai;have e4:kf<J.fs.length:=(zZ.mp ai).1;have bv:kf<st.length:=by omega
     have g5:=g3.draw Sd Bd;refine⟨lm,_,_,_,rfl,rfl,u9 (Sd _ _ c9 cm),ce,?_⟩
     refine⟨_,rfl,_,rfl,ls,_,_,.int st[kf],rfl,rfl,u9 g5.hs,qP (by rw[zX,yd bv];rfl),_,_,rfl,rfl,_,rfl,_,rfl,ls,_,_,kf,rfl,rfl,g5.hs,Yc (by rw[zx];omega),?_⟩
     have eS:(st.map V.int).set kf (V.int (st[kf]-1))=(st.set kf (st[kf]-1)).map V.int:=by rw[List.map_set]
     rw[eS];have g6:=g5.putS (st':=st.set kf (st[kf]-1));generalize upd Hd ls (.lst ((st.set kf (st[kf]-1)).map V.int))=He at g6;refine⟨_,rfl,.inl ⟨rfl,_,u9 g6.hp⟩,_,rfl,_,rfl,le2,fun q hq=>?_⟩
     have g7:=g6.new (o:=.tup [.int (c:Int),.int (kf:Int)]) hq;have rq:Rep K (upd He q (.tup [.int (c:Int),.int (kf:Int)])) (xT (c,kf)) (.ref q):=⟨q,_,rfl,ua zd,_,_,rfl,rfl,_,_,rfl,rfl,rfl⟩;have ak:pk.length=pks.length:=by have:=g.rk.len;rwa[zx] at this
     refine⟨lp,_,_,rfl,rfl,g7.hp,by omega,_,st.set kf (st[kf]-1),pk++[.ref q],ou,pks++[(c,kf)],rfl,(g7.putP rq).mono (by omega),by rw[V0];exact c8,fun p' an=>?_,by rw[qG];show((_+1:Nat):Int)<=_;omega,?_,by rw[qG];show _+(_+1)<=_;omega,by omega⟩
     ·rcases qC.mp an with z | z
      ·exact bc p' z
      ·rw[qu.mp z]
       exact⟨pa,fe,cd,ai,d5⟩
     ·rw[zY,<- yV,qe ec]
      exact sub.append (List.Sublist.refl _)
   rintro σ' Hc ⟨dz,be,ac,c5,j,rfl,g4,bm,bi,dy,bn,cb,bh⟩;have ak:ac.length=j.length:=by have:=g4.rk.len;rwa[zx] at this
   have du:tr.length=ts.length:=by have:=g4.rt.len;rwa[zx] at this
   have T9:=uh B0 g4.s;refine⟨fun(d:Bool) (H':Hp)=>PlS K H b ls lf lp lo lq be tr ac c5 os ts j H' (n+60+10*i+4)/\(d=true->1<=j.length)/\(d=false->(j.length:Int)<J.hd),?_,?_⟩
   ·refine⟨_,rfl,le0,fun q hq=>⟨lp,q,_,rfl,rfl,u9 (g4.new (o:=.lst []) hq).hp,u9 zd,_,rfl,qZ (fun c1=>?_) (fun c1=>?_)⟩⟩
    ·have g5:=g4.new (o:=.lst []) hq
     have cv:=(qj.keep T9).keep (SameT.of (zc (o:=.lst []) hq));generalize upd Hc q (.lst [])=Hd at g5 cv;have ap:1<=j.length:=by
      cases ac with
      | nil=>cases c1
      | cons x r=>simp at ak;omega
     refine⟨_,rfl,lp,_,rfl,.inl (u9 g5.hp),_,rfl,jp,_,_,_,rfl,rfl,cv,rfl,rfl,_,rfl,qZ (fun c2=>⟨g5.mono (by omega),fun _=>ap,fun z=>nomatch z⟩) (fun c2=>⟨_,rfl,b,3,_,rfl,g5.bx,by omega,by decide,by decide,fun r He r0 r1 Be Se=>⟨rfl,_,rfl,(g5.draw Se Be).mono (by omega),fun _=>ap,fun _=>?_⟩⟩)⟩
     have ci:¬(ac.length:Int)=J.hd:=fun z=>c2 (by rw[z];simp)
     omega
    ·have pe:j=[]:=by
      cases j with
      | nil=>rfl
      | cons x r=>
       cases ac with
       | nil=>simp at ak
       | cons y r'=>exact absurd rfl c1
     exact⟨(g4.new (o:=.lst []) hq).mono (by omega),(fun z=>nomatch z),fun _=>by rw[pe];show((0:Nat):Int)<_;omega⟩
   rintro d Hd ⟨G,ap,da⟩;refine qZ (fun c1=>?_) (fun c1=>?_)
   ·have ap:=ap c1
    refine⟨_,rfl,.inl ⟨rfl,_,u9 G.hf⟩,_,rfl,_,rfl,b,lp,_,ac,j,rfl,G.bx,by omega,G.nb.2.2.1,G.hp,G.rk,by omega,fun p sh Hg Sg Bg ae rt=>?_⟩
    have G2:=G.draw Sg Bg;have d1:sh.length=j.length:=ae.length_eq;refine⟨lf,_,_,rfl,rfl,G2.hf,by omega,?_⟩
    have G3:=G2.putF rt;generalize upd Hg lf (.lst (tr++[.ref p]))=Hh at G3;refine⟨le0,fun dc ch=>⟨dc,_,_,_,_,be,tr++[.ref p],[],c5,ts++[⟨sh,j.map (·.1)⟩],[],rfl,(G3.newP ch).mono (by omega),bm,?_,(fun _ h=>nomatch h),(by show((0:Nat):Int)<_;omega),?_,?_,bh⟩⟩
    ·intro t' db
     rcases qC.mp db with z | z
     ·exact bf t' z
     ·rw[qu.mp z]
      exact⟨by show 1<=sh.length;omega,by show(sh.length:Int)<=_;omega,fun p' an=>bi p' (ae.mem_iff.mp an),(ae.map (·.1)).symm⟩
    ·rw[yL]
     simpa using bn
    ·rw[qG]
     show _+1+0<=_;omega
   ·exact⟨lp,_,_,_,_,be,tr,ac,c5,ts,j,rfl,G.mono (by omega),bm,bf,bi,da (by simpa using c1),bn,cb,bh⟩
  ·rintro σ H8 ⟨lp,v7,v8,v9,d3,st,tr,pk,ou,ts,pks,rfl,g,c8,bf,bc,dg,sub,cnt,cp⟩
   rw[qg] at sub cnt cp;rw[qg] at g;rw[jO] at sub;have ak:pk.length=pks.length:=by have:=g.rk.len;rwa[zx] at this
   have du:tr.length=ts.length:=by have:=g.rt.len;rwa[zx] at this
   refine⟨_,rfl,_,rfl,_,rfl,b,lp,_,pk,pks,rfl,g.bx,by omega,g.nb.2.2.1,g.hp,g.rk,by omega,fun p sh Hg Sg Bg ae rt=>?_⟩
   have g2:=g.draw Sg Bg;have d1:sh.length=pks.length:=ae.length_eq;refine⟨le1,fun l1 cg=>?_⟩
   have g3:=g2.new (o:=.lst [.ref p]) cg;have cz:=rt.same (zc (o:=.lst [.ref p]) cg);have L1:upd Hg l1 (.lst [.ref p]) l1=some (.lst [.ref p]):=zd;generalize upd Hg l1 (.lst [.ref p])=Hh at g3 cz L1;refine⟨_,rfl,le0,fun q hq=>⟨lp,q,_,rfl,rfl,u9 (g3.new (o:=.lst []) hq).hp,u9 zd,.inr ⟨_,rfl,l1,_,_,rfl,rfl,(zc hq) _ _ L1,?_,?_,?_,fun l2 bt=>?_⟩⟩⟩
   ·split<;>decide
   ·split<;>decide
   ·show 1*_<=sizeLine
    split<;>(first| (show 1*1<=_;omega) | (show 1*0<=_;omega))
   have g4:=g3.new (o:=.lst []) hq;have d0:=cz.same (zc (o:=.lst []) hq);generalize upd Hh q (.lst [])=Hi at g4 d0 bt;have cf:∀(M:List V) (us:List jw),Reps K Hi (us.map vj) M->M.length<=1->us.length+ts.length<=60->(∀t∈us,TripOk J t)->(jW (ts++us)).Sublist os->zdy (V.ref lf) (V.ref l2) (upd Hi l2 (.lst M)) Q:=by
    intro M us rz zl ul uo dv;have g5:=g4.new (o:=.lst M) bt;have ds:=rz.same (zc (o:=.lst M) bt);refine⟨lf,l2,tr,M,rfl,rfl,g5.hf,zd,by omega,fun l3 bb=>?_⟩
    have n3:=g5.bx.nne bb;have g6:=g5.new (o:=.lst (tr++M)) bb;refine k l3 os (ts++us) (tr++M) _ g6.s (g6.bx.mono (by omega)) n3 (g5.s.none bb n3) zd ?_ pm ob ⟨fun t ht=>?_,dv,by rw[qG];omega⟩
    ·rw[zY]
     exact Reps.app g6.rt (ds.same (zc bb))
    ·rcases qC.mp ht with z | z
     ·exact bf t z
     ·exact uo t z
   cases pks with
   | nil=>
    have e:pk=[]:=List.length_eq_zero_iff.mp (by rw[ak];rfl)
    subst e;exact cf [] [] rfl (qQ _) (by show 0+_<=_;omega) (fun _ h=>nomatch h) (by rw[xj];simpa using sub)
   | cons x r=>
    have ci:∃y r',pk=y::r':=by
     cases pk with
     | nil=>simp at ak
     | cons y r'=>exact⟨y,r',rfl⟩
    obtain⟨y,r',rfl⟩:=ci;refine cf [.ref p] [⟨sh,(x::r).map (·.1)⟩] ⟨_,_,rfl,d0,rfl⟩ (zJ _) (by simp at cnt;show 1+_<=_;omega) (fun t ht=>?_) (by rw[yL];exact sub)
    rw[qu.mp ht];exact⟨by show 1<=sh.length;rw[d1];exact Nat.succ_le_succ (qQ _),by show(sh.length:Int)<=_;omega,fun p' an=>bc p' (ae.mem_iff.mp an),(ae.map (·.1)).symm⟩
theorem Q0(f:List V):qk f (some 1) none=f.drop 1:=by
 unfold qk;rw[show(some (1:Int))=some ((1:Nat):Int) from rfl,HT.sIx_nat,HT.sIx_none]
 cases f with
 | nil=>rfl
 | cons x r=>
  have:min 1 (x::r).length=1:=by simp only[jr];omega
  rw[this];simp
def Pl(K:W.Frag)(H:Hp)(v:V)(x y:Int):Prop:=∃a,v=.ref a/\SqT K H a [.int x,.int y]
def vX(f j g l:Int):Int:=if jZ (j-l)>jZ (f-g) then jZ (j-l) else jZ (f-g)
inductive Wr(K:W.Frag)(f:List V)(H:Hp)(Q:VK):Prop
 | mk (u v g l j s:_) (_:f=[u,v]) (_:Pl K H u g l) (_:Pl K H v j s) (_:Q (.int (vX g l j s)) H):Wr K f H Q
def zcU(K:W.Frag):Sp:=fun f H Q _=>Wr K f H Q
theorem zeA:zI ["one","other"] ["one","other"] (zv (topL 3)):=u7
theorem zdP{f:Addr}{j:FuncData}(F:Fun K "way_between" "way_between" (topL 3) f j)(B:Blt L):FnOk P w K L C CX0 1 f j ["one","other"] (zcU K):=by
 refine F.ok zeA (fun D H Q E h=>?_) (fun l A g s H D Q E O h=>?_)
 ·obtain⟨u,v,G,J,I,M,rfl,_⟩:=h
  rfl
 ·obtain⟨u,v,G,J,I,M,rfl,⟨a,rfl,ha⟩,⟨b,rfl,hb⟩,k⟩:=h
  refine⟨_,(zk (zC (zo (vW rfl) rfl B.max wU (za (zo vL rfl B.abs vM (za (zr jk (zy qh (pv 0) zf (fun _ _=>rfl)) (zy qh (pv 1) zf (fun _ _=>rfl))) ze)) (za (zo vL rfl B.abs vM (za (zr jk (zy qh (pv 0) zf (fun _ _=>rfl)) (zy qh (pv 1) zf (fun _ _=>rfl))) ze)) ze))))),?_⟩
  refine⟨_,rfl,a,_,_,_,rfl,rfl,ha,rfl,_,rfl,b,_,_,_,rfl,rfl,hb,rfl,_,_,rfl,rfl,_,rfl,_,rfl,a,_,_,_,rfl,rfl,ha,rfl,_,rfl,b,_,_,_,rfl,rfl,hb,rfl,_,_,rfl,rfl,_,rfl,_,_,rfl,k⟩
theorem zbS(a:Int):0<=jZ a:=by unfold jZ;split<;>omega
theorem Vv(f j g l:Int):0<=vX f j g l:=by
 unfold vX;have:=zbS (j-l);have:=zbS (f-g);split<;>assumption
theorem Vw(f j g l t:Int):vX f j g l<=t↔jZ (f-g)<=t/\jZ (j-l)<=t:=by
 unfold vX;split<;>omega
theorem zat{f j g l:Int}(a:0<=f)(b:f<=1000)(c:0<=j)(d:j<=1000)(s:0<=g)(u:g<=1000)(A:0<=l)(B:l<=1000):vX f j g l<=1000:=by
 rw[Vw];unfold jZ;constructor<;>split<;>omega
theorem Pl.same{H H':Hp}{v:V}{x y:Int}(h:Pl K H v x y)(s:Same H H'):Pl K H' v x y:=let ⟨a,e,q⟩:=h;⟨a,e,s.sqT q⟩
theorem Pl.rep{H:Hp}{v:V}{x y:Int}(h:Pl K H v x y):Rep K H (.tup [.int x,.int y]) v:=let ⟨a,e,q⟩:=h;⟨a,_,e,q,_,_,rfl,rfl,_,_,rfl,rfl,rfl⟩
def PlAll(K:W.Frag)(H:Hp):List (Int×Int)->List V->Prop
 | [],f=>f=[]
 | p::g,f=>∃v r,f=v::r/\Pl K H v p.1 p.2/\PlAll K H g r
def inB(p:Int×Int):Prop:=0<=p.1/\p.1<=1000/\0<=p.2/\p.2<=1000
theorem PlAll.same{H H':Hp}(s:Same H H'):∀{f:List (Int×Int)} {g:List V},PlAll K H f g->PlAll K H' f g
 | [],_,h=>h
 | _::_,_,h=>let ⟨v,r,e,p,q⟩:=h;⟨v,r,e,p.same s,PlAll.same s q⟩
theorem PlAll.len{H:Hp}:∀{f:List (Int×Int)} {g:List V},PlAll K H f g->g.length=f.length
 | [],_,h=>by rw[show _=_ from h];rfl
 | _::_,_,h=>by
  obtain⟨v,r,e,_,q⟩:=h;rw[e,jr,jr,PlAll.len q]
theorem PlAll.get{H:Hp}:∀{f:List (Int×Int)} {g:List V} {i:Nat} {v:V},PlAll K H f g->g[i]? =some v->∃p,f[i]? =some p/\Pl K H v p.1 p.2
 | [],_,_,_,h,e=>by rw[show _=_ from h] at e;simp at e
 | p::f,_,i,v,h,e=>by
  obtain⟨y,r,l,s,u⟩:=h;subst l;cases i with
  | zero=>simp at e;subst e;exact⟨p,rfl,s⟩
  | succ i=>
   obtain⟨j,A,B⟩:=PlAll.get (i:=i) u (by simpa using e)
   exact⟨j,by simpa using A,B⟩
theorem PlAll.get'{H:Hp}{j:List (Int×Int)}{f:List V}{i:Nat}{p:Int×Int}(h:PlAll K H j f)(e:j[i]? =some p):∃v,f[i]? =some v/\Pl K H v p.1 p.2:=by
 have g:i<f.length:=by rw[h.len];exact(zZ.mp e).1
 obtain⟨u,l,s⟩:=h.get (i:=i) (v:=f[i]) (by simp[g])
 rw[e] at l;cases l
 exact⟨f[i],by simp[g],s⟩
theorem PlAll.snoc{H:Hp}{v:V}{p:Int×Int}(hp:Pl K H v p.1 p.2):∀{f:List (Int×Int)} {g:List V},PlAll K H f g->PlAll K H (f++[p]) (g++[v])
 | [],_,h=>by rw[show _=_ from h];exact⟨v,[],rfl,hp,rfl⟩
 | _::_,_,h=>by
  obtain⟨y,r,j,l,s⟩:=h;subst j;exact⟨y,r++[v],rfl,l,PlAll.snoc hp s⟩
theorem PlAll.drop{H:Hp}:∀(n:Nat) {f:List (Int×Int)} {g:List V},PlAll K H f g->PlAll K H (f.drop n) (g.drop n)
 | 0,_,_,h=>h
 | n+1,[],_,h=>by rw[show _=_ from h];exact rfl
 | n+1,_::_,_,h=>by
  obtain⟨y,r,j,s,l⟩:=h;subst j;exact PlAll.drop n l
theorem PlAll.take{H:Hp}:∀(n:Nat) {f:List (Int×Int)} {g:List V},PlAll K H f g->PlAll K H (f.take n) (g.take n)
 | 0,_,_,h=>rfl
 | n+1,[],_,h=>by rw[show _=_ from h];exact rfl
 | n+1,_::_,_,h=>by
  obtain⟨y,r,j,l,s⟩:=h;subst j;exact⟨y,r.take n,rfl,l,PlAll.take n s⟩
def zfu(f:List (Int×Int)):List Dat:=f.map fun p=>.tup [.int p.1,.int p.2]
theorem PlAll.reps{H:Hp}:∀{f:List (Int×Int)} {g:List V},PlAll K H f g->Reps K H (zfu f) g
 | [],_,h=>h
 | _::_,_,h=>let ⟨v,r,e,p,q⟩:=h;⟨v,r,e,p.rep,PlAll.reps q⟩
def yG:List (Int×Int)->List Int
 | p::q::r=>vX p.1 p.2 q.1 q.2::yG (q::r)
 | _=>[]
def xh(a g t:Int):Int:=if a<g then(if g<a+t then g else a+t) else(if g>a-t then g else a-t)
inductive Wz(f:List V)(H:Hp)(Q:VK):Prop
 | mk (a g t:Int) (_:f=[.int a,.int g,.int t]) (_:Q (.int (xh a g t)) H):Wz  f H Q
def zcW:Sp:=fun f H Q _=>Wz  f H Q
theorem zeB:zI ["start","goal","ticks"] ["start","goal","ticks"] (zv (topL 4)):=u7
theorem zdT{f:Addr}{u:FuncData}(F:Fun K "nearer_by" "nearer_by" (topL 4) f u)(B:Blt L):FnOk P w K L C CX0 1 f u ["start","goal","ticks"] zcW:=by
 refine F.ok zeB (fun G H Q E h=>?_) (fun D A l s H G Q E I h=>?_)
 ·obtain⟨a,g,t,rfl,_⟩:=h
  rfl
 ·obtain⟨a,g,t,rfl,k⟩:=h
  refine⟨_,(zg (qH (zG XO (pv 0) (pv 1) (zE _))
   (zk (zC (zo (zak rfl) rfl B.min Vl (za (zr zD (pv 0) (pv 2)) (za (pv 1) ze)))))
   zQ)
   (zk (zC (zo (vW rfl) rfl B.max wU (za (zr jk (pv 0) (pv 2)) (za (pv 1) ze)))))),?_⟩
  refine⟨_,rfl,_,rfl,_,_,rfl,rfl,_,rfl,?_⟩
  refine qZ (fun c=>?_) (fun c=>?_)
  ·have j:a<g:=jH c
   refine⟨_,rfl,_,rfl,_,_,rfl,rfl,_,rfl,_,_,rfl,?_⟩
   unfold xh at k;rw[zw j] at k;exact k
  ·have j:¬a<g:=fun z=>c (zS z)
   refine⟨_,rfl,_,rfl,_,_,rfl,rfl,_,rfl,_,_,rfl,?_⟩
   unfold xh at k;rw[zq j] at k;exact k
inductive QI(K:W.Frag)(f:List V)(H:Hp)(Q:VK):Prop
 | mk (u v g l j s t:_) (_:f=[u,v,.int t]) (_:Pl K H u g l) (_:Pl K H v j s) (_:∀p H',H p=none->H'=upd H p (.tup [.int (xh g j t),.int (xh l s t)])->Q (.ref p) H'):QI K f H Q
def WG(K:W.Frag):Sp:=fun f H Q _=>QI K f H Q
theorem zb4:zI ["one","other","ticks"] ["one","other","ticks"] (zv (topL 5)):=u7
theorem zbc{f:Addr}{l:FuncData}(F:Fun K "going_to" "going_to" (topL 5) f l)(B:Blt L)(g:Dfn P w K L C "nearer_by" 1 ["start","goal","ticks"] zcW):FnOk P w K L C CX0 2 f l ["one","other","ticks"] (WG K):=by
 refine F.ok zb4 (fun I H Q E h=>?_) (fun G A j s H I Q E D h=>?_)
 ·obtain⟨u,v,J,O,M,T,t,rfl,_⟩:=h
  rfl
 ·obtain⟨u,v,J,O,M,T,t,rfl,⟨a,rfl,ha⟩,⟨b,rfl,hb⟩,k⟩:=h
  refine⟨_,(zk (zC (zN (za (zn g D.m rfl (za (zy qh (pv 0) zf (fun _ _=>rfl)) (za (zy qh (pv 1) zf (fun _ _=>rfl)) (za (pv 2) ze)))) (za (zn g D.m rfl (za (zy qh (pv 0) zf (fun _ _=>rfl)) (za (zy qh (pv 1) zf (fun _ _=>rfl)) (za (pv 2) ze)))) ze))))),?_⟩
  refine⟨_,rfl,a,_,_,_,rfl,rfl,ha,rfl,_,rfl,b,_,_,_,rfl,rfl,hb,rfl,_,rfl,_,_,_,rfl,_,rfl,a,_,_,_,rfl,rfl,ha,rfl,_,rfl,b,_,_,_,rfl,rfl,hb,rfl,_,rfl,_,_,_,rfl,(by rw[sizeLine_eq];exact(by decide:2<=16777216)),fun p hp=>k p _ hp rfl⟩
theorem zeQ(a g:Int):xh a g 0=a:=by
 unfold xh;by_cases h:a<g
 ·rw[zw h,zq (by omega)];omega
 ·rw[zq h]
  by_cases f:g>a-0
  ·omega
  ·rw[zq f];omega
theorem zbh(a g w:Int)(h:jZ (a-g)<=w):xh a g w=g:=by
 unfold jZ at h;unfold xh;split at h<;>(repeat' split)<;>omega
theorem zbg(a g t:Int)(h:0<=t):jZ (xh a g t-xh a g (t+1))<=1:=by
 unfold xh jZ;repeat' split
 all_goals omega
def Zt(p q:Int×Int)(n:Nat):List Int:=(List.range n).map fun t:Nat=>xh p.1 q.1 ((t:Int)+1)
theorem QN(p q:Int×Int)(n:Nat):Zt p q (n+1)=Zt p q n++[xh p.1 q.1 ((n:Int)+1)]:=by
 unfold Zt;rw[VY,zY];rfl
theorem Zs(p q:Int×Int)(n:Nat):(Zt p q n).length=n:=by unfold Zt;rw[zx,yU]
def Zr(k:Nat)(p q:Int×Int):List Int:=Zt p q (vX p.1 p.2 q.1 q.2).toNat++List.replicate k q.1
def xG(k:Nat):List (Int×Int)->List (List Int)
 | p::q::r=>Zr k p q::xG k (q::r)
 | _=>[]
theorem XE(k:Nat):∀f:List (Int×Int),(xG k f).length=f.length-1
 | []=>rfl
 | [_]=>rfl
 | p::q::r=>by
  have:=XE k (q::r);show(xG k (q::r)).length+1=_;rw[this];simp
theorem XF(k:Nat):∀{ps:List (Int×Int)} {i:Nat} {p q:Int×Int},ps[i]? =some p->ps[i+1]? =some q->(xG k ps)[i]? =some (Zr k p q)
 | [],_,_,_,h,_=>by simp at h
 | [_],i,_,_,_,h=>by simp at h
 | a::b::r,0,p,q,f,g=>by simp at f g;subst f;subst g;rfl
 | a::b::r,i+1,p,q,f,g=>XF k (ps:=b::r) (i:=i) (by simpa using f) (by simpa using g)
theorem XG(k:Nat)(p q:Int×Int):(Zr k p q).length=(vX p.1 p.2 q.1 q.2).toNat+k:=by
 unfold Zr;rw[qG,Zs,xc]
theorem QM(k:Nat):∀f:List (Int×Int),(((xG k f).flatten.length:Nat):Int)=(yG f).sum+k*((f.length-1:Nat):Int)
 | []=>by simp[xG,yG]
 | [_]=>by simp[xG,yG]
 | p::q::r=>by
  have s:=QM k (q::r);show(((Zr k p q::xG k (q::r)).flatten.length:Nat):Int)=(vX p.1 p.2 q.1 q.2::yG (q::r)).sum+_;rw[yF,qG,XG,List.sum_cons];have u:=Vv p.1 p.2 q.1 q.2;have g:((q::r).length-1:Nat)=r.length:=by simp
  have j:((p::q::r).length-1:Nat)=r.length+1:=by simp
  rw[g] at s;rw[j];have l:(k:Int)*((r.length+1:Nat):Int)=k*(r.length:Int)+k:=by rw[Int.natCast_add,Int.mul_add];simp
  rw[l];omega
def wa(f:List (Int×Int)):Int:=(f.headD (0,0)).1
def xo(k:Nat)(f:List (Int×Int))(i:Nat):List Int:=List.replicate (1+k) (wa f)++((xG k f).take i).flatten
theorem Wp(k:Nat)(f:List (Int×Int)):xo k f (f.length-1)=List.replicate (1+k) (wa f)++(xG k f).flatten:=by
 unfold xo;rw[<- XE k f,jO]
theorem Xr(k:Nat){f:List (Int×Int)}{i:Nat}{p q:Int×Int}(g:f[i]? =some p)(j:f[i+1]? =some q):xo k f (i+1)=xo k f i++Zr k p q:=by
 unfold xo;rw[qe (XF k g j),List.flatten_append,yV];simp
theorem Wn(k:Nat){f:List (Int×Int)}(hb:∀p∈f,inB p):∀i:Nat,i<=f.length-1->(xo k f i).length<=1+k+i*(1000+k)
 | 0,_=>by unfold xo;simp
 | i+1,A=>by
  have B:=Wn k hb i (by omega)
  have l:i<f.length:=by omega
  have s:i+1<f.length:=by omega
  have g:f[i]? =some f[i]:=by simp[l]
  have j:f[i+1]? =some f[i+1]:=by simp[s]
  rw[Xr k g j,qG,XG];have b1:=hb _ (qI g);have b2:=hb _ (qI j);have:=zat b1.1 b1.2.1 b1.2.2.1 b1.2.2.2 b2.1 b2.2.1 b2.2.2.1 b2.2.2.2;have u:(i+1)*(1000+k)=i*(1000+k)+(1000+k):=by rw[Nat.succ_mul]
  omega
theorem WU{α:Type}(n:Nat)(v:α):(List.replicate n [v]).flatten=List.replicate n v:=by
 induction n with
 | zero=>rfl
 | succ n f=>rw[ZU,yF,f];rfl
theorem XI{H f:Hp}{t:Addr}{o:HO}(s:Same H f)(h:H t=none):Same H (upd f t o):=fun c u e=>by
 rw[zm (zi e h)];exact s c u e
inductive Ws(K:W.Frag)(j:List V)(H:Hp)(Q:VK):Prop
 | mk (a:Addr) (k:Nat) (g:List V) (f:List (Int×Int)) (_:j=[.ref a,.int k]) (_:k<=20) (_:SqL K H a g) (_:PlAll K H f g) (_:(∀p∈f,inB p)) (_:f≠[]) (_:f.length<=700) (_:∀t H',H t=none->Same H H'->H' t=some (.lst ((xo k f (f.length-1)).map V.int))->Q (.ref t) H'):Ws K j H Q
def zay(K:W.Frag):Sp:=fun f H Q _=>Ws K f H Q
theorem zc0:zI ["places","work","track","one","other","tick"] ["places","work"] (zv (topL 22)):=u7
theorem Same.none{H f:Hp}{t:Addr}(s:Same H f)(h:f t=none):H t=none:=by
 cases e:H t with
 | none=>rfl
 | some o=>rw[s _ _ e] at h;cases h
theorem zcC{H:Hp}{f:List (Int×Int)}{j:List V}(hp:PlAll K H f j)(g:f≠[]):∃v p,j[0]? =some v/\f[0]? =some p/\wa f=p.1/\Pl K H v p.1 p.2:=by
 cases f with
 | nil=>exact absurd rfl g
 | cons p r=>
  obtain⟨v,l,s⟩:=hp.get' (i:=0) (p:=p) rfl;exact⟨v,p,l,rfl,rfl,s⟩
theorem zdQ{f:Addr}{fd:FuncData}(F:Fun K "track_by" "track_by" (topL 22) f fd)(B:Blt L)(l:Dfn P w K L C "way_between" 1 ["one","other"] (zcU K))(D:Dfn P w K L C "going_to" 2 ["one","other","ticks"] (WG K)):FnOk P w K L C CX0 3 f fd ["places","work"] (zay K):=by
 have nd:=zc0.nd;refine F.ok zc0 (fun vs H Q E h=>?_) (fun as A ap s H vs Q E hr h=>?_)
 ·obtain⟨a,k,u,J,rfl,_⟩:=h
  rfl
 ·obtain⟨a,k,u,J,rfl,hk,hx,hp,hb,an,hl,kQ⟩:=h
  have ar:=bG1000000;have au:=bGe;have av:(2:Int)^63=9223372036854775808:=by decide
  have ay:u.length=J.length:=hp.len;obtain⟨v0,p0,ak,aw,eh,aq⟩:=zcC hp an;obtain⟨a0,rfl,h0⟩:=id aq;refine⟨_,(zg (zF (i:=2) nd rfl (Or.inl rfl) (zr Jz (zT (za (zy qh (zy zH (pv 0) zf (fun _ _=>rfl)) zf (fun _ _=>rfl)) ze)) (zr zD zf (pv 1))))
   (zg (qJ jc rfl (VI rfl B.zip (za (pv 0) (za (ja jI (pv 0) (qX zf) j4) ze))) (qR rfl (zu (zp (i:=3) nd rfl (Or.inl rfl)) (zu (zp (i:=4) nd rfl (Or.inl rfl)) qq)))
   (zg (qJ jc rfl (qU rfl B.range (za (zn l hr.m rfl (za (pv 3) (za (pv 4) ze))) ze)) (zp (i:=5) nd rfl (Or.inl rfl))
    (zk (qM (j7 xf xK xJ qA (pv 2) (za (zy qh (zn D hr.m rfl (za (pv 3) (za (pv 4) (za (zr zD (pv 5) zf) ze)))) zf (fun _ _=>rfl)) ze)))))
    (zk (qM (j7 xf PySem.F.slot_list_extend PySem.F.type_list_extend Y2 (pv 2) (za (zr Jz (zT (za (zy qh (pv 4) zf (fun _ _=>rfl)) ze)) (pv 1)) ze))))))
   (zk (zC (pv 2))))),?_⟩
  refine⟨_,rfl,a,u,0,_,rfl,rfl,hx,qP (j:=0) ak,a0,_,_,_,rfl,rfl,h0,rfl,le1,fun l1 ac=>?_⟩
  refine⟨_,rfl,_,_,rfl,rfl,l1,1+(k:Int),_,rfl,rfl,zd,by omega,by omega,?_,fun t ht=>?_⟩
  ·show 1*(1+(k:Int)).toNat<=sizeLine
   omega
  have eR:(List.replicate (1+(k:Int)).toNat [V.int p0.1]).flatten=(xo k J 0).map V.int:=by
   rw[WU];unfold xo;rw[eh,show(1+(k:Int)).toNat=1+k by omega]
   simp
  rw[eR];have s1:Same H (upd H l1 (.lst [.int p0.1])):=zc ac;have O:H t=none:=s1.none ht;have s2:=s1.trans (zc (o:=.lst ((xo k J 0).map V.int)) ht);have M:upd (upd H l1 (.lst [.int p0.1])) t (.lst ((xo k J 0).map V.int)) t=some (.lst ((xo k J 0).map V.int)):=zd;generalize upd (upd H l1 (.lst [.int p0.1])) t (.lst ((xo k J 0).map V.int))=H2 at s2 M;clear s1 ht ac;refine⟨_,rfl,_,rfl,1,rfl,a,u,rfl,s2.seq hx,fun z hz=>?_⟩
  have s3:=s2.trans (zc (o:=.lst (qk u (some 1) none)) hz);have af:=(zc (o:=.lst (qk u (some 1) none)) hz) _ _ M;have Y:upd H2 z (.lst (qk u (some 1) none)) z=some (.lst (u.drop 1)):=by rw[zd,Q0]
  have ah:z≠t:=(zi M hz).symm;generalize upd H2 z (.lst (qk u (some 1) none))=H3 at s3 af Y;clear s2 M hz;refine⟨true,true,a,z,rfl,⟨u,s3.seq hx⟩,⟨_,u9 Y⟩,?_⟩
  refine zcE (K:=K) (k1:=true) (k2:=true) (xs:=u) (ys:=u.drop 1) (fun i σ H'=>Ex3 fun(v3 v4 v5:Option V)=>An4 (σ=[some (.ref a),some (.int k),some (.ref t),v3,v4,v5]) (Same H H') (H' t=some (.lst ((xo k J i).map V.int))) (H' z=some (.lst (u.drop 1))))
   ⟨_,_,_,rfl,s3,af,Y⟩ (fun i σ H' ⟨_,_,_,_,g,_,h⟩=>⟨g.seq hx,u9 h⟩) ?_ ?_
  ·rintro i x y σ H' T e1 e2 ⟨v3,v4,v5,rfl,g,G,U⟩ hT
   have ab:u[i+1]? =some y:=by rw[Jj] at e2;rw[ZW];exact e2
   have ax:i+1<u.length:=(zZ.mp ab).1;refine⟨T,_,rfl,ua zd,rfl,_,_,rfl,_,_,rfl,rfl,?_⟩
   have g1:=g.trans (zc (o:=.tup [x,y]) hT);have ae:=(zc (o:=.tup [x,y]) hT) _ _ G;have ag:=(zc (o:=.tup [x,y]) hT) _ _ U;generalize upd H' T (.tup [x,y])=Ha at g1 ae ag;clear g G U hT;obtain⟨p,q1,pp⟩:=hp.get e1;obtain⟨q,q2,pq⟩:=hp.get ab;have b1:=hb _ (qI q1);have b2:=hb _ (qI q2);have wb:=zat b1.1 b1.2.1 b1.2.2.1 b1.2.2.2 b2.1 b2.2.1 b2.2.2.1 b2.2.2.2;have wn:=Vv p.1 p.2 q.1 q.2;have tl:=Wn k hb i (by omega)
   have im:i*(1000+k)<=700*1020:=Nat.mul_le_mul (by omega) (by omega)
   refine⟨_,rfl,_,rfl,x,y,p.1,p.2,q.1,q.2,rfl,pp.same g1,pq.same g1,_,rfl,by omega,by omega,?_⟩
   refine jF (fun j σ H'=>Ex1 fun(v5:Option V)=>An4 (σ=[some (.ref a),some (.int k),some (.ref t),some x,some y,v5]) (Same H H') (H' t=some (.lst ((xo k J i++Zt p q j).map V.int))) (H' z=some (.lst (u.drop 1))))
    ⟨_,rfl,g1,by rw[show Zt p q 0=[] from rfl,xj];exact ae,ag⟩ ?_ ?_
   ·rintro j σ Hb hj ⟨v5,rfl,gb,I,aa⟩
    rw[JZ];refine⟨_,rfl,.inl ⟨rfl,_,u9 I⟩,_,rfl,_,rfl,_,rfl,_,_,rfl,rfl,x,y,p.1,p.2,q.1,q.2,_,rfl,pp.same gb,pq.same gb,fun c Hc hc ai=>?_⟩
    subst ai;refine⟨c,_,_,_,rfl,rfl,ua zd,rfl,t,_,_,rfl,rfl,(zc hc) _ _ I,?_,?_⟩
    ·rw[zx,qG,Zs];omega
    ·refine⟨_,rfl,XI (gb.trans (zc hc)) O,?_,?_⟩
     ·rw[zd,QN,<- yV,zY (l₁:=xo k J i++Zt p q j)]
      rfl
     ·rw[zm ah]
      exact(zc hc) _ _ aa
   ·rintro σ Hb ⟨v5,rfl,gb,I,aa⟩
    obtain⟨qa,rfl,ao⟩:=id (pq.same gb);refine⟨_,rfl,.inl ⟨rfl,_,u9 I⟩,_,rfl,qa,_,_,_,rfl,rfl,ao,rfl,le1,fun l4 al=>?_⟩
    refine⟨_,rfl,l4,(k:Int),_,rfl,rfl,zd,by omega,by omega,?_,fun l5 am=>?_⟩
    ·show 1*(k:Int).toNat<=sizeLine
     omega
    have aj:(List.replicate (k:Int).toNat [V.int q.1]).flatten=(List.replicate k q.1).map V.int:=by
     rw[WU,show(k:Int).toNat=k by omega]
     simp
    rw[aj];have sc:=(zc (o:=.lst [.int q.1]) al).trans (zc (o:=.lst ((List.replicate k q.1).map V.int)) am);have h5:upd (upd Hb l4 (.lst [.int q.1])) l5 (.lst ((List.replicate k q.1).map V.int)) l5=some (.lst ((List.replicate k q.1).map V.int)):=zd;generalize upd (upd Hb l4 (.lst [.int q.1])) l5 (.lst ((List.replicate k q.1).map V.int))=Hc at sc h5;refine⟨t,l5,_,_,rfl,rfl,sc _ _ I,h5,?_,?_⟩
    ·rw[zx,qG,Zs,zx,xc];omega
    ·refine⟨_,_,_,rfl,XI (gb.trans sc) O,?_,?_⟩
     ·rw[zd,Xr k q1 q2,<- zY,yV]
      unfold Zr;rfl
     ·rw[zm ah]
      exact sc _ _ aa
  ·rintro σ H' ⟨v3,v4,v5,rfl,g,G,U⟩
   have em:min u.length (u.drop 1).length=J.length-1:=by rw[wZ];omega
   rw[em] at G;exact⟨_,rfl,kQ t H' O g G⟩
def plD(p:Int×Int):Dat:=.tup [.int p.1,.int p.2]
def fpl(J:Job)(f:Nat):Int×Int:=match J.fs[f]? with
 | some g=>(g.x,g.y)
 | none=>(0,0)
def ppl(J:Job)(p:Nat):Int×Int:=match J.ps[p]? with
 | some f=>(f.x,f.y)
 | none=>(0,0)
def ZK(J:Job):Int×Int:=(J.gx,J.gy)
def jC(J:Job)(t:jw):List (Int×Int):=[ZK J]++t.pk.map (fun p=>fpl J p.2)++t.ly.map (ppl J)++[ZK J]
structure yZ(J:Job)(t:jw):Prop where
 f:∀p∈t.pk,p.2<J.fs.length
 p:∀k∈t.ly,k<J.ps.length
 l1:t.pk.length<=4
 l2:t.ly.length<=4
theorem TripOk.bd{J:Job}{t:jw}(h:TripOk J t)(j:J.hd<=4):yZ J t:=by
 have l:=h.ly.length_eq;rw[zx] at l;have s:=h.p2;refine⟨fun p hp=>?_,fun k hk=>?_,by omega,by omega⟩
 ·obtain⟨g,f,_,e,_⟩:=h.ok p hp
  exact(zZ.mp e).1
 ·obtain⟨p,hp,rfl⟩:=jS.mp (h.ly.mem_iff.mp hk)
  obtain⟨g,f,e,_,_⟩:=h.ok p hp;exact(zZ.mp e).1
theorem Qu{J:Job}{t:jw}(h:yZ J t):(jC J t).length<=10:=by
 unfold jC;have:=h.l1;have:=h.l2;simp only[qG,zx,Wd];omega
theorem zea{J:Job}{g:List Nat}(l:wr J g)(f:Nat):inB (fpl J f):=by
 unfold fpl;cases e:J.fs[f]? with
 | none=>exact⟨by decide,by decide,by decide,by decide⟩
 | some j=>
  have:=(l.fa j (qI e)).2.1;exact this
theorem zdA{J:Job}{g:List Nat}(j:wr J g)(f:Nat):inB (ppl J f):=by
 unfold ppl;cases e:J.ps[f]? with
 | none=>exact⟨by decide,by decide,by decide,by decide⟩
 | some l=>
  have:=(j.pa l (qI e)).2.1;exact this
theorem zax{J:Job}{g:List Nat}(f:wr J g)(t:jw):∀p∈jC J t,inB p:=by
 intro p hp;unfold jC at hp;have j:inB (ZK J):=f.gate;rcases qC.mp hp with hp | hp
 ·rcases qC.mp hp with hp | hp
  ·rcases qC.mp hp with hp | hp
   ·rw[qu.mp hp];exact j
   ·obtain⟨x,_,rfl⟩:=jS.mp hp
    exact zea f _
  ·obtain⟨x,_,rfl⟩:=jS.mp hp
   exact zdA f _
 ·rw[qu.mp hp];exact j
theorem zb9{H:Hp}{p:Int×Int}{x:V}(h:Rep K H (plD p) x):∃a,x=.ref a/\SqT K H a [.int p.1,.int p.2]:=by
 obtain⟨B,I,rfl,f,D,G,j,u,E,g,l,A,s⟩:=h;subst j l;cases(show g=[] from s)
 cases(show D=_ from u)
 cases(show E=_ from A)
 exact⟨B,rfl,f⟩
theorem zaZ{H:Hp}{a:Addr}{x y:Int}(h:SqT K H a [.int x,.int y]):Rep K H (plD (x,y)) (.ref a):=⟨a,_,rfl,h,_,_,rfl,rfl,_,_,rfl,rfl,rfl⟩
theorem YV{H:Hp}{t:jw}{j:Addr}(h:Rep K H (vj t) (.ref j)):∃a c f g,SqT K H j [.ref a,.ref c]/\SqT K H a f/\Reps K H (t.pk.map xT) f/\SqT K H c g/\Reps K H (t.ly.map VO) g:=by
 obtain⟨a,T,e,q,O,M,l,A,Q,G,s,B,u⟩:=h;cases e;subst l s;cases(show G=[] from u)
 obtain⟨a,f,rfl,D,I⟩:=A;obtain⟨c,g,rfl,E,J⟩:=B;exact⟨a,c,f,g,q,D,I,E,J⟩
theorem zd1{H:Hp}{l:List Nat}{f:List V}(h:Reps K H (l.map VO) f){i:Nat}{x:V}(hx:f[i]? =some x):∃k,l[i]? =some k/\x=.int (k:Int):=by
 obtain⟨d,e,r⟩:=h.get hx;rw[zX] at e;obtain⟨k,g,rfl⟩:=jb.mp e;exact⟨k,g,r⟩
theorem zeb{H:Hp}{J:Job}{fs:Addr}{g:List V}(u:Reps K H (J.fs.map we) g){f:Nat}(hf:f<J.fs.length):∃a c,g[f]? =some (.ref a)/\(∃x z,SqT K H a [x,.ref c,z])/\Rep K H (plD (fpl J f)) (.ref c):=by
 have e:J.fs[f]? =some J.fs[f]:=by simp[hf]
 obtain⟨v,j,A⟩:=VX u e;obtain⟨a,c,rfl,l,s⟩:=yr A;refine⟨a,c,j,⟨_,_,l⟩,?_⟩
 have:fpl J f=(J.fs[f].x,J.fs[f].y):=by unfold fpl;rw[e]
 rw[this];exact zaZ s
theorem zdB{H:Hp}{J:Job}{ps:Addr}{pv:List V}(s:Reps K H (J.ps.map xS) pv){f:Nat}(hf:f<J.ps.length):∃a c,pv[f]? =some (.ref a)/\(∃x,SqT K H a [x,.ref c])/\Rep K H (plD (ppl J f)) (.ref c):=by
 have e:J.ps[f]? =some J.ps[f]:=by simp[hf]
 obtain⟨v,g,u⟩:=VX s e;obtain⟨a,c,rfl,j,l⟩:=QQ u;refine⟨a,c,g,⟨_,j⟩,?_⟩
 have:ppl J f=(J.ps[f].x,J.ps[f].y):=by unfold ppl;rw[e]
 rw[this];exact zaZ l
inductive QA(K:W.Frag)(s:List V)(H:Hp)(Q:VK):Prop
 | mk (f g:Addr) (J:Job) (t:jw) (_:s=[.ref f,.ref g]) (_:Rep K H (X6 J) (.ref f)) (_:Rep K H (vj t) (.ref g)) (_:yZ J t) (_:∀(l:Addr) (j:List V) H',H l=none->Same H H'->H' l=some (.lst j)->Reps K H' ((jC J t).map plD) j->Q (.ref l) H'):QA K s H Q
def Wt(K:W.Frag):Sp:=fun f H Q _=>QA K f H Q
theorem WK:zI ["job","trip","picks","lays","feeders","parts"] ["job","trip"] (zv (topL 19)):=u7
theorem za4{f:Addr}{fd:FuncData}(F:Fun K "stops_of" "stops_of" (topL 19) f fd)(B:Blt L):FnOk P w K L C CX0 1 f fd ["job","trip"] (Wt K):=by
 have nd:=WK.nd;refine F.ok WK (fun vs H Q E h=>?_) (fun au A an s H vs Q E hr h=>?_)
 ·obtain⟨jp,tp,J,t,rfl,_⟩:=h
  rfl
 ·obtain⟨jp,tp,J,t,rfl,rj,rt,tb,k⟩:=h
  have ar:=bG100000;have l1:=tb.l1;have l2:=tb.l2;obtain⟨g,fs,ps,as,qj,rg,rf,rp,_⟩:=wQ rj;obtain⟨fv,qf,ap⟩:=x9 rf;obtain⟨av,qp,aq⟩:=x9 rp;obtain⟨ta,tc,xs,ys,qt,qa,ra,qc,rc⟩:=YV rt;have ae:=ra.len;rw[zx] at ae;have af:=rc.len;rw[zx] at af;refine⟨_,(zg (jK (pv 1) (qR rfl (zu (zp (i:=2) nd rfl (Or.inl rfl)) (zu (zp (i:=3) nd rfl (Or.inl rfl)) qq))))
   (zg (zaX ["job"] [0] rfl rfl (by kernel_rfl) (ym (pv 2)) (fun _ _ _ _=>qV) (fun _ _ _ _=>(zy (qY (K:=K) rfl) (zy (qY (K:=K) rfl) (zy (qY (K:=K) rfl) (pv 2) zf (fun _ _=>rfl)) (pv 1) (fun _ _=>rfl)) zf (fun _ _=>rfl))) (zp (i:=4) nd rfl (Or.inl rfl)))
   (zg (yk ["job"] [0] rfl rfl (by kernel_rfl) (ym (pv 3)) (fun _ _ _ _=>qV) (fun _ _ _ _=>(zy (qY (K:=K) rfl) (zy (qY (K:=K) rfl) (zy (qY (K:=K) rfl) (pv 1) zf (fun _ _=>rfl)) (pv 0) (fun _ _=>rfl)) zf (fun _ _=>rfl))) (zp (i:=5) nd rfl (Or.inl rfl)))
   (zk (zC (zr yp (zr yp (zr yp (zT (za (zy qh (pv 0) zf (fun _ _=>rfl)) ze)) (pv 4)) (pv 5)) (zT (za (zy qh (pv 0) zf (fun _ _=>rfl)) ze)))))))),?_⟩
  refine⟨_,rfl,tp,_,rfl,qt,rfl,_,_,rfl,_,_,rfl,rfl,?_⟩
  refine⟨_,rfl,ta,rfl,⟨_,qa⟩,ZF (K:=K) (a:=ta) (xs:=xs) (fun i D M=>Reps K M ((t.pk.take i).map fun p=>plD (fpl J p.2)) D/\Same H M) ⟨rfl,uc _⟩ (fun i D M ⟨_,j⟩=>j.sqT qa) ?_ ?_⟩
  ·rintro i x D M hx ⟨U,j⟩
   obtain⟨d,e1,r1⟩:=(ra.same j).get hx;rw[zX] at e1;obtain⟨p,ep,rfl⟩:=jb.mp e1;obtain⟨pa,rfl,ao⟩:=yo r1;have hi:i<t.pk.length:=(zZ.mp ep).1;obtain⟨a,c,ea,⟨x',z',q1⟩,q2⟩:=zeb (fs:=fs) (ap.same j) (tb.f p (qI ep));refine⟨pa,_,rfl,ao,rfl,_,_,rfl,_,_,rfl,rfl,rfl,?_⟩
   have zl:=U.len;rw[zx,jq] at zl;refine⟨_,rfl,jp,_,_,_,rfl,rfl,j.sqT qj,rfl,_,rfl,fs,_,_,_,rfl,rfl,j.sqT qf,qP ea,a,_,_,_,rfl,rfl,q1,rfl,by omega,?_,j⟩
   rw[qe ep,zY];exact uj q2 U
  rintro D M ⟨U,j⟩;have aj:t.pk.take xs.length=t.pk:=by rw[ae,jO]
  rw[aj] at U;have zl:=U.len;rw[zx] at zl;refine⟨by omega,fun d1 T=>?_⟩
  have s1:=j.trans (zc (o:=.lst D) T);have Y:=U.same (zc (o:=.lst D) T);have D1:upd M d1 (.lst D) d1=some (.lst D):=zd;generalize upd M d1 (.lst D)=H2 at s1 Y D1;clear j U T;refine⟨_,rfl,tc,rfl,⟨_,s1.sqT qc⟩,ZF (K:=K) (a:=tc) (xs:=ys) (fun i u O=>Reps K O ((t.ly.take i).map fun p=>plD (ppl J p)) u/\Same H2 O) ⟨rfl,uc _⟩ (fun i u O ⟨_,j⟩=>(s1.trans j).sqT qc) ?_ ?_⟩
  ·rintro i x u O hx ⟨l,j⟩
   obtain⟨k',ek,rfl⟩:=zd1 (rc.same (s1.trans j)) hx;have hi:i<t.ly.length:=(zZ.mp ek).1;have I:=s1.trans j;obtain⟨a,c,ea,⟨x',q1⟩,q2⟩:=zdB (ps:=ps) (aq.same I) (tb.p k' (qI ek));refine⟨rfl,?_⟩
   have wl:=l.len;rw[zx,jq] at wl;refine⟨_,rfl,jp,_,_,_,rfl,rfl,I.sqT qj,rfl,_,rfl,ps,_,_,_,rfl,rfl,I.sqT qp,qP ea,a,_,_,_,rfl,rfl,q1,rfl,by omega,?_,j⟩
   rw[qe ek,zY];exact uj q2 l
  rintro u O ⟨l,j⟩;have aa:t.ly.take ys.length=t.ly:=by rw[af,jO]
  rw[aa] at l;have wl:=l.len;rw[zx] at wl;refine⟨by omega,fun d2 G=>?_⟩
  have I:=(s1.trans j).trans (zc (o:=.lst u) G);have ai:=(Y.same j).same (zc (o:=.lst u) G);have ah:=l.same (zc (o:=.lst u) G);have a0:=(zc (o:=.lst u) G) _ _ (j _ _ D1);have D2:upd O d2 (.lst u) d2=some (.lst u):=zd;generalize upd O d2 (.lst u)=H4 at I ai ah a0 D2;clear j l G Y D1 s1;refine⟨_,rfl,jp,_,_,_,rfl,rfl,I.sqT qj,rfl,le1,fun l1 ak=>?_⟩
  have u1:=zc (o:=.lst [.ref g]) ak;refine⟨_,rfl,l1,d1,_,_,rfl,rfl,zd,u1 _ _ a0,by show 1+_<=_;omega,fun l2 al=>?_⟩
  have u2:=u1.trans (zc (o:=.lst ([.ref g]++D)) al);refine⟨_,rfl,l2,d2,_,_,rfl,rfl,zd,u2 _ _ D2,by simp;omega,fun l3 am=>?_⟩
  have u3:=u2.trans (zc (o:=.lst ([.ref g]++D++u)) am);refine⟨_,rfl,jp,_,_,_,rfl,rfl,(I.trans u3).sqT qj,rfl,le1,fun l4 ab=>?_⟩
  have u4:=u3.trans (zc (o:=.lst [.ref g]) ab);refine⟨l3,l4,_,_,rfl,rfl,(zc ab) _ _ zd,zd,by simp;omega,fun l5 ac=>?_⟩
  have u5:=u4.trans (zc (o:=.lst ([.ref g]++D++u++[.ref g])) ac);refine k l5 _ _ ((I.trans u4).none ac) (I.trans u5) zd ?_
  have ag:Rep K _ (plD (ZK J)) (.ref g):=(rg.same I).same u5;unfold jC;rw[zY,zY,zY,ZV,ZV];exact uj ag (Reps.app (Reps.app (⟨_,_,rfl,ag,rfl⟩) (ai.same u5)) (ah.same u5))
def qw(J:Job)(ts:List jw):List (Int×Int):=ts.flatMap (jC J)
theorem Qj(J:Job)(ts:List jw)(t:jw):qw J (ts++[t])=qw J ts++jC J t:=by
 unfold qw;rw[V9];simp
def qo(J:Job)(ts:List jw):List (Int×Int):=if(qw J ts).isEmpty=true then [ZK J] else qw J ts
theorem Qv{J:Job}{f:List Nat}(g:wr J f)(ts:List jw):∀p∈qo J ts,inB p:=by
 intro p hp;unfold qo at hp;split at hp
 ·rw[qu.mp hp];exact g.gate
 ·unfold qw at hp
  obtain⟨t,_,h⟩:=Xb.mp hp;exact zax g t p h
theorem xp{J:Job}:∀{ts:List jw},(∀t∈ts,yZ J t)->(qw J ts).length<=10*ts.length
 | [],_=>zJ _
 | t::ts,h=>by
  have j:=Qu (h t (by simp))
  have l:=xp (ts:=ts) fun g f=>h g (jv _ f)
  show(jC J t++qw J ts).length<=_;rw[qG,jr];omega
theorem Zl{J:Job}{ts:List jw}(h:∀t∈ts,yZ J t)(f:ts.length<=60):(qo J ts).length<=700/\qo J ts≠[]:=by
 have:=xp h;unfold qo;split
 ·exact⟨by show 1<=700;decide,fun z=>by cases z⟩
 ·rename_i c
  refine⟨by omega,fun z=>c (by rw[z];rfl)⟩
theorem XN{H:Hp}:∀{f:List (Int×Int)} {g:List V},Reps K H (f.map plD) g->PlAll K H f g
 | [],_,h=>h
 | p::f,_,h=>by
  obtain⟨v,r,e,j,l⟩:=h;obtain⟨a,rfl,q⟩:=zb9 j;exact⟨_,r,e,⟨a,rfl,q⟩,XN l⟩
theorem Reps.tk{H:Hp}:∀(n:Nat) {f:List Dat} {g:List V},Reps K H f g->Reps K H (f.take n) (g.take n)
 | 0,_,_,_=>rfl
 | n+1,[],_,h=>by rw[show _=_ from h];exact rfl
 | n+1,d::f,_,h=>by
  obtain⟨x,r,e,j,l⟩:=h;subst e;exact⟨x,r.take n,rfl,j,Reps.tk n l⟩
inductive yI(K:W.Frag)(l:List V)(H:Hp)(Q:VK):Prop
 | mk (g j:Addr) (k:Nat) (J:Job) (f:List Nat) (ts:List jw) (tr:List V) (_:l=[.ref g,.ref j,.int k]) (_:k<=20) (_:Rep K H (X6 J) (.ref g)) (_:wr J f) (_:H j=some (.lst tr)) (_:Reps K H (ts.map vj) tr) (_:(∀t∈ts,yZ J t)) (_:ts.length<=60) (_:∀t H',H t=none->Same H H'->H' t=some (.lst ((xo k (qo J ts) ((qo J ts).length-1)).map V.int))->Q (.ref t) H'):yI K l H Q
def Qz(K:W.Frag):Sp:=fun f H Q _=>yI K f H Q
theorem zc1:zI ["job","plan","work","stops"] ["job","plan","work"] (zv (topL 23)):=u7
theorem zdR{f:Addr}{fd:FuncData}(F:Fun K "track_of" "track_of" (topL 23) f fd)(B:Blt L)(G:Dfn P w K L C "stops_of" 1 ["job","trip"] (Wt K))(I:Dfn P w K L C "track_by" 3 ["places","work"] (zay K)):FnOk P w K L C CX0 4 f fd ["job","plan","work"] (Qz K):=by
 have nd:=zc1.nd;refine F.ok zc1 (fun vs H Q E h=>?_) (fun am A aj s H vs Q E hr h=>?_)
 ·obtain⟨jp,pl,k,J,ai,ts,tr,rfl,_⟩:=h
  rfl
 ·obtain⟨jp,pl,kk,J,ai,ts,tr,rfl,ag,rj,jo,hp,rt,tb,tl,k⟩:=h
  have ak:=bG100000;have aa:=rt.len;rw[zx] at aa;have al:=xp tb;obtain⟨g,fs,ps,as,qj,rg,_⟩:=wQ rj;refine⟨_,(zg (zb7 ["job"] [0] rfl rfl (by kernel_rfl) (qz (pv 1)) (fun _ _ _ _=>qV) (fun _ _ _ _=>(Zw (K:=K) rfl (zn G hr.m rfl (za (pv 2) (za (pv 0) ze))))) (fun _ _ _ _=>qV) (fun _ _ _ _=>(pv 1)) (zp (i:=3) nd rfl (Or.inl rfl)))
   (zg (qH (xL (W1 (pv 3)))
   (zk (zF (i:=3) nd rfl (Or.inl rfl) (zT (za (zy qh (pv 0) zf (fun _ _=>rfl)) ze))))
   zQ)
   (zk (zC (zn I hr.m rfl (za (pv 3) (za (pv 2) ze))))))),?_⟩
  refine⟨_,rfl,pl,rfl,⟨_,u9 hp⟩,zbp (K:=K) (a:=pl) (xs:=tr) (fun i u U=>Reps K U ((qw J (ts.take i)).map plD) u/\Same H U) ⟨rfl,uc _⟩ (fun i u U ⟨_,Y⟩=>u9 (Y _ _ hp)) ?_ ?_⟩
  ·rintro i x u U hx ⟨rz,Y⟩
   obtain⟨d,e1,r1⟩:=(rt.same Y).get hx;rw[zX] at e1;obtain⟨t,et,rfl⟩:=jb.mp e1;obtain⟨tp,zz,ex,_⟩:=id r1;subst ex;have hi:i<ts.length:=(zZ.mp et).1;have ac:=tb t (qI et);have sl:=Qu ac;have zl:=rz.len;rw[zx] at zl;have ae:=xp (J:=J) (ts:=ts.take i) fun t' ah=>tb t' (Wb ah)
   rw[jq] at ae;refine⟨rfl,?_⟩
   refine⟨_,rfl,_,rfl,jp,tp,J,t,rfl,rj.same Y,r1,ac,fun l T H2 _ s2 L2 r2=>?_⟩
   have ul:=r2.len;rw[zx] at ul;refine⟨l,rfl,⟨_,u9 L2⟩,Yd (K:=K) (a:=l) (xs:=T) (fun j ws M=>ws=u++T.take j/\Same H2 M) ⟨by simp,uc _⟩ (fun j ws M ⟨_,O⟩=>u9 (O _ _ L2)) ?_ ?_⟩
   ·rintro j y ws M hy ⟨rfl,O⟩
    have hj:j<T.length:=(zZ.mp hy).1;refine⟨⟨rfl,rfl,trivial⟩,?_⟩
    refine⟨_,rfl,?_,?_,O⟩
    ·rw[qG,jq];omega
    ·rw[qe hy,yV]
   ·rintro ws M ⟨rfl,O⟩
    rw[jO];refine⟨?_,(Y.trans s2).trans O⟩
    rw[qe et,Qj,zY];exact Reps.app ((rz.same s2).same O) (r2.same O)
  rintro u U ⟨rz,Y⟩;have af:ts.take tr.length=ts:=by rw[aa,jO]
  rw[af] at rz;have zl:=rz.len;rw[zx] at zl;refine⟨by omega,fun D hD=>?_⟩
  have s1:=Y.trans (zc (o:=.lst u) hD);have ab:=rz.same (zc (o:=.lst u) hD);have D1:upd U D (.lst u) D=some (.lst u):=zd;generalize upd U D (.lst u)=H2 at s1 ab D1;have sp:=Zl (J:=J) tb tl;have a0:∀(a:Addr) (T:List V) M,Same H2 M->M a=some (.lst T)->Reps K M ((qo J ts).map plD) T->zay K [.ref a,.int kk] M Q E:=fun a T M O L3 r3=>
   ⟨a,kk,T,qo J ts,rfl,ag,u9 L3,XN r3,Qv jo ts,sp.2,sp.1,fun t H' tN s' L'=>k t H' ((s1.trans O).none tN) ((s1.trans O).trans s') L'⟩
  have ez:u.isEmpty=(qw J ts).isEmpty:=by
   cases u with
   | nil=>simp at zl;rw[List.eq_nil_of_length_eq_zero zl.symm];rfl
   | cons y ys=>
    cases e:qw J ts with
    | nil=>rw[e] at zl;simp at zl
    | cons _ _=>rfl
  refine⟨_,rfl,D,u,rfl,u9 D1,?_⟩
  refine qZ (fun c=>?_) (fun c=>?_)
  ·have c:u.isEmpty=true:=by simpa using c
   refine⟨_,rfl,jp,_,_,_,rfl,rfl,s1.sqT qj,rfl,le1,fun l hl=>⟨_,rfl,_,rfl,a0 l _ _ (zc hl) zd ?_⟩⟩
   have e:qo J ts=[ZK J]:=by unfold qo;rw[zw (by rw[<- ez];exact c)]
   rw[e];exact⟨_,_,rfl,(rg.same s1).same (zc hl),rfl⟩
  ·have c:¬u.isEmpty=true:=by simpa using c
   refine⟨_,rfl,_,rfl,a0 D u H2 (uc _) D1 ?_⟩
   have e:qo J ts=qw J ts:=by unfold qo;rw[zq (by rw[<- ez];exact c)]
   rw[e];exact ab
def vF(f:Int)(p:Int×Int):Prop:=f<=p.1/\p.1<=f+9/\0<=p.2/\p.2<=15
structure Yq(x0:Int)(J:Job):Prop where
 g:vF x0 (ZK J)
 f:∀f∈J.fs,vF x0 (f.x,f.y)
 p:∀p∈J.ps,vF x0 (p.x,p.y)
 n:J.ps.length<=3
def PlN(f:Int)(H:Hp)(a:Addr):Prop:=∃p:Int×Int,H a=some (.tup [.int p.1,.int p.2])/\vF f p
theorem PlN.imp{g:Int}{H H':Hp}{a:Addr}(h:PlN g H a)(f:∀o,H a=some o->H' a=some o):PlN g H' a:=let ⟨p,e,r⟩:=h;⟨p,f _ e,r⟩
theorem PlN.draw{f:Int}{H H':Hp}{a b:Addr}{n:Int}(h:PlN f H a)(B:BoxAt H b n)(s:SameB b H H'):PlN f H' a:=by
 obtain⟨p,e,r⟩:=h;obtain⟨j,b1,b2,g,_⟩:=B;exact⟨p,s a _ e (xW e g (by intro z;cases z)),r⟩
theorem zag(f:List V)(n:Nat)(h:n<=f.length):qk f none (some (n:Int))=f.take n:=by
 unfold qk;rw[HT.sIx_nat,HT.sIx_none];have:min n f.length=n:=by omega
 rw[this];simp
theorem Row.put{H:Hp}{l q:Addr}{o:HO}{f:List Str}(r:Row H l f)(h:l≠q):Row (upd H q o) l f:=⟨by rw[zm h];exact r.1,r.2⟩
theorem VF{as:List Addr}{i:Int}(h:0<=i)(j:i<as.length):∃x,atI (as.map V.ref) i=some (.ref x)/\x∈as:=by
 obtain⟨v,g,f⟩:=JV (xs:=as.map V.ref) h (by rw[zx];exact j)
 rw[zX] at f;obtain⟨x,hx,rfl⟩:=jb.mp f;exact⟨x,g,qI hx⟩
theorem zdp{ns:List Str}{i:Int}(h:0<=i)(j:i<ns.length):∃x,atI (ns.map V.str) i=some (.str x)/\x∈ns:=by
 obtain⟨v,g,f⟩:=JV (xs:=ns.map V.str) h (by rw[zx];exact j)
 rw[zX] at f;obtain⟨x,hx,rfl⟩:=jb.mp f;exact⟨x,g,qI hx⟩
inductive zaD(K:W.Frag)(g:List V)(H:Hp)(Q:VK):Prop
 | mk (b:Addr) (x f n:Int) (_:g=[.ref b,.int x,.int f]) (_:BoxAt H b n) (_:n<400000) (_:0<=x) (_:x<=100) (_:2<=f) (_:f<=10) (_:∀(p:Addr) (J:Job) H',SameB b H H'->BoxAt H' b (n+1000)->Rep K H' (X6 J) (.ref p)->wr J (List.range J.ps.length)->Yq x J->Q (.ref p) H'):zaD K g H Q
def zew(K:W.Frag):Sp:=fun f H Q _=>zaD K f H Q
theorem zeC:zI ["_law_box_here","_law_x","_law_far","_law_many","_law_kinds","_law_places","_law_k","_law_spot","_law_turn","_law_parts","_law_feeders"] ["_law_box_here","_law_x","_law_far"] (zv (topL 38)):=u7
def YH(b:_)(x:_)(j:_)(m:_)(l:_)(q:_)(H:_)(n:_)(f:_):=fun(i:Nat) (σ:St) (H':Hp)=>(Ex4 fun(s u A:Option V) (g:List Addr)=>An7 (σ=[some (.ref b),some (.int x),some (.int j),some (.int m),some (.ref l),some (.ref q),s,u,A,none,none]) (SameB b H H') (BoxAt H' b (n+200+2*i)) (H' q=some (.lst (g.map V.ref))) (g.length=i) ((∀a∈g,PlN x H' a)) (Row H' l f):Prop)
theorem zeN{f:Addr}{fd:FuncData}(F:Fun K "_law_near_job" "_law_near_job" (topL 38) f fd)(B:Blt L)(G:Dfn P w K L C "_law_take" 1 ["_law_box_here","_law_size"] vA)(ac:Dfn P w K L C "_law_names" 3 ["_law_box_here","_law_many"] WB):FnOk P w K L C CX0 4 f fd ["_law_box_here","_law_x","_law_far"] (zew K):=by
 have nd:=zeC.nd;refine F.ok zeC (fun vs H Q E h=>?_) (fun bj A bh s H vs Q E hr h=>?_)
 ·obtain⟨b,x,af,n,rfl,_⟩:=h
  rfl
 ·obtain⟨b,x,af,n,rfl,B0,hn,x0,x1,f0,f1,k⟩:=h
  have aw:=hr.units;have bi:=bG100000;have aj:=bGe;refine⟨_,(zg (jK (zN (za (zn G hr.m rfl (za (pv 0) (za zf ze))) (za (zn ac hr.m rfl (za (pv 0) (za zf ze))) ze))) (qR rfl (zu (zp (i:=3) nd rfl (Or.inl rfl)) (zu (zp (i:=4) nd rfl (Or.inr rfl)) qq))))
   (zg (zF (i:=5) nd rfl (Or.inl rfl) (zT ze))
   (zg (qJ jc rfl (qU rfl B.range (za (zr zD (pv 3) zf) ze)) (zp (i:=6) nd rfl (Or.inl rfl))
   (zg (zF (i:=7) nd rfl (Or.inl rfl) (zN (za (zr zD (pv 1) (zn G hr.m rfl (za (pv 0) (za (pv 2) ze)))) (za (zn G hr.m rfl (za (pv 0) (za (pv 2) ze))) ze))))
    (zg (qJ jc rfl (qU rfl B.range (za (zr zD (pv 3) zf) ze)) (zp (i:=8) nd rfl (Or.inl rfl))
    (zk (zF (i:=7) nd rfl (Or.inl rfl) (Zy (zG (zcg aw) (pv 7) (pv 5) (by with_unfolding_all rfl)) (zN (za (zy qh (pv 7) zf (fun _ _=>rfl)) (za (zr zD (zy qh (pv 7) zf (fun _ _=>rfl)) zf) ze))) (pv 7)))))
    (zk (qM (j7 xf xK xJ qA (pv 5) (za (pv 7) ze)))))))
   (zg (zF (i:=9) nd rfl (Or.inl rfl) (jg xO rfl B.tuple wB (za (vD ["_law_kinds","_law_box_here"] [4,0] rfl rfl (by kernel_rfl) (qz (ja jI (pv 5) j4 (qX (pv 3)))) (fun _ _ _ _=>qV) (fun _ _ _ _=>(zN (za (zy (wR (K:=K) rfl) (pv 1) (zn G hr.m rfl (za (pv 2) (za zf ze))) (fun _ _=>rfl)) (za (pv 0) ze))))) ze)))
   (zg (zF (i:=10) nd rfl (Or.inl rfl) (zN (za (zN (za (zy zH (pv 4) zf (fun _ _=>rfl)) (za (zy zH (pv 5) (pv 3) (fun _ _=>rfl)) (za zf ze)))) (za (zN (za (zy zH (pv 4) zf (fun _ _=>rfl)) (za (zy zH (pv 5) (zr zD (pv 3) zf) (fun _ _=>rfl)) (za zf ze)))) ze))))
   (zk (zC (zN (pa5 (zy zH (pv 5) (zr zD (pv 3) zf) (fun _ _=>rfl)) (zr zD zf (zn G hr.m rfl (za (pv 0) (za zf ze)))) (pv 10) (pv 9) (zN ze)))))))))),?_⟩
  refine⟨_,rfl,b,4,n,rfl,B0,by omega,by decide,by decide,fun m H1 m0 m1 B1 S1=>⟨_,rfl,b,2,_,rfl,B1,by omega,by decide,by decide,fun ks g H2 S2 B2 nk kN Rk kl=>?_⟩⟩
  refine⟨le2,fun t ht=>⟨t,_,rfl,ua zd,rfl,_,_,rfl,_,_,rfl,rfl,le0,fun q hq=>?_⟩⟩
  have u2:=(zc (o:=.tup [.int m,.ref ks]) ht).trans (zc (o:=.lst []) hq);have qb:q≠b:=fun z=>by
   obtain⟨o,eo⟩:=B2.some;rw[z,(zc ht) _ _ eo] at hq;cases hq
  have Q3:upd (upd H2 t (.tup [.int m,.ref ks])) q (.lst []) q=some (.lst []):=zd;have S3:=(S1.trans S2).trans (ue (b:=b) u2);have qN:H q=none:=by
   cases e:H q with
   | none=>rfl
   | some o=>rw[(zc ht) _ _ ((S1.trans S2) q o e qb)] at hq;cases hq
  have B3:=B2.same u2;have ah:=Rk.same u2;generalize upd (upd H2 t (.tup [.int m,.ref ks])) q (.lst [])=H3 at Q3 S3 B3 ah;clear u2 ht hq S1 S2 B1 B2 Rk;have bg:ks≠q:=fun z=>by rw[z] at ah;have:=ah.1;rw[Q3] at this;cases g with | nil=>simp at kl | cons a l=>cases this
  refine⟨_,rfl,_,_,rfl,rfl,_,rfl,(by rw[aj];omega),(by rw[aj];omega),?_⟩
  have hN:(m+3).toNat<=6:=by omega
  have bb:(m+3).toNat=m.toNat+3:=by omega
  refine jF (YH b x af m ks q H n g)
   ⟨_,_,_,[],rfl,S3,B3.mono (by omega),Q3,rfl,(fun a h=>nomatch h),ah⟩ ?_ ?_
  ·rintro i σ H4 hi ⟨v6,v7,v8,I,rfl,S4,B4,Q4,al,pa,ae⟩
   rw[bb] at hi;refine⟨_,rfl,_,rfl,_,rfl,b,af,_,rfl,B4,by omega,by omega,by omega,fun r1 H5 a0 a1 B5 S5=>⟨_,_,rfl,rfl,?_⟩⟩
   refine⟨_,rfl,_,rfl,b,af,_,rfl,B5,by omega,by omega,by omega,fun r2 H6 c0 c1 B6 S6=>⟨le2,fun O aa=>?_⟩⟩
   have ap:=(S4.trans (S5.trans S6)).new (o:=.tup [.int (x+r1),.int r2]) aa;have B7:=B6.new (o:=.tup [.int (x+r1),.int r2]) aa;have ak:=S5.trans S6;have Q7:=(zc (o:=.tup [.int (x+r1),.int r2]) aa) _ _ (ak q _ Q4 qb);have an:=(ae.draw ak nk).same (zc (o:=.tup [.int (x+r1),.int r2]) aa);have pa7:∀a∈I,PlN x (upd H6 O (.tup [.int (x+r1),.int r2])) a:=fun a ha=>((pa a ha).draw B4 ak).imp fun o e=>(zc aa) _ _ e
   have P7:upd H6 O (.tup [.int (x+r1),.int r2]) O=some (.tup [.int (x+r1),.int r2]):=zd;generalize upd H6 O (.tup [.int (x+r1),.int r2])=H7 at ap B7 Q7 an pa7 P7;clear S4 S5 S6 B4 B5 B6 Q4 ae pa ak aa;refine⟨_,rfl,_,_,rfl,rfl,_,rfl,(by rw[aj];omega),(by rw[aj];omega),?_⟩
   refine jF (fun j σ H'=>Ex4 fun(v6 v8:Option V) (O:Addr) (y:Int)=>An9 (σ=[some (.ref b),some (.int x),some (.int af),some (.int m),some (.ref ks),some (.ref q),v6,some (.ref O),v8,none,none]) (SameB b H H') (BoxAt H' b (n+200+2*(i+1))) (H' q=some (.lst (I.map V.ref))) ((∀a∈I,PlN x H' a)) (Row H' ks g) (H' O=some (.tup [.int (x+r1),.int y])) (0<=y) (y<=9+j))
    ⟨_,_,O,r2,rfl,ap,B7.mono (by omega),Q7,pa7,an,P7,c0,by omega⟩ ?_ ?_
   ·rintro j σ H8 hj ⟨v6,v8,O,y,rfl,S8,B8,Q8,J,M,P8,y0,y1⟩
    refine⟨_,rfl,_,rfl,O,q,_,_,rfl,rfl,ua P8,rfl,u9 Q8,fun v hv=>?_,fun z=>⟨_,rfl,qZ (fun d=>?_) (fun d=>?_)⟩⟩
    ·obtain⟨c,hc,rfl⟩:=jS.mp hv
     obtain⟨p,bc,_⟩:=J c hc;exact⟨c,_,rfl,ua bc,rfl⟩
    ·refine⟨_,rfl,O,_,_,_,rfl,rfl,ua P8,rfl,_,rfl,O,_,_,_,rfl,rfl,ua P8,rfl,_,_,rfl,rfl,le2,fun u hu=>?_⟩
     have hh:=zc (o:=.tup [.int (x+r1),.int (y+1)]) hu;exact⟨_,_,u,y+1,rfl,S8.new hu,B8.new hu,hh _ _ Q8,fun a ha=>(J a ha).imp fun o e=>hh _ _ e,M.same hh,zd,by omega,by omega⟩
    ·exact⟨_,rfl,_,_,O,y,rfl,S8,B8,Q8,J,M,P8,y0,by omega⟩
   rintro σ H8 ⟨v6,v8,O,y,rfl,S8,B8,Q8,J,M,P8,y0,y1⟩;refine⟨_,rfl,.inl ⟨rfl,_,u9 Q8⟩,_,rfl,q,_,_,rfl,rfl,Q8,by rw[zx];omega,?_⟩
   have e:I.map V.ref++[V.ref O]=(I++[O]).map V.ref:=by rw[zY];rfl
   rw[e];refine⟨_,_,_,I++[O],rfl,S8.put qN,(B8.other qb).mono (by omega),zd,by rw[qG,al];rfl,fun a ha=>?_,M.put bg⟩
   have bf:PlN x H8 a:=by
    rcases qC.mp ha with w1 | w1
    ·exact J a w1
    ·rw[qu.mp w1];exact⟨(x+r1,y),P8,by omega,by omega,y0,by omega⟩
   obtain⟨p,e1,e2⟩:=bf;exact⟨p,by rw[zm (fun z=>by rw[z,Q8] at e1;cases e1)];exact e1,e2⟩
  rintro σ H4 ⟨v6,v7,v8,I,rfl,S4,B4,Q4,al,pa,ae⟩;refine⟨_,rfl,_,rfl,_,rfl,q,_,rfl,u9 Q4,fun z hz=>?_⟩
  have Z5:upd H4 z (.lst (qk (I.map V.ref) none (some m))) z=some (.lst ((I.take m.toNat).map V.ref)):=by
   rw[zd];have:=zag (I.map V.ref) m.toNat (by rw[zx];omega)
   rw[show((m.toNat:Nat):Int)=m by omega] at this
   rw[this,ZX]
  have ab:=zc (o:=.lst (qk (I.map V.ref) none (some m))) hz;have zb:=B4.nne hz;have S5:=S4.trans (ue (b:=b) ab);have B5:=B4.same ab;have Q5:=ab _ _ Q4;have ai:=ae.same ab;have pa5:∀a∈I,PlN x (upd H4 z (.lst (qk (I.map V.ref) none (some m)))) a:=fun a ha=>(pa a ha).imp fun o e=>ab _ _ e
  generalize upd H4 z (.lst (qk (I.map V.ref) none (some m)))=H5 at Z5 S5 B5 Q5 ai pa5;clear ab S4 B4 Q4 ae pa hz;have lt:(I.take m.toNat).length=m.toNat:=by rw[jq,al];omega
  refine⟨z,rfl,⟨_,u9 Z5⟩,jM (K:=K) (a:=z) (xs:=(I.take m.toNat).map V.ref) (fun j Y H7=>Ex1 fun(U:List zaq)=>An5 (Reps K H7 (U.map xS) Y) (U.length=j) ((∀q∈U,q.k∈g/\vF x (q.x,q.y))) (SameB b H5 H7) (BoxAt H7 b (n+300+j))) ⟨[],rfl,rfl,(fun x h=>nomatch h),um _ _,B5.mono (by omega)⟩ (fun j Y H7 ⟨_,_,_,_,s7,_⟩=>u9 (s7 _ _ Z5 zb)) ?_ ?_⟩
  ·rintro j v Y H7 hx ⟨U,rq,ql,qa,S7,B7⟩
   rw[zX] at hx;obtain⟨a,ha,rfl⟩:=jb.mp hx;have hj:=(zZ.mp ha).1;have zl:Y.length=j:=by rw[rq.len,zx,ql]
   refine⟨rfl,⟨_,rfl,_,rfl,b,2,_,rfl,B7,by omega,by omega,by omega,fun c H8 c0 c1 B8 S8=>?_⟩⟩
   obtain⟨y,ey,my⟩:=zdp (ns:=g) c0 (by omega)
   obtain⟨p,be,b1⟩:=(pa5 a (Wb (qI ha))).draw B5 (S7.trans S8);refine⟨ks,_,_,_,rfl,rfl,u9 (ai.draw (S7.trans S8) nk).1,ey,_,rfl,le2,fun T hT=>⟨by omega,U++[⟨y,p.1,p.2⟩],?_,by rw[qG,ql];rfl,fun q hq=>?_,(S7.trans S8).new hT,(B8.new hT).mono (by omega)⟩⟩
   ·rw[zY]
    have rT:Rep K (upd H8 T (.tup [.str y,.ref a])) (xS ⟨y,p.1,p.2⟩) (.ref T):=⟨T,_,rfl,ua zd,_,_,rfl,rfl,_,_,rfl,⟨a,_,rfl,ua ((zc hT) _ _ be),_,_,rfl,rfl,_,_,rfl,rfl,rfl⟩,rfl⟩;exact uj rT (Reps.keep ((uh B7 S8).trans (.of (zc hT))) (jU U) rq)
   ·rcases qC.mp hq with w1 | w1
    ·exact qa q w1
    ·rw[qu.mp w1];exact⟨my,b1⟩
  rintro Y H7 ⟨U,rq,ql,qa,S7,B7⟩;rw[zx,lt] at ql;have B7:BoxAt H7 b (n+400):=B7.mono (by rw[zx,lt];omega)
  have zl:Y.length=m.toNat:=by rw[rq.len,zx,ql]
  refine⟨by omega,fun D hD=>⟨D,Y,rfl,.inl ⟨u9 zd,fun ps av=>?_⟩⟩⟩
  have sm:=(zc (o:=.lst Y) hD).trans (zc (o:=.tup Y) av);have S8:=S5.trans (S7.trans (ue (b:=b) sm));have Q8:=sm _ _ (S7 _ _ Q5 qb);have J:∀a∈I,PlN x (upd (upd H7 D (.lst Y)) ps (.tup Y)) a:=fun a ha=>((pa5 a ha).draw B5 S7).imp fun o e=>sm _ _ e
  have B8:=B7.same sm;have M:=(ai.draw S7 nk).same sm;have P8:Rep K (upd (upd H7 D (.lst Y)) ps (.tup Y)) (.tup (U.map xS)) (.ref ps):=⟨ps,_,rfl,ua zd,Reps.keep (.of sm) (jU U) rq⟩;generalize upd (upd H7 D (.lst Y)) ps (.tup Y)=H8 at sm S8 Q8 J B8 M P8;clear S5 S7 B5 B7 Q5 ai rq hD av pa5 Z5;obtain⟨k0,k1,rfl⟩:∃k0 k1,g=[k0,k1]:=by
   have:g.length=2:=by omega
   match g,this with
   | [a,c],_=>exact⟨a,c,rfl⟩
  obtain⟨a0,e0,i0⟩:=VF (as:=I) (i:=m) (by omega) (by omega)
  obtain⟨a1,e1,i1⟩:=VF (as:=I) (i:=m+1) (by omega) (by omega)
  obtain⟨a2,e2,i2⟩:=VF (as:=I) (i:=m+2) (by omega) (by omega)
  obtain⟨p0,h0,n0⟩:=J a0 i0;obtain⟨p1,h1,n1⟩:=J a1 i1;obtain⟨p2,h2,n2⟩:=J a2 i2;refine⟨_,rfl,ks,_,_,_,rfl,rfl,u9 M.1,rfl,_,rfl,_,rfl,q,_,_,_,rfl,rfl,u9 Q8,e0,le3,fun f0 aq=>?_⟩
  have u1:=zc (o:=.tup [.str k0,.ref a0,.int 9]) aq;refine⟨_,rfl,ks,_,_,_,rfl,rfl,u9 (M.same u1).1,rfl,_,rfl,_,rfl,_,_,rfl,rfl,q,_,_,_,rfl,rfl,u9 (u1 _ _ Q8),e1,le3,fun f1 ar=>⟨le2,fun ft au=>?_⟩⟩
  have g0:=zd (H:=H8) (a:=f0) (o:=.tup [.str k0,.ref a0,.int 9]);have u2:=zc (o:=.tup [.str k1,.ref a1,.int 9]) ar;have g1:=zd (H:=upd H8 f0 (.tup [.str k0,.ref a0,.int 9])) (a:=f1) (o:=.tup [.str k1,.ref a1,.int 9]);have u3:=zc (o:=.tup [.ref f0,.ref f1]) au;have u:=(u1.trans u2).trans u3;have F9:Rep K (upd (upd (upd H8 f0 (HO.tup [V.str k0,V.ref a0,V.int 9])) f1 (HO.tup [V.str k1,V.ref a1,V.int 9])) ft (HO.tup [V.ref f0,V.ref f1])) (.tup ([⟨k0,p0.1,p0.2,9⟩,⟨k1,p1.1,p1.2,9⟩].map we)) (.ref ft):=
   ⟨ft,_,rfl,ua zd,_,_,rfl,⟨f0,_,rfl,ua (u3 _ _ (u2 _ _ g0)),_,_,rfl,rfl,_,_,rfl,⟨a0,_,rfl,ua (u _ _ h0),_,_,rfl,rfl,_,_,rfl,rfl,rfl⟩,_,_,rfl,rfl,rfl⟩,
    _,_,rfl,⟨f1,_,rfl,ua (u3 _ _ g1),_,_,rfl,rfl,_,_,rfl,⟨a1,_,rfl,ua (u _ _ h1),_,_,rfl,rfl,_,_,rfl,rfl,rfl⟩,_,_,rfl,rfl,rfl⟩,rfl⟩
  have S9:=S8.trans (ue (b:=b) u);have B9:=B8.same u;have Q9:=u _ _ Q8;have P9:=Rep.keep (d:=.tup (U.map xS)) (.of u) (jU U) P8;have G9:=u _ _ h2;have kk:=M.2;generalize upd (upd (upd H8 f0 (HO.tup [V.str k0,V.ref a0,V.int 9])) f1 (HO.tup [V.str k1,V.ref a1,V.int 9])) ft (HO.tup [V.ref f0,V.ref f1])=H9 at F9 S9 B9 Q9 P9 G9;clear u u1 u2 u3 g0 g1 aq ar au h0 h1 h2 S8 B8 Q8 P8 J M;refine⟨_,rfl,_,rfl,_,_,rfl,rfl,q,_,_,_,rfl,rfl,u9 Q9,e2,_,rfl,b,4,_,rfl,B9,by omega,by decide,by decide,fun hd ag d0 d1 ax ao=>⟨_,_,rfl,rfl,_,rfl,_,rfl,le0,fun et am=>⟨leN (by show 5<=1000;decide),fun p hp=>?_⟩⟩⟩
  have t9:SameT H9 (upd ag et (.tup [])):=(uh B9 ao).trans (.of (zc am));have up:Same (upd ag et (.tup [])) (upd (upd ag et (.tup [])) p (.tup [.ref a2,.int (1+hd),.ref ft,.ref ps,.ref et])):=zc hp;have ta:=t9.trans (.of up);have az:=Rep.keep (d:=.tup ([⟨k0,p0.1,p0.2,9⟩,⟨k1,p1.1,p1.2,9⟩].map we)) ta (vU _) F9;have ba:=Rep.keep (d:=.tup (U.map xS)) ta (jU U) P9;have b0:=ta a2 _ G9 (fun xs h=>nomatch h)
  have ay:=up et _ (zd (H:=ag) (o:=.tup []));have bd:∀{p:Int×Int},vF x p->inP p.1 p.2:=fun h=>⟨by have:=h.1;omega,by have:=h.2.1;omega,by have:=h.2.2.1;omega,by have:=h.2.2.2;omega⟩
  refine k p ⟨p2.1,p2.2,1+hd,[⟨k0,p0.1,p0.2,9⟩,⟨k1,p1.1,p1.2,9⟩],U,[]⟩ _ ((S9.trans (ao.new am)).trans (ue up)) (((ax.new am).same up).mono (by omega)) ?_ ?_ ?_
  ·exact⟨p,_,rfl,ua zd,_,_,rfl,⟨a2,_,rfl,ua b0,_,_,rfl,rfl,_,_,rfl,rfl,rfl⟩,_,_,rfl,rfl,_,_,rfl,az,_,_,rfl,ba,_,_,rfl,⟨et,_,rfl,ua ay,rfl⟩,rfl⟩
  ·refine⟨bd n2,by show 1<=1+hd;omega,by show 1+hd<=4;omega,by show 2<=40;decide,fun f hf=>?_,by show U.length<=60;omega,fun q hq=>?_,.refl _,(fun p h=>nomatch h),by show 0<=300;decide,by show 1<=2;decide⟩
   ·rcases zW.mp hf with rfl | hf
    ·exact⟨kk _ (by simp),bd n0,by show(0:Int)<=9;decide,by show(9:Int)<=400;decide⟩
    ·rw[qu.mp hf];exact⟨kk _ (by simp),bd n1,by show(0:Int)<=9;decide,by show(9:Int)<=400;decide⟩
   ·obtain⟨hk,hi⟩:=qa q hq
    refine⟨kk q.k hk,bd hi,?_⟩
    rcases zW.mp hk with e | hk
    ·exact⟨_,xn ..,e.symm⟩
    ·exact⟨_,jv _ (xn ..),(qu.mp hk).symm⟩
  ·refine⟨n2,fun f hf=>?_,fun q hq=>(qa q hq).2,by show U.length<=3;omega⟩
   rcases zW.mp hf with rfl | hf
   ·exact n0
   ·rw[qu.mp hf];exact n1
inductive XA(K:W.Frag)(g:List V)(H:Hp)(Q:VK):Prop
 | mk (l r:Addr) (ls f:List Int) (_:g=[.ref l,.ref r]) (_:SqL K H l (ls.map V.int)) (_:SqL K H r (f.map V.int)) (_:∀p H',H' p=some (.tup [.int ((ls.length:Int)-1),.int ((f.length:Int)-1)])->Same H H'->Q (.ref p) H'):XA K g H Q
def yi(K:W.Frag):Sp:=fun f H Q _=>XA K f H Q
inductive Xx(K:W.Frag)(s:List V)(H:Hp)(Q:VK):Prop
 | mk (l r p:Addr) (ls f:List Int) (g i j x y:Int) (_:s=[.ref l,.ref r,.int g,.ref p]) (_:SqL K H l (ls.map V.int)) (_:SqL K H r (f.map V.int)) (_:SqT K H p [.int i,.int j]) (_:atI (ls.map V.int) i=some (.int x)) (_:atI (f.map V.int) j=some (.int y)) (_:Q (.bl (decide (x+g>y))) H):Xx K s H Q
def Zn(K:W.Frag):Sp:=fun f H Q _=>Xx K f H Q
theorem zaS:zI ["left","right"] ["left","right"] (zv (topL 9)):=u7
theorem zcs{f:Addr}{u:FuncData}(F:Fun K "ends_of" "ends_of" (topL 9) f u)(B:Blt L):FnOk P w K L C CX0 1 f u ["left","right"] (yi K):=by
 have O:=zaS.nd;refine F.ok zaS (fun J H Q E h=>?_) (fun D A j s H J Q E M h=>?_)
 ·obtain⟨l,r,ls,I,rfl,_⟩:=h
  rfl
 ·obtain⟨l,r,ls,I,rfl,G,g,k⟩:=h
  refine⟨_,(zk (zC (zN (za (zr jk (zo zA rfl B.len boot_len (za (pv 0) ze)) zf) (za (zr jk (zo zA rfl B.len boot_len (za (pv 1) ze)) zf) ze))))),?_⟩
  refine⟨_,rfl,l,_,rfl,.inl G,_,_,rfl,rfl,_,rfl,r,_,rfl,.inl g,_,_,rfl,rfl,le2,fun q h=>?_⟩
  refine k q _ ?_ (zc h)
  rw[zd,zx,zx]
theorem zaP:zI ["left","right","gap","at"] ["left","right","gap","at"] (zv (topL 8)):=u7
theorem zcp{f:Addr}{G:FuncData}(F:Fun K "is_too_near" "is_too_near" (topL 8) f G)(B:Blt L):FnOk P w K L C CX0 1 f G ["left","right","gap","at"] (Zn K):=by
 have nd:=zaP.nd;refine F.ok zaP (fun U H Q E h=>?_) (fun I A D s H U Q E Y h=>?_)
 ·obtain⟨l,r,p,ls,T,g,i,j,x,y,rfl,_⟩:=h
  rfl
 ·obtain⟨l,r,p,ls,T,g,i,j,x,y,rfl,O,u,hp,J,M,k⟩:=h
  refine⟨_,(zk (zC (qv wL (zr zD (zy zH (pv 0) (zy qh (pv 3) zf (fun _ _=>rfl)) (fun _ _=>rfl)) (pv 2)) (zy zH (pv 1) (zy qh (pv 3) zf (fun _ _=>rfl)) (fun _ _=>rfl)) (zE _)))),?_⟩
  refine⟨_,rfl,_,rfl,p,_,_,_,rfl,rfl,hp,rfl,l,_,_,_,rfl,rfl,O,J,_,rfl,_,_,rfl,rfl,_,rfl,_,rfl,p,_,_,_,rfl,rfl,hp,rfl,r,_,_,_,rfl,rfl,u,M,_,_,rfl,rfl,k⟩
def jD(ls f:List Int)(g:Int)(i j:Nat):Bool:=decide (ls.getD i 0+g>f.getD j 0)
def okN(ls f:List Int)(g:Int)(i j:Nat):Bool:=decide (i<ls.length)&&(decide (j<f.length)&&!jD ls f g i j)
def mvs:List (Str×Nat×Nat):=[("both",1,1),("left",1,0),("right",0,1)]
def toN(i j:Nat)(m:Str×Nat×Nat):Str×Nat×Nat:=(m.1,i+m.2.1,j+m.2.2)
def Ju(ls f:List Int)(g:Int)(i j k:Nat):List (Str×Nat×Nat):=((mvs.take k).map (toN i j)).filter fun m=>okN ls f g m.2.1 m.2.2
def zU(ls f:List Int)(g:Int)(i j:Nat):List (Str×Nat×Nat):=Ju ls f g i j 3
def mvD(m:Str×Nat×Nat):Dat:=.tup [.str m.1,.tup [.int (m.2.1:Int),.int (m.2.2:Int)]]
theorem XD{ls f:List Int}{g:Int}{i j k:Nat}{m:Str×Nat×Nat}(h:mvs[k]? =some m):Ju ls f g i j (k+1)=Ju ls f g i j k++(if okN ls f g (i+m.2.1) (j+m.2.2)=true then [toN i j m] else []):=by
 unfold Ju;rw[qe h,zY,yb];congr 1
 show List.filter _ [toN i j m]=_;rw[xI];rfl
def SameU(H H':Hp):Prop:=∀a f,H a=some (.tup f)->H' a=some (.tup f)
theorem SameU.refl(H:Hp):SameU H H:=fun _ _ e=>e
theorem SameU.trans{H f g:Hp}(a:SameU H f)(b:SameU f g):SameU H g:=fun c u e=>b c u (a c u e)
theorem SameU.of{H H':Hp}(s:Same H H'):SameU H H':=fun a u e=>s a _ e
def ug:=@SameU.of
theorem SameU.putL{H:Hp}{l:Addr}{f:List V}{o:HO}(h:H l=some (.lst f)):SameU H (upd H l o):=fun a u e=>by
 rw[zm (xW e h (fun z=>nomatch z))];exact e
theorem SameU.putD{H:Hp}{l:Addr}{f:List (List Key×V)}{o:HO}(h:H l=some (.dT f)):SameU H (upd H l o):=fun a u e=>by
 rw[zm (xW e h (fun z=>nomatch z))];exact e
theorem ve{α:Type}{R:α->V->Prop}:∀{f:List α} {g:List V},Paired R f g->∀{i:Nat} {x:V},g[i]? =some x->∃m,f[i]? =some m/\R m x
 | _,_,.nil,_,_,h=>by simp at h
 | _,_,.cons r t,0,x,h=>by
  rw[Wg] at h;cases h;exact⟨_,rfl,r⟩
 | _,_,.cons r t,i+1,x,h=>by
  rw[Xh] at h ⊢;exact ve t h
def MvAt(H:Hp)(m:Str×Nat×Nat)(x:V):Prop:=∃c t,x=.ref c/\H c=some (.tup [.str m.1,.ref t])/\H t=some (.tup [.int (m.2.1:Int),.int (m.2.2:Int)])
theorem MvAt.keep{H H':Hp}{m:Str×Nat×Nat}{x:V}(s:SameU H H')(h:MvAt H m x):MvAt H' m x:=by
 obtain⟨c,t,e,f,g⟩:=h;exact⟨c,t,e,s _ _ f,s _ _ g⟩
abbrev MvsAt(H:Hp):List (Str×Nat×Nat)->List V->Prop:=Paired (MvAt H)
theorem MvsAt.keep{H H':Hp}{f:List (Str×Nat×Nat)}{g:List V}(s:SameU H H')(h:MvsAt H f g):MvsAt H' f g:=uk h fun _ _ z=>z.keep s
theorem MvsAt.reps{K:W.Frag}{H:Hp}:∀{f:List (Str×Nat×Nat)} {g:List V},MvsAt H f g->Reps K H (f.map mvD) g
 | _,_,.nil=>rfl
 | _,_,.cons ⟨c,t,e,j,l⟩ r=>by
  subst e;exact⟨_,_,rfl,⟨c,_,rfl,ua j,_,_,rfl,rfl,_,_,rfl,⟨t,_,rfl,ua l,_,_,rfl,rfl,_,_,rfl,rfl,rfl⟩,rfl⟩,MvsAt.reps r⟩
structure Mvs(K:W.Frag)(mv:Addr):Prop where
 all:∃xs:List V,(∀H,SqT K H mv xs)/\xs.length=3/\∀(k:Nat) (x:V),xs[k]? =some x->∃(m:Str×Nat×Nat) (c:Addr),mvs[k]? =some m/\x=.ref c/\∀H,SqT K H c [.str m.1,.int (m.2.1:Int),.int (m.2.2:Int)]
theorem jB{ls:List Int}{i:Nat}(h:i<ls.length):atI (ls.map V.int) (i:Int)=some (.int (ls.getD i 0)):=by
 refine qP ?_
 rw[zX];simp[h]
inductive QH(K:W.Frag)(u:List V)(H:Hp)(Q:VK):Prop
 | mk (l r p:Addr) (ls f:List Int) (g:Int) (i j:Nat) (_:u=[.ref l,.ref r,.int g,.ref p]) (_:SqL K H l (ls.map V.int)) (_:SqL K H r (f.map V.int)) (_:SqT K H p [.int (i:Int),.int (j:Int)]) (_:∀(q:Addr) (s:List V) H',H q=none->Same H H'->H' q=some (.lst s)->MvsAt H' (zU ls f g i j) s->Q (.ref q) H'):QH K u H Q
def Zd(K:W.Frag):Sp:=fun f H Q _=>QH K f H Q
theorem WR:zI ["left","right","gap","at","last","end","found","word","one","other","goal"] ["left","right","gap","at"] (zv (topL 10)):=u7
def Yw(l:_)(r:_)(g:_)(p:_)(ls:_)(s:_)(q:_)(H:_)(i:_)(j:_):=fun(A:Nat) (σ:St) (H':Hp)=>(Ex5 fun B D E f u=>An4 (σ=[some (.ref l),some (.ref r),some (.int g),some (.ref p),some (.int ((ls.length:Int)-1)),some (.int ((s.length:Int)-1)),some (.ref q),B,D,E,f]) (Same H H') (H' q=some (.lst u)) (MvsAt H' (Ju ls s g i j A) u):Prop)
theorem zbb{f mv:Addr}{fd:FuncData}(F:Fun K "moves_at" "moves_at" (topL 10) f fd)(B:Blt L)(J:L "MOVES" = some (.ref mv))(M:Mvs K mv)(I:Dfn P w K L C "ends_of" 1 ["left","right"] (yi K))(D:Dfn P w K L C "is_too_near" 1 ["left","right","gap","at"] (Zn K)):FnOk P w K L C CX0 2 f fd ["left","right","gap","at"] (Zd K):=by
 have T:=WR.nd;refine F.ok WR (fun vs H Q E h=>?_) (fun ak A ah s H vs Q E hr h=>?_)
 ·obtain⟨l,r,p,ls,G,g,i,j,rfl,_⟩:=h
  rfl
 ·obtain⟨l,r,p,ls,G,g,i,j,rfl,hl,aa,hp,k⟩:=h
  have aj:=bG100000;obtain⟨xs,ab,xl,xa⟩:=M.all;refine⟨_,(zg (jK (zn I hr.m rfl (za (pv 0) (za (pv 1) ze))) (qR rfl (zu (zp (i:=4) T rfl (Or.inl rfl)) (zu (zp (i:=5) T rfl (Or.inl rfl)) qq))))
   (zg (zF (i:=6) T rfl (Or.inl rfl) (zT ze))
   (zg (qJ jc rfl (ym (zcc (v:=.ref mv) rfl J rfl)) (qR rfl (zu (zp (i:=7) T rfl (Or.inl rfl)) (zu (zp (i:=8) T rfl (Or.inl rfl)) (zu (zp (i:=9) T rfl (Or.inl rfl)) qq))))
   (zg (zF (i:=10) T rfl (Or.inl rfl) (zN (za (zr zD (zy qh (pv 3) zf (fun _ _=>rfl)) (pv 8)) (za (zr zD (zy qh (pv 3) zf (fun _ _=>rfl)) (pv 9)) ze))))
    (zk (qH (uf (vc (zG yK (zy qh (pv 10) zf (fun _ _=>rfl)) (pv 4) (zE _)) (vc (zG yK (zy qh (pv 10) zf (fun _ _=>rfl)) (pv 5) (zE _)) (xH (xL (jJ (zn D hr.m rfl (za (pv 0) (za (pv 1) (za (pv 2) (za (pv 10) ze)))))))))))
    (zk (qM (j7 xf xK xJ qA (pv 6) (za (zN (za (pv 7) (za (pv 10) ze))) ze))))
    zQ))))
   (zk (zC (pv 6)))))),?_⟩
  refine⟨_,rfl,_,rfl,l,r,ls,G,rfl,hl,aa,fun pe H1 ag S1=>⟨pe,_,rfl,ua ag,rfl,_,_,rfl,_,_,rfl,rfl,?_⟩⟩
  refine⟨le0,fun q hq=>?_⟩
  have a0:H q=none:=by
   cases e:H q with
   | none=>rfl
   | some o=>rw[S1 _ _ e] at hq;cases hq
  refine⟨mv,rfl,⟨_,ab _⟩,zcF (K:=K) (a:=mv) (xs:=xs) (Yw l r g p ls G q H i j)
   ⟨_,_,_,_,[],rfl,S1.trans (zc hq),zd,.nil⟩ (fun _ _ H' _ _=>ab H') ?_ ?_⟩
  ·rintro k' x σ H2 hx ⟨v7,v8,v9,U,O,rfl,S2,L2,R2⟩
   obtain⟨m,c,em,rfl,hc⟩:=xa k' x hx;have al:k'<3:=by have:=(zZ.mp hx).1;omega
   refine⟨c,_,rfl,hc _,rfl,_,_,rfl,_,_,rfl,_,_,rfl,rfl,?_⟩
   refine⟨_,rfl,p,_,_,_,rfl,rfl,S2.sqT hp,rfl,_,rfl,_,_,rfl,rfl,_,rfl,p,_,_,_,rfl,rfl,S2.sqT hp,rfl,_,rfl,_,_,rfl,rfl,le2,fun t ht=>?_⟩
   have S3:=S2.trans (zc (o:=.tup [.int ((i:Int)+(m.2.1:Int)),.int ((j:Int)+(m.2.2:Int))]) ht);have L3:=(zc (o:=.tup [.int ((i:Int)+(m.2.1:Int)),.int ((j:Int)+(m.2.2:Int))]) ht) _ _ L2;have R3:=R2.keep (ug<|zc (o:=.tup [.int ((i:Int)+(m.2.1:Int)),.int ((j:Int)+(m.2.2:Int))]) ht)
   have T3:upd H2 t (.tup [.int ((i:Int)+(m.2.1:Int)),.int ((j:Int)+(m.2.2:Int))]) t=some (.tup [.int ((i:Int)+(m.2.1:Int)),.int ((j:Int)+(m.2.2:Int))]):=zd;generalize upd H2 t (.tup [.int ((i:Int)+(m.2.1:Int)),.int ((j:Int)+(m.2.2:Int))])=Y at S3 L3 R3 T3;have skip:∀{v7 v8 v9 U:Option V},okN ls G g (i+m.2.1) (j+m.2.2)=false->Ex5 fun w7 w8 w9 ai O=>An4 ([some (V.ref l),some (.ref r),some (.int g),some (.ref p),some (.int ((ls.length:Int)-1)),some (.int ((G.length:Int)-1)),some (.ref q),v7,v8,v9,U]=[some (.ref l),some (.ref r),some (.int g),some (.ref p),some (.int ((ls.length:Int)-1)),some (.int ((G.length:Int)-1)),some (.ref q),w7,w8,w9,ai]) (Same H Y) (Y q=some (.lst O)) (MvsAt Y (Ju ls G g i j (k'+1)) O):=fun e=>by
    refine⟨_,_,_,_,O,rfl,S3,L3,?_⟩
    rw[XD em,zq (by rw[e];exact qx),xj]
    exact R3
   refine⟨_,rfl,t,_,_,_,rfl,rfl,ua T3,rfl,_,rfl,_,_,rfl,rfl,_,rfl,qZ (fun c1=>?_) (fun c1=>ifF rfl (skip ?_))⟩
   ·have ac:(i:Int)+(m.2.1:Int)<=(ls.length:Int)-1:=jH c1
    refine⟨_,rfl,t,_,_,_,rfl,rfl,ua T3,rfl,_,rfl,_,_,rfl,rfl,_,rfl,qZ (fun c2=>?_) (fun c2=>ifF rfl (skip ?_))⟩
    ·have ae:(j:Int)+(m.2.2:Int)<=(G.length:Int)-1:=jH c2
     have li:i+m.2.1<ls.length:=by omega
     have lj:j+m.2.2<G.length:=by omega
     refine⟨_,rfl,_,rfl,_,rfl,_,rfl,l,r,t,ls,G,g,_,_,_,_,rfl,S3.seq hl,S3.seq aa,ua T3,jB (i:=i+m.2.1) li,jB (i:=j+m.2.2) lj,_,rfl,?_⟩
     have eo:okN ls G g (i+m.2.1) (j+m.2.2)=!jD ls G g (i+m.2.1) (j+m.2.2):=by
      unfold okN;rw[zS li,zS lj];rfl
     refine qZ (fun c3=>?_) (fun c3=>skip ?_)
     ·have af:okN ls G g (i+m.2.1) (j+m.2.2)=true:=by rw[eo];exact c3
      have ul:=(vn R3).symm;have sl:(Ju ls G g i j k').length<=3:=by
       unfold Ju;refine jm (x6 _ _) ?_
       rw[zx,jq];omega
      refine⟨_,rfl,.inl ⟨rfl,_,u9 L3⟩,_,rfl,_,rfl,le2,fun u hu=>⟨q,O,_,rfl,rfl,(zc hu) _ _ L3,by omega,?_⟩⟩
      have L4:=(zc (o:=.tup [.str m.1,.ref t]) hu) _ _ L3;have S4:=S3.trans (zc (o:=.tup [.str m.1,.ref t]) hu);have R4:=R3.keep (ug<|zc (o:=.tup [.str m.1,.ref t]) hu)
      have U4:upd Y u (.tup [.str m.1,.ref t]) u=some (.tup [.str m.1,.ref t]):=zd;have T4:=(zc (o:=.tup [.str m.1,.ref t]) hu) _ _ T3;generalize upd Y u (.tup [.str m.1,.ref t])=H4 at L4 S4 R4 U4 T4;refine⟨_,_,_,_,O++[.ref u],rfl,fun c0 u0 e0=>?_,zd,?_⟩
      ·rw[zm (zi e0 a0)]
       exact S4 c0 u0 e0
      ·rw[XD em,zw af]
       have ku:=SameU.putL (o:=.lst (O++[.ref u])) L4;exact JY (R4.keep ku) ⟨u,t,rfl,ku _ _ U4,ku _ _ T4⟩
     ·rw[eo];exact(yD _).mp c3
    ·have ae:¬(j:Int)+(m.2.2:Int)<=(G.length:Int)-1:=fun z=>c2 (zS z)
     unfold okN;rw[jG (by omega:¬j+m.2.2<G.length),yA,vp]
   ·have ac:¬(i:Int)+(m.2.1:Int)<=(ls.length:Int)-1:=fun z=>c1 (zS z)
    unfold okN;rw[jG (by omega:¬i+m.2.1<ls.length),yA]
  ·rintro σ H2 ⟨v7,v8,v9,U,O,rfl,S2,L2,R2⟩
   rw[xl] at R2;exact⟨_,rfl,k q O H2 a0 S2 L2 R2⟩
def eqS(t:Str)(d:Dat):Bool:=match d with | .str z=>t==z | _=>false
def jE(d:Dat)(f:List (Str×Nat×Nat)):Option (Nat×Nat):=(f.find? fun m=>eqS m.1 d).map (·.2)
def qT(ls f:List Int)(g:Int):Nat×Nat->List Dat->Option (Nat×Nat)
 | p,[]=>some p
 | p,d::j=>(jE d (zU ls f g p.1 p.2)).bind fun l=>qT ls f g l j
theorem wE(ls f:List Int)(g:Int):∀(j l:List Dat) (p:Nat×Nat),qT ls f g p (j++l)=(qT ls f g p j).bind fun s=>qT ls f g s l
 | [],_,_=>rfl
 | d::j,l,p=>by
  show(jE d (zU ls f g p.1 p.2)).bind _=((jE d (zU ls f g p.1 p.2)).bind _).bind _;cases jE d (zU ls f g p.1 p.2) with
  | none=>rfl
  | some s=>exact wE ls f g j l s
theorem Qk{ls f:List Int}{g:Int}{j:List Dat}{k:Nat}{d:Dat}{p q:Nat×Nat}(h:j[k]? =some d)(e:qT ls f g p (j.take k)=some q):qT ls f g p (j.take (k+1))=jE d (zU ls f g q.1 q.2):=by
 rw[qe h,wE,e];show(jE d (zU ls f g q.1 q.2)).bind (fun l=>some l)=_
 cases jE d (zU ls f g q.1 q.2)<;>rfl
theorem Ql{ls j:List Int}{g:Int}{f:List Dat}{k:Nat}{p:Nat×Nat}(e:qT ls j g p (f.take k)=none):qT ls j g p f=none:=by
 rw[<- Wc k f,wE,e];rfl
def wz(ls f:List Int):Nat×Nat:=(ls.length-1,f.length-1)
def Zq(ls f:List Int)(g:Int)(d:Dat):Bool:=match d with
 | .lst j=>!jD ls f g 0 0&&decide (qT ls f g (0,0) j=some (wz ls f))
 | _=>false
theorem zcw{H:Hp}{m:Str×Nat×Nat}{x:V}(h:Rep K H (mvD m) x):∃c t,x=.ref c/\SqT K H c [.str m.1,.ref t]/\SqT K H t [.int (m.2.1:Int),.int (m.2.2:Int)]:=by
 obtain⟨c,zs,rfl,hc,M,T,f,D,y1,I,g,E,j⟩:=h;cases(show M=_ from D)
 obtain⟨t,Y,rfl,G,O,U,l,A,Q,J,s,B,u⟩:=E;cases(show O=_ from A)
 cases(show Q=_ from B)
 cases(show I=_ from j)
 cases(show J=_ from u)
 subst s l g f;exact⟨c,t,rfl,hc,G⟩
inductive Xy(K:W.Frag)(j:List V)(H:Hp)(Q:VK):Prop
 | mk (v:V) (q:Addr) (d:Dat) (g:List V) (f:List (Str×Nat×Nat)) (_:j=[v,.ref q]) (_:Rep K H d v) (_:SqL K H q g) (_:Reps K H (f.map mvD) g) (_:(jE d f=none->Q .non H)) (_:∀t (p:Nat×Nat),jE d f=some p->SqT K H t [.int (p.1:Int),.int (p.2:Int)]->Q (.ref t) H):Xy K j H Q
def zaG(K:W.Frag):Sp:=fun f H Q _=>Xy K f H Q
theorem zaQ:zI ["move","pairs","word","goal"] ["move","pairs"] (zv (topL 13)):=u7
theorem zcq{f:Addr}{M:FuncData}(F:Fun K "goal_of" "goal_of" (topL 13) f M)(B:Blt L):FnOk P w K L C CX0 1 f M ["move","pairs"] (zaG K):=by
 have O:=zaQ.nd;refine F.ok zaQ (fun vs H Q E h=>?_) (fun a0 A u s H vs Q E hr h=>?_)
 ·obtain⟨v,q,d,Y,j,rfl,_⟩:=h
  rfl
 ·obtain⟨v,q,d,Y,j,rfl,rd,hq,T,k0,k1⟩:=h
  have hu:=hr.units0;have U:=T.len;rw[zx] at U;refine⟨_,(zg (qJ jc rfl (qz (pv 1)) (qR rfl (zu (zp (i:=2) O rfl (Or.inl rfl)) (zu (zp (i:=3) O rfl (Or.inl rfl)) qq)))
   (zk (qH (zG (zch hu) (pv 2) (pv 0) (zE _))
    (zk (zC (pv 3)))
    zQ)))
   (zk (zC xx))),?_⟩
  refine⟨_,rfl,q,rfl,⟨_,hq⟩,xA (K:=K) (a:=q) (xs:=Y) (fun i σ H'=>∃D G,σ=[some v,some (.ref q),D,G]/\H'=H/\(j.take i).find? (fun m=>eqS m.1 d)=none) ⟨_,_,rfl,rfl,rfl⟩ (fun i σ H' _ ⟨_,_,_,e,_⟩=>by rw[e];exact hq) ?_ ?_⟩
  ·rintro i x σ H' hx ⟨D,G,rfl,rfl,g⟩
   obtain⟨d',I,r1⟩:=T.get hx;rw[zX] at I;obtain⟨m,J,rfl⟩:=jb.mp I;obtain⟨c,t,rfl,hc,ht⟩:=zcw r1;refine⟨c,_,rfl,hc,rfl,_,_,rfl,_,_,rfl,rfl,?_⟩
   refine⟨_,rfl,_,rfl,m.1,d,rfl,rd,_,rfl,qZ (fun e=>⟨_,rfl,k1 t m.2 ?_ ht⟩) (fun e=>⟨_,_,rfl,rfl,?_⟩)⟩
   ·unfold jE
    have:j=j.take i++(m::j.drop (i+1)):=by
     obtain⟨h1,h2⟩:=zZ.mp J;rw[<- h2,<- Wh h1,Wc]
    have l:eqS m.1 d=true:=by cases d<;>exact e
    rw[this,List.find?_append,g,wY]
    simp only[l,Option.none_or,yR]
   ·have l:eqS m.1 d=false:=by cases d<;>exact(yD _).mp e
    rw[qe J,List.find?_append,g,wY]
    simp only[l,Option.none_or,List.find?_nil]
  ·rintro σ H' ⟨D,G,rfl,rfl,g⟩
   rw[U,jO] at g;exact k0 (by unfold jE;rw[g];rfl)
inductive QC(K:W.Frag)(j:List V)(H:Hp)(Q:VK):Prop
 | mk (l r:Addr) (ls f:List Int) (g:Int) (v:V) (d:Dat) (_:j=[.ref l,.ref r,.int g,v]) (_:SqL K H l (ls.map V.int)) (_:SqL K H r (f.map V.int)) (_:ls≠[]) (_:f≠[]) (_:Rep K H d v) (_:∀H',Same H H'->Q (.bl (Zq ls f g d)) H'):QC K j H Q
def Wv(K:W.Frag):Sp:=fun f H Q _=>QC K f H Q
theorem WM:zI ["left","right","gap","thing","at","move"] ["left","right","gap","thing"] (zv (topL 14)):=u7
theorem za6{f:Addr}{fd:FuncData}(F:Fun K "shows_together" "shows_together" (topL 14) f fd)(B:Blt L)(G:Dfn P w K L C "ends_of" 1 ["left","right"] (yi K))(u:Dfn P w K L C "is_too_near" 1 ["left","right","gap","at"] (Zn K))(I:Dfn P w K L C "goal_of" 1 ["move","pairs"] (zaG K))(D:Dfn P w K L C "moves_at" 2 ["left","right","gap","at"] (Zd K)):FnOk P w K L C CX0 3 f fd ["left","right","gap","thing"] (Wv K):=by
 have nd:=WM.nd;refine F.ok WM (fun vs H Q E h=>?_) (fun ag A af s H vs Q E Y h=>?_)
 ·obtain⟨l,r,ls,j,g,v,d,rfl,_⟩:=h
  rfl
 ·obtain⟨l,r,ls,j,g,v,d,rfl,hl,O,nl,nr,M,k⟩:=h
  have hu:=Y.units0;have ll:0<ls.length:=je.mpr nl;have lr:0<j.length:=je.mpr nr;refine⟨_,(zg (qH (uf (vZ (xL (jJ (zo xY rfl B.isinstance boot_isinstance (za (pv 3) (za (vQ (v:=.ty "list") rfl B.list xt rfl) ze))))) (vb (jJ (zn u Y.m rfl (za (pv 0) (za (pv 1) (za (pv 2) (za (zN (za zf (za zf ze))) ze)))))))))
   (zk (zC jP))
   zQ)
   (zg (zF (i:=4) nd rfl (Or.inl rfl) (zN (za zf (za zf ze))))
   (zg (qJ jc rfl (qz (pv 3)) (zp (i:=5) nd rfl (Or.inl rfl))
   (zg (zF (i:=4) nd rfl (Or.inl rfl) (zn I Y.m rfl (za (pv 5) (za (zn D Y.m rfl (za (pv 0) (za (pv 1) (za (pv 2) (za (pv 4) ze))))) ze))))
    (zk (qH (zG JC (pv 4) xx (zE _))
    (zk (zC jP))
    zQ))))
   (zk (zC (qv (za3 hu) (pv 4) (zn G Y.m rfl (za (pv 0) (za (pv 1) ze))) (zE _))))))),?_⟩
  cases d with
  | non=>
   cases(show v=_ from M)
   exact⟨_,rfl,_, "NoneType", "list",rfl,rfl,(by decide),_,rfl,ifT (by decide) (ifT rfl (k _ (uc _)))⟩
  | bl c=>
   cases(show v=_ from M)
   exact⟨_,rfl,_, "bool", "list",rfl,rfl,(by decide),_,rfl,ifT (by decide) (ifT rfl (k _ (uc _)))⟩
  | int i=>
   cases(show v=_ from M)
   exact⟨_,rfl,_, "int", "list",rfl,rfl,(by decide),_,rfl,ifT (by decide) (ifT rfl (k _ (uc _)))⟩
  | str x=>
   cases(show v=_ from M)
   exact⟨_,rfl,_, "str", "list",rfl,rfl,(by decide),_,rfl,ifT (by decide) (ifT rfl (k _ (uc _)))⟩
  | tup U=>
   obtain⟨a,xs,rfl,hq,_⟩:=M;exact⟨_,rfl,_, "tuple", "list",rfl,.inr ⟨rfl,xs,hq⟩,(by decide),_,rfl,ifT (by decide) (ifT rfl (k _ (uc _)))⟩
  | lst U=>
   obtain⟨a,xs,rfl,hq,rx⟩:=M;have ae:=rx.len;refine⟨_,rfl,_, "list", "list",rfl,.inl ⟨rfl,xs,hq⟩,(by decide),_,rfl,ifF (by decide) ?_⟩
   refine⟨_,rfl,_,rfl,_,rfl,le2,fun p hp=>?_⟩
   have s1:=zc (o:=.tup [.int 0,.int 0]) hp;refine⟨l,r,p,ls,j,g,0,0,_,_,rfl,s1.seq hl,s1.seq O,ua zd,jB (i:=0) ll,jB (i:=0) lr,_,rfl,qZ (fun c=>?_) (fun c=>?_)⟩
   ·have e:Zq ls j g (.lst U)=false:=by
     show(!jD ls j g 0 0&&_)=false;rw[show jD ls j g 0 0=true from c];rfl
    have:=k _ s1;rw[e] at this;exact this
   have nn:jD ls j g 0 0=false:=(yD _).mp c;refine⟨le2,fun t0 ac=>?_⟩
   have s2:=s1.trans (zc (o:=.tup [.int 0,.int 0]) ac);refine⟨_,rfl,a,rfl,⟨_,s2.seq hq⟩,xA (K:=K) (a:=a) (xs:=xs) (fun i σ H'=>Ex3 fun(t:Addr) (q:Nat×Nat) (v5:Option V)=>An4 (σ=[some (.ref l),some (.ref r),some (.int g),some (.ref a),some (.ref t),v5]) (Same H H') (SqT K H' t [.int (q.1:Int),.int (q.2:Int)]) (qT ls j g (0,0) (U.take i)=some q))
    ⟨t0,(0,0),_,rfl,s2,ua zd,rfl⟩ (fun i σ H' _ ⟨_,_,_,_,J,_,_⟩=>J.seq hq) ?_ ?_⟩
   ·rintro i x σ H1 hx ⟨t,q,v5,rfl,J,ht,wk⟩
    obtain⟨d,ed,M⟩:=rx.get hx;refine⟨_,rfl,_,rfl,_,rfl,_,rfl,_,rfl,l,r,t,ls,j,g,q.1,q.2,rfl,J.seq hl,J.seq O,ht,fun m us H2 _ S2 L2 a0=>?_⟩
    have R2:=a0.reps (K:=K);have T:=J.trans S2;have ws:=Qk ed wk;refine⟨x,m,d,us,zU ls j g q.1 q.2,rfl,M.same T,u9 L2,R2,fun e=>?_,fun t' p' e ab=>?_⟩
    ·refine⟨_,rfl,rfl,_,rfl,ifT (by decide) ?_⟩
     have e':Zq ls j g (.lst U)=false:=by
      show(!jD ls j g 0 0&&_)=false;rw[Ql (k:=i+1) (by rw[ws];exact e)]
      simp
     have:=k _ T;rw[e'] at this;exact this
    ·refine⟨_,rfl,rfl,_,rfl,ifF (by simp) ⟨t',p',_,rfl,T,ab,by rw[ws];exact e⟩⟩
   ·rintro σ H1 ⟨t,q,v5,rfl,J,ht,wk⟩
    rw[ae,jO] at wk;refine⟨_,rfl,_,rfl,_,rfl,l,r,ls,j,rfl,J.seq hl,J.seq O,fun pe H2 aa S2=>⟨t,pe,_,_,rfl,rfl,S2.sqT ht,ua aa,rfl,rfl,?_⟩⟩
    have:=k H2 (J.trans S2);have e:Zq ls j g (.lst U)=Zb [V.int (q.1:Int),V.int (q.2:Int)] [V.int ((ls.length:Int)-1),V.int ((j.length:Int)-1)]:=by
     show(!jD ls j g 0 0&&decide (qT ls j g (0,0) U=some (wz ls j)))=_;rw[nn,wk];show decide (some q=some (ls.length-1,j.length-1))=(decide ((q.1:Int)=(ls.length:Int)-1)&&(decide ((q.2:Int)=(j.length:Int)-1)&&true));rw[yy,<- Bool.decide_and];refine yT.mpr ⟨fun h=>?_,fun ⟨h1,h2⟩=>?_⟩
     ·cases h
      exact⟨by show((ls.length-1:Nat):Int)=_;omega,by show((j.length-1:Nat):Int)=_;omega⟩
     ·obtain⟨q1,q2⟩:=q
      simp only at h1 h2;rw[show q1=ls.length-1 by omega,show q2=j.length-1 by omega]
    rw[e] at this;exact this
end
theorem z7(t z:Str):eqS t (.str z)=(t==z):=rfl
theorem jN{f l:List Int}{g:Int}{i j:Nat}(d:Dat):jE d (zU f l g i j) =
  if(okN f l g (i+1) (j+1)&&eqS "both" d)=true then some (i+1,j+1) else if(okN f l g (i+1) (j+0)&&eqS "left" d)=true then some (i+1,j+0) else if(okN f l g (i+0) (j+1)&&eqS "right" d)=true then some (i+0,j+1) else none:=by
 show((([("both",i+1,j+1),("left",i+1,j+0),("right",i+0,j+1)]:List (Str×Nat×Nat)).filter fun m=>okN f l g m.2.1 m.2.2).find? fun m=>eqS m.1 d).map (·.2)=_
 simp only[xI,VZ];cases okN f l g (i+1) (j+1)<;>cases okN f l g (i+1) (j+0)<;>cases okN f l g (i+0) (j+1)<;>cases hb:eqS "both" d<;>cases s:eqS "left" d<;>cases u:eqS "right" d<;>simp[wY,hb,s,u]
def om:Option Nat->Option Nat->Option Nat
 | none,b=>b
 | some a,none=>some a
 | some a,some b=>some (min a b)
theorem W6{a b:Option Nat}{m:Nat}(h:om a b=some m):a=some m\/b=some m:=by
 cases a with
 | none=>exact .inr h
 | some x=>
  cases b with
  | none=>exact .inl h
  | some y=>
   have f:min x y=m:=qW h;rcases Nat.le_total x y with q | q
   ·exact .inl (by rw[<- f,yB q])
   ·exact .inr (by rw[<- f,Nat.min_eq_right q])
theorem zeM{a b:Option Nat}{x:Nat}(h:a=some x):∃m,m<=x/\om a b=some m:=by
 subst h;cases b with
 | none=>exact⟨x,zJ _,rfl⟩
 | some y=>exact⟨_,Nat.min_le_left _ _,rfl⟩
theorem zdO{a b:Option Nat}{x:Nat}(h:b=some x):∃m,m<=x/\om a b=some m:=by
 subst h;cases a with
 | none=>exact⟨x,zJ _,rfl⟩
 | some y=>exact⟨_,V5 _ _,rfl⟩
def zM(f l:List Int)(g:Int)(i j:Nat):Option Nat:=
 if okN f l g i j=true then
  if i=0/\j=0 then some 0 else
  (om (if h:0<i/\0<j then zM f l g (i-1) (j-1) else none) (om (if h:0<i then zM f l g (i-1) j else none) (if h:0<j then zM f l g i (j-1) else none))).map (·+1)
 else none
 termination_by i+j
 decreasing_by all_goals omega
section
variable{f l:List Int}{g:Int}
theorem VT{i j:Nat}(h:okN f l g i j=false):zM f l g i j=none:=by
 rw[zM,zq (by rw[h];exact qx)]
theorem vJ{i j n:Nat}(h:zM f l g i j=some n):okN f l g i j=true:=by
 cases e:okN f l g i j with
 | true=>rfl
 | false=>rw[VT e] at h;cases h
theorem wA(h:okN f l g 0 0=true):zM f l g 0 0=some 0:=by
 rw[zM,zw h,zw ⟨rfl,rfl⟩]
theorem yt{i j:Nat}(h:okN f l g i j=true)(s:¬(i=0/\j=0)):zM f l g i j =
  (om (if 0<i/\0<j then zM f l g (i-1) (j-1) else none) (om (if 0<i then zM f l g (i-1) j else none) (if 0<j then zM f l g i (j-1) else none))).map (·+1):=by
 rw[zM,zw h,zq s];simp only[dite_eq_ite]
theorem ZN{i j:Nat}(h:zM f l g i j=some 0):i=0/\j=0:=by
 by_cases s:i=0/\j=0
 ·exact s
 ·rw[yt (vJ h) s] at h
  obtain⟨x,_,e⟩:=jb.mp h;omega
theorem jV{c d a b:Nat}{t:Str}:(t,a,b)∈zU f l g c d↔okN f l g a b=true/\((t = "both" /\ a=c+1/\b=d+1)\/(t = "left" /\ a=c+1/\b=d)\/(t = "right" /\ a=c/\b=d+1)):=by
 show(t,a,b)∈(([("both",c+1,d+1),("left",c+1,d+0),("right",c+0,d+1)]:List (Str×Nat×Nat)).filter fun m=>okN f l g m.2.1 m.2.2)↔_
 rw[xk];simp only[zW,wj,or_false,J7,Nat.add_zero];exact And.comm
theorem ZO{c d a b m:Nat}{t:Str}(h:(t,a,b)∈zU f l g c d)(e:zM f l g c d=some m):∃j,j<=m+1/\zM f l g a b=some j:=by
 obtain⟨ok,h⟩:=jV.mp h;have A:¬(a=0/\b=0):=by omega
 rw[yt ok A];have w:∀o:Option Nat,(∃x,x<=m/\o=some x)->∃j,j<=m+1/\o.map (·+1)=some j:=by
  rintro o ⟨x,hx,rfl⟩;exact⟨x+1,by omega,rfl⟩
 apply w
 rcases h with ⟨_,rfl,rfl⟩ | ⟨_,rfl,rfl⟩ | ⟨_,rfl,rfl⟩
 ·exact zeM (by rw[zw ⟨yw _,yw _⟩];exact e)
 ·obtain⟨x,hx,s⟩:=zeM (b:=if 0<b then zM f l g (c+1) (b-1) else none) (a:=if 0<c+1 then zM f l g (c+1-1) b else none) (x:=m) (by rw[zw (yw _)];exact e)
  obtain⟨y,hy,u⟩:=zdO (a:=if 0<c+1/\0<b then zM f l g (c+1-1) (b-1) else none) s
  exact⟨y,by omega,u⟩
 ·obtain⟨x,hx,s⟩:=zdO (a:=if 0<a then zM f l g (a-1) (d+1) else none) (b:=if 0<d+1 then zM f l g a (d+1-1) else none) (x:=m) (by rw[zw (yw _)];exact e)
  obtain⟨y,hy,u⟩:=zdO (a:=if 0<a/\0<d+1 then zM f l g (a-1) (d+1-1) else none) s
  exact⟨y,by omega,u⟩
theorem ZP{a b m:Nat}(h:zM f l g a b=some (m+1)):∃c d t,zM f l g c d=some m/\(t,a,b)∈zU f l g c d:=by
 have ok:=vJ h;by_cases j:a=0/\b=0
 ·obtain⟨rfl,rfl⟩:=j
  rw[wA ok] at h;cases h
 rw[yt ok j] at h;obtain⟨x,hx,s⟩:=jb.mp h;obtain rfl:x=m:=by omega
 rcases W6 hx with q | q
 ·split at q
  ·rename_i c
   exact⟨_,_, "both",q,jV.mpr ⟨ok,.inl ⟨rfl,by omega,by omega⟩⟩⟩
  ·cases q
 ·rcases W6 q with q | q
  ·split at q
   ·exact⟨_,_, "left",q,jV.mpr ⟨ok,.inr (.inl ⟨rfl,by omega,by omega⟩)⟩⟩
   ·cases q
  ·split at q
   ·exact⟨_,_, "right",q,jV.mpr ⟨ok,.inr (.inr ⟨rfl,by omega,by omega⟩)⟩⟩
   ·cases q
theorem JO:∀{n a b:Nat},zM f l g a b=some n->n<=a+b
 | 0,a,b,_=>qQ _
 | n+1,a,b,h=>by
  obtain⟨c,d,t,e,hm⟩:=ZP h;have:=JO e;obtain⟨_,q⟩:=jV.mp hm;omega
theorem X8{c d a b:Nat}{t:Str}(h:(t,a,b)∈zU f l g c d):jE (.str t) (zU f l g c d)=some (a,b):=by
 obtain⟨ok,h⟩:=jV.mp h;rcases h with ⟨rfl,rfl,rfl⟩ | ⟨rfl,rfl,rfl⟩ | ⟨rfl,rfl,rfl⟩
 ·rw[jN,z7,ok,show(("both":Str) == "both")=true by decide];rfl
 ·have j:okN f l g (c+1) (b+0)=true:=ok
  rw[jN,z7,z7,show(("both":Str) == "left")=false by decide,vp,j,show(("left":Str) == "left")=true by decide];rfl
 ·have j:okN f l g (a+0) (d+1)=true:=ok
  rw[jN,z7,z7,z7,show(("both":Str) == "right")=false by decide,vp,show(("left":Str) == "right")=false by decide,vp,j,show(("right":Str) == "right")=true by decide];rfl
theorem ZC{a b:Nat}(h:okN f l g a b=true):a<f.length/\b<l.length:=by
 unfold okN at h;simp only[jn,decide_eq_true_eq] at h;exact⟨h.1,h.2.1⟩
def Xj(f l:List Int)(g:Int)(n a b:Nat):Prop:=∃m,m<=n/\zM f l g a b=some m
theorem Qf{n a b:Nat}:Xj f l g (n+1) a b↔Xj f l g n a b\/zM f l g a b=some (n+1):=by
 constructor
 ·rintro⟨m,hm,e⟩
  by_cases q:m=n+1
  ·exact .inr (q▸e)
  ·exact .inl ⟨m,by omega,e⟩
 ·rintro(⟨m,hm,e⟩ | e)
  ·exact⟨m,by omega,e⟩
  ·exact⟨n+1,zJ _,e⟩
end
theorem QR{α:Type}[DecidableEq α]:∀{l m:List α},l.Nodup->(∀x∈l,x∈m)->l.length<=m.length
 | [],_,_,_=>qQ _
 | x::l,m,h,s=>by
  have hx:=s x (by simp)
  have f:=Z1.mp h;have:=QR (l:=l) (m:=m.erase x) f.2 fun y hy=>(List.mem_erase_of_ne (fun e:y=x=>f.1 (e▸hy))).mpr (s y (jv _ hy))
  rw[List.length_erase_of_mem hx] at this;have:=List.length_pos_of_mem hx;rw[jr];omega
def kyN(a b:Nat):List Key:=[.inl (a:Int),.inl (b:Int)]
theorem ZJ{a b c d:Nat}:kyN a b=kyN c d↔a=c/\b=d:=by
 unfold kyN;constructor
 ·intro h
  injection h with g f;injection f with f _;injection g with g;injection f with f;omega
 ·rintro⟨rfl,rfl⟩;rfl
def Vq(n m:Nat):List (List Key):=(List.range n).flatMap fun a=>(List.range m).map fun b=>kyN a b
theorem zap(n m:Nat):(Vq n m).length=n*m:=by
 unfold Vq;rw[List.length_flatMap];simp[List.map_const']
theorem zao{n m a b:Nat}(f:a<n)(g:b<m):kyN a b∈Vq n m:=by
 unfold Vq;rw[Xb];exact⟨a,wX.mpr f,jS.mpr ⟨b,wX.mpr g,rfl⟩⟩
theorem vz{f:List (List Key×V)}{k:List Key}:(qE f k).isSome=true↔k∈f.map (·.1):=by
 rw[<- xP,Z2];constructor
 ·rintro⟨p,hp,e⟩
  exact jS.mpr ⟨p,hp,jH e⟩
 ·intro h
  obtain⟨p,hp,e⟩:=jS.mp h;exact⟨p,hp,zS e⟩
def PrAt(H:Hp)(p:Nat×Nat)(x:V):Prop:=∃t,x=.ref t/\H t=some (.tup ((kyN p.1 p.2).map kV))
abbrev PrsAt(H:Hp):List (Nat×Nat)->List V->Prop:=Paired (PrAt H)
theorem PrAt.keep{H f:Hp}{p:Nat×Nat}{x:V}(s:SameU H f)(h:PrAt H p x):PrAt f p x:=by
 obtain⟨t,e,g⟩:=h;exact⟨t,e,s _ _ g⟩
theorem PrsAt.keep{H f:Hp}{g:List (Nat×Nat)}{j:List V}(s:SameU H f)(h:PrsAt H g j):PrsAt f g j:=uk h fun _ _ z=>z.keep s
def ValOk(f j:List Int)(g:Int)(H:Hp)(a b:Nat)(v:V):Prop:=(a=0/\b=0)\/∃(l:Str) (t u:Addr) (c d m:Nat),v=.ref t/\H t=some (.tup [.str l,.ref u])/\H u=some (.tup ((kyN c d).map kV))/\(l,a,b)∈zU f j g c d/\zM f j g c d=some m/\zM f j g a b=some (m+1)
structure RIn(ls rs:List Int)(g:Int)(H:Hp)(kvs:List (List Key×V))(n:Nat)(gs fs:List (Nat×Nat)):Prop where
 keys:∀a b,(qE kvs (kyN a b)).isSome=true↔(Xj ls rs g n a b\/(a,b)∈gs)
 gok:∀p∈gs,Xj ls rs g (n+1) p.1 p.2
 vals:∀k v,qE kvs k=some v->∃a b,k=kyN a b/\okN ls rs g a b=true/\ValOk ls rs g H a b v
 nd:(kvs.map (·.1)).Nodup
 fnd:∀p:Nat×Nat,p∈fs↔(p∈gs/\¬Xj ls rs g n p.1 p.2)
 fl:fs.length<=kvs.length
section
variable{f j:List Int}{g:Int}
theorem ValOk.keep{H l:Hp}{a b:Nat}{v:V}(s:SameU H l)(h:ValOk f j g H a b v):ValOk f j g l a b v:=by
 rcases h with h | ⟨B,t,u,c,d,m,e,w,A,r⟩
 ·exact .inl h
 ·exact .inr ⟨B,t,u,c,d,m,e,s _ _ w,s _ _ A,r⟩
theorem RIn.keep{H u:Hp}{l:List (List Key×V)}{n:Nat}{A w:List (Nat×Nat)}(s:SameU H u)(h:RIn f j g H l n A w):RIn f j g u l n A w:=
 ⟨h.keys,h.gok,fun k v e=>let ⟨a,b,B,C,D⟩:=h.vals k v e;⟨a,b,B,C,D.keep s⟩,h.nd,h.fnd,h.fl⟩
theorem RIn.len{H:Hp}{l:List (List Key×V)}{n:Nat}{u s:List (Nat×Nat)}(h:RIn f j g H l n u s):l.length<=f.length*j.length:=by
 have:=QR (m:=Vq f.length j.length) h.nd fun k hk=>by
  obtain⟨v,w⟩:=ye.mp (vz.mpr hk);obtain⟨a,b,rfl,ok,_⟩:=h.vals k v w;exact zao (ZC ok).1 (ZC ok).2
 rw[zx,zap] at this;exact this
theorem RIn.skip{H:Hp}{l:List (List Key×V)}{n a b:Nat}{u s:List (Nat×Nat)}(h:RIn f j g H l n u s)(e:(qE l (kyN a b)).isSome=true)(w:Xj f j g (n+1) a b):RIn f j g H l n (u++[(a,b)]) s:=by
 refine⟨fun c d=>?_,fun p hp=>?_,h.vals,h.nd,fun p=>?_,h.fl⟩
 ·rw[qC,qu,<- or_assoc,<- h.keys]
  refine⟨.inl,fun q=>q.elim id fun z=>?_⟩
  cases z;exact e
 ·rcases qC.mp hp with q | q
  ·exact h.gok p q
  ·rw[qu.mp q];exact w
 ·rw[h.fnd,qC,qu]
  refine⟨fun q=>⟨.inl q.1,q.2⟩,fun q=>⟨q.1.elim id fun z=>?_,q.2⟩⟩
  subst z;exact((h.keys a b).mp e).elim (fun z=>absurd z q.2) id
theorem RIn.put{H:Hp}{kvs:List (List Key×V)}{n a b:Nat}{s l:List (Nat×Nat)}{v:V}(h:RIn f j g H kvs n s l)(e:qE kvs (kyN a b)=none)(w:Xj f j g (n+1) a b)(B:ValOk f j g H a b v):RIn f j g H (jy kvs (kyN a b) v) n (s++[(a,b)]) (l++[(a,b)]):=by
 have A:¬Xj f j g n a b:=fun z=>by
  have:=(h.keys a b).mpr (.inl z);rw[e] at this;cases this
 have ok:okN f j g a b=true:=let ⟨_,_,z⟩:=w;vJ z
 refine⟨fun c d=>?_,fun p hp=>?_,fun k u hk=>?_,?_,fun p=>?_,?_⟩
 ·rw[xu,qC,qu,<- or_assoc,<- h.keys]
  by_cases q:kyN c d=kyN a b
  ·obtain⟨rfl,rfl⟩:=ZJ.mp q
   rw[zw rfl];simp
  ·rw[zq q]
   refine⟨.inl,fun z=>z.elim id fun z=>?_⟩
   cases z;exact absurd rfl q
 ·rcases qC.mp hp with q | q
  ·exact h.gok p q
  ·rw[qu.mp q];exact w
 ·rw[xu] at hk
  by_cases q:k=kyN a b
  ·rw[zw q] at hk
   cases hk;exact⟨a,b,q,ok,B⟩
  ·rw[zq q] at hk
   exact h.vals k u hk
 ·rw[XM v e,zY,List.nodup_append]
  refine⟨h.nd,by simp,fun x hx y hy z=>?_⟩
  rw[xD,J4,qu] at hy;subst hy z;have:=vz.mpr hx;rw[e] at this;cases this
 ·rw[qC,h.fnd,qC,qu]
  refine⟨fun q=>q.elim (fun z=>⟨.inl z.1,z.2⟩) (fun z=>⟨.inr z,by rw[z];exact A⟩),fun q=>q.1.elim (fun z=>.inl ⟨z,q.2⟩) .inr⟩
 ·rw[XM v e,qG,qG]
  have:=h.fl;simp only[jr,V2];omega
def gsN(f j:List Int)(g:Int)(l:List (Nat×Nat)):List (Nat×Nat):=l.flatMap fun p=>(zU f j g p.1 p.2).map (·.2)
theorem RIn.next{H:Hp}{s:List (List Key×V)}{n:Nat}{u w:List (Nat×Nat)}(h:RIn f j g H s n (gsN f j g u) w)(B:∀p:Nat×Nat,p∈u↔zM f j g p.1 p.2=some n) :
  RIn f j g H s (n+1) [] []/\∀p:Nat×Nat,p∈w↔zM f j g p.1 p.2=some (n+1):=by
 have l:∀a b,zM f j g a b=some (n+1)->(a,b)∈gsN f j g u:=fun a b e=>by
  obtain⟨c,d,t,A,hm⟩:=ZP e;exact Xb.mpr ⟨(c,d),(B (c,d)).mpr A,jS.mpr ⟨_,hm,rfl⟩⟩
 refine⟨⟨fun a b=>?_,fun p hp=>(by cases hp),h.vals,h.nd,fun p=>⟨fun z=>(by cases z),fun z=>(by cases z.1)⟩,qQ _⟩,fun p=>?_⟩
 ·rw[h.keys]
  refine⟨fun q=>.inl (q.elim (fun ⟨m,hm,e⟩=>⟨m,by omega,e⟩) fun z=>h.gok _ z),fun q=>?_⟩
  rcases q with q | q
  ·rcases Qf.mp q with z | z
   ·exact .inl z
   ·exact .inr (l a b z)
  ·cases q
 ·rw[h.fnd]
  refine⟨fun q=>?_,fun q=>⟨l _ _ q,fun ⟨m,hm,e⟩=>?_⟩⟩
  ·rcases Qf.mp (h.gok p q.1) with z | z
   ·exact absurd z q.2
   ·exact z
  ·rw[e] at q
   injection q with q;omega
theorem ZQ{n:Nat}:∀{m a b:Nat},zM f j g a b=some m->n<=m->∃c d,zM f j g c d=some n
 | 0,a,b,e,h=>⟨a,b,by rw[e];congr 1;omega⟩
 | m+1,a,b,e,h=>by
  by_cases q:n=m+1
  ·exact⟨a,b,q▸e⟩
  ·obtain⟨c,d,t,l,_⟩:=ZP e
   exact ZQ l (by omega)
theorem Vh(h:okN f j g 0 0=false)(a b:Nat):zM f j g a b=none:=by
 cases e:zM f j g a b with
 | none=>rfl
 | some m=>
  obtain⟨c,d,l⟩:=ZQ e (qQ m);obtain⟨rfl,rfl⟩:=ZN l;rw[vJ l] at h;cases h
theorem RIn.last{H:Hp}{l:List (List Key×V)}{n:Nat}(h:RIn f j g H l n [] [])(u:∀p:Nat×Nat,p∈([]:List (Nat×Nat))↔zM f j g p.1 p.2=some n)(a b:Nat):(qE l (kyN a b)).isSome=(zM f j g a b).isSome:=by
 have e:(qE l (kyN a b)).isSome=true↔(zM f j g a b).isSome=true:=by
  rw[h.keys];constructor
  ·rintro(⟨m,_,e⟩ | z)
   ·rw[e];rfl
   ·cases z
  ·intro z
   obtain⟨m,e⟩:=ye.mp z;by_cases q:m<=n
   ·exact .inl ⟨m,q,e⟩
   ·obtain⟨c,d,s⟩:=ZQ e (show n<=m by omega)
    have:=(u (c,d)).mpr s;cases this
 cases x:(qE l (kyN a b)).isSome<;>cases y:(zM f j g a b).isSome<;>simp_all
end
section
variable{P:Program}{w:World}{K:W.Frag}{D:Str->Option Value}{C:Heap}
inductive yJ(K:W.Frag)(A:List V)(H:Hp)(Q:VK):Prop
 | mk (l r:Addr) (j s:List Int) (g:Int) (_:A=[.ref l,.ref r,.int g]) (_:SqL K H l (j.map V.int)) (_:SqL K H r (s.map V.int)) (_:j.length<=400) (_:s.length<=400) (_:j≠[]) (_:s≠[]) (_:∀(d:Addr) (f:List (List Key×V)) u,H d=none->Same H u->u d=some (.dT f)->(∀a b:Nat,(qE f (kyN a b)).isSome=(zM j s g a b).isSome)->(∀(a b:Nat) (v:V),qE f (kyN a b)=some v->ValOk j s g u a b v)->Q (.ref d) u):yJ K A H Q
def yh(K:W.Frag):Sp:=fun f H Q _=>yJ K f H Q
theorem QO:zI ["left","right","gap","reached","edge","found","at","word","goal"] ["left","right","gap"] (zv (topL 11)):=u7
theorem VL{f:Addr}{fd:FuncData}(F:Fun K "all_reached" "all_reached" (topL 11) f fd)(B:Blt D)(M:Dfn P w K D C "is_too_near" 1 ["left","right","gap","at"] (Zn K))(a0:Dfn P w K D C "moves_at" 2 ["left","right","gap","at"] (Zd K)):FnOk P w K D C CX0 3 f fd ["left","right","gap"] (yh K):=by
 have nd:=QO.nd;refine F.ok QO (fun vs H Q E h=>?_) (fun ck A ch s H vs Q E hr h=>?_)
 ·obtain⟨l,r,I,J,g,rfl,_⟩:=h
  rfl
 ·obtain⟨l,r,I,J,g,rfl,hl,c2,bl,br,nl,nr,k⟩:=h
  have az:=QV hr;have ci:=bG1000000;have ll:0<I.length:=je.mpr nl;have lr:0<J.length:=je.mpr nr;have lm:I.length*J.length<=160000:=Nat.mul_le_mul bl br;refine⟨_,(zg (qH (jJ (zn M hr.m rfl (za (pv 0) (za (pv 1) (za (pv 2) (za (zN (za zf (za zf ze))) ze))))))
   (zk (zC Zz))
   zQ)
   (zg (zF (i:=3) nd rfl (Or.inl rfl) (YZ az (zN (za zf (za zf ze))) xx))
   (zg (zF (i:=4) nd rfl (Or.inl rfl) (zT (za (zN (za zf (za zf ze))) ze)))
   (zg (Zv jc (W1 (pv 4))
   (zg (zF (i:=5) nd rfl (Or.inl rfl) (zT ze))
    (zg (qJ jc rfl (qz (pv 4)) (zp (i:=6) nd rfl (Or.inl rfl))
    (zk (qJ jc rfl (qz (zn a0 hr.m rfl (za (pv 0) (za (pv 1) (za (pv 2) (za (pv 6) ze)))))) (qR rfl (zu (zp (i:=7) nd rfl (Or.inl rfl)) (zu (zp (i:=8) nd rfl (Or.inl rfl)) qq)))
     (zk (qH (wu (yn az (pv 8) (pv 3)))
      (zg (W3 az (pv 3) (pv 8) (zN (za (pv 7) (za (pv 6) ze))) rfl)
       (zk (qM (j7 xf xK xJ qA (pv 5) (za (pv 8) ze)))))
      zQ)))))
    (zk (zF (i:=4) nd rfl (Or.inl rfl) (pv 5))))))
   (zk (zC (pv 3))))))),?_⟩
  refine⟨_,rfl,_,rfl,_,rfl,le2,fun p hp=>?_⟩
  have s1:=zc (o:=.tup [.int 0,.int 0]) hp;refine⟨l,r,p,I,J,g,0,0,_,_,rfl,s1.seq hl,s1.seq c2,ua zd,jB (i:=0) ll,jB (i:=0) lr,_,rfl,qZ (fun c=>?_) (fun c=>?_)⟩
  ·intro d hd
   have e0:okN I J g 0 0=false:=by
    unfold okN;rw[show jD I J g 0 0=true from c];simp
   exact k d [] _ (s1.free hd) (s1.trans (zc hd)) zd (fun a b=>by rw[Vh e0];rfl) (fun a b v e=>by cases e)
  have b0:okN I J g 0 0=true:=by
   unfold okN;rw[zS ll,zS lr,show jD I J g 0 0=false from(yD _).mp c];rfl
  clear c;generalize upd H p (.tup [.int 0,.int 0])=H1 at s1;intro d hd;have aw:=s1.free hd;have s2:=s1.trans (zc (o:=.dT []) hd);have D2:upd H1 d (.dT []) d=some (.dT []):=zd;generalize upd H1 d (.dT [])=H2 at s2 D2;refine⟨le2,fun t0 ax=>?_⟩
  have s3:=s2.trans (zc (o:=.tup [.int 0,.int 0]) ax);have D3:=(zc (o:=.tup [.int 0,.int 0]) ax) _ _ D2;have T3:upd H2 t0 (.tup [.int 0,.int 0]) t0=some (.tup ((kyN 0 0).map kV)):=zd;generalize upd H2 t0 (.tup [.int 0,.int 0])=H3 at s3 D3 T3;refine⟨_,_,kyN 0 0,t0,rfl,D3,rfl,T3,?_⟩
  have s4:Same H (upd H3 d (.dT [(kyN 0 0,.non)])):=fun c0 u0 e0=>by
   rw[zm (zi e0 aw)];exact s3 c0 u0 e0
  have D4:upd H3 d (.dT [(kyN 0 0,.non)]) d=some (.dT [(kyN 0 0,.non)]):=zd;generalize upd H3 d (.dT [(kyN 0 0,.non)])=H4 at s4 D4;refine⟨le2,fun t1 ay=>?_⟩
  have s5:=s4.trans (zc (o:=.tup [.int 0,.int 0]) ay);have D5:=(zc (o:=.tup [.int 0,.int 0]) ay) _ _ D4;have T5:upd H4 t1 (.tup [.int 0,.int 0]) t1=some (.tup ((kyN 0 0).map kV)):=zd;generalize upd H4 t1 (.tup [.int 0,.int 0])=H5 at s5 D5 T5;refine⟨le1,fun e0 al=>?_⟩
  have s6:=s5.trans (zc (o:=.lst [.ref t1]) al);have D6:=(zc (o:=.lst [.ref t1]) al) _ _ D5;have T6:=(zc (o:=.lst [.ref t1]) al) _ _ T5;have E6:upd H5 e0 (.lst [.ref t1]) e0=some (.lst [.ref t1]):=zd;generalize upd H5 e0 (.lst [.ref t1])=H6 at s6 D6 T6 E6;refine⟨fun m σ G=>∃(n:Nat) (N:List (Nat×Nat)) (e:Addr) (u:List (List Key×V)) (us:List V) (v5 v6 v7 v8:Option V),m=I.length+J.length+1-n/\σ=[some (.ref l),some (.ref r),some (.int g),some (.ref d),some (.ref e),v5,v6,v7,v8]/\Same H G/\G d=some (.dT u)/\G e=some (.lst us)/\PrsAt G N us/\RIn I J g G u n [] []/\(∀p:Nat×Nat,p∈N↔zM I J g p.1 p.2=some n)/\N.length<=u.length,
   ⟨_,0,[(0,0)],e0,[(kyN 0 0,.non)],[.ref t1],none,none,none,none,rfl,rfl,s6,D6,E6,.cons ⟨t1,rfl,T6⟩ .nil,⟨fun a b=>?_,fun p hp=>(by cases hp),fun kk v e=>?_,by simp,fun p=>⟨fun z=>(by cases z),fun z=>(by cases z.1)⟩,qQ _⟩,fun p=>?_,zJ _⟩,?_⟩
  ·have ev:qE [(kyN 0 0,V.non)] (kyN a b)=if kyN a b=kyN 0 0 then some .non else none:=by
    have:=xu [] (kyN 0 0) (kyN a b) .non;exact this
   rw[ev];constructor
   ·intro z
    by_cases q:kyN a b=kyN 0 0
    ·obtain⟨rfl,rfl⟩:=ZJ.mp q
     exact .inl ⟨0,zJ _,wA b0⟩
    ·rw[zq q] at z;cases z
   ·rintro(⟨m,hm,e⟩ | z)
    ·obtain rfl:m=0:=by omega
     obtain⟨rfl,rfl⟩:=ZN e;rw[zw rfl];rfl
    ·cases z
  ·have ev:qE [(kyN 0 0,V.non)] kk=if kk=kyN 0 0 then some .non else none:=xu [] (kyN 0 0) kk .non
   rw[ev] at e;by_cases q:kk=kyN 0 0
   ·exact⟨0,0,q,b0,.inl ⟨rfl,rfl⟩⟩
   ·rw[zq q] at e;cases e
  ·rw[qu]
   refine⟨fun z=>by rw[z];exact wA b0,fun z=>?_⟩
   obtain⟨h1,h2⟩:=ZN z;obtain⟨p1,p2⟩:=p;simp only at h1 h2;rw[h1,h2]
  clear s1 s2 s3 s4 s5 s6 D2 D3 D4 D5 D6 T3 T5 T6 E6 hd ax ay al;rintro m σ H7 ⟨n,N,e,u,us,v5,v6,v7,v8,rfl,rfl,s7,D7,E7,P7,R7,he,el⟩;have ce:=vn P7;refine⟨_,rfl,e,us,rfl,u9 E7,qZ (fun c=>?_) (fun c=>?_)⟩
  ·have c8:N≠[]:=fun z=>by
    subst z;cases P7;simp at c
   have hn:n<I.length+J.length:=by
    obtain⟨p,hp⟩:=List.exists_mem_of_ne_nil N c8;have h1:=(he p).mp hp;have h2:=JO h1;have h3:=ZC (vJ h1);omega
   refine⟨fun σ' G=>∃(N:List (Nat×Nat)) (e:Addr) (u:List (List Key×V)) (us:List V) (v5 v6 v7 v8:Option V),σ'=[some (.ref l),some (.ref r),some (.int g),some (.ref d),some (.ref e),v5,v6,v7,v8]/\Same H G/\G d=some (.dT u)/\G e=some (.lst us)/\PrsAt G N us/\RIn I J g G u (n+1) [] []/\(∀p:Nat×Nat,p∈N↔zM I J g p.1 p.2=some (n+1))/\N.length<=u.length,
    fun σ' G ⟨N,e,u,us,v5,v6,v7,v8,h⟩=>⟨I.length+J.length+1-(n+1),by omega,n+1,N,e,u,us,v5,v6,v7,v8,rfl,h⟩,?_⟩
   refine⟨le0,fun q hq=>?_⟩
   have c9:=s7.free hq;have s8:=s7.trans (zc (o:=.lst []) hq);have D8:=(zc (o:=.lst []) hq) _ _ D7;have E8:=(zc (o:=.lst []) hq) _ _ E7;have P8:=P7.keep (ug<|zc (o:=.lst []) hq)
   have R8:=R7.keep (ug<|zc (o:=.lst []) hq)
   have cf:e≠q:=zi E7 hq;have Q8:upd H7 q (.lst []) q=some (.lst []):=zd;generalize upd H7 q (.lst [])=H8 at s8 D8 E8 P8 R8 Q8;refine⟨_,rfl,e,rfl,⟨_,u9 E8⟩,xA (K:=K) (a:=e) (xs:=us) (fun i σ G=>Ex6 fun(fs:List (Nat×Nat)) (Y:List V) (u:List (List Key×V)) (v6 v7 v8:Option V)=>An8 (σ=[some (.ref l),some (.ref r),some (.int g),some (.ref d),some (.ref e),some (.ref q),v6,v7,v8]) (Same H G) (G d=some (.dT u)) (G e=some (.lst us)) (G q=some (.lst Y)) (PrsAt G N us) (PrsAt G fs Y) (RIn I J g G u n (gsN I J g (N.take i)) fs))
    ⟨[],[],u,_,_,_,rfl,s8,D8,E8,Q8,P8,.nil,R8⟩ (fun i σ G _ ⟨_,_,_,_,_,_,_,_,_,h,_,_,_,_⟩=>u9 h) ?_ ?_⟩
   ·rintro i x σ H9 hx ⟨fs,Y,u,v6,v7,v8,rfl,s9,D9,E9,Q9,P9,G9,R9⟩
    obtain⟨O,bx,t,rfl,T9⟩:=ve P9 hx;have bv:zM I J g O.1 O.2=some n:=(he O).mp (qI bx);have c6:gsN I J g (N.take (i+1))=gsN I J g (N.take i)++(zU I J g O.1 O.2).map (·.2):=by
     unfold gsN;rw[qe bx,V9];simp
    refine⟨_,rfl,_,rfl,_,rfl,_,rfl,l,r,t,I,J,g,O.1,O.2,rfl,s9.seq hl,s9.seq c2,ua T9,fun mq mu cj c7 U as ao=>⟨mq,rfl,⟨_,u9 as⟩,?_⟩⟩
    have cg:mq≠q:=(zi Q9 c7).symm;have cd:=vn ao;refine xA (K:=K) (a:=mq) (xs:=mu) (fun j σ G=>Ex5 fun(fs:List (Nat×Nat)) (Y:List V) (u:List (List Key×V)) (v7 v8:Option V)=>zfi (σ=[some (.ref l),some (.ref r),some (.int g),some (.ref d),some (.ref e),some (.ref q),some (.ref t),v7,v8]) (Same H G) (G d=some (.dT u)) (G e=some (.lst us)) (G q=some (.lst Y)) (PrsAt G N us) (PrsAt G fs Y) (RIn I J g G u n (gsN I J g (N.take i)++((zU I J g O.1 O.2).take j).map (·.2)) fs) (G mq=some (.lst mu)) (MvsAt G (zU I J g O.1 O.2) mu) (G t=some (.tup ((kyN O.1 O.2).map kV))))
     ⟨fs,Y,u,_,_,rfl,s9.trans U,U _ _ D9,U _ _ E9,U _ _ Q9,P9.keep (ug U),G9.keep (ug U),by rw[List.take_zero,J4,xj];exact R9.keep (ug U),as,ao,U _ _ T9⟩ (fun j σ G _ ⟨_,_,_,_,_,_,_,_,_,_,_,_,_,h,_,_⟩=>u9 h) ?_ ?_
    ·clear s9 D9 E9 Q9 P9 G9 R9 as ao T9 fs Y u
     rintro j y σ ar hy ⟨fs,Y,u,v7,v8,rfl,am,ab,ag,aj,ai,ah,T,au,ae,ak⟩;obtain⟨mv,bw,c1,u1,rfl,c5,bs⟩:=ve ae hy;obtain⟨wd,a,b⟩:=mv;have an:(wd,a,b)∈zU I J g O.1 O.2:=qI bw;have lv:Xj I J g (n+1) a b:=ZO an bv;have bz:gsN I J g (N.take i)++((zU I J g O.1 O.2).take (j+1)).map (·.2)=gsN I J g (N.take i)++((zU I J g O.1 O.2).take j).map (·.2)++[(a,b)]:=by
      rw[qe bw,zY,<- yV];rfl
     have lk:=T.len;refine⟨c1,_,rfl,ua c5,rfl,_,_,rfl,_,_,rfl,rfl,?_⟩
     refine⟨_,rfl,_,rfl,d,_,rfl,ui (k:=kyN a b) ab bs,_,rfl,qZ (fun c=>?_) (fun c=>?_)⟩
     ·have ev:qE u (kyN a b)=none:=by
       cases z:qE u (kyN a b) with
       | none=>rfl
       | some v=>rw[z] at c;simp at c
      have cb:zM I J g a b=some (n+1):=by
       rcases Qf.mp lv with z | z
       ·have:=(T.keys a b).mpr (.inl z)
        rw[ev] at this;cases this
       ·exact z
      refine⟨_,rfl,_,rfl,le2,fun tv ca=>?_⟩
      have L:=zc (o:=.tup [.str wd,.ref t]) ca;have bu:upd ar tv (.tup [.str wd,.ref t]) tv=some (.tup [.str wd,.ref t]):=zd;have c3:=am.trans L;have bn:=(T.keep (ug L)).put (v:=.ref tv) ev lv (.inr ⟨wd,tv,t,O.1,O.2,n,rfl,bu,L _ _ ak,an,bv,cb⟩);have af:=L _ _ ab;have av:=L _ _ bs;have bc:=L _ _ ag;have bm:=L _ _ aj;have bg:=L _ _ au;have bi:=ai.keep (ug L);have be:=ah.keep (ug L);have ba:=ae.keep (ug L);have bp:=L _ _ ak;generalize upd ar tv (.tup [.str wd,.ref t])=aa at L bu c3 bn af av bc bm bg bi be ba bp;refine⟨_,rfl,_,rfl,d,_,rfl,DPut.t (k:=kyN a b) af av (by omega),?_⟩
      have ud:SameU aa (upd aa d (.dT (jy u (kyN a b) (.ref tv)))):=SameU.putD af;have c4:Same H (upd aa d (.dT (jy u (kyN a b) (.ref tv)))):=fun c0 u0 e0=>by
       rw[zm (zi e0 aw)];exact c3 c0 u0 e0
      have bo:=bn.keep ud;have ap:upd aa d (.dT (jy u (kyN a b) (.ref tv))) d=some (.dT (jy u (kyN a b) (.ref tv))):=zd;have pl:∀{x:Addr} {xs:List V},aa x=some (.lst xs)->upd aa d (.dT (jy u (kyN a b) (.ref tv))) x=some (.lst xs):=fun h=>by
       rw[zm (xW h af (fun z=>nomatch z))];exact h
      have bd:=pl bc;have ac:=pl bm;have bh:=pl bg;have bj:=bi.keep ud;have aq:=be.keep ud;have bb:=ba.keep ud;have bq:=ud _ _ bp;have bt:=ud _ _ av;generalize upd aa d (.dT (jy u (kyN a b) (.ref tv)))=bf at ud c4 bo ap pl bd ac bh bj aq bb bq bt;have lw:=vn aq;have cl:=T.fl;refine⟨_,rfl,.inl ⟨rfl,_,u9 ac⟩,_,rfl,q,Y,_,rfl,rfl,ac,by omega,?_⟩
      have uq:SameU bf (upd bf q (.lst (Y++[.ref u1]))):=SameU.putL ac;refine⟨fs++[(a,b)],Y++[.ref u1],jy u (kyN a b) (.ref tv),_,_,rfl,fun c0 u0 e0=>?_,?_,?_,zd,bj.keep uq,JY (aq.keep uq) ⟨u1,rfl,uq _ _ bt⟩,?_,?_,bb.keep uq,uq _ _ bq⟩
      ·rw[zm (zi e0 c9)];exact c4 c0 u0 e0
      ·rw[zm (xW ap ac (fun z=>nomatch z))];exact ap
      ·rw[zm cf];exact bd
      ·rw[bz];exact bo.keep uq
      ·rw[zm cg];exact bh
     ·have ev:(qE u (kyN a b)).isSome=true:=by
       cases z:(qE u (kyN a b)).isSome with
       | true=>rfl
       | false=>rw[z] at c;simp at c
      exact⟨fs,Y,u,_,_,rfl,am,ab,ag,aj,ai,ah,by rw[bz];exact T.skip ev lv,au,ae,ak⟩
    ·rintro σ ar ⟨fs,Y,u,v7,v8,rfl,am,ab,ag,aj,ai,ah,T,au,ae,ak⟩
     rw[<- cd,jO] at T;exact⟨fs,Y,u,_,_,_,rfl,am,ab,ag,aj,ai,ah,by rw[c6];exact T⟩
   ·rintro σ H9 ⟨fs,Y,u,v6,v7,v8,rfl,s9,D9,E9,Q9,P9,G9,R9⟩
    rw[<- ce,jO] at R9;obtain⟨R',F'⟩:=R9.next he
    exact⟨_,rfl,fs,q,u,Y,_,_,_,_,rfl,s9,D9,Q9,G9,R',F',R9.fl⟩
  ·have ez:N=[]:=by
    cases P7 with
    | nil=>rfl
    | cons _ _=>simp at c
   subst ez;exact⟨_,rfl,k d u H7 aw s7 D7 (R7.last he) fun a b v e=>by
    obtain⟨a',b',e1,_,vo⟩:=R7.vals _ v e;obtain⟨rfl,rfl⟩:=ZJ.mp e1;exact vo⟩
def Wrd(x:Str):Prop:=x = "both" \/ x = "left" \/ x = "right"
theorem zcx{f j:List Int}{g:Int}{c d a b:Nat}{t:Str}(h:(t,a,b)∈zU f j g c d):Wrd t:=by
 obtain⟨_,h⟩:=jV.mp h;rcases h with h | h | h
 ·exact .inl h.1
 ·exact .inr (.inl h.1)
 ·exact .inr (.inr h.1)
inductive wH(K:W.Frag)(A:List V)(H:Hp)(Q:VK):Prop
 | mk (l r:Addr) (f j:List Int) (g:Int) (_:A=[.ref l,.ref r,.int g]) (_:SqL K H l (f.map V.int)) (_:SqL K H r (j.map V.int)) (_:f.length<=400) (_:j.length<=400) (_:f≠[]) (_:j≠[]) (_:(∀s,zM f j g (f.length-1) (j.length-1)=none->Same H s->Q .non s)) (_:∀(q:Addr) (u:List Str) s,zM f j g (f.length-1) (j.length-1)=some u.length->H q=none->Same H s->s q=some (.lst (u.map V.str))->qT f j g (0,0) (u.map Dat.str)=some (wz f j)->(∀x∈u,Wrd x)->okN f j g 0 0=true->Q (.ref q) s):wH K A H Q
def Zm(K:W.Frag):Sp:=fun f H Q _=>wH K f H Q
theorem Zu:zI ["left","right","gap","reached","at","moves","word"] ["left","right","gap"] (zv (topL 12)):=u7
theorem XR{f:Addr}{fd:FuncData}(F:Fun K "moves_together" "moves_together" (topL 12) f fd)(B:Blt D)(I:Dfn P w K D C "all_reached" 3 ["left","right","gap"] (yh K))(M:Dfn P w K D C "ends_of" 1 ["left","right"] (yi K)):FnOk P w K D C CX0 4 f fd ["left","right","gap"] (Zm K):=by
 have nd:=Zu.nd;refine F.ok Zu (fun vs H Q E h=>?_) (fun al A ai s H vs Q E hr h=>?_)
 ·obtain⟨l,r,j,G,g,rfl,_⟩:=h
  rfl
 ·obtain⟨l,r,j,G,g,rfl,hl,a0,bl,br,nl,nr,k0,k1⟩:=h
  have aa:=QV hr;have hu:=hr.units0;have ak:=bG1000000;have ll:0<j.length:=je.mpr nl;have lr:0<G.length:=je.mpr nr;refine⟨_,(zg (zF (i:=3) nd rfl (Or.inl rfl) (zn I hr.m rfl (za (pv 0) (za (pv 1) (za (pv 2) ze)))))
   (zg (zF (i:=4) nd rfl (Or.inl rfl) (zn M hr.m rfl (za (pv 0) (za (pv 1) ze))))
   (zg (qH (wu (yn aa (pv 4) (pv 3)))
   (zk (zC xx))
   zQ)
   (zg (zF (i:=5) nd rfl (Or.inl rfl) (zT ze))
   (zg (Zv jc (zG (zdM hu) (pv 4) (zN (za zf (za zf ze))) (zE _))
   (zg (jK (zcd aa (pv 3) (pv 4) (fun _ _=>rfl)) (qR rfl (zu (zp (i:=6) nd rfl (Or.inl rfl)) (zu (zp (i:=4) nd rfl (Or.inl rfl)) qq))))
    (zk (qM (j7 xf xK xJ qA (pv 5) (za (pv 6) ze))))))
   (zk (zC (zdF (pv 5) (qX (wJ x8 zf)))))))))),?_⟩
  refine⟨_,rfl,_,rfl,_,rfl,l,r,j,G,g,rfl,hl,a0,bl,br,nl,nr,fun d L H1 hd s1 D1 ks vo=>?_⟩
  refine⟨_,rfl,_,rfl,l,r,j,G,rfl,s1.seq hl,s1.seq a0,fun pe H2 ae s2=>?_⟩
  have eP:H2 pe=some (.tup ((kyN (j.length-1) (G.length-1)).map kV)):=by
   rw[ae];show some (HO.tup [.int ((j.length:Int)-1),.int ((G.length:Int)-1)])=some (.tup [.int ((j.length-1:Nat):Int),.int ((G.length-1:Nat):Int)]);rw[show((j.length-1:Nat):Int)=(j.length:Int)-1 by omega,show((G.length-1:Nat):Int)=(G.length:Int)-1 by omega]
  have D2:=s2 _ _ D1;have s3:=s1.trans s2;have ah:=ks (j.length-1) (G.length-1);refine⟨_,rfl,_,rfl,d,_,rfl,ui (k:=kyN (j.length-1) (G.length-1)) D2 eP,_,rfl,?_⟩
  rw[ah];cases ec:zM j G g (j.length-1) (G.length-1) with
  | none=>exact ifT rfl (k0 H2 ec s3)
  | some n=>
   refine ifF rfl ?_
   have ab:okN j G g 0 0=true:=by
    cases e:okN j G g 0 0 with
    | true=>rfl
    | false=>rw[Vh e] at ec;cases ec
   have am:n<=800:=by
    have:=JO ec;omega
   refine⟨le0,fun q hq=>?_⟩
   have af:=s3.free hq;have Y:=zc (o:=.lst []) hq;have Q4:upd H2 q (.lst []) q=some (.lst []):=zd;have D4:=Y _ _ D2;have P4:=Y _ _ eP;have s4:=s3.trans Y;have O:∀(a b:Nat) (v:V),qE L (kyN a b)=some v->ValOk j G g (upd H2 q (.lst [])) a b v:=fun a b v e=>(vo a b v e).keep (ug (s2.trans Y))
   generalize upd H2 q (.lst [])=H4 at Y Q4 D4 P4 s4 O;refine⟨fun m σ N=>∃(a b:Nat) (t:Addr) (J:List Str) (v6:Option V),zM j G g a b=some m/\σ=[some (.ref l),some (.ref r),some (.int g),some (.ref d),some (.ref t),some (.ref q),v6]/\Same H N/\N d=some (.dT L)/\(∀(a b:Nat) (v:V),qE L (kyN a b)=some v->ValOk j G g N a b v)/\N t=some (.tup ((kyN a b).map kV))/\N q=some (.lst (J.map V.str))/\m+J.length=n/\qT j G g (a,b) (J.reverse.map Dat.str)=some (wz j G)/\∀x∈J,Wrd x,
    ⟨n,_,_,pe,[],_,ec,rfl,s4,D4,O,P4,Q4,rfl,rfl,fun x hx=>(by cases hx)⟩,?_⟩
   clear Y Q4 D4 P4 s4 O D2 eP;rintro m σ H5 ⟨a,b,t,J,v6,cm,rfl,s5,D5,aj,T5,Q5,ml,wk,ww⟩;refine⟨_,rfl,le2,fun t0 ag=>?_⟩
   have S6:=zc (o:=.tup [.int 0,.int 0]) ag;have Z6:upd H5 t0 (.tup [.int 0,.int 0]) t0=some (.tup [.int 0,.int 0]):=zd;have s6:=s5.trans S6;have D6:=S6 _ _ D5;have T6:=S6 _ _ T5;have U:=S6 _ _ Q5;have T:∀(a b:Nat) (v:V),qE L (kyN a b)=some v->ValOk j G g (upd H5 t0 (.tup [.int 0,.int 0])) a b v:=fun a b v e=>(aj a b v e).keep (ug S6)
   generalize upd H5 t0 (.tup [.int 0,.int 0])=H6 at S6 Z6 s6 D6 T6 U T;have ac:SqT K H6 t [.int (a:Int),.int (b:Int)]:=ua T6;refine⟨t,t0,_,_,rfl,rfl,ac,ua Z6,rfl,rfl,_,rfl,?_⟩
   have ee:Zb [V.int (a:Int),V.int (b:Int)] [V.int 0,V.int 0]=(decide (a=0)&&decide (b=0)):=by
    show(decide ((a:Int)=0)&&(decide ((b:Int)=0)&&true))=_;rw[yy,show decide ((a:Int)=0)=decide (a=0) from yT.mpr (by omega),show decide ((b:Int)=0)=decide (b=0) from yT.mpr (by omega)]
   dsimp only[if_true];rw[ee];by_cases z:a=0/\b=0
   ·obtain⟨rfl,rfl⟩:=z
    refine ifF rfl ?_
    rw[wA ab] at cm;cases cm;refine⟨_,rfl,_,rfl,_,rfl,q,_,rfl,rfl,u9 U,fun p hp=>?_⟩
    refine k1 p J.reverse _ ?_ (s6.free hp) (s6.trans (zc hp)) ?_ wk (fun x hx=>ww x (List.mem_reverse.mp hx)) ab
    ·rw[ec,List.length_reverse]
     congr 1
     omega
    ·rw[zd,List.map_reverse]
   ·refine ifT ?_ ?_
    ·cases q1:decide (a=0)<;>cases q2:decide (b=0)<;>simp_all
    have hs:(qE L (kyN a b)).isSome=true:=by rw[ks a b,cm];rfl
    obtain⟨v,ev⟩:=ye.mp hs;rcases T a b v ev with h0 | ⟨wd,tv,u,c,d',m',rfl,V6,U6,hm,e1,e2⟩
    ·exact absurd h0 z
    obtain rfl:m=m'+1:=by rw[cm] at e2;exact qW e2
    refine⟨fun σ' N=>∃(J:List Str) (t:Addr) (v6:Option V),σ'=[some (.ref l),some (.ref r),some (.int g),some (.ref d),some (.ref t),some (.ref q),v6]/\Same H N/\N d=some (.dT L)/\(∀(a b:Nat) (v:V),qE L (kyN a b)=some v->ValOk j G g N a b v)/\N t=some (.tup ((kyN c d').map kV))/\N q=some (.lst (J.map V.str))/\m'+J.length=n/\qT j G g (c,d') (J.reverse.map Dat.str)=some (wz j G)/\∀x∈J,Wrd x,
     fun σ' N ⟨J,t,v6,h⟩=>⟨m',vq _,c,d',t,J,v6,e1,h⟩,?_⟩
    refine⟨_,rfl,_,rfl,d,_,rfl,by rw[<- ev];exact ui (k:=kyN a b) D6 T6,?_⟩
    refine⟨tv,_,rfl,ua V6,rfl,_,_,rfl,_,_,rfl,rfl,?_⟩
    refine⟨_,rfl,.inl ⟨rfl,_,u9 U⟩,_,rfl,q,_,_,rfl,rfl,U,by rw[zx];omega,?_⟩
    have uq:SameU H6 (upd H6 q (.lst (J.map V.str++[.str wd]))):=SameU.putL U;refine⟨J++[wd],u,_,rfl,fun c0 u0 e0=>?_,?_,fun a b v e=>(T a b v e).keep uq,uq _ _ U6,?_,?_,?_,fun x hx=>?_⟩
    ·rw[zm (zi e0 af)];exact s6 c0 u0 e0
    ·rw[zm (xW D6 U (fun z=>nomatch z))];exact D6
    ·rw[zd,zY];rfl
    ·rw[qG];show m'+(J.length+1)=n;omega
    ·rw[List.reverse_append]
     show(jE (.str wd) (zU j G g c d')).bind (fun p'=>qT j G g p' (J.reverse.map Dat.str))=_
     rw[X8 hm];exact wk
    ·rcases qC.mp hx with h | h
     ·exact ww x h
     ·rw[qu.mp h];exact zcx hm
inductive WF(f:List V)(H:Hp)(Q:VK):Prop
 | mk (n:Int) (_:f=[.int n]) (_:Q (.bl true) H):WF  f H Q
def zaE:Sp:=fun f H Q _=>WF  f H Q
theorem zc6:zI ["thing"] ["thing"] (zv (topL 1)):=u7
theorem zdX{f:Addr}{j:FuncData}(F:Fun K "is_number" "is_number" (topL 1) f j)(B:Blt D):FnOk P w K D C CX0 1 f j ["thing"] zaE:=by
 have I:=zc6.nd;refine F.ok zc6 (fun u H Q E h=>?_) (fun l A g s H u Q E G h=>?_)
 ·obtain⟨n,rfl,_⟩:=h
  rfl
 ·obtain⟨n,rfl,k⟩:=h
  refine⟨_,(zk (zC (ZA (zo xY rfl B.isinstance boot_isinstance (za (pv 0) (za (vQ (v:=.ty "int") rfl B.int xC rfl) ze))) (wv (zdG (zo xY rfl B.isinstance boot_isinstance (za (pv 0) (za (vQ (v:=.ty "bool") rfl B.bool zal rfl) ze)))))))),?_⟩
  exact⟨_,rfl,_, "int", "int",rfl,rfl,(by decide),_,rfl,ifT (by decide) ⟨_,rfl,_, "int", "bool",rfl,rfl,(by decide),_,rfl,k⟩⟩
inductive zaF(g:List V)(H:Hp)(Q:VK):Prop
 | mk (n lo f:Int) (_:g=[.int n,.int lo,.int f]) (_:lo<=n) (_:n<=f) (_:Q (.bl true) H):zaF  g H Q
def zex:Sp:=fun f H Q _=>zaF  f H Q
theorem zeD:zI ["thing","least","most"] ["thing","least","most"] (zv (topL 2)):=u7
theorem zdY{f:Addr}{l:FuncData}(F:Fun K "is_number_within" "is_number_within" (topL 2) f l)(B:Blt D)(g:Dfn P w K D C "is_number" 1 ["thing"] zaE):FnOk P w K D C CX0 2 f l ["thing","least","most"] zex:=by
 have N:=zeD.nd;refine F.ok zeD (fun M H Q E h=>?_) (fun G A j s H M Q E L h=>?_)
 ·obtain⟨n,lo,u,rfl,_⟩:=h
  rfl
 ·obtain⟨n,lo,u,rfl,I,J,k⟩:=h
  refine⟨_,(zk (zC (ZA (zn g L.m rfl (za (pv 0) ze)) (wv (za2 yK yK (pv 1) (pv 0) (pv 2)))))),?_⟩
  refine⟨_,rfl,n,rfl,_,rfl,ifT rfl ⟨_,rfl,_,rfl,_,_,rfl,rfl,_,rfl,ifT (zS I) ⟨_,rfl,_,_,rfl,rfl,?_⟩⟩⟩
  show Q (.bl (decide (n<=u))) H;rw[zS J];exact k
inductive Xv(K:W.Frag)(l:List V)(H:Hp)(Q:VK):Prop
 | mk (a:Addr) (g:List Int) (f:Int) (_:l=[.ref a,.int f]) (_:SqL K H a (g.map V.int)) (_:g.length<=1000) (_:(∀z∈g,0<=z/\z<f)) (_:(∀i x y,g[i]? =some x->g[i+1]? =some y->x<y)) (_:∀j,Same H j->Q (.bl true) j):Xv K l H Q
def zaB(K:W.Frag):Sp:=fun f H Q _=>Xv K f H Q
theorem zaN:zI ["thing","many"] ["thing","many"] (zv (topL 16)):=u7
theorem Zi(n:Nat):(List.replicate n true).all id=true:=by
 rw[xm];intro x hx;rw[(List.mem_replicate.mp hx).2];rfl
theorem zcn{f:Addr}{fd:FuncData}(F:Fun K "is_rising_below" "is_rising_below" (topL 16) f fd)(B:Blt D)(g:Dfn P w K D C "is_number_within" 2 ["thing","least","most"] zex):FnOk P w K D C CX0 3 f fd ["thing","many"] (zaB K):=by
 have nd:=zaN.nd;refine F.ok zaN (fun vs H Q E h=>?_) (fun af A ac s H vs Q E hr h=>?_)
 ·obtain⟨a,j,u,rfl,_⟩:=h
  rfl
 ·obtain⟨a,j,u,rfl,ha,hl,hz,ab,k⟩:=h
  have ae:=bG1000000;refine⟨_,(zg (qH (uf (vZ (xL (jJ (zo xY rfl B.isinstance boot_isinstance (za (pv 0) (za (vQ (v:=.ty "list") rfl B.list xt rfl) ze))))) (vb (xL (jJ (zo (jX rfl) rfl B.all boot_all (za (vD ["many"] [1] rfl rfl (by kernel_rfl) (qz (pv 0)) (fun _ _ _ _=>qV) (fun _ _ _ _=>(zn g hr.m rfl (za (pv 0) (za zf (za (zr jk (pv 1) zf) ze)))))) ze)))))))
   (zk (zC jP))
   zQ)
   (zk (zC (zo (jX rfl) rfl B.all boot_all (za (Zx [] [] rfl rfl (by kernel_rfl) (VI rfl B.zip (za (pv 0) (za (ja jI (pv 0) (qX zf) j4) ze))) (fun _ _ _ _=>qV) (fun _ _ _ _=>(qv XO (pv 0) (pv 1) (zE _)))) ze))))),?_⟩
  refine⟨_,rfl,_, "list", "list",rfl,.inl ⟨rfl,_,ha⟩,(by decide),_,rfl,ifF (by decide) ?_⟩
  refine⟨_,rfl,a,rfl,⟨_,ha⟩,jM (K:=K) (a:=a) (xs:=j.map V.int) (fun i l I=>l=List.replicate i (V.bl true)/\Same H I) ⟨rfl,uc _⟩ (fun i l I ⟨_,L⟩=>L.seq ha) ?_ ?_⟩
  ·rintro i x l I hx ⟨rfl,L⟩
   have hi:i<(j.map V.int).length:=(zZ.mp hx).1;rw[zx] at hi;rw[zX] at hx;obtain⟨z,ez,rfl⟩:=jb.mp hx;have bz:=hz z (qI ez);refine⟨rfl,_,rfl,_,rfl,_,_,rfl,rfl,z,0,u-1,rfl,bz.1,by omega,?_,?_,L⟩
   ·rw[xc];omega
   ·rw[Jk]
  rintro l I ⟨rfl,L⟩;refine⟨by rw[xc,zx];omega,fun D1 a0=>⟨D1,List.replicate (j.map V.int).length true,rfl,u9 (by rw[zd,Jh]),_,rfl,ifF (by rw[Zi];rfl) ?_⟩⟩
  have s2:=L.trans (zc (o:=.lst (List.replicate (j.map V.int).length (V.bl true))) a0);generalize upd I D1 (.lst (List.replicate (j.map V.int).length (V.bl true)))=H2 at s2;refine⟨_,rfl,_,rfl,_,rfl,a,_,rfl,s2.seq ha,fun t ht=>?_⟩
  have ec:qk (j.map V.int) (some 1) none=(j.map V.int).drop 1:=by
   unfold qk;rw[show(some (1:Int))=some ((1:Nat):Int) from rfl,HT.sIx_nat,HT.sIx_none]
   by_cases q:1<=(j.map V.int).length
   ·rw[yB q,Vr (by rw[wZ];exact zJ _)]
   ·have e0:(j.map V.int).length=0:=by omega
    rw[List.length_eq_zero_iff.mp e0];rfl
  rw[ec];have N:=s2.trans (zc (o:=.lst ((j.map V.int).drop 1)) ht);have O:upd H2 t (.lst ((j.map V.int).drop 1)) t=some (.lst ((j.map V.int).drop 1)):=zd;generalize upd H2 t (.lst ((j.map V.int).drop 1))=H3 at N O;refine⟨true,true,a,t,rfl,⟨_,N.seq ha⟩,⟨_,u9 O⟩,?_⟩
  refine zbm (K:=K) (k1:=true) (k2:=true) (xs:=j.map V.int) (ys:=(j.map V.int).drop 1) (fun i l M=>l=List.replicate i (V.bl true)/\Same H3 M) ⟨rfl,uc _⟩ (fun i l M ⟨_,G⟩=>⟨G.seq (N.seq ha),G.seq (u9 O)⟩) ?_ ?_
  ·rintro i x y l M T U e2 ⟨rfl,G⟩ hT
   have hi:i<(j.map V.int).length:=(zZ.mp U).1;rw[zx] at hi;rw[Jj,zX] at e2;rw[zX] at U;obtain⟨z1,Y,rfl⟩:=jb.mp U;obtain⟨z2,J,rfl⟩:=jb.mp e2;rw[ZW] at J;have lt:=ab i z1 z2 Y J;refine⟨T,_,rfl,ua zd,rfl,_,_,rfl,_,_,rfl,rfl,rfl,_,rfl,_,rfl,_,_,rfl,rfl,?_,?_,G.trans (zc hT)⟩
   ·rw[xc];omega
   ·show List.replicate i (V.bl true)++[V.bl (decide (z1<z2))]=_
    rw[zS lt,Jk]
  ·rintro l M ⟨rfl,G⟩
   refine⟨by rw[xc,zx];omega,fun D2 aa=>⟨D2,List.replicate (min (j.map V.int).length ((j.map V.int).drop 1).length) true,rfl,u9 (by rw[zd,Jh]),?_⟩⟩
   rw[Zi];exact k _ ((N.trans G).trans (zc aa))
end
def wN(l f:List Int)(g:Int)(i:Nat):List Nat:=(List.range f.length).filter fun j=>(zM l f g i j).isSome
def xV(f l:List Int)(g:Int)(i:Nat):List Int:=(wN f l g i).map fun j:Nat=>(j:Int)
section
variable{ls rs:List Int}{g:Int}
theorem ZD{i j:Nat}:j∈wN ls rs g i↔(zM ls rs g i j).isSome=true:=by
 unfold wN;rw[xk,wX];refine⟨fun h=>h.2,fun h=>⟨?_,h⟩⟩
 obtain⟨n,e⟩:=ye.mp h;exact(ZC (vJ e)).2
theorem wM{i:Nat}:(wN ls rs g i).length<=rs.length:=by
 have:=x6 (fun j=>(zM ls rs g i j).isSome) (List.range rs.length)
 rw[yU] at this;exact this
theorem zcv{i k x y:Nat}(l:(wN ls rs g i)[k]? =some x)(s:(wN ls rs g i)[k+1]? =some y):x<y:=by
 have hp:(wN ls rs g i).Pairwise (·< ·):=List.Pairwise.filter _ List.pairwise_lt_range
 obtain⟨u,f⟩:=zZ.mp l;obtain⟨w,j⟩:=zZ.mp s;have:=List.pairwise_iff_getElem.mp hp k (k+1) u w (vq _);rw[f,j] at this;exact this
end
def NRows(f j:List Int)(g:Int)(H:Hp)(l:List V):Prop:=∀(i:Nat) (x:V),l[i]? =some x->∃a,x=.ref a/\H a=some (.lst ((xV f j g i).map V.int))
theorem NRows.same{j l:List Int}{g:Int}{H f:Hp}{u:List V}(h:NRows j l g H u)(s:Same H f):NRows j l g f u:=fun i x e=>let ⟨a,w,A⟩:=h i x e;⟨a,w,s _ _ A⟩
section
variable{P:Program}{w:World}{K:W.Frag}{C:Str->Option Value}{u:Heap}
theorem ze6{f g:List Int}{H:Hp}{j:Addr}(l:f≠[])(s:g≠[])(h:H j=some (.tup [.int ((f.length:Int)-1),.int ((g.length:Int)-1)])):H j=some (.tup ((kyN (f.length-1) (g.length-1)).map kV)):=by
 have A:0<f.length:=je.mpr l;have B:0<g.length:=je.mpr s;rw[h];show some (HO.tup [.int ((f.length:Int)-1),.int ((g.length:Int)-1)])=some (.tup [.int ((f.length-1:Nat):Int),.int ((g.length-1:Nat):Int)]);rw[show((f.length-1:Nat):Int)=(f.length:Int)-1 by omega,show((g.length-1:Nat):Int)=(g.length:Int)-1 by omega]
inductive QF(K:W.Frag)(B:List V)(H:Hp)(Q:VK):Prop
 | mk (l r:Addr) (f j:List Int) (g:Int) (_:B=[.ref l,.ref r,.int g]) (_:SqL K H l (f.map V.int)) (_:SqL K H r (j.map V.int)) (_:f.length<=400) (_:j.length<=400) (_:f≠[]) (_:j≠[]) (_:(∀s,zM f j g (f.length-1) (j.length-1)≠none->Same H s->Q .non s)) (_:∀(q:Addr) (A:List V) s,zM f j g (f.length-1) (j.length-1)=none->Same H s->s q=some (.lst A)->A.length=f.length->NRows f j g s A->Q (.ref q) s):QF K B H Q
def WA(K:W.Frag):Sp:=fun f H Q _=>QF K f H Q
theorem WP:zI ["left","right","gap","reached"] ["left","right","gap"] (zv (topL 15)):=u7
def Yv(A:_)(B:_)(g:_)(i:_)(l:_):=fun(j:Nat) (f:List V) (s:Hp)=>(An2 (f=(((List.range j).filter fun j=>(zM A B g i j).isSome).map fun j:Nat=>V.int (j:Int))) (Same l s):Prop)
theorem za9{f:Addr}{fd:FuncData}(F:Fun K "never_moves" "never_moves" (topL 15) f fd)(B:Blt C)(G:Dfn P w K C u "all_reached" 3 ["left","right","gap"] (yh K))(L:Dfn P w K C u "ends_of" 1 ["left","right"] (yi K)):FnOk P w K C u CX0 4 f fd ["left","right","gap"] (WA K):=by
 have nd:=WP.nd;refine F.ok WP (fun vs H Q E h=>?_) (fun af A ab s H vs Q E hr h=>?_)
 ·obtain⟨l,r,J,I,g,rfl,_⟩:=h
  rfl
 ·obtain⟨l,r,J,I,g,rfl,hl,O,bl,br,nl,nr,k0,k1⟩:=h
  have a0:=QV hr;have ae:=bG1000000;have N:=bGe;have ml:(J.map V.int).length=J.length:=zx ..;have mr:(I.map V.int).length=I.length:=zx ..;refine⟨_,(zg (zF (i:=3) nd rfl (Or.inr rfl) (zn G hr.m rfl (za (pv 0) (za (pv 1) (za (pv 2) ze)))))
   (zg (qH (wu (vE a0 (zn L hr.m rfl (za (pv 0) (za (pv 1) ze))) (pv 3)))
   (zk (zC xx))
   zQ)
   (zk (zC (zdH ["reached","right"] [3,1] rfl rfl (by kernel_rfl) (qU rfl B.range (za (zo zA rfl B.len boot_len (za (pv 0) ze)) ze)) (fun _ _ _ _=>qV) (fun _ _ _ _=>(vD ["reached","i"] [1,0] rfl rfl (by kernel_rfl) (qU rfl B.range (za (zo (j5 (K:=K) rfl) rfl B.len boot_len (za (pv 2) ze)) ze)) (fun _ _ _ _=>(vC (wu (vE a0 (zN (za (pv 2) (za (pv 0) ze))) (pv 1))))) (fun _ _ _ _=>(pv 0))))))))),?_⟩
  refine⟨_,rfl,_,rfl,_,rfl,l,r,J,I,g,rfl,hl,O,bl,br,nl,nr,fun d ah H1 hd s1 D1 ks vo=>?_⟩
  refine⟨_,rfl,_,rfl,l,r,J,I,rfl,s1.seq hl,s1.seq O,fun pe H2 aa s2=>?_⟩
  have s3:=s1.trans s2;have D2:=s2 _ _ D1;refine⟨_,rfl,d,_,rfl,ui D2 (ze6 nl nr aa),_,rfl,?_⟩
  rw[ks];cases ec:zM J I g (J.length-1) (I.length-1) with
  | some n=>exact ifT rfl (k0 H2 (by rw[ec];simp) s3)
  | none=>
   refine ifF rfl ?_
   refine⟨_,rfl,l,_,rfl,.inl (s3.seq hl),_,rfl,(by rw[N];omega),(by rw[N];omega),?_⟩
   refine ZG (fun i T U=>T.length=i/\Same H2 U/\NRows J I g U T) ⟨rfl,uc _,fun i x e=>(by simp at e)⟩ ?_ ?_
   ·rintro i T U hi ⟨zl,s4,M⟩
    have ag:i<J.length:=by omega
    refine⟨rfl,_,rfl,r,_,rfl,.inl (s4.seq (s3.seq O)),_,rfl,(by rw[N];omega),(by rw[N];omega),?_⟩
    refine ZG (Yv J I g i U) ⟨rfl,uc _⟩ ?_ ?_
    ·rintro j ac H4 hj ⟨rfl,s5⟩
     rw[JZ,JZ];refine⟨rfl,_,rfl,_,rfl,le2,fun t ht=>?_⟩
     have s6:=s5.trans (zc (o:=.tup [.int (i:Int),.int (j:Int)]) ht);have T6:upd H4 t (.tup [.int (i:Int),.int (j:Int)]) t=some (.tup ((kyN i j).map kV)):=zd;generalize upd H4 t (.tup [.int (i:Int),.int (j:Int)])=H5 at s6 T6;refine⟨_,rfl,d,_,rfl,ui (s6 _ _ (s4 _ _ D2)) T6,_,rfl,?_⟩
     rw[ks i j];have er:(List.range (j+1)).filter (fun j=>(zM J I g i j).isSome)=(List.range j).filter (fun j=>(zM J I g i j).isSome)++(if(zM J I g i j).isSome=true then [j] else []):=by
      rw[VY,yb,xI];rfl
     cases q:(zM J I g i j).isSome with
     | true=>
      refine ifT rfl ⟨_,rfl,?_,?_,s6⟩
      ·have:=x6 (fun j=>(zM J I g i j).isSome) (List.range j)
       rw[yU] at this;rw[zx];omega
      ·rw[er,q,zw rfl,zY];rfl
     | false=>
      refine ifF rfl ⟨?_,s6⟩
      rw[er,q,zq qx,xj]
    rintro ac H4 ⟨rfl,s5⟩;have eR:((I.map V.int).length:Int).toNat=I.length:=by omega
    rw[eR];have Y:(((List.range I.length).filter fun j=>(zM J I g i j).isSome).map fun j:Nat=>V.int (j:Int))=(xV J I g i).map V.int:=by
     unfold xV wN;rw[ZV];rfl
    rw[Y];have rl:((xV J I g i).map V.int).length<=I.length:=by
     unfold xV;rw[zx,zx];exact wM
    refine⟨by omega,fun D hD=>⟨by omega,by rw[qG,zl];rfl,(s4.trans s5).trans (zc hD),fun k x e=>?_⟩⟩
    by_cases z:k<T.length
    ·rw[yf z] at e
     obtain⟨a,e1,e2⟩:=M k x e;exact⟨a,e1,(s5.trans (zc hD)) _ _ e2⟩
    ·rw[wp (by omega)] at e
     have hq:k-T.length=0:=by
      have:=(zZ.mp e).1;simpa using this
     rw[hq] at e;cases e;exact⟨D,rfl,by rw[zd,show k=i by omega]⟩
   ·rintro T U ⟨zl,s4,M⟩
    have eL:((J.map V.int).length:Int).toNat=J.length:=by omega
    rw[eL] at zl;exact⟨by omega,fun D hD=>k1 D T _ ec ((s3.trans s4).trans (zc hD)) zd zl (M.same (zc hD))⟩
def TB(f:List (List Key×V))(S:Nat->Nat->Prop):Prop:=(∀a b,(qE f (kyN a b)).isSome=true↔S a b)/\∀k∈f.map (·.1),∃a b,k=kyN a b
theorem TB.congr{f:List (List Key×V)}{S T:Nat->Nat->Prop}(h:TB f S)(e:∀a b,S a b↔T a b):TB f T:=⟨fun a b=>(h.1 a b).trans (e a b),h.2⟩
theorem TB.put{kvs:List (List Key×V)}{S T:Nat->Nat->Prop}{i j:Nat}{v:V}(h:TB kvs S)(e:∀a b,(S a b\/(a=i/\b=j))↔T a b):TB (jy kvs (kyN i j) v) T:=by
 refine⟨fun a b=>?_,fun k hk=>?_⟩
 ·rw[xu,<- e a b]
  by_cases q:kyN a b=kyN i j
  ·rw[zw q]
   exact⟨fun _=>.inr (ZJ.mp q),fun _=>rfl⟩
  ·rw[zq q,h.1 a b]
   exact⟨.inl,fun z=>z.elim id fun z=>absurd (ZJ.mpr z) q⟩
 ·have:(qE (jy kvs (kyN i j) v) k).isSome=true:=vz.mpr hk
  rw[xu] at this;by_cases q:k=kyN i j
  ·exact⟨i,j,q⟩
  ·rw[zq q] at this
   exact h.2 k (vz.mp this)
theorem TB.get{f:List (List Key×V)}{S:Nat->Nat->Prop}(h:TB f S){i:Nat}{k:List Key}{v:V}(e:f[i]? =some (k,v)):∃a b,k=kyN a b/\S a b:=by
 have hm:k∈f.map (·.1):=jS.mpr ⟨(k,v),qI e,rfl⟩
 obtain⟨a,b,rfl⟩:=h.2 k hm;exact⟨a,b,rfl,(h.1 a b).mp (vz.mpr hm)⟩
inductive Ww(K:W.Frag)(B:List V)(H:Hp)(Q:VK):Prop
 | mk (l r q:Addr) (f j:List Int) (g:Int) (s:List V) (_:B=[.ref l,.ref r,.int g,.ref q]) (_:SqL K H l (f.map V.int)) (_:SqL K H r (j.map V.int)) (_:f.length<=400) (_:j.length<=400) (_:f≠[]) (_:j≠[]) (_:zM f j g (f.length-1) (j.length-1)=none) (_:H q=some (.lst s)) (_:s.length=f.length) (_:NRows f j g H s) (_:∀A,Same H A->Q (.bl true) A):Ww K B H Q
def zcV(K:W.Frag):Sp:=fun f H Q _=>Ww K f H Q
theorem zc2:zI ["left","right","gap","thing","told"] ["left","right","gap","thing"] (zv (topL 17)):=u7
def Yu(H:_)(D:_)(l:_)(s:_)(g:_):=fun(i:Nat) (j:Hp)=>(Ex1 fun f=>An4 (Same H j) (j D=some (.dT f)) (TB f (fun a b=>a<i/\b∈wN l s g a)) (f.length<=400*i):Prop)
def Yt(H:_)(D:_)(i:_)(l:_)(s:_)(g:_):=fun(m:Nat) (j:Hp)=>(Ex1 fun f=>An4 (Same H j) (j D=some (.dT f)) (TB f (fun a b=>(a<i/\b∈wN l s g a)\/(a=i/\b∈(wN l s g i).take m))) (f.length<=400*i+m):Prop)
theorem zdS{f:Addr}{fd:FuncData}(F:Fun K "shows_never" "shows_never" (topL 17) f fd)(B:Blt C)(I:Dfn P w K C u "is_rising_below" 3 ["thing","many"] (zaB K))(U:Dfn P w K C u "ends_of" 1 ["left","right"] (yi K))(M:Dfn P w K C u "is_too_near" 1 ["left","right","gap","at"] (Zn K))(N:Dfn P w K C u "moves_at" 2 ["left","right","gap","at"] (Zd K)):FnOk P w K C u CX0 4 f fd ["left","right","gap","thing"] (zcV K):=by
 have nd:=zc2.nd;refine F.ok zc2 (fun vs H Q E h=>?_) (fun az A ax s H vs Q E hr h=>?_)
 ·obtain⟨l,r,q,J,L,g,Y,rfl,_⟩:=h
  rfl
 ·obtain⟨l,r,q,J,L,g,Y,rfl,hl,aa,bl,br,nl,nr,ec,hq,ul,ac,k⟩:=h
  have ae:=QV hr;have hu:=hr.units0;have ay:=bG1000000;have ll:0<J.length:=je.mpr nl;have lr:0<L.length:=je.mpr nr;have ml:(J.map V.int).length=J.length:=zx ..;have mr:(L.map V.int).length=L.length:=zx ..;refine⟨_,(zg (qH (uf (vZ (xL (jJ (zo xY rfl B.isinstance boot_isinstance (za (pv 3) (za (vQ (v:=.ty "list") rfl B.list xt rfl) ze))))) (vb (zG zdc (zo zA rfl B.len boot_len (za (pv 3) ze)) (zo zA rfl B.len boot_len (za (pv 0) ze)) (zE _)))))
   (zk (zC jP))
   zQ)
   (zg (qH (xL (jJ (zo (jX rfl) rfl B.all boot_all (za (vD ["right"] [1] rfl rfl (by kernel_rfl) (qz (pv 3)) (fun _ _ _ _=>qV) (fun _ _ _ _=>(zn I hr.m rfl (za (pv 0) (za (zo (j5 (K:=K) rfl) rfl B.len boot_len (za (pv 1) ze)) ze))))) ze))))
   (zk (zC jP))
   zQ)
   (zg (zF (i:=4) nd rfl (Or.inr rfl) (zce [] [] hu rfl rfl (by kernel_rfl) (Zf rfl B.enumerate (za (pv 3) ze)) (fun _ _ _ _=>qV) (fun _ _ _ _=>(Zw (K:=K) rfl (pv 1))) (fun _ _ _ _=>qV) (fun _ _ _ _=>(zN (za (pv 0) (za (pv 2) ze)))) (fun _ _ _ _=>jP)))
   (zg (qH (wu (vE ae (zn U hr.m rfl (za (pv 0) (za (pv 1) ze))) (pv 4)))
   (zk (zC jP))
   zQ)
   (zg (vd (qH (uf (vc (wu (yn ae (zN (za zf (za zf ze))) (pv 4))) (xH (xL (jJ (zn M hr.m rfl (za (pv 0) (za (pv 1) (za (pv 2) (za (zN (za zf (za zf ze))) ze))))))))))
   (zk (zC jP))
   zQ))
   (zk (zC (zo (jX rfl) rfl B.all boot_all (za (zcb ["told","left","right","gap"] [4,0,1,2] rfl rfl (by kernel_rfl) (zca (pv 4)) (fun _ _ _ _=>qV) (fun _ _ _ _=>(Zw (K:=K) rfl (zn N hr.m rfl (za (pv 4) (za (pv 5) (za (pv 6) (za (pv 0) ze))))))) (fun _ _ _ _=>qV) (fun _ _ _ _=>(Jy (vE ae (pv 2) (pv 3))))) ze))))))))),?_⟩
  refine⟨_,rfl,_, "list", "list",rfl,.inl ⟨rfl,Y,u9 hq⟩,(by decide),_,rfl,ifF (by decide) ?_⟩
  refine⟨_,rfl,q,Y,rfl,.inl (u9 hq),_,rfl,l,_,rfl,.inl hl,rfl,_,rfl,ifF (by rw[ul,ml];simp) ?_⟩
  refine⟨_,rfl,q,rfl,⟨_,u9 hq⟩,jM (K:=K) (a:=q) (xs:=Y) (fun i zs H1=>zs=List.replicate i (V.bl true)/\Same H H1) ⟨rfl,uc _⟩ (fun i zs H1 ⟨_,s1⟩=>u9 (s1 _ _ hq)) ?_ ?_⟩
  ·rintro i x zs H1 hx ⟨rfl,s1⟩
   obtain⟨a,rfl,ha⟩:=ac i x hx;have hi:i<Y.length:=(zZ.mp hx).1;refine⟨rfl,_,rfl,_,rfl,r,_,rfl,.inl (s1.seq aa),a,xV J L g i,_,rfl,u9 (s1 _ _ ha),?_,fun z hz=>?_,fun k x y e1 e2=>?_,fun H2 s2=>⟨?_,?_,s1.trans s2⟩⟩
   ·unfold xV
    rw[zx];have:=wM (ls:=J) (rs:=L) (g:=g) (i:=i);omega
   ·unfold xV at hz
    obtain⟨j,hj,rfl⟩:=jS.mp hz;obtain⟨n,e⟩:=ye.mp (ZD.mp hj);have:=(ZC (vJ e)).2;omega
   ·unfold xV at e1 e2
    rw[zX] at e1 e2;obtain⟨x',ex,rfl⟩:=jb.mp e1;obtain⟨y',ey,rfl⟩:=jb.mp e2;have:=zcv ex ey;omega
   ·rw[xc];omega
   ·rw[Jk]
  rintro zs H1 ⟨rfl,s1⟩;refine⟨by rw[xc];omega,fun D1 aj=>⟨D1,List.replicate Y.length true,rfl,u9 (by rw[zd,Jh]),_,rfl,ifF (by rw[Zi];rfl) ?_⟩⟩
  have s2:=s1.trans (zc (o:=.lst (List.replicate Y.length (V.bl true))) aj);generalize upd H1 D1 (.lst (List.replicate Y.length (V.bl true)))=H2 at s2;clear s1 aj H1 D1;have Q2:=s2 _ _ hq;refine⟨_,rfl,q,rfl,⟨_,u9 Q2⟩,fun D hD=>?_⟩
  have ak:H D=none:=s2.free hD;have bc:∀{x:Addr} {xs:List V} {H':Hp} {G:List (List Key×V)},H' x=some (.lst xs)->H' D=some (.dT G)->x≠D:=fun h1 h2=>xW h1 h2 (fun z=>nomatch z)
  refine zby (K:=K) (a:=q) (xs:=Y) (Yu H D J L g) ⟨[],?_,zd,⟨fun a b=>⟨fun z=>(by cases z),fun z=>absurd z.1 (Nat.not_lt_zero _)⟩,fun k hk=>(by cases hk)⟩,zJ _⟩ (fun i H3 ⟨_,s3,_,_,_⟩=>u9 (s3 _ _ hq)) ?_ ?_
  ·exact s2.trans (zc hD)
  ·rintro i x H3 T hx ⟨G,s3,D3,tb,kl⟩ hT
   obtain⟨a,rfl,ha⟩:=ac i x hx;have hi:i<Y.length:=(zZ.mp hx).1;have s4:=s3.trans (zc (o:=.tup [.int (i:Int),.ref a]) hT);have D4:=(zc (o:=.tup [.int (i:Int),.ref a]) hT) _ _ D3;refine⟨T,_,rfl,ua zd,rfl,_,_,rfl,_,_,rfl,rfl,rfl,?_⟩
   generalize upd H3 T (.tup [.int (i:Int),.ref a])=H4 at s4 D4;refine⟨_,rfl,a,rfl,⟨_,u9 (s4 _ _ ha)⟩,zcH (K:=K) (a:=a) (xs:=(xV J L g i).map V.int) (Yt H D i J L g) ⟨G,s4,D4,tb.congr fun a b=>?_,kl⟩ (fun m H5 ⟨_,s5,_,_,_⟩=>u9 (s5 _ _ ha)) ?_ ?_⟩
   ·rw[List.take_zero]
    exact⟨.inl,fun z=>z.elim id fun z=>by cases z.2⟩
   ·rintro m y H5 hy ⟨G,s5,D5,tb,kl⟩
    unfold xV at hy;rw[ZV,zX] at hy;obtain⟨j,ej,aw⟩:=jb.mp hy;obtain rfl:V.int (j:Int)=y:=aw;have hm:m<(wN J L g i).length:=(zZ.mp ej).1;have au:=wM (ls:=J) (rs:=L) (g:=g) (i:=i);refine⟨⟨rfl,rfl,trivial⟩,_,rfl,_,rfl,le2,fun t ht=>?_⟩
    have s6:=s5.trans (zc (o:=.tup [.int (i:Int),.int (j:Int)]) ht);have D6:=(zc (o:=.tup [.int (i:Int),.int (j:Int)]) ht) _ _ D5;have T6:upd H5 t (.tup [.int (i:Int),.int (j:Int)]) t=some (.tup ((kyN i j).map kV)):=zd;generalize upd H5 t (.tup [.int (i:Int),.int (j:Int)])=H6 at s6 D6 T6;refine⟨_,DPutT.t D6 T6 (by omega),_,fun c0 u0 e0=>?_,zd,tb.put fun a b=>?_,?_⟩
    ·rw[zm (zi e0 ak)];exact s6 c0 u0 e0
    ·rw[qe ej,qC,qu]
     refine⟨fun z=>?_,fun z=>?_⟩
     ·rcases z with(z | z) | z
      ·exact .inl z
      ·exact .inr ⟨z.1,.inl z.2⟩
      ·exact .inr ⟨z.1,.inr z.2⟩
     ·rcases z with z | ⟨z1,z2 | z2⟩
      ·exact .inl (.inl z)
      ·exact .inl (.inr ⟨z1,z2⟩)
      ·exact .inr ⟨z1,z2⟩
    ·have:=j8 G (kyN i j) (.bl true)
     omega
   ·rintro H5 ⟨G,s5,D5,tb,kl⟩
    have el:((xV J L g i).map V.int).length=(wN J L g i).length:=by unfold xV;rw[zx,zx]
    rw[el] at tb kl;have au:=wM (ls:=J) (rs:=L) (g:=g) (i:=i);refine⟨G,s5,D5,tb.congr fun a b=>?_,by omega⟩
    rw[jO];refine⟨fun z=>z.elim (fun z=>⟨by omega,z.2⟩) (fun z=>⟨by omega,by rw[z.1];exact z.2⟩),fun z=>?_⟩
    by_cases e:a=i
    ·exact .inr ⟨e,by rw[<- e];exact z.2⟩
    ·exact .inl ⟨by omega,z.2⟩
  ·rintro H3 ⟨G,s3,D3,tb,kl⟩
   have af:∀a b,(qE G (kyN a b)).isSome=(zM J L g a b).isSome:=fun a b=>by
    rw[yS,tb.1 a b];show(a<Y.length/\b∈wN J L g a)↔_;rw[ZD];refine⟨fun z=>z.2,fun z=>⟨?_,z⟩⟩
    obtain⟨n,e⟩:=ye.mp z;rw[ul];exact(ZC (vJ e)).1
   refine⟨_,rfl,_,rfl,l,r,J,L,rfl,s3.seq hl,s3.seq aa,fun pe H4 av s4=>?_⟩
   have s5:=s3.trans s4;have D5:=s4 _ _ D3;refine⟨_,rfl,D,_,rfl,ui D5 (ze6 nl nr av),_,rfl,?_⟩
   rw[af,ec];refine ifF rfl ?_
   refine⟨fun σ' H'=>σ'=[some (.ref l),some (.ref r),some (.int g),some (.ref q),some (.ref D)]/\Same H4 H',?_,?_⟩
   ·refine⟨le2,fun t ht=>?_⟩
    have S6:=zc (o:=.tup [.int 0,.int 0]) ht;have T6:upd H4 t (.tup [.int 0,.int 0]) t=some (.tup ((kyN 0 0).map kV)):=zd;generalize upd H4 t (.tup [.int 0,.int 0])=H6 at S6 T6;refine⟨_,rfl,D,_,rfl,ui (S6 _ _ D5) T6,_,rfl,?_⟩
    rw[af];cases e0:okN J L g 0 0 with
    | true=>
     rw[wA e0];exact ifF rfl (ifF rfl ⟨rfl,S6⟩)
    | false=>
     rw[VT e0];have en:jD J L g 0 0=true:=by
      unfold okN at e0;rw[zS ll,zS lr] at e0;simpa using e0
     refine ifT rfl ?_
     refine⟨_,rfl,_,rfl,_,rfl,le2,fun p hp=>?_⟩
     have S7:=S6.trans (zc (o:=.tup [.int 0,.int 0]) hp);refine⟨l,r,p,J,L,g,0,0,_,_,rfl,S7.seq (s5.seq hl),S7.seq (s5.seq aa),ua zd,jB (i:=0) ll,jB (i:=0) lr,_,rfl,ifF (by rw[show decide (J.getD 0 0+g>L.getD 0 0)=true from en];rfl) ⟨rfl,S7⟩⟩
   rintro σ' H6 ⟨rfl,S6⟩;have s7:=s5.trans S6;have D7:=S6 _ _ D5;refine⟨_,rfl,D,G,rfl,D7,fun o=>?_⟩
   have s8:Same H (upd H6 D (.frz o (.dT G))):=fun c0 u0 e0=>by
    rw[zm (zi e0 ak)];exact s7 c0 u0 e0
   have D8:upd H6 D (.frz o (.dT G)) D=some (.frz o (.dT G)):=zd;generalize upd H6 D (.frz o (.dT G))=H8 at s8 D8;refine zbq (d:=D) (o:=o) (kvs:=G) (fun i zs H9=>∃m,zs=List.replicate m (V.bl true)/\m<=3*i/\Same H8 H9) ⟨0,rfl,zJ _,uc _⟩ (fun i zs H9 ⟨_,_,_,s9⟩=>s9 _ _ D8) ?_ ?_
   ·rintro i b kk v zs H9 hk hb ⟨m,rfl,hm,s9⟩
    have hi:i<G.length:=(zZ.mp hk).1;obtain⟨a,c,rfl,_,hS⟩:=tb.get hk;obtain⟨n,cn⟩:=ye.mp (ZD.mp hS);have am:=s8.trans s9;refine⟨rfl,?_⟩
    refine⟨_,rfl,_,rfl,_,rfl,_,rfl,l,r,b,J,L,g,a,c,rfl,am.seq hl,am.seq aa,ua hb,fun mq mu ao ba ai ah ag=>⟨mq,rfl,⟨_,u9 ah⟩,?_⟩⟩
    have bb:=vn ag;have l3:(zU J L g a c).length<=3:=by
     unfold zU Ju;refine jm (x6 _ _) ?_
     rw[zx,jq];omega
    refine Yd (K:=K) (a:=mq) (xs:=mu) (fun j ab a0=>ab=List.replicate (m+j) (V.bl true)/\Same ao a0) ⟨rfl,uc _⟩ (fun j ab a0 ⟨_,O⟩=>u9 (O _ _ ah)) ?_ ?_
    ·rintro j x ab a0 hx ⟨rfl,O⟩
     have hj:j<mu.length:=(zZ.mp hx).1;obtain⟨mv,ar,c1,u1,rfl,an,ap⟩:=ve (MvsAt.keep (ug O) ag) hx;obtain⟨wd,a',b'⟩:=mv;have al:(wd,a',b')∈zU J L g a c:=qI ar;obtain⟨n',_,aq⟩:=ZO al cn;refine⟨c1,_,rfl,ua an,rfl,_,_,rfl,_,_,rfl,rfl,⟨rfl,rfl,rfl,rfl,rfl,trivial⟩,?_⟩
     refine⟨_,rfl,_,rfl,D,_,rfl,.inr ⟨G,kyN a' b',u1,.inr ⟨o,O _ _ (ai _ _ (s9 _ _ D8))⟩,rfl,ap,rfl⟩,?_,?_,O⟩
     ·rw[xc]
      have:G.length<=160000:=by
       have:=Nat.mul_le_mul_left 400 (show Y.length<=400 by omega)
       omega
      omega
     ·rw[af,aq,<- Nat.add_assoc,Jk];rfl
    ·rintro ab a0 ⟨rfl,O⟩
     exact⟨m+mu.length,rfl,by omega,(s9.trans ai).trans O⟩
   ·rintro zs H9 ⟨m,rfl,hm,s9⟩
    have b0:G.length<=160000:=by
     have:=Nat.mul_le_mul_left 400 (show Y.length<=400 by omega)
     omega
    refine⟨by rw[xc];omega,fun D2 as=>⟨D2,List.replicate m true,rfl,u9 (by rw[zd,Jh]),?_⟩⟩
    rw[Zi];exact k _ ((s8.trans s9).trans (zc as))
def qm(f l:List Int)(g:Int)(i j:Nat):Bool:=
 if h:i<f.length/\j<l.length then
  !jD f l g i j&&((qm f l g (i+1) (j+1)||(qm f l g (i+1) j||qm f l g i (j+1)))||(decide (i+1=f.length)&&decide (j+1=l.length)))
 else false
 termination_by (f.length-i)+(l.length-j)
 decreasing_by all_goals omega
theorem JU{f l:List Int}{g:Int}{i j:Nat}(s:i<f.length)(A:j<l.length):qm f l g i j=(!jD f l g i j&&((qm f l g (i+1) (j+1)||(qm f l g (i+1) j||qm f l g i (j+1)))||(decide (i+1=f.length)&&decide (j+1=l.length)))):=by
 rw[qm,dif_pos ⟨s,A⟩]
theorem ZS{f l:List Int}{g:Int}{i j:Nat}(h:¬(i<f.length/\j<l.length)):qm f l g i j=false:=by
 rw[qm,dif_neg h]
def TabN(l s:List Int)(g:Int)(i j:Nat)(f:List (List Key×V)):Prop:=∀a b:Nat,(qE f (kyN a b)).isSome=(decide (i<a\/(a=i/\j<=b))&&qm l s g a b)
theorem TabN.at{l s:List Int}{g:Int}{i j:Nat}{f:List (List Key×V)}(h:TabN l s g i j f){a b:Nat}(c:i<a\/(a=i/\j<=b)):(qE f (kyN a b)).isSome=qm l s g a b:=by
 rw[h a b,zS c,J5]
theorem TabN.skip{l s:List Int}{g:Int}{i j:Nat}{f:List (List Key×V)}(h:TabN l s g i (j+1) f)(e:qm l s g i j=false):TabN l s g i j f:=fun a b=>by
 rw[h a b];by_cases q:a=i/\b=j
 ·obtain⟨rfl,rfl⟩:=q
  rw[e,vp,vp]
 ·congr 1
  refine yT.mpr ?_
  omega
theorem TabN.put{f l:List Int}{g:Int}{i j:Nat}{kvs:List (List Key×V)}(h:TabN f l g i (j+1) kvs)(e:qm f l g i j=true):TabN f l g i j (jy kvs (kyN i j) (.bl true)):=fun a b=>by
 rw[xu];by_cases q:kyN a b=kyN i j
 ·obtain⟨rfl,rfl⟩:=ZJ.mp q
  rw[zw rfl,e,zS (Or.inr ⟨rfl,zJ _⟩)];rfl
 ·rw[zq q,h a b]
  have s:¬(a=i/\b=j):=fun z=>q (ZJ.mpr z)
  congr 1
  refine yT.mpr ?_
  omega
theorem TabN.next{l j:List Int}{g:Int}{i:Nat}{f:List (List Key×V)}(h:TabN l j g (i+1) 0 f):TabN l j g i j.length f:=fun a b=>by
 rw[h a b];by_cases q:b<j.length
 ·congr 1
  refine yT.mpr ?_
  omega
 ·rw[ZS (fun z=>q z.2),vp,vp]
inductive XC(K:W.Frag)(B:List V)(H:Hp)(Q:VK):Prop
 | mk (l r:Addr) (j s:List Int) (g:Int) (_:B=[.ref l,.ref r,.int g]) (_:SqL K H l (j.map V.int)) (_:SqL K H r (s.map V.int)) (_:j.length<=400) (_:s.length<=400) (_:j≠[]) (_:s≠[]) (_:∀(d:Addr) (f:List (List Key×V)) A,H d=none->Same H A->A d=some (.dT f)->(∀a b:Nat,(qE f (kyN a b)).isSome=qm j s g a b)->Q (.ref d) A):XC K B H Q
def zaI(K:W.Frag):Sp:=fun f H Q _=>XC K f H Q
theorem zaT:zI ["_law_left","_law_right_here","_law_gap","_law_found","_law_i","_law_j","_law_some"] ["_law_left","_law_right_here","_law_gap"] (zv (topL 36)):=u7
def YN(l:_)(r:_)(g:_)(d:_)(H:_)(s:_)(A:_):=fun(i:Nat) (σ:St) (j:Hp)=>(Ex4 fun B D E f=>An5 (σ=[some (.ref l),some (.ref r),some (.int g),some (.ref d),B,D,E]) (Same H j) (j d=some (.dT f)) (f.length<=400*i) (TabN s A g (s.length-i) 0 f):Prop)
def YM(l:_)(r:_)(g:_)(d:_)(A:Nat)(H:_)(i:_)(D:_)(B:_):=fun(j:Nat) (σ:St) (s:Hp)=>(Ex3 fun E G f=>An5 (σ=[some (.ref l),some (.ref r),some (.int g),some (.ref d),some (.int (A:Int)),E,G]) (Same H s) (s d=some (.dT f)) (f.length<=400*i+j) (TabN D B g A (B.length-j) f):Prop)
theorem zct{f:Addr}{fd:FuncData}(F:Fun K "_law_back_open" "_law_back_open" (topL 36) f fd)(B:Blt C):FnOk P w K C u CX0 1 f fd ["_law_left","_law_right_here","_law_gap"] (zaI K):=by
 have nd:=zaT.nd;refine F.ok zaT (fun vs H Q E h=>?_) (fun al A ai s H vs Q E hr h=>?_)
 ·obtain⟨l,r,L,I,g,rfl,_⟩:=h
  rfl
 ·obtain⟨l,r,L,I,g,rfl,hl,aa,bl,br,nl,nr,k⟩:=h
  have a0:=QV hr;have ak:=bG1000000;have M:=bGe;have ll:0<L.length:=je.mpr nl;have lr:0<I.length:=je.mpr nr;have ml:(L.map V.int).length=L.length:=zx ..;have mr:(I.map V.int).length=I.length:=zx ..;refine⟨_,(zg (zF (i:=3) nd rfl (Or.inl rfl) Zz)
   (zg (qJ jc rfl (QP rfl B.range (za (zr jk (zo zA rfl B.len boot_len (za (pv 0) ze)) zf) (za (wJ x8 zf) (za (wJ x8 zf) ze)))) (zp (i:=4) nd rfl (Or.inl rfl))
   (zk (qJ jc rfl (QP rfl B.range (za (zr jk (zo zA rfl B.len boot_len (za (pv 1) ze)) zf) (za (wJ x8 zf) (za (wJ x8 zf) ze)))) (zp (i:=5) nd rfl (Or.inl rfl))
    (zg (zF (i:=6) nd rfl (Or.inl rfl) (zT (za (Jy (vE a0 (zN (za (zr zD (pv 4) zf) (za (zr zD (pv 5) zf) ze))) (pv 3))) (za (Jy (vE a0 (zN (za (zr zD (pv 4) zf) (za (pv 5) ze))) (pv 3))) (za (Jy (vE a0 (zN (za (pv 4) (za (zr zD (pv 5) zf) ze))) (pv 3))) ze)))))
     (zk (qH (uf (vc (zG yK (zr zD (zy zH (pv 0) (pv 4) (fun _ _=>rfl)) (pv 2)) (zy zH (pv 1) (pv 5) (fun _ _=>rfl)) (zE _)) (xH (uf (vZ (jJ (zo (Jb rfl) rfl B.any Vn (za (pv 6) ze))) (vb (uf (vc (zG v1 (zr zD (pv 4) zf) (zo zA rfl B.len boot_len (za (pv 0) ze)) (zE _)) (xH (zG v1 (zr zD (pv 5) zf) (zo zA rfl B.len boot_len (za (pv 1) ze)) (zE _)))))))))))
     (zk (W3 a0 (pv 3) (zN (za (pv 4) (za (pv 5) ze))) jP rfl))
     zQ))))))
   (zk (zC (pv 3))))),?_⟩
  refine fun d hd=>?_
  have S0:Same H (upd H d (.dT [])):=zc hd;have D0:upd H d (.dT []) d=some (.dT []):=zd;generalize upd H d (.dT [])=H0 at S0 D0;refine⟨_,rfl,l,_,rfl,.inl (S0.seq hl),_,_,rfl,rfl,_,rfl,_,rfl,_,_,rfl,⟨by rw[M];omega,by rw[M];omega,by rw[M];omega,by rw[M];omega⟩,?_⟩
  have eN:(((L.map V.int).length:Int)-1- -1).toNat=L.length:=by omega
  have eM:(((I.map V.int).length:Int)-1- -1).toNat=I.length:=by omega
  refine Vb (YN l r g d H L I) ⟨_,_,_,[],rfl,S0,D0,qQ _,fun a b=>?_⟩ ?_ ?_
  ·show false=_
   by_cases q:a<L.length
   ·rw[jG (by omega),yA]
   ·rw[ZS (fun z=>q z.1),vp]
  ·rintro i σ H1 hi ⟨v4,v5,v6,J,rfl,S1,D1,kl,Y⟩
   rw[eN] at hi;obtain⟨D,an⟩:∃D,D=L.length-1-i:=⟨_,rfl⟩;have er:((L.map V.int).length:Int)-1-(i:Int)=(D:Int):=by omega
   have ae:D<L.length:=by omega
   rw[er];have aj:TabN L I g D I.length J:=TabN.next (by rw[show D+1=L.length-i by omega];exact Y)
   refine⟨_,rfl,r,_,rfl,.inl (S1.seq aa),_,_,rfl,rfl,_,rfl,_,rfl,_,_,rfl,⟨by rw[M];omega,by rw[M];omega,by rw[M];omega,by rw[M];omega⟩,?_⟩
   refine Vb (YM l r g d D H i L I) ⟨_,_,J,rfl,S1,D1,by omega,by rw[Nat.sub_zero];exact aj⟩ ?_ ?_
   ·rintro j σ H2 hj ⟨v5,v6,J,rfl,S2,D2,kl,Y⟩
    rw[eM] at hj;obtain⟨G,am⟩:∃G,G=I.length-1-j:=⟨_,rfl⟩;have ec:((I.map V.int).length:Int)-1-(j:Int)=(G:Int):=by omega
    have ac:G<I.length:=by omega
    rw[ec];have T:TabN L I g D (G+1) J:=by rw[show G+1=I.length-j by omega];exact Y
    have U:=JU (g:=g) ae ac;have g1:=T.at (a:=D+1) (b:=G+1) (.inl (vq _));have g2:=T.at (a:=D+1) (b:=G) (.inl (vq _));have g3:=T.at (a:=D) (b:=G+1) (.inr ⟨rfl,zJ _⟩);refine⟨_,rfl,_,_,rfl,rfl,_,rfl,_,_,rfl,rfl,le2,fun t1 h1=>?_⟩
    have S3:=S2.trans (zc (o:=.tup [.int ((D:Int)+1),.int ((G:Int)+1)]) h1);have D3:=(zc (o:=.tup [.int ((D:Int)+1),.int ((G:Int)+1)]) h1) _ _ D2;have T3:upd H2 t1 (.tup [.int ((D:Int)+1),.int ((G:Int)+1)]) t1=some (.tup ((kyN (D+1) (G+1)).map kV)):=zd;generalize upd H2 t1 (.tup [.int ((D:Int)+1),.int ((G:Int)+1)])=H3 at S3 D3 T3;refine⟨_,rfl,d,_,rfl,ui D3 T3,?_⟩
    rw[g1];refine⟨_,rfl,_,_,rfl,rfl,_,rfl,le2,fun t2 h2=>?_⟩
    have S4:=S3.trans (zc (o:=.tup [.int ((D:Int)+1),.int (G:Int)]) h2);have D4:=(zc (o:=.tup [.int ((D:Int)+1),.int (G:Int)]) h2) _ _ D3;have T4:upd H3 t2 (.tup [.int ((D:Int)+1),.int (G:Int)]) t2=some (.tup ((kyN (D+1) G).map kV)):=zd;generalize upd H3 t2 (.tup [.int ((D:Int)+1),.int (G:Int)])=H4 at S4 D4 T4;refine⟨_,rfl,d,_,rfl,ui D4 T4,?_⟩
    rw[g2];refine⟨_,rfl,_,rfl,_,_,rfl,rfl,le2,fun t3 h3=>?_⟩
    have S5:=S4.trans (zc (o:=.tup [.int (D:Int),.int ((G:Int)+1)]) h3);have D5:=(zc (o:=.tup [.int (D:Int),.int ((G:Int)+1)]) h3) _ _ D4;have T5:upd H4 t3 (.tup [.int (D:Int),.int ((G:Int)+1)]) t3=some (.tup ((kyN D (G+1)).map kV)):=zd;generalize upd H4 t3 (.tup [.int (D:Int),.int ((G:Int)+1)])=H5 at S5 D5 T5;refine⟨_,rfl,d,_,rfl,ui D5 T5,?_⟩
    rw[g3];refine⟨le3,fun so ab=>?_⟩
    generalize qm L I g (D+1) (G+1)=b1 at U;generalize qm L I g (D+1) G=b2 at U;generalize qm L I g D (G+1)=b3 at U;have S6:=S5.trans (zc (o:=.lst [.bl b1,.bl b2,.bl b3]) ab);have D6:=(zc (o:=.lst [.bl b1,.bl b2,.bl b3]) ab) _ _ D5;have L6:upd H5 so (.lst [.bl b1,.bl b2,.bl b3]) so=some (.lst ([b1,b2,b3].map V.bl)):=zd;generalize upd H5 so (.lst [.bl b1,.bl b2,.bl b3])=H6 at S6 D6 L6;have skip:∀{v6:Option V},qm L I g D G=false->Ex3 fun w5 w6 J=>An5 ([some (V.ref l),some (.ref r),some (.int g),some (.ref d),some (.int (D:Int)),some (.int (G:Int)),v6]=[some (.ref l),some (.ref r),some (.int g),some (.ref d),some (.int (D:Int)),w5,w6]) (Same H H6) (H6 d=some (.dT J)) (J.length<=400*i+(j+1)) (TabN L I g D (I.length-(j+1)) J):=fun e=>⟨_,_,J,rfl,S6,D6,by omega,by rw[show I.length-(j+1)=G by omega];exact T.skip e⟩
    have fill:∀{v6:Option V} (tk:Addr),qm L I g D G=true->H6 tk=none->Ex3 fun w5 w6 O=>An5 ([some (V.ref l),some (.ref r),some (.int g),some (.ref d),some (.int (D:Int)),some (.int (G:Int)),v6]=[some (.ref l),some (.ref r),some (.int g),some (.ref d),some (.int (D:Int)),w5,w6]) (Same H (upd (upd H6 tk (.tup [.int (D:Int),.int (G:Int)])) d (.dT (jy J (kyN D G) (.bl true))))) (upd (upd H6 tk (.tup [.int (D:Int),.int (G:Int)])) d (.dT (jy J (kyN D G) (.bl true))) d=some (.dT O)) (O.length<=400*i+(j+1)) (TabN L I g D (I.length-(j+1)) O):=fun tk e N=>by
     have:=j8 J (kyN D G) (.bl true);refine⟨_,_,_,rfl,fun c0 u0 e0=>?_,zd,by omega,by rw[show I.length-(j+1)=G by omega];exact T.put e⟩
     rw[zm (zi e0 hd)];exact(S6.trans (zc N)) c0 u0 e0
    refine⟨_,rfl,_,rfl,l,_,_,_,rfl,rfl,S6.seq hl,jB ae,_,rfl,_,_,rfl,rfl,_,rfl,_,rfl,r,_,_,_,rfl,rfl,S6.seq aa,jB ac,_,_,rfl,rfl,_,rfl,qZ (fun c1=>?_) (fun c1=>ifF rfl (skip ?_))⟩
    ·have en:jD L I g D G=false:=by
      have af:L.getD D 0+g<=I.getD G 0:=jH c1;exact jG (by omega)
     rw[en] at U;refine⟨_,rfl,so,[b1,b2,b3],rfl,u9 L6,_,rfl,qZ (fun c2=>?_) (fun c2=>?_)⟩
     ·have eT:qm L I g D G=true:=by
       rw[U];revert c2
       cases b1<;>cases b2<;>cases b3<;>simp
      exact ifT rfl ⟨_,rfl,_,rfl,_,rfl,le2,fun tk N=>⟨d,_,rfl,DPut.t (k:=kyN D G) ((zc N) _ _ D6) zd (by omega),fill tk eT N⟩⟩
     ·have eF:(b1||(b2||b3))=false:=by
       revert c2
       cases b1<;>cases b2<;>cases b3<;>simp
      rw[eF] at U;refine⟨_,rfl,_,_,rfl,rfl,_,rfl,l,_,rfl,.inl (S6.seq hl),rfl,_,rfl,qZ (fun c3=>?_) (fun c3=>ifF rfl (skip ?_))⟩
      ·have ag:D+1=L.length:=by
        have:=jH c3;injection this with this;omega
       refine⟨_,rfl,_,_,rfl,rfl,_,rfl,r,_,rfl,.inl (S6.seq aa),rfl,_,rfl,qZ (fun c4=>?_) (fun c4=>skip ?_)⟩
       ·have ah:G+1=I.length:=by
         have:=jH c4;injection this with this;omega
        have eT:qm L I g D G=true:=by rw[U,zS ag,zS ah];rfl
        exact⟨_,rfl,_,rfl,_,rfl,le2,fun tk N=>⟨d,_,rfl,DPut.t (k:=kyN D G) ((zc N) _ _ D6) zd (by omega),fill tk eT N⟩⟩
       ·rw[U,jG (fun z=>c4 (zS (by rw[mr];exact congrArg V.int (by omega))):¬G+1=I.length)]
        simp
      ·rw[U,jG (fun z=>c3 (zS (by rw[ml];exact congrArg V.int (by omega))):¬D+1=L.length)]
       simp
    ·have en:jD L I g D G=true:=zS (by
      have af:¬L.getD D 0+g<=I.getD G 0:=fun z=>c1 (zS z)
      omega)
     rw[U,en];rfl
   ·rintro σ H2 ⟨v5,v6,J,rfl,S2,D2,kl,Y⟩
    rw[eM] at kl Y;exact⟨_,_,_,J,rfl,S2,D2,by omega,by rw[show L.length-(i+1)=D by omega];rw[J3] at Y;exact Y⟩
  ·rintro σ H1 ⟨v4,v5,v6,J,rfl,S1,D1,kl,Y⟩
   rw[eN,J3] at Y;refine⟨_,rfl,k d J H1 hd S1 D1 fun a b=>?_⟩
   rw[Y a b,zS (by omega),J5]
end
def omL:List (Option Nat)->Option Nat
 | []=>none
 | a::r=>om a (omL r)
theorem JE:∀(f:List (Option Nat)),(f.filterMap id=[]->omL f=none)/\∀m∈f.filterMap id,(∀a∈f.filterMap id,m<=a)->omL f=some m
 | []=>⟨fun _=>rfl,fun m h=>(by cases h)⟩
 | none::f=>by
  obtain⟨l,s⟩:=JE f;have e:(none::f).filterMap id=f.filterMap id:=rfl;rw[e];exact⟨l,s⟩
 | some x::f=>by
  obtain⟨l,s⟩:=JE f;have e:(some x::f).filterMap id=x::f.filterMap id:=rfl;rw[e];refine⟨fun z=>(by cases z),fun m hm g=>?_⟩
  show om (some x) (omL f)=some m;cases q:f.filterMap id with
  | nil=>
   rw[l q];rw[q] at hm;rw[qu.mp hm];rfl
  | cons y A=>
   have:∃b,b∈f.filterMap id/\∀a∈f.filterMap id,b<=a:=by
    rw[q];clear q hm g l s;induction A generalizing y with
    | nil=>exact⟨y,by simp,fun a ha=>by rw[qu.mp ha];exact zJ _⟩
    | cons z C u=>
     obtain⟨b,hb,g⟩:=u z;rcases Nat.le_total y b with c | c
     ·refine⟨y,by simp,fun a ha=>?_⟩
      rcases zW.mp ha with rfl | ha
      ·exact zJ _
      ·exact jm c (g a ha)
     ·refine⟨b,jv _ hb,fun a ha=>?_⟩
      rcases zW.mp ha with rfl | ha
      ·exact c
      ·exact g a ha
   obtain⟨b,hb,j⟩:=this;rw[s b hb j];show some (min x b)=some m;congr 1
   have B:=g x (by simp)
   have w:=g b (jv _ hb);rcases zW.mp hm with rfl | hm
   ·exact yB w
   ·have:=j m hm
    omega
def oV:Option Nat->V
 | none=>.non
 | some n=>.int (n:Int)
def cV(f l:List Int)(g:Int)(i j:Nat):V:=oV (zM f l g i j)
def j6(f j:List Int)(g:Int)(i n:Nat):List V:=(List.range n).map (cV f j g i)
def o0(i j:Nat):List (Option Nat):=if i+j=0 then [some 0] else []
def o1(f l:List Int)(g:Int)(i j:Nat):List (Option Nat):=if 0<i then(if 0<j then [zM f l g (i-1) (j-1)] else [])++[zM f l g (i-1) j] else []
def o2(f l:List Int)(g:Int)(i j:Nat):List (Option Nat):=if 0<j then [zM f l g i (j-1)] else []
def oA(f l:List Int)(g:Int)(i j:Nat):List (Option Nat):=o0 i j++o1 f l g i j++o2 f l g i j
section
variable{ls rs:List Int}{g:Int}
theorem JD(a:Option Nat):om a none=a:=by cases a<;>rfl
theorem JF{i j:Nat}:(oA ls rs g i j).length<=4:=by
 unfold oA o0 o1 o2;rw[qG,qG];split<;>split<;>split<;>(try split)<;>simp
theorem zbD{i j:Nat}(ok:okN ls rs g i j=true):zM ls rs g i j=(omL (oA ls rs g i j)).map (·+if i+j=0 then 0 else 1):=by
 unfold oA o0 o1 o2;cases i with
 | zero=>
  cases j with
  | zero=>rw[wA ok];rfl
  | succ j=>
   rw[yt ok (by omega)]
   simp only[xE,false_and,if_false,V3,if_true,Nat.zero_add,Nat.add_one_ne_zero,yC,omL,JD];rfl
 | succ i=>
  cases j with
  | zero=>
   rw[yt ok (by omega)]
   simp only[xE,and_false,if_false,V3,if_true,Nat.add_zero,Nat.add_one_ne_zero,yC,xj,omL,JD];rfl
  | succ j=>
   rw[yt ok (by omega)]
   have e:¬(i+1+(j+1)=0):=by omega
   simp only[V3,and_self,if_true,e,if_false,yC,xj,List.cons_append,omL,JD]
theorem Ze{i n:Nat}:(j6 ls rs g i n).length=n:=by unfold j6;rw[zx,yU]
theorem Jv{i n j:Nat}(h:j<n):(j6 ls rs g i n)[j]? =some (cV ls rs g i j):=by
 unfold j6;rw[zX,List.getElem?_range h];rfl
theorem XJ{i n:Nat}:j6 ls rs g i (n+1)=j6 ls rs g i n++[cV ls rs g i n]:=by
 unfold j6;rw[VY,zY];rfl
theorem zb5{i n j:Nat}(h:j<n):qk (j6 ls rs g i n) (some ((j-1:Nat):Int)) (some ((j+1:Nat):Int))=((if 0<j then [zM ls rs g i (j-1)] else [])++[zM ls rs g i j]).map oV:=by
 unfold qk;rw[HT.sIx_nat,HT.sIx_nat,Ze,yB (by omega),yB (by omega)]
 cases j with
 | zero=>
  rw[List.drop_zero];show List.take 1 _=_;rw[qe (Jv h)];rfl
 | succ j=>
  rw[show j+1-1=j by omega,show j+1+1-j=2 by omega,zw (yw _)]
  have s:=(zZ.mp (Jv (ls:=ls) (rs:=rs) (g:=g) (i:=i) (n:=n) (j:=j) (by omega)))
  have u:=(zZ.mp (Jv (ls:=ls) (rs:=rs) (g:=g) (i:=i) (n:=n) (j:=j+1) h));obtain⟨w,f⟩:=s;obtain⟨A,l⟩:=u;rw[Wh w,Wh A,f,l];rfl
end
def nnV(v:V):Bool:=!decide (v=.non)
theorem VR:∀f:List (Option Nat),(f.map oV).filter nnV=((f.filterMap id).map fun n:Nat=>(n:Int)).map V.int
 | []=>rfl
 | none::f=>by
  rw[xD,xI];exact VR f
 | some n::f=>by
  rw[xD,xI];show V.int (n:Int)::(f.map oV).filter nnV=_;rw[VR f];rfl
section
variable{P:Program}{w:World}{K:W.Frag}{G:Str->Option Value}{C:Heap}
inductive Zo(K:W.Frag)(u:List V)(H:Hp)(Q:VK):Prop
 | mk (l r:Addr) (f j:List Int) (g:Int) (_:u=[.ref l,.ref r,.int g]) (_:SqL K H l (f.map V.int)) (_:SqL K H r (j.map V.int)) (_:f.length<=400) (_:j.length<=400) (_:f≠[]) (_:j≠[]) (_:∀(F c:Addr) (A:List V) s,Same H s->s F=some (.lst (A++[.ref c]))->s c=some (.lst (j6 f j g (f.length-1) j.length))->Q (.ref F) s):Zo K u H Q
def XB(K:W.Frag):Sp:=fun f H Q _=>Zo K f H Q
theorem XH:zI ["_law_left","_law_right_here","_law_gap","_law_found","_law_i","_law_one","_law_j","_law_other","_law_some","_law_open_here"] ["_law_left","_law_right_here","_law_gap"] (zv (topL 35)):=u7
def YL(l:_)(r:_)(g:_)(F:_)(H:_)(A:_)(u:_):=fun(i:Nat) (σ:St) (f:Hp)=>(Ex7 fun(s:List V) (B D E I J L:Option V)=>An5 (σ=[some (.ref l),some (.ref r),some (.int g),some (.ref F),B,D,E,I,J,L]) (Same H f) (f F=some (.lst s)) (s.length=i) (∀(q:Nat) (x:V),s[q]? =some x->∃j,x=.ref j/\j≠F/\f j=some (.lst (j6 A u g q u.length))):Prop)
def YK(l:_)(r:_)(g:_)(F:_)(i:Nat)(f:_)(j:Nat)(s:_)(H:_)(B:_)(D:_)(E:_):=fun(I:St) (A:Hp)=>(Ex1 fun(u:Addr)=>An4 (I=[some (.ref l),some (.ref r),some (.int g),some (.ref F),some (.int (i:Int)),some (.int f),some (.int (j:Int)),some (.int s),some (.ref u),H]) (Same B A) (B u=none) (A u=some (.lst ((o0 i j++o1 D E g i j).map oV))):Prop)
def YJ(l:_)(r:_)(g:_)(F:_)(i:Nat)(f:_)(j:Nat)(s:_)(H:_)(B:_)(D:_)(E:_):=fun(I:St) (u:Hp)=>(Ex1 fun(A:Addr)=>An3 (I=[some (.ref l),some (.ref r),some (.int g),some (.ref F),some (.int (i:Int)),some (.int f),some (.int (j:Int)),some (.int s),some (.ref A),H]) (Same B u) (u A=some (.lst ((oA D E g i j).map oV))):Prop)
theorem Y0{f:Addr}{fd:FuncData}(F:Fun K "_law_counts" "_law_counts" (topL 35) f fd)(B:Blt G):FnOk P w K G C CX0 1 f fd ["_law_left","_law_right_here","_law_gap"] (XB K):=by
 have nd:=XH.nd;refine F.ok XH (fun vs H Q E h=>?_) (fun bo A bj s H vs Q E hr h=>?_)
 ·obtain⟨l,r,I,D,g,rfl,_⟩:=h
  rfl
 ·obtain⟨l,r,I,D,g,rfl,hl,az,bl,br,nl,nr,k⟩:=h
  have hu:=hr.units0;have bm:=bG1000000;have ll:0<I.length:=je.mpr nl;have lr:0<D.length:=je.mpr nr;have ml:(I.map V.int).length=I.length:=zx ..;have mr:(D.map V.int).length=D.length:=zx ..;refine⟨_,(zg (zF (i:=3) nd rfl (Or.inl rfl) (zT ze))
   (zg (qJ jc rfl (Zf rfl B.enumerate (za (pv 0) ze)) (qR rfl (zu (zp (i:=4) nd rfl (Or.inl rfl)) (zu (zp (i:=5) nd rfl (Or.inl rfl)) qq)))
   (zg (qM (j7 xf xK xJ qA (pv 3) (za (zT ze) ze)))
    (zk (qJ jc rfl (Zf rfl B.enumerate (za (pv 1) ze)) (qR rfl (zu (zp (i:=6) nd rfl (Or.inl rfl)) (zu (zp (i:=7) nd rfl (Or.inl rfl)) qq)))
    (zg (zF (i:=8) nd rfl (Or.inl rfl) (zr Jz (zT (za zf ze)) (jg xr rfl B.int xC (za (qv v1 (zr zD (pv 4) (pv 6)) zf (zE _)) ze))))
     (zg (vd (qH (zG wL (pv 4) zf (zE _))
     (zk (zF (i:=8) nd rfl (Or.inl rfl) (zr yp (pv 8) (ja jI (zy zH (pv 3) (zr jk (pv 4) zf) (fun _ _=>rfl)) (qX (zo (vW rfl) rfl B.max wU (za zf (za (zr jk (pv 6) zf) ze)))) (qX (zr zD (pv 6) zf))))))
     zQ))
     (zg (vd (qH (zG wL (pv 6) zf (zE _))
     (zk (qM (j7 xf xK xJ qA (pv 8) (za (zy zH (zy zH (pv 3) (pv 4) (fun _ _=>rfl)) (zr jk (pv 6) zf) (fun _ _=>rfl)) ze))))
     zQ))
     (zg (yk [] [] rfl rfl (by kernel_rfl) (qz (pv 8)) (fun _ _ _ _=>(vC (zG W4 (pv 0) xx (zE _)))) (fun _ _ _ _=>(pv 0)) (zp (i:=8) nd rfl (Or.inl rfl)))
     (zg (vd (zF (i:=9) nd rfl (Or.inl rfl) (ZA (qv yK (zr zD (pv 5) (pv 2)) (pv 7) (zE _)) (wv (qv (wK hu) (pv 8) (zT ze) (zE _))))))
     (zk (qM (j7 xf xK xJ qA (zy zH (pv 3) (wJ x8 zf) (fun _ _=>rfl)) (za (Zy (jJ (pv 9)) (zr zD (zo (zaj rfl) rfl B.min Vl (za (pv 8) ze)) (jg xr rfl B.int xC (za (qv wL (zr zD (pv 4) (pv 6)) zf (zE _)) ze))) xx) ze)))))))))))))
   (zk (zC (pv 3))))),?_⟩
  refine⟨le0,fun F hF=>?_⟩
  have S0:=zc (o:=.lst []) hF;have F0:upd H F (.lst []) F=some (.lst []):=zd;generalize upd H F (.lst [])=H0 at S0 F0;refine⟨_,rfl,l,rfl,⟨_,S0.seq hl⟩,?_⟩
  refine ZL (K:=K) (a:=l) (xs:=I.map V.int) (YL l r g F H I D)
   ⟨[],_,_,_,_,_,_,rfl,S0,F0,rfl,fun q x h=>(by simp at h)⟩ (fun i σ H' _ ⟨_,_,_,_,_,_,_,_,s,_,_,_⟩=>s.seq hl) ?_ ?_
  ·rintro i x σ H1 T hx ⟨M,v4,v5,v6,v7,v8,v9,rfl,S1,F1,ul,ae⟩ hT
   have hi:i<I.length:=by have:=(zZ.mp hx).1;omega
   obtain⟨N,rfl,ar⟩:∃N,x=V.int N/\I.getD i 0=N:=by
    rw[zX] at hx;obtain⟨z,ez,rfl⟩:=jb.mp hx;exact⟨z,rfl,by rw[Vs,ez];rfl⟩
   refine⟨T,_,rfl,ua zd,rfl,_,_,rfl,_,_,rfl,rfl,?_⟩
   have U1:=zc (o:=.tup [.int (i:Int),.int N]) hT;have S2:=S1.trans U1;have F2:=U1 _ _ F1;have a0:∀(q:Nat) (x:V),M[q]? =some x->∃J,x=.ref J/\J≠F/\upd H1 T (.tup [.int (i:Int),.int N]) J=some (.lst (j6 I D g q D.length)):=fun q x h=>let ⟨J,e,n,h'⟩:=ae q x h;⟨J,e,n,U1 _ _ h'⟩
   generalize upd H1 T (.tup [.int (i:Int),.int N])=H2 at S2 F2 a0;refine⟨_,rfl,.inl ⟨rfl,_,u9 F2⟩,le0,fun u Y=>?_⟩
   have U3:=zc (o:=.lst []) Y;have al:=S2.free Y;have bd:H F=none:=hF;have F3:=U3 _ _ F2;have an:F≠u:=zi F2 Y;have C3:upd H2 u (.lst []) u=some (.lst []):=zd;have S3:=S2.trans U3;have aa:∀(q:Nat) (x:V),M[q]? =some x->∃J,x=.ref J/\J≠F/\J≠u/\upd H2 u (.lst []) J=some (.lst (j6 I D g q D.length)):=fun q x h=>let ⟨J,e,n,h'⟩:=a0 q x h;⟨J,e,n,zi h' Y,U3 _ _ h'⟩
   generalize upd H2 u (.lst [])=H3 at U3 F3 C3 S3 aa;refine⟨F,M,_,rfl,rfl,F3,by omega,?_⟩
   have S4:Same H (upd H3 F (.lst (M++[.ref u]))):=fun c0 u0 e0=>by
    rw[zm (zi e0 bd)];exact S3 c0 u0 e0
   have F4:upd H3 F (.lst (M++[.ref u])) F=some (.lst (M++[.ref u])):=zd;have C4:upd H3 F (.lst (M++[.ref u])) u=some (.lst (j6 I D g i 0)):=by rw[zm (qB an)];exact C3
   have ab:∀(q:Nat) (x:V),M[q]? =some x->∃J,x=.ref J/\J≠F/\J≠u/\upd H3 F (.lst (M++[.ref u])) J=some (.lst (j6 I D g q D.length)):=fun q x h=>let ⟨J,e,n,n',h'⟩:=aa q x h;⟨J,e,n,n',by rw[zm n];exact h'⟩
   generalize upd H3 F (.lst (M++[.ref u]))=H4 at S4 F4 C4 ab;clear S0 F0 S1 F1 S2 F2 S3 F3 C3 U1 U3 ae a0 aa Y hT;refine⟨_,rfl,r,rfl,⟨_,S4.seq az⟩,?_⟩
   refine ZL (K:=K) (a:=r) (xs:=D.map V.int) (fun j σ H'=>Ex4 fun(v6 v7 v8 v9:Option V)=>An5 (σ=[some (.ref l),some (.ref r),some (.int g),some (.ref F),some (.int (i:Int)),some (.int N),v6,v7,v8,v9]) (Same H H') (H' F=some (.lst (M++[.ref u]))) (H' u=some (.lst (j6 I D g i j))) (∀(q:Nat) (x:V),M[q]? =some x->∃J,x=.ref J/\J≠F/\J≠u/\H' J=some (.lst (j6 I D g q D.length))))
    ⟨_,_,_,_,rfl,S4,F4,C4,ab⟩ (fun j σ H' _ ⟨_,_,_,_,_,s,_,_,_⟩=>s.seq az) ?_ ?_
   ·clear S4 F4 C4 ab H4
    rintro j y σ H5 T5 hy ⟨v6,v7,v8,v9,rfl,S5,F5,C5,U⟩ av;have hj:j<D.length:=by have:=(zZ.mp hy).1;omega
    obtain⟨O,rfl,as⟩:∃O,y=V.int O/\D.getD j 0=O:=by
     rw[zX] at hy;obtain⟨z,ez,rfl⟩:=jb.mp hy;exact⟨z,rfl,by rw[Vs,ez];rfl⟩
    refine⟨T5,_,rfl,ua zd,rfl,_,_,rfl,_,_,rfl,rfl,?_⟩
    have U5:=zc (o:=.tup [.int (j:Int),.int O]) av;have S6:=S5.trans U5;have F6:=U5 _ _ F5;have C6:=U5 _ _ C5;have ac:∀(q:Nat) (x:V),M[q]? =some x->∃J,x=.ref J/\J≠F/\J≠u/\upd H5 T5 (.tup [.int (j:Int),.int O]) J=some (.lst (j6 I D g q D.length)):=fun q x h=>let ⟨J,e,n,n',h'⟩:=U q x h;⟨J,e,n,n',U5 _ _ h'⟩
    generalize upd H5 T5 (.tup [.int (j:Int),.int O])=H6 at S6 F6 C6 ac;clear S5 F5 C5 U U5 av;refine⟨le1,fun s0 b0=>⟨_,rfl,_,rfl,_,_,rfl,rfl,rfl,.inr ⟨_,rfl,?_⟩⟩⟩
    have U7:=zc (o:=.lst [.int 0]) b0;have Z7:upd H6 s0 (.lst [.int 0]) s0=some (.lst [.int 0]):=zd;generalize upd H6 s0 (.lst [.int 0])=H7 at U7 Z7;have ek:(if decide (V.int ((i:Int)+(j:Int))=V.int 0)=true then(1:Int) else 0)=if i+j=0 then 1 else 0:=by
     by_cases z:i+j=0
     ·rw[zw z,zw (zS (by rw[show(i:Int)+(j:Int)=0 by omega]))]
     ·rw[zq z,zq]
      intro q;have:=jH q;injection this with this;omega
    rw[ek];refine⟨s0,_,_,rfl,rfl,Z7,by split<;>decide,by split<;>decide,by split<;>(show _<=sizeLine;simp;try omega),fun s1 am=>?_⟩
    have eo:(List.replicate (if i+j=0 then(1:Int) else 0).toNat [V.int 0]).flatten=(o0 i j).map oV:=by
     unfold o0;split<;>rfl
    rw[eo];have U8:=U7.trans (zc (o:=.lst ((o0 i j).map oV)) am);have au:=U7.free am;have Z8:upd H7 s1 (.lst ((o0 i j).map oV)) s1=some (.lst ((o0 i j).map oV)):=zd;generalize upd H7 s1 (.lst ((o0 i j).map oV))=H8 at U8 Z8;refine⟨YK l r g F i N j O v9 H6 I D,?_,?_⟩
    ·refine⟨_,rfl,_,_,rfl,rfl,_,rfl,qZ (fun c=>?_) (fun c=>?_)⟩
     ·have c':0<i:=by have:=jH c;omega
      obtain⟨y,hy⟩:∃y,M[i-1]? =some y:=⟨M[i-1]'(by omega),by rw[yd]⟩
      obtain⟨J,rfl,nF,nC,bg⟩:=ac _ _ hy;have ak:atI (M++[V.ref u]) ((i:Int)-1)=some (.ref J):=by
       rw[show(i:Int)-1=((i-1:Nat):Int) by omega]
       refine qP ?_
       rw[yf (by omega)]
       exact hy
      refine⟨_,rfl,_,rfl,_,rfl,_,_,rfl,rfl,F,_,_,_,rfl,rfl,u9 (U8 _ _ F6),ak,_,rfl,_,_,rfl,rfl,_,_,rfl,_,rfl,_,rfl,_,_,rfl,rfl,_,rfl,?_⟩
      have e1:(if(j:Int)-1>0 then(j:Int)-1 else 0)=((j-1:Nat):Int):=by split<;>omega
      rw[e1,show(j:Int)+1=((j+1:Nat):Int) by omega]
      refine⟨J,_,rfl,u9 (U8 _ _ bg),fun p hp=>?_⟩
      rw[zb5 hj];have U9:=U8.trans (zc (o:=.lst (((if 0<j then [zM I D g (i-1) (j-1)] else [])++[zM I D g (i-1) j]).map oV)) hp)
      have Z9:=(zc (o:=.lst (((if 0<j then [zM I D g (i-1) (j-1)] else [])++[zM I D g (i-1) j]).map oV)) hp) _ _ Z8
      have P9:upd H8 p (.lst (((if 0<j then [zM I D g (i-1) (j-1)] else [])++[zM I D g (i-1) j]).map oV)) p=some (.lst (((if 0<j then [zM I D g (i-1) (j-1)] else [])++[zM I D g (i-1) j]).map oV)):=zd
      generalize upd H8 p (.lst (((if 0<j then [zM I D g (i-1) (j-1)] else [])++[zM I D g (i-1) j]).map oV))=H9 at U9 Z9 P9
      refine⟨s1,p,_,_,rfl,rfl,Z9,P9,?_,fun s2 ba=>⟨s2,rfl,U9.trans (zc ba),U9.free ba,?_⟩⟩
      ·have:=JF (ls:=I) (rs:=D) (g:=g) (i:=i) (j:=j)
       unfold oA o1 at this;rw[zw c'] at this;simp only[zx,qG] at this ⊢;omega
      ·rw[zd,<- zY]
       unfold o1;rw[zw c']
     ·have c':¬0<i:=fun z=>c (zS (by omega))
      refine⟨s1,rfl,U8,au,?_⟩
      unfold o1;rw[zq c',xj];exact Z8
    clear U7 U8 Z7 Z8 b0 am au eo ek s0 s1 H7 H8;rintro σ' H8 ⟨s2,rfl,U8,n2,Z8⟩;refine⟨YJ l r g F i N j O v9 H6 I D,?_,?_⟩
    ·refine⟨_,rfl,_,_,rfl,rfl,_,rfl,qZ (fun c=>?_) (fun c=>?_)⟩
     ·have c':0<j:=by have:=jH c;omega
      have ak:atI (M++[V.ref u]) (i:Int)=some (.ref u):=by
       refine qP ?_
       rw[wp (by omega),ul,J3];rfl
      have aw:atI (j6 I D g i j) ((j:Int)-1)=some (cV I D g i (j-1)):=by
       rw[show(j:Int)-1=((j-1:Nat):Int) by omega]
       exact qP (Jv (by omega))
      refine⟨_,rfl,.inl ⟨rfl,_,u9 Z8⟩,_,rfl,_,rfl,F,_,_,_,rfl,rfl,u9 (U8 _ _ F6),ak,_,rfl,_,_,rfl,rfl,u,_,_,_,rfl,rfl,u9 (U8 _ _ C6),aw,s2,_,_,rfl,rfl,Z8,?_,s2,rfl,fun c0 u0 e0=>?_,?_⟩
      ·have:=JF (ls:=I) (rs:=D) (g:=g) (i:=i) (j:=j)
       unfold oA at this;simp only[zx,qG] at this ⊢;omega
      ·rw[zm (zi e0 n2)];exact U8 _ _ e0
      ·rw[zd]
       unfold oA o2;rw[zw c',zY (l₁:=o0 i j++o1 I D g i j)];rfl
     ·have c':¬0<j:=fun z=>c (zS (by omega))
      refine⟨s2,rfl,U8,?_⟩
      unfold oA o2;rw[zq c',xj];exact Z8
    clear U8 Z8 n2 s2 H8;rintro σ' H8 ⟨s2,rfl,U8,Z8⟩;refine⟨_,rfl,s2,rfl,⟨_,u9 Z8⟩,jM (K:=K) (a:=s2) (xs:=(oA I D g i j).map oV) (fun i' zs H'=>zs=(((oA I D g i j).map oV).take i').filter nnV/\H'=H8) ⟨rfl,rfl⟩ (fun i' zs H' ⟨_,e⟩=>by rw[e];exact u9 Z8) ?_ ?_⟩
    ·rintro i' x zs H' hx ⟨rfl,rfl⟩
     have bn:(((oA I D g i j).map oV).take i').length<=4:=by
      have:=JF (ls:=I) (rs:=D) (g:=g) (i:=i) (j:=j);rw[jq,zx];omega
     refine⟨rfl,_,rfl,rfl,_,rfl,qZ (fun c=>⟨_,rfl,?_,?_,rfl⟩) (fun c=>⟨?_,rfl⟩)⟩
     ·have:=x6 nnV (((oA I D g i j).map oV).take i')
      omega
     ·rw[qe hx,yb,xI,zw (show nnV x=true from c)];rfl
     ·rw[qe hx,yb,xI,zq (show ¬nnV x=true from c)]
      exact(xj _).symm
    rintro zs H' ⟨rfl,rfl⟩;rw[jO,VR];obtain⟨L,hL⟩:∃L,L=(oA I D g i j).filterMap id:=⟨_,rfl⟩;rw[<- hL];have Ll:L.length<=4:=by
     rw[hL];exact jm (List.length_filterMap_le _ _) JF
    refine⟨by rw[zx,zx];omega,fun s3 bh=>?_⟩
    have U9:=U8.trans (zc (o:=.lst ((L.map fun n:Nat=>(n:Int)).map V.int)) bh)
    have Z9:upd H' s3 (.lst ((L.map fun n:Nat=>(n:Int)).map V.int)) s3=some (.lst ((L.map fun n:Nat=>(n:Int)).map V.int)):=zd
    generalize upd H' s3 (.lst ((L.map fun n:Nat=>(n:Int)).map V.int))=H9 at U9 Z9
    obtain⟨ax,ay⟩:=JE (oA I D g i j);rw[<- hL] at ax ay;have bi:okN I D g i j=decide (N+g<=O):=by
     unfold okN jD;rw[zS hi,zS hj,ar,as,J5,J5,<- decide_not];exact yT.mpr (by omega)
    refine⟨fun σ' H'=>An2 (σ'=[some (.ref l),some (.ref r),some (.int g),some (.ref F),some (.int (i:Int)),some (.int N),some (.int (j:Int)),some (.int O),some (.ref s3),some (.bl (okN I D g i j&&!L.isEmpty))]) (Same H9 H'),?_,?_⟩
    ·refine⟨_,rfl,_,rfl,_,_,rfl,rfl,_,rfl,_,_,rfl,rfl,_,rfl,?_⟩
     rw[<- bi];cases e:okN I D g i j with
     | false=>exact ifF rfl ⟨rfl,uc _⟩
     | true=>
      refine ifT rfl ⟨_,rfl,le0,fun z hz=>⟨s3,z,_,rfl,rfl,u9 ((zc hz) _ _ Z9),u9 zd,?_,zc hz⟩⟩
      have:((L.map fun n:Nat=>(n:Int)).map V.int).isEmpty=L.isEmpty:=by cases L<;>rfl
      rw[this];rfl
    rintro σ' af ⟨rfl,ap⟩;have ah:=U9.trans ap;have ao:=ah _ _ F6;have ag:=ah _ _ C6;have bc:=ap _ _ Z9;have bb:=S6.trans ah;have ai:∀(q:Nat) (x:V),M[q]? =some x->∃J,x=.ref J/\J≠F/\J≠u/\af J=some (.lst (j6 I D g q D.length)):=fun q x h=>let ⟨J,e,n,n',h'⟩:=ac q x h;⟨J,e,n,n',ah _ _ h'⟩
    have aj:∀v9:Option V,Ex4 fun(w6 w7 w8 w9:Option V)=>An5 ([some (V.ref l),some (.ref r),some (.int g),some (.ref F),some (.int (i:Int)),some (.int N),some (.int (j:Int)),some (.int O),some (.ref s3),v9]=[some (.ref l),some (.ref r),some (.int g),some (.ref F),some (.int (i:Int)),some (.int N),w6,w7,w8,w9]) (Same H (upd af u (.lst (j6 I D g i j++[cV I D g i j])))) (upd af u (.lst (j6 I D g i j++[cV I D g i j])) F=some (.lst (M++[.ref u]))) (upd af u (.lst (j6 I D g i j++[cV I D g i j])) u=some (.lst (j6 I D g i (j+1)))) (∀(q:Nat) (x:V),M[q]? =some x->∃J,x=.ref J/\J≠F/\J≠u/\upd af u (.lst (j6 I D g i j++[cV I D g i j])) J=some (.lst (j6 I D g q D.length))):=fun v9=>by
     refine⟨_,_,_,_,rfl,fun c0 u0 e0=>?_,?_,?_,fun q x h=>?_⟩
     ·rw[zm (zi e0 al)];exact bb _ _ e0
     ·rw[zm an];exact ao
     ·rw[zd,XJ]
     ·obtain⟨J,e,n,n',h'⟩:=ai q x h
      exact⟨J,e,n,n',by rw[zm n'];exact h'⟩
    refine⟨_,rfl,_,rfl,F,_,_,_,rfl,rfl,u9 ao,vN _ _,.inl ⟨rfl,_,u9 ag⟩,_,rfl,_,rfl,?_⟩
    cases e:okN I D g i j with
    | false=>
     refine ifF rfl ⟨u,_,_,rfl,rfl,ag,by rw[Ze];omega,?_⟩
     have ec:cV I D g i j=.non:=by unfold cV;rw[VT e];rfl
     have:=aj (some (.bl (false&&!L.isEmpty)));rw[ec] at this;exact this
    | true=>
     have aq:=zbD e;cases q:L with
     | nil=>
      refine ifF rfl ⟨u,_,_,rfl,rfl,ag,by rw[Ze];omega,?_⟩
      have ec:cV I D g i j=.non:=by unfold cV;rw[aq,ax q];rfl
      have:=aj (some (.bl (true&&!L.isEmpty)));rw[ec,q] at this;exact this
     | cons a L'=>
      refine ifT rfl ⟨_,rfl,s3,_,rfl,u9 bc,by rw[q];simp,fun m hm bf=>?_⟩
      obtain⟨m',be,rfl⟩:=jS.mp hm;have em:=ay m' be fun a ha=>by
       have:=bf (a:Int) (jS.mpr ⟨a,ha,rfl⟩);omega
      have ec:cV I D g i j=.int ((m':Int)+(if decide ((i:Int)+(j:Int)>0)=true then(1:Int) else 0)):=by
       unfold cV;rw[aq,em];show V.int (((m'+if i+j=0 then 0 else 1:Nat)):Int)=_
       congr 1
       by_cases z:i+j=0
       ·rw[zw z,zq]
        ·rfl
        ·intro q;have:=jH q;omega
       ·rw[zq z,zw (zS (by omega))];rfl
      refine⟨_,rfl,_,rfl,_,_,rfl,rfl,_,_,rfl,rfl,.inr ⟨_,rfl,_,_,rfl,rfl,u,_,_,rfl,rfl,ag,by rw[Ze];omega,?_⟩⟩
      have:=aj (some (.bl (true&&!L.isEmpty)));rw[ec,q] at this;exact this
   ·rintro σ H5 ⟨v6,v7,v8,v9,rfl,S5,F5,C5,U⟩
    rw[mr] at C5;refine⟨M++[.ref u],_,_,_,_,_,_,rfl,S5,F5,by rw[qG,ul];rfl,fun q x h=>?_⟩
    by_cases z:q<M.length
    ·rw[yf z] at h
     obtain⟨J,e,n,_,h'⟩:=U q x h;exact⟨J,e,n,h'⟩
    ·rw[wp (by omega)] at h
     have hq:q-M.length=0:=by
      have:=(zZ.mp h).1;simpa using this
     rw[hq] at h;cases h;exact⟨u,rfl,qB an,by rw[show q=i by omega];exact C5⟩
  ·rintro σ H1 ⟨M,v4,v5,v6,v7,v8,v9,rfl,S1,F1,ul,ae⟩
   rw[ml] at ul;have hq:I.length-1<M.length:=by omega
   obtain⟨J,e,_,h'⟩:=ae (I.length-1) M[I.length-1] (by simp[hq])
   have eu:M=M.take (I.length-1)++[.ref J]:=by
    rw[<- e,<- qe (l:=M) (i:=I.length-1) (by simp[hq]),Vr (by omega)]
   rw[eu] at F1;exact⟨_,rfl,k F J _ H1 S1 F1 h'⟩
def t3D(m:Str×Nat×Nat):Dat:=.tup [.str m.1,.int (m.2.1:Int),.int (m.2.2:Int)]
def jz(i j:Nat):List (Str×Nat×Nat):=[("both",i+1,j+1),("left",i+1,j),("right",i,j+1)]
def inN(f g:List Int)(m:Str×Nat×Nat):Bool:=decide (m.2.1<f.length)&&decide (m.2.2<g.length)
theorem wS{α:Type}{p:α->Bool}{f:List α}{i:Nat}{m:α}(h:f[i]? =some m):(f.take (i+1)).filter p=(f.take i).filter p++if p m=true then [m] else []:=by
 rw[qe h,yb,xI];rfl
theorem Zh{f l:List Int}{g:Int}{i j:Nat}(h:qm f l g i j=true):i<f.length/\j<l.length/\jD f l g i j=false:=by
 by_cases c:i<f.length/\j<l.length
 ·rw[JU c.1 c.2,jn] at h
  exact⟨c.1,c.2,by simpa using h.1⟩
 ·rw[ZS c] at h;cases h
theorem zah{f l:List Int}{g:Int}{i j:Nat}{m:Str×Nat×Nat}(hm:m∈jz i j)(h:qm f l g m.2.1 m.2.2=true):jE (.str m.1) (zU f l g i j)=some m.2:=by
 obtain⟨s,u,A⟩:=Zh h;have ok:okN f l g m.2.1 m.2.2=true:=by unfold okN;rw[zS s,zS u,A];rfl
 unfold jz at hm;simp only[zW,wj,or_false] at hm;rcases hm with rfl | rfl | rfl
 ·rw[jN,z7,z7,z7,show(("both":Str) == "both")=true by decide]
  rw[zw (by rw[yy];exact ok)]
 ·rw[jN,z7,z7,z7,show(("both":Str) == "left")=false by decide,show(("left":Str) == "left")=true by decide]
  rw[zq (by simp),zw (by rw[yy];exact ok)];rfl
 ·rw[jN,z7,z7,z7,show(("both":Str) == "right")=false by decide,show(("left":Str) == "right")=false by decide,show(("right":Str) == "right")=true by decide]
  rw[zq (by simp),zq (by simp),zw (by rw[yy];exact ok)];rfl
theorem zbI{f l:List Int}{g:Int}{i j:Nat}(h:qm f l g i j=true)(H:((jz i j).filter (inN f l)).filter (fun m=>qm f l g m.2.1 m.2.2)=[]):(i,j)=wz f l:=by
 obtain⟨D,E,L⟩:=Zh h;have s:∀m∈jz i j,qm f l g m.2.1 m.2.2=false:=fun m hm=>by
  cases e:qm f l g m.2.1 m.2.2 with
  | false=>rfl
  | true=>
   obtain⟨I,J,_⟩:=Zh e;have:m∈((jz i j).filter (inN f l)).filter (fun m=>qm f l g m.2.1 m.2.2):=xk.mpr ⟨xk.mpr ⟨hm,by unfold inN;rw[zS I,zS J];rfl⟩,e⟩
   rw[H] at this;cases this
 have u:=s ("both",i+1,j+1) (by simp[jz])
 have A:=s ("left",i+1,j) (by simp[jz])
 have B:=s ("right",i,j+1) (by simp[jz])
 simp only at u A B;rw[JU D E,u,A,B] at h;simp at h;unfold wz;rw[show f.length-1=i by omega,show l.length-1=j by omega]
theorem zb3{X:Cx}{K:W.Frag}(h:X.K=K):SlR X (zdu K):=by rw[<- h];exact zdq
theorem wF{H:Hp}{m:Str×Nat×Nat}{x:V}(h:Rep K H (t3D m) x):∃c,x=.ref c/\SqT K H c [.str m.1,.int (m.2.1:Int),.int (m.2.2:Int)]:=by
 obtain⟨c,M,rfl,hc,D,J,f,s,E,L,g,u,I,B,j,A,l⟩:=h;cases(show D=_ from s)
 cases(show E=_ from u)
 cases(show I=_ from A)
 cases(show B=_ from l)
 subst j g f;exact⟨c,rfl,hc⟩
theorem Wq:∀l:List (Str×Nat×Nat),Dat.imms (l.map t3D)=true
 | []=>rfl
 | _::l=>by
  show(true&&Dat.imms (l.map t3D))=true;rw[Wq l];rfl
inductive QJ(K:W.Frag)(A:List V)(H:Hp)(Q:VK):Prop
 | mk (b l r:Addr) (f j:List Int) (g n:Int) (_:A=[.ref b,.ref l,.ref r,.int g]) (_:BoxAt H b n) (_:n<500000) (_:H l=some (.lst (f.map V.int))) (_:H r=some (.lst (j.map V.int))) (_:l≠b) (_:r≠b) (_:f.length<=400) (_:j.length<=400) (_:f≠[]) (_:j≠[]) (_:∀(q:Addr) (u:List Str) s,SameB b H s->BoxAt s b (n+800)->q≠b->H q=none->s q=some (.lst (u.map V.str))->u.length<=f.length+j.length->(∀x∈u,x = "both" \/ x = "left" \/ x = "right")->(qm f j g 0 0=true->qT f j g (0,0) (u.map Dat.str)=some (wz f j))->Q (.ref q) s):QJ K A H Q
def WH(K:W.Frag):Sp:=fun f H Q _=>QJ K f H Q
theorem WS:zI ["_law_box_here","_law_left","_law_right_here","_law_gap","_law_spots","_law_i","_law_j","_law_found","_law_k","_law_some","_law_good","_law_word"] ["_law_box_here","_law_left","_law_right_here","_law_gap"] (zv (topL 37)):=u7
def YI(b:_)(l:_)(r:_)(g:_)(d:_)(q:_)(H:_)(n:_)(s:_)(u:_)(A:_):=fun(i:Nat) (σ:St) (f:Hp)=>(Ex7 fun(E L B D:Option V) (I J:Nat) (j:List Str)=>An9 (σ=[some (.ref b),some (.ref l),some (.ref r),some (.int g),some (.ref d),some (.int (I:Int)),some (.int (J:Int)),some (.ref q),E,L,B,D]) (SameB b H f) (BoxAt f b (n+i)) (f d=some (.dT s)) (f q=some (.lst (j.map V.str))) (j.length=i) (i<=I+J) ((∀x∈j,x = "both" \/ x = "left" \/ x = "right")) ((qm u A g 0 0=true->qT u A g (0,0) (j.map Dat.str)=some (I,J)/\qm u A g I J=true)):Prop)
theorem zbd{f:Addr}{fd:FuncData}(F:Fun K "_law_drawn_moves" "_law_drawn_moves" (topL 37) f fd)(B:Blt G)(ae:Dfn P w K G C "_law_take" 1 ["_law_box_here","_law_size"] vA)(N:Dfn P w K G C "_law_back_open" 1 ["_law_left","_law_right_here","_law_gap"] (zaI K)):FnOk P w K G C CX0 2 f fd ["_law_box_here","_law_left","_law_right_here","_law_gap"] (WH K):=by
 have nd:=WS.nd;refine F.ok WS (fun vs H Q E h=>?_) (fun c9 A bx s H vs Q E hr h=>?_)
 ·obtain⟨b,l,r,u,D,g,n,rfl,_⟩:=h
  rfl
 ·obtain⟨b,l,r,u,D,g,n,rfl,B0,hn,hl,ao,bv,bw,bl,br,nl,nr,k⟩:=h
  have hu:=hr.units0;have bs:=QV hr;have c4:=bG1000000;have az:=bGe;have ml:(u.map V.int).length=u.length:=zx ..;have mr:(D.map V.int).length=D.length:=zx ..;refine⟨_,(zg (jK (zN (za (zn N hr.m rfl (za (pv 1) (za (pv 2) (za (pv 3) ze)))) (za zf (za zf (za (zT ze) ze))))) (qR rfl (zu (zp (i:=4) nd rfl (Or.inr rfl)) (zu (zp (i:=5) nd rfl (Or.inl rfl)) (zu (zp (i:=6) nd rfl (Or.inl rfl)) (zu (zp (i:=7) nd rfl (Or.inl rfl)) qq))))))
   (zg (qJ jc rfl (qU rfl B.range (za (zr zD (zo zA rfl B.len boot_len (za (pv 1) ze)) (zo zA rfl B.len boot_len (za (pv 2) ze))) ze)) (zp (i:=8) nd rfl (Or.inl rfl))
   (zg (zF (i:=9) nd rfl (Or.inl rfl) (zT (za (zN (za xM (za (zr zD (pv 5) zf) (za (zr zD (pv 6) zf) ze)))) (za (zN (za xM (za (zr zD (pv 5) zf) (za (pv 6) ze)))) (za (zN (za xM (za (pv 5) (za (zr zD (pv 6) zf) ze)))) ze)))))
    (zg (yk ["_law_left","_law_right_here"] [1,2] rfl rfl (by kernel_rfl) (qz (pv 9)) (fun _ _ _ _=>(vC (uf (vc (zG XO (zy (qY (K:=K) rfl) (pv 0) zf (fun _ _=>rfl)) (zo (j5 (K:=K) rfl) rfl B.len boot_len (za (pv 1) ze)) (zE _)) (xH (zG XO (zy (qY (K:=K) rfl) (pv 0) zf (fun _ _=>rfl)) (zo (j5 (K:=K) rfl) rfl B.len boot_len (za (pv 2) ze)) (zE _))))))) (fun _ _ _ _=>(pv 0)) (zp (i:=9) nd rfl (Or.inl rfl)))
    (zg (yk ["_law_spots"] [4] rfl rfl (by kernel_rfl) (qz (pv 9)) (fun _ _ _ _=>(vC (wu (vE bs (ja (zb3 (K:=K) rfl) (pv 0) (qX zf) j4) (pv 1))))) (fun _ _ _ _=>(pv 0)) (zp (i:=10) nd rfl (Or.inl rfl)))
    (zg (vd (qH (zG (zci hu) (pv 4) Zz (zE _))
    (zk (yk ["_law_gap","_law_right_here","_law_left"] [3,2,1] rfl rfl (by kernel_rfl) (qz (pv 9)) (fun _ _ _ _=>(vC (zG yK (zr zD (zy (wR (K:=K) rfl) (pv 3) (zy (qY (K:=K) rfl) (pv 0) zf (fun _ _=>rfl)) (fun _ _=>rfl)) (pv 1)) (zy (wR (K:=K) rfl) (pv 2) (zy (qY (K:=K) rfl) (pv 0) zf (fun _ _=>rfl)) (fun _ _=>rfl)) (zE _)))) (fun _ _ _ _=>(pv 0)) (zp (i:=10) nd rfl (Or.inl rfl))))
    zQ))
    (zg (qH (zG (XQ hu) (pv 10) (zT ze) (zE _))
    (zk (zC (pv 7)))
    zQ)
    (zg (jK (zy zH (pv 10) (zn ae hr.m rfl (za (pv 0) (za (zo zA rfl B.len boot_len (za (pv 10) ze)) ze))) (fun _ _=>rfl)) (qR rfl (zu (zp (i:=11) nd rfl (Or.inl rfl)) (zu (zp (i:=5) nd rfl (Or.inl rfl)) (zu (zp (i:=6) nd rfl (Or.inl rfl)) qq)))))
    (zk (qM (j7 xf xK xJ qA (pv 7) (za (pv 11) ze)))))))))))
   (zk (zC (pv 7))))),?_⟩
  refine⟨_,rfl,_,rfl,_,rfl,l,r,u,D,g,rfl,u9 hl,u9 ao,bl,br,nl,nr,fun d aa H1 hd S1 D1 tb=>?_⟩
  refine⟨le0,fun q hq=>⟨le4,fun t ht=>?_⟩⟩
  have ah:q≠b:=fun z=>by
   obtain⟨o,eo⟩:=B0.some;rw[z,S1 _ _ eo] at hq;cases hq
  have bt:d≠b:=fun z=>by
   obtain⟨o,eo⟩:=B0.some;rw[z,eo] at hd;cases hd
  have NQ:H q=none:=by
   cases e:H q with
   | none=>rfl
   | some o=>rw[S1 _ _ e] at hq;cases hq
  have u2:=(zc (o:=.lst []) hq).trans (zc (o:=.tup [.ref d,.int 0,.int 0,.ref q]) ht);have Q2:=(zc (o:=.tup [.ref d,.int 0,.int 0,.ref q]) ht) q _ (zd (H:=H1) (o:=.lst []));have T2:upd (upd H1 q (.lst [])) t (.tup [.ref d,.int 0,.int 0,.ref q]) t=some (.tup [.ref d,.int 0,.int 0,.ref q]):=zd;generalize upd (upd H1 q (.lst [])) t (.tup [.ref d,.int 0,.int 0,.ref q])=H2 at u2 Q2 T2;have S2:=S1.trans u2;refine⟨t,_,rfl,ua T2,rfl,_,_,rfl,_,_,rfl,_,_,rfl,_,_,rfl,rfl,?_⟩
  refine⟨_,rfl,l,_,rfl,.inl (u9 (S2 _ _ hl)),_,rfl,r,_,rfl,.inl (u9 (S2 _ _ ao)),_,_,rfl,rfl,_,rfl,(by rw[az];omega),(by rw[az];omega),?_⟩
  have eN:(((u.map V.int).length:Int)+((D.map V.int).length:Int)).toNat=u.length+D.length:=by omega
  refine jF (YI b l r g d q H n aa u D)
   ⟨_,_,_,_,0,0,[],rfl,ue S2,(B0.same S2).mono (by omega),u2 _ _ D1,Q2,rfl,qQ _,(fun x hx=>nomatch hx),fun e=>⟨rfl,e⟩⟩ ?_ ?_
  ·rintro i σ H3 hi ⟨v8,v9,c3,bf,I,J,ws,rfl,S3,B3,D3,Q3,wl,bg,ww,wk⟩
   rw[eN] at hi;have L3:=S3 _ _ hl bv;have R3:=S3 _ _ ao bw;refine⟨_,rfl,_,_,rfl,rfl,_,rfl,_,_,rfl,rfl,le3,fun t1 h1=>⟨_,rfl,_,_,rfl,rfl,_,rfl,le3,fun t2 h2=>⟨_,rfl,_,rfl,_,_,rfl,rfl,le3,fun t3 h3=>⟨le3,fun so bc=>?_⟩⟩⟩⟩
   have a1:=zc (o:=.tup [.str "both",.int ((I:Int)+1),.int ((J:Int)+1)]) h1;have a2:=zc (o:=.tup [.str "left",.int ((I:Int)+1),.int (J:Int)]) h2;have a3:=zc (o:=.tup [.str "right",.int (I:Int),.int ((J:Int)+1)]) h3;have a4:=zc (o:=.lst [.ref t1,.ref t2,.ref t3]) bc;have T1:=a4 _ _ (a3 _ _ (a2 t1 _ (zd (H:=H3) (o:=.tup [.str "both",.int ((I:Int)+1),.int ((J:Int)+1)]))));have ax:=a4 _ _ (a3 t2 _ (zd (o:=.tup [.str "left",.int ((I:Int)+1),.int (J:Int)])));have ay:=a4 t3 _ (zd (o:=.tup [.str "right",.int (I:Int),.int ((J:Int)+1)]));have a:=((a1.trans a2).trans a3).trans a4;have L4:upd (upd (upd (upd H3 t1 (.tup [.str "both",.int ((I:Int)+1),.int ((J:Int)+1)])) t2 (.tup [.str "left",.int ((I:Int)+1),.int (J:Int)])) t3 (.tup [.str "right",.int (I:Int),.int ((J:Int)+1)])) so (.lst [.ref t1,.ref t2,.ref t3]) so=some (.lst [.ref t1,.ref t2,.ref t3]):=zd;generalize upd (upd (upd (upd H3 t1 (.tup [.str "both",.int ((I:Int)+1),.int ((J:Int)+1)])) t2 (.tup [.str "left",.int ((I:Int)+1),.int (J:Int)])) t3 (.tup [.str "right",.int (I:Int),.int ((J:Int)+1)])) so (.lst [.ref t1,.ref t2,.ref t3])=H4 at T1 ax ay a L4;clear a1 a2 a3 a4 h1 h2 h3 bc;have rc:Reps K H4 ((jz I J).map t3D) [.ref t1,.ref t2,.ref t3]:=⟨_,_,rfl,⟨t1,_,rfl,ua T1,_,_,rfl,rfl,_,_,rfl,rfl,_,_,rfl,rfl,rfl⟩,_,_,rfl,⟨t2,_,rfl,ua ax,_,_,rfl,rfl,_,_,rfl,rfl,_,_,rfl,rfl,rfl⟩,_,_,rfl,⟨t3,_,rfl,ua ay,_,_,rfl,rfl,_,_,rfl,rfl,_,_,rfl,rfl,rfl⟩,rfl⟩;refine⟨_,rfl,so,rfl,⟨_,u9 L4⟩,jM (K:=K) (a:=so) (xs:=[.ref t1,.ref t2,.ref t3]) (fun j zs H'=>Reps K H' ((((jz I J).take j).filter (inN u D)).map t3D) zs/\Same H4 H') ⟨rfl,uc _⟩ (fun j zs H' ⟨_,s'⟩=>u9 (s' _ _ L4)) ?_ ?_⟩
   ·rintro j x zs H5 hx ⟨rz,s5⟩
    obtain⟨d0,e1,r1⟩:=(rc.same s5).get hx;rw[zX] at e1;obtain⟨m,em,rfl⟩:=jb.mp e1;obtain⟨c,rfl,hc⟩:=wF r1;have zl:=rz.len;rw[zx] at zl;have zb:(((jz I J).take j).filter (inN u D)).length<=3:=jm (x6 _ _) (by rw[jq];exact V5 _ _)
    have no:inN u D m=false->Reps K H5 ((((jz I J).take (j+1)).filter (inN u D)).map t3D) zs/\Same H4 H5:=fun e=>by
     rw[wS em,zq (by rw[e];exact qx),xj]
     exact⟨rz,s5⟩
    refine⟨rfl,⟨_,rfl,c,_,_,_,rfl,rfl,hc,rfl,_,rfl,l,_,rfl,.inl (u9 (s5 _ _ (a _ _ L3))),_,_,rfl,rfl,_,rfl,qZ (fun c1=>?_) (fun c1=>ifF rfl (no ?_))⟩⟩
    ·have bn:((m.2.1:Nat):Int)<((u.map V.int).length:Int):=jH c1
     refine⟨_,rfl,c,_,_,_,rfl,rfl,hc,rfl,_,rfl,r,_,rfl,.inl (u9 (s5 _ _ (a _ _ R3))),_,_,rfl,rfl,_,rfl,qZ (fun c2=>?_) (fun c2=>no ?_)⟩
     ·have bo:((m.2.2:Nat):Int)<((D.map V.int).length:Int):=jH c2
      refine⟨_,rfl,by omega,?_,s5⟩
      rw[wS em,zw (by unfold inN;rw[zS (by omega),zS (by omega)];rfl),zY]
      exact uj r1 rz
     ·have bo:¬((m.2.2:Nat):Int)<((D.map V.int).length:Int):=fun z=>c2 (zS z)
      unfold inN;rw[jG (by omega:¬m.2.2<D.length),vp]
    ·have bn:¬((m.2.1:Nat):Int)<((u.map V.int).length:Int):=fun z=>c1 (zS z)
     unfold inN;rw[jG (by omega:¬m.2.1<u.length),yA]
   rintro O H5 ⟨ru,s5⟩;have ru:Reps K H5 (((jz I J).filter (inN u D)).map t3D) O:=ru;have ul:=ru.len;rw[zx] at ul;have ub:((jz I J).filter (inN u D)).length<=3:=x6 _ _;refine⟨by omega,fun U ak=>?_⟩
   have b1:=a.trans (s5.trans (zc (o:=.lst O) ak));have ai:=ru.same (zc (o:=.lst O) ak);have L6:upd H5 U (.lst O) U=some (.lst O):=zd;generalize upd H5 U (.lst O)=H6 at b1 ai L6;generalize ag:(jz I J).filter (inN u D)=ms at ai ub ul;refine⟨_,rfl,U,rfl,⟨_,u9 L6⟩,jM (K:=K) (a:=U) (xs:=O) (fun j zs H'=>Reps K H' (((ms.take j).filter (fun m=>qm u D g m.2.1 m.2.2)).map t3D) zs/\Same H6 H') ⟨rfl,uc _⟩ (fun j zs H' ⟨_,s'⟩=>u9 (s' _ _ L6)) ?_ ?_⟩
   ·rintro j x zs H7 hx ⟨rz,s7⟩
    obtain⟨d0,e1,r1⟩:=(ai.same s7).get hx;rw[zX] at e1;obtain⟨m,em,rfl⟩:=jb.mp e1;obtain⟨c,rfl,hc⟩:=wF r1;have zl:=rz.len;rw[zx] at zl;have zb:((ms.take j).filter (fun m=>qm u D g m.2.1 m.2.2)).length<=3:=jm (x6 _ _) (by rw[jq];omega)
    refine⟨rfl,⟨_,rfl,_,rfl,c,_,rfl,hc,(show ¬(HT.sIx 3 0 (some 1)=0/\HT.sIx 3 3 none=3) by decide),fun t4 h4=>?_⟩⟩
    have u8:=zc (o:=.tup (qk [.str m.1,.int (m.2.1:Int),.int (m.2.2:Int)] (some 1) none)) h4;have T8:upd H7 t4 (.tup (qk [.str m.1,.int (m.2.1:Int),.int (m.2.2:Int)] (some 1) none)) t4=some (.tup ((kyN m.2.1 m.2.2).map kV)):=zd;generalize upd H7 t4 (.tup (qk [.str m.1,.int (m.2.1:Int),.int (m.2.2:Int)] (some 1) none))=H8 at u8 T8;refine⟨_,rfl,d,_,rfl,ui (u8 _ _ (s7 _ _ (b1 _ _ D3))) T8,_,rfl,?_⟩
    rw[tb];refine qZ (fun c1=>⟨_,rfl,by omega,?_,s7.trans u8⟩) (fun c1=>⟨?_,s7.trans u8⟩)
    ·rw[wS em,zw c1,zY]
     exact uj (r1.same u8) (rz.same u8)
    ·rw[wS em,zq c1,xj]
     exact rz.same u8
   rintro Y H7 ⟨ap,s7⟩;have el:ms.take O.length=ms:=by rw[ul,jO]
   rw[el] at ap;have c0:=ap.len;rw[zx] at c0;have bz:(ms.filter (fun m=>qm u D g m.2.1 m.2.2)).length<=3:=jm (x6 _ _) ub
   refine⟨by omega,fun aj a0=>?_⟩
   have b2:=b1.trans (s7.trans (zc (o:=.lst Y) a0));have bd:=ap.same (zc (o:=.lst Y) a0);have L8:upd H7 aj (.lst Y) aj=some (.lst Y):=zd;have as:=(s7.trans (zc (o:=.lst Y) a0)) _ _ L6;have al:=ai.same (s7.trans (zc (o:=.lst Y) a0));generalize upd H7 aj (.lst Y)=H8 at b2 bd L8 as al;refine⟨fun σ' H'=>Ex3 fun(gp:Addr) (us:List V) (T:List (Str×Nat×Nat))=>An7 (σ'=[some (.ref b),some (.ref l),some (.ref r),some (.int g),some (.ref d),some (.int (I:Int)),some (.int (J:Int)),some (.ref q),some (.int (0+(i:Int))),some (.ref U),some (.ref gp),bf]) (Same H3 H') (H' gp=some (.lst us)) (Reps K H' (T.map t3D) us) (T.length<=3) ((∀m∈T,m∈jz I J)) ((aa≠[]->T=ms.filter (fun m=>qm u D g m.2.1 m.2.2))),?_,?_⟩
   ·refine⟨_,rfl,fun e he=>⟨d,e,aa,rfl,rfl,(zc he) _ _ (b2 _ _ D3),zd,_,rfl,?_⟩⟩
    have b3:=b2.trans (zc (o:=.dT []) he);have L9:=(zc (o:=.dT []) he) _ _ as;have au:=(zc (o:=.dT []) he) _ _ L8;have be:=al.same (zc (o:=.dT []) he);have am:=bd.same (zc (o:=.dT []) he);generalize upd H8 e (.dT [])=H9 at b3 L9 au be am;refine qZ (fun c1=>?_) (fun c1=>⟨aj,Y,_,rfl,b3,au,am,bz,fun m hm=>(xk.mp (ag▸(xk.mp hm).1:m∈(jz I J).filter (inN u D))).1,fun _=>rfl⟩)
    have ek:aa=[]:=by cases aa with | nil=>rfl | cons _ _=>cases c1
    refine⟨_,rfl,U,rfl,⟨_,u9 L9⟩,jM (K:=K) (a:=U) (xs:=O) (fun j zs H'=>(∃T,Reps K H' (T.map t3D) zs/\T.length<=j/\∀m∈T,m∈ms)/\Same H9 H') ⟨⟨[],(show Reps K H9 (([]:List (Str×Nat×Nat)).map t3D) [] from rfl),zJ _,(fun m hm=>nomatch hm)⟩,uc _⟩ (fun j zs H' ⟨_,s'⟩=>u9 (s' _ _ L9)) ?_ ?_⟩
    ·rintro j x zs Ha hx ⟨⟨T,rz,gl,gm⟩,sa⟩
     obtain⟨d0,e1,r1⟩:=(be.same sa).get hx;rw[zX] at e1;obtain⟨m,em,rfl⟩:=jb.mp e1;obtain⟨c,rfl,hc⟩:=wF r1;have hj:j<ms.length:=(zZ.mp em).1;have zl:=rz.len;rw[zx] at zl;have mi:inN u D m=true:=(xk.mp (ag▸qI em:m∈(jz I J).filter (inN u D))).2;unfold inN at mi;rw[jn] at mi;have m1:m.2.1<u.length:=jH mi.1;have m2:m.2.2<D.length:=jH mi.2;refine⟨rfl,⟨_,rfl,_,rfl,c,_,_,_,rfl,rfl,hc,rfl,l,_,_,_,rfl,rfl,u9 (sa _ _ (b3 _ _ L3)),jB m1,_,rfl,_,_,rfl,rfl,_,rfl,_,rfl,c,_,_,_,rfl,rfl,hc,rfl,r,_,_,_,rfl,rfl,u9 (sa _ _ (b3 _ _ R3)),jB m2,_,_,rfl,rfl,_,rfl,qZ (fun c2=>?_) (fun c2=>⟨⟨T,rz,by omega,gm⟩,sa⟩)⟩⟩
     refine⟨_,rfl,by omega,⟨T++[m],by rw[zY];exact uj r1 rz,by rw[qG];exact Nat.succ_le_succ gl,fun m' bq=>?_⟩,sa⟩
     rcases qC.mp bq with z | z
     ·exact gm m' z
     ·rw[qu.mp z];exact qI em
    ·rintro zs Ha ⟨⟨T,rz,gl,gm⟩,sa⟩
     have zl:=rz.len;rw[zx] at zl;refine⟨by omega,fun gp bb=>⟨gp,zs,T,rfl,b3.trans (sa.trans (zc bb)),zd,rz.same (zc bb),by omega,fun m hm=>(xk.mp (ag▸gm m hm:m∈(jz I J).filter (inN u D))).1,fun z=>absurd ek z⟩⟩
   rintro σ' H9 ⟨gp,us,T,rfl,s9,G9,R9,gb,gm,gk⟩;have gl:=R9.len;rw[zx] at gl;have ne:qm u D g 0 0=true->aa≠[]:=fun e z=>by
    have:=tb 0 0;rw[z,e] at this;cases this
   have S9:=S3.trans (ue s9);refine⟨_,rfl,le0,fun q0 M=>⟨gp,q0,us,rfl,rfl,u9 ((zc M) _ _ G9),u9 zd,_,rfl,qZ (fun c1=>?_) (fun c1=>?_)⟩⟩
   ·have gn:T=[]:=by
     cases T with
     | nil=>rfl
     | cons _ _=>
      cases us with
      | nil=>simp at gl
      | cons _ _=>cases c1
    refine⟨_,rfl,k q ws _ (S9.new M) ((((B3.same s9).new M)).mono (by omega)) ah NQ ((zc M) _ _ (s9 _ _ Q3)) (by omega) ww fun e=>?_⟩
    obtain⟨w1,w2⟩:=wk e;rw[w1];refine congrArg some (zbI w2 ?_)
    rw[ag,<- gk (ne e)];exact gn
   have ba:0<us.length:=by
    cases us with
    | nil=>exact absurd rfl c1
    | cons _ _=>exact yw _
   have L:=(zc (o:=.lst []) M) _ _ G9;have af:=R9.same (zc (o:=.lst []) M);have aw:=S9.new (o:=.lst []) M;have ac:=(B3.same s9).new (o:=.lst []) M;have av:=(zc (o:=.lst []) M) _ _ (s9 _ _ Q3);have aq:=(zc (o:=.lst []) M) _ _ (s9 _ _ D3);generalize upd H9 q0 (.lst [])=c5 at L af aw ac av aq;have bu:gp≠b:=fun z=>by
    obtain⟨b0,c7,c8,eb,_⟩:=ac;rw[z,eb] at L;injection L with L;injection L with L;cases T with
    | nil=>rw[show us=[] from af] at ba;exact absurd ba (by decide)
    | cons m ca=>
     obtain⟨v,rr,e,hv,_⟩:=af;obtain⟨c,rfl,_⟩:=wF hv;rw[e] at L;cases L
   refine⟨_,rfl,_,rfl,_,rfl,gp,us,rfl,.inl (u9 L),b,_,_,rfl,ac,by omega,by omega,by omega,fun x c6 x0 x1 bh ab=>?_⟩
   have bi:=ab _ _ L bu;have an:=ab _ _ av ah;have ar:=ab _ _ aq bt;have bm:=uh ac ab;have bj:=af.keep bm (Wq _);obtain⟨v,ev,bp⟩:=JV (xs:=us) x0 x1;obtain⟨d0,e1,r1⟩:=bj.get bp;rw[zX] at e1;obtain⟨m,em,rfl⟩:=jb.mp e1;obtain⟨c,rfl,hc⟩:=wF r1;have hm:=qI em;have mc:=gm m hm;refine⟨gp,us,x,_,rfl,rfl,u9 bi,ev,c,_,rfl,hc,rfl,_,_,rfl,_,_,rfl,_,_,rfl,rfl,?_⟩
   refine⟨_,rfl,.inl ⟨rfl,_,u9 an⟩,_,rfl,q,_,_,rfl,rfl,an,by rw[zx];omega,?_⟩
   refine⟨_,_,_,_,m.2.1,m.2.2,ws++[m.1],rfl,(aw.trans ab).put NQ,(bh.other ah).mono (by omega),?_,by rw[zd,zY];rfl,by rw[qG,wl];rfl,?_,fun y hy=>?_,fun e=>?_⟩
   ·rw[zm (xW ar an (by intro z;cases z))]
    exact ar
   ·unfold jz at mc
    simp only[zW,wj,or_false] at mc;rcases mc with rfl | rfl | rfl<;>simp only<;>omega
   ·rcases qC.mp hy with z | z
    ·exact ww y z
    ·rw[qu.mp z]
     unfold jz at mc;simp only[zW,wj,or_false] at mc;rcases mc with rfl | rfl | rfl
     ·exact .inl rfl
     ·exact .inr (.inl rfl)
     ·exact .inr (.inr rfl)
   ·obtain⟨w1,w2⟩:=wk e
    have hb:qm u D g m.2.1 m.2.2=true:=by
     have:=hm;rw[gk (ne e)] at this;exact(xk.mp this).2
    refine⟨?_,hb⟩
    rw[zY,wE,w1];show(jE (.str m.1) (zU u D g I J)).bind (fun p'=>qT u D g p' [])=_
    rw[zah mc hb];rfl
  ·rintro σ H3 ⟨v8,v9,c3,bf,I,J,ws,rfl,S3,B3,D3,Q3,wl,bg,ww,wk⟩
   rw[eN] at B3 wl bg;refine⟨_,rfl,k q ws H3 S3 (B3.mono (by omega)) ah NQ Q3 (by omega) ww fun e=>?_⟩
   obtain⟨w1,w2⟩:=wk e;obtain⟨h1,h2,_⟩:=Zh w2;omega
def xg:List Int->List Bool
 | p::q::r=>decide (jZ (p-q)<=1)::xg (q::r)
 | _=>[]
theorem Qw:∀l:List Int,(xg l).length=l.length-1
 | []=>rfl
 | [_]=>rfl
 | p::q::r=>by
  have:=Qw (q::r);show(xg (q::r)).length+1=_;rw[this];simp
theorem Qy:∀{l:List Int} {i:Nat} {p q:Int},l[i]? =some p->l[i+1]? =some q->(xg l)[i]? =some (decide (jZ (p-q)<=1))
 | [],_,_,_,h,_=>by simp at h
 | [_],i,_,_,_,h=>by simp at h
 | a::b::r,0,p,q,f,g=>by simp at f g;subst f;subst g;rfl
 | a::b::r,i+1,p,q,f,g=>Qy (l:=b::r) (i:=i) (by simpa using f) (by simpa using g)
def Chn:Int->List Int->Prop
 | _,[]=>True
 | a,b::r=>jZ (a-b)<=1/\Chn b r
theorem Q1:∀{a:Int} {l:List Int},Chn a l->(xg (a::l)).all id=true
 | a,[],_=>rfl
 | a,b::r,h=>by
  show(decide (jZ (a-b)<=1)&&(xg (b::r)).all id)=true;rw[Q1 h.2,zS h.1];rfl
def wP(a:Int):List Int->Int
 | []=>a
 | b::r=>wP b r
theorem ZI:∀(a:Int) (l:List Int) (z:Int),wP a (l++[z])=z
 | a,[],z=>rfl
 | a,b::r,z=>ZI b r z
theorem wO:∀(a:Int) (l m:List Int),wP a (l++m)=wP (wP a l) m
 | a,[],m=>rfl
 | a,b::r,m=>wO b r m
theorem xB:∀{a:Int} {l m:List Int},Chn a l->Chn (wP a l) m->Chn a (l++m)
 | a,[],m,_,h=>h
 | a,b::r,m,f,g=>⟨f.1,xB f.2 g⟩
theorem JR(a:Int):∀n:Nat,Chn a (List.replicate n a)
 | 0=>trivial
 | n+1=>⟨by unfold jZ;split<;>omega,JR a n⟩
theorem ZH(a:Int):∀n:Nat,wP a (List.replicate n a)=a
 | 0=>rfl
 | n+1=>ZH a n
theorem Ym(p q:Int×Int):∀n:Nat,Chn p.1 (Zt p q n)/\wP p.1 (Zt p q n)=xh p.1 q.1 n
 | 0=>⟨trivial,(zeQ _ _).symm⟩
 | n+1=>by
  obtain⟨f,g⟩:=Ym p q n;rw[QN];refine⟨xB f ⟨?_,trivial⟩,by rw[ZI];rfl⟩
  rw[g];exact zbg _ _ _ (by omega)
theorem zbF(k:Nat)(p q:Int×Int):Chn p.1 (Zr k p q)/\wP p.1 (Zr k p q)=q.1:=by
 obtain⟨g,f⟩:=Ym p q (vX p.1 p.2 q.1 q.2).toNat;have l:=Vv p.1 p.2 q.1 q.2;have j:=((Vw p.1 p.2 q.1 q.2 _).mp (Int.le_refl _)).1;have e:xh p.1 q.1 (((vX p.1 p.2 q.1 q.2).toNat:Nat):Int)=q.1:=by
  rw[show(((vX p.1 p.2 q.1 q.2).toNat:Nat):Int)=vX p.1 p.2 q.1 q.2 by omega]
  exact zbh _ _ _ j
 rw[e] at f;unfold Zr;refine⟨xB g (by rw[f];exact JR _ _),by rw[wO,f,ZH]⟩
theorem Vi(k:Nat):∀(f:List (Int×Int)),Chn (wa f) (xG k f).flatten
 | []=>trivial
 | [_]=>trivial
 | p::q::r=>by
  obtain⟨g,j⟩:=zbF k p q;show Chn p.1 (Zr k p q++(xG k (q::r)).flatten);refine xB g ?_
  rw[j];exact Vi k (q::r)
theorem Zk(k:Nat)(f:List (Int×Int)):xo k f (f.length-1)=wa f::(List.replicate k (wa f)++(xG k f).flatten):=by
 rw[Wp,ZW,ZU];rfl
theorem Wo(k:Nat)(f:List (Int×Int)):Chn (wa f) (List.replicate k (wa f)++(xG k f).flatten):=
 xB (JR _ _) (by rw[ZH];exact Vi k f)
theorem zaw(k:Nat)(f:List (Int×Int)):(xg (xo k f (f.length-1))).all id=true:=by
 rw[Zk];exact Q1 (Wo k f)
theorem YU(k:Nat){f:List (Int×Int)}(h:f≠[]):(((xo k f (f.length-1)).length:Nat):Int)=1+(k:Int)*(f.length:Int)+(yG f).sum:=by
 rw[Wp,qG,xc];have:=QM k f;have g:0<f.length:=je.mpr h;have e:(k:Int)*(f.length:Int)=k*((f.length-1:Nat):Int)+k:=by
  have:(f.length:Int)=((f.length-1:Nat):Int)+1:=by omega
  rw[this,Int.mul_add];simp
 omega
inductive WE(K:W.Frag)(j:List V)(H:Hp)(Q:VK):Prop
 | mk (a:Addr) (f:List Int) (_:j=[.ref a]) (_:H a=some (.lst (f.map V.int))) (_:f≠[]) (_:f.length<=900000) (_:(∀z∈f,z.natAbs<=1000000)) (_:∀g,Same H g->Q (.bl ((xg f).all id)) g):WE K j H Q
def zcY(K:W.Frag):Sp:=fun f H Q _=>WE K f H Q
theorem zc5:zI ["thing"] ["thing"] (zv (topL 21)):=u7
theorem zdW{f:Addr}{fd:FuncData}(F:Fun K "is_track" "is_track" (topL 21) f fd)(B:Blt G)(j:Dfn P w K G C "is_number" 1 ["thing"] zaE):FnOk P w K G C CX0 2 f fd ["thing"] (zcY K):=by
 have nd:=zc5.nd;refine F.ok zc5 (fun vs H Q E h=>?_) (fun ag A ac s H vs Q E hr h=>?_)
 ·obtain⟨a,g,rfl,_⟩:=h
  rfl
 ·obtain⟨a,g,rfl,ha,ab,hl,hz,k⟩:=h
  have ae:=bG1000000;have af:0<g.length:=je.mpr ab;refine⟨_,(zg (qH (uf (vZ (xL (jJ (zo xY rfl B.isinstance boot_isinstance (za (pv 0) (za (vQ (v:=.ty "list") rfl B.list xt rfl) ze))))) (vZ (zG v1 (zo zA rfl B.len boot_len (za (pv 0) ze)) zf (zE _)) (vb (xL (jJ (zo (jX rfl) rfl B.all boot_all (za (vD [] [] rfl rfl (by kernel_rfl) (qz (pv 0)) (fun _ _ _ _=>qV) (fun _ _ _ _=>(zn j hr.m rfl (za (pv 0) ze)))) ze))))))))
   (zk (zC jP))
   zQ)
   (zk (zC (zo (jX rfl) rfl B.all boot_all (za (Zx [] [] rfl rfl (by kernel_rfl) (VI rfl B.zip (za (pv 0) (za (ja jI (pv 0) (qX zf) j4) ze))) (fun _ _ _ _=>qV) (fun _ _ _ _=>(qv yK (zo vL rfl B.abs vM (za (zr jk (pv 0) (pv 1)) ze)) zf (zE _)))) ze))))),?_⟩
  refine⟨_,rfl,.ref a, "list", "list",rfl,(.inl ⟨rfl,_,u9 ha⟩),(by decide),_,rfl,ifF (by decide) ?_⟩
  refine⟨_,rfl,a,_,rfl,.inl (u9 ha),rfl,_,rfl,ifF (by rw[zx];simp;omega) ?_⟩
  refine⟨_,rfl,a,rfl,⟨_,u9 ha⟩,jM (K:=K) (a:=a) (xs:=g.map V.int) (fun i l J=>l=List.replicate i (V.bl true)/\Same H J) ⟨rfl,uc _⟩ (fun i l J ⟨_,O⟩=>u9 (O _ _ ha)) ?_ ?_⟩
  ·rintro i x l J hx ⟨rfl,O⟩
   rw[zX] at hx;obtain⟨z,ez,rfl⟩:=jb.mp hx;have hi:i<g.length:=(zZ.mp ez).1;have ah:=hz z (qI ez);refine⟨rfl,⟨_,rfl,z,rfl,?_,?_,O⟩⟩
   ·rw[xc];omega
   ·rw[Jk]
  rintro l J ⟨rfl,O⟩;refine⟨by rw[xc,zx];omega,fun D hD=>⟨D,List.replicate (g.map V.int).length true,rfl,u9 (by rw[zd,Jh]),_,rfl,ifF (by simp) ?_⟩⟩
  have s2:=O.trans (zc (o:=.lst (List.replicate (g.map V.int).length (V.bl true))) hD);generalize upd J D (.lst (List.replicate (g.map V.int).length (V.bl true)))=H2 at s2;have aa:=s2 _ _ ha;refine⟨_,rfl,_,rfl,1,rfl,a,_,rfl,u9 aa,fun t ht=>?_⟩
  have s3:=s2.trans (zc (o:=.lst (qk (g.map V.int) (some 1) none)) ht);have u:upd H2 t (.lst (qk (g.map V.int) (some 1) none)) t=some (.lst ((g.map V.int).drop 1)):=by rw[zd,Q0]
  generalize upd H2 t (.lst (qk (g.map V.int) (some 1) none))=H3 at s3 u;have N:=s3 _ _ ha;refine⟨true,true,a,t,rfl,⟨_,u9 N⟩,⟨_,u9 u⟩,?_⟩
  have sl:=Qw g;refine zbm (K:=K) (k1:=true) (k2:=true) (xs:=g.map V.int) (ys:=(g.map V.int).drop 1) (fun i l U=>l=((xg g).take i).map V.bl/\Same H3 U) ⟨rfl,uc _⟩ (fun i l U ⟨_,I⟩=>⟨I.seq (u9 N),I.seq (u9 u)⟩) ?_ ?_
  ·rintro i x y l U T e1 e2 ⟨rfl,I⟩ hT
   have L:(g.map V.int)[i+1]? =some y:=by rw[Jj] at e2;rw[ZW];exact e2
   rw[zX] at e1 L;obtain⟨z1,Y,rfl⟩:=jb.mp e1;obtain⟨z2,M,rfl⟩:=jb.mp L;have hi:i+1<g.length:=(zZ.mp M).1;refine⟨T,_,rfl,ua zd,rfl,_,_,rfl,_,_,rfl,rfl,rfl,?_⟩
   refine⟨_,rfl,_,rfl,_,_,rfl,rfl,_,rfl,_,_,rfl,rfl,?_,?_,I.trans (zc hT)⟩
   ·rw[zx,jq];omega
   ·rw[qe (Qy Y M),zY];rfl
  ·rintro l U ⟨rfl,I⟩
   have hm:min (g.map V.int).length ((g.map V.int).drop 1).length=(xg g).length:=by rw[sl,wZ,zx];omega
   rw[hm,jO];refine⟨by rw[zx];omega,fun D2 a0=>⟨D2,xg g,rfl,u9 zd,k _ ((s3.trans I).trans (zc a0))⟩⟩
theorem zbG:∀{a:Int} {l:List Int},Chn a l->∀z∈l,(z-a).natAbs<=l.length
 | _,[],_,z,h=>by cases h
 | a,b::r,h,z,hz=>by
  have f:=h.1;have:(a-b).natAbs<=1:=by unfold jZ at f;split at f<;>omega
  rcases zW.mp hz with e | hz
  ·rw[e,jr];omega
  ·have:=zbG h.2 z hz
   rw[jr];omega
theorem zbf{f:Int}{p q:Int×Int}(h:vF f p)(g:vF f q):vX p.1 p.2 q.1 q.2<=15:=by
 obtain⟨a1,a2,a3,a4⟩:=h;obtain⟨b1,b2,b3,b4⟩:=g;exact(Vw _ _ _ _ _).mpr ⟨by unfold jZ;split<;>omega,by unfold jZ;split<;>omega⟩
theorem XV{l:Int}:∀{ps:List (Int×Int)},(∀p∈ps,vF l p)->(yG ps).sum<=15*((ps.length-1:Nat):Int)
 | [],_=>by show(0:Int)<=_;omega
 | [_],_=>by show(0:Int)<=_;omega
 | p::q::r,h=>by
  have j:=XV (ps:=q::r) fun z hz=>h z (jv _ hz)
  have w:=zbf (h p (by simp)) (h q (by simp))
  show(vX p.1 p.2 q.1 q.2::yG (q::r)).sum<=_;rw[List.sum_cons];have f:((q::r).length-1:Nat)=r.length:=by simp
  have g:((p::q::r).length-1:Nat)=r.length+1:=by simp
  rw[f] at j;rw[g];omega
theorem VN{g:Int}{J:Job}{t:jw}(n:Yq g J)(h:yZ J t):∀p∈jC J t,vF g p:=by
 intro p hp;unfold jC at hp;rcases qC.mp hp with hp | hp
 ·rcases qC.mp hp with hp | hp
  ·rcases qC.mp hp with hp | hp
   ·rw[qu.mp hp];exact n.g
   ·obtain⟨x,hx,rfl⟩:=jS.mp hp
    have f:=h.f x hx;have e:J.fs[x.2]? =some J.fs[x.2]:=by simp[f]
    unfold fpl;rw[e];exact n.f _ (xZ f)
  ·obtain⟨x,hx,rfl⟩:=jS.mp hp
   have f:=h.p x hx;have e:J.ps[x]? =some J.ps[x]:=by simp[f]
   unfold ppl;rw[e];exact n.p _ (xZ f)
 ·rw[qu.mp hp];exact n.g
theorem Qt{J:Job}:∀{ts:List jw},(∀t∈ts,TripOk J t)->(qw J ts).length<=4*(jW ts).length/\ts.length<=(jW ts).length
 | [],_=>⟨zJ _,zJ _⟩
 | t::ts,h=>by
  obtain⟨B,D⟩:=Qt (ts:=ts) fun A f=>h A (jv _ f)
  have g:=h t (by simp)
  have l:=g.ly.length_eq;have E:=g.p1;rw[zx] at l;have j:(qw J (t::ts)).length=(jC J t).length+(qw J ts).length:=by
   show(jC J t++qw J ts).length=_;rw[qG]
  have s:(jW (t::ts)).length=t.ly.length+(jW ts).length:=by
   show(t.ly++jW ts).length=_;rw[qG]
  have u:(jC J t).length=2+t.pk.length+t.ly.length:=by
   unfold jC;simp only[qG,zx,Wd];omega
  rw[j,s,u,jr];omega
structure ze9(ls:List Int):Prop where
 ne:ls≠[]
 len:ls.length<=400
 bd:∀z∈ls,z.natAbs<=1000000
 st:(xg ls).all id=true
theorem zav{D:Int}{J:Job}{os:List Nat}{f:List jw}{k:Nat}(n:Yq D J)(u:wr J (List.range J.ps.length))(s:zbT J os f)(I:os.length=J.ps.length)(hk:k<=4):ze9 (xo k (qo J f) ((qo J f).length-1)):=by
 have A:∀t∈f,yZ J t:=fun t j=>(s.tr t j).bd u.hd1
 obtain⟨N,O⟩:=Qt s.tr;have Q:=s.sub.length_le;have M:=n.n;have g:∀p∈qo J f,vF D p:=by
  intro p hp;unfold qo at hp;split at hp
  ·rw[qu.mp hp];exact n.g
  ·unfold qw at hp
   obtain⟨t,j,h⟩:=Xb.mp hp;exact VN n (A t j) p h
 have E:(qo J f).length<=12:=by
  unfold qo;split
  ·show 1<=12;decide
  ·omega
 have l:=(Zl A (by omega)).2
 have L:0<(qo J f).length:=je.mpr l;have B:(xo k (qo J f) ((qo J f).length-1)).length<=300:=by
  have e:=YU k l;have w:=XV g;have m:(k:Int)*((qo J f).length:Int)<=4*12:=Int.mul_le_mul (by omega) (by omega) (by omega) (by omega)
  omega
 have H:0<=wa (qo J f)/\wa (qo J f)<=1000:=by
  have h:=Qv u f;cases e:qo J f with
  | nil=>exact absurd e l
  | cons p r=>
   have:=h p (by rw[e];exact xn ..)
   exact⟨this.1,this.2.1⟩
 refine⟨by rw[Zk];exact List.cons_ne_nil _ _,by omega,fun z hz=>?_,zaw k _⟩
 rw[Zk] at hz B;rw[jr] at B;rcases zW.mp hz with e | hz
 ·omega
 ·have:=zbG (Wo k _) z hz
  omega
theorem zcD{ls rs:List Int}{g:Int}{t:Str}(h:Wrd t):∃a b:Nat,(if inV (.str t) [.str "both",.str "left"]=true then(1:Int) else 0)=(a:Int)/\(if inV (.str t) [.str "both",.str "right"]=true then(1:Int) else 0)=(b:Int)/\∀i j,jE (.str t) (zU ls rs g i j)=if okN ls rs g (i+a) (j+b)=true then some (i+a,j+b) else none:=by
 rcases h with rfl | rfl | rfl
 ·refine⟨1,1,by decide,by decide,fun i j=>?_⟩
  rw[jN,z7,z7,z7,show(("both":Str) == "both")=true by decide,show(("left":Str) == "both")=false by decide,show(("right":Str) == "both")=false by decide]
  simp
 ·refine⟨1,0,by decide,by decide,fun i j=>?_⟩
  rw[jN,z7,z7,z7,show(("both":Str) == "left")=false by decide,show(("left":Str) == "left")=true by decide,show(("right":Str) == "left")=false by decide]
  simp
 ·refine⟨0,1,by decide,by decide,fun i j=>?_⟩
  rw[jN,z7,z7,z7,show(("both":Str) == "right")=false by decide,show(("left":Str) == "right")=false by decide,show(("right":Str) == "right")=true by decide]
  simp
theorem zbW{f j:List Int}{g:Int}{l:List Str}{n I J:Nat}{z:Str}(L:∀x∈l,Wrd x)(A:qT f j g (0,0) (l.map Dat.str)=some (wz f j))(hz:((("":Str)::l))[n]? =some z)(e:qT f j g (0,0) ((l.take (n-1)).map Dat.str)=some (I,J))(ok:okN f j g I J=true) :
  ∃a b:Nat,(if inV (.str z) [.str "both",.str "left"]=true then(1:Int) else 0)=(a:Int)/\(if inV (.str z) [.str "both",.str "right"]=true then(1:Int) else 0)=(b:Int)/\okN f j g (I+a) (J+b)=true/\qT f j g (0,0) ((l.take (n+1-1)).map Dat.str)=some (I+a,J+b):=by
 cases n with
 | zero=>
  cases hz;exact⟨0,0,by decide,by decide,ok,e⟩
 | succ m=>
  have u:l[m]? =some z:=by simpa using hz
  obtain⟨a,b,D,E,H⟩:=zcD (ls:=f) (rs:=j) (g:=g) (L z (qI u));have B:qT f j g (0,0) ((l.map Dat.str).take m)=some (I,J):=by rw[<- ZX];exact e
  have s:=Qk (d:=.str z) (by rw[zX,u];rfl) B
  rw[H] at s;rw[show m+1+1-1=m+1 from rfl,ZX]
  cases o:okN f j g (I+a) (J+b) with
  | false=>
   rw[o,zq (by decide)] at s
   rw[Ql s] at A;cases A
  | true=>
   rw[o,zw rfl] at s;exact⟨a,b,D,E,o,s⟩
theorem zdd{f l:List Int}{g:Int}{i j:Nat}(h:okN f l g i j=true):atI (f.map V.int) (i:Int)=some (.int (f.getD i 0))/\atI (l.map V.int) (j:Int)=some (.int (l.getD j 0))/\f.getD i 0+g<=l.getD j 0:=by
 obtain⟨s,u⟩:=ZC h;unfold okN jD at h;rw[zS s,zS u] at h;refine⟨qP (by rw[zX,Vs];simp[s]),qP (by rw[zX,Vs];simp[u]),?_⟩
 simp at h;simpa using h
inductive QK(K:W.Frag)(A:List V)(H:Hp)(Q:VK):Prop
 | mk (l r q:Addr) (f j:List Int) (g:Int) (s:List Str) (_:A=[.ref l,.ref r,.int g,.ref q]) (_:SqL K H l (f.map V.int)) (_:SqL K H r (j.map V.int)) (_:f≠[]) (_:j≠[]) (_:H q=some (.lst (s.map V.str))) (_:s.length<=1000) (_:(∀x∈s,Wrd x)) (_:okN f j g 0 0=true) (_:qT f j g (0,0) (s.map Dat.str)=some (wz f j)) (_:∀u,Same H u->Q (.bl true) u):QK K A H Q
def WJ(K:W.Frag):Sp:=fun f H Q _=>QK K f H Q
theorem WT:zI ["_law_left","_law_right_here","_law_gap","_law_moves","_law_i","_law_j","_law_word","_law_ahead"] ["_law_left","_law_right_here","_law_gap","_law_moves"] (zv (topL 39)):=u7
theorem zbe{f:Addr}{fd:FuncData}(F:Fun K "_law_apart" "_law_apart" (topL 39) f fd)(B:Blt G):FnOk P w K G C CX0 1 f fd ["_law_left","_law_right_here","_law_gap","_law_moves"] (WJ K):=by
 have Y:=WT.nd;refine F.ok WT (fun vs H Q E h=>?_) (fun ag A ac s H vs Q E hr h=>?_)
 ·obtain⟨l,r,q,D,L,g,U,rfl,_⟩:=h
  rfl
 ·obtain⟨l,r,q,D,L,g,U,rfl,hl,M,nl,nr,hq,wl,ww,ab,wk,k⟩:=h
  have hu:=hr.units0;have af:=bG100000;refine⟨_,(zg (jK (zN (za zf (za zf ze))) (qR rfl (zu (zp (i:=4) Y rfl (Or.inl rfl)) (zu (zp (i:=5) Y rfl (Or.inl rfl)) qq))))
   (zg (qJ jc rfl (qz (zr yp (zT (za xM ze)) (pv 3))) (zp (i:=6) Y rfl (Or.inl rfl))
   (zg (zF (i:=7) Y rfl (Or.inl rfl) (zr jk (zy zH (pv 0) (pv 4) (fun _ _=>rfl)) (zy zH (pv 1) (pv 5) (fun _ _=>rfl))))
    (zg (VG (i:=4) (j:=5) rfl Y rfl rfl (by decide) rfl rfl (za (zr zD (pv 4) (jg xr rfl B.int xC (za (qv vR (pv 6) (zN (za xM (za xM ze))) (by with_unfolding_all rfl)) ze))) (za (zr zD (pv 5) (jg xr rfl B.int xC (za (qv vR (pv 6) (zN (za xM (za xM ze))) (by with_unfolding_all rfl)) ze))) ze)) (by rfl))
    (zk (qH (uf (vZ (zG wL (zr zD (zy zH (pv 0) (pv 4) (fun _ _=>rfl)) (pv 2)) (zy zH (pv 1) (pv 5) (fun _ _=>rfl)) (zE _)) (vb (zG wL (zr zD (zr jk (zr zD (pv 7) (zy zH (pv 0) (pv 4) (fun _ _=>rfl))) (zy zH (pv 1) (pv 5) (fun _ _=>rfl))) (zr xy zf (pv 2))) zf (zE _)))))
    (zk (zC jP))
    zQ)))))
   (zk (zC (qv (za3 hu) (zN (za (pv 4) (za (pv 5) ze))) (zN (za (zr jk (zo zA rfl B.len boot_len (za (pv 0) ze)) zf) (za (zr jk (zo zA rfl B.len boot_len (za (pv 1) ze)) zf) ze))) (zE _)))))),?_⟩
  refine⟨le2,fun t ht=>⟨t,_,rfl,ua zd,rfl,_,_,rfl,_,_,rfl,rfl,?_⟩⟩
  have s1:=zc (o:=.tup [.int 0,.int 0]) ht;generalize upd H t (.tup [.int 0,.int 0])=H1 at s1;refine⟨le1,fun e he=>⟨_,rfl,e,q,_,_,rfl,rfl,zd,(zc he) _ _ (s1 _ _ hq),?_,fun c hc=>?_⟩⟩
  ·rw[zx];show 1+_<=sizeLine;omega
  have s2:=s1.trans (zc (o:=.lst [.str ""]) he);have s3:=s2.trans (zc (o:=.lst ([.str ""]++U.map V.str)) hc);have C3:upd (upd H1 e (.lst [.str ""])) c (.lst ([.str ""]++U.map V.str)) c=some (.lst ((("":Str)::U).map V.str)):=zd;generalize upd (upd H1 e (.lst [.str ""])) c (.lst ([.str ""]++U.map V.str))=H3 at s3 C3;refine⟨c,rfl,⟨_,u9 C3⟩,xA (K:=K) (a:=c) (xs:=(("":Str)::U).map V.str) (fun n σ H'=>Ex4 fun(I J:Nat) (v6 v7:Option V)=>An5 (σ=[some (.ref l),some (.ref r),some (.int g),some (.ref q),some (.int (I:Int)),some (.int (J:Int)),v6,v7]) (Same H H') (Same H3 H') (qT D L g (0,0) ((U.take (n-1)).map Dat.str)=some (I,J)) (okN D L g I J=true)) ⟨0,0,_,_,rfl,s3,uc _,rfl,ab⟩ (fun n σ H' _ ⟨_,_,_,_,_,_,s,_,_⟩=>u9 (s _ _ C3)) ?_ ?_⟩
  ·rintro n x σ H4 hx ⟨I,J,v6,v7,rfl,s4,aa,e,ok⟩
   rw[zX] at hx;obtain⟨z,hz,rfl⟩:=jb.mp hx;obtain⟨a,b,d1,d2,a0,e'⟩:=zbW ww wk hz e ok;obtain⟨i1,i2,i3⟩:=zdd ok;obtain⟨j1,j2,j3⟩:=zdd a0;refine⟨_,rfl,_,rfl,l,_,_,_,rfl,rfl,s4.seq hl,i1,_,rfl,_,rfl,r,_,_,_,rfl,rfl,s4.seq M,i2,_,_,rfl,rfl,?_⟩
   refine⟨_,rfl,_,rfl,le2,fun t1 h1=>⟨t1,_,rfl,.inr (ua zd),rfl,rfl,.inr ⟨_,rfl,_,_,rfl,rfl,?_⟩⟩⟩
   refine⟨_,rfl,_,rfl,le2,fun t2 h2=>⟨t2,_,rfl,.inr (ua zd),rfl,rfl,.inr ⟨_,rfl,_,_,rfl,rfl,?_⟩⟩⟩
   refine⟨_,_,rfl,?_⟩
   have c1:(I:Int)+(if inV (.str z) [.str "both",.str "left"]=true then(1:Int) else 0)=((I+a:Nat):Int):=by rw[d1];rfl
   have c2:(J:Int)+(if inV (.str z) [.str "both",.str "right"]=true then(1:Int) else 0)=((J+b:Nat):Int):=by rw[d2];rfl
   have O:=j1;have T:=j2;rw[<- c1] at O;rw[<- c2] at T;have u:=(zc (o:=.tup [.str "both",.str "left"]) h1).trans (zc (o:=.tup [.str "both",.str "right"]) h2);have N:=s4.trans u;have ae:=aa.trans u;refine⟨_,rfl,_,rfl,l,_,_,_,rfl,rfl,N.seq hl,O,_,rfl,_,_,rfl,rfl,_,rfl,_,rfl,r,_,_,_,rfl,rfl,N.seq M,T,_,_,rfl,rfl,_,rfl,?_⟩
   refine ifF (jG (by omega)) ?_
   refine⟨_,rfl,_,rfl,_,rfl,l,_,_,_,rfl,rfl,N.seq hl,O,_,_,rfl,rfl,_,rfl,_,rfl,r,_,_,_,rfl,rfl,N.seq M,T,_,_,rfl,rfl,_,rfl,_,_,rfl,rfl,.inl ⟨by decide,by decide⟩,_,_,rfl,rfl,_,_,rfl,rfl,_,rfl,ifF (jG (by omega)) ?_⟩
   refine⟨I+a,J+b,some (.str z),some (.int (D.getD I 0-L.getD J 0)),?_,N,ae,e',a0⟩
   show [some (V.ref l),some (V.ref r),some (V.int g),some (V.ref q),some (V.int ((I:Int)+(if inV (.str z) [.str "both",.str "left"]=true then(1:Int) else 0))),some (V.int ((J:Int)+(if inV (.str z) [.str "both",.str "right"]=true then(1:Int) else 0))),some (.str z),some (.int (D.getD I 0-L.getD J 0))]=_
   rw[c1,c2]
  ·rintro σ H4 ⟨I,J,v6,v7,rfl,s4,aa,e,ok⟩
   have el:(D.map V.int).length=D.length:=zx ..;have er:(L.map V.int).length=L.length:=zx ..;have ee:(I,J)=wz D L:=by
    rw[zx,jr,Nat.add_sub_cancel,Vr (zJ _),wk] at e;exact(qW e).symm
   have p1:0<D.length:=je.mpr nl;have p2:0<L.length:=je.mpr nr;have e1:(I:Int)=(D.length:Int)-1:=by have:=congrArg Prod.fst ee;show(I:Int)=_;unfold wz at this;simp only at this;omega
   have e2:(J:Int)=(L.length:Int)-1:=by have:=congrArg Prod.snd ee;unfold wz at this;simp only at this;omega
   refine⟨_,rfl,_,rfl,le2,fun t1 h1=>?_⟩
   have u1:=zc (o:=.tup [.int (I:Int),.int (J:Int)]) h1;have N:=s4.trans u1;refine⟨_,rfl,l,_,rfl,.inl (N.seq hl),_,_,rfl,rfl,_,rfl,r,_,rfl,.inl (N.seq M),_,_,rfl,rfl,le2,fun t2 h2=>?_⟩
   have u2:=zc (o:=.tup [.int (((D.map V.int).length:Int)-1),.int (((L.map V.int).length:Int)-1)]) h2;refine⟨t1,t2,_,_,rfl,rfl,ua (u2 _ _ zd),ua zd,rfl,rfl,?_⟩
   rw[el,er,<- e1,<- e2];have:(if false=true then !Zb [V.int (I:Int),V.int (J:Int)] [V.int (I:Int),V.int (J:Int)] else Zb [V.int (I:Int),V.int (J:Int)] [V.int (I:Int),V.int (J:Int)])=true:=by
    simp[Zb,eqV]
   rw[this];refine k _ (N.trans ?_)
   rw[el,er,<- e1,<- e2] at u2;exact u2
end
section
variable{X:Cx}{f:Pos}
inductive ze2(K:W.Frag)(n:Nat)(t:TGs)(v:V)(σ:St)(H:Hp)(Q:St->Hp->Prop):Prop
 | mk (a:Addr) (g:List V) (_:v=.ref a) (_:SqL K H a g) (_:g.length=n) (_:t g σ H Q):ze2 K n t v σ H Q
theorem zdD{g:List Expr}{k:Nat}{t:TGs}{n:Nat}(hc:X.calm=true)(h:PGs X g t)
  (E:(assignEach g X.env).length=n:=by rfl) (l:(assignEach g X.env).findIdx? (·.1)=none:=by rfl):PG X (.Tuple g k f) (ze2 X.K n t):=by
 intro j s σ H v u Q I r w;obtain⟨a,J,C,hq,D,w⟩:=w;subst C;cases r;obtain⟨A,B,G,hz⟩:=I.list hq;rw[assign_Tuple];refine zj (xi ?_)
 unfold unpack;rw[l,show(assignEach g X.env).length=A.toArray.size by simp[E,<- D,B.length]]
 refine zj (wg (PySem.W.kun_itemsOf (I.ok.hd hc) G.isList fun L hx=>?_))
 exact h j _ σ H J _ Q (I.kept (t':=s.toks) fun b o e=>hx b o (z9 (zK e)) e) B w
end
theorem zcK(f:List V)(n:Nat):qk f none (some (n:Int))=f.take n:=by
 unfold qk;rw[HT.sIx_nat,HT.sIx_none];simp
theorem Xk{f j:List Int}{g:Int}:∀{ds:List Dat} {p q:Nat×Nat} {m:Nat},qT f j g p ds=some q->zM f j g p.1 p.2=some m->∃w,zM f j g q.1 q.2=some w
 | [],p,q,m,h,e=>by cases h;exact⟨m,e⟩
 | d::ds,p,q,m,h,e=>by
  have s:(jE d (zU f j g p.1 p.2)).bind (fun u=>qT f j g u ds)=some q:=h
  cases l:jE d (zU f j g p.1 p.2) with
  | none=>rw[l] at s;cases s
  | some u=>
   rw[l] at s;unfold jE at l;obtain⟨D,A,B⟩:=jb.mp l;have mem:(D.1,u.1,u.2)∈zU f j g p.1 p.2:=by
    have:=List.mem_of_find?_eq_some A
    rw[<- B];exact this
   obtain⟨w,_,C⟩:=ZO mem e;exact Xk (ds:=ds) s C
theorem zaJ{f j:List Int}{g:Int}{l:List Dat}(u:f≠[])(w:j≠[])(h:zM f j g (f.length-1) (j.length-1)=none):Zq f j g (.lst l)=false:=by
 show(!jD f j g 0 0&&decide (qT f j g (0,0) l=some (wz f j)))=false;cases s:jD f j g 0 0 with
 | true=>rfl
 | false=>
  have A:0<f.length:=je.mpr u;have B:0<j.length:=je.mpr w;have ok:okN f j g 0 0=true:=by unfold okN;rw[zS A,zS B,s];rfl
  rw[jG]
  ·rfl
  intro C;obtain⟨D,e⟩:=Xk C (wA ok);unfold wz at e;rw[h] at e;cases e
theorem Qr{K:W.Frag}{H:Hp}:∀(f:List Str),Reps K H (f.map Dat.str) (f.map V.str)
 | []=>rfl
 | z::f=>⟨.str z,f.map V.str,rfl,rfl,Qr f⟩
theorem Ys{K:W.Frag}{H:Hp}{q:Addr}{f:List Str}(h:H q=some (.lst (f.map V.str))):Rep K H (.lst (f.map Dat.str)) (.ref q):=⟨q,_,rfl,u9 h,Qr f⟩
structure JW(b:Addr)(H:Hp)(n:Int)(i:Nat)(us:List (Addr×List Int))(H':Hp):Prop where
 s:SameB b H H'
 bx:BoxAt H' b (n+1100*i)
 l:us.length=i
 us:∀u∈us,H' u.1=some (.lst (u.2.map V.int))/\ze9 u.2/\u.1≠b
section
variable{P:Program}{w:World}{K:W.Frag}{G:Str->Option Value}{C:Heap}
inductive QD(g:List V)(H:Hp)(Q:VK):Prop
 | mk (b:Addr) (n:Int) (_:g=[.ref b]) (_:BoxAt H b n) (_:n<1000) (_:∀f,SameB b H f->Q (.bl true) f):QD  g H Q
def Wx:Sp:=fun f H Q _=>QD  f H Q
theorem WN:zI ["_law_box_here","_law_far","_law_gap","_law_jobs","_law_left","_law_right_here","_law_moves","_law_due","_law_some","_law_told"] ["_law_box_here"] (zv (topL 40)):=u7
theorem za7{f:Addr}{fd:FuncData}(F:Fun K "_law_right" "_law_right" (topL 40) f fd)(B:Blt G)(T:Dfn P w K G C "_law_take" 1 ["_law_box_here","_law_size"] vA)(O:Dfn P w K G C "_law_near_job" 4 ["_law_box_here","_law_x","_law_far"] (zew K))(an:Dfn P w K G C "_law_plan" 4 ["_law_box_here","_law_job","_law_most"] (zaC K))(ae:Dfn P w K G C "track_of" 4 ["job","plan","work"] (Qz K))(Y:Dfn P w K G C "is_track" 2 ["thing"] (zcY K))
  (M:Dfn P w K G C "moves_together" 4 ["left","right","gap"] (Zm K)) (ai:Dfn P w K G C "_law_counts" 1 ["_law_left","_law_right_here","_law_gap"] (XB K)) (ak:Dfn P w K G C "_law_apart" 1 ["_law_left","_law_right_here","_law_gap","_law_moves"] (WJ K)) (U:Dfn P w K G C "_law_drawn_moves" 2 ["_law_box_here","_law_left","_law_right_here","_law_gap"] (WH K)) (N:Dfn P w K G C "shows_together" 3 ["left","right","gap","thing"] (Wv K)) (aa:Dfn P w K G C "never_moves" 4 ["left","right","gap"] (WA K)) (ab:Dfn P w K G C "shows_never" 4 ["left","right","gap","thing"] (zcV K)):FnOk P w K G C CX0 5 f fd ["_law_box_here"] Wx:=by
 have nd:=WN.nd;refine F.ok WN (fun vs H Q E h=>?_) (fun ch A c6 s H vs Q E hr h=>?_)
 ·obtain⟨b,n,rfl,_⟩:=h
  rfl
 ·obtain⟨b,n,rfl,B0,hn,k⟩:=h
  have hu:=hr.units0;have c9:=bG100000;refine⟨_,(zg (VG (i:=1) (j:=2) rfl nd rfl rfl (by decide) rfl rfl (za (zr zD zf (zn T hr.m rfl (za (pv 0) (za zf ze)))) (za (zn T hr.m rfl (za (pv 0) (za zf ze))) ze)) (by rfl))
   (zg (zF (i:=3) nd rfl (Or.inl rfl) (zT (za (zn O hr.m rfl (za (pv 0) (za zf (za (pv 1) ze)))) (za (zn O hr.m rfl (za (pv 0) (za (zr zD (pv 2) (zn T hr.m rfl (za (pv 0) (za (zr zD (pv 1) zf) ze)))) (za (pv 1) ze)))) ze))))
   (zg (jK (vD ["_law_box_here"] [0] rfl rfl (by kernel_rfl) (qz (pv 3)) (fun _ _ _ _=>qV) (fun _ _ _ _=>(zn ae hr.m rfl (za (pv 0) (za (zn an hr.m rfl (za (pv 1) (za (pv 0) (za zf ze)))) (za (zn T hr.m rfl (za (pv 1) (za zf ze))) ze)))))) (zdD rfl (zu (zp (i:=4) nd rfl (Or.inl rfl)) (zu (zp (i:=5) nd rfl (Or.inl rfl)) qq))))
   (zg (qH (uf (vZ (zG JB (zn Y hr.m rfl (za (pv 4) ze)) jP (zE _)) (vb (zG JB (zn Y hr.m rfl (za (pv 5) ze)) jP (zE _)))))
   (zk (zC jP))
   zQ)
   (zg (VG (i:=6) (j:=7) rfl nd rfl rfl (by decide) rfl rfl (za (zn M hr.m rfl (za (pv 4) (za (pv 5) (za (pv 2) ze)))) (za (zy zH (zy zH (zn ai hr.m rfl (za (pv 4) (za (pv 5) (za (pv 2) ze)))) (wJ x8 zf) (fun _ _=>rfl)) (wJ x8 zf) (fun _ _=>rfl)) ze)) (by rfl))
   (zg (qH (zG zdc (qv JC (pv 6) xx (zE _)) (qv JC (pv 7) xx (zE _)) (zE _))
   (zk (zC jP))
   zQ)
   (zg (qH (zG W4 (pv 6) xx (zE _))
   (zk (zC (ZA (zn ak hr.m rfl (za (pv 4) (za (pv 5) (za (pv 2) (za (pv 6) ze))))) (wv (qv v1 (zo zA rfl B.len boot_len (za (pv 6) ze)) (pv 7) (zE _))))))
   zQ)
   (zg (zF (i:=8) nd rfl (Or.inl rfl) (zn U hr.m rfl (za (pv 0) (za (pv 4) (za (pv 5) (za (pv 2) ze))))))
   (zg (qH (zG JB (zn N hr.m rfl (za (pv 4) (za (pv 5) (za (pv 2) (za (pv 8) ze))))) jP (zE _))
   (zk (zC jP))
   zQ)
   (zg (zF (i:=9) nd rfl (Or.inl rfl) (zn aa hr.m rfl (za (ja jI (pv 4) j4 (qX zf)) (za (ja jI (pv 5) j4 (qX zf)) (za (pv 2) ze)))))
   (zk (zC (zda (qv JC (pv 9) xx (zE _)) (wv (qv zdN (zn ab hr.m rfl (za (ja jI (pv 4) j4 (qX zf)) (za (ja jI (pv 5) j4 (qX zf)) (za (pv 2) (za (pv 9) ze))))) jP (zE _)))))))))))))))),?_⟩
  refine⟨_,rfl,b,9,n,rfl,B0,by omega,by decide,by decide,fun f0 H1 a0 a1 B1 S1=>⟨_,_,rfl,rfl,_,rfl,b,21,_,rfl,B1,by omega,by decide,by decide,fun g H2 g0 g1 B2 S2=>⟨_,_,rfl,?_⟩⟩⟩
  refine⟨_,rfl,_,rfl,b,0,2+f0,_,rfl,B2,by omega,by decide,by decide,by omega,by omega,fun j1 J1 H3 S3 B3 R1 O1 N1=>?_⟩
  refine⟨_,rfl,_,rfl,_,rfl,_,rfl,_,_,rfl,rfl,b,_,_,rfl,B3,by omega,by omega,by omega,fun x1 H4 c0 c1 B4 S4=>⟨_,_,rfl,rfl,_,rfl,b,_,_,_,rfl,B4,by omega,by omega,by omega,by omega,by omega,fun j2 J2 H5 S5 B5 R2 O2 N2=>⟨le2,fun q hq=>?_⟩⟩⟩
  have qb:=B5.nne hq;have u6:=zc (o:=.lst [.ref j1,.ref j2]) hq;have S6:=((S1.trans S2).trans S3).trans ((S4.trans S5).trans (ue (b:=b) u6));have B6:BoxAt (upd H5 q (.lst [.ref j1,.ref j2])) b (n+2100):=(B5.same u6).mono (by omega)
  have az:=Rep.keep (((uh B3 S4).trans (.draw B4 S5)).trans (.of u6)) (xX J1) R1;have b0:=Rep.keep (.of u6) (xX J2) R2;have Q6:upd H5 q (.lst [.ref j1,.ref j2]) q=some (.lst [.ref j1,.ref j2]):=zd;generalize upd H5 q (.lst [.ref j1,.ref j2])=H6 at S6 B6 az b0 Q6;clear u6 hq S1 S2 S3 S4 S5 B1 B2 B3 B4 B5 R1 R2;refine⟨_,rfl,q,rfl,⟨_,u9 Q6⟩,jM (K:=K) (a:=q) (xs:=[.ref j1,.ref j2]) (fun i zs H7=>∃us:List (Addr×List Int),zs=us.map (fun u=>V.ref u.1)/\JW b H6 (n+2100) i us H7) ⟨[],rfl,um _ _,B6.mono (by omega),rfl,fun u h=>nomatch h⟩ (fun i zs H7 ⟨_,_,w⟩=>u9 (w.s _ _ Q6 qb)) ?_ ?_⟩
  ·rintro i x zs H7 hx ⟨us,rfl,w⟩
   have hi:i<2:=(zZ.mp hx).1;obtain⟨jx,J,x0,rfl,R7,O7,N7⟩:∃(jx:Addr) (J:Job) (x0:Int),x=.ref jx/\Rep K H7 (X6 J) (.ref jx)/\wr J (List.range J.ps.length)/\Yq x0 J:=by
    have t:=uh B6 w.s;match i,hx with
    | 0,hx=>cases hx;exact⟨j1,J1,_,rfl,az.keep t (xX J1),O1,N1⟩
    | 1,hx=>cases hx;exact⟨j2,J2,_,rfl,b0.keep t (xX J2),O2,N2⟩
   have B7:=w.bx;refine⟨rfl,⟨_,rfl,_,rfl,_,rfl,b,jx,J,_,0,_,rfl,B7,by omega,R7,O7,by decide,by decide,fun l os ts tr H8 S8 B8 nl lN hl rt op bo po=>⟨_,rfl,b,4,_,rfl,B8,by omega,by decide,by decide,fun kk H9 k0 k1 B9 S9=>?_⟩⟩⟩
   obtain⟨kn,rfl⟩:=Int.eq_ofNat_of_zero_le k0;have t9:=(uh B7 S8).trans (.draw B8 S9);have ol:os.length=J.ps.length:=by rw[op.length_eq,yU]
   refine⟨jx,l,kn,J,_,ts,tr,rfl,by omega,R7.keep t9 (xX J),O7,S9 _ _ hl nl,Reps.keep (.draw B8 S9) (jT ts) rt,fun t ht=>(po.tr t ht).bd O7.hd1,by have:=po.len;omega,fun tk Ha c2 Sa bz=>?_⟩
   have av:=(S8.trans S9).trans (ue (b:=b) Sa);have c4:tk≠b:=B9.nne c2;refine⟨by rw[zx,w.l];omega,us++[(tk,xo kn (qo J ts) ((qo J ts).length-1))],by rw[zY];rfl,w.s.trans av,(B9.same Sa).mono (by omega),by rw[qG,w.l];rfl,fun u hu=>?_⟩
   rcases qC.mp hu with h | h
   ·obtain⟨h1,h2,h3⟩:=w.us u h
    exact⟨av _ _ h1 h3,h2,h3⟩
   ·rw[qu.mp h]
    exact⟨bz,zav N7 O7 po ol (by omega),c4⟩
  rintro zs H7 ⟨us,rfl,w⟩;obtain⟨lt,L,rt,I,rfl⟩:∃(lt:Addr) (L:List Int) (rt:Addr) (I:List Int),us=[(lt,L),(rt,I)]:=by
   have:=w.l;match us,this with
   | [u,v],_=>exact⟨u.1,u.2,v.1,v.2,rfl⟩
  obtain⟨hl,Tl,ap⟩:=w.us (lt,L) (by simp)
  obtain⟨bp,Tr,aq⟩:=w.us (rt,I) (by simp)
  have S7:=S6.trans w.s;have B7:BoxAt H7 b (n+4300):=w.bx.mono (by show n+2100+1100*((2:Nat):Int)<=_;omega)
  clear w;refine⟨by show 2<=sizeLine;omega,fun D hD=>⟨D,_,rfl,u9 zd,rfl,_,_,rfl,_,_,rfl,rfl,?_⟩⟩
  have u8:=zc (o:=.lst ([(lt,L),(rt,I)].map fun u=>V.ref u.1)) hD
  have S8:=S7.trans (ue (b:=b) u8);have B8:=B7.same u8;have L8:_=some (HO.lst (L.map V.int)):=u8 _ _ hl;have R8:_=some (HO.lst (I.map V.int)):=u8 _ _ bp;have ap:lt≠b:=ap;have aq:rt≠b:=aq;generalize upd H7 D (.lst ([(lt,L),(rt,I)].map fun u=>V.ref u.1))=H8 at S8 B8 L8 R8
  clear u8 hD S6 S7 B6 B7 hl bp az b0 O1 O2 N1 N2;have ag:L.length<=400:=Tl.len;have ah:I.length<=400:=Tr.len;have ln:L≠[]:=Tl.ne;have rn:I≠[]:=Tr.ne;refine⟨_,rfl,lt,L,rfl,L8,ln,by show L.length<=900000;omega,Tl.bd,fun H9 s9=>⟨_,_,rfl,rfl,_,rfl,ifF (by rw[Tl.st];rfl) ?_⟩⟩
  refine⟨_,rfl,rt,I,rfl,s9 _ _ R8,rn,by show I.length<=900000;omega,Tr.bd,fun cb c7=>⟨_,_,rfl,rfl,_,rfl,ifF (by rw[Tr.st];rfl) ?_⟩⟩
  have ar:=s9.trans c7;have bm:atI (j6 L I g (L.length-1) I.length) (-1)=some (cV L I g (L.length-1) (I.length-1)):=by
   have r0:0<I.length:=je.mpr rn;have e:I.length=I.length-1+1:=by omega
   rw[e,XJ];exact vN _ _
  refine⟨_,rfl,_,rfl,_,rfl,lt,rt,L,I,g,rfl,u9 (ar _ _ L8),u9 (ar _ _ R8),ag,ah,ln,rn,fun bs ec be=>?_,fun mq ws bs ec ci be bn wk ww c5=>?_⟩
  ·have af:=ar.trans be
   refine⟨_,rfl,_,rfl,_,rfl,lt,rt,L,I,g,rfl,u9 (af _ _ L8),u9 (af _ _ R8),ag,ah,ln,rn,fun F c us bt al hF hc=>?_⟩
   refine⟨_,rfl,F,_,_,_,rfl,rfl,u9 hF,vN _ _,_,rfl,c,_,_,_,rfl,rfl,u9 hc,bm,_,_,rfl,?_⟩
   have bc:cV L I g (L.length-1) (I.length-1)=.non:=by unfold cV;rw[ec];rfl
   rw[bc];have ac:=af.trans al;refine⟨_,rfl,rfl,_,rfl,rfl,rfl,_,rfl,ifF (by decide) ?_⟩
   refine⟨_,rfl,rfl,_,rfl,ifF (by decide) ?_⟩
   have bv:=S8.trans (ue (b:=b) ac);refine⟨_,rfl,_,rfl,_,rfl,_,rfl,b,lt,rt,L,I,g,_,rfl,B8.same ac,by omega,ac _ _ L8,ac _ _ R8,ap,aq,ag,ah,ln,rn,fun sq ws bu ba ca cj sN hs wl ww wk=>?_⟩
   have bb:=bv.trans ba;have ax:=ba _ _ (ac _ _ L8) ap;have ay:=ba _ _ (ac _ _ R8) aq;refine⟨_,rfl,_,rfl,_,rfl,_,rfl,lt,rt,L,I,g,.ref sq,.lst (ws.map Dat.str),rfl,u9 ax,u9 ay,ln,rn,Ys hs,fun bh aj=>⟨_,_,rfl,rfl,_,rfl,ifF (by rw[zaJ ln rn ec];rfl) ?_⟩⟩
   have cg:=bb.trans (ue (b:=b) aj);have ao:∀xs:List Int,qk (xs.map V.int) none (some 60)=(xs.take 60).map V.int:=fun xs=>by rw[show(60:Int)=((60:Nat):Int) from rfl,zcK,ZX]
   have as:∀{xs:List Int},xs≠[]->xs.take 60≠[]:=fun {xs} h z=>by
    cases xs with
    | nil=>exact h rfl
    | cons a l=>cases z
   have au:∀xs:List Int,(xs.take 60).length<=400:=fun xs=>by rw[jq];omega
   refine⟨_,rfl,_,rfl,lt,_,rfl,u9 (aj _ _ ax),fun p1 h1=>?_⟩
   have u1:=zc (o:=.lst (qk (L.map V.int) none (some 60))) h1;have P1:upd bh p1 (.lst (qk (L.map V.int) none (some 60))) p1=some (.lst ((L.take 60).map V.int)):=by rw[zd,ao]
   generalize upd bh p1 (.lst (qk (L.map V.int) none (some 60)))=bi at u1 P1;refine⟨_,rfl,_,rfl,rt,_,rfl,u9 (u1 _ _ (aj _ _ ay)),fun p2 h2=>?_⟩
   have u2:=zc (o:=.lst (qk (I.map V.int) none (some 60))) h2;have P2:upd bi p2 (.lst (qk (I.map V.int) none (some 60))) p2=some (.lst ((I.take 60).map V.int)):=by rw[zd,ao]
   generalize upd bi p2 (.lst (qk (I.map V.int) none (some 60)))=cd at u2 P2;have br:=aj.trans (u1.trans u2);refine⟨_,rfl,p1,p2,L.take 60,I.take 60,g,rfl,u9 (u2 _ _ P1),u9 P2,au L,au I,as ln,as rn,fun aw _ bf=>?_,fun nq us aw bw bf bx ul c3=>?_⟩
   ·have am:=br.trans bf
    refine⟨_,rfl,rfl,_,rfl,ifT (by decide) ?_⟩
    exact k _ (bb.trans (ue am))
   ·have am:=br.trans bf
    refine⟨_,rfl,rfl,_,rfl,ifF (by simp) ?_⟩
    refine⟨_,rfl,_,rfl,lt,_,rfl,u9 (am _ _ ax),fun p3 h3=>?_⟩
    have u3:=zc (o:=.lst (qk (L.map V.int) none (some 60))) h3;have P3:upd aw p3 (.lst (qk (L.map V.int) none (some 60))) p3=some (.lst ((L.take 60).map V.int)):=by rw[zd,ao]
    generalize upd aw p3 (.lst (qk (L.map V.int) none (some 60)))=bj at u3 P3;refine⟨_,rfl,_,rfl,rt,_,rfl,u9 (u3 _ _ (am _ _ ay)),fun p4 h4=>?_⟩
    have u4:=zc (o:=.lst (qk (I.map V.int) none (some 60))) h4;have P4:upd bj p4 (.lst (qk (I.map V.int) none (some 60))) p4=some (.lst ((I.take 60).map V.int)):=by rw[zd,ao]
    generalize upd bj p4 (.lst (qk (I.map V.int) none (some 60)))=ce at u4 P4;have bg:=u3.trans u4;refine⟨_,rfl,_,rfl,p3,p4,nq,L.take 60,I.take 60,g,us,rfl,u9 (u4 _ _ P3),u9 P4,au L,au I,as ln,as rn,bw,bg _ _ bx,ul,c3.same bg,fun cf c8=>⟨_,_,rfl,rfl,?_⟩⟩
    exact k _ (bb.trans (ue ((am.trans bg).trans c8)))
  ·have af:=ar.trans be
   refine⟨_,rfl,_,rfl,_,rfl,lt,rt,L,I,g,rfl,u9 (af _ _ L8),u9 (af _ _ R8),ag,ah,ln,rn,fun F c us bt al hF hc=>?_⟩
   refine⟨_,rfl,F,_,_,_,rfl,rfl,u9 hF,vN _ _,_,rfl,c,_,_,_,rfl,rfl,u9 hc,bm,_,_,rfl,?_⟩
   have bc:cV L I g (L.length-1) (I.length-1)=.int (ws.length:Int):=by unfold cV;rw[ec];rfl
   rw[bc];have ac:=af.trans al;have wl:ws.length<=800:=by
    have:=JO ec;omega
   refine⟨_,rfl,rfl,_,rfl,rfl,rfl,_,rfl,ifF (by simp) ?_⟩
   refine⟨_,rfl,rfl,_,rfl,ifT (by simp) ?_⟩
   refine⟨_,rfl,_,rfl,_,rfl,_,rfl,lt,rt,mq,L,I,g,ws,rfl,u9 (ac _ _ L8),u9 (ac _ _ R8),ln,rn,al _ _ bn,by omega,ww,c5,wk,fun bu bq=>?_⟩
   have aj:=ac.trans bq;refine⟨_,rfl,ifT rfl ?_⟩
   refine⟨_,rfl,mq,_,rfl,.inl (u9 (bq _ _ (al _ _ bn))),_,rfl,rfl,?_⟩
   rw[zx];have e:decide (V.int (ws.length:Int)=V.int (ws.length:Int))=true:=zS rfl;rw[e];exact k _ (S8.trans (ue aj))
inductive WD(K:W.Frag)(g:List V)(H:Hp)(Q:VK):Prop
 | mk (a:Addr) (f:List Int) (_:g=[.ref a]) (_:SqL K H a (f.map V.int)) (_:f.length<=63) (_:∀j,Q (.bl true) j):WD K g H Q
def spLaw(K:W.Frag):Sp:=fun f H Q _=>WD K f H Q
theorem zc4:zI ["_law_script","_law_cells"] ["_law_script"] (zv (topL 41)):=u7
theorem zdV{f:Addr}{Y:FuncData}(F:Fun K "law" "law" (topL 41) f Y)(B:Blt G)(g:Dfn P w K G C "_law_folded" 1 ["_law_script","_law_size"] (zaH K))(I:Dfn P w K G C "_law_box" 1 ["_law_script","_law_k"] (zcZ K))
  (j:Dfn P w K G C "_law_right" 5 ["_law_box_here"] Wx):FnOk P w K G C CX0 6 f Y ["_law_script"] (spLaw K):=by
 have nd:=zc4.nd;refine F.ok zc4 (fun vs H Q E h=>?_) (fun aa A T s H vs Q E O h=>?_)
 ·obtain⟨a,ns,rfl,_⟩:=h
  rfl
 ·obtain⟨a,ns,rfl,hS,L,k⟩:=h
  refine⟨_,(zg (zF (i:=1) nd rfl (Or.inr rfl) (zn g O.m rfl (za (pv 0) (za zf ze))))
   (zk (zC (zo (jX rfl) rfl B.all boot_all (za (vD ["_law_cells"] [1] rfl rfl (by kernel_rfl) (qU rfl B.range (za (zo (vW rfl) rfl B.max wU (za zf (za (zo zA rfl B.len boot_len (za (pv 1) ze)) ze))) ze)) (fun _ _ _ _=>qV) (fun _ _ _ _=>(zn j O.m rfl (za (zn I O.m rfl (za (pv 1) (za (pv 0) ze))) ze)))) ze))))),?_⟩
  refine⟨_,rfl,a,ns,3,rfl,hS,L,by decide,by decide,fun p l H1 s1 hp hm=>?_⟩
  have J:=bGe;have hl:(l.map V.int).length<=3:=by rw[zx];exact hm
  refine⟨_,rfl,p,_,rfl,.inl hp,_,_,rfl,_,rfl,(by rw[J];split<;>omega),(by rw[J];split<;>omega),?_⟩
  have hN:(if((l.map V.int).length:Int)>2 then((l.map V.int).length:Int) else 2).toNat<=8:=by split<;>omega
  have a0:=bG100;refine ZG (fun i U M=>U=List.replicate i (V.bl true)/\Same H1 M) ⟨rfl,uc _⟩ ?_ ?_
  ·rintro i U M hi ⟨rfl,N⟩
   rw[JZ];refine⟨rfl,?_⟩
   refine⟨_,rfl,_,rfl,p,l,i,rfl,N.seq hp,by omega,fun q o hq Bq=>⟨q,0,rfl,Bq,by decide,fun H3 s3=>⟨?_,?_,fun c u e=>?_⟩⟩⟩
   ·rw[xc];omega
   ·rw[Jk]
   ·exact s3 c u ((zc hq) c u (N c u e)) (zi (N c u e) hq)
  ·rintro U M ⟨rfl,N⟩
   refine⟨by rw[xc];omega,fun D hD=>⟨D,List.replicate (if((l.map V.int).length:Int)>2 then((l.map V.int).length:Int) else 2).toNat true,rfl,?_,?_⟩⟩
   ·refine u9 ?_
    rw[zd,Jh]
   ·have:=k (upd M D (.lst (List.replicate (if((l.map V.int).length:Int)>2 then((l.map V.int).length:Int) else 2).toNat (V.bl true))))
    simpa using this
end
theorem zd2{K:W.Frag}{h:Heap}{j:Str->Option Value}(X:K.In h)(G:h.Ns mainGlobals j)(e:Zc K "MOVES" = some (mvL,true)):∃f:Addr,j "MOVES" = some (.ref f)/\Mvs K f:=by
 obtain⟨f,A,l,s,u,w⟩:=zdi e;refine⟨f,J6 X G l,⟨A.map V.ref,s,by rw[zx,u];rfl,fun k x h=>?_⟩⟩
 rw[zX] at h;obtain⟨c,hc,rfl⟩:=jb.mp h;obtain⟨m,hm,g⟩:=w k c hc;match k,hm with
 | 0,hm=>cases hm;exact⟨("both",1,1),c,rfl,rfl,g⟩
 | 1,hm=>cases hm;exact⟨("left",1,0),c,rfl,rfl,g⟩
 | 2,hm=>cases hm;exact⟨("right",0,1),c,rfl,rfl,g⟩
theorem all_mk{l:PySem.W.OpenLaw}{w:World}{K:W.Frag}{h:Heap}{mg:Str->Option Value}{fa:Addr}(X:K.In h)(e:zeO VS zam YO "MOVES" K=ze7 VS zam YO mvL)(G:h.Ns mainGlobals mg)(av:mg "law" = some (.ref fa)) :
  ∃fd:FuncData,(∀(s:Shared) (v:Value),BindsTo s fd ⟨[v],[]⟩ [("_law_script",v)])/\∀aq:Heap,K.In aq->aq.Ns mainGlobals mg->FnOk l.prog w K mg aq CX0 6 fa fd ["_law_script"] (spLaw K):=by
 have Z0:Tp l.prog w K mg h h VS zam YO:=⟨X,G,congrArg Prod.fst e⟩;have B:Blt mg:=⟨Z0.bl 0 rfl,Z0.bl 1 rfl,Z0.bl 2 rfl,Z0.bl 3 rfl,Z0.bl 4 rfl,Z0.bl 5 rfl,Z0.bl 6 rfl,Z0.bl 7 rfl,Z0.bl 8 rfl,Z0.bl 9 rfl,Z0.bl 10 rfl,Z0.bl 11 rfl,Z0.bl 12 rfl,Z0.bl 13 rfl,Z0.bl 14 rfl,Z0.bl 15 rfl,Z0.bl 16 rfl,Z0.bl 17 rfl,Z0.bl 18 rfl,Z0.bl 19 rfl⟩;obtain⟨f,fd,a,F⟩:=Z0.fd 35 rfl;cases av.symm.trans (J6 X G a);refine⟨fd,?_,fun aq _ _=>?_⟩
 ·obtain⟨_,_,_,_,_,_,_,_,_,rfl,_,_⟩:=F.ex
  exact fun s v=>.of_eq rfl
 have Z:Tp l.prog w K mg aq h VS zam YO:=⟨X,G,congrArg Prod.fst e⟩;obtain⟨mv,au,M⟩:=zd2 X G (congrArg Prod.snd e);have I:=Z.dfn 0 rfl fun _ _ F _ _=>zdX F B
 have D:=Z.dfn 1 rfl fun _ _ F _ _=>zdY F B I
 have a0:=Z.dfn 2 rfl fun _ _ F _ _=>zdP F B
 have ah:=Z.dfn 3 rfl fun _ _ F _ _=>zdT F B
 have ai:=Z.dfn 4 rfl fun _ _ F _ _=>zbc F B ah
 have j:=Z.dfn 5 rfl fun _ _ F _ _=>zcp F B
 have u:=Z.dfn 6 rfl fun _ _ F _ _=>zcs F B
 have C:=Z.dfn 7 rfl fun _ _ F _ _=>zbb F B au (M) u j
 have A:=Z.dfn 8 rfl fun _ _ F _ _=>VL F B j C
 have J:=Z.dfn 9 rfl fun _ _ F _ _=>XR F B A u
 have ar:=Z.dfn 10 rfl fun _ _ F _ _=>zcq F B
 have L:=Z.dfn 11 rfl fun _ _ F _ _=>za6 F B u j ar C
 have U:=Z.dfn 12 rfl fun _ _ F _ _=>za9 F B A u
 have E:=Z.dfn 13 rfl fun _ _ F _ _=>zcn F B D
 have Y:=Z.dfn 14 rfl fun _ _ F _ _=>zdS F B E u j C
 have an:=Z.dfn 15 rfl fun _ _ F _ _=>za4 F B
 have aj:=Z.dfn 16 rfl fun _ _ F _ _=>zdW F B I
 have ao:=Z.dfn 17 rfl fun _ _ F _ _=>zdQ F B a0 ai
 have ap:=Z.dfn 18 rfl fun _ _ F _ _=>zdR F B an ao
 have as:=Z.dfn 19 rfl fun _ _ F _ _=>zdZ F B
 have g:=Z.dfn 20 rfl fun _ _ F _ _=>zcl F B
 have ab:=Z.dfn 21 rfl fun _ _ F _ _=>zcr F B
 have T:=Z.dfn 22 rfl fun _ _ F _ _=>za5 F B
 have ak:=Z.dfn 23 rfl fun _ _ F _ _=>zdU F B g T
 have ae:=Z.dfn 24 rfl fun _ _ F _ _=>zba F B ak
 have Q:=Z.dfn 25 rfl fun _ _ F _ _=>zcm F B g
 have af:=Z.dfn 26 rfl fun _ _ F _ _=>za8 F B g
 have am:=Z.dfn 27 rfl fun _ _ F _ _=>zck F B Q
 have al:=Z.dfn 28 rfl fun _ _ F _ _=>zco F B g af am
 have aa:=Z.dfn 29 rfl fun _ _ F _ _=>Y0 F B
 have N:=Z.dfn 30 rfl fun _ _ F _ _=>zct F B
 have H:=Z.dfn 31 rfl fun _ _ F _ _=>zbd F B g N
 have O:=Z.dfn 32 rfl fun _ _ F _ _=>zeN F B g ae
 have ac:=Z.dfn 33 rfl fun _ _ F _ _=>zbe F B
 have ag:=Z.dfn 34 rfl fun _ _ F _ _=>za7 F B g O al ap aj J aa ac H L U Y
 exact zdV F B ab as ag
end L2
open PySem PySem.W PyProof.Rows
set_option maxRecDepth 100000 in
set_option maxHeartbeats 0 in
theorem PySem.Challenge.cw_pickboard_k72_whole_two_plans_on_one_rai_holds : PySem.Challenge.rw_pickboard_k72_whole_two_plans_on_one_rai.Holds := by
 refine L2.ownHead (d:=L2.defRec "law" (L2.topL 41)) 9999 L2.head1 L2.head2 (by kernel_rfl) (by kernel_rfl) (by kernel_rfl) L2.head3 ⟨rfl,rfl,rfl,rfl,rfl,by decide +kernel⟩ (by w_witness2) ?_
 exact L2.walkS (n:=63) (k:=6) (x:= "_law_script") (sp:=L2.spLaw) rfl (by decide) (by kernel_rfl) ⟨rfl,by decide,by decide,rfl⟩ (fun _ _ _ _ _ X e G m=>L2.all_mk X e G m) fun _ _ a ns hl _ hS=>⟨a,ns,rfl,hS,hl,fun _=>rfl⟩
