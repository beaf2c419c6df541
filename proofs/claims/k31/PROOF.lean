import PyProof.Rows.All
import Wide.All
import OpenK.AllK
import Wide.FinOn
import Lean
import PyProof.EqAt
import PyProof.EqKinds
import PyProof.TupleCall
import PySem.Str
import PyProof.CodeObj
import PyProof.ListMulAny
import PyProof.NeKinds
import PyProof.ConsumeWalk
import PyProof.CompFree
import PyProof.ZipIter
import PyProof.Draws
import PyProof.EnumMake
import PyProof.SumWalk
import KE.KSortTup
import PyProof.Rows.SortRev
import PyProof.FactsAll.tuple
import KE.KRevIter
import PyProof.FactsAll.range_2
import PyProof.ListRange
import PyProof.TupleOfSeq
import PyProof.TupleOfGen
import PyProof.CallType
import PyProof.StationsW
import PyProof.Rows.Own
import PyProof.ExcBaseAll.ValueError
import KE.KTryMore
import PyProof.ExcArgsOwn
import PyProof.IsiH_tuple
import PyProof.NsDelKeeps
import PyProof.RulesAs
import KE.KLam
import PyProof.P3Eq
import OpenK.KOwn
import PySem.Challenge.RW_fewspaces_k31_boxes
set_option Elab.async false
set_option linter.all false
set_option compiler.extract_closed false
set_option maxRecDepth 100000
set_option maxHeartbeats 0
abbrev Pa:=@Option.some.inj
abbrev Pb:=@List.getElem?_eq_getElem
abbrev Pc:=@List.getElem?_eq_some_iff
abbrev Pd:=@PySem.wpAny_bind
abbrev Pe:=@PySem.Heap.get?_push_of_some
abbrev Pf:=@List.size_toArray
abbrev Pg:=@PySem.Heap.lt_size
abbrev Ph:=@Bool.and_eq_true
abbrev Pi:=@Bool.false_ne_true
abbrev Pj:=@if_pos
abbrev Pk:=@List.getElem?_set_ne
abbrev Pl:=@List.getElem?_append_left
abbrev Pm:=@if_neg
abbrev Pn:=@List.mem_cons_of_mem
abbrev Po:=@Nat.le_refl
abbrev Pq:=@List.mem_cons_self
abbrev Pr:=@List.mem_cons
abbrev Ps:=@PySem.Heap.get?_push_size
abbrev Pu:=@Nat.lt_of_lt_of_le
abbrev Pw:=@List.getElem?_set_self
abbrev Px:=@List.getElem?_append_right
abbrev Py:=@of_decide_eq_true
abbrev Pz:=@List.length_set
abbrev PB:=@decide_eq_true
abbrev PD:=@List.mem_append_right
abbrev PF:=@List.length_cons
abbrev PH:=@List.all_eq_true
abbrev PK:=@List.length_append
abbrev PL:=@List.lookup_cons
abbrev PM:=@PySem.wpAny_pure
abbrev PN:=@Nat.lt_irrefl
abbrev PO:=@List.replicate_succ
abbrev PP:=@List.getElem?_map
abbrev PQ:=@List.getD_eq_getElem?_getD
abbrev PU:=@List.filterMap_cons
abbrev PV:=@List.length_map
abbrev PX:=@Nat.ne_of_lt
abbrev PY:=@Nat.le_trans
abbrev PZ:=@List.getElem?_replicate
abbrev P0:=@List.flatten_cons
abbrev P1:=@List.map_cons
abbrev P2:=@decide_eq_false
abbrev P3:=@Bool.eq_iff_iff
abbrev P4:=@PySem.W.kia_one
abbrev P5:=@PySem.W.kia_tup
abbrev P6:=@List.not_mem_nil
abbrev P7:=@PySem.mem_of_lookup
abbrev P8:=@List.length_replicate
abbrev P9:=@PySem.AutoSeq1.wpAny_loadPart'
abbrev Na:=@List.mem_singleton
abbrev Nc:=@Option.isSome_iff_exists
abbrev Nd:=@PySem.AutoSeq1.sub_tuple_tuple
abbrev Nf:=@PySem.wpAny_field
abbrev Ng:=@PySem.wpAny_truthy_bool
abbrev Nh:=@List.getElem?_set
abbrev Ni:=@PySem.wpAny_mono
abbrev Nj:=@beq_eq_false_iff_ne
abbrev Nk:=@PyProof.Rows.callWith_type1
abbrev Nl:=@beq_self_eq_true
abbrev Nm:=@List.mem_range
abbrev Nn:=@PySem.F.slot_tuple_iterator_next
abbrev No:=@PySem.wpAny_seqItems
abbrev Np:=@PySem.wpAny_setField_rec
abbrev Nq:=@List.length_singleton
abbrev Nt:=@List.append_nil
abbrev Nu:=@List.nodup_cons
abbrev Nv:=@decide_eq_true_eq
abbrev Nw:=@PySem.wpAny_holding
abbrev Nx:=@PySem.wpAny_callSpecial?_slot
abbrev Ny:=@Nat.le_add_right
abbrev Nz:=@PySem.wpAny_Call_Name_kw
abbrev NA:=@Bool.false_eq_true
abbrev NB:=@List.contains_iff_mem
abbrev NC:=@List.mem_append_left
abbrev ND:=@PySem.sizeLine_eq
abbrev NE:=@List.mem_of_getElem?
abbrev NF:=@if_false
abbrev NG:=@PySem.Heap.size_push
abbrev NH:=@Nat.pow_le_pow_right
abbrev NI:=@List.drop_eq_getElem_cons
abbrev NJ:=@PySem.F.args_tuple_add_2
abbrev NK:=@List.mem_append
abbrev NL:=@PySem.wpAny_passesOwn
abbrev NM:=@PySem.call_meets
abbrev NO:=@List.zip_cons_cons
abbrev NP:=@PySem.F.entry_tuple_add
abbrev NQ:=@List.length_eq_zero_iff
abbrev NR:=@PySem.W.kitx_list
abbrev NS:=@PySem.W.kitx_dict
abbrev NT:=@PySem.F.slot_tuple_add
abbrev NU:=@PySem.wpAny_pyIter_list
abbrev NV:=@PySem.wpAny_call_entry
abbrev NW:=@if_true
abbrev NX:=@List.isEmpty_toArray
abbrev NY:=@PySem.wpAny_updateSeq_pair
abbrev NZ:=@or_false
abbrev N1:=@List.mem_filter
abbrev N2:=@List.of_mem_zip
abbrev N3:=@PySem.SeqAt.EqAt.same
abbrev N4:=@PySem.F.slot_int_rmul
abbrev N5:=@PySem.F.slot_zip_next
abbrev N6:=@Bool.or_eq_true
abbrev N7:=@List.zip_nil_right
abbrev N8:=@List.zip_nil_left
abbrev N9:=@List.getElem_mem
abbrev Ka:=@List.map_nil
abbrev Kb:=@Nat.zero_le
namespace L2
open PySem PySem.Spec PyProof.Rows
noncomputable abbrev Key:=Sum Int Str
noncomputable def xO:Key->Value->Bool
 |.inl k,v=>Value.isInt k v
 |.inr x,v=>Value.isStrOf x v
noncomputable def u7 (w:World):Key->Int
 |.inl k=>hashInt k
 |.inr x=>hashStr w x
theorem ZH:∀{k:Key}{v:Value},xO k v=true->(∃i t,k=Sum.inl i/\v=Value.int i t)\/(∃x t,k=Sum.inr x/\v=Value.str x t)
 |.inl i,v,h=>by
  obtain⟨t,e⟩:=Value.isInt_shape (k:=i) (v:=v) h;exact .inl ⟨i,t,rfl,e⟩
 |.inr x,v,h=>by
  obtain⟨t,e⟩:=Value.isStrOf_shape (x:=x) (v:=v) h;exact .inr ⟨x,t,rfl,e⟩
theorem we (a b:Int):decide ((Sum.inl a:Key)=Sum.inl b)=(a == b):=by
 by_cases e:a=b
 ·subst e;simp
 ·have h:¬(Sum.inl a:Key)=Sum.inl b:=λq=>e (Sum.inl.inj q)
  rw[P2 h];exact (Nj.mpr e).symm
theorem wI (a b:Str):decide ((Sum.inr a:Key)=Sum.inr b)=decide (a=b):=by
 by_cases e:a=b
 ·subst e;simp
 ·have h:¬(Sum.inr a:Key)=Sum.inr b:=λq=>e (Sum.inr.inj q)
  rw[P2 h,P2 e]
theorem wL (a:Int) (b:Str):decide ((Sum.inl a:Key)=Sum.inr b)=false:=P2 (λq=>nomatch q)
theorem wy (a:Str) (b:Int):decide ((Sum.inr a:Key)=Sum.inl b)=false:=P2 (λq=>nomatch q)
noncomputable def VR (prog:Program) (w:World):PySem.KeyKind prog w Key where
 is:=xO
 hash:=u7 w
 inj:=λv a b ha hb=>by
  rcases ZH ha with ⟨i,t,rfl,rfl⟩ | ⟨x,t,rfl,rfl⟩
  ·rcases ZH hb with ⟨j,u,rfl,e⟩ | ⟨y,u,rfl,e⟩
   ·injection e with e1 _;rw[e1]
   ·exact nomatch e
  ·rcases ZH hb with ⟨j,u,rfl,e⟩ | ⟨y,u,rfl,e⟩
   ·exact nomatch e
   ·injection e with e1 _;rw[e1]
 byValue:=λk v h=>by
  rcases ZH h with ⟨i,t,rfl,rfl⟩ | ⟨x,t,rfl,rfl⟩ <;> rfl
 pyHash:=λhv h=>by
  rcases ZH hv with ⟨i,t,rfl,rfl⟩ | ⟨x,t,rfl,rfl⟩
  ·exact wpAny_pyHash_int h
  ·exact wpAny_pyHash_str h
 eqBool:=λhu hv h=>by
  rcases ZH hu with ⟨i,t,rfl,rfl⟩ | ⟨x,t,rfl,rfl⟩
  ·rcases ZH hv with ⟨j,u,rfl,rfl⟩ | ⟨y,u,rfl,rfl⟩
   ·rw[we] at h;exact wpAny_eqBool_int h
   ·rw[wL] at h;exact SeqAt.EqAt.int_str i t y u _ _ _ _ h
  ·rcases ZH hv with ⟨j,u,rfl,rfl⟩ | ⟨y,u,rfl,rfl⟩
   ·rw[wy] at h;exact SeqAt.EqAt.str_int x t j u _ _ _ _ h
   ·rw[wI] at h;exact wpAny_eqBool_str h
 «strs»:=λk x t v h=>by
  rcases ZH h with ⟨i,u,rfl,e⟩ | ⟨y,u,rfl,e⟩
  ·exact nomatch e
  ·injection e with e1 _
   subst e1;cases v <;> rfl
inductive V where
 |non | bl (b:Bool) | int (i:Int) | str (x:Str) | byt (b:Array UInt8) | flt (b:UInt64) | ref (a:Addr) | ty (n:String)
 deriving DecidableEq
def Zs:V->Value->Prop
 |.non,u=>u=Value.none
 |.bl b,u=>u=Value.bool b
 |.int i,u=>∃t,u=Value.int i t
 |.str x,u=>∃t,u=Value.str x t
 |.byt b,u=>∃t,u=Value.bytes b t
 |.flt b,u=>∃t,u=Value.float b t
 |.ref a,u=>u=Value.ref a
 |.ty n,u=>u=Value.type n
noncomputable abbrev Vals:List V->List Value->Prop:=Paired Zs
theorem Vals.length {xs:List V}{us:List Value}(r:Vals xs us):xs.length=us.length:=Paired.length r
theorem Vals.get:∀{xs:List V}{us:List Value}{i:Nat}{x:V},Vals xs us->xs[i]? = some x->∃u,us[i]? = some u/\Zs x u
 |_,_,_,_,.nil,e=>by simp at e
 |_,_,0,_,.cons r _,e=>by simp at e;subst e;exact⟨_,rfl,r⟩
 |_,_,i+1,x,.cons _ t,e=>by
  obtain⟨u,h1,h2⟩:=Vals.get (i:=i) (x:=x) t (by simpa using e)
  exact⟨u,by simpa using h1,h2⟩
theorem Vals.set {x:V}{u:Value}(r:Zs x u):∀{xs:List V}{us:List Value}(i:Nat),Vals xs us->Vals (xs.set i x) (us.set i u)
 |_,_,_,.nil=>.nil
 |_,_,0,.cons _ t=>.cons r t
 |_,_,i+1,.cons q t=>.cons q (Vals.set r i t)
theorem Vals.append:∀{xs ys:List V}{us ws:List Value},Vals xs us->Vals ys ws->Vals (xs++ys) (us++ws)
 |_,_,_,_,.nil,s=>s
 |_,_,_,_,.cons r t,s=>.cons r (Vals.append t s)
def vl:Option V->Option Value->Prop
 |some v,some u=>Zs v u
 |none,none=>True
 |_,_=>False
noncomputable def KV {κ:Type}:List (κ×V)->List (κ×Value)->Prop:=Paired λ(p:κ×V) (q:κ×Value)=>p.1=q.1/\Zs p.2 q.2
noncomputable def kV:Key->V
 |.inl i=>.int i
 |.inr x=>.str x
inductive HO where
 |lst (xs:List V)
 |tup (xs:List V)
 |dK (kvs:List (Key×V)) | dT (kvs:List (List Key×V))
 |set (S:Int->Bool) (n:Nat)
 |ins (C dx:Addr) (fs:List (Str×V))
 |own (x:Addr)
 |xd (fs:List (Str×V))
 |met (f x:Addr)
 |rng (lo hi:Int)
 |frz (o:Obj) (u:HO)
 |tbl (ps:Array Value)
 |ext (φ:Heap->Prop)
abbrev Hp:=Addr->Option HO
noncomputable def upd (H:Hp) (a:Addr) (o:HO):Hp:=λb=>if b=a then some o else H b
theorem Zi {H:Hp}{a:Addr}{o:HO}:upd H a o a=some o:=by unfold upd;rw[Pj rfl]
theorem Ze {H:Hp}{a b:Addr}{o:HO}(h:b≠a):upd H a o b=H b:=by unfold upd;rw[Pm h]
theorem Zn {H:Hp}{a b:Addr}{o:HO}(h:H a=some o) (h':H b=none):a≠b:=by
 intro e;subst e;rw[h] at h';cases h'
section
variable (P:Program) (w:World)
def ZF (H:Hp) (h:Heap) (a:Addr):HO->Prop
 |.lst xs=>xs.length<=sizeLine/\∃(its:List Value) (n:Nat),Vals xs its/\h.get? a=some { cls:=.type "list",data:=.seq its.toArray n }
 |.tup xs=>xs.length<=sizeLine/\∃its:List Value,Vals xs its/\IsTup h a its.toArray
 |.dK kvs=>kvs.length<=sizeLine/\(a == sysModules)=false/\∃vs,KV kvs vs/\h.DictOf (VR P w) a vs
 |.dT kvs=>kvs.length<=sizeLine/\(a == sysModules)=false/\∃xs:List (List Key×Addr×Value),
   Paired (λ(p:List Key×V) (q:List Key×Addr×Value)=>p.1=q.1/\H q.2.1=some (.tup (p.1.map kV))/\Zs p.2 q.2.2) kvs xs/\
   ∃o es ep,h.get? a=some o/\o.ExactDict/\o.data=.dict es ep/\es.toList=xs.map (entryOfKey (tupleKind (VR P w)))/\(xs.map (·.1)).Nodup
 |.set S n=>h.SetOf (intKind P w) a S n
 |.ins C dx fs=>H dx=some (.own a)/\fs.length<=1000/\dx≠a/\h.get? a=some (PySem.W.instObj C dx)/\
   ∃mA,h.Ns1 dx mA/\(∀f,vl (fs.lookup f) (mA f))/\PySem.Within mA (fs.map (·.1))
 |.own _=>∃o,h.get? a=some o
 |.xd fs=>∃mA,h.Ns1 a mA/\∀f,vl (fs.lookup f) (mA f)
 |.rng lo hi=>∃t u v,h.get? a=some { cls:=.type "range",data:=.fields #[.int lo t,.int hi u,.int 1 v] }
 |.frz o u=>h.get? a=some o/\ZF H h a u
 |.tbl ps=>h.get? a=some { cls:=.none,data:=.fields ps }
 |.met f x=>h.get? a=some (PySem.W.methodObj (.ref f) (.ref x))
 |.ext φ=>φ h/\(∃o,h.get? a=some o)/\∀h1 h2:Heap,φ h1->(∀o,h1.get? a=some o->h2.get? a=some o)->φ h2
def HOk (H:Hp) (h:Heap):Prop:=∀a o,H a=some o->ZF P w H h a o
end
section
variable {P:Program}{w:World}{H H':Hp}{h h':Heap}{a:Addr}{o:HO}
theorem ZF.lt (x:ZF P w H h a o):a<h.objs.size:=by
 cases o with
 |lst xs=>obtain⟨_,_,_,_,e⟩:=x;exact Pg e
 |tup xs=>obtain⟨_,_,_,p⟩:=x;exact p.lt
 |dK kvs=>obtain⟨_,_,_,_,o,_,_,e,_⟩:=x;exact Pg e
 |dT kvs=>obtain⟨_,_,_,_,o,_,_,e,_⟩:=x;exact Pg e
 |set S n=>obtain⟨o,_,_,_,e,_⟩:=x;exact Pg e
 |ins C dx fs=>obtain⟨_,_,_,e,_⟩:=x;exact Pg e
 |own y=>obtain⟨_,e⟩:=x;exact Pg e
 |xd fs=>obtain⟨_,⟨_,_,_,e,_⟩,_⟩:=x;exact Pg e
 |rng lo hi=>obtain⟨_,_,_,e⟩:=x;exact Pg e
 |frz ob u=>obtain⟨e,_⟩:=x;exact Pg e
 |tbl ps=>exact Pg (show h.get? a=some _ from x)
 |met f y=>exact Pg (show h.get? a=some _ from x)
 |ext φ=>obtain⟨_,⟨_,e⟩,_⟩:=x;exact Pg e
theorem Paired.mapP {α β:Type}{F G:α->β->Prop}:∀{l₁:List α}{l₂:List β},Paired F l₁ l₂->(∀a b,F a b->G a b)->Paired G l₁ l₂
 |_,_,.nil,_=>.nil
 |_,_,.cons r t,f=>.cons (f _ _ r) (Paired.mapP t f)
theorem ZF.stay (x:ZF P w H h a o) (k:∀b u,(b=a\/H b=some (.own a))->h.get? b=some u->h'.get? b=some u)
  (ho:∀b,H b=some (.own a)->H' b=some (.own a)) (ht:∀b xs,H b=some (.tup xs)->H' b=some (.tup xs)):ZF P w H' h' a o:=by
 induction o with
 |lst xs=>obtain⟨z,its,n,r,e⟩:=x;exact⟨z,its,n,r,k _ _ (.inl rfl) e⟩
 |tup xs=>obtain⟨z,its,r,ob,e,c⟩:=x;exact⟨z,its,r,ob,k _ _ (.inl rfl) e,c⟩
 |dK kvs=>obtain⟨z,y,vs,r,ob,es,ep,e,c⟩:=x;exact⟨z,y,vs,r,ob,es,ep,k _ _ (.inl rfl) e,c⟩
 |dT kvs=>
  obtain⟨z,y,xs,r,ob,es,ep,e,c⟩:=x;exact⟨z,y,xs,Paired.mapP r λp q z=>⟨z.1,ht _ _ z.2.1,z.2.2⟩,ob,es,ep,k _ _ (.inl rfl) e,c⟩
 |set S n=>obtain⟨ob,es,ep,t,e,c⟩:=x;exact⟨ob,es,ep,t,k _ _ (.inl rfl) e,c⟩
 |ins C dx fs=>
  obtain⟨d,z,ne,e,mA,⟨od,es,ep,e2,c⟩,r⟩:=x;exact⟨ho _ d,z,ne,k _ _ (.inl rfl) e,mA,⟨od,es,ep,k _ _ (.inr d) e2,c⟩,r⟩
 |own y=>obtain⟨ob,e⟩:=x;exact⟨ob,k _ _ (.inl rfl) e⟩
 |xd fs=>obtain⟨mA,⟨od,es,ep,e,c⟩,r⟩:=x;exact⟨mA,⟨od,es,ep,k _ _ (.inl rfl) e,c⟩,r⟩
 |rng lo hi=>obtain⟨t,u,v,e⟩:=x;exact⟨t,u,v,k _ _ (.inl rfl) e⟩
 |frz ob u ih=>obtain⟨e,q⟩:=x;exact⟨k _ _ (.inl rfl) e,ih q⟩
 |tbl ps=>
  have e:h.get? a=some { cls:=.none,data:=.fields ps }:=x;show h'.get? a=some { cls:=.none,data:=.fields ps };exact k a _ (.inl rfl) e
 |met f y=>
  have e:h.get? a=some (PySem.W.methodObj (.ref f) (.ref y)):=x;show h'.get? a=some (PySem.W.methodObj (.ref f) (.ref y));exact k a _ (.inl rfl) e
 |ext φ=>obtain⟨p,⟨o,e⟩,st⟩:=x;exact⟨st _ _ p λo q=>k _ _ (.inl rfl) q,⟨o,k _ _ (.inl rfl) e⟩,st⟩
theorem HOk.lt (x:HOk P w H h) (e:H a=some o):a<h.objs.size:=(x a o e).lt
theorem HOk.fresh (x:HOk P w H h) (e:h.objs.size<=a):H a=none:=by
 cases q:H a with
 |none=>rfl
 |some u=>exact absurd (Pu (x.lt q) e) (PN _)
theorem HOk.kept (x:HOk P w H h) (k:∀b u,h.get? b=some u->h'.get? b=some u):HOk P w H h':=λa o e=>
 (x a o e).stay (λb u _ q=>k b u q) (λ_ q=>q) λ_ _ q=>q
theorem HOk.laid (x:HOk P w H h) (k:∀b u,h.get? b=some u->h'.get? b=some u) (hp:h.objs.size<=a) (new:ZF P w (upd H a o) h' a o):HOk P w (upd H a o) h':=λb u e=>by
 have hn:=x.fresh hp;by_cases hb:b=a
 ·subst hb;rw[Zi] at e;cases e;exact new
 ·rw[Ze hb] at e
  exact (x b u e).stay (λc v _ q=>k c v q) (λc q=>by rw[Ze (Zn q hn)];exact q) λc xs q=>by rw[Ze (Zn q hn)];exact q
end
def Rd (H:Hp) (a:Addr) (u:HO):Prop:=H a=some u\/∃o,H a=some (.frz o u)
theorem Rd.ok {P:Program}{w:World}{H:Hp}{h:Heap}{a:Addr}{u:HO}(r:Rd H a u) (x:HOk P w H h):ZF P w H h a u:=by
 rcases r with r | ⟨o,r⟩
 ·exact x a u r
 ·obtain⟨_,q⟩:=x a _ r
  exact q
def Mut:Option HO->Prop
 |some (.lst _)=>True
 |some (.dK _)=>True
 |some (.dT _)=>True
 |some (.set _ _)=>True
 |some (.ins _ _ _)=>True
 |some (.ext _)=>True
 |_=>False
section
variable {P:Program}{w:World}{H:Hp}{h h':Heap}{x e:Addr}{o':HO}
theorem HOk.write (ok:HOk P w H h) (mu:Mut (H x)) (he:e=x\/H e=some (.own x)) (k:∀b u,b≠e->h.get? b=some u->h'.get? b=some u) (heo:∃u,h'.get? e=some u)
  (new:ZF P w (upd H x o') h' x o'):HOk P w (upd H x o') h':=λb u q=>by
 have nown:∀c y,H c=some (.own y)->c≠x:=λc y r z=>by subst z;rw[r] at mu;exact mu
 have ntup:∀c xs,H c=some (.tup xs)->c≠x:=λc xs r z=>by subst z;rw[r] at mu;exact mu
 by_cases hb:b=x
 ·subst hb;rw[Zi] at q;cases q;exact new
 ·rw[Ze hb] at q
  by_cases hbe:b=e
  ·have q':H b=some (.own x):=by
    rcases he with z | z
    ·exact absurd (hbe.trans z) hb
    ·rw[hbe];exact z
   rw[q] at q';cases q';obtain⟨v,hv⟩:=heo;exact⟨v,by rw[hbe];exact hv⟩
  ·refine (ok b u q).stay (λc v hc r=>k c v ?_ r) (λc r=>by rw[Ze (nown c b r)];exact r) λc xs r=>by rw[Ze (ntup c xs r)];exact r
   rcases hc with rfl | hc
   ·exact hbe
   ·rintro rfl
    rcases he with z | z
    ·exact nown c b hc z
    ·rw[hc] at z;cases z;exact hb rfl
end
structure Un (fs ex:List Addr) (H H':Hp) (h h':Heap):Prop where
 keep:∀b o,h.get? b=some o->H b=none->b∉fs->b∉ex->h'.get? b=some o
 slot:∀b o,h.get? b=some o->H b=none->b∈fs->b∉ex->∃sl,h'.get? b=some { o with slots:=sl }
 free:∀b o,h.get? b=some o->H b=none->b∉ex->H' b=none
 there:∀b o,h.get? b=some o->b∉ex->∃o',h'.get? b=some o'
 tups:∀b xs,H b=some (.tup xs)->H' b=some (.tup xs)
 frzs:∀b o u,H b=some (.frz o u)->H' b=some (.frz o u)
 tbls:∀b ps,H b=some (.tbl ps)->∃more,H' b=some (.tbl (ps++more))
section
variable {fs fs' ex ex':List Addr}{H H1 H2:Hp}{h h1 h2 h':Heap}{a x e:Addr}{o:HO}
theorem Un.any (u:Un fs ex H H1 h h1) {b:Addr}{ob:Obj}(q:h.get? b=some ob) (n:H b=none) (hx:b∉ex):∃sl,h1.get? b=some { ob with slots:=sl }:=by
 by_cases hb:b∈fs
 ·exact u.slot b ob q n hb hx
 ·exact⟨ob.slots,u.keep b ob q n hb hx⟩
theorem Un.kept (k:∀b u,h.get? b=some u->h'.get? b=some u):Un fs ex H H h h':=
 ⟨λb ob q _ _ _=>k b ob q,λb ob q _ _ _=>⟨ob.slots,k b ob q⟩,λ_ _ _ n _=>n,λb ob q _=>⟨ob,k b ob q⟩,λ_ _ q=>q,λ_ _ _ q=>q,λ_ ps q=>⟨#[],by rw[q];simp⟩⟩
theorem Un.refl:Un fs ex H H h h:=Un.kept λ_ _ q=>q
theorem Un.laid (k:∀b u,h.get? b=some u->h'.get? b=some u) (hp:h.objs.size<=a) (hn:H a=none):Un fs ex H (upd H a o) h h' where
 keep:=λb u q _ _ _=>k b u q
 slot:=λb u q _ _ _=>⟨u.slots,k b u q⟩
 free:=λb u q n _=>by rw[Ze (PX (Pu (Pg q) hp))];exact n
 there:=λb u q _=>⟨u,k b u q⟩
 tups:=λb xs q=>by rw[Ze (Zn q hn)];exact q
 frzs:=λb u xs q=>by rw[Ze (Zn q hn)];exact q
 tbls:=λb ps q=>⟨#[],by rw[Ze (Zn q hn),q];simp⟩
theorem Un.write (mu:Mut (H x)) (he:e=x\/H e=some (.own x)) (k:∀b u,b≠e->h.get? b=some u->h'.get? b=some u) (heo:∃u,h'.get? e=some u):Un fs ex H (upd H x o) h h':=by
 have hx:∀b,H b=none->b≠x:=λb n z=>by subst z;rw[n] at mu;exact mu
 have hb:∀b,H b=none->b≠e:=λb n z=>by
  subst z;rcases he with r | r
  ·exact hx b n r
  ·rw[n] at r;cases r
 have hm:∀b u,H b=some u->¬Mut (some u)->b≠x:=λb u q nm z=>by subst z;rw[q] at mu;exact nm mu
 refine⟨λb u q n _ _=>k b u (hb b n) q,λb u q n _ _=>⟨u.slots,k b u (hb b n) q⟩,λb u q n _=>by rw[Ze (hx b n)];exact n,λb u q _=>?_,
  λb xs q=>by rw[Ze (hm b _ q λz=>z)];exact q,λb u xs q=>by rw[Ze (hm b _ q λz=>z)];exact q,λb ps q=>⟨#[],by rw[Ze (hm b _ q λz=>z),q];simp⟩⟩
 by_cases hbe:b=e
 ·subst hbe;exact heo
 ·exact⟨u,k b u hbe q⟩
end
noncomputable def trk (h:Heap) (H:Hp):List Addr:=(List.range h.objs.size).filter λa=>(H a).isSome
noncomputable def Wo (h:Heap) (H:Hp):Heap:=PySem.W.hideAll h (trk h H)
theorem JU (h:Heap) (H:Hp):(Wo h H).objs.size=h.objs.size:=PySem.W.hideAll_size _ _
theorem G9 {h:Heap}{H:Hp}{b:Addr}{o:Obj}(e:h.get? b=some o) (n:H b=none):(Wo h H).get? b=some o:=
 PySem.W.hideAll_get _ e λhm=>by
  have q:(H b).isSome=true:=(N1.mp hm).2;rw[n] at q;simp at q
theorem yv {h:Heap}{H:Hp}{b:Addr}{o:Obj}(e:(Wo h H).get? b=some o):h.get? b=some o/\H b=none:=by
 have e':h.get? b=some o:=PySem.W.of_hideAll (trk h H) e;refine⟨e',?_⟩;cases q:H b with
 |none=>rfl
 |some x=>
  have hm:b∈trk h H:=N1.mpr ⟨Nm.mpr (Pg e'),by simp[q]⟩
  have z:(Wo h H).get? b=none:=PySem.W.hideAll_none (trk h H) hm;rw[z] at e;cases e
structure Mod (K:PySem.W.Frag) (mg:Str->Option Value) (base:Heap):Prop where
 kin:K.In base
 glob:base.Ns mainGlobals mg
 blt:∃mb,base.Ns builtinsNs mb/\∀x:Str,x≠"__name__"->mb x=bootBuiltins x
 nolimit:base.NoLimit
structure Cx where
 prog:Program
 w:World
 K:PySem.W.Frag
 mg:Str->Option Value
 base:Heap
 A:Around
 N:List Str
 s₀:Shared
 H₀:Hp
 env:Env
 outer:List Env
 stack:List Env
 ex:List Addr
 fn:Str->Bool
 calm:Bool
 pn:List (Addr×Obj)
 xe:Value->Shared->Prop
noncomputable def frs (l:List Env):List Addr:=l.filterMap (·.frame)
noncomputable abbrev Cx.fs (X:Cx):List Addr:=frs X.outer
def Vis (sc:Scope) (x:Str):Prop:=sc.names.lookup x=some .local\/sc.names.lookup x=some .cell\/sc.names.lookup x=some .free
def Loc (sc:Scope) (x:Str):Prop:=sc.names.lookup x=some .local\/sc.names.lookup x=some .cell
def Look (env:Env) (h:Heap) (m:Str->Option Value) (x:Str) (u:Value):Prop:=
 (env.kindOf x=some .local/\m x=some u)\/((env.kindOf x=some .cell\/env.kindOf x=some .free)/\∃c,env.cells.lookup x=some c/\h.IsCell c (some u))
structure Cx.Ok (X:Cx):Prop where
 mod:Mod X.K X.mg X.base
 kind:X.env.scope.kind=.function
 glob:X.env.globals=mainGlobals
 blt:X.env.builtins=builtinsNs
 above:X.s₀.heap.objs.size<=X.env.locals
 inj:∀x y c,X.env.cells.lookup x=some c->X.env.cells.lookup y=some c->x=y
 has:∀x,(X.env.kindOf x=some .cell\/X.env.kindOf x=some .free)->∃c,X.env.cells.lookup x=some c
 cab:∀x c,X.fn x=true->X.env.cells.lookup x=some c->X.s₀.heap.objs.size<=c
 hd:X.calm=true->X.A.handled=none
 frames:X.A.frames=some X.stack
 stk:X.stack=X.outer\/(X.stack=X.env::X.outer/\X.env.frame=some X.env.locals)
 exf:∀b∈X.ex,b≠X.env.locals/\∀x c,X.env.cells.lookup x=some c->c≠b
 bs:∀b o,X.base.get? b=some o->X.s₀.heap.get? b=some o/\X.H₀ b=none
 bsz:X.base.objs.size<=X.s₀.heap.objs.size
 noex:∀b o,X.base.get? b=some o->b∉X.ex
 exfs:∀b∈X.ex,b∉X.fs
 funs:X.s₀.heap.FunFrames X.base X.outer
 frf:∀b∈X.fs,X.H₀ b=none
structure Inv (X:Cx) (pq:List (Addr×Obj)) (σ:List (Option V)) (H:Hp) (s:Shared):Prop where
 ok:X.Ok
 os:s.os=X.s₀.os
 bare:AllBare s.gens
 base:Un X.fs X.ex X.H₀ H X.s₀.heap s.heap
 loc:∃m,s.heap.Ns X.env.locals m/\∀(i:Nat) (x:Str) (v:V),X.N[i]? = some x->σ[i]? = some (some v)->Vis X.env.scope x->∃u,Zs v u/\Look X.env s.heap m x u
 cell:∀x c,X.env.cells.lookup x=some c->∃v,s.heap.IsCell c v
 free:H X.env.locals=none
 freeC:∀x c,X.env.cells.lookup x=some c->H c=none
 pin:∀p∈X.pn++pq,s.heap.get? p.1=some p.2/\H p.1=none/\p.1≠X.env.locals/\p.1∉X.fs/\∀v,p.2.data≠.cell v
 hok:HOk X.prog X.w H s.heap
 len:σ.length=X.N.length
section
variable {X:Cx}{pq:List (Addr×Obj)}{σ:List (Option V)}{H H':Hp}{s:Shared}{h':Heap}
theorem Cx.Ok.nofr (ok:X.Ok) {b:Addr}{o:Obj}(e:X.base.get? b=some o):b∉X.fs:=λhb=>by
 have:=(ok.funs.mem hb).1;rw[e] at this;cases this
theorem Inv.bs (I:Inv X pq σ H s):∀b o,X.base.get? b=some o->s.heap.get? b=some o/\H b=none:=λb o e=>
 ⟨I.base.keep b o (I.ok.bs b o e).1 (I.ok.bs b o e).2 (I.ok.nofr e) (I.ok.noex b o e),I.base.free b o (I.ok.bs b o e).1 (I.ok.bs b o e).2 (I.ok.noex b o e)⟩
theorem Inv.bk (I:Inv X pq σ H s):∀b o,X.base.get? b=some o->s.heap.get? b=some o:=λb o e=>(I.bs b o e).1
theorem Inv.mod (I:Inv X pq σ H s):Mod X.K X.mg X.base:=I.ok.mod
theorem Inv.kIn (I:Inv X pq σ H s):X.K.In s.heap:=I.ok.mod.kin.keeps I.bk
theorem Inv.lt (I:Inv X pq σ H s):X.env.locals<s.heap.objs.size:=let ⟨_,hn,_⟩:=I.loc;hn.lt
theorem Inv.sz (I:Inv X pq σ H s):X.s₀.heap.objs.size<=s.heap.objs.size:=PY I.ok.above (Nat.le_of_lt I.lt)
theorem Inv.nofs (I:Inv X pq σ H s) {a:Addr}(h:s.heap.objs.size<=a):a∉X.fs:=λhb=>by
 obtain⟨_,o,ho,_⟩:=I.ok.funs.mem hb;exact absurd (Pu (Pg ho) (PY I.sz h)) (PN _)
theorem Inv.cne (I:Inv X pq σ H s):∀x c,X.env.cells.lookup x=some c->c≠X.env.locals:=λx c e z=>by
 obtain⟨v,o,ho,hd⟩:=I.cell x c e;obtain⟨m,⟨o',es,ep,ho',hd',_⟩,_⟩:=I.loc;rw[z,ho'] at ho;cases ho;rw[hd'] at hd;cases hd
theorem Inv.funs (I:Inv X pq σ H s):s.heap.FunFrames X.base X.outer:=by
 have all:∀(l:List Env),(∀b∈frs l,b∈X.fs)->X.s₀.heap.FunFrames X.base l->s.heap.FunFrames X.base l:=by
  intro l
  induction l with
  |nil=>intro _ _;trivial
  |cons env r ih=>
   intro hs hl;obtain⟨hk,⟨L,o,hf,hn,ho,hd⟩,hr⟩:=hl;have hL:L∈X.fs:=hs L (by unfold frs;rw[PU,hf];exact Pq)
   obtain⟨sl,e⟩:=I.base.slot L o ho (I.ok.frf L hL) hL λz=>I.ok.exfs L z hL
   exact⟨hk,⟨L,_,hf,hn,e,hd⟩,ih (λb hb=>hs b (by unfold frs;rw[PU,hf];exact Pn _ hb)) hr⟩
 exact all X.outer (λ_ hb=>hb) I.ok.funs
theorem Inv.stack (I:Inv X pq σ H s):s.heap.FunFrames X.base X.stack:=by
 rcases I.ok.stk with e | ⟨e,hf⟩
 ·rw[e];exact I.funs
 ·rw[e]
  obtain⟨m,hn,_⟩:=I.loc;refine .cons (by rw[I.ok.kind];decide) hf hn ?_ I.funs
  exact Heap.get?_none_of_le (PY I.ok.bsz I.ok.above)
theorem Inv.stkSub (I:Inv X pq σ H s):∀b∈frs X.stack,b∈X.env.locals::X.fs:=λb hb=>by
 rcases I.ok.stk with e | ⟨e,hf⟩
 ·rw[e] at hb;exact Pn _ hb
 ·rw[e] at hb
  unfold frs at hb;rw[PU,hf] at hb;exact hb
theorem Inv.stkFree (I:Inv X pq σ H s):∀b∈frs X.stack,H b=none:=λb hb=>by
 rcases Pr.mp (I.stkSub b hb) with e | hb
 ·rw[e];exact I.free
 ·obtain⟨_,o,ho,_⟩:=I.ok.funs.mem hb
  exact I.base.free b o ho (I.ok.frf b hb) λz=>I.ok.exfs b z hb
theorem Inv.step {g':Array GenState}{t':Nat}{d':Drawn}{ch:List Addr}(I:Inv X pq σ H s)
  (hch:∀b∈ch,(b∈X.ex\/X.s₀.heap.objs.size<=b)/\b≠X.env.locals/\(∀x c,X.env.cells.lookup x=some c->c≠b)/\∀p∈X.pn++pq,p.1≠b)
  (keep:∀b o,b≠X.env.locals->b∉X.fs->b∉ch->s.heap.get? b=some o->H b=none->h'.get? b=some o)
  (slot:∀b o,b≠X.env.locals->b∈X.fs->b∉ch->s.heap.get? b=some o->H b=none->∃sl,h'.get? b=some { o with slots:=sl }) (free:∀b o,b∉ch->s.heap.get? b=some o->H b=none->H' b=none)
  (there:∀b o,b∉ch->s.heap.get? b=some o->∃o',h'.get? b=some o')
  (tups:∀b xs,H b=some (.tup xs)->H' b=some (.tup xs)) (frzs:∀b o u,H b=some (.frz o u)->H' b=some (.frz o u)) (tbls:∀b ps,H b=some (.tbl ps)->∃more,H' b=some (.tbl (ps++more)))
  (ns:∀m,s.heap.Ns X.env.locals m->h'.Ns X.env.locals m) (hok:HOk X.prog X.w H' h') (hg:AllBare g') :
  Inv X pq σ H' { s with heap:=h',gens:=g',drawn:=d',toks:=t' }:=by
 have neL:∀b o,X.s₀.heap.get? b=some o->b≠X.env.locals:=λb o e=>PX (Pu (Pg e) I.ok.above)
 have neC:∀b o,X.s₀.heap.get? b=some o->b∉X.ex->b∉ch:=λb o e hx hb=>by
  rcases (hch b hb).1 with z | z
  ·exact hx z
  ·exact absurd (Pu (Pg e) z) (PN _)
 have cellK:∀x c,X.env.cells.lookup x=some c->∀v,s.heap.IsCell c v->h'.IsCell c v:=λx c e v ⟨o,ho,hd⟩=>by
  have nch:c∉ch:=λz=>(hch c z).2.2.1 x c e rfl
  by_cases hc:c∈X.fs
  ·obtain⟨sl,q⟩:=slot c o (I.cne x c e) hc nch ho (I.freeC x c e)
   exact⟨_,q,hd⟩
  ·exact⟨o,keep c o (I.cne x c e) hc nch ho (I.freeC x c e),hd⟩
 refine⟨I.ok,I.os,hg,⟨λb o e n hb hx=>?_,λb o e n hb hx=>?_,λb o e n hx=>?_,λb o e hx=>?_,λb xs e=>tups b xs (I.base.tups b xs e),λb o xs e=>frzs b o xs (I.base.frzs b o xs e),λb ps e=>?_⟩,?_,λx c e=>?_,?_,λx c e=>?_,λp hp=>?_,hok,I.len⟩
 ·exact keep b o (neL b o e) hb (neC b o e hx) (I.base.keep b o e n hb hx) (I.base.free b o e n hx)
 ·obtain⟨sl,e1⟩:=I.base.slot b o e n hb hx
  obtain⟨sl',e2⟩:=slot b _ (neL b o e) hb (neC b o e hx) e1 (I.base.free b o e n hx);exact⟨sl',e2⟩
 ·obtain⟨o',e1⟩:=I.base.there b o e hx
  exact free b o' (neC b o e hx) e1 (I.base.free b o e n hx)
 ·obtain⟨o',e1⟩:=I.base.there b o e hx
  exact there b o' (neC b o e hx) e1
 ·obtain⟨m1,e1⟩:=I.base.tbls b ps e
  obtain⟨m2,e2⟩:=tbls b _ e1;exact⟨m1++m2,by rw[e2,Array.append_assoc]⟩
 ·obtain⟨m,hn,hl⟩:=I.loc
  refine⟨m,ns m hn,λi x v e1 e2 e3=>?_⟩
  obtain⟨u,r,l⟩:=hl i x v e1 e2 e3;refine⟨u,r,?_⟩;rcases l with l | ⟨k,c,e,z⟩
  ·exact .inl l
  ·exact .inr ⟨k,c,e,cellK x c e _ z⟩
 ·obtain⟨v,z⟩:=I.cell x c e
  exact⟨v,cellK x c e v z⟩
 ·obtain⟨m,⟨o,_,_,ho,_⟩,_⟩:=I.loc
  exact free _ o (λz=>(hch _ z).2.1 rfl) ho I.free
 ·obtain⟨v,o,ho,hd⟩:=I.cell x c e
  exact free c o (λz=>(hch c z).2.2.1 x c e rfl) ho (I.freeC x c e)
 ·obtain⟨e,n,ne,nf,d⟩:=I.pin p hp
  have nch:p.1∉ch:=λz=>(hch p.1 z).2.2.2 p hp rfl
  exact⟨keep p.1 p.2 ne nf nch e n,free p.1 p.2 nch e n,ne,nf,d⟩
theorem Inv.un {t':Nat}(I:Inv X pq σ H s) (u:Un X.fs [] H H' s.heap h') (hok:HOk X.prog X.w H' h'):Inv X pq σ H' { s with heap:=h',toks:=t' }:=by
 obtain⟨m,⟨o,es,ep,ho,r⟩,_⟩:=id I.loc;obtain⟨sl,hL⟩:=u.any ho I.free (by simp)
 exact I.step (g':=s.gens) (d':=s.drawn) (ch:=[]) (λ_ z=>nomatch z) (λb o _ hb _ e n=>u.keep b o e n hb (by simp)) (λb o _ hb _ e n=>u.slot b o e n hb (by simp)) (λb o _ e n=>u.free b o e n (by simp)) (λb o _ e=>u.there b o e (by simp)) u.tups u.frzs u.tbls (λm' hm=>by
  obtain⟨o',es',ep',ho',r'⟩:=hm;rw[ho] at ho';cases ho';exact⟨_,es',ep',hL,r'⟩) hok I.bare
theorem Inv.call {g':Array GenState}{t':Nat}{d':Drawn}{ch:List Addr}(I:Inv X pq σ H s) (u:Un (frs X.stack) ch H H' s.heap h') (hok:HOk X.prog X.w H' h') (hg:AllBare g')
  (hch:∀b∈ch,(b∈X.ex\/X.s₀.heap.objs.size<=b)/\b≠X.env.locals/\(∀x c,X.env.cells.lookup x=some c->c≠b)/\∀p∈X.pn++pq,p.1≠b) :
  Inv X pq σ H' { s with heap:=h',gens:=g',drawn:=d',toks:=t' }:=by
 obtain⟨m,⟨o,es,ep,ho,r⟩,_⟩:=id I.loc;obtain⟨sl,hL⟩:=u.any ho I.free λz=>(hch _ z).2.1 rfl
 exact I.step (ch:=ch) hch (λb o hL hb hc e n=>u.keep b o e n (λz=>(Pr.mp (I.stkSub b z)).elim hL hb) hc) (λb o _ _ hc e n=>u.any e n hc) (λb o hc e n=>u.free b o e n hc) (λb o hc e=>u.there b o e hc) u.tups u.frzs u.tbls (λm' hm=>by
  obtain⟨o',es',ep',ho',r'⟩:=hm;rw[ho] at ho';cases ho';exact⟨_,es',ep',hL,r'⟩) hok hg
theorem Inv.turned {t':Nat}{it:Addr}(I:Inv X pq σ H s) (k:∀b o,b≠it->s.heap.get? b=some o->h'.get? b=some o) (hn:H it=none) (hL:it≠X.env.locals)
  (h1:it∈X.ex\/X.s₀.heap.objs.size<=it) (h2:∀x c,X.env.cells.lookup x=some c->c≠it) (h3:∀p∈X.pn++pq,p.1≠it):Inv X pq σ H { s with heap:=h',toks:=t' }:=by
 have nit:∀b u,H b=some u->b≠it:=λb u e z=>by rw[z,hn] at e;cases e
 refine I.step (g':=s.gens) (d':=s.drawn) (ch:=[it]) (λb hb=>?_) (λb o _ _ hc e _=>k b o (λz=>hc (by simp[z])) e) (λb o _ _ hc e _=>⟨o.slots,k b o (λz=>hc (by simp[z])) e⟩) (λ_ _ _ _ n=>n)
  (λb o hc e=>⟨o,k b o (λz=>hc (by simp[z])) e⟩) (λ_ _ e=>e) (λ_ _ _ e=>e) (λb ps e=>⟨#[],by rw[e];simp⟩) (λm hm=>?_) (λb u e=>?_) I.bare
 ·have e:b=it:=by simpa using hb
  subst e;exact⟨h1,hL,h2,h3⟩
 ·obtain⟨o,es,ep,ho,r⟩:=hm
  exact⟨o,es,ep,k _ o (Ne.symm hL) ho,r⟩
 ·refine (I.hok b u e).stay (λc v hc q=>k c v ?_ q) (λ_ q=>q) λ_ _ q=>q
  rcases hc with z | z
  ·rw[z];exact nit b u e
  ·exact nit c _ z
theorem Inv.tok (I:Inv X pq σ H s) (t:Nat):Inv X pq σ H { s with toks:=t }:=I.un (h':=s.heap) (t':=t) Un.refl I.hok
theorem Inv.kept {t':Nat}(I:Inv X pq σ H s) (k:∀b u,s.heap.get? b=some u->h'.get? b=some u):Inv X pq σ H { s with heap:=h',toks:=t' }:=I.un (Un.kept k) (I.hok.kept k)
theorem Inv.laid {a:Addr}{o:HO}{t':Nat}(I:Inv X pq σ H s) (k:∀b u,s.heap.get? b=some u->h'.get? b=some u) (hp:s.heap.objs.size<=a) (new:ZF X.prog X.w (upd H a o) h' a o) :
  Inv X pq σ (upd H a o) { s with heap:=h',toks:=t' }:=I.un (Un.laid k hp (I.hok.fresh hp)) (I.hok.laid k hp new)
theorem Inv.write {x e:Addr}{o:HO}{t':Nat}(I:Inv X pq σ H s) (mu:Mut (H x)) (he:e=x\/H e=some (.own x)) (k:∀b u,b≠e->s.heap.get? b=some u->h'.get? b=some u) (heo:∃u,h'.get? e=some u)
  (new:ZF X.prog X.w (upd H x o) h' x o):Inv X pq σ (upd H x o) { s with heap:=h',toks:=t' }:=I.un (Un.write mu he k heo) (I.hok.write mu he k heo new)
theorem Inv.pins_of {pins':List (Addr×Obj)}(I:Inv X pq σ H s) (h:∀p∈pins',s.heap.get? p.1=some p.2/\H p.1=none/\p.1≠X.env.locals/\p.1∉X.fs/\∀v,p.2.data≠.cell v):Inv X pins' σ H s:=
 ⟨I.ok,I.os,I.bare,I.base,I.loc,I.cell,I.free,I.freeC,λp hp=>(NK.mp hp).elim (λz=>I.pin p (NC _ z)) (h p),I.hok,I.len⟩
theorem WE {N:List Str}(hN:N.Nodup) {i j:Nat}{x:Str}(a:N[i]? = some x) (b:N[j]? = some x):i=j:=by
 obtain⟨h1,e1⟩:=Pc.mp a;obtain⟨h2,e2⟩:=Pc.mp b;exact (List.getElem_inj hN).mp (e1.trans e2.symm)
theorem JO {M:Model}{A:Around}{E:Value->Shared->Prop}{i:Nat}{x:Str}{v:V}{u:Value}{Q:Unit->Shared->Prop}(I:Inv X pq σ H s) (hN:X.N.Nodup) (hi:X.N[i]? = some x) (hx:Loc X.env.scope x) (r:Zs v u)
  (h:∀s',Inv X pq (σ.set i (some v)) H s'->(∃a,Heap.SameBut a s.heap s'.heap/\(a=X.env.locals\/X.env.cells.lookup x=some a))->Q () s') (hf:X.fn x=true\/X.env.scope.names.lookup x=some .local:=by first | exact .inl rfl | exact .inr rfl | assumption):wpAny M A (storeName X.env x u) Q E s:=by
 obtain⟨m,hn,hl⟩:=id I.loc;have hcls:(X.env.scope.kind == .class||(X.env.scope.kind == .module&&X.env.locals != X.env.globals))=false:=by rw[I.ok.kind];rfl
 have hiσ:i<σ.length:=by rw[I.len];exact (Pc.mp hi).1
 have cne:=I.cne;have tracked:∀{a:Addr} {h':Heap},(∃o,s.heap.get? a=some o/\H a=none)->Heap.SameBut a s.heap h'->HOk X.prog X.w H h':=λ{a h'} ha hs b ob e=>by
  obtain⟨_,_,hfree⟩:=ha;refine (I.hok b ob e).stay (λc w' hc q=>(hs.2 c ?_).trans q) (λ_ q=>q) λ_ _ q=>q
  rintro rfl
  rcases hc with rfl | hc
  ·rw[hfree] at e;cases e
  ·rw[hfree] at hc;cases hc
 rcases hx with hk | hk
 ·refine wpAny_storeName_local hk hn (λh' hn' hs=>?_) hcls
  obtain⟨oL,_,_,hoL,_⟩:=id hn;refine h _ ⟨I.ok,I.os,I.bare,⟨λb o e n hb hx=>?_,λb o e n hb hx=>?_,I.base.free,λb o e hx=>?_,I.base.tups,I.base.frzs,I.base.tbls⟩,⟨_,hn',λj y v' e1 e2 e3=>?_⟩,λy c e=>?_,I.free,I.freeC,λp hp=>?_,tracked ⟨oL,hoL,I.free⟩ hs,by simpa using I.len⟩ ⟨_,hs,.inl rfl⟩
  ·exact (hs.2 b (PX (Pu (Pg e) I.ok.above))).trans (I.base.keep b o e n hb hx)
  ·obtain⟨sl,e1⟩:=I.base.slot b o e n hb hx
   exact⟨sl,(hs.2 b (PX (Pu (Pg e) I.ok.above))).trans e1⟩
  ·obtain⟨o',e1⟩:=I.base.there b o e hx
   exact⟨o',(hs.2 b (PX (Pu (Pg e) I.ok.above))).trans e1⟩
  ·by_cases hj:j=i
   ·subst hj
    rw[hi] at e1;cases e1;rw[Pw hiσ] at e2;cases e2;exact⟨u,r,.inl ⟨hk,by simp⟩⟩
   ·rw[Pk (Ne.symm hj)] at e2
    obtain⟨u',r',q⟩:=hl j y v' e1 e2 e3;refine⟨u',r',?_⟩;rcases q with ⟨k,e⟩ | ⟨k,c,e,z⟩
    ·refine .inl ⟨k,?_⟩
     have:y≠x:=λe=>hj (WE hN e1 (e▸hi))
     simp[this,e]
    ·exact .inr ⟨k,c,e,z.sameBut hs (cne y c e)⟩
  ·obtain⟨w',z⟩:=I.cell y c e
   exact⟨w',z.sameBut hs (cne y c e)⟩
  ·obtain⟨e,n,ne,nf,d⟩:=I.pin p hp
   exact⟨(hs.2 p.1 ne).trans e,n,ne,nf,d⟩
 ·have hfn:X.fn x=true:=by
   rcases hf with z | z
   ·exact z
   ·rw[z] at hk;cases hk
  obtain⟨c,hc⟩:=I.ok.has x (.inl hk);obtain⟨w',z⟩:=I.cell x c hc;refine wpAny_storeName_cell I.ok.kind hk hc z (λh' hc' hs=>?_)
  obtain⟨oc,hoc,hocd⟩:=id z;refine h { s with heap:=h' } ⟨I.ok,I.os,I.bare,⟨λb o e n hb hx=>?_,λb o e n hb hx=>?_,I.base.free,λb o e hx=>?_,I.base.tups,I.base.frzs,I.base.tbls⟩,⟨m,hn.sameBut hs (Ne.symm (cne x c hc)),λj y v' e1 e2 e3=>?_⟩,λy c' e=>?_,I.free,I.freeC,λp hp=>?_,tracked ⟨oc,hoc,I.freeC x c hc⟩ hs,by simpa using I.len⟩ ⟨c,hs,.inr hc⟩
  ·exact (hs.2 b (PX (Pu (Pg e) (I.ok.cab x c hfn hc)))).trans (I.base.keep b o e n hb hx)
  ·obtain⟨sl,e1⟩:=I.base.slot b o e n hb hx
   exact⟨sl,(hs.2 b (PX (Pu (Pg e) (I.ok.cab x c hfn hc)))).trans e1⟩
  ·obtain⟨o',e1⟩:=I.base.there b o e hx
   exact⟨o',(hs.2 b (PX (Pu (Pg e) (I.ok.cab x c hfn hc)))).trans e1⟩
  ·by_cases hj:j=i
   ·subst hj
    rw[hi] at e1;cases e1;rw[Pw hiσ] at e2;cases e2;exact⟨u,r,.inr ⟨.inl hk,c,hc,hc'⟩⟩
   ·rw[Pk (Ne.symm hj)] at e2
    obtain⟨u',r',q⟩:=hl j y v' e1 e2 e3;refine⟨u',r',?_⟩;rcases q with q | ⟨k,c',e,z'⟩
    ·exact .inl q
    ·refine .inr ⟨k,c',e,z'.sameBut hs ?_⟩
     rintro rfl
     exact hj (WE hN e1 (I.ok.inj _ _ _ e hc▸hi))
  ·by_cases hcc:c'=c
   ·subst hcc;exact⟨_,hc'⟩
   ·obtain⟨w2,z2⟩:=I.cell y c' e
    exact⟨w2,z2.sameBut hs hcc⟩
  ·obtain⟨e,n,ne,nf,d⟩:=I.pin p hp
   refine⟨(hs.2 p.1 ?_).trans e,n,ne,nf,d⟩;intro q;rw[q,hoc] at e;have q':oc=p.2:=Pa e;exact d w' (by rw[<-q'];exact hocd)
theorem XD {M:Model}{A:Around}{E:Value->Shared->Prop}{i:Nat}{x:Str}{v:V}{u:Value}{Q:Unit->Shared->Prop}(I:Inv X pq σ H s) (hN:X.N.Nodup) (hi:X.N[i]? = some x) (hx:Loc X.env.scope x) (r:Zs v u)
  (h:∀s',Inv X pq (σ.set i (some v)) H s'->Q () s') (hf:X.fn x=true\/X.env.scope.names.lookup x=some .local:=by first | exact .inl rfl | exact .inr rfl | assumption):wpAny M A (storeName X.env x u) Q E s:=
 JO I hN hi hx r (λs' I' _=>h s' I') hf
theorem Inv.call' {s':Shared}{ch:List Addr}(I:Inv X pq σ H s) (ho:s'.os=s.os) (u:Un (frs X.stack) ch H H' s.heap s'.heap) (hok:HOk X.prog X.w H' s'.heap) (hg:AllBare s'.gens)
  (hch:∀b∈ch,(b∈X.ex\/X.s₀.heap.objs.size<=b)/\b≠X.env.locals/\(∀x c,X.env.cells.lookup x=some c->c≠b)/\∀p∈X.pn++pq,p.1≠b):Inv X pq σ H' s':=by
 obtain⟨h',g',d',t',o'⟩:=s';have e:o'=s.os:=ho;subst e;exact I.call (g':=g') (t':=t') (d':=d') u hok hg hch
end
abbrev XK:=Value->Option Addr->Hp->Prop
noncomputable abbrev St:=List (Option V)
abbrev VK:=V->Hp->Prop
abbrev TE:=St->Hp->VK->Prop
abbrev TT:=St->Hp->(Bool->Hp->Prop)->Prop
abbrev TA:=St->Hp->(List V->Hp->Prop)->Prop
structure Ends where
 nx:St->Hp->Prop
 rt:VK
 bk:St->Hp->Prop:=λ_ _=>False
 ct:St->Hp->Prop:=λ_ _=>False
abbrev TS:=Ends->St->Hp->Prop
def EP (X:Cx) (pq:List (Addr×Obj)) (σ:St) (Q:VK) (u:Value) (s':Shared):Prop:=∃v H',Inv X pq σ H' s'/\Zs v u/\Q v H'
def TP (X:Cx) (pq:List (Addr×Obj)) (σ:St) (Q:Bool->Hp->Prop) (b:Bool) (s':Shared):Prop:=∃H',Inv X pq σ H' s'/\Q b H'
def AP (X:Cx) (pq:List (Addr×Obj)) (σ:St) (Q:List V->Hp->Prop) (us:List Value) (s':Shared):Prop:=∃vs H',Inv X pq σ H' s'/\Vals vs us/\Q vs H'
def SP (X:Cx) (pq:List (Addr×Obj)) (D:Ends) (f:Flow) (s':Shared):Prop:=
 match f with
 |.next=>∃σ' H',Inv X pq σ' H' s'/\D.nx σ' H'
 |.brk=>∃σ' H',Inv X pq σ' H' s'/\D.bk σ' H'
 |.cont=>∃σ' H',Inv X pq σ' H' s'/\D.ct σ' H'
 |.ret u=>∃v σ' H',Inv X pq σ' H' s'/\Zs v u/\D.rt v H'
def PE (X:Cx) (e:Expr) (t:TE):Prop:=
 ∀(pq:List (Addr×Obj)) (s:Shared) (σ:St) (H:Hp) (Q:VK),Inv X pq σ H s->t σ H Q->wpAny (model X.prog X.w) X.A (eval e X.env) (EP X pq σ Q) X.xe s
def PT (X:Cx) (e:Expr) (t:TT):Prop:=
 ∀(pq:List (Addr×Obj)) (s:Shared) (σ:St) (H:Hp) (Q:Bool->Hp->Prop),Inv X pq σ H s->t σ H Q->wpAny (model X.prog X.w) X.A (isTrue e X.env (eval e X.env)) (TP X pq σ Q) X.xe s
def PW (X:Cx) (e:Expr) (t:TT):Prop:=
 ∀(whole:Sem Value) (pq:List (Addr×Obj)) (s:Shared) (σ:St) (H:Hp) (Q:Bool->Hp->Prop),Inv X pq σ H s->t σ H Q->wpAny (model X.prog X.w) X.A (isTrue e X.env whole) (TP X pq σ Q) X.xe s
theorem PW.pt {X:Cx}{e:Expr}{t:TT}(h:PW X e t):PT X e t:=h _
def PA (X:Cx) (es:List Expr) (t:TA):Prop:=
 ∀(pos:Pos) (pq:List (Addr×Obj)) (s:Shared) (σ:St) (H:Hp) (Q:List V->Hp->Prop),Inv X pq σ H s->t σ H Q->wpAny (model X.prog X.w) X.A (spliced (backTo pos (starEach es X.env))) (AP X pq σ Q) X.xe s
def PS (X:Cx) (st:Stmt) (t:TS):Prop:=
 ∀(pq:List (Addr×Obj)) (s:Shared) (σ:St) (H:Hp) (D:Ends),Inv X pq σ H s->t D σ H->wpAny (model X.prog X.w) X.A (exec st X.env) (SP X pq D) X.xe s
def PSs (X:Cx) (st:List Stmt) (t:TS):Prop:=
 ∀(pq:List (Addr×Obj)) (s:Shared) (σ:St) (H:Hp) (D:Ends),Inv X pq σ H s->t D σ H->wpAny (model X.prog X.w) X.A (execs st X.env) (SP X pq D) X.xe s
theorem thn {α:Type}{t:Sem α}{Q Q':α->Shared->Prop}{M:Model}{A:Around}{E:Value->Shared->Prop}{s:Shared}(h:wpAny M A t Q E s) (hQ:∀a s,Q a s->Q' a s):wpAny M A t Q' E s:=Ni h hQ λ_ _ x=>x
section
variable {X:Cx}
def Ql (i:Nat):TE:=λσ H Q=>∃v,σ[i]? = some (some v)/\Q v H
def tC (v:V):TE:=λ_ H Q=>Q v H
theorem YI {i:Nat}{x:Str}{pos:Pos}(hN:X.N[i]? = some x) (hv:Vis X.env.scope x) (hd:(x == ("__debug__" : Str))=false:=by decide) (hcd:(x == ("__classdict__" : Str))=false:=by decide):PE X (.Name x pos) (Ql i):=by
 intro pq s σ H Q I h;obtain⟨v,e,h⟩:=h;obtain⟨m,hn,hl⟩:=I.loc;obtain⟨u,r,l⟩:=hl i x v hN e hv;have fin:EP X pq σ Q u s:=⟨v,H,I,r,h⟩;rcases l with ⟨hk,hm⟩ | ⟨hk,c,hc,hcell⟩
 ·exact wpAny_Name (wpAny_loadName_local I.ok.kind hk hn hm fin) hd
 ·rcases hk with hk | hk
  ·exact wpAny_Name (wpAny_loadName_cell I.ok.kind hk hc hcell fin) hd
  ·exact wpAny_Name (wpAny_loadName_free I.ok.kind hk hc hcell fin hcd) hd
theorem zR {i j pos}:PE X (.Constant (.int i) j pos) (tC (.int i)):=λ_ _ _ H _ I h=>wpAny_Constant_int ⟨.int i,H,I.tok _,⟨_,rfl⟩,h⟩
theorem xP {b j pos}:PE X (.Constant (.bool b) j pos) (tC (.bl b)):=λ_ _ _ H _ I h=>Constant_bool ⟨.bl b,H,I,rfl,h⟩
theorem Qh {j pos}:PE X (.Constant .none j pos) (tC .non):=λ_ _ _ H _ I h=>Constant_none ⟨.non,H,I,rfl,h⟩
theorem G2 {x j pos}:PE X (.Constant (.str x) j pos) (tC (.str x)):=λ_ _ _ H _ I h=>Calls.Constant_str ⟨.str x,H,I.tok _,⟨_,rfl⟩,h⟩
def Gl (X:Cx) (x:Str):Prop:=X.env.kindOf x=some .globalImplicit
theorem Xp {E:Value->Shared->Prop}{pq:List (Addr×Obj)}{s:Shared}{σ:St}{H:Hp}{x:Str}{u:Value}{pos:Pos}{Q:Value->Shared->Prop}(I:Inv X pq σ H s) (hg:Gl X x) (hm:X.mg x=some u) (h:Q u s)
  (hd:(x == ("__debug__" : Str))=false:=by decide):wpAny (model X.prog X.w) X.A (eval (.Name x pos) X.env) Q E s:=
 Calls.Name_function_global I.ok.kind hg (Calls.loadGlobal_global (by rw[I.ok.glob];exact I.mod.glob.keeps I.bk) hm h) hd
theorem XZ {E:Value->Shared->Prop}{pq:List (Addr×Obj)}{s:Shared}{σ:St}{H:Hp}{x:Str}{u:Value}{pos:Pos}{Q:Value->Shared->Prop}(I:Inv X pq σ H s) (hg:Gl X x) (hm:X.mg x=none) (hv:bootBuiltins x=some u) (h:Q u s)
  (hn:x≠"__name__":=by decide) (hd:(x == ("__debug__" : Str))=false:=by decide):wpAny (model X.prog X.w) X.A (eval (.Name x pos) X.env) Q E s:=by
 obtain⟨mb,h1,h2⟩:=I.mod.blt;exact Calls.Name_function_global I.ok.kind hg (Calls.loadGlobal_builtin (by rw[I.ok.glob];exact I.mod.glob.keeps I.bk) hm (by rw[I.ok.blt];exact h1.keeps I.bk) ((h2 x hn).trans hv) h) hd
theorem V4 {x:Str}{v:V}{u:Value}{pos:Pos}(hg:Gl X x) (hm:X.mg x=some u) (r:Zs v u) (hd:(x == ("__debug__" : Str))=false:=by decide):PE X (.Name x pos) (tC v):=
 λ_ _ _ H _ I h=>Xp I hg hm ⟨v,H,I,r,h⟩ hd
theorem We {x:Str}{v:V}{u:Value}{pos:Pos}(hg:Gl X x) (hm:X.mg x=none) (hv:bootBuiltins x=some u) (r:Zs v u) (hn:x≠"__name__":=by decide) (hd:(x == ("__debug__" : Str))=false:=by decide):PE X (.Name x pos) (tC v):=
 λ_ _ _ H _ I h=>XZ I hg hm hv ⟨v,H,I,r,h⟩ hn hd
variable {a b:Expr}{ta tb:TE}{pos:Pos}
def PC (X:Cx) (op:CmpOp) (a b:Expr) (t:TE):Prop:=
 ∀(pq:List (Addr×Obj)) (s:Shared) (σ:St) (H:Hp) (Q:VK),Inv X pq σ H s->t σ H Q->
  wpAny (model X.prog X.w) X.A (eval a X.env) (λv s₁=>wpAny (model X.prog X.w) X.A (eval b X.env) (λu s₂=>wpAny (model X.prog X.w) X.A (compareOp op v u) (EP X pq σ Q) X.xe s₂) X.xe s₁) X.xe s
theorem zc (b:Expr) {op:CmpOp}(h:op≠.In) (h2:op≠.NotIn):behindInMarks op b=false:=by
 have e1:(op == CmpOp.In)=false:=by cases op <;> first | rfl | exact absurd rfl h
 have e2:(op == CmpOp.NotIn)=false:=by cases op <;> first | rfl | exact absurd rfl h2
 cases b <;> simp[behindInMarks,e1,e2]
def um (ta:TE):TE:=λσ H Q=>ta σ H λx H1=>Q (.bl (decide (x=.non))) H1
theorem Zs.none_iff {x:V}{v:Value}(r:Zs x v):(v == Value.none)=decide (x=.non):=by
 cases x with
 |non=>cases r;rfl
 |bl _=>cases r;rfl
 |int _=>obtain⟨t,rfl⟩:=r;rfl
 |str _=>obtain⟨t,rfl⟩:=r;rfl
 |byt _=>obtain⟨t,rfl⟩:=r;rfl
 |flt _=>obtain⟨t,rfl⟩:=r;rfl
 |ref _=>cases r;rfl
 |ty _=>cases r;rfl
theorem vq {j pos'}(ha:PE X a ta):PC X .Is a (.Constant .none j pos') (um ta):=by
 intro pq s σ H Q I h;refine thn (ha pq s σ H _ I h) λv s1 ⟨x,H1,I1,r1,q1⟩=>?_
 exact Constant_none (is_none_gen ⟨.bl _,H1,I1,by rw[r1.none_iff];rfl,q1⟩)
def tB (t:TE):TT:=λσ H Q=>t σ H λx H1=>∃c,x=.bl c/\Q c H1
theorem wR {op:CmpOp}{t:TE}(h:PC X op a b t) (h1:behindInMarks op b=false:=by first | exact zc _ (by decide) (by decide) | rfl):PT X (.Compare a [op] [b] pos) (tB t):=by
 intro pq s σ H Q I hw;refine wpAny_isTrue_Compare1 (thn (h pq s σ H _ I hw) λv s1 h1=>thn h1 λu s2 h2=>thn h2 λc s3 ⟨x,H1,I1,r1,q1⟩=>?_) h1
 obtain⟨d,rfl,q⟩:=q1;cases r1;exact Ng ⟨H1,I1,q⟩
theorem wC {e:Expr}{t:TE}(h:PE X e t) (he:∀whole,isTrue e X.env whole=(do let v <-whole;standAt e.pos;holding [v] (truthy v)):=by intro _;rfl):PT X e (tB t):=by
 intro pq s σ H Q I hw;refine isTrue_plain (thn (h pq s σ H _ I hw) λv s1 ⟨x,H1,I1,r1,q1⟩=>?_) (he _)
 obtain⟨d,rfl,q⟩:=q1;cases r1;exact Ng ⟨H1,I1,q⟩
variable {tA tB':TT}{rest:List Expr}
def uX (t u:TT):TT:=λσ H Q=>t σ H λc H1=>if c=true then u σ H1 Q else Q false H1
def tOr (t u:TT):TT:=λσ H Q=>t σ H λc H1=>if c=true then Q true H1 else u σ H1 Q
def uF (t:TT):TT:=λσ H Q=>t σ H λc H1=>Q (!c) H1
theorem yC (ha:PT X a tA):PW X (.BoolOp .And [a] pos) tA:=by
 intro wh pq s σ H Q I h;refine isTrue_and (thn (ha pq s σ H Q I h) λc s1 e=>?_)
 cases c with
 |true=>exact isTrue_and_nil e
 |false=>exact e
theorem GT (ha:PT X a tA):PW X (.BoolOp .Or [a] pos) tA:=by
 intro wh pq s σ H Q I h;refine isTrue_or (thn (ha pq s σ H Q I h) λc s1 e=>?_)
 cases c with
 |false=>exact isTrue_or_nil e
 |true=>exact e
theorem vn (ha:PT X a tA) (hb:PW X (.BoolOp .And (b::rest) pos) tB'):PW X (.BoolOp .And (a::b::rest) pos) (uX tA tB'):=by
 intro wh pq s σ H Q I h;refine isTrue_and (thn (ha pq s σ H _ I h) λc s1 ⟨H1,I1,q1⟩=>?_)
 cases c with
 |true=>exact hb wh pq s1 σ H1 Q I1 q1
 |false=>exact⟨H1,I1,q1⟩
theorem xN (ha:PT X a tA) (hb:PW X (.BoolOp .Or (b::rest) pos) tB'):PW X (.BoolOp .Or (a::b::rest) pos) (tOr tA tB'):=by
 intro wh pq s σ H Q I h;refine isTrue_or (thn (ha pq s σ H _ I h) λc s1 ⟨H1,I1,q1⟩=>?_)
 cases c with
 |true=>exact⟨H1,I1,q1⟩
 |false=>exact hb wh pq s1 σ H1 Q I1 q1
theorem zZ (ha:PT X a tA):PT X (.UnaryOp .Not a pos) (uF tA):=by
 intro pq s σ H Q I h;exact isTrue_not (ha pq s σ H (λc H1=>Q (!c) H1) I h)
def vZ (ta tb:TE):TE:=λσ H Q=>ta σ H λx H1=>∃c,x=.bl c/\if c=true then tb σ H1 Q else Q (.bl false) H1
theorem vy (ha:PE X a ta) (hb:PE X (.BoolOp .And (b::rest) pos) tb):PE X (.BoolOp .And (a::b::rest) pos) (vZ ta tb):=by
 intro pq s σ H Q I h;refine BoolOp_and (thn (ha pq s σ H _ I h) λv s1 ⟨x,H1,I1,r1,q1⟩=>?_)
 obtain⟨c,rfl,q1⟩:=q1;cases r1;refine Ng ?_;cases c with
 |true=>exact hb pq s1 σ H1 Q I1 q1
 |false=>exact⟨.bl false,H1,I1,rfl,q1⟩
end
def SqL (K:PySem.W.Frag) (H:Hp) (a:Addr) (xs:List V):Prop:=
 Rd H a (.lst xs)\/
  ∃(o:Obj) (its:Array Value) (n:Nat),K.lookup a=some o/\o.cls=.type "list"/\o.dict=none/\o.data=.seq its n/\its.size<=sizeLine/\Vals xs its.toList
def SqT (K:PySem.W.Frag) (H:Hp) (a:Addr) (xs:List V):Prop:=
 Rd H a (.tup xs)\/
  ∃(o:Obj) (its:Array Value) (n:Nat),K.lookup a=some o/\o.cls=.type "tuple"/\o.data=.seq its n/\its.size<=sizeLine/\Vals xs its.toList
noncomputable def uU:Value->Option V
 |.none=>some .non
 |.bool b=>some (.bl b)
 |.int i _=>some (.int i)
 |.str x _=>some (.str x)
 |.bytes b _=>some (.byt b)
 |.float b _=>some (.flt b)
 |.ref a=>some (.ref a)
 |.type n=>some (.ty n)
 |_=>none
theorem Zs.abs {x:V}{u:Value}(r:Zs x u):uU u=some x:=by
 cases x with
 |non=>cases r;rfl
 |bl _=>cases r;rfl
 |int _=>obtain⟨t,rfl⟩:=r;rfl
 |str _=>obtain⟨t,rfl⟩:=r;rfl
 |byt _=>obtain⟨t,rfl⟩:=r;rfl
 |flt _=>obtain⟨t,rfl⟩:=r;rfl
 |ref _=>cases r;rfl
 |ty _=>cases r;rfl
theorem Zs.inj {x y:V}{u:Value}(r:Zs x u) (q:Zs y u):x=y:=Pa (r.abs.symm.trans q.abs)
theorem Vals.inj:∀{xs ys:List V}{us:List Value},Vals xs us->Vals ys us->xs=ys
 |_,_,_,.nil,.nil=>rfl
 |_,_,_,.cons r t,.cons r' t'=>by rw[r.inj r',Vals.inj t t']
section
variable {X:Cx}{pq:List (Addr×Obj)}{σ:St}{H:Hp}{s:Shared}{a:Addr}{xs ys:List V}
theorem SqL.of {K:PySem.W.Frag}(h:H a=some (.lst xs)):SqL K H a xs:=.inl (.inl h)
theorem SqT.of {K:PySem.W.Frag}(h:H a=some (.tup xs)):SqT K H a xs:=.inl (.inl h)
theorem Inv.list (I:Inv X pq σ H s) (h:SqL X.K H a xs):∃its:List Value,Vals xs its/\PlainL s.heap a its.toArray/\xs.length<=sizeLine:=by
 rcases h with h | ⟨o,its,n,hk,hc,hd,hs,hz,r⟩
 ·obtain⟨z,its,n,r,e⟩:=h.ok I.hok
  exact⟨its,r,⟨_,n,e,rfl,rfl,rfl⟩,z⟩
 ·refine⟨its.toList,r,⟨o,n,I.kIn a o hk,hc,hd,by simpa using hs⟩,?_⟩
  have e:=r.length;simp only[Array.length_toList] at e;omega
theorem Inv.tuple (I:Inv X pq σ H s) (h:SqT X.K H a xs):∃its:List Value,Vals xs its/\IsTup s.heap a its.toArray/\xs.length<=sizeLine:=by
 rcases h with h | ⟨o,its,n,hk,hc,hs,hz,r⟩
 ·obtain⟨z,its,r,p⟩:=h.ok I.hok
  exact⟨its,r,p,z⟩
 ·refine⟨its.toList,r,⟨o,I.kIn a o hk,hc,n,by simpa using hs⟩,?_⟩
  have e:=r.length;simp only[Array.length_toList] at e;omega
theorem Inv.list_inj (I:Inv X pq σ H s) (h:SqL X.K H a xs) (h':SqL X.K H a ys):xs=ys:=by
 obtain⟨its,r,⟨o,n,e,_,_,d⟩,_⟩:=I.list h;obtain⟨its',r',⟨o',n',e',_,_,d'⟩,_⟩:=I.list h';rw[e] at e';cases e';rw[d] at d';injection d' with d1 _
 have:its=its':=by simpa using congrArg Array.toList d1
 subst this;exact r.inj r'
theorem Inv.tuple_inj (I:Inv X pq σ H s) (h:SqT X.K H a xs) (h':SqT X.K H a ys):xs=ys:=by
 obtain⟨its,r,⟨o,e,_,n,d⟩,_⟩:=I.tuple h;obtain⟨its',r',⟨o',e',_,n',d'⟩,_⟩:=I.tuple h';rw[e] at e';cases e';rw[d] at d';injection d' with d1 _
 have:its=its':=by simpa using congrArg Array.toList d1
 subst this;exact r.inj r'
end
section
variable {X:Cx}{st:Stmt}{rest:List Stmt}{t u:TS}{e:Expr}{te:TE}{pos:Pos}
def GK:TS:=λD σ H=>D.nx σ H
def QM (t u:TS):TS:=λD σ H=>t { D with nx:=u D } σ H
theorem VQ:PSs X [] GK:=λ_ _ σ H _ I h=>wpAny_execs_nil ⟨σ,H,I,h⟩
theorem Yn (h1:PS X st t) (h2:PSs X rest u):PSs X (st::rest) (QM t u):=by
 intro pq s σ H D I h;refine wpAny_execs_cons (thn (h1 pq s σ H { D with nx:=u D } I h) λf s1 q=>?_)
 cases f with
 |next=>
  obtain⟨σ',H',I',q⟩:=q;exact h2 pq s1 σ' H' D I' q
 |ret v=>exact q
 |brk=>exact q
 |cont=>exact q
theorem Wi (h1:PS X st t):PSs X [st] t:=by
 intro pq s σ H D I h;refine wpAny_execs_cons (thn (h1 pq s σ H D I h) λf s1 q=>?_)
 cases f with
 |next=>exact wpAny_execs_nil q
 |ret v=>exact q
 |brk=>exact q
 |cont=>exact q
theorem Inv.quiet {pq:List (Addr×Obj)}{σ:St}{H:Hp}{s:Shared}(I:Inv X pq σ H s):interactive X.env=false:=by simp[interactive,I.ok.kind]
def wb (te:TE):TS:=λD σ H=>te σ H λ_ H1=>D.nx σ H1
theorem Jk (he:PE X e te) (hs:swapsWith e none pos.line X.env=pure false:=by rfl):PS X (.Expr e pos) (wb te):=by
 intro pq s σ H D I h;exact wpAny_Expr_any (thn (he pq s σ H _ I h) λv s1 ⟨x,H1,I1,r1,q1⟩=>⟨σ,H1,I1,q1⟩) I.quiet hs
def yS (te:TE):TS:=λD σ H=>te σ H D.rt
theorem Vy (he:PE X e te):PS X (.Return (some e) pos) (yS te):=by
 intro pq s σ H D I h;exact wpAny_Return_some (thn (he pq s σ H _ I h) λv s1 ⟨x,H1,I1,r1,q1⟩=>⟨x,σ,H1,I1,r1,q1⟩)
def vg (c:TT) (t u:TS):TS:=λD σ H=>c σ H λb H1=>if b=true then t D σ H1 else u D σ H1
theorem zn {c:Expr}{a b:List Stmt}{tc:TT}(hc:PT X c tc) (ha:PSs X a t) (hb:PSs X b u):PS X (.If c a b pos) (vg tc t u):=by
 intro pq s σ H D I h;refine wpAny_If (thn (hc pq s σ H _ I h) λd s1 ⟨H1,I1,q1⟩=>?_)
 cases d with
 |true=>exact ha pq s1 σ H1 D I1 q1
 |false=>exact hb pq s1 σ H1 D I1 q1
end
abbrev TG:=V->St->Hp->(St->Hp->Prop)->Prop
abbrev TGs:=List V->St->Hp->(St->Hp->Prop)->Prop
def PG (X:Cx) (target:Expr) (t:TG):Prop:=
 ∀(pq:List (Addr×Obj)) (s:Shared) (σ:St) (H:Hp) (v:V) (u:Value) (Q:St->Hp->Prop),Inv X pq σ H s->Zs v u->t v σ H Q->
  wpAny (model X.prog X.w) X.A (assign target X.env u) (λ_ s'=>∃σ' H',Inv X pq σ' H' s'/\Q σ' H') X.xe s
def PGs (X:Cx) (ts:List Expr) (t:TGs):Prop:=
 ∀(pq:List (Addr×Obj)) (s:Shared) (σ:St) (H:Hp) (vs:List V) (us:List Value) (Q:St->Hp->Prop),Inv X pq σ H s->Vals vs us->t vs σ H Q->
  wpAny (model X.prog X.w) X.A (assignInOrder ((assignEach ts X.env).map (·.2)) us) (λ_ s'=>∃σ' H',Inv X pq σ' H' s'/\Q σ' H') X.xe s
abbrev TSet:=V->V->V->Hp->(Hp->Prop)->Prop
def PSet (X:Cx) (t:TSet):Prop:=
 ∀(pq:List (Addr×Obj)) (s:Shared) (σ:St) (H:Hp) (o i v:V) (ov iv u:Value) (Q:Hp->Prop),Inv X pq σ H s->Zs o ov->Zs i iv->Zs v u->t o i v H Q->
  wpAny (model X.prog X.w) X.A (setItem ov iv u) (λ_ s'=>∃H',Inv X pq σ H' s'/\Q H') X.xe s
abbrev TIp:=V->V->Hp->VK->Prop
def PIp (X:Cx) (op:Operator) (t:TIp):Prop:=
 ∀(pq:List (Addr×Obj)) (s:Shared) (σ:St) (H:Hp) (x y:V) (v u:Value) (Q:VK),Inv X pq σ H s->Zs x v->Zs y u->t x y H Q->
  wpAny (model X.prog X.w) X.A (inplaceOp op v u) (EP X pq σ Q) X.xe s
section
variable {X:Cx}{pos:Pos}
def UL (i:Nat):TG:=λv σ H Q=>Q (σ.set i (some v)) H
theorem Ji {i:Nat}{x:Str}(hN:X.N.Nodup) (hi:X.N[i]? = some x) (hx:Loc X.env.scope x) (hf:X.fn x=true\/X.env.scope.names.lookup x=some .local:=by first | exact .inl rfl | exact .inr rfl | assumption):PG X (.Name x pos) (UL i):=by
 intro pq s σ H v u Q I r h;exact wpAny_assign_Name (XD I hN hi hx r (λs' I'=>⟨_,H,I',h⟩) hf)
def u4:TGs:=λvs σ H Q=>vs=[]/\Q σ H
def uI (t:TG) (u:TGs):TGs:=λvs σ H Q=>∃v r,vs=v::r/\t v σ H λσ' H'=>u r σ' H' Q
theorem yJ:PGs X [] u4:=by
 intro pq s σ H vs us Q I r h;obtain⟨e,h⟩:=h;subst e;cases r;exact assignInOrder_nil ⟨σ,H,I,h⟩
theorem GN {e:Expr}{es:List Expr}{t:TG}{u:TGs}(h1:PG X e t) (h2:PGs X es u)
  (hs:(assignEach (e::es) X.env).map (·.2)=assign e X.env::(assignEach es X.env).map (·.2):=by rfl):PGs X (e::es) (uI t u):=by
 intro pq s σ H vs us Q I r h;obtain⟨v,vr,e1,h⟩:=h;subst e1;cases r with
 |cons r rr=>
  rw[hs];refine assignInOrder_cons (thn (h1 pq s σ H _ _ _ I r h) λ_ s1 ⟨σ1,H1,I1,q1⟩=>?_)
  exact h2 pq s1 σ1 H1 _ _ Q I1 rr q1
def uR (K:PySem.W.Frag) (n:Nat) (t:TGs):TG:=λv σ H Q=>∃a xs,v=.ref a/\SqT K H a xs/\xs.length=n/\t xs σ H Q
theorem wZ {es:List Expr}{k:Nat}{t:TGs}{n:Nat}(hc:X.calm=true) (h:PGs X es t)
  (hn:(assignEach es X.env).length=n:=by rfl) (hst:(assignEach es X.env).findIdx? (·.1)=none:=by rfl):PG X (.Tuple es k pos) (uR X.K n t):=by
 intro pq s σ H v u Q I r hw;obtain⟨a,xs,e1,hq,hl,hw⟩:=hw;subst e1;cases r;obtain⟨its,rv,ht,hz⟩:=I.tuple hq;refine assign_Tuple_tuple (I.ok.hd hc) ht (by simp[hn,<-hl,rv.length]) hst λh' hx=>?_
 have I1:Inv X pq σ H { s with heap:=h' }:=I.kept (t':=s.toks) λb o e=>hx b o (PX (Pg e)) e
 exact h pq _ σ H xs _ Q I1 (by simpa using rv) hw
def u8 (to ti:TE) (t:TSet):TG:=λv σ H Q=>to σ H λo H1=>ti σ H1 λi H2=>t o i v H2 λH3=>Q σ H3
theorem wz {o i:Expr}{to ti:TE}{t:TSet}(ho:PE X o to) (hi:PE X i ti) (hs:PSet X t)
  (ha:∀v,assign (.Subscript o i pos) X.env v=(do
   let ov <-holding [v] (eval o X.env)
   let iv <-holding [v,ov] (eval i X.env)
   standAt pos
   holding [v,ov,iv] (setItem ov iv v)
   release [v,ov,iv] []):=by intro _;rfl):PG X (.Subscript o i pos) (u8 to ti t):=by
 intro pq s σ H v u Q I r h;rw[ha];refine Pd (Nw (thn (ho pq s σ H _ I h) λov s1 ⟨x,H1,I1,r1,q1⟩=>?_))
 refine Pd (Nw (thn (hi pq s1 σ H1 _ I1 q1) λiv s2 ⟨y,H2,I2,r2,q2⟩=>?_))
 refine Pd (wpAny_standAt (Pd (Nw (thn (hs pq s2 σ H2 x y v ov iv u _ I2 r1 r2 r q2) λ_ s3 ⟨H3,I3,q3⟩=>?_))))
 exact wpAny_release ⟨σ,H3,I3,q3⟩
def zd (te:TE) (g:TG):TS:=λD σ H=>te σ H λx H1=>g x σ H1 D.nx
theorem GG {tg e:Expr}{te:TE}{g:TG}(he:PE X e te) (hg:PG X tg g) (hs:swapsWithSole [tg] e pos.line X.env=pure false:=by rfl) (hw:swappedStores [tg] e X.env=pure none:=by rfl)
  (h1:(assignEach [tg] X.env).map (·.2)=[assign tg X.env]:=by rfl):PS X (.Assign [tg] e pos) (zd te g):=by
 intro pq s σ H D I h;refine wpAny_Assign_stores (thn (he pq s σ H _ I h) λv s1 ⟨x,H1,I1,r1,q1⟩=>?_) hs hw
 rw[h1];exact thn (hg pq s1 σ H1 x v _ I1 r1 q1) λ_ s2 q=>q
theorem Wk {i:Nat}{x:Str}{e:Expr}{te:TE}{pos':Pos}(hN:X.N.Nodup) (hi:X.N[i]? = some x) (hx:Loc X.env.scope x) (he:PE X e te) (hs:swapsWith e (some (.Name x pos')) pos.line X.env=pure false:=by rfl) (hf:X.fn x=true\/X.env.scope.names.lookup x=some .local:=by first | exact .inl rfl | exact .inr rfl | assumption) :
  PS X (.Assign [.Name x pos'] e pos) (zd te (UL i)):=by
 intro pq s σ H D I h;refine wpAny_Assign_Name (thn (he pq s σ H _ I h) λv s1 ⟨y,H1,I1,r1,q1⟩=>?_) hs
 exact XD I1 hN hi hx r1 (λs2 I2=>⟨_,H1,I2,q1⟩) hf
def uZ (i:Nat) (te:TE) (ti:TIp):TS:=λD σ H=>∃x,σ[i]? = some (some x)/\te σ H λy H1=>ti x y H1 λz H2=>D.nx (σ.set i (some z)) H2
theorem vC {i:Nat}{x:Str}{e:Expr}{te:TE}{op:Operator}{ti:TIp}{pos':Pos}(hN:X.N.Nodup) (hi:X.N[i]? = some x) (hx:Loc X.env.scope x) (he:PE X e te) (ho:PIp X op ti) (hf:X.fn x=true\/X.env.scope.names.lookup x=some .local:=by first | exact .inl rfl | exact .inr rfl | assumption) :
  PS X (.AugAssign (.Name x pos') op e pos) (uZ i te ti):=by
 intro pq s σ H D I h;obtain⟨v,e1,h⟩:=h;obtain⟨m,hn,hl⟩:=I.loc;have vis:Vis X.env.scope x:=by rcases hx with k | k;exact .inl k;exact .inr (.inl k)
 obtain⟨u,r,l⟩:=hl i x v hi e1 vis;refine wpAny_AugAssign_Name ?_;have go:wpAny (model X.prog X.w) X.A (eval e X.env) (λw s₂=>wpAny (model X.prog X.w) X.A (inplaceOp op u w) (λr s₃=>wpAny (model X.prog X.w) X.A (storeName X.env x r) (λ_=>SP X pq D .next) X.xe s₃) X.xe s₂) X.xe s:=by
  refine thn (he pq s σ H _ I h) λw s1 ⟨y,H1,I1,r1,q1⟩=>?_
  refine thn (ho pq s1 σ H1 v y u w _ I1 r r1 q1) λz s2 ⟨zv,H2,I2,r2,q2⟩=>?_
  exact XD I2 hN hi hx r2 (λs3 I3=>⟨_,H2,I3,q2⟩) hf
 rcases l with ⟨hk,hm⟩ | ⟨hk,c,hc,hcell⟩
 ·exact wpAny_loadName_local I.ok.kind hk hn hm go
 ·rcases hk with hk | hk
  ·exact wpAny_loadName_cell I.ok.kind hk hc hcell go
  ·rcases hx with k | k
   ·have:X.env.scope.names.lookup x=some .free:=hk
    rw[k] at this;cases this
   ·have:X.env.scope.names.lookup x=some .free:=hk
    rw[k] at this;cases this
end
structure It where
 go:Nat->Hp->Prop
 yld:Nat->Hp->V->Hp->Prop
 stop:Nat->Hp->Prop
def X8 (X:Cx) (pq:List (Addr×Obj)) (H:Hp) (b:Addr):Prop:=
 H b=none/\b≠X.env.locals/\b∉X.fs/\(b∈X.ex\/X.s₀.heap.objs.size<=b)/\(∀x c,X.env.cells.lookup x=some c->c≠b)/\∀p∈X.pn++pq,p.1≠b
theorem Inv.fpOk {X:Cx}{pq:List (Addr×Obj)}{σ:St}{H H':Hp}{s:Shared}{b:Addr}(I:Inv X pq σ H s) (hb:s.heap.objs.size<=b) (hn:H' b=none):X8 X pq H' b:=by
 refine⟨hn,Nat.ne_of_gt (Pu I.lt hb),I.nofs hb,.inr (PY I.sz hb),λx c e z=>?_,λp hp z=>?_⟩
 ·obtain⟨v,q⟩:=I.cell x c e
  exact absurd (Pu q.lt (by rw[z];exact hb)) (PN _)
 ·exact absurd (Pu (Pg (I.pin p hp).1) (by rw[z];exact hb)) (PN _)
structure Turn (P:Program) (w:World) (K:PySem.W.Frag) (tg:Expr) (J:It) (fp:List Addr) (it:Addr) (tn:Nat->Heap->Prop):Prop where
 mem:it∈fp
 obj:∀i h,tn i h->∀b∈fp,∃o,h.get? b=some o/\∀v,o.data≠.cell v
 keep:∀i h h',tn i h->(∀b∈fp,∀o,h.get? b=some o->h'.get? b=some o)->tn i h'
 item:∀(X:Cx),X.prog=P->X.w=w->X.K=K->X.calm=true->∀(i:Nat) (pq:List (Addr×Obj)) (s:Shared) (σ:St) (H:Hp) (E:Value->Shared->Prop),Inv X pq σ H s->(∀b∈fp,X8 X pq H b)->tn i s.heap->J.go i H->
  wpAny (model P w) X.A (pyNext (.ref it)) (λr s1=>∃u,r=some u/\
   wpAny (model P w) X.A (letOwnedTupleGo tg (.ref it) u) (λ_ s2=>∃x H',Inv X pq σ H' s2/\Zs x u/\J.yld i H x H'/\tn (i+1) s2.heap/\∀b∈fp,H' b=none) E s1) E s
 done:∀(X:Cx),X.prog=P->X.w=w->X.K=K->X.calm=true->∀(i:Nat) (pq:List (Addr×Obj)) (s:Shared) (σ:St) (H:Hp) (E:Value->Shared->Prop),Inv X pq σ H s->(∀b∈fp,X8 X pq H b)->tn i s.heap->J.stop i H->
  wpAny (model P w) X.A (pyNext (.ref it)) (λr s1=>r=none/\Inv X pq σ H s1) E s
 self:∀(A:Around) (i:Nat) (s:Shared) (Q:Value->Shared->Prop) (E:Value->Shared->Prop),tn i s.heap->Q (.ref it) s->wpAny (model P w) A (pyIter (.ref it)) Q E s
abbrev TI:=St->Hp->(It->Hp->Prop)->Prop
def PIE (X:Cx) (pq:List (Addr×Obj)) (σ:St) (tg:Expr) (R:It->Hp->Prop) (itv:Value) (s2:Shared):Prop:=
 ∃(it:Addr) (fp:List Addr) (tn:Nat->Heap->Prop) (J:It) (H':Hp),itv=.ref it/\Inv X pq σ H' s2/\Turn X.prog X.w X.K tg J fp it tn/\tn 0 s2.heap/\(∀b∈fp,X8 X pq H' b)/\R J H'
def PI (X:Cx) (tg iter:Expr) (wi:TI):Prop:=
 ∀(pq:List (Addr×Obj)) (s:Shared) (σ:St) (H:Hp) (R:It->Hp->Prop),Inv X pq σ H s->wi σ H R->
  wpAny (model X.prog X.w) X.A (eval iter X.env) (λv s1=>wpAny (model X.prog X.w) X.A (pyIter v) (PIE X pq σ tg R) X.xe s1) X.xe s
theorem GX {M:Model}{A:Around}{E:Value->Shared->Prop}{s:Shared}{tg:Expr}{it:Addr}{u:Value}{o:Obj}{n:String}{vs:Array Value}{Q:Unit->Shared->Prop}(ho:s.heap.get? it=some o) (hc:o.cls=.type n) (hd:o.data=.fields vs)
  (hn:["enumerate","zip","dict_itemiterator","dict_reverseitemiterator","odict_iterator","itertools.zip_longest","itertools.pairwise"].contains n=false) (hQ:Q () s):wpAny M A (letOwnedTupleGo tg (.ref it) u) Q E s:=by
 unfold letOwnedTupleGo;cases tg <;> first
  |exact PM hQ
  |(cases u <;> first
    |exact PM hQ
    |(refine Pd (wpAny_load ho ?_)
      rw[hc,hd];show wpAny M A (if (["enumerate","zip","dict_itemiterator","dict_reverseitemiterator","odict_iterator","itertools.zip_longest","itertools.pairwise"].contains n&&vs[0]? == some (rawInt _))=true then _ else _) Q E s
      rw[Pm (by intro h;rw[hn,Bool.false_and] at h;cases h)]
      exact PM hQ))
noncomputable def Itl (K:PySem.W.Frag) (a:Addr):It:=
 ⟨λi H=>∃xs x,SqL K H a xs/\xs[i]? = some x,λi H x H'=>H'=H/\∀xs,SqL K H a xs->xs[i]? = some x,λi H=>∃xs,SqL K H a xs/\xs.length<=i⟩
noncomputable def Itt (K:PySem.W.Frag) (a:Addr):It:=
 ⟨λi H=>∃xs x,SqT K H a xs/\xs[i]? = some x,λi H x H'=>H'=H/\∀xs,SqT K H a xs->xs[i]? = some x,λi H=>∃xs,SqT K H a xs/\xs.length<=i⟩
noncomputable def Itr (lo:Int) (n:Nat):It:=⟨λi _=>i<n,λi H x H'=>H'=H/\x=.int (lo+i),λi _=>n<=i⟩
theorem JS {P:Program}{w:World}{K:PySem.W.Frag}{tg:Expr}(a it:Addr):Turn P w K tg (Itl K a) [it] it (λi h=>h.IsListIter it a i) where
 mem:=by simp
 obj:=λi h st b hb=>by
  have e:b=it:=by simpa using hb
  subst e;obtain⟨o,e,c,d⟩:=st;exact⟨o,e,λv z=>by rw[d] at z;cases z⟩
 keep:=λi h h' st k=>st.at λo e=>k it (by simp) o e
 item:=by
  intro X hP hw hK hc i pq s σ H E I hf st hg;subst hP hw hK;obtain⟨xs,x,hq,hx⟩:=hg;obtain⟨its,rv,p,hz⟩:=I.list hq;obtain⟨u,hu,ru⟩:=rv.get hx;obtain⟨f0,f1,f2,f3,f4,f5⟩:=hf it (by simp)
  refine wpAny_pyNext_list_item st p.isList (x:=u) (by simpa using hu) λh' st' sb=>?_
  have I1:Inv X pq σ H { s with heap:=h' }:=I.turned (t':=s.toks) (λb o hb e=>(sb.2 b hb).trans e) f0 f1 f3 f4 f5
  obtain⟨o,e,c,d⟩:=id st';exact⟨u,rfl,GX (s:={ s with heap:=h' }) e c d (by decide) ⟨x,H,I1,ru,⟨rfl,λys hy=>by rw[I.list_inj hy hq];exact hx⟩,st',λb hb=>(hf b hb).1⟩⟩
 done:=by
  intro X hP hw hK hc i pq s σ H E I hf st hg;subst hP hw hK;obtain⟨xs,hq,hx⟩:=hg;obtain⟨its,rv,p,hz⟩:=I.list hq;obtain⟨f0,f1,f2,f3,f4,f5⟩:=hf it (by simp)
  have hl:=rv.length;exact wpAny_pyNext_list_end (I.ok.hd hc) st p.isList (by simp;omega) λh' eb=>⟨rfl,I.turned (t':=s.toks) (λb o hb e=>eb b o hb e) f0 f1 f3 f4 f5⟩
 self:=λ_ _ _ _ _ st h=>wpAny_pyIter_listiter st h
theorem QD {P:Program}{w:World}{K:PySem.W.Frag}{tg:Expr}(a it:Addr):Turn P w K tg (Itt K a) [it] it (λi h=>h.IsTupleIter it a i) where
 mem:=by simp
 obj:=λi h st b hb=>by
  have e:b=it:=by simpa using hb
  subst e;obtain⟨o,e,c,d⟩:=st;exact⟨o,e,λv z=>by rw[d] at z;cases z⟩
 keep:=λi h h' st k=>st.at λo e=>k it (by simp) o e
 item:=by
  intro X hP hw hK hc i pq s σ H E I hf st hg;subst hP hw hK;obtain⟨xs,x,hq,hx⟩:=hg;obtain⟨its,rv,p,hz⟩:=I.tuple hq;obtain⟨u,hu,ru⟩:=rv.get hx;obtain⟨f0,f1,f2,f3,f4,f5⟩:=hf it (by simp)
  refine wpAny_pyNext_tuple_item st (show s.heap.IsTuple a its.toArray from p) (x:=u) (by simpa using hu) λh' st' sb=>?_
  have I1:Inv X pq σ H { s with heap:=h' }:=I.turned (t':=s.toks) (λb o hb e=>(sb.2 b hb).trans e) f0 f1 f3 f4 f5
  obtain⟨o,e,c,d⟩:=id st';exact⟨u,rfl,GX (s:={ s with heap:=h' }) e c d (by decide) ⟨x,H,I1,ru,⟨rfl,λys hy=>by rw[I.tuple_inj hy hq];exact hx⟩,st',λb hb=>(hf b hb).1⟩⟩
 done:=by
  intro X hP hw hK hc i pq s σ H E I hf st hg;subst hP hw hK;obtain⟨xs,hq,hx⟩:=hg;obtain⟨its,rv,p,hz⟩:=I.tuple hq;obtain⟨f0,f1,f2,f3,f4,f5⟩:=hf it (by simp)
  have hl:=rv.length;exact wpAny_pyNext_tuple_end (I.ok.hd hc) st (show s.heap.IsTuple a its.toArray from p) (by simp;omega) λh' eb=>⟨rfl,I.turned (t':=s.toks) (λb o hb e=>eb b o hb e) f0 f1 f3 f4 f5⟩
 self:=λ_ _ _ _ _ st h=>wpAny_pyIter_tupleiter st h
theorem Qi {P:Program}{w:World}{K:PySem.W.Frag}{tg:Expr}(it:Addr) (lo:Int) (n:Nat):Turn P w K tg (Itr lo n) [it] it (λi h=>IsRangeIter h it (lo+(i:Nat)*1) ((n:Int)-(i:Nat)) 1) where
 mem:=by simp
 obj:=λi h st b hb=>by
  have e:b=it:=by simpa using hb
  subst e;exact⟨_,st,λv z=>by
   have z':Data.fields _=Data.cell v:=z;cases z'⟩
 keep:=λi h h' st k=>k it (by simp) _ st
 item:=by
  intro X hP hw hK hc i pq s σ H E I hf st hg;subst hP hw hK;obtain⟨f0,f1,f2,f3,f4,f5⟩:=hf it (by simp)
  have W:=Walks.range (prog:=X.prog) (w:=X.w) (I.ok.hd hc) it lo 1 n;refine W.item i s _ _ hg st λv h' tk hv st' kk=>?_
  obtain⟨t,rfl⟩:=hv;have I1:Inv X pq σ H { s with heap:=h',toks:=tk }:=I.turned (λb o hb e=>kk b o (by simpa using hb) e) f0 f1 f3 f4 f5
  refine⟨_,rfl,GX (s:={ s with heap:=h',toks:=tk }) (n:="range_iterator") st' rfl rfl (by decide) ⟨.int (lo+i),H,I1,⟨t,?_⟩,⟨rfl,rfl⟩,st',λb hb=>(hf b hb).1⟩⟩
  rw[Int.mul_one]
 done:=by
  intro X hP hw hK hc i pq s σ H E I hf st hg;subst hP hw hK;obtain⟨f0,f1,f2,f3,f4,f5⟩:=hf it (by simp)
  exact wpAny_pyNext_range_end (I.ok.hd hc) st (by have:n<=i:=hg;omega) λh' eb=>⟨rfl,I.turned (t':=s.toks) (λb o hb e=>eb b o hb e) f0 f1 f3 f4 f5⟩
 self:=λ_ _ _ _ _ st h=>wpAny_pyIter_rangeiter st h
section
variable {X:Cx}{tg:Expr}
theorem UA {pq:List (Addr×Obj)}{σ:St}{H:Hp}{s:Shared}{R:It->Hp->Prop}{E:Value->Shared->Prop}{lo hi:Int}{t u v:Tok}{tk:Nat}(I:Inv X pq σ H s) (h1:-(2^62)<=lo) (h2:lo<2^62) (h3:-(2^62)<=hi) (h4:hi<2^62)
  (q:R (Itr lo (hi-lo).toNat) H):wpAny (model X.prog X.w) X.A (pyIter (.ref s.heap.objs.size)) (PIE X pq σ tg R) E { s with heap:=s.heap.push { cls:=.type "range",data:=.fields #[.int lo t,.int hi u,.int 1 v] },toks:=tk }:=by
 refine wpAny_pyIter_range (IsRange.new ..) (small_one h1 h2 h3 h4) ?_;have I1:Inv X pq σ H { s with heap:=s.heap.push { cls:=.type "range",data:=.fields #[.int lo t,.int hi u,.int 1 v] },toks:=tk }:=I.kept λb o e=>Pe _ e
 refine⟨(s.heap.push { cls:=.type "range",data:=.fields #[.int lo t,.int hi u,.int 1 v] }).objs.size,[(s.heap.push { cls:=.type "range",data:=.fields #[.int lo t,.int hi u,.int 1 v] }).objs.size],_,_,H,rfl,
  I1.kept (t':=tk) λb o e=>Pe _ e,Qi _ lo (hi-lo).toNat,?_,λb hb=>?_,q⟩
 ·have e1:lo+((0:Nat):Int)*1=lo:=by simp
  have e2:(((hi-lo).toNat:Nat):Int)-((0:Nat):Int)=Builtin.Range.rangeSize lo hi 1:=by rw[rangeSize_one];split <;> omega
  show IsRangeIter _ _ (lo+((0:Nat):Int)*1) ((((hi-lo).toNat:Nat):Int)-((0:Nat):Int)) 1;rw[e1,e2];exact Ps _ rfl
 ·have e:b=(s.heap.push { cls:=.type "range",data:=.fields #[.int lo t,.int hi u,.int 1 v] }).objs.size:=by simpa using hb
  subst e;exact I1.fpOk (Po _) (I1.hok.fresh (Po _))
def uD (ta:TA):TI:=λσ H R=>ta σ H λvs H1=>∃j:Int,vs=[.int j]/\-(2^62)<=j/\j<2^62/\R (Itr 0 j.toNat) H1
def v9 (ta:TA):TI:=λσ H R=>ta σ H λvs H1=>∃i j:Int,vs=[.int i,.int j]/\(-(2^62)<=i/\i<2^62/\-(2^62)<=j/\j<2^62)/\R (Itr i (j-i).toNat) H1
theorem Gf {a:Expr}{ta:TA}{p pos:Pos}(hg:Gl X "range") (hm:X.mg "range" = none) (ha:PA X [a] ta) (hs:starEach [a] X.env=[(false,eval a X.env)]:=by rfl):PI X tg (.Call (.Name "range" p) [a] [] pos) (uD ta):=by
 intro pq s σ H R I h;refine Call_ (XZ I hg hm boot_range (Nk (thn (ha pos pq s σ H _ I h) λus s1 ⟨vs,H1,I1,r1,q1⟩=>?_) hs rfl))
 obtain⟨j,e,q1,q2,q⟩:=q1;subst e;cases r1 with
 |cons r rr=>
  cases rr;obtain⟨t,rfl⟩:=r;exact call_range_1 (UA I1 (by omega) (by omega) q1 q2 (by simpa using q))
theorem Gj {a b:Expr}{ta:TA}{p pos:Pos}(hg:Gl X "range") (hm:X.mg "range" = none) (ha:PA X [a,b] ta) (hs:starEach [a,b] X.env=[(false,eval a X.env),(false,eval b X.env)]:=by rfl) (hs2:starEach [b] X.env=[(false,eval b X.env)]:=by rfl) :
  PI X tg (.Call (.Name "range" p) [a,b] [] pos) (v9 ta):=by
 intro pq s σ H R I h;refine Call_ (XZ I hg hm boot_range (Nk (thn (ha pos pq s σ H _ I h) λus s1 ⟨vs,H1,I1,r1,q1⟩=>?_) (by rw[hs,hs2]) (by rw[hs2];rfl)))
 obtain⟨i,j,e,⟨q1,q2,q3,q4⟩,q⟩:=q1;subst e;cases r1 with
 |cons r rr=>
  cases rr with
  |cons r' rr=>
   cases rr;obtain⟨t,rfl⟩:=r;obtain⟨t',rfl⟩:=r';exact call_range_2 (UA I1 q1 q2 q3 q4 q)
def uS (wi:TI) (g:TG) (tb:TS):TS:=λD σ H=>wi σ H λJ H1=>∃W:Nat->Nat->St->Hp->Prop,(∃m,W 0 m σ H1)/\∀i m σ H,W i m σ H->
 (J.stop i H/\D.nx σ H)\/(J.go i H/\∃N:St->Hp->Prop,(∀σ' H',N σ' H'->∃m',m'<m/\W (i+1) m' σ' H')/\∀x H',J.yld i H x H'->g x σ H' λσ2 H2=>tb { D with nx:=N,ct:=N,bk:=D.nx } σ2 H2)
noncomputable def W3 (fp:List Addr) (h:Heap):List (Addr×Obj):=fp.filterMap λb=>(h.get? b).map λo=>(b,o)
theorem YO {fp:List Addr}{h:Heap}{b:Addr}{o:Obj}(hb:b∈fp) (e:h.get? b=some o):(b,o)∈W3 fp h:=List.mem_filterMap.mpr ⟨b,hb,by rw[e];rfl⟩
theorem JK {fp:List Addr}{h:Heap}{p:Addr×Obj}(hp:p∈W3 fp h):p.1∈fp/\h.get? p.1=some p.2:=by
 obtain⟨b,hb,e⟩:=List.mem_filterMap.mp hp;cases q:h.get? b with
 |none=>rw[q] at e;cases e
 |some o=>
  rw[q] at e;have e':(b,o)=p:=Pa e;subst e';exact⟨hb,q⟩
theorem Inv.pinned {pq:List (Addr×Obj)}{σ:St}{H:Hp}{s:Shared}{fp:List Addr}(I:Inv X pq σ H s) (hf:∀b∈fp,X8 X pq H b) (ho:∀b∈fp,∃o,s.heap.get? b=some o/\∀v,o.data≠.cell v):Inv X (pq++W3 fp s.heap) σ H s:=
 I.pins_of λp hp=>(NK.mp hp).elim (λz=>I.pin p (PD _ z)) λz=>by
  obtain⟨hb,e⟩:=JK z;obtain⟨f0,f1,f2,_⟩:=hf p.1 hb;obtain⟨o,e',d⟩:=ho p.1 hb;rw[e] at e';cases e';exact⟨e,f0,f1,f2,d⟩
theorem Inv.unpinned {pq pl:List (Addr×Obj)}{σ:St}{H:Hp}{s:Shared}(I:Inv X (pq++pl) σ H s):Inv X pq σ H s:=I.pins_of λp hp=>I.pin p (PD _ (NC _ hp))
theorem vG {iter:Expr}{body:List Stmt}{wi:TI}{g:TG}{tb:TS}{pos:Pos}(hp:PassesOwn (model X.prog X.w) X.A X.env X.xe) (hc:X.calm=true) (hi:PI X tg iter wi) (hg:PG X tg g) (hb:PSs X body tb)
  (hs:∀x,foldedSetIterable iter X.env x=pure x:=by intro _;rfl):PS X (.For tg iter body [] pos) (uS wi g tb):=by
 intro pq s σ H D I h;refine wpAny_For (thn (hi pq s σ H _ I h) λv s1 h1=>thn h1 λitv s2 h2=>?_) hs
 obtain⟨it,fp,tn,J,H2,e,I2,T,st2,f2,W,⟨m0,w0⟩,turn⟩:=h2;subst e;have stat:∀{H':Hp},(∀b∈fp,H' b=none)->∀b∈fp,X8 X pq H' b:=λhn b hb=>⟨hn b hb,(f2 b hb).2⟩
 refine codeAny_forLoop_any (λn s'=>∃i σ' H',Inv X pq σ' H' s'/\tn i s'.heap/\(∀b∈fp,H' b=none)/\W i n σ' H') ?_ m0 ⟨0,σ,H2,I2,st2,λb hb=>(f2 b hb).1,w0⟩
 rintro n s3 ⟨i,σ3,H3,I3,st3,fr3,w3⟩
 rcases turn i n σ3 H3 w3 with ⟨stop,qn⟩ | ⟨go,N,hN,step⟩
 ·refine NL hp (thn (T.done X rfl rfl rfl hc i pq s3 σ3 H3 X.xe I3 (stat fr3) st3 stop) λr s4 ⟨hr,I4⟩=>?_)
  subst hr;exact wpAny_execs_nil ⟨σ3,H3,I4,qn⟩
 ·refine NL hp (thn (T.item X rfl rfl rfl hc i pq s3 σ3 H3 X.xe I3 (stat fr3) st3 go) λr s4 ⟨u,hr,h4⟩=>?_)
  subst hr;refine NL hp (thn h4 λ_ s5 ⟨x,H5,I5,r5,y5,st5,fr5⟩=>?_)
  have I5':=I5.pinned (stat fr5) (T.obj _ _ st5);refine NL hp (thn (hg _ s5 σ3 H5 x u _ I5' r5 (step x H5 y5)) λ_ s6 ⟨σ6,H6,I6,q6⟩=>?_)
  refine NL hp (thn (hb _ s6 σ6 H6 _ I6 q6) λf s7 q7=>?_)
  have again:∀{σ7:St} {H7:Hp},Inv X (pq++W3 fp s5.heap) σ7 H7 s7->N σ7 H7->∃m,m<n/\∃i σ' H',Inv X pq σ' H' s7/\tn i s7.heap/\(∀b∈fp,H' b=none)/\W i m σ' H':=λ{σ7 H7} I7 n7=>by
   obtain⟨m',hm,w7⟩:=hN σ7 H7 n7;refine⟨m',hm,i+1,σ7,H7,I7.unpinned,T.keep _ _ _ st5 λb hb o e=>(I7.pin (b,o) (PD _ (PD _ (YO hb e)))).1,λb hb=>?_,w7⟩
   obtain⟨o,e,d⟩:=T.obj _ _ st5 b hb;exact (I7.pin (b,o) (PD _ (PD _ (YO hb e)))).2.1
  cases f with
  |next=>obtain⟨σ7,H7,I7,n7⟩:=q7;exact again I7 n7
  |cont=>obtain⟨σ7,H7,I7,n7⟩:=q7;exact again I7 n7
  |brk=>obtain⟨σ7,H7,I7,q7⟩:=q7;exact⟨σ7,H7,I7.unpinned,q7⟩
  |ret v=>obtain⟨x7,σ7,H7,I7,r7,q7⟩:=q7;exact⟨x7,σ7,H7,I7.unpinned,r7,q7⟩
end
abbrev R2:=V->V->Hp->VK->Prop
def OpR (X:Cx) (f:Value->Value->Sem Value) (r:R2):Prop:=
 ∀(pq:List (Addr×Obj)) (s:Shared) (σ:St) (H:Hp) (x y:V) (v u:Value) (Q:VK),Inv X pq σ H s->Zs x v->Zs y u->r x y H Q->
  wpAny (model X.prog X.w) X.A (f v u) (EP X pq σ Q) X.xe s
def UnR (X:Cx) (f:Value->Sem Value) (r:V->Hp->VK->Prop):Prop:=
 ∀(pq:List (Addr×Obj)) (s:Shared) (σ:St) (H:Hp) (x:V) (v:Value) (Q:VK),Inv X pq σ H s->Zs x v->r x H Q->
  wpAny (model X.prog X.w) X.A (f v) (EP X pq σ Q) X.xe s
def ZL (X:Cx) (f:Value) (r:List V->Hp->VK->Prop):Prop:=
 ∀(pq:List (Addr×Obj)) (s:Shared) (σ:St) (H:Hp) (xs:List V) (us:List Value) (Q:VK),Inv X pq σ H s->Vals xs us->r xs H Q->
  wpAny (model X.prog X.w) X.A (call f us) (EP X pq σ Q) X.xe s
def uT (X:Cx) (r:V->Hp->(Bool->Hp->Prop)->Prop):Prop:=
 ∀(pq:List (Addr×Obj)) (s:Shared) (σ:St) (H:Hp) (x:V) (v:Value) (Q:Bool->Hp->Prop),Inv X pq σ H s->Zs x v->r x H Q->
  wpAny (model X.prog X.w) X.A (truthy v) (TP X pq σ Q) X.xe s
def tOp (r:R2) (ta tb:TE):TE:=λσ H Q=>ta σ H λx H1=>tb σ H1 λy H2=>r x y H2 Q
def tUn (r:V->Hp->VK->Prop) (ta:TE):TE:=λσ H Q=>ta σ H λx H1=>r x H1 Q
def rI (C:Int->Int->Prop) (g:Int->Int->V):R2:=λx y H Q=>∃i j,x=.int i/\y=.int j/\C i j/\Q (g i j) H
def rI0 (g:Int->Int->V):R2:=λx y H Q=>∃i j,x=.int i/\y=.int j/\Q (g i j) H
noncomputable def rU (g:Int->V):V->Hp->VK->Prop:=λx H Q=>∃i,x=.int i/\Q (g i) H
section
variable {X:Cx}{a b c:Expr}{ta tb tc:TE}{pos:Pos}
theorem wq (ha:PE X a ta) (hb:PE X b tb) {pq:List (Addr×Obj)}{s:Shared}{σ:St}{H:Hp}{R:V->V->Hp->Prop}(I:Inv X pq σ H s)
  (h:ta σ H λx H1=>tb σ H1 λy H2=>R x y H2) {Q:Value->Shared->Prop} {f:Value->Value->Sem Value}
  (hf:∀v u s2 x y H2,Inv X pq σ H2 s2->Zs x v->Zs y u->R x y H2->wpAny (model X.prog X.w) X.A (f v u) Q X.xe s2) :
  wpAny (model X.prog X.w) X.A (eval a X.env) (λv s₁=>wpAny (model X.prog X.w) X.A (eval b X.env) (λu s₂=>wpAny (model X.prog X.w) X.A (f v u) Q X.xe s₂) X.xe s₁) X.xe s:=by
 refine thn (ha pq s σ H _ I h) λv s1 ⟨x,H1,I1,r1,q1⟩=>?_
 refine thn (hb pq s1 σ H1 _ I1 q1) λu s2 ⟨y,H2,I2,r2,q2⟩=>?_
 exact hf v u s2 x y H2 I2 r1 r2 q2
theorem X7 {op:Operator}{r:R2}(ho:OpR X (binaryOp op) r) (ha:PE X a ta) (hb:PE X b tb):PE X (.BinOp a op b pos) (tOp r ta tb):=by
 intro pq s σ H Q I h;exact wpAny_BinOp (wq ha hb I h λv u s2 x y H2 I2 rx ry q=>ho pq s2 σ H2 x y v u Q I2 rx ry q)
theorem xK {op:UnaryOp}{r:V->Hp->VK->Prop}(ho:UnR X (unaryOp op) r) (ha:PE X a ta):PE X (.UnaryOp op a pos) (tUn r ta):=by
 intro pq s σ H Q I h;exact UnaryOp_ (thn (ha pq s σ H _ I h) λv s1 ⟨x,H1,I1,r1,q1⟩=>ho pq s1 σ H1 x v Q I1 r1 q1)
theorem opI {f:Value->Value->Sem Value}{C:Int->Int->Prop}{g:Int->Int->Int}
  (rule:∀(i j:Int) (t u:Tok) (s:Shared) (Q:Value->Shared->Prop) (E:Value->Shared->Prop),C i j->Q (.int (g i j) s.toks) { s with toks:=s.toks+1 }->wpAny (model X.prog X.w) X.A (f (.int i t) (.int j u)) Q E s) :
  OpR X f (rI C λi j=>.int (g i j)):=by
 intro pq s σ H x y v u Q I rx ry h;obtain⟨i,j,rfl,rfl,hc,q⟩:=h;obtain⟨t,rfl⟩:=rx;obtain⟨t',rfl⟩:=ry;exact rule i j t t' s _ _ hc ⟨.int (g i j),H,I.tok _,⟨_,rfl⟩,q⟩
theorem ul {f:Value->Value->Sem Value}{g:Int->Int->Int}
  (rule:∀(i j:Int) (t u:Tok) (s:Shared) (Q:Value->Shared->Prop) (E:Value->Shared->Prop),Q (.int (g i j) s.toks) { s with toks:=s.toks+1 }->wpAny (model X.prog X.w) X.A (f (.int i t) (.int j u)) Q E s) :
  OpR X f (rI0 λi j=>.int (g i j)):=by
 intro pq s σ H x y v u Q I rx ry h;obtain⟨i,j,rfl,rfl,q⟩:=h;obtain⟨t,rfl⟩:=rx;obtain⟨t',rfl⟩:=ry;exact rule i j t t' s _ _ ⟨.int (g i j),H,I.tok _,⟨_,rfl⟩,q⟩
theorem vD {f:Value->Value->Sem Value}{g:Int->Int->Bool}
  (rule:∀(i j:Int) (t u:Tok) (s:Shared) (Q:Value->Shared->Prop) (E:Value->Shared->Prop),Q (.bool (g i j)) s->wpAny (model X.prog X.w) X.A (f (.int i t) (.int j u)) Q E s) :
  OpR X f (rI0 λi j=>.bl (g i j)):=by
 intro pq s σ H x y v u Q I rx ry h;obtain⟨i,j,rfl,rfl,q⟩:=h;obtain⟨t,rfl⟩:=rx;obtain⟨t',rfl⟩:=ry;exact rule i j t t' s _ _ ⟨.bl (g i j),H,I,rfl,q⟩
def CPow (i j:Int):Prop:=0<=j/\j<=1000000/\i.natAbs<2^64
theorem vL:OpR X (binaryOp .Add) (rI0 λi j=>.int (i+j)):=ul λ_ _ _ _ _ _ _ q=>add_int q
theorem wB:OpR X (binaryOp .Sub) (rI0 λi j=>.int (i-j)):=ul λ_ _ _ _ _ _ _ q=>sub_int q
theorem wf:OpR X (binaryOp .Mod) (rI (λ_ j=>0<j) λi j=>.int (i%j)):=opI λi j _ _ _ _ _ hc q=>by
 have h1:(0:Int)<j:=hc;exact mod_int' (by omega) (by rw[Int.fmod_eq_emod_of_nonneg i (by omega)];exact q)
theorem vp:OpR X (binaryOp .Pow) (rI CPow λi j=>.int (i^j.toNat)):=opI λ_ _ _ _ _ _ _ hc q=>pow_int_small hc.1 hc.2.1 hc.2.2 q
theorem unI {f:Value->Sem Value}{g:Int->Int}
  (rule:∀(i:Int) (t:Tok) (s:Shared) (Q:Value->Shared->Prop) (E:Value->Shared->Prop),Q (.int (g i) s.toks) { s with toks:=s.toks+1 }->wpAny (model X.prog X.w) X.A (f (.int i t)) Q E s) :
  UnR X f (rU λi=>.int (g i)):=by
 intro pq s σ H x v Q I rx h;obtain⟨i,rfl,q⟩:=h;obtain⟨t,rfl⟩:=rx;exact rule i t s _ _ ⟨.int (g i),H,I.tok _,⟨_,rfl⟩,q⟩
theorem ze:UnR X (unaryOp .USub) (rU λi=>.int (-i)):=unI λ_ _ _ _ _ q=>neg_int q
end
noncomputable def scal:V->V->Bool
 |.non,.non=>true | .non,.int _=>true | .int _,.non=>true | .non,.bl _=>true | .bl _,.non=>true | .non,.str _=>true | .str _,.non=>true
 |.int _,.int _=>true | .bl _,.bl _=>true | .str _,.str _=>true | .byt _,.byt _=>true
 |.int _,.str _=>true | .str _,.int _=>true | .bl _,.str _=>true | .str _,.bl _=>true
 |_,_=>false
def rEq:R2:=λx y H Q=>scal x y=true/\Q (.bl (decide (x=y))) H
def rNe:R2:=λx y H Q=>scal x y=true/\Q (.bl (!decide (x=y))) H
theorem Jw {i j:Int}:decide (V.int i=V.int j)=(i == j):=by
 rw[P3];simp
theorem zG {i j:Bool}:decide (V.bl i=V.bl j)=(i == j):=by
 rw[P3];simp
theorem Jj {i j:Str}:decide (V.str i=V.str j)=(i == j):=by
 rw[P3];simp
theorem JH {i j:Array UInt8}:decide (V.byt i=V.byt j)=(i.toList == j.toList):=by
 rw[P3];cases i;cases j;simp
section
variable {X:Cx}{a b c:Expr}{ta tb tc:TE}{pos:Pos}
theorem Zq {pq:List (Addr×Obj)}{σ:St}{H:Hp}{s:Shared}{Q:VK}{k k':Bool}(I:Inv X pq σ H s) (q:Q (.bl k) H) (e:k=k'):EP X pq σ Q (.bool k') s:=by
 subst e;exact⟨.bl k,H,I,rfl,q⟩
theorem uK:OpR X (compareOp .Eq) rEq:=by
 intro pq s σ H x y v u Q I rx ry h;obtain⟨hs,q⟩:=h;cases x with
 |non=>
  cases rx;cases y with
  |non=>cases ry;exact PySem.EqNone.eq_none_none (Zq I q (by simp))
  |bl j=>cases ry;exact PySem.EqNone.eq_none_bool (Zq I q (by simp))
  |int j=>obtain⟨t',rfl⟩:=ry;exact PySem.EqNone.eq_none_int (Zq I q (by simp))
  |str j=>obtain⟨t',rfl⟩:=ry;exact PySem.EqNone.eq_none_str (Zq I q (by simp))
  |_=>exact absurd (show false=true from hs) Pi
 |bl i=>
  cases rx;cases y with
  |non=>cases ry;exact PySem.EqNone.eq_bool_none (Zq I q (by simp))
  |bl j=>cases ry;exact eq_bool (Zq I q zG)
  |str j=>obtain⟨t',rfl⟩:=ry;exact PySem.EqMixed.eq_bool_str (Zq I q (by simp))
  |_=>exact absurd (show false=true from hs) Pi
 |int i=>
  obtain⟨t,rfl⟩:=rx;cases y with
  |non=>cases ry;exact PySem.EqNone.eq_int_none (Zq I q (by simp))
  |int j=>obtain⟨t',rfl⟩:=ry;exact eq_int (Zq I q Jw)
  |str j=>obtain⟨t',rfl⟩:=ry;exact PySem.EqMixed.eq_int_str (Zq I q (by simp))
  |_=>exact absurd (show false=true from hs) Pi
 |str i=>
  obtain⟨t,rfl⟩:=rx;cases y with
  |non=>cases ry;exact PySem.EqNone.eq_str_none (Zq I q (by simp))
  |bl j=>cases ry;exact PySem.EqMixed.eq_str_bool (Zq I q (by simp))
  |int j=>obtain⟨t',rfl⟩:=ry;exact PySem.EqMixed.eq_str_int (Zq I q (by simp))
  |str j=>obtain⟨t',rfl⟩:=ry;exact eq_str (Zq I q Jj)
  |_=>exact absurd (show false=true from hs) Pi
 |byt i=>
  obtain⟨t,rfl⟩:=rx;cases y with
  |byt j=>obtain⟨t',rfl⟩:=ry;exact PySem.W.eq_bytes (Zq I q JH)
  |_=>exact absurd (show false=true from hs) Pi
 |_=>cases y <;> exact absurd (show false=true from hs) Pi
theorem vU:OpR X (compareOp .NotEq) rNe:=by
 intro pq s σ H x y v u Q I rx ry h;obtain⟨hs,q⟩:=h;cases x with
 |non=>
  cases rx;cases y with
  |non=>cases ry;exact PySem.EqNone.ne_none_none (Zq I q (by simp))
  |bl j=>cases ry;exact PySem.EqNone.ne_none_bool (Zq I q (by simp))
  |int j=>obtain⟨t',rfl⟩:=ry;exact PySem.EqNone.ne_none_int (Zq I q (by simp))
  |str j=>obtain⟨t',rfl⟩:=ry;exact PySem.EqNone.ne_none_str (Zq I q (by simp))
  |_=>exact absurd (show false=true from hs) Pi
 |bl i=>
  cases rx;cases y with
  |non=>cases ry;exact PySem.EqNone.ne_bool_none (Zq I q (by simp))
  |bl j=>cases ry;exact ne_bool (Zq I q (congrArg not zG))
  |str j=>obtain⟨t',rfl⟩:=ry;exact PySem.EqMixed.ne_bool_str (Zq I q (by simp))
  |_=>exact absurd (show false=true from hs) Pi
 |int i=>
  obtain⟨t,rfl⟩:=rx;cases y with
  |non=>cases ry;exact PySem.EqNone.ne_int_none (Zq I q (by simp))
  |int j=>obtain⟨t',rfl⟩:=ry;exact ne_int (Zq I q (congrArg not Jw))
  |str j=>obtain⟨t',rfl⟩:=ry;exact PySem.EqMixed.ne_int_str (Zq I q (by simp))
  |_=>exact absurd (show false=true from hs) Pi
 |str i=>
  obtain⟨t,rfl⟩:=rx;cases y with
  |non=>cases ry;exact PySem.EqNone.ne_str_none (Zq I q (by simp))
  |bl j=>cases ry;exact PySem.EqMixed.ne_str_bool (Zq I q (by simp))
  |int j=>obtain⟨t',rfl⟩:=ry;exact PySem.EqMixed.ne_str_int (Zq I q (by simp))
  |str j=>obtain⟨t',rfl⟩:=ry;exact ne_str (Zq I q (congrArg not Jj))
  |_=>exact absurd (show false=true from hs) Pi
 |byt i=>
  obtain⟨t,rfl⟩:=rx;cases y with
  |byt j=>obtain⟨t',rfl⟩:=ry;exact PySem.W.ne_bytes (Zq I q (congrArg not JH))
  |_=>exact absurd (show false=true from hs) Pi
 |_=>cases y <;> exact absurd (show false=true from hs) Pi
theorem ua:OpR X (compareOp .Lt) (rI0 λi j=>.bl (decide (i<j))):=vD λ_ _ _ _ _ _ _ q=>lt_int q
theorem uh:OpR X (compareOp .LtE) (rI0 λi j=>.bl (decide (i<=j))):=vD λ_ _ _ _ _ _ _ q=>le_int q
theorem vX:OpR X (compareOp .GtE) (rI0 λi j=>.bl (decide (j<=i))):=vD λ_ _ _ _ _ _ _ q=>ge_int q
theorem OpR.or {f:Value->Value->Sem Value}{r r':R2}(h:OpR X f r) (h':OpR X f r'):OpR X f (λx y H Q=>r x y H Q\/r' x y H Q):=by
 intro pq s σ H x y v u Q I rx ry q;rcases q with q | q
 ·exact h pq s σ H x y v u Q I rx ry q
 ·exact h' pq s σ H x y v u Q I rx ry q
theorem Ya (b:Expr) {op:CmpOp}(h:op≠.In:=by decide) (h2:op≠.NotIn:=by decide):behindInMarks op b=false:=by
 have e1:(op == CmpOp.In)=false:=by cases op <;> first | rfl | exact absurd rfl h
 have e2:(op == CmpOp.NotIn)=false:=by cases op <;> first | rfl | exact absurd rfl h2
 cases b <;> simp[behindInMarks,e1,e2]
theorem QZ {op:CmpOp}{r:R2}(ho:OpR X (compareOp op) r) (ha:PE X a ta) (hb:PE X b tb) (hm:behindInMarks op b=false):PE X (.Compare a [op] [b] pos) (tOp r ta tb):=by
 intro pq s σ H Q I h;exact wpAny_Compare1 (wq ha hb I h λv u s2 x y H2 I2 rx ry q=>ho pq s2 σ H2 x y v u Q I2 rx ry q) hm
def vP (t:TE):TT:=λσ H Q=>t σ H λx H'=>∃k,x=.bl k/\Q k H'
theorem yx {op:CmpOp}{r:R2}(ho:OpR X (compareOp op) r) (ha:PE X a ta) (hb:PE X b tb) (hm:behindInMarks op b=false):PT X (.Compare a [op] [b] pos) (vP (tOp r ta tb)):=by
 intro pq s σ H Q I h;refine wpAny_isTrue_Compare1 (thn (ha pq s σ H _ I h) λv s1 ⟨x,H1,I1,r1,q1⟩=>thn (hb pq s1 σ H1 _ I1 q1) λu s2 ⟨y,H2,I2,r2,q2⟩=>
  thn (ho pq s2 σ H2 x y v u _ I2 r1 r2 q2) λc s3 ⟨z,H3,I3,r3,k,e,q3⟩=>?_) hm
 subst e;cases r3;exact Ng ⟨H3,I3,q3⟩
def wK (r r':R2) (ta tb tc:TE):TE:=λσ H Q=>ta σ H λx H1=>tb σ H1 λy H2=>r x y H2 λz H3=>∃k,z=.bl k/\
 (if k=true then tc σ H3 λw' H4=>r' y w' H4 Q else Q (.bl false) H3)
theorem ya {op op':CmpOp}{r r':R2}(ho:OpR X (compareOp op) r) (ho':OpR X (compareOp op') r') (ha:PE X a ta) (hb:PE X b tb) (hc:PE X c tc)
  (hm:lastMarks [op,op'] [b,c]=false:=by with_unfolding_all rfl):PE X (.Compare a [op,op'] [b,c] pos) (wK r r' ta tb tc):=by
 intro pq s σ H Q I h;refine Compare_chain (thn (ha pq s σ H _ I h) λv s1 ⟨x,H1,I1,r1,q1⟩=>chain_link (thn (hb pq s1 σ H1 _ I1 q1) λu s2 ⟨y,H2,I2,r2,q2⟩=>
  thn (ho pq s2 σ H2 x y v u _ I2 r1 r2 q2) λd s3 ⟨z,H3,I3,r3,k,e,q3⟩=>?_)) hm
 subst e;cases r3;refine Ng ?_;cases k with
 |false=>exact ite_ff ⟨.bl false,H3,I3,rfl,q3⟩
 |true=>exact ite_tt (chain_last (thn (hc pq s3 σ H3 _ I3 q3) λw' s4 ⟨z',H4,I4,r4,q4⟩=>ho' pq s4 σ H4 y z' u w' Q I4 r2 r4 q4))
def yi (K:PySem.W.Frag) (x:V) (H:Hp) (k:Bool):Prop:=
 match x with
 |.non=>k=false
 |.bl b=>k=b
 |.int i=>k=(i != 0)
 |.str y=>y.length<=sizeLine/\k=((y.length:Int) != 0)
 |.byt y=>y.size<=sizeLine/\k=((y.size:Int) != 0)
 |.ref p=>(∃xs,SqL K H p xs/\k = !xs.isEmpty)\/(∃xs,SqT K H p xs/\k = !xs.isEmpty)\/∃kvs,H p=some (.dK kvs)/\k = !kvs.isEmpty
 |_=>False
theorem Qp {κ:Type}{kvs:List (κ×V)}{vs:List (κ×Value)}(r:KV kvs vs):(!vs.isEmpty) = !kvs.isEmpty:=by
 cases r <;> rfl
theorem WT {xs:List V}{its:List Value}(r:Vals xs its):(!its.toArray.isEmpty) = !xs.isEmpty:=by
 cases r <;> simp
theorem Wv:(sizeLine:Nat)<2^63:=by rw[ND];decide
theorem GM:uT X (λx H Q=>∃k,yi X.K x H k/\Q k H):=by
 intro pq s σ H x v Q I rx h;obtain⟨k,e,q⟩:=h;have hl:=Wv;have hs:sizeLine=16777216:=ND;cases x with
 |non=>
  cases rx;have e':k=false:=e;subst e';exact truthy_none ⟨H,I,q⟩
 |bl b=>
  cases rx;have e':k=b:=e;subst e';exact Ng ⟨H,I,q⟩
 |int i=>
  obtain⟨t,rfl⟩:=rx;have e':k=(i != 0):=e;subst e';exact PySem.P.truthy_int ⟨H,I,q⟩
 |str y=>
  obtain⟨t,rfl⟩:=rx;obtain⟨hy,e'⟩:y.length<=sizeLine/\k=((y.length:Int) != 0):=e;subst e';exact PySem.P.truthy_str (by omega) ⟨H,I.tok _,q⟩
 |byt y=>
  obtain⟨t,rfl⟩:=rx;obtain⟨hy,e'⟩:y.size<=sizeLine/\k=((y.size:Int) != 0):=e;subst e';exact PySem.W.truthy_bytes (by omega) ⟨H,I.tok _,q⟩
 |ref p=>
  cases rx;have e':(∃xs,SqL X.K H p xs/\k = !xs.isEmpty)\/(∃xs,SqT X.K H p xs/\k = !xs.isEmpty)\/∃kvs,H p=some (.dK kvs)/\k = !kvs.isEmpty:=e;rcases e' with ⟨xs,hx,e'⟩ | ⟨xs,hx,e'⟩ | ⟨kvs,hx,e'⟩
  ·subst e'
   obtain⟨its,r,pl,hz⟩:=I.list hx;have hlen:=r.length;exact wpAny_truthy_list pl.isList (by simp only[Pf];omega) ⟨H,I.tok _,by rw[WT r];exact q⟩
  ·subst e'
   obtain⟨its,r,pl,hz⟩:=I.tuple hx;have hlen:=r.length;exact truthy_tuple pl (by simp only[Pf];omega) ⟨H,I.tok _,by rw[WT r];exact q⟩
  ·subst e'
   obtain⟨hz,hS,vs,r,m⟩:kvs.length<=sizeLine/\(p == sysModules)=false/\∃vs,KV kvs vs/\s.heap.DictOf (VR X.prog X.w) p vs:=I.hok p _ hx;have hlen:kvs.length=vs.length:=Paired.length r;exact wpAny_truthy_dict hS m (by omega) ⟨H,I.tok _,by rw[Qp r];exact q⟩
 |_=>exact (show False from e).elim
theorem G0 (ha:PE X a ta) (he:∀whole,isTrue a X.env whole=(do let v <-whole;standAt a.pos;holding [v] (truthy v))) :
  PT X a (λσ H Q=>ta σ H λx H'=>∃k,yi X.K x H' k/\Q k H'):=by
 intro pq s σ H Q I h;exact isTrue_plain (thn (ha pq s σ H _ I h) λv s1 ⟨x,H1,I1,r1,q1⟩=>GM pq s1 σ H1 x v Q I1 r1 q1) (he _)
theorem UD {x:V}{us:List Value}(r:Vals [x] us):∃u,us=[u]/\Zs x u:=by
 cases r with
 |cons r1 r2=>cases r2;exact⟨_,rfl,r1⟩
theorem UQ {x y:V}{us:List Value}(r:Vals [x,y] us):∃u w',us=[u,w']/\Zs x u/\Zs y w':=by
 cases r with
 |cons r1 r2=>
  cases r2 with
  |cons r3 r4=>cases r4;exact⟨_,_,rfl,r1,r3⟩
theorem J8 (hc:X.calm=true):ZL X (.builtin "max") (λxs H Q=>∃i j,xs=[.int i,.int j]/\Q (.int (if j>i then j else i)) H):=by
 intro pq s σ H xs us Q I r h;obtain⟨i,j,rfl,q⟩:=h;obtain⟨u,w',rfl,⟨t,rfl⟩,⟨t',rfl⟩⟩:=UQ r;refine max_two_ints (I.ok.hd hc) λh' tk k=>⟨_,H,I.kept k,?_,q⟩
 by_cases hj:j>i
 ·rw[Pj hj,Pj hj];exact⟨_,rfl⟩
 ·rw[Pm hj,Pm hj];exact⟨_,rfl⟩
theorem JM (hc:X.calm=true):ZL X (.builtin "min") (λxs H Q=>∃i j,xs=[.int i,.int j]/\Q (.int (if j<i then j else i)) H):=by
 intro pq s σ H xs us Q I r h;obtain⟨i,j,rfl,q⟩:=h;obtain⟨u,w',rfl,⟨t,rfl⟩,⟨t',rfl⟩⟩:=UQ r;refine min_two_ints (I.ok.hd hc) λh' tk k=>⟨_,H,I.kept k,?_,q⟩
 by_cases hj:j<i
 ·rw[Pj hj,Pj hj];exact⟨_,rfl⟩
 ·rw[Pm hj,Pm hj];exact⟨_,rfl⟩
theorem JZ:ZL X (.type "int") (λxs H Q=>(∃i,xs=[.int i]/\Q (.int i) H)\/∃k,xs=[.bl k]/\Q (.int (if k then 1 else 0)) H):=by
 intro pq s σ H xs us Q I r h;rcases h with ⟨i,rfl,q⟩ | ⟨k,rfl,q⟩
 ·obtain⟨u,rfl,t,rfl⟩:=UD r
  exact call_int_int ⟨.int i,H,I,⟨_,rfl⟩,q⟩
 ·obtain⟨u,rfl,r1⟩:=UD r
  cases r1;exact call_int_bool ⟨.int (if k then 1 else 0),H,I.tok _,⟨_,rfl⟩,q⟩
end
structure ObjM (h:Heap) (x dx C:Addr) (mA:Str->Option Value):Prop where
 obj:h.get? x=some (PySem.W.instObj C dx)
 ns:h.Ns1 dx mA
 ne:dx≠x
theorem Go {h:Heap}{dx:Addr}{mA:Str->Option Value}(n:h.Ns1 dx mA):∃od,h.get? dx=some od/\∀name,PySem.W.lookIn name od=some (mA name):=by
 obtain⟨o,es,ep,ho,hd,hk,_,hm⟩:=n;refine⟨o,ho,λname=>?_⟩
 have e:=hm name;unfold nsFind findBy at e;rw[<-Array.find?_toList] at e;unfold PySem.W.lookIn;rw[hd]
 dsimp only
 split
 ·rename_i y q
  rw[q] at e;exact congrArg some e
 ·rename_i q
  rw[q] at e;have a:es.toList.any (·.refKey)=false:=by
   rw[List.any_eq_false];intro y hy;obtain⟨z,t,hkey⟩:=hk y (Array.mem_toList_iff.mp hy);simp[DictEntry.refKey,hkey]
  have a':¬es.toList.any (·.refKey)=true:=by rw[a];exact Pi
  rw[Pm a'];exact congrArg some e
theorem ObjM.look {h:Heap}{x dx C:Addr}{mA:Str->Option Value}(I:ObjM h x dx C mA):∃od,PySem.W.InstAt h x (PySem.W.instObj C dx) C (some od)/\∀name,PySem.W.lookIn name od=some (mA name):=
 let ⟨od,ho,hl⟩:=Go I.ns
 ⟨od,⟨I.obj,rfl,rfl,ho⟩,hl⟩
section
variable {P:Program}{w:World}{H H':Hp}{h h':Heap}{a C dx:Addr}{fs fs':List (Str×V)}
theorem Je (hok:HOk P w H h) (e:H a=some (.ins C dx fs)):∃mA,ObjM h a dx C mA/\(∀f,vl (fs.lookup f) (mA f))/\PySem.Within mA (fs.map (·.1))/\fs.length<=1000/\H dx=some (.own a):=by
 obtain⟨d,z,ne,ob,mA,n,r,q⟩:=(show ZF P w H h a (.ins C dx fs) from hok a _ e)
 exact⟨mA,⟨ob,n,ne⟩,r,q,z,d⟩
end
structure Cls (K:PySem.W.Frag) (C:Addr):Prop where
 pg:PySem.W.plainGet K C Str.empty=true
 hd:PySem.W.hasDictIn K C=true
 po:PySem.W.plainOver K C=true
 sa:PySem.W.findIn K (.ref C) "__setattr__" = some (some (.builtin "object.__setattr__"))
theorem Cls.get {K:PySem.W.Frag}{C:Addr}(c:Cls K C) (f:Str):PySem.W.plainGet K C f=true:=c.pg
section
variable {X:Cx}{pq:List (Addr×Obj)}{σ:St}{H:Hp}{s:Shared}{A:Around}{E:Value->Shared->Prop}{Q:Value->Shared->Prop}{c:Value}{b:Bool}
inductive TyOf (K:PySem.W.Frag) (H:Hp):V->Value->Prop where
 |non:TyOf K H .non (.type "NoneType")
 |bl (x:Bool):TyOf K H (.bl x) (.type "bool")
 |int (i:Int):TyOf K H (.int i) (.type "int")
 |str (x:Str):TyOf K H (.str x) (.type "str")
 |flt (x:UInt64):TyOf K H (.flt x) (.type "float")
 |lst {a:Addr} {xs:List V} (e:H a=some (.lst xs)):TyOf K H (.ref a) (.type "list")
 |frz {a:Addr} {o:Obj} {xs:List V} (e:H a=some (.frz o (.lst xs))):TyOf K H (.ref a) (.type "list")
 |tup {a:Addr} {xs:List V} (e:H a=some (.tup xs)):TyOf K H (.ref a) (.type "tuple")
 |dK {a:Addr} {kvs:List (Key×V)} (e:H a=some (.dK kvs)):TyOf K H (.ref a) (.type "dict")
 |dT {a:Addr} {kvs:List (List Key×V)} (e:H a=some (.dT kvs)):TyOf K H (.ref a) (.type "dict")
 |ins {a C dx:Addr} {fs:List (Str×V)} (e:H a=some (.ins C dx fs)) (cl:Cls K C) (ha:PySem.W.findIn K (.ref C) "__class__" = some (some (.builtin "object.__class__")))
   (hn:PySem.W.specialIn K (.builtin "object.__class__") "__get__" = some (some (.builtin "getset_descriptor.__get__"))) (htk:PySem.W.takesIn K (.builtin "object.__class__")=some true)
   (hm:PySem.W.mroIn K C (.type "object")=some true):TyOf K H (.ref a) (.ref C)
theorem J0 {x:V}{u t:Value}(I:Inv X pq σ H s) (rx:Zs x u) (ty:TyOf X.K H x t) (e:PySem.W.kitOne X.K t c=some b) (h:∀tk,Q (.bool b) { s with toks:=tk }) :
  wpAny (model X.prog X.w) A (call (.builtin "isinstance") [u,c]) Q E s:=by
 cases ty with
 |non=>cases (show u=Value.none from rx);exact P4 PySem.W.kitx_none I.kIn True.intro e (λz=>nomatch z) h
 |bl y=>cases (show u=Value.bool y from rx);exact P4 PySem.W.kitx_bool I.kIn True.intro e (λz=>nomatch z) h
 |int i=>obtain⟨t,q⟩:=(show ∃t,u=Value.int i t from rx);cases q;exact P4 PySem.W.kitx_int I.kIn True.intro e (λz=>nomatch z) h
 |str y=>obtain⟨t,q⟩:=(show ∃t,u=Value.str y t from rx);cases q;exact P4 PySem.W.kitx_str I.kIn True.intro e (λz=>nomatch z) h
 |flt y=>obtain⟨t,q⟩:=(show ∃t,u=Value.float y t from rx);cases q;exact P4 PySem.W.kitx_float I.kIn True.intro e (λz=>nomatch z) h
 |@lst a xs ea=>
  cases (show u=Value.ref a from rx)
  obtain⟨_,_,n,_,h1⟩:=(show ZF X.prog X.w H s.heap a (.lst xs) from I.hok a _ ea)
  exact P4 NR I.kIn ⟨_,h1,rfl⟩ e (λz=>nomatch z) h
 |@frz a ob xs ea=>
  cases (show u=Value.ref a from rx)
  obtain⟨_,_,_,n,_,h1⟩:=(show ZF X.prog X.w H s.heap a (.frz ob (.lst xs)) from I.hok a _ ea)
  exact P4 NR I.kIn ⟨_,h1,rfl⟩ e (λz=>nomatch z) h
 |@tup a xs ea=>
  cases (show u=Value.ref a from rx)
  obtain⟨_,_,_,p⟩:=(show ZF X.prog X.w H s.heap a (.tup xs) from I.hok a _ ea)
  obtain⟨o,h1,h2,_⟩:=p;exact P4 PySem.W.kitx_tuple I.kIn ⟨o,h1,h2⟩ e (λz=>nomatch z) h
 |@dK a kvs ea=>
  cases (show u=Value.ref a from rx)
  obtain⟨_,_,vs,_,p⟩:=(show ZF X.prog X.w H s.heap a (.dK kvs) from I.hok a _ ea)
  obtain⟨o,es,ep,h1,h2,_⟩:=p;exact P4 NS I.kIn ⟨o,h1,h2.1⟩ e (λz=>nomatch z) h
 |@dT a kvs ea=>
  cases (show u=Value.ref a from rx)
  obtain⟨_,_,xs,_,o,es,ep,h1,h2,_⟩:=(show ZF X.prog X.w H s.heap a (.dT kvs) from I.hok a _ ea)
  exact P4 NS I.kIn ⟨o,h1,h2.1⟩ e (λz=>nomatch z) h
 |@ins a C dx fs ea cl ha hn htk hm=>
  cases (show u=Value.ref a from rx)
  obtain⟨mA,O,_⟩:=Je I.hok ea;obtain⟨od,J,_⟩:=O.look;exact P4 (PySem.W.kitx_own (cl.get _) cl.hd ha hn htk hm) I.kIn J e (λz=>nomatch z) h
end
structure Room (k:Nat) (A:Around):Prop where
 hd:A.handled=none
 dp:A.depth+3*k+5<recursionLimit
 un:A.units+16*k+200<cLine
theorem Room.mono {j k:Nat}{A:Around}(r:Room k A) (h:j<=k):Room j A:=⟨r.hd,by have:=r.dp;omega,by have:=r.un;omega⟩
theorem Room.deeper {k:Nat}{A:Around}(r:Room (k+1) A) (env:Env):Room k (A.deeper env):=
 ⟨r.hd,by have:=r.dp;show A.depth+1+3*k+5<_;omega,by have:=r.un;show A.units+3+16*k+200<_;omega⟩
theorem Room.depth {k:Nat}{A:Around}(r:Room k A):A.depth<recursionLimit:=by have:=r.dp;omega
def Qr:TA:=λ_ H Q=>Q [] H
def Yx (ta:TE) (tr:TA):TA:=λσ H Q=>ta σ H λx H1=>tr σ H1 λxs H2=>Q (x::xs) H2
section
variable {X:Cx}{e:Expr}{es:List Expr}{te:TE}{t:TA}{pos:Pos}
theorem Yb:PA X [] Qr:=λ_ _ _ _ H Q I h=>Calls.spliced_nil ⟨[],H,I,.nil,h⟩
theorem Zr (ha:PE X e te) (hr:PA X es t) (hs:starEach (e::es) X.env=(false,eval e X.env)::starEach es X.env:=by rfl):PA X (e::es) (Yx te t):=by
 intro pos pq s σ H Q I h;rw[hs];show wpAny _ _ (spliced ((false,eval e X.env)::backTo pos (starEach es X.env))) _ _ s;refine Calls.spliced_cons (thn (ha pq s σ H _ I h) λu s1 ⟨x,H1,I1,r1,q1⟩=>?_)
 exact thn (hr pos pq s1 σ H1 _ I1 q1) λus s2 ⟨xs,H2,I2,r2,q2⟩=>⟨x::xs,H2,I2,.cons r1 r2,q2⟩
def u6 (t:TA):TE:=λσ H Q=>t σ H λxs H1=>xs.length<=sizeLine/\∀p,H1 p=none->Q (.ref p) (upd H1 p (.tup xs))
def xE (t:TA):TE:=λσ H Q=>t σ H λxs H1=>xs.length<=sizeLine/\∀p,H1 p=none->Q (.ref p) (upd H1 p (.lst xs))
theorem GE {x1}(h:PA X es t):PE X (.Tuple es x1 pos) (u6 t):=by
 intro pq s σ H Q I hq;refine wpAny_Tuple_spliced (thn (h pos pq s σ H _ I hq) λus s1 ⟨xs,H1,I1,r,z,q⟩=>⟨by rw[<-r.length];exact z,?_⟩)
 have hf:H1 s1.heap.objs.size=none:=I1.hok.fresh (Po _);refine⟨.ref s1.heap.objs.size,upd H1 s1.heap.objs.size (.tup xs),I1.laid (t':=s1.toks) (λb u e=>Pe _ e) (Po _) ?_,rfl,q _ hf⟩
 exact⟨z,us,r,⟨_,Ps _ rfl,rfl,_,rfl⟩⟩
theorem VO (h:PA X es t):PE X (.List es pos) (xE t):=by
 intro pq s σ H Q I hq;refine wpAny_List_spliced (thn (h pos pq s σ H _ I hq) λus s1 ⟨xs,H1,I1,r,z,q⟩=>⟨by rw[<-r.length];exact z,?_⟩)
 have hf:H1 s1.heap.objs.size=none:=I1.hok.fresh (Po _);refine⟨.ref s1.heap.objs.size,upd H1 s1.heap.objs.size (.lst xs),I1.laid (t':=s1.toks) (λb u e=>Pe _ e) (Po _) ?_,rfl,q _ hf⟩
 exact⟨z,us,0,r,Ps _ rfl⟩
end
abbrev Sp:=List V->Hp->VK->XK->Prop
abbrev CXT:=List Env->Hp->Shared->XK->Value->Shared->Prop
structure Env0 (P:Program) (w:World) (K:PySem.W.Frag) (mg:Str->Option Value) (base:Heap) (A:Around) (outer:List Env) (s:Shared) (H:Hp):Prop where
 frames:A.frames=some outer
 mod:Mod K mg base
 bs:∀b o,base.get? b=some o->s.heap.get? b=some o/\H b=none
 bsz:base.objs.size<=s.heap.objs.size
 funs:s.heap.FunFrames base outer
 frf:∀b∈frs outer,H b=none
 hok:HOk P w H s.heap
 bare:AllBare s.gens
def CE (outer:List Env) (P:Program) (w:World) (H:Hp) (s:Shared) (Q:VK) (u:Value) (s':Shared):Prop:=
 ∃v H',s'.os=s.os/\AllBare s'.gens/\Un (frs outer) [] H H' s.heap s'.heap/\HOk P w H' s'.heap/\Zs v u/\Q v H'
def CR (CX:CXT) (outer:List Env) (P:Program) (w:World) (H:Hp) (s:Shared) (Q:VK) (E:XK) (r:Result) (s':Shared):Prop:=
 match r with
 |.ok (.ret u)=>CE outer P w H s Q u s'
 |.ok _=>False
 |.error e=>CX outer H s E e s'
structure FnOk (P:Program) (w:World) (K:PySem.W.Frag) (mg:Str->Option Value) (base:Heap) (CX:CXT) (k:Nat) (f:Addr) (fd:FuncData) (ps:List Str) (sp:Sp):Prop where
 len:∀vs H Q E,sp vs H Q E->vs.length=ps.length
 run:∀(A:Around) (outer:List Env) (s:Shared) (H:Hp) (args:Args) (us:List Value) (vs:List V) (Q:VK) (E:XK),Room k A->Env0 P w K mg base A outer s H->BindsTo s fd args (ps.zip us)->Vals vs us->sp vs H Q E->
  codeAny (model P w) A (.call (.ref f) args) (CR CX outer P w H s Q E) s
section
variable {X:Cx}{pq:List (Addr×Obj)}{σ:St}{H:Hp}{s s':Shared}
theorem Inv.env0 (I:Inv X pq σ H s):Env0 X.prog X.w X.K X.mg X.base X.A X.stack s H:=
 ⟨I.ok.frames,I.ok.mod,I.bs,PY I.ok.bsz I.sz,I.stack,I.stkFree,I.hok,I.bare⟩
theorem Inv.after {Q:VK}{u:Value}(I:Inv X pq σ H s) (h:CE X.stack X.prog X.w H s Q u s'):EP X pq σ Q u s':=by
 obtain⟨v,H',os,bare,un,hok,r,q⟩:=h;obtain⟨hh,g,d,t,os'⟩:=s';obtain rfl:os'=s.os:=os;exact⟨v,H',I.call (h':=hh) (g':=g) (d':=d) (t':=t) (ch:=[]) un hok bare (λb z=>absurd z (by simp)),r,q⟩
end
def ud (sp:Sp) (dvs:List V) (E:XK) (t:TA):TE:=λσ H Q=>t σ H λvs H1=>sp (vs++dvs) H1 Q E
def X6 (K:PySem.W.Frag) (fd:FuncData) (ps:List Str) (ds:List Value):Prop:=
 ∀(s:Shared) (us:List Value),K.In s.heap->(us++ds).length=ps.length->BindsTo s fd ⟨us,[]⟩ (ps.zip (us++ds))
theorem X6.all {K:PySem.W.Frag}{fd:FuncData}{ps:List Str}(h:∀us:List Value,us.length=ps.length->bindArgs fd ⟨us,[]⟩=pure (ps.zip us)):X6 K fd ps []:=λs us _ hl=>by
 rw[Nt] at hl ⊢;exact .of_eq (h us hl)
def WQ (CX:CXT) (X:Cx) (E:XK):Prop:=∀(pq:List (Addr×Obj)) (σ:St) (H:Hp) (s:Shared) (e:Value) (s':Shared),Inv X pq σ H s->CX X.stack H s E e s'->X.xe e s'
section
variable {X:Cx}{CX:CXT}{k:Nat}{f C:Addr}{fd:FuncData}{ps:List Str}{sp:Sp}{dvs:List V}{ds:List Value}{E:XK}{x m:Str}{p pos apos:Pos}{e o:Expr}{es:List Expr}{ta:TE}{t:TA}
theorem wm {pq:List (Addr×Obj)}{σ:St}{H:Hp}{s:Shared}{Q:VK}{us:List Value}{vs:List V}(F:FnOk X.prog X.w X.K X.mg X.base CX k f fd ps sp) (hr:Room k X.A) (hb:X6 X.K fd ps ds) (hd:Vals dvs ds) (hx:WQ CX X E)
  (I:Inv X pq σ H s) (r:Vals vs us) (h:sp (vs++dvs) H Q E):wpAny (model X.prog X.w) X.A (call (.ref f) us) (EP X pq σ Q) X.xe s:=by
 have r2:Vals (vs++dvs) (us++ds):=r.append hd;have hl:(us++ds).length=ps.length:=by rw[<-r2.length];exact F.len _ _ _ _ h
 refine wpAny_call (codeAny_mono (F.run X.A X.stack s H ⟨us,[]⟩ (us++ds) (vs++dvs) Q E hr I.env0 (hb s us I.kIn hl) r2 h) λr s' hq=>?_)
 cases r with
 |error e=>exact hx pq σ H s e s' I hq
 |ok fl=>
  cases fl with
  |ret u=>exact I.after hq
  |next=>exact False.elim hq
  |brk=>exact False.elim hq
  |cont=>exact False.elim hq
theorem yF (F:FnOk X.prog X.w X.K X.mg X.base CX k f fd ps sp) (hr:Room k X.A) (hg:Gl X x) (hm:X.mg x=some (.ref f)) (hk:PySem.W.keepIn X.K (.ref f)=true) (hb:X6 X.K fd ps ds) (hd:Vals dvs ds) (hx:WQ CX X E)
  (ha:PA X (e::es) t) (hdb:(x == ("__debug__" : Str))=false:=by decide) (he:starEach (e::es) X.env=(false,eval e X.env)::starEach es X.env:=by rfl) (hpl:(backTo pos (starEach es X.env)).any (·.1)=false:=by rfl) :
  PE X (.Call (.Name x p) (e::es) [] pos) (ud sp dvs E t):=by
 intro pq s σ H Q I h;refine Nz (Xp I hg hm ?_ hdb);refine PySem.W.callWith_K (h₀:=X.base) I.ok.mod.kin hk (thn (ha pos pq s σ H _ I h) λus s1 ⟨vs,H1,I1,r,q⟩=>⟨I1.kIn,?_⟩) he hpl
 exact wm F hr hb hd hx I1 r q
end
structure FnScope (N P:List Str) (sc:Scope):Prop where
 kind:sc.kind=.function
 co:sc.isCoroutine=false
 gen:sc.isGenerator=false
 nd:N.Nodup
 pre:N.take P.length=P
 par:∀x∈P,sc.names.lookup x=some .local\/sc.names.lookup x=some .cell
 nofree:∀y∈sc.names,y.2≠.free
theorem Vf {kindOf:Str->Option NameKind}{x:Str}:∀{binds:List (Str×Value)}{m:Str->Option Value},(∀v,(x,v)∉binds)->bindL kindOf binds m x=m x
 |[],_,_=>rfl
 |(n,v)::r,m,h=>by
  unfold bindL;rw[Vf λw hw=>h w (Pn _ hw)]
  split
  ·have:x≠n:=by rintro rfl;exact h v Pq
   simp[this]
  ·rfl
theorem Vn {kindOf:Str->Option NameKind}{x:Str}:∀{binds:List (Str×Value)}{m:Str->Option Value},(∀v,(x,v)∉binds)->bindC kindOf binds m x=m x
 |[],_,_=>rfl
 |(n,v)::r,m,h=>by
  unfold bindC;rw[Vn λw hw=>h w (Pn _ hw)]
  split
  ·rfl
  ·have:x≠n:=by rintro rfl;exact h v Pq
   simp[this]
theorem Vq {kindOf:Str->Option NameKind}{x:Str}{v:Value}:∀{P:List Str}{vs:List Value}{i:Nat}{m:Str->Option Value},P.Nodup->P[i]? = some x->vs[i]? = some v->kindOf x=some .local->
  bindL kindOf (P.zip vs) m x=some v
 |[],_,_,_,_,h,_,_=>by simp at h
 |_::_,[],_,_,_,_,h,_=>by simp at h
 |p::P,w::vs,0,m,nd,h1,h2,hk=>by
  simp at h1 h2;subst h1;subst h2;show bindL kindOf ((p,w)::P.zip vs) m p=_;unfold bindL;rw[Vf λv hv=>(Nu.mp nd).1 (N2 hv).1,Pj hk]
  simp
 |p::P,w::vs,i+1,m,nd,h1,h2,hk=>by
  show bindL kindOf ((p,w)::P.zip vs) m x=_;unfold bindL;exact Vq (i:=i) (Nu.mp nd).2 (by simpa using h1) (by simpa using h2) hk
theorem Vs {kindOf:Str->Option NameKind}{x:Str}{v:Value}:∀{P:List Str}{vs:List Value}{i:Nat}{m:Str->Option Value},P.Nodup->P[i]? = some x->vs[i]? = some v->kindOf x≠some .local->
  bindC kindOf (P.zip vs) m x=some v
 |[],_,_,_,_,h,_,_=>by simp at h
 |_::_,[],_,_,_,_,h,_=>by simp at h
 |p::P,w::vs,0,m,nd,h1,h2,hk=>by
  simp at h1 h2;subst h1;subst h2;show bindC kindOf ((p,w)::P.zip vs) m p=_;unfold bindC;rw[Vn λv hv=>(Nu.mp nd).1 (N2 hv).1,Pm hk]
  simp
 |p::P,w::vs,i+1,m,nd,h1,h2,hk=>by
  show bindC kindOf ((p,w)::P.zip vs) m x=_;unfold bindC;exact Vs (i:=i) (Nu.mp nd).2 (by simpa using h1) (by simpa using h2) hk
noncomputable def start (N:List Str) (vs:List V):St:=vs.map some++List.replicate (N.length-vs.length) none
noncomputable def YU (CX:CXT) (P:Program) (w:World) (K:PySem.W.Frag) (mg:Str->Option Value) (base:Heap) (N:List Str) (qual:Str) (scope:Scope) (f:Addr) (cd:Value) (A:Around) (outer:List Env) (s:Shared) (H:Hp) (E:XK):Cx where
 prog:=P
 w:=w
 K:=K
 mg:=mg
 base:=base
 A:=A.deeper (envOfC qual scope s.heap.objs.size f cd)
 N:=N
 s₀:=s
 H₀:=H
 env:=envOfC qual scope s.heap.objs.size f cd
 outer:=outer
 stack:=envOfC qual scope s.heap.objs.size f cd::outer
 ex:=[]
 calm:=true
 fn:=λ_=>true
 pn:=[]
 xe:=λe s'=>wpAny (model P w) (A.deeper (envOfC qual scope s.heap.objs.size f cd)) (leaving (envOfC qual scope s.heap.objs.size f cd) e) (λ_ s''=>CX outer H s E e s'') (λe' s''=>CX outer H s E e' s'') s'
theorem WG {sc:Scope}{n:Nat}{x:Str}(h:sc.names.lookup x=some .cell):∃c,(cellsFrom n sc.names []).lookup x=some c:=by
 have q:=PySem.W.cellsFrom_some sc.names n [] (.inl h);exact Nc.mp q
theorem Vm {CX:CXT}{P:Program}{w:World}{K:PySem.W.Frag}{mg:Str->Option Value}{base:Heap}{N ps:List Str}{qual:Str}{scope:Scope}{f:Addr}{cd:Value}{A:Around}{outer:List Env}{s s1:Shared}{H:Hp}{E:XK}{us:List Value}{vs:List V}
  (S:FnScope N ps scope) (hd:A.handled=none) (e0:Env0 P w K mg base A outer s H) (hl:vs.length=ps.length) (r:Vals vs us)
  (x:InCallC s s.heap.objs.size (bindL (envOfC qual scope s.heap.objs.size f cd).kindOf (ps.zip us) λ_=>none) (cellsFrom (s.heap.objs.size+1) scope.names []) (bindC (envOfC qual scope s.heap.objs.size f cd).kindOf (ps.zip us) λ_=>none) s1) :
  Inv (YU CX P w K mg base N qual scope f cd A outer s H E) [] (start N vs) H s1:=by
 have hpl:ps.length<=N.length:=by have:=congrArg List.length S.pre;rw[List.length_take] at this;omega
 obtain⟨h1,tk,rfl,hk⟩:=x.done;have noA:∀b:Addr,b∉(YU CX P w K mg base N qual scope f cd A outer s H E).ex:=λb z=>absurd (show b∈([]:List Addr) from z) (by simp)
 refine⟨⟨e0.mod,S.kind,rfl,rfl,Po _,λy z c h1 h2=>?_,λy hy=>?_,λy c _ h=>?_,λ_=>hd,Around.frames_deeper e0.frames,.inr ⟨rfl,rfl⟩,λb z=>absurd z (noA b),e0.bs,e0.bsz,λb _ _=>noA b,λb z=>absurd z (noA b),e0.funs,e0.frf⟩,
  rfl,e0.bare,Un.kept hk,⟨_,x.toInCall.ns,λi y v h1 h2 h3=>?_⟩,λy c h=>⟨_,x.cell y c h⟩,e0.hok.fresh (Po _),λy c h=>?_,λp hp=>absurd (show p∈([]:List (Addr×Obj)) from hp) (by simp),e0.hok.kept hk,?_⟩
 ·exact name_of_addr x.apart (P7 h1) (P7 h2)
 ·have hy:scope.names.lookup y=some .cell\/scope.names.lookup y=some .free:=hy
  rcases hy with hy | hy
  ·exact WG hy
  ·exact absurd rfl (S.nofree _ (P7 hy))
 ·exact Nat.le_of_lt (x.above y c (P7 h))
 ·have hi:i<vs.length:=by
   unfold start at h2;by_cases hi:i<vs.length
   ·exact hi
   ·rw[Px (by simpa using hi)] at h2
    rw[PZ] at h2;split at h2 <;> cases h2
  have ha:vs[i]? = some v:=by
   unfold start at h2;rw[Pl (by simpa using hi),PP] at h2
   cases e:vs[i]? with
   |none=>rw[e] at h2;cases h2
   |some a=>rw[e] at h2;cases h2;rfl
  obtain⟨u,hu,rv⟩:=r.get ha;have hp:ps[i]? = some y:=by
   rw[<-S.pre,List.getElem?_take_of_lt (by omega)];exact h1
  have ndP:ps.Nodup:=by rw[<-S.pre];exact S.nd.sublist (List.take_sublist _ _)
  refine⟨u,rv,?_⟩;rcases S.par y (NE hp) with k | k
  ·exact .inl ⟨k,Vq ndP hp hu k⟩
  ·obtain⟨c,e⟩:=WG (n:=s.heap.objs.size+1) k
   refine .inr ⟨.inl k,c,e,?_⟩;have q:=x.cell y c e;rw[Vs ndP hp hu (by show scope.names.lookup y≠_;rw[k];decide)] at q
   exact q
 ·exact e0.hok.fresh (Nat.le_of_lt (x.above y c (P7 h)))
 ·unfold start
  show _=N.length;rw[PK,PV,P8];omega
theorem x6 {CX:CXT}{P:Program}{w:World}{K:PySem.W.Frag}{mg:Str->Option Value}{base:Heap}{k:Nat}{f:Addr}{name qual:Str}{params:Arguments}{body:List Stmt}{scope:Scope}{dV kV doc pm cdv ct oc:Value}{an od:Option Addr}
  {osl:Array (Option Value)} {N ps:List Str} {sp:Sp} (lk:K.lookup f=some ⟨oc,od,.func (PySem.W.fnOf name qual params body scope dV kV doc pm an cdv ct),osl⟩) (hcd:PySem.W.codeIn K cdv qual=true) (S:FnScope N ps scope)
  (len:∀vs H Q E,sp vs H Q E->vs.length=ps.length)
  (hbody:∀(A:Around) (outer:List Env) (s:Shared) (H:Hp) (vs:List V) (Q:VK) (E:XK),Room k (A.deeper (envOfC qual scope s.heap.objs.size f cdv))->sp vs H Q E->
   ∃t,PSs (YU CX P w K mg base N qual scope f cdv A outer s H E) body t/\t { nx:=λ_ H'=>Q .non H',rt:=Q } (start N vs) H) :
  FnOk P w K mg base CX (k+1) f (PySem.W.fnOf name qual params body scope dV kV doc pm an cdv ct) ps sp:=by
 refine⟨len,λA outer s H args us vs Q E hr e0 hb r hsp=>?_⟩
 have hl:=len _ _ _ _ hsp;have KX:K.In s.heap:=e0.mod.kin.keeps λb o e=>(e0.bs b o e).1
 have lim:s.heap.NoLimit:=e0.mod.nolimit.keeps λb o e=>(e0.bs b o e).1
 have hkind:∀y∈ps.zip us,scope.names.lookup y.1=some .local\/(scope.names.lookup y.1=some .cell/\((cellsFrom (s.heap.objs.size+1) scope.names []).lookup y.1).isSome=true):=λ⟨n,v⟩ hy=>by
  rcases S.par n (N2 hy).1 with q | q
  ·exact .inl q
  ·exact .inr ⟨q,PySem.W.cellsFrom_some _ _ _ (.inl q)⟩
 refine codeAny_call_function hr.depth (KX _ _ lk) rfl S.co S.gen rfl (PySem.W.codeRec_of KX hcd) (hb _ _ _ _ ?_);refine wpAny_newFunctionEnv_cells S.kind hkind λenv he s1 x=>?_
 subst he;refine⟨lim.keeps x.toInCall.keep,codeAny_func ?_⟩;obtain⟨t,ht,hq⟩:=hbody A outer s H vs Q E (hr.deeper _) hsp;have I:Inv (YU CX P w K mg base N qual scope f cdv A outer s H E) [] (start N vs) H s1:=Vm S hr.hd e0 hl r x;refine Ni (ht [] s1 (start N vs) H _ I hq) (λfl s' hs=>?_) λe s' hs=>hs
 have fin:∀{σ':St} {H':Hp} {v:V} {u:Value},Inv (YU CX P w K mg base N qual scope f cdv A outer s H E) [] σ' H' s'->Zs v u->Q v H'->CE outer P w H s Q u s':=
  λ{σ' H' v u} J rv q=>⟨v,H',J.os,J.bare,J.base,J.hok,rv,q⟩
 cases fl with
 |ret u=>
  obtain⟨v,σ',H',J,rv,q⟩:=hs;exact fin J rv q
 |next=>
  obtain⟨σ',H',J,q⟩:=hs;exact fin (v:=V.non) (u:=Value.none) J rfl q
 |brk=>
  obtain⟨_,_,_,q⟩:=hs;exact False.elim q
 |cont=>
  obtain⟨_,_,_,q⟩:=hs;exact False.elim q
section
variable {X:Cx}{x:Str}{p pos:Pos}{e:Expr}{es:List Expr}{t:TA}{id T:String}{r:List V->Hp->VK->Prop}
def tCB (r:List V->Hp->VK->Prop) (t:TA):TE:=λσ H Q=>t σ H λvs H1=>r vs H1 Q
theorem Y1 (hc:ZL X (.builtin id) r) (hg:Gl X x) (hm:X.mg x=none) (hv:bootBuiltins x=some (.builtin id)) (ha:PA X (e::es) t) (hn:x≠"__name__":=by decide) (hdb:(x == ("__debug__" : Str))=false:=by decide)
  (he:starEach (e::es) X.env=(false,eval e X.env)::starEach es X.env:=by rfl) (hpl:(backTo pos (starEach es X.env)).any (·.1)=false:=by rfl):PE X (.Call (.Name x p) (e::es) [] pos) (tCB r t):=by
 intro pq s σ H Q I h;refine Nz (XZ I hg hm hv ?_ hn hdb);exact PyProof.Rows.callWith_builtin1 (thn (ha pos pq s σ H _ I h) λus s1 ⟨vs,H1,I1,r1,q1⟩=>hc pq s1 σ H1 vs us Q I1 r1 q1) he hpl
theorem J5 (hc:ZL X (.type T) r) (hg:Gl X x) (hm:X.mg x=none) (hv:bootBuiltins x=some (.type T)) (ha:PA X (e::es) t) (hn:x≠"__name__":=by decide) (hdb:(x == ("__debug__" : Str))=false:=by decide)
  (he:starEach (e::es) X.env=(false,eval e X.env)::starEach es X.env:=by rfl) (hpl:(backTo pos (starEach es X.env)).any (·.1)=false:=by rfl):PE X (.Call (.Name x p) (e::es) [] pos) (tCB r t):=by
 intro pq s σ H Q I h;refine Nz (XZ I hg hm hv ?_ hn hdb);exact Nk (thn (ha pos pq s σ H _ I h) λus s1 ⟨vs,H1,I1,r1,q1⟩=>hc pq s1 σ H1 vs us Q I1 r1 q1) he hpl
end
end L2
namespace HT
open PySem PyProof.Rows
section
variable {prog:Program}{w:World}{A:Around}{E:Value->Shared->Prop}{s:Shared}
theorem yV {t b:Addr}{vs ws:List Value}{Q:Value->Shared->Prop}(ht:IsTup s.heap t vs.toArray) (hb:IsTup s.heap b ws.toArray) (hv:vs≠[])
  (h1:ws=[]->Q (.ref t) s) (h2:ws≠[]->Q (.ref s.heap.objs.size) { s with heap:=s.heap.push { cls:=.type "tuple",data:=.seq (vs++ws).toArray } })
  (hsz:vs.length+ws.length<=sizeLine):wpAny (model prog w) A (binaryOp .Add (.ref t) (.ref b)) Q E s:=by
 obtain⟨⟨cls,dd,data,sl⟩,ho,hc,n,hd⟩:=id ht;obtain⟨⟨cls2,dd2,data2,sl2⟩,ho2,hc2,n2,hd2⟩:=id hb;simp only at hc hd hc2 hd2;subst hc hd hc2 hd2;have e:vs.toArray++ws.toArray=(vs++ws).toArray:=by simp
 by_cases hw:ws=[]
 ·exact concat_meets ⟨_,ho,rfl⟩ ⟨_,ho2,rfl⟩ noFill_tuple_add seq_tuple_add NT NP (NJ _ _)
   (tuple_addW1 t b vs.toArray ws.toArray n n2 dd dd2 sl sl2 (by simpa using hv) (by simp[hw])) ⟨ho,ho2,h1 hw⟩
 ·refine concat_meets ⟨_,ho,rfl⟩ ⟨_,ho2,rfl⟩ noFill_tuple_add seq_tuple_add NT NP (NJ _ _)
   (tuple_addW2 t b vs.toArray ws.toArray n n2 dd dd2 sl sl2 (by simpa using hv) (by simpa using hw) (by rw[Pf,Pf];exact hsz)) ⟨ho,ho2,?_⟩
  rw[e];exact h2 hw
end
end HT
namespace L2
open PySem PySem.Spec PyProof.Rows
section
variable {X:Cx}{e:Expr}{te:TE}{lo hi:Option Expr}{tl th:TO}{pos p2:Pos}
def xV (K:PySem.W.Frag):R2:=λx y H Q=>∃a b xs ys,x=.ref a/\y=.ref b/\SqT K H a xs/\SqT K H b ys/\xs≠[]/\xs.length+ys.length<=sizeLine/\
 (ys=[]->Q (.ref a) H)/\(ys≠[]->∀p,H p=none->Q (.ref p) (upd H p (.tup (xs++ys))))
theorem Vals.nil_iff {xs:List V}{us:List Value}(r:Vals xs us):us=[]↔xs=[]:=by
 cases r with
 |nil=>simp
 |cons _ _=>simp
theorem xm:OpR X (binaryOp .Add) (xV X.K):=by
 intro pq s σ H x y v u Q I rx ry h;obtain⟨a,b,xs,ys,rfl,rfl,ha,hb,hx,hz,q1,q2⟩:=h;cases rx;cases ry;obtain⟨its,r1,p1,_⟩:=I.tuple ha;obtain⟨its2,r2,p2,_⟩:=I.tuple hb;refine HT.yV p1 p2 (λz=>hx (r1.nil_iff.mp z)) (λz=>⟨.ref a,H,I,rfl,q1 (r2.nil_iff.mp z)⟩) (λz=>?_) (by rw[<-r1.length,<-r2.length];exact hz)
 refine⟨.ref s.heap.objs.size,_,I.laid (t':=s.toks) (o:=.tup (xs++ys)) (λb ob q=>Pe _ q) (Po _) ?_,rfl,q2 (λw=>z (r2.nil_iff.mpr w)) _ (I.hok.fresh (Po _))⟩
 exact⟨by rw[PK];exact hz,_,r1.append r2,IsTup.new _ _⟩
end
noncomputable def ixN (n:Nat) (i:Int):Option Nat:=if 0<=i then (if i<n then some i.toNat else none) else if -(n:Int)<=i then some (i+n).toNat else none
noncomputable def atI {α:Type} (xs:List α) (i:Int):Option α:=(ixN xs.length i).bind λj=>xs[j]?
theorem JD {n:Nat}{i:Int}{j:Nat}(h:ixN n i=some j):seqIndex? i n=some j/\j<n/\-(n:Int)<=i/\i<n:=by
 unfold ixN at h;by_cases h0:0<=i
 ·rw[Pj h0] at h
  by_cases h1:i<n
  ·rw[Pj h1] at h
   have e:i.toNat=j:=Pa h;exact⟨by rw[seqIndex_of h0 h1,e],by omega,by omega,h1⟩
  ·rw[Pm h1] at h;cases h
 ·rw[Pm h0] at h
  by_cases h1:-(n:Int)<=i
  ·rw[Pj h1] at h
   have e:(i+n).toNat=j:=Pa h;exact⟨by rw[seqIndex_neg (by omega) h1,e],by omega,h1,by omega⟩
  ·rw[Pm h1] at h;cases h
theorem Jb {α:Type}{xs:List α}{i:Int}{v:α}(h:atI xs i=some v):∃j,seqIndex? i xs.length=some j/\xs[j]? = some v/\j<xs.length/\-(xs.length:Int)<=i/\i<xs.length:=by
 unfold atI at h;cases e:ixN xs.length i with
 |none=>rw[e] at h;cases h
 |some j=>
  rw[e] at h;obtain⟨h1,h2,h3,h4⟩:=JD e;exact⟨j,h1,h,h2,h3,h4⟩
def Jh (b:Expr):Prop:=∀o i,subscripted b false o i=operate [o,i] (getItem o i)
def IxR (X:Cx) (r:R2):Prop:=
 ∀(value slice:Expr) (pq:List (Addr×Obj)) (s:Shared) (σ:St) (H:Hp) (x y:V) (v u:Value) (Q:VK),Inv X pq σ H s->Zs x v->Zs y u->r x y H Q->
  subscripted slice false v u=operate [v,u] (getItem v u)->wpAny (model X.prog X.w) X.A (subscriptTail value slice v u) (EP X pq σ Q) X.xe s
def MtR (X:Cx) (id:String) (r:V->List V->Hp->VK->Prop):Prop:=
 ∀(pq:List (Addr×Obj)) (s:Shared) (σ:St) (H:Hp) (x:V) (xs:List V) (v:Value) (us:List Value) (Q:VK),Inv X pq σ H s->Zs x v->Vals xs us->r x xs H Q->
  wpAny (model X.prog X.w) X.A (call (.builtin id) (v::us)) (EP X pq σ Q) X.xe s
section
variable {X:Cx}{a b:Expr}{ta tb:TE}{pos:Pos}
theorem IxR.or {r r':R2}(h:IxR X r) (h':IxR X r'):IxR X (λx y H Q=>r x y H Q\/r' x y H Q):=by
 intro value slice pq s σ H x y v u Q I rx ry q hs;rcases q with q | q
 ·exact h value slice pq s σ H x y v u Q I rx ry q hs
 ·exact h' value slice pq s σ H x y v u Q I rx ry q hs
theorem uJ {r:R2}(hr:IxR X r) (ha:PE X a ta) (hb:PE X b tb) (hs:Jh b):PE X (.Subscript a b pos) (tOp r ta tb):=by
 intro pq s σ H Q I h;exact Subscript_ (wq ha hb I h λv u s2 x y H2 I2 rx ry q=>hr a b pq s2 σ H2 x y v u Q I2 rx ry q (hs _ _))
def uW (K:PySem.W.Frag):R2:=λx y H Q=>∃p xs i v,x=.ref p/\y=.int i/\SqL K H p xs/\atI xs i=some v/\Q v H
def qg (K:PySem.W.Frag):R2:=λx y H Q=>∃p xs i v,x=.ref p/\y=.int i/\SqT K H p xs/\atI xs i=some v/\Q v H
theorem yQ:IxR X (uW X.K):=by
 intro value slice pq s σ H x y v u Q I rx ry h hs;obtain⟨p,xs,i,z,rfl,rfl,hq,he,q⟩:=h;cases rx;obtain⟨t,rfl⟩:=ry;obtain⟨its,r,pl,hz⟩:=I.list hq;obtain⟨j,h1,h2,h3,h4,h5⟩:=Jb he;obtain⟨w,ew,rw'⟩:=r.get h2;have hl:=r.length;have hn:=Wv;have fin:EP X pq σ Q w s:=⟨z,H,I,rw',q⟩;by_cases h0:0<=i
 ·have hj:i.toNat=j:=by
   rw[seqIndex_of h0 h5] at h1;exact Pa h1
  exact item_listR pl.isList h0 (by omega) (by rw[hj];simpa using ew) fin hs
 ·have hj:(i+(its.toArray.size:Int)).toNat=j:=by
   rw[seqIndex_neg (by omega) h4] at h1
   rw[Pf,<-hl];exact Pa h1
  exact subscriptTail_builtinR (x:=w) pl.isList.typeIs slot_list_getitem.lookup
   (wpAny_getItem_list_neg (Q:=λr s'=>r=w/\EP X pq σ Q r s') pl.isList (by omega) (by rw[Pf] <;> omega) (by omega) (by rw[hj];simpa using ew) ⟨rfl,fin⟩) hs
theorem wN:IxR X (qg X.K):=by
 intro value slice pq s σ H x y v u Q I rx ry h hs;obtain⟨p,xs,i,z,rfl,rfl,hq,he,q⟩:=h;cases rx;obtain⟨t,rfl⟩:=ry;obtain⟨its,r,pl,hz⟩:=I.tuple hq;obtain⟨j,h1,h2,h3,h4,h5⟩:=Jb he;obtain⟨w,ew,rw'⟩:=r.get h2;have hl:=r.length;have hn:=Wv;have fin:EP X pq σ Q w s:=⟨z,H,I,rw',q⟩;exact subscriptTail_builtinR (x:=w) pl.typeIs slot_tuple_getitem.lookup
  (getItem_tuple (j:=j) (Q:=λr s'=>r=w/\EP X pq σ Q r s') pl (by omega) (by omega) (by rw[Pf,<-hl];exact h1) (by simpa using ew) ⟨rfl,fin⟩) hs
theorem Qg (its:List Value) (n j:Nat) (u:Value):Obj.mapSeq (·.setIfInBounds j u) { cls:=.type "list",data:=.seq its.toArray n }={ cls:=.type "list",data:=.seq (its.set j u).toArray n }:=by
 simp[Obj.mapSeq]
theorem Inv.lst {pq:List (Addr×Obj)}{σ:St}{H:Hp}{s:Shared}{p:Addr}{xs:List V}(I:Inv X pq σ H s) (h:H p=some (.lst xs)) :
  ∃(its:List Value) (n:Nat),Vals xs its/\s.heap.get? p=some { cls:=.type "list",data:=.seq its.toArray n }/\xs.length<=sizeLine:=by
 obtain⟨z,its,n,r,e⟩:=I.hok p _ h;exact⟨its,n,r,e,z⟩
theorem Inv.lstUpd {pq:List (Addr×Obj)}{σ:St}{H:Hp}{s:Shared}{p:Addr}{xs ys:List V}{its its':List Value}{n n':Nat}{f:Obj->Obj}(I:Inv X pq σ H s) (h:H p=some (.lst xs))
  (ho:s.heap.get? p=some { cls:=.type "list",data:=.seq its.toArray n }) (hf:f { cls:=.type "list",data:=.seq its.toArray n }={ cls:=.type "list",data:=.seq its'.toArray n' }) (r:Vals ys its') (hz:ys.length<=sizeLine) (t:Nat) :
  Inv X pq σ (upd H p (.lst ys)) { s with heap:=s.heap.update p f,toks:=t }:=by
 have e:(s.heap.update p f).get? p=some { cls:=.type "list",data:=.seq its'.toArray n' }:=by
  rw[Heap.get?_update_self f ho (by rw[hf] <;> rfl),hf]
 refine I.write (x:=p) (e:=p) (by rw[h];trivial) (.inl rfl) (λb u hb q=>(Heap.get?_update_other _ _ (Ne.symm hb)).trans q) ⟨_,e⟩ ?_
 exact⟨hz,its',n',r,e⟩
noncomputable def uH:V->V->V->Hp->(Hp->Prop)->Prop:=λo i v H Q=>∃p xs k j,o=.ref p/\i=.int k/\H p=some (.lst xs)/\ixN xs.length k=some j/\Q (upd H p (.lst (xs.set j v)))
theorem zX:PSet X uH:=by
 intro pq s σ H o i v ov iv u Q I ro ri rv h;obtain⟨p,xs,k,j,rfl,rfl,hp,hj,q⟩:=h;cases ro;obtain⟨t,rfl⟩:=ri;obtain⟨its,n,r,ho,hz⟩:=I.lst hp;obtain⟨h1,h2,h3,h4⟩:=JD hj;have hl:=r.length;have hn:=Wv;have I':Inv X pq σ (upd H p (.lst (xs.set j v))) { s with heap:=s.heap.update p (Obj.mapSeq (·.setIfInBounds j u)) }:=
  I.lstUpd hp ho (Qg its n j u) (r.set rv j) (by rw[Pz];exact hz) s.toks
 by_cases h0:0<=k
 ·have hk:k.toNat=j:=by
   rw[seqIndex_of h0 h4] at h1;exact Pa h1
  exact PySem.W.ki_setAt ho h0 (by omega) (by rw[Pf,<-hl];exact h4) (by rw[hk];exact⟨_,I',q⟩)
 ·have hk:(k+(its.toArray.size:Int)).toNat=j:=by
   rw[seqIndex_neg (by omega) h3] at h1
   rw[Pf,<-hl];exact Pa h1
  exact PySem.W.ki_setBack ho (by omega) (by rw[Pf,<-hl];exact h3) (by omega) (by rw[hk];exact⟨_,I',q⟩)
noncomputable def QT:V->Bool
 |.non=>true
 |.bl _=>true
 |.int _=>true
 |.str _=>true
 |_=>false
noncomputable def eqV:V->V->Bool
 |.non,.non=>true
 |.bl a,.bl b=>a == b
 |.bl a,.int b=>(if a then 1 else 0) == b
 |.int a,.bl b=>a == (if b then 1 else 0)
 |.int a,.int b=>a == b
 |.str a,.str b=>a == b
 |_,_=>false
theorem wT {A:Around}{s:Shared}{y x:V}{u v:Value}(ry:Zs y u) (rx:Zs x v) (fy:QT y=true) (fx:QT x=true):SeqAt.EqAt A s u v (eqV y x):=by
 cases y with
 |non=>
  cases ry;cases x with
  |non=>cases rx;exact N3 _
  |bl b=>cases rx;exact SeqAt.EqAt.none_bool b
  |int b=>obtain⟨t,rfl⟩:=rx;exact SeqAt.EqAt.none_int b t
  |str b=>obtain⟨t,rfl⟩:=rx;exact SeqAt.EqAt.none_str b t
  |_=>exact absurd (show false=true from fx) Pi
 |bl a=>
  cases ry;cases x with
  |non=>cases rx;exact SeqAt.EqAt.bool_none a
  |bl b=>cases rx;exact SeqAt.EqAt.bool_bool a b
  |int b=>obtain⟨t,rfl⟩:=rx;exact SeqAt.EqAt.bool_int a b t
  |str b=>obtain⟨t,rfl⟩:=rx;exact SeqAt.EqAt.bool_str a b t
  |_=>exact absurd (show false=true from fx) Pi
 |int a=>
  obtain⟨t',rfl⟩:=ry;cases x with
  |non=>cases rx;exact SeqAt.EqAt.int_none a t'
  |bl b=>cases rx;exact SeqAt.EqAt.int_bool a t' b
  |int b=>obtain⟨t,rfl⟩:=rx;exact SeqAt.EqAt.int_int a t' b t
  |str b=>obtain⟨t,rfl⟩:=rx;exact SeqAt.EqAt.int_str a t' b t
  |_=>exact absurd (show false=true from fx) Pi
 |str a=>
  obtain⟨t',rfl⟩:=ry;cases x with
  |non=>cases rx;exact SeqAt.EqAt.str_none a t'
  |bl b=>cases rx;exact SeqAt.EqAt.str_bool a t' b
  |int b=>obtain⟨t,rfl⟩:=rx;exact SeqAt.EqAt.str_int a t' b t
  |str b=>obtain⟨t,rfl⟩:=rx;exact SeqAt.EqAt.str_str a t' b t
  |_=>exact absurd (show false=true from fx) Pi
 |_=>exact absurd (show false=true from fy) Pi
theorem VI:ZL X (.builtin "len") (λxs H Q=>∃p ys,xs=[.ref p]/\(SqL X.K H p ys\/SqT X.K H p ys)/\Q (.int ys.length) H):=by
 intro pq s σ H xs us Q I r h;obtain⟨p,ys,rfl,hq,q⟩:=h;obtain⟨u,rfl,rx⟩:=UD r;cases rx;have hn:=Wv;rcases hq with hq | hq
 ·obtain⟨its,r',pl,hz⟩:=I.list hq
  have hlen:=r'.length;exact Calls.call_len_list pl.isList (by simp only[Pf] <;> omega) ⟨.int ys.length,H,I.tok _,⟨s.toks+1,by rw[Pf,hlen]⟩,q⟩
 ·obtain⟨its,r',pl,hz⟩:=I.tuple hq
  have hlen:=r'.length;exact len_tuple pl (by simp only[Pf] <;> omega) ⟨.int ys.length,H,I.tok _,⟨s.toks+1,by rw[Pf,hlen]⟩,q⟩
def tyV (K:PySem.W.Frag) (T:String) (x:V) (H:Hp):Prop:=match x with
 |.str _=>T = "str"
 |.int _=>T = "int"
 |.ref p=>(T = "list"/\∃xs,SqL K H p xs)\/(T = "tuple"/\∃o,K.lookup p=some o/\o.cls=.type "tuple"/\o.dict=none)\/
   (T = "dict"/\((∃kvs,H p=some (.dK kvs))\/∃kvs,H p=some (.dT kvs)))\/(T = "set"/\∃S n,H p=some (.set S n))
 |_=>False
theorem wu {pq:List (Addr×Obj)}{σ:St}{H:Hp}{s:Shared}{T:String}{x:V}{v:Value}(I:Inv X pq σ H s) (r:Zs x v) (ty:tyV X.K T x H) :
  s.TypeIs v T/\∀a,v=.ref a->∃ob,s.heap.get? a=some ob/\ob.dict=none:=by
 cases x with
 |str z=>
  obtain⟨t,rfl⟩:=r;cases (show T = "str" from ty)
  exact⟨typeIs_str s z t,λ_ e=>nomatch e⟩
 |int i=>
  obtain⟨t,rfl⟩:=r;cases (show T = "int" from ty)
  exact⟨typeIs_int s i t,λ_ e=>nomatch e⟩
 |ref p=>
  cases r;rcases ty with ⟨rfl,xs,hq⟩ | ⟨rfl,o,hk,hc,hd⟩ | ⟨rfl,hk⟩ | ⟨rfl,S,n,hk⟩
  ·obtain⟨its,_,pl,_⟩:=I.list hq
   refine⟨pl.isList.typeIs,λa e=>?_⟩
   cases e;obtain⟨o,n,e,c,hd,_⟩:=pl;exact⟨o,e,hd⟩
  ·refine⟨⟨o,I.kIn p o hk,hc⟩,λa e=>?_⟩
   cases e;exact⟨o,I.kIn _ o hk,hd⟩
  ·have z:∃o,s.heap.get? p=some o/\o.ExactDict:=by
    rcases hk with ⟨kvs,hk⟩ | ⟨kvs,hk⟩
    ·obtain⟨_,_,_,_,o,_,_,e,ex,_⟩:=I.hok p _ hk
     exact⟨o,e,ex⟩
    ·obtain⟨_,_,_,_,o,_,_,e,ex,_⟩:=I.hok p _ hk
     exact⟨o,e,ex⟩
   obtain⟨o,e,ex⟩:=z;refine⟨⟨o,e,ex.1⟩,λa e2=>?_⟩
   cases e2;exact⟨o,e,ex.2.1⟩
  ·obtain⟨o,_,_,_,e,ex,_⟩:=I.hok p _ hk
   refine⟨⟨o,e,ex.1⟩,λa e2=>?_⟩
   cases e2;exact⟨o,e,ex.2.1⟩
 |_=>exact False.elim ty
def tBM (K:PySem.W.Frag) (T:String) (r:V->List V->Hp->VK->Prop) (to:TE) (t:TA):TE:=λσ H Q=>to σ H λx H1=>tyV K T x H1/\t σ H1 λxs H2=>r x xs H2 Q
variable {o e:Expr}{es:List Expr}{to:TE}{t:TA}{name:Str}{apos cpos:Pos}{T id:String}{r:V->List V->Hp->VK->Prop}
theorem zV (pa:PlainAttrs T) (slot:Slot T name id) (hty:typeOf (.builtin id)=pure (.type "method_descriptor")) (hm:MtR X id r) (ho:PE X o to) (ha:PA X (e::es) t)
  (hbase:attributeBase o name X.env (eval o X.env)=eval o X.env:=by rfl)
  (hfew:((backTo cpos (starEach (e::es) X.env)).all (λx=>!x.1)&&(backToKw cpos (keywordEach [] X.env)).all (λx=>x.1.isSome)
   && decide ((e::es).length+([]:List Keyword).length+(if ([]:List Keyword).isEmpty then 0 else 1)<30))=true:=by rfl)
  (hline:(apos.endLine == cpos.line)=true:=by rfl) (hs:starEach (e::es) X.env=(false,eval e X.env)::starEach es X.env:=by rfl) (hplain:(backTo cpos (starEach es X.env)).any (·.1)=false:=by rfl) :
  PE X (.Call (.Attribute o name apos) (e::es) [] cpos) (tBM X.K T r to t):=by
 intro pq s σ H Q I h;refine wpAny_Call_method_late hbase hfew hline rfl (thn (ho pq s σ H _ I h) λv s1 ⟨x,H1,I1,r1,ty,q1⟩=>?_)
 obtain⟨h1,h2⟩:=wu I1 r1 ty;refine⟨T,id,pa,slot,hty,h1,h2,?_⟩;have hA:=ha cpos pq s1 σ H1 _ I1 q1;rw[hs] at hA ⊢;refine Calls.callWith_builtin (by show (false||(backTo cpos (starEach es X.env)).any (·.1))=false;rw[hplain] <;> rfl) (Calls.evalArgs_plain ?_)
 exact thn hA λus s2 ⟨vs,H2,I2,r2,q2⟩=>hm pq s2 σ H2 x vs v us Q I2 r1 r2 q2
end
def MtM (X:Cx) (id:String) (r:V->List V->Hp->VK->Prop):Prop:=
 ∀(pq:List (Addr×Obj)) (s:Shared) (σ:St) (H:Hp) (x:V) (xs:List V) (v:Value) (us:List Value) (Q:VK),Inv X pq σ H s->Zs x v->Vals xs us->r x xs H Q->
  wpAny (model X.prog X.w) X.A (call (.builtin id) (v::us)) (EP X pq σ Q) X.xe s
theorem Vals.one:∀{x:V}{us:List Value},Vals [x] us->∃u,us=[u]/\Zs x u
 |_,_,.cons r .nil=>⟨_,rfl,r⟩
theorem Vals.rep {xs:List V}{us:List Value}(h:Vals xs us):∀k:Nat,Vals (List.replicate k xs).flatten (List.replicate k us).flatten
 |0=>.nil
 |k+1=>by
  rw[PO,PO,P0,P0];exact Vals.append h (Vals.rep h k)
theorem XT (its:List Value):∀(k:Nat) (acc:List Value),
  List.foldl (λx1 x2=>x1++x2) acc.toArray (List.replicate k its.toArray)=(acc++(List.replicate k its).flatten).toArray
 |0,acc=>by simp
 |k+1,acc=>by
  have e:acc.toArray++its.toArray=(acc++its).toArray:=by simp
  have e2:(acc++its)++(List.replicate k its).flatten=acc++(List.replicate (k+1) its).flatten:=by
   rw[PO,P0,List.append_assoc]
  rw[<-e2,<-XT its k (acc++its),<-e,PO,List.foldl_cons]
section
variable {X:Cx}{pq:List (Addr×Obj)}{σ:St}{H:Hp}{s:Shared}{l b:Addr}{xs ys zs:List V}
theorem Inv.lset {its its':List Value}{n:Nat}{f:Array Value->Array Value}{t':Nat}(I:Inv X pq σ H s) (hH:H l=some (.lst xs))
  (e:s.heap.get? l=some { cls:=.type "list",data:=.seq its.toArray n }) (hf:f its.toArray=its'.toArray) (hv:Vals ys its') (hz:ys.length<=sizeLine) :
  Inv X pq σ (upd H l (.lst ys)) { s with heap:=s.heap.update l (Obj.mapSeq f),toks:=t' }:=by
 have q:=PySem.IsL.update e f;rw[hf] at q;refine I.write (x:=l) (e:=l) (by rw[hH];exact trivial) (.inl rfl) (λb' u hb hu=>(Heap.get?_update_other s.heap (Obj.mapSeq f) (Ne.symm hb)).trans hu) ⟨_,q⟩ ?_
 exact⟨hz,its',_,hv,q⟩
theorem Inv.lnew {its:List Value}{t':Nat}(I:Inv X pq σ H s) (hv:Vals ys its) (hz:ys.length<=sizeLine) :
  Inv X pq σ (upd H s.heap.objs.size (.lst ys)) { s with heap:=s.heap.push { cls:=.type "list",data:=.seq its.toArray },toks:=t' }:=
 I.laid (λ_ _ q=>Pe _ q) (Po _) ⟨hz,its,0,hv,Ps _ rfl⟩
theorem Inv.fresh (I:Inv X pq σ H s):H s.heap.objs.size=none:=I.hok.fresh (Po _)
theorem Inv.lstM (I:Inv X pq σ H s) (hH:H l=some (.lst xs)):xs.length<=sizeLine/\∃(its:List Value) (n:Nat),Vals xs its/\xs.length=its.length/\s.heap.get? l=some { cls:=.type "list",data:=.seq its.toArray n }:=by
 obtain⟨z,its,n,r,e⟩:=I.hok l _ hH;exact⟨z,its,n,r,r.length,e⟩
theorem uy {n:Nat}(h:n<=sizeLine):Builtin.List.listTooLong n=false:=by
 unfold Builtin.List.listTooLong;exact P2 (by omega)
end
section
variable {X:Cx}
noncomputable def Jv:V->List V->Hp->VK->Prop:=λx vs H Q=>∃l xs y,x=.ref l/\vs=[y]/\H l=some (.lst xs)/\xs.length<sizeLine/\Q .non (upd H l (.lst (xs++[y])))
theorem XR:MtM X "list.append" Jv:=by
 intro pq s σ H x vs v us Q I rx rv h;obtain⟨l,xs,y,rfl,rfl,hH,hz,q⟩:=h;cases rx;obtain⟨u,rfl,ru⟩:=rv.one;obtain⟨z,its,n,r,hl,e⟩:=I.lstM hH;refine NM F.slot_list_append ⟨_,e,rfl⟩ F.entry_list_append (F.args_list_append_2 _ _) (PySem.list_append l its.toArray n u (by rw[Pf];omega)) ⟨e,?_⟩
 refine⟨.non,_,I.lset (its':=its++[u]) hH e (by simp) (r.append (.cons ru .nil)) ?_,rfl,q⟩
 rw[PK,Nq];omega
noncomputable def uO:V->List V->Hp->VK->Prop:=λx vs H Q=>∃l b xs zs,x=.ref l/\vs=[.ref b]/\H l=some (.lst xs)/\H b=some (.lst zs)/\xs.length+zs.length<=sizeLine/\Q .non (upd H l (.lst (xs++zs)))
def xa:R2:=λx y H Q=>∃l b xs zs,x=.ref l/\y=.ref b/\H l=some (.lst xs)/\H b=some (.lst zs)/\xs.length+zs.length<=sizeLine/\∀p,H p=none->Q (.ref p) (upd H p (.lst (xs++zs)))
theorem Qu:OpR X (binaryOp .Add) xa:=by
 intro pq s σ H x y v u Q I rx ry h;obtain⟨l,b,xs,zs,rfl,rfl,hH,hB,hz,q⟩:=h;cases rx;cases ry;obtain⟨z,its,n,r,hl,e⟩:=I.lstM hH;obtain⟨z2,its2,n2,r2,hl2,e2⟩:=I.lstM hB;refine PySem.P.add_list e e2 ?_ (by rw[Pf,Pf];omega)
 have ea:its.toArray++its2.toArray=(its++its2).toArray:=by simp
 rw[ea];exact⟨.ref _,_,I.lnew (t':=s.toks) (r.append r2) (by rw[PK];omega),rfl,q _ I.fresh⟩
theorem V9 {α:Type}(xs:List α) (k:Nat):(List.replicate k xs).flatten.length=k*xs.length:=by
 induction k with
 |zero=>simp
 |succ k ih=>rw[PO,P0,PK,ih,Nat.succ_mul,Nat.add_comm]
end
end L2
namespace Att
open PySem PySem.W PySem.Calls PyProof.Rows
theorem X9 {P:Params}{h:Heap}:∀(ns:List Int) (vs:List Value),WellAll P h vs (ns.map WData.int)->IntsAre vs ns:=by
 intro ns
 induction ns with
 |nil=>
  intro vs w;rw[Ka] at w;cases w;exact .nil
 |cons n ns ih=>
  intro vs w;rw[P1] at w;cases w with
  |cons a b=>
   cases a;exact .cons _ _ (ih _ b)
theorem Gk {l:OpenLaw}{n:Nat}(hn:l.most=some n) {P:Params}{h:Heap}{args:List WData}{vals:List Value}
  (hpre:l.row.toRowW.claim.pre args=true) (hwl:WellAll P h vals args) :
  ∃a vs ns,vals=[Value.ref a]/\args=[WData.list (ns.map WData.int)]/\h.get? a=some { cls:=.type "list",data:=.seq vs.toArray }/\IntsAre vs ns/\ns.length<=n:=by
 have hsh:WShape.hasAll [] args [.list .int]=true:=(pre_splitW hpre).1;have hc:l.pre.holds [] { args:=args }=true:=(pre_splitW hpre).2;obtain⟨d,r,rfl,h1,h2⟩:=hasAllW_cons hsh;obtain rfl:=hasAllW_nil h2;obtain⟨xs,rfl,h3⟩:=hasW_list h1;obtain⟨ns,rfl⟩:=items_int h3;have hlen:ns.length<=n:=by
  unfold OpenLaw.pre at hc;have h4:(WTm.not (.lt (.lit (.int (n:Int))) (.len (.arg 0)))).holds [] { args:=[.list (ns.map .int)] }=true:=by
   have h4:=(holds_andW hc).1;rw[hn] at h4;exact h4
  have h5:=condW_of h4 (w_not (w_lt w_lit (w_len_list (w_arg rfl))));rw[PV] at h5;refine Nat.le_of_not_lt λq=>?_
  have q':(n:Int)<((ns.length:Nat):Int):=by omega
  first
   |(rw[PB q'] at h5;exact absurd h5 (by decide))
   |(simp at h5;omega)
 cases hwl with
 |cons w1 w2=>
  cases w2;cases w1 with
  |list ho hall=>exact⟨_,_,ns,rfl,rfl,ho,X9 ns _ hall,hlen⟩
theorem Gi (l:OpenLaw) (args:List WData):l.row.toRowW.claim.post args (.bool true) args=true:=
 postW_of (r:=l.row.toRowW) (X:=(true == true))
  (show WShape.has [] (.bool true) .bool=true by first | rfl | decide | simp[WShape.has,WShape.arms,WShape.armsAll])
  (show (WTm.eq .res (.lit (.bool true))).value [] { args:=args,res:=some (.bool true),after:=args }=some (.bool (true == true)) from w_eq_bool (w_res rfl) w_lit) rfl
theorem Uk {l:OpenLaw}{n:Nat}{q:Program}{loose:List Str}{XP:(Str->Option Value)->Heap->Prop}{YP:World->Heap->Prop}{d:DefRec}
  (hn:l.most=some n) (hdf:d.params.defaults=[])
  (call:∀(w:World) (s₀ s₁:Shared) (mg mb:Str->Option Value) (fa:Addr) (o:Obj) (pm cd doc:Value) (a:Addr) (vs:List Value) (ns:List Int),
   Ground q loose [] XP w s₀ mg mb s₁.heap->YP w s₁.heap->
   s₁.heap.get? fa=some o->o.data=.func (docDef d.name d.params d.body d.scope pm cd doc)->s₁.heap.CodeRec cd d.name->mg d.name=some (.ref fa)->
   s₁.heap.get? a=some { cls:=.type "list",data:=.seq vs.toArray }->IntsAre vs ns->ns.length<=n->s₁.gens = #[]->
   codeAny (model l.prog w) callerA (.call (.ref fa) ⟨[.ref a],[]⟩) (λr s'=>r=.ok (.ret (.bool true))/\OldK s₁.heap s'.heap/\s'.os=s₁.os/\AllBare s'.gens) s₁) :
  WalkO q loose XP YP l.row.toRowW d [] (λf vs=>PySem.call f vs):=by
 intro w s₀ s₁ mg mb G Y fa o pm cd doc dV kV ho hd hcd hD hmg hg args vals as hpre hlay hrd hwl hlo;obtain rfl:dV=.none:=Dflts.none hD hdf;obtain rfl:kV=.none:=Dflts.noKw hD;obtain⟨a,vs,ns,rfl,rfl,hobj,hints,hlen⟩:=Gk hn hpre hwl;refine enter_call (codeAny_mono (call w s₀ s₁ mg mb fa o pm cd doc a vs ns G Y ho (fd_plain hd) hcd hmg hobj hints hlen hg) λr s' hq=>?_)
 obtain⟨rfl,h2,h3,h4⟩:=hq;exact⟨.inl ⟨.bool true,.bool true,[],rfl,λ_=>rfl,.bool true,Gi l _,λ_=>⟨List.Pairwise.nil,λ_ hm=>(nomatch hm)⟩⟩,h2,h3,h4⟩
end Att
namespace L2
open PySem PySem.Spec PyProof.Rows
theorem Vg:∀{vs:List Value}{ns:List Int},IntsAre vs ns->Vals (ns.map V.int) vs
 |_,_,.nil=>.nil
 |_,_,.cons n t h=>.cons ⟨t,rfl⟩ (Vg h)
noncomputable def Yw (s:Stmt):Arguments:=match s with
 |.FunctionDef _ a _ _ _ _ _ _ _ _=>a
 |_=>{ posonlyargs:=[],args:=[],vararg:=none,kwonlyargs:=[],kw_defaults:=[],kwarg:=none,defaults:=[] }
noncomputable def Zj (s:Stmt):List Stmt:=match s with
 |.FunctionDef _ _ b _ _ _ _ _ _ _=>b
 |_=>[]
noncomputable def Zb (s:Stmt):Scope:=match s with
 |.FunctionDef _ _ _ _ _ _ sc _ _ _=>sc
 |_=>{ kind:=.function,names:=[],isGenerator:=false,isCoroutine:=false }
noncomputable abbrev E0:XK:=λ_ _ _=>False
structure Fun (K:PySem.W.Frag) (x qual:Str) (st:Stmt) (f:Addr) (fd:FuncData):Prop where
 ex:∃(oc:Value) (od:Option Addr) (kV doc pm:Value) (an:Option Addr) (cdv ct:Value) (osl:Array (Option Value)),
  fd=PySem.W.fnOf x qual (Yw st) (Zj st) (Zb st) .none kV doc pm an cdv ct/\K.lookup f=some ⟨oc,od,.func fd,osl⟩/\PySem.W.codeIn K cdv qual=true
 kp:PySem.W.keepIn K (.ref f)=true
section
variable {P:Program}{w:World}{K:PySem.W.Frag}{mg:Str->Option Value}{base:Heap}
theorem Fun.binds {x qual:Str}{st:Stmt}{f:Addr}{fd:FuncData}{ps:List Str}(F:Fun K x qual st f fd)
  (h:∀(kV doc pm:Value) (an:Option Addr) (cdv ct:Value) (us:List Value),us.length=ps.length->bindArgs (PySem.W.fnOf x qual (Yw st) (Zj st) (Zb st) .none kV doc pm an cdv ct) ⟨us,[]⟩=pure (ps.zip us)):X6 K fd ps []:=by
 obtain⟨oc,od,kV,doc,pm,an,cdv,ct,osl,rfl,lk,hcd⟩:=F.ex;exact .all (h kV doc pm an cdv ct)
theorem vx {x qual:Str}{st:Stmt}{f:Addr}{oc:Value}{od an:Option Addr}{osl:Array (Option Value)}{kV doc pm cdv ct:Value}(l:K.lookup f=some ⟨oc,od,.func (PySem.W.fnOf x qual (Yw st) (Zj st) (Zb st) .none kV doc pm an cdv ct),osl⟩)
  (c:PySem.W.codeIn K cdv qual=true) (k:PySem.W.keepIn K (.ref f)=true):Fun K x qual st f (PySem.W.fnOf x qual (Yw st) (Zj st) (Zb st) .none kV doc pm an cdv ct):=⟨⟨oc,od,kV,doc,pm,an,cdv,ct,osl,rfl,l,c⟩,k⟩
end
end L2
namespace Ev
open PySem (Str)
inductive D where
 |non | bl (b:Bool) | int (i:Int) | str (x:Str) | tup (xs:List D) | loc (n:Nat) | fn (f:Nat) | exc (c:Nat) (n:Nat)
 deriving Inhabited
mutual
def D.beq:D->D->Bool
 |.non,.non=>true
 |.bl a,.bl b=>decide (a=b)
 |.int a,.int b=>decide (a=b)
 |.str a,.str b=>decide (a=b)
 |.tup a,.tup b=>D.beqs a b
 |.loc a,.loc b=>decide (a=b)
 |.fn a,.fn b=>decide (a=b)
 |.exc a i,.exc b j=>decide (a=b)&&decide (i=j)
 |_,_=>false
def D.beqs:List D->List D->Bool
 |[],[]=>true
 |x::xs,y::ys=>D.beq x y&&D.beqs xs ys
 |_,_=>false
end
mutual
theorem D.eq_of_beq:∀{a b:D},D.beq a b=true->a=b
 |.non,.non,_=>rfl
 |.bl a,.bl b,h=>by unfold D.beq at h;rw[Py h]
 |.int a,.int b,h=>by unfold D.beq at h;rw[Py h]
 |.str a,.str b,h=>by unfold D.beq at h;rw[Py h]
 |.tup a,.tup b,h=>by unfold D.beq at h;rw[D.eq_of_beqs h]
 |.loc a,.loc b,h=>by unfold D.beq at h;rw[Py h]
 |.fn a,.fn b,h=>by unfold D.beq at h;rw[Py h]
 |.exc a i,.exc b j,h=>by
  unfold D.beq at h;have h1:=(Ph _ _).mp h;rw[Py h1.1,Py h1.2]
 |.non,.bl _,h | .non,.int _,h | .non,.str _,h | .non,.tup _,h | .non,.loc _,h | .non,.fn _,h | .non,.exc _ _,h=>by unfold D.beq at h;cases h
 |.bl _,.non,h | .bl _,.int _,h | .bl _,.str _,h | .bl _,.tup _,h | .bl _,.loc _,h | .bl _,.fn _,h | .bl _,.exc _ _,h=>by unfold D.beq at h;cases h
 |.int _,.non,h | .int _,.bl _,h | .int _,.str _,h | .int _,.tup _,h | .int _,.loc _,h | .int _,.fn _,h | .int _,.exc _ _,h=>by unfold D.beq at h;cases h
 |.str _,.non,h | .str _,.bl _,h | .str _,.int _,h | .str _,.tup _,h | .str _,.loc _,h | .str _,.fn _,h | .str _,.exc _ _,h=>by unfold D.beq at h;cases h
 |.tup _,.non,h | .tup _,.bl _,h | .tup _,.int _,h | .tup _,.str _,h | .tup _,.loc _,h | .tup _,.fn _,h | .tup _,.exc _ _,h=>by unfold D.beq at h;cases h
 |.loc _,.non,h | .loc _,.bl _,h | .loc _,.int _,h | .loc _,.str _,h | .loc _,.tup _,h | .loc _,.fn _,h | .loc _,.exc _ _,h=>by unfold D.beq at h;cases h
 |.fn _,.non,h | .fn _,.bl _,h | .fn _,.int _,h | .fn _,.str _,h | .fn _,.tup _,h | .fn _,.loc _,h | .fn _,.exc _ _,h=>by unfold D.beq at h;cases h
 |.exc _ _,.non,h | .exc _ _,.bl _,h | .exc _ _,.int _,h | .exc _ _,.str _,h | .exc _ _,.tup _,h | .exc _ _,.loc _,h | .exc _ _,.fn _,h=>by unfold D.beq at h;cases h
theorem D.eq_of_beqs:∀{a b:List D},D.beqs a b=true->a=b
 |[],[],_=>rfl
 |x::xs,y::ys,h=>by
  unfold D.beqs at h;have h1:=(Ph _ _).mp h;rw[D.eq_of_beq h1.1,D.eq_of_beqs h1.2]
 |[],_::_,h=>by unfold D.beqs at h;cases h
 |_::_,[],h=>by unfold D.beqs at h;cases h
end
mutual
theorem D.beq_self:∀a:D,D.beq a a=true
 |.non=>rfl
 |.bl a=>by unfold D.beq;exact PB rfl
 |.int a=>by unfold D.beq;exact PB rfl
 |.str a=>by unfold D.beq;exact PB rfl
 |.tup a=>by unfold D.beq;exact D.beqs_self a
 |.loc a=>by unfold D.beq;exact PB rfl
 |.fn a=>by unfold D.beq;exact PB rfl
 |.exc a i=>by unfold D.beq;rw[PB rfl,PB rfl];rfl
theorem D.beqs_self:∀a:List D,D.beqs a a=true
 |[]=>rfl
 |x::xs=>by unfold D.beqs;rw[D.beq_self x,D.beqs_self xs];rfl
end
instance:DecidableEq D:=λa b=>if h:D.beq a b=true then isTrue (D.eq_of_beq h) else isFalse λe=>h (by rw[e];exact D.beq_self b)
inductive Ob where
 |lst (xs:List D) | scr (ns:List Int) | dt (kvs:List (List Int×D)) | dk (kvs:List (Int×D)) | st (xs:List D)
 deriving DecidableEq
noncomputable abbrev Za:=List Ob
noncomputable abbrev Lc:=List (Option D)
inductive R (α:Type) where
 |ok (a:α) (S:Za) | ex (c:Nat) (S:Za) | no
noncomputable def R.bind {α β:Type} (r:R α) (f:α->Za->R β):R β:=match r with
 |.ok a S=>f a S
 |.ex c S=>.ex c S
 |.no=>.no
noncomputable def R.nox {α:Type} (r:R α):R α:=match r with
 |.ex _ _=>.no
 |r=>r
noncomputable def lim:Nat:=16777216
inductive Bop where | add | sub | mul | fdiv | mod | pow
 deriving DecidableEq
inductive Cop where | eq | ne | lt | le | gt | ge | is | isn | inn | nin
 deriving DecidableEq
inductive Ty where | int | bool | str | tuple | list | dict | cls (c:Nat)
 deriving DecidableEq
inductive Bf where | len | max2 | min2 | toInt | tuple | list | all | any | sum | sorted | sortedR | set | listD | sortedD | rangeT
 deriving DecidableEq
inductive Mf where | append | extend | index
 deriving DecidableEq
mutual
inductive E where
 |c (d:D) | v (i:Nat)
 |tup (es:List E) | lst (es:List E) | dnew
 |bin (op:Bop) (a b:E) | neg (a:E) | not (a:E) | and (a b:E) | or (a b:E) | ite (t a b:E)
 |cmp (op:Cop) (a b:E) | chain (o p:Cop) (a b d:E)
 |ix (a i:E) | sl (a:E) (lo hi:Option E) | rev (a:E)
 |call (f:Nat) (as:List E) | blt (f:Bf) (as:List E) | mt (m:Mf) (o:E) (as:List E)
 |isi (a:E) (ts:List Ty)
 |inT (a:E) (tab:List (Int×Int)) | getT (tab:List (Int×Int)) (a:E)
 |dput1 (k v:E)
 |comp1 (cap:List Nat) (nl:Nat) (t:List Nat) (it:W) (ifs:List E) (elt:E)
 |comp2 (cap:List Nat) (nl:Nat) (t:List Nat) (it:W) (ifs:List E) (u:List Nat) (jt:W) (jfs:List E) (elt:E)
 |fi (e:E)
 |refu (e:E)
inductive W where
 |of (e:E) | rng1 (a:E) | rng2 (a b:E) | zip (a b:E) | enum (a:E) | rrng (a b:E) | rtup (a:E)
end
inductive Sm where
 |asg (t:List Nat) (e:E) | par (t:List Nat) (es:List E) | aug (i:Nat) (op:Bop) (e:E) | put (o i e:E) | dput (o i e:E)
 |ret (e:E) | ex (e:E) | ite (t:E) (a b:List Sm) | forr (t:List Nat) (it:W) (b:List Sm) | whl (t:E) (b:List Sm)
 |raise (c:Nat) (as:List E) | pas | brk | cnt
noncomputable def ZP (S:Za) (n:Nat):Option (List D):=match S[n]? with
 |some (.lst xs)=>some xs
 |some (.scr ns)=>some (ns.map .int)
 |_=>none
noncomputable def Zc (S:Za) (n:Nat):Option (List D):=match S[n]? with
 |some (.lst xs)=>some xs
 |_=>none
noncomputable def ZN (S:Za):D->Option Bool
 |.non=>some false
 |.bl b=>some b
 |.int i=>some (decide (i≠0))
 |.tup xs=>some (!xs.isEmpty)
 |.loc n=>(ZP S n).map λxs=>!xs.isEmpty
 |_=>none
noncomputable def b2i (b:Bool):Int:=if b then 1 else 0
noncomputable def eqL (f:D->D->Option Bool):List D->List D->Option Bool
 |[],[]=>some true
 |x::xs,y::ys=>match f x y,eqL f xs ys with
  |some a,some b=>some (a&&b)
  |_,_=>none
 |_,_=>some false
noncomputable def eqD (S:Za):Nat->D->D->Option Bool
 |0,_,_=>none
 |k+1,x,y=>match x,y with
  |.non,.non=>some true
  |.bl a,.bl b=>some (decide (a=b))
  |.int a,.int b=>some (decide (a=b))
  |.bl a,.int b=>some (decide (b2i a=b))
  |.int a,.bl b=>some (decide (a=b2i b))
  |.str a,.str b=>some (decide (a=b))
  |.tup xs,.tup ys=>eqL (eqD S k) xs ys
  |.loc m,.loc n=>match Zc S m,Zc S n with
   |some xs,some ys=>if xs.length=ys.length then eqL (eqD S k) xs ys else some false
   |_,_=>none
  |.non,.bl _ | .non,.int _ | .non,.str _ | .bl _,.non | .int _,.non | .str _,.non=>some false
  |.bl _,.str _ | .int _,.str _ | .str _,.bl _ | .str _,.int _=>some false
  |_,_=>none
noncomputable def ZA:Nat:=6
noncomputable def inL (S:Za) (x:D):List D->Option Bool
 |[]=>some false
 |y::ys=>match eqD S ZA y x,inL S x ys with
  |some a,some b=>some (a||b)
  |_,_=>none
noncomputable def vV (S:Za) (x:D):List D->Nat->Option Nat
 |[],_=>none
 |y::ys,k=>match eqD S ZA y x with
  |some true=>some k
  |some false=>vV S x ys (k+1)
  |none=>none
noncomputable def Xa:List D->Option (List Int)
 |[]=>some []
 |.int i::r=>(Xa r).map (i :: ·)
 |_::_=>none
noncomputable def UN (S:Za):D->Ty->Option Bool
 |.non,_=>some false
 |.bl _,t=>some (decide (t=.bool\/t=.int))
 |.int _,t=>some (decide (t=.int))
 |.str _,t=>some (decide (t=.str))
 |.tup _,t=>some (decide (t=.tuple))
 |.loc n,t=>match S[n]? with
  |some (.lst _)=>some (decide (t=.list))
  |some (.dt _)=>some (decide (t=.dict))
  |some (.dk _)=>some (decide (t=.dict))
  |_=>none
 |_,_=>none
noncomputable def Wt (S:Za) (x:D):List Ty->Option Bool
 |[]=>some false
 |t::ts=>match UN S x t with
  |some true=>some true
  |some false=>Wt S x ts
  |none=>none
noncomputable def ixN (n:Nat) (i:Int):Option Nat:=if 0<=i then (if i<n then some i.toNat else none) else if -(n:Int)<=i then some (i+n).toNat else none
noncomputable def at' {α:Type} (xs:List α) (i:Int):Option α:=(ixN xs.length i).bind λj=>xs[j]?
noncomputable def sIx (n d:Nat):Option Int->Nat
 |none=>d
 |some i=>if i<0 then (i+n).toNat else min i.toNat n
noncomputable def cut (xs:List D) (lo hi:Option Int):List D:=(xs.drop (sIx xs.length 0 lo)).take (sIx xs.length xs.length hi-sIx xs.length 0 lo)
noncomputable def fits (i:Int):Bool:=decide (i.natAbs<2^8000)
noncomputable def big:Int:=2^8000
theorem z5 {b:Int}(h:b<1073741824):b<big:=Int.lt_trans h (by unfold big;decide +kernel)
noncomputable def ZW (op:Bop) (x y:D) (S:Za):R D:=match op,x,y with
 |.add,.int a,.int b=>.ok (.int (a+b)) S
 |.sub,.int a,.int b=>.ok (.int (a-b)) S
 |.mul,.int a,.int b=>if (fits a&&fits b)=true then .ok (.int (a*b)) S else .no
 |.fdiv,.int a,.int b=>if 0<b/\b<big then .ok (.int (a / b)) S else .no
 |.mod,.int a,.int b=>if 0<b then .ok (.int (a%b)) S else .no
 |.pow,.int a,.int b=>if 0<=b/\b<=1000/\a.natAbs<2^64 then .ok (.int (a^b.toNat)) S else .no
 |.add,.tup a,.tup b=>if a.length+b.length<=lim then .ok (.tup (a++b)) S else .no
 |.mul,.tup a,.int b=>if 0<=b/\b<1000/\a.length<=1000 then .ok (.tup (List.replicate b.toNat a).flatten) S else .no
 |.mul,.loc m,.int b=>match Zc S m with
  |some a=>if 0<=b/\b<1000/\a.length<=1000 then .ok (.loc S.length) (S++[.lst (List.replicate b.toNat a).flatten]) else .no
  |none=>.no
 |.add,.loc m,.loc n=>match Zc S m,Zc S n with
  |some a,some b=>if a.length+b.length<=lim then .ok (.loc S.length) (S++[.lst (a++b)]) else .no
  |_,_=>.no
 |_,_,_=>.no
noncomputable def Wm (op:Bop) (x y:D) (S:Za):R D:=match x,y with
 |.int _,.int _=>ZW op x y S
 |_,_=>.no
noncomputable def ob {α:Type} (o:Option α) (S:Za):R α:=match o with
 |some a=>.ok a S
 |none=>.no
noncomputable def vR (S:Za) (x:D):Option Ob->R Bool
 |some (.lst ys)=>ob (inL S x ys) S
 |some (.dt kvs)=>match x with
  |.tup k=>(ob (Xa k) S).bind λk S=>.ok ((kvs.map (·.1)).contains k) S
  |_=>.no
 |_=>.no
noncomputable def XN (S:Za) (x y:D):R Bool:=match y with
 |.tup ys=>ob (inL S x ys) S
 |.loc n=>vR S x S[n]?
 |_=>.no
noncomputable def WM:D->Option (List Int)
 |.tup ks=>Xa ks
 |_=>none
noncomputable def Zz:List D->Option (List (List Int))
 |[]=>some []
 |x::r=>match WM x,Zz r with
  |some a,some b=>some (a::b)
  |_,_=>none
noncomputable def Wq (r:List Int):D:=.tup (r.map .int)
noncomputable def ltI:List Int->List Int->Bool
 |[],[]=>false
 |[],_::_=>true
 |_::_,[]=>false
 |a::x,b::y=>if a=b then ltI x y else decide (a<b)
noncomputable def Uw (x:List Int):List (List Int)->List (List Int)
 |[]=>[x]
 |y::r=>if ltI x y then x::y::r else y::Uw x r
noncomputable def ZY:List (List Int)->List (List Int)
 |[]=>[]
 |x::r=>Uw x (ZY r)
noncomputable def xy {α:Type} (lt:α->α->Bool) (x:α):List α->List α
 |[]=>[x]
 |y::r=>if lt x y then x::y::r else y::xy lt x r
noncomputable def Xb {α:Type} (lt:α->α->Bool):List α->List α
 |[]=>[]
 |x::r=>xy lt x (Xb lt r)
noncomputable def ltP:List (List Int)->List (List Int)->Bool
 |[],[]=>false
 |[],_::_=>true
 |_::_,[]=>false
 |a::x,b::y=>if a=b then ltP x y else ltI a b
noncomputable def Vp (P:List (List Int)):D:=.tup (P.map Wq)
noncomputable def QS:D->Option (List (List Int))
 |.tup ks=>Zz ks
 |_=>none
noncomputable def Yt:List D->Option (List (List (List Int)))
 |[]=>some []
 |x::r=>match QS x,Yt r with
  |some a,some b=>some (a::b)
  |_,_=>none
noncomputable def Yp (op:Cop) (x y:D) (S:Za):R D:=match op with
 |.eq=>(ob (eqD S ZA x y) S).bind λb S=>.ok (.bl b) S
 |.ne=>(ob (eqD S ZA x y) S).bind λb S=>.ok (.bl !b) S
 |.lt=>match x,y with
  |.int a,.int b=>.ok (.bl (decide (a<b))) S
  |.tup a,.tup b=>(ob (Zz a) S).bind λP S=>(ob (Zz b) S).bind λQ S=>.ok (.bl (ltP P Q)) S
  |_,_=>.no
 |.gt=>match x,y with
  |.int a,.int b=>.ok (.bl (decide (b<a))) S
  |_,_=>.no
 |.le=>match x,y with
  |.int a,.int b=>.ok (.bl (decide (a<=b))) S
  |_,_=>.no
 |.ge=>match x,y with
  |.int a,.int b=>.ok (.bl (decide (b<=a))) S
  |_,_=>.no
 |.is=>match x,y with
  |_,.non=>.ok (.bl (decide (x=.non))) S
  |.bl a,.bl b=>.ok (.bl (decide (a=b))) S
  |_,_=>.no
 |.isn=>match x,y with
  |_,.non=>.ok (.bl (decide (x≠.non))) S
  |.bl a,.bl b=>.ok (.bl (decide (a≠b))) S
  |_,_=>.no
 |.inn=>(XN S x y).bind λb S=>.ok (.bl b) S
 |.nin=>(XN S x y).bind λb S=>.ok (.bl !b) S
noncomputable def Q6 (x y:D) (S:Za):R D:=match x,y with
 |.tup xs,.int i=>ob (at' xs i) S
 |.loc n,.int i=>match ZP S n with
  |some xs=>ob (at' xs i) S
  |none=>.no
 |_,_=>.no
noncomputable def slice (x:D) (lo hi:Option Int) (S:Za):R D:=match x with
 |.tup xs=>.ok (.tup (cut xs lo hi)) S
 |.loc n=>match Zc S n with
  |some xs=>.ok (.loc S.length) (S++[.lst (cut xs lo hi)])
  |none=>.no
 |_=>.no
noncomputable def GS (x:D) (S:Za):R D:=match x with
 |.tup xs=>.ok (.tup xs.reverse) S
 |_=>.no
noncomputable def wo {κ:Type} [DecidableEq κ] (k:κ) (v:D) (kvs:List (κ×D)):List (κ×D):=
 if (kvs.any λp=>decide (p.1=k))=true then kvs.map (λp=>if p.1=k then (p.1,v) else p) else kvs++[(k,v)]
noncomputable def Wj (o i v:D) (S:Za):R Unit:=match o,i with
 |.loc n,.int k=>match S[n]? with
  |some (.lst xs)=>(ob (ixN xs.length k) S).bind λj S=>.ok () (S.set n (.lst (xs.set j v)))
  |_=>.no
 |_,_=>.no
noncomputable def wn (o i v:D) (S:Za):R Unit:=match o,i with
 |.loc n,.tup k=>match S[n]? with
  |some (.dt kvs)=>(ob (Xa k) S).bind λk S=>if kvs.length<lim then .ok () (S.set n (.dt (wo k v kvs))) else .no
  |_=>.no
 |_,_=>.no
noncomputable def Ww:D->Option Bool
 |.non=>some false
 |.bl b=>some b
 |.int i=>some (decide (i≠0))
 |_=>none
noncomputable def Ye:List D->Option (List Bool)
 |[]=>some []
 |x::xs=>match Ww x,Ye xs with
  |some b,some bs=>some (b::bs)
  |_,_=>none
noncomputable def Yd:List D->Option (List Int)
 |[]=>some []
 |.int i::r=>(Yd r).map (i :: ·)
 |_::_=>none
noncomputable def Xx (is:List Int):Bool:=decide (is.length<=1000)&&is.all λi=>decide (-1099511627776<=i/\i<=1099511627776)
noncomputable def ZV (rs:List (List Int)):Bool:=decide (rs.length<64)&&decide rs.Nodup&&rs.all λr=>!r.isEmpty
noncomputable def sorted (rev:Bool) (n:Nat) (S:Za):R D:=(ob (Zc S n) S).bind λxs S=>(ob (Zz xs) S).bind λrs S=>
 if ZV rs=true then .ok (.loc S.length) (S++[.lst ((if rev then (ZY rs).reverse else ZY rs).map Wq)]) else .no
noncomputable def twin:List (List (List Int))->Bool
 |[P,Q]=>decide (P=Q) && !P.isEmpty
 |_=>false
noncomputable def Ys (ps:List (List (List Int))):Bool:=(decide (ps.length<64)&&decide ps.Nodup&&(decide (ps.length<=1)||ps.all λP=>!P.isEmpty))||twin ps
noncomputable def zY:List D->Bool
 |.tup (.int _::_)::_=>true
 |_=>false
noncomputable def xh (n:Nat) (S:Za):R D:=(ob (Zc S n) S).bind λxs S=>if zY xs=true then sorted false n S else (ob (Yt xs) S).bind λps S=>if Ys ps=true then .ok (.loc S.length) (S++[.lst ((Xb ltP ps).map Vp)]) else .no
noncomputable def G6:List D->List D->List D
 |acc,[]=>acc
 |acc,x::r=>if acc.contains x then G6 acc r else G6 (acc++[x]) r
noncomputable def YA (S:Za):D->Option (List D)
 |.tup xs=>some xs
 |.loc n=>ZP S n
 |_=>none
noncomputable def vO (S:Za):D->Option (List D)
 |.loc n=>match S[n]? with
  |some (.dt kvs)=>some (kvs.map λp=>.tup (p.1.map .int))
  |_=>none
 |_=>none
noncomputable def Zl (lo:Int) (n:Nat):List D:=(List.range n).map λ(k:Nat)=>.int (lo+(k:Int))
noncomputable def ZB (i:Int):Bool:=decide (-(2^62)<=i/\i<2^62)
noncomputable def few (i:Int):Bool:=decide (0<=i/\i<=1000)
noncomputable def Z8 (f:Bf) (as:List D) (S:Za):R D:=match f,as with
 |.len,[x]=>(ob (YA S x) S).bind λxs S=>.ok (.int xs.length) S
 |.max2,[.int a,.int b]=>.ok (.int (if b>a then b else a)) S
 |.min2,[.int a,.int b]=>.ok (.int (if b<a then b else a)) S
 |.toInt,[.int a]=>.ok (.int a) S
 |.toInt,[.bl b]=>.ok (.int (b2i b)) S
 |.tuple,[.tup xs]=>.ok (.tup xs) S
 |.tuple,[.loc n]=>(ob (Zc S n) S).bind λxs S=>.ok (.tup xs) S
 |.list,[x]=>(ob (YA S x) S).bind λxs S=>.ok (.loc S.length) (S++[.lst xs])
 |.all,[.loc n]=>(ob (Zc S n) S).bind λxs S=>(ob (Ye xs) S).bind λbs S=>.ok (.bl (bs.all id)) S
 |.any,[x]=>(ob (YA S x) S).bind λxs S=>(ob (Ye xs) S).bind λbs S=>.ok (.bl (bs.any id)) S
 |.sum,[.loc n]=>(ob (Zc S n) S).bind λxs S=>(ob (Yd xs) S).bind λis S=>if Xx is=true then .ok (.int is.sum) S else .no
 |.sorted,[.loc n]=>xh n S
 |.sortedR,[.loc n]=>sorted true n S
 |.set,[x]=>(ob (YA S x) S).bind λxs S=>.ok (.loc S.length) (S++[.st (G6 [] xs)])
 |.listD,[x]=>(ob (vO S x) S).bind λxs S=>.ok (.loc S.length) (S++[.lst xs])
 |.rangeT,[.int i]=>if few i then .ok (.tup (Zl 0 i.toNat)) S else .no
 |_,_=>.no
noncomputable def X0 (m:Mf) (o:D) (as:List D) (S:Za):R D:=match m,o,as with
 |.append,.loc n,[x]=>(ob (Zc S n) S).bind λxs S=>if xs.length<lim then .ok .non (S.set n (.lst (xs++[x]))) else .no
 |.extend,.loc n,[.loc k]=>if n=k then .no else (ob (Zc S n) S).bind λxs S=>(ob (Zc S k) S).bind λys S=>if xs.length+ys.length<=lim then .ok .non (S.set n (.lst (xs++ys))) else .no
 |.index,.loc n,[x]=>(ob (Zc S n) S).bind λxs S=>(ob (vV S x xs 0) S).bind λk S=>.ok (.int k) S
 |_,_,_=>.no
noncomputable def UC (S:Za):D->Bool
 |.loc n=>(Zc S n).isSome
 |_=>false
noncomputable def fill:List Nat->List D->Lc->Option Lc
 |[],[],σ=>some σ
 |i::t,x::xs,σ=>fill t xs (σ.set i (some x))
 |_,_,_=>none
noncomputable def assign (t:List Nat) (x:D) (S:Za) (σ:Lc):Option Lc:=match t with
 |[i]=>some (σ.set i (some x))
 |t=>match x with
  |.tup xs=>fill t xs σ
  |.loc n=>match Zc S n with
   |some xs=>fill t xs σ
   |none=>none
  |_=>none
inductive Fl where | nx (σ:Lc) | ret (d:D) | brk (σ:Lc) | cnt (σ:Lc)
noncomputable abbrev Calls:=Nat->List D->Za->R D
structure Walk where
 items:List D
 kept:List (Nat×List D)
noncomputable def Walk.still (w:Walk) (S:Za):Bool:=w.kept.all λp=>decide (S[p.1]? = some (.lst p.2))
noncomputable def Z1 (S:Za):D->Option Walk
 |.tup xs=>some ⟨xs,[]⟩
 |.loc n=>match S[n]? with
  |some (.lst xs)=>some ⟨xs,[(n,xs)]⟩
  |_=>none
 |_=>none
noncomputable def Yr (w:Walk) (body:D->Lc->Za->R Fl):List D->Lc->Za->R Fl
 |[],σ,S=>if w.still S then .ok (.nx σ) S else .no
 |x::xs,σ,S=>if w.still S then match body x σ S with
   |.ok (.nx σ') S'=>Yr w body xs σ' S'
   |.ok (.cnt σ') S'=>Yr w body xs σ' S'
   |.ok (.brk σ') S'=>.ok (.nx σ') S'
   |.ok (.ret d) S'=>.ok (.ret d) S'
   |.ex c S'=>.ex c S'
   |.no=>.no
  else .no
noncomputable def Xf (test:Lc->Za->R Bool) (body:Lc->Za->R Fl):Nat->Lc->Za->R Fl
 |0,_,_=>.no
 |n+1,σ,S=>(test σ S).bind λb S=>if b then match body σ S with
   |.ok (.nx σ') S'=>Xf test body n σ' S'
   |.ok (.cnt σ') S'=>Xf test body n σ' S'
   |.ok (.brk σ') S'=>.ok (.nx σ') S'
   |.ok (.ret d) S'=>.ok (.ret d) S'
   |.ex c S'=>.ex c S'
   |.no=>.no
  else .ok (.nx σ) S
noncomputable def Z4 (w:Walk) (turn:D->Lc->Za->R Lc):List D->Lc->Za->R Lc
 |[],σ,S=>if w.still S then .ok σ S else .no
 |x::xs,σ,S=>if w.still S then (turn x σ S).bind λσ S=>Z4 w turn xs σ S else .no
noncomputable def push (n:Nat) (y:D) (S:Za):R Unit:=match Zc S n with
 |some ys=>if ys.length<lim then .ok () (S.set n (.lst (ys++[y]))) else .no
 |none=>.no
noncomputable def caught (cap:List Nat) (nl:Nat) (σ:Lc):Lc:=List.replicate nl none++cap.map λi=>(σ[i]?).join
noncomputable def W5:Nat:=1000
noncomputable def Zk (c:Nat):List Bool:=(List.range 10).map λj=>decide (c=j)
noncomputable def junk (c:Nat):Za:=[.lst ((Zk c).map .bl),.lst ((Zk c).map λb=>.int (b2i b))]
mutual
noncomputable def ev (C:Calls):E->Lc->Za->R D
 |.c d,_,S=>.ok d S
 |.v i,σ,S=>ob (σ[i]?).join S
 |.tup es,σ,S=>(evs C es σ S).bind λxs S=>if xs.length<=lim then .ok (.tup xs) S else .no
 |.lst es,σ,S=>(evs C es σ S).bind λxs S=>if xs.length<=lim then .ok (.loc S.length) (S++[.lst xs]) else .no
 |.dnew,_,S=>.ok (.loc S.length) (S++[.dt []])
 |.dput1 k v,σ,S=>(ev C k σ S).bind λx S=>(ev C v σ S).bind λy S=>match x with
  |.tup k=>(ob (Xa k) S).bind λk S=>.ok (.loc S.length) (S++[.dt [(k,y)]])
  |_=>.no
 |.bin op a b,σ,S=>(ev C a σ S).bind λx S=>(ev C b σ S).bind λy S=>ZW op x y S
 |.neg a,σ,S=>(ev C a σ S).bind λx S=>match x with
  |.int i=>.ok (.int (-i)) S
  |_=>.no
 |.not a,σ,S=>(ev C a σ S).bind λx S=>(ob (ZN S x) S).bind λb S=>.ok (.bl !b) S
 |.and a b,σ,S=>(ev C a σ S).bind λx S=>match x with
  |.bl c=>if c then ev C b σ S else .ok (.bl false) S
  |_=>.no
 |.or a b,σ,S=>(ev C a σ S).bind λx S=>match x with
  |.bl c=>if c then .ok (.bl true) S else ev C b σ S
  |_=>.no
 |.ite t a b,σ,S=>(ev C t σ S).bind λx S=>(ob (ZN S x) S).bind λc S=>if c then ev C a σ S else ev C b σ S
 |.cmp op a b,σ,S=>(ev C a σ S).bind λx S=>(ev C b σ S).bind λy S=>Yp op x y S
 |.chain o p a b d,σ,S=>(ev C a σ S).bind λx S=>(ev C b σ S).bind λy S=>(Yp o x y S).bind λz S=>match z with
  |.bl c=>if c then (ev C d σ S).bind λw S=>Yp p y w S else .ok (.bl false) S
  |_=>.no
 |.ix a i,σ,S=>(ev C a σ S).bind λx S=>(ev C i σ S).bind λy S=>Q6 x y S
 |.sl a lo hi,σ,S=>(ev C a σ S).bind λx S=>(evo C lo σ S).bind λl S=>(evo C hi σ S).bind λh S=>slice x l h S
 |.rev a,σ,S=>(ev C a σ S).bind λx S=>GS x S
 |.call f as,σ,S=>(evs C as σ S).bind λxs S=>C f xs S
 |.blt f as,σ,S=>(evs C as σ S).bind λxs S=>Z8 f xs S
 |.mt m o as,σ,S=>(ev C o σ S).bind λx S=>if UC S x=true then (evs C as σ S).bind λxs S=>X0 m x xs S else .no
 |.isi a ts,σ,S=>(ev C a σ S).bind λx S=>(ob (Wt S x ts) S).bind λb S=>.ok (.bl b) S
 |.inT a tab,σ,S=>(ev C a σ S).bind λx S=>match x with
  |.int i=>.ok (.bl ((tab.map (·.1)).contains i)) S
  |_=>.no
 |.getT tab a,σ,S=>(ev C a σ S).bind λx S=>match x with
  |.int i=>(ob (tab.lookup i) S).bind λj S=>.ok (.int j) S
  |_=>.no
 |.comp1 cap nl t it ifs elt,σ,S=>(evw C it σ S).bind λw S=>
   ((Z4 w (λx σ S1=>(ob (assign t x S1 σ) S1).bind λσ S1=>(evt C ifs σ S1).bind λb S1=>if b then (ev C elt σ S1).bind λy S1=>(push S.length y S1).bind λ_ S1=>.ok σ S1 else .ok σ S1) w.items (caught cap nl σ) (S++[.lst []])).bind
    λ_ S1=>.ok (.loc S.length) S1).nox
 |.comp2 cap nl t it ifs u jt jfs elt,σ,S=>(evw C it σ S).bind λw S=>
   ((Z4 w (λx σ S1=>(ob (assign t x S1 σ) S1).bind λσ S1=>(evt C ifs σ S1).bind λb S1=>if b then
    (evw C jt σ S1).bind λw2 S1=>Z4 w2 (λx σ S1=>(ob (assign u x S1 σ) S1).bind λσ S1=>(evt C jfs σ S1).bind λb S1=>if b then (ev C elt σ S1).bind λy S1=>(push S.length y S1).bind λ_ S1=>.ok σ S1 else .ok σ S1) w2.items σ S1
    else .ok σ S1) w.items (caught cap nl σ) (S++[.lst []])).bind
    λ_ S1=>.ok (.loc S.length) S1).nox
 |.fi a,σ,S=>(ev C a σ S).bind λx S=>match x with
  |.int i=>if ZB i=true then .ok (.int i) S else .no
  |_=>.no
 |.refu e,σ,S=>match ev C e σ S with
  |.ok _ S=>.ok .non S
  |.ex c S=>if 1<=c/\c<=10 then .ok (.int ((c:Int)-1)) (S++junk (c-1)) else .no
  |.no=>.no
noncomputable def evs (C:Calls):List E->Lc->Za->R (List D)
 |[],_,S=>.ok [] S
 |e::es,σ,S=>(ev C e σ S).bind λx S=>(evs C es σ S).bind λxs S=>.ok (x::xs) S
noncomputable def evo (C:Calls):Option E->Lc->Za->R (Option Int)
 |none,_,S=>.ok none S
 |some e,σ,S=>(ev C e σ S).bind λx S=>match x with
  |.int i=>.ok (some i) S
  |_=>.no
noncomputable def evt (C:Calls):List E->Lc->Za->R Bool
 |[],_,S=>.ok true S
 |e::es,σ,S=>(ev C e σ S).bind λx S=>(ob (ZN S x) S).bind λb S=>if b then evt C es σ S else .ok false S
noncomputable def evw (C:Calls):W->Lc->Za->R Walk
 |.rng1 a,σ,S=>(ev C a σ S).bind λx S=>match x with
  |.int i=>if ZB i then .ok ⟨Zl 0 i.toNat,[]⟩ S else .no
  |_=>.no
 |.rng2 a b,σ,S=>(ev C a σ S).bind λx S=>(ev C b σ S).bind λy S=>match x,y with
  |.int i,.int j=>if (ZB i&&ZB j)=true then .ok ⟨Zl i (j-i).toNat,[]⟩ S else .no
  |_,_=>.no
 |.rrng a b,σ,S=>(ev C a σ S).bind λx S=>(ev C b σ S).bind λy S=>match x,y with
  |.int i,.int j=>if (ZB i&&ZB j)=true then .ok ⟨(Zl i (j-i).toNat).reverse,[]⟩ S else .no
  |_,_=>.no
 |.rtup a,σ,S=>(ev C a σ S).bind λx S=>match x with
  |.tup xs=>.ok ⟨xs.reverse,[]⟩ S
  |_=>.no
 |.zip a b,σ,S=>(ev C a σ S).bind λx S=>(ev C b σ S).bind λy S=>match Z1 S x,Z1 S y with
  |some v,some w=>.ok ⟨(v.items.zip w.items).map λp=>.tup [p.1,p.2],v.kept++w.kept⟩ S
  |_,_=>.no
 |.enum a,σ,S=>(ev C a σ S).bind λx S=>match Z1 S x with
  |some w=>.ok ⟨(Zl 0 w.items.length).zip w.items |>.map λp=>.tup [p.1,p.2],w.kept⟩ S
  |none=>.no
 |.of e,σ,S=>(ev C e σ S).bind λx S=>ob (Z1 S x) S
end
noncomputable def tst (C:Calls) (e:E) (σ:Lc) (S:Za):R Bool:=(ev C e σ S).bind λx S=>ob (ZN S x) S
mutual
noncomputable def run (C:Calls):Sm->Lc->Za->R Fl
 |.asg t e,σ,S=>(ev C e σ S).bind λx S=>(ob (assign t x S σ) S).bind λσ S=>.ok (.nx σ) S
 |.par t es,σ,S=>(evs C es σ S).bind λxs S=>(ob (fill t xs σ) S).bind λσ S=>.ok (.nx σ) S
 |.aug i op e,σ,S=>(ob (σ[i]?).join S).bind λx S=>(ev C e σ S).bind λy S=>(Wm op x y S).bind λz S=>.ok (.nx (σ.set i (some z))) S
 |.put o i e,σ,S=>(ev C e σ S).bind λv S=>(ev C o σ S).bind λx S=>(ev C i σ S).bind λy S=>(Wj x y v S).bind λ_ S=>.ok (.nx σ) S
 |.dput o i e,σ,S=>(ev C e σ S).bind λv S=>(ev C o σ S).bind λx S=>(ev C i σ S).bind λy S=>(wn x y v S).bind λ_ S=>.ok (.nx σ) S
 |.ret e,σ,S=>(ev C e σ S).bind λx S=>.ok (.ret x) S
 |.ex e,σ,S=>(ev C e σ S).bind λ_ S=>.ok (.nx σ) S
 |.ite t a b,σ,S=>(tst C t σ S).bind λc S=>if c then runs C a σ S else runs C b σ S
 |.forr t it b,σ,S=>(evw C it σ S).bind λw S=>Yr w (λx σ S=>(ob (assign t x S σ) S).bind λσ S=>runs C b σ S) w.items σ S
 |.whl t b,σ,S=>Xf (tst C t) (runs C b) W5 σ S
 |.raise c as,σ,S=>(evs C as σ S).bind λ_ S=>.ex c S
 |.pas,σ,S=>.ok (.nx σ) S
 |.brk,σ,S=>.ok (.brk σ) S
 |.cnt,σ,S=>.ok (.cnt σ) S
noncomputable def runs (C:Calls):List Sm->Lc->Za->R Fl
 |[],σ,S=>.ok (.nx σ) S
 |s::ss,σ,S=>(run C s σ S).bind λf S=>match f with
  |.nx σ=>runs C ss σ S
  |f=>.ok f S
end
structure Fn where
 ps:Nat
 ns:Nat
 body:List Sm
noncomputable def start (n:Nat) (xs:List D):Lc:=xs.map some++List.replicate (n-xs.length) none
noncomputable def Zg (F:List Fn):Nat->Calls
 |0,_,_,_=>.no
 |d+1,f,xs,S=>match F[f]? with
  |some fn=>if xs.length=fn.ps then (runs (Zg F d) fn.body (start fn.ns xs) S).bind λf S=>match f with
    |.ret x=>.ok x S
    |.nx _=>.ok .non S
    |_=>.no
   else .no
  |none=>.no
end Ev
namespace Sd
open PySem PySem.Spec PyProof.Rows L2
open Ev (D Ob Za Lc R E Sm Calls Walk Fl Fn Bop Cop Ty Bf Mf ev evs evo evt evw tst run runs)
mutual
def Rep (ρ:List Addr) (H:Hp):D->V->Prop
 |.non,v=>v=.non
 |.bl b,v=>v=.bl b
 |.int i,v=>v=.int i
 |.str x,v=>v=.str x
 |.tup ds,v=>∃a xs,v=.ref a/\H a=some (.tup xs)/\Rq ρ H ds xs
 |.loc n,v=>∃a,v=.ref a/\ρ[n]? = some a
 |.fn _,_=>False
 |.exc _ _,_=>False
def Rq (ρ:List Addr) (H:Hp):List D->List V->Prop
 |[],xs=>xs=[]
 |d::ds,xs=>∃v vs,xs=v::vs/\Rep ρ H d v/\Rq ρ H ds vs
end
structure Fut (ρ:List Addr) (H:Hp) (ρ':List Addr) (H':Hp):Prop where
 pre:∃t,ρ'=ρ++t
 tup:∀a xs,H a=some (.tup xs)->H' a=some (.tup xs)
theorem Fut.refl (ρ:List Addr) (H:Hp):Fut ρ H ρ H:=⟨⟨[],by simp⟩,λ_ _ h=>h⟩
theorem Fut.trans {ρ ρ1 ρ2:List Addr}{H H1 H2:Hp}(a:Fut ρ H ρ1 H1) (b:Fut ρ1 H1 ρ2 H2):Fut ρ H ρ2 H2:=
 ⟨by obtain⟨t,e⟩:=a.pre;obtain⟨u,f⟩:=b.pre;exact⟨t++u,by rw[f,e,List.append_assoc]⟩,λc xs h=>b.tup c xs (a.tup c xs h)⟩
theorem Fut.at {ρ ρ':List Addr}{H H':Hp}(f:Fut ρ H ρ' H') {n:Nat}{a:Addr}(h:ρ[n]? = some a):ρ'[n]? = some a:=by
 obtain⟨t,rfl⟩:=f.pre;have hn:n<ρ.length:=(Pc.mp h).1;rw[Pl hn];exact h
mutual
theorem Rep.mono {ρ ρ':List Addr}{H H':Hp}(f:Fut ρ H ρ' H'):∀{d:D}{v:V},Rep ρ H d v->Rep ρ' H' d v
 |.non,_,h | .bl _,_,h | .int _,_,h | .str _,_,h=>by unfold Rep at h ⊢;exact h
 |.tup ds,v,h=>by
  unfold Rep at h ⊢;obtain⟨a,xs,e,t,r⟩:=h;exact⟨a,xs,e,f.tup a xs t,Rq.mono f r⟩
 |.loc n,v,h=>by
  unfold Rep at h ⊢;obtain⟨a,e,t⟩:=h;exact⟨a,e,f.at t⟩
 |.fn _,_,h | .exc _ _,_,h=>by unfold Rep at h;exact h.elim
theorem Rq.mono {ρ ρ':List Addr}{H H':Hp}(f:Fut ρ H ρ' H'):∀{ds:List D}{xs:List V},Rq ρ H ds xs->Rq ρ' H' ds xs
 |[],_,h=>by unfold Rq at h ⊢;exact h
 |d::ds,xs,h=>by
  unfold Rq at h ⊢;obtain⟨v,vs,e,r,rs⟩:=h;exact⟨v,vs,e,Rep.mono f r,Rq.mono f rs⟩
end
theorem Rq.nil {ρ:List Addr}{H:Hp}:Rq ρ H [] []:=by unfold Rq;rfl
theorem Rq.cons {ρ:List Addr}{H:Hp}{d:D}{v:V}{ds:List D}{vs:List V}(r:Rep ρ H d v) (rs:Rq ρ H ds vs):Rq ρ H (d::ds) (v::vs):=by
 unfold Rq;exact⟨v,vs,rfl,r,rs⟩
theorem Rq.length {ρ:List Addr}{H:Hp}:∀{ds:List D}{xs:List V},Rq ρ H ds xs->xs.length=ds.length
 |[],_,h=>by unfold Rq at h;rw[h];rfl
 |d::ds,xs,h=>by
  unfold Rq at h;obtain⟨v,vs,rfl,_,rs⟩:=h;rw[PF,PF,Rq.length rs]
theorem Rq.append {ρ:List Addr}{H:Hp}:∀{ds es:List D}{xs ys:List V},Rq ρ H ds xs->Rq ρ H es ys->Rq ρ H (ds++es) (xs++ys)
 |[],_,_,_,h,r=>by unfold Rq at h;rw[h];exact r
 |d::ds,_,_,_,h,r=>by
  unfold Rq at h;obtain⟨v,vs,rfl,a,rs⟩:=h;exact Rq.cons a (Rq.append rs r)
theorem Rq.get {ρ:List Addr}{H:Hp}:∀{ds:List D}{xs:List V}{i:Nat}{d:D},Rq ρ H ds xs->ds[i]? = some d->∃v,xs[i]? = some v/\Rep ρ H d v
 |[],_,_,_,_,e=>by simp at e
 |d::ds,_,0,_,h,e=>by
  unfold Rq at h;obtain⟨v,vs,rfl,a,rs⟩:=h;simp at e;subst e;exact⟨v,rfl,a⟩
 |d::ds,_,i+1,_,h,e=>by
  unfold Rq at h;obtain⟨v,vs,rfl,a,rs⟩:=h;obtain⟨u,q,r⟩:=Rq.get (i:=i) rs (by simpa using e)
  exact⟨u,by simpa using q,r⟩
theorem Rq.set {ρ:List Addr}{H:Hp}{d:D}{v:V}(r:Rep ρ H d v):∀{ds:List D}{xs:List V}(i:Nat),Rq ρ H ds xs->Rq ρ H (ds.set i d) (xs.set i v)
 |[],_,i,h=>by unfold Rq at h;rw[h];exact Rq.nil
 |_::_,_,0,h=>by
  unfold Rq at h;obtain⟨_,_,rfl,_,rs⟩:=h;exact Rq.cons r rs
 |_::_,_,i+1,h=>by
  unfold Rq at h;obtain⟨_,_,rfl,a,rs⟩:=h;exact Rq.cons a (Rq.set r i rs)
theorem Rq.rep {ρ:List Addr}{H:Hp}{ds:List D}{xs:List V}(h:Rq ρ H ds xs):∀k:Nat,Rq ρ H (List.replicate k ds).flatten (List.replicate k xs).flatten
 |0=>Rq.nil
 |k+1=>by
  rw[PO,PO,P0,P0];exact Rq.append h (Rq.rep h k)
theorem Rq.ints {ρ:List Addr}{H:Hp}:∀ns:List Int,Rq ρ H (ns.map D.int) (ns.map V.int)
 |[]=>Rq.nil
 |n::ns=>Rq.cons (by unfold Rep;rfl) (Rq.ints ns)
def Scr (K:PySem.W.Frag) (H:Hp) (a:Addr) (ns:List Int):Prop:=
 (∃o,H a=some (.frz o (.lst (ns.map V.int))))\/
  ∃(o:Obj) (its:Array Value) (n:Nat),K.lookup a=some o/\o.cls=.type "list"/\o.dict=none/\o.data=.seq its n/\its.size<=sizeLine/\Vals (ns.map V.int) its.toList
theorem Scr.sq {K:PySem.W.Frag}{H:Hp}{a:Addr}{ns:List Int}(h:Scr K H a ns):SqL K H a (ns.map V.int):=by
 rcases h with ⟨o,h⟩ | h
 ·exact .inl (.inr ⟨o,h⟩)
 ·exact .inr h
def uz (ρ:List Addr) (H:Hp) (kvs:List (List Int×D)) (vs:List (List Key×V)):Prop:=
 Paired (λ(p:List Int×D) (q:List Key×V)=>q.1=p.1.map Sum.inl/\Rep ρ H p.2 q.2) kvs vs
def ug (ρ:List Addr) (H:Hp) (kvs:List (Int×D)) (vs:List (Key×V)):Prop:=
 Paired (λ(p:Int×D) (q:Key×V)=>q.1=Sum.inl p.1/\Rep ρ H p.2 q.2) kvs vs
def Vk (K:PySem.W.Frag) (ρ:List Addr) (H:Hp) (a:Addr):Ob->Prop
 |.lst ds=>∃xs,H a=some (.lst xs)/\Rq ρ H ds xs
 |.scr ns=>Scr K H a ns
 |.dt kvs=>∃vs,H a=some (.dT vs)/\uz ρ H kvs vs
 |.dk kvs=>∃vs,H a=some (.dK vs)/\ug ρ H kvs vs
 |.st _=>False
noncomputable def Yc:Str:="law.<locals>.<lambda>"
def Tb (H:Hp):Prop:=∀(P:Addr) (ps:Array Value),H P=some (.tbl ps)->TriplesOk ps.toList/\∀(pos:Pos) (cv:Value),codeAmong pos ps.toList=some cv->
 ∃(c:Addr) (oc:Obj) (vs:Array Value) (t:Tok),cv=.ref c/\H c=some (.frz oc (.own c))/\oc.data=.fields vs/\vs[1]? = some (.str Yc t)
theorem Tb.upd {H:Hp}{p:Addr}{o:HO}(h:Tb H) (hp:∀ob u,H p≠some (.frz ob u)) (ho:∀ps,o≠.tbl ps):Tb (upd H p o):=λP ps e=>by
 by_cases z:P=p
 ·subst z;rw[Zi] at e;cases e;exact absurd rfl (ho ps)
 ·rw[Ze z] at e
  obtain⟨a,b⟩:=h P ps e;refine⟨a,λpos cv q=>?_⟩
  obtain⟨c,oc,vs,t,e1,e2,e3⟩:=b pos cv q;exact⟨c,oc,vs,t,e1,by rw[Ze (λz=>hp oc (.own c) (by rw[<-z];exact e2))];exact e2,e3⟩
structure St3 (K:PySem.W.Frag) (ρ:List Addr) (S:Za) (H:Hp):Prop where
 len:ρ.length=S.length
 nd:∀(m n:Nat) (a:Addr),ρ[m]? = some a->ρ[n]? = some a->m≠n->(∃ns,S[m]? = some (.scr ns))\/(∃ns,S[n]? = some (.scr ns))
 ob:∀(n:Nat) (o:Ob) (a:Addr),S[n]? = some o->ρ[n]? = some a->Vk K ρ H a o
 tb:Tb H
structure LocR (ρ:List Addr) (H:Hp) (l:Lc) (σ:L2.St):Prop where
 len:l.length=σ.length
 val:∀(i:Nat) (d:D),l[i]? = some (some d)->∃v,σ[i]? = some (some v)/\Rep ρ H d v
theorem LocR.mono {ρ ρ':List Addr}{H H':Hp}{l:Lc}{σ:L2.St}(f:Fut ρ H ρ' H') (r:LocR ρ H l σ):LocR ρ' H' l σ:=
 ⟨r.len,λi d e=>let ⟨v,q,h⟩:=r.val i d e;⟨v,q,h.mono f⟩⟩
theorem LocR.set {ρ:List Addr}{H:Hp}{l:Lc}{σ:L2.St}{d:D}{v:V}(r:LocR ρ H l σ) (i:Nat) (h:Rep ρ H d v):LocR ρ H (l.set i (some d)) (σ.set i (some v)):=
 ⟨by rw[Pz,Pz];exact r.len,λj e q=>by
  rw[Nh] at q ⊢;split at q
  ·rename_i hij
   subst hij;split at q
   ·rename_i hl
    cases q;rw[Pj rfl,Pj (by rw[<-r.len];exact hl)]
    exact⟨v,rfl,h⟩
   ·cases q
  ·rename_i hij
   rw[Pm hij];exact r.val j e q⟩
def End {α β:Type} (K:PySem.W.Frag) (xw:Nat->Hp->Prop) (rep:List Addr->Hp->α->β->Prop) (ρ:List Addr) (H:Hp) (Q:β->Hp->Prop):R α->Prop
 |.ok d S=>∀ρ' H' v,Fut ρ H ρ' H'->St3 K ρ' S H'->rep ρ' H' d v->Q v H'
 |.ex c S=>∀ρ' H',Fut ρ H ρ' H'->St3 K ρ' S H'->xw c H'
 |.no=>False
section
variable {K:PySem.W.Frag}{xw:Nat->Hp->Prop}{ρ ρ':List Addr}{H H':Hp}{α β α' β':Type}{rep:List Addr->Hp->α->β->Prop}{rep':List Addr->Hp->α'->β'->Prop}
theorem End.mono {r:R α}{Q:β->Hp->Prop}(f:Fut ρ H ρ' H') (h:End K xw rep ρ H Q r):End K xw rep ρ' H' Q r:=by
 cases r with
 |ok d S=>exact λρ2 H2 v g st r=>h ρ2 H2 v (f.trans g) st r
 |ex c S=>exact λρ2 H2 g st=>h ρ2 H2 (f.trans g) st
 |no=>exact h
theorem End.bind {r:R α}{f:α->Za->R α'}{Q:β'->Hp->Prop}{Q1:β->Hp->Prop}(h:End K xw rep' ρ H Q (r.bind f))
  (k:∀d S ρ1 H1 v,Fut ρ H ρ1 H1->St3 K ρ1 S H1->rep ρ1 H1 d v->End K xw rep' ρ1 H1 Q (f d S)->Q1 v H1):End K xw rep ρ H Q1 r:=by
 cases r with
 |ok d S=>exact λρ1 H1 v g st r=>k d S ρ1 H1 v g st r (End.mono g h)
 |ex c S=>exact h
 |no=>exact h
theorem End.ok {a:α}{S:Za}{Q:β->Hp->Prop}{v:β}(h:End K xw rep ρ H Q (.ok a S)) (st:St3 K ρ S H) (r:rep ρ H a v):Q v H:=h ρ H v (Fut.refl ρ H) st r
theorem End.ob {o:Option α}{S:Za}{f:α->Za->R α'}{Q:β'->Hp->Prop}(h:End K xw rep' ρ H Q ((Ev.ob o S).bind f)):∃a,o=some a/\End K xw rep' ρ H Q (f a S):=by
 cases o with
 |none=>exact h.elim
 |some a=>exact⟨a,rfl,h⟩
theorem End.ite {c:Prop}[Decidable c]{a b:R α}{Q:β->Hp->Prop}(h:End K xw rep ρ H Q (if c then a else b)):(c/\End K xw rep ρ H Q a)\/(¬c/\End K xw rep ρ H Q b):=by
 split at h
 ·exact .inl ⟨‹_›,h⟩
 ·exact .inr ⟨‹_›,h⟩
theorem End.guard {c:Prop}[Decidable c]{a:R α}{Q:β->Hp->Prop}(h:End K xw rep ρ H Q (if c then a else .no)):c/\End K xw rep ρ H Q a:=by
 rcases h.ite with h | ⟨_,h⟩
 ·exact h
 ·exact h.elim
end
noncomputable abbrev nx:Nat->Hp->Prop:=λ_ _=>False
theorem End.nox {α β:Type}{K:PySem.W.Frag}{xw:Nat->Hp->Prop}{ρ:List Addr}{H:Hp}{rep:List Addr->Hp->α->β->Prop}{Q:β->Hp->Prop}{r:R α}(h:End K xw rep ρ H Q r.nox):End K nx rep ρ H Q r:=by
 cases r with
 |ok d S=>exact h
 |ex c S=>exact h.elim
 |no=>exact h
def YT (_:List Addr) (_:Hp) (a b:Bool):Prop:=a=b
section
variable (X:Cx) (xw:Nat->Hp->Prop)
def tE (f:Lc->Za->R D):TE:=λσ H Q=>∃ρ l S,St3 X.K ρ S H/\LocR ρ H l σ/\End X.K xw Rep ρ H Q (f l S)
def tA (f:Lc->Za->R (List D)):TA:=λσ H Q=>∃ρ l S,St3 X.K ρ S H/\LocR ρ H l σ/\End X.K xw Rq ρ H Q (f l S)
def tB3 (f:Lc->Za->R Bool):TT:=λσ H Q=>∃ρ l S,St3 X.K ρ S H/\LocR ρ H l σ/\End X.K xw YT ρ H Q (f l S)
variable (C:Calls)
def CE (e:Expr) (i:E):Prop:=PE X e (tE X xw (ev C i))
def CT (e:Expr) (i:E):Prop:=PT X e (tB3 X xw (tst C i))
def CA (es:List Expr) (is:List E):Prop:=PA X es (tA X xw (evs C is))
end
theorem PE.imp {X:Cx}{e:Expr}{t t':TE}(h:PE X e t) (k:∀σ H Q,t' σ H Q->t σ H Q):PE X e t':=λpq s σ H Q I q=>h pq s σ H Q I (k σ H Q q)
theorem PT.imp {X:Cx}{e:Expr}{t t':TT}(h:PT X e t) (k:∀σ H Q,t' σ H Q->t σ H Q):PT X e t':=λpq s σ H Q I q=>h pq s σ H Q I (k σ H Q q)
theorem PA.imp {X:Cx}{e:List Expr}{t t':TA}(h:PA X e t) (k:∀σ H Q,t' σ H Q->t σ H Q):PA X e t':=λpos pq s σ H Q I q=>h pos pq s σ H Q I (k σ H Q q)
section
variable {K:PySem.W.Frag}{ρ ρ':List Addr}{S:Za}{H H':Hp}{a p:Addr}{n:Nat}
theorem St3.at (st:St3 K ρ S H) {o:Ob}(h:S[n]? = some o):∃a,ρ[n]? = some a/\Vk K ρ H a o:=by
 have hn:n<S.length:=(Pc.mp h).1;have hr:n<ρ.length:=by rw[st.len];exact hn
 exact⟨ρ[n],Pb hr,st.ob n o _ h (Pb hr)⟩
theorem Paired.map2 {α β:Type}{F G:α->β->Prop}:∀{l₁:List α}{l₂:List β},Paired F l₁ l₂->(∀a b,F a b->G a b)->Paired G l₁ l₂
 |_,_,.nil,_=>.nil
 |_,_,.cons r t,f=>.cons (f _ _ r) (Paired.map2 t f)
theorem Vk.keep {o:Ob}(f:Fut ρ H ρ' H') (k:∀u,H a=some u->H' a=some u) (h:Vk K ρ H a o):Vk K ρ' H' a o:=by
 cases o with
 |lst ds=>obtain⟨xs,e,r⟩:=h;exact⟨xs,k _ e,r.mono f⟩
 |scr ns=>
  rcases h with ⟨o,e⟩ | h
  ·exact .inl ⟨o,k _ e⟩
  ·exact .inr h
 |dt kvs=>obtain⟨vs,e,r⟩:=h;exact⟨vs,k _ e,Paired.map2 r λp q z=>⟨z.1,z.2.mono f⟩⟩
 |dk kvs=>obtain⟨vs,e,r⟩:=h;exact⟨vs,k _ e,Paired.map2 r λp q z=>⟨z.1,z.2.mono f⟩⟩
 |st _=>exact h
theorem ZG {o:HO}(hp:H p=none):Fut ρ H ρ (upd H p o):=⟨⟨[],by simp⟩,λb xs h=>by rw[Ze (Zn h hp)];exact h⟩
theorem XF {o:HO}(hp:H p=none):Fut ρ H (ρ++[p]) (upd H p o):=⟨⟨[p],rfl⟩,λb xs h=>by rw[Ze (Zn h hp)];exact h⟩
theorem St3.fresh {o:HO}(st:St3 K ρ S H) (hp:H p=none) (ho:∀ps,o≠.tbl ps:=by intro _ z;cases z):St3 K ρ S (upd H p o):=
 ⟨st.len,st.nd,λn ob a h1 h2=>(st.ob n ob a h1 h2).keep (ZG hp) λu e=>by rw[Ze (Zn e hp)];exact e,st.tb.upd (λob u z=>by rw[hp] at z;cases z) ho⟩
theorem St3.new {o:Ob}{ho:HO}(st:St3 K ρ S H) (hp:H p=none) (r:Vk K (ρ++[p]) (upd H p ho) p o) (ht:∀ps,ho≠.tbl ps:=by intro _ z;cases z):St3 K (ρ++[p]) (S++[o]) (upd H p ho):=by
 have old:∀(m:Nat),(ρ++[p])[m]? = some p->m≠S.length->∃ns,S[m]? = some (.scr ns):=λm e hm=>by
  have hml:m<S.length:=by
   have:=(Pc.mp e).1;rw[PK,st.len,Nq] at this;omega
  rw[Pl (by rw[st.len];exact hml)] at e
  have q:=st.ob m S[m] p (Pb hml) e;rw[Pb hml];generalize S[m]=ob at q;cases ob with
  |lst ds=>obtain⟨xs,z,_⟩:=q;rw[hp] at z;cases z
  |scr ns=>exact⟨ns,rfl⟩
  |dt kvs=>obtain⟨xs,z,_⟩:=q;rw[hp] at z;cases z
  |dk kvs=>obtain⟨xs,z,_⟩:=q;rw[hp] at z;cases z
  |st _=>exact q.elim
 have lenE:(S++[o])[S.length]? = some o:=by simp
 have up:∀{m:Nat} {ns:List Int},S[m]? = some (.scr ns)->(S++[o])[m]? = some (.scr ns):=λ{m ns} e=>by
  rw[Pl (Pc.mp e).1];exact e
 refine⟨by rw[PK,PK,st.len];rfl,λm n a h1 h2 ne=>?_,λn ob a h1 h2=>?_,st.tb.upd (λob u z=>by rw[hp] at z;cases z) ht⟩
 ·by_cases hm:m=S.length
  ·have ha:a=p:=by
    rw[hm,<-st.len,Px (Po _)] at h1
    simpa using h1.symm
   rw[ha] at h2;obtain⟨ns,e⟩:=old n h2 (by omega)
   exact .inr ⟨ns,up e⟩
  ·by_cases hn:n=S.length
   ·have ha:a=p:=by
     rw[hn,<-st.len,Px (Po _)] at h2
     simpa using h2.symm
    rw[ha] at h1;obtain⟨ns,e⟩:=old m h1 hm;exact .inl ⟨ns,up e⟩
   ·have lt:∀{k:Nat},(ρ++[p])[k]? = some a->k≠S.length->ρ[k]? = some a:=λ{k} e hk=>by
     have:=(Pc.mp e).1;rw[PK,st.len,Nq] at this;rw[Pl (by rw[st.len];omega)] at e
     exact e
    rcases st.nd m n a (lt h1 hm) (lt h2 hn) ne with ⟨ns,e⟩ | ⟨ns,e⟩
    ·exact .inl ⟨ns,up e⟩
    ·exact .inr ⟨ns,up e⟩
 ·by_cases hn:n=S.length
  ·subst hn
   rw[lenE] at h1;cases h1;have ha:a=p:=by
    rw[<-st.len,Px (Po _)] at h2
    simpa using h2.symm
   subst ha;exact r
  ·have hl:n<S.length:=by
    have:=(Pc.mp h1).1;rw[PK,Nq] at this;omega
   rw[Pl hl] at h1;rw[Pl (by rw[st.len];exact hl)] at h2
   exact (st.ob n ob a h1 h2).keep (XF hp) λu e=>by rw[Ze (Zn e hp)];exact e
theorem Yv {xs ys:List V}(h:H a=some (.lst xs)):Fut ρ H ρ (upd H a (.lst ys)):=⟨⟨[],by simp⟩,λb zs e=>by
 rw[Ze (by intro z;rw[z,h] at e;cases e)];exact e⟩
theorem St3.wr {xs ys:List V}{ds es:List D}(st:St3 K ρ S H) (hr:ρ[n]? = some a) (hS:S[n]? = some (.lst ds)) (h:H a=some (.lst xs)) (r:Rq ρ H es ys):St3 K ρ (S.set n (.lst es)) (upd H a (.lst ys)):=by
 have f:=Yv (ρ:=ρ) (ys:=ys) h;refine⟨by rw[Pz];exact st.len,λm k b h1 h2 ne=>?_,λm ob b h1 h2=>?_,st.tb.upd (λob u z=>by rw[h] at z;cases z) λps z=>by cases z⟩
 ·have keep:∀{j:Nat} {ns:List Int},S[j]? = some (.scr ns)->(S.set n (.lst es))[j]? = some (.scr ns):=λ{j ns} e=>by
   rw[Nh];split
   ·rename_i z;rw[<-z,hS] at e;cases e
   ·exact e
  rcases st.nd m k b h1 h2 ne with ⟨ns,e⟩ | ⟨ns,e⟩
  ·exact .inl ⟨ns,keep e⟩
  ·exact .inr ⟨ns,keep e⟩
 ·by_cases hm:n=m
  ·subst hm
   rw[hr] at h2;cases h2;rw[Nh,Pj rfl] at h1;split at h1
   ·cases h1
    exact⟨ys,Zi,r.mono f⟩
   ·cases h1
  ·rw[Nh,Pm hm] at h1
   have q:=st.ob m ob b h1 h2;by_cases hb:b=a
   ·subst hb
    rcases st.nd n m b hr h2 hm with ⟨ns,e⟩ | ⟨ns,e⟩
    ·rw[hS] at e;cases e
    ·rw[h1] at e
     cases e;rcases q with ⟨o,e⟩ | q
     ·rw[h] at e;cases e
     ·exact .inr q
   ·exact q.keep f λu e=>by rw[Ze hb];exact e
theorem St3.lst (st:St3 K ρ S H) {ds:List D}(h:Ev.Zc S n=some ds):S[n]? = some (.lst ds)/\∃a xs,ρ[n]? = some a/\H a=some (.lst xs)/\Rq ρ H ds xs:=by
 unfold Ev.Zc at h;split at h
 ·rename_i zs e
  cases h;obtain⟨a,hr,xs,e2,r⟩:=st.at e;exact⟨e,a,xs,hr,e2,r⟩
 ·cases h
theorem St3.seq (st:St3 K ρ S H) {ds:List D}(h:Ev.ZP S n=some ds):∃a xs,ρ[n]? = some a/\SqL K H a xs/\Rq ρ H ds xs:=by
 unfold Ev.ZP at h;split at h
 ·rename_i zs e
  cases h;obtain⟨a,hr,xs,e2,r⟩:=st.at e;exact⟨a,xs,hr,SqL.of e2,r⟩
 ·rename_i ns e
  cases h;obtain⟨a,hr,q⟩:=st.at e;exact⟨a,_,hr,Scr.sq q,Rq.ints ns⟩
 ·cases h
end
section
variable {ρ:List Addr}{H:Hp}{v:V}
theorem Rep.int' {i:Int}(h:Rep ρ H (.int i) v):v=.int i:=by unfold Rep at h;exact h
theorem Rep.bl' {b:Bool}(h:Rep ρ H (.bl b) v):v=.bl b:=by unfold Rep at h;exact h
theorem Rep.non' (h:Rep ρ H .non v):v=.non:=by unfold Rep at h;exact h
theorem Rep.str' {x:Str}(h:Rep ρ H (.str x) v):v=.str x:=by unfold Rep at h;exact h
theorem Rep.tup' {ds:List D}(h:Rep ρ H (.tup ds) v):∃a xs,v=.ref a/\H a=some (.tup xs)/\Rq ρ H ds xs:=by unfold Rep at h;exact h
theorem Rep.loc' {n:Nat}(h:Rep ρ H (.loc n) v):∃a,v=.ref a/\ρ[n]? = some a:=by unfold Rep at h;exact h
theorem Zf (i:Int):Rep ρ H (.int i) (.int i):=by unfold Rep;rfl
theorem Zh (b:Bool):Rep ρ H (.bl b) (.bl b):=by unfold Rep;rfl
theorem Yf:Rep ρ H .non .non:=by unfold Rep;rfl
theorem yH (x:Str):Rep ρ H (.str x) (.str x):=by unfold Rep;rfl
theorem ZE {ds:List D}{a:Addr}{xs:List V}(h:H a=some (.tup xs)) (r:Rq ρ H ds xs):Rep ρ H (.tup ds) (.ref a):=by unfold Rep;exact⟨a,xs,rfl,h,r⟩
theorem Wb {n:Nat}{a:Addr}(h:ρ[n]? = some a):Rep ρ H (.loc n) (.ref a):=by unfold Rep;exact⟨a,rfl,h⟩
end
theorem XJ:Ev.lim=sizeLine:=by rw[ND];rfl
section
variable {K:PySem.W.Frag}{xw:Nat->Hp->Prop}{ρ:List Addr}{H:Hp}{S:Za}{Q:VK}
theorem End.newT {ds:List D}{xs:List V}(h:End K xw Rep ρ H Q (.ok (.tup ds) S)) (st:St3 K ρ S H) (r:Rq ρ H ds xs):∀p,H p=none->Q (.ref p) (upd H p (.tup xs)):=λp hp=>
 h ρ _ _ (ZG hp) (st.fresh hp) (ZE Zi (r.mono (ZG hp)))
theorem End.newL {ds:List D}{xs:List V}(h:End K xw Rep ρ H Q (.ok (.loc S.length) (S++[.lst ds]))) (st:St3 K ρ S H) (r:Rq ρ H ds xs):∀p,H p=none->Q (.ref p) (upd H p (.lst xs)):=λp hp=>
 h (ρ++[p]) _ _ (XF hp) (st.new hp ⟨xs,Zi,r.mono (XF hp)⟩) (Wb (by rw[<-st.len];simp))
end
section
variable {X:Cx}{xw:Nat->Hp->Prop}{C:Calls}{e a b c:Expr}{i j k:E}{pos:Pos}
theorem QH {n:Int}{q}:CE X xw C (.Constant (.int n) q pos) (.c (.int n)):=PE.imp zR λσ H Q ⟨ρ,l,S,st,lr,h⟩=>End.ok h st (Zf n)
theorem zW {n:Bool}{q}:CE X xw C (.Constant (.bool n) q pos) (.c (.bl n)):=PE.imp xP λσ H Q ⟨ρ,l,S,st,lr,h⟩=>End.ok h st (Zh n)
theorem QE {q}:CE X xw C (.Constant .none q pos) (.c .non):=PE.imp Qh λσ H Q ⟨ρ,l,S,st,lr,h⟩=>End.ok h st Yf
theorem U2 {x:Str}{q}:CE X xw C (.Constant (.str x) q pos) (.c (.str x)):=PE.imp G2 λσ H Q ⟨ρ,l,S,st,lr,h⟩=>End.ok h st (yH x)
theorem vh (n:Nat) {x:Str}(hN:X.N[n]? = some x:=by rfl) (hv:Vis X.env.scope x:=by first | exact Or.inl rfl | exact Or.inr (Or.inl rfl) | exact Or.inr (Or.inr rfl)) (hd:(x == ("__debug__" : Str))=false:=by decide)
  (hcd:(x == ("__classdict__" : Str))=false:=by decide):CE X xw C (.Name x pos) (.v n):=PE.imp (YI hN hv hd hcd) λσ H Q ⟨ρ,l,S,st,lr,h⟩=>by
 rw[ev] at h;cases q:l[n]? with
 |none=>rw[q] at h;exact h.elim
 |some o=>
  cases o with
  |none=>rw[q] at h;exact h.elim
  |some d=>
   rw[q] at h;obtain⟨v,q2,r⟩:=lr.val n d q;exact⟨v,q2,End.ok h st r⟩
theorem QG:CA X xw C [] []:=PA.imp Yb λσ H Q ⟨ρ,l,S,st,lr,h⟩=>by
 rw[evs] at h;exact End.ok h st Rq.nil
theorem VG {es:List Expr}{is:List E}(ha:CE X xw C e i) (hr:CA X xw C es is) (hs:starEach (e::es) X.env=(false,eval e X.env)::starEach es X.env:=by rfl):CA X xw C (e::es) (i::is):=
 PA.imp (Zr ha hr hs) λσ H Q ⟨ρ,l,S,st,lr,h⟩=>by
  rw[evs] at h;exact⟨ρ,l,S,st,lr,h.bind λx S1 ρ1 H1 v f1 st1 r1 h1=>⟨ρ1,l,S1,st1,lr.mono f1,h1.bind λxs S2 ρ2 H2 vs f2 st2 r2 h2=>h2.ok st2 (Rq.cons (r1.mono f2) r2)⟩⟩
theorem Qy {es:List Expr}{is:List E}{q}(h:CA X xw C es is):CE X xw C (.Tuple es q pos) (.tup is):=PE.imp (GE h) λσ H Q ⟨ρ,l,S,st,lr,h⟩=>by
 rw[ev] at h;refine⟨ρ,l,S,st,lr,h.bind λxs S1 ρ1 H1 vs f1 st1 r1 h1=>?_⟩
 obtain⟨hl,h1⟩:=h1.guard;exact⟨by rw[r1.length,<-XJ];exact hl,h1.newT st1 r1⟩
theorem U0 {es:List Expr}{is:List E}(h:CA X xw C es is):CE X xw C (.List es pos) (.lst is):=PE.imp (VO h) λσ H Q ⟨ρ,l,S,st,lr,h⟩=>by
 rw[ev] at h;refine⟨ρ,l,S,st,lr,h.bind λxs S1 ρ1 H1 vs f1 st1 r1 h1=>?_⟩
 obtain⟨hl,h1⟩:=h1.guard;exact⟨by rw[r1.length,<-XJ];exact hl,h1.newL st1 r1⟩
theorem Y3 {r:R2}{g:D->D->Za->R D}(hg:∀{ρ H S x y v u Q},St3 X.K ρ S H->Rep ρ H x v->Rep ρ H y u->End X.K xw Rep ρ H Q (g x y S)->r v u H Q) :
  ∀σ H Q,tE X xw (λl S=>(ev C i l S).bind λx S=>(ev C j l S).bind λy S=>g x y S) σ H Q->tOp r (tE X xw (ev C i)) (tE X xw (ev C j)) σ H Q:=λσ H Q ⟨ρ,l,S,st,lr,h⟩=>
 ⟨ρ,l,S,st,lr,h.bind λx S1 ρ1 H1 v f1 st1 r1 h1=>⟨ρ1,l,S1,st1,lr.mono f1,h1.bind λy S2 ρ2 H2 u f2 st2 r2 h2=>hg st2 (r1.mono f2) r2 h2⟩⟩
end
section
variable {X:Cx}
def zu (K:PySem.W.Frag):R2:=λx y H Q=>∃a b ys,x=.ref a/\y=.ref b/\SqT K H a []/\SqT K H b ys/\Q (.ref b) H
theorem zH:OpR X (binaryOp .Add) (zu X.K):=by
 intro pq s σ H x y v u Q I rx ry h;obtain⟨a,b,ys,rfl,rfl,ha,hb,q⟩:=h;cases rx;cases ry;obtain⟨its,r1,p1,_⟩:=I.tuple ha;obtain⟨its2,r2,p2,_⟩:=I.tuple hb;have e0:its=[]:=r1.nil_iff.mpr rfl;obtain⟨⟨cls,dd,data,sl⟩,ho,hc,n,hd⟩:=id p1;obtain⟨⟨cls2,dd2,data2,sl2⟩,ho2,hc2,n2,hd2⟩:=id p2;simp only at hc hd hc2 hd2;subst hc hd hc2 hd2;exact concat_meets ⟨_,ho,rfl⟩ ⟨_,ho2,rfl⟩ noFill_tuple_add seq_tuple_add NT NP (NJ _ _)
   (tuple_addW0 a b its.toArray its2.toArray n n2 dd dd2 sl sl2 (by rw[e0];rfl)) ⟨ho,ho2,⟨.ref b,H,I,rfl,q⟩⟩
theorem Wf {i:Int}(h:Ev.fits i=true):Builtin.Int.intBits i<=2^20:=by
 have h1:i.natAbs<2^8000:=Py h;unfold Builtin.Int.intBits;split
 ·exact Kb _
 ·rename_i hz
  have hne:i.natAbs≠0:=by intro z;exact hz (by simp[Int.natAbs_eq_zero.mp z])
  have:=(Nat.log2_lt hne).mpr h1;have e:(2:Nat)^20=1048576:=by decide
  omega
theorem zT:OpR X (binaryOp .FloorDiv) (rI (λ_ j=>0<j/\j<Ev.big) λi j=>.int (i / j)):=opI λi j _ _ _ _ _ hc q=>by
 have h1:(0:Int)<j:=hc.1;have h2:j<Ev.big:=hc.2;have hne:j.natAbs≠0:=by omega
 have h3:j.natAbs<2^8000:=by
  have e:(j.natAbs:Int)=j:=Int.natAbs_of_nonneg (by omega)
  have h4:(j.natAbs:Int)<((2^8000:Nat):Int):=by rw[e,Int.natCast_pow];exact h2
  exact Int.ofNat_lt.mp h4
 have h5:=(Nat.log2_lt hne).mpr h3;exact floordiv_int (by omega) (by rw[Int.fdiv_eq_ediv_of_nonneg i (by omega)];exact q) (.inl (PyProof.noPylong_of_log2 (by omega)))
theorem yu:OpR X (binaryOp .Mult) (rI (λi j=>Ev.fits i=true/\Ev.fits j=true) λi j=>.int (i*j)):=opI λ_ _ _ _ _ _ _ hc q=>mul_int q (IntMulOk.of_bits (Wf hc.1) (Wf hc.2))
theorem GR:OpR X (inplaceOp .Mult) (rI (λi j=>Ev.fits i=true/\Ev.fits j=true) λi j=>.int (i*j)):=opI λ_ _ _ _ _ _ _ hc q=>imul_int q (IntMulOk.of_bits (Wf hc.1) (Wf hc.2))
end
end Sd
namespace Sd
open PySem PySem.Spec PyProof.Rows L2
theorem Vb:fillsNumberSlot (.type "tuple") "mul" = pure false:=
 PySem.fillsNumberSlot_seq (id:="tuple.__mul__") (r:=some (.builtin "tuple.__rmul__")) F.slot_tuple_mul.lookup (by decide +kernel) F.slot_tuple_rmul.lookup (by decide +kernel)
theorem V2:seqRepeat? (.type "tuple")=pure (some (.builtin "tuple.__mul__")):=by
 unfold seqRepeat?
 rw[PySem.seqSlot_of (T:="tuple") (name:="__mul__") (id:="tuple.__mul__") F.slot_tuple_mul.lookup (by decide +kernel),PySem.seqSlot_of (T:="tuple") (name:="__rmul__") (id:="tuple.__rmul__") F.slot_tuple_rmul.lookup (by decide +kernel)]
 rfl
theorem Wp (a:Int) (t:Tok) (l:Addr) (items:Array Value) (n:Nat) (dd:Option Addr) (sl:Array (Option Value)) :
  Meets (Builtin.«int.__rmul__» ⟨[.int a t,.ref l],[]⟩) (λ_ R s=>s.heap.get? l=some { cls:=.type "tuple",dict:=dd,data:=.seq items n,slots:=sl }/\R (.ok (.ret Value.notImplemented)) s):=
 .of_wp λprog w A R s h=>by obtain⟨hp,g,d,tk,os⟩:=s;obtain⟨hl,h⟩:=h;wp_walk;exact⟨_,rfl,h⟩
theorem Ua (l:Addr) (items:Array Value) (n:Nat) (dd:Option Addr) (sl:Array (Option Value)) (x:Int) (u:Tok) (h0:¬(x < -(2^63)||x>=2^63)=true) (hc:(items.isEmpty||x == 1)=true) :
  Meets (Builtin.«tuple.__mul__» ⟨[.ref l,.int x u],[]⟩) (λ_ R s=>s.heap.get? l=some { cls:=.type "tuple",dict:=dd,data:=.seq items n,slots:=sl }/\R (.ok (.ret (Value.ref l))) { s with heap:=s.heap,toks:=s.toks }):=
 .of_wp λprog w A R s h=>by obtain⟨hp,g,d,tk,os⟩:=s;obtain⟨hl,h⟩:=h;have f1:=AutoSeq1.idx_int;have f2:=Nd;wp_walk;rw[Pm h0];wp_walk using P9 hl;exact⟨_,rfl,h⟩
theorem Uf (l:Addr) (items:Array Value) (n:Nat) (dd:Option Addr) (sl:Array (Option Value)) (x:Int) (u:Tok) (h0:¬(x < -(2^63)||x>=2^63)=true) (hc:¬(items.isEmpty||x == 1)=true) (h1:(x<=0||items.isEmpty)=true) :
  Meets (Builtin.«tuple.__mul__» ⟨[.ref l,.int x u],[]⟩) (λ_ R s=>s.heap.get? l=some { cls:=.type "tuple",dict:=dd,data:=.seq items n,slots:=sl }/\R (.ok (.ret (Value.ref s.heap.objs.size))) { s with heap:=s.heap.push { cls:=.type "tuple",data:=.seq #[] },toks:=s.toks }):=
 .of_wp λprog w A R s h=>by obtain⟨hp,g,d,tk,os⟩:=s;obtain⟨hl,h⟩:=h;have f1:=AutoSeq1.idx_int;have f2:=Nd;wp_walk;rw[Pm h0];wp_walk using P9 hl;exact⟨_,rfl,h⟩
theorem US (l:Addr) (items:Array Value) (n:Nat) (dd:Option Addr) (sl:Array (Option Value)) (x:Int) (u:Tok) (h0:¬(x < -(2^63)||x>=2^63)=true) (hc:¬(items.isEmpty||x == 1)=true) (h1:¬(x<=0||items.isEmpty)=true)
  (h2:¬(items.size*x>(2^63-1) / 8)) (h3:¬Builtin.Tuple.tupleTooMany (items.size*x)=true) (hsz:((List.replicate x.toNat items).foldl (·++·) #[]).size<=sizeLine) :
  Meets (Builtin.«tuple.__mul__» ⟨[.ref l,.int x u],[]⟩) (λ_ R s=>s.heap.get? l=some { cls:=.type "tuple",dict:=dd,data:=.seq items n,slots:=sl }/\R (.ok (.ret (Value.ref s.heap.objs.size))) { s with heap:=s.heap.push { cls:=.type "tuple",data:=.seq ((List.replicate x.toNat items).foldl (·++·) #[]) },toks:=s.toks }):=
 .of_wp λprog w A R s h=>by obtain⟨hp,g,d,tk,os⟩:=s;obtain⟨hl,h⟩:=h;have f1:=AutoSeq1.idx_int;have f2:=Nd;wp_walk;rw[Pm h0];wp_walk using P9 hl;rw[Pm h2];wp_walk using P9 hl;exact⟨_,rfl,h⟩
def xW (K:PySem.W.Frag):R2:=λx y H Q=>∃a k xs,x=.ref a/\y=.int k/\SqT K H a xs/\(0<=k/\k<1000/\xs.length<=1000)/\
 ((xs=[]\/k=1)->Q (.ref a) H)/\(¬(xs=[]\/k=1)->∀p,H p=none->Q (.ref p) (upd H p (.tup (List.replicate k.toNat xs).flatten)))
theorem yj {X:Cx}:OpR X (binaryOp .Mult) (xW X.K):=by
 intro pq s σ H x y v u Q I rx ry h;obtain⟨a,k,xs,rfl,rfl,hx,⟨k0,k1,hz⟩,q1,q2⟩:=h;cases rx;obtain⟨t,rfl⟩:=ry;obtain⟨its,r,pt,_⟩:=I.tuple hx;have hl:=r.length;obtain⟨⟨cls,dd,data,sl⟩,ho,hc,n,hd⟩:=id pt;simp only at hc hd;subst hc hd;have h0:¬(decide (k < -(2^63))||decide (k>=2^63))=true:=by
  rw[P2 (by omega),P2 (by omega)];exact Pi
 refine wpAny_binaryOp_repeat_ref (T:="tuple") (U:="int") (by decide) ⟨_,ho,rfl⟩ (λs'=>typeIs_int s' k t) Vb F.fills_int_mul N4 V2 F.slot_int_index.lookup
  (NM N4 (typeIs_int s k t) F.entry_int_rmul (F.args_int_rmul_2 _ _) (Wp k t a its.toArray n dd sl) ⟨ho,rfl,⟨_,ho,rfl⟩,?_⟩)
 have hnil:its=[]↔xs=[]:=r.nil_iff;by_cases c:xs=[]\/k=1
 ·have c':(its.toArray.isEmpty||k == 1)=true:=by
   rcases c with c | c
   ·rw[hnil.mpr c];rfl
   ·rw[c];simp
  exact NM F.slot_tuple_mul ⟨_,ho,rfl⟩ F.entry_tuple_mul (F.args_tuple_mul_2 _ _) (Ua a its.toArray n dd sl k t h0 c') ⟨ho,⟨.ref a,H,I,rfl,q1 c⟩⟩
 ·have ne:its≠[]:=λz=>c (.inl (hnil.mp z))
  have k1:k≠1:=λz=>c (.inr z)
  have c':¬(its.toArray.isEmpty||k == 1)=true:=by
   rw[Nj.mpr k1,Bool.or_false,NX];cases its with
   |nil=>exact absurd rfl ne
   |cons _ _=>exact Pi
  have fin:∀arr:List Value,arr=(List.replicate k.toNat its).flatten->EP X pq σ Q (Value.ref s.heap.objs.size) { s with heap:=s.heap.push { cls:=.type "tuple",data:=.seq arr.toArray } }:=λarr e=>by
   subst e;refine⟨.ref s.heap.objs.size,_,I.laid (t':=s.toks) (o:=.tup (List.replicate k.toNat xs).flatten) (λb ob q=>Pe _ q) (Po _) ?_,rfl,q2 c _ (I.hok.fresh (Po _))⟩
   refine⟨?_,_,r.rep k.toNat,IsTup.new _ _⟩;rw[V9,ND];have:k.toNat*xs.length<=1000*1000:=Nat.mul_le_mul (by omega) hz
   omega
  by_cases z:k=0
  ·have h1:(decide (k<=0)||its.toArray.isEmpty)=true:=by rw[z];rfl
   refine NM F.slot_tuple_mul ⟨_,ho,rfl⟩ F.entry_tuple_mul (F.args_tuple_mul_2 _ _) (Uf a its.toArray n dd sl k t h0 c' h1) ⟨ho,?_⟩;exact fin [] (by rw[z];rfl)
  ·have h1:¬(decide (k<=0)||its.toArray.isEmpty)=true:=by
    rw[P2 (by omega),Bool.false_or,NX]
    cases its with
    |nil=>exact absurd rfl ne
    |cons _ _=>exact Pi
   have hm:(its.toArray.size:Int)*k<=1000*1000:=by
    rw[Pf,<-hl];exact Int.mul_le_mul (by omega) (by omega) k0 (by omega)
   have joined:(List.replicate k.toNat its.toArray).foldl (·++·) #[]=(List.replicate k.toNat its).flatten.toArray:=by
    have:=XT its k.toNat [];rw[List.nil_append] at this;exact this
   have hsz:((List.replicate k.toNat its.toArray).foldl (·++·) #[]).size<=sizeLine:=by
    rw[joined,Pf,V9,ND,<-hl];have:k.toNat*xs.length<=1000*1000:=Nat.mul_le_mul (by omega) hz
    omega
   refine NM F.slot_tuple_mul ⟨_,ho,rfl⟩ F.entry_tuple_mul (F.args_tuple_mul_2 _ _) (US a its.toArray n dd sl k t h0 c' h1 (by omega) (by
    unfold Builtin.Tuple.tupleTooMany;rw[P2 (by rw[ND];omega)]
    exact Pi) hsz) ⟨ho,?_⟩
   rw[joined];exact fin _ rfl
def xY:R2:=λx y H Q=>∃a k xs,x=.ref a/\y=.int k/\H a=some (.lst xs)/\(0<=k/\k<1000/\xs.length<=1000)/\∀p,H p=none->Q (.ref p) (upd H p (.lst (List.replicate k.toNat xs).flatten))
theorem yD {X:Cx}:OpR X (binaryOp .Mult) xY:=by
 intro pq s σ H x y v u Q I rx ry h;obtain⟨a,k,xs,rfl,rfl,hx,⟨k0,k1,hz⟩,q2⟩:=h;cases rx;obtain⟨t,rfl⟩:=ry;obtain⟨its,r,pl,_⟩:=I.list (SqL.of hx);have hl:=r.length;obtain⟨⟨cls,dd,data,sl⟩,n,ho,hc,hd2,hd⟩:=id pl;simp only at hc hd hd2;subst hc hd;have hm:k.toNat*its.length<=1000*1000:=Nat.mul_le_mul (by omega) (by omega)
 have hm2:its.length*k.toNat<=1000*1000:=by rw[Nat.mul_comm];exact hm
 refine wpAny_binaryOp_repeat_ref (T:="list") (U:="int") (by decide) ⟨_,ho,rfl⟩ (λs'=>typeIs_int s' k t) noFill_list_mul F.fills_int_mul N4 repeat_list F.slot_int_index.lookup
  (NM N4 (typeIs_int s k t) F.entry_int_rmul (F.args_int_rmul_2 _ _) (lm_int_rmul_list_any k t a its.toArray n dd sl) ⟨ho,rfl,⟨_,ho,rfl⟩,
   NM F.slot_list_mul ⟨_,ho,rfl⟩ F.entry_list_mul (F.args_list_mul_2 _ _) (lm_list_mul_any a its.toArray n dd sl k t (by simp[Builtin.List.listFitsIndex];omega) (by rw[Pf];omega) (by rw[Pf];simp[Builtin.List.listTooLong,sizeLine];omega)) ⟨ho,?_⟩⟩)
 have joined:(List.replicate (if its.toArray.isEmpty=true then 0 else k.toNat) its.toArray).foldl (λx1 x2=>x1++x2) #[]=(List.replicate k.toNat its).flatten.toArray:=by
  have h0:=XT its k.toNat [];rw[List.nil_append] at h0;by_cases z:its=[]
  ·subst z
   have e:∀m:Nat,(List.replicate m ([]:List Value)).flatten=[]:=λm=>by induction m with | zero=>rfl | succ m ih=>rw[PO,P0,ih];rfl
   rw[e];rfl
  ·rw[Pm (by rw[NX];cases its with | nil=>exact absurd rfl z | cons _ _=>exact Pi)]
   exact h0
 rw[joined];refine⟨.ref s.heap.objs.size,_,I.laid (t':=s.toks) (o:=.lst (List.replicate k.toNat xs).flatten) (λb ob q=>Pe _ q) (Po _) ?_,rfl,q2 _ (I.hok.fresh (Po _))⟩
 refine⟨?_,_,0,r.rep k.toNat,Ps _ rfl⟩;rw[V9,ND];rw[hl];omega
end Sd
namespace Sd
open PySem PySem.Spec PyProof.Rows L2
open Ev (D Ob Za Lc R E Sm Calls Walk Fl Fn Bop Cop Ty Bf Mf ev evs evo evt evw tst run runs)
section
variable {X:Cx}{xw:Nat->Hp->Prop}{C:Calls}{e a b c:Expr}{i j k:E}{pos:Pos}
variable {ρ:List Addr}{H:Hp}{S:Za}{x y:D}{v u:V}{Q:VK}{K:PySem.W.Frag}
def xL (K:PySem.W.Frag):R2:=λx y H Q=>rI0 (λi j=>.int (i+j)) x y H Q\/(xV K x y H Q\/(zu K x y H Q\/xa x y H Q))
theorem xD:OpR X (binaryOp .Add) (xL X.K):=vL.or (xm.or (zH.or Qu))
theorem ww (st:St3 K ρ S H) (rx:Rep ρ H x v) (ry:Rep ρ H y u) (h:End K xw Rep ρ H Q (Ev.ZW .add x y S)):xL K v u H Q:=by
 cases x with
 |int i=>cases y with
  |int j=>exact .inl ⟨i,j,rx.int',ry.int',End.ok h st (Zf _)⟩
  |_=>exact False.elim h
 |tup ds=>cases y with
  |tup es=>
   obtain⟨hl,h⟩:=End.guard h;obtain⟨p,xs,rfl,hp,r1⟩:=rx.tup';obtain⟨q,ys,rfl,hq,r2⟩:=ry.tup';have l1:=r1.length;have l2:=r2.length;by_cases z:xs=[]
   ·subst z
    have e1:ds=[]:=NQ.mp l1.symm;subst e1;exact .inr (.inr (.inl ⟨p,q,ys,rfl,rfl,SqT.of hp,SqT.of hq,End.ok h st (ZE hq r2)⟩))
   ·refine .inr (.inl ⟨p,q,xs,ys,rfl,rfl,SqT.of hp,SqT.of hq,z,by rw[l1,l2,<-XJ];exact hl,λz2=>?_,λ_=>h.newT st (r1.append r2)⟩)
    subst z2;have e2:es=[]:=NQ.mp l2.symm;subst e2;refine End.ok h st ?_;rw[Nt];exact ZE hp r1
  |_=>exact False.elim h
 |loc m=>cases y with
  |loc n=>
   have h':End K xw Rep ρ H Q (match Ev.Zc S m,Ev.Zc S n with
    |some a,some b=>if a.length+b.length<=Ev.lim then .ok (.loc S.length) (S++[.lst (a++b)]) else .no
    |_,_=>.no):=h
   cases e1:Ev.Zc S m with
   |none=>rw[e1] at h';exact False.elim h'
   |some ds=>
    cases e2:Ev.Zc S n with
    |none=>rw[e1,e2] at h';exact False.elim h'
    |some es=>
     rw[e1,e2] at h';obtain⟨hl,h⟩:=End.guard h';obtain⟨_,p,xs,q1,hp,r1⟩:=st.lst e1;obtain⟨_,q,ys,q2,hq,r2⟩:=st.lst e2;obtain⟨p',rfl,t1⟩:=rx.loc';obtain⟨q',rfl,t2⟩:=ry.loc';rw[q1] at t1;cases t1;rw[q2] at t2;cases t2;exact .inr (.inr (.inr ⟨p,q,xs,ys,rfl,rfl,hp,hq,by rw[r1.length,r2.length,<-XJ];exact hl,h.newL st (r1.append r2)⟩))
  |_=>exact False.elim h
 |_=>cases y <;> exact False.elim h
theorem vc (st:St3 K ρ S H) (rx:Rep ρ H x v) (ry:Rep ρ H y u) (h:End K xw Rep ρ H Q (Ev.ZW .sub x y S)):rI0 (λi j=>.int (i-j)) v u H Q:=by
 cases x with
 |int i=>cases y with
  |int j=>exact⟨i,j,rx.int',ry.int',End.ok h st (Zf _)⟩
  |_=>exact False.elim h
 |_=>cases y <;> exact False.elim h
def x8 (K:PySem.W.Frag):R2:=λx y H Q=>rI (λi j=>Ev.fits i=true/\Ev.fits j=true) (λi j=>.int (i*j)) x y H Q\/(xW K x y H Q\/xY x y H Q)
theorem xH:OpR X (binaryOp .Mult) (x8 X.K):=yu.or (yj.or yD)
theorem wt (st:St3 K ρ S H) (rx:Rep ρ H x v) (ry:Rep ρ H y u) (h:End K xw Rep ρ H Q (Ev.ZW .mul x y S)):x8 K v u H Q:=by
 cases x with
 |int i=>cases y with
  |int j=>
   obtain⟨hc,h⟩:=End.guard h;exact .inl ⟨i,j,rx.int',ry.int',(Ph _ _).mp hc,End.ok h st (Zf _)⟩
  |_=>exact False.elim h
 |tup ds=>cases y with
  |int k=>
   obtain⟨⟨h0,h1,h2⟩,h⟩:=End.guard h;obtain⟨p,xs,rfl,hp,r1⟩:=rx.tup';have l1:=r1.length;refine .inr <| .inl ⟨p,k,xs,rfl,ry.int',SqT.of hp,⟨h0,h1,by rw[l1];exact h2⟩,λz=>?_,λ_=>h.newT st (r1.rep k.toNat)⟩
   refine End.ok h st (ZE hp ?_);rcases z with z | z
   ·subst z
    have e1:ds=[]:=NQ.mp l1.symm;subst e1;have:∀m:Nat,(List.replicate m ([]:List D)).flatten=[]:=λm=>by induction m with | zero=>rfl | succ m ih=>rw[PO,P0,ih];rfl
    rw[this];exact Rq.nil
   ·subst z
    show Rq ρ H (List.replicate 1 ds).flatten xs;rw[PO,List.replicate_zero,P0,List.flatten_nil,Nt];exact r1
  |_=>exact False.elim h
 |loc m=>cases y with
  |int k=>
   have h':End K xw Rep ρ H Q (match Ev.Zc S m with
    |some a=>if 0<=k/\k<1000/\a.length<=1000 then .ok (.loc S.length) (S++[.lst (List.replicate k.toNat a).flatten]) else .no
    |none=>.no):=h
   cases e1:Ev.Zc S m with
   |none=>rw[e1] at h';exact False.elim h'
   |some ds=>
    rw[e1] at h';obtain⟨⟨h0,h1,h2⟩,h⟩:=End.guard h';obtain⟨_,p,xs,q1,hp,r1⟩:=st.lst e1;obtain⟨p',rfl,t1⟩:=rx.loc';rw[q1] at t1;cases t1;exact .inr (.inr ⟨p,k,xs,rfl,ry.int',hp,⟨h0,h1,by rw[r1.length];exact h2⟩,h.newL st (r1.rep k.toNat)⟩)
  |_=>exact False.elim h
 |_=>cases y <;> exact False.elim h
theorem yq (st:St3 K ρ S H) (rx:Rep ρ H x v) (ry:Rep ρ H y u) (h:End K xw Rep ρ H Q (Ev.ZW .fdiv x y S)):rI (λ_ j=>0<j/\j<Ev.big) (λi j=>.int (i / j)) v u H Q:=by
 cases x with
 |int i=>cases y with
  |int j=>
   obtain⟨hc,h⟩:=End.guard h;exact⟨i,j,rx.int',ry.int',hc,End.ok h st (Zf _)⟩
  |_=>exact False.elim h
 |_=>cases y <;> exact False.elim h
theorem vu (st:St3 K ρ S H) (rx:Rep ρ H x v) (ry:Rep ρ H y u) (h:End K xw Rep ρ H Q (Ev.ZW .mod x y S)):rI (λ_ j=>0<j) (λi j=>.int (i%j)) v u H Q:=by
 cases x with
 |int i=>cases y with
  |int j=>
   obtain⟨hc,h⟩:=End.guard h;exact⟨i,j,rx.int',ry.int',hc,End.ok h st (Zf _)⟩
  |_=>exact False.elim h
 |_=>cases y <;> exact False.elim h
theorem vF (st:St3 K ρ S H) (rx:Rep ρ H x v) (ry:Rep ρ H y u) (h:End K xw Rep ρ H Q (Ev.ZW .pow x y S)):rI CPow (λi j=>.int (i^j.toNat)) v u H Q:=by
 cases x with
 |int i=>cases y with
  |int j=>
   obtain⟨hc,h⟩:=End.guard h;exact⟨i,j,rx.int',ry.int',⟨hc.1,by omega,hc.2.2⟩,End.ok h st (Zf _)⟩
  |_=>exact False.elim h
 |_=>cases y <;> exact False.elim h
theorem Qf (ha:CE X xw C a i) (hb:CE X xw C b j):CE X xw C (.BinOp a .Add b pos) (.bin .add i j):=PE.imp (X7 xD ha hb) (Y3 λst rx ry h=>ww st rx ry h)
theorem QI (ha:CE X xw C a i) (hb:CE X xw C b j):CE X xw C (.BinOp a .Sub b pos) (.bin .sub i j):=PE.imp (X7 wB ha hb) (Y3 λst rx ry h=>vc st rx ry h)
theorem QK (ha:CE X xw C a i) (hb:CE X xw C b j):CE X xw C (.BinOp a .Mult b pos) (.bin .mul i j):=PE.imp (X7 xH ha hb) (Y3 λst rx ry h=>wt st rx ry h)
theorem VF (ha:CE X xw C a i) (hb:CE X xw C b j):CE X xw C (.BinOp a .FloorDiv b pos) (.bin .fdiv i j):=PE.imp (X7 zT ha hb) (Y3 λst rx ry h=>yq st rx ry h)
theorem QB (ha:CE X xw C a i) (hb:CE X xw C b j):CE X xw C (.BinOp a .Mod b pos) (.bin .mod i j):=PE.imp (X7 wf ha hb) (Y3 λst rx ry h=>vu st rx ry h)
theorem U9 (ha:CE X xw C a i) (hb:CE X xw C b j):CE X xw C (.BinOp a .Pow b pos) (.bin .pow i j):=PE.imp (X7 vp ha hb) (Y3 λst rx ry h=>vF st rx ry h)
theorem QL (ha:CE X xw C a i):CE X xw C (.UnaryOp .USub a pos) (.neg i):=PE.imp (xK ze ha) λσ H Q ⟨ρ,l,S,st,lr,h⟩=>by
 refine⟨ρ,l,S,st,lr,End.bind (show End X.K xw Rep ρ H Q ((ev C i l S).bind _) from h) λx S1 ρ1 H1 v f1 st1 r1 h1=>?_⟩
 cases x with
 |int n=>exact⟨n,r1.int',End.ok h1 st1 (Zf _)⟩
 |_=>exact False.elim h1
theorem Yk {n:Bool}(st:St3 K ρ S H) (rx:Rep ρ H x v) (h:Ev.ZN S x=some n):yi K v H n:=by
 cases x with
 |non=>rw[rx.non'];exact (Pa h).symm
 |bl b=>rw[rx.bl'];exact (Pa h).symm
 |int i=>
  rw[rx.int'];have h':=Pa h;show n=(i != 0);rw[<-h'];by_cases z:i=0
  ·subst z;rfl
  ·rw[PB z];exact (bne_iff_ne.mpr z).symm
 |tup ds=>
  obtain⟨p,xs,rfl,hp,r⟩:=rx.tup';have h':=Pa h;refine .inr (.inl ⟨xs,SqT.of hp,?_⟩);rw[<-h'];have:=r.length;cases ds <;> cases xs <;> first | rfl | (simp at this)
 |loc m=>
  have h2:(Ev.ZP S m).map (λxs=>!xs.isEmpty)=some n:=h
  cases e:Ev.ZP S m with
  |none=>rw[e] at h2;cases h2
  |some ds=>
   rw[e] at h2;obtain⟨p,xs,q,hp,r⟩:=st.seq e;obtain⟨p',rfl,t⟩:=rx.loc';rw[q] at t;cases t;refine .inl ⟨xs,hp,?_⟩;have h':=Pa h2;rw[<-h'];have:=r.length;cases ds <;> cases xs <;> first | rfl | (simp at this)
 |_=>cases h
theorem Qs (ha:CE X xw C a i) (he:∀whole,isTrue a X.env whole=(do let v <-whole;standAt a.pos;holding [v] (truthy v)):=by intro _;rfl):CT X xw C a i:=
 PT.imp (G0 ha he) λσ H Q ⟨ρ,l,S,st,lr,h⟩=>by
  refine⟨ρ,l,S,st,lr,End.bind (show End X.K xw YT ρ H Q ((ev C i l S).bind λx S=>Ev.ob (Ev.ZN S x) S) from h) λx S1 ρ1 H1 v f1 st1 r1 h1=>?_⟩
  cases q:Ev.ZN S1 x with
  |none=>rw[q] at h1;exact False.elim h1
  |some n=>rw[q] at h1;exact⟨n,Yk st1 r1 q,End.ok h1 st1 rfl⟩
theorem Qj (ha:CT X xw C a i):CT X xw C (.UnaryOp .Not a pos) (.not i):=PT.imp (zZ ha) λσ H Q ⟨ρ,l,S,st,lr,h⟩=>by
 refine⟨ρ,l,S,st,lr,?_⟩;have h':End X.K xw YT ρ H Q (((ev C i l S).bind λx S=>(Ev.ob (Ev.ZN S x) S).bind λb S=>.ok (.bl !b) S).bind λx S=>Ev.ob (Ev.ZN S x) S):=h
 show End X.K xw YT ρ H (λc H1=>Q (!c) H1) ((ev C i l S).bind λx S=>Ev.ob (Ev.ZN S x) S)
 cases q:ev C i l S with
 |no=>rw[q] at h';exact h'
 |ex c S1=>rw[q] at h';exact h'
 |ok x S1=>
  rw[q] at h';show End X.K xw YT ρ H _ (Ev.ob (Ev.ZN S1 x) S1);have h2:End X.K xw YT ρ H Q (((Ev.ob (Ev.ZN S1 x) S1).bind λb S=>.ok (.bl !b) S).bind λx S=>Ev.ob (Ev.ZN S x) S):=h'
  cases t:Ev.ZN S1 x with
  |none=>rw[t] at h2;exact h2
  |some n=>
   rw[t] at h2;intro ρ1 H1 w f1 st1 e;exact h2 ρ1 H1 (!w) f1 st1 (by rw[<-(show n=w from e)];rfl)
theorem UW (ha:CE X xw C a i):CE X xw C (.UnaryOp .Not a pos) (.not i):=by
 intro pq s σ H Q I hq;obtain⟨ρ,l,S,st,lr,h⟩:=hq;have h':End X.K xw Rep ρ H Q ((ev C i l S).bind λx S=>(Ev.ob (Ev.ZN S x) S).bind λb S=>.ok (.bl !b) S):=h
 refine UnaryOp_ (thn (ha pq s σ H (λv H1=>∃k,yi X.K v H1 k/\Q (.bl !k) H1) I ⟨ρ,l,S,st,lr,End.bind h' λx S1 ρ1 H1 v f1 st1 r1 h1=>?_⟩) λv s1 ⟨x,H1,I1,r1,q1⟩=>?_)
 ·cases q:Ev.ZN S1 x with
  |none=>rw[q] at h1;exact False.elim h1
  |some n=>rw[q] at h1;exact⟨n,Yk st1 r1 q,End.ok h1 st1 (Zh _)⟩
 ·obtain⟨k,tk,q2⟩:=q1
  refine not_of (thn (GM pq s1 σ H1 x v (λk' H'=>Q (.bl !k') H') I1 r1 ⟨k,tk,q2⟩) λk' s2 ⟨H2,I2,q3⟩=>?_)
  exact⟨.bl (!k'),H2,I2,rfl,q3⟩
theorem Qd {rest:List Expr}(ha:CE X xw C a i) (hb:CE X xw C (.BoolOp .And (b::rest) pos) j):CE X xw C (.BoolOp .And (a::b::rest) pos) (.and i j):=PE.imp (vy ha hb) λσ H Q ⟨ρ,l,S,st,lr,h⟩=>by
 refine⟨ρ,l,S,st,lr,End.bind (show End X.K xw Rep ρ H Q ((ev C i l S).bind _) from h) λx S1 ρ1 H1 v f1 st1 r1 h1=>?_⟩
 cases x with
 |bl c=>
  refine⟨c,r1.bl',?_⟩;cases c with
  |true=>exact⟨ρ1,l,S1,st1,lr.mono f1,h1⟩
  |false=>exact End.ok h1 st1 (Zh _)
 |_=>exact False.elim h1
def CWh (X:Cx) (xw:Nat->Hp->Prop) (C:Calls) (e:Expr) (i:E):Prop:=PW X e (tB3 X xw (tst C i))
theorem CWh.ct (h:CWh X xw C e i):CT X xw C e i:=PW.pt h
theorem PW.imp {X:Cx}{e:Expr}{t t':TT}(h:PW X e t) (k:∀σ H Q,t' σ H Q->t σ H Q):PW X e t':=λwh pq s σ H Q I q=>h wh pq s σ H Q I (k σ H Q q)
theorem VB (ha:CT X xw C a i):CWh X xw C (.BoolOp .And [a] pos) i:=yC ha
theorem Qk (ha:CT X xw C a i):CWh X xw C (.BoolOp .Or [a] pos) i:=GT ha
theorem Ub {rest:List Expr}(ha:CT X xw C a i) (hb:CWh X xw C (.BoolOp .And (b::rest) pos) j):CWh X xw C (.BoolOp .And (a::b::rest) pos) (.and i j):=PW.imp (vn ha hb) λσ H Q ⟨ρ,l,S,st,lr,h⟩=>by
 have h':End X.K xw YT ρ H Q (((ev C i l S).bind λx S=>match x with | .bl c=>if c then ev C j l S else .ok (.bl false) S | _=>.no).bind λx S=>Ev.ob (Ev.ZN S x) S):=h
 refine⟨ρ,l,S,st,lr,?_⟩;show End X.K xw YT ρ H _ ((ev C i l S).bind λx S=>Ev.ob (Ev.ZN S x) S)
 cases q:ev C i l S with
 |no=>rw[q] at h';exact h'
 |ex c S1=>rw[q] at h';exact h'
 |ok x S1=>
  rw[q] at h';cases x with
  |bl n=>
   intro ρ1 H1 w f1 st1 e;have e':n=w:=e;subst e';cases n with
   |true=>exact⟨ρ1,l,S1,st1,lr.mono f1,End.mono f1 (show End X.K xw YT ρ H Q ((ev C j l S1).bind λx S=>Ev.ob (Ev.ZN S x) S) from h')⟩
   |false=>exact (show End X.K xw YT ρ H Q (.ok false S1) from h') ρ1 H1 false f1 st1 rfl
  |_=>exact False.elim h'
theorem QX {rest:List Expr}(ha:CT X xw C a i) (hb:CWh X xw C (.BoolOp .Or (b::rest) pos) j):CWh X xw C (.BoolOp .Or (a::b::rest) pos) (.or i j):=PW.imp (xN ha hb) λσ H Q ⟨ρ,l,S,st,lr,h⟩=>by
 have h':End X.K xw YT ρ H Q (((ev C i l S).bind λx S=>match x with | .bl c=>if c then .ok (.bl true) S else ev C j l S | _=>.no).bind λx S=>Ev.ob (Ev.ZN S x) S):=h
 refine⟨ρ,l,S,st,lr,?_⟩;show End X.K xw YT ρ H _ ((ev C i l S).bind λx S=>Ev.ob (Ev.ZN S x) S)
 cases q:ev C i l S with
 |no=>rw[q] at h';exact h'
 |ex c S1=>rw[q] at h';exact h'
 |ok x S1=>
  rw[q] at h';cases x with
  |bl n=>
   intro ρ1 H1 w f1 st1 e;have e':n=w:=e;subst e';cases n with
   |false=>exact⟨ρ1,l,S1,st1,lr.mono f1,End.mono f1 (show End X.K xw YT ρ H Q ((ev C j l S1).bind λx S=>Ev.ob (Ev.ZN S x) S) from h')⟩
   |true=>exact (show End X.K xw YT ρ H Q (.ok true S1) from h') ρ1 H1 true f1 st1 rfl
  |_=>exact False.elim h'
end
section
variable {K:PySem.W.Frag}{ρ:List Addr}{H:Hp}{S:Za}
theorem W6 {f:D->D->Option Bool}(hf:∀x y v b,Rep ρ H x v->Rep ρ H y v->f x y=some b->b=true):∀{ds es:List D}{xs:List V}{b:Bool},Rq ρ H ds xs->Rq ρ H es xs->Ev.eqL f ds es=some b->b=true
 |[],[],_,b,_,_,h=>(Pa h).symm
 |d::ds,e::es,_,b,r1,r2,h=>by
  unfold Rq at r1 r2;obtain⟨v,vs,rfl,a1,b1⟩:=r1;obtain⟨v',vs',e',a2,b2⟩:=r2;cases e';unfold Ev.eqL at h;cases q1:f d e with
  |none=>rw[q1] at h;cases h
  |some p=>
   cases q2:Ev.eqL f ds es with
   |none=>rw[q1,q2] at h;cases h
   |some q=>
    rw[q1,q2] at h;have h':(p&&q)=b:=Pa h;rw[<-h',hf d e v p a1 a2 q1,W6 hf b1 b2 q2];rfl
 |[],_::_,_,b,r1,r2,h=>by
  have l1:=r1.length;have l2:=r2.length;rw[l1] at l2;simp at l2
 |_::_,[],_,b,r1,r2,h=>by
  have l1:=r1.length;have l2:=r2.length;rw[l1] at l2;simp at l2
theorem Xq (st:St3 K ρ S H):∀(k:Nat) (x y:D) (v:V) (b:Bool),Rep ρ H x v->Rep ρ H y v->Ev.eqD S k x y=some b->b=true
 |0,_,_,_,_,_,_,h=>by cases h
 |k+1,x,y,v,b,r1,r2,h=>by
  cases x with
  |non=>
   cases r1.non';cases y with
   |non=>exact (Pa h).symm
   |bl _=>cases r2.bl'
   |int _=>cases r2.int'
   |str _=>cases r2.str'
   |tup _=>obtain⟨_,_,z,_⟩:=r2.tup';cases z
   |loc _=>obtain⟨_,z,_⟩:=r2.loc';cases z
   |fn _=>unfold Rep at r2;exact r2.elim
   |exc _ _=>unfold Rep at r2;exact r2.elim
  |bl i=>
   cases r1.bl';cases y with
   |bl j=>cases r2.bl';have:=Pa h;rw[<-this];exact PB rfl
   |non=>cases r2.non'
   |int _=>cases r2.int'
   |str _=>cases r2.str'
   |tup _=>obtain⟨_,_,z,_⟩:=r2.tup';cases z
   |loc _=>obtain⟨_,z,_⟩:=r2.loc';cases z
   |fn _=>unfold Rep at r2;exact r2.elim
   |exc _ _=>unfold Rep at r2;exact r2.elim
  |int i=>
   cases r1.int';cases y with
   |int j=>cases r2.int';have:=Pa h;rw[<-this];exact PB rfl
   |non=>cases r2.non'
   |bl _=>cases r2.bl'
   |str _=>cases r2.str'
   |tup _=>obtain⟨_,_,z,_⟩:=r2.tup';cases z
   |loc _=>obtain⟨_,z,_⟩:=r2.loc';cases z
   |fn _=>unfold Rep at r2;exact r2.elim
   |exc _ _=>unfold Rep at r2;exact r2.elim
  |str i=>
   cases r1.str';cases y with
   |str j=>cases r2.str';have:=Pa h;rw[<-this];exact PB rfl
   |non=>cases r2.non'
   |bl _=>cases r2.bl'
   |int _=>cases r2.int'
   |tup _=>obtain⟨_,_,z,_⟩:=r2.tup';cases z
   |loc _=>obtain⟨_,z,_⟩:=r2.loc';cases z
   |fn _=>unfold Rep at r2;exact r2.elim
   |exc _ _=>unfold Rep at r2;exact r2.elim
  |tup ds=>
   obtain⟨p,xs,rfl,hp,q1⟩:=r1.tup';cases y with
   |tup es=>
    obtain⟨p',xs',z,hp',q2⟩:=r2.tup';cases z;rw[hp] at hp';cases hp';exact W6 (λx y v b=>Xq st k x y v b) q1 q2 h
   |non=>cases r2.non'
   |bl _=>cases r2.bl'
   |int _=>cases r2.int'
   |str _=>cases r2.str'
   |loc _=>cases h
   |fn _=>unfold Rep at r2;exact r2.elim
   |exc _ _=>unfold Rep at r2;exact r2.elim
  |loc m=>
   obtain⟨p,rfl,hp⟩:=r1.loc';cases y with
   |loc n=>
    obtain⟨p',z,hp'⟩:=r2.loc';cases z;have h':(match Ev.Zc S m,Ev.Zc S n with
     |some xs,some ys=>if xs.length=ys.length then Ev.eqL (Ev.eqD S k) xs ys else some false
     |_,_=>none)=some b:=h
    cases e1:Ev.Zc S m with
    |none=>rw[e1] at h';cases h'
    |some ds=>
     cases e2:Ev.Zc S n with
     |none=>rw[e1,e2] at h';cases h'
     |some es=>
      rw[e1,e2] at h';obtain⟨s1,a1,xs,t1,u1,q1⟩:=st.lst e1;obtain⟨s2,a2,ys,t2,u2,q2⟩:=st.lst e2;by_cases hmn:m=n
      ·subst hmn
       rw[e1] at e2;cases e2;have h2:(if ds.length=ds.length then Ev.eqL (Ev.eqD S k) ds ds else some false)=some b:=h'
       rw[Pj rfl] at h2;exact W6 (λx y v b=>Xq st k x y v b) q1 q1 h2
      ·rcases st.nd m n p hp hp' hmn with ⟨ns,z⟩ | ⟨ns,z⟩
       ·rw[s1] at z;cases z
       ·rw[s2] at z;cases z
   |non=>cases r2.non'
   |bl _=>cases r2.bl'
   |int _=>cases r2.int'
   |str _=>cases r2.str'
   |tup _=>cases h
   |fn _=>unfold Rep at r2;exact r2.elim
   |exc _ _=>unfold Rep at r2;exact r2.elim
  |fn _=>unfold Rep at r1;exact r1.elim
  |exc _ _=>unfold Rep at r1;exact r1.elim
noncomputable def eAt (f:D->D->Option Bool) (ds es:List D) (j:Nat):Bool:=match ds[j]?,es[j]? with
 |some x,some y=>(f x y).getD false
 |_,_=>false
theorem Yy {f:D->D->Option Bool}:∀{ds es:List D}{b:Bool},Ev.eqL f ds es=some b->
  ((List.range (min ds.length es.length)).all (eAt f ds es)&&ds.length == es.length)=b/\∀j x y,ds[j]? = some x->es[j]? = some y->f x y=some (eAt f ds es j)
 |[],[],b,h=>⟨Pa h,λj x y e=>by simp at e⟩
 |[],_::es,b,h=>⟨by rw[<-Pa h];simp,λj x y e=>by simp at e⟩
 |_::ds,[],b,h=>⟨by rw[<-Pa h];simp,λj x y _ e=>by simp at e⟩
 |d::ds,e::es,b,h=>by
  unfold Ev.eqL at h;cases q1:f d e with
  |none=>rw[q1] at h;cases h
  |some p=>
   cases q2:Ev.eqL f ds es with
   |none=>rw[q1,q2] at h;cases h
   |some q=>
    rw[q1,q2] at h;obtain⟨ih,ih2⟩:=Yy q2;have h':(p&&q)=b:=Pa h;have e0:eAt f (d::ds) (e::es) 0=p:=by simp[eAt,q1]
    have es':∀j,eAt f (d::ds) (e::es) (j+1)=eAt f ds es j:=λj=>by simp[eAt]
    refine⟨?_,λj x y hx hy=>?_⟩
    ·rw[<-h',<-ih,PF,PF,Nat.succ_min_succ,List.range_succ_eq_map,List.all_cons,e0,List.all_map]
     have:((List.range (min ds.length es.length)).all (eAt f (d::ds) (e::es)∘Nat.succ))=(List.range (min ds.length es.length)).all (eAt f ds es):=by
      exact congrArg (λg=>(List.range (min ds.length es.length)).all g) (funext λj=>es' j)
     rw[this,Bool.and_assoc]
     congr 2
     simp
    ·cases j with
     |zero=>
      simp at hx hy;subst hx hy;rw[e0];exact q1
     |succ j=>
      rw[es' j];exact ih2 j x y (by simpa using hx) (by simpa using hy)
end
section
variable {X:Cx}{pq:List (Addr×Obj)}{σ:L2.St}{H:Hp}{s:Shared}{ρ:List Addr}{S:Za}
theorem X2 {A:Around}{k:Nat}(h:A.units+(k+1)<cLine):A.in1.units+k<cLine:=by
 have e:A.in1.units<=A.units+1:=by
  first | exact Po _ | (simp[Around.in1,Around.units] <;> omega)
 omega
theorem Qm (I:Inv X pq σ H s) (st:St3 X.K ρ S H):∀(k:Nat) (A:Around) (x y:D) (v u:V) (vv uu:Value) (b:Bool),A.units+k<cLine->Rep ρ H x v->Rep ρ H y u->Zs v vv->Zs u uu->Ev.eqD S k x y=some b->SeqAt.EqAt A s vv uu b
 |0,_,_,_,_,_,_,_,_,_,_,_,_,_,h=>by cases h
 |k+1,A,x,y,v,u,vv,uu,b,hu,r1,r2,e1,e2,h=>by
  have flat:QT v=true->QT u=true->eqV v u=b->SeqAt.EqAt A s vv uu b:=λf1 f2 e=>by rw[<-e];exact wT e1 e2 f1 f2
  have bb:∀{a c:Bool},(a == c)=decide (a=c):=λ{a c}=>by cases a <;> cases c <;> rfl
  have ii:∀{a c:Int},(a == c)=decide (a=c):=λ{a c}=>by rw[P3];simp
  have ss:∀{a c:Str},(a == c)=decide (a=c):=λ{a c}=>by rw[P3];simp
  cases x with
  |non=>
   cases r1.non';cases y with
   |non=>cases r2.non';exact flat rfl rfl (Pa h)
   |bl _=>cases r2.bl';exact flat rfl rfl (Pa h)
   |int _=>cases r2.int';exact flat rfl rfl (Pa h)
   |str _=>cases r2.str';exact flat rfl rfl (Pa h)
   |_=>cases h
  |bl i=>
   cases r1.bl';cases y with
   |non=>cases r2.non';exact flat rfl rfl (Pa h)
   |bl _=>cases r2.bl';exact flat rfl rfl (bb.trans (Pa h))
   |int _=>cases r2.int';exact flat rfl rfl (ii.trans (Pa h))
   |str _=>cases r2.str';exact flat rfl rfl (Pa h)
   |_=>cases h
  |int i=>
   cases r1.int';cases y with
   |non=>cases r2.non';exact flat rfl rfl (Pa h)
   |bl _=>cases r2.bl';exact flat rfl rfl (ii.trans (Pa h))
   |int _=>cases r2.int';exact flat rfl rfl (ii.trans (Pa h))
   |str _=>cases r2.str';exact flat rfl rfl (Pa h)
   |_=>cases h
  |str i=>
   cases r1.str';cases y with
   |non=>cases r2.non';exact flat rfl rfl (Pa h)
   |bl _=>cases r2.bl';exact flat rfl rfl (Pa h)
   |int _=>cases r2.int';exact flat rfl rfl (Pa h)
   |str _=>cases r2.str';exact flat rfl rfl (ss.trans (Pa h))
   |_=>cases h
  |tup ds=>
   obtain⟨p,xs,rfl,hp,q1⟩:=r1.tup';cases e1;cases y with
   |tup es=>
    obtain⟨p',ys,rfl,hp',q2⟩:=r2.tup';cases e2;by_cases hpp:p=p'
    ·subst hpp
     rw[Xq st (k+1) (.tup ds) (.tup es) (.ref p) b r1 r2 h];exact N3 _
    ·obtain⟨its,v1,t1,_⟩:=I.tuple (SqT.of hp)
     obtain⟨its2,v2,t2,_⟩:=I.tuple (SqT.of hp');have h':Ev.eqL (Ev.eqD S k) ds es=some b:=h;obtain⟨ev,ea⟩:=Yy h';have n1:its.toArray.size=ds.length:=by rw[Pf,<-v1.length,q1.length]
     have n2:its2.toArray.size=es.length:=by rw[Pf,<-v2.length,q2.length]
     refine SeqAt.EqAt.of_refs hpp ?_;rw[<-ev,<-n1,<-n2];refine SeqAt.RcAt.tuples t1 t2 (by omega) λj j1 j2=>?_
     have d1:ds[j]? = some ds[j]:=Pb (by omega)
     have d2:es[j]? = some es[j]:=Pb (by omega)
     obtain⟨w1,g1,z1⟩:=q1.get d1;obtain⟨w2,g2,z2⟩:=q2.get d2;obtain⟨m1,k1,y1⟩:=v1.get g1;obtain⟨m2,k2,y2⟩:=v2.get g2;have o1:its.toArray[j]=m1:=by
      have:=Pc.mp k1
      simpa using this.2
     have o2:its2.toArray[j]=m2:=by
      have:=Pc.mp k2
      simpa using this.2
     rw[o1,o2];exact Qm I st k A.in1 ds[j] es[j] w1 w2 m1 m2 _ (X2 hu) z1 z2 y1 y2 (ea j _ _ d1 d2)
   |_=>cases h
  |loc m=>
   obtain⟨p,rfl,hp⟩:=r1.loc';cases e1;cases y with
   |loc n=>
    obtain⟨p',rfl,hp'⟩:=r2.loc';cases e2;by_cases hpp:p=p'
    ·subst hpp
     rw[Xq st (k+1) (.loc m) (.loc n) (.ref p) b r1 r2 h];exact N3 _
    ·have h':(match Ev.Zc S m,Ev.Zc S n with
      |some xs,some ys=>if xs.length=ys.length then Ev.eqL (Ev.eqD S k) xs ys else some false
      |_,_=>none)=some b:=h
     cases a1:Ev.Zc S m with
     |none=>rw[a1] at h';cases h'
     |some ds=>
      cases a2:Ev.Zc S n with
      |none=>rw[a1,a2] at h';cases h'
      |some es=>
       rw[a1,a2] at h';obtain⟨s1,c1,xs,t1,u1,q1⟩:=st.lst a1;obtain⟨s2,c2,ys,t2,u2,q2⟩:=st.lst a2;rw[hp] at t1;cases t1;rw[hp'] at t2;cases t2;obtain⟨its,v1,p1,_⟩:=I.list (SqL.of u1);obtain⟨its2,v2,p2,_⟩:=I.list (SqL.of u2);have n1:its.toArray.size=ds.length:=by rw[Pf,<-v1.length,q1.length]
       have n2:its2.toArray.size=es.length:=by rw[Pf,<-v2.length,q2.length]
       refine SeqAt.EqAt.of_refs hpp ?_;have h2:(if ds.length=es.length then Ev.eqL (Ev.eqD S k) ds es else some false)=some b:=h'
       by_cases hl:ds.length=es.length
       ·rw[Pj hl] at h2
        obtain⟨ev,ea⟩:=Yy h2;have ev':(List.range ds.length).all (eAt (Ev.eqD S k) ds es)=b:=by
         rw[<-ev,<-hl,Nat.min_self];simp
        rw[<-ev',<-n1];refine SeqAt.RcAt.lists p1.isList p2.isList (by omega) (by omega) λj j1 j2=>?_
        have d1:ds[j]? = some ds[j]:=Pb (by omega)
        have d2:es[j]? = some es[j]:=Pb (by omega)
        obtain⟨w1,g1,z1⟩:=q1.get d1;obtain⟨w2,g2,z2⟩:=q2.get d2;obtain⟨m1,k1,y1⟩:=v1.get g1;obtain⟨m2,k2,y2⟩:=v2.get g2;have o1:its.toArray[j]=m1:=by
         have:=Pc.mp k1
         simpa using this.2
        have o2:its2.toArray[j]=m2:=by
         have:=Pc.mp k2
         simpa using this.2
        rw[o1,o2];exact Qm I st k A.in1 ds[j] es[j] w1 w2 m1 m2 _ (X2 hu) z1 z2 y1 y2 (ea j _ _ d1 d2)
       ·rw[Pm hl] at h2
        rw[<-Pa h2];exact SeqAt.RcAt.lists_lengths p1.isList p2.isList (bne_iff_ne.mpr (by omega)) (by omega)
   |_=>cases h
  |_=>cases h
end
section
variable {X:Cx}{pq:List (Addr×Obj)}{σ:L2.St}{H:Hp}{s:Shared}{ρ:List Addr}{S:Za}
theorem Xv (I:Inv X pq σ H s) (st:St3 X.K ρ S H) {k:Nat}{A:Around}{ds es:List D}{xs ys:List V}{its its2:List Value}{b:Bool}(hu:A.units+(k+1)<cLine)
  (q1:Rq ρ H ds xs) (q2:Rq ρ H es ys) (v1:Vals xs its) (v2:Vals ys its2) (h:Ev.eqL (Ev.eqD S k) ds es=some b) :
  ∀j (h1:j<its.toArray.size) (h2:j<its2.toArray.size),SeqAt.EqAt A.in1 s its.toArray[j] its2.toArray[j] (eAt (Ev.eqD S k) ds es j):=λj j1 j2=>by
 obtain⟨_,ea⟩:=Yy h;have n1:its.toArray.size=ds.length:=by rw[Pf,<-v1.length,q1.length]
 have n2:its2.toArray.size=es.length:=by rw[Pf,<-v2.length,q2.length]
 have d1:ds[j]? = some ds[j]:=Pb (by omega)
 have d2:es[j]? = some es[j]:=Pb (by omega)
 obtain⟨w1,g1,z1⟩:=q1.get d1;obtain⟨w2,g2,z2⟩:=q2.get d2;obtain⟨m1,k1,y1⟩:=v1.get g1;obtain⟨m2,k2,y2⟩:=v2.get g2;have o1:its.toArray[j]=m1:=by
  have:=Pc.mp k1
  simpa using this.2
 have o2:its2.toArray[j]=m2:=by
  have:=Pc.mp k2
  simpa using this.2
 rw[o1,o2];exact Qm I st k A.in1 ds[j] es[j] w1 w2 m1 m2 _ (X2 hu) z1 z2 y1 y2 (ea j _ _ d1 d2)
end
section
variable {X:Cx}{xw:Nat->Hp->Prop}{C:Calls}{e a b c:Expr}{i j k:E}{pos p p':Pos}
def Gz (K:PySem.W.Frag) (xw:Nat->Hp->Prop) (op:Cop):R2:=λv u H Q=>∃ρ S x y,St3 K ρ S H/\Rep ρ H x v/\Rep ρ H y u/\End K xw Rep ρ H Q (Ev.Yp op x y S)
theorem wO {op:Cop}:∀σ H Q,tE X xw (ev C (.cmp op i j)) σ H Q->tOp (Gz X.K xw op) (tE X xw (ev C i)) (tE X xw (ev C j)) σ H Q:=λσ H Q h=>
 Y3 (r:=Gz X.K xw op) (g:=Ev.Yp op) (λ{ρ H S x y v u Q} st rx ry h=>⟨ρ,S,x,y,st,rx,ry,h⟩) σ H Q h
theorem dI {a c:Int}:(a == c)=decide (a=c):=by rw[P3];simp
theorem w6 (hu:X.A.units+6<cLine):OpR X (compareOp .Eq) (Gz X.K xw .eq):=by
 intro pq s σ H v u vv uu Q I e1 e2 h;obtain⟨ρ,S,x,y,st,rx,ry,h⟩:=h;have h0:End X.K xw Rep ρ H Q ((Ev.ob (Ev.eqD S Ev.ZA x y) S).bind λb S=>.ok (.bl b) S):=h
 obtain⟨b,hb,h1⟩:=End.ob h0;have q:Q (.bl b) H:=End.ok h1 st (Zh b);have flat:scal v u=true->decide (v=u)=b->wpAny (model X.prog X.w) X.A (compareOp .Eq vv uu) (EP X pq σ Q) X.xe s:=λhs e=>uK pq s σ H v u vv uu Q I e1 e2 ⟨hs,by rw[e];exact q⟩
 cases x with
 |non=>
  cases rx.non';cases y with
  |non=>cases ry.non';exact flat rfl (Pa hb▸by simp)
  |bl _=>cases ry.bl';exact flat rfl (Pa hb▸by simp)
  |int _=>cases ry.int';exact flat rfl (Pa hb▸by simp)
  |str _=>cases ry.str';exact flat rfl (Pa hb▸by simp)
  |_=>cases hb
 |bl i=>
  cases rx.bl';cases y with
  |non=>cases ry.non';exact flat rfl (Pa hb▸by simp)
  |bl j=>cases ry.bl';exact flat rfl (Pa hb▸by simp)
  |int j=>
   cases ry.int';cases e1;obtain⟨t,rfl⟩:=e2;refine EqBoolInt.eq_bool_int ⟨.bl b,H,I,?_,q⟩;show Value.bool ((if i then 1 else 0) == j)=Value.bool b
   rw[dI];exact congrArg Value.bool (Pa hb)
  |str _=>cases ry.str';exact flat rfl (Pa hb▸by simp)
  |_=>cases hb
 |int i=>
  cases rx.int';cases y with
  |non=>cases ry.non';exact flat rfl (Pa hb▸by simp)
  |bl j=>
   cases ry.bl';cases e2;obtain⟨t,rfl⟩:=e1;refine EqBoolInt.eq_int_bool ⟨.bl b,H,I,?_,q⟩;show Value.bool (i == (if j then 1 else 0))=Value.bool b
   rw[dI];exact congrArg Value.bool (Pa hb)
  |int _=>cases ry.int';exact flat rfl (Pa hb▸by simp)
  |str _=>cases ry.str';exact flat rfl (Pa hb▸by simp)
  |_=>cases hb
 |str i=>
  cases rx.str';cases y with
  |non=>cases ry.non';exact flat rfl (Pa hb▸by simp)
  |bl _=>cases ry.bl';exact flat rfl (Pa hb▸by simp)
  |int _=>cases ry.int';exact flat rfl (Pa hb▸by simp)
  |str _=>cases ry.str';exact flat rfl (Pa hb▸by simp)
  |_=>cases hb
 |tup ds=>
  obtain⟨p,xs,rfl,hp,q1⟩:=rx.tup';cases e1;cases y with
  |tup es=>
   obtain⟨p',ys,rfl,hp',q2⟩:=ry.tup';cases e2;obtain⟨its,v1,t1,_⟩:=I.tuple (SqT.of hp);obtain⟨its2,v2,t2,_⟩:=I.tuple (SqT.of hp');have hb':Ev.eqL (Ev.eqD S 5) ds es=some b:=hb;obtain⟨ev,_⟩:=Yy hb';have n1:its.toArray.size=ds.length:=by rw[Pf,<-v1.length,q1.length]
   have n2:its2.toArray.size=es.length:=by rw[Pf,<-v2.length,q2.length]
   refine SeqAt.RcAt.tuples t1 t2 (by omega) (Xv I st hu q1 q2 v1 v2 hb') X.prog X.w X.xe _ ?_
   rw[n1,n2,ev];exact⟨.bl b,H,I,rfl,q⟩
  |_=>cases hb
 |loc m=>
  obtain⟨p,rfl,hp⟩:=rx.loc';cases e1;cases y with
  |loc n=>
   obtain⟨p',rfl,hp'⟩:=ry.loc';cases e2;have h':(match Ev.Zc S m,Ev.Zc S n with
    |some xs,some ys=>if xs.length=ys.length then Ev.eqL (Ev.eqD S 5) xs ys else some false
    |_,_=>none)=some b:=hb
   cases a1:Ev.Zc S m with
   |none=>rw[a1] at h';cases h'
   |some ds=>
    cases a2:Ev.Zc S n with
    |none=>rw[a1,a2] at h';cases h'
    |some es=>
     rw[a1,a2] at h';obtain⟨s1,c1,xs,t1,u1,q1⟩:=st.lst a1;obtain⟨s2,c2,ys,t2,u2,q2⟩:=st.lst a2;rw[hp] at t1;cases t1;rw[hp'] at t2;cases t2;obtain⟨its,v1,p1,_⟩:=I.list (SqL.of u1);obtain⟨its2,v2,p2,_⟩:=I.list (SqL.of u2);have n1:its.toArray.size=ds.length:=by rw[Pf,<-v1.length,q1.length]
     have n2:its2.toArray.size=es.length:=by rw[Pf,<-v2.length,q2.length]
     have h2:(if ds.length=es.length then Ev.eqL (Ev.eqD S 5) ds es else some false)=some b:=h'
     by_cases hl:ds.length=es.length
     ·rw[Pj hl] at h2
      obtain⟨ev,_⟩:=Yy h2;have ev':(List.range ds.length).all (eAt (Ev.eqD S 5) ds es)=b:=by
       rw[<-ev,<-hl,Nat.min_self];simp
      refine SeqAt.RcAt.lists p1.isList p2.isList (by omega) (by omega) (Xv I st hu q1 q2 v1 v2 h2) X.prog X.w X.xe _ ?_
      rw[n1,ev'];exact⟨.bl b,H,I,rfl,q⟩
     ·rw[Pm hl] at h2
      refine SeqAt.RcAt.lists_lengths p1.isList p2.isList (bne_iff_ne.mpr (by omega)) (by omega) X.prog X.w X.xe _ ?_
      exact⟨.bl b,H,I,congrArg Value.bool (Pa h2),q⟩
  |_=>cases hb
 |_=>cases hb
theorem vj (hu:X.A.units+6<cLine):OpR X (compareOp .NotEq) (Gz X.K xw .ne):=by
 intro pq s σ H v u vv uu Q I e1 e2 h;obtain⟨ρ,S,x,y,st,rx,ry,h⟩:=h;have h0:End X.K xw Rep ρ H Q ((Ev.ob (Ev.eqD S Ev.ZA x y) S).bind λb S=>.ok (.bl !b) S):=h
 obtain⟨b,hb,h1⟩:=End.ob h0;have q:Q (.bl !b) H:=End.ok h1 st (Zh _);have flat:scal v u=true->decide (v=u)=b->wpAny (model X.prog X.w) X.A (compareOp .NotEq vv uu) (EP X pq σ Q) X.xe s:=λhs e=>vU pq s σ H v u vv uu Q I e1 e2 ⟨hs,by rw[e];exact q⟩
 cases x with
 |non=>
  cases rx.non';cases y with
  |non=>cases ry.non';exact flat rfl (Pa hb▸by simp)
  |bl _=>cases ry.bl';exact flat rfl (Pa hb▸by simp)
  |int _=>cases ry.int';exact flat rfl (Pa hb▸by simp)
  |str _=>cases ry.str';exact flat rfl (Pa hb▸by simp)
  |_=>cases hb
 |bl i=>
  cases rx.bl';cases y with
  |non=>cases ry.non';exact flat rfl (Pa hb▸by simp)
  |bl j=>cases ry.bl';exact flat rfl (Pa hb▸by simp)
  |int j=>
   cases ry.int';cases e1;obtain⟨t,rfl⟩:=e2;refine EqBoolInt.ne_bool_int ⟨.bl !b,H,I,?_,q⟩;show Value.bool (!((if i then 1 else 0) == j))=Value.bool !b
   rw[dI];exact congrArg (λz=>Value.bool !z) (Pa hb)
  |str _=>cases ry.str';exact flat rfl (Pa hb▸by simp)
  |_=>cases hb
 |int i=>
  cases rx.int';cases y with
  |non=>cases ry.non';exact flat rfl (Pa hb▸by simp)
  |bl j=>
   cases ry.bl';cases e2;obtain⟨t,rfl⟩:=e1;refine EqBoolInt.ne_int_bool ⟨.bl !b,H,I,?_,q⟩;show Value.bool (!(i == (if j then 1 else 0)))=Value.bool !b
   rw[dI];exact congrArg (λz=>Value.bool !z) (Pa hb)
  |int _=>cases ry.int';exact flat rfl (Pa hb▸by simp)
  |str _=>cases ry.str';exact flat rfl (Pa hb▸by simp)
  |_=>cases hb
 |str i=>
  cases rx.str';cases y with
  |non=>cases ry.non';exact flat rfl (Pa hb▸by simp)
  |bl _=>cases ry.bl';exact flat rfl (Pa hb▸by simp)
  |int _=>cases ry.int';exact flat rfl (Pa hb▸by simp)
  |str _=>cases ry.str';exact flat rfl (Pa hb▸by simp)
  |_=>cases hb
 |tup ds=>
  obtain⟨p,xs,rfl,hp,q1⟩:=rx.tup';cases e1;cases y with
  |tup es=>
   obtain⟨p',ys,rfl,hp',q2⟩:=ry.tup';cases e2;obtain⟨its,v1,t1,_⟩:=I.tuple (SqT.of hp);obtain⟨its2,v2,t2,_⟩:=I.tuple (SqT.of hp');have hb':Ev.eqL (Ev.eqD S 5) ds es=some b:=hb;obtain⟨ev,_⟩:=Yy hb';have n1:its.toArray.size=ds.length:=by rw[Pf,<-v1.length,q1.length]
   have n2:its2.toArray.size=es.length:=by rw[Pf,<-v2.length,q2.length]
   refine SeqAt.RcNeAt.tuples t1 t2 (by omega) (Xv I st hu q1 q2 v1 v2 hb') X.prog X.w X.xe _ ?_
   rw[n1,n2,ev];exact⟨.bl !b,H,I,rfl,q⟩
  |_=>cases hb
 |loc m=>
  obtain⟨p,rfl,hp⟩:=rx.loc';cases e1;cases y with
  |loc n=>
   obtain⟨p',rfl,hp'⟩:=ry.loc';cases e2;have h':(match Ev.Zc S m,Ev.Zc S n with
    |some xs,some ys=>if xs.length=ys.length then Ev.eqL (Ev.eqD S 5) xs ys else some false
    |_,_=>none)=some b:=hb
   cases a1:Ev.Zc S m with
   |none=>rw[a1] at h';cases h'
   |some ds=>
    cases a2:Ev.Zc S n with
    |none=>rw[a1,a2] at h';cases h'
    |some es=>
     rw[a1,a2] at h';obtain⟨s1,c1,xs,t1,u1,q1⟩:=st.lst a1;obtain⟨s2,c2,ys,t2,u2,q2⟩:=st.lst a2;rw[hp] at t1;cases t1;rw[hp'] at t2;cases t2;obtain⟨its,v1,p1,_⟩:=I.list (SqL.of u1);obtain⟨its2,v2,p2,_⟩:=I.list (SqL.of u2);have n1:its.toArray.size=ds.length:=by rw[Pf,<-v1.length,q1.length]
     have n2:its2.toArray.size=es.length:=by rw[Pf,<-v2.length,q2.length]
     have h2:(if ds.length=es.length then Ev.eqL (Ev.eqD S 5) ds es else some false)=some b:=h'
     by_cases hl:ds.length=es.length
     ·rw[Pj hl] at h2
      obtain⟨ev,_⟩:=Yy h2;have ev':(List.range ds.length).all (eAt (Ev.eqD S 5) ds es)=b:=by
       rw[<-ev,<-hl,Nat.min_self];simp
      refine SeqAt.RcNeAt.lists p1.isList p2.isList (by omega) (by omega) (Xv I st hu q1 q2 v1 v2 h2) X.prog X.w X.xe _ ?_
      rw[n1,ev'];exact⟨.bl !b,H,I,rfl,q⟩
     ·rw[Pm hl] at h2
      refine SeqAt.RcNeAt.lists_lengths p1.isList p2.isList (bne_iff_ne.mpr (by omega)) (by omega) X.prog X.w X.xe _ ?_
      exact⟨.bl !b,H,I,congrArg (λz=>Value.bool !z) (Pa h2),q⟩
  |_=>cases hb
 |_=>cases hb
end
section
variable {X:Cx}{xw:Nat->Hp->Prop}{C:Calls}{e a b c:Expr}{i j k:E}{pos p p':Pos}
variable {ρ:List Addr}{H:Hp}{S:Za}{x y:D}{v u:V}{Q:VK}{K:PySem.W.Frag}
theorem ur (st:St3 K ρ S H) (rx:Rep ρ H x v) (ry:Rep ρ H y u) (h:End K xw Rep ρ H Q (Ev.Yp .lt x y S)):rI0 (λi j=>.bl (decide (i<j))) v u H Q\/∃a b A B,x=.tup a/\y=.tup b/\Ev.Zz a=some A/\Ev.Zz b=some B/\Q (.bl (Ev.ltP A B)) H:=by
 cases x with
 |int i=>cases y with
  |int j=>exact .inl ⟨i,j,rx.int',ry.int',End.ok h st (Zh _)⟩
  |_=>exact False.elim h
 |tup a=>cases y with
  |tup b=>
   obtain⟨A,hA,h⟩:=End.ob (show End K xw Rep ρ H Q ((Ev.ob (Ev.Zz a) S).bind λP S=>(Ev.ob (Ev.Zz b) S).bind λQ S=>.ok (.bl (Ev.ltP P Q)) S) from h)
   obtain⟨B,hB,h⟩:=End.ob h;exact .inr ⟨a,b,A,B,rfl,rfl,hA,hB,End.ok h st (Zh _)⟩
  |_=>exact False.elim h
 |_=>cases y <;> exact False.elim h
theorem uB (st:St3 K ρ S H) (rx:Rep ρ H x v) (ry:Rep ρ H y u) (h:End K xw Rep ρ H Q (Ev.Yp .le x y S)):rI0 (λi j=>.bl (decide (i<=j))) v u H Q:=by
 cases x with
 |int i=>cases y with
  |int j=>exact⟨i,j,rx.int',ry.int',End.ok h st (Zh _)⟩
  |_=>exact False.elim h
 |_=>cases y <;> exact False.elim h
theorem uM (st:St3 K ρ S H) (rx:Rep ρ H x v) (ry:Rep ρ H y u) (h:End K xw Rep ρ H Q (Ev.Yp .ge x y S)):rI0 (λi j=>.bl (decide (j<=i))) v u H Q:=by
 cases x with
 |int i=>cases y with
  |int j=>exact⟨i,j,rx.int',ry.int',End.ok h st (Zh _)⟩
  |_=>exact False.elim h
 |_=>cases y <;> exact False.elim h
end
section
variable {X:Cx}{xw:Nat->Hp->Prop}{C:Calls}{e a b c:Expr}{i j k:E}{pos p p':Pos}
theorem YZ {α β γ:Type}(r:R α) (f:α->Za->R β) (g:β->Za->R γ):(r.bind f).bind g=r.bind λa S=>(f a S).bind g:=by cases r <;> rfl
theorem Wg {α β:Type}{o:Option α}{S S':Za}{f:α->Za->R β}{z:β}(h:(Ev.ob o S).bind f=.ok z S'):∃a,o=some a/\f a S=.ok z S':=by
 cases o with
 |none=>cases h
 |some a=>exact⟨a,rfl,h⟩
theorem GH {o:Cop}{x y:D}{S S':Za}{z:D}(h:Ev.Yp o x y S=.ok z S'):∃b,z=.bl b:=by
 have fin:∀{n:Bool},R.ok (D.bl n) S=.ok z S'->∃b,z=.bl b:=λ{n} e=>by cases e;exact⟨n,rfl⟩
 cases o with
 |eq=>obtain⟨_,_,e⟩:=Wg h;exact fin e
 |ne=>obtain⟨_,_,e⟩:=Wg h;exact fin e
 |lt=>cases x <;> cases y <;> first | exact fin h | (obtain⟨_,_,e⟩:=Wg h;obtain⟨_,_,e⟩:=Wg e;exact fin e) | cases h
 |gt=>cases x <;> cases y <;> first | exact fin h | cases h
 |le=>cases x <;> cases y <;> first | exact fin h | cases h
 |ge=>cases x <;> cases y <;> first | exact fin h | cases h
 |is=>cases x <;> cases y <;> first | exact fin h | cases h
 |isn=>cases x <;> cases y <;> first | exact fin h | cases h
 |inn=>cases q:Ev.XN S x y with
  |ok b S1=>have h':((Ev.XN S x y).bind λb S=>R.ok (D.bl b) S)=.ok z S':=h;rw[q] at h';cases h';exact⟨b,rfl⟩
  |ex _ _=>have h':((Ev.XN S x y).bind λb S=>R.ok (D.bl b) S)=.ok z S':=h;rw[q] at h';cases h'
  |no=>have h':((Ev.XN S x y).bind λb S=>R.ok (D.bl b) S)=.ok z S':=h;rw[q] at h';cases h'
 |nin=>cases q:Ev.XN S x y with
  |ok b S1=>have h':((Ev.XN S x y).bind λb S=>R.ok (D.bl !b) S)=.ok z S':=h;rw[q] at h';cases h';exact⟨!b,rfl⟩
  |ex _ _=>have h':((Ev.XN S x y).bind λb S=>R.ok (D.bl !b) S)=.ok z S':=h;rw[q] at h';cases h'
  |no=>have h':((Ev.XN S x y).bind λb S=>R.ok (D.bl !b) S)=.ok z S':=h;rw[q] at h';cases h'
def Xl (X:Cx) (xw:Nat->Hp->Prop) (op:CmpOp) (o:Cop):Prop:=OpR X (compareOp op) (Gz X.K xw o)
theorem OpR.imp {X:Cx}{f:Value->Value->Sem Value}{r r':R2}(h:OpR X f r) (k:∀v u H Q,r' v u H Q->r v u H Q):OpR X f r':=λpq s σ H x y v u Q I e1 e2 q=>h pq s σ H x y v u Q I e1 e2 (k x y H Q q)
theorem za (hu:X.A.units+7<cLine):Xl X xw .Eq .eq:=w6 (by omega)
theorem zP (hu:X.A.units+7<cLine):Xl X xw .NotEq .ne:=vj (by omega)
theorem Vr (hu:X.A.units+7<cLine):Xl X xw .LtE .le:=OpR.imp uh λv u H Q ⟨ρ,S,x,y,st,rx,ry,h⟩=>uB st rx ry h
theorem GV (hu:X.A.units+7<cLine):Xl X xw .GtE .ge:=OpR.imp vX λv u H Q ⟨ρ,S,x,y,st,rx,ry,h⟩=>uM st rx ry h
theorem Xh {op:CmpOp}{o:Cop}(hc:Xl X xw op o) (ha:CE X xw C a i) (hb:CE X xw C b j) (hm:behindInMarks op b=false:=by first | exact Ya _ | rfl | (with_unfolding_all rfl)):CE X xw C (.Compare a [op] [b] pos) (.cmp o i j):=
 PE.imp (QZ hc ha hb hm) (wO)
theorem Xe {op:CmpOp}{o:Cop}(hc:Xl X xw op o) (ha:CE X xw C a i) (hb:CE X xw C b j) (hm:behindInMarks op b=false:=by first | exact Ya _ | rfl | (with_unfolding_all rfl)):CT X xw C (.Compare a [op] [b] pos) (.cmp o i j):=
 PT.imp (yx hc ha hb hm) λσ H Q ⟨ρ,l,S,st,lr,h⟩=>by
  have h':End X.K xw YT ρ H Q (((ev C i l S).bind λx S=>(ev C j l S).bind λy S=>Ev.Yp o x y S).bind λx S=>Ev.ob (Ev.ZN S x) S):=h
  simp only[YZ] at h';refine⟨ρ,l,S,st,lr,h'.bind λx S1 ρ1 H1 v f1 st1 r1 h1=>⟨ρ1,l,S1,st1,lr.mono f1,h1.bind λy S2 ρ2 H2 u f2 st2 r2 h2=>⟨ρ2,S2,x,y,st2,r1.mono f2,r2,?_⟩⟩⟩
  have h3:∀{r:R D},(∀z S',r=.ok z S'->∃b,z=.bl b)->End X.K xw YT ρ2 H2 Q (r.bind λx S=>Ev.ob (Ev.ZN S x) S)->End X.K xw Rep ρ2 H2 (λx H'=>∃k,x=V.bl k/\Q k H') r:=λ{r} hr h=>by
   cases r with
   |no=>exact h
   |ex _ _=>exact h
   |ok z S3=>
    obtain⟨b,rfl⟩:=hr z S3 rfl;exact λρ3 H3 w f3 st3 r3=>⟨b,r3.bl',h ρ3 H3 b f3 st3 rfl⟩
  exact h3 (λz S' e=>GH e) h2
theorem Xk {op op':CmpOp}{o o':Cop}{d:Expr}{k:E}(hc:Xl X xw op o) (hc':Xl X xw op' o') (ha:CE X xw C a i) (hb:CE X xw C b j) (hd:CE X xw C d k)
  (hm:lastMarks [op,op'] [b,d]=false:=by with_unfolding_all rfl):CE X xw C (.Compare a [op,op'] [b,d] pos) (.chain o o' i j k):=
 PE.imp (ya hc hc' ha hb hd hm) λσ H Q ⟨ρ,l,S,st,lr,h⟩=>by
  refine⟨ρ,l,S,st,lr,End.bind (show End X.K xw Rep ρ H Q ((ev C i l S).bind _) from h) λx S1 ρ1 H1 v f1 st1 r1 h1=>⟨ρ1,l,S1,st1,lr.mono f1,h1.bind λy S2 ρ2 H2 u f2 st2 r2 h2=>⟨ρ2,S2,x,y,st2,r1.mono f2,r2,h2.bind λz S3 ρ3 H3 w f3 st3 r3 h3=>?_⟩⟩⟩
  cases z with
  |bl n=>
   refine⟨n,r3.bl',?_⟩;cases n with
   |true=>exact⟨ρ3,l,S3,st3,((lr.mono f1).mono f2).mono f3,End.bind (show End X.K xw Rep ρ3 H3 Q ((ev C k l S3).bind _) from h3) λt S4 ρ4 H4 t' f4 st4 r4 h4=>⟨ρ4,S4,y,t,st4,(r2.mono f3).mono f4,r4,h4⟩⟩
   |false=>exact End.ok h3 st3 (Zh _)
  |_=>exact False.elim h3
end
section
variable {X:Cx}{xw:Nat->Hp->Prop}{C:Calls}{e a b c:Expr}{i j k:E}{pos p p' p2:Pos}
variable {ρ:List Addr}{H:Hp}{S:Za}{x y:D}{v u:V}{Q:VK}{K:PySem.W.Frag}
theorem zM (ha:CE X xw C a i) (hb:CE X xw C b j) (hs:Jh b:=by intro _ _;with_unfolding_all rfl):CE X xw C (.Subscript a b pos) (.ix i j):=PE.imp (uJ (yQ.or wN) ha hb hs) (Y3 λ{ρ H S x y v u Q} st rx ry h=>by
 cases x with
 |tup ds=>cases y with
  |int n=>
   obtain⟨p,xs,rfl,hp,r⟩:=rx.tup';have h':End X.K xw Rep ρ H Q (Ev.ob (Ev.at' ds n) S):=h;cases q:Ev.at' ds n with
   |none=>rw[q] at h';exact False.elim h'
   |some d=>
    rw[q] at h';unfold Ev.at' at q;cases q2:Ev.ixN ds.length n with
    |none=>rw[q2] at q;cases q
    |some m=>
     rw[q2] at q;obtain⟨w,g,rw'⟩:=r.get (show ds[m]? = some d from q)
     refine .inr ⟨p,xs,n,w,rfl,ry.int',SqT.of hp,?_,End.ok h' st rw'⟩;unfold atI;rw[r.length,show ixN ds.length n=some m from q2]
     exact g
  |_=>exact False.elim h
 |loc m=>cases y with
  |int n=>
   have h':End X.K xw Rep ρ H Q (match Ev.ZP S m with
    |some xs=>Ev.ob (Ev.at' xs n) S
    |none=>.no):=h
   cases e1:Ev.ZP S m with
   |none=>rw[e1] at h';exact False.elim h'
   |some ds=>
    rw[e1] at h';obtain⟨p,xs,q1,hp,r⟩:=st.seq e1;obtain⟨p',rfl,t⟩:=rx.loc';rw[q1] at t;cases t;have h2:End X.K xw Rep ρ H Q (Ev.ob (Ev.at' ds n) S):=h';cases q:Ev.at' ds n with
    |none=>rw[q] at h2;exact False.elim h2
    |some d=>
     rw[q] at h2;unfold Ev.at' at q;cases q2:Ev.ixN ds.length n with
     |none=>rw[q2] at q;cases q
     |some k=>
      rw[q2] at q;obtain⟨w,g,rw'⟩:=r.get (show ds[k]? = some d from q)
      refine .inl ⟨p,xs,n,w,rfl,ry.int',hp,?_,End.ok h2 st rw'⟩;unfold atI;rw[r.length,show ixN ds.length n=some k from q2]
      exact g
  |_=>exact False.elim h
 |_=>cases y <;> exact False.elim h)
noncomputable def V8 (K:PySem.W.Frag) (xw:Nat->Hp->Prop) (f:Bf):List V->Hp->VK->Prop:=λvs H Q=>∃ρ S ds,St3 K ρ S H/\Rq ρ H ds vs/\End K xw Rep ρ H Q (Ev.Z8 f ds S)
theorem ZL.imp {X:Cx}{f:Value}{r r':List V->Hp->VK->Prop}(h:ZL X f r) (k:∀vs H Q,r' vs H Q->r vs H Q):ZL X f r':=λpq s σ H xs us Q I e q=>h pq s σ H xs us Q I e (k xs H Q q)
theorem Gw {f:Bf}{is:List E}:∀σ H Q,tE X xw (ev C (.blt f is)) σ H Q->tCB (V8 X.K xw f) (tA X xw (evs C is)) σ H Q:=λσ H Q ⟨ρ,l,S,st,lr,h⟩=>
 ⟨ρ,l,S,st,lr,End.bind (show End X.K xw Rep ρ H Q ((evs C is l S).bind _) from h) λxs S1 ρ1 H1 vs f1 st1 r1 h1=>⟨ρ1,S1,xs,st1,r1,h1⟩⟩
theorem X4 {d:D}{vs:List V}(r:Rq ρ H [d] vs):∃v,vs=[v]/\Rep ρ H d v:=by
 unfold Rq at r;obtain⟨v,ws,rfl,a1,b1⟩:=r;unfold Rq at b1;exact⟨v,by rw[b1],a1⟩
theorem Q3 {d e:D}{vs:List V}(r:Rq ρ H [d,e] vs):∃v w,vs=[v,w]/\Rep ρ H d v/\Rep ρ H e w:=by
 unfold Rq at r;obtain⟨v,ws,rfl,a1,b1⟩:=r;obtain⟨w,rfl,b2⟩:=X4 b1;exact⟨v,w,rfl,a1,b2⟩
theorem J2 (st:St3 K ρ S H) (rx:Rep ρ H x v) {ds:List D}(h:Ev.YA S x=some ds):∃p xs,v=.ref p/\(SqL K H p xs\/SqT K H p xs)/\Rq ρ H ds xs:=by
 cases x with
 |tup es=>
  cases h;obtain⟨p,xs,rfl,hp,r⟩:=rx.tup';exact⟨p,xs,rfl,.inr (SqT.of hp),r⟩
 |loc n=>
  obtain⟨p,rfl,hp⟩:=rx.loc';obtain⟨p',xs,q1,hx,r⟩:=st.seq (show Ev.ZP S n=some ds from h)
  rw[hp] at q1;cases q1;exact⟨p,xs,rfl,.inl hx,r⟩
 |_=>cases h
theorem Q8:ZL X (.builtin "len") (V8 X.K xw .len):=ZL.imp VI λvs H Q ⟨ρ,S,ds,st,r,h⟩=>by
 cases ds with
 |nil=>exact False.elim h
 |cons d ds=>cases ds with
  |cons _ _=>exact False.elim h
  |nil=>
   obtain⟨v,rfl,rv⟩:=X4 r;obtain⟨xs,hx,h1⟩:=End.ob (show End X.K xw Rep ρ H Q ((Ev.ob (Ev.YA S d) S).bind λxs S=>.ok (.int xs.length) S) from h)
   obtain⟨p,ys,rfl,hq,r2⟩:=J2 st rv hx;refine⟨p,ys,rfl,hq,?_⟩;rw[r2.length];exact End.ok h1 st (Zf _)
theorem wS:∀(as:List D) (S:Za),(∃a b,as=[.int a,.int b])\/Ev.Z8 .max2 as S=.no
 |[.int a,.int b],_=>.inl ⟨a,b,rfl⟩
 |[],_=>.inr rfl
 |[x],_=>.inr (by cases x <;> rfl)
 |x::y::_::_,_=>.inr (by cases x <;> first | rfl | (cases y <;> rfl))
 |[.non,_],_ | [.bl _,_],_ | [.str _,_],_ | [.tup _,_],_ | [.loc _,_],_ | [.fn _,_],_ | [.exc _ _,_],_=>.inr rfl
 |[.int _,.non],_ | [.int _,.bl _],_ | [.int _,.str _],_ | [.int _,.tup _],_ | [.int _,.loc _],_ | [.int _,.fn _],_ | [.int _,.exc _ _],_=>.inr rfl
theorem wH:∀(as:List D) (S:Za),(∃a b,as=[.int a,.int b])\/Ev.Z8 .min2 as S=.no
 |[.int a,.int b],_=>.inl ⟨a,b,rfl⟩
 |[],_=>.inr rfl
 |[x],_=>.inr (by cases x <;> rfl)
 |x::y::_::_,_=>.inr (by cases x <;> first | rfl | (cases y <;> rfl))
 |[.non,_],_ | [.bl _,_],_ | [.str _,_],_ | [.tup _,_],_ | [.loc _,_],_ | [.fn _,_],_ | [.exc _ _,_],_=>.inr rfl
 |[.int _,.non],_ | [.int _,.bl _],_ | [.int _,.str _],_ | [.int _,.tup _],_ | [.int _,.loc _],_ | [.int _,.fn _],_ | [.int _,.exc _ _],_=>.inr rfl
theorem wU:∀(as:List D) (S:Za),(∃a,as=[.int a])\/(∃b,as=[.bl b])\/Ev.Z8 .toInt as S=.no
 |[.int a],_=>.inl ⟨a,rfl⟩
 |[.bl b],_=>.inr (.inl ⟨b,rfl⟩)
 |x::_::_,_=>.inr (.inr (by cases x <;> rfl))
 |[],_ | [.non],_ | [.str _],_ | [.tup _],_ | [.loc _],_ | [.fn _],_ | [.exc _ _],_=>.inr (.inr rfl)
theorem ue:∀(as:List D) (S:Za),(∃a,as=[.tup a])\/(∃b,as=[.loc b])\/Ev.Z8 .tuple as S=.no
 |[.tup a],_=>.inl ⟨a,rfl⟩
 |[.loc b],_=>.inr (.inl ⟨b,rfl⟩)
 |x::_::_,_=>.inr (.inr (by cases x <;> rfl))
 |[],_ | [.non],_ | [.str _],_ | [.bl _],_ | [.int _],_ | [.fn _],_ | [.exc _ _],_=>.inr (.inr rfl)
theorem uP:∀(as:List D) (S:Za),(∃a,as=[a])\/Ev.Z8 .list as S=.no
 |[a],_=>.inl ⟨a,rfl⟩
 |[],_=>.inr rfl
 |x::_::_,_=>.inr (by cases x <;> rfl)
theorem wE:∀(as:List D) (S:Za),(∃b,as=[.loc b])\/Ev.Z8 .all as S=.no
 |[.loc b],_=>.inl ⟨b,rfl⟩
 |x::_::_,_=>.inr (by cases x <;> rfl)
 |[],_ | [.non],_ | [.str _],_ | [.bl _],_ | [.int _],_ | [.tup _],_ | [.fn _],_ | [.exc _ _],_=>.inr rfl
theorem Jd (hc:X.calm=true):ZL X (.builtin "max") (V8 X.K xw .max2):=ZL.imp (J8 hc) λvs H Q ⟨ρ,S,ds,st,r,h⟩=>by
 rcases wS ds S with ⟨m,n,rfl⟩ | e
 ·obtain⟨v,w,rfl,r1,r2⟩:=Q3 r
  exact⟨m,n,by rw[r1.int',r2.int'],End.ok h st (Zf _)⟩
 ·rw[e] at h;exact h.elim
theorem Q7 (hc:X.calm=true):ZL X (.builtin "min") (V8 X.K xw .min2):=ZL.imp (JM hc) λvs H Q ⟨ρ,S,ds,st,r,h⟩=>by
 rcases wH ds S with ⟨m,n,rfl⟩ | e
 ·obtain⟨v,w,rfl,r1,r2⟩:=Q3 r
  exact⟨m,n,by rw[r1.int',r2.int'],End.ok h st (Zf _)⟩
 ·rw[e] at h;exact h.elim
theorem Jf:ZL X (.type "int") (V8 X.K xw .toInt):=ZL.imp JZ λvs H Q ⟨ρ,S,ds,st,r,h⟩=>by
 rcases wU ds S with ⟨m,rfl⟩ | ⟨m,rfl⟩ | e
 ·obtain⟨v,rfl,r1⟩:=X4 r
  exact .inl ⟨m,by rw[r1.int'],End.ok h st (Zf _)⟩
 ·obtain⟨v,rfl,r1⟩:=X4 r
  exact .inr ⟨m,by rw[r1.bl'],End.ok h st (Zf _)⟩
 ·rw[e] at h;exact h.elim
theorem YQ {f:Bf}{id:String}{x:Str}{es:List Expr}{is:List E}(hc:ZL X (.builtin id) (V8 X.K xw f)) (hm:X.mg x=none) (ha:CA X xw C (e::es) is) (hg:Gl X x:=by rfl) (hv:bootBuiltins x=some (.builtin id):=by rfl) (hn:x≠"__name__":=by decide) (hdb:(x == ("__debug__" : Str))=false:=by decide)
  (he:starEach (e::es) X.env=(false,eval e X.env)::starEach es X.env:=by rfl) (hpl:(backTo pos (starEach es X.env)).any (·.1)=false:=by rfl):CE X xw C (.Call (.Name x p) (e::es) [] pos) (.blt f is):=
 PE.imp (Y1 hc hg hm hv ha hn hdb he hpl) Gw
theorem VZ {f:Bf}{id:String}{x:Str}{es:List Expr}{is:List E}(hc:ZL X (.type id) (V8 X.K xw f)) (hm:X.mg x=none) (ha:CA X xw C (e::es) is) (hg:Gl X x:=by rfl) (hv:bootBuiltins x=some (.type id):=by rfl) (hn:x≠"__name__":=by decide) (hdb:(x == ("__debug__" : Str))=false:=by decide)
  (he:starEach (e::es) X.env=(false,eval e X.env)::starEach es X.env:=by rfl) (hpl:(backTo pos (starEach es X.env)).any (·.1)=false:=by rfl):CE X xw C (.Call (.Name x p) (e::es) [] pos) (.blt f is):=
 PE.imp (J5 hc hg hm hv ha hn hdb he hpl) Gw
end
section
variable {X:Cx}{xw:Nat->Hp->Prop}{C:Calls}{e a b c:Expr}{i j k:E}{pos p p' p2:Pos}
theorem Wl:∀{ds:List D}{bs:List Bool},Ev.Ye ds=some bs->bs.length=ds.length/\∀j d,ds[j]? = some d->Ev.Ww d=some (bs.getD j false)
 |[],bs,h=>by cases h;exact⟨rfl,λj d e=>by simp at e⟩
 |d::ds,bs,h=>by
  unfold Ev.Ye at h;cases q1:Ev.Ww d with
  |none=>rw[q1] at h;cases h
  |some b=>
   cases q2:Ev.Ye ds with
   |none=>rw[q1,q2] at h;cases h
   |some cs=>
    rw[q1,q2] at h;cases h;obtain⟨l,ih⟩:=Wl q2;refine⟨by rw[PF,PF,l],λj d' e=>?_⟩
    cases j with
    |zero=>simp at e;subst e;simpa using q1
    |succ j=>simpa using ih j d' (by simpa using e)
theorem Ge (bs:List Bool):(List.range bs.length).all (λj=>bs.getD j false)=bs.all id:=by
 rw[P3,PH,PH]
 constructor
 ·intro h b hb
  obtain⟨j,hj,e⟩:=List.getElem_of_mem hb;have:=h j (Nm.mpr hj)
  simpa [Pb hj,e] using this
 ·intro h j hj
  have hj':=Nm.mp hj
  simpa [Pb hj'] using h bs[j] (N9 hj')
theorem Ud {prog:Program}{w:World}{A:Around}{ρ:List Addr}{H:Hp}{d:D}{v:V}{u:Value}{n:Bool}(r:Rep ρ H d v) (e:Zs v u) (h:Ev.Ww d=some n) (s:Shared) (Q:Bool->Shared->Prop) (E:Value->Shared->Prop) (q:Q n s) :
  wpAny (model prog w) A (truthy u) Q E s:=by
 cases d with
 |non=>cases r.non';cases e;cases h;exact truthy_none q
 |bl b=>cases r.bl';cases e;cases h;exact Ng q
 |int m=>
  cases r.int';obtain⟨t,rfl⟩:=e;have h':decide (m≠0)=n:=Pa h;refine PySem.P.truthy_int ?_;have:(m != 0)=n:=by
   rw[<-h'];by_cases z:m=0
   ·subst z;rfl
   ·rw[PB z];exact bne_iff_ne.mpr z
  rw[this];exact q
 |_=>cases h
theorem J3 (hc:X.calm=true):ZL X (.builtin "all") (λvs H Q=>∃ρ S ds n bs,St3 X.K ρ S H/\Rq ρ H [.loc n] vs/\Ev.Zc S n=some ds/\Ev.Ye ds=some bs/\Q (.bl (bs.all id)) H):=by
 intro pq s σ H vs us Q I r h;obtain⟨ρ,S,ds,n,bs,st,rs,hl,hb,q⟩:=h;obtain⟨v,rfl,r1⟩:=X4 rs;obtain⟨_,p,xs,q1,hx,rx⟩:=st.lst hl;obtain⟨p',rfl,t⟩:=r1.loc';rw[q1] at t;cases t;obtain⟨u,rfl,ru⟩:=UD r;cases ru;obtain⟨its,rv,pl,hz⟩:=I.list (SqL.of hx);obtain⟨lb,tb⟩:=Wl hb;have hlt:p<s.heap.objs.size:=by obtain⟨_,e,_⟩:=pl.isList;exact Pg e
 have hlen:its.toArray.size=bs.length:=by rw[Pf,<-rv.length,rx.length,lb]
 refine call_all_walk (NU pl.isList ⟨s.heap.objs.size,[s.heap.objs.size,p],[s.heap.objs.size],its.toArray.size,(λi v=>its.toArray[i]? = some v),(λi h=>h.IsListIter s.heap.objs.size p i/\h.IsList p its.toArray),λj=>bs.getD j false,rfl,Walks.list (A:=X.A.in1) (show X.A.in1.handled=none from I.ok.hd hc) s.heap.objs.size p (PX hlt) its.toArray,⟨⟨_,Ps _ rfl,rfl,rfl⟩,pl.isList.push _⟩,?_,?_⟩)
 ·intro j v s' Q' E' hv hQ'
  have hj:its[j]? = some v:=by simpa using hv
  have jl:j<ds.length:=by
   have:=(Pc.mp hj).1;rw[<-rv.length,rx.length] at this;exact this
  obtain⟨w',g,r'⟩:=rx.get (Pb jl);obtain⟨u',g',ru'⟩:=rv.get g;rw[hj] at g';cases g';exact Ud r' ru' (tb j _ (Pb jl)) s' Q' E' hQ'
 ·intro h' tk hk
  rw[hlen,Ge];have kp:∀b o,s.heap.get? b=some o->h'.get? b=some o:=λb o e=>hk b o (λhm=>by
   have:b=s.heap.objs.size:=by simpa using hm
   exact absurd (this▸Pg e) (PN _)) (Pe _ e)
  exact⟨.bl (bs.all id),H,I.kept (t':=tk) kp,rfl,q⟩
theorem Q9 (hc:X.calm=true):ZL X (.builtin "all") (V8 X.K xw .all):=ZL.imp (J3 hc) λvs H Q ⟨ρ,S,ds,st,r,h⟩=>by
 rcases wE ds S with ⟨n,rfl⟩ | e
 case inr=>rw[e] at h;exact h.elim
 case inl=>
  obtain⟨xs,hx,h1⟩:=End.ob (show End X.K xw Rep ρ H Q ((Ev.ob (Ev.Zc S n) S).bind λxs S=>(Ev.ob (Ev.Ye xs) S).bind λbs S=>.ok (.bl (bs.all id)) S) from h)
  obtain⟨bs,hb,h2⟩:=End.ob h1;exact⟨ρ,S,xs,n,bs,st,r,hx,hb,End.ok h2 st (Zh _)⟩
noncomputable def Zu:Ty->String
 |.int=>"int" | .bool=>"bool" | .str=>"str" | .tuple=>"tuple" | .list=>"list" | .dict=>"dict" | .cls _=>""
theorem U5 {K:PySem.W.Frag}{ρ:List Addr}{S:Za}{H:Hp}{x:D}{v:V}{t:Ty}{n:Bool}(st:St3 K ρ S H) (rx:Rep ρ H x v) (ht:∀m,t≠.cls m) (h:Ev.UN S x t=some n) :
  ∃tv,TyOf K H v tv/\PySem.W.kitOne K tv (.type (Zu t))=some n:=by
 cases x with
 |non=>rw[rx.non'];refine⟨_,.non,?_⟩;cases h;cases t <;> first | rfl | exact absurd rfl (ht _)
 |bl b=>rw[rx.bl'];refine⟨_,.bl b,?_⟩;cases h;cases t <;> first | rfl | exact absurd rfl (ht _)
 |int b=>rw[rx.int'];refine⟨_,.int b,?_⟩;cases h;cases t <;> first | rfl | exact absurd rfl (ht _)
 |str b=>rw[rx.str'];refine⟨_,.str b,?_⟩;cases h;cases t <;> first | rfl | exact absurd rfl (ht _)
 |tup ds=>
  obtain⟨p,xs,rfl,hp,_⟩:=rx.tup';refine⟨_,.tup hp,?_⟩;cases h;cases t <;> first | rfl | exact absurd rfl (ht _)
 |loc m=>
  obtain⟨p,rfl,hp⟩:=rx.loc';have h':(match S[m]? with
   |some (.lst _)=>some (decide (t=.list))
   |some (.dt _)=>some (decide (t=.dict))
   |some (.dk _)=>some (decide (t=.dict))
   |_=>none)=some n:=h
  cases q:S[m]? with
  |none=>rw[q] at h';cases h'
  |some o=>
   rw[q] at h';obtain⟨p',hp',ro⟩:=st.at q;rw[hp] at hp';cases hp';cases o with
   |lst xs=>obtain⟨ys,e,_⟩:=ro;refine⟨_,.lst e,?_⟩;cases h';cases t <;> first | rfl | exact absurd rfl (ht _)
   |dt kvs=>obtain⟨ys,e,_⟩:=ro;refine⟨_,.dT e,?_⟩;cases h';cases t <;> first | rfl | exact absurd rfl (ht _)
   |dk kvs=>obtain⟨ys,e,_⟩:=ro;refine⟨_,.dK e,?_⟩;cases h';cases t <;> first | rfl | exact absurd rfl (ht _)
   |_=>cases h'
 |_=>cases h
theorem GQ (T:String):ZL X (.builtin "isinstance") (λvs H Q=>∃v tv n,vs=[v,.ty T]/\TyOf X.K H v tv/\PySem.W.kitOne X.K tv (.type T)=some n/\Q (.bl n) H):=by
 intro pq s σ H vs us Q I r h;obtain⟨v,tv,n,rfl,ty,e,q⟩:=h;obtain⟨u,w',rfl,r1,r2⟩:=UQ r;cases r2;exact J0 I r1 ty e λtk=>⟨.bl n,H,I.tok tk,rfl,q⟩
theorem XX {T:Str}{t:Ty}(ht:∀m,t≠.cls m) (hm:X.mg "isinstance" = none) (hmT:X.mg T=none) (ha:CE X xw C a i) (hg:Gl X "isinstance":=by rfl) (hgT:Gl X T:=by rfl) (hvT:bootBuiltins T=some (.type (Zu t)):=by rfl) (hnT:T≠"__name__":=by decide) (hdT:(T == ("__debug__" : Str))=false:=by decide)
  (hs1:starEach [a,.Name T p2] X.env=(false,eval a X.env)::starEach [.Name T p2] X.env:=by rfl) (hs2:starEach [.Name T p2] X.env=(false,eval (.Name T p2) X.env)::starEach [] X.env:=by rfl) (hpl:(backTo pos (starEach [.Name T p2] X.env)).any (·.1)=false:=by rfl) :
  CE X xw C (.Call (.Name "isinstance" p) [a,.Name T p2] [] pos) (.isi i [t]):=
 PE.imp (Y1 (GQ (Zu t)) hg hm (by rfl) (Zr ha (Zr (We (v:=.ty (Zu t)) hgT hmT hvT rfl hnT hdT) Yb hs2) hs1) (by decide) (by decide) hs1 hpl) λσ H Q ⟨ρ,l,S,st,lr,h⟩=>by
  refine⟨ρ,l,S,st,lr,End.bind (show End X.K xw Rep ρ H Q ((ev C i l S).bind _) from h) λx S1 ρ1 H1 v f1 st1 r1 h1=>?_⟩
  obtain⟨n,hn,h2⟩:=End.ob h1;have hn':Ev.UN S1 x t=some n:=by
   unfold Ev.Wt at hn;cases q:Ev.UN S1 x t with
   |none=>rw[q] at hn;cases hn
   |some m=>rw[q] at hn;cases m <;> exact hn
  obtain⟨tv,ty,e⟩:=U5 st1 r1 ht hn';exact⟨v,tv,n,rfl,ty,e,End.ok h2 st1 (Zh _)⟩
def xA (P:Program) (w:World) (K:PySem.W.Frag) (a:Addr) (tab:List (Int×Int)):Prop:=(a == sysModules)=false/\∃f:Int->Option Value,(∀h:Heap,K.In h->h.MapOf (intKind P w) a f)/\∀k,(tab.lookup k=none->f k=none)/\∀j,tab.lookup k=some j->∃t,f k=some (.int j t)
theorem YS (i:Int):∀tab:List (Int×Int),(tab.map (·.1)).contains i=(tab.lookup i).isSome
 |[]=>rfl
 |(k,v)::r=>by
  rw[P1,List.contains_cons,YS i r,PL];cases h:(i == k) <;> simp
theorem z7 {tb:Addr}{tab:List (Int×Int)}(T:xA X.prog X.w X.K tb tab):OpR X (compareOp .In) (λv u H Q=>∃n,v=.int n/\u=.ref tb/\Q (.bl ((tab.map (·.1)).contains n)) H):=by
 intro pq s σ H v u vv uu Q I e1 e2 h;obtain⟨n,rfl,rfl,q⟩:=h;obtain⟨t,rfl⟩:=e1;cases e2;obtain⟨h1,f,hf,hk⟩:=T;refine wpAny_in_of (knd:=intKind X.prog X.w) (k:=n) (intKind_is _ _ _ _) h1 (hf s.heap I.kIn) ?_;refine⟨.bl _,H,I.tok _,?_,q⟩;show Value.bool (f n).isSome=Value.bool _;rw[YS];cases e:tab.lookup n with
 |none=>rw[(hk n).1 e];rfl
 |some j=>obtain⟨t',z⟩:=(hk n).2 j e;rw[z];rfl
theorem vo {tb:Addr}{tab:List (Int×Int)}{x:Str}(T:xA X.prog X.w X.K tb tab) (hm:X.mg x=some (.ref tb)) (ha:CE X xw C a i) (hg:Gl X x:=by rfl) (hd:(x == ("__debug__" : Str))=false:=by decide) (hmk:behindInMarks .In (.Name x p)=false:=by first | rfl | (with_unfolding_all rfl)) :
  CE X xw C (.Compare a [.In] [.Name x p] pos) (.inT i tab):=PE.imp (QZ (z7 T) ha (V4 (v:=.ref tb) hg hm rfl hd) hmk) λσ H Q ⟨ρ,l,S,st,lr,h⟩=>by
 refine⟨ρ,l,S,st,lr,End.bind (show End X.K xw Rep ρ H Q ((ev C i l S).bind _) from h) λx S1 ρ1 H1 v f1 st1 r1 h1=>?_⟩
 cases x with
 |int n=>exact⟨n,r1.int',rfl,End.ok h1 st1 (Zh _)⟩
 |_=>exact False.elim h1
theorem XY {o:Expr}{io:E}{apos cpos:Pos}(ho:CE X xw C o io) (ha:CA X xw C [e] [i])
  (hbase:attributeBase o "append" X.env (eval o X.env)=eval o X.env:=by rfl)
  (hfew:((backTo cpos (starEach [e] X.env)).all (λx=>!x.1)&&(backToKw cpos (keywordEach [] X.env)).all (λx=>x.1.isSome)
   && decide (([e]:List Expr).length+([]:List Keyword).length+(if ([]:List Keyword).isEmpty then 0 else 1)<30))=true:=by rfl)
  (hline:(apos.endLine == cpos.line)=true:=by rfl) (hs:starEach [e] X.env=(false,eval e X.env)::starEach [] X.env:=by rfl) (hplain:(backTo cpos (starEach [] X.env)).any (·.1)=false:=by rfl) :
  CE X xw C (.Call (.Attribute o "append" apos) [e] [] cpos) (.mt .append io [i]):=
 PE.imp (zV PySem.F.plainAttrs_list PySem.F.slot_list_append PySem.F.type_list_append XR ho ha hbase hfew hline hs hplain) λσ H Q ⟨ρ,l,S,st,lr,h⟩=>by
  have h':End X.K xw Rep ρ H Q ((ev C io l S).bind λx S=>if Ev.UC S x=true then (evs C [i] l S).bind λxs S=>Ev.X0 .append x xs S else .no):=h
  refine⟨ρ,l,S,st,lr,h'.bind λx S1 ρ1 H1 v f1 st1 r1 h1=>?_⟩
  obtain⟨hl,h1⟩:=h1.guard;cases x with
  |loc n=>
   obtain⟨p,rfl,hp⟩:=r1.loc';obtain⟨ds,hds⟩:=Nc.mp (show (Ev.Zc S1 n).isSome=true from hl)
   obtain⟨_,p',xs,q1,hx,_⟩:=st1.lst hds;rw[hp] at q1;cases q1;refine⟨.inl ⟨rfl,xs,SqL.of hx⟩,ρ1,l,S1,st1,lr.mono f1,h1.bind λys S2 ρ2 H2 vs f2 st2 r2 h2=>?_⟩
   match ys,r2,h2 with
   |[y],r2,h2=>
    obtain⟨w,rfl,rw'⟩:=X4 r2;obtain⟨zs,hz,h3⟩:=End.ob (show End X.K xw Rep ρ2 H2 Q ((Ev.ob (Ev.Zc S2 n) S2).bind λxs S=>if xs.length<Ev.lim then .ok .non (S.set n (.lst (xs++[y]))) else .no) from h2)
    obtain⟨hlen,h4⟩:=h3.guard;obtain⟨sn,p2,zs',q2,hz2,rz⟩:=st2.lst hz;rw[f2.at hp] at q2;cases q2;refine⟨p,zs',w,rfl,rfl,hz2,by rw[rz.length,<-XJ];exact hlen,?_⟩
    exact h4 ρ2 _ .non (Yv hz2) (st2.wr (f2.at hp) sn hz2 (rz.append (Rq.cons rw' Rq.nil))) Yf
   |[],r2,h2=>exact False.elim h2
   |_::_::_,r2,h2=>exact False.elim h2
  |_=>exact absurd hl (by simp[Ev.UC])
end
def ZC (K:PySem.W.Frag) (xw:Nat->Hp->Prop) (ρ:List Addr) (H:Hp) (D:Ends):R Fl->Prop
 |.ok (.nx l) S=>∀ρ' H' σ',Fut ρ H ρ' H'->St3 K ρ' S H'->LocR ρ' H' l σ'->D.nx σ' H'
 |.ok (.brk l) S=>∀ρ' H' σ',Fut ρ H ρ' H'->St3 K ρ' S H'->LocR ρ' H' l σ'->D.bk σ' H'
 |.ok (.cnt l) S=>∀ρ' H' σ',Fut ρ H ρ' H'->St3 K ρ' S H'->LocR ρ' H' l σ'->D.ct σ' H'
 |.ok (.ret d) S=>∀ρ' H' v,Fut ρ H ρ' H'->St3 K ρ' S H'->Rep ρ' H' d v->D.rt v H'
 |.ex c S=>∀ρ' H',Fut ρ H ρ' H'->St3 K ρ' S H'->xw c H'
 |.no=>False
section
variable {K:PySem.W.Frag}{xw:Nat->Hp->Prop}{ρ ρ':List Addr}{H H':Hp}{α β:Type}{rep:List Addr->Hp->α->β->Prop}{D:Ends}
theorem ZC.mono {r:R Fl}(f:Fut ρ H ρ' H') (h:ZC K xw ρ H D r):ZC K xw ρ' H' D r:=by
 cases r with
 |ok fl S=>
  cases fl with
  |nx l=>exact λρ2 H2 σ g=>h ρ2 H2 σ (f.trans g)
  |brk l=>exact λρ2 H2 σ g=>h ρ2 H2 σ (f.trans g)
  |cnt l=>exact λρ2 H2 σ g=>h ρ2 H2 σ (f.trans g)
  |ret d=>exact λρ2 H2 v g=>h ρ2 H2 v (f.trans g)
 |ex c S=>exact λρ2 H2 g=>h ρ2 H2 (f.trans g)
 |no=>exact h
theorem ZC.bind {r:R α}{f:α->Za->R Fl}{Q1:β->Hp->Prop}(h:ZC K xw ρ H D (r.bind f))
  (k:∀d S ρ1 H1 v,Fut ρ H ρ1 H1->St3 K ρ1 S H1->rep ρ1 H1 d v->ZC K xw ρ1 H1 D (f d S)->Q1 v H1):End K xw rep ρ H Q1 r:=by
 cases r with
 |ok d S=>exact λρ1 H1 v g st r=>k d S ρ1 H1 v g st r (ZC.mono g h)
 |ex c S=>exact h
 |no=>exact h
theorem ZC.ob {o:Option α}{S:Za}{f:α->Za->R Fl}(h:ZC K xw ρ H D ((Ev.ob o S).bind f)):∃a,o=some a/\ZC K xw ρ H D (f a S):=by
 cases o with
 |none=>exact h.elim
 |some a=>exact⟨a,rfl,h⟩
theorem ZC.nx {l:Lc}{S:Za}{σ:L2.St}(h:ZC K xw ρ H D (.ok (.nx l) S)) (st:St3 K ρ S H) (lr:LocR ρ H l σ):D.nx σ H:=h ρ H σ (Fut.refl ρ H) st lr
end
section
variable (X:Cx) (xw:Nat->Hp->Prop)
def tS3 (f:Lc->Za->R Fl):TS:=λD σ H=>∃ρ l S,St3 X.K ρ S H/\LocR ρ H l σ/\ZC X.K xw ρ H D (f l S)
variable (C:Calls)
def CS (st:Stmt) (s:Sm):Prop:=PS X st (tS3 X xw (run C s))
def CSs (st:List Stmt) (s:List Sm):Prop:=PSs X st (tS3 X xw (runs C s))
def tG3 (t:List Nat):TG:=λv σ H Q=>∃ρ l S d l',St3 X.K ρ S H/\LocR ρ H l σ/\Rep ρ H d v/\Ev.assign t d S l=some l'/\∀σ',LocR ρ H l' σ'->Q σ' H
def CG (tg:Expr) (t:List Nat):Prop:=PG X tg (tG3 X t)
def qf (t:List Nat):TGs:=λvs σ H Q=>∃ρ l ds l',LocR ρ H l σ/\Rq ρ H ds vs/\Ev.fill t ds l=some l'/\∀σ',LocR ρ H l' σ'->Q σ' H
def CGs (tgs:List Expr) (t:List Nat):Prop:=PGs X tgs (qf t)
end
theorem PS.imp {X:Cx}{e:Stmt}{t t':TS}(h:PS X e t) (k:∀D σ H,t' D σ H->t D σ H):PS X e t':=λpq s σ H D I q=>h pq s σ H D I (k D σ H q)
theorem PSs.imp {X:Cx}{e:List Stmt}{t t':TS}(h:PSs X e t) (k:∀D σ H,t' D σ H->t D σ H):PSs X e t':=λpq s σ H D I q=>h pq s σ H D I (k D σ H q)
theorem PG.imp {X:Cx}{e:Expr}{t t':TG}(h:PG X e t) (k:∀v σ H Q,t' v σ H Q->t v σ H Q):PG X e t':=λpq s σ H v u Q I r q=>h pq s σ H v u Q I r (k v σ H Q q)
theorem PGs.imp {X:Cx}{e:List Expr}{t t':TGs}(h:PGs X e t) (k:∀v σ H Q,t' v σ H Q->t v σ H Q):PGs X e t':=λpq s σ H v u Q I r q=>h pq s σ H v u Q I r (k v σ H Q q)
section
variable {X:Cx}{xw:Nat->Hp->Prop}{C:Calls}{e a b c:Expr}{i j k:E}{pos p p' p2:Pos}{s0:Stmt}{ss:List Stmt}{m0:Sm}{ms ms':List Sm}
theorem Qo:CSs X xw C [] []:=PSs.imp VQ λD σ H ⟨ρ,l,S,st,lr,h⟩=>ZC.nx h st lr
theorem VY (h1:CS X xw C s0 m0) (h2:CSs X xw C ss ms):CSs X xw C (s0::ss) (m0::ms):=PSs.imp (Yn h1 h2) λD σ H ⟨ρ,l,S,st,lr,h⟩=>by
 refine⟨ρ,l,S,st,lr,?_⟩;have h':ZC X.K xw ρ H D ((run C m0 l S).bind λf S=>match f with | .nx σ=>runs C ms σ S | f=>.ok f S):=h
 cases q:run C m0 l S with
 |no=>rw[q] at h';exact h'
 |ex c S1=>rw[q] at h';exact h'
 |ok fl S1=>
  rw[q] at h';cases fl with
  |nx l1=>exact λρ1 H1 σ1 f1 st1 lr1=>⟨ρ1,l1,S1,st1,lr1,ZC.mono f1 h'⟩
  |brk l1=>exact h'
  |cnt l1=>exact h'
  |ret d=>exact h'
theorem Qn (he:CE X xw C e i):CS X xw C (.Return (some e) pos) (.ret i):=PS.imp (Vy he) λD σ H ⟨ρ,l,S,st,lr,h⟩=>
 ⟨ρ,l,S,st,lr,ZC.bind (show ZC X.K xw ρ H D ((ev C i l S).bind λx S=>.ok (.ret x) S) from h) λx S1 ρ1 H1 v f1 st1 r1 h1=>h1 ρ1 H1 v (Fut.refl _ _) st1 r1⟩
theorem VH (he:CE X xw C e i) (hs:swapsWith e none pos.line X.env=pure false:=by rfl):CS X xw C (.Expr e pos) (.ex i):=PS.imp (Jk he hs) λD σ H ⟨ρ,l,S,st,lr,h⟩=>
 ⟨ρ,l,S,st,lr,ZC.bind (show ZC X.K xw ρ H D ((ev C i l S).bind λ_ S=>.ok (.nx l) S) from h) λx S1 ρ1 H1 v f1 st1 r1 h1=>ZC.nx h1 st1 (lr.mono f1)⟩
theorem zU {sa sb:List Stmt}(hc:CT X xw C c k) (ha:CSs X xw C sa ms) (hb:CSs X xw C sb ms'):CS X xw C (.If c sa sb pos) (.ite k ms ms'):=PS.imp (zn hc ha hb) λD σ H ⟨ρ,l,S,st,lr,h⟩=>
 ⟨ρ,l,S,st,lr,ZC.bind (show ZC X.K xw ρ H D ((tst C k l S).bind λc S=>if c then runs C ms l S else runs C ms' l S) from h) λx S1 ρ1 H1 v f1 st1 r1 h1=>by
  have e1:x=v:=r1;subst e1;cases x with
  |true=>exact⟨ρ1,l,S1,st1,lr.mono f1,h1⟩
  |false=>exact⟨ρ1,l,S1,st1,lr.mono f1,h1⟩⟩
theorem Ue {n:Nat}{x:Str}(hN:X.N.Nodup) (hi:X.N[n]? = some x:=by rfl) (hx:L2.Loc X.env.scope x:=by first | exact Or.inl rfl | exact Or.inr rfl) (hf:X.fn x=true\/X.env.scope.names.lookup x=some .local:=by first | exact .inl rfl | exact .inr rfl):CG X (.Name x pos) [n]:=
 PG.imp (Ji hN hi hx hf) λv σ H Q ⟨ρ,l,S,d,l',st,lr,r,ha,q⟩=>by
  have e:l.set n (some d)=l':=Pa ha;exact q _ (by rw[<-e];exact lr.set n r)
theorem VN:CGs X [] []:=PGs.imp yJ λvs σ H Q ⟨ρ,l,ds,l',lr,r,hf,q⟩=>by
 cases ds with
 |nil=>
  unfold Rq at r;cases hf;exact⟨r,q σ lr⟩
 |cons _ _=>cases hf
theorem WI {tgs:List Expr}{n:Nat}{t:List Nat}{x:Str}(hN:X.N.Nodup) (h2:CGs X tgs t) (hi:X.N[n]? = some x:=by rfl) (hx:L2.Loc X.env.scope x:=by first | exact Or.inl rfl | exact Or.inr rfl) (hf:X.fn x=true\/X.env.scope.names.lookup x=some .local:=by first | exact .inl rfl | exact .inr rfl)
  (hs:(assignEach (.Name x pos::tgs) X.env).map (·.2)=PySem.assign (.Name x pos) X.env::(assignEach tgs X.env).map (·.2):=by rfl):CGs X (.Name x pos::tgs) (n::t):=
 PGs.imp (GN (Ji hN hi hx hf) h2 hs) λvs σ H Q ⟨ρ,l,ds,l',lr,r,hf,q⟩=>by
  cases ds with
  |nil=>cases hf
  |cons d ds=>
   unfold Rq at r;obtain⟨v,ws,rfl,r1,r2⟩:=r;exact⟨v,ws,rfl,ρ,l.set n (some d),ds,l',lr.set n r1,r2,hf,q⟩
theorem WZ:∀{t:List Nat}{ds:List D}{l l':Lc},Ev.fill t ds l=some l'->ds.length=t.length
 |[],[],_,_,_=>rfl
 |[],_::_,_,_,h=>by cases h
 |_::_,[],_,_,h=>by cases h
 |n::t,d::ds,l,l',h=>by rw[PF,PF,WZ (t:=t) (ds:=ds) h]
theorem Vh {prog:Program}{w:World}{A:Around}{E:Value->Shared->Prop}{it t:Addr}{items:Array Value}(hne:t≠it):∀(n i:Nat) (s:Shared) (Q:List Value->Shared->Prop),s.heap.IsListIter it t i->s.heap.IsList t items->i+n<=items.size->
  (∀h',Heap.IsListIter h' it t (i+n)->Heap.SameBut it s.heap h'->Q ((items.toList.drop i).take n) { s with heap:=h' })->wpAny (model prog w) A (draw (.ref it) n) Q E s
 |0,i,s,Q,hit,_,_,hQ=>by
  show wpAny _ _ (pure []) Q E s;exact PM (by simpa using hQ s.heap hit (Heap.SameBut.refl ..))
 |n+1,i,s,Q,hit,ht,hle,hQ=>by
  have hlt:i<items.size:=by omega
  show wpAny _ _ (pyNext (.ref it) >>= _) Q E s;refine Pd (wpAny_pyNext_list_item hit ht (x:=items[i]) (by simp[hlt]) λh₁ hit₁ hs₁=>?_)
  refine Pd (Nw (Vh hne n (i+1) _ _ hit₁ (ht.extBut hs₁.extBut hne) (by omega) λh₂ hit₂ hs₂=>PM ?_))
  have hd:items.toList.drop i=items[i]::items.toList.drop (i+1):=by simp[NI,hlt]
  have:=hQ h₂ (by rw[show i+(n+1)=i+1+n by omega];exact hit₂) (hs₁.trans hs₂)
  rw[hd,List.take_succ_cons] at this;exact this
theorem UU {prog:Program}{w:World}{A:Around}{E:Value->Shared->Prop}{s:Shared}{env:Env}{elts:List Expr}{x1}{pos:Pos}{t:Addr}{items:Array Value}{Q:Unit->Shared->Prop}(hh:A.handled=none) (ht:s.heap.IsList t items)
  (hn:(assignEach elts env).length=items.size) (hstar:(assignEach elts env).findIdx? (·.1)=none)
  (h:∀h',Heap.ExtBut s.heap.objs.size s.heap h'->wpAny (model prog w) A (assignInOrder ((assignEach elts env).map (·.2)) items.toList) Q E { s with heap:=h' }) :
  wpAny (model prog w) A (PySem.assign (.Tuple elts x1 pos) env (.ref t)) Q E s:=by
 rw[assign_Tuple];refine Pd (wpAny_standAt ?_);have hlt:t≠s.heap.objs.size:=by obtain⟨o,ho,_⟩:=ht;exact PX (Pg ho)
 unfold unpack;rw[hn,hstar];refine Pd (Nw ?_);unfold unpackItems;refine Pd ?_;unfold notIterableAtAll;refine Pd (wpAny_specialOf ht.typeIs slot_list_iter.lookup ?_);refine PM ?_;simp only[NA,NF];refine Pd (Nw (NU ht ?_));refine Pd (Nw (Vh hlt items.size 0 _ _ ⟨_,Ps _ rfl,rfl,rfl⟩ (ht.push _) (by omega) λh₁ hit₁ hs₁=>?_))
 have hall:List.take items.size (List.drop 0 items.toList)=items.toList:=by
  rw[List.drop_zero];exact List.take_of_length_le (by simp)
 rw[hall];rw[Pm (by simp)]
 have ht₁:h₁.IsList t items:=(ht.push _).extBut hs₁.extBut hlt;refine Pd (Nw (wpAny_pyNext_list_end hh hit₁ ht₁ (by simp) λh₂ he₂=>?_))
 simp only[Option.isSome_none,NA,NF];exact PM (h h₂ λb o hb e=>he₂ b o hb (hs₁.extBut b o hb (Pe _ e)))
def gTL (K:PySem.W.Frag) (n:Nat) (t:TGs):TG:=λv σ H Q=>∃a xs,v=.ref a/\(SqT K H a xs\/H a=some (.lst xs))/\xs.length=n/\t xs σ H Q
theorem ut {X:Cx}{pos:Pos}{es:List Expr}{k:Nat}{t:TGs}{n:Nat}(hc:X.calm=true) (h:PGs X es t)
  (hn:(assignEach es X.env).length=n:=by rfl) (hst:(assignEach es X.env).findIdx? (·.1)=none:=by rfl):PG X (.Tuple es k pos) (gTL X.K n t):=by
 intro pq s σ H v u Q I r hw;obtain⟨a,xs,e1,hq | hq,hl,hw⟩:=hw
 ·exact wZ hc h hn hst pq s σ H v u Q I r ⟨a,xs,e1,hq,hl,hw⟩
 ·subst e1
  cases r;obtain⟨its,rv,pl,hz⟩:=I.list (SqL.of hq);refine UU (I.ok.hd hc) pl.isList (by simp[hn,<-hl,rv.length]) hst λh' hx=>?_
  have I1:Inv X pq σ H { s with heap:=h' }:=I.kept (t':=s.toks) λb o e=>hx b o (PX (Pg e)) e
  exact h pq _ σ H xs _ Q I1 (by simpa using rv) hw
theorem QP {tgs:List Expr}{q2:Nat}{n m:Nat}{r:List Nat}(hc:X.calm=true) (h:CGs X tgs (n::m::r)) (hn:(assignEach tgs X.env).length=(n::m::r).length:=by rfl) (hst:(assignEach tgs X.env).findIdx? (·.1)=none:=by rfl):CG X (.Tuple tgs q2 pos) (n::m::r):=
 PG.imp (ut hc h hn hst) λv σ H Q ⟨ρ,l,S,d,l',st,lr,rd,ha,q⟩=>by
  cases d with
  |tup ds=>
   have hf:Ev.fill (n::m::r) ds l=some l':=ha;obtain⟨p,xs,rfl,hp,rs⟩:=rd.tup';exact⟨p,xs,rfl,.inl (SqT.of hp),by rw[rs.length];exact WZ hf,ρ,l,ds,l',lr,rs,hf,q⟩
  |loc k=>
   have ha':(match Ev.Zc S k with
    |some xs=>Ev.fill (n::m::r) xs l
    |none=>none)=some l':=ha
   cases e1:Ev.Zc S k with
   |none=>rw[e1] at ha';cases ha'
   |some ds=>
    rw[e1] at ha';have hf:Ev.fill (n::m::r) ds l=some l':=ha';obtain⟨_,p,xs,q1,hp,r1⟩:=st.lst e1;obtain⟨p',rfl,t1⟩:=rd.loc';rw[q1] at t1;cases t1;exact⟨p,xs,rfl,.inr hp,by rw[r1.length];exact WZ hf,ρ,l,ds,l',lr,r1,hf,q⟩
  |_=>cases ha
theorem U6 {tg:Expr}{t:List Nat}(he:CE X xw C e i) (hg:CG X tg t) (hs:swapsWithSole [tg] e pos.line X.env=pure false:=by rfl) (hw:swappedStores [tg] e X.env=pure none:=by rfl)
  (h1:(assignEach [tg] X.env).map (·.2)=[PySem.assign tg X.env]:=by rfl):CS X xw C (.Assign [tg] e pos) (.asg t i):=PS.imp (GG he hg hs hw h1) λD σ H ⟨ρ,l,S,st,lr,h⟩=>
 ⟨ρ,l,S,st,lr,ZC.bind (show ZC X.K xw ρ H D ((ev C i l S).bind λx S=>(Ev.ob (Ev.assign t x S l) S).bind λσ S=>.ok (.nx σ) S) from h) λx S1 ρ1 H1 v f1 st1 r1 h1=>by
  obtain⟨l',hl',h2⟩:=ZC.ob h1;exact⟨ρ1,l,S1,x,l',st1,lr.mono f1,r1,hl',λσ' lr'=>ZC.nx h2 st1 lr'⟩⟩
theorem U7 {o ix:Expr}{io ii:E}(ho:CE X xw C o io) (hi:CE X xw C ix ii) (he:CE X xw C e i)
  (ha:∀v,PySem.assign (.Subscript o ix p) X.env v=(do
   let ov <-holding [v] (eval o X.env)
   let iv <-holding [v,ov] (eval ix X.env)
   standAt p
   holding [v,ov,iv] (setItem ov iv v)
   release [v,ov,iv] []):=by intro _;rfl) (hs:swapsWithSole [.Subscript o ix p] e pos.line X.env=pure false:=by rfl) (hw:swappedStores [.Subscript o ix p] e X.env=pure none:=by rfl)
  (h1:(assignEach [.Subscript o ix p] X.env).map (·.2)=[PySem.assign (.Subscript o ix p) X.env]:=by rfl):CS X xw C (.Assign [.Subscript o ix p] e pos) (.put io ii i):=
 PS.imp (GG he (wz ho hi (zX (X:=X)) ha) hs hw h1) λD σ H ⟨ρ,l,S,st,lr,h⟩=>
 ⟨ρ,l,S,st,lr,ZC.bind (show ZC X.K xw ρ H D ((ev C i l S).bind λv S=>(ev C io l S).bind λx S=>(ev C ii l S).bind λy S=>(Ev.Wj x y v S).bind λ_ S=>.ok (.nx l) S) from h) λx S1 ρ1 H1 v f1 st1 r1 h1=>
  ⟨ρ1,l,S1,st1,lr.mono f1,h1.bind λy S2 ρ2 H2 u f2 st2 r2 h2=>⟨ρ2,l,S2,st2,(lr.mono f1).mono f2,h2.bind λz S3 ρ3 H3 w f3 st3 r3 h3=>by
   cases y with
   |loc n=>cases z with
    |int m=>
     obtain⟨pa,rfl,hp⟩:=(r2.mono f3).loc';have h4:ZC X.K xw ρ3 H3 D ((match S3[n]? with
      |some (.lst xs)=>(Ev.ob (Ev.ixN xs.length m) S3).bind λj S=>.ok () (S.set n (.lst (xs.set j x)))
      |_=>.no).bind λ_ S=>.ok (.nx l) S):=h3
     cases q:S3[n]? with
     |none=>rw[q] at h4;exact False.elim h4
     |some ob=>
      rw[q] at h4;cases ob with
      |lst xs=>
       have h5:ZC X.K xw ρ3 H3 D (((Ev.ob (Ev.ixN xs.length m) S3).bind λj S=>R.ok () (S.set n (.lst (xs.set j x)))).bind λ_ S=>.ok (.nx l) S):=h4
       cases hj:Ev.ixN xs.length m with
       |none=>rw[hj] at h5;exact False.elim h5
       |some jj=>
        rw[hj] at h5;obtain⟨pb,hp',ys,hy,ry⟩:=st3.at q;rw[hp] at hp';cases hp';refine⟨pa,ys,m,jj,rfl,r3.int',hy,by rw[ry.length];exact hj,?_⟩
        have rx:=(r1.mono f2).mono f3;exact h5 ρ3 _ σ (Yv hy) (st3.wr hp q hy (Rq.set rx jj ry)) ((((lr.mono f1).mono f2).mono f3).mono (Yv hy))
      |_=>exact False.elim h4
    |_=>exact False.elim h3
   |_=>exact False.elim h3⟩⟩⟩
end
structure WRel (K:PySem.W.Frag) (ρ:List Addr) (H:Hp) (w:Walk) (J:It):Prop where
 go:∀(i:Nat) ρ' S' H',Fut ρ H ρ' H'->St3 K ρ' S' H'->w.still S'=true->i<w.items.length->J.go i H'/\∀x H'',J.yld i H' x H''->Fut ρ' H' ρ' H''/\St3 K ρ' S' H''/\∀d,w.items[i]? = some d->Rep ρ' H'' d x
 stop:∀ρ' S' H',Fut ρ H ρ' H'->St3 K ρ' S' H'->w.still S'=true->J.stop w.items.length H'
section
variable (X:Cx) (xw:Nat->Hp->Prop)
def tW3 (f:Lc->Za->R Walk):TI:=λσ H Q=>∃ρ l S,St3 X.K ρ S H/\LocR ρ H l σ/\End X.K xw (WRel X.K) ρ H Q (f l S)
def CW (C:Calls) (tg it:Expr) (w:Ev.W):Prop:=PI X tg it (tW3 X xw (evw C w))
end
theorem PI.imp {X:Cx}{tg it:Expr}{t t':TI}(h:PI X tg it t) (k:∀σ H Q,t' σ H Q->t σ H Q):PI X tg it t':=λpq s σ H R I q=>h pq s σ H R I (k σ H R q)
section
variable {X:Cx}{xw:Nat->Hp->Prop}{C:Calls}{e a b c tg it:Expr}{i j k:E}{pos p p' p2:Pos}
def u5 (K:PySem.W.Frag) (tl:TE):TI:=λσ H R=>tl σ H λx H1=>∃a,x=.ref a/\(((∃xs,SqL K H1 a xs)/\R (Itl K a) H1)\/((∃xs,SqT K H1 a xs)/\R (Itt K a) H1))
theorem wM {l:Expr}{tl:TE}(hl:PE X l tl):PI X tg l (u5 X.K tl):=by
 intro pq s σ H R I h;refine thn (hl pq s σ H _ I h) λv s1 ⟨x,H1,I1,r1,a,e,q⟩=>?_
 subst e;cases r1;rcases q with ⟨⟨xs,hq⟩,q⟩ | ⟨⟨xs,hq⟩,q⟩
 ·obtain⟨its,rv,p,hz⟩:=I1.list hq
  refine NU p.isList ?_;refine⟨s1.heap.objs.size,[s1.heap.objs.size],_,_,H1,rfl,I1.kept (t':=s1.toks) λb o e=>Pe _ e,JS a _,⟨_,Ps _ rfl,rfl,rfl⟩,λb hb=>?_,q⟩
  have e:b=s1.heap.objs.size:=by simpa using hb
  subst e;exact I1.fpOk (Po _) (I1.hok.fresh (Po _))
 ·obtain⟨its,rv,p,hz⟩:=I1.tuple hq
  refine wpAny_pyIter_tuple (show s1.heap.IsTuple a its.toArray from p) ?_
  refine⟨s1.heap.objs.size,[s1.heap.objs.size],_,_,H1,rfl,I1.kept (t':=s1.toks) λb o e=>Pe _ e,QD a _,⟨_,Ps _ rfl,rfl,rfl⟩,λb hb=>?_,q⟩
  have e:b=s1.heap.objs.size:=by simpa using hb
  subst e;exact I1.fpOk (Po _) (I1.hok.fresh (Po _))
theorem zL {K:PySem.W.Frag}{ρ:List Addr}{H:Hp}{ds:List D}{a:Addr}{xs:List V}(hp:H a=some (.tup xs)) (r:Rq ρ H ds xs):WRel K ρ H ⟨ds,[]⟩ (Itt K a) where
 go:=λi ρ' S' H' f st _ hi=>by
  have hi':i<ds.length:=hi;obtain⟨v,g,_⟩:=(r.mono f).get (Pb hi');refine⟨⟨xs,v,SqT.of (f.tup a xs hp),g⟩,λx H'' y=>?_⟩
  obtain⟨rfl,y⟩:=y;refine⟨Fut.refl _ _,st,λd hd=>?_⟩
  obtain⟨v',g',r'⟩:=(r.mono f).get hd;have:=y xs (SqT.of (f.tup a xs hp));rw[g'] at this;cases this;exact r'
 stop:=λρ' S' H' f st _=>⟨xs,SqT.of (f.tup a xs hp),by show xs.length<=ds.length;rw[r.length];exact Po _⟩
theorem GC {K:PySem.W.Frag}{ρ:List Addr}{H:Hp}{ds:List D}{a:Addr}{n:Nat}(hp:ρ[n]? = some a):WRel K ρ H ⟨ds,[(n,ds)]⟩ (Itl K a) where
 go:=λi ρ' S' H' f st hs hi=>by
  have hn:S'[n]? = some (.lst ds):=by simpa [Walk.still] using hs
  obtain⟨a',ha,xs,hx,r⟩:=st.at hn;rw[f.at hp] at ha;cases ha;have hi':i<ds.length:=hi;obtain⟨v,g,_⟩:=r.get (Pb hi');refine⟨⟨xs,v,SqL.of hx,g⟩,λx H'' y=>?_⟩
  obtain⟨rfl,y⟩:=y;refine⟨Fut.refl _ _,st,λd hd=>?_⟩
  obtain⟨v',g',r'⟩:=r.get hd;have:=y xs (SqL.of hx);rw[g'] at this;cases this;exact r'
 stop:=λρ' S' H' f st hs=>by
  have hn:S'[n]? = some (.lst ds):=by simpa [Walk.still] using hs
  obtain⟨a',ha,xs,hx,r⟩:=st.at hn;rw[f.at hp] at ha;cases ha;exact⟨xs,SqL.of hx,by show xs.length<=ds.length;rw[r.length];exact Po _⟩
theorem G8 {lo:Int}{n i:Nat}(h:i<n):(Ev.Zl lo n)[i]? = some (.int (lo+i)):=by
 unfold Ev.Zl;rw[PP,List.getElem?_range h];rfl
theorem Vv (lo:Int) (n:Nat):(Ev.Zl lo n).length=n:=by unfold Ev.Zl;rw[PV,List.length_range]
theorem UE {K:PySem.W.Frag}{ρ:List Addr}{H:Hp}{lo:Int}{n:Nat}:WRel K ρ H ⟨Ev.Zl lo n,[]⟩ (Itr lo n) where
 go:=λi ρ' S' H' f st _ hi=>by
  have hi':i<n:=by simpa [Vv] using hi
  refine⟨hi',λx H'' y=>?_⟩
  obtain⟨rfl,rfl⟩:=y;refine⟨Fut.refl _ _,st,λd hd=>?_⟩
  have hd':(Ev.Zl lo n)[i]? = some d:=hd;rw[G8 hi'] at hd';cases hd';exact Zf _
 stop:=λρ' S' H' f st _=>by
  show n<=(Ev.Zl lo n).length;rw[Vv];exact Po _
theorem zb (he:CE X xw C e i):CW X xw C tg e (.of i):=PI.imp (wM he) λσ H Q ⟨ρ,l,S,st,lr,h⟩=>by
 refine⟨ρ,l,S,st,lr,End.bind (show End X.K xw (WRel X.K) ρ H Q ((ev C i l S).bind λx S=>Ev.ob (Ev.Z1 S x) S) from h) λx S1 ρ1 H1 v f1 st1 r1 h1=>?_⟩
 cases x with
 |tup ds=>
  obtain⟨a,xs,rfl,hp,r⟩:=r1.tup';exact⟨a,rfl,.inr ⟨⟨xs,SqT.of hp⟩,End.ok (rep:=WRel X.K) h1 st1 (zL hp r)⟩⟩
 |loc n=>
  obtain⟨a,rfl,hp⟩:=r1.loc';have h':End X.K xw (WRel X.K) ρ1 H1 Q (Ev.ob (match S1[n]? with
   |some (.lst xs)=>some ⟨xs,[(n,xs)]⟩
   |_=>none) S1):=h1
  cases q:S1[n]? with
  |none=>rw[q] at h';exact False.elim h'
  |some o=>
   rw[q] at h';cases o with
   |lst ds=>
    obtain⟨a',ha,xs,hx,r⟩:=st1.at q;rw[hp] at ha;cases ha;exact⟨a,rfl,.inl ⟨⟨xs,SqL.of hx⟩,End.ok (rep:=WRel X.K) h' st1 (GC hp)⟩⟩
   |_=>exact False.elim h'
 |_=>exact False.elim h1
theorem V1 (hm:X.mg "range" = none) (ha:CA X xw C [a] [i]) (hg:Gl X "range":=by rfl) (hs:starEach [a] X.env=[(false,eval a X.env)]:=by rfl):CW X xw C tg (.Call (.Name "range" p) [a] [] pos) (.rng1 i):=
 PI.imp (Gf hg hm ha hs) λσ H Q ⟨ρ,l,S,st,lr,h⟩=>by
  refine⟨ρ,l,S,st,lr,?_⟩;show End X.K xw Rq ρ H _ ((ev C i l S).bind λx S=>(Ev.R.ok [] S).bind λxs S=>.ok (x::xs) S)
  have h':End X.K xw (WRel X.K) ρ H Q ((ev C i l S).bind λx S=>match x with
   |.int i=>if Ev.ZB i then .ok ⟨Ev.Zl 0 i.toNat,[]⟩ S else .no
   |_=>.no):=h
  cases q:ev C i l S with
  |no=>rw[q] at h';exact h'
  |ex c S1=>rw[q] at h';exact h'
  |ok x S1=>
   rw[q] at h';intro ρ1 H1 vs f1 st1 r1;obtain⟨v,rfl,r⟩:=X4 r1;cases x with
   |int n=>
    obtain⟨hs,h2⟩:=End.guard (End.mono f1 (show End X.K xw (WRel X.K) ρ H Q (if Ev.ZB n=true then .ok ⟨Ev.Zl 0 n.toNat,[]⟩ S1 else .no) from h'))
    have hs':=Py (show decide (-(2^62)<=n/\n<2^62)=true from hs)
    exact⟨n,by rw[r.int'],hs'.1,hs'.2,End.ok (rep:=WRel X.K) h2 st1 UE⟩
   |_=>exact False.elim h'
noncomputable def wa (x y:D) (S:Za):R Walk:=match x,y with
 |.int i,.int j=>if (Ev.ZB i&&Ev.ZB j)=true then .ok ⟨Ev.Zl i (j-i).toNat,[]⟩ S else .no
 |_,_=>.no
theorem VL (hm:X.mg "range" = none) (ha:CA X xw C [a,b] [i,j]) (hg:Gl X "range":=by rfl) (hs:starEach [a,b] X.env=[(false,eval a X.env),(false,eval b X.env)]:=by rfl) (hs2:starEach [b] X.env=[(false,eval b X.env)]:=by rfl) :
  CW X xw C tg (.Call (.Name "range" p) [a,b] [] pos) (.rng2 i j):=
 PI.imp (Gj hg hm ha hs hs2) λσ H Q ⟨ρ,l,S,st,lr,h⟩=>by
  refine⟨ρ,l,S,st,lr,?_⟩;show End X.K xw Rq ρ H _ ((ev C i l S).bind λx S=>((ev C j l S).bind λy S=>(Ev.R.ok [] S).bind λxs S=>.ok (y::xs) S).bind λxs S=>.ok (x::xs) S)
  have h':End X.K xw (WRel X.K) ρ H Q ((ev C i l S).bind λx S=>(ev C j l S).bind λy S=>wa x y S):=h
  cases q:ev C i l S with
  |no=>rw[q] at h';exact h'
  |ex c S1=>rw[q] at h';exact h'
  |ok x S1=>
   rw[q] at h';have h2:End X.K xw (WRel X.K) ρ H Q ((ev C j l S1).bind λy S=>wa x y S):=h'
   show End X.K xw Rq ρ H _ (((ev C j l S1).bind λy S=>(Ev.R.ok [] S).bind λxs S=>.ok (y::xs) S).bind λxs S=>.ok (x::xs) S)
   cases q2:ev C j l S1 with
   |no=>rw[q2] at h2;exact h2
   |ex c S2=>rw[q2] at h2;exact h2
   |ok y S2=>
    rw[q2] at h2;intro ρ1 H1 vs f1 st1 r1;obtain⟨v,u,rfl,rv,ru⟩:=Q3 r1;cases x with
    |int n=>cases y with
     |int m=>
      obtain⟨hs,h3⟩:=End.guard (End.mono f1 (show End X.K xw (WRel X.K) ρ H Q (if (Ev.ZB n&&Ev.ZB m)=true then .ok ⟨Ev.Zl n (m-n).toNat,[]⟩ S2 else .no) from h2))
      obtain⟨s1,s2⟩:=(Ph _ _).mp hs;have s1':=Py (show decide (-(2^62)<=n/\n<2^62)=true from s1)
      have s2':=Py (show decide (-(2^62)<=m/\m<2^62)=true from s2)
      exact⟨n,m,by rw[rv.int',ru.int'],⟨s1'.1,s1'.2,s2'.1,s2'.2⟩,End.ok (rep:=WRel X.K) h3 st1 UE⟩
     |_=>exact False.elim h2
    |_=>exact False.elim h2
theorem QJ {body:List Stmt}{ms:List Sm}{w:Ev.W}{t:List Nat}(hp:PassesOwn (model X.prog X.w) X.A X.env X.xe) (hc:X.calm=true) (hw:CW X xw C tg it w) (hg:CG X tg t) (hb:CSs X xw C body ms)
  (hs:∀x,foldedSetIterable it X.env x=pure x:=by intro _;rfl):CS X xw C (.For tg it body [] pos) (.forr t w ms):=PS.imp (vG hp hc hw hg hb hs) λD σ H ⟨ρ,l,S,st,lr,h⟩=>by
 have h':ZC X.K xw ρ H D ((evw C w l S).bind λw S=>Ev.Yr w (λx σ S=>(Ev.ob (Ev.assign t x S σ) S).bind λσ S=>runs C ms σ S) w.items l S):=h
 refine⟨ρ,l,S,st,lr,h'.bind λwk S1 ρ1 H1 J f1 st1 r1 h1=>?_⟩
 let B:Ev.D->Lc->Za->R Fl:=λx σ S=>(Ev.ob (Ev.assign t x S σ) S).bind λσ S=>runs C ms σ S
 refine⟨λn m σ' H'=>m=wk.items.length-n/\n<=wk.items.length/\∃ρ' l' S',Fut ρ1 H1 ρ' H'/\St3 X.K ρ' S' H'/\LocR ρ' H' l' σ'/\ZC X.K xw ρ' H' D (Ev.Yr wk B (wk.items.drop n) l' S'),
  ⟨wk.items.length,rfl,Kb _,ρ1,l,S1,Fut.refl _ _,st1,lr.mono f1,h1⟩,?_⟩
 rintro n m σ' H' ⟨rfl,hn,ρ',l',S',f',st',lr',e'⟩
 by_cases hlt:n<wk.items.length
 ·right
  have hd:wk.items.drop n=wk.items[n]::wk.items.drop (n+1):=NI hlt;rw[hd] at e';have e2:ZC X.K xw ρ' H' D (if wk.still S'=true then (match B wk.items[n] l' S' with
   |.ok (.nx σ') S'=>Ev.Yr wk B (wk.items.drop (n+1)) σ' S'
   |.ok (.cnt σ') S'=>Ev.Yr wk B (wk.items.drop (n+1)) σ' S'
   |.ok (.brk σ') S'=>.ok (.nx σ') S'
   |.ok (.ret d) S'=>.ok (.ret d) S'
   |.ex c S'=>.ex c S'
   |.no=>.no) else .no):=e'
  by_cases hst:wk.still S'=true
  ·rw[Pj hst] at e2
   obtain⟨go,yl⟩:=r1.go n ρ' S' H' f' st' hst hlt;refine⟨go,λσ2 H2=>∃ρ2 l2 S2,Fut ρ1 H1 ρ2 H2/\St3 X.K ρ2 S2 H2/\LocR ρ2 H2 l2 σ2/\ZC X.K xw ρ2 H2 D (Ev.Yr wk B (wk.items.drop (n+1)) l2 S2),λσ2 H2 ⟨ρ2,l2,S2,a1,a2,a3,a4⟩=>⟨wk.items.length-(n+1),by omega,rfl,hlt,ρ2,l2,S2,a1,a2,a3,a4⟩,λx H3 y=>?_⟩
   obtain⟨f3,st3,rp⟩:=yl x H3 y;have rx:=rp _ (Pb hlt);cases ha:Ev.assign t wk.items[n] S' l' with
   |none=>
    have e3:B wk.items[n] l' S'=.no:=by show (Ev.ob (Ev.assign t wk.items[n] S' l') S').bind _=_;rw[ha];rfl
    rw[e3] at e2;exact False.elim e2
   |some l2=>
    have e3:B wk.items[n] l' S'=runs C ms l2 S':=by show (Ev.ob (Ev.assign t wk.items[n] S' l') S').bind _=_;rw[ha];rfl
    rw[e3] at e2;refine⟨ρ',l',S',wk.items[n],l2,st3,lr'.mono f3,rx,ha,λσ2 lr2=>⟨ρ',l2,S',st3,lr2,?_⟩⟩
    have e4:=ZC.mono f3 e2;have ff:=f'.trans f3;cases q:runs C ms l2 S' with
    |no=>rw[q] at e4;exact e4
    |ex c S2=>rw[q] at e4;exact e4
    |ok fl S2=>
     rw[q] at e4;cases fl with
     |nx l3=>exact λρ4 H4 σ4 f4 st4 lr4=>⟨ρ4,l3,S2,ff.trans f4,st4,lr4,ZC.mono f4 e4⟩
     |cnt l3=>exact λρ4 H4 σ4 f4 st4 lr4=>⟨ρ4,l3,S2,ff.trans f4,st4,lr4,ZC.mono f4 e4⟩
     |brk l3=>exact e4
     |ret d=>exact e4
  ·rw[Pm hst] at e2
   exact False.elim e2
 ·left
  have en:n=wk.items.length:=by omega
  subst en;rw[List.drop_length] at e';have e2:ZC X.K xw ρ' H' D (if wk.still S'=true then .ok (.nx l') S' else .no):=e'
  by_cases hst:wk.still S'=true
  ·rw[Pj hst] at e2
   exact⟨r1.stop ρ' S' H' f' st' hst,ZC.nx e2 st' lr'⟩
  ·rw[Pm hst] at e2
   exact False.elim e2
end
end Sd
namespace Sd
open PySem PySem.Spec PyProof.Rows L2
noncomputable def Gb (env:Env):List (Str×NameKind)->List (Str×Addr)->List (Str×Addr)
 |[],acc=>acc
 |x::r,acc=>Gb env r (if (x.2 == NameKind.free)=true then (x.1,(env.cells.lookup x.1).getD 0)::acc else acc)
theorem Wy {env:Env}{f:Str×NameKind->List (Str×Addr)->Sem (ForInStep (List (Str×Addr)))}:∀(names:List (Str×NameKind)) (acc:List (Str×Addr)),
  (∀x∈names,∀c,f x c=pure (.yield (if (x.2 == NameKind.free)=true then (x.1,(env.cells.lookup x.1).getD 0)::c else c)))->forIn names acc f=pure (Gb env names acc)
 |[],acc,_=>rfl
 |x::r,acc,h=>by
  rw[List.forIn_cons,h x Pq,pure_bind];exact Wy r _ λy hy=>h y (Pn _ hy)
theorem Ul {env:Env}{x:Str}{c:Addr}:∀(names:List (Str×NameKind)) (acc:List (Str×Addr)),(Gb env names acc).lookup x=some c->acc.lookup x=some c\/(∃y∈names,y.1=x/\y.2=.free/\c=(env.cells.lookup x).getD 0)
 |[],acc,h=>.inl h
 |y::r,acc,h=>by
  rcases Ul r _ h with h | ⟨z,hz,e⟩
  ·by_cases hf:(y.2 == NameKind.free)=true
   ·rw[Pj hf,PL] at h
    cases q:(x == y.1) with
    |true=>
     rw[q] at h;have e:x=y.1:=eq_of_beq q;exact .inr ⟨y,Pq,e.symm,eq_of_beq hf,by rw[e];exact (Pa h).symm⟩
    |false=>rw[q] at h;exact .inl h
   ·rw[Pm hf] at h;exact .inl h
  ·exact .inr ⟨z,Pn _ hz,e⟩
theorem Ur {env:Env}{x:Str}:∀(names:List (Str×NameKind)) (acc:List (Str×Addr)),(acc.lookup x).isSome=true->((Gb env names acc).lookup x).isSome=true
 |[],acc,h=>h
 |y::r,acc,h=>by
  refine Ur r _ ?_;split
  ·rw[PL]
   cases (x == y.1) with
   |true=>rfl
   |false=>exact h
  ·exact h
theorem Ui {env:Env}{x:Str}:∀(names:List (Str×NameKind)) (acc:List (Str×Addr)),(x,NameKind.free)∈names->((Gb env names acc).lookup x).isSome=true
 |[],acc,h=>by cases h
 |y::r,acc,h=>by
  rcases Pr.mp h with h | h
  ·subst h
   refine Ur r _ ?_;rw[Pj (by rfl),PL,Nl]
   rfl
  ·exact Ui r _ h
theorem Xc {scope:Scope}{env:Env}(h:∀y∈scope.names,y.2=.free->∃c,env.cells.lookup y.1=some c) :
  ∃cl,closureFor scope env=pure cl/\(∀x c,cl.lookup x=some c->env.cells.lookup x=some c)/\∀x,(x,NameKind.free)∈scope.names->∃c,cl.lookup x=some c:=by
 refine⟨Gb env scope.names [],?_,λx c e=>?_,λx hx=>Nc.mp (Ui _ _ hx)⟩
 ·simp only[closureFor]
  rw[Wy (env:=env) scope.names [] (λx hx c=>by
   obtain⟨n,kind⟩:=x;by_cases hk:(kind == NameKind.free)=true
   ·obtain⟨a,ha⟩:=h (n,kind) hx (eq_of_beq hk)
    have ha':env.cells.lookup n=some a:=ha;simp only[hk,NW,cellOf,ha',pure_bind,Option.getD_some]
   ·simp only[hk,NF]
    rfl),pure_bind]
 ·rcases Ul _ _ e with e | ⟨y,hy,e1,e2,e3⟩
  ·cases e
  ·obtain⟨a,ha⟩:=h y hy e2
   rw[e1] at ha;rw[e3,ha];rfl
noncomputable def cxC (X:Cx) (N:List Str) (scope:Scope) (cl:List (Str×Addr)) (s:Shared) (H:Hp) (fp:List Addr):Cx:=
 { X with N:=N,s₀:=s,H₀:=H,env:=compEnvC scope cl s.heap.objs.size X.env,outer:=X.stack,ex:=fp,fn:=λ_=>false,pn:=[],xe:=λ_ _=>False }
def PTs (X:Cx) (ifs:List Expr) (t:TT):Prop:=
 ∀(pq:List (Addr×Obj)) (s:Shared) (σ:L2.St) (H:Hp) (Q:Bool->Hp->Prop),Inv X pq σ H s->t σ H Q->
  wpAny (model X.prog X.w) X.A (forIn ifs true λc r=>if r=true then do let ok <-isTrue c X.env (eval c X.env);pure (ForInStep.yield ok) else pure (ForInStep.yield r)) (TP X pq σ Q) X.xe s
theorem yr {X:Cx}:PTs X [] (λσ H Q=>Q true H):=λpq s σ H Q I h=>wpAny_tests_nil ⟨H,I,h⟩
structure CompScope (sc:Scope) (N0:List Str) (scope:Scope) (N:List Str) (cap:List Nat) (nl:Nat):Prop where
 kind:scope.kind=.function
 nocell:∀y∈scope.names,y.2≠.cell
 names:∀y∈scope.names,y.2=.local->scope.names.lookup y.1=some .local
 free:∀y∈scope.names,y.2=.free->sc.names.lookup y.1=some .cell\/sc.names.lookup y.1=some .free
 apart:∀y∈scope.names,y.2=.free->scope.names.lookup y.1≠some .local
 len:N.length=nl+cap.length
 cap:∀p∈cap.zipIdx,N[nl+p.2]? = N0[p.1]?/\(N0[p.1]?).map (λx=>decide ((x,NameKind.free)∈scope.names))=some true
theorem CompScope.capt {sc:Scope}{N0:List Str}{scope:Scope}{N:List Str}{cap:List Nat}{nl:Nat}(h:CompScope sc N0 scope N cap nl) (i j:Nat) (e:cap[i]? = some j):∃x,N[nl+i]? = some x/\N0[j]? = some x/\(x,NameKind.free)∈scope.names:=by
 have hm:(j,i)∈cap.zipIdx:=by
  rw[List.mem_zipIdx_iff_getElem?];exact e
 obtain⟨h1,h2⟩:=h.cap (j,i) hm;cases q:N0[j]? with
 |none=>rw[show N0[(j,i).1]? = none from q] at h2;cases h2
 |some x=>
  rw[show N0[(j,i).1]? = some x from q] at h1 h2
  exact⟨x,h1,rfl,Py (Pa h2)⟩
noncomputable def Yq (cap:List Nat) (nl:Nat) (σ:L2.St):L2.St:=List.replicate nl none++cap.map λi=>(σ[i]?).join
section
variable {X:Cx}{pq:List (Addr×Obj)}{σ:L2.St}{H:Hp}{s:Shared}
theorem Xu {scope:Scope}{env:Env}:∀{names:List (Str×NameKind)}{x:Str},(names.map λ(n,k)=>if (k == NameKind.free&&env.scope.kind == .function&&env.kindOf n == some .cell) then (n,NameKind.cell) else (n,k)).lookup x=some .cell\/
  (names.map λ(n,k)=>if (k == NameKind.free&&env.scope.kind == .function&&env.kindOf n == some .cell) then (n,NameKind.cell) else (n,k)).lookup x=some .free->(∀y∈names,y.2≠.cell)->(x,NameKind.free)∈names
 |[],x,h,_=>by rcases h with h | h <;> cases h
 |(n,k)::r,x,h,hc=>by
  have ih:=@Xu scope env r x;have hk:k≠.cell:=hc (n,k) Pq;by_cases e:x=n
  ·subst e
   have hk2:k=.free:=by
    rcases h with h | h
    ·rw[P1] at h
     by_cases c:(k == NameKind.free&&env.scope.kind == .function&&env.kindOf x == some .cell)=true
     ·have:=(Ph _ _).mp c
      exact eq_of_beq ((Ph _ _).mp this.1).1
     ·simp only[Pm c,PL,Nl] at h
      exact absurd (Pa h) hk
    ·rw[P1] at h
     by_cases c:(k == NameKind.free&&env.scope.kind == .function&&env.kindOf x == some .cell)=true
     ·simp only[Pj c,PL,Nl] at h
      cases h
     ·simp only[Pm c,PL,Nl] at h
      exact Pa h
   rw[hk2];exact Pq
  ·have hb:(x == n)=false:=Nj.mpr e
   refine Pn _ (ih ?_ λy hy=>hc y (Pn _ hy))
   rcases h with h | h
   ·left
    rw[P1] at h;by_cases c:(k == NameKind.free&&env.scope.kind == .function&&env.kindOf n == some .cell)=true
    ·simp only[Pj c,PL,hb] at h;exact h
    ·simp only[Pm c,PL,hb] at h;exact h
   ·right
    rw[P1] at h;by_cases c:(k == NameKind.free&&env.scope.kind == .function&&env.kindOf n == some .cell)=true
    ·simp only[Pj c,PL,hb] at h;exact h
    ·simp only[Pm c,PL,hb] at h;exact h
theorem zN {N:List Str}{scope:Scope}{cl:List (Str×Addr)}{fp:List Addr}{cap:List Nat}{nl:Nat}{h1:Heap}{tk:Nat}(I:Inv X pq σ H s) (CS:CompScope X.env.scope X.N scope N cap nl) (hN:X.N.Nodup)
  (c1:∀x c,cl.lookup x=some c->X.env.cells.lookup x=some c) (c2:∀x,(x,NameKind.free)∈scope.names->∃c,cl.lookup x=some c)
  (hf:∀b∈fp,X8 X pq H b) (hb:∀b∈fp,∃o,s.heap.get? b=some o) (hns:∃m,h1.Ns s.heap.objs.size m) (hk:∀b o,s.heap.get? b=some o->h1.get? b=some o) :
  Inv (cxC X N scope cl s H fp) [] (Yq cap nl σ) H { s with heap:=h1,toks:=tk }:=by
 have bne:∀b∈fp,b≠s.heap.objs.size:=λb hb' e=>by
  obtain⟨o,ho⟩:=hb b hb';exact absurd (Pg ho) (by rw[e];exact PN _)
 refine⟨⟨I.ok.mod,CS.kind,I.ok.glob,I.ok.blt,Po _,λx y c h1 h2=>I.ok.inj x y c (c1 x c h1) (c1 y c h2),λx hx=>c2 x (Xu (scope:=scope) (env:=X.env) hx CS.nocell),λx c h=>(by cases h),I.ok.hd,I.ok.frames,.inl rfl,
  λb hb'=>⟨bne b hb',λx c e=>(hf b hb').2.2.2.2.1 x c (c1 x c e)⟩,I.bs,PY I.ok.bsz I.sz,λb o e hb'=>?_,λb hb' hm=>?_,I.stack,I.stkFree⟩,
  rfl,I.bare,Un.kept hk,?_,λx c e=>?_,I.hok.fresh (Po _),λx c e=>I.freeC x c (c1 x c e),λp hp=>absurd hp (by simp[cxC]),I.hok.kept hk,?_⟩
 ·rcases (hf b hb').2.2.2.1 with z | z
  ·exact I.ok.noex b o e z
  ·exact absurd (Pg e) (Nat.not_lt.mpr (PY I.ok.bsz z))
 ·rcases Pr.mp (I.stkSub b hm) with e | e
  ·exact (hf b hb').2.1 e
  ·exact (hf b hb').2.2.1 e
 ·obtain⟨m1,hm1⟩:=hns
  refine⟨m1,hm1,λi x v e1 e2 e3=>?_⟩
  obtain⟨m,hm,hl⟩:=I.loc;have hi:nl<=i:=by
   by_cases hi:nl<=i
   ·exact hi
   ·have z:(Yq cap nl σ)[i]? = some none:=by
     unfold Yq;rw[Pl (by simp;omega),PZ,Pj (by omega)]
    rw[z] at e2;cases e2
  have e2':(cap.map λi=>(σ[i]?).join)[i-nl]? = some (some v):=by
   have:(Yq cap nl σ)[i]? = some (some v):=e2;unfold Yq at this
   rwa [Px (by simp;exact hi),P8] at this
  rw[PP] at e2';cases hj:cap[i-nl]? with
  |none=>rw[hj] at e2';cases e2'
  |some j=>
   rw[hj] at e2';have hv:σ[j]? = some (some v):=by
    have:(σ[j]?).join=some v:=Pa e2';cases q:σ[j]? with
    |none=>rw[q] at this;cases this
    |some o=>rw[q] at this;cases o with
     |none=>cases this
     |some w=>cases this;rfl
   obtain⟨x',n1,n2,fr⟩:=CS.capt _ _ hj;have ex:x'=x:=by
    have:N[nl+(i-nl)]? = some x:=by rw[show nl+(i-nl)=i by omega];exact e1
    rw[n1] at this;exact Pa this
   subst ex;have kd:=CS.free _ fr rfl;have vis:Vis X.env.scope x':=by
    rcases kd with z | z
    ·exact .inr (.inl z)
    ·exact .inr (.inr z)
   obtain⟨u,r,lk⟩:=hl j x' v n2 hv vis;refine⟨u,r,?_⟩;rcases lk with ⟨k,_⟩ | ⟨k,c,ec,hc⟩
   ·have k':X.env.scope.names.lookup x'=some .local:=k
    rcases kd with z | z <;> (rw[z] at k';cases k')
   ·obtain⟨c',ec'⟩:=c2 x' fr
    have ecc:c'=c:=by
     have:=c1 x' c' ec';rw[ec] at this;exact (Pa this).symm
    subst ecc;have vis2:Vis (relabel scope X.env) x':=e3;refine .inr ⟨?_,c',ec',?_⟩
    ·rcases vis2 with z | z | z
     ·have z':(scope.names.map λ(n,k)=>if (k == NameKind.free&&X.env.scope.kind == .function&&X.env.kindOf n == some .cell) then (n,NameKind.cell) else (n,k)).lookup x'=some .local:=z
      exfalso
      have:∀(names:List (Str×NameKind)),(∀y∈names,y.2=NameKind.local->y.1≠x')->(names.map λ(n,k)=>if (k == NameKind.free&&X.env.scope.kind == .function&&X.env.kindOf n == some .cell) then (n,NameKind.cell) else (n,k)).lookup x'≠some .local:=by
       intro names
       induction names with
       |nil=>intro _ h;cases h
       |cons y r ih=>
        obtain⟨n,k⟩:=y;intro hy h;rw[P1] at h;by_cases e:x'=n
        ·subst e
         by_cases c:(k == NameKind.free&&X.env.scope.kind == .function&&X.env.kindOf x' == some .cell)=true
         ·simp only[Pj c,PL,Nl] at h;cases h
         ·simp only[Pm c,PL,Nl] at h
          exact hy (x',k) Pq (Pa h) rfl
        ·have hb:(x' == n)=false:=Nj.mpr e
         refine ih (λy hy'=>hy y (Pn _ hy')) ?_
         by_cases c:(k == NameKind.free&&X.env.scope.kind == .function&&X.env.kindOf n == some .cell)=true
         ·simp only[Pj c,PL,hb] at h;exact h
         ·simp only[Pm c,PL,hb] at h;exact h
      refine this scope.names (λy hy hl e=>?_) z'
      have l1:=CS.names y hy hl;rw[e] at l1;exact CS.apart (x',.free) fr rfl l1
     ·exact .inl z
     ·exact .inr z
    ·obtain⟨o,ho,hd⟩:=hc
     exact⟨o,hk c' o ho,hd⟩
 ·obtain⟨v,o,ho,hd⟩:=I.cell x c (c1 x c e)
  exact⟨v,o,hk c o ho,hd⟩
 ·unfold Yq
  show _=N.length;rw[PK,P8,PV,CS.len]
end
abbrev TEm:=L2.St->Hp->(L2.St->Hp->Prop)->Prop
def zr (X:Cx) (act:Sem Fin->Sem Fin) (te:TEm):Prop:=
 ∀(pq:List (Addr×Obj)) (s:Shared) (σ:L2.St) (H:Hp) (Q:L2.St->Hp->Prop) (k:Sem Fin) (QF:Fin->Shared->Prop) (EE:Value->Shared->Prop),Inv X pq σ H s->te σ H Q->(∀s' σ' H',Inv X pq σ' H' s'->Q σ' H'->wpAny (model X.prog X.w) X.A k QF EE s')->
  wpAny (model X.prog X.w) X.A (act k) QF EE s
noncomputable def W9 (ipos:Pos) (tg:Expr) (ifs:List Expr) (act:Sem Fin->Sem Fin) (it:Value) (env:Env) (c:Code):Sem Fin:=do
 standAt ipos
 match <-pyNext it with
 |none=>pure (.done .next)
 |some v=>
  letOwnedTupleGo tg it v
  assign tg env v
  let mut ok:=true
  for c in ifs do
   if ok then ok <-isTrue c env (eval c env)
  if ok then act (again c) else again c
def xZ (J:It) (g:TG) (tt:TT) (te:TEm) (W:Nat->Nat->L2.St->Hp->Prop) (Q:L2.St->Hp->Prop):Prop:=∀i m σ' H',W i m σ' H'->
  (J.stop i H'/\Q σ' H')\/(J.go i H'/\∀x H'',J.yld i H' x H''->g x σ' H'' λσ2 H2=>tt σ2 H2 λok H3=>if ok=true then te σ2 H3 λσ3 H4=>∃m',m'<m/\W (i+1) m' σ3 H4 else ∃m',m'<m/\W (i+1) m' σ2 H3)
theorem J7 {Y:Cx}{e:Expr}{depth:Nat}{ipos:Pos}{tg:Expr}{ifs:List Expr}{act:Sem Fin->Sem Fin}{acc:Value}{J:It}{fp:List Addr}{it:Addr}{tn:Nat->Heap->Prop}{g:TG}{tt:TT}{te:TEm}{pq:List (Addr×Obj)}{Rr:Result->Shared->Prop}{Q:L2.St->Hp->Prop}{W:Nat->Nat->L2.St->Hp->Prop}{s:Shared}{σ:L2.St}{H:Hp}{m:Nat}
  (hc:Y.calm=true) (hx:∀a b,Y.xe a b->False) (hT:compTurn e depth (.ref it) acc Y.env=W9 ipos tg ifs act (.ref it) Y.env (.compLoop e depth (.ref it) acc Y.env)) (hquiet:(Code.compLoop e depth (.ref it) acc Y.env).isFrame=false)
  (hq:(Code.compLoop e depth (.ref it) acc Y.env).quiet=true) (T:Turn Y.prog Y.w Y.K tg J fp it tn) (hg:PG Y tg g) (ht:PTs Y ifs tt) (he:zr Y act te) (stat:∀{H':Hp},(∀b∈fp,H' b=none)->∀b∈fp,X8 Y pq H' b)
  (turn:xZ J g tt te W Q) (fin:∀σ H s,Inv Y pq σ H s->Q σ H->Rr (.ok .next) s)
  (I0:Inv Y pq σ H s) (st0:tn 0 s.heap) (fr0:∀b∈fp,H b=none) (w0:W 0 m σ H) (hden:(model Y.prog Y.w).den (.compLoop e depth (.ref it) acc Y.env)=(compTurn e depth (.ref it) acc Y.env).onRaise (λx=>do noteFrame x Y.env;theTreesLotGoes x))
  (hund:Y.A.under (.compLoop e depth (.ref it) acc Y.env)=Y.A):codeAny (model Y.prog Y.w) Y.A (.compLoop e depth (.ref it) acc Y.env) Rr s:=by
 refine codeAny_loop hq (λn s'=>∃i σ' H',Inv Y pq σ' H' s'/\tn i s'.heap/\(∀b∈fp,H' b=none)/\W i n σ' H') (λn s5 hI=>?_) m ⟨0,σ,H,I0,st0,fr0,w0⟩
 rw[hund,hden,hT];refine wpAny_noted ?_;obtain⟨i,σ5,H5,I5,st5,fr5,w5⟩:=hI;unfold W9;refine Pd (wpAny_standAt (Pd ?_));rcases turn i n σ5 H5 w5 with ⟨stop,qn⟩ | ⟨go,step⟩
 ·refine Ni (T.done Y rfl rfl rfl hc i pq s5 σ5 H5 (λ_ _=>False) I5 (stat fr5) st5 stop) (λr s6 ⟨hr,I6⟩=>?_) λ_ _ h'=>h'.elim
  subst hr;exact PM (fin σ5 H5 s6 I6 qn)
 ·refine Ni (T.item Y rfl rfl rfl hc i pq s5 σ5 H5 (λ_ _=>False) I5 (stat fr5) st5 go) (λr s6 ⟨u,hr,h6⟩=>?_) λ_ _ h'=>h'.elim
  subst hr;refine Pd (Ni h6 (λ_ s7 ⟨x,H7,I7,r7,y7,st7,fr7⟩=>?_) λ_ _ h'=>h'.elim)
  have I7':=I7.pinned (stat fr7) (T.obj _ _ st7);have back:∀{σ8:L2.St} {H8:Hp} {s8:Shared} {m':Nat},Inv Y (pq++W3 fp s7.heap) σ8 H8 s8->m'<n->W (i+1) m' σ8 H8->∃m,m<n/\∃i σ' H',Inv Y pq σ' H' s8/\tn i s8.heap/\(∀b∈fp,H' b=none)/\W i m σ' H':=λ{σ8 H8 s8 m'} I8 hm w8=>by
   refine⟨m',hm,i+1,σ8,H8,I8.unpinned,T.keep _ _ _ st7 λb hb' o e=>(I8.pin (b,o) (PD _ (PD _ (YO hb' e)))).1,λb hb'=>?_,w8⟩
   obtain⟨o,e,d⟩:=T.obj _ _ st7 b hb';exact (I8.pin (b,o) (PD _ (PD _ (YO hb' e)))).2.1
  refine Pd (Ni (hg _ s7 σ5 H7 x u _ I7' r7 (step x H7 y7)) (λ_ s8 ⟨σ8,H8,I8,q8⟩=>?_) λ_ _ h'=>(hx _ _ h').elim)
  refine Pd (Ni (ht _ s8 σ8 H8 _ I8 q8) (λok s9 ⟨H9,I9,q9⟩=>?_) λ_ _ h'=>(hx _ _ h').elim)
  cases ok with
  |false=>
   rw[Pm Pi] at q9;obtain⟨m',hm,w9⟩:=q9;exact PM ⟨rfl,back I9 hm w9⟩
  |true=>
   rw[Pj rfl] at q9;exact he _ s9 σ8 H9 _ _ _ _ I9 q9 λs10 σ10 H10 I10 ⟨m',hm,w10⟩=>PM ⟨rfl,back I10 hm w10⟩
theorem zS {Y:Cx}{elt:Expr}{te:TE}{D:Addr}(hx:∀a b,Y.xe a b->False) (he:PE Y elt te):zr Y (λk=>(do let _ <-call (.builtin "list.append") [.ref D,<-eval elt Y.env]:Sem Unit) >>= λ_=>k) (λσ H Q=>te σ H λy H4=>∃ys,H4 D=some (.lst ys)/\ys.length<sizeLine/\Q σ (upd H4 D (.lst (ys++[y])))):=by
 intro pq s σ H Q k QF EE I h hk;refine Pd ?_;refine Pd (Ni (he pq s σ H _ I h) (λxv s10 ⟨y,H10,I10,r10,ys,hDy,hz,q⟩=>?_) λ_ _ h'=>(hx _ _ h').elim)
 refine Pd (Ni (XR (X:=Y) pq s10 σ H10 (.ref D) [y] (.ref D) [xv] (λv H'=>v=.non/\H'=upd H10 D (.lst (ys++[y]))) I10 rfl (.cons r10 .nil) ⟨D,ys,y,rfl,rfl,hDy,hz,rfl,rfl⟩) (λ_ s11 ⟨v11,H11,I11,_,_,eH⟩=>?_) λ_ _ h'=>(hx _ _ h').elim)
 subst eH;exact PM (hk _ _ _ I11 q)
def vA (wi:TI) (g:TG) (tt:TT) (te:Addr->TEm) (cap:List Nat) (nl:Nat):TE:=λσ H Q=>wi σ H λJ H1=>∀D,H1 D=none->∃W:Nat->Nat->L2.St->Hp->Prop,(∃m,W 0 m (Yq cap nl σ) (upd H1 D (.lst [])))/\xZ J g tt (te D) W λ_ H'=>Q (.ref D) H'
def xR (wi:TI) (g:TG) (tt:TT) (te:TE) (cap:List Nat) (nl:Nat):TE:=λσ H Q=>wi σ H λJ H1=>∀D,H1 D=none->∃W:Nat->Nat->L2.St->Hp->Prop,(∃m,W 0 m (Yq cap nl σ) (upd H1 D (.lst [])))/\∀i m σ' H',W i m σ' H'->
  (J.stop i H'/\Q (.ref D) H')\/(J.go i H'/\∀x H'',J.yld i H' x H''->g x σ' H'' λσ2 H2=>tt σ2 H2 λok H3=>if ok=true then te σ2 H3 λy H4=>∃ys,H4 D=some (.lst ys)/\ys.length<sizeLine/\∃m',m'<m/\W (i+1) m' σ2 (upd H4 D (.lst (ys++[y]))) else ∃m',m'<m/\W (i+1) m' σ2 H3)
section
variable {X:Cx}
structure Gone (X:Cx) (pq:List (Addr×Obj)) (H:Hp) (s:Shared) (C:Addr):Prop where
 free:H C=none
 ns:∃m,s.heap.Ns C m
 loc:C≠X.env.locals
 big:X.s₀.heap.objs.size<=C
 cel:∀x c,X.env.cells.lookup x=some c->c≠C
 pin:∀p∈X.pn++pq,p.1≠C
theorem JP {tg iter elt:Expr}{ifs:List Expr}{scope:Scope}{pos fpos:Pos}{N:List Str}{cap:List Nat}{nl:Nat}{wi:TI}{g:TG}{tt:TT}{te:Addr->TEm}{act:Value->Env->Sem Fin->Sem Fin}{rest:List Comprehension}{pq:List (Addr×Obj)}{s:Shared}{σ:L2.St}{H:Hp}{Q:VK}{use:Option (Value->Sem Unit)}{QQ:Value->Shared->Prop}(hc:X.calm=true) (hN:X.N.Nodup) (CS:CompScope X.env.scope X.N scope N cap nl) (hi:PI X tg iter wi)
  (hT:∀it acc env,compTurn (.ListComp elt (⟨tg,iter,ifs,0⟩::rest) scope pos) 0 it acc env=W9 iter.pos tg ifs (act acc env) it env (.compLoop (.ListComp elt (⟨tg,iter,ifs,0⟩::rest) scope pos) 0 it acc env))
  (hb:∀cl s H fp,PG (cxC X N scope cl s H fp) tg g/\PTs (cxC X N scope cl s H fp) ifs tt/\∀D,zr (cxC X N scope cl s H fp) (act (.ref D) (cxC X N scope cl s H fp).env) (te D))
  (hs:∀x,foldedSetIterable iter X.env x=pure x) (I:Inv X pq σ H s) (h:vA wi g tt te cap nl σ H Q)
  (fin:∀D C H5 s6,Inv X pq σ H5 s6->Gone X pq H5 s6 C->Q (.ref D) H5->compPost (model X.prog X.w) X.A X.xe use QQ (.ref D) C (.ok .next) s6) :
  wpAny (model X.prog X.w) X.A (comprehension (.ListComp elt (⟨tg,iter,ifs,0⟩::rest) scope pos) scope X.env fpos (newList []) false (eval iter X.env) use) QQ X.xe s:=by
 obtain⟨cl,hcl,c1,c2⟩:=Xc (scope:=scope) (env:=X.env) λy hy hf=>I.ok.has y.1 (CS.free y hy hf)
 refine wpAny_comprehension_free (use:=use) rfl hs hcl CS.kind CS.names ?_;refine thn (hi pq s σ H _ I h) λv s1 h1=>thn h1 λitv s2 h2=>?_
 obtain⟨it,fp,tn,J,H2,rfl,I2,T,st2,f2,q2⟩:=h2;obtain⟨W,⟨m0,w0⟩,turn⟩:=q2 s2.heap.objs.size (I2.hok.fresh (Po _));refine wpAny_newObj_type (wpAny_newFunctionEnv CS.nocell (by intro y hy;simp at hy) (λh₁ hns₁ hsb₁=>?_) CS.kind)
 dsimp only at hns₁ hsb₁ ⊢
 have I3:Inv X pq σ (upd H2 s2.heap.objs.size (.lst [])) { s2 with heap:=s2.heap.push { cls:=.type "list",dict:=none,data:=.seq ([]:List Value).toArray },toks:=s2.toks }:=
  I2.laid (λb u e=>Pe _ e) (Po _) ⟨Kb _,[],0,.nil,Ps _ rfl⟩
 generalize hD:s2.heap.objs.size=D at I3 w0 turn hns₁ hsb₁ ⊢;generalize hs3:({ s2 with heap:=s2.heap.push { cls:=.type "list",dict:=none,data:=.seq ([]:List Value).toArray },toks:=s2.toks }:Shared)=s3 at I3
 have hh3:s2.heap.push { cls:=.type "list",dict:=none,data:=.seq ([]:List Value).toArray }=s3.heap:=by rw[<-hs3]
 rw[hh3] at hns₁ hsb₁;have old:∀b o,s2.heap.get? b=some o->s3.heap.get? b=some o:=λb o e=>by rw[<-hh3];exact Pe _ e
 have neD:∀b∈fp,b≠D:=λb hb' e=>by
  obtain⟨o,ho,_⟩:=T.obj _ _ st2 b hb';exact absurd (Pg ho) (by rw[e,<-hD];exact PN _)
 have f3:∀b∈fp,X8 X pq (upd H2 D (.lst [])) b:=λb hb'=>⟨by rw[Ze (neD b hb')];exact (f2 b hb').1,(f2 b hb').2⟩
 have keep4:∀b o,s3.heap.get? b=some o->h₁.get? b=some o:=λb o e=>hsb₁.extBut b o (PX (Pg e)) (Pe _ e)
 have I4:=zN (tk:=s2.toks+([]:List (Str×Value)).length) I3 CS hN c1 c2 f3 (λb hb'=>let ⟨o,ho,_⟩:=T.obj _ _ st2 b hb';⟨o,old b o ho⟩) ⟨_,hns₁⟩ keep4
 have e4:({ s3 with heap:=h₁,toks:=s2.toks+([]:List (Str×Value)).length }:Shared)={ s2 with heap:=h₁,toks:=s2.toks+([]:List (Str×Value)).length }:=by rw[<-hs3]
 rw[e4] at I4;obtain⟨hg,ht,he⟩:=hb cl s3 (upd H2 D (.lst [])) fp;generalize hY:cxC X N scope cl s3 (upd H2 D (.lst [])) fp=Y at I4 hg ht he;have yP:Y.prog=X.prog:=by rw[<-hY];rfl
 have stat:∀{H':Hp},(∀b∈fp,H' b=none)->∀b∈fp,X8 Y [] H' b:=λhn b hb'=>by
  subst hY;refine⟨hn b hb',λe=>?_,λhm=>?_,.inl hb',λx c e=>(f3 b hb').2.2.2.2.1 x c (c1 x c e),λp hp=>absurd hp (by simp[cxC])⟩
  ·obtain⟨o,ho,_⟩:=T.obj _ _ st2 b hb'
   have:=Pg (old b o ho);rw[e] at this;exact absurd this (PN _)
  ·rcases Pr.mp (I3.stkSub b hm) with e | e
   ·exact (f3 b hb').2.1 e
   ·exact (f3 b hb').2.2.1 e
 subst hY
 let Y:=cxC X N scope cl s3 (upd H2 D (.lst [])) fp
 have st4:tn 0 h₁:=T.keep _ _ _ st2 λb hb' o e=>keep4 b o (old b o e)
 have fr4:∀b∈fp,upd H2 D (HO.lst []) b=none:=λb hb'=>(f3 b hb').1
 have loop:codeAny (model X.prog X.w) X.A (.compLoop (.ListComp elt (⟨tg,iter,ifs,0⟩::rest) scope pos) 0 (.ref it) (.ref D) (compEnvC scope cl s3.heap.objs.size X.env))
   (compPost (model X.prog X.w) X.A X.xe use QQ (.ref D) s3.heap.objs.size) { s2 with heap:=h₁,toks:=s2.toks+([]:List (Str×Value)).length }:=by
  refine J7 (Y:=cxC X N scope cl s3 (upd H2 D (.lst [])) fp) (pq:=[]) (W:=W) (Q:=λ_ H'=>Q (.ref D) H') hc (λ_ _ z=>z) (hT _ _ _) rfl rfl T hg ht (he D) stat turn (λσ5 H5 s6 I6 qn=>?_) I4 st4 fr4 w0 rfl rfl
  obtain⟨m6,hn6,_⟩:=I6.loc;have u:=I6.base;have IX:Inv X pq σ H5 s6:=Inv.call' (s':=s6) (ch:=fp) I3 I6.os ⟨u.keep,u.slot,u.free,u.there,u.tups,u.frzs,u.tbls⟩ I6.hok I6.bare λb hb'=>⟨(f3 b hb').2.2.2.1,(f3 b hb').2.1,(f3 b hb').2.2.2.2.1,λp hp e=>(f3 b hb').2.2.2.2.2 p hp e⟩
  refine fin D s3.heap.objs.size H5 s6 IX ⟨I6.free,⟨m6,hn6⟩,Ne.symm (PX I3.lt),I3.sz,λx c e z=>?_,λp hp z=>?_⟩ qn
  ·obtain⟨v,q⟩:=I3.cell x c e
   exact absurd q.lt (by rw[z];exact PN _)
  ·exact absurd (Pg (I3.pin p hp).1) (by rw[z];exact PN _)
 subst hs3;exact codeAny_compStart_list loop (T.self _ 0 _ _ _ st4 loop)
theorem Gone.inv {pq:List (Addr×Obj)}{H:Hp}{s:Shared}{C:Addr}{σ:L2.St}{h':Heap}(G:Gone X pq H s C) (I:Inv X pq σ H s) (hsb:Heap.SameBut C s.heap h'):Inv X pq σ H { s with heap:=h' }:=
 I.turned (t':=s.toks) (λb o hb e=>(hsb.2 b hb).trans e) G.free G.loc (.inr G.big) G.cel G.pin
def uV (te:TE) (D:Addr):TEm:=λσ H Q=>te σ H λy H4=>∃ys,H4 D=some (.lst ys)/\ys.length<sizeLine/\Q σ (upd H4 D (.lst (ys++[y])))
theorem xj {tg iter elt:Expr}{ifs:List Expr}{scope:Scope}{pos:Pos}{N:List Str}{cap:List Nat}{nl:Nat}{wi:TI}{g:TG}{tt:TT}{te:TE}(hc:X.calm=true) (hN:X.N.Nodup) (CS:CompScope X.env.scope X.N scope N cap nl) (hi:PI X tg iter wi)
  (hb:∀cl s H fp,PG (cxC X N scope cl s H fp) tg g/\PTs (cxC X N scope cl s H fp) ifs tt/\PE (cxC X N scope cl s H fp) elt te)
  (hs:∀x,foldedSetIterable iter X.env x=pure x:=by intro _;rfl):PE X (.ListComp elt [⟨tg,iter,ifs,0⟩] scope pos) (xR wi g tt te cap nl):=by
 intro pq s σ H Q I h;rw[eval_ListComp];refine JP (te:=uV te) (act:=λacc env k=>(do let _ <-call (.builtin "list.append") [acc,<-eval elt env]:Sem Unit) >>= λ_=>k) hc hN CS hi (λ_ _ _=>rfl) (λcl s H fp=>⟨(hb cl s H fp).1,(hb cl s H fp).2.1,λD=>zS (λ_ _ z=>z) (hb cl s H fp).2.2⟩) hs I h λD C H5 s6 I6 G q=>?_
 obtain⟨m6,hn6⟩:=G.ns;exact⟨m6,hn6,λh' hsb=>⟨.ref D,H5,G.inv I6 hsb,rfl,q⟩⟩
end
end Sd
namespace Sd
open PySem PySem.Spec PyProof.Rows L2
open Ev (D Ob Za Lc R E Sm Calls Walk Fl Fn Bop Cop Ty Bf Mf ev evs evo evt evw tst run runs)
section
variable {X:Cx}{xw:Nat->Hp->Prop}{C:Calls}{e a b c tg it:Expr}{i j k:E}{pos p p' p2:Pos}
def CTs (X:Cx) (xw:Nat->Hp->Prop) (C:Calls) (ifs:List Expr) (is:List E):Prop:=PTs X ifs (tB3 X xw (evt C is))
theorem PTs.imp {X:Cx}{e:List Expr}{t t':TT}(h:PTs X e t) (k:∀σ H Q,t' σ H Q->t σ H Q):PTs X e t':=λpq s σ H Q I q=>h pq s σ H Q I (k σ H Q q)
theorem VU:CTs X xw C [] []:=PTs.imp yr λσ H Q ⟨ρ,l,S,st,lr,h⟩=>End.ok (rep:=YT) (show End X.K xw YT ρ H Q (.ok true S) from h) st rfl
theorem LocR.caught {ρ:List Addr}{H:Hp}{l:Lc}{σ:L2.St}(lr:LocR ρ H l σ) (cap:List Nat) (nl:Nat):LocR ρ H (Ev.caught cap nl l) (Yq cap nl σ):=by
 refine⟨by unfold Ev.caught Yq;simp,λn d e=>?_⟩
 unfold Ev.caught at e;by_cases hn:n<nl
 ·rw[Pl (by simp;exact hn),PZ,Pj hn] at e
  cases e
 ·rw[Px (by simp;omega),P8,PP] at e
  unfold Yq;rw[Px (by simp;omega),P8,PP]
  cases q:cap[n-nl]? with
  |none=>rw[q] at e;cases e
  |some m=>
   rw[q] at e;have e':(l[m]?).join=some d:=Pa e;have:l[m]? = some (some d):=by
    cases z:l[m]? with
    |none=>rw[z] at e';cases e'
    |some o=>rw[z] at e';cases o with
     |none=>cases e'
     |some w=>cases e';rfl
   obtain⟨v,hv,r⟩:=lr.val m d this;exact⟨v,by show some ((σ[m]?).join)=_;rw[hv];rfl,r⟩
theorem zD {is:List E}{ie:E}{cap:List Nat}{nl:Nat}{w:Ev.W}{t:List Nat}{σ:L2.St}{H:Hp}{Q:VK}(hyp:tE X xw (ev C (.comp1 cap nl t w is ie)) σ H Q):xR (tW3 X xw (evw C w)) (tG3 X t) (tB3 X nx (evt C is)) (tE X nx (ev C ie)) cap nl σ H Q:=by
  obtain⟨ρ,l,S,st,lr,h⟩:=hyp;rw[ev] at h;refine⟨ρ,l,S,st,lr,h.bind λwk S1 ρ1 H1 J f1 st1 r1 h1=>λD hD=>?_⟩
  have st2:St3 X.K (ρ1++[D]) (S1++[.lst []]) (upd H1 D (.lst [])):=st1.new hD ⟨[],Zi,Rq.nil⟩;have f2:Fut ρ1 H1 (ρ1++[D]) (upd H1 D (.lst [])):=XF hD;have pD:(ρ1++[D])[S1.length]? = some D:=by rw[<-st1.len];simp
  let B:Ev.D->Lc->Za->R Lc:=λx σ S2=>(Ev.ob (Ev.assign t x S2 σ) S2).bind λσ S2=>(evt C is σ S2).bind λb S2=>if b then (ev C ie σ S2).bind λy S2=>(Ev.push S1.length y S2).bind λ_ S2=>.ok σ S2 else .ok σ S2
  have h2:End X.K nx Rep ρ1 H1 Q ((Ev.Z4 wk B wk.items (Ev.caught cap nl l) (S1++[.lst []])).bind λ_ S2=>.ok (.loc S1.length) S2):=End.nox h1
  refine⟨λn m σ' H'=>m=wk.items.length-n/\n<=wk.items.length/\∃ρ' l' S',Fut (ρ1++[D]) (upd H1 D (.lst [])) ρ' H'/\St3 X.K ρ' S' H'/\LocR ρ' H' l' σ'/\End X.K nx Rep ρ' H' Q ((Ev.Z4 wk B (wk.items.drop n) l' S').bind λ_ S2=>.ok (.loc S1.length) S2),
   ⟨wk.items.length,rfl,Kb _,ρ1++[D],Ev.caught cap nl l,S1++[Ob.lst []],Fut.refl _ _,st2,(((lr.mono f1).mono f2).caught cap nl),by rw[List.drop_zero];exact End.mono f2 h2⟩,?_⟩
  rintro n m σ' H' ⟨rfl,hn,ρ',l',S',f',st',lr',e'⟩
  by_cases hlt:n<wk.items.length
  ·right
   have hd:wk.items.drop n=wk.items[n]::wk.items.drop (n+1):=NI hlt;rw[hd] at e';have e2:End X.K nx Rep ρ' H' Q ((if wk.still S'=true then (B wk.items[n] l' S').bind λσ S=>Ev.Z4 wk B (wk.items.drop (n+1)) σ S else .no).bind λ_ S2=>.ok (.loc S1.length) S2):=e'
   by_cases hst:wk.still S'=true
   ·rw[Pj hst] at e2
    obtain⟨go,yl⟩:=r1.go n ρ' S' H' (f2.trans f') st' hst hlt;refine⟨go,λx H3 y=>?_⟩
    obtain⟨f3,st3,rp⟩:=yl x H3 y;have rx:=rp _ (Pb hlt);have e3:=End.mono f3 e2;have ff:=f'.trans f3;cases ha:Ev.assign t wk.items[n] S' l' with
    |none=>
     have z:B wk.items[n] l' S'=.no:=by show (Ev.ob (Ev.assign t wk.items[n] S' l') S').bind _=_;rw[ha];rfl
     rw[z] at e3;exact False.elim e3
    |some l2=>
     have z:B wk.items[n] l' S'=(evt C is l2 S').bind λb S2=>if b then (ev C ie l2 S2).bind λy S2=>(Ev.push S1.length y S2).bind λ_ S2=>.ok l2 S2 else .ok l2 S2:=by
      show (Ev.ob (Ev.assign t wk.items[n] S' l') S').bind _=_;rw[ha];rfl
     rw[z] at e3;simp only[YZ] at e3;refine⟨ρ',l',S',wk.items[n],l2,st3,lr'.mono f3,rx,ha,λσ2 lr2=>⟨ρ',l2,S',st3,lr2,e3.bind λok S4 ρ4 H4 ok' f4 st4 ro h4=>?_⟩⟩
     have eo:ok=ok':=ro;subst eo;cases ok with
     |false=>
      rw[Pm Pi];exact⟨wk.items.length-(n+1),by omega,rfl,hlt,ρ4,l2,S4,ff.trans f4,st4,lr2.mono f4,h4⟩
     |true=>
      rw[Pj rfl];have h5:End X.K nx Rep ρ4 H4 Q (((ev C ie l2 S4).bind λy S2=>(Ev.push S1.length y S2).bind λ_ S2=>.ok l2 S2).bind λa S=>(Ev.Z4 wk B (wk.items.drop (n+1)) a S).bind λ_ S2=>.ok (.loc S1.length) S2):=h4
      simp only[YZ] at h5;refine⟨ρ4,l2,S4,st4,lr2.mono f4,h5.bind λy S5 ρ5 H5 v f5 st5 r5 h6=>?_⟩
      have p5:ρ5[S1.length]? = some D:=f5.at (f4.at (ff.at pD));cases q:Ev.Zc S5 S1.length with
      |none=>
       have z:Ev.push S1.length y S5=.no:=by unfold Ev.push;rw[q]
       rw[z] at h6;exact False.elim h6
      |some zs=>
       have z:Ev.push S1.length y S5=if zs.length<Ev.lim then .ok () (S5.set S1.length (.lst (zs++[y]))) else .no:=by unfold Ev.push;rw[q]
       rw[z] at h6;by_cases hl:zs.length<Ev.lim
       ·rw[Pj hl] at h6
        obtain⟨sn,a,xs,pa,hx,rz⟩:=st5.lst q;rw[p5] at pa;cases pa;refine⟨xs,hx,by rw[rz.length,<-XJ];exact hl,wk.items.length-(n+1),by omega,rfl,hlt,ρ5,l2,S5.set S1.length (.lst (zs++[y])),((ff.trans f4).trans f5).trans (Yv hx),st5.wr p5 sn hx (rz.append (Rq.cons r5 Rq.nil)),((lr2.mono f4).mono f5).mono (Yv hx),End.mono (Yv hx) h6⟩
       ·rw[Pm hl] at h6
        exact False.elim h6
   ·rw[Pm hst] at e2
    exact False.elim e2
  ·left
   have en:n=wk.items.length:=by omega
   subst en;rw[List.drop_length] at e';have e2:End X.K nx Rep ρ' H' Q ((if wk.still S'=true then Ev.R.ok l' S' else .no).bind λ_ S2=>.ok (.loc S1.length) S2):=e'
   by_cases hst:wk.still S'=true
   ·rw[Pj hst] at e2
    exact⟨r1.stop ρ' S' H' (f2.trans f') st' hst,End.ok (rep:=Rep) (show End X.K nx Rep ρ' H' Q (.ok (.loc S1.length) S') from e2) st' (Wb (f'.at pD))⟩
   ·rw[Pm hst] at e2
    exact False.elim e2
theorem W8 {elt:Expr}{ifs:List Expr}{is:List E}{ie:E}{scope:Scope}{N:List Str}{cap:List Nat}{nl:Nat}{w:Ev.W}{t:List Nat}(hc:X.calm=true) (hN:X.N.Nodup) (CS:CompScope X.env.scope X.N scope N cap nl) (hi:CW X xw C tg it w)
  (hb:∀cl s H fp,CG (cxC X N scope cl s H fp) tg t/\CTs (cxC X N scope cl s H fp) nx C ifs is/\CE (cxC X N scope cl s H fp) nx C elt ie)
  (hs:∀x,foldedSetIterable it X.env x=pure x:=by intro _;rfl):CE X xw C (.ListComp elt [⟨tg,it,ifs,0⟩] scope pos) (.comp1 cap nl t w is ie):=
 PE.imp (xj (g:=tG3 X t) (tt:=tB3 X nx (evt C is)) (te:=tE X nx (ev C ie)) hc hN CS hi (λcl s H fp=>hb cl s H fp) hs) λσ H Q hyp=>zD hyp
end
theorem LocR.start {ρ:List Addr}{H:Hp}{ds:List D}{vs:List V}(r:Rq ρ H ds vs) (N:List Str) (n:Nat) (hn:n=N.length):LocR ρ H (Ev.start n ds) (L2.start N vs):=by
 subst hn;have hl:=r.length;refine⟨by unfold Ev.start L2.start;simp[hl],λi d e=>?_⟩
 unfold Ev.start at e;by_cases hi:i<ds.length
 ·rw[Pl (by simpa using hi),PP] at e
  cases q:ds[i]? with
  |none=>rw[q] at e;cases e
  |some d'=>
   rw[q] at e;cases e;obtain⟨v,hv,r'⟩:=r.get q;refine⟨v,?_,r'⟩;unfold L2.start;rw[Pl (by simp;omega),PP,hv]
   rfl
 ·rw[Px (by simp;omega),PZ] at e
  split at e <;> cases e
section
variable {es:List Expr}{env:Env}
theorem UH {a b c}:starEach (.Constant a b c::es) env=(false,eval (.Constant a b c) env)::starEach es env:=rfl
theorem QW {a b}:starEach (.Name a b::es) env=(false,eval (.Name a b) env)::starEach es env:=rfl
theorem GP {a b c}:starEach (.Tuple a b c::es) env=(false,eval (.Tuple a b c) env)::starEach es env:=rfl
theorem GF {a b}:starEach (.List a b::es) env=(false,eval (.List a b) env)::starEach es env:=rfl
theorem Gx {a b c d}:starEach (.BinOp a b c d::es) env=(false,eval (.BinOp a b c d) env)::starEach es env:=rfl
theorem xQ {a b c}:starEach (.UnaryOp a b c::es) env=(false,eval (.UnaryOp a b c) env)::starEach es env:=rfl
theorem zE {a b c}:starEach (.Subscript a b c::es) env=(false,eval (.Subscript a b c) env)::starEach es env:=rfl
theorem Jl {a b c d}:starEach (.Call a b c d::es) env=(false,eval (.Call a b c d) env)::starEach es env:=rfl
theorem QY {a b c d}:starEach (.ListComp a b c d::es) env=(false,eval (.ListComp a b c d) env)::starEach es env:=rfl
end
def YC:List DictEntry->List (Int×Int)->Prop
 |[],[]=>True
 |e::r,(k,j)::q=>(∃t,e.key=.int k t)/\e.hash=hashInt k/\(∃u,e.val=.int j u)/\YC r q
 |_,_=>False
theorem YC.mem {P:Program}{w:World}:∀{es:List DictEntry}{tab:List (Int×Int)},YC es tab->∀e∈es,∃k,(intKind P w).is k e.key=true/\e.hash=(intKind P w).hash k
 |[],_,_,e,h=>by cases h
 |e::r,[],h,_,_=>h.elim
 |e::r,(k,j)::q,h,x,hx=>by
  obtain⟨⟨t,h1⟩,h2,_,h4⟩:=h;rcases Pr.mp hx with rfl | hx
  ·exact⟨k,by rw[h1];exact intKind_is P w k t,h2⟩
  ·exact YC.mem h4 x hx
theorem YC.find {P:Program}{w:World}(k:Int):∀{es:List DictEntry}{tab:List (Int×Int)},YC es tab->(tab.lookup k=none->(es.find? λe=>(intKind P w).is k e.key)=none)/\∀j,tab.lookup k=some j->∃e t,(es.find? λe=>(intKind P w).is k e.key)=some e/\e.val=.int j t
 |[],[],_=>⟨λ_=>rfl,λj h=>by cases h⟩
 |[],_::_,h=>h.elim
 |e::r,[],h=>h.elim
 |e::r,(k',j')::q,h=>by
  obtain⟨⟨t,h1⟩,h2,⟨u,h3⟩,h4⟩:=h;obtain⟨i1,i2⟩:=YC.find (P:=P) (w:=w) k h4;rw[PL,List.find?_cons];have hd:(intKind P w).is k e.key=decide (k=k'):=KeyKind.is_eq_decide (by rw[h1];exact intKind_is P w k' t) k
  rw[hd];by_cases z:k=k'
  ·subst z
   rw[Nl,PB rfl];exact⟨λz=>(by cases z),λj z=>(by cases z;exact⟨e,u,rfl,h3⟩)⟩
  ·rw[Nj.mpr z,P2 z]
   exact⟨i1,i2⟩
theorem yA {P:Program}{w:World}{K:PySem.W.Frag}{a:Addr}{es:Array DictEntry}{n:Nat}{tab:List (Int×Int)}(hl:K.lookup a=some ⟨.type "dict",none,.dict es n,#[]⟩) (ht:YC es.toList tab) (ha:(a == sysModules)=false):xA P w K a tab:=by
 refine⟨ha,λk=>findBy (intKind P w).is es k,λh X=>⟨_,es,n,X _ _ hl,⟨rfl,rfl,rfl⟩,rfl,λe he=>ht.mem e (Array.mem_toList_iff.mpr he),λ_=>rfl⟩,λk=>?_⟩
 obtain⟨l⟩:=es;obtain⟨i1,i2⟩:=YC.find (P:=P) (w:=w) k ht;refine⟨λz=>?_,λj z=>?_⟩
 ·show ((l.toArray.find? λe=>(intKind P w).is k e.key).map (·.val))=none
  rw[List.find?_toArray,i1 z];rfl
 ·obtain⟨e,t,q1,q2⟩:=i2 j z
  refine⟨t,?_⟩;show ((l.toArray.find? λe=>(intKind P w).is k e.key).map (·.val))=_
  rw[List.find?_toArray,q1];exact congrArg some q2
theorem hu7 {k:Nat}{A:Around}(hr:Room k A):A.units+7<cLine:=Nat.lt_of_le_of_lt (by omega) hr.un
section
variable {X:Cx}{xw:Nat->Hp->Prop}{C:Calls}{e a b c tg it:Expr}{i j k:E}{pos p p' p2 p3:Pos}{s0:Stmt}{ss:List Stmt}{m0:Sm}{ms ms':List Sm}
structure AugOk (X:Cx) (op:Operator) (o:Bop):Prop where
 h:∃t:TIp,PIp X op t/\∀(xw:Nat->Hp->Prop) ρ S H n m Q,St3 X.K ρ S H->End X.K xw Rep ρ H Q (Ev.ZW o (.int n) (.int m) S)->t (.int n) (.int m) H Q
theorem G1:AugOk X .Mult .mul:=⟨_,GR,λxw ρ S H n m Q st h=>by
 obtain⟨hc,h⟩:=End.guard h;exact⟨n,m,rfl,rfl,(Ph _ _).mp hc,End.ok h st (Zf _)⟩⟩
theorem Qq {op:Operator}{o:Bop}{n:Nat}{x:Str}(ho:AugOk X op o) (hN:X.N.Nodup) (he:CE X xw C e i) (hi:X.N[n]? = some x:=by rfl) (hx:L2.Loc X.env.scope x:=by first | exact Or.inl rfl | exact Or.inr rfl) (hf:X.fn x=true\/X.env.scope.names.lookup x=some .local:=by first | exact .inl rfl | exact .inr rfl) :
  CS X xw C (.AugAssign (.Name x p) op e pos) (.aug n o i):=by
 obtain⟨t,ht,hq⟩:=ho.h;refine PS.imp (vC hN hi hx he ht hf) λD σ H ⟨ρ,l,S,st,lr,h⟩=>?_
 obtain⟨d,hd,h1⟩:=ZC.ob (show ZC X.K xw ρ H D ((Ev.ob (l[n]?).join S).bind λx S=>(ev C i l S).bind λy S=>(Ev.Wm o x y S).bind λz S=>.ok (.nx (l.set n (some z))) S) from h)
 have hd':l[n]? = some (some d):=by
  cases z:l[n]? with
  |none=>rw[z] at hd;cases hd
  |some oo=>rw[z] at hd;cases oo with
   |none=>cases hd
   |some w=>cases hd;rfl
 obtain⟨v,hv,rv⟩:=lr.val n d hd';refine⟨v,hv,ρ,l,S,st,lr,h1.bind λy S1 ρ1 H1 u f1 st1 r1 h2=>?_⟩
 cases d with
 |int m=>cases y with
  |int m'=>
   rw[rv.int',r1.int'];refine hq xw ρ1 S1 H1 m m' _ st1 ?_;exact ZC.bind (show ZC X.K xw ρ1 H1 D ((Ev.ZW o (.int m) (.int m') S1).bind λz S=>.ok (.nx (l.set n (some z))) S) from h2) λz S2 ρ2 H2 w f2 st2 r2 h3=>ZC.nx h3 st2 (((lr.mono f1).mono f2).set n r2)
  |_=>exact False.elim h2
 |_=>exact False.elim h2
end
end Sd
namespace Sd
open PySem PySem.Spec PyProof.Rows L2
def Src (b:Bool) (h:Heap) (it l:Addr) (k:Nat):Prop:=match b with
 |true=>h.IsListIter it l k
 |false=>h.IsTupleIter it l k
def Yg (b:Bool) (h:Heap) (l:Addr) (xs:Array Value):Prop:=match b with
 |true=>h.IsList l xs
 |false=>h.IsTuple l xs
theorem Src.ext {b:Bool}{h h':Heap}{it l c:Addr}{k:Nat}(x:Src b h it l k) (e:Heap.ExtBut c h h') (n:it≠c):Src b h' it l k:=by
 cases b
 ·exact Heap.IsTupleIter.extBut x e n
 ·exact Heap.IsListIter.extBut x e n
theorem Src.keep {b:Bool}{h h':Heap}{it l:Addr}{k:Nat}(x:Src b h it l k) (e:∀o,h.get? it=some o->h'.get? it=some o):Src b h' it l k:=by
 cases b
 ·obtain⟨o,ho,r⟩:=x;exact⟨o,e o ho,r⟩
 ·obtain⟨o,ho,r⟩:=x;exact⟨o,e o ho,r⟩
theorem Src.obj {b:Bool}{h:Heap}{it l:Addr}{k:Nat}(x:Src b h it l k):∃o,h.get? it=some o/\∀v,o.data≠.cell v:=by
 cases b
 ·obtain⟨o,ho,_,d⟩:=x;exact⟨o,ho,λv z=>by rw[d] at z;cases z⟩
 ·obtain⟨o,ho,_,d⟩:=x;exact⟨o,ho,λv z=>by rw[d] at z;cases z⟩
theorem Yg.keep {b:Bool}{h h':Heap}{l:Addr}{xs:Array Value}(x:Yg b h l xs) (e:∀o,h.get? l=some o->h'.get? l=some o):Yg b h' l xs:=by
 cases b
 ·obtain⟨o,ho,r⟩:=x;exact⟨o,e o ho,r⟩
 ·obtain⟨o,ho,r⟩:=x;exact⟨o,e o ho,r⟩
section
variable {prog:Program}{w:World}{A:Around}{E:Value->Shared->Prop}{s:Shared}
theorem GW {it t:Addr}{i:Nat}{items:Array Value}{x:Value}{Q:Value->Shared->Prop}(hit:s.heap.IsTupleIter it t i) (ht:s.heap.IsTuple t items) (hx:items[i]? = some x)
  (hQ:∀h',h'.IsTupleIter it t (i+1)->Heap.SameBut it s.heap h'->Q x { s with heap:=h' }):wpAny (model prog w) A (Builtin.SmallTypes.nextOf (.ref it)) Q E s:=by
 obtain⟨o,ho,hc,hd⟩:=id hit;obtain⟨ol,hol,_,nl,hdl⟩:=ht;unfold Builtin.SmallTypes.nextOf;refine Pd (Nx (name:=Str.ofString "__next__") hit.typeIs Nn (NV Nn hit.typeIs F.entry_tuple_iterator_next ?_ (F.args_tuple_iterator_next_1 _)));show wpAny _ _ (field (.ref it) 0 >>= _) _ _ s;refine Pd (Nf ho hd (x:=.ref t) rfl ?_);show wpAny _ _ (if (Value.ref t == Value.none)=true then _ else _) _ _ s
 rw[Pm (show ¬((Value.ref t == Value.none)=true) by exact Pi)];show wpAny _ _ (field (.ref it) 1 >>= _) _ _ s;refine Pd (Nf ho hd (x:=.int i 0) rfl ?_)
 show wpAny _ _ (seqItems? (.ref t) >>= _) _ _ s;refine Pd (No hol hdl ?_);simp only[Int.toNat_natCast,hx];refine Pd (wpAny_setField ho hd (by simp) (PM ⟨x,rfl,PM (hQ _ ⟨_,Heap.get?_update_self _ ho (Obj.isFreed_of_fields (Obj.data_mapFields hd _)),(Obj.cls_mapFields ..).trans hc,?_⟩ (Heap.SameBut.update ..))⟩))
 rw[Obj.data_mapFields hd];simp[rawInt]
theorem V0 {it t:Addr}{i:Nat}{items:Array Value}{Q:Value->Shared->Prop}(hh:A.handled=none) (hit:s.heap.IsTupleIter it t i) (ht:s.heap.IsTuple t items) (hx:items[i]? = none)
  (hE:∀h' e,Heap.ExtBut it s.heap h'->(∃o,h'.get? e=some o/\o.cls=.type "StopIteration")->E (.ref e) { s with heap:=h' }):wpAny (model prog w) A (Builtin.SmallTypes.nextOf (.ref it)) Q E s:=by
 obtain⟨o,ho,hc,hd⟩:=id hit;obtain⟨ol,hol,_,nl,hdl⟩:=ht;unfold Builtin.SmallTypes.nextOf;refine Pd (Nx (name:=Str.ofString "__next__") hit.typeIs Nn (NV Nn hit.typeIs F.entry_tuple_iterator_next ?_ (F.args_tuple_iterator_next_1 _)));show wpAny _ _ (field (.ref it) 0 >>= _) _ _ s;refine Pd (Nf ho hd (x:=.ref t) rfl ?_);show wpAny _ _ (if (Value.ref t == Value.none)=true then _ else _) _ _ s
 rw[Pm (show ¬((Value.ref t == Value.none)=true) by exact Pi)];show wpAny _ _ (field (.ref it) 1 >>= _) _ _ s;refine Pd (Nf ho hd (x:=.int i 0) rfl ?_)
 show wpAny _ _ (seqItems? (.ref t) >>= _) _ _ s;refine Pd (No hol hdl ?_);simp only[Int.toNat_natCast,hx];refine Pd (wpAny_rule (Pd (wpAny_setField ho hd (by simp) ?_)));show wpAny _ _ (newExc (.type "StopIteration") [] >>= _) _ _ _
 refine Pd ?_;simp only[newExc,newTuple];refine Pd (wpAny_newObj_type ?_ (by size_fits))
 refine Pd (m:=firstArgMember _ _) (wpAny_of_eq (a:=Value.none) (by first | rfl | (simp only[firstArgMember];rfl)) (wpAny_newObj_type ?_ (by size_fits)))
 simp only[raiseNew];refine Pd (wpAny_handled ?_);first | rw[show A.in1.handled=none from hh] | rw[hh]
 exact Pd (PM (wpAny_throw (hE _ _ (((Heap.SameBut.update ..).extBut.push _).push _) ⟨_,Ps _ rfl,rfl⟩)))
theorem Wn {b:Bool}{it l:Addr}{k:Nat}{xs:Array Value}{x:Value}{Q:Value->Shared->Prop}(hit:Src b s.heap it l k) (hl:Yg b s.heap l xs) (hx:xs[k]? = some x)
  (hQ:∀h',Src b h' it l (k+1)->Heap.SameBut it s.heap h'->Q x { s with heap:=h' }):wpAny (model prog w) A (Builtin.SmallTypes.nextOf (.ref it)) Q E s:=by
 cases b
 ·exact GW hit hl hx hQ
 ·exact wpAny_nextOf_list_item hit hl hx hQ
theorem Jr {b:Bool}{it l:Addr}{k:Nat}{xs:Array Value}{Q:Value->Shared->Prop}(hh:A.handled=none) (hit:Src b s.heap it l k) (hl:Yg b s.heap l xs) (hx:xs[k]? = none)
  (hE:∀h' e,Heap.ExtBut it s.heap h'->(∃o,h'.get? e=some o/\o.cls=.type "StopIteration")->E (.ref e) { s with heap:=h' }):wpAny (model prog w) A (Builtin.SmallTypes.nextOf (.ref it)) Q E s:=by
 cases b
 ·exact V0 hh hit hl hx hE
 ·exact wpAny_nextOf_list_end hh hit hl hx hE
noncomputable def YV (b:Bool) (l:Addr):Obj:={ cls:=.type (if b then "list_iterator" else "tuple_iterator"),data:=.fields #[.ref l,.int 0 0] }
theorem WC {b:Bool}{l:Addr}{xs:Array Value}{Q:Value->Shared->Prop}(hl:Yg b s.heap l xs) (h:Q (.ref s.heap.objs.size) { s with heap:=s.heap.push (YV b l) }):wpAny (model prog w) A (pyIter (.ref l)) Q E s:=by
 cases b
 ·exact wpAny_pyIter_tuple hl h
 ·exact NU hl h
structure ZipSt (b1 b2:Bool) (z TI TO i1 i2 l1 l2:Addr) (k:Nat) (f0:Value) (h:Heap):Prop where
 zp:IsZip h z TI TO f0
 ti:IsPair h TI (.ref i1) (.ref i2)
 to:∃a b,IsPair h TO a b
 s1:Src b1 h i1 l1 k
 s2:Src b2 h i2 l2 k
theorem GD {b1 b2:Bool}{z TI TO i1 i2 l1 l2:Addr}{k:Nat}{xs ys:Array Value}{x y:Value}{Q:Value->Shared->Prop}(D:ZipApart z TI TO i1 i2 l1 l2) (Z:ZipSt b1 b2 z TI TO i1 i2 l1 l2 k .none s.heap) (hl1:Yg b1 s.heap l1 xs) (hl2:Yg b2 s.heap l2 ys) (hx:xs[k]? = some x) (hy:ys[k]? = some y)
  (hQ:∀h',ZipSt b1 b2 z TI TO i1 i2 l1 l2 (k+1) (rawInt s.heap.objs.size) h'->IsPair h' s.heap.objs.size x y->(∀c o,c∉[z,TO,i1,i2]->s.heap.get? c=some o->h'.get? c=some o)->Q (.ref s.heap.objs.size) { s with heap:=h' }) :
  wpAny (model prog w) A (Builtin.«zip.__next__» ⟨[.ref z],[]⟩) (λfin s'=>∃v,fin=.done (.ret v)/\Q v s') E s:=by
 obtain⟨hz,hTI,⟨a,b,hTO⟩,h1,h2⟩:=Z;show wpAny _ _ (field (.ref z) 2 >>= _) _ _ _;refine Pd (Nf hz rfl (x:=.bool false) rfl ?_);show wpAny _ _ (field (.ref z) 3 >>= _) _ _ _;refine Pd (Nf hz rfl (x:=.ref TI) rfl (Pd (No hTI rfl ?_)));show wpAny _ _ (Builtin.SmallTypes.ownedTupleIsFree (.ref z) >>= _) _ _ _;refine Pd ?_;unfold Builtin.SmallTypes.ownedTupleIsFree;refine Pd (Nf hz rfl (x:=.none) rfl (PM ?_));simp only[NW];refine Pd (wpAny_rule (Pd (Nf hz rfl (x:=.ref TO) rfl (Pd (Np hz (by simp) λh₁ hz₁ hs₁=>?_)))))
 replace hz₁:IsZip h₁ z TI TO .ellipsis:=by exact hz₁
 refine Pd ?_;simp only[List.zipIdx_cons,List.zipIdx_nil,List.forIn_cons,List.forIn_nil];refine Pd (Pd (wpAny_onRaise ?_));show wpAny _ _ (Builtin.SmallTypes.nextOf (.ref i1) >>= _) _ _ _;refine Pd (Wn (h1.ext hs₁.extBut D.i1z) (hl1.keep λo e=>hs₁.extBut _ o D.l1z e) hx λh₂ h1₂ hs₂=>PM ?_)
 have hTO₂:IsPair h₂ TO a b:=by exact hs₂.extBut _ _ D.TOi1 (hs₁.extBut _ _ D.TOz hTO)
 refine Pd (No hTO₂ rfl (Pd (NY hTO₂ λh₃ hTO₃ hs₃=>?_)))
 replace hTO₃:IsPair h₃ TO x b:=by exact hTO₃
 refine Pd (wpAny_letGo (PM (Pd (Pd (wpAny_onRaise ?_)))));show wpAny _ _ (Builtin.SmallTypes.nextOf (.ref i2) >>= _) _ _ _;have to3:∀c o,c≠z->c≠TO->c≠i1->s.heap.get? c=some o->h₃.get? c=some o:=λc o c1 c2 c3 e=>hs₃.extBut _ _ c2 (hs₂.extBut _ _ c3 (hs₁.extBut _ _ c1 e))
 refine Pd (Wn (h2.keep λo e=>to3 _ o D.i2z D.TOi2.symm D.i12.symm e) (hl2.keep λo e=>to3 _ o D.l2z D.l2TO D.l2i1 e) hy λh₄ h2₄ hs₄=>PM ?_)
 have hTO₄:IsPair h₄ TO x b:=by exact hs₄.extBut _ _ D.TOi2 hTO₃
 refine Pd (No hTO₄ rfl (Pd (NY hTO₄ λh₅ hTO₅ hs₅=>?_)))
 replace hTO₅:IsPair h₅ TO x y:=by exact hTO₅
 refine Pd (wpAny_letGo (PM (PM (Pd (No hTO₅ rfl (Pd (wpAny_newTuple ?_)))))));have hsz:h₅.objs.size=s.heap.objs.size:=by rw[hs₅.1,hs₄.1,hs₃.1,hs₂.1,hs₁.1]
 have to5:∀c o,c≠z->c≠TO->c≠i1->c≠i2->s.heap.get? c=some o->h₅.get? c=some o:=λc o c1 c2 c3 c4 e=>hs₅.extBut _ _ c2 (hs₄.extBut _ _ c4 (to3 c o c1 c2 c3 e))
 have hz₅:IsZip h₅ z TI TO .ellipsis:=by exact hs₅.extBut _ _ D.TOz.symm (hs₄.extBut _ _ D.i2z.symm (hs₃.extBut _ _ D.TOz.symm (hs₂.extBut _ _ D.i1z.symm hz₁)))
 have h1₅:Src b1 h₅ i1 l1 (k+1):=((h1₂.ext hs₃.extBut D.TOi1.symm).ext hs₄.extBut D.i12).ext hs₅.extBut D.TOi1.symm;have h2₅:Src b2 h₅ i2 l2 (k+1):=h2₄.ext hs₅.extBut D.TOi2.symm;have zl:z<h₅.objs.size:=Pg hz₅;show wpAny _ _ (Builtin.SmallTypes.ownedTupleHandOut (.ref z) (.ref h₅.objs.size) >>= _) _ _ _;refine Pd ?_;unfold Builtin.SmallTypes.ownedTupleHandOut;have hz₆:IsZip (h₅.push { cls:=.type "tuple",data:=.seq #[x,y] }) z TI TO .ellipsis:=by exact Pe _ hz₅
 refine Pd (Np hz₆ (by simp) λh₇ hz₇ hs₇=>?_)
 replace hz₇:IsZip h₇ z TI TO (rawInt h₅.objs.size):=by exact hz₇
 refine Np hz₇ (by simp) λh₈ hz₈ hs₈=>PM ⟨_,rfl,?_⟩
 replace hz₈:IsZip h₈ z TI TO (rawInt h₅.objs.size):=by exact hz₈
 have up:∀c o,c≠z->h₅.get? c=some o->h₈.get? c=some o:=λc o c1 e=>by exact hs₈.extBut _ _ c1 (hs₇.extBut _ _ c1 (Pe _ e))
 have hT₈:IsPair h₈ h₅.objs.size x y:=by exact hs₈.extBut _ _ (Nat.ne_of_gt zl) (hs₇.extBut _ _ (Nat.ne_of_gt zl) (Ps _ rfl))
 show Q (.ref h₅.objs.size) _;rw[hsz] at hz₈ hT₈ ⊢;refine hQ h₈ ⟨hz₈,up _ _ D.TIz (to5 _ _ D.TIz D.TITO D.TIi1 D.TIi2 hTI),⟨x,y,up _ _ D.TOz hTO₅⟩,h1₅.keep λo e=>up _ o D.i1z e,h2₅.keep λo e=>up _ o D.i2z e⟩ hT₈ λc o hc e=>?_
 simp only[Pr,P6,NZ,not_or] at hc;exact up c o hc.1 (to5 c o hc.1 hc.2.1 hc.2.2.1 hc.2.2.2 e)
end
section
variable {prog:Program}{w:World}{A:Around}{E:Value->Shared->Prop}{s:Shared}
theorem Vd {b1 b2:Bool}{z TI TO i1 i2 l1 l2:Addr}{k:Nat}{xs ys:Array Value}{Q:Fin->Shared->Prop}(hh:A.handled=none) (D:ZipApart z TI TO i1 i2 l1 l2) (Z:ZipSt b1 b2 z TI TO i1 i2 l1 l2 k .none s.heap) (hl1:Yg b1 s.heap l1 xs) (hl2:Yg b2 s.heap l2 ys) (hend:xs[k]? = none\/ys[k]? = none)
  (hE:∀h' e,(∀c o,c∉[z,TO,i1,i2]->s.heap.get? c=some o->h'.get? c=some o)->(∃o,h'.get? e=some o/\o.cls=.type "StopIteration")->E (.ref e) { s with heap:=h' }) :
  wpAny (model prog w) A (Builtin.«zip.__next__» ⟨[.ref z],[]⟩) Q E s:=by
 obtain⟨hz,hTI,⟨a,b,hTO⟩,h1,h2⟩:=Z;have hk:∀{c:Addr},c∉[z,TO,i1,i2]->c≠z/\c≠TO/\c≠i1/\c≠i2:=λhc=>by
  simp only[Pr,P6,NZ,not_or] at hc;exact hc
 show wpAny _ _ (field (.ref z) 2 >>= _) _ _ _;refine Pd (Nf hz rfl (x:=.bool false) rfl ?_);show wpAny _ _ (field (.ref z) 3 >>= _) _ _ _;refine Pd (Nf hz rfl (x:=.ref TI) rfl (Pd (No hTI rfl ?_)));show wpAny _ _ (Builtin.SmallTypes.ownedTupleIsFree (.ref z) >>= _) _ _ _;refine Pd ?_;unfold Builtin.SmallTypes.ownedTupleIsFree;refine Pd (Nf hz rfl (x:=.none) rfl (PM ?_));simp only[NW];refine Pd (wpAny_rule (Pd (Nf hz rfl (x:=.ref TO) rfl (Pd (Np hz (by simp) λh₁ hz₁ hs₁=>?_)))))
 replace hz₁:IsZip h₁ z TI TO .ellipsis:=by exact hz₁
 refine Pd ?_;simp only[List.zipIdx_cons,List.zipIdx_nil,List.forIn_cons,List.forIn_nil];refine Pd (Pd (wpAny_onRaise ?_));show wpAny _ _ (Builtin.SmallTypes.nextOf (.ref i1) >>= _) _ _ _;have l1₁:Yg b1 h₁ l1 xs:=hl1.keep λo e=>hs₁.extBut _ o D.l1z e
 cases hx:xs[k]? with
 |none=>
  refine Pd (Jr hh (h1.ext hs₁.extBut D.i1z) l1₁ hx λh₂ e hs₂ he=>?_)
  obtain⟨oe,hoe,hce⟩:=he;have hz₂:IsZip h₂ z TI TO .ellipsis:=by exact hs₂ _ _ D.i1z.symm hz₁
  have hez:e≠z:=λx=>by subst x;rw[hz₂] at hoe;cases hoe;simp at hce
  exact Np hz₂ (by simp) λh₃ _ hs₃=>hE h₃ e (λc o hc x=>hs₃.extBut _ _ (hk hc).1 (hs₂ _ _ (hk hc).2.2.1 (hs₁.extBut _ _ (hk hc).1 x))) ⟨oe,hs₃.extBut _ _ hez hoe,hce⟩
 |some x=>
  have hy:ys[k]? = none:=by rcases hend with q | q;rw[hx] at q;cases q;exact q
  refine Pd (Wn (h1.ext hs₁.extBut D.i1z) l1₁ hx λh₂ h1₂ hs₂=>PM ?_)
  have hTO₂:IsPair h₂ TO a b:=by exact hs₂.extBut _ _ D.TOi1 (hs₁.extBut _ _ D.TOz hTO)
  refine Pd (No hTO₂ rfl (Pd (NY hTO₂ λh₃ hTO₃ hs₃=>?_)))
  refine Pd (wpAny_letGo (PM (Pd (Pd (wpAny_onRaise ?_)))));show wpAny _ _ (Builtin.SmallTypes.nextOf (.ref i2) >>= _) _ _ _;have to3:∀c o,c≠z->c≠TO->c≠i1->s.heap.get? c=some o->h₃.get? c=some o:=λc o c1 c2 c3 e=>hs₃.extBut _ _ c2 (hs₂.extBut _ _ c3 (hs₁.extBut _ _ c1 e))
  refine Pd (Jr hh (h2.keep λo e=>to3 _ o D.i2z D.TOi2.symm D.i12.symm e) (hl2.keep λo e=>to3 _ o D.l2z D.l2TO D.l2i1 e) hy λh₄ e hs₄ he=>?_)
  obtain⟨oe,hoe,hce⟩:=he;have hz₄:IsZip h₄ z TI TO .ellipsis:=by exact hs₄ _ _ D.i2z.symm (hs₃.extBut _ _ D.TOz.symm (hs₂.extBut _ _ D.i1z.symm hz₁))
  have hez:e≠z:=λx=>by subst x;rw[hz₄] at hoe;cases hoe;simp at hce
  exact Np hz₄ (by simp) λh₅ _ hs₅=>hE h₅ e (λc o hc x=>hs₅.extBut _ _ (hk hc).1 (hs₄ _ _ (hk hc).2.2.2 (to3 c o (hk hc).1 (hk hc).2.1 (hk hc).2.2.1 x))) ⟨oe,hs₅.extBut _ _ hez hoe,hce⟩
theorem QR {b1 b2:Bool}{z TI TO i1 i2 l1 l2:Addr}{k:Nat}{xs ys:Array Value}{x y:Value}{Q:Option Value->Shared->Prop}(D:ZipApart z TI TO i1 i2 l1 l2) (Z:ZipSt b1 b2 z TI TO i1 i2 l1 l2 k .none s.heap) (hl1:Yg b1 s.heap l1 xs) (hl2:Yg b2 s.heap l2 ys) (hx:xs[k]? = some x) (hy:ys[k]? = some y)
  (hQ:∀h',ZipSt b1 b2 z TI TO i1 i2 l1 l2 (k+1) (rawInt s.heap.objs.size) h'->IsPair h' s.heap.objs.size x y->(∀c o,c∉[z,TO,i1,i2]->s.heap.get? c=some o->h'.get? c=some o)->Q (some (.ref s.heap.objs.size)) { s with heap:=h' }) :
  wpAny (model prog w) A (pyNext (.ref z)) Q E s:=by
 have hT:s.TypeIs (.ref z) "zip":=⟨_,Z.zp,rfl⟩;unfold pyNext;exact Pd (wpAny_attempt (Nx (name:=Str.ofString "__next__") hT N5 (NV N5 hT F.entry_zip_next (GD D Z hl1 hl2 hx hy λh' a1 a2 a3=>PM (hQ h' a1 a2 a3)) (F.args_zip_next_1 _))))
theorem Wz {b1 b2:Bool}{z TI TO i1 i2 l1 l2:Addr}{k:Nat}{xs ys:Array Value}{Q:Option Value->Shared->Prop}(hh:A.handled=none) (D:ZipApart z TI TO i1 i2 l1 l2) (Z:ZipSt b1 b2 z TI TO i1 i2 l1 l2 k .none s.heap) (hl1:Yg b1 s.heap l1 xs) (hl2:Yg b2 s.heap l2 ys) (hend:xs[k]? = none\/ys[k]? = none)
  (hQ:∀h',(∀c o,c∉[z,TO,i1,i2]->s.heap.get? c=some o->h'.get? c=some o)->Q none { s with heap:=h' }):wpAny (model prog w) A (pyNext (.ref z)) Q E s:=by
 have hT:s.TypeIs (.ref z) "zip":=⟨_,Z.zp,rfl⟩;unfold pyNext;refine Pd (wpAny_attempt (Nx (name:=Str.ofString "__next__") hT N5 (NV N5 hT F.entry_zip_next (Vd hh D Z hl1 hl2 hend λh' e hk he=>?_) (F.args_zip_next_1 _))))
 obtain⟨o,ho,hc⟩:=he;exact Pd (wpAny_isInstance (T:="StopIteration") (b:=true) ⟨o,ho,hc⟩ isSubtype_stop (PM (hQ _ hk)))
noncomputable def zH1 (h:Heap) (b1:Bool) (l1:Addr):Heap:=h.push (YV b1 l1)
noncomputable def zH2 (h:Heap) (b1 b2:Bool) (l1 l2:Addr):Heap:=(zH1 h b1 l1).push (YV b2 l2)
noncomputable def zH3 (h:Heap) (b1 b2:Bool) (l1 l2:Addr):Heap:=(zH2 h b1 b2 l1 l2).push { cls:=.type "tuple",data:=.seq #[.ref h.objs.size,.ref (zH1 h b1 l1).objs.size] }
noncomputable def zH4 (h:Heap) (b1 b2:Bool) (l1 l2:Addr):Heap:=(zH3 h b1 b2 l1 l2).push { cls:=.type "tuple",data:=.seq #[.none,.none] }
noncomputable def zH5 (h:Heap) (b1 b2:Bool) (l1 l2:Addr):Heap:=(zH4 h b1 b2 l1 l2).push { cls:=.type "zip",data:=.fields #[.none,.bool false,.bool false,.ref (zH2 h b1 b2 l1 l2).objs.size,.ref (zH3 h b1 b2 l1 l2).objs.size] }
theorem yn (b1 b2:Bool) (l1 l2:Addr) (xs ys:Array Value) :
  Meets (Builtin.«zip.__new__» ⟨[.type "zip",.ref l1,.ref l2],[]⟩) (λ_ R s=>Yg b1 s.heap l1 xs/\Yg b2 s.heap l2 ys/\R (.ok (.ret (.ref (zH4 s.heap b1 b2 l1 l2).objs.size))) { s with heap:=zH5 s.heap b1 b2 l1 l2 }):=
 .of_wp λprog w A R s h=>by
  obtain⟨hp,g,d,tk,os⟩:=s;obtain⟨hl1,hl2,h⟩:=h;have hsub:=sub_zip;have hL1:Yg b1 (Shared.heap ⟨hp,g,d,tk,os⟩) l1 xs:=hl1;have hL2:Yg b2 (Shared.heap ⟨hp.push (YV b1 l1),g,d,tk,os⟩) l2 ys:=hl2.keep λo e=>Pe _ e
  wp_walk using WC hL1,WC hL2
  exact⟨_,rfl,h⟩
theorem GU {b1 b2:Bool}{l1 l2:Addr}{xs ys:Array Value}{Q:Value->Shared->Prop}(hl1:Yg b1 s.heap l1 xs) (hl2:Yg b2 s.heap l2 ys)
  (h:∀h' n,n=s.heap.objs.size->ZipSt b1 b2 (n+4) (n+2) (n+3) n (n+1) l1 l2 0 .none h'->(∀c o,s.heap.get? c=some o->h'.get? c=some o)->Q (.ref (n+4)) { s with heap:=h' }) :
  wpAny (model prog w) A (call (.type "zip") [.ref l1,.ref l2]) Q E s:=by
 refine callType_new F.called_zip (by decide) (F.typeCall_zip_2 _ _) (F.newCall_zip_2 _ _) (λobj=>F.args_object_init_3 obj _ _) F.entry_zip_new (yn b1 b2 l1 l2 xs ys) ⟨hl1,hl2,?_⟩
 have z1:(zH1 s.heap b1 l1).objs.size=s.heap.objs.size+1:=NG ..;have z2:(zH2 s.heap b1 b2 l1 l2).objs.size=s.heap.objs.size+2:=by unfold zH2;rw[NG,z1]
 have z3:(zH3 s.heap b1 b2 l1 l2).objs.size=s.heap.objs.size+3:=by unfold zH3;rw[NG,z2]
 have z4:(zH4 s.heap b1 b2 l1 l2).objs.size=s.heap.objs.size+4:=by unfold zH4;rw[NG,z3]
 have g5:(zH5 s.heap b1 b2 l1 l2).get? (zH4 s.heap b1 b2 l1 l2).objs.size=some { cls:=.type "zip",data:=.fields #[.none,.bool false,.bool false,.ref (zH2 s.heap b1 b2 l1 l2).objs.size,.ref (zH3 s.heap b1 b2 l1 l2).objs.size] }:=Ps _ rfl;have k4:∀c o,(zH4 s.heap b1 b2 l1 l2).get? c=some o->(zH5 s.heap b1 b2 l1 l2).get? c=some o:=λc o e=>Pe _ e
 have k3:∀c o,(zH3 s.heap b1 b2 l1 l2).get? c=some o->(zH5 s.heap b1 b2 l1 l2).get? c=some o:=λc o e=>k4 c o (Pe _ e)
 have k2:∀c o,(zH2 s.heap b1 b2 l1 l2).get? c=some o->(zH5 s.heap b1 b2 l1 l2).get? c=some o:=λc o e=>k3 c o (Pe _ e)
 have k1:∀c o,(zH1 s.heap b1 l1).get? c=some o->(zH5 s.heap b1 b2 l1 l2).get? c=some o:=λc o e=>k2 c o (Pe _ e)
 have g4:=k4 _ _ (Ps (zH3 s.heap b1 b2 l1 l2) (o:={ cls:=.type "tuple",data:=.seq #[.none,.none] }) rfl);have g3:=k3 _ _ (Ps (zH2 s.heap b1 b2 l1 l2) (o:={ cls:=.type "tuple",data:=.seq #[.ref s.heap.objs.size,.ref (zH1 s.heap b1 l1).objs.size] }) rfl);have g2:=k2 _ _ (Ps (zH1 s.heap b1 l1) (o:=YV b2 l2) rfl);have g1:=k1 _ _ (Ps s.heap (o:=YV b1 l1) rfl);rw[z2,z3,z4] at g5;rw[z1,z2] at g3;rw[z3] at g4;rw[z1] at g2;rw[z4];have src:∀b l it,(zH5 s.heap b1 b2 l1 l2).get? it=some (YV b l)->Src b (zH5 s.heap b1 b2 l1 l2) it l 0:=λb l it e=>by
  cases b
  ·exact⟨_,e,rfl,rfl⟩
  ·exact⟨_,e,rfl,rfl⟩
 exact⟨⟨_,g5,rfl⟩,h _ _ rfl ⟨g5,g3,⟨_,_,g4⟩,src b1 l1 _ g1,src b2 l2 _ g2⟩ λc o e=>k1 c o (Pe _ e)⟩
end
end Sd
namespace Sd
open PySem PySem.Spec PyProof.Rows L2
open Ev (D Ob Za Lc R E Sm Calls Walk Fl Fn Bop Cop Ty Bf Mf ev evs evo evt evw tst run runs)
theorem VT {X:Cx}{pq:List (Addr×Obj)}{σ:L2.St}{H:Hp}{s:Shared}{h':Heap}{t':Nat}{ch:List Addr}(I:Inv X pq σ H s) (k:∀b o,b∉ch->s.heap.get? b=some o->h'.get? b=some o) (hf:∀b∈ch,X8 X pq H b):Inv X pq σ H { s with heap:=h',toks:=t' }:=by
 have nit:∀b u,H b=some u->b∉ch:=λb u e z=>by have:=(hf b z).1;rw[e] at this;cases this
 refine I.step (g':=s.gens) (d':=s.drawn) (ch:=ch) (λb hb=>?_) (λb o _ _ hc e _=>k b o hc e) (λb o _ _ hc e _=>⟨o.slots,k b o hc e⟩) (λ_ _ _ _ n=>n) (λb o hc e=>⟨o,k b o hc e⟩) (λ_ _ e=>e) (λ_ _ _ e=>e) (λb ps e=>⟨#[],by rw[e];simp⟩) (λm hm=>?_) (λb u e=>?_) I.bare
 ·exact⟨(hf b hb).2.2.2.1,(hf b hb).2.1,(hf b hb).2.2.2.2.1,(hf b hb).2.2.2.2.2⟩
 ·obtain⟨o,es,ep,ho,r⟩:=hm
  exact⟨o,es,ep,k _ o (λz=>(hf _ z).2.1 rfl) ho,r⟩
 ·refine (I.hok b u e).stay (λc v hc q=>k c v ?_ q) (λ_ q=>q) λ_ _ q=>q
  rcases hc with z | z
  ·rw[z];exact nit b u e
  ·exact nit c _ z
theorem Gm {h:Heap}{o o':Obj}{b:Addr}(e:(h.push o').get? b=some o) (n:b≠h.objs.size):h.get? b=some o:=by
 unfold Heap.get? Heap.push at *;simp only[Array.getElem?_push] at e;rw[Pm n] at e;exact e
theorem WV {a b:Nat}(h:a<b\/b<a):(a:Addr)≠b:=λe=>by
 have e':(a:Nat)=b:=e;omega
def Sq (b:Bool) (K:PySem.W.Frag) (H:Hp) (l:Addr) (xs:List V):Prop:=match b with
 |true=>SqL K H l xs
 |false=>SqT K H l xs
section
variable {X:Cx}{pq:List (Addr×Obj)}{σ:L2.St}{H:Hp}{s:Shared}
theorem Xd (I:Inv X pq σ H s) {b:Bool}{l:Addr}{xs:List V}(h:Sq b X.K H l xs):∃its:List Value,Vals xs its/\Yg b s.heap l its.toArray:=by
 cases b
 ·obtain⟨its,r,p,_⟩:=I.tuple h;exact⟨its,r,p⟩
 ·obtain⟨its,r,p,_⟩:=I.list h;exact⟨its,r,p.isList⟩
theorem GJ (I:Inv X pq σ H s) {b:Bool}{l:Addr}{xs ys:List V}(h:Sq b X.K H l xs) (h':Sq b X.K H l ys):xs=ys:=by
 cases b
 ·exact I.tuple_inj h h'
 ·exact I.list_inj h h'
theorem VP {b:Bool}{h:Heap}{l:Addr}{xs:Array Value}(x:Yg b h l xs):l<h.objs.size:=by
 cases b
 ·obtain⟨o,ho,_⟩:=x;exact Pg ho
 ·obtain⟨o,ho,_⟩:=x;exact Pg ho
end
noncomputable def Itz (K:PySem.W.Frag) (b1 b2:Bool) (l1 l2:Addr):It:=
 ⟨λi H=>∃xs ys x y,Sq b1 K H l1 xs/\Sq b2 K H l2 ys/\xs[i]? = some x/\ys[i]? = some y,
  λi H v H'=>∃T x y,(∀xs,Sq b1 K H l1 xs->xs[i]? = some x)/\(∀ys,Sq b2 K H l2 ys->ys[i]? = some y)/\H T=none/\H'=upd H T (.tup [x,y])/\v=.ref T,
  λi H=>∃xs ys,Sq b1 K H l1 xs/\Sq b2 K H l2 ys/\(xs.length<=i\/ys.length<=i)⟩
theorem zC {P:Program}{w:World}{K:PySem.W.Frag}{elts:List Expr}{kk:Nat}{tp:Pos}{b1 b2:Bool}{z TI TO i1 i2 l1 l2:Addr}(D:ZipApart z TI TO i1 i2 l1 l2) :
  Turn P w K (.Tuple elts kk tp) (Itz K b1 b2 l1 l2) [z,TI,TO,i1,i2] z (λi h=>ZipSt b1 b2 z TI TO i1 i2 l1 l2 i .none h) where
 mem:=by simp
 obj:=λi h st b hb=>by
  simp only[Pr,P6,NZ] at hb;obtain⟨a,c,hTO⟩:=st.to;rcases hb with e | e | e | e | e <;> subst e
  ·exact⟨_,st.zp,λv q=>by cases q⟩
  ·exact⟨_,st.ti,λv q=>by cases q⟩
  ·exact⟨_,hTO,λv q=>by cases q⟩
  ·exact st.s1.obj
  ·exact st.s2.obj
 keep:=λi h h' st k=>by
  obtain⟨a,c,hTO⟩:=st.to;exact⟨k z (by simp) _ st.zp,k TI (by simp) _ st.ti,⟨a,c,k TO (by simp) _ hTO⟩,st.s1.keep λo e=>k i1 (by simp) o e,st.s2.keep λo e=>k i2 (by simp) o e⟩
 item:=by
  intro X hP hw hK hc i pq s σ H E I hf st hg;subst hP hw hK;obtain⟨xs,ys,x,y,hq1,hq2,hx,hy⟩:=hg;obtain⟨its,rv,o1⟩:=Xd I hq1;obtain⟨its2,rv2,o2⟩:=Xd I hq2;obtain⟨u,hu,ru⟩:=rv.get hx;obtain⟨u2,hu2,ru2⟩:=rv2.get hy;refine QR D st o1 o2 (x:=u) (y:=u2) (by simpa using hu) (by simpa using hu2) λh' Z' hT hk=>?_
  have hfree:H s.heap.objs.size=none:=I.hok.fresh (Po _);have ltz:∀b∈[z,TI,TO,i1,i2],b≠s.heap.objs.size:=λb hb e=>by
   simp only[Pr,P6,NZ] at hb;obtain⟨a,c,hTO⟩:=st.to;rcases hb with q | q | q | q | q <;> subst q
   ·exact absurd (Pg st.zp) (by rw[e];exact PN _)
   ·exact absurd (Pg st.ti) (by rw[e];exact PN _)
   ·exact absurd (Pg hTO) (by rw[e];exact PN _)
   ·obtain⟨o,ho,_⟩:=st.s1.obj;exact absurd (Pg ho) (by rw[e];exact PN _)
   ·obtain⟨o,ho,_⟩:=st.s2.obj;exact absurd (Pg ho) (by rw[e];exact PN _)
  have IA:Inv X pq σ (upd H s.heap.objs.size (.tup [x,y])) { s with heap:=s.heap.push { cls:=.type "tuple",data:=.seq [u,u2].toArray },toks:=s.toks }:=
   I.laid (λb o e=>Pe _ e) (Po _) ⟨by show 2<=sizeLine;decide,[u,u2],.cons ru (.cons ru2 .nil),IsTup.new _ _⟩
  have hf2:∀b∈[z,TI,TO,i1,i2],X8 X pq (upd H s.heap.objs.size (.tup [x,y])) b:=λb hb=>⟨by rw[Ze (ltz b hb)];exact (hf b hb).1,(hf b hb).2⟩
  have IB:Inv X pq σ (upd H s.heap.objs.size (.tup [x,y])) { s with heap:=h',toks:=s.toks }:=by
   refine VT (s:={ s with heap:=s.heap.push { cls:=.type "tuple",data:=.seq [u,u2].toArray },toks:=s.toks }) (ch:=[z,TO,i1,i2]) IA (λb o hb e=>?_) λb hb=>hf2 b (by simp only[Pr,P6,NZ] at hb ⊢;rcases hb with q | q | q | q <;> simp[q])
   by_cases hbs:b=s.heap.objs.size
   ·subst hbs
    have e':(s.heap.push { cls:=.type "tuple",data:=.seq [u,u2].toArray }).get? s.heap.objs.size=some o:=e;rw[Ps _ rfl] at e';cases e';exact hT
   ·refine hk b o hb ?_
    have e':(s.heap.push { cls:=.type "tuple",data:=.seq [u,u2].toArray }).get? b=some o:=e;have hlt:=Pg e';rw[NG] at hlt;exact Gm e' hbs
  refine⟨.ref s.heap.objs.size,rfl,wpAny_letOwnedTupleGo_zip (s:={ s with heap:=h' }) Z'.zp λh2 hz2 hs2=>?_⟩
  have IC:Inv X pq σ (upd H s.heap.objs.size (.tup [x,y])) { s with heap:=h2,toks:=s.toks }:=VT (s:={ s with heap:=h',toks:=s.toks }) (ch:=[z]) IB (λb o hb e=>(hs2.2 b (by simpa using hb)).trans e) λb hb=>hf2 b (by simp only[Na] at hb;simp[hb])
  obtain⟨a,c,hTO⟩:=Z'.to;refine⟨.ref s.heap.objs.size,_,IC,rfl,⟨_,x,y,λzs hz=>by rw[GJ I hz hq1];exact hx,λzs hz=>by rw[GJ I hz hq2];exact hy,hfree,rfl,rfl⟩,?_,λb hb=>(hf2 b hb).1⟩
  exact⟨hz2,hs2.extBut _ _ D.TIz Z'.ti,⟨a,c,hs2.extBut _ _ D.TOz hTO⟩,Z'.s1.ext hs2.extBut D.i1z,Z'.s2.ext hs2.extBut D.i2z⟩
 done:=by
  intro X hP hw hK hc i pq s σ H E I hf st hg;subst hP hw hK;obtain⟨xs,ys,hq1,hq2,hend⟩:=hg;obtain⟨its,rv,o1⟩:=Xd I hq1;obtain⟨its2,rv2,o2⟩:=Xd I hq2;have e1:=rv.length;have e2:=rv2.length;refine Wz (I.ok.hd hc) D st o1 o2 (by rcases hend with q | q;exact .inl (by simp;omega);exact .inr (by simp;omega)) λh' hk=>⟨rfl,VT (t':=s.toks) (ch:=[z,TO,i1,i2]) I (λb o hb e=>hk b o hb e) λb hb=>hf b (by simp only[Pr,P6,NZ] at hb ⊢;rcases hb with q | q | q | q <;> simp[q])⟩
 self:=λ_ _ _ _ _ st h=>wpAny_pyIter_zip st.zp h
section
variable {X:Cx}{elts:List Expr}{kk:Nat}{tp:Pos}
def uY (K:PySem.W.Frag) (ta:TA):TI:=λσ H R=>ta σ H λvs H1=>∃b1 b2 l1 l2,vs=[.ref l1,.ref l2]/\(∃xs,Sq b1 K H1 l1 xs)/\(∃ys,Sq b2 K H1 l2 ys)/\R (Itz K b1 b2 l1 l2) H1
theorem vf {a b:Expr}{ta:TA}{p pos:Pos}(hg:Gl X "zip") (hm:X.mg "zip" = none) (ha:PA X [a,b] ta) (hs:starEach [a,b] X.env=[(false,eval a X.env),(false,eval b X.env)]:=by rfl) (hs2:starEach [b] X.env=[(false,eval b X.env)]:=by rfl) :
  PI X (.Tuple elts kk tp) (.Call (.Name "zip" p) [a,b] [] pos) (uY X.K ta):=by
 intro pq s σ H R I h;refine Call_ (XZ I hg hm (by rfl) (Nk (thn (ha pos pq s σ H _ I h) λus s1 ⟨vs,H1,I1,r1,q1⟩=>?_) (by rw[hs,hs2]) (by rw[hs2];rfl)))
 obtain⟨b1,b2,l1,l2,e,⟨xs,hq1⟩,⟨ys,hq2⟩,q⟩:=q1;subst e;cases r1 with
 |cons r rr=>
  cases rr with
  |cons r' rr=>
   cases rr;cases r;cases r';obtain⟨its,rv,o1⟩:=Xd I1 hq1;obtain⟨its2,rv2,o2⟩:=Xd I1 hq2;have lt1:=VP o1;have lt2:=VP o2;refine GU o1 o2 λh' n hn Z hk=>?_
   have I2:Inv X pq σ H1 { s1 with heap:=h' }:=I1.kept (t':=s1.toks) hk
   have q1:(l1:Nat)<n:=by rw[hn];exact lt1
   have q2:(l2:Nat)<n:=by rw[hn];exact lt2
   have D:ZipApart (n+4) (n+2) (n+3) n (n+1) l1 l2:=by constructor <;> first | exact WV (by omega) | exact WV (.inl (Pu q1 (Ny n _))) | exact WV (.inl (Pu q2 (Ny n _))) | exact WV (.inl q1) | exact WV (.inl q2)
   refine wpAny_pyIter_zip (s:={ s1 with heap:=h' }) Z.zp ⟨n+4,[n+4,n+2,n+3,n,n+1],_,_,H1,rfl,I2,zC D,Z,λb hb=>?_,q⟩
   have hbn:s1.heap.objs.size<=b:=by
    rw[<-hn];simp only[Pr,P6,NZ] at hb;rcases hb with e | e | e | e | e <;> rw[e]
    ·exact Ny n 4
    ·exact Ny n 2
    ·exact Ny n 3
    ·exact Po n
    ·exact Ny n 1
   exact I1.fpOk hbn (I1.hok.fresh hbn)
end
def Side (K:PySem.W.Frag) (ρ:List Addr) (H:Hp) (wk:Walk) (b:Bool) (l:Addr):Prop:=∀ρ' S' H',Fut ρ H ρ' H'->St3 K ρ' S' H'->wk.still S'=true->∃vs,Sq b K H' l vs/\Rq ρ' H' wk.items vs
theorem JG {K:PySem.W.Frag}{ρ:List Addr}{S:Za}{H:Hp}{x:D}{v:V}{wk:Walk}(st:St3 K ρ S H) (r:Rep ρ H x v) (h:Ev.Z1 S x=some wk):∃b l,v=.ref l/\(∃xs,Sq b K H l xs)/\Side K ρ H wk b l:=by
 cases x with
 |tup ds=>
  obtain⟨a,xs,rfl,hp,rs⟩:=r.tup';cases h;exact⟨false,a,rfl,⟨xs,SqT.of hp⟩,λρ' S' H' f _ _=>⟨xs,SqT.of (f.tup a xs hp),rs.mono f⟩⟩
 |loc n=>
  obtain⟨a,rfl,hp⟩:=r.loc';have h':(match S[n]? with
   |some (.lst xs)=>some (Walk.mk xs [(n,xs)])
   |_=>none)=some wk:=h
  cases q:S[n]? with
  |none=>rw[q] at h';cases h'
  |some o=>
   rw[q] at h';cases o with
   |lst ds=>
    cases h';obtain⟨a',ha,xs,hx,rs⟩:=st.at q;rw[hp] at ha;cases ha;refine⟨true,a,rfl,⟨xs,SqL.of hx⟩,λρ' S' H' f st' hs=>?_⟩
    have hn:S'[n]? = some (.lst ds):=by simpa [Walk.still] using hs
    obtain⟨a',ha,xs',hx',rs'⟩:=st'.at hn;rw[f.at hp] at ha;cases ha;exact⟨xs',SqL.of hx',rs'⟩
   |_=>cases h'
 |_=>cases h
theorem zF {K:PySem.W.Frag}{ρ:List Addr}{H:Hp}{v w:Walk}{b1 b2:Bool}{l1 l2:Addr}(h1:Side K ρ H v b1 l1) (h2:Side K ρ H w b2 l2):WRel K ρ H ⟨(v.items.zip w.items).map λp=>.tup [p.1,p.2],v.kept++w.kept⟩ (Itz K b1 b2 l1 l2) where
 go:=λi ρ' S' H' f st hs hi=>by
  have hs':v.still S'=true/\w.still S'=true:=by
   have:(v.kept++w.kept).all (λp=>decide (S'[p.1]? = some (.lst p.2)))=true:=hs
   rw[List.all_append,Ph] at this;exact this
  obtain⟨xs,q1,r1⟩:=h1 ρ' S' H' f st hs'.1;obtain⟨ys,q2,r2⟩:=h2 ρ' S' H' f st hs'.2;have hi':i<min v.items.length w.items.length:=by simpa using hi
  obtain⟨x,g1,rx⟩:=r1.get (Pb (show i<v.items.length by omega))
  obtain⟨y,g2,ry⟩:=r2.get (Pb (show i<w.items.length by omega))
  refine⟨⟨xs,ys,x,y,q1,q2,g1,g2⟩,λu H'' ⟨T,x',y',e1,e2,hT,eH,eu⟩=>?_⟩
  subst eH eu;have ex:=(e1 xs q1).symm.trans g1;have ey:=(e2 ys q2).symm.trans g2;cases ex;cases ey;refine⟨ZG hT,st.fresh hT,λd hd=>?_⟩
  have hd':((v.items.zip w.items).map λp=>D.tup [p.1,p.2])[i]? = some d:=hd
  have hz:(v.items.zip w.items)[i]? = some (v.items[i],w.items[i]):=List.getElem?_zip_eq_some.mpr ⟨Pb (show i<v.items.length by omega),Pb (show i<w.items.length by omega)⟩
  rw[PP,hz] at hd';cases hd';exact ZE Zi (Rq.cons (rx.mono (ZG hT)) (Rq.cons (ry.mono (ZG hT)) Rq.nil))
 stop:=λρ' S' H' f st hs=>by
  have hs':v.still S'=true/\w.still S'=true:=by
   have:(v.kept++w.kept).all (λp=>decide (S'[p.1]? = some (.lst p.2)))=true:=hs
   rw[List.all_append,Ph] at this;exact this
  obtain⟨xs,q1,r1⟩:=h1 ρ' S' H' f st hs'.1;obtain⟨ys,q2,r2⟩:=h2 ρ' S' H' f st hs'.2;refine⟨xs,ys,q1,q2,?_⟩;show xs.length<=((v.items.zip w.items).map λp=>D.tup [p.1,p.2]).length\/_
  rw[r1.length,r2.length,PV,List.length_zip];omega
section
variable {X:Cx}{xw:Nat->Hp->Prop}{C:Calls}{a b:Expr}{i j:E}{pos p tp:Pos}{elts:List Expr}{kk:Nat}
noncomputable def yy (x y:D) (S:Za):R Walk:=match Ev.Z1 S x,Ev.Z1 S y with
 |some v,some w=>.ok ⟨(v.items.zip w.items).map λp=>.tup [p.1,p.2],v.kept++w.kept⟩ S
 |_,_=>.no
theorem Qx (hm:X.mg "zip" = none) (ha:CA X xw C [a,b] [i,j]) (hg:Gl X "zip":=by rfl) (hs:starEach [a,b] X.env=[(false,eval a X.env),(false,eval b X.env)]:=by rfl) (hs2:starEach [b] X.env=[(false,eval b X.env)]:=by rfl) :
  CW X xw C (.Tuple elts kk tp) (.Call (.Name "zip" p) [a,b] [] pos) (.zip i j):=
 PI.imp (vf hg hm ha hs hs2) λσ H Q ⟨ρ,l,S,st,lr,h⟩=>by
  refine⟨ρ,l,S,st,lr,?_⟩;show End X.K xw Rq ρ H _ ((ev C i l S).bind λx S=>((ev C j l S).bind λy S=>(Ev.R.ok [] S).bind λxs S=>.ok (y::xs) S).bind λxs S=>.ok (x::xs) S)
  have h':End X.K xw (WRel X.K) ρ H Q ((ev C i l S).bind λx S=>(ev C j l S).bind λy S=>yy x y S):=h
  cases q:ev C i l S with
  |no=>rw[q] at h';exact h'
  |ex c S1=>rw[q] at h';exact h'
  |ok x S1=>
   rw[q] at h';have h2:End X.K xw (WRel X.K) ρ H Q ((ev C j l S1).bind λy S=>yy x y S):=h'
   show End X.K xw Rq ρ H _ (((ev C j l S1).bind λy S=>(Ev.R.ok [] S).bind λxs S=>.ok (y::xs) S).bind λxs S=>.ok (x::xs) S)
   cases q2:ev C j l S1 with
   |no=>rw[q2] at h2;exact h2
   |ex c S2=>rw[q2] at h2;exact h2
   |ok y S2=>
    rw[q2] at h2;intro ρ1 H1 vs f1 st1 r1;obtain⟨v,u,rfl,rv,ru⟩:=Q3 r1;have h3:End X.K xw (WRel X.K) ρ1 H1 Q (yy x y S2):=End.mono f1 h2;unfold yy at h3;cases e1:Ev.Z1 S2 x with
    |none=>rw[e1] at h3;exact False.elim h3
    |some v1=>
     cases e2:Ev.Z1 S2 y with
     |none=>rw[e1,e2] at h3;exact False.elim h3
     |some v2=>
      rw[e1,e2] at h3;obtain⟨b1,l1,rfl,s1,d1⟩:=JG st1 rv e1;obtain⟨b2,l2,rfl,s2,d2⟩:=JG st1 ru e2;exact⟨b1,b2,l1,l2,rfl,s1,s2,End.ok (rep:=WRel X.K) h3 st1 (zF d1 d2)⟩
end
theorem Gp {prog:Program}{w:World}{A:Around}(hh:A.handled=none) (b:Bool) (it l:Addr) (hne:l≠it) (xs:Array Value) :
  Walks prog w A it [it,l] [it] xs.size (λi v=>xs[i]? = some v) (λi h=>Src b h it l i/\Yg b h l xs):=by
 cases b
 ·exact Walks.tuple hh it l hne xs
 ·exact Walks.list hh it l hne xs
theorem yh {b:Bool}{h:Heap}{l:Addr}:Src b (h.push (YV b l)) h.objs.size l 0:=by
 cases b
 ·exact⟨_,Ps _ rfl,rfl,rfl⟩
 ·exact⟨_,Ps _ rfl,rfl,rfl⟩
section
variable {X:Cx}{xw:Nat->Hp->Prop}{C:Calls}{e a b c:Expr}{i j k:E}{pos p p' p2:Pos}
theorem WA {ρ:List Addr}{H:Hp}:∀{ds:List D}{is:List Int}{xs:List V},Ev.Yd ds=some is->Rq ρ H ds xs->xs=is.map V.int
 |[],is,xs,h,r=>by unfold Rq at r;cases h;rw[r];rfl
 |d::ds,is,xs,h,r=>by
  unfold Rq at r;obtain⟨v,vs,rfl,a1,b1⟩:=r;cases d with
  |int n=>
   have h':(Ev.Yd ds).map (n :: ·)=some is:=h
   cases q:Ev.Yd ds with
   |none=>rw[q] at h';cases h'
   |some k'=>
    rw[q] at h';have e:n::k'=is:=Pa h';rw[<-e,a1.int',WA q b1];rfl
  |_=>cases h
theorem WB (f:Nat->Int) (n:Nat):preSum f (n+1)=preSum f n+f n:=rfl
theorem Ut:∀(is:List Int),preSum (λj=>is.getD j 0) is.length=is.sum:=by
 have gen:∀(is:List Int) (n:Nat),n<=is.length->preSum (λj=>is.getD j 0) n=(is.take n).sum:=by
  intro is n
  induction n with
  |zero=>intro _;rfl
  |succ n ih=>
   intro h;rw[WB,ih (by omega),List.take_add_one,List.sum_append]
   have:is[n]? = some is[n]:=Pb (by omega)
   simp[this]
 intro is;rw[gen is is.length (Po _),List.take_length]
theorem XE {f:Nat->Int}{M:Int}(h:∀j,-M<=f j/\f j<=M) (hM:0<=M):∀n:Nat,-(M*n)<=preSum f n/\preSum f n<=M*n
 |0=>by rw[show preSum f 0=0 from rfl];simp
 |n+1=>by
  obtain⟨a,b⟩:=XE h hM n;obtain⟨c,d⟩:=h n;rw[WB];have:M*((n+1:Nat):Int)=M*n+M:=by rw[Int.natCast_add,Int.mul_add];simp
  rw[this];omega
theorem JL (hc:X.calm=true):ZL X (.builtin "sum") (λvs H Q=>∃ρ S ds n is,St3 X.K ρ S H/\Rq ρ H [.loc n] vs/\Ev.Zc S n=some ds/\Ev.Yd ds=some is/\Ev.Xx is=true/\Q (.int is.sum) H):=by
 intro pq s σ H vs us Q I r h;obtain⟨ρ,S,ds,n,is,st,rs,hl,hb,hok,q⟩:=h;obtain⟨v,rfl,r1⟩:=X4 rs;obtain⟨_,l,xs,q1,hx,rx⟩:=st.lst hl;obtain⟨p',rfl,t⟩:=r1.loc';rw[q1] at t;cases t;obtain⟨u,rfl,ru⟩:=UD r;cases ru;have hq:Sq true X.K H l xs:=SqL.of hx;obtain⟨its,rv,o1⟩:=Xd I hq;have hlt:=VP o1;have ex:=WA hb rx;subst ex;have hlen:its.toArray.size=is.length:=by rw[Pf,<-rv.length,PV]
 obtain⟨k1,k2⟩:=(Ph _ _).mp hok;have k1':=Py k1;have bd:∀j,-1099511627776<=is.getD j 0/\is.getD j 0<=1099511627776:=λj=>by
  cases e:is[j]? with
  |none=>rw[PQ,e];simp
  |some y=>
   have:=Py (PH.mp k2 y (NE e));rw[PQ,e];exact this
 refine call_sum_walk (WC o1 ⟨s.heap.objs.size,[s.heap.objs.size,l],[s.heap.objs.size],its.toArray.size,_,_,λj=>is.getD j 0,rfl,Gp (A:=X.A.in1) (show X.A.in1.handled=none from I.ok.hd hc) true s.heap.objs.size l (PX hlt) its.toArray,⟨yh,o1.keep λo q=>Pe _ q⟩,λb hb=>?_,λj v hv=>?_,λj hj=>?_,?_⟩)
 ·rw[NG]
  simp only[Pr,P6,NZ] at hb;rcases hb with q | q <;> rw[q]
  ·exact Nat.lt_succ_self _
  ·exact Nat.lt_succ_of_lt hlt
 ·have hj:its[j]? = some v:=by simpa using hv
  have jl:j<is.length:=by
   have:=(Pc.mp hj).1;rw[<-rv.length,PV] at this;exact this
  obtain⟨u',g',ru'⟩:=rv.get (i:=j) (show (is.map V.int)[j]? = some (V.int is[j]) by rw[PP,Pb jl];rfl)
  rw[hj] at g';cases g';obtain⟨t,e⟩:=ru';exact⟨t,by rw[e];show Value.int is[j] t=Value.int (is.getD j 0) t;rw[PQ,Pb jl];rfl⟩
 ·have b1:=bd j
  have b2:=XE bd (by omega) (j+1)
  have jl:j+1<=1000:=by omega
  have b3:(1099511627776:Int)*((j+1:Nat):Int)<=1099511627776*1000:=Int.mul_le_mul_of_nonneg_left (by omega) (by omega)
  refine⟨show InLong (is.getD j 0) from ?_,?_⟩ <;> (unfold InLong;omega)
 ·intro h' tk t' hk
  rw[hlen,Ut];exact⟨.int is.sum,H,I.kept (t':=tk) λb o e=>hk b o (λhm=>by
   have:b=s.heap.objs.size:=by simpa using hm
   exact absurd (this▸Pg e) (PN _)) (Pe _ e),⟨t',rfl⟩,q⟩
theorem Jg (hc:X.calm=true):ZL X (.builtin "sum") (V8 X.K xw .sum):=ZL.imp (JL hc) λvs H Q ⟨ρ,S,ds,st,r,h⟩=>by
 match ds,r,h with
 |[.loc n],r,h=>
  obtain⟨xs,hx,h1⟩:=End.ob (show End X.K xw Rep ρ H Q ((Ev.ob (Ev.Zc S n) S).bind λxs S=>(Ev.ob (Ev.Yd xs) S).bind λis S=>if Ev.Xx is=true then .ok (.int is.sum) S else .no) from h)
  obtain⟨is,hb,h2⟩:=End.ob h1;obtain⟨hs,h3⟩:=End.guard h2;exact⟨ρ,S,xs,n,is,st,r,hx,hb,hs,End.ok h3 st (Zf _)⟩
end
section
variable {X:Cx}{xw:Nat->Hp->Prop}{C:Calls}{p:Pos}
theorem ym {n:Int}{t:Tok}{x:Str}(hm:X.mg x=some (.int n t)) (hg:Gl X x:=by rfl) (hd:(x == ("__debug__" : Str))=false:=by decide):CE X xw C (.Name x p) (.c (.int n)):=
 PE.imp (V4 (v:=.int n) hg hm ⟨t,rfl⟩ hd) λσ H Q ⟨ρ,l,S,st,lr,h⟩=>End.ok h st (Zf n)
end
end Sd
namespace Sq
open PySem PySem.W PyProof.Rows
end Sq
namespace Sq
open PySem PySem.W PyProof.Rows PySem.Calls
end Sq
namespace Sd
open PySem PySem.Spec PyProof.Rows L2
open Ev (D Ob Za Lc R E Sm Calls Walk Fl Fn Bop Cop Ty Bf Mf ev evs evo evt evw tst run runs)
section
variable {X:Cx}{pq:List (Addr×Obj)}{σ:L2.St}{H:Hp}{s:Shared}{A:Around}{E:Value->Shared->Prop}{b:Bool}{Q:Value->Shared->Prop}
theorem U3 {x:V}{u t:Value}{tp:Addr}{dd:Option Addr}{its:List Value}{n:Nat}{sl:Array (Option Value)}(I:Inv X pq σ H s) (rx:Zs x u) (ty:TyOf X.K H x t) (htp:s.heap.get? tp=some ⟨.type "tuple",dd,.seq its.toArray n,sl⟩)
  (e:PySem.W.kitAny X.K t its=some b) (h:∀tk,Q (.bool b) { s with toks:=tk }):wpAny (model X.prog X.w) A (call (.builtin "isinstance") [u,.ref tp]) Q E s:=by
 cases ty with
 |non=>cases (show u=Value.none from rx);exact P5 PySem.W.kitx_none I.kIn True.intro htp e (λz=>nomatch z) h
 |bl y=>cases (show u=Value.bool y from rx);exact P5 PySem.W.kitx_bool I.kIn True.intro htp e (λz=>nomatch z) h
 |int i=>obtain⟨t,q⟩:=(show ∃t,u=Value.int i t from rx);cases q;exact P5 PySem.W.kitx_int I.kIn True.intro htp e (λz=>nomatch z) h
 |str y=>obtain⟨t,q⟩:=(show ∃t,u=Value.str y t from rx);cases q;exact P5 PySem.W.kitx_str I.kIn True.intro htp e (λz=>nomatch z) h
 |flt y=>obtain⟨t,q⟩:=(show ∃t,u=Value.float y t from rx);cases q;exact P5 PySem.W.kitx_float I.kIn True.intro htp e (λz=>nomatch z) h
 |@lst a xs ea=>
  cases (show u=Value.ref a from rx);obtain⟨_,_,n,_,h1⟩:=(show ZF X.prog X.w H s.heap a (.lst xs) from I.hok a _ ea)
  exact P5 NR I.kIn ⟨_,h1,rfl⟩ htp e (λz=>nomatch z) h
 |@frz a ob xs ea=>
  cases (show u=Value.ref a from rx);obtain⟨_,_,_,n,_,h1⟩:=(show ZF X.prog X.w H s.heap a (.frz ob (.lst xs)) from I.hok a _ ea)
  exact P5 NR I.kIn ⟨_,h1,rfl⟩ htp e (λz=>nomatch z) h
 |@tup a xs ea=>
  cases (show u=Value.ref a from rx);obtain⟨_,_,_,p⟩:=(show ZF X.prog X.w H s.heap a (.tup xs) from I.hok a _ ea)
  obtain⟨o,h1,h2,_⟩:=p;exact P5 PySem.W.kitx_tuple I.kIn ⟨o,h1,h2⟩ htp e (λz=>nomatch z) h
 |@dK a kvs ea=>
  cases (show u=Value.ref a from rx);obtain⟨_,_,vs,_,p⟩:=(show ZF X.prog X.w H s.heap a (.dK kvs) from I.hok a _ ea)
  obtain⟨o,es,ep,h1,h2,_⟩:=p;exact P5 NS I.kIn ⟨o,h1,h2.1⟩ htp e (λz=>nomatch z) h
 |@dT a kvs ea=>
  cases (show u=Value.ref a from rx);obtain⟨_,_,xs,_,o,es,ep,h1,h2,_⟩:=(show ZF X.prog X.w H s.heap a (.dT kvs) from I.hok a _ ea)
  exact P5 NS I.kIn ⟨o,h1,h2.1⟩ htp e (λz=>nomatch z) h
 |@ins a C dx fs ea cl ha hn htk hm=>
  cases (show u=Value.ref a from rx);obtain⟨mA,O,_⟩:=Je I.hok ea
  obtain⟨od,J,_⟩:=O.look;exact P5 (PySem.W.kitx_own (cl.get _) cl.hd ha hn htk hm) I.kIn J htp e (λz=>nomatch z) h
end
section
variable {X:Cx}{xw:Nat->Hp->Prop}{C:Calls}{e a b c:Expr}{i j k:E}{pos p p' p2 p3:Pos}
theorem J6 (T U:String):ZL X (.builtin "isinstance") (λvs H Q=>∃v tv n q,vs=[v,.ref q]/\H q=some (.tup [.ty T,.ty U])/\TyOf X.K H v tv/\PySem.W.kitAny X.K tv [.type T,.type U]=some n/\Q (.bl n) H):=by
 intro pq s σ H vs us Q I r h;obtain⟨v,tv,n,q,rfl,hq,ty,e,qq⟩:=h;obtain⟨u,w',rfl,r1,r2⟩:=UQ r;cases r2;obtain⟨its,rv,⟨o,ho,hc,m,hd⟩,_⟩:=I.tuple (SqT.of hq);obtain⟨cls,dd,data,sl⟩:=o;simp only at hc hd;subst hc hd;obtain⟨z1,z2,rfl,q1,q2⟩:=UQ rv;cases q1;cases q2;exact U3 I r1 ty ho e λtk=>⟨.bl n,H,I.tok tk,rfl,qq⟩
theorem TyOf.later {K:PySem.W.Frag}{H:Hp}{v:V}{tv:Value}{q:Addr}{o:HO}(h:TyOf K H v tv) (hq:H q=none):TyOf K (upd H q o) v tv:=by
 cases h with
 |non=>exact .non
 |bl b=>exact .bl b
 |int b=>exact .int b
 |str b=>exact .str b
 |flt b=>exact .flt b
 |lst e=>exact .lst (by rw[Ze (Zn e hq)];exact e)
 |frz e=>exact .frz (by rw[Ze (Zn e hq)];exact e)
 |tup e=>exact .tup (by rw[Ze (Zn e hq)];exact e)
 |dK e=>exact .dK (by rw[Ze (Zn e hq)];exact e)
 |dT e=>exact .dT (by rw[Ze (Zn e hq)];exact e)
 |ins e a1 a2 a3 a4 a5=>exact .ins (by rw[Ze (Zn e hq)];exact e) a1 a2 a3 a4 a5
theorem TyOf.uniq {K:PySem.W.Frag}{H:Hp}{v:V}{t1 t2:Value}(h1:TyOf K H v t1) (h2:TyOf K H v t2):t1=t2:=by
 cases h1 <;> cases h2 <;> first | rfl | simp_all
theorem VD {T U:Str}{t u:Ty}{k0:Nat}{p4:Pos}(ht:∀m,t≠.cls m) (hu:∀m,u≠.cls m) (hm:X.mg "isinstance" = none) (hmT:X.mg T=none) (hmU:X.mg U=none) (ha:CE X xw C a i) (hg:Gl X "isinstance":=by rfl) (hgT:Gl X T:=by rfl) (hgU:Gl X U:=by rfl) (hvT:bootBuiltins T=some (.type (Zu t)):=by rfl) (hvU:bootBuiltins U=some (.type (Zu u)):=by rfl) (hnT:T≠"__name__":=by decide) (hdT:(T == ("__debug__" : Str))=false:=by decide) (hnU:U≠"__name__":=by decide) (hdU:(U == ("__debug__" : Str))=false:=by decide)
  (hs0:starEach [.Name T p2,.Name U p3] X.env=(false,eval (.Name T p2) X.env)::starEach [.Name U p3] X.env:=by rfl) (hs00:starEach [.Name U p3] X.env=(false,eval (.Name U p3) X.env)::starEach [] X.env:=by rfl)
  (hs1:starEach [a,.Tuple [.Name T p2,.Name U p3] k0 p4] X.env=(false,eval a X.env)::starEach [.Tuple [.Name T p2,.Name U p3] k0 p4] X.env:=by rfl) (hs2:starEach [.Tuple [.Name T p2,.Name U p3] k0 p4] X.env=(false,eval (.Tuple [.Name T p2,.Name U p3] k0 p4) X.env)::starEach [] X.env:=by rfl) (hpl:(backTo pos (starEach [.Tuple [.Name T p2,.Name U p3] k0 p4] X.env)).any (·.1)=false:=by rfl) :
  CE X xw C (.Call (.Name "isinstance" p) [a,.Tuple [.Name T p2,.Name U p3] k0 p4] [] pos) (.isi i [t,u]):=
 PE.imp (Y1 (J6 (Zu t) (Zu u)) hg hm (by rfl) (Zr ha (Zr (GE (Zr (We (v:=.ty (Zu t)) hgT hmT hvT rfl hnT hdT) (Zr (We (v:=.ty (Zu u)) hgU hmU hvU rfl hnU hdU) Yb hs00) hs0)) Yb hs2) hs1) (by decide) (by decide) hs1 hpl) λσ H Q ⟨ρ,l,S,st,lr,h⟩=>by
  refine⟨ρ,l,S,st,lr,End.bind (show End X.K xw Rep ρ H Q ((ev C i l S).bind _) from h) λx S1 ρ1 H1 v f1 st1 r1 h1=>⟨by show 2<=sizeLine;rw[ND];omega,λq hq=>?_⟩⟩
  obtain⟨n,hn,h2⟩:=End.ob h1;have st2:=st1.fresh (o:=.tup [.ty (Zu t),.ty (Zu u)]) hq;have f2:=ZG (ρ:=ρ1) (o:=.tup [.ty (Zu t),.ty (Zu u)]) hq;have fin:∀tv,TyOf X.K H1 v tv->PySem.W.kitAny X.K tv [.type (Zu t),.type (Zu u)]=some n->_:=λtv ty e=>(⟨v,tv,n,q,rfl,Zi,TyOf.later ty hq,e,h2 ρ1 _ _ f2 st2 (Zh n)⟩:∃v' tv n q',[v,V.ref q]=[v',.ref q']/\upd H1 q (.tup [.ty (Zu t),.ty (Zu u)]) q'=some (.tup [.ty (Zu t),.ty (Zu u)])/\TyOf X.K (upd H1 q (.tup [.ty (Zu t),.ty (Zu u)])) v' tv/\PySem.W.kitAny X.K tv [.type (Zu t),.type (Zu u)]=some n/\Q (.bl n) (upd H1 q (.tup [.ty (Zu t),.ty (Zu u)])))
  unfold Ev.Wt at hn;cases q1:Ev.UN S1 x t with
  |none=>rw[q1] at hn;cases hn
  |some m=>
   rw[q1] at hn;obtain⟨tv,ty,e⟩:=U5 st1 r1 ht q1;cases m with
   |true=>
    have hn':n=true:=(Pa hn).symm;exact fin tv ty (by unfold PySem.W.kitAny;rw[e,hn'])
   |false=>
    have hn1:(match Ev.UN S1 x u with
     |some true=>some true
     |some false=>Ev.Wt S1 x []
     |none=>none)=some n:=hn
    cases q2:Ev.UN S1 x u with
    |none=>rw[q2] at hn1;cases hn1
    |some m2=>
     rw[q2] at hn1;obtain⟨tv2,ty2,e2⟩:=U5 st1 r1 hu q2;have et:tv2=tv:=TyOf.uniq ty2 ty;subst et;refine fin tv2 ty ?_;unfold PySem.W.kitAny;rw[e];show PySem.W.kitAny X.K tv2 [.type (Zu u)]=some n;unfold PySem.W.kitAny;rw[e2];cases m2 with
     |true=>exact hn1
     |false=>exact hn1
end
end Sd
namespace Sd
open Ev (ltI Uw ZY)
end Sd
namespace Sd
open PySem PySem.Spec PyProof.Rows L2
open Ev (D Ob Za Lc R E Sm Calls Walk Fl Fn Bop Cop Ty Bf Mf ev evs evo evt evw tst run runs ltI Uw ZY Zz WM Wq ZV)
noncomputable def Ve (fin:Bool):List Int->List Int->Bool
 |[],_=>fin
 |_::_,[]=>fin
 |a::x,b::y=>if a=b then Ve fin x y else decide (a<b)
theorem Jm:∀(x y:List Int),Ve (decide (x.length<y.length)) x y=ltI x y
 |[],[]=>rfl
 |[],_::_=>by unfold Ve ltI;simp
 |_::_,[]=>by unfold Ve ltI;simp
 |a::x,b::y=>by
  unfold Ve ltI;have:decide ((a::x).length<(b::y).length)=decide (x.length<y.length):=by simp
  rw[this,Jm x y]
section
variable {X:Cx}{pq:List (Addr×Obj)}{σ:L2.St}{H:Hp}{s:Shared}{ρ:List Addr}
inductive RowsAt (h:Heap):List (List Int)->List Value->Prop where
 |nil:RowsAt h [] []
 |cons {r:List Int} {rs:List (List Int)} {vs:List Value} {a:Addr} {o:Obj} {us:List Value} {m:Nat} (ho:h.get? a=some o) (hc:o.cls=.type "tuple") (hd:o.data=.seq us.toArray m) (hv:Vals (r.map V.int) us) (t:RowsAt h rs vs):RowsAt h (r::rs) (.ref a::vs)
theorem WK:∀{ks:List D}{k:List Int},Ev.Xa ks=some k->ks=k.map D.int
 |[],k,h=>by cases h;rfl
 |.int n::ks,k,h=>by
  have h':(Ev.Xa ks).map (n :: ·)=some k:=h
  cases q:Ev.Xa ks with
  |none=>rw[q] at h';cases h'
  |some k'=>
   rw[q] at h';have e:n::k'=k:=Pa h';rw[<-e,WK q];rfl
 |.non::_,_,h | .bl _::_,_,h | .str _::_,_,h | .tup _::_,_,h | .loc _::_,_,h | .fn _::_,_,h | .exc _ _::_,_,h=>by cases h
theorem JJ {d:D}{r:List Int}(h:WM d=some r):d=Wq r:=by
 cases d with
 |tup ks=>exact congrArg D.tup (WK h)
 |_=>cases h
theorem Rq.intsV:∀{r:List Int}{xs:List V},Rq ρ H (r.map D.int) xs->xs=r.map V.int
 |[],xs,h=>by unfold Rq at h;exact h
 |n::r,xs,h=>by
  have h':Rq ρ H (D.int n::r.map D.int) xs:=h;unfold Rq at h';obtain⟨v,vs,rfl,a,b⟩:=h';rw[a.int',Rq.intsV b];rfl
theorem VA (I:Inv X pq σ H s):∀{ds:List D}{rs:List (List Int)}{xs:List V}{its:List Value},Zz ds=some rs->Rq ρ H ds xs->Vals xs its->RowsAt s.heap rs its/\ds=rs.map Wq
 |[],rs,xs,its,h,r,v=>by
  unfold Rq at r;subst r;cases v;cases h;exact⟨.nil,rfl⟩
 |d::ds,rs,xs,its,h,r,v=>by
  unfold Rq at r;obtain⟨x,xs',rfl,r1,r2⟩:=r;cases v with
  |cons v1 v2=>
   unfold Zz at h;cases q1:WM d with
   |none=>rw[q1] at h;cases h
   |some a=>
    cases q2:Zz ds with
    |none=>rw[q1,q2] at h;cases h
    |some b=>
     rw[q1,q2] at h;cases h;obtain⟨t,e⟩:=VA I q2 r2 v2;have ed:=JJ q1;subst ed;obtain⟨p,ys,rfl,hp,ry⟩:=r1.tup';have ey:=Rq.intsV ry;subst ey;cases v1;obtain⟨us,rv,⟨o,ho,hc,m,hd⟩,_⟩:=I.tuple (SqT.of hp);exact⟨.cons ho hc hd rv t,by rw[e];rfl⟩
end
section
variable {X:Cx}{xw:Nat->Hp->Prop}{C:Calls}{e a b c:Expr}{i j k:E}{pos p p' p2 p3:Pos}
theorem uN (b:Bool):∀(as:List D) (S:Za),(∃n,as=[.loc n])\/Ev.Z8 (if b then .sortedR else .sorted) as S=.no
 |[.loc n],_=>.inl ⟨n,rfl⟩
 |x::_::_,_=>.inr (by cases b <;> cases x <;> rfl)
 |[],_ | [.non],_ | [.str _],_ | [.bl _],_ | [.int _],_ | [.tup _],_ | [.fn _],_ | [.exc _ _],_=>.inr (by cases b <;> rfl)
end
end Sd
namespace Sd
open PySem PySem.Spec PyProof.Rows L2
open Ev (ltI)
open PySem.SeqAt PySem.MeetsSeq PySem.MeetsSeq2 PySem.MeetsSeq3 PySem.SeqRoads2
open PySem.AutoSeq1 (wpAny_loadPart')
theorem Qa (l b:Addr) (u v:List Value) (n n2:Nat) (dd dd2:Option Addr) (sl sl2:Array (Option Value)) (x y:List Int) (hx:Vals (x.map V.int) u) (hy:Vals (y.map V.int) v) :
  Meets (Builtin.«tuple.__lt__» ⟨[.ref l,.ref b],[]⟩) (λA R s=>s.heap.get? l=some { cls:=.type "tuple",dict:=dd,data:=.seq u.toArray n,slots:=sl }/\s.heap.get? b=some { cls:=.type "tuple",dict:=dd2,data:=.seq v.toArray n2,slots:=sl2 }/\R (.ok (.ret (.bool (ltI x y)))) s):=
 .of_wp λprog w A R s h=>by
  obtain⟨hp,g,d,tk,os⟩:=s;obtain⟨hl,hb,h⟩:=h;have f2:=Nd;rw[<-Jm] at h
  wp_walk using wpAny_loadPart' hl,wpAny_loadPart' hb,wpAny_forIn_list _ (λrest b s'=>b.1=none/\s'=⟨hp,g,d,tk,os⟩/\∃x' y' u' v',rest=List.zip u' v'/\Vals (List.map V.int x') u'/\Vals (List.map V.int y') v'/\R (.ok (.ret (.bool (Ve (decide (x.length<y.length)) x' y')))) ⟨hp,g,d,tk,os⟩) _
  case turn=>
   rintro ⟨a,c⟩ rest b s' ⟨hb',rfl,x',y',u',v',hz,hx',hy',hR⟩
   match x',y',u',v',hx',hy',hz,hR with
   |i::x',j::y',_::u',_::v',.cons ra ta,.cons rb tb,hz,hR=>
    obtain⟨t,rfl⟩:=ra;obtain⟨t',rfl⟩:=rb;rw[NO] at hz;injection hz with h1 h2
    cases h1;unfold Ve at hR;refine Pd (wpAny_eqBool_int ?_);by_cases e:i=j
    ·rw[Pj e] at hR
     rw[beq_iff_eq.mpr e]
     wp_walk
     exact⟨rfl,rfl,x',y',u',v',h2,ta,tb,hR⟩
    ·rw[Pm e] at hR
     rw[Nj.mpr e];simp only[Bool.not_false,NW];refine Pd (wpAny_rule (Pd (PyProof.Rows.lt_int ?_)))
     wp_walk
     exact⟨_,rfl,by simpa using hR⟩
   |[],_,_,_,.nil,_,hz,_=>rw[N8] at hz;cases hz
   |_::_,[],_,_,_,.nil,hz,_=>rw[N7] at hz;cases hz
  case fin=>
   rintro ⟨b1,b2⟩ s' ⟨hb',rfl,x',y',u',v',hz,hx',hy',hR⟩
   simp only at hb';subst hb';have hf:Ve (decide (x.length<y.length)) x' y'=decide (x.length<y.length):=by
    match x',y',u',v',hx',hy',hz with
    |[],_,_,_,_,_,_=>unfold Ve;rfl
    |_::_,[],_,_,_,_,_=>unfold Ve;rfl
    |_::_,_::_,_::_,_::_,.cons _ _,.cons _ _,hz=>rw[NO] at hz;cases hz
   rw[hf] at hR;have l1:u.length=x.length:=by rw[<-hx.length,PV]
   have l2:v.length=y.length:=by rw[<-hy.length,PV]
   wp_walk
   exact⟨_,rfl,by simpa [Builtin.Tuple.tupleCompareSizes,l1,l2] using hR⟩
  case h=>
   exact⟨rfl,rfl,x,y,u,v,by simp,hx,hy,h⟩
theorem yY {prog:Program}{w:World}{A:Around}{E:Value->Shared->Prop}{s:Shared}{a b:Addr}{o o':Obj}{u v:List Value}{m m':Nat}{x y:List Int}{Q:Value->Shared->Prop}(ha:s.heap.get? a=some o) (hc:o.cls=.type "tuple") (hd:o.data=.seq u.toArray m) (hx:Vals (x.map V.int) u)
  (hb:s.heap.get? b=some o') (hc':o'.cls=.type "tuple") (hd':o'.data=.seq v.toArray m') (hy:Vals (y.map V.int) v) (hu:A.units<cLine) (q:Q (.bool (ltI x y)) s):wpAny (model prog w) A (compareOp .Lt (.ref a) (.ref b)) Q E s:=by
 obtain⟨cls,dd,data,sl⟩:=o;obtain⟨cls2,dd2,data2,sl2⟩:=o';simp only at hc hd hc' hd';subst hc hd hc' hd';show wpAny (model prog w) A (richCompare .Lt (.ref a) (.ref b)) Q E s;exact richCompare_meets_room (op:=.Lt) ⟨_,ha,rfl⟩ ⟨_,hb,rfl⟩ F.slot_tuple_lt F.entry_tuple_lt (F.args_tuple_lt_2 _ _) (Qa a b u v m m' dd dd2 sl sl2 x y hx hy) ⟨ha,hb,show Value.bool (ltI x y)≠Value.notImplemented/\Q (.bool (ltI x y)) s from ⟨(λx=>nomatch x),q⟩⟩ hu
end Sd
namespace Sd
open Ev (ltI ltP xy Xb)
end Sd
namespace Sd
open PySem PySem.Spec PyProof.Rows L2
open Ev (ltI ltP)
theorem UF:∀{x y:List Int}{u:List Value},Vals (x.map V.int) u->Vals (y.map V.int) u->x=y
 |[],[],_,_,_=>rfl
 |[],_::_,_,.nil,h=>by cases h
 |_::_,[],_,h,.nil=>by cases h
 |a::x,b::y,_::u,.cons ra ta,.cons rb tb=>by
  obtain⟨t,rfl⟩:=ra;obtain⟨t',e⟩:=rb;cases e;rw[UF ta tb]
theorem Vz:∀{x:List Int}{u:List Value}{j:Nat}(h:j<u.length),Vals (x.map V.int) u->∃t,u[j]=Value.int (x.getD j 0) t
 |[],[],_,h,.nil=>by simp at h
 |_::_,_::_,0,_,.cons ra _=>by obtain⟨t,rfl⟩:=ra;exact⟨t,rfl⟩
 |_::x,_::u,j+1,h,.cons _ ta=>by
  obtain⟨t,e⟩:=Vz (j:=j) (by simpa using h) ta
  exact⟨t,by simpa using e⟩
theorem v7:∀{x y:List Int},((List.range (min x.length y.length)).all (λj=>x.getD j 0 == y.getD j 0)&&x.length == y.length)=decide (x=y):=by
 intro x y;rw[P3,Ph,PH,decide_eq_true_iff]
 constructor
 ·rintro ⟨h1,h2⟩
  have h2:x.length=y.length:=by simpa using h2
  apply List.ext_getElem h2;intro i hi hj;have:=h1 i (Nm.mpr (by omega))
  simpa [hi,hj] using this
 ·rintro rfl
  exact⟨λj _=>by simp,by simp⟩
def UO (h:Heap) (r:List Int) (v:Value):Prop:=∃a o us m,v=.ref a/\h.get? a=some o/\o.cls=.type "tuple"/\o.data=.seq us.toArray m/\Vals (r.map V.int) us
theorem yW {A:Around}{s:Shared}{x y:List Int}{v u:Value}(hx:UO s.heap x v) (hy:UO s.heap y u) (hu:A.units<cLine):SeqAt.EqAt A s v u (decide (x=y)):=by
 obtain⟨a,o,us,m,rfl,ho,hc,hd,hv⟩:=hx;obtain⟨b,o',us',m',rfl,ho',hc',hd',hv'⟩:=hy;have l1:us.toArray.size=x.length:=by rw[Pf,<-hv.length,PV]
 have l2:us'.toArray.size=y.length:=by rw[Pf,<-hv'.length,PV]
 by_cases e:a=b
 ·subst e
  rw[ho] at ho';cases ho';rw[hd] at hd';injection hd' with h1 h2
  have h1:us=us':=by simpa using h1
  subst h1;rw[PB (UF hv hv')];exact N3 _
 ·refine SeqAt.EqAt.of_refs e ?_
  have:=SeqAt.RcAt.tuples (A:=A) (s:=s) (e:=λj=>x.getD j 0 == y.getD j 0) ⟨o,ho,hc,m,hd⟩ ⟨o',ho',hc',m',hd'⟩ hu (λj h1 h2=>by
   obtain⟨t,e1⟩:=Vz (j:=j) (by simpa using h1) hv
   obtain⟨t',e2⟩:=Vz (j:=j) (by simpa using h2) hv'
   rw[show us.toArray[j]=us[j]'(by simpa using h1) by simp,show us'.toArray[j]=us'[j]'(by simpa using h2) by simp,e1,e2]
   exact SeqAt.EqAt.int_int _ _ _ _)
  rw[l1,l2,v7] at this;exact this
theorem zI {prog:Program}{w:World}{A:Around}{E:Value->Shared->Prop}{s:Shared}{x y:List Int}{v u:Value}{Q:Value->Shared->Prop}(hx:UO s.heap x v) (hy:UO s.heap y u) (hu:A.units<cLine) (q:Q (.bool (ltI x y)) s):wpAny (model prog w) A (compareOp .Lt v u) Q E s:=by
 obtain⟨a,o,us,m,rfl,ho,hc,hd,hv⟩:=hx;obtain⟨b,o',us',m',rfl,ho',hc',hd',hv'⟩:=hy;exact yY ho hc hd hv ho' hc' hd' hv' hu q
noncomputable def Vc (fin:Bool):List (List Int)->List (List Int)->Bool
 |[],_=>fin
 |_::_,[]=>fin
 |a::x,b::y=>if a=b then Vc fin x y else ltI a b
theorem Jt:∀(x y:List (List Int)),Vc (decide (x.length<y.length)) x y=ltP x y
 |[],[]=>rfl
 |[],_::_=>by unfold Vc ltP;simp
 |_::_,[]=>by unfold Vc ltP;simp
 |a::x,b::y=>by
  unfold Vc ltP;have:decide ((a::x).length<(b::y).length)=decide (x.length<y.length):=by simp
  rw[this,Jt x y]
inductive RowsIn (h:Heap):List (List Int)->List Value->Prop where
 |nil:RowsIn h [] []
 |cons {r:List Int} {rs:List (List Int)} {v:Value} {vs:List Value} (a:UO h r v) (t:RowsIn h rs vs):RowsIn h (r::rs) (v::vs)
theorem RowsIn.length {h:Heap}:∀{rs:List (List Int)}{vs:List Value},RowsIn h rs vs->rs.length=vs.length
 |_,_,.nil=>rfl
 |_,_,.cons _ t=>by rw[PF,PF,RowsIn.length t]
end Sd
namespace Sd
open PySem PySem.Spec PyProof.Rows L2
open Ev (D ltI ltP xy Xb Vp QS Yt Zz WM Wq)
section
variable {X:Cx}{pq:List (Addr×Obj)}{σ:L2.St}{H:Hp}{s:Shared}{ρ:List Addr}
theorem RowsAt.ins {h:Heap}:∀{rs:List (List Int)}{vs:List Value},RowsAt h rs vs->RowsIn h rs vs
 |_,_,.nil=>.nil
 |_,_,.cons ho hc hd hv t=>.cons ⟨_,_,_,_,rfl,ho,hc,hd,hv⟩ (RowsAt.ins t)
end
end Sd
namespace Sd
open PySem PySem.Spec PyProof.Rows L2
open Ev (D Ob Za Lc R E Sm Calls Walk Fl Fn Bop Cop Ty Bf Mf ltP Xb Vp Yt Ys)
end Sd
namespace Sd
open PySem PySem.Spec PyProof.Rows L2
open Ev (D Ob Za Lc R E Sm Calls Walk Fl Fn Bop Cop Ty Bf Mf ev evs)
end Sd
namespace Sd
open PySem PySem.Spec PyProof.Rows L2
open Ev (D Ob Za Lc R E Sm Calls Walk Fl Fn Bop Cop Ty Bf Mf ltI ltP Zz)
open PySem.SeqAt PySem.MeetsSeq PySem.MeetsSeq2 PySem.MeetsSeq3 PySem.SeqRoads2
open PySem.AutoSeq1 (wpAny_loadPart')
theorem Qv (l b:Addr) (u v:List Value) (n n2:Nat) (dd dd2:Option Addr) (sl sl2:Array (Option Value)) (x y:List (List Int)) :
  Meets (Builtin.«tuple.__lt__» ⟨[.ref l,.ref b],[]⟩) (λA R s=>s.heap.get? l=some { cls:=.type "tuple",dict:=dd,data:=.seq u.toArray n,slots:=sl }/\s.heap.get? b=some { cls:=.type "tuple",dict:=dd2,data:=.seq v.toArray n2,slots:=sl2 }/\A.units+1<cLine/\RowsIn s.heap x u/\RowsIn s.heap y v/\R (.ok (.ret (.bool (ltP x y)))) s):=
 .of_wp λprog w A R s h=>by
  obtain⟨hp,g,d,tk,os⟩:=s;obtain⟨hl,hb,hu,hx,hy,h⟩:=h;have f2:=Nd;rw[<-Jt] at h
  wp_walk using wpAny_loadPart' hl,wpAny_loadPart' hb,wpAny_forIn_list _ (λrest b s'=>b.1=none/\s'=⟨hp,g,d,tk,os⟩/\∃x' y' u' v',rest=List.zip u' v'/\RowsIn hp x' u'/\RowsIn hp y' v'/\R (.ok (.ret (.bool (Vc (decide (x.length<y.length)) x' y')))) ⟨hp,g,d,tk,os⟩) _
  case turn=>
   rintro ⟨a,c⟩ rest b s' ⟨hb',rfl,x',y',u',v',hz,hx',hy',hR⟩
   match x',y',u',v',hx',hy',hz,hR with
   |i::x',j::y',_::u',_::v',.cons ra ta,.cons rb tb,hz,hR=>
    rw[NO] at hz;injection hz with h1 h2
    cases h1;unfold Vc at hR;refine Pd (yW ra rb (by omega) prog w _ _ ?_)
    by_cases e:i=j
    ·rw[Pj e] at hR
     rw[PB e]
     wp_walk
     exact⟨rfl,rfl,x',y',u',v',h2,ta,tb,hR⟩
    ·rw[Pm e] at hR
     rw[P2 e];simp only[Bool.not_false,NW];refine Pd (wpAny_rule (Pd (zI ra rb (by omega) ?_)))
     wp_walk
     exact⟨_,rfl,by simpa using hR⟩
   |[],_,_,_,.nil,_,hz,_=>rw[N8] at hz;cases hz
   |_::_,[],_,_,_,.nil,hz,_=>rw[N7] at hz;cases hz
  case fin=>
   rintro ⟨b1,b2⟩ s' ⟨hb',rfl,x',y',u',v',hz,hx',hy',hR⟩
   simp only at hb';subst hb';have hf:Vc (decide (x.length<y.length)) x' y'=decide (x.length<y.length):=by
    match x',y',u',v',hx',hy',hz with
    |[],_,_,_,_,_,_=>unfold Vc;rfl
    |_::_,[],_,_,_,_,_=>unfold Vc;rfl
    |_::_,_::_,_::_,_::_,.cons _ _,.cons _ _,hz=>rw[NO] at hz;cases hz
   rw[hf] at hR;have l1:u.length=x.length:=by rw[<-hx.length]
   have l2:v.length=y.length:=by rw[<-hy.length]
   wp_walk
   exact⟨_,rfl,by simpa [Builtin.Tuple.tupleCompareSizes,l1,l2] using hR⟩
  case h=>
   exact⟨rfl,rfl,x,y,u,v,by simp,hx,hy,h⟩
theorem zw {prog:Program}{w:World}{A:Around}{E:Value->Shared->Prop}{s:Shared}{a b:Addr}{o o':Obj}{u v:List Value}{m m':Nat}{x y:List (List Int)}{Q:Value->Shared->Prop}(ha:s.heap.get? a=some o) (hc:o.cls=.type "tuple") (hd:o.data=.seq u.toArray m) (hx:RowsIn s.heap x u)
  (hb:s.heap.get? b=some o') (hc':o'.cls=.type "tuple") (hd':o'.data=.seq v.toArray m') (hy:RowsIn s.heap y v) (hu:A.units+3<cLine) (q:Q (.bool (ltP x y)) s):wpAny (model prog w) A (compareOp .Lt (.ref a) (.ref b)) Q E s:=by
 obtain⟨cls,dd,data,sl⟩:=o;obtain⟨cls2,dd2,data2,sl2⟩:=o';simp only at hc hd hc' hd';subst hc hd hc' hd';show wpAny (model prog w) A (richCompare .Lt (.ref a) (.ref b)) Q E s;exact richCompare_meets_room (op:=.Lt) ⟨_,ha,rfl⟩ ⟨_,hb,rfl⟩ F.slot_tuple_lt F.entry_tuple_lt (F.args_tuple_lt_2 _ _) (Qv a b u v m m' dd dd2 sl sl2 x y) ⟨ha,hb,by first | exact hu | (show _+_<_;omega) | omega,hx,hy,show Value.bool (ltP x y)≠Value.notImplemented/\Q (.bool (ltP x y)) s from ⟨(λx=>nomatch x),q⟩⟩ (by omega)
section
variable {X:Cx}{xw:Nat->Hp->Prop}
theorem Ja (hu:X.A.units+7<cLine):Xl X xw .Lt .lt:=by
 intro pq s σ H v0 u0 v u Q I rv ru ⟨ρ,S,x,y,st,rx,ry,h⟩;rcases ur st rx ry h with z | ⟨a,b,A,B,rfl,rfl,hA,hB,q⟩
 ·exact ua pq s σ H v0 u0 v u Q I rv ru z
 ·obtain⟨p1,xs,rfl,hp1,r1⟩:=rx.tup'
  obtain⟨p2,ys,rfl,hp2,r2⟩:=ry.tup';cases rv;cases ru;obtain⟨us,w1,⟨o,ho,hc,m,hd⟩,_⟩:=I.tuple (SqT.of hp1);obtain⟨us',w2,⟨o',ho',hc',m',hd'⟩,_⟩:=I.tuple (SqT.of hp2);obtain⟨ra,_⟩:=VA I hA r1 w1;obtain⟨rb,_⟩:=VA I hB r2 w2;exact zw ho hc hd ra.ins ho' hc' hd' rb.ins (by omega) ⟨.bl (ltP A B),H,I,rfl,q⟩
end
end Sd
namespace Sd
open PySem PySem.Spec PyProof.Rows L2
open Ev (D Ob Za Lc R E Sm Calls Walk Fl Fn Bop Cop Ty Bf Mf ev evs)
end Sd
structure Bx (P:Prop):Prop where
 h:P
namespace Wr
theorem bx3 {P Q R:Prop}(h:Bx P/\Bx Q/\Bx R):P/\Q/\R:=⟨h.1.h,h.2.1.h,h.2.2.h⟩
def QH {X xw C pos n q}:=Bx.mk (@Sd.QH X xw C pos n q)
def zW {X xw C pos n q}:=Bx.mk (@Sd.zW X xw C pos n q)
def QE {X xw C pos q}:=Bx.mk (@Sd.QE X xw C pos q)
def U2 {X xw C pos x q}:=Bx.mk (@Sd.U2 X xw C pos x q)
def vh {X xw C pos} (n) {x} (hN hv hd hcd):=Bx.mk (@Sd.vh X xw C pos n x hN hv hd hcd)
def Qy {X xw C pos es is q} (h):=Bx.mk (@Sd.Qy X xw C pos es is q (Bx.h h))
def U0 {X xw C pos es is} (h):=Bx.mk (@Sd.U0 X xw C pos es is (Bx.h h))
def Qf {X xw C a b i j pos} (ha hb):=Bx.mk (@Sd.Qf X xw C a b i j pos (Bx.h ha) (Bx.h hb))
def QI {X xw C a b i j pos} (ha hb):=Bx.mk (@Sd.QI X xw C a b i j pos (Bx.h ha) (Bx.h hb))
def QK {X xw C a b i j pos} (ha hb):=Bx.mk (@Sd.QK X xw C a b i j pos (Bx.h ha) (Bx.h hb))
def VF {X xw C a b i j pos} (ha hb):=Bx.mk (@Sd.VF X xw C a b i j pos (Bx.h ha) (Bx.h hb))
def QB {X xw C a b i j pos} (ha hb):=Bx.mk (@Sd.QB X xw C a b i j pos (Bx.h ha) (Bx.h hb))
def U9 {X xw C a b i j pos} (ha hb):=Bx.mk (@Sd.U9 X xw C a b i j pos (Bx.h ha) (Bx.h hb))
def QL {X xw C a i pos} (ha):=Bx.mk (@Sd.QL X xw C a i pos (Bx.h ha))
def UW {X xw C a i pos} (ha):=Bx.mk (@Sd.UW X xw C a i pos (Bx.h ha))
def Qd {X xw C a b i j pos rest} (ha hb):=Bx.mk (@Sd.Qd X xw C a b i j pos rest (Bx.h ha) (Bx.h hb))
def Xh {X xw C a b i j pos op o} (hc ha hb) (hm):=Bx.mk (@Sd.Xh X xw C a b i j pos op o hc (Bx.h ha) (Bx.h hb) hm)
def Xk {X xw C a b i j pos op op' o o' d k} (hc hc' ha hb hd) (hm):=Bx.mk (@Sd.Xk X xw C a b i j pos op op' o o' d k hc hc' (Bx.h ha) (Bx.h hb) (Bx.h hd) hm)
def zM {X xw C a b i j pos} (ha hb) (hs):=Bx.mk (@Sd.zM X xw C a b i j pos (Bx.h ha) (Bx.h hb) hs)
def XX {X xw C a i pos p p2 T t} (ht hm hmT ha) (hg hgT hvT hnT hdT hs1 hs2 hpl):=Bx.mk (@Sd.XX X xw C a i pos p p2 T t ht hm hmT (Bx.h ha) hg hgT hvT hnT hdT hs1 hs2 hpl)
def YQ {X xw C e pos p f id x es is} (hc hm ha) (hg hv hn hdb he hpl):=Bx.mk (@Sd.YQ X xw C e pos p f id x es is hc hm (Bx.h ha) hg hv hn hdb he hpl)
def VZ {X xw C e pos p f id x es is} (hc hm ha) (hg hv hn hdb he hpl):=Bx.mk (@Sd.VZ X xw C e pos p f id x es is hc hm (Bx.h ha) hg hv hn hdb he hpl)
def XY {X xw C e i o io apos cpos} (ho ha) (hbase hfew hline hs hplain):=Bx.mk (@Sd.XY X xw C e i o io apos cpos (Bx.h ho) (Bx.h ha) hbase hfew hline hs hplain)
def QG {X xw C}:=Bx.mk (@Sd.QG X xw C)
def VG {X xw C e i es is} (ha hr) (hs):=Bx.mk (@Sd.VG X xw C e i es is (Bx.h ha) (Bx.h hr) hs)
def Qj {X xw C a i pos} (ha):=Bx.mk (@Sd.Qj X xw C a i pos (Bx.h ha))
def Xe {X xw C a b i j pos op o} (hc ha hb) (hm):=Bx.mk (@Sd.Xe X xw C a b i j pos op o hc (Bx.h ha) (Bx.h hb) hm)
def Qs {X xw C a i} (ha) (he):=Bx.mk (@Sd.Qs X xw C a i (Bx.h ha) he)
def Ub {X xw C a b i j pos rest} (ha hb):=Bx.mk (@Sd.Ub X xw C a b i j pos rest (Bx.h ha) (Bx.h hb))
def QX {X xw C a b i j pos rest} (ha hb):=Bx.mk (@Sd.QX X xw C a b i j pos rest (Bx.h ha) (Bx.h hb))
def VB {X xw C a i pos} (ha):=Bx.mk (@Sd.VB X xw C a i pos (Bx.h ha))
def Qk {X xw C a i pos} (ha):=Bx.mk (@Sd.Qk X xw C a i pos (Bx.h ha))
def VU {X xw C}:=Bx.mk (@Sd.VU X xw C)
def zb {X xw C e tg i} (he):=Bx.mk (@Sd.zb X xw C e tg i (Bx.h he))
def V1 {X xw C a tg i pos p} (hm ha) (hg hs):=Bx.mk (@Sd.V1 X xw C a tg i pos p hm (Bx.h ha) hg hs)
def VL {X xw C a b tg i j pos p} (hm ha) (hg hs hs2):=Bx.mk (@Sd.VL X xw C a b tg i j pos p hm (Bx.h ha) hg hs hs2)
def Ue {X pos n x} (hN) (hi hx hf):=Bx.mk (@Sd.Ue X pos n x hN hi hx hf)
def QP {X pos tgs q2 n m r} (hc h) (hn hst):=Bx.mk (@Sd.QP X pos tgs q2 n m r hc (Bx.h h) hn hst)
def VN {X}:=Bx.mk (@Sd.VN X)
def WI {X pos tgs n t x} (hN h2) (hi hx hf hs):=Bx.mk (@Sd.WI X pos tgs n t x hN (Bx.h h2) hi hx hf hs)
def Qo {X xw C}:=Bx.mk (@Sd.Qo X xw C)
def VY {X xw C s0 ss m0 ms} (h1 h2):=Bx.mk (@Sd.VY X xw C s0 ss m0 ms (Bx.h h1) (Bx.h h2))
def U6 {X xw C e i pos tg t} (he hg) (hs hw h1):=Bx.mk (@Sd.U6 X xw C e i pos tg t (Bx.h he) (Bx.h hg) hs hw h1)
def U7 {X xw C e i pos p o ix io ii} (ho hi he) (ha hs hw h1):=Bx.mk (@Sd.U7 X xw C e i pos p o ix io ii (Bx.h ho) (Bx.h hi) (Bx.h he) ha hs hw h1)
def Qn {X xw C e i pos} (he):=Bx.mk (@Sd.Qn X xw C e i pos (Bx.h he))
def VH {X xw C e i pos} (he) (hs):=Bx.mk (@Sd.VH X xw C e i pos (Bx.h he) hs)
def zU {X xw C c k pos ms ms' sa sb} (hc ha hb):=Bx.mk (@Sd.zU X xw C c k pos ms ms' sa sb (Bx.h hc) (Bx.h ha) (Bx.h hb))
def QJ {X xw C tg it pos body ms w t} (hp hc hw hg hb) (hs):=Bx.mk (@Sd.QJ X xw C tg it pos body ms w t hp hc (Bx.h hw) (Bx.h hg) (Bx.h hb) hs)
def Qq {X xw C e i pos p op o n x} (ho hN he) (hi hx hf):=Bx.mk (@Sd.Qq X xw C e i pos p op o n x ho hN (Bx.h he) hi hx hf)
def Qx {X xw C a b i j pos p tp elts kk} (hm ha) (hg hs hs2):=Bx.mk (@Sd.Qx X xw C a b i j pos p tp elts kk hm (Bx.h ha) hg hs hs2)
def VD {X xw C a i pos p p2 p3 T U t u k0 p4} (ht hu hm hmT hmU ha) (hg hgT hgU hvT hvU hnT hdT hnU hdU hs0 hs00 hs1 hs2 hpl):=Bx.mk (@Sd.VD X xw C a i pos p p2 p3 T U t u k0 p4 ht hu hm hmT hmU (Bx.h ha) hg hgT hgU hvT hvU hnT hdT hnU hdU hs0 hs00 hs1 hs2 hpl)
def W8 {X xw C tg it pos elt ifs is ie scope N cap nl w t} (hc hN CS hi) (hb:∀c s H p,Bx _/\Bx _/\Bx _) (hs):=Bx.mk (@Sd.W8 X xw C tg it pos elt ifs is ie scope N cap nl w t hc hN CS (Bx.h hi) (λc s H p=>bx3 (hb c s H p)) hs)
def yd {X xw C e i} (h):=Bx.mk (@Sd.CWh.ct X xw C e i (Bx.h h))
end Wr
namespace Gn
open PySem PySem.Spec PyProof.Rows L2
open Ev (D Ob Za Lc R E Sm Calls Walk Fl Fn Bop Cop Ty Bf Mf)
open Sd (CompScope cxC hu7)
structure FR where
 x:Str
 st:Stmt
 N:List Str
 k:Nat
noncomputable def FR.ps (r:FR):List Str:=r.N.take r.k
noncomputable def scB (N:List Str) (k:Nat) (sc:Scope):Bool:=
 (match sc.kind with | .function=>true | _=>false)&&(!sc.isCoroutine&&(!sc.isGenerator&&(decide N.Nodup&&((N.take k).all (λx=>decide (sc.names.lookup x=some .local)||decide (sc.names.lookup x=some .cell))&&sc.names.all λy=>decide (y.2≠.free)))))
theorem XU {N:List Str}{k:Nat}{sc:Scope}(h:scB N k sc=true):FnScope N (N.take k) sc:=by
 unfold scB at h;simp only[Ph,Bool.not_eq_true',Nv,PH,N6] at h;obtain⟨h1,h2,h3,h4,h5,h6⟩:=h;refine⟨?_,h2,h3,h4,?_,h5,h6⟩
 ·cases e:sc.kind <;> rw[e] at h1 <;> first | rfl | cases h1
 ·rw[List.length_take]
  by_cases hk:k<=N.length
  ·rw[Nat.min_eq_left hk]
  ·rw[Nat.min_eq_right (by omega),List.take_length,List.take_of_length_le (by omega)]
inductive Gv where
 |int (n:Int) | tab (t:List (Int×Int))
 deriving DecidableEq
def uv (K:PySem.W.Frag) (mg:Str->Option Value) (x:Str):Gv->Prop
 |.int n=>∃t:Tok,mg x=some (.int n t)
 |.tab t=>∃tb:Addr,(∀P w,Sd.xA P w K tb t)/\mg x=some (.ref tb)
structure Top (K:PySem.W.Frag) (mg:Str->Option Value) (fs:List FR) (zs:List Str) (gs:List (Str×Gv)) (f:Nat->Addr) (fd:Nat->FuncData):Prop where
 d:∀i r,fs[i]? = some r->Fun K r.x r.x r.st (f i) (fd i)
 b:∀i r,fs[i]? = some r->X6 K (fd i) r.ps []
 m:∀i r,fs[i]? = some r->mg r.x=some (.ref (f i))
 z:∀x∈zs,mg x=none
 g:∀y∈gs,uv K mg y.1 y.2
def UV (r:FR):Prop:=∀(kV doc pm:Value) (an:Option Addr) (cdv ct:Value) (us:List Value),us.length=r.ps.length->bindArgs (PySem.W.fnOf r.x r.x (Yw r.st) (Zj r.st) (Zb r.st) .none kV doc pm an cdv ct) ⟨us,[]⟩=pure (r.ps.zip us)
section
variable {x:Str}{st:Stmt}
noncomputable abbrev bA (x:Str) (st:Stmt) (kV doc pm:Value) (an:Option Addr) (cdv ct:Value) (us:List Value):=bindArgs (PySem.W.fnOf x x (Yw st) (Zj st) (Zb st) .none kV doc pm an cdv ct) ⟨us,[]⟩
theorem bd1 {N:List Str}{n:Nat}(h:∀kV doc pm an cdv ct a0,bA x st kV doc pm an cdv ct [a0]=pure ((N.take n).zip [a0])) (hl:(N.take n).length=1:=by rfl):UV ⟨x,st,N,n⟩:=λkV doc pm an cdv ct us e=>match us,e.trans hl with | [a0],_=>h kV doc pm an cdv ct a0
theorem bd2 {N:List Str}{n:Nat}(h:∀kV doc pm an cdv ct a0 a1,bA x st kV doc pm an cdv ct [a0,a1]=pure ((N.take n).zip [a0,a1])) (hl:(N.take n).length=2:=by rfl):UV ⟨x,st,N,n⟩:=λkV doc pm an cdv ct us e=>match us,e.trans hl with | [a0,a1],_=>h kV doc pm an cdv ct a0 a1
theorem bd3 {N:List Str}{n:Nat}(h:∀kV doc pm an cdv ct a0 a1 a2,bA x st kV doc pm an cdv ct [a0,a1,a2]=pure ((N.take n).zip [a0,a1,a2])) (hl:(N.take n).length=3:=by rfl):UV ⟨x,st,N,n⟩:=λkV doc pm an cdv ct us e=>match us,e.trans hl with | [a0,a1,a2],_=>h kV doc pm an cdv ct a0 a1 a2
end
inductive FnsAt (K:PySem.W.Frag):List FR->List Addr->List FuncData->Prop
 |nil:FnsAt K [] [] []
 |cons {x:Str} {st:Stmt} {N:List Str} {n:Nat} {a:Addr} {rs:List FR} {as:List Addr} {fds:List FuncData} {oc kV dc pm cd ct:Value} {od an:Option Addr} {sl:Array (Option Value)}
   (h1:PySem.W.nsIn K mainGlobals x=some (some (.ref a))) (h2:K.lookup a=some ⟨oc,od,.func (PySem.W.fnOf x x (Yw st) (Zj st) (Zb st) .none kV dc pm an cd ct),sl⟩)
   (h3:PySem.W.codeIn K cd x=true) (h4:PySem.W.keepIn K (.ref a)=true) (h5:UV ⟨x,st,N,n⟩) (t:FnsAt K rs as fds) :
   FnsAt K (⟨x,st,N,n⟩::rs) (a::as) (PySem.W.fnOf x x (Yw st) (Zj st) (Zb st) .none kV dc pm an cd ct::fds)
inductive ZsAt (K:PySem.W.Frag):List Str->Prop
 |nil:ZsAt K []
 |cons {x:Str} {zs:List Str} (h:PySem.W.nsIn K mainGlobals x=some none) (t:ZsAt K zs):ZsAt K (x::zs)
inductive GsAt (K:PySem.W.Frag):List (Str×Gv)->Prop
 |nil:GsAt K []
 |cons {x:Str} {n:Int} {u:Tok} {gs:List (Str×Gv)} (h:PySem.W.nsIn K mainGlobals x=some (some (.int n u))) (t:GsAt K gs):GsAt K ((x,.int n)::gs)
 |tab {x:Str} {a:Addr} {es:Array DictEntry} {n:Nat} {tb:List (Int×Int)} {gs:List (Str×Gv)} (h:PySem.W.nsIn K mainGlobals x=some (some (.ref a))) (h2:K.lookup a=some ⟨.type "dict",none,.dict es n,#[]⟩) (h3:Sd.YC es.toList tb) (h4:(a == sysModules)=false) (t:GsAt K gs):GsAt K ((x,.tab tb)::gs)
theorem GsAt.get {K:PySem.W.Frag}{h:Heap}{mg:Str->Option Value}(X:K.In h) (G:h.Ns mainGlobals mg):∀{gs:List (Str×Gv)},GsAt K gs->∀y∈gs,uv K mg y.1 y.2
 |_,.nil,x,h=>by simp at h
 |_,.cons h t,x,m=>by
  rcases Pr.mp m with rfl | m
  ·exact⟨_,PySem.W.mg_of X G h⟩
  ·exact t.get X G x m
 |_,.tab h h2 h3 h4 t,x,m=>by
  rcases Pr.mp m with rfl | m
  ·exact⟨_,λP w=>Sd.yA h2 h3 h4,PySem.W.mg_of X G h⟩
  ·exact t.get X G x m
theorem FnsAt.get {K:PySem.W.Frag}{fd0:FuncData}:∀{fs:List FR}{as:List Addr}{fds:List FuncData},FnsAt K fs as fds->∀i r,fs[i]? = some r->
  PySem.W.nsIn K mainGlobals r.x=some (some (.ref (as.getD i 0)))/\Fun K r.x r.x r.st (as.getD i 0) (fds.getD i fd0)/\UV r
 |_,_,_,.nil,i,r,e=>by simp at e
 |_,_,_,.cons h1 h2 h3 h4 h5 t,0,r,e=>by
  simp at e;subst e;exact⟨h1,vx h2 h3 h4,h5⟩
 |_,_,_,.cons h1 h2 h3 h4 h5 t,i+1,r,e=>by
  obtain⟨a,b,c⟩:=t.get i r (by simpa using e)
  exact⟨by simpa using a,by simpa using b,c⟩
theorem ZsAt.get {K:PySem.W.Frag}:∀{zs:List Str},ZsAt K zs->∀x∈zs,PySem.W.nsIn K mainGlobals x=some none
 |_,.nil,x,h=>by simp at h
 |_,.cons h t,x,m=>by
  rcases Pr.mp m with rfl | m
  ·exact h
  ·exact t.get x m
section
variable {X:Cx}{xw:Nat->Hp->Prop}{C:Calls}{e a b:Expr}{i j:E}{es:List Expr}{is:List E}{pos p p2 p3:Pos}{fs:List FR}{zs:List Str}{gs:List (Str×Gv)}{F:List Fn}{f:Nat->Addr}{fd:Nat->FuncData}{d:Nat}
theorem Top.no {K:PySem.W.Frag}{mg:Str->Option Value}{x:Str}(T:Top K mg fs zs gs f fd) (h:zs.contains x=true):mg x=none:=T.z x (by simpa using h)
theorem vT {n:Int}{x:Str}(T:Top X.K X.mg fs zs gs f fd) (h:gs.contains (x,.int n)=true) (hg:Gl X x) (hd:(x == ("__debug__" : Str))=false):Bx (Sd.CE X xw C (.Name x p) (.c (.int n))):=by
 obtain⟨t,e⟩:=T.g (x,.int n) (by simpa using h)
 exact⟨Sd.ym e hg hd⟩
theorem uL {tb:List (Int×Int)}{x:Str}(T:Top X.K X.mg fs zs gs f fd) (ha:Bx (Sd.CE X xw C a i)) (h:gs.contains (x,.tab tb)=true) (hg:Gl X x) (hd:(x == ("__debug__" : Str))=false) (hmk:behindInMarks .In (.Name x p)=false):Bx (Sd.CE X xw C (.Compare a [.In] [.Name x p] pos) (.inT i tb)):=by
 obtain⟨t,k,e⟩:=T.g (x,.tab tb) (by simpa using h)
 exact⟨Sd.vo (k _ _) e ha.h hg hd hmk⟩
noncomputable def csB (sc:Scope) (N0:List Str) (scope:Scope) (N:List Str) (cap:List Nat) (nl:Nat):Bool:=
 ((N.take nl).all (λx=>decide (scope.names.lookup x=some .local))&&(decide (N.length=nl+cap.length)&&(cap.zipIdx.all (λp=>decide (N[nl+p.2]? = N0[p.1]?)&&decide ((N0[p.1]?).map (λx=>decide ((x,NameKind.free)∈scope.names))=some true)) &&
  ((match scope.kind with | .function=>true | _=>false)&&scope.names.all λy=>decide (y.2≠.cell)&&((!decide (y.2=.local)||decide (scope.names.lookup y.1=some .local))&&(!decide (y.2=.free)||((decide (sc.names.lookup y.1=some .cell)||decide (sc.names.lookup y.1=some .free))&&decide (scope.names.lookup y.1≠some .local))))))))
theorem zt {sc:Scope}{N0:List Str}{scope:Scope}{N:List Str}{cap:List Nat}{nl:Nat}(h:csB sc N0 scope N cap nl=true):CompScope sc N0 scope N cap nl:=by
 unfold csB at h;simp only[Ph,N6,Bool.not_eq_true',Nv,decide_eq_false_iff_not,PH] at h;obtain⟨_,h1,h2,h3,h4⟩:=h;refine⟨?_,λy hy=>(h4 y hy).1,λy hy z=>?_,λy hy z=>?_,λy hy z=>?_,h1,h2⟩
 ·cases e:scope.kind <;> rw[e] at h3 <;> first | rfl | cases h3
 ·rcases (h4 y hy).2.1 with q | q
  ·exact absurd z q
  ·exact q
 ·rcases (h4 y hy).2.2 with q | q
  ·exact absurd z q
  ·exact q.1
 ·rcases (h4 y hy).2.2 with q | q
  ·exact absurd z q
  ·exact q.2
end
end Gn
namespace Sd
open PySem PySem.Spec PyProof.Rows L2
def Fly (h:Heap) (e T C:Addr):Prop:=
 ∃(oe:Obj) (vs:Array Value) (a0:Value) (oT:Obj) (ts:Array Value),h.get? e=some oe/\(oe.cls=.ref C/\vs[0]? = some a0)/\oe.data=.fields vs/\vs[1]? = some (.ref T)/\T≠e/\h.get? T=some oT/\oT.data=.fields ts/\ts[3]? = some .none
noncomputable def CX1 (P:Program) (w:World):CXT:=λouter H s E e s'=>
 ∃(a T C:Addr) (H':Hp),e=.ref a/\s'.os=s.os/\AllBare s'.gens/\Un (frs outer) [] H H' s.heap s'.heap/\HOk P w H' s'.heap/\Fly s'.heap a T C/\s.heap.get? a=none/\s.heap.get? T=none/\H' a=none/\H' T=none/\E (.ref C) none H'
theorem ZF.there {P:Program}{w:World}{H:Hp}{h:Heap}{a:Addr}{o:HO}(x:ZF P w H h a o):∃u,h.get? a=some u:=by
 cases o with
 |lst xs=>obtain⟨_,_,_,_,e⟩:=x;exact⟨_,e⟩
 |tup xs=>obtain⟨_,_,_,_,e,_⟩:=x;exact⟨_,e⟩
 |dK kvs=>obtain⟨_,_,_,_,o,_,_,e,_⟩:=x;exact⟨_,e⟩
 |dT kvs=>obtain⟨_,_,_,_,o,_,_,e,_⟩:=x;exact⟨_,e⟩
 |set S n=>obtain⟨o,_,_,_,e,_⟩:=x;exact⟨_,e⟩
 |ins C dx fs=>obtain⟨_,_,_,e,_⟩:=x;exact⟨_,e⟩
 |own y=>obtain⟨_,e⟩:=x;exact⟨_,e⟩
 |xd fs=>obtain⟨_,⟨_,_,_,e,_⟩,_⟩:=x;exact⟨_,e⟩
 |rng lo hi=>obtain⟨_,_,_,e⟩:=x;exact⟨_,e⟩
 |frz ob u=>obtain⟨e,_⟩:=x;exact⟨_,e⟩
 |tbl ps=>exact⟨_,(show h.get? a=some _ from x)⟩
 |met f y=>exact⟨_,(show h.get? a=some _ from x)⟩
 |ext φ=>obtain⟨_,⟨_,e⟩,_⟩:=x;exact⟨_,e⟩
theorem FunFrames.rebase {h h' base base':Heap}:∀{l:List Env},h.FunFrames base l->(∀b∈frs l,∀o,h.get? b=some o->∃sl,h'.get? b=some { o with slots:=sl })->(∀b∈frs l,base'.get? b=none)->h'.FunFrames base' l
 |[],_,_,_=>trivial
 |env::l,⟨hk,⟨L,o,hf,hn,ho,hd⟩,hr⟩,k,n=>by
  have hm:L∈frs (env::l):=by unfold frs;rw[PU,hf];exact Pq ..
  obtain⟨sl,e⟩:=k L hm o ho;refine⟨hk,⟨L,_,hf,n L hm,e,hd⟩,FunFrames.rebase hr (λb hb=>k b ?_) λb hb=>n b ?_⟩
  all_goals unfold frs at hb ⊢;rw[PU,hf];exact Pn _ hb
structure DefX (X:Cx) (E:XK):Prop where
 xe:X.xe=λe s'=>wpAny (model X.prog X.w) X.A (leaving X.env e) (λ_ s''=>CX1 X.prog X.w X.outer X.H₀ X.s₀ E e s'') (λe' s''=>CX1 X.prog X.w X.outer X.H₀ X.s₀ E e' s'') s'
 st:X.stack=X.env::X.outer
 fr:X.env.frame=some X.env.locals
 ex:X.ex=[]
section
variable {X:Cx}{E:XK}{pq:List (Addr×Obj)}{σ:L2.St}{H H':Hp}{s s':Shared}
theorem Inv.outside (D:DefX X E) (I:Inv X pq σ H s) {h':Heap}{a T C:Addr}(un:Un (frs X.stack) [] H H' s.heap s'.heap) (hos:s'.os=s.os) (bare:AllBare s'.gens) (hok:HOk X.prog X.w H' s'.heap) (na:s.heap.get? a=none) (Ha:H' a=none)
  {hid:List Addr} (hh:∀b∈hid,b∈frs X.stack\/(s.heap.get? b=none/\H' b=none)) (st:(PySem.W.hideAll s'.heap hid).StaysIn h') (up:s'.heap.UpToSlots h') (fl:Fly h' a T C) (hT:(PySem.W.hideAll s'.heap hid).get? T=none) (hE:E (.ref C) none H') :
  CX1 X.prog X.w X.outer X.H₀ X.s₀ E (.ref a) { s' with heap:=h' }:=by
 have U1:=I.base;rw[D.ex] at U1;have sub:∀b∈frs X.outer,b∈frs X.stack:=λb hb=>by
  rw[D.st];unfold frs at hb ⊢;rw[PU,D.fr];exact Pn _ hb
 have own:∀b o,X.s₀.heap.get? b=some o->b∈frs X.stack->b∈frs X.outer:=λb o e hb=>by
  rw[D.st] at hb;unfold frs at hb ⊢;rw[PU,D.fr] at hb;rcases Pr.mp hb with z | z
  ·exact absurd (Pg e) (by rw[z];exact Nat.not_lt_of_le I.ok.above)
  ·exact z
 have nx:∀b:Addr,b∉([]:List Addr):=λb=>by simp
 have frN:∀b∈frs X.stack,H' b=none:=λb hb=>by
  obtain⟨_,o,ho,_⟩:=I.stack.mem hb;exact un.free b o ho (I.stkFree b hb) (nx b)
 have hidN:∀b∈hid,H' b=none:=λb hb=>by
  rcases hh b hb with z | z
  ·exact frN b z
  ·exact z.2
 have old:∀b o,s.heap.get? b=some o->b∉frs X.stack->b∉hid:=λb o e hb hm=>by
  rcases hh b hm with z | z
  ·exact hb z
  ·rw[e] at z;cases z.1
 have keep:∀b u,s'.heap.get? b=some u->b∉hid->h'.get? b=some u:=λb u e n=>st b u (PySem.W.hideAll_get _ e n)
 have nof:∀b∈frs X.stack,∀o,s'.heap.get? b=some o->∀vs,o.data≠.fields vs:=λb hb o e=>by
  obtain⟨_,o1,ho,hd⟩:=I.stack.mem hb;obtain⟨sl,e1⟩:=un.any ho (I.stkFree b hb) (nx b);rw[e] at e1;cases e1;exact hd
 have frS:∀b∈frs X.stack,∀o,s'.heap.get? b=some o->∃sl,h'.get? b=some { o with slots:=sl }:=λb hb o e=>up b o e (nof b hb o e)
 have trk:∀b u,H' b=some u->b∉hid:=λb u e hm=>by rw[hidN b hm] at e;cases e
 have hT2:∀o,s'.heap.get? T=some o->H' T=none/\s.heap.get? T=none\/False:=λo e=>by
  by_cases hm:T∈hid
  ·rcases hh T hm with z | z
   ·obtain⟨oe,vs,a0,oT,ts,_,_,_,_,_,g1,g2,_⟩:=fl
    obtain⟨sl,e2⟩:=frS T z o e;rw[g1] at e2;cases e2;exact absurd g2 (nof T z o e ts)
   ·exact .inl ⟨z.2,z.1⟩
  ·rw[PySem.W.hideAll_get _ e hm] at hT;cases hT
 have there:∀b o,X.s₀.heap.get? b=some o->∃o',s'.heap.get? b=some o':=λb o e=>by
  obtain⟨o1,e1⟩:=U1.there b o e (nx b);exact un.there b o1 e1 (nx b)
 refine⟨a,T,C,H',rfl,hos.trans I.os,bare,⟨λb o e n hb _=>?_,λb o e n hb _=>?_,λb o e n _=>?_,λb o e _=>?_,λb xs e=>un.tups b xs (U1.tups b xs e),λb o u e=>un.frzs b o u (U1.frzs b o u e),λb ps e=>?_⟩,λc o e=>?_,fl,?_,?_,Ha,?_,hE⟩
 ·have e1:=U1.keep b o e n hb (nx b)
  have hn:b∉frs X.stack:=λz=>hb (own b o e z)
  exact keep b o (un.keep b o e1 (U1.free b o e n (nx b)) hn (nx b)) (old b o e1 hn)
 ·obtain⟨sl,e1⟩:=U1.slot b o e n hb (nx b)
  obtain⟨sl2,e2⟩:=un.slot b _ e1 (U1.free b o e n (nx b)) (sub b hb) (nx b);obtain⟨sl3,e3⟩:=frS b (sub b hb) _ e2;exact⟨sl3,e3⟩
 ·obtain⟨o1,e1⟩:=U1.there b o e (nx b)
  exact un.free b o1 e1 (U1.free b o e n (nx b)) (nx b)
 ·obtain⟨o1,e1⟩:=U1.there b o e (nx b)
  obtain⟨o2,e2⟩:=un.there b o1 e1 (nx b);by_cases hm:b∈frs X.stack
  ·obtain⟨sl,e3⟩:=frS b hm o2 e2
   exact⟨_,e3⟩
  ·exact⟨o2,keep b o2 e2 (old b o1 e1 hm)⟩
 ·obtain⟨m1,e1⟩:=U1.tbls b ps e
  obtain⟨m2,e2⟩:=un.tbls b _ e1;exact⟨m1++m2,by rw[e2,Array.append_assoc]⟩
 ·refine (hok c o e).stay (λb u hb q=>?_) (λ_ q=>q) λ_ _ q=>q
  rcases hb with rfl | hb
  ·exact keep _ u q (trk _ _ e)
  ·exact keep _ u q (trk _ _ hb)
 ·cases q:X.s₀.heap.get? a with
  |none=>rfl
  |some o=>
   obtain⟨o1,e1⟩:=U1.there a o q (nx a);rw[na] at e1;cases e1
 ·cases q:X.s₀.heap.get? T with
  |none=>rfl
  |some o=>
   obtain⟨o1,e1⟩:=U1.there T o q (nx T);obtain⟨o2,e2⟩:=un.there T o1 e1 (nx T);rcases hT2 o2 e2 with z | z
   ·rw[e1] at z;cases z.2
   ·exact z.elim
 ·cases q:H' T with
  |none=>rfl
  |some u=>
   obtain⟨o,e⟩:=ZF.there (hok T u q);rcases hT2 o e with z | z
   ·rw[q] at z;cases z.1
   ·exact z.elim
theorem v8 (D:DefX X E):WQ (CX1 X.prog X.w) X E:=by
 rintro pq σ H s e s' I ⟨a,T,C,H',rfl,os,bare,un,hok,fly,na,nT,Ha,HT,hE⟩
 rw[D.xe];have nx:∀b:Addr,b∉([]:List Addr):=λb=>by simp
 have hfr:X.A.frames=some (X.env::X.outer):=by rw[<-D.st];exact I.ok.frames
 let hid:=frs X.stack++[a,T]
 have hin:∀b∈frs X.stack,b∈hid:=λb hb=>NC _ hb
 have FF:s'.heap.FunFrames (PySem.W.hideAll s'.heap hid) (X.env::X.outer):=by
  rw[<-D.st];exact FunFrames.rebase I.stack (λb hb o e=>un.any e (I.stkFree b hb) (nx b)) λb hb=>PySem.W.hideAll_none _ (hin b hb)
 obtain⟨oe,vs,a0,oT,ts,f1,f2,f3,f4,f5,f6,f7,f8⟩:=fly;refine wpAny_leaves_onW (base:=PySem.W.hideAll s'.heap hid) hfr D.fr (cls:=.ref C) (a0:=a0) (e:=a) ⟨λb o e=>PySem.W.of_hideAll _ e,PySem.W.hideAll_none _ (PD _ (Pq ..)),FF,oe,vs,T,oT,ts,f1,f2,f3,f4,PySem.W.hideAll_none _ (PD _ (Pn _ (Pq ..))),f5,f6,f7,f8⟩ λh' fl' up=>?_
 obtain⟨g1,_,_,oe',vs',T',oT',ts',e1,e2,e3,e4,e5,e6,e7,e8,e9⟩:=fl';refine Inv.outside D I un os bare hok na Ha (hid:=hid) (λb hb=>?_) g1 up (T:=T') ⟨oe',vs',a0,oT',ts',e1,e2,e3,e4,e6,e7,e8,e9⟩ e5 hE
 rcases NK.mp hb with z | z
 ·exact .inl z
 ·rcases Pr.mp z with rfl | z
  ·exact .inr ⟨na,Ha⟩
  ·rw[Na.mp z];exact .inr ⟨nT,HT⟩
end
end Sd
namespace Sd
open PySem PySem.Spec PyProof.Rows L2
open Ev (D Ob Za Lc R E Sm Calls Walk Fl Fn Bop Cop Ty Bf Mf ev evs evo evt evw tst run runs)
noncomputable abbrev veM:List Value:=[.type "ValueError",.type "Exception",.type "BaseException",.type "object"]
structure Cls1 (h:Heap) (S C:Addr):Prop where
 ob:∃bm N nm q bs hdct sn sub ab col dd k0 k1 k2 k3 k5 mN,h.get? C=some (excClassObj nm q C N bs bm hdct sn sub ab col dd k0 k1 k2 k3 k5 "ValueError.__new__")/\h.Ns N mN/\mN "__init__" = none/\OwnTail h veM bm
section
variable {X:Cx}{E:XK}{S C:Addr}{x:Str}{np cpos pos:Pos}{e:Expr}{es:List Expr}{t:TA}
def vJ (C:Addr) (E:XK) (t:TA):TS:=λ_ σ H=>t σ H λvs H'=>vs.length<=sizeLine/\E (.ref C) none H'
theorem UG (D:DefX X E) (hc:X.calm=true) (O:Cls1 X.base S C) (hg:Gl X x) (hm:X.mg x=some (.ref C)) (ha:PA X (e::es) t) (hd:(x == ("__debug__" : Str))=false)
  (he:starEach (e::es) X.env=(false,eval e X.env)::starEach es X.env) (hpl:(backTo cpos (starEach es X.env)).any (·.1)=false) :
  PS X (.Raise (some (.Call (.Name x np) (e::es) [] cpos)) none pos) (vJ C E t):=by
 intro pq s σ H Dn I h;obtain⟨bm,N,nm,q,bs,hdct,sn,sub,ab,col,dd,k0,k1,k2,k3,k5,mN,hC,hN,hi,tl⟩:=O.ob;refine wpAny_Raise_call_subT (C:=C) (nm:=nm) (q:=q) (N:=N) (bs:=bs) (bm:=bm) (hdct:=hdct) (sn:=sn) (sub:=sub) (ab:=ab) (col:=col) (dd:=dd) (k0:=k0) (k1:=k1) (k2:=k2) (k3:=k3) (k5:=k5)
  PySem.F.excBase_ValueError (mN:=mN) (tl.hasType PySem.F.excBase_ValueError.hasBase) (I.ok.hd hc) (by rw[he];show (false||(backTo cpos (starEach es X.env)).any (·.1))=false;rw[hpl];rfl) hi (Xp I hg hm ⟨rfl,?_⟩ hd)
 have ha':=ha cpos pq s σ H _ I h;rw[he] at ha' ⊢;refine Calls.evalArgs_plain (Ni ha' (λus s2 ⟨vs,H2,I2,r2,hl,hE⟩=>⟨rfl,by rw[<-r2.length];exact hl,I2.bk _ _ hC,hN.keeps I2.bk,tl.keeps I2.bk,λh' a hx=>?_⟩) λ_ _ y=>y)
 rw[D.xe];have hfr:X.A.frames=some (X.env::X.outer):=by rw[<-D.st];exact I2.ok.frames
 let hid:=frs X.stack
 have FF:s2.heap.FunFrames (PySem.W.hideAll s2.heap hid) (X.env::X.outer):=by
  rw[<-D.st];exact FunFrames.rebase I2.stack (λb hb o e=>⟨o.slots,e⟩) λb hb=>PySem.W.hideAll_none _ hb
 have nx:∀b:Addr,b∉([]:List Addr):=λb=>by simp
 refine wpAny_leaves_madeW (base:=PySem.W.hideAll s2.heap hid) (h:=s2.heap) hfr D.fr (λb o e=>PySem.W.of_hideAll _ e) FF hx λh2 t fl _ _ up=>?_
 obtain⟨g1,_,_,oe,vs',T,oT,ts,e1,e2,e3,e4,e5,e6,e7,e8,e9⟩:=fl;have na:s2.heap.get? a=none:=hx.new;have Ha:H2 a=none:=by
  cases q:H2 a with
  |none=>rfl
  |some u=>
   obtain⟨o,e⟩:=ZF.there (I2.hok a u q);rw[na] at e;cases e
 exact Inv.outside (s':=s2) (H':=H2) D I2 (Un.kept λb o e=>e) rfl I2.bare I2.hok na Ha (hid:=hid) (λb hb=>.inl hb) g1
  ((Heap.UpToSlots.of_keeps hx.keeps).trans up) (T:=T) ⟨oe,vs',.ref t,oT,ts,e1,e2,e3,e4,e6,e7,e8,e9⟩ e5 hE
abbrev TJ:=L2.St->Hp->(Hp->Prop)->Prop
noncomputable def tJn:TJ:=λ_ H Q=>Q H
noncomputable def tJf (te:TE) (t:TJ):TJ:=λσ H Q=>te σ H λx H1=>∃i:Int,x=.int i/\Ev.ZB i=true/\t σ H1 Q
def PJ (X:Cx) (es:List Expr) (m:Nat) (t:TJ):Prop:=
 ∀(out:Str) (pq:List (Addr×Obj)) (s:Shared) (σ:L2.St) (H:Hp) (Q:Hp->Prop),L2.Inv X pq σ H s->out.length+m<=sizeLine->t σ H Q->
  wpAny (model X.prog X.w) X.A (joinParts out (evalEach es X.env)) (λu s'=>∃y H',L2.Inv X pq σ H' s'/\Zs (.str y) u/\Q H') X.xe s
variable {tj:TJ}
theorem wd:PJ X [] 0 tJn:=λout pq s σ H Q I hl h=>joinParts_nil ⟨out,H,I.tok _,⟨_,rfl⟩,h⟩ (by omega)
theorem uQ {m:Nat}{y:Str}{j:Nat}{pos:Pos}(hr:PJ X es m tj):PJ X (.Constant (.str y) j pos::es) (y.length+m) tj:=λout pq s σ H Q I hl h=>by
 refine joinParts_cons (Calls.Constant_str ?_);have hz:(out++y).length=out.length+y.length:=strLen_append _ _;exact⟨by omega,hr (out++y) pq _ σ H Q (I.tok _) (by omega) h⟩
theorem JV {i:Int}(h:Ev.ZB i=true):i.natAbs.log2<63:=by
 have:=Py h;by_cases hz:i.natAbs=0
 ·rw[hz];decide
 ·exact (Nat.log2_lt hz).mpr (by omega)
theorem u9 {m:Nat}{pos:Pos}{te:TE}(he:PE X e te) (hr:PJ X es m tj):PJ X (.FormattedValue e (-1) none pos::es) (64+m) (tJf te tj):=λout pq s σ H Q I hl h=>by
 refine joinParts_cons (FormattedValue_plain (thn (he pq s σ H _ I h) λu s1 ⟨v,H1,I1,r,i,hv,hs,q⟩=>?_))
 subst hv;obtain⟨tk,rfl⟩:=r;have hl63:=JV hs;refine formatField_int_small (by omega) ?_
 have hz:(Str.ofString (toString i)).length<=64:=by
  have:=int_text_length_le (k:=63) (by omega) hl63
  rw[PySem.ofString_length];exact this
 have hz2:(out++Str.ofString (toString i)).length=out.length+(Str.ofString (toString i)).length:=strLen_append _ _;exact⟨by show (out++Str.ofString (toString i)).length<=_;omega,hr _ pq _ σ H1 Q ((I1.tok _).tok _) (by omega) q⟩
theorem yw {m:Nat}{v1 v2:Expr}{rest:List Expr}{jp:Pos}(h:PJ X (v1::v2::rest) m tj) (hm:m<=sizeLine) (hs:starEach [.JoinedStr (v1::v2::rest) jp] X.env=(false,eval (.JoinedStr (v1::v2::rest) jp) X.env)::starEach [] X.env) :
  PA X [.JoinedStr (v1::v2::rest) jp] (λσ H Q=>tj σ H λH'=>∀y,Q [.str y] H'):=λpos pq s σ H Q I q=>by
 rw[hs];refine Calls.spliced_cons (JoinedStr_many (pos:=jp) (thn (h Str.empty pq s σ H _ I (by show 0+m<=_;omega) q) λu s1 ⟨y,H1,I1,r,q1⟩=>?_))
 exact Calls.spliced_nil ⟨[.str y],H1,I1,.cons r .nil,q1 y⟩
end
end Sd
namespace Sd
open PySem PySem.Spec PyProof.Rows L2
open Ev (D Ob Za Lc R Sm Calls Walk Fl Fn Bop Cop Ty Bf Mf ev evs evo evt evw tst run runs)
noncomputable def xwE (cl:List Addr) (E:XK):Nat->Hp->Prop:=λc H=>∃C,cl[c]? = some C/\E (.ref C) none H
theorem End.ex_mono {α β:Type}{K:PySem.W.Frag}{xw xw':Nat->Hp->Prop}{ρ:List Addr}{H:Hp}{rep:List Addr->Hp->α->β->Prop}{Q:β->Hp->Prop}{r:R α}(k:∀c H,xw c H->xw' c H) (h:End K xw rep ρ H Q r):End K xw' rep ρ H Q r:=by
 cases r with
 |ok d S=>exact h
 |ex c S=>exact λρ' H' f st=>k c H' (h ρ' H' f st)
 |no=>exact h
section
variable {X:Cx}{E:XK}{S C:Addr}{x:Str}{np cpos pos jp p:Pos}{e v1 v2:Expr}{es rest:List Expr}{xw:Nat->Hp->Prop}{cl:List Addr}{Cc:Calls}{n m:Nat}{is:List Ev.E}{i:Ev.E}
theorem zx {y:Str}{j:Nat}(D:DefX X E) (hc:X.calm=true) (O:Cls1 X.base S C) (hn:cl[n]? = some C) (hg:Gl X x) (hm:X.mg x=some (.ref C)) (hd:(x == ("__debug__" : Str))=false)
  (he:starEach [.Constant (.str y) j p] X.env=(false,eval (.Constant (.str y) j p) X.env)::starEach [] X.env) (hpl:(backTo cpos (starEach [] X.env)).any (·.1)=false) :
  CS X (xwE cl E) Cc (.Raise (some (.Call (.Name x np) [.Constant (.str y) j p] [] cpos)) none pos) (.raise n []):=
 PS.imp (UG D hc O hg hm (Zr G2 Yb he) hd he hpl) λDn σ H ⟨ρ,l,S,st,lr,h⟩=>by
  refine⟨by show 1<=sizeLine;decide,?_⟩
  obtain⟨C',e1,e2⟩:=h ρ H (Fut.refl _ _) st;rw[hn] at e1;cases e1;exact e2
def CJ (X:Cx) (xw:Nat->Hp->Prop) (Cc:Calls) (es:List Expr) (m:Nat) (is:List Ev.E):Prop:=PJ X es m λσ H Q=>∃ρ l S,St3 X.K ρ S H/\LocR ρ H l σ/\End X.K xw Rq ρ H (λ_ H'=>Q H') (evs Cc is l S)
theorem PJ.imp {t t':TJ}(h:PJ X es m t) (k:∀σ H Q,t' σ H Q->t σ H Q):PJ X es m t':=λout pq s σ H Q I hl q=>h out pq s σ H Q I hl (k σ H Q q)
theorem U4:CJ X xw Cc [] 0 []:=PJ.imp wd λσ H Q ⟨ρ,l,S,st,lr,h⟩=>h ρ H [] (Fut.refl _ _) st Rq.nil
theorem wY {y:Str}{j:Nat}(hr:CJ X xw Cc es m is):CJ X xw Cc (.Constant (.str y) j p::es) (y.length+m) is:=uQ hr
theorem vM (he:CE X xw Cc e i) (hr:CJ X xw Cc es m is):CJ X xw Cc (.FormattedValue e (-1) none p::es) (64+m) (.fi i::is):=
 PJ.imp (u9 he hr) λσ H Q ⟨ρ,l,S,st,lr,h⟩=>by
  have h:End X.K xw Rq ρ H (λ_ H'=>Q H') (((ev Cc i l S).bind λx S=>match x with
   |.int i=>if Ev.ZB i=true then R.ok (D.int i) S else .no
   |_=>.no).bind λx S=>(evs Cc is l S).bind λxs S=>.ok (x::xs) S):=by
   have:=h;rw[evs,ev] at this;exact this
  refine⟨ρ,l,S,st,lr,?_⟩;cases q:ev Cc i l S with
  |no=>rw[q] at h;exact h.elim
  |ex c S1=>rw[q] at h;exact h
  |ok d S1=>
   rw[q] at h;intro ρ1 H1 v f1 st1 r1;have h:=End.mono f1 h;cases d with
   |int k=>
    change End X.K xw Rq ρ1 H1 (λ_ H'=>Q H') ((if Ev.ZB k=true then R.ok (D.int k) S1 else .no).bind _) at h
    by_cases hk:Ev.ZB k=true
    ·rw[Pj hk] at h
     have e1:v=.int k:=by unfold Rep at r1;exact r1
     refine⟨k,e1,hk,ρ1,l,S1,st1,lr.mono f1,?_⟩;exact End.bind h λxs S2 ρ2 H2 vs f2 st2 r2 h2=>h2 ρ2 H2 (v::vs) (Fut.refl _ _) st2 (Rq.cons (Rep.mono f2 r1) r2)
    ·rw[Pm hk] at h
     exact h.elim
   |_=>exact h.elim
theorem JW (D:DefX X E) (hc:X.calm=true) (O:Cls1 X.base S C) (hn:cl[n]? = some C) (hj:CJ X (xwE cl E) Cc (v1::v2::rest) m is) (hml:m<=sizeLine) (hg:Gl X x) (hm:X.mg x=some (.ref C)) (hd:(x == ("__debug__" : Str))=false)
  (he:starEach [.JoinedStr (v1::v2::rest) jp] X.env=(false,eval (.JoinedStr (v1::v2::rest) jp) X.env)::starEach [] X.env) (hpl:(backTo cpos (starEach [] X.env)).any (·.1)=false) :
  CS X (xwE cl E) Cc (.Raise (some (.Call (.Name x np) [.JoinedStr (v1::v2::rest) jp] [] cpos)) none pos) (.raise n is):=
 PS.imp (UG D hc O hg hm (yw hj hml he) hd he hpl) λDn σ H ⟨ρ,l,S,st,lr,h⟩=>by
  refine⟨ρ,l,S,st,lr,?_⟩;have h:ZC X.K (xwE cl E) ρ H Dn ((evs Cc is l S).bind λ_ S=>.ex n S):=h
  exact ZC.bind h λxs S1 ρ1 H1 vs f1 st1 r1 h1 y=>by
   refine⟨by show 1<=sizeLine;decide,?_⟩
   obtain⟨C',e1,e2⟩:=h1 ρ1 H1 (Fut.refl _ _) st1;rw[hn] at e1;cases e1;exact e2
def spX (K:PySem.W.Frag) (cl:List Addr) (C:Calls) (n:Nat):Sp:=λvs H Q E=>∃ρ ds S,St3 K ρ S H/\Rq ρ H ds vs/\End K (xwE cl E) Rep ρ H Q (C n ds S)
theorem Uz {kk:Nat}{f:Addr}{fd:FuncData}{ps:List Str}(F:FnOk X.prog X.w X.K X.mg X.base (CX1 X.prog X.w) kk f fd ps (spX X.K cl Cc n)) (hr:Room kk X.A) (hx:WQ (CX1 X.prog X.w) X E) (hw:∀c H,xw c H->xwE cl E c H) (hm:X.mg x=some (.ref f)) (hk:PySem.W.keepIn X.K (.ref f)=true) (hb:X6 X.K fd ps [])
  (ha:CA X xw Cc (e::es) is) (hg:Gl X x) (hdb:(x == ("__debug__" : Str))=false) (he:starEach (e::es) X.env=(false,eval e X.env)::starEach es X.env) (hpl:(backTo pos (starEach es X.env)).any (·.1)=false) :
  CE X xw Cc (.Call (.Name x p) (e::es) [] pos) (.call n is):=
 PE.imp (yF F hr hg hm hk hb .nil hx ha hdb he hpl) λσ H Q ⟨ρ,l,S,st,lr,h⟩=>
  ⟨ρ,l,S,st,lr,End.bind (show End X.K xw Rep ρ H Q ((evs Cc is l S).bind _) from h) λxs S1 ρ1 H1 vs f1 st1 r1 h1=>by
   rw[Nt];exact⟨ρ1,xs,S1,st1,r1,End.ex_mono hw h1⟩⟩
end
section
variable {P:Program}{w:World}{K:PySem.W.Frag}{mg:Str->Option Value}{base:Heap}{cl:List Addr}
theorem GO {F:List Fn}{n d:Nat}{fn:Fn}{x qual:Str}{st:Stmt}{f:Addr}{fd:FuncData}{N ps:List Str}{k:Nat}(hF:F[n]? = some fn) (hns:fn.ns=N.length) (hps:fn.ps=ps.length) (Fu:Fun K x qual st f fd) (S:FnScope N ps (Zb st))
  (hb:∀(cdv:Value) (A:Around) (outer:List Env) (s:Shared) (H:Hp) (E:XK),Room k (A.deeper (envOfC qual (Zb st) s.heap.objs.size f cdv))->
   CSs (YU (CX1 P w) P w K mg base N qual (Zb st) f cdv A outer s H E) (xwE cl E) (Ev.Zg F d) (Zj st) fn.body) :
  FnOk P w K mg base (CX1 P w) (k+1) f fd ps (spX K cl (Ev.Zg F (d+1)) n):=by
 have eq:∀ds S,Ev.Zg F (d+1) n ds S=if ds.length=fn.ps then (runs (Ev.Zg F d) fn.body (Ev.start fn.ns ds) S).bind λf S=>match f with
    |.ret x=>.ok x S
    |.nx _=>.ok .non S
    |_=>.no
   else .no:=λds S=>by
  rw[Ev.Zg,hF]
  all_goals rfl
 obtain⟨oc,od,kV,doc,pm,an,cdv,ct,osl,rfl,lk,hcd⟩:=Fu.ex;refine x6 lk hcd S (λvs H Q E ⟨ρ,ds,S,st,r,h⟩=>?_) λA outer s H vs Q E hr ⟨ρ,ds,S',st,r,h⟩=>⟨_,hb cdv A outer s H E hr,ρ,Ev.start fn.ns ds,S',st,LocR.start r N fn.ns hns,?_⟩
 ·rw[eq] at h
  obtain⟨hl,_⟩:=End.guard h;rw[r.length,hl,hps]
 ·rw[eq] at h
  obtain⟨hl,h⟩:=End.guard h;cases q:runs (Ev.Zg F d) fn.body (Ev.start fn.ns ds) S' with
  |no=>rw[q] at h;exact h
  |ex c S2=>rw[q] at h;exact h
  |ok fl S2=>
   rw[q] at h;cases fl with
   |ret x=>exact λρ' H' v g st r=>h ρ' H' v g st r
   |nx l=>exact λρ' H' σ' g st lr=>h ρ' H' .non g st Yf
   |brk l=>exact False.elim h
   |cnt l=>exact False.elim h
theorem zJ {F:List Fn}{n k:Nat}{f:Addr}{fd:FuncData}{ps:List Str}:FnOk P w K mg base (CX1 P w) k f fd ps (spX K cl (Ev.Zg F 0) n):=
 ⟨λvs H Q E ⟨ρ,ds,S,st,r,h⟩=>False.elim h,λA outer s H args us vs Q E hr e0 hb r ⟨ρ,ds,S,st,r',h⟩=>False.elim h⟩
theorem z6 {N:List Str}{qual:Str}{sc:Scope}{f:Addr}{cdv:Value}{A:Around}{outer:List Env}{s:Shared}{H:Hp}{E:XK}:DefX (YU (CX1 P w) P w K mg base N qual sc f cdv A outer s H E) E:=⟨rfl,rfl,rfl,rfl⟩
theorem uo {X:Cx}:WQ (CX1 X.prog X.w) X E0:=λpq σ H s e s' I ⟨_,_,_,_,_,_,_,_,_,_,_,_,_,_,z⟩=>z.elim
end
end Sd
namespace Sd
open PySem PySem.Spec PyProof.Rows L2 PySem.W
structure ExK (K:Frag) (C:Addr):Prop where
 cd:(clsIn K C).isSome=true
 ga:findIn K (.ref C) "__getattribute__" = some (some (.builtin "BaseException.__getattribute__"))
 gx:findIn K (.ref C) "__getattr__" = some none
 gc:findIn K (.ref C) "__class__" = some (some (.builtin "object.__class__"))
 be:mroIn K C (.type "BaseException")=some true
 ob:mroIn K C (.type "object")=some true
section
variable {prog:Program}{w:World}{A:Around}{E:Value->Shared->Prop}{h:Heap}{g:Array GenState}{d:Drawn}{t:Nat}{os:OsState}{a C:Addr}{o:Obj}{K:Frag}
theorem yO {R:Result->Shared->Prop}(X:K.In h) (k:ExK K C) (hx:h.get? a=some o) (hc:o.cls=.ref C) (hq:R (.ok (.ret (.ref C))) ⟨h,g,d,t,os⟩) :
  codeAny (model prog w) A (.call (.builtin "getset_descriptor.__get__") ⟨[.builtin "object.__class__",.ref a,.ref C],[]⟩) R ⟨h,g,d,t,os⟩:=by
 have hT5:(⟨h,g,d,t,os⟩:Shared).TypeIs (.builtin "object.__class__") "getset_descriptor":=F.typeOf_object_class;have L1:Looks (model prog w) h (isSubtype (.ref C) (.type (".".intercalate ("object.__class__".cutAt '.').dropLast))) true:=by
  rw[F.owner_object_class];exact looks_mroIn X k.ob
 refine codeAny_call_builtin F.slot_gs_get.plain F.entry_gs_get (F.slot_gs_get.check _ _ _ _ _ _ _ _ hT5 (F.args_gs_get _ _ _) ?_)
 repeat (any_goals (first | assumption | (with_reducible refine wpAny_loadPart_at hx ?_;rw[hc]) | with_reducible refine L1.at ?_ | wp_step))
 refine⟨Code.quiet_builtin _ (by decide +kernel),codeAny_builtin F.entry_object_class ?_⟩
 repeat (any_goals (first | assumption | (with_reducible refine wpAny_loadPart_at hx ?_;rw[hc]) | wp_step))
theorem JN {M:Model}{nameV:Value}{Q:Unit->Shared->Prop}(X:K.In h) (k:ExK K C) (hx:h.get? a=some o) (hc:o.cls=.ref C) (hq:Q () ⟨h,g,d,t,os⟩) :
  wpAny M A (checkBuiltinCall "BaseException.__getattribute__" ⟨[.ref a,nameV],[]⟩) Q E ⟨h,g,d,t,os⟩:=by
 have hk:builtinKind "BaseException.__getattribute__" = some .slot:=by decide +kernel
 have hsplit:splitId "BaseException.__getattribute__" = some ("BaseException","__getattribute__"):=by decide +kernel
 have L1:Looks M h (isSubtype (.ref C) (.type "BaseException")) true:=looks_mroIn X k.be;have ha:=F.args_bexc_ga (.ref a) nameV;simp only[checkBuiltinCall,hk,hsplit];refine Pd ?_;unfold isInstance
 repeat (first | (with_reducible refine wpAny_loadPart_at hx ?_;rw[hc]) | with_reducible refine L1.at ?_ | wp_step)
 exact hq
theorem JX {tk:Tok}{Q:Fin->Shared->Prop}(X:K.In h) (k:ExK K C) (hx:h.get? a=some o) (hc:o.cls=.ref C) (hq:Q (.done (.ret (.ref C))) ⟨h,g,d,t,os⟩) :
  wpAny (model prog w) A (Builtin.«object.__getattribute__» ⟨[.ref a,.str "__class__" tk],[]⟩) Q E ⟨h,g,d,t,os⟩:=by
 have hT5:(⟨h,g,d,t,os⟩:Shared).TypeIs (.builtin "object.__class__") "getset_descriptor":=F.typeOf_object_class;have f5:=F.typeOf_object_class;have f6:=F.slot_gs_get.lookup;have f7:=F.slot_gs_set.lookup;have L1:Looks (model prog w) h (typeLookup (.ref C) "__class__") (some (.builtin "object.__class__")):=looks_findIn X k.gc
 repeat (any_goals (first | assumption | (with_reducible refine wpAny_loadPart_at hx ?_;rw[hc]) | with_reducible refine L1.at ?_ | wp_step))
 refine yO X k hx hc ?_
 repeat (any_goals (first | assumption | wp_step))
theorem wp {tk:Tok}{Q:Value->Shared->Prop}(X:K.In h) (k:ExK K C) (hx:h.get? a=some o) (hc:o.cls=.ref C) (hq:Q (.ref C) ⟨h,g,d,t,os⟩) :
  wpAny (model prog w) A (getAttrBy (.ref a) (.str "__class__" tk) false) Q E ⟨h,g,d,t,os⟩:=by
 have f3:=PySem.F.excAttr_ValueError.ga.bind (.ref a);have hx2:(Value.builtin "BaseException.__getattribute__" == Value.builtin "object.__getattribute__")=false:=by decide +kernel
 have hx1:(onTheHeap (Value.ref C)&&Value.builtin "BaseException.__getattribute__" == Value.builtin "object.__getattribute__")=false:=by rw[hx2];rfl
 have L1:Looks (model prog w) h (typeLookup (.ref C) "__getattribute__") (some (.builtin "BaseException.__getattribute__")):=looks_findIn X k.ga;have L2:Looks (model prog w) h (typeLookup (.ref C) "__getattr__") none:=looks_findIn X k.gx
 repeat (any_goals (first | assumption | (with_reducible refine wpAny_loadPart_at hx ?_;rw[hc]) | with_reducible refine L1.at ?_ | with_reducible refine L2.at ?_ | wp_step))
 refine codeAny_call_builtin PySem.F.excAttr_ValueError.ga.plain F.entry_bexc_ga (JN X k hx hc (JX X k hx hc ?_))
 repeat (any_goals (first | assumption | wp_step))
theorem J1 {Q:Option Value->Shared->Prop}(X:K.In h) (k:ExK K C) (hx:h.get? a=some o) (hc:o.cls=.ref C) (hq:Q (some (.ref C)) ⟨h,g,d,t+1,os⟩) :
  wpAny (model prog w) A (getAttr? (.ref a) "__class__") Q E ⟨h,g,d,t,os⟩:=by
 unfold getAttr? getAttrBy?
 repeat (any_goals (first | assumption | with_reducible apply wp X k hx hc | wp_step))
end
theorem zy {K:Frag}{a C:Addr}(k:ExK K C):KitX K (.ref a) (.ref C) (λh=>∃o,h.get? a=some o/\o.cls=.ref C) where
 ty:=λ_ _ _ ⟨o,hx,hc⟩=>hc▸(Looks.ld hx).andThen .now
 it:=λ_ _ X _=>by
  have hcD:=k.cd;unfold clsIn at hcD;split at hcD
  ·rename_i c' d' cd' sl' ho
   intro A' Q' E' s' kk q;unfold isType loadHead;exact Pd (wpAny_loadPart (kk _ _ (X _ _ ho)) (PM q))
  ·cases hcD
 ne:=λh tp dd its n sl X htp=>by
  have hcD:=k.cd;refine Bool.eq_false_iff.mpr λq=>?_
  have e:C=tp:=Value.ref.inj (beq_iff_eq.mp q);subst e;unfold clsIn at hcD;split at hcD
  ·rename_i c' d' cd' sl' ho
   have z:=(X _ _ ho).symm.trans htp;cases z
  ·cases hcD
 ca:=λ{_ _ _ _ _ s} X ⟨o,hx,hc⟩ q=>by obtain⟨h,g,d,t,os⟩:=s;exact J1 X k hx hc q
end Sd
namespace Sd
open PySem PySem.Spec PyProof.Rows L2
section
variable {X:Cx}{E:XK}{pq:List (Addr×Obj)}{σ:L2.St}{H:Hp}{s:Shared}
theorem Inv.slots (D:DefX X E) (I:L2.Inv X pq σ H s) {h':Heap}{hid:List Addr}(hh:∀b∈hid,b∈frs X.stack\/(X.s₀.heap.get? b=none/\H b=none/\∀p∈X.pn++pq,p.1≠b))
  (st:(PySem.W.hideAll s.heap hid).StaysIn h') (up:s.heap.UpToSlots h'):L2.Inv X pq σ H { s with heap:=h' }:=by
 have keep:∀b u,s.heap.get? b=some u->b∉hid->h'.get? b=some u:=λb u e n=>st b u (PySem.W.hideAll_get _ e n)
 have nof:∀b∈frs X.stack,∀o,s.heap.get? b=some o->∀vs,o.data≠.fields vs:=λb hb o e=>by
  obtain⟨_,o1,ho,hd⟩:=I.stack.mem hb;rw[e] at ho;cases ho;exact hd
 have frS:∀b∈frs X.stack,∀o,s.heap.get? b=some o->∃sl,h'.get? b=some { o with slots:=sl }:=λb hb o e=>up b o e (nof b hb o e)
 have frH:∀b∈frs X.stack,H b=none:=I.stkFree;have sub:∀b∈X.fs,b∈frs X.stack:=λb hb=>by
  change b∈frs X.outer at hb
  rw[D.st];unfold frs at hb ⊢;rw[PU,D.fr];exact Pn _ hb
 have own:∀b o,X.s₀.heap.get? b=some o->b∈frs X.stack->b∈X.fs:=λb o e hb=>by
  rw[D.st] at hb;show b∈frs X.outer;unfold frs at hb ⊢;rw[PU,D.fr] at hb;rcases Pr.mp hb with z | z
  ·exact absurd (Pg e) (by rw[z];exact Nat.not_lt_of_le I.ok.above)
  ·exact z
 have hidN:∀b∈hid,H b=none:=λb hb=>(hh b hb).elim (frH b) λz=>z.2.1
 have old:∀b o,X.s₀.heap.get? b=some o->b∉X.fs->b∉hid:=λb o e hb hm=>by
  rcases hh b hm with z | z
  ·exact hb (own b o e z)
  ·rw[e] at z;cases z.1
 have U:=I.base;refine⟨I.ok,I.os,I.bare,⟨λb o e n hb hx=>keep b o (U.keep b o e n hb hx) (old b o e hb),λb o e n hb hx=>?_,U.free,λb o e hx=>?_,U.tups,U.frzs,U.tbls⟩,?_,λy c e=>?_,I.free,I.freeC,λp hp=>?_,λc o e=>?_,I.len⟩
 ·obtain⟨sl,e1⟩:=U.slot b o e n hb hx
  obtain⟨sl2,e2⟩:=frS b (sub b hb) _ e1;exact⟨sl2,e2⟩
 ·obtain⟨o1,e1⟩:=U.there b o e hx
  by_cases hm:b∈frs X.stack
  ·obtain⟨sl,e2⟩:=frS b hm o1 e1
   exact⟨_,e2⟩
  ·refine⟨o1,keep b o1 e1 λz=>?_⟩
   rcases hh b z with q | q
   ·exact hm q
   ·rw[e] at q;cases q.1
 ·obtain⟨m,hn,hl⟩:=I.loc
  refine⟨m,up.ns hn,λi x v e1 e2 e3=>?_⟩
  obtain⟨u,r,q⟩:=hl i x v e1 e2 e3;refine⟨u,r,?_⟩;rcases q with q | ⟨k,c,e,z⟩
  ·exact .inl q
  ·refine .inr ⟨k,c,e,?_⟩
   obtain⟨o,ho,hd⟩:=z;obtain⟨sl,e2⟩:=up c o ho λvs q=>by rw[hd] at q;cases q
   exact⟨_,e2,hd⟩
 ·obtain⟨v,o,ho,hd⟩:=I.cell y c e
  obtain⟨sl,e2⟩:=up c o ho λvs q=>by rw[hd] at q;cases q
  exact⟨v,_,e2,hd⟩
 ·obtain⟨e,n,ne,nf,d⟩:=I.pin p hp
  refine⟨keep _ _ e λz=>?_,n,ne,nf,d⟩
  rcases hh p.1 z with q | q
  ·rw[D.st] at q;unfold frs at q;rw[PU,D.fr] at q
   rcases Pr.mp q with q | q
   ·exact ne q
   ·exact nf q
  ·exact q.2.2 p hp rfl
 ·refine (I.hok c o e).stay (λb u hb q=>?_) (λ_ q=>q) λ_ _ q=>q
  have nh:∀b u,H b=some u->b∉hid:=λb u e hm=>by rw[hidN b hm] at e;cases e
  rcases hb with rfl | hb
  ·exact keep _ u q (nh _ _ e)
  ·exact keep _ u q (nh _ _ hb)
theorem Inv.freeze (I:L2.Inv X pq σ H s) {a:Addr}{o:Obj}(ha:s.heap.get? a=some o) (Ha:H a=none) (n0:X.s₀.heap.get? a=none) (hl:a≠X.env.locals) (hc:∀x c,X.env.cells.lookup x=some c->c≠a) (hp:∀p∈X.pn++pq,p.1≠a) :
  L2.Inv X pq σ (upd H a (.frz o (.own a))) s:=by
 have nu:∀b u,H b=some u->upd H a (.frz o (.own a)) b=some u:=λb u e=>by rw[Ze (λz=>by rw[z,Ha] at e;cases e)];exact e
 have nn:∀b,b≠a->H b=none->upd H a (.frz o (.own a)) b=none:=λb z e=>by rw[Ze z];exact e
 have U:=I.base;refine⟨I.ok,I.os,I.bare,⟨U.keep,U.slot,λb o e n hx=>nn b (λz=>by rw[z,n0] at e;cases e) (U.free b o e n hx),U.there,λb xs e=>nu _ _ (U.tups b xs e),λb o u e=>nu _ _ (U.frzs b o u e),λb ps e=>?_⟩,I.loc,I.cell,nn _ (Ne.symm hl) I.free,λx c e=>nn _ (hc x c e) (I.freeC x c e),λp hp'=>?_,λc u e=>?_,I.len⟩
 ·obtain⟨more,e1⟩:=U.tbls b ps e
  exact⟨more,nu _ _ e1⟩
 ·obtain⟨e,n,r⟩:=I.pin p hp'
  exact⟨e,nn _ (hp p hp') n,r⟩
 ·by_cases z:c=a
  ·subst z
   rw[Zi] at e;cases e;exact⟨ha,_,ha⟩
  ·rw[Ze z] at e
   exact (I.hok c u e).stay (λb v hb q=>q) (λ_ q=>nu _ _ q) λ_ _ q=>nu _ _ q
theorem yT {M:Model}{A:Around}{E:Value->Shared->Prop}{i:Nat}{n:Str}{pos:Pos}{Q:Unit->Shared->Prop}(I:L2.Inv X pq σ H s) (hN:X.N.Nodup) (hi:X.N[i]? = some n) (hk:X.env.kindOf n=some .local)
  (h:∀s',L2.Inv X pq (σ.set i none) H s'->Q () s'):wpAny M A (do bindName X.env n .none;unbindBehindTheSuite X.env n pos) Q E s:=by
 obtain⟨m,hn,hl⟩:=id I.loc;have hcls:(X.env.scope.kind == .class||(X.env.scope.kind == .module&&X.env.locals != X.env.globals))=false:=by rw[I.ok.kind];rfl
 have hiσ:i<σ.length:=by rw[I.len];exact (Pc.mp hi).1
 refine wpAny_nameGoes_keeps hk hn hcls λh' v hn' hs=>?_
 obtain⟨oL,_,_,hoL,_⟩:=id hn;have ab:∀b o,X.s₀.heap.get? b=some o->b≠X.env.locals:=λb o e=>PX (Pu (Pg e) I.ok.above)
 have U:=I.base;refine h _ ⟨I.ok,I.os,I.bare,⟨λb o e n hb hx=>(hs.2 b (ab b o e)).trans (U.keep b o e n hb hx),λb o e n hb hx=>?_,U.free,λb o e hx=>?_,U.tups,U.frzs,U.tbls⟩,⟨_,hn',λj y v' e1 e2 e3=>?_⟩,λy c e=>?_,I.free,I.freeC,λp hp=>?_,λc o e=>?_,by simpa using I.len⟩
 ·obtain⟨sl,e1⟩:=U.slot b o e n hb hx
  exact⟨sl,(hs.2 b (ab b o e)).trans e1⟩
 ·obtain⟨o',e1⟩:=U.there b o e hx
  exact⟨o',(hs.2 b (ab b o e)).trans e1⟩
 ·by_cases hj:j=i
  ·subst hj
   rw[Pw hiσ] at e2;cases e2
  ·rw[Pk (Ne.symm hj)] at e2
   obtain⟨u',r',q⟩:=hl j y v' e1 e2 e3;refine⟨u',r',?_⟩;rcases q with ⟨k,e⟩ | ⟨k,c,e,z⟩
   ·refine .inl ⟨k,?_⟩
    have:y≠n:=λe=>hj (WE hN e1 (e▸hi))
    simp[this,e]
   ·exact .inr ⟨k,c,e,z.sameBut hs (I.cne y c e)⟩
 ·obtain⟨w',z⟩:=I.cell y c e
  exact⟨w',z.sameBut hs (I.cne y c e)⟩
 ·obtain⟨e,n,ne,nf,d⟩:=I.pin p hp
  exact⟨(hs.2 p.1 ne).trans e,n,ne,nf,d⟩
 ·refine (I.hok c o e).stay (λb u hb q=>(hs.2 b λz=>?_).trans q) (λ_ q=>q) λ_ _ q=>q
  subst z;rcases hb with rfl | hb
  ·rw[I.free] at e;cases e
  ·rw[I.free] at hb;cases hb
end
section
variable {X:Cx}{E:XK}{pq:List (Addr×Obj)}{σ:L2.St}{H:Hp}{s:Shared}
noncomputable abbrev Cx.held (X:Cx) (a:Addr):Cx:={ X with A:=X.A.mark (some (.ref a)),calm:=false,xe:=λ_ _=>False }
theorem Inv.held {a:Addr}(I:L2.Inv X pq σ H s):L2.Inv (Cx.held X a) pq σ H s:=
 ⟨⟨I.ok.mod,I.ok.kind,I.ok.glob,I.ok.blt,I.ok.above,I.ok.inj,I.ok.has,I.ok.cab,(λz=>by cases z),I.ok.frames,I.ok.stk,I.ok.exf,I.ok.bs,I.ok.bsz,I.ok.noex,I.ok.exfs,I.ok.funs,I.ok.frf⟩,I.os,I.bare,I.base,I.loc,I.cell,I.free,I.freeC,I.pin,I.hok,I.len⟩
theorem Inv.unheld {a:Addr}(ok:X.Ok) (I:L2.Inv (Cx.held X a) pq σ H s):L2.Inv X pq σ H s:=
 ⟨ok,I.os,I.bare,I.base,I.loc,I.cell,I.free,I.freeC,I.pin,I.hok,I.len⟩
theorem wV {M:Model}{A:Around}{E:Value->Shared->Prop}{i:Nat}{x:Str}{pos:Pos}{v:V}{Q:Value->Shared->Prop}(I:L2.Inv X pq σ H s) (hi:X.N[i]? = some x) (hv:Vis X.env.scope x) (e:σ[i]? = some (some v)) (h:∀u,Zs v u->Q u s)
  (hd:(x == ("__debug__" : Str))=false) (hcd:(x == ("__classdict__" : Str))=false):wpAny M A (eval (.Name x pos) X.env) Q E s:=by
 obtain⟨m,hn,hl⟩:=I.loc;obtain⟨u,r,l⟩:=hl i x v hi e hv;rcases l with ⟨hk,hm⟩ | ⟨hk,c,hc,hcell⟩
 ·exact wpAny_Name (wpAny_loadName_local I.ok.kind hk hn hm (h u r)) hd
 ·rcases hk with hk | hk
  ·exact wpAny_Name (wpAny_loadName_cell I.ok.kind hk hc hcell (h u r)) hd
  ·exact wpAny_Name (wpAny_loadName_free I.ok.kind hk hc hcell (h u r) hcd) hd
theorem xp {Dn:Ends}{E1:XK}{g S:Addr}{ic ie ir:Nat}{xc n xr xS:Str}{p1 p2 p3 p4 p5 p6 p7 p8 p9:Pos}(D:DefX X E) (I:L2.Inv X pq σ H s) (hN:X.N.Nodup)
  (hic:X.N[ic]? = some xc) (hvc:Vis X.env.scope xc) (hsc:σ[ic]? = some (some (.ref g))) (hie:X.N[ie]? = some n) (hke:X.env.scope.names.lookup n=some .local) (hir:X.N[ir]? = some xr) (hlr:X.env.scope.names.lookup xr=some .local)
  (hgS:Gl X xS) (hmS:X.mg xS=some (.ref S)) (hg:PySem.W.FnAt g s.heap)
  (run:codeAny (model X.prog X.w) X.A (.call (.ref g) ⟨[],[]⟩) (CR (CX1 X.prog X.w) X.stack X.prog X.w H s (λ_ H'=>Dn.nx σ H') E1) s)
  (hE1:∀C H',E1 (.ref C) none H'->PySem.W.exmOne X.K (.ref C) (.ref S)=some true/\∀a oe,H' a=none->oe.cls=.ref C->Dn.nx (((σ.set ie (some (.ref a))).set ir (some (.ref a))).set ie none) (upd H' a (.frz oe (.own a))))
  (hd1:(xc == ("__debug__" : Str))=false) (hd2:(xc == ("__classdict__" : Str))=false) (hd3:(n == ("__debug__" : Str))=false) (hd4:(n == ("__classdict__" : Str))=false) (hd5:(xS == ("__debug__" : Str))=false)
  (hs1:swapsWith (.Call (.Name xc p1) [] [] p2) none p3.line X.env=pure false) (hs2:swapsWith (.Name n p6) (some (.Name xr p5)) p7.line X.env=pure false) :
  wpAny (model X.prog X.w) X.A (exec (.Try [.Expr (.Call (.Name xc p1) [] [] p2) p3] [.ExceptHandler (some (.Name xS p4)) (some n) [.Assign [.Name xr p5] (.Name n p6) p7] p8] [] [] p9) X.env) (SP X pq Dn) X.xe s:=by
 refine wpAny_Try_except (wpAny_execs_cons (wpAny_Expr_any ?_ I.quiet hs1));refine Nz ?_;refine wV I hic hvc hsc (λu r=>?_) hd1 hd2
 obtain rfl:u=Value.ref g:=r;refine PySem.W.callWith_F0 hg (wpAny_call (codeAny_mono run λr s' hq=>?_))
 cases r with
 |ok fl=>
  cases fl with
  |ret u=>
   obtain⟨v,H',I',r',q'⟩:=I.after hq;exact wpAny_execs_nil (wpAny_execs_nil ⟨σ,H',I',q'⟩)
  |next=>exact False.elim hq
  |brk=>exact False.elim hq
  |cont=>exact False.elim hq
 |error e=>
  obtain⟨a,T,C,H',rfl,os,bare,un,hok,fly,na,nT,Ha,HT,hE⟩:=hq;obtain⟨exm,fin⟩:=hE1 C H' hE;have nx:∀b:Addr,b∉([]:List Addr):=λb=>by simp
  have hfr:X.A.frames=some (X.env::X.outer):=by rw[<-D.st];exact I.ok.frames
  have I1:L2.Inv X pq σ H' s':=by
   obtain⟨hh,gg,d,t,os'⟩:=s';obtain rfl:os'=s.os:=os;exact I.call (h':=hh) (g':=gg) (d':=d) (t':=t) (ch:=[]) un hok bare (λb z=>absurd z (by simp))
  let hid:=frs X.stack++[a,T]
  have hin:∀b∈frs X.stack,b∈hid:=λb hb=>NC _ hb
  have old0:∀b,s.heap.get? b=none->X.s₀.heap.get? b=none:=λb e=>by
   cases q:X.s₀.heap.get? b with
   |none=>rfl
   |some o=>
    have U1:=I.base;rw[D.ex] at U1;obtain⟨o1,e1⟩:=U1.there b o q (nx b);rw[e] at e1;cases e1
  have pn:∀b,s.heap.get? b=none->∀p∈X.pn++pq,p.1≠b:=λb e p hp z=>by
   have:=(I.pin p hp).1;rw[z,e] at this;cases this
  have hhid:∀b∈hid,b∈frs X.stack\/(X.s₀.heap.get? b=none/\H' b=none/\∀p∈X.pn++pq,p.1≠b):=λb hb=>by
   rcases NK.mp hb with z | z
   ·exact .inl z
   ·rcases Pr.mp z with rfl | z
    ·exact .inr ⟨old0 _ na,Ha,pn _ na⟩
    ·rw[Na.mp z];exact .inr ⟨old0 _ nT,HT,pn _ nT⟩
  have FF:s'.heap.FunFrames (PySem.W.hideAll s'.heap hid) (X.env::X.outer):=by
   rw[<-D.st];exact FunFrames.rebase I1.stack (λb hb o e=>⟨o.slots,e⟩) λb hb=>PySem.W.hideAll_none _ (hin b hb)
  obtain⟨oe,vs,a0,oT,ts,f1,f2,f3,f4,f5,f6,f7,f8⟩:=fly;refine wpAny_looks_onW (base:=PySem.W.hideAll s'.heap hid) hfr D.fr (cls:=.ref C) (a0:=a0) (e:=a) ⟨λb o e=>PySem.W.of_hideAll _ e,PySem.W.hideAll_none _ (PD _ (Pq ..)),FF,oe,vs,T,oT,ts,f1,f2,f3,f4,PySem.W.hideAll_none _ (PD _ (Pn _ (Pq ..))),f5,f6,f7,f8⟩ λh1 held up1=>?_
  refine wpAny_landsW held λh2 fly2 up2=>?_
  have I2:L2.Inv X pq σ H' { s' with heap:=h2 }:=Inv.slots D I1 hhid fly2.1 (up1.trans up2)
  obtain⟨oe2,ge2,ce2⟩:=fly2.there;have K2:=I2.kIn;refine wpAny_handleBy_cons (codeAny_handlers_test (Xp (X:=Cx.held X a) (Inv.held I2) hgS hmS ?_ hd5)) (by intro q;cases q)
  refine (PySem.W.exm_one (M:=model X.prog X.w) (h:=h2) K2 (ce2▸(PySem.W.Looks.ld ge2).andThen .now) exm).here ?_;show codeAny _ _ _ _ _;refine codeAny_handlers_suite_as ?_;obtain⟨k1,k2,k3,k4⟩:=fly2;refine wpAny_setFlight_noneW k1 k3 k4 λh3 m1 m2 m3 m4=>?_
  have I3:L2.Inv X pq σ H' { s' with heap:=h3 }:=Inv.slots D I1 hhid m1 ((up1.trans up2).trans λb o e hn=>⟨o.slots,m4 b o e hn⟩)
  obtain⟨oe3,vs3,T3,oT3,ts3,ge3,⟨ce3,_⟩,de3,_⟩:=m3;have I4:L2.Inv X pq σ (upd H' a (.frz oe3 (.own a))) { s' with heap:=h3 }:=Inv.freeze I3 ge3 Ha (old0 _ na)
   (λz=>by
    obtain⟨m,⟨o,es,ep,ho,hd,_⟩,_⟩:=I3.loc;have e1:h3.get? X.env.locals=some o:=ho;rw[<-z,ge3] at e1;cases e1;rw[de3] at hd;cases hd)
   (λx c e z=>by
    obtain⟨v,o,ho,hd⟩:=I3.cell x c e;have e1:h3.get? c=some o:=ho;rw[z,ge3] at e1;cases e1;rw[de3] at hd;cases hd) (pn _ na)
  refine XD (X:=X) I4 hN hie (.inl hke) (v:=.ref a) rfl (λs4 I5=>?_) (.inr hke)
  have hiσ:ie<σ.length:=by rw[I.len];exact (Pc.mp hie).1
  refine Ni ((Wi (Wk (X:=Cx.held X a) (pos:=p7) (pos':=p5) hN hir (.inl hlr) (YI (pos:=p6) hie (.inl hke) hd3 hd4) hs2 (.inr hlr))) pq s4 _ _
   { nx:=λσ' H1=>σ'=(σ.set ie (some (.ref a))).set ir (some (.ref a))/\H1=upd H' a (.frz oe3 (.own a)),rt:=λ_ _=>False } (Inv.held I5) ⟨.ref a,Pw hiσ,rfl,rfl⟩) (λf s5 hsp=>?_) λ_ _ z=>False.elim z
  cases f with
  |next=>
   obtain⟨σ',H1,J,rfl,rfl⟩:=hsp;exact yT (Inv.unheld I.ok J) hN hie hke λs6 I6=>⟨_,_,I6,fin a oe3 Ha ce3⟩
  |ret u=>obtain⟨_,_,_,_,_,z⟩:=hsp;exact z.elim
  |brk=>obtain⟨_,_,_,z⟩:=hsp;exact False.elim z
  |cont=>obtain⟨_,_,_,z⟩:=hsp;exact False.elim z
end
end Sd
namespace Sd
open PySem PySem.Spec PyProof.Rows L2
open Ev (D Ob Za Lc R Sm Calls Walk Fl Fn Bop Cop Ty Bf Mf ev evs evo evt evw tst run runs)
structure Gr (H H':Hp):Prop where
 k:∀b u,H b=some u->(∀ps,u≠.tbl ps)->H' b=some u
theorem Gr.fut {ρ:List Addr}{H H':Hp}(g:Gr H H'):Fut ρ H ρ H':=⟨⟨[],by simp⟩,λa xs e=>g.k a _ e λps z=>by cases z⟩
theorem St3.grow {K:PySem.W.Frag}{ρ:List Addr}{S:Za}{H H':Hp}(st:St3 K ρ S H) (g:Gr H H') (tb:Tb H'):St3 K ρ S H':=
 ⟨st.len,st.nd,λn ob a h1 h2=>by
  have r:=st.ob n ob a h1 h2;have f:=g.fut (ρ:=ρ);cases ob with
  |lst ds=>obtain⟨xs,e,r⟩:=r;exact⟨xs,g.k _ _ e (λps z=>by cases z),r.mono f⟩
  |scr ns=>
   rcases r with ⟨o,e⟩ | h
   ·exact .inl ⟨o,g.k _ _ e λps z=>by cases z⟩
   ·exact .inr h
  |dt kvs=>obtain⟨vs,e,r⟩:=r;exact⟨vs,g.k _ _ e (λps z=>by cases z),Paired.map2 r λp q z=>⟨z.1,z.2.mono f⟩⟩
  |dk kvs=>obtain⟨vs,e,r⟩:=r;exact⟨vs,g.k _ _ e (λps z=>by cases z),Paired.map2 r λp q z=>⟨z.1,z.2.mono f⟩⟩
  |st _=>exact r,tb⟩
theorem Qt {q:Pos}{a b:Int}{c cv:Value}(l:List Value) (h:TriplesOk l) (e:codeAmong q (l++[rawInt a,rawInt b,c])=some cv):codeAmong q l=some cv\/cv=c:=by
 fun_induction TriplesOk l with
 |case1=>
  simp only[List.nil_append,codeAmong,rawInt] at e;split at e
  ·cases e;exact .inr rfl
  ·cases e
 |case2 a' t b' u x rest ih=>
  simp only[List.cons_append,codeAmong] at e ⊢;split at e
  ·rename_i z;rw[Pj z];exact .inl e
  ·rename_i z;rw[Pm z];exact ih h e
 |case3 l h1 h2=>exact h.elim
section
variable {X:Cx}{E:Value->Shared->Prop}{pq:List (Addr×Obj)}{σ:L2.St}{H:Hp}{s:Shared}
theorem Inv.grow (I:L2.Inv X pq σ H s) {h':Heap}{tk:Tok}{P:Addr}{ps more:Array Value}(hP:H P=some (.tbl ps)) (hx:Heap.ExtBut P s.heap h') (hT:h'.get? P=some { cls:=.none,data:=.fields (ps++more) }) {new:List (Addr×Obj)}
  (hn:∀p∈new,s.heap.objs.size<=p.1/\h'.get? p.1=some p.2) (nd:(new.map (·.1)).Nodup) :
  let H':=new.foldl (λG p=>upd G p.1 (.frz p.2 (.own p.1))) (upd H P (.tbl (ps++more)))
  L2.Inv X pq σ H' { s with heap:=h',toks:=tk }/\Gr H H'/\(∀p∈new,H' p.1=some (.frz p.2 (.own p.1)))/\H' P=some (.tbl (ps++more))/\∀b qs,H' b=some (.tbl qs)->(b=P/\qs=ps++more)\/H b=some (.tbl qs):=by
 intro H';have hPs:P<s.heap.objs.size:=ZF.lt (I.hok P _ hP);have H0:∀b,(∀p∈new,p.1≠b)->H' b=upd H P (.tbl (ps++more)) b:=by
  have gen:∀(l:List (Addr×Obj)) (G:Hp) (b:Addr),(∀p∈l,p.1≠b)->l.foldl (λG p=>upd G p.1 (.frz p.2 (.own p.1))) G b=G b:=by
   intro l
   induction l with
   |nil=>intro G b _;rfl
   |cons p l ih=>
    intro G b h;rw[List.foldl_cons,ih _ b λq hq=>h q (Pn _ hq),Ze (Ne.symm (h p (Pq ..)))]
  exact λb h=>gen new _ b h
 have H1:∀p∈new,H' p.1=some (.frz p.2 (.own p.1)):=by
  have gen:∀(l:List (Addr×Obj)) (G:Hp),(l.map (·.1)).Nodup->∀p∈l,l.foldl (λG p=>upd G p.1 (.frz p.2 (.own p.1))) G p.1=some (.frz p.2 (.own p.1)):=by
   intro l
   induction l with
   |nil=>intro G _ p hp;simp at hp
   |cons q l ih=>
    intro G hd p hp;rw[P1,Nu] at hd;rw[List.foldl_cons];rcases Pr.mp hp with rfl | hp
    ·have rest:∀(l:List (Addr×Obj)) (G:Hp) (b:Addr),b∉l.map (·.1)->l.foldl (λG p=>upd G p.1 (.frz p.2 (.own p.1))) G b=G b:=by
      intro l
      induction l with
      |nil=>intro G b _;rfl
      |cons p l ih=>
       intro G b h;rw[P1,Pr,not_or] at h;rw[List.foldl_cons,ih _ b h.2,Ze h.1]
     rw[rest l _ _ hd.1,Zi]
    ·exact ih _ hd.2 p hp
  exact gen new _ nd
 have new0:∀b,b<s.heap.objs.size->∀p∈new,p.1≠b:=λb hb p hp z=>by have q:=(hn p hp).1;rw[z] at q;omega
 have old:∀b u,H b=some u->b≠P->H' b=some u:=λb u e z=>by
  rw[H0 b (new0 b (ZF.lt (I.hok b u e))),Ze z];exact e
 have HP:H' P=some (.tbl (ps++more)):=by rw[H0 P (new0 P hPs),Zi]
 have cases':∀b u,H' b=some u->(∃p∈new,p.1=b/\u=.frz p.2 (.own p.1))\/(b=P/\u=.tbl (ps++more))\/(b≠P/\H b=some u):=λb u e=>by
  by_cases q:∃p∈new,p.1=b
  ·obtain⟨p,hp,rfl⟩:=q
   rw[H1 p hp] at e;cases e;exact .inl ⟨p,hp,rfl,rfl⟩
  ·rw[H0 b λp hp z=>q ⟨p,hp,z⟩] at e
   by_cases z:b=P
   ·subst z;rw[Zi] at e;cases e;exact .inr (.inl ⟨rfl,rfl⟩)
   ·rw[Ze z] at e;exact .inr (.inr ⟨z,e⟩)
 have gr:Gr H H':=⟨λb u e n=>old b u e λz=>by rw[z,hP] at e;cases e;exact n ps rfl⟩
 refine⟨I.un ⟨λb o e n _ _=>hx b o (λz=>by rw[z,hP] at n;cases n) e,λb o e n _ _=>⟨o.slots,hx b o (λz=>by rw[z,hP] at n;cases n) e⟩,λb o e n _=>?_,λb o e _=>?_,λb xs e=>gr.k b _ e (λps z=>by cases z),λb o u e=>gr.k b _ e (λps z=>by cases z),λb qs e=>?_⟩ λb u e=>?_,gr,H1,HP,λb qs e=>?_⟩
 ·rw[H0 b (new0 b (Pg e)),Ze (λz=>by rw[z,hP] at n;cases n)];exact n
 ·by_cases z:b=P
  ·subst z;exact⟨_,hT⟩
  ·exact⟨o,hx b o z e⟩
 ·by_cases z:b=P
  ·subst z;rw[hP] at e;cases e;exact⟨more,HP⟩
  ·exact⟨#[],by rw[old b _ e z];simp⟩
 ·rcases cases' b u e with ⟨p,hp,rfl,rfl⟩ | ⟨rfl,rfl⟩ | ⟨z,e0⟩
  ·exact⟨(hn p hp).2,_,(hn p hp).2⟩
  ·exact hT
  ·refine (I.hok b u e0).stay (λc v hc q=>hx c v ?_ q) (λc q=>gr.k c _ q λps z=>by cases z) λc xs q=>gr.k c _ q λps z=>by cases z
   rcases hc with rfl | hc
   ·exact z
   ·intro y;rw[y,hP] at hc;cases hc
 ·rcases cases' b _ e with ⟨p,hp,rfl,z⟩ | ⟨rfl,z⟩ | ⟨z,e0⟩
  ·cases z
  ·cases z;exact .inl ⟨rfl,rfl⟩
  ·exact .inr e0
theorem Tb.grow {H H':Hp}{P:Addr}{qs:Array Value}(tb:Tb H) (g:Gr H H') (hb:∀b rs,H' b=some (.tbl rs)->(b=P/\rs=qs)\/H b=some (.tbl rs)) (ht:TriplesOk qs.toList)
  (hc:∀pos cv,codeAmong pos qs.toList=some cv->∃(c:Addr) (oc:Obj) (vs:Array Value) (t:Tok),cv=.ref c/\H' c=some (.frz oc (.own c))/\oc.data=.fields vs/\vs[1]? = some (.str Yc t)):Tb H':=λb rs e=>by
 rcases hb b rs e with ⟨_,rfl⟩ | e0
 ·exact⟨ht,hc⟩
 ·obtain⟨h1,h2⟩:=tb b rs e0
  refine⟨h1,λpos cv q=>?_⟩
  obtain⟨c,oc,vs,t,e1,e2,e3⟩:=h2 pos cv q;exact⟨c,oc,vs,t,e1,g.k c _ e2 (λps z=>by cases z),e3⟩
theorem G5 {P c:Addr}{ps:Array Value}{params:Arguments}{body:Expr}{scope:Scope}{pos:Pos}{clos:List (Str×Addr)}{Q:Value->Shared->Prop}(I:L2.Inv X pq σ H s) (tb:Tb H) (hP:H P=some (.tbl ps)) (hcode:X.env.code=.ref c) (C:PySem.W.CodeHd X.base c P) (hB:X.base.BuiltinsAt X.mg P) (hgP:mainGlobals≠P)
  (hq:X.env.qual++"<lambda>" = Yc) (hcl:closureFor scope X.env=pure clos) (hdef:defaultsOf params X.env=([],[]))
  (h:∀(g c':Addr) (oc:Obj) (vs:Array Value) (t:Tok) (pm ctv:Value) (H':Hp) (s':Shared),L2.Inv X pq σ H' s'->Gr H H'->Tb H'->(∃ps',H' P=some (.tbl ps'))->H' g=some (.frz (PySem.W.kla_obj "<lambda>" Yc params body scope clos pm c' ctv) (.own g))->
   H' c'=some (.frz oc (.own c'))->oc.data=.fields vs->vs[1]? = some (.str Yc t)->Q (.ref g) s') :
  wpAny (model X.prog X.w) X.A (eval (.Lambda params body scope pos) X.env) Q E s:=by
 refine PySem.W.kla_eval hdef ?_;rw[hq];have hPo:s.heap.get? P=some (PySem.W.tabObj ps):=I.hok P _ hP;obtain⟨ht,hcs⟩:=tb P ps hP;have hg:=I.ok.mod.glob.keeps I.bk;have hBs:s.heap.BuiltinsAt X.mg P:=by
  obtain⟨bm,o,b1,b2,b3,b4,b5,b6⟩:=hB;exact⟨bm,o,b1,b2,b3,b4,I.bk _ _ b5,b6⟩
 cases q:codeAmong pos ps.toList with
 |some cv=>
  obtain⟨c',oc,vs,t,rfl,e2,e3,e4⟩:=hcs pos cv q;refine PySem.W.kla_makeFunctionHit hcl I.ok.glob hg hcode (C.keeps I.bk) hPo ht q hBs λctv h' tk hk hz=>?_
  have kp:∀b o,s.heap.get? b=some o->(h'.push (PySem.W.kla_obj "<lambda>" Yc params body scope clos ((X.mg "__name__").getD .none) c' ctv)).get? b=some o:=λb o e=>Pe _ (hk b o e)
  obtain⟨I',gr,n1,hP',tbs⟩:=Inv.grow (tk:=tk) (more:=#[]) I hP (λb o _ e=>kp b o e) (by rw[Array.append_empty];exact kp _ _ hPo)
   (new:=[(h'.objs.size,PySem.W.kla_obj "<lambda>" Yc params body scope clos ((X.mg "__name__").getD .none) c' ctv)]) (λp hp=>by
    rw[Na.mp hp];exact⟨hz,Ps _ rfl⟩) (by simp)
  refine h _ c' oc vs t _ ctv _ _ I' gr (tb.grow gr tbs (by rw[Array.append_empty];exact ht) λpos' cv' q'=>?_) ⟨_,hP'⟩ (n1 _ (Pq ..)) (gr.k _ _ e2 λps z=>by cases z) e3 e4
  rw[Array.append_empty] at q';obtain⟨c2,oc2,vs2,t2,f1,f2,f3⟩:=hcs pos' cv' q';exact⟨c2,oc2,vs2,t2,f1,gr.k _ _ f2 (λps z=>by cases z),f3⟩
 |none=>
  refine PySem.W.kla_makeFunction hcl I.ok.glob hg hcode (C.keeps I.bk) hPo ht q hgP hBs λc' ctv h' tk hx hge hlt hrec htb=>?_
  obtain⟨c2,oc,vs,t,e2,hoc,hd,hv⟩:=hrec;cases e2;have kp:Heap.ExtBut P s.heap (h'.push (PySem.W.kla_obj "<lambda>" Yc params body scope clos ((X.mg "__name__").getD .none) c' ctv)):=λb o hb e=>Pe _ (hx b o hb e)
  have hsz:s.heap.objs.size<=h'.objs.size:=PY hge (Nat.le_of_lt hlt);obtain⟨I',gr,n1,hP',tbs⟩:=Inv.grow (tk:=tk) (more:=#[rawInt pos.line,rawInt pos.col,.ref c']) I hP kp (Pe _ htb)
   (new:=[(c',oc),(h'.objs.size,PySem.W.kla_obj "<lambda>" Yc params body scope clos ((X.mg "__name__").getD .none) c' ctv)]) (λp hp=>by
    rcases Pr.mp hp with rfl | hp
    ·exact⟨hge,Pe _ hoc⟩
    ·rw[Na.mp hp];exact⟨hsz,Ps _ rfl⟩) (Nu.mpr ⟨λz=>absurd (Na.mp z) (PX hlt),Nu.mpr ⟨by simp,List.nodup_nil⟩⟩)
  refine h _ c' oc vs t _ ctv _ _ I' gr (tb.grow gr tbs (by rw[Array.toList_append];exact TriplesOk_snoc _ _ _ _ ht) λpos' cv' q'=>?_) ⟨_,hP'⟩ (n1 _ (Pn _ (Pq ..))) (n1 _ (Pq ..)) hd hv
  rw[Array.toList_append] at q';rcases Qt _ ht q' with z | rfl
  ·obtain⟨c2,oc2,vs2,t2,f1,f2,f3⟩:=hcs pos' cv' z
   exact⟨c2,oc2,vs2,t2,f1,gr.k _ _ f2 (λps z=>by cases z),f3⟩
  ·exact⟨c',oc,vs,t,rfl,n1 _ (Pq ..),hd,hv⟩
end
end Sd
namespace Sd
open PySem PySem.Spec PyProof.Rows L2
noncomputable def cxL (P:Program) (w:World) (K:PySem.W.Frag) (mg:Str->Option Value) (base:Heap) (N:List Str) (scope:Scope) (g:Addr) (cd:Value) (clos:List (Str×Addr)) (A:Around) (outer:List Env) (s:Shared) (H:Hp) (E:XK):Cx where
 prog:=P
 w:=w
 K:=K
 mg:=mg
 base:=base
 A:=A.deeper (PySem.W.envX Yc scope s.heap.objs.size g cd clos)
 N:=N
 s₀:=s
 H₀:=H
 env:=PySem.W.envX Yc scope s.heap.objs.size g cd clos
 outer:=outer
 stack:=PySem.W.envX Yc scope s.heap.objs.size g cd clos::outer
 ex:=[]
 calm:=true
 fn:=λ_=>false
 pn:=[]
 xe:=λe s'=>wpAny (model P w) (A.deeper (PySem.W.envX Yc scope s.heap.objs.size g cd clos)) (leaving (PySem.W.envX Yc scope s.heap.objs.size g cd clos) e) (λ_ s''=>CX1 P w outer H s E e s'') (λe' s''=>CX1 P w outer H s E e' s'') s'
section
variable {P:Program}{w:World}{K:PySem.W.Frag}{mg:Str->Option Value}{base:Heap}{N:List Str}{scope:Scope}{g c':Addr}{clos:List (Str×Addr)}{A:Around}{outer:List Env}{s:Shared}{H:Hp}{E:XK}
theorem qd {cd:Value}:DefX (cxL P w K mg base N scope g cd clos A outer s H E) E:=⟨rfl,rfl,rfl,rfl⟩
structure LamS (scope:Scope) (clos:List (Str×Addr)):Prop where
 kind:scope.kind=.function
 co:scope.isCoroutine=false
 gen:scope.isGenerator=false
 nc:∀x∈scope.names,x.2≠.cell
 vis:∀x,Vis scope x->scope.names.lookup x=some .free
 has:∀x,scope.names.lookup x=some .free->∃c,clos.lookup x=some c
 inj:∀x y c,clos.lookup x=some c->clos.lookup y=some c->x=y
theorem zB {k:Nat}{params:Arguments}{body:Expr}{pm ctv:Value}{σ:L2.St}{t:TE}{Q:VK}(hr:Room (k+1) A) (e0:Env0 P w K mg base A outer s H) (L:LamS scope clos)
  (hg:s.heap.get? g=some (PySem.W.kla_obj "<lambda>" Yc params body scope clos pm c' ctv)) (hcd:s.heap.CodeRec (.ref c') Yc) (hbind:bindArgs (PySem.W.kla_fn "<lambda>" Yc params body scope clos pm (.ref c') ctv) ⟨[],[]⟩=pure [])
  (hcell:∀x c,clos.lookup x=some c->(∃v,s.heap.IsCell c v)/\H c=none) (hlen:σ.length=N.length)
  (hval:∀(i:Nat) (x:Str) (v:V),N[i]? = some x->σ[i]? = some (some v)->scope.names.lookup x=some .free->∃u c,Zs v u/\clos.lookup x=some c/\s.heap.IsCell c (some u))
  (hb:PE (cxL P w K mg base N scope g (.ref c') clos A outer s H E) body t) (ht:t σ H Q) :
  codeAny (model P w) A (.call (.ref g) ⟨[],[]⟩) (CR (CX1 P w) outer P w H s Q E) s:=by
 have lim:s.heap.NoLimit:=e0.mod.nolimit.keeps λb o e=>(e0.bs b o e).1
 refine PySem.W.kla_callFunE hr.depth hg rfl L.co L.gen rfl hcd ?_;rw[hbind];refine PM (wpAny_newFunctionEnv L.nc (λx hx=>by simp at hx) (λh1 hns hsb=>?_) L.kind)
 have hk1:∀b o,s.heap.get? b=some o->h1.get? b=some o:=λb o e=>hsb.extBut b o (PX (Pg e)) (Pe _ e)
 refine⟨lim.keeps hk1,?_⟩;show codeAny _ _ (.expr body (PySem.W.envX Yc scope s.heap.objs.size g (.ref c') clos)) _ _;have noA:∀b:Addr,b∉(cxL P w K mg base N scope g (.ref c') clos A outer s H E).ex:=λb z=>absurd (show b∈([]:List Addr) from z) (by simp)
 have I:L2.Inv (cxL P w K mg base N scope g (.ref c') clos A outer s H E) [] σ H { s with heap:=h1,toks:=s.toks+([]:List (Str×Value)).length }:=by
  refine⟨⟨e0.mod,L.kind,rfl,rfl,Po _,L.inj,λx hx=>?_,λx c z=>(by cases z),λ_=>hr.hd,Around.frames_deeper e0.frames,.inr ⟨rfl,rfl⟩,λb z=>absurd z (noA b),e0.bs,e0.bsz,λb _ _=>noA b,λb z=>absurd z (noA b),e0.funs,e0.frf⟩,
   rfl,e0.bare,Un.kept hk1,⟨_,hns,λi x v e1 e2 e3=>?_⟩,λx c e=>?_,e0.hok.fresh (Po _),λx c e=>(hcell x c e).2,λp hp=>absurd (show p∈([]:List (Addr×Obj)) from hp) (by simp),e0.hok.kept hk1,hlen⟩
  ·have hx:scope.names.lookup x=some .cell\/scope.names.lookup x=some .free:=hx
   rcases hx with z | z
   ·exact absurd rfl (L.nc _ (P7 z))
   ·exact L.has x z
  ·have fr:=L.vis x e3
   obtain⟨u,c,r,e,z⟩:=hval i x v e1 e2 fr;refine⟨u,r,.inr ⟨.inr fr,c,e,?_⟩⟩;obtain⟨o,ho,hd⟩:=z;exact⟨o,hk1 _ _ ho,hd⟩
  ·obtain⟨⟨v,o,ho,hd⟩,_⟩:=hcell x c e
   exact⟨v,o,hk1 _ _ ho,hd⟩
 exact PySem.W.kla_codeExpr (Ni (hb [] _ σ H Q I ht) (λu s' ⟨v,H',J,r,q⟩=>⟨v,H',J.os,J.bare,J.base,J.hok,r,q⟩) λ_ _ y=>y)
end
section
variable {X:Cx}
noncomputable def vS (K:PySem.W.Frag):List V->Hp->VK->Prop:=λvs H Q=>∃a oe C Dv u b,vs=[.ref a,Dv]/\Zs Dv u/\(∀u',Zs Dv u'->u'=u)/\H a=some (.frz oe (.own a))/\oe.cls=.ref C/\ExK K C/\PySem.W.kitOne K (.ref C) u=some b/\Q (.bl b) H
theorem Uj:ZL X (.builtin "isinstance") (vS X.K):=by
 intro pq s σ H xs us Q I r h;obtain⟨a,oe,C,Dv,u,b,rfl,ru,uq,Ha,ce,k,e,q⟩:=h;cases r with
 |cons ra r=>
  cases r with
  |cons rD r=>
   cases r;cases ra;obtain rfl:=uq _ rD;obtain⟨ge,_⟩:=I.hok a _ Ha;exact P4 (zy k) I.kIn ⟨oe,ge,ce⟩ e (by intro q;cases q) λtk=>⟨.bl b,H,I.tok tk,rfl,q⟩
noncomputable def JA:V->List V->Hp->VK->Prop:=λx vs H Q=>∃(l:Addr) (bs:List Bool) (j:Nat),x=.ref l/\vs=[.bl true]/\H l=some (.lst (bs.map .bl))/\bs[j]? = some true/\(∀m,m<j->bs[m]? = some false)/\Q (.int j) H
theorem Jn:∀{bs:List Bool}{us:List Value},Vals (bs.map V.bl) us->us=bs.map Value.bool
 |[],_,.nil=>rfl
 |b::bs,_,.cons r t=>by cases r;rw[Jn t];rfl
theorem zf:MtM X "list.index" JA:=by
 intro pq s σ H x vs v us Q I rx rv h;obtain⟨l,bs,j,rfl,rfl,hH,hj,hno,q⟩:=h;cases rx;obtain⟨u,rfl,ru⟩:=rv.one;cases ru;obtain⟨z,its,n,r,hl,e⟩:=I.lstM hH;obtain rfl:=Jn r;have hjl:j<bs.length:=(Pc.mp hj).1;have hsz:(bs.map Value.bool).toArray.size=bs.length:=by simp
 have get:∀m (hm:m<(bs.map Value.bool).toArray.size),(bs.map Value.bool).toArray[m]=Value.bool (bs[m]'(by rw[hsz] at hm;exact hm)):=λm hm=>by simp
 refine NM F.slot_list_index ⟨_,e,rfl⟩ F.entry_list_index (F.args_list_index_2 _ _) (PySem.SeqAt.list_indexAt l (bs.map Value.bool).toArray n none #[] (.bool true) (λy=>y == .bool true) j (by rw[hsz];exact hjl) (by
  rw[PV] at z;have:sizeLine=16777216:=rfl;omega) (by rw[get];rw[(Pc.mp hj).2];rfl) λm hm hmj=>by
   rw[get];have:=Pc.mp (hno m hmj);rw[this.2];rfl) ⟨e,λy hy=>?_,?_⟩
 ·obtain⟨b,_,rfl⟩:=List.mem_map.mp (List.mem_toArray.mp hy)
  cases b
  ·exact PySem.SeqAt.EqAt.bool_bool false true
  ·exact PySem.SeqAt.EqAt.bool_bool true true
 ·exact⟨.int j,H,I.tok _,⟨_,rfl⟩,q⟩
end
theorem uE {CX:CXT}{P:Program}{w:World}{K:PySem.W.Frag}{mg:Str->Option Value}{base:Heap}{k:Nat}{f:Addr}{x qual:Str}{st:Stmt}{fd:FuncData}{N ps:List Str}{A:Around}{outer:List Env}{s:Shared}{H:Hp}{args:Args}{us:List Value}{vs:List V}{Q:VK}{E:XK}
  (Fu:Fun K x qual st f fd) (S:FnScope N ps (Zb st)) (hr:Room (k+1) A) (e0:Env0 P w K mg base A outer s H) (hb:BindsTo s fd args (ps.zip us)) (r:Vals vs us) (hl:vs.length=ps.length)
  (hbody:∀(cdv:Value) (s1:Shared),Room k (A.deeper (envOfC qual (Zb st) s.heap.objs.size f cdv))->L2.Inv (YU CX P w K mg base N qual (Zb st) f cdv A outer s H E) [] (start N vs) H s1->
   wpAny (model P w) (A.deeper (envOfC qual (Zb st) s.heap.objs.size f cdv)) (execs (Zj st) (envOfC qual (Zb st) s.heap.objs.size f cdv)) (SP (YU CX P w K mg base N qual (Zb st) f cdv A outer s H E) [] { nx:=λ_ H'=>Q .non H',rt:=Q }) (YU CX P w K mg base N qual (Zb st) f cdv A outer s H E).xe s1) :
  codeAny (model P w) A (.call (.ref f) args) (CR CX outer P w H s Q E) s:=by
 obtain⟨oc,od,kV,doc,pm,an,cdv,ct,osl,rfl,lk,hcd⟩:=Fu.ex;have KX:K.In s.heap:=e0.mod.kin.keeps λb o e=>(e0.bs b o e).1
 have lim:s.heap.NoLimit:=e0.mod.nolimit.keeps λb o e=>(e0.bs b o e).1
 have hkind:∀y∈ps.zip us,(Zb st).names.lookup y.1=some .local\/((Zb st).names.lookup y.1=some .cell/\((cellsFrom (s.heap.objs.size+1) (Zb st).names []).lookup y.1).isSome=true):=λ⟨n,v⟩ hy=>by
  rcases S.par n (N2 hy).1 with q | q
  ·exact .inl q
  ·exact .inr ⟨q,PySem.W.cellsFrom_some _ _ _ (.inl q)⟩
 refine codeAny_call_function hr.depth (KX _ _ lk) rfl S.co S.gen rfl (PySem.W.codeRec_of KX hcd) (hb _ _ _ _ ?_);refine wpAny_newFunctionEnv_cells S.kind hkind λenv he s1 x=>?_
 subst he;refine⟨lim.keeps x.toInCall.keep,codeAny_func ?_⟩;have I:=Vm (CX:=CX) (E:=E) (cd:=cdv) (f:=f) (qual:=qual) S hr.hd e0 hl r x;refine Ni (hbody cdv s1 (hr.deeper _) I) (λfl s' hs=>?_) λe s' hs=>hs
 cases fl with
 |ret u=>
  obtain⟨v,σ',H',J,rv,q⟩:=hs;exact⟨v,H',J.os,J.bare,J.base,J.hok,rv,q⟩
 |next=>
  obtain⟨σ',H',J,q⟩:=hs;exact⟨.non,H',J.os,J.bare,J.base,J.hok,rfl,q⟩
 |brk=>
  obtain⟨_,_,_,q⟩:=hs;exact False.elim q
 |cont=>
  obtain⟨_,_,_,q⟩:=hs;exact False.elim q
def Jq (Pt:Addr) (H:Hp):Prop:=H Pt=some (.tbl #[])/\∀b,b≠Pt->H b=none\/∃o xs,H b=some (.frz o (.lst xs))
theorem Gh {P:Program}{w:World}{K:PySem.W.Frag}{mg mb:Str->Option Value}{CX:CXT}{k:Nat}{fa a c Pt:Addr}{fd:FuncData}{x:Str}{sp:Sp}{s₁:Shared}{vs:List Value}{ns:List Int}
  (KX:K.In s₁.heap) (hns:s₁.heap.Ns mainGlobals mg) (hb:s₁.heap.Ns builtinsNs mb) (hbb:∀x:Str,x≠"__name__"->mb x=bootBuiltins x) (hlim:s₁.heap.NoLimit) (hg:s₁.gens = #[])
  (hC:PySem.W.CodeHd s₁.heap c Pt) (hPt:s₁.heap.get? Pt=some (PySem.W.tabObj #[])) (hK:PySem.W.noTabs K=true) (hB:s₁.heap.BuiltinsAt mg Pt)
  (ha:s₁.heap.get? a=some { cls:=.type "list",data:=.seq vs.toArray }) (hi:IntsAre vs ns) (hl:ns.length<=sizeLine) (hr:Room k callerA)
  (F:∀base:Heap,K.In base->base.Ns mainGlobals mg->PySem.W.CodeHd base c Pt->base.BuiltinsAt mg Pt->mainGlobals≠Pt->FnOk P w K mg base CX k fa fd [x] sp) (hbind:∀(s:Shared) (u:Value),BindsTo s fd ⟨[u],[]⟩ [(x,u)])
  (hsp:∀H:Hp,Jq Pt H->SqL K H a (ns.map V.int)->sp [.ref a] H (λv _=>v=.bl true) λ_ _ _=>False)
  (hCX:∀H e s',CX [] H s₁ (λ_ _ _=>False) e s'->False) :
  codeAny (model P w) callerA (.call (.ref fa) ⟨[.ref a],[]⟩) (λr s'=>r=.ok (.ret (.bool true))/\OldK s₁.heap s'.heap/\s'.os=s₁.os/\AllBare s'.gens) s₁:=by
 have rv:=Vg hi;have lenV:=hi.length;have hPa:Pt≠a:=λz=>by rw[z,ha] at hPt;cases hPt
 have hKP:K.lookup Pt=none:=by
  cases q:K.lookup Pt with
  |none=>rfl
  |some o=>
   have e:=KX Pt o q;rw[hPt] at e;cases e;have h2:=PH.mp hK (Pt,PySem.W.tabObj #[]) (PySem.W.mem_of_lookupK q);exact absurd (show false=true from h2) Pi
 have core:∀H:Hp,Jq Pt H->SqL K H a (ns.map V.int)->HOk P w H s₁.heap->(∀b,H b≠none->b=a\/b=Pt)->(H a≠none->K.lookup a=none)->
   codeAny (model P w) callerA (.call (.ref fa) ⟨[.ref a],[]⟩) (λr s'=>r=.ok (.ret (.bool true))/\OldK s₁.heap s'.heap/\s'.os=s₁.os/\AllBare s'.gens) s₁:=by
  intro H hO hS hok hA hK;have base_of:∀{b:Addr} {o:Obj},s₁.heap.get? b=some o->H b=none->(Wo s₁.heap H).get? b=some o:=λe n=>G9 e n
  have noT:∀{b:Addr} {o:Obj},s₁.heap.get? b=some o->b≠a->b≠Pt->H b=none:=λ{b o} e z1 z2=>by
   cases q:H b with
   |none=>rfl
   |some u=>exact ((hA b (by rw[q];simp)).elim z1 z2).elim
  have noA:∀{b:Addr} {o:Obj} {es:Array DictEntry} {ep:Nat},s₁.heap.get? b=some o->o.data=.dict es ep->H b=none:=λ{b o es ep} e d=>
   noT e (λz=>by subst z;rw[ha] at e;cases e;cases d) λz=>by subst z;rw[hPt] at e;cases e;cases d
  have nsK:∀{b:Addr} {m:Str->Option Value},s₁.heap.Ns b m->(Wo s₁.heap H).Ns b m:=λ{b m} ⟨o,es,ep,e,d,r⟩=>⟨o,es,ep,base_of e (noA e d),d,r⟩
  have hKb:K.In (Wo s₁.heap H):=λb o e=>base_of (KX b o e) (by
   cases q:H b with
   |none=>rfl
   |some u=>
    rcases hA b (by rw[q];simp) with z | z
    ·subst z;rw[hK (by rw[q];simp)] at e;cases e
    ·subst z;rw[hKP] at e;cases e)
  have hM:Mod K mg (Wo s₁.heap H):=⟨hKb,nsK hns,⟨mb,nsK hb,hbb⟩,let ⟨mc,h1,h2⟩:=hlim;⟨mc,nsK h1,h2⟩⟩;have e0:Env0 P w K mg (Wo s₁.heap H) callerA [] s₁ H:=⟨rfl,hM,λb o e=>yv e,Nat.le_of_eq (JU _ _),trivial,λb hb=>absurd (show b∈([]:List Addr) from hb) (by simp),hok,.of_eq hg⟩
  have hCb:PySem.W.CodeHd (Wo s₁.heap H) c Pt:=by
   obtain⟨o,vs',file,tf,flags,tg,inF,text,tt,e1,r1,r⟩:=hC;refine⟨o,vs',file,tf,flags,tg,inF,text,tt,base_of e1 (noT e1 (λz=>?_) λz=>?_),r1,r⟩
   ·subst z;rw[ha] at e1;cases e1;exact absurd (Value.type.inj r1) (by decide)
   ·subst z;rw[hPt] at e1;cases e1;cases r1
  have hBb:(Wo s₁.heap H).BuiltinsAt mg Pt:=by
   obtain⟨bm,o,b1,b2,b3,b4,b5,b6,b7,b8⟩:=hB;refine⟨bm,o,b1,b2,b3,b4,base_of b5 (noT b5 (λz=>?_) b4),b6,b7,b8⟩
   subst z;rw[ha] at b5;cases b5;exact absurd (Value.type.inj b6) (by decide)
  have hgP:mainGlobals≠Pt:=λz=>by
   obtain⟨o,es,ep,e,d,_⟩:=hns;rw[z,hPt] at e;cases e;cases d
  refine codeAny_mono ((F _ hKb (nsK hns) hCb hBb hgP).run callerA [] s₁ H ⟨[.ref a],[]⟩ [.ref a] [.ref a] _ _ hr e0 (hbind s₁ (.ref a)) (.cons rfl .nil) (hsp H hO hS)) λr s' h=>?_
  cases r with
  |error e=>exact (hCX H e s' h).elim
  |ok fl=>
   cases fl with
   |next=>exact False.elim h
   |brk=>exact False.elim h
   |cont=>exact False.elim h
   |ret u=>
    obtain⟨v,H',os,bare,un,hok',r',q⟩:=h;have q':v=.bl true:=q;subst q';obtain rfl:u=Value.bool true:=r';have keep:∀b o,b≠Pt->s₁.heap.get? b=some o->s'.heap.get? b=some o:=λb o z e=>by
     cases q:H b with
     |none=>exact un.keep b o e q (by intro z;exact absurd (show b∈([]:List Addr) from z) (by simp)) (by simp)
     |some u=>
      rcases hO.2 b z with z | ⟨ob,xs,z⟩
      ·rw[q] at z;cases z
      ·have z2:=un.frzs b ob _ z
       obtain⟨e1,_⟩:=hok b _ z;obtain⟨e2,_⟩:=hok' b _ z2;rw[e] at e1;cases e1;exact e2
    obtain⟨more,hm⟩:=un.tbls Pt #[] hO.1;have hT':s'.heap.get? Pt=some { cls:=.none,data:=.fields (#[]++more) }:=hok' Pt _ hm;refine⟨rfl,⟨λb o e=>?_,λb o e=>?_⟩,os,bare⟩
    ·by_cases z:b=Pt
     ·subst z
      rw[hPt] at e;cases e;exact .inr (.inl ⟨(hC.tab hPt).isCodeTable,rfl,#[],more,rfl,hT'⟩)
     ·exact .inl (keep b o z e)
    ·by_cases z:b=Pt
     ·subst z;exact⟨_,hT'⟩
     ·exact⟨o,keep b o z e⟩
 have tbOk:ZF P w (upd (λb=>if b=a then some (.frz { cls:=.type "list",data:=.seq vs.toArray } (.lst (ns.map V.int))) else none) Pt (.tbl #[])) s₁.heap Pt (.tbl #[]):=hPt
 cases hk:K.lookup a with
 |some o=>
  have e:=KX a o hk;rw[ha] at e;cases e;refine core (upd (λ_=>none) Pt (.tbl #[])) ⟨Zi,λb z=>.inl (Ze z)⟩ (.inr ⟨_,vs.toArray,_,hk,rfl,rfl,rfl,by rw[Pf,lenV];exact hl,by simpa using rv⟩) (λb u z=>?_) (λb z=>?_) λz=>absurd (Ze (Ne.symm hPa)) z
  ·by_cases q:b=Pt
   ·subst q;rw[Zi] at z;cases z;exact hPt
   ·rw[Ze q] at z;cases z
  ·by_cases q:b=Pt
   ·exact .inr q
   ·exact absurd (Ze q) z
 |none=>
  refine core (upd (λb=>if b=a then some (.frz { cls:=.type "list",data:=.seq vs.toArray } (.lst (ns.map V.int))) else none) Pt (.tbl #[])) ⟨Zi,λb z=>?_⟩ (.inl (.inr ⟨{ cls:=.type "list",data:=.seq vs.toArray },by rw[Ze (Ne.symm hPa)];exact Pj rfl⟩)) (λb u z=>?_) (λb z=>?_) λ_=>hk
  ·rw[Ze z]
   by_cases hb:b=a
   ·exact .inr ⟨_,_,Pj hb⟩
   ·exact .inl (Pm hb)
  ·by_cases q:b=Pt
   ·subst q;rw[Zi] at z;cases z;exact hPt
   ·rw[Ze q] at z
    by_cases hb:b=a
    ·have z':=(Pj hb).symm.trans z
     cases z';subst hb;exact⟨ha,by rw[PV];exact hl,vs,_,rv,ha⟩
    ·have z':=(Pm hb).symm.trans z
     cases z'
  ·by_cases q:b=Pt
   ·exact .inr q
   ·rw[Ze q] at z
    by_cases hb:b=a
    ·exact .inl hb
    ·exact absurd (Pm hb) z
theorem GI {l:PySem.W.OpenLaw}{n k:Nat}{q:Program}{loose:List Str}{XP:(Str->Option Value)->Heap->Prop}{YP:World->Heap->Prop}{d:DefRec}{K:Params->PySem.W.Frag}{CX:World->CXT}{sp:World->Addr->Sp}{x:Str}{c Pt:Addr}{dr:DefRec}
  (hn:l.most=some n) (hn2:n<=sizeLine) (hdf:d.params.defaults=[]) (hr:Room k callerA)
  (hY:∀(w:World) (h:Heap),YP w h->(K w.params).In h) (hrec:(recsOf q).find? (λe=>e.name == d.name)=some dr) (ht:∀w:World,PySem.W.tabIn (K w.params) d.name=some (c,Pt)) (hK:∀w:World,PySem.W.noTabs (K w.params)=true)
  (F:∀(w:World) (mg:Str->Option Value) (fa:Addr) (h:Heap),(K w.params).In h->h.Ns mainGlobals mg->mg d.name=some (.ref fa)->
   ∃fd:FuncData,(∀(s:Shared) (u:Value),BindsTo s fd ⟨[u],[]⟩ [(x,u)])/\
    ∀base:Heap,(K w.params).In base->base.Ns mainGlobals mg->PySem.W.CodeHd base c Pt->base.BuiltinsAt mg Pt->mainGlobals≠Pt->FnOk l.prog w (K w.params) mg base (CX w) k fa fd [x] (sp w Pt))
  (hsp:∀(w:World) (H:Hp) (a:Addr) (ns:List Int),ns.length<=n->Jq Pt H->SqL (K w.params) H a (ns.map V.int)->sp w Pt [.ref a] H (λv _=>v=.bl true) λ_ _ _=>False)
  (hCX:∀(w:World) (H:Hp) (s:Shared) (e:Value) (s':Shared),CX w [] H s (λ_ _ _=>False) e s'->False) :
  PySem.W.WalkO q loose XP YP l.row.toRowW d [] (λf vs=>PySem.call f vs):=by
 refine Att.Uk hn hdf λw s₀ s₁ mg mb fa o pm cd doc a vs ns G Y ho hd hcd hmg hobj hints hlen hg=>?_
 have KX:=hY w _ Y;obtain⟨fd,hb,hF⟩:=F w mg fa _ KX G.T.g hmg;obtain⟨hC,hPt⟩:=PySem.W.tab_of G.T KX hrec (ht w);obtain⟨bm,ob,b1,b2,b3,b4,b5,b6⟩:=G.T.bmain;have hbP:bm≠Pt:=λz=>by rw[z,hPt] at b3;cases b3;cases b4
 have hbG:bm≠mainGlobals:=λz=>by
  obtain⟨o,es,ep,e,hd,_⟩:=G.T.g;rw[z,e] at b3;cases b3;rw[hd] at b6;cases b6
 exact Gh KX G.T.g G.T.b G.T.builtins G.T.nolimit hg hC hPt (hK w) ⟨bm,ob,b1,b2,hbG,hbP,b3,b4,b5,b6⟩ hobj hints (PY hlen hn2) hr hF hb (λH hO hS=>hsp w H a ns hlen hO hS) λH e s'=>hCX w H s₁ e s'
end Sd
namespace Sd
open PySem PySem.Spec PyProof.Rows L2
open Ev (D Ob Za Lc R Sm Calls Walk Fl Fn Bop Cop Ty Bf Mf ev evs evo evt evw tst run runs)
noncomputable def Z2:List Str:=["SpaceError","NoRow","NoPart","NoNumber","NoHeads","NotBeside","NotIn","NoTurn","NoLot","TooMany","BadNote"]
structure Errs (K:PySem.W.Frag) (mg:Str->Option Value) (cl:List Addr):Prop where
 len:cl.length=11
 nm:∀(j:Nat) (C:Addr) (x:Str),cl[j]? = some C->Z2[j]? = some x->mg x=some (.ref C)
 exk:∀(j:Nat) (C:Addr),cl[j+1]? = some C->ExK K C
 one:∀(i j:Nat) (C D:Addr),cl[i+1]? = some C->cl[j+1]? = some D->PySem.W.kitOne K (.ref C) (.ref D)=some (decide (i=j))
 ve:∀(i:Nat) (C:Addr),cl[i+1]? = some C->PySem.W.kitOne K (.ref C) (.type "ValueError")=some true
 exm:∀(i:Nat) (C S:Addr),cl[i+1]? = some C->cl[0]? = some S->PySem.W.exmOne K (.ref C) (.ref S)=some true
def tIs (K:PySem.W.Frag) (ir:Nat) (Dv:V):TE:=tCB (vS K) (Yx (Ql ir) (Yx (tC Dv) Qr))
section
variable {X:Cx}{ir is:Nat}{σ:L2.St}{H:Hp}{Q:VK}{p p1 p2 pos:Pos}{xr x:Str}{cl:List Addr}
structure ErAt (K:PySem.W.Frag) (cl:List Addr) (ir c:Nat) (σ:L2.St) (H:Hp):Prop where
 ex:∃a oe C,σ[ir]? = some (some (.ref a))/\H a=some (.frz oe (.own a))/\oe.cls=.ref C/\cl[c+1]? = some C
theorem ErAt.upd {K:PySem.W.Frag}{c:Nat}{q:Addr}{o:HO}(e:ErAt K cl ir c σ H) (hq:H q=none):ErAt K cl ir c σ (L2.upd H q o):=by
 obtain⟨a,oe,C,h1,h2,h3⟩:=e.ex;exact⟨a,oe,C,h1,by rw[Ze (λz=>by rw[z,hq] at h2;cases h2)];exact h2,h3⟩
theorem ErAt.wr {K:PySem.W.Frag}{c:Nat}{q:Addr}{xs:List V}{o:HO}(e:ErAt K cl ir c σ H) (hq:H q=some (.lst xs)):ErAt K cl ir c σ (L2.upd H q o):=by
 obtain⟨a,oe,C,h1,h2,h3⟩:=e.ex;exact⟨a,oe,C,h1,by rw[Ze (λz=>by rw[z,hq] at h2;cases h2)];exact h2,h3⟩
theorem ErAt.set {K:PySem.W.Frag}{c j:Nat}{v:V}(e:ErAt K cl ir c σ H) (hj:ir≠j):ErAt K cl ir c (σ.set j (some v)) H:=by
 obtain⟨a,oe,C,h1,h2⟩:=e.ex;exact⟨a,oe,C,by rw[Pk (Ne.symm hj)];exact h1,h2⟩
theorem YB {K:PySem.W.Frag}{mg:Str->Option Value}{c j:Nat}{Dj:Addr}(R:Errs K mg cl) (e:ErAt K cl ir c σ H) (hj:cl[j+1]? = some Dj) (q:Q (.bl (decide (c=j))) H):tIs K ir (.ref Dj) σ H Q:=by
 obtain⟨a,oe,C,h1,h2,h3,h4⟩:=e.ex;exact⟨.ref a,h1,a,oe,C,.ref Dj,.ref Dj,decide (c=j),rfl,rfl,λu' r=>r,h2,h3,R.exk c C h4,R.one c j C Dj h4 hj,q⟩
theorem wX {K:PySem.W.Frag}{mg:Str->Option Value}{c:Nat}(R:Errs K mg cl) (e:ErAt K cl ir c σ H) (q:Q (.bl true) H):tIs K ir (.ty "ValueError") σ H Q:=by
 obtain⟨a,oe,C,h1,h2,h3,h4⟩:=e.ex;exact⟨.ref a,h1,a,oe,C,.ty "ValueError",.type "ValueError",true,rfl,rfl,λu' r=>r,h2,h3,R.exk c C h4,R.ve c C h4,q⟩
theorem uj {Dj:Addr}(hi:X.N[ir]? = some xr) (hv:Vis X.env.scope xr) (hg0:Gl X "isinstance") (hm0:X.mg "isinstance" = none) (hg:Gl X x) (hm:X.mg x=some (.ref Dj)) (hd1:(xr == ("__debug__" : Str))=false) (hd2:(xr == ("__classdict__" : Str))=false) (hd3:(x == ("__debug__" : Str))=false)
  (hs:starEach [.Name xr p1,.Name x p2] X.env=(false,eval (.Name xr p1) X.env)::starEach [.Name x p2] X.env:=by rfl) (hs2:starEach [.Name x p2] X.env=(false,eval (.Name x p2) X.env)::starEach [] X.env:=by rfl) (hpl:(backTo pos (starEach [.Name x p2] X.env)).any (·.1)=false:=by rfl) :
  PE X (.Call (.Name "isinstance" p) [.Name xr p1,.Name x p2] [] pos) (tIs X.K ir (.ref Dj)):=
 Y1 Uj hg0 hm0 rfl (Zr (YI hi hv hd1 hd2) (Zr (V4 hg hm rfl hd3) Yb hs2) hs) (by decide) (by decide) hs hpl
theorem wv (hi:X.N[ir]? = some xr) (hv:Vis X.env.scope xr) (hg0:Gl X "isinstance") (hm0:X.mg "isinstance" = none) (hg:Gl X "ValueError") (hm:X.mg "ValueError" = none) (hd1:(xr == ("__debug__" : Str))=false) (hd2:(xr == ("__classdict__" : Str))=false)
  (hs:starEach [.Name xr p1,.Name "ValueError" p2] X.env=(false,eval (.Name xr p1) X.env)::starEach [.Name "ValueError" p2] X.env:=by rfl) (hs2:starEach [.Name "ValueError" p2] X.env=(false,eval (.Name "ValueError" p2) X.env)::starEach [] X.env:=by rfl) (hpl:(backTo pos (starEach [.Name "ValueError" p2] X.env)).any (·.1)=false:=by rfl) :
  PE X (.Call (.Name "isinstance" p) [.Name xr p1,.Name "ValueError" p2] [] pos) (tIs X.K ir (.ty "ValueError")):=
 Y1 Uj hg0 hm0 rfl (Zr (YI hi hv hd1 hd2) (Zr (We hg hm rfl rfl) Yb hs2) hs) (by decide) (by decide) hs hpl
def Xy (K:PySem.W.Frag) (ir is:Nat) (cl:List Addr) (ts:TT):TS:=
 let I:=λj=>tIs K ir (.ref (cl.getD (j+1) 0))
 QM (vg (tB (um (Ql ir))) (yS (tC .non)) GK) (QM (zd (xE (Yx (I 0) (Yx (I 1) (Yx (I 2) Qr)))) (UL is))
  (QM (zd (tOp xa (Ql is) (xE (Yx (I 3) (Yx (I 4) (Yx (I 5) Qr))))) (UL is)) (QM (zd (tOp xa (Ql is) (xE (Yx (I 6) (Yx (I 7) (Yx (I 8) Qr))))) (UL is))
   (QM (wb (tBM K "list" Jv (Ql is) (Yx (I 9) Qr))) (QM (vg (tOr (uF (tB (tIs K ir (.ty "ValueError")))) ts) (yS (tUn (rU λi=>.int (-i)) (tC (.int 1)))) GK)
    (yS (tBM K "list" JA (Ql is) (Yx (tC (.bl true)) Qr))))))))
theorem Qb {K:PySem.W.Frag}{ts:TT}{Dn:Ends}(h:σ[ir]? = some (some .non)) (q:Dn.rt .non H):Xy K ir is cl ts Dn σ H:=by
 refine⟨.non,h,true,rfl,?_⟩
 change (if true=true then _ else _)
 rw[Pj rfl];exact q
theorem UK (xs:List V):∀ps,HO.lst xs≠.tbl ps:=λ_ z=>by cases z
theorem wG:∀c,c<10->(Ev.Zk c)[c]? = some true:=by decide
theorem wP:∀c,c<10->∀m,m<c->(Ev.Zk c)[m]? = some false:=by decide
theorem Js {ρ:List Addr}{H:Hp}:∀{bs:List Bool}{xs:List V},Rq ρ H (bs.map D.bl) xs->xs=bs.map V.bl
 |[],_,h=>by unfold Rq at h;exact h
 |b::bs,_,h=>by
  rw[P1] at h;unfold Rq at h;obtain⟨v,vs,rfl,r,rs⟩:=h;rw[Js rs,r.bl'];rfl
theorem VC {ρ:List Addr}{H:Hp}:∀(bs:List Bool),Rq ρ H (bs.map D.bl) (bs.map V.bl)
 |[]=>Rq.nil
 |b::bs=>Rq.cons (Zh b) (VC bs)
theorem Gd {K:PySem.W.Frag}{mg:Str->Option Value}{ts:TT}{Dn:Ends}{c:Nat}{ρ:List Addr}{S:Za}(R:Errs K mg cl) (hc:c<10) (e:ErAt K cl ir c σ H) (hne:ir≠is) (hsl:is<σ.length) (st:St3 K ρ S H)
  (hts:∀(σ':L2.St) (H':Hp) (p:Addr) (Q':Bool->Hp->Prop),σ'[is]? = some (some (.ref p))->σ'.length=σ.length->St3 K (ρ++[p]) (S++[.lst ((Ev.Zk c).map .bl)]) H'->(∀ρ2 H2,Fut (ρ++[p]) H' ρ2 H2->St3 K ρ2 (S++Ev.junk c) H2->Q' false H2)->ts σ' H' Q')
  (fin:∀ρ' H',Fut ρ H ρ' H'->St3 K ρ' (S++Ev.junk c) H'->Dn.rt (.int c) H'):Xy K ir is cl ts Dn σ H:=by
 have cj:∀j,j<10->cl[j+1]? = some (cl.getD (j+1) 0):=λj hj=>by
  have hl:j+1<cl.length:=by rw[R.len];omega
  rw[Pb hl,PQ,Pb hl];rfl
 obtain⟨a,oe,C,h1,h2,h3,h4⟩:=id e.ex;refine⟨.ref a,h1,false,rfl,?_⟩
 change (if false=true then _ else _)
 rw[Pm Pi]
 let A1:HO:=.lst [.bl (decide (c=0)),.bl (decide (c=1)),.bl (decide (c=2))]
 let A2:HO:=.lst [.bl (decide (c=3)),.bl (decide (c=4)),.bl (decide (c=5))]
 let A3:HO:=.lst [.bl (decide (c=0)),.bl (decide (c=1)),.bl (decide (c=2)),.bl (decide (c=3)),.bl (decide (c=4)),.bl (decide (c=5))]
 let A4:HO:=.lst [.bl (decide (c=6)),.bl (decide (c=7)),.bl (decide (c=8))]
 let L5:List Bool:=[decide (c=0),decide (c=1),decide (c=2),decide (c=3),decide (c=4),decide (c=5),decide (c=6),decide (c=7),decide (c=8)]
 let A5:HO:=.lst (L5.map .bl)
 have neq:∀{G:Hp} {b d:Addr} {u:HO},G b=some u->G d=none->b≠d:=λh1 h2 z=>by rw[z,h2] at h1;cases h1
 refine YB R e (cj 0 (by omega)) (YB R e (cj 1 (by omega)) (YB R e (cj 2 (by omega)) ⟨by show 3<=sizeLine;decide,λq1 hq1=>?_⟩))
 have e1:ErAt K cl ir c (σ.set is (some (.ref q1))) (upd H q1 A1):=(e.upd (o:=A1) hq1).set (j:=is) (v:=.ref q1) hne;have st1:=st.fresh (o:=A1) hq1 (UK _);have f1:Fut ρ H ρ (upd H q1 A1):=ZG hq1;have g1:upd H q1 A1 q1=some A1:=Zi;have l1:(σ.set is (some (.ref q1))).length=σ.length:=Pz;refine⟨.ref q1,Pw hsl,?_⟩;refine YB R e1 (cj 3 (by omega)) (YB R e1 (cj 4 (by omega)) (YB R e1 (cj 5 (by omega)) ⟨by show 3<=sizeLine;decide,λq2 hq2=>?_⟩))
 have g2:upd (upd H q1 A1) q2 A2 q1=some A1:=by rw[Ze (neq g1 hq2)];exact g1
 have st2:=st1.fresh (o:=A2) hq2 (UK _);have f2:Fut ρ H ρ (upd (upd H q1 A1) q2 A2):=f1.trans (ZG hq2);refine⟨q1,q2,_,_,rfl,rfl,g2,Zi,by show 6<=sizeLine;decide,λq3 hq3=>?_⟩
 let H3:=upd (upd (upd H q1 A1) q2 A2) q3 A3
 have e3:ErAt K cl ir c ((σ.set is (some (.ref q1))).set is (some (.ref q3))) H3:=((e1.upd (o:=A2) hq2).upd (o:=A3) hq3).set (j:=is) (v:=.ref q3) hne;have st3:St3 K ρ S H3:=st2.fresh (o:=A3) hq3 (UK _);have f3:Fut ρ H ρ H3:=f2.trans (ZG hq3);have g3:H3 q3=some A3:=Zi;have l3:((σ.set is (some (.ref q1))).set is (some (.ref q3))).length=σ.length:=by rw[Pz,l1]
 refine⟨.ref q3,Pw (by rw[l1];exact hsl),?_⟩
 refine YB R e3 (cj 6 (by omega)) (YB R e3 (cj 7 (by omega)) (YB R e3 (cj 8 (by omega)) ⟨by show 3<=sizeLine;decide,λq4 hq4=>?_⟩))
 have g4:upd H3 q4 A4 q3=some A3:=by rw[Ze (neq g3 hq4)];exact g3
 have st4:St3 K ρ S (upd H3 q4 A4):=st3.fresh (o:=A4) hq4 (UK _);have f4:Fut ρ H ρ (upd H3 q4 A4):=f3.trans (ZG hq4);refine⟨q3,q4,_,_,rfl,rfl,g4,Zi,by show 9<=sizeLine;decide,λq5 hq5=>?_⟩
 let H5:=upd (upd H3 q4 A4) q5 A5
 let σ5:=((σ.set is (some (.ref q1))).set is (some (.ref q3))).set is (some (.ref q5))
 have e5:ErAt K cl ir c σ5 H5:=((e3.upd (o:=A4) hq4).upd (o:=A5) hq5).set (j:=is) (v:=.ref q5) hne;have l5:σ5.length=σ.length:=by show List.length (List.set _ _ _)=_;rw[Pz,l3]
 have v5:σ5[is]? = some (some (.ref q5)):=Pw (by rw[l3];exact hsl)
 have st5:St3 K (ρ++[q5]) (S++[.lst (L5.map .bl)]) H5:=st4.new (o:=.lst (L5.map .bl)) hq5 ⟨L5.map .bl,Zi,VC L5⟩ (UK _);have f5:Fut ρ H (ρ++[q5]) H5:=f4.trans (XF hq5);have g5:H5 q5=some A5:=Zi;refine⟨.ref q5,v5,.inl ⟨rfl,_,SqL.of g5⟩,?_⟩;refine YB R e5 (cj 9 (by omega)) ⟨q5,_,_,rfl,rfl,g5,by show 9<sizeLine;decide,?_⟩
 let L6:List Bool:=Ev.Zk c
 have hL:L5.map V.bl++[.bl (decide (c=9))]=L6.map V.bl:=rfl
 let H6:=upd H5 q5 (.lst (L5.map V.bl++[.bl (decide (c=9))]))
 have hpl:(ρ++[q5])[S.length]? = some q5:=by rw[<-st.len,Px (Po _)];simp
 have st6:St3 K (ρ++[q5]) (S++[.lst (L6.map .bl)]) H6:=by
  have h:=st5.wr (n:=S.length) (es:=L6.map D.bl) (ys:=L5.map V.bl++[.bl (decide (c=9))]) hpl (show (S++[Ob.lst (L5.map D.bl)])[S.length]? = some (.lst (L5.map D.bl)) from by simp) g5 (by rw[hL];exact VC L6)
  have hs:(S++[Ob.lst (L5.map D.bl)]).set S.length (.lst (L6.map D.bl))=S++[.lst (L6.map D.bl)]:=by
   rw[List.set_append_right _ _ (Po _),Nat.sub_self];rfl
  rw[hs] at h;exact h
 have f6:Fut ρ H (ρ++[q5]) H6:=f5.trans (Yv g5);have e6:ErAt K cl ir c σ5 H6:=e5.wr g5;refine wX R e6 ⟨true,rfl,?_⟩
 change (if false=true then _ else _)
 rw[Pm Pi];refine hts σ5 H6 q5 _ v5 l5 st6 λρ7 H7 f7 st7=>?_
 change (if false=true then _ else _)
 rw[Pm Pi];have pl7:=f7.at hpl;obtain⟨xs,hx,rx⟩:=st7.ob S.length (.lst (L6.map D.bl)) q5 (by show (S++[_,_])[S.length]? = _;simp[L6]) pl7
 obtain rfl:=Js rx;refine⟨.ref q5,v5,.inl ⟨rfl,_,SqL.of hx⟩,q5,L6,c,rfl,rfl,hx,wG c hc,wP c hc,fin ρ7 H7 (f6.trans f7) st7⟩
end
structure LamIn (X:Cx) (scope:Scope) (clos:List (Str×Addr)):Prop where
 S:LamS scope clos
 cl:∀x c,clos.lookup x=some c->X.env.cells.lookup x=some c
 kd:∀x,scope.names.lookup x=some .free->X.env.scope.names.lookup x=some .cell
section
variable {X:Cx}{E:XK}{cl:List Addr}{Cc:Calls}{i:Ev.E}{xw:Nat->Hp->Prop}
theorem yt {k:Nat}{f P c S0:Addr}{fd:FuncData}{xf xc xr n xS:Str}{st:Stmt}{Nr:List Str}{ic ie ir is:Nat}{params:Arguments}{body:Expr}{scope:Scope}{lp p pos p0 p1 p2 p3 p4 p5 p6 p7 p8 p9 q0 q1:Pos}{j0:Nat}{clos:List (Str×Addr)}{rest:List Stmt}{ts:Cx->TT}
  (D:DefX X E) (hfn:∀x,X.fn x=true) (hr:Room (k+2) X.A) (R:Errs X.K X.mg cl) (hS0:cl[0]? = some S0)
  (hP:∃ps,X.H₀ P=some (.tbl ps)) (hcode:X.env.code=.ref c) (C:PySem.W.CodeHd X.base c P) (hB:X.base.BuiltinsAt X.mg P) (hgP:mainGlobals≠P) (hq:X.env.qual++"<lambda>" = Yc) (hcl:closureFor scope X.env=pure clos) (hdef:defaultsOf params X.env=([],[])) (L:LamIn X scope clos)
  (hbind0:∀pm c' ctv,bindArgs (PySem.W.kla_fn "<lambda>" Yc params body scope clos pm (.ref c') ctv) ⟨[],[]⟩=pure [])
  (hbody:∀(g:Addr) (c':Addr) (A:Around) (outer:List Env) (s:Shared) (H:Hp) (E1:XK),Room k (A.deeper (PySem.W.envX Yc scope s.heap.objs.size g (.ref c') clos))->CE (cxL X.prog X.w X.K X.mg X.base X.N scope g (.ref c') clos A outer s H E1) (xwE cl E1) Cc body i)
  (hg:Gl X xf) (hm:X.mg xf=some (.ref f)) (hk:PySem.W.keepIn X.K (.ref f)=true) (Fu:Fun X.K xf xf st f fd) (Sc:FnScope Nr [xc] (Zb st)) (hb:X6 X.K fd [xc] []) (hdb:(xf == ("__debug__" : Str))=false)
  (he:starEach [.Lambda params body scope lp] X.env=(false,eval (.Lambda params body scope lp) X.env)::starEach [] X.env) (hpl:(backTo pos (starEach [] X.env)).any (·.1)=false)
  (hst:Zj st=.Assign [.Name xr p0] (.Constant .none j0 q0) q1 :: .Try [.Expr (.Call (.Name xc p1) [] [] p2) p3] [.ExceptHandler (some (.Name xS p4)) (some n) [.Assign [.Name xr p5] (.Name n p6) p7] p8] [] [] p9::rest)
  (hN:Nr.Nodup) (hic:Nr[ic]? = some xc) (hic0:ic=0) (hie:Nr[ie]? = some n) (hir:Nr[ir]? = some xr) (his:is<Nr.length) (hne:ir≠is) (hne2:ir≠ie) (hne3:ir≠0)
  (hkc:(Zb st).names.lookup xc=some .local) (hke:(Zb st).names.lookup n=some .local) (hkr:(Zb st).names.lookup xr=some .local) (hkS:∀L f cdv,(envOfC xf (Zb st) L f cdv).kindOf xS=some .globalImplicit) (hmS:X.mg xS=some (.ref S0))
  (hd1:(xc == ("__debug__" : Str))=false) (hd2:(xc == ("__classdict__" : Str))=false) (hd3:(n == ("__debug__" : Str))=false) (hd4:(n == ("__classdict__" : Str))=false) (hd5:(xS == ("__debug__" : Str))=false)
  (hs0:∀L f cdv,swapsWith (.Constant .none j0 q0) (some (.Name xr p0)) q1.line (envOfC xf (Zb st) L f cdv)=pure false) (hs1:∀L f cdv,swapsWith (.Call (.Name xc p1) [] [] p2) none p3.line (envOfC xf (Zb st) L f cdv)=pure false)
  (hs2:∀L f cdv,swapsWith (.Name n p6) (some (.Name xr p5)) p7.line (envOfC xf (Zb st) L f cdv)=pure false)
  (hrest:∀(cdv:Value) (A:Around) (outer:List Env) (s:Shared) (H:Hp),Room (k+1) (A.deeper (envOfC xf (Zb st) s.heap.objs.size f cdv))->
   PSs (YU (CX1 X.prog X.w) X.prog X.w X.K X.mg X.base Nr xf (Zb st) f cdv A outer s H E0) rest (Xy X.K ir is cl (ts (YU (CX1 X.prog X.w) X.prog X.w X.K X.mg X.base Nr xf (Zb st) f cdv A outer s H E0))))
  (hts:∀(Y:Cx) (ρ:List Addr) (S:Za) (e:Nat) (σ':L2.St) (H':Hp) (q:Addr) (Q':Bool->Hp->Prop),Y.K=X.K->e<10->σ'[is]? = some (some (.ref q))->σ'.length=Nr.length->St3 X.K (ρ++[q]) (S++[.lst ((Ev.Zk e).map .bl)]) H'->(∀ρ2 H2,Fut (ρ++[q]) H' ρ2 H2->St3 X.K ρ2 (S++Ev.junk e) H2->Q' false H2)->ts Y σ' H' Q') :
  CE X xw Cc (.Call (.Name xf p) [.Lambda params body scope lp] [] pos) (.refu i):=by
 rintro pq s σ H Q I ⟨ρ,l,S,st0,lr,h⟩
 obtain⟨ps0,hP0⟩:=hP;obtain⟨more,hPH⟩:=I.base.tbls P ps0 hP0;refine Nz (Xp I hg hm ?_ hdb);refine PySem.W.callWith_K (h₀:=X.base) I.ok.mod.kin hk ?_ he hpl;rw[he];refine Calls.spliced_cons (G5 I st0.tb hPH hcode C hB hgP hq hcl hdef λg c' oc vs t pm ctv H1 s1 I1 gr tb1 _ hg1 hc1 d1 v1=>Calls.spliced_nil ⟨I1.kIn,?_⟩)
 have nx:∀b:Addr,b∉([]:List Addr):=λb=>by simp
 have hbd:=hb s1 [.ref g] I1.kIn rfl;have st1:=st0.grow gr tb1;have f1:Fut ρ H ρ H1:=gr.fut;refine wpAny_call (codeAny_mono (uE (CX:=CX1 X.prog X.w) (k:=k+1) (Q:=Q) (E:=E0) (us:=[.ref g]) (vs:=[.ref g]) Fu Sc hr I1.env0 (by simpa using hbd) (.cons rfl .nil) rfl λcdv s2 hrm I2=>?_) λr s' hq=>?_)
 rotate_left
 ·cases r with
  |error e=>obtain⟨_,_,_,_,_,_,_,_,_,_,_,_,_,_,z⟩:=hq;exact z.elim
  |ok fl=>
   cases fl with
   |ret u=>exact I1.after hq
   |next=>exact False.elim hq
   |brk=>exact False.elim hq
   |cont=>exact False.elim hq
 rw[hst]
 let Xr:=YU (CX1 X.prog X.w) X.prog X.w X.K X.mg X.base Nr xf (Zb st) f cdv X.A X.stack s1 H1 E0
 let D0:Ends:={ nx:=λ_ H'=>Q .non H',rt:=Q }
 let σ2:L2.St:=(start Nr [.ref g]).set ir (some .non)
 have b0:=Wk (X:=Xr) (pos:=q1) (pos':=p0) hN hir (.inl hkr) (Qh (j:=j0) (pos:=q0)) (hs0 _ _ _) (.inr hkr);refine wpAny_execs_cons (thn (b0 [] s2 _ H1 { nx:=λσ' H'=>σ'=σ2/\H'=H1,rt:=λ_ _=>False } I2 ⟨rfl,rfl⟩) λfl s3 hq3=>?_)
 cases fl with
 |ret v=>obtain⟨_,_,_,_,_,z⟩:=hq3;exact z.elim
 |brk=>obtain⟨_,_,_,z⟩:=hq3;exact False.elim z
 |cont=>obtain⟨_,_,_,z⟩:=hq3;exact False.elim z
 |next=>
 obtain⟨σx,Hx,I3,z1,z2⟩:=hq3;rw[z1,z2] at I3
 let E1:XK:=λCv _ H'=>∃e Ce S' ρ',Cv=.ref Ce/\cl[e]? = some Ce/\ev Cc i l S=.ex e S'/\Fut ρ H1 ρ' H'/\St3 X.K ρ' S' H'
 have hl0:0<Nr.length:=by have:=(Pc.mp hic).1;omega
 have hσl:σ2.length=Nr.length:=I3.len;have hirl:ir<σ2.length:=by rw[hσl];exact (Pc.mp hir).1
 have hσ0:σ2[ic]? = some (some (.ref g)):=by
  rw[hic0,Pk hne3];rfl
 have hσr:σ2[ir]? = some (some .non):=Pw (by simpa [σ2] using hirl)
 have og:=(I3.hok g _ hg1).1;have oc':=(I3.hok c' _ hc1).1;have notin:∀x c0,X.env.cells.lookup x=some c0->c0∉frs X.stack:=λx c0 hx hb=>by
  rw[D.st] at hb;unfold frs at hb;rw[PU,D.fr] at hb;rcases Pr.mp hb with z | z
  ·exact I1.cne x c0 hx z
  ·obtain⟨_,o,ho,_⟩:=I1.ok.funs.mem z
   exact absurd (Pg ho) (Nat.not_lt_of_le (I1.ok.cab x c0 (hfn x) hx))
 have cellKeep:∀x c0 v,X.env.cells.lookup x=some c0->s1.heap.IsCell c0 v->s3.heap.IsCell c0 v:=λx c0 v hx ⟨o,ho,hd⟩=>
  ⟨o,I3.base.keep c0 o ho (I1.freeC x c0 hx) (notin x c0 hx) (nx c0),hd⟩
 have hEnd:End X.K (xwE cl E1) Rep ρ H1 (λ_ H'=>Xy X.K ir is cl (ts Xr) D0 σ2 H') (ev Cc i l S):=by
  have h:End X.K xw Rep ρ H Q (match ev Cc i l S with
   |.ok _ S=>.ok .non S
   |.ex c S=>if 1<=c/\c<=10 then .ok (.int ((c:Int)-1)) (S++Ev.junk (c-1)) else .no
   |.no=>.no):=by
   have h0:=h;rw[ev] at h0;exact h0
  cases q:ev Cc i l S with
  |no=>rw[q] at h;exact h.elim
  |ok d S'=>
   rw[q] at h;exact λρ' H' v f st' r=>Qb hσr (h ρ' H' .non (f1.trans f) st' Yf)
  |ex e S'=>
   rw[q] at h;have hg:=(End.guard h).1;intro ρ' H' f st';have he:e<cl.length:=by rw[R.len];omega
   exact⟨cl[e],Pb he,e,cl[e],S',ρ',rfl,Pb he,q,f,st'⟩
 refine wpAny_execs_cons (thn (xp (X:=Xr) (E:=E0) (Dn:={ nx:=λσ' H'=>Xy X.K ir is cl (ts Xr) D0 σ' H',rt:=λ_ _=>False }) (E1:=E1) (S:=S0) (ic:=ic) (ie:=ie) (ir:=ir) z6 I3 hN hic (.inl hkc) hσ0 hie hke hir hkr (hkS _ _ _) hmS ⟨_,_,_,_,og⟩ ?run ?e1 hd1 hd2 hd3 hd4 hd5 (hs1 _ _ _) (hs2 _ _ _)) λfl s4 hq4=>?_)
 case run=>
  exact zB (k:=k) (N:=X.N) (σ:=σ) hrm I3.env0 L.S og ⟨c',oc,vs,t,rfl,oc',d1,v1⟩ (hbind0 pm c' ctv) (λx c0 e=>⟨let ⟨v,z⟩:=I1.cell x c0 (L.cl x c0 e);⟨v,cellKeep x c0 v (L.cl x c0 e) z⟩,I1.freeC x c0 (L.cl x c0 e)⟩) I1.len
   (λj x v e1 e2 fr=>by
    obtain⟨m,hn,hl⟩:=I1.loc;obtain⟨u,r,lk⟩:=hl j x v e1 e2 (.inr (.inl (L.kd x fr)));obtain⟨c1,hc1⟩:=L.S.has x fr;rcases lk with ⟨k1,_⟩ | ⟨_,c0,hc0,z⟩
    ·have k1:X.env.scope.names.lookup x=some .local:=k1
     rw[L.kd x fr] at k1;cases k1
    ·have:=L.cl x c1 hc1
     rw[hc0] at this;cases this;exact⟨u,c1,r,hc1,cellKeep x c1 _ hc0 z⟩)
   (hbody g c' Xr.A Xr.stack s3 H1 E1 (hrm.deeper _)) ⟨ρ,l,S,st1,lr.mono f1,hEnd⟩
 case e1=>
  rintro Ce H' ⟨e,Ce',S',ρ',z,hce,hev,f,st'⟩
  cases z;have h2:End X.K xw Rep ρ H Q (if 1<=e/\e<=10 then .ok (.int ((e:Int)-1)) (S'++Ev.junk (e-1)) else .no):=by
   have h0:=h;rw[ev,hev] at h0;exact h0
  obtain⟨hge,h3⟩:=End.guard h2;obtain⟨e',rfl⟩:∃e',e=e'+1:=⟨e-1,by omega⟩
  refine⟨R.exm e' Ce S0 hce hS0,λa oe Ha ce=>?_⟩
  have stA:St3 X.K ρ' S' (upd H' a (.frz oe (.own a))):=st'.fresh (o:=.frz oe (.own a)) Ha;have er:ErAt X.K cl ir e' (((σ2.set ie (some (.ref a))).set ir (some (.ref a))).set ie none) (upd H' a (.frz oe (.own a))):=
   ⟨a,oe,Ce,by rw[Pk (Ne.symm hne2),Pw (by rw[Pz];exact hirl)],Zi,ce,hce⟩
  have len':(((σ2.set ie (some (.ref a))).set ir (some (.ref a))).set ie none).length=Nr.length:=by rw[Pz,Pz,Pz];exact hσl
  refine Gd R (by omega) er hne (by rw[len'];exact his) stA (λσ' H2 q Q' a1 a2 a3 a4=>hts Xr ρ' S' e' σ' H2 q Q' rfl (by omega) a1 (a2.trans len') a3 a4) λρ2 H2 f2 st2=>?_
  have ee:((e'+1:Nat):Int)-1=(e':Int):=by omega
  have fin:=h3 ρ2 H2 (.int (((e'+1:Nat):Int)-1)) (f1.trans (f.trans ((ZG Ha).trans f2))) (by rw[Nat.add_sub_cancel];exact st2) (Zf _)
  rw[ee] at fin;exact fin
 cases fl with
 |ret v=>obtain⟨_,_,_,_,_,z⟩:=hq4;exact z.elim
 |brk=>obtain⟨_,_,_,z⟩:=hq4;exact False.elim z
 |cont=>obtain⟨_,_,_,z⟩:=hq4;exact False.elim z
 |next=>
  obtain⟨σ4,H4,I4,q4⟩:=hq4;exact hrest cdv X.A X.stack s1 H1 hrm [] s4 σ4 H4 D0 I4 q4
end
noncomputable def ksum (is:Nat):Ev.E:=.cmp .ne (.blt .sum [.comp1 [] 1 [0] (.of (.v is)) [] (.blt .toInt [.v 0])]) (.c (.int 1))
section
variable {Cc:Calls}{S:Za}{bs:List Bool}{is:Nat}{l:Lc}
noncomputable abbrev X3 (S:Za) (bs:List Bool) (ys:List D):Za:=S++[.lst (bs.map .bl),.lst ys]
theorem Jp (ys:List D):Ev.Zc (X3 S bs ys) (S.length+1)=some ys:=by simp[Ev.Zc]
theorem xJ (ys zs:List D):(X3 S bs ys).set (S.length+1) (.lst zs)=X3 S bs zs:=by
 unfold X3;rw[List.set_append_right _ _ (by omega)]
 have:S.length+1-S.length=1:=by omega
 rw[this];rfl
theorem Uy:∀(cs:List Bool) (ys:List D) (o:Option D),ys.length+cs.length<=1000->∃σ,Ev.Z4 ⟨bs.map .bl,[(S.length,bs.map .bl)]⟩ (λx σ S1=>(Ev.ob (Ev.assign [0] x S1 σ) S1).bind λσ S1=>(evt Cc [] σ S1).bind λb S1=>
   if b then (ev Cc (.blt .toInt [.v 0]) σ S1).bind λy S1=>(Ev.push (S.length+1) y S1).bind λ_ S1=>.ok σ S1 else .ok σ S1) (cs.map .bl) [o] (X3 S bs ys)=.ok σ (X3 S bs (ys++cs.map λb=>.int (Ev.b2i b)))
 |[],ys,o,_=>⟨[o],by
  rw[Ka,Ev.Z4,Pj (by simp[Ev.Walk.still])]
  simp⟩
 |c::cs,ys,o,h=>by
  have hl:ys.length<Ev.lim:=by unfold Ev.lim;simp only[PF] at h;omega
  obtain⟨σ,e⟩:=Uy cs (ys++[.int (Ev.b2i c)]) (some (.bl c)) (by simp only[PK,PF,List.length_nil] at h ⊢;omega)
  refine⟨σ,?_⟩;rw[P1,Ev.Z4,Pj (by simp[Ev.Walk.still])]
  have step:((Ev.ob (Ev.assign [0] (.bl c) (X3 S bs ys) [o]) (X3 S bs ys)).bind λσ S1=>(evt Cc [] σ S1).bind λb S1=>
   if b then (ev Cc (.blt .toInt [.v 0]) σ S1).bind λy S1=>(Ev.push (S.length+1) y S1).bind λ_ S1=>.ok σ S1 else .ok σ S1)=.ok [some (.bl c)] (X3 S bs (ys++[.int (Ev.b2i c)])):=by
   show (Ev.push (S.length+1) (.int (Ev.b2i c)) (X3 S bs ys)).bind (λ_ S1=>R.ok [some (D.bl c)] S1)=_
   unfold Ev.push;rw[Jp];simp only[Pj hl,xJ];rfl
  rw[step];show Ev.Z4 _ _ (cs.map .bl) [some (.bl c)] (X3 S bs (ys++[.int (Ev.b2i c)]))=_;rw[e,List.append_assoc];rfl
theorem Up:∀(bs:List Bool),Ev.Yd (bs.map λb=>D.int (Ev.b2i b))=some (bs.map Ev.b2i)
 |[]=>rfl
 |b::bs=>by rw[P1,Ev.Yd,Up bs];rfl
theorem QU:∀e,e<10->((Ev.Zk e).map Ev.b2i).sum=1/\Ev.Xx ((Ev.Zk e).map Ev.b2i)=true:=by decide
theorem yE {e:Nat}(he:e<10) (hl:l[is]? = some (some (.loc S.length))):tst Cc (ksum is) l (S++[.lst ((Ev.Zk e).map .bl)])=.ok false (S++Ev.junk e):=by
 obtain⟨σ,h⟩:=Uy (Cc:=Cc) (S:=S) (bs:=Ev.Zk e) (Ev.Zk e) [] none (by show 0+10<=1000;decide)
 have w:evw Cc (.of (.v is)) l (S++[.lst ((Ev.Zk e).map .bl)])=.ok ⟨(Ev.Zk e).map .bl,[(S.length,(Ev.Zk e).map .bl)]⟩ (S++[.lst ((Ev.Zk e).map .bl)]):=by
  rw[evw,ev,hl];show Ev.ob (Ev.Z1 (S++[.lst ((Ev.Zk e).map .bl)]) (.loc S.length)) _=_;unfold Ev.Z1;simp;rfl
 have c1:ev Cc (.comp1 [] 1 [0] (.of (.v is)) [] (.blt .toInt [.v 0])) l (S++[.lst ((Ev.Zk e).map .bl)])=.ok (.loc (S.length+1)) (S++Ev.junk e):=by
  rw[ev,w];have hs:(S++[Ob.lst ((Ev.Zk e).map D.bl)]).length=S.length+1:=by simp
  have ha:(S++[Ob.lst ((Ev.Zk e).map D.bl)])++[.lst []]=X3 S (Ev.Zk e) []:=by simp[X3]
  change ((Ev.Z4 ⟨(Ev.Zk e).map .bl,[(S.length,(Ev.Zk e).map .bl)]⟩ (λx σ S1=>(Ev.ob (Ev.assign [0] x S1 σ) S1).bind λσ S1=>(evt Cc [] σ S1).bind λb S1=>
   if b then (ev Cc (.blt .toInt [.v 0]) σ S1).bind λy S1=>(Ev.push (S++[Ob.lst ((Ev.Zk e).map D.bl)]).length y S1).bind λ_ S1=>.ok σ S1 else .ok σ S1) ((Ev.Zk e).map .bl) (Ev.caught [] 1 l) ((S++[Ob.lst ((Ev.Zk e).map D.bl)])++[.lst []])).bind
    λ_ S1=>R.ok (D.loc (S++[Ob.lst ((Ev.Zk e).map D.bl)]).length) S1).nox=_
  rw[hs,ha,show Ev.caught [] 1 l=[none] from rfl,h]
  rfl
 have c2:ev Cc (.blt .sum [.comp1 [] 1 [0] (.of (.v is)) [] (.blt .toInt [.v 0])]) l (S++[.lst ((Ev.Zk e).map .bl)])=.ok (.int 1) (S++Ev.junk e):=by
  have c3:evs Cc [.comp1 [] 1 [0] (.of (.v is)) [] (.blt .toInt [.v 0])] l (S++[.lst ((Ev.Zk e).map .bl)])=.ok [.loc (S.length+1)] (S++Ev.junk e):=by
   rw[evs,c1];simp only[R.bind,evs]
  rw[ev,c3];show Ev.Z8 .sum [.loc (S.length+1)] (S++Ev.junk e)=_;have g1:Ev.Zc (S++Ev.junk e) (S.length+1)=some ((Ev.Zk e).map λb=>D.int (Ev.b2i b)):=Jp (bs:=Ev.Zk e) _
  unfold Ev.Z8;simp only[g1,Ev.ob,R.bind,Up,(QU e he).2,NW,(QU e he).1]
 unfold tst ksum;rw[ev,c2];simp only[R.bind,ev];rfl
end
section
variable {X:Cx}{cl:List Addr}{ir is:Nat}{Cc:Calls}
theorem wQ {Y:Cx}{ρ:List Addr}{S:Za}{e:Nat}{σ':L2.St}{H':Hp}{q:Addr}{Q':Bool->Hp->Prop}{xw:Nat->Hp->Prop}(he:e<10) (h1:σ'[is]? = some (some (.ref q))) (st:St3 Y.K (ρ++[q]) (S++[.lst ((Ev.Zk e).map .bl)]) H')
  (hQ:∀ρ2 H2,Fut (ρ++[q]) H' ρ2 H2->St3 Y.K ρ2 (S++Ev.junk e) H2->Q' false H2):tB3 Y xw (tst Cc (ksum is)) σ' H' Q':=by
 have hl:is<σ'.length:=(Pc.mp h1).1;have hn:ρ.length=S.length:=by have:=st.len;simp at this;exact this
 refine⟨ρ++[q],(List.replicate σ'.length none).set is (some (.loc S.length)),_,st,⟨by simp,λi d e1=>?_⟩,?_⟩
 ·by_cases z:i=is
  ·subst z
   rw[Pw (by simpa using hl)] at e1
   cases e1;refine⟨.ref q,h1,Wb ?_⟩;rw[<-hn,Px (Po _)];simp
  ·rw[Pk (Ne.symm z),PZ] at e1
   split at e1 <;> cases e1
 ·rw[yE he (Pw (by simpa using hl))]
  exact λρ2 H2 v f s2 r=>by
   have r:false=v:=r;subst r;exact hQ ρ2 H2 f s2
theorem yo {xr xs:Str}{ts:TT}{sumE:Expr}{P:Nat->Pos}{J:Nat->Nat}(R:Errs X.K X.mg cl) (hN:X.N.Nodup) (hi:X.N[ir]? = some xr) (hv:X.env.scope.names.lookup xr=some .local) (hj:X.N[is]? = some xs) (hw:X.env.scope.names.lookup xs=some .local)
  (g0:Gl X "isinstance") (m0:X.mg "isinstance" = none) (g1:Gl X "ValueError") (m1:X.mg "ValueError" = none) (gc:∀x∈Z2,Gl X x)
  (r1:(xr == ("__debug__" : Str))=false) (r2:(xr == ("__classdict__" : Str))=false) (s1:(xs == ("__debug__" : Str))=false) (s2:(xs == ("__classdict__" : Str))=false) (hs:PT X sumE ts)
  (l1:((P 30).endLine == (P 31).line)=true) (l2:((P 32).endLine == (P 33).line)=true) :
  PSs X [.If (.Compare (.Name xr (P 0)) [.Is] [.Constant .none (J 0) (P 1)] (P 2)) [.Return (some (.Constant .none (J 1) (P 3))) (P 4)] [] (P 5),
   .Assign [.Name xs (P 6)] (.List [.Call (.Name "isinstance" (P 40)) [.Name xr (P 41),.Name "NoRow" (P 42)] [] (P 43),.Call (.Name "isinstance" (P 44)) [.Name xr (P 45),.Name "NoPart" (P 46)] [] (P 47),.Call (.Name "isinstance" (P 48)) [.Name xr (P 49),.Name "NoNumber" (P 50)] [] (P 51)] (P 7)) (P 8),
   .Assign [.Name xs (P 9)] (.BinOp (.Name xs (P 10)) .Add (.List [.Call (.Name "isinstance" (P 52)) [.Name xr (P 53),.Name "NoHeads" (P 54)] [] (P 55),.Call (.Name "isinstance" (P 56)) [.Name xr (P 57),.Name "NotBeside" (P 58)] [] (P 59),.Call (.Name "isinstance" (P 60)) [.Name xr (P 61),.Name "NotIn" (P 62)] [] (P 63)] (P 11)) (P 12)) (P 13),
   .Assign [.Name xs (P 14)] (.BinOp (.Name xs (P 15)) .Add (.List [.Call (.Name "isinstance" (P 64)) [.Name xr (P 65),.Name "NoTurn" (P 66)] [] (P 67),.Call (.Name "isinstance" (P 68)) [.Name xr (P 69),.Name "NoLot" (P 70)] [] (P 71),.Call (.Name "isinstance" (P 72)) [.Name xr (P 73),.Name "TooMany" (P 74)] [] (P 75)] (P 16)) (P 17)) (P 18),
   .Expr (.Call (.Attribute (.Name xs (P 19)) "append" (P 30)) [.Call (.Name "isinstance" (P 76)) [.Name xr (P 77),.Name "BadNote" (P 78)] [] (P 79)] [] (P 31)) (P 20),
   .If (.BoolOp .Or [.UnaryOp .Not (.Call (.Name "isinstance" (P 80)) [.Name xr (P 81),.Name "ValueError" (P 82)] [] (P 83)) (P 21),sumE] (P 22)) [.Return (some (.UnaryOp .USub (.Constant (.int 1) (J 2) (P 23)) (P 24))) (P 25)] [] (P 26),
   .Return (some (.Call (.Attribute (.Name xs (P 27)) "index" (P 32)) [.Constant (.bool true) (J 3) (P 28)] [] (P 33))) (P 29)]
   (Xy X.K ir is cl ts):=by
 have cj:∀j (x:Str),j<11->Z2[j]? = some x->X.mg x=some (.ref (cl.getD j 0)):=λj x hj e=>by
  have hl:j<cl.length:=by rw[R.len];exact hj
  exact R.nm j _ x (by rw[Pb hl,PQ,Pb hl];rfl) e
 have vr:Vis X.env.scope xr:=.inl hv;have vs:Vis X.env.scope xs:=.inl hw;have is:∀{a b c d:Pos} (j:Nat) (x:Str),j<11->Z2[j]? = some x->(x == ("__debug__" : Str))=false->PE X (.Call (.Name "isinstance" a) [.Name xr b,.Name x c] [] d) (tIs X.K ir (.ref (cl.getD j 0))):=λj x h e hd=>
  uj hi vr g0 m0 (gc x (NE e)) (cj j x h e) r1 r2 hd
 unfold Xy
 dsimp only
 refine Yn (zn (wR (vq (YI hi vr r1 r2))) (Wi (Vy Qh)) VQ) ?_;refine Yn (Wk hN hj (.inl hw) (VO (Zr (is 1 "NoRow" (by decide) rfl (by decide)) (Zr (is 2 "NoPart" (by decide) rfl (by decide)) (Zr (is 3 "NoNumber" (by decide) rfl (by decide)) Yb)))) rfl (.inr hw)) ?_
 refine Yn (Wk hN hj (.inl hw) (X7 Qu (YI hj vs s1 s2) (VO (Zr (is 4 "NoHeads" (by decide) rfl (by decide)) (Zr (is 5 "NotBeside" (by decide) rfl (by decide)) (Zr (is 6 "NotIn" (by decide) rfl (by decide)) Yb))))) rfl (.inr hw)) ?_
 refine Yn (Wk hN hj (.inl hw) (X7 Qu (YI hj vs s1 s2) (VO (Zr (is 7 "NoTurn" (by decide) rfl (by decide)) (Zr (is 8 "NoLot" (by decide) rfl (by decide)) (Zr (is 9 "TooMany" (by decide) rfl (by decide)) Yb))))) rfl (.inr hw)) ?_
 refine Yn (Jk (zV PySem.F.plainAttrs_list PySem.F.slot_list_append PySem.F.type_list_append XR (YI hj vs s1 s2) (Zr (is 10 "BadNote" (by decide) rfl (by decide)) Yb) rfl rfl l1 rfl rfl) rfl) ?_
 refine Yn (zn (PW.pt (xN (zZ (wC (wv hi vr g0 m0 g1 m1 r1 r2))) (GT hs))) (Wi (Vy (xK ze zR))) VQ) ?_;exact Wi (Vy (zV PySem.F.plainAttrs_list PySem.F.slot_list_index PySem.F.type_list_index zf (YI hj vs s1 s2) (Zr xP Yb) rfl rfl l2 rfl rfl))
end
end Sd
namespace Gn
open PySem PySem.Spec PyProof.Rows L2
open Ev (D Ob Za Lc R E Sm Calls Walk Fl Fn Bop Cop Ty Bf Mf)
open Sd (CX1 spX xwE Errs Cls1 DefX)
structure Cls (K:PySem.W.Frag) (mg:Str->Option Value) (base:Heap) (cl:List Addr):Prop where
 er:Errs K mg cl
 rs:∀(c:Nat) (S C:Addr),cl[0]? = some S->cl[c+1]? = some C->Cls1 base S C
def JQ (P:Program) (w:World) (K:PySem.W.Frag) (mg:Str->Option Value) (base:Heap) (cl:List Addr) (fs:List FR) (F:List Fn) (f:Nat->Addr) (fd:Nat->FuncData) (d:Nat):Prop:=
 ∀i r,fs[i]? = some r->FnOk P w K mg base (CX1 P w) d (f i) (fd i) r.ps (spX K cl (Ev.Zg F d) i)
def BdX (fs:List FR) (zs:List Str) (gs:List (Str×Gv)) (F:List Fn) (i:Nat) (r:FR) (fn:Fn):Prop:=
 ∀(P:Program) (w:World) (K:PySem.W.Frag) (mg:Str->Option Value) (base:Heap) (cl:List Addr) (f:Nat->Addr) (fd:Nat->FuncData) (d:Nat),Top K mg fs zs gs f fd->Cls K mg base cl->JQ P w K mg base cl fs F f fd d->r.N.Nodup->
  ∀(cdv:Value) (A:Around) (outer:List Env) (s:Shared) (H:Hp) (E:XK),Room d (A.deeper (envOfC r.x (Zb r.st) s.heap.objs.size (f i) cdv))->(A.deeper (envOfC r.x (Zb r.st) s.heap.objs.size (f i) cdv)).units+7<cLine->
   Bx (Sd.CSs (YU (CX1 P w) P w K mg base r.N r.x (Zb r.st) (f i) cdv A outer s H E) (xwE cl E) (Ev.Zg F d) (Zj r.st) fn.body)
def OkX (fs:List FR) (zs:List Str) (gs:List (Str×Gv)) (F:List Fn):Nat->List FR->List Fn->Prop
 |_,[],[]=>True
 |i,r::rs,fn::fns=>(fn.ns=r.N.length/\fn.ps=r.ps.length/\scB r.N r.k (Zb r.st)=true/\BdX fs zs gs F i r fn)/\OkX fs zs gs F (i+1) rs fns
 |_,_,_=>False
theorem OkX.get {fs:List FR}{zs:List Str}{gs:List (Str×Gv)}{F:List Fn}:∀{rs:List FR}{fns:List Fn}{i0:Nat},OkX fs zs gs F i0 rs fns->∀i r,rs[i]? = some r->∃fn,fns[i]? = some fn/\fn.ns=r.N.length/\fn.ps=r.ps.length/\scB r.N r.k (Zb r.st)=true/\BdX fs zs gs F (i0+i) r fn
 |[],_,_,_,i,r,e=>by simp at e
 |_::_,[],_,h,_,_,_=>h.elim
 |r::rs,fn::fns,i0,h,0,r',e=>by
  simp at e;subst e;exact⟨fn,rfl,h.1.1,h.1.2.1,h.1.2.2.1,h.1.2.2.2⟩
 |r::rs,fn::fns,i0,h,i+1,r',e=>by
  obtain⟨g,a,b,c,d,q⟩:=OkX.get h.2 i r' (by simpa using e)
  exact⟨g,by simpa using a,b,c,d,by rw[Nat.add_assoc,Nat.add_comm 1 i] at q;exact q⟩
theorem Jo {P:Program}{w:World}{K:PySem.W.Frag}{mg:Str->Option Value}{base:Heap}{cl:List Addr}{fs:List FR}{zs:List Str}{gs:List (Str×Gv)}{F G:List Fn}{f:Nat->Addr}{fd:Nat->FuncData}(O:OkX fs zs gs F 0 fs G) (hG:∀(i:Nat) (fn:Fn),G[i]? = some fn->F[i]? = some fn) (T:Top K mg fs zs gs f fd) (L:Cls K mg base cl):∀d,JQ P w K mg base cl fs F f fd d
 |0=>λi r h=>Sd.zJ
 |d+1=>λi r h=>by
  obtain⟨fn,a,b,c,e,q⟩:=O.get i r h;rw[Nat.zero_add] at q;have S:=XU e;exact Sd.GO (hG i fn a) b c (T.d i r h) S λcdv A outer s H E hr=>(q P w K mg base cl f fd d T L (Jo O hG T L d) S.nd cdv A outer s H E hr (Sd.hu7 hr)).h
section
variable {X:Cx}{xw:Nat->Hp->Prop}{C:Calls}{e a b:Expr}{i j:Ev.E}{es:List Expr}{is:List Ev.E}{pos p p2 p3 jp np cpos:Pos}{fs:List FR}{zs:List Str}{gs:List (Str×Gv)}{F:List Fn}{f:Nat->Addr}{fd:Nat->FuncData}{d:Nat}{cl:List Addr}
theorem zO {n:Nat}{x:Str}{E:XK}(D:DefX X E) (T:Top X.K X.mg fs zs gs f fd) (h:JQ X.prog X.w X.K X.mg X.base cl fs F f fd d) (hr:Room d X.A) (ha:Bx (Sd.CA X (xwE cl E) (Ev.Zg F d) (e::es) is)) (hx:(fs[n]?).map FR.x=some x) (hg:Gl X x) (hdb:(x == ("__debug__" : Str))=false)
  (he:starEach (e::es) X.env=(false,eval e X.env)::starEach es X.env) (hpl:(backTo pos (starEach es X.env)).any (·.1)=false):Bx (Sd.CE X (xwE cl E) (Ev.Zg F d) (.Call (.Name x p) (e::es) [] pos) (.call n is)):=by
 cases e0:fs[n]? with
 |none=>rw[e0] at hx;cases hx
 |some r=>
  rw[e0] at hx;obtain rfl:r.x=x:=Pa hx;exact⟨Sd.Uz (h n r e0) hr (Sd.v8 D) (λ_ _ z=>z) (T.m n r e0) (T.d n r e0).kp (T.b n r e0) ha.h hg hdb he hpl⟩
theorem wF {n:Nat}{x:Str}(T:Top X.K X.mg fs zs gs f fd) (h:JQ X.prog X.w X.K X.mg X.base cl fs F f fd d) (hr:Room d X.A) (ha:Bx (Sd.CA X Sd.nx (Ev.Zg F d) (e::es) is)) (hx:(fs[n]?).map FR.x=some x) (hg:Gl X x) (hdb:(x == ("__debug__" : Str))=false)
  (he:starEach (e::es) X.env=(false,eval e X.env)::starEach es X.env) (hpl:(backTo pos (starEach es X.env)).any (·.1)=false):Bx (Sd.CE X Sd.nx (Ev.Zg F d) (.Call (.Name x p) (e::es) [] pos) (.call n is)):=by
 cases e0:fs[n]? with
 |none=>rw[e0] at hx;cases hx
 |some r=>
  rw[e0] at hx;obtain rfl:r.x=x:=Pa hx;exact⟨Sd.Uz (E:=E0) (h n r e0) hr Sd.uo (λ_ _ z=>z.elim) (T.m n r e0) (T.d n r e0).kp (T.b n r e0) ha.h hg hdb he hpl⟩
theorem ub {c:Nat}{x y:Str}{k:Nat}{E:XK}(D:DefX X E) (hc:X.calm=true) (L:Cls X.K X.mg X.base cl) (hx:Sd.Z2[c+1]? = some x) (hg:Gl X x) (hd:(x == ("__debug__" : Str))=false)
  (he:starEach [.Constant (.str y) k p] X.env=(false,eval (.Constant (.str y) k p) X.env)::starEach [] X.env) (hpl:(backTo cpos (starEach [] X.env)).any (·.1)=false) :
  Bx (Sd.CS X (xwE cl E) C (.Raise (some (.Call (.Name x np) [.Constant (.str y) k p] [] cpos)) none pos) (.raise (c+1) [])):=by
 have hl:c+1<cl.length:=by rw[L.er.len];have:=(Pc.mp hx).1;exact this
 have h0:0<cl.length:=by omega
 exact⟨Sd.zx D hc (L.rs c _ _ (Pb h0) (Pb hl)) (Pb hl) hg (L.er.nm (c+1) _ x (Pb hl) hx) hd he hpl⟩
theorem vE {c m:Nat}{x:Str}{E:XK}{v1 v2:Expr}{rest:List Expr}(D:DefX X E) (hc:X.calm=true) (L:Cls X.K X.mg X.base cl) (hj:Bx (Sd.CJ X (xwE cl E) C (v1::v2::rest) m is)) (hml:m<=sizeLine) (hx:Sd.Z2[c+1]? = some x) (hg:Gl X x) (hd:(x == ("__debug__" : Str))=false)
  (he:starEach [.JoinedStr (v1::v2::rest) jp] X.env=(false,eval (.JoinedStr (v1::v2::rest) jp) X.env)::starEach [] X.env) (hpl:(backTo cpos (starEach [] X.env)).any (·.1)=false) :
  Bx (Sd.CS X (xwE cl E) C (.Raise (some (.Call (.Name x np) [.JoinedStr (v1::v2::rest) jp] [] cpos)) none pos) (.raise (c+1) is)):=by
 have hl:c+1<cl.length:=by rw[L.er.len];have:=(Pc.mp hx).1;exact this
 have h0:0<cl.length:=by omega
 exact⟨Sd.JW D hc (L.rs c _ _ (Pb h0) (Pb hl)) (Pb hl) hj.h hml hg (L.er.nm (c+1) _ x (Pb hl) hx) hd he hpl⟩
end
end Gn
namespace Gn
open PySem PySem.Spec PyProof.Rows L2
open Ev (D Ob Za Lc R E Sm Calls Walk Fl Fn Bop Cop Ty Bf Mf run runs)
open Sd (CX1 spX xwE Errs Cls1 DefX St3 End Rep Rq LocR Yf)
def spL (Pt:Addr) (K:PySem.W.Frag) (cl:List Addr) (C:Calls) (n:Nat):Sp:=λvs H Q E=>(∃ps,H Pt=some (.tbl ps))/\spX K cl C n vs H Q E
section
variable {P:Program}{w:World}{K:PySem.W.Frag}{mg:Str->Option Value}{base:Heap}{cl:List Addr}
theorem zK {F:List Fn}{n d:Nat}{fn:Fn}{x qual:Str}{st:Stmt}{f c Pt:Addr}{fd:FuncData}{N ps:List Str}{k:Nat}(hF:F[n]? = some fn) (hns:fn.ns=N.length) (hps:fn.ps=ps.length) (Fu:Fun K x qual st f fd) (S:FnScope N ps (Zb st)) (hcd:fd.code=.ref c)
  (hb:∀(A:Around) (outer:List Env) (s:Shared) (H:Hp) (E:XK),(∃ps,H Pt=some (.tbl ps))->Room k (A.deeper (envOfC qual (Zb st) s.heap.objs.size f (.ref c)))->
   Sd.CSs (YU (CX1 P w) P w K mg base N qual (Zb st) f (.ref c) A outer s H E) (xwE cl E) (Ev.Zg F d) (Zj st) fn.body) :
  FnOk P w K mg base (CX1 P w) (k+1) f fd ps (spL Pt K cl (Ev.Zg F (d+1)) n):=by
 have eq:∀ds S,Ev.Zg F (d+1) n ds S=if ds.length=fn.ps then (runs (Ev.Zg F d) fn.body (Ev.start fn.ns ds) S).bind λf S=>match f with
    |.ret x=>.ok x S
    |.nx _=>.ok .non S
    |_=>.no
   else .no:=λds S=>by
  rw[Ev.Zg,hF]
  all_goals rfl
 obtain⟨oc,od,kV,doc,pm,an,cdv,ct,osl,rfl,lk,hcode⟩:=Fu.ex;obtain rfl:cdv=.ref c:=hcd;refine x6 lk hcode S (λvs H Q E ⟨_,ρ,ds,S,st,r,h⟩=>?_) λA outer s H vs Q E hr ⟨hP,ρ,ds,S',st,r,h⟩=>⟨_,hb A outer s H E hP hr,ρ,Ev.start fn.ns ds,S',st,Sd.LocR.start r N fn.ns hns,?_⟩
 ·rw[eq] at h
  obtain⟨hl,_⟩:=Sd.End.guard h;rw[r.length,hl,hps]
 ·rw[eq] at h
  obtain⟨hl,h⟩:=Sd.End.guard h;cases q:runs (Ev.Zg F d) fn.body (Ev.start fn.ns ds) S' with
  |no=>rw[q] at h;exact h
  |ex c S2=>rw[q] at h;exact h
  |ok fl S2=>
   rw[q] at h;cases fl with
   |ret x=>exact λρ' H' v g st r=>h ρ' H' v g st r
   |nx l=>exact λρ' H' σ' g st lr=>h ρ' H' .non g st Yf
   |brk l=>exact False.elim h
   |cnt l=>exact False.elim h
theorem xC {C:Calls}{n:Nat}{H:Hp}{a Pt:Addr}{ns:List Int}(hO:Sd.Jq Pt H) (hS:SqL K H a (ns.map V.int)) (h:∃S',C n [.loc 0] [.scr ns]=.ok (.bl true) S'):spL Pt K cl C n [.ref a] H (λv _=>v=.bl true) λ_ _ _=>False:=by
 obtain⟨S',e⟩:=h;refine⟨⟨_,hO.1⟩,[a],[.loc 0],[.scr ns],⟨rfl,λm k b h1 h2 hm=>?_,λm o b h1 h2=>?_,λQ ps e=>?_⟩,Sd.Rq.cons (Sd.Wb rfl) Sd.Rq.nil,?_⟩
 ·have l1:=(Pc.mp h1).1
  have l2:=(Pc.mp h2).1;simp at l1 l2;omega
 ·have l1:=(Pc.mp h1).1
  have e0:m=0:=by simp at l1;exact l1
  subst e0;cases h1;cases h2;show Sd.Scr K H a ns;rcases hS with (hS | hS) | hS
  ·by_cases z:a=Pt
   ·rw[z,hO.1] at hS;cases hS
   ·rcases hO.2 a z with z | ⟨o,xs,z⟩
    ·rw[z] at hS;cases hS
    ·rw[z] at hS;cases hS
  ·exact .inl hS
  ·exact .inr hS
 ·by_cases z:Q=Pt
  ·subst z
   rw[hO.1] at e;cases e;exact⟨trivial,λpos cv q=>by cases q⟩
  ·rcases hO.2 Q z with z | ⟨_,_,z⟩ <;> (rw[z] at e;cases e)
 ·rw[e]
  exact λρ' H' v _ _ r=>r.bl'
end
def BdL (fs:List FR) (zs:List Str) (gs:List (Str×Gv)) (F:List Fn) (r:FR) (fn:Fn):Prop:=
 ∀(P:Program) (w:World) (K:PySem.W.Frag) (mg:Str->Option Value) (base:Heap) (cl:List Addr) (f:Nat->Addr) (fd:Nat->FuncData) (fL c Pt:Addr) (d:Nat),Top K mg fs zs gs f fd->Cls K mg base cl->JQ P w K mg base cl fs F f fd d->r.N.Nodup->
  PySem.W.CodeHd base c Pt->base.BuiltinsAt mg Pt->mainGlobals≠Pt->
  ∀(A:Around) (outer:List Env) (s:Shared) (H:Hp) (E:XK),(∃ps,H Pt=some (.tbl ps))->Room (d+2) (A.deeper (envOfC r.x (Zb r.st) s.heap.objs.size fL (.ref c)))->(A.deeper (envOfC r.x (Zb r.st) s.heap.objs.size fL (.ref c))).units+7<cLine->
   Bx (Sd.CSs (YU (CX1 P w) P w K mg base r.N r.x (Zb r.st) fL (.ref c) A outer s H E) (xwE cl E) (Ev.Zg F d) (Zj r.st) fn.body)
end Gn
namespace Gn
open PySem PySem.Spec PyProof.Rows L2 PySem.W
open Sd (Errs Cls1 ExK Z2 veM)
noncomputable def xI (K:Frag) (cl:List Addr) (i:Nat) (C:Addr):Bool:=
 excIn K C veM "ValueError.__new__" && ((clsIn K C).isSome&&(findIn K (.ref C) "__getattribute__" == some (some (.builtin "BaseException.__getattribute__"))&&(findIn K (.ref C) "__getattr__" == some none &&
  (findIn K (.ref C) "__class__" == some (some (.builtin "object.__class__"))&&(mroIn K C (.type "BaseException") == some true&&(mroIn K C (.type "object") == some true&&(kitOne K (.ref C) (.type "ValueError") == some true &&
   (exmOne K (.ref C) (.ref (cl.getD 0 0)) == some true&&(cl.drop 1).zipIdx.all λq=>kitOne K (.ref C) (.ref q.1) == some (decide (i=q.2))))))))))
noncomputable def Vl (K:Frag) (cl:List Addr):Bool:=
 decide (cl.length=11)&&((cl.zip Z2).all (λq=>nsIn K mainGlobals q.2 == some (some (.ref q.1)))&&(cl.drop 1).zipIdx.all λq=>xI K cl q.2 q.1)
theorem WN {α:Type}{l:List α}{f:α×Nat->Bool}(h:l.zipIdx.all f=true) {i:Nat}{a:α}(e:l[i]? = some a):f (a,i)=true:=by
 refine PH.mp h (a,i) ?_;rw[List.mem_zipIdx_iff_getElem?];exact e
section
variable {K:Frag}{cl:List Addr}
theorem UM (h:Vl K cl=true) {i:Nat}{C:Addr}(e:cl[i+1]? = some C):xI K cl i C=true:=by
 unfold Vl at h;rw[Ph,Ph] at h;have e1:(cl.drop 1)[i]? = some C:=by rw[List.getElem?_drop,Nat.add_comm];exact e
 exact WN h.2.2 e1
theorem xu {hh:Heap}{mg:Str->Option Value}(X:K.In hh) (G:hh.Ns mainGlobals mg) (h:Vl K cl=true):Errs K mg cl:=by
 have h0:=h;unfold Vl at h0;rw[Ph,Ph,Nv] at h0;obtain⟨hl,hn,_⟩:=h0;have parts:∀{i:Nat} {C:Addr},cl[i+1]? = some C->_:=λ{i C} e=>by
  have:=UM h e;unfold xI at this;simp only[Ph,beq_iff_eq] at this;exact this
 refine⟨hl,λj C x e1 e2=>?_,λj C e=>?_,λi j C D e1 e2=>?_,λi C e=>?_,λi C S e1 e2=>?_⟩
 ·have:=PH.mp hn (C,x) (NE (i:=j) (by rw[List.getElem?_zip_eq_some];exact⟨e1,e2⟩))
  exact mg_of X G (beq_iff_eq.mp this)
 ·obtain⟨_,a,b,c,d,e5,e6,_⟩:=parts e
  exact⟨a,b,c,d,e5,e6⟩
 ·obtain⟨_,_,_,_,_,_,_,_,_,z⟩:=parts e1
  have e3:(cl.drop 1)[j]? = some D:=by rw[List.getElem?_drop,Nat.add_comm];exact e2
  exact beq_iff_eq.mp (WN z e3)
 ·obtain⟨_,_,_,_,_,_,_,z,_⟩:=parts e
  exact z
 ·obtain⟨_,_,_,_,_,_,_,_,z,_⟩:=parts e1
  have:cl.getD 0 0=S:=by rw[PQ,e2];rfl
  rw[this] at z;exact z
theorem wA {base:Heap}(X:K.In base) {C S:Addr}(q:excIn K C veM "ValueError.__new__" = true):Cls1 base S C:=by
 unfold excIn at q;split at q
 case h_2=>cases q
 case h_1 d0 k sl lk=>
  split at q
  case h_2=>cases q
  case h_1 c0 rest s0 s1 s2 s3 made s5 em es=>
   repeat rw[Ph] at q
   obtain⟨⟨⟨⟨⟨y1,y2⟩,y3⟩,y4⟩,y5⟩,y6⟩:=q;cases beq_iff_eq.mp y1;cases beq_iff_eq.mp y2;have y3:k.hasDel=false:=by simpa using y3
   cases k;cases em;cases y3;have es:sl = #[s0,s1,s2,s3,some (.builtin "ValueError.__new__"),s5]:=Array.toList_inj.mp es;cases es;exact⟨rest,_,_,_,_,_,_,_,_,_,d0,s0,s1,s2,s3,s5,_,X _ _ lk,.of_isNs (isNs_of_in X y5),nsMap_none_of_in X y5 (beq_iff_eq.mp y6),tail_of_in X y4⟩
theorem y8 {hh base:Heap}{mg:Str->Option Value}(X:K.In hh) (G:hh.Ns mainGlobals mg) (XB:K.In base) (h:Vl K cl=true):Cls K mg base cl:=by
 refine⟨xu X G h,λc S C e0 e1=>wA XB ?_⟩
 have:=UM h e1;unfold xI at this;rw[Ph] at this;exact this.1
end
end Gn
namespace Gn
open PySem PySem.Spec PyProof.Rows L2
open Ev (D Ob Za Lc R E Sm Calls Walk Fl Fn Bop Cop Ty Bf Mf)
open Sd (CX1)
theorem xt {l:PySem.W.OpenLaw}{w:World}{K:PySem.W.Frag}{h:Heap}{mg:Str->Option Value}{fa c Pt aL:Addr}{fs:List FR}{zs:List Str}{gs:List (Str×Gv)}{F G:List Fn}{L:Nat}{fnL:Fn}{fdL:FuncData}{st:Stmt}{N:List Str}{as cl:List Addr}{fds:List FuncData}
  (X:K.In h) (Gs:h.Ns mainGlobals mg) (hfa:mg "law" = some (.ref fa)) (O:OkX fs zs gs F 0 fs G) (hG:∀(i:Nat) (fn:Fn),G[i]? = some fn->F[i]? = some fn) (A:FnsAt K fs as fds) (Z:ZsAt K zs) (Y:GsAt K gs) (Er:Vl K cl=true)
  (AL:FnsAt K [⟨"law",st,"_law_script" :: N,1⟩] [aL] [fdL]) (hFL:F[L]? = some fnL) (h1:fnL.ns=N.length+1) (h2:fnL.ps=1) (hsc:scB ("_law_script" :: N) 1 (Zb st)=true) (B:BdL fs zs gs F ⟨"law",st,"_law_script" :: N,1⟩ fnL) (hcode:fdL.code=.ref c) :
  ∃fd:FuncData,(∀(s:Shared) (v:Value),BindsTo s fd ⟨[v],[]⟩ [("_law_script",v)])/\∀base:Heap,K.In base->base.Ns mainGlobals mg->PySem.W.CodeHd base c Pt->base.BuiltinsAt mg Pt->mainGlobals≠Pt->FnOk l.prog w K mg base (CX1 l.prog w) 65 fa fd ["_law_script"] (spL Pt K cl (Ev.Zg F 63) L):=by
 have T:Top K mg fs zs gs (λi=>as.getD i 0) (λi=>fds.getD i fdL):=
  ⟨λi r e=>(A.get i r e).2.1,λi r e=>by
   obtain⟨_,F,B⟩:=A.get (fd0:=fdL) i r e;exact F.binds B,λi r e=>PySem.W.mg_of X Gs (A.get (fd0:=fdL) i r e).1,λx hx=>PySem.W.mg_none_of X Gs (Z.get x hx),λy hy=>Y.get X Gs y hy⟩
 obtain⟨hn,Fu,Bn⟩:=AL.get (fd0:=fdL) 0 _ rfl;have e:=hfa.symm.trans (PySem.W.mg_of X Gs hn);cases e;have S:=XU hsc;refine⟨fdL,λs v=>?_,λbase XB GB hC hB hP=>?_⟩
 ·obtain⟨oc,od,kV,doc,pm,an,cdv,ct,osl,e,lk,hcd⟩:=Fu.ex
  have e:fdL=_:=e;rw[e];exact .of_eq (Bn kV doc pm an cdv ct [v] rfl)
 ·have Lc:=y8 X Gs XB Er
  exact zK (k:=64) (d:=62) (N:="_law_script" :: N) hFL h1 h2 Fu S hcode λA outer s H E hp hr=>(B l.prog w K mg base cl _ _ _ c Pt 62 T Lc (Jo O hG T Lc 62) S.nd hC hB hP A outer s H E hp hr (Sd.hu7 hr)).h
theorem GI {l:PySem.W.OpenLaw}{q:Program}{loose:List Str}{XP:(Str->Option Value)->Heap->Prop}{YP:World->Heap->Prop}{d:DefRec}{K:Params->PySem.W.Frag}{F:List Fn}{L:Nat}{c Pt:Addr}{dr:DefRec}{cl:World->List Addr}(hok:∀ns:List Int,∃S,Ev.Zg F 63 L [.loc 0] [.scr ns]=.ok (.bl true) S) (hn:l.most=some 63) (hdf:d.params.defaults=[])
  (hY:∀(w:World) (h:Heap),YP w h->(K w.params).In h) (hrec:(recsOf q).find? (λe=>e.name == d.name)=some dr) (ht:∀w:World,PySem.W.tabIn (K w.params) d.name=some (c,Pt)) (hK:∀w:World,PySem.W.noTabs (K w.params)=true)
  (hF:∀(w:World) (mg:Str->Option Value) (fa:Addr) (h:Heap),(K w.params).In h->h.Ns mainGlobals mg->mg d.name=some (.ref fa)->
   ∃fd:FuncData,(∀(s:Shared) (u:Value),BindsTo s fd ⟨[u],[]⟩ [("_law_script",u)])/\∀base:Heap,(K w.params).In base->base.Ns mainGlobals mg->PySem.W.CodeHd base c Pt->base.BuiltinsAt mg Pt->mainGlobals≠Pt->FnOk l.prog w (K w.params) mg base (CX1 l.prog w) 65 fa fd ["_law_script"] (spL Pt (K w.params) (cl w) (Ev.Zg F 63) L)) :
  PySem.W.WalkO q loose XP YP l.row.toRowW d [] (λf vs=>PySem.call f vs):=
 Sd.GI (n:=63) (k:=65) (x:="_law_script") (CX:=λw=>CX1 l.prog w) (sp:=λw Pt=>spL Pt (K w.params) (cl w) (Ev.Zg F 63) L) hn (by decide) hdf ⟨rfl,by decide,by decide⟩ hY hrec ht hK hF (λw H a ns hl hO hS=>xC hO hS (hok ns)) λ_ _ _ _ _ ⟨_,_,_,_,_,_,_,_,_,_,_,_,_,_,z⟩=>z
end Gn
namespace Gn
open PySem PySem.Spec PyProof.Rows L2
open Ev (D Ob Za Lc R E Sm Calls Walk Fl Fn Bop Cop Ty Bf Mf tst)
open Sd (CX1 spX xwE Errs Cls1 DefX LamS LamIn Xy tB3 ksum Yc Z2)
theorem Xg {env:Env}:∀(l:List (Str×NameKind)) (acc:List (Str×Addr)),(∀y∈l,y.2=.free->(env.cells.lookup y.1).isSome=true)->(∀x c,(x,c)∈acc->env.cells.lookup x=some c)->
  ∃cs,(forIn l acc (λy r=>if y.2 == .free then do let a <-cellOf env y.1;pure (ForInStep.yield ((y.1,a)::r)) else pure (ForInStep.yield r)):Sem _)=pure cs/\(∀x c,(x,c)∈cs->env.cells.lookup x=some c)/\(∀x c,(x,c)∈acc->(x,c)∈cs)/\∀x,(x,NameKind.free)∈l->∃c,(x,c)∈cs
 |[],acc,_,ha=>⟨acc,rfl,ha,λ_ _ h=>h,λx h=>by simp at h⟩
 |(x,k)::l,acc,hl,ha=>by
  by_cases e:k=.free
  ·subst e
   have h0:=hl (x,.free) (by simp) rfl
   obtain⟨c,hc⟩:=Nc.mp h0;obtain⟨cs,e1,h1,h2,h3⟩:=Xg l ((x,c)::acc) (λy hy=>hl y (by simp[hy])) (λy d hd=>by
    rcases Pr.mp hd with z | z
    ·cases z;exact hc
    ·exact ha y d z)
   refine⟨cs,?_,h1,λy d hd=>h2 y d (by simp[hd]),λy hy=>?_⟩
   ·rw[<-e1]
    unfold cellOf;have hc:env.cells.lookup x=some c:=hc;simp[hc]
   ·rcases Pr.mp hy with z | z
    ·cases z;exact⟨c,h2 x c (by simp)⟩
    ·exact h3 y z
  ·obtain⟨cs,e1,h1,h2,h3⟩:=Xg l acc (λy hy=>hl y (by simp[hy])) ha
   refine⟨cs,?_,h1,h2,λy hy=>?_⟩
   ·rw[<-e1]
    simp[e]
   ·rcases Pr.mp hy with z | z
    ·cases z;exact absurd rfl e
    ·exact h3 y z
theorem Xc {scope:Scope}{env:Env}(hl:∀y∈scope.names,y.2=.free->(env.cells.lookup y.1).isSome=true):∃cs,closureFor scope env=pure cs/\(∀x c,(x,c)∈cs->env.cells.lookup x=some c)/\∀x,(x,NameKind.free)∈scope.names->∃c,(x,c)∈cs:=by
 obtain⟨cs,e,h1,_,h3⟩:=Xg scope.names [] hl (λx c h=>by simp at h)
 refine⟨cs,?_,h1,h3⟩;rw[<-e];unfold closureFor;simp
theorem Y4:∀(names:List (Str×NameKind)) (n:Nat) (acc:List (Str×Addr)),(acc.Pairwise λx y=>x.2≠y.2)->(∀y∈acc,y.2<n)->(cellsFrom n names acc).Pairwise λx y=>x.2≠y.2
 |[],_,_,h,_=>h
 |(x,k)::r,n,acc,h,hn=>by
  unfold cellsFrom;split
  ·refine Y4 r (n+1) _ (List.pairwise_cons.mpr ⟨λy hy z=>?_,h⟩) λy hy=>?_
   ·have:=hn y hy
    exact absurd (show n=y.2 from z) (Nat.ne_of_gt this)
   ·rcases Pr.mp hy with rfl | hy
    ·exact Nat.lt_succ_self n
    ·exact Nat.lt_succ_of_lt (hn y hy)
  ·exact Y4 r n acc h hn
theorem ZT {α:Type}{l:List (Str×α)}{x:Str}{a:α}(h:l.lookup x=some a):(x,a)∈l:=P7 h
theorem JY {l:List (Str×Addr)}(h:l.Pairwise λx y=>x.2≠y.2) {x y:Str}{c:Addr}(h1:(x,c)∈l) (h2:(y,c)∈l):x=y:=by
 induction h with
 |nil=>simp at h1
 |cons hd _ ih=>
  rcases Pr.mp h1 with z1 | z1 <;> rcases Pr.mp h2 with z2 | z2
  ·exact congrArg Prod.fst (z1.trans z2.symm)
  ·rw[<-z1] at hd;exact absurd rfl (hd (y,c) z2)
  ·rw[<-z2] at hd;exact absurd rfl (hd (x,c) z1)
  ·exact ih z1 z2
theorem Va {l:List (Str×Addr)}{x:Str}{c:Addr}(h:(x,c)∈l):∃d,l.lookup x=some d:=by
 induction l with
 |nil=>simp at h
 |cons p l ih=>
  obtain⟨y,d⟩:=p;rw[PL];by_cases e:x=y
  ·subst e;exact⟨d,by simp⟩
  ·rcases Pr.mp h with z | z
   ·cases z;exact absurd rfl e
   ·have:(x == y)=false:=by simpa using e
    rw[this];exact ih z
noncomputable def wg (sc scope:Scope):Bool:=
 (match scope.kind with | .function=>true | _=>false)&&(!scope.isCoroutine&&(!scope.isGenerator&&scope.names.all λy=>decide (y.2≠.cell)&&(decide (y.2≠.local)&&(!decide (y.2=.free)||decide (sc.names.lookup y.1=some .cell)))))
theorem vi {X:Cx}{sc scope:Scope}{n:Nat}(hs:X.env.scope=sc) (hc:X.env.cells=cellsFrom n sc.names []) (h:wg sc scope=true):∃clos,closureFor scope X.env=pure clos/\LamIn X scope clos:=by
 unfold wg at h;simp only[Ph,Bool.not_eq_true',Nv,PH,N6,decide_eq_false_iff_not] at h;obtain⟨h1,h2,h3,h4⟩:=h;have fr:∀x,(x,NameKind.free)∈scope.names->sc.names.lookup x=some .cell:=λx hx=>by
  rcases (h4 _ hx).2.2 with z | z
  ·exact absurd rfl z
  ·exact z
 obtain⟨cs,e,c1,c2⟩:=Xc (scope:=scope) (env:=X.env) λy hy z=>by
  obtain⟨x,k⟩:=y;cases z;obtain⟨c,q⟩:=L2.WG (n:=n) (fr x hy);rw[hc,q];rfl
 have ap:=Y4 sc.names n [] (by simp) (by simp)
 have lk:∀x c,cs.lookup x=some c->X.env.cells.lookup x=some c:=λx c q=>c1 x c (ZT q)
 refine⟨cs,e,⟨?_,h2,h3,λy hy=>(h4 y hy).1,λx v=>?_,λx q=>?_,λx y c q1 q2=>?_⟩,lk,λx q=>?_⟩
 ·cases e:scope.kind <;> rw[e] at h1 <;> first | rfl | cases h1
 ·rcases v with v | v | v
  ·exact absurd rfl (h4 _ (ZT v)).2.1
  ·exact absurd rfl (h4 _ (ZT v)).1
  ·exact v
 ·obtain⟨c,q⟩:=c2 x (ZT q)
  exact Va q
 ·have a1:=ZT (lk x c q1)
  have a2:=ZT (lk y c q2);rw[hc] at a1 a2;exact JY ap a1 a2
 ·rw[hs]
  exact fr x (ZT q)
noncomputable abbrev rN:List Str:=["_law_call","_law_error","e","_law_sorts"]
noncomputable def JE (P:Nat->Pos) (sumE:Expr):List Stmt:=
 let n:="_law_error"
 let s:="_law_sorts"
 let i:=λ(x:Str) (k:Nat)=>Expr.Call (.Name "isinstance" (P k)) [.Name n (P (k+1)),.Name x (P (k+2))] [] (P (k+3))
 [.If (.Compare (.Name n (P 0)) [.Is] [.Constant .none 0 (P 1)] (P 2)) [.Return (some (.Constant .none 0 (P 3))) (P 4)] [] (P 5),
   .Assign [.Name s (P 6)] (.List [i "NoRow" 40,i "NoPart" 44,i "NoNumber" 48] (P 7)) (P 8),
   .Assign [.Name s (P 9)] (.BinOp (.Name s (P 10)) .Add (.List [i "NoHeads" 52,i "NotBeside" 56,i "NotIn" 60] (P 11)) (P 12)) (P 13),
   .Assign [.Name s (P 14)] (.BinOp (.Name s (P 15)) .Add (.List [i "NoTurn" 64,i "NoLot" 68,i "TooMany" 72] (P 16)) (P 17)) (P 18),
   .Expr (.Call (.Attribute (.Name s (P 19)) "append" (P 30)) [i "BadNote" 76] [] (P 31)) (P 20),
   .If (.BoolOp .Or [.UnaryOp .Not (i "ValueError" 80) (P 21),sumE] (P 22)) [.Return (some (.UnaryOp .USub (.Constant (.int 1) 0 (P 23)) (P 24))) (P 25)] [] (P 26),
   .Return (some (.Call (.Attribute (.Name s (P 27)) "index" (P 32)) [.Constant (.bool true) 0 (P 28)] [] (P 33))) (P 29)]
noncomputable def Ju (P:Nat->Pos):List Stmt:=
 [.Assign [.Name "_law_error" (P 90)] (.Constant .none 0 (P 91)) (P 92),.Try [.Expr (.Call (.Name "_law_call" (P 93)) [] [] (P 94)) (P 95)] [.ExceptHandler (some (.Name "SpaceError" (P 96))) (some "e") [.Assign [.Name "_law_error" (P 97)] (.Name "e" (P 98)) (P 99)] (P 100)] [] [] (P 101)]
noncomputable def Uu (b:List Stmt):Expr:=match b.getD 7 (.Pass ⟨0,0,0,0⟩) with
 |.If (.BoolOp _ [_,e] _) _ _ _=>e
 |_=>.Constant .none 0 ⟨0,0,0,0⟩
noncomputable def GZ (P:Nat->Pos) (sc:Scope):Bool:=
 rN.all (λx=>decide (sc.names.lookup x=some .local))&&(((["isinstance","ValueError"]:List Str)++Z2).all (λx=>decide (sc.names.lookup x=some .globalImplicit))&&((P 30).endLine == (P 31).line&&(P 32).endLine == (P 33).line))
noncomputable abbrev cxR (P:Program) (w:World) (K:PySem.W.Frag) (mg:Str->Option Value) (base:Heap) (st:Stmt) (f:Addr) (cdv:Value) (A:Around) (outer:List Env) (s:Shared) (H:Hp):Cx:=YU (CX1 P w) P w K mg base rN "_law_refused" (Zb st) f cdv A outer s H E0
def z8 (P:Program) (w:World) (K:PySem.W.Frag) (mg:Str->Option Value) (base:Heap) (cl:List Addr) (C:Calls) (d:Nat) (st:Stmt) (f:Addr):Prop:=
 ∀(cdv:Value) (A:Around) (outer:List Env) (s:Shared) (H:Hp),Room (d+1) (A.deeper (envOfC "_law_refused" (Zb st) s.heap.objs.size f cdv))->
  PSs (cxR P w K mg base st f cdv A outer s H) ((Zj st).drop 2) (Xy K 1 3 cl (tB3 (cxR P w K mg base st f cdv A outer s H) Sd.nx (tst C (ksum 3))))
section
variable {P:Program}{w:World}{K:PySem.W.Frag}{mg:Str->Option Value}{base:Heap}{cl:List Addr}{fs:List FR}{zs:List Str}{gs:List (Str×Gv)}{F:List Fn}{f:Nat->Addr}{fd:Nat->FuncData}{d nR:Nat}{st:Stmt}{Pp:Nat->Pos}{C:Calls}
theorem Q5 {sc:Scope}(h:GZ Pp sc=true):(∀x∈rN,sc.names.lookup x=some .local)/\(∀x∈(["isinstance","ValueError"]:List Str)++Z2,sc.names.lookup x=some .globalImplicit)/\((Pp 30).endLine == (Pp 31).line)=true/\((Pp 32).endLine == (Pp 33).line)=true:=by
 unfold GZ at h;simp only[Ph,PH,Nv] at h;exact⟨h.1,h.2.1,h.2.2.1,h.2.2.2⟩
theorem wJ (T:Top K mg fs zs gs f fd) (L:Cls K mg base cl) (hst:(Zj st).drop 2=JE Pp (Uu (Zj st))) (hB:GZ Pp (Zb st)=true) (hsc:scB rN 1 (Zb st)=true) (hz:zs.contains "isinstance" = true) (hz2:zs.contains "ValueError" = true)
  (hsum:∀(cdv:Value) (A:Around) (outer:List Env) (s:Shared) (H:Hp),(A.deeper (envOfC "_law_refused" (Zb st) s.heap.objs.size (f nR) cdv)).units+7<cLine->Bx (Sd.CT (cxR P w K mg base st (f nR) cdv A outer s H) Sd.nx C (Uu (Zj st)) (ksum 3))) :
  z8 P w K mg base cl C d st (f nR):=by
 intro cdv A outer s H hr;obtain⟨b1,b2,b3,b4⟩:=Q5 hB;rw[hst];have gl:∀x,x∈(["isinstance","ValueError"]:List Str)++Z2->Gl (cxR P w K mg base st (f nR) cdv A outer s H) x:=λx hx=>b2 x hx
 exact Sd.yo (X:=cxR P w K mg base st (f nR) cdv A outer s H) (cl:=cl) (ir:=1) (is:=3) (J:=λ_=>0) (P:=Pp) (sumE:=Uu (Zj st)) L.er (XU hsc).nd rfl (b1 _ (by simp)) rfl (b1 _ (by simp)) (gl _ (by simp)) (T.no hz) (gl _ (by simp)) (T.no hz2) (λx hx=>gl x (by simp[hx])) rfl rfl rfl rfl (hsum cdv A outer s H (Sd.hu7 hr)).h b3 b4
theorem uC {X:Cx}{E:XK}{sc:Scope}{n:Nat}{c Pt:Addr}{i:Ev.E}{xw:Nat->Hp->Prop}{body:Expr}{scope:Scope}{lp p pos:Pos}
  (D:DefX X E) (hr:Room (d+2) X.A) (T:Top X.K X.mg fs zs gs f fd) (L:Cls X.K X.mg X.base cl) (RA:z8 X.prog X.w X.K X.mg X.base cl C d st (f nR)) (hx:fs[nR]? = some ⟨"_law_refused",st,rN,1⟩)
  (hst:(Zj st).take 2=Ju Pp) (hB:GZ Pp (Zb st)=true) (hsc:scB rN 1 (Zb st)=true)
  (hP:∃ps,X.H₀ Pt=some (.tbl ps)) (CH:PySem.W.CodeHd X.base c Pt) (hBi:X.base.BuiltinsAt X.mg Pt) (hgP:mainGlobals≠Pt)
  (hfn:X.fn=λ_=>true) (hcode:X.env.code=.ref c) (hs:X.env.scope=sc) (hc:X.env.cells=cellsFrom n sc.names []) (hq:X.env.qual++"<lambda>" = Yc) (hl:wg sc scope=true) (hg:Gl X "_law_refused")
  (hbody:∀(g:Addr) (c':Addr) (clos:List (Str×Addr)) (A:Around) (outer:List Env) (s:Shared) (H:Hp) (E1:XK),LamS scope clos->Room d (A.deeper (PySem.W.envX Yc scope s.heap.objs.size g (.ref c') clos))->(A.deeper (PySem.W.envX Yc scope s.heap.objs.size g (.ref c') clos)).units+7<cLine->Bx (Sd.CE (Sd.cxL X.prog X.w X.K X.mg X.base X.N scope g (.ref c') clos A outer s H E1) (xwE cl E1) C body i)) :
  Bx (Sd.CE X xw C (.Call (.Name "_law_refused" p) [.Lambda ⟨[],[],none,[],[],none,[]⟩ body scope lp] [] pos) (.refu i)):=by
 obtain⟨b1,b2,b3,b4⟩:=Q5 hB;obtain⟨clos,hcl,LI⟩:=vi hs hc hl;have hl0:0<cl.length:=by rw[L.er.len];decide
 have h0:cl[0]? = some cl[0]:=Pb hl0;have hst:Zj st=Ju Pp++(Zj st).drop 2:=by rw[<-hst,List.take_append_drop]
 exact⟨Sd.yt (k:=d) (ic:=0) (ie:=2) (ir:=1) (is:=3) (Nr:=rN) (xc:="_law_call") (xr:="_law_error") (n:="e") (xS:="SpaceError") (ts:=λY=>tB3 Y Sd.nx (tst C (ksum 3))) (fd:=fd nR) D (λx=>by rw[hfn]) hr L.er h0 hP hcode CH hBi hgP hq hcl rfl LI (λpm c' ctv=>rfl)
  (λg c' A outer s H E1 hr=>(hbody g c' clos A outer s H E1 LI.S hr (Sd.hu7 hr)).h) hg (T.m nR _ hx) (T.d nR _ hx).kp (T.d nR _ hx) (XU hsc) (T.b nR _ hx) rfl rfl rfl hst (XU hsc).nd rfl rfl rfl rfl (by decide) (by decide) (by decide) (by decide)
  (b1 _ (by simp)) (b1 _ (by simp)) (b1 _ (by simp)) (λ_ _ _=>b2 _ (by simp[Z2])) (L.er.nm 0 _ _ h0 rfl) rfl rfl rfl rfl rfl (λ_ _ _=>rfl) (λ_ _ _=>rfl) (λ_ _ _=>rfl) RA
  (λY ρ S e σ' H' q Q' hK he h1 _ st' hQ=>Sd.wQ he h1 (hK▸st') (λρ2 H2 f2 s2=>hQ ρ2 H2 f2 (hK▸s2)))⟩
end
section
variable {X:Cx}{xw:Nat->Hp->Prop}{C:Calls}{e:Expr}{i:Ev.E}{es:List Expr}{is:List Ev.E}{p:Pos}{m j:Nat}{y:Str}
noncomputable def cjm:List Expr->Nat
 |[]=>0
 |.Constant (.str y) _ _::es=>y.length+cjm es
 |_::es=>64+cjm es
theorem U4:Bx (Sd.CJ X xw C [] (cjm []) []):=⟨Sd.U4⟩
theorem wY (hr:Bx (Sd.CJ X xw C es (cjm es) is)):Bx (Sd.CJ X xw C (.Constant (.str y) j p::es) (cjm (.Constant (.str y) j p::es)) is):=⟨Sd.wY hr.h⟩
theorem vM (he:Bx (Sd.CE X xw C e i)) (hr:Bx (Sd.CJ X xw C es (cjm es) is)):Bx (Sd.CJ X xw C (.FormattedValue e (-1) none p::es) (cjm (.FormattedValue e (-1) none p::es)) (.fi i::is)):=⟨Sd.vM he.h hr.h⟩
theorem vH {c:Nat}{x:Str}{E:XK}{v1 v2:Expr}{rest:List Expr}{cl:List Addr}{jp np cpos pos:Pos}(D:DefX X E) (hc:X.calm=true) (L:Cls X.K X.mg X.base cl) (hj:Bx (Sd.CJ X (xwE cl E) C (v1::v2::rest) (cjm (v1::v2::rest)) is)) (hml:Nat.ble (cjm (v1::v2::rest)) 100000=true) (hx:Sd.Z2[c+1]? = some x) (hg:Gl X x) (hd:(x == ("__debug__" : Str))=false)
  (he:starEach [.JoinedStr (v1::v2::rest) jp] X.env=(false,eval (.JoinedStr (v1::v2::rest) jp) X.env)::starEach [] X.env) (hpl:(backTo cpos (starEach [] X.env)).any (·.1)=false) :
  Bx (Sd.CS X (xwE cl E) C (.Raise (some (.Call (.Name x np) [.JoinedStr (v1::v2::rest) jp] [] cpos)) none pos) (.raise (c+1) is)):=
 vE D hc L hj (PY (Nat.le_of_ble_eq_true hml) (by decide)) hx hg hd he hpl
end
noncomputable abbrev fnR:Fn:=⟨1,4,[.asg [] (.c .non)]⟩
theorem zz {fs:List FR}{zs:List Str}{gs:List (Str×Gv)}{F:List Fn}{i:Nat}{r:FR}:BdX fs zs gs F i r fnR:=λP w K mg base cl f fd d T L h hn cdv A outer s H E hr hu=>
 ⟨λpq s σ H D I ⟨ρ,l,S,st,lr,h⟩=>False.elim h⟩
def ux (fs:List FR) (zs:List Str) (gs:List (Str×Gv)) (F:List Fn) (nR:Nat) (st:Stmt):Prop:=
 ∀(P:Program) (w:World) (K:PySem.W.Frag) (mg:Str->Option Value) (base:Heap) (f:Nat->Addr) (fd:Nat->FuncData) (d:Nat),Top K mg fs zs gs f fd->rN.Nodup->∀(cdv:Value) (A:Around) (outer:List Env) (s:Shared) (H:Hp),(A.deeper (envOfC "_law_refused" (Zb st) s.heap.objs.size (f nR) cdv)).units+7<cLine->Bx (Sd.CT (cxR P w K mg base st (f nR) cdv A outer s H) Sd.nx (Ev.Zg F d) (Uu (Zj st)) (ksum 3))
def BdR (fs:List FR) (zs:List Str) (gs:List (Str×Gv)) (F:List Fn) (nR:Nat) (st:Stmt) (r:FR) (fn:Fn):Prop:=
 ∀(P:Program) (w:World) (K:PySem.W.Frag) (mg:Str->Option Value) (base:Heap) (cl:List Addr) (f:Nat->Addr) (fd:Nat->FuncData) (fL c Pt:Addr) (d:Nat),Top K mg fs zs gs f fd->Cls K mg base cl->JQ P w K mg base cl fs F f fd d->z8 P w K mg base cl (Ev.Zg F d) d st (f nR)->r.N.Nodup->
  PySem.W.CodeHd base c Pt->base.BuiltinsAt mg Pt->mainGlobals≠Pt->
  ∀(A:Around) (outer:List Env) (s:Shared) (H:Hp) (E:XK),(∃ps,H Pt=some (.tbl ps))->Room (d+2) (A.deeper (envOfC r.x (Zb r.st) s.heap.objs.size fL (.ref c)))->Room d (A.deeper (envOfC r.x (Zb r.st) s.heap.objs.size fL (.ref c)))->(A.deeper (envOfC r.x (Zb r.st) s.heap.objs.size fL (.ref c))).units+7<cLine->
   Bx (Sd.CSs (YU (CX1 P w) P w K mg base r.N r.x (Zb r.st) fL (.ref c) A outer s H E) (xwE cl E) (Ev.Zg F d) (Zj r.st) fn.body)
theorem vw {fs:List FR}{zs:List Str}{gs:List (Str×Gv)}{F:List Fn}{nR:Nat}{st:Stmt}{r:FR}{fn:Fn}{Pp:Nat->Pos}(S:ux fs zs gs F nR st) (B:BdR fs zs gs F nR st r fn) (hst:(Zj st).drop 2=JE Pp (Uu (Zj st))) (hB:GZ Pp (Zb st)=true) (hsc:scB rN 1 (Zb st)=true) (hz:zs.contains "isinstance" = true) (hz2:zs.contains "ValueError" = true):BdL fs zs gs F r fn:=
 λP w K mg base cl f fd fL c Pt d T L h hn hC hBi hP A outer s H E hp hr hu=>
  B P w K mg base cl f fd fL c Pt d T L h (wJ T L hst hB hsc hz hz2 (S P w K mg base f fd d T (XU hsc).nd)) hn hC hBi hP A outer s H E hp hr (hr.mono (by omega)) hu
end Gn
namespace K31
open Ev
noncomputable def WH:Fn:=⟨2,2,
 [.ite (.cmp .lt (.v 1) (.blt .len [(.v 0)])) [.ret (.ix (.v 0) (.v 1))] [],
  .ret (.c (.int 0))]⟩
noncomputable def VM:Fn:=⟨2,3,
 [.asg [2] (.call 0 [(.v 0),(.v 1)]),
  .ite (.cmp .ge (.v 2) (.bin .pow (.c (.int 10)) (.c (.int 18)))) [.ret (.lst [(.bin .sub (.v 2) (.bin .pow (.c (.int 10)) (.c (.int 18)))),(.c (.bl true))])] [],
  .ret (.lst [(.bin .mod (.v 2) (.c (.int 2147483647))),(.c (.bl false))])]⟩
noncomputable def Uq:Fn:=⟨2,4,
 [.ite (.ix (.v 0) (.c (.int 1))) [.asg [2] (.bin .mod (.ix (.v 0) (.c (.int 0))) (.v 1)),
  .put (.v 0) (.c (.int 0)) (.bin .fdiv (.ix (.v 0) (.c (.int 0))) (.v 1)),
  .ret (.v 2)] [],
  .put (.v 0) (.c (.int 0)) (.bin .mod (.bin .add (.bin .mul (.ix (.v 0) (.c (.int 0))) (.c (.int 48271))) (.c (.int 29))) (.c (.int 2147483647))),
  .asg [3] (.bin .mod (.bin .add (.bin .add (.bin .mul (.ix (.v 0) (.c (.int 0))) (.ix (.v 0) (.c (.int 0)))) (.bin .mul (.c (.int 39373)) (.ix (.v 0) (.c (.int 0))))) (.c (.int 7))) (.c (.int 2147483629))),
  .asg [3] (.bin .mod (.bin .add (.bin .mul (.v 3) (.v 3)) (.bin .mul (.c (.int 16807)) (.v 3))) (.c (.int 2147483587))),
  .ret (.bin .mod (.bin .fdiv (.v 3) (.c (.int 8))) (.v 1))]⟩
noncomputable def WW:Fn:=⟨3,3,
 [.ret (.and (.isi (.v 0) [.int]) (.and (.not (.isi (.v 0) [.bool])) (.chain .le .le (.v 1) (.v 0) (.v 2))))]⟩
noncomputable def ZO:Fn:=⟨3,3,
 [.ite (.not (.call 3 [(.v 0),(.v 1),(.v 2)])) [.raise 3 [(.fi (.v 1)),(.fi (.v 2))]] []]⟩
noncomputable def Yj:Fn:=⟨1,1,
 [.ret (.and (.call 3 [(.v 0),(.c (.int 2)),(.c (.int 5))]) (.inT (.v 0) [(2,6),(3,4),(5,3)]))]⟩
noncomputable def Yh:Fn:=⟨2,5,
 [.asg [2] (.lst [(.c (.int 1))]),
  .asg [3] (.c (.int 1)),
  .forr [4] (.rng2 (.c (.int 1)) (.blt .len [(.v 1)])) [.aug 3 .mul (.v 0),
  .ex (.mt .append (.v 2) [(.bin .add (.ix (.v 1) (.bin .sub (.v 4) (.c (.int 1)))) (.bin .mul (.v 3) (.ix (.v 1) (.v 4))))])],
  .ex (.mt .append (.v 2) [(.c (.int 1))]),
  .ret (.v 2)]⟩
noncomputable def W7:Fn:=⟨3,5,
 [.ite (.not (.call 5 [(.v 0)])) [.raise 3 []] [],
  .ex (.call 4 [(.v 1),(.c (.int 0)),(.c (.int 40))]),
  .ex (.call 4 [(.v 2),(.c (.int 0)),(.v 1)]),
  .asg [3] (.lst [(.c (.int 1))]),
  .forr [4] (.rng1 (.v 1)) [.asg [3] (.call 6 [(.v 0),(.v 3)])],
  .ret (.ix (.v 3) (.v 2))]⟩
noncomputable def Yu:Fn:=⟨2,2,
 [.ite (.isi (.v 1) [.list,.tuple]) [.ite (.or (.cmp .ne (.isi (.v 0) [.list]) (.isi (.v 1) [.list])) (.cmp .ne (.isi (.v 0) [.tuple]) (.isi (.v 1) [.tuple]))) [.ret (.c (.bl false))] [],
  .ret (.and (.cmp .eq (.blt .len [(.v 0)]) (.blt .len [(.v 1)])) (.blt .all [(.comp1 [] 2 [0,1] (.zip (.v 0) (.v 1)) [] (.call 8 [(.v 0),(.v 1)]))]))] [],
  .ret (.and (.cmp .eq (.isi (.v 0) [.bool]) (.isi (.v 1) [.bool])) (.cmp .eq (.v 0) (.v 1)))]⟩
noncomputable def XC:Fn:=⟨3,3,
 [.ret (.and (.isi (.v 0) [.int]) (.and (.not (.isi (.v 0) [.bool])) (.chain .le .le (.v 1) (.v 0) (.v 2))))]⟩
noncomputable def YJ:Fn:=⟨3,8,
 [.asg [3] (.lst [(.c (.int 1))]),
  .forr [4] (.rng1 (.v 1)) [.ex (.mt .append (.v 3) [(.bin .mul (.ix (.v 3) (.neg (.c (.int 1)))) (.v 0))])],
  .asg [5,6] (.tup [(.c (.int 1)),(.c (.int 1))]),
  .forr [7] (.rng1 (.v 2)) [.asg [5] (.bin .mul (.v 5) (.bin .sub (.ix (.v 3) (.v 1)) (.ix (.v 3) (.v 7)))),
  .asg [6] (.bin .mul (.v 6) (.bin .sub (.ix (.v 3) (.v 2)) (.ix (.v 3) (.v 7))))],
  .ret (.bin .fdiv (.v 5) (.v 6))]⟩
noncomputable def WF:Fn:=⟨1,4,
 [.asg [] (.c .non)]⟩
noncomputable def x9:Fn:=⟨1,9,
 [.forr [1] (.rng1 (.blt .max2 [(.c (.int 1)),(.blt .min2 [(.blt .len [(.v 0)]),(.c (.int 10))])])) [.asg [2] (.call 1 [(.v 0),(.v 1)]),
  .asg [3] (.ix (.lst [(.c (.int 2)),(.c (.int 3)),(.c (.int 5))]) (.call 2 [(.v 2),(.c (.int 3))])),
  .asg [4] (.ix (.lst [(.c (.int 40)),(.call 2 [(.v 2),(.c (.int 41))]),(.call 2 [(.v 2),(.c (.int 8))])]) (.call 2 [(.v 2),(.c (.int 3))])),
  .asg [5] (.call 2 [(.v 2),(.bin .add (.v 4) (.c (.int 1)))]),
  .ite (.or (.not (.call 8 [(.call 7 [(.v 3),(.v 4),(.v 5)]),(.call 10 [(.v 3),(.v 4),(.v 5)])])) (.or (.cmp .ne (.call 7 [(.v 3),(.v 4),(.c (.int 0))]) (.c (.int 1))) (.cmp .ne (.call 7 [(.v 3),(.v 4),(.v 4)]) (.c (.int 1))))) [.ret (.c (.bl false))] [],
  .asg [6] (.ix (.lst [(.neg (.c (.int 1))),(.c (.int 41)),(.c (.bl true)),(.c (.bl false)),(.c .non),(.c (.str (PySem.Str.ofString "2"))),(.tup [(.c (.int 2))]),(.bin .pow (.c (.int 10)) (.c (.int 29))),(.c (.int 4)),(.c (.int 1)),(.bin .add (.v 4) (.c (.int 1))),(.lst [(.c (.int 2))]),(.c (.int 7))]) (.call 2 [(.v 2),(.c (.int 13))])),
  .forr [7] (.of (.lst [(.tup [(.v 6),(.v 4),(.v 5)]),(.tup [(.v 3),(.v 6),(.v 5)]),(.tup [(.v 3),(.v 4),(.v 6)]),(.tup [(.v 6),(.v 6),(.v 5)]),(.tup [(.v 3),(.v 6),(.v 6)])])) [.asg [8] (.and (.call 9 [(.ix (.v 7) (.c (.int 0))),(.c (.int 2)),(.c (.int 5))]) (.and (.cmp .ne (.ix (.v 7) (.c (.int 0))) (.c (.int 4))) (.call 9 [(.ix (.v 7) (.c (.int 1))),(.c (.int 0)),(.c (.int 40))]))),
  .ite (.and (.v 8) (.call 9 [(.ix (.v 7) (.c (.int 2))),(.c (.int 0)),(.ix (.v 7) (.c (.int 1)))])) [.ite (.cmp .ne (.call 7 [(.ix (.v 7) (.c (.int 0))),(.ix (.v 7) (.c (.int 1))),(.ix (.v 7) (.c (.int 2)))]) (.call 10 [(.ix (.v 7) (.c (.int 0))),(.ix (.v 7) (.c (.int 1))),(.ix (.v 7) (.c (.int 2)))])) [.ret (.c (.bl false))] []] [.ite (.cmp .ne (.refu (.call 7 [(.ix (.v 7) (.c (.int 0))),(.ix (.v 7) (.c (.int 1))),(.ix (.v 7) (.c (.int 2)))])) (.c (.int 2))) [.ret (.c (.bl false))] []]]],
  .ret (.and (.cmp .eq (.call 7 [(.c (.int 2)),(.c (.int 6)),(.c (.int 3))]) (.c (.int 1395))) (.cmp .eq (.call 7 [(.c (.int 3)),(.c (.int 4)),(.c (.int 2))]) (.c (.int 130))))]⟩
noncomputable def fns:List Fn:=[WH,VM,Uq,WW,ZO,Yj,Yh,W7,Yu,XC,YJ,WF,x9]
end K31
namespace K31
open PySem PySem.Spec PyProof.Rows L2 Wr Gn
open Sd (UH QW GP GF Gx xQ zE Jl QY za zP Ja Vr GV Q8 Jd Q7 Jf Q9 Jg G1)
noncomputable def top (i:Nat):Stmt:=PySem.Challenge.pw_fewspaces_k31_boxes.main.body.getD i (.Pass ⟨0,0,0,0⟩)
noncomputable abbrev r0:FR:=⟨"_law_cell_at",top 23,["_law_script","_law_k"],2⟩
noncomputable abbrev r1:FR:=⟨"_law_state",top 24,["_law_script","_law_k","_law_cell"],2⟩
noncomputable abbrev r2:FR:=⟨"_law_take",top 25,["_law_state_here","_law_many","_law_found","_law_mixed"],2⟩
noncomputable abbrev r3:FR:=⟨"is_whole",top 13,["thing","least","greatest"],3⟩
noncomputable abbrev r4:FR:=⟨"need_whole",top 19,["thing","least","greatest"],3⟩
noncomputable abbrev r5:FR:=⟨"is_base",top 16,["thing"],1⟩
noncomputable abbrev r6:FR:=⟨"next_boxes",top 21,["p","boxes","more","power","k"],2⟩
noncomputable abbrev r7:FR:=⟨"box",top 20,["p","n","k","boxes","places"],3⟩
noncomputable abbrev r8:FR:=⟨"_law_same",top 28,["_law_found","_law_due_here"],2⟩
noncomputable abbrev r9:FR:=⟨"_law_whole",top 27,["_law_thing","_law_least","_law_most"],3⟩
noncomputable abbrev r10:FR:=⟨"_law_due",top 29,["_law_p","_law_n","_law_k","_law_power","_law_turn","_law_top","_law_bottom","_law_at"],3⟩
noncomputable abbrev r11:FR:=⟨"_law_refused",top 26,["_law_call","_law_error","e","_law_sorts"],1⟩
noncomputable abbrev r12:FR:=⟨"law",top 30,["_law_script","_law_k","_law_state_here","_law_p","_law_n","_law_size","_law_odd","_law_row","_law_good"],1⟩
noncomputable abbrev rL:FR:=r12
noncomputable abbrev fs:List FR:=[r0,r1,r2,r3,r4,r5,r6,r7,r8,r9,r10,r11]
abbrev zs:List Str:=["all","bool","int","isinstance","len","list","max","min","range","sum","tuple","zip","ValueError"]
abbrev gs:List (Str×Gv):=[("MOST_PLACES",.tab [(2,6),(3,4),(5,3)]),("MOST_BOX_PLACES",.int 40)]
abbrev n0:List Str:=["_law_one","_law_other"]
abbrev n1:List Str:=["_law_one"]
local macro_rules | `(tactic| walk_at "n") => `(tactic| first|exact zt (N:=n0) (by kernel_rfl!)|exact zt (N:=n1) (by kernel_rfl!))
local macro_rules | `(tactic| walk_at "e") => `(tactic| first|exact QW|exact UH|exact Jl|exact zE|exact GP|exact Gx|exact QY|exact GF|exact xQ)
local macro_rules | `(tactic| walk_at "z") => `(tactic| exact Top.no (by assumption) (by kernel_rfl!))
local macro_rules | `(tactic| walk_at "v") => `(tactic| first|exact Or.inl (by kernel_rfl!)|exact Or.inr (by kernel_rfl!)|exact Or.inr (Or.inl (by kernel_rfl!))|exact Or.inr (Or.inr (by kernel_rfl!)))
noncomputable def pp (k:Nat):Pos:=([⟨78,7,78,17⟩,⟨78,21,78,25⟩,⟨78,7,78,25⟩,⟨79,15,79,19⟩,⟨79,8,79,19⟩,⟨78,4,79,19⟩,⟨80,4,80,14⟩,⟨80,17,80,114⟩,⟨80,4,80,114⟩,⟨81,4,81,14⟩,⟨81,17,81,27⟩,⟨81,30,81,129⟩,⟨81,17,81,129⟩,⟨81,4,81,129⟩,⟨82,4,82,14⟩,⟨82,17,82,27⟩,⟨82,30,82,126⟩,⟨82,17,82,126⟩,⟨82,4,82,126⟩,⟨83,4,83,14⟩,⟨83,4,83,54⟩,⟨84,7,84,45⟩,⟨84,7,84,101⟩,⟨85,16,85,17⟩,⟨85,15,85,17⟩,⟨85,8,85,17⟩,⟨84,4,85,17⟩,⟨86,11,86,21⟩,⟨86,28,86,32⟩,⟨86,4,86,33⟩,⟨83,4,83,21⟩,⟨83,4,83,54⟩,⟨86,11,86,27⟩,⟨86,11,86,33⟩,⟨0,0,0,0⟩,⟨0,0,0,0⟩,⟨0,0,0,0⟩,⟨0,0,0,0⟩,⟨0,0,0,0⟩,⟨0,0,0,0⟩,⟨80,18,80,28⟩,⟨80,29,80,39⟩,⟨80,41,80,46⟩,⟨80,18,80,47⟩,⟨80,49,80,59⟩,⟨80,60,80,70⟩,⟨80,72,80,78⟩,⟨80,49,80,79⟩,⟨80,81,80,91⟩,⟨80,92,80,102⟩,⟨80,104,80,112⟩,⟨80,81,80,113⟩,⟨81,31,81,41⟩,⟨81,42,81,52⟩,⟨81,54,81,61⟩,⟨81,31,81,62⟩,⟨81,64,81,74⟩,⟨81,75,81,85⟩,⟨81,87,81,96⟩,⟨81,64,81,97⟩,⟨81,99,81,109⟩,⟨81,110,81,120⟩,⟨81,122,81,127⟩,⟨81,99,81,128⟩,⟨82,31,82,41⟩,⟨82,42,82,52⟩,⟨82,54,82,60⟩,⟨82,31,82,61⟩,⟨82,63,82,73⟩,⟨82,74,82,84⟩,⟨82,86,82,91⟩,⟨82,63,82,92⟩,⟨82,94,82,104⟩,⟨82,105,82,115⟩,⟨82,117,82,124⟩,⟨82,94,82,125⟩,⟨83,22,83,32⟩,⟨83,33,83,43⟩,⟨83,45,83,52⟩,⟨83,22,83,53⟩,⟨84,11,84,21⟩,⟨84,22,84,32⟩,⟨84,34,84,44⟩,⟨84,11,84,45⟩,⟨0,0,0,0⟩,⟨0,0,0,0⟩,⟨0,0,0,0⟩,⟨0,0,0,0⟩,⟨0,0,0,0⟩,⟨0,0,0,0⟩,⟨73,4,73,14⟩,⟨73,17,73,21⟩,⟨73,4,73,21⟩,⟨75,8,75,17⟩,⟨75,8,75,19⟩,⟨75,8,75,19⟩,⟨76,11,76,21⟩,⟨77,8,77,18⟩,⟨77,21,77,22⟩,⟨77,8,77,22⟩,⟨76,4,77,22⟩,⟨74,4,77,22⟩]:List Pos).getD k ⟨0,0,0,0⟩
theorem okl:OkX fs zs gs fns 0 fs (fns.take 12)/\ux fs zs gs fns 11 r11.st/\BdR fs zs gs fns 11 r11.st rL x9:=by
 refine⟨?a,?b,?c⟩
 case' a=>repeat' (first | exact True.intro | refine⟨⟨rfl,rfl,by decide +kernel,?_⟩,?_⟩ | exact zz | intro P w K mg base cl f fd d T L h hn cdv A outer s H E hr hu)
 case' b=>intro P w K mg base f fd d T hn cdv A outer s H hu;unfold Sd.ksum
 case' c=>intro P w K mg base cl f fd fL c Pt d T L h RA hn hC hB hP A outer s H E hp hr hr0 hu
 all_goals
 (repeat' (first
 |(with_reducible show Bx (Sd.CSs _ _ _ _ _));first | exact Qo | refine VY ?_ ?_
 |(with_reducible show Bx (Sd.CA _ _ _ _ _));first | exact QG | refine VG ?_ ?_ (by walk_at "e")
 |(with_reducible show Bx (Sd.CE _ _ _ _ (.v _)));exact vh _ (hN:=by kernel_rfl!) (hv:=by walk_at "v") (hd:=by kernel_rfl!) (hcd:=by kernel_rfl!)
 |(with_reducible show Bx (Sd.CE _ _ _ _ (.c _)));first | exact QH | exact vT (by assumption) (by kernel_rfl!) rfl rfl | exact zW | exact QE | exact U2
 |(with_reducible show Bx (Sd.CE _ _ _ _ (.call _ _)));first | refine zO Sd.z6 (by assumption) (by assumption) (by assumption) ?_ (by kernel_rfl!) (show _=_ from by kernel_rfl!) (by kernel_rfl!) (by walk_at "e") rfl | refine wF (by assumption) (by assumption) (by assumption) ?_ (by kernel_rfl!) (show _=_ from by kernel_rfl!) (by kernel_rfl!) (by walk_at "e") rfl | refine zO Sd.qd (by assumption) (by assumption) (by assumption) ?_ (by kernel_rfl!) (show _=_ from by kernel_rfl!) (by kernel_rfl!) (by walk_at "e") rfl
 |(with_reducible show Bx (Sd.CE _ _ _ _ (.refu _)));refine uC (Pp:=pp) Sd.z6 (by assumption) (by assumption) (by assumption) (by assumption) rfl (by kernel_rfl!) (by kernel_rfl!) (by kernel_rfl!) (by assumption) (by assumption) (by assumption) (by assumption) rfl rfl rfl rfl (by kernel_rfl!) (by kernel_rfl!) (show _=_ from by kernel_rfl!) (λ_ _ _ _ _ _ _ _ _ _ _=>?_)
 |(with_reducible show Bx (Sd.CJ _ _ _ _ _ _));first | exact U4 | refine wY ?_ | refine vM ?_ ?_
 |(with_reducible show Bx (Sd.CE _ _ _ _ (.ix _ _)));refine zM ?_ ?_ (hs:=by intro _ _;kernel_rfl!)
 |(with_reducible show Bx (Sd.CE _ _ _ _ (.blt .len _)));refine YQ (x:="len") (f:=.len) Q8 (by walk_at "z") ?_ (he:=(by walk_at "e")) (hg:=show _=_ from by kernel_rfl!) (hv:=by kernel_rfl!) (hn:=by decide) (hdb:=by kernel_rfl!) (hpl:=by kernel_rfl!)
 |(with_reducible show Bx (Sd.CE _ _ _ _ (.blt .all _)));refine YQ (x:="all") (f:=.all) (Q9 rfl) (by walk_at "z") ?_ (he:=(by walk_at "e")) (hg:=show _=_ from by kernel_rfl!) (hv:=by kernel_rfl!) (hn:=by decide) (hdb:=by kernel_rfl!) (hpl:=by kernel_rfl!)
 |(with_reducible show Bx (Sd.CE _ _ _ _ (.blt .toInt _)));refine VZ (x:="int") (f:=.toInt) Jf (by walk_at "z") ?_ (he:=(by walk_at "e")) (hg:=show _=_ from by kernel_rfl!) (hv:=by kernel_rfl!) (hn:=by decide) (hdb:=by kernel_rfl!) (hpl:=by kernel_rfl!)
 |(with_reducible show Bx (Sd.CE _ _ _ _ (.blt .max2 _)));refine YQ (x:="max") (f:=.max2) (Jd rfl) (by walk_at "z") ?_ (he:=(by walk_at "e")) (hg:=show _=_ from by kernel_rfl!) (hv:=by kernel_rfl!) (hn:=by decide) (hdb:=by kernel_rfl!) (hpl:=by kernel_rfl!)
 |(with_reducible show Bx (Sd.CE _ _ _ _ (.blt .min2 _)));refine YQ (x:="min") (f:=.min2) (Q7 rfl) (by walk_at "z") ?_ (he:=(by walk_at "e")) (hg:=show _=_ from by kernel_rfl!) (hv:=by kernel_rfl!) (hn:=by decide) (hdb:=by kernel_rfl!) (hpl:=by kernel_rfl!)
 |(with_reducible show Bx (Sd.CE _ _ _ _ (.blt .sum _)));refine YQ (x:="sum") (f:=.sum) (Jg rfl) (by walk_at "z") ?_ (he:=(by walk_at "e")) (hg:=show _=_ from by kernel_rfl!) (hv:=by kernel_rfl!) (hn:=by decide) (hdb:=by kernel_rfl!) (hpl:=by kernel_rfl!)
 |(with_reducible show Bx (Sd.CE _ _ _ _ (.inT _ _)));refine uL (by assumption) ?_ (by kernel_rfl!) rfl rfl (by first | rfl | (with_unfolding_all rfl))
 |(with_reducible show Bx (Sd.CE _ _ _ _ (.bin _ _ _)));first | refine Qf ?_ ?_ | refine QB ?_ ?_ | refine QI ?_ ?_ | refine QK ?_ ?_ | refine VF ?_ ?_ | refine U9 ?_ ?_
 |(with_reducible show Bx (Sd.CE _ _ _ _ (.tup _)));refine Qy ?_
 |(with_reducible show Bx (Sd.CE _ _ _ _ (.lst _)));refine U0 ?_
 |(with_reducible show Bx (Sd.CE _ _ _ _ (.neg _)));refine QL ?_
 |(with_reducible show Bx (Sd.CE _ _ _ _ (.not _)));refine UW ?_
 |(with_reducible show Bx (Sd.CE _ _ _ _ (.cmp .eq _ _)));refine Xh (op:=.Eq) (o:=.eq) (za (by assumption)) ?_ ?_ (hm:=by first | exact Ya _ | kernel_rfl!)
 |(with_reducible show Bx (Sd.CE _ _ _ _ (.cmp .ne _ _)));refine Xh (op:=.NotEq) (o:=.ne) (zP (by assumption)) ?_ ?_ (hm:=by first | exact Ya _ | kernel_rfl!)
 |(with_reducible show Bx (Sd.CE _ _ _ _ (.cmp .lt _ _)));refine Xh (op:=.Lt) (o:=.lt) (Ja (by assumption)) ?_ ?_ (hm:=by first | exact Ya _ | kernel_rfl!)
 |(with_reducible show Bx (Sd.CE _ _ _ _ (.cmp .le _ _)));refine Xh (op:=.LtE) (o:=.le) (Vr (by assumption)) ?_ ?_ (hm:=by first | exact Ya _ | kernel_rfl!)
 |(with_reducible show Bx (Sd.CE _ _ _ _ (.cmp .ge _ _)));refine Xh (op:=.GtE) (o:=.ge) (GV (by assumption)) ?_ ?_ (hm:=by first | exact Ya _ | kernel_rfl!)
 |(with_reducible show Bx (Sd.CE _ _ _ _ (.chain _ _ _ _ _)));first | refine Xk (op:=.LtE) (o:=.le) (op':=.LtE) (o':=.le) (Vr (by assumption)) (Vr (by assumption)) ?_ ?_ ?_ (hm:=by kernel_rfl!) | refine Xk (op:=.LtE) (o:=.le) (op':=.Lt) (o':=.lt) (Vr (by assumption)) (Ja (by assumption)) ?_ ?_ ?_ (hm:=by kernel_rfl!)
 |(with_reducible show Bx (Sd.CE _ _ _ _ (.isi _ _)));first | refine XX (T:="int") (t:=.int) (by intro m h;cases h) (by walk_at "z") (by walk_at "z") ?_ (hg:=show _=_ from by kernel_rfl!) (hgT:=show _=_ from by kernel_rfl!) (hvT:=by kernel_rfl!) (hnT:=by decide) (hdT:=by kernel_rfl!) (hs1:=by kernel_rfl!) (hs2:=by kernel_rfl!) (hpl:=by kernel_rfl!) | refine XX (T:="bool") (t:=.bool) (by intro m h;cases h) (by walk_at "z") (by walk_at "z") ?_ (hg:=show _=_ from by kernel_rfl!) (hgT:=show _=_ from by kernel_rfl!) (hvT:=by kernel_rfl!) (hnT:=by decide) (hdT:=by kernel_rfl!) (hs1:=by kernel_rfl!) (hs2:=by kernel_rfl!) (hpl:=by kernel_rfl!) | refine XX (T:="tuple") (t:=.tuple) (by intro m h;cases h) (by walk_at "z") (by walk_at "z") ?_ (hg:=show _=_ from by kernel_rfl!) (hgT:=show _=_ from by kernel_rfl!) (hvT:=by kernel_rfl!) (hnT:=by decide) (hdT:=by kernel_rfl!) (hs1:=by kernel_rfl!) (hs2:=by kernel_rfl!) (hpl:=by kernel_rfl!) | refine XX (T:="list") (t:=.list) (by intro m h;cases h) (by walk_at "z") (by walk_at "z") ?_ (hg:=show _=_ from by kernel_rfl!) (hgT:=show _=_ from by kernel_rfl!) (hvT:=by kernel_rfl!) (hnT:=by decide) (hdT:=by kernel_rfl!) (hs1:=by kernel_rfl!) (hs2:=by kernel_rfl!) (hpl:=by kernel_rfl!) | refine VD (T:="list") (U:="tuple") (t:=.list) (u:=.tuple) (by intro m h;cases h) (by intro m h;cases h) (by walk_at "z") (by walk_at "z") (by walk_at "z") ?_ (hg:=show _=_ from by kernel_rfl!) (hgT:=show _=_ from by kernel_rfl!) (hgU:=show _=_ from by kernel_rfl!) (hvT:=by kernel_rfl!) (hvU:=by kernel_rfl!) (hnT:=by decide) (hdT:=by kernel_rfl!) (hnU:=by decide) (hdU:=by kernel_rfl!) (hs0:=by kernel_rfl!) (hs00:=by kernel_rfl!) (hs1:=by kernel_rfl!) (hs2:=by kernel_rfl!) (hpl:=by kernel_rfl!)
 |(with_reducible show Bx (Sd.CE _ _ _ _ (.mt _ _ _)));refine XY ?_ ?_ (hbase:=by kernel_rfl!) (hfew:=by kernel_rfl!) (hline:=by kernel_rfl!) (hs:=by kernel_rfl!) (hplain:=by kernel_rfl!)
 |(with_reducible show Bx (Sd.CE _ _ _ _ (.comp1 _ _ _ _ _ _)));refine W8 rfl (by assumption) (by walk_at "n") ?_ (λ_ _ _ _=>⟨?_,?_,?_⟩) (hs:=by intro _;kernel_rfl!)
 |(with_reducible show Bx (Sd.CE _ _ _ _ _));refine Qd ?_ ?_
 |(with_reducible show Bx (Sd.CS _ _ _ _ (.raise _ _)));first | exact ub Sd.z6 rfl (by assumption) (by kernel_rfl!) (show _=_ from by kernel_rfl!) (by kernel_rfl!) (by walk_at "e") rfl | refine vH Sd.z6 rfl (by assumption) ?_ (by kernel_rfl!) (by kernel_rfl!) (show _=_ from by kernel_rfl!) (by kernel_rfl!) rfl rfl
 |(with_reducible show Bx (Sd.CS _ _ _ _ (.ret _)));refine Qn ?_
 |(with_reducible show Bx (Sd.CS _ _ _ _ (.put _ _ _)));refine U7 ?_ ?_ ?_ (ha:=by intro _;kernel_rfl!) (hs:=by kernel_rfl!) (hw:=by kernel_rfl!) (h1:=by kernel_rfl!)
 |(with_reducible show Bx (Sd.CS _ _ _ _ (.asg _ _)));refine U6 ?_ ?_ (hs:=by kernel_rfl!) (hw:=by kernel_rfl!) (h1:=by kernel_rfl!)
 |(with_reducible show Bx (Sd.CS _ _ _ _ (.ex _)));refine VH ?_ (hs:=by kernel_rfl!)
 |(with_reducible show Bx (Sd.CS _ _ _ _ (.ite _ _ _)));refine zU ?_ ?_ ?_
 |(with_reducible show Bx (Sd.CS _ _ _ _ (.forr _ _ _)));refine QJ PassesOwn.leaving rfl ?_ ?_ ?_ (hs:=by intro _;kernel_rfl!)
 |(with_reducible show Bx (Sd.CS _ _ _ _ (.aug _ _ _)));refine Qq (op:=.Mult) G1 (by assumption) ?_ (hi:=by kernel_rfl!) (hx:=by walk_at "v") (hf:=by first | exact .inl rfl | exact .inr (by kernel_rfl!))
 |(with_reducible show Bx (Sd.CT _ _ _ _ (.not _)));refine Qj ?_
 |(with_reducible show Bx (Sd.CT _ _ _ _ (.cmp .eq _ _)));refine Xe (op:=.Eq) (o:=.eq) (za (by assumption)) ?_ ?_ (hm:=by first | exact Ya _ | kernel_rfl!)
 |(with_reducible show Bx (Sd.CT _ _ _ _ (.cmp .ne _ _)));refine Xe (op:=.NotEq) (o:=.ne) (zP (by assumption)) ?_ ?_ (hm:=by first | exact Ya _ | kernel_rfl!)
 |(with_reducible show Bx (Sd.CT _ _ _ _ (.cmp .lt _ _)));refine Xe (op:=.Lt) (o:=.lt) (Ja (by assumption)) ?_ ?_ (hm:=by first | exact Ya _ | kernel_rfl!)
 |(with_reducible show Bx (Sd.CT _ _ _ _ (.cmp .le _ _)));refine Xe (op:=.LtE) (o:=.le) (Vr (by assumption)) ?_ ?_ (hm:=by first | exact Ya _ | kernel_rfl!)
 |(with_reducible show Bx (Sd.CT _ _ _ _ (.cmp .ge _ _)));refine Xe (op:=.GtE) (o:=.ge) (GV (by assumption)) ?_ ?_ (hm:=by first | exact Ya _ | kernel_rfl!)
 |(with_reducible show Bx (Sd.CT _ _ _ _ (.and _ _)));refine yd (Ub ?_ ?_)
 |(with_reducible show Bx (Sd.CT _ _ _ _ (.or _ _)));refine yd (QX ?_ ?_)
 |(with_reducible show Bx (Sd.CT _ _ _ _ _));refine Qs ?_ (he:=by intro _;kernel_rfl!)
 |(with_reducible show Bx (Sd.CWh _ _ _ _ _));first | refine Ub ?_ ?_ | refine VB ?_ | refine QX ?_ ?_ | refine Qk ?_
 |(with_reducible show Bx (Sd.CTs _ _ _ _ _));exact VU
 |(with_reducible show Bx (Sd.CW _ _ _ _ _ _));first | refine V1 (by walk_at "z") ?_ (hg:=show _=_ from by kernel_rfl!) (hs:=by kernel_rfl!) | refine VL (by walk_at "z") ?_ (hg:=show _=_ from by kernel_rfl!) (hs:=by kernel_rfl!) (hs2:=by kernel_rfl!) | refine Qx (by walk_at "z") ?_ (hg:=show _=_ from by kernel_rfl!) (hs:=by kernel_rfl!) (hs2:=by kernel_rfl!) | refine zb ?_
 |(with_reducible show Bx (Sd.CG _ _ _));first | exact Ue (by first | assumption | exact Py (by kernel_rfl!)) (hi:=by kernel_rfl!) (hx:=by walk_at "v") (hf:=by first | exact .inl rfl | exact .inr (by kernel_rfl!)) | refine QP rfl ?_ (hn:=by kernel_rfl!) (hst:=by kernel_rfl!)
 |(with_reducible show Bx (Sd.CGs _ _ _));first | exact VN | refine WI (by first | assumption | exact Py (by kernel_rfl!)) ?_ (hi:=by kernel_rfl!) (hx:=by walk_at "v") (hf:=by first | exact .inl rfl | exact .inr (by kernel_rfl!)) (hs:=by kernel_rfl!)))
end K31
namespace Pv
open Ev
open PySem (Str)
inductive V where
 |non | bl (b:Bool) | int (i:Int) | str (x:Str) | tup (xs:List V) | lst (xs:List V) | drw
 deriving Inhabited
noncomputable abbrev DS:=Int×Bool
inductive PR (α:Type) where
 |ok (a:α) (s:DS) | ex (c:Nat) (s:DS) | no
noncomputable def PR.bind {α β:Type} (r:PR α) (f:α->DS->PR β):PR β:=match r with
 |.ok a s=>f a s
 |.ex c s=>.ex c s
 |.no=>.no
noncomputable def PR.nox {α:Type} (r:PR α):PR α:=match r with
 |.ex _ _=>.no
 |r=>r
noncomputable def po {α:Type} (o:Option α) (s:DS):PR α:=match o with
 |some a=>.ok a s
 |none=>.no
noncomputable abbrev Env:=List (Option V)
mutual
noncomputable def V.flat:V->Bool
 |.tup xs=>Zt xs
 |.lst _=>false
 |.drw=>false
 |_=>true
noncomputable def Zt:List V->Bool
 |[]=>true
 |x::xs=>x.flat&&Zt xs
end
mutual
noncomputable def toD:V->D
 |.non=>.non
 |.bl b=>.bl b
 |.int i=>.int i
 |.str x=>.str x
 |.tup xs=>.tup (Z5 xs)
 |_=>.non
noncomputable def Z5:List V->List D
 |[]=>[]
 |x::xs=>toD x::Z5 xs
end
mutual
noncomputable def ofD:D->Option V
 |.non=>some .non
 |.bl b=>some (.bl b)
 |.int i=>some (.int i)
 |.str x=>some (.str x)
 |.tup xs=>(J4 xs).map .tup
 |_=>none
noncomputable def J4:List D->Option (List V)
 |[]=>some []
 |x::xs=>match ofD x,J4 xs with
  |some a,some b=>some (a::b)
  |_,_=>none
end
noncomputable def ZU:V->Option Bool
 |.non=>some false
 |.bl b=>some b
 |.int i=>some (decide (i≠0))
 |.tup xs=>some (!xs.isEmpty)
 |.lst xs=>some (!xs.isEmpty)
 |_=>none
noncomputable def V5 (f:V->V->Option Bool):List V->List V->Option Bool
 |[],[]=>some true
 |x::xs,y::ys=>match f x y,V5 f xs ys with
  |some a,some b=>some (a&&b)
  |_,_=>none
 |_,_=>some false
noncomputable def eqV:Nat->V->V->Option Bool
 |0,_,_=>none
 |k+1,x,y=>match x,y with
  |.non,.non=>some true
  |.bl a,.bl b=>some (decide (a=b))
  |.int a,.int b=>some (decide (a=b))
  |.bl a,.int b=>some (decide (b2i a=b))
  |.int a,.bl b=>some (decide (a=b2i b))
  |.str a,.str b=>some (decide (a=b))
  |.tup xs,.tup ys=>V5 (eqV k) xs ys
  |.lst xs,.lst ys=>if xs.length=ys.length then V5 (eqV k) xs ys else some false
  |.non,.bl _ | .non,.int _ | .non,.str _ | .bl _,.non | .int _,.non | .str _,.non=>some false
  |.bl _,.str _ | .int _,.str _ | .str _,.bl _ | .str _,.int _=>some false
  |_,_=>none
noncomputable def Gg (x:V):List V->Option Bool
 |[]=>some false
 |y::ys=>match eqV ZA y x,Gg x ys with
  |some a,some b=>some (a||b)
  |_,_=>none
noncomputable def WX:V->Ty->Option Bool
 |.non,_=>some false
 |.bl _,t=>some (decide (t=.bool\/t=.int))
 |.int _,t=>some (decide (t=.int))
 |.str _,t=>some (decide (t=.str))
 |.tup _,t=>some (decide (t=.tuple))
 |.lst _,t=>some (decide (t=.list))
 |_,_=>none
noncomputable def YK (x:V):List Ty->Option Bool
 |[]=>some false
 |t::ts=>match WX x t with
  |some true=>some true
  |some false=>YK x ts
  |none=>none
noncomputable def yG (xs:List V) (lo hi:Option Int):List V:=(xs.drop (sIx xs.length 0 lo)).take (sIx xs.length xs.length hi-sIx xs.length 0 lo)
noncomputable def YY (op:Bop) (x y:V) (s:DS):PR V:=match op,x,y with
 |.add,.int a,.int b=>.ok (.int (a+b)) s
 |.sub,.int a,.int b=>.ok (.int (a-b)) s
 |.mul,.int a,.int b=>if (fits a&&fits b)=true then .ok (.int (a*b)) s else .no
 |.fdiv,.int a,.int b=>if 0<b/\b<Ev.big then .ok (.int (a / b)) s else .no
 |.mod,.int a,.int b=>if 0<b then .ok (.int (a%b)) s else .no
 |.pow,.int a,.int b=>if 0<=b/\b<=1000/\a.natAbs<2^64 then .ok (.int (a^b.toNat)) s else .no
 |.add,.tup a,.tup b=>if a.length+b.length<=lim then .ok (.tup (a++b)) s else .no
 |.mul,.tup a,.int b=>if 0<=b/\b<1000/\a.length<=1000 then .ok (.tup (List.replicate b.toNat a).flatten) s else .no
 |.mul,.lst a,.int b=>if 0<=b/\b<1000/\a.length<=1000 then .ok (.lst (List.replicate b.toNat a).flatten) s else .no
 |.add,.lst a,.lst b=>if a.length+b.length<=lim then .ok (.lst (a++b)) s else .no
 |_,_,_=>.no
noncomputable def Gc (op:Bop) (x y:V) (s:DS):PR V:=match x,y with
 |.int _,.int _=>YY op x y s
 |_,_=>.no
noncomputable def Xt (x y:V):Option Bool:=match y with
 |.tup ys=>Gg x ys
 |.lst ys=>Gg x ys
 |_=>none
noncomputable def YG:V->Bool
 |.non=>true
 |_=>false
noncomputable def intsV:List V->Option (List Int)
 |[]=>some []
 |.int i::r=>(intsV r).map (i :: ·)
 |_::_=>none
noncomputable def V3 (r:List Int):V:=.tup (r.map .int)
noncomputable def Z0:List V->Option (List (List Int))
 |[]=>some []
 |.tup x::r=>match intsV x,Z0 r with
  |some a,some b=>some (a::b)
  |_,_=>none
 |_::_=>none
noncomputable def YM (op:Cop) (x y:V):Option V:=match op with
 |.eq=>(eqV ZA x y).map .bl
 |.ne=>(eqV ZA x y).map λb=>.bl !b
 |.lt=>match x,y with
  |.int a,.int b=>some (.bl (decide (a<b)))
  |.tup a,.tup b=>(Z0 a).bind λP=>(Z0 b).map λQ=>.bl (ltP P Q)
  |_,_=>none
 |.gt=>match x,y with
  |.int a,.int b=>some (.bl (decide (b<a)))
  |_,_=>none
 |.le=>match x,y with
  |.int a,.int b=>some (.bl (decide (a<=b)))
  |_,_=>none
 |.ge=>match x,y with
  |.int a,.int b=>some (.bl (decide (b<=a)))
  |_,_=>none
 |.is=>match x,y with
  |_,.non=>some (.bl (YG x))
  |.bl a,.bl b=>some (.bl (decide (a=b)))
  |_,_=>none
 |.isn=>match x,y with
  |_,.non=>some (.bl !(YG x))
  |.bl a,.bl b=>some (.bl (decide (a≠b)))
  |_,_=>none
 |.inn=>(Xt x y).map .bl
 |.nin=>(Xt x y).map λb=>.bl !b
noncomputable def ixV (x y:V):Option V:=match x,y with
 |.tup xs,.int i=>at' xs i
 |.lst xs,.int i=>at' xs i
 |_,_=>none
noncomputable def slV (x:V) (lo hi:Option Int):Option V:=match x with
 |.tup xs=>some (.tup (yG xs lo hi))
 |.lst xs=>some (.lst (yG xs lo hi))
 |_=>none
noncomputable def qc:V->Option V
 |.tup xs=>some (.tup xs.reverse)
 |_=>none
noncomputable def VE:V->Option Bool
 |.non=>some false
 |.bl b=>some b
 |.int i=>some (decide (i≠0))
 |_=>none
noncomputable def ZS:List V->Option (List Bool)
 |[]=>some []
 |x::xs=>match VE x,ZS xs with
  |some b,some bs=>some (b::bs)
  |_,_=>none
noncomputable def Jz (P:List (List Int)):V:=.tup (P.map V3)
noncomputable def VX:V->Option (List (List Int))
 |.tup ks=>Z0 ks
 |_=>none
noncomputable def Xi:List V->Option (List (List (List Int)))
 |[]=>some []
 |x::r=>match VX x,Xi r with
  |some a,some b=>some (a::b)
  |_,_=>none
noncomputable def yk:List V->Bool
 |.tup (.int _::_)::_=>true
 |_=>false
noncomputable def ZR:V->Option (List V)
 |.tup xs=>some xs
 |.lst xs=>some xs
 |_=>none
noncomputable def Xm (lo:Int) (n:Nat):List V:=(List.range n).map λ(k:Nat)=>.int (lo+(k:Int))
noncomputable def WJ (f:Bf) (as:List V):Option V:=match f,as with
 |.len,[x]=>(ZR x).map λxs=>.int xs.length
 |.max2,[.int a,.int b]=>some (.int (if b>a then b else a))
 |.min2,[.int a,.int b]=>some (.int (if b<a then b else a))
 |.toInt,[.int a]=>some (.int a)
 |.toInt,[.bl b]=>some (.int (b2i b))
 |.tuple,[x]=>(ZR x).map .tup
 |.list,[x]=>(ZR x).map .lst
 |.all,[.lst xs]=>(ZS xs).map λbs=>.bl (bs.all id)
 |.any,[x]=>(ZR x).bind λxs=>(ZS xs).map λbs=>.bl (bs.any id)
 |.sum,[.lst xs]=>(intsV xs).bind λis=>if Xx is=true then some (.int is.sum) else none
 |.sorted,[.lst xs]=>if yk xs=true then (Z0 xs).bind λrs=>if ZV rs=true then some (.lst ((ZY rs).map V3)) else none else (Xi xs).bind λps=>if Ys ps=true then some (.lst ((Xb ltP ps).map Jz)) else none
 |.sortedR,[.lst xs]=>(Z0 xs).bind λrs=>if ZV rs=true then some (.lst ((ZY rs).reverse.map V3)) else none
 |.rangeT,[.int i]=>if few i then some (.tup (Xm 0 i.toNat)) else none
 |_,_=>none
noncomputable def Z6:List Nat->List V->Env->Option Env
 |[],[],ρ=>some ρ
 |i::t,x::xs,ρ=>Z6 t xs (ρ.set i (some x))
 |_,_,_=>none
noncomputable def Zv (t:List Nat) (x:V) (ρ:Env):Option Env:=match t with
 |[i]=>some (ρ.set i (some x))
 |t=>match ZR x with
  |some xs=>Z6 t xs ρ
  |none=>none
noncomputable abbrev Zy:=Nat->List V->DS->PR V
noncomputable def Yz (cap:List Nat) (nl:Nat) (ρ:Env):Env:=List.replicate nl none++cap.map λi=>(ρ[i]?).join
noncomputable def mapP (f:V->DS->PR (List V)):List V->DS->PR (List V)
 |[],s=>.ok [] s
 |x::xs,s=>match f x s with
  |.ok ys s=>match mapP f xs s with
   |.ok zs s=>.ok (ys++zs) s
   |_=>.no
  |_=>.no
noncomputable def own (nl:Nat) (t:List Nat):Bool:=t.all λi=>decide (i<nl)
noncomputable def own2 (nl:Nat) (t u:List Nat):Bool:=own nl t&&u.all λi=>decide (i<nl) && !t.contains i
mutual
noncomputable def pv (C:Zy):E->Env->DS->PR V
 |.c d,_,s=>po (ofD d) s
 |.v i,ρ,s=>po (ρ[i]?).join s
 |.tup es,ρ,s=>(pvs C es ρ s).bind λxs s=>if xs.length<=lim then .ok (.tup xs) s else .no
 |.lst es,ρ,s=>(pvs C es ρ s).bind λxs s=>if xs.length<=lim then .ok (.lst xs) s else .no
 |.dnew,_,_=>.no
 |.dput1 _ _,_,_=>.no
 |.bin op a b,ρ,s=>(pv C a ρ s).bind λx s=>(pv C b ρ s).bind λy s=>YY op x y s
 |.neg a,ρ,s=>(pv C a ρ s).bind λx s=>match x with
  |.int i=>.ok (.int (-i)) s
  |_=>.no
 |.not a,ρ,s=>(pv C a ρ s).bind λx s=>(po (ZU x) s).bind λb s=>.ok (.bl !b) s
 |.and a b,ρ,s=>(pv C a ρ s).bind λx s=>match x with
  |.bl c=>if c then pv C b ρ s else .ok (.bl false) s
  |_=>.no
 |.or a b,ρ,s=>(pv C a ρ s).bind λx s=>match x with
  |.bl c=>if c then .ok (.bl true) s else pv C b ρ s
  |_=>.no
 |.ite t a b,ρ,s=>(pv C t ρ s).bind λx s=>(po (ZU x) s).bind λc s=>if c then pv C a ρ s else pv C b ρ s
 |.cmp op a b,ρ,s=>(pv C a ρ s).bind λx s=>(pv C b ρ s).bind λy s=>po (YM op x y) s
 |.chain o p a b d,ρ,s=>(pv C a ρ s).bind λx s=>(pv C b ρ s).bind λy s=>(po (YM o x y) s).bind λz s=>match z with
  |.bl c=>if c then (pv C d ρ s).bind λw s=>po (YM p y w) s else .ok (.bl false) s
  |_=>.no
 |.ix a i,ρ,s=>(pv C a ρ s).bind λx s=>(pv C i ρ s).bind λy s=>po (ixV x y) s
 |.sl a lo hi,ρ,s=>(pv C a ρ s).bind λx s=>(pvo C lo ρ s).bind λl s=>(pvo C hi ρ s).bind λh s=>po (slV x l h) s
 |.rev a,ρ,s=>(pv C a ρ s).bind λx s=>po (qc x) s
 |.call f as,ρ,s=>(pvs C as ρ s).bind λxs s=>C f xs s
 |.blt f as,ρ,s=>(pvs C as ρ s).bind λxs s=>po (WJ f xs) s
 |.mt _ _ _,_,_=>.no
 |.isi a ts,ρ,s=>(pv C a ρ s).bind λx s=>(po (YK x ts) s).bind λb s=>.ok (.bl b) s
 |.inT a tab,ρ,s=>(pv C a ρ s).bind λx s=>match x with
  |.int i=>.ok (.bl ((tab.map (·.1)).contains i)) s
  |_=>.no
 |.getT tab a,ρ,s=>(pv C a ρ s).bind λx s=>match x with
  |.int i=>(po (tab.lookup i) s).bind λj s=>.ok (.int j) s
  |_=>.no
 |.comp1 cap nl t it ifs elt,ρ,s=>if own nl t=true then (pvw C it ρ s).bind λw s=>
   ((mapP (λx s=>(po (Zv t x (Yz cap nl ρ)) s).bind λσ s=>(pvt C ifs σ s).bind λb s=>if b then (pv C elt σ s).bind λy s=>.ok [y] s else .ok [] s) w s).bind
    λys s=>if ys.length<=lim then .ok (.lst ys) s else .no).nox
  else .no
 |.comp2 cap nl t it ifs u jt jfs elt,ρ,s=>if own2 nl t u=true then (pvw C it ρ s).bind λw s=>
   ((mapP (λx s=>(po (Zv t x (Yz cap nl ρ)) s).bind λσ s=>(pvt C ifs σ s).bind λb s=>if b then
    (pvw C jt σ s).bind λw2 s=>mapP (λx s=>(po (Zv u x σ) s).bind λσ s=>(pvt C jfs σ s).bind λb s=>if b then (pv C elt σ s).bind λy s=>.ok [y] s else .ok [] s) w2 s
    else .ok [] s) w s).bind
    λys s=>if ys.length<=lim then .ok (.lst ys) s else .no).nox
  else .no
 |.fi a,ρ,s=>(pv C a ρ s).bind λx s=>match x with
  |.int i=>if ZB i=true then .ok (.int i) s else .no
  |_=>.no
 |.refu e,ρ,s=>match pv C e ρ s with
  |.ok _ s=>.ok .non s
  |.ex c s=>if 1<=c/\c<=10 then .ok (.int ((c:Int)-1)) s else .no
  |.no=>.no
noncomputable def pvs (C:Zy):List E->Env->DS->PR (List V)
 |[],_,s=>.ok [] s
 |e::es,ρ,s=>(pv C e ρ s).bind λx s=>(pvs C es ρ s).bind λxs s=>.ok (x::xs) s
noncomputable def pvo (C:Zy):Option E->Env->DS->PR (Option Int)
 |none,_,s=>.ok none s
 |some e,ρ,s=>(pv C e ρ s).bind λx s=>match x with
  |.int i=>.ok (some i) s
  |_=>.no
noncomputable def pvt (C:Zy):List E->Env->DS->PR Bool
 |[],_,s=>.ok true s
 |e::es,ρ,s=>(pv C e ρ s).bind λx s=>(po (ZU x) s).bind λb s=>if b then pvt C es ρ s else .ok false s
noncomputable def pvw (C:Zy):W->Env->DS->PR (List V)
 |.rng1 a,ρ,s=>(pv C a ρ s).bind λx s=>match x with
  |.int i=>if ZB i then .ok (Xm 0 i.toNat) s else .no
  |_=>.no
 |.rng2 a b,ρ,s=>(pv C a ρ s).bind λx s=>(pv C b ρ s).bind λy s=>match x,y with
  |.int i,.int j=>if (ZB i&&ZB j)=true then .ok (Xm i (j-i).toNat) s else .no
  |_,_=>.no
 |.rrng a b,ρ,s=>(pv C a ρ s).bind λx s=>(pv C b ρ s).bind λy s=>match x,y with
  |.int i,.int j=>if (ZB i&&ZB j)=true then .ok (Xm i (j-i).toNat).reverse s else .no
  |_,_=>.no
 |.rtup a,ρ,s=>(pv C a ρ s).bind λx s=>match x with
  |.tup xs=>.ok xs.reverse s
  |_=>.no
 |.zip a b,ρ,s=>(pv C a ρ s).bind λx s=>(pv C b ρ s).bind λy s=>match ZR x,ZR y with
  |some v,some w=>.ok ((v.zip w).map λp=>.tup [p.1,p.2]) s
  |_,_=>.no
 |.enum a,ρ,s=>(pv C a ρ s).bind λx s=>match ZR x with
  |some w=>.ok (((Xm 0 w.length).zip w).map λp=>.tup [p.1,p.2]) s
  |none=>.no
 |.of e,ρ,s=>(pv C e ρ s).bind λx s=>po (ZR x) s
end
inductive FlV where | nx (ρ:Env) (os:List Nat) | ret (v:V) | brk (ρ:Env) (os:List Nat) | cnt (ρ:Env) (os:List Nat)
noncomputable def hide (os:List Nat) (ρ:Env):Env:=ρ.mapIdx λi o=>if os.contains i then none else o
noncomputable def fresh:E->Bool
 |.lst _=>true
 |.comp1 .. => true
 |.comp2 .. => true
 |.bin .mul (.lst _) _=>true
 |.blt .list _=>true
 |.blt .sorted _=>true
 |_=>false
noncomputable def pvA (C:Zy) (e:E) (ρ:Env) (os:List Nat) (s:DS):PR V:=match os with
 |[]=>pv C e ρ s
 |os=>match pv C e (hide os ρ) s with
  |.ok v s=>.ok v s
  |.ex c s=>.ex c s
  |.no=>(pv C e ρ s).bind λv s=>if v.flat then .ok v s else .no
noncomputable def uc (C:Zy) (es:List E) (ρ:Env) (os:List Nat) (s:DS):PR (List V):=match os with
 |[]=>pvs C es ρ s
 |_=>(pvs C es ρ s).bind λv s=>if Zt v then .ok v s else .no
noncomputable def UI (C:Zy) (e:E) (ρ:Env) (s:DS):PR Bool:=(pv C e ρ s).bind λx s=>po (ZU x) s
noncomputable def UT (body:V->Env->List Nat->DS->PR FlV):List V->Env->List Nat->DS->PR FlV
 |[],ρ,os,s=>.ok (.nx ρ os) s
 |x::xs,ρ,os,s=>(body x ρ os s).bind λf s=>match f with
  |.nx ρ os=>UT body xs ρ os s
  |.cnt ρ os=>UT body xs ρ os s
  |.brk ρ os=>.ok (.nx ρ os) s
  |.ret v=>.ok (.ret v) s
noncomputable def XH (test:Env->DS->PR Bool) (body:Env->List Nat->DS->PR FlV):Nat->Env->List Nat->DS->PR FlV
 |0,_,_,_=>.no
 |n+1,ρ,os,s=>(test ρ s).bind λb s=>if b then (body ρ os s).bind λf s=>match f with
  |.nx ρ os=>XH test body n ρ os s
  |.cnt ρ os=>XH test body n ρ os s
  |.brk ρ os=>.ok (.nx ρ os) s
  |.ret v=>.ok (.ret v) s
  else .ok (.nx ρ os) s
noncomputable def YR:Option (Option V)->Option (List V)
 |some (some (.lst xs))=>some xs
 |_=>none
mutual
noncomputable def rv (C:Zy) (ms:List Nat):Sm->Env->List Nat->DS->PR FlV
 |.asg [i] e,ρ,os,s=>(pvA C e ρ os s).bind λv s=>if (ms.contains i&&fresh e)=true then match v with
   |.lst xs=>if Zt xs=true/\i<ρ.length then .ok (.nx (ρ.set i (some v)) (i::os.filter (· != i))) s else .no
   |_=>.no
  else .ok (.nx (ρ.set i (some v)) (os.filter (· != i))) s
 |.asg t e,ρ,os,s=>(pvA C e ρ os s).bind λv s=>if (t.any os.contains)=true then .no else (po (Zv t v ρ) s).bind λρ s=>.ok (.nx ρ os) s
 |.par t es,ρ,os,s=>(uc C es ρ os s).bind λvs s=>if (t.any os.contains)=true then .no else (po (Z6 t vs ρ) s).bind λρ s=>.ok (.nx ρ os) s
 |.aug i op e,ρ,os,s=>if os.contains i then .no else (po (ρ[i]?).join s).bind λx s=>(pv C e ρ s).bind λy s=>(Gc op x y s).bind λz s=>.ok (.nx (ρ.set i (some z)) os) s
 |.put (.v i) k e,ρ,os,s=>if os.contains i then (pv C e ρ s).bind λv s=>if v.flat then (po (YR ρ[i]?) s).bind λxs s=>(pv C k ρ s).bind λy s=>match y with
   |.int n=>(po (ixN xs.length n) s).bind λj s=>.ok (.nx (ρ.set i (some (.lst (xs.set j v)))) os) s
   |_=>.no
  else .no else .no
 |.put _ _ _,_,_,_=>.no
 |.dput _ _ _,_,_,_=>.no
 |.ret e,ρ,os,s=>(pv C e ρ s).bind λv s=>.ok (.ret v) s
 |.ex (.mt .append (.v i) [e]),ρ,os,s=>if os.contains i then (po (YR ρ[i]?) s).bind λxs s=>(pv C e ρ s).bind λv s=>if v.flat=true/\xs.length<lim then .ok (.nx (ρ.set i (some (.lst (xs++[v])))) os) s else .no else .no
 |.ex (.mt .extend (.v i) [e]),ρ,os,s=>if os.contains i then (po (YR ρ[i]?) s).bind λxs s=>(pv C e (hide os ρ) s).bind λv s=>match v with
   |.lst ys=>if Zt ys=true/\xs.length+ys.length<=lim then .ok (.nx (ρ.set i (some (.lst (xs++ys)))) os) s else .no
   |_=>.no
  else .no
 |.ex e,ρ,os,s=>(pv C e ρ s).bind λ_ s=>.ok (.nx ρ os) s
 |.ite t a b,ρ,os,s=>(UI C t ρ s).bind λc s=>if c then rvs C ms a ρ os s else rvs C ms b ρ os s
 |.forr t it b,ρ,os,s=>(pvw C it (hide os ρ) s).bind λw s=>UT (λx ρ os s=>if (t.any os.contains)=true then .no else if (os.isEmpty||x.flat)=true then (po (Zv t x ρ) s).bind λρ s=>rvs C ms b ρ os s else .no) w ρ os s
 |.whl t b,ρ,os,s=>XH (UI C t) (rvs C ms b) W5 ρ os s
 |.raise c as,ρ,os,s=>(pvs C as ρ s).bind λ_ s=>.ex c s
 |.pas,ρ,os,s=>.ok (.nx ρ os) s
 |.brk,ρ,os,s=>.ok (.brk ρ os) s
 |.cnt,ρ,os,s=>.ok (.cnt ρ os) s
noncomputable def rvs (C:Zy) (ms:List Nat):List Sm->Env->List Nat->DS->PR FlV
 |[],ρ,os,s=>.ok (.nx ρ os) s
 |m::ss,ρ,os,s=>(rv C ms m ρ os s).bind λf s=>match f with
  |.nx ρ os=>rvs C ms ss ρ os s
  |f=>.ok f s
end
mutual
noncomputable def uG:Sm->List Nat
 |.put (.v i) _ _=>[i]
 |.ex (.mt .append (.v i) _)=>[i]
 |.ex (.mt .extend (.v i) _)=>[i]
 |.ite _ a b=>muts a++muts b
 |.forr _ _ b=>muts b
 |.whl _ b=>muts b
 |_=>[]
noncomputable def muts:List Sm->List Nat
 |[]=>[]
 |m::ss=>uG m++muts ss
end
noncomputable def YD (n:Nat) (xs:List V):Env:=xs.map some++List.replicate (n-xs.length) none
noncomputable def Z3 (s:DS) (m:Int):Int×DS:=
 if s.2 then (s.1%m,(s.1 / m,true)) else
  let x:=(s.1*48271+29)%2147483647
  let y:=(x*x+39373*x+7)%2147483629
  let z:=(y*y+16807*y)%2147483587
  (z / 8%m,(x,false))
noncomputable def zA (vs:List V) (s:DS):PR V:=match vs with
 |[.drw,.int m]=>if 0<m/\m<1073741824 then .ok (.int (Z3 s m).1) (Z3 s m).2 else .no
 |_=>.no
noncomputable def ZM (F:List Fn) (tk:Nat):Nat->Zy
 |0,_,_,_=>.no
 |d+1,f,xs,s=>if f=tk then zA xs s else match F[f]? with
  |some fn=>if xs.length=fn.ps then (rvs (ZM F tk d) (muts fn.body) fn.body (YD fn.ns xs) [] s).bind λf s=>match f with
    |.ret v=>.ok v s
    |.nx _ _=>.ok .non s
    |_=>.no
   else .no
  |none=>.no
end Pv
namespace Pv
open Ev
mutual
def Rep (S:Za) (X:Nat->Prop) (n0:Nat):V->D->Prop
 |.non,d=>d=.non
 |.bl b,d=>d=.bl b
 |.int i,d=>d=.int i
 |.str x,d=>d=.str x
 |.tup vs,d=>∃ds,d=.tup ds/\Rq S X n0 vs ds
 |.lst vs,d=>∃n ds,d=.loc n/\S[n]? = some (.lst ds)/\¬X n/\Rq S X n0 vs ds
 |.drw,d=>d=.loc n0
def Rq (S:Za) (X:Nat->Prop) (n0:Nat):List V->List D->Prop
 |[],ds=>ds=[]
 |v::vs,ds=>∃d es,ds=d::es/\Rep S X n0 v d/\Rq S X n0 vs es
end
section
variable {S S':Za}{X X':Nat->Prop}{n0:Nat}
theorem Yl {n:Nat}{o:Ob}(h:S[n]? = some o):n<S.length:=(Pc.mp h).1
mutual
theorem Rep.mono (k:∀n o,¬X n->S[n]? = some o->S'[n]? = some o) (x:∀n,n<S.length->X' n->X n):∀{v:V}{d:D},Rep S X n0 v d->Rep S' X' n0 v d
 |.non,_,h | .bl _,_,h | .int _,_,h | .str _,_,h | .drw,_,h=>by unfold Rep at h ⊢;exact h
 |.tup vs,d,h=>by
  unfold Rep at h ⊢;obtain⟨ds,e,r⟩:=h;exact⟨ds,e,Rq.mono k x r⟩
 |.lst vs,d,h=>by
  unfold Rep at h ⊢;obtain⟨n,ds,e,hs,hx,r⟩:=h;exact⟨n,ds,e,k n _ hx hs,λz=>hx (x n (Yl hs) z),Rq.mono k x r⟩
theorem Rq.mono (k:∀n o,¬X n->S[n]? = some o->S'[n]? = some o) (x:∀n,n<S.length->X' n->X n):∀{vs:List V}{ds:List D},Rq S X n0 vs ds->Rq S' X' n0 vs ds
 |[],_,h=>by unfold Rq at h ⊢;exact h
 |v::vs,ds,h=>by
  unfold Rq at h ⊢;obtain⟨d,es,e,r,rs⟩:=h;exact⟨d,es,e,Rep.mono k x r,Rq.mono k x rs⟩
end
theorem Rq.nil:Rq S X n0 [] []:=by unfold Rq;rfl
theorem Rq.cons {v:V}{d:D}{vs:List V}{ds:List D}(r:Rep S X n0 v d) (rs:Rq S X n0 vs ds):Rq S X n0 (v::vs) (d::ds):=by unfold Rq;exact⟨d,ds,rfl,r,rs⟩
theorem Rq.nil' {ds:List D}(h:Rq S X n0 [] ds):ds=[]:=by unfold Rq at h;exact h
theorem Rq.cons' {v:V}{vs:List V}{ds:List D}(h:Rq S X n0 (v::vs) ds):∃d es,ds=d::es/\Rep S X n0 v d/\Rq S X n0 vs es:=by unfold Rq at h;exact h
theorem Rq.length:∀{vs:List V}{ds:List D},Rq S X n0 vs ds->ds.length=vs.length
 |[],_,h=>by rw[h.nil'];rfl
 |v::vs,_,h=>by obtain⟨d,es,rfl,_,t⟩:=h.cons';rw[PF,PF,Rq.length t]
theorem Rq.append:∀{vs ws:List V}{ds es:List D},Rq S X n0 vs ds->Rq S X n0 ws es->Rq S X n0 (vs++ws) (ds++es)
 |[],_,_,_,h,r=>by rw[h.nil'];exact r
 |v::vs,_,_,_,h,r=>by obtain⟨d,es,rfl,a,t⟩:=h.cons';exact Rq.cons a (Rq.append t r)
theorem Rq.take:∀{vs:List V}{ds:List D}(k:Nat),Rq S X n0 vs ds->Rq S X n0 (vs.take k) (ds.take k)
 |_,_,0,_=>Rq.nil
 |[],_,k+1,h=>by rw[h.nil'];exact Rq.nil
 |v::vs,_,k+1,h=>by obtain⟨d,es,rfl,a,t⟩:=h.cons';exact Rq.cons a (Rq.take k t)
theorem Rq.drop:∀{vs:List V}{ds:List D}(k:Nat),Rq S X n0 vs ds->Rq S X n0 (vs.drop k) (ds.drop k)
 |_,_,0,h=>h
 |[],_,k+1,h=>by rw[h.nil'];exact Rq.nil
 |v::vs,_,k+1,h=>by obtain⟨d,es,rfl,a,t⟩:=h.cons';exact Rq.drop k t
theorem Rq.get:∀{vs:List V}{ds:List D}{i:Nat}{v:V},Rq S X n0 vs ds->vs[i]? = some v->∃d,ds[i]? = some d/\Rep S X n0 v d
 |[],_,_,_,_,e=>by simp at e
 |v::vs,_,0,_,h,e=>by
  obtain⟨d,es,rfl,a,t⟩:=h.cons';simp at e;subst e;exact⟨d,rfl,a⟩
 |v::vs,_,i+1,_,h,e=>by
  obtain⟨d,es,rfl,a,t⟩:=h.cons';obtain⟨u,q,r⟩:=Rq.get (i:=i) t (by simpa using e)
  exact⟨u,by simpa using q,r⟩
theorem Rq.reverse:∀{vs:List V}{ds:List D},Rq S X n0 vs ds->Rq S X n0 vs.reverse ds.reverse
 |[],_,h=>by rw[h.nil'];exact Rq.nil
 |v::vs,_,h=>by
  obtain⟨d,es,rfl,a,t⟩:=h.cons';rw[List.reverse_cons,List.reverse_cons];exact Rq.append (Rq.reverse t) (Rq.cons a Rq.nil)
theorem Rq.rep {vs:List V}{ds:List D}(h:Rq S X n0 vs ds):∀k:Nat,Rq S X n0 (List.replicate k vs).flatten (List.replicate k ds).flatten
 |0=>Rq.nil
 |k+1=>by rw[PO,PO,P0,P0];exact Rq.append h (Rq.rep h k)
theorem Rq.empty:∀{vs:List V}{ds:List D},Rq S X n0 vs ds->ds.isEmpty=vs.isEmpty
 |[],_,h=>by rw[h.nil'];rfl
 |v::vs,_,h=>by obtain⟨d,es,rfl,_,_⟩:=h.cons';rfl
mutual
theorem YX:∀{v:V}{d:D},v.flat=true->Rep S X n0 v d->d=toD v
 |.non,_,_,h | .bl _,_,_,h | .int _,_,_,h | .str _,_,_,h=>by unfold Rep at h;exact h
 |.tup vs,d,hf,h=>by
  unfold Rep at h;obtain⟨ds,rfl,r⟩:=h;exact congrArg D.tup (YE hf r)
 |.lst _,_,hf,_=>by cases hf
 |.drw,_,hf,_=>by cases hf
theorem YE:∀{vs:List V}{ds:List D},Zt vs=true->Rq S X n0 vs ds->ds=Z5 vs
 |[],_,_,h=>h.nil'
 |v::vs,_,hf,h=>by
  obtain⟨d,es,rfl,a,t⟩:=h.cons';unfold Zt at hf;obtain⟨h1,h2⟩:=(Ph _ _).mp hf;rw[YX h1 a,YE h2 t];rfl
end
mutual
theorem WR:∀{v:V},v.flat=true->Rep S X n0 v (toD v)
 |.non,_ | .bl _,_ | .int _,_ | .str _,_=>by unfold Rep;rfl
 |.tup vs,hf=>by unfold Rep;exact⟨Z5 vs,rfl,Y7 hf⟩
 |.lst _,hf=>by cases hf
 |.drw,hf=>by cases hf
theorem Y7:∀{vs:List V},Zt vs=true->Rq S X n0 vs (Z5 vs)
 |[],_=>Rq.nil
 |v::vs,hf=>by
  unfold Zt at hf;obtain⟨h1,h2⟩:=(Ph _ _).mp hf;exact Rq.cons (WR h1) (Y7 h2)
end
theorem Rep.int' {i:Int}{d:D}(h:Rep S X n0 (.int i) d):d=.int i:=by unfold Rep at h;exact h
theorem Rep.bl' {i:Bool}{d:D}(h:Rep S X n0 (.bl i) d):d=.bl i:=by unfold Rep at h;exact h
theorem Rep.non' {d:D}(h:Rep S X n0 .non d):d=.non:=by unfold Rep at h;exact h
theorem Rep.str' {x:PySem.Str}{d:D}(h:Rep S X n0 (.str x) d):d=.str x:=by unfold Rep at h;exact h
theorem Rep.tup' {vs:List V}{d:D}(h:Rep S X n0 (.tup vs) d):∃ds,d=.tup ds/\Rq S X n0 vs ds:=by unfold Rep at h;exact h
theorem Rep.lst' {vs:List V}{d:D}(h:Rep S X n0 (.lst vs) d):∃n ds,d=.loc n/\S[n]? = some (.lst ds)/\¬X n/\Rq S X n0 vs ds:=by unfold Rep at h;exact h
theorem Rep.drw' {d:D}(h:Rep S X n0 .drw d):d=.loc n0:=by unfold Rep at h;exact h
theorem Zf (i:Int):Rep S X n0 (.int i) (.int i):=by unfold Rep;rfl
theorem Zh (i:Bool):Rep S X n0 (.bl i) (.bl i):=by unfold Rep;rfl
theorem Yf:Rep S X n0 .non .non:=by unfold Rep;rfl
theorem ZE {vs:List V}{ds:List D}(h:Rq S X n0 vs ds):Rep S X n0 (.tup vs) (.tup ds):=by unfold Rep;exact⟨ds,rfl,h⟩
theorem VW {vs:List V}{n:Nat}{ds:List D}(hs:S[n]? = some (.lst ds)) (hx:¬X n) (h:Rq S X n0 vs ds):Rep S X n0 (.lst vs) (.loc n):=by unfold Rep;exact⟨n,ds,rfl,hs,hx,h⟩
theorem Zm {n:Nat}{ds:List D}(h:S[n]? = some (.lst ds)):Zc S n=some ds:=by unfold Zc;rw[h]
theorem WU {n:Nat}{ds:List D}(h:S[n]? = some (.lst ds)):ZP S n=some ds:=by unfold ZP;rw[h]
mutual
theorem JF:∀{d:D}{v:V},ofD d=some v->Rep S X n0 v d
 |.non,v,h | .bl _,v,h | .int _,v,h | .str _,v,h=>by cases h;unfold Rep;rfl
 |.tup ds,v,h=>by
  unfold ofD at h;cases q:J4 ds with
  |none=>rw[q] at h;cases h
  |some vs=>rw[q] at h;cases h;exact ZE (Ux q)
 |.loc _,_,h | .fn _,_,h | .exc _ _,_,h=>by cases h
theorem Ux:∀{ds:List D}{vs:List V},J4 ds=some vs->Rq S X n0 vs ds
 |[],vs,h=>by cases h;exact Rq.nil
 |d::ds,vs,h=>by
  unfold J4 at h;cases q:ofD d with
  |none=>rw[q] at h;cases h
  |some a=>
   cases q2:J4 ds with
   |none=>rw[q,q2] at h;cases h
   |some b=>rw[q,q2] at h;cases h;exact Rq.cons (JF q) (Ux q2)
end
theorem Yk {v:V}{d:D}{b:Bool}(r:Rep S X n0 v d) (h:ZU v=some b):ZN S d=some b:=by
 cases v with
 |non=>cases r.non';exact h
 |bl x=>cases r.bl';exact h
 |int x=>cases r.int';exact h
 |str x=>cases h
 |drw=>cases h
 |tup vs=>
  obtain⟨ds,rfl,rs⟩:=r.tup';show some (!ds.isEmpty)=some b;rw[rs.empty];exact h
 |lst vs=>
  obtain⟨n,ds,rfl,hs,_,rs⟩:=r.lst';show (ZP S n).map _=some b;rw[WU hs];show some (!ds.isEmpty)=some b;rw[rs.empty];exact h
theorem QO {f:V->V->Option Bool}{g:D->D->Option Bool}(hf:∀v w d e b,Rep S X n0 v d->Rep S X n0 w e->f v w=some b->g d e=some b):∀{vs ws:List V}{ds es:List D}{b:Bool},Rq S X n0 vs ds->Rq S X n0 ws es->V5 f vs ws=some b->eqL g ds es=some b
 |[],[],_,_,b,h1,h2,h=>by rw[h1.nil',h2.nil'];exact h
 |[],w::ws,_,_,b,h1,h2,h=>by rw[h1.nil'];obtain⟨d,es,rfl,_,_⟩:=h2.cons';exact h
 |v::vs,[],_,_,b,h1,h2,h=>by rw[h2.nil'];obtain⟨d,es,rfl,_,_⟩:=h1.cons';exact h
 |v::vs,w::ws,_,_,b,h1,h2,h=>by
  obtain⟨d,ds,rfl,a1,t1⟩:=h1.cons';obtain⟨e,es,rfl,a2,t2⟩:=h2.cons';unfold V5 at h;cases q1:f v w with
  |none=>rw[q1] at h;cases h
  |some x=>
   cases q2:V5 f vs ws with
   |none=>rw[q1,q2] at h;cases h
   |some y=>
    rw[q1,q2] at h;unfold eqL;rw[hf v w d e x a1 a2 q1,QO hf t1 t2 q2];exact h
theorem W4:∀(k:Nat) (v w:V) (d e:D) (b:Bool),Rep S X n0 v d->Rep S X n0 w e->eqV k v w=some b->eqD S k d e=some b
 |0,_,_,_,_,_,_,_,h=>by cases h
 |k+1,v,w,d,e,b,r1,r2,h=>by
  cases v with
  |tup vs=>cases w with
   |tup ws=>
    obtain⟨ds,rfl,t1⟩:=r1.tup';obtain⟨es,rfl,t2⟩:=r2.tup';exact QO (W4 k) t1 t2 h
   |_=>cases h
  |lst vs=>cases w with
   |lst ws=>
    obtain⟨m,ds,rfl,hs1,_,t1⟩:=r1.lst';obtain⟨n,es,rfl,hs2,_,t2⟩:=r2.lst';have h':(if vs.length=ws.length then V5 (eqV k) vs ws else some false)=some b:=h
    show (match Zc S m,Zc S n with
     |some xs,some ys=>if xs.length=ys.length then eqL (eqD S k) xs ys else some false
     |_,_=>none)=some b
    rw[Zm hs1,Zm hs2];show (if ds.length=es.length then eqL (eqD S k) ds es else some false)=some b
    rw[t1.length,t2.length];by_cases c:vs.length=ws.length
    ·rw[Pj c] at h' ⊢;exact QO (W4 k) t1 t2 h'
    ·rw[Pm c] at h' ⊢;exact h'
   |_=>cases h
  |drw=>cases w <;> cases h
  |non=>cases r1.non';cases w with
   |non=>cases r2.non';exact h
   |bl _=>cases r2.bl';exact h
   |int _=>cases r2.int';exact h
   |str _=>cases r2.str';exact h
   |_=>cases h
  |bl x=>cases r1.bl';cases w with
   |non=>cases r2.non';exact h
   |bl _=>cases r2.bl';exact h
   |int _=>cases r2.int';exact h
   |str _=>cases r2.str';exact h
   |_=>cases h
  |int x=>cases r1.int';cases w with
   |non=>cases r2.non';exact h
   |bl _=>cases r2.bl';exact h
   |int _=>cases r2.int';exact h
   |str _=>cases r2.str';exact h
   |_=>cases h
  |str x=>cases r1.str';cases w with
   |non=>cases r2.non';exact h
   |bl _=>cases r2.bl';exact h
   |int _=>cases r2.int';exact h
   |str _=>cases r2.str';exact h
   |_=>cases h
theorem Qc {x:V}{dx:D}(rx:Rep S X n0 x dx):∀{vs:List V}{ds:List D}{b:Bool},Rq S X n0 vs ds->Gg x vs=some b->inL S dx ds=some b
 |[],_,b,h,e=>by rw[h.nil'];exact e
 |v::vs,_,b,h,e=>by
  obtain⟨d,ds,rfl,a,t⟩:=h.cons';unfold Gg at e;cases q1:eqV ZA v x with
  |none=>rw[q1] at e;cases e
  |some y=>
   cases q2:Gg x vs with
   |none=>rw[q1,q2] at e;cases e
   |some z=>
    rw[q1,q2] at e;unfold inL;rw[W4 _ _ _ _ _ _ a rx q1,Qc rx t q2];exact e
theorem yN {v:V}{d:D}{t:Ty}{b:Bool}(r:Rep S X n0 v d) (h:WX v t=some b):UN S d t=some b:=by
 cases v with
 |non=>cases r.non';exact h
 |bl x=>cases r.bl';exact h
 |int x=>cases r.int';exact h
 |str x=>cases r.str';exact h
 |drw=>cases h
 |tup vs=>obtain⟨ds,rfl,rs⟩:=r.tup';exact h
 |lst vs=>
  obtain⟨n,ds,rfl,hs,_,rs⟩:=r.lst';show (match S[n]? with
   |some (.lst _)=>some (decide (t=.list))
   |some (.dt _)=>some (decide (t=.dict))
   |some (.dk _)=>some (decide (t=.dict))
   |_=>none)=some b
  rw[hs];exact h
theorem Uo {v:V}{d:D}(r:Rep S X n0 v d):∀{ts:List Ty}{b:Bool},YK v ts=some b->Wt S d ts=some b
 |[],b,h=>h
 |t::ts,b,h=>by
  unfold YK at h;unfold Wt;cases q:WX v t with
  |none=>rw[q] at h;cases h
  |some x=>
   rw[q] at h;rw[yN r q];cases x with
   |true=>exact h
   |false=>exact Uo r h
theorem xM {vs:List V}{ds:List D}{i:Int}{v:V}(r:Rq S X n0 vs ds) (h:at' vs i=some v):∃d,at' ds i=some d/\Rep S X n0 v d:=by
 unfold at' at h ⊢;rw[r.length];cases q:ixN vs.length i with
 |none=>rw[q] at h;cases h
 |some j=>rw[q] at h;exact r.get h
theorem Gy {vs:List V}{ds:List D}{lo hi:Option Int}(r:Rq S X n0 vs ds):Rq S X n0 (yG vs lo hi) (cut ds lo hi):=by
 unfold yG cut;rw[r.length];exact (r.drop _).take _
theorem XV:∀{vs:List V}{ds:List D}{is:List Int},Rq S X n0 vs ds->intsV vs=some is->Yd ds=some is/\Xa ds=some is
 |[],_,is,r,h=>by rw[r.nil'];cases h;exact⟨rfl,rfl⟩
 |v::vs,_,is,r,h=>by
  obtain⟨d,ds,rfl,a,t⟩:=r.cons';cases v with
  |int i=>
   cases a.int';have h':(intsV vs).map (i :: ·)=some is:=h
   cases q:intsV vs with
   |none=>rw[q] at h';cases h'
   |some js=>
    rw[q] at h';obtain⟨e1,e2⟩:=XV t q;refine⟨?_,?_⟩
    ·show (Yd ds).map (i :: ·)=some is;rw[e1];exact h'
    ·show (Xa ds).map (i :: ·)=some is;rw[e2];exact h'
  |_=>cases h
theorem Yi:∀{vs:List V}{ds:List D}{rs:List (List Int)},Rq S X n0 vs ds->Z0 vs=some rs->Zz ds=some rs
 |[],_,rs,r,h=>by rw[r.nil'];cases h;rfl
 |v::vs,_,rs,r,h=>by
  obtain⟨d,ds,rfl,a,t⟩:=r.cons';cases v with
  |tup xs=>
   obtain⟨es,rfl,r2⟩:=a.tup';unfold Z0 at h;cases q1:intsV xs with
   |none=>rw[q1] at h;cases h
   |some x=>
    cases q2:Z0 vs with
    |none=>rw[q1,q2] at h;cases h
    |some y=>
     rw[q1,q2] at h;unfold Zz;have:WM (.tup es)=some x:=(XV r2 q1).2;rw[this,Yi t q2];exact h
  |_=>cases h
theorem Us:∀(is:List Int),Rq S X n0 (is.map V.int) (is.map D.int)
 |[]=>Rq.nil
 |i::is=>Rq.cons (Zf i) (Us is)
theorem Xs:∀(rs:List (List Int)),Rq S X n0 (rs.map V3) (rs.map Wq)
 |[]=>Rq.nil
 |r::rs=>Rq.cons (ZE (Us r)) (Xs rs)
theorem WO:∀{vs:List V}{ds:List D}{ps:List (List (List Int))},Rq S X n0 vs ds->Xi vs=some ps->Yt ds=some ps
 |[],_,ps,r,h=>by rw[r.nil'];cases h;rfl
 |v::vs,_,ps,r,h=>by
  obtain⟨d,ds,rfl,a,t⟩:=r.cons';cases v with
  |tup xs=>
   obtain⟨es,rfl,r2⟩:=a.tup';unfold Xi at h;cases q1:Z0 xs with
   |none=>rw[show VX (.tup xs)=none from q1] at h;cases h
   |some x=>
    cases q2:Xi vs with
    |none=>rw[show VX (.tup xs)=some x from q1,q2] at h;cases h
    |some y=>
     rw[show VX (.tup xs)=some x from q1,q2] at h
     unfold Yt;rw[show QS (.tup es)=some x from Yi r2 q1,WO t q2];exact h
  |_=>cases h
theorem Vo:∀(ps:List (List (List Int))),Rq S X n0 (ps.map Jz) (ps.map Vp)
 |[]=>Rq.nil
 |P::ps=>Rq.cons (ZE (Xs P)) (Vo ps)
theorem vt {vs:List V}{ds:List D}(r:Rq S X n0 vs ds):zY ds=yk vs:=by
 cases vs with
 |nil=>rw[r.nil'];rfl
 |cons v vs=>
  obtain⟨d,ds,rfl,a,t⟩:=r.cons';cases v with
  |tup xs=>
   obtain⟨es,rfl,r2⟩:=a.tup';cases xs with
   |nil=>rw[r2.nil'];rfl
   |cons x xs=>
    obtain⟨e,es,rfl,b,t2⟩:=r2.cons';cases x with
    |non=>cases b.non';rfl
    |bl _=>cases b.bl';rfl
    |int _=>cases b.int';rfl
    |str _=>cases b.str';rfl
    |tup _=>obtain⟨_,rfl,_⟩:=b.tup';rfl
    |lst _=>obtain⟨_,_,rfl,_⟩:=b.lst';rfl
    |drw=>cases b.drw';rfl
  |non=>cases a.non';rfl
  |bl _=>cases a.bl';rfl
  |int _=>cases a.int';rfl
  |str _=>cases a.str';rfl
  |lst _=>obtain⟨_,_,rfl,_⟩:=a.lst';rfl
  |drw=>cases a.drw';rfl
theorem JI {v:V}{d:D}{b:Bool}(r:Rep S X n0 v d) (h:VE v=some b):Ww d=some b:=by
 cases v with
 |non=>cases r.non';exact h
 |bl x=>cases r.bl';exact h
 |int x=>cases r.int';exact h
 |_=>cases h
theorem XQ:∀{vs:List V}{ds:List D}{bs:List Bool},Rq S X n0 vs ds->ZS vs=some bs->Ye ds=some bs
 |[],_,bs,r,h=>by rw[r.nil'];exact h
 |v::vs,_,bs,r,h=>by
  obtain⟨d,ds,rfl,a,t⟩:=r.cons';unfold ZS at h;cases q1:VE v with
  |none=>rw[q1] at h;cases h
  |some x=>
   cases q2:ZS vs with
   |none=>rw[q1,q2] at h;cases h
   |some y=>
    rw[q1,q2] at h;unfold Ye;rw[JI a q1,XQ t q2];exact h
theorem UX {v:V}{d:D}{vs:List V}(r:Rep S X n0 v d) (h:ZR v=some vs):∃ds,YA S d=some ds/\Rq S X n0 vs ds:=by
 cases v with
 |tup xs=>obtain⟨ds,rfl,rs⟩:=r.tup';cases h;exact⟨ds,rfl,rs⟩
 |lst xs=>obtain⟨n,ds,rfl,hs,_,rs⟩:=r.lst';cases h;exact⟨ds,WU hs,rs⟩
 |_=>cases h
end
structure Ext (n0:Nat) (S S':Za):Prop where
 len:S.length<=S'.length
 keep:∀n o,n≠n0->S[n]? = some o->S'[n]? = some o
theorem Ext.refl {n0:Nat}{S:Za}:Ext n0 S S:=⟨Po _,λ_ _ _ h=>h⟩
theorem Ext.trans {n0:Nat}{S S1 S2:Za}(a:Ext n0 S S1) (b:Ext n0 S1 S2):Ext n0 S S2:=⟨PY a.len b.len,λn o h e=>b.keep n o h (a.keep n o h e)⟩
theorem Ext.app {n0:Nat}{S T:Za}:Ext n0 S (S++T):=⟨by simp,λn o _ e=>by rw[Pl (Yl e)];exact e⟩
def Dw (n0:Nat) (S:Za) (s:DS):Prop:=S[n0]? = some (.lst [.int s.1,.bl s.2])/\0<=s.1/\(s.2=false->s.1<2147483647)
theorem Dw.app {n0:Nat}{S T:Za}{s:DS}(h:Dw n0 S s):Dw n0 (S++T) s:=⟨by rw[Pl (Yl h.1)];exact h.1,h.2⟩
structure Xok (X:Nat->Prop) (n0:Nat) (S:Za):Prop where
 z:X n0
 lt:∀n,X n->n<S.length
theorem Xok.ext {X:Nat->Prop}{n0:Nat}{S S':Za}(h:Xok X n0 S) (e:Ext n0 S S'):Xok X n0 S':=⟨h.z,λn x=>Pu (h.lt n x) e.len⟩
theorem Rep.ext {X:Nat->Prop}{n0:Nat}{S S':Za}{v:V}{d:D}(x:Xok X n0 S) (e:Ext n0 S S') (h:Rep S X n0 v d):Rep S' X n0 v d:=
 h.mono (λn o nx hs=>e.keep n o (λz=>nx (z▸x.z)) hs) λ_ _ h=>h
theorem Rq.ext {X:Nat->Prop}{n0:Nat}{S S':Za}{v:List V}{d:List D}(x:Xok X n0 S) (e:Ext n0 S S') (h:Rq S X n0 v d):Rq S' X n0 v d:=
 h.mono (λn o nx hs=>e.keep n o (λz=>nx (z▸x.z)) hs) λ_ _ h=>h
def Sim {α β:Type} (n0:Nat) (S:Za) (Rl:Za->β->α->Prop) (r:R α) (q:PR β):Prop:=match q with
 |.no=>True
 |.ok b s'=>∃a S',r=.ok a S'/\Ext n0 S S'/\Dw n0 S' s'/\Rl S' b a
 |.ex c s'=>∃S',r=.ex c S'/\Ext n0 S S'/\Dw n0 S' s'
section
variable {α β γ δ:Type}{n0:Nat}{S:Za}{X:Nat->Prop}
theorem Sim.nox {Rl:Za->β->α->Prop}{r:R α}{q:PR β}(h:Sim n0 S Rl r q):Sim n0 S Rl r.nox q.nox:=by
 cases q with
 |no=>exact True.intro
 |ex c s=>exact True.intro
 |ok b s=>
  obtain⟨a,S',rfl,x⟩:=h;exact⟨a,S',rfl,x⟩
theorem Sim.bind {Rl:Za->β->α->Prop}{Rm:Za->δ->γ->Prop}{r:R α}{q:PR β}{f:α->Za->R γ}{g:β->DS->PR δ}(h:Sim n0 S Rl r q)
  (k:∀a b S' s',Ext n0 S S'->Dw n0 S' s'->Rl S' b a->Sim n0 S' Rm (f a S') (g b s')):Sim n0 S Rm (r.bind f) (q.bind g):=by
 cases q with
 |no=>exact True.intro
 |ex c s'=>
  obtain⟨S',e,x,w⟩:=h;rw[e];exact⟨S',rfl,x,w⟩
 |ok b s'=>
  obtain⟨a,S',e,x,w,rl⟩:=h;rw[e];have k':=k a b S' s' x w rl;show Sim n0 S Rm (f a S') (g b s');cases q2:g b s' with
  |no=>exact True.intro
  |ex c s2=>
   rw[q2] at k';obtain⟨S2,e2,x2,w2⟩:=k';exact⟨S2,e2,x.trans x2,w2⟩
  |ok b2 s2=>
   rw[q2] at k';obtain⟨a2,S2,e2,x2,w2,r2⟩:=k';exact⟨a2,S2,e2,x.trans x2,w2,r2⟩
theorem Sim.ok {Rl:Za->β->α->Prop}{a:α}{b:β}{s:DS}(w:Dw n0 S s) (r:Rl S b a):Sim n0 S Rl (.ok a S) (.ok b s):=⟨a,S,rfl,Ext.refl,w,r⟩
theorem Sim.app {Rl:Za->β->α->Prop}{a:α}{b:β}{s:DS}{T:Za}(w:Dw n0 S s) (r:Rl (S++T) b a):Sim n0 S Rl (.ok a (S++T)) (.ok b s):=⟨a,S++T,rfl,Ext.app,w.app,r⟩
theorem Sim.po {Rl:Za->β->α->Prop}{r:R α}{o:Option β}{s:DS}(h:∀b,o=some b->Sim n0 S Rl r (.ok b s)):Sim n0 S Rl r (po o s):=by
 cases o with
 |none=>exact True.intro
 |some b=>exact h b rfl
theorem Sim.obp {Rl:Za->β->α->Prop}{o':Option α}{o:Option β}{s:DS}(w:Dw n0 S s) (h:∀b,o=some b->∃a,o'=some a/\Rl S b a):Sim n0 S Rl (ob o' S) (Pv.po o s):=by
 cases o with
 |none=>exact True.intro
 |some b=>
  obtain⟨a,e,r⟩:=h b rfl;rw[e];exact Sim.ok w r
theorem Sim.guard {Rl:Za->β->α->Prop}{r r':R α}{q:PR β}{P:Prop}[Decidable P] (h:P->Sim n0 S Rl r q):Sim n0 S Rl (if P then r else r') (if P then q else .no):=by
 by_cases c:P
 ·rw[Pj c,Pj c];exact h c
 ·rw[Pm c,Pm c];exact True.intro
noncomputable abbrev RlV (X:Nat->Prop) (n0:Nat):Za->V->D->Prop:=λS v d=>Rep S X n0 v d
noncomputable abbrev yK (X:Nat->Prop) (n0:Nat):Za->List V->List D->Prop:=λS v d=>Rq S X n0 v d
noncomputable abbrev RlE {α:Type}:Za->α->α->Prop:=λ_ a b=>b=a
theorem Sim.new {vs:List V}{ds:List D}{s:DS}(x:Xok X n0 S) (w:Dw n0 S s) (r:Rq S X n0 vs ds):Sim n0 S (RlV X n0) (.ok (.loc S.length) (S++[.lst ds])) (.ok (.lst vs) s):=
 Sim.app w (VW (by simp) (λz=>PN _ (x.lt _ z)) (r.ext x Ext.app))
theorem Q2 {op:Bop}{x y:V}{a b:D}{s:DS}(xo:Xok X n0 S) (w:Dw n0 S s) (rx:Rep S X n0 x a) (ry:Rep S X n0 y b):Sim n0 S (RlV X n0) (ZW op a b S) (YY op x y s):=by
 have bad:∀r:R D,Sim n0 S (RlV X n0) r .no:=λ_=>True.intro
 cases x with
 |int i=>
  cases rx.int';cases y with
  |int j=>
   cases ry.int';cases op with
   |add=>exact Sim.ok w (Zf _)
   |sub=>exact Sim.ok w (Zf _)
   |mul=>exact Sim.guard λ_=>Sim.ok w (Zf _)
   |fdiv=>exact Sim.guard λ_=>Sim.ok w (Zf _)
   |mod=>exact Sim.guard λ_=>Sim.ok w (Zf _)
   |pow=>exact Sim.guard λ_=>Sim.ok w (Zf _)
  |_=>cases op <;> exact bad _
 |tup us=>
  obtain⟨ds,rfl,r1⟩:=rx.tup';cases y with
  |tup ws=>
   obtain⟨es,rfl,r2⟩:=ry.tup';cases op with
   |add=>
    show Sim n0 S (RlV X n0) (if ds.length+es.length<=lim then .ok (.tup (ds++es)) S else .no) (if us.length+ws.length<=lim then .ok (.tup (us++ws)) s else .no)
    rw[r1.length,r2.length];exact Sim.guard λ_=>Sim.ok w (ZE (r1.append r2))
   |_=>exact bad _
  |int j=>
   cases ry.int';cases op with
   |mul=>
    show Sim n0 S (RlV X n0) (if 0<=j/\j<1000/\ds.length<=1000 then .ok (.tup (List.replicate j.toNat ds).flatten) S else .no) (if 0<=j/\j<1000/\us.length<=1000 then .ok (.tup (List.replicate j.toNat us).flatten) s else .no)
    rw[r1.length];exact Sim.guard λ_=>Sim.ok w (ZE (r1.rep _))
   |_=>exact bad _
  |_=>cases op <;> exact bad _
 |lst us=>
  obtain⟨n,ds,rfl,hs,_,r1⟩:=rx.lst';cases y with
  |lst ws=>
   obtain⟨m,es,rfl,hs2,_,r2⟩:=ry.lst';cases op with
   |add=>
    show Sim n0 S (RlV X n0) (match Zc S n,Zc S m with
     |some a,some b=>if a.length+b.length<=lim then .ok (.loc S.length) (S++[.lst (a++b)]) else .no
     |_,_=>.no) (if us.length+ws.length<=lim then .ok (.lst (us++ws)) s else .no)
    rw[Zm hs,Zm hs2];show Sim n0 S (RlV X n0) (if ds.length+es.length<=lim then .ok (.loc S.length) (S++[.lst (ds++es)]) else .no) _
    rw[r1.length,r2.length];exact Sim.guard λ_=>Sim.new xo w (r1.append r2)
   |_=>exact bad _
  |int j=>
   cases ry.int';cases op with
   |mul=>
    show Sim n0 S (RlV X n0) (match Zc S n with
     |some a=>if 0<=j/\j<1000/\a.length<=1000 then .ok (.loc S.length) (S++[.lst (List.replicate j.toNat a).flatten]) else .no
     |none=>.no) (if 0<=j/\j<1000/\us.length<=1000 then .ok (.lst (List.replicate j.toNat us).flatten) s else .no)
    rw[Zm hs];show Sim n0 S (RlV X n0) (if 0<=j/\j<1000/\ds.length<=1000 then .ok (.loc S.length) (S++[.lst (List.replicate j.toNat ds).flatten]) else .no) _
    rw[r1.length];exact Sim.guard λ_=>Sim.new xo w (r1.rep _)
   |_=>exact bad _
  |_=>cases op <;> exact bad _
 |_=>cases op <;> exact bad _
theorem xk {op:Bop}{x y:V}{a b:D}{s:DS}(xo:Xok X n0 S) (w:Dw n0 S s) (rx:Rep S X n0 x a) (ry:Rep S X n0 y b):Sim n0 S (RlV X n0) (Wm op a b S) (Gc op x y s):=by
 cases x with
 |int i=>cases y with
  |int j=>
   have h:=Q2 (op:=op) xo w rx ry;cases rx.int';cases ry.int';exact h
  |_=>exact True.intro
 |_=>exact True.intro
theorem VJ {op:Cop}{x y:V}{a b:D}{s:DS}(w:Dw n0 S s) (rx:Rep S X n0 x a) (ry:Rep S X n0 y b):Sim n0 S (RlV X n0) (Yp op a b S) (po (YM op x y) s):=by
 have inn:∀z,Xt x y=some z->XN S a b=.ok z S:=by
  intro z h;cases y with
  |tup ys=>
   obtain⟨ds,rfl,rs⟩:=ry.tup';show ob (inL S a ds) S=_;rw[Qc rx rs h];rfl
  |lst ys=>
   obtain⟨n,ds,rfl,hs,_,rs⟩:=ry.lst';show vR S a S[n]? = _;rw[hs];show ob (inL S a ds) S=_;rw[Qc rx rs h];rfl
  |_=>cases h
 refine Sim.po λv hv=>?_
 cases op with
 |eq=>
  have hv:(eqV ZA x y).map V.bl=some v:=hv;cases q:eqV ZA x y with
  |none=>rw[q] at hv;cases hv
  |some z=>
   rw[q] at hv;cases hv;show Sim n0 S (RlV X n0) ((ob (eqD S ZA a b) S).bind _) _;rw[W4 _ _ _ _ _ _ rx ry q];exact Sim.ok w (Zh z)
 |ne=>
  have hv:(eqV ZA x y).map (λb=>V.bl !b)=some v:=hv
  cases q:eqV ZA x y with
  |none=>rw[q] at hv;cases hv
  |some z=>
   rw[q] at hv;cases hv;show Sim n0 S (RlV X n0) ((ob (eqD S ZA a b) S).bind _) _;rw[W4 _ _ _ _ _ _ rx ry q];exact Sim.ok w (Zh _)
 |lt=>
  cases x with
  |tup a0=>
   cases y with
   |tup b0=>
    obtain⟨as,rfl,ra⟩:=rx.tup';obtain⟨bs,rfl,rb⟩:=ry.tup';have hv:((Z0 a0).bind λP=>(Z0 b0).map λQ=>V.bl (ltP P Q))=some v:=hv
    cases q1:Z0 a0 with
    |none=>rw[q1] at hv;cases hv
    |some P=>
     cases q2:Z0 b0 with
     |none=>rw[q1,q2] at hv;cases hv
     |some Q=>
      rw[q1,q2] at hv;cases hv;show Sim n0 S (RlV X n0) ((ob (Zz as) S).bind _) _;rw[Yi ra q1];show Sim n0 S (RlV X n0) ((ob (Zz bs) S).bind _) _;rw[Yi rb q2];exact Sim.ok w (Zh _)
   |_=>cases hv
  |_=>cases y <;> first | (cases hv;cases rx.int';cases ry.int';exact Sim.ok w (Zh _)) | cases hv
 |gt=>cases x <;> cases y <;> first | (cases hv;cases rx.int';cases ry.int';exact Sim.ok w (Zh _)) | cases hv
 |le=>cases x <;> cases y <;> first | (cases hv;cases rx.int';cases ry.int';exact Sim.ok w (Zh _)) | cases hv
 |ge=>cases x <;> cases y <;> first | (cases hv;cases rx.int';cases ry.int';exact Sim.ok w (Zh _)) | cases hv
 |is=>
  cases y with
  |non=>
   cases ry.non';have e:Yp .is a .non S=.ok (.bl (YG x)) S:=by
    cases x with
    |non=>cases rx.non';rfl
    |bl _=>cases rx.bl';rfl
    |int _=>cases rx.int';rfl
    |str _=>cases rx.str';rfl
    |tup _=>obtain⟨_,rfl,_⟩:=rx.tup';rfl
    |lst _=>obtain⟨_,_,rfl,_⟩:=rx.lst';rfl
    |drw=>cases rx.drw';rfl
   rw[e];have hv:some (V.bl (YG x))=some v:=by cases x <;> exact hv
   cases hv;exact Sim.ok w (Zh _)
  |bl j=>cases x with
   |bl i=>cases rx.bl';cases ry.bl';cases hv;exact Sim.ok w (Zh _)
   |_=>cases hv
  |_=>cases x <;> cases hv
 |isn=>
  cases y with
  |non=>
   cases ry.non';have e:Yp .isn a .non S=.ok (.bl !(YG x)) S:=by
    cases x with
    |non=>cases rx.non';rfl
    |bl _=>cases rx.bl';rfl
    |int _=>cases rx.int';rfl
    |str _=>cases rx.str';rfl
    |tup _=>obtain⟨_,rfl,_⟩:=rx.tup';rfl
    |lst _=>obtain⟨_,_,rfl,_⟩:=rx.lst';rfl
    |drw=>cases rx.drw';rfl
   rw[e];have hv:some (V.bl !(YG x))=some v:=by cases x <;> exact hv
   cases hv;exact Sim.ok w (Zh _)
  |bl j=>cases x with
   |bl i=>cases rx.bl';cases ry.bl';cases hv;exact Sim.ok w (Zh _)
   |_=>cases hv
  |_=>cases x <;> cases hv
 |inn=>
  have hv:(Xt x y).map V.bl=some v:=hv;cases q:Xt x y with
  |none=>rw[q] at hv;cases hv
  |some z=>
   rw[q] at hv;cases hv;show Sim n0 S (RlV X n0) ((XN S a b).bind _) _;rw[inn z q];exact Sim.ok w (Zh _)
 |nin=>
  have hv:(Xt x y).map (λb=>V.bl !b)=some v:=hv
  cases q:Xt x y with
  |none=>rw[q] at hv;cases hv
  |some z=>
   rw[q] at hv;cases hv;show Sim n0 S (RlV X n0) ((XN S a b).bind _) _;rw[inn z q];exact Sim.ok w (Zh _)
theorem vI {x y:V}{a b:D}{s:DS}(w:Dw n0 S s) (rx:Rep S X n0 x a) (ry:Rep S X n0 y b):Sim n0 S (RlV X n0) (Q6 a b S) (po (ixV x y) s):=by
 refine Sim.po λv hv=>?_
 cases x with
 |tup xs=>cases y with
  |int i=>
   obtain⟨ds,rfl,rs⟩:=rx.tup';cases ry.int';obtain⟨d,e,r⟩:=xM rs hv;show Sim n0 S (RlV X n0) (ob (at' ds i) S) _;rw[e];exact Sim.ok w r
  |_=>cases hv
 |lst xs=>cases y with
  |int i=>
   obtain⟨n,ds,rfl,hs,_,rs⟩:=rx.lst';cases ry.int';obtain⟨d,e,r⟩:=xM rs hv;show Sim n0 S (RlV X n0) (match ZP S n with
    |some xs=>ob (at' xs i) S
    |none=>.no) _
   rw[WU hs];show Sim n0 S (RlV X n0) (ob (at' ds i) S) _;rw[e];exact Sim.ok w r
  |_=>cases hv
 |_=>cases y <;> cases hv
theorem wD {x:V}{a:D}{s:DS}{lo hi:Option Int}(xo:Xok X n0 S) (w:Dw n0 S s) (rx:Rep S X n0 x a):Sim n0 S (RlV X n0) (slice a lo hi S) (po (slV x lo hi) s):=by
 refine Sim.po λv hv=>?_
 cases x with
 |tup xs=>
  obtain⟨ds,rfl,rs⟩:=rx.tup';cases hv;exact Sim.ok w (ZE (Gy rs))
 |lst xs=>
  obtain⟨n,ds,rfl,hs,_,rs⟩:=rx.lst';cases hv;show Sim n0 S (RlV X n0) (match Zc S n with
    |some xs=>.ok (.loc S.length) (S++[.lst (cut xs lo hi)])
    |none=>.no) _
  rw[Zm hs];exact Sim.new xo w (Gy rs)
 |_=>cases hv
theorem XA (lo:Int) (n:Nat):Rq S X n0 (Xm lo n) (Zl lo n):=by
 unfold Xm Zl
 induction List.range n with
 |nil=>exact Rq.nil
 |cons k r ih=>exact Rq.cons (Zf _) ih
theorem ye {f:Bf}{xs:List V}{ds:List D}{s:DS}(xo:Xok X n0 S) (w:Dw n0 S s) (rs:Rq S X n0 xs ds):Sim n0 S (RlV X n0) (Z8 f ds S) (po (WJ f xs) s):=by
 refine Sim.po λv hv=>?_
 have one:∀{x:V} {ds:List D},Rq S X n0 [x] ds->∃d,ds=[d]/\Rep S X n0 x d:=λ{x ds} h=>by
  obtain⟨d,es,rfl,a,t⟩:=h.cons';rw[t.nil'];exact⟨d,rfl,a⟩
 have two:∀{x y:V} {ds:List D},Rq S X n0 [x,y] ds->∃d e,ds=[d,e]/\Rep S X n0 x d/\Rep S X n0 y e:=λ{x y ds} h=>by
  obtain⟨d,es,rfl,a,t⟩:=h.cons';obtain⟨e,rfl,b⟩:=one t;exact⟨d,e,rfl,a,b⟩
 cases f with
 |len=>match xs,rs,hv with
  |[x],rs,hv=>
   obtain⟨d,rfl,r⟩:=one rs;have hv:(ZR x).map (λxs=>V.int xs.length)=some v:=hv
   cases q:ZR x with
   |none=>rw[q] at hv;cases hv
   |some ys=>
    rw[q] at hv;cases hv;obtain⟨es,e,r2⟩:=UX r q;show Sim n0 S (RlV X n0) ((ob (YA S d) S).bind _) _;rw[e];show Sim n0 S (RlV X n0) (.ok (.int es.length) S) _;rw[r2.length];exact Sim.ok w (Zf _)
 |max2=>match xs,rs,hv with
  |[.int i,.int j],rs,hv=>
   obtain⟨d,e,rfl,r1,r2⟩:=two rs;cases r1.int';cases r2.int';cases hv;exact Sim.ok w (Zf _)
 |min2=>match xs,rs,hv with
  |[.int i,.int j],rs,hv=>
   obtain⟨d,e,rfl,r1,r2⟩:=two rs;cases r1.int';cases r2.int';cases hv;exact Sim.ok w (Zf _)
 |toInt=>match xs,rs,hv with
  |[.int i],rs,hv=>obtain⟨d,rfl,r⟩:=one rs;cases r.int';cases hv;exact Sim.ok w (Zf _)
  |[.bl i],rs,hv=>obtain⟨d,rfl,r⟩:=one rs;cases r.bl';cases hv;exact Sim.ok w (Zf _)
 |tuple=>match xs,rs,hv with
  |[x],rs,hv=>
   obtain⟨d,rfl,r⟩:=one rs;have hv:(ZR x).map V.tup=some v:=hv;cases x with
   |tup ys=>
    obtain⟨es,rfl,r2⟩:=r.tup';cases hv;exact Sim.ok w (ZE r2)
   |lst ys=>
    obtain⟨n,es,rfl,hs,_,r2⟩:=r.lst';cases hv;show Sim n0 S (RlV X n0) ((ob (Zc S n) S).bind _) _;rw[Zm hs];exact Sim.ok w (ZE r2)
   |_=>cases hv
 |list=>match xs,rs,hv with
  |[x],rs,hv=>
   obtain⟨d,rfl,r⟩:=one rs;have hv:(ZR x).map V.lst=some v:=hv;cases q:ZR x with
   |none=>rw[q] at hv;cases hv
   |some ys=>
    rw[q] at hv;cases hv;obtain⟨es,e,r2⟩:=UX r q;show Sim n0 S (RlV X n0) ((ob (YA S d) S).bind _) _;rw[e];exact Sim.new xo w r2
 |all=>match xs,rs,hv with
  |[.lst ys],rs,hv=>
   obtain⟨d,rfl,r⟩:=one rs;obtain⟨n,es,rfl,hs,_,r2⟩:=r.lst';have hv:(ZS ys).map (λbs=>V.bl (bs.all id))=some v:=hv
   cases q:ZS ys with
   |none=>rw[q] at hv;cases hv
   |some bs=>
    rw[q] at hv;cases hv;show Sim n0 S (RlV X n0) ((ob (Zc S n) S).bind _) _;rw[Zm hs];show Sim n0 S (RlV X n0) ((ob (Ye es) S).bind _) _;rw[XQ r2 q];exact Sim.ok w (Zh _)
 |any=>match xs,rs,hv with
  |[x],rs,hv=>
   obtain⟨d,rfl,r⟩:=one rs;have hv:(ZR x).bind (λxs=>(ZS xs).map λbs=>V.bl (bs.any id))=some v:=hv
   cases q:ZR x with
   |none=>rw[q] at hv;cases hv
   |some ys=>
    rw[q] at hv;have hv:(ZS ys).map (λbs=>V.bl (bs.any id))=some v:=hv
    obtain⟨es,e,r2⟩:=UX r q;cases q2:ZS ys with
    |none=>rw[q2] at hv;cases hv
    |some bs=>
     rw[q2] at hv;cases hv;show Sim n0 S (RlV X n0) ((ob (YA S d) S).bind _) _;rw[e];show Sim n0 S (RlV X n0) ((ob (Ye es) S).bind _) _;rw[XQ r2 q2];exact Sim.ok w (Zh _)
 |sum=>match xs,rs,hv with
  |[.lst ys],rs,hv=>
   obtain⟨d,rfl,r⟩:=one rs;obtain⟨n,es,rfl,hs,_,r2⟩:=r.lst';have hv:(intsV ys).bind (λis=>if Xx is=true then some (V.int is.sum) else none)=some v:=hv
   cases q:intsV ys with
   |none=>rw[q] at hv;cases hv
   |some is=>
    rw[q] at hv;have hv:(if Xx is=true then some (V.int is.sum) else none)=some v:=hv
    show Sim n0 S (RlV X n0) ((ob (Zc S n) S).bind _) _;rw[Zm hs];show Sim n0 S (RlV X n0) ((ob (Yd es) S).bind _) _;rw[(XV r2 q).1];show Sim n0 S (RlV X n0) (if Xx is=true then .ok (.int is.sum) S else .no) _
    by_cases c:Xx is=true
    ·rw[Pj c] at hv ⊢;cases hv;exact Sim.ok w (Zf _)
    ·rw[Pm c] at hv;cases hv
 |sorted=>match xs,rs,hv with
  |[.lst ys],rs,hv=>
   obtain⟨d,rfl,r⟩:=one rs;obtain⟨n,es,rfl,hs,_,r2⟩:=r.lst';have hv:(if yk ys=true then (Z0 ys).bind (λrs=>if ZV rs=true then some (V.lst ((ZY rs).map V3)) else none) else (Xi ys).bind λps=>if Ys ps=true then some (V.lst ((Xb ltP ps).map Jz)) else none)=some v:=hv
   show Sim n0 S (RlV X n0) ((ob (Zc S n) S).bind _) _;rw[Zm hs];show Sim n0 S (RlV X n0) (if zY es=true then sorted false n S else _) _
   rw[vt r2];by_cases z:yk ys=true
   ·rw[Pj z] at hv ⊢
    cases q:Z0 ys with
    |none=>rw[q] at hv;cases hv
    |some ws=>
     rw[q] at hv;have hv:(if ZV ws=true then some (V.lst ((ZY ws).map V3)) else none)=some v:=hv
     show Sim n0 S (RlV X n0) ((ob (Zc S n) S).bind _) _;rw[Zm hs];show Sim n0 S (RlV X n0) ((ob (Zz es) S).bind _) _;rw[Yi r2 q];show Sim n0 S (RlV X n0) (if ZV ws=true then .ok (.loc S.length) (S++[.lst ((ZY ws).map Wq)]) else .no) _
     by_cases c:ZV ws=true
     ·rw[Pj c] at hv ⊢;cases hv;exact Sim.new xo w (Xs _)
     ·rw[Pm c] at hv;cases hv
   ·rw[Pm z] at hv ⊢
    cases q:Xi ys with
    |none=>rw[q] at hv;cases hv
    |some ws=>
     rw[q] at hv;have hv:(if Ys ws=true then some (V.lst ((Xb ltP ws).map Jz)) else none)=some v:=hv
     rw[WO r2 q];show Sim n0 S (RlV X n0) (if Ys ws=true then .ok (.loc S.length) (S++[.lst ((Xb ltP ws).map Vp)]) else .no) _
     by_cases c:Ys ws=true
     ·rw[Pj c] at hv ⊢;cases hv;exact Sim.new xo w (Vo _)
     ·rw[Pm c] at hv;cases hv
 |sortedR=>match xs,rs,hv with
  |[.lst ys],rs,hv=>
   obtain⟨d,rfl,r⟩:=one rs;obtain⟨n,es,rfl,hs,_,r2⟩:=r.lst';have hv:(Z0 ys).bind (λrs=>if ZV rs=true then some (V.lst ((ZY rs).reverse.map V3)) else none)=some v:=hv
   cases q:Z0 ys with
   |none=>rw[q] at hv;cases hv
   |some ws=>
    rw[q] at hv;have hv:(if ZV ws=true then some (V.lst ((ZY ws).reverse.map V3)) else none)=some v:=hv
    show Sim n0 S (RlV X n0) ((ob (Zc S n) S).bind _) _;rw[Zm hs];show Sim n0 S (RlV X n0) ((ob (Zz es) S).bind _) _;rw[Yi r2 q];show Sim n0 S (RlV X n0) (if ZV ws=true then .ok (.loc S.length) (S++[.lst ((ZY ws).reverse.map Wq)]) else .no) _
    by_cases c:ZV ws=true
    ·rw[Pj c] at hv ⊢;cases hv;exact Sim.new xo w (Xs _)
    ·rw[Pm c] at hv;cases hv
 |rangeT=>match xs,rs,hv with
  |[.int i],rs,hv=>
   obtain⟨d,rfl,r⟩:=one rs;cases r.int';have hv:(if few i then some (V.tup (Xm 0 i.toNat)) else none)=some v:=hv
   show Sim n0 S (RlV X n0) (if few i then .ok (.tup (Zl 0 i.toNat)) S else .no) _
   by_cases c:few i=true
   ·rw[Pj c] at hv ⊢;cases hv;exact Sim.ok w (ZE (XA _ _))
   ·rw[Pm c] at hv;cases hv
 |_=>cases hv
end
structure Ew (S:Za) (X:Nat->Prop) (n0:Nat) (ρ:Env) (σ:Lc):Prop where
 len:ρ.length=σ.length
 val:∀(i:Nat) (v:V),ρ[i]? = some (some v)->∃d,σ[i]? = some (some d)/\Rep S X n0 v d
section
variable {S S':Za}{X X':Nat->Prop}{n0:Nat}{ρ ρ':Env}{σ σ':Lc}
theorem Ew.mono (k:∀n o,¬X n->S[n]? = some o->S'[n]? = some o) (x:∀n,n<S.length->X' n->X n) (h:Ew S X n0 ρ σ):Ew S' X' n0 ρ σ:=
 ⟨h.len,λi v e=>let ⟨d,a,b⟩:=h.val i v e;⟨d,a,b.mono k x⟩⟩
theorem Ew.ext (x:Xok X n0 S) (e:Ext n0 S S') (h:Ew S X n0 ρ σ):Ew S' X n0 ρ σ:=
 ⟨h.len,λi v q=>let ⟨d,a,b⟩:=h.val i v q;⟨d,a,b.ext x e⟩⟩
theorem Ew.weak (h:Ew S X n0 ρ σ) (hl:ρ'.length=ρ.length) (w:∀(i:Nat) (v:V),ρ'[i]? = some (some v)->ρ[i]? = some (some v)):Ew S X n0 ρ' σ:=⟨by rw[hl];exact h.len,λi v e=>h.val i v (w i v e)⟩
theorem Ew.set {v:V}{d:D}(h:Ew S X n0 ρ σ) (i:Nat) (r:Rep S X n0 v d):Ew S X n0 (ρ.set i (some v)) (σ.set i (some d)):=by
 refine⟨by rw[Pz,Pz];exact h.len,λj w e=>?_⟩
 rw[Nh] at e ⊢;by_cases c:i=j
 ·rw[Pj c] at e ⊢
  by_cases l:i<ρ.length
  ·rw[Pj l] at e
   rw[Pj (by rw[<-h.len];exact l)]
   cases e;exact⟨d,rfl,r⟩
  ·rw[Pm l] at e;cases e
 ·rw[Pm c] at e ⊢
  exact h.val j w e
theorem Uc:∀{t:List Nat}{vs:List V}{ds:List D}{ρ ρ':Env}{σ:Lc},Ew S X n0 ρ σ->Rq S X n0 vs ds->Z6 t vs ρ=some ρ'->∃σ',fill t ds σ=some σ'/\Ew S X n0 ρ' σ'
 |[],[],_,ρ,ρ',σ,h,r,e=>by rw[r.nil'];cases e;exact⟨σ,rfl,h⟩
 |[],_::_,_,_,_,_,_,_,e=>by cases e
 |_::_,[],_,_,_,_,_,_,e=>by cases e
 |i::t,v::vs,_,ρ,ρ',σ,h,r,e=>by
  obtain⟨d,ds,rfl,a,b⟩:=r.cons';exact Uc (t:=t) (vs:=vs) (h.set i a) b e
theorem Vi {t:List Nat}{v:V}{d:D}(h:Ew S X n0 ρ σ) (r:Rep S X n0 v d) (e:Zv t v ρ=some ρ'):∃σ',assign t d S σ=some σ'/\Ew S X n0 ρ' σ':=by
 have gen:∀t:List Nat,(∀i,t≠[i])->(match ZR v with
   |some xs=>Z6 t xs ρ
   |none=>none)=some ρ'->∃σ',(match d with
   |.tup xs=>fill t xs σ
   |.loc n=>match Zc S n with
    |some xs=>fill t xs σ
    |none=>none
   |_=>none)=some σ'/\Ew S X n0 ρ' σ':=by
  intro t _ e;cases v with
  |tup vs=>obtain⟨ds,rfl,rs⟩:=r.tup';exact Uc h rs e
  |lst vs=>
   obtain⟨n,ds,rfl,hs,_,rs⟩:=r.lst';obtain⟨σ',a,b⟩:=Uc h rs e;refine⟨σ',?_,b⟩;show (match Zc S n with
    |some xs=>fill t xs σ
    |none=>none)=some σ'
   rw[Zm hs];exact a
  |_=>cases e
 match t,e with
 |[i],e=>cases e;exact⟨_,rfl,h.set i r⟩
 |[],e=>exact gen [] (by simp) e
 |i::j::t,e=>exact gen (i::j::t) (by simp) e
theorem ZX:∀{t:List Nat}{vs:List V}{ρ ρ':Env},Z6 t vs ρ=some ρ'->ρ'.length=ρ.length/\∀j,j∉t->ρ'[j]? = ρ[j]?
 |[],[],ρ,ρ',e=>by cases e;exact⟨rfl,λ_ _=>rfl⟩
 |[],_::_,_,_,e=>by cases e
 |_::_,[],_,_,e=>by cases e
 |i::t,v::vs,ρ,ρ',e=>by
  obtain⟨a,b⟩:=ZX (t:=t) (vs:=vs) (ρ:=ρ.set i (some v)) e;refine⟨by rw[a,Pz],λj hj=>?_⟩
  have hij:i≠j:=λz=>hj (by rw[z];exact Pq ..)
  rw[b j (λz=>hj (Pn _ z)),Pk hij]
theorem Z7 {t:List Nat}{v:V}(e:Zv t v ρ=some ρ'):ρ'.length=ρ.length/\∀j,j∉t->ρ'[j]? = ρ[j]?:=by
 match t,e with
 |[i],e=>cases e;exact⟨by simp,λj hj=>Pk (λz:i=j=>hj (by rw[z];exact Pq ..))⟩
 |[],e=>
  have e:(match ZR v with | some xs=>Z6 [] xs ρ | none=>none)=some ρ':=e
  cases q:ZR v with
  |none=>rw[q] at e;cases e
  |some xs=>rw[q] at e;exact ZX e
 |i::j::t,e=>
  have e:(match ZR v with | some xs=>Z6 (i::j::t) xs ρ | none=>none)=some ρ':=e
  cases q:ZR v with
  |none=>rw[q] at e;cases e
  |some xs=>rw[q] at e;exact ZX e
noncomputable def WkR (X:Nat->Prop) (n0:Nat):Za->List V->Walk->Prop:=λS vs w=>Rq S X n0 vs w.items/\∀p∈w.kept,S[p.1]? = some (.lst p.2)/\¬X p.1
theorem Xw {w:Walk}(h:∀p∈w.kept,S[p.1]? = some (.lst p.2)):w.still S=true:=by
 unfold Walk.still;rw[PH];intro p hp;exact PB (h p hp)
theorem Y6 {v:V}{d:D}{vs:List V}(r:Rep S X n0 v d) (h:ZR v=some vs):∃w,Z1 S d=some w/\WkR X n0 S vs w:=by
 cases v with
 |tup xs=>obtain⟨ds,rfl,rs⟩:=r.tup';cases h;exact⟨⟨ds,[]⟩,rfl,rs,λp hp=>by cases hp⟩
 |lst xs=>
  obtain⟨n,ds,rfl,hs,hx,rs⟩:=r.lst';cases h;refine⟨⟨ds,[(n,ds)]⟩,?_,rs,λp hp=>?_⟩
  ·unfold Z1;simp only[hs]
  ·rcases Na.mp hp with rfl
   exact⟨hs,hx⟩
 |_=>cases h
theorem Vx:∀{vs ws:List V}{ds es:List D},Rq S X n0 vs ds->Rq S X n0 ws es->Rq S X n0 ((vs.zip ws).map λp=>V.tup [p.1,p.2]) ((ds.zip es).map λp=>D.tup [p.1,p.2])
 |[],_,_,_,a,_=>by rw[a.nil'];simp only[N8,Ka];exact Rq.nil
 |_::_,[],_,_,a,b=>by rw[b.nil'];simp only[N7,Ka];exact Rq.nil
 |v::vs,w::ws,_,_,a,b=>by
  obtain⟨d,ds,rfl,a1,a2⟩:=a.cons';obtain⟨e,es,rfl,b1,b2⟩:=b.cons';exact Rq.cons (ZE (Rq.cons a1 (Rq.cons b1 Rq.nil))) (Vx a2 b2)
end
structure Ext2 (n0 m:Nat) (S S':Za):Prop where
 len:S.length<=S'.length
 keep:∀n o,n≠n0->n≠m->S[n]? = some o->S'[n]? = some o
theorem Ext2.trans {n0 m:Nat}{S S1 S2:Za}(a:Ext2 n0 m S S1) (b:Ext2 n0 m S1 S2):Ext2 n0 m S S2:=⟨PY a.len b.len,λn o h z e=>b.keep n o h z (a.keep n o h z e)⟩
theorem Ext2.refl {n0 m:Nat}{S:Za}:Ext2 n0 m S S:=⟨Po _,λ_ _ _ _ h=>h⟩
theorem Ext.two {n0 m:Nat}{S S':Za}(h:Ext n0 S S'):Ext2 n0 m S S':=⟨h.len,λn o a _ e=>h.keep n o a e⟩
section
variable {n0 m:Nat}{X:Nat->Prop}
theorem Rq.ext2 {S S':Za}{v:List V}{d:List D}(z:X n0) (zm:X m) (e:Ext2 n0 m S S') (h:Rq S X n0 v d):Rq S' X n0 v d:=
 h.mono (λn o nx hs=>e.keep n o (λq=>nx (q▸z)) (λq=>nx (q▸zm)) hs) λ_ _ h=>h
theorem Ew.ext2 {S S':Za}{ρ:Env}{σ:Lc}(z:X n0) (zm:X m) (e:Ext2 n0 m S S') (h:Ew S X n0 ρ σ):Ew S' X n0 ρ σ:=
 h.mono (λn o nx hs=>e.keep n o (λq=>nx (q▸z)) (λq=>nx (q▸zm)) hs) λ_ _ h=>h
theorem Xok.ext2 {S S':Za}(h:Xok X n0 S) (e:Ext2 n0 m S S'):Xok X n0 S':=⟨h.z,λn x=>Pu (h.lt n x) e.len⟩
def Turn (n0 m:Nat) (X:Nat->Prop) (ρ:Env) (S:Za) (ds:List D) (q:PR (List V)) (r:R Lc):Prop:=∀ys s',q=.ok ys s'->ds.length+ys.length<=lim->
 ∃σ' S' es,r=.ok σ' S'/\Ext2 n0 m S S'/\Ew S' X n0 ρ σ'/\Dw n0 S' s'/\S'[m]? = some (.lst (ds++es))/\Rq S' X n0 ys es
theorem Wx {ρ:Env}{wk:Walk}{f:V->DS->PR (List V)}{turn:D->Lc->Za->R Lc}(zm:X m) (hk:∀p∈wk.kept,¬X p.1)
  (ht:∀x d S s σ ds,Xok X n0 S->Rep S X n0 x d->Ew S X n0 ρ σ->Dw n0 S s->S[m]? = some (.lst ds)->Turn n0 m X ρ S ds (f x s) (turn d σ S)) :
  ∀(vs:List V) (es:List D) (S:Za) (s:DS) (σ:Lc) (ds:List D),Xok X n0 S->Rq S X n0 vs es->Ew S X n0 ρ σ->Dw n0 S s->S[m]? = some (.lst ds)->(∀p∈wk.kept,S[p.1]? = some (.lst p.2))->Turn n0 m X ρ S ds (mapP f vs s) (Z4 wk turn es σ S)
 |[],es,S,s,σ,ds,xo,rs,he,w,hm,hs=>by
  intro ys s' q _;cases q;rw[rs.nil'];exact⟨σ,S,[],by rw[Z4,Pj (Xw hs)],Ext2.refl,he,w,by rw[Nt];exact hm,Rq.nil⟩
 |v::vs,es,S,s,σ,ds,xo,rs,he,w,hm,hs=>by
  intro ys s' q hl;obtain⟨d,es,rfl,r1,r2⟩:=rs.cons';unfold mapP at q;cases q1:f v s with
  |no=>rw[q1] at q;cases q
  |ex _ _=>rw[q1] at q;cases q
  |ok y1 s1=>
   rw[q1] at q;cases q2:mapP f vs s1 with
   |no=>simp only[q2] at q;cases q
   |ex _ _=>simp only[q2] at q;cases q
   |ok y2 s2=>
    simp only[q2] at q;cases q;rw[PK] at hl;obtain⟨σ1,S1,e1,a1,a2,a3,a4,a5,a6⟩:=ht v d S s σ ds xo r1 he w hm y1 s1 q1 (by omega)
    have xo1:=xo.ext2 a2;have hs1:∀p∈wk.kept,S1[p.1]? = some (.lst p.2):=λp hp=>a2.keep _ _ (λz=>hk p hp (z▸xo.z)) (λz=>hk p hp (z▸zm)) (hs p hp)
    obtain⟨σ2,S2,e2,b1,b2,b3,b4,b5,b6⟩:=Wx zm hk ht vs es S1 s1 σ1 (ds++e1) xo1 (r2.ext2 xo.z zm a2) a3 a4 a5 hs1 y2 _ q2 (by rw[PK,a6.length];omega)
    refine⟨σ2,S2,e1++e2,?_,a2.trans b2,b3,b4,by rw[<-List.append_assoc];exact b5,(a6.ext2 xo.z zm b2).append b6⟩
    rw[Z4,Pj (Xw hs),a1];exact b1
theorem xg {S:Za}{y:D}{ds:List D}(hm:S[m]? = some (.lst ds)) (hl:ds.length<lim):push m y S=.ok () (S.set m (.lst (ds++[y]))):=by
 unfold push;rw[Zm hm];show (if ds.length<lim then _ else _)=_
 rw[Pj hl]
end
theorem yz {f:V->DS->PR (List V)}:∀{vs:List V}{s s':DS}{c:Nat},mapP f vs s≠.ex c s'
 |[],_,_,_,h=>by cases h
 |v::vs,s,s',c,h=>by
  unfold mapP at h;cases q1:f v s with
  |no=>rw[q1] at h;cases h
  |ex _ _=>rw[q1] at h;cases h
  |ok y s1=>
   rw[q1] at h;cases q2:mapP f vs s1 with
   |no=>simp only[q2] at h;cases h
   |ex _ _=>simp only[q2] at h;cases h
   |ok z s2=>simp only[q2] at h;cases h
section
variable {n0 m:Nat}{X:Nat->Prop}{C:Calls}{CV:Zy}
theorem Gt {S:Za}{o:Ob}:Ext2 n0 m S (S.set m o):=⟨by simp,λn o' _ z e=>by rw[Pk (Ne.symm z)];exact e⟩
theorem xT {α:Type}{o:Option α}{s s':DS}{a:α}(h:po o s=.ok a s'):o=some a/\s'=s:=by
 cases o with
 |none=>cases h
 |some b=>cases h;exact⟨rfl,rfl⟩
theorem ZQ {α β:Type}{r:PR α}{f:α->DS->PR β}{b:β}{s':DS}(h:r.bind f=.ok b s'):∃a s1,r=.ok a s1/\f a s1=.ok b s':=by
 cases r with
 |no=>cases h
 |ex _ _=>cases h
 |ok a s1=>exact⟨a,s1,rfl,h⟩
theorem Sim.out {α β:Type}{S:Za}{Rl:Za->β->α->Prop}{r:R α}{q:PR β}{b:β}{s':DS}(h:Sim n0 S Rl r q) (e:q=.ok b s'):∃a S',r=.ok a S'/\Ext n0 S S'/\Dw n0 S' s'/\Rl S' b a:=by
 rw[e] at h;exact h
theorem UB {ρ ρ1:Env}{t:List Nat}{x:V}(e:Zv t x ρ=some ρ1) (hno:∀i∈t,∀v,ρ[i]?≠some (some v)):ρ.length=ρ1.length/\∀(i:Nat) (v:V),ρ[i]? = some (some v)->ρ1[i]? = some (some v):=by
 obtain⟨a,b⟩:=Z7 e;refine⟨a.symm,λi v h=>?_⟩
 rw[b i λz=>hno i z v h];exact h
theorem xU {ρ:Env}{t:List Nat}{ifs:List E}{elt:E}{x:V}{d:D}{S:Za}{s:DS}{σ:Lc}{ds:List D}(hmn:m≠n0) (zm:X m)
  (hT:∀{ρ:Env} {σ:Lc} {S:Za} {s:DS},Xok X n0 S->Ew S X n0 ρ σ->Dw n0 S s->Sim n0 S RlE (evt C ifs σ S) (pvt CV ifs ρ s)) (hE:∀{ρ:Env} {σ:Lc} {S:Za} {s:DS},Xok X n0 S->Ew S X n0 ρ σ->Dw n0 S s->Sim n0 S (RlV X n0) (ev C elt σ S) (pv CV elt ρ s))
  (hno:∀i∈t,∀v,ρ[i]?≠some (some v)) (xo:Xok X n0 S) (rx:Rep S X n0 x d) (he:Ew S X n0 ρ σ) (w:Dw n0 S s) (hm:S[m]? = some (.lst ds)) :
  Turn n0 m X ρ S ds ((po (Zv t x ρ) s).bind λσ s=>(pvt CV ifs σ s).bind λb s=>if b then (pv CV elt σ s).bind λy s=>.ok [y] s else .ok [] s)
   ((ob (assign t d S σ) S).bind λσ S1=>(evt C ifs σ S1).bind λb S1=>if b then (ev C elt σ S1).bind λy S1=>(push m y S1).bind λ_ S1=>.ok σ S1 else .ok σ S1):=by
 intro ys s' q hl;obtain⟨ρ1,s1,qa,qb⟩:=ZQ q;clear q;obtain⟨q1,es1⟩:=xT qa;subst es1;obtain⟨σ1,e1,he1⟩:=Vi he rx q1;obtain⟨b,s2,q2,q⟩:=ZQ qb;clear qb;obtain⟨b',S2,e2,x2,w2,rfl⟩:=(hT xo he1 w).out q2;obtain⟨kl,kv⟩:=UB q1 hno;have xo2:=xo.ext x2;have he2:=he1.ext xo x2;have hm2:=x2.keep m _ hmn hm;cases b' with
 |false=>
  cases q;refine⟨σ1,S2,[],?_,x2.two,he2.weak kl kv,w2,by rw[Nt];exact hm2,Rq.nil⟩
  rw[e1];show ((evt C ifs σ1 S).bind _)=_;rw[e2];rfl
 |true=>
  obtain⟨y,s3,q3,qe⟩:=ZQ q;cases qe;obtain⟨dy,S3,e3,x3,w3,r3⟩:=(hE xo2 he2 w2).out q3;have hm3:=x3.keep m _ hmn hm2;have xo3:=xo2.ext x3;have hs:Ext2 n0 m S3 (S3.set m (.lst (ds++[dy]))):=Gt;refine⟨σ1,S3.set m (.lst (ds++[dy])),[dy],?_,(x2.two.trans x3.two).trans hs,((he2.ext xo2 x3).ext2 xo.z zm hs).weak kl kv,⟨by rw[Pk hmn];exact w3.1,w3.2⟩,Pw (Yl hm3),Rq.ext2 xo.z zm hs (Rq.cons r3 Rq.nil)⟩
  rw[e1];show ((evt C ifs σ1 S).bind _)=_;rw[e2];show ((ev C elt σ1 S2).bind _)=_;rw[e3];show ((push m dy S3).bind _)=_;rw[xg hm3 (by simp at hl;omega)];rfl
theorem uA {ρ:Env}{t u:List Nat}{ifs jfs:List E}{elt:E}{jt:W}{x:V}{d:D}{S:Za}{s:DS}{σ:Lc}{ds:List D}(hmn:m≠n0) (zm:X m)
  (hT:∀{ρ:Env} {σ:Lc} {S:Za} {s:DS},Xok X n0 S->Ew S X n0 ρ σ->Dw n0 S s->Sim n0 S RlE (evt C ifs σ S) (pvt CV ifs ρ s)) (hJ:∀{ρ:Env} {σ:Lc} {S:Za} {s:DS},Xok X n0 S->Ew S X n0 ρ σ->Dw n0 S s->Sim n0 S RlE (evt C jfs σ S) (pvt CV jfs ρ s))
  (hW:∀{ρ:Env} {σ:Lc} {S:Za} {s:DS},Xok X n0 S->Ew S X n0 ρ σ->Dw n0 S s->Sim n0 S (WkR X n0) (evw C jt σ S) (pvw CV jt ρ s)) (hE:∀{ρ:Env} {σ:Lc} {S:Za} {s:DS},Xok X n0 S->Ew S X n0 ρ σ->Dw n0 S s->Sim n0 S (RlV X n0) (ev C elt σ S) (pv CV elt ρ s))
  (hno:∀i∈t,∀v,ρ[i]?≠some (some v)) (hnu:∀i∈u,i∉t/\∀v,ρ[i]?≠some (some v)) (xo:Xok X n0 S) (rx:Rep S X n0 x d) (he:Ew S X n0 ρ σ) (w:Dw n0 S s) (hm:S[m]? = some (.lst ds)) :
  Turn n0 m X ρ S ds ((po (Zv t x ρ) s).bind λσ s=>(pvt CV ifs σ s).bind λb s=>if b then
    (pvw CV jt σ s).bind λw2 s=>mapP (λx s=>(po (Zv u x σ) s).bind λσ s=>(pvt CV jfs σ s).bind λb s=>if b then (pv CV elt σ s).bind λy s=>.ok [y] s else .ok [] s) w2 s
    else .ok [] s)
   ((ob (assign t d S σ) S).bind λσ S1=>(evt C ifs σ S1).bind λb S1=>if b then
    (evw C jt σ S1).bind λw2 S1=>Z4 w2 (λx σ S1=>(ob (assign u x S1 σ) S1).bind λσ S1=>(evt C jfs σ S1).bind λb S1=>if b then (ev C elt σ S1).bind λy S1=>(push m y S1).bind λ_ S1=>.ok σ S1 else .ok σ S1) w2.items σ S1
    else .ok σ S1):=by
 intro ys s' q hl;obtain⟨ρ1,s1,qa,qb⟩:=ZQ q;clear q;obtain⟨q1,es1⟩:=xT qa;subst es1;obtain⟨σ1,e1,he1⟩:=Vi he rx q1;obtain⟨b,s2,q2,q⟩:=ZQ qb;clear qb;obtain⟨b',S2,e2,x2,w2,rfl⟩:=(hT xo he1 w).out q2;obtain⟨kl,kv⟩:=UB q1 hno;have xo2:=xo.ext x2;have he2:=he1.ext xo x2;have hm2:=x2.keep m _ hmn hm;cases b' with
 |false=>
  cases q;refine⟨σ1,S2,[],?_,x2.two,he2.weak kl kv,w2,by rw[Nt];exact hm2,Rq.nil⟩
  rw[e1];show ((evt C ifs σ1 S).bind _)=_;rw[e2];rfl
 |true=>
  obtain⟨vs,s3,q3,qe⟩:=ZQ q;obtain⟨wk,S3,e3,x3,w3,r3⟩:=(hW xo2 he2 w2).out q3;have hm3:=x3.keep m _ hmn hm2;have xo3:=xo2.ext x3;have he3:=he2.ext xo2 x3;have hnu1:∀i∈u,∀v,ρ1[i]?≠some (some v):=λi hi v z=>by
   rw[(Z7 q1).2 i (hnu i hi).1] at z;exact (hnu i hi).2 v z
  obtain⟨σ4,S4,es,a1,a2,a3,a4,a5,a6⟩:=Wx (ρ:=ρ1) (wk:=wk) zm (λp hp=>(r3.2 p hp).2) (λx d S s σ ds xo rx he w hm=>xU hmn zm hJ hE hnu1 xo rx he w hm) vs wk.items S3 s3 σ1 ds xo3 r3.1 he3 w3 hm3 (λp hp=>(r3.2 p hp).1) ys s' qe hl
  refine⟨σ4,S4,es,?_,(x2.two.trans x3.two).trans a2,a3.weak kl kv,a4,a5,a6⟩;rw[e1];show ((evt C ifs σ1 S).bind _)=_;rw[e2];show ((evw C jt σ1 S2).bind _)=_;rw[e3];exact a1
theorem Vj {S:Za}{ρ:Env}{σ:Lc}{cap:List Nat}{nl:Nat}(he:Ew S X n0 ρ σ):Ew S X n0 (Yz cap nl ρ) (caught cap nl σ):=by
 refine⟨by simp[Yz,caught],λi v h=>?_⟩
 unfold Yz at h;unfold caught;by_cases c:i<nl
 ·rw[Pl (by simpa using c)] at h
  simp[c] at h
 ·rw[Px (by simp;omega)] at h ⊢
  rw[P8] at h ⊢;rw[PP] at h ⊢;cases q:cap[i-nl]? with
  |none=>rw[q] at h;cases h
  |some j=>
   rw[q] at h;have h':(ρ[j]?).join=some v:=Pa h;cases q2:ρ[j]? with
   |none=>rw[q2] at h';cases h'
   |some o=>
    rw[q2] at h';have h'':o=some v:=h';subst h'';obtain⟨d,e,r⟩:=he.val j v q2;exact⟨d,by show some ((σ[j]?).join)=_;rw[e];rfl,r⟩
theorem X1 {ρ:Env}{cap:List Nat}{nl i:Nat}(h:i<nl) (v:V):(Yz cap nl ρ)[i]?≠some (some v):=by
 unfold Yz;rw[Pl (by simpa using h)]
 simp[h]
theorem Uh {S:Za}{vs:List V}{s:DS}{ρ0:Env}{σ0:Lc}{wk:Walk}{f:V->DS->PR (List V)}{turn:D->Lc->Za->R Lc}(xo:Xok X n0 S) (w:Dw n0 S s) (rw':WkR X n0 S vs wk) (he:Ew S X n0 ρ0 σ0)
  (ht:∀x d S1 s σ ds,Xok (λn=>X n\/n=S.length) n0 S1->Rep S1 (λn=>X n\/n=S.length) n0 x d->Ew S1 (λn=>X n\/n=S.length) n0 ρ0 σ->Dw n0 S1 s->S1[S.length]? = some (.lst ds)->Turn n0 S.length (λn=>X n\/n=S.length) ρ0 S1 ds (f x s) (turn d σ S1)) :
  Sim n0 S (RlV X n0) ((Z4 wk turn wk.items σ0 (S++[.lst []])).bind λ_ S1=>.ok (.loc S.length) S1) ((mapP f vs s).bind λys s=>if ys.length<=lim then .ok (.lst ys) s else .no):=by
 cases q:mapP f vs s with
 |no=>exact True.intro
 |ex c s'=>exact absurd q yz
 |ok ys s'=>
  show Sim n0 S _ _ (if ys.length<=lim then PR.ok (V.lst ys) s' else .no)
  by_cases c:ys.length<=lim
  ·rw[Pj c]
   have hX:∀n,n<S.length->(X n\/n=S.length)->X n:=λn h z=>z.elim id λe=>absurd (e▸h) (PN _)
   have hk:∀n o,¬X n->S[n]? = some o->(S++[Ob.lst []])[n]? = some o:=λn o _ e=>by rw[Pl (Yl e)];exact e
   have xo1:Xok (λn=>X n\/n=S.length) n0 (S++[.lst []]):=⟨.inl xo.z,λn h=>by
    rw[PK,Nq];rcases h with h | h
    ·have:=xo.lt n h;omega
    ·omega⟩
   obtain⟨σ',S',es,a1,a2,a3,a4,a5,a6⟩:=Wx (m:=S.length) (ρ:=ρ0) (wk:=wk) (.inr rfl) (λp hp z=>(rw'.2 p hp).2 (hX _ (Yl (rw'.2 p hp).1) z)) ht vs wk.items (S++[.lst []]) s σ0 [] xo1 (rw'.1.mono hk hX) (he.mono hk hX) w.app (by simp) (λp hp=>hk _ _ (rw'.2 p hp).2 (rw'.2 p hp).1) ys s' q (by simpa using c)
   refine⟨.loc S.length,S',by rw[a1];rfl,⟨PY (by simp) a2.len,λn o hn e=>a2.keep n o hn (λz=>absurd (Yl e) (by omega)) (by rw[Pl (Yl e)];exact e)⟩,a4,?_⟩
   exact VW a5 (λz=>PN _ (xo.lt _ z)) (a6.mono (λn o nx e=>e) λn _ h=>.inl h)
  ·rw[Pm c];exact True.intro
end
def ZI (n0:Nat) (C:Calls) (CV:Zy):Prop:=∀(f:Nat) (vs:List V) (ds:List D) (S:Za) (s:DS) (X:Nat->Prop),Xok X n0 S->Dw n0 S s->Rq S X n0 vs ds->Sim n0 S (RlV X n0) (C f ds S) (CV f vs s)
section
variable {n0:Nat}{C:Calls}{CV:Zy}
mutual
theorem Zx (H:ZI n0 C CV):∀(e:E) {X:Nat->Prop}{ρ:Env}{σ:Lc}{S:Za}{s:DS},Xok X n0 S->Ew S X n0 ρ σ->Dw n0 S s->Sim n0 S (RlV X n0) (ev C e σ S) (pv CV e ρ s)
 |.c d,X,ρ,σ,S,s,xo,he,w=>by
  rw[ev,pv];exact Sim.po λv hv=>Sim.ok w (JF hv)
 |.v i,X,ρ,σ,S,s,xo,he,w=>by
  rw[ev,pv];refine Sim.obp w λv hv=>?_
  cases q:ρ[i]? with
  |none=>rw[q] at hv;cases hv
  |some o=>
   rw[q] at hv;have hv:o=some v:=hv;subst hv;obtain⟨d,e,r⟩:=he.val i v q;exact⟨d,by rw[e];rfl,r⟩
 |.tup es,X,ρ,σ,S,s,xo,he,w=>by
  rw[ev,pv];refine (Y2 H es xo he w).bind λds vs S1 s1 x1 w1 r1=>?_
  rw[Rq.length r1];exact Sim.guard λ_=>Sim.ok w1 (ZE r1)
 |.lst es,X,ρ,σ,S,s,xo,he,w=>by
  rw[ev,pv];refine (Y2 H es xo he w).bind λds vs S1 s1 x1 w1 r1=>?_
  rw[Rq.length r1];exact Sim.guard λ_=>Sim.new (xo.ext x1) w1 r1
 |.dnew,X,ρ,σ,S,s,xo,he,w=>by rw[pv];exact True.intro
 |.dput1 _ _,X,ρ,σ,S,s,xo,he,w=>by rw[pv];exact True.intro
 |.fi a,X,ρ,σ,S,s,xo,he,w=>by
  rw[ev,pv];refine (Zx H a xo he w).bind λd v S1 s1 x1 w1 r1=>?_
  cases v with
  |int i=>cases Rep.int' r1;exact Sim.guard λ_=>Sim.ok w1 (Zf _)
  |_=>exact True.intro
 |.mt _ _ _,X,ρ,σ,S,s,xo,he,w=>by rw[pv];exact True.intro
 |.bin op a b,X,ρ,σ,S,s,xo,he,w=>by
  rw[ev,pv];exact (Zx H a xo he w).bind λd v S1 s1 x1 w1 r1=>(Zx H b (xo.ext x1) (he.ext xo x1) w1).bind λe u S2 s2 x2 w2 r2=>Q2 ((xo.ext x1).ext x2) w2 (Rep.ext (xo.ext x1) x2 r1) r2
 |.neg a,X,ρ,σ,S,s,xo,he,w=>by
  rw[ev,pv];refine (Zx H a xo he w).bind λd v S1 s1 x1 w1 r1=>?_
  cases v with
  |int i=>cases Rep.int' r1;exact Sim.ok w1 (Zf _)
  |_=>exact True.intro
 |.not a,X,ρ,σ,S,s,xo,he,w=>by
  rw[ev,pv];refine (Zx H a xo he w).bind λd v S1 s1 x1 w1 r1=>?_
  cases q:ZU v with
  |none=>exact True.intro
  |some b=>
   rw[Yk r1 q];exact Sim.ok w1 (Zh _)
 |.and a b,X,ρ,σ,S,s,xo,he,w=>by
  rw[ev,pv];refine (Zx H a xo he w).bind λd v S1 s1 x1 w1 r1=>?_
  cases v with
  |bl c=>
   cases Rep.bl' r1;cases c with
   |true=>exact Zx H b (xo.ext x1) (he.ext xo x1) w1
   |false=>exact Sim.ok w1 (Zh _)
  |_=>exact True.intro
 |.or a b,X,ρ,σ,S,s,xo,he,w=>by
  rw[ev,pv];refine (Zx H a xo he w).bind λd v S1 s1 x1 w1 r1=>?_
  cases v with
  |bl c=>
   cases Rep.bl' r1;cases c with
   |true=>exact Sim.ok w1 (Zh _)
   |false=>exact Zx H b (xo.ext x1) (he.ext xo x1) w1
  |_=>exact True.intro
 |.ite t a b,X,ρ,σ,S,s,xo,he,w=>by
  rw[ev,pv];refine (Zx H t xo he w).bind λd v S1 s1 x1 w1 r1=>?_
  cases q:ZU v with
  |none=>exact True.intro
  |some c=>
   rw[Yk r1 q];cases c with
   |true=>exact Zx H a (xo.ext x1) (he.ext xo x1) w1
   |false=>exact Zx H b (xo.ext x1) (he.ext xo x1) w1
 |.cmp op a b,X,ρ,σ,S,s,xo,he,w=>by
  rw[ev,pv];exact (Zx H a xo he w).bind λd v S1 s1 x1 w1 r1=>(Zx H b (xo.ext x1) (he.ext xo x1) w1).bind λe u S2 s2 x2 w2 r2=>VJ w2 (Rep.ext (xo.ext x1) x2 r1) r2
 |.chain o p a b d,X,ρ,σ,S,s,xo,he,w=>by
  rw[ev,pv];refine (Zx H a xo he w).bind λda va S1 s1 x1 w1 r1=>(Zx H b (xo.ext x1) (he.ext xo x1) w1).bind λdb vb S2 s2 x2 w2 r2=>(VJ w2 (Rep.ext (xo.ext x1) x2 r1) r2).bind λdz vz S3 s3 x3 w3 r3=>?_
  cases vz with
  |bl c=>
   cases Rep.bl' r3;cases c with
   |true=>
    refine (Zx H d (((xo.ext x1).ext x2).ext x3) (((he.ext xo x1).ext (xo.ext x1) x2).ext ((xo.ext x1).ext x2) x3) w3).bind λdd vd S4 s4 x4 w4 r4=>VJ w4 (Rep.ext (((xo.ext x1).ext x2).ext x3) x4 (Rep.ext ((xo.ext x1).ext x2) x3 r2)) r4
   |false=>exact Sim.ok w3 (Zh _)
  |_=>exact True.intro
 |.ix a i,X,ρ,σ,S,s,xo,he,w=>by
  rw[ev,pv];exact (Zx H a xo he w).bind λd v S1 s1 x1 w1 r1=>(Zx H i (xo.ext x1) (he.ext xo x1) w1).bind λe u S2 s2 x2 w2 r2=>vI w2 (Rep.ext (xo.ext x1) x2 r1) r2
 |.sl a lo hi,X,ρ,σ,S,s,xo,he,w=>by
  rw[ev,pv];refine (Zx H a xo he w).bind λd v S1 s1 x1 w1 r1=>(uw H lo (xo.ext x1) (he.ext xo x1) w1).bind λl' l S2 s2 x2 w2 r2=>?_
  have r2:l'=l:=r2;subst r2;refine (uw H hi ((xo.ext x1).ext x2) ((he.ext xo x1).ext (xo.ext x1) x2) w2).bind λh' h S3 s3 x3 w3 r3=>?_
  have r3:h'=h:=r3;subst r3;exact wD (((xo.ext x1).ext x2).ext x3) w3 (Rep.ext ((xo.ext x1).ext x2) x3 (Rep.ext (xo.ext x1) x2 r1))
 |.rev a,X,ρ,σ,S,s,xo,he,w=>by
  rw[ev,pv];refine (Zx H a xo he w).bind λd v S1 s1 x1 w1 r1=>?_
  cases v with
  |tup vs=>obtain⟨ds,rfl,rs⟩:=Rep.tup' r1;exact Sim.ok w1 (ZE rs.reverse)
  |_=>exact True.intro
 |.call f as,X,ρ,σ,S,s,xo,he,w=>by
  rw[ev,pv];exact (Y2 H as xo he w).bind λds vs S1 s1 x1 w1 r1=>H f vs ds S1 s1 X (xo.ext x1) w1 r1
 |.blt f as,X,ρ,σ,S,s,xo,he,w=>by
  rw[ev,pv];exact (Y2 H as xo he w).bind λds vs S1 s1 x1 w1 r1=>ye (xo.ext x1) w1 r1
 |.isi a ts,X,ρ,σ,S,s,xo,he,w=>by
  rw[ev,pv];refine (Zx H a xo he w).bind λd v S1 s1 x1 w1 r1=>?_
  cases q:YK v ts with
  |none=>exact True.intro
  |some b=>
   rw[Uo r1 q];exact Sim.ok w1 (Zh _)
 |.inT a tab,X,ρ,σ,S,s,xo,he,w=>by
  rw[ev,pv];refine (Zx H a xo he w).bind λd v S1 s1 x1 w1 r1=>?_
  cases v with
  |int i=>cases Rep.int' r1;exact Sim.ok w1 (Zh _)
  |_=>exact True.intro
 |.getT tab a,X,ρ,σ,S,s,xo,he,w=>by
  rw[ev,pv];refine (Zx H a xo he w).bind λd v S1 s1 x1 w1 r1=>?_
  cases v with
  |int i=>
   cases Rep.int' r1;show Sim n0 S1 (RlV X n0) ((ob (tab.lookup i) S1).bind _) ((po (tab.lookup i) s1).bind _);cases q:tab.lookup i with
   |none=>exact True.intro
   |some j=>exact Sim.ok w1 (Zf _)
  |_=>exact True.intro
 |.comp1 cap nl t it ifs elt,X,ρ,σ,S,s,xo,he,w=>by
  rw[ev,pv];by_cases c:own nl t=true
  ·rw[Pj c]
   refine (Ga H it xo he w).bind λwk vs S1 s1 x1 w1 r1=>?_
   have hn:∀i∈t,i<nl:=λi hi=>Py (PH.mp c i hi)
   have xo1:=xo.ext x1;exact Sim.nox (Uh xo1 w1 r1 (Vj (he.ext xo x1)) λx d S2 s σ ds xo2 rx he2 w2 hm=>xU (λz=>absurd (xo1.lt _ xo1.z) (by omega)) (.inr rfl) (xx H ifs) (Zx H elt) (λi hi v=>X1 (hn i hi) v) xo2 rx he2 w2 hm)
  ·rw[Pm c];exact True.intro
 |.comp2 cap nl t it ifs u jt jfs elt,X,ρ,σ,S,s,xo,he,w=>by
  rw[ev,pv];by_cases c:own2 nl t u=true
  ·rw[Pj c]
   refine (Ga H it xo he w).bind λwk vs S1 s1 x1 w1 r1=>?_
   obtain⟨c1,c2⟩:=(Ph _ _).mp c;have hn:∀i∈t,i<nl:=λi hi=>Py (PH.mp c1 i hi)
   have hn2:∀i∈u,i<nl/\i∉t:=λi hi=>by
    obtain⟨a,b⟩:=(Ph _ _).mp (PH.mp c2 i hi);exact⟨Py a,by simpa using b⟩
   have xo1:=xo.ext x1;exact Sim.nox (Uh xo1 w1 r1 (Vj (he.ext xo x1)) λx d S2 s σ ds xo2 rx he2 w2 hm=>uA (λz=>absurd (xo1.lt _ xo1.z) (by omega)) (.inr rfl) (xx H ifs) (xx H jfs) (Ga H jt) (Zx H elt) (λi hi v=>X1 (hn i hi) v) (λi hi=>⟨(hn2 i hi).2,λv=>X1 (hn2 i hi).1 v⟩) xo2 rx he2 w2 hm)
  ·rw[Pm c];exact True.intro
 |.refu e,X,ρ,σ,S,s,xo,he,w=>by
  rw[ev,pv];have h:=Zx H e xo he w;cases q:pv CV e ρ s with
  |no=>exact True.intro
  |ok v s'=>
   rw[q] at h;obtain⟨a,S',e1,x1,w1,_⟩:=h;rw[e1];exact⟨_,_,rfl,x1,w1,Yf⟩
  |ex c s'=>
   rw[q] at h;obtain⟨S',e1,x1,w1⟩:=h;rw[e1];by_cases hc:1<=c/\c<=10
   ·simp only[Pj hc]
    exact⟨_,_,rfl,x1.trans Ext.app,w1.app,Zf _⟩
   ·simp only[Pm hc]
    exact True.intro
theorem Y2 (H:ZI n0 C CV):∀(es:List E) {X:Nat->Prop}{ρ:Env}{σ:Lc}{S:Za}{s:DS},Xok X n0 S->Ew S X n0 ρ σ->Dw n0 S s->Sim n0 S (yK X n0) (evs C es σ S) (pvs CV es ρ s)
 |[],X,ρ,σ,S,s,xo,he,w=>by rw[evs,pvs];exact Sim.ok w Rq.nil
 |e::es,X,ρ,σ,S,s,xo,he,w=>by
  rw[evs,pvs];exact (Zx H e xo he w).bind λd v S1 s1 x1 w1 r1=>(Y2 H es (xo.ext x1) (he.ext xo x1) w1).bind λds vs S2 s2 x2 w2 r2=>Sim.ok w2 (Rq.cons (Rep.ext (xo.ext x1) x2 r1) r2)
theorem uw (H:ZI n0 C CV):∀(e:Option E) {X:Nat->Prop}{ρ:Env}{σ:Lc}{S:Za}{s:DS},Xok X n0 S->Ew S X n0 ρ σ->Dw n0 S s->Sim n0 S RlE (evo C e σ S) (pvo CV e ρ s)
 |none,X,ρ,σ,S,s,xo,he,w=>by rw[evo,pvo];exact Sim.ok w rfl
 |some e,X,ρ,σ,S,s,xo,he,w=>by
  rw[evo,pvo];refine (Zx H e xo he w).bind λd v S1 s1 x1 w1 r1=>?_
  cases v with
  |int i=>cases Rep.int' r1;exact Sim.ok w1 rfl
  |_=>exact True.intro
theorem xx (H:ZI n0 C CV):∀(es:List E) {X:Nat->Prop}{ρ:Env}{σ:Lc}{S:Za}{s:DS},Xok X n0 S->Ew S X n0 ρ σ->Dw n0 S s->Sim n0 S RlE (evt C es σ S) (pvt CV es ρ s)
 |[],X,ρ,σ,S,s,xo,he,w=>by rw[evt,pvt];exact Sim.ok w rfl
 |e::es,X,ρ,σ,S,s,xo,he,w=>by
  rw[evt,pvt];refine (Zx H e xo he w).bind λd v S1 s1 x1 w1 r1=>?_
  cases q:ZU v with
  |none=>exact True.intro
  |some b=>
   rw[Yk r1 q];cases b with
   |true=>exact xx H es (xo.ext x1) (he.ext xo x1) w1
   |false=>exact Sim.ok w1 rfl
theorem Ga (H:ZI n0 C CV):∀(wk:W) {X:Nat->Prop}{ρ:Env}{σ:Lc}{S:Za}{s:DS},Xok X n0 S->Ew S X n0 ρ σ->Dw n0 S s->Sim n0 S (WkR X n0) (evw C wk σ S) (pvw CV wk ρ s)
 |.rng1 a,X,ρ,σ,S,s,xo,he,w=>by
  rw[evw,pvw];refine (Zx H a xo he w).bind λd v S1 s1 x1 w1 r1=>?_
  cases v with
  |int i=>
   cases Rep.int' r1;exact Sim.guard λ_=>Sim.ok w1 ⟨XA _ _,λp hp=>by cases hp⟩
  |_=>exact True.intro
 |.rng2 a b,X,ρ,σ,S,s,xo,he,w=>by
  rw[evw,pvw];refine (Zx H a xo he w).bind λd v S1 s1 x1 w1 r1=>(Zx H b (xo.ext x1) (he.ext xo x1) w1).bind λe u S2 s2 x2 w2 r2=>?_
  cases v with
  |int i=>cases u with
   |int j=>
    cases Rep.int' r1;cases Rep.int' r2;exact Sim.guard λ_=>Sim.ok w2 ⟨XA _ _,λp hp=>by cases hp⟩
   |_=>exact True.intro
  |_=>exact True.intro
 |.rrng a b,X,ρ,σ,S,s,xo,he,w=>by
  rw[evw,pvw];refine (Zx H a xo he w).bind λd v S1 s1 x1 w1 r1=>(Zx H b (xo.ext x1) (he.ext xo x1) w1).bind λe u S2 s2 x2 w2 r2=>?_
  cases v with
  |int i=>cases u with
   |int j=>
    cases Rep.int' r1;cases Rep.int' r2;exact Sim.guard λ_=>Sim.ok w2 ⟨Rq.reverse (XA _ _),λp hp=>by cases hp⟩
   |_=>exact True.intro
  |_=>exact True.intro
 |.rtup a,X,ρ,σ,S,s,xo,he,w=>by
  rw[evw,pvw];refine (Zx H a xo he w).bind λd v S1 s1 x1 w1 r1=>?_
  cases v with
  |tup xs=>
   obtain⟨es,rfl,r2⟩:=Rep.tup' r1;exact Sim.ok w1 ⟨Rq.reverse r2,λp hp=>by cases hp⟩
  |_=>exact True.intro
 |.zip a b,X,ρ,σ,S,s,xo,he,w=>by
  rw[evw,pvw];refine (Zx H a xo he w).bind λd v S1 s1 x1 w1 r1=>(Zx H b (xo.ext x1) (he.ext xo x1) w1).bind λe u S2 s2 x2 w2 r2=>?_
  cases q1:ZR v with
  |none=>exact True.intro
  |some vs=>
   cases q2:ZR u with
   |none=>exact True.intro
   |some us=>
    obtain⟨k1,e1,k2,k3⟩:=Y6 (Rep.ext (xo.ext x1) x2 r1) q1;obtain⟨l1,f1,l2,l3⟩:=Y6 r2 q2;rw[e1,f1];refine Sim.ok w2 ⟨Vx k2 l2,λp hp=>?_⟩
    rcases NK.mp hp with hp | hp
    ·exact k3 p hp
    ·exact l3 p hp
 |.enum a,X,ρ,σ,S,s,xo,he,w=>by
  rw[evw,pvw];refine (Zx H a xo he w).bind λd v S1 s1 x1 w1 r1=>?_
  cases q1:ZR v with
  |none=>exact True.intro
  |some vs=>
   obtain⟨k1,e1,k2,k3⟩:=Y6 r1 q1;rw[e1];refine Sim.ok w1 ⟨?_,k3⟩;show Rq S1 X n0 (((Xm 0 vs.length).zip vs).map _) (((Zl 0 k1.items.length).zip k1.items).map _);rw[k2.length];exact Vx (XA _ _) k2
 |.of e,X,ρ,σ,S,s,xo,he,w=>by
  rw[evw,pvw];refine (Zx H e xo he w).bind λd v S1 s1 x1 w1 r1=>Sim.obp w1 λvs q=>Y6 r1 q
end
end
abbrev Own:=Nat->Option Nat
noncomputable def XW (X:Nat->Prop) (W:Own):Nat->Prop:=λn=>X n\/∃i,W i=some n
structure Eu (S:Za) (X:Nat->Prop) (n0 base:Nat) (W:Own) (ρ:Env) (os:List Nat) (σ:Lc):Prop where
 xz:X n0
 xb:∀n,X n->n<base
 bs:base<=S.length
 len:ρ.length=σ.length
 osW:∀i,os.contains i=(W i).isSome
 inj:∀i j n,W i=some n->W j=some n->i=j
 pl:∀i n,W i=some n->base<=n
 own:∀i n,W i=some n->∃xs,ρ[i]? = some (some (.lst xs))/\Zt xs=true/\σ[i]? = some (some (.loc n))/\S[n]? = some (.lst (Z5 xs))
 val:∀(i:Nat) (v:V),ρ[i]? = some (some v)->W i=none->∃d,σ[i]? = some (some d)/\Rep S (XW X W) n0 v d
section
variable {S S':Za}{X:Nat->Prop}{n0 base:Nat}{W W':Own}{ρ:Env}{os:List Nat}{σ:Lc}
theorem Eu.xok (h:Eu S X n0 base W ρ os σ):Xok X n0 S:=⟨h.xz,λn x=>Pu (h.xb n x) h.bs⟩
theorem Eu.xokW (h:Eu S X n0 base W ρ os σ):Xok (XW X W) n0 S:=⟨.inl h.xz,λn x=>by
 rcases x with x | ⟨i,x⟩
 ·exact h.xok.lt n x
 ·obtain⟨xs,_,_,_,e⟩:=h.own i n x;exact Yl e⟩
theorem Eu.nx (h:Eu S X n0 base W ρ os σ) {i n:Nat}(e:W i=some n):¬X n:=λz=>by have:=h.xb n z;have:=h.pl i n e;omega
theorem Eu.ne (h:Eu S X n0 base W ρ os σ) {i n:Nat}(e:W i=some n):n≠n0:=λz=>h.nx e (z▸h.xz)
theorem Eu.all (h:Eu S X n0 base W ρ os σ):Ew S X n0 ρ σ:=⟨h.len,λi v e=>by
 cases q:W i with
 |none=>
  obtain⟨d,a,b⟩:=h.val i v e q;exact⟨d,a,b.mono (λ_ _ _ z=>z) λn _ z=>.inl z⟩
 |some n=>
  obtain⟨xs,a,b,c,d⟩:=h.own i n q;rw[a] at e;cases e;exact⟨_,c,VW d (h.nx q) (Y7 b)⟩⟩
theorem zq {i:Nat}{v:V}(e:(hide os ρ)[i]? = some (some v)):ρ[i]? = some (some v)/\os.contains i=false:=by
 unfold hide at e;rw[List.getElem?_mapIdx] at e;cases q:ρ[i]? with
 |none=>rw[q] at e;cases e
 |some o=>
  rw[q] at e;have e':(if os.contains i=true then none else o)=some v:=Pa e
  by_cases c:os.contains i=true
  ·rw[Pj c] at e';cases e'
  ·rw[Pm c] at e';exact⟨by rw[e'],by simpa using c⟩
theorem Eu.hid (h:Eu S X n0 base W ρ os σ):Ew S (XW X W) n0 (hide os ρ) σ:=⟨by unfold hide;rw[List.length_mapIdx];exact h.len,λi v e=>by
 obtain⟨a,b⟩:=zq e;rw[h.osW] at b;exact h.val i v a (by cases q:W i with | none=>rfl | some _=>rw[q] at b;cases b)⟩
theorem Eu.ext (h:Eu S X n0 base W ρ os σ) (e:Ext n0 S S'):Eu S' X n0 base W ρ os σ:=
 ⟨h.xz,h.xb,PY h.bs e.len,h.len,h.osW,h.inj,h.pl,λi n q=>by
  obtain⟨xs,a,b,c,d⟩:=h.own i n q;exact⟨xs,a,b,c,e.keep n _ (h.ne q) d⟩,λi v a b=>by
  obtain⟨d,c,r⟩:=h.val i v a b;exact⟨d,c,r.ext h.xokW e⟩⟩
theorem Eu.noW (h:Eu S X n0 base W ρ [] σ):∀i,W i=none:=λi=>by
 have:=h.osW i;cases q:W i with
 |none=>rfl
 |some n=>rw[q] at this;cases this
theorem Eu.set {i:Nat}{v:V}{d:D}(h:Eu S X n0 base W ρ os σ) (hi:os.contains i=false) (r:Rep S (XW X W) n0 v d):Eu S X n0 base W (ρ.set i (some v)) os (σ.set i (some d)):=by
 have hw:W i=.none:=by have:=h.osW i;rw[hi] at this;cases q:W i with | none=>rfl | some _=>rw[q] at this;cases this
 refine⟨h.xz,h.xb,h.bs,by rw[Pz,Pz];exact h.len,h.osW,h.inj,h.pl,λj n q=>?_,λj w e q=>?_⟩
 ·obtain⟨xs,a,b,c,e⟩:=h.own j n q
  have ij:i≠j:=λz=>by rw[z,q] at hw;cases hw
  exact⟨xs,by rw[Pk ij];exact a,b,by rw[Pk ij];exact c,e⟩
 ·rw[Nh] at e ⊢
  by_cases c:i=j
  ·rw[Pj c] at e ⊢
   by_cases l:i<ρ.length
   ·rw[Pj l] at e
    rw[Pj (by rw[<-h.len];exact l)]
    cases e;exact⟨d,rfl,r⟩
   ·rw[Pm l] at e;cases e
  ·rw[Pm c] at e ⊢
   exact h.val j w e q
theorem Eu.fill:∀{t:List Nat}{vs:List V}{ds:List D}{ρ ρ':Env}{σ:Lc},Eu S X n0 base W ρ os σ->(t.any os.contains)=false->Rq S (XW X W) n0 vs ds->Z6 t vs ρ=some ρ'->∃σ',Ev.fill t ds σ=some σ'/\Eu S X n0 base W ρ' os σ'
 |[],[],_,ρ,ρ',σ,h,_,r,e=>by rw[r.nil'];cases e;exact⟨σ,rfl,h⟩
 |[],_::_,_,_,_,_,_,_,_,e=>by cases e
 |_::_,[],_,_,_,_,_,_,_,e=>by cases e
 |i::t,v::vs,_,ρ,ρ',σ,h,ht,r,e=>by
  obtain⟨d,ds,rfl,a,b⟩:=r.cons';rw[List.any_cons,Bool.or_eq_false_iff] at ht;exact Eu.fill (t:=t) (vs:=vs) (h.set ht.1 a) ht.2 b e
theorem Eu.assign {t:List Nat}{v:V}{d:D}{ρ':Env}(h:Eu S X n0 base W ρ os σ) (ht:(t.any os.contains)=false) (r:Rep S (XW X W) n0 v d) (e:Zv t v ρ=some ρ'):∃σ',Ev.assign t d S σ=some σ'/\Eu S X n0 base W ρ' os σ':=by
 have gen:∀t:List Nat,(t.any os.contains)=false->(match ZR v with
   |some xs=>Z6 t xs ρ
   |none=>none)=some ρ'->∃σ',(match d with
   |.tup xs=>Ev.fill t xs σ
   |.loc n=>match Zc S n with
    |some xs=>Ev.fill t xs σ
    |none=>none
   |_=>none)=some σ'/\Eu S X n0 base W ρ' os σ':=by
  intro t ht e;cases v with
  |tup vs=>obtain⟨ds,rfl,rs⟩:=r.tup';exact h.fill ht rs e
  |lst vs=>
   obtain⟨n,ds,rfl,hs,_,rs⟩:=r.lst';obtain⟨σ',a,b⟩:=h.fill ht rs e;refine⟨σ',?_,b⟩;show (match Zc S n with
    |some xs=>Ev.fill t xs σ
    |.none=>.none)=some σ'
   rw[Zm hs];exact a
  |_=>cases e
 match t,ht,e with
 |[i],ht,e=>
  cases e;exact⟨_,rfl,h.set (by simpa using ht) r⟩
 |[],ht,e=>exact gen [] ht e
 |i::j::t,ht,e=>exact gen (i::j::t) ht e
theorem Eu.drop {i:Nat}{v:V}{d:D}(h:Eu S X n0 base W ρ os σ) (r:Rep S (XW X W) n0 v d):Eu S X n0 base (λj=>if j=i then .none else W j) (ρ.set i (some v)) (os.filter (· != i)) (σ.set i (some d)):=by
 have sub:∀n,XW X (λj=>if j=i then none else W j) n->XW X W n:=λn z=>by
  rcases z with z | ⟨j,z⟩
  ·exact .inl z
  ·by_cases c:j=i
   ·simp only[c,NW] at z;cases z
   ·simp only[c,NF] at z;exact .inr ⟨j,z⟩
 have get:∀{j n:Nat},(if j=i then Option.none else W j)=some n->j≠i/\W j=some n:=λ{j n} z=>by
  by_cases c:j=i
  ·rw[Pj c] at z;cases z
  ·rw[Pm c] at z;exact⟨c,z⟩
 refine⟨h.xz,h.xb,h.bs,by rw[Pz,Pz];exact h.len,λj=>?_,λa b n x y=>h.inj a b n (get x).2 (get y).2,λj n z=>h.pl j n (get z).2,λj n z=>?_,λj w e z=>?_⟩
 ·by_cases c:j=i
  ·simp[c]
  ·simp only[c,NF]
   rw[<-h.osW j,P3,NB,NB,N1];simp[c]
 ·obtain⟨xs,a,b,c,e⟩:=h.own j n (get z).2
  have ij:i≠j:=Ne.symm (get z).1;exact⟨xs,by rw[Pk ij];exact a,b,by rw[Pk ij];exact c,e⟩
 ·rw[Nh] at e ⊢
  by_cases c:i=j
  ·rw[Pj c] at e ⊢
   by_cases l:i<ρ.length
   ·rw[Pj l] at e
    rw[Pj (by rw[<-h.len];exact l)]
    cases e;exact⟨d,rfl,r.mono (λ_ _ _ q=>q) λn _ q=>sub n q⟩
   ·rw[Pm l] at e;cases e
  ·rw[Pm c] at e ⊢
   rw[Pm (Ne.symm c)] at z;obtain⟨d',a,b⟩:=h.val j w e z;exact⟨d',a,b.mono (λ_ _ _ q=>q) λn _ q=>sub n q⟩
theorem Eu.take {S0:Za}{i n:Nat}{xs:List V}(h:Eu S0 X n0 base W ρ os σ) (e:Ext n0 S0 S) (hn:S0.length<=n) (hf:Zt xs=true) (r:Rep S (XW X W) n0 (.lst xs) (.loc n)) (hi:i<ρ.length) :
  Eu S X n0 base (λj=>if j=i then some n else W j) (ρ.set i (some (.lst xs))) (i::os.filter (· != i)) (σ.set i (some (.loc n))):=by
 obtain⟨n',ds,en,hs,hx,rs⟩:=r.lst';cases en;have ed:=YE hf rs;subst ed;have h1:=h.ext e;have sub:∀m,m<S0.length->XW X (λj=>if j=i then some n else W j) m->XW X W m:=λm hm z=>by
  rcases z with z | ⟨j,z⟩
  ·exact .inl z
  ·by_cases c:j=i
   ·simp only[c,NW] at z
    have:n=m:=Pa z;omega
   ·simp only[c,NF] at z;exact .inr ⟨j,z⟩
 have get:∀{j m:Nat},(if j=i then some n else W j)=some m->(j=i/\n=m)\/(j≠i/\W j=some m):=λ{j m} z=>by
  by_cases c:j=i
  ·rw[Pj c] at z;exact .inl ⟨c,Pa z⟩
  ·rw[Pm c] at z;exact .inr ⟨c,z⟩
 refine⟨h1.xz,h1.xb,h1.bs,by rw[Pz,Pz];exact h.len,λj=>?_,λa b m x y=>?_,λj m z=>?_,λj m z=>?_,λj w q z=>?_⟩
 ·by_cases c:j=i
  ·simp[c]
  ·simp only[c,NF]
   rw[<-h.osW j,P3,NB,NB,Pr,N1];simp[c]
 ·rcases get x with ⟨x1,x2⟩ | ⟨x1,x2⟩
  ·rcases get y with ⟨y1,y2⟩ | ⟨y1,y2⟩
   ·rw[x1,y1]
   ·exact absurd (.inr ⟨b,x2▸y2⟩) hx
  ·rcases get y with ⟨y1,y2⟩ | ⟨y1,y2⟩
   ·exact absurd (.inr ⟨a,y2▸x2⟩) hx
   ·exact h.inj a b m x2 y2
 ·rcases get z with ⟨z1,z2⟩ | ⟨z1,z2⟩
  ·have:=h.bs;omega
  ·exact h.pl j m z2
 ·rcases get z with ⟨z1,z2⟩ | ⟨z1,z2⟩
  ·subst z1 z2
   exact⟨xs,Pw hi,hf,Pw (by rw[<-h.len];exact hi),hs⟩
  ·obtain⟨ys,a,b,c,q⟩:=h1.own j m z2
   exact⟨ys,by rw[Pk (Ne.symm z1)];exact a,b,by rw[Pk (Ne.symm z1)];exact c,q⟩
 ·by_cases c:j=i
  ·rw[Pj c] at z;cases z
  ·rw[Pm c] at z
   rw[Pk (Ne.symm c)] at q ⊢;obtain⟨d,a,b⟩:=h.val j w q z;exact⟨d,a,b.mono (λm o nx hs=>e.keep m o (λq=>nx (q▸.inl h.xz)) hs) sub⟩
theorem Eu.mut {i n:Nat}{ys:List V}(h:Eu S X n0 base W ρ os σ) (hw:W i=some n) (hf:Zt ys=true):Eu (S.set n (.lst (Z5 ys))) X n0 base W (ρ.set i (some (.lst ys))) os σ:=by
 obtain⟨xs,a,b,c,e⟩:=h.own i n hw;have hi:i<ρ.length:=(Pc.mp a).1;refine⟨h.xz,h.xb,by rw[Pz];exact h.bs,by rw[Pz];exact h.len,h.osW,h.inj,h.pl,λj m z=>?_,λj w q z=>?_⟩
 ·by_cases k:i=j
  ·subst k
   rw[hw] at z;cases z;exact⟨ys,Pw hi,hf,c,Pw (Yl e)⟩
  ·obtain⟨zs,a',b',c',e'⟩:=h.own j m z
   exact⟨zs,by rw[Pk k];exact a',b',c',by rw[Pk (λq:n=m=>k (h.inj i j n hw (by rw[q];exact z)))];exact e'⟩
 ·have k:i≠j:=λk=>by rw[<-k,hw] at z;cases z
  rw[Pk k] at q;obtain⟨d,a',b'⟩:=h.val j w q z;exact⟨d,a',b'.mono (λm o nx hs=>by rw[Pk (λq:n=m=>nx (.inr ⟨i,by rw[<-q];exact hw⟩))];exact hs) λ_ _ q=>q⟩
end
structure ExtS (n0:Nat) (W:Own) (S S':Za):Prop where
 len:S.length<=S'.length
 keep:∀n o,n≠n0->(∀i,W i≠some n)->S[n]? = some o->S'[n]? = some o
def WExt (S:Za) (W W':Own):Prop:=∀i n,W' i=some n->(∃j,W j=some n)\/S.length<=n
theorem Ext.s {n0:Nat}{W:Own}{S S':Za}(h:Ext n0 S S'):ExtS n0 W S S':=⟨h.len,λn o a _ e=>h.keep n o a e⟩
theorem ExtS.trans {n0:Nat}{W W':Own}{S S1 S2:Za}(a:ExtS n0 W S S1) (w:WExt S W W') (b:ExtS n0 W' S1 S2):ExtS n0 W S S2:=⟨PY a.len b.len,λn o h z e=>b.keep n o h (λi q=>by
 rcases w i n q with ⟨j,q⟩ | q
 ·exact z j q
 ·exact absurd (Yl e) (by omega)) (a.keep n o h z e)⟩
theorem WExt.refl {S:Za}{W:Own}:WExt S W W:=λi n h=>.inl ⟨i,h⟩
theorem WExt.trans {S S1:Za}{W W1 W2:Own}(a:WExt S W W1) (l:S.length<=S1.length) (b:WExt S1 W1 W2):WExt S W W2:=λi n h=>by
 rcases b i n h with ⟨j,h⟩ | h
 ·exact a j n h
 ·exact .inr (PY l h)
def FlR (X:Nat->Prop) (n0 base:Nat) (S:Za) (W:Own) (S':Za):FlV->Fl->Prop
 |.nx ρ os,.nx σ=>∃W',WExt S W W'/\Eu S' X n0 base W' ρ os σ
 |.brk ρ os,.brk σ=>∃W',WExt S W W'/\Eu S' X n0 base W' ρ os σ
 |.cnt ρ os,.cnt σ=>∃W',WExt S W W'/\Eu S' X n0 base W' ρ os σ
 |.ret v,.ret d=>Rep S' X n0 v d
 |_,_=>False
def Zo (X:Nat->Prop) (n0 base:Nat) (S:Za) (W:Own) (r:R Fl) (q:PR FlV):Prop:=match q with
 |.no=>True
 |.ex c s'=>∃S',r=.ex c S'/\ExtS n0 W S S'/\Dw n0 S' s'
 |.ok f s'=>∃g S',r=.ok g S'/\ExtS n0 W S S'/\Dw n0 S' s'/\FlR X n0 base S W S' f g
section
variable {α β:Type}{S S':Za}{X:Nat->Prop}{n0 base:Nat}{W W':Own}{ρ:Env}{os:List Nat}{σ:Lc}
theorem FlR.from {S1:Za}{f:FlV}{g:Fl}(w:WExt S W W') (l:S.length<=S1.length) (h:FlR X n0 base S1 W' S' f g):FlR X n0 base S W S' f g:=by
 cases f with
 |nx ρ os=>cases g with
  |nx σ=>obtain⟨W2,a,b⟩:=h;exact⟨W2,w.trans l a,b⟩
  |_=>exact h.elim
 |brk ρ os=>cases g with
  |brk σ=>obtain⟨W2,a,b⟩:=h;exact⟨W2,w.trans l a,b⟩
  |_=>exact h.elim
 |cnt ρ os=>cases g with
  |cnt σ=>obtain⟨W2,a,b⟩:=h;exact⟨W2,w.trans l a,b⟩
  |_=>exact h.elim
 |ret v=>cases g with
  |ret d=>exact h
  |_=>exact h.elim
theorem Zo.from {S1:Za}{r:R Fl}{q:PR FlV}(x:ExtS n0 W S S1) (w:WExt S W W') (h:Zo X n0 base S1 W' r q):Zo X n0 base S W r q:=by
 cases q with
 |no=>exact True.intro
 |ex c s'=>obtain⟨S2,a,b,c⟩:=h;exact⟨S2,a,x.trans w b,c⟩
 |ok f s'=>obtain⟨g,S2,a,b,c,d⟩:=h;exact⟨g,S2,a,x.trans w b,c,FlR.from w x.len d⟩
theorem Zo.bindE {Rl:Za->β->α->Prop}{r:R α}{q:PR β}{f:α->Za->R Fl}{g:β->DS->PR FlV}(h:Sim n0 S Rl r q)
  (k:∀a b S' s',Ext n0 S S'->Dw n0 S' s'->Rl S' b a->Zo X n0 base S' W (f a S') (g b s')):Zo X n0 base S W (r.bind f) (q.bind g):=by
 cases q with
 |no=>exact True.intro
 |ex c s'=>obtain⟨S',e,x,w⟩:=h;rw[e];exact⟨S',rfl,x.s,w⟩
 |ok b s'=>
  obtain⟨a,S',e,x,w,rl⟩:=h;rw[e];exact Zo.from x.s WExt.refl (k a b S' s' x w rl)
theorem Zo.nx {s:DS}{σ':Lc}{ρ':Env}{os':List Nat}(w:Dw n0 S s) (hw:WExt S W W') (h:Eu S X n0 base W' ρ' os' σ'):Zo X n0 base S W (.ok (.nx σ') S) (.ok (.nx ρ' os') s):=⟨_,S,rfl,Ext.refl.s,w,W',hw,h⟩
end
section
variable {n0:Nat}{C:Calls}{CV:Zy}{X:Nat->Prop}{base:Nat}
theorem vY (H:ZI n0 C CV) (e:E) {W:Own}{ρ:Env}{os:List Nat}{σ:Lc}{S:Za}{s:DS}(he:Eu S X n0 base W ρ os σ) (w:Dw n0 S s):Sim n0 S (RlV (XW X W) n0) (ev C e σ S) (pvA CV e ρ os s):=by
 cases os with
 |nil=>
  have hh:Ew S (XW X W) n0 ρ σ:=⟨he.len,λi v q=>he.val i v q (he.noW i)⟩
  exact Zx H e he.xokW hh w
 |cons o os=>
  show Sim n0 S (RlV (XW X W) n0) (ev C e σ S) (match pv CV e (hide (o::os) ρ) s with
   |.ok v s=>.ok v s
   |.ex c s=>.ex c s
   |.no=>(pv CV e ρ s).bind λv s=>if v.flat then .ok v s else .no)
  have h1:=Zx H e he.xokW he.hid w;cases q:pv CV e (hide (o::os) ρ) s with
  |ok v s1=>rw[q] at h1;exact h1
  |ex c s1=>rw[q] at h1;exact h1
  |no=>
   have h2:=Zx H e he.xok he.all w;cases q2:pv CV e ρ s with
   |no=>exact True.intro
   |ex c s1=>rw[q2] at h2;exact h2
   |ok v s1=>
    rw[q2] at h2;show Sim n0 S (RlV (XW X W) n0) (ev C e σ S) (if v.flat=true then .ok v s1 else .no)
    by_cases c:v.flat=true
    ·rw[Pj c]
     obtain⟨d,S',a1,a2,a3,a4⟩:=h2;exact⟨d,S',a1,a2,a3,by rw[YX c a4];exact WR c⟩
    ·rw[Pm c];exact True.intro
theorem uf (H:ZI n0 C CV) (es:List E) {W:Own}{ρ:Env}{os:List Nat}{σ:Lc}{S:Za}{s:DS}(he:Eu S X n0 base W ρ os σ) (w:Dw n0 S s):Sim n0 S (yK (XW X W) n0) (evs C es σ S) (uc CV es ρ os s):=by
 cases os with
 |nil=>
  have hh:Ew S (XW X W) n0 ρ σ:=⟨he.len,λi v q=>he.val i v q (he.noW i)⟩
  exact Y2 H es he.xokW hh w
 |cons o os=>
  show Sim n0 S (yK (XW X W) n0) (evs C es σ S) ((pvs CV es ρ s).bind λv s=>if Zt v=true then .ok v s else .no)
  have h2:=Y2 H es he.xok he.all w;cases q2:pvs CV es ρ s with
  |no=>exact True.intro
  |ex c s1=>rw[q2] at h2;exact h2
  |ok v s1=>
   rw[q2] at h2;show Sim n0 S (yK (XW X W) n0) (evs C es σ S) (if Zt v=true then .ok v s1 else .no)
   by_cases c:Zt v=true
   ·rw[Pj c]
    obtain⟨d,S',a1,a2,a3,a4⟩:=h2;exact⟨d,S',a1,a2,a3,by rw[YE c a4];exact Y7 c⟩
   ·rw[Pm c];exact True.intro
theorem zi {α:Type}{r:R α}{a:α}{S:Za}(h:r.nox=.ok a S):r=.ok a S:=by
 cases r with
 |ok _ _=>exact h
 |ex _ _=>cases h
 |no=>cases h
theorem Vw (H:ZI n0 C CV) {e:E}(hf:fresh e=true) {ρ:Env}{σ:Lc}{S S':Za}{s s':DS}{xs:List V}{d:D}(xo:Xok X n0 S) (he:Ew S X n0 ρ σ) (w:Dw n0 S s) (q:pv CV e ρ s=.ok (.lst xs) s') (r:ev C e σ S=.ok d S'):∃n,d=.loc n/\S.length<=n:=by
 have bo:∀{α β:Type} {r:R α} {f:α->Za->R β} {b:β} {S':Za},r.bind f=.ok b S'->∃a S1,r=.ok a S1/\f a S1=.ok b S':=λ{α β r f b S'} h=>by
  cases r with
  |no=>cases h
  |ex _ _=>cases h
  |ok a S1=>exact⟨a,S1,rfl,h⟩
 have ifo:∀{α:Type} {P:Prop} [Decidable P] {r:R α} {b:α} {S':Za},(if P then r else .no)=.ok b S'->r=.ok b S':=λ{α P _ r b S'} h=>by
  by_cases c:P
  ·rw[Pj c] at h;exact h
  ·rw[Pm c] at h;cases h
 cases e with
 |lst es=>
  rw[pv] at q;obtain⟨vs,s1,q1,_⟩:=ZQ q;obtain⟨ds,S1,e1,x1,_,_⟩:=(Y2 H es xo he w).out q1;rw[ev,e1] at r;have r:=ifo (show (if ds.length<=lim then R.ok (D.loc S1.length) (S1++[.lst ds]) else .no)=.ok d S' from r)
  cases r;exact⟨_,rfl,x1.len⟩
 |comp1 cap nl t it ifs elt=>
  rw[pv] at q;by_cases c:own nl t=true
  ·rw[Pj c] at q
   obtain⟨vs,s1,q1,_⟩:=ZQ q;obtain⟨wk,S1,e1,x1,_,_⟩:=(Ga H it xo he w).out q1;rw[ev,e1] at r;obtain⟨_,_,ea,r⟩:=bo r;cases ea;obtain⟨_,S2,_,r⟩:=bo (zi r);cases r;exact⟨_,rfl,x1.len⟩
  ·rw[Pm c] at q;cases q
 |comp2 cap nl t it ifs u jt jfs elt=>
  rw[pv] at q;by_cases c:own2 nl t u=true
  ·rw[Pj c] at q
   obtain⟨vs,s1,q1,_⟩:=ZQ q;obtain⟨wk,S1,e1,x1,_,_⟩:=(Ga H it xo he w).out q1;rw[ev,e1] at r;obtain⟨_,_,ea,r⟩:=bo r;cases ea;obtain⟨_,S2,_,r⟩:=bo (zi r);cases r;exact⟨_,rfl,x1.len⟩
  ·rw[Pm c] at q;cases q
 |bin op a b=>
  cases op with
  |mul=>cases a with
   |lst es=>
    rw[pv] at q;obtain⟨x,s1,q1,q⟩:=ZQ q;obtain⟨y,s2,q2,q⟩:=ZQ q;obtain⟨dx,S1,e1,x1,w1,r1⟩:=(Zx H (.lst es) xo he w).out q1;obtain⟨dy,S2,e2,x2,w2,r2⟩:=(Zx H b (xo.ext x1) (he.ext xo x1) w1).out q2;rw[ev,e1] at r;have r:(ev C b σ S1).bind (λy S=>ZW .mul dx y S)=.ok d S':=r
    rw[e2] at r;have r:ZW .mul dx dy S2=.ok d S':=r;cases x with
    |lst us=>cases y with
     |int j=>
      obtain⟨n,ds,rfl,hs,_,_⟩:=Rep.lst' r1;cases Rep.int' r2;have hs2:=x2.keep n _ (λz=>?_) hs
      ·have r:(match Zc S2 n with
        |some a=>if 0<=j/\j<1000/\a.length<=1000 then R.ok (D.loc S2.length) (S2++[Ob.lst (List.replicate j.toNat a).flatten]) else .no
        |none=>.no)=.ok d S':=r
       rw[Zm hs2] at r;have r:=ifo (show (if 0<=j/\j<1000/\ds.length<=1000 then R.ok (D.loc S2.length) (S2++[Ob.lst (List.replicate j.toNat ds).flatten]) else .no)=.ok d S' from r)
       cases r;exact⟨_,rfl,PY x1.len x2.len⟩
      ·obtain⟨n',_,en,_,nx,_⟩:=Rep.lst' r1
       cases en;exact nx (z▸xo.z)
     |_=>cases q
    |tup us=>cases y with
     |int j=>
      have q:(if 0<=j/\j<1000/\us.length<=1000 then PR.ok (V.tup (List.replicate j.toNat us).flatten) s2 else .no)=.ok (.lst xs) s':=q
      by_cases c:0<=j/\j<1000/\us.length<=1000
      ·rw[Pj c] at q;cases q
      ·rw[Pm c] at q;cases q
     |_=>cases q
    |int i=>cases y with
     |int j=>
      have q:(if (fits i&&fits j)=true then PR.ok (V.int (i*j)) s2 else .no)=.ok (.lst xs) s':=q
      by_cases c:(fits i&&fits j)=true
      ·rw[Pj c] at q;cases q
      ·rw[Pm c] at q;cases q
     |_=>cases q
    |_=>cases y <;> cases q
   |_=>cases hf
  |_=>cases hf
 |blt f as=>
  cases f with
  |list=>
   rw[pv] at q;obtain⟨vs,s1,q1,q⟩:=ZQ q;obtain⟨ds,S1,e1,x1,w1,r1⟩:=(Y2 H as xo he w).out q1;rw[ev,e1] at r;have r:Z8 .list ds S1=.ok d S':=r
   match ds,r with
   |[z],r=>
    obtain⟨_,S2,r1,r⟩:=bo (show (ob (YA S1 z) S1).bind (λxs S=>R.ok (D.loc S.length) (S++[.lst xs]))=.ok d S' from r)
    cases q:YA S1 z with
    |none=>rw[q] at r1;cases r1
    |some _=>rw[q] at r1;cases r1;cases r;exact⟨_,rfl,x1.len⟩
  |sorted=>
   rw[pv] at q;obtain⟨vs,s1,q1,q⟩:=ZQ q;obtain⟨ds,S1,e1,x1,w1,r1⟩:=(Y2 H as xo he w).out q1;rw[ev,e1] at r;have r:Z8 .sorted ds S1=.ok d S':=r
   match ds,r with
   |[.loc z],r=>
    obtain⟨ys,S2,r1,r⟩:=bo (show (ob (Zc S1 z) S1).bind _=.ok d S' from r)
    cases q:Zc S1 z with
    |none=>rw[q] at r1;cases r1
    |some _=>
     rw[q] at r1;cases r1;have r:(if zY ys=true then sorted false z S1 else (ob (Yt ys) S1).bind λps S=>if Ys ps=true then .ok (.loc S.length) (S++[.lst ((Xb ltP ps).map Vp)]) else .no)=.ok d S':=r
     by_cases c:zY ys=true
     ·rw[Pj c] at r
      have r:(ob (Zc S1 z) S1).bind (λxs S=>(ob (Zz xs) S).bind λrs S=>if ZV rs=true then .ok (.loc S.length) (S++[.lst ((if false then (ZY rs).reverse else ZY rs).map Wq)]) else .no)=R.ok d S':=r
      rw[q] at r;obtain⟨rs,S3,r2,r⟩:=bo (show (ob (Zz ys) S1).bind _=R.ok d S' from r)
      cases q2:Zz ys with
      |none=>rw[q2] at r2;cases r2
      |some _=>
       rw[q2] at r2;cases r2;have r:=ifo r;cases r;exact⟨_,rfl,x1.len⟩
     ·rw[Pm c] at r
      obtain⟨rs,S3,r2,r⟩:=bo r;cases q2:Yt ys with
      |none=>rw[q2] at r2;cases r2
      |some _=>
       rw[q2] at r2;cases r2;have r:=ifo r;cases r;exact⟨_,rfl,x1.len⟩
  |_=>cases hf
 |_=>cases hf
end
theorem Y0:∀(a b:List V),Z5 (a++b)=Z5 a++Z5 b
 |[],b=>rfl
 |x::a,b=>by rw[List.cons_append];show toD x::Z5 (a++b)=_;rw[Y0 a b];rfl
theorem YN:∀{a b:List V},Zt a=true->Zt b=true->Zt (a++b)=true
 |[],b,_,h=>h
 |x::a,b,h,h'=>by
  unfold Zt at h;obtain⟨h1,h2⟩:=(Ph _ _).mp h;show (x.flat&&Zt (a++b))=true;rw[h1,YN h2 h'];rfl
theorem UR:∀(a:List V) (j:Nat) (v:V),Z5 (a.set j v)=(Z5 a).set j (toD v)
 |[],_,_=>rfl
 |x::a,0,v=>rfl
 |x::a,j+1,v=>by show toD x::Z5 (a.set j v)=toD x::(Z5 a).set j (toD v);rw[UR a j v]
theorem Vu:∀{a:List V}{j:Nat}{v:V},Zt a=true->v.flat=true->Zt (a.set j v)=true
 |[],_,_,h,_=>h
 |x::a,0,v,h,h'=>by
  unfold Zt at h;obtain⟨h1,h2⟩:=(Ph _ _).mp h;show (v.flat&&Zt a)=true;rw[h',h2];rfl
 |x::a,j+1,v,h,h'=>by
  unfold Zt at h;obtain⟨h1,h2⟩:=(Ph _ _).mp h;show (x.flat&&Zt (a.set j v))=true;rw[h1,Vu h2 h'];rfl
theorem Z9:∀a:List V,(Z5 a).length=a.length
 |[]=>rfl
 |x::a=>by show (Z5 a).length+1=_;rw[Z9 a];rfl
theorem Q4 {C:Calls}{e:E}{σ:Lc}{S:Za}:evs C [e] σ S=(ev C e σ S).bind λx S=>.ok [x] S:=by
 rw[evs];rfl
section
variable {n0:Nat}{C:Calls}{CV:Zy}{X:Nat->Prop}{base:Nat}{W:Own}{ρ:Env}{os:List Nat}{σ:Lc}{S:Za}{s:DS}
theorem Eu.at (h:Eu S X n0 base W ρ os σ) {i:Nat}(hi:os.contains i=true):∃n xs,W i=some n/\ρ[i]? = some (some (.lst xs))/\Zt xs=true/\σ[i]? = some (some (.loc n))/\S[n]? = some (.lst (Z5 xs)):=by
 rw[h.osW] at hi;obtain⟨n,hn⟩:=Nc.mp hi;obtain⟨xs,a,b,c,d⟩:=h.own i n hn;exact⟨n,xs,hn,a,b,c,d⟩
theorem xG {n:Nat}{o:Ob}{i:Nat}(hw:W i=some n):ExtS n0 W S (S.set n o):=⟨by simp,λm o' _ z e=>by rw[Pk (λq:n=m=>z i (by rw[<-q];exact hw))];exact e⟩
theorem Zo.mutd {i n:Nat}{ys:List V}(he:Eu S X n0 base W ρ os σ) (w:Dw n0 S s) (hw:W i=some n) (hf:Zt ys=true):Zo X n0 base S W (.ok (.nx σ) (S.set n (.lst (Z5 ys)))) (.ok (.nx (ρ.set i (some (.lst ys))) os) s):=
 ⟨_,_,rfl,xG hw,⟨by rw[Pk (he.ne hw)];exact w.1,w.2⟩,W,WExt.refl,he.mut hw hf⟩
theorem xB {op:Bop}{x y z:V}{s s':DS}(h:Gc op x y s=.ok z s'):∃i,z=.int i:=by
 cases x with
 |int i=>cases y with
  |int j=>
   have ifo:∀{P:Prop} [Decidable P] {k:Int} ,(if P then PR.ok (V.int k) s else .no)=.ok z s'->∃i,z=.int i:=λ{P _ k} h=>by
    by_cases c:P
    ·rw[Pj c] at h;cases h;exact⟨_,rfl⟩
    ·rw[Pm c] at h;cases h
   cases op with
   |add=>cases h;exact⟨_,rfl⟩
   |sub=>cases h;exact⟨_,rfl⟩
   |mul=>exact ifo h
   |fdiv=>exact ifo h
   |mod=>exact ifo h
   |pow=>exact ifo h
  |_=>cases h
 |_=>cases h
theorem zg (H:ZI n0 C CV) (e:E) (he:Eu S X n0 base W ρ os σ) (w:Dw n0 S s):Sim n0 S RlE (tst C e σ S) (UI CV e ρ s):=by
 refine (Zx H e he.xok he.all w).bind λd v S1 s1 x1 w1 r1=>?_
 cases q:ZU v with
 |none=>exact True.intro
 |some b=>rw[Yk r1 q];exact Sim.ok w1 rfl
theorem x5 (H:ZI n0 C CV) (e:E) (he:Eu S X n0 base W ρ os σ) (w:Dw n0 S s):Zo X n0 base S W ((ev C e σ S).bind λ_ S=>.ok (.nx σ) S) ((pv CV e ρ s).bind λ_ s=>.ok (.nx ρ os) s):=
 Zo.bindE (Zx H e he.xok he.all w) λd v S1 s1 x1 w1 r1=>Zo.nx w1 WExt.refl (he.ext x1)
theorem Qe (H:ZI n0 C CV) (i:Nat) (e:E) (he:Eu S X n0 base W ρ os σ) (w:Dw n0 S s):Zo X n0 base S W ((ev C (.mt .append (.v i) [e]) σ S).bind λ_ S=>.ok (.nx σ) S)
  (if os.contains i=true then (po (YR ρ[i]?) s).bind λxs s=>(pv CV e ρ s).bind λv s=>if v.flat=true/\xs.length<lim then .ok (.nx (ρ.set i (some (.lst (xs++[v])))) os) s else .no else .no):=by
 by_cases c:os.contains i=true
 ·rw[Pj c]
  obtain⟨n,xs,hw,a1,a2,a3,a4⟩:=he.at c;have e0:YR ρ[i]? = some xs:=by rw[a1];rfl
  rw[e0];show Zo X n0 base S W _ ((pv CV e ρ s).bind _);have e1:(ev C (.mt .append (.v i) [e]) σ S).bind (λ_ S=>R.ok (Fl.nx σ) S)=(ev C e σ S).bind λd S=>(X0 .append (.loc n) [d] S).bind λ_ S=>.ok (.nx σ) S:=by
   rw[ev,ev,a3];show R.bind (if UC S (.loc n)=true then _ else _) _=_
   rw[Pj (by show (Zc S n).isSome=true;rw[Zm a4];rfl),Q4]
   cases ev C e σ S <;> rfl
  rw[e1];refine Zo.bindE (Zx H e he.xok he.all w) λd v S1 s1 x1 w1 r1=>?_
  have he1:=he.ext x1;have a5:=x1.keep n _ (he.ne hw) a4;by_cases c2:v.flat=true/\xs.length<lim
  ·rw[Pj c2]
   have hm:X0 .append (.loc n) [d] S1=.ok .non (S1.set n (.lst (Z5 xs++[d]))):=by
    show R.bind (ob (Zc S1 n) S1) _=_;rw[Zm a5];show (if (Z5 xs).length<lim then _ else _)=_
    rw[Pj (by rw[Z9];exact c2.2)]
   rw[hm];have:=Zo.mutd (ys:=xs++[v]) he1 w1 hw (YN a2 (by show (v.flat&&true)=true;rw[c2.1];rfl))
   rw[Y0] at this;rw[YX c2.1 r1];exact this
  ·rw[Pm c2];exact True.intro
 ·rw[Pm c];exact True.intro
theorem QC (H:ZI n0 C CV) (i:Nat) (e:E) (he:Eu S X n0 base W ρ os σ) (w:Dw n0 S s):Zo X n0 base S W ((ev C (.mt .extend (.v i) [e]) σ S).bind λ_ S=>.ok (.nx σ) S)
  (if os.contains i=true then (po (YR ρ[i]?) s).bind λxs s=>(pv CV e (hide os ρ) s).bind λv s=>match v with
   |.lst ys=>if Zt ys=true/\xs.length+ys.length<=lim then .ok (.nx (ρ.set i (some (.lst (xs++ys)))) os) s else .no
   |_=>.no
  else .no):=by
 by_cases c:os.contains i=true
 ·rw[Pj c]
  obtain⟨n,xs,hw,a1,a2,a3,a4⟩:=he.at c;have e0:YR ρ[i]? = some xs:=by rw[a1];rfl
  rw[e0];show Zo X n0 base S W _ ((pv CV e (hide os ρ) s).bind _);have e1:(ev C (.mt .extend (.v i) [e]) σ S).bind (λ_ S=>R.ok (Fl.nx σ) S)=(ev C e σ S).bind λd S=>(X0 .extend (.loc n) [d] S).bind λ_ S=>.ok (.nx σ) S:=by
   rw[ev,ev,a3];show R.bind (if UC S (.loc n)=true then _ else _) _=_
   rw[Pj (by show (Zc S n).isSome=true;rw[Zm a4];rfl),Q4]
   cases ev C e σ S <;> rfl
  rw[e1];refine Zo.bindE (Zx H e he.xokW he.hid w) λd v S1 s1 x1 w1 r1=>?_
  have he1:=he.ext x1;have a5:=x1.keep n _ (he.ne hw) a4;cases v with
  |lst ys=>
   obtain⟨k,ds,rfl,hs,hx,rs⟩:=Rep.lst' r1;show Zo X n0 base S1 W _ (if Zt ys=true/\xs.length+ys.length<=lim then .ok (.nx (ρ.set i (some (.lst (xs++ys)))) os) s1 else .no)
   by_cases c2:Zt ys=true/\xs.length+ys.length<=lim
   ·rw[Pj c2]
    have ed:=YE c2.1 rs;subst ed;have hm:X0 .extend (.loc n) [.loc k] S1=.ok .non (S1.set n (.lst (Z5 xs++Z5 ys))):=by
     show (if n=k then R.no else (ob (Zc S1 n) S1).bind λxs S=>(ob (Zc S k) S).bind λys S=>if xs.length+ys.length<=lim then R.ok D.non (S.set n (.lst (xs++ys))) else .no)=_
     rw[Pm (λz:n=k=>hx (.inr ⟨i,by rw[<-z];exact hw⟩)),Zm a5]
     show R.bind (ob (Zc S1 k) S1) _=_;rw[Zm hs];show (if (Z5 xs).length+(Z5 ys).length<=lim then _ else _)=_
     rw[Pj (by rw[Z9,Z9];exact c2.2)]
    rw[hm];have:=Zo.mutd (ys:=xs++ys) he1 w1 hw (YN a2 c2.1);rw[Y0] at this;exact this
   ·rw[Pm c2];exact True.intro
  |_=>exact True.intro
 ·rw[Pm c];exact True.intro
theorem xi (H:ZI n0 C CV) (i:Nat) (k e:E) (he:Eu S X n0 base W ρ os σ) (w:Dw n0 S s):Zo X n0 base S W ((ev C e σ S).bind λv S=>(ev C (.v i) σ S).bind λx S=>(ev C k σ S).bind λy S=>(Wj x y v S).bind λ_ S=>.ok (.nx σ) S)
  (if os.contains i then (pv CV e ρ s).bind λv s=>if v.flat then (po (YR ρ[i]?) s).bind λxs s=>(pv CV k ρ s).bind λy s=>match y with
   |.int n=>(po (ixN xs.length n) s).bind λj s=>.ok (.nx (ρ.set i (some (.lst (xs.set j v)))) os) s
   |_=>.no
  else .no else .no):=by
 by_cases c:os.contains i=true
 ·rw[Pj c]
  obtain⟨n,xs,hw,a1,a2,a3,a4⟩:=he.at c;refine Zo.bindE (Zx H e he.xok he.all w) λd v S1 s1 x1 w1 r1=>?_
  have he1:=he.ext x1;have a5:=x1.keep n _ (he.ne hw) a4;by_cases c2:v.flat=true
  ·rw[Pj c2]
   have e0:YR ρ[i]? = some xs:=by rw[a1];rfl
   rw[e0,ev,a3];show Zo X n0 base S1 W ((ev C k σ S1).bind λy S=>(Wj (.loc n) y d S).bind λ_ S=>.ok (.nx σ) S) ((pv CV k ρ s1).bind _)
   refine Zo.bindE (Zx H k he1.xok he1.all w1) λdk vk S2 s2 x2 w2 r2=>?_
   have he2:=he1.ext x2;have a6:=x2.keep n _ (he.ne hw) a5;cases vk with
   |int m=>
    cases Rep.int' r2;show Zo X n0 base S2 W ((Wj (.loc n) (.int m) d S2).bind _) ((po (ixN xs.length m) s2).bind _);cases q:ixN xs.length m with
    |none=>exact True.intro
    |some j=>
     have hm:Wj (.loc n) (.int m) d S2=.ok () (S2.set n (.lst ((Z5 xs).set j d))):=by
      show (match S2[n]? with
       |some (.lst xs)=>(ob (ixN xs.length m) S2).bind λj S=>R.ok () (S.set n (.lst (xs.set j d)))
       |_=>.no)=_
      rw[a6];show (ob (ixN (Z5 xs).length m) S2).bind _=_;rw[Z9,q];rfl
     rw[hm];have:=Zo.mutd (ys:=xs.set j v) he2 w2 hw (Vu a2 c2);rw[UR] at this;rw[YX c2 r1];exact this
   |_=>exact True.intro
  ·rw[Pm c2];exact True.intro
 ·rw[Pm c];exact True.intro
theorem yc (H:ZI n0 C CV) (ms:List Nat) (i:Nat) (e:E) (he:Eu S X n0 base W ρ os σ) (w:Dw n0 S s):Zo X n0 base S W ((ev C e σ S).bind λx S=>(ob (assign [i] x S σ) S).bind λσ S=>.ok (.nx σ) S)
  ((pvA CV e ρ os s).bind λv s=>if (ms.contains i&&fresh e)=true then match v with
   |.lst xs=>if Zt xs=true/\i<ρ.length then .ok (.nx (ρ.set i (some v)) (i::os.filter (· != i))) s else .no
   |_=>.no
  else .ok (.nx (ρ.set i (some v)) (os.filter (· != i))) s):=by
 have hA:=vY H e he w;cases q:pvA CV e ρ os s with
 |no=>exact True.intro
 |ex c s1=>rw[q] at hA;obtain⟨S1,e1,x1,w1⟩:=hA;rw[e1];exact⟨S1,rfl,x1.s,w1⟩
 |ok v s1=>
  rw[q] at hA;obtain⟨d,S1,e1,x1,w1,r1⟩:=hA;rw[e1];show Zo X n0 base S W (.ok (.nx (σ.set i (some d))) S1) (if (ms.contains i&&fresh e)=true then _ else _)
  by_cases c:(ms.contains i&&fresh e)=true
  ·rw[Pj c]
   cases v with
   |lst xs=>
    show Zo X n0 base S W _ (if Zt xs=true/\i<ρ.length then _ else _)
    by_cases c2:Zt xs=true/\i<ρ.length
    ·rw[Pj c2]
     obtain⟨c2,hi⟩:=c2;have hf:=((Ph _ _).mp c).2;have fl:∃n,d=.loc n/\S.length<=n:=by
      cases os with
      |nil=>
       have hh:Ew S (XW X W) n0 ρ σ:=⟨he.len,λi v q=>he.val i v q (he.noW i)⟩
       exact Vw H hf he.xokW hh w q e1
      |cons o os=>
       have q':(match pv CV e (hide (o::os) ρ) s with
        |.ok v s=>.ok v s
        |.ex c s=>.ex c s
        |.no=>(pv CV e ρ s).bind λv s=>if v.flat then .ok v s else .no)=PR.ok (V.lst xs) s1:=q
       cases q3:pv CV e (hide (o::os) ρ) s with
       |ok v s2=>rw[q3] at q';cases q';exact Vw H hf he.xokW he.hid w q3 e1
       |ex _ _=>rw[q3] at q';cases q'
       |no=>
        rw[q3] at q';obtain⟨v,s2,_,q5⟩:=ZQ q';by_cases cf:v.flat=true
        ·rw[Pj cf] at q5;cases q5;cases cf
        ·rw[Pm cf] at q5;cases q5
     obtain⟨n,rfl,hn⟩:=fl;refine⟨_,S1,rfl,x1.s,w1,_,?_,he.take x1 hn c2 r1 hi⟩;intro j m z;by_cases cj:j=i
     ·simp only[cj,NW] at z;cases z;exact .inr hn
     ·simp only[cj,NF] at z;exact .inl ⟨j,z⟩
    ·rw[Pm c2];exact True.intro
   |_=>exact True.intro
  ·rw[Pm c]
   refine⟨_,S1,rfl,x1.s,w1,_,?_,(he.ext x1).drop r1⟩;intro j m z;by_cases cj:j=i
   ·simp only[cj,NW] at z;cases z
   ·simp only[cj,NF] at z;exact .inl ⟨j,z⟩
end
section
variable {n0:Nat}{C:Calls}{CV:Zy}{X:Nat->Prop}{base:Nat}
theorem U8 {wk:Walk}{S0:Za}{W0:Own}{body:D->Lc->Za->R Fl}{bodyV:V->Env->List Nat->DS->PR FlV}
  (hk:∀p∈wk.kept,S0[p.1]? = some (.lst p.2)/\¬XW X W0 p.1) (z0:X n0)
  (hb:∀x d S W ρ os σ s,Eu S X n0 base W ρ os σ->Dw n0 S s->Rep S X n0 x d->Zo X n0 base S W (body d σ S) (bodyV x ρ os s)) :
  ∀(vs:List V) (ds:List D) (S:Za) (W:Own) (ρ:Env) (os:List Nat) (σ:Lc) (s:DS),Rq S0 (XW X W0) n0 vs ds->ExtS n0 W0 S0 S->WExt S0 W0 W->Eu S X n0 base W ρ os σ->Dw n0 S s->Zo X n0 base S W (Yr wk body ds σ S) (UT bodyV vs ρ os s)
 |[],ds,S,W,ρ,os,σ,s,rs,x,wx,he,w=>by
  rw[rs.nil',Yr,UT,Pj (Xw λp hp=>x.keep _ _ (λz=>(hk p hp).2 (.inl (z▸z0))) (λi z=>(hk p hp).2 (.inr ⟨i,z⟩)) (hk p hp).1)]
  exact Zo.nx w WExt.refl he
 |v::vs,ds,S,W,ρ,os,σ,s,rs,x,wx,he,w=>by
  obtain⟨d,ds,rfl,r1,r2⟩:=rs.cons';rw[Yr,UT,Pj (Xw λp hp=>x.keep _ _ (λz=>(hk p hp).2 (.inl (z▸z0))) (λi z=>(hk p hp).2 (.inr ⟨i,z⟩)) (hk p hp).1)]
  have r1':Rep S X n0 v d:=r1.mono (λn o nx hs=>x.keep n o (λz=>nx (.inl (z▸z0))) (λi z=>nx (.inr ⟨i,z⟩)) hs) λn _ z=>.inl z
  have h1:=hb v d S W ρ os σ s he w r1';cases q:bodyV v ρ os s with
  |no=>exact True.intro
  |ex c s1=>rw[q] at h1;obtain⟨S1,e,x1,w1⟩:=h1;rw[e];exact⟨S1,rfl,x1,w1⟩
  |ok f s1=>
   rw[q] at h1;obtain⟨g,S1,e,x1,w1,fr⟩:=h1;rw[e];cases f with
   |nx ρ1 os1=>cases g with
    |nx σ1=>
     obtain⟨W1,wx1,he1⟩:=fr;exact Zo.from x1 wx1 (U8 hk z0 hb vs ds S1 W1 ρ1 os1 σ1 s1 r2 (x.trans wx x1) (wx.trans x.len wx1) he1 w1)
    |_=>exact fr.elim
   |cnt ρ1 os1=>cases g with
    |cnt σ1=>
     obtain⟨W1,wx1,he1⟩:=fr;exact Zo.from x1 wx1 (U8 hk z0 hb vs ds S1 W1 ρ1 os1 σ1 s1 r2 (x.trans wx x1) (wx.trans x.len wx1) he1 w1)
    |_=>exact fr.elim
   |brk ρ1 os1=>cases g with
    |brk σ1=>exact⟨_,S1,rfl,x1,w1,fr⟩
    |_=>exact fr.elim
   |ret v1=>cases g with
    |ret d1=>exact⟨_,S1,rfl,x1,w1,fr⟩
    |_=>exact fr.elim
theorem WP {test:Lc->Za->R Bool}{testV:Env->DS->PR Bool}{body:Lc->Za->R Fl}{bodyV:Env->List Nat->DS->PR FlV}
  (ht:∀S W ρ os σ s,Eu S X n0 base W ρ os σ->Dw n0 S s->Sim n0 S RlE (test σ S) (testV ρ s))
  (hb:∀S W ρ os σ s,Eu S X n0 base W ρ os σ->Dw n0 S s->Zo X n0 base S W (body σ S) (bodyV ρ os s)) :
  ∀(n:Nat) (S:Za) (W:Own) (ρ:Env) (os:List Nat) (σ:Lc) (s:DS),Eu S X n0 base W ρ os σ->Dw n0 S s->Zo X n0 base S W (Xf test body n σ S) (XH testV bodyV n ρ os s)
 |0,S,W,ρ,os,σ,s,he,w=>by rw[XH];exact True.intro
 |n+1,S,W,ρ,os,σ,s,he,w=>by
  rw[Xf,XH];refine Zo.bindE (ht S W ρ os σ s he w) λb' b S1 s1 x1 w1 r1=>?_
  have r1:b'=b:=r1;subst r1;have he1:=he.ext x1;cases b' with
  |false=>exact Zo.nx w1 WExt.refl he1
  |true=>
   have h1:=hb S1 W ρ os σ s1 he1 w1;show Zo X n0 base S1 W (match body σ S1 with
    |.ok (.nx σ') S'=>Xf test body n σ' S'
    |.ok (.cnt σ') S'=>Xf test body n σ' S'
    |.ok (.brk σ') S'=>.ok (.nx σ') S'
    |.ok (.ret d) S'=>.ok (.ret d) S'
    |.ex c S'=>.ex c S'
    |.no=>.no) ((bodyV ρ os s1).bind _)
   cases q:bodyV ρ os s1 with
   |no=>exact True.intro
   |ex c s2=>rw[q] at h1;obtain⟨S2,e,x2,w2⟩:=h1;rw[e];exact⟨S2,rfl,x2,w2⟩
   |ok f s2=>
    rw[q] at h1;obtain⟨g,S2,e,x2,w2,fr⟩:=h1;rw[e];cases f with
    |nx ρ1 os1=>cases g with
     |nx σ1=>obtain⟨W1,wx1,he2⟩:=fr;exact Zo.from x2 wx1 (WP ht hb n S2 W1 ρ1 os1 σ1 s2 he2 w2)
     |_=>exact fr.elim
    |cnt ρ1 os1=>cases g with
     |cnt σ1=>obtain⟨W1,wx1,he2⟩:=fr;exact Zo.from x2 wx1 (WP ht hb n S2 W1 ρ1 os1 σ1 s2 he2 w2)
     |_=>exact fr.elim
    |brk ρ1 os1=>cases g with
     |brk σ1=>exact⟨_,S2,rfl,x2,w2,fr⟩
     |_=>exact fr.elim
    |ret v1=>cases g with
     |ret d1=>exact⟨_,S2,rfl,x2,w2,fr⟩
     |_=>exact fr.elim
mutual
theorem u3 (H:ZI n0 C CV) (ms:List Nat):∀(m:Sm) {W:Own}{ρ:Env}{os:List Nat}{σ:Lc}{S:Za}{s:DS},Eu S X n0 base W ρ os σ->Dw n0 S s->Zo X n0 base S W (run C m σ S) (rv CV ms m ρ os s)
 |.asg t e,W,ρ,os,σ,S,s,he,w=>by
  rw[run];have gen:∀t:List Nat,Zo X n0 base S W ((ev C e σ S).bind λx S=>(ob (assign t x S σ) S).bind λσ S=>.ok (.nx σ) S) ((pvA CV e ρ os s).bind λv s=>if (t.any os.contains)=true then .no else (po (Zv t v ρ) s).bind λρ s=>.ok (.nx ρ os) s):=by
   intro t;refine Zo.bindE (vY H e he w) λd v S1 s1 x1 w1 r1=>?_
   by_cases c:(t.any os.contains)=true
   ·rw[Pj c];exact True.intro
   ·rw[Pm c]
    cases q:Zv t v ρ with
    |none=>exact True.intro
    |some ρ1=>
     obtain⟨σ1,e1,he1⟩:=(he.ext x1).assign (by simpa using c) r1 q
     rw[e1];exact Zo.nx w1 WExt.refl he1
  match t with
  |[i]=>exact yc H ms i e he w
  |[]=>exact gen []
  |i::j::t=>exact gen (i::j::t)
 |.par t es,W,ρ,os,σ,S,s,he,w=>by
  rw[run,rv];refine Zo.bindE (uf H es he w) λds vs S1 s1 x1 w1 r1=>?_
  by_cases c:(t.any os.contains)=true
  ·rw[Pj c];exact True.intro
  ·rw[Pm c]
   cases q:Z6 t vs ρ with
   |none=>exact True.intro
   |some ρ1=>
    obtain⟨σ1,e1,he1⟩:=(he.ext x1).fill (by simpa using c) r1 q
    rw[e1];exact Zo.nx w1 WExt.refl he1
 |.aug i op e,W,ρ,os,σ,S,s,he,w=>by
  rw[run,rv];by_cases c:os.contains i=true
  ·rw[Pj c];exact True.intro
  ·rw[Pm c]
   cases q:(ρ[i]?).join with
   |none=>exact True.intro
   |some x=>
    have q':ρ[i]? = some (some x):=by
     cases q2:ρ[i]? with
     |none=>rw[q2] at q;cases q
     |some o=>rw[q2] at q;have q:o=some x:=q;rw[q]
    obtain⟨d,e1,r1⟩:=he.all.val i x q';rw[e1];show Zo X n0 base S W ((ev C e σ S).bind λy S=>(Wm op d y S).bind λz S=>.ok (.nx (σ.set i (some z))) S) ((pv CV e ρ s).bind λy s=>(Gc op x y s).bind λz s=>.ok (.nx (ρ.set i (some z)) os) s)
    refine Zo.bindE (Zx H e he.xok he.all w) λdy y S1 s1 x1 w1 r2=>?_
    have he1:=he.ext x1;have hs:=xk (op:=op) he1.xok w1 (r1.ext he.xok x1) r2;cases q3:Gc op x y s1 with
    |no=>exact True.intro
    |ex c s2=>rw[q3] at hs;obtain⟨S2,e2,x2,w2⟩:=hs;rw[e2];exact⟨S2,rfl,x2.s,w2⟩
    |ok z s2=>
     rw[q3] at hs;obtain⟨dz,S2,e2,x2,w2,r3⟩:=hs;obtain⟨k,rfl⟩:=xB q3;cases Rep.int' r3;rw[e2];exact Zo.from x2.s WExt.refl (Zo.nx w2 WExt.refl ((he1.ext x2).set (by simpa using c) (Zf k)))
 |.put o k e,W,ρ,os,σ,S,s,he,w=>by
  rw[run];cases o with
  |v i=>exact xi H i k e he w
  |_=>exact True.intro
 |.dput _ _ _,W,ρ,os,σ,S,s,he,w=>by rw[rv];exact True.intro
 |.ret e,W,ρ,os,σ,S,s,he,w=>by
  rw[run,rv];exact Zo.bindE (Zx H e he.xok he.all w) λd v S1 s1 x1 w1 r1=>⟨_,S1,rfl,Ext.refl.s,w1,r1⟩
 |.ex e,W,ρ,os,σ,S,s,he,w=>by
  rw[run];cases e with
  |mt m o as=>
   have no:∀{q:PR FlV},q=(pv CV (.mt m o as) ρ s).bind (λ_ s=>.ok (.nx ρ os) s)->Zo X n0 base S W ((ev C (.mt m o as) σ S).bind λ_ S=>.ok (.nx σ) S) q:=λ{q} h=>by rw[h];exact x5 H _ he w
   cases m with
   |append=>cases o with
    |v i=>match as with
     |[e]=>exact Qe H i e he w
     |[]=>exact no rfl
     |_::_::_=>exact no rfl
    |_=>exact no rfl
   |extend=>cases o with
    |v i=>match as with
     |[e]=>exact QC H i e he w
     |[]=>exact no rfl
     |_::_::_=>exact no rfl
    |_=>exact no rfl
   |index=>exact no rfl
  |_=>exact x5 H _ he w
 |.ite t a b,W,ρ,os,σ,S,s,he,w=>by
  rw[run,rv];refine Zo.bindE (zg H t he w) λc' c S1 s1 x1 w1 r1=>?_
  have r1:c'=c:=r1;subst r1;cases c' with
  |true=>exact X5 H ms a (he.ext x1) w1
  |false=>exact X5 H ms b (he.ext x1) w1
 |.forr t it b,W,ρ,os,σ,S,s,he,w=>by
  rw[run,rv];refine Zo.bindE (Ga H it he.xokW he.hid w) λwk vs S1 s1 x1 w1 r1=>?_
  have he1:=he.ext x1;refine U8 (W0:=W) (S0:=S1) (λp hp=>r1.2 p hp) he.xz (λx d S W ρ os σ s he w r=>?_) vs wk.items S1 W ρ os σ s1 r1.1 Ext.refl.s WExt.refl he1 w1
  by_cases c:(t.any os.contains)=true
  ·rw[Pj c];exact True.intro
  ·rw[Pm c]
   by_cases c2:(os.isEmpty||x.flat)=true
   ·rw[Pj c2]
    have r':Rep S (XW X W) n0 x d:=by
     rcases (N6 _ _).mp c2 with c3 | c3
     ·have:os=[]:=by simpa using c3
      subst this;exact r.mono (λ_ _ _ z=>z) λn _ z=>z.elim id λ⟨i,z⟩=>by rw[he.noW i] at z;cases z
     ·rw[YX c3 r];exact WR c3
    cases q:Zv t x ρ with
    |none=>exact True.intro
    |some ρ1=>
     obtain⟨σ1,e1,he2⟩:=he.assign (by simpa using c) r' q
     rw[e1];exact X5 H ms b he2 w
   ·rw[Pm c2];exact True.intro
 |.whl t b,W,ρ,os,σ,S,s,he,w=>by
  rw[run,rv];exact WP (λS W ρ os σ s he w=>zg H t he w) (λS W ρ os σ s he w=>X5 H ms b he w) W5 S W ρ os σ s he w
 |.raise c as,W,ρ,os,σ,S,s,he,w=>by
  rw[run,rv];exact Zo.bindE (Y2 H as he.xok he.all w) λd v S1 s1 x1 w1 r1=>⟨S1,rfl,Ext.refl.s,w1⟩
 |.pas,W,ρ,os,σ,S,s,he,w=>by rw[run,rv];exact Zo.nx w WExt.refl he
 |.brk,W,ρ,os,σ,S,s,he,w=>by rw[run,rv];exact⟨_,S,rfl,Ext.refl.s,w,W,WExt.refl,he⟩
 |.cnt,W,ρ,os,σ,S,s,he,w=>by rw[run,rv];exact⟨_,S,rfl,Ext.refl.s,w,W,WExt.refl,he⟩
theorem X5 (H:ZI n0 C CV) (ms:List Nat):∀(l:List Sm) {W:Own}{ρ:Env}{os:List Nat}{σ:Lc}{S:Za}{s:DS},Eu S X n0 base W ρ os σ->Dw n0 S s->Zo X n0 base S W (runs C l σ S) (rvs CV ms l ρ os s)
 |[],W,ρ,os,σ,S,s,he,w=>by rw[runs,rvs];exact Zo.nx w WExt.refl he
 |m::l,W,ρ,os,σ,S,s,he,w=>by
  rw[runs,rvs];have h1:=u3 H ms m he w;cases q:rv CV ms m ρ os s with
  |no=>exact True.intro
  |ex c s1=>rw[q] at h1;obtain⟨S1,e,x1,w1⟩:=h1;rw[e];exact⟨S1,rfl,x1,w1⟩
  |ok f s1=>
   rw[q] at h1;obtain⟨g,S1,e,x1,w1,fr⟩:=h1;rw[e];cases f with
   |nx ρ1 os1=>cases g with
    |nx σ1=>obtain⟨W1,wx1,he1⟩:=fr;exact Zo.from x1 wx1 (X5 H ms l he1 w1)
    |_=>exact fr.elim
   |cnt ρ1 os1=>cases g with
    |cnt σ1=>exact⟨_,S1,rfl,x1,w1,fr⟩
    |_=>exact fr.elim
   |brk ρ1 os1=>cases g with
    |brk σ1=>exact⟨_,S1,rfl,x1,w1,fr⟩
    |_=>exact fr.elim
   |ret v1=>cases g with
    |ret d1=>exact⟨_,S1,rfl,x1,w1,fr⟩
    |_=>exact fr.elim
end
end
noncomputable def XS:Fn:=⟨2,4,
 [.ite (.ix (.v 0) (.c (.int 1))) [.asg [2] (.bin .mod (.ix (.v 0) (.c (.int 0))) (.v 1)),
  .put (.v 0) (.c (.int 0)) (.bin .fdiv (.ix (.v 0) (.c (.int 0))) (.v 1)),
  .ret (.v 2)] [],
  .put (.v 0) (.c (.int 0)) (.bin .mod (.bin .add (.bin .mul (.ix (.v 0) (.c (.int 0))) (.c (.int 48271))) (.c (.int 29))) (.c (.int 2147483647))),
  .asg [3] (.bin .mod (.bin .add (.bin .add (.bin .mul (.ix (.v 0) (.c (.int 0))) (.ix (.v 0) (.c (.int 0)))) (.bin .mul (.c (.int 39373)) (.ix (.v 0) (.c (.int 0))))) (.c (.int 7))) (.c (.int 2147483629))),
  .asg [3] (.bin .mod (.bin .add (.bin .mul (.v 3) (.v 3)) (.bin .mul (.c (.int 16807)) (.v 3))) (.c (.int 2147483587))),
  .ret (.bin .mod (.bin .fdiv (.v 3) (.c (.int 8))) (.v 1))]⟩
theorem Y5 {a:Int}(h0:0<=a) (h:a<4294967296):fits a=true:=by
 unfold fits;refine PB ?_;have h1:a.natAbs<2^32:=by omega
 exact Pu h1 (NH (by decide) (by decide))
theorem evT:(∀a b S,ZW .add (.int a) (.int b) S=.ok (.int (a+b)) S)/\(∀a b S,ZW .mul (.int a) (.int b) S=if (fits a&&fits b)=true then .ok (.int (a*b)) S else .no)/\(∀a b S,ZW .fdiv (.int a) (.int b) S=if 0<b/\b<big then .ok (.int (a / b)) S else .no)/\(∀a b S,ZW .mod (.int a) (.int b) S=if 0<b then .ok (.int (a%b)) S else .no)/\(∀S b,ZN S (.bl b)=some b)/\(∀i x S σ,assign [i] x S σ=some (σ.set i (some x))):=
 ⟨λ_ _ _=>rfl,λ_ _ _=>rfl,λ_ _ _=>rfl,λ_ _ _=>rfl,λ_ _=>rfl,λ_ _ _ _=>rfl⟩
theorem Wc {S:Za}{n:Nat}{i:Int}{xs:List D}(h:S[n]? = some (.lst xs)):Q6 (.loc n) (.int i) S=ob (at' xs i) S:=by
 have e:ZP S n=some xs:=by unfold ZP;rw[h]
 show (match ZP S n with | some xs=>ob (at' xs i) S | none=>.no)=_
 rw[e]
theorem Jc {S:Za}{n:Nat}{i:Int}{v:D}{xs:List D}(h:S[n]? = some (.lst xs)):Wj (.loc n) (.int i) v S=(ob (ixN xs.length i) S).bind λj S=>.ok () (S.set n (.lst (xs.set j v))):=by
 show (match S[n]? with | some (.lst xs)=>(ob (ixN xs.length i) S).bind λj S=>.ok () (S.set n (.lst (xs.set j v))) | _=>.no)=_
 rw[h]
theorem lt8:(8:Int)<big:=z5 (by decide)
theorem yM {F:List Fn}{tk d:Nat}{n0:Nat}{S:Za}{s:DS}{m:Int}(hF:F[tk]? = some XS) (h:Dw n0 S s) (m0:0<m) (m1:m<1073741824) :
  ∃S',Zg F (d+1) tk [.loc n0,.int m] S=.ok (.int (Z3 s m).1) S'/\Ext n0 S S'/\Dw n0 S' (Z3 s m).2:=by
 obtain⟨a,b⟩:=s;obtain⟨hs,ha,hb⟩:=h;simp only at hs ha hb;have hn:=Yl hs;have hx:∀o,Ext n0 S (S.set n0 o):=λo=>⟨by simp,λn o' z e=>by rw[Pk (Ne.symm z)];exact e⟩
 have hset:∀o,(S.set n0 o)[n0]? = some o:=λo=>Pw hn
 rw[Zg,hF];cases b with
 |true=>
  refine⟨S.set n0 (.lst [.int (a / m),.bl true]),?_,hx _,hset _,?_,by simp[Z3]⟩
  ·simp[XS,Z3,Ev.runs,Ev.run,Ev.ev.eq_1,Ev.ev.eq_2,Ev.ev.eq_7,Ev.ev.eq_15,Ev.tst,Ev.R.bind,Ev.ob,evT,Ev.start,Wc hs,Jc hs,Wc (hset _),hs,at',ixN,m0,m1,z5 m1]
  ·simp only[Z3,NW]
   exact Int.ediv_nonneg ha (by omega)
 |false=>
  have hb:=hb rfl;have h1:=Y5 ha (by omega)
  have x0:0<=(a*48271+29)%2147483647:=by omega
  have x1:(a*48271+29)%2147483647<2147483647:=by omega
  generalize hxx:(a*48271+29)%2147483647=x at x0 x1;have y0:0<=(x*x+39373*x+7)%2147483629:=by omega
  have y1:(x*x+39373*x+7)%2147483629<2147483629:=by omega
  generalize hyy:(x*x+39373*x+7)%2147483629=y at y0 y1;refine⟨S.set n0 (.lst [.int x,.bl false]),?_,hx _,by simp only[Z3,NA,NF,hxx];exact hset _,by simp only[Z3,NA,NF,hxx];exact x0,by simp only[Z3,NA,NF,hxx];exact λ_=>x1⟩
  have f1:=Y5 x0 (by omega)
  have f2:=Y5 y0 (by omega)
  have f3:fits 48271=true:=Y5 (by omega) (by omega)
  have f4:fits 39373=true:=Y5 (by omega) (by omega)
  have f5:fits 16807=true:=Y5 (by omega) (by omega)
  clear hn;simp[XS,Z3,Ev.runs,Ev.run,Ev.ev.eq_1,Ev.ev.eq_2,Ev.ev.eq_7,Ev.ev.eq_15,Ev.tst,Ev.R.bind,Ev.ob,evT,Ev.start,Wc hs,Jc hs,Wc (hset _),hs,at',ixN,m0,m1,lt8,h1,hxx,hyy,f1,f2,f3,f4,f5,hset]
theorem Gq {S:Za}{X:Nat->Prop}{n0:Nat}{vs:List V}{ds:List D}(n:Nat) (xo:Xok X n0 S) (rs:Rq S X n0 vs ds):Eu S X n0 S.length (λ_=>none) (YD n vs) [] (start n ds):=by
 refine⟨xo.z,xo.lt,Po _,by unfold YD start;simp[rs.length],λi=>rfl,λi j n h=>(by cases h),λi n h=>(by cases h),λi n h=>(by cases h),λi v e _=>?_⟩
 unfold YD at e;unfold start;by_cases c:i<vs.length
 ·rw[Pl (by simpa using c),PP] at e
  rw[Pl (by simpa [rs.length] using c),PP]
  cases q:vs[i]? with
  |none=>rw[q] at e;cases e
  |some u=>
   rw[q] at e;have e:some u=some v:=Pa e;cases e;obtain⟨d,a,b⟩:=rs.get q;rw[a];exact⟨d,rfl,b.mono (λ_ _ _ z=>z) λn _ z=>z.elim id λ⟨_,z⟩=>by cases z⟩
 ·rw[Px (by simpa using Nat.le_of_not_lt c),PZ] at e
  split at e <;> cases e
theorem Ws {F:List Fn}{tk n0:Nat}(hF:F[tk]? = some XS):∀d,ZI n0 (Zg F d) (ZM F tk d)
 |0,f,vs,ds,S,s,X,xo,w,rs=>by rw[ZM];exact True.intro
 |d+1,f,vs,ds,S,s,X,xo,w,rs=>by
  rw[ZM];by_cases c:f=tk
  ·rw[Pj c]
   subst c
   match vs,rs with
   |[.drw,.int m],rs=>
    show Sim n0 S (RlV X n0) _ (if 0<m/\m<1073741824 then .ok (.int (Z3 s m).1) (Z3 s m).2 else .no)
    by_cases c2:0<m/\m<1073741824
    ·rw[Pj c2]
     obtain⟨d1,es,rfl,r1,r2⟩:=rs.cons';obtain⟨d2,es2,rfl,r3,r4⟩:=r2.cons';cases r4.nil';cases r1.drw';cases r3.int';obtain⟨S',e,x,w'⟩:=yM (d:=d) hF w c2.1 c2.2;exact⟨_,S',e,x,w',Zf _⟩
    ·rw[Pm c2];exact True.intro
   |[],_=>exact True.intro
   |[_],_=>unfold zA;split <;> first | exact True.intro | (rename_i h;cases h)
   |a::b::c::l,_=>unfold zA;split <;> first | exact True.intro | (rename_i h;cases h)
   |[.non,_],_ | [.bl _,_],_ | [.int _,_],_ | [.str _,_],_ | [.tup _,_],_ | [.lst _,_],_=>exact True.intro
   |[.drw,.non],_ | [.drw,.bl _],_ | [.drw,.str _],_ | [.drw,.tup _],_ | [.drw,.lst _],_ | [.drw,.drw],_=>exact True.intro
  ·rw[Pm c,Zg]
   cases q:F[f]? with
   |none=>exact True.intro
   |some fn=>
    show Sim n0 S (RlV X n0) (if ds.length=fn.ps then _ else .no) (if vs.length=fn.ps then _ else .no)
    rw[rs.length];refine Sim.guard λ_=>?_
    have h1:=X5 (Ws (n0:=n0) hF d) (muts fn.body) fn.body (Gq fn.ns xo rs) w;have ex:∀{S':Za},ExtS n0 (λ_=>none) S S'->Ext n0 S S':=λ{S'} x=>⟨x.len,λn o a b=>x.keep n o a (λi z=>by cases z) b⟩
    cases q2:rvs (ZM F tk d) (muts fn.body) fn.body (YD fn.ns vs) [] s with
    |no=>exact True.intro
    |ex c s1=>rw[q2] at h1;obtain⟨S1,e,x1,w1⟩:=h1;rw[e];exact⟨S1,rfl,ex x1,w1⟩
    |ok g s1=>
     rw[q2] at h1;obtain⟨g',S1,e,x1,w1,fr⟩:=h1;rw[e];cases g with
     |nx ρ1 os1=>cases g' with
      |nx σ1=>exact⟨.non,S1,rfl,ex x1,w1,Yf⟩
      |_=>exact fr.elim
     |ret v1=>cases g' with
      |ret d1=>exact⟨d1,S1,rfl,ex x1,w1,fr⟩
      |_=>exact fr.elim
     |brk _ _=>exact True.intro
     |cnt _ _=>exact True.intro
end Pv
namespace La
variable {F:Type}[Lean.Grind.CommRing F]
variable {F:Type}[Lean.Grind.CommRing F] [DecidableEq F]
end La
namespace Rw
open La
open Ev (ltI Uw ZY)
end Rw
namespace Pv
open Ev
open Rw
theorem Zd {α β:Type}{a:α}{s:DS}{f:α->DS->PR β}:(PR.ok a s).bind f=f a s:=rfl
theorem G7 {F:List Fn}{tk d f:Nat}{vs:List V}{s:DS}{fn:Fn}(hf:F[f]? = some fn) (hne:f≠tk) (hl:vs.length=fn.ps):ZM F tk (d+1) f vs s=(rvs (ZM F tk d) (muts fn.body) fn.body (YD fn.ns vs) [] s).bind λg s=>match g with
  |.ret v=>.ok v s
  |.nx _ _=>.ok .non s
  |_=>.no:=by
 rw[ZM,Pm hne,hf];show (if vs.length=fn.ps then _ else _)=_
 rw[Pj hl]
 all_goals rfl
theorem yb (s:DS) {m:Int}(h:0<m):0<=(Z3 s m).1/\(Z3 s m).1<m:=by
 unfold Z3;split
 ·exact⟨Int.emod_nonneg _ (by omega),Int.emod_lt_of_pos _ h⟩
 ·exact⟨Int.emod_nonneg _ (by omega),Int.emod_lt_of_pos _ h⟩
theorem vQ {F:List Fn}{tk d:Nat}{m:Int}(s:DS) (h0:0<m) (h1:m<1073741824):∃v s',ZM F tk (d+1) tk [.drw,.int m] s=.ok (.int v) s'/\0<=v/\v<m:=by
 refine⟨(Z3 s m).1,(Z3 s m).2,?_,yb s h0⟩;rw[ZM,Pj rfl];show (if 0<m/\m<1073741824 then _ else _)=_
 rw[Pj ⟨h0,h1⟩]
theorem UY {a:Int}(h:-4294967296<a) (h':a<4294967296):fits a=true:=by
 unfold fits;refine PB ?_;have h1:a.natAbs<2^32:=by omega
 exact Pu h1 (NH (by decide) (by decide))
theorem zk {α:Type}{xs:List α}{k:Nat}{x:α}(h:xs[k]? = some x):at' xs (k:Int)=some x:=by
 have hk:k<xs.length:=(Pc.mp h).1;unfold at' ixN;rw[Pj (by omega),Pj (by omega)]
 show xs[(k:Int).toNat]? = _;rw[show (k:Int).toNat=k by omega];exact h
theorem y9 (n:Nat):Xm 0 n=(List.range n).map λ(k:Nat)=>V.int (k:Int):=by
 unfold Xm;refine List.map_congr_left λk _=>?_
 simp
theorem V7 {α:Type}{a:α}{s:DS}:po (some a) s=.ok a s:=rfl
noncomputable def Y9 (k:Nat):V:=.int k
theorem yU (n:Nat):Xm 0 n=(List.range n).map Y9:=by rw[y9];rfl
theorem YH {i:Int}(h0:0<=i) (h1:i<1000000):ZB i=true:=by
 unfold ZB;have e:(2:Int)^62=4611686018427387904:=by decide
 rw[e];exact PB ⟨by omega,by omega⟩
theorem Yo {F:List Fn}{tk d f:Nat}{vs:List V}{s s':DS}{fn:Fn}{v:V}(hf:F[f]? = some fn) (hne:f≠tk) (hl:vs.length=fn.ps) (h:rvs (ZM F tk d) (muts fn.body) fn.body (YD fn.ns vs) [] s=.ok (.ret v) s'):ZM F tk (d+1) f vs s=.ok v s':=by
 rw[G7 hf hne hl,h];rfl
theorem yf {F:List Fn}{tk d f:Nat}{vs:List V}{s s':DS}{fn:Fn}{ρ:Env}{os:List Nat}(hf:F[f]? = some fn) (hne:f≠tk) (hl:vs.length=fn.ps) (h:rvs (ZM F tk d) (muts fn.body) fn.body (YD fn.ns vs) [] s=.ok (.nx ρ os) s'):ZM F tk (d+1) f vs s=.ok .non s':=by
 rw[G7 hf hne hl,h];rfl
section
variable {C:Zy}{ms:List Nat}{m:Sm}{l:List Sm}{ρ ρ':Env}{os os':List Nat}{s s':DS}
theorem Zp (h:rv C ms m ρ os s=.ok (.nx ρ' os') s'):rvs C ms (m::l) ρ os s=rvs C ms l ρ' os' s':=by rw[rvs,h];rfl
theorem Wd {v:V}(h:rv C ms m ρ os s=.ok (.ret v) s'):rvs C ms (m::l) ρ os s=.ok (.ret v) s':=by rw[rvs,h];rfl
theorem VS {v:V}{e:E}(h:pv C e ρ s=.ok v s'):rv C ms (.ret e) ρ os s=.ok (.ret v) s':=by rw[rv,h];rfl
theorem Gu {v:V}{f:Nat}{as:List E}(h:pv C (.call f as) ρ s=.ok v s'):rv C ms (.ex (.call f as)) ρ os s=.ok (.nx ρ os) s':=by
 have:rv C ms (.ex (.call f as)) ρ os s=(pv C (.call f as) ρ s).bind λ_ s=>.ok (.nx ρ os) s:=by
  rw[rv]
  all_goals (intro _ _ z;cases z)
 rw[this,h];rfl
theorem zj {b:Bool}{t:E}{x y:List Sm}(h:UI C t ρ s=.ok b s'):rv C ms (.ite t x y) ρ os s=if b=true then rvs C ms x ρ os s' else rvs C ms y ρ os s':=by rw[rv,h];rfl
theorem Qz {v:V}{b:Bool}{t:E}(h:pv C t ρ s=.ok v s') (hb:ZU v=some b):UI C t ρ s=.ok b s':=by unfold UI;rw[h,Zd,hb];rfl
theorem ZJ {f:Nat}{as:List E}{vs:List V}{v:V}{s1:DS}(h:pvs C as ρ s=.ok vs s1) (hc:C f vs s1=.ok v s'):pv C (.call f as) ρ s=.ok v s':=by rw[pv,h];exact hc
theorem Y8:pvs C [] ρ s=.ok [] s:=by rw[pvs]
theorem Zw {e:E}{es:List E}{v:V}{vs:List V}{s1:DS}(h:pv C e ρ s=.ok v s1) (h2:pvs C es ρ s1=.ok vs s'):pvs C (e::es) ρ s=.ok (v::vs) s':=by rw[pvs,h,Zd,h2];rfl
theorem ZZ {i:Nat}{v:V}(h:ρ[i]? = some (some v)):pv C (.v i) ρ s=.ok v s:=by rw[pv,h];rfl
theorem XM {i:Nat}{e:E}{v:V}(h:pv C e ρ s=.ok v s') (hm:(ms.contains i&&fresh e)=false):rv C ms (.asg [i] e) ρ [] s=.ok (.nx (ρ.set i (some v)) []) s':=by
 rw[rv];show (pv C e ρ s).bind _=_;rw[h,Zd,Pm (by rw[hm];simp)];rfl
theorem V6 {e:E}{n:Nat}(h:pv C e ρ s=.ok (.int n) s') (hn:n<1000000):pvw C (.rng1 e) ρ s=.ok ((List.range n).map Y9) s':=by
 rw[pvw,h,Zd];show (if ZB (n:Int)=true then PR.ok (Xm 0 (n:Int).toNat) s' else .no)=_
 rw[Pj (YH (by omega) (by omega)),Int.toNat_natCast,yU]
theorem xn {α:Type}{t:List Nat}{it:W}{b:List Sm}{L:List α}{e:α->V}(I:List α->Env->Prop) (hw:pvw C it (hide os ρ) s=.ok (L.map e) s) (hI:I L ρ) (ht:(t.any os.contains)=false)
  (h:∀x l ρ,I (x::l) ρ->(os.isEmpty||(e x).flat)=true/\∃ρ1 ρ',Zv t (e x) ρ=some ρ1/\rvs C ms b ρ1 os s=.ok (.nx ρ' os) s/\I l ρ') :
  ∃ρ',I [] ρ'/\rv C ms (.forr t it b) ρ os s=.ok (.nx ρ' os) s:=by
 rw[rv,hw,Zd];clear hw
 induction L generalizing ρ with
 |nil=>exact⟨ρ,hI,rfl⟩
 |cons x L ih=>
  obtain⟨f,ρ1,ρ',b1,b2,b3⟩:=h x L ρ hI;obtain⟨ρ2,c1,c2⟩:=ih b3;refine⟨ρ2,c1,?_⟩;rw[P1,UT,Pm (by rw[ht];simp),Pj f,b1,V7,Zd,b2,Zd]
  exact c2
theorem Wa {σ α:Type}{t:List Nat}{it:W}{b:List Sm}{L:List α}{e:α->V}{step:σ->α->σ}{ρ:σ->Option V->Env}{st:σ}{o:Option V}(I:List α->σ->Prop) (hw:pvw C it (hide os (ρ st o)) s=.ok (L.map e) s) (hI:I L st) (ht:(t.any os.contains)=false)
  (h:∀x l st o,I (x::l) st->I l (step st x)/\(os.isEmpty||(e x).flat)=true/\∃ρ1 o',Zv t (e x) (ρ st o)=some ρ1/\rvs C ms b ρ1 os s=.ok (.nx (ρ (step st x) o') os) s) :
  ∃o',I [] (L.foldl step st)/\rv C ms (.forr t it b) (ρ st o) os s=.ok (.nx (ρ (L.foldl step st) o') os) s:=by
 rw[rv,hw,Zd];clear hw
 induction L generalizing st o with
 |nil=>exact⟨o,hI,rfl⟩
 |cons x L ih=>
  obtain⟨a,f,ρ1,o',b1,b2⟩:=h x L st o hI;obtain⟨o2,c1,c2⟩:=ih (st:=step st x) (o:=o') a;refine⟨o2,c1,?_⟩;rw[P1,UT,Pm (by rw[ht];simp),Pj f,b1,V7,Zd,b2,Zd]
  exact c2
end
theorem pvF:(∀a,fresh (.lst a)=true)/\(∀a b,fresh (.bin .mul (.lst a) b)=true)/\(∀b,ZU (.bl b)=some b)/\(∀i,ZU (.int i)=some (decide (i≠0)))/\(∀xs,ZU (.tup xs)=some (!xs.isEmpty))/\(∀xs,ZU (.lst xs)=some (!xs.isEmpty))/\(ZU .non=some false)/\(∀xs i,ixV (.tup xs) (.int i)=at' xs i)/\(∀xs i,ixV (.lst xs) (.int i)=at' xs i)/\(∀xs,ZR (.tup xs)=some xs)/\(∀xs,ZR (.lst xs)=some xs)/\(∀x,WJ .len [x]=(ZR x).map λxs=>.int xs.length)/\(∀x,WJ .tuple [x]=(ZR x).map .tup)/\(∀x,WJ .list [x]=(ZR x).map .lst)/\(∀xs,WJ .all [.lst xs]=(ZS xs).map λbs=>.bl (bs.all id))/\(∀a b,WJ .max2 [.int a,.int b]=some (.int (if b>a then b else a)))/\(∀a b,WJ .min2 [.int a,.int b]=some (.int (if b<a then b else a)))/\(∀a,WJ .toInt [.int a]=some (.int a))/\(∀a,WJ .toInt [.bl a]=some (.int (b2i a)))/\(∀xs,WJ .sortedR [.lst xs]=(Z0 xs).bind λrs=>if ZV rs=true then some (.lst ((ZY rs).reverse.map V3)) else none)/\(∀a b s,YY .add (.int a) (.int b) s=.ok (.int (a+b)) s)/\(∀a b s,YY .sub (.int a) (.int b) s=.ok (.int (a-b)) s)/\(∀a b s,YY .mul (.int a) (.int b) s=if (fits a&&fits b)=true then .ok (.int (a*b)) s else .no)/\(∀a b s,YY .mod (.int a) (.int b) s=if 0<b then .ok (.int (a%b)) s else .no)/\(∀a b s,YY .add (.tup a) (.tup b) s=if a.length+b.length<=lim then .ok (.tup (a++b)) s else .no)/\(∀a b s,YY .mul (.tup a) (.int b) s=if 0<=b/\b<1000/\a.length<=1000 then .ok (.tup (List.replicate b.toNat a).flatten) s else .no)/\(∀a b s,YY .mul (.lst a) (.int b) s=if 0<=b/\b<1000/\a.length<=1000 then .ok (.lst (List.replicate b.toNat a).flatten) s else .no)/\(∀a b s,YY .add (.lst a) (.lst b) s=if a.length+b.length<=lim then .ok (.lst (a++b)) s else .no)/\(∀x y,YM .eq x y=(eqV ZA x y).map .bl)/\(∀x y,YM .ne x y=(eqV ZA x y).map λb=>.bl !b)/\(∀a b,YM .lt (.int a) (.int b)=some (.bl (decide (a<b))))/\(∀a b,YM .gt (.int a) (.int b)=some (.bl (decide (b<a))))/\(∀a b,YM .le (.int a) (.int b)=some (.bl (decide (a<=b))))/\(∀a b,YM .ge (.int a) (.int b)=some (.bl (decide (b<=a))))/\(∀x,YM .is x .non=some (.bl (YG x)))/\(∀x,YM .isn x .non=some (.bl !(YG x)))/\(∀a b,YM .is (.bl a) (.bl b)=some (.bl (decide (a=b))))/\(∀a b,YM .isn (.bl a) (.bl b)=some (.bl (decide (a≠b))))/\(∀x y,YM .inn x y=(Xt x y).map .bl)/\(∀x y,YM .nin x y=(Xt x y).map λb=>.bl !b)/\(YG .non=true)/\(∀b,YG (.bl b)=false)/\(∀b,YG (.int b)=false)/\(∀b,YG (.tup b)=false)/\(∀b,YG (.lst b)=false)/\(ofD .non=some .non)/\(∀b,ofD (.bl b)=some (.bl b))/\(∀b,ofD (.int b)=some (.int b))/\(∀ρ,Z6 [] [] ρ=some ρ)/\(∀i t x xs ρ,Z6 (i::t) (x::xs) ρ=Z6 t xs (ρ.set i (some x)))/\(∀i x ρ,Zv [i] x ρ=some (ρ.set i (some x)))/\(∀i j t xs ρ,Zv (i::j::t) (.tup xs) ρ=Z6 (i::j::t) xs ρ)/\(∀i j t xs ρ,Zv (i::j::t) (.lst xs) ρ=Z6 (i::j::t) xs ρ)/\(∀k a b,eqV (k+1) (.int a) (.int b)=some (decide (a=b)))/\(∀k a b,eqV (k+1) (.bl a) (.bl b)=some (decide (a=b)))/\(∀k a b,eqV (k+1) (.tup a) (.tup b)=V5 (eqV k) a b)/\(∀k a b,eqV (k+1) (.lst a) (.lst b)=if a.length=b.length then V5 (eqV k) a b else some false):=
 ⟨λ_=>rfl,λ_ _=>rfl,λ_=>rfl,λ_=>rfl,λ_=>rfl,λ_=>rfl,rfl,λ_ _=>rfl,λ_ _=>rfl,λ_=>rfl,λ_=>rfl,λ_=>rfl,λ_=>rfl,λ_=>rfl,λ_=>rfl,λ_ _=>rfl,λ_ _=>rfl,λ_=>rfl,λ_=>rfl,λ_=>rfl,λ_ _ _=>rfl,λ_ _ _=>rfl,λ_ _ _=>rfl,λ_ _ _=>rfl,λ_ _ _=>rfl,λ_ _ _=>rfl,λ_ _ _=>rfl,λ_ _ _=>rfl,λ_ _=>rfl,λ_ _=>rfl,λ_ _=>rfl,λ_ _=>rfl,λ_ _=>rfl,λ_ _=>rfl,λ_=>rfl,λ_=>rfl,λ_ _=>rfl,λ_ _=>rfl,λ_ _=>rfl,λ_ _=>rfl,rfl,λ_=>rfl,λ_=>rfl,λ_=>rfl,λ_=>rfl,rfl,λ_=>rfl,λ_=>rfl,λ_=>rfl,λ_ _ _ _ _=>rfl,λ_ _ _=>rfl,λ_ _ _ _ _=>rfl,λ_ _ _ _ _=>rfl,λ_ _ _=>rfl,λ_ _ _=>rfl,λ_ _ _=>rfl,λ_ _ _=>rfl⟩
def pvE:=And.intro (And.intro (And.intro (And.intro (And.intro (And.intro pvF @Zd) (And.intro @V7 @UI.eq_1)) (And.intro (And.intro @YD.eq_1 @hide.eq_1) (And.intro @Yz.eq_1 @Option.join.eq_1.{0}))) (And.intro (And.intro (And.intro @lim.eq_1 @rvs.eq_1) (And.intro @rvs.eq_2 @rv.eq_1)) (And.intro (And.intro @rv.eq_2 @rv.eq_3) (And.intro @rv.eq_4 @rv.eq_5)))) (And.intro (And.intro (And.intro (And.intro @rv.eq_6 @rv.eq_7) (And.intro @rv.eq_8 @rv.eq_9)) (And.intro (And.intro @rv.eq_10 @rv.eq_11) (And.intro @rv.eq_12 @rv.eq_13))) (And.intro (And.intro (And.intro @rv.eq_14 @rv.eq_15) (And.intro @rv.eq_16 @rv.eq_17)) (And.intro (And.intro @rv.eq_18 @pvA.eq_1) (And.intro @pvA.eq_2 (And.intro @pvs.eq_1 @pvs.eq_2)))))) (And.intro (And.intro (And.intro (And.intro (And.intro @pvo.eq_1 @pvo.eq_2) (And.intro @pvt.eq_1 @pvt.eq_2)) (And.intro (And.intro @pvw.eq_1 @pvw.eq_2) (And.intro @pvw.eq_3 @pvw.eq_4))) (And.intro (And.intro (And.intro @pvw.eq_5 @pvw.eq_6) (And.intro @pvw.eq_7 @pv.eq_1)) (And.intro (And.intro @pv.eq_2 @pv.eq_3) (And.intro @pv.eq_4 (And.intro @pv.eq_5 @pv.eq_6))))) (And.intro (And.intro (And.intro (And.intro @pv.eq_7 @pv.eq_8) (And.intro @pv.eq_9 @pv.eq_10)) (And.intro (And.intro @pv.eq_11 @pv.eq_12) (And.intro @pv.eq_13 @pv.eq_14))) (And.intro (And.intro (And.intro @pv.eq_15 @pv.eq_16) (And.intro @pv.eq_17 @pv.eq_18)) (And.intro (And.intro @pv.eq_19 @pv.eq_20) (And.intro @pv.eq_21 (And.intro @pv.eq_22 @pv.eq_23))))))
end Pv
namespace Lw
def evE:=And.intro (And.intro (And.intro (And.intro @Ev.ev.eq_1 @Ev.ev.eq_2) (And.intro @Ev.ev.eq_3 (And.intro @Ev.ev.eq_4 @Ev.ev.eq_5))) (And.intro (And.intro @Ev.ev.eq_6 (And.intro @Ev.ev.eq_7 @Ev.ev.eq_8)) (And.intro @Ev.ev.eq_9 (And.intro @Ev.ev.eq_10 @Ev.ev.eq_11)))) (And.intro (And.intro (And.intro @Ev.ev.eq_12 (And.intro @Ev.ev.eq_13 @Ev.ev.eq_14)) (And.intro @Ev.ev.eq_15 (And.intro @Ev.ev.eq_16 @Ev.ev.eq_17))) (And.intro (And.intro @Ev.ev.eq_18 (And.intro @Ev.ev.eq_19 @Ev.ev.eq_20)) (And.intro @Ev.ev.eq_21 (And.intro @Ev.ev.eq_22 @Ev.ev.eq_23))))
open Ev Pv
section
theorem evF:(∀x S,Z8 .len [x] S=(ob (YA S x) S).bind λxs S=>.ok (.int xs.length) S)/\(∀a b S,Z8 .max2 [.int a,.int b] S=.ok (.int (if b>a then b else a)) S)/\(∀a b S,Z8 .min2 [.int a,.int b] S=.ok (.int (if b<a then b else a)) S)/\(∀a b S,Yp .lt (.int a) (.int b) S=.ok (.bl (decide (a<b))) S)/\(∀a b S,Yp .ge (.int a) (.int b) S=.ok (.bl (decide (b<=a))) S)/\(∀a b S,ZW .sub (.int a) (.int b) S=.ok (.int (a-b)) S)/\(∀a b S,ZW .mod (.int a) (.int b) S=if 0<b then .ok (.int (a%b)) S else .no)/\(∀a b S,ZW .pow (.int a) (.int b) S=if 0<=b/\b<=1000/\a.natAbs<2^64 then .ok (.int (a^b.toNat)) S else .no)/\(∀S b,ZN S (.bl b)=some b)/\(∀n S,YA S (.loc n)=ZP S n)/\(∀i x S σ,assign [i] x S σ=some (σ.set i (some x))):=
 ⟨λ_ _=>rfl,λ_ _ _=>rfl,λ_ _ _=>rfl,λ_ _ _=>rfl,λ_ _ _=>rfl,λ_ _ _=>rfl,λ_ _ _=>rfl,λ_ _ _=>rfl,λ_ _=>rfl,λ_ _=>rfl,λ_ _ _ _=>rfl⟩
theorem yL {S:Za}{n:Nat}{i:Int}{xs:List D}(h:ZP S n=some xs):Q6 (.loc n) (.int i) S=ob (at' xs i) S:=by
 show (match ZP S n with | some xs=>ob (at' xs i) S | none=>.no)=_
 rw[h]
theorem yI {C:Calls}{es:List E}{σ:Lc}{S S1:Za}{xs:List D}{f:Nat}(h1:evs C es σ S=.ok xs S1):ev C (.call f es) σ S=C f xs S1:=by
 rw[ev,h1];rfl
theorem JT {C:Calls}{e:E}{ss:List Sm}{σ:Lc}{S S':Za}{x:D}{k:Nat}(h:ev C e σ S=.ok x S'):runs C (.asg [k] e::ss) σ S=runs C ss (σ.set k (some x)) S':=by
 rw[runs,run,h];rfl
theorem xl {C:Calls}{s:Sm}{ss:List Sm}{σ σ':Lc}{S S':Za}(h:run C s σ S=.ok (.nx σ') S'):runs C (s::ss) σ S=runs C ss σ' S':=by rw[runs,h];rfl
theorem JB {S:Za}{o:Ob}:(S++[o])[S.length]? = some o:=by rw[Px (Po _),Nat.sub_self];rfl
noncomputable def XI:Fn:=⟨2,2,[.ite (.cmp .lt (.v 1) (.blt .len [(.v 0)])) [.ret (.ix (.v 0) (.v 1))] [],.ret (.c (.int 0))]⟩
noncomputable def Xn (c:Nat):Fn:=⟨2,3,[.asg [2] (.call c [(.v 0),(.v 1)]),.ite (.cmp .ge (.v 2) (.bin .pow (.c (.int 10)) (.c (.int 18)))) [.ret (.lst [(.bin .sub (.v 2) (.bin .pow (.c (.int 10)) (.c (.int 18)))),(.c (.bl true))])] [],.ret (.lst [(.bin .mod (.v 2) (.c (.int 2147483647))),(.c (.bl false))])]⟩
variable {F:List Fn}{tk ca st L nn:Nat}{M:Int}{B:List Sm}
theorem yp (hC:F[ca]? = some XI) {S:Za}{ns:List Int}{k:Int}(d:Nat) (hs:S[0]? = some (.scr ns)) (k0:0<=k):∃c,Zg F (d+1) ca [.loc 0,.int k] S=.ok (.int c) S:=by
 have h1:ZP S 0=some (ns.map .int):=by unfold ZP;rw[hs]
 by_cases c:k<ns.length
 ·have hk:k.toNat<ns.length:=by omega
  refine⟨ns[k.toNat],?_⟩;simp[Ev.Zg,Ev.runs,Ev.run,evE,Ev.evs,Ev.evo,Ev.evt,Ev.tst,Ev.R.bind,Ev.ob,Ev.start,Ev.lim,hC,XI,evF,h1,c,yL h1,at',ixN,k0,hk]
 ·refine⟨0,?_⟩
  simp[Ev.Zg,Ev.runs,Ev.run,evE,Ev.evs,Ev.evo,Ev.evt,Ev.tst,Ev.R.bind,Ev.ob,Ev.start,Ev.lim,hC,XI,evF,h1,c]
theorem GA (hC:F[ca]? = some XI) (hS:F[st]? = some (Xn ca)) {S:Za}{ns:List Int}{k:Int}(d:Nat) (hs:S[0]? = some (.scr ns)) (k0:0<=k):∃o s,Dw S.length (S++[o]) s/\Zg F (d+2) st [.loc 0,.int k] S=.ok (.loc S.length) (S++[o]):=by
 obtain⟨c,e⟩:=yp hC d hs k0;rw[show d+2=(d+1)+1 from rfl,Zg]
 generalize Zg F (d+1)=C at e ⊢;by_cases h:10^18<=c
 ·refine⟨.lst [.int (c-10^18),.bl true],(c-10^18,true),⟨JB,by show 0<=c-10^18;omega,by simp⟩,?_⟩
  have h':(1000000000000000000:Int)<=c:=by simpa using h
  simp[Ev.Zg,Ev.runs,Ev.run,evE,Ev.evs,Ev.evo,Ev.evt,Ev.tst,Ev.R.bind,Ev.ob,Ev.start,Ev.lim,hS,Xn,e,evF,h']
 ·refine⟨.lst [.int (c%2147483647),.bl false],(c%2147483647,false),⟨JB,by show 0<=c%2147483647;omega,λ_=>by show c%2147483647<_;omega⟩,?_⟩
  have h':¬(1000000000000000000:Int)<=c:=by simpa using h
  simp[Ev.Zg,Ev.runs,Ev.run,evE,Ev.evs,Ev.evo,Ev.evt,Ev.tst,Ev.R.bind,Ev.ob,Ev.start,Ev.lim,hS,Xn,e,evF,h']
theorem UP {w:Walk}{body:D->Lc->Za->R Fl}(P:Lc->Za->Prop) (hst:∀σ S,P σ S->w.still S=true):∀(xs:List D),(∀x∈xs,∀σ S,P σ S->∃σ' S',P σ' S'/\body x σ S=.ok (.nx σ') S')->∀σ S,P σ S->∃σ' S',P σ' S'/\Yr w body xs σ S=.ok (.nx σ') S'
 |[],_,σ,S,h=>⟨σ,S,h,by rw[Yr,Pj (hst σ S h)]⟩
 |x::xs,hb,σ,S,h=>by
  obtain⟨σ1,S1,h1,e1⟩:=hb x (Pq ..) σ S h;obtain⟨σ2,S2,h2,e2⟩:=UP P hst xs (λy hy=>hb y (Pn _ hy)) σ1 S1 h1
  refine⟨σ2,S2,h2,?_⟩;rw[Yr,Pj (hst σ S h),e1];exact e2
theorem JR {lo:Int}{k:Nat}{x:D}(h:x∈Zl lo k):∃i,x=.int i/\lo<=i:=by
 unfold Zl at h;obtain⟨j,_,e⟩:=List.mem_map.mp h;exact⟨_,e.symm,by omega⟩
def Kept (σ σ':Lc):Prop:=σ'[0]? = σ[0]?/\σ'.length=σ.length
theorem Kept.trans {σ σ1 σ2:Lc}(h:Kept σ σ1) (h2:Kept σ1 σ2):Kept σ σ2:=⟨h2.1.trans h.1,h2.2.trans h.2⟩
theorem Kept.set {σ:Lc}{i:Nat}{x:Option D}(h:i≠0):Kept σ (σ.set i x):=⟨Pk h,Pz ..⟩
theorem ZX:∀{t:List Nat}{xs:List D}{σ σ':Lc},fill t xs σ=some σ'->¬0∈t->Kept σ σ'
 |[],[],σ,σ',h,_=>by cases h;exact⟨rfl,rfl⟩
 |i::t,x::xs,σ,σ',h,h0=>(Kept.set (λz=>h0 (by rw[z];exact Pq ..))).trans (ZX (t:=t) (xs:=xs) h λz=>h0 (Pn _ z))
 |[],_::_,_,_,h,_=>by cases h
 |_::_,[],_,_,h,_=>by cases h
mutual
noncomputable def kp:Sm->Bool
 |.asg t _=>!t.contains 0
 |.par t _=>!t.contains 0
 |.aug i _ _=>!(i == 0)
 |.ite _ a b=>kps a&&kps b
 |.forr t _ b=>!t.contains 0&&kps b
 |.ret _=>true
 |.ex _=>true
 |.brk=>true
 |.cnt=>true
 |_=>false
noncomputable def kps:List Sm->Bool
 |[]=>true
 |m::l=>kp m&&kps l
end
theorem Kept.refl (σ:Lc):Kept σ σ:=⟨rfl,rfl⟩
def YW (σ:Lc):Fl->Prop
 |.nx σ' | .brk σ' | .cnt σ'=>Kept σ σ'
 |.ret _=>True
theorem YW.from {σ σ1:Lc}(h:Kept σ σ1) {f:Fl}(k:YW σ1 f):YW σ f:=by
 cases f with
 |ret d=>trivial
 |nx l=>exact h.trans k
 |brk l=>exact h.trans k
 |cnt l=>exact h.trans k
theorem Z7 {t:List Nat}{x:D}{S:Za}{σ σ':Lc}(h:assign t x S σ=some σ') (h0:¬0∈t):Kept σ σ':=by
 unfold assign at h;split at h
 ·cases h
  exact Kept.set λz=>h0 (by simp[z])
 ·split at h
  ·exact ZX h h0
  ·split at h
   ·exact ZX h h0
   ·cases h
  ·cases h
theorem WY {w:Walk}{body:D->Lc->Za->R Fl}(hb:∀x σ S f S',body x σ S=.ok f S'->YW σ f):∀(xs:List D) {σ:Lc}{S S':Za}{f:Fl},Yr w body xs σ S=.ok f S'->YW σ f
 |[],σ,S,S',f,h=>by
  rw[Yr] at h;split at h <;> cases h;exact Kept.refl _
 |x::xs,σ,S,S',f,h=>by
  rw[Yr] at h;split at h
  ·cases q:body x σ S with
   |no=>rw[q] at h;cases h
   |ex c S1=>rw[q] at h;cases h
   |ok g S1=>
    have k:=hb x σ S g S1 q;rw[q] at h;cases g with
    |nx l=>exact YW.from k (WY hb xs h)
    |cnt l=>exact YW.from k (WY hb xs h)
    |brk l=>cases h;exact k
    |ret d=>cases h;trivial
  ·cases h
mutual
theorem vB {C:Calls}:∀(m:Sm) {σ:Lc}{S S':Za}{f:Fl},kp m=true->run C m σ S=.ok f S'->YW σ f
 |.asg t e,σ,S,S',f,h,r=>by
  unfold kp at h;rw[run] at r;cases q:ev C e σ S with
  |no=>rw[q] at r;cases r
  |ex c S1=>rw[q] at r;cases r
  |ok x S1=>
   rw[q] at r;replace r:((ob (assign t x S1 σ) S1).bind λσ S=>R.ok (Fl.nx σ) S)=.ok f S':=r
   cases q2:assign t x S1 σ with
   |none=>rw[q2] at r;cases r
   |some σ1=>rw[q2] at r;cases r;exact Z7 q2 (by simpa using h)
 |.par t es,σ,S,S',f,h,r=>by
  unfold kp at h;rw[run] at r;cases q:evs C es σ S with
  |no=>rw[q] at r;cases r
  |ex c S1=>rw[q] at r;cases r
  |ok x S1=>
   rw[q] at r;replace r:((ob (fill t x σ) S1).bind λσ S=>R.ok (Fl.nx σ) S)=.ok f S':=r
   cases q2:fill t x σ with
   |none=>rw[q2] at r;cases r
   |some σ1=>rw[q2] at r;cases r;exact ZX q2 (by simpa using h)
 |.aug i op e,σ,S,S',f,h,r=>by
  unfold kp at h;rw[run] at r;cases q0:(σ[i]?).join with
  |none=>rw[q0] at r;cases r
  |some x0=>
  rw[q0] at r;replace r:((ev C e σ S).bind λy S=>(Wm op x0 y S).bind λz S=>R.ok (Fl.nx (σ.set i (some z))) S)=.ok f S':=r
  cases q:ev C e σ S with
  |no=>rw[q] at r;cases r
  |ex c S1=>rw[q] at r;cases r
  |ok x S1=>
   rw[q] at r;replace r:((Wm op x0 x S1).bind λz S=>R.ok (Fl.nx (σ.set i (some z))) S)=.ok f S':=r
   cases q2:Wm op x0 x S1 with
   |no=>rw[q2] at r;cases r
   |ex c S2=>rw[q2] at r;cases r
   |ok y S2=>rw[q2] at r;cases r;exact Kept.set (by simpa using h)
 |.ite t a b,σ,S,S',f,h,r=>by
  unfold kp at h;obtain⟨h1,h2⟩:=(Ph _ _).mp h;rw[run] at r;cases q:tst C t σ S with
  |no=>rw[q] at r;cases r
  |ex c S1=>rw[q] at r;cases r
  |ok c S1=>
   rw[q] at r;cases c with
   |false=>exact Xo b h2 (show runs C b σ S1=_ from r)
   |true=>exact Xo a h1 (show runs C a σ S1=_ from r)
 |.forr t it b,σ,S,S',f,h,r=>by
  unfold kp at h;obtain⟨h1,h2⟩:=(Ph _ _).mp h;rw[run] at r;cases q:evw C it σ S with
  |no=>rw[q] at r;cases r
  |ex c S1=>rw[q] at r;cases r
  |ok w S1=>
   rw[q] at r;refine WY (λx σ S g S2 hr=>?_) w.items (show Yr w _ w.items σ S1=_ from r)
   cases q2:assign t x S σ with
   |none=>rw[q2] at hr;cases hr
   |some σ1=>
    rw[q2] at hr;exact YW.from (Z7 q2 (by simpa using h1)) (Xo b h2 (show runs C b σ1 S=_ from hr))
 |.ret e,σ,S,S',f,h,r=>by
  rw[run] at r;cases q:ev C e σ S with
  |no=>rw[q] at r;cases r
  |ex c S1=>rw[q] at r;cases r
  |ok x S1=>rw[q] at r;cases r;trivial
 |.ex e,σ,S,S',f,h,r=>by
  rw[run] at r;cases q:ev C e σ S with
  |no=>rw[q] at r;cases r
  |ex c S1=>rw[q] at r;cases r
  |ok x S1=>rw[q] at r;cases r;exact Kept.refl _
 |.brk,σ,S,S',f,h,r=>by rw[run] at r;cases r;exact Kept.refl _
 |.cnt,σ,S,S',f,h,r=>by rw[run] at r;cases r;exact Kept.refl _
 |.put ..,_,_,_,_,h,_ | .dput ..,_,_,_,_,h,_ | .whl ..,_,_,_,_,h,_ | .raise ..,_,_,_,_,h,_ | .pas,_,_,_,_,h,_=>by unfold kp at h;cases h
theorem Xo {C:Calls}:∀(l:List Sm) {σ:Lc}{S S':Za}{f:Fl},kps l=true->runs C l σ S=.ok f S'->YW σ f
 |[],σ,S,S',f,h,r=>by rw[runs] at r;cases r;exact Kept.refl _
 |m::l,σ,S,S',f,h,r=>by
  unfold kps at h;obtain⟨h1,h2⟩:=(Ph _ _).mp h;rw[runs] at r;cases q:run C m σ S with
  |no=>rw[q] at r;cases r
  |ex c S1=>rw[q] at r;cases r
  |ok g S1=>
   have k:=vB m h1 q;rw[q] at r;cases g with
   |nx l1=>exact YW.from k (Xo l h2 (show runs C l l1 S1=_ from r))
   |ret d=>cases r;trivial
   |brk l1=>cases r;exact k
   |cnt l1=>cases r;exact k
end
theorem vN {C:Calls}(l:List Sm) {σ σ':Lc}{S S':Za}(h:kps l=true) (r:runs C l σ S=.ok (.nx σ') S'):Kept σ σ':=Xo l h r
def Q0 (m:Nat) (ns:List Int) (σ:Lc) (S:Za):Prop:=∃a1 a2 as,σ=some (.loc 0)::a1::a2::as/\as.length=m/\S[0]? = some (.scr ns)
end
end Lw
namespace Lw
open Ev Pv
section
variable {F:List Fn}{tk ca st L nn:Nat}{M:Int}{B:List Sm}
theorem Um {m d:Nat}(hT:F[tk]? = some XS) (hC:F[ca]? = some XI) (hS:F[st]? = some (Xn ca)) (hk:kps B=true)
  (hv:∀(k:Nat) (s:DS),∃ρ' os' s',rvs (ZM F tk (d+2)) [] B (none::some (.int k)::some .drw::List.replicate m none) [] s=.ok (.nx ρ' os') s')
  {ns:List Int} {x:D} {σ:Lc} {S:Za} (hx:∃i,x=.int i/\0<=i) (hq:Q0 m ns σ S):∃σ' S',(Q0 m ns σ' S'/\∃n s,n≠0/\Dw n S' s)/\(ob (assign [1] x S σ) S).bind (λσ S=>runs (Zg F (d+2)) (.asg [2] (.call st [(.v 0),(.v 1)])::B) σ S)=.ok (.nx σ') S':=by
 obtain⟨i,rfl,i0⟩:=hx;obtain⟨k,rfl⟩:∃k:Nat,i=k:=⟨i.toNat,by omega⟩
 obtain⟨a1,a2,as,rfl,hm,hs⟩:=hq;show ∃σ' S',(Q0 m ns σ' S'/\∃n s,n≠0/\Dw n S' s)/\runs (Zg F (d+2)) _ (some (.loc 0)::some (.int k)::a2::as) S=.ok (.nx σ') S';obtain⟨o,s,h1,e1⟩:=GA hC hS d hs i0;have n0:S.length≠0:=by have:=Yl hs;omega
 have s1:(S++[o])[0]? = some (.scr ns):=by rw[Pl (Yl hs)];exact hs
 rw[JT (x:=.loc S.length) (S':=S++[o]) (by rw[yI (xs:=[.loc 0,.int k]) (S1:=S) rfl];exact e1)]
 show ∃σ' S',(Q0 m ns σ' S'/\∃n s,n≠0/\Dw n S' s)/\runs (Zg F (d+2)) _ (some (.loc 0)::some (.int k)::some (.loc S.length)::as) (S++[o])=.ok (.nx σ') S';obtain⟨ρ',os',s',e2⟩:=hv k s;have hE:Eu (S++[o]) (· = S.length) S.length (S.length+1) (λ_=>none) (none::some (.int k)::some .drw::List.replicate m none) [] (some (.loc 0)::some (.int k)::some (.loc S.length)::as):={
  xz:=rfl
  xb:=λn h=>by omega
  bs:=by simp
  len:=by simp[hm]
  osW:=λi=>rfl
  inj:=λi j n h=>by cases h
  pl:=λi n h=>by cases h
  own:=λi n h=>by cases h
  val:=λi v h _=>by
   match i,h with
   |0,h=>cases h
   |1,h=>cases h;exact⟨_,rfl,by unfold Rep;rfl⟩
   |2,h=>cases h;exact⟨_,rfl,by unfold Rep;rfl⟩
   |i+3,h=>
    have h:(List.replicate m (none:Option V))[i]? = some (some v):=h;rw[PZ] at h;split at h <;> cases h }
 have hS:=X5 (Ws (F:=F) (tk:=tk) (n0:=S.length) hT (d+2)) [] B hE h1;rw[e2] at hS;obtain⟨g,S',e3,x3,w3,f3⟩:=hS;cases g with
 |nx σ'=>
  refine⟨σ',S',?_,e3⟩;have hl:=vN B hk e3;have hlen:σ'.length=m+3:=by rw[hl.2];simp[hm]
  replace hl:σ'[0]? = some (some (.loc 0)):=hl.1
  match σ',hlen,hl with
  |b0::b1::b2::bs,hlen,hl=>
   cases hl;exact⟨⟨b1,b2,bs,rfl,by simpa using hlen,x3.keep 0 _ (Ne.symm n0) (λi h=>by cases h) s1⟩,S.length,s',n0,w3⟩
 |ret v=>exact f3.elim
 |brk v=>exact f3.elim
 |cnt v=>exact f3.elim
noncomputable def vK (nn:Nat) (M:Int) (st:Nat) (B:List Sm) (e:E):Fn:=⟨1,nn,[.forr [1] (.rng1 (.blt .max2 [(.c (.int 1)),(.blt .min2 [(.blt .len [(.v 0)]),(.c (.int M))])])) (.asg [2] (.call st [(.v 0),(.v 1)])::B),.ret e]⟩
theorem yZ {m d:Nat}{e:E}(hT:F[tk]? = some XS) (hC:F[ca]? = some XI) (hS:F[st]? = some (Xn ca)) (hL:F[L]? = some (vK (m+3) M st B e)) (hk:kps B=true) (hM:1<=M/\M<1000)
  (hv:∀(k:Nat) (s:DS),∃ρ' os' s',rvs (ZM F tk (d+2)) [] B (none::some (.int k)::some .drw::List.replicate m none) [] s=.ok (.nx ρ' os') s')
  (he:∀s:DS,∃s',rvs (ZM F tk (d+2)) [] [.ret e] (List.replicate (m+3) none) [] s=.ok (.ret (.bl true)) s')
  {ns:List Int} {S:Za} (hs:S[0]? = some (.scr ns)):∃S',Zg F (d+3) L [.loc 0] S=.ok (.bl true) S':=by
 have h1:ZP S 0=some (ns.map .int):=by unfold ZP;rw[hs]
 let k:Int:=if (if M<(ns.length:Int) then M else ns.length)>1 then (if M<(ns.length:Int) then M else ns.length) else 1
 have hk2:ZB k=true:=YH (by simp only[k];split <;> split <;> omega) (by simp only[k];split <;> split <;> omega)
 have hk3:1<=k:=by simp only[k];split <;> omega
 obtain⟨j,hj⟩:∃j,k.toNat=j+1:=⟨k.toNat-1,by omega⟩
 have hr:Zl 0 k.toNat=.int 0::(List.range j).map λ(i:Nat)=>D.int (0+((i+1:Nat):Int)):=by
  unfold Zl;rw[hj,List.range_succ_eq_map,P1,List.map_map];rfl
 have hmem:∀x∈Zl 0 k.toNat,∃i,x=.int i/\0<=i:=λx hx=>JR hx
 obtain⟨σa,Sa,⟨hqa,hda⟩,ea⟩:=Um hT hC hS hk hv (hmem (.int 0) (by rw[hr];simp)) (show Q0 m ns (some (.loc 0)::none::none::List.replicate m none) S from ⟨_,_,_,rfl,by simp,hs⟩)
 obtain⟨σ1,S1,⟨hq1,n1,s1,hn1,hd1⟩,e1⟩:=UP (w:=⟨Zl 0 k.toNat,[]⟩) (λσ S=>Q0 m ns σ S/\∃n s,n≠0/\Dw n S s) (λ_ _ _=>rfl) ((List.range j).map λ(i:Nat)=>D.int (0+((i+1:Nat):Int))) (λx hx σ S hq=>Um hT hC hS hk hv (hmem x (by rw[hr];exact Pn _ hx)) hq.1) σa Sa ⟨hqa,hda⟩
 have e1:Yr ⟨Zl 0 k.toNat,[]⟩ (λx σ S=>(ob (assign [1] x S σ) S).bind λσ S=>runs (Zg F (d+2)) (.asg [2] (.call st [(.v 0),(.v 1)])::B) σ S) (Zl 0 k.toNat) (some (.loc 0)::none::none::List.replicate m none) S=.ok (.nx σ1) S1:=by
  rw[show Yr ⟨Zl 0 k.toNat,[]⟩ (λx σ S=>(ob (assign [1] x S σ) S).bind λσ S=>runs (Zg F (d+2)) (.asg [2] (.call st [(.v 0),(.v 1)])::B) σ S) (Zl 0 k.toNat)=Yr ⟨Zl 0 k.toNat,[]⟩ (λx σ S=>(ob (assign [1] x S σ) S).bind λσ S=>runs (Zg F (d+2)) (.asg [2] (.call st [(.v 0),(.v 1)])::B) σ S) (.int 0::(List.range j).map λ(i:Nat)=>D.int (0+((i+1:Nat):Int))) from congrArg _ hr]
  rw[Yr,Pj (by rfl),ea]
  exact e1
 obtain⟨a1,a2,as,rfl,hm,hs1⟩:=hq1;obtain⟨s2,e2⟩:=he s1;have hE:Eu S1 (· = n1) n1 S1.length (λ_=>none) (List.replicate (m+3) none) [] (some (.loc 0)::a1::a2::as):={
  xz:=rfl
  xb:=λn h=>by rw[h];exact Yl hd1.1
  bs:=Po _
  len:=by simp[hm]
  osW:=λi=>rfl
  inj:=λi j n h=>by cases h
  pl:=λi n h=>by cases h
  own:=λi n h=>by cases h
  val:=λi v h _=>by
   rw[PZ] at h;split at h <;> cases h }
 have hSi:=X5 (Ws (F:=F) (tk:=tk) (n0:=n1) hT (d+2)) [] [.ret e] hE hd1;rw[e2] at hSi;obtain⟨g,S',e3,x3,w3,f3⟩:=hSi;cases g with
 |nx v=>exact f3.elim
 |brk v=>exact f3.elim
 |cnt v=>exact f3.elim
 |ret v=>
 have hvv:v=.bl true:=by
  have f3:=f3;unfold Rep at f3;exact f3
 subst hvv;refine⟨S',?_⟩;rw[show d+3=(d+2)+1 from rfl,Zg,hL]
 show (runs (Zg F (d+2)) (.forr [1] (.rng1 (.blt .max2 [(.c (.int 1)),(.blt .min2 [(.blt .len [(.v 0)]),(.c (.int M))])])) _ :: .ret e::[]) (some (.loc 0)::List.replicate (m+3-1) none) S).bind _=_;rw[show List.replicate (m+3-1) (none:Option D)=none::none::List.replicate m none from rfl]
 have er:ev (Zg F (d+2)) (.blt .max2 [(.c (.int 1)),(.blt .min2 [(.blt .len [(.v 0)]),(.c (.int M))])]) (some (.loc 0)::none::none::List.replicate m none) S=.ok (.int k) S:=by
  simp[Ev.Zg,Ev.runs,Ev.run,evE,Ev.evs,Ev.evo,Ev.evt,Ev.tst,Ev.R.bind,Ev.ob,Ev.start,Ev.lim,evF,h1,k]
 have ew:evw (Zg F (d+2)) (.rng1 (.blt .max2 [(.c (.int 1)),(.blt .min2 [(.blt .len [(.v 0)]),(.c (.int M))])])) (some (.loc 0)::none::none::List.replicate m none) S=.ok ⟨Zl 0 k.toNat,[]⟩ S:=by
  rw[evw,er];show (if ZB k=true then _ else _)=_
  rw[Pj hk2]
 rw[xl (σ':=some (.loc 0)::a1::a2::as) (S':=S1) (by rw[run,ew];exact e1),e3];rfl
end
end Lw
namespace Bo
noncomputable def Ug (p:Int) (b:List Int) (z:List Int×Int) (i:Nat):List Int×Int:=(z.1++[b.getD i 0+z.2*p*b.getD (i+1) 0],z.2*p)
noncomputable def QV (p:Int) (b:List Int):List Int:=((List.range (b.length-1)).foldl (Ug p b) ([1],1)).1++[1]
noncomputable def Ym (p:Int):Nat->List Int
 |0=>[1]
 |n+1=>QV p (Ym p n)
noncomputable def pwI (p:Int):Nat->List Int
 |0=>[1]
 |n+1=>let l:=pwI p n;l++[l.getD n 0*p]
noncomputable def xX (w:List Int) (n k:Nat) (z:Int×Int) (i:Nat):Int×Int:=(z.1*(w.getD n 0-w.getD i 0),z.2*(w.getD k 0-w.getD i 0))
noncomputable def J9 (w:List Int) (n k:Nat):Int×Int:=(List.range k).foldl (xX w n k) (1,1)
noncomputable def VV:Int:=5^41
noncomputable def chk (p:Int) (n:Nat):Bool:=
 let b:=Ym p n
 let w:=pwI p n
 decide (b.length=n+1)&&(b.all (λx=>decide (0<=x)&&decide (x<Ev.big))&&(decide (w.length=n+1)&&(w.all (λx=>decide (0<=x)&&decide (x<VV))&&(decide (b.getD 0 0=1)&&(decide (b.getD n 0=1) &&
  (List.range (n+1)).all λk=>let d:=J9 w n k;decide (0<d.2)&&(decide (d.2<Ev.big)&&decide (d.1 / d.2=b.getD k 0)))))))
theorem xq:([2,3,5].all λp=>(List.range 41).all λn=>chk p n)=true:=by decide +kernel
end Bo
namespace K31
open Ev Pv Bo
noncomputable abbrev CV (d:Nat):Zy:=ZM fns 2 d
noncomputable def isW (x:V) (lo hi:Int):Bool:=match x with
 |.int i=>decide (lo<=i)&&decide (i<=hi)
 |_=>false
noncomputable abbrev ZD (l:List Int):V:=.lst (l.map .int)
theorem Vt {C:Zy}{x:V}{lo hi:Int}{s:DS}(hx:x≠.drw):rvs C [] [.ret (.and (.isi (.v 0) [.int]) (.and (.not (.isi (.v 0) [.bool])) (.chain .le .le (.v 1) (.v 0) (.v 2))))] [some x,some (.int lo),some (.int hi)] [] s=.ok (.ret (.bl (isW x lo hi))) s:=by
 cases x with
 |drw=>exact absurd rfl hx
 |int i=>
  by_cases h:lo<=i
  ·simp[pvE,isW,YK,WX,YM,h]
  ·simp[pvE,isW,YK,WX,YM,h]
 |_=>simp[pvE,isW,YK,WX]
theorem XO (d:Nat) {x:V}{lo hi:Int}(s:DS) (hx:x≠.drw):CV (d+1) 9 [x,.int lo,.int hi] s=.ok (.bl (isW x lo hi)) s:=
 Yo (fn:=XC) rfl (by decide) rfl (Vt hx)
theorem UJ (d:Nat) {x:V}{lo hi:Int}(s:DS) (hx:x≠.drw):CV (d+1) 3 [x,.int lo,.int hi] s=.ok (.bl (isW x lo hi)) s:=
 Yo (fn:=WW) rfl (by decide) rfl (Vt hx)
theorem Jy {F:List Fn}{tk d f c:Nat}{vs:List V}{s s':DS}{fn:Fn}(hf:F[f]? = some fn) (hne:f≠tk) (hl:vs.length=fn.ps) (h:rvs (ZM F tk d) (muts fn.body) fn.body (YD fn.ns vs) [] s=.ex c s'):ZM F tk (d+1) f vs s=.ex c s':=by
 rw[G7 hf hne hl,h];rfl
theorem QN {C:Zy}{ms:List Nat}{m:Sm}{l:List Sm}{ρ:Env}{os:List Nat}{s s':DS}{c:Nat}(h:rv C ms m ρ os s=.ex c s'):rvs C ms (m::l) ρ os s=.ex c s':=by rw[rvs,h];rfl
theorem Wu {C:Zy}{ρ:Env}{s s1 s':DS}{f c:Nat}{as:List E}{vs:List V}(h:pvs C as ρ s=.ok vs s1) (hc:C f vs s1=.ex c s'):pv C (.call f as) ρ s=.ex c s':=by rw[pv,h];exact hc
theorem zo {C:Zy}{ms:List Nat}{ρ:Env}{os:List Nat}{s s':DS}{f c:Nat}{as:List E}(h:pv C (.call f as) ρ s=.ex c s'):rv C ms (.ex (.call f as)) ρ os s=.ex c s':=by
 rw[rv,h]
 ·rfl
 ·intro i e z;cases z
 ·intro i e z;cases z
theorem YL (d:Nat) {x:V}{lo hi:Int}(s:DS) (hx:x≠.drw) (h1:ZB lo=true) (h2:ZB hi=true):CV (d+2) 4 [x,.int lo,.int hi] s=if isW x lo hi=true then .ok .non s else .ex 3 s:=by
 have e:=UJ d (lo:=lo) (hi:=hi) s hx;by_cases h:isW x lo hi=true
 ·rw[Pj h]
  rw[h] at e;refine yf (fn:=ZO) rfl (by decide) rfl (ρ:=[some x,some (.int lo),some (.int hi)]) (os:=[]) ?_
  show rvs (CV (d+1)) [] ZO.body [some x,some (.int lo),some (.int hi)] [] s=_;simp[ZO,pvE,e]
 ·rw[Pm h]
  have h:isW x lo hi=false:=by simpa using h
  rw[h] at e;refine Jy (fn:=ZO) rfl (by decide) rfl ?_
  show rvs (CV (d+1)) [] ZO.body [some x,some (.int lo),some (.int hi)] [] s=_;simp[ZO,pvE,e,pv.eq_26,h1,h2];rfl
noncomputable def isB (x:V):Bool:=match x with
 |.int i=>decide (i=2)||(decide (i=3)||decide (i=5))
 |_=>false
theorem vW {x:V}(h:isB x=true):∃p:Int,x=.int p/\(p=2\/p=3\/p=5):=by
 cases x with
 |int i=>exact⟨i,rfl,by simpa [isB] using h⟩
 |_=>cases h
theorem Jx (d:Nat) {x:V}(s:DS) (hx:x≠.drw):CV (d+2) 5 [x] s=.ok (.bl (isB x)) s:=by
 have e:=UJ d (lo:=2) (hi:=5) s hx;refine Yo (fn:=Yj) rfl (by decide) rfl ?_
 show rvs (CV (d+1)) [] Yj.body [some x] [] s=_;cases x with
 |drw=>exact absurd rfl hx
 |int i=>
  by_cases h:isW (.int i) 2 5=true
  ·rw[h] at e
   simp[Yj,pvE,e,isB]
  ·have h:isW (.int i) 2 5=false:=by simpa using h
   rw[h] at e;have:isB (.int i)=false:=by
    simp[isW] at h;simp[isB];omega
   simp[Yj,pvE,e,this]
 |_=>
  have e:CV (d+1) 3 _ s=.ok (.bl false) s:=e;simp[Yj,pvE,e,isB]
theorem Xj {b:List Int}{k:Int}{i:Nat}(hk:k=i) (h:i<b.length):at' (b.map V.int) k=some (.int (b.getD i 0)):=by
 subst hk;exact zk (by rw[PP,Pb h,PQ,Pb h];rfl)
theorem Uv {x:Int}{j:Nat}(h0:0<=x) (h1:x<=((5^j:Nat):Int)) (hj:j<=41):fits x=true:=by
 unfold fits;refine PB ?_;have h2:5^j<=5^41:=NH (by omega) hj
 have h3:x.natAbs<=5^41:=by
  generalize 5^41=u at h2 ⊢;generalize 5^j=v at h1 h2;omega
 exact Nat.lt_of_le_of_lt h3 (by decide +kernel)
theorem z9 {p:Int}(hp:0<=p/\p<=5):fits p=true:=UY (by omega) (by omega)
theorem G4 {C:Zy}{ρ:Env}{s s1 s':DS}{a e:E}{i j:Nat}(h:pv C a ρ s=.ok (.int i) s1) (h2:pv C e ρ s1=.ok (.int j) s') (hij:i<=j) (hj:j<1000000):pvw C (.rng2 a e) ρ s=.ok ((List.range (j-i)).map λ(k:Nat)=>V.int ((i:Int)+(k:Int))) s':=by
 rw[pvw,h,Zd,h2,Zd];show (if (ZB (i:Int)&&ZB (j:Int))=true then PR.ok (Xm i ((j:Int)-i).toNat) s' else .no)=_
 rw[Pj (by rw[YH (i:=(i:Int)) (by omega) (by omega),YH (i:=(j:Int)) (by omega) (by omega)];rfl),show ((j:Int)-i).toNat=j-i by omega]
 rfl
theorem UZ (d:Nat) {p:Int}{b:List Int}(s:DS) (hp:0<=p/\p<=5) (hb:∀i,i<b.length->fits (b.getD i 0)=true) (h1:1<=b.length) (h2:b.length<=41):CV (d+1) 6 [.int p,ZD b] s=.ok (ZD (QV p b)) s:=by
 refine Yo (fn:=Yh) rfl (by decide) rfl ?_
 show rvs (CV d) [2,2] Yh.body [some (.int p),some (ZD b),none,none,none] [] s=_
 dsimp only[Yh]
 rw[Zp (ρ':=[some (.int p),some (ZD b),some (ZD [1]),none,none]) (os':=[2]) (s':=s) (by simp[pvE,Zt,V.flat,ofD])]
 rw[Zp (ρ':=[some (.int p),some (ZD b),some (ZD [1]),some (.int 1),none]) (os':=[2]) (s':=s) (by simp[pvE,Zt,V.flat,ofD,fresh])]
 obtain⟨o,hI,e⟩:=Wa (C:=CV d) (ms:=[2,2]) (t:=[4]) (it:=.rng2 (.c (.int 1)) (.blt .len [(.v 1)])) (b:=[.aug 3 .mul (.v 0),.ex (.mt .append (.v 2) [(.bin .add (.ix (.v 1) (.bin .sub (.v 4) (.c (.int 1)))) (.bin .mul (.v 3) (.ix (.v 1) (.v 4))))])]) (L:=List.range (b.length-1)) (e:=λ(i:Nat)=>V.int (1+(i:Int))) (step:=Ug p b) (ρ:=λst o=>[some (.int p),some (ZD b),some (ZD st.1),some (.int st.2),o]) (st:=([1],1)) (o:=none) (os:=[2]) (s:=s)
  (λl st=>(∀i∈l,i+1<b.length)/\∃j,j+l.length<=40/\0<=st.2/\st.2<=((5^j:Nat):Int)/\st.1.length=j+1)
  (G4 (i:=1) (j:=b.length) (s1:=s) (by simp[pvE,ofD]) (by simp[pvE]) h1 (by omega))
  ⟨λi hi=>by have:=Nm.mp hi;omega,0,by simp;omega,by simp,by simp,rfl⟩ rfl (λi l st o ⟨hi,j,a1,a2,a3,a4⟩=>by
   have i1:=hi i (Pq ..);simp only[PF] at a1;have f1:fits st.2=true:=Uv a2 a3 (by omega)
   have m1:0<=st.2*p:=Int.mul_nonneg a2 hp.1;have m2:st.2*p<=((5^(j+1):Nat):Int):=by
    rw[Nat.pow_succ,Int.natCast_mul];exact Int.mul_le_mul a3 hp.2 hp.1 (by omega)
   have f2:fits (st.2*p)=true:=Uv m1 m2 (by omega)
   have g1:at' (b.map V.int) (1+(i:Int)-1)=some (.int (b.getD i 0)):=Xj (by omega) (by omega)
   have g2:at' (b.map V.int) (1+(i:Int))=some (.int (b.getD (i+1) 0)):=Xj (by omega) (by omega)
   refine⟨⟨λk hk=>hi k (Pn _ hk),j+1,by omega,m1,m2,by simp[Ug,a4]⟩,rfl,[some (.int p),some (ZD b),some (ZD st.1),some (.int st.2),some (.int (1+(i:Int)))],some (.int (1+(i:Int))),rfl,?_⟩
   rw[Zp (ρ':=[some (.int p),some (ZD b),some (ZD st.1),some (.int (st.2*p)),some (.int (1+(i:Int)))]) (os':=[2]) (s':=s) (by simp[pvE,Gc,YY,f1,z9 hp])]
   have f3:=hb (i+1) i1;show rvs _ _ _ _ _ _=PR.ok (FlV.nx [some (.int p),some (ZD b),some (ZD (st.1++[b.getD i 0+st.2*p*b.getD (i+1) 0])),some (.int (st.2*p)),some (.int (1+(i:Int)))] [2]) s;generalize b.getD i 0=u at g1 ⊢;generalize b.getD (i+1) 0=v at g2 f3 ⊢;have l1:st.1.length<16777216:=by omega
   rw[Zp (ρ':=[some (.int p),some (ZD b),some (ZD (st.1++[u+st.2*p*v])),some (.int (st.2*p)),some (.int (1+(i:Int)))]) (os':=[2]) (s':=s) (by simp[pvE,YY,f2,f3,g1,g2,V.flat,ofD,YR,l1])]
   rw[rvs])
 rw[Zp e];obtain⟨_,j,b1,_,_,b4⟩:=hI;have l2:((List.range (b.length-1)).foldl (Ug p b) ([1],1)).1.length<16777216:=by simp only[List.length_nil] at b1;omega
 rw[Zp (ρ':=[some (.int p),some (ZD b),some (ZD (QV p b)),some (.int ((List.range (b.length-1)).foldl (Ug p b) ([1],1)).2),o]) (os':=[2]) (s':=s) (by simp[pvE,V.flat,ofD,YR,QV,l2])]
 exact Wd (VS (ZZ rfl))
theorem wc {p:Int}{n:Nat}(hp:p=2\/p=3\/p=5) (hn:n<=40):chk p n=true:=by
 have h:=PH.mp xq p (by rcases hp with rfl | rfl | rfl <;> simp)
 exact PH.mp h n (Nm.mpr (by omega))
structure Chk (p:Int) (n:Nat):Prop where
 bl:(Ym p n).length=n+1
 bf:∀i,i<n+1->fits ((Ym p n).getD i 0)=true
 wl:(pwI p n).length=n+1
 w0:∀i,i<n+1->0<=(pwI p n).getD i 0
 w1:∀i,i<n+1->(pwI p n).getD i 0<VV
 b0:(Ym p n).getD 0 0=1
 bn:(Ym p n).getD n 0=1
 d0:∀k,k<n+1->0<(J9 (pwI p n) n k).2
 d1:∀k,k<n+1->(J9 (pwI p n) n k).2<Ev.big
 de:∀k,k<n+1->(J9 (pwI p n) n k).1 / (J9 (pwI p n) n k).2=(Ym p n).getD k 0
theorem WS {b:List Int}{i:Nat}(h:i<b.length):b.getD i 0∈b:=by
 rw[PQ,Pb h];exact N9 h
theorem WD {p:Int}{n:Nat}(hp:p=2\/p=3\/p=5) (hn:n<=40):Chk p n:=by
 have h:=wc hp hn;unfold chk at h;simp only[Ph,Nv,PH,Nm] at h;obtain⟨h1,h2,h3,h4,h5,h6,h7⟩:=h;refine⟨h1,λi hi=>?_,h3,λi hi=>(h4 _ (WS (by omega))).1,λi hi=>(h4 _ (WS (by omega))).2,h5,h6,λk hk=>(h7 k hk).1,λk hk=>(h7 k hk).2.1,λk hk=>(h7 k hk).2.2⟩
 have:=h2 _ (WS (by omega:i<(Ym p n).length))
 unfold fits;refine PB ?_;have b:=this.2;unfold Ev.big at b;generalize (Ym p n).getD i 0=x at this b;have e:((2:Int)^8000)=((2^8000:Nat):Int):=by rw[Int.natCast_pow];rfl
 rw[e] at b;generalize 2^8000=z at b ⊢;omega
theorem box (d:Nat) {p:Int}{n k:Nat}(s:DS) (hp:p=2\/p=3\/p=5) (hn:n<=40) (hk:k<=n):CV (d+3) 7 [.int p,.int n,.int k] s=.ok (.int ((Ym p n).getD k 0)) s:=by
 have e1:=Jx d (x:=.int p) s (by intro z;cases z)
 have e2:=YL d (x:=.int n) (lo:=0) (hi:=40) s (by intro z;cases z) rfl rfl
 have e3:=YL d (x:=.int k) (lo:=0) (hi:=n) s (by intro z;cases z) rfl (YH (by omega) (by omega))
 rw[show isB (.int p)=true by rcases hp with rfl | rfl | rfl <;> rfl] at e1
 rw[Pj (by simp[isW];omega)] at e2 e3
 refine Yo (fn:=W7) rfl (by decide) rfl ?_
 show rvs (CV (d+2)) [] W7.body [some (.int p),some (.int n),some (.int k),none,none] [] s=_
 dsimp only[W7]
 rw[Zp (ρ':=[some (.int p),some (.int n),some (.int k),none,none]) (os':=[]) (s':=s) (by simp[pvE,e1])]
 rw[Zp (Gu (ZJ (s1:=s) (vs:=[.int n,.int 0,.int 40]) (by simp[pvE,ofD]) e2))]
 rw[Zp (Gu (ZJ (s1:=s) (vs:=[.int k,.int 0,.int n]) (by simp[pvE,ofD]) e3))]
 rw[Zp (ρ':=[some (.int p),some (.int n),some (.int k),some (ZD (Ym p 0)),none]) (os':=[]) (s':=s) (by simp[pvE,ofD,Ym])]
 obtain⟨o,hI,e⟩:=Wa (C:=CV (d+2)) (ms:=[]) (t:=[4]) (it:=.rng1 (.v 1)) (b:=[.asg [3] (.call 6 [(.v 0),(.v 3)])]) (L:=List.range n) (e:=Y9) (step:=λj _=>j+1) (ρ:=λj o=>[some (.int p),some (.int n),some (.int k),some (ZD (Ym p j)),o]) (st:=0) (o:=none) (os:=[]) (s:=s)
  (λl j=>j+l.length=n) (V6 (ZZ rfl) (by omega)) (by simp) rfl (λi l j o hj=>by
   simp only[PF] at hj;have c:=WD hp (show j<=40 by omega)
   refine⟨by omega,rfl,_,some (Y9 i),rfl,?_⟩
   rw[Zp (XM (ZJ (Zw (ZZ rfl) (Zw (ZZ rfl) Y8)) (UZ (d+1) s (by omega) (λi hi=>c.bf i (by rw[c.bl] at hi;exact hi)) (by rw[c.bl];omega) (by rw[c.bl];omega))) rfl),rvs]
   rfl)
 rw[Zp e];simp only[List.length_nil,Nat.add_zero] at hI;rw[hI];have c:=WD hp hn;refine Wd (VS ?_);have g:at' ((Ym p n).map V.int) (k:Int)=some (.int ((Ym p n).getD k 0)):=Xj rfl (by rw[c.bl];omega)
 rw[pv,ZZ rfl,Zd,ZZ rfl,Zd];show po (at' ((Ym p n).map V.int) (k:Int)) s=_;rw[g];rfl
noncomputable def ok3 (x y z:V):Bool:=isB x&&(isW y 0 40&&match y with
 |.int n=>isW z 0 n
 |_=>false)
theorem wW (d:Nat) {x y z:V}(s:DS) (hx:x≠.drw) (hy:y≠.drw) (hz:z≠.drw) (h:ok3 x y z=false):CV (d+3) 7 [x,y,z] s=.ex 3 s:=by
 have e1:=Jx d (x:=x) s hx;have e2:=YL d (x:=y) (lo:=0) (hi:=40) s hy rfl rfl;refine Jy (fn:=W7) rfl (by decide) rfl ?_
 show rvs (CV (d+2)) [] W7.body [some x,some y,some z,none,none] [] s=_
 dsimp only[W7]
 unfold ok3 at h;cases c1:isB x with
 |false=>
  rw[c1] at e1;refine QN ?_;simp[pvE,e1];rfl
 |true=>
  rw[c1,Bool.true_and] at h;rw[c1] at e1;rw[Zp (ρ':=[some x,some y,some z,none,none]) (os':=[]) (s':=s) (by simp[pvE,e1])]
  cases c2:isW y 0 40 with
  |false=>
   rw[c2,Pm (by simp)] at e2
   exact QN (zo (Wu (s1:=s) (vs:=[y,.int 0,.int 40]) (by simp[pvE,ofD]) e2))
  |true=>
   rw[c2,Bool.true_and] at h;rw[c2,Pj rfl] at e2;rw[Zp (Gu (ZJ (s1:=s) (vs:=[y,.int 0,.int 40]) (by simp[pvE,ofD]) e2))]
   cases y with
   |int n=>
    have hn:0<=n/\n<=40:=by simpa [isW] using c2
    have e3:=YL d (x:=z) (lo:=0) (hi:=n) s hz rfl (YH hn.1 (by omega))
    have h:isW z 0 n=false:=h;rw[h,Pm (by simp)] at e3
    exact QN (zo (Wu (s1:=s) (vs:=[z,.int 0,.int n]) (by simp[pvE,ofD]) e3))
   |_=>cases c2
theorem GL {x y T:Int}(hx:0<=x) (hx':x<T) (hy:0<=y) (hy':y<T):(x-y).natAbs<=T.natAbs:=by omega
theorem WL {x:Int}{j:Nat}(h:x.natAbs<=VV.natAbs^j) (hj:j<=41):fits x=true:=by
 unfold fits;refine PB (Nat.lt_of_le_of_lt (PY h (NH (by decide +kernel) hj)) (by decide +kernel))
theorem JC {x y:Int}{j:Nat}(h:x.natAbs<=VV.natAbs^j) (hy:y.natAbs<=VV.natAbs):(x*y).natAbs<=VV.natAbs^(j+1):=by
 rw[Int.natAbs_mul,Nat.pow_succ];exact Nat.mul_le_mul h hy
theorem Qw {x:Int}(h:x.natAbs<=VV.natAbs):fits x=true:=WL (j:=1) (by rw[Nat.pow_one];exact h) (by decide)
theorem vm (p:Int) (n:Nat):(pwI p (n+1))=pwI p n++[(pwI p n).getD n 0*p]:=rfl
theorem due (d:Nat) {p:Int}{n k:Nat}(s:DS) (hp:p=2\/p=3\/p=5) (hn:n<=40) (hk:k<=n):CV (d+1) 10 [.int p,.int n,.int k] s=.ok (.int ((Ym p n).getD k 0)) s:=by
 refine Yo (fn:=YJ) rfl (by decide) rfl ?_
 show rvs (CV d) [3] YJ.body [some (.int p),some (.int n),some (.int k),none,none,none,none,none] [] s=_
 dsimp only[YJ]
 have C:=WD hp hn;rw[Zp (ρ':=[some (.int p),some (.int n),some (.int k),some (ZD (pwI p 0)),none,none,none,none]) (os':=[3]) (s':=s) (by simp[pvE,Zt,V.flat,ofD,pwI])]
 obtain⟨o,hI,e⟩:=Wa (C:=CV d) (ms:=[3]) (t:=[4]) (it:=.rng1 (.v 1)) (b:=[.ex (.mt .append (.v 3) [(.bin .mul (.ix (.v 3) (.neg (.c (.int 1)))) (.v 0))])]) (L:=List.range n) (e:=Y9) (step:=λj _=>j+1) (ρ:=λj o=>[some (.int p),some (.int n),some (.int k),some (ZD (pwI p j)),o,none,none,none]) (st:=0) (o:=none) (os:=[3]) (s:=s)
  (λl j=>j+l.length=n) (V6 (ZZ rfl) (by omega)) (by simp) rfl (λi l j o hj=>by
   simp only[PF] at hj;have c:=WD hp (show j<=40 by omega)
   refine⟨by omega,rfl,[some (.int p),some (.int n),some (.int k),some (ZD (pwI p j)),some (Y9 i),none,none,none],some (Y9 i),rfl,?_⟩
   rw[vm];have f1:fits ((pwI p j).getD j 0)=true:=Qw (by have:=c.w0 j (by omega);have:=c.w1 j (by omega);omega)
   have f2:fits p=true:=z9 (by omega)
   have hl:=c.wl;have g1:at' ((pwI p j).map V.int) (-1)=some (.int ((pwI p j).getD j 0)):=by
    have:at' ((pwI p j).map V.int) (-1)=at' ((pwI p j).map V.int) (j:Int):=by
     unfold at' ixN;rw[PV,hl];simp;rw[Pj (by omega),Pj (by omega),show (-1+((j:Int)+1)).toNat=j by omega]
    rw[this];exact Xj rfl (by omega)
   generalize (pwI p j).getD j 0=u at f1 g1 ⊢;generalize pwI p j=b at hl g1 ⊢;have l1:b.length<16777216:=by omega
   rw[Zp (ρ':=[some (.int p),some (.int n),some (.int k),some (ZD (b++[u*p])),some (Y9 i),none,none,none]) (os':=[3]) (s':=s) (by simp[pvE,YY,f1,f2,g1,V.flat,ofD,YR,l1])]
   rw[rvs])
 rw[Zp e];simp only[List.length_nil,Nat.add_zero] at hI;rw[hI];clear e hI;have hl:=C.wl;have hw0:=C.w0;have hw1:=C.w1;have hd0:=C.d0 k (by omega)
 have hd1:=C.d1 k (by omega)
 have hde:=C.de k (by omega)
 unfold J9 at hd0 hd1 hde;generalize pwI p n=w at hl hw0 hw1 hd0 hd1 hde ⊢;rw[Zp (ρ':=[some (.int p),some (.int n),some (.int k),some (ZD w),o,some (.int 1),some (.int 1),none]) (os':=[3]) (s':=s) (by simp[pvE,ofD,Zv,Z6,ZR])]
 obtain⟨o2,hI,e⟩:=Wa (C:=CV d) (ms:=[3]) (t:=[7]) (it:=.rng1 (.v 2)) (b:=[.asg [5] (.bin .mul (.v 5) (.bin .sub (.ix (.v 3) (.v 1)) (.ix (.v 3) (.v 7)))),.asg [6] (.bin .mul (.v 6) (.bin .sub (.ix (.v 3) (.v 2)) (.ix (.v 3) (.v 7))))]) (L:=List.range k) (e:=Y9) (step:=xX w n k) (ρ:=λz o'=>[some (.int p),some (.int n),some (.int k),some (ZD w),o,some (.int z.1),some (.int z.2),o']) (st:=(1,1)) (o:=none) (os:=[3]) (s:=s)
  (λl z=>(∀i∈l,i<k)/\∃j,j+l.length=k/\z.1.natAbs<=VV.natAbs^j/\z.2.natAbs<=VV.natAbs^j) (V6 (ZZ rfl) (by omega)) ⟨λi hi=>Nm.mp hi,0,by simp,by simp,by simp⟩ rfl (λi l z o' ⟨hi,j,a1,a2,a3⟩=>by
   have i1:=hi i (Pq ..);simp only[PF] at a1;have f1:fits z.1=true:=WL a2 (by omega)
   have f2:fits z.2=true:=WL a3 (by omega)
   have t1:=GL (hw0 n (by omega)) (hw1 n (by omega)) (hw0 i (by omega)) (hw1 i (by omega))
   have t2:=GL (hw0 k (by omega)) (hw1 k (by omega)) (hw0 i (by omega)) (hw1 i (by omega))
   have g1:at' (w.map V.int) (n:Int)=some (.int (w.getD n 0)):=Xj rfl (by omega)
   have g2:at' (w.map V.int) (k:Int)=some (.int (w.getD k 0)):=Xj rfl (by omega)
   have g3:at' (w.map V.int) (i:Int)=some (.int (w.getD i 0)):=Xj rfl (by omega)
   refine⟨⟨λk hk=>hi k (Pn _ hk),j+1,by omega,JC a2 t1,JC a3 t2⟩,rfl,[some (.int p),some (.int n),some (.int k),some (ZD w),o,some (.int z.1),some (.int z.2),some (Y9 i)],some (Y9 i),rfl,?_⟩
   have f3:=Qw t1;have f4:=Qw t2;show _=PR.ok (FlV.nx [some (.int p),some (.int n),some (.int k),some (ZD w),o,some (.int (z.1*(w.getD n 0-w.getD i 0))),some (.int (z.2*(w.getD k 0-w.getD i 0))),some (Y9 i)] [3]) s;generalize w.getD n 0=un at *;generalize w.getD k 0=uk at *;generalize w.getD i 0=ui at *;rw[Zp (ρ':=[some (.int p),some (.int n),some (.int k),some (ZD w),o,some (.int (z.1*(un-ui))),some (.int z.2),some (Y9 i)]) (os':=[3]) (s':=s) (by simp[pvE,YY,f1,f3,g1,g3,V.flat,Y9,PR.bind,po])]
   rw[Zp (ρ':=[some (.int p),some (.int n),some (.int k),some (ZD w),o,some (.int (z.1*(un-ui))),some (.int (z.2*(uk-ui))),some (Y9 i)]) (os':=[3]) (s':=s) (by simp[pvE,YY,f2,f4,g2,g3,V.flat,Y9,PR.bind,po])]
   rw[rvs])
 rw[Zp e];refine Wd (VS ?_);rw[pv,ZZ rfl,Zd,ZZ rfl,Zd];show (if 0<_/\_<Ev.big then PR.ok (V.int (_ / _)) s else .no)=_
 rw[Pj ⟨hd0,hd1⟩,hde]
theorem zQ (d:Nat) (a b:Int) (s:DS):CV (d+1) 8 [.int a,.int b] s=.ok (.bl (decide (a=b))) s:=by
 refine Yo (fn:=Yu) rfl (by decide) rfl ?_
 show rvs (CV d) [] Yu.body [some (.int a),some (.int b)] [] s=_;simp[Yu,pvE,YK,WX,YM,eqV,ZA]
noncomputable def yB:List Sm:=[.asg [8] (.and (.call 9 [(.ix (.v 7) (.c (.int 0))),(.c (.int 2)),(.c (.int 5))]) (.and (.cmp .ne (.ix (.v 7) (.c (.int 0))) (.c (.int 4))) (.call 9 [(.ix (.v 7) (.c (.int 1))),(.c (.int 0)),(.c (.int 40))]))),
  .ite (.and (.v 8) (.call 9 [(.ix (.v 7) (.c (.int 2))),(.c (.int 0)),(.ix (.v 7) (.c (.int 1)))])) [.ite (.cmp .ne (.call 7 [(.ix (.v 7) (.c (.int 0))),(.ix (.v 7) (.c (.int 1))),(.ix (.v 7) (.c (.int 2)))]) (.call 10 [(.ix (.v 7) (.c (.int 0))),(.ix (.v 7) (.c (.int 1))),(.ix (.v 7) (.c (.int 2)))])) [.ret (.c (.bl false))] []] [.ite (.cmp .ne (.refu (.call 7 [(.ix (.v 7) (.c (.int 0))),(.ix (.v 7) (.c (.int 1))),(.ix (.v 7) (.c (.int 2)))])) (.c (.int 2))) [.ret (.c (.bl false))] []]]
section
variable {C:Zy}{ρ:Env}{s:DS}{x y z:V}
theorem XG (h:ρ[7]? = some (some (.tup [x,y,z]))):pv C (.ix (.v 7) (.c (.int 0))) ρ s=.ok x s:=by rw[pv,ZZ h,Zd,pv];rfl
theorem Xz (h:ρ[7]? = some (some (.tup [x,y,z]))):pv C (.ix (.v 7) (.c (.int 1))) ρ s=.ok y s:=by rw[pv,ZZ h,Zd,pv];rfl
theorem Wh (h:ρ[7]? = some (some (.tup [x,y,z]))):pv C (.ix (.v 7) (.c (.int 2))) ρ s=.ok z s:=by rw[pv,ZZ h,Zd,pv];rfl
theorem ZK {i:Int}:pv C (.c (.int i)) ρ s=.ok (.int i) s:=by rw[pv];rfl
theorem pvs3 {a b c:E}{u v w:V}(h1:pv C a ρ s=.ok u s) (h2:pv C b ρ s=.ok v s) (h3:pv C c ρ s=.ok w s):pvs C [a,b,c] ρ s=.ok [u,v,w] s:=Zw h1 (Zw h2 (Zw h3 Y8))
theorem QA {a b:E}{c e:Bool}(h1:pv C a ρ s=.ok (.bl c) s) (h2:c=true->pv C b ρ s=.ok (.bl e) s):pv C (.and a b) ρ s=.ok (.bl (c&&e)) s:=by
 rw[pv,h1,Zd];cases c with
 |false=>rfl
 |true=>exact h2 rfl
theorem zh {ms:List Nat}{a b:E}{i:Int}{x l:List Sm}(h1:pv C a ρ s=.ok (.int i) s) (h2:pv C b ρ s=.ok (.int i) s):rvs C ms (.ite (.cmp .ne a b) x []::l) ρ [] s=rvs C ms l ρ [] s:=by
 have e:pv C (.cmp .ne a b) ρ s=.ok (.bl false) s:=by
  rw[pv,h1,Zd,h2,Zd];show po (some (V.bl !(decide (i=i)))) s=_;simp[po]
 rw[Zp ((zj (Qz e rfl)).trans (by rw[Pm (by simp),rvs]))]
end
theorem yR {x:V}:isB x=(isW x 2 5&&match x with
 |.int i=>!(decide (i=4))
 |_=>false):=by
 cases x with
 |int i=>
  show (decide (i=2)||(decide (i=3)||decide (i=5)))=(decide (2<=i)&&decide (i<=5) && !(decide (i=4)));rw[P3];simp;omega
 |_=>rfl
theorem xF (d:Nat) {x y z:V}(s:DS) (hx:x≠.drw) (hy:y≠.drw) (hz:z≠.drw) {a0 a1 a2 a3 a4 a5 a6 a8:Option V}:∃b,rvs (CV (d+4)) [] yB [a0,a1,a2,a3,a4,a5,a6,some (.tup [x,y,z]),a8] [] s=.ok (.nx [a0,a1,a2,a3,a4,a5,a6,some (.tup [x,y,z]),b] []) s:=by
 refine⟨some (.bl (isB x&&isW y 0 40)),?_⟩;unfold yB;have h7:∀a,([a0,a1,a2,a3,a4,a5,a6,some (.tup [x,y,z]),a]:Env)[7]? = some (some (.tup [x,y,z])):=λa=>rfl
 rw[Zp (XM (v:=.bl (isB x&&isW y 0 40)) (by
  rw[yR,Bool.and_assoc];refine QA (ZJ (pvs3 (XG (h7 _)) ZK ZK) (XO (d+3) s hx)) λh=>?_
  cases x with
  |int i=>
   refine QA ?_ λ_=>ZJ (pvs3 (Xz (h7 _)) ZK ZK) (XO (d+3) s hy)
   rw[pv,XG (h7 _),Zd,ZK,Zd];rfl
  |_=>cases h) rfl)]
 show rvs (CV (d+4)) [] _ [a0,a1,a2,a3,a4,a5,a6,some (.tup [x,y,z]),some (.bl (isB x&&isW y 0 40))] [] s=_;have ht:UI (CV (d+4)) (.and (.v 8) (.call 9 [(.ix (.v 7) (.c (.int 2))),(.c (.int 0)),(.ix (.v 7) (.c (.int 1)))])) [a0,a1,a2,a3,a4,a5,a6,some (.tup [x,y,z]),some (.bl (isB x&&isW y 0 40))] s=.ok (ok3 x y z) s:=by
  refine Qz (v:=.bl (ok3 x y z)) ?_ rfl;have:ok3 x y z=(isB x&&isW y 0 40&&match y with
   |.int n=>isW z 0 n
   |_=>false):=by unfold ok3;rw[Bool.and_assoc]
  rw[this];refine QA (ZZ rfl) λh=>?_
  cases y with
  |int n=>exact ZJ (pvs3 (Wh (h7 _)) ZK (Xz (h7 _))) (XO (d+3) s hz)
  |_=>simp[isW] at h
 refine (Zp ((zj ht).trans (?_:_=PR.ok (FlV.nx _ []) s))).trans (by rw[rvs])
 cases c:ok3 x y z with
 |true=>
  rw[Pj rfl];unfold ok3 at c;rw[Ph,Ph] at c;obtain⟨c1,c2,c3⟩:=c;obtain⟨p,rfl,hp⟩:=vW c1;cases y with
  |int n=>
   cases z with
   |int k=>
    have h1:0<=n/\n<=40:=by simpa [isW] using c2
    have h2:0<=k/\k<=n:=by simpa [isW] using c3
    obtain⟨n,rfl⟩:∃m:Nat,n=m:=⟨n.toNat,by omega⟩
    obtain⟨k,rfl⟩:∃m:Nat,k=m:=⟨k.toNat,by omega⟩
    rw[zh (ZJ (pvs3 (XG (h7 _)) (Xz (h7 _)) (Wh (h7 _))) (box (d+1) s hp (by omega) (by omega))) (ZJ (pvs3 (XG (h7 _)) (Xz (h7 _)) (Wh (h7 _))) (due (d+3) s hp (by omega) (by omega))),rvs]
   |_=>cases c3
  |_=>cases c2
 |false=>
  rw[Pm (by simp)]
  have e:=Wu (ρ:=[a0,a1,a2,a3,a4,a5,a6,some (.tup [x,y,z]),some (.bl (isB x&&isW y 0 40))]) (pvs3 (XG (h7 _)) (Xz (h7 _)) (Wh (h7 _))) (wW (d+1) s hx hy hz c);rw[zh (i:=2) (by rw[pv,e];rfl) ZK,rvs]
noncomputable def yX (n:Int):List V:=[.int (-1),.int 41,.bl true,.bl false,.non,.str (PySem.Str.ofString "2"),.tup [.int 2],.int (10^29),.int 4,.int 1,.int (n+1),.lst [.int 2],.int 7]
theorem wj {n:Int}:∀v∈yX n,v≠.drw:=by
 intro v h;unfold yX at h;simp at h;rcases h with rfl | rfl | rfl | rfl | rfl | rfl | rfl | rfl | rfl | rfl | rfl | rfl | rfl <;> (intro z;cases z)
noncomputable def G3:List Sm:=[.asg [3] (.ix (.lst [(.c (.int 2)),(.c (.int 3)),(.c (.int 5))]) (.call 2 [(.v 2),(.c (.int 3))])),
  .asg [4] (.ix (.lst [(.c (.int 40)),(.call 2 [(.v 2),(.c (.int 41))]),(.call 2 [(.v 2),(.c (.int 8))])]) (.call 2 [(.v 2),(.c (.int 3))])),
  .asg [5] (.call 2 [(.v 2),(.bin .add (.v 4) (.c (.int 1)))]),
  .ite (.or (.not (.call 8 [(.call 7 [(.v 3),(.v 4),(.v 5)]),(.call 10 [(.v 3),(.v 4),(.v 5)])])) (.or (.cmp .ne (.call 7 [(.v 3),(.v 4),(.c (.int 0))]) (.c (.int 1))) (.cmp .ne (.call 7 [(.v 3),(.v 4),(.v 4)]) (.c (.int 1))))) [.ret (.c (.bl false))] [],
  .asg [6] (.ix (.lst [(.neg (.c (.int 1))),(.c (.int 41)),(.c (.bl true)),(.c (.bl false)),(.c .non),(.c (.str (PySem.Str.ofString "2"))),(.tup [(.c (.int 2))]),(.bin .pow (.c (.int 10)) (.c (.int 29))),(.c (.int 4)),(.c (.int 1)),(.bin .add (.v 4) (.c (.int 1))),(.lst [(.c (.int 2))]),(.c (.int 7))]) (.call 2 [(.v 2),(.c (.int 13))])),
  .forr [7] (.of (.lst [(.tup [(.v 6),(.v 4),(.v 5)]),(.tup [(.v 3),(.v 6),(.v 5)]),(.tup [(.v 3),(.v 4),(.v 6)]),(.tup [(.v 6),(.v 6),(.v 5)]),(.tup [(.v 3),(.v 6),(.v 6)])])) yB]
theorem pick {C:Zy}{ρ:Env}{s s1 s2:DS}{e i:E}{xs:List V}{v:Int}(h1:pv C e ρ s=.ok (.lst xs) s1) (h2:pv C i ρ s1=.ok (.int v) s2) (h0:0<=v) (hv:v<xs.length):∃x,x∈xs/\pv C (.ix e i) ρ s=.ok x s2:=by
 obtain⟨k,rfl⟩:∃k:Nat,v=k:=⟨v.toNat,by omega⟩
 have hk:k<xs.length:=by omega
 refine⟨xs[k],N9 hk,?_⟩;rw[pv,h1,Zd,h2,Zd];show po (at' xs (k:Int)) s2=_;rw[zk (Pb hk)];rfl
theorem YF (d:Nat) (s:DS) {m:Int}{ρ:Env}{e:E}(hd:ρ[2]? = some (some .drw)) (he:pv (CV (d+1)) e ρ s=.ok (.int m) s) (h0:0<m) (h1:m<1000):∃v s',pv (CV (d+1)) (.call 2 [(.v 2),e]) ρ s=.ok (.int v) s'/\0<=v/\v<m:=by
 obtain⟨v,s',e1,b⟩:=vQ (F:=fns) (tk:=2) (d:=d) (m:=m) s h0 (by omega)
 exact⟨v,s',ZJ (Zw (ZZ hd) (Zw he Y8)) e1,b⟩
theorem GY (d:Nat) (k:Nat) (s:DS):∃ρ' os' s',rvs (CV (d+4)) [] G3 (none::some (.int k)::some .drw::List.replicate 6 none) [] s=.ok (.nx ρ' os') s':=by
 unfold G3;show ∃ρ' os' s',rvs (CV (d+4)) [] _ [none,some (.int k),some .drw,none,none,none,none,none,none] [] s=.ok (.nx ρ' os') s';obtain⟨v,s1,t1,t2,t3⟩:=YF (d+3) s (m:=3) (e:=.c (.int 3)) (ρ:=[none,some (.int k),some .drw,none,none,none,none,none,none]) rfl ZK (by decide) (by decide)
 obtain⟨pv',hpm,e1⟩:=pick (e:=.lst [(.c (.int 2)),(.c (.int 3)),(.c (.int 5))]) (xs:=[.int 2,.int 3,.int 5]) (by rw[pv,pvs3 ZK ZK ZK];rfl) t1 t2 t3
 obtain⟨p,rfl,hp⟩:∃p:Int,pv'=.int p/\(p=2\/p=3\/p=5):=by
  simp at hpm;rcases hpm with rfl | rfl | rfl <;> exact⟨_,rfl,by omega⟩
 rw[Zp (XM e1 rfl)];show ∃ρ' os' s',rvs (CV (d+4)) [] _ [none,some (.int k),some .drw,some (.int p),none,none,none,none,none] [] s1=.ok (.nx ρ' os') s';obtain⟨v1,s2,q1,q2,q3⟩:=YF (d+3) s1 (m:=41) (e:=.c (.int 41)) (ρ:=[none,some (.int k),some .drw,some (.int p),none,none,none,none,none]) rfl ZK (by decide) (by decide)
 obtain⟨v2,s3,q4,q5,q6⟩:=YF (d+3) s2 (m:=8) (e:=.c (.int 8)) (ρ:=[none,some (.int k),some .drw,some (.int p),none,none,none,none,none]) rfl ZK (by decide) (by decide)
 obtain⟨v3,s4,q7,q8,q9⟩:=YF (d+3) s3 (m:=3) (e:=.c (.int 3)) (ρ:=[none,some (.int k),some .drw,some (.int p),none,none,none,none,none]) rfl ZK (by decide) (by decide)
 obtain⟨nv,hnm,e2⟩:=pick (e:=.lst [(.c (.int 40)),(.call 2 [(.v 2),(.c (.int 41))]),(.call 2 [(.v 2),(.c (.int 8))])]) (xs:=[.int 40,.int v1,.int v2]) (by rw[pv,Zw ZK (Zw q1 (Zw q4 Y8))];rfl) q7 q8 q9
 obtain⟨n,rfl,hn⟩:∃n:Nat,nv=.int n/\n<=40:=by
  simp at hnm;rcases hnm with rfl | rfl | rfl
  ·exact⟨40,rfl,by omega⟩
  ·exact⟨v1.toNat,by rw[show ((v1.toNat:Nat):Int)=v1 by omega],by omega⟩
  ·exact⟨v2.toNat,by rw[show ((v2.toNat:Nat):Int)=v2 by omega],by omega⟩
 rw[Zp (XM e2 rfl)];show ∃ρ' os' s',rvs (CV (d+4)) [] _ [none,some (.int k),some .drw,some (.int p),some (.int n),none,none,none,none] [] s4=.ok (.nx ρ' os') s';have en1:∀a5 a6 a7 a8 s,pv (CV (d+4)) (.bin .add (.v 4) (.c (.int 1))) [none,some (.int k),some .drw,some (.int p),some (.int n),a5,a6,a7,a8] s=.ok (.int ((n:Int)+1)) s:=λ_ _ _ _ s=>by
  rw[pv,ZZ rfl,Zd,ZK,Zd];rfl
 obtain⟨v4,s5,r1,r2,r3⟩:=YF (d+3) s4 (m:=(n:Int)+1) (ρ:=[none,some (.int k),some .drw,some (.int p),some (.int n),none,none,none,none]) rfl (en1 ..) (by omega) (by omega)
 obtain⟨z,rfl⟩:∃z:Nat,v4=z:=⟨v4.toNat,by omega⟩
 rw[Zp (XM r1 rfl)];show ∃ρ' os' s',rvs (CV (d+4)) [] _ [none,some (.int k),some .drw,some (.int p),some (.int n),some (.int z),none,none,none] [] s5=.ok (.nx ρ' os') s';have C:=WD hp hn;have g:pv (CV (d+4)) (.or (.not (.call 8 [(.call 7 [(.v 3),(.v 4),(.v 5)]),(.call 10 [(.v 3),(.v 4),(.v 5)])])) (.or (.cmp .ne (.call 7 [(.v 3),(.v 4),(.c (.int 0))]) (.c (.int 1))) (.cmp .ne (.call 7 [(.v 3),(.v 4),(.v 4)]) (.c (.int 1))))) [none,some (.int k),some .drw,some (.int p),some (.int n),some (.int z),none,none,none] s5=.ok (.bl false) s5:=by
  have b1:pv (CV (d+4)) (.call 7 [(.v 3),(.v 4),(.v 5)]) [none,some (.int k),some .drw,some (.int p),some (.int n),some (.int z),none,none,none] s5=.ok (.int ((Ym p n).getD z 0)) s5:=ZJ (pvs3 (ZZ rfl) (ZZ rfl) (ZZ rfl)) (box (d+1) s5 hp hn (by omega))
  have b2:pv (CV (d+4)) (.call 10 [(.v 3),(.v 4),(.v 5)]) [none,some (.int k),some .drw,some (.int p),some (.int n),some (.int z),none,none,none] s5=.ok (.int ((Ym p n).getD z 0)) s5:=ZJ (pvs3 (ZZ rfl) (ZZ rfl) (ZZ rfl)) (due (d+3) s5 hp hn (by omega))
  have b3:pv (CV (d+4)) (.call 7 [(.v 3),(.v 4),(.c (.int 0))]) [none,some (.int k),some .drw,some (.int p),some (.int n),some (.int z),none,none,none] s5=.ok (.int 1) s5:=by
   have:=box (k:=0) (d+1) s5 hp hn (by omega)
   rw[C.b0] at this;exact ZJ (pvs3 (ZZ rfl) (ZZ rfl) ZK) this
  have b4:pv (CV (d+4)) (.call 7 [(.v 3),(.v 4),(.v 4)]) [none,some (.int k),some .drw,some (.int p),some (.int n),some (.int z),none,none,none] s5=.ok (.int 1) s5:=by
   have:=box (k:=n) (d+1) s5 hp hn (by omega)
   rw[C.bn] at this;exact ZJ (pvs3 (ZZ rfl) (ZZ rfl) (ZZ rfl)) this
  have b5:=ZJ (Zw b1 (Zw b2 Y8)) (zQ (d+3) ((Ym p n).getD z 0) ((Ym p n).getD z 0) s5);rw[PB rfl] at b5;rw[pv,pv,b5,Zd];show pv _ _ _ _=_;rw[pv,pv,b3,Zd,ZK,Zd];show pv _ _ _ _=_;rw[pv,b4,Zd,ZK,Zd];rfl
 rw[Zp ((zj (Qz g rfl)).trans (by rw[Pm (by simp),rvs]))]
 obtain⟨v6,s6,w1,w2,w3⟩:=YF (d+3) s5 (m:=13) (e:=.c (.int 13)) (ρ:=[none,some (.int k),some .drw,some (.int p),some (.int n),some (.int z),none,none,none]) rfl ZK (by decide) (by decide)
 obtain⟨od,hom,e6⟩:=pick (xs:=yX n) (ρ:=[none,some (.int k),some .drw,some (.int p),some (.int n),some (.int z),none,none,none]) (s:=s5) (C:=CV (d+4)) (e:=.lst [(.neg (.c (.int 1))),(.c (.int 41)),(.c (.bl true)),(.c (.bl false)),(.c .non),(.c (.str (PySem.Str.ofString "2"))),(.tup [(.c (.int 2))]),(.bin .pow (.c (.int 10)) (.c (.int 29))),(.c (.int 4)),(.c (.int 1)),(.bin .add (.v 4) (.c (.int 1))),(.lst [(.c (.int 2))]),(.c (.int 7))]) (by simp[pvE,ofD,yX,YY]) w1 w2 w3
 have ho:=wj od hom;rw[Zp (XM e6 rfl)];show ∃ρ' os' s',rvs (CV (d+4)) [] _ [none,some (.int k),some .drw,some (.int p),some (.int n),some (.int z),some od,none,none] [] s6=.ok (.nx ρ' os') s';obtain⟨ρ',_,e7⟩:=xn (C:=CV (d+4)) (ms:=[]) (t:=[7]) (it:=.of (.lst [(.tup [(.v 6),(.v 4),(.v 5)]),(.tup [(.v 3),(.v 6),(.v 5)]),(.tup [(.v 3),(.v 4),(.v 6)]),(.tup [(.v 6),(.v 6),(.v 5)]),(.tup [(.v 3),(.v 6),(.v 6)])])) (b:=yB) (L:=[(od,.int n,.int z),(.int p,od,.int z),(.int p,.int n,od),(od,od,.int z),(.int p,od,od)]) (e:=λ(q:V×V×V)=>V.tup [q.1,q.2.1,q.2.2]) (os:=[]) (s:=s6) (ρ:=[none,some (.int k),some .drw,some (.int p),some (.int n),some (.int z),some od,none,none])
  (λl ρ=>(∀q∈l,q.1≠.drw/\q.2.1≠.drw/\q.2.2≠.drw)/\∃a7 a8,ρ=[none,some (.int k),some .drw,some (.int p),some (.int n),some (.int z),some od,a7,a8])
  (by
   have t3:∀i j l:Nat,∀u v w:V,([none,some (.int k),some .drw,some (.int p),some (.int n),some (.int z),some od,none,none]:Env)[i]? = some (some u)->([none,some (.int k),some .drw,some (.int p),some (.int n),some (.int z),some od,none,none]:Env)[j]? = some (some v)->([none,some (.int k),some .drw,some (.int p),some (.int n),some (.int z),some od,none,none]:Env)[l]? = some (some w)->pv (CV (d+4)) (.tup [(.v i),(.v j),(.v l)]) [none,some (.int k),some .drw,some (.int p),some (.int n),some (.int z),some od,none,none] s6=.ok (.tup [u,v,w]) s6:=λi j l u v w h1 h2 h3=>by
    rw[pv,pvs3 (ZZ h1) (ZZ h2) (ZZ h3)];rfl
   show pvw _ _ [none,some (.int k),some .drw,some (.int p),some (.int n),some (.int z),some od,none,none] s6=_;rw[pvw,pv,Zw (t3 6 4 5 _ _ _ rfl rfl rfl) (Zw (t3 3 6 5 _ _ _ rfl rfl rfl) (Zw (t3 3 4 6 _ _ _ rfl rfl rfl) (Zw (t3 6 6 5 _ _ _ rfl rfl rfl) (Zw (t3 3 6 6 _ _ _ rfl rfl rfl) Y8))))];rfl)
  ⟨by
   intro q hq;have hi:∀i:Int,V.int i≠.drw:=λi z=>by cases z
   simp only[Pr,P6,NZ] at hq;rcases hq with rfl | rfl | rfl | rfl | rfl
   ·exact⟨ho,hi _,hi _⟩
   ·exact⟨hi _,ho,hi _⟩
   ·exact⟨hi _,hi _,ho⟩
   ·exact⟨ho,ho,hi _⟩
   ·exact⟨hi _,ho,ho⟩,none,none,rfl⟩ rfl (λq l ρ hq=>by
   obtain⟨h1,a7,a8,rfl⟩:=hq;obtain⟨b1,b2,b3⟩:=h1 q (Pq ..);obtain⟨b,e⟩:=xF d s6 b1 b2 b3 (a0:=none) (a1:=some (.int k)) (a2:=some .drw) (a3:=some (.int p)) (a4:=some (.int n)) (a5:=some (.int z)) (a6:=some od) (a8:=a8);exact⟨rfl,_,_,rfl,e,λq' h'=>h1 q' (Pn _ h'),some (.tup [q.1,q.2.1,q.2.2]),b,rfl⟩)
 rw[Zp e7,rvs];exact⟨_,_,_,rfl⟩
theorem yg (d:Nat) (s:DS):∃s',rvs (CV (d+4)) [] [.ret (.and (.cmp .eq (.call 7 [(.c (.int 2)),(.c (.int 6)),(.c (.int 3))]) (.c (.int 1395))) (.cmp .eq (.call 7 [(.c (.int 3)),(.c (.int 4)),(.c (.int 2))]) (.c (.int 130))))] (List.replicate (6+3) none) [] s=.ok (.ret (.bl true)) s':=by
 have b1:=ZJ (C:=CV (d+4)) (ρ:=List.replicate (6+3) none) (pvs3 (ZK (i:=2)) (ZK (i:=6)) (ZK (i:=3))) (box (n:=6) (k:=3) (d+1) s (.inl rfl) (by decide) (by decide))
 have b2:=ZJ (C:=CV (d+4)) (ρ:=List.replicate (6+3) none) (pvs3 (ZK (i:=3)) (ZK (i:=4)) (ZK (i:=2))) (box (n:=4) (k:=2) (d+1) s (.inr (.inl rfl)) (by decide) (by decide))
 rw[show (Ym 2 6).getD 3 0=1395 by decide +kernel] at b1
 rw[show (Ym 3 4).getD 2 0=130 by decide +kernel] at b2
 refine⟨s,Wd (VS ?_)⟩;rw[pv,pv,b1,Zd,ZK,Zd];show pv _ _ _ _=_;rw[pv,b2,Zd,ZK,Zd];rfl
theorem law_ok {ns:List Int}{S:Za}(d:Nat) (hs:S[0]? = some (.scr ns)):∃S',Zg fns (d+5) 12 [.loc 0] S=.ok (.bl true) S':=
 Lw.yZ (F:=fns) (tk:=2) (ca:=0) (st:=1) (L:=12) (M:=10) (B:=G3) (m:=6) (d:=d+2) rfl rfl rfl rfl rfl (by omega) (GY d) (yg d) hs
end K31
namespace PySem.W.Fast
def tw10191655186350609:=0
def tw10234416440050631520:=0
def tw10312522517942022602:=0
def tw10386286299737059257:=0
def tw10432469435061088960:=0
def tw10481708641357808107:=0
def tw10483818279116948460:=0
def tw10554830026423680819:=0
def tw10808298750558068967:=0
def tw10854303813749097095:=0
def tw10896732166717858863:=0
def tw11058926239426777182:=0
def tw1109363498035310842:=0
def tw11172826553052821698:=0
def tw11176465244917818783:=0
def tw11240024351606960122:=0
def tw11618345151834716639:=0
def tw12082909614500117882:=0
def tw12479438199688969200:=0
def tw12694936378714520990:=0
def tw12696588244783983053:=0
def tw13319482871267402819:=0
def tw13401916326502741068:=0
def tw13440176842156711334:=0
def tw13575214486687965223:=0
def tw13609025661101062638:=0
def tw13918333135312230886:=0
def tw139525764974170690:=0
def tw13972566247931079263:=0
def tw13985034068147365136:=0
def tw14177413814127014119:=0
def tw1455199202233179539:=0
def tw14568098597786871083:=0
def tw14730610473571026920:=0
def tw14760597325595320896:=0
def tw14827551049202634205:=0
def tw15067770035800369989:=0
def tw15075398336439361895:=0
def tw15086804863379870973:=0
def tw15090609421558002422:=0
def tw15309162621304941444:=0
def tw1533070569659324571:=0
def tw15426975028762379013:=0
def tw15452453065876680156:=0
def tw15556368545055897774:=0
def tw15710373436727431333:=0
def tw15736992596494008958:=0
def tw15742811153769165796:=0
def tw15817874150827249145:=0
def tw16048796662452154232:=0
def tw16480086290483073870:=0
def tw16679513815521130035:=0
def tw16923529423810121187:=0
def tw16980371783568044559:=0
def tw17033444480733471412:=0
def tw175310483296350655:=0
def tw17729859375229143955:=0
def tw17859181147415581882:=0
def tw17957463413167245802:=0
def tw18053907495794284739:=0
def tw1956512175943153321:=0
def tw211876030682813828:=0
def tw2165269772797589541:=0
def tw2201469064204652280:=0
def tw2505716375265444149:=0
def tw2558639505830808749:=0
def tw2590981689285581601:=0
def tw2654730122843406389:=0
def tw2712458662646593143:=0
def tw2839524576156744412:=0
def tw3030180994348849221:=0
def tw312274795596382375:=0
def tw3705067617238535205:=0
def tw3919696458148491961:=0
def tw4023749936210335229:=0
def tw416385978989622435:=0
def tw4364667411995457684:=0
def tw4376002902365141666:=0
def tw445939134050982547:=0
def tw4477719331005575925:=0
def tw4490840750121977628:=0
def tw4888927040075170239:=0
def tw4918690577463361955:=0
def tw5613868485708333605:=0
def tw5725141832622692085:=0
def tw5918099166725122636:=0
def tw5990661497483576204:=0
def tw6258269407490545358:=0
def tw6351653244398407562:=0
def tw6443515439845090848:=0
def tw6556501507671718931:=0
def tw6829577805095564494:=0
def tw6839045964007883670:=0
def tw6978659140828689943:=0
def tw7168183503436444807:=0
def tw7200095684946103949:=0
def tw7321918984086061951:=0
def tw741495615820266227:=0
def tw752825165063173971:=0
def tw7614874576388435058:=0
def tw7634094771265195449:=0
def tw7713819736990679798:=0
def tw7847742008768626812:=0
def tw8018826552420503666:=0
def tw826863611204450134:=0
def tw8499164383036718201:=0
def tw8593897055105189205:=0
def tw8963983008487920560:=0
def tw8974422825366665079:=0
def tw9015594025085329343:=0
def tw9117344996851583493:=0
def tw9358180279172592785:=0
def tw9371603224874000901:=0
def tw9423351025523398537:=0
def tw9458936886902830548:=0
def tw9502024917938961132:=0
def tw9771124334148037789:=0
def tw9796392462890564935:=0
def tw9884492276705321496:=0
def tw9955934986835646567:=0
end PySem.W.Fast
open PySem PySem.W PyProof.Rows Gn
set_option maxRecDepth 100000 in
set_option maxHeartbeats 0 in
theorem PySem.Challenge.cw_fewspaces_k31_boxes_holds : PySem.Challenge.rw_fewspaces_k31_boxes.Holds := by
  w_on; o_law; k_head; (case hw => w_witness2)
  k_fill
  refine Gn.GI (l := PySem.Challenge.rw_fewspaces_k31_boxes) (F := K31.fns) (L := 12) (c := 234) (Pt := 230) (cl := fun _ => [24, 37, 49, 61, 73, 85, 97, 109, 121, 133, 145]) (fun ns => K31.law_ok (ns := ns) (S := [.scr ns]) 58 rfl) rfl rfl (fun w h Y => PySem.W.km_in_of Y) rfl (fun w => by kernel_rfl!) (fun w => by kernel_rfl!) ?F
  case F =>
    intro w mg fa h KX G hmg;refine' Gn.xt (fs := K31.fs) (zs := K31.zs) (gs := K31.gs) KX G hmg K31.okl.1 (fun i fn e => by rw [List.getElem?_take] at e; split at e; exact e; cases e) ?A ?Z ?Y ?E ?L rfl rfl rfl (by decide +kernel) (Gn.vw (Pp := K31.pp) K31.okl.2.1 K31.okl.2.2 (by kernel_rfl!) (by kernel_rfl!) (by kernel_rfl!) (by kernel_rfl!) (by kernel_rfl!)) ?R
    case A => repeat' (first | exact FnsAt.nil | refine' FnsAt.cons ?h1 ?h2 ?h3 ?h4 ?h5 ?_; (case h1 => k_is); (case h2 => k_is); (case h3 => k_is); (case h4 => k_is); (case h5 => first | exact bd1 fun _ _ _ _ _ _ _ => rfl | exact bd2 fun _ _ _ _ _ _ _ _ => rfl | exact bd3 fun _ _ _ _ _ _ _ _ _ => rfl | exact bd4 fun _ _ _ _ _ _ _ _ _ _ => rfl | exact bd5 fun _ _ _ _ _ _ _ _ _ _ _ => rfl | exact bd6 fun _ _ _ _ _ _ _ _ _ _ _ _ => rfl))
    case L => repeat' (first | exact FnsAt.nil | refine' FnsAt.cons ?h1 ?h2 ?h3 ?h4 ?h5 ?_; (case h1 => k_is); (case h2 => k_is); (case h3 => k_is); (case h4 => k_is); (case h5 => first | exact bd1 fun _ _ _ _ _ _ _ => rfl | exact bd2 fun _ _ _ _ _ _ _ _ => rfl | exact bd3 fun _ _ _ _ _ _ _ _ _ => rfl | exact bd4 fun _ _ _ _ _ _ _ _ _ _ => rfl | exact bd5 fun _ _ _ _ _ _ _ _ _ _ _ => rfl | exact bd6 fun _ _ _ _ _ _ _ _ _ _ _ _ => rfl))
    case Z => repeat' (first | exact ZsAt.nil | refine' ZsAt.cons ?h1 ?_; (case h1 => k_is))
    case Y => repeat' (first | exact GsAt.nil | refine' GsAt.cons ?h1 ?_; (case h1 => k_is) | refine' GsAt.tab ?h1 ?h2 ?h3 ?h4 ?_; (case h1 => k_is); (case h2 => k_is); (case h3 => exact ⟨⟨_, rfl⟩, rfl, ⟨_, rfl⟩, ⟨_, rfl⟩, rfl, ⟨_, rfl⟩, ⟨_, rfl⟩, rfl, ⟨_, rfl⟩, trivial⟩); (case h4 => rfl))
    case E => kernel_rfl!
    case R => rfl
