import PyProof.Rows.All
import Wide.All
import OpenK.AllK
import Wide.FinOn
import Lean
import PyProof.EqAt
import PyProof.EqKinds
import PyProof.TupleCall
import PySem.Str
import PyProof.ListMulAny
import PyProof.NeKinds
import PyProof.ConsumeWalk
import PyProof.CompFree
import PyProof.ZipIter
import PyProof.Draws
import PyProof.EnumMake
import PyProof.SumWalk
import KE.KSortTup
import PyProof.Rows.SortRev
import PyProof.FactsAll.tuple
import KE.KRevIter
import PyProof.FactsAll.range_2
import PySem.Challenge.RW_fewspaces_k43_whole_against
set_option Elab.async false
set_option linter.all false
set_option maxRecDepth 100000
set_option maxHeartbeats 0
abbrev Pa:=@PySem.wpAny_bind
abbrev Pb:=@Option.some.inj
abbrev Pc:=@List.getElem?_eq_getElem
abbrev Pd:=@List.mem_cons_of_mem
abbrev Pe:=@List.mem_cons_self
abbrev Pf:=@List.size_toArray
abbrev Pg:=@PySem.Heap.get?_push_of_some
abbrev Ph:=@if_pos
abbrev Pi:=@if_neg
abbrev Pj:=@PySem.wpAny_pure
abbrev Pk:=@List.length_map
abbrev Pl:=@Nat.le_refl
abbrev Po:=@List.mem_cons
abbrev Pp:=@List.getD_eq_getElem?_getD
abbrev Pq:=@List.getElem?_eq_some_iff
abbrev Pr:=@Bool.false_ne_true
abbrev Pu:=@PySem.Heap.lt_size
abbrev Pw:=@of_decide_eq_true
abbrev Px:=@PySem.Heap.get?_push_size
abbrev Py:=@List.getElem?_append_left
abbrev Pz:=@Bool.and_eq_true
abbrev PB:=@List.length_cons
abbrev PC:=@List.mem_map
abbrev PD:=@decide_eq_true
abbrev PF:=@List.getElem?_map
abbrev PH:=@List.getElem?_set_ne
abbrev PJ:=@Nat.lt_of_lt_of_le
abbrev PK:=@List.pairwise_cons
abbrev PL:=@List.map_cons
abbrev PM:=@List.length_append
abbrev PN:=@List.getElem?_append_right
abbrev PP:=@List.all_eq_true
abbrev PQ:=@Nat.ne_of_lt
abbrev PU:=@List.mem_range
abbrev PV:=@List.length_set
abbrev PX:=@Nat.lt_irrefl
abbrev PY:=@List.length_range
abbrev PZ:=@List.replicate_succ
abbrev P0:=@Nat.le_trans
abbrev P1:=@decide_eq_false
abbrev P2:=@Bool.eq_iff_iff
abbrev P3:=@List.map_map
abbrev P4:=@List.mem_singleton
abbrev P5:=@List.lookup_cons
abbrev P6:=@List.flatten_cons
abbrev P7:=@Bool.false_eq_true
abbrev P8:=@List.mem_append_right
abbrev P9:=@List.not_mem_nil
abbrev Na:=@PyProof.Rows.callWith_type1
abbrev Nb:=@List.length_singleton
abbrev Nc:=@List.mem_append
abbrev Nd:=@List.getElem?_replicate
abbrev Nf:=@PySem.wpAny_holding
abbrev Ng:=@PySem.wpAny_field
abbrev Nh:=@List.getElem?_set_self
abbrev Ni:=@PySem.wpAny_mono
abbrev Nj:=@Array.perm_iff_toList_perm
abbrev Nk:=@PySem.W.kia_one
abbrev Nl:=@PySem.W.kia_tup
abbrev Nm:=@PySem.wpAny_newObj_type
abbrev Nn:=@List.length_replicate
abbrev No:=@Array.getElem?_toList
abbrev Np:=@if_false
abbrev Nq:=@List.Perm.refl
abbrev Nr:=@List.zip_cons_cons
abbrev Nt:=@PySem.sizeLine_eq
abbrev Nu:=@PySem.wpAny_callSpecial?_slot
abbrev Nv:=@List.getElem?_set
abbrev Nw:=@Nat.lt_succ_of_lt
abbrev Nx:=@PySem.Heap.get?_push_ne
abbrev Ny:=@beq_eq_false_iff_ne
abbrev Nz:=@Array.length_toList
abbrev NA:=@List.map_congr_left
abbrev NB:=@List.of_mem_zip
abbrev NC:=@PyProof.Rows.slot_tuple_getitem
abbrev ND:=@List.drop_eq_getElem_cons
abbrev NE:=@List.length_take
abbrev NF:=@PySem.wpAny_call_entry
abbrev NG:=@PySem.AutoSeq1.wpAny_loadPart'
abbrev NH:=@List.getElem_mem
abbrev NI:=@Int.emod_lt_of_pos
abbrev NJ:=@List.length_zip
abbrev NK:=@List.getElem_of_mem
abbrev NL:=@List.getElem?_range
abbrev NM:=@if_true
abbrev NN:=@PySem.wpAny_standAt
abbrev NO:=@PySem.wpAny_of_eq
abbrev NP:=@List.length_drop
abbrev NQ:=@PySem.wpAny_seqItems
abbrev NR:=@PySem.wpAny_setField_rec
abbrev NS:=@PySem.wpAny_passesOwn
abbrev NT:=@List.append_nil
abbrev NU:=@List.find?_cons
abbrev NV:=@PySem.W.kat_len
abbrev NW:=@Int.emod_nonneg
namespace L2
open PySem PySem.Spec PyProof.Rows
noncomputable abbrev Key:=Sum Int Str
noncomputable def QA:Key->Value->Bool
 |.inl k,v=>Value.isInt k v
 |.inr x,v=>Value.isStrOf x v
noncomputable def ZcB (w:World):Key->Int
 |.inl k=>hashInt k
 |.inr x=>hashStr w x
theorem ZS:∀{k:Key}{v:Value},QA k v=true->(∃i t,k=Sum.inl i/\v=Value.int i t)\/(∃x t,k=Sum.inr x/\v=Value.str x t)
 |.inl i,v,h=>by
  obtain⟨t,e⟩:=Value.isInt_shape (k:=i) (v:=v) h;exact .inl ⟨i,t,rfl,e⟩
 |.inr x,v,h=>by
  obtain⟨t,e⟩:=Value.isStrOf_shape (x:=x) (v:=v) h;exact .inr ⟨x,t,rfl,e⟩
theorem wW (i:Int) (t:Tok):QA (.inl i) (.int i t)=true:=by simp[QA,Value.isInt]
theorem wK (x:Str) (t:Tok):QA (.inr x) (.str x t)=true:=by simp[QA,Value.isStrOf]
theorem Zbg (a b:Int):decide ((Sum.inl a:Key)=Sum.inl b)=(a == b):=by
 by_cases e:a=b
 ·subst e;simp
 ·have h:¬(Sum.inl a:Key)=Sum.inl b:=λq=>e (Sum.inl.inj q)
  rw[P1 h];exact (Ny.mpr e).symm
theorem Zbe (a b:Str):decide ((Sum.inr a:Key)=Sum.inr b)=decide (a=b):=by
 by_cases e:a=b
 ·subst e;simp
 ·have h:¬(Sum.inr a:Key)=Sum.inr b:=λq=>e (Sum.inr.inj q)
  rw[P1 h,P1 e]
theorem Zba (a:Int) (b:Str):decide ((Sum.inl a:Key)=Sum.inr b)=false:=P1 (λq=>nomatch q)
theorem ZaP (a:Str) (b:Int):decide ((Sum.inr a:Key)=Sum.inl b)=false:=P1 (λq=>nomatch q)
noncomputable def Yr (prog:Program) (w:World):PySem.KeyKind prog w Key where
 is:=QA
 hash:=ZcB w
 inj:=λv a b ha hb=>by
  rcases ZS ha with ⟨i,t,rfl,rfl⟩ | ⟨x,t,rfl,rfl⟩
  ·rcases ZS hb with ⟨j,u,rfl,e⟩ | ⟨y,u,rfl,e⟩
   ·injection e with e1 _;rw[e1]
   ·exact nomatch e
  ·rcases ZS hb with ⟨j,u,rfl,e⟩ | ⟨y,u,rfl,e⟩
   ·exact nomatch e
   ·injection e with e1 _;rw[e1]
 byValue:=λk v h=>by
  rcases ZS h with ⟨i,t,rfl,rfl⟩ | ⟨x,t,rfl,rfl⟩ <;> rfl
 pyHash:=λhv h=>by
  rcases ZS hv with ⟨i,t,rfl,rfl⟩ | ⟨x,t,rfl,rfl⟩
  ·exact wpAny_pyHash_int h
  ·exact wpAny_pyHash_str h
 eqBool:=λhu hv h=>by
  rcases ZS hu with ⟨i,t,rfl,rfl⟩ | ⟨x,t,rfl,rfl⟩
  ·rcases ZS hv with ⟨j,u,rfl,rfl⟩ | ⟨y,u,rfl,rfl⟩
   ·rw[Zbg] at h;exact wpAny_eqBool_int h
   ·rw[Zba] at h;exact SeqAt.EqAt.int_str i t y u _ _ _ _ h
  ·rcases ZS hv with ⟨j,u,rfl,rfl⟩ | ⟨y,u,rfl,rfl⟩
   ·rw[ZaP] at h;exact SeqAt.EqAt.str_int x t j u _ _ _ _ h
   ·rw[Zbe] at h;exact wpAny_eqBool_str h
 «strs»:=λk x t v h=>by
  rcases ZS h with ⟨i,u,rfl,e⟩ | ⟨y,u,rfl,e⟩
  ·exact nomatch e
  ·injection e with e1 _
   subst e1;cases v <;> rfl
theorem GO (prog:Program) (w:World) (i:Int) (t:Tok):(Yr prog w).is (.inl i) (.int i t)=true:=wW i t
theorem GZ (prog:Program) (w:World) (x:Str) (t:Tok):(Yr prog w).is (.inr x) (.str x t)=true:=wK x t
inductive V where
 |non | bl (b:Bool) | int (i:Int) | str (x:Str) | byt (b:Array UInt8) | flt (b:UInt64) | ref (a:Addr) | ty (n:String)
 deriving DecidableEq
noncomputable def ZD:V->Value->Prop
 |.non,u=>u=Value.none
 |.bl b,u=>u=Value.bool b
 |.int i,u=>∃t,u=Value.int i t
 |.str x,u=>∃t,u=Value.str x t
 |.byt b,u=>∃t,u=Value.bytes b t
 |.flt b,u=>∃t,u=Value.float b t
 |.ref a,u=>u=Value.ref a
 |.ty n,u=>u=Value.type n
noncomputable abbrev Vals:List V->List Value->Prop:=Paired ZD
theorem Vals.length {xs:List V}{us:List Value}(r:Vals xs us):xs.length=us.length:=Paired.length r
theorem Vals.get:∀{xs:List V}{us:List Value}{i:Nat}{x:V},Vals xs us->xs[i]? = some x->∃u,us[i]? = some u/\ZD x u
 |_,_,_,_,.nil,e=>by simp at e
 |_,_,0,_,.cons r _,e=>by simp at e;subst e;exact⟨_,rfl,r⟩
 |_,_,i+1,x,.cons _ t,e=>by
  obtain⟨u,h1,h2⟩:=Vals.get (i:=i) (x:=x) t (by simpa using e)
  exact⟨u,by simpa using h1,h2⟩
theorem Vals.set {x:V}{u:Value}(r:ZD x u):∀{xs:List V}{us:List Value}(i:Nat),Vals xs us->Vals (xs.set i x) (us.set i u)
 |_,_,_,.nil=>.nil
 |_,_,0,.cons _ t=>.cons r t
 |_,_,i+1,.cons q t=>.cons q (Vals.set r i t)
theorem Vals.append:∀{xs ys:List V}{us ws:List Value},Vals xs us->Vals ys ws->Vals (xs++ys) (us++ws)
 |_,_,_,_,.nil,s=>s
 |_,_,_,_,.cons r t,s=>.cons r (Vals.append t s)
theorem Vals.take:∀{xs:List V}{us:List Value}(n:Nat),Vals xs us->Vals (xs.take n) (us.take n)
 |_,_,0,_=>.nil
 |_,_,_+1,.nil=>.nil
 |_,_,n+1,.cons r t=>.cons r (Vals.take n t)
theorem Vals.drop:∀{xs:List V}{us:List Value}(n:Nat),Vals xs us->Vals (xs.drop n) (us.drop n)
 |_,_,0,r=>r
 |_,_,_+1,.nil=>.nil
 |_,_,n+1,.cons _ t=>Vals.drop n t
noncomputable def zS:Option V->Option Value->Prop
 |some v,some u=>ZD v u
 |none,none=>True
 |_,_=>False
noncomputable def KV {κ:Type}:List (κ×V)->List (κ×Value)->Prop:=Paired λ(p:κ×V) (q:κ×Value)=>p.1=q.1/\ZD p.2 q.2
noncomputable def kV:Key->V
 |.inl i=>.int i
 |.inr x=>.str x
inductive HO where
 |lst (xs:List V)
 |tup (xs:List V)
 |dK (kvs:List (Key×V)) | dT (kvs:List (List Key×V))
 |set (S:Int->Bool) (n:Nat)
 |ins (C dx:Addr) (fs:List (Str×V))
 |own (x:Addr)
 |xd (fs:List (Str×V))
 |met (f x:Addr)
 |rng (lo hi:Int)
 |frz (o:Obj) (u:HO)
 |tbl (ps:Array Value)
 |ext (φ:Heap->Prop)
noncomputable abbrev Hp:=Addr->Option HO
noncomputable def upd (H:Hp) (a:Addr) (o:HO):Hp:=λb=>if b=a then some o else H b
theorem Ye {H:Hp}{a:Addr}{o:HO}:upd H a o a=some o:=by unfold upd;rw[Ph rfl]
theorem ZE {H:Hp}{a b:Addr}{o:HO}(h:b≠a):upd H a o b=H b:=by unfold upd;rw[Pi h]
theorem ZA {H:Hp}{a b:Addr}{o:HO}(h:H a=some o) (h':H b=none):a≠b:=by
 intro e;subst e;rw[h] at h';cases h'
section
variable (P:Program) (w:World)
noncomputable def ZR (H:Hp) (h:Heap) (a:Addr):HO->Prop
 |.lst xs=>xs.length<=sizeLine/\∃(its:List Value) (n:Nat),Vals xs its/\h.get? a=some { cls:=.type "list",data:=.seq its.toArray n }
 |.tup xs=>xs.length<=sizeLine/\∃its:List Value,Vals xs its/\IsTup h a its.toArray
 |.dK kvs=>kvs.length<=sizeLine/\(a == sysModules)=false/\∃vs,KV kvs vs/\h.DictOf (Yr P w) a vs
 |.dT kvs=>kvs.length<=sizeLine/\(a == sysModules)=false/\∃xs:List (List Key×Addr×Value),
   Paired (λ(p:List Key×V) (q:List Key×Addr×Value)=>p.1=q.1/\H q.2.1=some (.tup (p.1.map kV))/\ZD p.2 q.2.2) kvs xs/\
   ∃o es ep,h.get? a=some o/\o.ExactDict/\o.data=.dict es ep/\es.toList=xs.map (entryOfKey (tupleKind (Yr P w)))/\(xs.map (·.1)).Nodup
 |.set S n=>h.SetOf (intKind P w) a S n
 |.ins C dx fs=>H dx=some (.own a)/\fs.length<=1000/\dx≠a/\h.get? a=some (PySem.W.instObj C dx)/\
   ∃mA,h.Ns1 dx mA/\(∀f,zS (fs.lookup f) (mA f))/\PySem.Within mA (fs.map (·.1))
 |.own _=>∃o,h.get? a=some o
 |.xd fs=>∃mA,h.Ns1 a mA/\∀f,zS (fs.lookup f) (mA f)
 |.rng lo hi=>∃t u v,h.get? a=some { cls:=.type "range",data:=.fields #[.int lo t,.int hi u,.int 1 v] }
 |.frz o u=>h.get? a=some o/\ZR H h a u
 |.tbl ps=>h.get? a=some { cls:=.none,data:=.fields ps }
 |.met f x=>h.get? a=some (PySem.W.methodObj (.ref f) (.ref x))
 |.ext φ=>φ h/\(∃o,h.get? a=some o)/\∀h1 h2:Heap,φ h1->(∀o,h1.get? a=some o->h2.get? a=some o)->φ h2
def HOk (H:Hp) (h:Heap):Prop:=∀a o,H a=some o->ZR P w H h a o
end
section
variable {P:Program}{w:World}{H H':Hp}{h h':Heap}{a:Addr}{o:HO}
theorem ZR.lt (x:ZR P w H h a o):a<h.objs.size:=by
 cases o with
 |lst xs=>obtain⟨_,_,_,_,e⟩:=x;exact Pu e
 |tup xs=>obtain⟨_,_,_,p⟩:=x;exact p.lt
 |dK kvs=>obtain⟨_,_,_,_,o,_,_,e,_⟩:=x;exact Pu e
 |dT kvs=>obtain⟨_,_,_,_,o,_,_,e,_⟩:=x;exact Pu e
 |set S n=>obtain⟨o,_,_,_,e,_⟩:=x;exact Pu e
 |ins C dx fs=>obtain⟨_,_,_,e,_⟩:=x;exact Pu e
 |own y=>obtain⟨_,e⟩:=x;exact Pu e
 |xd fs=>obtain⟨_,⟨_,_,_,e,_⟩,_⟩:=x;exact Pu e
 |rng lo hi=>obtain⟨_,_,_,e⟩:=x;exact Pu e
 |frz ob u=>obtain⟨e,_⟩:=x;exact Pu e
 |tbl ps=>exact Pu (show h.get? a=some _ from x)
 |met f y=>exact Pu (show h.get? a=some _ from x)
 |ext φ=>obtain⟨_,⟨_,e⟩,_⟩:=x;exact Pu e
theorem Paired.mapP {α β:Type}{F G:α->β->Prop}:∀{l₁:List α}{l₂:List β},Paired F l₁ l₂->(∀a b,F a b->G a b)->Paired G l₁ l₂
 |_,_,.nil,_=>.nil
 |_,_,.cons r t,f=>.cons (f _ _ r) (Paired.mapP t f)
theorem ZR.stay (x:ZR P w H h a o) (k:∀b u,(b=a\/H b=some (.own a))->h.get? b=some u->h'.get? b=some u)
  (ho:∀b,H b=some (.own a)->H' b=some (.own a)) (ht:∀b xs,H b=some (.tup xs)->H' b=some (.tup xs)):ZR P w H' h' a o:=by
 induction o with
 |lst xs=>obtain⟨z,its,n,r,e⟩:=x;exact⟨z,its,n,r,k _ _ (.inl rfl) e⟩
 |tup xs=>obtain⟨z,its,r,ob,e,c⟩:=x;exact⟨z,its,r,ob,k _ _ (.inl rfl) e,c⟩
 |dK kvs=>obtain⟨z,y,vs,r,ob,es,ep,e,c⟩:=x;exact⟨z,y,vs,r,ob,es,ep,k _ _ (.inl rfl) e,c⟩
 |dT kvs=>
  obtain⟨z,y,xs,r,ob,es,ep,e,c⟩:=x;exact⟨z,y,xs,Paired.mapP r λp q z=>⟨z.1,ht _ _ z.2.1,z.2.2⟩,ob,es,ep,k _ _ (.inl rfl) e,c⟩
 |set S n=>obtain⟨ob,es,ep,t,e,c⟩:=x;exact⟨ob,es,ep,t,k _ _ (.inl rfl) e,c⟩
 |ins C dx fs=>
  obtain⟨d,z,ne,e,mA,⟨od,es,ep,e2,c⟩,r⟩:=x;exact⟨ho _ d,z,ne,k _ _ (.inl rfl) e,mA,⟨od,es,ep,k _ _ (.inr d) e2,c⟩,r⟩
 |own y=>obtain⟨ob,e⟩:=x;exact⟨ob,k _ _ (.inl rfl) e⟩
 |xd fs=>obtain⟨mA,⟨od,es,ep,e,c⟩,r⟩:=x;exact⟨mA,⟨od,es,ep,k _ _ (.inl rfl) e,c⟩,r⟩
 |rng lo hi=>obtain⟨t,u,v,e⟩:=x;exact⟨t,u,v,k _ _ (.inl rfl) e⟩
 |frz ob u ih=>obtain⟨e,q⟩:=x;exact⟨k _ _ (.inl rfl) e,ih q⟩
 |tbl ps=>
  have e:h.get? a=some { cls:=.none,data:=.fields ps }:=x;show h'.get? a=some { cls:=.none,data:=.fields ps };exact k a _ (.inl rfl) e
 |met f y=>
  have e:h.get? a=some (PySem.W.methodObj (.ref f) (.ref y)):=x;show h'.get? a=some (PySem.W.methodObj (.ref f) (.ref y));exact k a _ (.inl rfl) e
 |ext φ=>obtain⟨p,⟨o,e⟩,st⟩:=x;exact⟨st _ _ p λo q=>k _ _ (.inl rfl) q,⟨o,k _ _ (.inl rfl) e⟩,st⟩
theorem HOk.lt (x:HOk P w H h) (e:H a=some o):a<h.objs.size:=(x a o e).lt
theorem HOk.fresh (x:HOk P w H h) (e:h.objs.size<=a):H a=none:=by
 cases q:H a with
 |none=>rfl
 |some u=>exact absurd (PJ (x.lt q) e) (PX _)
theorem HOk.kept (x:HOk P w H h) (k:∀b u,h.get? b=some u->h'.get? b=some u):HOk P w H h':=λa o e=>
 (x a o e).stay (λb u _ q=>k b u q) (λ_ q=>q) λ_ _ q=>q
theorem HOk.laid (x:HOk P w H h) (k:∀b u,h.get? b=some u->h'.get? b=some u) (hp:h.objs.size<=a) (new:ZR P w (upd H a o) h' a o):HOk P w (upd H a o) h':=λb u e=>by
 have hn:=x.fresh hp;by_cases hb:b=a
 ·subst hb;rw[Ye] at e;cases e;exact new
 ·rw[ZE hb] at e
  exact (x b u e).stay (λc v _ q=>k c v q) (λc q=>by rw[ZE (ZA q hn)];exact q) λc xs q=>by rw[ZE (ZA q hn)];exact q
end
def Rd (H:Hp) (a:Addr) (u:HO):Prop:=H a=some u\/∃o,H a=some (.frz o u)
theorem Rd.ok {P:Program}{w:World}{H:Hp}{h:Heap}{a:Addr}{u:HO}(r:Rd H a u) (x:HOk P w H h):ZR P w H h a u:=by
 rcases r with r | ⟨o,r⟩
 ·exact x a u r
 ·obtain⟨_,q⟩:=x a _ r
  exact q
noncomputable def Mut:Option HO->Prop
 |some (.lst _)=>True
 |some (.dK _)=>True
 |some (.dT _)=>True
 |some (.set _ _)=>True
 |some (.ins _ _ _)=>True
 |some (.ext _)=>True
 |_=>False
section
variable {P:Program}{w:World}{H:Hp}{h h':Heap}{x e:Addr}{o':HO}
theorem HOk.write (ok:HOk P w H h) (mu:Mut (H x)) (he:e=x\/H e=some (.own x)) (k:∀b u,b≠e->h.get? b=some u->h'.get? b=some u) (heo:∃u,h'.get? e=some u)
  (new:ZR P w (upd H x o') h' x o'):HOk P w (upd H x o') h':=λb u q=>by
 have nown:∀c y,H c=some (.own y)->c≠x:=λc y r z=>by subst z;rw[r] at mu;exact mu
 have ntup:∀c xs,H c=some (.tup xs)->c≠x:=λc xs r z=>by subst z;rw[r] at mu;exact mu
 by_cases hb:b=x
 ·subst hb;rw[Ye] at q;cases q;exact new
 ·rw[ZE hb] at q
  by_cases hbe:b=e
  ·have q':H b=some (.own x):=by
    rcases he with z | z
    ·exact absurd (hbe.trans z) hb
    ·rw[hbe];exact z
   rw[q] at q';cases q';obtain⟨v,hv⟩:=heo;exact⟨v,by rw[hbe];exact hv⟩
  ·refine (ok b u q).stay (λc v hc r=>k c v ?_ r) (λc r=>by rw[ZE (nown c b r)];exact r) λc xs r=>by rw[ZE (ntup c xs r)];exact r
   rcases hc with rfl | hc
   ·exact hbe
   ·rintro rfl
    rcases he with z | z
    ·exact nown c b hc z
    ·rw[hc] at z;cases z;exact hb rfl
end
structure Un (fs ex:List Addr) (H H':Hp) (h h':Heap):Prop where
 keep:∀b o,h.get? b=some o->H b=none->b∉fs->b∉ex->h'.get? b=some o
 slot:∀b o,h.get? b=some o->H b=none->b∈fs->b∉ex->∃sl,h'.get? b=some { o with slots:=sl }
 free:∀b o,h.get? b=some o->H b=none->b∉ex->H' b=none
 there:∀b o,h.get? b=some o->b∉ex->∃o',h'.get? b=some o'
 tups:∀b xs,H b=some (.tup xs)->H' b=some (.tup xs)
 frzs:∀b o u,H b=some (.frz o u)->H' b=some (.frz o u)
 tbls:∀b ps,H b=some (.tbl ps)->∃more,H' b=some (.tbl (ps++more))
section
variable {fs fs' ex ex':List Addr}{H H1 H2:Hp}{h h1 h2 h':Heap}{a x e:Addr}{o:HO}
theorem Un.any (u:Un fs ex H H1 h h1) {b:Addr}{ob:Obj}(q:h.get? b=some ob) (n:H b=none) (hx:b∉ex):∃sl,h1.get? b=some { ob with slots:=sl }:=by
 by_cases hb:b∈fs
 ·exact u.slot b ob q n hb hx
 ·exact⟨ob.slots,u.keep b ob q n hb hx⟩
theorem Un.kept (k:∀b u,h.get? b=some u->h'.get? b=some u):Un fs ex H H h h':=
 ⟨λb ob q _ _ _=>k b ob q,λb ob q _ _ _=>⟨ob.slots,k b ob q⟩,λ_ _ _ n _=>n,λb ob q _=>⟨ob,k b ob q⟩,λ_ _ q=>q,λ_ _ _ q=>q,λ_ ps q=>⟨#[],by rw[q];simp⟩⟩
theorem Un.refl:Un fs ex H H h h:=Un.kept λ_ _ q=>q
theorem Un.laid (k:∀b u,h.get? b=some u->h'.get? b=some u) (hp:h.objs.size<=a) (hn:H a=none):Un fs ex H (upd H a o) h h' where
 keep:=λb u q _ _ _=>k b u q
 slot:=λb u q _ _ _=>⟨u.slots,k b u q⟩
 free:=λb u q n _=>by rw[ZE (PQ (PJ (Pu q) hp))];exact n
 there:=λb u q _=>⟨u,k b u q⟩
 tups:=λb xs q=>by rw[ZE (ZA q hn)];exact q
 frzs:=λb u xs q=>by rw[ZE (ZA q hn)];exact q
 tbls:=λb ps q=>⟨#[],by rw[ZE (ZA q hn),q];simp⟩
theorem Un.write (mu:Mut (H x)) (he:e=x\/H e=some (.own x)) (k:∀b u,b≠e->h.get? b=some u->h'.get? b=some u) (heo:∃u,h'.get? e=some u):Un fs ex H (upd H x o) h h':=by
 have hx:∀b,H b=none->b≠x:=λb n z=>by subst z;rw[n] at mu;exact mu
 have hb:∀b,H b=none->b≠e:=λb n z=>by
  subst z;rcases he with r | r
  ·exact hx b n r
  ·rw[n] at r;cases r
 have hm:∀b u,H b=some u->¬Mut (some u)->b≠x:=λb u q nm z=>by subst z;rw[q] at mu;exact nm mu
 refine⟨λb u q n _ _=>k b u (hb b n) q,λb u q n _ _=>⟨u.slots,k b u (hb b n) q⟩,λb u q n _=>by rw[ZE (hx b n)];exact n,λb u q _=>?_,
  λb xs q=>by rw[ZE (hm b _ q λz=>z)];exact q,λb u xs q=>by rw[ZE (hm b _ q λz=>z)];exact q,λb ps q=>⟨#[],by rw[ZE (hm b _ q λz=>z),q];simp⟩⟩
 by_cases hbe:b=e
 ·subst hbe;exact heo
 ·exact⟨u,k b u hbe q⟩
end
noncomputable def trk (h:Heap) (H:Hp):List Addr:=(List.range h.objs.size).filter λa=>(H a).isSome
noncomputable def JY (h:Heap) (H:Hp):Heap:=PySem.W.hideAll h (trk h H)
theorem wp (h:Heap) (H:Hp):(JY h H).objs.size=h.objs.size:=PySem.W.hideAll_size _ _
theorem uE {h:Heap}{H:Hp}{b:Addr}{o:Obj}(e:h.get? b=some o) (n:H b=none):(JY h H).get? b=some o:=
 PySem.W.hideAll_get _ e λhm=>by
  have q:(H b).isSome=true:=(List.mem_filter.mp hm).2;rw[n] at q;simp at q
theorem jo {h:Heap}{H:Hp}{b:Addr}{o:Obj}(e:(JY h H).get? b=some o):h.get? b=some o/\H b=none:=by
 have e':h.get? b=some o:=PySem.W.of_hideAll (trk h H) e;refine⟨e',?_⟩;cases q:H b with
 |none=>rfl
 |some x=>
  have hm:b∈trk h H:=List.mem_filter.mpr ⟨PU.mpr (Pu e'),by simp[q]⟩
  have z:(JY h H).get? b=none:=PySem.W.hideAll_none (trk h H) hm;rw[z] at e;cases e
structure Mod (K:PySem.W.Frag) (mg:Str->Option Value) (base:Heap):Prop where
 kin:K.In base
 glob:base.Ns mainGlobals mg
 blt:∃mb,base.Ns builtinsNs mb/\∀x:Str,x≠"__name__"->mb x=bootBuiltins x
 nolimit:base.NoLimit
structure Cx where
 prog:Program
 w:World
 K:PySem.W.Frag
 mg:Str->Option Value
 base:Heap
 A:Around
 N:List Str
 s₀:Shared
 H₀:Hp
 env:Env
 outer:List Env
 stack:List Env
 ex:List Addr
 fn:Str->Bool
 calm:Bool
 pn:List (Addr×Obj)
 xe:Value->Shared->Prop
noncomputable def frs (l:List Env):List Addr:=l.filterMap (·.frame)
noncomputable abbrev Cx.fs (X:Cx):List Addr:=frs X.outer
def Vis (sc:Scope) (x:Str):Prop:=sc.names.lookup x=some .local\/sc.names.lookup x=some .cell\/sc.names.lookup x=some .free
def Loc (sc:Scope) (x:Str):Prop:=sc.names.lookup x=some .local\/sc.names.lookup x=some .cell
def Look (env:Env) (h:Heap) (m:Str->Option Value) (x:Str) (u:Value):Prop:=
 (env.kindOf x=some .local/\m x=some u)\/((env.kindOf x=some .cell\/env.kindOf x=some .free)/\∃c,env.cells.lookup x=some c/\h.IsCell c (some u))
structure Cx.Ok (X:Cx):Prop where
 mod:Mod X.K X.mg X.base
 kind:X.env.scope.kind=.function
 glob:X.env.globals=mainGlobals
 blt:X.env.builtins=builtinsNs
 above:X.s₀.heap.objs.size<=X.env.locals
 inj:∀x y c,X.env.cells.lookup x=some c->X.env.cells.lookup y=some c->x=y
 has:∀x,(X.env.kindOf x=some .cell\/X.env.kindOf x=some .free)->∃c,X.env.cells.lookup x=some c
 cab:∀x c,X.fn x=true->X.env.cells.lookup x=some c->X.s₀.heap.objs.size<=c
 hd:X.calm=true->X.A.handled=none
 frames:X.A.frames=some X.stack
 stk:X.stack=X.outer\/(X.stack=X.env::X.outer/\X.env.frame=some X.env.locals)
 exf:∀b∈X.ex,b≠X.env.locals/\∀x c,X.env.cells.lookup x=some c->c≠b
 bs:∀b o,X.base.get? b=some o->X.s₀.heap.get? b=some o/\X.H₀ b=none
 bsz:X.base.objs.size<=X.s₀.heap.objs.size
 noex:∀b o,X.base.get? b=some o->b∉X.ex
 exfs:∀b∈X.ex,b∉X.fs
 funs:X.s₀.heap.FunFrames X.base X.outer
 frf:∀b∈X.fs,X.H₀ b=none
structure Inv (X:Cx) (pins:List (Addr×Obj)) (σ:List (Option V)) (H:Hp) (s:Shared):Prop where
 ok:X.Ok
 os:s.os=X.s₀.os
 bare:AllBare s.gens
 base:Un X.fs X.ex X.H₀ H X.s₀.heap s.heap
 loc:∃m,s.heap.Ns X.env.locals m/\∀(i:Nat) (x:Str) (v:V),X.N[i]? = some x->σ[i]? = some (some v)->Vis X.env.scope x->∃u,ZD v u/\Look X.env s.heap m x u
 cell:∀x c,X.env.cells.lookup x=some c->∃v,s.heap.IsCell c v
 free:H X.env.locals=none
 freeC:∀x c,X.env.cells.lookup x=some c->H c=none
 pin:∀p∈X.pn++pins,s.heap.get? p.1=some p.2/\H p.1=none/\p.1≠X.env.locals/\p.1∉X.fs/\∀v,p.2.data≠.cell v
 hok:HOk X.prog X.w H s.heap
 len:σ.length=X.N.length
section
variable {X:Cx}{pins:List (Addr×Obj)}{σ:List (Option V)}{H H':Hp}{s:Shared}{h':Heap}
theorem Cx.Ok.nofr (ok:X.Ok) {b:Addr}{o:Obj}(e:X.base.get? b=some o):b∉X.fs:=λhb=>by
 have:=(ok.funs.mem hb).1;rw[e] at this;cases this
theorem Inv.bs (I:Inv X pins σ H s):∀b o,X.base.get? b=some o->s.heap.get? b=some o/\H b=none:=λb o e=>
 ⟨I.base.keep b o (I.ok.bs b o e).1 (I.ok.bs b o e).2 (I.ok.nofr e) (I.ok.noex b o e),I.base.free b o (I.ok.bs b o e).1 (I.ok.bs b o e).2 (I.ok.noex b o e)⟩
theorem Inv.bk (I:Inv X pins σ H s):∀b o,X.base.get? b=some o->s.heap.get? b=some o:=λb o e=>(I.bs b o e).1
theorem Inv.mod (I:Inv X pins σ H s):Mod X.K X.mg X.base:=I.ok.mod
theorem Inv.kIn (I:Inv X pins σ H s):X.K.In s.heap:=I.ok.mod.kin.keeps I.bk
theorem Inv.lt (I:Inv X pins σ H s):X.env.locals<s.heap.objs.size:=let ⟨_,hn,_⟩:=I.loc;hn.lt
theorem Inv.sz (I:Inv X pins σ H s):X.s₀.heap.objs.size<=s.heap.objs.size:=P0 I.ok.above (Nat.le_of_lt I.lt)
theorem Inv.nofs (I:Inv X pins σ H s) {a:Addr}(h:s.heap.objs.size<=a):a∉X.fs:=λhb=>by
 obtain⟨_,o,ho,_⟩:=I.ok.funs.mem hb;exact absurd (PJ (Pu ho) (P0 I.sz h)) (PX _)
theorem Inv.cne (I:Inv X pins σ H s):∀x c,X.env.cells.lookup x=some c->c≠X.env.locals:=λx c e z=>by
 obtain⟨v,o,ho,hd⟩:=I.cell x c e;obtain⟨m,⟨o',es,ep,ho',hd',_⟩,_⟩:=I.loc;rw[z,ho'] at ho;cases ho;rw[hd'] at hd;cases hd
theorem Inv.funs (I:Inv X pins σ H s):s.heap.FunFrames X.base X.outer:=by
 have all:∀(l:List Env),(∀b∈frs l,b∈X.fs)->X.s₀.heap.FunFrames X.base l->s.heap.FunFrames X.base l:=by
  intro l
  induction l with
  |nil=>intro _ _;trivial
  |cons env r ih=>
   intro hs hl;obtain⟨hk,⟨L,o,hf,hn,ho,hd⟩,hr⟩:=hl;have hL:L∈X.fs:=hs L (by unfold frs;rw[List.filterMap_cons,hf];exact Pe)
   obtain⟨sl,e⟩:=I.base.slot L o ho (I.ok.frf L hL) hL λz=>I.ok.exfs L z hL
   exact⟨hk,⟨L,_,hf,hn,e,hd⟩,ih (λb hb=>hs b (by unfold frs;rw[List.filterMap_cons,hf];exact Pd _ hb)) hr⟩
 exact all X.outer (λ_ hb=>hb) I.ok.funs
theorem Inv.stack (I:Inv X pins σ H s):s.heap.FunFrames X.base X.stack:=by
 rcases I.ok.stk with e | ⟨e,hf⟩
 ·rw[e];exact I.funs
 ·rw[e]
  obtain⟨m,hn,_⟩:=I.loc;refine .cons (by rw[I.ok.kind];decide) hf hn ?_ I.funs
  exact Heap.get?_none_of_le (P0 I.ok.bsz I.ok.above)
theorem Inv.stkSub (I:Inv X pins σ H s):∀b∈frs X.stack,b∈X.env.locals::X.fs:=λb hb=>by
 rcases I.ok.stk with e | ⟨e,hf⟩
 ·rw[e] at hb;exact Pd _ hb
 ·rw[e] at hb
  unfold frs at hb;rw[List.filterMap_cons,hf] at hb;exact hb
theorem Inv.stkFree (I:Inv X pins σ H s):∀b∈frs X.stack,H b=none:=λb hb=>by
 rcases Po.mp (I.stkSub b hb) with e | hb
 ·rw[e];exact I.free
 ·obtain⟨_,o,ho,_⟩:=I.ok.funs.mem hb
  exact I.base.free b o ho (I.ok.frf b hb) λz=>I.ok.exfs b z hb
theorem Inv.step {g':Array GenState}{t':Nat}{d':Drawn}{ch:List Addr}(I:Inv X pins σ H s)
  (hch:∀b∈ch,(b∈X.ex\/X.s₀.heap.objs.size<=b)/\b≠X.env.locals/\(∀x c,X.env.cells.lookup x=some c->c≠b)/\∀p∈X.pn++pins,p.1≠b)
  (keep:∀b o,b≠X.env.locals->b∉X.fs->b∉ch->s.heap.get? b=some o->H b=none->h'.get? b=some o)
  (slot:∀b o,b≠X.env.locals->b∈X.fs->b∉ch->s.heap.get? b=some o->H b=none->∃sl,h'.get? b=some { o with slots:=sl }) (free:∀b o,b∉ch->s.heap.get? b=some o->H b=none->H' b=none)
  (there:∀b o,b∉ch->s.heap.get? b=some o->∃o',h'.get? b=some o')
  (tups:∀b xs,H b=some (.tup xs)->H' b=some (.tup xs)) (frzs:∀b o u,H b=some (.frz o u)->H' b=some (.frz o u)) (tbls:∀b ps,H b=some (.tbl ps)->∃more,H' b=some (.tbl (ps++more)))
  (ns:∀m,s.heap.Ns X.env.locals m->h'.Ns X.env.locals m) (hok:HOk X.prog X.w H' h') (hg:AllBare g') :
  Inv X pins σ H' { s with heap:=h',gens:=g',drawn:=d',toks:=t' }:=by
 have neL:∀b o,X.s₀.heap.get? b=some o->b≠X.env.locals:=λb o e=>PQ (PJ (Pu e) I.ok.above)
 have neC:∀b o,X.s₀.heap.get? b=some o->b∉X.ex->b∉ch:=λb o e hx hb=>by
  rcases (hch b hb).1 with z | z
  ·exact hx z
  ·exact absurd (PJ (Pu e) z) (PX _)
 have cellK:∀x c,X.env.cells.lookup x=some c->∀v,s.heap.IsCell c v->h'.IsCell c v:=λx c e v ⟨o,ho,hd⟩=>by
  have nch:c∉ch:=λz=>(hch c z).2.2.1 x c e rfl
  by_cases hc:c∈X.fs
  ·obtain⟨sl,q⟩:=slot c o (I.cne x c e) hc nch ho (I.freeC x c e)
   exact⟨_,q,hd⟩
  ·exact⟨o,keep c o (I.cne x c e) hc nch ho (I.freeC x c e),hd⟩
 refine⟨I.ok,I.os,hg,⟨λb o e n hb hx=>?_,λb o e n hb hx=>?_,λb o e n hx=>?_,λb o e hx=>?_,λb xs e=>tups b xs (I.base.tups b xs e),λb o xs e=>frzs b o xs (I.base.frzs b o xs e),λb ps e=>?_⟩,?_,λx c e=>?_,?_,λx c e=>?_,λp hp=>?_,hok,I.len⟩
 ·exact keep b o (neL b o e) hb (neC b o e hx) (I.base.keep b o e n hb hx) (I.base.free b o e n hx)
 ·obtain⟨sl,e1⟩:=I.base.slot b o e n hb hx
  obtain⟨sl',e2⟩:=slot b _ (neL b o e) hb (neC b o e hx) e1 (I.base.free b o e n hx);exact⟨sl',e2⟩
 ·obtain⟨o',e1⟩:=I.base.there b o e hx
  exact free b o' (neC b o e hx) e1 (I.base.free b o e n hx)
 ·obtain⟨o',e1⟩:=I.base.there b o e hx
  exact there b o' (neC b o e hx) e1
 ·obtain⟨m1,e1⟩:=I.base.tbls b ps e
  obtain⟨m2,e2⟩:=tbls b _ e1;exact⟨m1++m2,by rw[e2,Array.append_assoc]⟩
 ·obtain⟨m,hn,hl⟩:=I.loc
  refine⟨m,ns m hn,λi x v e1 e2 e3=>?_⟩
  obtain⟨u,r,l⟩:=hl i x v e1 e2 e3;refine⟨u,r,?_⟩;rcases l with l | ⟨k,c,e,z⟩
  ·exact .inl l
  ·exact .inr ⟨k,c,e,cellK x c e _ z⟩
 ·obtain⟨v,z⟩:=I.cell x c e
  exact⟨v,cellK x c e v z⟩
 ·obtain⟨m,⟨o,_,_,ho,_⟩,_⟩:=I.loc
  exact free _ o (λz=>(hch _ z).2.1 rfl) ho I.free
 ·obtain⟨v,o,ho,hd⟩:=I.cell x c e
  exact free c o (λz=>(hch c z).2.2.1 x c e rfl) ho (I.freeC x c e)
 ·obtain⟨e,n,ne,nf,d⟩:=I.pin p hp
  have nch:p.1∉ch:=λz=>(hch p.1 z).2.2.2 p hp rfl
  exact⟨keep p.1 p.2 ne nf nch e n,free p.1 p.2 nch e n,ne,nf,d⟩
theorem Inv.un {t':Nat}(I:Inv X pins σ H s) (u:Un X.fs [] H H' s.heap h') (hok:HOk X.prog X.w H' h'):Inv X pins σ H' { s with heap:=h',toks:=t' }:=by
 obtain⟨m,⟨o,es,ep,ho,r⟩,_⟩:=id I.loc;obtain⟨sl,hL⟩:=u.any ho I.free (by simp)
 exact I.step (g':=s.gens) (d':=s.drawn) (ch:=[]) (λ_ z=>nomatch z) (λb o _ hb _ e n=>u.keep b o e n hb (by simp)) (λb o _ hb _ e n=>u.slot b o e n hb (by simp)) (λb o _ e n=>u.free b o e n (by simp)) (λb o _ e=>u.there b o e (by simp)) u.tups u.frzs u.tbls (λm' hm=>by
  obtain⟨o',es',ep',ho',r'⟩:=hm;rw[ho] at ho';cases ho';exact⟨_,es',ep',hL,r'⟩) hok I.bare
theorem Inv.call {g':Array GenState}{t':Nat}{d':Drawn}{ch:List Addr}(I:Inv X pins σ H s) (u:Un (frs X.stack) ch H H' s.heap h') (hok:HOk X.prog X.w H' h') (hg:AllBare g')
  (hch:∀b∈ch,(b∈X.ex\/X.s₀.heap.objs.size<=b)/\b≠X.env.locals/\(∀x c,X.env.cells.lookup x=some c->c≠b)/\∀p∈X.pn++pins,p.1≠b) :
  Inv X pins σ H' { s with heap:=h',gens:=g',drawn:=d',toks:=t' }:=by
 obtain⟨m,⟨o,es,ep,ho,r⟩,_⟩:=id I.loc;obtain⟨sl,hL⟩:=u.any ho I.free λz=>(hch _ z).2.1 rfl
 exact I.step (ch:=ch) hch (λb o hL hb hc e n=>u.keep b o e n (λz=>(Po.mp (I.stkSub b z)).elim hL hb) hc) (λb o _ _ hc e n=>u.any e n hc) (λb o hc e n=>u.free b o e n hc) (λb o hc e=>u.there b o e hc) u.tups u.frzs u.tbls (λm' hm=>by
  obtain⟨o',es',ep',ho',r'⟩:=hm;rw[ho] at ho';cases ho';exact⟨_,es',ep',hL,r'⟩) hok hg
theorem Inv.turned {t':Nat}{it:Addr}(I:Inv X pins σ H s) (k:∀b o,b≠it->s.heap.get? b=some o->h'.get? b=some o) (hn:H it=none) (hL:it≠X.env.locals)
  (h1:it∈X.ex\/X.s₀.heap.objs.size<=it) (h2:∀x c,X.env.cells.lookup x=some c->c≠it) (h3:∀p∈X.pn++pins,p.1≠it):Inv X pins σ H { s with heap:=h',toks:=t' }:=by
 have nit:∀b u,H b=some u->b≠it:=λb u e z=>by rw[z,hn] at e;cases e
 refine I.step (g':=s.gens) (d':=s.drawn) (ch:=[it]) (λb hb=>?_) (λb o _ _ hc e _=>k b o (λz=>hc (by simp[z])) e) (λb o _ _ hc e _=>⟨o.slots,k b o (λz=>hc (by simp[z])) e⟩) (λ_ _ _ _ n=>n)
  (λb o hc e=>⟨o,k b o (λz=>hc (by simp[z])) e⟩) (λ_ _ e=>e) (λ_ _ _ e=>e) (λb ps e=>⟨#[],by rw[e];simp⟩) (λm hm=>?_) (λb u e=>?_) I.bare
 ·have e:b=it:=by simpa using hb
  subst e;exact⟨h1,hL,h2,h3⟩
 ·obtain⟨o,es,ep,ho,r⟩:=hm
  exact⟨o,es,ep,k _ o (Ne.symm hL) ho,r⟩
 ·refine (I.hok b u e).stay (λc v hc q=>k c v ?_ q) (λ_ q=>q) λ_ _ q=>q
  rcases hc with z | z
  ·rw[z];exact nit b u e
  ·exact nit c _ z
theorem Inv.tok (I:Inv X pins σ H s) (t:Nat):Inv X pins σ H { s with toks:=t }:=I.un (h':=s.heap) (t':=t) Un.refl I.hok
theorem Inv.kept {t':Nat}(I:Inv X pins σ H s) (k:∀b u,s.heap.get? b=some u->h'.get? b=some u):Inv X pins σ H { s with heap:=h',toks:=t' }:=I.un (Un.kept k) (I.hok.kept k)
theorem Inv.laid {a:Addr}{o:HO}{t':Nat}(I:Inv X pins σ H s) (k:∀b u,s.heap.get? b=some u->h'.get? b=some u) (hp:s.heap.objs.size<=a) (new:ZR X.prog X.w (upd H a o) h' a o) :
  Inv X pins σ (upd H a o) { s with heap:=h',toks:=t' }:=I.un (Un.laid k hp (I.hok.fresh hp)) (I.hok.laid k hp new)
theorem Inv.write {x e:Addr}{o:HO}{t':Nat}(I:Inv X pins σ H s) (mu:Mut (H x)) (he:e=x\/H e=some (.own x)) (k:∀b u,b≠e->s.heap.get? b=some u->h'.get? b=some u) (heo:∃u,h'.get? e=some u)
  (new:ZR X.prog X.w (upd H x o) h' x o):Inv X pins σ (upd H x o) { s with heap:=h',toks:=t' }:=I.un (Un.write mu he k heo) (I.hok.write mu he k heo new)
theorem Inv.pins_of {pins':List (Addr×Obj)}(I:Inv X pins σ H s) (h:∀p∈pins',s.heap.get? p.1=some p.2/\H p.1=none/\p.1≠X.env.locals/\p.1∉X.fs/\∀v,p.2.data≠.cell v):Inv X pins' σ H s:=
 ⟨I.ok,I.os,I.bare,I.base,I.loc,I.cell,I.free,I.freeC,λp hp=>(Nc.mp hp).elim (λz=>I.pin p (List.mem_append_left _ z)) (h p),I.hok,I.len⟩
theorem GU {N:List Str}(hN:N.Nodup) {i j:Nat}{x:Str}(a:N[i]? = some x) (b:N[j]? = some x):i=j:=by
 obtain⟨h1,e1⟩:=Pq.mp a;obtain⟨h2,e2⟩:=Pq.mp b;exact (List.getElem_inj hN).mp (e1.trans e2.symm)
theorem Vq {M:Model}{A:Around}{E:Value->Shared->Prop}{i:Nat}{x:Str}{v:V}{u:Value}{Q:Unit->Shared->Prop}(I:Inv X pins σ H s) (hN:X.N.Nodup) (hi:X.N[i]? = some x) (hx:Loc X.env.scope x) (r:ZD v u)
  (h:∀s',Inv X pins (σ.set i (some v)) H s'->(∃a,Heap.SameBut a s.heap s'.heap/\(a=X.env.locals\/X.env.cells.lookup x=some a))->Q () s') (hf:X.fn x=true\/X.env.scope.names.lookup x=some .local:=by first | exact .inl rfl | exact .inr rfl | assumption):wpAny M A (storeName X.env x u) Q E s:=by
 obtain⟨m,hn,hl⟩:=id I.loc;have hcls:(X.env.scope.kind == .class||(X.env.scope.kind == .module&&X.env.locals != X.env.globals))=false:=by rw[I.ok.kind];rfl
 have hiσ:i<σ.length:=by rw[I.len];exact (Pq.mp hi).1
 have cne:=I.cne;have tracked:∀{a:Addr} {h':Heap},(∃o,s.heap.get? a=some o/\H a=none)->Heap.SameBut a s.heap h'->HOk X.prog X.w H h':=λ{a h'} ha hs b ob e=>by
  obtain⟨_,_,hfree⟩:=ha;refine (I.hok b ob e).stay (λc w' hc q=>(hs.2 c ?_).trans q) (λ_ q=>q) λ_ _ q=>q
  rintro rfl
  rcases hc with rfl | hc
  ·rw[hfree] at e;cases e
  ·rw[hfree] at hc;cases hc
 rcases hx with hk | hk
 ·refine wpAny_storeName_local hk hn (λh' hn' hs=>?_) hcls
  obtain⟨oL,_,_,hoL,_⟩:=id hn;refine h _ ⟨I.ok,I.os,I.bare,⟨λb o e n hb hx=>?_,λb o e n hb hx=>?_,I.base.free,λb o e hx=>?_,I.base.tups,I.base.frzs,I.base.tbls⟩,⟨_,hn',λj y v' e1 e2 e3=>?_⟩,λy c e=>?_,I.free,I.freeC,λp hp=>?_,tracked ⟨oL,hoL,I.free⟩ hs,by simpa using I.len⟩ ⟨_,hs,.inl rfl⟩
  ·exact (hs.2 b (PQ (PJ (Pu e) I.ok.above))).trans (I.base.keep b o e n hb hx)
  ·obtain⟨sl,e1⟩:=I.base.slot b o e n hb hx
   exact⟨sl,(hs.2 b (PQ (PJ (Pu e) I.ok.above))).trans e1⟩
  ·obtain⟨o',e1⟩:=I.base.there b o e hx
   exact⟨o',(hs.2 b (PQ (PJ (Pu e) I.ok.above))).trans e1⟩
  ·by_cases hj:j=i
   ·subst hj
    rw[hi] at e1;cases e1;rw[Nh hiσ] at e2;cases e2;exact⟨u,r,.inl ⟨hk,by simp⟩⟩
   ·rw[PH (Ne.symm hj)] at e2
    obtain⟨u',r',q⟩:=hl j y v' e1 e2 e3;refine⟨u',r',?_⟩;rcases q with ⟨k,e⟩ | ⟨k,c,e,z⟩
    ·refine .inl ⟨k,?_⟩
     have:y≠x:=λe=>hj (GU hN e1 (e▸hi))
     simp[this,e]
    ·exact .inr ⟨k,c,e,z.sameBut hs (cne y c e)⟩
  ·obtain⟨w',z⟩:=I.cell y c e
   exact⟨w',z.sameBut hs (cne y c e)⟩
  ·obtain⟨e,n,ne,nf,d⟩:=I.pin p hp
   exact⟨(hs.2 p.1 ne).trans e,n,ne,nf,d⟩
 ·have hfn:X.fn x=true:=by
   rcases hf with z | z
   ·exact z
   ·rw[z] at hk;cases hk
  obtain⟨c,hc⟩:=I.ok.has x (.inl hk);obtain⟨w',z⟩:=I.cell x c hc;refine wpAny_storeName_cell I.ok.kind hk hc z (λh' hc' hs=>?_)
  obtain⟨oc,hoc,hocd⟩:=id z;refine h { s with heap:=h' } ⟨I.ok,I.os,I.bare,⟨λb o e n hb hx=>?_,λb o e n hb hx=>?_,I.base.free,λb o e hx=>?_,I.base.tups,I.base.frzs,I.base.tbls⟩,⟨m,hn.sameBut hs (Ne.symm (cne x c hc)),λj y v' e1 e2 e3=>?_⟩,λy c' e=>?_,I.free,I.freeC,λp hp=>?_,tracked ⟨oc,hoc,I.freeC x c hc⟩ hs,by simpa using I.len⟩ ⟨c,hs,.inr hc⟩
  ·exact (hs.2 b (PQ (PJ (Pu e) (I.ok.cab x c hfn hc)))).trans (I.base.keep b o e n hb hx)
  ·obtain⟨sl,e1⟩:=I.base.slot b o e n hb hx
   exact⟨sl,(hs.2 b (PQ (PJ (Pu e) (I.ok.cab x c hfn hc)))).trans e1⟩
  ·obtain⟨o',e1⟩:=I.base.there b o e hx
   exact⟨o',(hs.2 b (PQ (PJ (Pu e) (I.ok.cab x c hfn hc)))).trans e1⟩
  ·by_cases hj:j=i
   ·subst hj
    rw[hi] at e1;cases e1;rw[Nh hiσ] at e2;cases e2;exact⟨u,r,.inr ⟨.inl hk,c,hc,hc'⟩⟩
   ·rw[PH (Ne.symm hj)] at e2
    obtain⟨u',r',q⟩:=hl j y v' e1 e2 e3;refine⟨u',r',?_⟩;rcases q with q | ⟨k,c',e,z'⟩
    ·exact .inl q
    ·refine .inr ⟨k,c',e,z'.sameBut hs ?_⟩
     rintro rfl
     exact hj (GU hN e1 (I.ok.inj _ _ _ e hc▸hi))
  ·by_cases hcc:c'=c
   ·subst hcc;exact⟨_,hc'⟩
   ·obtain⟨w2,z2⟩:=I.cell y c' e
    exact⟨w2,z2.sameBut hs hcc⟩
  ·obtain⟨e,n,ne,nf,d⟩:=I.pin p hp
   refine⟨(hs.2 p.1 ?_).trans e,n,ne,nf,d⟩;intro q;rw[q,hoc] at e;have q':oc=p.2:=Pb e;exact d w' (by rw[<-q'];exact hocd)
theorem WD {M:Model}{A:Around}{E:Value->Shared->Prop}{i:Nat}{x:Str}{v:V}{u:Value}{Q:Unit->Shared->Prop}(I:Inv X pins σ H s) (hN:X.N.Nodup) (hi:X.N[i]? = some x) (hx:Loc X.env.scope x) (r:ZD v u)
  (h:∀s',Inv X pins (σ.set i (some v)) H s'->Q () s') (hf:X.fn x=true\/X.env.scope.names.lookup x=some .local:=by first | exact .inl rfl | exact .inr rfl | assumption):wpAny M A (storeName X.env x u) Q E s:=
 Vq I hN hi hx r (λs' I' _=>h s' I') hf
theorem Inv.call' {s':Shared}{ch:List Addr}(I:Inv X pins σ H s) (ho:s'.os=s.os) (u:Un (frs X.stack) ch H H' s.heap s'.heap) (hok:HOk X.prog X.w H' s'.heap) (hg:AllBare s'.gens)
  (hch:∀b∈ch,(b∈X.ex\/X.s₀.heap.objs.size<=b)/\b≠X.env.locals/\(∀x c,X.env.cells.lookup x=some c->c≠b)/\∀p∈X.pn++pins,p.1≠b):Inv X pins σ H' s':=by
 obtain⟨h',g',d',t',o'⟩:=s';have e:o'=s.os:=ho;subst e;exact I.call (g':=g') (t':=t') (d':=d') u hok hg hch
end
noncomputable abbrev XK:=Value->Option Addr->Hp->Prop
noncomputable abbrev St:=List (Option V)
noncomputable abbrev VK:=V->Hp->Prop
noncomputable abbrev TE:=St->Hp->VK->Prop
noncomputable abbrev TT:=St->Hp->(Bool->Hp->Prop)->Prop
noncomputable abbrev TA:=St->Hp->(List V->Hp->Prop)->Prop
structure Ends where
 nx:St->Hp->Prop
 rt:VK
 bk:St->Hp->Prop:=λ_ _=>False
 ct:St->Hp->Prop:=λ_ _=>False
noncomputable abbrev TS:=Ends->St->Hp->Prop
noncomputable def EP (X:Cx) (pins:List (Addr×Obj)) (σ:St) (Q:VK) (u:Value) (s':Shared):Prop:=∃v H',Inv X pins σ H' s'/\ZD v u/\Q v H'
noncomputable def TP (X:Cx) (pins:List (Addr×Obj)) (σ:St) (Q:Bool->Hp->Prop) (b:Bool) (s':Shared):Prop:=∃H',Inv X pins σ H' s'/\Q b H'
noncomputable def AP (X:Cx) (pins:List (Addr×Obj)) (σ:St) (Q:List V->Hp->Prop) (us:List Value) (s':Shared):Prop:=∃vs H',Inv X pins σ H' s'/\Vals vs us/\Q vs H'
noncomputable def SP (X:Cx) (pins:List (Addr×Obj)) (D:Ends) (f:Flow) (s':Shared):Prop:=
 match f with
 |.next=>∃σ' H',Inv X pins σ' H' s'/\D.nx σ' H'
 |.brk=>∃σ' H',Inv X pins σ' H' s'/\D.bk σ' H'
 |.cont=>∃σ' H',Inv X pins σ' H' s'/\D.ct σ' H'
 |.ret u=>∃v σ' H',Inv X pins σ' H' s'/\ZD v u/\D.rt v H'
def PE (X:Cx) (e:Expr) (t:TE):Prop:=
 ∀(pins:List (Addr×Obj)) (s:Shared) (σ:St) (H:Hp) (Q:VK),Inv X pins σ H s->t σ H Q->wpAny (model X.prog X.w) X.A (eval e X.env) (EP X pins σ Q) X.xe s
def PT (X:Cx) (e:Expr) (t:TT):Prop:=
 ∀(pins:List (Addr×Obj)) (s:Shared) (σ:St) (H:Hp) (Q:Bool->Hp->Prop),Inv X pins σ H s->t σ H Q->wpAny (model X.prog X.w) X.A (isTrue e X.env (eval e X.env)) (TP X pins σ Q) X.xe s
def PW (X:Cx) (e:Expr) (t:TT):Prop:=
 ∀(whole:Sem Value) (pins:List (Addr×Obj)) (s:Shared) (σ:St) (H:Hp) (Q:Bool->Hp->Prop),Inv X pins σ H s->t σ H Q->wpAny (model X.prog X.w) X.A (isTrue e X.env whole) (TP X pins σ Q) X.xe s
theorem PW.pt {X:Cx}{e:Expr}{t:TT}(h:PW X e t):PT X e t:=h _
def PA (X:Cx) (es:List Expr) (t:TA):Prop:=
 ∀(pos:Pos) (pins:List (Addr×Obj)) (s:Shared) (σ:St) (H:Hp) (Q:List V->Hp->Prop),Inv X pins σ H s->t σ H Q->wpAny (model X.prog X.w) X.A (spliced (backTo pos (starEach es X.env))) (AP X pins σ Q) X.xe s
def PS (X:Cx) (st:Stmt) (t:TS):Prop:=
 ∀(pins:List (Addr×Obj)) (s:Shared) (σ:St) (H:Hp) (D:Ends),Inv X pins σ H s->t D σ H->wpAny (model X.prog X.w) X.A (exec st X.env) (SP X pins D) X.xe s
def PSs (X:Cx) (st:List Stmt) (t:TS):Prop:=
 ∀(pins:List (Addr×Obj)) (s:Shared) (σ:St) (H:Hp) (D:Ends),Inv X pins σ H s->t D σ H->wpAny (model X.prog X.w) X.A (execs st X.env) (SP X pins D) X.xe s
theorem thn {α:Type}{t:Sem α}{Q Q':α->Shared->Prop}{M:Model}{A:Around}{E:Value->Shared->Prop}{s:Shared}(h:wpAny M A t Q E s) (hQ:∀a s,Q a s->Q' a s):wpAny M A t Q' E s:=Ni h hQ λ_ _ x=>x
section
variable {X:Cx}
noncomputable def ZcI (i:Nat):TE:=λσ H Q=>∃v,σ[i]? = some (some v)/\Q v H
noncomputable def tC (v:V):TE:=λ_ H Q=>Q v H
theorem Zbh {i:Nat}{x:Str}{pos:Pos}(hN:X.N[i]? = some x) (hv:Vis X.env.scope x) (hd:(x == ("__debug__" : Str))=false:=by decide) (hcd:(x == ("__classdict__" : Str))=false:=by decide):PE X (.Name x pos) (ZcI i):=by
 intro pins s σ H Q I h;obtain⟨v,e,h⟩:=h;obtain⟨m,hn,hl⟩:=I.loc;obtain⟨u,r,l⟩:=hl i x v hN e hv;have fin:EP X pins σ Q u s:=⟨v,H,I,r,h⟩;rcases l with ⟨hk,hm⟩ | ⟨hk,c,hc,hcell⟩
 ·exact wpAny_Name (wpAny_loadName_local I.ok.kind hk hn hm fin) hd
 ·rcases hk with hk | hk
  ·exact wpAny_Name (wpAny_loadName_cell I.ok.kind hk hc hcell fin) hd
  ·exact wpAny_Name (wpAny_loadName_free I.ok.kind hk hc hcell fin hcd) hd
theorem ZaQ {i j pos}:PE X (.Constant (.int i) j pos) (tC (.int i)):=λ_ _ _ H _ I h=>wpAny_Constant_int ⟨.int i,H,I.tok _,⟨_,rfl⟩,h⟩
theorem j6 {b j pos}:PE X (.Constant (.bool b) j pos) (tC (.bl b)):=λ_ _ _ H _ I h=>Constant_bool ⟨.bl b,H,I,rfl,h⟩
theorem Zbp {j pos}:PE X (.Constant .none j pos) (tC .non):=λ_ _ _ H _ I h=>Constant_none ⟨.non,H,I,rfl,h⟩
def Gl (X:Cx) (x:Str):Prop:=X.env.kindOf x=some .globalImplicit
theorem jO {E:Value->Shared->Prop}{pins:List (Addr×Obj)}{s:Shared}{σ:St}{H:Hp}{x:Str}{u:Value}{pos:Pos}{Q:Value->Shared->Prop}(I:Inv X pins σ H s) (hg:Gl X x) (hm:X.mg x=some u) (h:Q u s)
  (hd:(x == ("__debug__" : Str))=false:=by decide):wpAny (model X.prog X.w) X.A (eval (.Name x pos) X.env) Q E s:=
 Calls.Name_function_global I.ok.kind hg (Calls.loadGlobal_global (by rw[I.ok.glob];exact I.mod.glob.keeps I.bk) hm h) hd
theorem Y5 {E:Value->Shared->Prop}{pins:List (Addr×Obj)}{s:Shared}{σ:St}{H:Hp}{x:Str}{u:Value}{pos:Pos}{Q:Value->Shared->Prop}(I:Inv X pins σ H s) (hg:Gl X x) (hm:X.mg x=none) (hv:bootBuiltins x=some u) (h:Q u s)
  (hn:x≠"__name__":=by decide) (hd:(x == ("__debug__" : Str))=false:=by decide):wpAny (model X.prog X.w) X.A (eval (.Name x pos) X.env) Q E s:=by
 obtain⟨mb,h1,h2⟩:=I.mod.blt;exact Calls.Name_function_global I.ok.kind hg (Calls.loadGlobal_builtin (by rw[I.ok.glob];exact I.mod.glob.keeps I.bk) hm (by rw[I.ok.blt];exact h1.keeps I.bk) ((h2 x hn).trans hv) h) hd
theorem Jk {x:Str}{v:V}{u:Value}{pos:Pos}(hg:Gl X x) (hm:X.mg x=none) (hv:bootBuiltins x=some u) (r:ZD v u) (hn:x≠"__name__":=by decide) (hd:(x == ("__debug__" : Str))=false:=by decide):PE X (.Name x pos) (tC v):=
 λ_ _ _ H _ I h=>Y5 I hg hm hv ⟨v,H,I,r,h⟩ hn hd
variable {a b:Expr}{ta tb:TE}{pos:Pos}
variable {tA tB':TT}{rest:List Expr}
noncomputable def Zcv (t u:TT):TT:=λσ H Q=>t σ H λc H1=>if c=true then u σ H1 Q else Q false H1
noncomputable def tOr (t u:TT):TT:=λσ H Q=>t σ H λc H1=>if c=true then Q true H1 else u σ H1 Q
noncomputable def Zcd (t:TT):TT:=λσ H Q=>t σ H λc H1=>Q (!c) H1
theorem qI (ha:PT X a tA):PW X (.BoolOp .And [a] pos) tA:=by
 intro wh pins s σ H Q I h;refine isTrue_and (thn (ha pins s σ H Q I h) λc s1 e=>?_)
 cases c with
 |true=>exact isTrue_and_nil e
 |false=>exact e
theorem ZaA (ha:PT X a tA):PW X (.BoolOp .Or [a] pos) tA:=by
 intro wh pins s σ H Q I h;refine isTrue_or (thn (ha pins s σ H Q I h) λc s1 e=>?_)
 cases c with
 |false=>exact isTrue_or_nil e
 |true=>exact e
theorem Za7 (ha:PT X a tA) (hb:PW X (.BoolOp .And (b::rest) pos) tB'):PW X (.BoolOp .And (a::b::rest) pos) (Zcv tA tB'):=by
 intro wh pins s σ H Q I h;refine isTrue_and (thn (ha pins s σ H _ I h) λc s1 ⟨H1,I1,q1⟩=>?_)
 cases c with
 |true=>exact hb wh pins s1 σ H1 Q I1 q1
 |false=>exact⟨H1,I1,q1⟩
theorem ZbV (ha:PT X a tA) (hb:PW X (.BoolOp .Or (b::rest) pos) tB'):PW X (.BoolOp .Or (a::b::rest) pos) (tOr tA tB'):=by
 intro wh pins s σ H Q I h;refine isTrue_or (thn (ha pins s σ H _ I h) λc s1 ⟨H1,I1,q1⟩=>?_)
 cases c with
 |true=>exact⟨H1,I1,q1⟩
 |false=>exact hb wh pins s1 σ H1 Q I1 q1
theorem Zap (ha:PT X a tA):PT X (.UnaryOp .Not a pos) (Zcd tA):=by
 intro pins s σ H Q I h;exact isTrue_not (ha pins s σ H (λc H1=>Q (!c) H1) I h)
noncomputable def Zb6 (ta tb:TE):TE:=λσ H Q=>ta σ H λx H1=>∃c,x=.bl c/\if c=true then tb σ H1 Q else Q (.bl false) H1
theorem ZaC {op}{t:TE}(h:PE X a t):PE X (.BoolOp op [a] pos) t:=λpins s σ H Q I hw=>BoolOp_one (h pins s σ H Q I hw)
theorem ZaN (ha:PE X a ta) (hb:PE X (.BoolOp .And (b::rest) pos) tb):PE X (.BoolOp .And (a::b::rest) pos) (Zb6 ta tb):=by
 intro pins s σ H Q I h;refine BoolOp_and (thn (ha pins s σ H _ I h) λv s1 ⟨x,H1,I1,r1,q1⟩=>?_)
 obtain⟨c,rfl,q1⟩:=q1;cases r1;refine wpAny_truthy_bool ?_;cases c with
 |true=>exact hb pins s1 σ H1 Q I1 q1
 |false=>exact⟨.bl false,H1,I1,rfl,q1⟩
noncomputable def tIf (t:TT) (ta tb:TE):TE:=λσ H Q=>t σ H λc H1=>if c=true then ta σ H1 Q else tb σ H1 Q
theorem uB {c:Expr}(hc:PT X c tA) (ha:PE X a ta) (hb:PE X b tb):PE X (.IfExp c a b pos) (tIf tA ta tb):=by
 intro pins s σ H Q I h;refine wpAny_IfExp (thn (hc pins s σ H _ I h) λd s1 ⟨H1,I1,q1⟩=>?_)
 cases d with
 |true=>exact ha pins s1 σ H1 Q I1 q1
 |false=>exact hb pins s1 σ H1 Q I1 q1
end
def SqL (K:PySem.W.Frag) (H:Hp) (a:Addr) (xs:List V):Prop:=
 Rd H a (.lst xs)\/
  ∃(o:Obj) (its:Array Value) (n:Nat),K.lookup a=some o/\o.cls=.type "list"/\o.dict=none/\o.data=.seq its n/\its.size<=sizeLine/\Vals xs its.toList
def SqT (K:PySem.W.Frag) (H:Hp) (a:Addr) (xs:List V):Prop:=
 Rd H a (.tup xs)\/
  ∃(o:Obj) (its:Array Value) (n:Nat),K.lookup a=some o/\o.cls=.type "tuple"/\o.data=.seq its n/\its.size<=sizeLine/\Vals xs its.toList
noncomputable def Zcs:Value->Option V
 |.none=>some .non
 |.bool b=>some (.bl b)
 |.int i _=>some (.int i)
 |.str x _=>some (.str x)
 |.bytes b _=>some (.byt b)
 |.float b _=>some (.flt b)
 |.ref a=>some (.ref a)
 |.type n=>some (.ty n)
 |_=>none
theorem ZD.abs {x:V}{u:Value}(r:ZD x u):Zcs u=some x:=by
 cases x with
 |non=>cases r;rfl
 |bl _=>cases r;rfl
 |int _=>obtain⟨t,rfl⟩:=r;rfl
 |str _=>obtain⟨t,rfl⟩:=r;rfl
 |byt _=>obtain⟨t,rfl⟩:=r;rfl
 |flt _=>obtain⟨t,rfl⟩:=r;rfl
 |ref _=>cases r;rfl
 |ty _=>cases r;rfl
theorem ZD.inj {x y:V}{u:Value}(r:ZD x u) (q:ZD y u):x=y:=Pb (r.abs.symm.trans q.abs)
theorem Vals.inj:∀{xs ys:List V}{us:List Value},Vals xs us->Vals ys us->xs=ys
 |_,_,_,.nil,.nil=>rfl
 |_,_,_,.cons r t,.cons r' t'=>by rw[r.inj r',Vals.inj t t']
section
variable {X:Cx}{pins:List (Addr×Obj)}{σ:St}{H:Hp}{s:Shared}{a:Addr}{xs ys:List V}
theorem SqL.of {K:PySem.W.Frag}(h:H a=some (.lst xs)):SqL K H a xs:=.inl (.inl h)
theorem SqT.of {K:PySem.W.Frag}(h:H a=some (.tup xs)):SqT K H a xs:=.inl (.inl h)
theorem Inv.list (I:Inv X pins σ H s) (h:SqL X.K H a xs):∃its:List Value,Vals xs its/\PlainL s.heap a its.toArray/\xs.length<=sizeLine:=by
 rcases h with h | ⟨o,its,n,hk,hc,hd,hs,hz,r⟩
 ·obtain⟨z,its,n,r,e⟩:=h.ok I.hok
  exact⟨its,r,⟨_,n,e,rfl,rfl,rfl⟩,z⟩
 ·refine⟨its.toList,r,⟨o,n,I.kIn a o hk,hc,hd,by simpa using hs⟩,?_⟩
  have e:=r.length;simp only[Nz] at e;omega
theorem Inv.tuple (I:Inv X pins σ H s) (h:SqT X.K H a xs):∃its:List Value,Vals xs its/\IsTup s.heap a its.toArray/\xs.length<=sizeLine:=by
 rcases h with h | ⟨o,its,n,hk,hc,hs,hz,r⟩
 ·obtain⟨z,its,r,p⟩:=h.ok I.hok
  exact⟨its,r,p,z⟩
 ·refine⟨its.toList,r,⟨o,I.kIn a o hk,hc,n,by simpa using hs⟩,?_⟩
  have e:=r.length;simp only[Nz] at e;omega
theorem Inv.list_inj (I:Inv X pins σ H s) (h:SqL X.K H a xs) (h':SqL X.K H a ys):xs=ys:=by
 obtain⟨its,r,⟨o,n,e,_,_,d⟩,_⟩:=I.list h;obtain⟨its',r',⟨o',n',e',_,_,d'⟩,_⟩:=I.list h';rw[e] at e';cases e';rw[d] at d';injection d' with d1 _
 have:its=its':=by simpa using congrArg Array.toList d1
 subst this;exact r.inj r'
theorem Inv.tuple_inj (I:Inv X pins σ H s) (h:SqT X.K H a xs) (h':SqT X.K H a ys):xs=ys:=by
 obtain⟨its,r,⟨o,e,_,n,d⟩,_⟩:=I.tuple h;obtain⟨its',r',⟨o',e',_,n',d'⟩,_⟩:=I.tuple h';rw[e] at e';cases e';rw[d] at d';injection d' with d1 _
 have:its=its':=by simpa using congrArg Array.toList d1
 subst this;exact r.inj r'
end
noncomputable abbrev Cx.wish (X:Cx) (E:Value->Shared->Prop):Cx:={ X with xe:=E }
noncomputable abbrev Cx.nox (X:Cx):Cx:=X.wish λ_ _=>False
theorem Cx.Ok.wish {X:Cx}(ok:X.Ok) (E:Value->Shared->Prop):(X.wish E).Ok:=
 ⟨ok.mod,ok.kind,ok.glob,ok.blt,ok.above,ok.inj,ok.has,ok.cab,ok.hd,ok.frames,ok.stk,ok.exf,ok.bs,ok.bsz,ok.noex,ok.exfs,ok.funs,ok.frf⟩
theorem Cx.Ok.unwish {X:Cx}{E:Value->Shared->Prop}(ok:(X.wish E).Ok):X.Ok:=
 ⟨ok.mod,ok.kind,ok.glob,ok.blt,ok.above,ok.inj,ok.has,ok.cab,ok.hd,ok.frames,ok.stk,ok.exf,ok.bs,ok.bsz,ok.noex,ok.exfs,ok.funs,ok.frf⟩
section
variable {X:Cx}{pins:List (Addr×Obj)}{σ:St}{H:Hp}{s:Shared}{E:Value->Shared->Prop}
theorem Inv.wish (I:Inv X pins σ H s) (E:Value->Shared->Prop):Inv (X.wish E) pins σ H s:=⟨I.ok.wish E,I.os,I.bare,I.base,I.loc,I.cell,I.free,I.freeC,I.pin,I.hok,I.len⟩
theorem Inv.unwish (I:Inv (X.wish E) pins σ H s):Inv X pins σ H s:=⟨I.ok.unwish,I.os,I.bare,I.base,I.loc,I.cell,I.free,I.freeC,I.pin,I.hok,I.len⟩
theorem SP.unwish {D:Ends}{f:Flow}{s':Shared}(h:SP (X.wish E) pins D f s'):SP X pins D f s':=by
 cases f with
 |next=>obtain⟨σ',H',I,q⟩:=h;exact⟨σ',H',I.unwish,q⟩
 |brk=>obtain⟨σ',H',I,q⟩:=h;exact⟨σ',H',I.unwish,q⟩
 |cont=>obtain⟨σ',H',I,q⟩:=h;exact⟨σ',H',I.unwish,q⟩
 |ret u=>obtain⟨v,σ',H',I,r,q⟩:=h;exact⟨v,σ',H',I.unwish,r,q⟩
theorem PSs.nox {st:List Stmt}{t:TS}(h:PSs X.nox st t):PSs X st t:=λpins s σ H D I hw=>
 Ni (h pins s σ H D (I.wish _) hw) (λ_ _ q=>q.unwish) λ_ _ z=>False.elim z
end
section
variable {X:Cx}{st:Stmt}{rest:List Stmt}{t u:TS}{e:Expr}{te:TE}{pos:Pos}
noncomputable def Zbx:TS:=λD σ H=>D.nx σ H
noncomputable def Zcx (t u:TS):TS:=λD σ H=>t { D with nx:=u D } σ H
theorem qm:PSs X [] Zbx:=λ_ _ σ H _ I h=>wpAny_execs_nil ⟨σ,H,I,h⟩
theorem uY (h1:PS X st t) (h2:PSs X rest u):PSs X (st::rest) (Zcx t u):=by
 intro pins s σ H D I h;refine wpAny_execs_cons (thn (h1 pins s σ H { D with nx:=u D } I h) λf s1 q=>?_)
 cases f with
 |next=>
  obtain⟨σ',H',I',q⟩:=q;exact h2 pins s1 σ' H' D I' q
 |ret v=>exact q
 |brk=>exact q
 |cont=>exact q
theorem Inv.quiet {pins:List (Addr×Obj)}{σ:St}{H:Hp}{s:Shared}(I:Inv X pins σ H s):interactive X.env=false:=by simp[interactive,I.ok.kind]
noncomputable def Zb9 (te:TE):TS:=λD σ H=>te σ H λ_ H1=>D.nx σ H1
theorem jp (he:PE X e te) (hs:swapsWith e none pos.line X.env=pure false:=by rfl):PS X (.Expr e pos) (Zb9 te):=by
 intro pins s σ H D I h;exact wpAny_Expr_any (thn (he pins s σ H _ I h) λv s1 ⟨x,H1,I1,r1,q1⟩=>⟨σ,H1,I1,q1⟩) I.quiet hs
noncomputable def Zcf (te:TE):TS:=λD σ H=>te σ H D.rt
theorem Zal (he:PE X e te):PS X (.Return (some e) pos) (Zcf te):=by
 intro pins s σ H D I h;exact wpAny_Return_some (thn (he pins s σ H _ I h) λv s1 ⟨x,H1,I1,r1,q1⟩=>⟨x,σ,H1,I1,r1,q1⟩)
noncomputable def Zcu (c:TT) (t u:TS):TS:=λD σ H=>c σ H λb H1=>if b=true then t D σ H1 else u D σ H1
theorem Zb0 {c:Expr}{a b:List Stmt}{tc:TT}(hc:PT X c tc) (ha:PSs X a t) (hb:PSs X b u):PS X (.If c a b pos) (Zcu tc t u):=by
 intro pins s σ H D I h;refine wpAny_If (thn (hc pins s σ H _ I h) λd s1 ⟨H1,I1,q1⟩=>?_)
 cases d with
 |true=>exact ha pins s1 σ H1 D I1 q1
 |false=>exact hb pins s1 σ H1 D I1 q1
end
noncomputable abbrev TG:=V->St->Hp->(St->Hp->Prop)->Prop
noncomputable abbrev TGs:=List V->St->Hp->(St->Hp->Prop)->Prop
def PG (X:Cx) (target:Expr) (t:TG):Prop:=
 ∀(pins:List (Addr×Obj)) (s:Shared) (σ:St) (H:Hp) (v:V) (u:Value) (Q:St->Hp->Prop),Inv X pins σ H s->ZD v u->t v σ H Q->
  wpAny (model X.prog X.w) X.A (assign target X.env u) (λ_ s'=>∃σ' H',Inv X pins σ' H' s'/\Q σ' H') X.xe s
def PGs (X:Cx) (ts:List Expr) (t:TGs):Prop:=
 ∀(pins:List (Addr×Obj)) (s:Shared) (σ:St) (H:Hp) (vs:List V) (us:List Value) (Q:St->Hp->Prop),Inv X pins σ H s->Vals vs us->t vs σ H Q->
  wpAny (model X.prog X.w) X.A (assignInOrder ((assignEach ts X.env).map (·.2)) us) (λ_ s'=>∃σ' H',Inv X pins σ' H' s'/\Q σ' H') X.xe s
noncomputable abbrev TSet:=V->V->V->Hp->(Hp->Prop)->Prop
def PSet (X:Cx) (t:TSet):Prop:=
 ∀(pins:List (Addr×Obj)) (s:Shared) (σ:St) (H:Hp) (o i v:V) (ov iv u:Value) (Q:Hp->Prop),Inv X pins σ H s->ZD o ov->ZD i iv->ZD v u->t o i v H Q->
  wpAny (model X.prog X.w) X.A (setItem ov iv u) (λ_ s'=>∃H',Inv X pins σ H' s'/\Q H') X.xe s
noncomputable abbrev TIp:=V->V->Hp->VK->Prop
def PIp (X:Cx) (op:Operator) (t:TIp):Prop:=
 ∀(pins:List (Addr×Obj)) (s:Shared) (σ:St) (H:Hp) (x y:V) (v u:Value) (Q:VK),Inv X pins σ H s->ZD x v->ZD y u->t x y H Q->
  wpAny (model X.prog X.w) X.A (inplaceOp op v u) (EP X pins σ Q) X.xe s
section
variable {X:Cx}{pos:Pos}
noncomputable def ZbW (i:Nat):TG:=λv σ H Q=>Q (σ.set i (some v)) H
theorem y3 {i:Nat}{x:Str}(hN:X.N.Nodup) (hi:X.N[i]? = some x) (hx:Loc X.env.scope x) (hf:X.fn x=true\/X.env.scope.names.lookup x=some .local:=by first | exact .inl rfl | exact .inr rfl | assumption):PG X (.Name x pos) (ZbW i):=by
 intro pins s σ H v u Q I r h;exact wpAny_assign_Name (WD I hN hi hx r (λs' I'=>⟨_,H,I',h⟩) hf)
noncomputable def Zcj:TGs:=λvs σ H Q=>vs=[]/\Q σ H
noncomputable def ZbH (t:TG) (u:TGs):TGs:=λvs σ H Q=>∃v r,vs=v::r/\t v σ H λσ' H'=>u r σ' H' Q
theorem qG:PGs X [] Zcj:=by
 intro pins s σ H vs us Q I r h;obtain⟨e,h⟩:=h;subst e;cases r;exact assignInOrder_nil ⟨σ,H,I,h⟩
theorem uy {e:Expr}{es:List Expr}{t:TG}{u:TGs}(h1:PG X e t) (h2:PGs X es u)
  (hs:(assignEach (e::es) X.env).map (·.2)=assign e X.env::(assignEach es X.env).map (·.2):=by rfl):PGs X (e::es) (ZbH t u):=by
 intro pins s σ H vs us Q I r h;obtain⟨v,vr,e1,h⟩:=h;subst e1;cases r with
 |cons r rr=>
  rw[hs];refine assignInOrder_cons (thn (h1 pins s σ H _ _ _ I r h) λ_ s1 ⟨σ1,H1,I1,q1⟩=>?_)
  exact h2 pins s1 σ1 H1 _ _ Q I1 rr q1
noncomputable def Zci (K:PySem.W.Frag) (n:Nat) (t:TGs):TG:=λv σ H Q=>∃a xs,v=.ref a/\SqT K H a xs/\xs.length=n/\t xs σ H Q
theorem ZaJ {es:List Expr}{k:Nat}{t:TGs}{n:Nat}(hc:X.calm=true) (h:PGs X es t)
  (hn:(assignEach es X.env).length=n:=by rfl) (hst:(assignEach es X.env).findIdx? (·.1)=none:=by rfl):PG X (.Tuple es k pos) (Zci X.K n t):=by
 intro pins s σ H v u Q I r hw;obtain⟨a,xs,e1,hq,hl,hw⟩:=hw;subst e1;cases r;obtain⟨its,rv,ht,hz⟩:=I.tuple hq;refine assign_Tuple_tuple (I.ok.hd hc) ht (by simp[hn,<-hl,rv.length]) hst λh' hx=>?_
 have I1:Inv X pins σ H { s with heap:=h' }:=I.kept (t':=s.toks) λb o e=>hx b o (PQ (Pu e)) e
 exact h pins _ σ H xs _ Q I1 (by simpa using rv) hw
noncomputable def Zcz (to ti:TE) (t:TSet):TG:=λv σ H Q=>to σ H λo H1=>ti σ H1 λi H2=>t o i v H2 λH3=>Q σ H3
theorem Za9 {o i:Expr}{to ti:TE}{t:TSet}(ho:PE X o to) (hi:PE X i ti) (hs:PSet X t)
  (ha:∀v,assign (.Subscript o i pos) X.env v=(do
   let ov <-holding [v] (eval o X.env)
   let iv <-holding [v,ov] (eval i X.env)
   standAt pos
   holding [v,ov,iv] (setItem ov iv v)
   release [v,ov,iv] []):=by intro _;rfl):PG X (.Subscript o i pos) (Zcz to ti t):=by
 intro pins s σ H v u Q I r h;rw[ha];refine Pa (Nf (thn (ho pins s σ H _ I h) λov s1 ⟨x,H1,I1,r1,q1⟩=>?_))
 refine Pa (Nf (thn (hi pins s1 σ H1 _ I1 q1) λiv s2 ⟨y,H2,I2,r2,q2⟩=>?_))
 refine Pa (NN (Pa (Nf (thn (hs pins s2 σ H2 x y v ov iv u _ I2 r1 r2 r q2) λ_ s3 ⟨H3,I3,q3⟩=>?_))))
 exact wpAny_release ⟨σ,H3,I3,q3⟩
noncomputable def Zcm (te:TE) (g:TG):TS:=λD σ H=>te σ H λx H1=>g x σ H1 D.nx
theorem wY {tg e:Expr}{te:TE}{g:TG}(he:PE X e te) (hg:PG X tg g) (hs:swapsWithSole [tg] e pos.line X.env=pure false:=by rfl) (hw:swappedStores [tg] e X.env=pure none:=by rfl)
  (h1:(assignEach [tg] X.env).map (·.2)=[assign tg X.env]:=by rfl):PS X (.Assign [tg] e pos) (Zcm te g):=by
 intro pins s σ H D I h;refine wpAny_Assign_stores (thn (he pins s σ H _ I h) λv s1 ⟨x,H1,I1,r1,q1⟩=>?_) hs hw
 rw[h1];exact thn (hg pins s1 σ H1 x v _ I1 r1 q1) λ_ s2 q=>q
noncomputable def ZcH (i j:Nat) (ta:TA):TS:=λD σ H=>ta σ H λvs H1=>∃v w,vs=[v,w]/\D.nx ((σ.set i (some v)).set j (some w)) H1
theorem Zaw {i j:Nat}{x y:Str}{a b:Expr}{ta:TA}{px py pt:Pos}{kt k2 pt2}(hc:X.calm=true) (hN:X.N.Nodup) (hi:X.N[i]? = some x) (hj:X.N[j]? = some y) (hij:i≠j)
  (hx:X.env.scope.names.lookup x=some .local) (hy:X.env.scope.names.lookup y=some .local) (ha:PA X [a,b] ta)
  (hw:swappedStores [.Tuple [.Name x px,.Name y py] kt pt] (.Tuple [a,b] k2 pt2) X.env=pure (some [x,y]))
  (hs:swapsWithSole [.Tuple [.Name x px,.Name y py] kt pt] (.Tuple [a,b] k2 pt2) pos.line X.env=pure false:=by rfl) :
  PS X (.Assign [.Tuple [.Name x px,.Name y py] kt pt] (.Tuple [a,b] k2 pt2) pos) (ZcH i j ta):=by
 intro pins s σ H D I h;rw[exec_Assign_arm];refine Pa (NN ?_);rw[hs];refine Pa (Pj ?_);rw[Pi (by decide)]
 refine Pa (Tuple_ (thn (ha _ pins s σ H _ I h) λus s1 ⟨vs,H1,I1,r1,q1⟩=>?_))
 obtain⟨v,w,e1,q1⟩:=q1;subst e1;obtain⟨u1,u2,rfl,rv,rw'⟩:∃u1 u2,us=[u1,u2]/\ZD v u1/\ZD w u2:=by
  cases r1 with
  |cons p q=>
   cases q with
   |cons p' q'=>
    cases q';exact⟨_,_,rfl,p,p'⟩
 refine Nm ?_ (by show 2<=sizeLine;decide)
 have I2:Inv X pins σ H1 { s1 with heap:=s1.heap.push { cls:=.type "tuple",data:=.seq [u1,u2].toArray } }:=I1.kept (t':=s1.toks) λb o e=>Pg _ e
 rw[hw];refine Pa (Pj ?_);show wpAny (model X.prog X.w) X.A (do rule "assign.swapped-stores";let items <-unpackItems (.ref s1.heap.objs.size) 2 none;assignInOrder [λv=>bindName X.env y v,λv=>bindName X.env x v] items.reverse;pure Flow.next) _ _ _
 refine Pa (wpAny_rule (Pa (unpackItems_tuple (items:=#[u1,u2]) (I.ok.hd hc) (IsTup.new s1.heap _) λh' hx'=>?_)))
 have I3:=I2.kept (h':=h') (t':=s1.toks) λb o e=>hx' b o (PQ (Pu e)) e
 show wpAny _ _ (assignInOrder [λv=>bindName X.env y v,λv=>bindName X.env x v] [u2,u1] >>= λ_=>pure Flow.next) _ _ _
 refine Pa (assignInOrder_cons (wpAny_bindName (WD I3 hN hj (.inl hy) rw' (λs2 I4=>?_) (.inr hy))))
 refine assignInOrder_cons (wpAny_bindName (WD I4 hN hi (.inl hx) rv (λs3 I5=>assignInOrder_nil (Pj ?_)) (.inr hx)))
 rw[List.set_comm _ _ (Ne.symm hij)] at I5;exact⟨_,H1,I5,q1⟩
noncomputable def ZcC (i:Nat) (te:TE) (ti:TIp):TS:=λD σ H=>∃x,σ[i]? = some (some x)/\te σ H λy H1=>ti x y H1 λz H2=>D.nx (σ.set i (some z)) H2
theorem Zbl {i:Nat}{x:Str}{e:Expr}{te:TE}{op:Operator}{ti:TIp}{pos':Pos}(hN:X.N.Nodup) (hi:X.N[i]? = some x) (hx:Loc X.env.scope x) (he:PE X e te) (ho:PIp X op ti) (hf:X.fn x=true\/X.env.scope.names.lookup x=some .local:=by first | exact .inl rfl | exact .inr rfl | assumption) :
  PS X (.AugAssign (.Name x pos') op e pos) (ZcC i te ti):=by
 intro pins s σ H D I h;obtain⟨v,e1,h⟩:=h;obtain⟨m,hn,hl⟩:=I.loc;have vis:Vis X.env.scope x:=by rcases hx with k | k;exact .inl k;exact .inr (.inl k)
 obtain⟨u,r,l⟩:=hl i x v hi e1 vis;refine wpAny_AugAssign_Name ?_;have go:wpAny (model X.prog X.w) X.A (eval e X.env) (λw s₂=>wpAny (model X.prog X.w) X.A (inplaceOp op u w) (λr s₃=>wpAny (model X.prog X.w) X.A (storeName X.env x r) (λ_=>SP X pins D .next) X.xe s₃) X.xe s₂) X.xe s:=by
  refine thn (he pins s σ H _ I h) λw s1 ⟨y,H1,I1,r1,q1⟩=>?_
  refine thn (ho pins s1 σ H1 v y u w _ I1 r r1 q1) λz s2 ⟨zv,H2,I2,r2,q2⟩=>?_
  exact WD I2 hN hi hx r2 (λs3 I3=>⟨_,H2,I3,q2⟩) hf
 rcases l with ⟨hk,hm⟩ | ⟨hk,c,hc,hcell⟩
 ·exact wpAny_loadName_local I.ok.kind hk hn hm go
 ·rcases hk with hk | hk
  ·exact wpAny_loadName_cell I.ok.kind hk hc hcell go
  ·rcases hx with k | k
   ·have:X.env.scope.names.lookup x=some .free:=hk
    rw[k] at this;cases this
   ·have:X.env.scope.names.lookup x=some .free:=hk
    rw[k] at this;cases this
end
section
variable {X:Cx}{pos:Pos}
noncomputable def Zbu (c:TT) (tb:TS):TS:=λD σ H=>∃W:Nat->St->Hp->Prop,(∃m,W m σ H)/\∀m σ H,W m σ H->
 c σ H λb H1=>if b=true then ∃N:St->Hp->Prop,(∀σ' H',N σ' H'->∃m',m'<m/\W m' σ' H')/\tb { D with nx:=N,ct:=N,bk:=D.nx } σ H1 else D.nx σ H1
theorem u5 {c:Expr}{body:List Stmt}{tc:TT}{tb:TS}(hp:PassesOwn (model X.prog X.w) X.A X.env X.xe) (hc:PT X c tc) (hb:PSs X body tb):PS X (.While c body [] pos) (Zbu tc tb):=by
 intro pins s σ H D I h;obtain⟨W,⟨m0,w0⟩,turn⟩:=h;refine wpAny_While (codeAny_whileLoop (λn s'=>∃σ' H',Inv X pins σ' H' s'/\W n σ' H') ?_ m0 ⟨σ,H,I,w0⟩)
 rintro n s1 ⟨σ1,H1,I1,w1⟩
 refine NS hp (thn (hc pins s1 σ1 H1 _ I1 (turn n σ1 H1 w1)) λb s2 ⟨H2,I2,q2⟩=>?_)
 cases b with
 |true=>
  obtain⟨N,hN,q2⟩:=q2;rw[Ph rfl];refine NS hp (thn (hb pins s2 σ1 H2 _ I2 q2) λf s3 q3=>?_)
  cases f with
  |next=>
   obtain⟨σ3,H3,I3,n3⟩:=q3;obtain⟨m',hm,w3⟩:=hN σ3 H3 n3;exact⟨m',hm,σ3,H3,I3,w3⟩
  |cont=>
   obtain⟨σ3,H3,I3,n3⟩:=q3;obtain⟨m',hm,w3⟩:=hN σ3 H3 n3;exact⟨m',hm,σ3,H3,I3,w3⟩
  |brk=>exact q3
  |ret v=>exact q3
 |false=>
  rw[Pi Pr];exact wpAny_execs_nil ⟨σ1,H2,I2,q2⟩
end
structure It where
 go:Nat->Hp->Prop
 yld:Nat->Hp->V->Hp->Prop
 stop:Nat->Hp->Prop
noncomputable def WR (X:Cx) (pins:List (Addr×Obj)) (H:Hp) (b:Addr):Prop:=
 H b=none/\b≠X.env.locals/\b∉X.fs/\(b∈X.ex\/X.s₀.heap.objs.size<=b)/\(∀x c,X.env.cells.lookup x=some c->c≠b)/\∀p∈X.pn++pins,p.1≠b
theorem Inv.fpOk {X:Cx}{pins:List (Addr×Obj)}{σ:St}{H H':Hp}{s:Shared}{b:Addr}(I:Inv X pins σ H s) (hb:s.heap.objs.size<=b) (hn:H' b=none):WR X pins H' b:=by
 refine⟨hn,Nat.ne_of_gt (PJ I.lt hb),I.nofs hb,.inr (P0 I.sz hb),λx c e z=>?_,λp hp z=>?_⟩
 ·obtain⟨v,q⟩:=I.cell x c e
  exact absurd (PJ q.lt (by rw[z];exact hb)) (PX _)
 ·exact absurd (PJ (Pu (I.pin p hp).1) (by rw[z];exact hb)) (PX _)
structure Turn (P:Program) (w:World) (K:PySem.W.Frag) (tg:Expr) (J:It) (fp:List Addr) (it:Addr) (tn:Nat->Heap->Prop):Prop where
 mem:it∈fp
 obj:∀i h,tn i h->∀b∈fp,∃o,h.get? b=some o/\∀v,o.data≠.cell v
 keep:∀i h h',tn i h->(∀b∈fp,∀o,h.get? b=some o->h'.get? b=some o)->tn i h'
 item:∀(X:Cx),X.prog=P->X.w=w->X.K=K->X.calm=true->∀(i:Nat) (pins:List (Addr×Obj)) (s:Shared) (σ:St) (H:Hp) (E:Value->Shared->Prop),Inv X pins σ H s->(∀b∈fp,WR X pins H b)->tn i s.heap->J.go i H->
  wpAny (model P w) X.A (pyNext (.ref it)) (λr s1=>∃u,r=some u/\
   wpAny (model P w) X.A (letOwnedTupleGo tg (.ref it) u) (λ_ s2=>∃x H',Inv X pins σ H' s2/\ZD x u/\J.yld i H x H'/\tn (i+1) s2.heap/\∀b∈fp,H' b=none) E s1) E s
 done:∀(X:Cx),X.prog=P->X.w=w->X.K=K->X.calm=true->∀(i:Nat) (pins:List (Addr×Obj)) (s:Shared) (σ:St) (H:Hp) (E:Value->Shared->Prop),Inv X pins σ H s->(∀b∈fp,WR X pins H b)->tn i s.heap->J.stop i H->
  wpAny (model P w) X.A (pyNext (.ref it)) (λr s1=>r=none/\Inv X pins σ H s1) E s
 self:∀(A:Around) (i:Nat) (s:Shared) (Q:Value->Shared->Prop) (E:Value->Shared->Prop),tn i s.heap->Q (.ref it) s->wpAny (model P w) A (pyIter (.ref it)) Q E s
noncomputable abbrev TI:=St->Hp->(It->Hp->Prop)->Prop
noncomputable def PIE (X:Cx) (pins:List (Addr×Obj)) (σ:St) (tg:Expr) (R:It->Hp->Prop) (itv:Value) (s2:Shared):Prop:=
 ∃(it:Addr) (fp:List Addr) (tn:Nat->Heap->Prop) (J:It) (H':Hp),itv=.ref it/\Inv X pins σ H' s2/\Turn X.prog X.w X.K tg J fp it tn/\tn 0 s2.heap/\(∀b∈fp,WR X pins H' b)/\R J H'
def PI (X:Cx) (tg iter:Expr) (wi:TI):Prop:=
 ∀(pins:List (Addr×Obj)) (s:Shared) (σ:St) (H:Hp) (R:It->Hp->Prop),Inv X pins σ H s->wi σ H R->
  wpAny (model X.prog X.w) X.A (eval iter X.env) (λv s1=>wpAny (model X.prog X.w) X.A (pyIter v) (PIE X pins σ tg R) X.xe s1) X.xe s
theorem xa {M:Model}{A:Around}{E:Value->Shared->Prop}{s:Shared}{tg:Expr}{it:Addr}{u:Value}{o:Obj}{n:String}{vs:Array Value}{Q:Unit->Shared->Prop}(ho:s.heap.get? it=some o) (hc:o.cls=.type n) (hd:o.data=.fields vs)
  (hn:["enumerate","zip","dict_itemiterator","dict_reverseitemiterator","odict_iterator","itertools.zip_longest","itertools.pairwise"].contains n=false) (hQ:Q () s):wpAny M A (letOwnedTupleGo tg (.ref it) u) Q E s:=by
 unfold letOwnedTupleGo;cases tg <;> first
  |exact Pj hQ
  |(cases u <;> first
    |exact Pj hQ
    |(refine Pa (wpAny_load ho ?_)
      rw[hc,hd];show wpAny M A (if (["enumerate","zip","dict_itemiterator","dict_reverseitemiterator","odict_iterator","itertools.zip_longest","itertools.pairwise"].contains n&&vs[0]? == some (rawInt _))=true then _ else _) Q E s
      rw[Pi (by intro h;rw[hn,Bool.false_and] at h;cases h)]
      exact Pj hQ))
noncomputable def Itl (K:PySem.W.Frag) (a:Addr):It:=
 ⟨λi H=>∃xs x,SqL K H a xs/\xs[i]? = some x,λi H x H'=>H'=H/\∀xs,SqL K H a xs->xs[i]? = some x,λi H=>∃xs,SqL K H a xs/\xs.length<=i⟩
noncomputable def Itt (K:PySem.W.Frag) (a:Addr):It:=
 ⟨λi H=>∃xs x,SqT K H a xs/\xs[i]? = some x,λi H x H'=>H'=H/\∀xs,SqT K H a xs->xs[i]? = some x,λi H=>∃xs,SqT K H a xs/\xs.length<=i⟩
noncomputable def Itr (lo:Int) (n:Nat):It:=⟨λi _=>i<n,λi H x H'=>H'=H/\x=.int (lo+i),λi _=>n<=i⟩
theorem wo {P:Program}{w:World}{K:PySem.W.Frag}{tg:Expr}(a it:Addr):Turn P w K tg (Itl K a) [it] it (λi h=>h.IsListIter it a i) where
 mem:=by simp
 obj:=λi h st b hb=>by
  have e:b=it:=by simpa using hb
  subst e;obtain⟨o,e,c,d⟩:=st;exact⟨o,e,λv z=>by rw[d] at z;cases z⟩
 keep:=λi h h' st k=>st.at λo e=>k it (by simp) o e
 item:=by
  intro X hP hw hK hc i pins s σ H E I hf st hg;subst hP hw hK;obtain⟨xs,x,hq,hx⟩:=hg;obtain⟨its,rv,p,hz⟩:=I.list hq;obtain⟨u,hu,ru⟩:=rv.get hx;obtain⟨f0,f1,f2,f3,f4,f5⟩:=hf it (by simp)
  refine wpAny_pyNext_list_item st p.isList (x:=u) (by simpa using hu) λh' st' sb=>?_
  have I1:Inv X pins σ H { s with heap:=h' }:=I.turned (t':=s.toks) (λb o hb e=>(sb.2 b hb).trans e) f0 f1 f3 f4 f5
  obtain⟨o,e,c,d⟩:=id st';exact⟨u,rfl,xa (s:={ s with heap:=h' }) e c d (by decide) ⟨x,H,I1,ru,⟨rfl,λys hy=>by rw[I.list_inj hy hq];exact hx⟩,st',λb hb=>(hf b hb).1⟩⟩
 done:=by
  intro X hP hw hK hc i pins s σ H E I hf st hg;subst hP hw hK;obtain⟨xs,hq,hx⟩:=hg;obtain⟨its,rv,p,hz⟩:=I.list hq;obtain⟨f0,f1,f2,f3,f4,f5⟩:=hf it (by simp)
  have hl:=rv.length;exact wpAny_pyNext_list_end (I.ok.hd hc) st p.isList (by simp;omega) λh' eb=>⟨rfl,I.turned (t':=s.toks) (λb o hb e=>eb b o hb e) f0 f1 f3 f4 f5⟩
 self:=λ_ _ _ _ _ st h=>wpAny_pyIter_listiter st h
theorem zR {P:Program}{w:World}{K:PySem.W.Frag}{tg:Expr}(a it:Addr):Turn P w K tg (Itt K a) [it] it (λi h=>h.IsTupleIter it a i) where
 mem:=by simp
 obj:=λi h st b hb=>by
  have e:b=it:=by simpa using hb
  subst e;obtain⟨o,e,c,d⟩:=st;exact⟨o,e,λv z=>by rw[d] at z;cases z⟩
 keep:=λi h h' st k=>st.at λo e=>k it (by simp) o e
 item:=by
  intro X hP hw hK hc i pins s σ H E I hf st hg;subst hP hw hK;obtain⟨xs,x,hq,hx⟩:=hg;obtain⟨its,rv,p,hz⟩:=I.tuple hq;obtain⟨u,hu,ru⟩:=rv.get hx;obtain⟨f0,f1,f2,f3,f4,f5⟩:=hf it (by simp)
  refine wpAny_pyNext_tuple_item st (show s.heap.IsTuple a its.toArray from p) (x:=u) (by simpa using hu) λh' st' sb=>?_
  have I1:Inv X pins σ H { s with heap:=h' }:=I.turned (t':=s.toks) (λb o hb e=>(sb.2 b hb).trans e) f0 f1 f3 f4 f5
  obtain⟨o,e,c,d⟩:=id st';exact⟨u,rfl,xa (s:={ s with heap:=h' }) e c d (by decide) ⟨x,H,I1,ru,⟨rfl,λys hy=>by rw[I.tuple_inj hy hq];exact hx⟩,st',λb hb=>(hf b hb).1⟩⟩
 done:=by
  intro X hP hw hK hc i pins s σ H E I hf st hg;subst hP hw hK;obtain⟨xs,hq,hx⟩:=hg;obtain⟨its,rv,p,hz⟩:=I.tuple hq;obtain⟨f0,f1,f2,f3,f4,f5⟩:=hf it (by simp)
  have hl:=rv.length;exact wpAny_pyNext_tuple_end (I.ok.hd hc) st (show s.heap.IsTuple a its.toArray from p) (by simp;omega) λh' eb=>⟨rfl,I.turned (t':=s.toks) (λb o hb e=>eb b o hb e) f0 f1 f3 f4 f5⟩
 self:=λ_ _ _ _ _ st h=>wpAny_pyIter_tupleiter st h
theorem zI {P:Program}{w:World}{K:PySem.W.Frag}{tg:Expr}(it:Addr) (lo:Int) (n:Nat):Turn P w K tg (Itr lo n) [it] it (λi h=>IsRangeIter h it (lo+(i:Nat)*1) ((n:Int)-(i:Nat)) 1) where
 mem:=by simp
 obj:=λi h st b hb=>by
  have e:b=it:=by simpa using hb
  subst e;exact⟨_,st,λv z=>by
   have z':Data.fields _=Data.cell v:=z;cases z'⟩
 keep:=λi h h' st k=>k it (by simp) _ st
 item:=by
  intro X hP hw hK hc i pins s σ H E I hf st hg;subst hP hw hK;obtain⟨f0,f1,f2,f3,f4,f5⟩:=hf it (by simp)
  have W:=Walks.range (prog:=X.prog) (w:=X.w) (I.ok.hd hc) it lo 1 n;refine W.item i s _ _ hg st λv h' tk hv st' kk=>?_
  obtain⟨t,rfl⟩:=hv;have I1:Inv X pins σ H { s with heap:=h',toks:=tk }:=I.turned (λb o hb e=>kk b o (by simpa using hb) e) f0 f1 f3 f4 f5
  refine⟨_,rfl,xa (s:={ s with heap:=h',toks:=tk }) (n:="range_iterator") st' rfl rfl (by decide) ⟨.int (lo+i),H,I1,⟨t,?_⟩,⟨rfl,rfl⟩,st',λb hb=>(hf b hb).1⟩⟩
  rw[Int.mul_one]
 done:=by
  intro X hP hw hK hc i pins s σ H E I hf st hg;subst hP hw hK;obtain⟨f0,f1,f2,f3,f4,f5⟩:=hf it (by simp)
  exact wpAny_pyNext_range_end (I.ok.hd hc) st (by have:n<=i:=hg;omega) λh' eb=>⟨rfl,I.turned (t':=s.toks) (λb o hb e=>eb b o hb e) f0 f1 f3 f4 f5⟩
 self:=λ_ _ _ _ _ st h=>wpAny_pyIter_rangeiter st h
section
variable {X:Cx}{tg:Expr}
theorem G3 {pins:List (Addr×Obj)}{σ:St}{H:Hp}{s:Shared}{R:It->Hp->Prop}{E:Value->Shared->Prop}{lo hi:Int}{t u v:Tok}{tk:Nat}(I:Inv X pins σ H s) (h1:-(2^62)<=lo) (h2:lo<2^62) (h3:-(2^62)<=hi) (h4:hi<2^62)
  (q:R (Itr lo (hi-lo).toNat) H):wpAny (model X.prog X.w) X.A (pyIter (.ref s.heap.objs.size)) (PIE X pins σ tg R) E { s with heap:=s.heap.push { cls:=.type "range",data:=.fields #[.int lo t,.int hi u,.int 1 v] },toks:=tk }:=by
 refine wpAny_pyIter_range (IsRange.new ..) (small_one h1 h2 h3 h4) ?_;have I1:Inv X pins σ H { s with heap:=s.heap.push { cls:=.type "range",data:=.fields #[.int lo t,.int hi u,.int 1 v] },toks:=tk }:=I.kept λb o e=>Pg _ e
 refine⟨(s.heap.push { cls:=.type "range",data:=.fields #[.int lo t,.int hi u,.int 1 v] }).objs.size,[(s.heap.push { cls:=.type "range",data:=.fields #[.int lo t,.int hi u,.int 1 v] }).objs.size],_,_,H,rfl,
  I1.kept (t':=tk) λb o e=>Pg _ e,zI _ lo (hi-lo).toNat,?_,λb hb=>?_,q⟩
 ·have e1:lo+((0:Nat):Int)*1=lo:=by simp
  have e2:(((hi-lo).toNat:Nat):Int)-((0:Nat):Int)=Builtin.Range.rangeSize lo hi 1:=by rw[rangeSize_one];split <;> omega
  show IsRangeIter _ _ (lo+((0:Nat):Int)*1) ((((hi-lo).toNat:Nat):Int)-((0:Nat):Int)) 1;rw[e1,e2];exact Px _ rfl
 ·have e:b=(s.heap.push { cls:=.type "range",data:=.fields #[.int lo t,.int hi u,.int 1 v] }).objs.size:=by simpa using hb
  subst e;exact I1.fpOk (Pl _) (I1.hok.fresh (Pl _))
noncomputable def Zcc (ta:TA):TI:=λσ H R=>ta σ H λvs H1=>∃j:Int,vs=[.int j]/\-(2^62)<=j/\j<2^62/\R (Itr 0 j.toNat) H1
noncomputable def Zca (ta:TA):TI:=λσ H R=>ta σ H λvs H1=>∃i j:Int,vs=[.int i,.int j]/\(-(2^62)<=i/\i<2^62/\-(2^62)<=j/\j<2^62)/\R (Itr i (j-i).toNat) H1
theorem wR {a:Expr}{ta:TA}{p pos:Pos}(hg:Gl X "range") (hm:X.mg "range" = none) (ha:PA X [a] ta) (hs:starEach [a] X.env=[(false,eval a X.env)]:=by rfl):PI X tg (.Call (.Name "range" p) [a] [] pos) (Zcc ta):=by
 intro pins s σ H R I h;refine Call_ (Y5 I hg hm boot_range (Na (thn (ha pos pins s σ H _ I h) λus s1 ⟨vs,H1,I1,r1,q1⟩=>?_) hs rfl))
 obtain⟨j,e,q1,q2,q⟩:=q1;subst e;cases r1 with
 |cons r rr=>
  cases rr;obtain⟨t,rfl⟩:=r;exact call_range_1 (G3 I1 (by omega) (by omega) q1 q2 (by simpa using q))
theorem wc {a b:Expr}{ta:TA}{p pos:Pos}(hg:Gl X "range") (hm:X.mg "range" = none) (ha:PA X [a,b] ta) (hs:starEach [a,b] X.env=[(false,eval a X.env),(false,eval b X.env)]:=by rfl) (hs2:starEach [b] X.env=[(false,eval b X.env)]:=by rfl) :
  PI X tg (.Call (.Name "range" p) [a,b] [] pos) (Zca ta):=by
 intro pins s σ H R I h;refine Call_ (Y5 I hg hm boot_range (Na (thn (ha pos pins s σ H _ I h) λus s1 ⟨vs,H1,I1,r1,q1⟩=>?_) (by rw[hs,hs2]) (by rw[hs2];rfl)))
 obtain⟨i,j,e,⟨q1,q2,q3,q4⟩,q⟩:=q1;subst e;cases r1 with
 |cons r rr=>
  cases rr with
  |cons r' rr=>
   cases rr;obtain⟨t,rfl⟩:=r;obtain⟨t',rfl⟩:=r';exact call_range_2 (G3 I1 q1 q2 q3 q4 q)
noncomputable def ZcD (wi:TI) (g:TG) (tb:TS):TS:=λD σ H=>wi σ H λJ H1=>∃W:Nat->Nat->St->Hp->Prop,(∃m,W 0 m σ H1)/\∀i m σ H,W i m σ H->
 (J.stop i H/\D.nx σ H)\/(J.go i H/\∃N:St->Hp->Prop,(∀σ' H',N σ' H'->∃m',m'<m/\W (i+1) m' σ' H')/\∀x H',J.yld i H x H'->g x σ H' λσ2 H2=>tb { D with nx:=N,ct:=N,bk:=D.nx } σ2 H2)
noncomputable def UN (fp:List Addr) (h:Heap):List (Addr×Obj):=fp.filterMap λb=>(h.get? b).map λo=>(b,o)
theorem Xn {fp:List Addr}{h:Heap}{b:Addr}{o:Obj}(hb:b∈fp) (e:h.get? b=some o):(b,o)∈UN fp h:=List.mem_filterMap.mpr ⟨b,hb,by rw[e];rfl⟩
theorem wy {fp:List Addr}{h:Heap}{p:Addr×Obj}(hp:p∈UN fp h):p.1∈fp/\h.get? p.1=some p.2:=by
 obtain⟨b,hb,e⟩:=List.mem_filterMap.mp hp;cases q:h.get? b with
 |none=>rw[q] at e;cases e
 |some o=>
  rw[q] at e;have e':(b,o)=p:=Pb e;subst e';exact⟨hb,q⟩
theorem Inv.pinned {pins:List (Addr×Obj)}{σ:St}{H:Hp}{s:Shared}{fp:List Addr}(I:Inv X pins σ H s) (hf:∀b∈fp,WR X pins H b) (ho:∀b∈fp,∃o,s.heap.get? b=some o/\∀v,o.data≠.cell v):Inv X (pins++UN fp s.heap) σ H s:=
 I.pins_of λp hp=>(Nc.mp hp).elim (λz=>I.pin p (P8 _ z)) λz=>by
  obtain⟨hb,e⟩:=wy z;obtain⟨f0,f1,f2,_⟩:=hf p.1 hb;obtain⟨o,e',d⟩:=ho p.1 hb;rw[e] at e';cases e';exact⟨e,f0,f1,f2,d⟩
theorem Inv.unpinned {pins pl:List (Addr×Obj)}{σ:St}{H:Hp}{s:Shared}(I:Inv X (pins++pl) σ H s):Inv X pins σ H s:=I.pins_of λp hp=>I.pin p (P8 _ (List.mem_append_left _ hp))
theorem Zar {iter:Expr}{body:List Stmt}{wi:TI}{g:TG}{tb:TS}{pos:Pos}(hp:PassesOwn (model X.prog X.w) X.A X.env X.xe) (hc:X.calm=true) (hi:PI X tg iter wi) (hg:PG X tg g) (hb:PSs X body tb)
  (hs:∀x,foldedSetIterable iter X.env x=pure x:=by intro _;rfl):PS X (.For tg iter body [] pos) (ZcD wi g tb):=by
 intro pins s σ H D I h;refine wpAny_For (thn (hi pins s σ H _ I h) λv s1 h1=>thn h1 λitv s2 h2=>?_) hs
 obtain⟨it,fp,tn,J,H2,e,I2,T,st2,f2,W,⟨m0,w0⟩,turn⟩:=h2;subst e;have stat:∀{H':Hp},(∀b∈fp,H' b=none)->∀b∈fp,WR X pins H' b:=λhn b hb=>⟨hn b hb,(f2 b hb).2⟩
 refine codeAny_forLoop_any (λn s'=>∃i σ' H',Inv X pins σ' H' s'/\tn i s'.heap/\(∀b∈fp,H' b=none)/\W i n σ' H') ?_ m0 ⟨0,σ,H2,I2,st2,λb hb=>(f2 b hb).1,w0⟩
 rintro n s3 ⟨i,σ3,H3,I3,st3,fr3,w3⟩
 rcases turn i n σ3 H3 w3 with ⟨stop,qn⟩ | ⟨go,N,hN,step⟩
 ·refine NS hp (thn (T.done X rfl rfl rfl hc i pins s3 σ3 H3 X.xe I3 (stat fr3) st3 stop) λr s4 ⟨hr,I4⟩=>?_)
  subst hr;exact wpAny_execs_nil ⟨σ3,H3,I4,qn⟩
 ·refine NS hp (thn (T.item X rfl rfl rfl hc i pins s3 σ3 H3 X.xe I3 (stat fr3) st3 go) λr s4 ⟨u,hr,h4⟩=>?_)
  subst hr;refine NS hp (thn h4 λ_ s5 ⟨x,H5,I5,r5,y5,st5,fr5⟩=>?_)
  have I5':=I5.pinned (stat fr5) (T.obj _ _ st5);refine NS hp (thn (hg _ s5 σ3 H5 x u _ I5' r5 (step x H5 y5)) λ_ s6 ⟨σ6,H6,I6,q6⟩=>?_)
  refine NS hp (thn (hb _ s6 σ6 H6 _ I6 q6) λf s7 q7=>?_)
  have again:∀{σ7:St} {H7:Hp},Inv X (pins++UN fp s5.heap) σ7 H7 s7->N σ7 H7->∃m,m<n/\∃i σ' H',Inv X pins σ' H' s7/\tn i s7.heap/\(∀b∈fp,H' b=none)/\W i m σ' H':=λ{σ7 H7} I7 n7=>by
   obtain⟨m',hm,w7⟩:=hN σ7 H7 n7;refine⟨m',hm,i+1,σ7,H7,I7.unpinned,T.keep _ _ _ st5 λb hb o e=>(I7.pin (b,o) (P8 _ (P8 _ (Xn hb e)))).1,λb hb=>?_,w7⟩
   obtain⟨o,e,d⟩:=T.obj _ _ st5 b hb;exact (I7.pin (b,o) (P8 _ (P8 _ (Xn hb e)))).2.1
  cases f with
  |next=>obtain⟨σ7,H7,I7,n7⟩:=q7;exact again I7 n7
  |cont=>obtain⟨σ7,H7,I7,n7⟩:=q7;exact again I7 n7
  |brk=>obtain⟨σ7,H7,I7,q7⟩:=q7;exact⟨σ7,H7,I7.unpinned,q7⟩
  |ret v=>obtain⟨x7,σ7,H7,I7,r7,q7⟩:=q7;exact⟨x7,σ7,H7,I7.unpinned,r7,q7⟩
end
noncomputable abbrev R2:=V->V->Hp->VK->Prop
def OpR (X:Cx) (f:Value->Value->Sem Value) (r:R2):Prop:=
 ∀(pins:List (Addr×Obj)) (s:Shared) (σ:St) (H:Hp) (x y:V) (v u:Value) (Q:VK),Inv X pins σ H s->ZD x v->ZD y u->r x y H Q->
  wpAny (model X.prog X.w) X.A (f v u) (EP X pins σ Q) X.xe s
def UnR (X:Cx) (f:Value->Sem Value) (r:V->Hp->VK->Prop):Prop:=
 ∀(pins:List (Addr×Obj)) (s:Shared) (σ:St) (H:Hp) (x:V) (v:Value) (Q:VK),Inv X pins σ H s->ZD x v->r x H Q->
  wpAny (model X.prog X.w) X.A (f v) (EP X pins σ Q) X.xe s
def ZJ (X:Cx) (f:Value) (r:List V->Hp->VK->Prop):Prop:=
 ∀(pins:List (Addr×Obj)) (s:Shared) (σ:St) (H:Hp) (xs:List V) (us:List Value) (Q:VK),Inv X pins σ H s->Vals xs us->r xs H Q->
  wpAny (model X.prog X.w) X.A (call f us) (EP X pins σ Q) X.xe s
noncomputable def Zcw (X:Cx) (r:V->Hp->(Bool->Hp->Prop)->Prop):Prop:=
 ∀(pins:List (Addr×Obj)) (s:Shared) (σ:St) (H:Hp) (x:V) (v:Value) (Q:Bool->Hp->Prop),Inv X pins σ H s->ZD x v->r x H Q->
  wpAny (model X.prog X.w) X.A (truthy v) (TP X pins σ Q) X.xe s
noncomputable def tOp (r:R2) (ta tb:TE):TE:=λσ H Q=>ta σ H λx H1=>tb σ H1 λy H2=>r x y H2 Q
noncomputable def tUn (r:V->Hp->VK->Prop) (ta:TE):TE:=λσ H Q=>ta σ H λx H1=>r x H1 Q
noncomputable def rI (C:Int->Int->Prop) (g:Int->Int->V):R2:=λx y H Q=>∃i j,x=.int i/\y=.int j/\C i j/\Q (g i j) H
noncomputable def rI0 (g:Int->Int->V):R2:=λx y H Q=>∃i j,x=.int i/\y=.int j/\Q (g i j) H
noncomputable def rU (g:Int->V):V->Hp->VK->Prop:=λx H Q=>∃i,x=.int i/\Q (g i) H
section
variable {X:Cx}{a b c:Expr}{ta tb tc:TE}{pos:Pos}
theorem Za6 (ha:PE X a ta) (hb:PE X b tb) {pins:List (Addr×Obj)}{s:Shared}{σ:St}{H:Hp}{R:V->V->Hp->Prop}(I:Inv X pins σ H s)
  (h:ta σ H λx H1=>tb σ H1 λy H2=>R x y H2) {Q:Value->Shared->Prop} {f:Value->Value->Sem Value}
  (hf:∀v u s2 x y H2,Inv X pins σ H2 s2->ZD x v->ZD y u->R x y H2->wpAny (model X.prog X.w) X.A (f v u) Q X.xe s2) :
  wpAny (model X.prog X.w) X.A (eval a X.env) (λv s₁=>wpAny (model X.prog X.w) X.A (eval b X.env) (λu s₂=>wpAny (model X.prog X.w) X.A (f v u) Q X.xe s₂) X.xe s₁) X.xe s:=by
 refine thn (ha pins s σ H _ I h) λv s1 ⟨x,H1,I1,r1,q1⟩=>?_
 refine thn (hb pins s1 σ H1 _ I1 q1) λu s2 ⟨y,H2,I2,r2,q2⟩=>?_
 exact hf v u s2 x y H2 I2 r1 r2 q2
theorem Qg {op:Operator}{r:R2}(ho:OpR X (binaryOp op) r) (ha:PE X a ta) (hb:PE X b tb):PE X (.BinOp a op b pos) (tOp r ta tb):=by
 intro pins s σ H Q I h;exact wpAny_BinOp (Za6 ha hb I h λv u s2 x y H2 I2 rx ry q=>ho pins s2 σ H2 x y v u Q I2 rx ry q)
theorem ZbD {op:UnaryOp}{r:V->Hp->VK->Prop}(ho:UnR X (unaryOp op) r) (ha:PE X a ta):PE X (.UnaryOp op a pos) (tUn r ta):=by
 intro pins s σ H Q I h;exact UnaryOp_ (thn (ha pins s σ H _ I h) λv s1 ⟨x,H1,I1,r1,q1⟩=>ho pins s1 σ H1 x v Q I1 r1 q1)
theorem opI {f:Value->Value->Sem Value}{C:Int->Int->Prop}{g:Int->Int->Int}
  (rule:∀(i j:Int) (t u:Tok) (s:Shared) (Q:Value->Shared->Prop) (E:Value->Shared->Prop),C i j->Q (.int (g i j) s.toks) { s with toks:=s.toks+1 }->wpAny (model X.prog X.w) X.A (f (.int i t) (.int j u)) Q E s) :
  OpR X f (rI C λi j=>.int (g i j)):=by
 intro pins s σ H x y v u Q I rx ry h;obtain⟨i,j,rfl,rfl,hc,q⟩:=h;obtain⟨t,rfl⟩:=rx;obtain⟨t',rfl⟩:=ry;exact rule i j t t' s _ _ hc ⟨.int (g i j),H,I.tok _,⟨_,rfl⟩,q⟩
theorem Zbv {f:Value->Value->Sem Value}{g:Int->Int->Int}
  (rule:∀(i j:Int) (t u:Tok) (s:Shared) (Q:Value->Shared->Prop) (E:Value->Shared->Prop),Q (.int (g i j) s.toks) { s with toks:=s.toks+1 }->wpAny (model X.prog X.w) X.A (f (.int i t) (.int j u)) Q E s) :
  OpR X f (rI0 λi j=>.int (g i j)):=by
 intro pins s σ H x y v u Q I rx ry h;obtain⟨i,j,rfl,rfl,q⟩:=h;obtain⟨t,rfl⟩:=rx;obtain⟨t',rfl⟩:=ry;exact rule i j t t' s _ _ ⟨.int (g i j),H,I.tok _,⟨_,rfl⟩,q⟩
theorem jP {f:Value->Value->Sem Value}{g:Int->Int->Bool}
  (rule:∀(i j:Int) (t u:Tok) (s:Shared) (Q:Value->Shared->Prop) (E:Value->Shared->Prop),Q (.bool (g i j)) s->wpAny (model X.prog X.w) X.A (f (.int i t) (.int j u)) Q E s) :
  OpR X f (rI0 λi j=>.bl (g i j)):=by
 intro pins s σ H x y v u Q I rx ry h;obtain⟨i,j,rfl,rfl,q⟩:=h;obtain⟨t,rfl⟩:=rx;obtain⟨t',rfl⟩:=ry;exact rule i j t t' s _ _ ⟨.bl (g i j),H,I,rfl,q⟩
def CDiv (i j:Int):Prop:=0<j/\j<1073741824
def CPow (i j:Int):Prop:=0<=j/\j<=1000000/\i.natAbs<2^64
theorem ZaX:OpR X (binaryOp .Add) (rI0 λi j=>.int (i+j)):=Zbv λ_ _ _ _ _ _ _ q=>add_int q
theorem Zam:OpR X (binaryOp .Sub) (rI0 λi j=>.int (i-j)):=Zbv λ_ _ _ _ _ _ _ q=>sub_int q
theorem jm:OpR X (binaryOp .FloorDiv) (rI CDiv λi j=>.int (i / j)):=opI λi j _ _ _ _ _ hc q=>by
 have h1:(0:Int)<j:=hc.1;have h2:j<1073741824:=hc.2;exact floordiv_int (by omega) (by rw[Int.fdiv_eq_ediv_of_nonneg i (by omega)];exact q) (.inl (PyProof.noPylong_small (by omega)))
theorem ZaR:OpR X (binaryOp .Mod) (rI (λ_ j=>0<j) λi j=>.int (i%j)):=opI λi j _ _ _ _ _ hc q=>by
 have h1:(0:Int)<j:=hc;exact mod_int' (by omega) (by rw[Int.fmod_eq_emod_of_nonneg i (by omega)];exact q)
theorem Zaz:OpR X (binaryOp .Pow) (rI CPow λi j=>.int (i^j.toNat)):=opI λ_ _ _ _ _ _ _ hc q=>pow_int_small hc.1 hc.2.1 hc.2.2 q
theorem qC:OpR X (inplaceOp .Add) (rI0 λi j=>.int (i+j)):=Zbv λ_ _ _ _ _ _ _ q=>iadd_int q
theorem unI {f:Value->Sem Value}{g:Int->Int}
  (rule:∀(i:Int) (t:Tok) (s:Shared) (Q:Value->Shared->Prop) (E:Value->Shared->Prop),Q (.int (g i) s.toks) { s with toks:=s.toks+1 }->wpAny (model X.prog X.w) X.A (f (.int i t)) Q E s) :
  UnR X f (rU λi=>.int (g i)):=by
 intro pins s σ H x v Q I rx h;obtain⟨i,rfl,q⟩:=h;obtain⟨t,rfl⟩:=rx;exact rule i t s _ _ ⟨.int (g i),H,I.tok _,⟨_,rfl⟩,q⟩
theorem Zat:UnR X (unaryOp .USub) (rU λi=>.int (-i)):=unI λ_ _ _ _ _ q=>neg_int q
end
noncomputable def scal:V->V->Bool
 |.non,.non=>true | .non,.int _=>true | .int _,.non=>true | .non,.bl _=>true | .bl _,.non=>true | .non,.str _=>true | .str _,.non=>true
 |.int _,.int _=>true | .bl _,.bl _=>true | .str _,.str _=>true | .byt _,.byt _=>true
 |.int _,.str _=>true | .str _,.int _=>true | .bl _,.str _=>true | .str _,.bl _=>true
 |_,_=>false
noncomputable def rEq:R2:=λx y H Q=>scal x y=true/\Q (.bl (decide (x=y))) H
noncomputable def rNe:R2:=λx y H Q=>scal x y=true/\Q (.bl (!decide (x=y))) H
theorem xu {i j:Int}:decide (V.int i=V.int j)=(i == j):=by
 rw[P2];simp
theorem v5 {i j:Bool}:decide (V.bl i=V.bl j)=(i == j):=by
 rw[P2];simp
theorem yS {i j:Str}:decide (V.str i=V.str j)=(i == j):=by
 rw[P2];simp
theorem xL {i j:Array UInt8}:decide (V.byt i=V.byt j)=(i.toList == j.toList):=by
 rw[P2];cases i;cases j;simp
section
variable {X:Cx}{a b c:Expr}{ta tb tc:TE}{pos:Pos}
theorem Zx {pins:List (Addr×Obj)}{σ:St}{H:Hp}{s:Shared}{Q:VK}{k k':Bool}(I:Inv X pins σ H s) (q:Q (.bl k) H) (e:k=k'):EP X pins σ Q (.bool k') s:=by
 subst e;exact⟨.bl k,H,I,rfl,q⟩
theorem ZbE:OpR X (compareOp .Eq) rEq:=by
 intro pins s σ H x y v u Q I rx ry h;obtain⟨hs,q⟩:=h;cases x with
 |non=>
  cases rx;cases y with
  |non=>cases ry;exact PySem.EqNone.eq_none_none (Zx I q (by simp))
  |bl j=>cases ry;exact PySem.EqNone.eq_none_bool (Zx I q (by simp))
  |int j=>obtain⟨t',rfl⟩:=ry;exact PySem.EqNone.eq_none_int (Zx I q (by simp))
  |str j=>obtain⟨t',rfl⟩:=ry;exact PySem.EqNone.eq_none_str (Zx I q (by simp))
  |_=>exact absurd (show false=true from hs) Pr
 |bl i=>
  cases rx;cases y with
  |non=>cases ry;exact PySem.EqNone.eq_bool_none (Zx I q (by simp))
  |bl j=>cases ry;exact eq_bool (Zx I q v5)
  |str j=>obtain⟨t',rfl⟩:=ry;exact PySem.EqMixed.eq_bool_str (Zx I q (by simp))
  |_=>exact absurd (show false=true from hs) Pr
 |int i=>
  obtain⟨t,rfl⟩:=rx;cases y with
  |non=>cases ry;exact PySem.EqNone.eq_int_none (Zx I q (by simp))
  |int j=>obtain⟨t',rfl⟩:=ry;exact eq_int (Zx I q xu)
  |str j=>obtain⟨t',rfl⟩:=ry;exact PySem.EqMixed.eq_int_str (Zx I q (by simp))
  |_=>exact absurd (show false=true from hs) Pr
 |str i=>
  obtain⟨t,rfl⟩:=rx;cases y with
  |non=>cases ry;exact PySem.EqNone.eq_str_none (Zx I q (by simp))
  |bl j=>cases ry;exact PySem.EqMixed.eq_str_bool (Zx I q (by simp))
  |int j=>obtain⟨t',rfl⟩:=ry;exact PySem.EqMixed.eq_str_int (Zx I q (by simp))
  |str j=>obtain⟨t',rfl⟩:=ry;exact eq_str (Zx I q yS)
  |_=>exact absurd (show false=true from hs) Pr
 |byt i=>
  obtain⟨t,rfl⟩:=rx;cases y with
  |byt j=>obtain⟨t',rfl⟩:=ry;exact PySem.W.eq_bytes (Zx I q xL)
  |_=>exact absurd (show false=true from hs) Pr
 |_=>cases y <;> exact absurd (show false=true from hs) Pr
theorem Zb1:OpR X (compareOp .NotEq) rNe:=by
 intro pins s σ H x y v u Q I rx ry h;obtain⟨hs,q⟩:=h;cases x with
 |non=>
  cases rx;cases y with
  |non=>cases ry;exact PySem.EqNone.ne_none_none (Zx I q (by simp))
  |bl j=>cases ry;exact PySem.EqNone.ne_none_bool (Zx I q (by simp))
  |int j=>obtain⟨t',rfl⟩:=ry;exact PySem.EqNone.ne_none_int (Zx I q (by simp))
  |str j=>obtain⟨t',rfl⟩:=ry;exact PySem.EqNone.ne_none_str (Zx I q (by simp))
  |_=>exact absurd (show false=true from hs) Pr
 |bl i=>
  cases rx;cases y with
  |non=>cases ry;exact PySem.EqNone.ne_bool_none (Zx I q (by simp))
  |bl j=>cases ry;exact ne_bool (Zx I q (congrArg not v5))
  |str j=>obtain⟨t',rfl⟩:=ry;exact PySem.EqMixed.ne_bool_str (Zx I q (by simp))
  |_=>exact absurd (show false=true from hs) Pr
 |int i=>
  obtain⟨t,rfl⟩:=rx;cases y with
  |non=>cases ry;exact PySem.EqNone.ne_int_none (Zx I q (by simp))
  |int j=>obtain⟨t',rfl⟩:=ry;exact ne_int (Zx I q (congrArg not xu))
  |str j=>obtain⟨t',rfl⟩:=ry;exact PySem.EqMixed.ne_int_str (Zx I q (by simp))
  |_=>exact absurd (show false=true from hs) Pr
 |str i=>
  obtain⟨t,rfl⟩:=rx;cases y with
  |non=>cases ry;exact PySem.EqNone.ne_str_none (Zx I q (by simp))
  |bl j=>cases ry;exact PySem.EqMixed.ne_str_bool (Zx I q (by simp))
  |int j=>obtain⟨t',rfl⟩:=ry;exact PySem.EqMixed.ne_str_int (Zx I q (by simp))
  |str j=>obtain⟨t',rfl⟩:=ry;exact ne_str (Zx I q (congrArg not yS))
  |_=>exact absurd (show false=true from hs) Pr
 |byt i=>
  obtain⟨t,rfl⟩:=rx;cases y with
  |byt j=>obtain⟨t',rfl⟩:=ry;exact PySem.W.ne_bytes (Zx I q (congrArg not xL))
  |_=>exact absurd (show false=true from hs) Pr
 |_=>cases y <;> exact absurd (show false=true from hs) Pr
theorem Zbz:OpR X (compareOp .Lt) (rI0 λi j=>.bl (decide (i<j))):=jP λ_ _ _ _ _ _ _ q=>lt_int q
theorem ZbM:OpR X (compareOp .LtE) (rI0 λi j=>.bl (decide (i<=j))):=jP λ_ _ _ _ _ _ _ q=>le_int q
theorem ZbQ:OpR X (compareOp .Gt) (rI0 λi j=>.bl (decide (j<i))):=jP λ_ _ _ _ _ _ _ q=>gt_int q
theorem ZbF:OpR X (compareOp .GtE) (rI0 λi j=>.bl (decide (j<=i))):=jP λ_ _ _ _ _ _ _ q=>ge_int q
theorem ZaO:OpR X (compareOp .Is) (λx y H Q=>y=.non/\Q (.bl (decide (x=.non))) H):=by
 intro pins s σ H x y v u Q I rx ry h;obtain⟨rfl,q⟩:=h;cases ry;refine is_none_gen (Zx I q ?_);cases x <;> first
  |(cases rx;rfl)
  |(obtain⟨t,rfl⟩:=rx;rfl)
theorem jE:OpR X (compareOp .IsNot) (λx y H Q=>y=.non/\Q (.bl (!decide (x=.non))) H):=by
 intro pins s σ H x y v u Q I rx ry h;obtain⟨rfl,q⟩:=h;cases ry;refine isnot_none_gen (Zx I q ?_);cases x <;> first
  |(cases rx;rfl)
  |(obtain⟨t,rfl⟩:=rx;rfl)
theorem OpR.or {f:Value->Value->Sem Value}{r r':R2}(h:OpR X f r) (h':OpR X f r'):OpR X f (λx y H Q=>r x y H Q\/r' x y H Q):=by
 intro pins s σ H x y v u Q I rx ry q;rcases q with q | q
 ·exact h pins s σ H x y v u Q I rx ry q
 ·exact h' pins s σ H x y v u Q I rx ry q
theorem nomark (b:Expr) {op:CmpOp}(h:op≠.In:=by decide) (h2:op≠.NotIn:=by decide):behindInMarks op b=false:=by
 have e1:(op == CmpOp.In)=false:=by cases op <;> first | rfl | exact absurd rfl h
 have e2:(op == CmpOp.NotIn)=false:=by cases op <;> first | rfl | exact absurd rfl h2
 cases b <;> simp[behindInMarks,e1,e2]
theorem jM {op:CmpOp}{r:R2}(ho:OpR X (compareOp op) r) (ha:PE X a ta) (hb:PE X b tb) (hm:behindInMarks op b=false):PE X (.Compare a [op] [b] pos) (tOp r ta tb):=by
 intro pins s σ H Q I h;exact wpAny_Compare1 (Za6 ha hb I h λv u s2 x y H2 I2 rx ry q=>ho pins s2 σ H2 x y v u Q I2 rx ry q) hm
noncomputable def ZbR (t:TE):TT:=λσ H Q=>t σ H λx H'=>∃k,x=.bl k/\Q k H'
theorem qR {op:CmpOp}{r:R2}(ho:OpR X (compareOp op) r) (ha:PE X a ta) (hb:PE X b tb) (hm:behindInMarks op b=false):PT X (.Compare a [op] [b] pos) (ZbR (tOp r ta tb)):=by
 intro pins s σ H Q I h;refine wpAny_isTrue_Compare1 (thn (ha pins s σ H _ I h) λv s1 ⟨x,H1,I1,r1,q1⟩=>thn (hb pins s1 σ H1 _ I1 q1) λu s2 ⟨y,H2,I2,r2,q2⟩=>
  thn (ho pins s2 σ H2 x y v u _ I2 r1 r2 q2) λc s3 ⟨z,H3,I3,r3,k,e,q3⟩=>?_) hm
 subst e;cases r3;exact wpAny_truthy_bool ⟨H3,I3,q3⟩
noncomputable def Zax (r r':R2) (ta tb tc:TE):TE:=λσ H Q=>ta σ H λx H1=>tb σ H1 λy H2=>r x y H2 λz H3=>∃k,z=.bl k/\
 (if k=true then tc σ H3 λw' H4=>r' y w' H4 Q else Q (.bl false) H3)
theorem uT {op op':CmpOp}{r r':R2}(ho:OpR X (compareOp op) r) (ho':OpR X (compareOp op') r') (ha:PE X a ta) (hb:PE X b tb) (hc:PE X c tc)
  (hm:lastMarks [op,op'] [b,c]=false:=by with_unfolding_all rfl):PE X (.Compare a [op,op'] [b,c] pos) (Zax r r' ta tb tc):=by
 intro pins s σ H Q I h;refine Compare_chain (thn (ha pins s σ H _ I h) λv s1 ⟨x,H1,I1,r1,q1⟩=>chain_link (thn (hb pins s1 σ H1 _ I1 q1) λu s2 ⟨y,H2,I2,r2,q2⟩=>
  thn (ho pins s2 σ H2 x y v u _ I2 r1 r2 q2) λd s3 ⟨z,H3,I3,r3,k,e,q3⟩=>?_)) hm
 subst e;cases r3;refine wpAny_truthy_bool ?_;cases k with
 |false=>exact ite_ff ⟨.bl false,H3,I3,rfl,q3⟩
 |true=>exact ite_tt (chain_last (thn (hc pins s3 σ H3 _ I3 q3) λw' s4 ⟨z',H4,I4,r4,q4⟩=>ho' pins s4 σ H4 y z' u w' Q I4 r2 r4 q4))
def qB (K:PySem.W.Frag) (x:V) (H:Hp) (k:Bool):Prop:=
 match x with
 |.non=>k=false
 |.bl b=>k=b
 |.int i=>k=(i != 0)
 |.str y=>y.length<=sizeLine/\k=((y.length:Int) != 0)
 |.byt y=>y.size<=sizeLine/\k=((y.size:Int) != 0)
 |.ref p=>(∃xs,SqL K H p xs/\k = !xs.isEmpty)\/(∃xs,SqT K H p xs/\k = !xs.isEmpty)\/∃kvs,H p=some (.dK kvs)/\k = !kvs.isEmpty
 |_=>False
theorem yu {κ:Type}{kvs:List (κ×V)}{vs:List (κ×Value)}(r:KV kvs vs):(!vs.isEmpty) = !kvs.isEmpty:=by
 cases r <;> rfl
theorem Ut {xs:List V}{its:List Value}(r:Vals xs its):(!its.toArray.isEmpty) = !xs.isEmpty:=by
 cases r <;> simp
theorem line63:(sizeLine:Nat)<2^63:=by rw[Nt];decide
theorem ut:Zcw X (λx H Q=>∃k,qB X.K x H k/\Q k H):=by
 intro pins s σ H x v Q I rx h;obtain⟨k,e,q⟩:=h;have hl:=line63;have hs:sizeLine=16777216:=Nt;cases x with
 |non=>
  cases rx;have e':k=false:=e;subst e';exact truthy_none ⟨H,I,q⟩
 |bl b=>
  cases rx;have e':k=b:=e;subst e';exact wpAny_truthy_bool ⟨H,I,q⟩
 |int i=>
  obtain⟨t,rfl⟩:=rx;have e':k=(i != 0):=e;subst e';exact PySem.P.truthy_int ⟨H,I,q⟩
 |str y=>
  obtain⟨t,rfl⟩:=rx;obtain⟨hy,e'⟩:y.length<=sizeLine/\k=((y.length:Int) != 0):=e;subst e';exact PySem.P.truthy_str (by omega) ⟨H,I.tok _,q⟩
 |byt y=>
  obtain⟨t,rfl⟩:=rx;obtain⟨hy,e'⟩:y.size<=sizeLine/\k=((y.size:Int) != 0):=e;subst e';exact PySem.W.truthy_bytes (by omega) ⟨H,I.tok _,q⟩
 |ref p=>
  cases rx;have e':(∃xs,SqL X.K H p xs/\k = !xs.isEmpty)\/(∃xs,SqT X.K H p xs/\k = !xs.isEmpty)\/∃kvs,H p=some (.dK kvs)/\k = !kvs.isEmpty:=e;rcases e' with ⟨xs,hx,e'⟩ | ⟨xs,hx,e'⟩ | ⟨kvs,hx,e'⟩
  ·subst e'
   obtain⟨its,r,pl,hz⟩:=I.list hx;have hlen:=r.length;exact wpAny_truthy_list pl.isList (by simp only[Pf];omega) ⟨H,I.tok _,by rw[Ut r];exact q⟩
  ·subst e'
   obtain⟨its,r,pl,hz⟩:=I.tuple hx;have hlen:=r.length;exact truthy_tuple pl (by simp only[Pf];omega) ⟨H,I.tok _,by rw[Ut r];exact q⟩
  ·subst e'
   obtain⟨hz,hS,vs,r,m⟩:kvs.length<=sizeLine/\(p == sysModules)=false/\∃vs,KV kvs vs/\s.heap.DictOf (Yr X.prog X.w) p vs:=I.hok p _ hx;have hlen:kvs.length=vs.length:=Paired.length r;exact wpAny_truthy_dict hS m (by omega) ⟨H,I.tok _,by rw[yu r];exact q⟩
 |_=>exact (show False from e).elim
theorem u8 (ha:PE X a ta) (he:∀whole,isTrue a X.env whole=(do let v <-whole;standAt a.pos;holding [v] (truthy v))) :
  PT X a (λσ H Q=>ta σ H λx H'=>∃k,qB X.K x H' k/\Q k H'):=by
 intro pins s σ H Q I h;exact isTrue_plain (thn (ha pins s σ H _ I h) λv s1 ⟨x,H1,I1,r1,q1⟩=>ut pins s1 σ H1 x v Q I1 r1 q1) (he _)
theorem vals1 {x:V}{us:List Value}(r:Vals [x] us):∃u,us=[u]/\ZD x u:=by
 cases r with
 |cons r1 r2=>cases r2;exact⟨_,rfl,r1⟩
theorem vals2 {x y:V}{us:List Value}(r:Vals [x,y] us):∃u w',us=[u,w']/\ZD x u/\ZD y w':=by
 cases r with
 |cons r1 r2=>
  cases r2 with
  |cons r3 r4=>cases r4;exact⟨_,_,rfl,r1,r3⟩
theorem wt (hc:X.calm=true):ZJ X (.builtin "max") (λxs H Q=>∃i j,xs=[.int i,.int j]/\Q (.int (if j>i then j else i)) H):=by
 intro pins s σ H xs us Q I r h;obtain⟨i,j,rfl,q⟩:=h;obtain⟨u,w',rfl,⟨t,rfl⟩,⟨t',rfl⟩⟩:=vals2 r;refine max_two_ints (I.ok.hd hc) λh' tk k=>⟨_,H,I.kept k,?_,q⟩
 by_cases hj:j>i
 ·rw[Ph hj,Ph hj];exact⟨_,rfl⟩
 ·rw[Pi hj,Pi hj];exact⟨_,rfl⟩
theorem wN (hc:X.calm=true):ZJ X (.builtin "min") (λxs H Q=>∃i j,xs=[.int i,.int j]/\Q (.int (if j<i then j else i)) H):=by
 intro pins s σ H xs us Q I r h;obtain⟨i,j,rfl,q⟩:=h;obtain⟨u,w',rfl,⟨t,rfl⟩,⟨t',rfl⟩⟩:=vals2 r;refine min_two_ints (I.ok.hd hc) λh' tk k=>⟨_,H,I.kept k,?_,q⟩
 by_cases hj:j<i
 ·rw[Ph hj,Ph hj];exact⟨_,rfl⟩
 ·rw[Pi hj,Pi hj];exact⟨_,rfl⟩
theorem ww:ZJ X (.type "int") (λxs H Q=>(∃i,xs=[.int i]/\Q (.int i) H)\/∃k,xs=[.bl k]/\Q (.int (if k then 1 else 0)) H):=by
 intro pins s σ H xs us Q I r h;rcases h with ⟨i,rfl,q⟩ | ⟨k,rfl,q⟩
 ·obtain⟨u,rfl,t,rfl⟩:=vals1 r
  exact call_int_int ⟨.int i,H,I,⟨_,rfl⟩,q⟩
 ·obtain⟨u,rfl,r1⟩:=vals1 r
  cases r1;exact call_int_bool ⟨.int (if k then 1 else 0),H,I.tok _,⟨_,rfl⟩,q⟩
end
structure ObjM (h:Heap) (x dx C:Addr) (mA:Str->Option Value):Prop where
 obj:h.get? x=some (PySem.W.instObj C dx)
 ns:h.Ns1 dx mA
 ne:dx≠x
theorem xY {h:Heap}{dx:Addr}{mA:Str->Option Value}(n:h.Ns1 dx mA):∃od,h.get? dx=some od/\∀name,PySem.W.lookIn name od=some (mA name):=by
 obtain⟨o,es,ep,ho,hd,hk,_,hm⟩:=n;refine⟨o,ho,λname=>?_⟩
 have e:=hm name;unfold nsFind findBy at e;rw[<-Array.find?_toList] at e;unfold PySem.W.lookIn;rw[hd]
 dsimp only
 split
 ·rename_i y q
  rw[q] at e;exact congrArg some e
 ·rename_i q
  rw[q] at e;have a:es.toList.any (·.refKey)=false:=by
   rw[List.any_eq_false];intro y hy;obtain⟨z,t,hkey⟩:=hk y (Array.mem_toList_iff.mp hy);simp[DictEntry.refKey,hkey]
  have a':¬es.toList.any (·.refKey)=true:=by rw[a];exact Pr
  rw[Pi a'];exact congrArg some e
theorem ObjM.look {h:Heap}{x dx C:Addr}{mA:Str->Option Value}(I:ObjM h x dx C mA):∃od,PySem.W.InstAt h x (PySem.W.instObj C dx) C (some od)/\∀name,PySem.W.lookIn name od=some (mA name):=
 let ⟨od,ho,hl⟩:=xY I.ns
 ⟨od,⟨I.obj,rfl,rfl,ho⟩,hl⟩
section
variable {P:Program}{w:World}{H H':Hp}{h h':Heap}{a C dx:Addr}{fs fs':List (Str×V)}
theorem xj (hok:HOk P w H h) (e:H a=some (.ins C dx fs)):∃mA,ObjM h a dx C mA/\(∀f,zS (fs.lookup f) (mA f))/\PySem.Within mA (fs.map (·.1))/\fs.length<=1000/\H dx=some (.own a):=by
 obtain⟨d,z,ne,ob,mA,n,r,q⟩:=(show ZR P w H h a (.ins C dx fs) from hok a _ e)
 exact⟨mA,⟨ob,n,ne⟩,r,q,z,d⟩
end
structure Cls (K:PySem.W.Frag) (C:Addr):Prop where
 pg:PySem.W.plainGet K C Str.empty=true
 hd:PySem.W.hasDictIn K C=true
 po:PySem.W.plainOver K C=true
 sa:PySem.W.findIn K (.ref C) "__setattr__" = some (some (.builtin "object.__setattr__"))
theorem Cls.get {K:PySem.W.Frag}{C:Addr}(c:Cls K C) (f:Str):PySem.W.plainGet K C f=true:=c.pg
section
variable {X:Cx}{pins:List (Addr×Obj)}{σ:St}{H:Hp}{s:Shared}{A:Around}{E:Value->Shared->Prop}{Q:Value->Shared->Prop}{c:Value}{b:Bool}
inductive TyOf (K:PySem.W.Frag) (H:Hp):V->Value->Prop where
 |non:TyOf K H .non (.type "NoneType")
 |bl (x:Bool):TyOf K H (.bl x) (.type "bool")
 |int (i:Int):TyOf K H (.int i) (.type "int")
 |str (x:Str):TyOf K H (.str x) (.type "str")
 |flt (x:UInt64):TyOf K H (.flt x) (.type "float")
 |lst {a:Addr} {xs:List V} (e:H a=some (.lst xs)):TyOf K H (.ref a) (.type "list")
 |frz {a:Addr} {o:Obj} {xs:List V} (e:H a=some (.frz o (.lst xs))):TyOf K H (.ref a) (.type "list")
 |tup {a:Addr} {xs:List V} (e:H a=some (.tup xs)):TyOf K H (.ref a) (.type "tuple")
 |dK {a:Addr} {kvs:List (Key×V)} (e:H a=some (.dK kvs)):TyOf K H (.ref a) (.type "dict")
 |dT {a:Addr} {kvs:List (List Key×V)} (e:H a=some (.dT kvs)):TyOf K H (.ref a) (.type "dict")
 |ins {a C dx:Addr} {fs:List (Str×V)} (e:H a=some (.ins C dx fs)) (cl:Cls K C) (ha:PySem.W.findIn K (.ref C) "__class__" = some (some (.builtin "object.__class__")))
   (hn:PySem.W.specialIn K (.builtin "object.__class__") "__get__" = some (some (.builtin "getset_descriptor.__get__"))) (htk:PySem.W.takesIn K (.builtin "object.__class__")=some true)
   (hm:PySem.W.mroIn K C (.type "object")=some true):TyOf K H (.ref a) (.ref C)
theorem wV {x:V}{u t:Value}(I:Inv X pins σ H s) (rx:ZD x u) (ty:TyOf X.K H x t) (e:PySem.W.kitOne X.K t c=some b) (h:∀tk,Q (.bool b) { s with toks:=tk }) :
  wpAny (model X.prog X.w) A (call (.builtin "isinstance") [u,c]) Q E s:=by
 cases ty with
 |non=>cases (show u=Value.none from rx);exact Nk PySem.W.kitx_none I.kIn True.intro e (λz=>nomatch z) h
 |bl y=>cases (show u=Value.bool y from rx);exact Nk PySem.W.kitx_bool I.kIn True.intro e (λz=>nomatch z) h
 |int i=>obtain⟨t,q⟩:=(show ∃t,u=Value.int i t from rx);cases q;exact Nk PySem.W.kitx_int I.kIn True.intro e (λz=>nomatch z) h
 |str y=>obtain⟨t,q⟩:=(show ∃t,u=Value.str y t from rx);cases q;exact Nk PySem.W.kitx_str I.kIn True.intro e (λz=>nomatch z) h
 |flt y=>obtain⟨t,q⟩:=(show ∃t,u=Value.float y t from rx);cases q;exact Nk PySem.W.kitx_float I.kIn True.intro e (λz=>nomatch z) h
 |@lst a xs ea=>
  cases (show u=Value.ref a from rx)
  obtain⟨_,_,n,_,h1⟩:=(show ZR X.prog X.w H s.heap a (.lst xs) from I.hok a _ ea)
  exact Nk PySem.W.kitx_list I.kIn ⟨_,h1,rfl⟩ e (λz=>nomatch z) h
 |@frz a ob xs ea=>
  cases (show u=Value.ref a from rx)
  obtain⟨_,_,_,n,_,h1⟩:=(show ZR X.prog X.w H s.heap a (.frz ob (.lst xs)) from I.hok a _ ea)
  exact Nk PySem.W.kitx_list I.kIn ⟨_,h1,rfl⟩ e (λz=>nomatch z) h
 |@tup a xs ea=>
  cases (show u=Value.ref a from rx)
  obtain⟨_,_,_,p⟩:=(show ZR X.prog X.w H s.heap a (.tup xs) from I.hok a _ ea)
  obtain⟨o,h1,h2,_⟩:=p;exact Nk PySem.W.kitx_tuple I.kIn ⟨o,h1,h2⟩ e (λz=>nomatch z) h
 |@dK a kvs ea=>
  cases (show u=Value.ref a from rx)
  obtain⟨_,_,vs,_,p⟩:=(show ZR X.prog X.w H s.heap a (.dK kvs) from I.hok a _ ea)
  obtain⟨o,es,ep,h1,h2,_⟩:=p;exact Nk PySem.W.kitx_dict I.kIn ⟨o,h1,h2.1⟩ e (λz=>nomatch z) h
 |@dT a kvs ea=>
  cases (show u=Value.ref a from rx)
  obtain⟨_,_,xs,_,o,es,ep,h1,h2,_⟩:=(show ZR X.prog X.w H s.heap a (.dT kvs) from I.hok a _ ea)
  exact Nk PySem.W.kitx_dict I.kIn ⟨o,h1,h2.1⟩ e (λz=>nomatch z) h
 |@ins a C dx fs ea cl ha hn htk hm=>
  cases (show u=Value.ref a from rx)
  obtain⟨mA,O,_⟩:=xj I.hok ea;obtain⟨od,J,_⟩:=O.look;exact Nk (PySem.W.kitx_own (cl.get _) cl.hd ha hn htk hm) I.kIn J e (λz=>nomatch z) h
end
structure Room (k:Nat) (A:Around):Prop where
 hd:A.handled=none
 dp:A.depth+3*k+5<recursionLimit
 un:A.units+16*k+200<cLine
theorem Room.deeper {k:Nat}{A:Around}(r:Room (k+1) A) (env:Env):Room k (A.deeper env):=
 ⟨r.hd,by have:=r.dp;show A.depth+1+3*k+5<_;omega,by have:=r.un;show A.units+3+16*k+200<_;omega⟩
theorem Room.depth {k:Nat}{A:Around}(r:Room k A):A.depth<recursionLimit:=by have:=r.dp;omega
noncomputable def ZcF:TA:=λ_ H Q=>Q [] H
noncomputable def ZbT (ta:TE) (tr:TA):TA:=λσ H Q=>ta σ H λx H1=>tr σ H1 λxs H2=>Q (x::xs) H2
section
variable {X:Cx}{e:Expr}{es:List Expr}{te:TE}{t:TA}{pos:Pos}
theorem JV:PA X [] ZcF:=λ_ _ _ _ H Q I h=>Calls.spliced_nil ⟨[],H,I,.nil,h⟩
theorem Xs (ha:PE X e te) (hr:PA X es t) (hs:starEach (e::es) X.env=(false,eval e X.env)::starEach es X.env:=by rfl):PA X (e::es) (ZbT te t):=by
 intro pos pins s σ H Q I h;rw[hs];show wpAny _ _ (spliced ((false,eval e X.env)::backTo pos (starEach es X.env))) _ _ s;refine Calls.spliced_cons (thn (ha pins s σ H _ I h) λu s1 ⟨x,H1,I1,r1,q1⟩=>?_)
 exact thn (hr pos pins s1 σ H1 _ I1 q1) λus s2 ⟨xs,H2,I2,r2,q2⟩=>⟨x::xs,H2,I2,.cons r1 r2,q2⟩
noncomputable def Zce (t:TA):TE:=λσ H Q=>t σ H λxs H1=>xs.length<=sizeLine/\∀p,H1 p=none->Q (.ref p) (upd H1 p (.tup xs))
noncomputable def Zct (t:TA):TE:=λσ H Q=>t σ H λxs H1=>xs.length<=sizeLine/\∀p,H1 p=none->Q (.ref p) (upd H1 p (.lst xs))
theorem w6 {x1}(h:PA X es t):PE X (.Tuple es x1 pos) (Zce t):=by
 intro pins s σ H Q I hq;refine wpAny_Tuple_spliced (thn (h pos pins s σ H _ I hq) λus s1 ⟨xs,H1,I1,r,z,q⟩=>⟨by rw[<-r.length];exact z,?_⟩)
 have hf:H1 s1.heap.objs.size=none:=I1.hok.fresh (Pl _);refine⟨.ref s1.heap.objs.size,upd H1 s1.heap.objs.size (.tup xs),I1.laid (t':=s1.toks) (λb u e=>Pg _ e) (Pl _) ?_,rfl,q _ hf⟩
 exact⟨z,us,r,⟨_,Px _ rfl,rfl,_,rfl⟩⟩
theorem ZaV (h:PA X es t):PE X (.List es pos) (Zct t):=by
 intro pins s σ H Q I hq;refine wpAny_List_spliced (thn (h pos pins s σ H _ I hq) λus s1 ⟨xs,H1,I1,r,z,q⟩=>⟨by rw[<-r.length];exact z,?_⟩)
 have hf:H1 s1.heap.objs.size=none:=I1.hok.fresh (Pl _);refine⟨.ref s1.heap.objs.size,upd H1 s1.heap.objs.size (.lst xs),I1.laid (t':=s1.toks) (λb u e=>Pg _ e) (Pl _) ?_,rfl,q _ hf⟩
 exact⟨z,us,0,r,Px _ rfl⟩
end
noncomputable abbrev Sp:=List V->Hp->VK->XK->Prop
noncomputable abbrev CXT:=List Env->Hp->Shared->XK->Value->Shared->Prop
structure Env0 (P:Program) (w:World) (K:PySem.W.Frag) (mg:Str->Option Value) (base:Heap) (A:Around) (outer:List Env) (s:Shared) (H:Hp):Prop where
 frames:A.frames=some outer
 mod:Mod K mg base
 bs:∀b o,base.get? b=some o->s.heap.get? b=some o/\H b=none
 bsz:base.objs.size<=s.heap.objs.size
 funs:s.heap.FunFrames base outer
 frf:∀b∈frs outer,H b=none
 hok:HOk P w H s.heap
 bare:AllBare s.gens
def CE (outer:List Env) (P:Program) (w:World) (H:Hp) (s:Shared) (Q:VK) (u:Value) (s':Shared):Prop:=
 ∃v H',s'.os=s.os/\AllBare s'.gens/\Un (frs outer) [] H H' s.heap s'.heap/\HOk P w H' s'.heap/\ZD v u/\Q v H'
def CR (CX:CXT) (outer:List Env) (P:Program) (w:World) (H:Hp) (s:Shared) (Q:VK) (E:XK) (r:Result) (s':Shared):Prop:=
 match r with
 |.ok (.ret u)=>CE outer P w H s Q u s'
 |.ok _=>False
 |.error e=>CX outer H s E e s'
structure FnOk (P:Program) (w:World) (K:PySem.W.Frag) (mg:Str->Option Value) (base:Heap) (CX:CXT) (k:Nat) (f:Addr) (fd:FuncData) (ps:List Str) (sp:Sp):Prop where
 len:∀vs H Q E,sp vs H Q E->vs.length=ps.length
 run:∀(A:Around) (outer:List Env) (s:Shared) (H:Hp) (args:Args) (us:List Value) (vs:List V) (Q:VK) (E:XK),Room k A->Env0 P w K mg base A outer s H->BindsTo s fd args (ps.zip us)->Vals vs us->sp vs H Q E->
  codeAny (model P w) A (.call (.ref f) args) (CR CX outer P w H s Q E) s
section
variable {X:Cx}{pins:List (Addr×Obj)}{σ:St}{H:Hp}{s s':Shared}
theorem Inv.env0 (I:Inv X pins σ H s):Env0 X.prog X.w X.K X.mg X.base X.A X.stack s H:=
 ⟨I.ok.frames,I.ok.mod,I.bs,P0 I.ok.bsz I.sz,I.stack,I.stkFree,I.hok,I.bare⟩
theorem Inv.after {Q:VK}{u:Value}(I:Inv X pins σ H s) (h:CE X.stack X.prog X.w H s Q u s'):EP X pins σ Q u s':=by
 obtain⟨v,H',os,bare,un,hok,r,q⟩:=h;obtain⟨hh,g,d,t,os'⟩:=s';obtain rfl:os'=s.os:=os;exact⟨v,H',I.call (h':=hh) (g':=g) (d':=d) (t':=t) (ch:=[]) un hok bare (λb z=>absurd z (by simp)),r,q⟩
end
noncomputable def ZbL (sp:Sp) (dvs:List V) (E:XK) (t:TA):TE:=λσ H Q=>t σ H λvs H1=>sp (vs++dvs) H1 Q E
def Binds (K:PySem.W.Frag) (fd:FuncData) (ps:List Str) (ds:List Value):Prop:=
 ∀(s:Shared) (us:List Value),K.In s.heap->(us++ds).length=ps.length->BindsTo s fd ⟨us,[]⟩ (ps.zip (us++ds))
theorem Binds.all {K:PySem.W.Frag}{fd:FuncData}{ps:List Str}(h:∀us:List Value,us.length=ps.length->bindArgs fd ⟨us,[]⟩=pure (ps.zip us)):Binds K fd ps []:=λs us _ hl=>by
 rw[NT] at hl ⊢;exact .of_eq (h us hl)
def Passes (CX:CXT) (X:Cx) (E:XK):Prop:=∀(pins:List (Addr×Obj)) (σ:St) (H:Hp) (s:Shared) (e:Value) (s':Shared),Inv X pins σ H s->CX X.stack H s E e s'->X.xe e s'
section
variable {X:Cx}{CX:CXT}{k:Nat}{f C:Addr}{fd:FuncData}{ps:List Str}{sp:Sp}{dvs:List V}{ds:List Value}{E:XK}{x m:Str}{p pos apos:Pos}{e o:Expr}{es:List Expr}{ta:TE}{t:TA}
theorem Zau {pins:List (Addr×Obj)}{σ:St}{H:Hp}{s:Shared}{Q:VK}{us:List Value}{vs:List V}(F:FnOk X.prog X.w X.K X.mg X.base CX k f fd ps sp) (hr:Room k X.A) (hb:Binds X.K fd ps ds) (hd:Vals dvs ds) (hx:Passes CX X E)
  (I:Inv X pins σ H s) (r:Vals vs us) (h:sp (vs++dvs) H Q E):wpAny (model X.prog X.w) X.A (call (.ref f) us) (EP X pins σ Q) X.xe s:=by
 have r2:Vals (vs++dvs) (us++ds):=r.append hd;have hl:(us++ds).length=ps.length:=by rw[<-r2.length];exact F.len _ _ _ _ h
 refine wpAny_call (codeAny_mono (F.run X.A X.stack s H ⟨us,[]⟩ (us++ds) (vs++dvs) Q E hr I.env0 (hb s us I.kIn hl) r2 h) λr s' hq=>?_)
 cases r with
 |error e=>exact hx pins σ H s e s' I hq
 |ok fl=>
  cases fl with
  |ret u=>exact I.after hq
  |next=>exact False.elim hq
  |brk=>exact False.elim hq
  |cont=>exact False.elim hq
theorem qj (F:FnOk X.prog X.w X.K X.mg X.base CX k f fd ps sp) (hr:Room k X.A) (hg:Gl X x) (hm:X.mg x=some (.ref f)) (hk:PySem.W.keepIn X.K (.ref f)=true) (hb:Binds X.K fd ps ds) (hd:Vals dvs ds) (hx:Passes CX X E)
  (ha:PA X (e::es) t) (hdb:(x == ("__debug__" : Str))=false:=by decide) (he:starEach (e::es) X.env=(false,eval e X.env)::starEach es X.env:=by rfl) (hpl:(backTo pos (starEach es X.env)).any (·.1)=false:=by rfl) :
  PE X (.Call (.Name x p) (e::es) [] pos) (ZbL sp dvs E t):=by
 intro pins s σ H Q I h;refine wpAny_Call_Name_kw (jO I hg hm ?_ hdb);refine PySem.W.callWith_K (h₀:=X.base) I.ok.mod.kin hk (thn (ha pos pins s σ H _ I h) λus s1 ⟨vs,H1,I1,r,q⟩=>⟨I1.kIn,?_⟩) he hpl
 exact Zau F hr hb hd hx I1 r q
end
structure FnScope (N P:List Str) (sc:Scope):Prop where
 kind:sc.kind=.function
 co:sc.isCoroutine=false
 gen:sc.isGenerator=false
 nd:N.Nodup
 pre:N.take P.length=P
 par:∀x∈P,sc.names.lookup x=some .local\/sc.names.lookup x=some .cell
 nofree:∀y∈sc.names,y.2≠.free
theorem QJ {kindOf:Str->Option NameKind}{x:Str}:∀{binds:List (Str×Value)}{m:Str->Option Value},(∀v,(x,v)∉binds)->bindL kindOf binds m x=m x
 |[],_,_=>rfl
 |(n,v)::r,m,h=>by
  unfold bindL;rw[QJ λw hw=>h w (Pd _ hw)]
  split
  ·have:x≠n:=by rintro rfl;exact h v Pe
   simp[this]
  ·rfl
theorem QS {kindOf:Str->Option NameKind}{x:Str}:∀{binds:List (Str×Value)}{m:Str->Option Value},(∀v,(x,v)∉binds)->bindC kindOf binds m x=m x
 |[],_,_=>rfl
 |(n,v)::r,m,h=>by
  unfold bindC;rw[QS λw hw=>h w (Pd _ hw)]
  split
  ·rfl
  ·have:x≠n:=by rintro rfl;exact h v Pe
   simp[this]
theorem U8 {kindOf:Str->Option NameKind}{x:Str}{v:Value}:∀{P:List Str}{vs:List Value}{i:Nat}{m:Str->Option Value},P.Nodup->P[i]? = some x->vs[i]? = some v->kindOf x=some .local->
  bindL kindOf (P.zip vs) m x=some v
 |[],_,_,_,_,h,_,_=>by simp at h
 |_::_,[],_,_,_,_,h,_=>by simp at h
 |p::P,w::vs,0,m,nd,h1,h2,hk=>by
  simp at h1 h2;subst h1;subst h2;show bindL kindOf ((p,w)::P.zip vs) m p=_;unfold bindL;rw[QJ λv hv=>(List.nodup_cons.mp nd).1 (NB hv).1,Ph hk]
  simp
 |p::P,w::vs,i+1,m,nd,h1,h2,hk=>by
  show bindL kindOf ((p,w)::P.zip vs) m x=_;unfold bindL;exact U8 (i:=i) (List.nodup_cons.mp nd).2 (by simpa using h1) (by simpa using h2) hk
theorem QD {kindOf:Str->Option NameKind}{x:Str}{v:Value}:∀{P:List Str}{vs:List Value}{i:Nat}{m:Str->Option Value},P.Nodup->P[i]? = some x->vs[i]? = some v->kindOf x≠some .local->
  bindC kindOf (P.zip vs) m x=some v
 |[],_,_,_,_,h,_,_=>by simp at h
 |_::_,[],_,_,_,_,h,_=>by simp at h
 |p::P,w::vs,0,m,nd,h1,h2,hk=>by
  simp at h1 h2;subst h1;subst h2;show bindC kindOf ((p,w)::P.zip vs) m p=_;unfold bindC;rw[QS λv hv=>(List.nodup_cons.mp nd).1 (NB hv).1,Pi hk]
  simp
 |p::P,w::vs,i+1,m,nd,h1,h2,hk=>by
  show bindC kindOf ((p,w)::P.zip vs) m x=_;unfold bindC;exact QD (i:=i) (List.nodup_cons.mp nd).2 (by simpa using h1) (by simpa using h2) hk
noncomputable def start (N:List Str) (vs:List V):St:=vs.map some++List.replicate (N.length-vs.length) none
noncomputable def zg (CX:CXT) (P:Program) (w:World) (K:PySem.W.Frag) (mg:Str->Option Value) (base:Heap) (N:List Str) (qual:Str) (scope:Scope) (f:Addr) (cd:Value) (A:Around) (outer:List Env) (s:Shared) (H:Hp) (E:XK):Cx where
 prog:=P
 w:=w
 K:=K
 mg:=mg
 base:=base
 A:=A.deeper (envOfC qual scope s.heap.objs.size f cd)
 N:=N
 s₀:=s
 H₀:=H
 env:=envOfC qual scope s.heap.objs.size f cd
 outer:=outer
 stack:=envOfC qual scope s.heap.objs.size f cd::outer
 ex:=[]
 calm:=true
 fn:=λ_=>true
 pn:=[]
 xe:=λe s'=>wpAny (model P w) (A.deeper (envOfC qual scope s.heap.objs.size f cd)) (leaving (envOfC qual scope s.heap.objs.size f cd) e) (λ_ s''=>CX outer H s E e s'') (λe' s''=>CX outer H s E e' s'') s'
theorem GH {sc:Scope}{n:Nat}{x:Str}(h:sc.names.lookup x=some .cell):∃c,(cellsFrom n sc.names []).lookup x=some c:=by
 have q:=PySem.W.cellsFrom_some sc.names n [] (.inl h);exact Option.isSome_iff_exists.mp q
theorem wB {CX:CXT}{P:Program}{w:World}{K:PySem.W.Frag}{mg:Str->Option Value}{base:Heap}{N ps:List Str}{qual:Str}{scope:Scope}{f:Addr}{cd:Value}{A:Around}{outer:List Env}{s s1:Shared}{H:Hp}{E:XK}{us:List Value}{vs:List V}
  (S:FnScope N ps scope) (hd:A.handled=none) (e0:Env0 P w K mg base A outer s H) (hl:vs.length=ps.length) (r:Vals vs us)
  (x:InCallC s s.heap.objs.size (bindL (envOfC qual scope s.heap.objs.size f cd).kindOf (ps.zip us) λ_=>none) (cellsFrom (s.heap.objs.size+1) scope.names []) (bindC (envOfC qual scope s.heap.objs.size f cd).kindOf (ps.zip us) λ_=>none) s1) :
  Inv (zg CX P w K mg base N qual scope f cd A outer s H E) [] (start N vs) H s1:=by
 have hpl:ps.length<=N.length:=by have:=congrArg List.length S.pre;rw[NE] at this;omega
 obtain⟨h1,tk,rfl,hk⟩:=x.done;have noA:∀b:Addr,b∉(zg CX P w K mg base N qual scope f cd A outer s H E).ex:=λb z=>absurd (show b∈([]:List Addr) from z) (by simp)
 refine⟨⟨e0.mod,S.kind,rfl,rfl,Pl _,λy z c h1 h2=>?_,λy hy=>?_,λy c _ h=>?_,λ_=>hd,Around.frames_deeper e0.frames,.inr ⟨rfl,rfl⟩,λb z=>absurd z (noA b),e0.bs,e0.bsz,λb _ _=>noA b,λb z=>absurd z (noA b),e0.funs,e0.frf⟩,
  rfl,e0.bare,Un.kept hk,⟨_,x.toInCall.ns,λi y v h1 h2 h3=>?_⟩,λy c h=>⟨_,x.cell y c h⟩,e0.hok.fresh (Pl _),λy c h=>?_,λp hp=>absurd (show p∈([]:List (Addr×Obj)) from hp) (by simp),e0.hok.kept hk,?_⟩
 ·exact name_of_addr x.apart (PySem.mem_of_lookup h1) (PySem.mem_of_lookup h2)
 ·have hy:scope.names.lookup y=some .cell\/scope.names.lookup y=some .free:=hy
  rcases hy with hy | hy
  ·exact GH hy
  ·exact absurd rfl (S.nofree _ (PySem.mem_of_lookup hy))
 ·exact Nat.le_of_lt (x.above y c (PySem.mem_of_lookup h))
 ·have hi:i<vs.length:=by
   unfold start at h2;by_cases hi:i<vs.length
   ·exact hi
   ·rw[PN (by simpa using hi)] at h2
    rw[Nd] at h2;split at h2 <;> cases h2
  have ha:vs[i]? = some v:=by
   unfold start at h2;rw[Py (by simpa using hi),PF] at h2
   cases e:vs[i]? with
   |none=>rw[e] at h2;cases h2
   |some a=>rw[e] at h2;cases h2;rfl
  obtain⟨u,hu,rv⟩:=r.get ha;have hp:ps[i]? = some y:=by
   rw[<-S.pre,List.getElem?_take_of_lt (by omega)];exact h1
  have ndP:ps.Nodup:=by rw[<-S.pre];exact S.nd.sublist (List.take_sublist _ _)
  refine⟨u,rv,?_⟩;rcases S.par y (List.mem_of_getElem? hp) with k | k
  ·exact .inl ⟨k,U8 ndP hp hu k⟩
  ·obtain⟨c,e⟩:=GH (n:=s.heap.objs.size+1) k
   refine .inr ⟨.inl k,c,e,?_⟩;have q:=x.cell y c e;rw[QD ndP hp hu (by show scope.names.lookup y≠_;rw[k];decide)] at q
   exact q
 ·exact e0.hok.fresh (Nat.le_of_lt (x.above y c (PySem.mem_of_lookup h)))
 ·unfold start
  show _=N.length;rw[PM,Pk,Nn];omega
theorem ZbX {CX:CXT}{P:Program}{w:World}{K:PySem.W.Frag}{mg:Str->Option Value}{base:Heap}{k:Nat}{f:Addr}{name qual:Str}{params:Arguments}{body:List Stmt}{scope:Scope}{dV kV doc pm cdv ct oc:Value}{an od:Option Addr}
  {osl:Array (Option Value)} {N ps:List Str} {sp:Sp} (lk:K.lookup f=some ⟨oc,od,.func (PySem.W.fnOf name qual params body scope dV kV doc pm an cdv ct),osl⟩) (hcd:PySem.W.codeIn K cdv qual=true) (S:FnScope N ps scope)
  (len:∀vs H Q E,sp vs H Q E->vs.length=ps.length)
  (hbody:∀(A:Around) (outer:List Env) (s:Shared) (H:Hp) (vs:List V) (Q:VK) (E:XK),Room k (A.deeper (envOfC qual scope s.heap.objs.size f cdv))->sp vs H Q E->
   ∃t,PSs (zg CX P w K mg base N qual scope f cdv A outer s H E) body t/\t { nx:=λ_ H'=>Q .non H',rt:=Q } (start N vs) H) :
  FnOk P w K mg base CX (k+1) f (PySem.W.fnOf name qual params body scope dV kV doc pm an cdv ct) ps sp:=by
 refine⟨len,λA outer s H args us vs Q E hr e0 hb r hsp=>?_⟩
 have hl:=len _ _ _ _ hsp;have KX:K.In s.heap:=e0.mod.kin.keeps λb o e=>(e0.bs b o e).1
 have lim:s.heap.NoLimit:=e0.mod.nolimit.keeps λb o e=>(e0.bs b o e).1
 have hkind:∀y∈ps.zip us,scope.names.lookup y.1=some .local\/(scope.names.lookup y.1=some .cell/\((cellsFrom (s.heap.objs.size+1) scope.names []).lookup y.1).isSome=true):=λ⟨n,v⟩ hy=>by
  rcases S.par n (NB hy).1 with q | q
  ·exact .inl q
  ·exact .inr ⟨q,PySem.W.cellsFrom_some _ _ _ (.inl q)⟩
 refine codeAny_call_function hr.depth (KX _ _ lk) rfl S.co S.gen rfl (PySem.W.codeRec_of KX hcd) (hb _ _ _ _ ?_);refine wpAny_newFunctionEnv_cells S.kind hkind λenv he s1 x=>?_
 subst he;refine⟨lim.keeps x.toInCall.keep,codeAny_func ?_⟩;obtain⟨t,ht,hq⟩:=hbody A outer s H vs Q E (hr.deeper _) hsp;have I:Inv (zg CX P w K mg base N qual scope f cdv A outer s H E) [] (start N vs) H s1:=wB S hr.hd e0 hl r x;refine Ni (ht [] s1 (start N vs) H _ I hq) (λfl s' hs=>?_) λe s' hs=>hs
 have fin:∀{σ':St} {H':Hp} {v:V} {u:Value},Inv (zg CX P w K mg base N qual scope f cdv A outer s H E) [] σ' H' s'->ZD v u->Q v H'->CE outer P w H s Q u s':=
  λ{σ' H' v u} J rv q=>⟨v,H',J.os,J.bare,J.base,J.hok,rv,q⟩
 cases fl with
 |ret u=>
  obtain⟨v,σ',H',J,rv,q⟩:=hs;exact fin J rv q
 |next=>
  obtain⟨σ',H',J,q⟩:=hs;exact fin (v:=V.non) (u:=Value.none) J rfl q
 |brk=>
  obtain⟨_,_,_,q⟩:=hs;exact False.elim q
 |cont=>
  obtain⟨_,_,_,q⟩:=hs;exact False.elim q
section
variable {X:Cx}{x:Str}{p pos:Pos}{e:Expr}{es:List Expr}{t:TA}{id T:String}{r:List V->Hp->VK->Prop}
noncomputable def tCB (r:List V->Hp->VK->Prop) (t:TA):TE:=λσ H Q=>t σ H λvs H1=>r vs H1 Q
theorem UX (hc:ZJ X (.builtin id) r) (hg:Gl X x) (hm:X.mg x=none) (hv:bootBuiltins x=some (.builtin id)) (ha:PA X (e::es) t) (hn:x≠"__name__":=by decide) (hdb:(x == ("__debug__" : Str))=false:=by decide)
  (he:starEach (e::es) X.env=(false,eval e X.env)::starEach es X.env:=by rfl) (hpl:(backTo pos (starEach es X.env)).any (·.1)=false:=by rfl):PE X (.Call (.Name x p) (e::es) [] pos) (tCB r t):=by
 intro pins s σ H Q I h;refine wpAny_Call_Name_kw (Y5 I hg hm hv ?_ hn hdb);exact PyProof.Rows.callWith_builtin1 (thn (ha pos pins s σ H _ I h) λus s1 ⟨vs,H1,I1,r1,q1⟩=>hc pins s1 σ H1 vs us Q I1 r1 q1) he hpl
theorem wq (hc:ZJ X (.type T) r) (hg:Gl X x) (hm:X.mg x=none) (hv:bootBuiltins x=some (.type T)) (ha:PA X (e::es) t) (hn:x≠"__name__":=by decide) (hdb:(x == ("__debug__" : Str))=false:=by decide)
  (he:starEach (e::es) X.env=(false,eval e X.env)::starEach es X.env:=by rfl) (hpl:(backTo pos (starEach es X.env)).any (·.1)=false:=by rfl):PE X (.Call (.Name x p) (e::es) [] pos) (tCB r t):=by
 intro pins s σ H Q I h;refine wpAny_Call_Name_kw (Y5 I hg hm hv ?_ hn hdb);exact Na (thn (ha pos pins s σ H _ I h) λus s1 ⟨vs,H1,I1,r1,q1⟩=>hc pins s1 σ H1 vs us Q I1 r1 q1) he hpl
end
end L2
namespace HT
open PySem PyProof.Rows
section
variable {prog:Program}{w:World}{A:Around}{E:Value->Shared->Prop}{s:Shared}
theorem qr {t b:Addr}{vs ws:List Value}{Q:Value->Shared->Prop}(ht:IsTup s.heap t vs.toArray) (hb:IsTup s.heap b ws.toArray) (hv:vs≠[])
  (h1:ws=[]->Q (.ref t) s) (h2:ws≠[]->Q (.ref s.heap.objs.size) { s with heap:=s.heap.push { cls:=.type "tuple",data:=.seq (vs++ws).toArray } })
  (hsz:vs.length+ws.length<=sizeLine):wpAny (model prog w) A (binaryOp .Add (.ref t) (.ref b)) Q E s:=by
 obtain⟨⟨cls,dd,data,sl⟩,ho,hc,n,hd⟩:=id ht;obtain⟨⟨cls2,dd2,data2,sl2⟩,ho2,hc2,n2,hd2⟩:=id hb;simp only at hc hd hc2 hd2;subst hc hd hc2 hd2;have e:vs.toArray++ws.toArray=(vs++ws).toArray:=by simp
 by_cases hw:ws=[]
 ·exact concat_meets ⟨_,ho,rfl⟩ ⟨_,ho2,rfl⟩ noFill_tuple_add seq_tuple_add PySem.F.slot_tuple_add PySem.F.entry_tuple_add (PySem.F.args_tuple_add_2 _ _)
   (tuple_addW1 t b vs.toArray ws.toArray n n2 dd dd2 sl sl2 (by simpa using hv) (by simp[hw])) ⟨ho,ho2,h1 hw⟩
 ·refine concat_meets ⟨_,ho,rfl⟩ ⟨_,ho2,rfl⟩ noFill_tuple_add seq_tuple_add PySem.F.slot_tuple_add PySem.F.entry_tuple_add (PySem.F.args_tuple_add_2 _ _)
   (tuple_addW2 t b vs.toArray ws.toArray n n2 dd dd2 sl sl2 (by simpa using hv) (by simpa using hw) (by rw[Pf,Pf];exact hsz)) ⟨ho,ho2,?_⟩
  rw[e];exact h2 hw
noncomputable def sIx (n d:Nat):Option Int->Nat
 |none=>d
 |some v=>if v<0 then (v+(n:Int)).toNat else min v.toNat n
theorem ZaK (n d:Nat) (hd:d<=n) (o:Option Int):sIx n d o<=n:=by
 cases o with
 |none=>exact hd
 |some v=>
  show (if v<0 then (v+(n:Int)).toNat else min v.toNat n)<=n
  by_cases hv:v<0
  ·rw[Ph hv];omega
  ·rw[Pi hv];exact Nat.min_le_right _ _
theorem xn (v:Int) (n d:Nat):(if v<0 then max (v+(n:Int)) 0 else min v (n:Int))=((sIx n d (some v):Nat):Int):=by
 show (if v<0 then max (v+(n:Int)) 0 else min v (n:Int))=(((if v<0 then (v+(n:Int)).toNat else min v.toNat n):Nat):Int)
 by_cases hv:v<0
 ·simp only[Ph hv];omega
 ·simp only[Pi hv];omega
theorem yh (lo hi:Option Int) (n:Nat):Builtin.Slice.sliceAdjust lo hi 1 (n:Int)=(((sIx n 0 lo:Nat):Int),((sIx n n hi:Nat):Int)):=by
 have h1:¬((1:Int)<0):=by omega
 unfold Builtin.Slice.sliceAdjust;simp only[h1,Np];refine Prod.ext ?_ ?_
 ·cases lo with
  |none=>rfl
  |some v=>exact xn v n 0
 ·cases hi with
  |none=>rfl
  |some v=>exact xn v n n
theorem zZ (i j:Nat):Builtin.Slice.slicePlaces (i:Int) (j:Int) 1=j-i:=by
 unfold Builtin.Slice.slicePlaces;have h1:(1:Int)>0:=by omega
 simp only[h1,NM,Int.ediv_one];split <;> omega
theorem Ud {v:Value}{o:Option Int}{Q:Option Int->Shared->Prop}(p:IsPart v o) (h:Q o s):wpAny (model prog w) A (Builtin.Slice.slicePartIndex v) Q E s:=by
 cases p with
 |none=>exact slicePart_none h
 |int i t=>exact slicePart_int h
theorem Y8 {sl:Addr}{vl vu:Value}{lo hi:Option Int}{n:Nat}{Q:Int×Int×Nat->Shared->Prop}(hs:s.heap.IsSliceOf sl vl vu .none) (pl:IsPart vl lo) (pu:IsPart vu hi)
  (h:Q (((sIx n 0 lo:Nat):Int),1,sIx n n hi-sIx n 0 lo) s):wpAny (model prog w) A (Builtin.Slice.sliceApplied (.ref sl) (pure (n:Int))) Q E s:=by
 obtain⟨os,hos,hcs,hds⟩:=id hs;unfold Builtin.Slice.sliceApplied Builtin.Slice.sliceFields;refine Pa (Pa (Ng hos hds (x:=vl) rfl (Pa (Ng hos hds (x:=vu) rfl (Pa (Ng hos hds (x:=.none) rfl (Pj ?_)))))));refine Pa (slicePart_none ?_);show wpAny _ _ (if ((1:Int) == 0)=true then _ else _) _ _ s
 rw[Pi (by decide)]
 refine Pa (Ud pl (Pa (Ud pu (Pa (Pj ?_)))));show wpAny _ _ (match Builtin.Slice.sliceAdjust lo hi 1 (n:Int) with | (lo,hi)=>pure (lo,(1:Int),Builtin.Slice.slicePlaces lo hi 1)) _ _ s
 rw[yh lo hi n];show wpAny _ _ (pure (((sIx n 0 lo:Nat):Int),(1:Int),Builtin.Slice.slicePlaces ((sIx n 0 lo:Nat):Int) ((sIx n n hi:Nat):Int) 1)) _ _ s;rw[zZ];exact Pj h
theorem qd (xs:Array Value) (i k:Nat):((List.range k).filterMap λ(m:Nat)=>xs[((i:Int)+(m:Int)*1).toNat]?).toArray=((xs.toList.drop i).take k).toArray:=by
 have e:(λ(m:Nat)=>xs[((i:Int)+(m:Int)*1).toNat]?)=λm=>xs[i+m]?:=by
  funext m
  have:((i:Int)+(m:Int)*1).toNat=i+m:=by omega
  rw[this]
 rw[e];have:=pick_run xs i k;rw[List.filterMap_map] at this;have e2:((λx=>xs[x]?)∘λx=>i+x)=λm=>xs[i+m]?:=rfl
 rw[e2] at this;rw[this]
theorem WC {t sl:Addr}{items:Array Value}{vl vu:Value}{lo hi:Option Int}{Q:Value->Shared->Prop}(ht:IsTup s.heap t items) (hs:s.heap.IsSliceOf sl vl vu .none) (pl:IsPart vl lo) (pu:IsPart vu hi)
  (hw:¬(sIx items.size 0 lo=0/\sIx items.size items.size hi=items.size))
  (h:Q (.ref s.heap.objs.size) { s with heap:=s.heap.push { cls:=.type "tuple",data:=.seq ((items.toList.drop (sIx items.size 0 lo)).take (sIx items.size items.size hi-sIx items.size 0 lo)).toArray } })
  (hsz:items.size<=sizeLine):wpAny (model prog w) A (getItem (.ref t) (.ref sl)) Q E s:=by
 have htake:sizeOk (.seq ((items.toList.drop (sIx items.size 0 lo)).take (sIx items.size items.size hi-sIx items.size 0 lo)).toArray):=by
  show ((items.toList.drop (sIx items.size 0 lo)).take (sIx items.size items.size hi-sIx items.size 0 lo)).toArray.size<=sizeLine;rw[Pf,NE,NP,Nz];omega
 have hj:sIx items.size items.size hi<=items.size:=ZaK _ _ (Pl _) hi;obtain⟨os,hos,hcs,hds⟩:=id hs;have hTs:s.TypeIs (.ref sl) "slice":=⟨os,hos,hcs⟩;unfold getItem
 try with_reducible refine Nf ?_
 first | refine Pa (Pj ?_) | skip
 refine Pa (wpAny_sequenceKey ht.typeIs (by decide) ?_)
 refine Pa (Nu (name:=Str.ofString "__getitem__") ht.typeIs NC
  (NF NC ht.typeIs entry_tuple_getitem ?_ (args_tuple_getitem _ _)))
 show wpAny _ _ (Builtin.Tuple.tupleItemsOf (.ref t) >>= _) _ _ s;refine Pa (tupleItemsOf_ ht ?_);refine Pa (wpAny_typeOf hTs ?_);rw[Ph (by decide)]
 refine Pa (Y8 hs pl pu ?_);have hno:¬((((sIx items.size 0 lo:Nat):Int) == 0&&(1:Int) == 1&&(sIx items.size items.size hi-sIx items.size 0 lo) == items.size)=true):=by
  intro q;rw[Pz,Pz] at q;have q1:((sIx items.size 0 lo:Nat):Int)=0:=eq_of_beq q.1.1;have q2:sIx items.size items.size hi-sIx items.size 0 lo=items.size:=eq_of_beq q.2;exact hw ⟨by omega,by omega⟩
 show wpAny _ _ (if (((sIx items.size 0 lo:Nat):Int) == 0&&(1:Int) == 1&&(sIx items.size items.size hi-sIx items.size 0 lo) == items.size)=true then _ else _) _ _ s
 rw[Pi hno,qd]
 first
  |exact Pa (m:=Builtin.Tuple.tupleExact _) (Nm (Pj ⟨_,rfl,Pj h⟩) htake)
  |exact Pa (m:=Builtin.Tuple.tupleExact _) (Nm (Pa (Pj (Pj ⟨_,rfl,Pj h⟩))) htake)
  |exact Pa (Pa (m:=Builtin.Tuple.tupleExact _) (Nm (Pj (Pj ⟨_,rfl,Pj h⟩)) htake))
  |exact Pa (Pa (m:=Builtin.Tuple.tupleExact _) (Nm (Pj ⟨_,rfl,Pj h⟩) htake))
end
end HT
namespace L2
open PySem PySem.Spec PyProof.Rows
noncomputable abbrev TO:=St->Hp->(Option Int->Hp->Prop)->Prop
def PO (X:Cx) (e:Option Expr) (t:TO):Prop:=
 ∀(pins:List (Addr×Obj)) (s:Shared) (σ:St) (H:Hp) (Q:Option Int->Hp->Prop),Inv X pins σ H s->t σ H Q->
  wpAny (model X.prog X.w) X.A (evalPart e X.env) (λu s'=>∃o H',Inv X pins σ H' s'/\IsPart u o/\Q o H') X.xe s
noncomputable def qo:TO:=λ_ H Q=>Q none H
noncomputable def Zb4 (t:TE):TO:=λσ H Q=>t σ H λx H1=>∃i,x=.int i/\Q (some i) H1
section
variable {X:Cx}{e:Expr}{te:TE}{lo hi:Option Expr}{tl th:TO}{pos p2:Pos}
theorem qt:PO X none qo:=by
 intro pins s σ H Q I h;rw[evalPart_none];exact Pj ⟨none,H,I,.none,h⟩
theorem ZV (h:PE X e te):PO X (some e) (Zb4 te):=by
 intro pins s σ H Q I hw;rw[evalPart_some];refine thn (h pins s σ H _ I hw) λu s1 ⟨x,H1,I1,r1,q1⟩=>?_
 obtain⟨i,rfl,q⟩:=q1;obtain⟨t,rfl⟩:=r1;exact⟨some i,H1,I1,.int i t,q⟩
def SlR (X:Cx) (r:V->Option Int->Option Int->Hp->VK->Prop):Prop:=
 ∀(pins:List (Addr×Obj)) (s:Shared) (σ:St) (H:Hp) (x:V) (v vl vu:Value) (lo hi:Option Int) (sl:Addr) (Q:VK),Inv X pins σ H s->ZD x v->s.heap.IsSliceOf sl vl vu .none->IsPart vl lo->IsPart vu hi->r x lo hi H Q->
  ∃T id,typeLookup (.type T) "__getitem__" = pure (some (.builtin id))/\s.TypeIs v T/\wpAny (model X.prog X.w) X.A (getItem v (.ref sl)) (EP X pins σ Q) X.xe s
theorem SlR.or {r r':V->Option Int->Option Int->Hp->VK->Prop}(h:SlR X r) (h':SlR X r'):SlR X (λx lo hi H Q=>r x lo hi H Q\/r' x lo hi H Q):=by
 intro pins s σ H x v vl vu lo hi sl Q I rx hs pl pu q;rcases q with q | q
 ·exact h pins s σ H x v vl vu lo hi sl Q I rx hs pl pu q
 ·exact h' pins s σ H x v vl vu lo hi sl Q I rx hs pl pu q
noncomputable def tSl (r:V->Option Int->Option Int->Hp->VK->Prop) (te:TE) (tl th:TO):TE:=λσ H Q=>te σ H λx H1=>tl σ H1 λl H2=>th σ H2 λu H3=>r x l u H3 Q
theorem vO {r:V->Option Int->Option Int->Hp->VK->Prop}(hr:SlR X r) (he:PE X e te) (hl:PO X lo tl) (hu:PO X hi th):PE X (.Subscript e (.Slice lo hi none p2) pos) (tSl r te tl th):=by
 intro pins s σ H Q I h;refine Subscript_ (thn (he pins s σ H _ I h) λv s1 ⟨x,H1,I1,r1,q1⟩=>?_)
 refine wpAny_Slice (thn (hl pins s1 σ H1 _ I1 q1) λvl s2 ⟨l,H2,I2,pl,q2⟩=>thn (hu pins s2 σ H2 _ I2 q2) λvu s3 ⟨u,H3,I3,pu,q3⟩=>?_)
 rw[evalPart_none];refine Pj ?_;have I4:Inv X pins σ H3 { s3 with heap:=s3.heap.push { cls:=.type "slice",data:=.fields #[vl,vu,.none] } }:=I3.kept (t':=s3.toks) λb ob q=>Pg _ q
 obtain⟨T,id,hT,ht,hg⟩:=hr pins { s3 with heap:=s3.heap.push { cls:=.type "slice",data:=.fields #[vl,vu,.none] } } σ H3 x v vl vu l u s3.heap.objs.size Q I4 r1 (Heap.IsSliceOf.new ..) pl pu q3
 show wpAny (model X.prog X.w) X.A (subscriptTail e (.Slice lo hi none p2) v (.ref s3.heap.objs.size)) (EP X pins σ Q) X.xe { s3 with heap:=s3.heap.push { cls:=.type "slice",data:=.fields #[vl,vu,.none] } }
 exact tail_any (ops:=[.ref s3.heap.objs.size,v]) ht hT hg (by with_unfolding_all rfl)
noncomputable def Xj (xs:List V) (lo hi:Option Int):List V:=(xs.drop (HT.sIx xs.length 0 lo)).take (HT.sIx xs.length xs.length hi-HT.sIx xs.length 0 lo)
theorem VL (xs:List V) (lo hi:Option Int):(Xj xs lo hi).length<=xs.length:=by
 unfold Xj;rw[NE,NP];omega
noncomputable def Zcl (K:PySem.W.Frag):V->Option Int->Option Int->Hp->VK->Prop:=λx lo hi H Q=>∃a xs,x=.ref a/\SqT K H a xs/\
 ¬(HT.sIx xs.length 0 lo=0/\HT.sIx xs.length xs.length hi=xs.length)/\∀p,H p=none->Q (.ref p) (upd H p (.tup (Xj xs lo hi)))
theorem Za4:SlR X (Zcl X.K):=by
 intro pins s σ H x v vl vu lo hi sl Q I rx hs pl pu h;obtain⟨a,xs,rfl,hx,hw,q⟩:=h;cases rx;obtain⟨its,r,ht,hz⟩:=I.tuple hx;have hlen:its.toArray.size=xs.length:=by rw[Pf];exact r.length.symm
 refine⟨"tuple",_,PyProof.Rows.slot_tuple_getitem.lookup,ht.typeIs,?_⟩;refine HT.WC ht hs pl pu (by rw[hlen];exact hw) ?_ (by rw[hlen];exact hz)
 rw[hlen];refine⟨.ref s.heap.objs.size,_,I.laid (t':=s.toks) (o:=.tup (Xj xs lo hi)) (λb ob q=>Pg _ q) (Pl _) ?_,rfl,q _ (I.hok.fresh (Pl _))⟩
 exact⟨P0 (VL xs lo hi) hz,_,(r.drop (HT.sIx xs.length 0 lo)).take (HT.sIx xs.length xs.length hi-HT.sIx xs.length 0 lo),IsTup.new _ _⟩
noncomputable def j9 (K:PySem.W.Frag):R2:=λx y H Q=>∃a b xs ys,x=.ref a/\y=.ref b/\SqT K H a xs/\SqT K H b ys/\xs≠[]/\xs.length+ys.length<=sizeLine/\
 (ys=[]->Q (.ref a) H)/\(ys≠[]->∀p,H p=none->Q (.ref p) (upd H p (.tup (xs++ys))))
theorem Vals.nil_iff {xs:List V}{us:List Value}(r:Vals xs us):us=[]↔xs=[]:=by
 cases r with
 |nil=>simp
 |cons _ _=>simp
theorem je:OpR X (binaryOp .Add) (j9 X.K):=by
 intro pins s σ H x y v u Q I rx ry h;obtain⟨a,b,xs,ys,rfl,rfl,ha,hb,hx,hz,q1,q2⟩:=h;cases rx;cases ry;obtain⟨its,r1,p1,_⟩:=I.tuple ha;obtain⟨its2,r2,p2,_⟩:=I.tuple hb;refine HT.qr p1 p2 (λz=>hx (r1.nil_iff.mp z)) (λz=>⟨.ref a,H,I,rfl,q1 (r2.nil_iff.mp z)⟩) (λz=>?_) (by rw[<-r1.length,<-r2.length];exact hz)
 refine⟨.ref s.heap.objs.size,_,I.laid (t':=s.toks) (o:=.tup (xs++ys)) (λb ob q=>Pg _ q) (Pl _) ?_,rfl,q2 (λw=>z (r2.nil_iff.mpr w)) _ (I.hok.fresh (Pl _))⟩
 exact⟨by rw[PM];exact hz,_,r1.append r2,IsTup.new _ _⟩
end
noncomputable def ixN (n:Nat) (i:Int):Option Nat:=if 0<=i then (if i<n then some i.toNat else none) else if -(n:Int)<=i then some (i+n).toNat else none
noncomputable def atI {α:Type} (xs:List α) (i:Int):Option α:=(ixN xs.length i).bind λj=>xs[j]?
theorem y6 {n:Nat}{i:Int}{j:Nat}(h:ixN n i=some j):seqIndex? i n=some j/\j<n/\-(n:Int)<=i/\i<n:=by
 unfold ixN at h;by_cases h0:0<=i
 ·rw[Ph h0] at h
  by_cases h1:i<n
  ·rw[Ph h1] at h
   have e:i.toNat=j:=Pb h;exact⟨by rw[seqIndex_of h0 h1,e],by omega,by omega,h1⟩
  ·rw[Pi h1] at h;cases h
 ·rw[Pi h0] at h
  by_cases h1:-(n:Int)<=i
  ·rw[Ph h1] at h
   have e:(i+n).toNat=j:=Pb h;exact⟨by rw[seqIndex_neg (by omega) h1,e],by omega,h1,by omega⟩
  ·rw[Pi h1] at h;cases h
theorem yR {α:Type}{xs:List α}{i:Int}{v:α}(h:atI xs i=some v):∃j,seqIndex? i xs.length=some j/\xs[j]? = some v/\j<xs.length/\-(xs.length:Int)<=i/\i<xs.length:=by
 unfold atI at h;cases e:ixN xs.length i with
 |none=>rw[e] at h;cases h
 |some j=>
  rw[e] at h;obtain⟨h1,h2,h3,h4⟩:=y6 e;exact⟨j,h1,h,h2,h3,h4⟩
def yU (b:Expr):Prop:=∀o i,subscripted b false o i=operate [o,i] (getItem o i)
def IxR (X:Cx) (r:R2):Prop:=
 ∀(value slice:Expr) (pins:List (Addr×Obj)) (s:Shared) (σ:St) (H:Hp) (x y:V) (v u:Value) (Q:VK),Inv X pins σ H s->ZD x v->ZD y u->r x y H Q->
  subscripted slice false v u=operate [v,u] (getItem v u)->wpAny (model X.prog X.w) X.A (subscriptTail value slice v u) (EP X pins σ Q) X.xe s
def MtR (X:Cx) (id:String) (r:V->List V->Hp->VK->Prop):Prop:=
 ∀(pins:List (Addr×Obj)) (s:Shared) (σ:St) (H:Hp) (x:V) (xs:List V) (v:Value) (us:List Value) (Q:VK),Inv X pins σ H s->ZD x v->Vals xs us->r x xs H Q->
  wpAny (model X.prog X.w) X.A (call (.builtin id) (v::us)) (EP X pins σ Q) X.xe s
section
variable {X:Cx}{a b:Expr}{ta tb:TE}{pos:Pos}
theorem IxR.or {r r':R2}(h:IxR X r) (h':IxR X r'):IxR X (λx y H Q=>r x y H Q\/r' x y H Q):=by
 intro value slice pins s σ H x y v u Q I rx ry q hs;rcases q with q | q
 ·exact h value slice pins s σ H x y v u Q I rx ry q hs
 ·exact h' value slice pins s σ H x y v u Q I rx ry q hs
theorem Zb2 {r:R2}(hr:IxR X r) (ha:PE X a ta) (hb:PE X b tb) (hs:yU b):PE X (.Subscript a b pos) (tOp r ta tb):=by
 intro pins s σ H Q I h;exact Subscript_ (Za6 ha hb I h λv u s2 x y H2 I2 rx ry q=>hr a b pins s2 σ H2 x y v u Q I2 rx ry q (hs _ _))
noncomputable def Zcg (K:PySem.W.Frag):R2:=λx y H Q=>∃p xs i v,x=.ref p/\y=.int i/\SqL K H p xs/\atI xs i=some v/\Q v H
noncomputable def Zcn (K:PySem.W.Frag):R2:=λx y H Q=>∃p xs i v,x=.ref p/\y=.int i/\SqT K H p xs/\atI xs i=some v/\Q v H
theorem ju:IxR X (Zcg X.K):=by
 intro value slice pins s σ H x y v u Q I rx ry h hs;obtain⟨p,xs,i,z,rfl,rfl,hq,he,q⟩:=h;cases rx;obtain⟨t,rfl⟩:=ry;obtain⟨its,r,pl,hz⟩:=I.list hq;obtain⟨j,h1,h2,h3,h4,h5⟩:=yR he;obtain⟨w,ew,rw'⟩:=r.get h2;have hl:=r.length;have hn:=line63;have fin:EP X pins σ Q w s:=⟨z,H,I,rw',q⟩;by_cases h0:0<=i
 ·have hj:i.toNat=j:=by
   rw[seqIndex_of h0 h5] at h1;exact Pb h1
  exact item_listR pl.isList h0 (by omega) (by rw[hj];simpa using ew) fin hs
 ·have hj:(i+(its.toArray.size:Int)).toNat=j:=by
   rw[seqIndex_neg (by omega) h4] at h1
   rw[Pf,<-hl];exact Pb h1
  exact subscriptTail_builtinR (x:=w) pl.isList.typeIs slot_list_getitem.lookup
   (wpAny_getItem_list_neg (Q:=λr s'=>r=w/\EP X pins σ Q r s') pl.isList (by omega) (by rw[Pf] <;> omega) (by omega) (by rw[hj];simpa using ew) ⟨rfl,fin⟩) hs
theorem ZaW:IxR X (Zcn X.K):=by
 intro value slice pins s σ H x y v u Q I rx ry h hs;obtain⟨p,xs,i,z,rfl,rfl,hq,he,q⟩:=h;cases rx;obtain⟨t,rfl⟩:=ry;obtain⟨its,r,pl,hz⟩:=I.tuple hq;obtain⟨j,h1,h2,h3,h4,h5⟩:=yR he;obtain⟨w,ew,rw'⟩:=r.get h2;have hl:=r.length;have hn:=line63;have fin:EP X pins σ Q w s:=⟨z,H,I,rw',q⟩;exact subscriptTail_builtinR (x:=w) pl.typeIs slot_tuple_getitem.lookup
  (getItem_tuple (j:=j) (Q:=λr s'=>r=w/\EP X pins σ Q r s') pl (by omega) (by omega) (by rw[Pf,<-hl];exact h1) (by simpa using ew) ⟨rfl,fin⟩) hs
theorem zu (its:List Value) (n j:Nat) (u:Value):Obj.mapSeq (·.setIfInBounds j u) { cls:=.type "list",data:=.seq its.toArray n }={ cls:=.type "list",data:=.seq (its.set j u).toArray n }:=by
 simp[Obj.mapSeq]
theorem Inv.lst {pins:List (Addr×Obj)}{σ:St}{H:Hp}{s:Shared}{p:Addr}{xs:List V}(I:Inv X pins σ H s) (h:H p=some (.lst xs)) :
  ∃(its:List Value) (n:Nat),Vals xs its/\s.heap.get? p=some { cls:=.type "list",data:=.seq its.toArray n }/\xs.length<=sizeLine:=by
 obtain⟨z,its,n,r,e⟩:=I.hok p _ h;exact⟨its,n,r,e,z⟩
theorem Inv.lstUpd {pins:List (Addr×Obj)}{σ:St}{H:Hp}{s:Shared}{p:Addr}{xs ys:List V}{its its':List Value}{n n':Nat}{f:Obj->Obj}(I:Inv X pins σ H s) (h:H p=some (.lst xs))
  (ho:s.heap.get? p=some { cls:=.type "list",data:=.seq its.toArray n }) (hf:f { cls:=.type "list",data:=.seq its.toArray n }={ cls:=.type "list",data:=.seq its'.toArray n' }) (r:Vals ys its') (hz:ys.length<=sizeLine) (t:Nat) :
  Inv X pins σ (upd H p (.lst ys)) { s with heap:=s.heap.update p f,toks:=t }:=by
 have e:(s.heap.update p f).get? p=some { cls:=.type "list",data:=.seq its'.toArray n' }:=by
  rw[Heap.get?_update_self f ho (by rw[hf] <;> rfl),hf]
 refine I.write (x:=p) (e:=p) (by rw[h];trivial) (.inl rfl) (λb u hb q=>(Heap.get?_update_other _ _ (Ne.symm hb)).trans q) ⟨_,e⟩ ?_
 exact⟨hz,its',n',r,e⟩
noncomputable def Zbw:V->V->V->Hp->(Hp->Prop)->Prop:=λo i v H Q=>∃p xs k j,o=.ref p/\i=.int k/\H p=some (.lst xs)/\ixN xs.length k=some j/\Q (upd H p (.lst (xs.set j v)))
theorem uN:PSet X Zbw:=by
 intro pins s σ H o i v ov iv u Q I ro ri rv h;obtain⟨p,xs,k,j,rfl,rfl,hp,hj,q⟩:=h;cases ro;obtain⟨t,rfl⟩:=ri;obtain⟨its,n,r,ho,hz⟩:=I.lst hp;obtain⟨h1,h2,h3,h4⟩:=y6 hj;have hl:=r.length;have hn:=line63;have I':Inv X pins σ (upd H p (.lst (xs.set j v))) { s with heap:=s.heap.update p (Obj.mapSeq (·.setIfInBounds j u)) }:=
  I.lstUpd hp ho (zu its n j u) (r.set rv j) (by rw[PV];exact hz) s.toks
 by_cases h0:0<=k
 ·have hk:k.toNat=j:=by
   rw[seqIndex_of h0 h4] at h1;exact Pb h1
  exact PySem.W.ki_setAt ho h0 (by omega) (by rw[Pf,<-hl];exact h4) (by rw[hk];exact⟨_,I',q⟩)
 ·have hk:(k+(its.toArray.size:Int)).toNat=j:=by
   rw[seqIndex_neg (by omega) h3] at h1
   rw[Pf,<-hl];exact Pb h1
  exact PySem.W.ki_setBack ho (by omega) (by rw[Pf,<-hl];exact h3) (by omega) (by rw[hk];exact⟨_,I',q⟩)
theorem JH (lo hi:Option Int) (n:Nat):(sliceBounds lo hi none n).1=((HT.sIx n 0 lo:Nat):Int)/\(sliceBounds lo hi none n).2.1=((HT.sIx n n hi:Nat):Int)/\(sliceBounds lo hi none n).2.2=1:=by
 refine⟨?_,?_,rfl⟩
 ·cases lo with
  |none=>simp[sliceBounds,HT.sIx]
  |some i=>
   simp only[sliceBounds,HT.sIx,Option.getD_none,show (1:Int)>0 by decide,NM]
   by_cases h:i<0
   ·simp only[h,NM] <;> omega
   ·simp only[h,Np] <;> omega
 ·cases hi with
  |none=>simp[sliceBounds,HT.sIx]
  |some i=>
   simp only[sliceBounds,HT.sIx,Option.getD_none,show (1:Int)>0 by decide,NM]
   by_cases h:i<0
   ·simp only[h,NM] <;> omega
   ·simp only[h,Np] <;> omega
theorem U6 (its:List Value) (lo hi:Option Int):slicePick its.toArray lo hi none=((its.drop (HT.sIx its.length 0 lo)).take (HT.sIx its.length its.length hi-HT.sIx its.length 0 lo)).toArray:=by
 obtain⟨h1,h2,h3⟩:=JH lo hi its.toArray.size;unfold slicePick;rw[h1,h2,h3];simp only[sliceRange_one,pick_run,Pf] <;> rfl
noncomputable def Zcy (K:PySem.W.Frag):V->Option Int->Option Int->Hp->VK->Prop:=λx lo hi H Q=>∃a xs,x=.ref a/\SqL K H a xs/\∀p,H p=none->Q (.ref p) (upd H p (.lst (Xj xs lo hi)))
theorem jI:SlR X (Zcy X.K):=by
 intro pins s σ H x v vl vu lo hi sl Q I rx hs pl pu h;obtain⟨a,xs,rfl,hx,q⟩:=h;cases rx;obtain⟨its,r,ht,hz⟩:=I.list hx;have hlen:=r.length;refine⟨"list",_,slot_list_getitem.lookup,ht.isList.typeIs,?_⟩;refine wpAny_getItem_list_slice ht.isList hs pl pu .none (by simp) ?_ (by rw[Pf] <;> omega)
 rw[U6,<-hlen];refine⟨.ref s.heap.objs.size,_,I.laid (t':=s.toks) (o:=.lst (Xj xs lo hi)) (λb ob q=>Pg _ q) (Pl _) ?_,rfl,q _ (I.hok.fresh (Pl _))⟩
 exact⟨P0 (VL xs lo hi) hz,_,0,(r.drop (HT.sIx xs.length 0 lo)).take (HT.sIx xs.length xs.length hi-HT.sIx xs.length 0 lo),Px _ rfl⟩
noncomputable def yL:V->Bool
 |.non=>true
 |.bl _=>true
 |.int _=>true
 |.str _=>true
 |_=>false
noncomputable def eqV:V->V->Bool
 |.non,.non=>true
 |.bl a,.bl b=>a == b
 |.bl a,.int b=>(if a then 1 else 0) == b
 |.int a,.bl b=>a == (if b then 1 else 0)
 |.int a,.int b=>a == b
 |.str a,.str b=>a == b
 |_,_=>false
theorem Zbj {A:Around}{s:Shared}{y x:V}{u v:Value}(ry:ZD y u) (rx:ZD x v) (fy:yL y=true) (fx:yL x=true):SeqAt.EqAt A s u v (eqV y x):=by
 cases y with
 |non=>
  cases ry;cases x with
  |non=>cases rx;exact SeqAt.EqAt.same _
  |bl b=>cases rx;exact SeqAt.EqAt.none_bool b
  |int b=>obtain⟨t,rfl⟩:=rx;exact SeqAt.EqAt.none_int b t
  |str b=>obtain⟨t,rfl⟩:=rx;exact SeqAt.EqAt.none_str b t
  |_=>exact absurd (show false=true from fx) Pr
 |bl a=>
  cases ry;cases x with
  |non=>cases rx;exact SeqAt.EqAt.bool_none a
  |bl b=>cases rx;exact SeqAt.EqAt.bool_bool a b
  |int b=>obtain⟨t,rfl⟩:=rx;exact SeqAt.EqAt.bool_int a b t
  |str b=>obtain⟨t,rfl⟩:=rx;exact SeqAt.EqAt.bool_str a b t
  |_=>exact absurd (show false=true from fx) Pr
 |int a=>
  obtain⟨t',rfl⟩:=ry;cases x with
  |non=>cases rx;exact SeqAt.EqAt.int_none a t'
  |bl b=>cases rx;exact SeqAt.EqAt.int_bool a t' b
  |int b=>obtain⟨t,rfl⟩:=rx;exact SeqAt.EqAt.int_int a t' b t
  |str b=>obtain⟨t,rfl⟩:=rx;exact SeqAt.EqAt.int_str a t' b t
  |_=>exact absurd (show false=true from fx) Pr
 |str a=>
  obtain⟨t',rfl⟩:=ry;cases x with
  |non=>cases rx;exact SeqAt.EqAt.str_none a t'
  |bl b=>cases rx;exact SeqAt.EqAt.str_bool a t' b
  |int b=>obtain⟨t,rfl⟩:=rx;exact SeqAt.EqAt.str_int a t' b t
  |str b=>obtain⟨t,rfl⟩:=rx;exact SeqAt.EqAt.str_str a t' b t
  |_=>exact absurd (show false=true from fx) Pr
 |_=>exact absurd (show false=true from fy) Pr
theorem Jj:ZJ X (.builtin "len") (λxs H Q=>∃p ys,xs=[.ref p]/\(SqL X.K H p ys\/SqT X.K H p ys)/\Q (.int ys.length) H):=by
 intro pins s σ H xs us Q I r h;obtain⟨p,ys,rfl,hq,q⟩:=h;obtain⟨u,rfl,rx⟩:=vals1 r;cases rx;have hn:=line63;rcases hq with hq | hq
 ·obtain⟨its,r',pl,hz⟩:=I.list hq
  have hlen:=r'.length;exact Calls.call_len_list pl.isList (by simp only[Pf] <;> omega) ⟨.int ys.length,H,I.tok _,⟨s.toks+1,by rw[Pf,hlen]⟩,q⟩
 ·obtain⟨its,r',pl,hz⟩:=I.tuple hq
  have hlen:=r'.length;exact len_tuple pl (by simp only[Pf] <;> omega) ⟨.int ys.length,H,I.tok _,⟨s.toks+1,by rw[Pf,hlen]⟩,q⟩
theorem JU:ZJ X (.type "list") (λxs H Q=>∃p ys,xs=[.ref p]/\(SqL X.K H p ys\/SqT X.K H p ys)/\∀l,H l=none->Q (.ref l) (upd H l (.lst ys))):=by
 intro pins s σ H xs us Q I r h;obtain⟨p,ys,rfl,hq,q⟩:=h;obtain⟨u,rfl,rx⟩:=vals1 r;cases rx;have fin:∀(its:List Value),Vals ys its->ys.length<=sizeLine->∀(h':Heap) (c':Nat),(∀b o',s.heap.get? b=some o'->h'.get? b=some o')->
   h'.get? s.heap.objs.size=some { cls:=.type "list",dict:=none,data:=.seq its.toArray c',slots:=#[] }->EP X pins σ Q (.ref s.heap.objs.size) { s with heap:=h' }:=λits r' hz h' c' kp e=>
  ⟨.ref s.heap.objs.size,_,I.laid (t':=s.toks) kp (Pl _) (show ZR X.prog X.w _ h' _ (.lst ys) from ⟨hz,its,c',r',e⟩),rfl,q _ (I.hok.fresh (Pl _))⟩
 rcases hq with hq | hq
 ·obtain⟨its,r',pl,hz⟩:=I.list hq
  have hlen:=r'.length;obtain⟨o,ho,hc,n,hd⟩:=pl.isList;exact call_list_seq p (.inl rfl) ho hc hd (λh' c' kp e=>fin its r' hz h' c' kp e) (by simp only[Pf] <;> omega)
 ·obtain⟨its,r',pl,hz⟩:=I.tuple hq
  have hlen:=r'.length;obtain⟨o,ho,hc,n,hd⟩:=pl;exact call_list_seq p (.inr rfl) ho hc hd (λh' c' kp e=>fin its r' hz h' c' kp e) (by simp only[Pf] <;> omega)
theorem U3:ZJ X (.type "tuple") (λxs H Q=>∃p ys,xs=[.ref p]/\((SqL X.K H p ys/\∀l,H l=none->Q (.ref l) (upd H l (.tup ys)))\/(SqT X.K H p ys/\Q (.ref p) H))):=by
 intro pins s σ H xs us Q I r h;obtain⟨p,ys,rfl,h⟩:=h;obtain⟨u,rfl,rx⟩:=vals1 r;cases rx;rcases h with ⟨hq,q⟩ | ⟨hq,q⟩
 ·obtain⟨its,r',pl,hz⟩:=I.list hq
  have hlen:=r'.length;refine call_tuple_list pl.isList (λh' kp=>?_) (by simp only[Pf] <;> omega)
  have I1:Inv X pins σ H { s with heap:=h' }:=I.kept (t':=s.toks) kp
  have I2:Inv X pins σ (upd H h'.objs.size (.tup ys)) { s with heap:=h'.push { cls:=.type "tuple",data:=.seq its.toArray } }:=
   I1.laid (t':=s.toks) (λb o e=>Pg _ e) (Pl _) (show ZR X.prog X.w _ _ _ (.tup ys) from ⟨hz,its,r',IsTup.new _ _⟩)
  exact⟨.ref h'.objs.size,_,I2,rfl,q _ (I1.hok.fresh (Pl _))⟩
 ·obtain⟨its,r',pl,hz⟩:=I.tuple hq
  exact call_tuple_same pl ⟨.ref p,H,I,rfl,q⟩
def tyV (K:PySem.W.Frag) (T:String) (x:V) (H:Hp):Prop:=match x with
 |.str _=>T = "str"
 |.int _=>T = "int"
 |.ref p=>(T = "list"/\∃xs,SqL K H p xs)\/(T = "tuple"/\∃o,K.lookup p=some o/\o.cls=.type "tuple"/\o.dict=none)\/
   (T = "dict"/\((∃kvs,H p=some (.dK kvs))\/∃kvs,H p=some (.dT kvs)))\/(T = "set"/\∃S n,H p=some (.set S n))
 |_=>False
theorem ZaF {pins:List (Addr×Obj)}{σ:St}{H:Hp}{s:Shared}{T:String}{x:V}{v:Value}(I:Inv X pins σ H s) (r:ZD x v) (ty:tyV X.K T x H) :
  s.TypeIs v T/\∀a,v=.ref a->∃ob,s.heap.get? a=some ob/\ob.dict=none:=by
 cases x with
 |str z=>
  obtain⟨t,rfl⟩:=r;cases (show T = "str" from ty)
  exact⟨typeIs_str s z t,λ_ e=>nomatch e⟩
 |int i=>
  obtain⟨t,rfl⟩:=r;cases (show T = "int" from ty)
  exact⟨typeIs_int s i t,λ_ e=>nomatch e⟩
 |ref p=>
  cases r;rcases ty with ⟨rfl,xs,hq⟩ | ⟨rfl,o,hk,hc,hd⟩ | ⟨rfl,hk⟩ | ⟨rfl,S,n,hk⟩
  ·obtain⟨its,_,pl,_⟩:=I.list hq
   refine⟨pl.isList.typeIs,λa e=>?_⟩
   cases e;obtain⟨o,n,e,c,hd,_⟩:=pl;exact⟨o,e,hd⟩
  ·refine⟨⟨o,I.kIn p o hk,hc⟩,λa e=>?_⟩
   cases e;exact⟨o,I.kIn _ o hk,hd⟩
  ·have z:∃o,s.heap.get? p=some o/\o.ExactDict:=by
    rcases hk with ⟨kvs,hk⟩ | ⟨kvs,hk⟩
    ·obtain⟨_,_,_,_,o,_,_,e,ex,_⟩:=I.hok p _ hk
     exact⟨o,e,ex⟩
    ·obtain⟨_,_,_,_,o,_,_,e,ex,_⟩:=I.hok p _ hk
     exact⟨o,e,ex⟩
   obtain⟨o,e,ex⟩:=z;refine⟨⟨o,e,ex.1⟩,λa e2=>?_⟩
   cases e2;exact⟨o,e,ex.2.1⟩
  ·obtain⟨o,_,_,_,e,ex,_⟩:=I.hok p _ hk
   refine⟨⟨o,e,ex.1⟩,λa e2=>?_⟩
   cases e2;exact⟨o,e,ex.2.1⟩
 |_=>exact False.elim ty
noncomputable def tBM (K:PySem.W.Frag) (T:String) (r:V->List V->Hp->VK->Prop) (to:TE) (t:TA):TE:=λσ H Q=>to σ H λx H1=>tyV K T x H1/\t σ H1 λxs H2=>r x xs H2 Q
variable {o e:Expr}{es:List Expr}{to:TE}{t:TA}{name:Str}{apos cpos:Pos}{T id:String}{r:V->List V->Hp->VK->Prop}
theorem Zb3 (pa:PlainAttrs T) (slot:Slot T name id) (hty:typeOf (.builtin id)=pure (.type "method_descriptor")) (hm:MtR X id r) (ho:PE X o to) (ha:PA X (e::es) t)
  (hbase:attributeBase o name X.env (eval o X.env)=eval o X.env:=by rfl)
  (hfew:((backTo cpos (starEach (e::es) X.env)).all (λx=>!x.1)&&(backToKw cpos (keywordEach [] X.env)).all (λx=>x.1.isSome)
   && decide ((e::es).length+([]:List Keyword).length+(if ([]:List Keyword).isEmpty then 0 else 1)<30))=true:=by rfl)
  (hline:(apos.endLine == cpos.line)=true:=by rfl) (hs:starEach (e::es) X.env=(false,eval e X.env)::starEach es X.env:=by rfl) (hplain:(backTo cpos (starEach es X.env)).any (·.1)=false:=by rfl) :
  PE X (.Call (.Attribute o name apos) (e::es) [] cpos) (tBM X.K T r to t):=by
 intro pins s σ H Q I h;refine wpAny_Call_method_late hbase hfew hline rfl (thn (ho pins s σ H _ I h) λv s1 ⟨x,H1,I1,r1,ty,q1⟩=>?_)
 obtain⟨h1,h2⟩:=ZaF I1 r1 ty;refine⟨T,id,pa,slot,hty,h1,h2,?_⟩;have hA:=ha cpos pins s1 σ H1 _ I1 q1;rw[hs] at hA ⊢;refine Calls.callWith_builtin (by show (false||(backTo cpos (starEach es X.env)).any (·.1))=false;rw[hplain] <;> rfl) (Calls.evalArgs_plain ?_)
 exact thn hA λus s2 ⟨vs,H2,I2,r2,q2⟩=>hm pins s2 σ H2 x vs v us Q I2 r1 r2 q2
end
def MtM (X:Cx) (id:String) (r:V->List V->Hp->VK->Prop):Prop:=
 ∀(pins:List (Addr×Obj)) (s:Shared) (σ:St) (H:Hp) (x:V) (xs:List V) (v:Value) (us:List Value) (Q:VK),Inv X pins σ H s->ZD x v->Vals xs us->r x xs H Q->
  wpAny (model X.prog X.w) X.A (call (.builtin id) (v::us)) (EP X pins σ Q) X.xe s
theorem Vals.one:∀{x:V}{us:List Value},Vals [x] us->∃u,us=[u]/\ZD x u
 |_,_,.cons r .nil=>⟨_,rfl,r⟩
theorem Vals.rep {xs:List V}{us:List Value}(h:Vals xs us):∀k:Nat,Vals (List.replicate k xs).flatten (List.replicate k us).flatten
 |0=>.nil
 |k+1=>by
  rw[PZ,PZ,P6,P6];exact Vals.append h (Vals.rep h k)
theorem VA (its:List Value):∀(k:Nat) (acc:List Value),
  List.foldl (λx1 x2=>x1++x2) acc.toArray (List.replicate k its.toArray)=(acc++(List.replicate k its).flatten).toArray
 |0,acc=>by simp
 |k+1,acc=>by
  have e:acc.toArray++its.toArray=(acc++its).toArray:=by simp
  have e2:(acc++its)++(List.replicate k its).flatten=acc++(List.replicate (k+1) its).flatten:=by
   rw[PZ,P6,List.append_assoc]
  rw[<-e2,<-VA its k (acc++its),<-e,PZ,List.foldl_cons]
section
variable {X:Cx}{pins:List (Addr×Obj)}{σ:St}{H:Hp}{s:Shared}{l b:Addr}{xs ys zs:List V}
theorem Inv.lset {its its':List Value}{n:Nat}{f:Array Value->Array Value}{t':Nat}(I:Inv X pins σ H s) (hH:H l=some (.lst xs))
  (e:s.heap.get? l=some { cls:=.type "list",data:=.seq its.toArray n }) (hf:f its.toArray=its'.toArray) (hv:Vals ys its') (hz:ys.length<=sizeLine) :
  Inv X pins σ (upd H l (.lst ys)) { s with heap:=s.heap.update l (Obj.mapSeq f),toks:=t' }:=by
 have q:=PySem.IsL.update e f;rw[hf] at q;refine I.write (x:=l) (e:=l) (by rw[hH];exact trivial) (.inl rfl) (λb' u hb hu=>(Heap.get?_update_other s.heap (Obj.mapSeq f) (Ne.symm hb)).trans hu) ⟨_,q⟩ ?_
 exact⟨hz,its',_,hv,q⟩
theorem Inv.lnew {its:List Value}{t':Nat}(I:Inv X pins σ H s) (hv:Vals ys its) (hz:ys.length<=sizeLine) :
  Inv X pins σ (upd H s.heap.objs.size (.lst ys)) { s with heap:=s.heap.push { cls:=.type "list",data:=.seq its.toArray },toks:=t' }:=
 I.laid (λ_ _ q=>Pg _ q) (Pl _) ⟨hz,its,0,hv,Px _ rfl⟩
theorem Inv.fresh (I:Inv X pins σ H s):H s.heap.objs.size=none:=I.hok.fresh (Pl _)
theorem Inv.lstM (I:Inv X pins σ H s) (hH:H l=some (.lst xs)):xs.length<=sizeLine/\∃(its:List Value) (n:Nat),Vals xs its/\xs.length=its.length/\s.heap.get? l=some { cls:=.type "list",data:=.seq its.toArray n }:=by
 obtain⟨z,its,n,r,e⟩:=I.hok l _ hH;exact⟨z,its,n,r,r.length,e⟩
theorem u9 {n:Nat}(h:n<=sizeLine):Builtin.List.listTooLong n=false:=by
 unfold Builtin.List.listTooLong;exact P1 (by omega)
end
section
variable {X:Cx}
noncomputable def jT:V->List V->Hp->VK->Prop:=λx vs H Q=>∃l xs y,x=.ref l/\vs=[y]/\H l=some (.lst xs)/\xs.length<sizeLine/\Q .non (upd H l (.lst (xs++[y])))
theorem wF:MtM X "list.append" jT:=by
 intro pins s σ H x vs v us Q I rx rv h;obtain⟨l,xs,y,rfl,rfl,hH,hz,q⟩:=h;cases rx;obtain⟨u,rfl,ru⟩:=rv.one;obtain⟨z,its,n,r,hl,e⟩:=I.lstM hH;refine call_meets F.slot_list_append ⟨_,e,rfl⟩ F.entry_list_append (F.args_list_append_2 _ _) (PySem.list_append l its.toArray n u (by rw[Pf];omega)) ⟨e,?_⟩
 refine⟨.non,_,I.lset (its':=its++[u]) hH e (by simp) (r.append (.cons ru .nil)) ?_,rfl,q⟩
 rw[PM,Nb];omega
noncomputable def jR:V->List V->Hp->VK->Prop:=λx vs H Q=>∃l b xs zs,x=.ref l/\vs=[.ref b]/\H l=some (.lst xs)/\H b=some (.lst zs)/\xs.length+zs.length<=sizeLine/\Q .non (upd H l (.lst (xs++zs)))
theorem x9:MtM X "list.extend" jR:=by
 intro pins s σ H x vs v us Q I rx rv h;obtain⟨l,b,xs,zs,rfl,rfl,hH,hB,hz,q⟩:=h;cases rx;obtain⟨u,rfl,ru⟩:=rv.one;cases ru;obtain⟨z,its,n,r,hl,e⟩:=I.lstM hH;obtain⟨z2,its2,n2,r2,hl2,e2⟩:=I.lstM hB;have hsz:its.toArray.size+its2.toArray.size<=sizeLine:=by rw[Pf,Pf];omega
 have hlong:¬(!its.toArray.isEmpty&&Builtin.List.listTooLong (its.toArray.size+its2.toArray.size))=true:=by
  rw[u9 hsz,Bool.and_false];exact Pr
 refine call_meets F.slot_list_extend ⟨_,e,rfl⟩ F.entry_list_extend (F.args_list_extend_2 _ _)
  (AutoSeq1.list_extend_list_list_0 l its.toArray n b its2.toArray n2 hlong (by rw[Pf];omega) (by omega)) ⟨e,e2,?_⟩
 refine⟨.non,_,I.lset (its':=its++its2) hH e (by simp) (r.append r2) ?_,rfl,q⟩
 rw[PM];omega
noncomputable def ZbA:R2:=λx y H Q=>∃l b xs zs,x=.ref l/\y=.ref b/\H l=some (.lst xs)/\H b=some (.lst zs)/\xs.length+zs.length<=sizeLine/\∀p,H p=none->Q (.ref p) (upd H p (.lst (xs++zs)))
theorem Za2:OpR X (binaryOp .Add) ZbA:=by
 intro pins s σ H x y v u Q I rx ry h;obtain⟨l,b,xs,zs,rfl,rfl,hH,hB,hz,q⟩:=h;cases rx;cases ry;obtain⟨z,its,n,r,hl,e⟩:=I.lstM hH;obtain⟨z2,its2,n2,r2,hl2,e2⟩:=I.lstM hB;refine PySem.P.add_list e e2 ?_ (by rw[Pf,Pf];omega)
 have ea:its.toArray++its2.toArray=(its++its2).toArray:=by simp
 rw[ea];exact⟨.ref _,_,I.lnew (t':=s.toks) (r.append r2) (by rw[PM];omega),rfl,q _ I.fresh⟩
theorem Ju {α:Type}(xs:List α) (k:Nat):(List.replicate k xs).flatten.length=k*xs.length:=by
 induction k with
 |zero=>simp
 |succ k ih=>rw[PZ,P6,PM,ih,Nat.succ_mul,Nat.add_comm]
end
end L2
namespace Att
open PySem PySem.W PySem.Calls PyProof.Rows
theorem VT {P:Params}{h:Heap}:∀(ns:List Int) (vs:List Value),WellAll P h vs (ns.map WData.int)->IntsAre vs ns:=by
 intro ns
 induction ns with
 |nil=>
  intro vs w;rw[List.map_nil] at w;cases w;exact .nil
 |cons n ns ih=>
  intro vs w;rw[PL] at w;cases w with
  |cons a b=>
   cases a;exact .cons _ _ (ih _ b)
theorem wz {l:OpenLaw}{n:Nat}(hn:l.most=some n) {P:Params}{h:Heap}{args:List WData}{vals:List Value}
  (hpre:l.row.toRowW.claim.pre args=true) (hwl:WellAll P h vals args) :
  ∃a vs ns,vals=[Value.ref a]/\args=[WData.list (ns.map WData.int)]/\h.get? a=some { cls:=.type "list",data:=.seq vs.toArray }/\IntsAre vs ns/\ns.length<=n:=by
 have hsh:WShape.hasAll [] args [.list .int]=true:=(pre_splitW hpre).1;have hc:l.pre.holds [] { args:=args }=true:=(pre_splitW hpre).2;obtain⟨d,r,rfl,h1,h2⟩:=hasAllW_cons hsh;obtain rfl:=hasAllW_nil h2;obtain⟨xs,rfl,h3⟩:=hasW_list h1;obtain⟨ns,rfl⟩:=items_int h3;have hlen:ns.length<=n:=by
  unfold OpenLaw.pre at hc;have h4:(WTm.not (.lt (.lit (.int (n:Int))) (.len (.arg 0)))).holds [] { args:=[.list (ns.map .int)] }=true:=by
   have h4:=(holds_andW hc).1;rw[hn] at h4;exact h4
  have h5:=condW_of h4 (w_not (w_lt w_lit (w_len_list (w_arg rfl))));rw[Pk] at h5;refine Nat.le_of_not_lt λq=>?_
  have q':(n:Int)<((ns.length:Nat):Int):=by omega
  first
   |(rw[PD q'] at h5;exact absurd h5 (by decide))
   |(simp at h5;omega)
 cases hwl with
 |cons w1 w2=>
  cases w2;cases w1 with
  |list ho hall=>exact⟨_,_,ns,rfl,rfl,ho,VT ns _ hall,hlen⟩
theorem wn (l:OpenLaw) (args:List WData):l.row.toRowW.claim.post args (.bool true) args=true:=
 postW_of (r:=l.row.toRowW) (X:=(true == true))
  (show WShape.has [] (.bool true) .bool=true by first | rfl | decide | simp[WShape.has,WShape.arms,WShape.armsAll])
  (show (WTm.eq .res (.lit (.bool true))).value [] { args:=args,res:=some (.bool true),after:=args }=some (.bool (true == true)) from w_eq_bool (w_res rfl) w_lit) rfl
theorem zc {l:OpenLaw}{n:Nat}{q:Program}{loose:List Str}{XP:(Str->Option Value)->Heap->Prop}{YP:World->Heap->Prop}{d:DefRec}
  (hn:l.most=some n) (hdf:d.params.defaults=[])
  (call:∀(w:World) (s₀ s₁:Shared) (mg mb:Str->Option Value) (fa:Addr) (o:Obj) (pm cd doc:Value) (a:Addr) (vs:List Value) (ns:List Int),
   Ground q loose [] XP w s₀ mg mb s₁.heap->YP w s₁.heap->
   s₁.heap.get? fa=some o->o.data=.func (docDef d.name d.params d.body d.scope pm cd doc)->s₁.heap.CodeRec cd d.name->mg d.name=some (.ref fa)->
   s₁.heap.get? a=some { cls:=.type "list",data:=.seq vs.toArray }->IntsAre vs ns->ns.length<=n->s₁.gens = #[]->
   codeAny (model l.prog w) callerA (.call (.ref fa) ⟨[.ref a],[]⟩) (λr s'=>r=.ok (.ret (.bool true))/\OldK s₁.heap s'.heap/\s'.os=s₁.os/\AllBare s'.gens) s₁) :
  WalkO q loose XP YP l.row.toRowW d [] (λf vs=>PySem.call f vs):=by
 intro w s₀ s₁ mg mb G Y fa o pm cd doc dV kV ho hd hcd hD hmg hg args vals as hpre hlay hrd hwl hlo;obtain rfl:dV=.none:=Dflts.none hD hdf;obtain rfl:kV=.none:=Dflts.noKw hD;obtain⟨a,vs,ns,rfl,rfl,hobj,hints,hlen⟩:=wz hn hpre hwl;refine enter_call (codeAny_mono (call w s₀ s₁ mg mb fa o pm cd doc a vs ns G Y ho (fd_plain hd) hcd hmg hobj hints hlen hg) λr s' hq=>?_)
 obtain⟨rfl,h2,h3,h4⟩:=hq;exact⟨.inl ⟨.bool true,.bool true,[],rfl,λ_=>rfl,.bool true,wn l _,λ_=>⟨List.Pairwise.nil,λ_ hm=>(nomatch hm)⟩⟩,h2,h3,h4⟩
end Att
namespace L2
open PySem PySem.Spec PyProof.Rows
theorem Qa:∀{vs:List Value}{ns:List Int},IntsAre vs ns->Vals (ns.map V.int) vs
 |_,_,.nil=>.nil
 |_,_,.cons n t h=>.cons ⟨t,rfl⟩ (Qa h)
def Only (H:Hp):Prop:=∀b,H b=none\/∃o xs,H b=some (.frz o (.lst xs))
theorem law_call {P:Program}{w:World}{K:PySem.W.Frag}{mg mb:Str->Option Value}{CX:CXT}{k:Nat}{fa a:Addr}{fd:FuncData}{x:Str}{sp:Sp}{s₁:Shared}{vs:List Value}{ns:List Int}
  (KX:K.In s₁.heap) (hns:s₁.heap.Ns mainGlobals mg) (hb:s₁.heap.Ns builtinsNs mb) (hbb:∀x:Str,x≠"__name__"->mb x=bootBuiltins x) (hlim:s₁.heap.NoLimit) (hg:s₁.gens = #[])
  (ha:s₁.heap.get? a=some { cls:=.type "list",data:=.seq vs.toArray }) (hi:IntsAre vs ns) (hl:ns.length<=sizeLine) (hr:Room k callerA)
  (F:∀base:Heap,K.In base->base.Ns mainGlobals mg->FnOk P w K mg base CX k fa fd [x] sp) (hbind:∀(s:Shared) (u:Value),BindsTo s fd ⟨[u],[]⟩ [(x,u)])
  (hsp:∀H:Hp,Only H->SqL K H a (ns.map V.int)->sp [.ref a] H (λv _=>v=.bl true) λ_ _ _=>False)
  (hCX:∀H e s',CX [] H s₁ (λ_ _ _=>False) e s'->False) :
  codeAny (model P w) callerA (.call (.ref fa) ⟨[.ref a],[]⟩) (λr s'=>r=.ok (.ret (.bool true))/\OldK s₁.heap s'.heap/\s'.os=s₁.os/\AllBare s'.gens) s₁:=by
 have rv:=Qa hi;have lenV:=hi.length;have core:∀H:Hp,Only H->SqL K H a (ns.map V.int)->HOk P w H s₁.heap->(∀b,H b≠none->b=a)->(H a≠none->K.lookup a=none)->
   codeAny (model P w) callerA (.call (.ref fa) ⟨[.ref a],[]⟩) (λr s'=>r=.ok (.ret (.bool true))/\OldK s₁.heap s'.heap/\s'.os=s₁.os/\AllBare s'.gens) s₁:=by
  intro H hO hS hok hA hK;have base_of:∀{b:Addr} {o:Obj},s₁.heap.get? b=some o->H b=none->(JY s₁.heap H).get? b=some o:=λe n=>uE e n
  have noA:∀{b:Addr} {o:Obj} {es:Array DictEntry} {ep:Nat},s₁.heap.get? b=some o->o.data=.dict es ep->H b=none:=λ{b o es ep} e d=>by
   cases q:H b with
   |none=>rfl
   |some u=>
    have e':b=a:=hA b (by rw[q];simp)
    subst e';rw[ha] at e;cases e;have d':Data.seq vs.toArray _=Data.dict es ep:=d;cases d'
  have nsK:∀{b:Addr} {m:Str->Option Value},s₁.heap.Ns b m->(JY s₁.heap H).Ns b m:=λ{b m} ⟨o,es,ep,e,d,r⟩=>⟨o,es,ep,base_of e (noA e d),d,r⟩
  have hKb:K.In (JY s₁.heap H):=λb o e=>base_of (KX b o e) (by
   cases q:H b with
   |none=>rfl
   |some u=>
    have e':b=a:=hA b (by rw[q];simp)
    subst e';rw[hK (by rw[q];simp)] at e;cases e)
  have hM:Mod K mg (JY s₁.heap H):=⟨hKb,nsK hns,⟨mb,nsK hb,hbb⟩,let ⟨mc,h1,h2⟩:=hlim;⟨mc,nsK h1,h2⟩⟩;have e0:Env0 P w K mg (JY s₁.heap H) callerA [] s₁ H:=⟨rfl,hM,λb o e=>jo e,Nat.le_of_eq (wp _ _),trivial,λb hb=>absurd (show b∈([]:List Addr) from hb) (by simp),hok,.of_eq hg⟩
  refine codeAny_mono ((F _ hKb (nsK hns)).run callerA [] s₁ H ⟨[.ref a],[]⟩ [.ref a] [.ref a] _ _ hr e0 (hbind s₁ (.ref a)) (.cons rfl .nil) (hsp H hO hS)) λr s' h=>?_
  cases r with
  |error e=>exact (hCX H e s' h).elim
  |ok fl=>
   cases fl with
   |next=>exact False.elim h
   |brk=>exact False.elim h
   |cont=>exact False.elim h
   |ret u=>
    obtain⟨v,H',os,bare,un,hok',r',q⟩:=h;have q':v=.bl true:=q;subst q';obtain rfl:u=Value.bool true:=r';refine⟨rfl,OldK.of_keep λb o e=>?_,os,bare⟩
    cases q:H b with
    |none=>exact un.keep b o e q (by intro z;exact absurd (show b∈([]:List Addr) from z) (by simp)) (by simp)
    |some u=>
     rcases hO b with z | ⟨ob,xs,z⟩
     ·rw[q] at z;cases z
     ·have z2:=un.frzs b ob _ z
      obtain⟨e1,_⟩:=hok b _ z;obtain⟨e2,_⟩:=hok' b _ z2;rw[e] at e1;cases e1;exact e2
 cases hk:K.lookup a with
 |some o=>
  have e:=KX a o hk;rw[ha] at e;cases e;refine core (λ_=>none) (λ_=>.inl rfl) (.inr ⟨_,vs.toArray,_,hk,rfl,rfl,rfl,by rw[Pf,lenV];exact hl,by simpa using rv⟩) (λb u z=>by have z':(none:Option HO)=some u:=z;cases z') (λb z=>absurd rfl z) λz=>absurd rfl z
 |none=>
  refine core (λb=>if b=a then some (.frz { cls:=.type "list",data:=.seq vs.toArray } (.lst (ns.map V.int))) else none) (λb=>?_) (.inl (.inr ⟨{ cls:=.type "list",data:=.seq vs.toArray },Ph rfl⟩)) (λb u z=>?_) (λb z=>?_) λ_=>hk
  ·by_cases hb:b=a
   ·exact .inr ⟨_,_,Ph hb⟩
   ·exact .inl (Pi hb)
  ·by_cases hb:b=a
   ·have z':=(Ph hb).symm.trans z
    cases z';subst hb;exact⟨ha,by rw[Pk];exact hl,vs,_,rv,ha⟩
   ·have z':=(Pi hb).symm.trans z
    cases z'
  ·by_cases hb:b=a
   ·exact hb
   ·exact absurd (Pi hb) z
theorem jy {l:PySem.W.OpenLaw}{n k:Nat}{q:Program}{loose:List Str}{XP:(Str->Option Value)->Heap->Prop}{YP:World->Heap->Prop}{d:DefRec}{K:Params->PySem.W.Frag}{CX:World->CXT}{sp:World->Sp}{x:Str}
  (hn:l.most=some n) (hn2:n<=sizeLine) (hdf:d.params.defaults=[]) (hr:Room k callerA)
  (hY:∀(w:World) (h:Heap),YP w h->(K w.params).In h)
  (F:∀(w:World) (mg:Str->Option Value) (fa:Addr) (h:Heap),(K w.params).In h->h.Ns mainGlobals mg->mg d.name=some (.ref fa)->
   ∃fd:FuncData,(∀(s:Shared) (u:Value),BindsTo s fd ⟨[u],[]⟩ [(x,u)])/\
    ∀base:Heap,(K w.params).In base->base.Ns mainGlobals mg->FnOk l.prog w (K w.params) mg base (CX w) k fa fd [x] (sp w))
  (hsp:∀(w:World) (H:Hp) (a:Addr) (ns:List Int),ns.length<=n->Only H->SqL (K w.params) H a (ns.map V.int)->sp w [.ref a] H (λv _=>v=.bl true) λ_ _ _=>False)
  (hCX:∀(w:World) (H:Hp) (s:Shared) (e:Value) (s':Shared),CX w [] H s (λ_ _ _=>False) e s'->False) :
  PySem.W.WalkO q loose XP YP l.row.toRowW d [] (λf vs=>PySem.call f vs):=by
 refine Att.zc hn hdf λw s₀ s₁ mg mb fa o pm cd doc a vs ns G Y ho hd hcd hmg hobj hints hlen hg=>?_
 have KX:=hY w _ Y;obtain⟨fd,hb,hF⟩:=F w mg fa _ KX G.T.g hmg;exact law_call KX G.T.g G.T.b G.T.builtins G.T.nolimit hg hobj hints (P0 hlen hn2) hr hF hb (λH hO hS=>hsp w H a ns hlen hO hS) λH e s'=>hCX w H s₁ e s'
noncomputable def YW (s:Stmt):Arguments:=match s with
 |.FunctionDef _ a _ _ _ _ _ _ _ _=>a
 |_=>{ posonlyargs:=[],args:=[],vararg:=none,kwonlyargs:=[],kw_defaults:=[],kwarg:=none,defaults:=[] }
noncomputable def Yt (s:Stmt):List Stmt:=match s with
 |.FunctionDef _ _ b _ _ _ _ _ _ _=>b
 |_=>[]
noncomputable def ZF (s:Stmt):Scope:=match s with
 |.FunctionDef _ _ _ _ _ _ sc _ _ _=>sc
 |_=>{ kind:=.function,names:=[],isGenerator:=false,isCoroutine:=false }
noncomputable abbrev CX0:CXT:=λ_ _ _ _ _ _=>False
noncomputable abbrev E0:XK:=λ_ _ _=>False
theorem pass0 {X:Cx}:Passes CX0 X E0:=λ_ _ _ _ _ _ _ h=>h.elim
structure Fun (K:PySem.W.Frag) (x qual:Str) (st:Stmt) (f:Addr) (fd:FuncData):Prop where
 ex:∃(oc:Value) (od:Option Addr) (kV doc pm:Value) (an:Option Addr) (cdv ct:Value) (osl:Array (Option Value)),
  fd=PySem.W.fnOf x qual (YW st) (Yt st) (ZF st) .none kV doc pm an cdv ct/\K.lookup f=some ⟨oc,od,.func fd,osl⟩/\PySem.W.codeIn K cdv qual=true
 kp:PySem.W.keepIn K (.ref f)=true
section
variable {P:Program}{w:World}{K:PySem.W.Frag}{mg:Str->Option Value}{base:Heap}
theorem Fun.ok {x qual:Str}{st:Stmt}{f:Addr}{fd:FuncData}{N ps:List Str}{k:Nat}{sp:Sp}(F:Fun K x qual st f fd) (S:FnScope N ps (ZF st)) (len:∀vs H Q E,sp vs H Q E->vs.length=ps.length)
  (hbody:∀(cdv:Value) (A:Around) (outer:List Env) (s:Shared) (H:Hp) (vs:List V) (Q:VK) (E:XK),Room k (A.deeper (envOfC qual (ZF st) s.heap.objs.size f cdv))->sp vs H Q E->
   ∃t,PSs (zg CX0 P w K mg base N qual (ZF st) f cdv A outer s H E).nox (Yt st) t/\t { nx:=λ_ H'=>Q .non H',rt:=Q } (start N vs) H):FnOk P w K mg base CX0 (k+1) f fd ps sp:=by
 obtain⟨oc,od,kV,doc,pm,an,cdv,ct,osl,rfl,lk,hcd⟩:=F.ex;refine ZbX lk hcd S len λA outer s H vs Q E hr hsp=>?_
 obtain⟨t,h,q⟩:=hbody cdv A outer s H vs Q E hr hsp;exact⟨t,h.nox,q⟩
theorem Fun.binds {x qual:Str}{st:Stmt}{f:Addr}{fd:FuncData}{ps:List Str}(F:Fun K x qual st f fd)
  (h:∀(kV doc pm:Value) (an:Option Addr) (cdv ct:Value) (us:List Value),us.length=ps.length->bindArgs (PySem.W.fnOf x qual (YW st) (Yt st) (ZF st) .none kV doc pm an cdv ct) ⟨us,[]⟩=pure (ps.zip us)):Binds K fd ps []:=by
 obtain⟨oc,od,kV,doc,pm,an,cdv,ct,osl,rfl,lk,hcd⟩:=F.ex;exact .all (h kV doc pm an cdv ct)
theorem Zaq {x qual:Str}{st:Stmt}{f:Addr}{oc:Value}{od an:Option Addr}{osl:Array (Option Value)}{kV doc pm cdv ct:Value}(l:K.lookup f=some ⟨oc,od,.func (PySem.W.fnOf x qual (YW st) (Yt st) (ZF st) .none kV doc pm an cdv ct),osl⟩)
  (c:PySem.W.codeIn K cdv qual=true) (k:PySem.W.keepIn K (.ref f)=true):Fun K x qual st f (PySem.W.fnOf x qual (YW st) (Yt st) (ZF st) .none kV doc pm an cdv ct):=⟨⟨oc,od,kV,doc,pm,an,cdv,ct,osl,rfl,l,c⟩,k⟩
end
section
variable {κ:Type}[DecidableEq κ]
noncomputable def Vb (kvs:List (κ×V)) (k:κ):Option V:=(kvs.find? λkv=>decide (kv.1=k)).map (·.2)
theorem GY {p:κ×V}{r:List (κ×V)}{k:κ}(e:p.1=k):Vb (p::r) k=some p.2:=by simp[Vb,NU,e]
theorem Gs {p:κ×V}{r:List (κ×V)}{k:κ}(e:¬p.1=k):Vb (p::r) k=Vb r k:=by simp[Vb,NU,e]
theorem zS.isSome_eq {o:Option V}{u:Option Value}(r:zS o u):o.isSome=u.isSome:=by
 cases o with
 |none=>cases u with
  |none=>rfl
  |some _=>exact (show False from r).elim
 |some _=>cases u with
  |none=>exact (show False from r).elim
  |some _=>rfl
theorem KV.val {kvs:List (κ×V)}{vs:List (κ×Value)}(r:KV kvs vs) (k:κ):zS (Vb kvs k) (valueAt vs k):=by
 unfold KV at r
 induction r with
 |nil=>exact True.intro
 |@cons p q ps qs h t ih=>
  obtain⟨h1,h2⟩:=h;by_cases e:p.1=k
  ·have e':q.1=k:=h1.symm.trans e
   have b:valueAt (q::qs) k=some q.2:=by simp[valueAt,NU,e']
   rw[GY e,b];exact h2
  ·have e':¬q.1=k:=λz=>e (h1.trans z)
   have b:valueAt (q::qs) k=valueAt qs k:=by simp[valueAt,NU,e']
   rw[Gs e,b];exact ih
end
theorem uQ {P:Program}{w:World}{k:Key}{u:Value}(r:ZD (kV k) u):(Yr P w).is k u=true:=by
 cases k with
 |inl i=>obtain⟨t,e⟩:=(show ∃t,u=Value.int i t from r);subst e;exact GO P w i t
 |inr x=>obtain⟨t,e⟩:=(show ∃t,u=Value.str x t from r);subst e;exact GZ P w x t
theorem Qz {P:Program}{w:World}:∀{ks:List Key}{us:List Value},Vals (ks.map kV) us->ItemsAre (Yr P w) ks us
 |[],_,r=>by rw[List.map_nil] at r;cases r;exact .nil
 |k::ks,_,r=>by
  rw[PL] at r;cases r with
  |cons h t=>exact .cons (uQ h) (Qz t)
noncomputable abbrev KT (H:Hp):List (List Key×V)->List (List Key×Addr×Value)->Prop:=Paired λp q=>p.1=q.1/\H q.2.1=some (.tup (p.1.map kV))/\ZD p.2 q.2.2
theorem KT.val {H:Hp}{kvs:List (List Key×V)}{xs:List (List Key×Addr×Value)}(r:KT H kvs xs) (k:List Key):zS (Vb kvs k) ((atKey xs k).map (·.2)):=by
 induction r with
 |nil=>exact True.intro
 |@cons p q ps qs h t ih=>
  obtain⟨h1,_,h2⟩:=h;by_cases e:p.1=k
  ·have e':q.1=k:=h1.symm.trans e
   have b:atKey (q::qs) k=some q.2:=by simp[atKey,NU,e']
   rw[GY e,b];exact h2
  ·have e':¬q.1=k:=λz=>e (h1.trans z)
   have b:atKey (q::qs) k=atKey qs k:=by simp[atKey,NU,e']
   rw[Gs e,b];exact ih
section
variable {P:Program}{w:World}{H:Hp}{h:Heap}{a:Addr}
theorem Zaf {u:HO}(ok:HOk P w H h) (e:Rd H a u):ZR P w H h a u:=e.ok ok
theorem j3 {kvs:List (Key×V)}(ok:HOk P w H h) (e:Rd H a (.dK kvs)):kvs.length<=sizeLine/\(a == sysModules)=false/\∃vs,KV kvs vs/\h.DictOf (Yr P w) a vs:=
 show ZR P w H h a (.dK kvs) from Zaf ok e
theorem zV {ks:List Key}(ok:HOk P w H h) (e:H a=some (.tup (ks.map kV))):(tupleKind (Yr P w)).is h ks a:=by
 obtain⟨_,its,r,o,h1,h2,n,h3⟩:=(show ZR P w H h a (.tup (ks.map kV)) from ok a _ e)
 exact⟨o,its.toArray,n,h1,h2,h3,by simpa using Qz r⟩
theorem j4 {kvs:List (List Key×V)}(ok:HOk P w H h) (e:Rd H a (.dT kvs)):kvs.length<=sizeLine/\(a == sysModules)=false/\
  ∃xs,KT H kvs xs/\h.DictOfH (tupleKind (Yr P w)) a xs:=by
 obtain⟨z,y,xs,r,o,es,ep,h1,h2,h3,h4,h5⟩:=(show ZR P w H h a (.dT kvs) from Zaf ok e)
 refine⟨z,y,xs,r,o,es,ep,h1,h2,h3,h4,λx hx=>?_,h5⟩
 have all:∀{l:List (List Key×V)} {m:List (List Key×Addr×Value)},KT H l m->∀x∈m,(tupleKind (Yr P w)).is h x.1 x.2.1:=by
  intro l m q
  induction q with
  |nil=>intro x hx;exact nomatch hx
  |@cons p q ps qs hq t ih=>
   intro x hx;rcases Po.mp hx with e | hx
   ·subst e
    exact zV ok (by rw[<-hq.1];exact hq.2.1)
   ·exact ih x hx
 exact all r x hx
end
def DGet (H:Hp) (a:Addr) (y:V) (r:Option V):Prop:=
 (∃kvs k,Rd H a (.dK kvs)/\y=kV k/\r=Vb kvs k)\/∃kvs k b,Rd H a (.dT kvs)/\y=.ref b/\H b=some (.tup (k.map kV))/\r=Vb kvs k
theorem DGet.t {H:Hp}{a b:Addr}{kvs:List (List Key×V)}{k:List Key}(e:H a=some (.dT kvs)) (eb:H b=some (.tup (k.map kV))):DGet H a (.ref b) (Vb kvs k):=.inr ⟨kvs,k,b,.inl e,rfl,eb,rfl⟩
section
variable {X:Cx}{pins:List (Addr×Obj)}{σ:St}{H:Hp}{s:Shared}{a:Addr}{y v:V}{u r:Value}{o:Option V}{A:Around}{E:Value->Shared->Prop}
theorem Zcp {Q:Value->Shared->Prop}(hu:A.units+1<cLine) (I:Inv X pins σ H s) (g:DGet H a y o) (ry:ZD y u) (h:∀s',Inv X pins σ H s'->Q (.bool o.isSome) s') :
  wpAny (model X.prog X.w) A (compareOp .In u (.ref a)) Q E s:=by
 rcases g with ⟨kvs,k,e,ey,l⟩ | ⟨kvs,k,b,e,ey,eb,l⟩
 ·subst ey
  obtain⟨z,hd,vs,rel,dd⟩:=j3 I.hok e;refine wpAny_in_of (uQ ry) hd dd.mapOf ?_;rw[<-(rel.val k).isSome_eq,<-l];exact h _ (I.tok _)
 ·subst ey
  cases (show u=Value.ref b from ry)
  obtain⟨z,hd,xs,rel,dd⟩:=j4 I.hok e;refine wpAny_in_heap (tupleKind_room_in1 hu) (zV I.hok eb) hd dd ?_;have q:=(rel.val k).isSome_eq;rw[Option.isSome_map] at q;rw[<-q,<-l];exact h _ (I.tok _)
theorem qk {Q:Value->Shared->Prop}(hu:A.units+1<cLine) (I:Inv X pins σ H s) (g:DGet H a y o) (ry:ZD y u) (h:∀s',Inv X pins σ H s'->Q (.bool (!o.isSome)) s') :
  wpAny (model X.prog X.w) A (compareOp .NotIn u (.ref a)) Q E s:=by
 rcases g with ⟨kvs,k,e,ey,l⟩ | ⟨kvs,k,b,e,ey,eb,l⟩
 ·subst ey
  obtain⟨z,hd,vs,rel,dd⟩:=j3 I.hok e;refine wpAny_notIn_of (uQ ry) hd dd.mapOf ?_;rw[<-(rel.val k).isSome_eq,<-l];exact h _ (I.tok _)
 ·subst ey
  cases (show u=Value.ref b from ry)
  obtain⟨z,hd,xs,rel,dd⟩:=j4 I.hok e;refine wpAny_notIn_heap (tupleKind_room_in1 hu) (zV I.hok eb) hd dd ?_;have q:=(rel.val k).isSome_eq;rw[Option.isSome_map] at q;rw[<-q,<-l];exact h _ (I.tok _)
end
end L2
namespace Ev
open PySem (Str)
inductive D where
 |non | bl (b:Bool) | int (i:Int) | str (x:Str) | tup (xs:List D) | loc (n:Nat) | fn (f:Nat) | exc (c:Nat) (n:Nat)
 deriving Inhabited
mutual
def D.beq:D->D->Bool
 |.non,.non=>true
 |.bl a,.bl b=>decide (a=b)
 |.int a,.int b=>decide (a=b)
 |.str a,.str b=>decide (a=b)
 |.tup a,.tup b=>D.beqs a b
 |.loc a,.loc b=>decide (a=b)
 |.fn a,.fn b=>decide (a=b)
 |.exc a i,.exc b j=>decide (a=b)&&decide (i=j)
 |_,_=>false
def D.beqs:List D->List D->Bool
 |[],[]=>true
 |x::xs,y::ys=>D.beq x y&&D.beqs xs ys
 |_,_=>false
end
mutual
theorem D.eq_of_beq:∀{a b:D},D.beq a b=true->a=b
 |.non,.non,_=>rfl
 |.bl a,.bl b,h=>by unfold D.beq at h;rw[Pw h]
 |.int a,.int b,h=>by unfold D.beq at h;rw[Pw h]
 |.str a,.str b,h=>by unfold D.beq at h;rw[Pw h]
 |.tup a,.tup b,h=>by unfold D.beq at h;rw[D.eq_of_beqs h]
 |.loc a,.loc b,h=>by unfold D.beq at h;rw[Pw h]
 |.fn a,.fn b,h=>by unfold D.beq at h;rw[Pw h]
 |.exc a i,.exc b j,h=>by
  unfold D.beq at h;have h1:=(Pz _ _).mp h;rw[Pw h1.1,Pw h1.2]
 |.non,.bl _,h | .non,.int _,h | .non,.str _,h | .non,.tup _,h | .non,.loc _,h | .non,.fn _,h | .non,.exc _ _,h=>by unfold D.beq at h;cases h
 |.bl _,.non,h | .bl _,.int _,h | .bl _,.str _,h | .bl _,.tup _,h | .bl _,.loc _,h | .bl _,.fn _,h | .bl _,.exc _ _,h=>by unfold D.beq at h;cases h
 |.int _,.non,h | .int _,.bl _,h | .int _,.str _,h | .int _,.tup _,h | .int _,.loc _,h | .int _,.fn _,h | .int _,.exc _ _,h=>by unfold D.beq at h;cases h
 |.str _,.non,h | .str _,.bl _,h | .str _,.int _,h | .str _,.tup _,h | .str _,.loc _,h | .str _,.fn _,h | .str _,.exc _ _,h=>by unfold D.beq at h;cases h
 |.tup _,.non,h | .tup _,.bl _,h | .tup _,.int _,h | .tup _,.str _,h | .tup _,.loc _,h | .tup _,.fn _,h | .tup _,.exc _ _,h=>by unfold D.beq at h;cases h
 |.loc _,.non,h | .loc _,.bl _,h | .loc _,.int _,h | .loc _,.str _,h | .loc _,.tup _,h | .loc _,.fn _,h | .loc _,.exc _ _,h=>by unfold D.beq at h;cases h
 |.fn _,.non,h | .fn _,.bl _,h | .fn _,.int _,h | .fn _,.str _,h | .fn _,.tup _,h | .fn _,.loc _,h | .fn _,.exc _ _,h=>by unfold D.beq at h;cases h
 |.exc _ _,.non,h | .exc _ _,.bl _,h | .exc _ _,.int _,h | .exc _ _,.str _,h | .exc _ _,.tup _,h | .exc _ _,.loc _,h | .exc _ _,.fn _,h=>by unfold D.beq at h;cases h
theorem D.eq_of_beqs:∀{a b:List D},D.beqs a b=true->a=b
 |[],[],_=>rfl
 |x::xs,y::ys,h=>by
  unfold D.beqs at h;have h1:=(Pz _ _).mp h;rw[D.eq_of_beq h1.1,D.eq_of_beqs h1.2]
 |[],_::_,h=>by unfold D.beqs at h;cases h
 |_::_,[],h=>by unfold D.beqs at h;cases h
end
mutual
theorem D.beq_self:∀a:D,D.beq a a=true
 |.non=>rfl
 |.bl a=>by unfold D.beq;exact PD rfl
 |.int a=>by unfold D.beq;exact PD rfl
 |.str a=>by unfold D.beq;exact PD rfl
 |.tup a=>by unfold D.beq;exact D.beqs_self a
 |.loc a=>by unfold D.beq;exact PD rfl
 |.fn a=>by unfold D.beq;exact PD rfl
 |.exc a i=>by unfold D.beq;rw[PD rfl,PD rfl];rfl
theorem D.beqs_self:∀a:List D,D.beqs a a=true
 |[]=>rfl
 |x::xs=>by unfold D.beqs;rw[D.beq_self x,D.beqs_self xs];rfl
end
instance:DecidableEq D:=λa b=>if h:D.beq a b=true then isTrue (D.eq_of_beq h) else isFalse λe=>h (by rw[e];exact D.beq_self b)
inductive Ob where
 |lst (xs:List D) | scr (ns:List Int) | dt (kvs:List (List Int×D)) | dk (kvs:List (Int×D)) | st (xs:List D)
 deriving DecidableEq
noncomputable abbrev Store:=List Ob
noncomputable abbrev Lc:=List (Option D)
inductive R (α:Type) where
 |ok (a:α) (S:Store) | ex (c:Nat) (S:Store) | no
noncomputable def R.bind {α β:Type} (r:R α) (f:α->Store->R β):R β:=match r with
 |.ok a S=>f a S
 |.ex c S=>.ex c S
 |.no=>.no
noncomputable def lim:Nat:=16777216
inductive Bop where | add | sub | mul | fdiv | mod | pow
 deriving DecidableEq
inductive Cop where | eq | ne | lt | le | gt | ge | is | isn | inn | nin
 deriving DecidableEq
inductive Ty where | int | bool | str | tuple | list | dict | cls (c:Nat)
 deriving DecidableEq
inductive Bf where | len | max2 | min2 | toInt | tuple | list | all | any | sum | sorted | sortedR | set | listD | sortedD
 deriving DecidableEq
inductive Mf where | append | extend | index
 deriving DecidableEq
mutual
inductive E where
 |c (d:D) | v (i:Nat)
 |tup (es:List E) | lst (es:List E) | dnew
 |bin (op:Bop) (a b:E) | neg (a:E) | not (a:E) | and (a b:E) | or (a b:E) | ite (t a b:E)
 |cmp (op:Cop) (a b:E) | chain (o p:Cop) (a b d:E)
 |ix (a i:E) | sl (a:E) (lo hi:Option E) | rev (a:E)
 |call (f:Nat) (as:List E) | blt (f:Bf) (as:List E) | mt (m:Mf) (o:E) (as:List E)
 |isi (a:E) (ts:List Ty)
 |inT (a:E) (tab:List (Int×Int)) | getT (tab:List (Int×Int)) (a:E)
 |dput1 (k v:E)
 |comp1 (cap:List Nat) (nl:Nat) (t:List Nat) (it:W) (ifs:List E) (elt:E)
 |comp2 (cap:List Nat) (nl:Nat) (t:List Nat) (it:W) (ifs:List E) (u:List Nat) (jt:W) (jfs:List E) (elt:E)
 |fstr
inductive W where
 |of (e:E) | rng1 (a:E) | rng2 (a b:E) | zip (a b:E) | enum (a:E) | rrng (a b:E)
end
inductive Sm where
 |asg (t:List Nat) (e:E) | par (t:List Nat) (es:List E) | aug (i:Nat) (op:Bop) (e:E) | put (o i e:E) | dput (o i e:E)
 |ret (e:E) | ex (e:E) | ite (t:E) (a b:List Sm) | forr (t:List Nat) (it:W) (b:List Sm) | whl (t:E) (b:List Sm)
 |raise (c:Nat) (as:List E) | pas | brk | cnt
noncomputable def Z2 (S:Store) (n:Nat):Option (List D):=match S[n]? with
 |some (.lst xs)=>some xs
 |some (.scr ns)=>some (ns.map .int)
 |_=>none
noncomputable def Zi (S:Store) (n:Nat):Option (List D):=match S[n]? with
 |some (.lst xs)=>some xs
 |_=>none
noncomputable def truth (S:Store):D->Option Bool
 |.non=>some false
 |.bl b=>some b
 |.int i=>some (decide (i≠0))
 |.tup xs=>some (!xs.isEmpty)
 |.loc n=>(Z2 S n).map λxs=>!xs.isEmpty
 |_=>none
noncomputable def b2i (b:Bool):Int:=if b then 1 else 0
noncomputable def eqL (f:D->D->Option Bool):List D->List D->Option Bool
 |[],[]=>some true
 |x::xs,y::ys=>match f x y,eqL f xs ys with
  |some a,some b=>some (a&&b)
  |_,_=>none
 |_,_=>some false
noncomputable def eqD (S:Store):Nat->D->D->Option Bool
 |0,_,_=>none
 |k+1,x,y=>match x,y with
  |.non,.non=>some true
  |.bl a,.bl b=>some (decide (a=b))
  |.int a,.int b=>some (decide (a=b))
  |.bl a,.int b=>some (decide (b2i a=b))
  |.int a,.bl b=>some (decide (a=b2i b))
  |.str a,.str b=>some (decide (a=b))
  |.tup xs,.tup ys=>eqL (eqD S k) xs ys
  |.loc m,.loc n=>match Zi S m,Zi S n with
   |some xs,some ys=>if xs.length=ys.length then eqL (eqD S k) xs ys else some false
   |_,_=>none
  |.non,.bl _ | .non,.int _ | .non,.str _ | .bl _,.non | .int _,.non | .str _,.non=>some false
  |.bl _,.str _ | .int _,.str _ | .str _,.bl _ | .str _,.int _=>some false
  |_,_=>none
noncomputable def Zk:Nat:=6
noncomputable def inL (S:Store) (x:D):List D->Option Bool
 |[]=>some false
 |y::ys=>match eqD S Zk y x,inL S x ys with
  |some a,some b=>some (a||b)
  |_,_=>none
noncomputable def ZbG (S:Store) (x:D):List D->Nat->Option Nat
 |[],_=>none
 |y::ys,k=>match eqD S Zk y x with
  |some true=>some k
  |some false=>ZbG S x ys (k+1)
  |none=>none
noncomputable def YH:List D->Option (List Int)
 |[]=>some []
 |.int i::r=>(YH r).map (i :: ·)
 |_::_=>none
noncomputable def Ga (S:Store):D->Ty->Option Bool
 |.non,_=>some false
 |.bl _,t=>some (decide (t=.bool\/t=.int))
 |.int _,t=>some (decide (t=.int))
 |.str _,t=>some (decide (t=.str))
 |.tup _,t=>some (decide (t=.tuple))
 |.loc n,t=>match S[n]? with
  |some (.lst _)=>some (decide (t=.list))
  |some (.dt _)=>some (decide (t=.dict))
  |some (.dk _)=>some (decide (t=.dict))
  |_=>none
 |_,_=>none
noncomputable def UJ (S:Store) (x:D):List Ty->Option Bool
 |[]=>some false
 |t::ts=>match Ga S x t with
  |some true=>some true
  |some false=>UJ S x ts
  |none=>none
noncomputable def ixN (n:Nat) (i:Int):Option Nat:=if 0<=i then (if i<n then some i.toNat else none) else if -(n:Int)<=i then some (i+n).toNat else none
noncomputable def at' {α:Type} (xs:List α) (i:Int):Option α:=(ixN xs.length i).bind λj=>xs[j]?
noncomputable def sIx (n d:Nat):Option Int->Nat
 |none=>d
 |some i=>if i<0 then (i+n).toNat else min i.toNat n
noncomputable def cut (xs:List D) (lo hi:Option Int):List D:=(xs.drop (sIx xs.length 0 lo)).take (sIx xs.length xs.length hi-sIx xs.length 0 lo)
noncomputable def fits (i:Int):Bool:=decide (i.natAbs<2^1000)
noncomputable def binop (op:Bop) (x y:D) (S:Store):R D:=match op,x,y with
 |.add,.int a,.int b=>.ok (.int (a+b)) S
 |.sub,.int a,.int b=>.ok (.int (a-b)) S
 |.mul,.int a,.int b=>if (fits a&&fits b)=true then .ok (.int (a*b)) S else .no
 |.fdiv,.int a,.int b=>if 0<b/\b<1073741824 then .ok (.int (a / b)) S else .no
 |.mod,.int a,.int b=>if 0<b then .ok (.int (a%b)) S else .no
 |.pow,.int a,.int b=>if 0<=b/\b<=1000/\a.natAbs<2^64 then .ok (.int (a^b.toNat)) S else .no
 |.add,.tup a,.tup b=>if a.length+b.length<=lim then .ok (.tup (a++b)) S else .no
 |.mul,.tup a,.int b=>if 0<=b/\b<1000/\a.length<=1000 then .ok (.tup (List.replicate b.toNat a).flatten) S else .no
 |.mul,.loc m,.int b=>match Zi S m with
  |some a=>if 0<=b/\b<1000/\a.length<=1000 then .ok (.loc S.length) (S++[.lst (List.replicate b.toNat a).flatten]) else .no
  |none=>.no
 |.add,.loc m,.loc n=>match Zi S m,Zi S n with
  |some a,some b=>if a.length+b.length<=lim then .ok (.loc S.length) (S++[.lst (a++b)]) else .no
  |_,_=>.no
 |_,_,_=>.no
noncomputable def augop (op:Bop) (x y:D) (S:Store):R D:=match x,y with
 |.int _,.int _=>binop op x y S
 |_,_=>.no
noncomputable def ob {α:Type} (o:Option α) (S:Store):R α:=match o with
 |some a=>.ok a S
 |none=>.no
noncomputable def ZaH (S:Store) (x:D):Option Ob->R Bool
 |some (.lst ys)=>ob (inL S x ys) S
 |some (.dt kvs)=>match x with
  |.tup k=>(ob (YH k) S).bind λk S=>.ok ((kvs.map (·.1)).contains k) S
  |_=>.no
 |_=>.no
noncomputable def Wi (S:Store) (x y:D):R Bool:=match y with
 |.tup ys=>ob (inL S x ys) S
 |.loc n=>ZaH S x S[n]?
 |_=>.no
noncomputable def cmpop (op:Cop) (x y:D) (S:Store):R D:=match op with
 |.eq=>(ob (eqD S Zk x y) S).bind λb S=>.ok (.bl b) S
 |.ne=>(ob (eqD S Zk x y) S).bind λb S=>.ok (.bl !b) S
 |.lt=>match x,y with
  |.int a,.int b=>.ok (.bl (decide (a<b))) S
  |_,_=>.no
 |.gt=>match x,y with
  |.int a,.int b=>.ok (.bl (decide (b<a))) S
  |_,_=>.no
 |.le=>match x,y with
  |.int a,.int b=>.ok (.bl (decide (a<=b))) S
  |_,_=>.no
 |.ge=>match x,y with
  |.int a,.int b=>.ok (.bl (decide (b<=a))) S
  |_,_=>.no
 |.is=>match x,y with
  |_,.non=>.ok (.bl (decide (x=.non))) S
  |.bl a,.bl b=>.ok (.bl (decide (a=b))) S
  |_,_=>.no
 |.isn=>match x,y with
  |_,.non=>.ok (.bl (decide (x≠.non))) S
  |.bl a,.bl b=>.ok (.bl (decide (a≠b))) S
  |_,_=>.no
 |.inn=>(Wi S x y).bind λb S=>.ok (.bl b) S
 |.nin=>(Wi S x y).bind λb S=>.ok (.bl !b) S
noncomputable def getix (x y:D) (S:Store):R D:=match x,y with
 |.tup xs,.int i=>ob (at' xs i) S
 |.loc n,.int i=>match Z2 S n with
  |some xs=>ob (at' xs i) S
  |none=>.no
 |_,_=>.no
noncomputable def slice (x:D) (lo hi:Option Int) (S:Store):R D:=match x with
 |.tup xs=>.ok (.tup (cut xs lo hi)) S
 |.loc n=>match Zi S n with
  |some xs=>.ok (.loc S.length) (S++[.lst (cut xs lo hi)])
  |none=>.no
 |_=>.no
noncomputable def reversed (x:D) (S:Store):R D:=match x with
 |.tup xs=>.ok (.tup xs.reverse) S
 |_=>.no
noncomputable def Zbs {κ:Type} [DecidableEq κ] (k:κ) (v:D) (kvs:List (κ×D)):List (κ×D):=
 if (kvs.any λp=>decide (p.1=k))=true then kvs.map (λp=>if p.1=k then (p.1,v) else p) else kvs++[(k,v)]
noncomputable def setix (o i v:D) (S:Store):R Unit:=match o,i with
 |.loc n,.int k=>match S[n]? with
  |some (.lst xs)=>(ob (ixN xs.length k) S).bind λj S=>.ok () (S.set n (.lst (xs.set j v)))
  |_=>.no
 |_,_=>.no
noncomputable def ZaL (o i v:D) (S:Store):R Unit:=match o,i with
 |.loc n,.tup k=>match S[n]? with
  |some (.dt kvs)=>(ob (YH k) S).bind λk S=>if kvs.length<lim then .ok () (S.set n (.dt (Zbs k v kvs))) else .no
  |_=>.no
 |_,_=>.no
noncomputable def ptruth:D->Option Bool
 |.non=>some false
 |.bl b=>some b
 |.int i=>some (decide (i≠0))
 |_=>none
noncomputable def truths:List D->Option (List Bool)
 |[]=>some []
 |x::xs=>match ptruth x,truths xs with
  |some b,some bs=>some (b::bs)
  |_,_=>none
noncomputable def Y7:List D->Option (List Int)
 |[]=>some []
 |.int i::r=>(Y7 r).map (i :: ·)
 |_::_=>none
noncomputable def Xz (is:List Int):Bool:=decide (is.length<=1000)&&is.all λi=>decide (-1099511627776<=i/\i<=1099511627776)
noncomputable def Uk:D->Option (List Int)
 |.tup ks=>YH ks
 |_=>none
noncomputable def Z0:List D->Option (List (List Int))
 |[]=>some []
 |x::r=>match Uk x,Z0 r with
  |some a,some b=>some (a::b)
  |_,_=>none
noncomputable def XX (r:List Int):D:=.tup (r.map .int)
noncomputable def ltI:List Int->List Int->Bool
 |[],[]=>false
 |[],_::_=>true
 |_::_,[]=>false
 |a::x,b::y=>if a=b then ltI x y else decide (a<b)
noncomputable def XU (x:List Int):List (List Int)->List (List Int)
 |[]=>[x]
 |y::r=>if ltI x y then x::y::r else y::XU x r
noncomputable def ZG:List (List Int)->List (List Int)
 |[]=>[]
 |x::r=>XU x (ZG r)
noncomputable def ZZ (rs:List (List Int)):Bool:=decide (rs.length<64)&&decide rs.Nodup&&rs.all λr=>!r.isEmpty
noncomputable def sorted (rev:Bool) (n:Nat) (S:Store):R D:=(ob (Zi S n) S).bind λxs S=>(ob (Z0 xs) S).bind λrs S=>
 if ZZ rs=true then .ok (.loc S.length) (S++[.lst ((if rev then (ZG rs).reverse else ZG rs).map XX)]) else .no
noncomputable def JM {α:Type} (lt:α->α->Bool) (x:α):List α->List α
 |[]=>[x]
 |y::r=>if lt x y then x::y::r else y::JM lt x r
noncomputable def Yc {α:Type} (lt:α->α->Bool):List α->List α
 |[]=>[]
 |x::r=>JM lt x (Yc lt r)
noncomputable def ltP:List (List Int)->List (List Int)->Bool
 |[],[]=>false
 |[],_::_=>true
 |_::_,[]=>false
 |a::x,b::y=>if a=b then ltP x y else ltI a b
noncomputable def Vd (P:List (List Int)):D:=.tup (P.map XX)
noncomputable def QW:D->Option (List (List Int))
 |.tup ks=>Z0 ks
 |_=>none
noncomputable def Ya:List D->Option (List (List (List Int)))
 |[]=>some []
 |x::r=>match QW x,Ya r with
  |some a,some b=>some (a::b)
  |_,_=>none
noncomputable def Z3 (ps:List (List (List Int))):Bool:=decide (ps.length<64)&&decide ps.Nodup&&(decide (ps.length<=1)||ps.all λP=>!P.isEmpty)
noncomputable def wL:List D->Bool
 |.tup (.int _::_)::_=>true
 |_=>false
noncomputable def qL (n:Nat) (S:Store):R D:=(ob (Zi S n) S).bind λxs S=>if wL xs=true then sorted false n S else (ob (Ya xs) S).bind λps S=>if Z3 ps=true then .ok (.loc S.length) (S++[.lst ((Yc ltP ps).map Vd)]) else .no
noncomputable def dedup:List D->List D->List D
 |acc,[]=>acc
 |acc,x::r=>if acc.contains x then dedup acc r else dedup (acc++[x]) r
noncomputable def YS (S:Store):D->Option (List D)
 |.tup xs=>some xs
 |.loc n=>Z2 S n
 |_=>none
noncomputable def Zbt (S:Store):D->Option (List D)
 |.loc n=>match S[n]? with
  |some (.dt kvs)=>some (kvs.map λp=>.tup (p.1.map .int))
  |_=>none
 |_=>none
noncomputable def bltin (f:Bf) (as:List D) (S:Store):R D:=match f,as with
 |.len,[x]=>(ob (YS S x) S).bind λxs S=>.ok (.int xs.length) S
 |.max2,[.int a,.int b]=>.ok (.int (if b>a then b else a)) S
 |.min2,[.int a,.int b]=>.ok (.int (if b<a then b else a)) S
 |.toInt,[.int a]=>.ok (.int a) S
 |.toInt,[.bl b]=>.ok (.int (b2i b)) S
 |.tuple,[.tup xs]=>.ok (.tup xs) S
 |.tuple,[.loc n]=>(ob (Zi S n) S).bind λxs S=>.ok (.tup xs) S
 |.list,[x]=>(ob (YS S x) S).bind λxs S=>.ok (.loc S.length) (S++[.lst xs])
 |.all,[.loc n]=>(ob (Zi S n) S).bind λxs S=>(ob (truths xs) S).bind λbs S=>.ok (.bl (bs.all id)) S
 |.any,[x]=>(ob (YS S x) S).bind λxs S=>(ob (truths xs) S).bind λbs S=>.ok (.bl (bs.any id)) S
 |.sum,[.loc n]=>(ob (Zi S n) S).bind λxs S=>(ob (Y7 xs) S).bind λis S=>if Xz is=true then .ok (.int is.sum) S else .no
 |.sorted,[.loc n]=>qL n S
 |.sortedR,[.loc n]=>sorted true n S
 |.set,[x]=>(ob (YS S x) S).bind λxs S=>.ok (.loc S.length) (S++[.st (dedup [] xs)])
 |.listD,[x]=>(ob (Zbt S x) S).bind λxs S=>.ok (.loc S.length) (S++[.lst xs])
 |_,_=>.no
noncomputable def method (m:Mf) (o:D) (as:List D) (S:Store):R D:=match m,o,as with
 |.append,.loc n,[x]=>(ob (Zi S n) S).bind λxs S=>if xs.length<lim then .ok .non (S.set n (.lst (xs++[x]))) else .no
 |.extend,.loc n,[.loc k]=>if n=k then .no else (ob (Zi S n) S).bind λxs S=>(ob (Zi S k) S).bind λys S=>if xs.length+ys.length<=lim then .ok .non (S.set n (.lst (xs++ys))) else .no
 |.index,.loc n,[x]=>(ob (Zi S n) S).bind λxs S=>(ob (ZbG S x xs 0) S).bind λk S=>.ok (.int k) S
 |_,_,_=>.no
noncomputable def zb (S:Store):D->Bool
 |.loc n=>(Zi S n).isSome
 |_=>false
noncomputable def Zr (lo:Int) (n:Nat):List D:=(List.range n).map λ(k:Nat)=>.int (lo+(k:Int))
noncomputable def small (i:Int):Bool:=decide (-(2^62)<=i/\i<2^62)
noncomputable def fill:List Nat->List D->Lc->Option Lc
 |[],[],σ=>some σ
 |i::t,x::xs,σ=>fill t xs (σ.set i (some x))
 |_,_,_=>none
noncomputable def assign (t:List Nat) (x:D) (S:Store) (σ:Lc):Option Lc:=match t with
 |[i]=>some (σ.set i (some x))
 |t=>match x with
  |.tup xs=>fill t xs σ
  |.loc n=>match Zi S n with
   |some xs=>fill t xs σ
   |none=>none
  |_=>none
inductive Fl where | nx (σ:Lc) | ret (d:D) | brk (σ:Lc) | cnt (σ:Lc)
noncomputable abbrev Calls:=Nat->List D->Store->R D
structure Walk where
 items:List D
 kept:List (Nat×List D)
noncomputable def Walk.still (w:Walk) (S:Store):Bool:=w.kept.all λp=>decide (S[p.1]? = some (.lst p.2))
noncomputable def Yj (S:Store):D->Option Walk
 |.tup xs=>some ⟨xs,[]⟩
 |.loc n=>match S[n]? with
  |some (.lst xs)=>some ⟨xs,[(n,xs)]⟩
  |_=>none
 |_=>none
noncomputable def WX (w:Walk) (body:D->Lc->Store->R Fl):List D->Lc->Store->R Fl
 |[],σ,S=>if w.still S then .ok (.nx σ) S else .no
 |x::xs,σ,S=>if w.still S then match body x σ S with
   |.ok (.nx σ') S'=>WX w body xs σ' S'
   |.ok (.cnt σ') S'=>WX w body xs σ' S'
   |.ok (.brk σ') S'=>.ok (.nx σ') S'
   |.ok (.ret d) S'=>.ok (.ret d) S'
   |.ex c S'=>.ex c S'
   |.no=>.no
  else .no
noncomputable def YT (test:Lc->Store->R Bool) (body:Lc->Store->R Fl):Nat->Lc->Store->R Fl
 |0,_,_=>.no
 |n+1,σ,S=>(test σ S).bind λb S=>if b then match body σ S with
   |.ok (.nx σ') S'=>YT test body n σ' S'
   |.ok (.cnt σ') S'=>YT test body n σ' S'
   |.ok (.brk σ') S'=>.ok (.nx σ') S'
   |.ok (.ret d) S'=>.ok (.ret d) S'
   |.ex c S'=>.ex c S'
   |.no=>.no
  else .ok (.nx σ) S
noncomputable def Yn (w:Walk) (turn:D->Lc->Store->R Lc):List D->Lc->Store->R Lc
 |[],σ,S=>if w.still S then .ok σ S else .no
 |x::xs,σ,S=>if w.still S then (turn x σ S).bind λσ S=>Yn w turn xs σ S else .no
noncomputable def push (n:Nat) (y:D) (S:Store):R Unit:=match Zi S n with
 |some ys=>if ys.length<lim then .ok () (S.set n (.lst (ys++[y]))) else .no
 |none=>.no
noncomputable def caught (cap:List Nat) (nl:Nat) (σ:Lc):Lc:=List.replicate nl none++cap.map λi=>(σ[i]?).join
noncomputable def WF:Nat:=1000
mutual
noncomputable def ev (C:Calls):E->Lc->Store->R D
 |.c d,_,S=>.ok d S
 |.v i,σ,S=>ob (σ[i]?).join S
 |.tup es,σ,S=>(evs C es σ S).bind λxs S=>if xs.length<=lim then .ok (.tup xs) S else .no
 |.lst es,σ,S=>(evs C es σ S).bind λxs S=>if xs.length<=lim then .ok (.loc S.length) (S++[.lst xs]) else .no
 |.dnew,_,S=>.ok (.loc S.length) (S++[.dt []])
 |.dput1 k v,σ,S=>(ev C k σ S).bind λx S=>(ev C v σ S).bind λy S=>match x with
  |.tup k=>(ob (YH k) S).bind λk S=>.ok (.loc S.length) (S++[.dt [(k,y)]])
  |_=>.no
 |.bin op a b,σ,S=>(ev C a σ S).bind λx S=>(ev C b σ S).bind λy S=>binop op x y S
 |.neg a,σ,S=>(ev C a σ S).bind λx S=>match x with
  |.int i=>.ok (.int (-i)) S
  |_=>.no
 |.not a,σ,S=>(ev C a σ S).bind λx S=>(ob (truth S x) S).bind λb S=>.ok (.bl !b) S
 |.and a b,σ,S=>(ev C a σ S).bind λx S=>match x with
  |.bl c=>if c then ev C b σ S else .ok (.bl false) S
  |_=>.no
 |.or a b,σ,S=>(ev C a σ S).bind λx S=>match x with
  |.bl c=>if c then .ok (.bl true) S else ev C b σ S
  |_=>.no
 |.ite t a b,σ,S=>(ev C t σ S).bind λx S=>(ob (truth S x) S).bind λc S=>if c then ev C a σ S else ev C b σ S
 |.cmp op a b,σ,S=>(ev C a σ S).bind λx S=>(ev C b σ S).bind λy S=>cmpop op x y S
 |.chain o p a b d,σ,S=>(ev C a σ S).bind λx S=>(ev C b σ S).bind λy S=>(cmpop o x y S).bind λz S=>match z with
  |.bl c=>if c then (ev C d σ S).bind λw S=>cmpop p y w S else .ok (.bl false) S
  |_=>.no
 |.ix a i,σ,S=>(ev C a σ S).bind λx S=>(ev C i σ S).bind λy S=>getix x y S
 |.sl a lo hi,σ,S=>(ev C a σ S).bind λx S=>(evo C lo σ S).bind λl S=>(evo C hi σ S).bind λh S=>slice x l h S
 |.rev a,σ,S=>(ev C a σ S).bind λx S=>reversed x S
 |.call f as,σ,S=>(evs C as σ S).bind λxs S=>C f xs S
 |.blt f as,σ,S=>(evs C as σ S).bind λxs S=>bltin f xs S
 |.mt m o as,σ,S=>(ev C o σ S).bind λx S=>if zb S x=true then (evs C as σ S).bind λxs S=>method m x xs S else .no
 |.isi a ts,σ,S=>(ev C a σ S).bind λx S=>(ob (UJ S x ts) S).bind λb S=>.ok (.bl b) S
 |.inT a tab,σ,S=>(ev C a σ S).bind λx S=>match x with
  |.int i=>.ok (.bl ((tab.map (·.1)).contains i)) S
  |_=>.no
 |.getT tab a,σ,S=>(ev C a σ S).bind λx S=>match x with
  |.int i=>(ob (tab.lookup i) S).bind λj S=>.ok (.int j) S
  |_=>.no
 |.comp1 cap nl t it ifs elt,σ,S=>(evw C it σ S).bind λw S=>
   (Yn w (λx σ S1=>(ob (assign t x S1 σ) S1).bind λσ S1=>(evt C ifs σ S1).bind λb S1=>if b then (ev C elt σ S1).bind λy S1=>(push S.length y S1).bind λ_ S1=>.ok σ S1 else .ok σ S1) w.items (caught cap nl σ) (S++[.lst []])).bind
    λ_ S1=>.ok (.loc S.length) S1
 |.comp2 cap nl t it ifs u jt jfs elt,σ,S=>(evw C it σ S).bind λw S=>
   (Yn w (λx σ S1=>(ob (assign t x S1 σ) S1).bind λσ S1=>(evt C ifs σ S1).bind λb S1=>if b then
    (evw C jt σ S1).bind λw2 S1=>Yn w2 (λx σ S1=>(ob (assign u x S1 σ) S1).bind λσ S1=>(evt C jfs σ S1).bind λb S1=>if b then (ev C elt σ S1).bind λy S1=>(push S.length y S1).bind λ_ S1=>.ok σ S1 else .ok σ S1) w2.items σ S1
    else .ok σ S1) w.items (caught cap nl σ) (S++[.lst []])).bind
    λ_ S1=>.ok (.loc S.length) S1
 |.fstr,_,_=>.no
noncomputable def evs (C:Calls):List E->Lc->Store->R (List D)
 |[],_,S=>.ok [] S
 |e::es,σ,S=>(ev C e σ S).bind λx S=>(evs C es σ S).bind λxs S=>.ok (x::xs) S
noncomputable def evo (C:Calls):Option E->Lc->Store->R (Option Int)
 |none,_,S=>.ok none S
 |some e,σ,S=>(ev C e σ S).bind λx S=>match x with
  |.int i=>.ok (some i) S
  |_=>.no
noncomputable def evt (C:Calls):List E->Lc->Store->R Bool
 |[],_,S=>.ok true S
 |e::es,σ,S=>(ev C e σ S).bind λx S=>(ob (truth S x) S).bind λb S=>if b then evt C es σ S else .ok false S
noncomputable def evw (C:Calls):W->Lc->Store->R Walk
 |.rng1 a,σ,S=>(ev C a σ S).bind λx S=>match x with
  |.int i=>if small i then .ok ⟨Zr 0 i.toNat,[]⟩ S else .no
  |_=>.no
 |.rng2 a b,σ,S=>(ev C a σ S).bind λx S=>(ev C b σ S).bind λy S=>match x,y with
  |.int i,.int j=>if (small i&&small j)=true then .ok ⟨Zr i (j-i).toNat,[]⟩ S else .no
  |_,_=>.no
 |.rrng a b,σ,S=>(ev C a σ S).bind λx S=>(ev C b σ S).bind λy S=>match x,y with
  |.int i,.int j=>if (small i&&small j)=true then .ok ⟨(Zr i (j-i).toNat).reverse,[]⟩ S else .no
  |_,_=>.no
 |.zip a b,σ,S=>(ev C a σ S).bind λx S=>(ev C b σ S).bind λy S=>match Yj S x,Yj S y with
  |some v,some w=>.ok ⟨(v.items.zip w.items).map λp=>.tup [p.1,p.2],v.kept++w.kept⟩ S
  |_,_=>.no
 |.enum a,σ,S=>(ev C a σ S).bind λx S=>match Yj S x with
  |some w=>.ok ⟨(Zr 0 w.items.length).zip w.items |>.map λp=>.tup [p.1,p.2],w.kept⟩ S
  |none=>.no
 |.of e,σ,S=>(ev C e σ S).bind λx S=>ob (Yj S x) S
end
noncomputable def tst (C:Calls) (e:E) (σ:Lc) (S:Store):R Bool:=(ev C e σ S).bind λx S=>ob (truth S x) S
mutual
noncomputable def run (C:Calls):Sm->Lc->Store->R Fl
 |.asg t e,σ,S=>(ev C e σ S).bind λx S=>(ob (assign t x S σ) S).bind λσ S=>.ok (.nx σ) S
 |.par t es,σ,S=>(evs C es σ S).bind λxs S=>(ob (fill t xs σ) S).bind λσ S=>.ok (.nx σ) S
 |.aug i op e,σ,S=>(ob (σ[i]?).join S).bind λx S=>(ev C e σ S).bind λy S=>(augop op x y S).bind λz S=>.ok (.nx (σ.set i (some z))) S
 |.put o i e,σ,S=>(ev C e σ S).bind λv S=>(ev C o σ S).bind λx S=>(ev C i σ S).bind λy S=>(setix x y v S).bind λ_ S=>.ok (.nx σ) S
 |.dput o i e,σ,S=>(ev C e σ S).bind λv S=>(ev C o σ S).bind λx S=>(ev C i σ S).bind λy S=>(ZaL x y v S).bind λ_ S=>.ok (.nx σ) S
 |.ret e,σ,S=>(ev C e σ S).bind λx S=>.ok (.ret x) S
 |.ex e,σ,S=>(ev C e σ S).bind λ_ S=>.ok (.nx σ) S
 |.ite t a b,σ,S=>(tst C t σ S).bind λc S=>if c then runs C a σ S else runs C b σ S
 |.forr t it b,σ,S=>(evw C it σ S).bind λw S=>WX w (λx σ S=>(ob (assign t x S σ) S).bind λσ S=>runs C b σ S) w.items σ S
 |.whl t b,σ,S=>YT (tst C t) (runs C b) WF σ S
 |.raise c as,σ,S=>(evs C as σ S).bind λ_ S=>.ex c S
 |.pas,σ,S=>.ok (.nx σ) S
 |.brk,σ,S=>.ok (.brk σ) S
 |.cnt,σ,S=>.ok (.cnt σ) S
noncomputable def runs (C:Calls):List Sm->Lc->Store->R Fl
 |[],σ,S=>.ok (.nx σ) S
 |s::ss,σ,S=>(run C s σ S).bind λf S=>match f with
  |.nx σ=>runs C ss σ S
  |f=>.ok f S
end
structure Fn where
 ps:Nat
 ns:Nat
 body:List Sm
noncomputable def start (n:Nat) (xs:List D):Lc:=xs.map some++List.replicate (n-xs.length) none
noncomputable def calls (F:List Fn):Nat->Calls
 |0,_,_,_=>.no
 |d+1,f,xs,S=>match F[f]? with
  |some fn=>if xs.length=fn.ps then (runs (calls F d) fn.body (start fn.ns xs) S).bind λf S=>match f with
    |.ret x=>.ok x S
    |.nx _=>.ok .non S
    |_=>.no
   else .no
  |none=>.no
end Ev
namespace Sd
open PySem PySem.Spec PyProof.Rows L2
open Ev (D Ob Store Lc R E Sm Calls Walk Fl Fn Bop Cop Ty Bf Mf ev evs evo evt evw tst run runs)
mutual
noncomputable def Rep (ρ:List Addr) (H:Hp):D->V->Prop
 |.non,v=>v=.non
 |.bl b,v=>v=.bl b
 |.int i,v=>v=.int i
 |.str x,v=>v=.str x
 |.tup ds,v=>∃a xs,v=.ref a/\H a=some (.tup xs)/\Reps ρ H ds xs
 |.loc n,v=>∃a,v=.ref a/\ρ[n]? = some a
 |.fn _,_=>False
 |.exc _ _,_=>False
noncomputable def Reps (ρ:List Addr) (H:Hp):List D->List V->Prop
 |[],xs=>xs=[]
 |d::ds,xs=>∃v vs,xs=v::vs/\Rep ρ H d v/\Reps ρ H ds vs
end
structure Fut (ρ:List Addr) (H:Hp) (ρ':List Addr) (H':Hp):Prop where
 pre:∃t,ρ'=ρ++t
 tup:∀a xs,H a=some (.tup xs)->H' a=some (.tup xs)
theorem Fut.refl (ρ:List Addr) (H:Hp):Fut ρ H ρ H:=⟨⟨[],by simp⟩,λ_ _ h=>h⟩
theorem Fut.trans {ρ ρ1 ρ2:List Addr}{H H1 H2:Hp}(a:Fut ρ H ρ1 H1) (b:Fut ρ1 H1 ρ2 H2):Fut ρ H ρ2 H2:=
 ⟨by obtain⟨t,e⟩:=a.pre;obtain⟨u,f⟩:=b.pre;exact⟨t++u,by rw[f,e,List.append_assoc]⟩,λc xs h=>b.tup c xs (a.tup c xs h)⟩
theorem Fut.at {ρ ρ':List Addr}{H H':Hp}(f:Fut ρ H ρ' H') {n:Nat}{a:Addr}(h:ρ[n]? = some a):ρ'[n]? = some a:=by
 obtain⟨t,rfl⟩:=f.pre;have hn:n<ρ.length:=(Pq.mp h).1;rw[Py hn];exact h
mutual
theorem Rep.mono {ρ ρ':List Addr}{H H':Hp}(f:Fut ρ H ρ' H'):∀{d:D}{v:V},Rep ρ H d v->Rep ρ' H' d v
 |.non,_,h | .bl _,_,h | .int _,_,h | .str _,_,h=>by unfold Rep at h ⊢;exact h
 |.tup ds,v,h=>by
  unfold Rep at h ⊢;obtain⟨a,xs,e,t,r⟩:=h;exact⟨a,xs,e,f.tup a xs t,Reps.mono f r⟩
 |.loc n,v,h=>by
  unfold Rep at h ⊢;obtain⟨a,e,t⟩:=h;exact⟨a,e,f.at t⟩
 |.fn _,_,h | .exc _ _,_,h=>by unfold Rep at h;exact h.elim
theorem Reps.mono {ρ ρ':List Addr}{H H':Hp}(f:Fut ρ H ρ' H'):∀{ds:List D}{xs:List V},Reps ρ H ds xs->Reps ρ' H' ds xs
 |[],_,h=>by unfold Reps at h ⊢;exact h
 |d::ds,xs,h=>by
  unfold Reps at h ⊢;obtain⟨v,vs,e,r,rs⟩:=h;exact⟨v,vs,e,Rep.mono f r,Reps.mono f rs⟩
end
theorem Reps.nil {ρ:List Addr}{H:Hp}:Reps ρ H [] []:=by unfold Reps;rfl
theorem Reps.cons {ρ:List Addr}{H:Hp}{d:D}{v:V}{ds:List D}{vs:List V}(r:Rep ρ H d v) (rs:Reps ρ H ds vs):Reps ρ H (d::ds) (v::vs):=by
 unfold Reps;exact⟨v,vs,rfl,r,rs⟩
theorem Reps.length {ρ:List Addr}{H:Hp}:∀{ds:List D}{xs:List V},Reps ρ H ds xs->xs.length=ds.length
 |[],_,h=>by unfold Reps at h;rw[h];rfl
 |d::ds,xs,h=>by
  unfold Reps at h;obtain⟨v,vs,rfl,_,rs⟩:=h;rw[PB,PB,Reps.length rs]
theorem Reps.append {ρ:List Addr}{H:Hp}:∀{ds es:List D}{xs ys:List V},Reps ρ H ds xs->Reps ρ H es ys->Reps ρ H (ds++es) (xs++ys)
 |[],_,_,_,h,r=>by unfold Reps at h;rw[h];exact r
 |d::ds,_,_,_,h,r=>by
  unfold Reps at h;obtain⟨v,vs,rfl,a,rs⟩:=h;exact Reps.cons a (Reps.append rs r)
theorem Reps.take {ρ:List Addr}{H:Hp}:∀{ds:List D}{xs:List V}(k:Nat),Reps ρ H ds xs->Reps ρ H (ds.take k) (xs.take k)
 |_,_,0,_=>Reps.nil
 |[],_,k+1,h=>by unfold Reps at h;rw[h];exact Reps.nil
 |d::ds,_,k+1,h=>by
  unfold Reps at h;obtain⟨v,vs,rfl,a,rs⟩:=h;exact Reps.cons a (Reps.take k rs)
theorem Reps.drop {ρ:List Addr}{H:Hp}:∀{ds:List D}{xs:List V}(k:Nat),Reps ρ H ds xs->Reps ρ H (ds.drop k) (xs.drop k)
 |_,_,0,h=>h
 |[],_,k+1,h=>by unfold Reps at h;rw[h];exact Reps.nil
 |d::ds,_,k+1,h=>by
  unfold Reps at h;obtain⟨v,vs,rfl,a,rs⟩:=h;exact Reps.drop k rs
theorem Reps.get {ρ:List Addr}{H:Hp}:∀{ds:List D}{xs:List V}{i:Nat}{d:D},Reps ρ H ds xs->ds[i]? = some d->∃v,xs[i]? = some v/\Rep ρ H d v
 |[],_,_,_,_,e=>by simp at e
 |d::ds,_,0,_,h,e=>by
  unfold Reps at h;obtain⟨v,vs,rfl,a,rs⟩:=h;simp at e;subst e;exact⟨v,rfl,a⟩
 |d::ds,_,i+1,_,h,e=>by
  unfold Reps at h;obtain⟨v,vs,rfl,a,rs⟩:=h;obtain⟨u,q,r⟩:=Reps.get (i:=i) rs (by simpa using e)
  exact⟨u,by simpa using q,r⟩
theorem Reps.set {ρ:List Addr}{H:Hp}{d:D}{v:V}(r:Rep ρ H d v):∀{ds:List D}{xs:List V}(i:Nat),Reps ρ H ds xs->Reps ρ H (ds.set i d) (xs.set i v)
 |[],_,i,h=>by unfold Reps at h;rw[h];exact Reps.nil
 |_::_,_,0,h=>by
  unfold Reps at h;obtain⟨_,_,rfl,_,rs⟩:=h;exact Reps.cons r rs
 |_::_,_,i+1,h=>by
  unfold Reps at h;obtain⟨_,_,rfl,a,rs⟩:=h;exact Reps.cons a (Reps.set r i rs)
theorem Reps.reverse {ρ:List Addr}{H:Hp}:∀{ds:List D}{xs:List V},Reps ρ H ds xs->Reps ρ H ds.reverse xs.reverse
 |[],_,h=>by unfold Reps at h;rw[h];exact Reps.nil
 |d::ds,_,h=>by
  unfold Reps at h;obtain⟨v,vs,rfl,a,rs⟩:=h;rw[List.reverse_cons,List.reverse_cons];exact Reps.append (Reps.reverse rs) (Reps.cons a Reps.nil)
theorem Reps.rep {ρ:List Addr}{H:Hp}{ds:List D}{xs:List V}(h:Reps ρ H ds xs):∀k:Nat,Reps ρ H (List.replicate k ds).flatten (List.replicate k xs).flatten
 |0=>Reps.nil
 |k+1=>by
  rw[PZ,PZ,P6,P6];exact Reps.append h (Reps.rep h k)
theorem Reps.ints {ρ:List Addr}{H:Hp}:∀ns:List Int,Reps ρ H (ns.map D.int) (ns.map V.int)
 |[]=>Reps.nil
 |n::ns=>Reps.cons (by unfold Rep;rfl) (Reps.ints ns)
def Scr (K:PySem.W.Frag) (H:Hp) (a:Addr) (ns:List Int):Prop:=
 (∃o,H a=some (.frz o (.lst (ns.map V.int))))\/
  ∃(o:Obj) (its:Array Value) (n:Nat),K.lookup a=some o/\o.cls=.type "list"/\o.dict=none/\o.data=.seq its n/\its.size<=sizeLine/\Vals (ns.map V.int) its.toList
theorem Scr.sq {K:PySem.W.Frag}{H:Hp}{a:Addr}{ns:List Int}(h:Scr K H a ns):SqL K H a (ns.map V.int):=by
 rcases h with ⟨o,h⟩ | h
 ·exact .inl (.inr ⟨o,h⟩)
 ·exact .inr h
noncomputable def j8 (ρ:List Addr) (H:Hp) (kvs:List (List Int×D)) (vs:List (List Key×V)):Prop:=
 Paired (λ(p:List Int×D) (q:List Key×V)=>q.1=p.1.map Sum.inl/\Rep ρ H p.2 q.2) kvs vs
noncomputable def ZbB (ρ:List Addr) (H:Hp) (kvs:List (Int×D)) (vs:List (Key×V)):Prop:=
 Paired (λ(p:Int×D) (q:Key×V)=>q.1=Sum.inl p.1/\Rep ρ H p.2 q.2) kvs vs
noncomputable def Qo (K:PySem.W.Frag) (ρ:List Addr) (H:Hp) (a:Addr):Ob->Prop
 |.lst ds=>∃xs,H a=some (.lst xs)/\Reps ρ H ds xs
 |.scr ns=>Scr K H a ns
 |.dt kvs=>∃vs,H a=some (.dT vs)/\j8 ρ H kvs vs
 |.dk kvs=>∃vs,H a=some (.dK vs)/\ZbB ρ H kvs vs
 |.st _=>False
structure St3 (K:PySem.W.Frag) (ρ:List Addr) (S:Store) (H:Hp):Prop where
 len:ρ.length=S.length
 nd:∀(m n:Nat) (a:Addr),ρ[m]? = some a->ρ[n]? = some a->m≠n->(∃ns,S[m]? = some (.scr ns))\/(∃ns,S[n]? = some (.scr ns))
 ob:∀(n:Nat) (o:Ob) (a:Addr),S[n]? = some o->ρ[n]? = some a->Qo K ρ H a o
structure LocR (ρ:List Addr) (H:Hp) (l:Lc) (σ:L2.St):Prop where
 len:l.length=σ.length
 val:∀(i:Nat) (d:D),l[i]? = some (some d)->∃v,σ[i]? = some (some v)/\Rep ρ H d v
theorem LocR.mono {ρ ρ':List Addr}{H H':Hp}{l:Lc}{σ:L2.St}(f:Fut ρ H ρ' H') (r:LocR ρ H l σ):LocR ρ' H' l σ:=
 ⟨r.len,λi d e=>let ⟨v,q,h⟩:=r.val i d e;⟨v,q,h.mono f⟩⟩
theorem LocR.set {ρ:List Addr}{H:Hp}{l:Lc}{σ:L2.St}{d:D}{v:V}(r:LocR ρ H l σ) (i:Nat) (h:Rep ρ H d v):LocR ρ H (l.set i (some d)) (σ.set i (some v)):=
 ⟨by rw[PV,PV];exact r.len,λj e q=>by
  rw[Nv] at q ⊢;split at q
  ·rename_i hij
   subst hij;split at q
   ·rename_i hl
    cases q;rw[Ph rfl,Ph (by rw[<-r.len];exact hl)]
    exact⟨v,rfl,h⟩
   ·cases q
  ·rename_i hij
   rw[Pi hij];exact r.val j e q⟩
noncomputable def End {α β:Type} (K:PySem.W.Frag) (xw:Nat->Hp->Prop) (rep:List Addr->Hp->α->β->Prop) (ρ:List Addr) (H:Hp) (Q:β->Hp->Prop):R α->Prop
 |.ok d S=>∀ρ' H' v,Fut ρ H ρ' H'->St3 K ρ' S H'->rep ρ' H' d v->Q v H'
 |.ex c S=>∀ρ' H',Fut ρ H ρ' H'->St3 K ρ' S H'->xw c H'
 |.no=>False
section
variable {K:PySem.W.Frag}{xw:Nat->Hp->Prop}{ρ ρ':List Addr}{H H':Hp}{α β α' β':Type}{rep:List Addr->Hp->α->β->Prop}{rep':List Addr->Hp->α'->β'->Prop}
theorem End.mono {r:R α}{Q:β->Hp->Prop}(f:Fut ρ H ρ' H') (h:End K xw rep ρ H Q r):End K xw rep ρ' H' Q r:=by
 cases r with
 |ok d S=>exact λρ2 H2 v g st r=>h ρ2 H2 v (f.trans g) st r
 |ex c S=>exact λρ2 H2 g st=>h ρ2 H2 (f.trans g) st
 |no=>exact h
theorem End.bind {r:R α}{f:α->Store->R α'}{Q:β'->Hp->Prop}{Q1:β->Hp->Prop}(h:End K xw rep' ρ H Q (r.bind f))
  (k:∀d S ρ1 H1 v,Fut ρ H ρ1 H1->St3 K ρ1 S H1->rep ρ1 H1 d v->End K xw rep' ρ1 H1 Q (f d S)->Q1 v H1):End K xw rep ρ H Q1 r:=by
 cases r with
 |ok d S=>exact λρ1 H1 v g st r=>k d S ρ1 H1 v g st r (End.mono g h)
 |ex c S=>exact h
 |no=>exact h
theorem End.ok {a:α}{S:Store}{Q:β->Hp->Prop}{v:β}(h:End K xw rep ρ H Q (.ok a S)) (st:St3 K ρ S H) (r:rep ρ H a v):Q v H:=h ρ H v (Fut.refl ρ H) st r
theorem End.ob {o:Option α}{S:Store}{f:α->Store->R α'}{Q:β'->Hp->Prop}(h:End K xw rep' ρ H Q ((Ev.ob o S).bind f)):∃a,o=some a/\End K xw rep' ρ H Q (f a S):=by
 cases o with
 |none=>exact h.elim
 |some a=>exact⟨a,rfl,h⟩
theorem End.ite {c:Prop}[Decidable c]{a b:R α}{Q:β->Hp->Prop}(h:End K xw rep ρ H Q (if c then a else b)):(c/\End K xw rep ρ H Q a)\/(¬c/\End K xw rep ρ H Q b):=by
 split at h
 ·exact .inl ⟨‹_›,h⟩
 ·exact .inr ⟨‹_›,h⟩
theorem End.guard {c:Prop}[Decidable c]{a:R α}{Q:β->Hp->Prop}(h:End K xw rep ρ H Q (if c then a else .no)):c/\End K xw rep ρ H Q a:=by
 rcases h.ite with h | ⟨_,h⟩
 ·exact h
 ·exact h.elim
end
def Xa (_:List Addr) (_:Hp) (a b:Bool):Prop:=a=b
def jL (_:List Addr) (_:Hp) (a b:Option Int):Prop:=a=b
section
variable (X:Cx) (xw:Nat->Hp->Prop)
noncomputable def tE (f:Lc->Store->R D):TE:=λσ H Q=>∃ρ l S,St3 X.K ρ S H/\LocR ρ H l σ/\End X.K xw Rep ρ H Q (f l S)
noncomputable def tA (f:Lc->Store->R (List D)):TA:=λσ H Q=>∃ρ l S,St3 X.K ρ S H/\LocR ρ H l σ/\End X.K xw Reps ρ H Q (f l S)
noncomputable def tB3 (f:Lc->Store->R Bool):TT:=λσ H Q=>∃ρ l S,St3 X.K ρ S H/\LocR ρ H l σ/\End X.K xw Xa ρ H Q (f l S)
noncomputable def tO (f:Lc->Store->R (Option Int)):TO:=λσ H Q=>∃ρ l S,St3 X.K ρ S H/\LocR ρ H l σ/\End X.K xw jL ρ H Q (f l S)
variable (C:Calls)
def CE (e:Expr) (i:E):Prop:=PE X e (tE X xw (ev C i))
def CT (e:Expr) (i:E):Prop:=PT X e (tB3 X xw (tst C i))
def CA (es:List Expr) (is:List E):Prop:=PA X es (tA X xw (evs C is))
def CO (e:Option Expr) (i:Option E):Prop:=PO X e (tO X xw (evo C i))
end
theorem PE.imp {X:Cx}{e:Expr}{t t':TE}(h:PE X e t) (k:∀σ H Q,t' σ H Q->t σ H Q):PE X e t':=λpins s σ H Q I q=>h pins s σ H Q I (k σ H Q q)
theorem PT.imp {X:Cx}{e:Expr}{t t':TT}(h:PT X e t) (k:∀σ H Q,t' σ H Q->t σ H Q):PT X e t':=λpins s σ H Q I q=>h pins s σ H Q I (k σ H Q q)
theorem PA.imp {X:Cx}{e:List Expr}{t t':TA}(h:PA X e t) (k:∀σ H Q,t' σ H Q->t σ H Q):PA X e t':=λpos pins s σ H Q I q=>h pos pins s σ H Q I (k σ H Q q)
theorem PO.imp {X:Cx}{e:Option Expr}{t t':TO}(h:PO X e t) (k:∀σ H Q,t' σ H Q->t σ H Q):PO X e t':=λpins s σ H Q I q=>h pins s σ H Q I (k σ H Q q)
section
variable {K:PySem.W.Frag}{ρ ρ':List Addr}{S:Store}{H H':Hp}{a p:Addr}{n:Nat}
theorem St3.at (st:St3 K ρ S H) {o:Ob}(h:S[n]? = some o):∃a,ρ[n]? = some a/\Qo K ρ H a o:=by
 have hn:n<S.length:=(Pq.mp h).1;have hr:n<ρ.length:=by rw[st.len];exact hn
 exact⟨ρ[n],Pc hr,st.ob n o _ h (Pc hr)⟩
theorem Paired.map2 {α β:Type}{F G:α->β->Prop}:∀{l₁:List α}{l₂:List β},Paired F l₁ l₂->(∀a b,F a b->G a b)->Paired G l₁ l₂
 |_,_,.nil,_=>.nil
 |_,_,.cons r t,f=>.cons (f _ _ r) (Paired.map2 t f)
theorem Qo.keep {o:Ob}(f:Fut ρ H ρ' H') (k:∀u,H a=some u->H' a=some u) (h:Qo K ρ H a o):Qo K ρ' H' a o:=by
 cases o with
 |lst ds=>obtain⟨xs,e,r⟩:=h;exact⟨xs,k _ e,r.mono f⟩
 |scr ns=>
  rcases h with ⟨o,e⟩ | h
  ·exact .inl ⟨o,k _ e⟩
  ·exact .inr h
 |dt kvs=>obtain⟨vs,e,r⟩:=h;exact⟨vs,k _ e,Paired.map2 r λp q z=>⟨z.1,z.2.mono f⟩⟩
 |dk kvs=>obtain⟨vs,e,r⟩:=h;exact⟨vs,k _ e,Paired.map2 r λp q z=>⟨z.1,z.2.mono f⟩⟩
 |st _=>exact h
theorem Z9 {o:HO}(hp:H p=none):Fut ρ H ρ (upd H p o):=⟨⟨[],by simp⟩,λb xs h=>by rw[ZE (ZA h hp)];exact h⟩
theorem WO {o:HO}(hp:H p=none):Fut ρ H (ρ++[p]) (upd H p o):=⟨⟨[p],rfl⟩,λb xs h=>by rw[ZE (ZA h hp)];exact h⟩
theorem St3.fresh {o:HO}(st:St3 K ρ S H) (hp:H p=none):St3 K ρ S (upd H p o):=
 ⟨st.len,st.nd,λn ob a h1 h2=>(st.ob n ob a h1 h2).keep (Z9 hp) λu e=>by rw[ZE (ZA e hp)];exact e⟩
theorem St3.new {o:Ob}{ho:HO}(st:St3 K ρ S H) (hp:H p=none) (r:Qo K (ρ++[p]) (upd H p ho) p o):St3 K (ρ++[p]) (S++[o]) (upd H p ho):=by
 have old:∀(m:Nat),(ρ++[p])[m]? = some p->m≠S.length->∃ns,S[m]? = some (.scr ns):=λm e hm=>by
  have hml:m<S.length:=by
   have:=(Pq.mp e).1;rw[PM,st.len,Nb] at this;omega
  rw[Py (by rw[st.len];exact hml)] at e
  have q:=st.ob m S[m] p (Pc hml) e;rw[Pc hml];generalize S[m]=ob at q;cases ob with
  |lst ds=>obtain⟨xs,z,_⟩:=q;rw[hp] at z;cases z
  |scr ns=>exact⟨ns,rfl⟩
  |dt kvs=>obtain⟨xs,z,_⟩:=q;rw[hp] at z;cases z
  |dk kvs=>obtain⟨xs,z,_⟩:=q;rw[hp] at z;cases z
  |st _=>exact q.elim
 have lenE:(S++[o])[S.length]? = some o:=by simp
 have up:∀{m:Nat} {ns:List Int},S[m]? = some (.scr ns)->(S++[o])[m]? = some (.scr ns):=λ{m ns} e=>by
  rw[Py (Pq.mp e).1];exact e
 refine⟨by rw[PM,PM,st.len];rfl,λm n a h1 h2 ne=>?_,λn ob a h1 h2=>?_⟩
 ·by_cases hm:m=S.length
  ·have ha:a=p:=by
    rw[hm,<-st.len,PN (Pl _)] at h1
    simpa using h1.symm
   rw[ha] at h2;obtain⟨ns,e⟩:=old n h2 (by omega)
   exact .inr ⟨ns,up e⟩
  ·by_cases hn:n=S.length
   ·have ha:a=p:=by
     rw[hn,<-st.len,PN (Pl _)] at h2
     simpa using h2.symm
    rw[ha] at h1;obtain⟨ns,e⟩:=old m h1 hm;exact .inl ⟨ns,up e⟩
   ·have lt:∀{k:Nat},(ρ++[p])[k]? = some a->k≠S.length->ρ[k]? = some a:=λ{k} e hk=>by
     have:=(Pq.mp e).1;rw[PM,st.len,Nb] at this;rw[Py (by rw[st.len];omega)] at e
     exact e
    rcases st.nd m n a (lt h1 hm) (lt h2 hn) ne with ⟨ns,e⟩ | ⟨ns,e⟩
    ·exact .inl ⟨ns,up e⟩
    ·exact .inr ⟨ns,up e⟩
 ·by_cases hn:n=S.length
  ·subst hn
   rw[lenE] at h1;cases h1;have ha:a=p:=by
    rw[<-st.len,PN (Pl _)] at h2
    simpa using h2.symm
   subst ha;exact r
  ·have hl:n<S.length:=by
    have:=(Pq.mp h1).1;rw[PM,Nb] at this;omega
   rw[Py hl] at h1;rw[Py (by rw[st.len];exact hl)] at h2
   exact (st.ob n ob a h1 h2).keep (WO hp) λu e=>by rw[ZE (ZA e hp)];exact e
theorem YJ {xs ys:List V}(h:H a=some (.lst xs)):Fut ρ H ρ (upd H a (.lst ys)):=⟨⟨[],by simp⟩,λb zs e=>by
 rw[ZE (by intro z;rw[z,h] at e;cases e)];exact e⟩
theorem St3.wr {xs ys:List V}{ds es:List D}(st:St3 K ρ S H) (hr:ρ[n]? = some a) (hS:S[n]? = some (.lst ds)) (h:H a=some (.lst xs)) (r:Reps ρ H es ys):St3 K ρ (S.set n (.lst es)) (upd H a (.lst ys)):=by
 have f:=YJ (ρ:=ρ) (ys:=ys) h;refine⟨by rw[PV];exact st.len,λm k b h1 h2 ne=>?_,λm ob b h1 h2=>?_⟩
 ·have keep:∀{j:Nat} {ns:List Int},S[j]? = some (.scr ns)->(S.set n (.lst es))[j]? = some (.scr ns):=λ{j ns} e=>by
   rw[Nv];split
   ·rename_i z;rw[<-z,hS] at e;cases e
   ·exact e
  rcases st.nd m k b h1 h2 ne with ⟨ns,e⟩ | ⟨ns,e⟩
  ·exact .inl ⟨ns,keep e⟩
  ·exact .inr ⟨ns,keep e⟩
 ·by_cases hm:n=m
  ·subst hm
   rw[hr] at h2;cases h2;rw[Nv,Ph rfl] at h1;split at h1
   ·cases h1
    exact⟨ys,Ye,r.mono f⟩
   ·cases h1
  ·rw[Nv,Pi hm] at h1
   have q:=st.ob m ob b h1 h2;by_cases hb:b=a
   ·subst hb
    rcases st.nd n m b hr h2 hm with ⟨ns,e⟩ | ⟨ns,e⟩
    ·rw[hS] at e;cases e
    ·rw[h1] at e
     cases e;rcases q with ⟨o,e⟩ | q
     ·rw[h] at e;cases e
     ·exact .inr q
   ·exact q.keep f λu e=>by rw[ZE hb];exact e
theorem St3.lst (st:St3 K ρ S H) {ds:List D}(h:Ev.Zi S n=some ds):S[n]? = some (.lst ds)/\∃a xs,ρ[n]? = some a/\H a=some (.lst xs)/\Reps ρ H ds xs:=by
 unfold Ev.Zi at h;split at h
 ·rename_i zs e
  cases h;obtain⟨a,hr,xs,e2,r⟩:=st.at e;exact⟨e,a,xs,hr,e2,r⟩
 ·cases h
theorem St3.seq (st:St3 K ρ S H) {ds:List D}(h:Ev.Z2 S n=some ds):∃a xs,ρ[n]? = some a/\SqL K H a xs/\Reps ρ H ds xs:=by
 unfold Ev.Z2 at h;split at h
 ·rename_i zs e
  cases h;obtain⟨a,hr,xs,e2,r⟩:=st.at e;exact⟨a,xs,hr,SqL.of e2,r⟩
 ·rename_i ns e
  cases h;obtain⟨a,hr,q⟩:=st.at e;exact⟨a,_,hr,Scr.sq q,Reps.ints ns⟩
 ·cases h
end
section
variable {ρ:List Addr}{H:Hp}{v:V}
theorem Rep.int' {i:Int}(h:Rep ρ H (.int i) v):v=.int i:=by unfold Rep at h;exact h
theorem Rep.bl' {b:Bool}(h:Rep ρ H (.bl b) v):v=.bl b:=by unfold Rep at h;exact h
theorem Rep.non' (h:Rep ρ H .non v):v=.non:=by unfold Rep at h;exact h
theorem Rep.str' {x:Str}(h:Rep ρ H (.str x) v):v=.str x:=by unfold Rep at h;exact h
theorem Rep.tup' {ds:List D}(h:Rep ρ H (.tup ds) v):∃a xs,v=.ref a/\H a=some (.tup xs)/\Reps ρ H ds xs:=by unfold Rep at h;exact h
theorem Rep.loc' {n:Nat}(h:Rep ρ H (.loc n) v):∃a,v=.ref a/\ρ[n]? = some a:=by unfold Rep at h;exact h
theorem Zn (i:Int):Rep ρ H (.int i) (.int i):=by unfold Rep;rfl
theorem Zq (b:Bool):Rep ρ H (.bl b) (.bl b):=by unfold Rep;rfl
theorem W6:Rep ρ H .non .non:=by unfold Rep;rfl
theorem ZN {ds:List D}{a:Addr}{xs:List V}(h:H a=some (.tup xs)) (r:Reps ρ H ds xs):Rep ρ H (.tup ds) (.ref a):=by unfold Rep;exact⟨a,xs,rfl,h,r⟩
theorem VX {n:Nat}{a:Addr}(h:ρ[n]? = some a):Rep ρ H (.loc n) (.ref a):=by unfold Rep;exact⟨a,rfl,h⟩
end
theorem Wz:Ev.lim=sizeLine:=by rw[Nt];rfl
section
variable {K:PySem.W.Frag}{xw:Nat->Hp->Prop}{ρ:List Addr}{H:Hp}{S:Store}{Q:VK}
theorem End.newT {ds:List D}{xs:List V}(h:End K xw Rep ρ H Q (.ok (.tup ds) S)) (st:St3 K ρ S H) (r:Reps ρ H ds xs):∀p,H p=none->Q (.ref p) (upd H p (.tup xs)):=λp hp=>
 h ρ _ _ (Z9 hp) (st.fresh hp) (ZN Ye (r.mono (Z9 hp)))
theorem End.newL {ds:List D}{xs:List V}(h:End K xw Rep ρ H Q (.ok (.loc S.length) (S++[.lst ds]))) (st:St3 K ρ S H) (r:Reps ρ H ds xs):∀p,H p=none->Q (.ref p) (upd H p (.lst xs)):=λp hp=>
 h (ρ++[p]) _ _ (WO hp) (st.new hp ⟨xs,Ye,r.mono (WO hp)⟩) (VX (by rw[<-st.len];simp))
end
section
variable {X:Cx}{xw:Nat->Hp->Prop}{C:Calls}{e a b c:Expr}{i j k:E}{pos:Pos}
theorem zP {n:Int}{q}:CE X xw C (.Constant (.int n) q pos) (.c (.int n)):=PE.imp ZaQ λσ H Q ⟨ρ,l,S,st,lr,h⟩=>End.ok h st (Zn n)
theorem uz {n:Bool}{q}:CE X xw C (.Constant (.bool n) q pos) (.c (.bl n)):=PE.imp j6 λσ H Q ⟨ρ,l,S,st,lr,h⟩=>End.ok h st (Zq n)
theorem zn {q}:CE X xw C (.Constant .none q pos) (.c .non):=PE.imp Zbp λσ H Q ⟨ρ,l,S,st,lr,h⟩=>End.ok h st W6
theorem Zaj (n:Nat) {x:Str}(hN:X.N[n]? = some x:=by rfl) (hv:Vis X.env.scope x:=by first | exact Or.inl rfl | exact Or.inr (Or.inl rfl) | exact Or.inr (Or.inr rfl)) (hd:(x == ("__debug__" : Str))=false:=by decide)
  (hcd:(x == ("__classdict__" : Str))=false:=by decide):CE X xw C (.Name x pos) (.v n):=PE.imp (Zbh hN hv hd hcd) λσ H Q ⟨ρ,l,S,st,lr,h⟩=>by
 rw[ev] at h;cases q:l[n]? with
 |none=>rw[q] at h;exact h.elim
 |some o=>
  cases o with
  |none=>rw[q] at h;exact h.elim
  |some d=>
   rw[q] at h;obtain⟨v,q2,r⟩:=lr.val n d q;exact⟨v,q2,End.ok h st r⟩
theorem yo:CA X xw C [] []:=PA.imp JV λσ H Q ⟨ρ,l,S,st,lr,h⟩=>by
 rw[evs] at h;exact End.ok h st Reps.nil
theorem JZ {es:List Expr}{is:List E}(ha:CE X xw C e i) (hr:CA X xw C es is) (hs:starEach (e::es) X.env=(false,eval e X.env)::starEach es X.env:=by rfl):CA X xw C (e::es) (i::is):=
 PA.imp (Xs ha hr hs) λσ H Q ⟨ρ,l,S,st,lr,h⟩=>by
  rw[evs] at h;exact⟨ρ,l,S,st,lr,h.bind λx S1 ρ1 H1 v f1 st1 r1 h1=>⟨ρ1,l,S1,st1,lr.mono f1,h1.bind λxs S2 ρ2 H2 vs f2 st2 r2 h2=>h2.ok st2 (Reps.cons (r1.mono f2) r2)⟩⟩
theorem zy {es:List Expr}{is:List E}{q}(h:CA X xw C es is):CE X xw C (.Tuple es q pos) (.tup is):=PE.imp (w6 h) λσ H Q ⟨ρ,l,S,st,lr,h⟩=>by
 rw[ev] at h;refine⟨ρ,l,S,st,lr,h.bind λxs S1 ρ1 H1 vs f1 st1 r1 h1=>?_⟩
 obtain⟨hl,h1⟩:=h1.guard;exact⟨by rw[r1.length,<-Wz];exact hl,h1.newT st1 r1⟩
theorem z8 {es:List Expr}{is:List E}(h:CA X xw C es is):CE X xw C (.List es pos) (.lst is):=PE.imp (ZaV h) λσ H Q ⟨ρ,l,S,st,lr,h⟩=>by
 rw[ev] at h;refine⟨ρ,l,S,st,lr,h.bind λxs S1 ρ1 H1 vs f1 st1 r1 h1=>?_⟩
 obtain⟨hl,h1⟩:=h1.guard;exact⟨by rw[r1.length,<-Wz];exact hl,h1.newL st1 r1⟩
theorem XQ {r:R2}{g:D->D->Store->R D}(hg:∀{ρ H S x y v u Q},St3 X.K ρ S H->Rep ρ H x v->Rep ρ H y u->End X.K xw Rep ρ H Q (g x y S)->r v u H Q) :
  ∀σ H Q,tE X xw (λl S=>(ev C i l S).bind λx S=>(ev C j l S).bind λy S=>g x y S) σ H Q->tOp r (tE X xw (ev C i)) (tE X xw (ev C j)) σ H Q:=λσ H Q ⟨ρ,l,S,st,lr,h⟩=>
 ⟨ρ,l,S,st,lr,h.bind λx S1 ρ1 H1 v f1 st1 r1 h1=>⟨ρ1,l,S1,st1,lr.mono f1,h1.bind λy S2 ρ2 H2 u f2 st2 r2 h2=>hg st2 (r1.mono f2) r2 h2⟩⟩
end
section
variable {X:Cx}
noncomputable def v7 (K:PySem.W.Frag):R2:=λx y H Q=>∃a b ys,x=.ref a/\y=.ref b/\SqT K H a []/\SqT K H b ys/\Q (.ref b) H
theorem uW:OpR X (binaryOp .Add) (v7 X.K):=by
 intro pins s σ H x y v u Q I rx ry h;obtain⟨a,b,ys,rfl,rfl,ha,hb,q⟩:=h;cases rx;cases ry;obtain⟨its,r1,p1,_⟩:=I.tuple ha;obtain⟨its2,r2,p2,_⟩:=I.tuple hb;have e0:its=[]:=r1.nil_iff.mpr rfl;obtain⟨⟨cls,dd,data,sl⟩,ho,hc,n,hd⟩:=id p1;obtain⟨⟨cls2,dd2,data2,sl2⟩,ho2,hc2,n2,hd2⟩:=id p2;simp only at hc hd hc2 hd2;subst hc hd hc2 hd2;exact concat_meets ⟨_,ho,rfl⟩ ⟨_,ho2,rfl⟩ noFill_tuple_add seq_tuple_add PySem.F.slot_tuple_add PySem.F.entry_tuple_add (PySem.F.args_tuple_add_2 _ _)
   (tuple_addW0 a b its.toArray its2.toArray n n2 dd dd2 sl sl2 (by rw[e0];rfl)) ⟨ho,ho2,⟨.ref b,H,I,rfl,q⟩⟩
noncomputable def Zck (K:PySem.W.Frag):V->Option Int->Option Int->Hp->VK->Prop:=λx lo hi H Q=>∃a xs,x=.ref a/\SqT K H a xs/\
 (HT.sIx xs.length 0 lo=0/\HT.sIx xs.length xs.length hi=xs.length)/\Q (.ref a) H
theorem Wh {prog:Program}{w:World}{A:Around}{E:Value->Shared->Prop}{s:Shared}{t sl:Addr}{items:Array Value}{vl vu:Value}{lo hi:Option Int}{Q:Value->Shared->Prop}(ht:IsTup s.heap t items) (hs:s.heap.IsSliceOf sl vl vu .none) (pl:IsPart vl lo) (pu:IsPart vu hi)
  (hw:HT.sIx items.size 0 lo=0/\HT.sIx items.size items.size hi=items.size) (h:Q (.ref t) s):wpAny (model prog w) A (getItem (.ref t) (.ref sl)) Q E s:=by
 obtain⟨os,hos,hcs,hds⟩:=id hs;have hTs:s.TypeIs (.ref sl) "slice":=⟨os,hos,hcs⟩;unfold getItem
 try with_reducible refine Nf ?_
 first | refine Pa (Pj ?_) | skip
 refine Pa (wpAny_sequenceKey ht.typeIs (by decide) ?_)
 refine Pa (Nu (name:=Str.ofString "__getitem__") ht.typeIs NC
  (NF NC ht.typeIs entry_tuple_getitem ?_ (args_tuple_getitem _ _)))
 show wpAny _ _ (Builtin.Tuple.tupleItemsOf (.ref t) >>= _) _ _ s;refine Pa (tupleItemsOf_ ht ?_);refine Pa (wpAny_typeOf hTs ?_);rw[Ph (by decide)]
 refine Pa (HT.Y8 hs pl pu ?_);have hyes:((((HT.sIx items.size 0 lo:Nat):Int) == 0&&(1:Int) == 1&&(HT.sIx items.size items.size hi-HT.sIx items.size 0 lo) == items.size)=true):=by
  rw[hw.1,hw.2];simp
 show wpAny _ _ (if (((HT.sIx items.size 0 lo:Nat):Int) == 0&&(1:Int) == 1&&(HT.sIx items.size items.size hi-HT.sIx items.size 0 lo) == items.size)=true then _ else _) _ _ s
 rw[Ph hyes];refine Pa (Pa (wpAny_typeOf ht.typeIs (Pj ?_)));rw[Ph (by decide)]
 exact Pa (wpAny_rule (Pj ⟨_,rfl,Pj h⟩))
theorem qh:SlR X (Zck X.K):=by
 intro pins s σ H x v vl vu lo hi sl Q I rx hs pl pu h;obtain⟨a,xs,rfl,hx,hw,q⟩:=h;cases rx;obtain⟨its,r,ht,hz⟩:=I.tuple hx;have hlen:its.toArray.size=xs.length:=by rw[Pf];exact r.length.symm
 refine⟨"tuple",_,PyProof.Rows.slot_tuple_getitem.lookup,ht.typeIs,?_⟩;exact Wh ht hs pl pu (by rw[hlen];exact hw) ⟨.ref a,H,I,rfl,q⟩
theorem xC {i:Int}(h:Ev.fits i=true):Builtin.Int.intBits i<=2^20:=by
 have h1:i.natAbs<2^1000:=Pw h;unfold Builtin.Int.intBits;split
 ·exact Nat.zero_le _
 ·rename_i hz
  have hne:i.natAbs≠0:=by intro z;exact hz (by simp[Int.natAbs_eq_zero.mp z])
  have:=(Nat.log2_lt hne).mpr h1;have e:(2:Nat)^20=1048576:=by decide
  omega
theorem qQ:OpR X (binaryOp .Mult) (rI (λi j=>Ev.fits i=true/\Ev.fits j=true) λi j=>.int (i*j)):=opI λ_ _ _ _ _ _ _ hc q=>mul_int q (IntMulOk.of_bits (xC hc.1) (xC hc.2))
theorem Zas:OpR X (compareOp .Is) (λx y H Q=>∃a b,x=.bl a/\y=.bl b/\Q (.bl (decide (a=b))) H):=by
 intro pins s σ H x y v u Q I rx ry h;obtain⟨a,b,rfl,rfl,q⟩:=h;cases rx;cases ry;cases a <;> cases b <;> exact Pj ⟨.bl _,H,I,rfl,q⟩
theorem jg:OpR X (compareOp .IsNot) (λx y H Q=>∃a b,x=.bl a/\y=.bl b/\Q (.bl (decide (a≠b))) H):=by
 intro pins s σ H x y v u Q I rx ry h;obtain⟨a,b,rfl,rfl,q⟩:=h;cases rx;cases ry;cases a <;> cases b <;> exact Pj ⟨.bl _,H,I,rfl,q⟩
end
end Sd
namespace Sd
open PySem PySem.Spec PyProof.Rows L2
theorem U4:fillsNumberSlot (.type "tuple") "mul" = pure false:=
 PySem.fillsNumberSlot_seq (id:="tuple.__mul__") (r:=some (.builtin "tuple.__rmul__")) F.slot_tuple_mul.lookup (by decide +kernel) F.slot_tuple_rmul.lookup (by decide +kernel)
theorem JT:seqRepeat? (.type "tuple")=pure (some (.builtin "tuple.__mul__")):=by
 unfold seqRepeat?
 rw[PySem.seqSlot_of (T:="tuple") (name:="__mul__") (id:="tuple.__mul__") F.slot_tuple_mul.lookup (by decide +kernel),PySem.seqSlot_of (T:="tuple") (name:="__rmul__") (id:="tuple.__rmul__") F.slot_tuple_rmul.lookup (by decide +kernel)]
 rfl
theorem UK (a:Int) (t:Tok) (l:Addr) (items:Array Value) (n:Nat) (dd:Option Addr) (sl:Array (Option Value)) :
  Meets (Builtin.«int.__rmul__» ⟨[.int a t,.ref l],[]⟩) (λ_ R s=>s.heap.get? l=some { cls:=.type "tuple",dict:=dd,data:=.seq items n,slots:=sl }/\R (.ok (.ret Value.notImplemented)) s):=
 .of_wp λprog w A R s h=>by obtain⟨hp,g,d,tk,os⟩:=s;obtain⟨hl,h⟩:=h;wp_walk;exact⟨_,rfl,h⟩
theorem Ji (l:Addr) (items:Array Value) (n:Nat) (dd:Option Addr) (sl:Array (Option Value)) (x:Int) (u:Tok) (h0:¬(x < -(2^63)||x>=2^63)=true) (hc:(items.isEmpty||x == 1)=true) :
  Meets (Builtin.«tuple.__mul__» ⟨[.ref l,.int x u],[]⟩) (λ_ R s=>s.heap.get? l=some { cls:=.type "tuple",dict:=dd,data:=.seq items n,slots:=sl }/\R (.ok (.ret (Value.ref l))) { s with heap:=s.heap,toks:=s.toks }):=
 .of_wp λprog w A R s h=>by obtain⟨hp,g,d,tk,os⟩:=s;obtain⟨hl,h⟩:=h;have f1:=AutoSeq1.idx_int;have f2:=AutoSeq1.sub_tuple_tuple;wp_walk;rw[Pi h0];wp_walk using NG hl;exact⟨_,rfl,h⟩
theorem Jg (l:Addr) (items:Array Value) (n:Nat) (dd:Option Addr) (sl:Array (Option Value)) (x:Int) (u:Tok) (h0:¬(x < -(2^63)||x>=2^63)=true) (hc:¬(items.isEmpty||x == 1)=true) (h1:(x<=0||items.isEmpty)=true) :
  Meets (Builtin.«tuple.__mul__» ⟨[.ref l,.int x u],[]⟩) (λ_ R s=>s.heap.get? l=some { cls:=.type "tuple",dict:=dd,data:=.seq items n,slots:=sl }/\R (.ok (.ret (Value.ref s.heap.objs.size))) { s with heap:=s.heap.push { cls:=.type "tuple",data:=.seq #[] },toks:=s.toks }):=
 .of_wp λprog w A R s h=>by obtain⟨hp,g,d,tk,os⟩:=s;obtain⟨hl,h⟩:=h;have f1:=AutoSeq1.idx_int;have f2:=AutoSeq1.sub_tuple_tuple;wp_walk;rw[Pi h0];wp_walk using NG hl;exact⟨_,rfl,h⟩
theorem Gm (l:Addr) (items:Array Value) (n:Nat) (dd:Option Addr) (sl:Array (Option Value)) (x:Int) (u:Tok) (h0:¬(x < -(2^63)||x>=2^63)=true) (hc:¬(items.isEmpty||x == 1)=true) (h1:¬(x<=0||items.isEmpty)=true)
  (h2:¬(items.size*x>(2^63-1) / 8)) (h3:¬Builtin.Tuple.tupleTooMany (items.size*x)=true) (hsz:((List.replicate x.toNat items).foldl (·++·) #[]).size<=sizeLine) :
  Meets (Builtin.«tuple.__mul__» ⟨[.ref l,.int x u],[]⟩) (λ_ R s=>s.heap.get? l=some { cls:=.type "tuple",dict:=dd,data:=.seq items n,slots:=sl }/\R (.ok (.ret (Value.ref s.heap.objs.size))) { s with heap:=s.heap.push { cls:=.type "tuple",data:=.seq ((List.replicate x.toNat items).foldl (·++·) #[]) },toks:=s.toks }):=
 .of_wp λprog w A R s h=>by obtain⟨hp,g,d,tk,os⟩:=s;obtain⟨hl,h⟩:=h;have f1:=AutoSeq1.idx_int;have f2:=AutoSeq1.sub_tuple_tuple;wp_walk;rw[Pi h0];wp_walk using NG hl;rw[Pi h2];wp_walk using NG hl;exact⟨_,rfl,h⟩
noncomputable def Zaa (K:PySem.W.Frag):R2:=λx y H Q=>∃a k xs,x=.ref a/\y=.int k/\SqT K H a xs/\(0<=k/\k<1000/\xs.length<=1000)/\
 ((xs=[]\/k=1)->Q (.ref a) H)/\(¬(xs=[]\/k=1)->∀p,H p=none->Q (.ref p) (upd H p (.tup (List.replicate k.toNat xs).flatten)))
theorem jV {X:Cx}:OpR X (binaryOp .Mult) (Zaa X.K):=by
 intro pins s σ H x y v u Q I rx ry h;obtain⟨a,k,xs,rfl,rfl,hx,⟨k0,k1,hz⟩,q1,q2⟩:=h;cases rx;obtain⟨t,rfl⟩:=ry;obtain⟨its,r,pt,_⟩:=I.tuple hx;have hl:=r.length;obtain⟨⟨cls,dd,data,sl⟩,ho,hc,n,hd⟩:=id pt;simp only at hc hd;subst hc hd;have h0:¬(decide (k < -(2^63))||decide (k>=2^63))=true:=by
  rw[P1 (by omega),P1 (by omega)];exact Pr
 refine wpAny_binaryOp_repeat_ref (T:="tuple") (U:="int") (by decide) ⟨_,ho,rfl⟩ (λs'=>typeIs_int s' k t) U4 F.fills_int_mul F.slot_int_rmul JT F.slot_int_index.lookup
  (call_meets F.slot_int_rmul (typeIs_int s k t) F.entry_int_rmul (F.args_int_rmul_2 _ _) (UK k t a its.toArray n dd sl) ⟨ho,rfl,⟨_,ho,rfl⟩,?_⟩)
 have hnil:its=[]↔xs=[]:=r.nil_iff;by_cases c:xs=[]\/k=1
 ·have c':(its.toArray.isEmpty||k == 1)=true:=by
   rcases c with c | c
   ·rw[hnil.mpr c];rfl
   ·rw[c];simp
  exact call_meets F.slot_tuple_mul ⟨_,ho,rfl⟩ F.entry_tuple_mul (F.args_tuple_mul_2 _ _) (Ji a its.toArray n dd sl k t h0 c') ⟨ho,⟨.ref a,H,I,rfl,q1 c⟩⟩
 ·have ne:its≠[]:=λz=>c (.inl (hnil.mp z))
  have k1:k≠1:=λz=>c (.inr z)
  have c':¬(its.toArray.isEmpty||k == 1)=true:=by
   rw[Ny.mpr k1,Bool.or_false,List.isEmpty_toArray];cases its with
   |nil=>exact absurd rfl ne
   |cons _ _=>exact Pr
  have fin:∀arr:List Value,arr=(List.replicate k.toNat its).flatten->EP X pins σ Q (Value.ref s.heap.objs.size) { s with heap:=s.heap.push { cls:=.type "tuple",data:=.seq arr.toArray } }:=λarr e=>by
   subst e;refine⟨.ref s.heap.objs.size,_,I.laid (t':=s.toks) (o:=.tup (List.replicate k.toNat xs).flatten) (λb ob q=>Pg _ q) (Pl _) ?_,rfl,q2 c _ (I.hok.fresh (Pl _))⟩
   refine⟨?_,_,r.rep k.toNat,IsTup.new _ _⟩;rw[Ju,Nt];have:k.toNat*xs.length<=1000*1000:=Nat.mul_le_mul (by omega) hz
   omega
  by_cases z:k=0
  ·have h1:(decide (k<=0)||its.toArray.isEmpty)=true:=by rw[z];rfl
   refine call_meets F.slot_tuple_mul ⟨_,ho,rfl⟩ F.entry_tuple_mul (F.args_tuple_mul_2 _ _) (Jg a its.toArray n dd sl k t h0 c' h1) ⟨ho,?_⟩;exact fin [] (by rw[z];rfl)
  ·have h1:¬(decide (k<=0)||its.toArray.isEmpty)=true:=by
    rw[P1 (by omega),Bool.false_or,List.isEmpty_toArray]
    cases its with
    |nil=>exact absurd rfl ne
    |cons _ _=>exact Pr
   have hm:(its.toArray.size:Int)*k<=1000*1000:=by
    rw[Pf,<-hl];exact Int.mul_le_mul (by omega) (by omega) k0 (by omega)
   have joined:(List.replicate k.toNat its.toArray).foldl (·++·) #[]=(List.replicate k.toNat its).flatten.toArray:=by
    have:=VA its k.toNat [];rw[List.nil_append] at this;exact this
   have hsz:((List.replicate k.toNat its.toArray).foldl (·++·) #[]).size<=sizeLine:=by
    rw[joined,Pf,Ju,Nt,<-hl];have:k.toNat*xs.length<=1000*1000:=Nat.mul_le_mul (by omega) hz
    omega
   refine call_meets F.slot_tuple_mul ⟨_,ho,rfl⟩ F.entry_tuple_mul (F.args_tuple_mul_2 _ _) (Gm a its.toArray n dd sl k t h0 c' h1 (by omega) (by
    unfold Builtin.Tuple.tupleTooMany;rw[P1 (by rw[Nt];omega)]
    exact Pr) hsz) ⟨ho,?_⟩
   rw[joined];exact fin _ rfl
noncomputable def j7:R2:=λx y H Q=>∃a k xs,x=.ref a/\y=.int k/\H a=some (.lst xs)/\(0<=k/\k<1000/\xs.length<=1000)/\∀p,H p=none->Q (.ref p) (upd H p (.lst (List.replicate k.toNat xs).flatten))
theorem qX {X:Cx}:OpR X (binaryOp .Mult) j7:=by
 intro pins s σ H x y v u Q I rx ry h;obtain⟨a,k,xs,rfl,rfl,hx,⟨k0,k1,hz⟩,q2⟩:=h;cases rx;obtain⟨t,rfl⟩:=ry;obtain⟨its,r,pl,_⟩:=I.list (SqL.of hx);have hl:=r.length;obtain⟨⟨cls,dd,data,sl⟩,n,ho,hc,hd2,hd⟩:=id pl;simp only at hc hd hd2;subst hc hd;have hm:k.toNat*its.length<=1000*1000:=Nat.mul_le_mul (by omega) (by omega)
 have hm2:its.length*k.toNat<=1000*1000:=by rw[Nat.mul_comm];exact hm
 refine wpAny_binaryOp_repeat_ref (T:="list") (U:="int") (by decide) ⟨_,ho,rfl⟩ (λs'=>typeIs_int s' k t) noFill_list_mul F.fills_int_mul F.slot_int_rmul repeat_list F.slot_int_index.lookup
  (call_meets F.slot_int_rmul (typeIs_int s k t) F.entry_int_rmul (F.args_int_rmul_2 _ _) (lm_int_rmul_list_any k t a its.toArray n dd sl) ⟨ho,rfl,⟨_,ho,rfl⟩,
   call_meets F.slot_list_mul ⟨_,ho,rfl⟩ F.entry_list_mul (F.args_list_mul_2 _ _) (lm_list_mul_any a its.toArray n dd sl k t (by simp[Builtin.List.listFitsIndex];omega) (by rw[Pf];omega) (by rw[Pf];simp[Builtin.List.listTooLong,sizeLine];omega)) ⟨ho,?_⟩⟩)
 have joined:(List.replicate (if its.toArray.isEmpty=true then 0 else k.toNat) its.toArray).foldl (λx1 x2=>x1++x2) #[]=(List.replicate k.toNat its).flatten.toArray:=by
  have h0:=VA its k.toNat [];rw[List.nil_append] at h0;by_cases z:its=[]
  ·subst z
   have e:∀m:Nat,(List.replicate m ([]:List Value)).flatten=[]:=λm=>by induction m with | zero=>rfl | succ m ih=>rw[PZ,P6,ih];rfl
   rw[e];rfl
  ·rw[Pi (by rw[List.isEmpty_toArray];cases its with | nil=>exact absurd rfl z | cons _ _=>exact Pr)]
   exact h0
 rw[joined];refine⟨.ref s.heap.objs.size,_,I.laid (t':=s.toks) (o:=.lst (List.replicate k.toNat xs).flatten) (λb ob q=>Pg _ q) (Pl _) ?_,rfl,q2 _ (I.hok.fresh (Pl _))⟩
 refine⟨?_,_,0,r.rep k.toNat,Px _ rfl⟩;rw[Ju,Nt];rw[hl];omega
end Sd
namespace Sd
open PySem PySem.Spec PyProof.Rows L2
open Ev (D Ob Store Lc R E Sm Calls Walk Fl Fn Bop Cop Ty Bf Mf ev evs evo evt evw tst run runs)
section
variable {X:Cx}{xw:Nat->Hp->Prop}{C:Calls}{e a b c:Expr}{i j k:E}{pos:Pos}
variable {ρ:List Addr}{H:Hp}{S:Store}{x y:D}{v u:V}{Q:VK}{K:PySem.W.Frag}
noncomputable def Zad (K:PySem.W.Frag):R2:=λx y H Q=>rI0 (λi j=>.int (i+j)) x y H Q\/(j9 K x y H Q\/(v7 K x y H Q\/ZbA x y H Q))
theorem jG:OpR X (binaryOp .Add) (Zad X.K):=ZaX.or (je.or (uW.or Za2))
theorem Za1 (st:St3 K ρ S H) (rx:Rep ρ H x v) (ry:Rep ρ H y u) (h:End K xw Rep ρ H Q (Ev.binop .add x y S)):Zad K v u H Q:=by
 cases x with
 |int i=>cases y with
  |int j=>exact .inl ⟨i,j,rx.int',ry.int',End.ok h st (Zn _)⟩
  |_=>exact False.elim h
 |tup ds=>cases y with
  |tup es=>
   obtain⟨hl,h⟩:=End.guard h;obtain⟨p,xs,rfl,hp,r1⟩:=rx.tup';obtain⟨q,ys,rfl,hq,r2⟩:=ry.tup';have l1:=r1.length;have l2:=r2.length;by_cases z:xs=[]
   ·subst z
    have e1:ds=[]:=List.length_eq_zero_iff.mp l1.symm;subst e1;exact .inr (.inr (.inl ⟨p,q,ys,rfl,rfl,SqT.of hp,SqT.of hq,End.ok h st (ZN hq r2)⟩))
   ·refine .inr (.inl ⟨p,q,xs,ys,rfl,rfl,SqT.of hp,SqT.of hq,z,by rw[l1,l2,<-Wz];exact hl,λz2=>?_,λ_=>h.newT st (r1.append r2)⟩)
    subst z2;have e2:es=[]:=List.length_eq_zero_iff.mp l2.symm;subst e2;refine End.ok h st ?_;rw[NT];exact ZN hp r1
  |_=>exact False.elim h
 |loc m=>cases y with
  |loc n=>
   have h':End K xw Rep ρ H Q (match Ev.Zi S m,Ev.Zi S n with
    |some a,some b=>if a.length+b.length<=Ev.lim then .ok (.loc S.length) (S++[.lst (a++b)]) else .no
    |_,_=>.no):=h
   cases e1:Ev.Zi S m with
   |none=>rw[e1] at h';exact False.elim h'
   |some ds=>
    cases e2:Ev.Zi S n with
    |none=>rw[e1,e2] at h';exact False.elim h'
    |some es=>
     rw[e1,e2] at h';obtain⟨hl,h⟩:=End.guard h';obtain⟨_,p,xs,q1,hp,r1⟩:=st.lst e1;obtain⟨_,q,ys,q2,hq,r2⟩:=st.lst e2;obtain⟨p',rfl,t1⟩:=rx.loc';obtain⟨q',rfl,t2⟩:=ry.loc';rw[q1] at t1;cases t1;rw[q2] at t2;cases t2;exact .inr (.inr (.inr ⟨p,q,xs,ys,rfl,rfl,hp,hq,by rw[r1.length,r2.length,<-Wz];exact hl,h.newL st (r1.append r2)⟩))
  |_=>exact False.elim h
 |_=>cases y <;> exact False.elim h
theorem Zbf (st:St3 K ρ S H) (rx:Rep ρ H x v) (ry:Rep ρ H y u) (h:End K xw Rep ρ H Q (Ev.binop .sub x y S)):rI0 (λi j=>.int (i-j)) v u H Q:=by
 cases x with
 |int i=>cases y with
  |int j=>exact⟨i,j,rx.int',ry.int',End.ok h st (Zn _)⟩
  |_=>exact False.elim h
 |_=>cases y <;> exact False.elim h
noncomputable def j5 (K:PySem.W.Frag):R2:=λx y H Q=>rI (λi j=>Ev.fits i=true/\Ev.fits j=true) (λi j=>.int (i*j)) x y H Q\/(Zaa K x y H Q\/j7 x y H Q)
theorem jz:OpR X (binaryOp .Mult) (j5 X.K):=qQ.or (jV.or qX)
theorem Zao (st:St3 K ρ S H) (rx:Rep ρ H x v) (ry:Rep ρ H y u) (h:End K xw Rep ρ H Q (Ev.binop .mul x y S)):j5 K v u H Q:=by
 cases x with
 |int i=>cases y with
  |int j=>
   obtain⟨hc,h⟩:=End.guard h;exact .inl ⟨i,j,rx.int',ry.int',(Pz _ _).mp hc,End.ok h st (Zn _)⟩
  |_=>exact False.elim h
 |tup ds=>cases y with
  |int k=>
   obtain⟨⟨h0,h1,h2⟩,h⟩:=End.guard h;obtain⟨p,xs,rfl,hp,r1⟩:=rx.tup';have l1:=r1.length;refine .inr <| .inl ⟨p,k,xs,rfl,ry.int',SqT.of hp,⟨h0,h1,by rw[l1];exact h2⟩,λz=>?_,λ_=>h.newT st (r1.rep k.toNat)⟩
   refine End.ok h st (ZN hp ?_);rcases z with z | z
   ·subst z
    have e1:ds=[]:=List.length_eq_zero_iff.mp l1.symm;subst e1;have:∀m:Nat,(List.replicate m ([]:List D)).flatten=[]:=λm=>by induction m with | zero=>rfl | succ m ih=>rw[PZ,P6,ih];rfl
    rw[this];exact Reps.nil
   ·subst z
    show Reps ρ H (List.replicate 1 ds).flatten xs;rw[PZ,List.replicate_zero,P6,List.flatten_nil,NT];exact r1
  |_=>exact False.elim h
 |loc m=>cases y with
  |int k=>
   have h':End K xw Rep ρ H Q (match Ev.Zi S m with
    |some a=>if 0<=k/\k<1000/\a.length<=1000 then .ok (.loc S.length) (S++[.lst (List.replicate k.toNat a).flatten]) else .no
    |none=>.no):=h
   cases e1:Ev.Zi S m with
   |none=>rw[e1] at h';exact False.elim h'
   |some ds=>
    rw[e1] at h';obtain⟨⟨h0,h1,h2⟩,h⟩:=End.guard h';obtain⟨_,p,xs,q1,hp,r1⟩:=st.lst e1;obtain⟨p',rfl,t1⟩:=rx.loc';rw[q1] at t1;cases t1;exact .inr (.inr ⟨p,k,xs,rfl,ry.int',hp,⟨h0,h1,by rw[r1.length];exact h2⟩,h.newL st (r1.rep k.toNat)⟩)
  |_=>exact False.elim h
 |_=>cases y <;> exact False.elim h
theorem qE (st:St3 K ρ S H) (rx:Rep ρ H x v) (ry:Rep ρ H y u) (h:End K xw Rep ρ H Q (Ev.binop .fdiv x y S)):rI CDiv (λi j=>.int (i / j)) v u H Q:=by
 cases x with
 |int i=>cases y with
  |int j=>
   obtain⟨hc,h⟩:=End.guard h;exact⟨i,j,rx.int',ry.int',hc,End.ok h st (Zn _)⟩
  |_=>exact False.elim h
 |_=>cases y <;> exact False.elim h
theorem Za3 (st:St3 K ρ S H) (rx:Rep ρ H x v) (ry:Rep ρ H y u) (h:End K xw Rep ρ H Q (Ev.binop .mod x y S)):rI (λ_ j=>0<j) (λi j=>.int (i%j)) v u H Q:=by
 cases x with
 |int i=>cases y with
  |int j=>
   obtain⟨hc,h⟩:=End.guard h;exact⟨i,j,rx.int',ry.int',hc,End.ok h st (Zn _)⟩
  |_=>exact False.elim h
 |_=>cases y <;> exact False.elim h
theorem ZaM (st:St3 K ρ S H) (rx:Rep ρ H x v) (ry:Rep ρ H y u) (h:End K xw Rep ρ H Q (Ev.binop .pow x y S)):rI CPow (λi j=>.int (i^j.toNat)) v u H Q:=by
 cases x with
 |int i=>cases y with
  |int j=>
   obtain⟨hc,h⟩:=End.guard h;exact⟨i,j,rx.int',ry.int',⟨hc.1,by omega,hc.2.2⟩,End.ok h st (Zn _)⟩
  |_=>exact False.elim h
 |_=>cases y <;> exact False.elim h
theorem yn (ha:CE X xw C a i) (hb:CE X xw C b j):CE X xw C (.BinOp a .Add b pos) (.bin .add i j):=PE.imp (Qg jG ha hb) (XQ λst rx ry h=>Za1 st rx ry h)
theorem zq (ha:CE X xw C a i) (hb:CE X xw C b j):CE X xw C (.BinOp a .Sub b pos) (.bin .sub i j):=PE.imp (Qg Zam ha hb) (XQ λst rx ry h=>Zbf st rx ry h)
theorem zH (ha:CE X xw C a i) (hb:CE X xw C b j):CE X xw C (.BinOp a .Mult b pos) (.bin .mul i j):=PE.imp (Qg jz ha hb) (XQ λst rx ry h=>Zao st rx ry h)
theorem QV (ha:CE X xw C a i) (hb:CE X xw C b j):CE X xw C (.BinOp a .FloorDiv b pos) (.bin .fdiv i j):=PE.imp (Qg jm ha hb) (XQ λst rx ry h=>qE st rx ry h)
theorem zt (ha:CE X xw C a i) (hb:CE X xw C b j):CE X xw C (.BinOp a .Mod b pos) (.bin .mod i j):=PE.imp (Qg ZaR ha hb) (XQ λst rx ry h=>Za3 st rx ry h)
theorem zr (ha:CE X xw C a i) (hb:CE X xw C b j):CE X xw C (.BinOp a .Pow b pos) (.bin .pow i j):=PE.imp (Qg Zaz ha hb) (XQ λst rx ry h=>ZaM st rx ry h)
theorem zY (ha:CE X xw C a i):CE X xw C (.UnaryOp .USub a pos) (.neg i):=PE.imp (ZbD Zat ha) λσ H Q ⟨ρ,l,S,st,lr,h⟩=>by
 refine⟨ρ,l,S,st,lr,End.bind (show End X.K xw Rep ρ H Q ((ev C i l S).bind _) from h) λx S1 ρ1 H1 v f1 st1 r1 h1=>?_⟩
 cases x with
 |int n=>exact⟨n,r1.int',End.ok h1 st1 (Zn _)⟩
 |_=>exact False.elim h1
theorem YL {n:Bool}(st:St3 K ρ S H) (rx:Rep ρ H x v) (h:Ev.truth S x=some n):qB K v H n:=by
 cases x with
 |non=>rw[rx.non'];exact (Pb h).symm
 |bl b=>rw[rx.bl'];exact (Pb h).symm
 |int i=>
  rw[rx.int'];have h':=Pb h;show n=(i != 0);rw[<-h'];by_cases z:i=0
  ·subst z;rfl
  ·rw[PD z];exact (bne_iff_ne.mpr z).symm
 |tup ds=>
  obtain⟨p,xs,rfl,hp,r⟩:=rx.tup';have h':=Pb h;refine .inr (.inl ⟨xs,SqT.of hp,?_⟩);rw[<-h'];have:=r.length;cases ds <;> cases xs <;> first | rfl | (simp at this)
 |loc m=>
  have h2:(Ev.Z2 S m).map (λxs=>!xs.isEmpty)=some n:=h
  cases e:Ev.Z2 S m with
  |none=>rw[e] at h2;cases h2
  |some ds=>
   rw[e] at h2;obtain⟨p,xs,q,hp,r⟩:=st.seq e;obtain⟨p',rfl,t⟩:=rx.loc';rw[q] at t;cases t;refine .inl ⟨xs,hp,?_⟩;have h':=Pb h2;rw[<-h'];have:=r.length;cases ds <;> cases xs <;> first | rfl | (simp at this)
 |_=>cases h
theorem ya (ha:CE X xw C a i) (he:∀whole,isTrue a X.env whole=(do let v <-whole;standAt a.pos;holding [v] (truthy v)):=by intro _;rfl):CT X xw C a i:=
 PT.imp (u8 ha he) λσ H Q ⟨ρ,l,S,st,lr,h⟩=>by
  refine⟨ρ,l,S,st,lr,End.bind (show End X.K xw Xa ρ H Q ((ev C i l S).bind λx S=>Ev.ob (Ev.truth S x) S) from h) λx S1 ρ1 H1 v f1 st1 r1 h1=>?_⟩
  cases q:Ev.truth S1 x with
  |none=>rw[q] at h1;exact False.elim h1
  |some n=>rw[q] at h1;exact⟨n,YL st1 r1 q,End.ok h1 st1 rfl⟩
theorem yq (ha:CT X xw C a i):CT X xw C (.UnaryOp .Not a pos) (.not i):=PT.imp (Zap ha) λσ H Q ⟨ρ,l,S,st,lr,h⟩=>by
 refine⟨ρ,l,S,st,lr,?_⟩;have h':End X.K xw Xa ρ H Q (((ev C i l S).bind λx S=>(Ev.ob (Ev.truth S x) S).bind λb S=>.ok (.bl !b) S).bind λx S=>Ev.ob (Ev.truth S x) S):=h
 show End X.K xw Xa ρ H (λc H1=>Q (!c) H1) ((ev C i l S).bind λx S=>Ev.ob (Ev.truth S x) S)
 cases q:ev C i l S with
 |no=>rw[q] at h';exact h'
 |ex c S1=>rw[q] at h';exact h'
 |ok x S1=>
  rw[q] at h';show End X.K xw Xa ρ H _ (Ev.ob (Ev.truth S1 x) S1);have h2:End X.K xw Xa ρ H Q (((Ev.ob (Ev.truth S1 x) S1).bind λb S=>.ok (.bl !b) S).bind λx S=>Ev.ob (Ev.truth S x) S):=h'
  cases t:Ev.truth S1 x with
  |none=>rw[t] at h2;exact h2
  |some n=>
   rw[t] at h2;intro ρ1 H1 w f1 st1 e;exact h2 ρ1 H1 (!w) f1 st1 (by rw[<-(show n=w from e)];rfl)
theorem zO (ha:CE X xw C a i):CE X xw C (.UnaryOp .Not a pos) (.not i):=by
 intro pins s σ H Q I hq;obtain⟨ρ,l,S,st,lr,h⟩:=hq;have h':End X.K xw Rep ρ H Q ((ev C i l S).bind λx S=>(Ev.ob (Ev.truth S x) S).bind λb S=>.ok (.bl !b) S):=h
 refine UnaryOp_ (thn (ha pins s σ H (λv H1=>∃k,qB X.K v H1 k/\Q (.bl !k) H1) I ⟨ρ,l,S,st,lr,End.bind h' λx S1 ρ1 H1 v f1 st1 r1 h1=>?_⟩) λv s1 ⟨x,H1,I1,r1,q1⟩=>?_)
 ·cases q:Ev.truth S1 x with
  |none=>rw[q] at h1;exact False.elim h1
  |some n=>rw[q] at h1;exact⟨n,YL st1 r1 q,End.ok h1 st1 (Zq _)⟩
 ·obtain⟨k,tk,q2⟩:=q1
  refine not_of (thn (ut pins s1 σ H1 x v (λk' H'=>Q (.bl !k') H') I1 r1 ⟨k,tk,q2⟩) λk' s2 ⟨H2,I2,q3⟩=>?_)
  exact⟨.bl (!k'),H2,I2,rfl,q3⟩
theorem zw {rest:List Expr}(ha:CE X xw C a i) (hb:CE X xw C (.BoolOp .And (b::rest) pos) j):CE X xw C (.BoolOp .And (a::b::rest) pos) (.and i j):=PE.imp (ZaN ha hb) λσ H Q ⟨ρ,l,S,st,lr,h⟩=>by
 refine⟨ρ,l,S,st,lr,End.bind (show End X.K xw Rep ρ H Q ((ev C i l S).bind _) from h) λx S1 ρ1 H1 v f1 st1 r1 h1=>?_⟩
 cases x with
 |bl c=>
  refine⟨c,r1.bl',?_⟩;cases c with
  |true=>exact⟨ρ1,l,S1,st1,lr.mono f1,h1⟩
  |false=>exact End.ok h1 st1 (Zq _)
 |_=>exact False.elim h1
theorem yA {op}(ha:CE X xw C a i):CE X xw C (.BoolOp op [a] pos) i:=ZaC ha
theorem yj (hc:CT X xw C c k) (ha:CE X xw C a i) (hb:CE X xw C b j):CE X xw C (.IfExp c a b pos) (.ite k i j):=PE.imp (uB hc ha hb) λσ H Q ⟨ρ,l,S,st,lr,h⟩=>by
 have h':End X.K xw Rep ρ H Q ((ev C k l S).bind λx S=>(Ev.ob (Ev.truth S x) S).bind λc S=>if c then ev C i l S else ev C j l S):=h
 refine⟨ρ,l,S,st,lr,?_⟩;show End X.K xw Xa ρ H _ ((ev C k l S).bind λx S=>Ev.ob (Ev.truth S x) S)
 cases q:ev C k l S with
 |no=>rw[q] at h';exact h'
 |ex c S1=>rw[q] at h';exact h'
 |ok x S1=>
  rw[q] at h';have h2:End X.K xw Rep ρ H Q ((Ev.ob (Ev.truth S1 x) S1).bind λc S=>if c then ev C i l S else ev C j l S):=h'
  show End X.K xw Xa ρ H _ (Ev.ob (Ev.truth S1 x) S1);cases t:Ev.truth S1 x with
  |none=>rw[t] at h2;exact h2
  |some n=>
   rw[t] at h2;have h3:End X.K xw Rep ρ H Q (if n then ev C i l S1 else ev C j l S1):=h2
   intro ρ1 H1 w f1 st1 e;have e':n=w:=e;subst e';cases n with
   |true=>exact⟨ρ1,l,S1,st1,lr.mono f1,h3.mono f1⟩
   |false=>exact⟨ρ1,l,S1,st1,lr.mono f1,h3.mono f1⟩
def CWh (X:Cx) (xw:Nat->Hp->Prop) (C:Calls) (e:Expr) (i:E):Prop:=PW X e (tB3 X xw (tst C i))
theorem CWh.ct (h:CWh X xw C e i):CT X xw C e i:=PW.pt h
theorem PW.imp {X:Cx}{e:Expr}{t t':TT}(h:PW X e t) (k:∀σ H Q,t' σ H Q->t σ H Q):PW X e t':=λwh pins s σ H Q I q=>h wh pins s σ H Q I (k σ H Q q)
theorem JJ (ha:CT X xw C a i):CWh X xw C (.BoolOp .And [a] pos) i:=qI ha
theorem yz (ha:CT X xw C a i):CWh X xw C (.BoolOp .Or [a] pos) i:=ZaA ha
theorem JD {rest:List Expr}(ha:CT X xw C a i) (hb:CWh X xw C (.BoolOp .And (b::rest) pos) j):CWh X xw C (.BoolOp .And (a::b::rest) pos) (.and i j):=PW.imp (Za7 ha hb) λσ H Q ⟨ρ,l,S,st,lr,h⟩=>by
 have h':End X.K xw Xa ρ H Q (((ev C i l S).bind λx S=>match x with | .bl c=>if c then ev C j l S else .ok (.bl false) S | _=>.no).bind λx S=>Ev.ob (Ev.truth S x) S):=h
 refine⟨ρ,l,S,st,lr,?_⟩;show End X.K xw Xa ρ H _ ((ev C i l S).bind λx S=>Ev.ob (Ev.truth S x) S)
 cases q:ev C i l S with
 |no=>rw[q] at h';exact h'
 |ex c S1=>rw[q] at h';exact h'
 |ok x S1=>
  rw[q] at h';cases x with
  |bl n=>
   intro ρ1 H1 w f1 st1 e;have e':n=w:=e;subst e';cases n with
   |true=>exact⟨ρ1,l,S1,st1,lr.mono f1,End.mono f1 (show End X.K xw Xa ρ H Q ((ev C j l S1).bind λx S=>Ev.ob (Ev.truth S x) S) from h')⟩
   |false=>exact (show End X.K xw Xa ρ H Q (.ok false S1) from h') ρ1 H1 false f1 st1 rfl
  |_=>exact False.elim h'
theorem yX {rest:List Expr}(ha:CT X xw C a i) (hb:CWh X xw C (.BoolOp .Or (b::rest) pos) j):CWh X xw C (.BoolOp .Or (a::b::rest) pos) (.or i j):=PW.imp (ZbV ha hb) λσ H Q ⟨ρ,l,S,st,lr,h⟩=>by
 have h':End X.K xw Xa ρ H Q (((ev C i l S).bind λx S=>match x with | .bl c=>if c then .ok (.bl true) S else ev C j l S | _=>.no).bind λx S=>Ev.ob (Ev.truth S x) S):=h
 refine⟨ρ,l,S,st,lr,?_⟩;show End X.K xw Xa ρ H _ ((ev C i l S).bind λx S=>Ev.ob (Ev.truth S x) S)
 cases q:ev C i l S with
 |no=>rw[q] at h';exact h'
 |ex c S1=>rw[q] at h';exact h'
 |ok x S1=>
  rw[q] at h';cases x with
  |bl n=>
   intro ρ1 H1 w f1 st1 e;have e':n=w:=e;subst e';cases n with
   |false=>exact⟨ρ1,l,S1,st1,lr.mono f1,End.mono f1 (show End X.K xw Xa ρ H Q ((ev C j l S1).bind λx S=>Ev.ob (Ev.truth S x) S) from h')⟩
   |true=>exact (show End X.K xw Xa ρ H Q (.ok true S1) from h') ρ1 H1 true f1 st1 rfl
  |_=>exact False.elim h'
end
section
variable {K:PySem.W.Frag}{ρ:List Addr}{H:Hp}{S:Store}
theorem UY {f:D->D->Option Bool}(hf:∀x y v b,Rep ρ H x v->Rep ρ H y v->f x y=some b->b=true):∀{ds es:List D}{xs:List V}{b:Bool},Reps ρ H ds xs->Reps ρ H es xs->Ev.eqL f ds es=some b->b=true
 |[],[],_,b,_,_,h=>(Pb h).symm
 |d::ds,e::es,_,b,r1,r2,h=>by
  unfold Reps at r1 r2;obtain⟨v,vs,rfl,a1,b1⟩:=r1;obtain⟨v',vs',e',a2,b2⟩:=r2;cases e';unfold Ev.eqL at h;cases q1:f d e with
  |none=>rw[q1] at h;cases h
  |some p=>
   cases q2:Ev.eqL f ds es with
   |none=>rw[q1,q2] at h;cases h
   |some q=>
    rw[q1,q2] at h;have h':(p&&q)=b:=Pb h;rw[<-h',hf d e v p a1 a2 q1,UY hf b1 b2 q2];rfl
 |[],_::_,_,b,r1,r2,h=>by
  have l1:=r1.length;have l2:=r2.length;rw[l1] at l2;simp at l2
 |_::_,[],_,b,r1,r2,h=>by
  have l1:=r1.length;have l2:=r2.length;rw[l1] at l2;simp at l2
theorem W3 (st:St3 K ρ S H):∀(k:Nat) (x y:D) (v:V) (b:Bool),Rep ρ H x v->Rep ρ H y v->Ev.eqD S k x y=some b->b=true
 |0,_,_,_,_,_,_,h=>by cases h
 |k+1,x,y,v,b,r1,r2,h=>by
  cases x with
  |non=>
   cases r1.non';cases y with
   |non=>exact (Pb h).symm
   |bl _=>cases r2.bl'
   |int _=>cases r2.int'
   |str _=>cases r2.str'
   |tup _=>obtain⟨_,_,z,_⟩:=r2.tup';cases z
   |loc _=>obtain⟨_,z,_⟩:=r2.loc';cases z
   |fn _=>unfold Rep at r2;exact r2.elim
   |exc _ _=>unfold Rep at r2;exact r2.elim
  |bl i=>
   cases r1.bl';cases y with
   |bl j=>cases r2.bl';have:=Pb h;rw[<-this];exact PD rfl
   |non=>cases r2.non'
   |int _=>cases r2.int'
   |str _=>cases r2.str'
   |tup _=>obtain⟨_,_,z,_⟩:=r2.tup';cases z
   |loc _=>obtain⟨_,z,_⟩:=r2.loc';cases z
   |fn _=>unfold Rep at r2;exact r2.elim
   |exc _ _=>unfold Rep at r2;exact r2.elim
  |int i=>
   cases r1.int';cases y with
   |int j=>cases r2.int';have:=Pb h;rw[<-this];exact PD rfl
   |non=>cases r2.non'
   |bl _=>cases r2.bl'
   |str _=>cases r2.str'
   |tup _=>obtain⟨_,_,z,_⟩:=r2.tup';cases z
   |loc _=>obtain⟨_,z,_⟩:=r2.loc';cases z
   |fn _=>unfold Rep at r2;exact r2.elim
   |exc _ _=>unfold Rep at r2;exact r2.elim
  |str i=>
   cases r1.str';cases y with
   |str j=>cases r2.str';have:=Pb h;rw[<-this];exact PD rfl
   |non=>cases r2.non'
   |bl _=>cases r2.bl'
   |int _=>cases r2.int'
   |tup _=>obtain⟨_,_,z,_⟩:=r2.tup';cases z
   |loc _=>obtain⟨_,z,_⟩:=r2.loc';cases z
   |fn _=>unfold Rep at r2;exact r2.elim
   |exc _ _=>unfold Rep at r2;exact r2.elim
  |tup ds=>
   obtain⟨p,xs,rfl,hp,q1⟩:=r1.tup';cases y with
   |tup es=>
    obtain⟨p',xs',z,hp',q2⟩:=r2.tup';cases z;rw[hp] at hp';cases hp';exact UY (λx y v b=>W3 st k x y v b) q1 q2 h
   |non=>cases r2.non'
   |bl _=>cases r2.bl'
   |int _=>cases r2.int'
   |str _=>cases r2.str'
   |loc _=>cases h
   |fn _=>unfold Rep at r2;exact r2.elim
   |exc _ _=>unfold Rep at r2;exact r2.elim
  |loc m=>
   obtain⟨p,rfl,hp⟩:=r1.loc';cases y with
   |loc n=>
    obtain⟨p',z,hp'⟩:=r2.loc';cases z;have h':(match Ev.Zi S m,Ev.Zi S n with
     |some xs,some ys=>if xs.length=ys.length then Ev.eqL (Ev.eqD S k) xs ys else some false
     |_,_=>none)=some b:=h
    cases e1:Ev.Zi S m with
    |none=>rw[e1] at h';cases h'
    |some ds=>
     cases e2:Ev.Zi S n with
     |none=>rw[e1,e2] at h';cases h'
     |some es=>
      rw[e1,e2] at h';obtain⟨s1,a1,xs,t1,u1,q1⟩:=st.lst e1;obtain⟨s2,a2,ys,t2,u2,q2⟩:=st.lst e2;by_cases hmn:m=n
      ·subst hmn
       rw[e1] at e2;cases e2;have h2:(if ds.length=ds.length then Ev.eqL (Ev.eqD S k) ds ds else some false)=some b:=h'
       rw[Ph rfl] at h2;exact UY (λx y v b=>W3 st k x y v b) q1 q1 h2
      ·rcases st.nd m n p hp hp' hmn with ⟨ns,z⟩ | ⟨ns,z⟩
       ·rw[s1] at z;cases z
       ·rw[s2] at z;cases z
   |non=>cases r2.non'
   |bl _=>cases r2.bl'
   |int _=>cases r2.int'
   |str _=>cases r2.str'
   |tup _=>cases h
   |fn _=>unfold Rep at r2;exact r2.elim
   |exc _ _=>unfold Rep at r2;exact r2.elim
  |fn _=>unfold Rep at r1;exact r1.elim
  |exc _ _=>unfold Rep at r1;exact r1.elim
noncomputable def eAt (f:D->D->Option Bool) (ds es:List D) (j:Nat):Bool:=match ds[j]?,es[j]? with
 |some x,some y=>(f x y).getD false
 |_,_=>false
theorem Y0 {f:D->D->Option Bool}:∀{ds es:List D}{b:Bool},Ev.eqL f ds es=some b->
  ((List.range (min ds.length es.length)).all (eAt f ds es)&&ds.length == es.length)=b/\∀j x y,ds[j]? = some x->es[j]? = some y->f x y=some (eAt f ds es j)
 |[],[],b,h=>⟨Pb h,λj x y e=>by simp at e⟩
 |[],_::es,b,h=>⟨by rw[<-Pb h];simp,λj x y e=>by simp at e⟩
 |_::ds,[],b,h=>⟨by rw[<-Pb h];simp,λj x y _ e=>by simp at e⟩
 |d::ds,e::es,b,h=>by
  unfold Ev.eqL at h;cases q1:f d e with
  |none=>rw[q1] at h;cases h
  |some p=>
   cases q2:Ev.eqL f ds es with
   |none=>rw[q1,q2] at h;cases h
   |some q=>
    rw[q1,q2] at h;obtain⟨ih,ih2⟩:=Y0 q2;have h':(p&&q)=b:=Pb h;have e0:eAt f (d::ds) (e::es) 0=p:=by simp[eAt,q1]
    have es':∀j,eAt f (d::ds) (e::es) (j+1)=eAt f ds es j:=λj=>by simp[eAt]
    refine⟨?_,λj x y hx hy=>?_⟩
    ·rw[<-h',<-ih,PB,PB,Nat.succ_min_succ,List.range_succ_eq_map,List.all_cons,e0,List.all_map]
     have:((List.range (min ds.length es.length)).all (eAt f (d::ds) (e::es)∘Nat.succ))=(List.range (min ds.length es.length)).all (eAt f ds es):=by
      exact congrArg (λg=>(List.range (min ds.length es.length)).all g) (funext λj=>es' j)
     rw[this,Bool.and_assoc]
     congr 2
     simp
    ·cases j with
     |zero=>
      simp at hx hy;subst hx hy;rw[e0];exact q1
     |succ j=>
      rw[es' j];exact ih2 j x y (by simpa using hx) (by simpa using hy)
end
section
variable {X:Cx}{pins:List (Addr×Obj)}{σ:L2.St}{H:Hp}{s:Shared}{ρ:List Addr}{S:Store}
theorem Yw {A:Around}{k:Nat}(h:A.units+(k+1)<cLine):A.in1.units+k<cLine:=by
 have e:A.in1.units<=A.units+1:=by
  first | exact Pl _ | (simp[Around.in1,Around.units] <;> omega)
 omega
theorem Q6 (I:Inv X pins σ H s) (st:St3 X.K ρ S H):∀(k:Nat) (A:Around) (x y:D) (v u:V) (vv uu:Value) (b:Bool),A.units+k<cLine->Rep ρ H x v->Rep ρ H y u->ZD v vv->ZD u uu->Ev.eqD S k x y=some b->SeqAt.EqAt A s vv uu b
 |0,_,_,_,_,_,_,_,_,_,_,_,_,_,h=>by cases h
 |k+1,A,x,y,v,u,vv,uu,b,hu,r1,r2,e1,e2,h=>by
  have flat:yL v=true->yL u=true->eqV v u=b->SeqAt.EqAt A s vv uu b:=λf1 f2 e=>by rw[<-e];exact Zbj e1 e2 f1 f2
  have bb:∀{a c:Bool},(a == c)=decide (a=c):=λ{a c}=>by cases a <;> cases c <;> rfl
  have ii:∀{a c:Int},(a == c)=decide (a=c):=λ{a c}=>by rw[P2];simp
  have ss:∀{a c:Str},(a == c)=decide (a=c):=λ{a c}=>by rw[P2];simp
  cases x with
  |non=>
   cases r1.non';cases y with
   |non=>cases r2.non';exact flat rfl rfl (Pb h)
   |bl _=>cases r2.bl';exact flat rfl rfl (Pb h)
   |int _=>cases r2.int';exact flat rfl rfl (Pb h)
   |str _=>cases r2.str';exact flat rfl rfl (Pb h)
   |_=>cases h
  |bl i=>
   cases r1.bl';cases y with
   |non=>cases r2.non';exact flat rfl rfl (Pb h)
   |bl _=>cases r2.bl';exact flat rfl rfl (bb.trans (Pb h))
   |int _=>cases r2.int';exact flat rfl rfl (ii.trans (Pb h))
   |str _=>cases r2.str';exact flat rfl rfl (Pb h)
   |_=>cases h
  |int i=>
   cases r1.int';cases y with
   |non=>cases r2.non';exact flat rfl rfl (Pb h)
   |bl _=>cases r2.bl';exact flat rfl rfl (ii.trans (Pb h))
   |int _=>cases r2.int';exact flat rfl rfl (ii.trans (Pb h))
   |str _=>cases r2.str';exact flat rfl rfl (Pb h)
   |_=>cases h
  |str i=>
   cases r1.str';cases y with
   |non=>cases r2.non';exact flat rfl rfl (Pb h)
   |bl _=>cases r2.bl';exact flat rfl rfl (Pb h)
   |int _=>cases r2.int';exact flat rfl rfl (Pb h)
   |str _=>cases r2.str';exact flat rfl rfl (ss.trans (Pb h))
   |_=>cases h
  |tup ds=>
   obtain⟨p,xs,rfl,hp,q1⟩:=r1.tup';cases e1;cases y with
   |tup es=>
    obtain⟨p',ys,rfl,hp',q2⟩:=r2.tup';cases e2;by_cases hpp:p=p'
    ·subst hpp
     rw[W3 st (k+1) (.tup ds) (.tup es) (.ref p) b r1 r2 h];exact SeqAt.EqAt.same _
    ·obtain⟨its,v1,t1,_⟩:=I.tuple (SqT.of hp)
     obtain⟨its2,v2,t2,_⟩:=I.tuple (SqT.of hp');have h':Ev.eqL (Ev.eqD S k) ds es=some b:=h;obtain⟨ev,ea⟩:=Y0 h';have n1:its.toArray.size=ds.length:=by rw[Pf,<-v1.length,q1.length]
     have n2:its2.toArray.size=es.length:=by rw[Pf,<-v2.length,q2.length]
     refine SeqAt.EqAt.of_refs hpp ?_;rw[<-ev,<-n1,<-n2];refine SeqAt.RcAt.tuples t1 t2 (by omega) λj j1 j2=>?_
     have d1:ds[j]? = some ds[j]:=Pc (by omega)
     have d2:es[j]? = some es[j]:=Pc (by omega)
     obtain⟨w1,g1,z1⟩:=q1.get d1;obtain⟨w2,g2,z2⟩:=q2.get d2;obtain⟨m1,k1,y1⟩:=v1.get g1;obtain⟨m2,k2,y2⟩:=v2.get g2;have o1:its.toArray[j]=m1:=by
      have:=Pq.mp k1
      simpa using this.2
     have o2:its2.toArray[j]=m2:=by
      have:=Pq.mp k2
      simpa using this.2
     rw[o1,o2];exact Q6 I st k A.in1 ds[j] es[j] w1 w2 m1 m2 _ (Yw hu) z1 z2 y1 y2 (ea j _ _ d1 d2)
   |_=>cases h
  |loc m=>
   obtain⟨p,rfl,hp⟩:=r1.loc';cases e1;cases y with
   |loc n=>
    obtain⟨p',rfl,hp'⟩:=r2.loc';cases e2;by_cases hpp:p=p'
    ·subst hpp
     rw[W3 st (k+1) (.loc m) (.loc n) (.ref p) b r1 r2 h];exact SeqAt.EqAt.same _
    ·have h':(match Ev.Zi S m,Ev.Zi S n with
      |some xs,some ys=>if xs.length=ys.length then Ev.eqL (Ev.eqD S k) xs ys else some false
      |_,_=>none)=some b:=h
     cases a1:Ev.Zi S m with
     |none=>rw[a1] at h';cases h'
     |some ds=>
      cases a2:Ev.Zi S n with
      |none=>rw[a1,a2] at h';cases h'
      |some es=>
       rw[a1,a2] at h';obtain⟨s1,c1,xs,t1,u1,q1⟩:=st.lst a1;obtain⟨s2,c2,ys,t2,u2,q2⟩:=st.lst a2;rw[hp] at t1;cases t1;rw[hp'] at t2;cases t2;obtain⟨its,v1,p1,_⟩:=I.list (SqL.of u1);obtain⟨its2,v2,p2,_⟩:=I.list (SqL.of u2);have n1:its.toArray.size=ds.length:=by rw[Pf,<-v1.length,q1.length]
       have n2:its2.toArray.size=es.length:=by rw[Pf,<-v2.length,q2.length]
       refine SeqAt.EqAt.of_refs hpp ?_;have h2:(if ds.length=es.length then Ev.eqL (Ev.eqD S k) ds es else some false)=some b:=h'
       by_cases hl:ds.length=es.length
       ·rw[Ph hl] at h2
        obtain⟨ev,ea⟩:=Y0 h2;have ev':(List.range ds.length).all (eAt (Ev.eqD S k) ds es)=b:=by
         rw[<-ev,<-hl,Nat.min_self];simp
        rw[<-ev',<-n1];refine SeqAt.RcAt.lists p1.isList p2.isList (by omega) (by omega) λj j1 j2=>?_
        have d1:ds[j]? = some ds[j]:=Pc (by omega)
        have d2:es[j]? = some es[j]:=Pc (by omega)
        obtain⟨w1,g1,z1⟩:=q1.get d1;obtain⟨w2,g2,z2⟩:=q2.get d2;obtain⟨m1,k1,y1⟩:=v1.get g1;obtain⟨m2,k2,y2⟩:=v2.get g2;have o1:its.toArray[j]=m1:=by
         have:=Pq.mp k1
         simpa using this.2
        have o2:its2.toArray[j]=m2:=by
         have:=Pq.mp k2
         simpa using this.2
        rw[o1,o2];exact Q6 I st k A.in1 ds[j] es[j] w1 w2 m1 m2 _ (Yw hu) z1 z2 y1 y2 (ea j _ _ d1 d2)
       ·rw[Pi hl] at h2
        rw[<-Pb h2];exact SeqAt.RcAt.lists_lengths p1.isList p2.isList (bne_iff_ne.mpr (by omega)) (by omega)
   |_=>cases h
  |_=>cases h
end
section
variable {X:Cx}{pins:List (Addr×Obj)}{σ:L2.St}{H:Hp}{s:Shared}{ρ:List Addr}{S:Store}
theorem Vc (I:Inv X pins σ H s) (st:St3 X.K ρ S H) {k:Nat}{A:Around}{ds es:List D}{xs ys:List V}{its its2:List Value}{b:Bool}(hu:A.units+(k+1)<cLine)
  (q1:Reps ρ H ds xs) (q2:Reps ρ H es ys) (v1:Vals xs its) (v2:Vals ys its2) (h:Ev.eqL (Ev.eqD S k) ds es=some b) :
  ∀j (h1:j<its.toArray.size) (h2:j<its2.toArray.size),SeqAt.EqAt A.in1 s its.toArray[j] its2.toArray[j] (eAt (Ev.eqD S k) ds es j):=λj j1 j2=>by
 obtain⟨_,ea⟩:=Y0 h;have n1:its.toArray.size=ds.length:=by rw[Pf,<-v1.length,q1.length]
 have n2:its2.toArray.size=es.length:=by rw[Pf,<-v2.length,q2.length]
 have d1:ds[j]? = some ds[j]:=Pc (by omega)
 have d2:es[j]? = some es[j]:=Pc (by omega)
 obtain⟨w1,g1,z1⟩:=q1.get d1;obtain⟨w2,g2,z2⟩:=q2.get d2;obtain⟨m1,k1,y1⟩:=v1.get g1;obtain⟨m2,k2,y2⟩:=v2.get g2;have o1:its.toArray[j]=m1:=by
  have:=Pq.mp k1
  simpa using this.2
 have o2:its2.toArray[j]=m2:=by
  have:=Pq.mp k2
  simpa using this.2
 rw[o1,o2];exact Q6 I st k A.in1 ds[j] es[j] w1 w2 m1 m2 _ (Yw hu) z1 z2 y1 y2 (ea j _ _ d1 d2)
end
section
variable {X:Cx}{xw:Nat->Hp->Prop}{C:Calls}{e a b c:Expr}{i j k:E}{pos p p':Pos}
noncomputable def vF (K:PySem.W.Frag) (xw:Nat->Hp->Prop) (op:Cop):R2:=λv u H Q=>∃ρ S x y,St3 K ρ S H/\Rep ρ H x v/\Rep ρ H y u/\End K xw Rep ρ H Q (Ev.cmpop op x y S)
theorem ZaZ {op:Cop}:∀σ H Q,tE X xw (ev C (.cmp op i j)) σ H Q->tOp (vF X.K xw op) (tE X xw (ev C i)) (tE X xw (ev C j)) σ H Q:=λσ H Q h=>
 XQ (r:=vF X.K xw op) (g:=Ev.cmpop op) (λ{ρ H S x y v u Q} st rx ry h=>⟨ρ,S,x,y,st,rx,ry,h⟩) σ H Q h
theorem dI {a c:Int}:(a == c)=decide (a=c):=by rw[P2];simp
theorem Zbc (hu:X.A.units+6<cLine):OpR X (compareOp .Eq) (vF X.K xw .eq):=by
 intro pins s σ H v u vv uu Q I e1 e2 h;obtain⟨ρ,S,x,y,st,rx,ry,h⟩:=h;have h0:End X.K xw Rep ρ H Q ((Ev.ob (Ev.eqD S Ev.Zk x y) S).bind λb S=>.ok (.bl b) S):=h
 obtain⟨b,hb,h1⟩:=End.ob h0;have q:Q (.bl b) H:=End.ok h1 st (Zq b);have flat:scal v u=true->decide (v=u)=b->wpAny (model X.prog X.w) X.A (compareOp .Eq vv uu) (EP X pins σ Q) X.xe s:=λhs e=>ZbE pins s σ H v u vv uu Q I e1 e2 ⟨hs,by rw[e];exact q⟩
 cases x with
 |non=>
  cases rx.non';cases y with
  |non=>cases ry.non';exact flat rfl (Pb hb▸by simp)
  |bl _=>cases ry.bl';exact flat rfl (Pb hb▸by simp)
  |int _=>cases ry.int';exact flat rfl (Pb hb▸by simp)
  |str _=>cases ry.str';exact flat rfl (Pb hb▸by simp)
  |_=>cases hb
 |bl i=>
  cases rx.bl';cases y with
  |non=>cases ry.non';exact flat rfl (Pb hb▸by simp)
  |bl j=>cases ry.bl';exact flat rfl (Pb hb▸by simp)
  |int j=>
   cases ry.int';cases e1;obtain⟨t,rfl⟩:=e2;refine EqBoolInt.eq_bool_int ⟨.bl b,H,I,?_,q⟩;show Value.bool ((if i then 1 else 0) == j)=Value.bool b
   rw[dI];exact congrArg Value.bool (Pb hb)
  |str _=>cases ry.str';exact flat rfl (Pb hb▸by simp)
  |_=>cases hb
 |int i=>
  cases rx.int';cases y with
  |non=>cases ry.non';exact flat rfl (Pb hb▸by simp)
  |bl j=>
   cases ry.bl';cases e2;obtain⟨t,rfl⟩:=e1;refine EqBoolInt.eq_int_bool ⟨.bl b,H,I,?_,q⟩;show Value.bool (i == (if j then 1 else 0))=Value.bool b
   rw[dI];exact congrArg Value.bool (Pb hb)
  |int _=>cases ry.int';exact flat rfl (Pb hb▸by simp)
  |str _=>cases ry.str';exact flat rfl (Pb hb▸by simp)
  |_=>cases hb
 |str i=>
  cases rx.str';cases y with
  |non=>cases ry.non';exact flat rfl (Pb hb▸by simp)
  |bl _=>cases ry.bl';exact flat rfl (Pb hb▸by simp)
  |int _=>cases ry.int';exact flat rfl (Pb hb▸by simp)
  |str _=>cases ry.str';exact flat rfl (Pb hb▸by simp)
  |_=>cases hb
 |tup ds=>
  obtain⟨p,xs,rfl,hp,q1⟩:=rx.tup';cases e1;cases y with
  |tup es=>
   obtain⟨p',ys,rfl,hp',q2⟩:=ry.tup';cases e2;obtain⟨its,v1,t1,_⟩:=I.tuple (SqT.of hp);obtain⟨its2,v2,t2,_⟩:=I.tuple (SqT.of hp');have hb':Ev.eqL (Ev.eqD S 5) ds es=some b:=hb;obtain⟨ev,_⟩:=Y0 hb';have n1:its.toArray.size=ds.length:=by rw[Pf,<-v1.length,q1.length]
   have n2:its2.toArray.size=es.length:=by rw[Pf,<-v2.length,q2.length]
   refine SeqAt.RcAt.tuples t1 t2 (by omega) (Vc I st hu q1 q2 v1 v2 hb') X.prog X.w X.xe _ ?_
   rw[n1,n2,ev];exact⟨.bl b,H,I,rfl,q⟩
  |_=>cases hb
 |loc m=>
  obtain⟨p,rfl,hp⟩:=rx.loc';cases e1;cases y with
  |loc n=>
   obtain⟨p',rfl,hp'⟩:=ry.loc';cases e2;have h':(match Ev.Zi S m,Ev.Zi S n with
    |some xs,some ys=>if xs.length=ys.length then Ev.eqL (Ev.eqD S 5) xs ys else some false
    |_,_=>none)=some b:=hb
   cases a1:Ev.Zi S m with
   |none=>rw[a1] at h';cases h'
   |some ds=>
    cases a2:Ev.Zi S n with
    |none=>rw[a1,a2] at h';cases h'
    |some es=>
     rw[a1,a2] at h';obtain⟨s1,c1,xs,t1,u1,q1⟩:=st.lst a1;obtain⟨s2,c2,ys,t2,u2,q2⟩:=st.lst a2;rw[hp] at t1;cases t1;rw[hp'] at t2;cases t2;obtain⟨its,v1,p1,_⟩:=I.list (SqL.of u1);obtain⟨its2,v2,p2,_⟩:=I.list (SqL.of u2);have n1:its.toArray.size=ds.length:=by rw[Pf,<-v1.length,q1.length]
     have n2:its2.toArray.size=es.length:=by rw[Pf,<-v2.length,q2.length]
     have h2:(if ds.length=es.length then Ev.eqL (Ev.eqD S 5) ds es else some false)=some b:=h'
     by_cases hl:ds.length=es.length
     ·rw[Ph hl] at h2
      obtain⟨ev,_⟩:=Y0 h2;have ev':(List.range ds.length).all (eAt (Ev.eqD S 5) ds es)=b:=by
       rw[<-ev,<-hl,Nat.min_self];simp
      refine SeqAt.RcAt.lists p1.isList p2.isList (by omega) (by omega) (Vc I st hu q1 q2 v1 v2 h2) X.prog X.w X.xe _ ?_
      rw[n1,ev'];exact⟨.bl b,H,I,rfl,q⟩
     ·rw[Pi hl] at h2
      refine SeqAt.RcAt.lists_lengths p1.isList p2.isList (bne_iff_ne.mpr (by omega)) (by omega) X.prog X.w X.xe _ ?_
      exact⟨.bl b,H,I,congrArg Value.bool (Pb h2),q⟩
  |_=>cases hb
 |_=>cases hb
theorem Zbi (hu:X.A.units+6<cLine):OpR X (compareOp .NotEq) (vF X.K xw .ne):=by
 intro pins s σ H v u vv uu Q I e1 e2 h;obtain⟨ρ,S,x,y,st,rx,ry,h⟩:=h;have h0:End X.K xw Rep ρ H Q ((Ev.ob (Ev.eqD S Ev.Zk x y) S).bind λb S=>.ok (.bl !b) S):=h
 obtain⟨b,hb,h1⟩:=End.ob h0;have q:Q (.bl !b) H:=End.ok h1 st (Zq _);have flat:scal v u=true->decide (v=u)=b->wpAny (model X.prog X.w) X.A (compareOp .NotEq vv uu) (EP X pins σ Q) X.xe s:=λhs e=>Zb1 pins s σ H v u vv uu Q I e1 e2 ⟨hs,by rw[e];exact q⟩
 cases x with
 |non=>
  cases rx.non';cases y with
  |non=>cases ry.non';exact flat rfl (Pb hb▸by simp)
  |bl _=>cases ry.bl';exact flat rfl (Pb hb▸by simp)
  |int _=>cases ry.int';exact flat rfl (Pb hb▸by simp)
  |str _=>cases ry.str';exact flat rfl (Pb hb▸by simp)
  |_=>cases hb
 |bl i=>
  cases rx.bl';cases y with
  |non=>cases ry.non';exact flat rfl (Pb hb▸by simp)
  |bl j=>cases ry.bl';exact flat rfl (Pb hb▸by simp)
  |int j=>
   cases ry.int';cases e1;obtain⟨t,rfl⟩:=e2;refine EqBoolInt.ne_bool_int ⟨.bl !b,H,I,?_,q⟩;show Value.bool (!((if i then 1 else 0) == j))=Value.bool !b
   rw[dI];exact congrArg (λz=>Value.bool !z) (Pb hb)
  |str _=>cases ry.str';exact flat rfl (Pb hb▸by simp)
  |_=>cases hb
 |int i=>
  cases rx.int';cases y with
  |non=>cases ry.non';exact flat rfl (Pb hb▸by simp)
  |bl j=>
   cases ry.bl';cases e2;obtain⟨t,rfl⟩:=e1;refine EqBoolInt.ne_int_bool ⟨.bl !b,H,I,?_,q⟩;show Value.bool (!(i == (if j then 1 else 0)))=Value.bool !b
   rw[dI];exact congrArg (λz=>Value.bool !z) (Pb hb)
  |int _=>cases ry.int';exact flat rfl (Pb hb▸by simp)
  |str _=>cases ry.str';exact flat rfl (Pb hb▸by simp)
  |_=>cases hb
 |str i=>
  cases rx.str';cases y with
  |non=>cases ry.non';exact flat rfl (Pb hb▸by simp)
  |bl _=>cases ry.bl';exact flat rfl (Pb hb▸by simp)
  |int _=>cases ry.int';exact flat rfl (Pb hb▸by simp)
  |str _=>cases ry.str';exact flat rfl (Pb hb▸by simp)
  |_=>cases hb
 |tup ds=>
  obtain⟨p,xs,rfl,hp,q1⟩:=rx.tup';cases e1;cases y with
  |tup es=>
   obtain⟨p',ys,rfl,hp',q2⟩:=ry.tup';cases e2;obtain⟨its,v1,t1,_⟩:=I.tuple (SqT.of hp);obtain⟨its2,v2,t2,_⟩:=I.tuple (SqT.of hp');have hb':Ev.eqL (Ev.eqD S 5) ds es=some b:=hb;obtain⟨ev,_⟩:=Y0 hb';have n1:its.toArray.size=ds.length:=by rw[Pf,<-v1.length,q1.length]
   have n2:its2.toArray.size=es.length:=by rw[Pf,<-v2.length,q2.length]
   refine SeqAt.RcNeAt.tuples t1 t2 (by omega) (Vc I st hu q1 q2 v1 v2 hb') X.prog X.w X.xe _ ?_
   rw[n1,n2,ev];exact⟨.bl !b,H,I,rfl,q⟩
  |_=>cases hb
 |loc m=>
  obtain⟨p,rfl,hp⟩:=rx.loc';cases e1;cases y with
  |loc n=>
   obtain⟨p',rfl,hp'⟩:=ry.loc';cases e2;have h':(match Ev.Zi S m,Ev.Zi S n with
    |some xs,some ys=>if xs.length=ys.length then Ev.eqL (Ev.eqD S 5) xs ys else some false
    |_,_=>none)=some b:=hb
   cases a1:Ev.Zi S m with
   |none=>rw[a1] at h';cases h'
   |some ds=>
    cases a2:Ev.Zi S n with
    |none=>rw[a1,a2] at h';cases h'
    |some es=>
     rw[a1,a2] at h';obtain⟨s1,c1,xs,t1,u1,q1⟩:=st.lst a1;obtain⟨s2,c2,ys,t2,u2,q2⟩:=st.lst a2;rw[hp] at t1;cases t1;rw[hp'] at t2;cases t2;obtain⟨its,v1,p1,_⟩:=I.list (SqL.of u1);obtain⟨its2,v2,p2,_⟩:=I.list (SqL.of u2);have n1:its.toArray.size=ds.length:=by rw[Pf,<-v1.length,q1.length]
     have n2:its2.toArray.size=es.length:=by rw[Pf,<-v2.length,q2.length]
     have h2:(if ds.length=es.length then Ev.eqL (Ev.eqD S 5) ds es else some false)=some b:=h'
     by_cases hl:ds.length=es.length
     ·rw[Ph hl] at h2
      obtain⟨ev,_⟩:=Y0 h2;have ev':(List.range ds.length).all (eAt (Ev.eqD S 5) ds es)=b:=by
       rw[<-ev,<-hl,Nat.min_self];simp
      refine SeqAt.RcNeAt.lists p1.isList p2.isList (by omega) (by omega) (Vc I st hu q1 q2 v1 v2 h2) X.prog X.w X.xe _ ?_
      rw[n1,ev'];exact⟨.bl !b,H,I,rfl,q⟩
     ·rw[Pi hl] at h2
      refine SeqAt.RcNeAt.lists_lengths p1.isList p2.isList (bne_iff_ne.mpr (by omega)) (by omega) X.prog X.w X.xe _ ?_
      exact⟨.bl !b,H,I,congrArg (λz=>Value.bool !z) (Pb h2),q⟩
  |_=>cases hb
 |_=>cases hb
end
section
variable {K:PySem.W.Frag}{ρ:List Addr}{H:Hp}{S:Store}
theorem xE {f:D->D->Option Bool}(hf:∀x x' y v b b',Rep ρ H x v->Rep ρ H x' v->f x y=some b->f x' y=some b'->b=b') :
  ∀{ds ds' es:List D} {xs:List V} {b b':Bool},Reps ρ H ds xs->Reps ρ H ds' xs->Ev.eqL f ds es=some b->Ev.eqL f ds' es=some b'->b=b'
 |[],[],[],_,b,b',_,_,h,h'=>(Pb h).symm.trans (Pb h')
 |[],[],_::_,_,b,b',_,_,h,h'=>(Pb h).symm.trans (Pb h')
 |_::_,_::_,[],_,b,b',_,_,h,h'=>(Pb h).symm.trans (Pb h')
 |d::ds,d'::ds',e::es,_,b,b',r1,r2,h,h'=>by
  unfold Reps at r1 r2;obtain⟨v,vs,rfl,a1,b1⟩:=r1;obtain⟨v',vs',e',a2,b2⟩:=r2;cases e';unfold Ev.eqL at h h';cases q1:f d e with
  |none=>rw[q1] at h;cases h
  |some p=>
   cases q2:Ev.eqL f ds es with
   |none=>rw[q1,q2] at h;cases h
   |some q=>
    cases q3:f d' e with
    |none=>rw[q3] at h';cases h'
    |some p'=>
     cases q4:Ev.eqL f ds' es with
     |none=>rw[q3,q4] at h';cases h'
     |some q'=>
      rw[q1,q2] at h;rw[q3,q4] at h';have z1:(p&&q)=b:=Pb h;have z2:(p'&&q')=b':=Pb h';rw[<-z1,<-z2,hf d d' e v p p' a1 a2 q1 q3,xE hf b1 b2 q2 q4]
 |[],_::_,_,_,b,b',r1,r2,_,_=>by
  have l1:=r1.length;have l2:=r2.length;rw[l1] at l2;simp at l2
 |_::_,[],_,_,b,b',r1,r2,_,_=>by
  have l1:=r1.length;have l2:=r2.length;rw[l1] at l2;simp at l2
theorem xI (st:St3 K ρ S H):∀(k:Nat) (x x' y:D) (v:V) (b b':Bool),Rep ρ H x v->Rep ρ H x' v->Ev.eqD S k x y=some b->Ev.eqD S k x' y=some b'->b=b'
 |0,_,_,_,_,_,_,_,_,h,_=>by cases h
 |k+1,x,x',y,v,b,b',r1,r2,h,h'=>by
  cases x with
  |non=>
   cases r1.non';cases x' with
   |non=>exact Pb (h.symm.trans h')
   |bl _=>cases r2.bl'
   |int _=>cases r2.int'
   |str _=>cases r2.str'
   |tup _=>obtain⟨_,_,z,_⟩:=r2.tup';cases z
   |loc _=>obtain⟨_,z,_⟩:=r2.loc';cases z
   |fn _=>unfold Rep at r2;exact r2.elim
   |exc _ _=>unfold Rep at r2;exact r2.elim
  |bl i=>
   cases r1.bl';cases x' with
   |bl j=>cases r2.bl';exact Pb (h.symm.trans h')
   |non=>cases r2.non'
   |int _=>cases r2.int'
   |str _=>cases r2.str'
   |tup _=>obtain⟨_,_,z,_⟩:=r2.tup';cases z
   |loc _=>obtain⟨_,z,_⟩:=r2.loc';cases z
   |fn _=>unfold Rep at r2;exact r2.elim
   |exc _ _=>unfold Rep at r2;exact r2.elim
  |int i=>
   cases r1.int';cases x' with
   |int j=>cases r2.int';exact Pb (h.symm.trans h')
   |non=>cases r2.non'
   |bl _=>cases r2.bl'
   |str _=>cases r2.str'
   |tup _=>obtain⟨_,_,z,_⟩:=r2.tup';cases z
   |loc _=>obtain⟨_,z,_⟩:=r2.loc';cases z
   |fn _=>unfold Rep at r2;exact r2.elim
   |exc _ _=>unfold Rep at r2;exact r2.elim
  |str i=>
   cases r1.str';cases x' with
   |str j=>cases r2.str';exact Pb (h.symm.trans h')
   |non=>cases r2.non'
   |bl _=>cases r2.bl'
   |int _=>cases r2.int'
   |tup _=>obtain⟨_,_,z,_⟩:=r2.tup';cases z
   |loc _=>obtain⟨_,z,_⟩:=r2.loc';cases z
   |fn _=>unfold Rep at r2;exact r2.elim
   |exc _ _=>unfold Rep at r2;exact r2.elim
  |tup ds=>
   obtain⟨p,xs,rfl,hp,q1⟩:=r1.tup';cases y with
   |tup es=>
    cases x' with
    |tup ds'=>
     obtain⟨p',xs',z,hp',q2⟩:=r2.tup';cases z;rw[hp] at hp';cases hp';exact xE (λx x' y v b b'=>xI st k x x' y v b b') q1 q2 h h'
    |non=>cases r2.non'
    |bl _=>cases r2.bl'
    |int _=>cases r2.int'
    |str _=>cases r2.str'
    |loc _=>cases h'
    |fn _=>unfold Rep at r2;exact r2.elim
    |exc _ _=>unfold Rep at r2;exact r2.elim
   |_=>cases h
  |loc m=>
   obtain⟨p,rfl,hp⟩:=r1.loc';cases y with
   |loc n=>
    cases x' with
    |loc m'=>
     obtain⟨p',z,hp'⟩:=r2.loc';cases z;by_cases hm:m=m'
     ·subst hm
      exact Pb (h.symm.trans h')
     ·have one:∀{q:Nat} {b:Bool},Ev.eqD S (k+1) (.loc q) (.loc n)=some b->∃ds,Ev.Zi S q=some ds:=λ{q b} h=>by
       have h2:(match Ev.Zi S q,Ev.Zi S n with
        |some xs,some ys=>if xs.length=ys.length then Ev.eqL (Ev.eqD S k) xs ys else some false
        |_,_=>none)=some b:=h
       cases e1:Ev.Zi S q with
       |none=>rw[e1] at h2;cases h2
       |some ds=>exact⟨ds,rfl⟩
      obtain⟨ds,e1⟩:=one h;obtain⟨ds',e2⟩:=one h';rcases st.nd m m' p hp hp' hm with ⟨ns,z⟩ | ⟨ns,z⟩
      ·rw[(st.lst e1).1] at z;cases z
      ·rw[(st.lst e2).1] at z;cases z
    |non=>cases r2.non'
    |bl _=>cases r2.bl'
    |int _=>cases r2.int'
    |str _=>cases r2.str'
    |tup _=>cases h'
    |fn _=>unfold Rep at r2;exact r2.elim
    |exc _ _=>unfold Rep at r2;exact r2.elim
   |_=>cases h
  |fn _=>unfold Rep at r1;exact r1.elim
  |exc _ _=>unfold Rep at r1;exact r1.elim
theorem JN {x:D}:∀{ds:List D}{b:Bool},Ev.inL S x ds=some b->∀d∈ds,∃c,Ev.eqD S Ev.Zk d x=some c
 |[],_,_,d,hd=>by cases hd
 |y::ys,b,h,d,hd=>by
  unfold Ev.inL at h;cases q1:Ev.eqD S Ev.Zk y x with
  |none=>rw[q1] at h;cases h
  |some p=>
   cases q2:Ev.inL S x ys with
   |none=>rw[q1,q2] at h;cases h
   |some q=>
    rcases Po.mp hd with rfl | hd
    ·exact⟨p,q1⟩
    ·exact JN q2 d hd
theorem xm {x:D}:∀{ds:List D}{b:Bool},Ev.inL S x ds=some b->(ds.any λd=>(Ev.eqD S Ev.Zk d x).getD false)=b
 |[],_,h=>Pb h
 |y::ys,b,h=>by
  unfold Ev.inL at h;cases q1:Ev.eqD S Ev.Zk y x with
  |none=>rw[q1] at h;cases h
  |some p=>
   cases q2:Ev.inL S x ys with
   |none=>rw[q1,q2] at h;cases h
   |some q=>
    rw[q1,q2] at h;rw[List.any_cons,xm q2,q1,<-Pb h];rfl
end
section
variable {X:Cx}{pins:List (Addr×Obj)}{σ:L2.St}{H:Hp}{s:Shared}{ρ:List Addr}{S:Store}
open Classical in
theorem WQ (I:Inv X pins σ H s) (st:St3 X.K ρ S H) {A:Around}{x:D}{ds:List D}{xs:List V}{its:List Value}{b:Bool}{v:V}{vv:Value}(hu:A.units+6<cLine) (rx:Rep ρ H x v) (ex:ZD v vv)
  (q:Reps ρ H ds xs) (vs:Vals xs its) (h:Ev.inL S x ds=some b):∃e:Value->Bool,(∀u,u∈its.toArray->SeqAt.EqAt A s u vv (e u))/\its.toArray.any e=b:=by
 refine⟨λu=>decide (∃d∈ds,∃w,Rep ρ H d w/\ZD w u/\Ev.eqD S Ev.Zk d x=some true),λu hu'=>?_,?_⟩
 ·have hu2:u∈its:=by simpa using hu'
  obtain⟨j,hj,e⟩:=NK hu2;have hl:j<ds.length:=by rw[<-q.length,vs.length];exact hj
  obtain⟨w,g,r⟩:=q.get (Pc hl);obtain⟨u',g',r'⟩:=vs.get g;have eu:u'=u:=by
   rw[Pc hj] at g';exact (Pb g').symm.trans e
  subst eu;obtain⟨c,hc⟩:=JN h ds[j] (NH hl);have ec:decide (∃d∈ds,∃w,Rep ρ H d w/\ZD w u'/\Ev.eqD S Ev.Zk d x=some true)=c:=by
   cases c with
   |true=>exact PD ⟨ds[j],NH hl,w,r,r',hc⟩
   |false=>
    refine P1 ?_
    rintro ⟨d,hd,w',a1,a2,a3⟩
    cases a2.inj r';exact absurd (xI st 6 d ds[j] x w true false a1 r a3 hc) (by decide)
  dsimp only
  rw[ec];exact Q6 I st 6 A ds[j] x w v u' vv c hu r rx r' ex hc
 ·rw[<-xm h,List.any_toArray,P2,List.any_eq_true,List.any_eq_true]
  constructor
  ·rintro ⟨u,hu1,h1⟩
   obtain⟨d,hd,w,a1,a2,a3⟩:=Pw h1;exact⟨d,hd,by rw[a3];rfl⟩
  ·rintro ⟨d,hd,h1⟩
   obtain⟨j,hj,e⟩:=NK hd;subst e;obtain⟨w,g,r⟩:=q.get (Pc hj);obtain⟨u,g',r'⟩:=vs.get g;refine⟨u,List.mem_of_getElem? g',PD ⟨ds[j],hd,w,r,r',?_⟩⟩;obtain⟨c,hc⟩:=JN h ds[j] hd;rw[hc] at h1 ⊢;exact congrArg some h1
end
section
variable {X:Cx}{xw:Nat->Hp->Prop}{C:Calls}{e a b c:Expr}{i j k:E}{pos p p':Pos}
theorem Zbq (hu:X.A.units+7<cLine):OpR X (compareOp .In) (λv u H Q=>∃ρ S x ds b,St3 X.K ρ S H/\Rep ρ H x v/\(Rep ρ H (.tup ds) u\/∃n,Rep ρ H (.loc n) u/\S[n]? = some (.lst ds))/\Ev.inL S x ds=some b/\Q (.bl b) H):=by
 intro pins s σ H v u vv uu Q I e1 e2 h;obtain⟨ρ,S,x,ds,b,st,rx,ry,hb,q⟩:=h;rcases ry with ry | ⟨n,ry,hn⟩
 ·obtain⟨p,xs,rfl,hp,q1⟩:=ry.tup'
  cases e2;obtain⟨its,v1,t1,_⟩:=I.tuple (SqT.of hp);obtain⟨f,h1,h2⟩:=WQ I st (A:=X.A.in1) (Yw hu) rx e1 q1 v1 hb;exact SeqAt.in_tupleAt f t1 h1 (by rw[h2];exact⟨.bl b,H,I,rfl,q⟩)
 ·obtain⟨p,rfl,hp⟩:=ry.loc'
  cases e2;obtain⟨p',hp',xs,hx,q1⟩:=st.at hn;rw[hp] at hp';cases hp';obtain⟨its,v1,t1,_⟩:=I.list (SqL.of hx);obtain⟨f,h1,h2⟩:=WQ I st (A:=X.A.in1) (Yw hu) rx e1 q1 v1 hb;exact SeqAt.in_listAt f t1.isList h1 (by rw[h2];exact⟨.bl b,H,I,rfl,q⟩)
theorem qD (hu:X.A.units+7<cLine):OpR X (compareOp .NotIn) (λv u H Q=>∃ρ S x ds b,St3 X.K ρ S H/\Rep ρ H x v/\(Rep ρ H (.tup ds) u\/∃n,Rep ρ H (.loc n) u/\S[n]? = some (.lst ds))/\Ev.inL S x ds=some b/\Q (.bl !b) H):=by
 intro pins s σ H v u vv uu Q I e1 e2 h;obtain⟨ρ,S,x,ds,b,st,rx,ry,hb,q⟩:=h;rcases ry with ry | ⟨n,ry,hn⟩
 ·obtain⟨p,xs,rfl,hp,q1⟩:=ry.tup'
  cases e2;obtain⟨its,v1,t1,_⟩:=I.tuple (SqT.of hp);obtain⟨f,h1,h2⟩:=WQ I st (A:=X.A.in1) (Yw hu) rx e1 q1 v1 hb;exact SeqAt.notIn_tupleAt f t1 h1 (by rw[h2];exact⟨.bl !b,H,I,rfl,q⟩)
 ·obtain⟨p,rfl,hp⟩:=ry.loc'
  cases e2;obtain⟨p',hp',xs,hx,q1⟩:=st.at hn;rw[hp] at hp';cases hp';obtain⟨its,v1,t1,_⟩:=I.list (SqL.of hx);obtain⟨f,h1,h2⟩:=WQ I st (A:=X.A.in1) (Yw hu) rx e1 q1 v1 hb;exact SeqAt.notIn_listAt f t1.isList h1 (by rw[h2];exact⟨.bl !b,H,I,rfl,q⟩)
variable {ρ:List Addr}{H:Hp}{S:Store}{x y:D}{v u:V}{Q:VK}{K:PySem.W.Frag}
theorem Zb5 (st:St3 K ρ S H) (rx:Rep ρ H x v) (ry:Rep ρ H y u) (h:End K xw Rep ρ H Q (Ev.cmpop .lt x y S)):rI0 (λi j=>.bl (decide (i<j))) v u H Q:=by
 cases x with
 |int i=>cases y with
  |int j=>exact⟨i,j,rx.int',ry.int',End.ok h st (Zq _)⟩
  |_=>exact False.elim h
 |_=>cases y <;> exact False.elim h
theorem ZbU (st:St3 K ρ S H) (rx:Rep ρ H x v) (ry:Rep ρ H y u) (h:End K xw Rep ρ H Q (Ev.cmpop .le x y S)):rI0 (λi j=>.bl (decide (i<=j))) v u H Q:=by
 cases x with
 |int i=>cases y with
  |int j=>exact⟨i,j,rx.int',ry.int',End.ok h st (Zq _)⟩
  |_=>exact False.elim h
 |_=>cases y <;> exact False.elim h
theorem YV (st:St3 K ρ S H) (rx:Rep ρ H x v) (ry:Rep ρ H y u) (h:End K xw Rep ρ H Q (Ev.cmpop .gt x y S)):rI0 (λi j=>.bl (decide (j<i))) v u H Q:=by
 cases x with
 |int i=>cases y with
  |int j=>exact⟨i,j,rx.int',ry.int',End.ok h st (Zq _)⟩
  |_=>exact False.elim h
 |_=>cases y <;> exact False.elim h
theorem ZbY (st:St3 K ρ S H) (rx:Rep ρ H x v) (ry:Rep ρ H y u) (h:End K xw Rep ρ H Q (Ev.cmpop .ge x y S)):rI0 (λi j=>.bl (decide (j<=i))) v u H Q:=by
 cases x with
 |int i=>cases y with
  |int j=>exact⟨i,j,rx.int',ry.int',End.ok h st (Zq _)⟩
  |_=>exact False.elim h
 |_=>cases y <;> exact False.elim h
end
section
variable {X:Cx}{xw:Nat->Hp->Prop}{C:Calls}{e a b c:Expr}{i j k:E}{pos p p':Pos}
theorem YY {α β γ:Type}(r:R α) (f:α->Store->R β) (g:β->Store->R γ):(r.bind f).bind g=r.bind λa S=>(f a S).bind g:=by cases r <;> rfl
theorem yZ {α β:Type}{o:Option α}{S S':Store}{f:α->Store->R β}{z:β}(h:(Ev.ob o S).bind f=.ok z S'):∃a,o=some a/\f a S=.ok z S':=by
 cases o with
 |none=>cases h
 |some a=>exact⟨a,rfl,h⟩
theorem vR {o:Cop}{x y:D}{S S':Store}{z:D}(h:Ev.cmpop o x y S=.ok z S'):∃b,z=.bl b:=by
 have fin:∀{n:Bool},R.ok (D.bl n) S=.ok z S'->∃b,z=.bl b:=λ{n} e=>by cases e;exact⟨n,rfl⟩
 cases o with
 |eq=>obtain⟨_,_,e⟩:=yZ h;exact fin e
 |ne=>obtain⟨_,_,e⟩:=yZ h;exact fin e
 |lt=>cases x <;> cases y <;> first | exact fin h | cases h
 |gt=>cases x <;> cases y <;> first | exact fin h | cases h
 |le=>cases x <;> cases y <;> first | exact fin h | cases h
 |ge=>cases x <;> cases y <;> first | exact fin h | cases h
 |is=>cases x <;> cases y <;> first | exact fin h | cases h
 |isn=>cases x <;> cases y <;> first | exact fin h | cases h
 |inn=>cases q:Ev.Wi S x y with
  |ok b S1=>have h':((Ev.Wi S x y).bind λb S=>R.ok (D.bl b) S)=.ok z S':=h;rw[q] at h';cases h';exact⟨b,rfl⟩
  |ex _ _=>have h':((Ev.Wi S x y).bind λb S=>R.ok (D.bl b) S)=.ok z S':=h;rw[q] at h';cases h'
  |no=>have h':((Ev.Wi S x y).bind λb S=>R.ok (D.bl b) S)=.ok z S':=h;rw[q] at h';cases h'
 |nin=>cases q:Ev.Wi S x y with
  |ok b S1=>have h':((Ev.Wi S x y).bind λb S=>R.ok (D.bl !b) S)=.ok z S':=h;rw[q] at h';cases h';exact⟨!b,rfl⟩
  |ex _ _=>have h':((Ev.Wi S x y).bind λb S=>R.ok (D.bl !b) S)=.ok z S':=h;rw[q] at h';cases h'
  |no=>have h':((Ev.Wi S x y).bind λb S=>R.ok (D.bl !b) S)=.ok z S':=h;rw[q] at h';cases h'
def YU (X:Cx) (xw:Nat->Hp->Prop) (op:CmpOp) (o:Cop):Prop:=OpR X (compareOp op) (vF X.K xw o)
theorem OpR.imp {X:Cx}{f:Value->Value->Sem Value}{r r':R2}(h:OpR X f r) (k:∀v u H Q,r' v u H Q->r v u H Q):OpR X f r':=λpins s σ H x y v u Q I e1 e2 q=>h pins s σ H x y v u Q I e1 e2 (k x y H Q q)
theorem uv (hu:X.A.units+7<cLine):YU X xw .Eq .eq:=Zbc (by omega)
theorem vY (hu:X.A.units+7<cLine):YU X xw .NotEq .ne:=Zbi (by omega)
theorem xM (hu:X.A.units+7<cLine):YU X xw .Lt .lt:=OpR.imp Zbz λv u H Q ⟨ρ,S,x,y,st,rx,ry,h⟩=>Zb5 st rx ry h
theorem QK (hu:X.A.units+7<cLine):YU X xw .LtE .le:=OpR.imp ZbM λv u H Q ⟨ρ,S,x,y,st,rx,ry,h⟩=>ZbU st rx ry h
theorem uh (hu:X.A.units+7<cLine):YU X xw .Gt .gt:=OpR.imp ZbQ λv u H Q ⟨ρ,S,x,y,st,rx,ry,h⟩=>YV st rx ry h
theorem vP (hu:X.A.units+7<cLine):YU X xw .GtE .ge:=OpR.imp ZbF λv u H Q ⟨ρ,S,x,y,st,rx,ry,h⟩=>ZbY st rx ry h
theorem vL (hu:X.A.units+7<cLine):YU X xw .Is .is:=OpR.imp (ZaO.or Zas) λv u H Q ⟨ρ,S,x,y,st,rx,ry,h⟩=>by
 cases y with
 |non=>
  refine .inl ⟨ry.non',?_⟩;have e:decide (x=D.non)=decide (v=V.non):=by
   cases x with
   |non=>rw[rx.non'];simp
   |bl _=>rw[rx.bl'];simp
   |int _=>rw[rx.int'];simp
   |str _=>rw[rx.str'];simp
   |tup _=>obtain⟨_,_,z,_⟩:=rx.tup';rw[z];simp
   |loc _=>obtain⟨_,z,_⟩:=rx.loc';rw[z];simp
   |fn _=>unfold Rep at rx;exact rx.elim
   |exc _ _=>unfold Rep at rx;exact rx.elim
  rw[<-e];have h':End X.K xw Rep ρ H Q (.ok (.bl (decide (x=.non))) S):=by cases x <;> exact h
  exact End.ok h' st (Zq _)
 |bl j=>cases x with
  |bl i=>exact .inr ⟨i,j,rx.bl',ry.bl',End.ok h st (Zq _)⟩
  |_=>exact False.elim h
 |_=>cases x <;> exact False.elim h
theorem zT (hu:X.A.units+7<cLine):YU X xw .IsNot .isn:=OpR.imp (jE.or jg) λv u H Q ⟨ρ,S,x,y,st,rx,ry,h⟩=>by
 cases y with
 |non=>
  refine .inl ⟨ry.non',?_⟩;have e:decide (x≠D.non) = !decide (v=V.non):=by
   cases x with
   |non=>rw[rx.non'];simp
   |bl _=>rw[rx.bl'];simp
   |int _=>rw[rx.int'];simp
   |str _=>rw[rx.str'];simp
   |tup _=>obtain⟨_,_,z,_⟩:=rx.tup';rw[z];simp
   |loc _=>obtain⟨_,z,_⟩:=rx.loc';rw[z];simp
   |fn _=>unfold Rep at rx;exact rx.elim
   |exc _ _=>unfold Rep at rx;exact rx.elim
  rw[<-e];have h':End X.K xw Rep ρ H Q (.ok (.bl (decide (x≠.non))) S):=by cases x <;> exact h
  exact End.ok h' st (Zq _)
 |bl j=>cases x with
  |bl i=>exact .inr ⟨i,j,rx.bl',ry.bl',End.ok h st (Zq _)⟩
  |_=>exact False.elim h
 |_=>cases x <;> exact False.elim h
theorem GD {ρ:List Addr}{S:Store}{H:Hp}{x y:D}{u:V}(st:St3 X.K ρ S H) (ry:Rep ρ H y u) {f:Bool->Store->R D}{Q:VK}(h:End X.K xw Rep ρ H Q ((Ev.Wi S x y).bind f)) :
  (∃ds b,(Rep ρ H (.tup ds) u\/∃n,Rep ρ H (.loc n) u/\S[n]? = some (.lst ds))/\Ev.inL S x ds=some b/\End X.K xw Rep ρ H Q (f b S))\/
  (∃n kvs k ks,Rep ρ H (.loc n) u/\S[n]? = some (.dt kvs)/\x=.tup k/\Ev.YH k=some ks/\End X.K xw Rep ρ H Q (f ((kvs.map (·.1)).contains ks) S)):=by
 cases y with
 |tup ys=>
  obtain⟨b,hb,h1⟩:=End.ob (show End X.K xw Rep ρ H Q ((Ev.ob (Ev.inL S x ys) S).bind f) from h)
  exact .inl ⟨ys,b,.inl ry,hb,h1⟩
 |loc n=>
  have h':End X.K xw Rep ρ H Q ((Ev.ZaH S x S[n]?).bind f):=h;cases q:S[n]? with
  |none=>rw[q] at h';exact False.elim h'
  |some o=>
   rw[q] at h';cases o with
   |lst ys=>
    obtain⟨b,hb,h1⟩:=End.ob (show End X.K xw Rep ρ H Q ((Ev.ob (Ev.inL S x ys) S).bind f) from h')
    exact .inl ⟨ys,b,.inr ⟨n,ry,q⟩,hb,h1⟩
   |dt kvs=>
    cases x with
    |tup k=>
     have h2:End X.K xw Rep ρ H Q (((Ev.ob (Ev.YH k) S).bind λk S=>R.ok ((kvs.map (·.1)).contains k) S).bind f):=h'
     cases e:Ev.YH k with
     |none=>rw[e] at h2;exact False.elim h2
     |some ks=>rw[e] at h2;exact .inr ⟨n,kvs,k,ks,ry,q,rfl,e,h2⟩
    |_=>exact False.elim h'
   |_=>exact False.elim h'
 |_=>exact False.elim h
theorem YF {op:CmpOp}{o:Cop}(hc:YU X xw op o) (ha:CE X xw C a i) (hb:CE X xw C b j) (hm:behindInMarks op b=false:=by first | exact nomark _ | rfl | (with_unfolding_all rfl)):CE X xw C (.Compare a [op] [b] pos) (.cmp o i j):=
 PE.imp (jM hc ha hb hm) (ZaZ)
theorem YE {op:CmpOp}{o:Cop}(hc:YU X xw op o) (ha:CE X xw C a i) (hb:CE X xw C b j) (hm:behindInMarks op b=false:=by first | exact nomark _ | rfl | (with_unfolding_all rfl)):CT X xw C (.Compare a [op] [b] pos) (.cmp o i j):=
 PT.imp (qR hc ha hb hm) λσ H Q ⟨ρ,l,S,st,lr,h⟩=>by
  have h':End X.K xw Xa ρ H Q (((ev C i l S).bind λx S=>(ev C j l S).bind λy S=>Ev.cmpop o x y S).bind λx S=>Ev.ob (Ev.truth S x) S):=h
  simp only[YY] at h';refine⟨ρ,l,S,st,lr,h'.bind λx S1 ρ1 H1 v f1 st1 r1 h1=>⟨ρ1,l,S1,st1,lr.mono f1,h1.bind λy S2 ρ2 H2 u f2 st2 r2 h2=>⟨ρ2,S2,x,y,st2,r1.mono f2,r2,?_⟩⟩⟩
  have h3:∀{r:R D},(∀z S',r=.ok z S'->∃b,z=.bl b)->End X.K xw Xa ρ2 H2 Q (r.bind λx S=>Ev.ob (Ev.truth S x) S)->End X.K xw Rep ρ2 H2 (λx H'=>∃k,x=V.bl k/\Q k H') r:=λ{r} hr h=>by
   cases r with
   |no=>exact h
   |ex _ _=>exact h
   |ok z S3=>
    obtain⟨b,rfl⟩:=hr z S3 rfl;exact λρ3 H3 w f3 st3 r3=>⟨b,r3.bl',h ρ3 H3 b f3 st3 rfl⟩
  exact h3 (λz S' e=>vR e) h2
theorem WW {op op':CmpOp}{o o':Cop}{d:Expr}{k:E}(hc:YU X xw op o) (hc':YU X xw op' o') (ha:CE X xw C a i) (hb:CE X xw C b j) (hd:CE X xw C d k)
  (hm:lastMarks [op,op'] [b,d]=false:=by with_unfolding_all rfl):CE X xw C (.Compare a [op,op'] [b,d] pos) (.chain o o' i j k):=
 PE.imp (uT hc hc' ha hb hd hm) λσ H Q ⟨ρ,l,S,st,lr,h⟩=>by
  refine⟨ρ,l,S,st,lr,End.bind (show End X.K xw Rep ρ H Q ((ev C i l S).bind _) from h) λx S1 ρ1 H1 v f1 st1 r1 h1=>⟨ρ1,l,S1,st1,lr.mono f1,h1.bind λy S2 ρ2 H2 u f2 st2 r2 h2=>⟨ρ2,S2,x,y,st2,r1.mono f2,r2,h2.bind λz S3 ρ3 H3 w f3 st3 r3 h3=>?_⟩⟩⟩
  cases z with
  |bl n=>
   refine⟨n,r3.bl',?_⟩;cases n with
   |true=>exact⟨ρ3,l,S3,st3,((lr.mono f1).mono f2).mono f3,End.bind (show End X.K xw Rep ρ3 H3 Q ((ev C k l S3).bind _) from h3) λt S4 ρ4 H4 t' f4 st4 r4 h4=>⟨ρ4,S4,y,t,st4,(r2.mono f3).mono f4,r4,h4⟩⟩
   |false=>exact End.ok h3 st3 (Zq _)
  |_=>exact False.elim h3
end
section
variable {X:Cx}{xw:Nat->Hp->Prop}{C:Calls}{e a b c:Expr}{i j k:E}{pos p p' p2:Pos}
variable {ρ:List Addr}{H:Hp}{S:Store}{x y:D}{v u:V}{Q:VK}{K:PySem.W.Frag}
theorem Vf:∀{ks:List D}{k:List Int}{xs:List V},Ev.YH ks=some k->Reps ρ H ks xs->xs=(k.map (Sum.inl:Int->Key)).map kV
 |[],k,xs,h,r=>by unfold Reps at r;cases h;rw[r];rfl
 |.int n::ks,k,xs,h,r=>by
  unfold Reps at r;obtain⟨v,vs,rfl,a1,b1⟩:=r;have h':(Ev.YH ks).map (n :: ·)=some k:=h
  cases q:Ev.YH ks with
  |none=>rw[q] at h';cases h'
  |some k'=>
   rw[q] at h';have e:n::k'=k:=Pb h';rw[<-e,a1.int',Vf q b1];rfl
 |.non::ks,k,xs,h,r=>by cases h
 |.bl _::ks,k,xs,h,r=>by cases h
 |.str _::ks,k,xs,h,r=>by cases h
 |.tup _::ks,k,xs,h,r=>by cases h
 |.loc _::ks,k,xs,h,r=>by cases h
 |.fn _::ks,k,xs,h,r=>by cases h
 |.exc _ _::ks,k,xs,h,r=>by cases h
theorem xO:∀{k k':List Int},k.map (Sum.inl:Int->Key)=k'.map Sum.inl->k=k'
 |[],[],_=>rfl
 |[],_::_,h=>by simp at h
 |_::_,[],h=>by simp at h
 |a::k,b::k',h=>by
  rw[PL,PL] at h;injection h with h1 h2
  rw[Sum.inl.inj h1,xO h2]
theorem Y6 {k:List Int}:∀{kvs:List (List Int×D)}{vs:List (List Key×V)},j8 ρ H kvs vs->(Vb vs (k.map (Sum.inl:Int->Key))).isSome=(kvs.map (·.1)).contains k
 |_,_,.nil=>rfl
 |_,_,.cons (a:=p) (b:=q) r t=>by
  have ih:=Y6 (k:=k) t;rw[PL,List.contains_cons,<-ih];unfold Vb;rw[NU];by_cases z:p.1=k
  ·have z':q.1=k.map Sum.inl:=by rw[r.1,z]
   rw[PD z',z];simp
  ·have z':¬q.1=k.map Sum.inl:=λw=>z (xO (r.1.symm.trans w))
   rw[P1 z'];have:(k == p.1)=false:=Ny.mpr (Ne.symm z);rw[this,Bool.false_or]
theorem Zan (hu:X.A.units+7<cLine):OpR X (compareOp .In) (λv u H Q=>∃a y o,u=.ref a/\v=y/\DGet H a y o/\Q (.bl o.isSome) H):=by
 intro pins s σ H v u vv uu Q I e1 e2 h;obtain⟨a,y,o,rfl,rfl,g,q⟩:=h;cases e2;exact Zcp (by omega) I g e1 λs' I'=>⟨.bl o.isSome,H,I',rfl,q⟩
theorem qT (hu:X.A.units+7<cLine):OpR X (compareOp .NotIn) (λv u H Q=>∃a y o,u=.ref a/\v=y/\DGet H a y o/\Q (.bl !o.isSome) H):=by
 intro pins s σ H v u vv uu Q I e1 e2 h;obtain⟨a,y,o,rfl,rfl,g,q⟩:=h;cases e2;exact qk (by omega) I g e1 λs' I'=>⟨.bl !o.isSome,H,I',rfl,q⟩
theorem vN (hu:X.A.units+7<cLine):YU X xw .In .inn:=OpR.imp ((Zbq hu).or (Zan hu)) λv u H Q ⟨ρ,S,x,y,st,rx,ry,h⟩=>by
 rcases GD st ry (show End X.K xw Rep ρ H Q ((Ev.Wi S x y).bind λb S=>.ok (.bl b) S) from h) with ⟨ds,b,hy,hb,h1⟩ | ⟨n,kvs,k,ks,hy,hn,rfl,hk,h1⟩
 ·exact .inl ⟨ρ,S,x,ds,b,st,rx,hy,hb,End.ok h1 st (Zq _)⟩
 ·obtain⟨p,rfl,hp⟩:=hy.loc'
  obtain⟨p',hp',vs,hx,r⟩:=st.at hn;rw[hp] at hp';cases hp';obtain⟨q,xs,rfl,hq,r2⟩:=rx.tup';refine .inr ⟨p,.ref q,Vb vs (ks.map Sum.inl),rfl,rfl,DGet.t hx (by rw[hq,Vf hk r2]),?_⟩
  rw[Y6 r];exact End.ok h1 st (Zq _)
theorem yp (hu:X.A.units+7<cLine):YU X xw .NotIn .nin:=OpR.imp ((qD hu).or (qT hu)) λv u H Q ⟨ρ,S,x,y,st,rx,ry,h⟩=>by
 rcases GD st ry (show End X.K xw Rep ρ H Q ((Ev.Wi S x y).bind λb S=>.ok (.bl !b) S) from h) with ⟨ds,b,hy,hb,h1⟩ | ⟨n,kvs,k,ks,hy,hn,rfl,hk,h1⟩
 ·exact .inl ⟨ρ,S,x,ds,b,st,rx,hy,hb,End.ok h1 st (Zq _)⟩
 ·obtain⟨p,rfl,hp⟩:=hy.loc'
  obtain⟨p',hp',vs,hx,r⟩:=st.at hn;rw[hp] at hp';cases hp';obtain⟨q,xs,rfl,hq,r2⟩:=rx.tup';refine .inr ⟨p,.ref q,Vb vs (ks.map Sum.inl),rfl,rfl,DGet.t hx (by rw[hq,Vf hk r2]),?_⟩
  rw[Y6 r];exact End.ok h1 st (Zq _)
theorem ug (ha:CE X xw C a i) (hb:CE X xw C b j) (hs:yU b:=by intro _ _;with_unfolding_all rfl):CE X xw C (.Subscript a b pos) (.ix i j):=PE.imp (Zb2 (ju.or ZaW) ha hb hs) (XQ λ{ρ H S x y v u Q} st rx ry h=>by
 cases x with
 |tup ds=>cases y with
  |int n=>
   obtain⟨p,xs,rfl,hp,r⟩:=rx.tup';have h':End X.K xw Rep ρ H Q (Ev.ob (Ev.at' ds n) S):=h;cases q:Ev.at' ds n with
   |none=>rw[q] at h';exact False.elim h'
   |some d=>
    rw[q] at h';unfold Ev.at' at q;cases q2:Ev.ixN ds.length n with
    |none=>rw[q2] at q;cases q
    |some m=>
     rw[q2] at q;obtain⟨w,g,rw'⟩:=r.get (show ds[m]? = some d from q)
     refine .inr ⟨p,xs,n,w,rfl,ry.int',SqT.of hp,?_,End.ok h' st rw'⟩;unfold atI;rw[r.length,show ixN ds.length n=some m from q2]
     exact g
  |_=>exact False.elim h
 |loc m=>cases y with
  |int n=>
   have h':End X.K xw Rep ρ H Q (match Ev.Z2 S m with
    |some xs=>Ev.ob (Ev.at' xs n) S
    |none=>.no):=h
   cases e1:Ev.Z2 S m with
   |none=>rw[e1] at h';exact False.elim h'
   |some ds=>
    rw[e1] at h';obtain⟨p,xs,q1,hp,r⟩:=st.seq e1;obtain⟨p',rfl,t⟩:=rx.loc';rw[q1] at t;cases t;have h2:End X.K xw Rep ρ H Q (Ev.ob (Ev.at' ds n) S):=h';cases q:Ev.at' ds n with
    |none=>rw[q] at h2;exact False.elim h2
    |some d=>
     rw[q] at h2;unfold Ev.at' at q;cases q2:Ev.ixN ds.length n with
     |none=>rw[q2] at q;cases q
     |some k=>
      rw[q2] at q;obtain⟨w,g,rw'⟩:=r.get (show ds[k]? = some d from q)
      refine .inl ⟨p,xs,n,w,rfl,ry.int',hp,?_,End.ok h2 st rw'⟩;unfold atI;rw[r.length,show ixN ds.length n=some k from q2]
      exact g
  |_=>exact False.elim h
 |_=>cases y <;> exact False.elim h)
theorem Jm:CO X xw C none none:=PO.imp qt λσ H Q ⟨ρ,l,S,st,lr,h⟩=>End.ok (rep:=jL) h st rfl
theorem Q8 (h:CE X xw C e i):CO X xw C (some e) (some i):=PO.imp (ZV h) λσ H Q ⟨ρ,l,S,st,lr,h⟩=>by
 refine⟨ρ,l,S,st,lr,End.bind (show End X.K xw jL ρ H Q ((ev C i l S).bind _) from h) λx S1 ρ1 H1 v f1 st1 r1 h1=>?_⟩
 cases x with
 |int n=>exact⟨n,r1.int',End.ok (rep:=jL) h1 st1 rfl⟩
 |_=>exact False.elim h1
theorem Jr (n d:Nat) (o:Option Int):Ev.sIx n d o=HT.sIx n d o:=by
 cases o with
 |none=>rfl
 |some i=>first | rfl | (unfold Ev.sIx HT.sIx;rfl)
theorem yH {ds:List D}{xs:List V}(r:Reps ρ H ds xs) (lo hi:Option Int):Reps ρ H (Ev.cut ds lo hi) (Xj xs lo hi):=by
 unfold Ev.cut Xj;rw[Jr,Jr,r.length];exact (r.drop _).take _
theorem vt {lo hi:Option Expr}{il ih:Option E}(ha:CE X xw C a i) (hl:CO X xw C lo il) (hh:CO X xw C hi ih):CE X xw C (.Subscript a (.Slice lo hi none p2) pos) (.sl i il ih):=
 PE.imp (vO (Za4.or (qh.or jI)) ha hl hh) λσ H Q ⟨ρ,l,S,st,lr,h⟩=>by
  refine⟨ρ,l,S,st,lr,End.bind (show End X.K xw Rep ρ H Q ((ev C i l S).bind _) from h) λx S1 ρ1 H1 v f1 st1 r1 h1=>⟨ρ1,l,S1,st1,lr.mono f1,h1.bind λy S2 ρ2 H2 u f2 st2 r2 h2=>⟨ρ2,l,S2,st2,(lr.mono f1).mono f2,h2.bind λz S3 ρ3 H3 w f3 st3 r3 h3=>?_⟩⟩⟩
  have e1:y=u:=r2;have e2:z=w:=r3;subst e1 e2;have r0:=(r1.mono f2).mono f3;cases x with
  |tup ds=>
   obtain⟨p,xs,rfl,hp,r⟩:=r0.tup';have h':End X.K xw Rep ρ3 H3 Q (.ok (.tup (Ev.cut ds y z)) S3):=h3;by_cases hw:HT.sIx xs.length 0 y=0/\HT.sIx xs.length xs.length z=xs.length
   ·refine .inr (.inl ⟨p,xs,rfl,SqT.of hp,hw,End.ok h' st3 ?_⟩)
    have ew:Ev.cut ds y z=ds:=by
     unfold Ev.cut;rw[Jr,Jr,<-r.length,hw.1,hw.2,List.drop_zero,Nat.sub_zero,r.length,List.take_length]
    rw[ew];exact ZN hp r
   ·exact .inl ⟨p,xs,rfl,SqT.of hp,hw,h'.newT st3 (yH r y z)⟩
  |loc n=>
   have h':End X.K xw Rep ρ3 H3 Q (match Ev.Zi S3 n with
    |some xs=>.ok (.loc S3.length) (S3++[.lst (Ev.cut xs y z)])
    |none=>.no):=h3
   cases e1:Ev.Zi S3 n with
   |none=>rw[e1] at h';exact False.elim h'
   |some ds=>
    rw[e1] at h';obtain⟨_,p,xs,q1,hp,r⟩:=st3.lst e1;obtain⟨p',rfl,t⟩:=r0.loc';rw[q1] at t;cases t;exact .inr (.inr ⟨p,xs,rfl,SqL.of hp,End.newL h' st3 (yH r y z)⟩)
  |_=>exact False.elim h3
noncomputable def VP (K:PySem.W.Frag) (xw:Nat->Hp->Prop) (f:Bf):List V->Hp->VK->Prop:=λvs H Q=>∃ρ S ds,St3 K ρ S H/\Reps ρ H ds vs/\End K xw Rep ρ H Q (Ev.bltin f ds S)
theorem ZJ.imp {X:Cx}{f:Value}{r r':List V->Hp->VK->Prop}(h:ZJ X f r) (k:∀vs H Q,r' vs H Q->r vs H Q):ZJ X f r':=λpins s σ H xs us Q I e q=>h pins s σ H xs us Q I e (k xs H Q q)
theorem vw {f:Bf}{is:List E}:∀σ H Q,tE X xw (ev C (.blt f is)) σ H Q->tCB (VP X.K xw f) (tA X xw (evs C is)) σ H Q:=λσ H Q ⟨ρ,l,S,st,lr,h⟩=>
 ⟨ρ,l,S,st,lr,End.bind (show End X.K xw Rep ρ H Q ((evs C is l S).bind _) from h) λxs S1 ρ1 H1 vs f1 st1 r1 h1=>⟨ρ1,S1,xs,st1,r1,h1⟩⟩
theorem reps1 {d:D}{vs:List V}(r:Reps ρ H [d] vs):∃v,vs=[v]/\Rep ρ H d v:=by
 unfold Reps at r;obtain⟨v,ws,rfl,a1,b1⟩:=r;unfold Reps at b1;exact⟨v,by rw[b1],a1⟩
theorem reps2 {d e:D}{vs:List V}(r:Reps ρ H [d,e] vs):∃v w,vs=[v,w]/\Rep ρ H d v/\Rep ρ H e w:=by
 unfold Reps at r;obtain⟨v,ws,rfl,a1,b1⟩:=r;obtain⟨w,rfl,b2⟩:=reps1 b1;exact⟨v,w,rfl,a1,b2⟩
theorem Qd (st:St3 K ρ S H) (rx:Rep ρ H x v) {ds:List D}(h:Ev.YS S x=some ds):∃p xs,v=.ref p/\(SqL K H p xs\/SqT K H p xs)/\Reps ρ H ds xs:=by
 cases x with
 |tup es=>
  cases h;obtain⟨p,xs,rfl,hp,r⟩:=rx.tup';exact⟨p,xs,rfl,.inr (SqT.of hp),r⟩
 |loc n=>
  obtain⟨p,rfl,hp⟩:=rx.loc';obtain⟨p',xs,q1,hx,r⟩:=st.seq (show Ev.Z2 S n=some ds from h)
  rw[hp] at q1;cases q1;exact⟨p,xs,rfl,.inl hx,r⟩
 |_=>cases h
theorem xc:ZJ X (.builtin "len") (VP X.K xw .len):=ZJ.imp Jj λvs H Q ⟨ρ,S,ds,st,r,h⟩=>by
 cases ds with
 |nil=>exact False.elim h
 |cons d ds=>cases ds with
  |cons _ _=>exact False.elim h
  |nil=>
   obtain⟨v,rfl,rv⟩:=reps1 r;obtain⟨xs,hx,h1⟩:=End.ob (show End X.K xw Rep ρ H Q ((Ev.ob (Ev.YS S d) S).bind λxs S=>.ok (.int xs.length) S) from h)
   obtain⟨p,ys,rfl,hq,r2⟩:=Qd st rv hx;refine⟨p,ys,rfl,hq,?_⟩;rw[r2.length];exact End.ok h1 st (Zn _)
theorem Zbd:∀(as:List D) (S:Store),(∃a b,as=[.int a,.int b])\/Ev.bltin .max2 as S=.no
 |[.int a,.int b],_=>.inl ⟨a,b,rfl⟩
 |[],_=>.inr rfl
 |[x],_=>.inr (by cases x <;> rfl)
 |x::y::_::_,_=>.inr (by cases x <;> first | rfl | (cases y <;> rfl))
 |[.non,_],_ | [.bl _,_],_ | [.str _,_],_ | [.tup _,_],_ | [.loc _,_],_ | [.fn _,_],_ | [.exc _ _,_],_=>.inr rfl
 |[.int _,.non],_ | [.int _,.bl _],_ | [.int _,.str _],_ | [.int _,.tup _],_ | [.int _,.loc _],_ | [.int _,.fn _],_ | [.int _,.exc _ _],_=>.inr rfl
theorem ZaI:∀(as:List D) (S:Store),(∃a b,as=[.int a,.int b])\/Ev.bltin .min2 as S=.no
 |[.int a,.int b],_=>.inl ⟨a,b,rfl⟩
 |[],_=>.inr rfl
 |[x],_=>.inr (by cases x <;> rfl)
 |x::y::_::_,_=>.inr (by cases x <;> first | rfl | (cases y <;> rfl))
 |[.non,_],_ | [.bl _,_],_ | [.str _,_],_ | [.tup _,_],_ | [.loc _,_],_ | [.fn _,_],_ | [.exc _ _,_],_=>.inr rfl
 |[.int _,.non],_ | [.int _,.bl _],_ | [.int _,.str _],_ | [.int _,.tup _],_ | [.int _,.loc _],_ | [.int _,.fn _],_ | [.int _,.exc _ _],_=>.inr rfl
theorem ZaB:∀(as:List D) (S:Store),(∃a,as=[.int a])\/(∃b,as=[.bl b])\/Ev.bltin .toInt as S=.no
 |[.int a],_=>.inl ⟨a,rfl⟩
 |[.bl b],_=>.inr (.inl ⟨b,rfl⟩)
 |x::_::_,_=>.inr (.inr (by cases x <;> rfl))
 |[],_ | [.non],_ | [.str _],_ | [.tup _],_ | [.loc _],_ | [.fn _],_ | [.exc _ _],_=>.inr (.inr rfl)
theorem v3:∀(as:List D) (S:Store),(∃a,as=[.tup a])\/(∃b,as=[.loc b])\/Ev.bltin .tuple as S=.no
 |[.tup a],_=>.inl ⟨a,rfl⟩
 |[.loc b],_=>.inr (.inl ⟨b,rfl⟩)
 |x::_::_,_=>.inr (.inr (by cases x <;> rfl))
 |[],_ | [.non],_ | [.str _],_ | [.bl _],_ | [.int _],_ | [.fn _],_ | [.exc _ _],_=>.inr (.inr rfl)
theorem jb:∀(as:List D) (S:Store),(∃a,as=[a])\/Ev.bltin .list as S=.no
 |[a],_=>.inl ⟨a,rfl⟩
 |[],_=>.inr rfl
 |x::_::_,_=>.inr (by cases x <;> rfl)
theorem ZaD:∀(as:List D) (S:Store),(∃b,as=[.loc b])\/Ev.bltin .all as S=.no
 |[.loc b],_=>.inl ⟨b,rfl⟩
 |x::_::_,_=>.inr (by cases x <;> rfl)
 |[],_ | [.non],_ | [.str _],_ | [.bl _],_ | [.int _],_ | [.tup _],_ | [.fn _],_ | [.exc _ _],_=>.inr rfl
theorem xx (hc:X.calm=true):ZJ X (.builtin "max") (VP X.K xw .max2):=ZJ.imp (wt hc) λvs H Q ⟨ρ,S,ds,st,r,h⟩=>by
 rcases Zbd ds S with ⟨m,n,rfl⟩ | e
 ·obtain⟨v,w,rfl,r1,r2⟩:=reps2 r
  exact⟨m,n,by rw[r1.int',r2.int'],End.ok h st (Zn _)⟩
 ·rw[e] at h;exact h.elim
theorem xg (hc:X.calm=true):ZJ X (.builtin "min") (VP X.K xw .min2):=ZJ.imp (wN hc) λvs H Q ⟨ρ,S,ds,st,r,h⟩=>by
 rcases ZaI ds S with ⟨m,n,rfl⟩ | e
 ·obtain⟨v,w,rfl,r1,r2⟩:=reps2 r
  exact⟨m,n,by rw[r1.int',r2.int'],End.ok h st (Zn _)⟩
 ·rw[e] at h;exact h.elim
theorem xt:ZJ X (.type "int") (VP X.K xw .toInt):=ZJ.imp ww λvs H Q ⟨ρ,S,ds,st,r,h⟩=>by
 rcases ZaB ds S with ⟨m,rfl⟩ | ⟨m,rfl⟩ | e
 ·obtain⟨v,rfl,r1⟩:=reps1 r
  exact .inl ⟨m,by rw[r1.int'],End.ok h st (Zn _)⟩
 ·obtain⟨v,rfl,r1⟩:=reps1 r
  exact .inr ⟨m,by rw[r1.bl'],End.ok h st (Zn _)⟩
 ·rw[e] at h;exact h.elim
theorem QH:ZJ X (.type "tuple") (VP X.K xw .tuple):=ZJ.imp U3 λvs H Q ⟨ρ,S,ds,st,r,h⟩=>by
 rcases v3 ds S with ⟨es,rfl⟩ | ⟨n,rfl⟩ | e
 ·obtain⟨v,rfl,r1⟩:=reps1 r
  obtain⟨p,xs,rfl,hp,r2⟩:=r1.tup';exact⟨p,xs,rfl,.inr ⟨SqT.of hp,End.ok h st r1⟩⟩
 ·obtain⟨v,rfl,r1⟩:=reps1 r
  obtain⟨xs,hx,h1⟩:=End.ob (show End X.K xw Rep ρ H Q ((Ev.ob (Ev.Zi S n) S).bind λxs S=>.ok (.tup xs) S) from h)
  obtain⟨_,p,ys,q1,hp,r2⟩:=st.lst hx;obtain⟨p',rfl,t⟩:=r1.loc';rw[q1] at t;cases t;exact⟨p,ys,rfl,.inl ⟨SqL.of hp,h1.newT st r2⟩⟩
 ·rw[e] at h;exact h.elim
theorem GL:ZJ X (.type "list") (VP X.K xw .list):=ZJ.imp JU λvs H Q ⟨ρ,S,ds,st,r,h⟩=>by
 rcases jb ds S with ⟨d,rfl⟩ | e
 case inr=>rw[e] at h;exact h.elim
 case inl=>
  obtain⟨v,rfl,r1⟩:=reps1 r;obtain⟨xs,hx,h1⟩:=End.ob (show End X.K xw Rep ρ H Q ((Ev.ob (Ev.YS S d) S).bind λxs S=>.ok (.loc S.length) (S++[.lst xs])) from h)
  obtain⟨p,ys,rfl,hq,r2⟩:=Qd st r1 hx;exact⟨p,ys,rfl,hq,h1.newL st r2⟩
theorem YZ {f:Bf}{id:String}{x:Str}{es:List Expr}{is:List E}(hc:ZJ X (.builtin id) (VP X.K xw f)) (hm:X.mg x=none) (ha:CA X xw C (e::es) is) (hg:Gl X x:=by rfl) (hv:bootBuiltins x=some (.builtin id):=by rfl) (hn:x≠"__name__":=by decide) (hdb:(x == ("__debug__" : Str))=false:=by decide)
  (he:starEach (e::es) X.env=(false,eval e X.env)::starEach es X.env:=by rfl) (hpl:(backTo pos (starEach es X.env)).any (·.1)=false:=by rfl):CE X xw C (.Call (.Name x p) (e::es) [] pos) (.blt f is):=
 PE.imp (UX hc hg hm hv ha hn hdb he hpl) vw
theorem WG {f:Bf}{id:String}{x:Str}{es:List Expr}{is:List E}(hc:ZJ X (.type id) (VP X.K xw f)) (hm:X.mg x=none) (ha:CA X xw C (e::es) is) (hg:Gl X x:=by rfl) (hv:bootBuiltins x=some (.type id):=by rfl) (hn:x≠"__name__":=by decide) (hdb:(x == ("__debug__" : Str))=false:=by decide)
  (he:starEach (e::es) X.env=(false,eval e X.env)::starEach es X.env:=by rfl) (hpl:(backTo pos (starEach es X.env)).any (·.1)=false:=by rfl):CE X xw C (.Call (.Name x p) (e::es) [] pos) (.blt f is):=
 PE.imp (wq hc hg hm hv ha hn hdb he hpl) vw
end
section
variable {X:Cx}{xw:Nat->Hp->Prop}{C:Calls}{e a b c:Expr}{i j k:E}{pos p p' p2:Pos}
theorem UL:∀{ds:List D}{bs:List Bool},Ev.truths ds=some bs->bs.length=ds.length/\∀j d,ds[j]? = some d->Ev.ptruth d=some (bs.getD j false)
 |[],bs,h=>by cases h;exact⟨rfl,λj d e=>by simp at e⟩
 |d::ds,bs,h=>by
  unfold Ev.truths at h;cases q1:Ev.ptruth d with
  |none=>rw[q1] at h;cases h
  |some b=>
   cases q2:Ev.truths ds with
   |none=>rw[q1,q2] at h;cases h
   |some cs=>
    rw[q1,q2] at h;cases h;obtain⟨l,ih⟩:=UL q2;refine⟨by rw[PB,PB,l],λj d' e=>?_⟩
    cases j with
    |zero=>simp at e;subst e;simpa using q1
    |succ j=>simpa using ih j d' (by simpa using e)
theorem wH (bs:List Bool):(List.range bs.length).all (λj=>bs.getD j false)=bs.all id:=by
 rw[P2,PP,PP]
 constructor
 ·intro h b hb
  obtain⟨j,hj,e⟩:=NK hb;have:=h j (PU.mpr hj)
  simpa [Pc hj,e] using this
 ·intro h j hj
  have hj':=PU.mp hj
  simpa [Pc hj'] using h bs[j] (NH hj')
theorem JQ {prog:Program}{w:World}{A:Around}{ρ:List Addr}{H:Hp}{d:D}{v:V}{u:Value}{n:Bool}(r:Rep ρ H d v) (e:ZD v u) (h:Ev.ptruth d=some n) (s:Shared) (Q:Bool->Shared->Prop) (E:Value->Shared->Prop) (q:Q n s) :
  wpAny (model prog w) A (truthy u) Q E s:=by
 cases d with
 |non=>cases r.non';cases e;cases h;exact truthy_none q
 |bl b=>cases r.bl';cases e;cases h;exact wpAny_truthy_bool q
 |int m=>
  cases r.int';obtain⟨t,rfl⟩:=e;have h':decide (m≠0)=n:=Pb h;refine PySem.P.truthy_int ?_;have:(m != 0)=n:=by
   rw[<-h'];by_cases z:m=0
   ·subst z;rfl
   ·rw[PD z];exact bne_iff_ne.mpr z
  rw[this];exact q
 |_=>cases h
theorem wa (hc:X.calm=true):ZJ X (.builtin "all") (λvs H Q=>∃ρ S ds n bs,St3 X.K ρ S H/\Reps ρ H [.loc n] vs/\Ev.Zi S n=some ds/\Ev.truths ds=some bs/\Q (.bl (bs.all id)) H):=by
 intro pins s σ H vs us Q I r h;obtain⟨ρ,S,ds,n,bs,st,rs,hl,hb,q⟩:=h;obtain⟨v,rfl,r1⟩:=reps1 rs;obtain⟨_,p,xs,q1,hx,rx⟩:=st.lst hl;obtain⟨p',rfl,t⟩:=r1.loc';rw[q1] at t;cases t;obtain⟨u,rfl,ru⟩:=vals1 r;cases ru;obtain⟨its,rv,pl,hz⟩:=I.list (SqL.of hx);obtain⟨lb,tb⟩:=UL hb;have hlt:p<s.heap.objs.size:=by obtain⟨_,e,_⟩:=pl.isList;exact Pu e
 have hlen:its.toArray.size=bs.length:=by rw[Pf,<-rv.length,rx.length,lb]
 refine call_all_walk (wpAny_pyIter_list pl.isList ⟨s.heap.objs.size,[s.heap.objs.size,p],[s.heap.objs.size],its.toArray.size,(λi v=>its.toArray[i]? = some v),(λi h=>h.IsListIter s.heap.objs.size p i/\h.IsList p its.toArray),λj=>bs.getD j false,rfl,Walks.list (A:=X.A.in1) (show X.A.in1.handled=none from I.ok.hd hc) s.heap.objs.size p (PQ hlt) its.toArray,⟨⟨_,Px _ rfl,rfl,rfl⟩,pl.isList.push _⟩,?_,?_⟩)
 ·intro j v s' Q' E' hv hQ'
  have hj:its[j]? = some v:=by simpa using hv
  have jl:j<ds.length:=by
   have:=(Pq.mp hj).1;rw[<-rv.length,rx.length] at this;exact this
  obtain⟨w',g,r'⟩:=rx.get (Pc jl);obtain⟨u',g',ru'⟩:=rv.get g;rw[hj] at g';cases g';exact JQ r' ru' (tb j _ (Pc jl)) s' Q' E' hQ'
 ·intro h' tk hk
  rw[hlen,wH];have kp:∀b o,s.heap.get? b=some o->h'.get? b=some o:=λb o e=>hk b o (λhm=>by
   have:b=s.heap.objs.size:=by simpa using hm
   exact absurd (this▸Pu e) (PX _)) (Pg _ e)
  exact⟨.bl (bs.all id),H,I.kept (t':=tk) kp,rfl,q⟩
theorem y8 (hc:X.calm=true):ZJ X (.builtin "all") (VP X.K xw .all):=ZJ.imp (wa hc) λvs H Q ⟨ρ,S,ds,st,r,h⟩=>by
 rcases ZaD ds S with ⟨n,rfl⟩ | e
 case inr=>rw[e] at h;exact h.elim
 case inl=>
  obtain⟨xs,hx,h1⟩:=End.ob (show End X.K xw Rep ρ H Q ((Ev.ob (Ev.Zi S n) S).bind λxs S=>(Ev.ob (Ev.truths xs) S).bind λbs S=>.ok (.bl (bs.all id)) S) from h)
  obtain⟨bs,hb,h2⟩:=End.ob h1;exact⟨ρ,S,xs,n,bs,st,r,hx,hb,End.ok h2 st (Zq _)⟩
noncomputable def ZH:Ty->String
 |.int=>"int" | .bool=>"bool" | .str=>"str" | .tuple=>"tuple" | .list=>"list" | .dict=>"dict" | .cls _=>""
theorem yt {K:PySem.W.Frag}{ρ:List Addr}{S:Store}{H:Hp}{x:D}{v:V}{t:Ty}{n:Bool}(st:St3 K ρ S H) (rx:Rep ρ H x v) (ht:∀m,t≠.cls m) (h:Ev.Ga S x t=some n) :
  ∃tv,TyOf K H v tv/\PySem.W.kitOne K tv (.type (ZH t))=some n:=by
 cases x with
 |non=>rw[rx.non'];refine⟨_,.non,?_⟩;cases h;cases t <;> first | rfl | exact absurd rfl (ht _)
 |bl b=>rw[rx.bl'];refine⟨_,.bl b,?_⟩;cases h;cases t <;> first | rfl | exact absurd rfl (ht _)
 |int b=>rw[rx.int'];refine⟨_,.int b,?_⟩;cases h;cases t <;> first | rfl | exact absurd rfl (ht _)
 |str b=>rw[rx.str'];refine⟨_,.str b,?_⟩;cases h;cases t <;> first | rfl | exact absurd rfl (ht _)
 |tup ds=>
  obtain⟨p,xs,rfl,hp,_⟩:=rx.tup';refine⟨_,.tup hp,?_⟩;cases h;cases t <;> first | rfl | exact absurd rfl (ht _)
 |loc m=>
  obtain⟨p,rfl,hp⟩:=rx.loc';have h':(match S[m]? with
   |some (.lst _)=>some (decide (t=.list))
   |some (.dt _)=>some (decide (t=.dict))
   |some (.dk _)=>some (decide (t=.dict))
   |_=>none)=some n:=h
  cases q:S[m]? with
  |none=>rw[q] at h';cases h'
  |some o=>
   rw[q] at h';obtain⟨p',hp',ro⟩:=st.at q;rw[hp] at hp';cases hp';cases o with
   |lst xs=>obtain⟨ys,e,_⟩:=ro;refine⟨_,.lst e,?_⟩;cases h';cases t <;> first | rfl | exact absurd rfl (ht _)
   |dt kvs=>obtain⟨ys,e,_⟩:=ro;refine⟨_,.dT e,?_⟩;cases h';cases t <;> first | rfl | exact absurd rfl (ht _)
   |dk kvs=>obtain⟨ys,e,_⟩:=ro;refine⟨_,.dK e,?_⟩;cases h';cases t <;> first | rfl | exact absurd rfl (ht _)
   |_=>cases h'
 |_=>cases h
theorem uU (T:String):ZJ X (.builtin "isinstance") (λvs H Q=>∃v tv n,vs=[v,.ty T]/\TyOf X.K H v tv/\PySem.W.kitOne X.K tv (.type T)=some n/\Q (.bl n) H):=by
 intro pins s σ H vs us Q I r h;obtain⟨v,tv,n,rfl,ty,e,q⟩:=h;obtain⟨u,w',rfl,r1,r2⟩:=vals2 r;cases r2;exact wV I r1 ty e λtk=>⟨.bl n,H,I.tok tk,rfl,q⟩
theorem Vl {T:Str}{t:Ty}(ht:∀m,t≠.cls m) (hm:X.mg "isinstance" = none) (hmT:X.mg T=none) (ha:CE X xw C a i) (hg:Gl X "isinstance":=by rfl) (hgT:Gl X T:=by rfl) (hvT:bootBuiltins T=some (.type (ZH t)):=by rfl) (hnT:T≠"__name__":=by decide) (hdT:(T == ("__debug__" : Str))=false:=by decide)
  (hs1:starEach [a,.Name T p2] X.env=(false,eval a X.env)::starEach [.Name T p2] X.env:=by rfl) (hs2:starEach [.Name T p2] X.env=(false,eval (.Name T p2) X.env)::starEach [] X.env:=by rfl) (hpl:(backTo pos (starEach [.Name T p2] X.env)).any (·.1)=false:=by rfl) :
  CE X xw C (.Call (.Name "isinstance" p) [a,.Name T p2] [] pos) (.isi i [t]):=
 PE.imp (UX (uU (ZH t)) hg hm (by rfl) (Xs ha (Xs (Jk (v:=.ty (ZH t)) hgT hmT hvT rfl hnT hdT) JV hs2) hs1) (by decide) (by decide) hs1 hpl) λσ H Q ⟨ρ,l,S,st,lr,h⟩=>by
  refine⟨ρ,l,S,st,lr,End.bind (show End X.K xw Rep ρ H Q ((ev C i l S).bind _) from h) λx S1 ρ1 H1 v f1 st1 r1 h1=>?_⟩
  obtain⟨n,hn,h2⟩:=End.ob h1;have hn':Ev.Ga S1 x t=some n:=by
   unfold Ev.UJ at hn;cases q:Ev.Ga S1 x t with
   |none=>rw[q] at hn;cases hn
   |some m=>rw[q] at hn;cases m <;> exact hn
  obtain⟨tv,ty,e⟩:=yt st1 r1 ht hn';exact⟨v,tv,n,rfl,ty,e,End.ok h2 st1 (Zq _)⟩
noncomputable def spF (K:PySem.W.Frag) (C:Calls) (n:Nat):Sp:=λvs H Q _=>∃ρ ds S,St3 K ρ S H/\Reps ρ H ds vs/\End K (λ_ _=>False) Rep ρ H Q (C n ds S)
theorem jU {n kk:Nat}{f:Addr}{fd:FuncData}{ps:List Str}{x:Str}{es:List Expr}{is:List E}(F:FnOk X.prog X.w X.K X.mg X.base CX0 kk f fd ps (spF X.K C n)) (hr:Room kk X.A) (hm:X.mg x=some (.ref f)) (hk:PySem.W.keepIn X.K (.ref f)=true) (hb:Binds X.K fd ps [])
  (ha:CA X (λ_ _=>False) C (e::es) is) (hg:Gl X x:=by rfl) (hdb:(x == ("__debug__" : Str))=false:=by decide) (he:starEach (e::es) X.env=(false,eval e X.env)::starEach es X.env:=by rfl) (hpl:(backTo pos (starEach es X.env)).any (·.1)=false:=by rfl) :
  CE X (λ_ _=>False) C (.Call (.Name x p) (e::es) [] pos) (.call n is):=
 PE.imp (qj F hr hg hm hk hb .nil pass0 ha hdb he hpl) λσ H Q ⟨ρ,l,S,st,lr,h⟩=>
  ⟨ρ,l,S,st,lr,End.bind (show End X.K (λ_ _=>False) Rep ρ H Q ((evs C is l S).bind _) from h) λxs S1 ρ1 H1 vs f1 st1 r1 h1=>by
   rw[NT];exact⟨ρ1,xs,S1,st1,r1,h1⟩⟩
end
noncomputable def Zy (K:PySem.W.Frag) (xw:Nat->Hp->Prop) (ρ:List Addr) (H:Hp) (D:Ends):R Fl->Prop
 |.ok (.nx l) S=>∀ρ' H' σ',Fut ρ H ρ' H'->St3 K ρ' S H'->LocR ρ' H' l σ'->D.nx σ' H'
 |.ok (.brk l) S=>∀ρ' H' σ',Fut ρ H ρ' H'->St3 K ρ' S H'->LocR ρ' H' l σ'->D.bk σ' H'
 |.ok (.cnt l) S=>∀ρ' H' σ',Fut ρ H ρ' H'->St3 K ρ' S H'->LocR ρ' H' l σ'->D.ct σ' H'
 |.ok (.ret d) S=>∀ρ' H' v,Fut ρ H ρ' H'->St3 K ρ' S H'->Rep ρ' H' d v->D.rt v H'
 |.ex c S=>∀ρ' H',Fut ρ H ρ' H'->St3 K ρ' S H'->xw c H'
 |.no=>False
section
variable {K:PySem.W.Frag}{xw:Nat->Hp->Prop}{ρ ρ':List Addr}{H H':Hp}{α β:Type}{rep:List Addr->Hp->α->β->Prop}{D:Ends}
theorem Zy.mono {r:R Fl}(f:Fut ρ H ρ' H') (h:Zy K xw ρ H D r):Zy K xw ρ' H' D r:=by
 cases r with
 |ok fl S=>
  cases fl with
  |nx l=>exact λρ2 H2 σ g=>h ρ2 H2 σ (f.trans g)
  |brk l=>exact λρ2 H2 σ g=>h ρ2 H2 σ (f.trans g)
  |cnt l=>exact λρ2 H2 σ g=>h ρ2 H2 σ (f.trans g)
  |ret d=>exact λρ2 H2 v g=>h ρ2 H2 v (f.trans g)
 |ex c S=>exact λρ2 H2 g=>h ρ2 H2 (f.trans g)
 |no=>exact h
theorem Zy.bind {r:R α}{f:α->Store->R Fl}{Q1:β->Hp->Prop}(h:Zy K xw ρ H D (r.bind f))
  (k:∀d S ρ1 H1 v,Fut ρ H ρ1 H1->St3 K ρ1 S H1->rep ρ1 H1 d v->Zy K xw ρ1 H1 D (f d S)->Q1 v H1):End K xw rep ρ H Q1 r:=by
 cases r with
 |ok d S=>exact λρ1 H1 v g st r=>k d S ρ1 H1 v g st r (Zy.mono g h)
 |ex c S=>exact h
 |no=>exact h
theorem Zy.ob {o:Option α}{S:Store}{f:α->Store->R Fl}(h:Zy K xw ρ H D ((Ev.ob o S).bind f)):∃a,o=some a/\Zy K xw ρ H D (f a S):=by
 cases o with
 |none=>exact h.elim
 |some a=>exact⟨a,rfl,h⟩
theorem Zy.nx {l:Lc}{S:Store}{σ:L2.St}(h:Zy K xw ρ H D (.ok (.nx l) S)) (st:St3 K ρ S H) (lr:LocR ρ H l σ):D.nx σ H:=h ρ H σ (Fut.refl ρ H) st lr
end
section
variable (X:Cx) (xw:Nat->Hp->Prop)
noncomputable def tS3 (f:Lc->Store->R Fl):TS:=λD σ H=>∃ρ l S,St3 X.K ρ S H/\LocR ρ H l σ/\Zy X.K xw ρ H D (f l S)
variable (C:Calls)
def CS (st:Stmt) (s:Sm):Prop:=PS X st (tS3 X xw (run C s))
def CSs (st:List Stmt) (s:List Sm):Prop:=PSs X st (tS3 X xw (runs C s))
noncomputable def tG3 (t:List Nat):TG:=λv σ H Q=>∃ρ l S d l',St3 X.K ρ S H/\LocR ρ H l σ/\Rep ρ H d v/\Ev.assign t d S l=some l'/\∀σ',LocR ρ H l' σ'->Q σ' H
def CG (tg:Expr) (t:List Nat):Prop:=PG X tg (tG3 X t)
noncomputable def ZcE (t:List Nat):TGs:=λvs σ H Q=>∃ρ l ds l',LocR ρ H l σ/\Reps ρ H ds vs/\Ev.fill t ds l=some l'/\∀σ',LocR ρ H l' σ'->Q σ' H
def CGs (tgs:List Expr) (t:List Nat):Prop:=PGs X tgs (ZcE t)
end
theorem PS.imp {X:Cx}{e:Stmt}{t t':TS}(h:PS X e t) (k:∀D σ H,t' D σ H->t D σ H):PS X e t':=λpins s σ H D I q=>h pins s σ H D I (k D σ H q)
theorem PSs.imp {X:Cx}{e:List Stmt}{t t':TS}(h:PSs X e t) (k:∀D σ H,t' D σ H->t D σ H):PSs X e t':=λpins s σ H D I q=>h pins s σ H D I (k D σ H q)
theorem PG.imp {X:Cx}{e:Expr}{t t':TG}(h:PG X e t) (k:∀v σ H Q,t' v σ H Q->t v σ H Q):PG X e t':=λpins s σ H v u Q I r q=>h pins s σ H v u Q I r (k v σ H Q q)
theorem PGs.imp {X:Cx}{e:List Expr}{t t':TGs}(h:PGs X e t) (k:∀v σ H Q,t' v σ H Q->t v σ H Q):PGs X e t':=λpins s σ H v u Q I r q=>h pins s σ H v u Q I r (k v σ H Q q)
section
variable {X:Cx}{xw:Nat->Hp->Prop}{C:Calls}{e a b c:Expr}{i j k:E}{pos p p' p2:Pos}{s0:Stmt}{ss:List Stmt}{m0:Sm}{ms ms':List Sm}
theorem zL:CSs X xw C [] []:=PSs.imp qm λD σ H ⟨ρ,l,S,st,lr,h⟩=>Zy.nx h st lr
theorem Jn (h1:CS X xw C s0 m0) (h2:CSs X xw C ss ms):CSs X xw C (s0::ss) (m0::ms):=PSs.imp (uY h1 h2) λD σ H ⟨ρ,l,S,st,lr,h⟩=>by
 refine⟨ρ,l,S,st,lr,?_⟩;have h':Zy X.K xw ρ H D ((run C m0 l S).bind λf S=>match f with | .nx σ=>runs C ms σ S | f=>.ok f S):=h
 cases q:run C m0 l S with
 |no=>rw[q] at h';exact h'
 |ex c S1=>rw[q] at h';exact h'
 |ok fl S1=>
  rw[q] at h';cases fl with
  |nx l1=>exact λρ1 H1 σ1 f1 st1 lr1=>⟨ρ1,l1,S1,st1,lr1,Zy.mono f1 h'⟩
  |brk l1=>exact h'
  |cnt l1=>exact h'
  |ret d=>exact h'
theorem zG (he:CE X xw C e i):CS X xw C (.Return (some e) pos) (.ret i):=PS.imp (Zal he) λD σ H ⟨ρ,l,S,st,lr,h⟩=>
 ⟨ρ,l,S,st,lr,Zy.bind (show Zy X.K xw ρ H D ((ev C i l S).bind λx S=>.ok (.ret x) S) from h) λx S1 ρ1 H1 v f1 st1 r1 h1=>h1 ρ1 H1 v (Fut.refl _ _) st1 r1⟩
theorem Jb (he:CE X xw C e i) (hs:swapsWith e none pos.line X.env=pure false:=by rfl):CS X xw C (.Expr e pos) (.ex i):=PS.imp (jp he hs) λD σ H ⟨ρ,l,S,st,lr,h⟩=>
 ⟨ρ,l,S,st,lr,Zy.bind (show Zy X.K xw ρ H D ((ev C i l S).bind λ_ S=>.ok (.nx l) S) from h) λx S1 ρ1 H1 v f1 st1 r1 h1=>Zy.nx h1 st1 (lr.mono f1)⟩
theorem ua {sa sb:List Stmt}(hc:CT X xw C c k) (ha:CSs X xw C sa ms) (hb:CSs X xw C sb ms'):CS X xw C (.If c sa sb pos) (.ite k ms ms'):=PS.imp (Zb0 hc ha hb) λD σ H ⟨ρ,l,S,st,lr,h⟩=>
 ⟨ρ,l,S,st,lr,Zy.bind (show Zy X.K xw ρ H D ((tst C k l S).bind λc S=>if c then runs C ms l S else runs C ms' l S) from h) λx S1 ρ1 H1 v f1 st1 r1 h1=>by
  have e1:x=v:=r1;subst e1;cases x with
  |true=>exact⟨ρ1,l,S1,st1,lr.mono f1,h1⟩
  |false=>exact⟨ρ1,l,S1,st1,lr.mono f1,h1⟩⟩
theorem JB {n:Nat}{x:Str}(hN:X.N.Nodup) (hi:X.N[n]? = some x:=by rfl) (hx:L2.Loc X.env.scope x:=by first | exact Or.inl rfl | exact Or.inr rfl) (hf:X.fn x=true\/X.env.scope.names.lookup x=some .local:=by first | exact .inl rfl | exact .inr rfl):CG X (.Name x pos) [n]:=
 PG.imp (y3 hN hi hx hf) λv σ H Q ⟨ρ,l,S,d,l',st,lr,r,ha,q⟩=>by
  have e:l.set n (some d)=l':=Pb ha;exact q _ (by rw[<-e];exact lr.set n r)
theorem Jc:CGs X [] []:=PGs.imp qG λvs σ H Q ⟨ρ,l,ds,l',lr,r,hf,q⟩=>by
 cases ds with
 |nil=>
  unfold Reps at r;cases hf;exact⟨r,q σ lr⟩
 |cons _ _=>cases hf
theorem UP {tgs:List Expr}{n:Nat}{t:List Nat}{x:Str}(hN:X.N.Nodup) (h2:CGs X tgs t) (hi:X.N[n]? = some x:=by rfl) (hx:L2.Loc X.env.scope x:=by first | exact Or.inl rfl | exact Or.inr rfl) (hf:X.fn x=true\/X.env.scope.names.lookup x=some .local:=by first | exact .inl rfl | exact .inr rfl)
  (hs:(assignEach (.Name x pos::tgs) X.env).map (·.2)=PySem.assign (.Name x pos) X.env::(assignEach tgs X.env).map (·.2):=by rfl):CGs X (.Name x pos::tgs) (n::t):=
 PGs.imp (uy (y3 hN hi hx hf) h2 hs) λvs σ H Q ⟨ρ,l,ds,l',lr,r,hf,q⟩=>by
  cases ds with
  |nil=>cases hf
  |cons d ds=>
   unfold Reps at r;obtain⟨v,ws,rfl,r1,r2⟩:=r;exact⟨v,ws,rfl,ρ,l.set n (some d),ds,l',lr.set n r1,r2,hf,q⟩
theorem US:∀{t:List Nat}{ds:List D}{l l':Lc},Ev.fill t ds l=some l'->ds.length=t.length
 |[],[],_,_,_=>rfl
 |[],_::_,_,_,h=>by cases h
 |_::_,[],_,_,h=>by cases h
 |n::t,d::ds,l,l',h=>by rw[PB,PB,US (t:=t) (ds:=ds) h]
theorem Qr {prog:Program}{w:World}{A:Around}{E:Value->Shared->Prop}{it t:Addr}{items:Array Value}(hne:t≠it):∀(n i:Nat) (s:Shared) (Q:List Value->Shared->Prop),s.heap.IsListIter it t i->s.heap.IsList t items->i+n<=items.size->
  (∀h',Heap.IsListIter h' it t (i+n)->Heap.SameBut it s.heap h'->Q ((items.toList.drop i).take n) { s with heap:=h' })->wpAny (model prog w) A (draw (.ref it) n) Q E s
 |0,i,s,Q,hit,_,_,hQ=>by
  show wpAny _ _ (pure []) Q E s;exact Pj (by simpa using hQ s.heap hit (Heap.SameBut.refl ..))
 |n+1,i,s,Q,hit,ht,hle,hQ=>by
  have hlt:i<items.size:=by omega
  show wpAny _ _ (pyNext (.ref it) >>= _) Q E s;refine Pa (wpAny_pyNext_list_item hit ht (x:=items[i]) (by simp[hlt]) λh₁ hit₁ hs₁=>?_)
  refine Pa (Nf (Qr hne n (i+1) _ _ hit₁ (ht.extBut hs₁.extBut hne) (by omega) λh₂ hit₂ hs₂=>Pj ?_))
  have hd:items.toList.drop i=items[i]::items.toList.drop (i+1):=by simp[ND,hlt]
  have:=hQ h₂ (by rw[show i+(n+1)=i+1+n by omega];exact hit₂) (hs₁.trans hs₂)
  rw[hd,List.take_succ_cons] at this;exact this
theorem za {prog:Program}{w:World}{A:Around}{E:Value->Shared->Prop}{s:Shared}{env:Env}{elts:List Expr}{x1}{pos:Pos}{t:Addr}{items:Array Value}{Q:Unit->Shared->Prop}(hh:A.handled=none) (ht:s.heap.IsList t items)
  (hn:(assignEach elts env).length=items.size) (hstar:(assignEach elts env).findIdx? (·.1)=none)
  (h:∀h',Heap.ExtBut s.heap.objs.size s.heap h'->wpAny (model prog w) A (assignInOrder ((assignEach elts env).map (·.2)) items.toList) Q E { s with heap:=h' }) :
  wpAny (model prog w) A (PySem.assign (.Tuple elts x1 pos) env (.ref t)) Q E s:=by
 rw[assign_Tuple];refine Pa (NN ?_);have hlt:t≠s.heap.objs.size:=by obtain⟨o,ho,_⟩:=ht;exact PQ (Pu ho)
 unfold unpack;rw[hn,hstar];refine Pa (Nf ?_);unfold unpackItems;refine Pa ?_;unfold notIterableAtAll;refine Pa (wpAny_specialOf ht.typeIs slot_list_iter.lookup ?_);refine Pj ?_;simp only[P7,Np];refine Pa (Nf (wpAny_pyIter_list ht ?_));refine Pa (Nf (Qr hlt items.size 0 _ _ ⟨_,Px _ rfl,rfl,rfl⟩ (ht.push _) (by omega) λh₁ hit₁ hs₁=>?_))
 have hall:List.take items.size (List.drop 0 items.toList)=items.toList:=by
  rw[List.drop_zero];exact List.take_of_length_le (by simp)
 rw[hall];rw[Pi (by simp)]
 have ht₁:h₁.IsList t items:=(ht.push _).extBut hs₁.extBut hlt;refine Pa (Nf (wpAny_pyNext_list_end hh hit₁ ht₁ (by simp) λh₂ he₂=>?_))
 simp only[Option.isSome_none,P7,Np];exact Pj (h h₂ λb o hb e=>he₂ b o hb (hs₁.extBut b o hb (Pg _ e)))
noncomputable def gTL (K:PySem.W.Frag) (n:Nat) (t:TGs):TG:=λv σ H Q=>∃a xs,v=.ref a/\(SqT K H a xs\/H a=some (.lst xs))/\xs.length=n/\t xs σ H Q
theorem Zby {X:Cx}{pos:Pos}{es:List Expr}{k:Nat}{t:TGs}{n:Nat}(hc:X.calm=true) (h:PGs X es t)
  (hn:(assignEach es X.env).length=n:=by rfl) (hst:(assignEach es X.env).findIdx? (·.1)=none:=by rfl):PG X (.Tuple es k pos) (gTL X.K n t):=by
 intro pins s σ H v u Q I r hw;obtain⟨a,xs,e1,hq | hq,hl,hw⟩:=hw
 ·exact ZaJ hc h hn hst pins s σ H v u Q I r ⟨a,xs,e1,hq,hl,hw⟩
 ·subst e1
  cases r;obtain⟨its,rv,pl,hz⟩:=I.list (SqL.of hq);refine za (I.ok.hd hc) pl.isList (by simp[hn,<-hl,rv.length]) hst λh' hx=>?_
  have I1:Inv X pins σ H { s with heap:=h' }:=I.kept (t':=s.toks) λb o e=>hx b o (PQ (Pu e)) e
  exact h pins _ σ H xs _ Q I1 (by simpa using rv) hw
theorem zW {tgs:List Expr}{q2:Nat}{n m:Nat}{r:List Nat}(hc:X.calm=true) (h:CGs X tgs (n::m::r)) (hn:(assignEach tgs X.env).length=(n::m::r).length:=by rfl) (hst:(assignEach tgs X.env).findIdx? (·.1)=none:=by rfl):CG X (.Tuple tgs q2 pos) (n::m::r):=
 PG.imp (Zby hc h hn hst) λv σ H Q ⟨ρ,l,S,d,l',st,lr,rd,ha,q⟩=>by
  cases d with
  |tup ds=>
   have hf:Ev.fill (n::m::r) ds l=some l':=ha;obtain⟨p,xs,rfl,hp,rs⟩:=rd.tup';exact⟨p,xs,rfl,.inl (SqT.of hp),by rw[rs.length];exact US hf,ρ,l,ds,l',lr,rs,hf,q⟩
  |loc k=>
   have ha':(match Ev.Zi S k with
    |some xs=>Ev.fill (n::m::r) xs l
    |none=>none)=some l':=ha
   cases e1:Ev.Zi S k with
   |none=>rw[e1] at ha';cases ha'
   |some ds=>
    rw[e1] at ha';have hf:Ev.fill (n::m::r) ds l=some l':=ha';obtain⟨_,p,xs,q1,hp,r1⟩:=st.lst e1;obtain⟨p',rfl,t1⟩:=rd.loc';rw[q1] at t1;cases t1;exact⟨p,xs,rfl,.inr hp,by rw[r1.length];exact US hf,ρ,l,ds,l',lr,r1,hf,q⟩
  |_=>cases ha
theorem yg {tg:Expr}{t:List Nat}(he:CE X xw C e i) (hg:CG X tg t) (hs:swapsWithSole [tg] e pos.line X.env=pure false:=by rfl) (hw:swappedStores [tg] e X.env=pure none:=by rfl)
  (h1:(assignEach [tg] X.env).map (·.2)=[PySem.assign tg X.env]:=by rfl):CS X xw C (.Assign [tg] e pos) (.asg t i):=PS.imp (wY he hg hs hw h1) λD σ H ⟨ρ,l,S,st,lr,h⟩=>
 ⟨ρ,l,S,st,lr,Zy.bind (show Zy X.K xw ρ H D ((ev C i l S).bind λx S=>(Ev.ob (Ev.assign t x S l) S).bind λσ S=>.ok (.nx σ) S) from h) λx S1 ρ1 H1 v f1 st1 r1 h1=>by
  obtain⟨l',hl',h2⟩:=Zy.ob h1;exact⟨ρ1,l,S1,x,l',st1,lr.mono f1,r1,hl',λσ' lr'=>Zy.nx h2 st1 lr'⟩⟩
theorem zo {o ix:Expr}{io ii:E}(ho:CE X xw C o io) (hi:CE X xw C ix ii) (he:CE X xw C e i)
  (ha:∀v,PySem.assign (.Subscript o ix p) X.env v=(do
   let ov <-holding [v] (eval o X.env)
   let iv <-holding [v,ov] (eval ix X.env)
   standAt p
   holding [v,ov,iv] (setItem ov iv v)
   release [v,ov,iv] []):=by intro _;rfl) (hs:swapsWithSole [.Subscript o ix p] e pos.line X.env=pure false:=by rfl) (hw:swappedStores [.Subscript o ix p] e X.env=pure none:=by rfl)
  (h1:(assignEach [.Subscript o ix p] X.env).map (·.2)=[PySem.assign (.Subscript o ix p) X.env]:=by rfl):CS X xw C (.Assign [.Subscript o ix p] e pos) (.put io ii i):=
 PS.imp (wY he (Za9 ho hi (uN (X:=X)) ha) hs hw h1) λD σ H ⟨ρ,l,S,st,lr,h⟩=>
 ⟨ρ,l,S,st,lr,Zy.bind (show Zy X.K xw ρ H D ((ev C i l S).bind λv S=>(ev C io l S).bind λx S=>(ev C ii l S).bind λy S=>(Ev.setix x y v S).bind λ_ S=>.ok (.nx l) S) from h) λx S1 ρ1 H1 v f1 st1 r1 h1=>
  ⟨ρ1,l,S1,st1,lr.mono f1,h1.bind λy S2 ρ2 H2 u f2 st2 r2 h2=>⟨ρ2,l,S2,st2,(lr.mono f1).mono f2,h2.bind λz S3 ρ3 H3 w f3 st3 r3 h3=>by
   cases y with
   |loc n=>cases z with
    |int m=>
     obtain⟨pa,rfl,hp⟩:=(r2.mono f3).loc';have h4:Zy X.K xw ρ3 H3 D ((match S3[n]? with
      |some (.lst xs)=>(Ev.ob (Ev.ixN xs.length m) S3).bind λj S=>.ok () (S.set n (.lst (xs.set j x)))
      |_=>.no).bind λ_ S=>.ok (.nx l) S):=h3
     cases q:S3[n]? with
     |none=>rw[q] at h4;exact False.elim h4
     |some ob=>
      rw[q] at h4;cases ob with
      |lst xs=>
       have h5:Zy X.K xw ρ3 H3 D (((Ev.ob (Ev.ixN xs.length m) S3).bind λj S=>R.ok () (S.set n (.lst (xs.set j x)))).bind λ_ S=>.ok (.nx l) S):=h4
       cases hj:Ev.ixN xs.length m with
       |none=>rw[hj] at h5;exact False.elim h5
       |some jj=>
        rw[hj] at h5;obtain⟨pb,hp',ys,hy,ry⟩:=st3.at q;rw[hp] at hp';cases hp';refine⟨pa,ys,m,jj,rfl,r3.int',hy,by rw[ry.length];exact hj,?_⟩
        have rx:=(r1.mono f2).mono f3;exact h5 ρ3 _ σ (YJ hy) (st3.wr hp q hy (Reps.set rx jj ry)) ((((lr.mono f1).mono f2).mono f3).mono (YJ hy))
      |_=>exact False.elim h4
    |_=>exact False.elim h3
   |_=>exact False.elim h3⟩⟩⟩
end
structure WRel (K:PySem.W.Frag) (ρ:List Addr) (H:Hp) (w:Walk) (J:It):Prop where
 go:∀(i:Nat) ρ' S' H',Fut ρ H ρ' H'->St3 K ρ' S' H'->w.still S'=true->i<w.items.length->J.go i H'/\∀x H'',J.yld i H' x H''->Fut ρ' H' ρ' H''/\St3 K ρ' S' H''/\∀d,w.items[i]? = some d->Rep ρ' H'' d x
 stop:∀ρ' S' H',Fut ρ H ρ' H'->St3 K ρ' S' H'->w.still S'=true->J.stop w.items.length H'
section
variable (X:Cx) (xw:Nat->Hp->Prop)
noncomputable def tW3 (f:Lc->Store->R Walk):TI:=λσ H Q=>∃ρ l S,St3 X.K ρ S H/\LocR ρ H l σ/\End X.K xw (WRel X.K) ρ H Q (f l S)
def CW (C:Calls) (tg it:Expr) (w:Ev.W):Prop:=PI X tg it (tW3 X xw (evw C w))
end
theorem PI.imp {X:Cx}{tg it:Expr}{t t':TI}(h:PI X tg it t) (k:∀σ H Q,t' σ H Q->t σ H Q):PI X tg it t':=λpins s σ H R I q=>h pins s σ H R I (k σ H R q)
section
variable {X:Cx}{xw:Nat->Hp->Prop}{C:Calls}{e a b c tg it:Expr}{i j k:E}{pos p p' p2:Pos}
noncomputable def Zch (K:PySem.W.Frag) (tl:TE):TI:=λσ H R=>tl σ H λx H1=>∃a,x=.ref a/\(((∃xs,SqL K H1 a xs)/\R (Itl K a) H1)\/((∃xs,SqT K H1 a xs)/\R (Itt K a) H1))
theorem ZaG {l:Expr}{tl:TE}(hl:PE X l tl):PI X tg l (Zch X.K tl):=by
 intro pins s σ H R I h;refine thn (hl pins s σ H _ I h) λv s1 ⟨x,H1,I1,r1,a,e,q⟩=>?_
 subst e;cases r1;rcases q with ⟨⟨xs,hq⟩,q⟩ | ⟨⟨xs,hq⟩,q⟩
 ·obtain⟨its,rv,p,hz⟩:=I1.list hq
  refine wpAny_pyIter_list p.isList ?_;refine⟨s1.heap.objs.size,[s1.heap.objs.size],_,_,H1,rfl,I1.kept (t':=s1.toks) λb o e=>Pg _ e,wo a _,⟨_,Px _ rfl,rfl,rfl⟩,λb hb=>?_,q⟩
  have e:b=s1.heap.objs.size:=by simpa using hb
  subst e;exact I1.fpOk (Pl _) (I1.hok.fresh (Pl _))
 ·obtain⟨its,rv,p,hz⟩:=I1.tuple hq
  refine wpAny_pyIter_tuple (show s1.heap.IsTuple a its.toArray from p) ?_
  refine⟨s1.heap.objs.size,[s1.heap.objs.size],_,_,H1,rfl,I1.kept (t':=s1.toks) λb o e=>Pg _ e,zR a _,⟨_,Px _ rfl,rfl,rfl⟩,λb hb=>?_,q⟩
  have e:b=s1.heap.objs.size:=by simpa using hb
  subst e;exact I1.fpOk (Pl _) (I1.hok.fresh (Pl _))
theorem uw {K:PySem.W.Frag}{ρ:List Addr}{H:Hp}{ds:List D}{a:Addr}{xs:List V}(hp:H a=some (.tup xs)) (r:Reps ρ H ds xs):WRel K ρ H ⟨ds,[]⟩ (Itt K a) where
 go:=λi ρ' S' H' f st _ hi=>by
  have hi':i<ds.length:=hi;obtain⟨v,g,_⟩:=(r.mono f).get (Pc hi');refine⟨⟨xs,v,SqT.of (f.tup a xs hp),g⟩,λx H'' y=>?_⟩
  obtain⟨rfl,y⟩:=y;refine⟨Fut.refl _ _,st,λd hd=>?_⟩
  obtain⟨v',g',r'⟩:=(r.mono f).get hd;have:=y xs (SqT.of (f.tup a xs hp));rw[g'] at this;cases this;exact r'
 stop:=λρ' S' H' f st _=>⟨xs,SqT.of (f.tup a xs hp),by show xs.length<=ds.length;rw[r.length];exact Pl _⟩
theorem uH {K:PySem.W.Frag}{ρ:List Addr}{H:Hp}{ds:List D}{a:Addr}{n:Nat}(hp:ρ[n]? = some a):WRel K ρ H ⟨ds,[(n,ds)]⟩ (Itl K a) where
 go:=λi ρ' S' H' f st hs hi=>by
  have hn:S'[n]? = some (.lst ds):=by simpa [Walk.still] using hs
  obtain⟨a',ha,xs,hx,r⟩:=st.at hn;rw[f.at hp] at ha;cases ha;have hi':i<ds.length:=hi;obtain⟨v,g,_⟩:=r.get (Pc hi');refine⟨⟨xs,v,SqL.of hx,g⟩,λx H'' y=>?_⟩
  obtain⟨rfl,y⟩:=y;refine⟨Fut.refl _ _,st,λd hd=>?_⟩
  obtain⟨v',g',r'⟩:=r.get hd;have:=y xs (SqL.of hx);rw[g'] at this;cases this;exact r'
 stop:=λρ' S' H' f st hs=>by
  have hn:S'[n]? = some (.lst ds):=by simpa [Walk.still] using hs
  obtain⟨a',ha,xs,hx,r⟩:=st.at hn;rw[f.at hp] at ha;cases ha;exact⟨xs,SqL.of hx,by show xs.length<=ds.length;rw[r.length];exact Pl _⟩
theorem Gd {lo:Int}{n i:Nat}(h:i<n):(Ev.Zr lo n)[i]? = some (.int (lo+i)):=by
 unfold Ev.Zr;rw[PF,NL h];rfl
theorem Wc (lo:Int) (n:Nat):(Ev.Zr lo n).length=n:=by unfold Ev.Zr;rw[Pk,PY]
theorem J7 {K:PySem.W.Frag}{ρ:List Addr}{H:Hp}{lo:Int}{n:Nat}:WRel K ρ H ⟨Ev.Zr lo n,[]⟩ (Itr lo n) where
 go:=λi ρ' S' H' f st _ hi=>by
  have hi':i<n:=by simpa [Wc] using hi
  refine⟨hi',λx H'' y=>?_⟩
  obtain⟨rfl,rfl⟩:=y;refine⟨Fut.refl _ _,st,λd hd=>?_⟩
  have hd':(Ev.Zr lo n)[i]? = some d:=hd;rw[Gd hi'] at hd';cases hd';exact Zn _
 stop:=λρ' S' H' f st _=>by
  show n<=(Ev.Zr lo n).length;rw[Wc];exact Pl _
theorem uF (he:CE X xw C e i):CW X xw C tg e (.of i):=PI.imp (ZaG he) λσ H Q ⟨ρ,l,S,st,lr,h⟩=>by
 refine⟨ρ,l,S,st,lr,End.bind (show End X.K xw (WRel X.K) ρ H Q ((ev C i l S).bind λx S=>Ev.ob (Ev.Yj S x) S) from h) λx S1 ρ1 H1 v f1 st1 r1 h1=>?_⟩
 cases x with
 |tup ds=>
  obtain⟨a,xs,rfl,hp,r⟩:=r1.tup';exact⟨a,rfl,.inr ⟨⟨xs,SqT.of hp⟩,End.ok (rep:=WRel X.K) h1 st1 (uw hp r)⟩⟩
 |loc n=>
  obtain⟨a,rfl,hp⟩:=r1.loc';have h':End X.K xw (WRel X.K) ρ1 H1 Q (Ev.ob (match S1[n]? with
   |some (.lst xs)=>some ⟨xs,[(n,xs)]⟩
   |_=>none) S1):=h1
  cases q:S1[n]? with
  |none=>rw[q] at h';exact False.elim h'
  |some o=>
   rw[q] at h';cases o with
   |lst ds=>
    obtain⟨a',ha,xs,hx,r⟩:=st1.at q;rw[hp] at ha;cases ha;exact⟨a,rfl,.inl ⟨⟨xs,SqL.of hx⟩,End.ok (rep:=WRel X.K) h' st1 (uH hp)⟩⟩
   |_=>exact False.elim h'
 |_=>exact False.elim h1
theorem JO (hm:X.mg "range" = none) (ha:CA X xw C [a] [i]) (hg:Gl X "range":=by rfl) (hs:starEach [a] X.env=[(false,eval a X.env)]:=by rfl):CW X xw C tg (.Call (.Name "range" p) [a] [] pos) (.rng1 i):=
 PI.imp (wR hg hm ha hs) λσ H Q ⟨ρ,l,S,st,lr,h⟩=>by
  refine⟨ρ,l,S,st,lr,?_⟩;show End X.K xw Reps ρ H _ ((ev C i l S).bind λx S=>(Ev.R.ok [] S).bind λxs S=>.ok (x::xs) S)
  have h':End X.K xw (WRel X.K) ρ H Q ((ev C i l S).bind λx S=>match x with
   |.int i=>if Ev.small i then .ok ⟨Ev.Zr 0 i.toNat,[]⟩ S else .no
   |_=>.no):=h
  cases q:ev C i l S with
  |no=>rw[q] at h';exact h'
  |ex c S1=>rw[q] at h';exact h'
  |ok x S1=>
   rw[q] at h';intro ρ1 H1 vs f1 st1 r1;obtain⟨v,rfl,r⟩:=reps1 r1;cases x with
   |int n=>
    obtain⟨hs,h2⟩:=End.guard (End.mono f1 (show End X.K xw (WRel X.K) ρ H Q (if Ev.small n=true then .ok ⟨Ev.Zr 0 n.toNat,[]⟩ S1 else .no) from h'))
    have hs':=Pw (show decide (-(2^62)<=n/\n<2^62)=true from hs)
    exact⟨n,by rw[r.int'],hs'.1,hs'.2,End.ok (rep:=WRel X.K) h2 st1 J7⟩
   |_=>exact False.elim h'
noncomputable def Zai (x y:D) (S:Store):R Walk:=match x,y with
 |.int i,.int j=>if (Ev.small i&&Ev.small j)=true then .ok ⟨Ev.Zr i (j-i).toNat,[]⟩ S else .no
 |_,_=>.no
theorem Je (hm:X.mg "range" = none) (ha:CA X xw C [a,b] [i,j]) (hg:Gl X "range":=by rfl) (hs:starEach [a,b] X.env=[(false,eval a X.env),(false,eval b X.env)]:=by rfl) (hs2:starEach [b] X.env=[(false,eval b X.env)]:=by rfl) :
  CW X xw C tg (.Call (.Name "range" p) [a,b] [] pos) (.rng2 i j):=
 PI.imp (wc hg hm ha hs hs2) λσ H Q ⟨ρ,l,S,st,lr,h⟩=>by
  refine⟨ρ,l,S,st,lr,?_⟩;show End X.K xw Reps ρ H _ ((ev C i l S).bind λx S=>((ev C j l S).bind λy S=>(Ev.R.ok [] S).bind λxs S=>.ok (y::xs) S).bind λxs S=>.ok (x::xs) S)
  have h':End X.K xw (WRel X.K) ρ H Q ((ev C i l S).bind λx S=>(ev C j l S).bind λy S=>Zai x y S):=h
  cases q:ev C i l S with
  |no=>rw[q] at h';exact h'
  |ex c S1=>rw[q] at h';exact h'
  |ok x S1=>
   rw[q] at h';have h2:End X.K xw (WRel X.K) ρ H Q ((ev C j l S1).bind λy S=>Zai x y S):=h'
   show End X.K xw Reps ρ H _ (((ev C j l S1).bind λy S=>(Ev.R.ok [] S).bind λxs S=>.ok (y::xs) S).bind λxs S=>.ok (x::xs) S)
   cases q2:ev C j l S1 with
   |no=>rw[q2] at h2;exact h2
   |ex c S2=>rw[q2] at h2;exact h2
   |ok y S2=>
    rw[q2] at h2;intro ρ1 H1 vs f1 st1 r1;obtain⟨v,u,rfl,rv,ru⟩:=reps2 r1;cases x with
    |int n=>cases y with
     |int m=>
      obtain⟨hs,h3⟩:=End.guard (End.mono f1 (show End X.K xw (WRel X.K) ρ H Q (if (Ev.small n&&Ev.small m)=true then .ok ⟨Ev.Zr n (m-n).toNat,[]⟩ S2 else .no) from h2))
      obtain⟨s1,s2⟩:=(Pz _ _).mp hs;have s1':=Pw (show decide (-(2^62)<=n/\n<2^62)=true from s1)
      have s2':=Pw (show decide (-(2^62)<=m/\m<2^62)=true from s2)
      exact⟨n,m,by rw[rv.int',ru.int'],⟨s1'.1,s1'.2,s2'.1,s2'.2⟩,End.ok (rep:=WRel X.K) h3 st1 J7⟩
     |_=>exact False.elim h2
    |_=>exact False.elim h2
theorem yb {body:List Stmt}{ms:List Sm}{w:Ev.W}{t:List Nat}(hp:PassesOwn (model X.prog X.w) X.A X.env X.xe) (hc:X.calm=true) (hw:CW X xw C tg it w) (hg:CG X tg t) (hb:CSs X xw C body ms)
  (hs:∀x,foldedSetIterable it X.env x=pure x:=by intro _;rfl):CS X xw C (.For tg it body [] pos) (.forr t w ms):=PS.imp (Zar hp hc hw hg hb hs) λD σ H ⟨ρ,l,S,st,lr,h⟩=>by
 have h':Zy X.K xw ρ H D ((evw C w l S).bind λw S=>Ev.WX w (λx σ S=>(Ev.ob (Ev.assign t x S σ) S).bind λσ S=>runs C ms σ S) w.items l S):=h
 refine⟨ρ,l,S,st,lr,h'.bind λwk S1 ρ1 H1 J f1 st1 r1 h1=>?_⟩
 let B:Ev.D->Lc->Store->R Fl:=λx σ S=>(Ev.ob (Ev.assign t x S σ) S).bind λσ S=>runs C ms σ S
 refine⟨λn m σ' H'=>m=wk.items.length-n/\n<=wk.items.length/\∃ρ' l' S',Fut ρ1 H1 ρ' H'/\St3 X.K ρ' S' H'/\LocR ρ' H' l' σ'/\Zy X.K xw ρ' H' D (Ev.WX wk B (wk.items.drop n) l' S'),
  ⟨wk.items.length,rfl,Nat.zero_le _,ρ1,l,S1,Fut.refl _ _,st1,lr.mono f1,h1⟩,?_⟩
 rintro n m σ' H' ⟨rfl,hn,ρ',l',S',f',st',lr',e'⟩
 by_cases hlt:n<wk.items.length
 ·right
  have hd:wk.items.drop n=wk.items[n]::wk.items.drop (n+1):=ND hlt;rw[hd] at e';have e2:Zy X.K xw ρ' H' D (if wk.still S'=true then (match B wk.items[n] l' S' with
   |.ok (.nx σ') S'=>Ev.WX wk B (wk.items.drop (n+1)) σ' S'
   |.ok (.cnt σ') S'=>Ev.WX wk B (wk.items.drop (n+1)) σ' S'
   |.ok (.brk σ') S'=>.ok (.nx σ') S'
   |.ok (.ret d) S'=>.ok (.ret d) S'
   |.ex c S'=>.ex c S'
   |.no=>.no) else .no):=e'
  by_cases hst:wk.still S'=true
  ·rw[Ph hst] at e2
   obtain⟨go,yl⟩:=r1.go n ρ' S' H' f' st' hst hlt;refine⟨go,λσ2 H2=>∃ρ2 l2 S2,Fut ρ1 H1 ρ2 H2/\St3 X.K ρ2 S2 H2/\LocR ρ2 H2 l2 σ2/\Zy X.K xw ρ2 H2 D (Ev.WX wk B (wk.items.drop (n+1)) l2 S2),λσ2 H2 ⟨ρ2,l2,S2,a1,a2,a3,a4⟩=>⟨wk.items.length-(n+1),by omega,rfl,hlt,ρ2,l2,S2,a1,a2,a3,a4⟩,λx H3 y=>?_⟩
   obtain⟨f3,st3,rp⟩:=yl x H3 y;have rx:=rp _ (Pc hlt);cases ha:Ev.assign t wk.items[n] S' l' with
   |none=>
    have e3:B wk.items[n] l' S'=.no:=by show (Ev.ob (Ev.assign t wk.items[n] S' l') S').bind _=_;rw[ha];rfl
    rw[e3] at e2;exact False.elim e2
   |some l2=>
    have e3:B wk.items[n] l' S'=runs C ms l2 S':=by show (Ev.ob (Ev.assign t wk.items[n] S' l') S').bind _=_;rw[ha];rfl
    rw[e3] at e2;refine⟨ρ',l',S',wk.items[n],l2,st3,lr'.mono f3,rx,ha,λσ2 lr2=>⟨ρ',l2,S',st3,lr2,?_⟩⟩
    have e4:=Zy.mono f3 e2;have ff:=f'.trans f3;cases q:runs C ms l2 S' with
    |no=>rw[q] at e4;exact e4
    |ex c S2=>rw[q] at e4;exact e4
    |ok fl S2=>
     rw[q] at e4;cases fl with
     |nx l3=>exact λρ4 H4 σ4 f4 st4 lr4=>⟨ρ4,l3,S2,ff.trans f4,st4,lr4,Zy.mono f4 e4⟩
     |cnt l3=>exact λρ4 H4 σ4 f4 st4 lr4=>⟨ρ4,l3,S2,ff.trans f4,st4,lr4,Zy.mono f4 e4⟩
     |brk l3=>exact e4
     |ret d=>exact e4
  ·rw[Pi hst] at e2
   exact False.elim e2
 ·left
  have en:n=wk.items.length:=by omega
  subst en;rw[List.drop_length] at e';have e2:Zy X.K xw ρ' H' D (if wk.still S'=true then .ok (.nx l') S' else .no):=e'
  by_cases hst:wk.still S'=true
  ·rw[Ph hst] at e2
   exact⟨r1.stop ρ' S' H' f' st' hst,Zy.nx e2 st' lr'⟩
  ·rw[Pi hst] at e2
   exact False.elim e2
end
end Sd
namespace Sd
open PySem PySem.Spec PyProof.Rows L2
noncomputable def wC (env:Env):List (Str×NameKind)->List (Str×Addr)->List (Str×Addr)
 |[],acc=>acc
 |x::r,acc=>wC env r (if (x.2 == NameKind.free)=true then (x.1,(env.cells.lookup x.1).getD 0)::acc else acc)
theorem U0 {env:Env}{f:Str×NameKind->List (Str×Addr)->Sem (ForInStep (List (Str×Addr)))}:∀(names:List (Str×NameKind)) (acc:List (Str×Addr)),
  (∀x∈names,∀c,f x c=pure (.yield (if (x.2 == NameKind.free)=true then (x.1,(env.cells.lookup x.1).getD 0)::c else c)))->forIn names acc f=pure (wC env names acc)
 |[],acc,_=>rfl
 |x::r,acc,h=>by
  rw[List.forIn_cons,h x Pe,pure_bind];exact U0 r _ λy hy=>h y (Pd _ hy)
theorem Gk {env:Env}{x:Str}{c:Addr}:∀(names:List (Str×NameKind)) (acc:List (Str×Addr)),(wC env names acc).lookup x=some c->acc.lookup x=some c\/(∃y∈names,y.1=x/\y.2=.free/\c=(env.cells.lookup x).getD 0)
 |[],acc,h=>.inl h
 |y::r,acc,h=>by
  rcases Gk r _ h with h | ⟨z,hz,e⟩
  ·by_cases hf:(y.2 == NameKind.free)=true
   ·rw[Ph hf,P5] at h
    cases q:(x == y.1) with
    |true=>
     rw[q] at h;have e:x=y.1:=eq_of_beq q;exact .inr ⟨y,Pe,e.symm,eq_of_beq hf,by rw[e];exact (Pb h).symm⟩
    |false=>rw[q] at h;exact .inl h
   ·rw[Pi hf] at h;exact .inl h
  ·exact .inr ⟨z,Pd _ hz,e⟩
theorem GV {env:Env}{x:Str}:∀(names:List (Str×NameKind)) (acc:List (Str×Addr)),(acc.lookup x).isSome=true->((wC env names acc).lookup x).isSome=true
 |[],acc,h=>h
 |y::r,acc,h=>by
  refine GV r _ ?_;split
  ·rw[P5]
   cases (x == y.1) with
   |true=>rfl
   |false=>exact h
  ·exact h
theorem GF {env:Env}{x:Str}:∀(names:List (Str×NameKind)) (acc:List (Str×Addr)),(x,NameKind.free)∈names->((wC env names acc).lookup x).isSome=true
 |[],acc,h=>by cases h
 |y::r,acc,h=>by
  rcases Po.mp h with h | h
  ·subst h
   refine GV r _ ?_;rw[Ph (by rfl),P5,beq_self_eq_true]
   rfl
  ·exact GF r _ h
theorem zM {scope:Scope}{env:Env}(h:∀y∈scope.names,y.2=.free->∃c,env.cells.lookup y.1=some c) :
  ∃cl,closureFor scope env=pure cl/\(∀x c,cl.lookup x=some c->env.cells.lookup x=some c)/\∀x,(x,NameKind.free)∈scope.names->∃c,cl.lookup x=some c:=by
 refine⟨wC env scope.names [],?_,λx c e=>?_,λx hx=>Option.isSome_iff_exists.mp (GF _ _ hx)⟩
 ·simp only[closureFor]
  rw[U0 (env:=env) scope.names [] (λx hx c=>by
   obtain⟨n,kind⟩:=x;by_cases hk:(kind == NameKind.free)=true
   ·obtain⟨a,ha⟩:=h (n,kind) hx (eq_of_beq hk)
    have ha':env.cells.lookup n=some a:=ha;simp only[hk,NM,cellOf,ha',pure_bind,Option.getD_some]
   ·simp only[hk,Np]
    rfl),pure_bind]
 ·rcases Gk _ _ e with e | ⟨y,hy,e1,e2,e3⟩
  ·cases e
  ·obtain⟨a,ha⟩:=h y hy e2
   rw[e1] at ha;rw[e3,ha];rfl
noncomputable def cxC (X:Cx) (N:List Str) (scope:Scope) (cl:List (Str×Addr)) (s:Shared) (H:Hp) (fp:List Addr):Cx:=
 { X with N:=N,s₀:=s,H₀:=H,env:=compEnvC scope cl s.heap.objs.size X.env,outer:=X.stack,ex:=fp,fn:=λ_=>false,pn:=[],xe:=λ_ _=>False }
def PTs (X:Cx) (ifs:List Expr) (t:TT):Prop:=
 ∀(pins:List (Addr×Obj)) (s:Shared) (σ:L2.St) (H:Hp) (Q:Bool->Hp->Prop),Inv X pins σ H s->t σ H Q->
  wpAny (model X.prog X.w) X.A (forIn ifs true λc r=>if r=true then do let ok <-isTrue c X.env (eval c X.env);pure (ForInStep.yield ok) else pure (ForInStep.yield r)) (TP X pins σ Q) X.xe s
theorem jk {X:Cx}:PTs X [] (λσ H Q=>Q true H):=λpins s σ H Q I h=>wpAny_tests_nil ⟨H,I,h⟩
theorem jW {X:Cx}{c:Expr}{t:TT}(h:PT X c t):PTs X [c] t:=λpins s σ H Q I hq=>wpAny_tests_one (h pins s σ H Q I hq)
structure CompScope (sc:Scope) (N0:List Str) (scope:Scope) (N:List Str) (cap:List Nat) (nl:Nat):Prop where
 kind:scope.kind=.function
 nocell:∀y∈scope.names,y.2≠.cell
 names:∀y∈scope.names,y.2=.local->scope.names.lookup y.1=some .local
 free:∀y∈scope.names,y.2=.free->sc.names.lookup y.1=some .cell\/sc.names.lookup y.1=some .free
 apart:∀y∈scope.names,y.2=.free->scope.names.lookup y.1≠some .local
 len:N.length=nl+cap.length
 cap:∀p∈cap.zipIdx,N[nl+p.2]? = N0[p.1]?/\(N0[p.1]?).map (λx=>decide ((x,NameKind.free)∈scope.names))=some true
theorem CompScope.capt {sc:Scope}{N0:List Str}{scope:Scope}{N:List Str}{cap:List Nat}{nl:Nat}(h:CompScope sc N0 scope N cap nl) (i j:Nat) (e:cap[i]? = some j):∃x,N[nl+i]? = some x/\N0[j]? = some x/\(x,NameKind.free)∈scope.names:=by
 have hm:(j,i)∈cap.zipIdx:=by
  rw[List.mem_zipIdx_iff_getElem?];exact e
 obtain⟨h1,h2⟩:=h.cap (j,i) hm;cases q:N0[j]? with
 |none=>rw[show N0[(j,i).1]? = none from q] at h2;cases h2
 |some x=>
  rw[show N0[(j,i).1]? = some x from q] at h1 h2
  exact⟨x,h1,rfl,Pw (Pb h2)⟩
noncomputable def YQ (cap:List Nat) (nl:Nat) (σ:L2.St):L2.St:=List.replicate nl none++cap.map λi=>(σ[i]?).join
section
variable {X:Cx}{pins:List (Addr×Obj)}{σ:L2.St}{H:Hp}{s:Shared}
theorem WY {scope:Scope}{env:Env}:∀{names:List (Str×NameKind)}{x:Str},(names.map λ(n,k)=>if (k == NameKind.free&&env.scope.kind == .function&&env.kindOf n == some .cell) then (n,NameKind.cell) else (n,k)).lookup x=some .cell\/
  (names.map λ(n,k)=>if (k == NameKind.free&&env.scope.kind == .function&&env.kindOf n == some .cell) then (n,NameKind.cell) else (n,k)).lookup x=some .free->(∀y∈names,y.2≠.cell)->(x,NameKind.free)∈names
 |[],x,h,_=>by rcases h with h | h <;> cases h
 |(n,k)::r,x,h,hc=>by
  have ih:=@WY scope env r x;have hk:k≠.cell:=hc (n,k) Pe;by_cases e:x=n
  ·subst e
   have hk2:k=.free:=by
    rcases h with h | h
    ·rw[PL] at h
     by_cases c:(k == NameKind.free&&env.scope.kind == .function&&env.kindOf x == some .cell)=true
     ·have:=(Pz _ _).mp c
      exact eq_of_beq ((Pz _ _).mp this.1).1
     ·simp only[Pi c,P5,beq_self_eq_true] at h
      exact absurd (Pb h) hk
    ·rw[PL] at h
     by_cases c:(k == NameKind.free&&env.scope.kind == .function&&env.kindOf x == some .cell)=true
     ·simp only[Ph c,P5,beq_self_eq_true] at h
      cases h
     ·simp only[Pi c,P5,beq_self_eq_true] at h
      exact Pb h
   rw[hk2];exact Pe
  ·have hb:(x == n)=false:=Ny.mpr e
   refine Pd _ (ih ?_ λy hy=>hc y (Pd _ hy))
   rcases h with h | h
   ·left
    rw[PL] at h;by_cases c:(k == NameKind.free&&env.scope.kind == .function&&env.kindOf n == some .cell)=true
    ·simp only[Ph c,P5,hb] at h;exact h
    ·simp only[Pi c,P5,hb] at h;exact h
   ·right
    rw[PL] at h;by_cases c:(k == NameKind.free&&env.scope.kind == .function&&env.kindOf n == some .cell)=true
    ·simp only[Ph c,P5,hb] at h;exact h
    ·simp only[Pi c,P5,hb] at h;exact h
theorem v6 {N:List Str}{scope:Scope}{cl:List (Str×Addr)}{fp:List Addr}{cap:List Nat}{nl:Nat}{h1:Heap}{tk:Nat}(I:Inv X pins σ H s) (CS:CompScope X.env.scope X.N scope N cap nl) (hN:X.N.Nodup)
  (c1:∀x c,cl.lookup x=some c->X.env.cells.lookup x=some c) (c2:∀x,(x,NameKind.free)∈scope.names->∃c,cl.lookup x=some c)
  (hf:∀b∈fp,WR X pins H b) (hb:∀b∈fp,∃o,s.heap.get? b=some o) (hns:∃m,h1.Ns s.heap.objs.size m) (hk:∀b o,s.heap.get? b=some o->h1.get? b=some o) :
  Inv (cxC X N scope cl s H fp) [] (YQ cap nl σ) H { s with heap:=h1,toks:=tk }:=by
 have bne:∀b∈fp,b≠s.heap.objs.size:=λb hb' e=>by
  obtain⟨o,ho⟩:=hb b hb';exact absurd (Pu ho) (by rw[e];exact PX _)
 refine⟨⟨I.ok.mod,CS.kind,I.ok.glob,I.ok.blt,Pl _,λx y c h1 h2=>I.ok.inj x y c (c1 x c h1) (c1 y c h2),λx hx=>c2 x (WY (scope:=scope) (env:=X.env) hx CS.nocell),λx c h=>(by cases h),I.ok.hd,I.ok.frames,.inl rfl,
  λb hb'=>⟨bne b hb',λx c e=>(hf b hb').2.2.2.2.1 x c (c1 x c e)⟩,I.bs,P0 I.ok.bsz I.sz,λb o e hb'=>?_,λb hb' hm=>?_,I.stack,I.stkFree⟩,
  rfl,I.bare,Un.kept hk,?_,λx c e=>?_,I.hok.fresh (Pl _),λx c e=>I.freeC x c (c1 x c e),λp hp=>absurd hp (by simp[cxC]),I.hok.kept hk,?_⟩
 ·rcases (hf b hb').2.2.2.1 with z | z
  ·exact I.ok.noex b o e z
  ·exact absurd (Pu e) (Nat.not_lt.mpr (P0 I.ok.bsz z))
 ·rcases Po.mp (I.stkSub b hm) with e | e
  ·exact (hf b hb').2.1 e
  ·exact (hf b hb').2.2.1 e
 ·obtain⟨m1,hm1⟩:=hns
  refine⟨m1,hm1,λi x v e1 e2 e3=>?_⟩
  obtain⟨m,hm,hl⟩:=I.loc;have hi:nl<=i:=by
   by_cases hi:nl<=i
   ·exact hi
   ·have z:(YQ cap nl σ)[i]? = some none:=by
     unfold YQ;rw[Py (by simp;omega),Nd,Ph (by omega)]
    rw[z] at e2;cases e2
  have e2':(cap.map λi=>(σ[i]?).join)[i-nl]? = some (some v):=by
   have:(YQ cap nl σ)[i]? = some (some v):=e2;unfold YQ at this
   rwa [PN (by simp;exact hi),Nn] at this
  rw[PF] at e2';cases hj:cap[i-nl]? with
  |none=>rw[hj] at e2';cases e2'
  |some j=>
   rw[hj] at e2';have hv:σ[j]? = some (some v):=by
    have:(σ[j]?).join=some v:=Pb e2';cases q:σ[j]? with
    |none=>rw[q] at this;cases this
    |some o=>rw[q] at this;cases o with
     |none=>cases this
     |some w=>cases this;rfl
   obtain⟨x',n1,n2,fr⟩:=CS.capt _ _ hj;have ex:x'=x:=by
    have:N[nl+(i-nl)]? = some x:=by rw[show nl+(i-nl)=i by omega];exact e1
    rw[n1] at this;exact Pb this
   subst ex;have kd:=CS.free _ fr rfl;have vis:Vis X.env.scope x':=by
    rcases kd with z | z
    ·exact .inr (.inl z)
    ·exact .inr (.inr z)
   obtain⟨u,r,lk⟩:=hl j x' v n2 hv vis;refine⟨u,r,?_⟩;rcases lk with ⟨k,_⟩ | ⟨k,c,ec,hc⟩
   ·have k':X.env.scope.names.lookup x'=some .local:=k
    rcases kd with z | z <;> (rw[z] at k';cases k')
   ·obtain⟨c',ec'⟩:=c2 x' fr
    have ecc:c'=c:=by
     have:=c1 x' c' ec';rw[ec] at this;exact (Pb this).symm
    subst ecc;have vis2:Vis (relabel scope X.env) x':=e3;refine .inr ⟨?_,c',ec',?_⟩
    ·rcases vis2 with z | z | z
     ·have z':(scope.names.map λ(n,k)=>if (k == NameKind.free&&X.env.scope.kind == .function&&X.env.kindOf n == some .cell) then (n,NameKind.cell) else (n,k)).lookup x'=some .local:=z
      exfalso
      have:∀(names:List (Str×NameKind)),(∀y∈names,y.2=NameKind.local->y.1≠x')->(names.map λ(n,k)=>if (k == NameKind.free&&X.env.scope.kind == .function&&X.env.kindOf n == some .cell) then (n,NameKind.cell) else (n,k)).lookup x'≠some .local:=by
       intro names
       induction names with
       |nil=>intro _ h;cases h
       |cons y r ih=>
        obtain⟨n,k⟩:=y;intro hy h;rw[PL] at h;by_cases e:x'=n
        ·subst e
         by_cases c:(k == NameKind.free&&X.env.scope.kind == .function&&X.env.kindOf x' == some .cell)=true
         ·simp only[Ph c,P5,beq_self_eq_true] at h;cases h
         ·simp only[Pi c,P5,beq_self_eq_true] at h
          exact hy (x',k) Pe (Pb h) rfl
        ·have hb:(x' == n)=false:=Ny.mpr e
         refine ih (λy hy'=>hy y (Pd _ hy')) ?_
         by_cases c:(k == NameKind.free&&X.env.scope.kind == .function&&X.env.kindOf n == some .cell)=true
         ·simp only[Ph c,P5,hb] at h;exact h
         ·simp only[Pi c,P5,hb] at h;exact h
      refine this scope.names (λy hy hl e=>?_) z'
      have l1:=CS.names y hy hl;rw[e] at l1;exact CS.apart (x',.free) fr rfl l1
     ·exact .inl z
     ·exact .inr z
    ·obtain⟨o,ho,hd⟩:=hc
     exact⟨o,hk c' o ho,hd⟩
 ·obtain⟨v,o,ho,hd⟩:=I.cell x c (c1 x c e)
  exact⟨v,o,hk c o ho,hd⟩
 ·unfold YQ
  show _=N.length;rw[PM,Nn,Pk,CS.len]
end
noncomputable abbrev TEm:=L2.St->Hp->(L2.St->Hp->Prop)->Prop
def zf (X:Cx) (act:Sem Fin->Sem Fin) (te:TEm):Prop:=
 ∀(pins:List (Addr×Obj)) (s:Shared) (σ:L2.St) (H:Hp) (Q:L2.St->Hp->Prop) (k:Sem Fin) (QF:Fin->Shared->Prop) (EE:Value->Shared->Prop),Inv X pins σ H s->te σ H Q->(∀s' σ' H',Inv X pins σ' H' s'->Q σ' H'->wpAny (model X.prog X.w) X.A k QF EE s')->
  wpAny (model X.prog X.w) X.A (act k) QF EE s
noncomputable def WN (ipos:Pos) (tg:Expr) (ifs:List Expr) (act:Sem Fin->Sem Fin) (it:Value) (env:Env) (c:Code):Sem Fin:=do
 standAt ipos
 match <-pyNext it with
 |none=>pure (.done .next)
 |some v=>
  letOwnedTupleGo tg it v
  assign tg env v
  let mut ok:=true
  for c in ifs do
   if ok then ok <-isTrue c env (eval c env)
  if ok then act (again c) else again c
def yI (J:It) (g:TG) (tt:TT) (te:TEm) (W:Nat->Nat->L2.St->Hp->Prop) (Q:L2.St->Hp->Prop):Prop:=∀i m σ' H',W i m σ' H'->
  (J.stop i H'/\Q σ' H')\/(J.go i H'/\∀x H'',J.yld i H' x H''->g x σ' H'' λσ2 H2=>tt σ2 H2 λok H3=>if ok=true then te σ2 H3 λσ3 H4=>∃m',m'<m/\W (i+1) m' σ3 H4 else ∃m',m'<m/\W (i+1) m' σ2 H3)
theorem QG {Y:Cx}{e:Expr}{depth:Nat}{ipos:Pos}{tg:Expr}{ifs:List Expr}{act:Sem Fin->Sem Fin}{acc:Value}{J:It}{fp:List Addr}{it:Addr}{tn:Nat->Heap->Prop}{g:TG}{tt:TT}{te:TEm}{pins:List (Addr×Obj)}{Rr:Result->Shared->Prop}{Q:L2.St->Hp->Prop}{W:Nat->Nat->L2.St->Hp->Prop}{s:Shared}{σ:L2.St}{H:Hp}{m:Nat}
  (hc:Y.calm=true) (hx:∀a b,Y.xe a b->False) (hT:compTurn e depth (.ref it) acc Y.env=WN ipos tg ifs act (.ref it) Y.env (.compLoop e depth (.ref it) acc Y.env)) (hquiet:(Code.compLoop e depth (.ref it) acc Y.env).isFrame=false)
  (hq:(Code.compLoop e depth (.ref it) acc Y.env).quiet=true) (T:Turn Y.prog Y.w Y.K tg J fp it tn) (hg:PG Y tg g) (ht:PTs Y ifs tt) (he:zf Y act te) (stat:∀{H':Hp},(∀b∈fp,H' b=none)->∀b∈fp,WR Y pins H' b)
  (turn:yI J g tt te W Q) (fin:∀σ H s,Inv Y pins σ H s->Q σ H->Rr (.ok .next) s)
  (I0:Inv Y pins σ H s) (st0:tn 0 s.heap) (fr0:∀b∈fp,H b=none) (w0:W 0 m σ H) (hden:(model Y.prog Y.w).den (.compLoop e depth (.ref it) acc Y.env)=(compTurn e depth (.ref it) acc Y.env).onRaise (λx=>do noteFrame x Y.env;theTreesLotGoes x))
  (hund:Y.A.under (.compLoop e depth (.ref it) acc Y.env)=Y.A):codeAny (model Y.prog Y.w) Y.A (.compLoop e depth (.ref it) acc Y.env) Rr s:=by
 refine codeAny_loop hq (λn s'=>∃i σ' H',Inv Y pins σ' H' s'/\tn i s'.heap/\(∀b∈fp,H' b=none)/\W i n σ' H') (λn s5 hI=>?_) m ⟨0,σ,H,I0,st0,fr0,w0⟩
 rw[hund,hden,hT];refine wpAny_noted ?_;obtain⟨i,σ5,H5,I5,st5,fr5,w5⟩:=hI;unfold WN;refine Pa (NN (Pa ?_));rcases turn i n σ5 H5 w5 with ⟨stop,qn⟩ | ⟨go,step⟩
 ·refine Ni (T.done Y rfl rfl rfl hc i pins s5 σ5 H5 (λ_ _=>False) I5 (stat fr5) st5 stop) (λr s6 ⟨hr,I6⟩=>?_) λ_ _ h'=>h'.elim
  subst hr;exact Pj (fin σ5 H5 s6 I6 qn)
 ·refine Ni (T.item Y rfl rfl rfl hc i pins s5 σ5 H5 (λ_ _=>False) I5 (stat fr5) st5 go) (λr s6 ⟨u,hr,h6⟩=>?_) λ_ _ h'=>h'.elim
  subst hr;refine Pa (Ni h6 (λ_ s7 ⟨x,H7,I7,r7,y7,st7,fr7⟩=>?_) λ_ _ h'=>h'.elim)
  have I7':=I7.pinned (stat fr7) (T.obj _ _ st7);have back:∀{σ8:L2.St} {H8:Hp} {s8:Shared} {m':Nat},Inv Y (pins++UN fp s7.heap) σ8 H8 s8->m'<n->W (i+1) m' σ8 H8->∃m,m<n/\∃i σ' H',Inv Y pins σ' H' s8/\tn i s8.heap/\(∀b∈fp,H' b=none)/\W i m σ' H':=λ{σ8 H8 s8 m'} I8 hm w8=>by
   refine⟨m',hm,i+1,σ8,H8,I8.unpinned,T.keep _ _ _ st7 λb hb' o e=>(I8.pin (b,o) (P8 _ (P8 _ (Xn hb' e)))).1,λb hb'=>?_,w8⟩
   obtain⟨o,e,d⟩:=T.obj _ _ st7 b hb';exact (I8.pin (b,o) (P8 _ (P8 _ (Xn hb' e)))).2.1
  refine Pa (Ni (hg _ s7 σ5 H7 x u _ I7' r7 (step x H7 y7)) (λ_ s8 ⟨σ8,H8,I8,q8⟩=>?_) λ_ _ h'=>(hx _ _ h').elim)
  refine Pa (Ni (ht _ s8 σ8 H8 _ I8 q8) (λok s9 ⟨H9,I9,q9⟩=>?_) λ_ _ h'=>(hx _ _ h').elim)
  cases ok with
  |false=>
   rw[Pi Pr] at q9;obtain⟨m',hm,w9⟩:=q9;exact Pj ⟨rfl,back I9 hm w9⟩
  |true=>
   rw[Ph rfl] at q9;exact he _ s9 σ8 H9 _ _ _ _ I9 q9 λs10 σ10 H10 I10 ⟨m',hm,w10⟩=>Pj ⟨rfl,back I10 hm w10⟩
theorem W9 {Y:Cx}{elt:Expr}{te:TE}{D:Addr}(hx:∀a b,Y.xe a b->False) (he:PE Y elt te):zf Y (λk=>(do let _ <-call (.builtin "list.append") [.ref D,<-eval elt Y.env]:Sem Unit) >>= λ_=>k) (λσ H Q=>te σ H λy H4=>∃ys,H4 D=some (.lst ys)/\ys.length<sizeLine/\Q σ (upd H4 D (.lst (ys++[y])))):=by
 intro pins s σ H Q k QF EE I h hk;refine Pa ?_;refine Pa (Ni (he pins s σ H _ I h) (λxv s10 ⟨y,H10,I10,r10,ys,hDy,hz,q⟩=>?_) λ_ _ h'=>(hx _ _ h').elim)
 refine Pa (Ni (wF (X:=Y) pins s10 σ H10 (.ref D) [y] (.ref D) [xv] (λv H'=>v=.non/\H'=upd H10 D (.lst (ys++[y]))) I10 rfl (.cons r10 .nil) ⟨D,ys,y,rfl,rfl,hDy,hz,rfl,rfl⟩) (λ_ s11 ⟨v11,H11,I11,_,_,eH⟩=>?_) λ_ _ h'=>(hx _ _ h').elim)
 subst eH;exact Pj (hk _ _ _ I11 q)
noncomputable def QX (wi:TI) (g:TG) (tt:TT) (te:Addr->TEm) (cap:List Nat) (nl:Nat):TE:=λσ H Q=>wi σ H λJ H1=>∀D,H1 D=none->∃W:Nat->Nat->L2.St->Hp->Prop,(∃m,W 0 m (YQ cap nl σ) (upd H1 D (.lst [])))/\yI J g tt (te D) W λ_ H'=>Q (.ref D) H'
noncomputable def uZ (wi:TI) (g:TG) (tt:TT) (te:TE) (cap:List Nat) (nl:Nat):TE:=λσ H Q=>wi σ H λJ H1=>∀D,H1 D=none->∃W:Nat->Nat->L2.St->Hp->Prop,(∃m,W 0 m (YQ cap nl σ) (upd H1 D (.lst [])))/\∀i m σ' H',W i m σ' H'->
  (J.stop i H'/\Q (.ref D) H')\/(J.go i H'/\∀x H'',J.yld i H' x H''->g x σ' H'' λσ2 H2=>tt σ2 H2 λok H3=>if ok=true then te σ2 H3 λy H4=>∃ys,H4 D=some (.lst ys)/\ys.length<sizeLine/\∃m',m'<m/\W (i+1) m' σ2 (upd H4 D (.lst (ys++[y]))) else ∃m',m'<m/\W (i+1) m' σ2 H3)
section
variable {X:Cx}
structure Gone (X:Cx) (pins:List (Addr×Obj)) (H:Hp) (s:Shared) (C:Addr):Prop where
 free:H C=none
 ns:∃m,s.heap.Ns C m
 loc:C≠X.env.locals
 big:X.s₀.heap.objs.size<=C
 cel:∀x c,X.env.cells.lookup x=some c->c≠C
 pin:∀p∈X.pn++pins,p.1≠C
theorem Wb {tg iter elt:Expr}{ifs:List Expr}{scope:Scope}{pos fpos:Pos}{N:List Str}{cap:List Nat}{nl:Nat}{wi:TI}{g:TG}{tt:TT}{te:Addr->TEm}{act:Value->Env->Sem Fin->Sem Fin}{rest:List Comprehension}{pins:List (Addr×Obj)}{s:Shared}{σ:L2.St}{H:Hp}{Q:VK}{use:Option (Value->Sem Unit)}{QQ:Value->Shared->Prop}(hc:X.calm=true) (hN:X.N.Nodup) (CS:CompScope X.env.scope X.N scope N cap nl) (hi:PI X tg iter wi)
  (hT:∀it acc env,compTurn (.ListComp elt (⟨tg,iter,ifs,0⟩::rest) scope pos) 0 it acc env=WN iter.pos tg ifs (act acc env) it env (.compLoop (.ListComp elt (⟨tg,iter,ifs,0⟩::rest) scope pos) 0 it acc env))
  (hb:∀cl s H fp,PG (cxC X N scope cl s H fp) tg g/\PTs (cxC X N scope cl s H fp) ifs tt/\∀D,zf (cxC X N scope cl s H fp) (act (.ref D) (cxC X N scope cl s H fp).env) (te D))
  (hs:∀x,foldedSetIterable iter X.env x=pure x) (I:Inv X pins σ H s) (h:QX wi g tt te cap nl σ H Q)
  (fin:∀D C H5 s6,Inv X pins σ H5 s6->Gone X pins H5 s6 C->Q (.ref D) H5->compPost (model X.prog X.w) X.A X.xe use QQ (.ref D) C (.ok .next) s6) :
  wpAny (model X.prog X.w) X.A (comprehension (.ListComp elt (⟨tg,iter,ifs,0⟩::rest) scope pos) scope X.env fpos (newList []) false (eval iter X.env) use) QQ X.xe s:=by
 obtain⟨cl,hcl,c1,c2⟩:=zM (scope:=scope) (env:=X.env) λy hy hf=>I.ok.has y.1 (CS.free y hy hf)
 refine wpAny_comprehension_free (use:=use) rfl hs hcl CS.kind CS.names ?_;refine thn (hi pins s σ H _ I h) λv s1 h1=>thn h1 λitv s2 h2=>?_
 obtain⟨it,fp,tn,J,H2,rfl,I2,T,st2,f2,q2⟩:=h2;obtain⟨W,⟨m0,w0⟩,turn⟩:=q2 s2.heap.objs.size (I2.hok.fresh (Pl _));refine Nm (wpAny_newFunctionEnv CS.nocell (by intro y hy;simp at hy) (λh₁ hns₁ hsb₁=>?_) CS.kind)
 dsimp only at hns₁ hsb₁ ⊢
 have I3:Inv X pins σ (upd H2 s2.heap.objs.size (.lst [])) { s2 with heap:=s2.heap.push { cls:=.type "list",dict:=none,data:=.seq ([]:List Value).toArray },toks:=s2.toks }:=
  I2.laid (λb u e=>Pg _ e) (Pl _) ⟨Nat.zero_le _,[],0,.nil,Px _ rfl⟩
 generalize hD:s2.heap.objs.size=D at I3 w0 turn hns₁ hsb₁ ⊢;generalize hs3:({ s2 with heap:=s2.heap.push { cls:=.type "list",dict:=none,data:=.seq ([]:List Value).toArray },toks:=s2.toks }:Shared)=s3 at I3
 have hh3:s2.heap.push { cls:=.type "list",dict:=none,data:=.seq ([]:List Value).toArray }=s3.heap:=by rw[<-hs3]
 rw[hh3] at hns₁ hsb₁;have old:∀b o,s2.heap.get? b=some o->s3.heap.get? b=some o:=λb o e=>by rw[<-hh3];exact Pg _ e
 have neD:∀b∈fp,b≠D:=λb hb' e=>by
  obtain⟨o,ho,_⟩:=T.obj _ _ st2 b hb';exact absurd (Pu ho) (by rw[e,<-hD];exact PX _)
 have f3:∀b∈fp,WR X pins (upd H2 D (.lst [])) b:=λb hb'=>⟨by rw[ZE (neD b hb')];exact (f2 b hb').1,(f2 b hb').2⟩
 have keep4:∀b o,s3.heap.get? b=some o->h₁.get? b=some o:=λb o e=>hsb₁.extBut b o (PQ (Pu e)) (Pg _ e)
 have I4:=v6 (tk:=s2.toks+([]:List (Str×Value)).length) I3 CS hN c1 c2 f3 (λb hb'=>let ⟨o,ho,_⟩:=T.obj _ _ st2 b hb';⟨o,old b o ho⟩) ⟨_,hns₁⟩ keep4
 have e4:({ s3 with heap:=h₁,toks:=s2.toks+([]:List (Str×Value)).length }:Shared)={ s2 with heap:=h₁,toks:=s2.toks+([]:List (Str×Value)).length }:=by rw[<-hs3]
 rw[e4] at I4;obtain⟨hg,ht,he⟩:=hb cl s3 (upd H2 D (.lst [])) fp;generalize hY:cxC X N scope cl s3 (upd H2 D (.lst [])) fp=Y at I4 hg ht he;have yP:Y.prog=X.prog:=by rw[<-hY];rfl
 have stat:∀{H':Hp},(∀b∈fp,H' b=none)->∀b∈fp,WR Y [] H' b:=λhn b hb'=>by
  subst hY;refine⟨hn b hb',λe=>?_,λhm=>?_,.inl hb',λx c e=>(f3 b hb').2.2.2.2.1 x c (c1 x c e),λp hp=>absurd hp (by simp[cxC])⟩
  ·obtain⟨o,ho,_⟩:=T.obj _ _ st2 b hb'
   have:=Pu (old b o ho);rw[e] at this;exact absurd this (PX _)
  ·rcases Po.mp (I3.stkSub b hm) with e | e
   ·exact (f3 b hb').2.1 e
   ·exact (f3 b hb').2.2.1 e
 subst hY
 let Y:=cxC X N scope cl s3 (upd H2 D (.lst [])) fp
 have st4:tn 0 h₁:=T.keep _ _ _ st2 λb hb' o e=>keep4 b o (old b o e)
 have fr4:∀b∈fp,upd H2 D (HO.lst []) b=none:=λb hb'=>(f3 b hb').1
 have loop:codeAny (model X.prog X.w) X.A (.compLoop (.ListComp elt (⟨tg,iter,ifs,0⟩::rest) scope pos) 0 (.ref it) (.ref D) (compEnvC scope cl s3.heap.objs.size X.env))
   (compPost (model X.prog X.w) X.A X.xe use QQ (.ref D) s3.heap.objs.size) { s2 with heap:=h₁,toks:=s2.toks+([]:List (Str×Value)).length }:=by
  refine QG (Y:=cxC X N scope cl s3 (upd H2 D (.lst [])) fp) (pins:=[]) (W:=W) (Q:=λ_ H'=>Q (.ref D) H') hc (λ_ _ z=>z) (hT _ _ _) rfl rfl T hg ht (he D) stat turn (λσ5 H5 s6 I6 qn=>?_) I4 st4 fr4 w0 rfl rfl
  obtain⟨m6,hn6,_⟩:=I6.loc;have u:=I6.base;have IX:Inv X pins σ H5 s6:=Inv.call' (s':=s6) (ch:=fp) I3 I6.os ⟨u.keep,u.slot,u.free,u.there,u.tups,u.frzs,u.tbls⟩ I6.hok I6.bare λb hb'=>⟨(f3 b hb').2.2.2.1,(f3 b hb').2.1,(f3 b hb').2.2.2.2.1,λp hp e=>(f3 b hb').2.2.2.2.2 p hp e⟩
  refine fin D s3.heap.objs.size H5 s6 IX ⟨I6.free,⟨m6,hn6⟩,Ne.symm (PQ I3.lt),I3.sz,λx c e z=>?_,λp hp z=>?_⟩ qn
  ·obtain⟨v,q⟩:=I3.cell x c e
   exact absurd q.lt (by rw[z];exact PX _)
  ·exact absurd (Pu (I3.pin p hp).1) (by rw[z];exact PX _)
 subst hs3;exact codeAny_compStart_list loop (T.self _ 0 _ _ _ st4 loop)
theorem Gone.inv {pins:List (Addr×Obj)}{H:Hp}{s:Shared}{C:Addr}{σ:L2.St}{h':Heap}(G:Gone X pins H s C) (I:Inv X pins σ H s) (hsb:Heap.SameBut C s.heap h'):Inv X pins σ H { s with heap:=h' }:=
 I.turned (t':=s.toks) (λb o hb e=>(hsb.2 b hb).trans e) G.free G.loc (.inr G.big) G.cel G.pin
noncomputable def zh (te:TE) (D:Addr):TEm:=λσ H Q=>te σ H λy H4=>∃ys,H4 D=some (.lst ys)/\ys.length<sizeLine/\Q σ (upd H4 D (.lst (ys++[y])))
theorem jJ {tg iter elt:Expr}{ifs:List Expr}{scope:Scope}{pos:Pos}{N:List Str}{cap:List Nat}{nl:Nat}{wi:TI}{g:TG}{tt:TT}{te:TE}(hc:X.calm=true) (hN:X.N.Nodup) (CS:CompScope X.env.scope X.N scope N cap nl) (hi:PI X tg iter wi)
  (hb:∀cl s H fp,PG (cxC X N scope cl s H fp) tg g/\PTs (cxC X N scope cl s H fp) ifs tt/\PE (cxC X N scope cl s H fp) elt te)
  (hs:∀x,foldedSetIterable iter X.env x=pure x:=by intro _;rfl):PE X (.ListComp elt [⟨tg,iter,ifs,0⟩] scope pos) (uZ wi g tt te cap nl):=by
 intro pins s σ H Q I h;rw[eval_ListComp];refine Wb (te:=zh te) (act:=λacc env k=>(do let _ <-call (.builtin "list.append") [acc,<-eval elt env]:Sem Unit) >>= λ_=>k) hc hN CS hi (λ_ _ _=>rfl) (λcl s H fp=>⟨(hb cl s H fp).1,(hb cl s H fp).2.1,λD=>W9 (λ_ _ z=>z) (hb cl s H fp).2.2⟩) hs I h λD C H5 s6 I6 G q=>?_
 obtain⟨m6,hn6⟩:=G.ns;exact⟨m6,hn6,λh' hsb=>⟨.ref D,H5,G.inv I6 hsb,rfl,q⟩⟩
theorem vJ {tg iter elt:Expr}{ifs:List Expr}{scope:Scope}{pos spos py:Pos}{N:List Str}{cap:List Nat}{nl:Nat}{wi:TI}{g:TG}{tt:TT}{te:TE}{i:Nat}{y:Str}(hc:X.calm=true) (hN:X.N.Nodup) (CS:CompScope X.env.scope X.N scope N cap nl) (hi:PI X tg iter wi)
  (hb:∀cl s H fp,PG (cxC X N scope cl s H fp) tg g/\PTs (cxC X N scope cl s H fp) ifs tt/\PE (cxC X N scope cl s H fp) elt te)
  (hsw:swapsWith (.ListComp elt [⟨tg,iter,ifs,0⟩] scope pos) (some (.Name y py)) spos.line X.env=pure true)
  (hy:X.N[i]? = some y) (hx:L2.Loc X.env.scope y) (hf:X.fn y=true\/X.env.scope.names.lookup y=some .local)
  (hs:∀x,foldedSetIterable iter X.env x=pure x:=by intro _;rfl):PS X (.Assign [.Name y py] (.ListComp elt [⟨tg,iter,ifs,0⟩] scope pos) spos) (λD σ H=>uZ wi g tt te cap nl σ H λv H1=>D.nx (σ.set i (some v)) H1):=by
 intro pins s σ H D I h;rw[exec_Assign_Name_used _ _ _ _ hsw];refine Pa (NN (Pa ?_));show wpAny _ X.A (do let _ <-comprehension (.ListComp elt [⟨tg,iter,ifs,0⟩] scope pos) scope X.env _ (newList []) false (eval iter X.env) (some (assign (.Name y py) X.env))) _ _ s;refine Pa (Ni (Wb (use:=some (assign (.Name y py) X.env)) (QQ:=λ_ s'=>SP X pins D .next s') (Q:=λv H1=>D.nx (σ.set i (some v)) H1) (te:=zh te) (act:=λacc env k=>(do let _ <-call (.builtin "list.append") [acc,<-eval elt env]:Sem Unit) >>= λ_=>k) hc hN CS hi (λ_ _ _=>rfl) (λcl s H fp=>⟨(hb cl s H fp).1,(hb cl s H fp).2.1,λD=>W9 (λ_ _ z=>z) (hb cl s H fp).2.2⟩) hs I h λA C H5 s6 I6 G q=>?_) (λ_ s' hq=>Pj (Pj hq)) λ_ _ e=>e)
 show wpAny _ X.A (assign (.Name y py) X.env (.ref A)) _ _ s6;refine wpAny_assign_Name (Vq (v:=V.ref A) I6 hN hy hx rfl (λs7 I7 ⟨a,hsb,ha⟩=>?_) hf)
 have hCa:C≠a:=by
  rcases ha with e | e
  ·rw[e];exact G.loc
  ·exact Ne.symm (G.cel y a e)
 obtain⟨m6,hn6⟩:=G.ns;have G7:Gone X pins H5 s7 C:=⟨G.free,⟨m6,hn6.sameBut hsb hCa⟩,G.loc,G.big,G.cel,G.pin⟩;exact⟨m6,hn6.sameBut hsb hCa,λh' hs'=>⟨σ.set i (some (.ref A)),H5,G7.inv I7 hs',q⟩⟩
noncomputable def Vu (wi:TI) (g:TG) (tt:TT) (te:TEm):TEm:=λσ H Q=>wi σ H λJ H1=>∃W:Nat->Nat->L2.St->Hp->Prop,(∃m,W 0 m σ H1)/\yI J g tt te W Q
theorem Uq {Y:Cx}{elt t2 i2:Expr}{gens:List Comprehension}{scope:Scope}{pos:Pos}{f2:List Expr}{act:Sem Fin->Sem Fin}{acc:Value}{wi:TI}{g:TG}{tt:TT}{te:TEm}(hc:Y.calm=true) (hx:∀a b,Y.xe a b->False) (hi:PI Y t2 i2 wi) (hg:PG Y t2 g) (ht:PTs Y f2 tt) (he:zf Y act te)
  (hs:∀x,foldedSetIterable i2 Y.env x=pure x)
  (hstart:∀(it:Value) (R:Result->Shared->Prop) (s:Shared),codeAny (model Y.prog Y.w) Y.A (.compLoop (.ListComp elt gens scope pos) 1 it acc Y.env) R s->wpAny (model Y.prog Y.w) Y.A (pyIter it) (λit' s'=>codeAny (model Y.prog Y.w) Y.A (.compLoop (.ListComp elt gens scope pos) 1 it' acc Y.env) R s') (notedBy (model Y.prog Y.w) Y.A Y.env λx s'=>R (.error x) s') s->codeAny (model Y.prog Y.w) Y.A (.compStart (.ListComp elt gens scope pos) 1 it acc Y.env) R s)
  (hT:∀it,compTurn (.ListComp elt gens scope pos) 1 it acc Y.env=WN i2.pos t2 f2 act it Y.env (.compLoop (.ListComp elt gens scope pos) 1 it acc Y.env)) :
  zf Y (λk=>do let x <-eval i2 Y.env;standAt i2.pos;let x <-foldedSetIterable i2 Y.env x;let _ <-runOwn (.compStart (.ListComp elt gens scope pos) 1 (<-holding [x] (pyIter x)) acc Y.env) Y.env;k) (Vu wi g tt te):=by
 intro pins s σ H Q k QF EE I h hk;refine Pa (Ni (hi pins s σ H _ I h) (λv s1 h1=>Pa (NN (Pa (NO (hs v) (Pa (Nf (Ni h1 (λitv s2 h2=>?_) λ_ _ z=>(hx _ _ z).elim))))))) λ_ _ z=>(hx _ _ z).elim)
 obtain⟨it,fp,tn,J,H2,rfl,I2,T,st2,f2',W,⟨m0,w0⟩,turn⟩:=h2;have stat:∀{H':Hp},(∀b∈fp,H' b=none)->∀b∈fp,WR Y pins H' b:=λhn b hb=>⟨hn b hb,(f2' b hb).2⟩
 have loop:codeAny (model Y.prog Y.w) Y.A (.compLoop (.ListComp elt gens scope pos) 1 (.ref it) acc Y.env) (λr s'=>match r with | .ok f=>wpAny (model Y.prog Y.w) Y.A k QF EE s' | .error x=>cameBackBy (model Y.prog Y.w) Y.A Y.env EE x s') s2:=
  QG (W:=W) (Q:=Q) hc hx (hT _) rfl rfl T hg ht he stat turn (λσ5 H5 s6 I6 qn=>hk s6 σ5 H5 I6 qn) I2 st2 (λb hb=>(f2' b hb).1) w0 rfl rfl
 exact Pa (wpAny_runOwn (hstart _ _ _ loop (T.self _ 0 _ _ _ st2 loop)))
theorem start1 {prog:Program}{w:World}{A:Around}{R:Result->Shared->Prop}{s:Shared}{elt t1 i1 t2 i2:Expr}{f1 f2:List Expr}{scope:Scope}{pos:Pos}{it acc:Value}{env:Env}
  (h0:codeAny (model prog w) A (.compLoop (.ListComp elt [⟨t1,i1,f1,0⟩,⟨t2,i2,f2,0⟩] scope pos) 1 it acc env) R s)
  (h:wpAny (model prog w) A (pyIter it) (λit' s'=>codeAny (model prog w) A (.compLoop (.ListComp elt [⟨t1,i1,f1,0⟩,⟨t2,i2,f2,0⟩] scope pos) 1 it' acc env) R s') (notedBy (model prog w) A env λx s'=>R (.error x) s') s) :
  codeAny (model prog w) A (.compStart (.ListComp elt [⟨t1,i1,f1,0⟩,⟨t2,i2,f2,0⟩] scope pos) 1 it acc env) R s:=by
 refine codeAny_of_tree ?_;show wpAny _ _ ((compStart (.ListComp elt [⟨t1,i1,f1,0⟩,⟨t2,i2,f2,0⟩] scope pos) 1 it acc env).onRaise (λx=>do noteFrame x env;standAt theWindowsPlace)) _ _ s
 refine wpAny_notedAt ?_;unfold compStart;show wpAny _ _ (ask >>= _) _ _ s;refine Pa (wpAny_askSetting (wpAny_ite ?_));split
 ·first | exact Pa (Pj (Pj (And.intro rfl h0))) | exact Pj (And.intro rfl h0)
 ·first | exact Pa (wpAny_rule (Pa (NN (Pa (Ni h (λit' s' h'=>Pj (And.intro rfl h')) λ_ _ x=>x))))) | (refine Pa (wpAny_rule ?_);show wpAny _ _ (standAt i2.pos >>= _) _ _ s;exact Pa (NN (Pa (Ni h (λit' s' h'=>Pj (And.intro rfl h')) λ_ _ x=>x))))
theorem u6 {t1 i1 t2 i2 elt:Expr}{f1 f2:List Expr}{scope:Scope}{pos:Pos}{N:List Str}{cap:List Nat}{nl:Nat}{wi wj:TI}{g1 g2:TG}{tt1 tt2:TT}{te:TE}(hc:X.calm=true) (hN:X.N.Nodup) (CS:CompScope X.env.scope X.N scope N cap nl) (hi:PI X t1 i1 wi)
  (hb:∀cl s H fp,PG (cxC X N scope cl s H fp) t1 g1/\PTs (cxC X N scope cl s H fp) f1 tt1/\PI (cxC X N scope cl s H fp) t2 i2 wj/\PG (cxC X N scope cl s H fp) t2 g2/\PTs (cxC X N scope cl s H fp) f2 tt2/\PE (cxC X N scope cl s H fp) elt te)
  (hs:∀x,foldedSetIterable i1 X.env x=pure x:=by intro _;rfl) (hs2:∀env x,foldedSetIterable i2 env x=pure x:=by intro _ _;rfl) :
  PE X (.ListComp elt [⟨t1,i1,f1,0⟩,⟨t2,i2,f2,0⟩] scope pos) (QX wi g1 tt1 (λD=>Vu wj g2 tt2 (zh te D)) cap nl):=by
 intro pins s σ H Q I h;rw[eval_ListComp];refine Wb (te:=λD=>Vu wj g2 tt2 (zh te D)) (act:=λacc env k=>do let x <-eval i2 env;standAt i2.pos;let x <-foldedSetIterable i2 env x;let _ <-runOwn (.compStart (.ListComp elt [⟨t1,i1,f1,0⟩,⟨t2,i2,f2,0⟩] scope pos) 1 (<-holding [x] (pyIter x)) acc env) env;k) hc hN CS hi (λ_ _ _=>rfl) (λcl s H fp=>?_) hs I h λD C H5 s6 I6 G q=>?_
 ·obtain⟨a1,a2,a3,a4,a5,a6⟩:=hb cl s H fp
  exact⟨a1,a2,λD=>Uq hc (λ_ _ z=>z) a3 a4 a5 (W9 (λ_ _ z=>z) a6) (λx=>hs2 _ x) (λit R s k1 k2=>start1 k1 k2) λit=>rfl⟩
 ·obtain⟨m6,hn6⟩:=G.ns
  exact⟨m6,hn6,λh' hsb=>⟨.ref D,H5,G.inv I6 hsb,rfl,q⟩⟩
theorem wU {t1 i1 t2 i2 elt:Expr}{f1 f2:List Expr}{scope:Scope}{pos spos py:Pos}{N:List Str}{cap:List Nat}{nl:Nat}{wi wj:TI}{g1 g2:TG}{tt1 tt2:TT}{te:TE}{i:Nat}{y:Str}(hc:X.calm=true) (hN:X.N.Nodup) (CS:CompScope X.env.scope X.N scope N cap nl) (hi:PI X t1 i1 wi)
  (hb:∀cl s H fp,PG (cxC X N scope cl s H fp) t1 g1/\PTs (cxC X N scope cl s H fp) f1 tt1/\PI (cxC X N scope cl s H fp) t2 i2 wj/\PG (cxC X N scope cl s H fp) t2 g2/\PTs (cxC X N scope cl s H fp) f2 tt2/\PE (cxC X N scope cl s H fp) elt te)
  (hsw:swapsWith (.ListComp elt [⟨t1,i1,f1,0⟩,⟨t2,i2,f2,0⟩] scope pos) (some (.Name y py)) spos.line X.env=pure true)
  (hy:X.N[i]? = some y) (hx:L2.Loc X.env.scope y) (hf:X.fn y=true\/X.env.scope.names.lookup y=some .local)
  (hs:∀x,foldedSetIterable i1 X.env x=pure x:=by intro _;rfl) (hs2:∀env x,foldedSetIterable i2 env x=pure x:=by intro _ _;rfl) :
  PS X (.Assign [.Name y py] (.ListComp elt [⟨t1,i1,f1,0⟩,⟨t2,i2,f2,0⟩] scope pos) spos) (λD σ H=>QX wi g1 tt1 (λD=>Vu wj g2 tt2 (zh te D)) cap nl σ H λv H1=>D.nx (σ.set i (some v)) H1):=by
 intro pins s σ H D I h;rw[exec_Assign_Name_used _ _ _ _ hsw];refine Pa (NN (Pa ?_));show wpAny _ X.A (do let _ <-comprehension (.ListComp elt [⟨t1,i1,f1,0⟩,⟨t2,i2,f2,0⟩] scope pos) scope X.env _ (newList []) false (eval i1 X.env) (some (assign (.Name y py) X.env))) _ _ s;refine Pa (Ni (Wb (use:=some (assign (.Name y py) X.env)) (QQ:=λ_ s'=>SP X pins D .next s') (Q:=λv H1=>D.nx (σ.set i (some v)) H1) (te:=λD=>Vu wj g2 tt2 (zh te D)) (act:=λacc env k=>do let x <-eval i2 env;standAt i2.pos;let x <-foldedSetIterable i2 env x;let _ <-runOwn (.compStart (.ListComp elt [⟨t1,i1,f1,0⟩,⟨t2,i2,f2,0⟩] scope pos) 1 (<-holding [x] (pyIter x)) acc env) env;k) hc hN CS hi (λ_ _ _=>rfl) (λcl s H fp=>?_) hs I h λA C H5 s6 I6 G q=>?_) (λ_ s' hq=>Pj (Pj hq)) λ_ _ e=>e)
 ·obtain⟨a1,a2,a3,a4,a5,a6⟩:=hb cl s H fp
  exact⟨a1,a2,λD=>Uq hc (λ_ _ z=>z) a3 a4 a5 (W9 (λ_ _ z=>z) a6) (λx=>hs2 _ x) (λit R s k1 k2=>start1 k1 k2) λit=>rfl⟩
 show wpAny _ X.A (assign (.Name y py) X.env (.ref A)) _ _ s6;refine wpAny_assign_Name (Vq (v:=V.ref A) I6 hN hy hx rfl (λs7 I7 ⟨a,hsb,ha⟩=>?_) hf)
 have hCa:C≠a:=by
  rcases ha with e | e
  ·rw[e];exact G.loc
  ·exact Ne.symm (G.cel y a e)
 obtain⟨m6,hn6⟩:=G.ns;have G7:Gone X pins H5 s7 C:=⟨G.free,⟨m6,hn6.sameBut hsb hCa⟩,G.loc,G.big,G.cel,G.pin⟩;exact⟨m6,hn6.sameBut hsb hCa,λh' hs'=>⟨σ.set i (some (.ref A)),H5,G7.inv I7 hs',q⟩⟩
end
end Sd
namespace Sd
open PySem PySem.Spec PyProof.Rows L2
open Ev (D Ob Store Lc R E Sm Calls Walk Fl Fn Bop Cop Ty Bf Mf ev evs evo evt evw tst run runs)
section
variable {X:Cx}{xw:Nat->Hp->Prop}{C:Calls}{e a b c tg it:Expr}{i j k:E}{pos p p' p2:Pos}
def CTs (X:Cx) (xw:Nat->Hp->Prop) (C:Calls) (ifs:List Expr) (is:List E):Prop:=PTs X ifs (tB3 X xw (evt C is))
theorem PTs.imp {X:Cx}{e:List Expr}{t t':TT}(h:PTs X e t) (k:∀σ H Q,t' σ H Q->t σ H Q):PTs X e t':=λpins s σ H Q I q=>h pins s σ H Q I (k σ H Q q)
theorem Q9:CTs X xw C [] []:=PTs.imp jk λσ H Q ⟨ρ,l,S,st,lr,h⟩=>End.ok (rep:=Xa) (show End X.K xw Xa ρ H Q (.ok true S) from h) st rfl
theorem qx (σ:Lc) (S:Store):evt C [i] σ S=tst C i σ S:=by
 show ((ev C i σ S).bind λx S=>(Ev.ob (Ev.truth S x) S).bind λb S=>if b then evt C [] σ S else .ok false S)=(ev C i σ S).bind λx S=>Ev.ob (Ev.truth S x) S
 congr 1
 funext x S
 cases Ev.truth S x with
 |none=>rfl
 |some b=>cases b <;> rfl
theorem JG (h:CT X xw C c i):CTs X xw C [c] [i]:=PTs.imp (jW h) λσ H Q ⟨ρ,l,S,st,lr,h⟩=>⟨ρ,l,S,st,lr,by rw[<-qx];exact h⟩
theorem LocR.caught {ρ:List Addr}{H:Hp}{l:Lc}{σ:L2.St}(lr:LocR ρ H l σ) (cap:List Nat) (nl:Nat):LocR ρ H (Ev.caught cap nl l) (YQ cap nl σ):=by
 refine⟨by unfold Ev.caught YQ;simp,λn d e=>?_⟩
 unfold Ev.caught at e;by_cases hn:n<nl
 ·rw[Py (by simp;exact hn),Nd,Ph hn] at e
  cases e
 ·rw[PN (by simp;omega),Nn,PF] at e
  unfold YQ;rw[PN (by simp;omega),Nn,PF]
  cases q:cap[n-nl]? with
  |none=>rw[q] at e;cases e
  |some m=>
   rw[q] at e;have e':(l[m]?).join=some d:=Pb e;have:l[m]? = some (some d):=by
    cases z:l[m]? with
    |none=>rw[z] at e';cases e'
    |some o=>rw[z] at e';cases o with
     |none=>cases e'
     |some w=>cases e';rfl
   obtain⟨v,hv,r⟩:=lr.val m d this;exact⟨v,by show some ((σ[m]?).join)=_;rw[hv];rfl,r⟩
theorem G0 {is:List E}{ie:E}{cap:List Nat}{nl:Nat}{w:Ev.W}{t:List Nat}{σ:L2.St}{H:Hp}{Q:VK}(hyp:tE X xw (ev C (.comp1 cap nl t w is ie)) σ H Q):uZ (tW3 X xw (evw C w)) (tG3 X t) (tB3 X xw (evt C is)) (tE X xw (ev C ie)) cap nl σ H Q:=by
  obtain⟨ρ,l,S,st,lr,h⟩:=hyp;rw[ev] at h;refine⟨ρ,l,S,st,lr,h.bind λwk S1 ρ1 H1 J f1 st1 r1 h1=>λD hD=>?_⟩
  have st2:St3 X.K (ρ1++[D]) (S1++[.lst []]) (upd H1 D (.lst [])):=st1.new hD ⟨[],Ye,Reps.nil⟩;have f2:Fut ρ1 H1 (ρ1++[D]) (upd H1 D (.lst [])):=WO hD;have pD:(ρ1++[D])[S1.length]? = some D:=by rw[<-st1.len];simp
  let B:Ev.D->Lc->Store->R Lc:=λx σ S2=>(Ev.ob (Ev.assign t x S2 σ) S2).bind λσ S2=>(evt C is σ S2).bind λb S2=>if b then (ev C ie σ S2).bind λy S2=>(Ev.push S1.length y S2).bind λ_ S2=>.ok σ S2 else .ok σ S2
  have h2:End X.K xw Rep ρ1 H1 Q ((Ev.Yn wk B wk.items (Ev.caught cap nl l) (S1++[.lst []])).bind λ_ S2=>.ok (.loc S1.length) S2):=h1
  refine⟨λn m σ' H'=>m=wk.items.length-n/\n<=wk.items.length/\∃ρ' l' S',Fut (ρ1++[D]) (upd H1 D (.lst [])) ρ' H'/\St3 X.K ρ' S' H'/\LocR ρ' H' l' σ'/\End X.K xw Rep ρ' H' Q ((Ev.Yn wk B (wk.items.drop n) l' S').bind λ_ S2=>.ok (.loc S1.length) S2),
   ⟨wk.items.length,rfl,Nat.zero_le _,ρ1++[D],Ev.caught cap nl l,S1++[Ob.lst []],Fut.refl _ _,st2,(((lr.mono f1).mono f2).caught cap nl),by rw[List.drop_zero];exact End.mono f2 h2⟩,?_⟩
  rintro n m σ' H' ⟨rfl,hn,ρ',l',S',f',st',lr',e'⟩
  by_cases hlt:n<wk.items.length
  ·right
   have hd:wk.items.drop n=wk.items[n]::wk.items.drop (n+1):=ND hlt;rw[hd] at e';have e2:End X.K xw Rep ρ' H' Q ((if wk.still S'=true then (B wk.items[n] l' S').bind λσ S=>Ev.Yn wk B (wk.items.drop (n+1)) σ S else .no).bind λ_ S2=>.ok (.loc S1.length) S2):=e'
   by_cases hst:wk.still S'=true
   ·rw[Ph hst] at e2
    obtain⟨go,yl⟩:=r1.go n ρ' S' H' (f2.trans f') st' hst hlt;refine⟨go,λx H3 y=>?_⟩
    obtain⟨f3,st3,rp⟩:=yl x H3 y;have rx:=rp _ (Pc hlt);have e3:=End.mono f3 e2;have ff:=f'.trans f3;cases ha:Ev.assign t wk.items[n] S' l' with
    |none=>
     have z:B wk.items[n] l' S'=.no:=by show (Ev.ob (Ev.assign t wk.items[n] S' l') S').bind _=_;rw[ha];rfl
     rw[z] at e3;exact False.elim e3
    |some l2=>
     have z:B wk.items[n] l' S'=(evt C is l2 S').bind λb S2=>if b then (ev C ie l2 S2).bind λy S2=>(Ev.push S1.length y S2).bind λ_ S2=>.ok l2 S2 else .ok l2 S2:=by
      show (Ev.ob (Ev.assign t wk.items[n] S' l') S').bind _=_;rw[ha];rfl
     rw[z] at e3;simp only[YY] at e3;refine⟨ρ',l',S',wk.items[n],l2,st3,lr'.mono f3,rx,ha,λσ2 lr2=>⟨ρ',l2,S',st3,lr2,e3.bind λok S4 ρ4 H4 ok' f4 st4 ro h4=>?_⟩⟩
     have eo:ok=ok':=ro;subst eo;cases ok with
     |false=>
      rw[Pi Pr];exact⟨wk.items.length-(n+1),by omega,rfl,hlt,ρ4,l2,S4,ff.trans f4,st4,lr2.mono f4,h4⟩
     |true=>
      rw[Ph rfl];have h5:End X.K xw Rep ρ4 H4 Q (((ev C ie l2 S4).bind λy S2=>(Ev.push S1.length y S2).bind λ_ S2=>.ok l2 S2).bind λa S=>(Ev.Yn wk B (wk.items.drop (n+1)) a S).bind λ_ S2=>.ok (.loc S1.length) S2):=h4
      simp only[YY] at h5;refine⟨ρ4,l2,S4,st4,lr2.mono f4,h5.bind λy S5 ρ5 H5 v f5 st5 r5 h6=>?_⟩
      have p5:ρ5[S1.length]? = some D:=f5.at (f4.at (ff.at pD));cases q:Ev.Zi S5 S1.length with
      |none=>
       have z:Ev.push S1.length y S5=.no:=by unfold Ev.push;rw[q]
       rw[z] at h6;exact False.elim h6
      |some zs=>
       have z:Ev.push S1.length y S5=if zs.length<Ev.lim then .ok () (S5.set S1.length (.lst (zs++[y]))) else .no:=by unfold Ev.push;rw[q]
       rw[z] at h6;by_cases hl:zs.length<Ev.lim
       ·rw[Ph hl] at h6
        obtain⟨sn,a,xs,pa,hx,rz⟩:=st5.lst q;rw[p5] at pa;cases pa;refine⟨xs,hx,by rw[rz.length,<-Wz];exact hl,wk.items.length-(n+1),by omega,rfl,hlt,ρ5,l2,S5.set S1.length (.lst (zs++[y])),((ff.trans f4).trans f5).trans (YJ hx),st5.wr p5 sn hx (rz.append (Reps.cons r5 Reps.nil)),((lr2.mono f4).mono f5).mono (YJ hx),End.mono (YJ hx) h6⟩
       ·rw[Pi hl] at h6
        exact False.elim h6
   ·rw[Pi hst] at e2
    exact False.elim e2
  ·left
   have en:n=wk.items.length:=by omega
   subst en;rw[List.drop_length] at e';have e2:End X.K xw Rep ρ' H' Q ((if wk.still S'=true then Ev.R.ok l' S' else .no).bind λ_ S2=>.ok (.loc S1.length) S2):=e'
   by_cases hst:wk.still S'=true
   ·rw[Ph hst] at e2
    exact⟨r1.stop ρ' S' H' (f2.trans f') st' hst,End.ok (rep:=Rep) (show End X.K xw Rep ρ' H' Q (.ok (.loc S1.length) S') from e2) st' (VX (f'.at pD))⟩
   ·rw[Pi hst] at e2
    exact False.elim e2
theorem UA {elt:Expr}{ifs:List Expr}{is:List E}{ie:E}{scope:Scope}{N:List Str}{cap:List Nat}{nl:Nat}{w:Ev.W}{t:List Nat}(hc:X.calm=true) (hN:X.N.Nodup) (CS:CompScope X.env.scope X.N scope N cap nl) (hi:CW X xw C tg it w)
  (hb:∀cl s H fp,CG (cxC X N scope cl s H fp) tg t/\CTs (cxC X N scope cl s H fp) xw C ifs is/\CE (cxC X N scope cl s H fp) xw C elt ie)
  (hs:∀x,foldedSetIterable it X.env x=pure x:=by intro _;rfl):CE X xw C (.ListComp elt [⟨tg,it,ifs,0⟩] scope pos) (.comp1 cap nl t w is ie):=
 PE.imp (jJ (g:=tG3 X t) (tt:=tB3 X xw (evt C is)) (te:=tE X xw (ev C ie)) hc hN CS hi (λcl s H fp=>hb cl s H fp) hs) λσ H Q hyp=>G0 hyp
theorem Us {elt:Expr}{ifs:List Expr}{is:List E}{ie:E}{scope:Scope}{N:List Str}{cap:List Nat}{nl:Nat}{w:Ev.W}{t:List Nat}{n:Nat}{y:Str}{spos py:Pos}(hc:X.calm=true) (hN:X.N.Nodup) (CSc:CompScope X.env.scope X.N scope N cap nl) (hi:CW X xw C tg it w)
  (hb:∀cl s H fp,CG (cxC X N scope cl s H fp) tg t/\CTs (cxC X N scope cl s H fp) xw C ifs is/\CE (cxC X N scope cl s H fp) xw C elt ie)
  (hsw:swapsWith (.ListComp elt [⟨tg,it,ifs,0⟩] scope pos) (some (.Name y py)) spos.line X.env=pure true:=by rfl)
  (hy:X.N[n]? = some y:=by rfl) (hx:L2.Loc X.env.scope y:=by first | exact Or.inl rfl | exact Or.inr rfl) (hf:X.fn y=true\/X.env.scope.names.lookup y=some .local:=by first | exact .inl rfl | exact .inr rfl)
  (hs:∀x,foldedSetIterable it X.env x=pure x:=by intro _;rfl):CS X xw C (.Assign [.Name y py] (.ListComp elt [⟨tg,it,ifs,0⟩] scope pos) spos) (.asg [n] (.comp1 cap nl t w is ie)):=
 PS.imp (vJ (g:=tG3 X t) (tt:=tB3 X xw (evt C is)) (te:=tE X xw (ev C ie)) hc hN CSc hi (λcl s H fp=>hb cl s H fp) hsw hy hx hf hs) λD σ H ⟨ρ,l,S,st,lr,h⟩=>
  G0 ⟨ρ,l,S,st,lr,Zy.bind (show Zy X.K xw ρ H D ((ev C (.comp1 cap nl t w is ie) l S).bind λx S=>(Ev.ob (Ev.assign [n] x S l) S).bind λσ S=>.ok (.nx σ) S) from h) λx S1 ρ1 H1 v f1 st1 r1 h1=>by
   obtain⟨l',hl',h2⟩:=Zy.ob h1;have e:l.set n (some x)=l':=Pb hl';exact Zy.nx h2 st1 (by rw[<-e];exact (lr.mono f1).set n r1)⟩
def LcR (ρ:List Addr) (H:Hp) (l:Lc) (σ:L2.St):Prop:=LocR ρ H l σ
noncomputable def XC (C:Calls) (t:List Nat) (is:List E) (Em:Lc->Store->R Lc) (x:D) (l:Lc) (S:Store):R Lc:=(Ev.ob (Ev.assign t x S l) S).bind λl S=>(evt C is l S).bind λb S=>if b then Em l S else .ok l S
theorem G2 {ρ1:List Addr}{H1:Hp}{wk:Walk}{J:It}(r1:WRel X.K ρ1 H1 wk J) {t:List Nat}{is:List E}{te:TEm}{Em:Lc->Store->R Lc}(P:List Addr->Prop) (hP:∀ρ ρ' H H',Fut ρ H ρ' H'->P ρ->P ρ')
  (hEm:∀ρ H l σ S Q,P ρ->St3 X.K ρ S H->LocR ρ H l σ->End X.K xw LcR ρ H Q (Em l S)->te σ H Q) {QQ:L2.St->Hp->Prop} {ρ:List Addr} {H:Hp} {l:Lc} {σ:L2.St} {S:Store} (f:Fut ρ1 H1 ρ H) (hp:P ρ) (st:St3 X.K ρ S H) (lr:LocR ρ H l σ)
  (h:End X.K xw LcR ρ H QQ (Ev.Yn wk (XC C t is Em) wk.items l S)):∃W:Nat->Nat->L2.St->Hp->Prop,(∃m,W 0 m σ H)/\yI J (tG3 X t) (tB3 X xw (evt C is)) te W QQ:=by
 refine⟨λn m σ' H'=>m=wk.items.length-n/\n<=wk.items.length/\∃ρ' l' S',Fut ρ1 H1 ρ' H'/\P ρ'/\St3 X.K ρ' S' H'/\LocR ρ' H' l' σ'/\End X.K xw LcR ρ' H' QQ (Ev.Yn wk (XC C t is Em) (wk.items.drop n) l' S'),
  ⟨wk.items.length,rfl,Nat.zero_le _,ρ,l,S,f,hp,st,lr,by rw[List.drop_zero];exact h⟩,?_⟩
 rintro n m σ' H' ⟨rfl,hn,ρ',l',S',f',hp',st',lr',e'⟩
 by_cases hlt:n<wk.items.length
 ·right
  have hd:wk.items.drop n=wk.items[n]::wk.items.drop (n+1):=ND hlt;rw[hd] at e';have e2:End X.K xw LcR ρ' H' QQ (if wk.still S'=true then (XC C t is Em wk.items[n] l' S').bind λσ S=>Ev.Yn wk (XC C t is Em) (wk.items.drop (n+1)) σ S else .no):=e'
  obtain⟨hst,e2⟩:=End.guard e2;obtain⟨go,yl⟩:=r1.go n ρ' S' H' f' st' hst hlt;refine⟨go,λx H3 y=>?_⟩
  obtain⟨f3,st3,rp⟩:=yl x H3 y;have rx:=rp _ (Pc hlt);have e3:=End.mono f3 e2;have ff:=f'.trans f3;have p3:=hP _ _ _ _ f3 hp';cases ha:Ev.assign t wk.items[n] S' l' with
  |none=>
   have z:XC C t is Em wk.items[n] l' S'=.no:=by unfold XC;rw[ha];rfl
   rw[z] at e3;exact False.elim e3
  |some l2=>
   have z:XC C t is Em wk.items[n] l' S'=(evt C is l2 S').bind λb S2=>if b then Em l2 S2 else .ok l2 S2:=by unfold XC;rw[ha];rfl
   rw[z] at e3;simp only[YY] at e3;refine⟨ρ',l',S',wk.items[n],l2,st3,lr'.mono f3,rx,ha,λσ2 lr2=>⟨ρ',l2,S',st3,lr2,e3.bind λok S4 ρ4 H4 ok' f4 st4 ro h4=>?_⟩⟩
   have eo:ok=ok':=ro;subst eo;have p4:=hP _ _ _ _ f4 p3;cases ok with
   |false=>
    rw[Pi Pr];exact⟨wk.items.length-(n+1),by omega,rfl,hlt,ρ4,l2,S4,ff.trans f4,p4,st4,lr2.mono f4,h4⟩
   |true=>
    rw[Ph rfl];have h5:End X.K xw LcR ρ4 H4 QQ ((Em l2 S4).bind λa S=>Ev.Yn wk (XC C t is Em) (wk.items.drop (n+1)) a S):=h4
    refine hEm ρ4 H4 l2 σ2 S4 _ p4 st4 (lr2.mono f4) (h5.bind λl3 S5 ρ5 H5 σ3 f5 st5 r5 h6=>?_)
    exact⟨wk.items.length-(n+1),by omega,rfl,hlt,ρ5,l3,S5,(ff.trans f4).trans f5,hP _ _ _ _ f5 p4,st5,r5,h6⟩
 ·left
  have en:n=wk.items.length:=by omega
  subst en;rw[List.drop_length] at e';have e2:End X.K xw LcR ρ' H' QQ (if wk.still S'=true then .ok l' S' else .no):=e'
  obtain⟨hst,e2⟩:=End.guard e2;exact⟨r1.stop ρ' S' H' f' st' hst,End.ok (rep:=LcR) e2 st' lr'⟩
noncomputable def emE (C:Calls) (n:Nat) (ie:E) (l:Lc) (S:Store):R Lc:=(ev C ie l S).bind λy S=>(Ev.push n y S).bind λ_ S=>.ok l S
theorem Za5 {ie:E}{n:Nat}{D:Addr}(ρ:List Addr) (H:Hp) (l:Lc) (σ:L2.St) (S:Store) (Q:L2.St->Hp->Prop) (hp:ρ[n]? = some D) (st:St3 X.K ρ S H) (lr:LocR ρ H l σ) (h:End X.K xw LcR ρ H Q (emE C n ie l S)):zh (tE X xw (ev C ie)) D σ H Q:=by
 refine⟨ρ,l,S,st,lr,End.bind (show End X.K xw LcR ρ H Q ((ev C ie l S).bind _) from h) λy S5 ρ5 H5 v f5 st5 r5 h6=>?_⟩
 have p5:ρ5[n]? = some D:=f5.at hp;cases q:Ev.Zi S5 n with
 |none=>
  have z:Ev.push n y S5=.no:=by unfold Ev.push;rw[q]
  rw[z] at h6;exact False.elim h6
 |some zs=>
  have z:Ev.push n y S5=if zs.length<Ev.lim then .ok () (S5.set n (.lst (zs++[y]))) else .no:=by unfold Ev.push;rw[q]
  rw[z] at h6;by_cases hl:zs.length<Ev.lim
  ·rw[Ph hl] at h6
   obtain⟨sn,a,xs,pa,hx,rz⟩:=st5.lst q;rw[p5] at pa;cases pa;exact⟨xs,hx,by rw[rz.length,<-Wz];exact hl,(show End X.K xw LcR ρ5 H5 Q (.ok l (S5.set n (.lst (zs++[y])))) from h6) ρ5 _ σ (YJ hx) (st5.wr p5 sn hx (rz.append (Reps.cons r5 Reps.nil))) ((lr.mono f5).mono (YJ hx))⟩
  ·rw[Pi hl] at h6
   exact False.elim h6
theorem Qn {is js:List E}{ie:E}{cap:List Nat}{nl:Nat}{w w2:Ev.W}{t u:List Nat}{σ:L2.St}{H:Hp}{Q:VK}(hyp:tE X xw (ev C (.comp2 cap nl t w is u w2 js ie)) σ H Q) :
  QX (tW3 X xw (evw C w)) (tG3 X t) (tB3 X xw (evt C is)) (λD=>Vu (tW3 X xw (evw C w2)) (tG3 X u) (tB3 X xw (evt C js)) (zh (tE X xw (ev C ie)) D)) cap nl σ H Q:=by
 obtain⟨ρ,l,S,st,lr,h⟩:=hyp;rw[ev] at h;refine⟨ρ,l,S,st,lr,h.bind λwk S1 ρ1 H1 J f1 st1 r1 h1=>λD hD=>?_⟩
 have st2:St3 X.K (ρ1++[D]) (S1++[.lst []]) (upd H1 D (.lst [])):=st1.new hD ⟨[],Ye,Reps.nil⟩;have f2:Fut ρ1 H1 (ρ1++[D]) (upd H1 D (.lst [])):=WO hD;have pD:(ρ1++[D])[S1.length]? = some D:=by rw[<-st1.len];simp
 let Em:Lc->Store->R Lc:=λl S2=>(evw C w2 l S2).bind λwk2 S2=>Ev.Yn wk2 (XC C u js (emE C S1.length ie)) wk2.items l S2
 have h2:End X.K xw Rep ρ1 H1 Q ((Ev.Yn wk (XC C t is Em) wk.items (Ev.caught cap nl l) (S1++[.lst []])).bind λ_ S2=>.ok (.loc S1.length) S2):=h1
 refine G2 r1 (λρ=>ρ[S1.length]? = some D) (λρ ρ' H H' f hp=>f.at hp) (λρ H l σ S Q hp st lr h=>?_) (Em:=Em) f2 pD st2 (((lr.mono f1).mono f2).caught cap nl) ((End.mono f2 h2).bind λl3 S3 ρ3 H3 σ3 f3 st3 r3 h3=>End.ok (rep:=Rep) h3 st3 (VX (f3.at pD)))
 exact⟨ρ,l,S,st,lr,End.bind (show End X.K xw LcR ρ H Q ((evw C w2 l S).bind λwk2 S2=>Ev.Yn wk2 (XC C u js (emE C S1.length ie)) wk2.items l S2) from h) λwk2 S5 ρ5 H5 J5 f5 st5 r5 h5=>
  G2 r5 (λρ=>ρ[S1.length]? = some D) (λρ ρ' H H' f hp=>f.at hp) (λρ H l σ S Q hp st lr h=>Za5 ρ H l σ S Q hp st lr h) (Fut.refl _ _) (f5.at hp) st5 (lr.mono f5) h5⟩
theorem UW {elt t1 i1 t2 i2:Expr}{f1' f2':List Expr}{is js:List E}{ie:E}{scope:Scope}{N:List Str}{cap:List Nat}{nl:Nat}{w w2:Ev.W}{t u:List Nat}(hc:X.calm=true) (hN:X.N.Nodup) (CSc:CompScope X.env.scope X.N scope N cap nl) (hi:CW X xw C t1 i1 w)
  (hb:∀cl s H fp,CG (cxC X N scope cl s H fp) t1 t/\CTs (cxC X N scope cl s H fp) xw C f1' is/\CW (cxC X N scope cl s H fp) xw C t2 i2 w2/\CG (cxC X N scope cl s H fp) t2 u/\CTs (cxC X N scope cl s H fp) xw C f2' js/\CE (cxC X N scope cl s H fp) xw C elt ie)
  (hs:∀x,foldedSetIterable i1 X.env x=pure x:=by intro _;rfl) (hs2:∀env x,foldedSetIterable i2 env x=pure x:=by intro _ _;rfl):CE X xw C (.ListComp elt [⟨t1,i1,f1',0⟩,⟨t2,i2,f2',0⟩] scope pos) (.comp2 cap nl t w is u w2 js ie):=
 PE.imp (u6 (wj:=tW3 X xw (evw C w2)) (g1:=tG3 X t) (tt1:=tB3 X xw (evt C is)) (g2:=tG3 X u) (tt2:=tB3 X xw (evt C js)) (te:=tE X xw (ev C ie)) hc hN CSc hi (λcl s H fp=>hb cl s H fp) hs hs2) λσ H Q hyp=>Qn hyp
theorem Vr {elt t1 i1 t2 i2:Expr}{f1' f2':List Expr}{is js:List E}{ie:E}{scope:Scope}{N:List Str}{cap:List Nat}{nl:Nat}{w w2:Ev.W}{t u:List Nat}{n:Nat}{y:Str}{spos py:Pos}(hc:X.calm=true) (hN:X.N.Nodup) (CSc:CompScope X.env.scope X.N scope N cap nl) (hi:CW X xw C t1 i1 w)
  (hb:∀cl s H fp,CG (cxC X N scope cl s H fp) t1 t/\CTs (cxC X N scope cl s H fp) xw C f1' is/\CW (cxC X N scope cl s H fp) xw C t2 i2 w2/\CG (cxC X N scope cl s H fp) t2 u/\CTs (cxC X N scope cl s H fp) xw C f2' js/\CE (cxC X N scope cl s H fp) xw C elt ie)
  (hsw:swapsWith (.ListComp elt [⟨t1,i1,f1',0⟩,⟨t2,i2,f2',0⟩] scope pos) (some (.Name y py)) spos.line X.env=pure true:=by rfl)
  (hy:X.N[n]? = some y:=by rfl) (hx:L2.Loc X.env.scope y:=by first | exact Or.inl rfl | exact Or.inr rfl) (hf:X.fn y=true\/X.env.scope.names.lookup y=some .local:=by first | exact .inl rfl | exact .inr rfl)
  (hs:∀x,foldedSetIterable i1 X.env x=pure x:=by intro _;rfl) (hs2:∀env x,foldedSetIterable i2 env x=pure x:=by intro _ _;rfl) :
  CS X xw C (.Assign [.Name y py] (.ListComp elt [⟨t1,i1,f1',0⟩,⟨t2,i2,f2',0⟩] scope pos) spos) (.asg [n] (.comp2 cap nl t w is u w2 js ie)):=
 PS.imp (wU (wj:=tW3 X xw (evw C w2)) (g1:=tG3 X t) (tt1:=tB3 X xw (evt C is)) (g2:=tG3 X u) (tt2:=tB3 X xw (evt C js)) (te:=tE X xw (ev C ie)) hc hN CSc hi (λcl s H fp=>hb cl s H fp) hsw hy hx hf hs hs2) λD σ H ⟨ρ,l,S,st,lr,h⟩=>
  Qn ⟨ρ,l,S,st,lr,Zy.bind (show Zy X.K xw ρ H D ((ev C (.comp2 cap nl t w is u w2 js ie) l S).bind λx S=>(Ev.ob (Ev.assign [n] x S l) S).bind λσ S=>.ok (.nx σ) S) from h) λx S1 ρ1 H1 v f1 st1 r1 h1=>by
   obtain⟨l',hl',h2⟩:=Zy.ob h1;have e:l.set n (some x)=l':=Pb hl';exact Zy.nx h2 st1 (by rw[<-e];exact (lr.mono f1).set n r1)⟩
end
theorem LocR.start {ρ:List Addr}{H:Hp}{ds:List D}{vs:List V}(r:Reps ρ H ds vs) (N:List Str) (n:Nat) (hn:n=N.length):LocR ρ H (Ev.start n ds) (L2.start N vs):=by
 subst hn;have hl:=r.length;refine⟨by unfold Ev.start L2.start;simp[hl],λi d e=>?_⟩
 unfold Ev.start at e;by_cases hi:i<ds.length
 ·rw[Py (by simpa using hi),PF] at e
  cases q:ds[i]? with
  |none=>rw[q] at e;cases e
  |some d'=>
   rw[q] at e;cases e;obtain⟨v,hv,r'⟩:=r.get q;refine⟨v,?_,r'⟩;unfold L2.start;rw[Py (by simp;omega),PF,hv]
   rfl
 ·rw[PN (by simp;omega),Nd] at e
  split at e <;> cases e
section
variable {P:Program}{w:World}{K:PySem.W.Frag}{mg:Str->Option Value}{base:Heap}
theorem jB {F:List Fn}{n d:Nat}{fn:Fn}{x qual:Str}{st:Stmt}{f:Addr}{fd:FuncData}{N ps:List Str}{k:Nat}(hF:F[n]? = some fn) (hns:fn.ns=N.length) (hps:fn.ps=ps.length) (Fu:Fun K x qual st f fd) (S:FnScope N ps (ZF st))
  (hb:∀(cdv:Value) (A:Around) (outer:List Env) (s:Shared) (H:Hp) (E:XK),Room k (A.deeper (envOfC qual (ZF st) s.heap.objs.size f cdv))->
   CSs (zg CX0 P w K mg base N qual (ZF st) f cdv A outer s H E).nox (λ_ _=>False) (Ev.calls F d) (Yt st) fn.body) :
  FnOk P w K mg base CX0 (k+1) f fd ps (spF K (Ev.calls F (d+1)) n):=by
 have eq:∀ds S,Ev.calls F (d+1) n ds S=if ds.length=fn.ps then (runs (Ev.calls F d) fn.body (Ev.start fn.ns ds) S).bind λf S=>match f with
    |.ret x=>.ok x S
    |.nx _=>.ok .non S
    |_=>.no
   else .no:=λds S=>by
  rw[Ev.calls,hF]
  all_goals rfl
 refine Fu.ok S (λvs H Q E ⟨ρ,ds,S,st,r,h⟩=>?_) λcdv A outer s H vs Q E hr ⟨ρ,ds,S',st,r,h⟩=>⟨_,hb cdv A outer s H E hr,ρ,Ev.start fn.ns ds,S',st,LocR.start r N fn.ns hns,?_⟩
 ·rw[eq] at h
  obtain⟨hl,_⟩:=End.guard h;rw[r.length,hl,hps]
 ·rw[eq] at h
  obtain⟨hl,h⟩:=End.guard h;cases q:runs (Ev.calls F d) fn.body (Ev.start fn.ns ds) S' with
  |no=>rw[q] at h;exact h
  |ex c S2=>rw[q] at h;exact h
  |ok fl S2=>
   rw[q] at h;cases fl with
   |ret x=>exact λρ' H' v g st r=>h ρ' H' v g st r
   |nx l=>exact λρ' H' σ' g st lr=>h ρ' H' .non g st W6
   |brk l=>exact False.elim h
   |cnt l=>exact False.elim h
theorem xk {F:List Fn}{n k:Nat}{f:Addr}{fd:FuncData}{ps:List Str}:FnOk P w K mg base CX0 k f fd ps (spF K (Ev.calls F 0) n):=
 ⟨λvs H Q E ⟨ρ,ds,S,st,r,h⟩=>False.elim h,λA outer s H args us vs Q E hr e0 hb r ⟨ρ,ds,S,st,r',h⟩=>False.elim h⟩
end
section
variable {es:List Expr}{env:Env}
theorem ZX {a b c}:starEach (.Constant a b c::es) env=(false,eval (.Constant a b c) env)::starEach es env:=rfl
theorem Yg {a b}:starEach (.Name a b::es) env=(false,eval (.Name a b) env)::starEach es env:=rfl
theorem YC {a b c}:starEach (.Tuple a b c::es) env=(false,eval (.Tuple a b c) env)::starEach es env:=rfl
theorem YG {a b c d}:starEach (.BinOp a b c d::es) env=(false,eval (.BinOp a b c d) env)::starEach es env:=rfl
theorem XA {a b c}:starEach (.UnaryOp a b c::es) env=(false,eval (.UnaryOp a b c) env)::starEach es env:=rfl
theorem YB {a b c d}:starEach (.Compare a b c d::es) env=(false,eval (.Compare a b c d) env)::starEach es env:=rfl
theorem YD {a b c}:starEach (.Subscript a b c::es) env=(false,eval (.Subscript a b c) env)::starEach es env:=rfl
theorem Yi {a b c d}:starEach (.Call a b c d::es) env=(false,eval (.Call a b c d) env)::starEach es env:=rfl
theorem Yf {a b c d}:starEach (.ListComp a b c d::es) env=(false,eval (.ListComp a b c d) env)::starEach es env:=rfl
end
theorem hu7 {k:Nat}{A:Around}(hr:Room k A):A.units+7<cLine:=Nat.lt_of_le_of_lt (by omega) hr.un
theorem vm {K:PySem.W.Frag}{C:Calls}{n:Nat}{H:Hp}{a:Addr}{ns:List Int}(hO:Only H) (hS:SqL K H a (ns.map V.int)) (h:∃S',C n [.loc 0] [.scr ns]=.ok (.bl true) S'):spF K C n [.ref a] H (λv _=>v=.bl true) λ_ _ _=>False:=by
 obtain⟨S',e⟩:=h;refine⟨[a],[.loc 0],[.scr ns],⟨rfl,λm k b h1 h2 hm=>?_,λm o b h1 h2=>?_⟩,Reps.cons (VX rfl) Reps.nil,?_⟩
 ·have l1:=(Pq.mp h1).1
  have l2:=(Pq.mp h2).1;simp at l1 l2;omega
 ·have l1:=(Pq.mp h1).1
  have e0:m=0:=by simp at l1;exact l1
  subst e0;cases h1;cases h2;show Scr K H a ns;rcases hS with (hS | hS) | hS
  ·rcases hO a with z | ⟨o,xs,z⟩
   ·rw[z] at hS;cases hS
   ·rw[z] at hS;cases hS
  ·exact .inl hS
  ·exact .inr hS
 ·rw[e]
  exact λρ' H' v _ _ r=>r.bl'
section
variable {X:Cx}{xw:Nat->Hp->Prop}{C:Calls}{e a b c tg it:Expr}{i j k:E}{pos p p' p2 p3:Pos}{s0:Stmt}{ss:List Stmt}{m0:Sm}{ms ms':List Sm}
theorem UE {n:Nat}:CS X (λ_ _=>False) C s0 (.raise n []):=λpins s σ H D I ⟨ρ,l,S,st,lr,h⟩=>
 False.elim ((show Zy X.K (λ_ _=>False) ρ H D (.ex n S) from h) ρ H (Fut.refl ρ H) st)
structure AugOk (X:Cx) (op:Operator) (o:Bop):Prop where
 h:∃t:TIp,PIp X op t/\∀(xw:Nat->Hp->Prop) ρ S H n m Q,St3 X.K ρ S H->End X.K xw Rep ρ H Q (Ev.binop o (.int n) (.int m) S)->t (.int n) (.int m) H Q
theorem uJ:AugOk X .Add .add:=⟨_,qC,λxw ρ S H n m Q st h=>⟨n,m,rfl,rfl,End.ok h st (Zn _)⟩⟩
theorem UB {op:Operator}{o:Bop}{n:Nat}{x:Str}(ho:AugOk X op o) (hN:X.N.Nodup) (he:CE X xw C e i) (hi:X.N[n]? = some x:=by rfl) (hx:L2.Loc X.env.scope x:=by first | exact Or.inl rfl | exact Or.inr rfl) (hf:X.fn x=true\/X.env.scope.names.lookup x=some .local:=by first | exact .inl rfl | exact .inr rfl) :
  CS X xw C (.AugAssign (.Name x p) op e pos) (.aug n o i):=by
 obtain⟨t,ht,hq⟩:=ho.h;refine PS.imp (Zbl hN hi hx he ht hf) λD σ H ⟨ρ,l,S,st,lr,h⟩=>?_
 obtain⟨d,hd,h1⟩:=Zy.ob (show Zy X.K xw ρ H D ((Ev.ob (l[n]?).join S).bind λx S=>(ev C i l S).bind λy S=>(Ev.augop o x y S).bind λz S=>.ok (.nx (l.set n (some z))) S) from h)
 have hd':l[n]? = some (some d):=by
  cases z:l[n]? with
  |none=>rw[z] at hd;cases hd
  |some oo=>rw[z] at hd;cases oo with
   |none=>cases hd
   |some w=>cases hd;rfl
 obtain⟨v,hv,rv⟩:=lr.val n d hd';refine⟨v,hv,ρ,l,S,st,lr,h1.bind λy S1 ρ1 H1 u f1 st1 r1 h2=>?_⟩
 cases d with
 |int m=>cases y with
  |int m'=>
   rw[rv.int',r1.int'];refine hq xw ρ1 S1 H1 m m' _ st1 ?_;exact Zy.bind (show Zy X.K xw ρ1 H1 D ((Ev.binop o (.int m) (.int m') S1).bind λz S=>.ok (.nx (l.set n (some z))) S) from h2) λz S2 ρ2 H2 w f2 st2 r2 h3=>Zy.nx h3 st2 (((lr.mono f1).mono f2).set n r2)
  |_=>exact False.elim h2
 |_=>exact False.elim h2
theorem Uf {body:List Stmt}(hp:PassesOwn (model X.prog X.w) X.A X.env X.xe) (hc:CT X xw C c k) (hb:CSs X xw C body ms):CS X xw C (.While c body [] pos) (.whl k ms):=PS.imp (u5 hp hc hb) λD σ H ⟨ρ,l,S,st,lr,h⟩=>by
 refine⟨λm σ' H'=>∃ρ' l' S',St3 X.K ρ' S' H'/\LocR ρ' H' l' σ'/\Zy X.K xw ρ' H' D (Ev.YT (tst C k) (runs C ms) m l' S'),⟨Ev.WF,ρ,l,S,st,lr,h⟩,?_⟩
 rintro m σ' H' ⟨ρ',l',S',st',lr',e'⟩
 cases m with
 |zero=>exact False.elim e'
 |succ m=>
  refine⟨ρ',l',S',st',lr',Zy.bind (show Zy X.K xw ρ' H' D ((tst C k l' S').bind λb S=>if b then (match runs C ms l' S with
   |.ok (.nx σ') S'=>Ev.YT (tst C k) (runs C ms) m σ' S'
   |.ok (.cnt σ') S'=>Ev.YT (tst C k) (runs C ms) m σ' S'
   |.ok (.brk σ') S'=>.ok (.nx σ') S'
   |.ok (.ret d) S'=>.ok (.ret d) S'
   |.ex c S'=>.ex c S'
   |.no=>.no) else .ok (.nx l') S) from e') λb S1 ρ1 H1 b' f1 st1 r1 h1=>?_⟩
  have eb:b=b':=r1;subst eb;cases b with
  |false=>
   rw[Pi Pr] at h1 ⊢;exact Zy.nx h1 st1 (lr'.mono f1)
  |true=>
   rw[Ph rfl] at h1 ⊢;refine⟨λσ2 H2=>∃ρ2 l2 S2,St3 X.K ρ2 S2 H2/\LocR ρ2 H2 l2 σ2/\Zy X.K xw ρ2 H2 D (Ev.YT (tst C k) (runs C ms) m l2 S2),λσ2 H2 w=>⟨m,Nat.lt_succ_self m,w⟩,ρ1,l',S1,st1,lr'.mono f1,?_⟩
   cases q:runs C ms l' S1 with
   |no=>rw[q] at h1;exact h1
   |ex c S2=>rw[q] at h1;exact h1
   |ok fl S2=>
    rw[q] at h1;cases fl with
    |nx l3=>exact λρ4 H4 σ4 f4 st4 lr4=>⟨ρ4,l3,S2,st4,lr4,Zy.mono f4 h1⟩
    |cnt l3=>exact λρ4 H4 σ4 f4 st4 lr4=>⟨ρ4,l3,S2,st4,lr4,Zy.mono f4 h1⟩
    |brk l3=>exact h1
    |ret d=>exact h1
end
end Sd
namespace Sd
open PySem PySem.Spec PyProof.Rows L2
def Src (b:Bool) (h:Heap) (it l:Addr) (k:Nat):Prop:=match b with
 |true=>h.IsListIter it l k
 |false=>h.IsTupleIter it l k
def Yz (b:Bool) (h:Heap) (l:Addr) (xs:Array Value):Prop:=match b with
 |true=>h.IsList l xs
 |false=>h.IsTuple l xs
theorem Src.ext {b:Bool}{h h':Heap}{it l c:Addr}{k:Nat}(x:Src b h it l k) (e:Heap.ExtBut c h h') (n:it≠c):Src b h' it l k:=by
 cases b
 ·exact Heap.IsTupleIter.extBut x e n
 ·exact Heap.IsListIter.extBut x e n
theorem Src.keep {b:Bool}{h h':Heap}{it l:Addr}{k:Nat}(x:Src b h it l k) (e:∀o,h.get? it=some o->h'.get? it=some o):Src b h' it l k:=by
 cases b
 ·obtain⟨o,ho,r⟩:=x;exact⟨o,e o ho,r⟩
 ·obtain⟨o,ho,r⟩:=x;exact⟨o,e o ho,r⟩
theorem Src.obj {b:Bool}{h:Heap}{it l:Addr}{k:Nat}(x:Src b h it l k):∃o,h.get? it=some o/\∀v,o.data≠.cell v:=by
 cases b
 ·obtain⟨o,ho,_,d⟩:=x;exact⟨o,ho,λv z=>by rw[d] at z;cases z⟩
 ·obtain⟨o,ho,_,d⟩:=x;exact⟨o,ho,λv z=>by rw[d] at z;cases z⟩
theorem Yz.keep {b:Bool}{h h':Heap}{l:Addr}{xs:Array Value}(x:Yz b h l xs) (e:∀o,h.get? l=some o->h'.get? l=some o):Yz b h' l xs:=by
 cases b
 ·obtain⟨o,ho,r⟩:=x;exact⟨o,e o ho,r⟩
 ·obtain⟨o,ho,r⟩:=x;exact⟨o,e o ho,r⟩
section
variable {prog:Program}{w:World}{A:Around}{E:Value->Shared->Prop}{s:Shared}
theorem u4 {it t:Addr}{i:Nat}{items:Array Value}{x:Value}{Q:Value->Shared->Prop}(hit:s.heap.IsTupleIter it t i) (ht:s.heap.IsTuple t items) (hx:items[i]? = some x)
  (hQ:∀h',h'.IsTupleIter it t (i+1)->Heap.SameBut it s.heap h'->Q x { s with heap:=h' }):wpAny (model prog w) A (Builtin.SmallTypes.nextOf (.ref it)) Q E s:=by
 obtain⟨o,ho,hc,hd⟩:=id hit;obtain⟨ol,hol,_,nl,hdl⟩:=ht;unfold Builtin.SmallTypes.nextOf;refine Pa (Nu (name:=Str.ofString "__next__") hit.typeIs F.slot_tuple_iterator_next (NF F.slot_tuple_iterator_next hit.typeIs F.entry_tuple_iterator_next ?_ (F.args_tuple_iterator_next_1 _)));show wpAny _ _ (field (.ref it) 0 >>= _) _ _ s;refine Pa (Ng ho hd (x:=.ref t) rfl ?_);show wpAny _ _ (if (Value.ref t == Value.none)=true then _ else _) _ _ s
 rw[Pi (show ¬((Value.ref t == Value.none)=true) by exact Pr)];show wpAny _ _ (field (.ref it) 1 >>= _) _ _ s;refine Pa (Ng ho hd (x:=.int i 0) rfl ?_)
 show wpAny _ _ (seqItems? (.ref t) >>= _) _ _ s;refine Pa (NQ hol hdl ?_);simp only[Int.toNat_natCast,hx];refine Pa (wpAny_setField ho hd (by simp) (Pj ⟨x,rfl,Pj (hQ _ ⟨_,Heap.get?_update_self _ ho (Obj.isFreed_of_fields (Obj.data_mapFields hd _)),(Obj.cls_mapFields ..).trans hc,?_⟩ (Heap.SameBut.update ..))⟩))
 rw[Obj.data_mapFields hd];simp[rawInt]
theorem Jw {it t:Addr}{i:Nat}{items:Array Value}{Q:Value->Shared->Prop}(hh:A.handled=none) (hit:s.heap.IsTupleIter it t i) (ht:s.heap.IsTuple t items) (hx:items[i]? = none)
  (hE:∀h' e,Heap.ExtBut it s.heap h'->(∃o,h'.get? e=some o/\o.cls=.type "StopIteration")->E (.ref e) { s with heap:=h' }):wpAny (model prog w) A (Builtin.SmallTypes.nextOf (.ref it)) Q E s:=by
 obtain⟨o,ho,hc,hd⟩:=id hit;obtain⟨ol,hol,_,nl,hdl⟩:=ht;unfold Builtin.SmallTypes.nextOf;refine Pa (Nu (name:=Str.ofString "__next__") hit.typeIs F.slot_tuple_iterator_next (NF F.slot_tuple_iterator_next hit.typeIs F.entry_tuple_iterator_next ?_ (F.args_tuple_iterator_next_1 _)));show wpAny _ _ (field (.ref it) 0 >>= _) _ _ s;refine Pa (Ng ho hd (x:=.ref t) rfl ?_);show wpAny _ _ (if (Value.ref t == Value.none)=true then _ else _) _ _ s
 rw[Pi (show ¬((Value.ref t == Value.none)=true) by exact Pr)];show wpAny _ _ (field (.ref it) 1 >>= _) _ _ s;refine Pa (Ng ho hd (x:=.int i 0) rfl ?_)
 show wpAny _ _ (seqItems? (.ref t) >>= _) _ _ s;refine Pa (NQ hol hdl ?_);simp only[Int.toNat_natCast,hx];refine Pa (wpAny_rule (Pa (wpAny_setField ho hd (by simp) ?_)));show wpAny _ _ (newExc (.type "StopIteration") [] >>= _) _ _ _
 refine Pa ?_;simp only[newExc,newTuple];refine Pa (Nm ?_ (by size_fits))
 refine Pa (m:=firstArgMember _ _) (NO (a:=Value.none) (by first | rfl | (simp only[firstArgMember];rfl)) (Nm ?_ (by size_fits)))
 simp only[raiseNew];refine Pa (wpAny_handled ?_);first | rw[show A.in1.handled=none from hh] | rw[hh]
 exact Pa (Pj (wpAny_throw (hE _ _ (((Heap.SameBut.update ..).extBut.push _).push _) ⟨_,Px _ rfl,rfl⟩)))
theorem W8 {b:Bool}{it l:Addr}{k:Nat}{xs:Array Value}{x:Value}{Q:Value->Shared->Prop}(hit:Src b s.heap it l k) (hl:Yz b s.heap l xs) (hx:xs[k]? = some x)
  (hQ:∀h',Src b h' it l (k+1)->Heap.SameBut it s.heap h'->Q x { s with heap:=h' }):wpAny (model prog w) A (Builtin.SmallTypes.nextOf (.ref it)) Q E s:=by
 cases b
 ·exact u4 hit hl hx hQ
 ·exact wpAny_nextOf_list_item hit hl hx hQ
theorem JC {b:Bool}{it l:Addr}{k:Nat}{xs:Array Value}{Q:Value->Shared->Prop}(hh:A.handled=none) (hit:Src b s.heap it l k) (hl:Yz b s.heap l xs) (hx:xs[k]? = none)
  (hE:∀h' e,Heap.ExtBut it s.heap h'->(∃o,h'.get? e=some o/\o.cls=.type "StopIteration")->E (.ref e) { s with heap:=h' }):wpAny (model prog w) A (Builtin.SmallTypes.nextOf (.ref it)) Q E s:=by
 cases b
 ·exact Jw hh hit hl hx hE
 ·exact wpAny_nextOf_list_end hh hit hl hx hE
noncomputable def Ys (b:Bool) (l:Addr):Obj:={ cls:=.type (if b then "list_iterator" else "tuple_iterator"),data:=.fields #[.ref l,.int 0 0] }
theorem Uz {b:Bool}{l:Addr}{xs:Array Value}{Q:Value->Shared->Prop}(hl:Yz b s.heap l xs) (h:Q (.ref s.heap.objs.size) { s with heap:=s.heap.push (Ys b l) }):wpAny (model prog w) A (pyIter (.ref l)) Q E s:=by
 cases b
 ·exact wpAny_pyIter_tuple hl h
 ·exact wpAny_pyIter_list hl h
structure ZipSt (b1 b2:Bool) (z TI TO i1 i2 l1 l2:Addr) (k:Nat) (f0:Value) (h:Heap):Prop where
 zp:IsZip h z TI TO f0
 ti:IsPair h TI (.ref i1) (.ref i2)
 to:∃a b,IsPair h TO a b
 s1:Src b1 h i1 l1 k
 s2:Src b2 h i2 l2 k
theorem uk {b1 b2:Bool}{z TI TO i1 i2 l1 l2:Addr}{k:Nat}{xs ys:Array Value}{x y:Value}{Q:Value->Shared->Prop}(D:ZipApart z TI TO i1 i2 l1 l2) (Z:ZipSt b1 b2 z TI TO i1 i2 l1 l2 k .none s.heap) (hl1:Yz b1 s.heap l1 xs) (hl2:Yz b2 s.heap l2 ys) (hx:xs[k]? = some x) (hy:ys[k]? = some y)
  (hQ:∀h',ZipSt b1 b2 z TI TO i1 i2 l1 l2 (k+1) (rawInt s.heap.objs.size) h'->IsPair h' s.heap.objs.size x y->(∀c o,c∉[z,TO,i1,i2]->s.heap.get? c=some o->h'.get? c=some o)->Q (.ref s.heap.objs.size) { s with heap:=h' }) :
  wpAny (model prog w) A (Builtin.«zip.__next__» ⟨[.ref z],[]⟩) (λfin s'=>∃v,fin=.done (.ret v)/\Q v s') E s:=by
 obtain⟨hz,hTI,⟨a,b,hTO⟩,h1,h2⟩:=Z;show wpAny _ _ (field (.ref z) 2 >>= _) _ _ _;refine Pa (Ng hz rfl (x:=.bool false) rfl ?_);show wpAny _ _ (field (.ref z) 3 >>= _) _ _ _;refine Pa (Ng hz rfl (x:=.ref TI) rfl (Pa (NQ hTI rfl ?_)));show wpAny _ _ (Builtin.SmallTypes.ownedTupleIsFree (.ref z) >>= _) _ _ _;refine Pa ?_;unfold Builtin.SmallTypes.ownedTupleIsFree;refine Pa (Ng hz rfl (x:=.none) rfl (Pj ?_));simp only[NM];refine Pa (wpAny_rule (Pa (Ng hz rfl (x:=.ref TO) rfl (Pa (NR hz (by simp) λh₁ hz₁ hs₁=>?_)))))
 replace hz₁:IsZip h₁ z TI TO .ellipsis:=by exact hz₁
 refine Pa ?_;simp only[List.zipIdx_cons,List.zipIdx_nil,List.forIn_cons,List.forIn_nil];refine Pa (Pa (wpAny_onRaise ?_));show wpAny _ _ (Builtin.SmallTypes.nextOf (.ref i1) >>= _) _ _ _;refine Pa (W8 (h1.ext hs₁.extBut D.i1z) (hl1.keep λo e=>hs₁.extBut _ o D.l1z e) hx λh₂ h1₂ hs₂=>Pj ?_)
 have hTO₂:IsPair h₂ TO a b:=by exact hs₂.extBut _ _ D.TOi1 (hs₁.extBut _ _ D.TOz hTO)
 refine Pa (NQ hTO₂ rfl (Pa (wpAny_updateSeq_pair hTO₂ λh₃ hTO₃ hs₃=>?_)))
 replace hTO₃:IsPair h₃ TO x b:=by exact hTO₃
 refine Pa (wpAny_letGo (Pj (Pa (Pa (wpAny_onRaise ?_)))));show wpAny _ _ (Builtin.SmallTypes.nextOf (.ref i2) >>= _) _ _ _;have to3:∀c o,c≠z->c≠TO->c≠i1->s.heap.get? c=some o->h₃.get? c=some o:=λc o c1 c2 c3 e=>hs₃.extBut _ _ c2 (hs₂.extBut _ _ c3 (hs₁.extBut _ _ c1 e))
 refine Pa (W8 (h2.keep λo e=>to3 _ o D.i2z D.TOi2.symm D.i12.symm e) (hl2.keep λo e=>to3 _ o D.l2z D.l2TO D.l2i1 e) hy λh₄ h2₄ hs₄=>Pj ?_)
 have hTO₄:IsPair h₄ TO x b:=by exact hs₄.extBut _ _ D.TOi2 hTO₃
 refine Pa (NQ hTO₄ rfl (Pa (wpAny_updateSeq_pair hTO₄ λh₅ hTO₅ hs₅=>?_)))
 replace hTO₅:IsPair h₅ TO x y:=by exact hTO₅
 refine Pa (wpAny_letGo (Pj (Pj (Pa (NQ hTO₅ rfl (Pa (wpAny_newTuple ?_)))))));have hsz:h₅.objs.size=s.heap.objs.size:=by rw[hs₅.1,hs₄.1,hs₃.1,hs₂.1,hs₁.1]
 have to5:∀c o,c≠z->c≠TO->c≠i1->c≠i2->s.heap.get? c=some o->h₅.get? c=some o:=λc o c1 c2 c3 c4 e=>hs₅.extBut _ _ c2 (hs₄.extBut _ _ c4 (to3 c o c1 c2 c3 e))
 have hz₅:IsZip h₅ z TI TO .ellipsis:=by exact hs₅.extBut _ _ D.TOz.symm (hs₄.extBut _ _ D.i2z.symm (hs₃.extBut _ _ D.TOz.symm (hs₂.extBut _ _ D.i1z.symm hz₁)))
 have h1₅:Src b1 h₅ i1 l1 (k+1):=((h1₂.ext hs₃.extBut D.TOi1.symm).ext hs₄.extBut D.i12).ext hs₅.extBut D.TOi1.symm;have h2₅:Src b2 h₅ i2 l2 (k+1):=h2₄.ext hs₅.extBut D.TOi2.symm;have zl:z<h₅.objs.size:=Pu hz₅;show wpAny _ _ (Builtin.SmallTypes.ownedTupleHandOut (.ref z) (.ref h₅.objs.size) >>= _) _ _ _;refine Pa ?_;unfold Builtin.SmallTypes.ownedTupleHandOut;have hz₆:IsZip (h₅.push { cls:=.type "tuple",data:=.seq #[x,y] }) z TI TO .ellipsis:=by exact Pg _ hz₅
 refine Pa (NR hz₆ (by simp) λh₇ hz₇ hs₇=>?_)
 replace hz₇:IsZip h₇ z TI TO (rawInt h₅.objs.size):=by exact hz₇
 refine NR hz₇ (by simp) λh₈ hz₈ hs₈=>Pj ⟨_,rfl,?_⟩
 replace hz₈:IsZip h₈ z TI TO (rawInt h₅.objs.size):=by exact hz₈
 have up:∀c o,c≠z->h₅.get? c=some o->h₈.get? c=some o:=λc o c1 e=>by exact hs₈.extBut _ _ c1 (hs₇.extBut _ _ c1 (Pg _ e))
 have hT₈:IsPair h₈ h₅.objs.size x y:=by exact hs₈.extBut _ _ (Nat.ne_of_gt zl) (hs₇.extBut _ _ (Nat.ne_of_gt zl) (Px _ rfl))
 show Q (.ref h₅.objs.size) _;rw[hsz] at hz₈ hT₈ ⊢;refine hQ h₈ ⟨hz₈,up _ _ D.TIz (to5 _ _ D.TIz D.TITO D.TIi1 D.TIi2 hTI),⟨x,y,up _ _ D.TOz hTO₅⟩,h1₅.keep λo e=>up _ o D.i1z e,h2₅.keep λo e=>up _ o D.i2z e⟩ hT₈ λc o hc e=>?_
 simp only[Po,P9,or_false,not_or] at hc;exact up c o hc.1 (to5 c o hc.1 hc.2.1 hc.2.2.1 hc.2.2.2 e)
end
section
variable {prog:Program}{w:World}{A:Around}{E:Value->Shared->Prop}{s:Shared}
theorem U5 {b1 b2:Bool}{z TI TO i1 i2 l1 l2:Addr}{k:Nat}{xs ys:Array Value}{Q:Fin->Shared->Prop}(hh:A.handled=none) (D:ZipApart z TI TO i1 i2 l1 l2) (Z:ZipSt b1 b2 z TI TO i1 i2 l1 l2 k .none s.heap) (hl1:Yz b1 s.heap l1 xs) (hl2:Yz b2 s.heap l2 ys) (hend:xs[k]? = none\/ys[k]? = none)
  (hE:∀h' e,(∀c o,c∉[z,TO,i1,i2]->s.heap.get? c=some o->h'.get? c=some o)->(∃o,h'.get? e=some o/\o.cls=.type "StopIteration")->E (.ref e) { s with heap:=h' }) :
  wpAny (model prog w) A (Builtin.«zip.__next__» ⟨[.ref z],[]⟩) Q E s:=by
 obtain⟨hz,hTI,⟨a,b,hTO⟩,h1,h2⟩:=Z;have hk:∀{c:Addr},c∉[z,TO,i1,i2]->c≠z/\c≠TO/\c≠i1/\c≠i2:=λhc=>by
  simp only[Po,P9,or_false,not_or] at hc;exact hc
 show wpAny _ _ (field (.ref z) 2 >>= _) _ _ _;refine Pa (Ng hz rfl (x:=.bool false) rfl ?_);show wpAny _ _ (field (.ref z) 3 >>= _) _ _ _;refine Pa (Ng hz rfl (x:=.ref TI) rfl (Pa (NQ hTI rfl ?_)));show wpAny _ _ (Builtin.SmallTypes.ownedTupleIsFree (.ref z) >>= _) _ _ _;refine Pa ?_;unfold Builtin.SmallTypes.ownedTupleIsFree;refine Pa (Ng hz rfl (x:=.none) rfl (Pj ?_));simp only[NM];refine Pa (wpAny_rule (Pa (Ng hz rfl (x:=.ref TO) rfl (Pa (NR hz (by simp) λh₁ hz₁ hs₁=>?_)))))
 replace hz₁:IsZip h₁ z TI TO .ellipsis:=by exact hz₁
 refine Pa ?_;simp only[List.zipIdx_cons,List.zipIdx_nil,List.forIn_cons,List.forIn_nil];refine Pa (Pa (wpAny_onRaise ?_));show wpAny _ _ (Builtin.SmallTypes.nextOf (.ref i1) >>= _) _ _ _;have l1₁:Yz b1 h₁ l1 xs:=hl1.keep λo e=>hs₁.extBut _ o D.l1z e
 cases hx:xs[k]? with
 |none=>
  refine Pa (JC hh (h1.ext hs₁.extBut D.i1z) l1₁ hx λh₂ e hs₂ he=>?_)
  obtain⟨oe,hoe,hce⟩:=he;have hz₂:IsZip h₂ z TI TO .ellipsis:=by exact hs₂ _ _ D.i1z.symm hz₁
  have hez:e≠z:=λx=>by subst x;rw[hz₂] at hoe;cases hoe;simp at hce
  exact NR hz₂ (by simp) λh₃ _ hs₃=>hE h₃ e (λc o hc x=>hs₃.extBut _ _ (hk hc).1 (hs₂ _ _ (hk hc).2.2.1 (hs₁.extBut _ _ (hk hc).1 x))) ⟨oe,hs₃.extBut _ _ hez hoe,hce⟩
 |some x=>
  have hy:ys[k]? = none:=by rcases hend with q | q;rw[hx] at q;cases q;exact q
  refine Pa (W8 (h1.ext hs₁.extBut D.i1z) l1₁ hx λh₂ h1₂ hs₂=>Pj ?_)
  have hTO₂:IsPair h₂ TO a b:=by exact hs₂.extBut _ _ D.TOi1 (hs₁.extBut _ _ D.TOz hTO)
  refine Pa (NQ hTO₂ rfl (Pa (wpAny_updateSeq_pair hTO₂ λh₃ hTO₃ hs₃=>?_)))
  refine Pa (wpAny_letGo (Pj (Pa (Pa (wpAny_onRaise ?_)))));show wpAny _ _ (Builtin.SmallTypes.nextOf (.ref i2) >>= _) _ _ _;have to3:∀c o,c≠z->c≠TO->c≠i1->s.heap.get? c=some o->h₃.get? c=some o:=λc o c1 c2 c3 e=>hs₃.extBut _ _ c2 (hs₂.extBut _ _ c3 (hs₁.extBut _ _ c1 e))
  refine Pa (JC hh (h2.keep λo e=>to3 _ o D.i2z D.TOi2.symm D.i12.symm e) (hl2.keep λo e=>to3 _ o D.l2z D.l2TO D.l2i1 e) hy λh₄ e hs₄ he=>?_)
  obtain⟨oe,hoe,hce⟩:=he;have hz₄:IsZip h₄ z TI TO .ellipsis:=by exact hs₄ _ _ D.i2z.symm (hs₃.extBut _ _ D.TOz.symm (hs₂.extBut _ _ D.i1z.symm hz₁))
  have hez:e≠z:=λx=>by subst x;rw[hz₄] at hoe;cases hoe;simp at hce
  exact NR hz₄ (by simp) λh₅ _ hs₅=>hE h₅ e (λc o hc x=>hs₅.extBut _ _ (hk hc).1 (hs₄ _ _ (hk hc).2.2.2 (to3 c o (hk hc).1 (hk hc).2.1 (hk hc).2.2.1 x))) ⟨oe,hs₅.extBut _ _ hez hoe,hce⟩
theorem z7 {b1 b2:Bool}{z TI TO i1 i2 l1 l2:Addr}{k:Nat}{xs ys:Array Value}{x y:Value}{Q:Option Value->Shared->Prop}(D:ZipApart z TI TO i1 i2 l1 l2) (Z:ZipSt b1 b2 z TI TO i1 i2 l1 l2 k .none s.heap) (hl1:Yz b1 s.heap l1 xs) (hl2:Yz b2 s.heap l2 ys) (hx:xs[k]? = some x) (hy:ys[k]? = some y)
  (hQ:∀h',ZipSt b1 b2 z TI TO i1 i2 l1 l2 (k+1) (rawInt s.heap.objs.size) h'->IsPair h' s.heap.objs.size x y->(∀c o,c∉[z,TO,i1,i2]->s.heap.get? c=some o->h'.get? c=some o)->Q (some (.ref s.heap.objs.size)) { s with heap:=h' }) :
  wpAny (model prog w) A (pyNext (.ref z)) Q E s:=by
 have hT:s.TypeIs (.ref z) "zip":=⟨_,Z.zp,rfl⟩;unfold pyNext;exact Pa (wpAny_attempt (Nu (name:=Str.ofString "__next__") hT F.slot_zip_next (NF F.slot_zip_next hT F.entry_zip_next (uk D Z hl1 hl2 hx hy λh' a1 a2 a3=>Pj (hQ h' a1 a2 a3)) (F.args_zip_next_1 _))))
theorem Ul {b1 b2:Bool}{z TI TO i1 i2 l1 l2:Addr}{k:Nat}{xs ys:Array Value}{Q:Option Value->Shared->Prop}(hh:A.handled=none) (D:ZipApart z TI TO i1 i2 l1 l2) (Z:ZipSt b1 b2 z TI TO i1 i2 l1 l2 k .none s.heap) (hl1:Yz b1 s.heap l1 xs) (hl2:Yz b2 s.heap l2 ys) (hend:xs[k]? = none\/ys[k]? = none)
  (hQ:∀h',(∀c o,c∉[z,TO,i1,i2]->s.heap.get? c=some o->h'.get? c=some o)->Q none { s with heap:=h' }):wpAny (model prog w) A (pyNext (.ref z)) Q E s:=by
 have hT:s.TypeIs (.ref z) "zip":=⟨_,Z.zp,rfl⟩;unfold pyNext;refine Pa (wpAny_attempt (Nu (name:=Str.ofString "__next__") hT F.slot_zip_next (NF F.slot_zip_next hT F.entry_zip_next (U5 hh D Z hl1 hl2 hend λh' e hk he=>?_) (F.args_zip_next_1 _))))
 obtain⟨o,ho,hc⟩:=he;exact Pa (wpAny_isInstance (T:="StopIteration") (b:=true) ⟨o,ho,hc⟩ isSubtype_stop (Pj (hQ _ hk)))
noncomputable def zH1 (h:Heap) (b1:Bool) (l1:Addr):Heap:=h.push (Ys b1 l1)
noncomputable def zH2 (h:Heap) (b1 b2:Bool) (l1 l2:Addr):Heap:=(zH1 h b1 l1).push (Ys b2 l2)
noncomputable def zH3 (h:Heap) (b1 b2:Bool) (l1 l2:Addr):Heap:=(zH2 h b1 b2 l1 l2).push { cls:=.type "tuple",data:=.seq #[.ref h.objs.size,.ref (zH1 h b1 l1).objs.size] }
noncomputable def zH4 (h:Heap) (b1 b2:Bool) (l1 l2:Addr):Heap:=(zH3 h b1 b2 l1 l2).push { cls:=.type "tuple",data:=.seq #[.none,.none] }
noncomputable def zH5 (h:Heap) (b1 b2:Bool) (l1 l2:Addr):Heap:=(zH4 h b1 b2 l1 l2).push { cls:=.type "zip",data:=.fields #[.none,.bool false,.bool false,.ref (zH2 h b1 b2 l1 l2).objs.size,.ref (zH3 h b1 b2 l1 l2).objs.size] }
theorem qM (b1 b2:Bool) (l1 l2:Addr) (xs ys:Array Value) :
  Meets (Builtin.«zip.__new__» ⟨[.type "zip",.ref l1,.ref l2],[]⟩) (λ_ R s=>Yz b1 s.heap l1 xs/\Yz b2 s.heap l2 ys/\R (.ok (.ret (.ref (zH4 s.heap b1 b2 l1 l2).objs.size))) { s with heap:=zH5 s.heap b1 b2 l1 l2 }):=
 .of_wp λprog w A R s h=>by
  obtain⟨hp,g,d,tk,os⟩:=s;obtain⟨hl1,hl2,h⟩:=h;have hsub:=sub_zip;have hL1:Yz b1 (Shared.heap ⟨hp,g,d,tk,os⟩) l1 xs:=hl1;have hL2:Yz b2 (Shared.heap ⟨hp.push (Ys b1 l1),g,d,tk,os⟩) l2 ys:=hl2.keep λo e=>Pg _ e
  wp_walk using Uz hL1,Uz hL2
  exact⟨_,rfl,h⟩
theorem uP {b1 b2:Bool}{l1 l2:Addr}{xs ys:Array Value}{Q:Value->Shared->Prop}(hl1:Yz b1 s.heap l1 xs) (hl2:Yz b2 s.heap l2 ys)
  (h:∀h' n,n=s.heap.objs.size->ZipSt b1 b2 (n+4) (n+2) (n+3) n (n+1) l1 l2 0 .none h'->(∀c o,s.heap.get? c=some o->h'.get? c=some o)->Q (.ref (n+4)) { s with heap:=h' }) :
  wpAny (model prog w) A (call (.type "zip") [.ref l1,.ref l2]) Q E s:=by
 refine callType_new F.called_zip (by decide) (F.typeCall_zip_2 _ _) (F.newCall_zip_2 _ _) (λobj=>F.args_object_init_3 obj _ _) F.entry_zip_new (qM b1 b2 l1 l2 xs ys) ⟨hl1,hl2,?_⟩
 have z1:(zH1 s.heap b1 l1).objs.size=s.heap.objs.size+1:=Heap.size_push ..;have z2:(zH2 s.heap b1 b2 l1 l2).objs.size=s.heap.objs.size+2:=by unfold zH2;rw[Heap.size_push,z1]
 have z3:(zH3 s.heap b1 b2 l1 l2).objs.size=s.heap.objs.size+3:=by unfold zH3;rw[Heap.size_push,z2]
 have z4:(zH4 s.heap b1 b2 l1 l2).objs.size=s.heap.objs.size+4:=by unfold zH4;rw[Heap.size_push,z3]
 have g5:(zH5 s.heap b1 b2 l1 l2).get? (zH4 s.heap b1 b2 l1 l2).objs.size=some { cls:=.type "zip",data:=.fields #[.none,.bool false,.bool false,.ref (zH2 s.heap b1 b2 l1 l2).objs.size,.ref (zH3 s.heap b1 b2 l1 l2).objs.size] }:=Px _ rfl;have k4:∀c o,(zH4 s.heap b1 b2 l1 l2).get? c=some o->(zH5 s.heap b1 b2 l1 l2).get? c=some o:=λc o e=>Pg _ e
 have k3:∀c o,(zH3 s.heap b1 b2 l1 l2).get? c=some o->(zH5 s.heap b1 b2 l1 l2).get? c=some o:=λc o e=>k4 c o (Pg _ e)
 have k2:∀c o,(zH2 s.heap b1 b2 l1 l2).get? c=some o->(zH5 s.heap b1 b2 l1 l2).get? c=some o:=λc o e=>k3 c o (Pg _ e)
 have k1:∀c o,(zH1 s.heap b1 l1).get? c=some o->(zH5 s.heap b1 b2 l1 l2).get? c=some o:=λc o e=>k2 c o (Pg _ e)
 have g4:=k4 _ _ (Px (zH3 s.heap b1 b2 l1 l2) (o:={ cls:=.type "tuple",data:=.seq #[.none,.none] }) rfl);have g3:=k3 _ _ (Px (zH2 s.heap b1 b2 l1 l2) (o:={ cls:=.type "tuple",data:=.seq #[.ref s.heap.objs.size,.ref (zH1 s.heap b1 l1).objs.size] }) rfl);have g2:=k2 _ _ (Px (zH1 s.heap b1 l1) (o:=Ys b2 l2) rfl);have g1:=k1 _ _ (Px s.heap (o:=Ys b1 l1) rfl);rw[z2,z3,z4] at g5;rw[z1,z2] at g3;rw[z3] at g4;rw[z1] at g2;rw[z4];have src:∀b l it,(zH5 s.heap b1 b2 l1 l2).get? it=some (Ys b l)->Src b (zH5 s.heap b1 b2 l1 l2) it l 0:=λb l it e=>by
  cases b
  ·exact⟨_,e,rfl,rfl⟩
  ·exact⟨_,e,rfl,rfl⟩
 exact⟨⟨_,g5,rfl⟩,h _ _ rfl ⟨g5,g3,⟨_,_,g4⟩,src b1 l1 _ g1,src b2 l2 _ g2⟩ λc o e=>k1 c o (Pg _ e)⟩
end
end Sd
namespace Sd
open PySem PySem.Spec PyProof.Rows L2
open Ev (D Ob Store Lc R E Sm Calls Walk Fl Fn Bop Cop Ty Bf Mf ev evs evo evt evw tst run runs)
theorem X1 {X:Cx}{pins:List (Addr×Obj)}{σ:L2.St}{H:Hp}{s:Shared}{h':Heap}{t':Nat}{ch:List Addr}(I:Inv X pins σ H s) (k:∀b o,b∉ch->s.heap.get? b=some o->h'.get? b=some o) (hf:∀b∈ch,WR X pins H b):Inv X pins σ H { s with heap:=h',toks:=t' }:=by
 have nit:∀b u,H b=some u->b∉ch:=λb u e z=>by have:=(hf b z).1;rw[e] at this;cases this
 refine I.step (g':=s.gens) (d':=s.drawn) (ch:=ch) (λb hb=>?_) (λb o _ _ hc e _=>k b o hc e) (λb o _ _ hc e _=>⟨o.slots,k b o hc e⟩) (λ_ _ _ _ n=>n) (λb o hc e=>⟨o,k b o hc e⟩) (λ_ _ e=>e) (λ_ _ _ e=>e) (λb ps e=>⟨#[],by rw[e];simp⟩) (λm hm=>?_) (λb u e=>?_) I.bare
 ·exact⟨(hf b hb).2.2.2.1,(hf b hb).2.1,(hf b hb).2.2.2.2.1,(hf b hb).2.2.2.2.2⟩
 ·obtain⟨o,es,ep,ho,r⟩:=hm
  exact⟨o,es,ep,k _ o (λz=>(hf _ z).2.1 rfl) ho,r⟩
 ·refine (I.hok b u e).stay (λc v hc q=>k c v ?_ q) (λ_ q=>q) λ_ _ q=>q
  rcases hc with z | z
  ·rw[z];exact nit b u e
  ·exact nit c _ z
theorem QT {h:Heap}{o o':Obj}{b:Addr}(e:(h.push o').get? b=some o) (n:b≠h.objs.size):h.get? b=some o:=by
 unfold Heap.get? Heap.push at *;simp only[Array.getElem?_push] at e;rw[Pi n] at e;exact e
theorem XO {a b:Nat}(h:a<b\/b<a):(a:Addr)≠b:=λe=>by
 have e':(a:Nat)=b:=e;omega
def Sq (b:Bool) (K:PySem.W.Frag) (H:Hp) (l:Addr) (xs:List V):Prop:=match b with
 |true=>SqL K H l xs
 |false=>SqT K H l xs
section
variable {X:Cx}{pins:List (Addr×Obj)}{σ:L2.St}{H:Hp}{s:Shared}
theorem Y3 (I:Inv X pins σ H s) {b:Bool}{l:Addr}{xs:List V}(h:Sq b X.K H l xs):∃its:List Value,Vals xs its/\Yz b s.heap l its.toArray:=by
 cases b
 ·obtain⟨its,r,p,_⟩:=I.tuple h;exact⟨its,r,p⟩
 ·obtain⟨its,r,p,_⟩:=I.list h;exact⟨its,r,p.isList⟩
theorem zC (I:Inv X pins σ H s) {b:Bool}{l:Addr}{xs ys:List V}(h:Sq b X.K H l xs) (h':Sq b X.K H l ys):xs=ys:=by
 cases b
 ·exact I.tuple_inj h h'
 ·exact I.list_inj h h'
theorem VY {b:Bool}{h:Heap}{l:Addr}{xs:Array Value}(x:Yz b h l xs):l<h.objs.size:=by
 cases b
 ·obtain⟨o,ho,_⟩:=x;exact Pu ho
 ·obtain⟨o,ho,_⟩:=x;exact Pu ho
end
noncomputable def Itz (K:PySem.W.Frag) (b1 b2:Bool) (l1 l2:Addr):It:=
 ⟨λi H=>∃xs ys x y,Sq b1 K H l1 xs/\Sq b2 K H l2 ys/\xs[i]? = some x/\ys[i]? = some y,
  λi H v H'=>∃T x y,(∀xs,Sq b1 K H l1 xs->xs[i]? = some x)/\(∀ys,Sq b2 K H l2 ys->ys[i]? = some y)/\H T=none/\H'=upd H T (.tup [x,y])/\v=.ref T,
  λi H=>∃xs ys,Sq b1 K H l1 xs/\Sq b2 K H l2 ys/\(xs.length<=i\/ys.length<=i)⟩
theorem vS {P:Program}{w:World}{K:PySem.W.Frag}{elts:List Expr}{kk:Nat}{tp:Pos}{b1 b2:Bool}{z TI TO i1 i2 l1 l2:Addr}(D:ZipApart z TI TO i1 i2 l1 l2) :
  Turn P w K (.Tuple elts kk tp) (Itz K b1 b2 l1 l2) [z,TI,TO,i1,i2] z (λi h=>ZipSt b1 b2 z TI TO i1 i2 l1 l2 i .none h) where
 mem:=by simp
 obj:=λi h st b hb=>by
  simp only[Po,P9,or_false] at hb;obtain⟨a,c,hTO⟩:=st.to;rcases hb with e | e | e | e | e <;> subst e
  ·exact⟨_,st.zp,λv q=>by cases q⟩
  ·exact⟨_,st.ti,λv q=>by cases q⟩
  ·exact⟨_,hTO,λv q=>by cases q⟩
  ·exact st.s1.obj
  ·exact st.s2.obj
 keep:=λi h h' st k=>by
  obtain⟨a,c,hTO⟩:=st.to;exact⟨k z (by simp) _ st.zp,k TI (by simp) _ st.ti,⟨a,c,k TO (by simp) _ hTO⟩,st.s1.keep λo e=>k i1 (by simp) o e,st.s2.keep λo e=>k i2 (by simp) o e⟩
 item:=by
  intro X hP hw hK hc i pins s σ H E I hf st hg;subst hP hw hK;obtain⟨xs,ys,x,y,hq1,hq2,hx,hy⟩:=hg;obtain⟨its,rv,o1⟩:=Y3 I hq1;obtain⟨its2,rv2,o2⟩:=Y3 I hq2;obtain⟨u,hu,ru⟩:=rv.get hx;obtain⟨u2,hu2,ru2⟩:=rv2.get hy;refine z7 D st o1 o2 (x:=u) (y:=u2) (by simpa using hu) (by simpa using hu2) λh' Z' hT hk=>?_
  have hfree:H s.heap.objs.size=none:=I.hok.fresh (Pl _);have ltz:∀b∈[z,TI,TO,i1,i2],b≠s.heap.objs.size:=λb hb e=>by
   simp only[Po,P9,or_false] at hb;obtain⟨a,c,hTO⟩:=st.to;rcases hb with q | q | q | q | q <;> subst q
   ·exact absurd (Pu st.zp) (by rw[e];exact PX _)
   ·exact absurd (Pu st.ti) (by rw[e];exact PX _)
   ·exact absurd (Pu hTO) (by rw[e];exact PX _)
   ·obtain⟨o,ho,_⟩:=st.s1.obj;exact absurd (Pu ho) (by rw[e];exact PX _)
   ·obtain⟨o,ho,_⟩:=st.s2.obj;exact absurd (Pu ho) (by rw[e];exact PX _)
  have IA:Inv X pins σ (upd H s.heap.objs.size (.tup [x,y])) { s with heap:=s.heap.push { cls:=.type "tuple",data:=.seq [u,u2].toArray },toks:=s.toks }:=
   I.laid (λb o e=>Pg _ e) (Pl _) ⟨by show 2<=sizeLine;decide,[u,u2],.cons ru (.cons ru2 .nil),IsTup.new _ _⟩
  have hf2:∀b∈[z,TI,TO,i1,i2],WR X pins (upd H s.heap.objs.size (.tup [x,y])) b:=λb hb=>⟨by rw[ZE (ltz b hb)];exact (hf b hb).1,(hf b hb).2⟩
  have IB:Inv X pins σ (upd H s.heap.objs.size (.tup [x,y])) { s with heap:=h',toks:=s.toks }:=by
   refine X1 (s:={ s with heap:=s.heap.push { cls:=.type "tuple",data:=.seq [u,u2].toArray },toks:=s.toks }) (ch:=[z,TO,i1,i2]) IA (λb o hb e=>?_) λb hb=>hf2 b (by simp only[Po,P9,or_false] at hb ⊢;rcases hb with q | q | q | q <;> simp[q])
   by_cases hbs:b=s.heap.objs.size
   ·subst hbs
    have e':(s.heap.push { cls:=.type "tuple",data:=.seq [u,u2].toArray }).get? s.heap.objs.size=some o:=e;rw[Px _ rfl] at e';cases e';exact hT
   ·refine hk b o hb ?_
    have e':(s.heap.push { cls:=.type "tuple",data:=.seq [u,u2].toArray }).get? b=some o:=e;have hlt:=Pu e';rw[Heap.size_push] at hlt;exact QT e' hbs
  refine⟨.ref s.heap.objs.size,rfl,wpAny_letOwnedTupleGo_zip (s:={ s with heap:=h' }) Z'.zp λh2 hz2 hs2=>?_⟩
  have IC:Inv X pins σ (upd H s.heap.objs.size (.tup [x,y])) { s with heap:=h2,toks:=s.toks }:=X1 (s:={ s with heap:=h',toks:=s.toks }) (ch:=[z]) IB (λb o hb e=>(hs2.2 b (by simpa using hb)).trans e) λb hb=>hf2 b (by simp only[P4] at hb;simp[hb])
  obtain⟨a,c,hTO⟩:=Z'.to;refine⟨.ref s.heap.objs.size,_,IC,rfl,⟨_,x,y,λzs hz=>by rw[zC I hz hq1];exact hx,λzs hz=>by rw[zC I hz hq2];exact hy,hfree,rfl,rfl⟩,?_,λb hb=>(hf2 b hb).1⟩
  exact⟨hz2,hs2.extBut _ _ D.TIz Z'.ti,⟨a,c,hs2.extBut _ _ D.TOz hTO⟩,Z'.s1.ext hs2.extBut D.i1z,Z'.s2.ext hs2.extBut D.i2z⟩
 done:=by
  intro X hP hw hK hc i pins s σ H E I hf st hg;subst hP hw hK;obtain⟨xs,ys,hq1,hq2,hend⟩:=hg;obtain⟨its,rv,o1⟩:=Y3 I hq1;obtain⟨its2,rv2,o2⟩:=Y3 I hq2;have e1:=rv.length;have e2:=rv2.length;refine Ul (I.ok.hd hc) D st o1 o2 (by rcases hend with q | q;exact .inl (by simp;omega);exact .inr (by simp;omega)) λh' hk=>⟨rfl,X1 (t':=s.toks) (ch:=[z,TO,i1,i2]) I (λb o hb e=>hk b o hb e) λb hb=>hf b (by simp only[Po,P9,or_false] at hb ⊢;rcases hb with q | q | q | q <;> simp[q])⟩
 self:=λ_ _ _ _ _ st h=>wpAny_pyIter_zip st.zp h
section
variable {X:Cx}{elts:List Expr}{kk:Nat}{tp:Pos}
noncomputable def ZcG (K:PySem.W.Frag) (ta:TA):TI:=λσ H R=>ta σ H λvs H1=>∃b1 b2 l1 l2,vs=[.ref l1,.ref l2]/\(∃xs,Sq b1 K H1 l1 xs)/\(∃ys,Sq b2 K H1 l2 ys)/\R (Itz K b1 b2 l1 l2) H1
theorem ZaU {a b:Expr}{ta:TA}{p pos:Pos}(hg:Gl X "zip") (hm:X.mg "zip" = none) (ha:PA X [a,b] ta) (hs:starEach [a,b] X.env=[(false,eval a X.env),(false,eval b X.env)]:=by rfl) (hs2:starEach [b] X.env=[(false,eval b X.env)]:=by rfl) :
  PI X (.Tuple elts kk tp) (.Call (.Name "zip" p) [a,b] [] pos) (ZcG X.K ta):=by
 intro pins s σ H R I h;refine Call_ (Y5 I hg hm (by rfl) (Na (thn (ha pos pins s σ H _ I h) λus s1 ⟨vs,H1,I1,r1,q1⟩=>?_) (by rw[hs,hs2]) (by rw[hs2];rfl)))
 obtain⟨b1,b2,l1,l2,e,⟨xs,hq1⟩,⟨ys,hq2⟩,q⟩:=q1;subst e;cases r1 with
 |cons r rr=>
  cases rr with
  |cons r' rr=>
   cases rr;cases r;cases r';obtain⟨its,rv,o1⟩:=Y3 I1 hq1;obtain⟨its2,rv2,o2⟩:=Y3 I1 hq2;have lt1:=VY o1;have lt2:=VY o2;refine uP o1 o2 λh' n hn Z hk=>?_
   have I2:Inv X pins σ H1 { s1 with heap:=h' }:=I1.kept (t':=s1.toks) hk
   have q1:(l1:Nat)<n:=by rw[hn];exact lt1
   have q2:(l2:Nat)<n:=by rw[hn];exact lt2
   have D:ZipApart (n+4) (n+2) (n+3) n (n+1) l1 l2:=by constructor <;> first | exact XO (by omega) | exact XO (.inl (PJ q1 (Nat.le_add_right n _))) | exact XO (.inl (PJ q2 (Nat.le_add_right n _))) | exact XO (.inl q1) | exact XO (.inl q2)
   refine wpAny_pyIter_zip (s:={ s1 with heap:=h' }) Z.zp ⟨n+4,[n+4,n+2,n+3,n,n+1],_,_,H1,rfl,I2,vS D,Z,λb hb=>?_,q⟩
   have hbn:s1.heap.objs.size<=b:=by
    rw[<-hn];simp only[Po,P9,or_false] at hb;rcases hb with e | e | e | e | e <;> rw[e]
    ·exact Nat.le_add_right n 4
    ·exact Nat.le_add_right n 2
    ·exact Nat.le_add_right n 3
    ·exact Pl n
    ·exact Nat.le_add_right n 1
   exact I1.fpOk hbn (I1.hok.fresh hbn)
end
def Side (K:PySem.W.Frag) (ρ:List Addr) (H:Hp) (wk:Walk) (b:Bool) (l:Addr):Prop:=∀ρ' S' H',Fut ρ H ρ' H'->St3 K ρ' S' H'->wk.still S'=true->∃vs,Sq b K H' l vs/\Reps ρ' H' wk.items vs
theorem JP {K:PySem.W.Frag}{ρ:List Addr}{S:Store}{H:Hp}{x:D}{v:V}{wk:Walk}(st:St3 K ρ S H) (r:Rep ρ H x v) (h:Ev.Yj S x=some wk):∃b l,v=.ref l/\(∃xs,Sq b K H l xs)/\Side K ρ H wk b l:=by
 cases x with
 |tup ds=>
  obtain⟨a,xs,rfl,hp,rs⟩:=r.tup';cases h;exact⟨false,a,rfl,⟨xs,SqT.of hp⟩,λρ' S' H' f _ _=>⟨xs,SqT.of (f.tup a xs hp),rs.mono f⟩⟩
 |loc n=>
  obtain⟨a,rfl,hp⟩:=r.loc';have h':(match S[n]? with
   |some (.lst xs)=>some (Walk.mk xs [(n,xs)])
   |_=>none)=some wk:=h
  cases q:S[n]? with
  |none=>rw[q] at h';cases h'
  |some o=>
   rw[q] at h';cases o with
   |lst ds=>
    cases h';obtain⟨a',ha,xs,hx,rs⟩:=st.at q;rw[hp] at ha;cases ha;refine⟨true,a,rfl,⟨xs,SqL.of hx⟩,λρ' S' H' f st' hs=>?_⟩
    have hn:S'[n]? = some (.lst ds):=by simpa [Walk.still] using hs
    obtain⟨a',ha,xs',hx',rs'⟩:=st'.at hn;rw[f.at hp] at ha;cases ha;exact⟨xs',SqL.of hx',rs'⟩
   |_=>cases h'
 |_=>cases h
theorem vi {K:PySem.W.Frag}{ρ:List Addr}{H:Hp}{v w:Walk}{b1 b2:Bool}{l1 l2:Addr}(h1:Side K ρ H v b1 l1) (h2:Side K ρ H w b2 l2):WRel K ρ H ⟨(v.items.zip w.items).map λp=>.tup [p.1,p.2],v.kept++w.kept⟩ (Itz K b1 b2 l1 l2) where
 go:=λi ρ' S' H' f st hs hi=>by
  have hs':v.still S'=true/\w.still S'=true:=by
   have:(v.kept++w.kept).all (λp=>decide (S'[p.1]? = some (.lst p.2)))=true:=hs
   rw[List.all_append,Pz] at this;exact this
  obtain⟨xs,q1,r1⟩:=h1 ρ' S' H' f st hs'.1;obtain⟨ys,q2,r2⟩:=h2 ρ' S' H' f st hs'.2;have hi':i<min v.items.length w.items.length:=by simpa using hi
  obtain⟨x,g1,rx⟩:=r1.get (Pc (show i<v.items.length by omega))
  obtain⟨y,g2,ry⟩:=r2.get (Pc (show i<w.items.length by omega))
  refine⟨⟨xs,ys,x,y,q1,q2,g1,g2⟩,λu H'' ⟨T,x',y',e1,e2,hT,eH,eu⟩=>?_⟩
  subst eH eu;have ex:=(e1 xs q1).symm.trans g1;have ey:=(e2 ys q2).symm.trans g2;cases ex;cases ey;refine⟨Z9 hT,st.fresh hT,λd hd=>?_⟩
  have hd':((v.items.zip w.items).map λp=>D.tup [p.1,p.2])[i]? = some d:=hd
  have hz:(v.items.zip w.items)[i]? = some (v.items[i],w.items[i]):=List.getElem?_zip_eq_some.mpr ⟨Pc (show i<v.items.length by omega),Pc (show i<w.items.length by omega)⟩
  rw[PF,hz] at hd';cases hd';exact ZN Ye (Reps.cons (rx.mono (Z9 hT)) (Reps.cons (ry.mono (Z9 hT)) Reps.nil))
 stop:=λρ' S' H' f st hs=>by
  have hs':v.still S'=true/\w.still S'=true:=by
   have:(v.kept++w.kept).all (λp=>decide (S'[p.1]? = some (.lst p.2)))=true:=hs
   rw[List.all_append,Pz] at this;exact this
  obtain⟨xs,q1,r1⟩:=h1 ρ' S' H' f st hs'.1;obtain⟨ys,q2,r2⟩:=h2 ρ' S' H' f st hs'.2;refine⟨xs,ys,q1,q2,?_⟩;show xs.length<=((v.items.zip w.items).map λp=>D.tup [p.1,p.2]).length\/_
  rw[r1.length,r2.length,Pk,NJ];omega
section
variable {X:Cx}{xw:Nat->Hp->Prop}{C:Calls}{a b:Expr}{i j:E}{pos p tp:Pos}{elts:List Expr}{kk:Nat}
noncomputable def jQ (x y:D) (S:Store):R Walk:=match Ev.Yj S x,Ev.Yj S y with
 |some v,some w=>.ok ⟨(v.items.zip w.items).map λp=>.tup [p.1,p.2],v.kept++w.kept⟩ S
 |_,_=>.no
theorem yF (hm:X.mg "zip" = none) (ha:CA X xw C [a,b] [i,j]) (hg:Gl X "zip":=by rfl) (hs:starEach [a,b] X.env=[(false,eval a X.env),(false,eval b X.env)]:=by rfl) (hs2:starEach [b] X.env=[(false,eval b X.env)]:=by rfl) :
  CW X xw C (.Tuple elts kk tp) (.Call (.Name "zip" p) [a,b] [] pos) (.zip i j):=
 PI.imp (ZaU hg hm ha hs hs2) λσ H Q ⟨ρ,l,S,st,lr,h⟩=>by
  refine⟨ρ,l,S,st,lr,?_⟩;show End X.K xw Reps ρ H _ ((ev C i l S).bind λx S=>((ev C j l S).bind λy S=>(Ev.R.ok [] S).bind λxs S=>.ok (y::xs) S).bind λxs S=>.ok (x::xs) S)
  have h':End X.K xw (WRel X.K) ρ H Q ((ev C i l S).bind λx S=>(ev C j l S).bind λy S=>jQ x y S):=h
  cases q:ev C i l S with
  |no=>rw[q] at h';exact h'
  |ex c S1=>rw[q] at h';exact h'
  |ok x S1=>
   rw[q] at h';have h2:End X.K xw (WRel X.K) ρ H Q ((ev C j l S1).bind λy S=>jQ x y S):=h'
   show End X.K xw Reps ρ H _ (((ev C j l S1).bind λy S=>(Ev.R.ok [] S).bind λxs S=>.ok (y::xs) S).bind λxs S=>.ok (x::xs) S)
   cases q2:ev C j l S1 with
   |no=>rw[q2] at h2;exact h2
   |ex c S2=>rw[q2] at h2;exact h2
   |ok y S2=>
    rw[q2] at h2;intro ρ1 H1 vs f1 st1 r1;obtain⟨v,u,rfl,rv,ru⟩:=reps2 r1;have h3:End X.K xw (WRel X.K) ρ1 H1 Q (jQ x y S2):=End.mono f1 h2;unfold jQ at h3;cases e1:Ev.Yj S2 x with
    |none=>rw[e1] at h3;exact False.elim h3
    |some v1=>
     cases e2:Ev.Yj S2 y with
     |none=>rw[e1,e2] at h3;exact False.elim h3
     |some v2=>
      rw[e1,e2] at h3;obtain⟨b1,l1,rfl,s1,d1⟩:=JP st1 rv e1;obtain⟨b2,l2,rfl,s2,d2⟩:=JP st1 ru e2;exact⟨b1,b2,l1,l2,rfl,s1,s2,End.ok (rep:=WRel X.K) h3 st1 (vi d1 d2)⟩
end
theorem Qt {prog:Program}{w:World}{A:Around}(hh:A.handled=none) (b:Bool) (it l:Addr) (hne:l≠it) (xs:Array Value) :
  Draws prog w A it [it,l] xs.size (λi v=>xs[i]? = some v) (λi h=>Src b h it l i/\Yz b h l xs) where
 live:=λ_ _ st=>let ⟨o,ho,_⟩:=st.1.obj;⟨o,ho⟩
 frame:=λ_ _ _ st hk=>⟨st.1.keep λo e=>hk it (by simp) o e,st.2.keep λo e=>hk l (by simp) o e⟩
 item:=λi s Q E hi st hQ=>W8 st.1 st.2 (x:=xs[i]) (Array.getElem?_eq_getElem hi) λh' hit' hs'=>hQ _ h' s.toks (Array.getElem?_eq_getElem hi) ⟨hit',st.2.keep λo e=>hs'.extBut _ o hne e⟩ hs'
 done:=λs Q E st hE=>JC hh st.1 st.2 (Array.getElem?_eq_none (Pl _)) hE
noncomputable def Ite (K:PySem.W.Frag) (b:Bool) (l:Addr):It:=
 ⟨λi H=>∃xs x,Sq b K H l xs/\xs[i]? = some x,
  λi H v H'=>∃T x,(∀xs,Sq b K H l xs->xs[i]? = some x)/\H T=none/\H'=upd H T (.tup [.int i,x])/\v=.ref T,
  λi H=>∃xs,Sq b K H l xs/\xs.length=i⟩
theorem xU {P:Program}{w:World}{K:PySem.W.Frag}{elts:List Expr}{kk:Nat}{tp:Pos}{b:Bool}{e it l:Addr}(hei:e≠it) (hle:l≠e) (hli:l≠it) :
  Turn P w K (.Tuple elts kk tp) (Ite K b l) [e,it] e (λi h=>(∃old,IsEnum h e it i old)/\Src b h it l i) where
 mem:=by simp
 obj:=λi h st c hc=>by
  simp only[Po,P9,or_false] at hc;obtain⟨⟨old,he⟩,hs⟩:=st;rcases hc with q | q <;> subst q
  ·exact⟨_,he,λv q=>by cases q⟩
  ·exact hs.obj
 keep:=λi h h' st k=>by
  obtain⟨⟨old,he⟩,hs⟩:=st;exact⟨⟨old,k e (by simp) _ he⟩,hs.keep λo q=>k it (by simp) o q⟩
 item:=by
  intro X hP hw hK hc i pins s σ H E I hf st hg;subst hP hw hK;obtain⟨xs,x,hq,hx⟩:=hg;obtain⟨its,rv,o1⟩:=Y3 I hq;obtain⟨⟨old,he⟩,hs⟩:=st;obtain⟨u,hu,ru⟩:=rv.get hx;have hlt:i<its.toArray.size:=by
   have:=(Pq.mp hu).1
   simpa using this
  have hh:X.A.in1.handled=none:=I.ok.hd hc;refine wpAny_pyNext_enum_itemD (Qt hh b it l hli its.toArray) he ⟨hs,o1⟩ hlt hei (by simp only[Po,P9,or_false,not_or];exact⟨hei,Ne.symm hle⟩) λx' h' tk hP ho hst hT hsz hk=>?_
  have ex:x'=u:=by
   have:its.toArray[i]? = some u:=by simpa using hu
   rw[this] at hP;exact (Pb hP).symm
  subst ex;have hfree:H s.heap.objs.size=none:=I.hok.fresh (Pl _);have ltz:∀c∈[e,it],c≠s.heap.objs.size:=λc hc q=>by
   simp only[Po,P9,or_false] at hc;rcases hc with z | z <;> subst z
   ·exact absurd (Pu he) (by rw[q];exact PX _)
   ·obtain⟨o,ho,_⟩:=hs.obj;exact absurd (Pu ho) (by rw[q];exact PX _)
  have IA:Inv X pins σ (upd H s.heap.objs.size (.tup [.int i,x])) { s with heap:=s.heap.push { cls:=.type "tuple",data:=.seq [.int i tk,x'].toArray },toks:=tk+1 }:=
   I.laid (λc o q=>Pg _ q) (Pl _) ⟨by show 2<=sizeLine;decide,[.int i tk,x'],.cons ⟨tk,rfl⟩ (.cons ru .nil),IsTup.new _ _⟩
  have hf2:∀c∈[e,it],WR X pins (upd H s.heap.objs.size (.tup [.int i,x])) c:=λc hc=>⟨by rw[ZE (ltz c hc)];exact (hf c hc).1,(hf c hc).2⟩
  have IB:Inv X pins σ (upd H s.heap.objs.size (.tup [.int i,x])) { s with heap:=h',toks:=tk+1 }:=by
   refine X1 (s:={ s with heap:=s.heap.push { cls:=.type "tuple",data:=.seq [.int i tk,x'].toArray },toks:=tk+1 }) (ch:=[e,it]) IA (λc o hc q=>?_) hf2
   by_cases hcs:c=s.heap.objs.size
   ·subst hcs
    have q':(s.heap.push { cls:=.type "tuple",data:=.seq [.int i tk,x'].toArray }).get? s.heap.objs.size=some o:=q;rw[Px _ rfl] at q';cases q';exact hT
   ·simp only[Po,P9,or_false,not_or] at hc
    exact hk c o hc.1 hc.2 (QT q hcs)
  refine⟨.ref s.heap.objs.size,rfl,wpAny_letOwnedTupleGo_enum (s:={ s with heap:=h',toks:=tk+1 }) ho λh2 he2 hs2=>?_⟩
  have IC:Inv X pins σ (upd H s.heap.objs.size (.tup [.int i,x])) { s with heap:=h2,toks:=tk+1 }:=X1 (s:={ s with heap:=h',toks:=tk+1 }) (ch:=[e]) IB (λc o hc q=>(hs2.2 c (by simpa using hc)).trans q) λc hc=>hf2 c (by simp only[P4] at hc;simp[hc])
  refine⟨.ref s.heap.objs.size,_,IC,rfl,⟨_,x,λzs hz=>by rw[zC I hz hq];exact hx,hfree,rfl,rfl⟩,⟨⟨x',by simpa using he2⟩,hst.1.ext hs2.extBut (Ne.symm hei)⟩,λc hc=>(hf2 c hc).1⟩
 done:=by
  intro X hP hw hK hc i pins s σ H E I hf st hg;subst hP hw hK;obtain⟨xs,hq,hend⟩:=hg;obtain⟨its,rv,o1⟩:=Y3 I hq;obtain⟨⟨old,he⟩,hs⟩:=st;have e1:=rv.length;have hh:X.A.in1.handled=none:=I.ok.hd hc;have en:i=its.toArray.size:=by simp;omega
  subst en;exact wpAny_pyNext_enum_endD (Qt hh b it l hli its.toArray) he ⟨hs,o1⟩ λh' hx=>⟨rfl,X1 (t':=s.toks) (ch:=[e,it]) I (λc o hc q=>hx c o (λz=>hc (by simp[z])) q) hf⟩
 self:=λ_ _ _ _ _ st h=>by
  obtain⟨⟨old,he⟩,_⟩:=st;exact wpAny_pyIter_enum he h
section
variable {prog:Program}{w:World}{A:Around}{E:Value->Shared->Prop}{s:Shared}
theorem ue (l:Addr) (items:Array Value) (n:Nat) (dct:Option Addr) (sl:Array (Option Value)) :
  Meets (Builtin.«enumerate.__new__» ⟨[.type "enumerate",.ref l],[]⟩) (λ_ R s=>s.heap.get? l=some { cls:=.type "tuple",dict:=dct,data:=.seq items n,slots:=sl }/\
   R (.ok (.ret (.ref (s.heap.push (Ys false l)).objs.size))) { s with heap:=(s.heap.push (Ys false l)).push { cls:=.type "enumerate",data:=.fields #[.none,.bool false,.ref s.heap.objs.size,rawInt 0,.none,.none] } }):=
 .of_wp λprog w A R s h=>by
  obtain⟨hp,g,d,tk,os⟩:=s;obtain⟨hl,h⟩:=h;have hsub:=sub_enumerate;have hL:Heap.IsTuple (Shared.heap ⟨hp,g,d,tk,os⟩) l items:=⟨_,hl,rfl,n,rfl⟩
  wp_walk using AutoSeq1.wpAny_loadPart' hl;refine wpAny_stack_any λst=>Pj ?_;split
  ·rename_i c _ _ _ _ _;cases (c == Value.type "enumerate") <;> (wp_walk using AutoSeq1.wpAny_loadPart' hl,wpAny_pyIter_tuple hL;exact⟨_,rfl,h⟩)
  ·wp_walk using AutoSeq1.wpAny_loadPart' hl,wpAny_pyIter_tuple hL;exact⟨_,rfl,h⟩
theorem wl {b:Bool}{l:Addr}{xs:Array Value}{Q:Value->Shared->Prop}(hL:Yz b s.heap l xs)
  (h:∀h' n,n=s.heap.objs.size->IsEnum h' (n+1) n 0 .none->Src b h' n l 0->(∀c o,s.heap.get? c=some o->h'.get? c=some o)->Q (.ref (n+1)) { s with heap:=h' }):wpAny (model prog w) A (call (.type "enumerate") [.ref l]) Q E s:=by
 cases b with
 |true=>exact call_enumerate_list hL λh' a1 a2 _ a4=>h h' _ rfl a1 a2 a4
 |false=>
  obtain⟨⟨c,dct,dt,sl⟩,hl,hc,n,hd⟩:=hL;simp only at hc hd;subst hc hd;refine callType_new F.called_enumerate (by decide) (F.typeCall_enumerate_1 _) (F.newCall_enumerate_1 _) (λobj=>F.args_object_init_2 obj _) F.entry_enumerate_new (ue l xs n dct sl) ⟨hl,?_⟩
  have hz:(s.heap.push (Ys false l)).objs.size=s.heap.objs.size+1:=Heap.size_push ..;have g2:=Px (s.heap.push (Ys false l)) (o:={ cls:=.type "enumerate",data:=.fields #[.none,.bool false,.ref s.heap.objs.size,rawInt 0,.none,.none] }) rfl;have g1:((s.heap.push (Ys false l)).push { cls:=.type "enumerate",data:=.fields #[.none,.bool false,.ref s.heap.objs.size,rawInt 0,.none,.none] }).get? s.heap.objs.size=some (Ys false l):=Pg _ (Px _ rfl);rw[hz] at g2 ⊢;exact⟨⟨_,g2,rfl⟩,h _ _ rfl g2 ⟨_,g1,rfl,rfl⟩ λc o q=>Pg _ (Pg _ q)⟩
end
section
variable {X:Cx}{elts:List Expr}{kk:Nat}{tp:Pos}
noncomputable def ZbZ (K:PySem.W.Frag) (ta:TA):TI:=λσ H R=>ta σ H λvs H1=>∃b l,vs=[.ref l]/\(∃xs,Sq b K H1 l xs)/\R (Ite K b l) H1
theorem jN {a:Expr}{ta:TA}{p pos:Pos}(hg:Gl X "enumerate") (hm:X.mg "enumerate" = none) (ha:PA X [a] ta) (hs:starEach [a] X.env=[(false,eval a X.env)]:=by rfl):PI X (.Tuple elts kk tp) (.Call (.Name "enumerate" p) [a] [] pos) (ZbZ X.K ta):=by
 intro pins s σ H R I h;refine Call_ (Y5 I hg hm (by rfl) (Na (thn (ha pos pins s σ H _ I h) λus s1 ⟨vs,H1,I1,r1,q1⟩=>?_) hs rfl))
 obtain⟨b,l,e,⟨xs,hq⟩,q⟩:=q1;subst e;cases r1 with
 |cons r rr=>
  cases rr;cases r;obtain⟨its,rv,o1⟩:=Y3 I1 hq;have lt1:=VY o1;refine wl o1 λh' n hn he hs' hk=>?_
  have I2:Inv X pins σ H1 { s1 with heap:=h' }:=I1.kept (t':=s1.toks) hk
  have q1:(l:Nat)<n:=by rw[hn];exact lt1
  refine wpAny_pyIter_enum (s:={ s1 with heap:=h' }) he ⟨n+1,[n+1,n],_,_,H1,rfl,I2,xU (XO (.inr (Nat.lt_succ_self n))) (XO (.inl (Nw q1))) (XO (.inl q1)),⟨⟨_,he⟩,hs'⟩,λc hc=>?_,q⟩
  have hbn:s1.heap.objs.size<=c:=by
   rw[<-hn];simp only[Po,P9,or_false] at hc;rcases hc with e | e <;> rw[e]
   ·exact Nat.le_succ n
   ·exact Pl n
  exact I1.fpOk hbn (I1.hok.fresh hbn)
end
theorem wJ {K:PySem.W.Frag}{ρ:List Addr}{H:Hp}{w:Walk}{b:Bool}{l:Addr}(h1:Side K ρ H w b l):WRel K ρ H ⟨(Ev.Zr 0 w.items.length).zip w.items |>.map λp=>.tup [p.1,p.2],w.kept⟩ (Ite K b l) where
 go:=λi ρ' S' H' f st hs hi=>by
  obtain⟨xs,q1,r1⟩:=h1 ρ' S' H' f st hs;have hi':i<w.items.length:=by
   have:i<(((Ev.Zr 0 w.items.length).zip w.items).map λp=>D.tup [p.1,p.2]).length:=hi
   rw[Pk,NJ,Wc] at this;omega
  obtain⟨x,g1,rx⟩:=r1.get (Pc hi');refine⟨⟨xs,x,q1,g1⟩,λu H'' ⟨T,x',e1,hT,eH,eu⟩=>?_⟩
  subst eH eu;have ex:=(e1 xs q1).symm.trans g1;cases ex;refine⟨Z9 hT,st.fresh hT,λd hd=>?_⟩
  have hd':(((Ev.Zr 0 w.items.length).zip w.items).map λp=>D.tup [p.1,p.2])[i]? = some d:=hd
  have hz:((Ev.Zr 0 w.items.length).zip w.items)[i]? = some (.int (0+i),w.items[i]):=List.getElem?_zip_eq_some.mpr ⟨Gd hi',Pc hi'⟩;rw[PF,hz] at hd';cases hd';refine ZN Ye (Reps.cons ?_ (Reps.cons (rx.mono (Z9 hT)) Reps.nil));have:((0:Int)+i)=i:=by omega
  show Rep _ _ (D.int (0+i)) (V.int i);rw[this];exact Zn _
 stop:=λρ' S' H' f st hs=>by
  obtain⟨xs,q1,r1⟩:=h1 ρ' S' H' f st hs;refine⟨xs,q1,?_⟩;show xs.length=(((Ev.Zr 0 w.items.length).zip w.items).map λp=>D.tup [p.1,p.2]).length
  rw[Pk,NJ,Wc,r1.length];omega
section
variable {X:Cx}{xw:Nat->Hp->Prop}{C:Calls}{a b:Expr}{i j:E}{pos p tp:Pos}{elts:List Expr}{kk:Nat}
theorem JF (hm:X.mg "enumerate" = none) (ha:CA X xw C [a] [i]) (hg:Gl X "enumerate":=by rfl) (hs:starEach [a] X.env=[(false,eval a X.env)]:=by rfl) :
  CW X xw C (.Tuple elts kk tp) (.Call (.Name "enumerate" p) [a] [] pos) (.enum i):=
 PI.imp (jN hg hm ha hs) λσ H Q ⟨ρ,l,S,st,lr,h⟩=>by
  refine⟨ρ,l,S,st,lr,?_⟩;show End X.K xw Reps ρ H _ ((ev C i l S).bind λx S=>(Ev.R.ok [] S).bind λxs S=>.ok (x::xs) S)
  have h':End X.K xw (WRel X.K) ρ H Q ((ev C i l S).bind λx S=>match Ev.Yj S x with
   |some w=>.ok ⟨(Ev.Zr 0 w.items.length).zip w.items |>.map λp=>.tup [p.1,p.2],w.kept⟩ S
   |none=>.no):=h
  cases q:ev C i l S with
  |no=>rw[q] at h';exact h'
  |ex c S1=>rw[q] at h';exact h'
  |ok x S1=>
   rw[q] at h';intro ρ1 H1 vs f1 st1 r1;obtain⟨v,rfl,r⟩:=reps1 r1;have h3:End X.K xw (WRel X.K) ρ1 H1 Q (match Ev.Yj S1 x with
    |some w=>.ok ⟨(Ev.Zr 0 w.items.length).zip w.items |>.map λp=>.tup [p.1,p.2],w.kept⟩ S1
    |none=>.no):=End.mono f1 (show End X.K xw (WRel X.K) ρ H Q _ from h')
   cases e1:Ev.Yj S1 x with
   |none=>rw[e1] at h3;exact False.elim h3
   |some wk=>
    rw[e1] at h3;obtain⟨b1,l1,rfl,s1,d1⟩:=JP st1 r e1;exact⟨b1,l1,rfl,s1,End.ok (rep:=WRel X.K) h3 st1 (wJ d1)⟩
end
theorem wO {prog:Program}{w:World}{A:Around}(hh:A.handled=none) (b:Bool) (it l:Addr) (hne:l≠it) (xs:Array Value) :
  Walks prog w A it [it,l] [it] xs.size (λi v=>xs[i]? = some v) (λi h=>Src b h it l i/\Yz b h l xs):=by
 cases b
 ·exact Walks.tuple hh it l hne xs
 ·exact Walks.list hh it l hne xs
theorem qW {b:Bool}{h:Heap}{l:Addr}:Src b (h.push (Ys b l)) h.objs.size l 0:=by
 cases b
 ·exact⟨_,Px _ rfl,rfl,rfl⟩
 ·exact⟨_,Px _ rfl,rfl,rfl⟩
section
variable {X:Cx}{xw:Nat->Hp->Prop}{C:Calls}{e a b c:Expr}{i j k:E}{pos p p' p2:Pos}
theorem Ua {ρ:List Addr}{H:Hp}:∀{ds:List D}{is:List Int}{xs:List V},Ev.Y7 ds=some is->Reps ρ H ds xs->xs=is.map V.int
 |[],is,xs,h,r=>by unfold Reps at r;cases h;rw[r];rfl
 |d::ds,is,xs,h,r=>by
  unfold Reps at r;obtain⟨v,vs,rfl,a1,b1⟩:=r;cases d with
  |int n=>
   have h':(Ev.Y7 ds).map (n :: ·)=some is:=h
   cases q:Ev.Y7 ds with
   |none=>rw[q] at h';cases h'
   |some k'=>
    rw[q] at h';have e:n::k'=is:=Pb h';rw[<-e,a1.int',Ua q b1];rfl
  |_=>cases h
theorem Uy (f:Nat->Int) (n:Nat):preSum f (n+1)=preSum f n+f n:=rfl
theorem G1:∀(is:List Int),preSum (λj=>is.getD j 0) is.length=is.sum:=by
 have gen:∀(is:List Int) (n:Nat),n<=is.length->preSum (λj=>is.getD j 0) n=(is.take n).sum:=by
  intro is n
  induction n with
  |zero=>intro _;rfl
  |succ n ih=>
   intro h;rw[Uy,ih (by omega),List.take_add_one,List.sum_append]
   have:is[n]? = some is[n]:=Pc (by omega)
   simp[this]
 intro is;rw[gen is is.length (Pl _),List.take_length]
theorem WE {f:Nat->Int}{M:Int}(h:∀j,-M<=f j/\f j<=M) (hM:0<=M):∀n:Nat,-(M*n)<=preSum f n/\preSum f n<=M*n
 |0=>by rw[show preSum f 0=0 from rfl];simp
 |n+1=>by
  obtain⟨a,b⟩:=WE h hM n;obtain⟨c,d⟩:=h n;rw[Uy];have:M*((n+1:Nat):Int)=M*n+M:=by rw[Int.natCast_add,Int.mul_add];simp
  rw[this];omega
theorem wd (hc:X.calm=true):ZJ X (.builtin "sum") (λvs H Q=>∃ρ S ds n is,St3 X.K ρ S H/\Reps ρ H [.loc n] vs/\Ev.Zi S n=some ds/\Ev.Y7 ds=some is/\Ev.Xz is=true/\Q (.int is.sum) H):=by
 intro pins s σ H vs us Q I r h;obtain⟨ρ,S,ds,n,is,st,rs,hl,hb,hok,q⟩:=h;obtain⟨v,rfl,r1⟩:=reps1 rs;obtain⟨_,l,xs,q1,hx,rx⟩:=st.lst hl;obtain⟨p',rfl,t⟩:=r1.loc';rw[q1] at t;cases t;obtain⟨u,rfl,ru⟩:=vals1 r;cases ru;have hq:Sq true X.K H l xs:=SqL.of hx;obtain⟨its,rv,o1⟩:=Y3 I hq;have hlt:=VY o1;have ex:=Ua hb rx;subst ex;have hlen:its.toArray.size=is.length:=by rw[Pf,<-rv.length,Pk]
 obtain⟨k1,k2⟩:=(Pz _ _).mp hok;have k1':=Pw k1;have bd:∀j,-1099511627776<=is.getD j 0/\is.getD j 0<=1099511627776:=λj=>by
  cases e:is[j]? with
  |none=>rw[Pp,e];simp
  |some y=>
   have:=Pw (PP.mp k2 y (List.mem_of_getElem? e));rw[Pp,e];exact this
 refine call_sum_walk (Uz o1 ⟨s.heap.objs.size,[s.heap.objs.size,l],[s.heap.objs.size],its.toArray.size,_,_,λj=>is.getD j 0,rfl,wO (A:=X.A.in1) (show X.A.in1.handled=none from I.ok.hd hc) true s.heap.objs.size l (PQ hlt) its.toArray,⟨qW,o1.keep λo q=>Pg _ q⟩,λb hb=>?_,λj v hv=>?_,λj hj=>?_,?_⟩)
 ·rw[Heap.size_push]
  simp only[Po,P9,or_false] at hb;rcases hb with q | q <;> rw[q]
  ·exact Nat.lt_succ_self _
  ·exact Nw hlt
 ·have hj:its[j]? = some v:=by simpa using hv
  have jl:j<is.length:=by
   have:=(Pq.mp hj).1;rw[<-rv.length,Pk] at this;exact this
  obtain⟨u',g',ru'⟩:=rv.get (i:=j) (show (is.map V.int)[j]? = some (V.int is[j]) by rw[PF,Pc jl];rfl)
  rw[hj] at g';cases g';obtain⟨t,e⟩:=ru';exact⟨t,by rw[e];show Value.int is[j] t=Value.int (is.getD j 0) t;rw[Pp,Pc jl];rfl⟩
 ·have b1:=bd j
  have b2:=WE bd (by omega) (j+1)
  have jl:j+1<=1000:=by omega
  have b3:(1099511627776:Int)*((j+1:Nat):Int)<=1099511627776*1000:=Int.mul_le_mul_of_nonneg_left (by omega) (by omega)
  refine⟨show InLong (is.getD j 0) from ?_,?_⟩ <;> (unfold InLong;omega)
 ·intro h' tk t' hk
  rw[hlen,G1];exact⟨.int is.sum,H,I.kept (t':=tk) λb o e=>hk b o (λhm=>by
   have:b=s.heap.objs.size:=by simpa using hm
   exact absurd (this▸Pu e) (PX _)) (Pg _ e),⟨t',rfl⟩,q⟩
theorem yY (hc:X.calm=true):ZJ X (.builtin "sum") (VP X.K xw .sum):=ZJ.imp (wd hc) λvs H Q ⟨ρ,S,ds,st,r,h⟩=>by
 match ds,r,h with
 |[.loc n],r,h=>
  obtain⟨xs,hx,h1⟩:=End.ob (show End X.K xw Rep ρ H Q ((Ev.ob (Ev.Zi S n) S).bind λxs S=>(Ev.ob (Ev.Y7 xs) S).bind λis S=>if Ev.Xz is=true then .ok (.int is.sum) S else .no) from h)
  obtain⟨is,hb,h2⟩:=End.ob h1;obtain⟨hs,h3⟩:=End.guard h2;exact⟨ρ,S,xs,n,is,st,r,hx,hb,hs,End.ok h3 st (Zn _)⟩
theorem Vm {o:Expr}{io:E}{apos cpos:Pos}(ho:CE X xw C o io) (ha:CA X xw C [e] [i])
  (hbase:attributeBase o "extend" X.env (eval o X.env)=eval o X.env:=by rfl)
  (hfew:((backTo cpos (starEach [e] X.env)).all (λx=>!x.1)&&(backToKw cpos (keywordEach [] X.env)).all (λx=>x.1.isSome)
   && decide (([e]:List Expr).length+([]:List Keyword).length+(if ([]:List Keyword).isEmpty then 0 else 1)<30))=true:=by rfl)
  (hline:(apos.endLine == cpos.line)=true:=by rfl) (hs:starEach [e] X.env=(false,eval e X.env)::starEach [] X.env:=by rfl) (hplain:(backTo cpos (starEach [] X.env)).any (·.1)=false:=by rfl) :
  CE X xw C (.Call (.Attribute o "extend" apos) [e] [] cpos) (.mt .extend io [i]):=
 PE.imp (Zb3 PySem.F.plainAttrs_list PySem.F.slot_list_extend PySem.F.type_list_extend x9 ho ha hbase hfew hline hs hplain) λσ H Q ⟨ρ,l,S,st,lr,h⟩=>by
  have h':End X.K xw Rep ρ H Q ((ev C io l S).bind λx S=>if Ev.zb S x=true then (evs C [i] l S).bind λxs S=>Ev.method .extend x xs S else .no):=h
  refine⟨ρ,l,S,st,lr,h'.bind λx S1 ρ1 H1 v f1 st1 r1 h1=>?_⟩
  obtain⟨hl,h1⟩:=h1.guard;cases x with
  |loc n=>
   obtain⟨p,rfl,hp⟩:=r1.loc';obtain⟨ds,hds⟩:=Option.isSome_iff_exists.mp (show (Ev.Zi S1 n).isSome=true from hl)
   obtain⟨_,p',xs,q1,hx,_⟩:=st1.lst hds;rw[hp] at q1;cases q1;refine⟨.inl ⟨rfl,xs,SqL.of hx⟩,ρ1,l,S1,st1,lr.mono f1,h1.bind λys S2 ρ2 H2 vs f2 st2 r2 h2=>?_⟩
   match ys,r2,h2 with
   |[.loc m],r2,h2=>
    obtain⟨w,rfl,rw'⟩:=reps1 r2;obtain⟨pm,rfl,hpm⟩:=rw'.loc';have h2':End X.K xw Rep ρ2 H2 Q (if n=m then .no else (Ev.ob (Ev.Zi S2 n) S2).bind λxs S=>(Ev.ob (Ev.Zi S m) S).bind λys S=>if xs.length+ys.length<=Ev.lim then .ok .non (S.set n (.lst (xs++ys))) else .no):=h2
    by_cases hnm:n=m
    ·rw[Ph hnm] at h2';exact False.elim h2'
    ·rw[Pi hnm] at h2'
     obtain⟨zs,hz,h3⟩:=End.ob h2';obtain⟨ws,hw,h4⟩:=End.ob h3;obtain⟨hlen,h5⟩:=h4.guard;obtain⟨sn,p2,zs',q2,hz2,rz⟩:=st2.lst hz;rw[f2.at hp] at q2;cases q2;obtain⟨sm,p3,ws',q3,hw2,rw2⟩:=st2.lst hw;rw[hpm] at q3;cases q3;refine⟨p,pm,zs',ws',rfl,rfl,hz2,hw2,by rw[rz.length,rw2.length,<-Wz];exact hlen,?_⟩
     exact h5 ρ2 _ .non (YJ hz2) (st2.wr (f2.at hp) sn hz2 (rz.append rw2)) W6
   |[.non],r2,h2=>exact False.elim h2
   |[.bl _],r2,h2=>exact False.elim h2
   |[.int _],r2,h2=>exact False.elim h2
   |[.str _],r2,h2=>exact False.elim h2
   |[.tup _],r2,h2=>exact False.elim h2
   |[.fn _],r2,h2=>exact False.elim h2
   |[.exc _ _],r2,h2=>exact False.elim h2
   |[],r2,h2=>exact False.elim h2
   |d::_::_,r2,h2=>cases d <;> exact False.elim h2
  |_=>exact absurd hl (by simp[Ev.zb])
theorem zB {n m:Nat}{x y:Str}{px py pt:Pos}{kt k2 pt2}(hc:X.calm=true) (hN:X.N.Nodup) (ha:CA X xw C [a,b] [i,j]) (hnm:n≠m:=by decide) (hi:X.N[n]? = some x:=by rfl) (hj:X.N[m]? = some y:=by rfl)
  (hx:X.env.scope.names.lookup x=some .local:=by rfl) (hy:X.env.scope.names.lookup y=some .local:=by rfl)
  (hw:swappedStores [.Tuple [.Name x px,.Name y py] kt pt] (.Tuple [a,b] k2 pt2) X.env=pure (some [x,y]):=by rfl)
  (hs:swapsWithSole [.Tuple [.Name x px,.Name y py] kt pt] (.Tuple [a,b] k2 pt2) pos.line X.env=pure false:=by rfl) :
  CS X xw C (.Assign [.Tuple [.Name x px,.Name y py] kt pt] (.Tuple [a,b] k2 pt2) pos) (.par [n,m] [i,j]):=
 PS.imp (Zaw hc hN hi hj hnm hx hy ha hw hs) λD σ H ⟨ρ,l,S,st,lr,h⟩=>
  ⟨ρ,l,S,st,lr,Zy.bind (show Zy X.K xw ρ H D ((evs C [i,j] l S).bind λxs S=>(Ev.ob (Ev.fill [n,m] xs l) S).bind λσ S=>.ok (.nx σ) S) from h) λxs S1 ρ1 H1 vs f1 st1 r1 h1=>by
   obtain⟨l',hl',h2⟩:=Zy.ob h1
   match xs,r1,hl' with
   |[d1,d2],r1,hl'=>
    obtain⟨v,w,rfl,a1,a2⟩:=reps2 r1;have e:(l.set n (some d1)).set m (some d2)=l':=Pb hl';exact⟨v,w,rfl,Zy.nx h2 st1 (by rw[<-e];exact ((lr.mono f1).set n a1).set m a2)⟩
   |[],_,hl'=>cases hl'
   |[_],_,hl'=>cases hl'
   |_::_::_::_,_,hl'=>cases hl'⟩
end
end Sd
namespace Sq
open PySem PySem.W PyProof.Rows
noncomputable def evT {α:Type} (n:Nat) (lt:Nat->Nat->Bool):KasT α->Option α
 |.ret a=>some a
 |.ask i j k=>if i<n/\j<n then evT n lt (k (lt i j)) else none
theorem Wa {α:Type}{n:Nat}{lt:Nat->Nat->Bool}{i j:Nat}{k:Bool->KasT α}(c:i<n/\j<n):evT n lt (.ask i j k)=evT n lt (k (lt i j)):=by
 show (if i<n/\j<n then evT n lt (k (lt i j)) else none)=_
 rw[Ph c]
theorem Xd {α β:Type}{n:Nat}{lt:Nat->Nat->Bool}{f:α->KasT β}:∀{t:KasT α}{a:α},evT n lt t=some a->evT n lt (t.bind f)=evT n lt (f a)
 |.ret a,b,h=>by cases h;rfl
 |.ask i j k,b,h=>by
  unfold evT at h;by_cases c:i<n/\j<n
  ·rw[Ph c] at h
   show evT n lt (.ask i j λb=>(k b).bind f)=_
   rw[Wa c];exact Xd h
  ·rw[Pi c] at h;cases h
theorem yd {α:Type}{n:Nat}{lt:Nat->Nat->Bool}{cmp:Nat->Nat->(Bool->Shared->Prop)->Shared->Prop}{G:α->Shared->Prop}{s:Shared}(hc:∀i j,i<n->j<n->∀C:Bool->Shared->Prop,C (lt i j) s->cmp i j C s) :
  ∀{t:KasT α} {a:α},evT n lt t=some a->G a s->t.kasWp cmp G s
 |.ret a,b,h,g=>by cases h;exact g
 |.ask i j k,b,h,g=>by
  unfold evT at h;by_cases c:i<n/\j<n
  ·rw[Ph c] at h
   exact hc i j c.1 c.2 _ (yd hc h g)
  ·rw[Pi c] at h;cases h
structure Ord (n:Nat) (lt:Nat->Nat->Bool):Prop where
 tot:∀i j,i<n->j<n->i≠j->lt i j=false->lt j i=true
 asy:∀i j,i<n->j<n->lt i j=true->lt j i=false
 tr:∀i j k,i<n->j<n->k<n->lt i j=true->lt j k=true->lt i k=true
noncomputable abbrev g (p:Array Nat) (i:Nat):Nat:=p.getD i 0
def Pm (n:Nat) (p:Array Nat):Prop:=p.Perm (List.toArray (List.range n))
theorem Pm.size {n:Nat}{p:Array Nat}(h:Pm n p):p.size=n:=by have:=Array.Perm.size_eq h;simpa using this
theorem yy {p:Array Nat}{i:Nat}(h:i<p.size):p[i]? = some (g p i):=by simp[g,h]
theorem Pm.lt {n:Nat}{p:Array Nat}(h:Pm n p) {i:Nat}(hi:i<n):g p i<n:=by
 have hs:=h.size;have h1:g p i∈p.toList:=by
  have:p.toList[i]? = some (g p i):=by rw[No];exact yy (by omega)
  exact List.mem_of_getElem? this
 have h2:p.toList.Perm (List.range n):=by simpa using Nj.mp h
 exact PU.mp (h2.mem_iff.mp h1)
theorem Pm.inj {n:Nat}{p:Array Nat}(h:Pm n p) {i j:Nat}(hi:i<n) (hj:j<n) (e:g p i=g p j):i=j:=by
 have hs:=h.size;have h2:p.toList.Perm (List.range n):=by simpa using Nj.mp h
 have nd:p.toList.Nodup:=(h2.nodup_iff).mpr List.nodup_range;have e1:p.toList[i]? = some (g p i):=by rw[No];exact yy (by omega)
 have e2:p.toList[j]? = some (g p j):=by rw[No];exact yy (by omega)
 have hl:i<p.toList.length:=by simpa [hs] using hi
 exact (List.getElem?_inj hl nd).mp (by rw[e1,e2,e])
theorem G5 {p:Array Nat}{src d:Nat}(hs:src<p.size) (hd:d<=src) (k:Nat):g (bubble p src d) k=if k=src-d then g p src else if src-d<k/\k<=src then g p (k-1) else g p k:=by
 have:=getElem?_bubble hs d hd k;unfold g;simp only[Array.getD_eq_getD_getElem?,this]
 repeat' split
 all_goals rfl
theorem j0 {p:Array Nat}{m:Nat}(hm:m<=p.size) (k:Nat):g (kas_rev p 0 m) k=if k<m then g p (m-1-k) else g p k:=by
 have:=getElem?_mirror (xs:=p) (i:=0) (j:=m) hm ((m-0) / 2) (by omega) k
 unfold g kas_rev;simp only[Array.getD_eq_getD_getElem?,this];by_cases c:k<m
 ·rw[Ph c]
  split
  ·congr 2;omega
  ·congr 2;omega
 ·rw[Pi c,Pi (by omega)]
theorem vG {n:Nat}{p:Array Nat}(h:Pm n p) (i j:Nat):Pm n (kas_rev p i j):=(mirror_perm _ _ _ _).trans h
theorem wg {n:Nat}{p:Array Nat}(h:Pm n p) (i j:Nat):Pm n (bubble p i j):=(bubble_perm _ _ _).trans h
section
variable {n:Nat}{lt:Nat->Nat->Bool}
def Up (lt:Nat->Nat->Bool) (p:Array Nat) (m:Nat):Prop:=∀i j,i<j->j<m->lt (g p i) (g p j)=true
def Dn (lt:Nat->Nat->Bool) (p:Array Nat) (m:Nat):Prop:=∀i j,i<j->j<m->lt (g p j) (g p i)=true
theorem Zak (p:Array Nat):Up lt p 1:=λi j a b=>by omega
theorem jd (O:Ord n lt) {p:Array Nat}(h:Pm n p) {m:Nat}(hm:m<n) (h1:1<=m) (u:Up lt p m) (c:lt (g p m) (g p (m-1))=false):Up lt p (m+1):=by
 have hl:lt (g p (m-1)) (g p m)=true:=O.tot _ _ (h.lt hm) (h.lt (by omega)) (λe=>by have:=h.inj hm (by omega) e;omega) c
 intro i j a b;by_cases z:j=m
 ·subst z
  by_cases y:i=j-1
  ·subst y;exact hl
  ·exact O.tr _ _ _ (h.lt (by omega)) (h.lt (by omega)) (h.lt hm) (u i (j-1) (by omega) (by omega)) hl
 ·exact u i j a (by omega)
theorem yv (O:Ord n lt) {p:Array Nat}(h:Pm n p):∀(f m:Nat),1<=m->m+f=n->Up lt p m->∃k,evT n lt (kas_asc p f m)=some k/\m<=k/\k<=n/\Up lt p k/\(k<n->lt (g p k) (g p (k-1))=true)
 |0,m,h1,e,u=>⟨m,rfl,Pl _,by omega,u,λz=>by omega⟩
 |f+1,m,h1,e,u=>by
  unfold kas_asc;rw[Wa ⟨h.lt (by omega),h.lt (by omega)⟩]
  cases c:lt (g p m) (g p (m-1)) with
  |true=>exact⟨m,by rw[Ph rfl];rfl,Pl _,by omega,u,λ_=>c⟩
  |false=>
   obtain⟨k,e1,e2,e3,e4⟩:=yv O h f (m+1) (by omega) (by omega) (jd O h (by omega) h1 u c)
   exact⟨k,by rw[Pi (by simp)];exact e1,by omega,e3,e4⟩
theorem xQ (O:Ord n lt) {p:Array Nat}(h:Pm n p) {m:Nat}(hm:m<n) (h1:1<=m) (u:Dn lt p m) (c:lt (g p m) (g p (m-1))=true):Dn lt p (m+1):=by
 intro i j a b;by_cases z:j=m
 ·subst z
  by_cases y:i=j-1
  ·subst y;exact c
  ·exact O.tr _ _ _ (h.lt hm) (h.lt (by omega)) (h.lt (by omega)) c (u i (j-1) (by omega) (by omega))
 ·exact u i j a (by omega)
theorem yV (O:Ord n lt) {p:Array Nat}(h:Pm n p):∀(f m:Nat),1<=m->m+f=n->Dn lt p m->∃k,evT n lt (kas_desc f p m 0)=some (p,k,0)/\m<=k/\k<=n/\Dn lt p k
 |0,m,h1,e,u=>⟨m,rfl,Pl _,by omega,u⟩
 |f+1,m,h1,e,u=>by
  unfold kas_desc;rw[Wa ⟨h.lt (by omega),h.lt (by omega)⟩]
  cases c:lt (g p m) (g p (m-1)) with
  |true=>
   obtain⟨k,e1,e2,e3,e4⟩:=yV O h f (m+1) (by omega) (by omega) (xQ O h (by omega) h1 u c)
   exact⟨k,by rw[Ph rfl,Pi (by omega)];exact e1,by omega,e3,e4⟩
  |false=>
   have hl:lt (g p (m-1)) (g p m)=true:=O.tot _ _ (h.lt (by omega)) (h.lt (by omega)) (λe=>by have:=h.inj (by omega) (by omega) e;omega) c
   refine⟨m,?_,Pl _,by omega,u⟩
   rw[Pi (by simp)]
   rw[Wa ⟨h.lt (by omega),h.lt (by omega)⟩]
   show evT n lt (if lt (g p (m-1)) (g p m)=true then _ else _)=_
   rw[Ph hl];rfl
theorem uo (O:Ord n lt) {p:Array Nat}(h:Pm n p) (hn:1<=n):∃k p',evT n lt (kas_count n p)=some (k,p')/\1<=k/\k<=n/\Pm n p'/\Up lt p' k:=by
 obtain⟨k,e1,e2,e3,e4,e5⟩:=yv O h (n-1) 1 (Pl _) (by omega) (Zak p)
 unfold kas_count;rw[Xd e1];by_cases c:k=n
 ·exact⟨k,p,by rw[Ph (by simpa using c)];rfl,e2,e3,h,e4⟩
 ·rw[Pi (by simpa using c)]
  by_cases c1:k>1
  ·refine⟨k,p,?_,e2,e3,h,e4⟩
   rw[Ph c1];rw[Wa ⟨h.lt (by omega),h.lt (by omega)⟩]
   show evT n lt (if lt (g p 0) (g p (k-1))=true then _ else _)=_
   rw[Ph (e4 0 (k-1) (by omega) (by omega))];rfl
  ·rw[Pi c1]
   have hk:k=1:=by omega
   subst hk;have c2:=e5 (by omega)
   have d2:Dn lt p 2:=xQ O h (by omega) (Pl _) (λi j a b=>by omega) c2
   obtain⟨m,f1,f2,f3,f4⟩:=yV O h (n-(1+1)) 2 (by omega) (by omega) d2
   unfold kas_descPart;rw[Xd f1,Pi (by simp)]
   unfold kas_tail3;have hu:Up lt (kas_rev p 0 m) m:=by
    intro i j a b;rw[j0 (by rw[h.size];exact f3),j0 (by rw[h.size];exact f3),Ph (by omega),Ph b]
    exact f4 _ _ (by omega) (by omega)
   obtain⟨k',a1,a2,a3,a4,_⟩:=yv O (vG h 0 m) (n-m) m (by omega) (by omega) hu
   exact⟨k',kas_rev p 0 m,by rw[Xd a1];rfl,by omega,a3,vG h 0 m,a4⟩
theorem UR (O:Ord n lt) {p:Array Nat}(h:Pm n p) {k:Nat}(hk:k<n) (u:Up lt p k):∀(f l r:Nat),l<=r->r<=k->r-l<=f->(∀i,i<l->lt (g p i) (g p k)=true)->(∀i,r<=i->i<k->lt (g p k) (g p i)=true)->
  ∃m,evT n lt (kas_place p k f l r)=some m/\m<=k/\(∀i,i<m->lt (g p i) (g p k)=true)/\∀i,m<=i->i<k->lt (g p k) (g p i)=true
 |0,l,r,h1,h2,h3,a,b=>⟨l,rfl,by omega,a,λi z=>b i (by omega)⟩
 |f+1,l,r,h1,h2,h3,a,b=>by
  unfold kas_place;by_cases c:l>=r
  ·rw[Ph c];exact⟨l,rfl,by omega,a,λi z=>b i (by omega)⟩
  ·rw[Pi c]
   rw[Wa ⟨h.lt hk,h.lt (by omega)⟩]
   cases q:lt (g p k) (g p ((l+r) / 2)) with
   |true=>
    rw[Ph rfl];refine UR O h hk u f l ((l+r) / 2) (by omega) (by omega) (by omega) a λi z1 z2=>?_
    by_cases y:i=(l+r) / 2
    ·rw[y];exact q
    ·exact O.tr _ _ _ (h.lt hk) (h.lt (by omega)) (h.lt (by omega)) q (u _ _ (by omega) z2)
   |false=>
    rw[Pi (by simp)]
    have q':lt (g p ((l+r) / 2)) (g p k)=true:=O.tot _ _ (h.lt hk) (h.lt (by omega)) (λe=>by have:=h.inj hk (by omega) e;omega) q
    refine UR O h hk u f ((l+r) / 2+1) r (by omega) h2 (by omega) (λi z=>?_) b
    by_cases y:i=(l+r) / 2
    ·rw[y];exact q'
    ·exact O.tr _ _ _ (h.lt (by omega)) (h.lt (by omega)) (h.lt hk) (u _ _ (by omega) (by omega)) q'
theorem uO (O:Ord n lt):∀(f:Nat) {p:Array Nat}{k:Nat},Pm n p->1<=k->k+f=n->Up lt p k->∃p',evT n lt (kas_bin f p k)=some p'/\Pm n p'/\Up lt p' n
 |0,p,k,h,h1,e,u=>⟨p,rfl,h,by
  have:k=n:=by omega
  rw[<-this];exact u⟩
 |f+1,p,k,h,h1,e,u=>by
  obtain⟨l,e1,e2,e3,e4⟩:=UR O h (by omega) u k 0 k (by omega) (Pl _) (by omega) (λi z=>by omega) (λi a b=>by omega)
  unfold kas_bin;rw[Xd e1];refine uO O f (wg h k (k-l)) (by omega) (by omega) ?_
  have hs:k<p.size:=by rw[h.size];omega
  intro i j a b;rw[G5 hs (by omega),G5 hs (by omega)]
  have y:k-(k-l)=l:=by omega
  rw[y];by_cases ci:i=l
  ·rw[Ph ci,Pi (by omega),Ph (by omega)]
   exact e4 _ (by omega) (by omega)
  ·rw[Pi ci]
   by_cases cj:j=l
   ·rw[Ph cj,Pi (by omega)]
    exact e3 _ (by omega)
   ·rw[Pi cj]
    by_cases di:l<i/\i<=k
    ·rw[Ph di,Ph (by omega)]
     exact u _ _ (by omega) (by omega)
    ·rw[Pi di]
     by_cases dj:l<j/\j<=k
     ·rw[Ph dj];exact u _ _ (by omega) (by omega)
     ·rw[Pi dj];exact u _ _ (by omega) (by omega)
theorem xK (O:Ord n lt) (hn:1<=n):∃p,evT n lt (kas_sort n)=some p/\Pm n p/\Up lt p n:=by
 obtain⟨k,p,e1,e2,e3,e4,e5⟩:=uo O (p:=List.toArray (List.range n)) (Array.Perm.refl _) hn;unfold kas_sort;rw[Xd e1];by_cases c:k<n
 ·rw[Ph c]
  have:max k 1=k:=by omega
  rw[this];exact uO O (n-k) e4 e2 (by omega) e5
 ·rw[Pi c]
  have:k=n:=by omega
  exact⟨p,rfl,e4,by rw[<-this];exact e5⟩
end
end Sq
namespace Sq
open PySem PySem.W PyProof.Rows PySem.Calls
section
variable {prog:Program}{w:World}{A:Around}{E:Value->Shared->Prop}{s:Shared}
def Lat (h h':Heap):Prop:=∀b o,h.get? b=some o->h'.get? b=some o
structure Asks (prog:Program) (w:World) (A:Around) (h:Heap) (vs:List Value) (κ:SortKind) (lt:Nat->Nat->Bool):Prop where
 kind:2<=vs.length->∀(s':Shared) (E:Value->Shared->Prop) (Q:SortKind->Shared->Prop),Lat h s'.heap->Q κ s'->wpAny (model prog w) A (keyKind' vs.toArray) Q E s'
 cmp:∀i j,i<vs.length->j<vs.length->∀(s':Shared) (C:Bool->Shared->Prop) (E:Value->Shared->Prop),Lat h s'.heap->C (lt i j) s'->wpAny (model prog w) A (keyLt' κ (vs.getD i Value.none) (vs.getD j Value.none)) C E s'
noncomputable def ltR (b:Bool) (n:Nat) (lt:Nat->Nat->Bool):Nat->Nat->Bool:=λi j=>if b=true then lt (n-1-i) (n-1-j) else lt i j
theorem xi {b:Bool}{n:Nat}{lt:Nat->Nat->Bool}(O:Ord n lt):Ord n (ltR b n lt):=by
 cases b
 ·exact O
 ·exact⟨λi j hi hj ne h=>O.tot _ _ (by omega) (by omega) (by omega) h,λi j hi hj h=>O.asy _ _ (by omega) (by omega) h,λi j k hi hj hk h1 h2=>O.tr _ _ _ (by omega) (by omega) (by omega) h1 h2⟩
theorem WI {b:Bool}{vs:List Value}{i:Nat}(hi:i<vs.length):(katRev b vs).getD i Value.none=vs.getD (if b=true then vs.length-1-i else i) Value.none:=by
 cases b
 ·rfl
 ·show vs.reverse.getD i Value.none=vs.getD (vs.length-1-i) Value.none
  simp only[Pp];rw[List.getElem?_reverse hi]
theorem Qs (vs:List Value):(List.range vs.length).map (λi=>vs.getD i Value.none)=vs:=by
 apply List.ext_getElem?
 intro i;rw[PF];by_cases h:i<vs.length
 ·rw[NL h];simp[h]
 ·simp[Nat.le_of_not_lt h]
theorem list_sort_rev {a:Addr}{vs:List Value}{n:Nat}{b:Bool}{κ:SortKind}{lt:Nat->Nat->Bool}{P:PySem.Fin->Shared->Prop}{h0:Heap}(ho:s.heap.get? a=some (seqObj "list" vs.toArray n)) (h64:vs.length<64)
  (h00:∀b o,h0.get? b=some o->b≠a/\s.heap.get? b=some o) (O:Ord vs.length lt) (K:Asks prog w A h0 vs κ lt)
  (h:∀p,Pm vs.length p->Up (ltR b vs.length lt) p vs.length->P (.done (.ret .none)) { s with heap:=sortedHeap s.heap a vs (List.toArray (katRev b (p.toList.map λi=>(katRev b vs).getD i Value.none))) }) :
  wpAny (model prog w) A (Builtin.«list.sort» ⟨[.ref a],[(Str.ofString "reverse",.bool b)]⟩) P E s:=by
 rw[PyProof.Rows.list_sort_rev];have ha:a<s.heap.objs.size:=Pu ho;refine Pa (listItems_at ho rfl ?_);refine Pa (listUpdate_at ho rfl ?_);obtain⟨e1,ho1⟩:∃e1,(s.heap.update a (Obj.mapSeq λ_=>#[])).get? a=some (seqObj "list" #[] e1):=⟨_,get?_update_seq ho (λ_=>#[])⟩
 refine Pa (seqEpoch_at ho1 rfl ?_);refine Pa (wpAny_newTuple ?_);refine Pa (wpAny_newList ?_);refine Nf ?_;have ho6:(((s.heap.update a (Obj.mapSeq λ_=>#[])).push (seqObj "tuple" vs.toArray 0)).push (seqObj "list" #[] 0)).get? a=some (seqObj "list" #[] e1):=by
  rw[Nx _ _ _ (by rw[size_push',Heap.size_update];exact PQ (Nw ha)),Nx _ _ _ (by rw[Heap.size_update];exact PQ ha)]
  exact ho1
 have lat:Lat h0 (((s.heap.update a (Obj.mapSeq λ_=>#[])).push (seqObj "tuple" vs.toArray 0)).push (seqObj "list" #[] 0)):=λb o e=>by
  obtain⟨nb,e⟩:=h00 b o e;exact Pg _ (Pg _ (by rw[Heap.get?_update_ne _ _ _ _ nb];exact e))
 show wpAny (model prog w) A _ P E { s with heap:=((s.heap.update a (Obj.mapSeq λ_=>#[])).push (seqObj "tuple" vs.toArray 0)).push (seqObj "list" #[] 0) }
 generalize hs':((s.heap.update a (Obj.mapSeq λ_=>#[])).push (seqObj "tuple" vs.toArray 0)).push (seqObj "list" #[] 0)=h1 at ho6 lat ⊢
 dsimp only
 have step:∀t:Sem PySem.Fin,wpAny (model prog w) A t P E { s with heap:=h1 }->wpAny (model prog w) A (if b=true then (do let _ <-rule "list.sort.reverse";t) else t) P E { s with heap:=h1 }:=by
  intro t ht;split
  ·exact Pa (wpAny_rule ht)
  ·exact ht
 refine step _ ?_;have hrl:(katRev b vs).length=vs.length:=kat_len b vs;have fin:∀out:List Value,out.length=vs.length->(∃p,Pm vs.length p/\Up (ltR b vs.length lt) p vs.length/\out=p.toList.map λi=>(katRev b vs).getD i Value.none)->
   P (.done (.ret .none)) { s with heap:=h1.update a (Obj.mapSeq λ_=>List.toArray (katRev b out)) }:=by
  rintro out _ ⟨p,h1',h2',rfl⟩
  subst hs';exact h p h1' h2'
 by_cases h2:vs.toArray.size<2
 ·rw[Ph h2,Ph h2]
  refine Pa (Pj ?_);rw[StateT.run_pure];refine Pa (Pj ?_)
  dsimp only
  have hz:((arrOf (SortSt.mk' general' (if b=true then (vs.toArray.zip vs.toArray).reverse else vs.toArray.zip vs.toArray) #[] 7 none)).map (·.2))=List.toArray (katRev b vs):=by
   show ((if b=true then (vs.toArray.zip vs.toArray).reverse else vs.toArray.zip vs.toArray).map (·.2))=_
   rw[kat_pairs b rfl];apply Array.toList_inj.mp;rw[Array.toList_map,ksk_zip];show (List.zip (katRev b vs) (katRev b vs)).map Prod.snd=katRev b vs;exact List.map_snd_zip (Pl _)
  rw[hz];refine Pa (seqEpoch_at ho6 rfl ?_);rw[kat_outs];refine Pa (listUpdate_at ho6 rfl ?_ (hsz2:=by rw[Pf];(try rw[kat_len]);(try rw[kat_len]);rw[Nt];omega))
  simp only[bne_self_eq_false,P7,Np];refine Pj (fin (katRev b vs) (kat_len b vs) ⟨List.toArray (List.range vs.length),Array.Perm.refl _,λi j a1 a2=>by rw[Pf] at h2;omega,?_⟩)
  rw[<-hrl];exact (Qs _).symm
 ·rw[Pi h2,Pi h2]
  have l2:2<=vs.length:=by rw[Pf] at h2;omega
  refine Pa (K.kind l2 _ _ _ lat ?_);rw[kat_pairs b rfl];obtain⟨p,e1,e2,e3⟩:=xK (xi (b:=b) O) (by omega)
  refine Pa (Ni (kat_run (s:={ s with heap:=h1 }) (vs:=katRev b vs) (ks:=katRev b vs) (κ:=κ) (G:=λp' s'=>s'={ s with heap:=h1 }/\p'=p) (Q:=λst' s'=>s'={ s with heap:=h1 }/\failedOf st'=none/\(arrOf st').map (·.2)=List.toArray (p.toList.map λi=>(katRev b vs).getD i Value.none)) rfl (by rw[hrl];exact l2) (by rw[hrl];exact h64)
   (λp' st' s' a1 a2 a3 a4=>⟨a4.1,a3,by rw[kat_snds rfl a2,a4.2]⟩) (by
    rw[hrl];refine yd (n:=vs.length) (lt:=ltR b vs.length lt) (λi j hi hj C hC=>?_) e1 ⟨rfl,rfl⟩
    unfold kas_ask;rw[WI hi,WI hj];cases b
    ·exact K.cmp i j hi hj _ _ _ lat hC
    ·exact K.cmp _ _ (by simp only[NM];omega) (by simp only[NM];omega) _ _ _ lat hC)) ?_ λ_ _ x=>x)
  rintro ⟨⟨⟩,st'⟩ s' ⟨rfl,hf,har⟩
  dsimp only
  rw[har];have hl:(p.toList.map λi=>(katRev b vs).getD i Value.none).length=vs.length:=by rw[Pk,Nz,e2.size]
  refine Pa (seqEpoch_at ho6 rfl ?_);rw[kat_outs];refine Pa (listUpdate_at ho6 rfl ?_ (hsz2:=by rw[Pf];(try rw[kat_len]);rw[hl,Nt];omega))
  rw[hf];simp only[bne_self_eq_false,P7,Np];exact Pj (fin _ hl ⟨p,e2,e3,rfl⟩)
theorem zQ {l:Addr}{vs:List Value}{b:Bool}{κ:SortKind}{lt:Nat->Nat->Bool}{Q:Value->Shared->Prop}(hl:s.heap.IsList l vs.toArray) (h64:vs.length<64) (O:Ord vs.length lt) (K:Asks prog w A.in1.in1 s.heap vs κ lt)
  (h:∀p,Pm vs.length p->Up (ltR b vs.length lt) p vs.length->Q (.ref (s.heap.objs.size+1)) { s with heap:=sortedAll s.heap vs (List.toArray (katRev b (p.toList.map λi=>(katRev b vs).getD i Value.none))) }) :
  wpAny (model prog w) A (call (.builtin "sorted") [.ref l] [(Str.ofString "reverse",.bool b)]) Q E s:=by
 refine call_function_entry_kw kind_sorted plain_sorted entry_sorted (args_sorted_rev _ _) ?_;unfold Builtin.«sorted»;refine Pa (m:=checkCount "sorted" 1 1 _) (Pj ?_);refine Pa (collect_list hl ?_);refine Pa (wpAny_newList ?_);have hsz:((s.heap.push (seqObj "list" #[] 0)).update s.heap.objs.size (Obj.mapSeq (·++vs.toArray))).objs.size=s.heap.objs.size+1:=by
  rw[Heap.size_update,size_push']
 have hoL:(((s.heap.push (seqObj "list" #[] 0)).update s.heap.objs.size (Obj.mapSeq (·++vs.toArray))).push (seqObj "list" vs.toArray 0)).get? (s.heap.objs.size+1)=some (seqObj "list" vs.toArray 0):=by
  rw[<-hsz];exact Px _ rfl
 show wpAny _ _ _ _ _ { s with heap:=((s.heap.push (seqObj "list" #[] 0)).update s.heap.objs.size (Obj.mapSeq (·++vs.toArray))).push (seqObj "list" vs.toArray 0) }
 rw[hsz];refine Pa (Nf (wpAny_call_entry_kw slot_list_sort ⟨_,hoL,rfl⟩ entry_list_sort (list_sort_rev (h0:=s.heap) hoL h64 (λb o e=>?_) O K  λp a1 a2=>⟨_,rfl,?_⟩) (args_list_sort_rev _ _)))
 ·have hlt:b<s.heap.objs.size:=Pu e
  refine⟨PQ (Nw hlt),?_⟩;rw[Nx _ _ _ (by rw[hsz];exact PQ (Nw hlt)),Heap.get?_update_ne _ _ _ _ (PQ hlt),Nx _ _ _ (PQ hlt)]
  exact e
 ·exact Pj ⟨_,rfl,h p a1 a2⟩
theorem list_sort_plain {a:Addr}{vs:List Value}{n:Nat}{κ:SortKind}{lt:Nat->Nat->Bool}{P:PySem.Fin->Shared->Prop}{h0:Heap}(ho:s.heap.get? a=some (seqObj "list" vs.toArray n)) (h64:vs.length<64)
  (h00:∀b o,h0.get? b=some o->b≠a/\s.heap.get? b=some o) (O:Ord vs.length lt) (K:Asks prog w A h0 vs κ lt)
  (h:∀p,Pm vs.length p->Up (ltR false vs.length lt) p vs.length->P (.done (.ret .none)) { s with heap:=sortedHeap s.heap a vs (List.toArray (katRev false (p.toList.map λi=>(katRev false vs).getD i Value.none))) }) :
  wpAny (model prog w) A (Builtin.«list.sort» ⟨[.ref a],[]⟩) P E s:=by
 rw[PyProof.Rows.list_sort_plain];have ha:a<s.heap.objs.size:=Pu ho;refine Pa (listItems_at ho rfl ?_);refine Pa (listUpdate_at ho rfl ?_);obtain⟨e1,ho1⟩:∃e1,(s.heap.update a (Obj.mapSeq λ_=>#[])).get? a=some (seqObj "list" #[] e1):=⟨_,get?_update_seq ho (λ_=>#[])⟩
 refine Pa (seqEpoch_at ho1 rfl ?_);refine Pa (wpAny_newTuple ?_);refine Pa (wpAny_newList ?_);refine Nf ?_;have ho6:(((s.heap.update a (Obj.mapSeq λ_=>#[])).push (seqObj "tuple" vs.toArray 0)).push (seqObj "list" #[] 0)).get? a=some (seqObj "list" #[] e1):=by
  rw[Nx _ _ _ (by rw[size_push',Heap.size_update];exact PQ (Nw ha)),Nx _ _ _ (by rw[Heap.size_update];exact PQ ha)]
  exact ho1
 have lat:Lat h0 (((s.heap.update a (Obj.mapSeq λ_=>#[])).push (seqObj "tuple" vs.toArray 0)).push (seqObj "list" #[] 0)):=λb o e=>by
  obtain⟨nb,e⟩:=h00 b o e;exact Pg _ (Pg _ (by rw[Heap.get?_update_ne _ _ _ _ nb];exact e))
 show wpAny (model prog w) A _ P E { s with heap:=((s.heap.update a (Obj.mapSeq λ_=>#[])).push (seqObj "tuple" vs.toArray 0)).push (seqObj "list" #[] 0) }
 generalize hs':((s.heap.update a (Obj.mapSeq λ_=>#[])).push (seqObj "tuple" vs.toArray 0)).push (seqObj "list" #[] 0)=h1 at ho6 lat ⊢
 dsimp only
 have hrl:(katRev false vs).length=vs.length:=kat_len false vs;have fin:∀out:List Value,out.length=vs.length->(∃p,Pm vs.length p/\Up (ltR false vs.length lt) p vs.length/\out=p.toList.map λi=>(katRev false vs).getD i Value.none)->
   P (.done (.ret .none)) { s with heap:=h1.update a (Obj.mapSeq λ_=>List.toArray (katRev false out)) }:=by
  rintro out _ ⟨p,h1',h2',rfl⟩
  subst hs';exact h p h1' h2'
 by_cases h2:vs.toArray.size<2
 ·rw[Ph h2,Ph h2]
  refine Pa (Pj ?_);rw[StateT.run_pure];refine Pa (Pj ?_)
  dsimp only
  have hz:((arrOf (SortSt.mk' general' (vs.toArray.zip vs.toArray) #[] 7 none)).map (·.2))=List.toArray (katRev false vs):=by
   show ((vs.toArray.zip vs.toArray).map (·.2))=_
   rw[show vs.toArray.zip vs.toArray=(List.toArray (katRev false vs)).zip (List.toArray (katRev false vs)) from rfl]
   apply Array.toList_inj.mp;rw[Array.toList_map,ksk_zip];show (List.zip (katRev false vs) (katRev false vs)).map Prod.snd=katRev false vs;exact List.map_snd_zip (Pl _)
  rw[hz];refine Pa (seqEpoch_at ho6 rfl ?_);rw[show List.toArray (katRev false vs)=List.toArray (katRev false (katRev false vs)) from rfl]
  refine Pa (listUpdate_at ho6 rfl ?_ (hsz2:=by rw[Pf];(try rw[kat_len]);(try rw[kat_len]);rw[Nt];omega))
  simp only[bne_self_eq_false,P7,Np];refine Pj (fin (katRev false vs) (kat_len false vs) ⟨List.toArray (List.range vs.length),Array.Perm.refl _,λi j a1 a2=>by rw[Pf] at h2;omega,?_⟩)
  rw[<-hrl];exact (Qs _).symm
 ·rw[Pi h2,Pi h2]
  have l2:2<=vs.length:=by rw[Pf] at h2;omega
  refine Pa (K.kind l2 _ _ _ lat ?_);rw[show vs.toArray.zip vs.toArray=(List.toArray (katRev false vs)).zip (List.toArray (katRev false vs)) from rfl]
  obtain⟨p,e1,e2,e3⟩:=xK (xi (b:=false) O) (by omega)
  refine Pa (Ni (kat_run (s:={ s with heap:=h1 }) (vs:=katRev false vs) (ks:=katRev false vs) (κ:=κ) (G:=λp' s'=>s'={ s with heap:=h1 }/\p'=p) (Q:=λst' s'=>s'={ s with heap:=h1 }/\failedOf st'=none/\(arrOf st').map (·.2)=List.toArray (p.toList.map λi=>(katRev false vs).getD i Value.none)) rfl (by rw[hrl];exact l2) (by rw[hrl];exact h64)
   (λp' st' s' a1 a2 a3 a4=>⟨a4.1,a3,by rw[kat_snds rfl a2,a4.2]⟩) (by
    rw[hrl];refine yd (n:=vs.length) (lt:=ltR false vs.length lt) (λi j hi hj C hC=>?_) e1 ⟨rfl,rfl⟩
    unfold kas_ask;rw[WI hi,WI hj];exact K.cmp i j hi hj _ _ _ lat hC)) ?_ λ_ _ x=>x)
  rintro ⟨⟨⟩,st'⟩ s' ⟨rfl,hf,har⟩
  dsimp only
  rw[har];have hl:(p.toList.map λi=>(katRev false vs).getD i Value.none).length=vs.length:=by rw[Pk,Nz,e2.size]
  refine Pa (seqEpoch_at ho6 rfl ?_);rw[show List.toArray (p.toList.map λi=>(katRev false vs).getD i Value.none)=List.toArray (katRev false (p.toList.map λi=>(katRev false vs).getD i Value.none)) from rfl]
  refine Pa (listUpdate_at ho6 rfl ?_ (hsz2:=by rw[Pf];(try rw[kat_len]);rw[hl,Nt];omega))
  rw[hf];simp only[bne_self_eq_false,P7,Np];exact Pj (fin _ hl ⟨p,e2,e3,rfl⟩)
theorem WU {l:Addr}{vs:List Value}{κ:SortKind}{lt:Nat->Nat->Bool}{Q:Value->Shared->Prop}(hl:s.heap.IsList l vs.toArray) (h64:vs.length<64) (O:Ord vs.length lt) (K:Asks prog w A.in1.in1 s.heap vs κ lt)
  (h:∀p,Pm vs.length p->Up (ltR false vs.length lt) p vs.length->Q (.ref (s.heap.objs.size+1)) { s with heap:=sortedAll s.heap vs (List.toArray (katRev false (p.toList.map λi=>(katRev false vs).getD i Value.none))) }) :
  wpAny (model prog w) A (call (.builtin "sorted") [.ref l]) Q E s:=by
 refine Calls.call_function_entry kind_sorted plain_sorted entry_sorted (args_sorted1 _) ?_;unfold Builtin.«sorted»;refine Pa (m:=checkCount "sorted" 1 1 _) (Pj ?_);refine Pa (collect_list hl ?_);refine Pa (wpAny_newList ?_);have hsz:((s.heap.push (seqObj "list" #[] 0)).update s.heap.objs.size (Obj.mapSeq (·++vs.toArray))).objs.size=s.heap.objs.size+1:=by
  rw[Heap.size_update,size_push']
 have hoL:(((s.heap.push (seqObj "list" #[] 0)).update s.heap.objs.size (Obj.mapSeq (·++vs.toArray))).push (seqObj "list" vs.toArray 0)).get? (s.heap.objs.size+1)=some (seqObj "list" vs.toArray 0):=by
  rw[<-hsz];exact Px _ rfl
 show wpAny _ _ _ _ _ { s with heap:=((s.heap.push (seqObj "list" #[] 0)).update s.heap.objs.size (Obj.mapSeq (·++vs.toArray))).push (seqObj "list" vs.toArray 0) }
 rw[hsz];refine Pa (Nf (NF slot_list_sort ⟨_,hoL,rfl⟩ entry_list_sort (list_sort_plain (h0:=s.heap) hoL h64 (λb o e=>?_) O K λp a1 a2=>⟨_,rfl,?_⟩) (args_list_sort _)))
 ·have hlt:b<s.heap.objs.size:=Pu e
  refine⟨PQ (Nw hlt),?_⟩;rw[Nx _ _ _ (by rw[hsz];exact PQ (Nw hlt)),Heap.get?_update_ne _ _ _ _ (PQ hlt),Nx _ _ _ (PQ hlt)]
  exact e
 ·exact Pj ⟨_,rfl,h p a1 a2⟩
end
end Sq
namespace Sd
open PySem PySem.Spec PyProof.Rows L2
open Ev (D Ob Store Lc R E Sm Calls Walk Fl Fn Bop Cop Ty Bf Mf ev evs evo evt evw tst run runs)
section
variable {X:Cx}{pins:List (Addr×Obj)}{σ:L2.St}{H:Hp}{s:Shared}{A:Around}{E:Value->Shared->Prop}{b:Bool}{Q:Value->Shared->Prop}
theorem zz {x:V}{u t:Value}{tp:Addr}{dd:Option Addr}{its:List Value}{n:Nat}{sl:Array (Option Value)}(I:Inv X pins σ H s) (rx:ZD x u) (ty:TyOf X.K H x t) (htp:s.heap.get? tp=some ⟨.type "tuple",dd,.seq its.toArray n,sl⟩)
  (e:PySem.W.kitAny X.K t its=some b) (h:∀tk,Q (.bool b) { s with toks:=tk }):wpAny (model X.prog X.w) A (call (.builtin "isinstance") [u,.ref tp]) Q E s:=by
 cases ty with
 |non=>cases (show u=Value.none from rx);exact Nl PySem.W.kitx_none I.kIn True.intro htp e (λz=>nomatch z) h
 |bl y=>cases (show u=Value.bool y from rx);exact Nl PySem.W.kitx_bool I.kIn True.intro htp e (λz=>nomatch z) h
 |int i=>obtain⟨t,q⟩:=(show ∃t,u=Value.int i t from rx);cases q;exact Nl PySem.W.kitx_int I.kIn True.intro htp e (λz=>nomatch z) h
 |str y=>obtain⟨t,q⟩:=(show ∃t,u=Value.str y t from rx);cases q;exact Nl PySem.W.kitx_str I.kIn True.intro htp e (λz=>nomatch z) h
 |flt y=>obtain⟨t,q⟩:=(show ∃t,u=Value.float y t from rx);cases q;exact Nl PySem.W.kitx_float I.kIn True.intro htp e (λz=>nomatch z) h
 |@lst a xs ea=>
  cases (show u=Value.ref a from rx);obtain⟨_,_,n,_,h1⟩:=(show ZR X.prog X.w H s.heap a (.lst xs) from I.hok a _ ea)
  exact Nl PySem.W.kitx_list I.kIn ⟨_,h1,rfl⟩ htp e (λz=>nomatch z) h
 |@frz a ob xs ea=>
  cases (show u=Value.ref a from rx);obtain⟨_,_,_,n,_,h1⟩:=(show ZR X.prog X.w H s.heap a (.frz ob (.lst xs)) from I.hok a _ ea)
  exact Nl PySem.W.kitx_list I.kIn ⟨_,h1,rfl⟩ htp e (λz=>nomatch z) h
 |@tup a xs ea=>
  cases (show u=Value.ref a from rx);obtain⟨_,_,_,p⟩:=(show ZR X.prog X.w H s.heap a (.tup xs) from I.hok a _ ea)
  obtain⟨o,h1,h2,_⟩:=p;exact Nl PySem.W.kitx_tuple I.kIn ⟨o,h1,h2⟩ htp e (λz=>nomatch z) h
 |@dK a kvs ea=>
  cases (show u=Value.ref a from rx);obtain⟨_,_,vs,_,p⟩:=(show ZR X.prog X.w H s.heap a (.dK kvs) from I.hok a _ ea)
  obtain⟨o,es,ep,h1,h2,_⟩:=p;exact Nl PySem.W.kitx_dict I.kIn ⟨o,h1,h2.1⟩ htp e (λz=>nomatch z) h
 |@dT a kvs ea=>
  cases (show u=Value.ref a from rx);obtain⟨_,_,xs,_,o,es,ep,h1,h2,_⟩:=(show ZR X.prog X.w H s.heap a (.dT kvs) from I.hok a _ ea)
  exact Nl PySem.W.kitx_dict I.kIn ⟨o,h1,h2.1⟩ htp e (λz=>nomatch z) h
 |@ins a C dx fs ea cl ha hn htk hm=>
  cases (show u=Value.ref a from rx);obtain⟨mA,O,_⟩:=xj I.hok ea
  obtain⟨od,J,_⟩:=O.look;exact Nl (PySem.W.kitx_own (cl.get _) cl.hd ha hn htk hm) I.kIn J htp e (λz=>nomatch z) h
end
section
variable {X:Cx}{xw:Nat->Hp->Prop}{C:Calls}{e a b c:Expr}{i j k:E}{pos p p' p2 p3:Pos}
theorem we (T U:String):ZJ X (.builtin "isinstance") (λvs H Q=>∃v tv n q,vs=[v,.ref q]/\H q=some (.tup [.ty T,.ty U])/\TyOf X.K H v tv/\PySem.W.kitAny X.K tv [.type T,.type U]=some n/\Q (.bl n) H):=by
 intro pins s σ H vs us Q I r h;obtain⟨v,tv,n,q,rfl,hq,ty,e,qq⟩:=h;obtain⟨u,w',rfl,r1,r2⟩:=vals2 r;cases r2;obtain⟨its,rv,⟨o,ho,hc,m,hd⟩,_⟩:=I.tuple (SqT.of hq);obtain⟨cls,dd,data,sl⟩:=o;simp only at hc hd;subst hc hd;obtain⟨z1,z2,rfl,q1,q2⟩:=vals2 rv;cases q1;cases q2;exact zz I r1 ty ho e λtk=>⟨.bl n,H,I.tok tk,rfl,qq⟩
theorem TyOf.later {K:PySem.W.Frag}{H:Hp}{v:V}{tv:Value}{q:Addr}{o:HO}(h:TyOf K H v tv) (hq:H q=none):TyOf K (upd H q o) v tv:=by
 cases h with
 |non=>exact .non
 |bl b=>exact .bl b
 |int b=>exact .int b
 |str b=>exact .str b
 |flt b=>exact .flt b
 |lst e=>exact .lst (by rw[ZE (ZA e hq)];exact e)
 |frz e=>exact .frz (by rw[ZE (ZA e hq)];exact e)
 |tup e=>exact .tup (by rw[ZE (ZA e hq)];exact e)
 |dK e=>exact .dK (by rw[ZE (ZA e hq)];exact e)
 |dT e=>exact .dT (by rw[ZE (ZA e hq)];exact e)
 |ins e a1 a2 a3 a4 a5=>exact .ins (by rw[ZE (ZA e hq)];exact e) a1 a2 a3 a4 a5
theorem TyOf.uniq {K:PySem.W.Frag}{H:Hp}{v:V}{t1 t2:Value}(h1:TyOf K H v t1) (h2:TyOf K H v t2):t1=t2:=by
 cases h1 <;> cases h2 <;> first | rfl | simp_all
theorem Jl {T U:Str}{t u:Ty}{k0:Nat}{p4:Pos}(ht:∀m,t≠.cls m) (hu:∀m,u≠.cls m) (hm:X.mg "isinstance" = none) (hmT:X.mg T=none) (hmU:X.mg U=none) (ha:CE X xw C a i) (hg:Gl X "isinstance":=by rfl) (hgT:Gl X T:=by rfl) (hgU:Gl X U:=by rfl) (hvT:bootBuiltins T=some (.type (ZH t)):=by rfl) (hvU:bootBuiltins U=some (.type (ZH u)):=by rfl) (hnT:T≠"__name__":=by decide) (hdT:(T == ("__debug__" : Str))=false:=by decide) (hnU:U≠"__name__":=by decide) (hdU:(U == ("__debug__" : Str))=false:=by decide)
  (hs0:starEach [.Name T p2,.Name U p3] X.env=(false,eval (.Name T p2) X.env)::starEach [.Name U p3] X.env:=by rfl) (hs00:starEach [.Name U p3] X.env=(false,eval (.Name U p3) X.env)::starEach [] X.env:=by rfl)
  (hs1:starEach [a,.Tuple [.Name T p2,.Name U p3] k0 p4] X.env=(false,eval a X.env)::starEach [.Tuple [.Name T p2,.Name U p3] k0 p4] X.env:=by rfl) (hs2:starEach [.Tuple [.Name T p2,.Name U p3] k0 p4] X.env=(false,eval (.Tuple [.Name T p2,.Name U p3] k0 p4) X.env)::starEach [] X.env:=by rfl) (hpl:(backTo pos (starEach [.Tuple [.Name T p2,.Name U p3] k0 p4] X.env)).any (·.1)=false:=by rfl) :
  CE X xw C (.Call (.Name "isinstance" p) [a,.Tuple [.Name T p2,.Name U p3] k0 p4] [] pos) (.isi i [t,u]):=
 PE.imp (UX (we (ZH t) (ZH u)) hg hm (by rfl) (Xs ha (Xs (w6 (Xs (Jk (v:=.ty (ZH t)) hgT hmT hvT rfl hnT hdT) (Xs (Jk (v:=.ty (ZH u)) hgU hmU hvU rfl hnU hdU) JV hs00) hs0)) JV hs2) hs1) (by decide) (by decide) hs1 hpl) λσ H Q ⟨ρ,l,S,st,lr,h⟩=>by
  refine⟨ρ,l,S,st,lr,End.bind (show End X.K xw Rep ρ H Q ((ev C i l S).bind _) from h) λx S1 ρ1 H1 v f1 st1 r1 h1=>⟨by show 2<=sizeLine;rw[Nt];omega,λq hq=>?_⟩⟩
  obtain⟨n,hn,h2⟩:=End.ob h1;have st2:=st1.fresh (o:=.tup [.ty (ZH t),.ty (ZH u)]) hq;have f2:=Z9 (ρ:=ρ1) (o:=.tup [.ty (ZH t),.ty (ZH u)]) hq;have fin:∀tv,TyOf X.K H1 v tv->PySem.W.kitAny X.K tv [.type (ZH t),.type (ZH u)]=some n->_:=λtv ty e=>(⟨v,tv,n,q,rfl,Ye,TyOf.later ty hq,e,h2 ρ1 _ _ f2 st2 (Zq n)⟩:∃v' tv n q',[v,V.ref q]=[v',.ref q']/\upd H1 q (.tup [.ty (ZH t),.ty (ZH u)]) q'=some (.tup [.ty (ZH t),.ty (ZH u)])/\TyOf X.K (upd H1 q (.tup [.ty (ZH t),.ty (ZH u)])) v' tv/\PySem.W.kitAny X.K tv [.type (ZH t),.type (ZH u)]=some n/\Q (.bl n) (upd H1 q (.tup [.ty (ZH t),.ty (ZH u)])))
  unfold Ev.UJ at hn;cases q1:Ev.Ga S1 x t with
  |none=>rw[q1] at hn;cases hn
  |some m=>
   rw[q1] at hn;obtain⟨tv,ty,e⟩:=yt st1 r1 ht q1;cases m with
   |true=>
    have hn':n=true:=(Pb hn).symm;exact fin tv ty (by unfold PySem.W.kitAny;rw[e,hn'])
   |false=>
    have hn1:(match Ev.Ga S1 x u with
     |some true=>some true
     |some false=>Ev.UJ S1 x []
     |none=>none)=some n:=hn
    cases q2:Ev.Ga S1 x u with
    |none=>rw[q2] at hn1;cases hn1
    |some m2=>
     rw[q2] at hn1;obtain⟨tv2,ty2,e2⟩:=yt st1 r1 hu q2;have et:tv2=tv:=TyOf.uniq ty2 ty;subst et;refine fin tv2 ty ?_;unfold PySem.W.kitAny;rw[e];show PySem.W.kitAny X.K tv2 [.type (ZH u)]=some n;unfold PySem.W.kitAny;rw[e2];cases m2 with
     |true=>exact hn1
     |false=>exact hn1
end
end Sd
namespace Sd
open Ev (ltI XU ZG)
theorem VW:∀{x y:List Int},x≠y->ltI x y=false->ltI y x=true
 |[],[],h,_=>absurd rfl h
 |[],_::_,_,h=>by cases h
 |_::_,[],_,_=>rfl
 |a::x,b::y,h,e=>by
  unfold ltI at e ⊢;by_cases c:a=b
  ·subst c
   rw[Ph rfl] at e ⊢;exact VW (λz=>h (by rw[z])) e
  ·rw[Pi c] at e
   rw[Pi (Ne.symm c)];have:=of_decide_eq_false e;exact PD (by omega)
theorem X2:∀{x y:List Int},ltI x y=true->ltI y x=false
 |[],[],h=>by cases h
 |[],_::_,_=>rfl
 |_::_,[],h=>by cases h
 |a::x,b::y,e=>by
  unfold ltI at e ⊢;by_cases c:a=b
  ·subst c
   rw[Ph rfl] at e ⊢;exact X2 e
  ·rw[Pi c] at e
   rw[Pi (Ne.symm c)];have:=Pw e;exact P1 (by omega)
theorem Jy:∀{x y z:List Int},ltI x y=true->ltI y z=true->ltI x z=true
 |[],[],_,h,_=>by cases h
 |_::_,[],_,h,_=>by cases h
 |_,_::_,[],_,h=>by cases h
 |[],_::_,_::_,_,_=>rfl
 |a::x,b::y,c::z,e,f=>by
  unfold ltI at e f ⊢;by_cases h1:a=b
  ·subst h1
   rw[Ph rfl] at e;by_cases h2:a=c
   ·subst h2
    rw[Ph rfl] at f ⊢;exact Jy e f
   ·rw[Pi h2] at f ⊢;exact f
  ·rw[Pi h1] at e
   have e':=Pw e;by_cases h2:b=c
   ·subst h2
    rw[Pi h1];exact e
   ·rw[Pi h2] at f
    have f':=Pw f;rw[Pi (by omega)]
    exact PD (by omega)
theorem Vy (x:List Int):∀l:List (List Int),(XU x l).Perm (x::l)
 |[]=>Nq _
 |y::r=>by
  unfold XU;split
  ·exact Nq _
  ·exact ((Vy x r).cons y).trans (List.Perm.swap x y r)
theorem YO:∀l:List (List Int),(ZG l).Perm l
 |[]=>Nq _
 |x::r=>(Vy x (ZG r)).trans ((YO r).cons x)
theorem VM (x:List Int):∀{l:List (List Int)},(∀y∈l,x≠y)->l.Pairwise (λa b=>ltI a b=true)->(XU x l).Pairwise (λa b=>ltI a b=true)
 |[],_,_=>by unfold XU;exact List.pairwise_singleton ..
 |y::r,hn,h=>by
  rw[PK] at h;unfold XU;split
  ·rename_i c
   rw[PK,PK];refine⟨λz hz=>?_,h⟩
   rcases Po.mp hz with rfl | hz
   ·exact c
   ·exact Jy c (h.1 z hz)
  ·rename_i c
   rw[PK];refine⟨λz hz=>?_,VM x (λy hy=>hn y (Pd _ hy)) h.2⟩
   rcases Po.mp ((Vy x r).mem_iff.mp hz) with rfl | hz
   ·exact VW (hn y (Pe ..)) (by simpa using c)
   ·exact h.1 z hz
theorem Xt:∀{l:List (List Int)},l.Nodup->(ZG l).Pairwise (λa b=>ltI a b=true)
 |[],_=>List.Pairwise.nil
 |x::r,h=>by
  rw[List.nodup_cons] at h;exact VM x (λy hy e=>h.1 (by rw[e];exact (YO r).mem_iff.mp hy)) (Xt h.2)
theorem XY:∀{a b:List (List Int)},a.Perm b->a.Pairwise (λx y=>ltI x y=true)->b.Pairwise (λx y=>ltI x y=true)->a=b
 |[],b,p,_,_=>(List.Perm.nil_eq p)
 |x::a,[],p,_,_=>by have:=p.length_eq;simp at this
 |x::a,y::b,p,ha,hb=>by
  rw[PK] at ha hb;have e:x=y:=by
   rcases Po.mp (p.mem_iff.mp (Pe ..)) with h | h
   ·exact h
   ·rcases Po.mp (p.mem_iff.mpr (Pe (a:=y) (l:=b))) with h2 | h2
    ·exact h2.symm
    ·have z1:=hb.1 x h
     have z2:=ha.1 y h2;rw[X2 z1] at z2;cases z2
  subst e;rw[XY (List.perm_cons x |>.mp p) ha.2 hb.2]
end Sd
namespace Sd
open PySem PySem.Spec PyProof.Rows L2
open Ev (D Ob Store Lc R E Sm Calls Walk Fl Fn Bop Cop Ty Bf Mf ev evs evo evt evw tst run runs ltI XU ZG Z0 Uk XX ZZ)
noncomputable def VV (fin:Bool):List Int->List Int->Bool
 |[],_=>fin
 |_::_,[]=>fin
 |a::x,b::y=>if a=b then VV fin x y else decide (a<b)
theorem Jp:∀(x y:List Int),VV (decide (x.length<y.length)) x y=ltI x y
 |[],[]=>rfl
 |[],_::_=>by unfold VV ltI;simp
 |_::_,[]=>by unfold VV ltI;simp
 |a::x,b::y=>by
  unfold VV ltI;have:decide ((a::x).length<(b::y).length)=decide (x.length<y.length):=by simp
  rw[this,Jp x y]
section
variable {prog:Program}{w:World}{A:Around}{s:Shared}
theorem J6 {b fin:Bool}{C:Bool->Shared->Prop}:∀{x y:List Int}{u v:List Value}{i:Nat},Vals (x.map V.int) u->Vals (y.map V.int) v->C (VV fin x y) s->PySem.W.KatLex prog w A b fin C (u.zip v) i s
 |[],_,_,_,_,.nil,_,h=>by rw[List.zip_nil_left];exact PySem.W.kat_nil h
 |_::_,[],_,_,_,_,.nil,h=>by rw[List.zip_nil_right];exact PySem.W.kat_nil h
 |a::x,c::y,_,_,i,.cons ra ta,.cons rb tb,h=>by
  obtain⟨t,rfl⟩:=ra;obtain⟨t',rfl⟩:=rb;rw[Nr];refine PySem.W.kat_cons (wpAny_eqBool_int ?_);unfold VV at h;by_cases e:a=c
  ·rw[Ph e] at h
   rw[beq_iff_eq.mpr e];exact PySem.W.kat_yes (J6 ta tb h)
  ·rw[Pi e] at h
   rw[Ny.mpr e];refine PySem.W.kat_no ?_;cases q:(b&&i == 0) with
   |true=>exact oneLt_int h
   |false=>exact PySem.W.kat_one _ _ (lt_int h)
end
section
variable {X:Cx}{pins:List (Addr×Obj)}{σ:L2.St}{H:Hp}{s:Shared}{ρ:List Addr}
inductive RowsAt (h:Heap):List (List Int)->List Value->Prop where
 |nil:RowsAt h [] []
 |cons {r:List Int} {rs:List (List Int)} {vs:List Value} {a:Addr} {o:Obj} {us:List Value} {m:Nat} (ho:h.get? a=some o) (hc:o.cls=.type "tuple") (hd:o.data=.seq us.toArray m) (hv:Vals (r.map V.int) us) (t:RowsAt h rs vs):RowsAt h (r::rs) (.ref a::vs)
theorem Uo:∀{ks:List D}{k:List Int},Ev.YH ks=some k->ks=k.map D.int
 |[],k,h=>by cases h;rfl
 |.int n::ks,k,h=>by
  have h':(Ev.YH ks).map (n :: ·)=some k:=h
  cases q:Ev.YH ks with
  |none=>rw[q] at h';cases h'
  |some k'=>
   rw[q] at h';have e:n::k'=k:=Pb h';rw[<-e,Uo q];rfl
 |.non::_,_,h | .bl _::_,_,h | .str _::_,_,h | .tup _::_,_,h | .loc _::_,_,h | .fn _::_,_,h | .exc _ _::_,_,h=>by cases h
theorem wb {d:D}{r:List Int}(h:Uk d=some r):d=XX r:=by
 cases d with
 |tup ks=>exact congrArg D.tup (Uo h)
 |_=>cases h
theorem Reps.intsV:∀{r:List Int}{xs:List V},Reps ρ H (r.map D.int) xs->xs=r.map V.int
 |[],xs,h=>by unfold Reps at h;exact h
 |n::r,xs,h=>by
  have h':Reps ρ H (D.int n::r.map D.int) xs:=h;unfold Reps at h';obtain⟨v,vs,rfl,a,b⟩:=h';rw[a.int',Reps.intsV b];rfl
theorem JK (I:Inv X pins σ H s):∀{ds:List D}{rs:List (List Int)}{xs:List V}{its:List Value},Z0 ds=some rs->Reps ρ H ds xs->Vals xs its->RowsAt s.heap rs its/\ds=rs.map XX
 |[],rs,xs,its,h,r,v=>by
  unfold Reps at r;subst r;cases v;cases h;exact⟨.nil,rfl⟩
 |d::ds,rs,xs,its,h,r,v=>by
  unfold Reps at r;obtain⟨x,xs',rfl,r1,r2⟩:=r;cases v with
  |cons v1 v2=>
   unfold Z0 at h;cases q1:Uk d with
   |none=>rw[q1] at h;cases h
   |some a=>
    cases q2:Z0 ds with
    |none=>rw[q1,q2] at h;cases h
    |some b=>
     rw[q1,q2] at h;cases h;obtain⟨t,e⟩:=JK I q2 r2 v2;have ed:=wb q1;subst ed;obtain⟨p,ys,rfl,hp,ry⟩:=r1.tup';have ey:=Reps.intsV ry;subst ey;cases v1;obtain⟨us,rv,⟨o,ho,hc,m,hd⟩,_⟩:=I.tuple (SqT.of hp);exact⟨.cons ho hc hd rv t,by rw[e];rfl⟩
theorem RowsAt.length {h:Heap}:∀{rs:List (List Int)}{vs:List Value},RowsAt h rs vs->rs.length=vs.length
 |_,_,.nil=>rfl
 |_,_,.cons _ _ _ _ t=>by rw[PB,PB,RowsAt.length t]
theorem RowsAt.at {h:Heap}:∀{rs:List (List Int)}{vs:List Value}(i:Nat),RowsAt h rs vs->i<vs.length->∃a o us m,vs.getD i Value.none=.ref a/\h.get? a=some o/\o.data=.seq us.toArray m/\Vals ((rs.getD i []).map V.int) us
 |_,_,_,.nil,hi=>by simp at hi
 |_,_,0,.cons ho hc hd hv t,_=>⟨_,_,_,_,rfl,ho,hd,hv⟩
 |_,_,i+1,.cons ho hc hd hv t,hi=>by
  obtain⟨a,o,us,m,e1,e2,e3,e4⟩:=RowsAt.at i t (by simpa using hi)
  exact⟨a,o,us,m,by simpa using e1,e2,e3,by simpa using e4⟩
theorem RowsAt.tups {h h':Heap}(k:Sq.Lat h h'):∀{rs:List (List Int)}{vs:List Value},RowsAt h rs vs->(∀r∈rs,r≠[])->∃fs,PySem.W.KatTups h' vs fs/\fs.length=vs.length/\∀v∈fs,∃n t,v=Value.int n t
 |_,_,.nil,_=>⟨[],.nil,rfl,λv hv=>by cases hv⟩
 |_,_,.cons (r:=r) (us:=us) ho hc hd hv t,hn=>by
  obtain⟨fs,t1,t2,t3⟩:=RowsAt.tups k t λr hr=>hn r (Pd _ hr)
  have hr:=hn r (Pe ..);cases r with
  |nil=>exact absurd rfl hr
  |cons n r=>
   obtain⟨u,g,rel⟩:=hv.get (i:=0) (x:=V.int n) rfl;refine⟨u::fs,.cons (k _ _ ho) hc hd (by simpa using g) t1,by rw[PB,PB,t2],λv hv=>?_⟩
   rcases Po.mp hv with rfl | hv
   ·obtain⟨tk,e⟩:=rel
    exact⟨n,tk,e⟩
   ·exact t3 v hv
theorem wA {prog:Program}{w:World}{A:Around}{h:Heap}{rs:List (List Int)}{vs:List Value}(R:RowsAt h rs vs) (hn:∀r∈rs,r≠[]):Sq.Asks prog w A h vs (tuples' true) (λi j=>ltI (rs.getD i []) (rs.getD j [])):=by
 refine⟨λh2 s' E Q k q=>?_,λi j hi hj s' C E k q=>?_⟩
 ·obtain⟨fs,t1,t2,t3⟩:=R.tups k hn
  exact PySem.W.kat_kind (T:=.type "int") t1 (by omega) (λv hv=>by obtain⟨n,t,rfl⟩:=t3 v hv;exact PySem.W.Looks.of_pure rfl) rfl q
 ·obtain⟨a,o,us,m,e1,e2,e3,e4⟩:=R.at i hi
  obtain⟨a',o',us',m',f1,f2,f3,f4⟩:=R.at j hj;rw[e1,f1];refine PySem.W.kat_lt (k _ _ e2) e3 (k _ _ f2) f3 (J6 e4 f4 ?_);have l1:us.toArray.size=(rs.getD i []).length:=by rw[Pf,<-e4.length,Pk]
  have l2:us'.toArray.size=(rs.getD j []).length:=by rw[Pf,<-f4.length,Pk]
  rw[l1,l2,Jp];exact q
theorem um {rs:List (List Int)}{n:Nat}(hn:rs.Nodup) (hl:rs.length=n):Sq.Ord n (λi j=>ltI (rs.getD i []) (rs.getD j [])):=by
 have hd:∀i j,i<n->j<n->i≠j->rs.getD i []≠rs.getD j []:=λi j hi hj ne e=>by
  simp only[Pp] at e;have hi':i<rs.length:=by omega
  have hj':j<rs.length:=by omega
  refine ne ((List.getElem?_inj hi' hn).mp ?_);rw[Pc hi',Pc hj'] at e ⊢;exact congrArg some e
 exact⟨λi j hi hj ne e=>VW (hd i j hi hj ne) e,λi j _ _ e=>X2 e,λi j k _ _ _ e f=>Jy e f⟩
theorem Ux {α β:Type}(b:Bool) (f:α->β) (l:List α):PySem.W.katRev b (l.map f)=(PySem.W.katRev b l).map f:=by
 cases b
 ·rfl
 ·exact List.map_reverse.symm
theorem VD {α:Type}(b:Bool) (l:List α):(PySem.W.katRev b l).Perm l:=by
 cases b
 ·exact Nq _
 ·exact List.reverse_perm l
theorem YX {α:Type}{d:α}{b:Bool}{vs:List α}{i:Nat}(hi:i<vs.length):(PySem.W.katRev b vs).getD i d=vs.getD (if b=true then vs.length-1-i else i) d:=by
 cases b
 ·rfl
 ·show vs.reverse.getD i d=vs.getD (vs.length-1-i) d
  simp only[Pp];rw[List.getElem?_reverse hi]
theorem uI {rs:List (List Int)}{b:Bool}{p:Array Nat}(hn:rs.Nodup) (h1:Sq.Pm rs.length p) (h2:Sq.Up (Sq.ltR b rs.length λi j=>ltI (rs.getD i []) (rs.getD j [])) p rs.length) :
  (p.toList.map λi=>(PySem.W.katRev b rs).getD i [])=ZG rs:=by
 have hp:p.toList.Perm (List.range rs.length):=by simpa using Nj.mp h1
 have hl:p.toList.length=rs.length:=by rw[hp.length_eq,PY]
 refine XY ?_ ?_ (Xt hn)
 ·refine ((hp.map _).trans ?_).trans (YO rs).symm
  have e:(List.range rs.length).map (λi=>(PySem.W.katRev b rs).getD i [])=PySem.W.katRev b rs:=by
   apply List.ext_getElem?
   intro i;rw[PF];by_cases h:i<rs.length
   ·have:i<(PySem.W.katRev b rs).length:=by rw[NV];exact h
    rw[NL h];simp[this]
   ·have:(PySem.W.katRev b rs).length<=i:=by rw[NV];omega
    simp[Nat.le_of_not_lt h,this]
  rw[e];exact VD b rs
 ·rw[List.pairwise_map,List.pairwise_iff_getElem]
  intro i j hi hj hij;have g1:p.toList[i]=Sq.g p i:=by
   have:=Sq.yy (p:=p) (i:=i) (by simpa using hi)
   rw[<-No,Pc hi] at this;exact Pb this
  have g2:p.toList[j]=Sq.g p j:=by
   have:=Sq.yy (p:=p) (i:=j) (by simpa using hj)
   rw[<-No,Pc hj] at this;exact Pb this
  rw[g1,g2,YX (h1.lt (by omega)),YX (h1.lt (by omega))]
  have:=h2 i j hij (by omega)
  unfold Sq.ltR at this;cases b
  ·exact this
  ·exact this
theorem qg {F:List Nat}{xs:List V}{rs:List (List Int)}(h:Reps ρ H (rs.map XX) xs) (hF:∀i∈F,i<rs.length):Reps ρ H ((F.map λi=>rs.getD i []).map XX) (F.map λi=>xs.getD i V.non):=by
 induction F with
 |nil=>exact Reps.nil
 |cons i F ih=>
  refine Reps.cons ?_ (ih λj hj=>hF j (Pd _ hj))
  have hi:=hF i (Pe ..);obtain⟨v,g,r⟩:=h.get (i:=i) (d:=XX rs[i]) (by rw[PF,Pc hi];rfl)
  show Rep ρ H (XX (rs.getD i [])) (xs.getD i V.non);rw[Pp,Pp,g,Pc hi];exact r
theorem zk {F:List Nat}{xs:List V}{us:List Value}(h:Vals xs us) (hF:∀i∈F,i<xs.length):Vals (F.map λi=>xs.getD i V.non) (F.map λi=>us.getD i Value.none):=by
 induction F with
 |nil=>exact .nil
 |cons i F ih=>
  refine .cons ?_ (ih λj hj=>hF j (Pd _ hj))
  have hi:=hF i (Pe ..);obtain⟨u,g,r⟩:=h.get (Pc hi);show ZD (xs.getD i V.non) (us.getD i Value.none);rw[Pp,Pp,g,Pc hi];exact r
theorem Gj {b:Bool}{ds:List D}{xs:List V}(h:Reps ρ H ds xs):Reps ρ H (PySem.W.katRev b ds) (PySem.W.katRev b xs):=by
 cases b
 ·exact h
 ·exact h.reverse
theorem G6 {b:Bool}:∀{xs:List V}{us:List Value},Vals xs us->Vals (PySem.W.katRev b xs) (PySem.W.katRev b us):=by
 cases b
 ·exact λh=>h
 ·have snoc:∀{xs:List V} {us:List Value} {x:V} {u:Value},Vals xs us->ZD x u->Vals (xs++[x]) (us++[u]):=by
   intro xs us x u h r
   induction h with
   |nil=>exact .cons r .nil
   |cons a _ ih=>exact .cons a ih
  intro xs us h;show Vals xs.reverse us.reverse
  induction h with
  |nil=>exact .nil
  |cons r t ih=>rw[List.reverse_cons,List.reverse_cons];exact snoc ih r
end
section
variable {X:Cx}{xw:Nat->Hp->Prop}{C:Calls}{e a b c:Expr}{i j k:E}{pos p p' p2 p3:Pos}
noncomputable def vZ (K:PySem.W.Frag) (xw:Nat->Hp->Prop) (b:Bool):List V->Hp->VK->Prop:=λvs H Q=>∃ρ S n,St3 K ρ S H/\Reps ρ H [.loc n] vs/\End K xw Rep ρ H Q (Ev.sorted b n S)
theorem Qy {pins:List (Addr×Obj)}{s:Shared}{σ:L2.St}{H:Hp}{vs:List V}{us:List Value}{Q:VK}{b:Bool}(I:Inv X pins σ H s) (r:Vals vs us) (h:vZ X.K xw b vs H Q) :
  ∃(l:Addr) (its:List Value) (rs:List (List Int)),us=[.ref l]/\s.heap.IsList l its.toArray/\its.length<64/\rs.length=its.length/\Sq.Ord its.length (λi j=>ltI (rs.getD i []) (rs.getD j []))/\(∀A,Sq.Asks X.prog X.w A s.heap its (tuples' true) (λi j=>ltI (rs.getD i []) (rs.getD j [])))/\
   ∀p,Sq.Pm its.length p->Sq.Up (Sq.ltR b its.length λi j=>ltI (rs.getD i []) (rs.getD j [])) p its.length->
    EP X pins σ Q (.ref (s.heap.objs.size+1)) { s with heap:=sortedAll s.heap its (List.toArray (PySem.W.katRev b (p.toList.map λi=>(PySem.W.katRev b its).getD i Value.none))) }:=by
 obtain⟨ρ,S,n,st,rs,h⟩:=h;obtain⟨ds,hl,h1⟩:=End.ob (show End X.K xw Rep ρ H Q ((Ev.ob (Ev.Zi S n) S).bind λxs S=>(Ev.ob (Z0 xs) S).bind λrs S=>if ZZ rs=true then .ok (.loc S.length) (S++[.lst ((if b then (ZG rs).reverse else ZG rs).map XX)]) else .no) from h)
 obtain⟨rws,hrw,h2⟩:=End.ob h1;obtain⟨hok,h3⟩:=h2.guard;obtain⟨v,rfl,r1⟩:=reps1 rs;obtain⟨_,l,xs,q1,hx,rx⟩:=st.lst hl;obtain⟨l',rfl,t⟩:=r1.loc';rw[q1] at t;cases t;obtain⟨u,rfl,ru⟩:=vals1 r;cases ru;obtain⟨its,rv,pl,hz⟩:=I.list (SqL.of hx);obtain⟨RA,ed⟩:=JK I hrw rx rv;obtain⟨hok1,hok3⟩:=(Pz _ _).mp hok;obtain⟨hok1,hok2⟩:=(Pz _ _).mp hok1;have h64:=Pw hok1;have hnd:=Pw hok2;have hne:∀r∈rws,r≠[]:=λr hr e=>by
  have:=PP.mp hok3 r hr;rw[e] at this;cases this
 have hlen:=RA.length;refine⟨l,its,rws,rfl,pl.isList,by omega,hlen,um hnd hlen,λA=>wA RA hne,λp hp hu=>?_⟩
 rw[<-hlen] at hp hu;have out:=uI hnd hp hu;have hmem:∀i∈p.toList,i<rws.length:=λi hi=>by
  have hp':p.toList.Perm (List.range rws.length):=by simpa using Nj.mp hp
  exact PU.mp (hp'.mem_iff.mp hi)
 subst ed;have xl:xs.length=rws.length:=by rw[rx.length,Pk]
 have rx1:Reps ρ H ((PySem.W.katRev b rws).map XX) (PySem.W.katRev b xs):=by rw[<-Ux];exact Gj rx
 have rx2:=qg (F:=p.toList) rx1 (by rw[NV];exact hmem)
 rw[out] at rx2;have rx3:=Gj (b:=b) rx2;have rv2:=G6 (b:=b) (zk (F:=p.toList) (G6 (b:=b) rv) (by rw[NV,xl];exact hmem))
 have eb:(if b=true then (ZG rws).reverse else ZG rws)=PySem.W.katRev b (ZG rws):=rfl
 rw[eb,<-Ux] at h3;obtain⟨ep,he⟩:=sortedAll_at s.heap its (List.toArray (PySem.W.katRev b (p.toList.map λi=>(PySem.W.katRev b its).getD i Value.none)))
 refine⟨.ref (s.heap.objs.size+1),_,I.laid (t':=s.toks) (o:=.lst (PySem.W.katRev b (p.toList.map λi=>(PySem.W.katRev b xs).getD i V.non))) (λb ob q=>sortedAll_old q) (Nat.le_succ _) ?_,rfl,h3.newL st rx3 _ (I.hok.fresh (Nat.le_succ _))⟩
 refine⟨?_,_,ep,rv2,he⟩;rw[NV,Pk,Nz,hp.size,Nt];omega
theorem zi:ZJ X (.builtin "sorted") (vZ X.K xw false):=by
 intro pins s σ H vs us Q I r h;obtain⟨l,its,rs,rfl,h1,h2,h3,h4,h5,h6⟩:=Qy I r h;exact Sq.WU h1 h2 h4 (h5 _) λp a b=>h6 p a b
theorem xB (b:Bool):∀(as:List D) (S:Store),(∃n,as=[.loc n])\/Ev.bltin (if b then .sortedR else .sorted) as S=.no
 |[.loc n],_=>.inl ⟨n,rfl⟩
 |x::_::_,_=>.inr (by cases b <;> cases x <;> rfl)
 |[],_ | [.non],_ | [.str _],_ | [.bl _],_ | [.int _],_ | [.tup _],_ | [.fn _],_ | [.exc _ _],_=>.inr (by cases b <;> rfl)
theorem Ww {kp kp2:Pos}{q0}(hm:X.mg "sorted" = none) (ha:CA X xw C [e] [i]) (hg:Gl X "sorted":=by rfl)
  (he:backTo pos (starEach [e] X.env)=(false,eval e X.env)::backTo pos (starEach [] X.env):=by rfl) (hpl:(backTo pos (starEach [e] X.env)).any (·.1)=false:=by rfl) :
  CE X xw C (.Call (.Name "sorted" p) [e] [⟨some "reverse",.Constant (.bool true) q0 kp,kp2⟩] pos) (.blt .sortedR [i]):=by
 intro pins s σ H Q I hq;obtain⟨ρ,l,S,st,lr,h⟩:=hq;refine wpAny_Call_Name_kw (Y5 I hg hm (show bootBuiltins "sorted" = some (.builtin "sorted") from rfl) ?_ (by decide) (by decide))
 refine callWith_kw (thn (ha pos pins s σ H (λvs H1=>vZ X.K xw true vs H1 Q) I ?_) λus s1 ⟨vs,H1,I1,r1,q1⟩=>?_) he hpl rfl rfl
 ·refine⟨ρ,l,S,st,lr,End.bind (show End X.K xw Rep ρ H Q ((evs C [i] l S).bind λxs S=>Ev.bltin .sortedR xs S) from h) λxs S1 ρ1 H1 vs f1 st1 r1 h1=>?_⟩
  rcases xB true xs S1 with ⟨n,rfl⟩ | e
  ·exact⟨ρ1,S1,n,st1,r1,h1⟩
  ·exact (show End X.K xw Rep ρ1 H1 Q (.no:R D) from e▸h1).elim
 ·refine kws_cons (thn (j6 pins s1 σ H1 (λv H2=>v=.bl true/\H2=H1) I1 ⟨rfl,rfl⟩) λu s2 ⟨x,H2,I2,r2,e1,e2⟩=>kws_nil ?_)
  subst e1 e2;cases r2;obtain⟨l,its,rs,rfl,h1,h2,h3,h4,h5,h6⟩:=Qy I2 r1 q1;exact Sq.zQ (b:=true) h1 h2 h4 (h5 _) λp a b=>h6 p a b
end
end Sd
namespace Sd
open Ev (ltI ltP JM Yc)
structure StrictB {α:Type}(lt:α->α->Bool):Prop where
 tot:∀{x y},x≠y->lt x y=false->lt y x=true
 asy:∀{x y},lt x y=true->lt y x=false
 tr:∀{x y z},lt x y=true->lt y z=true->lt x z=true
theorem xT:∀{x y:List (List Int)},x≠y->ltP x y=false->ltP y x=true
 |[],[],h,_=>absurd rfl h
 |[],_::_,_,h=>by cases h
 |_::_,[],_,_=>rfl
 |a::x,b::y,h,e=>by
  unfold ltP at e ⊢;by_cases c:a=b
  ·subst c
   rw[Ph rfl] at e ⊢;exact xT (λz=>h (by rw[z])) e
  ·rw[Pi c] at e
   rw[Pi (Ne.symm c)];exact VW c e
theorem y4:∀{x y:List (List Int)},ltP x y=true->ltP y x=false
 |[],[],h=>by cases h
 |[],_::_,_=>rfl
 |_::_,[],h=>by cases h
 |a::x,b::y,e=>by
  unfold ltP at e ⊢;by_cases c:a=b
  ·subst c
   rw[Ph rfl] at e ⊢;exact y4 e
  ·rw[Pi c] at e
   rw[Pi (Ne.symm c)];exact X2 e
theorem uL:∀{x y z:List (List Int)},ltP x y=true->ltP y z=true->ltP x z=true
 |[],[],_,h,_=>by cases h
 |_::_,[],_,h,_=>by cases h
 |_,_::_,[],_,h=>by cases h
 |[],_::_,_::_,_,_=>rfl
 |a::x,b::y,c::z,e,f=>by
  unfold ltP at e f ⊢;by_cases h1:a=b
  ·subst h1
   rw[Ph rfl] at e;by_cases h2:a=c
   ·subst h2
    rw[Ph rfl] at f ⊢;exact uL e f
   ·rw[Pi h2] at f ⊢;exact f
  ·rw[Pi h1] at e
   by_cases h2:b=c
   ·subst h2
    rw[Pi h1];exact e
   ·rw[Pi h2] at f
    have g:=Jy e f;rw[Pi λz=>by subst z;rw[X2 e] at f;cases f]
    exact g
theorem U2:StrictB ltP:=⟨xT,y4,uL⟩
section
variable {α:Type}{lt:α->α->Bool}
theorem Ve (x:α):∀l:List α,(JM lt x l).Perm (x::l)
 |[]=>Nq _
 |y::r=>by
  unfold JM;split
  ·exact Nq _
  ·exact ((Ve x r).cons y).trans (List.Perm.swap x y r)
theorem Wu:∀l:List α,(Yc lt l).Perm l
 |[]=>Nq _
 |x::r=>(Ve x (Yc lt r)).trans ((Wu r).cons x)
theorem VF (O:StrictB lt) (x:α):∀{l:List α},(∀y∈l,x≠y)->l.Pairwise (λa b=>lt a b=true)->(JM lt x l).Pairwise (λa b=>lt a b=true)
 |[],_,_=>by unfold JM;exact List.pairwise_singleton ..
 |y::r,hn,h=>by
  rw[PK] at h;unfold JM;split
  ·rename_i c
   rw[PK,PK];refine⟨λz hz=>?_,h⟩
   rcases Po.mp hz with rfl | hz
   ·exact c
   ·exact O.tr c (h.1 z hz)
  ·rename_i c
   rw[PK];refine⟨λz hz=>?_,VF O x (λy hy=>hn y (Pd _ hy)) h.2⟩
   rcases Po.mp ((Ve x r).mem_iff.mp hz) with rfl | hz
   ·exact O.tot (hn y (Pe ..)) (by simpa using c)
   ·exact h.1 z hz
theorem WJ (O:StrictB lt):∀{l:List α},l.Nodup->(Yc lt l).Pairwise (λa b=>lt a b=true)
 |[],_=>List.Pairwise.nil
 |x::r,h=>by
  rw[List.nodup_cons] at h;exact VF O x (λy hy e=>h.1 (by rw[e];exact (Wu r).mem_iff.mp hy)) (WJ O h.2)
theorem WK (O:StrictB lt):∀{a b:List α},a.Perm b->a.Pairwise (λx y=>lt x y=true)->b.Pairwise (λx y=>lt x y=true)->a=b
 |[],b,p,_,_=>(List.Perm.nil_eq p)
 |x::a,[],p,_,_=>by have:=p.length_eq;simp at this
 |x::a,y::b,p,ha,hb=>by
  rw[PK] at ha hb;have e:x=y:=by
   rcases Po.mp (p.mem_iff.mp (Pe ..)) with h | h
   ·exact h
   ·rcases Po.mp (p.mem_iff.mpr (Pe (a:=y) (l:=b))) with h2 | h2
    ·exact h2.symm
    ·have z1:=hb.1 x h
     have z2:=ha.1 y h2;rw[O.asy z1] at z2;cases z2
  subst e;rw[WK O (List.perm_cons x |>.mp p) ha.2 hb.2]
end
end Sd
namespace Sd
open PySem PySem.Spec PyProof.Rows L2
open Ev (ltI)
open PySem.SeqAt PySem.MeetsSeq PySem.MeetsSeq2 PySem.MeetsSeq3 PySem.SeqRoads2
open PySem.AutoSeq1 (wpAny_loadPart')
theorem yE (l b:Addr) (u v:List Value) (n n2:Nat) (dd dd2:Option Addr) (sl sl2:Array (Option Value)) (x y:List Int) (hx:Vals (x.map V.int) u) (hy:Vals (y.map V.int) v) :
  Meets (Builtin.«tuple.__lt__» ⟨[.ref l,.ref b],[]⟩) (λA R s=>s.heap.get? l=some { cls:=.type "tuple",dict:=dd,data:=.seq u.toArray n,slots:=sl }/\s.heap.get? b=some { cls:=.type "tuple",dict:=dd2,data:=.seq v.toArray n2,slots:=sl2 }/\R (.ok (.ret (.bool (ltI x y)))) s):=
 .of_wp λprog w A R s h=>by
  obtain⟨hp,g,d,tk,os⟩:=s;obtain⟨hl,hb,h⟩:=h;have f2:=AutoSeq1.sub_tuple_tuple;rw[<-Jp] at h
  wp_walk using wpAny_loadPart' hl,wpAny_loadPart' hb,wpAny_forIn_list _ (λrest b s'=>b.1=none/\s'=⟨hp,g,d,tk,os⟩/\∃x' y' u' v',rest=List.zip u' v'/\Vals (List.map V.int x') u'/\Vals (List.map V.int y') v'/\R (.ok (.ret (.bool (VV (decide (x.length<y.length)) x' y')))) ⟨hp,g,d,tk,os⟩) _
  case turn=>
   rintro ⟨a,c⟩ rest b s' ⟨hb',rfl,x',y',u',v',hz,hx',hy',hR⟩
   match x',y',u',v',hx',hy',hz,hR with
   |i::x',j::y',_::u',_::v',.cons ra ta,.cons rb tb,hz,hR=>
    obtain⟨t,rfl⟩:=ra;obtain⟨t',rfl⟩:=rb;rw[Nr] at hz;injection hz with h1 h2
    cases h1;unfold VV at hR;refine Pa (wpAny_eqBool_int ?_);by_cases e:i=j
    ·rw[Ph e] at hR
     rw[beq_iff_eq.mpr e]
     wp_walk
     exact⟨rfl,rfl,x',y',u',v',h2,ta,tb,hR⟩
    ·rw[Pi e] at hR
     rw[Ny.mpr e];simp only[Bool.not_false,NM];refine Pa (wpAny_rule (Pa (PyProof.Rows.lt_int ?_)))
     wp_walk
     exact⟨_,rfl,by simpa using hR⟩
   |[],_,_,_,.nil,_,hz,_=>rw[List.zip_nil_left] at hz;cases hz
   |_::_,[],_,_,_,.nil,hz,_=>rw[List.zip_nil_right] at hz;cases hz
  case fin=>
   rintro ⟨b1,b2⟩ s' ⟨hb',rfl,x',y',u',v',hz,hx',hy',hR⟩
   simp only at hb';subst hb';have hf:VV (decide (x.length<y.length)) x' y'=decide (x.length<y.length):=by
    match x',y',u',v',hx',hy',hz with
    |[],_,_,_,_,_,_=>unfold VV;rfl
    |_::_,[],_,_,_,_,_=>unfold VV;rfl
    |_::_,_::_,_::_,_::_,.cons _ _,.cons _ _,hz=>rw[Nr] at hz;cases hz
   rw[hf] at hR;have l1:u.length=x.length:=by rw[<-hx.length,Pk]
   have l2:v.length=y.length:=by rw[<-hy.length,Pk]
   wp_walk
   exact⟨_,rfl,by simpa [Builtin.Tuple.tupleCompareSizes,l1,l2] using hR⟩
  case h=>
   exact⟨rfl,rfl,x,y,u,v,by simp,hx,hy,h⟩
theorem jf {prog:Program}{w:World}{A:Around}{E:Value->Shared->Prop}{s:Shared}{a b:Addr}{o o':Obj}{u v:List Value}{m m':Nat}{x y:List Int}{Q:Value->Shared->Prop}(ha:s.heap.get? a=some o) (hc:o.cls=.type "tuple") (hd:o.data=.seq u.toArray m) (hx:Vals (x.map V.int) u)
  (hb:s.heap.get? b=some o') (hc':o'.cls=.type "tuple") (hd':o'.data=.seq v.toArray m') (hy:Vals (y.map V.int) v) (hu:A.units<cLine) (q:Q (.bool (ltI x y)) s):wpAny (model prog w) A (compareOp .Lt (.ref a) (.ref b)) Q E s:=by
 obtain⟨cls,dd,data,sl⟩:=o;obtain⟨cls2,dd2,data2,sl2⟩:=o';simp only at hc hd hc' hd';subst hc hd hc' hd';show wpAny (model prog w) A (richCompare .Lt (.ref a) (.ref b)) Q E s;exact richCompare_meets_room (op:=.Lt) ⟨_,ha,rfl⟩ ⟨_,hb,rfl⟩ F.slot_tuple_lt F.entry_tuple_lt (F.args_tuple_lt_2 _ _) (yE a b u v m m' dd dd2 sl sl2 x y hx hy) ⟨ha,hb,show Value.bool (ltI x y)≠Value.notImplemented/\Q (.bool (ltI x y)) s from ⟨(λx=>nomatch x),q⟩⟩ hu
end Sd
namespace Sd
open PySem PySem.Spec PyProof.Rows L2
open Ev (ltI ltP)
theorem G4:∀{x y:List Int}{u:List Value},Vals (x.map V.int) u->Vals (y.map V.int) u->x=y
 |[],[],_,_,_=>rfl
 |[],_::_,_,.nil,h=>by cases h
 |_::_,[],_,h,.nil=>by cases h
 |a::x,b::y,_::u,.cons ra ta,.cons rb tb=>by
  obtain⟨t,rfl⟩:=ra;obtain⟨t',e⟩:=rb;cases e;rw[G4 ta tb]
theorem Q2:∀{x:List Int}{u:List Value}{j:Nat}(h:j<u.length),Vals (x.map V.int) u->∃t,u[j]=Value.int (x.getD j 0) t
 |[],[],_,h,.nil=>by simp at h
 |_::_,_::_,0,_,.cons ra _=>by obtain⟨t,rfl⟩:=ra;exact⟨t,rfl⟩
 |_::x,_::u,j+1,h,.cons _ ta=>by
  obtain⟨t,e⟩:=Q2 (j:=j) (by simpa using h) ta
  exact⟨t,by simpa using e⟩
theorem ZbO:∀{x y:List Int},((List.range (min x.length y.length)).all (λj=>x.getD j 0 == y.getD j 0)&&x.length == y.length)=decide (x=y):=by
 intro x y;rw[P2,Pz,PP,decide_eq_true_iff]
 constructor
 ·rintro ⟨h1,h2⟩
  have h2:x.length=y.length:=by simpa using h2
  apply List.ext_getElem h2;intro i hi hj;have:=h1 i (PU.mpr (by omega))
  simpa [hi,hj] using this
 ·rintro rfl
  exact⟨λj _=>by simp,by simp⟩
def W4 (h:Heap) (r:List Int) (v:Value):Prop:=∃a o us m,v=.ref a/\h.get? a=some o/\o.cls=.type "tuple"/\o.data=.seq us.toArray m/\Vals (r.map V.int) us
theorem W4.lat {h h':Heap}(k:Sq.Lat h h') {r:List Int}{v:Value}(R:W4 h r v):W4 h' r v:=by
 obtain⟨a,o,us,m,e,ho,hc,hd,hv⟩:=R;exact⟨a,o,us,m,e,k _ _ ho,hc,hd,hv⟩
theorem qA {A:Around}{s:Shared}{x y:List Int}{v u:Value}(hx:W4 s.heap x v) (hy:W4 s.heap y u) (hu:A.units<cLine):SeqAt.EqAt A s v u (decide (x=y)):=by
 obtain⟨a,o,us,m,rfl,ho,hc,hd,hv⟩:=hx;obtain⟨b,o',us',m',rfl,ho',hc',hd',hv'⟩:=hy;have l1:us.toArray.size=x.length:=by rw[Pf,<-hv.length,Pk]
 have l2:us'.toArray.size=y.length:=by rw[Pf,<-hv'.length,Pk]
 by_cases e:a=b
 ·subst e
  rw[ho] at ho';cases ho';rw[hd] at hd';injection hd' with h1 h2
  have h1:us=us':=by simpa using h1
  subst h1;rw[PD (G4 hv hv')];exact SeqAt.EqAt.same _
 ·refine SeqAt.EqAt.of_refs e ?_
  have:=SeqAt.RcAt.tuples (A:=A) (s:=s) (e:=λj=>x.getD j 0 == y.getD j 0) ⟨o,ho,hc,m,hd⟩ ⟨o',ho',hc',m',hd'⟩ hu (λj h1 h2=>by
   obtain⟨t,e1⟩:=Q2 (j:=j) (by simpa using h1) hv
   obtain⟨t',e2⟩:=Q2 (j:=j) (by simpa using h2) hv'
   rw[show us.toArray[j]=us[j]'(by simpa using h1) by simp,show us'.toArray[j]=us'[j]'(by simpa using h2) by simp,e1,e2]
   exact SeqAt.EqAt.int_int _ _ _ _)
  rw[l1,l2,ZbO] at this;exact this
theorem vD {prog:Program}{w:World}{A:Around}{E:Value->Shared->Prop}{s:Shared}{x y:List Int}{v u:Value}{Q:Value->Shared->Prop}(hx:W4 s.heap x v) (hy:W4 s.heap y u) (hu:A.units<cLine) (q:Q (.bool (ltI x y)) s):wpAny (model prog w) A (compareOp .Lt v u) Q E s:=by
 obtain⟨a,o,us,m,rfl,ho,hc,hd,hv⟩:=hx;obtain⟨b,o',us',m',rfl,ho',hc',hd',hv'⟩:=hy;exact jf ho hc hd hv ho' hc' hd' hv' hu q
noncomputable def zx (fin:Bool):List (List Int)->List (List Int)->Bool
 |[],_=>fin
 |_::_,[]=>fin
 |a::x,b::y=>if a=b then zx fin x y else ltI a b
theorem xN:∀(x y:List (List Int)),zx (decide (x.length<y.length)) x y=ltP x y
 |[],[]=>rfl
 |[],_::_=>by unfold zx ltP;simp
 |_::_,[]=>by unfold zx ltP;simp
 |a::x,b::y=>by
  unfold zx ltP;have:decide ((a::x).length<(b::y).length)=decide (x.length<y.length):=by simp
  rw[this,xN x y]
inductive RowsIn (h:Heap):List (List Int)->List Value->Prop where
 |nil:RowsIn h [] []
 |cons {r:List Int} {rs:List (List Int)} {v:Value} {vs:List Value} (a:W4 h r v) (t:RowsIn h rs vs):RowsIn h (r::rs) (v::vs)
theorem RowsIn.lat {h h':Heap}(k:Sq.Lat h h'):∀{rs:List (List Int)}{vs:List Value},RowsIn h rs vs->RowsIn h' rs vs
 |_,_,.nil=>.nil
 |_,_,.cons a t=>.cons (a.lat k) (RowsIn.lat k t)
theorem RowsIn.length {h:Heap}:∀{rs:List (List Int)}{vs:List Value},RowsIn h rs vs->rs.length=vs.length
 |_,_,.nil=>rfl
 |_,_,.cons _ t=>by rw[PB,PB,RowsIn.length t]
theorem zd {prog:Program}{w:World}{A:Around}{s:Shared}{fin:Bool}{C:Bool->Shared->Prop}(hu:A.units<cLine):∀{x y:List (List Int)}{u v:List Value}{i:Nat},RowsIn s.heap x u->RowsIn s.heap y v->C (zx fin x y) s->PySem.W.KatLex prog w A false fin C (u.zip v) i s
 |[],_,_,_,_,.nil,_,h=>by rw[List.zip_nil_left];exact PySem.W.kat_nil h
 |_::_,[],_,_,_,_,.nil,h=>by rw[List.zip_nil_right];exact PySem.W.kat_nil h
 |a::x,c::y,_,_,i,.cons ra ta,.cons rb tb,h=>by
  rw[Nr];refine PySem.W.kat_cons (qA ra rb hu prog w _ _ ?_);unfold zx at h;by_cases e:a=c
  ·rw[Ph e] at h
   rw[PD e];exact PySem.W.kat_yes (zd hu ta tb h)
  ·rw[Pi e] at h
   rw[P1 e];refine PySem.W.kat_no ?_;exact PySem.W.kat_one _ _ (vD ra rb hu h)
end Sd
namespace Sd
open PySem PySem.Spec PyProof.Rows L2
open Ev (D ltI ltP JM Yc Vd QW Ya Z0 Uk XX)
section
variable {α:Type}{lt:α->α->Bool}{df:α}
theorem Zcq (O:StrictB lt) {rs:List α}{n:Nat}(hn:rs.Nodup) (hl:rs.length=n):Sq.Ord n (λi j=>lt (rs.getD i df) (rs.getD j df)):=by
 have hd:∀i j,i<n->j<n->i≠j->rs.getD i df≠rs.getD j df:=λi j hi hj ne e=>by
  simp only[Pp] at e;have hi':i<rs.length:=by omega
  have hj':j<rs.length:=by omega
  refine ne ((List.getElem?_inj hi' hn).mp ?_);rw[Pc hi',Pc hj'] at e ⊢;exact congrArg some e
 exact⟨λi j hi hj ne e=>O.tot (hd i j hi hj ne) e,λi j _ _ e=>O.asy e,λi j k _ _ _ e f=>O.tr e f⟩
theorem Zcr (O:StrictB lt) {rs:List α}{b:Bool}{p:Array Nat}(hn:rs.Nodup) (h1:Sq.Pm rs.length p) (h2:Sq.Up (Sq.ltR b rs.length λi j=>lt (rs.getD i df) (rs.getD j df)) p rs.length) :
  (p.toList.map λi=>(PySem.W.katRev b rs).getD i df)=Yc lt rs:=by
 have hp:p.toList.Perm (List.range rs.length):=by simpa using Nj.mp h1
 have hl:p.toList.length=rs.length:=by rw[hp.length_eq,PY]
 refine WK O ?_ ?_ (WJ O hn)
 ·refine ((hp.map _).trans ?_).trans (Wu rs).symm
  have e:(List.range rs.length).map (λi=>(PySem.W.katRev b rs).getD i df)=PySem.W.katRev b rs:=by
   apply List.ext_getElem?
   intro i;rw[PF];by_cases h:i<rs.length
   ·have:i<(PySem.W.katRev b rs).length:=by rw[NV];exact h
    rw[NL h];simp[this]
   ·have:(PySem.W.katRev b rs).length<=i:=by rw[NV];omega
    simp[Nat.le_of_not_lt h,this]
  rw[e];exact VD b rs
 ·rw[List.pairwise_map,List.pairwise_iff_getElem]
  intro i j hi hj hij;have g1:p.toList[i]=Sq.g p i:=by
   have:=Sq.yy (p:=p) (i:=i) (by simpa using hi)
   rw[<-No,Pc hi] at this;exact Pb this
  have g2:p.toList[j]=Sq.g p j:=by
   have:=Sq.yy (p:=p) (i:=j) (by simpa using hj)
   rw[<-No,Pc hj] at this;exact Pb this
  rw[g1,g2,YX (h1.lt (by omega)),YX (h1.lt (by omega))]
  have:=h2 i j hij (by omega)
  unfold Sq.ltR at this;cases b
  ·exact this
  ·exact this
theorem wI {ρ:List Addr}{H:Hp}{enc:α->D}{F:List Nat}{xs:List V}{rs:List α}(h:Reps ρ H (rs.map enc) xs) (hF:∀i∈F,i<rs.length):Reps ρ H ((F.map λi=>rs.getD i df).map enc) (F.map λi=>xs.getD i V.non):=by
 induction F with
 |nil=>exact Reps.nil
 |cons i F ih=>
  refine Reps.cons ?_ (ih λj hj=>hF j (Pd _ hj))
  have hi:=hF i (Pe ..);obtain⟨v,g,r⟩:=h.get (i:=i) (d:=enc rs[i]) (by rw[PF,Pc hi];rfl)
  show Rep ρ H (enc (rs.getD i df)) (xs.getD i V.non);rw[Pp,Pp,g,Pc hi];exact r
end
section
variable {X:Cx}{pins:List (Addr×Obj)}{σ:L2.St}{H:Hp}{s:Shared}{ρ:List Addr}
inductive PartsAt (h:Heap):List (List (List Int))->List Value->Prop where
 |nil:PartsAt h [] []
 |cons {P:List (List Int)} {ps:List (List (List Int))} {vs:List Value} {a:Addr} {o:Obj} {us:List Value} {m:Nat} (ho:h.get? a=some o) (hc:o.cls=.type "tuple") (hd:o.data=.seq us.toArray m) (hv:RowsIn h P us) (t:PartsAt h ps vs):PartsAt h (P::ps) (.ref a::vs)
theorem RowsAt.ins {h:Heap}:∀{rs:List (List Int)}{vs:List Value},RowsAt h rs vs->RowsIn h rs vs
 |_,_,.nil=>.nil
 |_,_,.cons ho hc hd hv t=>.cons ⟨_,_,_,_,rfl,ho,hc,hd,hv⟩ (RowsAt.ins t)
theorem Gf (I:Inv X pins σ H s):∀{ds:List D}{ps:List (List (List Int))}{xs:List V}{its:List Value},Ya ds=some ps->Reps ρ H ds xs->Vals xs its->PartsAt s.heap ps its/\ds=ps.map Vd
 |[],ps,xs,its,h,r,v=>by
  unfold Reps at r;subst r;cases v;cases h;exact⟨.nil,rfl⟩
 |d::ds,ps,xs,its,h,r,v=>by
  unfold Reps at r;obtain⟨x,xs',rfl,r1,r2⟩:=r;cases v with
  |cons v1 v2=>
   unfold Ya at h;cases q1:QW d with
   |none=>rw[q1] at h;cases h
   |some a=>
    cases q2:Ya ds with
    |none=>rw[q1,q2] at h;cases h
    |some b=>
     rw[q1,q2] at h;cases h;obtain⟨t,e⟩:=Gf I q2 r2 v2;cases d with
     |tup ks=>
      obtain⟨p,ys,rfl,hp,ry⟩:=r1.tup';cases v1;obtain⟨us,rv,⟨o,ho,hc,m,hd⟩,_⟩:=I.tuple (SqT.of hp);obtain⟨ra,ek⟩:=JK I (show Z0 ks=some a from q1) ry rv
      exact⟨.cons ho hc hd ra.ins t,by rw[e,ek];rfl⟩
     |_=>cases q1
theorem PartsAt.length {h:Heap}:∀{ps:List (List (List Int))}{vs:List Value},PartsAt h ps vs->ps.length=vs.length
 |_,_,.nil=>rfl
 |_,_,.cons _ _ _ _ t=>by rw[PB,PB,PartsAt.length t]
theorem PartsAt.at {h:Heap}:∀{ps:List (List (List Int))}{vs:List Value}(i:Nat),PartsAt h ps vs->i<vs.length->∃a o us m,vs.getD i Value.none=.ref a/\h.get? a=some o/\o.data=.seq us.toArray m/\RowsIn h (ps.getD i []) us
 |_,_,_,.nil,hi=>by simp at hi
 |_,_,0,.cons ho hc hd hv t,_=>⟨_,_,_,_,rfl,ho,hd,hv⟩
 |_,_,i+1,.cons ho hc hd hv t,hi=>by
  obtain⟨a,o,us,m,e1,e2,e3,e4⟩:=PartsAt.at i t (by simpa using hi)
  exact⟨a,o,us,m,by simpa using e1,e2,e3,by simpa using e4⟩
theorem PartsAt.tups {h h':Heap}(k:Sq.Lat h h'):∀{ps:List (List (List Int))}{vs:List Value},PartsAt h ps vs->(∀P∈ps,P≠[])->∃fs,PySem.W.KatTups h' vs fs/\fs.length=vs.length/\∀v∈fs,∃r,W4 h' r v
 |_,_,.nil,_=>⟨[],.nil,rfl,λv hv=>by cases hv⟩
 |_,_,.cons (P:=P) (us:=us) ho hc hd hv t,hn=>by
  obtain⟨fs,t1,t2,t3⟩:=PartsAt.tups k t λr hr=>hn r (Pd _ hr)
  have hr:=hn P (Pe ..);cases hv with
  |nil=>exact absurd rfl hr
  |cons a tl=>
   rename_i r rs v vs
   refine⟨v::fs,.cons (k _ _ ho) hc hd (by simp) t1,by rw[PB,PB,t2],λz hz=>?_⟩
   rcases Po.mp hz with rfl | hz
   ·exact⟨r,a.lat k⟩
   ·exact t3 z hz
theorem z5 {prog:Program}{w:World}{A:Around}{h:Heap}{ps:List (List (List Int))}{vs:List Value}(hu:A.units<cLine) (R:PartsAt h ps vs) (hn:2<=vs.length->∀P∈ps,P≠[]):Sq.Asks prog w A h vs (tuples' false) (λi j=>ltP (ps.getD i []) (ps.getD j [])):=by
 refine⟨λh2 s' E Q k q=>?_,λi j hi hj s' C E k q=>?_⟩
 ·obtain⟨fs,t1,t2,t3⟩:=R.tups k (hn h2)
  exact PySem.W.kat_kind (T:=.type "tuple") t1 (by omega) (λv hv=>by
   obtain⟨r,a,o,us,m,rfl,ho,hc,_,_⟩:=t3 v hv;exact λA Q E s kk qq=>wpAny_typeOf ⟨o,kk _ _ ho,hc⟩ qq) rfl q
 ·obtain⟨a,o,us,m,e1,e2,e3,e4⟩:=R.at i hi
  obtain⟨a',o',us',m',f1,f2,f3,f4⟩:=R.at j hj;rw[e1,f1];refine PySem.W.kat_lt (k _ _ e2) e3 (k _ _ f2) f3 (zd hu (e4.lat k) (f4.lat k) ?_);have l1:us.toArray.size=(ps.getD i []).length:=by rw[Pf,<-e4.length]
  have l2:us'.toArray.size=(ps.getD j []).length:=by rw[Pf,<-f4.length]
  rw[l1,l2,xN];exact q
end
end Sd
namespace Sd
open PySem PySem.Spec PyProof.Rows L2
open Ev (D Ob Store Lc R E Sm Calls Walk Fl Fn Bop Cop Ty Bf Mf ltP Yc Vd Ya Z3)
section
variable {X:Cx}{xw:Nat->Hp->Prop}{C:Calls}{e a b c:Expr}{i j k:E}{pos p p' p2 p3:Pos}
theorem WA {pins:List (Addr×Obj)}{s:Shared}{σ:L2.St}{H:Hp}{us:List Value}{Q:VK}{ρ:List Addr}{S:Store}{n:Nat}{vs:List V}{ds:List D}{ps:List (List (List Int))}(hu:X.A.units+2<cLine) (I:Inv X pins σ H s) (r:Vals vs us) (st:St3 X.K ρ S H) (rs:Reps ρ H [.loc n] vs)
  (hl:Ev.Zi S n=some ds) (hps:Ya ds=some ps) (hok:Z3 ps=true) (h3:End X.K xw Rep ρ H Q (.ok (.loc S.length) (S++[.lst ((Yc ltP ps).map Vd)]))):wpAny (model X.prog X.w) X.A (call (.builtin "sorted") us) (EP X pins σ Q) X.xe s:=by
 obtain⟨v,rfl,r1⟩:=reps1 rs;obtain⟨_,l,xs,q1,hx,rx⟩:=st.lst hl;obtain⟨l',rfl,t⟩:=r1.loc';rw[q1] at t;cases t;obtain⟨u,rfl,ru⟩:=vals1 r;cases ru;obtain⟨its,rv,pl,hz⟩:=I.list (SqL.of hx);obtain⟨RA,ed⟩:=Gf I hps rx rv;obtain⟨hok1,hok3⟩:=(Pz _ _).mp hok;obtain⟨hok1,hok2⟩:=(Pz _ _).mp hok1;have h64:=Pw hok1;have hnd:=Pw hok2;have hlen:=RA.length;have hne:2<=its.length->∀P∈ps,P≠[]:=λh2 P hP e=>by
  rcases (Bool.or_eq_true _ _).mp hok3 with h | h
  ·have:=Pw h;omega
  ·have:=PP.mp h P hP
   rw[e] at this;cases this
 refine Sq.WU pl.isList (by omega) (Zcq (df:=[]) U2 hnd hlen) (z5 hu RA hne) λp hp hu=>?_
 rw[<-hlen] at hp hu;have out:=Zcr (b:=false) U2 hnd hp hu;have hmem:∀i∈p.toList,i<ps.length:=λi hi=>by
  have hp':p.toList.Perm (List.range ps.length):=by simpa using Nj.mp hp
  exact PU.mp (hp'.mem_iff.mp hi)
 subst ed;have xl:xs.length=ps.length:=by rw[rx.length,Pk]
 have rx2:=wI (df:=[]) (F:=p.toList) rx hmem;have out':(p.toList.map λi=>ps.getD i [])=Yc ltP ps:=out
 rw[out'] at rx2;have rv2:=zk (F:=p.toList) rv (by rw[xl];exact hmem)
 obtain⟨ep,he⟩:=sortedAll_at s.heap its (List.toArray (p.toList.map λi=>its.getD i Value.none))
 refine⟨.ref (s.heap.objs.size+1),_,I.laid (t':=s.toks) (o:=.lst (p.toList.map λi=>xs.getD i V.non)) (λb ob q=>sortedAll_old q) (Nat.le_succ _) ?_,rfl,h3.newL st rx2 _ (I.hok.fresh (Nat.le_succ _))⟩
 refine⟨?_,_,ep,rv2,he⟩;rw[Pk,Nz,hp.size,Nt];omega
theorem UF (hu:X.A.units+7<cLine):ZJ X (.builtin "sorted") (VP X.K xw .sorted):=by
 intro pins s σ H vs us Q I r ⟨ρ,S,ds,st,rs,h⟩;rcases xB false ds S with ⟨n,rfl⟩ | e
 ·obtain⟨xs,hl,h1⟩:=End.ob (show End X.K xw Rep ρ H Q ((Ev.ob (Ev.Zi S n) S).bind λxs S=>if Ev.wL xs=true then Ev.sorted false n S else (Ev.ob (Ya xs) S).bind λps S=>if Z3 ps=true then .ok (.loc S.length) (S++[.lst ((Yc ltP ps).map Vd)]) else .no) from h)
  rcases h1.ite with ⟨_,h1⟩ | ⟨_,h1⟩
  ·exact zi pins s σ H vs us Q I r ⟨ρ,S,n,st,rs,h1⟩
  ·obtain⟨ps,q,h1⟩:=End.ob h1
   obtain⟨hok,h3⟩:=h1.guard;exact WA (by omega) I r st rs hl q hok h3
 ·exact (show End X.K xw Rep ρ H Q (.no:R D) from e▸h).elim
end
end Sd
namespace Sd
open PySem PySem.Spec PyProof.Rows L2
open Ev (D Ob Store Lc R E Sm Calls Walk Fl Fn Bop Cop Ty Bf Mf ev evs)
theorem VU:isSubtype (.type "range_iterator") (.type "reversed")=pure false:=by rw[isSubtype_type];kernel_rfl
section
variable {prog:Program}{w:World}{A:Around}{E:Value->Shared->Prop}{s:Shared}
noncomputable abbrev uS (lo:Int) (n:Nat):Obj:={ cls:=.type "range_iterator",data:=.fields #[rawInt (lo+n-1),rawInt n,rawInt (-1)] }
theorem Wk {r:Addr}{lo hi:Int}{t u v:Tok}{Q:Value->Shared->Prop}(hr:IsRange s.heap r lo hi 1 t u v) (h1:-(2^62)<=lo) (h2:lo<2^62) (h3:-(2^62)<=hi) (h4:hi<2^62)
  (h:Q (.ref s.heap.objs.size) { s with heap:=s.heap.push (uS lo (hi-lo).toNat) }):wpAny (model prog w) A (call (.builtin "range.__reversed__") [.ref r]) Q E s:=by
 refine NF F.slot_range_reversed ⟨_,hr,rfl⟩ F.entry_range_reversed ?_ (F.args_range_reversed_1 _);unfold Builtin.«range.__reversed__»;refine Pa (NO (a:=Value.ref r) rfl ?_);unfold Builtin.Range.rangeFields;refine Pa (Pa (Ng hr rfl (x:=.int lo t) rfl ?_));refine Pa (NO (a:=some lo) rfl ?_);refine Pa (Ng hr rfl (x:=.int hi u) rfl ?_);refine Pa (NO (a:=some hi) rfl ?_);refine Pa (Ng hr rfl (x:=.int 1 v) rfl ?_);refine Pa (NO (a:=some 1) rfl ?_);refine Pj ?_
 have hn:Builtin.Range.rangeSize lo hi 1=((hi-lo).toNat:Int):=by rw[rangeSize_one];split <;> omega
 have hs:(Builtin.Range.rangeFitsLong lo&&Builtin.Range.rangeFitsLong hi&&Builtin.Range.rangeFitsLong 1&&Builtin.Range.rangeFitsLong (-1)&&Builtin.Range.rangeFitsLong (lo-1)&&Builtin.Range.rangeFitsLong (Builtin.Range.rangeSize lo hi 1))=true:=by
  rw[hn];simp only[Builtin.Range.rangeFitsLong,Pz,decide_eq_true_eq];omega
 simp only[hs,Bool.not_true,P7,Np,NM];refine Pa (Nm (Pj ⟨_,rfl,?_⟩));rw[hn];have e:lo+(((hi-lo).toNat:Int)-1)*1=lo+((hi-lo).toNat:Int)-1:=by omega
 simp only[e];exact h
theorem Wl {r:Addr}{lo hi:Int}{t u v:Tok}{Q₁:Value->Shared->Prop}(hr:IsRange s.heap r lo hi 1 t u v) (h1:-(2^62)<=lo) (h2:lo<2^62) (h3:-(2^62)<=hi) (h4:hi<2^62)
  (h:Q₁ (.ref s.heap.objs.size) { s with heap:=s.heap.push (uS lo (hi-lo).toNat) }) :
  codeAny (model prog w) A (.call (.builtin "reversed.__new__") ⟨[.type "reversed",.ref r],[]⟩) (wants Q₁ E) s:=by
 refine codeAny_of_tree ?_;show wpAny _ A.in1 (do checkBuiltinCall "reversed.__new__" ⟨[.type "reversed",.ref r],[]⟩;again (.builtin "reversed.__new__" ⟨[.type "reversed",.ref r],[]⟩)) _ _ s;refine Pa (NO (F.newCall_reversed_1 _) (Pj ⟨plainId_quiet F.plain_reversed_new _,codeAny_builtin F.entry_reversed_new ?_⟩));rw[Around.under_plainId F.plain_reversed_new _];unfold Builtin.«reversed.__new__»;refine Pa (NO (newClass_reversed _) ?_)
 try dsimp only
 refine Pa (NO (a:=()) (by first | rfl | kernel_rfl) ?_)
 refine Pa (NO (a:=()) (by first | rfl | kernel_rfl) ?_)
 try dsimp only
 refine Pa (wpAny_specialOf ⟨_,hr,rfl⟩ F.slot_range_reversed.lookup ?_)
 try dsimp only
 refine Pa (NO (F.slot_range_reversed.bind _) ?_)
 try dsimp only
 first
 |rw[Pi (show ¬((Value.builtin "range.__reversed__" == Value.none)=true) from Pr)]
 |(show wpAny _ _ (if (Value.builtin "range.__reversed__" == Value.none)=true then _ else _) _ _ _;rw[Pi (show ¬((Value.builtin "range.__reversed__" == Value.none)=true) from Pr)])
 refine Pa (wpAny_rule ?_);refine Pa (m:=runValue (.call (.builtin "range.__reversed__") ⟨[.ref r],[]⟩)) (show wpAny _ _ (call (.builtin "range.__reversed__") [.ref r]) _ _ _ from Wk hr h1 h2 h3 h4 ?_)
 first
 |exact Pj h
 |exact Pa (Pj (Pj h))
theorem Wj {r:Addr}{lo hi:Int}{t u v:Tok}{Q:Value->Shared->Prop}(hr:IsRange s.heap r lo hi 1 t u v) (h1:-(2^62)<=lo) (h2:lo<2^62) (h3:-(2^62)<=hi) (h4:hi<2^62)
  (h:Q (.ref s.heap.objs.size) { s with heap:=s.heap.push (uS lo (hi-lo).toNat) }):wpAny (model prog w) A (call (.type "reversed") [.ref r]) Q E s:=by
 refine callType_other (U:="range_iterator") (Q₁:=λobj s₁=>obj=.ref s.heap.objs.size/\s₁={ s with heap:=s.heap.push (uS lo (hi-lo).toNat) }) (by decide +kernel) F.create_reversed ⟨_,_,F.mro_reversed⟩ F.made_reversed VU (F.typeCall_reversed_1 _) (Wl hr h1 h2 h3 h4 ⟨rfl,rfl⟩) ?_
 rintro obj s₁ ⟨rfl,rfl⟩
 exact⟨⟨_,Px _ rfl,rfl⟩,h⟩
end
noncomputable def Itrv (lo:Int) (n:Nat):It:=⟨λi _=>i<n,λi H x H'=>H'=H/\x=.int (lo+n-1-i),λi _=>n<=i⟩
theorem Gc {P:Program}{w:World}{K:PySem.W.Frag}{tg:Expr}(it:Addr) (lo:Int) (n:Nat):Turn P w K tg (Itrv lo n) [it] it (λi h=>IsRangeIter h it (lo+n-1+(i:Nat)*(-1)) ((n:Int)-(i:Nat)) (-1)) where
 mem:=by simp
 obj:=λi h st b hb=>by
  have e:b=it:=by simpa using hb
  subst e;exact⟨_,st,λv z=>by
   have z':Data.fields _=Data.cell v:=z;cases z'⟩
 keep:=λi h h' st k=>k it (by simp) _ st
 item:=by
  intro X hP hw hK hc i pins s σ H E I hf st hg;subst hP hw hK;obtain⟨f0,f1,f2,f3,f4,f5⟩:=hf it (by simp)
  have W:=Walks.range (prog:=X.prog) (w:=X.w) (I.ok.hd hc) it (lo+n-1) (-1) n;refine W.item i s _ _ hg st λv h' tk hv st' kk=>?_
  obtain⟨t,rfl⟩:=hv;have I1:Inv X pins σ H { s with heap:=h',toks:=tk }:=I.turned (λb o hb e=>kk b o (by simpa using hb) e) f0 f1 f3 f4 f5
  refine⟨_,rfl,xa (s:={ s with heap:=h',toks:=tk }) (n:="range_iterator") st' rfl rfl (by decide) ⟨.int (lo+n-1-i),H,I1,⟨t,?_⟩,⟨rfl,rfl⟩,st',λb hb=>(hf b hb).1⟩⟩
  have e:lo+n-1+(i:Int) * -1=lo+n-1-i:=by omega
  rw[e]
 done:=by
  intro X hP hw hK hc i pins s σ H E I hf st hg;subst hP hw hK;obtain⟨f0,f1,f2,f3,f4,f5⟩:=hf it (by simp)
  exact wpAny_pyNext_range_end (I.ok.hd hc) st (by have:n<=i:=hg;omega) λh' eb=>⟨rfl,I.turned (t':=s.toks) (λb o hb e=>eb b o hb e) f0 f1 f3 f4 f5⟩
 self:=λ_ _ _ _ _ st h=>wpAny_pyIter_rangeiter st h
section
variable {X:Cx}{xw:Nat->Hp->Prop}{C:Calls}{a b tg:Expr}{i j:E}{pos p p2 p3:Pos}
noncomputable def ZbS (ta:TA):TI:=λσ H R=>ta σ H λvs H1=>∃i j:Int,vs=[.int i,.int j]/\(-(2^62)<=i/\i<2^62/\-(2^62)<=j/\j<2^62)/\R (Itrv i (j-i).toNat) H1
theorem x5 {ta:TA}(hgr:Gl X "reversed") (hmr:X.mg "reversed" = none) (hg:Gl X "range") (hm:X.mg "range" = none) (ha:PA X [a,b] ta) (hs:starEach [a,b] X.env=[(false,eval a X.env),(false,eval b X.env)]) (hs2:starEach [b] X.env=[(false,eval b X.env)]) :
  PI X tg (.Call (.Name "reversed" p) [.Call (.Name "range" p2) [a,b] [] p3] [] pos) (ZbS ta):=by
 intro pins s σ H R I h;refine Call_ (Y5 I hgr hmr (show bootBuiltins "reversed" = some (.type "reversed") from rfl) (Na (Calls.spliced_cons ?_) rfl rfl))
 refine Call_ (Y5 I hg hm boot_range (Na (thn (ha p3 pins s σ H _ I h) λus s1 ⟨vs,H1,I1,r1,q1⟩=>?_) (by rw[hs,hs2]) (by rw[hs2];rfl)))
 obtain⟨lo,hi,e,⟨q1,q2,q3,q4⟩,q⟩:=q1;subst e;cases r1 with
 |cons r rr=>
  cases rr with
  |cons r' rr=>
   cases rr;obtain⟨t,rfl⟩:=r;obtain⟨t',rfl⟩:=r';refine call_range_2 (Calls.spliced_nil ?_);refine Wj (IsRange.new ..) q1 q2 q3 q4 ?_;have I2:Inv X pins σ H1 { s1 with heap:=s1.heap.push { cls:=.type "range",data:=.fields #[.int lo t,.int hi t',.int 1 s1.toks] },toks:=s1.toks+1 }:=I1.kept λb o e=>Pg _ e
   have I3:=I2.kept (t':=s1.toks+1) (h':=(s1.heap.push { cls:=.type "range",data:=.fields #[.int lo t,.int hi t',.int 1 s1.toks] }).push (uS lo (hi-lo).toNat)) λb o e=>Pg _ e
   refine wpAny_pyIter_rangeiter (Px _ rfl) ?_;refine⟨_,[(s1.heap.push { cls:=.type "range",data:=.fields #[.int lo t,.int hi t',.int 1 s1.toks] }).objs.size],_,_,H1,rfl,I3,Gc _ lo (hi-lo).toNat,?_,λb hb=>?_,q⟩
   ·show IsRangeIter _ _ (lo+((hi-lo).toNat:Int)-1+((0:Nat):Int)*(-1)) ((((hi-lo).toNat:Nat):Int)-((0:Nat):Int)) (-1)
    rw[show lo+((hi-lo).toNat:Int)-1+((0:Nat):Int)*(-1)=lo+((hi-lo).toNat:Int)-1 by omega,show (((hi-lo).toNat:Nat):Int)-((0:Nat):Int)=((hi-lo).toNat:Int) by omega]
    exact Px _ rfl
   ·have e:b=(s1.heap.push { cls:=.type "range",data:=.fields #[.int lo t,.int hi t',.int 1 s1.toks] }).objs.size:=by simpa using hb
    subst e;exact I2.fpOk (Pl _) (I2.hok.fresh (Pl _))
theorem yD {lo:Int}{n i:Nat}(h:i<n):(Ev.Zr lo n).reverse[i]? = some (.int (lo+n-1-i)):=by
 unfold Ev.Zr;rw[<-List.map_reverse,PF,List.getElem?_reverse (by simpa using h),PY,NL (by omega)]
 simp only[Option.map_some]
 congr 2
 omega
theorem wv {K:PySem.W.Frag}{ρ:List Addr}{H:Hp}{lo:Int}{n:Nat}:WRel K ρ H ⟨(Ev.Zr lo n).reverse,[]⟩ (Itrv lo n) where
 go:=λi ρ' S' H' f st hs hi=>by
  have hi':i<n:=by simpa [Ev.Zr] using hi
  refine⟨hi',λx H'' ⟨e,hx⟩=>?_⟩
  subst e hx;refine⟨Fut.refl _ _,st,λd hd=>?_⟩
  have hd':(Ev.Zr lo n).reverse[i]? = some d:=hd;rw[yD hi'] at hd';cases hd';exact Zn _
 stop:=λρ' S' H' f st hs=>by show n<=((Ev.Zr lo n).reverse).length;simp[Ev.Zr]
noncomputable def jZ (x y:D) (S:Store):R Walk:=match x,y with
 |.int i,.int j=>if (Ev.small i&&Ev.small j)=true then .ok ⟨(Ev.Zr i (j-i).toNat).reverse,[]⟩ S else .no
 |_,_=>.no
theorem JW (hmr:X.mg "reversed" = none) (hm:X.mg "range" = none) (ha:CA X xw C [a,b] [i,j]) (hgr:Gl X "reversed":=by rfl) (hg:Gl X "range":=by rfl) (hs:starEach [a,b] X.env=[(false,eval a X.env),(false,eval b X.env)]:=by rfl) (hs2:starEach [b] X.env=[(false,eval b X.env)]:=by rfl) :
  CW X xw C tg (.Call (.Name "reversed" p) [.Call (.Name "range" p2) [a,b] [] p3] [] pos) (.rrng i j):=
 PI.imp (x5 hgr hmr hg hm ha hs hs2) λσ H Q ⟨ρ,l,S,st,lr,h⟩=>by
  refine⟨ρ,l,S,st,lr,?_⟩;show End X.K xw Reps ρ H _ ((ev C i l S).bind λx S=>((ev C j l S).bind λy S=>(Ev.R.ok [] S).bind λxs S=>.ok (y::xs) S).bind λxs S=>.ok (x::xs) S)
  have h':End X.K xw (WRel X.K) ρ H Q ((ev C i l S).bind λx S=>(ev C j l S).bind λy S=>jZ x y S):=h
  cases q:ev C i l S with
  |no=>rw[q] at h';exact h'
  |ex c S1=>rw[q] at h';exact h'
  |ok x S1=>
   rw[q] at h';have h2:End X.K xw (WRel X.K) ρ H Q ((ev C j l S1).bind λy S=>jZ x y S):=h'
   show End X.K xw Reps ρ H _ (((ev C j l S1).bind λy S=>(Ev.R.ok [] S).bind λxs S=>.ok (y::xs) S).bind λxs S=>.ok (x::xs) S)
   cases q2:ev C j l S1 with
   |no=>rw[q2] at h2;exact h2
   |ex c S2=>rw[q2] at h2;exact h2
   |ok y S2=>
    rw[q2] at h2;intro ρ1 H1 vs f1 st1 r1;obtain⟨v,u,rfl,rv,ru⟩:=reps2 r1;cases x with
    |int n=>cases y with
     |int m=>
      obtain⟨hs,h3⟩:=End.guard (End.mono f1 (show End X.K xw (WRel X.K) ρ H Q (if (Ev.small n&&Ev.small m)=true then .ok ⟨(Ev.Zr n (m-n).toNat).reverse,[]⟩ S2 else .no) from h2))
      obtain⟨s1,s2⟩:=(Pz _ _).mp hs;have s1':=Pw (show decide (-(2^62)<=n/\n<2^62)=true from s1)
      have s2':=Pw (show decide (-(2^62)<=m/\m<2^62)=true from s2)
      exact⟨n,m,by rw[rv.int',ru.int'],⟨s1'.1,s1'.2,s2'.1,s2'.2⟩,End.ok (rep:=WRel X.K) h3 st1 wv⟩
     |_=>exact False.elim h2
    |_=>exact False.elim h2
end
end Sd
structure Bx (P:Prop):Prop where
 h:P
namespace Wr
theorem bx3 {P Q R:Prop}(h:Bx P/\Bx Q/\Bx R):P/\Q/\R:=⟨h.1.h,h.2.1.h,h.2.2.h⟩
theorem bx6 {P Q R S T U:Prop}(h:Bx P/\Bx Q/\Bx R/\Bx S/\Bx T/\Bx U):P/\Q/\R/\S/\T/\U:=⟨h.1.h,h.2.1.h,h.2.2.1.h,h.2.2.2.1.h,h.2.2.2.2.1.h,h.2.2.2.2.2.h⟩
noncomputable def zP {X xw C pos n q}:=Bx.mk (@Sd.zP X xw C pos n q)
noncomputable def uz {X xw C pos n q}:=Bx.mk (@Sd.uz X xw C pos n q)
noncomputable def zn {X xw C pos q}:=Bx.mk (@Sd.zn X xw C pos q)
noncomputable def Zaj {X xw C pos} (n) {x} (hN hv hd hcd):=Bx.mk (@Sd.Zaj X xw C pos n x hN hv hd hcd)
noncomputable def zy {X xw C pos es is q} (h):=Bx.mk (@Sd.zy X xw C pos es is q (Bx.h h))
noncomputable def z8 {X xw C pos es is} (h):=Bx.mk (@Sd.z8 X xw C pos es is (Bx.h h))
noncomputable def yn {X xw C a b i j pos} (ha hb):=Bx.mk (@Sd.yn X xw C a b i j pos (Bx.h ha) (Bx.h hb))
noncomputable def zq {X xw C a b i j pos} (ha hb):=Bx.mk (@Sd.zq X xw C a b i j pos (Bx.h ha) (Bx.h hb))
noncomputable def zH {X xw C a b i j pos} (ha hb):=Bx.mk (@Sd.zH X xw C a b i j pos (Bx.h ha) (Bx.h hb))
noncomputable def QV {X xw C a b i j pos} (ha hb):=Bx.mk (@Sd.QV X xw C a b i j pos (Bx.h ha) (Bx.h hb))
noncomputable def zt {X xw C a b i j pos} (ha hb):=Bx.mk (@Sd.zt X xw C a b i j pos (Bx.h ha) (Bx.h hb))
noncomputable def zr {X xw C a b i j pos} (ha hb):=Bx.mk (@Sd.zr X xw C a b i j pos (Bx.h ha) (Bx.h hb))
noncomputable def zY {X xw C a i pos} (ha):=Bx.mk (@Sd.zY X xw C a i pos (Bx.h ha))
noncomputable def zO {X xw C a i pos} (ha):=Bx.mk (@Sd.zO X xw C a i pos (Bx.h ha))
noncomputable def zw {X xw C a b i j pos rest} (ha hb):=Bx.mk (@Sd.zw X xw C a b i j pos rest (Bx.h ha) (Bx.h hb))
noncomputable def yA {X xw C a i pos op} (ha):=Bx.mk (@Sd.yA X xw C a i pos op (Bx.h ha))
noncomputable def yj {X xw C a b c i j k pos} (hc ha hb):=Bx.mk (@Sd.yj X xw C a b c i j k pos (Bx.h hc) (Bx.h ha) (Bx.h hb))
noncomputable def YF {X xw C a b i j pos op o} (hc ha hb) (hm):=Bx.mk (@Sd.YF X xw C a b i j pos op o hc (Bx.h ha) (Bx.h hb) hm)
noncomputable def WW {X xw C a b i j pos op op' o o' d k} (hc hc' ha hb hd) (hm):=Bx.mk (@Sd.WW X xw C a b i j pos op op' o o' d k hc hc' (Bx.h ha) (Bx.h hb) (Bx.h hd) hm)
noncomputable def vt {X xw C a i pos p2 lo hi il ih} (ha hl hh):=Bx.mk (@Sd.vt X xw C a i pos p2 lo hi il ih (Bx.h ha) (Bx.h hl) (Bx.h hh))
noncomputable def ug {X xw C a b i j pos} (ha hb) (hs):=Bx.mk (@Sd.ug X xw C a b i j pos (Bx.h ha) (Bx.h hb) hs)
noncomputable def Vl {X xw C a i pos p p2 T t} (ht hm hmT ha) (hg hgT hvT hnT hdT hs1 hs2 hpl):=Bx.mk (@Sd.Vl X xw C a i pos p p2 T t ht hm hmT (Bx.h ha) hg hgT hvT hnT hdT hs1 hs2 hpl)
noncomputable def YZ {X xw C e pos p f id x es is} (hc hm ha) (hg hv hn hdb he hpl):=Bx.mk (@Sd.YZ X xw C e pos p f id x es is hc hm (Bx.h ha) hg hv hn hdb he hpl)
noncomputable def WG {X xw C e pos p f id x es is} (hc hm ha) (hg hv hn hdb he hpl):=Bx.mk (@Sd.WG X xw C e pos p f id x es is hc hm (Bx.h ha) hg hv hn hdb he hpl)
noncomputable def yo {X xw C}:=Bx.mk (@Sd.yo X xw C)
noncomputable def JZ {X xw C e i es is} (ha hr) (hs):=Bx.mk (@Sd.JZ X xw C e i es is (Bx.h ha) (Bx.h hr) hs)
noncomputable def Jm {X xw C}:=Bx.mk (@Sd.Jm X xw C)
noncomputable def Q8 {X xw C e i} (h):=Bx.mk (@Sd.Q8 X xw C e i (Bx.h h))
noncomputable def yq {X xw C a i pos} (ha):=Bx.mk (@Sd.yq X xw C a i pos (Bx.h ha))
noncomputable def YE {X xw C a b i j pos op o} (hc ha hb) (hm):=Bx.mk (@Sd.YE X xw C a b i j pos op o hc (Bx.h ha) (Bx.h hb) hm)
noncomputable def ya {X xw C a i} (ha) (he):=Bx.mk (@Sd.ya X xw C a i (Bx.h ha) he)
noncomputable def JD {X xw C a b i j pos rest} (ha hb):=Bx.mk (@Sd.JD X xw C a b i j pos rest (Bx.h ha) (Bx.h hb))
noncomputable def yX {X xw C a b i j pos rest} (ha hb):=Bx.mk (@Sd.yX X xw C a b i j pos rest (Bx.h ha) (Bx.h hb))
noncomputable def JJ {X xw C a i pos} (ha):=Bx.mk (@Sd.JJ X xw C a i pos (Bx.h ha))
noncomputable def yz {X xw C a i pos} (ha):=Bx.mk (@Sd.yz X xw C a i pos (Bx.h ha))
noncomputable def Q9 {X xw C}:=Bx.mk (@Sd.Q9 X xw C)
noncomputable def JG {X xw C c i} (h):=Bx.mk (@Sd.JG X xw C c i (Bx.h h))
noncomputable def uF {X xw C e tg i} (he):=Bx.mk (@Sd.uF X xw C e tg i (Bx.h he))
noncomputable def JO {X xw C a tg i pos p} (hm ha) (hg hs):=Bx.mk (@Sd.JO X xw C a tg i pos p hm (Bx.h ha) hg hs)
noncomputable def Je {X xw C a b tg i j pos p} (hm ha) (hg hs hs2):=Bx.mk (@Sd.Je X xw C a b tg i j pos p hm (Bx.h ha) hg hs hs2)
noncomputable def JB {X pos n x} (hN) (hi hx hf):=Bx.mk (@Sd.JB X pos n x hN hi hx hf)
noncomputable def zW {X pos tgs q2 n m r} (hc h) (hn hst):=Bx.mk (@Sd.zW X pos tgs q2 n m r hc (Bx.h h) hn hst)
noncomputable def Jc {X}:=Bx.mk (@Sd.Jc X)
noncomputable def UP {X pos tgs n t x} (hN h2) (hi hx hf hs):=Bx.mk (@Sd.UP X pos tgs n t x hN (Bx.h h2) hi hx hf hs)
noncomputable def zL {X xw C}:=Bx.mk (@Sd.zL X xw C)
noncomputable def Jn {X xw C s0 ss m0 ms} (h1 h2):=Bx.mk (@Sd.Jn X xw C s0 ss m0 ms (Bx.h h1) (Bx.h h2))
noncomputable def yg {X xw C e i pos tg t} (he hg) (hs hw h1):=Bx.mk (@Sd.yg X xw C e i pos tg t (Bx.h he) (Bx.h hg) hs hw h1)
noncomputable def zo {X xw C e i pos p o ix io ii} (ho hi he) (ha hs hw h1):=Bx.mk (@Sd.zo X xw C e i pos p o ix io ii (Bx.h ho) (Bx.h hi) (Bx.h he) ha hs hw h1)
noncomputable def zG {X xw C e i pos} (he):=Bx.mk (@Sd.zG X xw C e i pos (Bx.h he))
noncomputable def Jb {X xw C e i pos} (he) (hs):=Bx.mk (@Sd.Jb X xw C e i pos (Bx.h he) hs)
noncomputable def ua {X xw C c k pos ms ms' sa sb} (hc ha hb):=Bx.mk (@Sd.ua X xw C c k pos ms ms' sa sb (Bx.h hc) (Bx.h ha) (Bx.h hb))
noncomputable def yb {X xw C tg it pos body ms w t} (hp hc hw hg hb) (hs):=Bx.mk (@Sd.yb X xw C tg it pos body ms w t hp hc (Bx.h hw) (Bx.h hg) (Bx.h hb) hs)
noncomputable def UE {X C s0 n}:=Bx.mk (@Sd.UE X C s0 n)
noncomputable def UB {X xw C e i pos p op o n x} (ho hN he) (hi hx hf):=Bx.mk (@Sd.UB X xw C e i pos p op o n x ho hN (Bx.h he) hi hx hf)
noncomputable def Uf {X xw C c k pos ms body} (hp hc hb):=Bx.mk (@Sd.Uf X xw C c k pos ms body hp (Bx.h hc) (Bx.h hb))
noncomputable def yF {X xw C a b i j pos p tp elts kk} (hm ha) (hg hs hs2):=Bx.mk (@Sd.yF X xw C a b i j pos p tp elts kk hm (Bx.h ha) hg hs hs2)
noncomputable def JF {X xw C a i pos p tp elts kk} (hm ha) (hg hs):=Bx.mk (@Sd.JF X xw C a i pos p tp elts kk hm (Bx.h ha) hg hs)
noncomputable def Vm {X xw C e i o io apos cpos} (ho ha) (hbase hfew hline hs hplain):=Bx.mk (@Sd.Vm X xw C e i o io apos cpos (Bx.h ho) (Bx.h ha) hbase hfew hline hs hplain)
noncomputable def zB {X xw C a b i j pos n m x y px py pt kt k2 pt2} (hc hN ha) (hnm hi hj hx hy hw hs):=Bx.mk (@Sd.zB X xw C a b i j pos n m x y px py pt kt k2 pt2 hc hN (Bx.h ha) hnm hi hj hx hy hw hs)
noncomputable def Jl {X xw C a i pos p p2 p3 T U t u k0 p4} (ht hu hm hmT hmU ha) (hg hgT hgU hvT hvU hnT hdT hnU hdU hs0 hs00 hs1 hs2 hpl):=Bx.mk (@Sd.Jl X xw C a i pos p p2 p3 T U t u k0 p4 ht hu hm hmT hmU (Bx.h ha) hg hgT hgU hvT hvU hnT hdT hnU hdU hs0 hs00 hs1 hs2 hpl)
noncomputable def Ww {X xw C e i pos p kp kp2 q0} (hm ha) (hg he hpl):=Bx.mk (@Sd.Ww X xw C e i pos p kp kp2 q0 hm (Bx.h ha) hg he hpl)
noncomputable def JW {X xw C a b tg i j pos p p2 p3} (hmr hm ha) (hgr hg hs hs2):=Bx.mk (@Sd.JW X xw C a b tg i j pos p p2 p3 hmr hm (Bx.h ha) hgr hg hs hs2)
noncomputable def UA {X xw C tg it pos elt ifs is ie scope N cap nl w t} (hc hN CS hi) (hb:∀c s H p,Bx _/\Bx _/\Bx _) (hs):=Bx.mk (@Sd.UA X xw C tg it pos elt ifs is ie scope N cap nl w t hc hN CS (Bx.h hi) (λc s H p=>bx3 (hb c s H p)) hs)
noncomputable def UW {X xw C pos elt t1 i1 t2 i2 f1' f2' is js ie scope N cap nl w w2 t u} (hc hN CSc hi) (hb:∀c s H p,Bx _/\Bx _/\Bx _/\Bx _/\Bx _/\Bx _) (hs hs2):=Bx.mk (@Sd.UW X xw C pos elt t1 i1 t2 i2 f1' f2' is js ie scope N cap nl w w2 t u hc hN CSc (Bx.h hi) (λc s H p=>bx6 (hb c s H p)) hs hs2)
noncomputable def Us {X xw C tg it pos elt ifs is ie scope N cap nl w t n y spos py} (hc hN CSc hi) (hb:∀c s H p,Bx _/\Bx _/\Bx _) (hsw hy hx hf hs):=Bx.mk (@Sd.Us X xw C tg it pos elt ifs is ie scope N cap nl w t n y spos py hc hN CSc (Bx.h hi) (λc s H p=>bx3 (hb c s H p)) hsw hy hx hf hs)
noncomputable def Vr {X xw C pos elt t1 i1 t2 i2 f1' f2' is js ie scope N cap nl w w2 t u n y spos py} (hc hN CSc hi) (hb:∀c s H p,Bx _/\Bx _/\Bx _/\Bx _/\Bx _/\Bx _) (hsw hy hx hf hs hs2):=Bx.mk (@Sd.Vr X xw C pos elt t1 i1 t2 i2 f1' f2' is js ie scope N cap nl w w2 t u n y spos py hc hN CSc (Bx.h hi) (λc s H p=>bx6 (hb c s H p)) hsw hy hx hf hs hs2)
noncomputable def uc {X xw C e i} (h):=Bx.mk (@Sd.CWh.ct X xw C e i (Bx.h h))
end Wr
namespace Gn
open PySem PySem.Spec PyProof.Rows L2
open Ev (D Ob Store Lc R E Sm Calls Walk Fl Fn Bop Cop Ty Bf Mf)
open Sd (spF CompScope cxC hu7 xk vm)
structure FR where
 x:Str
 st:Stmt
 N:List Str
 k:Nat
noncomputable def FR.ps (r:FR):List Str:=r.N.take r.k
noncomputable def scB (N:List Str) (k:Nat) (sc:Scope):Bool:=
 (match sc.kind with | .function=>true | _=>false)&&(!sc.isCoroutine&&(!sc.isGenerator&&(decide N.Nodup&&((N.take k).all (λx=>decide (sc.names.lookup x=some .local)||decide (sc.names.lookup x=some .cell))&&sc.names.all λy=>decide (y.2≠.free)))))
theorem Zbk {N:List Str}{k:Nat}{sc:Scope}(h:scB N k sc=true):FnScope N (N.take k) sc:=by
 unfold scB at h;simp only[Pz,Bool.not_eq_true',decide_eq_true_eq,PP,Bool.or_eq_true] at h;obtain⟨h1,h2,h3,h4,h5,h6⟩:=h;refine⟨?_,h2,h3,h4,?_,h5,h6⟩
 ·cases e:sc.kind <;> rw[e] at h1 <;> first | rfl | cases h1
 ·rw[NE]
  by_cases hk:k<=N.length
  ·rw[Nat.min_eq_left hk]
  ·rw[Nat.min_eq_right (by omega),List.take_length,List.take_of_length_le (by omega)]
structure Top (K:PySem.W.Frag) (mg:Str->Option Value) (fs:List FR) (zs:List Str) (f:Nat->Addr) (fd:Nat->FuncData):Prop where
 d:∀i r,fs[i]? = some r->Fun K r.x r.x r.st (f i) (fd i)
 b:∀i r,fs[i]? = some r->Binds K (fd i) r.ps []
 m:∀i r,fs[i]? = some r->mg r.x=some (.ref (f i))
 z:∀x∈zs,mg x=none
def All (P:Program) (w:World) (K:PySem.W.Frag) (mg:Str->Option Value) (base:Heap) (fs:List FR) (F:List Fn) (f:Nat->Addr) (fd:Nat->FuncData) (d:Nat):Prop:=
 ∀i r,fs[i]? = some r->FnOk P w K mg base CX0 d (f i) (fd i) r.ps (spF K (Ev.calls F d) i)
def Bd (fs:List FR) (zs:List Str) (F:List Fn) (i:Nat) (r:FR) (fn:Fn):Prop:=
 ∀(P:Program) (w:World) (K:PySem.W.Frag) (mg:Str->Option Value) (base:Heap) (f:Nat->Addr) (fd:Nat->FuncData) (d:Nat),Top K mg fs zs f fd->All P w K mg base fs F f fd d->r.N.Nodup->
  ∀(cdv:Value) (A:Around) (outer:List Env) (s:Shared) (H:Hp) (E:XK),Room d (A.deeper (envOfC r.x (ZF r.st) s.heap.objs.size (f i) cdv))->(A.deeper (envOfC r.x (ZF r.st) s.heap.objs.size (f i) cdv)).units+7<cLine->
   Bx (Sd.CSs (zg CX0 P w K mg base r.N r.x (ZF r.st) (f i) cdv A outer s H E).nox (λ_ _=>False) (Ev.calls F d) (Yt r.st) fn.body)
noncomputable def OkL (fs:List FR) (zs:List Str) (F:List Fn):Nat->List FR->List Fn->Prop
 |_,[],[]=>True
 |i,r::rs,fn::fns=>(fn.ns=r.N.length/\fn.ps=r.ps.length/\scB r.N r.k (ZF r.st)=true/\Bd fs zs F i r fn)/\OkL fs zs F (i+1) rs fns
 |_,_,_=>False
theorem OkL.get {fs:List FR}{zs:List Str}{F:List Fn}:∀{rs:List FR}{fns:List Fn}{i0:Nat},OkL fs zs F i0 rs fns->∀i r,rs[i]? = some r->∃fn,fns[i]? = some fn/\fn.ns=r.N.length/\fn.ps=r.ps.length/\scB r.N r.k (ZF r.st)=true/\Bd fs zs F (i0+i) r fn
 |[],_,_,_,i,r,e=>by simp at e
 |_::_,[],_,h,_,_,_=>h.elim
 |r::rs,fn::fns,i0,h,0,r',e=>by
  simp at e;subst e;exact⟨fn,rfl,h.1.1,h.1.2.1,h.1.2.2.1,h.1.2.2.2⟩
 |r::rs,fn::fns,i0,h,i+1,r',e=>by
  obtain⟨g,a,b,c,d,q⟩:=OkL.get h.2 i r' (by simpa using e)
  exact⟨g,by simpa using a,b,c,d,by rw[Nat.add_assoc,Nat.add_comm 1 i] at q;exact q⟩
theorem v0 {P:Program}{w:World}{K:PySem.W.Frag}{mg:Str->Option Value}{base:Heap}{fs:List FR}{zs:List Str}{F:List Fn}{f:Nat->Addr}{fd:Nat->FuncData}(O:OkL fs zs F 0 fs F) (T:Top K mg fs zs f fd):∀d,All P w K mg base fs F f fd d
 |0=>λi r h=>xk
 |d+1=>λi r h=>by
  obtain⟨fn,a,b,c,e,q⟩:=O.get i r h;rw[Nat.zero_add] at q;have S:=Zbk e;exact Sd.jB a b c (T.d i r h) S λcdv A outer s H E hr=>(q P w K mg base f fd d T (v0 O T d) S.nd cdv A outer s H E hr (hu7 hr)).h
def U9 (r:FR):Prop:=∀(kV doc pm:Value) (an:Option Addr) (cdv ct:Value) (us:List Value),us.length=r.ps.length->bindArgs (PySem.W.fnOf r.x r.x (YW r.st) (Yt r.st) (ZF r.st) .none kV doc pm an cdv ct) ⟨us,[]⟩=pure (r.ps.zip us)
section
variable {x:Str}{st:Stmt}
noncomputable abbrev bA (x:Str) (st:Stmt) (kV doc pm:Value) (an:Option Addr) (cdv ct:Value) (us:List Value):=bindArgs (PySem.W.fnOf x x (YW st) (Yt st) (ZF st) .none kV doc pm an cdv ct) ⟨us,[]⟩
theorem bd1 {N:List Str}{n:Nat}(h:∀kV doc pm an cdv ct a0,bA x st kV doc pm an cdv ct [a0]=pure ((N.take n).zip [a0])) (hl:(N.take n).length=1:=by rfl):U9 ⟨x,st,N,n⟩:=λkV doc pm an cdv ct us e=>match us,e.trans hl with | [a0],_=>h kV doc pm an cdv ct a0
theorem bd2 {N:List Str}{n:Nat}(h:∀kV doc pm an cdv ct a0 a1,bA x st kV doc pm an cdv ct [a0,a1]=pure ((N.take n).zip [a0,a1])) (hl:(N.take n).length=2:=by rfl):U9 ⟨x,st,N,n⟩:=λkV doc pm an cdv ct us e=>match us,e.trans hl with | [a0,a1],_=>h kV doc pm an cdv ct a0 a1
theorem bd3 {N:List Str}{n:Nat}(h:∀kV doc pm an cdv ct a0 a1 a2,bA x st kV doc pm an cdv ct [a0,a1,a2]=pure ((N.take n).zip [a0,a1,a2])) (hl:(N.take n).length=3:=by rfl):U9 ⟨x,st,N,n⟩:=λkV doc pm an cdv ct us e=>match us,e.trans hl with | [a0,a1,a2],_=>h kV doc pm an cdv ct a0 a1 a2
theorem bd4 {N:List Str}{n:Nat}(h:∀kV doc pm an cdv ct a0 a1 a2 a3,bA x st kV doc pm an cdv ct [a0,a1,a2,a3]=pure ((N.take n).zip [a0,a1,a2,a3])) (hl:(N.take n).length=4:=by rfl):U9 ⟨x,st,N,n⟩:=λkV doc pm an cdv ct us e=>match us,e.trans hl with | [a0,a1,a2,a3],_=>h kV doc pm an cdv ct a0 a1 a2 a3
end
inductive FnsAt (K:PySem.W.Frag):List FR->List Addr->List FuncData->Prop
 |nil:FnsAt K [] [] []
 |cons {x:Str} {st:Stmt} {N:List Str} {n:Nat} {a:Addr} {rs:List FR} {as:List Addr} {fds:List FuncData} {oc kV dc pm cd ct:Value} {od an:Option Addr} {sl:Array (Option Value)}
   (h1:PySem.W.nsIn K mainGlobals x=some (some (.ref a))) (h2:K.lookup a=some ⟨oc,od,.func (PySem.W.fnOf x x (YW st) (Yt st) (ZF st) .none kV dc pm an cd ct),sl⟩)
   (h3:PySem.W.codeIn K cd x=true) (h4:PySem.W.keepIn K (.ref a)=true) (h5:U9 ⟨x,st,N,n⟩) (t:FnsAt K rs as fds) :
   FnsAt K (⟨x,st,N,n⟩::rs) (a::as) (PySem.W.fnOf x x (YW st) (Yt st) (ZF st) .none kV dc pm an cd ct::fds)
inductive ZsAt (K:PySem.W.Frag):List Str->Prop
 |nil:ZsAt K []
 |cons {x:Str} {zs:List Str} (h:PySem.W.nsIn K mainGlobals x=some none) (t:ZsAt K zs):ZsAt K (x::zs)
theorem FnsAt.get {K:PySem.W.Frag}{fd0:FuncData}:∀{fs:List FR}{as:List Addr}{fds:List FuncData},FnsAt K fs as fds->∀i r,fs[i]? = some r->
  PySem.W.nsIn K mainGlobals r.x=some (some (.ref (as.getD i 0)))/\Fun K r.x r.x r.st (as.getD i 0) (fds.getD i fd0)/\U9 r
 |_,_,_,.nil,i,r,e=>by simp at e
 |_,_,_,.cons h1 h2 h3 h4 h5 t,0,r,e=>by
  simp at e;subst e;exact⟨h1,Zaq h2 h3 h4,h5⟩
 |_,_,_,.cons h1 h2 h3 h4 h5 t,i+1,r,e=>by
  obtain⟨a,b,c⟩:=t.get i r (by simpa using e)
  exact⟨by simpa using a,by simpa using b,c⟩
theorem ZsAt.get {K:PySem.W.Frag}:∀{zs:List Str},ZsAt K zs->∀x∈zs,PySem.W.nsIn K mainGlobals x=some none
 |_,.nil,x,h=>by simp at h
 |_,.cons h t,x,m=>by
  rcases Po.mp m with rfl | m
  ·exact h
  ·exact t.get x m
theorem Zbb {l:PySem.W.OpenLaw}{w:World}{K:PySem.W.Frag}{h:Heap}{mg:Str->Option Value}{fa:Addr}{fs:List FR}{zs:List Str}{F:List Fn}{L:Nat}{st:Stmt}{N:List Str}{as:List Addr}{fds:List FuncData}
  (X:K.In h) (G:h.Ns mainGlobals mg) (hfa:mg "law" = some (.ref fa)) (hL:fs[L]? = some ⟨"law",st,"_law_script" :: N,1⟩) (O:OkL fs zs F 0 fs F) (A:FnsAt K fs as fds) (Z:ZsAt K zs) :
  ∃fd:FuncData,(∀(s:Shared) (v:Value),BindsTo s fd ⟨[v],[]⟩ [("_law_script",v)])/\∀base:Heap,K.In base->base.Ns mainGlobals mg->FnOk l.prog w K mg base CX0 65 fa fd ["_law_script"] (spF K (Ev.calls F 65) L):=by
 cases fds with
 |nil=>cases A;simp at hL
 |cons fd0 fds'=>
 have T:Top K mg fs zs (λi=>as.getD i 0) (λi=>(fd0::fds').getD i fd0):=
  ⟨λi r e=>(A.get i r e).2.1,λi r e=>by
   obtain⟨_,F,B⟩:=A.get (fd0:=fd0) i r e;exact F.binds B,λi r e=>PySem.W.mg_of X G (A.get (fd0:=fd0) i r e).1,λx hx=>PySem.W.mg_none_of X G (Z.get x hx)⟩
 have e:=hfa.symm.trans (T.m L _ hL);obtain⟨_,Fu,B⟩:=A.get (fd0:=fd0) L _ hL;cases e;refine⟨(fd0::fds').getD L fd0,λs v=>?_,λbase _ _=>v0 O T 65 L _ hL⟩
 obtain⟨oc,od,kV,doc,pm,an,cdv,ct,osl,e,lk,hcd⟩:=Fu.ex;rw[e];exact .of_eq (B kV doc pm an cdv ct [v] rfl)
theorem walk {l:PySem.W.OpenLaw}{q:Program}{loose:List Str}{XP:(Str->Option Value)->Heap->Prop}{YP:World->Heap->Prop}{d:DefRec}{K:Params->PySem.W.Frag}{F:List Fn}{L:Nat}(hok:∀ns:List Int,∃S,Ev.calls F 65 L [.loc 0] [.scr ns]=.ok (.bl true) S) (hn:l.most=some 63) (hdf:d.params.defaults=[])
  (hY:∀(w:World) (h:Heap),YP w h->(K w.params).In h)
  (hF:∀(w:World) (mg:Str->Option Value) (fa:Addr) (h:Heap),(K w.params).In h->h.Ns mainGlobals mg->mg d.name=some (.ref fa)->
   ∃fd:FuncData,(∀(s:Shared) (u:Value),BindsTo s fd ⟨[u],[]⟩ [("_law_script",u)])/\∀base:Heap,(K w.params).In base->base.Ns mainGlobals mg->FnOk l.prog w (K w.params) mg base CX0 65 fa fd ["_law_script"] (spF (K w.params) (Ev.calls F 65) L)) :
  PySem.W.WalkO q loose XP YP l.row.toRowW d [] (λf vs=>PySem.call f vs):=
 L2.jy (n:=63) (k:=65) (x:="_law_script") (CX:=λ_=>CX0) (sp:=λw=>spF (K w.params) (Ev.calls F 65) L) hn (by decide) hdf ⟨rfl,by decide,by decide⟩ hY hF (λw H a ns hl hO hS=>vm hO hS (hok ns)) λ_ _ _ _ _ z=>z
section
variable {X:Cx}{xw:Nat->Hp->Prop}{C:Calls}{e a b:Expr}{i j:E}{es:List Expr}{is:List E}{pos p p2 p3:Pos}{fs:List FR}{zs:List Str}{F:List Fn}{f:Nat->Addr}{fd:Nat->FuncData}{d:Nat}
theorem Top.no {K:PySem.W.Frag}{mg:Str->Option Value}{x:Str}(T:Top K mg fs zs f fd) (h:zs.contains x=true):mg x=none:=T.z x (by simpa using h)
theorem ZbI {n:Nat}{x:Str}(T:Top X.K X.mg fs zs f fd) (h:All X.prog X.w X.K X.mg X.base fs F f fd d) (hr:Room d X.A) (ha:Bx (Sd.CA X (λ_ _=>False) (Ev.calls F d) (e::es) is)) (hx:(fs[n]?).map FR.x=some x) (hg:Gl X x) (hdb:(x == ("__debug__" : Str))=false)
  (he:starEach (e::es) X.env=(false,eval e X.env)::starEach es X.env) (hpl:(backTo pos (starEach es X.env)).any (·.1)=false):Bx (Sd.CE X (λ_ _=>False) (Ev.calls F d) (.Call (.Name x p) (e::es) [] pos) (.call n is)):=by
 cases e0:fs[n]? with
 |none=>rw[e0] at hx;cases hx
 |some r=>
  rw[e0] at hx;obtain rfl:r.x=x:=Pb hx;exact⟨Sd.jU (h n r e0) hr (T.m n r e0) (T.d n r e0).kp (T.b n r e0) ha.h hg hdb he hpl⟩
noncomputable def csB (sc:Scope) (N0:List Str) (scope:Scope) (N:List Str) (cap:List Nat) (nl:Nat):Bool:=
 ((N.take nl).all (λx=>decide (scope.names.lookup x=some .local))&&(decide (N.length=nl+cap.length)&&(cap.zipIdx.all (λp=>decide (N[nl+p.2]? = N0[p.1]?)&&decide ((N0[p.1]?).map (λx=>decide ((x,NameKind.free)∈scope.names))=some true)) &&
  ((match scope.kind with | .function=>true | _=>false)&&scope.names.all λy=>decide (y.2≠.cell)&&((!decide (y.2=.local)||decide (scope.names.lookup y.1=some .local))&&(!decide (y.2=.free)||((decide (sc.names.lookup y.1=some .cell)||decide (sc.names.lookup y.1=some .free))&&decide (scope.names.lookup y.1≠some .local))))))))
theorem ZI {sc:Scope}{N0:List Str}{scope:Scope}{N:List Str}{cap:List Nat}{nl:Nat}(h:csB sc N0 scope N cap nl=true):CompScope sc N0 scope N cap nl:=by
 unfold csB at h;simp only[Pz,Bool.or_eq_true,Bool.not_eq_true',decide_eq_true_eq,decide_eq_false_iff_not,PP] at h;obtain⟨_,h1,h2,h3,h4⟩:=h;refine⟨?_,λy hy=>(h4 y hy).1,λy hy z=>?_,λy hy z=>?_,λy hy z=>?_,h1,h2⟩
 ·cases e:scope.kind <;> rw[e] at h3 <;> first | rfl | cases h3
 ·rcases (h4 y hy).2.1 with q | q
  ·exact absurd z q
  ·exact q
 ·rcases (h4 y hy).2.2 with q | q
  ·exact absurd z q
  ·exact q.1
 ·rcases (h4 y hy).2.2 with q | q
  ·exact absurd z q
  ·exact q.2
end
end Gn
namespace Pv
open Ev
open PySem (Str)
inductive V where
 |non | bl (b:Bool) | int (i:Int) | str (x:Str) | tup (xs:List V) | lst (xs:List V) | drw
 deriving Inhabited
noncomputable abbrev DS:=Int×Bool
inductive PR (α:Type) where
 |ok (a:α) (s:DS) | ex (c:Nat) (s:DS) | no
noncomputable def PR.bind {α β:Type} (r:PR α) (f:α->DS->PR β):PR β:=match r with
 |.ok a s=>f a s
 |.ex c s=>.ex c s
 |.no=>.no
noncomputable def po {α:Type} (o:Option α) (s:DS):PR α:=match o with
 |some a=>.ok a s
 |none=>.no
noncomputable abbrev Env:=List (Option V)
mutual
noncomputable def V.flat:V->Bool
 |.tup xs=>flats xs
 |.lst _=>false
 |.drw=>false
 |_=>true
noncomputable def flats:List V->Bool
 |[]=>true
 |x::xs=>x.flat&&flats xs
end
mutual
noncomputable def toD:V->D
 |.non=>.non
 |.bl b=>.bl b
 |.int i=>.int i
 |.str x=>.str x
 |.tup xs=>.tup (Yx xs)
 |_=>.non
noncomputable def Yx:List V->List D
 |[]=>[]
 |x::xs=>toD x::Yx xs
end
mutual
noncomputable def ofD:D->Option V
 |.non=>some .non
 |.bl b=>some (.bl b)
 |.int i=>some (.int i)
 |.str x=>some (.str x)
 |.tup xs=>(x8 xs).map .tup
 |_=>none
noncomputable def x8:List D->Option (List V)
 |[]=>some []
 |x::xs=>match ofD x,x8 xs with
  |some a,some b=>some (a::b)
  |_,_=>none
end
noncomputable def Yd:V->Option Bool
 |.non=>some false
 |.bl b=>some b
 |.int i=>some (decide (i≠0))
 |.tup xs=>some (!xs.isEmpty)
 |.lst xs=>some (!xs.isEmpty)
 |_=>none
noncomputable def Ws (f:V->V->Option Bool):List V->List V->Option Bool
 |[],[]=>some true
 |x::xs,y::ys=>match f x y,Ws f xs ys with
  |some a,some b=>some (a&&b)
  |_,_=>none
 |_,_=>some false
noncomputable def eqV:Nat->V->V->Option Bool
 |0,_,_=>none
 |k+1,x,y=>match x,y with
  |.non,.non=>some true
  |.bl a,.bl b=>some (decide (a=b))
  |.int a,.int b=>some (decide (a=b))
  |.bl a,.int b=>some (decide (b2i a=b))
  |.int a,.bl b=>some (decide (a=b2i b))
  |.str a,.str b=>some (decide (a=b))
  |.tup xs,.tup ys=>Ws (eqV k) xs ys
  |.lst xs,.lst ys=>if xs.length=ys.length then Ws (eqV k) xs ys else some false
  |.non,.bl _ | .non,.int _ | .non,.str _ | .bl _,.non | .int _,.non | .str _,.non=>some false
  |.bl _,.str _ | .int _,.str _ | .str _,.bl _ | .str _,.int _=>some false
  |_,_=>none
noncomputable def VQ (x:V):List V->Option Bool
 |[]=>some false
 |y::ys=>match eqV Zk y x,VQ x ys with
  |some a,some b=>some (a||b)
  |_,_=>none
noncomputable def GN:V->Ty->Option Bool
 |.non,_=>some false
 |.bl _,t=>some (decide (t=.bool\/t=.int))
 |.int _,t=>some (decide (t=.int))
 |.str _,t=>some (decide (t=.str))
 |.tup _,t=>some (decide (t=.tuple))
 |.lst _,t=>some (decide (t=.list))
 |_,_=>none
noncomputable def Xr (x:V):List Ty->Option Bool
 |[]=>some false
 |t::ts=>match GN x t with
  |some true=>some true
  |some false=>Xr x ts
  |none=>none
noncomputable def Xj (xs:List V) (lo hi:Option Int):List V:=(xs.drop (sIx xs.length 0 lo)).take (sIx xs.length xs.length hi-sIx xs.length 0 lo)
noncomputable def VS (op:Bop) (x y:V) (s:DS):PR V:=match op,x,y with
 |.add,.int a,.int b=>.ok (.int (a+b)) s
 |.sub,.int a,.int b=>.ok (.int (a-b)) s
 |.mul,.int a,.int b=>if (fits a&&fits b)=true then .ok (.int (a*b)) s else .no
 |.fdiv,.int a,.int b=>if 0<b/\b<1073741824 then .ok (.int (a / b)) s else .no
 |.mod,.int a,.int b=>if 0<b then .ok (.int (a%b)) s else .no
 |.pow,.int a,.int b=>if 0<=b/\b<=1000/\a.natAbs<2^64 then .ok (.int (a^b.toNat)) s else .no
 |.add,.tup a,.tup b=>if a.length+b.length<=lim then .ok (.tup (a++b)) s else .no
 |.mul,.tup a,.int b=>if 0<=b/\b<1000/\a.length<=1000 then .ok (.tup (List.replicate b.toNat a).flatten) s else .no
 |.mul,.lst a,.int b=>if 0<=b/\b<1000/\a.length<=1000 then .ok (.lst (List.replicate b.toNat a).flatten) s else .no
 |.add,.lst a,.lst b=>if a.length+b.length<=lim then .ok (.lst (a++b)) s else .no
 |_,_,_=>.no
noncomputable def xW (op:Bop) (x y:V) (s:DS):PR V:=match x,y with
 |.int _,.int _=>VS op x y s
 |_,_=>.no
noncomputable def XZ (x y:V):Option Bool:=match y with
 |.tup ys=>VQ x ys
 |.lst ys=>VQ x ys
 |_=>none
noncomputable def Xh:V->Bool
 |.non=>true
 |_=>false
noncomputable def Wg (op:Cop) (x y:V):Option V:=match op with
 |.eq=>(eqV Zk x y).map .bl
 |.ne=>(eqV Zk x y).map λb=>.bl !b
 |.lt=>match x,y with
  |.int a,.int b=>some (.bl (decide (a<b)))
  |_,_=>none
 |.gt=>match x,y with
  |.int a,.int b=>some (.bl (decide (b<a)))
  |_,_=>none
 |.le=>match x,y with
  |.int a,.int b=>some (.bl (decide (a<=b)))
  |_,_=>none
 |.ge=>match x,y with
  |.int a,.int b=>some (.bl (decide (b<=a)))
  |_,_=>none
 |.is=>match x,y with
  |_,.non=>some (.bl (Xh x))
  |.bl a,.bl b=>some (.bl (decide (a=b)))
  |_,_=>none
 |.isn=>match x,y with
  |_,.non=>some (.bl !(Xh x))
  |.bl a,.bl b=>some (.bl (decide (a≠b)))
  |_,_=>none
 |.inn=>(XZ x y).map .bl
 |.nin=>(XZ x y).map λb=>.bl !b
noncomputable def ixV (x y:V):Option V:=match x,y with
 |.tup xs,.int i=>at' xs i
 |.lst xs,.int i=>at' xs i
 |_,_=>none
noncomputable def slV (x:V) (lo hi:Option Int):Option V:=match x with
 |.tup xs=>some (.tup (Xj xs lo hi))
 |.lst xs=>some (.lst (Xj xs lo hi))
 |_=>none
noncomputable def ZcA:V->Option V
 |.tup xs=>some (.tup xs.reverse)
 |_=>none
noncomputable def JR:V->Option Bool
 |.non=>some false
 |.bl b=>some b
 |.int i=>some (decide (i≠0))
 |_=>none
noncomputable def ZW:List V->Option (List Bool)
 |[]=>some []
 |x::xs=>match JR x,ZW xs with
  |some b,some bs=>some (b::bs)
  |_,_=>none
noncomputable def intsV:List V->Option (List Int)
 |[]=>some []
 |.int i::r=>(intsV r).map (i :: ·)
 |_::_=>none
noncomputable def Zd (r:List Int):V:=.tup (r.map .int)
noncomputable def YK:List V->Option (List (List Int))
 |[]=>some []
 |.tup x::r=>match intsV x,YK r with
  |some a,some b=>some (a::b)
  |_,_=>none
 |_::_=>none
noncomputable def Za (P:List (List Int)):V:=.tup (P.map Zd)
noncomputable def Vh:V->Option (List (List Int))
 |.tup ks=>YK ks
 |_=>none
noncomputable def Xy:List V->Option (List (List (List Int)))
 |[]=>some []
 |x::r=>match Vh x,Xy r with
  |some a,some b=>some (a::b)
  |_,_=>none
noncomputable def wm:List V->Bool
 |.tup (.int _::_)::_=>true
 |_=>false
noncomputable def Z5:V->Option (List V)
 |.tup xs=>some xs
 |.lst xs=>some xs
 |_=>none
noncomputable def U1 (f:Bf) (as:List V):Option V:=match f,as with
 |.len,[x]=>(Z5 x).map λxs=>.int xs.length
 |.max2,[.int a,.int b]=>some (.int (if b>a then b else a))
 |.min2,[.int a,.int b]=>some (.int (if b<a then b else a))
 |.toInt,[.int a]=>some (.int a)
 |.toInt,[.bl b]=>some (.int (b2i b))
 |.tuple,[x]=>(Z5 x).map .tup
 |.list,[x]=>(Z5 x).map .lst
 |.all,[.lst xs]=>(ZW xs).map λbs=>.bl (bs.all id)
 |.any,[x]=>(Z5 x).bind λxs=>(ZW xs).map λbs=>.bl (bs.any id)
 |.sum,[.lst xs]=>(intsV xs).bind λis=>if Xz is=true then some (.int is.sum) else none
 |.sorted,[.lst xs]=>if wm xs=true then (YK xs).bind λrs=>if ZZ rs=true then some (.lst ((ZG rs).map Zd)) else none else (Xy xs).bind λps=>if Z3 ps=true then some (.lst ((Yc ltP ps).map Za)) else none
 |.sortedR,[.lst xs]=>(YK xs).bind λrs=>if ZZ rs=true then some (.lst ((ZG rs).reverse.map Zd)) else none
 |_,_=>none
noncomputable def YI:List Nat->List V->Env->Option Env
 |[],[],ρ=>some ρ
 |i::t,x::xs,ρ=>YI t xs (ρ.set i (some x))
 |_,_,_=>none
noncomputable def Zs (t:List Nat) (x:V) (ρ:Env):Option Env:=match t with
 |[i]=>some (ρ.set i (some x))
 |t=>match Z5 x with
  |some xs=>YI t xs ρ
  |none=>none
noncomputable def Yv (lo:Int) (n:Nat):List V:=(List.range n).map λ(k:Nat)=>.int (lo+(k:Int))
noncomputable abbrev Zv:=Nat->List V->DS->PR V
noncomputable def Z8 (cap:List Nat) (nl:Nat) (ρ:Env):Env:=List.replicate nl none++cap.map λi=>(ρ[i]?).join
noncomputable def mapP (f:V->DS->PR (List V)):List V->DS->PR (List V)
 |[],s=>.ok [] s
 |x::xs,s=>match f x s with
  |.ok ys s=>match mapP f xs s with
   |.ok zs s=>.ok (ys++zs) s
   |_=>.no
  |_=>.no
noncomputable def own (nl:Nat) (t:List Nat):Bool:=t.all λi=>decide (i<nl)
noncomputable def own2 (nl:Nat) (t u:List Nat):Bool:=own nl t&&u.all λi=>decide (i<nl) && !t.contains i
mutual
noncomputable def pv (C:Zv):E->Env->DS->PR V
 |.c d,_,s=>po (ofD d) s
 |.v i,ρ,s=>po (ρ[i]?).join s
 |.tup es,ρ,s=>(pvs C es ρ s).bind λxs s=>if xs.length<=lim then .ok (.tup xs) s else .no
 |.lst es,ρ,s=>(pvs C es ρ s).bind λxs s=>if xs.length<=lim then .ok (.lst xs) s else .no
 |.dnew,_,_=>.no
 |.dput1 _ _,_,_=>.no
 |.bin op a b,ρ,s=>(pv C a ρ s).bind λx s=>(pv C b ρ s).bind λy s=>VS op x y s
 |.neg a,ρ,s=>(pv C a ρ s).bind λx s=>match x with
  |.int i=>.ok (.int (-i)) s
  |_=>.no
 |.not a,ρ,s=>(pv C a ρ s).bind λx s=>(po (Yd x) s).bind λb s=>.ok (.bl !b) s
 |.and a b,ρ,s=>(pv C a ρ s).bind λx s=>match x with
  |.bl c=>if c then pv C b ρ s else .ok (.bl false) s
  |_=>.no
 |.or a b,ρ,s=>(pv C a ρ s).bind λx s=>match x with
  |.bl c=>if c then .ok (.bl true) s else pv C b ρ s
  |_=>.no
 |.ite t a b,ρ,s=>(pv C t ρ s).bind λx s=>(po (Yd x) s).bind λc s=>if c then pv C a ρ s else pv C b ρ s
 |.cmp op a b,ρ,s=>(pv C a ρ s).bind λx s=>(pv C b ρ s).bind λy s=>po (Wg op x y) s
 |.chain o p a b d,ρ,s=>(pv C a ρ s).bind λx s=>(pv C b ρ s).bind λy s=>(po (Wg o x y) s).bind λz s=>match z with
  |.bl c=>if c then (pv C d ρ s).bind λw s=>po (Wg p y w) s else .ok (.bl false) s
  |_=>.no
 |.ix a i,ρ,s=>(pv C a ρ s).bind λx s=>(pv C i ρ s).bind λy s=>po (ixV x y) s
 |.sl a lo hi,ρ,s=>(pv C a ρ s).bind λx s=>(pvo C lo ρ s).bind λl s=>(pvo C hi ρ s).bind λh s=>po (slV x l h) s
 |.rev a,ρ,s=>(pv C a ρ s).bind λx s=>po (ZcA x) s
 |.call f as,ρ,s=>(pvs C as ρ s).bind λxs s=>C f xs s
 |.blt f as,ρ,s=>(pvs C as ρ s).bind λxs s=>po (U1 f xs) s
 |.mt _ _ _,_,_=>.no
 |.isi a ts,ρ,s=>(pv C a ρ s).bind λx s=>(po (Xr x ts) s).bind λb s=>.ok (.bl b) s
 |.inT a tab,ρ,s=>(pv C a ρ s).bind λx s=>match x with
  |.int i=>.ok (.bl ((tab.map (·.1)).contains i)) s
  |_=>.no
 |.getT tab a,ρ,s=>(pv C a ρ s).bind λx s=>match x with
  |.int i=>(po (tab.lookup i) s).bind λj s=>.ok (.int j) s
  |_=>.no
 |.comp1 cap nl t it ifs elt,ρ,s=>if own nl t=true then (pvw C it ρ s).bind λw s=>
   (mapP (λx s=>(po (Zs t x (Z8 cap nl ρ)) s).bind λσ s=>(pvt C ifs σ s).bind λb s=>if b then (pv C elt σ s).bind λy s=>.ok [y] s else .ok [] s) w s).bind
    λys s=>if ys.length<=lim then .ok (.lst ys) s else .no
  else .no
 |.comp2 cap nl t it ifs u jt jfs elt,ρ,s=>if own2 nl t u=true then (pvw C it ρ s).bind λw s=>
   (mapP (λx s=>(po (Zs t x (Z8 cap nl ρ)) s).bind λσ s=>(pvt C ifs σ s).bind λb s=>if b then
    (pvw C jt σ s).bind λw2 s=>mapP (λx s=>(po (Zs u x σ) s).bind λσ s=>(pvt C jfs σ s).bind λb s=>if b then (pv C elt σ s).bind λy s=>.ok [y] s else .ok [] s) w2 s
    else .ok [] s) w s).bind
    λys s=>if ys.length<=lim then .ok (.lst ys) s else .no
  else .no
 |.fstr,_,_=>.no
noncomputable def pvs (C:Zv):List E->Env->DS->PR (List V)
 |[],_,s=>.ok [] s
 |e::es,ρ,s=>(pv C e ρ s).bind λx s=>(pvs C es ρ s).bind λxs s=>.ok (x::xs) s
noncomputable def pvo (C:Zv):Option E->Env->DS->PR (Option Int)
 |none,_,s=>.ok none s
 |some e,ρ,s=>(pv C e ρ s).bind λx s=>match x with
  |.int i=>.ok (some i) s
  |_=>.no
noncomputable def pvt (C:Zv):List E->Env->DS->PR Bool
 |[],_,s=>.ok true s
 |e::es,ρ,s=>(pv C e ρ s).bind λx s=>(po (Yd x) s).bind λb s=>if b then pvt C es ρ s else .ok false s
noncomputable def pvw (C:Zv):W->Env->DS->PR (List V)
 |.rng1 a,ρ,s=>(pv C a ρ s).bind λx s=>match x with
  |.int i=>if small i then .ok (Yv 0 i.toNat) s else .no
  |_=>.no
 |.rng2 a b,ρ,s=>(pv C a ρ s).bind λx s=>(pv C b ρ s).bind λy s=>match x,y with
  |.int i,.int j=>if (small i&&small j)=true then .ok (Yv i (j-i).toNat) s else .no
  |_,_=>.no
 |.rrng a b,ρ,s=>(pv C a ρ s).bind λx s=>(pv C b ρ s).bind λy s=>match x,y with
  |.int i,.int j=>if (small i&&small j)=true then .ok (Yv i (j-i).toNat).reverse s else .no
  |_,_=>.no
 |.zip a b,ρ,s=>(pv C a ρ s).bind λx s=>(pv C b ρ s).bind λy s=>match Z5 x,Z5 y with
  |some v,some w=>.ok ((v.zip w).map λp=>.tup [p.1,p.2]) s
  |_,_=>.no
 |.enum a,ρ,s=>(pv C a ρ s).bind λx s=>match Z5 x with
  |some w=>.ok (((Yv 0 w.length).zip w).map λp=>.tup [p.1,p.2]) s
  |none=>.no
 |.of e,ρ,s=>(pv C e ρ s).bind λx s=>po (Z5 x) s
end
inductive FlV where | nx (ρ:Env) (os:List Nat) | ret (v:V) | brk (ρ:Env) (os:List Nat) | cnt (ρ:Env) (os:List Nat)
noncomputable def hide (os:List Nat) (ρ:Env):Env:=ρ.mapIdx λi o=>if os.contains i then none else o
noncomputable def fresh:E->Bool
 |.lst _=>true
 |.comp1 .. => true
 |.comp2 .. => true
 |.bin .mul (.lst _) _=>true
 |.blt .list _=>true
 |.blt .sorted _=>true
 |_=>false
noncomputable def pvA (C:Zv) (e:E) (ρ:Env) (os:List Nat) (s:DS):PR V:=match os with
 |[]=>pv C e ρ s
 |os=>match pv C e (hide os ρ) s with
  |.ok v s=>.ok v s
  |.ex c s=>.ex c s
  |.no=>(pv C e ρ s).bind λv s=>if v.flat then .ok v s else .no
noncomputable def ZbN (C:Zv) (es:List E) (ρ:Env) (os:List Nat) (s:DS):PR (List V):=match os with
 |[]=>pvs C es ρ s
 |_=>(pvs C es ρ s).bind λv s=>if flats v then .ok v s else .no
noncomputable def Vj (C:Zv) (e:E) (ρ:Env) (s:DS):PR Bool:=(pv C e ρ s).bind λx s=>po (Yd x) s
noncomputable def Vk (body:V->Env->List Nat->DS->PR FlV):List V->Env->List Nat->DS->PR FlV
 |[],ρ,os,s=>.ok (.nx ρ os) s
 |x::xs,ρ,os,s=>(body x ρ os s).bind λf s=>match f with
  |.nx ρ os=>Vk body xs ρ os s
  |.cnt ρ os=>Vk body xs ρ os s
  |.brk ρ os=>.ok (.nx ρ os) s
  |.ret v=>.ok (.ret v) s
noncomputable def Y4 (test:Env->DS->PR Bool) (body:Env->List Nat->DS->PR FlV):Nat->Env->List Nat->DS->PR FlV
 |0,_,_,_=>.no
 |n+1,ρ,os,s=>(test ρ s).bind λb s=>if b then (body ρ os s).bind λf s=>match f with
  |.nx ρ os=>Y4 test body n ρ os s
  |.cnt ρ os=>Y4 test body n ρ os s
  |.brk ρ os=>.ok (.nx ρ os) s
  |.ret v=>.ok (.ret v) s
  else .ok (.nx ρ os) s
noncomputable def Wm:Option (Option V)->Option (List V)
 |some (some (.lst xs))=>some xs
 |_=>none
mutual
noncomputable def rv (C:Zv) (ms:List Nat):Sm->Env->List Nat->DS->PR FlV
 |.asg [i] e,ρ,os,s=>(pvA C e ρ os s).bind λv s=>if (ms.contains i&&fresh e)=true then match v with
   |.lst xs=>if flats xs=true/\i<ρ.length then .ok (.nx (ρ.set i (some v)) (i::os.filter (· != i))) s else .no
   |_=>.no
  else .ok (.nx (ρ.set i (some v)) (os.filter (· != i))) s
 |.asg t e,ρ,os,s=>(pvA C e ρ os s).bind λv s=>if (t.any os.contains)=true then .no else (po (Zs t v ρ) s).bind λρ s=>.ok (.nx ρ os) s
 |.par t es,ρ,os,s=>(ZbN C es ρ os s).bind λvs s=>if (t.any os.contains)=true then .no else (po (YI t vs ρ) s).bind λρ s=>.ok (.nx ρ os) s
 |.aug i op e,ρ,os,s=>if os.contains i then .no else (po (ρ[i]?).join s).bind λx s=>(pv C e ρ s).bind λy s=>(xW op x y s).bind λz s=>.ok (.nx (ρ.set i (some z)) os) s
 |.put (.v i) k e,ρ,os,s=>if os.contains i then (pv C e ρ s).bind λv s=>if v.flat then (po (Wm ρ[i]?) s).bind λxs s=>(pv C k ρ s).bind λy s=>match y with
   |.int n=>(po (ixN xs.length n) s).bind λj s=>.ok (.nx (ρ.set i (some (.lst (xs.set j v)))) os) s
   |_=>.no
  else .no else .no
 |.put _ _ _,_,_,_=>.no
 |.dput _ _ _,_,_,_=>.no
 |.ret e,ρ,os,s=>(pv C e ρ s).bind λv s=>.ok (.ret v) s
 |.ex (.mt .append (.v i) [e]),ρ,os,s=>if os.contains i then (po (Wm ρ[i]?) s).bind λxs s=>(pv C e ρ s).bind λv s=>if v.flat=true/\xs.length<lim then .ok (.nx (ρ.set i (some (.lst (xs++[v])))) os) s else .no else .no
 |.ex (.mt .extend (.v i) [e]),ρ,os,s=>if os.contains i then (po (Wm ρ[i]?) s).bind λxs s=>(pv C e (hide os ρ) s).bind λv s=>match v with
   |.lst ys=>if flats ys=true/\xs.length+ys.length<=lim then .ok (.nx (ρ.set i (some (.lst (xs++ys)))) os) s else .no
   |_=>.no
  else .no
 |.ex e,ρ,os,s=>(pv C e ρ s).bind λ_ s=>.ok (.nx ρ os) s
 |.ite t a b,ρ,os,s=>(Vj C t ρ s).bind λc s=>if c then rvs C ms a ρ os s else rvs C ms b ρ os s
 |.forr t it b,ρ,os,s=>(pvw C it (hide os ρ) s).bind λw s=>Vk (λx ρ os s=>if (t.any os.contains)=true then .no else if (os.isEmpty||x.flat)=true then (po (Zs t x ρ) s).bind λρ s=>rvs C ms b ρ os s else .no) w ρ os s
 |.whl t b,ρ,os,s=>Y4 (Vj C t) (rvs C ms b) WF ρ os s
 |.raise c as,ρ,os,s=>(pvs C as ρ s).bind λ_ s=>.ex c s
 |.pas,ρ,os,s=>.ok (.nx ρ os) s
 |.brk,ρ,os,s=>.ok (.brk ρ os) s
 |.cnt,ρ,os,s=>.ok (.cnt ρ os) s
noncomputable def rvs (C:Zv) (ms:List Nat):List Sm->Env->List Nat->DS->PR FlV
 |[],ρ,os,s=>.ok (.nx ρ os) s
 |m::ss,ρ,os,s=>(rv C ms m ρ os s).bind λf s=>match f with
  |.nx ρ os=>rvs C ms ss ρ os s
  |f=>.ok f s
end
mutual
noncomputable def muts1:Sm->List Nat
 |.put (.v i) _ _=>[i]
 |.ex (.mt .append (.v i) _)=>[i]
 |.ex (.mt .extend (.v i) _)=>[i]
 |.ite _ a b=>muts a++muts b
 |.forr _ _ b=>muts b
 |.whl _ b=>muts b
 |_=>[]
noncomputable def muts:List Sm->List Nat
 |[]=>[]
 |m::ss=>muts1 m++muts ss
end
noncomputable def Xw (n:Nat) (xs:List V):Env:=xs.map some++List.replicate (n-xs.length) none
noncomputable def takeF (s:DS) (m:Int):Int×DS:=
 if s.2 then (s.1%m,(s.1 / m,true)) else
  let x:=(s.1*48271+29)%2147483647
  let y:=(x*x+39373*x+7)%2147483629
  let z:=(y*y+16807*y)%2147483587
  (z / 8%m,(x,false))
noncomputable def takeV (vs:List V) (s:DS):PR V:=match vs with
 |[.drw,.int m]=>if 0<m/\m<1073741824 then .ok (.int (takeF s m).1) (takeF s m).2 else .no
 |_=>.no
noncomputable def ZP (F:List Fn) (tk:Nat):Nat->Zv
 |0,_,_,_=>.no
 |d+1,f,xs,s=>if f=tk then takeV xs s else match F[f]? with
  |some fn=>if xs.length=fn.ps then (rvs (ZP F tk d) (muts fn.body) fn.body (Xw fn.ns xs) [] s).bind λf s=>match f with
    |.ret v=>.ok v s
    |.nx _ _=>.ok .non s
    |_=>.no
   else .no
  |none=>.no
end Pv
namespace Pv
open Ev
mutual
noncomputable def Rep (S:Store) (X:Nat->Prop) (n0:Nat):V->D->Prop
 |.non,d=>d=.non
 |.bl b,d=>d=.bl b
 |.int i,d=>d=.int i
 |.str x,d=>d=.str x
 |.tup vs,d=>∃ds,d=.tup ds/\Reps S X n0 vs ds
 |.lst vs,d=>∃n ds,d=.loc n/\S[n]? = some (.lst ds)/\¬X n/\Reps S X n0 vs ds
 |.drw,d=>d=.loc n0
noncomputable def Reps (S:Store) (X:Nat->Prop) (n0:Nat):List V->List D->Prop
 |[],ds=>ds=[]
 |v::vs,ds=>∃d es,ds=d::es/\Rep S X n0 v d/\Reps S X n0 vs es
end
section
variable {S S':Store}{X X':Nat->Prop}{n0:Nat}
theorem Y1 {n:Nat}{o:Ob}(h:S[n]? = some o):n<S.length:=(Pq.mp h).1
mutual
theorem Rep.mono (k:∀n o,¬X n->S[n]? = some o->S'[n]? = some o) (x:∀n,n<S.length->X' n->X n):∀{v:V}{d:D},Rep S X n0 v d->Rep S' X' n0 v d
 |.non,_,h | .bl _,_,h | .int _,_,h | .str _,_,h | .drw,_,h=>by unfold Rep at h ⊢;exact h
 |.tup vs,d,h=>by
  unfold Rep at h ⊢;obtain⟨ds,e,r⟩:=h;exact⟨ds,e,Reps.mono k x r⟩
 |.lst vs,d,h=>by
  unfold Rep at h ⊢;obtain⟨n,ds,e,hs,hx,r⟩:=h;exact⟨n,ds,e,k n _ hx hs,λz=>hx (x n (Y1 hs) z),Reps.mono k x r⟩
theorem Reps.mono (k:∀n o,¬X n->S[n]? = some o->S'[n]? = some o) (x:∀n,n<S.length->X' n->X n):∀{vs:List V}{ds:List D},Reps S X n0 vs ds->Reps S' X' n0 vs ds
 |[],_,h=>by unfold Reps at h ⊢;exact h
 |v::vs,ds,h=>by
  unfold Reps at h ⊢;obtain⟨d,es,e,r,rs⟩:=h;exact⟨d,es,e,Rep.mono k x r,Reps.mono k x rs⟩
end
theorem Reps.nil:Reps S X n0 [] []:=by unfold Reps;rfl
theorem Reps.cons {v:V}{d:D}{vs:List V}{ds:List D}(r:Rep S X n0 v d) (rs:Reps S X n0 vs ds):Reps S X n0 (v::vs) (d::ds):=by unfold Reps;exact⟨d,ds,rfl,r,rs⟩
theorem Reps.nil' {ds:List D}(h:Reps S X n0 [] ds):ds=[]:=by unfold Reps at h;exact h
theorem Reps.cons' {v:V}{vs:List V}{ds:List D}(h:Reps S X n0 (v::vs) ds):∃d es,ds=d::es/\Rep S X n0 v d/\Reps S X n0 vs es:=by unfold Reps at h;exact h
theorem Reps.length:∀{vs:List V}{ds:List D},Reps S X n0 vs ds->ds.length=vs.length
 |[],_,h=>by rw[h.nil'];rfl
 |v::vs,_,h=>by obtain⟨d,es,rfl,_,t⟩:=h.cons';rw[PB,PB,Reps.length t]
theorem Reps.append:∀{vs ws:List V}{ds es:List D},Reps S X n0 vs ds->Reps S X n0 ws es->Reps S X n0 (vs++ws) (ds++es)
 |[],_,_,_,h,r=>by rw[h.nil'];exact r
 |v::vs,_,_,_,h,r=>by obtain⟨d,es,rfl,a,t⟩:=h.cons';exact Reps.cons a (Reps.append t r)
theorem Reps.take:∀{vs:List V}{ds:List D}(k:Nat),Reps S X n0 vs ds->Reps S X n0 (vs.take k) (ds.take k)
 |_,_,0,_=>Reps.nil
 |[],_,k+1,h=>by rw[h.nil'];exact Reps.nil
 |v::vs,_,k+1,h=>by obtain⟨d,es,rfl,a,t⟩:=h.cons';exact Reps.cons a (Reps.take k t)
theorem Reps.drop:∀{vs:List V}{ds:List D}(k:Nat),Reps S X n0 vs ds->Reps S X n0 (vs.drop k) (ds.drop k)
 |_,_,0,h=>h
 |[],_,k+1,h=>by rw[h.nil'];exact Reps.nil
 |v::vs,_,k+1,h=>by obtain⟨d,es,rfl,a,t⟩:=h.cons';exact Reps.drop k t
theorem Reps.get:∀{vs:List V}{ds:List D}{i:Nat}{v:V},Reps S X n0 vs ds->vs[i]? = some v->∃d,ds[i]? = some d/\Rep S X n0 v d
 |[],_,_,_,_,e=>by simp at e
 |v::vs,_,0,_,h,e=>by
  obtain⟨d,es,rfl,a,t⟩:=h.cons';simp at e;subst e;exact⟨d,rfl,a⟩
 |v::vs,_,i+1,_,h,e=>by
  obtain⟨d,es,rfl,a,t⟩:=h.cons';obtain⟨u,q,r⟩:=Reps.get (i:=i) t (by simpa using e)
  exact⟨u,by simpa using q,r⟩
theorem Reps.reverse:∀{vs:List V}{ds:List D},Reps S X n0 vs ds->Reps S X n0 vs.reverse ds.reverse
 |[],_,h=>by rw[h.nil'];exact Reps.nil
 |v::vs,_,h=>by
  obtain⟨d,es,rfl,a,t⟩:=h.cons';rw[List.reverse_cons,List.reverse_cons];exact Reps.append (Reps.reverse t) (Reps.cons a Reps.nil)
theorem Reps.rep {vs:List V}{ds:List D}(h:Reps S X n0 vs ds):∀k:Nat,Reps S X n0 (List.replicate k vs).flatten (List.replicate k ds).flatten
 |0=>Reps.nil
 |k+1=>by rw[PZ,PZ,P6,P6];exact Reps.append h (Reps.rep h k)
theorem Reps.empty:∀{vs:List V}{ds:List D},Reps S X n0 vs ds->ds.isEmpty=vs.isEmpty
 |[],_,h=>by rw[h.nil'];rfl
 |v::vs,_,h=>by obtain⟨d,es,rfl,_,_⟩:=h.cons';rfl
mutual
theorem XH:∀{v:V}{d:D},v.flat=true->Rep S X n0 v d->d=toD v
 |.non,_,_,h | .bl _,_,_,h | .int _,_,_,h | .str _,_,_,h=>by unfold Rep at h;exact h
 |.tup vs,d,hf,h=>by
  unfold Rep at h;obtain⟨ds,rfl,r⟩:=h;exact congrArg D.tup (Xc hf r)
 |.lst _,_,hf,_=>by cases hf
 |.drw,_,hf,_=>by cases hf
theorem Xc:∀{vs:List V}{ds:List D},flats vs=true->Reps S X n0 vs ds->ds=Yx vs
 |[],_,_,h=>h.nil'
 |v::vs,_,hf,h=>by
  obtain⟨d,es,rfl,a,t⟩:=h.cons';unfold flats at hf;obtain⟨h1,h2⟩:=(Pz _ _).mp hf;rw[XH h1 a,Xc h2 t];rfl
end
mutual
theorem Ui:∀{v:V},v.flat=true->Rep S X n0 v (toD v)
 |.non,_ | .bl _,_ | .int _,_ | .str _,_=>by unfold Rep;rfl
 |.tup vs,hf=>by unfold Rep;exact⟨Yx vs,rfl,Wf hf⟩
 |.lst _,hf=>by cases hf
 |.drw,hf=>by cases hf
theorem Wf:∀{vs:List V},flats vs=true->Reps S X n0 vs (Yx vs)
 |[],_=>Reps.nil
 |v::vs,hf=>by
  unfold flats at hf;obtain⟨h1,h2⟩:=(Pz _ _).mp hf;exact Reps.cons (Ui h1) (Wf h2)
end
theorem Rep.int' {i:Int}{d:D}(h:Rep S X n0 (.int i) d):d=.int i:=by unfold Rep at h;exact h
theorem Rep.bl' {i:Bool}{d:D}(h:Rep S X n0 (.bl i) d):d=.bl i:=by unfold Rep at h;exact h
theorem Rep.non' {d:D}(h:Rep S X n0 .non d):d=.non:=by unfold Rep at h;exact h
theorem Rep.str' {x:PySem.Str}{d:D}(h:Rep S X n0 (.str x) d):d=.str x:=by unfold Rep at h;exact h
theorem Rep.tup' {vs:List V}{d:D}(h:Rep S X n0 (.tup vs) d):∃ds,d=.tup ds/\Reps S X n0 vs ds:=by unfold Rep at h;exact h
theorem Rep.lst' {vs:List V}{d:D}(h:Rep S X n0 (.lst vs) d):∃n ds,d=.loc n/\S[n]? = some (.lst ds)/\¬X n/\Reps S X n0 vs ds:=by unfold Rep at h;exact h
theorem Rep.drw' {d:D}(h:Rep S X n0 .drw d):d=.loc n0:=by unfold Rep at h;exact h
theorem Zn (i:Int):Rep S X n0 (.int i) (.int i):=by unfold Rep;rfl
theorem Zq (i:Bool):Rep S X n0 (.bl i) (.bl i):=by unfold Rep;rfl
theorem W6:Rep S X n0 .non .non:=by unfold Rep;rfl
theorem ZN {vs:List V}{ds:List D}(h:Reps S X n0 vs ds):Rep S X n0 (.tup vs) (.tup ds):=by unfold Rep;exact⟨ds,rfl,h⟩
theorem Jo {vs:List V}{n:Nat}{ds:List D}(hs:S[n]? = some (.lst ds)) (hx:¬X n) (h:Reps S X n0 vs ds):Rep S X n0 (.lst vs) (.loc n):=by unfold Rep;exact⟨n,ds,rfl,hs,hx,h⟩
theorem Zw {n:Nat}{ds:List D}(h:S[n]? = some (.lst ds)):Zi S n=some ds:=by unfold Zi;rw[h]
theorem V9 {n:Nat}{ds:List D}(h:S[n]? = some (.lst ds)):Z2 S n=some ds:=by unfold Z2;rw[h]
mutual
theorem yK:∀{d:D}{v:V},ofD d=some v->Rep S X n0 v d
 |.non,v,h | .bl _,v,h | .int _,v,h | .str _,v,h=>by cases h;unfold Rep;rfl
 |.tup ds,v,h=>by
  unfold ofD at h;cases q:x8 ds with
  |none=>rw[q] at h;cases h
  |some vs=>rw[q] at h;cases h;exact ZN (GS q)
 |.loc _,_,h | .fn _,_,h | .exc _ _,_,h=>by cases h
theorem GS:∀{ds:List D}{vs:List V},x8 ds=some vs->Reps S X n0 vs ds
 |[],vs,h=>by cases h;exact Reps.nil
 |d::ds,vs,h=>by
  unfold x8 at h;cases q:ofD d with
  |none=>rw[q] at h;cases h
  |some a=>
   cases q2:x8 ds with
   |none=>rw[q,q2] at h;cases h
   |some b=>rw[q,q2] at h;cases h;exact Reps.cons (yK q) (GS q2)
end
theorem YL {v:V}{d:D}{b:Bool}(r:Rep S X n0 v d) (h:Yd v=some b):truth S d=some b:=by
 cases v with
 |non=>cases r.non';exact h
 |bl x=>cases r.bl';exact h
 |int x=>cases r.int';exact h
 |str x=>cases h
 |drw=>cases h
 |tup vs=>
  obtain⟨ds,rfl,rs⟩:=r.tup';show some (!ds.isEmpty)=some b;rw[rs.empty];exact h
 |lst vs=>
  obtain⟨n,ds,rfl,hs,_,rs⟩:=r.lst';show (Z2 S n).map _=some b;rw[V9 hs];show some (!ds.isEmpty)=some b;rw[rs.empty];exact h
theorem zK {f:V->V->Option Bool}{g:D->D->Option Bool}(hf:∀v w d e b,Rep S X n0 v d->Rep S X n0 w e->f v w=some b->g d e=some b):∀{vs ws:List V}{ds es:List D}{b:Bool},Reps S X n0 vs ds->Reps S X n0 ws es->Ws f vs ws=some b->eqL g ds es=some b
 |[],[],_,_,b,h1,h2,h=>by rw[h1.nil',h2.nil'];exact h
 |[],w::ws,_,_,b,h1,h2,h=>by rw[h1.nil'];obtain⟨d,es,rfl,_,_⟩:=h2.cons';exact h
 |v::vs,[],_,_,b,h1,h2,h=>by rw[h2.nil'];obtain⟨d,es,rfl,_,_⟩:=h1.cons';exact h
 |v::vs,w::ws,_,_,b,h1,h2,h=>by
  obtain⟨d,ds,rfl,a1,t1⟩:=h1.cons';obtain⟨e,es,rfl,a2,t2⟩:=h2.cons';unfold Ws at h;cases q1:f v w with
  |none=>rw[q1] at h;cases h
  |some x=>
   cases q2:Ws f vs ws with
   |none=>rw[q1,q2] at h;cases h
   |some y=>
    rw[q1,q2] at h;unfold eqL;rw[hf v w d e x a1 a2 q1,zK hf t1 t2 q2];exact h
theorem UC:∀(k:Nat) (v w:V) (d e:D) (b:Bool),Rep S X n0 v d->Rep S X n0 w e->eqV k v w=some b->eqD S k d e=some b
 |0,_,_,_,_,_,_,_,h=>by cases h
 |k+1,v,w,d,e,b,r1,r2,h=>by
  cases v with
  |tup vs=>cases w with
   |tup ws=>
    obtain⟨ds,rfl,t1⟩:=r1.tup';obtain⟨es,rfl,t2⟩:=r2.tup';exact zK (UC k) t1 t2 h
   |_=>cases h
  |lst vs=>cases w with
   |lst ws=>
    obtain⟨m,ds,rfl,hs1,_,t1⟩:=r1.lst';obtain⟨n,es,rfl,hs2,_,t2⟩:=r2.lst';have h':(if vs.length=ws.length then Ws (eqV k) vs ws else some false)=some b:=h
    show (match Zi S m,Zi S n with
     |some xs,some ys=>if xs.length=ys.length then eqL (eqD S k) xs ys else some false
     |_,_=>none)=some b
    rw[Zw hs1,Zw hs2];show (if ds.length=es.length then eqL (eqD S k) ds es else some false)=some b
    rw[t1.length,t2.length];by_cases c:vs.length=ws.length
    ·rw[Ph c] at h' ⊢;exact zK (UC k) t1 t2 h'
    ·rw[Pi c] at h' ⊢;exact h'
   |_=>cases h
  |drw=>cases w <;> cases h
  |non=>cases r1.non';cases w with
   |non=>cases r2.non';exact h
   |bl _=>cases r2.bl';exact h
   |int _=>cases r2.int';exact h
   |str _=>cases r2.str';exact h
   |_=>cases h
  |bl x=>cases r1.bl';cases w with
   |non=>cases r2.non';exact h
   |bl _=>cases r2.bl';exact h
   |int _=>cases r2.int';exact h
   |str _=>cases r2.str';exact h
   |_=>cases h
  |int x=>cases r1.int';cases w with
   |non=>cases r2.non';exact h
   |bl _=>cases r2.bl';exact h
   |int _=>cases r2.int';exact h
   |str _=>cases r2.str';exact h
   |_=>cases h
  |str x=>cases r1.str';cases w with
   |non=>cases r2.non';exact h
   |bl _=>cases r2.bl';exact h
   |int _=>cases r2.int';exact h
   |str _=>cases r2.str';exact h
   |_=>cases h
theorem ym {x:V}{dx:D}(rx:Rep S X n0 x dx):∀{vs:List V}{ds:List D}{b:Bool},Reps S X n0 vs ds->VQ x vs=some b->inL S dx ds=some b
 |[],_,b,h,e=>by rw[h.nil'];exact e
 |v::vs,_,b,h,e=>by
  obtain⟨d,ds,rfl,a,t⟩:=h.cons';unfold VQ at e;cases q1:eqV Zk v x with
  |none=>rw[q1] at e;cases e
  |some y=>
   cases q2:VQ x vs with
   |none=>rw[q1,q2] at e;cases e
   |some z=>
    rw[q1,q2] at e;unfold inL;rw[UC _ _ _ _ _ _ a rx q1,ym rx t q2];exact e
theorem qY {v:V}{d:D}{t:Ty}{b:Bool}(r:Rep S X n0 v d) (h:GN v t=some b):Ga S d t=some b:=by
 cases v with
 |non=>cases r.non';exact h
 |bl x=>cases r.bl';exact h
 |int x=>cases r.int';exact h
 |str x=>cases r.str';exact h
 |drw=>cases h
 |tup vs=>obtain⟨ds,rfl,rs⟩:=r.tup';exact h
 |lst vs=>
  obtain⟨n,ds,rfl,hs,_,rs⟩:=r.lst';show (match S[n]? with
   |some (.lst _)=>some (decide (t=.list))
   |some (.dt _)=>some (decide (t=.dict))
   |some (.dk _)=>some (decide (t=.dict))
   |_=>none)=some b
  rw[hs];exact h
theorem J4 {v:V}{d:D}(r:Rep S X n0 v d):∀{ts:List Ty}{b:Bool},Xr v ts=some b->UJ S d ts=some b
 |[],b,h=>h
 |t::ts,b,h=>by
  unfold Xr at h;unfold UJ;cases q:GN v t with
  |none=>rw[q] at h;cases h
  |some x=>
   rw[q] at h;rw[qY r q];cases x with
   |true=>exact h
   |false=>exact J4 r h
theorem jY {vs:List V}{ds:List D}{i:Int}{v:V}(r:Reps S X n0 vs ds) (h:at' vs i=some v):∃d,at' ds i=some d/\Rep S X n0 v d:=by
 unfold at' at h ⊢;rw[r.length];cases q:ixN vs.length i with
 |none=>rw[q] at h;cases h
 |some j=>rw[q] at h;exact r.get h
theorem ve {vs:List V}{ds:List D}{lo hi:Option Int}(r:Reps S X n0 vs ds):Reps S X n0 (Xj vs lo hi) (cut ds lo hi):=by
 unfold Xj cut;rw[r.length];exact (r.drop _).take _
theorem Vz:∀{vs:List V}{ds:List D}{is:List Int},Reps S X n0 vs ds->intsV vs=some is->Y7 ds=some is/\YH ds=some is
 |[],_,is,r,h=>by rw[r.nil'];cases h;exact⟨rfl,rfl⟩
 |v::vs,_,is,r,h=>by
  obtain⟨d,ds,rfl,a,t⟩:=r.cons';cases v with
  |int i=>
   cases a.int';have h':(intsV vs).map (i :: ·)=some is:=h
   cases q:intsV vs with
   |none=>rw[q] at h';cases h'
   |some js=>
    rw[q] at h';obtain⟨e1,e2⟩:=Vz t q;refine⟨?_,?_⟩
    ·show (Y7 ds).map (i :: ·)=some is;rw[e1];exact h'
    ·show (YH ds).map (i :: ·)=some is;rw[e2];exact h'
  |_=>cases h
theorem X3:∀{vs:List V}{ds:List D}{rs:List (List Int)},Reps S X n0 vs ds->YK vs=some rs->Z0 ds=some rs
 |[],_,rs,r,h=>by rw[r.nil'];cases h;rfl
 |v::vs,_,rs,r,h=>by
  obtain⟨d,ds,rfl,a,t⟩:=r.cons';cases v with
  |tup xs=>
   obtain⟨es,rfl,r2⟩:=a.tup';unfold YK at h;cases q1:intsV xs with
   |none=>rw[q1] at h;cases h
   |some x=>
    cases q2:YK vs with
    |none=>rw[q1,q2] at h;cases h
    |some y=>
     rw[q1,q2] at h;unfold Z0;have:Uk (.tup es)=some x:=(Vz r2 q1).2;rw[this,X3 t q2];exact h
  |_=>cases h
theorem GA:∀(is:List Int),Reps S X n0 (is.map V.int) (is.map D.int)
 |[]=>Reps.nil
 |i::is=>Reps.cons (Zn i) (GA is)
theorem WP:∀(rs:List (List Int)),Reps S X n0 (rs.map Zd) (rs.map XX)
 |[]=>Reps.nil
 |r::rs=>Reps.cons (ZN (GA r)) (WP rs)
theorem Ue:∀{vs:List V}{ds:List D}{ps:List (List (List Int))},Reps S X n0 vs ds->Xy vs=some ps->Ya ds=some ps
 |[],_,ps,r,h=>by rw[r.nil'];cases h;rfl
 |v::vs,_,ps,r,h=>by
  obtain⟨d,ds,rfl,a,t⟩:=r.cons';cases v with
  |tup xs=>
   obtain⟨es,rfl,r2⟩:=a.tup';unfold Xy at h;cases q1:YK xs with
   |none=>rw[show Vh (.tup xs)=none from q1] at h;cases h
   |some x=>
    cases q2:Xy vs with
    |none=>rw[show Vh (.tup xs)=some x from q1,q2] at h;cases h
    |some y=>
     rw[show Vh (.tup xs)=some x from q1,q2] at h
     unfold Ya;rw[show QW (.tup es)=some x from X3 r2 q1,Ue t q2];exact h
  |_=>cases h
theorem Qw:∀(ps:List (List (List Int))),Reps S X n0 (ps.map Za) (ps.map Vd)
 |[]=>Reps.nil
 |P::ps=>Reps.cons (ZN (WP P)) (Qw ps)
theorem Zbm {vs:List V}{ds:List D}(r:Reps S X n0 vs ds):wL ds=wm vs:=by
 cases vs with
 |nil=>rw[r.nil'];rfl
 |cons v vs=>
  obtain⟨d,ds,rfl,a,t⟩:=r.cons';cases v with
  |tup xs=>
   obtain⟨es,rfl,r2⟩:=a.tup';cases xs with
   |nil=>rw[r2.nil'];rfl
   |cons x xs=>
    obtain⟨e,es,rfl,b,t2⟩:=r2.cons';cases x with
    |non=>cases b.non';rfl
    |bl _=>cases b.bl';rfl
    |int _=>cases b.int';rfl
    |str _=>cases b.str';rfl
    |tup _=>obtain⟨_,rfl,_⟩:=b.tup';rfl
    |lst _=>obtain⟨_,_,rfl,_⟩:=b.lst';rfl
    |drw=>cases b.drw';rfl
  |non=>cases a.non';rfl
  |bl _=>cases a.bl';rfl
  |int _=>cases a.int';rfl
  |str _=>cases a.str';rfl
  |lst _=>obtain⟨_,_,rfl,_⟩:=a.lst';rfl
  |drw=>cases a.drw';rfl
theorem wQ {v:V}{d:D}{b:Bool}(r:Rep S X n0 v d) (h:JR v=some b):ptruth d=some b:=by
 cases v with
 |non=>cases r.non';exact h
 |bl x=>cases r.bl';exact h
 |int x=>cases r.int';exact h
 |_=>cases h
theorem VB:∀{vs:List V}{ds:List D}{bs:List Bool},Reps S X n0 vs ds->ZW vs=some bs->truths ds=some bs
 |[],_,bs,r,h=>by rw[r.nil'];exact h
 |v::vs,_,bs,r,h=>by
  obtain⟨d,ds,rfl,a,t⟩:=r.cons';unfold ZW at h;cases q1:JR v with
  |none=>rw[q1] at h;cases h
  |some x=>
   cases q2:ZW vs with
   |none=>rw[q1,q2] at h;cases h
   |some y=>
    rw[q1,q2] at h;unfold truths;rw[wQ a q1,VB t q2];exact h
theorem yw {v:V}{d:D}{vs:List V}(r:Rep S X n0 v d) (h:Z5 v=some vs):∃ds,YS S d=some ds/\Reps S X n0 vs ds:=by
 cases v with
 |tup xs=>obtain⟨ds,rfl,rs⟩:=r.tup';cases h;exact⟨ds,rfl,rs⟩
 |lst xs=>obtain⟨n,ds,rfl,hs,_,rs⟩:=r.lst';cases h;exact⟨ds,V9 hs,rs⟩
 |_=>cases h
end
structure Ext (n0:Nat) (S S':Store):Prop where
 len:S.length<=S'.length
 keep:∀n o,n≠n0->S[n]? = some o->S'[n]? = some o
theorem Ext.refl {n0:Nat}{S:Store}:Ext n0 S S:=⟨Pl _,λ_ _ _ h=>h⟩
theorem Ext.trans {n0:Nat}{S S1 S2:Store}(a:Ext n0 S S1) (b:Ext n0 S1 S2):Ext n0 S S2:=⟨P0 a.len b.len,λn o h e=>b.keep n o h (a.keep n o h e)⟩
theorem Ext.app {n0:Nat}{S T:Store}:Ext n0 S (S++T):=⟨by simp,λn o _ e=>by rw[Py (Y1 e)];exact e⟩
def Dw (n0:Nat) (S:Store) (s:DS):Prop:=S[n0]? = some (.lst [.int s.1,.bl s.2])/\0<=s.1/\(s.2=false->s.1<2147483647)
theorem Dw.app {n0:Nat}{S T:Store}{s:DS}(h:Dw n0 S s):Dw n0 (S++T) s:=⟨by rw[Py (Y1 h.1)];exact h.1,h.2⟩
structure Xok (X:Nat->Prop) (n0:Nat) (S:Store):Prop where
 z:X n0
 lt:∀n,X n->n<S.length
theorem Xok.ext {X:Nat->Prop}{n0:Nat}{S S':Store}(h:Xok X n0 S) (e:Ext n0 S S'):Xok X n0 S':=⟨h.z,λn x=>PJ (h.lt n x) e.len⟩
theorem Rep.ext {X:Nat->Prop}{n0:Nat}{S S':Store}{v:V}{d:D}(x:Xok X n0 S) (e:Ext n0 S S') (h:Rep S X n0 v d):Rep S' X n0 v d:=
 h.mono (λn o nx hs=>e.keep n o (λz=>nx (z▸x.z)) hs) λ_ _ h=>h
theorem Reps.ext {X:Nat->Prop}{n0:Nat}{S S':Store}{v:List V}{d:List D}(x:Xok X n0 S) (e:Ext n0 S S') (h:Reps S X n0 v d):Reps S' X n0 v d:=
 h.mono (λn o nx hs=>e.keep n o (λz=>nx (z▸x.z)) hs) λ_ _ h=>h
def Sim {α β:Type} (n0:Nat) (S:Store) (Rl:Store->β->α->Prop) (r:R α) (q:PR β):Prop:=match q with
 |.no=>True
 |.ok b s'=>∃a S',r=.ok a S'/\Ext n0 S S'/\Dw n0 S' s'/\Rl S' b a
 |.ex c s'=>∃S',r=.ex c S'/\Ext n0 S S'/\Dw n0 S' s'
section
variable {α β γ δ:Type}{n0:Nat}{S:Store}{X:Nat->Prop}
theorem Sim.bind {Rl:Store->β->α->Prop}{Rm:Store->δ->γ->Prop}{r:R α}{q:PR β}{f:α->Store->R γ}{g:β->DS->PR δ}(h:Sim n0 S Rl r q)
  (k:∀a b S' s',Ext n0 S S'->Dw n0 S' s'->Rl S' b a->Sim n0 S' Rm (f a S') (g b s')):Sim n0 S Rm (r.bind f) (q.bind g):=by
 cases q with
 |no=>exact True.intro
 |ex c s'=>
  obtain⟨S',e,x,w⟩:=h;rw[e];exact⟨S',rfl,x,w⟩
 |ok b s'=>
  obtain⟨a,S',e,x,w,rl⟩:=h;rw[e];have k':=k a b S' s' x w rl;show Sim n0 S Rm (f a S') (g b s');cases q2:g b s' with
  |no=>exact True.intro
  |ex c s2=>
   rw[q2] at k';obtain⟨S2,e2,x2,w2⟩:=k';exact⟨S2,e2,x.trans x2,w2⟩
  |ok b2 s2=>
   rw[q2] at k';obtain⟨a2,S2,e2,x2,w2,r2⟩:=k';exact⟨a2,S2,e2,x.trans x2,w2,r2⟩
theorem Sim.ok {Rl:Store->β->α->Prop}{a:α}{b:β}{s:DS}(w:Dw n0 S s) (r:Rl S b a):Sim n0 S Rl (.ok a S) (.ok b s):=⟨a,S,rfl,Ext.refl,w,r⟩
theorem Sim.app {Rl:Store->β->α->Prop}{a:α}{b:β}{s:DS}{T:Store}(w:Dw n0 S s) (r:Rl (S++T) b a):Sim n0 S Rl (.ok a (S++T)) (.ok b s):=⟨a,S++T,rfl,Ext.app,w.app,r⟩
theorem Sim.po {Rl:Store->β->α->Prop}{r:R α}{o:Option β}{s:DS}(h:∀b,o=some b->Sim n0 S Rl r (.ok b s)):Sim n0 S Rl r (po o s):=by
 cases o with
 |none=>exact True.intro
 |some b=>exact h b rfl
theorem Sim.obp {Rl:Store->β->α->Prop}{o':Option α}{o:Option β}{s:DS}(w:Dw n0 S s) (h:∀b,o=some b->∃a,o'=some a/\Rl S b a):Sim n0 S Rl (ob o' S) (Pv.po o s):=by
 cases o with
 |none=>exact True.intro
 |some b=>
  obtain⟨a,e,r⟩:=h b rfl;rw[e];exact Sim.ok w r
theorem Sim.guard {Rl:Store->β->α->Prop}{r r':R α}{q:PR β}{P:Prop}[Decidable P] (h:P->Sim n0 S Rl r q):Sim n0 S Rl (if P then r else r') (if P then q else .no):=by
 by_cases c:P
 ·rw[Ph c,Ph c];exact h c
 ·rw[Pi c,Pi c];exact True.intro
noncomputable abbrev RlV (X:Nat->Prop) (n0:Nat):Store->V->D->Prop:=λS v d=>Rep S X n0 v d
noncomputable abbrev qV (X:Nat->Prop) (n0:Nat):Store->List V->List D->Prop:=λS v d=>Reps S X n0 v d
noncomputable abbrev RlE {α:Type}:Store->α->α->Prop:=λ_ a b=>b=a
theorem Sim.new {vs:List V}{ds:List D}{s:DS}(x:Xok X n0 S) (w:Dw n0 S s) (r:Reps S X n0 vs ds):Sim n0 S (RlV X n0) (.ok (.loc S.length) (S++[.lst ds])) (.ok (.lst vs) s):=
 Sim.app w (Jo (by simp) (λz=>PX _ (x.lt _ z)) (r.ext x Ext.app))
theorem xr {op:Bop}{x y:V}{a b:D}{s:DS}(xo:Xok X n0 S) (w:Dw n0 S s) (rx:Rep S X n0 x a) (ry:Rep S X n0 y b):Sim n0 S (RlV X n0) (binop op a b S) (VS op x y s):=by
 have bad:∀r:R D,Sim n0 S (RlV X n0) r .no:=λ_=>True.intro
 cases x with
 |int i=>
  cases rx.int';cases y with
  |int j=>
   cases ry.int';cases op with
   |add=>exact Sim.ok w (Zn _)
   |sub=>exact Sim.ok w (Zn _)
   |mul=>exact Sim.guard λ_=>Sim.ok w (Zn _)
   |fdiv=>exact Sim.guard λ_=>Sim.ok w (Zn _)
   |mod=>exact Sim.guard λ_=>Sim.ok w (Zn _)
   |pow=>exact Sim.guard λ_=>Sim.ok w (Zn _)
  |_=>cases op <;> exact bad _
 |tup us=>
  obtain⟨ds,rfl,r1⟩:=rx.tup';cases y with
  |tup ws=>
   obtain⟨es,rfl,r2⟩:=ry.tup';cases op with
   |add=>
    show Sim n0 S (RlV X n0) (if ds.length+es.length<=lim then .ok (.tup (ds++es)) S else .no) (if us.length+ws.length<=lim then .ok (.tup (us++ws)) s else .no)
    rw[r1.length,r2.length];exact Sim.guard λ_=>Sim.ok w (ZN (r1.append r2))
   |_=>exact bad _
  |int j=>
   cases ry.int';cases op with
   |mul=>
    show Sim n0 S (RlV X n0) (if 0<=j/\j<1000/\ds.length<=1000 then .ok (.tup (List.replicate j.toNat ds).flatten) S else .no) (if 0<=j/\j<1000/\us.length<=1000 then .ok (.tup (List.replicate j.toNat us).flatten) s else .no)
    rw[r1.length];exact Sim.guard λ_=>Sim.ok w (ZN (r1.rep _))
   |_=>exact bad _
  |_=>cases op <;> exact bad _
 |lst us=>
  obtain⟨n,ds,rfl,hs,_,r1⟩:=rx.lst';cases y with
  |lst ws=>
   obtain⟨m,es,rfl,hs2,_,r2⟩:=ry.lst';cases op with
   |add=>
    show Sim n0 S (RlV X n0) (match Zi S n,Zi S m with
     |some a,some b=>if a.length+b.length<=lim then .ok (.loc S.length) (S++[.lst (a++b)]) else .no
     |_,_=>.no) (if us.length+ws.length<=lim then .ok (.lst (us++ws)) s else .no)
    rw[Zw hs,Zw hs2];show Sim n0 S (RlV X n0) (if ds.length+es.length<=lim then .ok (.loc S.length) (S++[.lst (ds++es)]) else .no) _
    rw[r1.length,r2.length];exact Sim.guard λ_=>Sim.new xo w (r1.append r2)
   |_=>exact bad _
  |int j=>
   cases ry.int';cases op with
   |mul=>
    show Sim n0 S (RlV X n0) (match Zi S n with
     |some a=>if 0<=j/\j<1000/\a.length<=1000 then .ok (.loc S.length) (S++[.lst (List.replicate j.toNat a).flatten]) else .no
     |none=>.no) (if 0<=j/\j<1000/\us.length<=1000 then .ok (.lst (List.replicate j.toNat us).flatten) s else .no)
    rw[Zw hs];show Sim n0 S (RlV X n0) (if 0<=j/\j<1000/\ds.length<=1000 then .ok (.loc S.length) (S++[.lst (List.replicate j.toNat ds).flatten]) else .no) _
    rw[r1.length];exact Sim.guard λ_=>Sim.new xo w (r1.rep _)
   |_=>exact bad _
  |_=>cases op <;> exact bad _
 |_=>cases op <;> exact bad _
theorem ji {op:Bop}{x y:V}{a b:D}{s:DS}(xo:Xok X n0 S) (w:Dw n0 S s) (rx:Rep S X n0 x a) (ry:Rep S X n0 y b):Sim n0 S (RlV X n0) (augop op a b S) (xW op x y s):=by
 cases x with
 |int i=>cases y with
  |int j=>
   have h:=xr (op:=op) xo w rx ry;cases rx.int';cases ry.int';exact h
  |_=>exact True.intro
 |_=>exact True.intro
theorem Jd {op:Cop}{x y:V}{a b:D}{s:DS}(w:Dw n0 S s) (rx:Rep S X n0 x a) (ry:Rep S X n0 y b):Sim n0 S (RlV X n0) (cmpop op a b S) (po (Wg op x y) s):=by
 have inn:∀z,XZ x y=some z->Wi S a b=.ok z S:=by
  intro z h;cases y with
  |tup ys=>
   obtain⟨ds,rfl,rs⟩:=ry.tup';show ob (inL S a ds) S=_;rw[ym rx rs h];rfl
  |lst ys=>
   obtain⟨n,ds,rfl,hs,_,rs⟩:=ry.lst';show ZaH S a S[n]? = _;rw[hs];show ob (inL S a ds) S=_;rw[ym rx rs h];rfl
  |_=>cases h
 refine Sim.po λv hv=>?_
 cases op with
 |eq=>
  have hv:(eqV Zk x y).map V.bl=some v:=hv;cases q:eqV Zk x y with
  |none=>rw[q] at hv;cases hv
  |some z=>
   rw[q] at hv;cases hv;show Sim n0 S (RlV X n0) ((ob (eqD S Zk a b) S).bind _) _;rw[UC _ _ _ _ _ _ rx ry q];exact Sim.ok w (Zq z)
 |ne=>
  have hv:(eqV Zk x y).map (λb=>V.bl !b)=some v:=hv
  cases q:eqV Zk x y with
  |none=>rw[q] at hv;cases hv
  |some z=>
   rw[q] at hv;cases hv;show Sim n0 S (RlV X n0) ((ob (eqD S Zk a b) S).bind _) _;rw[UC _ _ _ _ _ _ rx ry q];exact Sim.ok w (Zq _)
 |lt=>cases x <;> cases y <;> first | (cases hv;cases rx.int';cases ry.int';exact Sim.ok w (Zq _)) | cases hv
 |gt=>cases x <;> cases y <;> first | (cases hv;cases rx.int';cases ry.int';exact Sim.ok w (Zq _)) | cases hv
 |le=>cases x <;> cases y <;> first | (cases hv;cases rx.int';cases ry.int';exact Sim.ok w (Zq _)) | cases hv
 |ge=>cases x <;> cases y <;> first | (cases hv;cases rx.int';cases ry.int';exact Sim.ok w (Zq _)) | cases hv
 |is=>
  cases y with
  |non=>
   cases ry.non';have e:cmpop .is a .non S=.ok (.bl (Xh x)) S:=by
    cases x with
    |non=>cases rx.non';rfl
    |bl _=>cases rx.bl';rfl
    |int _=>cases rx.int';rfl
    |str _=>cases rx.str';rfl
    |tup _=>obtain⟨_,rfl,_⟩:=rx.tup';rfl
    |lst _=>obtain⟨_,_,rfl,_⟩:=rx.lst';rfl
    |drw=>cases rx.drw';rfl
   rw[e];have hv:some (V.bl (Xh x))=some v:=by cases x <;> exact hv
   cases hv;exact Sim.ok w (Zq _)
  |bl j=>cases x with
   |bl i=>cases rx.bl';cases ry.bl';cases hv;exact Sim.ok w (Zq _)
   |_=>cases hv
  |_=>cases x <;> cases hv
 |isn=>
  cases y with
  |non=>
   cases ry.non';have e:cmpop .isn a .non S=.ok (.bl !(Xh x)) S:=by
    cases x with
    |non=>cases rx.non';rfl
    |bl _=>cases rx.bl';rfl
    |int _=>cases rx.int';rfl
    |str _=>cases rx.str';rfl
    |tup _=>obtain⟨_,rfl,_⟩:=rx.tup';rfl
    |lst _=>obtain⟨_,_,rfl,_⟩:=rx.lst';rfl
    |drw=>cases rx.drw';rfl
   rw[e];have hv:some (V.bl !(Xh x))=some v:=by cases x <;> exact hv
   cases hv;exact Sim.ok w (Zq _)
  |bl j=>cases x with
   |bl i=>cases rx.bl';cases ry.bl';cases hv;exact Sim.ok w (Zq _)
   |_=>cases hv
  |_=>cases x <;> cases hv
 |inn=>
  have hv:(XZ x y).map V.bl=some v:=hv;cases q:XZ x y with
  |none=>rw[q] at hv;cases hv
  |some z=>
   rw[q] at hv;cases hv;show Sim n0 S (RlV X n0) ((Wi S a b).bind _) _;rw[inn z q];exact Sim.ok w (Zq _)
 |nin=>
  have hv:(XZ x y).map (λb=>V.bl !b)=some v:=hv
  cases q:XZ x y with
  |none=>rw[q] at hv;cases hv
  |some z=>
   rw[q] at hv;cases hv;show Sim n0 S (RlV X n0) ((Wi S a b).bind _) _;rw[inn z q];exact Sim.ok w (Zq _)
theorem Za0 {x y:V}{a b:D}{s:DS}(w:Dw n0 S s) (rx:Rep S X n0 x a) (ry:Rep S X n0 y b):Sim n0 S (RlV X n0) (getix a b S) (po (ixV x y) s):=by
 refine Sim.po λv hv=>?_
 cases x with
 |tup xs=>cases y with
  |int i=>
   obtain⟨ds,rfl,rs⟩:=rx.tup';cases ry.int';obtain⟨d,e,r⟩:=jY rs hv;show Sim n0 S (RlV X n0) (ob (at' ds i) S) _;rw[e];exact Sim.ok w r
  |_=>cases hv
 |lst xs=>cases y with
  |int i=>
   obtain⟨n,ds,rfl,hs,_,rs⟩:=rx.lst';cases ry.int';obtain⟨d,e,r⟩:=jY rs hv;show Sim n0 S (RlV X n0) (match Z2 S n with
    |some xs=>ob (at' xs i) S
    |none=>.no) _
   rw[V9 hs];show Sim n0 S (RlV X n0) (ob (at' ds i) S) _;rw[e];exact Sim.ok w r
  |_=>cases hv
 |_=>cases y <;> cases hv
theorem Zbn {x:V}{a:D}{s:DS}{lo hi:Option Int}(xo:Xok X n0 S) (w:Dw n0 S s) (rx:Rep S X n0 x a):Sim n0 S (RlV X n0) (slice a lo hi S) (po (slV x lo hi) s):=by
 refine Sim.po λv hv=>?_
 cases x with
 |tup xs=>
  obtain⟨ds,rfl,rs⟩:=rx.tup';cases hv;exact Sim.ok w (ZN (ve rs))
 |lst xs=>
  obtain⟨n,ds,rfl,hs,_,rs⟩:=rx.lst';cases hv;show Sim n0 S (RlV X n0) (match Zi S n with
    |some xs=>.ok (.loc S.length) (S++[.lst (cut xs lo hi)])
    |none=>.no) _
  rw[Zw hs];exact Sim.new xo w (ve rs)
 |_=>cases hv
theorem jD {f:Bf}{xs:List V}{ds:List D}{s:DS}(xo:Xok X n0 S) (w:Dw n0 S s) (rs:Reps S X n0 xs ds):Sim n0 S (RlV X n0) (bltin f ds S) (po (U1 f xs) s):=by
 refine Sim.po λv hv=>?_
 have one:∀{x:V} {ds:List D},Reps S X n0 [x] ds->∃d,ds=[d]/\Rep S X n0 x d:=λ{x ds} h=>by
  obtain⟨d,es,rfl,a,t⟩:=h.cons';rw[t.nil'];exact⟨d,rfl,a⟩
 have two:∀{x y:V} {ds:List D},Reps S X n0 [x,y] ds->∃d e,ds=[d,e]/\Rep S X n0 x d/\Rep S X n0 y e:=λ{x y ds} h=>by
  obtain⟨d,es,rfl,a,t⟩:=h.cons';obtain⟨e,rfl,b⟩:=one t;exact⟨d,e,rfl,a,b⟩
 cases f with
 |len=>match xs,rs,hv with
  |[x],rs,hv=>
   obtain⟨d,rfl,r⟩:=one rs;have hv:(Z5 x).map (λxs=>V.int xs.length)=some v:=hv
   cases q:Z5 x with
   |none=>rw[q] at hv;cases hv
   |some ys=>
    rw[q] at hv;cases hv;obtain⟨es,e,r2⟩:=yw r q;show Sim n0 S (RlV X n0) ((ob (YS S d) S).bind _) _;rw[e];show Sim n0 S (RlV X n0) (.ok (.int es.length) S) _;rw[r2.length];exact Sim.ok w (Zn _)
 |max2=>match xs,rs,hv with
  |[.int i,.int j],rs,hv=>
   obtain⟨d,e,rfl,r1,r2⟩:=two rs;cases r1.int';cases r2.int';cases hv;exact Sim.ok w (Zn _)
 |min2=>match xs,rs,hv with
  |[.int i,.int j],rs,hv=>
   obtain⟨d,e,rfl,r1,r2⟩:=two rs;cases r1.int';cases r2.int';cases hv;exact Sim.ok w (Zn _)
 |toInt=>match xs,rs,hv with
  |[.int i],rs,hv=>obtain⟨d,rfl,r⟩:=one rs;cases r.int';cases hv;exact Sim.ok w (Zn _)
  |[.bl i],rs,hv=>obtain⟨d,rfl,r⟩:=one rs;cases r.bl';cases hv;exact Sim.ok w (Zn _)
 |tuple=>match xs,rs,hv with
  |[x],rs,hv=>
   obtain⟨d,rfl,r⟩:=one rs;have hv:(Z5 x).map V.tup=some v:=hv;cases x with
   |tup ys=>
    obtain⟨es,rfl,r2⟩:=r.tup';cases hv;exact Sim.ok w (ZN r2)
   |lst ys=>
    obtain⟨n,es,rfl,hs,_,r2⟩:=r.lst';cases hv;show Sim n0 S (RlV X n0) ((ob (Zi S n) S).bind _) _;rw[Zw hs];exact Sim.ok w (ZN r2)
   |_=>cases hv
 |list=>match xs,rs,hv with
  |[x],rs,hv=>
   obtain⟨d,rfl,r⟩:=one rs;have hv:(Z5 x).map V.lst=some v:=hv;cases q:Z5 x with
   |none=>rw[q] at hv;cases hv
   |some ys=>
    rw[q] at hv;cases hv;obtain⟨es,e,r2⟩:=yw r q;show Sim n0 S (RlV X n0) ((ob (YS S d) S).bind _) _;rw[e];exact Sim.new xo w r2
 |all=>match xs,rs,hv with
  |[.lst ys],rs,hv=>
   obtain⟨d,rfl,r⟩:=one rs;obtain⟨n,es,rfl,hs,_,r2⟩:=r.lst';have hv:(ZW ys).map (λbs=>V.bl (bs.all id))=some v:=hv
   cases q:ZW ys with
   |none=>rw[q] at hv;cases hv
   |some bs=>
    rw[q] at hv;cases hv;show Sim n0 S (RlV X n0) ((ob (Zi S n) S).bind _) _;rw[Zw hs];show Sim n0 S (RlV X n0) ((ob (truths es) S).bind _) _;rw[VB r2 q];exact Sim.ok w (Zq _)
 |any=>match xs,rs,hv with
  |[x],rs,hv=>
   obtain⟨d,rfl,r⟩:=one rs;have hv:(Z5 x).bind (λxs=>(ZW xs).map λbs=>V.bl (bs.any id))=some v:=hv
   cases q:Z5 x with
   |none=>rw[q] at hv;cases hv
   |some ys=>
    rw[q] at hv;have hv:(ZW ys).map (λbs=>V.bl (bs.any id))=some v:=hv
    obtain⟨es,e,r2⟩:=yw r q;cases q2:ZW ys with
    |none=>rw[q2] at hv;cases hv
    |some bs=>
     rw[q2] at hv;cases hv;show Sim n0 S (RlV X n0) ((ob (YS S d) S).bind _) _;rw[e];show Sim n0 S (RlV X n0) ((ob (truths es) S).bind _) _;rw[VB r2 q2];exact Sim.ok w (Zq _)
 |sum=>match xs,rs,hv with
  |[.lst ys],rs,hv=>
   obtain⟨d,rfl,r⟩:=one rs;obtain⟨n,es,rfl,hs,_,r2⟩:=r.lst';have hv:(intsV ys).bind (λis=>if Xz is=true then some (V.int is.sum) else none)=some v:=hv
   cases q:intsV ys with
   |none=>rw[q] at hv;cases hv
   |some is=>
    rw[q] at hv;have hv:(if Xz is=true then some (V.int is.sum) else none)=some v:=hv
    show Sim n0 S (RlV X n0) ((ob (Zi S n) S).bind _) _;rw[Zw hs];show Sim n0 S (RlV X n0) ((ob (Y7 es) S).bind _) _;rw[(Vz r2 q).1];show Sim n0 S (RlV X n0) (if Xz is=true then .ok (.int is.sum) S else .no) _
    by_cases c:Xz is=true
    ·rw[Ph c] at hv ⊢;cases hv;exact Sim.ok w (Zn _)
    ·rw[Pi c] at hv;cases hv
 |sorted=>match xs,rs,hv with
  |[.lst ys],rs,hv=>
   obtain⟨d,rfl,r⟩:=one rs;obtain⟨n,es,rfl,hs,_,r2⟩:=r.lst';have hv:(if wm ys=true then (YK ys).bind (λrs=>if ZZ rs=true then some (V.lst ((ZG rs).map Zd)) else none) else (Xy ys).bind λps=>if Z3 ps=true then some (V.lst ((Yc ltP ps).map Za)) else none)=some v:=hv
   show Sim n0 S (RlV X n0) ((ob (Zi S n) S).bind _) _;rw[Zw hs];show Sim n0 S (RlV X n0) (if wL es=true then sorted false n S else _) _
   rw[Zbm r2];by_cases z:wm ys=true
   ·rw[Ph z] at hv ⊢
    cases q:YK ys with
    |none=>rw[q] at hv;cases hv
    |some ws=>
     rw[q] at hv;have hv:(if ZZ ws=true then some (V.lst ((ZG ws).map Zd)) else none)=some v:=hv
     show Sim n0 S (RlV X n0) ((ob (Zi S n) S).bind _) _;rw[Zw hs];show Sim n0 S (RlV X n0) ((ob (Z0 es) S).bind _) _;rw[X3 r2 q];show Sim n0 S (RlV X n0) (if ZZ ws=true then .ok (.loc S.length) (S++[.lst ((ZG ws).map XX)]) else .no) _
     by_cases c:ZZ ws=true
     ·rw[Ph c] at hv ⊢;cases hv;exact Sim.new xo w (WP _)
     ·rw[Pi c] at hv;cases hv
   ·rw[Pi z] at hv ⊢
    cases q:Xy ys with
    |none=>rw[q] at hv;cases hv
    |some ws=>
     rw[q] at hv;have hv:(if Z3 ws=true then some (V.lst ((Yc ltP ws).map Za)) else none)=some v:=hv
     rw[Ue r2 q];show Sim n0 S (RlV X n0) (if Z3 ws=true then .ok (.loc S.length) (S++[.lst ((Yc ltP ws).map Vd)]) else .no) _
     by_cases c:Z3 ws=true
     ·rw[Ph c] at hv ⊢;cases hv;exact Sim.new xo w (Qw _)
     ·rw[Pi c] at hv;cases hv
 |sortedR=>match xs,rs,hv with
  |[.lst ys],rs,hv=>
   obtain⟨d,rfl,r⟩:=one rs;obtain⟨n,es,rfl,hs,_,r2⟩:=r.lst';have hv:(YK ys).bind (λrs=>if ZZ rs=true then some (V.lst ((ZG rs).reverse.map Zd)) else none)=some v:=hv
   cases q:YK ys with
   |none=>rw[q] at hv;cases hv
   |some ws=>
    rw[q] at hv;have hv:(if ZZ ws=true then some (V.lst ((ZG ws).reverse.map Zd)) else none)=some v:=hv
    show Sim n0 S (RlV X n0) ((ob (Zi S n) S).bind _) _;rw[Zw hs];show Sim n0 S (RlV X n0) ((ob (Z0 es) S).bind _) _;rw[X3 r2 q];show Sim n0 S (RlV X n0) (if ZZ ws=true then .ok (.loc S.length) (S++[.lst ((ZG ws).reverse.map XX)]) else .no) _
    by_cases c:ZZ ws=true
    ·rw[Ph c] at hv ⊢;cases hv;exact Sim.new xo w (WP _)
    ·rw[Pi c] at hv;cases hv
 |_=>cases hv
end
structure EnvE (S:Store) (X:Nat->Prop) (n0:Nat) (ρ:Env) (σ:Lc):Prop where
 len:ρ.length=σ.length
 val:∀(i:Nat) (v:V),ρ[i]? = some (some v)->∃d,σ[i]? = some (some d)/\Rep S X n0 v d
section
variable {S S':Store}{X X':Nat->Prop}{n0:Nat}{ρ ρ':Env}{σ σ':Lc}
theorem EnvE.mono (k:∀n o,¬X n->S[n]? = some o->S'[n]? = some o) (x:∀n,n<S.length->X' n->X n) (h:EnvE S X n0 ρ σ):EnvE S' X' n0 ρ σ:=
 ⟨h.len,λi v e=>let ⟨d,a,b⟩:=h.val i v e;⟨d,a,b.mono k x⟩⟩
theorem EnvE.ext (x:Xok X n0 S) (e:Ext n0 S S') (h:EnvE S X n0 ρ σ):EnvE S' X n0 ρ σ:=
 ⟨h.len,λi v q=>let ⟨d,a,b⟩:=h.val i v q;⟨d,a,b.ext x e⟩⟩
theorem EnvE.weak (h:EnvE S X n0 ρ σ) (hl:ρ'.length=ρ.length) (w:∀(i:Nat) (v:V),ρ'[i]? = some (some v)->ρ[i]? = some (some v)):EnvE S X n0 ρ' σ:=⟨by rw[hl];exact h.len,λi v e=>h.val i v (w i v e)⟩
theorem EnvE.set {v:V}{d:D}(h:EnvE S X n0 ρ σ) (i:Nat) (r:Rep S X n0 v d):EnvE S X n0 (ρ.set i (some v)) (σ.set i (some d)):=by
 refine⟨by rw[PV,PV];exact h.len,λj w e=>?_⟩
 rw[Nv] at e ⊢;by_cases c:i=j
 ·rw[Ph c] at e ⊢
  by_cases l:i<ρ.length
  ·rw[Ph l] at e
   rw[Ph (by rw[<-h.len];exact l)]
   cases e;exact⟨d,rfl,r⟩
  ·rw[Pi l] at e;cases e
 ·rw[Pi c] at e ⊢
  exact h.val j w e
theorem Q5:∀{t:List Nat}{vs:List V}{ds:List D}{ρ ρ':Env}{σ:Lc},EnvE S X n0 ρ σ->Reps S X n0 vs ds->YI t vs ρ=some ρ'->∃σ',fill t ds σ=some σ'/\EnvE S X n0 ρ' σ'
 |[],[],_,ρ,ρ',σ,h,r,e=>by rw[r.nil'];cases e;exact⟨σ,rfl,h⟩
 |[],_::_,_,_,_,_,_,_,e=>by cases e
 |_::_,[],_,_,_,_,_,_,e=>by cases e
 |i::t,v::vs,_,ρ,ρ',σ,h,r,e=>by
  obtain⟨d,ds,rfl,a,b⟩:=r.cons';exact Q5 (t:=t) (vs:=vs) (h.set i a) b e
theorem QM {t:List Nat}{v:V}{d:D}(h:EnvE S X n0 ρ σ) (r:Rep S X n0 v d) (e:Zs t v ρ=some ρ'):∃σ',assign t d S σ=some σ'/\EnvE S X n0 ρ' σ':=by
 have gen:∀t:List Nat,(∀i,t≠[i])->(match Z5 v with
   |some xs=>YI t xs ρ
   |none=>none)=some ρ'->∃σ',(match d with
   |.tup xs=>fill t xs σ
   |.loc n=>match Zi S n with
    |some xs=>fill t xs σ
    |none=>none
   |_=>none)=some σ'/\EnvE S X n0 ρ' σ':=by
  intro t _ e;cases v with
  |tup vs=>obtain⟨ds,rfl,rs⟩:=r.tup';exact Q5 h rs e
  |lst vs=>
   obtain⟨n,ds,rfl,hs,_,rs⟩:=r.lst';obtain⟨σ',a,b⟩:=Q5 h rs e;refine⟨σ',?_,b⟩;show (match Zi S n with
    |some xs=>fill t xs σ
    |none=>none)=some σ'
   rw[Zw hs];exact a
  |_=>cases e
 match t,e with
 |[i],e=>cases e;exact⟨_,rfl,h.set i r⟩
 |[],e=>exact gen [] (by simp) e
 |i::j::t,e=>exact gen (i::j::t) (by simp) e
theorem Yo:∀{t:List Nat}{vs:List V}{ρ ρ':Env},YI t vs ρ=some ρ'->ρ'.length=ρ.length/\∀j,j∉t->ρ'[j]? = ρ[j]?
 |[],[],ρ,ρ',e=>by cases e;exact⟨rfl,λ_ _=>rfl⟩
 |[],_::_,_,_,e=>by cases e
 |_::_,[],_,_,e=>by cases e
 |i::t,v::vs,ρ,ρ',e=>by
  obtain⟨a,b⟩:=Yo (t:=t) (vs:=vs) (ρ:=ρ.set i (some v)) e;refine⟨by rw[a,PV],λj hj=>?_⟩
  have hij:i≠j:=λz=>hj (by rw[z];exact Pe ..)
  rw[b j (λz=>hj (Pd _ z)),PH hij]
theorem VO {t:List Nat}{v:V}(e:Zs t v ρ=some ρ'):ρ'.length=ρ.length/\∀j,j∉t->ρ'[j]? = ρ[j]?:=by
 match t,e with
 |[i],e=>cases e;exact⟨by simp,λj hj=>PH (λz:i=j=>hj (by rw[z];exact Pe ..))⟩
 |[],e=>
  have e:(match Z5 v with | some xs=>YI [] xs ρ | none=>none)=some ρ':=e
  cases q:Z5 v with
  |none=>rw[q] at e;cases e
  |some xs=>rw[q] at e;exact Yo e
 |i::j::t,e=>
  have e:(match Z5 v with | some xs=>YI (i::j::t) xs ρ | none=>none)=some ρ':=e
  cases q:Z5 v with
  |none=>rw[q] at e;cases e
  |some xs=>rw[q] at e;exact Yo e
noncomputable def WkR (X:Nat->Prop) (n0:Nat):Store->List V->Walk->Prop:=λS vs w=>Reps S X n0 vs w.items/\∀p∈w.kept,S[p.1]? = some (.lst p.2)/\¬X p.1
theorem W7 {w:Walk}(h:∀p∈w.kept,S[p.1]? = some (.lst p.2)):w.still S=true:=by
 unfold Walk.still;rw[PP];intro p hp;exact PD (h p hp)
theorem We {v:V}{d:D}{vs:List V}(r:Rep S X n0 v d) (h:Z5 v=some vs):∃w,Yj S d=some w/\WkR X n0 S vs w:=by
 cases v with
 |tup xs=>obtain⟨ds,rfl,rs⟩:=r.tup';cases h;exact⟨⟨ds,[]⟩,rfl,rs,λp hp=>by cases hp⟩
 |lst xs=>
  obtain⟨n,ds,rfl,hs,hx,rs⟩:=r.lst';cases h;refine⟨⟨ds,[(n,ds)]⟩,?_,rs,λp hp=>?_⟩
  ·unfold Yj;simp only[hs]
  ·rcases P4.mp hp with rfl
   exact⟨hs,hx⟩
 |_=>cases h
theorem V4 (lo:Int) (n:Nat):Reps S X n0 (Yv lo n) (Zr lo n):=by
 unfold Yv Zr
 induction List.range n with
 |nil=>exact Reps.nil
 |cons k r ih=>exact Reps.cons (Zn _) ih
theorem JA:∀{vs ws:List V}{ds es:List D},Reps S X n0 vs ds->Reps S X n0 ws es->Reps S X n0 ((vs.zip ws).map λp=>V.tup [p.1,p.2]) ((ds.zip es).map λp=>D.tup [p.1,p.2])
 |[],_,_,_,a,_=>by rw[a.nil'];simp only[List.zip_nil_left,List.map_nil];exact Reps.nil
 |_::_,[],_,_,a,b=>by rw[b.nil'];simp only[List.zip_nil_right,List.map_nil];exact Reps.nil
 |v::vs,w::ws,_,_,a,b=>by
  obtain⟨d,ds,rfl,a1,a2⟩:=a.cons';obtain⟨e,es,rfl,b1,b2⟩:=b.cons';exact Reps.cons (ZN (Reps.cons a1 (Reps.cons b1 Reps.nil))) (JA a2 b2)
end
structure Ext2 (n0 m:Nat) (S S':Store):Prop where
 len:S.length<=S'.length
 keep:∀n o,n≠n0->n≠m->S[n]? = some o->S'[n]? = some o
theorem Ext2.trans {n0 m:Nat}{S S1 S2:Store}(a:Ext2 n0 m S S1) (b:Ext2 n0 m S1 S2):Ext2 n0 m S S2:=⟨P0 a.len b.len,λn o h z e=>b.keep n o h z (a.keep n o h z e)⟩
theorem Ext2.refl {n0 m:Nat}{S:Store}:Ext2 n0 m S S:=⟨Pl _,λ_ _ _ _ h=>h⟩
theorem Ext.two {n0 m:Nat}{S S':Store}(h:Ext n0 S S'):Ext2 n0 m S S':=⟨h.len,λn o a _ e=>h.keep n o a e⟩
section
variable {n0 m:Nat}{X:Nat->Prop}
theorem Reps.ext2 {S S':Store}{v:List V}{d:List D}(z:X n0) (zm:X m) (e:Ext2 n0 m S S') (h:Reps S X n0 v d):Reps S' X n0 v d:=
 h.mono (λn o nx hs=>e.keep n o (λq=>nx (q▸z)) (λq=>nx (q▸zm)) hs) λ_ _ h=>h
theorem EnvE.ext2 {S S':Store}{ρ:Env}{σ:Lc}(z:X n0) (zm:X m) (e:Ext2 n0 m S S') (h:EnvE S X n0 ρ σ):EnvE S' X n0 ρ σ:=
 h.mono (λn o nx hs=>e.keep n o (λq=>nx (q▸z)) (λq=>nx (q▸zm)) hs) λ_ _ h=>h
theorem Xok.ext2 {S S':Store}(h:Xok X n0 S) (e:Ext2 n0 m S S'):Xok X n0 S':=⟨h.z,λn x=>PJ (h.lt n x) e.len⟩
noncomputable def Turn (n0 m:Nat) (X:Nat->Prop) (ρ:Env) (S:Store) (ds:List D) (q:PR (List V)) (r:R Lc):Prop:=∀ys s',q=.ok ys s'->ds.length+ys.length<=lim->
 ∃σ' S' es,r=.ok σ' S'/\Ext2 n0 m S S'/\EnvE S' X n0 ρ σ'/\Dw n0 S' s'/\S'[m]? = some (.lst (ds++es))/\Reps S' X n0 ys es
theorem UG {ρ:Env}{wk:Walk}{f:V->DS->PR (List V)}{turn:D->Lc->Store->R Lc}(zm:X m) (hk:∀p∈wk.kept,¬X p.1)
  (ht:∀x d S s σ ds,Xok X n0 S->Rep S X n0 x d->EnvE S X n0 ρ σ->Dw n0 S s->S[m]? = some (.lst ds)->Turn n0 m X ρ S ds (f x s) (turn d σ S)) :
  ∀(vs:List V) (es:List D) (S:Store) (s:DS) (σ:Lc) (ds:List D),Xok X n0 S->Reps S X n0 vs es->EnvE S X n0 ρ σ->Dw n0 S s->S[m]? = some (.lst ds)->(∀p∈wk.kept,S[p.1]? = some (.lst p.2))->Turn n0 m X ρ S ds (mapP f vs s) (Yn wk turn es σ S)
 |[],es,S,s,σ,ds,xo,rs,he,w,hm,hs=>by
  intro ys s' q _;cases q;rw[rs.nil'];exact⟨σ,S,[],by rw[Yn,Ph (W7 hs)],Ext2.refl,he,w,by rw[NT];exact hm,Reps.nil⟩
 |v::vs,es,S,s,σ,ds,xo,rs,he,w,hm,hs=>by
  intro ys s' q hl;obtain⟨d,es,rfl,r1,r2⟩:=rs.cons';unfold mapP at q;cases q1:f v s with
  |no=>rw[q1] at q;cases q
  |ex _ _=>rw[q1] at q;cases q
  |ok y1 s1=>
   rw[q1] at q;cases q2:mapP f vs s1 with
   |no=>simp only[q2] at q;cases q
   |ex _ _=>simp only[q2] at q;cases q
   |ok y2 s2=>
    simp only[q2] at q;cases q;rw[PM] at hl;obtain⟨σ1,S1,e1,a1,a2,a3,a4,a5,a6⟩:=ht v d S s σ ds xo r1 he w hm y1 s1 q1 (by omega)
    have xo1:=xo.ext2 a2;have hs1:∀p∈wk.kept,S1[p.1]? = some (.lst p.2):=λp hp=>a2.keep _ _ (λz=>hk p hp (z▸xo.z)) (λz=>hk p hp (z▸zm)) (hs p hp)
    obtain⟨σ2,S2,e2,b1,b2,b3,b4,b5,b6⟩:=UG zm hk ht vs es S1 s1 σ1 (ds++e1) xo1 (r2.ext2 xo.z zm a2) a3 a4 a5 hs1 y2 _ q2 (by rw[PM,a6.length];omega)
    refine⟨σ2,S2,e1++e2,?_,a2.trans b2,b3,b4,by rw[<-List.append_assoc];exact b5,(a6.ext2 xo.z zm b2).append b6⟩
    rw[Yn,Ph (W7 hs),a1];exact b1
theorem qJ {S:Store}{y:D}{ds:List D}(hm:S[m]? = some (.lst ds)) (hl:ds.length<lim):push m y S=.ok () (S.set m (.lst (ds++[y]))):=by
 unfold push;rw[Zw hm];show (if ds.length<lim then _ else _)=_
 rw[Ph hl]
end
theorem qZ {f:V->DS->PR (List V)}:∀{vs:List V}{s s':DS}{c:Nat},mapP f vs s≠.ex c s'
 |[],_,_,_,h=>by cases h
 |v::vs,s,s',c,h=>by
  unfold mapP at h;cases q1:f v s with
  |no=>rw[q1] at h;cases h
  |ex _ _=>rw[q1] at h;cases h
  |ok y s1=>
   rw[q1] at h;cases q2:mapP f vs s1 with
   |no=>simp only[q2] at h;cases h
   |ex _ _=>simp only[q2] at h;cases h
   |ok z s2=>simp only[q2] at h;cases h
section
variable {n0 m:Nat}{X:Nat->Prop}{C:Calls}{CV:Zv}
theorem ur {S:Store}{o:Ob}:Ext2 n0 m S (S.set m o):=⟨by simp,λn o' _ z e=>by rw[PH (Ne.symm z)];exact e⟩
theorem Zag {α:Type}{o:Option α}{s s':DS}{a:α}(h:po o s=.ok a s'):o=some a/\s'=s:=by
 cases o with
 |none=>cases h
 |some b=>cases h;exact⟨rfl,rfl⟩
theorem Z4 {α β:Type}{r:PR α}{f:α->DS->PR β}{b:β}{s':DS}(h:r.bind f=.ok b s'):∃a s1,r=.ok a s1/\f a s1=.ok b s':=by
 cases r with
 |no=>cases h
 |ex _ _=>cases h
 |ok a s1=>exact⟨a,s1,rfl,h⟩
theorem Sim.out {α β:Type}{S:Store}{Rl:Store->β->α->Prop}{r:R α}{q:PR β}{b:β}{s':DS}(h:Sim n0 S Rl r q) (e:q=.ok b s'):∃a S',r=.ok a S'/\Ext n0 S S'/\Dw n0 S' s'/\Rl S' b a:=by
 rw[e] at h;exact h
theorem Gi {ρ ρ1:Env}{t:List Nat}{x:V}(e:Zs t x ρ=some ρ1) (hno:∀i∈t,∀v,ρ[i]?≠some (some v)):ρ.length=ρ1.length/\∀(i:Nat) (v:V),ρ[i]? = some (some v)->ρ1[i]? = some (some v):=by
 obtain⟨a,b⟩:=VO e;refine⟨a.symm,λi v h=>?_⟩
 rw[b i λz=>hno i z v h];exact h
theorem turn1 {ρ:Env}{t:List Nat}{ifs:List E}{elt:E}{x:V}{d:D}{S:Store}{s:DS}{σ:Lc}{ds:List D}(hmn:m≠n0) (zm:X m)
  (hT:∀{ρ:Env} {σ:Lc} {S:Store} {s:DS},Xok X n0 S->EnvE S X n0 ρ σ->Dw n0 S s->Sim n0 S RlE (evt C ifs σ S) (pvt CV ifs ρ s)) (hE:∀{ρ:Env} {σ:Lc} {S:Store} {s:DS},Xok X n0 S->EnvE S X n0 ρ σ->Dw n0 S s->Sim n0 S (RlV X n0) (ev C elt σ S) (pv CV elt ρ s))
  (hno:∀i∈t,∀v,ρ[i]?≠some (some v)) (xo:Xok X n0 S) (rx:Rep S X n0 x d) (he:EnvE S X n0 ρ σ) (w:Dw n0 S s) (hm:S[m]? = some (.lst ds)) :
  Turn n0 m X ρ S ds ((po (Zs t x ρ) s).bind λσ s=>(pvt CV ifs σ s).bind λb s=>if b then (pv CV elt σ s).bind λy s=>.ok [y] s else .ok [] s)
   ((ob (assign t d S σ) S).bind λσ S1=>(evt C ifs σ S1).bind λb S1=>if b then (ev C elt σ S1).bind λy S1=>(push m y S1).bind λ_ S1=>.ok σ S1 else .ok σ S1):=by
 intro ys s' q hl;obtain⟨ρ1,s1,qa,qb⟩:=Z4 q;clear q;obtain⟨q1,es1⟩:=Zag qa;subst es1;obtain⟨σ1,e1,he1⟩:=QM he rx q1;obtain⟨b,s2,q2,q⟩:=Z4 qb;clear qb;obtain⟨b',S2,e2,x2,w2,rfl⟩:=(hT xo he1 w).out q2;obtain⟨kl,kv⟩:=Gi q1 hno;have xo2:=xo.ext x2;have he2:=he1.ext xo x2;have hm2:=x2.keep m _ hmn hm;cases b' with
 |false=>
  cases q;refine⟨σ1,S2,[],?_,x2.two,he2.weak kl kv,w2,by rw[NT];exact hm2,Reps.nil⟩
  rw[e1];show ((evt C ifs σ1 S).bind _)=_;rw[e2];rfl
 |true=>
  obtain⟨y,s3,q3,qe⟩:=Z4 q;cases qe;obtain⟨dy,S3,e3,x3,w3,r3⟩:=(hE xo2 he2 w2).out q3;have hm3:=x3.keep m _ hmn hm2;have xo3:=xo2.ext x3;have hs:Ext2 n0 m S3 (S3.set m (.lst (ds++[dy]))):=ur;refine⟨σ1,S3.set m (.lst (ds++[dy])),[dy],?_,(x2.two.trans x3.two).trans hs,((he2.ext xo2 x3).ext2 xo.z zm hs).weak kl kv,⟨by rw[PH hmn];exact w3.1,w3.2⟩,Nh (Y1 hm3),Reps.ext2 xo.z zm hs (Reps.cons r3 Reps.nil)⟩
  rw[e1];show ((evt C ifs σ1 S).bind _)=_;rw[e2];show ((ev C elt σ1 S2).bind _)=_;rw[e3];show ((push m dy S3).bind _)=_;rw[qJ hm3 (by simp at hl;omega)];rfl
theorem turn2 {ρ:Env}{t u:List Nat}{ifs jfs:List E}{elt:E}{jt:W}{x:V}{d:D}{S:Store}{s:DS}{σ:Lc}{ds:List D}(hmn:m≠n0) (zm:X m)
  (hT:∀{ρ:Env} {σ:Lc} {S:Store} {s:DS},Xok X n0 S->EnvE S X n0 ρ σ->Dw n0 S s->Sim n0 S RlE (evt C ifs σ S) (pvt CV ifs ρ s)) (hJ:∀{ρ:Env} {σ:Lc} {S:Store} {s:DS},Xok X n0 S->EnvE S X n0 ρ σ->Dw n0 S s->Sim n0 S RlE (evt C jfs σ S) (pvt CV jfs ρ s))
  (hW:∀{ρ:Env} {σ:Lc} {S:Store} {s:DS},Xok X n0 S->EnvE S X n0 ρ σ->Dw n0 S s->Sim n0 S (WkR X n0) (evw C jt σ S) (pvw CV jt ρ s)) (hE:∀{ρ:Env} {σ:Lc} {S:Store} {s:DS},Xok X n0 S->EnvE S X n0 ρ σ->Dw n0 S s->Sim n0 S (RlV X n0) (ev C elt σ S) (pv CV elt ρ s))
  (hno:∀i∈t,∀v,ρ[i]?≠some (some v)) (hnu:∀i∈u,i∉t/\∀v,ρ[i]?≠some (some v)) (xo:Xok X n0 S) (rx:Rep S X n0 x d) (he:EnvE S X n0 ρ σ) (w:Dw n0 S s) (hm:S[m]? = some (.lst ds)) :
  Turn n0 m X ρ S ds ((po (Zs t x ρ) s).bind λσ s=>(pvt CV ifs σ s).bind λb s=>if b then
    (pvw CV jt σ s).bind λw2 s=>mapP (λx s=>(po (Zs u x σ) s).bind λσ s=>(pvt CV jfs σ s).bind λb s=>if b then (pv CV elt σ s).bind λy s=>.ok [y] s else .ok [] s) w2 s
    else .ok [] s)
   ((ob (assign t d S σ) S).bind λσ S1=>(evt C ifs σ S1).bind λb S1=>if b then
    (evw C jt σ S1).bind λw2 S1=>Yn w2 (λx σ S1=>(ob (assign u x S1 σ) S1).bind λσ S1=>(evt C jfs σ S1).bind λb S1=>if b then (ev C elt σ S1).bind λy S1=>(push m y S1).bind λ_ S1=>.ok σ S1 else .ok σ S1) w2.items σ S1
    else .ok σ S1):=by
 intro ys s' q hl;obtain⟨ρ1,s1,qa,qb⟩:=Z4 q;clear q;obtain⟨q1,es1⟩:=Zag qa;subst es1;obtain⟨σ1,e1,he1⟩:=QM he rx q1;obtain⟨b,s2,q2,q⟩:=Z4 qb;clear qb;obtain⟨b',S2,e2,x2,w2,rfl⟩:=(hT xo he1 w).out q2;obtain⟨kl,kv⟩:=Gi q1 hno;have xo2:=xo.ext x2;have he2:=he1.ext xo x2;have hm2:=x2.keep m _ hmn hm;cases b' with
 |false=>
  cases q;refine⟨σ1,S2,[],?_,x2.two,he2.weak kl kv,w2,by rw[NT];exact hm2,Reps.nil⟩
  rw[e1];show ((evt C ifs σ1 S).bind _)=_;rw[e2];rfl
 |true=>
  obtain⟨vs,s3,q3,qe⟩:=Z4 q;obtain⟨wk,S3,e3,x3,w3,r3⟩:=(hW xo2 he2 w2).out q3;have hm3:=x3.keep m _ hmn hm2;have xo3:=xo2.ext x3;have he3:=he2.ext xo2 x3;have hnu1:∀i∈u,∀v,ρ1[i]?≠some (some v):=λi hi v z=>by
   rw[(VO q1).2 i (hnu i hi).1] at z;exact (hnu i hi).2 v z
  obtain⟨σ4,S4,es,a1,a2,a3,a4,a5,a6⟩:=UG (ρ:=ρ1) (wk:=wk) zm (λp hp=>(r3.2 p hp).2) (λx d S s σ ds xo rx he w hm=>turn1 hmn zm hJ hE hnu1 xo rx he w hm) vs wk.items S3 s3 σ1 ds xo3 r3.1 he3 w3 hm3 (λp hp=>(r3.2 p hp).1) ys s' qe hl
  refine⟨σ4,S4,es,?_,(x2.two.trans x3.two).trans a2,a3.weak kl kv,a4,a5,a6⟩;rw[e1];show ((evt C ifs σ1 S).bind _)=_;rw[e2];show ((evw C jt σ1 S2).bind _)=_;rw[e3];exact a1
theorem Qx {S:Store}{ρ:Env}{σ:Lc}{cap:List Nat}{nl:Nat}(he:EnvE S X n0 ρ σ):EnvE S X n0 (Z8 cap nl ρ) (caught cap nl σ):=by
 refine⟨by simp[Z8,caught],λi v h=>?_⟩
 unfold Z8 at h;unfold caught;by_cases c:i<nl
 ·rw[Py (by simpa using c)] at h
  simp[c] at h
 ·rw[PN (by simp;omega)] at h ⊢
  rw[Nn] at h ⊢;rw[PF] at h ⊢;cases q:cap[i-nl]? with
  |none=>rw[q] at h;cases h
  |some j=>
   rw[q] at h;have h':(ρ[j]?).join=some v:=Pb h;cases q2:ρ[j]? with
   |none=>rw[q2] at h';cases h'
   |some o=>
    rw[q2] at h';have h'':o=some v:=h';subst h'';obtain⟨d,e,r⟩:=he.val j v q2;exact⟨d,by show some ((σ[j]?).join)=_;rw[e];rfl,r⟩
theorem Vn {ρ:Env}{cap:List Nat}{nl i:Nat}(h:i<nl) (v:V):(Z8 cap nl ρ)[i]?≠some (some v):=by
 unfold Z8;rw[Py (by simpa using h)]
 simp[h]
theorem G9 {S:Store}{vs:List V}{s:DS}{ρ0:Env}{σ0:Lc}{wk:Walk}{f:V->DS->PR (List V)}{turn:D->Lc->Store->R Lc}(xo:Xok X n0 S) (w:Dw n0 S s) (rw':WkR X n0 S vs wk) (he:EnvE S X n0 ρ0 σ0)
  (ht:∀x d S1 s σ ds,Xok (λn=>X n\/n=S.length) n0 S1->Rep S1 (λn=>X n\/n=S.length) n0 x d->EnvE S1 (λn=>X n\/n=S.length) n0 ρ0 σ->Dw n0 S1 s->S1[S.length]? = some (.lst ds)->Turn n0 S.length (λn=>X n\/n=S.length) ρ0 S1 ds (f x s) (turn d σ S1)) :
  Sim n0 S (RlV X n0) ((Yn wk turn wk.items σ0 (S++[.lst []])).bind λ_ S1=>.ok (.loc S.length) S1) ((mapP f vs s).bind λys s=>if ys.length<=lim then .ok (.lst ys) s else .no):=by
 cases q:mapP f vs s with
 |no=>exact True.intro
 |ex c s'=>exact absurd q qZ
 |ok ys s'=>
  show Sim n0 S _ _ (if ys.length<=lim then PR.ok (V.lst ys) s' else .no)
  by_cases c:ys.length<=lim
  ·rw[Ph c]
   have hX:∀n,n<S.length->(X n\/n=S.length)->X n:=λn h z=>z.elim id λe=>absurd (e▸h) (PX _)
   have hk:∀n o,¬X n->S[n]? = some o->(S++[Ob.lst []])[n]? = some o:=λn o _ e=>by rw[Py (Y1 e)];exact e
   have xo1:Xok (λn=>X n\/n=S.length) n0 (S++[.lst []]):=⟨.inl xo.z,λn h=>by
    rw[PM,Nb];rcases h with h | h
    ·have:=xo.lt n h;omega
    ·omega⟩
   obtain⟨σ',S',es,a1,a2,a3,a4,a5,a6⟩:=UG (m:=S.length) (ρ:=ρ0) (wk:=wk) (.inr rfl) (λp hp z=>(rw'.2 p hp).2 (hX _ (Y1 (rw'.2 p hp).1) z)) ht vs wk.items (S++[.lst []]) s σ0 [] xo1 (rw'.1.mono hk hX) (he.mono hk hX) w.app (by simp) (λp hp=>hk _ _ (rw'.2 p hp).2 (rw'.2 p hp).1) ys s' q (by simpa using c)
   refine⟨.loc S.length,S',by rw[a1];rfl,⟨P0 (by simp) a2.len,λn o hn e=>a2.keep n o hn (λz=>absurd (Y1 e) (by omega)) (by rw[Py (Y1 e)];exact e)⟩,a4,?_⟩
   exact Jo a5 (λz=>PX _ (xo.lt _ z)) (a6.mono (λn o nx e=>e) λn _ h=>.inl h)
  ·rw[Pi c];exact True.intro
end
def ZT (n0:Nat) (C:Calls) (CV:Zv):Prop:=∀(f:Nat) (vs:List V) (ds:List D) (S:Store) (s:DS) (X:Nat->Prop),Xok X n0 S->Dw n0 S s->Reps S X n0 vs ds->Sim n0 S (RlV X n0) (C f ds S) (CV f vs s)
section
variable {n0:Nat}{C:Calls}{CV:Zv}
mutual
theorem ZL (H:ZT n0 C CV):∀(e:E) {X:Nat->Prop}{ρ:Env}{σ:Lc}{S:Store}{s:DS},Xok X n0 S->EnvE S X n0 ρ σ->Dw n0 S s->Sim n0 S (RlV X n0) (ev C e σ S) (pv CV e ρ s)
 |.c d,X,ρ,σ,S,s,xo,he,w=>by
  rw[ev,pv];exact Sim.po λv hv=>Sim.ok w (yK hv)
 |.v i,X,ρ,σ,S,s,xo,he,w=>by
  rw[ev,pv];refine Sim.obp w λv hv=>?_
  cases q:ρ[i]? with
  |none=>rw[q] at hv;cases hv
  |some o=>
   rw[q] at hv;have hv:o=some v:=hv;subst hv;obtain⟨d,e,r⟩:=he.val i v q;exact⟨d,by rw[e];rfl,r⟩
 |.tup es,X,ρ,σ,S,s,xo,he,w=>by
  rw[ev,pv];refine (XN H es xo he w).bind λds vs S1 s1 x1 w1 r1=>?_
  rw[Reps.length r1];exact Sim.guard λ_=>Sim.ok w1 (ZN r1)
 |.lst es,X,ρ,σ,S,s,xo,he,w=>by
  rw[ev,pv];refine (XN H es xo he w).bind λds vs S1 s1 x1 w1 r1=>?_
  rw[Reps.length r1];exact Sim.guard λ_=>Sim.new (xo.ext x1) w1 r1
 |.dnew,X,ρ,σ,S,s,xo,he,w=>by rw[pv];exact True.intro
 |.dput1 _ _,X,ρ,σ,S,s,xo,he,w=>by rw[pv];exact True.intro
 |.fstr,X,ρ,σ,S,s,xo,he,w=>by rw[pv];exact True.intro
 |.mt _ _ _,X,ρ,σ,S,s,xo,he,w=>by rw[pv];exact True.intro
 |.bin op a b,X,ρ,σ,S,s,xo,he,w=>by
  rw[ev,pv];exact (ZL H a xo he w).bind λd v S1 s1 x1 w1 r1=>(ZL H b (xo.ext x1) (he.ext xo x1) w1).bind λe u S2 s2 x2 w2 r2=>xr ((xo.ext x1).ext x2) w2 (Rep.ext (xo.ext x1) x2 r1) r2
 |.neg a,X,ρ,σ,S,s,xo,he,w=>by
  rw[ev,pv];refine (ZL H a xo he w).bind λd v S1 s1 x1 w1 r1=>?_
  cases v with
  |int i=>cases Rep.int' r1;exact Sim.ok w1 (Zn _)
  |_=>exact True.intro
 |.not a,X,ρ,σ,S,s,xo,he,w=>by
  rw[ev,pv];refine (ZL H a xo he w).bind λd v S1 s1 x1 w1 r1=>?_
  cases q:Yd v with
  |none=>exact True.intro
  |some b=>
   rw[YL r1 q];exact Sim.ok w1 (Zq _)
 |.and a b,X,ρ,σ,S,s,xo,he,w=>by
  rw[ev,pv];refine (ZL H a xo he w).bind λd v S1 s1 x1 w1 r1=>?_
  cases v with
  |bl c=>
   cases Rep.bl' r1;cases c with
   |true=>exact ZL H b (xo.ext x1) (he.ext xo x1) w1
   |false=>exact Sim.ok w1 (Zq _)
  |_=>exact True.intro
 |.or a b,X,ρ,σ,S,s,xo,he,w=>by
  rw[ev,pv];refine (ZL H a xo he w).bind λd v S1 s1 x1 w1 r1=>?_
  cases v with
  |bl c=>
   cases Rep.bl' r1;cases c with
   |true=>exact Sim.ok w1 (Zq _)
   |false=>exact ZL H b (xo.ext x1) (he.ext xo x1) w1
  |_=>exact True.intro
 |.ite t a b,X,ρ,σ,S,s,xo,he,w=>by
  rw[ev,pv];refine (ZL H t xo he w).bind λd v S1 s1 x1 w1 r1=>?_
  cases q:Yd v with
  |none=>exact True.intro
  |some c=>
   rw[YL r1 q];cases c with
   |true=>exact ZL H a (xo.ext x1) (he.ext xo x1) w1
   |false=>exact ZL H b (xo.ext x1) (he.ext xo x1) w1
 |.cmp op a b,X,ρ,σ,S,s,xo,he,w=>by
  rw[ev,pv];exact (ZL H a xo he w).bind λd v S1 s1 x1 w1 r1=>(ZL H b (xo.ext x1) (he.ext xo x1) w1).bind λe u S2 s2 x2 w2 r2=>Jd w2 (Rep.ext (xo.ext x1) x2 r1) r2
 |.chain o p a b d,X,ρ,σ,S,s,xo,he,w=>by
  rw[ev,pv];refine (ZL H a xo he w).bind λda va S1 s1 x1 w1 r1=>(ZL H b (xo.ext x1) (he.ext xo x1) w1).bind λdb vb S2 s2 x2 w2 r2=>(Jd w2 (Rep.ext (xo.ext x1) x2 r1) r2).bind λdz vz S3 s3 x3 w3 r3=>?_
  cases vz with
  |bl c=>
   cases Rep.bl' r3;cases c with
   |true=>
    refine (ZL H d (((xo.ext x1).ext x2).ext x3) (((he.ext xo x1).ext (xo.ext x1) x2).ext ((xo.ext x1).ext x2) x3) w3).bind λdd vd S4 s4 x4 w4 r4=>Jd w4 (Rep.ext (((xo.ext x1).ext x2).ext x3) x4 (Rep.ext ((xo.ext x1).ext x2) x3 r2)) r4
   |false=>exact Sim.ok w3 (Zq _)
  |_=>exact True.intro
 |.ix a i,X,ρ,σ,S,s,xo,he,w=>by
  rw[ev,pv];exact (ZL H a xo he w).bind λd v S1 s1 x1 w1 r1=>(ZL H i (xo.ext x1) (he.ext xo x1) w1).bind λe u S2 s2 x2 w2 r2=>Za0 w2 (Rep.ext (xo.ext x1) x2 r1) r2
 |.sl a lo hi,X,ρ,σ,S,s,xo,he,w=>by
  rw[ev,pv];refine (ZL H a xo he w).bind λd v S1 s1 x1 w1 r1=>(Zb7 H lo (xo.ext x1) (he.ext xo x1) w1).bind λl' l S2 s2 x2 w2 r2=>?_
  have r2:l'=l:=r2;subst r2;refine (Zb7 H hi ((xo.ext x1).ext x2) ((he.ext xo x1).ext (xo.ext x1) x2) w2).bind λh' h S3 s3 x3 w3 r3=>?_
  have r3:h'=h:=r3;subst r3;exact Zbn (((xo.ext x1).ext x2).ext x3) w3 (Rep.ext ((xo.ext x1).ext x2) x3 (Rep.ext (xo.ext x1) x2 r1))
 |.rev a,X,ρ,σ,S,s,xo,he,w=>by
  rw[ev,pv];refine (ZL H a xo he w).bind λd v S1 s1 x1 w1 r1=>?_
  cases v with
  |tup vs=>obtain⟨ds,rfl,rs⟩:=Rep.tup' r1;exact Sim.ok w1 (ZN rs.reverse)
  |_=>exact True.intro
 |.call f as,X,ρ,σ,S,s,xo,he,w=>by
  rw[ev,pv];exact (XN H as xo he w).bind λds vs S1 s1 x1 w1 r1=>H f vs ds S1 s1 X (xo.ext x1) w1 r1
 |.blt f as,X,ρ,σ,S,s,xo,he,w=>by
  rw[ev,pv];exact (XN H as xo he w).bind λds vs S1 s1 x1 w1 r1=>jD (xo.ext x1) w1 r1
 |.isi a ts,X,ρ,σ,S,s,xo,he,w=>by
  rw[ev,pv];refine (ZL H a xo he w).bind λd v S1 s1 x1 w1 r1=>?_
  cases q:Xr v ts with
  |none=>exact True.intro
  |some b=>
   rw[J4 r1 q];exact Sim.ok w1 (Zq _)
 |.inT a tab,X,ρ,σ,S,s,xo,he,w=>by
  rw[ev,pv];refine (ZL H a xo he w).bind λd v S1 s1 x1 w1 r1=>?_
  cases v with
  |int i=>cases Rep.int' r1;exact Sim.ok w1 (Zq _)
  |_=>exact True.intro
 |.getT tab a,X,ρ,σ,S,s,xo,he,w=>by
  rw[ev,pv];refine (ZL H a xo he w).bind λd v S1 s1 x1 w1 r1=>?_
  cases v with
  |int i=>
   cases Rep.int' r1;show Sim n0 S1 (RlV X n0) ((ob (tab.lookup i) S1).bind _) ((po (tab.lookup i) s1).bind _);cases q:tab.lookup i with
   |none=>exact True.intro
   |some j=>exact Sim.ok w1 (Zn _)
  |_=>exact True.intro
 |.comp1 cap nl t it ifs elt,X,ρ,σ,S,s,xo,he,w=>by
  rw[ev,pv];by_cases c:own nl t=true
  ·rw[Ph c]
   refine (xX H it xo he w).bind λwk vs S1 s1 x1 w1 r1=>?_
   have hn:∀i∈t,i<nl:=λi hi=>Pw (PP.mp c i hi)
   have xo1:=xo.ext x1;exact G9 xo1 w1 r1 (Qx (he.ext xo x1)) λx d S2 s σ ds xo2 rx he2 w2 hm=>turn1 (λz=>absurd (xo1.lt _ xo1.z) (by omega)) (.inr rfl) (qK H ifs) (ZL H elt) (λi hi v=>Vn (hn i hi) v) xo2 rx he2 w2 hm
  ·rw[Pi c];exact True.intro
 |.comp2 cap nl t it ifs u jt jfs elt,X,ρ,σ,S,s,xo,he,w=>by
  rw[ev,pv];by_cases c:own2 nl t u=true
  ·rw[Ph c]
   refine (xX H it xo he w).bind λwk vs S1 s1 x1 w1 r1=>?_
   obtain⟨c1,c2⟩:=(Pz _ _).mp c;have hn:∀i∈t,i<nl:=λi hi=>Pw (PP.mp c1 i hi)
   have hn2:∀i∈u,i<nl/\i∉t:=λi hi=>by
    obtain⟨a,b⟩:=(Pz _ _).mp (PP.mp c2 i hi);exact⟨Pw a,by simpa using b⟩
   have xo1:=xo.ext x1;exact G9 xo1 w1 r1 (Qx (he.ext xo x1)) λx d S2 s σ ds xo2 rx he2 w2 hm=>turn2 (λz=>absurd (xo1.lt _ xo1.z) (by omega)) (.inr rfl) (qK H ifs) (qK H jfs) (xX H jt) (ZL H elt) (λi hi v=>Vn (hn i hi) v) (λi hi=>⟨(hn2 i hi).2,λv=>Vn (hn2 i hi).1 v⟩) xo2 rx he2 w2 hm
  ·rw[Pi c];exact True.intro
theorem XN (H:ZT n0 C CV):∀(es:List E) {X:Nat->Prop}{ρ:Env}{σ:Lc}{S:Store}{s:DS},Xok X n0 S->EnvE S X n0 ρ σ->Dw n0 S s->Sim n0 S (qV X n0) (evs C es σ S) (pvs CV es ρ s)
 |[],X,ρ,σ,S,s,xo,he,w=>by rw[evs,pvs];exact Sim.ok w Reps.nil
 |e::es,X,ρ,σ,S,s,xo,he,w=>by
  rw[evs,pvs];exact (ZL H e xo he w).bind λd v S1 s1 x1 w1 r1=>(XN H es (xo.ext x1) (he.ext xo x1) w1).bind λds vs S2 s2 x2 w2 r2=>Sim.ok w2 (Reps.cons (Rep.ext (xo.ext x1) x2 r1) r2)
theorem Zb7 (H:ZT n0 C CV):∀(e:Option E) {X:Nat->Prop}{ρ:Env}{σ:Lc}{S:Store}{s:DS},Xok X n0 S->EnvE S X n0 ρ σ->Dw n0 S s->Sim n0 S RlE (evo C e σ S) (pvo CV e ρ s)
 |none,X,ρ,σ,S,s,xo,he,w=>by rw[evo,pvo];exact Sim.ok w rfl
 |some e,X,ρ,σ,S,s,xo,he,w=>by
  rw[evo,pvo];refine (ZL H e xo he w).bind λd v S1 s1 x1 w1 r1=>?_
  cases v with
  |int i=>cases Rep.int' r1;exact Sim.ok w1 rfl
  |_=>exact True.intro
theorem qK (H:ZT n0 C CV):∀(es:List E) {X:Nat->Prop}{ρ:Env}{σ:Lc}{S:Store}{s:DS},Xok X n0 S->EnvE S X n0 ρ σ->Dw n0 S s->Sim n0 S RlE (evt C es σ S) (pvt CV es ρ s)
 |[],X,ρ,σ,S,s,xo,he,w=>by rw[evt,pvt];exact Sim.ok w rfl
 |e::es,X,ρ,σ,S,s,xo,he,w=>by
  rw[evt,pvt];refine (ZL H e xo he w).bind λd v S1 s1 x1 w1 r1=>?_
  cases q:Yd v with
  |none=>exact True.intro
  |some b=>
   rw[YL r1 q];cases b with
   |true=>exact qK H es (xo.ext x1) (he.ext xo x1) w1
   |false=>exact Sim.ok w1 rfl
theorem xX (H:ZT n0 C CV):∀(wk:W) {X:Nat->Prop}{ρ:Env}{σ:Lc}{S:Store}{s:DS},Xok X n0 S->EnvE S X n0 ρ σ->Dw n0 S s->Sim n0 S (WkR X n0) (evw C wk σ S) (pvw CV wk ρ s)
 |.rng1 a,X,ρ,σ,S,s,xo,he,w=>by
  rw[evw,pvw];refine (ZL H a xo he w).bind λd v S1 s1 x1 w1 r1=>?_
  cases v with
  |int i=>
   cases Rep.int' r1;exact Sim.guard λ_=>Sim.ok w1 ⟨V4 _ _,λp hp=>by cases hp⟩
  |_=>exact True.intro
 |.rng2 a b,X,ρ,σ,S,s,xo,he,w=>by
  rw[evw,pvw];refine (ZL H a xo he w).bind λd v S1 s1 x1 w1 r1=>(ZL H b (xo.ext x1) (he.ext xo x1) w1).bind λe u S2 s2 x2 w2 r2=>?_
  cases v with
  |int i=>cases u with
   |int j=>
    cases Rep.int' r1;cases Rep.int' r2;exact Sim.guard λ_=>Sim.ok w2 ⟨V4 _ _,λp hp=>by cases hp⟩
   |_=>exact True.intro
  |_=>exact True.intro
 |.rrng a b,X,ρ,σ,S,s,xo,he,w=>by
  rw[evw,pvw];refine (ZL H a xo he w).bind λd v S1 s1 x1 w1 r1=>(ZL H b (xo.ext x1) (he.ext xo x1) w1).bind λe u S2 s2 x2 w2 r2=>?_
  cases v with
  |int i=>cases u with
   |int j=>
    cases Rep.int' r1;cases Rep.int' r2;exact Sim.guard λ_=>Sim.ok w2 ⟨Reps.reverse (V4 _ _),λp hp=>by cases hp⟩
   |_=>exact True.intro
  |_=>exact True.intro
 |.zip a b,X,ρ,σ,S,s,xo,he,w=>by
  rw[evw,pvw];refine (ZL H a xo he w).bind λd v S1 s1 x1 w1 r1=>(ZL H b (xo.ext x1) (he.ext xo x1) w1).bind λe u S2 s2 x2 w2 r2=>?_
  cases q1:Z5 v with
  |none=>exact True.intro
  |some vs=>
   cases q2:Z5 u with
   |none=>exact True.intro
   |some us=>
    obtain⟨k1,e1,k2,k3⟩:=We (Rep.ext (xo.ext x1) x2 r1) q1;obtain⟨l1,f1,l2,l3⟩:=We r2 q2;rw[e1,f1];refine Sim.ok w2 ⟨JA k2 l2,λp hp=>?_⟩
    rcases Nc.mp hp with hp | hp
    ·exact k3 p hp
    ·exact l3 p hp
 |.enum a,X,ρ,σ,S,s,xo,he,w=>by
  rw[evw,pvw];refine (ZL H a xo he w).bind λd v S1 s1 x1 w1 r1=>?_
  cases q1:Z5 v with
  |none=>exact True.intro
  |some vs=>
   obtain⟨k1,e1,k2,k3⟩:=We r1 q1;rw[e1];refine Sim.ok w1 ⟨?_,k3⟩;show Reps S1 X n0 (((Yv 0 vs.length).zip vs).map _) (((Zr 0 k1.items.length).zip k1.items).map _);rw[k2.length];exact JA (V4 _ _) k2
 |.of e,X,ρ,σ,S,s,xo,he,w=>by
  rw[evw,pvw];refine (ZL H e xo he w).bind λd v S1 s1 x1 w1 r1=>Sim.obp w1 λvs q=>We r1 q
end
end
noncomputable abbrev Own:=Nat->Option Nat
noncomputable def XW (X:Nat->Prop) (W:Own):Nat->Prop:=λn=>X n\/∃i,W i=some n
structure EnvS (S:Store) (X:Nat->Prop) (n0 base:Nat) (W:Own) (ρ:Env) (os:List Nat) (σ:Lc):Prop where
 xz:X n0
 xb:∀n,X n->n<base
 bs:base<=S.length
 len:ρ.length=σ.length
 osW:∀i,os.contains i=(W i).isSome
 inj:∀i j n,W i=some n->W j=some n->i=j
 pl:∀i n,W i=some n->base<=n
 own:∀i n,W i=some n->∃xs,ρ[i]? = some (some (.lst xs))/\flats xs=true/\σ[i]? = some (some (.loc n))/\S[n]? = some (.lst (Yx xs))
 val:∀(i:Nat) (v:V),ρ[i]? = some (some v)->W i=none->∃d,σ[i]? = some (some d)/\Rep S (XW X W) n0 v d
section
variable {S S':Store}{X:Nat->Prop}{n0 base:Nat}{W W':Own}{ρ:Env}{os:List Nat}{σ:Lc}
theorem EnvS.xok (h:EnvS S X n0 base W ρ os σ):Xok X n0 S:=⟨h.xz,λn x=>PJ (h.xb n x) h.bs⟩
theorem EnvS.xokW (h:EnvS S X n0 base W ρ os σ):Xok (XW X W) n0 S:=⟨.inl h.xz,λn x=>by
 rcases x with x | ⟨i,x⟩
 ·exact h.xok.lt n x
 ·obtain⟨xs,_,_,_,e⟩:=h.own i n x;exact Y1 e⟩
theorem EnvS.nx (h:EnvS S X n0 base W ρ os σ) {i n:Nat}(e:W i=some n):¬X n:=λz=>by have:=h.xb n z;have:=h.pl i n e;omega
theorem EnvS.ne (h:EnvS S X n0 base W ρ os σ) {i n:Nat}(e:W i=some n):n≠n0:=λz=>h.nx e (z▸h.xz)
theorem EnvS.all (h:EnvS S X n0 base W ρ os σ):EnvE S X n0 ρ σ:=⟨h.len,λi v e=>by
 cases q:W i with
 |none=>
  obtain⟨d,a,b⟩:=h.val i v e q;exact⟨d,a,b.mono (λ_ _ _ z=>z) λn _ z=>.inl z⟩
 |some n=>
  obtain⟨xs,a,b,c,d⟩:=h.own i n q;rw[a] at e;cases e;exact⟨_,c,Jo d (h.nx q) (Wf b)⟩⟩
theorem vj {i:Nat}{v:V}(e:(hide os ρ)[i]? = some (some v)):ρ[i]? = some (some v)/\os.contains i=false:=by
 unfold hide at e;rw[List.getElem?_mapIdx] at e;cases q:ρ[i]? with
 |none=>rw[q] at e;cases e
 |some o=>
  rw[q] at e;have e':(if os.contains i=true then none else o)=some v:=Pb e
  by_cases c:os.contains i=true
  ·rw[Ph c] at e';cases e'
  ·rw[Pi c] at e';exact⟨by rw[e'],by simpa using c⟩
theorem EnvS.hid (h:EnvS S X n0 base W ρ os σ):EnvE S (XW X W) n0 (hide os ρ) σ:=⟨by unfold hide;rw[List.length_mapIdx];exact h.len,λi v e=>by
 obtain⟨a,b⟩:=vj e;rw[h.osW] at b;exact h.val i v a (by cases q:W i with | none=>rfl | some _=>rw[q] at b;cases b)⟩
theorem EnvS.ext (h:EnvS S X n0 base W ρ os σ) (e:Ext n0 S S'):EnvS S' X n0 base W ρ os σ:=
 ⟨h.xz,h.xb,P0 h.bs e.len,h.len,h.osW,h.inj,h.pl,λi n q=>by
  obtain⟨xs,a,b,c,d⟩:=h.own i n q;exact⟨xs,a,b,c,e.keep n _ (h.ne q) d⟩,λi v a b=>by
  obtain⟨d,c,r⟩:=h.val i v a b;exact⟨d,c,r.ext h.xokW e⟩⟩
theorem EnvS.noW (h:EnvS S X n0 base W ρ [] σ):∀i,W i=none:=λi=>by
 have:=h.osW i;cases q:W i with
 |none=>rfl
 |some n=>rw[q] at this;cases this
theorem EnvS.set {i:Nat}{v:V}{d:D}(h:EnvS S X n0 base W ρ os σ) (hi:os.contains i=false) (r:Rep S (XW X W) n0 v d):EnvS S X n0 base W (ρ.set i (some v)) os (σ.set i (some d)):=by
 have hw:W i=.none:=by have:=h.osW i;rw[hi] at this;cases q:W i with | none=>rfl | some _=>rw[q] at this;cases this
 refine⟨h.xz,h.xb,h.bs,by rw[PV,PV];exact h.len,h.osW,h.inj,h.pl,λj n q=>?_,λj w e q=>?_⟩
 ·obtain⟨xs,a,b,c,e⟩:=h.own j n q
  have ij:i≠j:=λz=>by rw[z,q] at hw;cases hw
  exact⟨xs,by rw[PH ij];exact a,b,by rw[PH ij];exact c,e⟩
 ·rw[Nv] at e ⊢
  by_cases c:i=j
  ·rw[Ph c] at e ⊢
   by_cases l:i<ρ.length
   ·rw[Ph l] at e
    rw[Ph (by rw[<-h.len];exact l)]
    cases e;exact⟨d,rfl,r⟩
   ·rw[Pi l] at e;cases e
  ·rw[Pi c] at e ⊢
   exact h.val j w e q
theorem EnvS.fill:∀{t:List Nat}{vs:List V}{ds:List D}{ρ ρ':Env}{σ:Lc},EnvS S X n0 base W ρ os σ->(t.any os.contains)=false->Reps S (XW X W) n0 vs ds->YI t vs ρ=some ρ'->∃σ',Ev.fill t ds σ=some σ'/\EnvS S X n0 base W ρ' os σ'
 |[],[],_,ρ,ρ',σ,h,_,r,e=>by rw[r.nil'];cases e;exact⟨σ,rfl,h⟩
 |[],_::_,_,_,_,_,_,_,_,e=>by cases e
 |_::_,[],_,_,_,_,_,_,_,e=>by cases e
 |i::t,v::vs,_,ρ,ρ',σ,h,ht,r,e=>by
  obtain⟨d,ds,rfl,a,b⟩:=r.cons';rw[List.any_cons,Bool.or_eq_false_iff] at ht;exact EnvS.fill (t:=t) (vs:=vs) (h.set ht.1 a) ht.2 b e
theorem EnvS.assign {t:List Nat}{v:V}{d:D}{ρ':Env}(h:EnvS S X n0 base W ρ os σ) (ht:(t.any os.contains)=false) (r:Rep S (XW X W) n0 v d) (e:Zs t v ρ=some ρ'):∃σ',Ev.assign t d S σ=some σ'/\EnvS S X n0 base W ρ' os σ':=by
 have gen:∀t:List Nat,(t.any os.contains)=false->(match Z5 v with
   |some xs=>YI t xs ρ
   |none=>none)=some ρ'->∃σ',(match d with
   |.tup xs=>Ev.fill t xs σ
   |.loc n=>match Zi S n with
    |some xs=>Ev.fill t xs σ
    |none=>none
   |_=>none)=some σ'/\EnvS S X n0 base W ρ' os σ':=by
  intro t ht e;cases v with
  |tup vs=>obtain⟨ds,rfl,rs⟩:=r.tup';exact h.fill ht rs e
  |lst vs=>
   obtain⟨n,ds,rfl,hs,_,rs⟩:=r.lst';obtain⟨σ',a,b⟩:=h.fill ht rs e;refine⟨σ',?_,b⟩;show (match Zi S n with
    |some xs=>Ev.fill t xs σ
    |.none=>.none)=some σ'
   rw[Zw hs];exact a
  |_=>cases e
 match t,ht,e with
 |[i],ht,e=>
  cases e;exact⟨_,rfl,h.set (by simpa using ht) r⟩
 |[],ht,e=>exact gen [] ht e
 |i::j::t,ht,e=>exact gen (i::j::t) ht e
theorem EnvS.drop {i:Nat}{v:V}{d:D}(h:EnvS S X n0 base W ρ os σ) (r:Rep S (XW X W) n0 v d):EnvS S X n0 base (λj=>if j=i then .none else W j) (ρ.set i (some v)) (os.filter (· != i)) (σ.set i (some d)):=by
 have sub:∀n,XW X (λj=>if j=i then none else W j) n->XW X W n:=λn z=>by
  rcases z with z | ⟨j,z⟩
  ·exact .inl z
  ·by_cases c:j=i
   ·simp only[c,NM] at z;cases z
   ·simp only[c,Np] at z;exact .inr ⟨j,z⟩
 have get:∀{j n:Nat},(if j=i then Option.none else W j)=some n->j≠i/\W j=some n:=λ{j n} z=>by
  by_cases c:j=i
  ·rw[Ph c] at z;cases z
  ·rw[Pi c] at z;exact⟨c,z⟩
 refine⟨h.xz,h.xb,h.bs,by rw[PV,PV];exact h.len,λj=>?_,λa b n x y=>h.inj a b n (get x).2 (get y).2,λj n z=>h.pl j n (get z).2,λj n z=>?_,λj w e z=>?_⟩
 ·by_cases c:j=i
  ·simp[c]
  ·simp only[c,Np]
   rw[<-h.osW j,P2,List.contains_iff_mem,List.contains_iff_mem,List.mem_filter];simp[c]
 ·obtain⟨xs,a,b,c,e⟩:=h.own j n (get z).2
  have ij:i≠j:=Ne.symm (get z).1;exact⟨xs,by rw[PH ij];exact a,b,by rw[PH ij];exact c,e⟩
 ·rw[Nv] at e ⊢
  by_cases c:i=j
  ·rw[Ph c] at e ⊢
   by_cases l:i<ρ.length
   ·rw[Ph l] at e
    rw[Ph (by rw[<-h.len];exact l)]
    cases e;exact⟨d,rfl,r.mono (λ_ _ _ q=>q) λn _ q=>sub n q⟩
   ·rw[Pi l] at e;cases e
  ·rw[Pi c] at e ⊢
   rw[Pi (Ne.symm c)] at z;obtain⟨d',a,b⟩:=h.val j w e z;exact⟨d',a,b.mono (λ_ _ _ q=>q) λn _ q=>sub n q⟩
theorem EnvS.take {S0:Store}{i n:Nat}{xs:List V}(h:EnvS S0 X n0 base W ρ os σ) (e:Ext n0 S0 S) (hn:S0.length<=n) (hf:flats xs=true) (r:Rep S (XW X W) n0 (.lst xs) (.loc n)) (hi:i<ρ.length) :
  EnvS S X n0 base (λj=>if j=i then some n else W j) (ρ.set i (some (.lst xs))) (i::os.filter (· != i)) (σ.set i (some (.loc n))):=by
 obtain⟨n',ds,en,hs,hx,rs⟩:=r.lst';cases en;have ed:=Xc hf rs;subst ed;have h1:=h.ext e;have sub:∀m,m<S0.length->XW X (λj=>if j=i then some n else W j) m->XW X W m:=λm hm z=>by
  rcases z with z | ⟨j,z⟩
  ·exact .inl z
  ·by_cases c:j=i
   ·simp only[c,NM] at z
    have:n=m:=Pb z;omega
   ·simp only[c,Np] at z;exact .inr ⟨j,z⟩
 have get:∀{j m:Nat},(if j=i then some n else W j)=some m->(j=i/\n=m)\/(j≠i/\W j=some m):=λ{j m} z=>by
  by_cases c:j=i
  ·rw[Ph c] at z;exact .inl ⟨c,Pb z⟩
  ·rw[Pi c] at z;exact .inr ⟨c,z⟩
 refine⟨h1.xz,h1.xb,h1.bs,by rw[PV,PV];exact h.len,λj=>?_,λa b m x y=>?_,λj m z=>?_,λj m z=>?_,λj w q z=>?_⟩
 ·by_cases c:j=i
  ·simp[c]
  ·simp only[c,Np]
   rw[<-h.osW j,P2,List.contains_iff_mem,List.contains_iff_mem,Po,List.mem_filter];simp[c]
 ·rcases get x with ⟨x1,x2⟩ | ⟨x1,x2⟩
  ·rcases get y with ⟨y1,y2⟩ | ⟨y1,y2⟩
   ·rw[x1,y1]
   ·exact absurd (.inr ⟨b,x2▸y2⟩) hx
  ·rcases get y with ⟨y1,y2⟩ | ⟨y1,y2⟩
   ·exact absurd (.inr ⟨a,y2▸x2⟩) hx
   ·exact h.inj a b m x2 y2
 ·rcases get z with ⟨z1,z2⟩ | ⟨z1,z2⟩
  ·have:=h.bs;omega
  ·exact h.pl j m z2
 ·rcases get z with ⟨z1,z2⟩ | ⟨z1,z2⟩
  ·subst z1 z2
   exact⟨xs,Nh hi,hf,Nh (by rw[<-h.len];exact hi),hs⟩
  ·obtain⟨ys,a,b,c,q⟩:=h1.own j m z2
   exact⟨ys,by rw[PH (Ne.symm z1)];exact a,b,by rw[PH (Ne.symm z1)];exact c,q⟩
 ·by_cases c:j=i
  ·rw[Ph c] at z;cases z
  ·rw[Pi c] at z
   rw[PH (Ne.symm c)] at q ⊢;obtain⟨d,a,b⟩:=h.val j w q z;exact⟨d,a,b.mono (λm o nx hs=>e.keep m o (λq=>nx (q▸.inl h.xz)) hs) sub⟩
theorem EnvS.mut {i n:Nat}{ys:List V}(h:EnvS S X n0 base W ρ os σ) (hw:W i=some n) (hf:flats ys=true):EnvS (S.set n (.lst (Yx ys))) X n0 base W (ρ.set i (some (.lst ys))) os σ:=by
 obtain⟨xs,a,b,c,e⟩:=h.own i n hw;have hi:i<ρ.length:=(Pq.mp a).1;refine⟨h.xz,h.xb,by rw[PV];exact h.bs,by rw[PV];exact h.len,h.osW,h.inj,h.pl,λj m z=>?_,λj w q z=>?_⟩
 ·by_cases k:i=j
  ·subst k
   rw[hw] at z;cases z;exact⟨ys,Nh hi,hf,c,Nh (Y1 e)⟩
  ·obtain⟨zs,a',b',c',e'⟩:=h.own j m z
   exact⟨zs,by rw[PH k];exact a',b',c',by rw[PH (λq:n=m=>k (h.inj i j n hw (by rw[q];exact z)))];exact e'⟩
 ·have k:i≠j:=λk=>by rw[<-k,hw] at z;cases z
  rw[PH k] at q;obtain⟨d,a',b'⟩:=h.val j w q z;exact⟨d,a',b'.mono (λm o nx hs=>by rw[PH (λq:n=m=>nx (.inr ⟨i,by rw[<-q];exact hw⟩))];exact hs) λ_ _ q=>q⟩
end
structure ExtS (n0:Nat) (W:Own) (S S':Store):Prop where
 len:S.length<=S'.length
 keep:∀n o,n≠n0->(∀i,W i≠some n)->S[n]? = some o->S'[n]? = some o
def WExt (S:Store) (W W':Own):Prop:=∀i n,W' i=some n->(∃j,W j=some n)\/S.length<=n
theorem Ext.s {n0:Nat}{W:Own}{S S':Store}(h:Ext n0 S S'):ExtS n0 W S S':=⟨h.len,λn o a _ e=>h.keep n o a e⟩
theorem ExtS.trans {n0:Nat}{W W':Own}{S S1 S2:Store}(a:ExtS n0 W S S1) (w:WExt S W W') (b:ExtS n0 W' S1 S2):ExtS n0 W S S2:=⟨P0 a.len b.len,λn o h z e=>b.keep n o h (λi q=>by
 rcases w i n q with ⟨j,q⟩ | q
 ·exact z j q
 ·exact absurd (Y1 e) (by omega)) (a.keep n o h z e)⟩
theorem WExt.refl {S:Store}{W:Own}:WExt S W W:=λi n h=>.inl ⟨i,h⟩
theorem WExt.trans {S S1:Store}{W W1 W2:Own}(a:WExt S W W1) (l:S.length<=S1.length) (b:WExt S1 W1 W2):WExt S W W2:=λi n h=>by
 rcases b i n h with ⟨j,h⟩ | h
 ·exact a j n h
 ·exact .inr (P0 l h)
noncomputable def FlR (X:Nat->Prop) (n0 base:Nat) (S:Store) (W:Own) (S':Store):FlV->Fl->Prop
 |.nx ρ os,.nx σ=>∃W',WExt S W W'/\EnvS S' X n0 base W' ρ os σ
 |.brk ρ os,.brk σ=>∃W',WExt S W W'/\EnvS S' X n0 base W' ρ os σ
 |.cnt ρ os,.cnt σ=>∃W',WExt S W W'/\EnvS S' X n0 base W' ρ os σ
 |.ret v,.ret d=>Rep S' X n0 v d
 |_,_=>False
def Zz (X:Nat->Prop) (n0 base:Nat) (S:Store) (W:Own) (r:R Fl) (q:PR FlV):Prop:=match q with
 |.no=>True
 |.ex c s'=>∃S',r=.ex c S'/\ExtS n0 W S S'/\Dw n0 S' s'
 |.ok f s'=>∃g S',r=.ok g S'/\ExtS n0 W S S'/\Dw n0 S' s'/\FlR X n0 base S W S' f g
section
variable {α β:Type}{S S':Store}{X:Nat->Prop}{n0 base:Nat}{W W':Own}{ρ:Env}{os:List Nat}{σ:Lc}
theorem FlR.from {S1:Store}{f:FlV}{g:Fl}(w:WExt S W W') (l:S.length<=S1.length) (h:FlR X n0 base S1 W' S' f g):FlR X n0 base S W S' f g:=by
 cases f with
 |nx ρ os=>cases g with
  |nx σ=>obtain⟨W2,a,b⟩:=h;exact⟨W2,w.trans l a,b⟩
  |_=>exact h.elim
 |brk ρ os=>cases g with
  |brk σ=>obtain⟨W2,a,b⟩:=h;exact⟨W2,w.trans l a,b⟩
  |_=>exact h.elim
 |cnt ρ os=>cases g with
  |cnt σ=>obtain⟨W2,a,b⟩:=h;exact⟨W2,w.trans l a,b⟩
  |_=>exact h.elim
 |ret v=>cases g with
  |ret d=>exact h
  |_=>exact h.elim
theorem Zz.from {S1:Store}{r:R Fl}{q:PR FlV}(x:ExtS n0 W S S1) (w:WExt S W W') (h:Zz X n0 base S1 W' r q):Zz X n0 base S W r q:=by
 cases q with
 |no=>exact True.intro
 |ex c s'=>obtain⟨S2,a,b,c⟩:=h;exact⟨S2,a,x.trans w b,c⟩
 |ok f s'=>obtain⟨g,S2,a,b,c,d⟩:=h;exact⟨g,S2,a,x.trans w b,c,FlR.from w x.len d⟩
theorem Zz.bindE {Rl:Store->β->α->Prop}{r:R α}{q:PR β}{f:α->Store->R Fl}{g:β->DS->PR FlV}(h:Sim n0 S Rl r q)
  (k:∀a b S' s',Ext n0 S S'->Dw n0 S' s'->Rl S' b a->Zz X n0 base S' W (f a S') (g b s')):Zz X n0 base S W (r.bind f) (q.bind g):=by
 cases q with
 |no=>exact True.intro
 |ex c s'=>obtain⟨S',e,x,w⟩:=h;rw[e];exact⟨S',rfl,x.s,w⟩
 |ok b s'=>
  obtain⟨a,S',e,x,w,rl⟩:=h;rw[e];exact Zz.from x.s WExt.refl (k a b S' s' x w rl)
theorem Zz.nx {s:DS}{σ':Lc}{ρ':Env}{os':List Nat}(w:Dw n0 S s) (hw:WExt S W W') (h:EnvS S X n0 base W' ρ' os' σ'):Zz X n0 base S W (.ok (.nx σ') S) (.ok (.nx ρ' os') s):=⟨_,S,rfl,Ext.refl.s,w,W',hw,h⟩
end
section
variable {n0:Nat}{C:Calls}{CV:Zv}{X:Nat->Prop}{base:Nat}
theorem ZbC (H:ZT n0 C CV) (e:E) {W:Own}{ρ:Env}{os:List Nat}{σ:Lc}{S:Store}{s:DS}(he:EnvS S X n0 base W ρ os σ) (w:Dw n0 S s):Sim n0 S (RlV (XW X W) n0) (ev C e σ S) (pvA CV e ρ os s):=by
 cases os with
 |nil=>
  have hh:EnvE S (XW X W) n0 ρ σ:=⟨he.len,λi v q=>he.val i v q (he.noW i)⟩
  exact ZL H e he.xokW hh w
 |cons o os=>
  show Sim n0 S (RlV (XW X W) n0) (ev C e σ S) (match pv CV e (hide (o::os) ρ) s with
   |.ok v s=>.ok v s
   |.ex c s=>.ex c s
   |.no=>(pv CV e ρ s).bind λv s=>if v.flat then .ok v s else .no)
  have h1:=ZL H e he.xokW he.hid w;cases q:pv CV e (hide (o::os) ρ) s with
  |ok v s1=>rw[q] at h1;exact h1
  |ex c s1=>rw[q] at h1;exact h1
  |no=>
   have h2:=ZL H e he.xok he.all w;cases q2:pv CV e ρ s with
   |no=>exact True.intro
   |ex c s1=>rw[q2] at h2;exact h2
   |ok v s1=>
    rw[q2] at h2;show Sim n0 S (RlV (XW X W) n0) (ev C e σ S) (if v.flat=true then .ok v s1 else .no)
    by_cases c:v.flat=true
    ·rw[Ph c]
     obtain⟨d,S',a1,a2,a3,a4⟩:=h2;exact⟨d,S',a1,a2,a3,by rw[XH c a4];exact Ui c⟩
    ·rw[Pi c];exact True.intro
theorem Zb8 (H:ZT n0 C CV) (es:List E) {W:Own}{ρ:Env}{os:List Nat}{σ:Lc}{S:Store}{s:DS}(he:EnvS S X n0 base W ρ os σ) (w:Dw n0 S s):Sim n0 S (qV (XW X W) n0) (evs C es σ S) (ZbN CV es ρ os s):=by
 cases os with
 |nil=>
  have hh:EnvE S (XW X W) n0 ρ σ:=⟨he.len,λi v q=>he.val i v q (he.noW i)⟩
  exact XN H es he.xokW hh w
 |cons o os=>
  show Sim n0 S (qV (XW X W) n0) (evs C es σ S) ((pvs CV es ρ s).bind λv s=>if flats v=true then .ok v s else .no)
  have h2:=XN H es he.xok he.all w;cases q2:pvs CV es ρ s with
  |no=>exact True.intro
  |ex c s1=>rw[q2] at h2;exact h2
  |ok v s1=>
   rw[q2] at h2;show Sim n0 S (qV (XW X W) n0) (evs C es σ S) (if flats v=true then .ok v s1 else .no)
   by_cases c:flats v=true
   ·rw[Ph c]
    obtain⟨d,S',a1,a2,a3,a4⟩:=h2;exact⟨d,S',a1,a2,a3,by rw[Xc c a4];exact Wf c⟩
   ·rw[Pi c];exact True.intro
theorem Qi (H:ZT n0 C CV) {e:E}(hf:fresh e=true) {ρ:Env}{σ:Lc}{S S':Store}{s s':DS}{xs:List V}{d:D}(xo:Xok X n0 S) (he:EnvE S X n0 ρ σ) (w:Dw n0 S s) (q:pv CV e ρ s=.ok (.lst xs) s') (r:ev C e σ S=.ok d S'):∃n,d=.loc n/\S.length<=n:=by
 have bo:∀{α β:Type} {r:R α} {f:α->Store->R β} {b:β} {S':Store},r.bind f=.ok b S'->∃a S1,r=.ok a S1/\f a S1=.ok b S':=λ{α β r f b S'} h=>by
  cases r with
  |no=>cases h
  |ex _ _=>cases h
  |ok a S1=>exact⟨a,S1,rfl,h⟩
 have ifo:∀{α:Type} {P:Prop} [Decidable P] {r:R α} {b:α} {S':Store},(if P then r else .no)=.ok b S'->r=.ok b S':=λ{α P _ r b S'} h=>by
  by_cases c:P
  ·rw[Ph c] at h;exact h
  ·rw[Pi c] at h;cases h
 cases e with
 |lst es=>
  rw[pv] at q;obtain⟨vs,s1,q1,_⟩:=Z4 q;obtain⟨ds,S1,e1,x1,_,_⟩:=(XN H es xo he w).out q1;rw[ev,e1] at r;have r:=ifo (show (if ds.length<=lim then R.ok (D.loc S1.length) (S1++[.lst ds]) else .no)=.ok d S' from r)
  cases r;exact⟨_,rfl,x1.len⟩
 |comp1 cap nl t it ifs elt=>
  rw[pv] at q;by_cases c:own nl t=true
  ·rw[Ph c] at q
   obtain⟨vs,s1,q1,_⟩:=Z4 q;obtain⟨wk,S1,e1,x1,_,_⟩:=(xX H it xo he w).out q1;rw[ev,e1] at r;obtain⟨_,_,ea,r⟩:=bo r;cases ea;obtain⟨_,S2,_,r⟩:=bo r;cases r;exact⟨_,rfl,x1.len⟩
  ·rw[Pi c] at q;cases q
 |comp2 cap nl t it ifs u jt jfs elt=>
  rw[pv] at q;by_cases c:own2 nl t u=true
  ·rw[Ph c] at q
   obtain⟨vs,s1,q1,_⟩:=Z4 q;obtain⟨wk,S1,e1,x1,_,_⟩:=(xX H it xo he w).out q1;rw[ev,e1] at r;obtain⟨_,_,ea,r⟩:=bo r;cases ea;obtain⟨_,S2,_,r⟩:=bo r;cases r;exact⟨_,rfl,x1.len⟩
  ·rw[Pi c] at q;cases q
 |bin op a b=>
  cases op with
  |mul=>cases a with
   |lst es=>
    rw[pv] at q;obtain⟨x,s1,q1,q⟩:=Z4 q;obtain⟨y,s2,q2,q⟩:=Z4 q;obtain⟨dx,S1,e1,x1,w1,r1⟩:=(ZL H (.lst es) xo he w).out q1;obtain⟨dy,S2,e2,x2,w2,r2⟩:=(ZL H b (xo.ext x1) (he.ext xo x1) w1).out q2;rw[ev,e1] at r;have r:(ev C b σ S1).bind (λy S=>binop .mul dx y S)=.ok d S':=r
    rw[e2] at r;have r:binop .mul dx dy S2=.ok d S':=r;cases x with
    |lst us=>cases y with
     |int j=>
      obtain⟨n,ds,rfl,hs,_,_⟩:=Rep.lst' r1;cases Rep.int' r2;have hs2:=x2.keep n _ (λz=>?_) hs
      ·have r:(match Zi S2 n with
        |some a=>if 0<=j/\j<1000/\a.length<=1000 then R.ok (D.loc S2.length) (S2++[Ob.lst (List.replicate j.toNat a).flatten]) else .no
        |none=>.no)=.ok d S':=r
       rw[Zw hs2] at r;have r:=ifo (show (if 0<=j/\j<1000/\ds.length<=1000 then R.ok (D.loc S2.length) (S2++[Ob.lst (List.replicate j.toNat ds).flatten]) else .no)=.ok d S' from r)
       cases r;exact⟨_,rfl,P0 x1.len x2.len⟩
      ·obtain⟨n',_,en,_,nx,_⟩:=Rep.lst' r1
       cases en;exact nx (z▸xo.z)
     |_=>cases q
    |tup us=>cases y with
     |int j=>
      have q:(if 0<=j/\j<1000/\us.length<=1000 then PR.ok (V.tup (List.replicate j.toNat us).flatten) s2 else .no)=.ok (.lst xs) s':=q
      by_cases c:0<=j/\j<1000/\us.length<=1000
      ·rw[Ph c] at q;cases q
      ·rw[Pi c] at q;cases q
     |_=>cases q
    |int i=>cases y with
     |int j=>
      have q:(if (fits i&&fits j)=true then PR.ok (V.int (i*j)) s2 else .no)=.ok (.lst xs) s':=q
      by_cases c:(fits i&&fits j)=true
      ·rw[Ph c] at q;cases q
      ·rw[Pi c] at q;cases q
     |_=>cases q
    |_=>cases y <;> cases q
   |_=>cases hf
  |_=>cases hf
 |blt f as=>
  cases f with
  |list=>
   rw[pv] at q;obtain⟨vs,s1,q1,q⟩:=Z4 q;obtain⟨ds,S1,e1,x1,w1,r1⟩:=(XN H as xo he w).out q1;rw[ev,e1] at r;have r:bltin .list ds S1=.ok d S':=r
   match ds,r with
   |[z],r=>
    obtain⟨_,S2,r1,r⟩:=bo (show (ob (YS S1 z) S1).bind (λxs S=>R.ok (D.loc S.length) (S++[.lst xs]))=.ok d S' from r)
    cases q:YS S1 z with
    |none=>rw[q] at r1;cases r1
    |some _=>rw[q] at r1;cases r1;cases r;exact⟨_,rfl,x1.len⟩
  |sorted=>
   rw[pv] at q;obtain⟨vs,s1,q1,q⟩:=Z4 q;obtain⟨ds,S1,e1,x1,w1,r1⟩:=(XN H as xo he w).out q1;rw[ev,e1] at r;have r:bltin .sorted ds S1=.ok d S':=r
   match ds,r with
   |[.loc z],r=>
    obtain⟨ys,S2,r1,r⟩:=bo (show (ob (Zi S1 z) S1).bind _=.ok d S' from r)
    cases q:Zi S1 z with
    |none=>rw[q] at r1;cases r1
    |some _=>
     rw[q] at r1;cases r1;have r:(if wL ys=true then sorted false z S1 else (ob (Ya ys) S1).bind λps S=>if Z3 ps=true then .ok (.loc S.length) (S++[.lst ((Yc ltP ps).map Vd)]) else .no)=.ok d S':=r
     by_cases c:wL ys=true
     ·rw[Ph c] at r
      have r:(ob (Zi S1 z) S1).bind (λxs S=>(ob (Z0 xs) S).bind λrs S=>if ZZ rs=true then .ok (.loc S.length) (S++[.lst ((if false then (ZG rs).reverse else ZG rs).map XX)]) else .no)=R.ok d S':=r
      rw[q] at r;obtain⟨rs,S3,r2,r⟩:=bo (show (ob (Z0 ys) S1).bind _=R.ok d S' from r)
      cases q2:Z0 ys with
      |none=>rw[q2] at r2;cases r2
      |some _=>
       rw[q2] at r2;cases r2;have r:=ifo r;cases r;exact⟨_,rfl,x1.len⟩
     ·rw[Pi c] at r
      obtain⟨rs,S3,r2,r⟩:=bo r;cases q2:Ya ys with
      |none=>rw[q2] at r2;cases r2
      |some _=>
       rw[q2] at r2;cases r2;have r:=ifo r;cases r;exact⟨_,rfl,x1.len⟩
  |_=>cases hf
 |_=>cases hf
end
theorem XV:∀(a b:List V),Yx (a++b)=Yx a++Yx b
 |[],b=>rfl
 |x::a,b=>by rw[List.cons_append];show toD x::Yx (a++b)=_;rw[XV a b];rfl
theorem Xp:∀{a b:List V},flats a=true->flats b=true->flats (a++b)=true
 |[],b,_,h=>h
 |x::a,b,h,h'=>by
  unfold flats at h;obtain⟨h1,h2⟩:=(Pz _ _).mp h;show (x.flat&&flats (a++b))=true;rw[h1,Xp h2 h'];rfl
theorem Gv:∀(a:List V) (j:Nat) (v:V),Yx (a.set j v)=(Yx a).set j (toD v)
 |[],_,_=>rfl
 |x::a,0,v=>rfl
 |x::a,j+1,v=>by show toD x::Yx (a.set j v)=toD x::(Yx a).set j (toD v);rw[Gv a j v]
theorem Qe:∀{a:List V}{j:Nat}{v:V},flats a=true->v.flat=true->flats (a.set j v)=true
 |[],_,_,h,_=>h
 |x::a,0,v,h,h'=>by
  unfold flats at h;obtain⟨h1,h2⟩:=(Pz _ _).mp h;show (v.flat&&flats a)=true;rw[h',h2];rfl
 |x::a,j+1,v,h,h'=>by
  unfold flats at h;obtain⟨h1,h2⟩:=(Pz _ _).mp h;show (x.flat&&flats (a.set j v))=true;rw[h1,Qe h2 h'];rfl
theorem Yy:∀a:List V,(Yx a).length=a.length
 |[]=>rfl
 |x::a=>by show (Yx a).length+1=_;rw[Yy a];rfl
theorem xH {C:Calls}{e:E}{σ:Lc}{S:Store}:evs C [e] σ S=(ev C e σ S).bind λx S=>.ok [x] S:=by
 rw[evs];rfl
section
variable {n0:Nat}{C:Calls}{CV:Zv}{X:Nat->Prop}{base:Nat}{W:Own}{ρ:Env}{os:List Nat}{σ:Lc}{S:Store}{s:DS}
theorem EnvS.at (h:EnvS S X n0 base W ρ os σ) {i:Nat}(hi:os.contains i=true):∃n xs,W i=some n/\ρ[i]? = some (some (.lst xs))/\flats xs=true/\σ[i]? = some (some (.loc n))/\S[n]? = some (.lst (Yx xs)):=by
 rw[h.osW] at hi;obtain⟨n,hn⟩:=Option.isSome_iff_exists.mp hi;obtain⟨xs,a,b,c,d⟩:=h.own i n hn;exact⟨n,xs,hn,a,b,c,d⟩
theorem qw {n:Nat}{o:Ob}{i:Nat}(hw:W i=some n):ExtS n0 W S (S.set n o):=⟨by simp,λm o' _ z e=>by rw[PH (λq:n=m=>z i (by rw[<-q];exact hw))];exact e⟩
theorem Zz.mutd {i n:Nat}{ys:List V}(he:EnvS S X n0 base W ρ os σ) (w:Dw n0 S s) (hw:W i=some n) (hf:flats ys=true):Zz X n0 base S W (.ok (.nx σ) (S.set n (.lst (Yx ys)))) (.ok (.nx (ρ.set i (some (.lst ys))) os) s):=
 ⟨_,_,rfl,qw hw,⟨by rw[PH (he.ne hw)];exact w.1,w.2⟩,W,WExt.refl,he.mut hw hf⟩
theorem qp {op:Bop}{x y z:V}{s s':DS}(h:xW op x y s=.ok z s'):∃i,z=.int i:=by
 cases x with
 |int i=>cases y with
  |int j=>
   have ifo:∀{P:Prop} [Decidable P] {k:Int} ,(if P then PR.ok (V.int k) s else .no)=.ok z s'->∃i,z=.int i:=λ{P _ k} h=>by
    by_cases c:P
    ·rw[Ph c] at h;cases h;exact⟨_,rfl⟩
    ·rw[Pi c] at h;cases h
   cases op with
   |add=>cases h;exact⟨_,rfl⟩
   |sub=>cases h;exact⟨_,rfl⟩
   |mul=>exact ifo h
   |fdiv=>exact ifo h
   |mod=>exact ifo h
   |pow=>exact ifo h
  |_=>cases h
 |_=>cases h
theorem uG (H:ZT n0 C CV) (e:E) (he:EnvS S X n0 base W ρ os σ) (w:Dw n0 S s):Sim n0 S RlE (tst C e σ S) (Vj CV e ρ s):=by
 refine (ZL H e he.xok he.all w).bind λd v S1 s1 x1 w1 r1=>?_
 cases q:Yd v with
 |none=>exact True.intro
 |some b=>rw[YL r1 q];exact Sim.ok w1 rfl
theorem jX (H:ZT n0 C CV) (e:E) (he:EnvS S X n0 base W ρ os σ) (w:Dw n0 S s):Zz X n0 base S W ((ev C e σ S).bind λ_ S=>.ok (.nx σ) S) ((pv CV e ρ s).bind λ_ s=>.ok (.nx ρ os) s):=
 Zz.bindE (ZL H e he.xok he.all w) λd v S1 s1 x1 w1 r1=>Zz.nx w1 WExt.refl (he.ext x1)
theorem yx (H:ZT n0 C CV) (i:Nat) (e:E) (he:EnvS S X n0 base W ρ os σ) (w:Dw n0 S s):Zz X n0 base S W ((ev C (.mt .append (.v i) [e]) σ S).bind λ_ S=>.ok (.nx σ) S)
  (if os.contains i=true then (po (Wm ρ[i]?) s).bind λxs s=>(pv CV e ρ s).bind λv s=>if v.flat=true/\xs.length<lim then .ok (.nx (ρ.set i (some (.lst (xs++[v])))) os) s else .no else .no):=by
 by_cases c:os.contains i=true
 ·rw[Ph c]
  obtain⟨n,xs,hw,a1,a2,a3,a4⟩:=he.at c;have e0:Wm ρ[i]? = some xs:=by rw[a1];rfl
  rw[e0];show Zz X n0 base S W _ ((pv CV e ρ s).bind _);have e1:(ev C (.mt .append (.v i) [e]) σ S).bind (λ_ S=>R.ok (Fl.nx σ) S)=(ev C e σ S).bind λd S=>(method .append (.loc n) [d] S).bind λ_ S=>.ok (.nx σ) S:=by
   rw[ev,ev,a3];show R.bind (if zb S (.loc n)=true then _ else _) _=_
   rw[Ph (by show (Zi S n).isSome=true;rw[Zw a4];rfl),xH]
   cases ev C e σ S <;> rfl
  rw[e1];refine Zz.bindE (ZL H e he.xok he.all w) λd v S1 s1 x1 w1 r1=>?_
  have he1:=he.ext x1;have a5:=x1.keep n _ (he.ne hw) a4;by_cases c2:v.flat=true/\xs.length<lim
  ·rw[Ph c2]
   have hm:method .append (.loc n) [d] S1=.ok .non (S1.set n (.lst (Yx xs++[d]))):=by
    show R.bind (ob (Zi S1 n) S1) _=_;rw[Zw a5];show (if (Yx xs).length<lim then _ else _)=_
    rw[Ph (by rw[Yy];exact c2.2)]
   rw[hm];have:=Zz.mutd (ys:=xs++[v]) he1 w1 hw (Xp a2 (by show (v.flat&&true)=true;rw[c2.1];rfl))
   rw[XV] at this;rw[XH c2.1 r1];exact this
  ·rw[Pi c2];exact True.intro
 ·rw[Pi c];exact True.intro
theorem zD (H:ZT n0 C CV) (i:Nat) (e:E) (he:EnvS S X n0 base W ρ os σ) (w:Dw n0 S s):Zz X n0 base S W ((ev C (.mt .extend (.v i) [e]) σ S).bind λ_ S=>.ok (.nx σ) S)
  (if os.contains i=true then (po (Wm ρ[i]?) s).bind λxs s=>(pv CV e (hide os ρ) s).bind λv s=>match v with
   |.lst ys=>if flats ys=true/\xs.length+ys.length<=lim then .ok (.nx (ρ.set i (some (.lst (xs++ys)))) os) s else .no
   |_=>.no
  else .no):=by
 by_cases c:os.contains i=true
 ·rw[Ph c]
  obtain⟨n,xs,hw,a1,a2,a3,a4⟩:=he.at c;have e0:Wm ρ[i]? = some xs:=by rw[a1];rfl
  rw[e0];show Zz X n0 base S W _ ((pv CV e (hide os ρ) s).bind _);have e1:(ev C (.mt .extend (.v i) [e]) σ S).bind (λ_ S=>R.ok (Fl.nx σ) S)=(ev C e σ S).bind λd S=>(method .extend (.loc n) [d] S).bind λ_ S=>.ok (.nx σ) S:=by
   rw[ev,ev,a3];show R.bind (if zb S (.loc n)=true then _ else _) _=_
   rw[Ph (by show (Zi S n).isSome=true;rw[Zw a4];rfl),xH]
   cases ev C e σ S <;> rfl
  rw[e1];refine Zz.bindE (ZL H e he.xokW he.hid w) λd v S1 s1 x1 w1 r1=>?_
  have he1:=he.ext x1;have a5:=x1.keep n _ (he.ne hw) a4;cases v with
  |lst ys=>
   obtain⟨k,ds,rfl,hs,hx,rs⟩:=Rep.lst' r1;show Zz X n0 base S1 W _ (if flats ys=true/\xs.length+ys.length<=lim then .ok (.nx (ρ.set i (some (.lst (xs++ys)))) os) s1 else .no)
   by_cases c2:flats ys=true/\xs.length+ys.length<=lim
   ·rw[Ph c2]
    have ed:=Xc c2.1 rs;subst ed;have hm:method .extend (.loc n) [.loc k] S1=.ok .non (S1.set n (.lst (Yx xs++Yx ys))):=by
     show (if n=k then R.no else (ob (Zi S1 n) S1).bind λxs S=>(ob (Zi S k) S).bind λys S=>if xs.length+ys.length<=lim then R.ok D.non (S.set n (.lst (xs++ys))) else .no)=_
     rw[Pi (λz:n=k=>hx (.inr ⟨i,by rw[<-z];exact hw⟩)),Zw a5]
     show R.bind (ob (Zi S1 k) S1) _=_;rw[Zw hs];show (if (Yx xs).length+(Yx ys).length<=lim then _ else _)=_
     rw[Ph (by rw[Yy,Yy];exact c2.2)]
    rw[hm];have:=Zz.mutd (ys:=xs++ys) he1 w1 hw (Xp a2 c2.1);rw[XV] at this;exact this
   ·rw[Pi c2];exact True.intro
  |_=>exact True.intro
 ·rw[Pi c];exact True.intro
theorem qN (H:ZT n0 C CV) (i:Nat) (k e:E) (he:EnvS S X n0 base W ρ os σ) (w:Dw n0 S s):Zz X n0 base S W ((ev C e σ S).bind λv S=>(ev C (.v i) σ S).bind λx S=>(ev C k σ S).bind λy S=>(setix x y v S).bind λ_ S=>.ok (.nx σ) S)
  (if os.contains i then (pv CV e ρ s).bind λv s=>if v.flat then (po (Wm ρ[i]?) s).bind λxs s=>(pv CV k ρ s).bind λy s=>match y with
   |.int n=>(po (ixN xs.length n) s).bind λj s=>.ok (.nx (ρ.set i (some (.lst (xs.set j v)))) os) s
   |_=>.no
  else .no else .no):=by
 by_cases c:os.contains i=true
 ·rw[Ph c]
  obtain⟨n,xs,hw,a1,a2,a3,a4⟩:=he.at c;refine Zz.bindE (ZL H e he.xok he.all w) λd v S1 s1 x1 w1 r1=>?_
  have he1:=he.ext x1;have a5:=x1.keep n _ (he.ne hw) a4;by_cases c2:v.flat=true
  ·rw[Ph c2]
   have e0:Wm ρ[i]? = some xs:=by rw[a1];rfl
   rw[e0,ev,a3];show Zz X n0 base S1 W ((ev C k σ S1).bind λy S=>(setix (.loc n) y d S).bind λ_ S=>.ok (.nx σ) S) ((pv CV k ρ s1).bind _)
   refine Zz.bindE (ZL H k he1.xok he1.all w1) λdk vk S2 s2 x2 w2 r2=>?_
   have he2:=he1.ext x2;have a6:=x2.keep n _ (he.ne hw) a5;cases vk with
   |int m=>
    cases Rep.int' r2;show Zz X n0 base S2 W ((setix (.loc n) (.int m) d S2).bind _) ((po (ixN xs.length m) s2).bind _);cases q:ixN xs.length m with
    |none=>exact True.intro
    |some j=>
     have hm:setix (.loc n) (.int m) d S2=.ok () (S2.set n (.lst ((Yx xs).set j d))):=by
      show (match S2[n]? with
       |some (.lst xs)=>(ob (ixN xs.length m) S2).bind λj S=>R.ok () (S.set n (.lst (xs.set j d)))
       |_=>.no)=_
      rw[a6];show (ob (ixN (Yx xs).length m) S2).bind _=_;rw[Yy,q];rfl
     rw[hm];have:=Zz.mutd (ys:=xs.set j v) he2 w2 hw (Qe a2 c2);rw[Gv] at this;rw[XH c2 r1];exact this
   |_=>exact True.intro
  ·rw[Pi c2];exact True.intro
 ·rw[Pi c];exact True.intro
theorem qf (H:ZT n0 C CV) (ms:List Nat) (i:Nat) (e:E) (he:EnvS S X n0 base W ρ os σ) (w:Dw n0 S s):Zz X n0 base S W ((ev C e σ S).bind λx S=>(ob (assign [i] x S σ) S).bind λσ S=>.ok (.nx σ) S)
  ((pvA CV e ρ os s).bind λv s=>if (ms.contains i&&fresh e)=true then match v with
   |.lst xs=>if flats xs=true/\i<ρ.length then .ok (.nx (ρ.set i (some v)) (i::os.filter (· != i))) s else .no
   |_=>.no
  else .ok (.nx (ρ.set i (some v)) (os.filter (· != i))) s):=by
 have hA:=ZbC H e he w;cases q:pvA CV e ρ os s with
 |no=>exact True.intro
 |ex c s1=>rw[q] at hA;obtain⟨S1,e1,x1,w1⟩:=hA;rw[e1];exact⟨S1,rfl,x1.s,w1⟩
 |ok v s1=>
  rw[q] at hA;obtain⟨d,S1,e1,x1,w1,r1⟩:=hA;rw[e1];show Zz X n0 base S W (.ok (.nx (σ.set i (some d))) S1) (if (ms.contains i&&fresh e)=true then _ else _)
  by_cases c:(ms.contains i&&fresh e)=true
  ·rw[Ph c]
   cases v with
   |lst xs=>
    show Zz X n0 base S W _ (if flats xs=true/\i<ρ.length then _ else _)
    by_cases c2:flats xs=true/\i<ρ.length
    ·rw[Ph c2]
     obtain⟨c2,hi⟩:=c2;have hf:=((Pz _ _).mp c).2;have fl:∃n,d=.loc n/\S.length<=n:=by
      cases os with
      |nil=>
       have hh:EnvE S (XW X W) n0 ρ σ:=⟨he.len,λi v q=>he.val i v q (he.noW i)⟩
       exact Qi H hf he.xokW hh w q e1
      |cons o os=>
       have q':(match pv CV e (hide (o::os) ρ) s with
        |.ok v s=>.ok v s
        |.ex c s=>.ex c s
        |.no=>(pv CV e ρ s).bind λv s=>if v.flat then .ok v s else .no)=PR.ok (V.lst xs) s1:=q
       cases q3:pv CV e (hide (o::os) ρ) s with
       |ok v s2=>rw[q3] at q';cases q';exact Qi H hf he.xokW he.hid w q3 e1
       |ex _ _=>rw[q3] at q';cases q'
       |no=>
        rw[q3] at q';obtain⟨v,s2,_,q5⟩:=Z4 q';by_cases cf:v.flat=true
        ·rw[Ph cf] at q5;cases q5;cases cf
        ·rw[Pi cf] at q5;cases q5
     obtain⟨n,rfl,hn⟩:=fl;refine⟨_,S1,rfl,x1.s,w1,_,?_,he.take x1 hn c2 r1 hi⟩;intro j m z;by_cases cj:j=i
     ·simp only[cj,NM] at z;cases z;exact .inr hn
     ·simp only[cj,Np] at z;exact .inl ⟨j,z⟩
    ·rw[Pi c2];exact True.intro
   |_=>exact True.intro
  ·rw[Pi c]
   refine⟨_,S1,rfl,x1.s,w1,_,?_,(he.ext x1).drop r1⟩;intro j m z;by_cases cj:j=i
   ·simp only[cj,NM] at z;cases z
   ·simp only[cj,Np] at z;exact .inl ⟨j,z⟩
end
section
variable {n0:Nat}{C:Calls}{CV:Zv}{X:Nat->Prop}{base:Nat}
theorem yr {wk:Walk}{S0:Store}{W0:Own}{body:D->Lc->Store->R Fl}{bodyV:V->Env->List Nat->DS->PR FlV}
  (hk:∀p∈wk.kept,S0[p.1]? = some (.lst p.2)/\¬XW X W0 p.1) (z0:X n0)
  (hb:∀x d S W ρ os σ s,EnvS S X n0 base W ρ os σ->Dw n0 S s->Rep S X n0 x d->Zz X n0 base S W (body d σ S) (bodyV x ρ os s)) :
  ∀(vs:List V) (ds:List D) (S:Store) (W:Own) (ρ:Env) (os:List Nat) (σ:Lc) (s:DS),Reps S0 (XW X W0) n0 vs ds->ExtS n0 W0 S0 S->WExt S0 W0 W->EnvS S X n0 base W ρ os σ->Dw n0 S s->Zz X n0 base S W (WX wk body ds σ S) (Vk bodyV vs ρ os s)
 |[],ds,S,W,ρ,os,σ,s,rs,x,wx,he,w=>by
  rw[rs.nil',WX,Vk,Ph (W7 λp hp=>x.keep _ _ (λz=>(hk p hp).2 (.inl (z▸z0))) (λi z=>(hk p hp).2 (.inr ⟨i,z⟩)) (hk p hp).1)]
  exact Zz.nx w WExt.refl he
 |v::vs,ds,S,W,ρ,os,σ,s,rs,x,wx,he,w=>by
  obtain⟨d,ds,rfl,r1,r2⟩:=rs.cons';rw[WX,Vk,Ph (W7 λp hp=>x.keep _ _ (λz=>(hk p hp).2 (.inl (z▸z0))) (λi z=>(hk p hp).2 (.inr ⟨i,z⟩)) (hk p hp).1)]
  have r1':Rep S X n0 v d:=r1.mono (λn o nx hs=>x.keep n o (λz=>nx (.inl (z▸z0))) (λi z=>nx (.inr ⟨i,z⟩)) hs) λn _ z=>.inl z
  have h1:=hb v d S W ρ os σ s he w r1';cases q:bodyV v ρ os s with
  |no=>exact True.intro
  |ex c s1=>rw[q] at h1;obtain⟨S1,e,x1,w1⟩:=h1;rw[e];exact⟨S1,rfl,x1,w1⟩
  |ok f s1=>
   rw[q] at h1;obtain⟨g,S1,e,x1,w1,fr⟩:=h1;rw[e];cases f with
   |nx ρ1 os1=>cases g with
    |nx σ1=>
     obtain⟨W1,wx1,he1⟩:=fr;exact Zz.from x1 wx1 (yr hk z0 hb vs ds S1 W1 ρ1 os1 σ1 s1 r2 (x.trans wx x1) (wx.trans x.len wx1) he1 w1)
    |_=>exact fr.elim
   |cnt ρ1 os1=>cases g with
    |cnt σ1=>
     obtain⟨W1,wx1,he1⟩:=fr;exact Zz.from x1 wx1 (yr hk z0 hb vs ds S1 W1 ρ1 os1 σ1 s1 r2 (x.trans wx x1) (wx.trans x.len wx1) he1 w1)
    |_=>exact fr.elim
   |brk ρ1 os1=>cases g with
    |brk σ1=>exact⟨_,S1,rfl,x1,w1,fr⟩
    |_=>exact fr.elim
   |ret v1=>cases g with
    |ret d1=>exact⟨_,S1,rfl,x1,w1,fr⟩
    |_=>exact fr.elim
theorem UO {test:Lc->Store->R Bool}{testV:Env->DS->PR Bool}{body:Lc->Store->R Fl}{bodyV:Env->List Nat->DS->PR FlV}
  (ht:∀S W ρ os σ s,EnvS S X n0 base W ρ os σ->Dw n0 S s->Sim n0 S RlE (test σ S) (testV ρ s))
  (hb:∀S W ρ os σ s,EnvS S X n0 base W ρ os σ->Dw n0 S s->Zz X n0 base S W (body σ S) (bodyV ρ os s)) :
  ∀(n:Nat) (S:Store) (W:Own) (ρ:Env) (os:List Nat) (σ:Lc) (s:DS),EnvS S X n0 base W ρ os σ->Dw n0 S s->Zz X n0 base S W (YT test body n σ S) (Y4 testV bodyV n ρ os s)
 |0,S,W,ρ,os,σ,s,he,w=>by rw[Y4];exact True.intro
 |n+1,S,W,ρ,os,σ,s,he,w=>by
  rw[YT,Y4];refine Zz.bindE (ht S W ρ os σ s he w) λb' b S1 s1 x1 w1 r1=>?_
  have r1:b'=b:=r1;subst r1;have he1:=he.ext x1;cases b' with
  |false=>exact Zz.nx w1 WExt.refl he1
  |true=>
   have h1:=hb S1 W ρ os σ s1 he1 w1;show Zz X n0 base S1 W (match body σ S1 with
    |.ok (.nx σ') S'=>YT test body n σ' S'
    |.ok (.cnt σ') S'=>YT test body n σ' S'
    |.ok (.brk σ') S'=>.ok (.nx σ') S'
    |.ok (.ret d) S'=>.ok (.ret d) S'
    |.ex c S'=>.ex c S'
    |.no=>.no) ((bodyV ρ os s1).bind _)
   cases q:bodyV ρ os s1 with
   |no=>exact True.intro
   |ex c s2=>rw[q] at h1;obtain⟨S2,e,x2,w2⟩:=h1;rw[e];exact⟨S2,rfl,x2,w2⟩
   |ok f s2=>
    rw[q] at h1;obtain⟨g,S2,e,x2,w2,fr⟩:=h1;rw[e];cases f with
    |nx ρ1 os1=>cases g with
     |nx σ1=>obtain⟨W1,wx1,he2⟩:=fr;exact Zz.from x2 wx1 (UO ht hb n S2 W1 ρ1 os1 σ1 s2 he2 w2)
     |_=>exact fr.elim
    |cnt ρ1 os1=>cases g with
     |cnt σ1=>obtain⟨W1,wx1,he2⟩:=fr;exact Zz.from x2 wx1 (UO ht hb n S2 W1 ρ1 os1 σ1 s2 he2 w2)
     |_=>exact fr.elim
    |brk ρ1 os1=>cases g with
     |brk σ1=>exact⟨_,S2,rfl,x2,w2,fr⟩
     |_=>exact fr.elim
    |ret v1=>cases g with
     |ret d1=>exact⟨_,S2,rfl,x2,w2,fr⟩
     |_=>exact fr.elim
mutual
theorem Zco (H:ZT n0 C CV) (ms:List Nat):∀(m:Sm) {W:Own}{ρ:Env}{os:List Nat}{σ:Lc}{S:Store}{s:DS},EnvS S X n0 base W ρ os σ->Dw n0 S s->Zz X n0 base S W (run C m σ S) (rv CV ms m ρ os s)
 |.asg t e,W,ρ,os,σ,S,s,he,w=>by
  rw[run];have gen:∀t:List Nat,Zz X n0 base S W ((ev C e σ S).bind λx S=>(ob (assign t x S σ) S).bind λσ S=>.ok (.nx σ) S) ((pvA CV e ρ os s).bind λv s=>if (t.any os.contains)=true then .no else (po (Zs t v ρ) s).bind λρ s=>.ok (.nx ρ os) s):=by
   intro t;refine Zz.bindE (ZbC H e he w) λd v S1 s1 x1 w1 r1=>?_
   by_cases c:(t.any os.contains)=true
   ·rw[Ph c];exact True.intro
   ·rw[Pi c]
    cases q:Zs t v ρ with
    |none=>exact True.intro
    |some ρ1=>
     obtain⟨σ1,e1,he1⟩:=(he.ext x1).assign (by simpa using c) r1 q
     rw[e1];exact Zz.nx w1 WExt.refl he1
  match t with
  |[i]=>exact qf H ms i e he w
  |[]=>exact gen []
  |i::j::t=>exact gen (i::j::t)
 |.par t es,W,ρ,os,σ,S,s,he,w=>by
  rw[run,rv];refine Zz.bindE (Zb8 H es he w) λds vs S1 s1 x1 w1 r1=>?_
  by_cases c:(t.any os.contains)=true
  ·rw[Ph c];exact True.intro
  ·rw[Pi c]
   cases q:YI t vs ρ with
   |none=>exact True.intro
   |some ρ1=>
    obtain⟨σ1,e1,he1⟩:=(he.ext x1).fill (by simpa using c) r1 q
    rw[e1];exact Zz.nx w1 WExt.refl he1
 |.aug i op e,W,ρ,os,σ,S,s,he,w=>by
  rw[run,rv];by_cases c:os.contains i=true
  ·rw[Ph c];exact True.intro
  ·rw[Pi c]
   cases q:(ρ[i]?).join with
   |none=>exact True.intro
   |some x=>
    have q':ρ[i]? = some (some x):=by
     cases q2:ρ[i]? with
     |none=>rw[q2] at q;cases q
     |some o=>rw[q2] at q;have q:o=some x:=q;rw[q]
    obtain⟨d,e1,r1⟩:=he.all.val i x q';rw[e1];show Zz X n0 base S W ((ev C e σ S).bind λy S=>(augop op d y S).bind λz S=>.ok (.nx (σ.set i (some z))) S) ((pv CV e ρ s).bind λy s=>(xW op x y s).bind λz s=>.ok (.nx (ρ.set i (some z)) os) s)
    refine Zz.bindE (ZL H e he.xok he.all w) λdy y S1 s1 x1 w1 r2=>?_
    have he1:=he.ext x1;have hs:=ji (op:=op) he1.xok w1 (r1.ext he.xok x1) r2;cases q3:xW op x y s1 with
    |no=>exact True.intro
    |ex c s2=>rw[q3] at hs;obtain⟨S2,e2,x2,w2⟩:=hs;rw[e2];exact⟨S2,rfl,x2.s,w2⟩
    |ok z s2=>
     rw[q3] at hs;obtain⟨dz,S2,e2,x2,w2,r3⟩:=hs;obtain⟨k,rfl⟩:=qp q3;cases Rep.int' r3;rw[e2];exact Zz.from x2.s WExt.refl (Zz.nx w2 WExt.refl ((he1.ext x2).set (by simpa using c) (Zn k)))
 |.put o k e,W,ρ,os,σ,S,s,he,w=>by
  rw[run];cases o with
  |v i=>exact qN H i k e he w
  |_=>exact True.intro
 |.dput _ _ _,W,ρ,os,σ,S,s,he,w=>by rw[rv];exact True.intro
 |.ret e,W,ρ,os,σ,S,s,he,w=>by
  rw[run,rv];exact Zz.bindE (ZL H e he.xok he.all w) λd v S1 s1 x1 w1 r1=>⟨_,S1,rfl,Ext.refl.s,w1,r1⟩
 |.ex e,W,ρ,os,σ,S,s,he,w=>by
  rw[run];cases e with
  |mt m o as=>
   have no:∀{q:PR FlV},q=(pv CV (.mt m o as) ρ s).bind (λ_ s=>.ok (.nx ρ os) s)->Zz X n0 base S W ((ev C (.mt m o as) σ S).bind λ_ S=>.ok (.nx σ) S) q:=λ{q} h=>by rw[h];exact jX H _ he w
   cases m with
   |append=>cases o with
    |v i=>match as with
     |[e]=>exact yx H i e he w
     |[]=>exact no rfl
     |_::_::_=>exact no rfl
    |_=>exact no rfl
   |extend=>cases o with
    |v i=>match as with
     |[e]=>exact zD H i e he w
     |[]=>exact no rfl
     |_::_::_=>exact no rfl
    |_=>exact no rfl
   |index=>exact no rfl
  |_=>exact jX H _ he w
 |.ite t a b,W,ρ,os,σ,S,s,he,w=>by
  rw[run,rv];refine Zz.bindE (uG H t he w) λc' c S1 s1 x1 w1 r1=>?_
  have r1:c'=c:=r1;subst r1;cases c' with
  |true=>exact UZ H ms a (he.ext x1) w1
  |false=>exact UZ H ms b (he.ext x1) w1
 |.forr t it b,W,ρ,os,σ,S,s,he,w=>by
  rw[run,rv];refine Zz.bindE (xX H it he.xokW he.hid w) λwk vs S1 s1 x1 w1 r1=>?_
  have he1:=he.ext x1;refine yr (W0:=W) (S0:=S1) (λp hp=>r1.2 p hp) he.xz (λx d S W ρ os σ s he w r=>?_) vs wk.items S1 W ρ os σ s1 r1.1 Ext.refl.s WExt.refl he1 w1
  by_cases c:(t.any os.contains)=true
  ·rw[Ph c];exact True.intro
  ·rw[Pi c]
   by_cases c2:(os.isEmpty||x.flat)=true
   ·rw[Ph c2]
    have r':Rep S (XW X W) n0 x d:=by
     rcases (Bool.or_eq_true _ _).mp c2 with c3 | c3
     ·have:os=[]:=by simpa using c3
      subst this;exact r.mono (λ_ _ _ z=>z) λn _ z=>z.elim id λ⟨i,z⟩=>by rw[he.noW i] at z;cases z
     ·rw[XH c3 r];exact Ui c3
    cases q:Zs t x ρ with
    |none=>exact True.intro
    |some ρ1=>
     obtain⟨σ1,e1,he2⟩:=he.assign (by simpa using c) r' q
     rw[e1];exact UZ H ms b he2 w
   ·rw[Pi c2];exact True.intro
 |.whl t b,W,ρ,os,σ,S,s,he,w=>by
  rw[run,rv];exact UO (λS W ρ os σ s he w=>uG H t he w) (λS W ρ os σ s he w=>UZ H ms b he w) WF S W ρ os σ s he w
 |.raise c as,W,ρ,os,σ,S,s,he,w=>by
  rw[run,rv];exact Zz.bindE (XN H as he.xok he.all w) λd v S1 s1 x1 w1 r1=>⟨S1,rfl,Ext.refl.s,w1⟩
 |.pas,W,ρ,os,σ,S,s,he,w=>by rw[run,rv];exact Zz.nx w WExt.refl he
 |.brk,W,ρ,os,σ,S,s,he,w=>by rw[run,rv];exact⟨_,S,rfl,Ext.refl.s,w,W,WExt.refl,he⟩
 |.cnt,W,ρ,os,σ,S,s,he,w=>by rw[run,rv];exact⟨_,S,rfl,Ext.refl.s,w,W,WExt.refl,he⟩
theorem UZ (H:ZT n0 C CV) (ms:List Nat):∀(l:List Sm) {W:Own}{ρ:Env}{os:List Nat}{σ:Lc}{S:Store}{s:DS},EnvS S X n0 base W ρ os σ->Dw n0 S s->Zz X n0 base S W (runs C l σ S) (rvs CV ms l ρ os s)
 |[],W,ρ,os,σ,S,s,he,w=>by rw[runs,rvs];exact Zz.nx w WExt.refl he
 |m::l,W,ρ,os,σ,S,s,he,w=>by
  rw[runs,rvs];have h1:=Zco H ms m he w;cases q:rv CV ms m ρ os s with
  |no=>exact True.intro
  |ex c s1=>rw[q] at h1;obtain⟨S1,e,x1,w1⟩:=h1;rw[e];exact⟨S1,rfl,x1,w1⟩
  |ok f s1=>
   rw[q] at h1;obtain⟨g,S1,e,x1,w1,fr⟩:=h1;rw[e];cases f with
   |nx ρ1 os1=>cases g with
    |nx σ1=>obtain⟨W1,wx1,he1⟩:=fr;exact Zz.from x1 wx1 (UZ H ms l he1 w1)
    |_=>exact fr.elim
   |cnt ρ1 os1=>cases g with
    |cnt σ1=>exact⟨_,S1,rfl,x1,w1,fr⟩
    |_=>exact fr.elim
   |brk ρ1 os1=>cases g with
    |brk σ1=>exact⟨_,S1,rfl,x1,w1,fr⟩
    |_=>exact fr.elim
   |ret v1=>cases g with
    |ret d1=>exact⟨_,S1,rfl,x1,w1,fr⟩
    |_=>exact fr.elim
end
end
noncomputable def takeFn:Fn:=⟨2,4,
 [.ite (.ix (.v 0) (.c (.int 1))) [.asg [2] (.bin .mod (.ix (.v 0) (.c (.int 0))) (.v 1)),
  .put (.v 0) (.c (.int 0)) (.bin .fdiv (.ix (.v 0) (.c (.int 0))) (.v 1)),
  .ret (.v 2)] [],
  .put (.v 0) (.c (.int 0)) (.bin .mod (.bin .add (.bin .mul (.ix (.v 0) (.c (.int 0))) (.c (.int 48271))) (.c (.int 29))) (.c (.int 2147483647))),
  .asg [3] (.bin .mod (.bin .add (.bin .add (.bin .mul (.ix (.v 0) (.c (.int 0))) (.ix (.v 0) (.c (.int 0)))) (.bin .mul (.c (.int 39373)) (.ix (.v 0) (.c (.int 0))))) (.c (.int 7))) (.c (.int 2147483629))),
  .asg [3] (.bin .mod (.bin .add (.bin .mul (.v 3) (.v 3)) (.bin .mul (.c (.int 16807)) (.v 3))) (.c (.int 2147483587))),
  .ret (.bin .mod (.bin .fdiv (.v 3) (.c (.int 8))) (.v 1))]⟩
theorem X9 {a:Int}(h0:0<=a) (h:a<4294967296):fits a=true:=by
 unfold fits;refine PD ?_;have h1:a.natAbs<2^32:=by omega
 exact PJ h1 (Nat.pow_le_pow_right (by decide) (by decide))
theorem evT:(∀a b S,binop .add (.int a) (.int b) S=.ok (.int (a+b)) S)/\(∀a b S,binop .mul (.int a) (.int b) S=if (fits a&&fits b)=true then .ok (.int (a*b)) S else .no)/\(∀a b S,binop .fdiv (.int a) (.int b) S=if 0<b/\b<1073741824 then .ok (.int (a / b)) S else .no)/\(∀a b S,binop .mod (.int a) (.int b) S=if 0<b then .ok (.int (a%b)) S else .no)/\(∀S b,truth S (.bl b)=some b)/\(∀i x S σ,assign [i] x S σ=some (σ.set i (some x))):=
 ⟨λ_ _ _=>rfl,λ_ _ _=>rfl,λ_ _ _=>rfl,λ_ _ _=>rfl,λ_ _=>rfl,λ_ _ _ _=>rfl⟩
theorem V1 {S:Store}{n:Nat}{i:Int}{xs:List D}(h:S[n]? = some (.lst xs)):getix (.loc n) (.int i) S=ob (at' xs i) S:=by
 have e:Z2 S n=some xs:=by unfold Z2;rw[h]
 show (match Z2 S n with | some xs=>ob (at' xs i) S | none=>.no)=_
 rw[e]
theorem yJ {S:Store}{n:Nat}{i:Int}{v:D}{xs:List D}(h:S[n]? = some (.lst xs)):setix (.loc n) (.int i) v S=(ob (ixN xs.length i) S).bind λj S=>.ok () (S.set n (.lst (xs.set j v))):=by
 show (match S[n]? with | some (.lst xs)=>(ob (ixN xs.length i) S).bind λj S=>.ok () (S.set n (.lst (xs.set j v))) | _=>.no)=_
 rw[h]
theorem take_ok {F:List Fn}{tk d:Nat}{n0:Nat}{S:Store}{s:DS}{m:Int}(hF:F[tk]? = some takeFn) (h:Dw n0 S s) (m0:0<m) (m1:m<1073741824) :
  ∃S',calls F (d+1) tk [.loc n0,.int m] S=.ok (.int (takeF s m).1) S'/\Ext n0 S S'/\Dw n0 S' (takeF s m).2:=by
 obtain⟨a,b⟩:=s;obtain⟨hs,ha,hb⟩:=h;simp only at hs ha hb;have hn:=Y1 hs;have hx:∀o,Ext n0 S (S.set n0 o):=λo=>⟨by simp,λn o' z e=>by rw[PH (Ne.symm z)];exact e⟩
 have hset:∀o,(S.set n0 o)[n0]? = some o:=λo=>Nh hn
 rw[calls,hF];cases b with
 |true=>
  refine⟨S.set n0 (.lst [.int (a / m),.bl true]),?_,hx _,hset _,?_,by simp[takeF]⟩
  ·simp[takeFn,takeF,Ev.runs,Ev.run,Ev.ev.eq_1,Ev.ev.eq_2,Ev.ev.eq_7,Ev.ev.eq_15,Ev.tst,Ev.R.bind,Ev.ob,evT,Ev.start,V1 hs,yJ hs,V1 (hset _),hs,at',ixN,m0,m1]
  ·simp only[takeF,NM]
   exact Int.ediv_nonneg ha (by omega)
 |false=>
  have hb:=hb rfl;have h1:=X9 ha (by omega)
  have x0:0<=(a*48271+29)%2147483647:=by omega
  have x1:(a*48271+29)%2147483647<2147483647:=by omega
  generalize hxx:(a*48271+29)%2147483647=x at x0 x1;have y0:0<=(x*x+39373*x+7)%2147483629:=by omega
  have y1:(x*x+39373*x+7)%2147483629<2147483629:=by omega
  generalize hyy:(x*x+39373*x+7)%2147483629=y at y0 y1;refine⟨S.set n0 (.lst [.int x,.bl false]),?_,hx _,by simp only[takeF,P7,Np,hxx];exact hset _,by simp only[takeF,P7,Np,hxx];exact x0,by simp only[takeF,P7,Np,hxx];exact λ_=>x1⟩
  have f1:=X9 x0 (by omega)
  have f2:=X9 y0 (by omega)
  have f3:fits 48271=true:=X9 (by omega) (by omega)
  have f4:fits 39373=true:=X9 (by omega) (by omega)
  have f5:fits 16807=true:=X9 (by omega) (by omega)
  clear hn;simp[takeFn,takeF,Ev.runs,Ev.run,Ev.ev.eq_1,Ev.ev.eq_2,Ev.ev.eq_7,Ev.ev.eq_15,Ev.tst,Ev.R.bind,Ev.ob,evT,Ev.start,V1 hs,yJ hs,V1 (hset _),hs,at',ixN,m0,m1,h1,hxx,hyy,f1,f2,f3,f4,f5,hset]
theorem vc {S:Store}{X:Nat->Prop}{n0:Nat}{vs:List V}{ds:List D}(n:Nat) (xo:Xok X n0 S) (rs:Reps S X n0 vs ds):EnvS S X n0 S.length (λ_=>none) (Xw n vs) [] (start n ds):=by
 refine⟨xo.z,xo.lt,Pl _,by unfold Xw start;simp[rs.length],λi=>rfl,λi j n h=>(by cases h),λi n h=>(by cases h),λi n h=>(by cases h),λi v e _=>?_⟩
 unfold Xw at e;unfold start;by_cases c:i<vs.length
 ·rw[Py (by simpa using c),PF] at e
  rw[Py (by simpa [rs.length] using c),PF]
  cases q:vs[i]? with
  |none=>rw[q] at e;cases e
  |some u=>
   rw[q] at e;have e:some u=some v:=Pb e;cases e;obtain⟨d,a,b⟩:=rs.get q;rw[a];exact⟨d,rfl,b.mono (λ_ _ _ z=>z) λn _ z=>z.elim id λ⟨_,z⟩=>by cases z⟩
 ·rw[PN (by simpa using Nat.le_of_not_lt c),Nd] at e
  split at e <;> cases e
theorem J2 {F:List Fn}{tk n0:Nat}(hF:F[tk]? = some takeFn):∀d,ZT n0 (calls F d) (ZP F tk d)
 |0,f,vs,ds,S,s,X,xo,w,rs=>by rw[ZP];exact True.intro
 |d+1,f,vs,ds,S,s,X,xo,w,rs=>by
  rw[ZP];by_cases c:f=tk
  ·rw[Ph c]
   subst c
   match vs,rs with
   |[.drw,.int m],rs=>
    show Sim n0 S (RlV X n0) _ (if 0<m/\m<1073741824 then .ok (.int (takeF s m).1) (takeF s m).2 else .no)
    by_cases c2:0<m/\m<1073741824
    ·rw[Ph c2]
     obtain⟨d1,es,rfl,r1,r2⟩:=rs.cons';obtain⟨d2,es2,rfl,r3,r4⟩:=r2.cons';cases r4.nil';cases r1.drw';cases r3.int';obtain⟨S',e,x,w'⟩:=take_ok (d:=d) hF w c2.1 c2.2;exact⟨_,S',e,x,w',Zn _⟩
    ·rw[Pi c2];exact True.intro
   |[],_=>exact True.intro
   |[_],_=>unfold takeV;split <;> first | exact True.intro | (rename_i h;cases h)
   |a::b::c::l,_=>unfold takeV;split <;> first | exact True.intro | (rename_i h;cases h)
   |[.non,_],_ | [.bl _,_],_ | [.int _,_],_ | [.str _,_],_ | [.tup _,_],_ | [.lst _,_],_=>exact True.intro
   |[.drw,.non],_ | [.drw,.bl _],_ | [.drw,.str _],_ | [.drw,.tup _],_ | [.drw,.lst _],_ | [.drw,.drw],_=>exact True.intro
  ·rw[Pi c,calls]
   cases q:F[f]? with
   |none=>exact True.intro
   |some fn=>
    show Sim n0 S (RlV X n0) (if ds.length=fn.ps then _ else .no) (if vs.length=fn.ps then _ else .no)
    rw[rs.length];refine Sim.guard λ_=>?_
    have h1:=UZ (J2 (n0:=n0) hF d) (muts fn.body) fn.body (vc fn.ns xo rs) w;have ex:∀{S':Store},ExtS n0 (λ_=>none) S S'->Ext n0 S S':=λ{S'} x=>⟨x.len,λn o a b=>x.keep n o a (λi z=>by cases z) b⟩
    cases q2:rvs (ZP F tk d) (muts fn.body) fn.body (Xw fn.ns vs) [] s with
    |no=>exact True.intro
    |ex c s1=>rw[q2] at h1;obtain⟨S1,e,x1,w1⟩:=h1;rw[e];exact⟨S1,rfl,ex x1,w1⟩
    |ok g s1=>
     rw[q2] at h1;obtain⟨g',S1,e,x1,w1,fr⟩:=h1;rw[e];cases g with
     |nx ρ1 os1=>cases g' with
      |nx σ1=>exact⟨.non,S1,rfl,ex x1,w1,W6⟩
      |_=>exact fr.elim
     |ret v1=>cases g' with
      |ret d1=>exact⟨d1,S1,rfl,ex x1,w1,fr⟩
      |_=>exact fr.elim
     |brk _ _=>exact True.intro
     |cnt _ _=>exact True.intro
end Pv
namespace La
variable {F:Type}[Lean.Grind.CommRing F]
noncomputable abbrev Vec (F:Type):=Nat->F
noncomputable abbrev Pt (F:Type):=List (Nat×Vec F)
noncomputable def pr:Pt F->Vec F->Vec F
 |[],_,_=>0
 |a::P,v,j=>v a.1*a.2 j+pr P v j
structure Rf (P:Pt F):Prop where
 inc:P.Pairwise λa b=>a.1<b.1
 low:∀a∈P,∀j,j<a.1->a.2 j=0
 one:∀a∈P,a.2 a.1=1
 zer:∀a∈P,∀b∈P,a.1≠b.1->b.2 a.1=0
def Mem (P:Pt F) (v:Vec F):Prop:=∀j,v j=pr P v j
theorem ZaT (P:Pt F) (u v:Vec F) (c:F) (j:Nat):pr P (λj=>u j+c*v j) j=pr P u j+c*pr P v j:=by
 induction P with
 |nil=>show (0:F)=0+c*0;grind
 |cons a P ih=>show (u a.1+c*v a.1)*a.2 j+pr P _ j=(u a.1*a.2 j+pr P u j)+c*(v a.1*a.2 j+pr P v j);grind
theorem Ja (P:Pt F) (u v:Vec F) (c:F) (j:Nat):pr P (λj=>u j-c*v j) j=pr P u j-c*pr P v j:=by
 induction P with
 |nil=>show (0:F)=0-c*0;grind
 |cons a P ih=>show (u a.1-c*v a.1)*a.2 j+pr P _ j=(u a.1*a.2 j+pr P u j)-c*(v a.1*a.2 j+pr P v j);grind
theorem vn {P:Pt F}{u v:Vec F}(h:∀b∈P,u b.1=v b.1) (j:Nat):pr P u j=pr P v j:=by
 induction P with
 |nil=>rfl
 |cons a P ih=>
  show u a.1*a.2 j+pr P u j=v a.1*a.2 j+pr P v j;rw[h a (Pe ..),ih λb hb=>h b (Pd _ hb)]
theorem Xu {P:Pt F}{v:Vec F}{j:Nat}(h:∀b∈P,v b.1*b.2 j=0):pr P v j=0:=by
 induction P with
 |nil=>rfl
 |cons a P ih=>
  show v a.1*a.2 j+pr P v j=0;rw[h a (Pe ..),ih λb hb=>h b (Pd _ hb)];grind
theorem xD {P:Pt F}{v:Vec F}{j:Nat}{a:Nat×Vec F}(inc:P.Pairwise λa b=>a.1<b.1) (ha:a∈P) (h:∀b∈P,b.1≠a.1->v b.1*b.2 j=0):pr P v j=v a.1*a.2 j:=by
 induction P with
 |nil=>cases ha
 |cons b P ih=>
  rw[PK] at inc;show v b.1*b.2 j+pr P v j=_;rcases Po.mp ha with e | hm
  ·subst e
   rw[Xu λc hc=>h c (Pd _ hc) (by have:=inc.1 c hc;omega)];grind
  ·rw[ih inc.2 hm λc hc=>h c (Pd _ hc),h b (Pe ..) (by have:=inc.1 a hm;omega)];grind
theorem Rf.tail {a:Nat×Vec F}{P:Pt F}(h:Rf (a::P)):Rf P:=
 ⟨(PK.mp h.inc).2,λb hb=>h.low b (Pd _ hb),λb hb=>h.one b (Pd _ hb),λb hb c hc=>h.zer b (Pd _ hb) c (Pd _ hc)⟩
theorem Rf.nil:Rf ([]:Pt F):=⟨List.Pairwise.nil,λ_ h=>(by cases h),λ_ h=>(by cases h),λ_ h=>(by cases h)⟩
theorem QY {P:Pt F}(h:Rf P) {a:Nat×Vec F}(ha:a∈P) (v:Vec F):pr P v a.1=v a.1:=by
 rw[xD h.inc ha λb hb ne=>by rw[h.zer a ha b hb (Ne.symm ne)];grind,h.one a ha];grind
theorem X0 {P:Pt F}(h:Rf P) {a:Nat×Vec F}(ha:a∈P):Mem P a.2:=λj=>by
 rw[xD h.inc ha λb hb ne=>by rw[h.zer b hb a ha ne];grind,h.one a ha];grind
theorem WH {P:Pt F}{u v:Vec F}(c:F) (hu:Mem P u) (hv:Mem P v):Mem P λj=>u j+c*v j:=λj=>by
 show u j+c*v j=_;rw[ZaT,<-hu j,<-hv j]
theorem V2 {P:Pt F}{u v:Vec F}(c:F) (hu:Mem P u) (hv:Mem P v):Mem P λj=>u j-c*v j:=λj=>by
 show u j-c*v j=_;rw[Ja,<-hu j,<-hv j]
theorem Uu {P:Pt F}:Mem P λ_=>0:=λj=>(Xu λb _=>by grind).symm
theorem zE {P:Pt F}(h:Rf P) (v:Vec F):Mem P (pr P v):=λj=>vn (λb hb=>(QY h hb v).symm) j
theorem zj {P:Pt F}{v:Vec F}(h:Mem P v) (z:∀b∈P,v b.1=0) (j:Nat):v j=0:=by
 rw[h j];exact Xu λb hb=>by rw[z b hb];grind
theorem vT {P:Pt F}(h:Rf P) {v:Vec F}(hv:Mem P v) {k:Nat}(hk:v k≠0) (hl:∀j,j<k->v j=0):∃a∈P,a.1=k:=by
 have inc:=h.inc;have low:=h.low;have gen:∀Q:Pt F,Q.Pairwise (λa b=>a.1<b.1)->(∀a∈Q,∀j,j<a.1->a.2 j=0)->(∀j,v j=pr Q v j)->∃a∈Q,v a.1≠0/\∀j,j<a.1->v j=0:=by
  intro Q
  induction Q with
  |nil=>intro _ _ e;exact absurd (e k) hk
  |cons a Q ih=>
   intro inc low e;rw[PK] at inc;by_cases c:v a.1=0
   ·obtain⟨b,hb,r⟩:=ih inc.2 (λb hb=>low b (Pd _ hb)) λj=>by
     have:v j=v a.1*a.2 j+pr Q v j:=e j;rw[c] at this;grind
    exact⟨b,Pd _ hb,r⟩
   ·refine⟨a,Pe ..,c,λj hj=>?_⟩
    have e1:v j=v a.1*a.2 j+pr Q v j:=e j;have e2:pr Q v j=0:=Xu λb hb=>by rw[low b (Pd _ hb) j (by have:=inc.1 b hb;omega)];grind
    rw[e1,e2,low a (Pe ..) j hj];grind
 obtain⟨a,ha,h1,h2⟩:=gen P inc low hv;refine⟨a,ha,?_⟩;by_cases c:a.1<k
 ·exact absurd (hl _ c) h1
 ·by_cases c2:k<a.1
  ·exact absurd (h2 _ c2) hk
  ·omega
theorem Vv {P Q:Pt F}(one0:(1:F)≠0) (hP:Rf P) (hQ:Rf Q) (h:∀v,Mem P v->Mem Q v):∀a∈P,∃b∈Q,b.1=a.1:=λa ha=>
 vT hQ (h _ (X0 hP ha)) (by rw[hP.one a ha];exact one0) (hP.low a ha)
theorem yf:∀{a b:List Nat},a.Pairwise (· < ·)->b.Pairwise (· < ·)->(∀x,x∈a↔x∈b)->a=b
 |[],[],_,_,_=>rfl
 |[],y::b,_,_,h=>by have:=(h y).mpr (Pe ..);cases this
 |x::a,[],_,_,h=>by have:=(h x).mp (Pe ..);cases this
 |x::a,y::b,ha,hb,h=>by
  rw[PK] at ha hb;have e:x=y:=by
   rcases Po.mp ((h x).mp (Pe ..)) with e | e
   ·exact e
   ·rcases Po.mp ((h y).mpr (Pe ..)) with e' | e'
    ·exact e'.symm
    ·have:=hb.1 x e;have:=ha.1 y e';omega
  subst e;rw[yf ha.2 hb.2 λz=>?_]
  constructor
  ·intro hz
   rcases Po.mp ((h z).mp (Pd _ hz)) with e | e
   ·have:=ha.1 z hz;omega
   ·exact e
  ·intro hz
   rcases Po.mp ((h z).mpr (Pd _ hz)) with e | e
   ·have:=hb.1 z hz;omega
   ·exact e
theorem Jz:∀{a b:List Nat},a.Pairwise (· < ·)->b.Pairwise (· < ·)->(∀x∈a,x∈b)->a.length<=b.length/\(a.length=b.length->a=b)
 |[],b,_,_,_=>⟨Nat.zero_le _,λe=>(List.length_eq_zero_iff.mp e.symm).symm⟩
 |x::a,[],_,_,h=>by have:=h x (Pe ..);cases this
 |x::a,y::b,ha,hb,h=>by
  have ha':=ha;rw[PK] at ha hb;by_cases e:x=y
  ·subst e
   obtain⟨h1,h2⟩:=Jz ha.2 hb.2 λz hz=>by
    rcases Po.mp (h z (Pd _ hz)) with e | e
    ·have:=ha.1 z hz;omega
    ·exact e
   refine⟨by simp only[PB];omega,λe=>?_⟩
   rw[h2 (by simpa using e)]
  ·have hxb:x∈b:=by
    rcases Po.mp (h x (Pe ..)) with e' | e'
    ·exact absurd e' e
    ·exact e'
   have:=hb.1 x hxb;obtain⟨h1,h2⟩:=Jz ha' hb.2 λz hz=>by
    rcases Po.mp (h z hz) with e' | e'
    ·rcases Po.mp hz with e2 | e2
     ·omega
     ·have:=ha.1 z e2;omega
    ·exact e'
   simp only[PB] at h1 ⊢;exact⟨by omega,λe=>by omega⟩
theorem Rf.heads {P:Pt F}(h:Rf P):(P.map (·.1)).Pairwise (· < ·):=List.pairwise_map.mpr h.inc
theorem wX {P Q:Pt F}(one0:(1:F)≠0) (hP:Rf P) (hQ:Rf Q) (h:∀v,Mem P v->Mem Q v):P.length<=Q.length/\(P.length=Q.length->∀v,Mem Q v->Mem P v):=by
 obtain⟨h1,h2⟩:=Jz hP.heads hQ.heads λx hx=>by
  obtain⟨a,ha,rfl⟩:=PC.mp hx;obtain⟨b,hb,e⟩:=Vv one0 hP hQ h a ha;exact PC.mpr ⟨b,hb,e⟩
 rw[Pk,Pk] at h1 h2;refine⟨h1,λe v hv=>?_⟩
 have eh:=h2 e;have hd:Mem Q λj=>v j-1*pr P v j:=V2 1 hv (h _ (zE hP v))
 have z:∀j,v j-1*pr P v j=0:=λj=>zj hd (λb hb=>by
  have:b.1∈P.map (·.1):=by rw[eh];exact PC.mpr ⟨b,hb,rfl⟩
  obtain⟨a,ha,ea⟩:=PC.mp this;show v b.1-1*pr P v b.1=0;rw[<-ea,QY hP ha v];grind) j
 intro j;have:=z j
 grind
theorem uniq {P Q:Pt F}(one0:(1:F)≠0) (hP:Rf P) (hQ:Rf Q) (h:∀v,Mem P v↔Mem Q v):P=Q:=by
 have eh:P.map (·.1)=Q.map (·.1):=yf hP.heads hQ.heads λx=>by
  constructor
  ·intro hx
   obtain⟨a,ha,rfl⟩:=PC.mp hx;obtain⟨b,hb,e⟩:=Vv one0 hP hQ (λv=>(h v).mp) a ha
   exact PC.mpr ⟨b,hb,e⟩
  ·intro hx
   obtain⟨a,ha,rfl⟩:=PC.mp hx;obtain⟨b,hb,e⟩:=Vv one0 hQ hP (λv=>(h v).mpr) a ha
   exact PC.mpr ⟨b,hb,e⟩
 have ev:∀a∈P,∀b∈Q,a.1=b.1->a.2=b.2:=by
  intro a ha b hb e;have hd:Mem P λj=>a.2 j-1*b.2 j:=V2 1 (X0 hP ha) ((h _).mpr (X0 hQ hb))
  funext j
  have:=zj hd (λc hc=>by
   show a.2 c.1-1*b.2 c.1=0;have:c.1∈Q.map (·.1):=by rw[<-eh];exact PC.mpr ⟨c,hc,rfl⟩
   obtain⟨c',hc',ec⟩:=PC.mp this;by_cases z:c.1=a.1
   ·rw[z,hP.one a ha,e,hQ.one b hb];grind
   ·rw[hP.zer c hc a ha z,<-ec,hQ.zer c' hc' b hb (by omega)];grind) j
  grind
 clear h hP hQ
 induction P generalizing Q with
 |nil=>cases Q with
  |nil=>rfl
  |cons b Q=>cases eh
 |cons a P ih=>cases Q with
  |nil=>cases eh
  |cons b Q=>
   rw[PL,PL] at eh;injection eh with e1 e2
   have e3:=ev a (Pe ..) b (Pe ..) e1;rw[ih e2 λx hx y hy=>ev x (Pd _ hx) y (Pd _ hy)]
   rw[show a=b from Prod.ext e1 e3]
noncomputable def ins (x:Nat×Vec F):Pt F->Pt F
 |[]=>[x]
 |y::P=>if x.1<y.1 then x::y::P else y::ins x P
theorem YA (x:Nat×Vec F):∀P:Pt F,(ins x P).Perm (x::P)
 |[]=>Nq _
 |y::P=>by
  unfold ins;split
  ·exact Nq _
  ·exact ((YA x P).cons y).trans (List.Perm.swap x y P)
theorem y9 (x:Nat×Vec F):∀{P:Pt F},P.Pairwise (λa b=>a.1<b.1)->(∀a∈P,a.1≠x.1)->(ins x P).Pairwise λa b=>a.1<b.1
 |[],_,_=>by unfold ins;exact List.pairwise_singleton ..
 |y::P,h,hn=>by
  have h':=PK.mp h;unfold ins;split
  ·rename_i c
   refine PK.mpr ⟨λz hz=>?_,h⟩
   rcases Po.mp hz with rfl | hz
   ·exact c
   ·have:=h'.1 z hz;omega
  ·rename_i c
   refine PK.mpr ⟨λz hz=>?_,y9 x h'.2 λa ha=>hn a (Pd _ ha)⟩
   rcases Po.mp ((YA x P).mem_iff.mp hz) with rfl | hz
   ·have:=hn y (Pe ..);omega
   ·exact h'.1 z hz
theorem vM (x:Nat×Vec F) (v:Vec F) (j:Nat):∀P:Pt F,pr (ins x P) v j=v x.1*x.2 j+pr P v j
 |[]=>rfl
 |y::P=>by
  unfold ins;split
  ·rfl
  ·show v y.1*y.2 j+pr (ins x P) v j=v x.1*x.2 j+(v y.1*y.2 j+pr P v j)
   rw[vM x v j P];grind
noncomputable def off (h:Nat) (l:Vec F) (a:Nat×Vec F):Nat×Vec F:=(a.1,λj=>a.2 j-a.2 h*l j)
noncomputable def wid (P:Pt F) (h:Nat) (l:Vec F):Pt F:=ins (h,l) (P.map (off h l))
theorem uD (h:Nat) (l v:Vec F) (j:Nat):∀P:Pt F,pr (P.map (off h l)) v j=pr P v j-pr P v h*l j
 |[]=>by show (0:F)=0-0*l j;grind
 |a::P=>by
  show v a.1*(a.2 j-a.2 h*l j)+pr (P.map (off h l)) v j=(v a.1*a.2 j+pr P v j)-(v a.1*a.2 h+pr P v h)*l j;rw[uD h l v j P];grind
structure Lead (P:Pt F) (h:Nat) (l:Vec F):Prop where
 one:l h=1
 low:∀j,j<h->l j=0
 zer:∀a∈P,l a.1=0
theorem Lead.ne {P:Pt F}{h:Nat}{l:Vec F}(one0:(1:F)≠0) (L:Lead P h l) {a:Nat×Vec F}(ha:a∈P):a.1≠h:=λe=>by
 have:=L.zer a ha;rw[e,L.one] at this;exact one0 this
theorem vK {P:Pt F}{h:Nat}{l:Vec F}(one0:(1:F)≠0) (hP:Rf P) (L:Lead P h l):Rf (wid P h l):=by
 have mem:∀{x},x∈wid P h l->x=(h,l)\/∃a∈P,x=off h l a:=λ{x} hx=>by
  rcases Po.mp ((YA _ _).mem_iff.mp hx) with e | e
  ·exact .inl e
  ·obtain⟨a,ha,e⟩:=PC.mp e
   exact .inr ⟨a,ha,e.symm⟩
 refine⟨y9 _ ?_ ?_,λx hx j hj=>?_,λx hx=>?_,λx hx y hy ne=>?_⟩
 ·exact List.pairwise_map.mpr hP.inc
 ·intro a ha
  obtain⟨b,hb,rfl⟩:=PC.mp ha;exact L.ne (a:=b) one0 hb
 ·rcases mem hx with rfl | ⟨a,ha,rfl⟩
  ·exact L.low j hj
  ·show a.2 j-a.2 h*l j=0
   rw[hP.low a ha j hj];by_cases c:h<a.1
   ·rw[hP.low a ha h c];grind
   ·have:j<a.1:=hj
    rw[L.low j (by have:=L.ne one0 ha;omega)];grind
 ·rcases mem hx with rfl | ⟨a,ha,rfl⟩
  ·exact L.one
  ·show a.2 a.1-a.2 h*l a.1=1
   rw[hP.one a ha,L.zer a ha];grind
 ·rcases mem hx with rfl | ⟨a,ha,rfl⟩
  ·rcases mem hy with rfl | ⟨b,hb,rfl⟩
   ·exact absurd rfl ne
   ·show b.2 h-b.2 h*l h=0
    rw[L.one];grind
  ·rcases mem hy with rfl | ⟨b,hb,rfl⟩
   ·exact L.zer a ha
   ·show b.2 a.1-b.2 h*l a.1=0
    rw[hP.zer a ha b hb ne,L.zer a ha];grind
theorem JS (P:Pt F) (h:Nat) (l:Vec F):(wid P h l).length=P.length+1:=by
 have:=(YA (h,l) (P.map (off h l))).length_eq;rw[PB,Pk] at this;exact this
theorem qF {P:Pt F}{h:Nat}{l:Vec F}(hP:Rf P) (L:Lead P h l) (u:Vec F):Mem (wid P h l) u↔∃c,Mem P λj=>u j-c*l j:=by
 have e:∀j,pr (wid P h l) u j=u h*l j+(pr P u j-pr P u h*l j):=λj=>by
  unfold wid;rw[vM,uD]
 have pl:∀j,pr P l j=0:=λj=>Xu λb hb=>by rw[L.zer b hb];grind
 constructor
 ·intro hu
  refine⟨u h-pr P u h,λj=>?_⟩
  rw[Ja,pl];have:=hu j;rw[e j] at this;show u j-(u h-pr P u h)*l j=_
  grind
 ·rintro ⟨c,hc⟩ j
  rw[e j];have h1:u j-c*l j=_:=hc j;have h2:u h-c*l h=_:=hc h;rw[Ja,pl] at h1 h2;rw[L.one] at h2
  grind
noncomputable def rest (P:Pt F) (v:Vec F):Vec F:=λj=>v j-pr P v j
theorem vE {P:Pt F}(hP:Rf P) (v:Vec F) {a:Nat×Vec F}(ha:a∈P):rest P v a.1=0:=by
 unfold rest;rw[QY hP ha];grind
theorem UH {P:Pt F}{v:Vec F}:(∀j,rest P v j=0)↔Mem P v:=by
 constructor
 ·intro h j;have:=h j;unfold rest at this;grind
 ·intro h j;have:=h j;unfold rest;grind
theorem xp {P:Pt F}(hP:Rf P) {v:Vec F}{h:Nat}{i:F}(hi:i*rest P v h=1) (hl:∀j,j<h->rest P v j=0):Lead P h λj=>i*rest P v j:=
 ⟨hi,λj hj=>by show i*rest P v j=0;rw[hl j hj];grind,λa ha=>by show i*rest P v a.1=0;rw[vE hP v ha];grind⟩
theorem vU {P:Pt F}(hP:Rf P) {v:Vec F}{h:Nat}{i:F}(hi:i*rest P v h=1) (hl:∀j,j<h->rest P v j=0) (u:Vec F) :
  Mem (wid P h λj=>i*rest P v j) u↔∃c,Mem P λj=>u j-c*v j:=by
 rw[qF hP (xp hP hi hl)]
 constructor
 ·rintro ⟨c,hc⟩
  refine⟨c*i,?_⟩;have:=V2 (c*i) hc (zE hP v);have e:(λj=>(u j-c*(i*rest P v j))-c*i*pr P v j)=λj=>u j-c*i*v j:=by funext j;unfold rest;grind
  rw[e] at this;exact this
 ·rintro ⟨c,hc⟩
  refine⟨c*rest P v h,?_⟩;have:=WH c hc (zE hP v);have e:(λj=>(u j-c*v j)+c*pr P v j)=λj=>u j-c*rest P v h*(i*rest P v j):=by funext j;unfold rest at hi ⊢;grind
  rw[e] at this;exact this
theorem uM {P:Pt F}{v:Vec F}(hv:Mem P v) (u:Vec F):Mem P u↔∃c,Mem P λj=>u j-c*v j:=by
 constructor
 ·intro h;exact⟨0,by have:=V2 0 h hv;exact this⟩
 ·rintro ⟨c,hc⟩
  have:=WH c hc hv;have e:(λj=>(u j-c*v j)+c*v j)=u:=by funext j;grind
  rw[e] at this;exact this
noncomputable def Ur (P:Pt F):List (Vec F)->Vec F->Prop
 |[],u=>Mem P u
 |v::vs,u=>∃c,Ur P vs λj=>u j-c*v j
theorem Vi {P P':Pt F}{v:Vec F}(h:∀u,Mem P' u↔∃c,Mem P λj=>u j-c*v j):∀(vs:List (Vec F)) (u:Vec F),Ur P' vs u↔Ur P (v::vs) u
 |[],u=>h u
 |w::vs,u=>by
  constructor
  ·rintro ⟨d,hd⟩
   obtain⟨c,hc⟩:=(Vi h vs _).mp hd;refine⟨c,d,?_⟩;have e:(λj=>u j-c*v j-d*w j)=λj=>u j-d*w j-c*v j:=by funext j;grind
   show Ur P vs λj=>u j-c*v j-d*w j
   rw[e];exact hc
  ·rintro ⟨c,d,hc⟩
   refine⟨d,(Vi h vs _).mpr ⟨c,?_⟩⟩;have e:(λj=>u j-d*w j-c*v j)=λj=>u j-c*v j-d*w j:=by funext j;grind
   show Ur P vs λj=>u j-d*w j-c*v j
   rw[e];exact hc
theorem wu {P Q:Pt F}(hQ:Rf Q) (u:Vec F):Ur P (Q.map (·.2)) u↔∃q,Mem Q q/\Mem P λj=>u j-q j:=by
 constructor
 ·have gen:∀(ws:List (Vec F)) (u:Vec F),(∀w∈ws,Mem Q w)->Ur P ws u->∃q,Mem Q q/\Mem P λj=>u j-q j:=by
   intro ws
   induction ws with
   |nil=>intro u _ h;exact⟨λ_=>0,Uu,by
    have e:(λj=>u j-0)=u:=by funext j;grind
    rw[e];exact h⟩
   |cons w ws ih=>
    rintro u hw ⟨c,h⟩
    obtain⟨q,hq,hp⟩:=ih _ (λx hx=>hw x (Pd _ hx)) h
    refine⟨λj=>q j+c*w j,WH c hq (hw w (Pe ..)),?_⟩
    have e:(λj=>u j-(q j+c*w j))=λj=>u j-c*w j-q j:=by funext j;grind
    rw[e];exact hp
  exact gen _ u λw hw=>by obtain⟨a,ha,rfl⟩:=PC.mp hw;exact X0 hQ ha
 ·rintro ⟨q,hq,hp⟩
  have gen:∀(R:Pt F) (u:Vec F),(Mem P λj=>u j-pr R q j)->Ur P (R.map (·.2)) u:=by
   intro R
   induction R with
   |nil=>
    intro u h;have e:(λj=>u j-pr [] q j)=u:=by funext j;show u j-0=u j;grind
    rw[e] at h;exact h
   |cons a R ih=>
    intro u h;refine⟨q a.1,ih _ ?_⟩;have e:(λj=>u j-q a.1*a.2 j-pr R q j)=λj=>u j-pr (a::R) q j:=by funext j;show _=u j-(q a.1*a.2 j+pr R q j);grind
    show Mem P λj=>u j-q a.1*a.2 j-pr R q j
    rw[e];exact h
  refine gen Q u ?_;have e:(λj=>u j-pr Q q j)=λj=>u j-q j:=by funext j;rw[<-hq j]
  rw[e];exact hp
variable {F:Type}[Lean.Grind.CommRing F] [DecidableEq F]
def Supp (n:Nat) (v:Vec F):Prop:=∀j,n<=j->v j=0
structure Pn (n:Nat) (P:Pt F):Prop where
 rf:Rf P
 lt:∀a∈P,a.1<n
 sp:∀a∈P,Supp n a.2
theorem Pn.nil {n:Nat}:Pn n ([]:Pt F):=⟨Rf.nil,λ_ h=>(by cases h),λ_ h=>(by cases h)⟩
theorem xf {n:Nat}{P:Pt F}(h:Pn n P) (v:Vec F):Supp n (pr P v):=λj hj=>Xu λb hb=>by rw[h.sp b hb j hj];grind
theorem J8 {n:Nat}{P:Pt F}(h:Pn n P) {v:Vec F}(hv:Mem P v):Supp n v:=λj hj=>by rw[hv j];exact xf h v j hj
noncomputable def hdV (n:Nat) (v:Vec F):Option Nat:=(List.range n).find? λj=>decide (v j≠0)
theorem uX {n:Nat}{v:Vec F}(hs:Supp n v) (h:hdV n v=none) (j:Nat):v j=0:=by
 by_cases c:j<n
 ·have:=List.find?_eq_none.mp h j (PU.mpr c)
  simpa using this
 ·exact hs j (by omega)
theorem GT {n:Nat}{v:Vec F}{k:Nat}(h:hdV n v=some k):k<n/\v k≠0/\∀j,j<k->v j=0:=by
 unfold hdV at h;rw[List.find?_range_eq_some] at h;obtain⟨h1,h2,h3⟩:=h;refine⟨PU.mp h2,by simpa using h1,λj hj=>?_⟩
 have:=h3 j hj
 simpa using this
theorem yc {n:Nat}{v:Vec F}{k:Nat}(hk:k<n) (h1:v k≠0) (h2:∀j,j<k->v j=0):hdV n v=some k:=by
 unfold hdV;rw[List.find?_range_eq_some];exact⟨by simpa using h1,PU.mpr hk,λj hj=>by simpa using h2 j hj⟩
structure Fld (inv:F->F):Prop where
 inv:∀a,a≠0->inv a*a=1
 one0:(1:F)≠0
section
variable {inv:F->F}{n:Nat}
noncomputable def more (inv:F->F) (n:Nat) (P:Pt F) (v:Vec F):Pt F:=match hdV n (rest P v) with
 |none=>P
 |some h=>wid P h λj=>inv (rest P v h)*rest P v j
structure Grow (n:Nat) (P:Pt F) (v:Vec F) (P':Pt F):Prop where
 pn:Pn n P'
 mem:∀u,Mem P' u↔∃c,Mem P λj=>u j-c*v j
 same:Mem P v->P'=P
 len:¬Mem P v->P'.length=P.length+1
theorem Q4 (f:Fld inv) {P:Pt F}{v:Vec F}(hP:Pn n P) (hv:Supp n v):Grow n P v (more inv n P v):=by
 have hs:Supp n (rest P v):=λj hj=>by unfold rest;rw[hv j hj,xf hP v j hj];grind
 cases q:hdV n (rest P v) with
 |none=>
  have e:more inv n P v=P:=by unfold more;rw[q]
  have hm:Mem P v:=UH.mp (uX hs q);rw[e];exact⟨hP,uM hm,λ_=>rfl,λh=>absurd hm h⟩
 |some h=>
  have e:more inv n P v=wid P h λj=>inv (rest P v h)*rest P v j:=by unfold more;rw[q]
  obtain⟨h1,h2,h3⟩:=GT q;have hi:=f.inv _ h2;have L:=xp hP.rf hi h3;rw[e];refine⟨⟨vK f.one0 hP.rf L,λa ha=>?_,λa ha=>?_⟩,vU hP.rf hi h3,λhm=>absurd (UH.mpr hm h) h2,λ_=>JS ..⟩
  ·rcases Po.mp ((YA _ _).mem_iff.mp ha) with e | e
   ·rw[e];exact h1
   ·obtain⟨b,hb,rfl⟩:=PC.mp e
    exact hP.lt b hb
  ·rcases Po.mp ((YA _ _).mem_iff.mp ha) with e | e
   ·rw[e];intro j hj
    show inv (rest P v h)*rest P v j=0;rw[hs j hj];grind
   ·obtain⟨b,hb,rfl⟩:=PC.mp e
    intro j hj;show b.2 j-b.2 h*(inv (rest P v h)*rest P v j)=0;rw[hP.sp b hb j hj,hs j hj];grind
noncomputable def Uc (inv:F->F) (n:Nat) (P:Pt F) (vs:List (Vec F)):Pt F:=vs.foldl (more inv n) P
theorem WZ (f:Fld inv):∀(vs:List (Vec F)) {P:Pt F},Pn n P->(∀v∈vs,Supp n v)->Pn n (Uc inv n P vs)/\∀u,Mem (Uc inv n P vs) u↔Ur P vs u
 |[],P,hP,_=>⟨hP,λu=>Iff.rfl⟩
 |v::vs,P,hP,hv=>by
  have g:=Q4 f hP (hv v (Pe ..));obtain⟨a,b⟩:=WZ f vs g.pn λw hw=>hv w (Pd _ hw)
  exact⟨a,λu=>(b u).trans (Vi g.mem vs u)⟩
noncomputable def join (inv:F->F) (n:Nat) (P Q:Pt F):Pt F:=Uc inv n P (Q.map (·.2))
theorem GQ (f:Fld inv) {P Q:Pt F}(hP:Pn n P) (hQ:Pn n Q) (u:Vec F):Mem (join inv n P Q) u↔∃q,Mem Q q/\Mem P λj=>u j-q j:=
 ((WZ f _ hP λv hv=>by obtain⟨a,ha,rfl⟩:=PC.mp hv;exact hQ.sp a ha).2 u).trans (wu hQ.rf u)
theorem Zab (f:Fld inv) {P Q:Pt F}(hP:Pn n P) (hQ:Pn n Q) (h:∀v,Mem P v↔Mem Q v):P=Q:=uniq f.one0 hP.rf hQ.rf h
theorem sub_self (u:Vec F):(λj=>u j-u j)=λ_=>0:=by funext j;grind
theorem z6 (f:Fld inv) {P Q:Pt F}(hP:Pn n P) (hQ:Pn n Q) {u:Vec F}(h:Mem Q u):Mem (join inv n P Q) u:=
 (GQ f hP hQ u).mpr ⟨u,h,by rw[sub_self];exact Uu⟩
theorem yk (f:Fld inv) {P Q R:Pt F}(hP:Pn n P) (hQ:Pn n Q) (h1:∀u,Mem P u->Mem R u) (h2:∀u,Mem Q u->Mem R u) {u:Vec F}(h:Mem (join inv n P Q) u):Mem R u:=by
 obtain⟨q,a,b⟩:=(GQ f hP hQ u).mp h;have:=WH 1 (h1 _ b) (h2 _ a);have e:(λj=>u j-q j+1*q j)=u:=by funext j;grind
 rw[e] at this;exact this
noncomputable def sl:List Nat->(Nat->F)->F
 |[],_=>0
 |k::L,g=>g k+sl L g
theorem XT {L:List Nat}{g g':Nat->F}(h:∀k∈L,g k=g' k):sl L g=sl L g':=by
 induction L with
 |nil=>rfl
 |cons k L ih=>show g k+sl L g=g' k+sl L g';rw[h k (Pe ..),ih λj hj=>h j (Pd _ hj)]
theorem uK (L:List Nat) (g g':Nat->F) (c:F):sl L (λj=>g j-c*g' j)=sl L g-c*sl L g':=by
 induction L with
 |nil=>show (0:F)=0-c*0;grind
 |cons k L ih=>show (g k-c*g' k)+sl L _=(g k+sl L g)-c*(g' k+sl L g');rw[ih];grind
theorem WB {L:List Nat}{g:Nat->F}(h:∀k∈L,g k=0):sl L g=0:=by
 induction L with
 |nil=>rfl
 |cons k L ih=>show g k+sl L g=0;rw[h k (Pe ..),ih λj hj=>h j (Pd _ hj)];grind
theorem yG {L:List Nat}{g:Nat->F}{k:Nat}(hn:L.Nodup) (hk:k∈L) (h:∀j∈L,j≠k->g j=0):sl L g=g k:=by
 induction L with
 |nil=>cases hk
 |cons m L ih=>
  rw[List.nodup_cons] at hn;show g m+sl L g=_;rcases Po.mp hk with e | e
  ·subst e
   rw[WB λj hj=>h j (Pd _ hj) λz=>hn.1 (z▸hj)];grind
  ·rw[ih hn.2 e λj hj=>h j (Pd _ hj),h m (Pe ..) λz=>hn.1 (z▸e)];grind
theorem qP (p:Nat->Bool) (L:List Nat) (g:Nat->F):sl L g=sl (L.filter p) g+sl (L.filter λk=>!p k) g:=by
 induction L with
 |nil=>show (0:F)=0+0;grind
 |cons k L ih=>
  rw[List.filter_cons,List.filter_cons];show g k+sl L g=_;cases p k with
  |true=>simp only[NM,Bool.not_true,P7,Np];show _=g k+sl _ g+_;rw[ih];grind
  |false=>simp only[P7,Np,Bool.not_false,NM];show _=_+(g k+sl _ g);rw[ih];grind
noncomputable def dot (n:Nat) (u w:Vec F):F:=sl (List.range n) λj=>u j*w j
theorem xS (n:Nat) (a u v:Vec F) (c:F):dot n a (λj=>u j-c*v j)=dot n a u-c*dot n a v:=by
 unfold dot;rw[<-uK];exact XT λk _=>by grind
theorem XS (n:Nat) (u w:Vec F):dot n u w=dot n w u:=XT λk _=>by grind
noncomputable def ZO (P:Pt F) (j:Nat):Bool:=(P.map (·.1)).contains j
noncomputable def free (n:Nat) (P:Pt F):List Nat:=(List.range n).filter λj=>!ZO P j
noncomputable def av:Pt F->Nat->Vec F
 |[],f,j=>if j=f then 1 else 0
 |a::P,f,j=>if j=a.1 then-a.2 f else av P f j
theorem Yl {P:Pt F}{j:Nat}:ZO P j=true↔∃a∈P,a.1=j:=by
 unfold ZO;rw[List.contains_iff_mem,PC]
theorem XJ {P:Pt F}{f j:Nat}(h:ZO P j=false):av P f j=if j=f then 1 else 0:=by
 induction P with
 |nil=>rfl
 |cons a P ih=>
  have h1:¬∃b∈a::P,b.1=j:=λz=>by rw[Yl.mpr z] at h;cases h
  show (if j=a.1 then-a.2 f else av P f j)=_
  rw[Pi λz=>h1 ⟨a,Pe ..,z.symm⟩]
  exact ih (by
   cases q:ZO P j with
   |false=>rfl
   |true=>obtain⟨b,hb,e⟩:=Yl.mp q;exact absurd ⟨b,Pd _ hb,e⟩ h1)
theorem yO {P:Pt F}(hP:P.Pairwise λa b=>a.1<b.1) {a:Nat×Vec F}(ha:a∈P) (f:Nat):av P f a.1 = - a.2 f:=by
 induction P with
 |nil=>cases ha
 |cons b P ih=>
  rw[PK] at hP;show (if a.1=b.1 then-b.2 f else av P f a.1)=_
  rcases Po.mp ha with e | e
  ·subst e;rw[Ph rfl]
  ·rw[Pi (by have:=hP.1 a e;omega)];exact ih hP.2 e
theorem Z7 {P:Pt F}{j:Nat}:j∈free n P↔j<n/\ZO P j=false:=by
 unfold free;rw[List.mem_filter,PU];simp
theorem UQ {P:Pt F}:(free n P).Nodup:=List.Pairwise.filter _ List.nodup_range
theorem V3 {P:Pt F}(hP:Pn n P) {f:Nat}(hf:f<n):Supp n (av P f):=λj hj=>by
 rw[XJ (by
  cases q:ZO P j with
  |false=>rfl
  |true=>obtain⟨b,hb,e⟩:=Yl.mp q;have:=hP.lt b hb;omega),Pi (by omega)]
theorem Qb {P:Pt F}(hP:Pn n P) {a:Nat×Vec F}(ha:a∈P) (u:Vec F):dot n a.2 u=sl (free n P) (λj=>a.2 j*u j)+u a.1:=by
 unfold dot;rw[qP (ZO P) (List.range n)];have e:sl ((List.range n).filter (ZO P)) (λj=>a.2 j*u j)=a.2 a.1*u a.1:=by
  refine yG (List.Pairwise.filter _ List.nodup_range) (List.mem_filter.mpr ⟨PU.mpr (hP.lt a ha),Yl.mpr ⟨a,ha,rfl⟩⟩) λj hj ne=>?_
  obtain⟨b,hb,rfl⟩:=Yl.mp (List.mem_filter.mp hj).2;rw[hP.rf.zer b hb a ha ne];grind
 rw[e,hP.rf.one a ha];show _=sl ((List.range n).filter λj=>!ZO P j) _+_
 grind
theorem ZaY {P:Pt F}(hP:Pn n P) {a:Nat×Vec F}(ha:a∈P) {f:Nat}(hf:f∈free n P):dot n a.2 (av P f)=0:=by
 obtain⟨f1,f2⟩:=Z7.mp hf;rw[Qb hP ha,yO hP.rf.inc ha,yG (L:=free n P) (k:=f) UQ hf λj hj ne=>by
  rw[XJ (Z7.mp hj).2,Pi ne];grind]
 rw[XJ f2,Ph rfl];grind
noncomputable def perp (inv:F->F) (n:Nat) (P:Pt F):Pt F:=Uc inv n [] ((free n P).map (av P))
theorem xA (f:Fld inv) {P:Pt F}(hP:Pn n P):Pn n (perp inv n P):=(WZ f _ Pn.nil λv hv=>by
 obtain⟨k,hk,rfl⟩:=PC.mp hv;exact V3 hP (Z7.mp hk).1).1
theorem GJ {P:Pt F}(hP:Pn n P) {a:Nat×Vec F}(ha:a∈P):∀(L:List Nat) (u:Vec F),(∀k∈L,k∈free n P)->Ur [] (L.map (av P)) u->dot n a.2 u=0
 |[],u,_,h=>WB λk _=>by rw[h k];show a.2 k*0=0;grind
 |k::L,u,hL,⟨c,h⟩=>by
  have:=GJ hP ha L _ (λj hj=>hL j (Pd _ hj)) h
  rw[xS,ZaY hP ha (hL k (Pe ..))] at this
  grind
theorem U7 {P:Pt F}{u:Vec F}:∀(L:List Nat) (w:Vec F),(∀j,w j=sl L λf=>u f*av P f j)->Ur [] (L.map (av P)) w
 |[],w,h=>h
 |k::L,w,h=>⟨u k,U7 (u:=u) L _ λj=>by rw[h j];show u k*av P k j+sl L (λf=>u f*av P f j)-u k*av P k j=_;grind⟩
theorem Gy (f:Fld inv) {P:Pt F}(hP:Pn n P) (u:Vec F):Mem (perp inv n P) u↔Supp n u/\∀a∈P,dot n a.2 u=0:=by
 have ok:=WZ f ((free n P).map (av P)) (Pn.nil (n:=n)) λv hv=>by
  obtain⟨k,hk,rfl⟩:=PC.mp hv;exact V3 hP (Z7.mp hk).1
 constructor
 ·intro h
  exact⟨J8 ok.1 h,λa ha=>GJ hP ha _ u (λk hk=>hk) ((ok.2 u).mp h)⟩
 ·rintro ⟨hs,hd⟩
  refine (ok.2 u).mpr (U7 (u:=u) _ u λj=>?_)
  by_cases c:n<=j
  ·rw[hs j c]
   exact (WB λk hk=>by rw[V3 hP (Z7.mp hk).1 j c];grind).symm
  ·cases q:ZO P j with
   |false=>
    rw[yG (L:=free n P) (k:=j) UQ (Z7.mpr ⟨by omega,q⟩) λk hk ne=>by
     rw[XJ q,Pi (Ne.symm ne)];grind]
    rw[XJ q,Ph rfl];grind
   |true=>
    obtain⟨a,ha,rfl⟩:=Yl.mp q;have h1:=hd a ha;rw[Qb hP ha] at h1;have e:sl (free n P) (λf=>u f*av P f a.1) = - sl (free n P) λj=>a.2 j*u j:=by
     have:=uK (free n P) (λ_=>(0:F)) (λj=>a.2 j*u j) 1
     rw[WB (g:=λ_=>(0:F)) λ_ _=>rfl] at this
     have e2:sl (free n P) (λf=>u f*av P f a.1)=sl (free n P) λj=>0-1*(a.2 j*u j):=XT λk _=>by rw[yO hP.rf.inc ha];grind
     rw[e2,this];grind
    rw[e];grind
theorem Vw (f:Fld inv) {P:Pt F}(hP:Pn n P) (u:Vec F):Mem (perp inv n P) u↔Supp n u/\∀v,Mem P v->dot n v u=0:=by
 rw[Gy f hP]
 constructor
 ·rintro ⟨hs,hd⟩
  refine⟨hs,λv hv=>?_⟩
  have e:dot n v u=dot n u (pr P v):=by rw[XS];exact XT λk _=>by rw[<-hv k]
  rw[e];have gen:∀Q:Pt F,(∀a∈Q,dot n a.2 u=0)->dot n u (pr Q v)=0:=by
   intro Q
   induction Q with
   |nil=>intro _;exact WB λk _=>by show u k*0=0;grind
   |cons a Q ih=>
    intro h;have e2:dot n u (pr (a::Q) v)=dot n u (λj=>pr Q v j-(- v a.1)*a.2 j):=XT λk _=>by show u k*(v a.1*a.2 k+pr Q v k)=_;grind
    rw[e2,xS,ih λb hb=>h b (Pd _ hb),XS,h a (Pe ..)];grind
  exact gen P hd
 ·rintro ⟨hs,hd⟩
  exact⟨hs,λa ha=>hd _ (X0 hP.rf ha)⟩
theorem X8 (f:Fld inv) {P:Pt F}(hP:Pn n P):(perp inv n P).length+P.length=n:=by
 have gen:∀(L:List Nat) (A:Pt F) (D:List Nat),Pn n A->(∀k∈L,k∈free n P)->L.Nodup->(∀k∈L,k∉D)->(∀u,Mem A u->∀k∈free n P,k∉D->u k=0)->(Uc inv n A (L.map (av P))).length=A.length+L.length:=by
  intro L
  induction L with
  |nil=>intro A D _ _ _ _ _;rfl
  |cons k L ih=>
   intro A D hA hL hn hD hz;rw[List.nodup_cons] at hn;have hk:=hL k (Pe ..);have g:=Q4 f hA (V3 hP (Z7.mp hk).1);have nm:¬Mem A (av P k):=λh=>by
    have:=hz _ h k hk (hD k (Pe ..));rw[XJ (Z7.mp hk).2,Ph rfl] at this;exact f.one0 this
   have:=ih (more inv n A (av P k)) (k::D) g.pn (λj hj=>hL j (Pd _ hj)) hn.2 (λj hj=>by
    rw[Po]
    rintro (z | z)
    ·exact hn.1 (z▸hj)
    ·exact hD j (Pd _ hj) z) λu hu j hj hjD=>by
     obtain⟨c,hc⟩:=(g.mem u).mp hu;rw[Po] at hjD;have h1:u j-c*av P k j=0:=hz _ hc j hj λz=>hjD (.inr z)
     rw[XJ (Z7.mp hj).2,Pi λz=>hjD (.inl z)] at h1
     grind
   show (Uc inv n (more inv n A (av P k)) (L.map (av P))).length=_;rw[this,g.len nm,PB];omega
 have h1:=gen (free n P) [] [] Pn.nil (λ_ h=>h) (List.Pairwise.filter _ List.nodup_range) (λ_ _ h=>by cases h) λu hu k _ _=>hu k
 have h2:(List.range n).filter (ZO P)=P.map (·.1):=yf (List.Pairwise.filter _ List.pairwise_lt_range) hP.rf.heads λx=>by
  rw[List.mem_filter,PU,Yl,PC]
  constructor
  ·rintro ⟨_,a,ha,e⟩;exact⟨a,ha,e⟩
  ·rintro ⟨a,ha,e⟩;exact⟨by rw[<-e];exact hP.lt a ha,a,ha,e⟩
 have h3:((List.range n).filter (ZO P)).length+(free n P).length=n:=by
  have gen:∀L:List Nat,(L.filter (ZO P)).length+(L.filter λj=>!ZO P j).length=L.length:=by
   intro L
   induction L with
   |nil=>rfl
   |cons k L ih=>
    rw[List.filter_cons,List.filter_cons];cases ZO P k <;> simp <;> omega
  have:=gen (List.range n);rw[PY] at this;exact this
 rw[h2,Pk] at h3;have h4:(perp inv n P).length=(free n P).length:=by
  have e:(perp inv n P).length=0+(free n P).length:=h1;omega
 omega
theorem wG (f:Fld inv) {P:Pt F}(hP:Pn n P):perp inv n (perp inv n P)=P:=by
 have h1:=xA f hP;have h2:=xA f h1;have s1:=X8 f hP;have s2:=X8 f h1;have sub:∀v,Mem P v->Mem (perp inv n (perp inv n P)) v:=λv hv=>(Vw f h1 v).mpr ⟨J8 hP hv,λw hw=>by
  rw[XS];exact ((Vw f hP w).mp hw).2 v hv⟩
 refine (Zab f hP h2 λv=>⟨sub v,(wX f.one0 hP.rf h2.rf sub).2 (by omega) v⟩).symm
noncomputable def meet (inv:F->F) (n:Nat) (P Q:Pt F):Pt F:=perp inv n (join inv n (perp inv n P) (perp inv n Q))
end
end La
set_option maxRecDepth 10000
namespace Rw
open La
open Ev (ltI XU ZG)
section
variable {p:Nat}[NeZero p]
noncomputable def ph (p:Nat) [NeZero p] (a:Int):Fin p:=Fin.ofNat p (a%p).toNat
theorem ppos:(0:Int)<p:=by have:=NeZero.ne p;omega
theorem YM (a:Int):((ph p a).val:Int)=a%p:=by
 have h:=ppos (p:=p);have h0:=NW a (by omega:(p:Int)≠0)
 have h1:=NI a h;show ((((a%p).toNat)%p:Nat):Int)=a%p;rw[Nat.mod_eq_of_lt (by omega)]
 omega
theorem V6 {x y:Fin p}(h:(x.val:Int)=y.val):x=y:=Fin.ext (by omega)
theorem zX (a b:Int):ph p (a+b)=ph p a+ph p b:=V6 (by
 rw[YM,Fin.val_add];show (a+b)%p=(((ph p a).val+(ph p b).val:Nat):Int)%p;rw[Int.natCast_add,YM,YM,<-Int.add_emod])
theorem yB (a b:Int):ph p (a*b)=ph p a*ph p b:=V6 (by
 rw[YM,Fin.val_mul];show (a*b)%p=(((ph p a).val*(ph p b).val:Nat):Int)%p;rw[Int.natCast_mul,YM,YM,<-Int.mul_emod])
theorem Jx (a:Int):ph p (a%p)=ph p a:=V6 (by rw[YM,YM,Int.emod_emod])
theorem X6:ph p 0=0:=V6 (by rw[YM];simp)
theorem vh (a:Int):ph p (-a) = - ph p a:=by
 have h:ph p (-a+a)=ph p (-a)+ph p a:=zX _ _;rw[show -a+a=0 by omega,X6] at h
 grind
theorem yC {a b:Int}(ha:0<=a/\a<p) (hb:0<=b/\b<p) (h:ph p a=ph p b):a=b:=by
 have:=congrArg (λx:Fin p=>(x.val:Int)) h
 simp only[YM] at this;rw[Int.emod_eq_of_lt ha.1 ha.2,Int.emod_eq_of_lt hb.1 hb.2] at this;exact this
theorem Zae {a:Int}(ha:0<=a/\a<p):ph p a=0↔a=0:=by
 constructor
 ·intro h;exact yC ha ⟨by omega,ppos⟩ (by rw[h,X6])
 ·rintro rfl;exact X6
end
noncomputable abbrev Row:=List Int
def Zm (p n:Nat) (r:Row):Prop:=r.length=n/\∀a∈r,0<=a/\a<(p:Int)
noncomputable def gt (r:Row) (j:Nat):Int:=r.getD j 0
theorem YV {p n:Nat}(h0:(0:Int)<p) {r:Row}(h:Zm p n r) (j:Nat):0<=gt r j/\gt r j<p:=by
 unfold gt;rw[Pp];cases q:r[j]? with
 |none=>exact⟨Int.le_refl _,h0⟩
 |some a=>exact h.2 a (List.mem_of_getElem? q)
theorem ub {r:Row}{j:Nat}(h:r.length<=j):gt r j=0:=by unfold gt;rw[Pp,List.getElem?_eq_none h];rfl
theorem ux {r s:Row}(hl:r.length=s.length) (h:∀j,gt r j=gt s j):r=s:=by
 apply List.ext_getElem hl;intro j h1 h2;have:=h j;unfold gt at this;rw[Pp,Pp,Pc h1,Pc h2] at this;exact this
noncomputable def hdI:Row->Option Nat
 |[]=>none
 |a::r=>if a≠0 then some 0 else (hdI r).map (· + 1)
theorem YR:∀{r:Row}{k:Nat},hdI r=some k->gt r k≠0/\k<r.length/\∀j,j<k->gt r j=0
 |[],k,h=>by cases h
 |a::r,k,h=>by
  unfold hdI at h;by_cases c:a≠0
  ·rw[Ph c] at h;cases h;exact⟨c,by simp,λj hj=>by omega⟩
  ·rw[Pi c] at h
   cases q:hdI r with
   |none=>rw[q] at h;cases h
   |some m=>
    rw[q] at h;have e:m+1=k:=Pb h;subst e;obtain⟨h1,h2,h3⟩:=YR q;refine⟨h1,by simp;omega,λj hj=>?_⟩
    cases j with
    |zero=>exact Classical.not_not.mp c
    |succ j=>exact h3 j (by omega)
theorem XF:∀{r:Row},hdI r=none->∀j,gt r j=0
 |[],_,j=>ub (Nat.zero_le _)
 |a::r,h,j=>by
  unfold hdI at h;by_cases c:a≠0
  ·rw[Ph c] at h;cases h
  ·rw[Pi c] at h
   have h':hdI r=none:=Option.map_eq_none_iff.mp h;cases j with
   |zero=>exact Classical.not_not.mp c
   |succ j=>exact XF h' j
theorem Za8 {r:Row}{k:Nat}(h1:gt r k≠0) (h2:∀j,j<k->gt r j=0):hdI r=some k:=by
 cases q:hdI r with
 |none=>exact absurd (XF q k) h1
 |some m=>
  obtain⟨a,_,c⟩:=YR q;have:¬k<m:=λz=>h1 (c k z)
  have:¬m<k:=λz=>a (h2 m z)
  rw[show m=k by omega]
section
variable {p n:Nat}[NeZero p]
noncomputable def toV (p:Nat) [NeZero p] (r:Row):Vec (Fin p):=λj=>ph p (gt r j)
theorem jr {r s:Row}(hr:Zm p n r) (hs:Zm p n s) (h:toV p r=toV p s):r=s:=
 ux (by rw[hr.1,hs.1]) λj=>yC (YV ppos hr j) (YV ppos hs j) (congrFun h j)
theorem Ug {r:Row}(hr:Zm p n r):Supp n (toV p r):=λj hj=>by unfold toV;rw[ub (by rw[hr.1];exact hj),X6]
theorem Xi {r:Row}(hr:Zm p n r) {j:Nat}:toV p r j=0↔gt r j=0:=Zae (YV ppos hr j)
theorem Q3 {r:Row}(hr:Zm p n r):hdV n (toV p r)=hdI r:=by
 cases q:hdI r with
 |none=>
  cases q2:hdV n (toV p r) with
  |none=>rfl
  |some k=>exact absurd ((Xi hr).mpr (XF q k)) (GT q2).2.1
 |some k=>
  obtain⟨a,b,c⟩:=YR q;exact yc (by rw[<-hr.1];exact b) (λz=>a ((Xi hr).mp z)) λj hj=>(Xi hr).mpr (c j hj)
noncomputable def Xb (p:Nat) (r o:Row) (k:Int):Row:=List.zipWith (λa b=>(a+k*b)%p) r o
noncomputable def Xo (p:Nat) (r:Row) (k:Int):Row:=r.map λa=>k*a%p
theorem Zay {f:Int->Int->Int}{r o:Row}(hl:r.length=o.length) (h0:f 0 0=0) (j:Nat):gt (List.zipWith f r o) j=f (gt r j) (gt o j):=by
 unfold gt;simp only[Pp];rw[List.getElem?_zipWith];by_cases c:j<r.length
 ·rw[Pc c,Pc (by omega)];rfl
 ·rw[List.getElem?_eq_none (by omega),List.getElem?_eq_none (by omega)];exact h0.symm
theorem Yu {r o:Row}{k:Int}(hr:Zm p n r) (ho:Zm p n o):Zm p n (Xb p r o k):=by
 refine⟨by unfold Xb;rw[List.length_zipWith,hr.1,ho.1];simp,λa ha=>?_⟩
 unfold Xb at ha;rw[<-List.map_uncurry_zip_eq_zipWith] at ha;obtain⟨⟨x,y⟩,_,rfl⟩:=PC.mp ha;exact⟨NW _ (by have:=ppos (p:=p);omega),NI _ ppos⟩
theorem Jf {r o:Row}{k:Int}(hr:Zm p n r) (ho:Zm p n o) (j:Nat):gt (Xb p r o k) j=(gt r j+k*gt o j)%p:=by
 unfold Xb;rw[Zay (by rw[hr.1,ho.1]) (by simp)]
theorem vq {r o:Row}{k:Int}(hr:Zm p n r) (ho:Zm p n o):toV p (Xb p r o k)=λj=>toV p r j+ph p k*toV p o j:=by
 funext j
 unfold toV;rw[Jf hr ho,Jx,zX,yB]
theorem UD {r:Row}{k:Int}(j:Nat):gt (Xo p r k) j=k*gt r j%p:=by
 unfold Xo gt;simp only[Pp,PF];cases r[j]? <;> simp
theorem X4 {r:Row}{k:Int}(hr:Zm p n r):Zm p n (Xo p r k):=by
 refine⟨by unfold Xo;rw[Pk,hr.1],λa ha=>?_⟩
 obtain⟨x,_,rfl⟩:=PC.mp ha;exact⟨NW _ (by have:=ppos (p:=p);omega),NI _ ppos⟩
theorem x6 {r:Row}{k:Int}:toV p (Xo p r k)=λj=>ph p k*toV p r j:=by
 funext j
 unfold toV;rw[UD,Jx,yB]
noncomputable def toP (p:Nat) [NeZero p] (P:List Row):Pt (Fin p):=P.map λr=>((hdI r).getD 0,toV p r)
structure Part (p n:Nat) [NeZero p] (P:List Row):Prop where
 row:∀r∈P,Zm p n r
 pn:Pn n (toP p P)
theorem Part.nil:Part p n []:=⟨λ_ h=>(by cases h),Pn.nil⟩
theorem Yh {P:List Row}{r:Row}(h:r∈P):((hdI r).getD 0,toV p r)∈toP p P:=PC.mpr ⟨r,h,rfl⟩
theorem Part.head (one0:(1:Fin p)≠0) {P:List Row}(h:Part p n P) {r:Row}(hr:r∈P):∃k,hdI r=some k/\k<n/\toV p r k=1:=by
 have h1:=h.pn.rf.one _ (Yh (p:=p) hr);cases q:hdI r with
 |none=>
  rw[q] at h1;have:toV p r 0=1:=h1;have z:toV p r 0=0:=(Xi (h.row r hr)).mpr (XF q 0);rw[z] at this;exact absurd this.symm one0
 |some k=>
  rw[q] at h1;have h2:=h.pn.lt _ (Yh (p:=p) hr);rw[q] at h2;exact⟨k,rfl,h2,h1⟩
theorem xF {P Q:List Row}(hP:∀r∈P,Zm p n r) (hQ:∀r∈Q,Zm p n r) (h:toP p P=toP p Q):P=Q:=by
 induction P generalizing Q with
 |nil=>cases Q with
  |nil=>rfl
  |cons b Q=>cases h
 |cons a P ih=>cases Q with
  |nil=>cases h
  |cons b Q=>
   have h':((hdI a).getD 0,toV p a)::toP p P=((hdI b).getD 0,toV p b)::toP p Q:=h;injection h' with e1 e2
   have e3:toV p a=toV p b:=congrArg Prod.snd e1;rw[jr (hP a (Pe ..)) (hQ b (Pe ..)) e3,ih (λr hr=>hP r (Pd _ hr)) (λr hr=>hQ r (Pd _ hr)) e2]
theorem ql (P:List Row):(toP p P).map (·.2)=P.map (toV p):=by unfold toP;rw[P3];rfl
theorem J0 (P:List Row):(toP p P).length=P.length:=by unfold toP;rw[Pk]
noncomputable def clr (p:Nat) (r o:Row) (h:Nat):Row:=Xb p r o (-(gt r h))
noncomputable def Zl (p:Nat) (P:List Row) (r:Row):Row:=P.foldl (λs o=>clr p s o ((hdI o).getD 0)) r
theorem V7 {r o:Row}{h:Nat}(hr:Zm p n r) (ho:Zm p n o):toV p (clr p r o h)=λj=>toV p r j-toV p r h*toV p o j:=by
 unfold clr;rw[vq hr ho]
 funext j
 rw[vh];show toV p r j+(- toV p r h)*toV p o j=_
 grind
theorem V5:∀{P:List Row}{r:Row},(∀o∈P,Zm p n o)->Rf (toP p P)->Zm p n r->Zm p n (Zl p P r)/\toV p (Zl p P r)=rest (toP p P) (toV p r)
 |[],r,_,_,hr=>⟨hr,by funext j;show toV p r j=toV p r j-0;grind⟩
 |o::P,r,hP,hf,hr=>by
  have ho:=hP o (Pe ..);have hc:Zm p n (clr p r o ((hdI o).getD 0)):=Yu hr ho;obtain⟨a,b⟩:=V5 (P:=P) (λo h=>hP o (Pd _ h)) hf.tail hc
  refine⟨a,?_⟩;show toV p (Zl p P (clr p r o ((hdI o).getD 0)))=_;rw[b,V7 hr ho];have z:∀j,pr (toP p P) (toV p o) j=0:=λj=>Xu λc hc=>by
   have:toV p o c.1=0:=by
    have h1:c∈toP p (o::P):=Pd _ hc;have h2:((hdI o).getD 0,toV p o)∈toP p (o::P):=Pe ..;have h3:=(PK.mp hf.inc).1 c hc;exact hf.zer c h1 _ h2 (by simp only at h3 ⊢;omega)
   rw[this];grind
  funext j
  unfold rest;rw[Ja,z];show toV p r j-toV p r ((hdI o).getD 0)*toV p o j-(pr (toP p P) (toV p r) j-_*0)=toV p r j-(toV p r ((hdI o).getD 0)*toV p o j+pr (toP p P) (toV p r) j)
  grind
theorem uf {P:List Row}{r:Row}(hP:Part p n P) (hr:Zm p n r):hdI (Zl p P r)=none↔Mem (toP p P) (toV p r):=by
 obtain⟨a,b⟩:=V5 hP.row hP.pn.rf hr;rw[<-UH,<-b]
 constructor
 ·intro h j;exact (Xi a).mpr (XF h j)
 ·intro h
  cases q:hdI (Zl p P r) with
  |none=>rfl
  |some k=>exact absurd ((Xi a).mp (h k)) (YR q).1
end
end Rw
set_option maxRecDepth 10000
namespace Rw
open La
open Ev (ltI XU ZG)
noncomputable def Yk (p:Nat) (a:Int):Int:=if a=1 then 1 else if p=3 then 2 else if a=2 then 3 else if a=3 then 2 else 4
noncomputable def VR (p:Nat) [NeZero p] (x:Fin p):Fin p:=ph p (Yk p x.val)
class Base (p:Nat):Prop where
 b:p=2\/p=3\/p=5
instance (p:Nat) [h:Base p]:NeZero p:=⟨by rcases h.b with e | e | e <;> omega⟩
section
variable {p n:Nat}[Base p]
theorem fld2:∀a:Fin 2,a≠0->VR 2 a*a=1:=by decide
theorem fld3:∀a:Fin 3,a≠0->VR 3 a*a=1:=by decide
theorem fld5:∀a:Fin 5,a≠0->VR 5 a*a=1:=by decide
theorem one2:(1:Fin 2)≠0:=by decide
theorem one3:(1:Fin 3)≠0:=by decide
theorem one5:(1:Fin 5)≠0:=by decide
theorem fld:Fld (VR p):=by
 rcases (inferInstance:Base p).b with e | e | e <;> subst e
 ·exact⟨fld2,one2⟩
 ·exact⟨fld3,one3⟩
 ·exact⟨fld5,one5⟩
theorem jq {a:Int}(h:0<=a/\a<(p:Int)):((ph p a).val:Int)=a:=by rw[YM,Int.emod_eq_of_lt h.1 h.2]
noncomputable def lead (p:Nat) (s:Row) (h:Nat):Row:=Xo p s (Yk p (gt s h))
noncomputable def WT (p:Nat) (P:List Row) (r:Row):List Row:=match hdI (Zl p P r) with
 |none=>P
 |some h=>(ZG (P.map (λo=>clr p o (lead p (Zl p P r) h) h)++[lead p (Zl p P r) h])).reverse
noncomputable def Go (h:Nat) (x:Row):List Row->List Row
 |[]=>[x]
 |y::P=>if h<(hdI y).getD 0 then x::y::P else y::Go h x P
theorem Vg (h:Nat) (x:Row):∀P:List Row,(Go h x P).Perm (x::P)
 |[]=>Nq _
 |y::P=>by
  unfold Go;split
  ·exact Nq _
  ·exact ((Vg h x P).cons y).trans (List.Perm.swap x y P)
theorem Gr {h:Nat}{x:Row}(hx:hdI x=some h):∀P:List Row,toP p (Go h x P)=ins (h,toV p x) (toP p P)
 |[]=>by show [((hdI x).getD 0,toV p x)]=_;rw[hx];rfl
 |y::P=>by
  unfold Go;show toP p (if h<(hdI y).getD 0 then _ else _)=(if h<(hdI y).getD 0 then _ else _)
  split
  ·show ((hdI x).getD 0,toV p x)::_=_;rw[hx];rfl
  ·show ((hdI y).getD 0,toV p y)::toP p (Go h x P)=_;rw[Gr hx P];rfl
theorem vf:∀{a b:Row}{h:Nat},a.length=b.length->(∀j,j<h->gt a j=gt b j)->gt b h<gt a h->h<a.length->ltI b a=true
 |[],_,_,_,_,_,hl=>by simp at hl
 |x::a,[],_,e,_,_,_=>by simp at e
 |x::a,y::b,0,_,_,hlt,_=>by
  have:y<x:=hlt;unfold ltI;rw[Pi (by omega)]
  exact PD this
 |x::a,y::b,h+1,e,hj,hlt,hl=>by
  have:x=y:=hj 0 (by omega)
  unfold ltI;rw[Ph this.symm];exact vf (by simpa using e) (λj h'=>hj (j+1) (by omega)) hlt (by simpa using hl)
theorem v9 {a b:Row}{h k:Nat}(ha:Zm p n a) (hb:Zm p n b) (h1:hdI a=some h) (h2:hdI b=some k) (hk:h<k):ltI b a=true:=by
 obtain⟨a1,a2,a3⟩:=YR h1;obtain⟨b1,b2,b3⟩:=YR h2;refine vf (by rw[ha.1,hb.1]) (λj hj=>by rw[a3 j hj,b3 j (by omega)]) ?_ a2
 rw[b3 h hk];have:=(YV ppos ha h).1;omega
theorem Part.falls {P:List Row}(hP:Part p n P):P.Pairwise λa b=>ltI b a=true:=by
 have inc:P.Pairwise λa b=>(hdI a).getD 0<(hdI b).getD 0:=by
  have:=hP.pn.rf.inc;unfold toP at this;rw[List.pairwise_map] at this;exact this
 refine List.Pairwise.imp_of_mem (λ{a b} ha hb hab=>?_) inc
 obtain⟨h,e1,_⟩:=hP.head fld.one0 ha;obtain⟨k,e2,_⟩:=hP.head fld.one0 hb;rw[e1,e2] at hab;exact v9 (hP.row a ha) (hP.row b hb) e1 e2 hab
theorem VJ {P:List Row}(h:P.Pairwise λa b=>ltI b a=true):P.Nodup:=List.Pairwise.imp (λ{a b} hab e=>by
 rw[e] at hab;have:=Sd.X2 hab;rw[hab] at this;cases this) h
theorem jH {P Q:List Row}(hp:Q.Perm P) (h:Q.Pairwise λa b=>ltI b a=true):(ZG P).reverse=Q:=by
 have hn:P.Nodup:=(hp.nodup_iff).mp (VJ h);have e:ZG P=Q.reverse:=Sd.XY ((Sd.YO P).trans (hp.symm.trans (List.reverse_perm Q).symm)) (Sd.Xt hn) (List.pairwise_reverse.mpr h);rw[e,List.reverse_reverse]
theorem zU {P:List Row}{r:Row}(hP:Part p n P) (hr:Zm p n r):Part p n (WT p P r)/\toP p (WT p P r)=more (VR p) n (toP p P) (toV p r):=by
 obtain⟨s1,s2⟩:=V5 hP.row hP.pn.rf hr;have eh:=Q3 s1;rw[s2] at eh;have g:=Q4 fld hP.pn (Ug hr);unfold WT;cases q:hdI (Zl p P r) with
 |none=>
  rw[q] at eh;exact⟨hP,by unfold more;rw[eh]⟩
 |some h=>
  rw[q] at eh;have em:more (VR p) n (toP p P) (toV p r)=wid (toP p P) h (toV p (lead p (Zl p P r) h)):=by
   unfold more;rw[eh];show wid _ h _=_
   congr 1
   unfold lead;rw[x6,s2]
   funext j
   congr 1
   unfold VR;rw[<-s2];show ph p (Yk p ((ph p (gt (Zl p P r) h)).val))=_;rw[jq (YV ppos s1 h)]
  have hl:Zm p n (lead p (Zl p P r) h):=X4 s1;rw[em] at g;have mem:∀x∈wid (toP p P) h (toV p (lead p (Zl p P r) h)),hdV n x.2=some x.1:=λx hx=>yc (g.pn.lt x hx) (by rw[g.pn.rf.one x hx];exact fld.one0) (g.pn.rf.low x hx)
  have hx:hdI (lead p (Zl p P r) h)=some h:=by
   rw[<-Q3 hl];exact mem (h,toV p (lead p (Zl p P r) h)) ((YA _ _).mem_iff.mpr (Pe ..))
  have e1:toP p (P.map λo=>clr p o (lead p (Zl p P r) h) h)=(toP p P).map (off h (toV p (lead p (Zl p P r) h))):=by
   unfold toP;rw[P3,P3];refine NA λo ho=>?_
   have ho':=hP.row o ho;have hc:Zm p n (clr p o (lead p (Zl p P r) h) h):=Yu ho' hl;have ev:toV p (clr p o (lead p (Zl p P r) h) h)=(off h (toV p (lead p (Zl p P r) h)) ((hdI o).getD 0,toV p o)).2:=V7 ho' hl;show ((hdI (clr p o (lead p (Zl p P r) h) h)).getD 0,toV p (clr p o (lead p (Zl p P r) h) h))=off h _ ((hdI o).getD 0,toV p o);have:=mem (off h (toV p (lead p (Zl p P r) h)) ((hdI o).getD 0,toV p o)) ((YA _ _).mem_iff.mpr (Pd _ (PC.mpr ⟨_,Yh ho,rfl⟩)));rw[<-ev,Q3 hc] at this;rw[this,ev];rfl
  have e2:toP p (Go h (lead p (Zl p P r) h) (P.map λo=>clr p o (lead p (Zl p P r) h) h))=wid (toP p P) h (toV p (lead p (Zl p P r) h)):=by
   rw[Gr hx,e1];rfl
  have hQ:Part p n (Go h (lead p (Zl p P r) h) (P.map λo=>clr p o (lead p (Zl p P r) h) h)):=by
   refine⟨λx hx=>?_,by rw[e2];exact g.pn⟩
   rcases Po.mp ((Vg _ _ _).mem_iff.mp hx) with e | e
   ·rw[e];exact hl
   ·obtain⟨o,ho,rfl⟩:=PC.mp e
    exact Yu (hP.row o ho) hl
  have e3:=jH ((Vg h (lead p (Zl p P r) h) (P.map λo=>clr p o (lead p (Zl p P r) h) h)).trans (List.perm_append_singleton _ _).symm) hQ.falls
  show Part p n (ZG _).reverse/\toP p (ZG _).reverse=_;rw[e3];exact⟨hQ,by rw[e2,em]⟩
noncomputable def XE (p:Nat) (P:List Row) (rs:List Row):List Row:=rs.foldl (WT p) P
theorem Jh:∀{rs:List Row}{P:List Row},Part p n P->(∀r∈rs,Zm p n r)->Part p n (XE p P rs)/\toP p (XE p P rs)=Uc (VR p) n (toP p P) (rs.map (toV p))
 |[],P,hP,_=>⟨hP,rfl⟩
 |r::rs,P,hP,hr=>by
  obtain⟨a,b⟩:=zU hP (hr r (Pe ..));obtain⟨c,d⟩:=Jh (rs:=rs) a λx hx=>hr x (Pd _ hx)
  refine⟨c,?_⟩;show toP p (XE p (WT p P r) rs)=_;rw[d,b];rfl
theorem XI {P Q:List Row}(hP:Part p n P) (hQ:Part p n Q):Part p n (XE p P Q)/\toP p (XE p P Q)=join (VR p) n (toP p P) (toP p Q):=by
 obtain⟨a,b⟩:=Jh hP hQ.row;exact⟨a,by rw[b];unfold join;rw[ql]⟩
noncomputable def Zu (P:List Row):List Nat:=P.map λr=>(hdI r).getD 0
noncomputable def XB (n:Nat) (P:List Row):List Nat:=(List.range n).filter λj=>!(Zu P).contains j
theorem Wd (P:List Row):(toP p P).map (·.1)=Zu P:=by unfold toP Zu;rw[P3];rfl
theorem Uj (P:List Row):free n (toP p P)=XB n P:=by unfold free XB ZO;rw[Wd]
noncomputable def avF (p:Nat) (P:List Row) (f:Nat) (s:Row):Row:=P.foldl (λs r=>s.set ((hdI r).getD 0) ((-(gt r f))%p)) s
noncomputable def avI (p n:Nat) (P:List Row) (f:Nat):Row:=avF p P f ((List.replicate n 0).set f 1)
theorem vo {s:Row}{i j:Nat}{x:Int}(hi:i<s.length):gt (s.set i x) j=if j=i then x else gt s j:=by
 unfold gt;simp only[Pp];rw[Nv];by_cases c:i=j
 ·rw[Ph c,Ph hi,Ph c.symm];rfl
 ·rw[Pi c,Pi (Ne.symm c)]
theorem yM:∀{P:List Row}{f:Nat}{s:Row},Zm p n s->Zm p n (avF p P f s)
 |[],_,_,h=>h
 |r::P,f,s,h=>by
  refine yM (P:=P) ⟨by rw[PV];exact h.1,λa ha=>?_⟩
  rcases List.mem_or_eq_of_mem_set ha with z | z
  ·exact h.2 a z
  ·rw[z];exact⟨NW _ (by have:=ppos (p:=p);omega),NI _ ppos⟩
theorem xq:∀{P:List Row}{f:Nat}{s:Row}(j:Nat),(∀r∈P,(hdI r).getD 0<n)->(Zu P).Pairwise (· < ·)->s.length=n->toV p (avF p P f s) j=if ZO (toP p P) j=true then av (toP p P) f j else toV p s j
 |[],_,_,j,_,_,_=>rfl
 |r::P,f,s,j,hb,hi,hl=>by
  have hi':=PK.mp hi;show toV p (avF p P f (s.set ((hdI r).getD 0) ((-(gt r f))%p))) j=_;rw[xq j (λx hx=>hb x (Pd _ hx)) hi'.2 (by rw[PV];exact hl)]
  have e:av (toP p (r::P)) f j=if j=(hdI r).getD 0 then-toV p r f else av (toP p P) f j:=rfl
  have e0:ZO (toP p (r::P)) j=(decide (j=(hdI r).getD 0)||ZO (toP p P) j):=by
   unfold ZO;show (((hdI r).getD 0)::(toP p P).map (·.1)).contains j=_
   rw[List.contains_cons]
   congr 1
  cases q:ZO (toP p P) j with
  |true=>
   rw[Ph rfl,Ph (by rw[e0,q];simp),e,Pi]
   intro z;have:j∈Zu P:=by rw[<-Wd (p:=p)];unfold ZO at q;exact List.contains_iff_mem.mp q
   have h5:(hdI r).getD 0<j:=hi'.1 j this;omega
  |false=>
   rw[Pi (by simp)]
   unfold toV;rw[vo (by rw[hl];exact hb r (Pe ..))]
   by_cases c:j=(hdI r).getD 0
   ·rw[Ph c,Ph (by rw[e0];simp[c]),e,Ph c,Jx,vh];rfl
   ·rw[Pi c,Pi (by rw[e0,q];simp[c])]
theorem u3 {P:List Row}{f:Nat}(hP:Part p n P) (hf:f∈XB n P):Zm p n (avI p n P f)/\toV p (avI p n P f)=av (toP p P) f:=by
 rw[<-Uj (p:=p)] at hf;obtain⟨f1,f2⟩:=Z7.mp hf;have hone:(1:Int)<p:=by rcases (inferInstance:Base p).b with e | e | e <;> subst e <;> decide
 have hs:Zm p n ((List.replicate n (0:Int)).set f 1):=by
  refine⟨by simp,λa ha=>?_⟩
  rcases List.mem_or_eq_of_mem_set ha with z | z
  ·rw[(List.mem_replicate.mp z).2];exact⟨by omega,ppos⟩
  ·rw[z];exact⟨by omega,hone⟩
 refine⟨yM hs,?_⟩
 funext j
 unfold avI;rw[xq (n:=n) j (λr hr=>hP.pn.lt _ (Yh hr)) (by rw[<-Wd (p:=p)];exact hP.pn.rf.heads) hs.1]
 cases q:ZO (toP p P) j with
 |true=>rw[Ph rfl]
 |false=>
  rw[Pi (by simp),XJ q]
  unfold toV;rw[vo (by simpa using f1)]
  have one:ph p 1=1:=by rcases (inferInstance:Base p).b with e | e | e <;> subst e <;> rfl
  by_cases c:j=f
  ·rw[Ph c,Ph c,one]
  ·rw[Pi c,Pi c]
   have:gt (List.replicate n (0:Int)) j=0:=by
    unfold gt;rw[Pp,Nd];split <;> rfl
   rw[this,X6]
noncomputable def Zp (p n:Nat) (P:List Row):List Row:=XE p [] ((XB n P).map (avI p n P))
theorem Z6 {P:List Row}(hP:Part p n P):Part p n (Zp p n P)/\toP p (Zp p n P)=perp (VR p) n (toP p P):=by
 obtain⟨a,b⟩:=Jh (rs:=(XB n P).map (avI p n P)) (Part.nil (p:=p) (n:=n)) λr hr=>by
  obtain⟨f,hf,rfl⟩:=PC.mp hr;exact (u3 hP hf).1
 refine⟨a,?_⟩;unfold Zp;rw[b];unfold perp;rw[Uj,P3]
 congr 1
 exact NA λf hf=>(u3 hP hf).2
noncomputable def W5 (p n:Nat) (P Q:List Row):List Row:=Zp p n (XE p (Zp p n P) (Zp p n Q))
theorem qc {P Q:List Row}(hP:Part p n P) (hQ:Part p n Q):Part p n (W5 p n P Q)/\toP p (W5 p n P Q)=meet (VR p) n (toP p P) (toP p Q):=by
 obtain⟨a1,a2⟩:=Z6 hP;obtain⟨b1,b2⟩:=Z6 hQ;obtain⟨c1,c2⟩:=XI a1 b1;obtain⟨d1,d2⟩:=Z6 c1;exact⟨d1,by unfold W5;rw[d2,c2,a2,b2];rfl⟩
end
end Rw
set_option maxRecDepth 10000
namespace Rw
open La
open Ev (ltI XU ZG)
section
variable {p n:Nat}[Base p]
noncomputable abbrev Mm (p:Nat) [NeZero p] (P:List Row) (u:Vec (Fin p)):Prop:=Mem (toP p P) u
theorem eqP {A B:List Row}(hA:Part p n A) (hB:Part p n B) (h:∀u,Mm p A u↔Mm p B u):A=B:=xF hA.row hB.row (Zab fld hA.pn hB.pn h)
theorem vB {P Q:List Row}(hP:Part p n P) (hQ:Part p n Q) {u:Vec (Fin p)}(h:Mm p Q u):Mm p (XE p P Q) u:=by
 unfold Mm;rw[(XI hP hQ).2];exact z6 fld hP.pn hQ.pn h
theorem vH {P Q R:List Row}(hP:Part p n P) (hQ:Part p n Q) (h1:∀u,Mm p P u->Mm p R u) (h2:∀u,Mm p Q u->Mm p R u) {u:Vec (Fin p)}(h:Mm p (XE p P Q) u):Mm p R u:=by
 unfold Mm at h;rw[(XI hP hQ).2] at h;exact yk fld hP.pn hQ.pn h1 h2 h
theorem pJ {P Q:List Row}(hP:Part p n P) (hQ:Part p n Q):Part p n (XE p P Q):=(XI hP hQ).1
theorem pM {P Q:List Row}(hP:Part p n P) (hQ:Part p n Q):Part p n (W5 p n P Q):=(qc hP hQ).1
theorem vx {P Q:List Row}(hP:Part p n P) (hQ:Part p n Q) (h:∀u,Mm p P u->Mm p Q u):XE p P Q=Q:=eqP (pJ hP hQ) hQ λu=>
 ⟨vH hP hQ h λ_ h=>h,vB hP hQ⟩
noncomputable def WM (p:Nat) (P:List Row) (r:Row):Bool:=(hdI (Zl p P r)).isNone
theorem Uh {P:List Row}{r:Row}(hP:Part p n P) (hr:Zm p n r):WM p P r=true↔Mm p P (toV p r):=by
 unfold Mm;rw[<-uf hP hr];unfold WM;cases hdI (Zl p P r) <;> simp
theorem Uv {P Q:List Row}(hP:Part p n P) (hQ:Part p n Q):P.all (WM p Q)=true↔∀u,Mm p P u->Mm p Q u:=by
 rw[PP]
 constructor
 ·intro h u hu
  have gen:∀R:Pt (Fin p),(∀a∈R,Mm p Q a.2)->Mm p Q (pr R u):=by
   intro R
   induction R with
   |nil=>intro _;exact Uu
   |cons a R ih=>
    intro hR;have:=WH (u a.1) (ih λb hb=>hR b (Pd _ hb)) (hR a (Pe ..))
    have e:(λj=>pr R u j+u a.1*a.2 j)=pr (a::R) u:=by funext j;show _=u a.1*a.2 j+pr R u j;grind
    rw[e] at this;exact this
  have:=gen (toP p P) λa ha=>by
   unfold toP at ha;obtain⟨r,hr,rfl⟩:=PC.mp ha;exact (Uh hQ (hP.row r hr)).mp (h r hr)
  have e:pr (toP p P) u=u:=funext λj=>(hu j).symm
  rw[e] at this;exact this
 ·intro h r hr
  exact (Uh hQ (hP.row r hr)).mpr (h _ (X0 hP.pn.rf (Yh hr)))
theorem yN {F:Type}[Lean.Grind.CommRing F]{x:Nat×Vec F}:∀{P:Pt F},(∀a∈P,a.1<x.1)->ins x P=P++[x]
 |[],_=>rfl
 |y::P,h=>by
  unfold ins;rw[Pi (by have:=h y (Pe ..);omega),yN λa ha=>h a (Pd _ ha)];rfl
theorem QR {P:List Row}{l:Row}{j:Nat}(hP:Part p n P) (hl:Zm p n l) (hj:j<n) (h1:gt l j=1) (h0:∀i,i<j->gt l i=0) (hh:∀r∈P,(hdI r).getD 0<j):Part p n (P.map (λo=>clr p o l j)++[l])/\∀r∈P.map (λo=>clr p o l j)++[l],(hdI r).getD 0<j+1:=by
 have one:ph p 1=1:=by rcases (inferInstance:Base p).b with e | e | e <;> subst e <;> rfl
 have hlt:∀a∈toP p P,a.1<j:=λa ha=>by
  unfold toP at ha;obtain⟨r,hr,rfl⟩:=PC.mp ha;exact hh r hr
 have L:Lead (toP p P) j (toV p l):=⟨by unfold toV;rw[h1,one],λi hi=>(Xi hl).mpr (h0 i hi),λa ha=>(Xi hl).mpr (h0 _ (hlt a ha))⟩
 have rf:=vK fld.one0 hP.pn.rf L;have ew:wid (toP p P) j (toV p l)=(toP p P).map (off j (toV p l))++[(j,toV p l)]:=yN λa ha=>by
  obtain⟨b,hb,rfl⟩:=PC.mp ha;exact hlt b hb
 have hx:hdI l=some j:=Za8 (by rw[h1];decide) h0
 have hmem:∀o∈P,off j (toV p l) ((hdI o).getD 0,toV p o)∈wid (toP p P) j (toV p l):=λo ho=>by
  rw[ew];exact List.mem_append_left _ (PC.mpr ⟨_,Yh ho,rfl⟩)
 have eh:∀o∈P,hdI (clr p o l j)=some ((hdI o).getD 0):=λo ho=>by
  have ho':=hP.row o ho;have hc:Zm p n (clr p o l j):=Yu ho' hl;have ev:toV p (clr p o l j)=(off j (toV p l) ((hdI o).getD 0,toV p o)).2:=V7 ho' hl;rw[<-Q3 hc,ev];exact yc (hP.pn.lt _ (Yh ho)) (λz=>fld.one0 ((rf.one _ (hmem o ho)).symm.trans z)) (rf.low _ (hmem o ho))
 have eP:toP p (P.map (λo=>clr p o l j)++[l])=wid (toP p P) j (toV p l):=by
  rw[ew];unfold toP;rw[List.map_append,P3,P3]
  congr 1
  ·refine NA λo ho=>?_
   show ((hdI (clr p o l j)).getD 0,toV p (clr p o l j))=off j _ ((hdI o).getD 0,toV p o);rw[eh o ho,V7 (hP.row o ho) hl];rfl
  ·show [((hdI l).getD 0,toV p l)]=_
   rw[hx];rfl
 have hrow:∀r∈P.map (λo=>clr p o l j)++[l],Zm p n r:=λr hr=>by
  rcases Nc.mp hr with z | z
  ·obtain⟨o,ho,rfl⟩:=PC.mp z
   exact Yu (hP.row o ho) hl
  ·rw[P4.mp z];exact hl
 refine⟨⟨hrow,⟨by rw[eP];exact rf,λa ha=>?_,λa ha=>?_⟩⟩,λr hr=>?_⟩
 ·unfold toP at ha
  obtain⟨r,hr,rfl⟩:=PC.mp ha;rcases Nc.mp hr with z | z
  ·obtain⟨o,ho,rfl⟩:=PC.mp z
   show (hdI _).getD 0<n;rw[eh o ho];exact hP.pn.lt _ (Yh ho)
  ·rw[P4.mp z];show (hdI l).getD 0<n;rw[hx];exact hj
 ·unfold toP at ha
  obtain⟨r,hr,rfl⟩:=PC.mp ha;exact Ug (hrow r hr)
 ·rcases Nc.mp hr with z | z
  ·obtain⟨o,ho,rfl⟩:=PC.mp z
   rw[eh o ho];have:=hh o ho;show (hdI o).getD 0<j+1;omega
  ·rw[P4.mp z,hx];show j<j+1;omega
theorem jF {a:Int}(h0:0<a) (h1:a<p):Yk p a*a%p=1:=by
 rcases (inferInstance:Base p).b with e | e | e <;> subst e
 ·have:a=1:=by omega
  subst this;rfl
 ·have:a=1\/a=2:=by omega
  rcases this with e | e <;> subst e <;> rfl
 ·have:a=1\/a=2\/a=3\/a=4:=by omega
  rcases this with e | e | e | e <;> subst e <;> rfl
theorem v8 {a:Int}(h0:0<a) (h1:a<p):(List.range p).filter (λk:Nat=>decide ((k:Int)*a%p=1))=[(Yk p a).toNat]/\((Yk p a).toNat:Int)=Yk p a:=by
 rcases (inferInstance:Base p).b with e | e | e <;> subst e
 ·have:a=1:=by omega
  subst this;exact⟨rfl,rfl⟩
 ·have:a=1\/a=2:=by omega
  rcases this with e | e <;> subst e <;> exact⟨rfl,rfl⟩
 ·have:a=1\/a=2\/a=3\/a=4:=by omega
  rcases this with e | e | e | e <;> subst e <;> exact⟨rfl,rfl⟩
structure Red (p n:Nat) [NeZero p] (j:Nat) (rest found:List Row):Prop where
 row:∀r∈rest,Zm p n r
 low:∀r∈rest,∀i,i<j->gt r i=0
 part:Part p n found
 head:∀r∈found,(hdI r).getD 0<j
theorem vW {j:Nat}{rest found:List Row}(h:Red p n j rest found) (hz:∀r∈rest,gt r j=0):Red p n (j+1) rest found:=
 ⟨h.row,λr hr i hi=>by
   by_cases c:i=j
   ·rw[c];exact hz r hr
   ·exact h.low r hr i (by omega),h.part,λr hr=>by have:=h.head r hr;omega⟩
theorem vV {j:Nat}{rest found:List Row}{f:Row}(h:Red p n j rest found) (hj:j<n) (hf:f∈rest) (hz:gt f j≠0):Red p n (j+1) (rest.map λr=>clr p r (lead p f j) j) (found.map (λr=>clr p r (lead p f j) j)++[lead p f j]):=by
 have hfr:=h.row f hf;have hg:=YV ppos hfr j;have hl:Zm p n (lead p f j):=X4 hfr;have h1:gt (lead p f j) j=1:=by unfold lead;rw[UD];exact jF (by omega) hg.2
 have h0:∀i,i<j->gt (lead p f j) i=0:=λi hi=>by unfold lead;rw[UD,h.low f hf i hi];simp
 obtain⟨a,b⟩:=QR h.part hl hj h1 h0 h.head;refine⟨λr hr=>?_,λr hr i hi=>?_,a,b⟩
 ·obtain⟨o,ho,rfl⟩:=PC.mp hr
  exact Yu (h.row o ho) hl
 ·obtain⟨o,ho,rfl⟩:=PC.mp hr
  unfold clr;rw[Jf (h.row o ho) hl];by_cases c:i=j
  ·rw[c,h1]
   rw[show gt o j + -(gt o j)*1=0 by omega];rfl
  ·rw[h.low o ho i (by omega),h0 i (by omega)];simp
end
end Rw
namespace Pv
open Ev
open Rw
theorem Zc {α β:Type}{a:α}{s:DS}{f:α->DS->PR β}:(PR.ok a s).bind f=f a s:=rfl
theorem UM {F:List Fn}{tk d f:Nat}{vs:List V}{s:DS}{fn:Fn}(hf:F[f]? = some fn) (hne:f≠tk) (hl:vs.length=fn.ps):ZP F tk (d+1) f vs s=(rvs (ZP F tk d) (muts fn.body) fn.body (Xw fn.ns vs) [] s).bind λg s=>match g with
  |.ret v=>.ok v s
  |.nx _ _=>.ok .non s
  |_=>.no:=by
 rw[ZP,Pi hne,hf];show (if vs.length=fn.ps then _ else _)=_
 rw[Ph hl]
 all_goals rfl
theorem takeF_ok (s:DS) {m:Int}(h:0<m):0<=(takeF s m).1/\(takeF s m).1<m:=by
 unfold takeF;split
 ·exact⟨NW _ (by omega),NI _ h⟩
 ·exact⟨NW _ (by omega),NI _ h⟩
theorem xJ {F:List Fn}{tk d:Nat}{m:Int}(s:DS) (h0:0<m) (h1:m<1073741824):∃v s',ZP F tk (d+1) tk [.drw,.int m] s=.ok (.int v) s'/\0<=v/\v<m:=by
 refine⟨(takeF s m).1,(takeF s m).2,?_,takeF_ok s h0⟩;rw[ZP,Ph rfl];show (if 0<m/\m<1073741824 then _ else _)=_
 rw[Ph ⟨h0,h1⟩]
theorem UU {α:Type}{f:V->DS->PR (List V)}{s:DS}{e:α->V}{g:α->V}:∀{l:List α},(∀x∈l,f (e x) s=.ok [g x] s)->mapP f (l.map e) s=.ok (l.map g) s
 |[],_=>rfl
 |x::l,h=>by
  rw[PL,mapP,h x (Pe ..)];show (match mapP f (l.map e) s with | .ok zs s=>PR.ok ([g x]++zs) s | _=>.no)=_
  rw[UU λy hy=>h y (Pd _ hy)];rfl
theorem VH {α:Type}{f:V->DS->PR (List V)}{s:DS}{e:α->V}{g:α->V}{q:α->Bool}:∀{l:List α},(∀x∈l,f (e x) s=.ok (if q x=true then [g x] else []) s)->mapP f (l.map e) s=.ok ((l.filter q).map g) s
 |[],_=>rfl
 |x::l,h=>by
  rw[PL,mapP,h x (Pe ..)];show (match mapP f (l.map e) s with | .ok zs s=>PR.ok ((if q x=true then [g x] else [])++zs) s | _=>.no)=_
  rw[VH λy hy=>h y (Pd _ hy),List.filter_cons]
  show PR.ok _ s=_;cases q x <;> rfl
theorem QN {α:Type}{f:V->DS->PR (List V)}{s:DS}{e:α->V}{g:α->List V}:∀{l:List α},(∀x∈l,f (e x) s=.ok (g x) s)->mapP f (l.map e) s=.ok (l.flatMap g) s
 |[],_=>rfl
 |x::l,h=>by
  rw[PL,mapP,h x (Pe ..)];show (match mapP f (l.map e) s with | .ok zs s=>PR.ok (g x++zs) s | _=>.no)=_
  rw[QN λy hy=>h y (Pd _ hy)];rfl
theorem QO {f:V->DS->PR (List V)}{Q:V->Prop}(h:∀x s,∃y s',f x s=.ok [y] s'/\Q y):∀(l:List V) (s:DS),∃ys s',mapP f l s=.ok ys s'/\ys.length=l.length/\∀y∈ys,Q y
 |[],s=>⟨[],s,rfl,rfl,λ_ h=>by cases h⟩
 |x::l,s=>by
  obtain⟨y,s1,e1,q1⟩:=h x s;obtain⟨ys,s2,e2,l2,q2⟩:=QO h l s1;refine⟨y::ys,s2,?_,by rw[PB,PB,l2],λz hz=>?_⟩
  ·rw[mapP,e1]
   show (match mapP f l s1 with | .ok zs s=>PR.ok ([y]++zs) s | _=>.no)=_
   rw[e2];rfl
  ·rcases Po.mp hz with rfl | hz
   ·exact q1
   ·exact q2 z hz
theorem QE {σ α:Type}{body:V->Env->List Nat->DS->PR FlV}{s:DS}{os:List Nat}{ρ:σ->Option V->Env}{step:σ->α->σ}{e:α->V}(I:σ->Prop):∀{l:List α}{st:σ}{o:Option V},I st->(∀x∈l,∀st o,I st->I (step st x)/\∃o',body (e x) (ρ st o) os s=.ok (.nx (ρ (step st x) o') os) s)->∃o',I (l.foldl step st)/\Vk body (l.map e) (ρ st o) os s=.ok (.nx (ρ (l.foldl step st) o') os) s
 |[],st,o,hI,_=>⟨o,hI,rfl⟩
 |x::l,st,o,hI,h=>by
  obtain⟨h1,o1,e1⟩:=h x (Pe ..) st o hI;obtain⟨o2,h2,e2⟩:=QE I (l:=l) (st:=step st x) (o:=o1) h1 λy hy=>h y (Pd _ hy)
  refine⟨o2,h2,?_⟩;rw[PL,Vk,e1];exact e2
noncomputable def Ub:Option Nat->V
 |none=>.non
 |some k=>.int k
noncomputable def spV (p n:Nat):V:=.tup [.int p,.int n]
theorem ZB {a:Int}(h:-4294967296<a) (h':a<4294967296):fits a=true:=by
 unfold fits;refine PD ?_;have h1:a.natAbs<2^32:=by omega
 exact PJ h1 (Nat.pow_le_pow_right (by decide) (by decide))
theorem Jt {α:Type}{xs:List α}{k:Nat}{x:α}(h:xs[k]? = some x):at' xs (k:Int)=some x:=by
 have hk:k<xs.length:=(Pq.mp h).1;unfold at' ixN;rw[Ph (by omega),Ph (by omega)]
 show xs[(k:Int).toNat]? = _;rw[show (k:Int).toNat=k by omega];exact h
theorem Xk {r:Row}{k:Nat}(hk:k<r.length):at' (r.map V.int) (k:Int)=some (.int (gt r k)):=by
 refine Jt ?_;rw[PF,Pc hk];unfold gt;rw[Pp,Pc hk];rfl
theorem Yb {α:Type}{g:α->Bool}:∀l:List α,ZW (l.map λx=>.bl (g x))=some (l.map g)
 |[]=>rfl
 |x::l=>by rw[PL,ZW,Yb l];rfl
theorem WS {α:Type}{f:V->V->Option Bool}{e:α->V}{d:α->α->Bool}(hd:∀a b,d a b=true↔a=b) (h:∀a b,f (e a) (e b)=some (d a b)):∀a b:List α,∃c,Ws f (a.map e) (b.map e)=some c/\(c=true↔a=b)
 |[],[]=>⟨true,rfl,by simp⟩
 |[],_::_=>⟨false,rfl,by simp⟩
 |_::_,[]=>⟨false,rfl,by simp⟩
 |x::a,y::b=>by
  obtain⟨c,e1,e2⟩:=WS hd h a b;refine⟨d x y&&c,?_,?_⟩
  ·rw[PL,PL,Ws,h,e1]
  ·rw[Pz,hd,e2];simp
theorem jK (k:Nat) (a b:Row):eqV (k+2) (Zd a) (Zd b)=some (decide (a=b)):=by
 show Ws (eqV (k+1)) (a.map .int) (b.map .int)=_;obtain⟨c,e1,e2⟩:=WS (f:=eqV (k+1)) (e:=V.int) (d:=λa b=>decide (a=b)) (λa b=>by simp) (λa b=>rfl) a b
 rw[e1,show c=decide (a=b) by rw[P2,e2];simp]
theorem Gg (k:Nat) (a b:List Row):eqV (k+3) (Za a) (Za b)=some (decide (a=b)):=by
 show Ws (eqV (k+2)) (a.map Zd) (b.map Zd)=_;obtain⟨c,e1,e2⟩:=WS (f:=eqV (k+2)) (e:=Zd) (d:=λa b=>decide (a=b)) (λa b=>by simp) (λa b=>jK k a b) a b
 rw[e1,show c=decide (a=b) by rw[P2,e2];simp]
theorem WV:∀(r o:Row),((r.map V.int).zip (o.map V.int)).map (λq=>V.tup [q.1,q.2])=(r.zip o).map λq=>V.tup [.int q.1,.int q.2]
 |[],_=>rfl
 |_::_,[]=>rfl
 |a::r,b::o=>by rw[PL,PL,Nr,PL,Nr,PL,WV r o]
theorem Vo:∀r:Row,intsV (r.map V.int)=some r
 |[]=>rfl
 |a::r=>by show (intsV (r.map V.int)).map (a :: ·)=_;rw[Vo r];rfl
theorem Vs:∀P:List Row,YK (P.map Zd)=some P
 |[]=>rfl
 |r::P=>by
  show (match intsV (r.map V.int),YK (P.map Zd) with | some a,some b=>some (a::b) | _,_=>none)=_
  rw[Vo,Vs P]
theorem Xl:∀r:Row,flats (r.map V.int)=true
 |[]=>rfl
 |a::r=>Xl r
theorem jv (n:Nat):Yv 0 n=(List.range n).map λ(k:Nat)=>V.int (k:Int):=by
 unfold Yv;refine NA λk _=>?_
 simp
theorem ZV {α:Type}{a:α}{s:DS}:po (some a) s=.ok a s:=rfl
section
variable {C:Zv}{cap:List Nat}{nl:Nat}{t:List Nat}{it:W}{elt tst:E}{ρ:Env}{s:DS}{α:Type}
theorem ZC {l:List α}{e g:α->V}(hw:pvw C it ρ s=.ok (l.map e) s) (hl:l.length<=lim) (h:∀x∈l,∃σ,Zs t (e x) (Z8 cap nl ρ)=some σ/\pv C elt σ s=.ok (g x) s) (ho:own nl t=true:=by rfl):pv C (.comp1 cap nl t it [] elt) ρ s=.ok (.lst (l.map g)) s:=by
 rw[pv,Ph ho,hw,Zc,UU (g:=g) λx hx=>by
  obtain⟨σ,e1,e2⟩:=h x hx;rw[e1,ZV,Zc,pvt,Zc];show (pv C elt σ s).bind _=_;rw[e2];rfl]
 rw[Zc,Ph (by rw[Pk];exact hl)]
theorem Ym {l:List α}{e g:α->V}{q:α->Bool}(hw:pvw C it ρ s=.ok (l.map e) s) (hl:l.length<=lim) (h:∀x∈l,∃σ v,Zs t (e x) (Z8 cap nl ρ)=some σ/\pv C tst σ s=.ok v s/\Yd v=some (q x)/\(q x=true->pv C elt σ s=.ok (g x) s)) (ho:own nl t=true:=by rfl):pv C (.comp1 cap nl t it [tst] elt) ρ s=.ok (.lst ((l.filter q).map g)) s:=by
 rw[pv,Ph ho,hw,Zc,VH (g:=g) (q:=q) λx hx=>by
  obtain⟨σ,v,e1,e2,e3,e4⟩:=h x hx;rw[e1,ZV,Zc,pvt,e2,Zc,e3,ZV,Zc];cases c:q x with
  |true=>
   rw[Ph rfl,pvt,Zc,Ph rfl,Ph rfl,e4 c];rfl
  |false=>rw[Pi (by simp),Zc,Pi (by simp),Pi (by simp)]]
 rw[Zc,Ph (by rw[Pk];exact P0 (List.length_filter_le ..) hl)]
theorem V8 {β:Type}{u:List Nat}{jt:W}{l:List α}{e:α->V}{m:α->List β}{e2:β->V}{g:α->β->V}(hw:pvw C it ρ s=.ok (l.map e) s) (hl:(l.flatMap λx=>(m x).map (g x)).length<=lim)
  (h:∀x∈l,∃σ,Zs t (e x) (Z8 cap nl ρ)=some σ/\pvw C jt σ s=.ok ((m x).map e2) s/\∀y∈m x,∃σ',Zs u (e2 y) σ=some σ'/\pv C elt σ' s=.ok (g x y) s) (ho:own2 nl t u=true:=by rfl):pv C (.comp2 cap nl t it [] u jt [] elt) ρ s=.ok (.lst (l.flatMap λx=>(m x).map (g x))) s:=by
 rw[pv,Ph ho,hw,Zc,QN (g:=λx=>(m x).map (g x)) λx hx=>by
  obtain⟨σ,e1,e3,e4⟩:=h x hx;rw[e1,ZV,Zc,pvt,Zc,Ph rfl,e3,Zc];exact UU λy hy=>by
   obtain⟨σ',f1,f2⟩:=e4 y hy;rw[f1,ZV,Zc,pvt,Zc];show (pv C elt σ' s).bind _=_;rw[f2];rfl]
 rw[Zc,Ph hl]
theorem Qk {k:Nat}{Q:V->Prop}(hw:pvw C it ρ s=.ok (Yv 0 k) s) (hl:k<=lim) (h:∀(x:V) (s:DS),∃σ y s',Zs t x (Z8 cap nl ρ)=some σ/\pv C elt σ s=.ok y s'/\Q y) (ho:own nl t=true:=by rfl) :
  ∃ys s',pv C (.comp1 cap nl t it [] elt) ρ s=.ok (.lst ys) s'/\ys.length=k/\∀y∈ys,Q y:=by
 obtain⟨ys,s',e1,e2,e3⟩:=QO (Q:=Q) (f:=λx s=>(po (Zs t x (Z8 cap nl ρ)) s).bind λσ s=>(pvt C [] σ s).bind λb s=>if b then (pv C elt σ s).bind λy s=>.ok [y] s else .ok [] s) (λx s=>by
  obtain⟨σ,y,s',f1,f2,f3⟩:=h x s;refine⟨y,s',?_,f3⟩;rw[f1,ZV,Zc,pvt,Zc];show (pv C elt σ s).bind _=_;rw[f2];rfl) (Yv 0 k) s
 have hk:(Yv 0 k).length=k:=by unfold Yv;simp
 refine⟨ys,s',?_,by rw[e2,hk],e3⟩
 rw[pv,Ph ho,hw,Zc,e1,Zc,Ph (by rw[e2,hk];exact hl)]
end
theorem Zav {xs:List V}{k:Nat}(h:k<=xs.length):Xj xs none (some (k:Int))=xs.take k:=by
 show (xs.drop 0).take ((if (k:Int)<0 then ((k:Int)+xs.length).toNat else min (k:Int).toNat xs.length)-0)=_
 rw[Pi (by omega),show min (k:Int).toNat xs.length-0=k by omega];rfl
theorem GI {xs:List V}{i:Int}{k:Nat}(hi:i=k) (h:k<=xs.length):Xj xs (some i) none=xs.drop k:=by
 subst hi;show (xs.drop (if (k:Int)<0 then ((k:Int)+xs.length).toNat else min (k:Int).toNat xs.length)).take (xs.length-(if (k:Int)<0 then ((k:Int)+xs.length).toNat else min (k:Int).toNat xs.length))=_
 rw[Pi (by omega),show min (k:Int).toNat xs.length=k by omega]
 exact List.take_of_length_le (by rw[NP];omega)
theorem u0 {xs:List V}:Xj xs (some 1) none=xs.tail:=by
 cases xs with
 |nil=>rfl
 |cons x xs=>exact GI (k:=1) rfl (by simp)
noncomputable def Ze (k:Nat):V:=.int k
theorem JX (n:Nat):Yv 0 n=(List.range n).map Ze:=by rw[jv];rfl
theorem Xf {i:Int}(h0:0<=i) (h1:i<1000000):small i=true:=by
 unfold small;have e:(2:Int)^62=4611686018427387904:=by decide
 rw[e];exact PD ⟨by omega,by omega⟩
theorem Zo {F:List Fn}{tk d f:Nat}{vs:List V}{s s':DS}{fn:Fn}{v:V}(hf:F[f]? = some fn) (hne:f≠tk) (hl:vs.length=fn.ps) (h:rvs (ZP F tk d) (muts fn.body) fn.body (Xw fn.ns vs) [] s=.ok (.ret v) s'):ZP F tk (d+1) f vs s=.ok v s':=by
 rw[UM hf hne hl,h];rfl
theorem VZ {F:List Fn}{tk d f:Nat}{vs:List V}{s s':DS}{fn:Fn}{ρ:Env}{os:List Nat}(hf:F[f]? = some fn) (hne:f≠tk) (hl:vs.length=fn.ps) (h:rvs (ZP F tk d) (muts fn.body) fn.body (Xw fn.ns vs) [] s=.ok (.nx ρ os) s'):ZP F tk (d+1) f vs s=.ok .non s':=by
 rw[UM hf hne hl,h];rfl
section
variable {C:Zv}{ms:List Nat}{m:Sm}{l:List Sm}{ρ ρ':Env}{os os':List Nat}{s s':DS}
theorem Zg (h:rv C ms m ρ os s=.ok (.nx ρ' os') s'):rvs C ms (m::l) ρ os s=rvs C ms l ρ' os' s':=by rw[rvs,h];rfl
theorem Zt {v:V}(h:rv C ms m ρ os s=.ok (.ret v) s'):rvs C ms (m::l) ρ os s=.ok (.ret v) s':=by rw[rvs,h];rfl
theorem ZK {v:V}{e:E}(h:pv C e ρ s=.ok v s'):rv C ms (.ret e) ρ os s=.ok (.ret v) s':=by rw[rv,h];rfl
theorem UI {v:V}{f:Nat}{as:List E}(h:pv C (.call f as) ρ s=.ok v s'):rv C ms (.ex (.call f as)) ρ os s=.ok (.nx ρ os) s':=by
 have:rv C ms (.ex (.call f as)) ρ os s=(pv C (.call f as) ρ s).bind λ_ s=>.ok (.nx ρ os) s:=by
  rw[rv]
  all_goals (intro _ _ z;cases z)
 rw[this,h];rfl
theorem Um {b:Bool}{t:E}{x y:List Sm}(h:Vj C t ρ s=.ok b s'):rv C ms (.ite t x y) ρ os s=if b=true then rvs C ms x ρ os s' else rvs C ms y ρ os s':=by rw[rv,h];rfl
theorem UT {v:V}{b:Bool}{t:E}(h:pv C t ρ s=.ok v s') (hb:Yd v=some b):Vj C t ρ s=.ok b s':=by unfold Vj;rw[h,Zc,hb];rfl
theorem Zj {f:Nat}{as:List E}{vs:List V}{v:V}{s1:DS}(h:pvs C as ρ s=.ok vs s1) (hc:C f vs s1=.ok v s'):pv C (.call f as) ρ s=.ok v s':=by rw[pv,h];exact hc
theorem Zh:pvs C [] ρ s=.ok [] s:=by rw[pvs]
theorem Zb {e:E}{es:List E}{v:V}{vs:List V}{s1:DS}(h:pv C e ρ s=.ok v s1) (h2:pvs C es ρ s1=.ok vs s'):pvs C (e::es) ρ s=.ok (v::vs) s':=by rw[pvs,h,Zc,h2];rfl
theorem Zf {i:Nat}{v:V}(h:ρ[i]? = some (some v)):pv C (.v i) ρ s=.ok v s:=by rw[pv,h];rfl
theorem ZY {i:Nat}{e:E}{v:V}(h:pv C e ρ s=.ok v s') (hm:(ms.contains i&&fresh e)=false):rv C ms (.asg [i] e) ρ [] s=.ok (.nx (ρ.set i (some v)) []) s':=by
 rw[rv];show (pv C e ρ s).bind _=_;rw[h,Zc,Pi (by rw[hm];simp)];rfl
theorem JE {σ α:Type}{t:List Nat}{it:W}{b:List Sm}{L:List α}{e:α->V}{step:σ->α->σ}{ρ:σ->Option V->Env}{st:σ}{o:Option V}(I:σ->Prop) (hw:pvw C it (hide os (ρ st o)) s=.ok (L.map e) s) (hI:I st) (ht:(t.any os.contains)=false)
  (h:∀x∈L,∀st o,I st->I (step st x)/\(os.isEmpty||(e x).flat)=true/\∃ρ1 o',Zs t (e x) (ρ st o)=some ρ1/\rvs C ms b ρ1 os s=.ok (.nx (ρ (step st x) o') os) s) :
  ∃o',I (L.foldl step st)/\rv C ms (.forr t it b) (ρ st o) os s=.ok (.nx (ρ (L.foldl step st) o') os) s:=by
 obtain⟨o',h1,h2⟩:=QE (body:=λx ρ os s=>if (t.any os.contains)=true then .no else if (os.isEmpty||x.flat)=true then (po (Zs t x ρ) s).bind λρ s=>rvs C ms b ρ os s else .no) (s:=s) (os:=os) (ρ:=ρ) (step:=step) (e:=e) I (l:=L) (st:=st) (o:=o) hI (λx hx st o hI=>by
  obtain⟨a,f,ρ1,o',b1,b2⟩:=h x hx st o hI;refine⟨a,o',?_⟩;rw[Pi (by rw[ht];simp),Ph f,b1,ZV,Zc,b2])
 refine⟨o',h1,?_⟩;rw[rv,hw,Zc];exact h2
theorem Y2 {e:E}{n:Nat}(h:pv C e ρ s=.ok (.int n) s') (hn:n<1000000):pvw C (.rng1 e) ρ s=.ok ((List.range n).map Ze) s':=by
 rw[pvw,h,Zc];show (if small (n:Int)=true then PR.ok (Yv 0 (n:Int).toNat) s' else .no)=_
 rw[Ph (Xf (by omega) (by omega)),Int.toNat_natCast,JX]
theorem jc {α:Type}{t:List Nat}{it:W}{b:List Sm}{L:List α}{e:α->V}(I:List α->Env->Prop) (hw:pvw C it (hide os ρ) s=.ok (L.map e) s) (hI:I L ρ) (ht:(t.any os.contains)=false)
  (h:∀x l ρ,I (x::l) ρ->(os.isEmpty||(e x).flat)=true/\∃ρ1 ρ',Zs t (e x) ρ=some ρ1/\rvs C ms b ρ1 os s=.ok (.nx ρ' os) s/\I l ρ') :
  ∃ρ',I [] ρ'/\rv C ms (.forr t it b) ρ os s=.ok (.nx ρ' os) s:=by
 rw[rv,hw,Zc];clear hw
 induction L generalizing ρ with
 |nil=>exact⟨ρ,hI,rfl⟩
 |cons x L ih=>
  obtain⟨f,ρ1,ρ',b1,b2,b3⟩:=h x L ρ hI;obtain⟨ρ2,c1,c2⟩:=ih b3;refine⟨ρ2,c1,?_⟩;rw[PL,Vk,Pi (by rw[ht];simp),Ph f,b1,ZV,Zc,b2,Zc]
  exact c2
theorem QZ {σ α:Type}{t:List Nat}{it:W}{b:List Sm}{L:List α}{e:α->V}{step:σ->α->σ}{ρ:σ->Option V->Env}{st:σ}{o:Option V}(I:List α->σ->Prop) (hw:pvw C it (hide os (ρ st o)) s=.ok (L.map e) s) (hI:I L st) (ht:(t.any os.contains)=false)
  (h:∀x l st o,I (x::l) st->I l (step st x)/\(os.isEmpty||(e x).flat)=true/\∃ρ1 o',Zs t (e x) (ρ st o)=some ρ1/\rvs C ms b ρ1 os s=.ok (.nx (ρ (step st x) o') os) s) :
  ∃o',I [] (L.foldl step st)/\rv C ms (.forr t it b) (ρ st o) os s=.ok (.nx (ρ (L.foldl step st) o') os) s:=by
 rw[rv,hw,Zc];clear hw
 induction L generalizing st o with
 |nil=>exact⟨o,hI,rfl⟩
 |cons x L ih=>
  obtain⟨a,f,ρ1,o',b1,b2⟩:=h x L st o hI;obtain⟨o2,c1,c2⟩:=ih (st:=step st x) (o:=o') a;refine⟨o2,c1,?_⟩;rw[PL,Vk,Pi (by rw[ht];simp),Ph f,b1,ZV,Zc,b2,Zc]
  exact c2
end
theorem pvF:(∀a,fresh (.lst a)=true)/\(∀a b,fresh (.bin .mul (.lst a) b)=true)/\(∀b,Yd (.bl b)=some b)/\(∀i,Yd (.int i)=some (decide (i≠0)))/\(∀xs,Yd (.tup xs)=some (!xs.isEmpty))/\(∀xs,Yd (.lst xs)=some (!xs.isEmpty))/\(Yd .non=some false)/\(∀xs i,ixV (.tup xs) (.int i)=at' xs i)/\(∀xs i,ixV (.lst xs) (.int i)=at' xs i)/\(∀xs,Z5 (.tup xs)=some xs)/\(∀xs,Z5 (.lst xs)=some xs)/\(∀x,U1 .len [x]=(Z5 x).map λxs=>.int xs.length)/\(∀x,U1 .tuple [x]=(Z5 x).map .tup)/\(∀x,U1 .list [x]=(Z5 x).map .lst)/\(∀xs,U1 .all [.lst xs]=(ZW xs).map λbs=>.bl (bs.all id))/\(∀a b,U1 .max2 [.int a,.int b]=some (.int (if b>a then b else a)))/\(∀a b,U1 .min2 [.int a,.int b]=some (.int (if b<a then b else a)))/\(∀a,U1 .toInt [.int a]=some (.int a))/\(∀a,U1 .toInt [.bl a]=some (.int (b2i a)))/\(∀xs,U1 .sortedR [.lst xs]=(YK xs).bind λrs=>if ZZ rs=true then some (.lst ((ZG rs).reverse.map Zd)) else none)/\(∀a b s,VS .add (.int a) (.int b) s=.ok (.int (a+b)) s)/\(∀a b s,VS .sub (.int a) (.int b) s=.ok (.int (a-b)) s)/\(∀a b s,VS .mul (.int a) (.int b) s=if (fits a&&fits b)=true then .ok (.int (a*b)) s else .no)/\(∀a b s,VS .mod (.int a) (.int b) s=if 0<b then .ok (.int (a%b)) s else .no)/\(∀a b s,VS .add (.tup a) (.tup b) s=if a.length+b.length<=lim then .ok (.tup (a++b)) s else .no)/\(∀a b s,VS .mul (.tup a) (.int b) s=if 0<=b/\b<1000/\a.length<=1000 then .ok (.tup (List.replicate b.toNat a).flatten) s else .no)/\(∀a b s,VS .mul (.lst a) (.int b) s=if 0<=b/\b<1000/\a.length<=1000 then .ok (.lst (List.replicate b.toNat a).flatten) s else .no)/\(∀a b s,VS .add (.lst a) (.lst b) s=if a.length+b.length<=lim then .ok (.lst (a++b)) s else .no)/\(∀x y,Wg .eq x y=(eqV Zk x y).map .bl)/\(∀x y,Wg .ne x y=(eqV Zk x y).map λb=>.bl !b)/\(∀a b,Wg .lt (.int a) (.int b)=some (.bl (decide (a<b))))/\(∀a b,Wg .gt (.int a) (.int b)=some (.bl (decide (b<a))))/\(∀a b,Wg .le (.int a) (.int b)=some (.bl (decide (a<=b))))/\(∀a b,Wg .ge (.int a) (.int b)=some (.bl (decide (b<=a))))/\(∀x,Wg .is x .non=some (.bl (Xh x)))/\(∀x,Wg .isn x .non=some (.bl !(Xh x)))/\(∀a b,Wg .is (.bl a) (.bl b)=some (.bl (decide (a=b))))/\(∀a b,Wg .isn (.bl a) (.bl b)=some (.bl (decide (a≠b))))/\(∀x y,Wg .inn x y=(XZ x y).map .bl)/\(∀x y,Wg .nin x y=(XZ x y).map λb=>.bl !b)/\(Xh .non=true)/\(∀b,Xh (.bl b)=false)/\(∀b,Xh (.int b)=false)/\(∀b,Xh (.tup b)=false)/\(∀b,Xh (.lst b)=false)/\(ofD .non=some .non)/\(∀b,ofD (.bl b)=some (.bl b))/\(∀b,ofD (.int b)=some (.int b))/\(∀ρ,YI [] [] ρ=some ρ)/\(∀i t x xs ρ,YI (i::t) (x::xs) ρ=YI t xs (ρ.set i (some x)))/\(∀i x ρ,Zs [i] x ρ=some (ρ.set i (some x)))/\(∀i j t xs ρ,Zs (i::j::t) (.tup xs) ρ=YI (i::j::t) xs ρ)/\(∀i j t xs ρ,Zs (i::j::t) (.lst xs) ρ=YI (i::j::t) xs ρ)/\(∀k a b,eqV (k+1) (.int a) (.int b)=some (decide (a=b)))/\(∀k a b,eqV (k+1) (.bl a) (.bl b)=some (decide (a=b)))/\(∀k a b,eqV (k+1) (.tup a) (.tup b)=Ws (eqV k) a b)/\(∀k a b,eqV (k+1) (.lst a) (.lst b)=if a.length=b.length then Ws (eqV k) a b else some false):=
 ⟨λ_=>rfl,λ_ _=>rfl,λ_=>rfl,λ_=>rfl,λ_=>rfl,λ_=>rfl,rfl,λ_ _=>rfl,λ_ _=>rfl,λ_=>rfl,λ_=>rfl,λ_=>rfl,λ_=>rfl,λ_=>rfl,λ_=>rfl,λ_ _=>rfl,λ_ _=>rfl,λ_=>rfl,λ_=>rfl,λ_=>rfl,λ_ _ _=>rfl,λ_ _ _=>rfl,λ_ _ _=>rfl,λ_ _ _=>rfl,λ_ _ _=>rfl,λ_ _ _=>rfl,λ_ _ _=>rfl,λ_ _ _=>rfl,λ_ _=>rfl,λ_ _=>rfl,λ_ _=>rfl,λ_ _=>rfl,λ_ _=>rfl,λ_ _=>rfl,λ_=>rfl,λ_=>rfl,λ_ _=>rfl,λ_ _=>rfl,λ_ _=>rfl,λ_ _=>rfl,rfl,λ_=>rfl,λ_=>rfl,λ_=>rfl,λ_=>rfl,rfl,λ_=>rfl,λ_=>rfl,λ_=>rfl,λ_ _ _ _ _=>rfl,λ_ _ _=>rfl,λ_ _ _ _ _=>rfl,λ_ _ _ _ _=>rfl,λ_ _ _=>rfl,λ_ _ _=>rfl,λ_ _ _=>rfl,λ_ _ _=>rfl⟩
def pvE:=And.intro (And.intro (And.intro (And.intro (And.intro (And.intro pvF @Zc) (And.intro @ZV @Vj.eq_1)) (And.intro (And.intro @Xw.eq_1 @hide.eq_1) (And.intro @Z8.eq_1 @Option.join.eq_1.{0}))) (And.intro (And.intro (And.intro @lim.eq_1 @rvs.eq_1) (And.intro @rvs.eq_2 @rv.eq_1)) (And.intro (And.intro @rv.eq_2 @rv.eq_3) (And.intro @rv.eq_4 @rv.eq_5)))) (And.intro (And.intro (And.intro (And.intro @rv.eq_6 @rv.eq_7) (And.intro @rv.eq_8 @rv.eq_9)) (And.intro (And.intro @rv.eq_10 @rv.eq_11) (And.intro @rv.eq_12 @rv.eq_13))) (And.intro (And.intro (And.intro @rv.eq_14 @rv.eq_15) (And.intro @rv.eq_16 @rv.eq_17)) (And.intro (And.intro @rv.eq_18 @pvA.eq_1) (And.intro @pvA.eq_2 (And.intro @pvs.eq_1 @pvs.eq_2)))))) (And.intro (And.intro (And.intro (And.intro (And.intro @pvo.eq_1 @pvo.eq_2) (And.intro @pvt.eq_1 @pvt.eq_2)) (And.intro (And.intro @pvw.eq_1 @pvw.eq_2) (And.intro @pvw.eq_3 @pvw.eq_4))) (And.intro (And.intro (And.intro @pvw.eq_5 @pvw.eq_6) (And.intro @pv.eq_1 @pv.eq_2)) (And.intro (And.intro @pv.eq_3 @pv.eq_4) (And.intro @pv.eq_5 @pv.eq_6)))) (And.intro (And.intro (And.intro (And.intro @pv.eq_7 @pv.eq_8) (And.intro @pv.eq_9 @pv.eq_10)) (And.intro (And.intro @pv.eq_11 @pv.eq_12) (And.intro @pv.eq_13 @pv.eq_14))) (And.intro (And.intro (And.intro @pv.eq_15 @pv.eq_16) (And.intro @pv.eq_17 @pv.eq_18)) (And.intro (And.intro @pv.eq_19 @pv.eq_20) (And.intro @pv.eq_21 (And.intro @pv.eq_22 @pv.eq_23))))))
end Pv
set_option maxRecDepth 10000
namespace Rw
open La
open Ev (ltI XU ZG)
section
variable {p n:Nat}[Base p]
theorem pP {P:List Row}(hP:Part p n P):Part p n (Zp p n P):=(Z6 hP).1
theorem Y9 {P:List Row}(hP:Part p n P):Zp p n (Zp p n P)=P:=by
 refine xF (pP (pP hP)).row hP.row ?_;rw[(Z6 (pP hP)).2,(Z6 hP).2,wG fld hP.pn]
theorem GK {P:List Row}(hP:Part p n P):(Zp p n P).length+P.length=n:=by
 have:=X8 (inv:=VR p) fld hP.pn;rw[<-(Z6 hP).2,J0,J0] at this;exact this
theorem xG {P:List Row}(hP:Part p n P) (u:Vec (Fin p)):Mm p (Zp p n P) u↔Supp n u/\∀v,Mm p P v->dot n v u=0:=by
 unfold Mm;rw[(Z6 hP).2];exact Vw fld hP.pn u
theorem wM {P Q:List Row}(hP:Part p n P) (hQ:Part p n Q):P.all (WM p Q)=(Zp p n Q).all (WM p (Zp p n P)):=by
 rw[P2,Uv hP hQ,Uv (pP hQ) (pP hP)];have key:∀{A B:List Row},Part p n A->Part p n B->(∀u,Mm p A u->Mm p B u)->∀u,Mm p (Zp p n B) u->Mm p (Zp p n A) u:=λhA hB h u hu=>by
  rw[xG hB] at hu;rw[xG hA];exact⟨hu.1,λv hv=>hu.2 v (h v hv)⟩
 refine⟨key hP hQ,λh=>?_⟩
 have:=key (pP hQ) (pP hP) h;rw[Y9 hP,Y9 hQ] at this;exact this
theorem zA {P Q:List Row}(hP:Part p n P) (hQ:Part p n Q):W5 p n (Zp p n P) (Zp p n Q)=Zp p n (XE p P Q):=by
 unfold W5;rw[Y9 hP,Y9 hQ]
theorem xV {P Q:List Row}(hP:Part p n P) (hQ:Part p n Q):Zp p n (W5 p n P Q)=XE p (Zp p n P) (Zp p n Q):=by
 unfold W5;rw[Y9 (pJ (pP hP) (pP hQ))]
noncomputable def XD (r q:Row):Int:=(List.zipWith (· * ·) r q).sum
theorem GM {F:Type}[Lean.Grind.CommRing F] (g:Nat->F):∀L:List Nat,sl (L.map (· + 1)) g=sl L λk=>g (k+1)
 |[]=>rfl
 |k::L=>by
  show g (k+1)+sl (L.map (· + 1)) g=g (k+1)+sl L λk=>g (k+1)
  rw[GM g L]
theorem uq:∀{m:Nat}{r q:Row},r.length=m->q.length=m->ph p (XD r q)=sl (List.range m) λj=>ph p (gt r j)*ph p (gt q j)
 |0,[],[],_,_=>X6
 |m+1,a::r,b::q,hr,hq=>by
  have ih:=uq (m:=m) (r:=r) (q:=q) (by simpa using hr) (by simpa using hq)
  rw[List.range_succ_eq_map];show ph p (a*b+XD r q)=ph p (gt (a::r) 0)*ph p (gt (b::q) 0)+sl ((List.range m).map Nat.succ) _;rw[zX,yB,ih];have e:=GM (λj=>ph p (gt (a::r) j)*ph p (gt (b::q) j)) (List.range m)
  have e':sl ((List.range m).map Nat.succ) (λj=>ph p (gt (a::r) j)*ph p (gt (b::q) j))=sl (List.range m) λj=>ph p (gt r j)*ph p (gt q j):=e
  rw[e'];rfl
theorem G8 {r q:Row}(hr:Zm p n r) (hq:Zm p n q):dot n (toV p r) (toV p q)=0↔XD r q%p=0:=by
 have e:dot n (toV p r) (toV p q)=ph p (XD r q):=(uq hr.1 hq.1).symm;rw[e];have h0:=NW (XD r q) (show (p:Int)≠0 by have:=ppos (p:=p);omega)
 have h1:=NI (XD r q) (ppos (p:=p));rw[<-Jx];exact Zae ⟨h0,h1⟩
noncomputable def ZU (p:Nat) (P:List Row):Bool:=P.all λr=>P.all λq=>decide (XD r q%p=0)
theorem QB {P:List Row}(hP:Part p n P):ZU p P=P.all (WM p (Zp p n P)):=by
 rw[P2];unfold ZU;simp only[PP,decide_eq_true_eq];have key:∀r∈P,(∀q∈P,XD r q%p=0)↔WM p (Zp p n P) r=true:=λr hr=>by
  have hr':=hP.row r hr;rw[Uh (pP hP) hr'];unfold Mm;rw[(Z6 hP).2,Gy fld hP.pn]
  constructor
  ·intro h
   refine⟨Ug hr',λa ha=>?_⟩
   obtain⟨q,hq,rfl⟩:=PC.mp ha;rw[XS];exact (G8 hr' (hP.row q hq)).mpr (h q hq)
  ·intro h q hq
   have:=h.2 _ (Yh hq);rw[XS] at this;exact (G8 hr' (hP.row q hq)).mp this
 exact⟨λh r hr=>(key r hr).mp (h r hr),λh r hr=>(key r hr).mpr (h r hr)⟩
theorem Qu:∀l:List Row,(ZG l).length=l.length
 |[]=>rfl
 |x::r=>by
  show (XU x (ZG r)).length=_;have:∀l:List Row,(XU x l).length=l.length+1:=λl=>by
   induction l with
   |nil=>rfl
   |cons y l ih=>
    unfold XU;split
    ·rfl
    ·rw[PB,ih];rfl
  rw[this,Qu r];rfl
theorem JS (P:List Row) (r:Row):P.length<=(WT p P r).length:=by
 unfold WT;split
 ·exact Pl _
 ·rw[List.length_reverse,Qu,PM,Pk];simp
theorem Gb:∀(rs P:List Row),P.length<=(XE p P rs).length
 |[],P=>Pl _
 |r::rs,P=>P0 (JS P r) (Gb rs (WT p P r))
theorem ja {P Q:List Row}(hP:Part p n P) (hQ:Part p n Q) (h:P.all (WM p Q)=true):P.length<=Q.length:=by
 have e:=vx hP hQ ((Uv hP hQ).mp h);have:=Gb (p:=p) Q P;rw[e] at this;exact this
theorem wE {P:List Row}(hP:Part p n P) (h:ZU p P=true):2*P.length<=n:=by
 rw[QB hP] at h;have:=ja hP (pP hP) h;have:=GK hP;omega
noncomputable def XL (p:Nat) (rs:List Row):List Row:=rs.flatMap λr=>(List.range p).map λ(k:Nat)=>r++[(k:Int)]
noncomputable def ZQ (p n h:Nat):List Row:=(List.range (n-(h+1))).foldl (λrs _=>XL p rs) [List.replicate h 0++[1]]
noncomputable def Z1 (P:List Row):Nat:=match P.getLast? with
 |some r=>(hdI r).getD 0+1
 |none=>0
noncomputable def Wt (n f:Nat):List Nat:=((List.range (n-f)).map (f + ·)).reverse
noncomputable def z9 (p n:Nat) (P:List Row) (st:List Row) (h:Nat):List Row:=if (P.all λr=>decide (gt r h=0))=true then st++ZQ p n h else st
noncomputable def Qh (p n:Nat) (P:List Row):List Row:=(Wt n (Z1 P)).foldl (z9 p n P) []
noncomputable def Gq (p n:Nat) (Ps:List (List Row)):List (List Row):=Ps.flatMap λP=>(Qh p n P).map λr=>P++[r]
noncomputable def ZM (p n:Nat):Nat->List (List Row)
 |0=>[[]]
 |k+1=>Gq p n (ZM p n k)
def jn (p h m:Nat) (r:Row):Prop:=∃t:Row,r=List.replicate h 0++1::t/\t.length=m/\∀a∈t,0<=a/\a<(p:Int)
theorem qy {h m:Nat}{rs:List Row}(H:∀r∈rs,jn p h m r):∀r∈XL p rs,jn p h (m+1) r:=λr hr=>by
 obtain⟨q,hq,hr⟩:=List.mem_flatMap.mp hr;obtain⟨k,hk,rfl⟩:=PC.mp hr;obtain⟨t,rfl,ht,hb⟩:=H q hq;have hk':=PU.mp hk;refine⟨t++[(k:Int)],by simp,by simp[ht],λa ha=>?_⟩
 rcases Nc.mp ha with z | z
 ·exact hb a z
 ·rw[P4.mp z];exact⟨by omega,by omega⟩
theorem J3 (rs:List Row):(XL p rs).length=rs.length*p:=by
 unfold XL;rw[List.length_flatMap];simp only[Pk,PY];rw[List.map_const',List.sum_replicate_nat]
theorem GE {h:Nat}:∀(L:List Nat) {m:Nat}{rs:List Row},(∀r∈rs,jn p h m r)->(∀r∈L.foldl (λrs _=>XL p rs) rs,jn p h (m+L.length) r)/\(L.foldl (λrs _=>XL p rs) rs).length=rs.length*p^L.length
 |[],m,rs,H=>⟨H,by simp⟩
 |_::L,m,rs,H=>by
  obtain⟨a,b⟩:=GE L (qy H);refine⟨λr hr=>?_,?_⟩
  ·have:=a r hr
   rw[show m+1+L.length=m+(L.length+1) by omega] at this
   exact this
  ·rw[List.foldl_cons,b,J3,PB,Nat.pow_succ,Nat.mul_assoc,Nat.mul_comm p]
theorem Qq {h:Nat}(hh:h<n):(∀r∈ZQ p n h,Zm p n r/\gt r h=1/\∀i,i<h->gt r i=0)/\(ZQ p n h).length=p^(n-(h+1)):=by
 have hone:(1:Int)<p:=by rcases (inferInstance:Base p).b with e | e | e <;> subst e <;> decide
 obtain⟨a,b⟩:=GE (p:=p) (h:=h) (List.range (n-(h+1))) (m:=0) (rs:=[List.replicate h 0++[1]]) λr hr=>⟨[],by rw[P4.mp hr],rfl,λa ha=>by cases ha⟩
 refine⟨λr hr=>?_,by unfold ZQ;rw[b];simp⟩
 obtain⟨t,rfl,ht,hb⟩:=a r hr;rw[PY] at ht;refine⟨⟨by simp[ht];omega,λx hx=>?_⟩,?_,λi hi=>?_⟩
 ·rcases Nc.mp hx with z | z
  ·rw[(List.mem_replicate.mp z).2];exact⟨by omega,by omega⟩
  ·rcases Po.mp z with rfl | z
   ·exact⟨by omega,hone⟩
   ·exact hb x z
 ·unfold gt;rw[Pp,PN (by simp)];simp
 ·unfold gt;rw[Pp,Py (by simpa using hi),Nd];simp[hi]
theorem J1 {P:List Row}{r:Row}:∀(L:List Nat) (st:List Row),r∈L.foldl (z9 p n P) st->r∈st\/∃h∈L,(∀q∈P,gt q h=0)/\r∈ZQ p n h
 |[],st,hr=>.inl hr
 |h::L,st,hr=>by
  rcases J1 L (z9 p n P st h) hr with z | ⟨k,hk,z⟩
  ·unfold z9 at z
   split at z
   ·rename_i c
    rcases Nc.mp z with z | z
    ·exact .inl z
    ·exact .inr ⟨h,Pe ..,λq hq=>Pw (PP.mp c q hq),z⟩
   ·exact .inl z
  ·exact .inr ⟨k,Pd _ hk,z⟩
theorem Uw {f h:Nat}:h∈Wt n f↔f<=h/\h<n:=by
 unfold Wt;rw[List.mem_reverse,PC]
 constructor
 ·rintro ⟨k,hk,rfl⟩
  have:=PU.mp hk;omega
 ·rintro ⟨a,b⟩
  exact⟨h-f,PU.mpr (by omega),by omega⟩
theorem wS {P:List Row}{r:Row}(hr:r∈Qh p n P):∃h,Z1 P<=h/\h<n/\(∀q∈P,gt q h=0)/\r∈ZQ p n h:=by
 rcases J1 _ _ hr with z | ⟨h,hh,a,b⟩
 ·cases z
 ·obtain⟨x,y⟩:=Uw.mp hh
  exact⟨h,x,y,a,b⟩
theorem uV {P:List Row}(hP:Part p n P) {r:Row}(hr:r∈P):(hdI r).getD 0<Z1 P:=by
 have hi:=hP.pn.rf.inc;unfold toP at hi;rw[List.pairwise_map] at hi;unfold Z1;cases e:P.getLast? with
 |none=>rw[List.getLast?_eq_none_iff] at e;rw[e] at hr;cases hr
 |some q=>
  obtain⟨P',rfl⟩:=List.getLast?_eq_some_iff.mp e;show _<(hdI q).getD 0+1;rcases Nc.mp hr with z | z
  ·have:=(List.pairwise_append.mp hi).2.2 r z q (P4.mpr rfl)
   simp only at this;omega
  ·rw[P4.mp z];omega
theorem wZ {o l:Row}{j:Nat}(ho:Zm p n o) (hl:Zm p n l) (h:gt o j=0):clr p o l j=o:=by
 refine ux ?_ λk=>?_
 ·exact (Yu (k:=-(gt o j)) ho hl).1.trans ho.1.symm
 ·unfold clr
  rw[Jf ho hl,h];have:=YV ppos ho k;simp only[Int.neg_zero,Int.zero_mul,Int.add_zero];exact Int.emod_eq_of_lt this.1 this.2
theorem qO {P:List Row}{r:Row}(hP:Part p n P) (hr:r∈Qh p n P):Part p n (P++[r]):=by
 obtain⟨h,h1,h2,h3,h4⟩:=wS hr;obtain⟨hrow,hone,hzero⟩:=(Qq h2).1 r h4;have:=QR hP hrow h2 hone hzero λq hq=>PJ (uV hP hq) h1
 have e:P.map (λo=>clr p o r h)=P:=by
  conv=>rhs;rw[<-List.map_id P]
  exact NA λo ho=>wZ (hP.row o ho) hrow (h3 o ho)
 rw[e] at this;exact this.1
theorem Xg:∀(k:Nat),∀P∈ZM p n k,Part p n P/\P.length=k
 |0,P,hP=>by rw[P4.mp hP];exact⟨Part.nil,rfl⟩
 |k+1,P,hP=>by
  obtain⟨Q,hQ,hP⟩:=List.mem_flatMap.mp hP;obtain⟨r,hr,rfl⟩:=PC.mp hP;obtain⟨a,b⟩:=Xg k Q hQ;exact⟨qO a hr,by simp[b]⟩
end
end Rw
namespace Rw
open Ev (ltP Yc Z3)
noncomputable def xP (p n k:Nat):Bool:=Z3 ((ZM p n k).map (Zp p n))&&decide (Yc ltP ((ZM p n k).map (Zp p n))=ZM p n (n-k))
noncomputable def ZbK (p n:Nat):Bool:=(List.range (n+1)).all λk=>decide ((ZM p n k).length<=1395)
noncomputable def GG:List (Nat×Nat):=[(2,1),(2,2),(2,3),(2,4),(3,1),(3,2),(3,3),(5,1),(5,2)]
noncomputable def Vt:List (Nat×Nat):=[(2,5),(2,6),(3,4),(5,3)]
theorem v4:(GG.all λs=>(List.range (s.2+1)).all λk=>xP s.1 s.2 k)=true:=by decide +kernel
theorem u7:(Vt.all λs=>xP s.1 s.2 0)=true:=by decide +kernel
theorem qi:((GG++Vt).all λs=>ZbK s.1 s.2)=true:=by decide +kernel
end Rw
namespace Lw
def evE:=And.intro (And.intro (And.intro (And.intro @Ev.ev.eq_1 @Ev.ev.eq_2) (And.intro @Ev.ev.eq_3 (And.intro @Ev.ev.eq_4 @Ev.ev.eq_5))) (And.intro (And.intro @Ev.ev.eq_6 (And.intro @Ev.ev.eq_7 @Ev.ev.eq_8)) (And.intro @Ev.ev.eq_9 (And.intro @Ev.ev.eq_10 @Ev.ev.eq_11)))) (And.intro (And.intro (And.intro @Ev.ev.eq_12 (And.intro @Ev.ev.eq_13 @Ev.ev.eq_14)) (And.intro @Ev.ev.eq_15 (And.intro @Ev.ev.eq_16 @Ev.ev.eq_17))) (And.intro (And.intro @Ev.ev.eq_18 (And.intro @Ev.ev.eq_19 @Ev.ev.eq_20)) (And.intro @Ev.ev.eq_21 (And.intro @Ev.ev.eq_22 @Ev.ev.eq_23))))
open Ev Pv
section
theorem evF:(∀x S,bltin .len [x] S=(ob (YS S x) S).bind λxs S=>.ok (.int xs.length) S)/\(∀a b S,bltin .max2 [.int a,.int b] S=.ok (.int (if b>a then b else a)) S)/\(∀a b S,bltin .min2 [.int a,.int b] S=.ok (.int (if b<a then b else a)) S)/\(∀a b S,cmpop .lt (.int a) (.int b) S=.ok (.bl (decide (a<b))) S)/\(∀a b S,cmpop .ge (.int a) (.int b) S=.ok (.bl (decide (b<=a))) S)/\(∀a b S,binop .sub (.int a) (.int b) S=.ok (.int (a-b)) S)/\(∀a b S,binop .mod (.int a) (.int b) S=if 0<b then .ok (.int (a%b)) S else .no)/\(∀a b S,binop .pow (.int a) (.int b) S=if 0<=b/\b<=1000/\a.natAbs<2^64 then .ok (.int (a^b.toNat)) S else .no)/\(∀S b,truth S (.bl b)=some b)/\(∀n S,YS S (.loc n)=Z2 S n)/\(∀i x S σ,assign [i] x S σ=some (σ.set i (some x))):=
 ⟨λ_ _=>rfl,λ_ _ _=>rfl,λ_ _ _=>rfl,λ_ _ _=>rfl,λ_ _ _=>rfl,λ_ _ _=>rfl,λ_ _ _=>rfl,λ_ _ _=>rfl,λ_ _=>rfl,λ_ _=>rfl,λ_ _ _ _=>rfl⟩
theorem jx {S:Store}{n:Nat}{i:Int}{xs:List D}(h:Z2 S n=some xs):getix (.loc n) (.int i) S=ob (at' xs i) S:=by
 show (match Z2 S n with | some xs=>ob (at' xs i) S | none=>.no)=_
 rw[h]
theorem qu {C:Calls}{es:List E}{σ:Lc}{S S1:Store}{xs:List D}{f:Nat}(h1:evs C es σ S=.ok xs S1):ev C (.call f es) σ S=C f xs S1:=by
 rw[ev,h1];rfl
theorem wT {C:Calls}{e:E}{ss:List Sm}{σ:Lc}{S S':Store}{x:D}{k:Nat}(h:ev C e σ S=.ok x S'):runs C (.asg [k] e::ss) σ S=runs C ss (σ.set k (some x)) S':=by
 rw[runs,run,h];rfl
theorem vA {C:Calls}{e:E}{ss:List Sm}{σ:Lc}{S S':Store}{x:D}(h:ev C e σ S=.ok x S'):runs C (.ret e::ss) σ S=.ok (.ret x) S':=by
 rw[runs,run,h];rfl
theorem qz {C:Calls}{s:Sm}{ss:List Sm}{σ σ':Lc}{S S':Store}(h:run C s σ S=.ok (.nx σ') S'):runs C (s::ss) σ S=runs C ss σ' S':=by rw[runs,h];rfl
theorem yT {S:Store}{o:Ob}:(S++[o])[S.length]? = some o:=by rw[PN (Pl _),Nat.sub_self];rfl
noncomputable def Vx:Fn:=⟨2,2,[.ite (.cmp .lt (.v 1) (.blt .len [(.v 0)])) [.ret (.ix (.v 0) (.v 1))] [],.ret (.c (.int 0))]⟩
noncomputable def WL (c:Nat):Fn:=⟨2,3,[.asg [2] (.call c [(.v 0),(.v 1)]),.ite (.cmp .ge (.v 2) (.bin .pow (.c (.int 10)) (.c (.int 18)))) [.ret (.lst [(.bin .sub (.v 2) (.bin .pow (.c (.int 10)) (.c (.int 18)))),(.c (.bl true))])] [],.ret (.lst [(.bin .mod (.v 2) (.c (.int 2147483647))),(.c (.bl false))])]⟩
noncomputable def lawFn (nn:Nat) (M:Int) (st:Nat) (B:List Sm):Fn:=⟨1,nn,[.forr [1] (.rng1 (.blt .max2 [(.c (.int 1)),(.blt .min2 [(.blt .len [(.v 0)]),(.c (.int M))])])) (.asg [2] (.call st [(.v 0),(.v 1)])::B),.ret (.c (.bl true))]⟩
variable {F:List Fn}{tk ca st L nn:Nat}{M:Int}{B:List Sm}
theorem jh (hC:F[ca]? = some Vx) {S:Store}{ns:List Int}{k:Int}(d:Nat) (hs:S[0]? = some (.scr ns)) (k0:0<=k):∃c,calls F (d+1) ca [.loc 0,.int k] S=.ok (.int c) S:=by
 have h1:Z2 S 0=some (ns.map .int):=by unfold Z2;rw[hs]
 by_cases c:k<ns.length
 ·have hk:k.toNat<ns.length:=by omega
  refine⟨ns[k.toNat],?_⟩;simp[Ev.calls,Ev.runs,Ev.run,evE,Ev.evs,Ev.evo,Ev.evt,Ev.tst,Ev.R.bind,Ev.ob,Ev.start,Ev.lim,hC,Vx,evF,h1,c,jx h1,at',ixN,k0,hk]
 ·refine⟨0,?_⟩
  simp[Ev.calls,Ev.runs,Ev.run,evE,Ev.evs,Ev.evo,Ev.evt,Ev.tst,Ev.R.bind,Ev.ob,Ev.start,Ev.lim,hC,Vx,evF,h1,c]
theorem vg (hC:F[ca]? = some Vx) (hS:F[st]? = some (WL ca)) {S:Store}{ns:List Int}{k:Int}(d:Nat) (hs:S[0]? = some (.scr ns)) (k0:0<=k):∃o s,Dw S.length (S++[o]) s/\calls F (d+2) st [.loc 0,.int k] S=.ok (.loc S.length) (S++[o]):=by
 obtain⟨c,e⟩:=jh hC d hs k0;rw[show d+2=(d+1)+1 from rfl,calls]
 generalize calls F (d+1)=C at e ⊢;by_cases h:10^18<=c
 ·refine⟨.lst [.int (c-10^18),.bl true],(c-10^18,true),⟨yT,by show 0<=c-10^18;omega,by simp⟩,?_⟩
  have h':(1000000000000000000:Int)<=c:=by simpa using h
  simp[Ev.calls,Ev.runs,Ev.run,evE,Ev.evs,Ev.evo,Ev.evt,Ev.tst,Ev.R.bind,Ev.ob,Ev.start,Ev.lim,hS,WL,e,evF,h']
 ·refine⟨.lst [.int (c%2147483647),.bl false],(c%2147483647,false),⟨yT,by show 0<=c%2147483647;omega,λ_=>by show c%2147483647<_;omega⟩,?_⟩
  have h':¬(1000000000000000000:Int)<=c:=by simpa using h
  simp[Ev.calls,Ev.runs,Ev.run,evE,Ev.evs,Ev.evo,Ev.evt,Ev.tst,Ev.R.bind,Ev.ob,Ev.start,Ev.lim,hS,WL,e,evF,h']
theorem J9 {w:Walk}{body:D->Lc->Store->R Fl}(P:Lc->Store->Prop) (hst:∀σ S,P σ S->w.still S=true):∀(xs:List D),(∀x∈xs,∀σ S,P σ S->∃σ' S',P σ' S'/\body x σ S=.ok (.nx σ') S')->∀σ S,P σ S->∃σ' S',P σ' S'/\WX w body xs σ S=.ok (.nx σ') S'
 |[],_,σ,S,h=>⟨σ,S,h,by rw[WX,Ph (hst σ S h)]⟩
 |x::xs,hb,σ,S,h=>by
  obtain⟨σ1,S1,h1,e1⟩:=hb x (Pe ..) σ S h;obtain⟨σ2,S2,h2,e2⟩:=J9 P hst xs (λy hy=>hb y (Pd _ hy)) σ1 S1 h1
  refine⟨σ2,S2,h2,?_⟩;rw[WX,Ph (hst σ S h),e1];exact e2
theorem wf {lo:Int}{k:Nat}{x:D}(h:x∈Zr lo k):∃i,x=.int i/\lo<=i:=by
 unfold Zr at h;obtain⟨j,_,e⟩:=PC.mp h;exact⟨_,e.symm,by omega⟩
def Kept (σ σ':Lc):Prop:=σ'[0]? = σ[0]?/\σ'.length=σ.length
theorem Kept.trans {σ σ1 σ2:Lc}(h:Kept σ σ1) (h2:Kept σ1 σ2):Kept σ σ2:=⟨h2.1.trans h.1,h2.2.trans h.2⟩
theorem Kept.set {σ:Lc}{i:Nat}{x:Option D}(h:i≠0):Kept σ (σ.set i x):=⟨PH h,PV ..⟩
theorem Yo:∀{t:List Nat}{xs:List D}{σ σ':Lc},fill t xs σ=some σ'->¬0∈t->Kept σ σ'
 |[],[],σ,σ',h,_=>by cases h;exact⟨rfl,rfl⟩
 |i::t,x::xs,σ,σ',h,h0=>(Kept.set (λz=>h0 (by rw[z];exact Pe ..))).trans (Yo (t:=t) (xs:=xs) h λz=>h0 (Pd _ z))
 |[],_::_,_,_,h,_=>by cases h
 |_::_,[],_,_,h,_=>by cases h
theorem vp {C:Calls}{m:Sm}{l:List Sm}{σ σ':Lc}{S S':Store}(h:runs C (m::l) σ S=.ok (.nx σ') S'):∃σ1 S1,run C m σ S=.ok (.nx σ1) S1/\runs C l σ1 S1=.ok (.nx σ') S':=by
 rw[runs] at h;cases q:run C m σ S with
 |no=>rw[q] at h;cases h
 |ex c S1=>rw[q] at h;cases h
 |ok f S1=>
  rw[q] at h;cases f with
  |nx σ1=>exact⟨σ1,S1,rfl,h⟩
  |ret v=>cases h
  |brk v=>cases h
  |cnt v=>cases h
theorem uR {C:Calls}{t:List Nat}{e:E}{σ σ':Lc}{S S':Store}(h:run C (.asg t e) σ S=.ok (.nx σ') S') (h0:¬0∈t):Kept σ σ':=by
 rw[run] at h;cases q:ev C e σ S with
 |no=>rw[q] at h;cases h
 |ex c S1=>rw[q] at h;cases h
 |ok x S1=>
  rw[q] at h;replace h:((ob (assign t x S1 σ) S1).bind λσ S=>R.ok (Fl.nx σ) S)=.ok (.nx σ') S':=h
  cases q2:assign t x S1 σ with
  |none=>rw[q2] at h;cases h
  |some σ1=>
   rw[q2] at h;cases h;unfold assign at q2;split at q2
   ·cases q2
    exact Kept.set λz=>h0 (by simp[z])
   ·split at q2
    ·exact Yo q2 h0
    ·split at q2
     ·exact Yo q2 h0
     ·cases q2
    ·cases q2
mutual
noncomputable def kp:Sm->Bool
 |.asg t _=>!t.contains 0
 |.par t _=>!t.contains 0
 |.ite _ a b=>kps a&&kps b
 |.ret _=>true
 |.ex _=>true
 |_=>false
noncomputable def kps:List Sm->Bool
 |[]=>true
 |m::l=>kp m&&kps l
end
theorem Kept.refl (σ:Lc):Kept σ σ:=⟨rfl,rfl⟩
mutual
theorem ZbP {C:Calls}:∀(m:Sm) {σ σ':Lc}{S S':Store},kp m=true->run C m σ S=.ok (.nx σ') S'->Kept σ σ'
 |.asg t e,σ,σ',S,S',h,r=>uR r (by unfold kp at h;simpa using h)
 |.par t es,σ,σ',S,S',h,r=>by
  unfold kp at h;rw[run] at r;cases q:evs C es σ S with
  |no=>rw[q] at r;cases r
  |ex c S1=>rw[q] at r;cases r
  |ok x S1=>
   rw[q] at r;replace r:((ob (fill t x σ) S1).bind λσ S=>R.ok (Fl.nx σ) S)=.ok (.nx σ') S':=r
   cases q2:fill t x σ with
   |none=>rw[q2] at r;cases r
   |some σ1=>rw[q2] at r;cases r;exact Yo q2 (by simpa using h)
 |.ite t a b,σ,σ',S,S',h,r=>by
  unfold kp at h;obtain⟨h1,h2⟩:=(Pz _ _).mp h;rw[run] at r;cases q:tst C t σ S with
  |no=>rw[q] at r;cases r
  |ex c S1=>rw[q] at r;cases r
  |ok c S1=>
   rw[q] at r;cases c with
   |false=>exact Jq b h2 (show runs C b σ S1=_ from r)
   |true=>exact Jq a h1 (show runs C a σ S1=_ from r)
 |.ret e,σ,σ',S,S',h,r=>by
  rw[run] at r;cases q:ev C e σ S with
  |no=>rw[q] at r;cases r
  |ex c S1=>rw[q] at r;cases r
  |ok x S1=>rw[q] at r;cases r
 |.ex e,σ,σ',S,S',h,r=>by
  rw[run] at r;cases q:ev C e σ S with
  |no=>rw[q] at r;cases r
  |ex c S1=>rw[q] at r;cases r
  |ok x S1=>rw[q] at r;cases r;exact Kept.refl _
 |.aug ..,_,_,_,_,h,_ | .put ..,_,_,_,_,h,_ | .dput ..,_,_,_,_,h,_ | .forr ..,_,_,_,_,h,_ | .whl ..,_,_,_,_,h,_ | .raise ..,_,_,_,_,h,_ | .pas,_,_,_,_,h,_ | .brk,_,_,_,_,h,_ | .cnt,_,_,_,_,h,_=>by unfold kp at h;cases h
theorem Jq {C:Calls}:∀(l:List Sm) {σ σ':Lc}{S S':Store},kps l=true->runs C l σ S=.ok (.nx σ') S'->Kept σ σ'
 |[],σ,σ',S,S',h,r=>by rw[runs] at r;cases r;exact Kept.refl _
 |m::l,σ,σ',S,S',h,r=>by
  unfold kps at h;obtain⟨h1,h2⟩:=(Pz _ _).mp h;obtain⟨σ1,S1,r1,r2⟩:=vp r;exact (ZbP m h1 r1).trans (Jq l h2 r2)
end
def Q0 (m:Nat) (ns:List Int) (σ:Lc) (S:Store):Prop:=∃a1 a2 as,σ=some (.loc 0)::a1::a2::as/\as.length=m/\S[0]? = some (.scr ns)
theorem qH {m d:Nat}(hT:F[tk]? = some takeFn) (hC:F[ca]? = some Vx) (hS:F[st]? = some (WL ca)) (hk:kps B=true)
  (hv:∀(k:Nat) (s:DS),∃ρ' os' s',rvs (ZP F tk (d+2)) [] B (none::some (.int k)::some .drw::List.replicate m none) [] s=.ok (.nx ρ' os') s')
  {ns:List Int} {x:D} {σ:Lc} {S:Store} (hx:∃i,x=.int i/\0<=i) (hq:Q0 m ns σ S):∃σ' S',Q0 m ns σ' S'/\(ob (assign [1] x S σ) S).bind (λσ S=>runs (calls F (d+2)) (.asg [2] (.call st [(.v 0),(.v 1)])::B) σ S)=.ok (.nx σ') S':=by
 obtain⟨i,rfl,i0⟩:=hx;obtain⟨k,rfl⟩:∃k:Nat,i=k:=⟨i.toNat,by omega⟩
 obtain⟨a1,a2,as,rfl,hm,hs⟩:=hq;show ∃σ' S',Q0 m ns σ' S'/\runs (calls F (d+2)) _ (some (.loc 0)::some (.int k)::a2::as) S=.ok (.nx σ') S';obtain⟨o,s,h1,e1⟩:=vg hC hS d hs i0;have n0:S.length≠0:=by have:=Y1 hs;omega
 have s1:(S++[o])[0]? = some (.scr ns):=by rw[Py (Y1 hs)];exact hs
 rw[wT (x:=.loc S.length) (S':=S++[o]) (by rw[qu (xs:=[.loc 0,.int k]) (S1:=S) rfl];exact e1)]
 show ∃σ' S',Q0 m ns σ' S'/\runs (calls F (d+2)) _ (some (.loc 0)::some (.int k)::some (.loc S.length)::as) (S++[o])=.ok (.nx σ') S';obtain⟨ρ',os',s',e2⟩:=hv k s;have hE:EnvS (S++[o]) (· = S.length) S.length (S.length+1) (λ_=>none) (none::some (.int k)::some .drw::List.replicate m none) [] (some (.loc 0)::some (.int k)::some (.loc S.length)::as):={
  xz:=rfl
  xb:=λn h=>by omega
  bs:=by simp
  len:=by simp[hm]
  osW:=λi=>rfl
  inj:=λi j n h=>by cases h
  pl:=λi n h=>by cases h
  own:=λi n h=>by cases h
  val:=λi v h _=>by
   match i,h with
   |0,h=>cases h
   |1,h=>cases h;exact⟨_,rfl,by unfold Rep;rfl⟩
   |2,h=>cases h;exact⟨_,rfl,by unfold Rep;rfl⟩
   |i+3,h=>
    have h:(List.replicate m (none:Option V))[i]? = some (some v):=h;rw[Nd] at h;split at h <;> cases h }
 have hS:=UZ (J2 (F:=F) (tk:=tk) (n0:=S.length) hT (d+2)) [] B hE h1;rw[e2] at hS;obtain⟨g,S',e3,x3,w3,f3⟩:=hS;cases g with
 |nx σ'=>
  refine⟨σ',S',?_,e3⟩;have hl:=Jq B hk e3;have hlen:σ'.length=m+3:=by rw[hl.2];simp[hm]
  replace hl:σ'[0]? = some (some (.loc 0)):=hl.1
  match σ',hlen,hl with
  |b0::b1::b2::bs,hlen,hl=>
   cases hl;exact⟨b1,b2,bs,rfl,by simpa using hlen,x3.keep 0 _ (Ne.symm n0) (λi h=>by cases h) s1⟩
 |ret v=>exact f3.elim
 |brk v=>exact f3.elim
 |cnt v=>exact f3.elim
theorem law_of {m d:Nat}(hT:F[tk]? = some takeFn) (hC:F[ca]? = some Vx) (hS:F[st]? = some (WL ca)) (hL:F[L]? = some (lawFn (m+3) M st B)) (hk:kps B=true) (hM:1<=M/\M<1000)
  (hv:∀(k:Nat) (s:DS),∃ρ' os' s',rvs (ZP F tk (d+2)) [] B (none::some (.int k)::some .drw::List.replicate m none) [] s=.ok (.nx ρ' os') s')
  {ns:List Int} {S:Store} (hs:S[0]? = some (.scr ns)):∃S',calls F (d+3) L [.loc 0] S=.ok (.bl true) S':=by
 have h1:Z2 S 0=some (ns.map .int):=by unfold Z2;rw[hs]
 let k:Int:=if (if M<(ns.length:Int) then M else ns.length)>1 then (if M<(ns.length:Int) then M else ns.length) else 1
 have hk2:small k=true:=Xf (by simp only[k];split <;> split <;> omega) (by simp only[k];split <;> split <;> omega)
 obtain⟨σ1,S1,hq1,e1⟩:=J9 (w:=⟨Zr 0 k.toNat,[]⟩) (Q0 m ns) (λ_ _ _=>rfl) (Zr 0 k.toNat) (λx hx σ S hq=>qH hT hC hS hk hv (wf hx) hq) (some (.loc 0)::none::none::List.replicate m none) S ⟨_,_,_,rfl,by simp,hs⟩
 refine⟨S1,?_⟩;rw[show d+3=(d+2)+1 from rfl,calls,hL]
 show (runs (calls F (d+2)) (.forr [1] (.rng1 (.blt .max2 [(.c (.int 1)),(.blt .min2 [(.blt .len [(.v 0)]),(.c (.int M))])])) _ :: .ret (.c (.bl true))::[]) (some (.loc 0)::List.replicate (m+3-1) none) S).bind _=_;rw[show List.replicate (m+3-1) (none:Option D)=none::none::List.replicate m none from rfl]
 have er:ev (calls F (d+2)) (.blt .max2 [(.c (.int 1)),(.blt .min2 [(.blt .len [(.v 0)]),(.c (.int M))])]) (some (.loc 0)::none::none::List.replicate m none) S=.ok (.int k) S:=by
  simp[Ev.calls,Ev.runs,Ev.run,evE,Ev.evs,Ev.evo,Ev.evt,Ev.tst,Ev.R.bind,Ev.ob,Ev.start,Ev.lim,evF,h1,k]
 have ew:evw (calls F (d+2)) (.rng1 (.blt .max2 [(.c (.int 1)),(.blt .min2 [(.blt .len [(.v 0)]),(.c (.int M))])])) (some (.loc 0)::none::none::List.replicate m none) S=.ok ⟨Zr 0 k.toNat,[]⟩ S:=by
  rw[evw,er];show (if small k=true then _ else _)=_
  rw[Ph hk2]
 rw[qz (σ':=σ1) (S':=S1) (by rw[run,ew];exact e1)]
 rw[vA (x:=.bl true) (S':=S1) (by rw[ev])];rfl
end
end Lw
namespace K43
open Ev
noncomputable def f__law_cell_at:Fn:=⟨2,2,
 [.ite (.cmp .lt (.v 1) (.blt .len [(.v 0)])) [.ret (.ix (.v 0) (.v 1))] [],
  .ret (.c (.int 0))]⟩
noncomputable def f__law_state:Fn:=⟨2,3,
 [.asg [2] (.call 0 [(.v 0),(.v 1)]),
  .ite (.cmp .ge (.v 2) (.bin .pow (.c (.int 10)) (.c (.int 18)))) [.ret (.lst [(.bin .sub (.v 2) (.bin .pow (.c (.int 10)) (.c (.int 18)))),(.c (.bl true))])] [],
  .ret (.lst [(.bin .mod (.v 2) (.c (.int 2147483647))),(.c (.bl false))])]⟩
noncomputable def f__law_take:Fn:=⟨2,4,
 [.ite (.ix (.v 0) (.c (.int 1))) [.asg [2] (.bin .mod (.ix (.v 0) (.c (.int 0))) (.v 1)),
  .put (.v 0) (.c (.int 0)) (.bin .fdiv (.ix (.v 0) (.c (.int 0))) (.v 1)),
  .ret (.v 2)] [],
  .put (.v 0) (.c (.int 0)) (.bin .mod (.bin .add (.bin .mul (.ix (.v 0) (.c (.int 0))) (.c (.int 48271))) (.c (.int 29))) (.c (.int 2147483647))),
  .asg [3] (.bin .mod (.bin .add (.bin .add (.bin .mul (.ix (.v 0) (.c (.int 0))) (.ix (.v 0) (.c (.int 0)))) (.bin .mul (.c (.int 39373)) (.ix (.v 0) (.c (.int 0))))) (.c (.int 7))) (.c (.int 2147483629))),
  .asg [3] (.bin .mod (.bin .add (.bin .mul (.v 3) (.v 3)) (.bin .mul (.c (.int 16807)) (.v 3))) (.c (.int 2147483587))),
  .ret (.bin .mod (.bin .fdiv (.v 3) (.c (.int 8))) (.v 1))]⟩
noncomputable def f__law_space:Fn:=⟨2,3,
 [.asg [2] (.lst [(.tup [(.c (.int 2)),(.tup [(.c (.int 2)),(.c (.int 1))])]),(.tup [(.c (.int 4)),(.tup [(.c (.int 2)),(.c (.int 2))])]),(.tup [(.c (.int 8)),(.tup [(.c (.int 2)),(.c (.int 3))])]),(.tup [(.c (.int 16)),(.tup [(.c (.int 2)),(.c (.int 4))])]),(.tup [(.c (.int 32)),(.tup [(.c (.int 2)),(.c (.int 5))])]),(.tup [(.c (.int 64)),(.tup [(.c (.int 2)),(.c (.int 6))])]),(.tup [(.c (.int 3)),(.tup [(.c (.int 3)),(.c (.int 1))])]),(.tup [(.c (.int 9)),(.tup [(.c (.int 3)),(.c (.int 2))])])]),
  .asg [2] (.bin .add (.v 2) (.lst [(.tup [(.c (.int 27)),(.tup [(.c (.int 3)),(.c (.int 3))])]),(.tup [(.c (.int 81)),(.tup [(.c (.int 3)),(.c (.int 4))])]),(.tup [(.c (.int 5)),(.tup [(.c (.int 5)),(.c (.int 1))])]),(.tup [(.c (.int 25)),(.tup [(.c (.int 5)),(.c (.int 2))])]),(.tup [(.c (.int 125)),(.tup [(.c (.int 5)),(.c (.int 3))])])])),
  .asg [2] (.comp1 [1] 2 [0,1] (.of (.v 2)) [(.cmp .le (.v 0) (.v 2))] (.v 1)),
  .ret (.ix (.v 2) (.call 2 [(.v 0),(.blt .len [(.v 2)])]))]⟩
noncomputable def Wy:Fn:=⟨3,3,
 [.ret (.and (.isi (.v 0) [.int]) (.and (.not (.isi (.v 0) [.bool])) (.chain .le .le (.v 1) (.v 0) (.v 2))))]⟩
noncomputable def Xx:Fn:=⟨3,3,
 [.ite (.not (.call 4 [(.v 0),(.v 1),(.v 2)])) [.raise 3 []] []]⟩
noncomputable def Wn:Fn:=⟨2,6,
 [.asg [2,3] (.v 0),
  .asg [4] (.lst [(.bin .add (.bin .mul (.tup [(.c (.int 0))]) (.v 1)) (.tup [(.c (.int 1))]))]),
  .forr [5] (.rng2 (.bin .add (.v 1) (.c (.int 1))) (.v 3)) [.asg [4] (.comp2 [2] 2 [0] (.of (.v 4)) [] [1] (.rng1 (.v 2)) [] (.bin .add (.v 0) (.tup [(.v 1)])))],
  .ret (.v 4)]⟩
noncomputable def Yq:Fn:=⟨2,2,
 [.ret (.blt .all [(.comp1 [1] 1 [0] (.of (.v 0)) [] (.cmp .eq (.ix (.v 0) (.v 1)) (.c (.int 0))))])]⟩
noncomputable def Qf:Fn:=⟨1,3,
 [.forr [1,2] (.enum (.v 0)) [.ite (.cmp .ne (.v 2) (.c (.int 0))) [.ret (.v 1)] []],
  .ret (.c .non)]⟩
noncomputable def Wq:Fn:=⟨2,5,
 [.asg [2] (.ite (.v 1) (.bin .add (.call 8 [(.ix (.v 1) (.neg (.c (.int 1))))]) (.c (.int 1))) (.c (.int 0))),
  .asg [3] (.lst []),
  .forr [4] (.rrng (.v 2) (.blt .len [(.v 0)])) [.ite (.call 7 [(.v 1),(.v 4)]) [.ex (.mt .extend (.v 3) [(.ix (.v 0) (.v 4))])] []],
  .ret (.v 3)]⟩
noncomputable def VE:Fn:=⟨2,7,
 [.asg [2,3] (.v 0),
  .ex (.call 5 [(.v 1),(.c (.int 0)),(.v 3)]),
  .asg [4] (.comp1 [0] 1 [0] (.rng1 (.v 3)) [] (.call 6 [(.v 1),(.v 0)])),
  .asg [5] (.lst [(.tup [])]),
  .forr [6] (.rng1 (.v 1)) [.asg [5] (.comp2 [4] 2 [0] (.of (.v 5)) [] [1] (.of (.call 9 [(.v 2),(.v 0)])) [] (.bin .add (.v 0) (.tup [(.v 1)])))],
  .ret (.v 5)]⟩
noncomputable def Wp:Fn:=⟨3,3,
 [.ret (.cmp .eq (.bin .mod (.blt .sum [(.comp1 [] 2 [0,1] (.zip (.v 1) (.v 2)) [] (.bin .mul (.v 0) (.v 1)))]) (.v 0)) (.c (.int 0)))]⟩
noncomputable def xh:Fn:=⟨2,4,
 [.asg [2,3] (.v 0),
  .ret (.blt .all [(.comp2 [2,1] 2 [0] (.of (.v 1)) [] [1] (.of (.v 3)) [] (.call 11 [(.v 2),(.v 0),(.v 1)]))])]⟩
noncomputable def Va:Fn:=⟨2,2,
 [.ret (.comp1 [0] 1 [0] (.of (.call 10 [(.v 0),(.v 1)])) [(.call 12 [(.v 1),(.v 0)])] (.v 0))]⟩
noncomputable def f__law_plus:Fn:=⟨4,4,
 [.ret (.blt .tuple [(.comp1 [3,0] 2 [0,1] (.zip (.v 1) (.v 2)) [] (.bin .mod (.bin .add (.v 0) (.bin .mul (.v 2) (.v 1))) (.ix (.v 3) (.c (.int 0)))))])]⟩
noncomputable def f__law_reduced:Fn:=⟨2,8,
 [.asg [2] (.blt .list [(.v 1)]),
  .asg [3] (.lst []),
  .forr [4] (.rng1 (.ix (.v 0) (.c (.int 1)))) [.asg [5] (.comp1 [4] 1 [0] (.of (.v 2)) [(.cmp .ne (.ix (.v 0) (.v 1)) (.c (.int 0)))] (.v 0)),
  .ite (.cmp .ne (.v 5) (.lst [])) [.asg [6] (.ix (.comp1 [5,4,0] 1 [0] (.rng1 (.ix (.v 0) (.c (.int 0)))) [(.cmp .eq (.bin .mod (.bin .mul (.v 0) (.ix (.ix (.v 1) (.c (.int 0))) (.v 2))) (.ix (.v 3) (.c (.int 0)))) (.c (.int 1)))] (.v 0)) (.c (.int 0))),
  .asg [7] (.blt .tuple [(.comp1 [6,0] 1 [0] (.of (.ix (.v 5) (.c (.int 0)))) [] (.bin .mod (.bin .mul (.v 1) (.v 0)) (.ix (.v 2) (.c (.int 0)))))]),
  .asg [2] (.comp1 [0,7,4] 1 [0] (.of (.v 2)) [] (.call 14 [(.v 1),(.v 0),(.v 2),(.neg (.ix (.v 0) (.v 3)))])),
  .asg [3] (.bin .add (.comp1 [0,7,4] 1 [0] (.of (.v 3)) [] (.call 14 [(.v 1),(.v 0),(.v 2),(.neg (.ix (.v 0) (.v 3)))])) (.lst [(.v 7)]))] []],
  .ret (.blt .tuple [(.v 3)])]⟩
noncomputable def f__law_row_of:Fn:=⟨2,2,
 [.ret (.blt .tuple [(.comp1 [0,1] 1 [0] (.rng1 (.ix (.v 1) (.c (.int 1)))) [] (.call 2 [(.v 1),(.ix (.v 2) (.c (.int 0)))]))])]⟩
noncomputable def f__law_part:Fn:=⟨2,3,
 [.asg [2] (.call 2 [(.v 0),(.bin .add (.ix (.v 1) (.c (.int 1))) (.c (.int 1)))]),
  .ret (.call 15 [(.v 1),(.comp1 [0,1] 1 [0] (.rng1 (.v 2)) [] (.call 16 [(.v 1),(.v 2)]))])]⟩
noncomputable def XG:Fn:=⟨1,1,
 [.ret (.blt .all [(.comp1 [] 2 [0,1] (.zip (.v 0) (.sl (.v 0) (some (.c (.int 1))) none)) [] (.cmp .lt (.v 0) (.v 1)))])]⟩
noncomputable def YN:Fn:=⟨3,3,
 [.ret (.and (.cmp .eq (.ix (.ix (.v 0) (.v 1)) (.v 2)) (.c (.int 1))) (.call 7 [(.bin .add (.sl (.v 0) none (some (.v 1))) (.sl (.v 0) (some (.bin .add (.v 1) (.c (.int 1)))) none)),(.v 2)]))]⟩
noncomputable def Gh:Fn:=⟨2,4,
 [.asg [2,3] (.v 0),
  .ite (.or (.not (.isi (.v 1) [.tuple])) (.cmp .ne (.blt .len [(.v 1)]) (.v 3))) [.ret (.c (.bl false))] [],
  .ret (.blt .all [(.comp1 [2] 1 [0] (.of (.v 1)) [] (.call 4 [(.v 0),(.c (.int 0)),(.bin .sub (.v 1) (.c (.int 1)))]))])]⟩
noncomputable def Qv:Fn:=⟨2,3,
 [.ite (.or (.not (.isi (.v 1) [.tuple])) (.not (.blt .all [(.comp1 [0] 1 [0] (.of (.v 1)) [] (.call 20 [(.v 1),(.v 0)]))]))) [.ret (.c (.bl false))] [],
  .asg [2] (.comp1 [] 1 [0] (.of (.v 1)) [] (.call 8 [(.v 0)])),
  .ite (.or (.cmp .inn (.c .non) (.v 2)) (.not (.call 18 [(.v 2)]))) [.ret (.c (.bl false))] [],
  .ret (.blt .all [(.comp1 [1] 2 [0,1] (.enum (.v 2)) [] (.call 19 [(.v 2),(.v 0),(.v 1)]))])]⟩
noncomputable def XR:Fn:=⟨2,2,
 [.ite (.not (.call 21 [(.v 0),(.v 1)])) [.raise 2 []] []]⟩
noncomputable def Xq:Fn:=⟨4,4,
 [.ret (.blt .tuple [(.comp1 [3,0] 2 [0,1] (.zip (.v 1) (.v 2)) [] (.bin .mod (.bin .add (.v 0) (.bin .mul (.v 2) (.v 1))) (.v 3)))])]⟩
noncomputable def VC:Fn:=⟨4,4,
 [.ret (.call 23 [(.v 0),(.v 1),(.v 2),(.neg (.ix (.v 1) (.v 3)))])]⟩
noncomputable def VG:Fn:=⟨3,7,
 [.asg [3,4] (.v 0),
  .asg [5] (.v 2),
  .forr [6] (.of (.v 1)) [.asg [5] (.call 24 [(.v 3),(.v 5),(.v 6),(.call 8 [(.v 6)])])],
  .ret (.v 5)]⟩
noncomputable def JL:Fn:=⟨3,3,
 [.ret (.blt .tuple [(.comp1 [2,0] 1 [0] (.of (.v 1)) [] (.bin .mod (.bin .mul (.v 1) (.v 0)) (.v 2)))])]⟩
noncomputable def QP:Fn:=⟨2,3,
 [.asg [2] (.c (.int 1)),
  .whl (.cmp .ne (.bin .mod (.bin .mul (.v 2) (.v 1)) (.v 0)) (.c (.int 1))) [.aug 2 .add (.c (.int 1))],
  .ret (.v 2)]⟩
noncomputable def Qj:Fn:=⟨3,9,
 [.asg [3,4] (.v 0),
  .asg [5] (.call 25 [(.v 0),(.v 1),(.v 2)]),
  .asg [6] (.call 8 [(.v 5)]),
  .ite (.cmp .is (.v 6) (.c .non)) [.ret (.v 1)] [],
  .asg [7] (.call 26 [(.v 3),(.v 5),(.call 27 [(.v 3),(.ix (.v 5) (.v 6))])]),
  .asg [8] (.comp1 [3,7,6] 1 [0] (.of (.v 1)) [] (.call 24 [(.v 1),(.v 0),(.v 2),(.v 3)])),
  .ret (.blt .tuple [(.blt .sortedR [(.bin .add (.v 8) (.lst [(.v 7)]))])])]⟩
noncomputable def Xe:Fn:=⟨3,5,
 [.asg [3] (.v 1),
  .forr [4] (.of (.v 2)) [.asg [3] (.call 28 [(.v 0),(.v 3),(.v 4)])],
  .ret (.v 3)]⟩
noncomputable def Wv:Fn:=⟨2,2,
 [.ite (.not (.call 20 [(.v 0),(.v 1)])) [.raise 1 []] []]⟩
noncomputable def Qc:Fn:=⟨2,3,
 [.ite (.not (.isi (.v 1) [.tuple,.list])) [.raise 1 []] [],
  .forr [2] (.of (.v 1)) [.ex (.call 30 [(.v 0),(.v 2)])],
  .ret (.call 29 [(.v 0),(.tup []),(.v 1)])]⟩
noncomputable def Wo:Fn:=⟨3,7,
 [.asg [3,4] (.v 0),
  .asg [5] (.bin .mul (.lst [(.c (.int 0))]) (.v 4)),
  .put (.v 5) (.v 2) (.c (.int 1)),
  .forr [6] (.of (.v 1)) [.put (.v 5) (.call 8 [(.v 6)]) (.bin .mod (.neg (.ix (.v 6) (.v 2))) (.v 3))],
  .ret (.blt .tuple [(.v 5)])]⟩
noncomputable def QL:Fn:=⟨2,6,
 [.ex (.call 22 [(.v 0),(.v 1)]),
  .asg [2,3] (.v 0),
  .asg [4] (.comp1 [] 1 [0] (.of (.v 1)) [] (.call 8 [(.v 0)])),
  .asg [5] (.comp1 [4] 1 [0] (.rng1 (.v 3)) [(.cmp .nin (.v 0) (.v 1))] (.v 0)),
  .ret (.call 31 [(.v 0),(.comp1 [0,1] 1 [0] (.of (.v 5)) [] (.call 32 [(.v 1),(.v 2),(.v 0)]))])]⟩
noncomputable def Xm:Fn:=⟨3,3,
 [.ex (.call 22 [(.v 0),(.v 1)]),
  .ex (.call 22 [(.v 0),(.v 2)])]⟩
noncomputable def GC:Fn:=⟨3,3,
 [.ex (.call 34 [(.v 0),(.v 1),(.v 2)]),
  .ret (.call 29 [(.v 0),(.v 1),(.v 2)])]⟩
noncomputable def Zac:Fn:=⟨3,3,
 [.ex (.call 34 [(.v 0),(.v 1),(.v 2)]),
  .ret (.call 33 [(.v 0),(.call 35 [(.v 0),(.call 33 [(.v 0),(.v 1)]),(.call 33 [(.v 0),(.v 2)])])])]⟩
noncomputable def QI:Fn:=⟨3,3,
 [.ret (.cmp .is (.call 8 [(.call 25 [(.v 0),(.v 1),(.v 2)])]) (.c .non))]⟩
noncomputable def VI:Fn:=⟨3,3,
 [.ret (.blt .all [(.comp1 [0,2] 1 [0] (.of (.v 1)) [] (.call 37 [(.v 1),(.v 2),(.v 0)]))])]⟩
noncomputable def Qm:Fn:=⟨3,3,
 [.ex (.call 34 [(.v 0),(.v 1),(.v 2)]),
  .ret (.call 38 [(.v 0),(.v 1),(.v 2)])]⟩
noncomputable def QC:Fn:=⟨2,2,
 [.ex (.call 22 [(.v 0),(.v 1)]),
  .ret (.call 12 [(.v 0),(.v 1)])]⟩
noncomputable def ZbJ:Fn:=⟨1,12,
 [.forr [1] (.rng1 (.blt .max2 [(.c (.int 1)),(.blt .min2 [(.blt .len [(.v 0)]),(.c (.int 5))])])) [.asg [2] (.call 1 [(.v 0),(.v 1)]),
  .asg [3] (.call 3 [(.v 2),(.ix (.lst [(.c (.int 27)),(.c (.int 125))]) (.blt .toInt [(.cmp .eq (.v 1) (.c (.int 0)))]))]),
  .par [4,5] [(.call 17 [(.v 2),(.v 3)]),(.call 17 [(.v 2),(.v 3)])],
  .par [6,7] [(.call 33 [(.v 3),(.v 4)]),(.call 33 [(.v 3),(.v 5)])],
  .ite (.or (.cmp .isn (.call 21 [(.v 3),(.v 6)]) (.c (.bl true))) (.cmp .ne (.bin .add (.blt .len [(.v 6)]) (.blt .len [(.v 4)])) (.ix (.v 3) (.c (.int 1))))) [.ret (.c (.bl false))] [],
  .ite (.cmp .ne (.call 33 [(.v 3),(.v 6)]) (.v 4)) [.ret (.c (.bl false))] [],
  .ite (.cmp .ne (.call 33 [(.v 3),(.call 35 [(.v 3),(.v 4),(.v 5)])]) (.call 36 [(.v 3),(.v 6),(.v 7)])) [.ret (.c (.bl false))] [],
  .ite (.cmp .ne (.call 33 [(.v 3),(.call 36 [(.v 3),(.v 4),(.v 5)])]) (.call 35 [(.v 3),(.v 6),(.v 7)])) [.ret (.c (.bl false))] [],
  .ite (.cmp .ne (.call 39 [(.v 3),(.v 4),(.v 5)]) (.call 39 [(.v 3),(.v 7),(.v 6)])) [.ret (.c (.bl false))] [],
  .ite (.cmp .ne (.call 40 [(.v 3),(.v 4)]) (.call 39 [(.v 3),(.v 4),(.v 6)])) [.ret (.c (.bl false))] [],
  .asg [8] (.call 2 [(.v 2),(.bin .add (.ix (.v 3) (.c (.int 1))) (.c (.int 1)))]),
  .asg [9] (.call 13 [(.v 3),(.v 8)]),
  .ite (.cmp .ne (.v 9) (.comp1 [3] 1 [0] (.of (.call 10 [(.v 3),(.v 8)])) [(.call 40 [(.v 1),(.v 0)])] (.v 0))) [.ret (.c (.bl false))] [],
  .ite (.and (.cmp .ne (.v 9) (.lst [])) (.cmp .gt (.bin .mul (.c (.int 2)) (.v 8)) (.ix (.v 3) (.c (.int 1))))) [.ret (.c (.bl false))] [],
  .asg [10] (.v 8),
  .ite (.cmp .inn (.v 3) (.lst [(.tup [(.c (.int 2)),(.c (.int 5))]),(.tup [(.c (.int 2)),(.c (.int 6))]),(.tup [(.c (.int 3)),(.c (.int 4))]),(.tup [(.c (.int 5)),(.c (.int 3))])])) [.asg [10] (.c (.int 0))] [],
  .asg [11] (.blt .sorted [(.comp1 [3] 1 [0] (.of (.call 10 [(.v 3),(.v 10)])) [] (.call 33 [(.v 1),(.v 0)]))]),
  .ite (.cmp .ne (.v 11) (.call 10 [(.v 3),(.bin .sub (.ix (.v 3) (.c (.int 1))) (.v 10))])) [.ret (.c (.bl false))] []],
  .ret (.c (.bl true))]⟩
noncomputable def fns:List Fn:=[f__law_cell_at,f__law_state,f__law_take,f__law_space,Wy,Xx,Wn,Yq,Qf,Wq,VE,Wp,xh,Va,f__law_plus,f__law_reduced,f__law_row_of,f__law_part,XG,YN,Gh,Qv,XR,Xq,VC,VG,JL,QP,Qj,Xe,Wv,Qc,Wo,QL,Xm,GC,Zac,QI,VI,Qm,QC,ZbJ]
end K43
namespace K43
open Ev Pv Rw La
noncomputable abbrev CV (d:Nat):Zv:=ZP fns 2 d
theorem QU (C:Zv) (s:DS) (v:V):∀(r:Row) (k:Nat) (a b:Option V),∃a' b',Vk (λx ρ os s=>if (([1,2]:List Nat).any os.contains)=true then .no else if (os.isEmpty||x.flat)=true then (po (Zs [1,2] x ρ) s).bind λρ s=>rvs C [] [.ite (.cmp .ne (.v 2) (.c (.int 0))) [.ret (.v 1)] []] ρ os s else .no)
   (((Yv k r.length).zip (r.map V.int)).map λp=>V.tup [p.1,p.2]) [some v,a,b] [] s=match hdI r with
    |some m=>.ok (.ret (.int (k+m:Nat))) s
    |none=>.ok (.nx [some v,a',b'] []) s
 |[],k,a,b=>⟨a,b,rfl⟩
 |x::r,k,a,b=>by
  have er:Yv k (x::r).length=.int k::Yv (k+1:Nat) r.length:=by
   unfold Yv;rw[PB,List.range_succ_eq_map,PL,P3];refine List.cons_eq_cons.mpr ⟨by simp,?_⟩
   ·refine NA λj _=>?_
    show V.int ((k:Int)+((j+1:Nat):Int))=V.int (((k+1:Nat):Int)+(j:Int))
    congr 1
    omega
  obtain⟨a',b',ih⟩:=QU C s v r (k+1) (some (.int k)) (some (.int x));refine⟨a',b',?_⟩;rw[er,PL,Nr,PL,Vk];by_cases c:x=0
  ·subst c
   have e0:hdI (0::r)=(hdI r).map (· + 1):=by rw[hdI,Pi (by simp)]
   have e1:(if (([1,2]:List Nat).any ([]:List Nat).contains)=true then (.no:PR FlV) else if (([]:List Nat).isEmpty||(V.tup [V.int k,V.int 0]).flat)=true then (po (Zs [1,2] (V.tup [.int k,.int 0]) [some v,a,b]) s).bind λρ s=>rvs C [] [.ite (.cmp .ne (.v 2) (.c (.int 0))) [.ret (.v 1)] []] ρ [] s else .no)=.ok (.nx [some v,some (.int k),some (.int 0)] []) s:=by
    simp[pvE,Zk]
   rw[e1,Zc,e0];show Vk _ _ [some v,some (.int k),some (.int 0)] [] s=_;rw[ih];cases hdI r with
   |none=>rfl
   |some m=>show PR.ok (FlV.ret (.int ((k+1+m:Nat):Int))) s=PR.ok (FlV.ret (.int ((k+(m+1):Nat):Int))) s;congr 3;omega
  ·have e0:hdI (x::r)=some 0:=by rw[hdI,Ph c]
   have e1:(if (([1,2]:List Nat).any ([]:List Nat).contains)=true then (.no:PR FlV) else if (([]:List Nat).isEmpty||(V.tup [V.int k,V.int x]).flat)=true then (po (Zs [1,2] (V.tup [.int k,.int x]) [some v,a,b]) s).bind λρ s=>rvs C [] [.ite (.cmp .ne (.v 2) (.c (.int 0))) [.ret (.v 1)] []] ρ [] s else .no)=.ok (.ret (.int k)) s:=by
    simp[pvE,Zk,c]
   rw[e1,Zc,e0];rfl
theorem Xv (d:Nat) (r:Row) (s:DS):CV (d+1) 8 [Zd r] s=.ok (Ub (hdI r)) s:=by
 rw[CV,UM (fn:=Qf) rfl (by decide) rfl]
 obtain⟨a,b,e⟩:=QU (ZP fns 2 d) s (Zd r) r 0 none none;show ((rv _ [] (.forr [1,2] (.enum (.v 0)) _) [some (Zd r),none,none] [] s).bind _).bind _=_;have e2:rv (ZP fns 2 d) [] (.forr [1,2] (.enum (.v 0)) [.ite (.cmp .ne (.v 2) (.c (.int 0))) [.ret (.v 1)] []]) [some (Zd r),none,none] [] s=match hdI r with
    |some m=>.ok (.ret (.int (m:Nat))) s
    |none=>.ok (.nx [some (Zd r),a,b] []) s:=by
  rw[rv];have ew:pvw (ZP fns 2 d) (.enum (.v 0)) (hide [] [some (Zd r),none,none]) s=.ok (((Yv 0 r.length).zip (r.map V.int)).map λp=>V.tup [p.1,p.2]) s:=by
   simp[pvE,Zd]
  rw[ew,Zc];simp only[Nat.zero_add,Int.natCast_zero] at e;exact e
 rw[e2];cases hdI r with
 |none=>rfl
 |some m=>rfl
section
variable {p n:Nat}[Base p]
theorem Vp:(p:Int)<=5/\(2:Int)<=p:=by rcases (inferInstance:Base p).b with e | e | e <;> subst e <;> decide
theorem zJ (d:Nat) {r o:Row}{k:Int}(s:DS) (hn:n<=6) (hr:Zm p n r) (ho:Zm p n o) (hk:-1000<k/\k<1000):CV (d+1) 23 [.int p,Zd r,Zd o,.int k] s=.ok (Zd (Xb p r o k)) s:=by
 rw[CV,UM (fn:=Xq) rfl (by decide) rfl]
 have hp:=Vp (p:=p);have hc:=ZC (C:=ZP fns 2 d) (cap:=[3,0]) (nl:=2) (t:=[0,1]) (it:=.zip (.v 1) (.v 2)) (elt:=.bin .mod (.bin .add (.v 0) (.bin .mul (.v 2) (.v 1))) (.v 3)) (ρ:=[some (.int p),some (Zd r),some (Zd o),some (.int k)]) (s:=s) (l:=r.zip o) (e:=λq=>V.tup [.int q.1,.int q.2]) (g:=λq=>V.int ((q.1+k*q.2)%p))
  (by simp[pvE,Zd,WV]) (by rw[NJ,hr.1,ho.1];unfold lim;omega) (λq hq=>by
   have h2:=ho.2 q.2 (NB hq).2;refine⟨_,rfl,?_⟩;have f1:=ZB (a:=k) (by omega) (by omega)
   have f2:=ZB (a:=q.2) (by omega) (by omega)
   have hp0:0<p:=by omega
   simp[pvE,f1,f2,hp0])
 have e:(r.zip o).map (λq=>V.int ((q.1+k*q.2)%p))=(Xb p r o k).map V.int:=by
  unfold Xb;rw[<-List.map_uncurry_zip_eq_zipWith,P3];rfl
 simp[Xq,pvE,hc,e];rfl
theorem cleared (d:Nat) {r o:Row}{h:Nat}(s:DS) (hn:n<=6) (hr:Zm p n r) (ho:Zm p n o) (hh:h<n):CV (d+2) 24 [.int p,Zd r,Zd o,.int h] s=.ok (Zd (clr p r o h)) s:=by
 rw[CV,UM (fn:=VC) rfl (by decide) rfl]
 have hg:=YV ppos hr h;have hp:=Vp (p:=p);have e:=zJ (p:=p) d (k:=-(gt r h)) s hn hr ho ⟨by omega,by omega⟩
 have e2:=Xk (r:=r) (k:=h) (by rw[hr.1];exact hh)
 simp only[CV] at e;simp[VC,pvE,Zd,e2];simp only[Zd] at e;rw[e];simp[pvE,clr]
theorem times (d:Nat) {r:Row}{k:Int}(s:DS) (hn:n<=6) (hr:Zm p n r) (hk:-1000<k/\k<1000):CV (d+1) 26 [.int p,Zd r,.int k] s=.ok (Zd (Xo p r k)) s:=by
 rw[CV,UM (fn:=JL) rfl (by decide) rfl]
 have hp:=Vp (p:=p);have hc:=ZC (C:=ZP fns 2 d) (cap:=[2,0]) (nl:=1) (t:=[0]) (it:=.of (.v 1)) (elt:=.bin .mod (.bin .mul (.v 1) (.v 0)) (.v 2)) (ρ:=[some (.int p),some (Zd r),some (.int k)]) (s:=s) (l:=r) (e:=V.int) (g:=λq=>V.int (k*q%p))
  (by simp[pvE,Zd]) (by rw[hr.1];unfold lim;omega) (λq hq=>by
   have h2:=hr.2 q hq;refine⟨_,rfl,?_⟩;have f1:=ZB (a:=k) (by omega) (by omega)
   have f2:=ZB (a:=q) (by omega) (by omega)
   have hp0:0<p:=by omega
   simp[pvE,f1,f2,hp0])
 simp[JL,pvE,hc];simp[Zd,Xo]
theorem JI (C:Zv) (m:Nat) {q a k:Int}(s:DS) (hq:0<q) (f1:fits a=true) (f2:fits k=true):Y4 (Vj C (.cmp .ne (.bin .mod (.bin .mul (.v 2) (.v 1)) (.v 0)) (.c (.int 1)))) (rvs C [] [.aug 2 .add (.c (.int 1))]) (m+1) [some (.int q),some (.int a),some (.int k)] [] s =
  if k*a%q=1 then .ok (.nx [some (.int q),some (.int a),some (.int k)] []) s else Y4 (Vj C (.cmp .ne (.bin .mod (.bin .mul (.v 2) (.v 1)) (.v 0)) (.c (.int 1)))) (rvs C [] [.aug 2 .add (.c (.int 1))]) m [some (.int q),some (.int a),some (.int (k+1))] [] s:=by
 rw[Y4];by_cases c:k*a%q=1 <;> simp[pvE,f1,f2,hq,Zk,c,xW]
theorem inverse (d:Nat) {a:Int}(s:DS) (ha:0<a/\a<p):CV (d+1) 27 [.int p,.int a] s=.ok (.int (Yk p a)) s:=by
 rw[CV,UM (fn:=QP) rfl (by decide) rfl]
 generalize ZP fns 2 d=C;have fs:∀k:Int,0<=k->k<=5->fits k=true:=λk h0 h1=>ZB (by omega) (by omega)
 have hp:=Vp (p:=p);have fa:=fs a (by omega) (by omega)
 have key:Y4 (Vj C (.cmp .ne (.bin .mod (.bin .mul (.v 2) (.v 1)) (.v 0)) (.c (.int 1)))) (rvs C [] [.aug 2 .add (.c (.int 1))]) (996+1+1+1+1) [some (.int p),some (.int a),some (.int 1)] [] s=.ok (.nx [some (.int p),some (.int a),some (.int (Yk p a))] []) s:=by
  rw[JI C _ s (by omega) fa (fs 1 (by omega) (by omega)),JI C _ s (by omega) fa (fs (1+1) (by omega) (by omega)),JI C _ s (by omega) fa (fs (1+1+1) (by omega) (by omega)),JI C _ s (by omega) fa (fs (1+1+1+1) (by omega) (by omega))]
  rcases (inferInstance:Base p).b with e | e | e <;> subst e
  ·have:a=1:=by omega
   subst this;rfl
  ·have:a=1\/a=2:=by omega
   rcases this with e | e <;> subst e <;> rfl
  ·have:a=1\/a=2\/a=3\/a=4:=by omega
   rcases this with e | e | e | e <;> subst e <;> rfl
 have e:rv C [] (.whl (.cmp .ne (.bin .mod (.bin .mul (.v 2) (.v 1)) (.v 0)) (.c (.int 1))) [.aug 2 .add (.c (.int 1))]) [some (.int p),some (.int a),some (.int 1)] [] s=.ok (.nx [some (.int p),some (.int a),some (.int (Yk p a))] []) s:=by
  rw[rv];exact key
 show ((rvs C [] (.asg [2] (.c (.int 1)) :: .whl _ _ :: .ret (.v 2)::[]) [some (.int p),some (.int a),none] [] s).bind _)=_;have e1:rv C [] (.asg [2] (.c (.int 1))) [some (.int p),some (.int a),none] [] s=.ok (.nx [some (.int p),some (.int a),some (.int 1)] []) s:=by simp[pvE]
 rw[rvs,e1,Zc];show ((rvs C [] (.whl _ _ :: .ret (.v 2)::[]) [some (.int p),some (.int a),some (.int 1)] [] s).bind _)=_;rw[rvs,e,Zc];simp[pvE]
end
section
variable {p n:Nat}[Base p]
theorem Yp (C:Zv) (ms:List Nat) {i j:Nat}{ρ:Env}{os:List Nat}{s:DS}{e:E}(h:pvA C e ρ os s=.ok (spV p n) s) (ho:os.contains i=false/\os.contains j=false):rv C ms (.asg [i,j] e) ρ os s=.ok (.nx ((ρ.set i (some (.int p))).set j (some (.int n))) os) s:=by
 rw[rv,h,Zc,Pi (by simpa using ho)]
 ·rfl
 ·simp
theorem Qp (d:Nat) {P:List Row}{r:Row}(s:DS) (hn:n<=6) (hP:Part p n P) (hr:Zm p n r):CV (d+3) 25 [spV p n,Za P,Zd r] s=.ok (Zd (Zl p P r)) s:=by
 refine Zo (fn:=VG) rfl (by decide) rfl ?_
 show rvs (CV (d+2)) [] (.asg [3,4] (.v 0) :: .asg [5] (.v 2) :: .forr [6] (.of (.v 1)) [.asg [5] (.call 24 [(.v 3),(.v 5),(.v 6),(.call 8 [(.v 6)])])] :: .ret (.v 5)::[]) [some (spV p n),some (Za P),some (Zd r),none,none,none,none] [] s=_;rw[Zg (Yp (p:=p) (n:=n) _ _ (by simp[pvE]) (by simp))]
 rw[Zg (ρ':=[some (spV p n),some (Za P),some (Zd r),some (.int p),some (.int n),some (Zd r),none]) (os':=[]) (s':=s) (by simp[pvE])]
 obtain⟨o',hI,e⟩:=JE (C:=CV (d+2)) (ms:=[]) (t:=[6]) (it:=.of (.v 1)) (b:=[.asg [5] (.call 24 [(.v 3),(.v 5),(.v 6),(.call 8 [(.v 6)])])]) (L:=P) (e:=Zd) (step:=λst o=>clr p st o ((hdI o).getD 0)) (ρ:=λst o=>[some (spV p n),some (Za P),some (Zd r),some (.int p),some (.int n),some (Zd st),o]) (st:=r) (o:=none) (os:=[]) (s:=s) (Zm p n) (by simp[pvE,Za]) hr rfl (λx hx st o hst=>by
  have hx':=hP.row x hx;obtain⟨k,hk,hkn,_⟩:=hP.head fld.one0 hx;refine⟨Yu hst hx',rfl,_,some (Zd x),rfl,?_⟩;have e1:=Xv (d+1) x s;have e2:=cleared d (h:=k) s hn hst hx' hkn;rw[hk] at e1;simp only[Ub] at e1;have e3:CV (d+2) 8 [Zd x] s=.ok (.int k) s:=e1;simp[pvE,e3,e2,hk])
 rw[Zg e];exact Zt (ZK (by simp[pvE,Zl]))
theorem dsum {P:List Row}(hP:Part p n P):P.length<=n:=by
 have:=X8 fld hP.pn;rw[J0] at this;omega
theorem widened (d:Nat) {P:List Row}{r:Row}(s:DS) (hn:n<=6) (hP:Part p n P) (hr:Zm p n r):CV (d+4) 28 [spV p n,Za P,Zd r] s=.ok (Za (WT p P r)) s:=by
 refine Zo (fn:=Qj) rfl (by decide) rfl ?_
 show rvs (CV (d+3)) [] (.asg [3,4] (.v 0) :: .asg [5] (.call 25 [(.v 0),(.v 1),(.v 2)]) :: .asg [6] (.call 8 [(.v 5)]) :: .ite (.cmp .is (.v 6) (.c .non)) [.ret (.v 1)] [] ::
  .asg [7] (.call 26 [(.v 3),(.v 5),(.call 27 [(.v 3),(.ix (.v 5) (.v 6))])]) :: .asg [8] (.comp1 [3,7,6] 1 [0] (.of (.v 1)) [] (.call 24 [(.v 1),(.v 0),(.v 2),(.v 3)])) ::
  .ret (.blt .tuple [(.blt .sortedR [(.bin .add (.v 8) (.lst [(.v 7)]))])])::[]) [some (spV p n),some (Za P),some (Zd r),none,none,none,none,none,none] [] s=_
 obtain⟨l1,l2⟩:=V5 hP.row hP.pn.rf hr;have hw:=(zU hP hr).1;rw[Zg (Yp (p:=p) (n:=n) _ _ (by simp[pvE]) (by simp))]
 have e1:=Qp d s hn hP hr;rw[Zg (ρ':=[some (spV p n),some (Za P),some (Zd r),some (.int p),some (.int n),some (Zd (Zl p P r)),none,none,none]) (os':=[]) (s':=s) (by simp[pvE,e1])]
 have e2:=Xv (d+2) (Zl p P r) s;rw[Zg (ρ':=[some (spV p n),some (Za P),some (Zd r),some (.int p),some (.int n),some (Zd (Zl p P r)),some (Ub (hdI (Zl p P r))),none,none]) (os':=[]) (s':=s) (by simp[pvE,e2])]
 cases q:hdI (Zl p P r) with
 |none=>
  refine Zt ?_;have:WT p P r=P:=by unfold WT;rw[q]
  simp[pvE,Ub,this]
 |some h=>
  obtain⟨h1,h2,h3⟩:=YR q;rw[l1.1] at h2;have hg:=YV ppos l1 h;have hp:=Vp (p:=p);have hwid:WT p P r=(ZG (P.map (λo=>clr p o (lead p (Zl p P r) h) h)++[lead p (Zl p P r) h])).reverse:=by unfold WT;rw[q]
  rw[Zg (ρ':=[some (spV p n),some (Za P),some (Zd r),some (.int p),some (.int n),some (Zd (Zl p P r)),some (.int h),none,none]) (os':=[]) (s':=s) (by simp[pvE,Ub])]
  have e3:=inverse (p:=p) (d+2) (a:=gt (Zl p P r) h) s ⟨by omega,hg.2⟩
  have hi:-1000<Yk p (gt (Zl p P r) h)/\Yk p (gt (Zl p P r) h)<1000:=by
   unfold Yk
   repeat' split
   all_goals omega
  have e4:=times (p:=p) (d+2) s hn l1 hi;have e5:=Xk (r:=Zl p P r) (k:=h) (by rw[l1.1];exact h2)
  have hl:Zm p n (lead p (Zl p P r) h):=X4 l1;rw[Zg (ρ':=[some (spV p n),some (Za P),some (Zd r),some (.int p),some (.int n),some (Zd (Zl p P r)),some (.int h),some (Zd (lead p (Zl p P r) h)),none]) (os':=[]) (s':=s) (by
   have e6:pv (CV (d+3)) (.call 26 [(.v 3),(.v 5),(.call 27 [(.v 3),(.ix (.v 5) (.v 6))])]) [some (spV p n),some (Za P),some (Zd r),some (.int p),some (.int n),some (Zd (Zl p P r)),some (.int h),none,none] s=.ok (Zd (lead p (Zl p P r) h)) s:=by
    refine Zj (vs:=[.int p,Zd (Zl p P r),.int (Yk p (gt (Zl p P r) h))]) (s1:=s) ?_ e4;have e7:pv (CV (d+3)) (.call 27 [(.v 3),(.ix (.v 5) (.v 6))]) [some (spV p n),some (Za P),some (Zd r),some (.int p),some (.int n),some (Zd (Zl p P r)),some (.int h),none,none] s=.ok (.int (Yk p (gt (Zl p P r) h))) s:=by
     refine Zj (vs:=[.int p,.int (gt (Zl p P r) h)]) (s1:=s) ?_ e3;simp[pvE,Zd,e5]
    exact Zb (Zf rfl) (Zb (Zf rfl) (Zb e7 Zh))
   rw[rv];show (pv _ _ _ _).bind _=_;rw[e6];rfl)]
  have hc:=ZC (C:=CV (d+3)) (cap:=[3,7,6]) (nl:=1) (t:=[0]) (it:=.of (.v 1)) (elt:=.call 24 [(.v 1),(.v 0),(.v 2),(.v 3)]) (ρ:=[some (spV p n),some (Za P),some (Zd r),some (.int p),some (.int n),some (Zd (Zl p P r)),some (.int h),some (Zd (lead p (Zl p P r) h)),none]) (s:=s) (l:=P) (e:=Zd) (g:=λo=>Zd (clr p o (lead p (Zl p P r) h) h))
   (by simp[pvE,Za]) (by have:=dsum hP;unfold lim;omega) (λo ho=>⟨_,rfl,by
    have:=cleared (p:=p) (d+1) (h:=h) s hn (hP.row o ho) hl h2;simp[pvE,this]⟩)
  rw[Zg (ρ':=[some (spV p n),some (Za P),some (Zd r),some (.int p),some (.int n),some (Zd (Zl p P r)),some (.int h),some (Zd (lead p (Zl p P r) h)),some (.lst (P.map λo=>Zd (clr p o (lead p (Zl p P r) h) h)))]) (os':=[]) (s':=s) (by simp[pvE,hc])]
  refine Zt (ZK ?_);have ea:(P.map λo=>Zd (clr p o (lead p (Zl p P r) h) h))++[Zd (lead p (Zl p P r) h)]=((P.map λo=>clr p o (lead p (Zl p P r) h) h)++[lead p (Zl p P r) h]).map Zd:=by rw[List.map_append,P3];rfl
  have hs:ZZ ((P.map λo=>clr p o (lead p (Zl p P r) h) h)++[lead p (Zl p P r) h])=true:=by
   have hlen:((P.map λo=>clr p o (lead p (Zl p P r) h) h)++[lead p (Zl p P r) h]).length=P.length+1:=by simp
   have hnd:((P.map λo=>clr p o (lead p (Zl p P r) h) h)++[lead p (Zl p P r) h]).Nodup:=by
    have h5:=VJ hw.falls;rw[hwid] at h5;exact ((Sd.YO _).nodup_iff).mp (((List.reverse_perm _).nodup_iff).mp h5)
   have hd:=dsum hP;unfold ZZ;rw[PD (by rw[hlen];omega),PD hnd]
   rw[Pz];refine⟨rfl,PP.mpr λx hx=>?_⟩
   have:x.length=n:=by
    rcases Nc.mp hx with z | z
    ·obtain⟨o,ho,rfl⟩:=PC.mp z
     exact (Yu (hP.row o ho) hl).1
    ·rw[P4.mp z];exact hl.1
   cases x with
   |nil=>simp at this;omega
   |cons _ _=>rfl
  have hlen2:P.length+1<=16777216:=by have:=dsum hP;omega
  simp[pvE,hlen2];rw[ea,Vs];simp[pvE,hs,hwid,Za,List.map_reverse]
theorem XM (d:Nat) {P R:List Row}{v:V}(s:DS) (hn:n<=6) (hP:Part p n P) (hR:∀r∈R,Zm p n r) (hv:Z5 v=some (R.map Zd)):CV (d+5) 29 [spV p n,Za P,v] s=.ok (Za (XE p P R)) s:=by
 refine Zo (fn:=Xe) rfl (by decide) rfl ?_
 show rvs (CV (d+4)) [] (.asg [3] (.v 1) :: .forr [4] (.of (.v 2)) [.asg [3] (.call 28 [(.v 0),(.v 3),(.v 4)])] :: .ret (.v 3)::[]) [some (spV p n),some (Za P),some v,none,none] [] s=_;rw[Zg (ρ':=[some (spV p n),some (Za P),some v,some (Za P),none]) (os':=[]) (s':=s) (by simp[pvE])]
 obtain⟨o',hI,e⟩:=JE (C:=CV (d+4)) (ms:=[]) (t:=[4]) (it:=.of (.v 2)) (b:=[.asg [3] (.call 28 [(.v 0),(.v 3),(.v 4)])]) (L:=R) (e:=Zd) (step:=WT p) (ρ:=λst o=>[some (spV p n),some (Za P),some v,some (Za st),o]) (st:=P) (o:=none) (os:=[]) (s:=s) (Part p n) (by show pvw (CV (d+4)) (.of (.v 2)) [some (spV p n),some (Za P),some v,some (Za P),none] s=_;rw[pvw,pv];show po (Z5 v) s=_;rw[hv];rfl) hP rfl (λx hx st o hst=>by
  have hx':=hR x hx;refine⟨(zU hst hx').1,rfl,_,some (Zd x),rfl,?_⟩;have e2:=widened d s hn hst hx';simp[pvE,e2])
 rw[Zg e];exact Zt (ZK (by simp[pvE,XE]))
end
section
variable {p n:Nat}[Base p]
theorem ze (d:Nat) (i lo hi:Int) (s:DS):CV (d+1) 4 [.int i,.int lo,.int hi] s=.ok (.bl (decide (lo<=i)&&decide (i<=hi))) s:=by
 refine Zo (fn:=Wy) rfl (by decide) rfl ?_
 by_cases c:lo<=i <;> simp[Wy,pvE,Xr,GN,c]
theorem uC (d:Nat) {r:Row}(s:DS) (hn:n<=6) (hr:Zm p n r):CV (d+2) 20 [spV p n,Zd r] s=.ok (.bl true) s:=by
 refine Zo (fn:=Gh) rfl (by decide) rfl ?_
 show rvs (CV (d+1)) [] (.asg [2,3] (.v 0) :: .ite (.or (.not (.isi (.v 1) [.tuple])) (.cmp .ne (.blt .len [(.v 1)]) (.v 3))) [.ret (.c (.bl false))] [] :: .ret (.blt .all [(.comp1 [2] 1 [0] (.of (.v 1)) [] (.call 4 [(.v 0),(.c (.int 0)),(.bin .sub (.v 1) (.c (.int 1)))]))])::[]) [some (spV p n),some (Zd r),none,none] [] s=_;rw[Zg (Yp (p:=p) (n:=n) _ _ (by simp[pvE]) (by simp))]
 rw[Zg (ρ':=[some (spV p n),some (Zd r),some (.int p),some (.int n)]) (os':=[]) (s':=s) (by
  have hl:=hr.1;simp[pvE,Xr,GN,Zd,Zk,hl])]
 refine Zt (ZK ?_);have hc:=ZC (C:=CV (d+1)) (cap:=[2]) (nl:=1) (t:=[0]) (it:=.of (.v 1)) (elt:=.call 4 [(.v 0),(.c (.int 0)),(.bin .sub (.v 1) (.c (.int 1)))]) (ρ:=[some (spV p n),some (Zd r),some (.int p),some (.int n)]) (s:=s) (l:=r) (e:=V.int) (g:=λ_=>V.bl true)
  (by simp[pvE,Zd]) (by rw[hr.1];unfold lim;omega) (λx hx=>⟨_,rfl,by
   have h:=hr.2 x hx;have e:=ze d x 0 (p-1) s;have h1:x<=p-1:=by omega
   simp[pvE,e,h.1,h1]⟩)
 have ht:=Yb (g:=λ_:Int=>true) r
 simp[pvE,hc,ht]
theorem ud (d:Nat) {r:Row}(s:DS) (hn:n<=6) (hr:Zm p n r):CV (d+3) 30 [spV p n,Zd r] s=.ok .non s:=by
 have e:=uC d s hn hr;refine VZ (fn:=Wv) (ρ:=[some (spV p n),some (Zd r)]) (os:=[]) rfl (by decide) rfl ?_
 show rvs (CV (d+2)) [] _ [some (spV p n),some (Zd r)] [] s=_;simp[Wv,pvE,e]
theorem xZ (d:Nat) {hs:List Nat}(s:DS) (hl:hs.length<=1000) (h:hs.Pairwise (· < ·)):CV (d+1) 18 [.lst (hs.map Ze)] s=.ok (.bl true) s:=by
 refine Zo (fn:=XG) rfl (by decide) rfl ?_
 have ez:∀(a b:List Nat),((a.map Ze).zip (b.map Ze)).map (λq=>V.tup [q.1,q.2])=(a.zip b).map λq=>V.tup [Ze q.1,Ze q.2]:=by
  intro a
  induction a with
  |nil=>intro b;rfl
  |cons x a ih=>intro b;cases b with
   |nil=>rfl
   |cons y b=>simp only[PL,Nr];rw[ih]
 have hc:=ZC (C:=CV d) (cap:=[]) (nl:=2) (t:=[0,1]) (it:=.zip (.v 0) (.sl (.v 0) (some (.c (.int 1))) none)) (elt:=.cmp .lt (.v 0) (.v 1)) (ρ:=[some (.lst (hs.map Ze))]) (s:=s) (l:=hs.zip hs.tail) (e:=λq=>V.tup [Ze q.1,Ze q.2]) (g:=λ_=>V.bl true)
  (by
   have e1:Xj (hs.map Ze) (some 1) none=hs.tail.map Ze:=by rw[u0,List.map_tail]
   simp[pvE,slV,e1];rw[<-List.map_tail,ez]) (by rw[NJ];unfold lim;omega) (λq hq=>⟨_,rfl,by
   have:q.1<q.2:=by
    obtain⟨i,hi,e⟩:=NK hq;rw[List.getElem_zip] at e;rw[<-e];rw[NJ,List.length_tail] at hi;simp only[List.getElem_tail];exact List.pairwise_iff_getElem.mp h i (i+1) (by omega) (by omega) (by omega)
   simp[pvE,Ze,this]⟩)
 have ht:=Yb (g:=λ_:Nat×Nat=>true) (hs.zip hs.tail)
 simp[XG,pvE,hc,ht]
theorem ye (d:Nat) {R:List Row}{k:Nat}(s:DS) (hl:R.length<=1000) (hk:∀r∈R,k<r.length/\gt r k=0):CV (d+1) 7 [Za R,.int k] s=.ok (.bl true) s:=by
 refine Zo (fn:=Yq) rfl (by decide) rfl ?_
 have hc:=ZC (C:=CV d) (cap:=[1]) (nl:=1) (t:=[0]) (it:=.of (.v 0)) (elt:=.cmp .eq (.ix (.v 0) (.v 1)) (.c (.int 0))) (ρ:=[some (Za R),some (.int k)]) (s:=s) (l:=R) (e:=Zd) (g:=λ_=>V.bl true)
  (by simp[pvE,Za]) (by unfold lim;omega) (λr hr=>⟨_,rfl,by
   obtain⟨h1,h2⟩:=hk r hr;have:=Xk h1;simp[pvE,Zd,this,h2,Zk]⟩)
 have ht:=Yb (g:=λ_:Row=>true) R
 simp[Yq,pvE,hc,ht]
theorem Gz {P:List Row}(hP:Part p n P):P.map (λr=>Ub (hdI r))=(Zu P).map Ze:=by
 unfold Zu;rw[P3];refine NA λr hr=>?_
 obtain⟨k,hk,_⟩:=hP.head fld.one0 hr;show Ub (hdI r)=Ze ((hdI r).getD 0);rw[hk];rfl
theorem ZaS {P:List Row}(hP:Part p n P) {i:Nat}(hi:i<P.length):∃k,hdI P[i]=some k/\k<n/\gt P[i] k=1/\∀j (hj:j<P.length),j≠i->gt P[j] k=0:=by
 have hm:=NH hi;obtain⟨k,h1,h2,h3⟩:=hP.head fld.one0 hm;have one:ph p 1=1:=by rcases (inferInstance:Base p).b with e | e | e <;> subst e <;> rfl
 refine⟨k,h1,h2,yC (YV ppos (hP.row _ hm) k) ⟨by omega,by have:=Vp (p:=p);omega⟩ (by rw[one];exact h3),λj hj ne=>?_⟩
 have hm2:=NH hj;obtain⟨k2,g1,g2,g3⟩:=hP.head fld.one0 hm2;have inc:=hP.pn.rf.heads;have a1:=Yh (p:=p) hm;have a2:=Yh (p:=p) hm2;rw[h1] at a1;rw[g1] at a2;refine (Xi (hP.row _ hm2)).mp (hP.pn.rf.zer _ a1 _ a2 ?_);have hinc:=hP.pn.rf.inc;unfold toP at hinc;rw[List.pairwise_map,List.pairwise_iff_getElem] at hinc;show k≠k2;rcases Nat.lt_or_gt_of_ne ne with c | c
 ·have:=hinc j i hj hi c
  simp only[h1,g1] at this;simp at this;omega
 ·have:=hinc i j hi hj c
  simp only[h1,g1] at this;simp at this;omega
theorem Js (d:Nat) {P:List Row}{i:Nat}(s:DS) (hn:n<=6) (hP:Part p n P) (hi:i<P.length):∃k,hdI P[i]=some k/\CV (d+2) 19 [Za P,.int i,.int k] s=.ok (.bl true) s:=by
 obtain⟨k,h1,h2,h3,h4⟩:=ZaS hP hi;refine⟨k,h1,Zo (fn:=YN) rfl (by decide) rfl ?_⟩
 have hd:=dsum hP;have hrow:=hP.row _ (NH hi);have e1:at' (P.map Zd) (i:Int)=some (Zd P[i]):=Jt (by rw[PF,Pc hi];rfl)
 have e2:=Xk (r:=P[i]) (k:=k) (by rw[hrow.1];exact h2)
 have e3:=ye d (R:=P.take i++P.drop (i+1)) (k:=k) s (by rw[PM,NE,NP];omega) (λr hr=>by
  have hmem:∃j,∃(hj:j<P.length),j≠i/\P[j]=r:=by
   rcases Nc.mp hr with z | z
   ·obtain⟨j,hj,e⟩:=NK z
    rw[NE] at hj;exact⟨j,by omega,by omega,by rw[<-e,List.getElem_take]⟩
   ·obtain⟨j,hj,e⟩:=NK z
    rw[NP] at hj;exact⟨i+1+j,by omega,by omega,by rw[<-e,List.getElem_drop]⟩
  obtain⟨j,hj,ne,rfl⟩:=hmem;exact⟨by rw[(hP.row _ (NH hj)).1];exact h2,h4 j hj ne⟩)
 have c1:Xj (P.map Zd) none (some (i:Int))=(P.take i).map Zd:=by rw[Zav (by rw[Pk];omega),List.map_take]
 have c2:Xj (P.map Zd) (some ((i:Int)+1)) none=(P.drop (i+1)).map Zd:=by rw[GI (k:=i+1) (by omega) (by rw[Pk];omega),List.map_drop]
 have c3:(P.take i).length+(P.drop (i+1)).length<=16777216:=by rw[NE,NP];omega
 rw[NE,NP] at c3;have e4:CV (d+1) 7 [V.tup ((P.map Zd).take i++(P.map Zd).drop (i+1)),.int k] s=.ok (.bl true) s:=by
  rw[<-List.map_take,<-List.map_drop,<-List.map_append];exact e3
 simp[YN,pvE,Za,slV,e1,c1,c2,c3,e4];simp[Zd,e2,h3,Zk,pvE,e4]
theorem yQ:∀hs:List Nat,VQ .non (hs.map Ze)=some false
 |[]=>rfl
 |h::hs=>by
  show (match eqV Zk (Ze h) .non,VQ .non (hs.map Ze) with | some a,some b=>some (a||b) | _,_=>none)=_
  rw[yQ hs];rfl
theorem xR (d:Nat) {P:List Row}(s:DS) (hn:n<=6) (hP:Part p n P):CV (d+3) 21 [spV p n,Za P] s=.ok (.bl true) s:=by
 refine Zo (fn:=Qv) rfl (by decide) rfl ?_
 show rvs (CV (d+2)) [] (.ite (.or (.not (.isi (.v 1) [.tuple])) (.not (.blt .all [(.comp1 [0] 1 [0] (.of (.v 1)) [] (.call 20 [(.v 1),(.v 0)]))]))) [.ret (.c (.bl false))] [] ::
  .asg [2] (.comp1 [] 1 [0] (.of (.v 1)) [] (.call 8 [(.v 0)])) ::
  .ite (.or (.cmp .inn (.c .non) (.v 2)) (.not (.call 18 [(.v 2)]))) [.ret (.c (.bl false))] [] ::
  .ret (.blt .all [(.comp1 [1] 2 [0,1] (.enum (.v 2)) [] (.call 19 [(.v 2),(.v 0),(.v 1)]))])::[]) [some (spV p n),some (Za P),none] [] s=_
 have hd:=dsum hP;have hc1:=ZC (C:=CV (d+2)) (cap:=[0]) (nl:=1) (t:=[0]) (it:=.of (.v 1)) (elt:=.call 20 [(.v 1),(.v 0)]) (ρ:=[some (spV p n),some (Za P),none]) (s:=s) (l:=P) (e:=Zd) (g:=λ_=>V.bl true)
  (by simp[pvE,Za]) (by unfold lim;omega) (λx hx=>⟨_,rfl,by
   have e:=uC d s hn (hP.row x hx);simp[pvE,e]⟩)
 have ht:=Yb (g:=λ_:Row=>true) P
 have hpt:Xr (Za P) [.tuple]=some true:=rfl;rw[Zg (ρ':=[some (spV p n),some (Za P),none]) (os':=[]) (s':=s) (by simp[pvE,hpt,hc1,ht])]
 have hc2:=ZC (C:=CV (d+2)) (cap:=[]) (nl:=1) (t:=[0]) (it:=.of (.v 1)) (elt:=.call 8 [(.v 0)]) (ρ:=[some (spV p n),some (Za P),none]) (s:=s) (l:=P) (e:=Zd) (g:=λr=>Ub (hdI r))
  (by simp[pvE,Za]) (by unfold lim;omega) (λx hx=>⟨_,rfl,by
   have e:=Xv (d+1) x s;simp[pvE,e]⟩)
 rw[Gz hP] at hc2;rw[Zg (ρ':=[some (spV p n),some (Za P),some (.lst ((Zu P).map Ze))]) (os':=[]) (s':=s) (by simp[pvE,hc2])]
 have hrs:(Zu P).Pairwise (· < ·):=by rw[<-Wd (p:=p)];exact hP.pn.rf.heads
 have hln:(Zu P).length=P.length:=by unfold Zu;rw[Pk]
 have e3:=xZ (d+1) s (by omega) hrs
 have hin:=yQ (Zu P);rw[Zg (ρ':=[some (spV p n),some (Za P),some (.lst ((Zu P).map Ze))]) (os':=[]) (s':=s) (by simp[pvE,XZ,hin,e3])]
 refine Zt (ZK ?_);have ew:((Yv 0 (Zu P).length).zip ((Zu P).map Ze)).map (λq=>V.tup [q.1,q.2])=(List.range P.length).map λi=>V.tup [Ze i,Ze ((Zu P).getD i 0)]:=by
  apply List.ext_getElem
  ·simp[Yv,hln]
  ·intro i h1 h2
   have h3:i<P.length:=by simpa using h2
   have h4:i<(Zu P).length:=by omega
   simp[Yv,Ze,h4]
 have hc3:=ZC (C:=CV (d+2)) (cap:=[1]) (nl:=2) (t:=[0,1]) (it:=.enum (.v 2)) (elt:=.call 19 [(.v 2),(.v 0),(.v 1)]) (ρ:=[some (spV p n),some (Za P),some (.lst ((Zu P).map Ze))]) (s:=s) (l:=List.range P.length) (e:=λi=>V.tup [Ze i,Ze ((Zu P).getD i 0)]) (g:=λ_=>V.bl true)
  (by
   have:pvw (CV (d+2)) (.enum (.v 2)) [some (spV p n),some (Za P),some (.lst ((Zu P).map Ze))] s=.ok (((Yv 0 ((Zu P).map Ze).length).zip ((Zu P).map Ze)).map λq=>V.tup [q.1,q.2]) s:=by simp[pvE]
   rw[this,Pk,ew]) (by rw[PY];unfold lim;omega) (λi hi=>⟨_,rfl,by
   have hi':=PU.mp hi;obtain⟨k,hk,e⟩:=Js d s hn hP hi';have:(Zu P).getD i 0=k:=by
    unfold Zu;rw[Pp,PF,Pc hi'];show ((hdI P[i]).getD 0)=k;rw[hk];rfl
   have e':CV (d+2) 19 [Za P,Ze i,Ze ((Zu P).getD i 0)] s=.ok (.bl true) s:=by rw[this];exact e
   simp[pvE] at e' ⊢;exact e'⟩)
 have ht3:=Yb (g:=λ_:Nat=>true) (List.range P.length)
 simp[pvE,hc3,ht3]
theorem X5 (d:Nat) {P:List Row}(s:DS) (hn:n<=6) (hP:Part p n P):CV (d+4) 22 [spV p n,Za P] s=.ok .non s:=by
 have e:=xR d s hn hP;refine VZ (fn:=XR) (ρ:=[some (spV p n),some (Za P)]) (os:=[]) rfl (by decide) rfl ?_
 show rvs (CV (d+3)) [] _ [some (spV p n),some (Za P)] [] s=_;simp[XR,pvE,e]
theorem Wx (d:Nat) {P Q:List Row}(s:DS) (hn:n<=6) (hP:Part p n P) (hQ:Part p n Q):CV (d+5) 34 [spV p n,Za P,Za Q] s=.ok .non s:=by
 have e1:=X5 d s hn hP;have e2:=X5 d s hn hQ;refine VZ (fn:=Xm) (ρ:=[some (spV p n),some (Za P),some (Za Q)]) (os:=[]) rfl (by decide) rfl ?_
 show rvs (CV (d+4)) [] _ [some (spV p n),some (Za P),some (Za Q)] [] s=_;simp[Xm,pvE,e1,e2]
end
section
variable {p n:Nat}[Base p]
theorem spanned (d:Nat) {R:List Row}{v:V}(s:DS) (hn:n<=6) (hR:∀r∈R,Zm p n r) (hv:Z5 v=some (R.map Zd)) (ht:Xr v [.tuple,.list]=some true):CV (d+6) 31 [spV p n,v] s=.ok (Za (XE p [] R)) s:=by
 refine Zo (fn:=Qc) rfl (by decide) rfl ?_
 show rvs (CV (d+5)) [] (.ite (.not (.isi (.v 1) [.tuple,.list])) [.raise _ []] [] :: .forr [2] (.of (.v 1)) [.ex (.call 30 [(.v 0),(.v 2)])] :: .ret (.call 29 [(.v 0),(.tup []),(.v 1)])::[]) [some (spV p n),some v,none] [] s=_;rw[Zg (ρ':=[some (spV p n),some v,none]) (os':=[]) (s':=s) (by simp[pvE,ht])]
 obtain⟨o',hI,e⟩:=JE (C:=CV (d+5)) (ms:=[]) (t:=[2]) (it:=.of (.v 1)) (b:=[.ex (.call 30 [(.v 0),(.v 2)])]) (L:=R) (e:=Zd) (step:=λ(st:Unit) _=>st) (ρ:=λ_ o=>[some (spV p n),some v,o]) (st:=()) (o:=none) (os:=[]) (s:=s) (λ_=>True) (by show pvw (CV (d+5)) (.of (.v 1)) [some (spV p n),some v,none] s=_;rw[pvw,pv];show po (Z5 v) s=_;rw[hv];rfl) True.intro rfl (λx hx st o hst=>by
  refine⟨True.intro,rfl,_,some (Zd x),rfl,?_⟩;have e2:=ud (d+2) s hn (hR x hx);show rvs (CV (d+5)) [] _ [some (spV p n),some v,some (Zd x)] [] s=_;rw[Zg (UI (v:=.non) (s':=s) (Zj (vs:=[spV p n,Zd x]) (s1:=s) (Zb (Zf rfl) (Zb (Zf rfl) Zh)) e2)),rvs])
 rw[Zg e];refine Zt (ZK (Zj (vs:=[spV p n,Za [],v]) (s1:=s) (Zb (Zf rfl) (Zb (by simp[pvE,Za]) (Zb (Zf rfl) Zh))) (XM d s hn Part.nil hR hv)))
theorem joined (d:Nat) {P Q:List Row}(s:DS) (hn:n<=6) (hP:Part p n P) (hQ:Part p n Q):CV (d+6) 35 [spV p n,Za P,Za Q] s=.ok (Za (XE p P Q)) s:=by
 refine Zo (fn:=GC) rfl (by decide) rfl ?_
 show rvs (CV (d+5)) [] (.ex (.call 34 [(.v 0),(.v 1),(.v 2)]) :: .ret (.call 29 [(.v 0),(.v 1),(.v 2)])::[]) [some (spV p n),some (Za P),some (Za Q)] [] s=_;have ha:pvs (CV (d+5)) [(.v 0),(.v 1),(.v 2)] [some (spV p n),some (Za P),some (Za Q)] s=.ok [spV p n,Za P,Za Q] s:=Zb (Zf rfl) (Zb (Zf rfl) (Zb (Zf rfl) Zh));rw[Zg (UI (Zj ha (Wx d s hn hP hQ)))];exact Zt (ZK (Zj ha (XM d s hn hP hQ.row rfl)))
theorem Ge {r:Row}{k:Nat}{x:Int}:(r.map V.int).set k (.int x)=(r.set k x).map V.int:=by rw[List.map_set]
theorem Gu (d:Nat) {P:List Row}{f:Nat}(s:DS) (hn:n<=6) (hP:Part p n P) (hf:f<n):CV (d+2) 32 [spV p n,Za P,.int f] s=.ok (Zd (avI p n P f)) s:=by
 refine Zo (fn:=Wo) rfl (by decide) rfl ?_
 show rvs (CV (d+1)) [5,5] (.asg [3,4] (.v 0) :: .asg [5] (.bin .mul (.lst [(.c (.int 0))]) (.v 4)) :: .put (.v 5) (.v 2) (.c (.int 1)) :: .forr [6] (.of (.v 1)) [.put (.v 5) (.call 8 [(.v 6)]) (.bin .mod (.neg (.ix (.v 6) (.v 2))) (.v 3))] :: .ret (.blt .tuple [(.v 5)])::[]) [some (spV p n),some (Za P),some (.int f),none,none,none,none] [] s=_;rw[Zg (Yp (p:=p) (n:=n) _ _ (by simp[pvE]) (by simp))]
 have er:(List.replicate n [V.int 0]).flatten=(List.replicate n (0:Int)).map V.int:=by
  rw[List.map_replicate];clear hf hP hn
  induction n with
  |zero=>rfl
  |succ k ih=>rw[PZ,P6,ih];rfl
 have hp:=Vp (p:=p);have e1:rv (CV (d+1)) [5,5] (.asg [5] (.bin .mul (.lst [(.c (.int 0))]) (.v 4))) [some (spV p n),some (Za P),some (.int f),some (.int p),some (.int n),none,none] [] s=.ok (.nx [some (spV p n),some (Za P),some (.int f),some (.int p),some (.int n),some (.lst ((List.replicate n (0:Int)).map V.int)),none] [5]) s:=by
  have h1:n<1000:=by omega
  have hfl:=Xl (List.replicate n (0:Int));rw[List.map_replicate] at hfl er;have h2:(n:Int)<1000:=by omega
  simp[pvE,h2,er,hfl]
 rw[show (([some (spV p n),some (Za P),some (.int f),none,none,none,none]:Env).set 3 (some (.int p))).set 4 (some (.int n))=[some (spV p n),some (Za P),some (.int f),some (.int p),some (.int n),none,none] from rfl,Zg e1]
 have ix:∀(r:Row) (k:Nat),k<r.length->ixN (r.map V.int).length (k:Int)=some k:=λr k h=>by
  unfold ixN;rw[Ph (by omega),Ph (by rw[Pk];omega)];rfl
 have e2:rv (CV (d+1)) [5,5] (.put (.v 5) (.v 2) (.c (.int 1))) [some (spV p n),some (Za P),some (.int f),some (.int p),some (.int n),some (.lst ((List.replicate n (0:Int)).map V.int)),none] [5] s=.ok (.nx [some (spV p n),some (Za P),some (.int f),some (.int p),some (.int n),some (.lst (((List.replicate n (0:Int)).set f 1).map V.int)),none] [5]) s:=by
  have h1:=ix (List.replicate n 0) f (by simpa using hf)
  rw[rv];simp only[pvE,Wm,V.flat];simp only[List.contains_cons,BEq.rfl,Bool.true_or,NM,List.getElem?_cons_succ,List.getElem?_cons_zero,Option.bind,id,pvE];rw[h1,ZV,Zc,Ge];rfl
 rw[Zg e2];obtain⟨o',hI,e⟩:=JE (C:=CV (d+1)) (ms:=[5,5]) (t:=[6]) (it:=.of (.v 1)) (b:=[.put (.v 5) (.call 8 [(.v 6)]) (.bin .mod (.neg (.ix (.v 6) (.v 2))) (.v 3))]) (L:=P) (e:=Zd) (step:=λ(s:Row) r=>s.set ((hdI r).getD 0) ((-(gt r f))%p)) (ρ:=λst o=>[some (spV p n),some (Za P),some (.int f),some (.int p),some (.int n),some (.lst (st.map V.int)),o]) (st:=(List.replicate n (0:Int)).set f 1) (o:=none) (os:=[5]) (s:=s) (λst=>st.length=n) (by simp[pvE,Za]) (by simp) (by simp) (λx hx st o hst=>by
  have hx':=hP.row x hx;obtain⟨k,hk,hkn,_⟩:=hP.head fld.one0 hx;refine⟨by rw[PV];exact hst,by simp[Zd,V.flat,Xl],_,some (Zd x),rfl,?_⟩
  show rvs (CV (d+1)) [5,5] _ [some (spV p n),some (Za P),some (.int f),some (.int p),some (.int n),some (.lst (st.map V.int)),some (Zd x)] [5] s=_;have e3:=Xv d x s;rw[hk] at e3;have e3':CV (d+1) 8 [Zd x] s=.ok (.int k) s:=e3;have e4:=Xk (r:=x) (k:=f) (by rw[hx'.1];exact hf)
  have ev:pv (CV (d+1)) (.bin .mod (.neg (.ix (.v 6) (.v 2))) (.v 3)) [some (spV p n),some (Za P),some (.int f),some (.int p),some (.int n),some (.lst (st.map V.int)),some (Zd x)] s=.ok (.int ((-(gt x f))%p)) s:=by
   have hp0:0<p:=by omega
   simp[pvE,Zd,e4,hp0]
  have ek:pv (CV (d+1)) (.call 8 [(.v 6)]) [some (spV p n),some (Za P),some (.int f),some (.int p),some (.int n),some (.lst (st.map V.int)),some (Zd x)] s=.ok (.int k) s:=Zj (Zb (Zf rfl) Zh) e3';have h1:=ix st k (by rw[hst];exact hkn)
  rw[hk];rw[Zg (ρ':=[some (spV p n),some (Za P),some (.int f),some (.int p),some (.int n),some (.lst ((st.set k ((-(gt x f))%p)).map V.int)),some (Zd x)]) (os':=[5]) (s':=s) (by
   rw[rv,Ph (by simp),ev,Zc,Ph (by rfl)]
   show (po (some (st.map V.int)) s).bind _=_;rw[ZV,Zc,ek,Zc];show (po (ixN (st.map V.int).length (k:Int)) s).bind _=_;rw[h1,ZV,Zc,Ge];rfl),rvs]
  rfl)
 rw[Zg e];refine Zt (ZK ?_);simp[pvE,Zd,avI,avF]
theorem vC (j:Nat):∀hs:List Nat,VQ (Ze j) (hs.map Ze)=some (hs.contains j)
 |[]=>rfl
 |h::hs=>by
  show (match eqV Zk (Ze h) (Ze j),VQ (Ze j) (hs.map Ze) with | some a,some b=>some (a||b) | _,_=>none)=_
  rw[vC j hs,List.contains_cons];show some (decide ((h:Int)=(j:Int))||hs.contains j)=_
  congr 2
  rw[P2];simp;omega
theorem against (d:Nat) {P:List Row}(s:DS) (hn:n<=6) (hP:Part p n P):CV (d+7) 33 [spV p n,Za P] s=.ok (Za (Zp p n P)) s:=by
 refine Zo (fn:=QL) rfl (by decide) rfl ?_
 show rvs (CV (d+6)) [] (.ex (.call 22 [(.v 0),(.v 1)]) :: .asg [2,3] (.v 0) :: .asg [4] (.comp1 [] 1 [0] (.of (.v 1)) [] (.call 8 [(.v 0)])) :: .asg [5] (.comp1 [4] 1 [0] (.rng1 (.v 3)) [(.cmp .nin (.v 0) (.v 1))] (.v 0)) :: .ret (.call 31 [(.v 0),(.comp1 [0,1] 1 [0] (.of (.v 5)) [] (.call 32 [(.v 1),(.v 2),(.v 0)]))])::[]) [some (spV p n),some (Za P),none,none,none,none] [] s=_;have hd:=dsum hP;rw[Zg (UI (Zj (Zb (Zf rfl) (Zb (Zf rfl) Zh)) (X5 (d+2) s hn hP)))];rw[Zg (Yp (p:=p) (n:=n) _ _ (by simp[pvE]) (by simp))]
 have hc2:=ZC (C:=CV (d+6)) (cap:=[]) (nl:=1) (t:=[0]) (it:=.of (.v 1)) (elt:=.call 8 [(.v 0)]) (ρ:=[some (spV p n),some (Za P),some (.int p),some (.int n),none,none]) (s:=s) (l:=P) (e:=Zd) (g:=λr=>Ub (hdI r))
  (by simp[pvE,Za]) (by unfold lim;omega) (λx hx=>⟨_,rfl,by
   have e:=Xv (d+5) x s;simp[pvE,e]⟩)
 rw[Gz hP] at hc2;rw[Zg (ρ':=[some (spV p n),some (Za P),some (.int p),some (.int n),some (.lst ((Zu P).map Ze)),none]) (os':=[]) (s':=s) (by simp[pvE,hc2])]
 have hc3:=Ym (C:=CV (d+6)) (cap:=[4]) (nl:=1) (t:=[0]) (it:=.rng1 (.v 3)) (tst:=.cmp .nin (.v 0) (.v 1)) (elt:=.v 0) (ρ:=[some (spV p n),some (Za P),some (.int p),some (.int n),some (.lst ((Zu P).map Ze)),none]) (s:=s) (l:=List.range n) (e:=Ze) (g:=Ze) (q:=λj=>!(Zu P).contains j)
  (Y2 (Zf rfl) (by omega)) (by rw[PY];unfold lim;omega) (λj hj=>⟨_,.bl (!(Zu P).contains j),rfl,by
   have:=vC j (Zu P);simp[pvE,XZ,this],rfl,λ_=>by simp[pvE]⟩)
 rw[Zg (ρ':=[some (spV p n),some (Za P),some (.int p),some (.int n),some (.lst ((Zu P).map Ze)),some (.lst ((XB n P).map Ze))]) (os':=[]) (s':=s) (by
  refine (ZY hc3 rfl).trans ?_;rfl)]
 have hc4:=ZC (C:=CV (d+6)) (cap:=[0,1]) (nl:=1) (t:=[0]) (it:=.of (.v 5)) (elt:=.call 32 [(.v 1),(.v 2),(.v 0)]) (ρ:=[some (spV p n),some (Za P),some (.int p),some (.int n),some (.lst ((Zu P).map Ze)),some (.lst ((XB n P).map Ze))]) (s:=s) (l:=XB n P) (e:=Ze) (g:=λf=>Zd (avI p n P f))
  (by simp[pvE]) (by
   have:(XB n P).length<=n:=by unfold XB;exact P0 (List.length_filter_le ..) (by rw[PY];exact Pl _)
   unfold lim;omega) (λf hf=>⟨_,rfl,by
   have hf':f<n:=by rw[<-Uj (p:=p)] at hf;exact (Z7.mp hf).1
   have e:=Gu (d+4) s hn hP hf';exact Zj (Zb (Zf rfl) (Zb (Zf rfl) (Zb (Zf rfl) Zh))) e⟩)
 have e5:=spanned (p:=p) (n:=n) d (R:=(XB n P).map (avI p n P)) (v:=.lst ((XB n P).map λf=>Zd (avI p n P f))) s hn (λr hr=>by obtain⟨f,hf,rfl⟩:=PC.mp hr;exact (u3 hP hf).1) (by rw[P3];rfl) rfl
 exact Zt (ZK (Zj (Zb (Zf rfl) (Zb hc4 Zh)) e5))
theorem met (d:Nat) {P Q:List Row}(s:DS) (hn:n<=6) (hP:Part p n P) (hQ:Part p n Q):CV (d+8) 36 [spV p n,Za P,Za Q] s=.ok (Za (W5 p n P Q)) s:=by
 refine Zo (fn:=Zac) rfl (by decide) rfl ?_
 show rvs (CV (d+7)) [] (.ex (.call 34 [(.v 0),(.v 1),(.v 2)]) :: .ret (.call 33 [(.v 0),(.call 35 [(.v 0),(.call 33 [(.v 0),(.v 1)]),(.call 33 [(.v 0),(.v 2)])])])::[]) [some (spV p n),some (Za P),some (Za Q)] [] s=_;rw[Zg (UI (Zj (Zb (Zf rfl) (Zb (Zf rfl) (Zb (Zf rfl) Zh))) (Wx (d+2) s hn hP hQ)))];have a1:=(Z6 hP).1;have a2:=(Z6 hQ).1;have a3:=(XI a1 a2).1;exact Zt (ZK (Zj (Zb (Zf rfl) (Zb (Zj (Zb (Zf rfl) (Zb (Zj (Zb (Zf rfl) (Zb (Zf rfl) Zh)) (against d s hn hP)) (Zb (Zj (Zb (Zf rfl) (Zb (Zf rfl) Zh)) (against d s hn hQ)) Zh))) (joined (d+1) s hn a1 a2)) Zh)) (against d s hn a3)))
theorem qv (d:Nat) {P:List Row}{r:Row}(s:DS) (hn:n<=6) (hP:Part p n P) (hr:Zm p n r):CV (d+4) 37 [spV p n,Za P,Zd r] s=.ok (.bl (WM p P r)) s:=by
 refine Zo (fn:=QI) rfl (by decide) rfl ?_
 show rvs (CV (d+3)) [] (.ret (.cmp .is (.call 8 [(.call 25 [(.v 0),(.v 1),(.v 2)])]) (.c .non))::[]) [some (spV p n),some (Za P),some (Zd r)] [] s=_;have e1:pv (CV (d+3)) (.call 8 [(.call 25 [(.v 0),(.v 1),(.v 2)])]) [some (spV p n),some (Za P),some (Zd r)] s=.ok (Ub (hdI (Zl p P r))) s:=
  Zj (Zb (Zj (Zb (Zf rfl) (Zb (Zf rfl) (Zb (Zf rfl) Zh))) (Qp d s hn hP hr)) Zh) (Xv (d+2) _ s)
 refine Zt (ZK ?_);rw[pv,e1,Zc];unfold WM;cases hdI (Zl p P r) <;> simp[pvE,Ub]
theorem wD (d:Nat) {P Q:List Row}(s:DS) (hn:n<=6) (hP:Part p n P) (hQ:Part p n Q):CV (d+5) 38 [spV p n,Za P,Za Q] s=.ok (.bl (P.all (WM p Q))) s:=by
 refine Zo (fn:=VI) rfl (by decide) rfl ?_
 show rvs (CV (d+4)) [] (.ret (.blt .all [(.comp1 [0,2] 1 [0] (.of (.v 1)) [] (.call 37 [(.v 1),(.v 2),(.v 0)]))])::[]) [some (spV p n),some (Za P),some (Za Q)] [] s=_;have hd:=dsum hP;have hc:=ZC (C:=CV (d+4)) (cap:=[0,2]) (nl:=1) (t:=[0]) (it:=.of (.v 1)) (elt:=.call 37 [(.v 1),(.v 2),(.v 0)]) (ρ:=[some (spV p n),some (Za P),some (Za Q)]) (s:=s) (l:=P) (e:=Zd) (g:=λr=>V.bl (WM p Q r))
  (by simp[pvE,Za]) (by unfold lim;omega) (λx hx=>⟨_,rfl,Zj (Zb (Zf rfl) (Zb (Zf rfl) (Zb (Zf rfl) Zh))) (qv d s hn hQ (hP.row x hx))⟩)
 have ht:=Yb (g:=WM p Q) P;refine Zt (ZK ?_);rw[pv,Zb hc Zh,Zc];simp[pvE,ht,List.all_map,Function.comp]
theorem Jv (d:Nat) {P Q:List Row}(s:DS) (hn:n<=6) (hP:Part p n P) (hQ:Part p n Q):CV (d+6) 39 [spV p n,Za P,Za Q] s=.ok (.bl (P.all (WM p Q))) s:=by
 refine Zo (fn:=Qm) rfl (by decide) rfl ?_
 show rvs (CV (d+5)) [] (.ex (.call 34 [(.v 0),(.v 1),(.v 2)]) :: .ret (.call 38 [(.v 0),(.v 1),(.v 2)])::[]) [some (spV p n),some (Za P),some (Za Q)] [] s=_;rw[Zg (UI (Zj (Zb (Zf rfl) (Zb (Zf rfl) (Zb (Zf rfl) Zh))) (Wx d s hn hP hQ)))];exact Zt (ZK (Zj (Zb (Zf rfl) (Zb (Zf rfl) (Zb (Zf rfl) Zh))) (wD d s hn hP hQ)))
end
section
variable {p n:Nat}[Base p]
theorem ix0 {C:Zv}{i:Nat}{ρ:Env}{s:DS}(h:ρ[i]? = some (some (spV p n))):pv C (.ix (.v i) (.c (.int 0))) ρ s=.ok (.int p) s:=by
 rw[pv,Zf h,Zc,pv];rfl
theorem ix1 {C:Zv}{i:Nat}{ρ:Env}{s:DS}(h:ρ[i]? = some (some (spV p n))):pv C (.ix (.v i) (.c (.int 1))) ρ s=.ok (.int n) s:=by
 rw[pv,Zf h,Zc,pv];rfl
theorem V0 {C:Zv}{e:E}{x:V}{xs:List V}{ρ:Env}{s:DS}(h:pv C e ρ s=.ok (.lst (x::xs)) s):pv C (.ix e (.c (.int 0))) ρ s=.ok x s:=by
 rw[pv,h,Zc,pv];show po (at' (x::xs) 0) s=_;simp[at',ixN,po]
theorem law_plus (d:Nat) {r o:Row}{k:Int}(s:DS) (hn:n<=6) (hr:Zm p n r) (ho:Zm p n o) (hk:-1000<k/\k<1000):CV (d+1) 14 [spV p n,Zd r,Zd o,.int k] s=.ok (Zd (Xb p r o k)) s:=by
 refine Zo (fn:=f__law_plus) rfl (by decide) rfl ?_
 show rvs (CV d) [] (.ret (.blt .tuple [(.comp1 [3,0] 2 [0,1] (.zip (.v 1) (.v 2)) [] (.bin .mod (.bin .add (.v 0) (.bin .mul (.v 2) (.v 1))) (.ix (.v 3) (.c (.int 0)))))])::[]) [some (spV p n),some (Zd r),some (Zd o),some (.int k)] [] s=_;have hp:=Vp (p:=p);have hc:=ZC (C:=CV d) (cap:=[3,0]) (nl:=2) (t:=[0,1]) (it:=.zip (.v 1) (.v 2)) (elt:=.bin .mod (.bin .add (.v 0) (.bin .mul (.v 2) (.v 1))) (.ix (.v 3) (.c (.int 0)))) (ρ:=[some (spV p n),some (Zd r),some (Zd o),some (.int k)]) (s:=s) (l:=r.zip o) (e:=λq=>V.tup [.int q.1,.int q.2]) (g:=λq=>V.int ((q.1+k*q.2)%p))
  (by simp[pvE,Zd,WV]) (by rw[NJ,hr.1,ho.1];unfold lim;omega) (λq hq=>by
   have h2:=ho.2 q.2 (NB hq).2;refine⟨_,rfl,?_⟩;have f1:=ZB (a:=k) (by omega) (by omega)
   have f2:=ZB (a:=q.2) (by omega) (by omega)
   have hp0:0<p:=by omega
   have e0:=ix0 (p:=p) (n:=n) (C:=CV d) (i:=3) (ρ:=[some (.int q.1),some (.int q.2),some (.int k),some (spV p n)]) (s:=s) rfl;show pv (CV d) _ [some (.int q.1),some (.int q.2),some (.int k),some (spV p n)] s=_;have g:pv (CV d) (.bin .add (.v 0) (.bin .mul (.v 2) (.v 1))) [some (.int q.1),some (.int q.2),some (.int k),some (spV p n)] s=.ok (.int (q.1+k*q.2)) s:=by simp[pvE,f1,f2]
   rw[pv,g,Zc,e0,Zc];simp[pvF,hp0])
 have e:(r.zip o).map (λq=>V.int ((q.1+k*q.2)%p))=(Xb p r o k).map V.int:=by
  unfold Xb;rw[<-List.map_uncurry_zip_eq_zipWith,P3];rfl
 refine Zt (ZK ?_);rw[pv,Zb hc Zh,e];rfl
theorem law_row_of (d:Nat) (s:DS) (hn:n<=6):∃r s',CV (d+2) 16 [.drw,spV p n] s=.ok (Zd r) s'/\Zm p n r:=by
 have hp:=Vp (p:=p);obtain⟨ys,s',e1,e2,e3⟩:=Qk (C:=CV (d+1)) (cap:=[0,1]) (nl:=1) (t:=[0]) (it:=.rng1 (.ix (.v 1) (.c (.int 1)))) (elt:=.call 2 [(.v 1),(.ix (.v 2) (.c (.int 0)))]) (ρ:=[some .drw,some (spV p n)]) (s:=s) (k:=n) (Q:=λy=>∃a:Int,y=.int a/\0<=a/\a<p)
  (by rw[JX];exact Y2 (ix1 rfl) (by omega)) (by unfold lim;omega) (λx s=>by
   obtain⟨v,s',f1,f2,f3⟩:=xJ (F:=fns) (tk:=2) (d:=d) (m:=p) s (by omega) (by omega)
   refine⟨[some x,some .drw,some (spV p n)],.int v,s',rfl,Zj (Zb (Zf rfl) (Zb (ix0 (p:=p) (n:=n) rfl) Zh)) f1,v,rfl,f2,f3⟩)
 have:∃r:Row,ys=r.map V.int/\∀a∈r,0<=a/\a<(p:Int):=by
  clear e1 e2
  induction ys with
  |nil=>exact⟨[],rfl,λ_ h=>by cases h⟩
  |cons y ys ih=>
   obtain⟨r,h1,h2⟩:=ih λz hz=>e3 z (Pd _ hz)
   obtain⟨a,rfl,h3⟩:=e3 y (Pe ..);refine⟨a::r,by rw[h1];rfl,λx hx=>?_⟩
   rcases Po.mp hx with rfl | hx
   ·exact h3
   ·exact h2 x hx
 obtain⟨r,rfl,h2⟩:=this;refine⟨r,s',Zo (fn:=f__law_row_of) rfl (by decide) rfl ?_,by simpa using e2,h2⟩
 show rvs (CV (d+1)) [] (.ret (.blt .tuple [(.comp1 [0,1] 1 [0] (.rng1 (.ix (.v 1) (.c (.int 1)))) [] (.call 2 [(.v 1),(.ix (.v 2) (.c (.int 0)))]))])::[]) [some .drw,some (spV p n)] [] s=_;refine Zt (ZK ?_);rw[pv,Zb e1 Zh];rfl
noncomputable def qU:List Sm:=[.asg [5] (.comp1 [4] 1 [0] (.of (.v 2)) [(.cmp .ne (.ix (.v 0) (.v 1)) (.c (.int 0)))] (.v 0)),
  .ite (.cmp .ne (.v 5) (.lst [])) [.asg [6] (.ix (.comp1 [5,4,0] 1 [0] (.rng1 (.ix (.v 0) (.c (.int 0)))) [(.cmp .eq (.bin .mod (.bin .mul (.v 0) (.ix (.ix (.v 1) (.c (.int 0))) (.v 2))) (.ix (.v 3) (.c (.int 0)))) (.c (.int 1)))] (.v 0)) (.c (.int 0))),
  .asg [7] (.blt .tuple [(.comp1 [6,0] 1 [0] (.of (.ix (.v 5) (.c (.int 0)))) [] (.bin .mod (.bin .mul (.v 1) (.v 0)) (.ix (.v 2) (.c (.int 0)))))]),
  .asg [2] (.comp1 [0,7,4] 1 [0] (.of (.v 2)) [] (.call 14 [(.v 1),(.v 0),(.v 2),(.neg (.ix (.v 0) (.v 3)))])),
  .asg [3] (.bin .add (.comp1 [0,7,4] 1 [0] (.of (.v 3)) [] (.call 14 [(.v 1),(.v 0),(.v 2),(.neg (.ix (.v 0) (.v 3)))])) (.lst [(.v 7)]))] []]
theorem vX (d:Nat) {rest found:List Row}{j:Nat}{v:V}{a5 a6 a7:Option V}(s:DS) (hn:n<=6) (hj:j<n) (hR:Red p n j rest found) (hl:rest.length<=1000) (hl2:found.length<=1000):∃rest' found' b5 b6 b7,rvs (CV (d+1)) [] qU [some (spV p n),some v,some (.lst (rest.map Zd)),some (.lst (found.map Zd)),some (Ze j),a5,a6,a7] [] s=.ok (.nx [some (spV p n),some v,some (.lst (rest'.map Zd)),some (.lst (found'.map Zd)),some (Ze j),b5,b6,b7] []) s/\Red p n (j+1) rest' found'/\rest'.length=rest.length/\found'.length<=found.length+1:=by
 have hp:=Vp (p:=p);have hatj:∀r∈rest,at' (r.map V.int) (j:Int)=some (.int (gt r j)):=λr hr=>Xk (by rw[(hR.row r hr).1];exact hj)
 have hc1:=Ym (C:=CV (d+1)) (cap:=[4]) (nl:=1) (t:=[0]) (it:=.of (.v 2)) (tst:=.cmp .ne (.ix (.v 0) (.v 1)) (.c (.int 0))) (elt:=.v 0) (ρ:=[some (spV p n),some v,some (.lst (rest.map Zd)),some (.lst (found.map Zd)),some (Ze j),a5,a6,a7]) (s:=s) (l:=rest) (e:=Zd) (g:=Zd) (q:=λr=>decide (gt r j≠0))
  (by simp[pvE]) (by unfold lim;omega) (λr hr=>⟨[some (Zd r),some (Ze j)],.bl (decide (gt r j≠0)),rfl,by
   have:=hatj r hr;simp[pvE,Zd,Ze,this,Zk],rfl,λ_=>Zf rfl⟩)
 unfold qU;rw[Zg (ZY hc1 rfl)];show ∃rest' found' b5 b6 b7,rvs (CV (d+1)) [] _ [some (spV p n),some v,some (.lst (rest.map Zd)),some (.lst (found.map Zd)),some (Ze j),some (.lst ((rest.filter λr=>decide (gt r j≠0)).map Zd)),_,_] [] s=_/\_
 cases q:rest.filter λr=>decide (gt r j≠0) with
 |nil=>
  refine⟨rest,found,some (.lst ([].map Zd)),a6,a7,?_,vW hR λr hr=>?_,rfl,by omega⟩
  ·have e1:Vj (CV (d+1)) (.cmp .ne (.v 5) (.lst [])) [some (spV p n),some v,some (.lst (rest.map Zd)),some (.lst (found.map Zd)),some (Ze j),some (.lst ([].map Zd)),a6,a7] s=.ok false s:=by
    refine UT (v:=.bl false) ?_ rfl;rw[pv,Zf (v:=.lst []) rfl];simp[pvE,Zk,Ws]
   rw[Zg ((Um e1).trans (by rw[Pi (by simp),rvs])),rvs]
  ·have:=List.filter_eq_nil_iff.mp q r hr
   simpa using this
 |cons f fs=>
  have hf:f∈rest/\gt f j≠0:=by
   have:f∈rest.filter λr=>decide (gt r j≠0):=by rw[q];exact Pe ..
   rw[List.mem_filter] at this;exact⟨this.1,by simpa using this.2⟩
  have hfr:=hR.row f hf.1;have hg:=YV ppos hfr j;obtain⟨io1,io2⟩:=v8 (p:=p) (a:=gt f j) (by omega) hg.2
  have hl1:Zm p n (lead p f j):=X4 hfr;have hi:0<=Yk p (gt f j)/\Yk p (gt f j)<1000:=by
   unfold Yk
   repeat' split
   all_goals omega
  let ρ0:Env:=[some (spV p n),some v,some (.lst (rest.map Zd)),some (.lst (found.map Zd)),some (Ze j),some (.lst ((f::fs).map Zd)),a6,a7]
  have e1:Vj (CV (d+1)) (.cmp .ne (.v 5) (.lst [])) ρ0 s=.ok true s:=by
   refine UT (v:=.bl true) ?_ rfl;rw[pv,Zf (v:=.lst ((f::fs).map Zd)) rfl];simp[pvE,Zk]
  have ef:pv (CV (d+1)) (.ix (.v 5) (.c (.int 0))) ρ0 s=.ok (Zd f) s:=by
   exact V0 (Zf rfl)
  have hatf:=Xk (r:=f) (k:=j) (by rw[hfr.1];exact hj)
  have hc2:=Ym (C:=CV (d+1)) (cap:=[5,4,0]) (nl:=1) (t:=[0]) (it:=.rng1 (.ix (.v 0) (.c (.int 0)))) (tst:=.cmp .eq (.bin .mod (.bin .mul (.v 0) (.ix (.ix (.v 1) (.c (.int 0))) (.v 2))) (.ix (.v 3) (.c (.int 0)))) (.c (.int 1))) (elt:=.v 0) (ρ:=ρ0) (s:=s) (l:=List.range p) (e:=Ze) (g:=Ze) (q:=λk=>decide ((k:Int)*gt f j%p=1))
   (Y2 (ix0 rfl) (by omega)) (by rw[PY];unfold lim;omega) (λk hk=>⟨[some (Ze k),some (.lst ((f::fs).map Zd)),some (Ze j),some (spV p n)],.bl (decide ((k:Int)*gt f j%p=1)),rfl,by
    have hk':=PU.mp hk;have f1:=ZB (a:=(k:Int)) (by omega) (by omega)
    have f2:=ZB (a:=gt f j) (by omega) (by omega)
    have g1:pv (CV (d+1)) (.ix (.ix (.v 1) (.c (.int 0))) (.v 2)) [some (Ze k),some (.lst ((f::fs).map Zd)),some (Ze j),some (spV p n)] s=.ok (.int (gt f j)) s:=by
     have g0:pv (CV (d+1)) (.ix (.v 1) (.c (.int 0))) [some (Ze k),some (.lst ((f::fs).map Zd)),some (Ze j),some (spV p n)] s=.ok (Zd f) s:=by
      exact V0 (Zf rfl)
     rw[pv,g0,Zc,Zf (v:=Ze j) rfl,Zc];show po (at' (f.map V.int) (j:Int)) s=_;rw[hatf];rfl
    have g2:=ix0 (p:=p) (n:=n) (C:=CV (d+1)) (i:=3) (ρ:=[some (Ze k),some (.lst ((f::fs).map Zd)),some (Ze j),some (spV p n)]) (s:=s) rfl;have g3:pv (CV (d+1)) (.bin .mul (.v 0) (.ix (.ix (.v 1) (.c (.int 0))) (.v 2))) [some (Ze k),some (.lst ((f::fs).map Zd)),some (Ze j),some (spV p n)] s=.ok (.int ((k:Int)*gt f j)) s:=by
     rw[pv,Zf (v:=Ze k) rfl,Zc,g1,Zc];simp[Ze,VS,f1,f2]
    have hp0:0<p:=by omega
    rw[pv,pv,g3,Zc,g2,Zc];simp[pvE,Zk,hp0],rfl,λ_=>Zf rfl⟩)
  rw[io1] at hc2;have e6:pv (CV (d+1)) (.ix (.comp1 [5,4,0] 1 [0] (.rng1 (.ix (.v 0) (.c (.int 0)))) [(.cmp .eq (.bin .mod (.bin .mul (.v 0) (.ix (.ix (.v 1) (.c (.int 0))) (.v 2))) (.ix (.v 3) (.c (.int 0)))) (.c (.int 1)))] (.v 0)) (.c (.int 0))) ρ0 s=.ok (.int (Yk p (gt f j))) s:=by
   have:=V0 hc2;rw[Ze,io2] at this;exact this
  let ρ1:Env:=[some (spV p n),some v,some (.lst (rest.map Zd)),some (.lst (found.map Zd)),some (Ze j),some (.lst ((f::fs).map Zd)),some (.int (Yk p (gt f j))),a7]
  have ef1:pv (CV (d+1)) (.ix (.v 5) (.c (.int 0))) ρ1 s=.ok (Zd f) s:=by
   exact V0 (Zf rfl)
  have hc3:=ZC (C:=CV (d+1)) (cap:=[6,0]) (nl:=1) (t:=[0]) (it:=.of (.ix (.v 5) (.c (.int 0)))) (elt:=.bin .mod (.bin .mul (.v 1) (.v 0)) (.ix (.v 2) (.c (.int 0)))) (ρ:=ρ1) (s:=s) (l:=f) (e:=V.int) (g:=λa=>V.int (Yk p (gt f j)*a%p))
   (by rw[pvw,ef1];rfl) (by rw[hfr.1];unfold lim;omega) (λa ha=>⟨[some (.int a),some (.int (Yk p (gt f j))),some (spV p n)],rfl,by
    have h2:=hfr.2 a ha;have f1:=ZB (a:=Yk p (gt f j)) (by omega) (by omega)
    have f2:=ZB (a:=a) (by omega) (by omega)
    have g2:=ix0 (p:=p) (n:=n) (C:=CV (d+1)) (i:=2) (ρ:=[some (.int a),some (.int (Yk p (gt f j))),some (spV p n)]) (s:=s) rfl;have hp0:0<p:=by omega
    have g:pv (CV (d+1)) (.bin .mul (.v 1) (.v 0)) [some (.int a),some (.int (Yk p (gt f j))),some (spV p n)] s=.ok (.int (Yk p (gt f j)*a)) s:=by simp[pvE,f1,f2]
    rw[pv,g,Zc,g2,Zc];simp[pvF,hp0]⟩)
  have el:f.map (λa=>V.int (Yk p (gt f j)*a%p))=(lead p f j).map V.int:=by unfold lead Xo;rw[P3];rfl
  rw[el] at hc3;have e7:pv (CV (d+1)) (.blt .tuple [(.comp1 [6,0] 1 [0] (.of (.ix (.v 5) (.c (.int 0)))) [] (.bin .mod (.bin .mul (.v 1) (.v 0)) (.ix (.v 2) (.c (.int 0)))))]) ρ1 s=.ok (Zd (lead p f j)) s:=by
   rw[pv,Zb hc3 Zh];rfl
  let ρ2:Env:=[some (spV p n),some v,some (.lst (rest.map Zd)),some (.lst (found.map Zd)),some (Ze j),some (.lst ((f::fs).map Zd)),some (.int (Yk p (gt f j))),some (Zd (lead p f j))]
  have elt:∀r:Row,Zm p n r->pv (CV (d+1)) (.call 14 [(.v 1),(.v 0),(.v 2),(.neg (.ix (.v 0) (.v 3)))]) [some (Zd r),some (spV p n),some (Zd (lead p f j)),some (Ze j)] s=.ok (Zd (clr p r (lead p f j) j)) s:=λr hr=>by
   have hgr:=YV ppos hr j;have h3:=Xk (r:=r) (k:=j) (by rw[hr.1];exact hj)
   have g1:pv (CV (d+1)) (.neg (.ix (.v 0) (.v 3))) [some (Zd r),some (spV p n),some (Zd (lead p f j)),some (Ze j)] s=.ok (.int (-(gt r j))) s:=by
    simp[pvE,Zd,Ze,h3]
   exact Zj (Zb (Zf rfl) (Zb (Zf rfl) (Zb (Zf rfl) (Zb g1 Zh)))) (law_plus d s hn hr hl1 ⟨by omega,by omega⟩)
  have hc4:=ZC (C:=CV (d+1)) (cap:=[0,7,4]) (nl:=1) (t:=[0]) (it:=.of (.v 2)) (elt:=.call 14 [(.v 1),(.v 0),(.v 2),(.neg (.ix (.v 0) (.v 3)))]) (ρ:=ρ2) (s:=s) (l:=rest) (e:=Zd) (g:=λr=>Zd (clr p r (lead p f j) j))
   (by rw[pvw,Zf (v:=.lst (rest.map Zd)) rfl];rfl) (by unfold lim;omega) (λr hr=>⟨_,rfl,elt r (hR.row r hr)⟩)
  let ρ3:Env:=[some (spV p n),some v,some (.lst (rest.map λr=>Zd (clr p r (lead p f j) j))),some (.lst (found.map Zd)),some (Ze j),some (.lst ((f::fs).map Zd)),some (.int (Yk p (gt f j))),some (Zd (lead p f j))]
  have hc5:=ZC (C:=CV (d+1)) (cap:=[0,7,4]) (nl:=1) (t:=[0]) (it:=.of (.v 3)) (elt:=.call 14 [(.v 1),(.v 0),(.v 2),(.neg (.ix (.v 0) (.v 3)))]) (ρ:=ρ3) (s:=s) (l:=found) (e:=Zd) (g:=λr=>Zd (clr p r (lead p f j) j))
   (by rw[pvw,Zf (v:=.lst (found.map Zd)) rfl];rfl) (by unfold lim;omega) (λr hr=>⟨_,rfl,elt r (hR.part.row r hr)⟩)
  have e9:pv (CV (d+1)) (.bin .add (.comp1 [0,7,4] 1 [0] (.of (.v 3)) [] (.call 14 [(.v 1),(.v 0),(.v 2),(.neg (.ix (.v 0) (.v 3)))])) (.lst [(.v 7)])) ρ3 s=.ok (.lst ((found.map λr=>Zd (clr p r (lead p f j) j))++[Zd (lead p f j)])) s:=by
   have hll:pv (CV (d+1)) (.lst [(.v 7)]) ρ3 s=.ok (.lst [Zd (lead p f j)]) s:=by
    rw[pv,Zb (Zf (v:=Zd (lead p f j)) rfl) Zh,Zc,Ph (by simp[lim])]
   rw[pv,hc5,Zc,hll,Zc];show (if (found.map λr=>Zd (clr p r (lead p f j) j)).length+[Zd (lead p f j)].length<=lim then _ else _)=_
   rw[Ph (by rw[Pk,Nb];unfold lim;omega)]
  refine⟨rest.map λr=>clr p r (lead p f j) j,found.map (λr=>clr p r (lead p f j) j)++[lead p f j],some (.lst ((f::fs).map Zd)),some (.int (Yk p (gt f j))),some (Zd (lead p f j)),?_,vV hR hj hf.1 hf.2,by rw[Pk],by simp⟩
  rw[Zg (ρ':=[some (spV p n),some v,some (.lst (rest.map λr=>Zd (clr p r (lead p f j) j))),some (.lst ((found.map λr=>Zd (clr p r (lead p f j) j))++[Zd (lead p f j)])),some (Ze j),some (.lst ((f::fs).map Zd)),some (.int (Yk p (gt f j))),some (Zd (lead p f j))]) (os':=[]) (s':=s) ((Um e1).trans (by
   rw[Ph rfl,Zg (ZY e6 rfl)];show rvs _ _ _ ρ1 [] s=_;rw[Zg (ZY e7 rfl)];show rvs _ _ _ ρ2 [] s=_;rw[Zg (ZY hc4 rfl)];show rvs _ _ _ ρ3 [] s=_;rw[Zg (ZY e9 rfl),rvs];rfl)),rvs]
  rw[P3,List.map_append,P3];rfl
theorem zF {n j:Nat}{x:Nat}{l:List Nat}(h:x::l=(List.range n).drop j):x=j/\j<n/\l=(List.range n).drop (j+1):=by
 have hj:j<n:=by
  by_cases c:j<n
  ·exact c
  ·rw[List.drop_eq_nil_of_le (by rw[PY];omega)] at h;cases h
 rw[ND (by rw[PY];exact hj)] at h
 injection h with h1 h2
 exact⟨by rw[h1,List.getElem_range],hj,h2⟩
theorem law_reduced (d:Nat) {R:List Row}(s:DS) (hn:n<=6) (hR:∀r∈R,Zm p n r) (hl:R.length<=1000):∃P,CV (d+2) 15 [spV p n,.lst (R.map Zd)] s=.ok (Za P) s/\Part p n P:=by
 let I:List Nat->Env->Prop:=λl ρ=>∃rest found j a4 a5 a6 a7,ρ=[some (spV p n),some (.lst (R.map Zd)),some (.lst (rest.map Zd)),some (.lst (found.map Zd)),a4,a5,a6,a7]/\l=(List.range n).drop j/\Red p n j rest found/\rest.length<=1000/\found.length<=j
 obtain⟨ρ',hI,e⟩:=jc (C:=CV (d+1)) (ms:=[]) (t:=[4]) (it:=.rng1 (.ix (.v 0) (.c (.int 1)))) (b:=qU) (L:=List.range n) (e:=Ze) (os:=[]) (s:=s) (ρ:=[some (spV p n),some (.lst (R.map Zd)),some (.lst (R.map Zd)),some (.lst []),none,none,none,none]) I
  (Y2 (ix1 rfl) (by omega)) ⟨R,[],0,none,none,none,none,rfl,rfl,⟨hR,λr _ i hi=>by omega,Part.nil,λr hr=>by cases hr⟩,hl,Pl _⟩ rfl (λx l ρ hx=>by
   obtain⟨rest,found,j,a4,a5,a6,a7,rfl,hl',hred,h1,h2⟩:=hx;obtain⟨rfl,hj,hl2⟩:=zF hl';obtain⟨rest',found',b5,b6,b7,e1,e2,e3,e4⟩:=vX (p:=p) (n:=n) d (rest:=rest) (found:=found) (j:=x) (v:=.lst (R.map Zd)) (a5:=a5) (a6:=a6) (a7:=a7) s hn hj hred h1 (by omega)
   exact⟨rfl,_,_,rfl,e1,rest',found',x+1,_,_,_,_,rfl,hl2,e2,by omega,by omega⟩)
 obtain⟨rest,found,j,a4,a5,a6,a7,rfl,_,hred,_,_⟩:=hI;refine⟨found,Zo (fn:=f__law_reduced) rfl (by decide) rfl ?_,hred.part⟩
 show rvs (CV (d+1)) [] (.asg [2] (.blt .list [(.v 1)]) :: .asg [3] (.lst []) :: .forr [4] (.rng1 (.ix (.v 0) (.c (.int 1)))) qU :: .ret (.blt .tuple [(.v 3)])::[]) [some (spV p n),some (.lst (R.map Zd)),none,none,none,none,none,none] [] s=_;rw[Zg (ρ':=[some (spV p n),some (.lst (R.map Zd)),some (.lst (R.map Zd)),none,none,none,none,none]) (os':=[]) (s':=s) (by simp[pvE])]
 rw[Zg (ρ':=[some (spV p n),some (.lst (R.map Zd)),some (.lst (R.map Zd)),some (.lst []),none,none,none,none]) (os':=[]) (s':=s) (by simp[pvE])]
 rw[Zg e];exact Zt (ZK (by simp[pvE,Za]))
theorem law_part (d:Nat) (s:DS) (hn:n<=6):∃P s',CV (d+3) 17 [.drw,spV p n] s=.ok (Za P) s'/\Part p n P:=by
 obtain⟨v,s1,f1,f2,f3⟩:=xJ (F:=fns) (tk:=2) (d:=d+1) (m:=(n:Int)+1) s (by omega) (by omega)
 obtain⟨k,rfl⟩:∃k:Nat,v=k:=⟨v.toNat,by omega⟩
 obtain⟨ys,s2,e1,e2,e3⟩:=Qk (C:=CV (d+2)) (cap:=[0,1]) (nl:=1) (t:=[0]) (it:=.rng1 (.v 2)) (elt:=.call 16 [(.v 1),(.v 2)]) (ρ:=[some .drw,some (spV p n),some (.int k)]) (s:=s1) (k:=k) (Q:=λy=>∃r:Row,y=Zd r/\Zm p n r)
  (by rw[JX];exact Y2 (Zf rfl) (by omega)) (by unfold lim;omega) (λx s=>by
   obtain⟨r,s',g1,g2⟩:=law_row_of (p:=p) (n:=n) d s hn;exact⟨[some x,some .drw,some (spV p n)],Zd r,s',rfl,Zj (Zb (Zf rfl) (Zb (Zf rfl) Zh)) g1,r,rfl,g2⟩)
 have:∃R:List Row,ys=R.map Zd/\∀r∈R,Zm p n r:=by
  clear e1 e2
  induction ys with
  |nil=>exact⟨[],rfl,λ_ h=>by cases h⟩
  |cons y ys ih=>
   obtain⟨r,h1,h2⟩:=ih λz hz=>e3 z (Pd _ hz)
   obtain⟨a,rfl,h3⟩:=e3 y (Pe ..);refine⟨a::r,by rw[h1];rfl,λx hx=>?_⟩
   rcases Po.mp hx with rfl | hx
   ·exact h3
   ·exact h2 x hx
 obtain⟨R,rfl,hR⟩:=this;rw[Pk] at e2;obtain⟨P,e4,hP⟩:=law_reduced (p:=p) (n:=n) d s2 hn hR (by omega)
 refine⟨P,s2,Zo (fn:=f__law_part) rfl (by decide) rfl ?_,hP⟩
 show rvs (CV (d+2)) [] (.asg [2] (.call 2 [(.v 0),(.bin .add (.ix (.v 1) (.c (.int 1))) (.c (.int 1)))]) :: .ret (.call 15 [(.v 1),(.comp1 [0,1] 1 [0] (.rng1 (.v 2)) [] (.call 16 [(.v 1),(.v 2)]))])::[]) [some .drw,some (spV p n),none] [] s=_;have g1:pv (CV (d+2)) (.bin .add (.ix (.v 1) (.c (.int 1))) (.c (.int 1))) [some .drw,some (spV p n),none] s=.ok (.int ((n:Int)+1)) s:=by
  rw[pv,ix1 (p:=p) (n:=n) rfl];simp[pvE]
 rw[Zg (ZY (Zj (Zb (Zf rfl) (Zb g1 Zh)) f1) rfl)];exact Zt (ZK (Zj (Zb (Zf rfl) (Zb e1 Zh)) e4))
end
section
variable {C:Zv}{ρ:Env}{s:DS}{a b:E}
theorem Zcb {c:Bool}(h1:pv C a ρ s=.ok (.bl false) s) (h2:pv C b ρ s=.ok (.bl c) s):pv C (.or a b) ρ s=.ok (.bl c) s:=by rw[pv,h1];exact h2
theorem Zbr {c c':Bool}(h1:pv C a ρ s=.ok (.bl c) s) (h2:pv C b ρ s=.ok (.bl c') s):pv C (.and a b) ρ s=.ok (.bl (c&&c')) s:=by
 rw[pv,h1];cases c
 ·rfl
 ·exact h2
theorem jA {P Q:List Row}(h1:pv C a ρ s=.ok (Za P) s) (h2:pv C b ρ s=.ok (Za Q) s):pv C (.cmp .ne a b) ρ s=.ok (.bl !decide (P=Q)) s:=by
 rw[pv,h1,Zc,h2,Zc];show po ((eqV Zk (Za P) (Za Q)).map λb=>V.bl !b) s=_
 rw[Zk,Gg];rfl
theorem Q7 {P Q:List Row}(h1:pv C a ρ s=.ok (Za P) s) (h2:pv C b ρ s=.ok (Za Q) s) (h:P=Q):pv C (.cmp .ne a b) ρ s=.ok (.bl false) s:=by
 rw[jA h1 h2,PD h];rfl
theorem Zah {c c':Bool}(h1:pv C a ρ s=.ok (.bl c) s) (h2:pv C b ρ s=.ok (.bl c') s) (h:c=c'):pv C (.cmp .ne a b) ρ s=.ok (.bl false) s:=by
 subst h;rw[pv,h1,Zc,h2,Zc];cases c <;> rfl
theorem uj (h1:pv C a ρ s=.ok (.bl true) s):pv C (.cmp .isn a (.c (.bl true))) ρ s=.ok (.bl false) s:=by
 rw[pv,h1,Zc,pv];rfl
theorem call1 {f:Nat}{x y:E}{v w r:V}(h1:pv C x ρ s=.ok v s) (h2:pv C y ρ s=.ok w s) (h:C f [v,w] s=.ok r s):pv C (.call f [x,y]) ρ s=.ok r s:=Zj (Zb h1 (Zb h2 Zh)) h
theorem call3 {f:Nat}{x y z:E}{v w u r:V}(h1:pv C x ρ s=.ok v s) (h2:pv C y ρ s=.ok w s) (h3:pv C z ρ s=.ok u s) (h:C f [v,w,u] s=.ok r s):pv C (.call f [x,y,z]) ρ s=.ok r s:=Zj (Zb h1 (Zb h2 (Zb h3 Zh))) h
theorem guard {ms:List Nat}{t:E}{x l:List Sm}(h:pv C t ρ s=.ok (.bl false) s):rvs C ms (.ite t x []::l) ρ [] s=rvs C ms l ρ [] s:=by
 rw[Zg ((Um (UT h rfl)).trans (by rw[Pi (by simp),rvs]))]
theorem GW {P:List Row}(h1:pv C a ρ s=.ok (Za P) s):pv C (.blt .len [a]) ρ s=.ok (.int P.length) s:=by
 rw[pv,Zb h1 Zh,Zc];show po (some (V.int (P.map Zd).length)) s=_;rw[Pk];rfl
theorem GB {x y:Int}(h1:pv C a ρ s=.ok (.int x) s) (h2:pv C b ρ s=.ok (.int y) s):pv C (.bin .add a b) ρ s=.ok (.int (x+y)) s:=by
 rw[pv,h1,Zc,h2,Zc];rfl
theorem ne_int {x y:Int}(h1:pv C a ρ s=.ok (.int x) s) (h2:pv C b ρ s=.ok (.int y) s) (h:x=y):pv C (.cmp .ne a b) ρ s=.ok (.bl false) s:=by
 rw[pv,h1,Zc,h2,Zc];show PR.ok (V.bl !decide (x=y)) s=_;rw[PD h];rfl
end
noncomputable def menu:List (Nat×Nat×Nat):=[(2,2,1),(4,2,2),(8,2,3),(16,2,4),(32,2,5),(64,2,6),(3,3,1),(9,3,2),(27,3,3),(81,3,4),(5,5,1),(25,5,2),(125,5,3)]
theorem qS:∀q∈menu,(q.2.1=2\/q.2.1=3\/q.2.1=5)/\1<=q.2.2/\q.2.2<=6/\q.2∈GG++Vt:=by decide
theorem law_space (d:Nat) {m:Int}(s:DS) (hm:2<=m):∃p n s',CV (d+2) 3 [.drw,.int m] s=.ok (spV p n) s'/\(p=2\/p=3\/p=5)/\1<=n/\n<=6/\(p,n)∈GG++Vt:=by
 let L:=menu.filter λq=>decide ((q.1:Int)<=m)
 have hL:0<L.length:=List.length_pos_of_mem (a:=(2,2,1)) (List.mem_filter.mpr ⟨Pe ..,PD hm⟩);have hL2:L.length<=13:=List.length_filter_le ..;have hc:=Ym (C:=CV (d+1)) (cap:=[1]) (nl:=2) (t:=[0,1]) (it:=.of (.v 2)) (tst:=.cmp .le (.v 0) (.v 2)) (elt:=.v 1) (ρ:=[some .drw,some (.int m),some (.lst (menu.map λq=>.tup [.int q.1,spV q.2.1 q.2.2]))]) (s:=s) (l:=menu) (e:=λq=>.tup [.int q.1,spV q.2.1 q.2.2]) (g:=λq=>spV q.2.1 q.2.2) (q:=λq=>decide ((q.1:Int)<=m))
  (by rw[pvw,Zf (v:=.lst (menu.map λq=>.tup [.int q.1,spV q.2.1 q.2.2])) rfl];rfl) (by decide) (λq _=>⟨[some (.int q.1),some (spV q.2.1 q.2.2),some (.int m)],.bl (decide ((q.1:Int)<=m)),rfl,by
   rw[pv,Zf (v:=.int q.1) rfl,Zc,Zf (v:=.int m) rfl];rfl,rfl,λ_=>Zf rfl⟩)
 obtain⟨v,s',f1,f2,f3⟩:=xJ (F:=fns) (tk:=2) (d:=d) (m:=L.length) s (by omega) (by omega)
 obtain⟨k,rfl⟩:∃k:Nat,v=k:=⟨v.toNat,by omega⟩
 have hk:k<L.length:=by omega
 have hq:=qS _ (List.mem_filter.mp (NH hk)).1;refine⟨L[k].2.1,L[k].2.2,s',Zo (fn:=f__law_space) rfl (by decide) rfl ?_,hq⟩
 show rvs (CV (d+1)) [] (.asg [2] (.lst [(.tup [(.c (.int 2)),(.tup [(.c (.int 2)),(.c (.int 1))])]),(.tup [(.c (.int 4)),(.tup [(.c (.int 2)),(.c (.int 2))])]),(.tup [(.c (.int 8)),(.tup [(.c (.int 2)),(.c (.int 3))])]),(.tup [(.c (.int 16)),(.tup [(.c (.int 2)),(.c (.int 4))])]),(.tup [(.c (.int 32)),(.tup [(.c (.int 2)),(.c (.int 5))])]),(.tup [(.c (.int 64)),(.tup [(.c (.int 2)),(.c (.int 6))])]),(.tup [(.c (.int 3)),(.tup [(.c (.int 3)),(.c (.int 1))])]),(.tup [(.c (.int 9)),(.tup [(.c (.int 3)),(.c (.int 2))])])]) ::
  .asg [2] (.bin .add (.v 2) (.lst [(.tup [(.c (.int 27)),(.tup [(.c (.int 3)),(.c (.int 3))])]),(.tup [(.c (.int 81)),(.tup [(.c (.int 3)),(.c (.int 4))])]),(.tup [(.c (.int 5)),(.tup [(.c (.int 5)),(.c (.int 1))])]),(.tup [(.c (.int 25)),(.tup [(.c (.int 5)),(.c (.int 2))])]),(.tup [(.c (.int 125)),(.tup [(.c (.int 5)),(.c (.int 3))])])])) ::
  .asg [2] (.comp1 [1] 2 [0,1] (.of (.v 2)) [(.cmp .le (.v 0) (.v 2))] (.v 1)) ::
  .ret (.ix (.v 2) (.call 2 [(.v 0),(.blt .len [(.v 2)])]))::[]) [some .drw,some (.int m),none] [] s=_
 rw[Zg (ρ':=[some .drw,some (.int m),some (.lst ((menu.take 8).map λq=>.tup [.int q.1,spV q.2.1 q.2.2]))]) (os':=[]) (s':=s) (by simp[pvE,menu,spV])]
 rw[Zg (ρ':=[some .drw,some (.int m),some (.lst (menu.map λq=>.tup [.int q.1,spV q.2.1 q.2.2]))]) (os':=[]) (s':=s) (by simp[pvE,menu,spV])]
 rw[Zg (ZY hc rfl)];show rvs _ _ _ [some .drw,some (.int m),some (.lst (L.map λq=>spV q.2.1 q.2.2))] _ _=_
 refine Zt (ZK ?_);have e1:pv (CV (d+1)) (.blt .len [(.v 2)]) [some .drw,some (.int m),some (.lst (L.map λq=>spV q.2.1 q.2.2))] s=.ok (.int L.length) s:=by
  rw[pv,Zb (Zf (v:=.lst (L.map λq=>spV q.2.1 q.2.2)) rfl) Zh,Zc]
  show po (some (V.int (L.map λq=>spV q.2.1 q.2.2).length)) s=_
  rw[Pk];rfl
 rw[pv,Zf (v:=.lst (L.map λq=>spV q.2.1 q.2.2)) rfl,Zc,Zj (Zb (Zf rfl) (Zb e1 Zh)) f1,Zc]
 show po (at' (L.map λq=>spV q.2.1 q.2.2) (k:Int)) s'=_
 rw[Jt (x:=spV L[k].2.1 L[k].2.2) (by rw[PF,Pc hk];rfl)];rfl
section
variable {p n:Nat}[Base p]
theorem Gx (d:Nat) {P:List Row}{h:Nat}(s:DS) (hP:∀r∈P,Zm p n r) (hl:P.length<=1000) (hh:h<n):CV (d+1) 7 [Za P,Ze h] s=.ok (.bl (P.all λr=>decide (gt r h=0))) s:=by
 refine Zo (fn:=Yq) rfl (by decide) rfl ?_
 have hc:=ZC (C:=CV d) (cap:=[1]) (nl:=1) (t:=[0]) (it:=.of (.v 0)) (elt:=.cmp .eq (.ix (.v 0) (.v 1)) (.c (.int 0))) (ρ:=[some (Za P),some (Ze h)]) (s:=s) (l:=P) (e:=Zd) (g:=λr=>V.bl (decide (gt r h=0)))
  (by simp[pvE,Za]) (by unfold lim;omega) (λr hr=>⟨_,rfl,by
   have:=Xk (r:=r) (k:=h) (by rw[(hP r hr).1];exact hh)
   simp[pvE,Zd,Ze,this,Zk]⟩)
 have ht:=Yb (g:=λr:Row=>decide (gt r h=0)) P
 simp[Yq,pvE,hc,ht,List.all_map,Function.comp]
theorem yi (d:Nat) {i lo hi:Int}(s:DS) (h1:lo<=i) (h2:i<=hi):CV (d+2) 5 [.int i,.int lo,.int hi] s=.ok .non s:=by
 have e:=ze d i lo hi s;refine VZ (fn:=Xx) (ρ:=[some (.int i),some (.int lo),some (.int hi)]) (os:=[]) rfl (by decide) rfl ?_
 show rvs (CV (d+1)) [] _ [some (.int i),some (.int lo),some (.int hi)] [] s=_;simp[Xx,pvE,e,h1,h2]
theorem zeros (h:Nat):(List.replicate h [V.int 0]).flatten=(List.replicate h (0:Int)).map V.int:=by
 induction h with
 |zero=>rfl
 |succ k ih=>rw[PZ,P6,ih];rfl
theorem uA {C:Zv}{ρ:Env}{s:DS}{a b:E}{i j:Nat}(h1:pv C a ρ s=.ok (.int i) s) (h2:pv C b ρ s=.ok (.int j) s) (hi:i<1000000) (hj:j<1000000):pvw C (.rng2 a b) ρ s=.ok ((List.range (j-i)).map λk=>Ze (i+k)) s:=by
 rw[pvw,h1,Zc,h2,Zc];show (if (small (i:Int)&&small (j:Int))=true then PR.ok (Yv i ((j:Int)-i).toNat) s else .no)=_
 rw[Xf (by omega) (by omega),Xf (by omega) (by omega),Ph (show (true&&true)=true from rfl),show ((j:Int)-i).toNat=j-i by omega]
 rfl
theorem Gw (d:Nat) {h:Nat}(s:DS) (hn:n<=6) (hh:h<n):CV (d+1) 6 [spV p n,Ze h] s=.ok (.lst ((ZQ p n h).map Zd)) s:=by
 refine Zo (fn:=Wn) rfl (by decide) rfl ?_
 show rvs (CV d) [] (.asg [2,3] (.v 0) :: .asg [4] (.lst [(.bin .add (.bin .mul (.tup [(.c (.int 0))]) (.v 1)) (.tup [(.c (.int 1))]))]) :: .forr [5] (.rng2 (.bin .add (.v 1) (.c (.int 1))) (.v 3)) [.asg [4] (.comp2 [2] 2 [0] (.of (.v 4)) [] [1] (.rng1 (.v 2)) [] (.bin .add (.v 0) (.tup [(.v 1)])))] :: .ret (.v 4)::[]) [some (spV p n),some (Ze h),none,none,none,none] [] s=_;have hp:=Vp (p:=p);rw[Zg (Yp (p:=p) (n:=n) _ _ (by simp[pvE]) (by simp))]
 have er:=zeros h;rw[Zg (ρ':=[some (spV p n),some (Ze h),some (.int p),some (.int n),some (.lst ([List.replicate h (0:Int)++[1]].map Zd)),none]) (os':=[]) (s':=s) (by
  have h1:(h:Int)<1000:=by omega
  have h2:h+1<=lim:=by unfold lim;omega
  have h3:(List.replicate h (V.int 0)).length+1<=16777216:=by rw[Nn];omega
  rw[List.map_replicate] at er;have h4:h<=16777215:=by omega
  simp[pvE,Ze,h1,er,Zd,h4])]
 obtain⟨o',hI,e⟩:=QZ (C:=CV d) (ms:=[]) (t:=[5]) (it:=.rng2 (.bin .add (.v 1) (.c (.int 1))) (.v 3)) (b:=[.asg [4] (.comp2 [2] 2 [0] (.of (.v 4)) [] [1] (.rng1 (.v 2)) [] (.bin .add (.v 0) (.tup [(.v 1)])))]) (L:=List.range (n-(h+1))) (e:=λk=>Ze (h+1+k)) (step:=λrs _=>XL p rs) (ρ:=λst o=>[some (spV p n),some (Ze h),some (.int p),some (.int n),some (.lst (st.map Zd)),o]) (st:=[List.replicate h (0:Int)++[1]]) (o:=none) (os:=[]) (s:=s) (λl st=>st.length*5^l.length<=15625/\∀r∈st,r.length+l.length<=1000)
  (uA (by simp[pvE,Ze]) (by simp[pvE]) (by omega) (by omega)) ⟨by
   have:5^(n-(h+1))<=5^6:=Nat.pow_le_pow_right (by omega) (by omega)
   simp only[Nb,PY];omega,λr hr=>by rw[P4.mp hr];simp;omega⟩ rfl (λx l st o hst=>by
  obtain⟨h3,h4⟩:=hst;have hsl:(XL p st).length=st.length*p:=J3 st;have hb:st.length*p*5^l.length<=15625:=by
   have:st.length*p<=st.length*5:=Nat.mul_le_mul_left _ (by omega)
   have h4:st.length*p*5^l.length<=st.length*5*5^l.length:=Nat.mul_le_mul_right _ this;rw[PB,Nat.pow_succ] at h3;have h5:st.length*5*5^l.length=st.length*(5^l.length*5):=by rw[Nat.mul_assoc,Nat.mul_comm 5]
   omega
  have hlim:st.length*p<=15625:=P0 (Nat.le_mul_of_pos_right _ (Nat.pow_pos (by omega))) hb
  refine⟨⟨by rw[hsl];exact hb,λr hr=>?_⟩,rfl,_,some (Ze (h+1+x)),rfl,?_⟩
  ·unfold XL at hr
   obtain⟨q,hq,hr⟩:=List.mem_flatMap.mp hr;obtain⟨k,_,rfl⟩:=PC.mp hr;have:=h4 q hq;rw[PB] at this;rw[PM,Nb];omega
  ·show rvs (CV d) [] _ [some (spV p n),some (Ze h),some (.int p),some (.int n),some (.lst (st.map Zd)),some (Ze (h+1+x))] [] s=_
   have hc:=V8 (C:=CV d) (cap:=[2]) (nl:=2) (t:=[0]) (u:=[1]) (it:=.of (.v 4)) (jt:=.rng1 (.v 2)) (elt:=.bin .add (.v 0) (.tup [(.v 1)])) (ρ:=[some (spV p n),some (Ze h),some (.int p),some (.int n),some (.lst (st.map Zd)),some (Ze (h+1+x))]) (s:=s) (l:=st) (e:=Zd) (m:=λ_=>List.range p) (e2:=Ze) (g:=λr k=>Zd (r++[(k:Int)]))
    (by simp[pvE]) (by rw[List.length_flatMap];simp only[Pk,PY];rw[List.map_const',List.sum_replicate_nat];unfold lim;omega) (λr hr=>⟨_,rfl,by
     exact Y2 (n:=p) (Zf rfl) (by omega),λk hk=>⟨_,rfl,by
     have hr':=h4 r hr;have h6:r.length+1<=16777216:=by omega
     simp[pvE,Zd,Ze,h6]⟩⟩)
   have ef:(st.flatMap λr=>(List.range p).map λ(k:Nat)=>Zd (r++[(k:Int)]))=(XL p st).map Zd:=by
    unfold XL;rw[List.map_flatMap];exact congrArg (λf=>st.flatMap f) (funext λr=>by rw[P3];rfl)
   rw[ef] at hc;rw[Zg (ZY hc rfl),rvs];rfl)
 rw[Zg e];exact Zt (ZK (Zf rfl))
theorem vI {C:Zv}{ρ:Env}{s:DS}{a b:E}{i j:Nat}(h1:pv C a ρ s=.ok (.int i) s) (h2:pv C b ρ s=.ok (.int j) s) (hi:i<1000000) (hj:j<1000000):pvw C (.rrng a b) ρ s=.ok ((Wt j i).map Ze) s:=by
 rw[pvw,h1,Zc,h2,Zc];show (if (small (i:Int)&&small (j:Int))=true then PR.ok (Yv i ((j:Int)-i).toNat).reverse s else .no)=_
 rw[Xf (by omega) (by omega),Xf (by omega) (by omega),Ph (show (true&&true)=true from rfl),show ((j:Int)-i).toNat=j-i by omega]
 unfold Wt Yv;rw[List.map_reverse,P3];rfl
theorem jw {r:Row}{P:List Row}:at' ((P++[r]).map Zd) (-1)=some (Zd r):=by
 have e:ixN ((P++[r]).map Zd).length (-1)=some P.length:=by
  rw[Pk,PM,Nb];unfold ixN;rw[Pi (by omega),Ph (by omega),show (-1+((P.length+1:Nat):Int)).toNat=P.length by omega]
 unfold at';rw[e];show ((P++[r]).map Zd)[P.length]? = _;rw[PF,PN (Pl _),Nat.sub_self];rfl
theorem ui (d:Nat) {P:List Row}{v:V}{a2 a3 a4:Option V}(s:DS) (hP:Part p n P):pv (CV (d+1)) (.ite (.v 1) (.bin .add (.call 8 [(.ix (.v 1) (.neg (.c (.int 1))))]) (.c (.int 1))) (.c (.int 0))) [some v,some (Za P),a2,a3,a4] s=.ok (Ze (Z1 P)) s:=by
 unfold Z1;cases e:P.getLast? with
 |none=>
  rw[List.getLast?_eq_none_iff] at e;subst e;simp[pvE,Za,Ze]
 |some r=>
  obtain⟨P',rfl⟩:=List.getLast?_eq_some_iff.mp e;obtain⟨k,h1,h2,h3⟩:=hP.head fld.one0 (r:=r) (by simp)
  have e1:=Xv d r s;rw[h1] at e1;have e2:pv (CV (d+1)) (.ix (.v 1) (.neg (.c (.int 1)))) [some v,some (Za (P'++[r])),a2,a3,a4] s=.ok (Zd r) s:=by
   have:=jw (r:=r) (P:=P');simp only[List.map_append,PL,List.map_nil] at this;simp[pvE,Za,this]
  have e3:pv (CV (d+1)) (.call 8 [(.ix (.v 1) (.neg (.c (.int 1))))]) [some v,some (Za (P'++[r])),a2,a3,a4] s=.ok (.int k) s:=Zj (Zb e2 Zh) e1;have e4:pv (CV (d+1)) (.v 1) [some v,some (Za (P'++[r])),a2,a3,a4] s=.ok (Za (P'++[r])) s:=Zf rfl;rw[pv,e4,Zc];show (po (some (!((P'++[r]).map Zd).isEmpty)) s).bind _=_;have:((P'++[r]).map Zd).isEmpty=false:=by cases P' <;> rfl
  rw[this,ZV,Zc];show pv (CV (d+1)) (.bin .add _ _) _ s=_;rw[pv,e3,Zc,pv];simp[h1,pvE,Ze]
theorem VN:∀L:List Row,flats (L.map Zd)=true
 |[]=>rfl
 |r::L=>by
  show (V.flat (Zd r)&&flats (L.map Zd))=true;rw[VN L,Bool.and_true];exact Xl r
theorem Gp (d:Nat) {P:List Row}(s:DS) (hn:n<=6) (hP:Part p n P):CV (d+2) 9 [.lst ((List.range n).map λh=>.lst ((ZQ p n h).map Zd)),Za P] s=.ok (.lst ((Qh p n P).map Zd)) s:=by
 refine Zo (fn:=Wq) rfl (by decide) rfl ?_
 have hd:=dsum hP;have hp:=Vp (p:=p)
 let v:V:=.lst ((List.range n).map λh=>.lst ((ZQ p n h).map Zd))
 show rvs (CV (d+1)) [3] (.asg [2] (.ite (.v 1) (.bin .add (.call 8 [(.ix (.v 1) (.neg (.c (.int 1))))]) (.c (.int 1))) (.c (.int 0))) :: .asg [3] (.lst []) :: .forr [4] (.rrng (.v 2) (.blt .len [(.v 0)])) [.ite (.call 7 [(.v 1),(.v 4)]) [.ex (.mt .extend (.v 3) [(.ix (.v 0) (.v 4))])] []] :: .ret (.v 3)::[]) [some v,some (Za P),none,none,none] [] s=_;rw[Zg (ZY (ui d s hP) rfl)];show rvs (CV (d+1)) [3] _ [some v,some (Za P),some (Ze (Z1 P)),none,none] [] s=_;rw[Zg (ρ':=[some v,some (Za P),some (Ze (Z1 P)),some (.lst (([]:List Row).map Zd)),none]) (os':=[3]) (s':=s) (by
  rw[rv];simp[pvE];rfl)]
 have hf:Z1 P<=n:=by
  unfold Z1;cases e:P.getLast? with
  |none=>exact Nat.zero_le _
  |some r=>
   obtain⟨P',rfl⟩:=List.getLast?_eq_some_iff.mp e;have:=hP.pn.lt _ (Yh (p:=p) (show r∈P'++[r] by simp))
   exact this
 obtain⟨o',hI,e⟩:=QZ (C:=CV (d+1)) (ms:=[3]) (t:=[4]) (it:=.rrng (.v 2) (.blt .len [(.v 0)])) (b:=[.ite (.call 7 [(.v 1),(.v 4)]) [.ex (.mt .extend (.v 3) [(.ix (.v 0) (.v 4))])] []]) (L:=Wt n (Z1 P)) (e:=Ze) (step:=z9 p n P) (ρ:=λst o=>[some v,some (Za P),some (Ze (Z1 P)),some (.lst (st.map Zd)),o]) (st:=[]) (o:=none) (os:=[3]) (s:=s) (λl st=>(∀h∈l,h<n)/\st.length+15625*l.length<=100000)
  (by
   have e1:pv (CV (d+1)) (.blt .len [(.v 0)]) (hide [3] [some v,some (Za P),some (Ze (Z1 P)),some (.lst (([]:List Row).map Zd)),none]) s=.ok (.int n) s:=by
    simp[pvE,v]
   exact vI (by simp[pvE,Ze]) e1 (by omega) (by omega)) ⟨λh hh=>(Uw.mp hh).2,by
   unfold Wt;simp;omega⟩ rfl (λx l st o hst=>by
  obtain⟨h1,h2⟩:=hst;have hx:=h1 x (Pe ..);have hl:(ZQ p n x).length<=15625:=by
   rw[(Qq hx).2];have a1:p^(n-(x+1))<=5^(n-(x+1)):=Nat.pow_le_pow_left (by omega) _
   have a2:5^(n-(x+1))<=5^6:=Nat.pow_le_pow_right (by omega) (by omega)
   omega
  have e2:=Gx (p:=p) d (h:=x) s hP.row (by omega) hx
  rw[PB] at h2;refine⟨⟨λh hh=>h1 h (Pd _ hh),?_⟩,rfl,_,some (Ze x),rfl,?_⟩
  ·unfold z9
   split
   ·rw[PM];omega
   ·omega
  ·show rvs (CV (d+1)) [3] _ [some v,some (Za P),some (Ze (Z1 P)),some (.lst (st.map Zd)),some (Ze x)] [3] s=_
   have e3:Vj (CV (d+1)) (.call 7 [(.v 1),(.v 4)]) [some v,some (Za P),some (Ze (Z1 P)),some (.lst (st.map Zd)),some (Ze x)] s=.ok (P.all λr=>decide (gt r x=0)) s:=UT (Zj (Zb (Zf rfl) (Zb (Zf rfl) Zh)) e2) rfl
   unfold z9;by_cases c:(P.all λr=>decide (gt r x=0))=true
   ·rw[Ph c]
    have e4:at' ((List.range n).map λh=>V.lst ((ZQ p n h).map Zd)) (x:Int)=some (.lst ((ZQ p n x).map Zd)):=Jt (by rw[PF,NL hx];rfl)
    have e5:rv (CV (d+1)) [3] (.ex (.mt .extend (.v 3) [(.ix (.v 0) (.v 4))])) [some v,some (Za P),some (Ze (Z1 P)),some (.lst (st.map Zd)),some (Ze x)] [3] s=.ok (.nx [some v,some (Za P),some (Ze (Z1 P)),some (.lst ((st++ZQ p n x).map Zd)),some (Ze x)] [3]) s:=by
     have e6:pv (CV (d+1)) (.ix (.v 0) (.v 4)) (hide [3] [some v,some (Za P),some (Ze (Z1 P)),some (.lst (st.map Zd)),some (Ze x)]) s=.ok (.lst ((ZQ p n x).map Zd)) s:=by
      simp[pvE,v,Ze,e4]
     rw[rv,Ph (by rfl)]
     show (PR.ok (st.map Zd) s).bind _=_;rw[Zc,e6,Zc];show (if flats ((ZQ p n x).map Zd)=true/\(st.map Zd).length+((ZQ p n x).map Zd).length<=lim then _ else _)=_
     rw[Ph ⟨VN _,by rw[Pk,Pk];unfold lim;omega⟩,List.map_append]
     rfl
    rw[Zg ((Um e3).trans (by rw[Ph c,Zg e5,rvs])),rvs]
   ·rw[Pi c]
    rw[Zg ((Um e3).trans (by rw[Pi c,rvs])),rvs])
 rw[Zg e];exact Zt (ZK (Zf rfl))
theorem X7 (d:Nat) {k:Nat}(s:DS) (hn:n<=6) (hk:k<=n) (hl:∀j,j<=n->(ZM p n j).length<=1395):CV (d+3) 10 [spV p n,Ze k] s=.ok (.lst ((ZM p n k).map Za)) s:=by
 refine Zo (fn:=VE) rfl (by decide) rfl ?_
 show rvs (CV (d+2)) [] (.asg [2,3] (.v 0) :: .ex (.call 5 [(.v 1),(.c (.int 0)),(.v 3)]) :: .asg [4] (.comp1 [0] 1 [0] (.rng1 (.v 3)) [] (.call 6 [(.v 1),(.v 0)])) :: .asg [5] (.lst [(.tup [])]) :: .forr [6] (.rng1 (.v 1)) [.asg [5] (.comp2 [4] 2 [0] (.of (.v 5)) [] [1] (.of (.call 9 [(.v 2),(.v 0)])) [] (.bin .add (.v 0) (.tup [(.v 1)])))] :: .ret (.v 5)::[]) [some (spV p n),some (Ze k),none,none,none,none,none] [] s=_;rw[Zg (Yp (p:=p) (n:=n) _ _ (by simp[pvE]) (by simp))]
 show rvs (CV (d+2)) [] _ [some (spV p n),some (Ze k),some (.int p),some (.int n),none,none,none] [] s=_;rw[Zg (UI (Zj (Zb (Zf rfl) (Zb (by rw[pv];rfl) (Zb (Zf rfl) Zh))) (yi d (i:=k) (lo:=0) (hi:=n) s (by omega) (by omega))))]
 have hc:=ZC (C:=CV (d+2)) (cap:=[0]) (nl:=1) (t:=[0]) (it:=.rng1 (.v 3)) (elt:=.call 6 [(.v 1),(.v 0)]) (ρ:=[some (spV p n),some (Ze k),some (.int p),some (.int n),none,none,none]) (s:=s) (l:=List.range n) (e:=Ze) (g:=λh=>V.lst ((ZQ p n h).map Zd))
  (Y2 (n:=n) (Zf rfl) (by omega)) (by rw[PY];unfold lim;omega) (λh hh=>⟨_,rfl,Zj (Zb (Zf rfl) (Zb (Zf rfl) Zh)) (Gw (d+1) s hn (PU.mp hh))⟩)
 rw[Zg (ZY hc rfl)]
 let v:V:=.lst ((List.range n).map λh=>.lst ((ZQ p n h).map Zd))
 show rvs (CV (d+2)) [] _ [some (spV p n),some (Ze k),some (.int p),some (.int n),some v,none,none] [] s=_;rw[Zg (ρ':=[some (spV p n),some (Ze k),some (.int p),some (.int n),some v,some (.lst ((ZM p n 0).map Za)),none]) (os':=[]) (s':=s) (by simp[pvE,ZM,Za])]
 obtain⟨o',hI,e⟩:=QZ (C:=CV (d+2)) (ms:=[]) (t:=[6]) (it:=.rng1 (.v 1)) (b:=[.asg [5] (.comp2 [4] 2 [0] (.of (.v 5)) [] [1] (.of (.call 9 [(.v 2),(.v 0)])) [] (.bin .add (.v 0) (.tup [(.v 1)])))]) (L:=List.range k) (e:=Ze) (step:=λPs _=>Gq p n Ps) (ρ:=λst o=>[some (spV p n),some (Ze k),some (.int p),some (.int n),some v,some (.lst (st.map Za)),o]) (st:=ZM p n 0) (o:=none) (os:=[]) (s:=s) (λl st=>∃j,j+l.length=k/\st=ZM p n j)
  (Y2 (n:=k) (Zf rfl) (by omega)) ⟨0,by simp,rfl⟩ rfl (λx l st o hst=>by
  obtain⟨j,hj,rfl⟩:=hst;rw[PB] at hj;refine⟨⟨j+1,by omega,rfl⟩,rfl,_,some (Ze x),rfl,?_⟩
  show rvs (CV (d+2)) [] _ [some (spV p n),some (Ze k),some (.int p),some (.int n),some v,some (.lst ((ZM p n j).map Za)),some (Ze x)] [] s=_;have ef:((ZM p n j).flatMap λP=>(Qh p n P).map λr=>Za (P++[r]))=(ZM p n (j+1)).map Za:=by
   show _=(Gq p n (ZM p n j)).map Za;unfold Gq;rw[List.map_flatMap];exact congrArg (λf=>(ZM p n j).flatMap f) (funext λP=>by rw[P3];rfl)
  have hc:=V8 (C:=CV (d+2)) (cap:=[4]) (nl:=2) (t:=[0]) (u:=[1]) (it:=.of (.v 5)) (jt:=.of (.call 9 [(.v 2),(.v 0)])) (elt:=.bin .add (.v 0) (.tup [(.v 1)])) (ρ:=[some (spV p n),some (Ze k),some (.int p),some (.int n),some v,some (.lst ((ZM p n j).map Za)),some (Ze x)]) (s:=s) (l:=ZM p n j) (e:=Za) (m:=Qh p n) (e2:=Zd) (g:=λP r=>Za (P++[r]))
   (by simp[pvE]) (by rw[ef,Pk];have:=hl (j+1) (by omega);unfold lim;omega) (λP hP=>by
    obtain⟨h1,h2⟩:=Xg j P hP;refine⟨_,rfl,?_,λr hr=>⟨_,rfl,?_⟩⟩
    ·rw[pvw,Zj (Zb (Zf (v:=v) rfl) (Zb (Zf (v:=Za P) rfl) Zh)) (Gp d s hn h1)]
     rfl
    ·have h3:P.length+1<=16777216:=by omega
     simp[pvE,Za,h3])
  rw[ef] at hc;rw[Zg (ZY hc rfl),rvs];rfl)
 have ek:(List.range k).foldl (λPs _=>Gq p n Ps) (ZM p n 0)=ZM p n k:=by
  obtain⟨j,h1,h2⟩:=hI;rw[h2];rw[List.length_nil] at h1;rw[show j=k by omega]
 rw[ek] at e;rw[Zg e];exact Zt (ZK (Zf rfl))
end
theorem prods:∀r q:Row,(r.zip q).map (λx=>x.1*x.2)=List.zipWith (· * ·) r q
 |[],_=>by simp
 |_::_,[]=>by simp
 |a::r,b::q=>by
  show a*b::(r.zip q).map (λx=>x.1*x.2)=a*b::List.zipWith (· * ·) r q
  rw[prods r q]
section
variable {p n:Nat}[Base p]
theorem GP (d:Nat) {r q:Row}(s:DS) (hn:n<=6) (hr:Zm p n r) (hq:Zm p n q):CV (d+1) 11 [.int p,Zd r,Zd q] s=.ok (.bl (decide (XD r q%p=0))) s:=by
 have hp:=Vp (p:=p);refine Zo (fn:=Wp) rfl (by decide) rfl ?_
 have hc:=ZC (C:=CV d) (cap:=[]) (nl:=2) (t:=[0,1]) (it:=.zip (.v 1) (.v 2)) (elt:=.bin .mul (.v 0) (.v 1)) (ρ:=[some (.int p),some (Zd r),some (Zd q)]) (s:=s) (l:=r.zip q) (e:=λx=>V.tup [.int x.1,.int x.2]) (g:=λx=>V.int (x.1*x.2))
  (by simp[pvE,Zd,WV]) (by rw[NJ,hr.1,hq.1];unfold lim;omega) (λx hx=>by
   have h1:=hr.2 x.1 (NB hx).1;have h2:=hq.2 x.2 (NB hx).2;have f1:=ZB (a:=x.1) (by omega) (by omega)
   have f2:=ZB (a:=x.2) (by omega) (by omega)
   exact⟨_,rfl,by simp[pvE,f1,f2]⟩)
 show rvs (CV d) [] (.ret (.cmp .eq (.bin .mod (.blt .sum [(.comp1 [] 2 [0,1] (.zip (.v 1) (.v 2)) [] (.bin .mul (.v 0) (.v 1)))]) (.v 0)) (.c (.int 0)))::[]) [some (.int p),some (Zd r),some (Zd q)] [] s=_;have e1:pv (CV d) (.blt .sum [(.comp1 [] 2 [0,1] (.zip (.v 1) (.v 2)) [] (.bin .mul (.v 0) (.v 1)))]) [some (.int p),some (Zd r),some (Zd q)] s=.ok (.int (XD r q)) s:=by
  rw[pv,Zb hc Zh,Zc];show po ((intsV ((r.zip q).map λx=>V.int (x.1*x.2))).bind λis=>if Xz is=true then some (V.int is.sum) else none) s=_
  have e2:((r.zip q).map λx=>V.int (x.1*x.2))=((r.zip q).map λx=>x.1*x.2).map V.int:=by rw[P3];rfl
  rw[e2,Vo,prods];show po (if Xz (List.zipWith (· * ·) r q)=true then some (V.int (XD r q)) else none) s=_
  have e3:Xz (List.zipWith (· * ·) r q)=true:=by
   unfold Xz;rw[Pz,decide_eq_true_eq,PP];refine⟨by rw[List.length_zipWith,hr.1];omega,λi hi=>?_⟩
   rw[<-prods] at hi;obtain⟨x,hx,rfl⟩:=PC.mp hi;have h1:=hr.2 x.1 (NB hx).1;have h2:=hq.2 x.2 (NB hx).2;have h3:0<=x.1*x.2:=Int.mul_nonneg h1.1 h2.1;have h4:x.1*x.2<=5*5:=Int.mul_le_mul (by omega) (by omega) h2.1 (by omega)
   simp only[decide_eq_true_eq];omega
  rw[Ph e3];rfl
 have hp0:(0:Int)<p:=ppos;have e4:pv (CV d) (.bin .mod (.blt .sum [(.comp1 [] 2 [0,1] (.zip (.v 1) (.v 2)) [] (.bin .mul (.v 0) (.v 1)))]) (.v 0)) [some (.int p),some (Zd r),some (Zd q)] s=.ok (.int (XD r q%p)) s:=by
  rw[pv,e1,Zc,Zf (v:=.int p) rfl,Zc];show (if 0<(p:Int) then _ else _)=_
  rw[Ph hp0]
 refine Zt (ZK ?_);rw[pv,e4,Zc,pv];rfl
theorem GR {α β:Type}(f:α->β->Bool) (m:List β):∀l:List α,((l.flatMap λx=>m.map (f x)).all id)=l.all λx=>m.all (f x)
 |[]=>rfl
 |x::l=>by
  rw[List.flatMap_cons,List.all_append,GR f m l,List.all_cons,List.all_map];rfl
theorem bends (d:Nat) {P:List Row}(s:DS) (hn:n<=6) (hP:Part p n P):CV (d+2) 12 [spV p n,Za P] s=.ok (.bl (ZU p P)) s:=by
 have hd:=dsum hP;refine Zo (fn:=xh) rfl (by decide) rfl ?_
 show rvs (CV (d+1)) [] (.asg [2,3] (.v 0) :: .ret (.blt .all [(.comp2 [2,1] 2 [0] (.of (.v 1)) [] [1] (.of (.v 3)) [] (.call 11 [(.v 2),(.v 0),(.v 1)]))])::[]) [some (spV p n),some (Za P),none,none] [] s=_;rw[Zg (Yp (p:=p) (n:=n) _ _ (by simp[pvE]) (by simp))]
 show rvs (CV (d+1)) [] _ [some (spV p n),some (Za P),some (.int p),some (.int n)] [] s=_;have hc:=V8 (C:=CV (d+1)) (cap:=[2,1]) (nl:=2) (t:=[0]) (u:=[1]) (it:=.of (.v 1)) (jt:=.of (.v 3)) (elt:=.call 11 [(.v 2),(.v 0),(.v 1)]) (ρ:=[some (spV p n),some (Za P),some (.int p),some (.int n)]) (s:=s) (l:=P) (e:=Zd) (m:=λ_=>P) (e2:=Zd) (g:=λr q=>V.bl (decide (XD r q%p=0)))
  (by simp[pvE,Za]) (by
   rw[List.length_flatMap];simp only[Pk];rw[List.map_const',List.sum_replicate_nat];have:=Nat.mul_le_mul (P0 hd hn) (P0 hd hn);unfold lim;omega) (λr hr=>⟨_,rfl,by simp[pvE,Za],λq hq=>⟨_,rfl,Zj (Zb (Zf rfl) (Zb (Zf rfl) (Zb (Zf rfl) Zh))) (GP d s hn (hP.row r hr) (hP.row q hq))⟩⟩)
 have ef:(P.flatMap λr=>P.map λq=>V.bl (decide (XD r q%p=0)))=(P.flatMap λr=>P.map λq=>decide (XD r q%p=0)).map V.bl:=by
  rw[List.map_flatMap];exact congrArg (λf=>P.flatMap f) (funext λr=>by rw[P3];rfl)
 rw[ef] at hc;refine Zt (ZK ?_);rw[pv,Zb hc Zh,Zc];show po ((ZW ((P.flatMap λr=>P.map λq=>decide (XD r q%p=0)).map V.bl)).map λbs=>V.bl (bs.all id)) s=_
 have ht:=Yb (g:=id) (P.flatMap λr=>P.map λq=>decide (XD r q%p=0))
 simp only[id] at ht;rw[ht];show PR.ok (V.bl (((P.flatMap λr=>P.map λq=>decide (XD r q%p=0)).map λx=>x).all id)) s=_
 rw[List.map_id',GR];rfl
theorem xy (d:Nat) {P:List Row}(s:DS) (hn:n<=6) (hP:Part p n P):CV (d+5) 40 [spV p n,Za P] s=.ok (.bl (ZU p P)) s:=by
 refine Zo (fn:=QC) rfl (by decide) rfl ?_
 show rvs (CV (d+4)) [] (.ex (.call 22 [(.v 0),(.v 1)]) :: .ret (.call 12 [(.v 0),(.v 1)])::[]) [some (spV p n),some (Za P)] [] s=_;rw[Zg (UI (Zj (Zb (Zf rfl) (Zb (Zf rfl) Zh)) (X5 d s hn hP)))];exact Zt (ZK (Zj (Zb (Zf rfl) (Zb (Zf rfl) Zh)) (bends (d+2) s hn hP)))
theorem zN (d:Nat) {k:Nat}(s:DS) (hn:n<=6) (hk:k<=n) (hl:∀j,j<=n->(ZM p n j).length<=1395):CV (d+4) 13 [spV p n,Ze k] s=.ok (.lst (((ZM p n k).filter (ZU p)).map Za)) s:=by
 refine Zo (fn:=Va) rfl (by decide) rfl ?_
 have hc:=Ym (C:=CV (d+3)) (cap:=[0]) (nl:=1) (t:=[0]) (it:=.of (.call 10 [(.v 0),(.v 1)])) (tst:=.call 12 [(.v 1),(.v 0)]) (elt:=.v 0) (ρ:=[some (spV p n),some (Ze k)]) (s:=s) (l:=ZM p n k) (e:=Za) (g:=Za) (q:=ZU p)
  (by rw[pvw,Zj (Zb (Zf (v:=spV p n) rfl) (Zb (Zf (v:=Ze k) rfl) Zh)) (X7 d s hn hk hl)];rfl) (by have:=hl k hk;unfold lim;omega) (λP hP=>by
   obtain⟨h1,h2⟩:=Xg k P hP;exact⟨[some (Za P),some (spV p n)],.bl (ZU p P),rfl,Zj (Zb (Zf rfl) (Zb (Zf rfl) Zh)) (bends (d+1) s hn h1),rfl,λ_=>Zf rfl⟩)
 exact Zt (ZK hc)
end
section
variable {C:Zv}{ρ:Env}{s:DS}{a b:E}
theorem Ql (k:Nat) (a b:List (List Row)):eqV (k+4) (.lst (a.map Za)) (.lst (b.map Za))=some (decide (a=b)):=by
 show (if (a.map Za).length=(b.map Za).length then Ws (eqV (k+3)) (a.map Za) (b.map Za) else some false)=_
 obtain⟨c,e1,e2⟩:=WS (f:=eqV (k+3)) (e:=Za) (d:=λa b=>decide (a=b)) (λa b=>by simp) (λa b=>Gg k a b) a b
 by_cases h:a=b
 ·subst h
  rw[Ph rfl,e1,e2.mpr rfl,PD rfl]
 ·rw[P1 h]
  split
  ·rw[e1]
   cases c
   ·rfl
   ·exact absurd (e2.mp rfl) h
  ·rfl
theorem GX {A B:List (List Row)}(h1:pv C a ρ s=.ok (.lst (A.map Za)) s) (h2:pv C b ρ s=.ok (.lst (B.map Za)) s) (h:A=B):pv C (.cmp .ne a b) ρ s=.ok (.bl false) s:=by
 rw[pv,h1,Zc,h2,Zc];show po ((eqV Zk (.lst (A.map Za)) (.lst (B.map Za))).map λb=>V.bl !b) s=_
 rw[Zk,Ql,PD h];rfl
theorem UV:∀Ps:List (List Row),Xy (Ps.map Za)=some Ps
 |[]=>rfl
 |P::Ps=>by
  show (match Vh (Za P),Xy (Ps.map Za) with | some a,some b=>some (a::b) | _,_=>none)=_
  rw[UV Ps,show Vh (Za P)=some P from Vs P]
theorem wP:∀Ps:List (List Row),wm (Ps.map Za)=false
 |[]=>rfl
 |[]::_=>rfl
 |(_::_)::_=>rfl
theorem WA {Ps:List (List Row)}(h1:pv C a ρ s=.ok (.lst (Ps.map Za)) s) (h:Z3 Ps=true):pv C (.blt .sorted [a]) ρ s=.ok (.lst ((Yc ltP Ps).map Za)) s:=by
 rw[pv,Zb h1 Zh,Zc];show po (if wm (Ps.map Za)=true then _ else _) s=_
 rw[Pi (by rw[wP];simp),UV]
 show po (if Z3 Ps=true then _ else _) s=_
 rw[Ph h];rfl
end
noncomputable def ul:E:=.lst [(.tup [(.c (.int 2)),(.c (.int 5))]),(.tup [(.c (.int 2)),(.c (.int 6))]),(.tup [(.c (.int 3)),(.c (.int 4))]),(.tup [(.c (.int 5)),(.c (.int 3))])]
theorem ZaE:∀q∈GG++Vt,VQ (spV q.1 q.2) [.tup [.int 2,.int 5],.tup [.int 2,.int 6],.tup [.int 3,.int 4],.tup [.int 5,.int 3]]=some (decide (q∈Vt)):=by decide
theorem Zbo {C:Zv}{ρ:Env}{s:DS}{p n:Nat}(h3:ρ[3]? = some (some (spV p n))) (h:(p,n)∈GG++Vt):pv C (.cmp .inn (.v 3) ul) ρ s=.ok (.bl (decide ((p,n)∈Vt))) s:=by
 have e:pv C ul ρ s=.ok (.lst [.tup [.int 2,.int 5],.tup [.int 2,.int 6],.tup [.int 3,.int 4],.tup [.int 5,.int 3]]) s:=by simp[ul,pvE]
 rw[pv,Zf h3,Zc,e,Zc];show po ((VQ (spV p n) [.tup [.int 2,.int 5],.tup [.int 2,.int 6],.tup [.int 3,.int 4],.tup [.int 5,.int 3]]).map V.bl) s=_;rw[ZaE (p,n) h];rfl
theorem jC {p n:Nat}(h:(p,n)∈GG++Vt):∀j,j<=n->(ZM p n j).length<=1395:=λj hj=>by
 have:=PP.mp (PP.mp qi (p,n) h) j (PU.mpr (by omega))
 exact Pw this
theorem jS {p n k:Nat}(h:(p,n)∈GG++Vt) (hk:k<=n) (hb:(p,n)∈Vt->k=0):xP p n k=true:=by
 rcases Nc.mp h with z | z
 ·exact PP.mp (PP.mp v4 (p,n) z) k (PU.mpr (by omega))
 ·rw[hb z]
  exact PP.mp u7 (p,n) z
noncomputable def vQ:List Sm:=[.asg [3] (.call 3 [(.v 2),(.ix (.lst [(.c (.int 27)),(.c (.int 125))]) (.blt .toInt [(.cmp .eq (.v 1) (.c (.int 0)))]))]),
  .par [4,5] [(.call 17 [(.v 2),(.v 3)]),(.call 17 [(.v 2),(.v 3)])],
  .par [6,7] [(.call 33 [(.v 3),(.v 4)]),(.call 33 [(.v 3),(.v 5)])],
  .ite (.or (.cmp .isn (.call 21 [(.v 3),(.v 6)]) (.c (.bl true))) (.cmp .ne (.bin .add (.blt .len [(.v 6)]) (.blt .len [(.v 4)])) (.ix (.v 3) (.c (.int 1))))) [.ret (.c (.bl false))] [],
  .ite (.cmp .ne (.call 33 [(.v 3),(.v 6)]) (.v 4)) [.ret (.c (.bl false))] [],
  .ite (.cmp .ne (.call 33 [(.v 3),(.call 35 [(.v 3),(.v 4),(.v 5)])]) (.call 36 [(.v 3),(.v 6),(.v 7)])) [.ret (.c (.bl false))] [],
  .ite (.cmp .ne (.call 33 [(.v 3),(.call 36 [(.v 3),(.v 4),(.v 5)])]) (.call 35 [(.v 3),(.v 6),(.v 7)])) [.ret (.c (.bl false))] [],
  .ite (.cmp .ne (.call 39 [(.v 3),(.v 4),(.v 5)]) (.call 39 [(.v 3),(.v 7),(.v 6)])) [.ret (.c (.bl false))] [],
  .ite (.cmp .ne (.call 40 [(.v 3),(.v 4)]) (.call 39 [(.v 3),(.v 4),(.v 6)])) [.ret (.c (.bl false))] [],
  .asg [8] (.call 2 [(.v 2),(.bin .add (.ix (.v 3) (.c (.int 1))) (.c (.int 1)))]),
  .asg [9] (.call 13 [(.v 3),(.v 8)]),
  .ite (.cmp .ne (.v 9) (.comp1 [3] 1 [0] (.of (.call 10 [(.v 3),(.v 8)])) [(.call 40 [(.v 1),(.v 0)])] (.v 0))) [.ret (.c (.bl false))] [],
  .ite (.and (.cmp .ne (.v 9) (.lst [])) (.cmp .gt (.bin .mul (.c (.int 2)) (.v 8)) (.ix (.v 3) (.c (.int 1))))) [.ret (.c (.bl false))] [],
  .asg [10] (.v 8),
  .ite (.cmp .inn (.v 3) ul) [.asg [10] (.c (.int 0))] [],
  .asg [11] (.blt .sorted [(.comp1 [3] 1 [0] (.of (.call 10 [(.v 3),(.v 10)])) [] (.call 33 [(.v 1),(.v 0)]))]),
  .ite (.cmp .ne (.v 11) (.call 10 [(.v 3),(.bin .sub (.ix (.v 3) (.c (.int 1))) (.v 10))])) [.ret (.c (.bl false))] []]
theorem yW {p n:Nat}{C:Zv}{ρ:Env}{s:DS}(h3:ρ[3]? = some (some (spV p n))):pv C (.ix (.v 3) (.c (.int 1))) ρ s=.ok (.int n) s:=by
 rw[pv,Zf h3,Zc,pv];rfl
theorem vy (d:Nat) (k:Nat) (s:DS):∃ρ' os' s',rvs (CV (d+8)) [] vQ (none::some (.int k)::some .drw::List.replicate 9 none) [] s=.ok (.nx ρ' os') s':=by
 unfold vQ;show ∃ρ' os' s',rvs (CV (d+8)) [] _ [none,some (.int k),some .drw,none,none,none,none,none,none,none,none,none] [] s=.ok (.nx ρ' os') s';have e1:∃m:Int,2<=m/\pv (CV (d+8)) (.ix (.lst [(.c (.int 27)),(.c (.int 125))]) (.blt .toInt [(.cmp .eq (.v 1) (.c (.int 0)))])) [none,some (.int k),some .drw,none,none,none,none,none,none,none,none,none] s=.ok (.int m) s:=by
  cases k with
  |zero=>exact⟨125,by omega,by simp[pvE,Zk,b2i,at',ixN]⟩
  |succ k=>
   have h:¬(k:Int)+1=0:=by omega
   exact⟨27,by omega,by simp[pvE,Zk,b2i,at',ixN,h]⟩
 obtain⟨m,hm,e1⟩:=e1;obtain⟨p,n,s1,f1,f2,f3,f4,f5⟩:=law_space (d+6) s hm;have hB:Base p:=⟨f2⟩;have hl:=jC f5;rw[Zg (ZY (Zj (Zb (Zf rfl) (Zb e1 Zh)) f1) rfl)];show ∃ρ' os' s',rvs _ _ _ [none,some (.int k),some .drw,some (spV p n),none,none,none,none,none,none,none,none] [] s1=.ok (.nx ρ' os') s';obtain⟨P,s2,g1,hP⟩:=law_part (p:=p) (n:=n) (d+5) s1 f4;obtain⟨Q,s3,g2,hQ⟩:=law_part (p:=p) (n:=n) (d+5) s2 f4;have e2:rv (CV (d+8)) [] (.par [4,5] [(.call 17 [(.v 2),(.v 3)]),(.call 17 [(.v 2),(.v 3)])]) [none,some (.int k),some .drw,some (spV p n),none,none,none,none,none,none,none,none] [] s1=.ok (.nx [none,some (.int k),some .drw,some (spV p n),some (Za P),some (Za Q),none,none,none,none,none,none] []) s3:=by
  rw[rv];show (pvs _ _ _ _).bind _=_;rw[Zb (Zj (Zb (Zf rfl) (Zb (Zf rfl) Zh)) g1) (Zb (Zj (Zb (Zf rfl) (Zb (Zf rfl) Zh)) g2) Zh)];rfl
 rw[Zg e2];have aP:=against (d+1) s3 f4 hP;have aQ:=against (d+1) s3 f4 hQ;have e3:rv (CV (d+8)) [] (.par [6,7] [(.call 33 [(.v 3),(.v 4)]),(.call 33 [(.v 3),(.v 5)])]) [none,some (.int k),some .drw,some (spV p n),some (Za P),some (Za Q),none,none,none,none,none,none] [] s3=.ok (.nx [none,some (.int k),some .drw,some (spV p n),some (Za P),some (Za Q),some (Za (Zp p n P)),some (Za (Zp p n Q)),none,none,none,none] []) s3:=by
  rw[rv];show (pvs _ _ _ _).bind _=_;rw[Zb (Zj (Zb (Zf rfl) (Zb (Zf rfl) Zh)) aP) (Zb (Zj (Zb (Zf rfl) (Zb (Zf rfl) Zh)) aQ) Zh)];rfl
 rw[Zg e3];have hpP:=pP hP;have hpQ:=pP hQ;have hln:=GK hP;rw[guard (Zcb (uj (call1 (Zf rfl) (Zf rfl) (xR (d+5) s3 f4 hpP))) (ne_int (GB (GW (Zf rfl)) (GW (Zf rfl))) (yW (n:=n) (p:=p) rfl) (by omega)))]
 rw[guard (Q7 (call1 (Zf rfl) (Zf rfl) (against (d+1) s3 f4 hpP)) (Zf rfl) (Y9 hP))];rw[guard (Q7 (call1 (Zf rfl) (call3 (Zf rfl) (Zf rfl) (Zf rfl) (joined (d+2) s3 f4 hP hQ)) (against (d+1) s3 f4 (pJ hP hQ))) (call3 (Zf rfl) (Zf rfl) (Zf rfl) (met d s3 f4 hpP hpQ)) (zA hP hQ).symm)];rw[guard (Q7 (call1 (Zf rfl) (call3 (Zf rfl) (Zf rfl) (Zf rfl) (met d s3 f4 hP hQ)) (against (d+1) s3 f4 (pM hP hQ))) (call3 (Zf rfl) (Zf rfl) (Zf rfl) (joined (d+2) s3 f4 hpP hpQ)) (xV hP hQ))];rw[guard (Zah (call3 (Zf rfl) (Zf rfl) (Zf rfl) (Jv (d+2) s3 f4 hP hQ)) (call3 (Zf rfl) (Zf rfl) (Zf rfl) (Jv (d+2) s3 f4 hpQ hpP)) (wM hP hQ))]
 rw[guard (Zah (call1 (Zf rfl) (Zf rfl) (xy (d+3) s3 f4 hP)) (call3 (Zf rfl) (Zf rfl) (Zf rfl) (Jv (d+2) s3 f4 hP hpP)) (QB hP))];obtain⟨v,s4,t1,t2,t3⟩:=xJ (F:=fns) (tk:=2) (d:=d+7) (m:=(n:Int)+1) s3 (by omega) (by omega)
 obtain⟨z,rfl⟩:∃z:Nat,v=z:=⟨v.toNat,by omega⟩
 have hz:z<=n:=by omega
 rw[Zg (ZY (Zj (Zb (Zf rfl) (Zb (GB (yW (n:=n) (p:=p) rfl) (by rw[pv];rfl)) Zh)) t1) rfl)]
 have bp:=zN (p:=p) (d+4) s4 f4 hz hl;rw[Zg (ZY (call1 (Zf (v:=spV p n) rfl) (Zf (v:=Ze z) rfl) bp) rfl)];show ∃ρ' os' s',rvs _ _ _ [none,some (.int k),some .drw,some (spV p n),some (Za P),some (Za Q),some (Za (Zp p n P)),some (Za (Zp p n Q)),some (Ze z),some (.lst (((ZM p n z).filter (ZU p)).map Za)),none,none] [] s4=.ok (.nx ρ' os') s';have hc:=Ym (C:=CV (d+8)) (cap:=[3]) (nl:=1) (t:=[0]) (it:=.of (.call 10 [(.v 3),(.v 8)])) (tst:=.call 40 [(.v 1),(.v 0)]) (elt:=.v 0) (ρ:=[none,some (.int k),some .drw,some (spV p n),some (Za P),some (Za Q),some (Za (Zp p n P)),some (Za (Zp p n Q)),some (Ze z),some (.lst (((ZM p n z).filter (ZU p)).map Za)),none,none]) (s:=s4) (l:=ZM p n z) (e:=Za) (g:=Za) (q:=ZU p)
  (by rw[pvw,Zj (Zb (Zf (v:=spV p n) rfl) (Zb (Zf (v:=Ze z) rfl) Zh)) (X7 (d+5) s4 f4 hz hl)];rfl) (by have:=hl z hz;unfold lim;omega) (λR hR=>by
   obtain⟨h1,h2⟩:=Xg z R hR;exact⟨[some (Za R),some (spV p n)],.bl (ZU p R),rfl,Zj (Zb (Zf rfl) (Zb (Zf rfl) Zh)) (xy (d+3) s4 f4 h1),rfl,λ_=>Zf rfl⟩)
 rw[guard (GX (Zf rfl) hc rfl)];have e5:pv (CV (d+8)) (.and (.cmp .ne (.v 9) (.lst [])) (.cmp .gt (.bin .mul (.c (.int 2)) (.v 8)) (.ix (.v 3) (.c (.int 1))))) [none,some (.int k),some .drw,some (spV p n),some (Za P),some (Za Q),some (Za (Zp p n P)),some (Za (Zp p n Q)),some (Ze z),some (.lst (((ZM p n z).filter (ZU p)).map Za)),none,none] s4=.ok (.bl false) s4:=by
  have a1:pv (CV (d+8)) (.lst []) [none,some (.int k),some .drw,some (spV p n),some (Za P),some (Za Q),some (Za (Zp p n P)),some (Za (Zp p n Q)),some (Ze z),some (.lst (((ZM p n z).filter (ZU p)).map Za)),none,none] s4=.ok (.lst (([]:List (List Row)).map Za)) s4:=by simp[pvE]
  have a2:pv (CV (d+8)) (.cmp .ne (.v 9) (.lst [])) [none,some (.int k),some .drw,some (spV p n),some (Za P),some (Za Q),some (Za (Zp p n P)),some (Za (Zp p n Q)),some (Ze z),some (.lst (((ZM p n z).filter (ZU p)).map Za)),none,none] s4=.ok (.bl !decide ((ZM p n z).filter (ZU p)=[])) s4:=by
   rw[pv,Zf (v:=.lst (((ZM p n z).filter (ZU p)).map Za)) rfl,Zc,a1,Zc];show po ((eqV Zk _ _).map λb=>V.bl !b) s4=_
   rw[Zk,Ql];rfl
  have a3:pv (CV (d+8)) (.bin .mul (.c (.int 2)) (.v 8)) [none,some (.int k),some .drw,some (spV p n),some (Za P),some (Za Q),some (Za (Zp p n P)),some (Za (Zp p n Q)),some (Ze z),some (.lst (((ZM p n z).filter (ZU p)).map Za)),none,none] s4=.ok (.int (2*z)) s4:=by
   have b1:=ZB (a:=2) (by omega) (by omega)
   have b2:=ZB (a:=(z:Int)) (by omega) (by omega)
   simp[pvE,Ze,b1,b2]
  have a4:pv (CV (d+8)) (.cmp .gt (.bin .mul (.c (.int 2)) (.v 8)) (.ix (.v 3) (.c (.int 1)))) [none,some (.int k),some .drw,some (spV p n),some (Za P),some (Za Q),some (Za (Zp p n P)),some (Za (Zp p n Q)),some (Ze z),some (.lst (((ZM p n z).filter (ZU p)).map Za)),none,none] s4=.ok (.bl (decide ((n:Int)<2*z))) s4:=by
   rw[pv,a3,Zc,yW (n:=n) (p:=p) rfl,Zc];rfl
  rw[Zbr a2 a4];cases e:(ZM p n z).filter (ZU p) with
  |nil=>simp
  |cons R Rs=>
   have hR:R∈(ZM p n z).filter (ZU p):=by rw[e];exact Pe ..
   obtain⟨h1,h2⟩:=List.mem_filter.mp hR;obtain⟨h3,h4⟩:=Xg z R h1;have:=wE h3 h2;rw[P1 (show ¬(n:Int)<2*z by omega),Bool.and_false]
 rw[guard e5];rw[Zg (ZY (Zf (v:=Ze z) rfl) rfl)];show ∃ρ' os' s',rvs _ _ _ [none,some (.int k),some .drw,some (spV p n),some (Za P),some (Za Q),some (Za (Zp p n P)),some (Za (Zp p n Q)),some (Ze z),some (.lst (((ZM p n z).filter (ZU p)).map Za)),some (Ze z),none] [] s4=.ok (.nx ρ' os') s';obtain⟨w,hw,hbw,e6⟩:∃w:Nat,w<=n/\((p,n)∈Vt->w=0)/\rv (CV (d+8)) [] (.ite (.cmp .inn (.v 3) ul) [.asg [10] (.c (.int 0))] []) [none,some (.int k),some .drw,some (spV p n),some (Za P),some (Za Q),some (Za (Zp p n P)),some (Za (Zp p n Q)),some (Ze z),some (.lst (((ZM p n z).filter (ZU p)).map Za)),some (Ze z),none] [] s4=.ok (.nx [none,some (.int k),some .drw,some (spV p n),some (Za P),some (Za Q),some (Za (Zp p n P)),some (Za (Zp p n Q)),some (Ze z),some (.lst (((ZM p n z).filter (ZU p)).map Za)),some (Ze w),none] []) s4:=by
  have b1:=UT (Zbo (C:=CV (d+8)) (ρ:=[none,some (.int k),some .drw,some (spV p n),some (Za P),some (Za Q),some (Za (Zp p n P)),some (Za (Zp p n Q)),some (Ze z),some (.lst (((ZM p n z).filter (ZU p)).map Za)),some (Ze z),none]) (s:=s4) rfl f5) rfl;by_cases c:(p,n)∈Vt
  ·refine⟨0,by omega,λ_=>rfl,?_⟩
   rw[Um b1,PD c,Ph rfl,Zg (ZY (by rw[pv];rfl) rfl),rvs];rfl
  ·refine⟨z,hz,λh=>absurd h c,?_⟩
   rw[Um b1,P1 c,Pi (by simp),rvs]
 rw[Zg e6];have ht:=jS f5 hw hbw;unfold xP at ht;obtain⟨ht1,ht2⟩:=(Pz _ _).mp ht;have ht2:=Pw ht2;have hc2:=ZC (C:=CV (d+8)) (cap:=[3]) (nl:=1) (t:=[0]) (it:=.of (.call 10 [(.v 3),(.v 10)])) (elt:=.call 33 [(.v 1),(.v 0)]) (ρ:=[none,some (.int k),some .drw,some (spV p n),some (Za P),some (Za Q),some (Za (Zp p n P)),some (Za (Zp p n Q)),some (Ze z),some (.lst (((ZM p n z).filter (ZU p)).map Za)),some (Ze w),none]) (s:=s4) (l:=ZM p n w) (e:=Za) (g:=λR=>Za (Zp p n R))
  (by rw[pvw,Zj (Zb (Zf (v:=spV p n) rfl) (Zb (Zf (v:=Ze w) rfl) Zh)) (X7 (d+5) s4 f4 hw hl)];rfl) (by have:=hl w hw;unfold lim;omega) (λR hR=>⟨_,rfl,Zj (Zb (Zf rfl) (Zb (Zf rfl) Zh)) (against (d+1) s4 f4 (Xg w R hR).1)⟩)
 have em:((ZM p n w).map λR=>Za (Zp p n R))=((ZM p n w).map (Zp p n)).map Za:=by rw[P3];rfl
 rw[em] at hc2;rw[Zg (ZY (WA hc2 ht1) rfl)];have ew:pv (CV (d+8)) (.bin .sub (.ix (.v 3) (.c (.int 1))) (.v 10)) [none,some (.int k),some .drw,some (spV p n),some (Za P),some (Za Q),some (Za (Zp p n P)),some (Za (Zp p n Q)),some (Ze z),some (.lst (((ZM p n z).filter (ZU p)).map Za)),some (Ze w),some (.lst ((Yc ltP ((ZM p n w).map (Zp p n))).map Za))] s4=.ok (Ze (n-w)) s4:=by
  rw[pv,yW (n:=n) (p:=p) rfl,Zc,Zf (v:=Ze w) rfl,Zc];show PR.ok (V.int ((n:Int)-w)) s4=.ok (V.int ((n-w:Nat):Int)) s4;rw[show ((n-w:Nat):Int)=(n:Int)-w by omega]
 show ∃ρ' os' s',rvs _ _ _ [none,some (.int k),some .drw,some (spV p n),some (Za P),some (Za Q),some (Za (Zp p n P)),some (Za (Zp p n Q)),some (Ze z),some (.lst (((ZM p n z).filter (ZU p)).map Za)),some (Ze w),some (.lst ((Yc ltP ((ZM p n w).map (Zp p n))).map Za))] [] s4=.ok (.nx ρ' os') s';rw[guard (GX (Zf rfl) (call1 (Zf (v:=spV p n) rfl) ew (X7 (d+5) s4 f4 (Nat.sub_le n w) hl)) ht2),rvs];exact⟨_,_,_,rfl⟩
theorem law_ok {ns:List Int}{S:Store}(d:Nat) (hs:S[0]? = some (.scr ns)):∃S',calls fns (d+9) 41 [.loc 0] S=.ok (.bl true) S':=
 Lw.law_of (F:=fns) (tk:=2) (ca:=0) (st:=1) (L:=41) (M:=5) (B:=vQ) (m:=9) (d:=d+6) rfl rfl rfl rfl rfl (by omega) (vy d) hs
end K43
namespace K43
open PySem PySem.Spec PyProof.Rows L2 Wr Gn
open Sd (ZX Yg YC YG XA YB YD Yi Yf uv vY xM QK uh vP vL zT vN yp xc xx xg xt QH GL y8 yY UF uJ)
noncomputable def top (i:Nat):Stmt:=PySem.Challenge.pw_fewspaces_k43_whole_against.main.body.getD i (.Pass ⟨0,0,0,0⟩)
noncomputable abbrev r0:FR:=⟨"_law_cell_at",top 44,["_law_script","_law_k"],2⟩
noncomputable abbrev r1:FR:=⟨"_law_state",top 45,["_law_script","_law_k","_law_cell"],2⟩
noncomputable abbrev r2:FR:=⟨"_law_take",top 46,["_law_state_here","_law_many","_law_found","_law_mixed"],2⟩
noncomputable abbrev r3:FR:=⟨"_law_space",top 47,["_law_state_here","_law_most","_law_some"],2⟩
noncomputable abbrev r4:FR:=⟨"is_whole",top 6,["thing","least","greatest"],3⟩
noncomputable abbrev r5:FR:=⟨"need_whole",top 28,["thing","least","greatest"],3⟩
noncomputable abbrev r6:FR:=⟨"rows_headed",top 30,["space","head","p","n","rows","place"],2⟩
noncomputable abbrev r7:FR:=⟨"noughts_at",top 14,["rows","place"],2⟩
noncomputable abbrev r8:FR:=⟨"head_of",top 8,["row","place","number"],1⟩
noncomputable abbrev r9:FR:=⟨"rows_behind",top 31,["headed","part","first","rows","head"],2⟩
noncomputable abbrev r10:FR:=⟨"all_parts",top 29,["space","size","p","n","headed","parts","many"],2⟩
noncomputable abbrev r11:FR:=⟨"are_against",top 13,["p","row","other"],3⟩
noncomputable abbrev r12:FR:=⟨"bends",top 36,["space","part","p","n"],2⟩
noncomputable abbrev r13:FR:=⟨"bent_parts",top 37,["space","size"],2⟩
noncomputable abbrev r14:FR:=⟨"_law_plus",top 49,["_law_space_here","_law_one","_law_other","_law_often"],4⟩
noncomputable abbrev r15:FR:=⟨"_law_reduced",top 50,["_law_space_here","_law_rows","_law_rest","_law_found","_law_place","_law_fit","_law_often","_law_one"],2⟩
noncomputable abbrev r16:FR:=⟨"_law_row_of",top 48,["_law_state_here","_law_space_here"],2⟩
noncomputable abbrev r17:FR:=⟨"_law_part",top 51,["_law_state_here","_law_space_here","_law_many"],2⟩
noncomputable abbrev r18:FR:=⟨"is_rising",top 7,["things"],1⟩
noncomputable abbrev r19:FR:=⟨"stands_alone",top 18,["rows","at","place"],3⟩
noncomputable abbrev r20:FR:=⟨"is_row",top 16,["space","thing","p","n"],2⟩
noncomputable abbrev r21:FR:=⟨"is_part",top 17,["space","thing","places"],2⟩
noncomputable abbrev r22:FR:=⟨"need_part",top 20,["space","thing"],2⟩
noncomputable abbrev r23:FR:=⟨"plus_times",top 10,["p","row","other","number"],4⟩
noncomputable abbrev r24:FR:=⟨"cleared",top 12,["p","row","other","head"],4⟩
noncomputable abbrev r25:FR:=⟨"left_over",top 25,["space","part","row","p","n","rest","other"],3⟩
noncomputable abbrev r26:FR:=⟨"times",top 9,["p","row","number"],3⟩
noncomputable abbrev r27:FR:=⟨"inverse",top 11,["p","number","found"],2⟩
noncomputable abbrev r28:FR:=⟨"widened",top 24,["space","part","row","p","n","rest","head","lead","rows"],3⟩
noncomputable abbrev r29:FR:=⟨"widened_by_all",top 23,["space","part","rows","wider","row"],3⟩
noncomputable abbrev r30:FR:=⟨"need_row",top 19,["space","thing"],2⟩
noncomputable abbrev r31:FR:=⟨"spanned",top 22,["space","rows","row"],2⟩
noncomputable abbrev r32:FR:=⟨"row_against",top 34,["space","part","free","p","n","numbers","row"],3⟩
noncomputable abbrev r33:FR:=⟨"against",top 33,["space","part","p","n","places","free"],2⟩
noncomputable abbrev r34:FR:=⟨"need_parts",top 21,["space","one","other"],3⟩
noncomputable abbrev r35:FR:=⟨"joined",top 39,["space","one","other"],3⟩
noncomputable abbrev r36:FR:=⟨"met",top 40,["space","one","other"],3⟩
noncomputable abbrev r37:FR:=⟨"has_row",top 26,["space","part","row"],3⟩
noncomputable abbrev r38:FR:=⟨"is_within",top 42,["space","one","other"],3⟩
noncomputable abbrev r39:FR:=⟨"lies_in",top 41,["space","one","other"],3⟩
noncomputable abbrev r40:FR:=⟨"is_bent",top 35,["space","part"],2⟩
noncomputable abbrev r41:FR:=⟨"law",top 52,["_law_script","_law_k","_law_state_here","_law_space_here","_law_one","_law_other","_law_first","_law_second","_law_size","_law_some","_law_few","_law_turned"],1⟩
noncomputable abbrev fs:List FR:=[r0,r1,r2,r3,r4,r5,r6,r7,r8,r9,r10,r11,r12,r13,r14,r15,r16,r17,r18,r19,r20,r21,r22,r23,r24,r25,r26,r27,r28,r29,r30,r31,r32,r33,r34,r35,r36,r37,r38,r39,r40,r41]
noncomputable abbrev zs:List Str:=["all","bool","enumerate","int","isinstance","len","list","max","min","range","reversed","sorted","sum","tuple","zip"]
noncomputable abbrev n0:List Str:=["_law_rows","_law_space_here","_law_most"]
noncomputable abbrev n1:List Str:=["row","number","p"]
noncomputable abbrev n2:List Str:=["row","place"]
noncomputable abbrev n3:List Str:=["head","space"]
noncomputable abbrev n4:List Str:=["part","row","headed"]
noncomputable abbrev n5:List Str:=["mine","its"]
noncomputable abbrev n6:List Str:=["row","other","p","part"]
noncomputable abbrev n7:List Str:=["part","space"]
noncomputable abbrev n8:List Str:=["_law_first","_law_second","_law_often","_law_space_here"]
noncomputable abbrev n9:List Str:=["_law_row","_law_place"]
noncomputable abbrev n10:List Str:=["_law_row","_law_space_here","_law_one","_law_place"]
noncomputable abbrev n11:List Str:=["_law_number","_law_fit","_law_place","_law_space_here"]
noncomputable abbrev n12:List Str:=["_law_number","_law_often","_law_space_here"]
noncomputable abbrev n13:List Str:=["_law_place","_law_state_here","_law_space_here"]
noncomputable abbrev n14:List Str:=["_law_turn","_law_state_here","_law_space_here"]
noncomputable abbrev n15:List Str:=["one","other"]
noncomputable abbrev n16:List Str:=["number","p"]
noncomputable abbrev n17:List Str:=["row"]
noncomputable abbrev n18:List Str:=["at","place","thing"]
noncomputable abbrev n19:List Str:=["row","space"]
noncomputable abbrev n20:List Str:=["mine","its","number","p"]
noncomputable abbrev n21:List Str:=["mine","number","p"]
noncomputable abbrev n22:List Str:=["other","p","lead","head"]
noncomputable abbrev n23:List Str:=["place","places"]
noncomputable abbrev n24:List Str:=["place","space","part"]
noncomputable abbrev n25:List Str:=["row","space","other"]
noncomputable abbrev n26:List Str:=["_law_part_here","_law_space_here"]
local macro_rules | `(tactic| walk_at "n") => `(tactic| first | exact ZI (N := n0) (by kernel_rfl!) | exact ZI (N := n1) (by kernel_rfl!) | exact ZI (N := n2) (by kernel_rfl!) | exact ZI (N := n3) (by kernel_rfl!) | exact ZI (N := n4) (by kernel_rfl!) | exact ZI (N := n5) (by kernel_rfl!) | exact ZI (N := n6) (by kernel_rfl!) | exact ZI (N := n7) (by kernel_rfl!) | exact ZI (N := n8) (by kernel_rfl!) | exact ZI (N := n9) (by kernel_rfl!) | exact ZI (N := n10) (by kernel_rfl!) | exact ZI (N := n11) (by kernel_rfl!) | exact ZI (N := n12) (by kernel_rfl!) | exact ZI (N := n13) (by kernel_rfl!) | exact ZI (N := n14) (by kernel_rfl!) | exact ZI (N := n15) (by kernel_rfl!) | exact ZI (N := n16) (by kernel_rfl!) | exact ZI (N := n17) (by kernel_rfl!) | exact ZI (N := n18) (by kernel_rfl!) | exact ZI (N := n19) (by kernel_rfl!) | exact ZI (N := n20) (by kernel_rfl!) | exact ZI (N := n21) (by kernel_rfl!) | exact ZI (N := n22) (by kernel_rfl!) | exact ZI (N := n23) (by kernel_rfl!) | exact ZI (N := n24) (by kernel_rfl!) | exact ZI (N := n25) (by kernel_rfl!) | exact ZI (N := n26) (by kernel_rfl!))
theorem okl:OkL fs zs fns 0 fs fns:=by
 repeat' (first | exact True.intro | refine⟨⟨rfl,rfl,by decide +kernel,?_⟩,?_⟩ | fail)
 all_goals
 (intro P w K mg base f fd d T h hn cdv A outer s H E hr hu;repeat' (first
 |(with_reducible show Bx (Sd.CSs _ _ _ _ _));first | exact zL | refine Jn ?_ ?_
 |(with_reducible show Bx (Sd.CA _ _ _ _ _));first | exact yo | refine JZ ?_ ?_ (by first | exact Yg | exact ZX | exact Yi | exact YD | exact YC | exact YG | exact Yf | exact se_lst | exact XA | exact YB | exact se_bool | exact se_ite | exact se_dict)
 |(with_reducible show Bx (Sd.CE _ _ _ _ (.v _)));exact Zaj _ (hN:=by kernel_rfl!) (hv:=by first | exact Or.inl (by kernel_rfl!) | exact Or.inr (Or.inl (by kernel_rfl!)) | exact Or.inr (Or.inr (by kernel_rfl!))) (hd:=by kernel_rfl!) (hcd:=by kernel_rfl!)
 |(with_reducible show Bx (Sd.CE _ _ _ _ (.c _)));first | exact zP | exact uz | exact zn | exact ce_str
 |(with_reducible show Bx (Sd.CE _ _ _ _ (.call _ _)));refine ZbI (by assumption) (by assumption) (by assumption) ?_ (by kernel_rfl!) rfl (by kernel_rfl!) (by first | exact Yg | exact ZX | exact Yi | exact YD | exact YC | exact YG | exact Yf | exact se_lst | exact XA | exact YB | exact se_bool | exact se_ite | exact se_dict) rfl
 |(with_reducible show Bx (Sd.CE _ _ _ _ (.ix _ _)));refine ug ?_ ?_ (hs:=by intro _ _;kernel_rfl!)
 |(with_reducible show Bx (Sd.CE _ _ _ _ (.blt .len _)));refine YZ (x:="len") (f:=.len) xc (Top.no (by assumption) (by kernel_rfl!)) ?_ (he:=(by first | exact Yg | exact ZX | exact Yi | exact YD | exact YC | exact YG | exact Yf | exact se_lst | exact XA | exact YB | exact se_bool | exact se_ite | exact se_dict)) (hg:=show _=_ from by kernel_rfl!) (hv:=by kernel_rfl!) (hn:=by decide) (hdb:=by kernel_rfl!) (hpl:=by kernel_rfl!)
 |(with_reducible show Bx (Sd.CE _ _ _ _ (.blt .tuple _)));refine WG (x:="tuple") (f:=.tuple) QH (Top.no (by assumption) (by kernel_rfl!)) ?_ (he:=(by first | exact Yg | exact ZX | exact Yi | exact YD | exact YC | exact YG | exact Yf | exact se_lst | exact XA | exact YB | exact se_bool | exact se_ite | exact se_dict)) (hg:=show _=_ from by kernel_rfl!) (hv:=by kernel_rfl!) (hn:=by decide) (hdb:=by kernel_rfl!) (hpl:=by kernel_rfl!)
 |(with_reducible show Bx (Sd.CE _ _ _ _ (.blt .all _)));refine YZ (x:="all") (f:=.all) (y8 rfl) (Top.no (by assumption) (by kernel_rfl!)) ?_ (he:=(by first | exact Yg | exact ZX | exact Yi | exact YD | exact YC | exact YG | exact Yf | exact se_lst | exact XA | exact YB | exact se_bool | exact se_ite | exact se_dict)) (hg:=show _=_ from by kernel_rfl!) (hv:=by kernel_rfl!) (hn:=by decide) (hdb:=by kernel_rfl!) (hpl:=by kernel_rfl!)
 |(with_reducible show Bx (Sd.CE _ _ _ _ (.blt .list _)));refine WG (x:="list") (f:=.list) GL (Top.no (by assumption) (by kernel_rfl!)) ?_ (he:=(by first | exact Yg | exact ZX | exact Yi | exact YD | exact YC | exact YG | exact Yf | exact se_lst | exact XA | exact YB | exact se_bool | exact se_ite | exact se_dict)) (hg:=show _=_ from by kernel_rfl!) (hv:=by kernel_rfl!) (hn:=by decide) (hdb:=by kernel_rfl!) (hpl:=by kernel_rfl!)
 |(with_reducible show Bx (Sd.CE _ _ _ _ (.blt .toInt _)));refine WG (x:="int") (f:=.toInt) xt (Top.no (by assumption) (by kernel_rfl!)) ?_ (he:=(by first | exact Yg | exact ZX | exact Yi | exact YD | exact YC | exact YG | exact Yf | exact se_lst | exact XA | exact YB | exact se_bool | exact se_ite | exact se_dict)) (hg:=show _=_ from by kernel_rfl!) (hv:=by kernel_rfl!) (hn:=by decide) (hdb:=by kernel_rfl!) (hpl:=by kernel_rfl!)
 |(with_reducible show Bx (Sd.CE _ _ _ _ (.blt .max2 _)));refine YZ (x:="max") (f:=.max2) (xx rfl) (Top.no (by assumption) (by kernel_rfl!)) ?_ (he:=(by first | exact Yg | exact ZX | exact Yi | exact YD | exact YC | exact YG | exact Yf | exact se_lst | exact XA | exact YB | exact se_bool | exact se_ite | exact se_dict)) (hg:=show _=_ from by kernel_rfl!) (hv:=by kernel_rfl!) (hn:=by decide) (hdb:=by kernel_rfl!) (hpl:=by kernel_rfl!)
 |(with_reducible show Bx (Sd.CE _ _ _ _ (.blt .min2 _)));refine YZ (x:="min") (f:=.min2) (xg rfl) (Top.no (by assumption) (by kernel_rfl!)) ?_ (he:=(by first | exact Yg | exact ZX | exact Yi | exact YD | exact YC | exact YG | exact Yf | exact se_lst | exact XA | exact YB | exact se_bool | exact se_ite | exact se_dict)) (hg:=show _=_ from by kernel_rfl!) (hv:=by kernel_rfl!) (hn:=by decide) (hdb:=by kernel_rfl!) (hpl:=by kernel_rfl!)
 |(with_reducible show Bx (Sd.CE _ _ _ _ (.blt .sum _)));refine YZ (x:="sum") (f:=.sum) (yY rfl) (Top.no (by assumption) (by kernel_rfl!)) ?_ (he:=(by first | exact Yg | exact ZX | exact Yi | exact YD | exact YC | exact YG | exact Yf | exact se_lst | exact XA | exact YB | exact se_bool | exact se_ite | exact se_dict)) (hg:=show _=_ from by kernel_rfl!) (hv:=by kernel_rfl!) (hn:=by decide) (hdb:=by kernel_rfl!) (hpl:=by kernel_rfl!)
 |(with_reducible show Bx (Sd.CE _ _ _ _ (.blt .sorted _)));refine YZ (x:="sorted") (f:=.sorted) (UF (by assumption)) (Top.no (by assumption) (by kernel_rfl!)) ?_ (he:=(by first | exact Yg | exact ZX | exact Yi | exact YD | exact YC | exact YG | exact Yf | exact se_lst | exact XA | exact YB | exact se_bool | exact se_ite | exact se_dict)) (hg:=show _=_ from by kernel_rfl!) (hv:=by kernel_rfl!) (hn:=by decide) (hdb:=by kernel_rfl!) (hpl:=by kernel_rfl!)
 |(with_reducible show Bx (Sd.CE _ _ _ _ (.blt _ _)));refine Ww (Top.no (by assumption) (by kernel_rfl!)) ?_ (hg:=show _=_ from by kernel_rfl!) (he:=by kernel_rfl!) (hpl:=by kernel_rfl!)
 |(with_reducible show Bx (Sd.CE _ _ _ _ (.bin _ _ _)));first | refine yn ?_ ?_ | refine zt ?_ ?_ | refine zq ?_ ?_ | refine zH ?_ ?_ | refine QV ?_ ?_ | refine zr ?_ ?_
 |(with_reducible show Bx (Sd.CE _ _ _ _ (.tup _)));refine zy ?_
 |(with_reducible show Bx (Sd.CE _ _ _ _ (.lst _)));refine z8 ?_
 |(with_reducible show Bx (Sd.CE _ _ _ _ (.neg _)));refine zY ?_
 |(with_reducible show Bx (Sd.CE _ _ _ _ (.not _)));refine zO ?_
 |(with_reducible show Bx (Sd.CE _ _ _ _ (.cmp .eq _ _)));refine YF (op:=.Eq) (o:=.eq) (uv (by assumption)) ?_ ?_ (hm:=by first | exact nomark _ | kernel_rfl!)
 |(with_reducible show Bx (Sd.CE _ _ _ _ (.cmp .ne _ _)));refine YF (op:=.NotEq) (o:=.ne) (vY (by assumption)) ?_ ?_ (hm:=by first | exact nomark _ | kernel_rfl!)
 |(with_reducible show Bx (Sd.CE _ _ _ _ (.cmp .lt _ _)));refine YF (op:=.Lt) (o:=.lt) (xM (by assumption)) ?_ ?_ (hm:=by first | exact nomark _ | kernel_rfl!)
 |(with_reducible show Bx (Sd.CE _ _ _ _ (.cmp .le _ _)));refine YF (op:=.LtE) (o:=.le) (QK (by assumption)) ?_ ?_ (hm:=by first | exact nomark _ | kernel_rfl!)
 |(with_reducible show Bx (Sd.CE _ _ _ _ (.cmp .gt _ _)));refine YF (op:=.Gt) (o:=.gt) (uh (by assumption)) ?_ ?_ (hm:=by first | exact nomark _ | kernel_rfl!)
 |(with_reducible show Bx (Sd.CE _ _ _ _ (.cmp .ge _ _)));refine YF (op:=.GtE) (o:=.ge) (vP (by assumption)) ?_ ?_ (hm:=by first | exact nomark _ | kernel_rfl!)
 |(with_reducible show Bx (Sd.CE _ _ _ _ (.cmp .is _ _)));refine YF (op:=.Is) (o:=.is) (vL (by assumption)) ?_ ?_ (hm:=by first | exact nomark _ | kernel_rfl!)
 |(with_reducible show Bx (Sd.CE _ _ _ _ (.cmp .isn _ _)));refine YF (op:=.IsNot) (o:=.isn) (zT (by assumption)) ?_ ?_ (hm:=by first | exact nomark _ | kernel_rfl!)
 |(with_reducible show Bx (Sd.CE _ _ _ _ (.cmp .inn _ _)));refine YF (op:=.In) (o:=.inn) (vN (by assumption)) ?_ ?_ (hm:=by first | exact nomark _ | kernel_rfl!)
 |(with_reducible show Bx (Sd.CE _ _ _ _ (.cmp .nin _ _)));refine YF (op:=.NotIn) (o:=.nin) (yp (by assumption)) ?_ ?_ (hm:=by first | exact nomark _ | kernel_rfl!)
 |(with_reducible show Bx (Sd.CE _ _ _ _ (.chain _ _ _ _ _)));first | refine WW (op:=.LtE) (o:=.le) (op':=.LtE) (o':=.le) (QK (by assumption)) (QK (by assumption)) ?_ ?_ ?_ (hm:=by kernel_rfl!) | refine WW (op:=.LtE) (o:=.le) (op':=.Lt) (o':=.lt) (QK (by assumption)) (xM (by assumption)) ?_ ?_ ?_ (hm:=by kernel_rfl!)
 |(with_reducible show Bx (Sd.CE _ _ _ _ (.ite _ _ _)));refine yj ?_ ?_ ?_
 |(with_reducible show Bx (Sd.CE _ _ _ _ (.sl _ _ _)));refine vt ?_ ?_ ?_
 |(with_reducible show Bx (Sd.CE _ _ _ _ (.rev _)));refine ce_rev ?_ ?_
 |(with_reducible show Bx (Sd.CE _ _ _ _ (.isi _ _)));first | refine Vl (T:="int") (t:=.int) (by intro m h;cases h) (Top.no (by assumption) (by kernel_rfl!)) (Top.no (by assumption) (by kernel_rfl!)) ?_ (hg:=show _=_ from by kernel_rfl!) (hgT:=show _=_ from by kernel_rfl!) (hvT:=by kernel_rfl!) (hnT:=by decide) (hdT:=by kernel_rfl!) (hs1:=by kernel_rfl!) (hs2:=by kernel_rfl!) (hpl:=by kernel_rfl!) | refine Vl (T:="bool") (t:=.bool) (by intro m h;cases h) (Top.no (by assumption) (by kernel_rfl!)) (Top.no (by assumption) (by kernel_rfl!)) ?_ (hg:=show _=_ from by kernel_rfl!) (hgT:=show _=_ from by kernel_rfl!) (hvT:=by kernel_rfl!) (hnT:=by decide) (hdT:=by kernel_rfl!) (hs1:=by kernel_rfl!) (hs2:=by kernel_rfl!) (hpl:=by kernel_rfl!) | refine Vl (T:="tuple") (t:=.tuple) (by intro m h;cases h) (Top.no (by assumption) (by kernel_rfl!)) (Top.no (by assumption) (by kernel_rfl!)) ?_ (hg:=show _=_ from by kernel_rfl!) (hgT:=show _=_ from by kernel_rfl!) (hvT:=by kernel_rfl!) (hnT:=by decide) (hdT:=by kernel_rfl!) (hs1:=by kernel_rfl!) (hs2:=by kernel_rfl!) (hpl:=by kernel_rfl!) | refine Vl (T:="list") (t:=.list) (by intro m h;cases h) (Top.no (by assumption) (by kernel_rfl!)) (Top.no (by assumption) (by kernel_rfl!)) ?_ (hg:=show _=_ from by kernel_rfl!) (hgT:=show _=_ from by kernel_rfl!) (hvT:=by kernel_rfl!) (hnT:=by decide) (hdT:=by kernel_rfl!) (hs1:=by kernel_rfl!) (hs2:=by kernel_rfl!) (hpl:=by kernel_rfl!) | refine Jl (T:="tuple") (U:="list") (t:=.tuple) (u:=.list) (by intro m h;cases h) (by intro m h;cases h) (Top.no (by assumption) (by kernel_rfl!)) (Top.no (by assumption) (by kernel_rfl!)) (Top.no (by assumption) (by kernel_rfl!)) ?_ (hg:=show _=_ from by kernel_rfl!) (hgT:=show _=_ from by kernel_rfl!) (hgU:=show _=_ from by kernel_rfl!) (hvT:=by kernel_rfl!) (hvU:=by kernel_rfl!) (hnT:=by decide) (hdT:=by kernel_rfl!) (hnU:=by decide) (hdU:=by kernel_rfl!) (hs0:=by kernel_rfl!) (hs00:=by kernel_rfl!) (hs1:=by kernel_rfl!) (hs2:=by kernel_rfl!) (hpl:=by kernel_rfl!)
 |(with_reducible show Bx (Sd.CE _ _ _ _ (.mt _ _ _)));refine Vm ?_ ?_ (hbase:=by kernel_rfl!) (hfew:=by kernel_rfl!) (hline:=by kernel_rfl!) (hs:=by kernel_rfl!) (hplain:=by kernel_rfl!)
 |(with_reducible show Bx (Sd.CE _ _ _ _ (.comp1 _ _ _ _ _ _)));refine UA rfl (by assumption) (by walk_at "n") ?_ (λ_ _ _ _=>⟨?_,?_,?_⟩) (hs:=by intro _;kernel_rfl!)
 |(with_reducible show Bx (Sd.CE _ _ _ _ (.comp2 _ _ _ _ _ _ _ _ _)));refine UW rfl (by assumption) (by walk_at "n") ?_ (λ_ _ _ _=>⟨?_,?_,?_,?_,?_,?_⟩) (hs:=by intro _;kernel_rfl!) (hs2:=by intro _ _;kernel_rfl!)
 |(with_reducible show Bx (Sd.CE _ _ _ _ _));first | refine zw ?_ ?_ | refine ce_or ?_ ?_ | refine yA ?_
 |(with_reducible show Bx (Sd.CO _ _ _ _ _));first | exact Jm | refine Q8 ?_
 |(with_reducible show Bx (Sd.CS _ _ _ _ (.ret _)));refine zG ?_
 |(with_reducible show Bx (Sd.CS _ _ _ _ (.par _ _)));refine zB rfl (by assumption) ?_ (hnm:=by decide) (hi:=by kernel_rfl!) (hj:=by kernel_rfl!) (hx:=by kernel_rfl!) (hy:=by kernel_rfl!) (hw:=by kernel_rfl!) (hs:=by kernel_rfl!)
 |(with_reducible show Bx (Sd.CS _ _ _ _ (.put _ _ _)));refine zo ?_ ?_ ?_ (ha:=by intro _;kernel_rfl!) (hs:=by kernel_rfl!) (hw:=by kernel_rfl!) (h1:=by kernel_rfl!)
 |(with_reducible show Bx (Sd.CS _ _ _ _ (.asg _ (.comp1 _ _ _ _ _ _))));refine Us rfl (by assumption) (by walk_at "n") ?_ (λ_ _ _ _=>⟨?_,?_,?_⟩) (hsw:=by kernel_rfl!) (hy:=by kernel_rfl!) (hx:=by first | exact Or.inl (by kernel_rfl!) | exact Or.inr (by kernel_rfl!)) (hf:=by first | exact .inl rfl | exact .inr (by kernel_rfl!)) (hs:=by intro _;kernel_rfl!)
 |(with_reducible show Bx (Sd.CS _ _ _ _ (.asg _ (.comp2 _ _ _ _ _ _ _ _ _))));refine Vr rfl (by assumption) (by walk_at "n") ?_ (λ_ _ _ _=>⟨?_,?_,?_,?_,?_,?_⟩) (hsw:=by kernel_rfl!) (hy:=by kernel_rfl!) (hx:=by first | exact Or.inl (by kernel_rfl!) | exact Or.inr (by kernel_rfl!)) (hf:=by first | exact .inl rfl | exact .inr (by kernel_rfl!)) (hs:=by intro _;kernel_rfl!) (hs2:=by intro _ _;kernel_rfl!)
 |(with_reducible show Bx (Sd.CS _ _ _ _ (.asg _ _)));refine yg ?_ ?_ (hs:=by kernel_rfl!) (hw:=by kernel_rfl!) (h1:=by kernel_rfl!)
 |(with_reducible show Bx (Sd.CS _ _ _ _ (.ex _)));refine Jb ?_ (hs:=by kernel_rfl!)
 |(with_reducible show Bx (Sd.CS _ _ _ _ (.ite _ _ _)));refine ua ?_ ?_ ?_
 |(with_reducible show Bx (Sd.CS _ _ _ _ (.forr _ _ _)));refine yb PassesOwn.never rfl ?_ ?_ ?_ (hs:=by intro _;kernel_rfl!)
 |(with_reducible show Bx (Sd.CS _ _ _ _ (.whl _ _)));refine Uf PassesOwn.never ?_ ?_
 |(with_reducible show Bx (Sd.CS _ _ _ _ (.aug _ _ _)));first | refine UB (op:=.Add) uJ (by assumption) ?_ (hi:=by kernel_rfl!) (hx:=by first | exact Or.inl (by kernel_rfl!) | exact Or.inr (by kernel_rfl!)) (hf:=by first | exact .inl rfl | exact .inr (by kernel_rfl!)) | refine UB (op:=.Sub) ag_sub (by assumption) ?_ (hi:=by kernel_rfl!) (hx:=by first | exact Or.inl (by kernel_rfl!) | exact Or.inr (by kernel_rfl!)) (hf:=by first | exact .inl rfl | exact .inr (by kernel_rfl!)) | refine UB (op:=.Mult) ag_mul (by assumption) ?_ (hi:=by kernel_rfl!) (hx:=by first | exact Or.inl (by kernel_rfl!) | exact Or.inr (by kernel_rfl!)) (hf:=by first | exact .inl rfl | exact .inr (by kernel_rfl!))
 |(with_reducible show Bx (Sd.CS _ _ _ _ _));first | exact cs_pass | exact UE | exact cs_brk | exact cs_cnt
 |(with_reducible show Bx (Sd.CT _ _ _ _ (.not _)));refine yq ?_
 |(with_reducible show Bx (Sd.CT _ _ _ _ (.cmp .eq _ _)));refine YE (op:=.Eq) (o:=.eq) (uv (by assumption)) ?_ ?_ (hm:=by first | exact nomark _ | kernel_rfl!)
 |(with_reducible show Bx (Sd.CT _ _ _ _ (.cmp .ne _ _)));refine YE (op:=.NotEq) (o:=.ne) (vY (by assumption)) ?_ ?_ (hm:=by first | exact nomark _ | kernel_rfl!)
 |(with_reducible show Bx (Sd.CT _ _ _ _ (.cmp .lt _ _)));refine YE (op:=.Lt) (o:=.lt) (xM (by assumption)) ?_ ?_ (hm:=by first | exact nomark _ | kernel_rfl!)
 |(with_reducible show Bx (Sd.CT _ _ _ _ (.cmp .le _ _)));refine YE (op:=.LtE) (o:=.le) (QK (by assumption)) ?_ ?_ (hm:=by first | exact nomark _ | kernel_rfl!)
 |(with_reducible show Bx (Sd.CT _ _ _ _ (.cmp .gt _ _)));refine YE (op:=.Gt) (o:=.gt) (uh (by assumption)) ?_ ?_ (hm:=by first | exact nomark _ | kernel_rfl!)
 |(with_reducible show Bx (Sd.CT _ _ _ _ (.cmp .ge _ _)));refine YE (op:=.GtE) (o:=.ge) (vP (by assumption)) ?_ ?_ (hm:=by first | exact nomark _ | kernel_rfl!)
 |(with_reducible show Bx (Sd.CT _ _ _ _ (.cmp .is _ _)));refine YE (op:=.Is) (o:=.is) (vL (by assumption)) ?_ ?_ (hm:=by first | exact nomark _ | kernel_rfl!)
 |(with_reducible show Bx (Sd.CT _ _ _ _ (.cmp .isn _ _)));refine YE (op:=.IsNot) (o:=.isn) (zT (by assumption)) ?_ ?_ (hm:=by first | exact nomark _ | kernel_rfl!)
 |(with_reducible show Bx (Sd.CT _ _ _ _ (.cmp .inn _ _)));refine YE (op:=.In) (o:=.inn) (vN (by assumption)) ?_ ?_ (hm:=by first | exact nomark _ | kernel_rfl!)
 |(with_reducible show Bx (Sd.CT _ _ _ _ (.cmp .nin _ _)));refine YE (op:=.NotIn) (o:=.nin) (yp (by assumption)) ?_ ?_ (hm:=by first | exact nomark _ | kernel_rfl!)
 |(with_reducible show Bx (Sd.CT _ _ _ _ (.and _ _)));refine uc (JD ?_ ?_)
 |(with_reducible show Bx (Sd.CT _ _ _ _ (.or _ _)));refine uc (yX ?_ ?_)
 |(with_reducible show Bx (Sd.CT _ _ _ _ _));refine ya ?_ (he:=by intro _;kernel_rfl!)
 |(with_reducible show Bx (Sd.CWh _ _ _ _ _));first | refine JD ?_ ?_ | refine JJ ?_ | refine yX ?_ ?_ | refine yz ?_
 |(with_reducible show Bx (Sd.CTs _ _ _ _ _));first | exact Q9 | refine JG ?_
 |(with_reducible show Bx (Sd.CW _ _ _ _ _ _));first | refine JO (Top.no (by assumption) (by kernel_rfl!)) ?_ (hg:=show _=_ from by kernel_rfl!) (hs:=by kernel_rfl!) | refine Je (Top.no (by assumption) (by kernel_rfl!)) ?_ (hg:=show _=_ from by kernel_rfl!) (hs:=by kernel_rfl!) (hs2:=by kernel_rfl!) | refine JW (Top.no (by assumption) (by kernel_rfl!)) (Top.no (by assumption) (by kernel_rfl!)) ?_ (hgr:=show _=_ from by kernel_rfl!) (hg:=show _=_ from by kernel_rfl!) (hs:=by kernel_rfl!) (hs2:=by kernel_rfl!) | refine yF (Top.no (by assumption) (by kernel_rfl!)) ?_ (hg:=show _=_ from by kernel_rfl!) (hs:=by kernel_rfl!) (hs2:=by kernel_rfl!) | refine JF (Top.no (by assumption) (by kernel_rfl!)) ?_ (hg:=show _=_ from by kernel_rfl!) (hs:=by kernel_rfl!) | refine uF ?_
 |(with_reducible show Bx (Sd.CG _ _ _));first | exact JB (by first | assumption | exact Pw (by kernel_rfl!)) (hi:=by kernel_rfl!) (hx:=by first | exact Or.inl (by kernel_rfl!) | exact Or.inr (by kernel_rfl!)) (hf:=by first | exact .inl rfl | exact .inr (by kernel_rfl!)) | refine zW rfl ?_ (hn:=by kernel_rfl!) (hst:=by kernel_rfl!)
 |(with_reducible show Bx (Sd.CGs _ _ _));first | exact Jc | refine UP (by first | assumption | exact Pw (by kernel_rfl!)) ?_ (hi:=by kernel_rfl!) (hx:=by first | exact Or.inl (by kernel_rfl!) | exact Or.inr (by kernel_rfl!)) (hf:=by first | exact .inl rfl | exact .inr (by kernel_rfl!)) (hs:=by kernel_rfl!)))
end K43
def PySem.W.Fast.tw10054913332755113731:=0
def PySem.W.Fast.tw10120533025421123095:=0
def PySem.W.Fast.tw10173719809705796155:=0
def PySem.W.Fast.tw10888460947118167371:=0
def PySem.W.Fast.tw1098283209418815288:=0
def PySem.W.Fast.tw11303383630534536277:=0
def PySem.W.Fast.tw11484150679176588311:=0
def PySem.W.Fast.tw11724215136490769200:=0
def PySem.W.Fast.tw11874921893445923765:=0
def PySem.W.Fast.tw13040683826070859862:=0
def PySem.W.Fast.tw13517561479002281898:=0
def PySem.W.Fast.tw13720704788595837612:=0
def PySem.W.Fast.tw14003994116859006507:=0
def PySem.W.Fast.tw14083254401219501272:=0
def PySem.W.Fast.tw14225214352287241622:=0
def PySem.W.Fast.tw14276060072067797291:=0
def PySem.W.Fast.tw14507106024933517689:=0
def PySem.W.Fast.tw14658184836109395401:=0
def PySem.W.Fast.tw14861573458625915442:=0
def PySem.W.Fast.tw15603591958649349384:=0
def PySem.W.Fast.tw15721460686171054041:=0
def PySem.W.Fast.tw15837630588603407761:=0
def PySem.W.Fast.tw16340904976334059962:=0
def PySem.W.Fast.tw16446276966264988477:=0
def PySem.W.Fast.tw16860124338752557098:=0
def PySem.W.Fast.tw16886978568173803783:=0
def PySem.W.Fast.tw17042579375335016016:=0
def PySem.W.Fast.tw17159626918207644706:=0
def PySem.W.Fast.tw17650938276477467249:=0
def PySem.W.Fast.tw17879856169768738043:=0
def PySem.W.Fast.tw17957029626292541772:=0
def PySem.W.Fast.tw1946769316457959132:=0
def PySem.W.Fast.tw2086670450107862829:=0
def PySem.W.Fast.tw2183369010392097197:=0
def PySem.W.Fast.tw2576765914422039594:=0
def PySem.W.Fast.tw2841518910553151199:=0
def PySem.W.Fast.tw2910566005444995416:=0
def PySem.W.Fast.tw2913497131054984851:=0
def PySem.W.Fast.tw3144429104152462843:=0
def PySem.W.Fast.tw345646159413546312:=0
def PySem.W.Fast.tw371080563774356312:=0
def PySem.W.Fast.tw3736215452931960843:=0
def PySem.W.Fast.tw3783203071911057484:=0
def PySem.W.Fast.tw4476157261284046373:=0
def PySem.W.Fast.tw5023918478804905778:=0
def PySem.W.Fast.tw5141320868033717592:=0
def PySem.W.Fast.tw5179046457302519750:=0
def PySem.W.Fast.tw5624866105001106761:=0
def PySem.W.Fast.tw5811036597903039639:=0
def PySem.W.Fast.tw6116622369047596703:=0
def PySem.W.Fast.tw6263023870391174108:=0
def PySem.W.Fast.tw6298223450408846502:=0
def PySem.W.Fast.tw6606284583496782907:=0
def PySem.W.Fast.tw6775416983319246531:=0
def PySem.W.Fast.tw70924087871305686:=0
def PySem.W.Fast.tw746000506767660782:=0
def PySem.W.Fast.tw750518949933584969:=0
def PySem.W.Fast.tw8567678516944266141:=0
def PySem.W.Fast.tw859152609696693533:=0
def PySem.W.Fast.tw8818577928091384614:=0
def PySem.W.Fast.tw8844229283814556233:=0
def PySem.W.Fast.tw908622966607703211:=0
def PySem.W.Fast.tw9158715427410395746:=0
open PySem PySem.W PyProof.Rows Gn
set_option maxRecDepth 100000 in
set_option maxHeartbeats 0 in
theorem PySem.Challenge.cw_fewspaces_k43_whole_against_holds : PySem.Challenge.rw_fewspaces_k43_whole_against.Holds := by
  w_on; o_law; k_head; (case hw => w_witness2)
  k_fill
  refine Gn.walk (l := PySem.Challenge.rw_fewspaces_k43_whole_against) (F := K43.fns) (L := 41) (fun ns => K43.law_ok (ns := ns) (S := [.scr ns]) 56 rfl) rfl rfl (fun w h Y => PySem.W.kIn_of Y) ?F
  case F =>
    intro w mg fa h KX G hmg;refine' Gn.Zbb (fs := K43.fs) (zs := K43.zs) KX G hmg rfl K43.okl ?A ?Z
    case A => repeat' (first | exact FnsAt.nil | refine' FnsAt.cons ?h1 ?h2 ?h3 ?h4 ?h5 ?_; (case h1 => k_is); (case h2 => k_is); (case h3 => k_is); (case h4 => k_is); (case h5 => first | exact bd1 fun _ _ _ _ _ _ _ => rfl | exact bd2 fun _ _ _ _ _ _ _ _ => rfl | exact bd3 fun _ _ _ _ _ _ _ _ _ => rfl | exact bd4 fun _ _ _ _ _ _ _ _ _ _ => rfl | exact bd5 fun _ _ _ _ _ _ _ _ _ _ _ => rfl | exact bd6 fun _ _ _ _ _ _ _ _ _ _ _ _ => rfl))
    case Z => repeat' (first | exact ZsAt.nil | refine' ZsAt.cons ?h1 ?_; (case h1 => k_is))
