import PyProof.Rows.All
import Wide.All
import OpenK.AllK
import Wide.FinOn
import Lean
import PyProof.EqAt
import PyProof.EqKinds
import PyProof.TupleCall
import PyProof.ConsumeWalk
import PyProof.CompFree
import PyProof.ZipIter
import PyProof.Draws
import PyProof.EnumMake
import PyProof.SumWalk
import PyProof.ListMulAny
import KE.KSortTup
import PyProof.Rows.SortRev
import PySem.Challenge.RW_fewspaces_k23_whole_joined_and_met
set_option Elab.async false
set_option linter.all false
set_option maxRecDepth 100000
set_option maxHeartbeats 0
namespace L2
open PySem PySem.Spec PyProof.Rows
noncomputable abbrev Key:=Sum Int Str
noncomputable def QW:Key->Value->Bool
 |.inl k,v=>Value.isInt k v
 |.inr x,v=>Value.isStrOf x v
noncomputable def Za2 (w:World):Key->Int
 |.inl k=>hashInt k
 |.inr x=>hashStr w x
theorem Yk:∀{k:Key}{v:Value},QW k v=true->(∃i t,k=Sum.inl i/\v=Value.int i t)\/(∃x t,k=Sum.inr x/\v=Value.str x t)
 |.inl i,v,h=>by
  obtain⟨t,e⟩:=Value.isInt_shape (k:=i) (v:=v) h;exact .inl ⟨i,t,rfl,e⟩
 |.inr x,v,h=>by
  obtain⟨t,e⟩:=Value.isStrOf_shape (x:=x) (v:=v) h;exact .inr ⟨x,t,rfl,e⟩
theorem yH (i:Int) (t:Tok):QW (.inl i) (.int i t)=true:=by simp[QW,Value.isInt]
theorem xp (x:Str) (t:Tok):QW (.inr x) (.str x t)=true:=by simp[QW,Value.isStrOf]
theorem qG (a b:Int):decide ((Sum.inl a:Key)=Sum.inl b)=(a == b):=by
 by_cases e:a=b
 ·subst e;simp
 ·have h:¬(Sum.inl a:Key)=Sum.inl b:=λq=>e (Sum.inl.inj q)
  rw[decide_eq_false h];exact (beq_eq_false_iff_ne.mpr e).symm
theorem jG (a b:Str):decide ((Sum.inr a:Key)=Sum.inr b)=decide (a=b):=by
 by_cases e:a=b
 ·subst e;simp
 ·have h:¬(Sum.inr a:Key)=Sum.inr b:=λq=>e (Sum.inr.inj q)
  rw[decide_eq_false h,decide_eq_false e]
theorem jg (a:Int) (b:Str):decide ((Sum.inl a:Key)=Sum.inr b)=false:=decide_eq_false (λq=>nomatch q)
theorem jx (a:Str) (b:Int):decide ((Sum.inr a:Key)=Sum.inl b)=false:=decide_eq_false (λq=>nomatch q)
noncomputable def Y1 (prog:Program) (w:World):PySem.KeyKind prog w Key where
 is:=QW
 hash:=Za2 w
 inj:=λv a b ha hb=>by
  rcases Yk ha with ⟨i,t,rfl,rfl⟩ | ⟨x,t,rfl,rfl⟩
  ·rcases Yk hb with ⟨j,u,rfl,e⟩ | ⟨y,u,rfl,e⟩
   ·injection e with e1 _;rw[e1]
   ·exact nomatch e
  ·rcases Yk hb with ⟨j,u,rfl,e⟩ | ⟨y,u,rfl,e⟩
   ·exact nomatch e
   ·injection e with e1 _;rw[e1]
 byValue:=λk v h=>by
  rcases Yk h with ⟨i,t,rfl,rfl⟩ | ⟨x,t,rfl,rfl⟩ <;> rfl
 pyHash:=λhv h=>by
  rcases Yk hv with ⟨i,t,rfl,rfl⟩ | ⟨x,t,rfl,rfl⟩
  ·exact wpAny_pyHash_int h
  ·exact wpAny_pyHash_str h
 eqBool:=λhu hv h=>by
  rcases Yk hu with ⟨i,t,rfl,rfl⟩ | ⟨x,t,rfl,rfl⟩
  ·rcases Yk hv with ⟨j,u,rfl,rfl⟩ | ⟨y,u,rfl,rfl⟩
   ·rw[qG] at h;exact wpAny_eqBool_int h
   ·rw[jg] at h;exact SeqAt.EqAt.int_str i t y u _ _ _ _ h
  ·rcases Yk hv with ⟨j,u,rfl,rfl⟩ | ⟨y,u,rfl,rfl⟩
   ·rw[jx] at h;exact SeqAt.EqAt.str_int x t j u _ _ _ _ h
   ·rw[jG] at h;exact wpAny_eqBool_str h
 «strs»:=λk x t v h=>by
  rcases Yk h with ⟨i,u,rfl,e⟩ | ⟨y,u,rfl,e⟩
  ·exact nomatch e
  ·injection e with e1 _
   subst e1;cases v <;> rfl
theorem GD (prog:Program) (w:World) (i:Int) (t:Tok):(Y1 prog w).is (.inl i) (.int i t)=true:=yH i t
theorem JU (prog:Program) (w:World) (x:Str) (t:Tok):(Y1 prog w).is (.inr x) (.str x t)=true:=xp x t
end L2
namespace L2
open PySem PySem.Spec PyProof.Rows
inductive V where
 |non | bl (b:Bool) | int (i:Int) | str (x:Str) | byt (b:Array UInt8) | flt (b:UInt64) | ref (a:Addr) | ty (n:String)
 deriving DecidableEq
noncomputable def Z2:V->Value->Prop
 |.non,u=>u=Value.none
 |.bl b,u=>u=Value.bool b
 |.int i,u=>∃t,u=Value.int i t
 |.str x,u=>∃t,u=Value.str x t
 |.byt b,u=>∃t,u=Value.bytes b t
 |.flt b,u=>∃t,u=Value.float b t
 |.ref a,u=>u=Value.ref a
 |.ty n,u=>u=Value.type n
noncomputable abbrev Vals:List V->List Value->Prop:=Paired Z2
theorem Vals.length {xs:List V}{us:List Value}(r:Vals xs us):xs.length=us.length:=Paired.length r
theorem Vals.get:∀{xs:List V}{us:List Value}{i:Nat}{x:V},Vals xs us->xs[i]? = some x->∃u,us[i]? = some u/\Z2 x u
 |_,_,_,_,.nil,e=>by simp at e
 |_,_,0,_,.cons r _,e=>by simp at e;subst e;exact⟨_,rfl,r⟩
 |_,_,i+1,x,.cons _ t,e=>by
  obtain⟨u,h1,h2⟩:=Vals.get (i:=i) (x:=x) t (by simpa using e)
  exact⟨u,by simpa using h1,h2⟩
theorem Vals.set {x:V}{u:Value}(r:Z2 x u):∀{xs:List V}{us:List Value}(i:Nat),Vals xs us->Vals (xs.set i x) (us.set i u)
 |_,_,_,.nil=>.nil
 |_,_,0,.cons _ t=>.cons r t
 |_,_,i+1,.cons q t=>.cons q (Vals.set r i t)
theorem Vals.append:∀{xs ys:List V}{us ws:List Value},Vals xs us->Vals ys ws->Vals (xs++ys) (us++ws)
 |_,_,_,_,.nil,s=>s
 |_,_,_,_,.cons r t,s=>.cons r (Vals.append t s)
theorem Vals.take:∀{xs:List V}{us:List Value}(n:Nat),Vals xs us->Vals (xs.take n) (us.take n)
 |_,_,0,_=>.nil
 |_,_,_+1,.nil=>.nil
 |_,_,n+1,.cons r t=>.cons r (Vals.take n t)
theorem Vals.drop:∀{xs:List V}{us:List Value}(n:Nat),Vals xs us->Vals (xs.drop n) (us.drop n)
 |_,_,0,r=>r
 |_,_,_+1,.nil=>.nil
 |_,_,n+1,.cons _ t=>Vals.drop n t
noncomputable def GV:Option V->Option Value->Prop
 |some v,some u=>Z2 v u
 |none,none=>True
 |_,_=>False
noncomputable def KV {κ:Type}:List (κ×V)->List (κ×Value)->Prop:=Paired λ(p:κ×V) (q:κ×Value)=>p.1=q.1/\Z2 p.2 q.2
noncomputable def kV:Key->V
 |.inl i=>.int i
 |.inr x=>.str x
inductive HO where
 |lst (xs:List V)
 |tup (xs:List V)
 |dK (kvs:List (Key×V)) | dT (kvs:List (List Key×V))
 |set (S:Int->Bool) (n:Nat)
 |ins (C dx:Addr) (fs:List (Str×V))
 |own (x:Addr)
 |xd (fs:List (Str×V))
 |met (f x:Addr)
 |rng (lo hi:Int)
 |frz (o:Obj) (u:HO)
 |tbl (ps:Array Value)
 |ext (φ:Heap->Prop)
noncomputable abbrev Hp:=Addr->Option HO
noncomputable def upd (H:Hp) (a:Addr) (o:HO):Hp:=λb=>if b=a then some o else H b
theorem YH {H:Hp}{a:Addr}{o:HO}:upd H a o a=some o:=by unfold upd;rw[if_pos rfl]
theorem Z0 {H:Hp}{a b:Addr}{o:HO}(h:b≠a):upd H a o b=H b:=by unfold upd;rw[if_neg h]
theorem ZV {H:Hp}{a b:Addr}{o:HO}(h:H a=some o) (h':H b=none):a≠b:=by
 intro e;subst e;rw[h] at h';cases h'
section
variable (P:Program) (w:World)
noncomputable def Yi (H:Hp) (h:Heap) (a:Addr):HO->Prop
 |.lst xs=>xs.length<=sizeLine/\∃(its:List Value) (n:Nat),Vals xs its/\h.get? a=some { cls:=.type "list",data:=.seq its.toArray n }
 |.tup xs=>xs.length<=sizeLine/\∃its:List Value,Vals xs its/\IsTup h a its.toArray
 |.dK kvs=>kvs.length<=sizeLine/\(a == sysModules)=false/\∃vs,KV kvs vs/\h.DictOf (Y1 P w) a vs
 |.dT kvs=>kvs.length<=sizeLine/\(a == sysModules)=false/\∃xs:List (List Key×Addr×Value),
   Paired (λ(p:List Key×V) (q:List Key×Addr×Value)=>p.1=q.1/\H q.2.1=some (.tup (p.1.map kV))/\Z2 p.2 q.2.2) kvs xs/\
   ∃o es ep,h.get? a=some o/\o.ExactDict/\o.data=.dict es ep/\es.toList=xs.map (entryOfKey (tupleKind (Y1 P w)))/\(xs.map (·.1)).Nodup
 |.set S n=>h.SetOf (intKind P w) a S n
 |.ins C dx fs=>H dx=some (.own a)/\fs.length<=1000/\dx≠a/\h.get? a=some (PySem.W.instObj C dx)/\
   ∃mA,h.Ns1 dx mA/\(∀f,GV (fs.lookup f) (mA f))/\PySem.Within mA (fs.map (·.1))
 |.own _=>∃o,h.get? a=some o
 |.xd fs=>∃mA,h.Ns1 a mA/\∀f,GV (fs.lookup f) (mA f)
 |.rng lo hi=>∃t u v,h.get? a=some { cls:=.type "range",data:=.fields #[.int lo t,.int hi u,.int 1 v] }
 |.frz o u=>h.get? a=some o/\Yi H h a u
 |.tbl ps=>h.get? a=some { cls:=.none,data:=.fields ps }
 |.met f x=>h.get? a=some (PySem.W.methodObj (.ref f) (.ref x))
 |.ext φ=>φ h/\(∃o,h.get? a=some o)/\∀h1 h2:Heap,φ h1->(∀o,h1.get? a=some o->h2.get? a=some o)->φ h2
noncomputable def HOk (H:Hp) (h:Heap):Prop:=∀a o,H a=some o->Yi P w H h a o
end
section
variable {P:Program}{w:World}{H H':Hp}{h h':Heap}{a:Addr}{o:HO}
theorem Yi.lt (x:Yi P w H h a o):a<h.objs.size:=by
 cases o with
 |lst xs=>obtain⟨_,_,_,_,e⟩:=x;exact Heap.lt_size e
 |tup xs=>obtain⟨_,_,_,p⟩:=x;exact p.lt
 |dK kvs=>obtain⟨_,_,_,_,o,_,_,e,_⟩:=x;exact Heap.lt_size e
 |dT kvs=>obtain⟨_,_,_,_,o,_,_,e,_⟩:=x;exact Heap.lt_size e
 |set S n=>obtain⟨o,_,_,_,e,_⟩:=x;exact Heap.lt_size e
 |ins C dx fs=>obtain⟨_,_,_,e,_⟩:=x;exact Heap.lt_size e
 |own y=>obtain⟨_,e⟩:=x;exact Heap.lt_size e
 |xd fs=>obtain⟨_,⟨_,_,_,e,_⟩,_⟩:=x;exact Heap.lt_size e
 |rng lo hi=>obtain⟨_,_,_,e⟩:=x;exact Heap.lt_size e
 |frz ob u=>obtain⟨e,_⟩:=x;exact Heap.lt_size e
 |tbl ps=>exact Heap.lt_size (show h.get? a=some _ from x)
 |met f y=>exact Heap.lt_size (show h.get? a=some _ from x)
 |ext φ=>obtain⟨_,⟨_,e⟩,_⟩:=x;exact Heap.lt_size e
theorem Paired.mapP {α β:Type}{F G:α->β->Prop}:∀{l₁:List α}{l₂:List β},Paired F l₁ l₂->(∀a b,F a b->G a b)->Paired G l₁ l₂
 |_,_,.nil,_=>.nil
 |_,_,.cons r t,f=>.cons (f _ _ r) (Paired.mapP t f)
theorem Yi.stay (x:Yi P w H h a o) (k:∀b u,(b=a\/H b=some (.own a))->h.get? b=some u->h'.get? b=some u)
  (ho:∀b,H b=some (.own a)->H' b=some (.own a)) (ht:∀b xs,H b=some (.tup xs)->H' b=some (.tup xs)):Yi P w H' h' a o:=by
 induction o with
 |lst xs=>obtain⟨z,its,n,r,e⟩:=x;exact⟨z,its,n,r,k _ _ (.inl rfl) e⟩
 |tup xs=>obtain⟨z,its,r,ob,e,c⟩:=x;exact⟨z,its,r,ob,k _ _ (.inl rfl) e,c⟩
 |dK kvs=>obtain⟨z,y,vs,r,ob,es,ep,e,c⟩:=x;exact⟨z,y,vs,r,ob,es,ep,k _ _ (.inl rfl) e,c⟩
 |dT kvs=>
  obtain⟨z,y,xs,r,ob,es,ep,e,c⟩:=x;exact⟨z,y,xs,Paired.mapP r λp q z=>⟨z.1,ht _ _ z.2.1,z.2.2⟩,ob,es,ep,k _ _ (.inl rfl) e,c⟩
 |set S n=>obtain⟨ob,es,ep,t,e,c⟩:=x;exact⟨ob,es,ep,t,k _ _ (.inl rfl) e,c⟩
 |ins C dx fs=>
  obtain⟨d,z,ne,e,mA,⟨od,es,ep,e2,c⟩,r⟩:=x;exact⟨ho _ d,z,ne,k _ _ (.inl rfl) e,mA,⟨od,es,ep,k _ _ (.inr d) e2,c⟩,r⟩
 |own y=>obtain⟨ob,e⟩:=x;exact⟨ob,k _ _ (.inl rfl) e⟩
 |xd fs=>obtain⟨mA,⟨od,es,ep,e,c⟩,r⟩:=x;exact⟨mA,⟨od,es,ep,k _ _ (.inl rfl) e,c⟩,r⟩
 |rng lo hi=>obtain⟨t,u,v,e⟩:=x;exact⟨t,u,v,k _ _ (.inl rfl) e⟩
 |frz ob u ih=>obtain⟨e,q⟩:=x;exact⟨k _ _ (.inl rfl) e,ih q⟩
 |tbl ps=>
  have e:h.get? a=some { cls:=.none,data:=.fields ps }:=x;show h'.get? a=some { cls:=.none,data:=.fields ps };exact k a _ (.inl rfl) e
 |met f y=>
  have e:h.get? a=some (PySem.W.methodObj (.ref f) (.ref y)):=x;show h'.get? a=some (PySem.W.methodObj (.ref f) (.ref y));exact k a _ (.inl rfl) e
 |ext φ=>obtain⟨p,⟨o,e⟩,st⟩:=x;exact⟨st _ _ p λo q=>k _ _ (.inl rfl) q,⟨o,k _ _ (.inl rfl) e⟩,st⟩
theorem HOk.lt (x:HOk P w H h) (e:H a=some o):a<h.objs.size:=(x a o e).lt
theorem HOk.fresh (x:HOk P w H h) (e:h.objs.size<=a):H a=none:=by
 cases q:H a with
 |none=>rfl
 |some u=>exact absurd (Nat.lt_of_lt_of_le (x.lt q) e) (Nat.lt_irrefl _)
theorem HOk.kept (x:HOk P w H h) (k:∀b u,h.get? b=some u->h'.get? b=some u):HOk P w H h':=λa o e=>
 (x a o e).stay (λb u _ q=>k b u q) (λ_ q=>q) λ_ _ q=>q
theorem HOk.laid (x:HOk P w H h) (k:∀b u,h.get? b=some u->h'.get? b=some u) (hp:h.objs.size<=a) (new:Yi P w (upd H a o) h' a o):HOk P w (upd H a o) h':=λb u e=>by
 have hn:=x.fresh hp;by_cases hb:b=a
 ·subst hb;rw[YH] at e;cases e;exact new
 ·rw[Z0 hb] at e
  exact (x b u e).stay (λc v _ q=>k c v q) (λc q=>by rw[Z0 (ZV q hn)];exact q) λc xs q=>by rw[Z0 (ZV q hn)];exact q
end
noncomputable def Rd (H:Hp) (a:Addr) (u:HO):Prop:=H a=some u\/∃o,H a=some (.frz o u)
theorem Rd.ok {P:Program}{w:World}{H:Hp}{h:Heap}{a:Addr}{u:HO}(r:Rd H a u) (x:HOk P w H h):Yi P w H h a u:=by
 rcases r with r | ⟨o,r⟩
 ·exact x a u r
 ·obtain⟨_,q⟩:=x a _ r
  exact q
noncomputable def Mut:Option HO->Prop
 |some (.lst _)=>True
 |some (.dK _)=>True
 |some (.dT _)=>True
 |some (.set _ _)=>True
 |some (.ins _ _ _)=>True
 |some (.ext _)=>True
 |_=>False
section
variable {P:Program}{w:World}{H:Hp}{h h':Heap}{x e:Addr}{o':HO}
theorem HOk.write (ok:HOk P w H h) (mu:Mut (H x)) (he:e=x\/H e=some (.own x)) (k:∀b u,b≠e->h.get? b=some u->h'.get? b=some u) (heo:∃u,h'.get? e=some u)
  (new:Yi P w (upd H x o') h' x o'):HOk P w (upd H x o') h':=λb u q=>by
 have nown:∀c y,H c=some (.own y)->c≠x:=λc y r z=>by subst z;rw[r] at mu;exact mu
 have ntup:∀c xs,H c=some (.tup xs)->c≠x:=λc xs r z=>by subst z;rw[r] at mu;exact mu
 by_cases hb:b=x
 ·subst hb;rw[YH] at q;cases q;exact new
 ·rw[Z0 hb] at q
  by_cases hbe:b=e
  ·have q':H b=some (.own x):=by
    rcases he with z | z
    ·exact absurd (hbe.trans z) hb
    ·rw[hbe];exact z
   rw[q] at q';cases q';obtain⟨v,hv⟩:=heo;exact⟨v,by rw[hbe];exact hv⟩
  ·refine (ok b u q).stay (λc v hc r=>k c v ?_ r) (λc r=>by rw[Z0 (nown c b r)];exact r) λc xs r=>by rw[Z0 (ntup c xs r)];exact r
   rcases hc with rfl | hc
   ·exact hbe
   ·rintro rfl
    rcases he with z | z
    ·exact nown c b hc z
    ·rw[hc] at z;cases z;exact hb rfl
end
structure Un (fs ex:List Addr) (H H':Hp) (h h':Heap):Prop where
 keep:∀b o,h.get? b=some o->H b=none->b∉fs->b∉ex->h'.get? b=some o
 slot:∀b o,h.get? b=some o->H b=none->b∈fs->b∉ex->∃sl,h'.get? b=some { o with slots:=sl }
 free:∀b o,h.get? b=some o->H b=none->b∉ex->H' b=none
 there:∀b o,h.get? b=some o->b∉ex->∃o',h'.get? b=some o'
 tups:∀b xs,H b=some (.tup xs)->H' b=some (.tup xs)
 frzs:∀b o u,H b=some (.frz o u)->H' b=some (.frz o u)
 tbls:∀b ps,H b=some (.tbl ps)->∃more,H' b=some (.tbl (ps++more))
section
variable {fs fs' ex ex':List Addr}{H H1 H2:Hp}{h h1 h2 h':Heap}{a x e:Addr}{o:HO}
theorem Un.any (u:Un fs ex H H1 h h1) {b:Addr}{ob:Obj}(q:h.get? b=some ob) (n:H b=none) (hx:b∉ex):∃sl,h1.get? b=some { ob with slots:=sl }:=by
 by_cases hb:b∈fs
 ·exact u.slot b ob q n hb hx
 ·exact⟨ob.slots,u.keep b ob q n hb hx⟩
theorem Un.kept (k:∀b u,h.get? b=some u->h'.get? b=some u):Un fs ex H H h h':=
 ⟨λb ob q _ _ _=>k b ob q,λb ob q _ _ _=>⟨ob.slots,k b ob q⟩,λ_ _ _ n _=>n,λb ob q _=>⟨ob,k b ob q⟩,λ_ _ q=>q,λ_ _ _ q=>q,λ_ ps q=>⟨#[],by rw[q];simp⟩⟩
theorem Un.refl:Un fs ex H H h h:=Un.kept λ_ _ q=>q
theorem Un.laid (k:∀b u,h.get? b=some u->h'.get? b=some u) (hp:h.objs.size<=a) (hn:H a=none):Un fs ex H (upd H a o) h h' where
 keep:=λb u q _ _ _=>k b u q
 slot:=λb u q _ _ _=>⟨u.slots,k b u q⟩
 free:=λb u q n _=>by rw[Z0 (Nat.ne_of_lt (Nat.lt_of_lt_of_le (Heap.lt_size q) hp))];exact n
 there:=λb u q _=>⟨u,k b u q⟩
 tups:=λb xs q=>by rw[Z0 (ZV q hn)];exact q
 frzs:=λb u xs q=>by rw[Z0 (ZV q hn)];exact q
 tbls:=λb ps q=>⟨#[],by rw[Z0 (ZV q hn),q];simp⟩
theorem Un.write (mu:Mut (H x)) (he:e=x\/H e=some (.own x)) (k:∀b u,b≠e->h.get? b=some u->h'.get? b=some u) (heo:∃u,h'.get? e=some u):Un fs ex H (upd H x o) h h':=by
 have hx:∀b,H b=none->b≠x:=λb n z=>by subst z;rw[n] at mu;exact mu
 have hb:∀b,H b=none->b≠e:=λb n z=>by
  subst z;rcases he with r | r
  ·exact hx b n r
  ·rw[n] at r;cases r
 have hm:∀b u,H b=some u->¬Mut (some u)->b≠x:=λb u q nm z=>by subst z;rw[q] at mu;exact nm mu
 refine⟨λb u q n _ _=>k b u (hb b n) q,λb u q n _ _=>⟨u.slots,k b u (hb b n) q⟩,λb u q n _=>by rw[Z0 (hx b n)];exact n,λb u q _=>?_,
  λb xs q=>by rw[Z0 (hm b _ q λz=>z)];exact q,λb u xs q=>by rw[Z0 (hm b _ q λz=>z)];exact q,λb ps q=>⟨#[],by rw[Z0 (hm b _ q λz=>z),q];simp⟩⟩
 by_cases hbe:b=e
 ·subst hbe;exact heo
 ·exact⟨u,k b u hbe q⟩
end
noncomputable def trk (h:Heap) (H:Hp):List Addr:=(List.range h.objs.size).filter λa=>(H a).isSome
noncomputable def JS (h:Heap) (H:Hp):Heap:=PySem.W.hideAll h (trk h H)
theorem xh (h:Heap) (H:Hp):(JS h H).objs.size=h.objs.size:=PySem.W.hideAll_size _ _
theorem xV {h:Heap}{H:Hp}{b:Addr}{o:Obj}(e:h.get? b=some o) (n:H b=none):(JS h H).get? b=some o:=
 PySem.W.hideAll_get _ e λhm=>by
  have q:(H b).isSome=true:=(List.mem_filter.mp hm).2;rw[n] at q;simp at q
theorem uE {h:Heap}{H:Hp}{b:Addr}{o:Obj}(e:(JS h H).get? b=some o):h.get? b=some o/\H b=none:=by
 have e':h.get? b=some o:=PySem.W.of_hideAll (trk h H) e;refine⟨e',?_⟩;cases q:H b with
 |none=>rfl
 |some x=>
  have hm:b∈trk h H:=List.mem_filter.mpr ⟨List.mem_range.mpr (Heap.lt_size e'),by simp[q]⟩
  have z:(JS h H).get? b=none:=PySem.W.hideAll_none (trk h H) hm;rw[z] at e;cases e
end L2
namespace L2
open PySem PySem.Spec PyProof.Rows
structure Mod (K:PySem.W.Frag) (mg:Str->Option Value) (base:Heap):Prop where
 kin:K.In base
 glob:base.Ns mainGlobals mg
 blt:∃mb,base.Ns builtinsNs mb/\∀x:Str,x≠"__name__"->mb x=bootBuiltins x
 nolimit:base.NoLimit
structure Cx where
 prog:Program
 w:World
 K:PySem.W.Frag
 mg:Str->Option Value
 base:Heap
 A:Around
 N:List Str
 s₀:Shared
 H₀:Hp
 env:Env
 outer:List Env
 stack:List Env
 ex:List Addr
 fn:Str->Bool
 calm:Bool
 pn:List (Addr×Obj)
 xe:Value->Shared->Prop
noncomputable def frs (l:List Env):List Addr:=l.filterMap (·.frame)
noncomputable abbrev Cx.fs (X:Cx):List Addr:=frs X.outer
noncomputable def Vis (sc:Scope) (x:Str):Prop:=sc.names.lookup x=some .local\/sc.names.lookup x=some .cell\/sc.names.lookup x=some .free
noncomputable def Loc (sc:Scope) (x:Str):Prop:=sc.names.lookup x=some .local\/sc.names.lookup x=some .cell
noncomputable def Look (env:Env) (h:Heap) (m:Str->Option Value) (x:Str) (u:Value):Prop:=
 (env.kindOf x=some .local/\m x=some u)\/((env.kindOf x=some .cell\/env.kindOf x=some .free)/\∃c,env.cells.lookup x=some c/\h.IsCell c (some u))
structure Cx.Ok (X:Cx):Prop where
 mod:Mod X.K X.mg X.base
 kind:X.env.scope.kind=.function
 glob:X.env.globals=mainGlobals
 blt:X.env.builtins=builtinsNs
 above:X.s₀.heap.objs.size<=X.env.locals
 inj:∀x y c,X.env.cells.lookup x=some c->X.env.cells.lookup y=some c->x=y
 has:∀x,(X.env.kindOf x=some .cell\/X.env.kindOf x=some .free)->∃c,X.env.cells.lookup x=some c
 cab:∀x c,X.fn x=true->X.env.cells.lookup x=some c->X.s₀.heap.objs.size<=c
 hd:X.calm=true->X.A.handled=none
 frames:X.A.frames=some X.stack
 stk:X.stack=X.outer\/(X.stack=X.env::X.outer/\X.env.frame=some X.env.locals)
 exf:∀b∈X.ex,b≠X.env.locals/\∀x c,X.env.cells.lookup x=some c->c≠b
 bs:∀b o,X.base.get? b=some o->X.s₀.heap.get? b=some o/\X.H₀ b=none
 bsz:X.base.objs.size<=X.s₀.heap.objs.size
 noex:∀b o,X.base.get? b=some o->b∉X.ex
 exfs:∀b∈X.ex,b∉X.fs
 funs:X.s₀.heap.FunFrames X.base X.outer
 frf:∀b∈X.fs,X.H₀ b=none
structure Inv (X:Cx) (pins:List (Addr×Obj)) (σ:List (Option V)) (H:Hp) (s:Shared):Prop where
 ok:X.Ok
 os:s.os=X.s₀.os
 bare:AllBare s.gens
 base:Un X.fs X.ex X.H₀ H X.s₀.heap s.heap
 loc:∃m,s.heap.Ns X.env.locals m/\∀(i:Nat) (x:Str) (v:V),X.N[i]? = some x->σ[i]? = some (some v)->Vis X.env.scope x->∃u,Z2 v u/\Look X.env s.heap m x u
 cell:∀x c,X.env.cells.lookup x=some c->∃v,s.heap.IsCell c v
 free:H X.env.locals=none
 freeC:∀x c,X.env.cells.lookup x=some c->H c=none
 pin:∀p∈X.pn++pins,s.heap.get? p.1=some p.2/\H p.1=none/\p.1≠X.env.locals/\p.1∉X.fs/\∀v,p.2.data≠.cell v
 hok:HOk X.prog X.w H s.heap
 len:σ.length=X.N.length
section
variable {X:Cx}{pins:List (Addr×Obj)}{σ:List (Option V)}{H H':Hp}{s:Shared}{h':Heap}
theorem Cx.Ok.nofr (ok:X.Ok) {b:Addr}{o:Obj}(e:X.base.get? b=some o):b∉X.fs:=λhb=>by
 have:=(ok.funs.mem hb).1;rw[e] at this;cases this
theorem Inv.bs (I:Inv X pins σ H s):∀b o,X.base.get? b=some o->s.heap.get? b=some o/\H b=none:=λb o e=>
 ⟨I.base.keep b o (I.ok.bs b o e).1 (I.ok.bs b o e).2 (I.ok.nofr e) (I.ok.noex b o e),I.base.free b o (I.ok.bs b o e).1 (I.ok.bs b o e).2 (I.ok.noex b o e)⟩
theorem Inv.bk (I:Inv X pins σ H s):∀b o,X.base.get? b=some o->s.heap.get? b=some o:=λb o e=>(I.bs b o e).1
theorem Inv.mod (I:Inv X pins σ H s):Mod X.K X.mg X.base:=I.ok.mod
theorem Inv.kIn (I:Inv X pins σ H s):X.K.In s.heap:=I.ok.mod.kin.keeps I.bk
theorem Inv.lt (I:Inv X pins σ H s):X.env.locals<s.heap.objs.size:=let ⟨_,hn,_⟩:=I.loc;hn.lt
theorem Inv.sz (I:Inv X pins σ H s):X.s₀.heap.objs.size<=s.heap.objs.size:=Nat.le_trans I.ok.above (Nat.le_of_lt I.lt)
theorem Inv.nofs (I:Inv X pins σ H s) {a:Addr}(h:s.heap.objs.size<=a):a∉X.fs:=λhb=>by
 obtain⟨_,o,ho,_⟩:=I.ok.funs.mem hb;exact absurd (Nat.lt_of_lt_of_le (Heap.lt_size ho) (Nat.le_trans I.sz h)) (Nat.lt_irrefl _)
theorem Inv.cne (I:Inv X pins σ H s):∀x c,X.env.cells.lookup x=some c->c≠X.env.locals:=λx c e z=>by
 obtain⟨v,o,ho,hd⟩:=I.cell x c e;obtain⟨m,⟨o',es,ep,ho',hd',_⟩,_⟩:=I.loc;rw[z,ho'] at ho;cases ho;rw[hd'] at hd;cases hd
theorem Inv.funs (I:Inv X pins σ H s):s.heap.FunFrames X.base X.outer:=by
 have all:∀(l:List Env),(∀b∈frs l,b∈X.fs)->X.s₀.heap.FunFrames X.base l->s.heap.FunFrames X.base l:=by
  intro l
  induction l with
  |nil=>intro _ _;trivial
  |cons env r ih=>
   intro hs hl;obtain⟨hk,⟨L,o,hf,hn,ho,hd⟩,hr⟩:=hl;have hL:L∈X.fs:=hs L (by unfold frs;rw[List.filterMap_cons,hf];exact List.mem_cons_self)
   obtain⟨sl,e⟩:=I.base.slot L o ho (I.ok.frf L hL) hL λz=>I.ok.exfs L z hL
   exact⟨hk,⟨L,_,hf,hn,e,hd⟩,ih (λb hb=>hs b (by unfold frs;rw[List.filterMap_cons,hf];exact List.mem_cons_of_mem _ hb)) hr⟩
 exact all X.outer (λ_ hb=>hb) I.ok.funs
theorem Inv.stack (I:Inv X pins σ H s):s.heap.FunFrames X.base X.stack:=by
 rcases I.ok.stk with e | ⟨e,hf⟩
 ·rw[e];exact I.funs
 ·rw[e]
  obtain⟨m,hn,_⟩:=I.loc;refine .cons (by rw[I.ok.kind];decide) hf hn ?_ I.funs
  exact Heap.get?_none_of_le (Nat.le_trans I.ok.bsz I.ok.above)
theorem Inv.stkSub (I:Inv X pins σ H s):∀b∈frs X.stack,b∈X.env.locals::X.fs:=λb hb=>by
 rcases I.ok.stk with e | ⟨e,hf⟩
 ·rw[e] at hb;exact List.mem_cons_of_mem _ hb
 ·rw[e] at hb
  unfold frs at hb;rw[List.filterMap_cons,hf] at hb;exact hb
theorem Inv.stkFree (I:Inv X pins σ H s):∀b∈frs X.stack,H b=none:=λb hb=>by
 rcases List.mem_cons.mp (I.stkSub b hb) with e | hb
 ·rw[e];exact I.free
 ·obtain⟨_,o,ho,_⟩:=I.ok.funs.mem hb
  exact I.base.free b o ho (I.ok.frf b hb) λz=>I.ok.exfs b z hb
theorem Inv.step {g':Array GenState}{t':Nat}{d':Drawn}{ch:List Addr}(I:Inv X pins σ H s)
  (hch:∀b∈ch,(b∈X.ex\/X.s₀.heap.objs.size<=b)/\b≠X.env.locals/\(∀x c,X.env.cells.lookup x=some c->c≠b)/\∀p∈X.pn++pins,p.1≠b)
  (keep:∀b o,b≠X.env.locals->b∉X.fs->b∉ch->s.heap.get? b=some o->H b=none->h'.get? b=some o)
  (slot:∀b o,b≠X.env.locals->b∈X.fs->b∉ch->s.heap.get? b=some o->H b=none->∃sl,h'.get? b=some { o with slots:=sl }) (free:∀b o,b∉ch->s.heap.get? b=some o->H b=none->H' b=none)
  (there:∀b o,b∉ch->s.heap.get? b=some o->∃o',h'.get? b=some o')
  (tups:∀b xs,H b=some (.tup xs)->H' b=some (.tup xs)) (frzs:∀b o u,H b=some (.frz o u)->H' b=some (.frz o u)) (tbls:∀b ps,H b=some (.tbl ps)->∃more,H' b=some (.tbl (ps++more)))
  (ns:∀m,s.heap.Ns X.env.locals m->h'.Ns X.env.locals m) (hok:HOk X.prog X.w H' h') (hg:AllBare g') :
  Inv X pins σ H' { s with heap:=h',gens:=g',drawn:=d',toks:=t' }:=by
 have neL:∀b o,X.s₀.heap.get? b=some o->b≠X.env.locals:=λb o e=>Nat.ne_of_lt (Nat.lt_of_lt_of_le (Heap.lt_size e) I.ok.above)
 have neC:∀b o,X.s₀.heap.get? b=some o->b∉X.ex->b∉ch:=λb o e hx hb=>by
  rcases (hch b hb).1 with z | z
  ·exact hx z
  ·exact absurd (Nat.lt_of_lt_of_le (Heap.lt_size e) z) (Nat.lt_irrefl _)
 have cellK:∀x c,X.env.cells.lookup x=some c->∀v,s.heap.IsCell c v->h'.IsCell c v:=λx c e v ⟨o,ho,hd⟩=>by
  have nch:c∉ch:=λz=>(hch c z).2.2.1 x c e rfl
  by_cases hc:c∈X.fs
  ·obtain⟨sl,q⟩:=slot c o (I.cne x c e) hc nch ho (I.freeC x c e)
   exact⟨_,q,hd⟩
  ·exact⟨o,keep c o (I.cne x c e) hc nch ho (I.freeC x c e),hd⟩
 refine⟨I.ok,I.os,hg,⟨λb o e n hb hx=>?_,λb o e n hb hx=>?_,λb o e n hx=>?_,λb o e hx=>?_,λb xs e=>tups b xs (I.base.tups b xs e),λb o xs e=>frzs b o xs (I.base.frzs b o xs e),λb ps e=>?_⟩,?_,λx c e=>?_,?_,λx c e=>?_,λp hp=>?_,hok,I.len⟩
 ·exact keep b o (neL b o e) hb (neC b o e hx) (I.base.keep b o e n hb hx) (I.base.free b o e n hx)
 ·obtain⟨sl,e1⟩:=I.base.slot b o e n hb hx
  obtain⟨sl',e2⟩:=slot b _ (neL b o e) hb (neC b o e hx) e1 (I.base.free b o e n hx);exact⟨sl',e2⟩
 ·obtain⟨o',e1⟩:=I.base.there b o e hx
  exact free b o' (neC b o e hx) e1 (I.base.free b o e n hx)
 ·obtain⟨o',e1⟩:=I.base.there b o e hx
  exact there b o' (neC b o e hx) e1
 ·obtain⟨m1,e1⟩:=I.base.tbls b ps e
  obtain⟨m2,e2⟩:=tbls b _ e1;exact⟨m1++m2,by rw[e2,Array.append_assoc]⟩
 ·obtain⟨m,hn,hl⟩:=I.loc
  refine⟨m,ns m hn,λi x v e1 e2 e3=>?_⟩
  obtain⟨u,r,l⟩:=hl i x v e1 e2 e3;refine⟨u,r,?_⟩;rcases l with l | ⟨k,c,e,z⟩
  ·exact .inl l
  ·exact .inr ⟨k,c,e,cellK x c e _ z⟩
 ·obtain⟨v,z⟩:=I.cell x c e
  exact⟨v,cellK x c e v z⟩
 ·obtain⟨m,⟨o,_,_,ho,_⟩,_⟩:=I.loc
  exact free _ o (λz=>(hch _ z).2.1 rfl) ho I.free
 ·obtain⟨v,o,ho,hd⟩:=I.cell x c e
  exact free c o (λz=>(hch c z).2.2.1 x c e rfl) ho (I.freeC x c e)
 ·obtain⟨e,n,ne,nf,d⟩:=I.pin p hp
  have nch:p.1∉ch:=λz=>(hch p.1 z).2.2.2 p hp rfl
  exact⟨keep p.1 p.2 ne nf nch e n,free p.1 p.2 nch e n,ne,nf,d⟩
theorem Inv.un {t':Nat}(I:Inv X pins σ H s) (u:Un X.fs [] H H' s.heap h') (hok:HOk X.prog X.w H' h'):Inv X pins σ H' { s with heap:=h',toks:=t' }:=by
 obtain⟨m,⟨o,es,ep,ho,r⟩,_⟩:=id I.loc;obtain⟨sl,hL⟩:=u.any ho I.free (by simp)
 exact I.step (g':=s.gens) (d':=s.drawn) (ch:=[]) (λ_ z=>nomatch z) (λb o _ hb _ e n=>u.keep b o e n hb (by simp)) (λb o _ hb _ e n=>u.slot b o e n hb (by simp)) (λb o _ e n=>u.free b o e n (by simp)) (λb o _ e=>u.there b o e (by simp)) u.tups u.frzs u.tbls (λm' hm=>by
  obtain⟨o',es',ep',ho',r'⟩:=hm;rw[ho] at ho';cases ho';exact⟨_,es',ep',hL,r'⟩) hok I.bare
theorem Inv.call {g':Array GenState}{t':Nat}{d':Drawn}{ch:List Addr}(I:Inv X pins σ H s) (u:Un (frs X.stack) ch H H' s.heap h') (hok:HOk X.prog X.w H' h') (hg:AllBare g')
  (hch:∀b∈ch,(b∈X.ex\/X.s₀.heap.objs.size<=b)/\b≠X.env.locals/\(∀x c,X.env.cells.lookup x=some c->c≠b)/\∀p∈X.pn++pins,p.1≠b) :
  Inv X pins σ H' { s with heap:=h',gens:=g',drawn:=d',toks:=t' }:=by
 obtain⟨m,⟨o,es,ep,ho,r⟩,_⟩:=id I.loc;obtain⟨sl,hL⟩:=u.any ho I.free λz=>(hch _ z).2.1 rfl
 exact I.step (ch:=ch) hch (λb o hL hb hc e n=>u.keep b o e n (λz=>(List.mem_cons.mp (I.stkSub b z)).elim hL hb) hc) (λb o _ _ hc e n=>u.any e n hc) (λb o hc e n=>u.free b o e n hc) (λb o hc e=>u.there b o e hc) u.tups u.frzs u.tbls (λm' hm=>by
  obtain⟨o',es',ep',ho',r'⟩:=hm;rw[ho] at ho';cases ho';exact⟨_,es',ep',hL,r'⟩) hok hg
theorem Inv.turned {t':Nat}{it:Addr}(I:Inv X pins σ H s) (k:∀b o,b≠it->s.heap.get? b=some o->h'.get? b=some o) (hn:H it=none) (hL:it≠X.env.locals)
  (h1:it∈X.ex\/X.s₀.heap.objs.size<=it) (h2:∀x c,X.env.cells.lookup x=some c->c≠it) (h3:∀p∈X.pn++pins,p.1≠it):Inv X pins σ H { s with heap:=h',toks:=t' }:=by
 have nit:∀b u,H b=some u->b≠it:=λb u e z=>by rw[z,hn] at e;cases e
 refine I.step (g':=s.gens) (d':=s.drawn) (ch:=[it]) (λb hb=>?_) (λb o _ _ hc e _=>k b o (λz=>hc (by simp[z])) e) (λb o _ _ hc e _=>⟨o.slots,k b o (λz=>hc (by simp[z])) e⟩) (λ_ _ _ _ n=>n)
  (λb o hc e=>⟨o,k b o (λz=>hc (by simp[z])) e⟩) (λ_ _ e=>e) (λ_ _ _ e=>e) (λb ps e=>⟨#[],by rw[e];simp⟩) (λm hm=>?_) (λb u e=>?_) I.bare
 ·have e:b=it:=by simpa using hb
  subst e;exact⟨h1,hL,h2,h3⟩
 ·obtain⟨o,es,ep,ho,r⟩:=hm
  exact⟨o,es,ep,k _ o (Ne.symm hL) ho,r⟩
 ·refine (I.hok b u e).stay (λc v hc q=>k c v ?_ q) (λ_ q=>q) λ_ _ q=>q
  rcases hc with z | z
  ·rw[z];exact nit b u e
  ·exact nit c _ z
theorem Inv.tok (I:Inv X pins σ H s) (t:Nat):Inv X pins σ H { s with toks:=t }:=I.un (h':=s.heap) (t':=t) Un.refl I.hok
theorem Inv.kept {t':Nat}(I:Inv X pins σ H s) (k:∀b u,s.heap.get? b=some u->h'.get? b=some u):Inv X pins σ H { s with heap:=h',toks:=t' }:=I.un (Un.kept k) (I.hok.kept k)
theorem Inv.laid {a:Addr}{o:HO}{t':Nat}(I:Inv X pins σ H s) (k:∀b u,s.heap.get? b=some u->h'.get? b=some u) (hp:s.heap.objs.size<=a) (new:Yi X.prog X.w (upd H a o) h' a o) :
  Inv X pins σ (upd H a o) { s with heap:=h',toks:=t' }:=I.un (Un.laid k hp (I.hok.fresh hp)) (I.hok.laid k hp new)
theorem Inv.write {x e:Addr}{o:HO}{t':Nat}(I:Inv X pins σ H s) (mu:Mut (H x)) (he:e=x\/H e=some (.own x)) (k:∀b u,b≠e->s.heap.get? b=some u->h'.get? b=some u) (heo:∃u,h'.get? e=some u)
  (new:Yi X.prog X.w (upd H x o) h' x o):Inv X pins σ (upd H x o) { s with heap:=h',toks:=t' }:=I.un (Un.write mu he k heo) (I.hok.write mu he k heo new)
theorem Inv.pins_of {pins':List (Addr×Obj)}(I:Inv X pins σ H s) (h:∀p∈pins',s.heap.get? p.1=some p.2/\H p.1=none/\p.1≠X.env.locals/\p.1∉X.fs/\∀v,p.2.data≠.cell v):Inv X pins' σ H s:=
 ⟨I.ok,I.os,I.bare,I.base,I.loc,I.cell,I.free,I.freeC,λp hp=>(List.mem_append.mp hp).elim (λz=>I.pin p (List.mem_append_left _ z)) (h p),I.hok,I.len⟩
theorem Gw {N:List Str}(hN:N.Nodup) {i j:Nat}{x:Str}(a:N[i]? = some x) (b:N[j]? = some x):i=j:=by
 obtain⟨h1,e1⟩:=List.getElem?_eq_some_iff.mp a;obtain⟨h2,e2⟩:=List.getElem?_eq_some_iff.mp b;exact (List.getElem_inj hN).mp (e1.trans e2.symm)
theorem VV {M:Model}{A:Around}{E:Value->Shared->Prop}{i:Nat}{x:Str}{v:V}{u:Value}{Q:Unit->Shared->Prop}(I:Inv X pins σ H s) (hN:X.N.Nodup) (hi:X.N[i]? = some x) (hx:Loc X.env.scope x) (r:Z2 v u)
  (h:∀s',Inv X pins (σ.set i (some v)) H s'->(∃a,Heap.SameBut a s.heap s'.heap/\(a=X.env.locals\/X.env.cells.lookup x=some a))->Q () s') (hf:X.fn x=true\/X.env.scope.names.lookup x=some .local:=by first | exact .inl rfl | exact .inr rfl | assumption):wpAny M A (storeName X.env x u) Q E s:=by
 obtain⟨m,hn,hl⟩:=id I.loc;have hcls:(X.env.scope.kind == .class||(X.env.scope.kind == .module&&X.env.locals != X.env.globals))=false:=by rw[I.ok.kind];rfl
 have hiσ:i<σ.length:=by rw[I.len];exact (List.getElem?_eq_some_iff.mp hi).1
 have cne:=I.cne;have tracked:∀{a:Addr} {h':Heap},(∃o,s.heap.get? a=some o/\H a=none)->Heap.SameBut a s.heap h'->HOk X.prog X.w H h':=λ{a h'} ha hs b ob e=>by
  obtain⟨_,_,hfree⟩:=ha;refine (I.hok b ob e).stay (λc w' hc q=>(hs.2 c ?_).trans q) (λ_ q=>q) λ_ _ q=>q
  rintro rfl
  rcases hc with rfl | hc
  ·rw[hfree] at e;cases e
  ·rw[hfree] at hc;cases hc
 rcases hx with hk | hk
 ·refine wpAny_storeName_local hk hn (λh' hn' hs=>?_) hcls
  obtain⟨oL,_,_,hoL,_⟩:=id hn;refine h _ ⟨I.ok,I.os,I.bare,⟨λb o e n hb hx=>?_,λb o e n hb hx=>?_,I.base.free,λb o e hx=>?_,I.base.tups,I.base.frzs,I.base.tbls⟩,⟨_,hn',λj y v' e1 e2 e3=>?_⟩,λy c e=>?_,I.free,I.freeC,λp hp=>?_,tracked ⟨oL,hoL,I.free⟩ hs,by simpa using I.len⟩ ⟨_,hs,.inl rfl⟩
  ·exact (hs.2 b (Nat.ne_of_lt (Nat.lt_of_lt_of_le (Heap.lt_size e) I.ok.above))).trans (I.base.keep b o e n hb hx)
  ·obtain⟨sl,e1⟩:=I.base.slot b o e n hb hx
   exact⟨sl,(hs.2 b (Nat.ne_of_lt (Nat.lt_of_lt_of_le (Heap.lt_size e) I.ok.above))).trans e1⟩
  ·obtain⟨o',e1⟩:=I.base.there b o e hx
   exact⟨o',(hs.2 b (Nat.ne_of_lt (Nat.lt_of_lt_of_le (Heap.lt_size e) I.ok.above))).trans e1⟩
  ·by_cases hj:j=i
   ·subst hj
    rw[hi] at e1;cases e1;rw[List.getElem?_set_self hiσ] at e2;cases e2;exact⟨u,r,.inl ⟨hk,by simp⟩⟩
   ·rw[List.getElem?_set_ne (Ne.symm hj)] at e2
    obtain⟨u',r',q⟩:=hl j y v' e1 e2 e3;refine⟨u',r',?_⟩;rcases q with ⟨k,e⟩ | ⟨k,c,e,z⟩
    ·refine .inl ⟨k,?_⟩
     have:y≠x:=λe=>hj (Gw hN e1 (e▸hi))
     simp[this,e]
    ·exact .inr ⟨k,c,e,z.sameBut hs (cne y c e)⟩
  ·obtain⟨w',z⟩:=I.cell y c e
   exact⟨w',z.sameBut hs (cne y c e)⟩
  ·obtain⟨e,n,ne,nf,d⟩:=I.pin p hp
   exact⟨(hs.2 p.1 ne).trans e,n,ne,nf,d⟩
 ·have hfn:X.fn x=true:=by
   rcases hf with z | z
   ·exact z
   ·rw[z] at hk;cases hk
  obtain⟨c,hc⟩:=I.ok.has x (.inl hk);obtain⟨w',z⟩:=I.cell x c hc;refine wpAny_storeName_cell I.ok.kind hk hc z (λh' hc' hs=>?_)
  obtain⟨oc,hoc,hocd⟩:=id z;refine h { s with heap:=h' } ⟨I.ok,I.os,I.bare,⟨λb o e n hb hx=>?_,λb o e n hb hx=>?_,I.base.free,λb o e hx=>?_,I.base.tups,I.base.frzs,I.base.tbls⟩,⟨m,hn.sameBut hs (Ne.symm (cne x c hc)),λj y v' e1 e2 e3=>?_⟩,λy c' e=>?_,I.free,I.freeC,λp hp=>?_,tracked ⟨oc,hoc,I.freeC x c hc⟩ hs,by simpa using I.len⟩ ⟨c,hs,.inr hc⟩
  ·exact (hs.2 b (Nat.ne_of_lt (Nat.lt_of_lt_of_le (Heap.lt_size e) (I.ok.cab x c hfn hc)))).trans (I.base.keep b o e n hb hx)
  ·obtain⟨sl,e1⟩:=I.base.slot b o e n hb hx
   exact⟨sl,(hs.2 b (Nat.ne_of_lt (Nat.lt_of_lt_of_le (Heap.lt_size e) (I.ok.cab x c hfn hc)))).trans e1⟩
  ·obtain⟨o',e1⟩:=I.base.there b o e hx
   exact⟨o',(hs.2 b (Nat.ne_of_lt (Nat.lt_of_lt_of_le (Heap.lt_size e) (I.ok.cab x c hfn hc)))).trans e1⟩
  ·by_cases hj:j=i
   ·subst hj
    rw[hi] at e1;cases e1;rw[List.getElem?_set_self hiσ] at e2;cases e2;exact⟨u,r,.inr ⟨.inl hk,c,hc,hc'⟩⟩
   ·rw[List.getElem?_set_ne (Ne.symm hj)] at e2
    obtain⟨u',r',q⟩:=hl j y v' e1 e2 e3;refine⟨u',r',?_⟩;rcases q with q | ⟨k,c',e,z'⟩
    ·exact .inl q
    ·refine .inr ⟨k,c',e,z'.sameBut hs ?_⟩
     rintro rfl
     exact hj (Gw hN e1 (I.ok.inj _ _ _ e hc▸hi))
  ·by_cases hcc:c'=c
   ·subst hcc;exact⟨_,hc'⟩
   ·obtain⟨w2,z2⟩:=I.cell y c' e
    exact⟨w2,z2.sameBut hs hcc⟩
  ·obtain⟨e,n,ne,nf,d⟩:=I.pin p hp
   refine⟨(hs.2 p.1 ?_).trans e,n,ne,nf,d⟩;intro q;rw[q,hoc] at e;have q':oc=p.2:=Option.some.inj e;exact d w' (by rw[<-q'];exact hocd)
theorem Vz {M:Model}{A:Around}{E:Value->Shared->Prop}{i:Nat}{x:Str}{v:V}{u:Value}{Q:Unit->Shared->Prop}(I:Inv X pins σ H s) (hN:X.N.Nodup) (hi:X.N[i]? = some x) (hx:Loc X.env.scope x) (r:Z2 v u)
  (h:∀s',Inv X pins (σ.set i (some v)) H s'->Q () s') (hf:X.fn x=true\/X.env.scope.names.lookup x=some .local:=by first | exact .inl rfl | exact .inr rfl | assumption):wpAny M A (storeName X.env x u) Q E s:=
 VV I hN hi hx r (λs' I' _=>h s' I') hf
theorem Inv.call' {s':Shared}{ch:List Addr}(I:Inv X pins σ H s) (ho:s'.os=s.os) (u:Un (frs X.stack) ch H H' s.heap s'.heap) (hok:HOk X.prog X.w H' s'.heap) (hg:AllBare s'.gens)
  (hch:∀b∈ch,(b∈X.ex\/X.s₀.heap.objs.size<=b)/\b≠X.env.locals/\(∀x c,X.env.cells.lookup x=some c->c≠b)/\∀p∈X.pn++pins,p.1≠b):Inv X pins σ H' s':=by
 obtain⟨h',g',d',t',o'⟩:=s';have e:o'=s.os:=ho;subst e;exact I.call (g':=g') (t':=t') (d':=d') u hok hg hch
end
noncomputable abbrev XK:=Value->Option Addr->Hp->Prop
noncomputable abbrev St:=List (Option V)
noncomputable abbrev VK:=V->Hp->Prop
noncomputable abbrev TE:=St->Hp->VK->Prop
noncomputable abbrev TT:=St->Hp->(Bool->Hp->Prop)->Prop
noncomputable abbrev TA:=St->Hp->(List V->Hp->Prop)->Prop
structure Ends where
 nx:St->Hp->Prop
 rt:VK
 bk:St->Hp->Prop:=λ_ _=>False
 ct:St->Hp->Prop:=λ_ _=>False
noncomputable abbrev TS:=Ends->St->Hp->Prop
noncomputable def EP (X:Cx) (pins:List (Addr×Obj)) (σ:St) (Q:VK) (u:Value) (s':Shared):Prop:=∃v H',Inv X pins σ H' s'/\Z2 v u/\Q v H'
noncomputable def TP (X:Cx) (pins:List (Addr×Obj)) (σ:St) (Q:Bool->Hp->Prop) (b:Bool) (s':Shared):Prop:=∃H',Inv X pins σ H' s'/\Q b H'
noncomputable def AP (X:Cx) (pins:List (Addr×Obj)) (σ:St) (Q:List V->Hp->Prop) (us:List Value) (s':Shared):Prop:=∃vs H',Inv X pins σ H' s'/\Vals vs us/\Q vs H'
noncomputable def SP (X:Cx) (pins:List (Addr×Obj)) (D:Ends) (f:Flow) (s':Shared):Prop:=
 match f with
 |.next=>∃σ' H',Inv X pins σ' H' s'/\D.nx σ' H'
 |.brk=>∃σ' H',Inv X pins σ' H' s'/\D.bk σ' H'
 |.cont=>∃σ' H',Inv X pins σ' H' s'/\D.ct σ' H'
 |.ret u=>∃v σ' H',Inv X pins σ' H' s'/\Z2 v u/\D.rt v H'
noncomputable def PE (X:Cx) (e:Expr) (t:TE):Prop:=
 ∀(pins:List (Addr×Obj)) (s:Shared) (σ:St) (H:Hp) (Q:VK),Inv X pins σ H s->t σ H Q->wpAny (model X.prog X.w) X.A (eval e X.env) (EP X pins σ Q) X.xe s
noncomputable def PT (X:Cx) (e:Expr) (t:TT):Prop:=
 ∀(pins:List (Addr×Obj)) (s:Shared) (σ:St) (H:Hp) (Q:Bool->Hp->Prop),Inv X pins σ H s->t σ H Q->wpAny (model X.prog X.w) X.A (isTrue e X.env (eval e X.env)) (TP X pins σ Q) X.xe s
noncomputable def PW (X:Cx) (e:Expr) (t:TT):Prop:=
 ∀(whole:Sem Value) (pins:List (Addr×Obj)) (s:Shared) (σ:St) (H:Hp) (Q:Bool->Hp->Prop),Inv X pins σ H s->t σ H Q->wpAny (model X.prog X.w) X.A (isTrue e X.env whole) (TP X pins σ Q) X.xe s
theorem PW.pt {X:Cx}{e:Expr}{t:TT}(h:PW X e t):PT X e t:=h _
noncomputable def PA (X:Cx) (es:List Expr) (t:TA):Prop:=
 ∀(pos:Pos) (pins:List (Addr×Obj)) (s:Shared) (σ:St) (H:Hp) (Q:List V->Hp->Prop),Inv X pins σ H s->t σ H Q->wpAny (model X.prog X.w) X.A (spliced (backTo pos (starEach es X.env))) (AP X pins σ Q) X.xe s
noncomputable def PS (X:Cx) (st:Stmt) (t:TS):Prop:=
 ∀(pins:List (Addr×Obj)) (s:Shared) (σ:St) (H:Hp) (D:Ends),Inv X pins σ H s->t D σ H->wpAny (model X.prog X.w) X.A (exec st X.env) (SP X pins D) X.xe s
noncomputable def PSs (X:Cx) (st:List Stmt) (t:TS):Prop:=
 ∀(pins:List (Addr×Obj)) (s:Shared) (σ:St) (H:Hp) (D:Ends),Inv X pins σ H s->t D σ H->wpAny (model X.prog X.w) X.A (execs st X.env) (SP X pins D) X.xe s
theorem thn {α:Type}{t:Sem α}{Q Q':α->Shared->Prop}{M:Model}{A:Around}{E:Value->Shared->Prop}{s:Shared}(h:wpAny M A t Q E s) (hQ:∀a s,Q a s->Q' a s):wpAny M A t Q' E s:=wpAny_mono h hQ λ_ _ x=>x
end L2
namespace L2
open PySem PySem.Spec PyProof.Rows
section
variable {X:Cx}
noncomputable def ZaF (i:Nat):TE:=λσ H Q=>∃v,σ[i]? = some (some v)/\Q v H
noncomputable def tC (v:V):TE:=λ_ H Q=>Q v H
theorem qr {i:Nat}{x:Str}{pos:Pos}(hN:X.N[i]? = some x) (hv:Vis X.env.scope x) (hd:(x == ("__debug__" : Str))=false:=by decide) (hcd:(x == ("__classdict__" : Str))=false:=by decide):PE X (.Name x pos) (ZaF i):=by
 intro pins s σ H Q I h;obtain⟨v,e,h⟩:=h;obtain⟨m,hn,hl⟩:=I.loc;obtain⟨u,r,l⟩:=hl i x v hN e hv;have fin:EP X pins σ Q u s:=⟨v,H,I,r,h⟩;rcases l with ⟨hk,hm⟩ | ⟨hk,c,hc,hcell⟩
 ·exact wpAny_Name (wpAny_loadName_local I.ok.kind hk hn hm fin) hd
 ·rcases hk with hk | hk
  ·exact wpAny_Name (wpAny_loadName_cell I.ok.kind hk hc hcell fin) hd
  ·exact wpAny_Name (wpAny_loadName_free I.ok.kind hk hc hcell fin hcd) hd
theorem jh {i j pos}:PE X (.Constant (.int i) j pos) (tC (.int i)):=λ_ _ _ H _ I h=>wpAny_Constant_int ⟨.int i,H,I.tok _,⟨_,rfl⟩,h⟩
theorem qo {b j pos}:PE X (.Constant (.bool b) j pos) (tC (.bl b)):=λ_ _ _ H _ I h=>Constant_bool ⟨.bl b,H,I,rfl,h⟩
theorem qX {j pos}:PE X (.Constant .none j pos) (tC .non):=λ_ _ _ H _ I h=>Constant_none ⟨.non,H,I,rfl,h⟩
noncomputable def Gl (X:Cx) (x:Str):Prop:=X.env.kindOf x=some .globalImplicit
theorem uz {E:Value->Shared->Prop}{pins:List (Addr×Obj)}{s:Shared}{σ:St}{H:Hp}{x:Str}{u:Value}{pos:Pos}{Q:Value->Shared->Prop}(I:Inv X pins σ H s) (hg:Gl X x) (hm:X.mg x=some u) (h:Q u s)
  (hd:(x == ("__debug__" : Str))=false:=by decide):wpAny (model X.prog X.w) X.A (eval (.Name x pos) X.env) Q E s:=
 Calls.Name_function_global I.ok.kind hg (Calls.loadGlobal_global (by rw[I.ok.glob];exact I.mod.glob.keeps I.bk) hm h) hd
theorem W8 {E:Value->Shared->Prop}{pins:List (Addr×Obj)}{s:Shared}{σ:St}{H:Hp}{x:Str}{u:Value}{pos:Pos}{Q:Value->Shared->Prop}(I:Inv X pins σ H s) (hg:Gl X x) (hm:X.mg x=none) (hv:bootBuiltins x=some u) (h:Q u s)
  (hn:x≠"__name__":=by decide) (hd:(x == ("__debug__" : Str))=false:=by decide):wpAny (model X.prog X.w) X.A (eval (.Name x pos) X.env) Q E s:=by
 obtain⟨mb,h1,h2⟩:=I.mod.blt;exact Calls.Name_function_global I.ok.kind hg (Calls.loadGlobal_builtin (by rw[I.ok.glob];exact I.mod.glob.keeps I.bk) hm (by rw[I.ok.blt];exact h1.keeps I.bk) ((h2 x hn).trans hv) h) hd
theorem JA {x:Str}{v:V}{u:Value}{pos:Pos}(hg:Gl X x) (hm:X.mg x=none) (hv:bootBuiltins x=some u) (r:Z2 v u) (hn:x≠"__name__":=by decide) (hd:(x == ("__debug__" : Str))=false:=by decide):PE X (.Name x pos) (tC v):=
 λ_ _ _ H _ I h=>W8 I hg hm hv ⟨v,H,I,r,h⟩ hn hd
variable {a b:Expr}{ta tb:TE}{pos:Pos}
variable {tA tB':TT}{rest:List Expr}
noncomputable def tOr (t u:TT):TT:=λσ H Q=>t σ H λc H1=>if c=true then Q true H1 else u σ H1 Q
noncomputable def Za5 (t:TT):TT:=λσ H Q=>t σ H λc H1=>Q (!c) H1
theorem qY (ha:PT X a tA):PW X (.BoolOp .Or [a] pos) tA:=by
 intro wh pins s σ H Q I h;refine isTrue_or (thn (ha pins s σ H Q I h) λc s1 e=>?_)
 cases c with
 |false=>exact isTrue_or_nil e
 |true=>exact e
theorem j3 (ha:PT X a tA) (hb:PW X (.BoolOp .Or (b::rest) pos) tB'):PW X (.BoolOp .Or (a::b::rest) pos) (tOr tA tB'):=by
 intro wh pins s σ H Q I h;refine isTrue_or (thn (ha pins s σ H _ I h) λc s1 ⟨H1,I1,q1⟩=>?_)
 cases c with
 |true=>exact⟨H1,I1,q1⟩
 |false=>exact hb wh pins s1 σ H1 Q I1 q1
theorem jI (ha:PT X a tA):PT X (.UnaryOp .Not a pos) (Za5 tA):=by
 intro pins s σ H Q I h;exact isTrue_not (ha pins s σ H (λc H1=>Q (!c) H1) I h)
noncomputable def jX (ta tb:TE):TE:=λσ H Q=>ta σ H λx H1=>∃c,x=.bl c/\if c=true then tb σ H1 Q else Q (.bl false) H1
theorem qJ {op}{t:TE}(h:PE X a t):PE X (.BoolOp op [a] pos) t:=λpins s σ H Q I hw=>BoolOp_one (h pins s σ H Q I hw)
theorem qM (ha:PE X a ta) (hb:PE X (.BoolOp .And (b::rest) pos) tb):PE X (.BoolOp .And (a::b::rest) pos) (jX ta tb):=by
 intro pins s σ H Q I h;refine BoolOp_and (thn (ha pins s σ H _ I h) λv s1 ⟨x,H1,I1,r1,q1⟩=>?_)
 obtain⟨c,rfl,q1⟩:=q1;cases r1;refine wpAny_truthy_bool ?_;cases c with
 |true=>exact hb pins s1 σ H1 Q I1 q1
 |false=>exact⟨.bl false,H1,I1,rfl,q1⟩
end
end L2
namespace L2
open PySem PySem.Spec PyProof.Rows
noncomputable def SqL (K:PySem.W.Frag) (H:Hp) (a:Addr) (xs:List V):Prop:=
 Rd H a (.lst xs)\/
  ∃(o:Obj) (its:Array Value) (n:Nat),K.lookup a=some o/\o.cls=.type "list"/\o.dict=none/\o.data=.seq its n/\its.size<=sizeLine/\Vals xs its.toList
noncomputable def SqT (K:PySem.W.Frag) (H:Hp) (a:Addr) (xs:List V):Prop:=
 Rd H a (.tup xs)\/
  ∃(o:Obj) (its:Array Value) (n:Nat),K.lookup a=some o/\o.cls=.type "tuple"/\o.data=.seq its n/\its.size<=sizeLine/\Vals xs its.toList
noncomputable def ZaK:Value->Option V
 |.none=>some .non
 |.bool b=>some (.bl b)
 |.int i _=>some (.int i)
 |.str x _=>some (.str x)
 |.bytes b _=>some (.byt b)
 |.float b _=>some (.flt b)
 |.ref a=>some (.ref a)
 |.type n=>some (.ty n)
 |_=>none
theorem Z2.abs {x:V}{u:Value}(r:Z2 x u):ZaK u=some x:=by
 cases x with
 |non=>cases r;rfl
 |bl _=>cases r;rfl
 |int _=>obtain⟨t,rfl⟩:=r;rfl
 |str _=>obtain⟨t,rfl⟩:=r;rfl
 |byt _=>obtain⟨t,rfl⟩:=r;rfl
 |flt _=>obtain⟨t,rfl⟩:=r;rfl
 |ref _=>cases r;rfl
 |ty _=>cases r;rfl
theorem Z2.inj {x y:V}{u:Value}(r:Z2 x u) (q:Z2 y u):x=y:=Option.some.inj (r.abs.symm.trans q.abs)
theorem Vals.inj:∀{xs ys:List V}{us:List Value},Vals xs us->Vals ys us->xs=ys
 |_,_,_,.nil,.nil=>rfl
 |_,_,_,.cons r t,.cons r' t'=>by rw[r.inj r',Vals.inj t t']
section
variable {X:Cx}{pins:List (Addr×Obj)}{σ:St}{H:Hp}{s:Shared}{a:Addr}{xs ys:List V}
theorem SqL.of {K:PySem.W.Frag}(h:H a=some (.lst xs)):SqL K H a xs:=.inl (.inl h)
theorem SqT.of {K:PySem.W.Frag}(h:H a=some (.tup xs)):SqT K H a xs:=.inl (.inl h)
theorem Inv.list (I:Inv X pins σ H s) (h:SqL X.K H a xs):∃its:List Value,Vals xs its/\PlainL s.heap a its.toArray/\xs.length<=sizeLine:=by
 rcases h with h | ⟨o,its,n,hk,hc,hd,hs,hz,r⟩
 ·obtain⟨z,its,n,r,e⟩:=h.ok I.hok
  exact⟨its,r,⟨_,n,e,rfl,rfl,rfl⟩,z⟩
 ·refine⟨its.toList,r,⟨o,n,I.kIn a o hk,hc,hd,by simpa using hs⟩,?_⟩
  have e:=r.length;simp only[Array.length_toList] at e;omega
theorem Inv.tuple (I:Inv X pins σ H s) (h:SqT X.K H a xs):∃its:List Value,Vals xs its/\IsTup s.heap a its.toArray/\xs.length<=sizeLine:=by
 rcases h with h | ⟨o,its,n,hk,hc,hs,hz,r⟩
 ·obtain⟨z,its,r,p⟩:=h.ok I.hok
  exact⟨its,r,p,z⟩
 ·refine⟨its.toList,r,⟨o,I.kIn a o hk,hc,n,by simpa using hs⟩,?_⟩
  have e:=r.length;simp only[Array.length_toList] at e;omega
theorem Inv.list_inj (I:Inv X pins σ H s) (h:SqL X.K H a xs) (h':SqL X.K H a ys):xs=ys:=by
 obtain⟨its,r,⟨o,n,e,_,_,d⟩,_⟩:=I.list h;obtain⟨its',r',⟨o',n',e',_,_,d'⟩,_⟩:=I.list h';rw[e] at e';cases e';rw[d] at d';injection d' with d1 _
 have:its=its':=by simpa using congrArg Array.toList d1
 subst this;exact r.inj r'
theorem Inv.tuple_inj (I:Inv X pins σ H s) (h:SqT X.K H a xs) (h':SqT X.K H a ys):xs=ys:=by
 obtain⟨its,r,⟨o,e,_,n,d⟩,_⟩:=I.tuple h;obtain⟨its',r',⟨o',e',_,n',d'⟩,_⟩:=I.tuple h';rw[e] at e';cases e';rw[d] at d';injection d' with d1 _
 have:its=its':=by simpa using congrArg Array.toList d1
 subst this;exact r.inj r'
end
noncomputable abbrev Cx.wish (X:Cx) (E:Value->Shared->Prop):Cx:={ X with xe:=E }
noncomputable abbrev Cx.nox (X:Cx):Cx:=X.wish λ_ _=>False
theorem Cx.Ok.wish {X:Cx}(ok:X.Ok) (E:Value->Shared->Prop):(X.wish E).Ok:=
 ⟨ok.mod,ok.kind,ok.glob,ok.blt,ok.above,ok.inj,ok.has,ok.cab,ok.hd,ok.frames,ok.stk,ok.exf,ok.bs,ok.bsz,ok.noex,ok.exfs,ok.funs,ok.frf⟩
theorem Cx.Ok.unwish {X:Cx}{E:Value->Shared->Prop}(ok:(X.wish E).Ok):X.Ok:=
 ⟨ok.mod,ok.kind,ok.glob,ok.blt,ok.above,ok.inj,ok.has,ok.cab,ok.hd,ok.frames,ok.stk,ok.exf,ok.bs,ok.bsz,ok.noex,ok.exfs,ok.funs,ok.frf⟩
section
variable {X:Cx}{pins:List (Addr×Obj)}{σ:St}{H:Hp}{s:Shared}{E:Value->Shared->Prop}
theorem Inv.wish (I:Inv X pins σ H s) (E:Value->Shared->Prop):Inv (X.wish E) pins σ H s:=⟨I.ok.wish E,I.os,I.bare,I.base,I.loc,I.cell,I.free,I.freeC,I.pin,I.hok,I.len⟩
theorem Inv.unwish (I:Inv (X.wish E) pins σ H s):Inv X pins σ H s:=⟨I.ok.unwish,I.os,I.bare,I.base,I.loc,I.cell,I.free,I.freeC,I.pin,I.hok,I.len⟩
theorem SP.unwish {D:Ends}{f:Flow}{s':Shared}(h:SP (X.wish E) pins D f s'):SP X pins D f s':=by
 cases f with
 |next=>obtain⟨σ',H',I,q⟩:=h;exact⟨σ',H',I.unwish,q⟩
 |brk=>obtain⟨σ',H',I,q⟩:=h;exact⟨σ',H',I.unwish,q⟩
 |cont=>obtain⟨σ',H',I,q⟩:=h;exact⟨σ',H',I.unwish,q⟩
 |ret u=>obtain⟨v,σ',H',I,r,q⟩:=h;exact⟨v,σ',H',I.unwish,r,q⟩
theorem PSs.nox {st:List Stmt}{t:TS}(h:PSs X.nox st t):PSs X st t:=λpins s σ H D I hw=>
 wpAny_mono (h pins s σ H D (I.wish _) hw) (λ_ _ q=>q.unwish) λ_ _ z=>False.elim z
end
section
variable {X:Cx}{st:Stmt}{rest:List Stmt}{t u:TS}{e:Expr}{te:TE}{pos:Pos}
noncomputable def Zaf:TS:=λD σ H=>D.nx σ H
noncomputable def ZaT (t u:TS):TS:=λD σ H=>t { D with nx:=u D } σ H
theorem uQ:PSs X [] Zaf:=λ_ _ σ H _ I h=>wpAny_execs_nil ⟨σ,H,I,h⟩
theorem ww (h1:PS X st t) (h2:PSs X rest u):PSs X (st::rest) (ZaT t u):=by
 intro pins s σ H D I h;refine wpAny_execs_cons (thn (h1 pins s σ H { D with nx:=u D } I h) λf s1 q=>?_)
 cases f with
 |next=>
  obtain⟨σ',H',I',q⟩:=q;exact h2 pins s1 σ' H' D I' q
 |ret v=>exact q
 |brk=>exact q
 |cont=>exact q
theorem Inv.quiet {pins:List (Addr×Obj)}{σ:St}{H:Hp}{s:Shared}(I:Inv X pins σ H s):interactive X.env=false:=by simp[interactive,I.ok.kind]
noncomputable def Zal (te:TE):TS:=λD σ H=>te σ H λ_ H1=>D.nx σ H1
theorem uc (he:PE X e te) (hs:swapsWith e none pos.line X.env=pure false:=by rfl):PS X (.Expr e pos) (Zal te):=by
 intro pins s σ H D I h;exact wpAny_Expr_any (thn (he pins s σ H _ I h) λv s1 ⟨x,H1,I1,r1,q1⟩=>⟨σ,H1,I1,q1⟩) I.quiet hs
noncomputable def ZaY (te:TE):TS:=λD σ H=>te σ H D.rt
theorem jD (he:PE X e te):PS X (.Return (some e) pos) (ZaY te):=by
 intro pins s σ H D I h;exact wpAny_Return_some (thn (he pins s σ H _ I h) λv s1 ⟨x,H1,I1,r1,q1⟩=>⟨x,σ,H1,I1,r1,q1⟩)
noncomputable def Za8 (c:TT) (t u:TS):TS:=λD σ H=>c σ H λb H1=>if b=true then t D σ H1 else u D σ H1
theorem j7 {c:Expr}{a b:List Stmt}{tc:TT}(hc:PT X c tc) (ha:PSs X a t) (hb:PSs X b u):PS X (.If c a b pos) (Za8 tc t u):=by
 intro pins s σ H D I h;refine wpAny_If (thn (hc pins s σ H _ I h) λd s1 ⟨H1,I1,q1⟩=>?_)
 cases d with
 |true=>exact ha pins s1 σ H1 D I1 q1
 |false=>exact hb pins s1 σ H1 D I1 q1
end
noncomputable abbrev TG:=V->St->Hp->(St->Hp->Prop)->Prop
noncomputable abbrev TGs:=List V->St->Hp->(St->Hp->Prop)->Prop
noncomputable def PG (X:Cx) (target:Expr) (t:TG):Prop:=
 ∀(pins:List (Addr×Obj)) (s:Shared) (σ:St) (H:Hp) (v:V) (u:Value) (Q:St->Hp->Prop),Inv X pins σ H s->Z2 v u->t v σ H Q->
  wpAny (model X.prog X.w) X.A (assign target X.env u) (λ_ s'=>∃σ' H',Inv X pins σ' H' s'/\Q σ' H') X.xe s
noncomputable def PGs (X:Cx) (ts:List Expr) (t:TGs):Prop:=
 ∀(pins:List (Addr×Obj)) (s:Shared) (σ:St) (H:Hp) (vs:List V) (us:List Value) (Q:St->Hp->Prop),Inv X pins σ H s->Vals vs us->t vs σ H Q->
  wpAny (model X.prog X.w) X.A (assignInOrder ((assignEach ts X.env).map (·.2)) us) (λ_ s'=>∃σ' H',Inv X pins σ' H' s'/\Q σ' H') X.xe s
noncomputable abbrev TSet:=V->V->V->Hp->(Hp->Prop)->Prop
noncomputable def PSet (X:Cx) (t:TSet):Prop:=
 ∀(pins:List (Addr×Obj)) (s:Shared) (σ:St) (H:Hp) (o i v:V) (ov iv u:Value) (Q:Hp->Prop),Inv X pins σ H s->Z2 o ov->Z2 i iv->Z2 v u->t o i v H Q->
  wpAny (model X.prog X.w) X.A (setItem ov iv u) (λ_ s'=>∃H',Inv X pins σ H' s'/\Q H') X.xe s
noncomputable abbrev TIp:=V->V->Hp->VK->Prop
noncomputable def PIp (X:Cx) (op:Operator) (t:TIp):Prop:=
 ∀(pins:List (Addr×Obj)) (s:Shared) (σ:St) (H:Hp) (x y:V) (v u:Value) (Q:VK),Inv X pins σ H s->Z2 x v->Z2 y u->t x y H Q->
  wpAny (model X.prog X.w) X.A (inplaceOp op v u) (EP X pins σ Q) X.xe s
section
variable {X:Cx}{pos:Pos}
noncomputable def j8 (i:Nat):TG:=λv σ H Q=>Q (σ.set i (some v)) H
theorem zS {i:Nat}{x:Str}(hN:X.N.Nodup) (hi:X.N[i]? = some x) (hx:Loc X.env.scope x) (hf:X.fn x=true\/X.env.scope.names.lookup x=some .local:=by first | exact .inl rfl | exact .inr rfl | assumption):PG X (.Name x pos) (j8 i):=by
 intro pins s σ H v u Q I r h;exact wpAny_assign_Name (Vz I hN hi hx r (λs' I'=>⟨_,H,I',h⟩) hf)
noncomputable def ZaV:TGs:=λvs σ H Q=>vs=[]/\Q σ H
noncomputable def Zar (t:TG) (u:TGs):TGs:=λvs σ H Q=>∃v r,vs=v::r/\t v σ H λσ' H'=>u r σ' H' Q
theorem uG:PGs X [] ZaV:=by
 intro pins s σ H vs us Q I r h;obtain⟨e,h⟩:=h;subst e;cases r;exact assignInOrder_nil ⟨σ,H,I,h⟩
theorem wD {e:Expr}{es:List Expr}{t:TG}{u:TGs}(h1:PG X e t) (h2:PGs X es u)
  (hs:(assignEach (e::es) X.env).map (·.2)=assign e X.env::(assignEach es X.env).map (·.2):=by rfl):PGs X (e::es) (Zar t u):=by
 intro pins s σ H vs us Q I r h;obtain⟨v,vr,e1,h⟩:=h;subst e1;cases r with
 |cons r rr=>
  rw[hs];refine assignInOrder_cons (thn (h1 pins s σ H _ _ _ I r h) λ_ s1 ⟨σ1,H1,I1,q1⟩=>?_)
  exact h2 pins s1 σ1 H1 _ _ Q I1 rr q1
noncomputable def Za7 (K:PySem.W.Frag) (n:Nat) (t:TGs):TG:=λv σ H Q=>∃a xs,v=.ref a/\SqT K H a xs/\xs.length=n/\t xs σ H Q
theorem jC {es:List Expr}{k:Nat}{t:TGs}{n:Nat}(hc:X.calm=true) (h:PGs X es t)
  (hn:(assignEach es X.env).length=n:=by rfl) (hst:(assignEach es X.env).findIdx? (·.1)=none:=by rfl):PG X (.Tuple es k pos) (Za7 X.K n t):=by
 intro pins s σ H v u Q I r hw;obtain⟨a,xs,e1,hq,hl,hw⟩:=hw;subst e1;cases r;obtain⟨its,rv,ht,hz⟩:=I.tuple hq;refine assign_Tuple_tuple (I.ok.hd hc) ht (by simp[hn,<-hl,rv.length]) hst λh' hx=>?_
 have I1:Inv X pins σ H { s with heap:=h' }:=I.kept (t':=s.toks) λb o e=>hx b o (Nat.ne_of_lt (Heap.lt_size e)) e
 exact h pins _ σ H xs _ Q I1 (by simpa using rv) hw
noncomputable def ZaN (to ti:TE) (t:TSet):TG:=λv σ H Q=>to σ H λo H1=>ti σ H1 λi H2=>t o i v H2 λH3=>Q σ H3
theorem qv {o i:Expr}{to ti:TE}{t:TSet}(ho:PE X o to) (hi:PE X i ti) (hs:PSet X t)
  (ha:∀v,assign (.Subscript o i pos) X.env v=(do
   let ov <-holding [v] (eval o X.env)
   let iv <-holding [v,ov] (eval i X.env)
   standAt pos
   holding [v,ov,iv] (setItem ov iv v)
   release [v,ov,iv] []):=by intro _;rfl):PG X (.Subscript o i pos) (ZaN to ti t):=by
 intro pins s σ H v u Q I r h;rw[ha];refine wpAny_bind (wpAny_holding (thn (ho pins s σ H _ I h) λov s1 ⟨x,H1,I1,r1,q1⟩=>?_))
 refine wpAny_bind (wpAny_holding (thn (hi pins s1 σ H1 _ I1 q1) λiv s2 ⟨y,H2,I2,r2,q2⟩=>?_))
 refine wpAny_bind (wpAny_standAt (wpAny_bind (wpAny_holding (thn (hs pins s2 σ H2 x y v ov iv u _ I2 r1 r2 r q2) λ_ s3 ⟨H3,I3,q3⟩=>?_))))
 exact wpAny_release ⟨σ,H3,I3,q3⟩
noncomputable def ZaQ (te:TE) (g:TG):TS:=λD σ H=>te σ H λx H1=>g x σ H1 D.nx
theorem wB {tg e:Expr}{te:TE}{g:TG}(he:PE X e te) (hg:PG X tg g) (hs:swapsWithSole [tg] e pos.line X.env=pure false:=by rfl) (hw:swappedStores [tg] e X.env=pure none:=by rfl)
  (h1:(assignEach [tg] X.env).map (·.2)=[assign tg X.env]:=by rfl):PS X (.Assign [tg] e pos) (ZaQ te g):=by
 intro pins s σ H D I h;refine wpAny_Assign_stores (thn (he pins s σ H _ I h) λv s1 ⟨x,H1,I1,r1,q1⟩=>?_) hs hw
 rw[h1];exact thn (hg pins s1 σ H1 x v _ I1 r1 q1) λ_ s2 q=>q
noncomputable def Za3 (i j:Nat) (ta:TA):TS:=λD σ H=>ta σ H λvs H1=>∃v w,vs=[v,w]/\D.nx ((σ.set i (some v)).set j (some w)) H1
theorem jw {i j:Nat}{x y:Str}{a b:Expr}{ta:TA}{px py pt:Pos}{kt k2 pt2}(hc:X.calm=true) (hN:X.N.Nodup) (hi:X.N[i]? = some x) (hj:X.N[j]? = some y) (hij:i≠j)
  (hx:X.env.scope.names.lookup x=some .local) (hy:X.env.scope.names.lookup y=some .local) (ha:PA X [a,b] ta)
  (hw:swappedStores [.Tuple [.Name x px,.Name y py] kt pt] (.Tuple [a,b] k2 pt2) X.env=pure (some [x,y]))
  (hs:swapsWithSole [.Tuple [.Name x px,.Name y py] kt pt] (.Tuple [a,b] k2 pt2) pos.line X.env=pure false:=by rfl) :
  PS X (.Assign [.Tuple [.Name x px,.Name y py] kt pt] (.Tuple [a,b] k2 pt2) pos) (Za3 i j ta):=by
 intro pins s σ H D I h;rw[exec_Assign_arm];refine wpAny_bind (wpAny_standAt ?_);rw[hs];refine wpAny_bind (wpAny_pure ?_);rw[if_neg (by decide)]
 refine wpAny_bind (Tuple_ (thn (ha _ pins s σ H _ I h) λus s1 ⟨vs,H1,I1,r1,q1⟩=>?_))
 obtain⟨v,w,e1,q1⟩:=q1;subst e1;obtain⟨u1,u2,rfl,rv,rw'⟩:∃u1 u2,us=[u1,u2]/\Z2 v u1/\Z2 w u2:=by
  cases r1 with
  |cons p q=>
   cases q with
   |cons p' q'=>
    cases q';exact⟨_,_,rfl,p,p'⟩
 refine wpAny_newObj_type ?_ (by show 2<=sizeLine;decide)
 have I2:Inv X pins σ H1 { s1 with heap:=s1.heap.push { cls:=.type "tuple",data:=.seq [u1,u2].toArray } }:=I1.kept (t':=s1.toks) λb o e=>Heap.get?_push_of_some _ e
 rw[hw];refine wpAny_bind (wpAny_pure ?_);show wpAny (model X.prog X.w) X.A (do rule "assign.swapped-stores";let items <-unpackItems (.ref s1.heap.objs.size) 2 none;assignInOrder [λv=>bindName X.env y v,λv=>bindName X.env x v] items.reverse;pure Flow.next) _ _ _
 refine wpAny_bind (wpAny_rule (wpAny_bind (unpackItems_tuple (items:=#[u1,u2]) (I.ok.hd hc) (IsTup.new s1.heap _) λh' hx'=>?_)))
 have I3:=I2.kept (h':=h') (t':=s1.toks) λb o e=>hx' b o (Nat.ne_of_lt (Heap.lt_size e)) e
 show wpAny _ _ (assignInOrder [λv=>bindName X.env y v,λv=>bindName X.env x v] [u2,u1] >>= λ_=>pure Flow.next) _ _ _
 refine wpAny_bind (assignInOrder_cons (wpAny_bindName (Vz I3 hN hj (.inl hy) rw' (λs2 I4=>?_) (.inr hy))))
 refine assignInOrder_cons (wpAny_bindName (Vz I4 hN hi (.inl hx) rv (λs3 I5=>assignInOrder_nil (wpAny_pure ?_)) (.inr hx)))
 rw[List.set_comm _ _ (Ne.symm hij)] at I5;exact⟨_,H1,I5,q1⟩
noncomputable def Za1 (i:Nat) (te:TE) (ti:TIp):TS:=λD σ H=>∃x,σ[i]? = some (some x)/\te σ H λy H1=>ti x y H1 λz H2=>D.nx (σ.set i (some z)) H2
theorem jd {i:Nat}{x:Str}{e:Expr}{te:TE}{op:Operator}{ti:TIp}{pos':Pos}(hN:X.N.Nodup) (hi:X.N[i]? = some x) (hx:Loc X.env.scope x) (he:PE X e te) (ho:PIp X op ti) (hf:X.fn x=true\/X.env.scope.names.lookup x=some .local:=by first | exact .inl rfl | exact .inr rfl | assumption) :
  PS X (.AugAssign (.Name x pos') op e pos) (Za1 i te ti):=by
 intro pins s σ H D I h;obtain⟨v,e1,h⟩:=h;obtain⟨m,hn,hl⟩:=I.loc;have vis:Vis X.env.scope x:=by rcases hx with k | k;exact .inl k;exact .inr (.inl k)
 obtain⟨u,r,l⟩:=hl i x v hi e1 vis;refine wpAny_AugAssign_Name ?_;have go:wpAny (model X.prog X.w) X.A (eval e X.env) (λw s₂=>wpAny (model X.prog X.w) X.A (inplaceOp op u w) (λr s₃=>wpAny (model X.prog X.w) X.A (storeName X.env x r) (λ_=>SP X pins D .next) X.xe s₃) X.xe s₂) X.xe s:=by
  refine thn (he pins s σ H _ I h) λw s1 ⟨y,H1,I1,r1,q1⟩=>?_
  refine thn (ho pins s1 σ H1 v y u w _ I1 r r1 q1) λz s2 ⟨zv,H2,I2,r2,q2⟩=>?_
  exact Vz I2 hN hi hx r2 (λs3 I3=>⟨_,H2,I3,q2⟩) hf
 rcases l with ⟨hk,hm⟩ | ⟨hk,c,hc,hcell⟩
 ·exact wpAny_loadName_local I.ok.kind hk hn hm go
 ·rcases hk with hk | hk
  ·exact wpAny_loadName_cell I.ok.kind hk hc hcell go
  ·rcases hx with k | k
   ·have:X.env.scope.names.lookup x=some .free:=hk
    rw[k] at this;cases this
   ·have:X.env.scope.names.lookup x=some .free:=hk
    rw[k] at this;cases this
end
section
variable {X:Cx}{pos:Pos}
noncomputable def ji (c:TT) (tb:TS):TS:=λD σ H=>∃W:Nat->St->Hp->Prop,(∃m,W m σ H)/\∀m σ H,W m σ H->
 c σ H λb H1=>if b=true then ∃N:St->Hp->Prop,(∀σ' H',N σ' H'->∃m',m'<m/\W m' σ' H')/\tb { D with nx:=N,ct:=N,bk:=D.nx } σ H1 else D.nx σ H1
theorem xH {c:Expr}{body:List Stmt}{tc:TT}{tb:TS}(hp:PassesOwn (model X.prog X.w) X.A X.env X.xe) (hc:PT X c tc) (hb:PSs X body tb):PS X (.While c body [] pos) (ji tc tb):=by
 intro pins s σ H D I h;obtain⟨W,⟨m0,w0⟩,turn⟩:=h;refine wpAny_While (codeAny_whileLoop (λn s'=>∃σ' H',Inv X pins σ' H' s'/\W n σ' H') ?_ m0 ⟨σ,H,I,w0⟩)
 rintro n s1 ⟨σ1,H1,I1,w1⟩
 refine wpAny_passesOwn hp (thn (hc pins s1 σ1 H1 _ I1 (turn n σ1 H1 w1)) λb s2 ⟨H2,I2,q2⟩=>?_)
 cases b with
 |true=>
  obtain⟨N,hN,q2⟩:=q2;rw[if_pos rfl];refine wpAny_passesOwn hp (thn (hb pins s2 σ1 H2 _ I2 q2) λf s3 q3=>?_)
  cases f with
  |next=>
   obtain⟨σ3,H3,I3,n3⟩:=q3;obtain⟨m',hm,w3⟩:=hN σ3 H3 n3;exact⟨m',hm,σ3,H3,I3,w3⟩
  |cont=>
   obtain⟨σ3,H3,I3,n3⟩:=q3;obtain⟨m',hm,w3⟩:=hN σ3 H3 n3;exact⟨m',hm,σ3,H3,I3,w3⟩
  |brk=>exact q3
  |ret v=>exact q3
 |false=>
  rw[if_neg Bool.false_ne_true];exact wpAny_execs_nil ⟨σ1,H2,I2,q2⟩
end
structure It where
 go:Nat->Hp->Prop
 yld:Nat->Hp->V->Hp->Prop
 stop:Nat->Hp->Prop
noncomputable def Vs (X:Cx) (pins:List (Addr×Obj)) (H:Hp) (b:Addr):Prop:=
 H b=none/\b≠X.env.locals/\b∉X.fs/\(b∈X.ex\/X.s₀.heap.objs.size<=b)/\(∀x c,X.env.cells.lookup x=some c->c≠b)/\∀p∈X.pn++pins,p.1≠b
theorem Inv.fpOk {X:Cx}{pins:List (Addr×Obj)}{σ:St}{H H':Hp}{s:Shared}{b:Addr}(I:Inv X pins σ H s) (hb:s.heap.objs.size<=b) (hn:H' b=none):Vs X pins H' b:=by
 refine⟨hn,Nat.ne_of_gt (Nat.lt_of_lt_of_le I.lt hb),I.nofs hb,.inr (Nat.le_trans I.sz hb),λx c e z=>?_,λp hp z=>?_⟩
 ·obtain⟨v,q⟩:=I.cell x c e
  exact absurd (Nat.lt_of_lt_of_le q.lt (by rw[z];exact hb)) (Nat.lt_irrefl _)
 ·exact absurd (Nat.lt_of_lt_of_le (Heap.lt_size (I.pin p hp).1) (by rw[z];exact hb)) (Nat.lt_irrefl _)
structure Turn (P:Program) (w:World) (K:PySem.W.Frag) (tg:Expr) (J:It) (fp:List Addr) (it:Addr) (tn:Nat->Heap->Prop):Prop where
 mem:it∈fp
 obj:∀i h,tn i h->∀b∈fp,∃o,h.get? b=some o/\∀v,o.data≠.cell v
 keep:∀i h h',tn i h->(∀b∈fp,∀o,h.get? b=some o->h'.get? b=some o)->tn i h'
 item:∀(X:Cx),X.prog=P->X.w=w->X.K=K->X.calm=true->∀(i:Nat) (pins:List (Addr×Obj)) (s:Shared) (σ:St) (H:Hp) (E:Value->Shared->Prop),Inv X pins σ H s->(∀b∈fp,Vs X pins H b)->tn i s.heap->J.go i H->
  wpAny (model P w) X.A (pyNext (.ref it)) (λr s1=>∃u,r=some u/\
   wpAny (model P w) X.A (letOwnedTupleGo tg (.ref it) u) (λ_ s2=>∃x H',Inv X pins σ H' s2/\Z2 x u/\J.yld i H x H'/\tn (i+1) s2.heap/\∀b∈fp,H' b=none) E s1) E s
 done:∀(X:Cx),X.prog=P->X.w=w->X.K=K->X.calm=true->∀(i:Nat) (pins:List (Addr×Obj)) (s:Shared) (σ:St) (H:Hp) (E:Value->Shared->Prop),Inv X pins σ H s->(∀b∈fp,Vs X pins H b)->tn i s.heap->J.stop i H->
  wpAny (model P w) X.A (pyNext (.ref it)) (λr s1=>r=none/\Inv X pins σ H s1) E s
 self:∀(A:Around) (i:Nat) (s:Shared) (Q:Value->Shared->Prop) (E:Value->Shared->Prop),tn i s.heap->Q (.ref it) s->wpAny (model P w) A (pyIter (.ref it)) Q E s
noncomputable abbrev TI:=St->Hp->(It->Hp->Prop)->Prop
noncomputable def PIE (X:Cx) (pins:List (Addr×Obj)) (σ:St) (tg:Expr) (R:It->Hp->Prop) (itv:Value) (s2:Shared):Prop:=
 ∃(it:Addr) (fp:List Addr) (tn:Nat->Heap->Prop) (J:It) (H':Hp),itv=.ref it/\Inv X pins σ H' s2/\Turn X.prog X.w X.K tg J fp it tn/\tn 0 s2.heap/\(∀b∈fp,Vs X pins H' b)/\R J H'
noncomputable def PI (X:Cx) (tg iter:Expr) (wi:TI):Prop:=
 ∀(pins:List (Addr×Obj)) (s:Shared) (σ:St) (H:Hp) (R:It->Hp->Prop),Inv X pins σ H s->wi σ H R->
  wpAny (model X.prog X.w) X.A (eval iter X.env) (λv s1=>wpAny (model X.prog X.w) X.A (pyIter v) (PIE X pins σ tg R) X.xe s1) X.xe s
theorem wL {M:Model}{A:Around}{E:Value->Shared->Prop}{s:Shared}{tg:Expr}{it:Addr}{u:Value}{o:Obj}{n:String}{vs:Array Value}{Q:Unit->Shared->Prop}(ho:s.heap.get? it=some o) (hc:o.cls=.type n) (hd:o.data=.fields vs)
  (hn:["enumerate","zip","dict_itemiterator","dict_reverseitemiterator","odict_iterator","itertools.zip_longest","itertools.pairwise"].contains n=false) (hQ:Q () s):wpAny M A (letOwnedTupleGo tg (.ref it) u) Q E s:=by
 unfold letOwnedTupleGo;cases tg <;> first
  |exact wpAny_pure hQ
  |(cases u <;> first
    |exact wpAny_pure hQ
    |(refine wpAny_bind (wpAny_load ho ?_)
      rw[hc,hd];show wpAny M A (if (["enumerate","zip","dict_itemiterator","dict_reverseitemiterator","odict_iterator","itertools.zip_longest","itertools.pairwise"].contains n&&vs[0]? == some (rawInt _))=true then _ else _) Q E s
      rw[if_neg (by intro h;rw[hn,Bool.false_and] at h;cases h)]
      exact wpAny_pure hQ))
noncomputable def Itl (K:PySem.W.Frag) (a:Addr):It:=
 ⟨λi H=>∃xs x,SqL K H a xs/\xs[i]? = some x,λi H x H'=>H'=H/\∀xs,SqL K H a xs->xs[i]? = some x,λi H=>∃xs,SqL K H a xs/\xs.length<=i⟩
noncomputable def Itt (K:PySem.W.Frag) (a:Addr):It:=
 ⟨λi H=>∃xs x,SqT K H a xs/\xs[i]? = some x,λi H x H'=>H'=H/\∀xs,SqT K H a xs->xs[i]? = some x,λi H=>∃xs,SqT K H a xs/\xs.length<=i⟩
noncomputable def Itr (lo:Int) (n:Nat):It:=⟨λi _=>i<n,λi H x H'=>H'=H/\x=.int (lo+i),λi _=>n<=i⟩
theorem xn {P:Program}{w:World}{K:PySem.W.Frag}{tg:Expr}(a it:Addr):Turn P w K tg (Itl K a) [it] it (λi h=>h.IsListIter it a i) where
 mem:=by simp
 obj:=λi h st b hb=>by
  have e:b=it:=by simpa using hb
  subst e;obtain⟨o,e,c,d⟩:=st;exact⟨o,e,λv z=>by rw[d] at z;cases z⟩
 keep:=λi h h' st k=>st.at λo e=>k it (by simp) o e
 item:=by
  intro X hP hw hK hc i pins s σ H E I hf st hg;subst hP hw hK;obtain⟨xs,x,hq,hx⟩:=hg;obtain⟨its,rv,p,hz⟩:=I.list hq;obtain⟨u,hu,ru⟩:=rv.get hx;obtain⟨f0,f1,f2,f3,f4,f5⟩:=hf it (by simp)
  refine wpAny_pyNext_list_item st p.isList (x:=u) (by simpa using hu) λh' st' sb=>?_
  have I1:Inv X pins σ H { s with heap:=h' }:=I.turned (t':=s.toks) (λb o hb e=>(sb.2 b hb).trans e) f0 f1 f3 f4 f5
  obtain⟨o,e,c,d⟩:=id st';exact⟨u,rfl,wL (s:={ s with heap:=h' }) e c d (by decide) ⟨x,H,I1,ru,⟨rfl,λys hy=>by rw[I.list_inj hy hq];exact hx⟩,st',λb hb=>(hf b hb).1⟩⟩
 done:=by
  intro X hP hw hK hc i pins s σ H E I hf st hg;subst hP hw hK;obtain⟨xs,hq,hx⟩:=hg;obtain⟨its,rv,p,hz⟩:=I.list hq;obtain⟨f0,f1,f2,f3,f4,f5⟩:=hf it (by simp)
  have hl:=rv.length;exact wpAny_pyNext_list_end (I.ok.hd hc) st p.isList (by simp;omega) λh' eb=>⟨rfl,I.turned (t':=s.toks) (λb o hb e=>eb b o hb e) f0 f1 f3 f4 f5⟩
 self:=λ_ _ _ _ _ st h=>wpAny_pyIter_listiter st h
theorem zc {P:Program}{w:World}{K:PySem.W.Frag}{tg:Expr}(a it:Addr):Turn P w K tg (Itt K a) [it] it (λi h=>h.IsTupleIter it a i) where
 mem:=by simp
 obj:=λi h st b hb=>by
  have e:b=it:=by simpa using hb
  subst e;obtain⟨o,e,c,d⟩:=st;exact⟨o,e,λv z=>by rw[d] at z;cases z⟩
 keep:=λi h h' st k=>st.at λo e=>k it (by simp) o e
 item:=by
  intro X hP hw hK hc i pins s σ H E I hf st hg;subst hP hw hK;obtain⟨xs,x,hq,hx⟩:=hg;obtain⟨its,rv,p,hz⟩:=I.tuple hq;obtain⟨u,hu,ru⟩:=rv.get hx;obtain⟨f0,f1,f2,f3,f4,f5⟩:=hf it (by simp)
  refine wpAny_pyNext_tuple_item st (show s.heap.IsTuple a its.toArray from p) (x:=u) (by simpa using hu) λh' st' sb=>?_
  have I1:Inv X pins σ H { s with heap:=h' }:=I.turned (t':=s.toks) (λb o hb e=>(sb.2 b hb).trans e) f0 f1 f3 f4 f5
  obtain⟨o,e,c,d⟩:=id st';exact⟨u,rfl,wL (s:={ s with heap:=h' }) e c d (by decide) ⟨x,H,I1,ru,⟨rfl,λys hy=>by rw[I.tuple_inj hy hq];exact hx⟩,st',λb hb=>(hf b hb).1⟩⟩
 done:=by
  intro X hP hw hK hc i pins s σ H E I hf st hg;subst hP hw hK;obtain⟨xs,hq,hx⟩:=hg;obtain⟨its,rv,p,hz⟩:=I.tuple hq;obtain⟨f0,f1,f2,f3,f4,f5⟩:=hf it (by simp)
  have hl:=rv.length;exact wpAny_pyNext_tuple_end (I.ok.hd hc) st (show s.heap.IsTuple a its.toArray from p) (by simp;omega) λh' eb=>⟨rfl,I.turned (t':=s.toks) (λb o hb e=>eb b o hb e) f0 f1 f3 f4 f5⟩
 self:=λ_ _ _ _ _ st h=>wpAny_pyIter_tupleiter st h
theorem zD {P:Program}{w:World}{K:PySem.W.Frag}{tg:Expr}(it:Addr) (lo:Int) (n:Nat):Turn P w K tg (Itr lo n) [it] it (λi h=>IsRangeIter h it (lo+(i:Nat)*1) ((n:Int)-(i:Nat)) 1) where
 mem:=by simp
 obj:=λi h st b hb=>by
  have e:b=it:=by simpa using hb
  subst e;exact⟨_,st,λv z=>by
   have z':Data.fields _=Data.cell v:=z;cases z'⟩
 keep:=λi h h' st k=>k it (by simp) _ st
 item:=by
  intro X hP hw hK hc i pins s σ H E I hf st hg;subst hP hw hK;obtain⟨f0,f1,f2,f3,f4,f5⟩:=hf it (by simp)
  have W:=Walks.range (prog:=X.prog) (w:=X.w) (I.ok.hd hc) it lo 1 n;refine W.item i s _ _ hg st λv h' tk hv st' kk=>?_
  obtain⟨t,rfl⟩:=hv;have I1:Inv X pins σ H { s with heap:=h',toks:=tk }:=I.turned (λb o hb e=>kk b o (by simpa using hb) e) f0 f1 f3 f4 f5
  refine⟨_,rfl,wL (s:={ s with heap:=h',toks:=tk }) (n:="range_iterator") st' rfl rfl (by decide) ⟨.int (lo+i),H,I1,⟨t,?_⟩,⟨rfl,rfl⟩,st',λb hb=>(hf b hb).1⟩⟩
  rw[Int.mul_one]
 done:=by
  intro X hP hw hK hc i pins s σ H E I hf st hg;subst hP hw hK;obtain⟨f0,f1,f2,f3,f4,f5⟩:=hf it (by simp)
  exact wpAny_pyNext_range_end (I.ok.hd hc) st (by have:n<=i:=hg;omega) λh' eb=>⟨rfl,I.turned (t':=s.toks) (λb o hb e=>eb b o hb e) f0 f1 f3 f4 f5⟩
 self:=λ_ _ _ _ _ st h=>wpAny_pyIter_rangeiter st h
end L2
namespace L2
open PySem PySem.Spec PyProof.Rows
section
variable {X:Cx}{tg:Expr}
theorem wJ {pins:List (Addr×Obj)}{σ:St}{H:Hp}{s:Shared}{R:It->Hp->Prop}{E:Value->Shared->Prop}{lo hi:Int}{t u v:Tok}{tk:Nat}(I:Inv X pins σ H s) (h1:-(2^62)<=lo) (h2:lo<2^62) (h3:-(2^62)<=hi) (h4:hi<2^62)
  (q:R (Itr lo (hi-lo).toNat) H):wpAny (model X.prog X.w) X.A (pyIter (.ref s.heap.objs.size)) (PIE X pins σ tg R) E { s with heap:=s.heap.push { cls:=.type "range",data:=.fields #[.int lo t,.int hi u,.int 1 v] },toks:=tk }:=by
 refine wpAny_pyIter_range (IsRange.new ..) (small_one h1 h2 h3 h4) ?_;have I1:Inv X pins σ H { s with heap:=s.heap.push { cls:=.type "range",data:=.fields #[.int lo t,.int hi u,.int 1 v] },toks:=tk }:=I.kept λb o e=>Heap.get?_push_of_some _ e
 refine⟨(s.heap.push { cls:=.type "range",data:=.fields #[.int lo t,.int hi u,.int 1 v] }).objs.size,[(s.heap.push { cls:=.type "range",data:=.fields #[.int lo t,.int hi u,.int 1 v] }).objs.size],_,_,H,rfl,
  I1.kept (t':=tk) λb o e=>Heap.get?_push_of_some _ e,zD _ lo (hi-lo).toNat,?_,λb hb=>?_,q⟩
 ·have e1:lo+((0:Nat):Int)*1=lo:=by simp
  have e2:(((hi-lo).toNat:Nat):Int)-((0:Nat):Int)=Builtin.Range.rangeSize lo hi 1:=by rw[rangeSize_one];split <;> omega
  show IsRangeIter _ _ (lo+((0:Nat):Int)*1) ((((hi-lo).toNat:Nat):Int)-((0:Nat):Int)) 1;rw[e1,e2];exact Heap.get?_push_size _ rfl
 ·have e:b=(s.heap.push { cls:=.type "range",data:=.fields #[.int lo t,.int hi u,.int 1 v] }).objs.size:=by simpa using hb
  subst e;exact I1.fpOk (Nat.le_refl _) (I1.hok.fresh (Nat.le_refl _))
noncomputable def Zav (ta:TA):TI:=λσ H R=>ta σ H λvs H1=>∃j:Int,vs=[.int j]/\-(2^62)<=j/\j<2^62/\R (Itr 0 j.toNat) H1
theorem yM {a:Expr}{ta:TA}{p pos:Pos}(hg:Gl X "range") (hm:X.mg "range" = none) (ha:PA X [a] ta) (hs:starEach [a] X.env=[(false,eval a X.env)]:=by rfl):PI X tg (.Call (.Name "range" p) [a] [] pos) (Zav ta):=by
 intro pins s σ H R I h;refine Call_ (W8 I hg hm boot_range (PyProof.Rows.callWith_type1 (thn (ha pos pins s σ H _ I h) λus s1 ⟨vs,H1,I1,r1,q1⟩=>?_) hs rfl))
 obtain⟨j,e,q1,q2,q⟩:=q1;subst e;cases r1 with
 |cons r rr=>
  cases rr;obtain⟨t,rfl⟩:=r;exact call_range_1 (wJ I1 (by omega) (by omega) q1 q2 (by simpa using q))
noncomputable def ZaR (wi:TI) (g:TG) (tb:TS):TS:=λD σ H=>wi σ H λJ H1=>∃W:Nat->Nat->St->Hp->Prop,(∃m,W 0 m σ H1)/\∀i m σ H,W i m σ H->
 (J.stop i H/\D.nx σ H)\/(J.go i H/\∃N:St->Hp->Prop,(∀σ' H',N σ' H'->∃m',m'<m/\W (i+1) m' σ' H')/\∀x H',J.yld i H x H'->g x σ H' λσ2 H2=>tb { D with nx:=N,ct:=N,bk:=D.nx } σ2 H2)
noncomputable def Qk (fp:List Addr) (h:Heap):List (Addr×Obj):=fp.filterMap λb=>(h.get? b).map λo=>(b,o)
theorem Wj {fp:List Addr}{h:Heap}{b:Addr}{o:Obj}(hb:b∈fp) (e:h.get? b=some o):(b,o)∈Qk fp h:=List.mem_filterMap.mpr ⟨b,hb,by rw[e];rfl⟩
theorem xg {fp:List Addr}{h:Heap}{p:Addr×Obj}(hp:p∈Qk fp h):p.1∈fp/\h.get? p.1=some p.2:=by
 obtain⟨b,hb,e⟩:=List.mem_filterMap.mp hp;cases q:h.get? b with
 |none=>rw[q] at e;cases e
 |some o=>
  rw[q] at e;have e':(b,o)=p:=Option.some.inj e;subst e';exact⟨hb,q⟩
theorem Inv.pinned {pins:List (Addr×Obj)}{σ:St}{H:Hp}{s:Shared}{fp:List Addr}(I:Inv X pins σ H s) (hf:∀b∈fp,Vs X pins H b) (ho:∀b∈fp,∃o,s.heap.get? b=some o/\∀v,o.data≠.cell v):Inv X (pins++Qk fp s.heap) σ H s:=
 I.pins_of λp hp=>(List.mem_append.mp hp).elim (λz=>I.pin p (List.mem_append_right _ z)) λz=>by
  obtain⟨hb,e⟩:=xg z;obtain⟨f0,f1,f2,_⟩:=hf p.1 hb;obtain⟨o,e',d⟩:=ho p.1 hb;rw[e] at e';cases e';exact⟨e,f0,f1,f2,d⟩
theorem Inv.unpinned {pins pl:List (Addr×Obj)}{σ:St}{H:Hp}{s:Shared}(I:Inv X (pins++pl) σ H s):Inv X pins σ H s:=I.pins_of λp hp=>I.pin p (List.mem_append_right _ (List.mem_append_left _ hp))
theorem qU {iter:Expr}{body:List Stmt}{wi:TI}{g:TG}{tb:TS}{pos:Pos}(hp:PassesOwn (model X.prog X.w) X.A X.env X.xe) (hc:X.calm=true) (hi:PI X tg iter wi) (hg:PG X tg g) (hb:PSs X body tb)
  (hs:∀x,foldedSetIterable iter X.env x=pure x:=by intro _;rfl):PS X (.For tg iter body [] pos) (ZaR wi g tb):=by
 intro pins s σ H D I h;refine wpAny_For (thn (hi pins s σ H _ I h) λv s1 h1=>thn h1 λitv s2 h2=>?_) hs
 obtain⟨it,fp,tn,J,H2,e,I2,T,st2,f2,W,⟨m0,w0⟩,turn⟩:=h2;subst e;have stat:∀{H':Hp},(∀b∈fp,H' b=none)->∀b∈fp,Vs X pins H' b:=λhn b hb=>⟨hn b hb,(f2 b hb).2⟩
 refine codeAny_forLoop_any (λn s'=>∃i σ' H',Inv X pins σ' H' s'/\tn i s'.heap/\(∀b∈fp,H' b=none)/\W i n σ' H') ?_ m0 ⟨0,σ,H2,I2,st2,λb hb=>(f2 b hb).1,w0⟩
 rintro n s3 ⟨i,σ3,H3,I3,st3,fr3,w3⟩
 rcases turn i n σ3 H3 w3 with ⟨stop,qn⟩ | ⟨go,N,hN,step⟩
 ·refine wpAny_passesOwn hp (thn (T.done X rfl rfl rfl hc i pins s3 σ3 H3 X.xe I3 (stat fr3) st3 stop) λr s4 ⟨hr,I4⟩=>?_)
  subst hr;exact wpAny_execs_nil ⟨σ3,H3,I4,qn⟩
 ·refine wpAny_passesOwn hp (thn (T.item X rfl rfl rfl hc i pins s3 σ3 H3 X.xe I3 (stat fr3) st3 go) λr s4 ⟨u,hr,h4⟩=>?_)
  subst hr;refine wpAny_passesOwn hp (thn h4 λ_ s5 ⟨x,H5,I5,r5,y5,st5,fr5⟩=>?_)
  have I5':=I5.pinned (stat fr5) (T.obj _ _ st5);refine wpAny_passesOwn hp (thn (hg _ s5 σ3 H5 x u _ I5' r5 (step x H5 y5)) λ_ s6 ⟨σ6,H6,I6,q6⟩=>?_)
  refine wpAny_passesOwn hp (thn (hb _ s6 σ6 H6 _ I6 q6) λf s7 q7=>?_)
  have again:∀{σ7:St} {H7:Hp},Inv X (pins++Qk fp s5.heap) σ7 H7 s7->N σ7 H7->∃m,m<n/\∃i σ' H',Inv X pins σ' H' s7/\tn i s7.heap/\(∀b∈fp,H' b=none)/\W i m σ' H':=λ{σ7 H7} I7 n7=>by
   obtain⟨m',hm,w7⟩:=hN σ7 H7 n7;refine⟨m',hm,i+1,σ7,H7,I7.unpinned,T.keep _ _ _ st5 λb hb o e=>(I7.pin (b,o) (List.mem_append_right _ (List.mem_append_right _ (Wj hb e)))).1,λb hb=>?_,w7⟩
   obtain⟨o,e,d⟩:=T.obj _ _ st5 b hb;exact (I7.pin (b,o) (List.mem_append_right _ (List.mem_append_right _ (Wj hb e)))).2.1
  cases f with
  |next=>obtain⟨σ7,H7,I7,n7⟩:=q7;exact again I7 n7
  |cont=>obtain⟨σ7,H7,I7,n7⟩:=q7;exact again I7 n7
  |brk=>obtain⟨σ7,H7,I7,q7⟩:=q7;exact⟨σ7,H7,I7.unpinned,q7⟩
  |ret v=>obtain⟨x7,σ7,H7,I7,r7,q7⟩:=q7;exact⟨x7,σ7,H7,I7.unpinned,r7,q7⟩
end
end L2
namespace L2
open PySem PySem.Spec PyProof.Rows
noncomputable abbrev R2:=V->V->Hp->VK->Prop
noncomputable def OpR (X:Cx) (f:Value->Value->Sem Value) (r:R2):Prop:=
 ∀(pins:List (Addr×Obj)) (s:Shared) (σ:St) (H:Hp) (x y:V) (v u:Value) (Q:VK),Inv X pins σ H s->Z2 x v->Z2 y u->r x y H Q->
  wpAny (model X.prog X.w) X.A (f v u) (EP X pins σ Q) X.xe s
noncomputable def UnR (X:Cx) (f:Value->Sem Value) (r:V->Hp->VK->Prop):Prop:=
 ∀(pins:List (Addr×Obj)) (s:Shared) (σ:St) (H:Hp) (x:V) (v:Value) (Q:VK),Inv X pins σ H s->Z2 x v->r x H Q->
  wpAny (model X.prog X.w) X.A (f v) (EP X pins σ Q) X.xe s
noncomputable def Yc (X:Cx) (f:Value) (r:List V->Hp->VK->Prop):Prop:=
 ∀(pins:List (Addr×Obj)) (s:Shared) (σ:St) (H:Hp) (xs:List V) (us:List Value) (Q:VK),Inv X pins σ H s->Vals xs us->r xs H Q->
  wpAny (model X.prog X.w) X.A (call f us) (EP X pins σ Q) X.xe s
noncomputable def ZaW (X:Cx) (r:V->Hp->(Bool->Hp->Prop)->Prop):Prop:=
 ∀(pins:List (Addr×Obj)) (s:Shared) (σ:St) (H:Hp) (x:V) (v:Value) (Q:Bool->Hp->Prop),Inv X pins σ H s->Z2 x v->r x H Q->
  wpAny (model X.prog X.w) X.A (truthy v) (TP X pins σ Q) X.xe s
noncomputable def tOp (r:R2) (ta tb:TE):TE:=λσ H Q=>ta σ H λx H1=>tb σ H1 λy H2=>r x y H2 Q
noncomputable def tUn (r:V->Hp->VK->Prop) (ta:TE):TE:=λσ H Q=>ta σ H λx H1=>r x H1 Q
noncomputable def rI (C:Int->Int->Prop) (g:Int->Int->V):R2:=λx y H Q=>∃i j,x=.int i/\y=.int j/\C i j/\Q (g i j) H
noncomputable def rI0 (g:Int->Int->V):R2:=λx y H Q=>∃i j,x=.int i/\y=.int j/\Q (g i j) H
noncomputable def rU (g:Int->V):V->Hp->VK->Prop:=λx H Q=>∃i,x=.int i/\Q (g i) H
section
variable {X:Cx}{a b c:Expr}{ta tb tc:TE}{pos:Pos}
theorem qR (ha:PE X a ta) (hb:PE X b tb) {pins:List (Addr×Obj)}{s:Shared}{σ:St}{H:Hp}{R:V->V->Hp->Prop}(I:Inv X pins σ H s)
  (h:ta σ H λx H1=>tb σ H1 λy H2=>R x y H2) {Q:Value->Shared->Prop} {f:Value->Value->Sem Value}
  (hf:∀v u s2 x y H2,Inv X pins σ H2 s2->Z2 x v->Z2 y u->R x y H2->wpAny (model X.prog X.w) X.A (f v u) Q X.xe s2) :
  wpAny (model X.prog X.w) X.A (eval a X.env) (λv s₁=>wpAny (model X.prog X.w) X.A (eval b X.env) (λu s₂=>wpAny (model X.prog X.w) X.A (f v u) Q X.xe s₂) X.xe s₁) X.xe s:=by
 refine thn (ha pins s σ H _ I h) λv s1 ⟨x,H1,I1,r1,q1⟩=>?_
 refine thn (hb pins s1 σ H1 _ I1 q1) λu s2 ⟨y,H2,I2,r2,q2⟩=>?_
 exact hf v u s2 x y H2 I2 r1 r2 q2
theorem QC {op:Operator}{r:R2}(ho:OpR X (binaryOp op) r) (ha:PE X a ta) (hb:PE X b tb):PE X (.BinOp a op b pos) (tOp r ta tb):=by
 intro pins s σ H Q I h;exact wpAny_BinOp (qR ha hb I h λv u s2 x y H2 I2 rx ry q=>ho pins s2 σ H2 x y v u Q I2 rx ry q)
theorem Zaz {op:UnaryOp}{r:V->Hp->VK->Prop}(ho:UnR X (unaryOp op) r) (ha:PE X a ta):PE X (.UnaryOp op a pos) (tUn r ta):=by
 intro pins s σ H Q I h;exact UnaryOp_ (thn (ha pins s σ H _ I h) λv s1 ⟨x,H1,I1,r1,q1⟩=>ho pins s1 σ H1 x v Q I1 r1 q1)
theorem opI {f:Value->Value->Sem Value}{C:Int->Int->Prop}{g:Int->Int->Int}
  (rule:∀(i j:Int) (t u:Tok) (s:Shared) (Q:Value->Shared->Prop) (E:Value->Shared->Prop),C i j->Q (.int (g i j) s.toks) { s with toks:=s.toks+1 }->wpAny (model X.prog X.w) X.A (f (.int i t) (.int j u)) Q E s) :
  OpR X f (rI C λi j=>.int (g i j)):=by
 intro pins s σ H x y v u Q I rx ry h;obtain⟨i,j,rfl,rfl,hc,q⟩:=h;obtain⟨t,rfl⟩:=rx;obtain⟨t',rfl⟩:=ry;exact rule i j t t' s _ _ hc ⟨.int (g i j),H,I.tok _,⟨_,rfl⟩,q⟩
theorem ja {f:Value->Value->Sem Value}{g:Int->Int->Int}
  (rule:∀(i j:Int) (t u:Tok) (s:Shared) (Q:Value->Shared->Prop) (E:Value->Shared->Prop),Q (.int (g i j) s.toks) { s with toks:=s.toks+1 }->wpAny (model X.prog X.w) X.A (f (.int i t) (.int j u)) Q E s) :
  OpR X f (rI0 λi j=>.int (g i j)):=by
 intro pins s σ H x y v u Q I rx ry h;obtain⟨i,j,rfl,rfl,q⟩:=h;obtain⟨t,rfl⟩:=rx;obtain⟨t',rfl⟩:=ry;exact rule i j t t' s _ _ ⟨.int (g i j),H,I.tok _,⟨_,rfl⟩,q⟩
theorem qL {f:Value->Value->Sem Value}{g:Int->Int->Bool}
  (rule:∀(i j:Int) (t u:Tok) (s:Shared) (Q:Value->Shared->Prop) (E:Value->Shared->Prop),Q (.bool (g i j)) s->wpAny (model X.prog X.w) X.A (f (.int i t) (.int j u)) Q E s) :
  OpR X f (rI0 λi j=>.bl (g i j)):=by
 intro pins s σ H x y v u Q I rx ry h;obtain⟨i,j,rfl,rfl,q⟩:=h;obtain⟨t,rfl⟩:=rx;obtain⟨t',rfl⟩:=ry;exact rule i j t t' s _ _ ⟨.bl (g i j),H,I,rfl,q⟩
noncomputable def CDiv (i j:Int):Prop:=0<j/\j<1073741824
noncomputable def CPow (i j:Int):Prop:=0<=j/\j<=1000000/\i.natAbs<2^64
theorem qC:OpR X (binaryOp .Add) (rI0 λi j=>.int (i+j)):=ja λ_ _ _ _ _ _ _ q=>add_int q
theorem jb:OpR X (binaryOp .Sub) (rI0 λi j=>.int (i-j)):=ja λ_ _ _ _ _ _ _ q=>sub_int q
theorem vM:OpR X (binaryOp .FloorDiv) (rI CDiv λi j=>.int (i / j)):=opI λi j _ _ _ _ _ hc q=>by
 have h1:(0:Int)<j:=hc.1;have h2:j<1073741824:=hc.2;exact floordiv_int (by omega) (by rw[Int.fdiv_eq_ediv_of_nonneg i (by omega)];exact q) (.inl (PyProof.noPylong_small (by omega)))
theorem jK:OpR X (binaryOp .Mod) (rI (λ_ j=>0<j) λi j=>.int (i%j)):=opI λi j _ _ _ _ _ hc q=>by
 have h1:(0:Int)<j:=hc;exact mod_int' (by omega) (by rw[Int.fmod_eq_emod_of_nonneg i (by omega)];exact q)
theorem jF:OpR X (binaryOp .Pow) (rI CPow λi j=>.int (i^j.toNat)):=opI λ_ _ _ _ _ _ _ hc q=>pow_int_small hc.1 hc.2.1 hc.2.2 q
theorem vX:OpR X (inplaceOp .Add) (rI0 λi j=>.int (i+j)):=ja λ_ _ _ _ _ _ _ q=>iadd_int q
theorem unI {f:Value->Sem Value}{g:Int->Int}
  (rule:∀(i:Int) (t:Tok) (s:Shared) (Q:Value->Shared->Prop) (E:Value->Shared->Prop),Q (.int (g i) s.toks) { s with toks:=s.toks+1 }->wpAny (model X.prog X.w) X.A (f (.int i t)) Q E s) :
  UnR X f (rU λi=>.int (g i)):=by
 intro pins s σ H x v Q I rx h;obtain⟨i,rfl,q⟩:=h;obtain⟨t,rfl⟩:=rx;exact rule i t s _ _ ⟨.int (g i),H,I.tok _,⟨_,rfl⟩,q⟩
theorem jr:UnR X (unaryOp .USub) (rU λi=>.int (-i)):=unI λ_ _ _ _ _ q=>neg_int q
end
noncomputable def scal:V->V->Bool
 |.non,.non=>true | .non,.int _=>true | .int _,.non=>true | .non,.bl _=>true | .bl _,.non=>true | .non,.str _=>true | .str _,.non=>true
 |.int _,.int _=>true | .bl _,.bl _=>true | .str _,.str _=>true | .byt _,.byt _=>true
 |.int _,.str _=>true | .str _,.int _=>true | .bl _,.str _=>true | .str _,.bl _=>true
 |_,_=>false
noncomputable def rEq:R2:=λx y H Q=>scal x y=true/\Q (.bl (decide (x=y))) H
noncomputable def rNe:R2:=λx y H Q=>scal x y=true/\Q (.bl (!decide (x=y))) H
theorem zW {i j:Int}:decide (V.int i=V.int j)=(i == j):=by
 rw[Bool.eq_iff_iff];simp
theorem wm {i j:Bool}:decide (V.bl i=V.bl j)=(i == j):=by
 rw[Bool.eq_iff_iff];simp
theorem yr {i j:Str}:decide (V.str i=V.str j)=(i == j):=by
 rw[Bool.eq_iff_iff];simp
theorem yn {i j:Array UInt8}:decide (V.byt i=V.byt j)=(i.toList == j.toList):=by
 rw[Bool.eq_iff_iff];cases i;cases j;simp
section
variable {X:Cx}{a b c:Expr}{ta tb tc:TE}{pos:Pos}
theorem ZO {pins:List (Addr×Obj)}{σ:St}{H:Hp}{s:Shared}{Q:VK}{k k':Bool}(I:Inv X pins σ H s) (q:Q (.bl k) H) (e:k=k'):EP X pins σ Q (.bool k') s:=by
 subst e;exact⟨.bl k,H,I,rfl,q⟩
theorem Zaj:OpR X (compareOp .Eq) rEq:=by
 intro pins s σ H x y v u Q I rx ry h;obtain⟨hs,q⟩:=h;cases x with
 |non=>
  cases rx;cases y with
  |non=>cases ry;exact PySem.EqNone.eq_none_none (ZO I q (by simp))
  |bl j=>cases ry;exact PySem.EqNone.eq_none_bool (ZO I q (by simp))
  |int j=>obtain⟨t',rfl⟩:=ry;exact PySem.EqNone.eq_none_int (ZO I q (by simp))
  |str j=>obtain⟨t',rfl⟩:=ry;exact PySem.EqNone.eq_none_str (ZO I q (by simp))
  |_=>exact absurd (show false=true from hs) Bool.false_ne_true
 |bl i=>
  cases rx;cases y with
  |non=>cases ry;exact PySem.EqNone.eq_bool_none (ZO I q (by simp))
  |bl j=>cases ry;exact eq_bool (ZO I q wm)
  |str j=>obtain⟨t',rfl⟩:=ry;exact PySem.EqMixed.eq_bool_str (ZO I q (by simp))
  |_=>exact absurd (show false=true from hs) Bool.false_ne_true
 |int i=>
  obtain⟨t,rfl⟩:=rx;cases y with
  |non=>cases ry;exact PySem.EqNone.eq_int_none (ZO I q (by simp))
  |int j=>obtain⟨t',rfl⟩:=ry;exact eq_int (ZO I q zW)
  |str j=>obtain⟨t',rfl⟩:=ry;exact PySem.EqMixed.eq_int_str (ZO I q (by simp))
  |_=>exact absurd (show false=true from hs) Bool.false_ne_true
 |str i=>
  obtain⟨t,rfl⟩:=rx;cases y with
  |non=>cases ry;exact PySem.EqNone.eq_str_none (ZO I q (by simp))
  |bl j=>cases ry;exact PySem.EqMixed.eq_str_bool (ZO I q (by simp))
  |int j=>obtain⟨t',rfl⟩:=ry;exact PySem.EqMixed.eq_str_int (ZO I q (by simp))
  |str j=>obtain⟨t',rfl⟩:=ry;exact eq_str (ZO I q yr)
  |_=>exact absurd (show false=true from hs) Bool.false_ne_true
 |byt i=>
  obtain⟨t,rfl⟩:=rx;cases y with
  |byt j=>obtain⟨t',rfl⟩:=ry;exact PySem.W.eq_bytes (ZO I q yn)
  |_=>exact absurd (show false=true from hs) Bool.false_ne_true
 |_=>cases y <;> exact absurd (show false=true from hs) Bool.false_ne_true
theorem jU:OpR X (compareOp .NotEq) rNe:=by
 intro pins s σ H x y v u Q I rx ry h;obtain⟨hs,q⟩:=h;cases x with
 |non=>
  cases rx;cases y with
  |non=>cases ry;exact PySem.EqNone.ne_none_none (ZO I q (by simp))
  |bl j=>cases ry;exact PySem.EqNone.ne_none_bool (ZO I q (by simp))
  |int j=>obtain⟨t',rfl⟩:=ry;exact PySem.EqNone.ne_none_int (ZO I q (by simp))
  |str j=>obtain⟨t',rfl⟩:=ry;exact PySem.EqNone.ne_none_str (ZO I q (by simp))
  |_=>exact absurd (show false=true from hs) Bool.false_ne_true
 |bl i=>
  cases rx;cases y with
  |non=>cases ry;exact PySem.EqNone.ne_bool_none (ZO I q (by simp))
  |bl j=>cases ry;exact ne_bool (ZO I q (congrArg not wm))
  |str j=>obtain⟨t',rfl⟩:=ry;exact PySem.EqMixed.ne_bool_str (ZO I q (by simp))
  |_=>exact absurd (show false=true from hs) Bool.false_ne_true
 |int i=>
  obtain⟨t,rfl⟩:=rx;cases y with
  |non=>cases ry;exact PySem.EqNone.ne_int_none (ZO I q (by simp))
  |int j=>obtain⟨t',rfl⟩:=ry;exact ne_int (ZO I q (congrArg not zW))
  |str j=>obtain⟨t',rfl⟩:=ry;exact PySem.EqMixed.ne_int_str (ZO I q (by simp))
  |_=>exact absurd (show false=true from hs) Bool.false_ne_true
 |str i=>
  obtain⟨t,rfl⟩:=rx;cases y with
  |non=>cases ry;exact PySem.EqNone.ne_str_none (ZO I q (by simp))
  |bl j=>cases ry;exact PySem.EqMixed.ne_str_bool (ZO I q (by simp))
  |int j=>obtain⟨t',rfl⟩:=ry;exact PySem.EqMixed.ne_str_int (ZO I q (by simp))
  |str j=>obtain⟨t',rfl⟩:=ry;exact ne_str (ZO I q (congrArg not yr))
  |_=>exact absurd (show false=true from hs) Bool.false_ne_true
 |byt i=>
  obtain⟨t,rfl⟩:=rx;cases y with
  |byt j=>obtain⟨t',rfl⟩:=ry;exact PySem.W.ne_bytes (ZO I q (congrArg not yn))
  |_=>exact absurd (show false=true from hs) Bool.false_ne_true
 |_=>cases y <;> exact absurd (show false=true from hs) Bool.false_ne_true
theorem j9:OpR X (compareOp .Lt) (rI0 λi j=>.bl (decide (i<j))):=qL λ_ _ _ _ _ _ _ q=>lt_int q
theorem Zai:OpR X (compareOp .LtE) (rI0 λi j=>.bl (decide (i<=j))):=qL λ_ _ _ _ _ _ _ q=>le_int q
theorem j0:OpR X (compareOp .GtE) (rI0 λi j=>.bl (decide (j<=i))):=qL λ_ _ _ _ _ _ _ q=>ge_int q
theorem jz:OpR X (compareOp .Is) (λx y H Q=>y=.non/\Q (.bl (decide (x=.non))) H):=by
 intro pins s σ H x y v u Q I rx ry h;obtain⟨rfl,q⟩:=h;cases ry;refine is_none_gen (ZO I q ?_);cases x <;> first
  |(cases rx;rfl)
  |(obtain⟨t,rfl⟩:=rx;rfl)
theorem ui:OpR X (compareOp .IsNot) (λx y H Q=>y=.non/\Q (.bl (!decide (x=.non))) H):=by
 intro pins s σ H x y v u Q I rx ry h;obtain⟨rfl,q⟩:=h;cases ry;refine isnot_none_gen (ZO I q ?_);cases x <;> first
  |(cases rx;rfl)
  |(obtain⟨t,rfl⟩:=rx;rfl)
theorem OpR.or {f:Value->Value->Sem Value}{r r':R2}(h:OpR X f r) (h':OpR X f r'):OpR X f (λx y H Q=>r x y H Q\/r' x y H Q):=by
 intro pins s σ H x y v u Q I rx ry q;rcases q with q | q
 ·exact h pins s σ H x y v u Q I rx ry q
 ·exact h' pins s σ H x y v u Q I rx ry q
theorem nomark (b:Expr) {op:CmpOp}(h:op≠.In:=by decide) (h2:op≠.NotIn:=by decide):behindInMarks op b=false:=by
 have e1:(op == CmpOp.In)=false:=by cases op <;> first | rfl | exact absurd rfl h
 have e2:(op == CmpOp.NotIn)=false:=by cases op <;> first | rfl | exact absurd rfl h2
 cases b <;> simp[behindInMarks,e1,e2]
theorem vR {op:CmpOp}{r:R2}(ho:OpR X (compareOp op) r) (ha:PE X a ta) (hb:PE X b tb) (hm:behindInMarks op b=false):PE X (.Compare a [op] [b] pos) (tOp r ta tb):=by
 intro pins s σ H Q I h;exact wpAny_Compare1 (qR ha hb I h λv u s2 x y H2 I2 rx ry q=>ho pins s2 σ H2 x y v u Q I2 rx ry q) hm
noncomputable def Zan (t:TE):TT:=λσ H Q=>t σ H λx H'=>∃k,x=.bl k/\Q k H'
theorem v0 {op:CmpOp}{r:R2}(ho:OpR X (compareOp op) r) (ha:PE X a ta) (hb:PE X b tb) (hm:behindInMarks op b=false):PT X (.Compare a [op] [b] pos) (Zan (tOp r ta tb)):=by
 intro pins s σ H Q I h;refine wpAny_isTrue_Compare1 (thn (ha pins s σ H _ I h) λv s1 ⟨x,H1,I1,r1,q1⟩=>thn (hb pins s1 σ H1 _ I1 q1) λu s2 ⟨y,H2,I2,r2,q2⟩=>
  thn (ho pins s2 σ H2 x y v u _ I2 r1 r2 q2) λc s3 ⟨z,H3,I3,r3,k,e,q3⟩=>?_) hm
 subst e;cases r3;exact wpAny_truthy_bool ⟨H3,I3,q3⟩
noncomputable def qK (r r':R2) (ta tb tc:TE):TE:=λσ H Q=>ta σ H λx H1=>tb σ H1 λy H2=>r x y H2 λz H3=>∃k,z=.bl k/\
 (if k=true then tc σ H3 λw' H4=>r' y w' H4 Q else Q (.bl false) H3)
theorem wc {op op':CmpOp}{r r':R2}(ho:OpR X (compareOp op) r) (ho':OpR X (compareOp op') r') (ha:PE X a ta) (hb:PE X b tb) (hc:PE X c tc)
  (hm:lastMarks [op,op'] [b,c]=false:=by with_unfolding_all rfl):PE X (.Compare a [op,op'] [b,c] pos) (qK r r' ta tb tc):=by
 intro pins s σ H Q I h;refine Compare_chain (thn (ha pins s σ H _ I h) λv s1 ⟨x,H1,I1,r1,q1⟩=>chain_link (thn (hb pins s1 σ H1 _ I1 q1) λu s2 ⟨y,H2,I2,r2,q2⟩=>
  thn (ho pins s2 σ H2 x y v u _ I2 r1 r2 q2) λd s3 ⟨z,H3,I3,r3,k,e,q3⟩=>?_)) hm
 subst e;cases r3;refine wpAny_truthy_bool ?_;cases k with
 |false=>exact ite_ff ⟨.bl false,H3,I3,rfl,q3⟩
 |true=>exact ite_tt (chain_last (thn (hc pins s3 σ H3 _ I3 q3) λw' s4 ⟨z',H4,I4,r4,q4⟩=>ho' pins s4 σ H4 y z' u w' Q I4 r2 r4 q4))
noncomputable def vN (K:PySem.W.Frag) (x:V) (H:Hp) (k:Bool):Prop:=
 match x with
 |.non=>k=false
 |.bl b=>k=b
 |.int i=>k=(i != 0)
 |.str y=>y.length<=sizeLine/\k=((y.length:Int) != 0)
 |.byt y=>y.size<=sizeLine/\k=((y.size:Int) != 0)
 |.ref p=>(∃xs,SqL K H p xs/\k = !xs.isEmpty)\/(∃xs,SqT K H p xs/\k = !xs.isEmpty)\/∃kvs,H p=some (.dK kvs)/\k = !kvs.isEmpty
 |_=>False
theorem zj {κ:Type}{kvs:List (κ×V)}{vs:List (κ×Value)}(r:KV kvs vs):(!vs.isEmpty) = !kvs.isEmpty:=by
 cases r <;> rfl
theorem Qt {xs:List V}{its:List Value}(r:Vals xs its):(!its.toArray.isEmpty) = !xs.isEmpty:=by
 cases r <;> simp
theorem line63:(sizeLine:Nat)<2^63:=by rw[sizeLine_eq];decide
theorem xK:ZaW X (λx H Q=>∃k,vN X.K x H k/\Q k H):=by
 intro pins s σ H x v Q I rx h;obtain⟨k,e,q⟩:=h;have hl:=line63;have hs:sizeLine=16777216:=sizeLine_eq;cases x with
 |non=>
  cases rx;have e':k=false:=e;subst e';exact truthy_none ⟨H,I,q⟩
 |bl b=>
  cases rx;have e':k=b:=e;subst e';exact wpAny_truthy_bool ⟨H,I,q⟩
 |int i=>
  obtain⟨t,rfl⟩:=rx;have e':k=(i != 0):=e;subst e';exact PySem.P.truthy_int ⟨H,I,q⟩
 |str y=>
  obtain⟨t,rfl⟩:=rx;obtain⟨hy,e'⟩:y.length<=sizeLine/\k=((y.length:Int) != 0):=e;subst e';exact PySem.P.truthy_str (by omega) ⟨H,I.tok _,q⟩
 |byt y=>
  obtain⟨t,rfl⟩:=rx;obtain⟨hy,e'⟩:y.size<=sizeLine/\k=((y.size:Int) != 0):=e;subst e';exact PySem.W.truthy_bytes (by omega) ⟨H,I.tok _,q⟩
 |ref p=>
  cases rx;have e':(∃xs,SqL X.K H p xs/\k = !xs.isEmpty)\/(∃xs,SqT X.K H p xs/\k = !xs.isEmpty)\/∃kvs,H p=some (.dK kvs)/\k = !kvs.isEmpty:=e;rcases e' with ⟨xs,hx,e'⟩ | ⟨xs,hx,e'⟩ | ⟨kvs,hx,e'⟩
  ·subst e'
   obtain⟨its,r,pl,hz⟩:=I.list hx;have hlen:=r.length;exact wpAny_truthy_list pl.isList (by simp only[List.size_toArray];omega) ⟨H,I.tok _,by rw[Qt r];exact q⟩
  ·subst e'
   obtain⟨its,r,pl,hz⟩:=I.tuple hx;have hlen:=r.length;exact truthy_tuple pl (by simp only[List.size_toArray];omega) ⟨H,I.tok _,by rw[Qt r];exact q⟩
  ·subst e'
   obtain⟨hz,hS,vs,r,m⟩:kvs.length<=sizeLine/\(p == sysModules)=false/\∃vs,KV kvs vs/\s.heap.DictOf (Y1 X.prog X.w) p vs:=I.hok p _ hx;have hlen:kvs.length=vs.length:=Paired.length r;exact wpAny_truthy_dict hS m (by omega) ⟨H,I.tok _,by rw[zj r];exact q⟩
 |_=>exact (show False from e).elim
theorem xP (ha:PE X a ta) (he:∀whole,isTrue a X.env whole=(do let v <-whole;standAt a.pos;holding [v] (truthy v))) :
  PT X a (λσ H Q=>ta σ H λx H'=>∃k,vN X.K x H' k/\Q k H'):=by
 intro pins s σ H Q I h;exact isTrue_plain (thn (ha pins s σ H _ I h) λv s1 ⟨x,H1,I1,r1,q1⟩=>xK pins s1 σ H1 x v Q I1 r1 q1) (he _)
theorem vals1 {x:V}{us:List Value}(r:Vals [x] us):∃u,us=[u]/\Z2 x u:=by
 cases r with
 |cons r1 r2=>cases r2;exact⟨_,rfl,r1⟩
theorem vals2 {x y:V}{us:List Value}(r:Vals [x,y] us):∃u w',us=[u,w']/\Z2 x u/\Z2 y w':=by
 cases r with
 |cons r1 r2=>
  cases r2 with
  |cons r3 r4=>cases r4;exact⟨_,_,rfl,r1,r3⟩
theorem yN (hc:X.calm=true):Yc X (.builtin "max") (λxs H Q=>∃i j,xs=[.int i,.int j]/\Q (.int (if j>i then j else i)) H):=by
 intro pins s σ H xs us Q I r h;obtain⟨i,j,rfl,q⟩:=h;obtain⟨u,w',rfl,⟨t,rfl⟩,⟨t',rfl⟩⟩:=vals2 r;refine max_two_ints (I.ok.hd hc) λh' tk k=>⟨_,H,I.kept k,?_,q⟩
 by_cases hj:j>i
 ·rw[if_pos hj,if_pos hj];exact⟨_,rfl⟩
 ·rw[if_neg hj,if_neg hj];exact⟨_,rfl⟩
theorem yL (hc:X.calm=true):Yc X (.builtin "min") (λxs H Q=>∃i j,xs=[.int i,.int j]/\Q (.int (if j<i then j else i)) H):=by
 intro pins s σ H xs us Q I r h;obtain⟨i,j,rfl,q⟩:=h;obtain⟨u,w',rfl,⟨t,rfl⟩,⟨t',rfl⟩⟩:=vals2 r;refine min_two_ints (I.ok.hd hc) λh' tk k=>⟨_,H,I.kept k,?_,q⟩
 by_cases hj:j<i
 ·rw[if_pos hj,if_pos hj];exact⟨_,rfl⟩
 ·rw[if_neg hj,if_neg hj];exact⟨_,rfl⟩
theorem yD:Yc X (.type "int") (λxs H Q=>(∃i,xs=[.int i]/\Q (.int i) H)\/∃k,xs=[.bl k]/\Q (.int (if k then 1 else 0)) H):=by
 intro pins s σ H xs us Q I r h;rcases h with ⟨i,rfl,q⟩ | ⟨k,rfl,q⟩
 ·obtain⟨u,rfl,t,rfl⟩:=vals1 r
  exact call_int_int ⟨.int i,H,I,⟨_,rfl⟩,q⟩
 ·obtain⟨u,rfl,r1⟩:=vals1 r
  cases r1;exact call_int_bool ⟨.int (if k then 1 else 0),H,I.tok _,⟨_,rfl⟩,q⟩
end
end L2
namespace L2
open PySem PySem.Spec PyProof.Rows
structure ObjM (h:Heap) (x dx C:Addr) (mA:Str->Option Value):Prop where
 obj:h.get? x=some (PySem.W.instObj C dx)
 ns:h.Ns1 dx mA
 ne:dx≠x
theorem xj {h:Heap}{dx:Addr}{mA:Str->Option Value}(n:h.Ns1 dx mA):∃od,h.get? dx=some od/\∀name,PySem.W.lookIn name od=some (mA name):=by
 obtain⟨o,es,ep,ho,hd,hk,_,hm⟩:=n;refine⟨o,ho,λname=>?_⟩
 have e:=hm name;unfold nsFind findBy at e;rw[<-Array.find?_toList] at e;unfold PySem.W.lookIn;rw[hd]
 dsimp only
 split
 ·rename_i y q
  rw[q] at e;exact congrArg some e
 ·rename_i q
  rw[q] at e;have a:es.toList.any (·.refKey)=false:=by
   rw[List.any_eq_false];intro y hy;obtain⟨z,t,hkey⟩:=hk y (Array.mem_toList_iff.mp hy);simp[DictEntry.refKey,hkey]
  have a':¬es.toList.any (·.refKey)=true:=by rw[a];exact Bool.false_ne_true
  rw[if_neg a'];exact congrArg some e
theorem ObjM.look {h:Heap}{x dx C:Addr}{mA:Str->Option Value}(I:ObjM h x dx C mA):∃od,PySem.W.InstAt h x (PySem.W.instObj C dx) C (some od)/\∀name,PySem.W.lookIn name od=some (mA name):=
 let ⟨od,ho,hl⟩:=xj I.ns
 ⟨od,⟨I.obj,rfl,rfl,ho⟩,hl⟩
section
variable {P:Program}{w:World}{H H':Hp}{h h':Heap}{a C dx:Addr}{fs fs':List (Str×V)}
theorem zM (hok:HOk P w H h) (e:H a=some (.ins C dx fs)):∃mA,ObjM h a dx C mA/\(∀f,GV (fs.lookup f) (mA f))/\PySem.Within mA (fs.map (·.1))/\fs.length<=1000/\H dx=some (.own a):=by
 obtain⟨d,z,ne,ob,mA,n,r,q⟩:=(show Yi P w H h a (.ins C dx fs) from hok a _ e)
 exact⟨mA,⟨ob,n,ne⟩,r,q,z,d⟩
end
structure Cls (K:PySem.W.Frag) (C:Addr):Prop where
 pg:PySem.W.plainGet K C Str.empty=true
 hd:PySem.W.hasDictIn K C=true
 po:PySem.W.plainOver K C=true
 sa:PySem.W.findIn K (.ref C) "__setattr__" = some (some (.builtin "object.__setattr__"))
theorem Cls.get {K:PySem.W.Frag}{C:Addr}(c:Cls K C) (f:Str):PySem.W.plainGet K C f=true:=c.pg
section
variable {X:Cx}{pins:List (Addr×Obj)}{σ:St}{H:Hp}{s:Shared}{A:Around}{E:Value->Shared->Prop}{Q:Value->Shared->Prop}{c:Value}{b:Bool}
inductive TyOf (K:PySem.W.Frag) (H:Hp):V->Value->Prop where
 |non:TyOf K H .non (.type "NoneType")
 |bl (x:Bool):TyOf K H (.bl x) (.type "bool")
 |int (i:Int):TyOf K H (.int i) (.type "int")
 |str (x:Str):TyOf K H (.str x) (.type "str")
 |flt (x:UInt64):TyOf K H (.flt x) (.type "float")
 |lst {a:Addr} {xs:List V} (e:H a=some (.lst xs)):TyOf K H (.ref a) (.type "list")
 |frz {a:Addr} {o:Obj} {xs:List V} (e:H a=some (.frz o (.lst xs))):TyOf K H (.ref a) (.type "list")
 |tup {a:Addr} {xs:List V} (e:H a=some (.tup xs)):TyOf K H (.ref a) (.type "tuple")
 |dK {a:Addr} {kvs:List (Key×V)} (e:H a=some (.dK kvs)):TyOf K H (.ref a) (.type "dict")
 |dT {a:Addr} {kvs:List (List Key×V)} (e:H a=some (.dT kvs)):TyOf K H (.ref a) (.type "dict")
 |ins {a C dx:Addr} {fs:List (Str×V)} (e:H a=some (.ins C dx fs)) (cl:Cls K C) (ha:PySem.W.findIn K (.ref C) "__class__" = some (some (.builtin "object.__class__")))
   (hn:PySem.W.specialIn K (.builtin "object.__class__") "__get__" = some (some (.builtin "getset_descriptor.__get__"))) (htk:PySem.W.takesIn K (.builtin "object.__class__")=some true)
   (hm:PySem.W.mroIn K C (.type "object")=some true):TyOf K H (.ref a) (.ref C)
theorem yR {x:V}{u t:Value}(I:Inv X pins σ H s) (rx:Z2 x u) (ty:TyOf X.K H x t) (e:PySem.W.kitOne X.K t c=some b) (h:∀tk,Q (.bool b) { s with toks:=tk }) :
  wpAny (model X.prog X.w) A (call (.builtin "isinstance") [u,c]) Q E s:=by
 cases ty with
 |non=>cases (show u=Value.none from rx);exact PySem.W.kia_one PySem.W.kitx_none I.kIn True.intro e (λz=>nomatch z) h
 |bl y=>cases (show u=Value.bool y from rx);exact PySem.W.kia_one PySem.W.kitx_bool I.kIn True.intro e (λz=>nomatch z) h
 |int i=>obtain⟨t,q⟩:=(show ∃t,u=Value.int i t from rx);cases q;exact PySem.W.kia_one PySem.W.kitx_int I.kIn True.intro e (λz=>nomatch z) h
 |str y=>obtain⟨t,q⟩:=(show ∃t,u=Value.str y t from rx);cases q;exact PySem.W.kia_one PySem.W.kitx_str I.kIn True.intro e (λz=>nomatch z) h
 |flt y=>obtain⟨t,q⟩:=(show ∃t,u=Value.float y t from rx);cases q;exact PySem.W.kia_one PySem.W.kitx_float I.kIn True.intro e (λz=>nomatch z) h
 |@lst a xs ea=>
  cases (show u=Value.ref a from rx)
  obtain⟨_,_,n,_,h1⟩:=(show Yi X.prog X.w H s.heap a (.lst xs) from I.hok a _ ea)
  exact PySem.W.kia_one PySem.W.kitx_list I.kIn ⟨_,h1,rfl⟩ e (λz=>nomatch z) h
 |@frz a ob xs ea=>
  cases (show u=Value.ref a from rx)
  obtain⟨_,_,_,n,_,h1⟩:=(show Yi X.prog X.w H s.heap a (.frz ob (.lst xs)) from I.hok a _ ea)
  exact PySem.W.kia_one PySem.W.kitx_list I.kIn ⟨_,h1,rfl⟩ e (λz=>nomatch z) h
 |@tup a xs ea=>
  cases (show u=Value.ref a from rx)
  obtain⟨_,_,_,p⟩:=(show Yi X.prog X.w H s.heap a (.tup xs) from I.hok a _ ea)
  obtain⟨o,h1,h2,_⟩:=p;exact PySem.W.kia_one PySem.W.kitx_tuple I.kIn ⟨o,h1,h2⟩ e (λz=>nomatch z) h
 |@dK a kvs ea=>
  cases (show u=Value.ref a from rx)
  obtain⟨_,_,vs,_,p⟩:=(show Yi X.prog X.w H s.heap a (.dK kvs) from I.hok a _ ea)
  obtain⟨o,es,ep,h1,h2,_⟩:=p;exact PySem.W.kia_one PySem.W.kitx_dict I.kIn ⟨o,h1,h2.1⟩ e (λz=>nomatch z) h
 |@dT a kvs ea=>
  cases (show u=Value.ref a from rx)
  obtain⟨_,_,xs,_,o,es,ep,h1,h2,_⟩:=(show Yi X.prog X.w H s.heap a (.dT kvs) from I.hok a _ ea)
  exact PySem.W.kia_one PySem.W.kitx_dict I.kIn ⟨o,h1,h2.1⟩ e (λz=>nomatch z) h
 |@ins a C dx fs ea cl ha hn htk hm=>
  cases (show u=Value.ref a from rx)
  obtain⟨mA,O,_⟩:=zM I.hok ea;obtain⟨od,J,_⟩:=O.look;exact PySem.W.kia_one (PySem.W.kitx_own (cl.get _) cl.hd ha hn htk hm) I.kIn J e (λz=>nomatch z) h
end
end L2
namespace L2
open PySem PySem.Spec PyProof.Rows
structure Room (k:Nat) (A:Around):Prop where
 hd:A.handled=none
 dp:A.depth+3*k+5<recursionLimit
 un:A.units+16*k+200<cLine
theorem Room.deeper {k:Nat}{A:Around}(r:Room (k+1) A) (env:Env):Room k (A.deeper env):=
 ⟨r.hd,by have:=r.dp;show A.depth+1+3*k+5<_;omega,by have:=r.un;show A.units+3+16*k+200<_;omega⟩
theorem Room.depth {k:Nat}{A:Around}(r:Room k A):A.depth<recursionLimit:=by have:=r.dp;omega
noncomputable def ZaX:TA:=λ_ H Q=>Q [] H
noncomputable def Zau (ta:TE) (tr:TA):TA:=λσ H Q=>ta σ H λx H1=>tr σ H1 λxs H2=>Q (x::xs) H2
section
variable {X:Cx}{e:Expr}{es:List Expr}{te:TE}{t:TA}{pos:Pos}
theorem JN:PA X [] ZaX:=λ_ _ _ _ H Q I h=>Calls.spliced_nil ⟨[],H,I,.nil,h⟩
theorem Wc (ha:PE X e te) (hr:PA X es t) (hs:starEach (e::es) X.env=(false,eval e X.env)::starEach es X.env:=by rfl):PA X (e::es) (Zau te t):=by
 intro pos pins s σ H Q I h;rw[hs];show wpAny _ _ (spliced ((false,eval e X.env)::backTo pos (starEach es X.env))) _ _ s;refine Calls.spliced_cons (thn (ha pins s σ H _ I h) λu s1 ⟨x,H1,I1,r1,q1⟩=>?_)
 exact thn (hr pos pins s1 σ H1 _ I1 q1) λus s2 ⟨xs,H2,I2,r2,q2⟩=>⟨x::xs,H2,I2,.cons r1 r2,q2⟩
noncomputable def ZaS (t:TA):TE:=λσ H Q=>t σ H λxs H1=>xs.length<=sizeLine/\∀p,H1 p=none->Q (.ref p) (upd H1 p (.tup xs))
noncomputable def ZaL (t:TA):TE:=λσ H Q=>t σ H λxs H1=>xs.length<=sizeLine/\∀p,H1 p=none->Q (.ref p) (upd H1 p (.lst xs))
theorem xC {x1}(h:PA X es t):PE X (.Tuple es x1 pos) (ZaS t):=by
 intro pins s σ H Q I hq;refine wpAny_Tuple_spliced (thn (h pos pins s σ H _ I hq) λus s1 ⟨xs,H1,I1,r,z,q⟩=>⟨by rw[<-r.length];exact z,?_⟩)
 have hf:H1 s1.heap.objs.size=none:=I1.hok.fresh (Nat.le_refl _);refine⟨.ref s1.heap.objs.size,upd H1 s1.heap.objs.size (.tup xs),I1.laid (t':=s1.toks) (λb u e=>Heap.get?_push_of_some _ e) (Nat.le_refl _) ?_,rfl,q _ hf⟩
 exact⟨z,us,r,⟨_,Heap.get?_push_size _ rfl,rfl,_,rfl⟩⟩
theorem qD (h:PA X es t):PE X (.List es pos) (ZaL t):=by
 intro pins s σ H Q I hq;refine wpAny_List_spliced (thn (h pos pins s σ H _ I hq) λus s1 ⟨xs,H1,I1,r,z,q⟩=>⟨by rw[<-r.length];exact z,?_⟩)
 have hf:H1 s1.heap.objs.size=none:=I1.hok.fresh (Nat.le_refl _);refine⟨.ref s1.heap.objs.size,upd H1 s1.heap.objs.size (.lst xs),I1.laid (t':=s1.toks) (λb u e=>Heap.get?_push_of_some _ e) (Nat.le_refl _) ?_,rfl,q _ hf⟩
 exact⟨z,us,0,r,Heap.get?_push_size _ rfl⟩
end
noncomputable abbrev Sp:=List V->Hp->VK->XK->Prop
noncomputable abbrev CXT:=List Env->Hp->Shared->XK->Value->Shared->Prop
structure Env0 (P:Program) (w:World) (K:PySem.W.Frag) (mg:Str->Option Value) (base:Heap) (A:Around) (outer:List Env) (s:Shared) (H:Hp):Prop where
 frames:A.frames=some outer
 mod:Mod K mg base
 bs:∀b o,base.get? b=some o->s.heap.get? b=some o/\H b=none
 bsz:base.objs.size<=s.heap.objs.size
 funs:s.heap.FunFrames base outer
 frf:∀b∈frs outer,H b=none
 hok:HOk P w H s.heap
 bare:AllBare s.gens
noncomputable def CE (outer:List Env) (P:Program) (w:World) (H:Hp) (s:Shared) (Q:VK) (u:Value) (s':Shared):Prop:=
 ∃v H',s'.os=s.os/\AllBare s'.gens/\Un (frs outer) [] H H' s.heap s'.heap/\HOk P w H' s'.heap/\Z2 v u/\Q v H'
noncomputable def CR (CX:CXT) (outer:List Env) (P:Program) (w:World) (H:Hp) (s:Shared) (Q:VK) (E:XK) (r:Result) (s':Shared):Prop:=
 match r with
 |.ok (.ret u)=>CE outer P w H s Q u s'
 |.ok _=>False
 |.error e=>CX outer H s E e s'
structure FnOk (P:Program) (w:World) (K:PySem.W.Frag) (mg:Str->Option Value) (base:Heap) (CX:CXT) (k:Nat) (f:Addr) (fd:FuncData) (ps:List Str) (sp:Sp):Prop where
 len:∀vs H Q E,sp vs H Q E->vs.length=ps.length
 run:∀(A:Around) (outer:List Env) (s:Shared) (H:Hp) (args:Args) (us:List Value) (vs:List V) (Q:VK) (E:XK),Room k A->Env0 P w K mg base A outer s H->BindsTo s fd args (ps.zip us)->Vals vs us->sp vs H Q E->
  codeAny (model P w) A (.call (.ref f) args) (CR CX outer P w H s Q E) s
section
variable {X:Cx}{pins:List (Addr×Obj)}{σ:St}{H:Hp}{s s':Shared}
theorem Inv.env0 (I:Inv X pins σ H s):Env0 X.prog X.w X.K X.mg X.base X.A X.stack s H:=
 ⟨I.ok.frames,I.ok.mod,I.bs,Nat.le_trans I.ok.bsz I.sz,I.stack,I.stkFree,I.hok,I.bare⟩
theorem Inv.after {Q:VK}{u:Value}(I:Inv X pins σ H s) (h:CE X.stack X.prog X.w H s Q u s'):EP X pins σ Q u s':=by
 obtain⟨v,H',os,bare,un,hok,r,q⟩:=h;obtain⟨hh,g,d,t,os'⟩:=s';obtain rfl:os'=s.os:=os;exact⟨v,H',I.call (h':=hh) (g':=g) (d':=d) (t':=t) (ch:=[]) un hok bare (λb z=>absurd z (by simp)),r,q⟩
end
noncomputable def Zay (sp:Sp) (dvs:List V) (E:XK) (t:TA):TE:=λσ H Q=>t σ H λvs H1=>sp (vs++dvs) H1 Q E
noncomputable def Binds (K:PySem.W.Frag) (fd:FuncData) (ps:List Str) (ds:List Value):Prop:=
 ∀(s:Shared) (us:List Value),K.In s.heap->(us++ds).length=ps.length->BindsTo s fd ⟨us,[]⟩ (ps.zip (us++ds))
theorem Binds.all {K:PySem.W.Frag}{fd:FuncData}{ps:List Str}(h:∀us:List Value,us.length=ps.length->bindArgs fd ⟨us,[]⟩=pure (ps.zip us)):Binds K fd ps []:=λs us _ hl=>by
 rw[List.append_nil] at hl ⊢;exact .of_eq (h us hl)
noncomputable def Passes (CX:CXT) (X:Cx) (E:XK):Prop:=∀(pins:List (Addr×Obj)) (σ:St) (H:Hp) (s:Shared) (e:Value) (s':Shared),Inv X pins σ H s->CX X.stack H s E e s'->X.xe e s'
section
variable {X:Cx}{CX:CXT}{k:Nat}{f C:Addr}{fd:FuncData}{ps:List Str}{sp:Sp}{dvs:List V}{ds:List Value}{E:XK}{x m:Str}{p pos apos:Pos}{e o:Expr}{es:List Expr}{ta:TE}{t:TA}
theorem qy {pins:List (Addr×Obj)}{σ:St}{H:Hp}{s:Shared}{Q:VK}{us:List Value}{vs:List V}(F:FnOk X.prog X.w X.K X.mg X.base CX k f fd ps sp) (hr:Room k X.A) (hb:Binds X.K fd ps ds) (hd:Vals dvs ds) (hx:Passes CX X E)
  (I:Inv X pins σ H s) (r:Vals vs us) (h:sp (vs++dvs) H Q E):wpAny (model X.prog X.w) X.A (call (.ref f) us) (EP X pins σ Q) X.xe s:=by
 have r2:Vals (vs++dvs) (us++ds):=r.append hd;have hl:(us++ds).length=ps.length:=by rw[<-r2.length];exact F.len _ _ _ _ h
 refine wpAny_call (codeAny_mono (F.run X.A X.stack s H ⟨us,[]⟩ (us++ds) (vs++dvs) Q E hr I.env0 (hb s us I.kIn hl) r2 h) λr s' hq=>?_)
 cases r with
 |error e=>exact hx pins σ H s e s' I hq
 |ok fl=>
  cases fl with
  |ret u=>exact I.after hq
  |next=>exact False.elim hq
  |brk=>exact False.elim hq
  |cont=>exact False.elim hq
theorem vQ (F:FnOk X.prog X.w X.K X.mg X.base CX k f fd ps sp) (hr:Room k X.A) (hg:Gl X x) (hm:X.mg x=some (.ref f)) (hk:PySem.W.keepIn X.K (.ref f)=true) (hb:Binds X.K fd ps ds) (hd:Vals dvs ds) (hx:Passes CX X E)
  (ha:PA X (e::es) t) (hdb:(x == ("__debug__" : Str))=false:=by decide) (he:starEach (e::es) X.env=(false,eval e X.env)::starEach es X.env:=by rfl) (hpl:(backTo pos (starEach es X.env)).any (·.1)=false:=by rfl) :
  PE X (.Call (.Name x p) (e::es) [] pos) (Zay sp dvs E t):=by
 intro pins s σ H Q I h;refine wpAny_Call_Name_kw (uz I hg hm ?_ hdb);refine PySem.W.callWith_K (h₀:=X.base) I.ok.mod.kin hk (thn (ha pos pins s σ H _ I h) λus s1 ⟨vs,H1,I1,r,q⟩=>⟨I1.kIn,?_⟩) he hpl
 exact qy F hr hb hd hx I1 r q
end
structure FnScope (N P:List Str) (sc:Scope):Prop where
 kind:sc.kind=.function
 co:sc.isCoroutine=false
 gen:sc.isGenerator=false
 nd:N.Nodup
 pre:N.take P.length=P
 par:∀x∈P,sc.names.lookup x=some .local\/sc.names.lookup x=some .cell
 nofree:∀y∈sc.names,y.2≠.free
theorem QY {kindOf:Str->Option NameKind}{x:Str}:∀{binds:List (Str×Value)}{m:Str->Option Value},(∀v,(x,v)∉binds)->bindL kindOf binds m x=m x
 |[],_,_=>rfl
 |(n,v)::r,m,h=>by
  unfold bindL;rw[QY λw hw=>h w (List.mem_cons_of_mem _ hw)]
  split
  ·have:x≠n:=by rintro rfl;exact h v List.mem_cons_self
   simp[this]
  ·rfl
theorem QA {kindOf:Str->Option NameKind}{x:Str}:∀{binds:List (Str×Value)}{m:Str->Option Value},(∀v,(x,v)∉binds)->bindC kindOf binds m x=m x
 |[],_,_=>rfl
 |(n,v)::r,m,h=>by
  unfold bindC;rw[QA λw hw=>h w (List.mem_cons_of_mem _ hw)]
  split
  ·rfl
  ·have:x≠n:=by rintro rfl;exact h v List.mem_cons_self
   simp[this]
theorem QS {kindOf:Str->Option NameKind}{x:Str}{v:Value}:∀{P:List Str}{vs:List Value}{i:Nat}{m:Str->Option Value},P.Nodup->P[i]? = some x->vs[i]? = some v->kindOf x=some .local->
  bindL kindOf (P.zip vs) m x=some v
 |[],_,_,_,_,h,_,_=>by simp at h
 |_::_,[],_,_,_,_,h,_=>by simp at h
 |p::P,w::vs,0,m,nd,h1,h2,hk=>by
  simp at h1 h2;subst h1;subst h2;show bindL kindOf ((p,w)::P.zip vs) m p=_;unfold bindL;rw[QY λv hv=>(List.nodup_cons.mp nd).1 (List.of_mem_zip hv).1,if_pos hk]
  simp
 |p::P,w::vs,i+1,m,nd,h1,h2,hk=>by
  show bindL kindOf ((p,w)::P.zip vs) m x=_;unfold bindL;exact QS (i:=i) (List.nodup_cons.mp nd).2 (by simpa using h1) (by simpa using h2) hk
theorem QO {kindOf:Str->Option NameKind}{x:Str}{v:Value}:∀{P:List Str}{vs:List Value}{i:Nat}{m:Str->Option Value},P.Nodup->P[i]? = some x->vs[i]? = some v->kindOf x≠some .local->
  bindC kindOf (P.zip vs) m x=some v
 |[],_,_,_,_,h,_,_=>by simp at h
 |_::_,[],_,_,_,_,h,_=>by simp at h
 |p::P,w::vs,0,m,nd,h1,h2,hk=>by
  simp at h1 h2;subst h1;subst h2;show bindC kindOf ((p,w)::P.zip vs) m p=_;unfold bindC;rw[QA λv hv=>(List.nodup_cons.mp nd).1 (List.of_mem_zip hv).1,if_neg hk]
  simp
 |p::P,w::vs,i+1,m,nd,h1,h2,hk=>by
  show bindC kindOf ((p,w)::P.zip vs) m x=_;unfold bindC;exact QO (i:=i) (List.nodup_cons.mp nd).2 (by simpa using h1) (by simpa using h2) hk
noncomputable def start (N:List Str) (vs:List V):St:=vs.map some++List.replicate (N.length-vs.length) none
noncomputable def GQ (CX:CXT) (P:Program) (w:World) (K:PySem.W.Frag) (mg:Str->Option Value) (base:Heap) (N:List Str) (qual:Str) (scope:Scope) (f:Addr) (cd:Value) (A:Around) (outer:List Env) (s:Shared) (H:Hp) (E:XK):Cx where
 prog:=P
 w:=w
 K:=K
 mg:=mg
 base:=base
 A:=A.deeper (envOfC qual scope s.heap.objs.size f cd)
 N:=N
 s₀:=s
 H₀:=H
 env:=envOfC qual scope s.heap.objs.size f cd
 outer:=outer
 stack:=envOfC qual scope s.heap.objs.size f cd::outer
 ex:=[]
 calm:=true
 fn:=λ_=>true
 pn:=[]
 xe:=λe s'=>wpAny (model P w) (A.deeper (envOfC qual scope s.heap.objs.size f cd)) (leaving (envOfC qual scope s.heap.objs.size f cd) e) (λ_ s''=>CX outer H s E e s'') (λe' s''=>CX outer H s E e' s'') s'
theorem GB {sc:Scope}{n:Nat}{x:Str}(h:sc.names.lookup x=some .cell):∃c,(cellsFrom n sc.names []).lookup x=some c:=by
 have q:=PySem.W.cellsFrom_some sc.names n [] (.inl h);exact Option.isSome_iff_exists.mp q
theorem yT {CX:CXT}{P:Program}{w:World}{K:PySem.W.Frag}{mg:Str->Option Value}{base:Heap}{N ps:List Str}{qual:Str}{scope:Scope}{f:Addr}{cd:Value}{A:Around}{outer:List Env}{s s1:Shared}{H:Hp}{E:XK}{us:List Value}{vs:List V}
  (S:FnScope N ps scope) (hd:A.handled=none) (e0:Env0 P w K mg base A outer s H) (hl:vs.length=ps.length) (r:Vals vs us)
  (x:InCallC s s.heap.objs.size (bindL (envOfC qual scope s.heap.objs.size f cd).kindOf (ps.zip us) λ_=>none) (cellsFrom (s.heap.objs.size+1) scope.names []) (bindC (envOfC qual scope s.heap.objs.size f cd).kindOf (ps.zip us) λ_=>none) s1) :
  Inv (GQ CX P w K mg base N qual scope f cd A outer s H E) [] (start N vs) H s1:=by
 have hpl:ps.length<=N.length:=by have:=congrArg List.length S.pre;rw[List.length_take] at this;omega
 obtain⟨h1,tk,rfl,hk⟩:=x.done;have noA:∀b:Addr,b∉(GQ CX P w K mg base N qual scope f cd A outer s H E).ex:=λb z=>absurd (show b∈([]:List Addr) from z) (by simp)
 refine⟨⟨e0.mod,S.kind,rfl,rfl,Nat.le_refl _,λy z c h1 h2=>?_,λy hy=>?_,λy c _ h=>?_,λ_=>hd,Around.frames_deeper e0.frames,.inr ⟨rfl,rfl⟩,λb z=>absurd z (noA b),e0.bs,e0.bsz,λb _ _=>noA b,λb z=>absurd z (noA b),e0.funs,e0.frf⟩,
  rfl,e0.bare,Un.kept hk,⟨_,x.toInCall.ns,λi y v h1 h2 h3=>?_⟩,λy c h=>⟨_,x.cell y c h⟩,e0.hok.fresh (Nat.le_refl _),λy c h=>?_,λp hp=>absurd (show p∈([]:List (Addr×Obj)) from hp) (by simp),e0.hok.kept hk,?_⟩
 ·exact name_of_addr x.apart (PySem.mem_of_lookup h1) (PySem.mem_of_lookup h2)
 ·have hy:scope.names.lookup y=some .cell\/scope.names.lookup y=some .free:=hy
  rcases hy with hy | hy
  ·exact GB hy
  ·exact absurd rfl (S.nofree _ (PySem.mem_of_lookup hy))
 ·exact Nat.le_of_lt (x.above y c (PySem.mem_of_lookup h))
 ·have hi:i<vs.length:=by
   unfold start at h2;by_cases hi:i<vs.length
   ·exact hi
   ·rw[List.getElem?_append_right (by simpa using hi)] at h2
    rw[List.getElem?_replicate] at h2;split at h2 <;> cases h2
  have ha:vs[i]? = some v:=by
   unfold start at h2;rw[List.getElem?_append_left (by simpa using hi),List.getElem?_map] at h2
   cases e:vs[i]? with
   |none=>rw[e] at h2;cases h2
   |some a=>rw[e] at h2;cases h2;rfl
  obtain⟨u,hu,rv⟩:=r.get ha;have hp:ps[i]? = some y:=by
   rw[<-S.pre,List.getElem?_take_of_lt (by omega)];exact h1
  have ndP:ps.Nodup:=by rw[<-S.pre];exact S.nd.sublist (List.take_sublist _ _)
  refine⟨u,rv,?_⟩;rcases S.par y (List.mem_of_getElem? hp) with k | k
  ·exact .inl ⟨k,QS ndP hp hu k⟩
  ·obtain⟨c,e⟩:=GB (n:=s.heap.objs.size+1) k
   refine .inr ⟨.inl k,c,e,?_⟩;have q:=x.cell y c e;rw[QO ndP hp hu (by show scope.names.lookup y≠_;rw[k];decide)] at q
   exact q
 ·exact e0.hok.fresh (Nat.le_of_lt (x.above y c (PySem.mem_of_lookup h)))
 ·unfold start
  show _=N.length;rw[List.length_append,List.length_map,List.length_replicate];omega
theorem Zap {CX:CXT}{P:Program}{w:World}{K:PySem.W.Frag}{mg:Str->Option Value}{base:Heap}{k:Nat}{f:Addr}{name qual:Str}{params:Arguments}{body:List Stmt}{scope:Scope}{dV kV doc pm cdv ct oc:Value}{an od:Option Addr}
  {osl:Array (Option Value)} {N ps:List Str} {sp:Sp} (lk:K.lookup f=some ⟨oc,od,.func (PySem.W.fnOf name qual params body scope dV kV doc pm an cdv ct),osl⟩) (hcd:PySem.W.codeIn K cdv qual=true) (S:FnScope N ps scope)
  (len:∀vs H Q E,sp vs H Q E->vs.length=ps.length)
  (hbody:∀(A:Around) (outer:List Env) (s:Shared) (H:Hp) (vs:List V) (Q:VK) (E:XK),Room k (A.deeper (envOfC qual scope s.heap.objs.size f cdv))->sp vs H Q E->
   ∃t,PSs (GQ CX P w K mg base N qual scope f cdv A outer s H E) body t/\t { nx:=λ_ H'=>Q .non H',rt:=Q } (start N vs) H) :
  FnOk P w K mg base CX (k+1) f (PySem.W.fnOf name qual params body scope dV kV doc pm an cdv ct) ps sp:=by
 refine⟨len,λA outer s H args us vs Q E hr e0 hb r hsp=>?_⟩
 have hl:=len _ _ _ _ hsp;have KX:K.In s.heap:=e0.mod.kin.keeps λb o e=>(e0.bs b o e).1
 have lim:s.heap.NoLimit:=e0.mod.nolimit.keeps λb o e=>(e0.bs b o e).1
 have hkind:∀y∈ps.zip us,scope.names.lookup y.1=some .local\/(scope.names.lookup y.1=some .cell/\((cellsFrom (s.heap.objs.size+1) scope.names []).lookup y.1).isSome=true):=λ⟨n,v⟩ hy=>by
  rcases S.par n (List.of_mem_zip hy).1 with q | q
  ·exact .inl q
  ·exact .inr ⟨q,PySem.W.cellsFrom_some _ _ _ (.inl q)⟩
 refine codeAny_call_function hr.depth (KX _ _ lk) rfl S.co S.gen rfl (PySem.W.codeRec_of KX hcd) (hb _ _ _ _ ?_);refine wpAny_newFunctionEnv_cells S.kind hkind λenv he s1 x=>?_
 subst he;refine⟨lim.keeps x.toInCall.keep,codeAny_func ?_⟩;obtain⟨t,ht,hq⟩:=hbody A outer s H vs Q E (hr.deeper _) hsp;have I:Inv (GQ CX P w K mg base N qual scope f cdv A outer s H E) [] (start N vs) H s1:=yT S hr.hd e0 hl r x;refine wpAny_mono (ht [] s1 (start N vs) H _ I hq) (λfl s' hs=>?_) λe s' hs=>hs
 have fin:∀{σ':St} {H':Hp} {v:V} {u:Value},Inv (GQ CX P w K mg base N qual scope f cdv A outer s H E) [] σ' H' s'->Z2 v u->Q v H'->CE outer P w H s Q u s':=
  λ{σ' H' v u} J rv q=>⟨v,H',J.os,J.bare,J.base,J.hok,rv,q⟩
 cases fl with
 |ret u=>
  obtain⟨v,σ',H',J,rv,q⟩:=hs;exact fin J rv q
 |next=>
  obtain⟨σ',H',J,q⟩:=hs;exact fin (v:=V.non) (u:=Value.none) J rfl q
 |brk=>
  obtain⟨_,_,_,q⟩:=hs;exact False.elim q
 |cont=>
  obtain⟨_,_,_,q⟩:=hs;exact False.elim q
end L2
namespace L2
open PySem PySem.Spec PyProof.Rows
section
variable {X:Cx}{x:Str}{p pos:Pos}{e:Expr}{es:List Expr}{t:TA}{id T:String}{r:List V->Hp->VK->Prop}
noncomputable def tCB (r:List V->Hp->VK->Prop) (t:TA):TE:=λσ H Q=>t σ H λvs H1=>r vs H1 Q
theorem UP (hc:Yc X (.builtin id) r) (hg:Gl X x) (hm:X.mg x=none) (hv:bootBuiltins x=some (.builtin id)) (ha:PA X (e::es) t) (hn:x≠"__name__":=by decide) (hdb:(x == ("__debug__" : Str))=false:=by decide)
  (he:starEach (e::es) X.env=(false,eval e X.env)::starEach es X.env:=by rfl) (hpl:(backTo pos (starEach es X.env)).any (·.1)=false:=by rfl):PE X (.Call (.Name x p) (e::es) [] pos) (tCB r t):=by
 intro pins s σ H Q I h;refine wpAny_Call_Name_kw (W8 I hg hm hv ?_ hn hdb);exact PyProof.Rows.callWith_builtin1 (thn (ha pos pins s σ H _ I h) λus s1 ⟨vs,H1,I1,r1,q1⟩=>hc pins s1 σ H1 vs us Q I1 r1 q1) he hpl
theorem yK (hc:Yc X (.type T) r) (hg:Gl X x) (hm:X.mg x=none) (hv:bootBuiltins x=some (.type T)) (ha:PA X (e::es) t) (hn:x≠"__name__":=by decide) (hdb:(x == ("__debug__" : Str))=false:=by decide)
  (he:starEach (e::es) X.env=(false,eval e X.env)::starEach es X.env:=by rfl) (hpl:(backTo pos (starEach es X.env)).any (·.1)=false:=by rfl):PE X (.Call (.Name x p) (e::es) [] pos) (tCB r t):=by
 intro pins s σ H Q I h;refine wpAny_Call_Name_kw (W8 I hg hm hv ?_ hn hdb);exact PyProof.Rows.callWith_type1 (thn (ha pos pins s σ H _ I h) λus s1 ⟨vs,H1,I1,r1,q1⟩=>hc pins s1 σ H1 vs us Q I1 r1 q1) he hpl
end
end L2
namespace HT
open PySem PyProof.Rows
section
variable {prog:Program}{w:World}{A:Around}{E:Value->Shared->Prop}{s:Shared}
theorem uU {t b:Addr}{vs ws:List Value}{Q:Value->Shared->Prop}(ht:IsTup s.heap t vs.toArray) (hb:IsTup s.heap b ws.toArray) (hv:vs≠[])
  (h1:ws=[]->Q (.ref t) s) (h2:ws≠[]->Q (.ref s.heap.objs.size) { s with heap:=s.heap.push { cls:=.type "tuple",data:=.seq (vs++ws).toArray } })
  (hsz:vs.length+ws.length<=sizeLine):wpAny (model prog w) A (binaryOp .Add (.ref t) (.ref b)) Q E s:=by
 obtain⟨⟨cls,dd,data,sl⟩,ho,hc,n,hd⟩:=id ht;obtain⟨⟨cls2,dd2,data2,sl2⟩,ho2,hc2,n2,hd2⟩:=id hb;simp only at hc hd hc2 hd2;subst hc hd hc2 hd2;have e:vs.toArray++ws.toArray=(vs++ws).toArray:=by simp
 by_cases hw:ws=[]
 ·exact concat_meets ⟨_,ho,rfl⟩ ⟨_,ho2,rfl⟩ noFill_tuple_add seq_tuple_add PySem.F.slot_tuple_add PySem.F.entry_tuple_add (PySem.F.args_tuple_add_2 _ _)
   (tuple_addW1 t b vs.toArray ws.toArray n n2 dd dd2 sl sl2 (by simpa using hv) (by simp[hw])) ⟨ho,ho2,h1 hw⟩
 ·refine concat_meets ⟨_,ho,rfl⟩ ⟨_,ho2,rfl⟩ noFill_tuple_add seq_tuple_add PySem.F.slot_tuple_add PySem.F.entry_tuple_add (PySem.F.args_tuple_add_2 _ _)
   (tuple_addW2 t b vs.toArray ws.toArray n n2 dd dd2 sl sl2 (by simpa using hv) (by simpa using hw) (by rw[List.size_toArray,List.size_toArray];exact hsz)) ⟨ho,ho2,?_⟩
  rw[e];exact h2 hw
noncomputable def sIx (n d:Nat):Option Int->Nat
 |none=>d
 |some v=>if v<0 then (v+(n:Int)).toNat else min v.toNat n
theorem jn (n d:Nat) (hd:d<=n) (o:Option Int):sIx n d o<=n:=by
 cases o with
 |none=>exact hd
 |some v=>
  show (if v<0 then (v+(n:Int)).toNat else min v.toNat n)<=n
  by_cases hv:v<0
  ·rw[if_pos hv];omega
  ·rw[if_neg hv];exact Nat.min_le_right _ _
theorem z6 (v:Int) (n d:Nat):(if v<0 then max (v+(n:Int)) 0 else min v (n:Int))=((sIx n d (some v):Nat):Int):=by
 show (if v<0 then max (v+(n:Int)) 0 else min v (n:Int))=(((if v<0 then (v+(n:Int)).toNat else min v.toNat n):Nat):Int)
 by_cases hv:v<0
 ·simp only[if_pos hv];omega
 ·simp only[if_neg hv];omega
theorem zt (lo hi:Option Int) (n:Nat):Builtin.Slice.sliceAdjust lo hi 1 (n:Int)=(((sIx n 0 lo:Nat):Int),((sIx n n hi:Nat):Int)):=by
 have h1:¬((1:Int)<0):=by omega
 unfold Builtin.Slice.sliceAdjust;simp only[h1,if_false];refine Prod.ext ?_ ?_
 ·cases lo with
  |none=>rfl
  |some v=>exact z6 v n 0
 ·cases hi with
  |none=>rfl
  |some v=>exact z6 v n n
theorem G1 (i j:Nat):Builtin.Slice.slicePlaces (i:Int) (j:Int) 1=j-i:=by
 unfold Builtin.Slice.slicePlaces;have h1:(1:Int)>0:=by omega
 simp only[h1,if_true,Int.ediv_one];split <;> omega
theorem UT {v:Value}{o:Option Int}{Q:Option Int->Shared->Prop}(p:IsPart v o) (h:Q o s):wpAny (model prog w) A (Builtin.Slice.slicePartIndex v) Q E s:=by
 cases p with
 |none=>exact slicePart_none h
 |int i t=>exact slicePart_int h
theorem X1 {sl:Addr}{vl vu:Value}{lo hi:Option Int}{n:Nat}{Q:Int×Int×Nat->Shared->Prop}(hs:s.heap.IsSliceOf sl vl vu .none) (pl:IsPart vl lo) (pu:IsPart vu hi)
  (h:Q (((sIx n 0 lo:Nat):Int),1,sIx n n hi-sIx n 0 lo) s):wpAny (model prog w) A (Builtin.Slice.sliceApplied (.ref sl) (pure (n:Int))) Q E s:=by
 obtain⟨os,hos,hcs,hds⟩:=id hs;unfold Builtin.Slice.sliceApplied Builtin.Slice.sliceFields;refine wpAny_bind (wpAny_bind (wpAny_field hos hds (x:=vl) rfl (wpAny_bind (wpAny_field hos hds (x:=vu) rfl (wpAny_bind (wpAny_field hos hds (x:=.none) rfl (wpAny_pure ?_)))))));refine wpAny_bind (slicePart_none ?_);show wpAny _ _ (if ((1:Int) == 0)=true then _ else _) _ _ s
 rw[if_neg (by decide)]
 refine wpAny_bind (UT pl (wpAny_bind (UT pu (wpAny_bind (wpAny_pure ?_)))));show wpAny _ _ (match Builtin.Slice.sliceAdjust lo hi 1 (n:Int) with | (lo,hi)=>pure (lo,(1:Int),Builtin.Slice.slicePlaces lo hi 1)) _ _ s
 rw[zt lo hi n];show wpAny _ _ (pure (((sIx n 0 lo:Nat):Int),(1:Int),Builtin.Slice.slicePlaces ((sIx n 0 lo:Nat):Int) ((sIx n n hi:Nat):Int) 1)) _ _ s;rw[G1];exact wpAny_pure h
theorem xI (xs:Array Value) (i k:Nat):((List.range k).filterMap λ(m:Nat)=>xs[((i:Int)+(m:Int)*1).toNat]?).toArray=((xs.toList.drop i).take k).toArray:=by
 have e:(λ(m:Nat)=>xs[((i:Int)+(m:Int)*1).toNat]?)=λm=>xs[i+m]?:=by
  funext m
  have:((i:Int)+(m:Int)*1).toNat=i+m:=by omega
  rw[this]
 rw[e];have:=pick_run xs i k;rw[List.filterMap_map] at this;have e2:((λx=>xs[x]?)∘λx=>i+x)=λm=>xs[i+m]?:=rfl
 rw[e2] at this;rw[this]
theorem Vl {t sl:Addr}{items:Array Value}{vl vu:Value}{lo hi:Option Int}{Q:Value->Shared->Prop}(ht:IsTup s.heap t items) (hs:s.heap.IsSliceOf sl vl vu .none) (pl:IsPart vl lo) (pu:IsPart vu hi)
  (hw:¬(sIx items.size 0 lo=0/\sIx items.size items.size hi=items.size))
  (h:Q (.ref s.heap.objs.size) { s with heap:=s.heap.push { cls:=.type "tuple",data:=.seq ((items.toList.drop (sIx items.size 0 lo)).take (sIx items.size items.size hi-sIx items.size 0 lo)).toArray } })
  (hsz:items.size<=sizeLine):wpAny (model prog w) A (getItem (.ref t) (.ref sl)) Q E s:=by
 have htake:sizeOk (.seq ((items.toList.drop (sIx items.size 0 lo)).take (sIx items.size items.size hi-sIx items.size 0 lo)).toArray):=by
  show ((items.toList.drop (sIx items.size 0 lo)).take (sIx items.size items.size hi-sIx items.size 0 lo)).toArray.size<=sizeLine;rw[List.size_toArray,List.length_take,List.length_drop,Array.length_toList];omega
 have hj:sIx items.size items.size hi<=items.size:=jn _ _ (Nat.le_refl _) hi;obtain⟨os,hos,hcs,hds⟩:=id hs;have hTs:s.TypeIs (.ref sl) "slice":=⟨os,hos,hcs⟩;unfold getItem
 try with_reducible refine wpAny_holding ?_
 first | refine wpAny_bind (wpAny_pure ?_) | skip
 refine wpAny_bind (wpAny_sequenceKey ht.typeIs (by decide) ?_)
 refine wpAny_bind (wpAny_callSpecial?_slot (name:=Str.ofString "__getitem__") ht.typeIs PyProof.Rows.slot_tuple_getitem
  (wpAny_call_entry PyProof.Rows.slot_tuple_getitem ht.typeIs entry_tuple_getitem ?_ (args_tuple_getitem _ _)))
 show wpAny _ _ (Builtin.Tuple.tupleItemsOf (.ref t) >>= _) _ _ s;refine wpAny_bind (tupleItemsOf_ ht ?_);refine wpAny_bind (wpAny_typeOf hTs ?_);rw[if_pos (by decide)]
 refine wpAny_bind (X1 hs pl pu ?_);have hno:¬((((sIx items.size 0 lo:Nat):Int) == 0&&(1:Int) == 1&&(sIx items.size items.size hi-sIx items.size 0 lo) == items.size)=true):=by
  intro q;rw[Bool.and_eq_true,Bool.and_eq_true] at q;have q1:((sIx items.size 0 lo:Nat):Int)=0:=eq_of_beq q.1.1;have q2:sIx items.size items.size hi-sIx items.size 0 lo=items.size:=eq_of_beq q.2;exact hw ⟨by omega,by omega⟩
 show wpAny _ _ (if (((sIx items.size 0 lo:Nat):Int) == 0&&(1:Int) == 1&&(sIx items.size items.size hi-sIx items.size 0 lo) == items.size)=true then _ else _) _ _ s
 rw[if_neg hno,xI]
 first
  |exact wpAny_bind (m:=Builtin.Tuple.tupleExact _) (wpAny_newObj_type (wpAny_pure ⟨_,rfl,wpAny_pure h⟩) htake)
  |exact wpAny_bind (m:=Builtin.Tuple.tupleExact _) (wpAny_newObj_type (wpAny_bind (wpAny_pure (wpAny_pure ⟨_,rfl,wpAny_pure h⟩))) htake)
  |exact wpAny_bind (wpAny_bind (m:=Builtin.Tuple.tupleExact _) (wpAny_newObj_type (wpAny_pure (wpAny_pure ⟨_,rfl,wpAny_pure h⟩)) htake))
  |exact wpAny_bind (wpAny_bind (m:=Builtin.Tuple.tupleExact _) (wpAny_newObj_type (wpAny_pure ⟨_,rfl,wpAny_pure h⟩) htake))
end
end HT
namespace L2
open PySem PySem.Spec PyProof.Rows
noncomputable abbrev TO:=St->Hp->(Option Int->Hp->Prop)->Prop
noncomputable def PO (X:Cx) (e:Option Expr) (t:TO):Prop:=
 ∀(pins:List (Addr×Obj)) (s:Shared) (σ:St) (H:Hp) (Q:Option Int->Hp->Prop),Inv X pins σ H s->t σ H Q->
  wpAny (model X.prog X.w) X.A (evalPart e X.env) (λu s'=>∃o H',Inv X pins σ H' s'/\IsPart u o/\Q o H') X.xe s
noncomputable def ua:TO:=λ_ H Q=>Q none H
noncomputable def jV (t:TE):TO:=λσ H Q=>t σ H λx H1=>∃i,x=.int i/\Q (some i) H1
section
variable {X:Cx}{e:Expr}{te:TE}{lo hi:Option Expr}{tl th:TO}{pos p2:Pos}
theorem uL:PO X none ua:=by
 intro pins s σ H Q I h;rw[evalPart_none];exact wpAny_pure ⟨none,H,I,.none,h⟩
theorem Zi (h:PE X e te):PO X (some e) (jV te):=by
 intro pins s σ H Q I hw;rw[evalPart_some];refine thn (h pins s σ H _ I hw) λu s1 ⟨x,H1,I1,r1,q1⟩=>?_
 obtain⟨i,rfl,q⟩:=q1;obtain⟨t,rfl⟩:=r1;exact⟨some i,H1,I1,.int i t,q⟩
noncomputable def SlR (X:Cx) (r:V->Option Int->Option Int->Hp->VK->Prop):Prop:=
 ∀(pins:List (Addr×Obj)) (s:Shared) (σ:St) (H:Hp) (x:V) (v vl vu:Value) (lo hi:Option Int) (sl:Addr) (Q:VK),Inv X pins σ H s->Z2 x v->s.heap.IsSliceOf sl vl vu .none->IsPart vl lo->IsPart vu hi->r x lo hi H Q->
  ∃T id,typeLookup (.type T) "__getitem__" = pure (some (.builtin id))/\s.TypeIs v T/\wpAny (model X.prog X.w) X.A (getItem v (.ref sl)) (EP X pins σ Q) X.xe s
theorem SlR.or {r r':V->Option Int->Option Int->Hp->VK->Prop}(h:SlR X r) (h':SlR X r'):SlR X (λx lo hi H Q=>r x lo hi H Q\/r' x lo hi H Q):=by
 intro pins s σ H x v vl vu lo hi sl Q I rx hs pl pu q;rcases q with q | q
 ·exact h pins s σ H x v vl vu lo hi sl Q I rx hs pl pu q
 ·exact h' pins s σ H x v vl vu lo hi sl Q I rx hs pl pu q
noncomputable def tSl (r:V->Option Int->Option Int->Hp->VK->Prop) (te:TE) (tl th:TO):TE:=λσ H Q=>te σ H λx H1=>tl σ H1 λl H2=>th σ H2 λu H3=>r x l u H3 Q
theorem wf {r:V->Option Int->Option Int->Hp->VK->Prop}(hr:SlR X r) (he:PE X e te) (hl:PO X lo tl) (hu:PO X hi th):PE X (.Subscript e (.Slice lo hi none p2) pos) (tSl r te tl th):=by
 intro pins s σ H Q I h;refine Subscript_ (thn (he pins s σ H _ I h) λv s1 ⟨x,H1,I1,r1,q1⟩=>?_)
 refine wpAny_Slice (thn (hl pins s1 σ H1 _ I1 q1) λvl s2 ⟨l,H2,I2,pl,q2⟩=>thn (hu pins s2 σ H2 _ I2 q2) λvu s3 ⟨u,H3,I3,pu,q3⟩=>?_)
 rw[evalPart_none];refine wpAny_pure ?_;have I4:Inv X pins σ H3 { s3 with heap:=s3.heap.push { cls:=.type "slice",data:=.fields #[vl,vu,.none] } }:=I3.kept (t':=s3.toks) λb ob q=>Heap.get?_push_of_some _ q
 obtain⟨T,id,hT,ht,hg⟩:=hr pins { s3 with heap:=s3.heap.push { cls:=.type "slice",data:=.fields #[vl,vu,.none] } } σ H3 x v vl vu l u s3.heap.objs.size Q I4 r1 (Heap.IsSliceOf.new ..) pl pu q3
 show wpAny (model X.prog X.w) X.A (subscriptTail e (.Slice lo hi none p2) v (.ref s3.heap.objs.size)) (EP X pins σ Q) X.xe { s3 with heap:=s3.heap.push { cls:=.type "slice",data:=.fields #[vl,vu,.none] } }
 exact tail_any (ops:=[.ref s3.heap.objs.size,v]) ht hT hg (by with_unfolding_all rfl)
noncomputable def Wm (xs:List V) (lo hi:Option Int):List V:=(xs.drop (HT.sIx xs.length 0 lo)).take (HT.sIx xs.length xs.length hi-HT.sIx xs.length 0 lo)
theorem Uh (xs:List V) (lo hi:Option Int):(Wm xs lo hi).length<=xs.length:=by
 unfold Wm;rw[List.length_take,List.length_drop];omega
noncomputable def ZaD (K:PySem.W.Frag):V->Option Int->Option Int->Hp->VK->Prop:=λx lo hi H Q=>∃a xs,x=.ref a/\SqT K H a xs/\
 ¬(HT.sIx xs.length 0 lo=0/\HT.sIx xs.length xs.length hi=xs.length)/\∀p,H p=none->Q (.ref p) (upd H p (.tup (Wm xs lo hi)))
theorem qQ:SlR X (ZaD X.K):=by
 intro pins s σ H x v vl vu lo hi sl Q I rx hs pl pu h;obtain⟨a,xs,rfl,hx,hw,q⟩:=h;cases rx;obtain⟨its,r,ht,hz⟩:=I.tuple hx;have hlen:its.toArray.size=xs.length:=by rw[List.size_toArray];exact r.length.symm
 refine⟨"tuple",_,PyProof.Rows.slot_tuple_getitem.lookup,ht.typeIs,?_⟩;refine HT.Vl ht hs pl pu (by rw[hlen];exact hw) ?_ (by rw[hlen];exact hz)
 rw[hlen];refine⟨.ref s.heap.objs.size,_,I.laid (t':=s.toks) (o:=.tup (Wm xs lo hi)) (λb ob q=>Heap.get?_push_of_some _ q) (Nat.le_refl _) ?_,rfl,q _ (I.hok.fresh (Nat.le_refl _))⟩
 exact⟨Nat.le_trans (Uh xs lo hi) hz,_,(r.drop (HT.sIx xs.length 0 lo)).take (HT.sIx xs.length xs.length hi-HT.sIx xs.length 0 lo),IsTup.new _ _⟩
noncomputable def u8 (K:PySem.W.Frag):R2:=λx y H Q=>∃a b xs ys,x=.ref a/\y=.ref b/\SqT K H a xs/\SqT K H b ys/\xs≠[]/\xs.length+ys.length<=sizeLine/\
 (ys=[]->Q (.ref a) H)/\(ys≠[]->∀p,H p=none->Q (.ref p) (upd H p (.tup (xs++ys))))
theorem Vals.nil_iff {xs:List V}{us:List Value}(r:Vals xs us):us=[]↔xs=[]:=by
 cases r with
 |nil=>simp
 |cons _ _=>simp
theorem uI:OpR X (binaryOp .Add) (u8 X.K):=by
 intro pins s σ H x y v u Q I rx ry h;obtain⟨a,b,xs,ys,rfl,rfl,ha,hb,hx,hz,q1,q2⟩:=h;cases rx;cases ry;obtain⟨its,r1,p1,_⟩:=I.tuple ha;obtain⟨its2,r2,p2,_⟩:=I.tuple hb;refine HT.uU p1 p2 (λz=>hx (r1.nil_iff.mp z)) (λz=>⟨.ref a,H,I,rfl,q1 (r2.nil_iff.mp z)⟩) (λz=>?_) (by rw[<-r1.length,<-r2.length];exact hz)
 refine⟨.ref s.heap.objs.size,_,I.laid (t':=s.toks) (o:=.tup (xs++ys)) (λb ob q=>Heap.get?_push_of_some _ q) (Nat.le_refl _) ?_,rfl,q2 (λw=>z (r2.nil_iff.mpr w)) _ (I.hok.fresh (Nat.le_refl _))⟩
 exact⟨by rw[List.length_append];exact hz,_,r1.append r2,IsTup.new _ _⟩
end
end L2
namespace L2
open PySem PySem.Spec PyProof.Rows
noncomputable def ixN (n:Nat) (i:Int):Option Nat:=if 0<=i then (if i<n then some i.toNat else none) else if -(n:Int)<=i then some (i+n).toNat else none
noncomputable def atI {α:Type} (xs:List α) (i:Int):Option α:=(ixN xs.length i).bind λj=>xs[j]?
theorem zR {n:Nat}{i:Int}{j:Nat}(h:ixN n i=some j):seqIndex? i n=some j/\j<n/\-(n:Int)<=i/\i<n:=by
 unfold ixN at h;by_cases h0:0<=i
 ·rw[if_pos h0] at h
  by_cases h1:i<n
  ·rw[if_pos h1] at h
   have e:i.toNat=j:=Option.some.inj h;exact⟨by rw[seqIndex_of h0 h1,e],by omega,by omega,h1⟩
  ·rw[if_neg h1] at h;cases h
 ·rw[if_neg h0] at h
  by_cases h1:-(n:Int)<=i
  ·rw[if_pos h1] at h
   have e:(i+n).toNat=j:=Option.some.inj h;exact⟨by rw[seqIndex_neg (by omega) h1,e],by omega,h1,by omega⟩
  ·rw[if_neg h1] at h;cases h
theorem zQ {α:Type}{xs:List α}{i:Int}{v:α}(h:atI xs i=some v):∃j,seqIndex? i xs.length=some j/\xs[j]? = some v/\j<xs.length/\-(xs.length:Int)<=i/\i<xs.length:=by
 unfold atI at h;cases e:ixN xs.length i with
 |none=>rw[e] at h;cases h
 |some j=>
  rw[e] at h;obtain⟨h1,h2,h3,h4⟩:=zR e;exact⟨j,h1,h,h2,h3,h4⟩
noncomputable def JP (b:Expr):Prop:=∀o i,subscripted b false o i=operate [o,i] (getItem o i)
noncomputable def IxR (X:Cx) (r:R2):Prop:=
 ∀(value slice:Expr) (pins:List (Addr×Obj)) (s:Shared) (σ:St) (H:Hp) (x y:V) (v u:Value) (Q:VK),Inv X pins σ H s->Z2 x v->Z2 y u->r x y H Q->
  subscripted slice false v u=operate [v,u] (getItem v u)->wpAny (model X.prog X.w) X.A (subscriptTail value slice v u) (EP X pins σ Q) X.xe s
section
variable {X:Cx}{a b:Expr}{ta tb:TE}{pos:Pos}
theorem IxR.or {r r':R2}(h:IxR X r) (h':IxR X r'):IxR X (λx y H Q=>r x y H Q\/r' x y H Q):=by
 intro value slice pins s σ H x y v u Q I rx ry q hs;rcases q with q | q
 ·exact h value slice pins s σ H x y v u Q I rx ry q hs
 ·exact h' value slice pins s σ H x y v u Q I rx ry q hs
theorem Zag {r:R2}(hr:IxR X r) (ha:PE X a ta) (hb:PE X b tb) (hs:JP b):PE X (.Subscript a b pos) (tOp r ta tb):=by
 intro pins s σ H Q I h;exact Subscript_ (qR ha hb I h λv u s2 x y H2 I2 rx ry q=>hr a b pins s2 σ H2 x y v u Q I2 rx ry q (hs _ _))
noncomputable def ZaP (K:PySem.W.Frag):R2:=λx y H Q=>∃p xs i v,x=.ref p/\y=.int i/\SqL K H p xs/\atI xs i=some v/\Q v H
noncomputable def Za6 (K:PySem.W.Frag):R2:=λx y H Q=>∃p xs i v,x=.ref p/\y=.int i/\SqT K H p xs/\atI xs i=some v/\Q v H
theorem uK:IxR X (ZaP X.K):=by
 intro value slice pins s σ H x y v u Q I rx ry h hs;obtain⟨p,xs,i,z,rfl,rfl,hq,he,q⟩:=h;cases rx;obtain⟨t,rfl⟩:=ry;obtain⟨its,r,pl,hz⟩:=I.list hq;obtain⟨j,h1,h2,h3,h4,h5⟩:=zQ he;obtain⟨w,ew,rw'⟩:=r.get h2;have hl:=r.length;have hn:=line63;have fin:EP X pins σ Q w s:=⟨z,H,I,rw',q⟩;by_cases h0:0<=i
 ·have hj:i.toNat=j:=by
   rw[seqIndex_of h0 h5] at h1;exact Option.some.inj h1
  exact item_listR pl.isList h0 (by omega) (by rw[hj];simpa using ew) fin hs
 ·have hj:(i+(its.toArray.size:Int)).toNat=j:=by
   rw[seqIndex_neg (by omega) h4] at h1
   rw[List.size_toArray,<-hl];exact Option.some.inj h1
  exact subscriptTail_builtinR (x:=w) pl.isList.typeIs slot_list_getitem.lookup
   (wpAny_getItem_list_neg (Q:=λr s'=>r=w/\EP X pins σ Q r s') pl.isList (by omega) (by rw[List.size_toArray] <;> omega) (by omega) (by rw[hj];simpa using ew) ⟨rfl,fin⟩) hs
theorem qB:IxR X (Za6 X.K):=by
 intro value slice pins s σ H x y v u Q I rx ry h hs;obtain⟨p,xs,i,z,rfl,rfl,hq,he,q⟩:=h;cases rx;obtain⟨t,rfl⟩:=ry;obtain⟨its,r,pl,hz⟩:=I.tuple hq;obtain⟨j,h1,h2,h3,h4,h5⟩:=zQ he;obtain⟨w,ew,rw'⟩:=r.get h2;have hl:=r.length;have hn:=line63;have fin:EP X pins σ Q w s:=⟨z,H,I,rw',q⟩;exact subscriptTail_builtinR (x:=w) pl.typeIs slot_tuple_getitem.lookup
  (getItem_tuple (j:=j) (Q:=λr s'=>r=w/\EP X pins σ Q r s') pl (by omega) (by omega) (by rw[List.size_toArray,<-hl];exact h1) (by simpa using ew) ⟨rfl,fin⟩) hs
theorem zf (its:List Value) (n j:Nat) (u:Value):Obj.mapSeq (·.setIfInBounds j u) { cls:=.type "list",data:=.seq its.toArray n }={ cls:=.type "list",data:=.seq (its.set j u).toArray n }:=by
 simp[Obj.mapSeq]
theorem Inv.lst {pins:List (Addr×Obj)}{σ:St}{H:Hp}{s:Shared}{p:Addr}{xs:List V}(I:Inv X pins σ H s) (h:H p=some (.lst xs)) :
  ∃(its:List Value) (n:Nat),Vals xs its/\s.heap.get? p=some { cls:=.type "list",data:=.seq its.toArray n }/\xs.length<=sizeLine:=by
 obtain⟨z,its,n,r,e⟩:=I.hok p _ h;exact⟨its,n,r,e,z⟩
theorem Inv.lstUpd {pins:List (Addr×Obj)}{σ:St}{H:Hp}{s:Shared}{p:Addr}{xs ys:List V}{its its':List Value}{n n':Nat}{f:Obj->Obj}(I:Inv X pins σ H s) (h:H p=some (.lst xs))
  (ho:s.heap.get? p=some { cls:=.type "list",data:=.seq its.toArray n }) (hf:f { cls:=.type "list",data:=.seq its.toArray n }={ cls:=.type "list",data:=.seq its'.toArray n' }) (r:Vals ys its') (hz:ys.length<=sizeLine) (t:Nat) :
  Inv X pins σ (upd H p (.lst ys)) { s with heap:=s.heap.update p f,toks:=t }:=by
 have e:(s.heap.update p f).get? p=some { cls:=.type "list",data:=.seq its'.toArray n' }:=by
  rw[Heap.get?_update_self f ho (by rw[hf] <;> rfl),hf]
 refine I.write (x:=p) (e:=p) (by rw[h];trivial) (.inl rfl) (λb u hb q=>(Heap.get?_update_other _ _ (Ne.symm hb)).trans q) ⟨_,e⟩ ?_
 exact⟨hz,its',n',r,e⟩
noncomputable def jR:V->V->V->Hp->(Hp->Prop)->Prop:=λo i v H Q=>∃p xs k j,o=.ref p/\i=.int k/\H p=some (.lst xs)/\ixN xs.length k=some j/\Q (upd H p (.lst (xs.set j v)))
theorem wy:PSet X jR:=by
 intro pins s σ H o i v ov iv u Q I ro ri rv h;obtain⟨p,xs,k,j,rfl,rfl,hp,hj,q⟩:=h;cases ro;obtain⟨t,rfl⟩:=ri;obtain⟨its,n,r,ho,hz⟩:=I.lst hp;obtain⟨h1,h2,h3,h4⟩:=zR hj;have hl:=r.length;have hn:=line63;have I':Inv X pins σ (upd H p (.lst (xs.set j v))) { s with heap:=s.heap.update p (Obj.mapSeq (·.setIfInBounds j u)) }:=
  I.lstUpd hp ho (zf its n j u) (r.set rv j) (by rw[List.length_set];exact hz) s.toks
 by_cases h0:0<=k
 ·have hk:k.toNat=j:=by
   rw[seqIndex_of h0 h4] at h1;exact Option.some.inj h1
  exact PySem.W.ki_setAt ho h0 (by omega) (by rw[List.size_toArray,<-hl];exact h4) (by rw[hk];exact⟨_,I',q⟩)
 ·have hk:(k+(its.toArray.size:Int)).toNat=j:=by
   rw[seqIndex_neg (by omega) h3] at h1
   rw[List.size_toArray,<-hl];exact Option.some.inj h1
  exact PySem.W.ki_setBack ho (by omega) (by rw[List.size_toArray,<-hl];exact h3) (by omega) (by rw[hk];exact⟨_,I',q⟩)
theorem Jl (lo hi:Option Int) (n:Nat):(sliceBounds lo hi none n).1=((HT.sIx n 0 lo:Nat):Int)/\(sliceBounds lo hi none n).2.1=((HT.sIx n n hi:Nat):Int)/\(sliceBounds lo hi none n).2.2=1:=by
 refine⟨?_,?_,rfl⟩
 ·cases lo with
  |none=>simp[sliceBounds,HT.sIx]
  |some i=>
   simp only[sliceBounds,HT.sIx,Option.getD_none,show (1:Int)>0 by decide,if_true]
   by_cases h:i<0
   ·simp only[h,if_true] <;> omega
   ·simp only[h,if_false] <;> omega
 ·cases hi with
  |none=>simp[sliceBounds,HT.sIx]
  |some i=>
   simp only[sliceBounds,HT.sIx,Option.getD_none,show (1:Int)>0 by decide,if_true]
   by_cases h:i<0
   ·simp only[h,if_true] <;> omega
   ·simp only[h,if_false] <;> omega
theorem Qw (its:List Value) (lo hi:Option Int):slicePick its.toArray lo hi none=((its.drop (HT.sIx its.length 0 lo)).take (HT.sIx its.length its.length hi-HT.sIx its.length 0 lo)).toArray:=by
 obtain⟨h1,h2,h3⟩:=Jl lo hi its.toArray.size;unfold slicePick;rw[h1,h2,h3];simp only[sliceRange_one,pick_run,List.size_toArray] <;> rfl
noncomputable def Za0 (K:PySem.W.Frag):V->Option Int->Option Int->Hp->VK->Prop:=λx lo hi H Q=>∃a xs,x=.ref a/\SqL K H a xs/\∀p,H p=none->Q (.ref p) (upd H p (.lst (Wm xs lo hi)))
theorem uw:SlR X (Za0 X.K):=by
 intro pins s σ H x v vl vu lo hi sl Q I rx hs pl pu h;obtain⟨a,xs,rfl,hx,q⟩:=h;cases rx;obtain⟨its,r,ht,hz⟩:=I.list hx;have hlen:=r.length;refine⟨"list",_,slot_list_getitem.lookup,ht.isList.typeIs,?_⟩;refine wpAny_getItem_list_slice ht.isList hs pl pu .none (by simp) ?_ (by rw[List.size_toArray] <;> omega)
 rw[Qw,<-hlen];refine⟨.ref s.heap.objs.size,_,I.laid (t':=s.toks) (o:=.lst (Wm xs lo hi)) (λb ob q=>Heap.get?_push_of_some _ q) (Nat.le_refl _) ?_,rfl,q _ (I.hok.fresh (Nat.le_refl _))⟩
 exact⟨Nat.le_trans (Uh xs lo hi) hz,_,0,(r.drop (HT.sIx xs.length 0 lo)).take (HT.sIx xs.length xs.length hi-HT.sIx xs.length 0 lo),Heap.get?_push_size _ rfl⟩
noncomputable def zK:V->Bool
 |.non=>true
 |.bl _=>true
 |.int _=>true
 |.str _=>true
 |_=>false
noncomputable def eqV:V->V->Bool
 |.non,.non=>true
 |.bl a,.bl b=>a == b
 |.bl a,.int b=>(if a then 1 else 0) == b
 |.int a,.bl b=>a == (if b then 1 else 0)
 |.int a,.int b=>a == b
 |.str a,.str b=>a == b
 |_,_=>false
theorem qA {A:Around}{s:Shared}{y x:V}{u v:Value}(ry:Z2 y u) (rx:Z2 x v) (fy:zK y=true) (fx:zK x=true):SeqAt.EqAt A s u v (eqV y x):=by
 cases y with
 |non=>
  cases ry;cases x with
  |non=>cases rx;exact SeqAt.EqAt.same _
  |bl b=>cases rx;exact SeqAt.EqAt.none_bool b
  |int b=>obtain⟨t,rfl⟩:=rx;exact SeqAt.EqAt.none_int b t
  |str b=>obtain⟨t,rfl⟩:=rx;exact SeqAt.EqAt.none_str b t
  |_=>exact absurd (show false=true from fx) Bool.false_ne_true
 |bl a=>
  cases ry;cases x with
  |non=>cases rx;exact SeqAt.EqAt.bool_none a
  |bl b=>cases rx;exact SeqAt.EqAt.bool_bool a b
  |int b=>obtain⟨t,rfl⟩:=rx;exact SeqAt.EqAt.bool_int a b t
  |str b=>obtain⟨t,rfl⟩:=rx;exact SeqAt.EqAt.bool_str a b t
  |_=>exact absurd (show false=true from fx) Bool.false_ne_true
 |int a=>
  obtain⟨t',rfl⟩:=ry;cases x with
  |non=>cases rx;exact SeqAt.EqAt.int_none a t'
  |bl b=>cases rx;exact SeqAt.EqAt.int_bool a t' b
  |int b=>obtain⟨t,rfl⟩:=rx;exact SeqAt.EqAt.int_int a t' b t
  |str b=>obtain⟨t,rfl⟩:=rx;exact SeqAt.EqAt.int_str a t' b t
  |_=>exact absurd (show false=true from fx) Bool.false_ne_true
 |str a=>
  obtain⟨t',rfl⟩:=ry;cases x with
  |non=>cases rx;exact SeqAt.EqAt.str_none a t'
  |bl b=>cases rx;exact SeqAt.EqAt.str_bool a t' b
  |int b=>obtain⟨t,rfl⟩:=rx;exact SeqAt.EqAt.str_int a t' b t
  |str b=>obtain⟨t,rfl⟩:=rx;exact SeqAt.EqAt.str_str a t' b t
  |_=>exact absurd (show false=true from fx) Bool.false_ne_true
 |_=>exact absurd (show false=true from fy) Bool.false_ne_true
theorem Jr:Yc X (.builtin "len") (λxs H Q=>∃p ys,xs=[.ref p]/\(SqL X.K H p ys\/SqT X.K H p ys)/\Q (.int ys.length) H):=by
 intro pins s σ H xs us Q I r h;obtain⟨p,ys,rfl,hq,q⟩:=h;obtain⟨u,rfl,rx⟩:=vals1 r;cases rx;have hn:=line63;rcases hq with hq | hq
 ·obtain⟨its,r',pl,hz⟩:=I.list hq
  have hlen:=r'.length;exact Calls.call_len_list pl.isList (by simp only[List.size_toArray] <;> omega) ⟨.int ys.length,H,I.tok _,⟨s.toks+1,by rw[List.size_toArray,hlen]⟩,q⟩
 ·obtain⟨its,r',pl,hz⟩:=I.tuple hq
  have hlen:=r'.length;exact len_tuple pl (by simp only[List.size_toArray] <;> omega) ⟨.int ys.length,H,I.tok _,⟨s.toks+1,by rw[List.size_toArray,hlen]⟩,q⟩
theorem JI:Yc X (.type "list") (λxs H Q=>∃p ys,xs=[.ref p]/\(SqL X.K H p ys\/SqT X.K H p ys)/\∀l,H l=none->Q (.ref l) (upd H l (.lst ys))):=by
 intro pins s σ H xs us Q I r h;obtain⟨p,ys,rfl,hq,q⟩:=h;obtain⟨u,rfl,rx⟩:=vals1 r;cases rx;have fin:∀(its:List Value),Vals ys its->ys.length<=sizeLine->∀(h':Heap) (c':Nat),(∀b o',s.heap.get? b=some o'->h'.get? b=some o')->
   h'.get? s.heap.objs.size=some { cls:=.type "list",dict:=none,data:=.seq its.toArray c',slots:=#[] }->EP X pins σ Q (.ref s.heap.objs.size) { s with heap:=h' }:=λits r' hz h' c' kp e=>
  ⟨.ref s.heap.objs.size,_,I.laid (t':=s.toks) kp (Nat.le_refl _) (show Yi X.prog X.w _ h' _ (.lst ys) from ⟨hz,its,c',r',e⟩),rfl,q _ (I.hok.fresh (Nat.le_refl _))⟩
 rcases hq with hq | hq
 ·obtain⟨its,r',pl,hz⟩:=I.list hq
  have hlen:=r'.length;obtain⟨o,ho,hc,n,hd⟩:=pl.isList;exact call_list_seq p (.inl rfl) ho hc hd (λh' c' kp e=>fin its r' hz h' c' kp e) (by simp only[List.size_toArray] <;> omega)
 ·obtain⟨its,r',pl,hz⟩:=I.tuple hq
  have hlen:=r'.length;obtain⟨o,ho,hc,n,hd⟩:=pl;exact call_list_seq p (.inr rfl) ho hc hd (λh' c' kp e=>fin its r' hz h' c' kp e) (by simp only[List.size_toArray] <;> omega)
theorem Qv:Yc X (.type "tuple") (λxs H Q=>∃p ys,xs=[.ref p]/\((SqL X.K H p ys/\∀l,H l=none->Q (.ref l) (upd H l (.tup ys)))\/(SqT X.K H p ys/\Q (.ref p) H))):=by
 intro pins s σ H xs us Q I r h;obtain⟨p,ys,rfl,h⟩:=h;obtain⟨u,rfl,rx⟩:=vals1 r;cases rx;rcases h with ⟨hq,q⟩ | ⟨hq,q⟩
 ·obtain⟨its,r',pl,hz⟩:=I.list hq
  have hlen:=r'.length;refine call_tuple_list pl.isList (λh' kp=>?_) (by simp only[List.size_toArray] <;> omega)
  have I1:Inv X pins σ H { s with heap:=h' }:=I.kept (t':=s.toks) kp
  have I2:Inv X pins σ (upd H h'.objs.size (.tup ys)) { s with heap:=h'.push { cls:=.type "tuple",data:=.seq its.toArray } }:=
   I1.laid (t':=s.toks) (λb o e=>Heap.get?_push_of_some _ e) (Nat.le_refl _) (show Yi X.prog X.w _ _ _ (.tup ys) from ⟨hz,its,r',IsTup.new _ _⟩)
  exact⟨.ref h'.objs.size,_,I2,rfl,q _ (I1.hok.fresh (Nat.le_refl _))⟩
 ·obtain⟨its,r',pl,hz⟩:=I.tuple hq
  exact call_tuple_same pl ⟨.ref p,H,I,rfl,q⟩
variable {o e:Expr}{es:List Expr}{to:TE}{t:TA}{name:Str}{apos cpos:Pos}{T id:String}{r:V->List V->Hp->VK->Prop}
end
end L2
namespace L2
open PySem PySem.Spec PyProof.Rows
noncomputable def MtM (X:Cx) (id:String) (r:V->List V->Hp->VK->Prop):Prop:=
 ∀(pins:List (Addr×Obj)) (s:Shared) (σ:St) (H:Hp) (x:V) (xs:List V) (v:Value) (us:List Value) (Q:VK),Inv X pins σ H s->Z2 x v->Vals xs us->r x xs H Q->
  wpAny (model X.prog X.w) X.A (call (.builtin id) (v::us)) (EP X pins σ Q) X.xe s
theorem Vals.one:∀{x:V}{us:List Value},Vals [x] us->∃u,us=[u]/\Z2 x u
 |_,_,.cons r .nil=>⟨_,rfl,r⟩
theorem Vals.rep {xs:List V}{us:List Value}(h:Vals xs us):∀k:Nat,Vals (List.replicate k xs).flatten (List.replicate k us).flatten
 |0=>.nil
 |k+1=>by
  rw[List.replicate_succ,List.replicate_succ,List.flatten_cons,List.flatten_cons];exact Vals.append h (Vals.rep h k)
theorem Ua (its:List Value):∀(k:Nat) (acc:List Value),
  List.foldl (λx1 x2=>x1++x2) acc.toArray (List.replicate k its.toArray)=(acc++(List.replicate k its).flatten).toArray
 |0,acc=>by simp
 |k+1,acc=>by
  have e:acc.toArray++its.toArray=(acc++its).toArray:=by simp
  have e2:(acc++its)++(List.replicate k its).flatten=acc++(List.replicate (k+1) its).flatten:=by
   rw[List.replicate_succ,List.flatten_cons,List.append_assoc]
  rw[<-e2,<-Ua its k (acc++its),<-e,List.replicate_succ,List.foldl_cons]
section
variable {X:Cx}{pins:List (Addr×Obj)}{σ:St}{H:Hp}{s:Shared}{l b:Addr}{xs ys zs:List V}
theorem Inv.lset {its its':List Value}{n:Nat}{f:Array Value->Array Value}{t':Nat}(I:Inv X pins σ H s) (hH:H l=some (.lst xs))
  (e:s.heap.get? l=some { cls:=.type "list",data:=.seq its.toArray n }) (hf:f its.toArray=its'.toArray) (hv:Vals ys its') (hz:ys.length<=sizeLine) :
  Inv X pins σ (upd H l (.lst ys)) { s with heap:=s.heap.update l (Obj.mapSeq f),toks:=t' }:=by
 have q:=PySem.IsL.update e f;rw[hf] at q;refine I.write (x:=l) (e:=l) (by rw[hH];exact trivial) (.inl rfl) (λb' u hb hu=>(Heap.get?_update_other s.heap (Obj.mapSeq f) (Ne.symm hb)).trans hu) ⟨_,q⟩ ?_
 exact⟨hz,its',_,hv,q⟩
theorem Inv.lnew {its:List Value}{t':Nat}(I:Inv X pins σ H s) (hv:Vals ys its) (hz:ys.length<=sizeLine) :
  Inv X pins σ (upd H s.heap.objs.size (.lst ys)) { s with heap:=s.heap.push { cls:=.type "list",data:=.seq its.toArray },toks:=t' }:=
 I.laid (λ_ _ q=>Heap.get?_push_of_some _ q) (Nat.le_refl _) ⟨hz,its,0,hv,Heap.get?_push_size _ rfl⟩
theorem Inv.fresh (I:Inv X pins σ H s):H s.heap.objs.size=none:=I.hok.fresh (Nat.le_refl _)
theorem Inv.lstM (I:Inv X pins σ H s) (hH:H l=some (.lst xs)):xs.length<=sizeLine/\∃(its:List Value) (n:Nat),Vals xs its/\xs.length=its.length/\s.heap.get? l=some { cls:=.type "list",data:=.seq its.toArray n }:=by
 obtain⟨z,its,n,r,e⟩:=I.hok l _ hH;exact⟨z,its,n,r,r.length,e⟩
theorem Zax {n:Nat}(h:n<=sizeLine):Builtin.List.listTooLong n=false:=by
 unfold Builtin.List.listTooLong;exact decide_eq_false (by omega)
end
section
variable {X:Cx}
noncomputable def uh:V->List V->Hp->VK->Prop:=λx vs H Q=>∃l xs y,x=.ref l/\vs=[y]/\H l=some (.lst xs)/\xs.length<sizeLine/\Q .non (upd H l (.lst (xs++[y])))
theorem xm:MtM X "list.append" uh:=by
 intro pins s σ H x vs v us Q I rx rv h;obtain⟨l,xs,y,rfl,rfl,hH,hz,q⟩:=h;cases rx;obtain⟨u,rfl,ru⟩:=rv.one;obtain⟨z,its,n,r,hl,e⟩:=I.lstM hH;refine call_meets F.slot_list_append ⟨_,e,rfl⟩ F.entry_list_append (F.args_list_append_2 _ _) (PySem.list_append l its.toArray n u (by rw[List.size_toArray];omega)) ⟨e,?_⟩
 refine⟨.non,_,I.lset (its':=its++[u]) hH e (by simp) (r.append (.cons ru .nil)) ?_,rfl,q⟩
 rw[List.length_append,List.length_singleton];omega
noncomputable def ZaA:V->List V->Hp->VK->Prop:=λx vs H Q=>∃l b xs zs,x=.ref l/\vs=[.ref b]/\H l=some (.lst xs)/\H b=some (.lst zs)/\xs.length+zs.length<=sizeLine/\Q .non (upd H l (.lst (xs++zs)))
noncomputable def j6:R2:=λx y H Q=>∃l b xs zs,x=.ref l/\y=.ref b/\H l=some (.lst xs)/\H b=some (.lst zs)/\xs.length+zs.length<=sizeLine/\∀p,H p=none->Q (.ref p) (upd H p (.lst (xs++zs)))
theorem je:OpR X (binaryOp .Add) j6:=by
 intro pins s σ H x y v u Q I rx ry h;obtain⟨l,b,xs,zs,rfl,rfl,hH,hB,hz,q⟩:=h;cases rx;cases ry;obtain⟨z,its,n,r,hl,e⟩:=I.lstM hH;obtain⟨z2,its2,n2,r2,hl2,e2⟩:=I.lstM hB;refine PySem.P.add_list e e2 ?_ (by rw[List.size_toArray,List.size_toArray];omega)
 have ea:its.toArray++its2.toArray=(its++its2).toArray:=by simp
 rw[ea];exact⟨.ref _,_,I.lnew (t':=s.toks) (r.append r2) (by rw[List.length_append];omega),rfl,q _ I.fresh⟩
theorem Jd {α:Type}(xs:List α) (k:Nat):(List.replicate k xs).flatten.length=k*xs.length:=by
 induction k with
 |zero=>simp
 |succ k ih=>rw[List.replicate_succ,List.flatten_cons,List.length_append,ih,Nat.succ_mul,Nat.add_comm]
end
end L2
namespace Att
open PySem PySem.W PySem.Calls PyProof.Rows
theorem Uo {P:Params}{h:Heap}:∀(ns:List Int) (vs:List Value),WellAll P h vs (ns.map WData.int)->IntsAre vs ns:=by
 intro ns
 induction ns with
 |nil=>
  intro vs w;rw[List.map_nil] at w;cases w;exact .nil
 |cons n ns ih=>
  intro vs w;rw[List.map_cons] at w;cases w with
  |cons a b=>
   cases a;exact .cons _ _ (ih _ b)
theorem xq {l:OpenLaw}{n:Nat}(hn:l.most=some n) {P:Params}{h:Heap}{args:List WData}{vals:List Value}
  (hpre:l.row.toRowW.claim.pre args=true) (hwl:WellAll P h vals args) :
  ∃a vs ns,vals=[Value.ref a]/\args=[WData.list (ns.map WData.int)]/\h.get? a=some { cls:=.type "list",data:=.seq vs.toArray }/\IntsAre vs ns/\ns.length<=n:=by
 have hsh:WShape.hasAll [] args [.list .int]=true:=(pre_splitW hpre).1;have hc:l.pre.holds [] { args:=args }=true:=(pre_splitW hpre).2;obtain⟨d,r,rfl,h1,h2⟩:=hasAllW_cons hsh;obtain rfl:=hasAllW_nil h2;obtain⟨xs,rfl,h3⟩:=hasW_list h1;obtain⟨ns,rfl⟩:=items_int h3;have hlen:ns.length<=n:=by
  unfold OpenLaw.pre at hc;have h4:(WTm.not (.lt (.lit (.int (n:Int))) (.len (.arg 0)))).holds [] { args:=[.list (ns.map .int)] }=true:=by
   have h4:=(holds_andW hc).1;rw[hn] at h4;exact h4
  have h5:=condW_of h4 (w_not (w_lt w_lit (w_len_list (w_arg rfl))));rw[List.length_map] at h5;refine Nat.le_of_not_lt λq=>?_
  have q':(n:Int)<((ns.length:Nat):Int):=by omega
  first
   |(rw[decide_eq_true q'] at h5;exact absurd h5 (by decide))
   |(simp at h5;omega)
 cases hwl with
 |cons w1 w2=>
  cases w2;cases w1 with
  |list ho hall=>exact⟨_,_,ns,rfl,rfl,ho,Uo ns _ hall,hlen⟩
theorem xc (l:OpenLaw) (args:List WData):l.row.toRowW.claim.post args (.bool true) args=true:=
 postW_of (r:=l.row.toRowW) (X:=(true == true))
  (show WShape.has [] (.bool true) .bool=true by first | rfl | decide | simp[WShape.has,WShape.arms,WShape.armsAll])
  (show (WTm.eq .res (.lit (.bool true))).value [] { args:=args,res:=some (.bool true),after:=args }=some (.bool (true == true)) from w_eq_bool (w_res rfl) w_lit) rfl
theorem J3 {l:OpenLaw}{n:Nat}{q:Program}{loose:List Str}{XP:(Str->Option Value)->Heap->Prop}{YP:World->Heap->Prop}{d:DefRec}
  (hn:l.most=some n) (hdf:d.params.defaults=[])
  (call:∀(w:World) (s₀ s₁:Shared) (mg mb:Str->Option Value) (fa:Addr) (o:Obj) (pm cd doc:Value) (a:Addr) (vs:List Value) (ns:List Int),
   Ground q loose [] XP w s₀ mg mb s₁.heap->YP w s₁.heap->
   s₁.heap.get? fa=some o->o.data=.func (docDef d.name d.params d.body d.scope pm cd doc)->s₁.heap.CodeRec cd d.name->mg d.name=some (.ref fa)->
   s₁.heap.get? a=some { cls:=.type "list",data:=.seq vs.toArray }->IntsAre vs ns->ns.length<=n->s₁.gens = #[]->
   codeAny (model l.prog w) callerA (.call (.ref fa) ⟨[.ref a],[]⟩) (λr s'=>r=.ok (.ret (.bool true))/\OldK s₁.heap s'.heap/\s'.os=s₁.os/\AllBare s'.gens) s₁) :
  WalkO q loose XP YP l.row.toRowW d [] (λf vs=>PySem.call f vs):=by
 intro w s₀ s₁ mg mb G Y fa o pm cd doc dV kV ho hd hcd hD hmg hg args vals as hpre hlay hrd hwl hlo;obtain rfl:dV=.none:=Dflts.none hD hdf;obtain rfl:kV=.none:=Dflts.noKw hD;obtain⟨a,vs,ns,rfl,rfl,hobj,hints,hlen⟩:=xq hn hpre hwl;refine enter_call (codeAny_mono (call w s₀ s₁ mg mb fa o pm cd doc a vs ns G Y ho (fd_plain hd) hcd hmg hobj hints hlen hg) λr s' hq=>?_)
 obtain⟨rfl,h2,h3,h4⟩:=hq;exact⟨.inl ⟨.bool true,.bool true,[],rfl,λ_=>rfl,.bool true,xc l _,λ_=>⟨List.Pairwise.nil,λ_ hm=>(nomatch hm)⟩⟩,h2,h3,h4⟩
end Att
namespace L2
open PySem PySem.Spec PyProof.Rows
theorem Q3:∀{vs:List Value}{ns:List Int},IntsAre vs ns->Vals (ns.map V.int) vs
 |_,_,.nil=>.nil
 |_,_,.cons n t h=>.cons ⟨t,rfl⟩ (Q3 h)
noncomputable def Only (H:Hp):Prop:=∀b,H b=none\/∃o xs,H b=some (.frz o (.lst xs))
theorem law_call {P:Program}{w:World}{K:PySem.W.Frag}{mg mb:Str->Option Value}{CX:CXT}{k:Nat}{fa a:Addr}{fd:FuncData}{x:Str}{sp:Sp}{s₁:Shared}{vs:List Value}{ns:List Int}
  (KX:K.In s₁.heap) (hns:s₁.heap.Ns mainGlobals mg) (hb:s₁.heap.Ns builtinsNs mb) (hbb:∀x:Str,x≠"__name__"->mb x=bootBuiltins x) (hlim:s₁.heap.NoLimit) (hg:s₁.gens = #[])
  (ha:s₁.heap.get? a=some { cls:=.type "list",data:=.seq vs.toArray }) (hi:IntsAre vs ns) (hl:ns.length<=sizeLine) (hr:Room k callerA)
  (F:∀base:Heap,K.In base->base.Ns mainGlobals mg->FnOk P w K mg base CX k fa fd [x] sp) (hbind:∀(s:Shared) (u:Value),BindsTo s fd ⟨[u],[]⟩ [(x,u)])
  (hsp:∀H:Hp,Only H->SqL K H a (ns.map V.int)->sp [.ref a] H (λv _=>v=.bl true) λ_ _ _=>False)
  (hCX:∀H e s',CX [] H s₁ (λ_ _ _=>False) e s'->False) :
  codeAny (model P w) callerA (.call (.ref fa) ⟨[.ref a],[]⟩) (λr s'=>r=.ok (.ret (.bool true))/\OldK s₁.heap s'.heap/\s'.os=s₁.os/\AllBare s'.gens) s₁:=by
 have rv:=Q3 hi;have lenV:=hi.length;have core:∀H:Hp,Only H->SqL K H a (ns.map V.int)->HOk P w H s₁.heap->(∀b,H b≠none->b=a)->(H a≠none->K.lookup a=none)->
   codeAny (model P w) callerA (.call (.ref fa) ⟨[.ref a],[]⟩) (λr s'=>r=.ok (.ret (.bool true))/\OldK s₁.heap s'.heap/\s'.os=s₁.os/\AllBare s'.gens) s₁:=by
  intro H hO hS hok hA hK;have base_of:∀{b:Addr} {o:Obj},s₁.heap.get? b=some o->H b=none->(JS s₁.heap H).get? b=some o:=λe n=>xV e n
  have noA:∀{b:Addr} {o:Obj} {es:Array DictEntry} {ep:Nat},s₁.heap.get? b=some o->o.data=.dict es ep->H b=none:=λ{b o es ep} e d=>by
   cases q:H b with
   |none=>rfl
   |some u=>
    have e':b=a:=hA b (by rw[q];simp)
    subst e';rw[ha] at e;cases e;have d':Data.seq vs.toArray _=Data.dict es ep:=d;cases d'
  have nsK:∀{b:Addr} {m:Str->Option Value},s₁.heap.Ns b m->(JS s₁.heap H).Ns b m:=λ{b m} ⟨o,es,ep,e,d,r⟩=>⟨o,es,ep,base_of e (noA e d),d,r⟩
  have hKb:K.In (JS s₁.heap H):=λb o e=>base_of (KX b o e) (by
   cases q:H b with
   |none=>rfl
   |some u=>
    have e':b=a:=hA b (by rw[q];simp)
    subst e';rw[hK (by rw[q];simp)] at e;cases e)
  have hM:Mod K mg (JS s₁.heap H):=⟨hKb,nsK hns,⟨mb,nsK hb,hbb⟩,let ⟨mc,h1,h2⟩:=hlim;⟨mc,nsK h1,h2⟩⟩;have e0:Env0 P w K mg (JS s₁.heap H) callerA [] s₁ H:=⟨rfl,hM,λb o e=>uE e,Nat.le_of_eq (xh _ _),trivial,λb hb=>absurd (show b∈([]:List Addr) from hb) (by simp),hok,.of_eq hg⟩
  refine codeAny_mono ((F _ hKb (nsK hns)).run callerA [] s₁ H ⟨[.ref a],[]⟩ [.ref a] [.ref a] _ _ hr e0 (hbind s₁ (.ref a)) (.cons rfl .nil) (hsp H hO hS)) λr s' h=>?_
  cases r with
  |error e=>exact (hCX H e s' h).elim
  |ok fl=>
   cases fl with
   |next=>exact False.elim h
   |brk=>exact False.elim h
   |cont=>exact False.elim h
   |ret u=>
    obtain⟨v,H',os,bare,un,hok',r',q⟩:=h;have q':v=.bl true:=q;subst q';obtain rfl:u=Value.bool true:=r';refine⟨rfl,OldK.of_keep λb o e=>?_,os,bare⟩
    cases q:H b with
    |none=>exact un.keep b o e q (by intro z;exact absurd (show b∈([]:List Addr) from z) (by simp)) (by simp)
    |some u=>
     rcases hO b with z | ⟨ob,xs,z⟩
     ·rw[q] at z;cases z
     ·have z2:=un.frzs b ob _ z
      obtain⟨e1,_⟩:=hok b _ z;obtain⟨e2,_⟩:=hok' b _ z2;rw[e] at e1;cases e1;exact e2
 cases hk:K.lookup a with
 |some o=>
  have e:=KX a o hk;rw[ha] at e;cases e;refine core (λ_=>none) (λ_=>.inl rfl) (.inr ⟨_,vs.toArray,_,hk,rfl,rfl,rfl,by rw[List.size_toArray,lenV];exact hl,by simpa using rv⟩) (λb u z=>by have z':(none:Option HO)=some u:=z;cases z') (λb z=>absurd rfl z) λz=>absurd rfl z
 |none=>
  refine core (λb=>if b=a then some (.frz { cls:=.type "list",data:=.seq vs.toArray } (.lst (ns.map V.int))) else none) (λb=>?_) (.inl (.inr ⟨{ cls:=.type "list",data:=.seq vs.toArray },if_pos rfl⟩)) (λb u z=>?_) (λb z=>?_) λ_=>hk
  ·by_cases hb:b=a
   ·exact .inr ⟨_,_,if_pos hb⟩
   ·exact .inl (if_neg hb)
  ·by_cases hb:b=a
   ·have z':=(if_pos hb).symm.trans z
    cases z';subst hb;exact⟨ha,by rw[List.length_map];exact hl,vs,_,rv,ha⟩
   ·have z':=(if_neg hb).symm.trans z
    cases z'
  ·by_cases hb:b=a
   ·exact hb
   ·exact absurd (if_neg hb) z
end L2
namespace L2
open PySem PySem.Spec PyProof.Rows
theorem ul {l:PySem.W.OpenLaw}{n k:Nat}{q:Program}{loose:List Str}{XP:(Str->Option Value)->Heap->Prop}{YP:World->Heap->Prop}{d:DefRec}{K:Params->PySem.W.Frag}{CX:World->CXT}{sp:World->Sp}{x:Str}
  (hn:l.most=some n) (hn2:n<=sizeLine) (hdf:d.params.defaults=[]) (hr:Room k callerA)
  (hY:∀(w:World) (h:Heap),YP w h->(K w.params).In h)
  (F:∀(w:World) (mg:Str->Option Value) (fa:Addr) (h:Heap),(K w.params).In h->h.Ns mainGlobals mg->mg d.name=some (.ref fa)->
   ∃fd:FuncData,(∀(s:Shared) (u:Value),BindsTo s fd ⟨[u],[]⟩ [(x,u)])/\
    ∀base:Heap,(K w.params).In base->base.Ns mainGlobals mg->FnOk l.prog w (K w.params) mg base (CX w) k fa fd [x] (sp w))
  (hsp:∀(w:World) (H:Hp) (a:Addr) (ns:List Int),ns.length<=n->Only H->SqL (K w.params) H a (ns.map V.int)->sp w [.ref a] H (λv _=>v=.bl true) λ_ _ _=>False)
  (hCX:∀(w:World) (H:Hp) (s:Shared) (e:Value) (s':Shared),CX w [] H s (λ_ _ _=>False) e s'->False) :
  PySem.W.WalkO q loose XP YP l.row.toRowW d [] (λf vs=>PySem.call f vs):=by
 refine Att.J3 hn hdf λw s₀ s₁ mg mb fa o pm cd doc a vs ns G Y ho hd hcd hmg hobj hints hlen hg=>?_
 have KX:=hY w _ Y;obtain⟨fd,hb,hF⟩:=F w mg fa _ KX G.T.g hmg;exact law_call KX G.T.g G.T.b G.T.builtins G.T.nolimit hg hobj hints (Nat.le_trans hlen hn2) hr hF hb (λH hO hS=>hsp w H a ns hlen hO hS) λH e s'=>hCX w H s₁ e s'
end L2
namespace L2
open PySem PySem.Spec PyProof.Rows
noncomputable def YJ (s:Stmt):Arguments:=match s with
 |.FunctionDef _ a _ _ _ _ _ _ _ _=>a
 |_=>{ posonlyargs:=[],args:=[],vararg:=none,kwonlyargs:=[],kw_defaults:=[],kwarg:=none,defaults:=[] }
noncomputable def Yp (s:Stmt):List Stmt:=match s with
 |.FunctionDef _ _ b _ _ _ _ _ _ _=>b
 |_=>[]
noncomputable def Zl (s:Stmt):Scope:=match s with
 |.FunctionDef _ _ _ _ _ _ sc _ _ _=>sc
 |_=>{ kind:=.function,names:=[],isGenerator:=false,isCoroutine:=false }
noncomputable abbrev CX0:CXT:=λ_ _ _ _ _ _=>False
noncomputable abbrev E0:XK:=λ_ _ _=>False
theorem pass0 {X:Cx}:Passes CX0 X E0:=λ_ _ _ _ _ _ _ h=>h.elim
structure Fun (K:PySem.W.Frag) (x qual:Str) (st:Stmt) (f:Addr) (fd:FuncData):Prop where
 ex:∃(oc:Value) (od:Option Addr) (kV doc pm:Value) (an:Option Addr) (cdv ct:Value) (osl:Array (Option Value)),
  fd=PySem.W.fnOf x qual (YJ st) (Yp st) (Zl st) .none kV doc pm an cdv ct/\K.lookup f=some ⟨oc,od,.func fd,osl⟩/\PySem.W.codeIn K cdv qual=true
 kp:PySem.W.keepIn K (.ref f)=true
section
variable {P:Program}{w:World}{K:PySem.W.Frag}{mg:Str->Option Value}{base:Heap}
theorem Fun.ok {x qual:Str}{st:Stmt}{f:Addr}{fd:FuncData}{N ps:List Str}{k:Nat}{sp:Sp}(F:Fun K x qual st f fd) (S:FnScope N ps (Zl st)) (len:∀vs H Q E,sp vs H Q E->vs.length=ps.length)
  (hbody:∀(cdv:Value) (A:Around) (outer:List Env) (s:Shared) (H:Hp) (vs:List V) (Q:VK) (E:XK),Room k (A.deeper (envOfC qual (Zl st) s.heap.objs.size f cdv))->sp vs H Q E->
   ∃t,PSs (GQ CX0 P w K mg base N qual (Zl st) f cdv A outer s H E).nox (Yp st) t/\t { nx:=λ_ H'=>Q .non H',rt:=Q } (start N vs) H):FnOk P w K mg base CX0 (k+1) f fd ps sp:=by
 obtain⟨oc,od,kV,doc,pm,an,cdv,ct,osl,rfl,lk,hcd⟩:=F.ex;refine Zap lk hcd S len λA outer s H vs Q E hr hsp=>?_
 obtain⟨t,h,q⟩:=hbody cdv A outer s H vs Q E hr hsp;exact⟨t,h.nox,q⟩
theorem Fun.binds {x qual:Str}{st:Stmt}{f:Addr}{fd:FuncData}{ps:List Str}(F:Fun K x qual st f fd)
  (h:∀(kV doc pm:Value) (an:Option Addr) (cdv ct:Value) (us:List Value),us.length=ps.length->bindArgs (PySem.W.fnOf x qual (YJ st) (Yp st) (Zl st) .none kV doc pm an cdv ct) ⟨us,[]⟩=pure (ps.zip us)):Binds K fd ps []:=by
 obtain⟨oc,od,kV,doc,pm,an,cdv,ct,osl,rfl,lk,hcd⟩:=F.ex;exact .all (h kV doc pm an cdv ct)
theorem ZM {x qual:Str}{st:Stmt}{f:Addr}{oc:Value}{od an:Option Addr}{osl:Array (Option Value)}{kV doc pm cdv ct:Value}(l:K.lookup f=some ⟨oc,od,.func (PySem.W.fnOf x qual (YJ st) (Yp st) (Zl st) .none kV doc pm an cdv ct),osl⟩)
  (c:PySem.W.codeIn K cdv qual=true) (k:PySem.W.keepIn K (.ref f)=true):Fun K x qual st f (PySem.W.fnOf x qual (YJ st) (Yp st) (Zl st) .none kV doc pm an cdv ct):=⟨⟨oc,od,kV,doc,pm,an,cdv,ct,osl,rfl,l,c⟩,k⟩
end
end L2
namespace L2
open PySem PySem.Spec PyProof.Rows
section
variable {κ:Type}[DecidableEq κ]
noncomputable def VD (kvs:List (κ×V)) (k:κ):Option V:=(kvs.find? λkv=>decide (kv.1=k)).map (·.2)
theorem GR {p:κ×V}{r:List (κ×V)}{k:κ}(e:p.1=k):VD (p::r) k=some p.2:=by simp[VD,List.find?_cons,e]
theorem GT {p:κ×V}{r:List (κ×V)}{k:κ}(e:¬p.1=k):VD (p::r) k=VD r k:=by simp[VD,List.find?_cons,e]
theorem GV.isSome_eq {o:Option V}{u:Option Value}(r:GV o u):o.isSome=u.isSome:=by
 cases o with
 |none=>cases u with
  |none=>rfl
  |some _=>exact (show False from r).elim
 |some _=>cases u with
  |none=>exact (show False from r).elim
  |some _=>rfl
theorem KV.val {kvs:List (κ×V)}{vs:List (κ×Value)}(r:KV kvs vs) (k:κ):GV (VD kvs k) (valueAt vs k):=by
 unfold KV at r
 induction r with
 |nil=>exact True.intro
 |@cons p q ps qs h t ih=>
  obtain⟨h1,h2⟩:=h;by_cases e:p.1=k
  ·have e':q.1=k:=h1.symm.trans e
   have b:valueAt (q::qs) k=some q.2:=by simp[valueAt,List.find?_cons,e']
   rw[GR e,b];exact h2
  ·have e':¬q.1=k:=λz=>e (h1.trans z)
   have b:valueAt (q::qs) k=valueAt qs k:=by simp[valueAt,List.find?_cons,e']
   rw[GT e,b];exact ih
end
theorem wM {P:Program}{w:World}{k:Key}{u:Value}(r:Z2 (kV k) u):(Y1 P w).is k u=true:=by
 cases k with
 |inl i=>obtain⟨t,e⟩:=(show ∃t,u=Value.int i t from r);subst e;exact GD P w i t
 |inr x=>obtain⟨t,e⟩:=(show ∃t,u=Value.str x t from r);subst e;exact JU P w x t
theorem Q9 {P:Program}{w:World}:∀{ks:List Key}{us:List Value},Vals (ks.map kV) us->ItemsAre (Y1 P w) ks us
 |[],_,r=>by rw[List.map_nil] at r;cases r;exact .nil
 |k::ks,_,r=>by
  rw[List.map_cons] at r;cases r with
  |cons h t=>exact .cons (wM h) (Q9 t)
noncomputable abbrev KT (H:Hp):List (List Key×V)->List (List Key×Addr×Value)->Prop:=Paired λp q=>p.1=q.1/\H q.2.1=some (.tup (p.1.map kV))/\Z2 p.2 q.2.2
theorem KT.val {H:Hp}{kvs:List (List Key×V)}{xs:List (List Key×Addr×Value)}(r:KT H kvs xs) (k:List Key):GV (VD kvs k) ((atKey xs k).map (·.2)):=by
 induction r with
 |nil=>exact True.intro
 |@cons p q ps qs h t ih=>
  obtain⟨h1,_,h2⟩:=h;by_cases e:p.1=k
  ·have e':q.1=k:=h1.symm.trans e
   have b:atKey (q::qs) k=some q.2:=by simp[atKey,List.find?_cons,e']
   rw[GR e,b];exact h2
  ·have e':¬q.1=k:=λz=>e (h1.trans z)
   have b:atKey (q::qs) k=atKey qs k:=by simp[atKey,List.find?_cons,e']
   rw[GT e,b];exact ih
section
variable {P:Program}{w:World}{H:Hp}{h:Heap}{a:Addr}
theorem uY {u:HO}(ok:HOk P w H h) (e:Rd H a u):Yi P w H h a u:=e.ok ok
theorem qf {kvs:List (Key×V)}(ok:HOk P w H h) (e:Rd H a (.dK kvs)):kvs.length<=sizeLine/\(a == sysModules)=false/\∃vs,KV kvs vs/\h.DictOf (Y1 P w) a vs:=
 show Yi P w H h a (.dK kvs) from uY ok e
theorem G3 {ks:List Key}(ok:HOk P w H h) (e:H a=some (.tup (ks.map kV))):(tupleKind (Y1 P w)).is h ks a:=by
 obtain⟨_,its,r,o,h1,h2,n,h3⟩:=(show Yi P w H h a (.tup (ks.map kV)) from ok a _ e)
 exact⟨o,its.toArray,n,h1,h2,h3,by simpa using Q9 r⟩
theorem u4 {kvs:List (List Key×V)}(ok:HOk P w H h) (e:Rd H a (.dT kvs)):kvs.length<=sizeLine/\(a == sysModules)=false/\
  ∃xs,KT H kvs xs/\h.DictOfH (tupleKind (Y1 P w)) a xs:=by
 obtain⟨z,y,xs,r,o,es,ep,h1,h2,h3,h4,h5⟩:=(show Yi P w H h a (.dT kvs) from uY ok e)
 refine⟨z,y,xs,r,o,es,ep,h1,h2,h3,h4,λx hx=>?_,h5⟩
 have all:∀{l:List (List Key×V)} {m:List (List Key×Addr×Value)},KT H l m->∀x∈m,(tupleKind (Y1 P w)).is h x.1 x.2.1:=by
  intro l m q
  induction q with
  |nil=>intro x hx;exact nomatch hx
  |@cons p q ps qs hq t ih=>
   intro x hx;rcases List.mem_cons.mp hx with e | hx
   ·subst e
    exact G3 ok (by rw[<-hq.1];exact hq.2.1)
   ·exact ih x hx
 exact all r x hx
end
noncomputable def DGet (H:Hp) (a:Addr) (y:V) (r:Option V):Prop:=
 (∃kvs k,Rd H a (.dK kvs)/\y=kV k/\r=VD kvs k)\/∃kvs k b,Rd H a (.dT kvs)/\y=.ref b/\H b=some (.tup (k.map kV))/\r=VD kvs k
theorem DGet.t {H:Hp}{a b:Addr}{kvs:List (List Key×V)}{k:List Key}(e:H a=some (.dT kvs)) (eb:H b=some (.tup (k.map kV))):DGet H a (.ref b) (VD kvs k):=.inr ⟨kvs,k,b,.inl e,rfl,eb,rfl⟩
section
variable {X:Cx}{pins:List (Addr×Obj)}{σ:St}{H:Hp}{s:Shared}{a:Addr}{y v:V}{u r:Value}{o:Option V}{A:Around}{E:Value->Shared->Prop}
theorem ZaH {Q:Value->Shared->Prop}(hu:A.units+1<cLine) (I:Inv X pins σ H s) (g:DGet H a y o) (ry:Z2 y u) (h:∀s',Inv X pins σ H s'->Q (.bool o.isSome) s') :
  wpAny (model X.prog X.w) A (compareOp .In u (.ref a)) Q E s:=by
 rcases g with ⟨kvs,k,e,ey,l⟩ | ⟨kvs,k,b,e,ey,eb,l⟩
 ·subst ey
  obtain⟨z,hd,vs,rel,dd⟩:=qf I.hok e;refine wpAny_in_of (wM ry) hd dd.mapOf ?_;rw[<-(rel.val k).isSome_eq,<-l];exact h _ (I.tok _)
 ·subst ey
  cases (show u=Value.ref b from ry)
  obtain⟨z,hd,xs,rel,dd⟩:=u4 I.hok e;refine wpAny_in_heap (tupleKind_room_in1 hu) (G3 I.hok eb) hd dd ?_;have q:=(rel.val k).isSome_eq;rw[Option.isSome_map] at q;rw[<-q,<-l];exact h _ (I.tok _)
theorem uo {Q:Value->Shared->Prop}(hu:A.units+1<cLine) (I:Inv X pins σ H s) (g:DGet H a y o) (ry:Z2 y u) (h:∀s',Inv X pins σ H s'->Q (.bool (!o.isSome)) s') :
  wpAny (model X.prog X.w) A (compareOp .NotIn u (.ref a)) Q E s:=by
 rcases g with ⟨kvs,k,e,ey,l⟩ | ⟨kvs,k,b,e,ey,eb,l⟩
 ·subst ey
  obtain⟨z,hd,vs,rel,dd⟩:=qf I.hok e;refine wpAny_notIn_of (wM ry) hd dd.mapOf ?_;rw[<-(rel.val k).isSome_eq,<-l];exact h _ (I.tok _)
 ·subst ey
  cases (show u=Value.ref b from ry)
  obtain⟨z,hd,xs,rel,dd⟩:=u4 I.hok e;refine wpAny_notIn_heap (tupleKind_room_in1 hu) (G3 I.hok eb) hd dd ?_;have q:=(rel.val k).isSome_eq;rw[Option.isSome_map] at q;rw[<-q,<-l];exact h _ (I.tok _)
end
end L2
namespace L2
open PySem PySem.Spec PyProof.Rows
end L2
namespace Ev
open PySem (Str)
inductive D where
 |non | bl (b:Bool) | int (i:Int) | str (x:Str) | tup (xs:List D) | loc (n:Nat) | fn (f:Nat) | exc (c:Nat) (n:Nat)
 deriving Inhabited
mutual
def D.beq:D->D->Bool
 |.non,.non=>true
 |.bl a,.bl b=>decide (a=b)
 |.int a,.int b=>decide (a=b)
 |.str a,.str b=>decide (a=b)
 |.tup a,.tup b=>D.beqs a b
 |.loc a,.loc b=>decide (a=b)
 |.fn a,.fn b=>decide (a=b)
 |.exc a i,.exc b j=>decide (a=b)&&decide (i=j)
 |_,_=>false
def D.beqs:List D->List D->Bool
 |[],[]=>true
 |x::xs,y::ys=>D.beq x y&&D.beqs xs ys
 |_,_=>false
end
mutual
theorem D.eq_of_beq:∀{a b:D},D.beq a b=true->a=b
 |.non,.non,_=>rfl
 |.bl a,.bl b,h=>by unfold D.beq at h;rw[of_decide_eq_true h]
 |.int a,.int b,h=>by unfold D.beq at h;rw[of_decide_eq_true h]
 |.str a,.str b,h=>by unfold D.beq at h;rw[of_decide_eq_true h]
 |.tup a,.tup b,h=>by unfold D.beq at h;rw[D.eq_of_beqs h]
 |.loc a,.loc b,h=>by unfold D.beq at h;rw[of_decide_eq_true h]
 |.fn a,.fn b,h=>by unfold D.beq at h;rw[of_decide_eq_true h]
 |.exc a i,.exc b j,h=>by
  unfold D.beq at h;have h1:=(Bool.and_eq_true _ _).mp h;rw[of_decide_eq_true h1.1,of_decide_eq_true h1.2]
 |.non,.bl _,h | .non,.int _,h | .non,.str _,h | .non,.tup _,h | .non,.loc _,h | .non,.fn _,h | .non,.exc _ _,h=>by unfold D.beq at h;cases h
 |.bl _,.non,h | .bl _,.int _,h | .bl _,.str _,h | .bl _,.tup _,h | .bl _,.loc _,h | .bl _,.fn _,h | .bl _,.exc _ _,h=>by unfold D.beq at h;cases h
 |.int _,.non,h | .int _,.bl _,h | .int _,.str _,h | .int _,.tup _,h | .int _,.loc _,h | .int _,.fn _,h | .int _,.exc _ _,h=>by unfold D.beq at h;cases h
 |.str _,.non,h | .str _,.bl _,h | .str _,.int _,h | .str _,.tup _,h | .str _,.loc _,h | .str _,.fn _,h | .str _,.exc _ _,h=>by unfold D.beq at h;cases h
 |.tup _,.non,h | .tup _,.bl _,h | .tup _,.int _,h | .tup _,.str _,h | .tup _,.loc _,h | .tup _,.fn _,h | .tup _,.exc _ _,h=>by unfold D.beq at h;cases h
 |.loc _,.non,h | .loc _,.bl _,h | .loc _,.int _,h | .loc _,.str _,h | .loc _,.tup _,h | .loc _,.fn _,h | .loc _,.exc _ _,h=>by unfold D.beq at h;cases h
 |.fn _,.non,h | .fn _,.bl _,h | .fn _,.int _,h | .fn _,.str _,h | .fn _,.tup _,h | .fn _,.loc _,h | .fn _,.exc _ _,h=>by unfold D.beq at h;cases h
 |.exc _ _,.non,h | .exc _ _,.bl _,h | .exc _ _,.int _,h | .exc _ _,.str _,h | .exc _ _,.tup _,h | .exc _ _,.loc _,h | .exc _ _,.fn _,h=>by unfold D.beq at h;cases h
theorem D.eq_of_beqs:∀{a b:List D},D.beqs a b=true->a=b
 |[],[],_=>rfl
 |x::xs,y::ys,h=>by
  unfold D.beqs at h;have h1:=(Bool.and_eq_true _ _).mp h;rw[D.eq_of_beq h1.1,D.eq_of_beqs h1.2]
 |[],_::_,h=>by unfold D.beqs at h;cases h
 |_::_,[],h=>by unfold D.beqs at h;cases h
end
mutual
theorem D.beq_self:∀a:D,D.beq a a=true
 |.non=>rfl
 |.bl a=>by unfold D.beq;exact decide_eq_true rfl
 |.int a=>by unfold D.beq;exact decide_eq_true rfl
 |.str a=>by unfold D.beq;exact decide_eq_true rfl
 |.tup a=>by unfold D.beq;exact D.beqs_self a
 |.loc a=>by unfold D.beq;exact decide_eq_true rfl
 |.fn a=>by unfold D.beq;exact decide_eq_true rfl
 |.exc a i=>by unfold D.beq;rw[decide_eq_true rfl,decide_eq_true rfl];rfl
theorem D.beqs_self:∀a:List D,D.beqs a a=true
 |[]=>rfl
 |x::xs=>by unfold D.beqs;rw[D.beq_self x,D.beqs_self xs];rfl
end
instance:DecidableEq D:=λa b=>if h:D.beq a b=true then isTrue (D.eq_of_beq h) else isFalse λe=>h (by rw[e];exact D.beq_self b)
inductive Ob where
 |lst (xs:List D) | scr (ns:List Int) | dt (kvs:List (List Int×D)) | dk (kvs:List (Int×D)) | st (xs:List D)
 deriving DecidableEq
noncomputable abbrev Store:=List Ob
noncomputable abbrev Lc:=List (Option D)
inductive R (α:Type) where
 |ok (a:α) (S:Store) | ex (c:Nat) (S:Store) | no
noncomputable def R.bind {α β:Type} (r:R α) (f:α->Store->R β):R β:=match r with
 |.ok a S=>f a S
 |.ex c S=>.ex c S
 |.no=>.no
noncomputable def lim:Nat:=16777216
inductive Bop where | add | sub | mul | fdiv | mod | pow
 deriving DecidableEq
inductive Cop where | eq | ne | lt | le | gt | ge | is | isn | inn | nin
 deriving DecidableEq
inductive Ty where | int | bool | str | tuple | list | dict | cls (c:Nat)
 deriving DecidableEq
inductive Bf where | len | max2 | min2 | toInt | tuple | list | all | any | sum | sorted | sortedR | set | listD | sortedD
 deriving DecidableEq
inductive Mf where | append | extend | index
 deriving DecidableEq
mutual
inductive E where
 |c (d:D) | v (i:Nat)
 |tup (es:List E) | lst (es:List E) | dnew
 |bin (op:Bop) (a b:E) | neg (a:E) | not (a:E) | and (a b:E) | or (a b:E) | ite (t a b:E)
 |cmp (op:Cop) (a b:E) | chain (o p:Cop) (a b d:E)
 |ix (a i:E) | sl (a:E) (lo hi:Option E) | rev (a:E)
 |call (f:Nat) (as:List E) | blt (f:Bf) (as:List E) | mt (m:Mf) (o:E) (as:List E)
 |isi (a:E) (ts:List Ty)
 |inT (a:E) (tab:List (Int×Int)) | getT (tab:List (Int×Int)) (a:E)
 |dput1 (k v:E)
 |comp1 (cap:List Nat) (nl:Nat) (t:List Nat) (it:W) (ifs:List E) (elt:E)
 |comp2 (cap:List Nat) (nl:Nat) (t:List Nat) (it:W) (ifs:List E) (u:List Nat) (jt:W) (jfs:List E) (elt:E)
 |fstr
inductive W where
 |of (e:E) | rng1 (a:E) | rng2 (a b:E) | zip (a b:E) | enum (a:E) | rrng (a b:E)
end
inductive Sm where
 |asg (t:List Nat) (e:E) | par (t:List Nat) (es:List E) | aug (i:Nat) (op:Bop) (e:E) | put (o i e:E) | dput (o i e:E)
 |ret (e:E) | ex (e:E) | ite (t:E) (a b:List Sm) | forr (t:List Nat) (it:W) (b:List Sm) | whl (t:E) (b:List Sm)
 |raise (c:Nat) (as:List E) | pas | brk | cnt
noncomputable def Yu (S:Store) (n:Nat):Option (List D):=match S[n]? with
 |some (.lst xs)=>some xs
 |some (.scr ns)=>some (ns.map .int)
 |_=>none
noncomputable def Zv (S:Store) (n:Nat):Option (List D):=match S[n]? with
 |some (.lst xs)=>some xs
 |_=>none
noncomputable def truth (S:Store):D->Option Bool
 |.non=>some false
 |.bl b=>some b
 |.int i=>some (decide (i≠0))
 |.tup xs=>some (!xs.isEmpty)
 |.loc n=>(Yu S n).map λxs=>!xs.isEmpty
 |_=>none
noncomputable def b2i (b:Bool):Int:=if b then 1 else 0
noncomputable def eqL (f:D->D->Option Bool):List D->List D->Option Bool
 |[],[]=>some true
 |x::xs,y::ys=>match f x y,eqL f xs ys with
  |some a,some b=>some (a&&b)
  |_,_=>none
 |_,_=>some false
noncomputable def eqD (S:Store):Nat->D->D->Option Bool
 |0,_,_=>none
 |k+1,x,y=>match x,y with
  |.non,.non=>some true
  |.bl a,.bl b=>some (decide (a=b))
  |.int a,.int b=>some (decide (a=b))
  |.bl a,.int b=>some (decide (b2i a=b))
  |.int a,.bl b=>some (decide (a=b2i b))
  |.str a,.str b=>some (decide (a=b))
  |.tup xs,.tup ys=>eqL (eqD S k) xs ys
  |.loc m,.loc n=>match Zv S m,Zv S n with
   |some xs,some ys=>if xs.length=ys.length then eqL (eqD S k) xs ys else some false
   |_,_=>none
  |.non,.bl _ | .non,.int _ | .non,.str _ | .bl _,.non | .int _,.non | .str _,.non=>some false
  |.bl _,.str _ | .int _,.str _ | .str _,.bl _ | .str _,.int _=>some false
  |_,_=>none
noncomputable def ZA:Nat:=6
noncomputable def inL (S:Store) (x:D):List D->Option Bool
 |[]=>some false
 |y::ys=>match eqD S ZA y x,inL S x ys with
  |some a,some b=>some (a||b)
  |_,_=>none
noncomputable def jZ (S:Store) (x:D):List D->Nat->Option Nat
 |[],_=>none
 |y::ys,k=>match eqD S ZA y x with
  |some true=>some k
  |some false=>jZ S x ys (k+1)
  |none=>none
noncomputable def Xp:List D->Option (List Int)
 |[]=>some []
 |.int i::r=>(Xp r).map (i :: ·)
 |_::_=>none
noncomputable def GP (S:Store):D->Ty->Option Bool
 |.non,_=>some false
 |.bl _,t=>some (decide (t=.bool\/t=.int))
 |.int _,t=>some (decide (t=.int))
 |.str _,t=>some (decide (t=.str))
 |.tup _,t=>some (decide (t=.tuple))
 |.loc n,t=>match S[n]? with
  |some (.lst _)=>some (decide (t=.list))
  |some (.dt _)=>some (decide (t=.dict))
  |some (.dk _)=>some (decide (t=.dict))
  |_=>none
 |_,_=>none
noncomputable def UV (S:Store) (x:D):List Ty->Option Bool
 |[]=>some false
 |t::ts=>match GP S x t with
  |some true=>some true
  |some false=>UV S x ts
  |none=>none
noncomputable def ixN (n:Nat) (i:Int):Option Nat:=if 0<=i then (if i<n then some i.toNat else none) else if -(n:Int)<=i then some (i+n).toNat else none
noncomputable def at' {α:Type} (xs:List α) (i:Int):Option α:=(ixN xs.length i).bind λj=>xs[j]?
noncomputable def sIx (n d:Nat):Option Int->Nat
 |none=>d
 |some i=>if i<0 then (i+n).toNat else min i.toNat n
noncomputable def cut (xs:List D) (lo hi:Option Int):List D:=(xs.drop (sIx xs.length 0 lo)).take (sIx xs.length xs.length hi-sIx xs.length 0 lo)
noncomputable def fits (i:Int):Bool:=decide (i.natAbs<2^1000)
noncomputable def binop (op:Bop) (x y:D) (S:Store):R D:=match op,x,y with
 |.add,.int a,.int b=>.ok (.int (a+b)) S
 |.sub,.int a,.int b=>.ok (.int (a-b)) S
 |.mul,.int a,.int b=>if (fits a&&fits b)=true then .ok (.int (a*b)) S else .no
 |.fdiv,.int a,.int b=>if 0<b/\b<1073741824 then .ok (.int (a / b)) S else .no
 |.mod,.int a,.int b=>if 0<b then .ok (.int (a%b)) S else .no
 |.pow,.int a,.int b=>if 0<=b/\b<=1000/\a.natAbs<2^64 then .ok (.int (a^b.toNat)) S else .no
 |.add,.tup a,.tup b=>if a.length+b.length<=lim then .ok (.tup (a++b)) S else .no
 |.mul,.tup a,.int b=>if 0<=b/\b<1000/\a.length<=1000 then .ok (.tup (List.replicate b.toNat a).flatten) S else .no
 |.mul,.loc m,.int b=>match Zv S m with
  |some a=>if 0<=b/\b<1000/\a.length<=1000 then .ok (.loc S.length) (S++[.lst (List.replicate b.toNat a).flatten]) else .no
  |none=>.no
 |.add,.loc m,.loc n=>match Zv S m,Zv S n with
  |some a,some b=>if a.length+b.length<=lim then .ok (.loc S.length) (S++[.lst (a++b)]) else .no
  |_,_=>.no
 |_,_,_=>.no
noncomputable def augop (op:Bop) (x y:D) (S:Store):R D:=match x,y with
 |.int _,.int _=>binop op x y S
 |_,_=>.no
noncomputable def ob {α:Type} (o:Option α) (S:Store):R α:=match o with
 |some a=>.ok a S
 |none=>.no
noncomputable def jE (S:Store) (x:D):Option Ob->R Bool
 |some (.lst ys)=>ob (inL S x ys) S
 |some (.dt kvs)=>match x with
  |.tup k=>(ob (Xp k) S).bind λk S=>.ok ((kvs.map (·.1)).contains k) S
  |_=>.no
 |_=>.no
noncomputable def W5 (S:Store) (x y:D):R Bool:=match y with
 |.tup ys=>ob (inL S x ys) S
 |.loc n=>jE S x S[n]?
 |_=>.no
noncomputable def cmpop (op:Cop) (x y:D) (S:Store):R D:=match op with
 |.eq=>(ob (eqD S ZA x y) S).bind λb S=>.ok (.bl b) S
 |.ne=>(ob (eqD S ZA x y) S).bind λb S=>.ok (.bl !b) S
 |.lt=>match x,y with
  |.int a,.int b=>.ok (.bl (decide (a<b))) S
  |_,_=>.no
 |.gt=>match x,y with
  |.int a,.int b=>.ok (.bl (decide (b<a))) S
  |_,_=>.no
 |.le=>match x,y with
  |.int a,.int b=>.ok (.bl (decide (a<=b))) S
  |_,_=>.no
 |.ge=>match x,y with
  |.int a,.int b=>.ok (.bl (decide (b<=a))) S
  |_,_=>.no
 |.is=>match x,y with
  |_,.non=>.ok (.bl (decide (x=.non))) S
  |.bl a,.bl b=>.ok (.bl (decide (a=b))) S
  |_,_=>.no
 |.isn=>match x,y with
  |_,.non=>.ok (.bl (decide (x≠.non))) S
  |.bl a,.bl b=>.ok (.bl (decide (a≠b))) S
  |_,_=>.no
 |.inn=>(W5 S x y).bind λb S=>.ok (.bl b) S
 |.nin=>(W5 S x y).bind λb S=>.ok (.bl !b) S
noncomputable def getix (x y:D) (S:Store):R D:=match x,y with
 |.tup xs,.int i=>ob (at' xs i) S
 |.loc n,.int i=>match Yu S n with
  |some xs=>ob (at' xs i) S
  |none=>.no
 |_,_=>.no
noncomputable def slice (x:D) (lo hi:Option Int) (S:Store):R D:=match x with
 |.tup xs=>.ok (.tup (cut xs lo hi)) S
 |.loc n=>match Zv S n with
  |some xs=>.ok (.loc S.length) (S++[.lst (cut xs lo hi)])
  |none=>.no
 |_=>.no
noncomputable def reversed (x:D) (S:Store):R D:=match x with
 |.tup xs=>.ok (.tup xs.reverse) S
 |_=>.no
noncomputable def jp {κ:Type} [DecidableEq κ] (k:κ) (v:D) (kvs:List (κ×D)):List (κ×D):=
 if (kvs.any λp=>decide (p.1=k))=true then kvs.map (λp=>if p.1=k then (p.1,v) else p) else kvs++[(k,v)]
noncomputable def setix (o i v:D) (S:Store):R Unit:=match o,i with
 |.loc n,.int k=>match S[n]? with
  |some (.lst xs)=>(ob (ixN xs.length k) S).bind λj S=>.ok () (S.set n (.lst (xs.set j v)))
  |_=>.no
 |_,_=>.no
noncomputable def jB (o i v:D) (S:Store):R Unit:=match o,i with
 |.loc n,.tup k=>match S[n]? with
  |some (.dt kvs)=>(ob (Xp k) S).bind λk S=>if kvs.length<lim then .ok () (S.set n (.dt (jp k v kvs))) else .no
  |_=>.no
 |_,_=>.no
noncomputable def ptruth:D->Option Bool
 |.non=>some false
 |.bl b=>some b
 |.int i=>some (decide (i≠0))
 |_=>none
noncomputable def truths:List D->Option (List Bool)
 |[]=>some []
 |x::xs=>match ptruth x,truths xs with
  |some b,some bs=>some (b::bs)
  |_,_=>none
noncomputable def UW:List D->Option (List Int)
 |[]=>some []
 |.int i::r=>(UW r).map (i :: ·)
 |_::_=>none
noncomputable def QH (is:List Int):Bool:=decide (is.length<=1000)&&is.all λi=>decide (-1099511627776<=i/\i<=1099511627776)
noncomputable def QU:D->Option (List Int)
 |.tup ks=>Xp ks
 |_=>none
noncomputable def Y9:List D->Option (List (List Int))
 |[]=>some []
 |x::r=>match QU x,Y9 r with
  |some a,some b=>some (a::b)
  |_,_=>none
noncomputable def Vt (r:List Int):D:=.tup (r.map .int)
noncomputable def ltI:List Int->List Int->Bool
 |[],[]=>false
 |[],_::_=>true
 |_::_,[]=>false
 |a::x,b::y=>if a=b then ltI x y else decide (a<b)
noncomputable def VP (x:List Int):List (List Int)->List (List Int)
 |[]=>[x]
 |y::r=>if ltI x y then x::y::r else y::VP x r
noncomputable def Z8:List (List Int)->List (List Int)
 |[]=>[]
 |x::r=>VP x (Z8 r)
noncomputable def YA (rs:List (List Int)):Bool:=decide (rs.length<64)&&decide rs.Nodup&&rs.all λr=>!r.isEmpty
noncomputable def sorted (rev:Bool) (n:Nat) (S:Store):R D:=(ob (Zv S n) S).bind λxs S=>(ob (Y9 xs) S).bind λrs S=>
 if YA rs=true then .ok (.loc S.length) (S++[.lst ((if rev then (Z8 rs).reverse else Z8 rs).map Vt)]) else .no
noncomputable def dedup:List D->List D->List D
 |acc,[]=>acc
 |acc,x::r=>if acc.contains x then dedup acc r else dedup (acc++[x]) r
noncomputable def XI (S:Store):D->Option (List D)
 |.tup xs=>some xs
 |.loc n=>Yu S n
 |_=>none
noncomputable def qt (S:Store):D->Option (List D)
 |.loc n=>match S[n]? with
  |some (.dt kvs)=>some (kvs.map λp=>.tup (p.1.map .int))
  |_=>none
 |_=>none
noncomputable def bltin (f:Bf) (as:List D) (S:Store):R D:=match f,as with
 |.len,[x]=>(ob (XI S x) S).bind λxs S=>.ok (.int xs.length) S
 |.max2,[.int a,.int b]=>.ok (.int (if b>a then b else a)) S
 |.min2,[.int a,.int b]=>.ok (.int (if b<a then b else a)) S
 |.toInt,[.int a]=>.ok (.int a) S
 |.toInt,[.bl b]=>.ok (.int (b2i b)) S
 |.tuple,[.tup xs]=>.ok (.tup xs) S
 |.tuple,[.loc n]=>(ob (Zv S n) S).bind λxs S=>.ok (.tup xs) S
 |.list,[x]=>(ob (XI S x) S).bind λxs S=>.ok (.loc S.length) (S++[.lst xs])
 |.all,[.loc n]=>(ob (Zv S n) S).bind λxs S=>(ob (truths xs) S).bind λbs S=>.ok (.bl (bs.all id)) S
 |.any,[x]=>(ob (XI S x) S).bind λxs S=>(ob (truths xs) S).bind λbs S=>.ok (.bl (bs.any id)) S
 |.sum,[.loc n]=>(ob (Zv S n) S).bind λxs S=>(ob (UW xs) S).bind λis S=>if QH is=true then .ok (.int is.sum) S else .no
 |.sorted,[.loc n]=>sorted false n S
 |.sortedR,[.loc n]=>sorted true n S
 |.set,[x]=>(ob (XI S x) S).bind λxs S=>.ok (.loc S.length) (S++[.st (dedup [] xs)])
 |.listD,[x]=>(ob (qt S x) S).bind λxs S=>.ok (.loc S.length) (S++[.lst xs])
 |_,_=>.no
noncomputable def method (m:Mf) (o:D) (as:List D) (S:Store):R D:=match m,o,as with
 |.append,.loc n,[x]=>(ob (Zv S n) S).bind λxs S=>if xs.length<lim then .ok .non (S.set n (.lst (xs++[x]))) else .no
 |.extend,.loc n,[.loc k]=>if n=k then .no else (ob (Zv S n) S).bind λxs S=>(ob (Zv S k) S).bind λys S=>if xs.length+ys.length<=lim then .ok .non (S.set n (.lst (xs++ys))) else .no
 |.index,.loc n,[x]=>(ob (Zv S n) S).bind λxs S=>(ob (jZ S x xs 0) S).bind λk S=>.ok (.int k) S
 |_,_,_=>.no
noncomputable def xW (S:Store):D->Bool
 |.loc n=>(Zv S n).isSome
 |_=>false
noncomputable def Z3 (lo:Int) (n:Nat):List D:=(List.range n).map λ(k:Nat)=>.int (lo+(k:Int))
noncomputable def small (i:Int):Bool:=decide (-(2^62)<=i/\i<2^62)
noncomputable def fill:List Nat->List D->Lc->Option Lc
 |[],[],σ=>some σ
 |i::t,x::xs,σ=>fill t xs (σ.set i (some x))
 |_,_,_=>none
noncomputable def assign (t:List Nat) (x:D) (S:Store) (σ:Lc):Option Lc:=match t with
 |[i]=>some (σ.set i (some x))
 |t=>match x with
  |.tup xs=>fill t xs σ
  |.loc n=>match Zv S n with
   |some xs=>fill t xs σ
   |none=>none
  |_=>none
inductive Fl where | nx (σ:Lc) | ret (d:D) | brk (σ:Lc) | cnt (σ:Lc)
noncomputable abbrev Calls:=Nat->List D->Store->R D
structure Walk where
 items:List D
 kept:List (Nat×List D)
noncomputable def Walk.still (w:Walk) (S:Store):Bool:=w.kept.all λp=>decide (S[p.1]? = some (.lst p.2))
noncomputable def YN (S:Store):D->Option Walk
 |.tup xs=>some ⟨xs,[]⟩
 |.loc n=>match S[n]? with
  |some (.lst xs)=>some ⟨xs,[(n,xs)]⟩
  |_=>none
 |_=>none
noncomputable def Vx (w:Walk) (body:D->Lc->Store->R Fl):List D->Lc->Store->R Fl
 |[],σ,S=>if w.still S then .ok (.nx σ) S else .no
 |x::xs,σ,S=>if w.still S then match body x σ S with
   |.ok (.nx σ') S'=>Vx w body xs σ' S'
   |.ok (.cnt σ') S'=>Vx w body xs σ' S'
   |.ok (.brk σ') S'=>.ok (.nx σ') S'
   |.ok (.ret d) S'=>.ok (.ret d) S'
   |.ex c S'=>.ex c S'
   |.no=>.no
  else .no
noncomputable def XD (test:Lc->Store->R Bool) (body:Lc->Store->R Fl):Nat->Lc->Store->R Fl
 |0,_,_=>.no
 |n+1,σ,S=>(test σ S).bind λb S=>if b then match body σ S with
   |.ok (.nx σ') S'=>XD test body n σ' S'
   |.ok (.cnt σ') S'=>XD test body n σ' S'
   |.ok (.brk σ') S'=>.ok (.nx σ') S'
   |.ok (.ret d) S'=>.ok (.ret d) S'
   |.ex c S'=>.ex c S'
   |.no=>.no
  else .ok (.nx σ) S
noncomputable def YT (w:Walk) (turn:D->Lc->Store->R Lc):List D->Lc->Store->R Lc
 |[],σ,S=>if w.still S then .ok σ S else .no
 |x::xs,σ,S=>if w.still S then (turn x σ S).bind λσ S=>YT w turn xs σ S else .no
noncomputable def push (n:Nat) (y:D) (S:Store):R Unit:=match Zv S n with
 |some ys=>if ys.length<lim then .ok () (S.set n (.lst (ys++[y]))) else .no
 |none=>.no
noncomputable def caught (cap:List Nat) (nl:Nat) (σ:Lc):Lc:=List.replicate nl none++cap.map λi=>(σ[i]?).join
noncomputable def Vv:Nat:=1000
mutual
noncomputable def ev (C:Calls):E->Lc->Store->R D
 |.c d,_,S=>.ok d S
 |.v i,σ,S=>ob (σ[i]?).join S
 |.tup es,σ,S=>(evs C es σ S).bind λxs S=>if xs.length<=lim then .ok (.tup xs) S else .no
 |.lst es,σ,S=>(evs C es σ S).bind λxs S=>if xs.length<=lim then .ok (.loc S.length) (S++[.lst xs]) else .no
 |.dnew,_,S=>.ok (.loc S.length) (S++[.dt []])
 |.dput1 k v,σ,S=>(ev C k σ S).bind λx S=>(ev C v σ S).bind λy S=>match x with
  |.tup k=>(ob (Xp k) S).bind λk S=>.ok (.loc S.length) (S++[.dt [(k,y)]])
  |_=>.no
 |.bin op a b,σ,S=>(ev C a σ S).bind λx S=>(ev C b σ S).bind λy S=>binop op x y S
 |.neg a,σ,S=>(ev C a σ S).bind λx S=>match x with
  |.int i=>.ok (.int (-i)) S
  |_=>.no
 |.not a,σ,S=>(ev C a σ S).bind λx S=>(ob (truth S x) S).bind λb S=>.ok (.bl !b) S
 |.and a b,σ,S=>(ev C a σ S).bind λx S=>match x with
  |.bl c=>if c then ev C b σ S else .ok (.bl false) S
  |_=>.no
 |.or a b,σ,S=>(ev C a σ S).bind λx S=>match x with
  |.bl c=>if c then .ok (.bl true) S else ev C b σ S
  |_=>.no
 |.ite t a b,σ,S=>(ev C t σ S).bind λx S=>(ob (truth S x) S).bind λc S=>if c then ev C a σ S else ev C b σ S
 |.cmp op a b,σ,S=>(ev C a σ S).bind λx S=>(ev C b σ S).bind λy S=>cmpop op x y S
 |.chain o p a b d,σ,S=>(ev C a σ S).bind λx S=>(ev C b σ S).bind λy S=>(cmpop o x y S).bind λz S=>match z with
  |.bl c=>if c then (ev C d σ S).bind λw S=>cmpop p y w S else .ok (.bl false) S
  |_=>.no
 |.ix a i,σ,S=>(ev C a σ S).bind λx S=>(ev C i σ S).bind λy S=>getix x y S
 |.sl a lo hi,σ,S=>(ev C a σ S).bind λx S=>(evo C lo σ S).bind λl S=>(evo C hi σ S).bind λh S=>slice x l h S
 |.rev a,σ,S=>(ev C a σ S).bind λx S=>reversed x S
 |.call f as,σ,S=>(evs C as σ S).bind λxs S=>C f xs S
 |.blt f as,σ,S=>(evs C as σ S).bind λxs S=>bltin f xs S
 |.mt m o as,σ,S=>(ev C o σ S).bind λx S=>if xW S x=true then (evs C as σ S).bind λxs S=>method m x xs S else .no
 |.isi a ts,σ,S=>(ev C a σ S).bind λx S=>(ob (UV S x ts) S).bind λb S=>.ok (.bl b) S
 |.inT a tab,σ,S=>(ev C a σ S).bind λx S=>match x with
  |.int i=>.ok (.bl ((tab.map (·.1)).contains i)) S
  |_=>.no
 |.getT tab a,σ,S=>(ev C a σ S).bind λx S=>match x with
  |.int i=>(ob (tab.lookup i) S).bind λj S=>.ok (.int j) S
  |_=>.no
 |.comp1 cap nl t it ifs elt,σ,S=>(evw C it σ S).bind λw S=>
   (YT w (λx σ S1=>(ob (assign t x S1 σ) S1).bind λσ S1=>(evt C ifs σ S1).bind λb S1=>if b then (ev C elt σ S1).bind λy S1=>(push S.length y S1).bind λ_ S1=>.ok σ S1 else .ok σ S1) w.items (caught cap nl σ) (S++[.lst []])).bind
    λ_ S1=>.ok (.loc S.length) S1
 |.comp2 cap nl t it ifs u jt jfs elt,σ,S=>(evw C it σ S).bind λw S=>
   (YT w (λx σ S1=>(ob (assign t x S1 σ) S1).bind λσ S1=>(evt C ifs σ S1).bind λb S1=>if b then
    (evw C jt σ S1).bind λw2 S1=>YT w2 (λx σ S1=>(ob (assign u x S1 σ) S1).bind λσ S1=>(evt C jfs σ S1).bind λb S1=>if b then (ev C elt σ S1).bind λy S1=>(push S.length y S1).bind λ_ S1=>.ok σ S1 else .ok σ S1) w2.items σ S1
    else .ok σ S1) w.items (caught cap nl σ) (S++[.lst []])).bind
    λ_ S1=>.ok (.loc S.length) S1
 |.fstr,_,_=>.no
noncomputable def evs (C:Calls):List E->Lc->Store->R (List D)
 |[],_,S=>.ok [] S
 |e::es,σ,S=>(ev C e σ S).bind λx S=>(evs C es σ S).bind λxs S=>.ok (x::xs) S
noncomputable def evo (C:Calls):Option E->Lc->Store->R (Option Int)
 |none,_,S=>.ok none S
 |some e,σ,S=>(ev C e σ S).bind λx S=>match x with
  |.int i=>.ok (some i) S
  |_=>.no
noncomputable def evt (C:Calls):List E->Lc->Store->R Bool
 |[],_,S=>.ok true S
 |e::es,σ,S=>(ev C e σ S).bind λx S=>(ob (truth S x) S).bind λb S=>if b then evt C es σ S else .ok false S
noncomputable def evw (C:Calls):W->Lc->Store->R Walk
 |.rng1 a,σ,S=>(ev C a σ S).bind λx S=>match x with
  |.int i=>if small i then .ok ⟨Z3 0 i.toNat,[]⟩ S else .no
  |_=>.no
 |.rng2 a b,σ,S=>(ev C a σ S).bind λx S=>(ev C b σ S).bind λy S=>match x,y with
  |.int i,.int j=>if (small i&&small j)=true then .ok ⟨Z3 i (j-i).toNat,[]⟩ S else .no
  |_,_=>.no
 |.rrng a b,σ,S=>(ev C a σ S).bind λx S=>(ev C b σ S).bind λy S=>match x,y with
  |.int i,.int j=>if (small i&&small j)=true then .ok ⟨(Z3 i (j-i).toNat).reverse,[]⟩ S else .no
  |_,_=>.no
 |.zip a b,σ,S=>(ev C a σ S).bind λx S=>(ev C b σ S).bind λy S=>match YN S x,YN S y with
  |some v,some w=>.ok ⟨(v.items.zip w.items).map λp=>.tup [p.1,p.2],v.kept++w.kept⟩ S
  |_,_=>.no
 |.enum a,σ,S=>(ev C a σ S).bind λx S=>match YN S x with
  |some w=>.ok ⟨(Z3 0 w.items.length).zip w.items |>.map λp=>.tup [p.1,p.2],w.kept⟩ S
  |none=>.no
 |.of e,σ,S=>(ev C e σ S).bind λx S=>ob (YN S x) S
end
noncomputable def tst (C:Calls) (e:E) (σ:Lc) (S:Store):R Bool:=(ev C e σ S).bind λx S=>ob (truth S x) S
mutual
noncomputable def run (C:Calls):Sm->Lc->Store->R Fl
 |.asg t e,σ,S=>(ev C e σ S).bind λx S=>(ob (assign t x S σ) S).bind λσ S=>.ok (.nx σ) S
 |.par t es,σ,S=>(evs C es σ S).bind λxs S=>(ob (fill t xs σ) S).bind λσ S=>.ok (.nx σ) S
 |.aug i op e,σ,S=>(ob (σ[i]?).join S).bind λx S=>(ev C e σ S).bind λy S=>(augop op x y S).bind λz S=>.ok (.nx (σ.set i (some z))) S
 |.put o i e,σ,S=>(ev C e σ S).bind λv S=>(ev C o σ S).bind λx S=>(ev C i σ S).bind λy S=>(setix x y v S).bind λ_ S=>.ok (.nx σ) S
 |.dput o i e,σ,S=>(ev C e σ S).bind λv S=>(ev C o σ S).bind λx S=>(ev C i σ S).bind λy S=>(jB x y v S).bind λ_ S=>.ok (.nx σ) S
 |.ret e,σ,S=>(ev C e σ S).bind λx S=>.ok (.ret x) S
 |.ex e,σ,S=>(ev C e σ S).bind λ_ S=>.ok (.nx σ) S
 |.ite t a b,σ,S=>(tst C t σ S).bind λc S=>if c then runs C a σ S else runs C b σ S
 |.forr t it b,σ,S=>(evw C it σ S).bind λw S=>Vx w (λx σ S=>(ob (assign t x S σ) S).bind λσ S=>runs C b σ S) w.items σ S
 |.whl t b,σ,S=>XD (tst C t) (runs C b) Vv σ S
 |.raise c as,σ,S=>(evs C as σ S).bind λ_ S=>.ex c S
 |.pas,σ,S=>.ok (.nx σ) S
 |.brk,σ,S=>.ok (.brk σ) S
 |.cnt,σ,S=>.ok (.cnt σ) S
noncomputable def runs (C:Calls):List Sm->Lc->Store->R Fl
 |[],σ,S=>.ok (.nx σ) S
 |s::ss,σ,S=>(run C s σ S).bind λf S=>match f with
  |.nx σ=>runs C ss σ S
  |f=>.ok f S
end
structure Fn where
 ps:Nat
 ns:Nat
 body:List Sm
noncomputable def start (n:Nat) (xs:List D):Lc:=xs.map some++List.replicate (n-xs.length) none
noncomputable def calls (F:List Fn):Nat->Calls
 |0,_,_,_=>.no
 |d+1,f,xs,S=>match F[f]? with
  |some fn=>if xs.length=fn.ps then (runs (calls F d) fn.body (start fn.ns xs) S).bind λf S=>match f with
    |.ret x=>.ok x S
    |.nx _=>.ok .non S
    |_=>.no
   else .no
  |none=>.no
end Ev
namespace Sd
open PySem PySem.Spec PyProof.Rows L2
open Ev (D Ob Store Lc R E Sm Calls Walk Fl Fn Bop Cop Ty Bf Mf ev evs evo evt evw tst run runs)
mutual
noncomputable def Rep (ρ:List Addr) (H:Hp):D->V->Prop
 |.non,v=>v=.non
 |.bl b,v=>v=.bl b
 |.int i,v=>v=.int i
 |.str x,v=>v=.str x
 |.tup ds,v=>∃a xs,v=.ref a/\H a=some (.tup xs)/\Reps ρ H ds xs
 |.loc n,v=>∃a,v=.ref a/\ρ[n]? = some a
 |.fn _,_=>False
 |.exc _ _,_=>False
noncomputable def Reps (ρ:List Addr) (H:Hp):List D->List V->Prop
 |[],xs=>xs=[]
 |d::ds,xs=>∃v vs,xs=v::vs/\Rep ρ H d v/\Reps ρ H ds vs
end
structure Fut (ρ:List Addr) (H:Hp) (ρ':List Addr) (H':Hp):Prop where
 pre:∃t,ρ'=ρ++t
 tup:∀a xs,H a=some (.tup xs)->H' a=some (.tup xs)
theorem Fut.refl (ρ:List Addr) (H:Hp):Fut ρ H ρ H:=⟨⟨[],by simp⟩,λ_ _ h=>h⟩
theorem Fut.trans {ρ ρ1 ρ2:List Addr}{H H1 H2:Hp}(a:Fut ρ H ρ1 H1) (b:Fut ρ1 H1 ρ2 H2):Fut ρ H ρ2 H2:=
 ⟨by obtain⟨t,e⟩:=a.pre;obtain⟨u,f⟩:=b.pre;exact⟨t++u,by rw[f,e,List.append_assoc]⟩,λc xs h=>b.tup c xs (a.tup c xs h)⟩
theorem Fut.at {ρ ρ':List Addr}{H H':Hp}(f:Fut ρ H ρ' H') {n:Nat}{a:Addr}(h:ρ[n]? = some a):ρ'[n]? = some a:=by
 obtain⟨t,rfl⟩:=f.pre;have hn:n<ρ.length:=(List.getElem?_eq_some_iff.mp h).1;rw[List.getElem?_append_left hn];exact h
mutual
theorem Rep.mono {ρ ρ':List Addr}{H H':Hp}(f:Fut ρ H ρ' H'):∀{d:D}{v:V},Rep ρ H d v->Rep ρ' H' d v
 |.non,_,h | .bl _,_,h | .int _,_,h | .str _,_,h=>by unfold Rep at h ⊢;exact h
 |.tup ds,v,h=>by
  unfold Rep at h ⊢;obtain⟨a,xs,e,t,r⟩:=h;exact⟨a,xs,e,f.tup a xs t,Reps.mono f r⟩
 |.loc n,v,h=>by
  unfold Rep at h ⊢;obtain⟨a,e,t⟩:=h;exact⟨a,e,f.at t⟩
 |.fn _,_,h | .exc _ _,_,h=>by unfold Rep at h;exact h.elim
theorem Reps.mono {ρ ρ':List Addr}{H H':Hp}(f:Fut ρ H ρ' H'):∀{ds:List D}{xs:List V},Reps ρ H ds xs->Reps ρ' H' ds xs
 |[],_,h=>by unfold Reps at h ⊢;exact h
 |d::ds,xs,h=>by
  unfold Reps at h ⊢;obtain⟨v,vs,e,r,rs⟩:=h;exact⟨v,vs,e,Rep.mono f r,Reps.mono f rs⟩
end
theorem Reps.nil {ρ:List Addr}{H:Hp}:Reps ρ H [] []:=by unfold Reps;rfl
theorem Reps.cons {ρ:List Addr}{H:Hp}{d:D}{v:V}{ds:List D}{vs:List V}(r:Rep ρ H d v) (rs:Reps ρ H ds vs):Reps ρ H (d::ds) (v::vs):=by
 unfold Reps;exact⟨v,vs,rfl,r,rs⟩
theorem Reps.length {ρ:List Addr}{H:Hp}:∀{ds:List D}{xs:List V},Reps ρ H ds xs->xs.length=ds.length
 |[],_,h=>by unfold Reps at h;rw[h];rfl
 |d::ds,xs,h=>by
  unfold Reps at h;obtain⟨v,vs,rfl,_,rs⟩:=h;rw[List.length_cons,List.length_cons,Reps.length rs]
theorem Reps.append {ρ:List Addr}{H:Hp}:∀{ds es:List D}{xs ys:List V},Reps ρ H ds xs->Reps ρ H es ys->Reps ρ H (ds++es) (xs++ys)
 |[],_,_,_,h,r=>by unfold Reps at h;rw[h];exact r
 |d::ds,_,_,_,h,r=>by
  unfold Reps at h;obtain⟨v,vs,rfl,a,rs⟩:=h;exact Reps.cons a (Reps.append rs r)
theorem Reps.take {ρ:List Addr}{H:Hp}:∀{ds:List D}{xs:List V}(k:Nat),Reps ρ H ds xs->Reps ρ H (ds.take k) (xs.take k)
 |_,_,0,_=>Reps.nil
 |[],_,k+1,h=>by unfold Reps at h;rw[h];exact Reps.nil
 |d::ds,_,k+1,h=>by
  unfold Reps at h;obtain⟨v,vs,rfl,a,rs⟩:=h;exact Reps.cons a (Reps.take k rs)
theorem Reps.drop {ρ:List Addr}{H:Hp}:∀{ds:List D}{xs:List V}(k:Nat),Reps ρ H ds xs->Reps ρ H (ds.drop k) (xs.drop k)
 |_,_,0,h=>h
 |[],_,k+1,h=>by unfold Reps at h;rw[h];exact Reps.nil
 |d::ds,_,k+1,h=>by
  unfold Reps at h;obtain⟨v,vs,rfl,a,rs⟩:=h;exact Reps.drop k rs
theorem Reps.get {ρ:List Addr}{H:Hp}:∀{ds:List D}{xs:List V}{i:Nat}{d:D},Reps ρ H ds xs->ds[i]? = some d->∃v,xs[i]? = some v/\Rep ρ H d v
 |[],_,_,_,_,e=>by simp at e
 |d::ds,_,0,_,h,e=>by
  unfold Reps at h;obtain⟨v,vs,rfl,a,rs⟩:=h;simp at e;subst e;exact⟨v,rfl,a⟩
 |d::ds,_,i+1,_,h,e=>by
  unfold Reps at h;obtain⟨v,vs,rfl,a,rs⟩:=h;obtain⟨u,q,r⟩:=Reps.get (i:=i) rs (by simpa using e)
  exact⟨u,by simpa using q,r⟩
theorem Reps.set {ρ:List Addr}{H:Hp}{d:D}{v:V}(r:Rep ρ H d v):∀{ds:List D}{xs:List V}(i:Nat),Reps ρ H ds xs->Reps ρ H (ds.set i d) (xs.set i v)
 |[],_,i,h=>by unfold Reps at h;rw[h];exact Reps.nil
 |_::_,_,0,h=>by
  unfold Reps at h;obtain⟨_,_,rfl,_,rs⟩:=h;exact Reps.cons r rs
 |_::_,_,i+1,h=>by
  unfold Reps at h;obtain⟨_,_,rfl,a,rs⟩:=h;exact Reps.cons a (Reps.set r i rs)
theorem Reps.reverse {ρ:List Addr}{H:Hp}:∀{ds:List D}{xs:List V},Reps ρ H ds xs->Reps ρ H ds.reverse xs.reverse
 |[],_,h=>by unfold Reps at h;rw[h];exact Reps.nil
 |d::ds,_,h=>by
  unfold Reps at h;obtain⟨v,vs,rfl,a,rs⟩:=h;rw[List.reverse_cons,List.reverse_cons];exact Reps.append (Reps.reverse rs) (Reps.cons a Reps.nil)
theorem Reps.rep {ρ:List Addr}{H:Hp}{ds:List D}{xs:List V}(h:Reps ρ H ds xs):∀k:Nat,Reps ρ H (List.replicate k ds).flatten (List.replicate k xs).flatten
 |0=>Reps.nil
 |k+1=>by
  rw[List.replicate_succ,List.replicate_succ,List.flatten_cons,List.flatten_cons];exact Reps.append h (Reps.rep h k)
theorem Reps.ints {ρ:List Addr}{H:Hp}:∀ns:List Int,Reps ρ H (ns.map D.int) (ns.map V.int)
 |[]=>Reps.nil
 |n::ns=>Reps.cons (by unfold Rep;rfl) (Reps.ints ns)
noncomputable def Scr (K:PySem.W.Frag) (H:Hp) (a:Addr) (ns:List Int):Prop:=
 (∃o,H a=some (.frz o (.lst (ns.map V.int))))\/
  ∃(o:Obj) (its:Array Value) (n:Nat),K.lookup a=some o/\o.cls=.type "list"/\o.dict=none/\o.data=.seq its n/\its.size<=sizeLine/\Vals (ns.map V.int) its.toList
theorem Scr.sq {K:PySem.W.Frag}{H:Hp}{a:Addr}{ns:List Int}(h:Scr K H a ns):SqL K H a (ns.map V.int):=by
 rcases h with ⟨o,h⟩ | h
 ·exact .inl (.inr ⟨o,h⟩)
 ·exact .inr h
noncomputable def uZ (ρ:List Addr) (H:Hp) (kvs:List (List Int×D)) (vs:List (List Key×V)):Prop:=
 Paired (λ(p:List Int×D) (q:List Key×V)=>q.1=p.1.map Sum.inl/\Rep ρ H p.2 q.2) kvs vs
noncomputable def j4 (ρ:List Addr) (H:Hp) (kvs:List (Int×D)) (vs:List (Key×V)):Prop:=
 Paired (λ(p:Int×D) (q:Key×V)=>q.1=Sum.inl p.1/\Rep ρ H p.2 q.2) kvs vs
noncomputable def QZ (K:PySem.W.Frag) (ρ:List Addr) (H:Hp) (a:Addr):Ob->Prop
 |.lst ds=>∃xs,H a=some (.lst xs)/\Reps ρ H ds xs
 |.scr ns=>Scr K H a ns
 |.dt kvs=>∃vs,H a=some (.dT vs)/\uZ ρ H kvs vs
 |.dk kvs=>∃vs,H a=some (.dK vs)/\j4 ρ H kvs vs
 |.st _=>False
structure St3 (K:PySem.W.Frag) (ρ:List Addr) (S:Store) (H:Hp):Prop where
 len:ρ.length=S.length
 nd:∀(m n:Nat) (a:Addr),ρ[m]? = some a->ρ[n]? = some a->m≠n->(∃ns,S[m]? = some (.scr ns))\/(∃ns,S[n]? = some (.scr ns))
 ob:∀(n:Nat) (o:Ob) (a:Addr),S[n]? = some o->ρ[n]? = some a->QZ K ρ H a o
structure LocR (ρ:List Addr) (H:Hp) (l:Lc) (σ:L2.St):Prop where
 len:l.length=σ.length
 val:∀(i:Nat) (d:D),l[i]? = some (some d)->∃v,σ[i]? = some (some v)/\Rep ρ H d v
theorem LocR.mono {ρ ρ':List Addr}{H H':Hp}{l:Lc}{σ:L2.St}(f:Fut ρ H ρ' H') (r:LocR ρ H l σ):LocR ρ' H' l σ:=
 ⟨r.len,λi d e=>let ⟨v,q,h⟩:=r.val i d e;⟨v,q,h.mono f⟩⟩
theorem LocR.set {ρ:List Addr}{H:Hp}{l:Lc}{σ:L2.St}{d:D}{v:V}(r:LocR ρ H l σ) (i:Nat) (h:Rep ρ H d v):LocR ρ H (l.set i (some d)) (σ.set i (some v)):=
 ⟨by rw[List.length_set,List.length_set];exact r.len,λj e q=>by
  rw[List.getElem?_set] at q ⊢;split at q
  ·rename_i hij
   subst hij;split at q
   ·rename_i hl
    cases q;rw[if_pos rfl,if_pos (by rw[<-r.len];exact hl)]
    exact⟨v,rfl,h⟩
   ·cases q
  ·rename_i hij
   rw[if_neg hij];exact r.val j e q⟩
noncomputable def End {α β:Type} (K:PySem.W.Frag) (xw:Nat->Hp->Prop) (rep:List Addr->Hp->α->β->Prop) (ρ:List Addr) (H:Hp) (Q:β->Hp->Prop):R α->Prop
 |.ok d S=>∀ρ' H' v,Fut ρ H ρ' H'->St3 K ρ' S H'->rep ρ' H' d v->Q v H'
 |.ex c S=>∀ρ' H',Fut ρ H ρ' H'->St3 K ρ' S H'->xw c H'
 |.no=>False
section
variable {K:PySem.W.Frag}{xw:Nat->Hp->Prop}{ρ ρ':List Addr}{H H':Hp}{α β α' β':Type}{rep:List Addr->Hp->α->β->Prop}{rep':List Addr->Hp->α'->β'->Prop}
theorem End.mono {r:R α}{Q:β->Hp->Prop}(f:Fut ρ H ρ' H') (h:End K xw rep ρ H Q r):End K xw rep ρ' H' Q r:=by
 cases r with
 |ok d S=>exact λρ2 H2 v g st r=>h ρ2 H2 v (f.trans g) st r
 |ex c S=>exact λρ2 H2 g st=>h ρ2 H2 (f.trans g) st
 |no=>exact h
theorem End.bind {r:R α}{f:α->Store->R α'}{Q:β'->Hp->Prop}{Q1:β->Hp->Prop}(h:End K xw rep' ρ H Q (r.bind f))
  (k:∀d S ρ1 H1 v,Fut ρ H ρ1 H1->St3 K ρ1 S H1->rep ρ1 H1 d v->End K xw rep' ρ1 H1 Q (f d S)->Q1 v H1):End K xw rep ρ H Q1 r:=by
 cases r with
 |ok d S=>exact λρ1 H1 v g st r=>k d S ρ1 H1 v g st r (End.mono g h)
 |ex c S=>exact h
 |no=>exact h
theorem End.ok {a:α}{S:Store}{Q:β->Hp->Prop}{v:β}(h:End K xw rep ρ H Q (.ok a S)) (st:St3 K ρ S H) (r:rep ρ H a v):Q v H:=h ρ H v (Fut.refl ρ H) st r
theorem End.ob {o:Option α}{S:Store}{f:α->Store->R α'}{Q:β'->Hp->Prop}(h:End K xw rep' ρ H Q ((Ev.ob o S).bind f)):∃a,o=some a/\End K xw rep' ρ H Q (f a S):=by
 cases o with
 |none=>exact h.elim
 |some a=>exact⟨a,rfl,h⟩
theorem End.ite {c:Prop}[Decidable c]{a b:R α}{Q:β->Hp->Prop}(h:End K xw rep ρ H Q (if c then a else b)):(c/\End K xw rep ρ H Q a)\/(¬c/\End K xw rep ρ H Q b):=by
 split at h
 ·exact .inl ⟨‹_›,h⟩
 ·exact .inr ⟨‹_›,h⟩
theorem End.guard {c:Prop}[Decidable c]{a:R α}{Q:β->Hp->Prop}(h:End K xw rep ρ H Q (if c then a else .no)):c/\End K xw rep ρ H Q a:=by
 rcases h.ite with h | ⟨_,h⟩
 ·exact h
 ·exact h.elim
end
noncomputable def Vo (_:List Addr) (_:Hp) (a b:Bool):Prop:=a=b
noncomputable def uD (_:List Addr) (_:Hp) (a b:Option Int):Prop:=a=b
section
variable (X:Cx) (xw:Nat->Hp->Prop)
noncomputable def tE (f:Lc->Store->R D):TE:=λσ H Q=>∃ρ l S,St3 X.K ρ S H/\LocR ρ H l σ/\End X.K xw Rep ρ H Q (f l S)
noncomputable def tA (f:Lc->Store->R (List D)):TA:=λσ H Q=>∃ρ l S,St3 X.K ρ S H/\LocR ρ H l σ/\End X.K xw Reps ρ H Q (f l S)
noncomputable def tB3 (f:Lc->Store->R Bool):TT:=λσ H Q=>∃ρ l S,St3 X.K ρ S H/\LocR ρ H l σ/\End X.K xw Vo ρ H Q (f l S)
noncomputable def tO (f:Lc->Store->R (Option Int)):TO:=λσ H Q=>∃ρ l S,St3 X.K ρ S H/\LocR ρ H l σ/\End X.K xw uD ρ H Q (f l S)
variable (C:Calls)
noncomputable def CE (e:Expr) (i:E):Prop:=PE X e (tE X xw (ev C i))
noncomputable def CT (e:Expr) (i:E):Prop:=PT X e (tB3 X xw (tst C i))
noncomputable def CA (es:List Expr) (is:List E):Prop:=PA X es (tA X xw (evs C is))
noncomputable def CO (e:Option Expr) (i:Option E):Prop:=PO X e (tO X xw (evo C i))
end
theorem PE.imp {X:Cx}{e:Expr}{t t':TE}(h:PE X e t) (k:∀σ H Q,t' σ H Q->t σ H Q):PE X e t':=λpins s σ H Q I q=>h pins s σ H Q I (k σ H Q q)
theorem PT.imp {X:Cx}{e:Expr}{t t':TT}(h:PT X e t) (k:∀σ H Q,t' σ H Q->t σ H Q):PT X e t':=λpins s σ H Q I q=>h pins s σ H Q I (k σ H Q q)
theorem PA.imp {X:Cx}{e:List Expr}{t t':TA}(h:PA X e t) (k:∀σ H Q,t' σ H Q->t σ H Q):PA X e t':=λpos pins s σ H Q I q=>h pos pins s σ H Q I (k σ H Q q)
theorem PO.imp {X:Cx}{e:Option Expr}{t t':TO}(h:PO X e t) (k:∀σ H Q,t' σ H Q->t σ H Q):PO X e t':=λpins s σ H Q I q=>h pins s σ H Q I (k σ H Q q)
end Sd
namespace Sd
open PySem PySem.Spec PyProof.Rows L2
open Ev (D Ob Store Lc R E Sm Calls Walk Fl Fn Bop Cop Ty Bf Mf ev evs evo evt evw tst run runs)
section
variable {K:PySem.W.Frag}{ρ ρ':List Addr}{S:Store}{H H':Hp}{a p:Addr}{n:Nat}
theorem St3.at (st:St3 K ρ S H) {o:Ob}(h:S[n]? = some o):∃a,ρ[n]? = some a/\QZ K ρ H a o:=by
 have hn:n<S.length:=(List.getElem?_eq_some_iff.mp h).1;have hr:n<ρ.length:=by rw[st.len];exact hn
 exact⟨ρ[n],List.getElem?_eq_getElem hr,st.ob n o _ h (List.getElem?_eq_getElem hr)⟩
theorem Paired.map2 {α β:Type}{F G:α->β->Prop}:∀{l₁:List α}{l₂:List β},Paired F l₁ l₂->(∀a b,F a b->G a b)->Paired G l₁ l₂
 |_,_,.nil,_=>.nil
 |_,_,.cons r t,f=>.cons (f _ _ r) (Paired.map2 t f)
theorem QZ.keep {o:Ob}(f:Fut ρ H ρ' H') (k:∀u,H a=some u->H' a=some u) (h:QZ K ρ H a o):QZ K ρ' H' a o:=by
 cases o with
 |lst ds=>obtain⟨xs,e,r⟩:=h;exact⟨xs,k _ e,r.mono f⟩
 |scr ns=>
  rcases h with ⟨o,e⟩ | h
  ·exact .inl ⟨o,k _ e⟩
  ·exact .inr h
 |dt kvs=>obtain⟨vs,e,r⟩:=h;exact⟨vs,k _ e,Paired.map2 r λp q z=>⟨z.1,z.2.mono f⟩⟩
 |dk kvs=>obtain⟨vs,e,r⟩:=h;exact⟨vs,k _ e,Paired.map2 r λp q z=>⟨z.1,z.2.mono f⟩⟩
 |st _=>exact h
theorem YE {o:HO}(hp:H p=none):Fut ρ H ρ (upd H p o):=⟨⟨[],by simp⟩,λb xs h=>by rw[Z0 (ZV h hp)];exact h⟩
theorem Vm {o:HO}(hp:H p=none):Fut ρ H (ρ++[p]) (upd H p o):=⟨⟨[p],rfl⟩,λb xs h=>by rw[Z0 (ZV h hp)];exact h⟩
theorem St3.fresh {o:HO}(st:St3 K ρ S H) (hp:H p=none):St3 K ρ S (upd H p o):=
 ⟨st.len,st.nd,λn ob a h1 h2=>(st.ob n ob a h1 h2).keep (YE hp) λu e=>by rw[Z0 (ZV e hp)];exact e⟩
theorem St3.new {o:Ob}{ho:HO}(st:St3 K ρ S H) (hp:H p=none) (r:QZ K (ρ++[p]) (upd H p ho) p o):St3 K (ρ++[p]) (S++[o]) (upd H p ho):=by
 have old:∀(m:Nat),(ρ++[p])[m]? = some p->m≠S.length->∃ns,S[m]? = some (.scr ns):=λm e hm=>by
  have hml:m<S.length:=by
   have:=(List.getElem?_eq_some_iff.mp e).1;rw[List.length_append,st.len,List.length_singleton] at this;omega
  rw[List.getElem?_append_left (by rw[st.len];exact hml)] at e
  have q:=st.ob m S[m] p (List.getElem?_eq_getElem hml) e;rw[List.getElem?_eq_getElem hml];generalize S[m]=ob at q;cases ob with
  |lst ds=>obtain⟨xs,z,_⟩:=q;rw[hp] at z;cases z
  |scr ns=>exact⟨ns,rfl⟩
  |dt kvs=>obtain⟨xs,z,_⟩:=q;rw[hp] at z;cases z
  |dk kvs=>obtain⟨xs,z,_⟩:=q;rw[hp] at z;cases z
  |st _=>exact q.elim
 have lenE:(S++[o])[S.length]? = some o:=by simp
 have up:∀{m:Nat} {ns:List Int},S[m]? = some (.scr ns)->(S++[o])[m]? = some (.scr ns):=λ{m ns} e=>by
  rw[List.getElem?_append_left (List.getElem?_eq_some_iff.mp e).1];exact e
 refine⟨by rw[List.length_append,List.length_append,st.len];rfl,λm n a h1 h2 ne=>?_,λn ob a h1 h2=>?_⟩
 ·by_cases hm:m=S.length
  ·have ha:a=p:=by
    rw[hm,<-st.len,List.getElem?_append_right (Nat.le_refl _)] at h1
    simpa using h1.symm
   rw[ha] at h2;obtain⟨ns,e⟩:=old n h2 (by omega)
   exact .inr ⟨ns,up e⟩
  ·by_cases hn:n=S.length
   ·have ha:a=p:=by
     rw[hn,<-st.len,List.getElem?_append_right (Nat.le_refl _)] at h2
     simpa using h2.symm
    rw[ha] at h1;obtain⟨ns,e⟩:=old m h1 hm;exact .inl ⟨ns,up e⟩
   ·have lt:∀{k:Nat},(ρ++[p])[k]? = some a->k≠S.length->ρ[k]? = some a:=λ{k} e hk=>by
     have:=(List.getElem?_eq_some_iff.mp e).1;rw[List.length_append,st.len,List.length_singleton] at this;rw[List.getElem?_append_left (by rw[st.len];omega)] at e
     exact e
    rcases st.nd m n a (lt h1 hm) (lt h2 hn) ne with ⟨ns,e⟩ | ⟨ns,e⟩
    ·exact .inl ⟨ns,up e⟩
    ·exact .inr ⟨ns,up e⟩
 ·by_cases hn:n=S.length
  ·subst hn
   rw[lenE] at h1;cases h1;have ha:a=p:=by
    rw[<-st.len,List.getElem?_append_right (Nat.le_refl _)] at h2
    simpa using h2.symm
   subst ha;exact r
  ·have hl:n<S.length:=by
    have:=(List.getElem?_eq_some_iff.mp h1).1;rw[List.length_append,List.length_singleton] at this;omega
   rw[List.getElem?_append_left hl] at h1;rw[List.getElem?_append_left (by rw[st.len];exact hl)] at h2
   exact (st.ob n ob a h1 h2).keep (Vm hp) λu e=>by rw[Z0 (ZV e hp)];exact e
theorem XR {xs ys:List V}(h:H a=some (.lst xs)):Fut ρ H ρ (upd H a (.lst ys)):=⟨⟨[],by simp⟩,λb zs e=>by
 rw[Z0 (by intro z;rw[z,h] at e;cases e)];exact e⟩
theorem St3.wr {xs ys:List V}{ds es:List D}(st:St3 K ρ S H) (hr:ρ[n]? = some a) (hS:S[n]? = some (.lst ds)) (h:H a=some (.lst xs)) (r:Reps ρ H es ys):St3 K ρ (S.set n (.lst es)) (upd H a (.lst ys)):=by
 have f:=XR (ρ:=ρ) (ys:=ys) h;refine⟨by rw[List.length_set];exact st.len,λm k b h1 h2 ne=>?_,λm ob b h1 h2=>?_⟩
 ·have keep:∀{j:Nat} {ns:List Int},S[j]? = some (.scr ns)->(S.set n (.lst es))[j]? = some (.scr ns):=λ{j ns} e=>by
   rw[List.getElem?_set];split
   ·rename_i z;rw[<-z,hS] at e;cases e
   ·exact e
  rcases st.nd m k b h1 h2 ne with ⟨ns,e⟩ | ⟨ns,e⟩
  ·exact .inl ⟨ns,keep e⟩
  ·exact .inr ⟨ns,keep e⟩
 ·by_cases hm:n=m
  ·subst hm
   rw[hr] at h2;cases h2;rw[List.getElem?_set,if_pos rfl] at h1;split at h1
   ·cases h1
    exact⟨ys,YH,r.mono f⟩
   ·cases h1
  ·rw[List.getElem?_set,if_neg hm] at h1
   have q:=st.ob m ob b h1 h2;by_cases hb:b=a
   ·subst hb
    rcases st.nd n m b hr h2 hm with ⟨ns,e⟩ | ⟨ns,e⟩
    ·rw[hS] at e;cases e
    ·rw[h1] at e
     cases e;rcases q with ⟨o,e⟩ | q
     ·rw[h] at e;cases e
     ·exact .inr q
   ·exact q.keep f λu e=>by rw[Z0 hb];exact e
theorem St3.lst (st:St3 K ρ S H) {ds:List D}(h:Ev.Zv S n=some ds):S[n]? = some (.lst ds)/\∃a xs,ρ[n]? = some a/\H a=some (.lst xs)/\Reps ρ H ds xs:=by
 unfold Ev.Zv at h;split at h
 ·rename_i zs e
  cases h;obtain⟨a,hr,xs,e2,r⟩:=st.at e;exact⟨e,a,xs,hr,e2,r⟩
 ·cases h
theorem St3.seq (st:St3 K ρ S H) {ds:List D}(h:Ev.Yu S n=some ds):∃a xs,ρ[n]? = some a/\SqL K H a xs/\Reps ρ H ds xs:=by
 unfold Ev.Yu at h;split at h
 ·rename_i zs e
  cases h;obtain⟨a,hr,xs,e2,r⟩:=st.at e;exact⟨a,xs,hr,SqL.of e2,r⟩
 ·rename_i ns e
  cases h;obtain⟨a,hr,q⟩:=st.at e;exact⟨a,_,hr,Scr.sq q,Reps.ints ns⟩
 ·cases h
end
section
variable {ρ:List Addr}{H:Hp}{v:V}
theorem Rep.int' {i:Int}(h:Rep ρ H (.int i) v):v=.int i:=by unfold Rep at h;exact h
theorem Rep.bl' {b:Bool}(h:Rep ρ H (.bl b) v):v=.bl b:=by unfold Rep at h;exact h
theorem Rep.non' (h:Rep ρ H .non v):v=.non:=by unfold Rep at h;exact h
theorem Rep.str' {x:Str}(h:Rep ρ H (.str x) v):v=.str x:=by unfold Rep at h;exact h
theorem Rep.tup' {ds:List D}(h:Rep ρ H (.tup ds) v):∃a xs,v=.ref a/\H a=some (.tup xs)/\Reps ρ H ds xs:=by unfold Rep at h;exact h
theorem Rep.loc' {n:Nat}(h:Rep ρ H (.loc n) v):∃a,v=.ref a/\ρ[n]? = some a:=by unfold Rep at h;exact h
theorem ZF (i:Int):Rep ρ H (.int i) (.int i):=by unfold Rep;rfl
theorem ZH (b:Bool):Rep ρ H (.bl b) (.bl b):=by unfold Rep;rfl
theorem Ut:Rep ρ H .non .non:=by unfold Rep;rfl
theorem Ye {ds:List D}{a:Addr}{xs:List V}(h:H a=some (.tup xs)) (r:Reps ρ H ds xs):Rep ρ H (.tup ds) (.ref a):=by unfold Rep;exact⟨a,xs,rfl,h,r⟩
theorem Uv {n:Nat}{a:Addr}(h:ρ[n]? = some a):Rep ρ H (.loc n) (.ref a):=by unfold Rep;exact⟨a,rfl,h⟩
end
theorem V0:Ev.lim=sizeLine:=by rw[sizeLine_eq];rfl
section
variable {K:PySem.W.Frag}{xw:Nat->Hp->Prop}{ρ:List Addr}{H:Hp}{S:Store}{Q:VK}
theorem End.newT {ds:List D}{xs:List V}(h:End K xw Rep ρ H Q (.ok (.tup ds) S)) (st:St3 K ρ S H) (r:Reps ρ H ds xs):∀p,H p=none->Q (.ref p) (upd H p (.tup xs)):=λp hp=>
 h ρ _ _ (YE hp) (st.fresh hp) (Ye YH (r.mono (YE hp)))
theorem End.newL {ds:List D}{xs:List V}(h:End K xw Rep ρ H Q (.ok (.loc S.length) (S++[.lst ds]))) (st:St3 K ρ S H) (r:Reps ρ H ds xs):∀p,H p=none->Q (.ref p) (upd H p (.lst xs)):=λp hp=>
 h (ρ++[p]) _ _ (Vm hp) (st.new hp ⟨xs,YH,r.mono (Vm hp)⟩) (Uv (by rw[<-st.len];simp))
end
section
variable {X:Cx}{xw:Nat->Hp->Prop}{C:Calls}{e a b c:Expr}{i j k:E}{pos:Pos}
theorem Zr {n:Int}{q}:CE X xw C (.Constant (.int n) q pos) (.c (.int n)):=PE.imp jh λσ H Q ⟨ρ,l,S,st,lr,h⟩=>End.ok h st (ZF n)
theorem YF {n:Bool}{q}:CE X xw C (.Constant (.bool n) q pos) (.c (.bl n)):=PE.imp qo λσ H Q ⟨ρ,l,S,st,lr,h⟩=>End.ok h st (ZH n)
theorem WD {q}:CE X xw C (.Constant .none q pos) (.c .non):=PE.imp qX λσ H Q ⟨ρ,l,S,st,lr,h⟩=>End.ok h st Ut
theorem Zd (n:Nat) {x:Str}(hN:X.N[n]? = some x:=by rfl) (hv:Vis X.env.scope x:=by first | exact Or.inl rfl | exact Or.inr (Or.inl rfl) | exact Or.inr (Or.inr rfl)) (hd:(x == ("__debug__" : Str))=false:=by decide)
  (hcd:(x == ("__classdict__" : Str))=false:=by decide):CE X xw C (.Name x pos) (.v n):=PE.imp (qr hN hv hd hcd) λσ H Q ⟨ρ,l,S,st,lr,h⟩=>by
 rw[ev] at h;cases q:l[n]? with
 |none=>rw[q] at h;exact h.elim
 |some o=>
  cases o with
  |none=>rw[q] at h;exact h.elim
  |some d=>
   rw[q] at h;obtain⟨v,q2,r⟩:=lr.val n d q;exact⟨v,q2,End.ok h st r⟩
theorem Zf:CA X xw C [] []:=PA.imp JN λσ H Q ⟨ρ,l,S,st,lr,h⟩=>by
 rw[evs] at h;exact End.ok h st Reps.nil
theorem Za {es:List Expr}{is:List E}(ha:CE X xw C e i) (hr:CA X xw C es is) (hs:starEach (e::es) X.env=(false,eval e X.env)::starEach es X.env:=by rfl):CA X xw C (e::es) (i::is):=
 PA.imp (Wc ha hr hs) λσ H Q ⟨ρ,l,S,st,lr,h⟩=>by
  rw[evs] at h;exact⟨ρ,l,S,st,lr,h.bind λx S1 ρ1 H1 v f1 st1 r1 h1=>⟨ρ1,l,S1,st1,lr.mono f1,h1.bind λxs S2 ρ2 H2 vs f2 st2 r2 h2=>h2.ok st2 (Reps.cons (r1.mono f2) r2)⟩⟩
theorem ZT {es:List Expr}{is:List E}{q}(h:CA X xw C es is):CE X xw C (.Tuple es q pos) (.tup is):=PE.imp (xC h) λσ H Q ⟨ρ,l,S,st,lr,h⟩=>by
 rw[ev] at h;refine⟨ρ,l,S,st,lr,h.bind λxs S1 ρ1 H1 vs f1 st1 r1 h1=>?_⟩
 obtain⟨hl,h1⟩:=h1.guard;exact⟨by rw[r1.length,<-V0];exact hl,h1.newT st1 r1⟩
theorem Xd {es:List Expr}{is:List E}(h:CA X xw C es is):CE X xw C (.List es pos) (.lst is):=PE.imp (qD h) λσ H Q ⟨ρ,l,S,st,lr,h⟩=>by
 rw[ev] at h;refine⟨ρ,l,S,st,lr,h.bind λxs S1 ρ1 H1 vs f1 st1 r1 h1=>?_⟩
 obtain⟨hl,h1⟩:=h1.guard;exact⟨by rw[r1.length,<-V0];exact hl,h1.newL st1 r1⟩
theorem WH {r:R2}{g:D->D->Store->R D}(hg:∀{ρ H S x y v u Q},St3 X.K ρ S H->Rep ρ H x v->Rep ρ H y u->End X.K xw Rep ρ H Q (g x y S)->r v u H Q) :
  ∀σ H Q,tE X xw (λl S=>(ev C i l S).bind λx S=>(ev C j l S).bind λy S=>g x y S) σ H Q->tOp r (tE X xw (ev C i)) (tE X xw (ev C j)) σ H Q:=λσ H Q ⟨ρ,l,S,st,lr,h⟩=>
 ⟨ρ,l,S,st,lr,h.bind λx S1 ρ1 H1 v f1 st1 r1 h1=>⟨ρ1,l,S1,st1,lr.mono f1,h1.bind λy S2 ρ2 H2 u f2 st2 r2 h2=>hg st2 (r1.mono f2) r2 h2⟩⟩
end
end Sd
namespace Sd
open PySem PySem.Spec PyProof.Rows L2
open Ev (D Ob Store Lc R E Sm Calls Walk Fl Fn Bop Cop Ty Bf Mf ev evs evo evt evw tst run runs)
section
variable {X:Cx}
noncomputable def wo (K:PySem.W.Frag):R2:=λx y H Q=>∃a b ys,x=.ref a/\y=.ref b/\SqT K H a []/\SqT K H b ys/\Q (.ref b) H
theorem vn:OpR X (binaryOp .Add) (wo X.K):=by
 intro pins s σ H x y v u Q I rx ry h;obtain⟨a,b,ys,rfl,rfl,ha,hb,q⟩:=h;cases rx;cases ry;obtain⟨its,r1,p1,_⟩:=I.tuple ha;obtain⟨its2,r2,p2,_⟩:=I.tuple hb;have e0:its=[]:=r1.nil_iff.mpr rfl;obtain⟨⟨cls,dd,data,sl⟩,ho,hc,n,hd⟩:=id p1;obtain⟨⟨cls2,dd2,data2,sl2⟩,ho2,hc2,n2,hd2⟩:=id p2;simp only at hc hd hc2 hd2;subst hc hd hc2 hd2;exact concat_meets ⟨_,ho,rfl⟩ ⟨_,ho2,rfl⟩ noFill_tuple_add seq_tuple_add PySem.F.slot_tuple_add PySem.F.entry_tuple_add (PySem.F.args_tuple_add_2 _ _)
   (tuple_addW0 a b its.toArray its2.toArray n n2 dd dd2 sl sl2 (by rw[e0];rfl)) ⟨ho,ho2,⟨.ref b,H,I,rfl,q⟩⟩
noncomputable def ZaG (K:PySem.W.Frag):V->Option Int->Option Int->Hp->VK->Prop:=λx lo hi H Q=>∃a xs,x=.ref a/\SqT K H a xs/\
 (HT.sIx xs.length 0 lo=0/\HT.sIx xs.length xs.length hi=xs.length)/\Q (.ref a) H
theorem W4 {prog:Program}{w:World}{A:Around}{E:Value->Shared->Prop}{s:Shared}{t sl:Addr}{items:Array Value}{vl vu:Value}{lo hi:Option Int}{Q:Value->Shared->Prop}(ht:IsTup s.heap t items) (hs:s.heap.IsSliceOf sl vl vu .none) (pl:IsPart vl lo) (pu:IsPart vu hi)
  (hw:HT.sIx items.size 0 lo=0/\HT.sIx items.size items.size hi=items.size) (h:Q (.ref t) s):wpAny (model prog w) A (getItem (.ref t) (.ref sl)) Q E s:=by
 obtain⟨os,hos,hcs,hds⟩:=id hs;have hTs:s.TypeIs (.ref sl) "slice":=⟨os,hos,hcs⟩;unfold getItem
 try with_reducible refine wpAny_holding ?_
 first | refine wpAny_bind (wpAny_pure ?_) | skip
 refine wpAny_bind (wpAny_sequenceKey ht.typeIs (by decide) ?_)
 refine wpAny_bind (wpAny_callSpecial?_slot (name:=Str.ofString "__getitem__") ht.typeIs PyProof.Rows.slot_tuple_getitem
  (wpAny_call_entry PyProof.Rows.slot_tuple_getitem ht.typeIs entry_tuple_getitem ?_ (args_tuple_getitem _ _)))
 show wpAny _ _ (Builtin.Tuple.tupleItemsOf (.ref t) >>= _) _ _ s;refine wpAny_bind (tupleItemsOf_ ht ?_);refine wpAny_bind (wpAny_typeOf hTs ?_);rw[if_pos (by decide)]
 refine wpAny_bind (HT.X1 hs pl pu ?_);have hyes:((((HT.sIx items.size 0 lo:Nat):Int) == 0&&(1:Int) == 1&&(HT.sIx items.size items.size hi-HT.sIx items.size 0 lo) == items.size)=true):=by
  rw[hw.1,hw.2];simp
 show wpAny _ _ (if (((HT.sIx items.size 0 lo:Nat):Int) == 0&&(1:Int) == 1&&(HT.sIx items.size items.size hi-HT.sIx items.size 0 lo) == items.size)=true then _ else _) _ _ s
 rw[if_pos hyes];refine wpAny_bind (wpAny_bind (wpAny_typeOf ht.typeIs (wpAny_pure ?_)));rw[if_pos (by decide)]
 exact wpAny_bind (wpAny_rule (wpAny_pure ⟨_,rfl,wpAny_pure h⟩))
theorem wS:SlR X (ZaG X.K):=by
 intro pins s σ H x v vl vu lo hi sl Q I rx hs pl pu h;obtain⟨a,xs,rfl,hx,hw,q⟩:=h;cases rx;obtain⟨its,r,ht,hz⟩:=I.tuple hx;have hlen:its.toArray.size=xs.length:=by rw[List.size_toArray];exact r.length.symm
 refine⟨"tuple",_,PyProof.Rows.slot_tuple_getitem.lookup,ht.typeIs,?_⟩;exact W4 ht hs pl pu (by rw[hlen];exact hw) ⟨.ref a,H,I,rfl,q⟩
theorem z5 {i:Int}(h:Ev.fits i=true):Builtin.Int.intBits i<=2^20:=by
 have h1:i.natAbs<2^1000:=of_decide_eq_true h;unfold Builtin.Int.intBits;split
 ·exact Nat.zero_le _
 ·rename_i hz
  have hne:i.natAbs≠0:=by intro z;exact hz (by simp[Int.natAbs_eq_zero.mp z])
  have:=(Nat.log2_lt hne).mpr h1;have e:(2:Nat)^20=1048576:=by decide
  omega
theorem v3:OpR X (binaryOp .Mult) (rI (λi j=>Ev.fits i=true/\Ev.fits j=true) λi j=>.int (i*j)):=opI λ_ _ _ _ _ _ _ hc q=>mul_int q (IntMulOk.of_bits (z5 hc.1) (z5 hc.2))
theorem qS:OpR X (compareOp .Is) (λx y H Q=>∃a b,x=.bl a/\y=.bl b/\Q (.bl (decide (a=b))) H):=by
 intro pins s σ H x y v u Q I rx ry h;obtain⟨a,b,rfl,rfl,q⟩:=h;cases rx;cases ry;cases a <;> cases b <;> exact wpAny_pure ⟨.bl _,H,I,rfl,q⟩
theorem v7:OpR X (compareOp .IsNot) (λx y H Q=>∃a b,x=.bl a/\y=.bl b/\Q (.bl (decide (a≠b))) H):=by
 intro pins s σ H x y v u Q I rx ry h;obtain⟨a,b,rfl,rfl,q⟩:=h;cases rx;cases ry;cases a <;> cases b <;> exact wpAny_pure ⟨.bl _,H,I,rfl,q⟩
end
end Sd
namespace Sd
open PySem PySem.Spec PyProof.Rows L2
theorem Qy:fillsNumberSlot (.type "tuple") "mul" = pure false:=
 PySem.fillsNumberSlot_seq (id:="tuple.__mul__") (r:=some (.builtin "tuple.__rmul__")) F.slot_tuple_mul.lookup (by decide +kernel) F.slot_tuple_rmul.lookup (by decide +kernel)
theorem Ju:seqRepeat? (.type "tuple")=pure (some (.builtin "tuple.__mul__")):=by
 unfold seqRepeat?
 rw[PySem.seqSlot_of (T:="tuple") (name:="__mul__") (id:="tuple.__mul__") F.slot_tuple_mul.lookup (by decide +kernel),PySem.seqSlot_of (T:="tuple") (name:="__rmul__") (id:="tuple.__rmul__") F.slot_tuple_rmul.lookup (by decide +kernel)]
 rfl
theorem UX (a:Int) (t:Tok) (l:Addr) (items:Array Value) (n:Nat) (dd:Option Addr) (sl:Array (Option Value)) :
  Meets (Builtin.«int.__rmul__» ⟨[.int a t,.ref l],[]⟩) (λ_ R s=>s.heap.get? l=some { cls:=.type "tuple",dict:=dd,data:=.seq items n,slots:=sl }/\R (.ok (.ret Value.notImplemented)) s):=
 .of_wp λprog w A R s h=>by obtain⟨hp,g,d,tk,os⟩:=s;obtain⟨hl,h⟩:=h;wp_walk;exact⟨_,rfl,h⟩
theorem JR (l:Addr) (items:Array Value) (n:Nat) (dd:Option Addr) (sl:Array (Option Value)) (x:Int) (u:Tok) (h0:¬(x < -(2^63)||x>=2^63)=true) (hc:(items.isEmpty||x == 1)=true) :
  Meets (Builtin.«tuple.__mul__» ⟨[.ref l,.int x u],[]⟩) (λ_ R s=>s.heap.get? l=some { cls:=.type "tuple",dict:=dd,data:=.seq items n,slots:=sl }/\R (.ok (.ret (Value.ref l))) { s with heap:=s.heap,toks:=s.toks }):=
 .of_wp λprog w A R s h=>by obtain⟨hp,g,d,tk,os⟩:=s;obtain⟨hl,h⟩:=h;have f1:=AutoSeq1.idx_int;have f2:=AutoSeq1.sub_tuple_tuple;wp_walk;rw[if_neg h0];wp_walk using PySem.AutoSeq1.wpAny_loadPart' hl;exact⟨_,rfl,h⟩
theorem JT (l:Addr) (items:Array Value) (n:Nat) (dd:Option Addr) (sl:Array (Option Value)) (x:Int) (u:Tok) (h0:¬(x < -(2^63)||x>=2^63)=true) (hc:¬(items.isEmpty||x == 1)=true) (h1:(x<=0||items.isEmpty)=true) :
  Meets (Builtin.«tuple.__mul__» ⟨[.ref l,.int x u],[]⟩) (λ_ R s=>s.heap.get? l=some { cls:=.type "tuple",dict:=dd,data:=.seq items n,slots:=sl }/\R (.ok (.ret (Value.ref s.heap.objs.size))) { s with heap:=s.heap.push { cls:=.type "tuple",data:=.seq #[] },toks:=s.toks }):=
 .of_wp λprog w A R s h=>by obtain⟨hp,g,d,tk,os⟩:=s;obtain⟨hl,h⟩:=h;have f1:=AutoSeq1.idx_int;have f2:=AutoSeq1.sub_tuple_tuple;wp_walk;rw[if_neg h0];wp_walk using PySem.AutoSeq1.wpAny_loadPart' hl;exact⟨_,rfl,h⟩
theorem Gv (l:Addr) (items:Array Value) (n:Nat) (dd:Option Addr) (sl:Array (Option Value)) (x:Int) (u:Tok) (h0:¬(x < -(2^63)||x>=2^63)=true) (hc:¬(items.isEmpty||x == 1)=true) (h1:¬(x<=0||items.isEmpty)=true)
  (h2:¬(items.size*x>(2^63-1) / 8)) (h3:¬Builtin.Tuple.tupleTooMany (items.size*x)=true) (hsz:((List.replicate x.toNat items).foldl (·++·) #[]).size<=sizeLine) :
  Meets (Builtin.«tuple.__mul__» ⟨[.ref l,.int x u],[]⟩) (λ_ R s=>s.heap.get? l=some { cls:=.type "tuple",dict:=dd,data:=.seq items n,slots:=sl }/\R (.ok (.ret (Value.ref s.heap.objs.size))) { s with heap:=s.heap.push { cls:=.type "tuple",data:=.seq ((List.replicate x.toNat items).foldl (·++·) #[]) },toks:=s.toks }):=
 .of_wp λprog w A R s h=>by obtain⟨hp,g,d,tk,os⟩:=s;obtain⟨hl,h⟩:=h;have f1:=AutoSeq1.idx_int;have f2:=AutoSeq1.sub_tuple_tuple;wp_walk;rw[if_neg h0];wp_walk using PySem.AutoSeq1.wpAny_loadPart' hl;rw[if_neg h2];wp_walk using PySem.AutoSeq1.wpAny_loadPart' hl;exact⟨_,rfl,h⟩
noncomputable def qh (K:PySem.W.Frag):R2:=λx y H Q=>∃a k xs,x=.ref a/\y=.int k/\SqT K H a xs/\(0<=k/\k<1000/\xs.length<=1000)/\
 ((xs=[]\/k=1)->Q (.ref a) H)/\(¬(xs=[]\/k=1)->∀p,H p=none->Q (.ref p) (upd H p (.tup (List.replicate k.toNat xs).flatten)))
theorem v9 {X:Cx}:OpR X (binaryOp .Mult) (qh X.K):=by
 intro pins s σ H x y v u Q I rx ry h;obtain⟨a,k,xs,rfl,rfl,hx,⟨k0,k1,hz⟩,q1,q2⟩:=h;cases rx;obtain⟨t,rfl⟩:=ry;obtain⟨its,r,pt,_⟩:=I.tuple hx;have hl:=r.length;obtain⟨⟨cls,dd,data,sl⟩,ho,hc,n,hd⟩:=id pt;simp only at hc hd;subst hc hd;have h0:¬(decide (k < -(2^63))||decide (k>=2^63))=true:=by
  rw[decide_eq_false (by omega),decide_eq_false (by omega)];exact Bool.false_ne_true
 refine wpAny_binaryOp_repeat_ref (T:="tuple") (U:="int") (by decide) ⟨_,ho,rfl⟩ (λs'=>typeIs_int s' k t) Qy F.fills_int_mul F.slot_int_rmul Ju F.slot_int_index.lookup
  (call_meets F.slot_int_rmul (typeIs_int s k t) F.entry_int_rmul (F.args_int_rmul_2 _ _) (UX k t a its.toArray n dd sl) ⟨ho,rfl,⟨_,ho,rfl⟩,?_⟩)
 have hnil:its=[]↔xs=[]:=r.nil_iff;by_cases c:xs=[]\/k=1
 ·have c':(its.toArray.isEmpty||k == 1)=true:=by
   rcases c with c | c
   ·rw[hnil.mpr c];rfl
   ·rw[c];simp
  exact call_meets F.slot_tuple_mul ⟨_,ho,rfl⟩ F.entry_tuple_mul (F.args_tuple_mul_2 _ _) (JR a its.toArray n dd sl k t h0 c') ⟨ho,⟨.ref a,H,I,rfl,q1 c⟩⟩
 ·have ne:its≠[]:=λz=>c (.inl (hnil.mp z))
  have k1:k≠1:=λz=>c (.inr z)
  have c':¬(its.toArray.isEmpty||k == 1)=true:=by
   rw[beq_eq_false_iff_ne.mpr k1,Bool.or_false,List.isEmpty_toArray];cases its with
   |nil=>exact absurd rfl ne
   |cons _ _=>exact Bool.false_ne_true
  have fin:∀arr:List Value,arr=(List.replicate k.toNat its).flatten->EP X pins σ Q (Value.ref s.heap.objs.size) { s with heap:=s.heap.push { cls:=.type "tuple",data:=.seq arr.toArray } }:=λarr e=>by
   subst e;refine⟨.ref s.heap.objs.size,_,I.laid (t':=s.toks) (o:=.tup (List.replicate k.toNat xs).flatten) (λb ob q=>Heap.get?_push_of_some _ q) (Nat.le_refl _) ?_,rfl,q2 c _ (I.hok.fresh (Nat.le_refl _))⟩
   refine⟨?_,_,r.rep k.toNat,IsTup.new _ _⟩;rw[Jd,sizeLine_eq];have:k.toNat*xs.length<=1000*1000:=Nat.mul_le_mul (by omega) hz
   omega
  by_cases z:k=0
  ·have h1:(decide (k<=0)||its.toArray.isEmpty)=true:=by rw[z];rfl
   refine call_meets F.slot_tuple_mul ⟨_,ho,rfl⟩ F.entry_tuple_mul (F.args_tuple_mul_2 _ _) (JT a its.toArray n dd sl k t h0 c' h1) ⟨ho,?_⟩;exact fin [] (by rw[z];rfl)
  ·have h1:¬(decide (k<=0)||its.toArray.isEmpty)=true:=by
    rw[decide_eq_false (by omega),Bool.false_or,List.isEmpty_toArray]
    cases its with
    |nil=>exact absurd rfl ne
    |cons _ _=>exact Bool.false_ne_true
   have hm:(its.toArray.size:Int)*k<=1000*1000:=by
    rw[List.size_toArray,<-hl];exact Int.mul_le_mul (by omega) (by omega) k0 (by omega)
   have joined:(List.replicate k.toNat its.toArray).foldl (·++·) #[]=(List.replicate k.toNat its).flatten.toArray:=by
    have:=Ua its k.toNat [];rw[List.nil_append] at this;exact this
   have hsz:((List.replicate k.toNat its.toArray).foldl (·++·) #[]).size<=sizeLine:=by
    rw[joined,List.size_toArray,Jd,sizeLine_eq,<-hl];have:k.toNat*xs.length<=1000*1000:=Nat.mul_le_mul (by omega) hz
    omega
   refine call_meets F.slot_tuple_mul ⟨_,ho,rfl⟩ F.entry_tuple_mul (F.args_tuple_mul_2 _ _) (Gv a its.toArray n dd sl k t h0 c' h1 (by omega) (by
    unfold Builtin.Tuple.tupleTooMany;rw[decide_eq_false (by rw[sizeLine_eq];omega)]
    exact Bool.false_ne_true) hsz) ⟨ho,?_⟩
   rw[joined];exact fin _ rfl
noncomputable def qm:R2:=λx y H Q=>∃a k xs,x=.ref a/\y=.int k/\H a=some (.lst xs)/\(0<=k/\k<1000/\xs.length<=1000)/\∀p,H p=none->Q (.ref p) (upd H p (.lst (List.replicate k.toNat xs).flatten))
theorem uk {X:Cx}:OpR X (binaryOp .Mult) qm:=by
 intro pins s σ H x y v u Q I rx ry h;obtain⟨a,k,xs,rfl,rfl,hx,⟨k0,k1,hz⟩,q2⟩:=h;cases rx;obtain⟨t,rfl⟩:=ry;obtain⟨its,r,pl,_⟩:=I.list (SqL.of hx);have hl:=r.length;obtain⟨⟨cls,dd,data,sl⟩,n,ho,hc,hd2,hd⟩:=id pl;simp only at hc hd hd2;subst hc hd;have hm:k.toNat*its.length<=1000*1000:=Nat.mul_le_mul (by omega) (by omega)
 have hm2:its.length*k.toNat<=1000*1000:=by rw[Nat.mul_comm];exact hm
 refine wpAny_binaryOp_repeat_ref (T:="list") (U:="int") (by decide) ⟨_,ho,rfl⟩ (λs'=>typeIs_int s' k t) noFill_list_mul F.fills_int_mul F.slot_int_rmul repeat_list F.slot_int_index.lookup
  (call_meets F.slot_int_rmul (typeIs_int s k t) F.entry_int_rmul (F.args_int_rmul_2 _ _) (lm_int_rmul_list_any k t a its.toArray n dd sl) ⟨ho,rfl,⟨_,ho,rfl⟩,
   call_meets F.slot_list_mul ⟨_,ho,rfl⟩ F.entry_list_mul (F.args_list_mul_2 _ _) (lm_list_mul_any a its.toArray n dd sl k t (by simp[Builtin.List.listFitsIndex];omega) (by rw[List.size_toArray];omega) (by rw[List.size_toArray];simp[Builtin.List.listTooLong,sizeLine];omega)) ⟨ho,?_⟩⟩)
 have joined:(List.replicate (if its.toArray.isEmpty=true then 0 else k.toNat) its.toArray).foldl (λx1 x2=>x1++x2) #[]=(List.replicate k.toNat its).flatten.toArray:=by
  have h0:=Ua its k.toNat [];rw[List.nil_append] at h0;by_cases z:its=[]
  ·subst z
   have e:∀m:Nat,(List.replicate m ([]:List Value)).flatten=[]:=λm=>by induction m with | zero=>rfl | succ m ih=>rw[List.replicate_succ,List.flatten_cons,ih];rfl
   rw[e];rfl
  ·rw[if_neg (by rw[List.isEmpty_toArray];cases its with | nil=>exact absurd rfl z | cons _ _=>exact Bool.false_ne_true)]
   exact h0
 rw[joined];refine⟨.ref s.heap.objs.size,_,I.laid (t':=s.toks) (o:=.lst (List.replicate k.toNat xs).flatten) (λb ob q=>Heap.get?_push_of_some _ q) (Nat.le_refl _) ?_,rfl,q2 _ (I.hok.fresh (Nat.le_refl _))⟩
 refine⟨?_,_,0,r.rep k.toNat,Heap.get?_push_size _ rfl⟩;rw[Jd,sizeLine_eq];rw[hl];omega
end Sd
namespace Sd
open PySem PySem.Spec PyProof.Rows L2
open Ev (D Ob Store Lc R E Sm Calls Walk Fl Fn Bop Cop Ty Bf Mf ev evs evo evt evw tst run runs)
section
variable {X:Cx}{xw:Nat->Hp->Prop}{C:Calls}{e a b c:Expr}{i j k:E}{pos:Pos}
variable {ρ:List Addr}{H:Hp}{S:Store}{x y:D}{v u:V}{Q:VK}{K:PySem.W.Frag}
noncomputable def qc (K:PySem.W.Frag):R2:=λx y H Q=>rI0 (λi j=>.int (i+j)) x y H Q\/(u8 K x y H Q\/(wo K x y H Q\/j6 x y H Q))
theorem uT:OpR X (binaryOp .Add) (qc X.K):=qC.or (uI.or (vn.or je))
theorem ju (st:St3 K ρ S H) (rx:Rep ρ H x v) (ry:Rep ρ H y u) (h:End K xw Rep ρ H Q (Ev.binop .add x y S)):qc K v u H Q:=by
 cases x with
 |int i=>cases y with
  |int j=>exact .inl ⟨i,j,rx.int',ry.int',End.ok h st (ZF _)⟩
  |_=>exact False.elim h
 |tup ds=>cases y with
  |tup es=>
   obtain⟨hl,h⟩:=End.guard h;obtain⟨p,xs,rfl,hp,r1⟩:=rx.tup';obtain⟨q,ys,rfl,hq,r2⟩:=ry.tup';have l1:=r1.length;have l2:=r2.length;by_cases z:xs=[]
   ·subst z
    have e1:ds=[]:=List.length_eq_zero_iff.mp l1.symm;subst e1;exact .inr (.inr (.inl ⟨p,q,ys,rfl,rfl,SqT.of hp,SqT.of hq,End.ok h st (Ye hq r2)⟩))
   ·refine .inr (.inl ⟨p,q,xs,ys,rfl,rfl,SqT.of hp,SqT.of hq,z,by rw[l1,l2,<-V0];exact hl,λz2=>?_,λ_=>h.newT st (r1.append r2)⟩)
    subst z2;have e2:es=[]:=List.length_eq_zero_iff.mp l2.symm;subst e2;refine End.ok h st ?_;rw[List.append_nil];exact Ye hp r1
  |_=>exact False.elim h
 |loc m=>cases y with
  |loc n=>
   have h':End K xw Rep ρ H Q (match Ev.Zv S m,Ev.Zv S n with
    |some a,some b=>if a.length+b.length<=Ev.lim then .ok (.loc S.length) (S++[.lst (a++b)]) else .no
    |_,_=>.no):=h
   cases e1:Ev.Zv S m with
   |none=>rw[e1] at h';exact False.elim h'
   |some ds=>
    cases e2:Ev.Zv S n with
    |none=>rw[e1,e2] at h';exact False.elim h'
    |some es=>
     rw[e1,e2] at h';obtain⟨hl,h⟩:=End.guard h';obtain⟨_,p,xs,q1,hp,r1⟩:=st.lst e1;obtain⟨_,q,ys,q2,hq,r2⟩:=st.lst e2;obtain⟨p',rfl,t1⟩:=rx.loc';obtain⟨q',rfl,t2⟩:=ry.loc';rw[q1] at t1;cases t1;rw[q2] at t2;cases t2;exact .inr (.inr (.inr ⟨p,q,xs,ys,rfl,rfl,hp,hq,by rw[r1.length,r2.length,<-V0];exact hl,h.newL st (r1.append r2)⟩))
  |_=>exact False.elim h
 |_=>cases y <;> exact False.elim h
theorem qV (st:St3 K ρ S H) (rx:Rep ρ H x v) (ry:Rep ρ H y u) (h:End K xw Rep ρ H Q (Ev.binop .sub x y S)):rI0 (λi j=>.int (i-j)) v u H Q:=by
 cases x with
 |int i=>cases y with
  |int j=>exact⟨i,j,rx.int',ry.int',End.ok h st (ZF _)⟩
  |_=>exact False.elim h
 |_=>cases y <;> exact False.elim h
noncomputable def u9 (K:PySem.W.Frag):R2:=λx y H Q=>rI (λi j=>Ev.fits i=true/\Ev.fits j=true) (λi j=>.int (i*j)) x y H Q\/(qh K x y H Q\/qm x y H Q)
theorem uR:OpR X (binaryOp .Mult) (u9 X.K):=v3.or (v9.or uk)
theorem qZ (st:St3 K ρ S H) (rx:Rep ρ H x v) (ry:Rep ρ H y u) (h:End K xw Rep ρ H Q (Ev.binop .mul x y S)):u9 K v u H Q:=by
 cases x with
 |int i=>cases y with
  |int j=>
   obtain⟨hc,h⟩:=End.guard h;exact .inl ⟨i,j,rx.int',ry.int',(Bool.and_eq_true _ _).mp hc,End.ok h st (ZF _)⟩
  |_=>exact False.elim h
 |tup ds=>cases y with
  |int k=>
   obtain⟨⟨h0,h1,h2⟩,h⟩:=End.guard h;obtain⟨p,xs,rfl,hp,r1⟩:=rx.tup';have l1:=r1.length;refine .inr <| .inl ⟨p,k,xs,rfl,ry.int',SqT.of hp,⟨h0,h1,by rw[l1];exact h2⟩,λz=>?_,λ_=>h.newT st (r1.rep k.toNat)⟩
   refine End.ok h st (Ye hp ?_);rcases z with z | z
   ·subst z
    have e1:ds=[]:=List.length_eq_zero_iff.mp l1.symm;subst e1;have:∀m:Nat,(List.replicate m ([]:List D)).flatten=[]:=λm=>by induction m with | zero=>rfl | succ m ih=>rw[List.replicate_succ,List.flatten_cons,ih];rfl
    rw[this];exact Reps.nil
   ·subst z
    show Reps ρ H (List.replicate 1 ds).flatten xs;rw[List.replicate_succ,List.replicate_zero,List.flatten_cons,List.flatten_nil,List.append_nil];exact r1
  |_=>exact False.elim h
 |loc m=>cases y with
  |int k=>
   have h':End K xw Rep ρ H Q (match Ev.Zv S m with
    |some a=>if 0<=k/\k<1000/\a.length<=1000 then .ok (.loc S.length) (S++[.lst (List.replicate k.toNat a).flatten]) else .no
    |none=>.no):=h
   cases e1:Ev.Zv S m with
   |none=>rw[e1] at h';exact False.elim h'
   |some ds=>
    rw[e1] at h';obtain⟨⟨h0,h1,h2⟩,h⟩:=End.guard h';obtain⟨_,p,xs,q1,hp,r1⟩:=st.lst e1;obtain⟨p',rfl,t1⟩:=rx.loc';rw[q1] at t1;cases t1;exact .inr (.inr ⟨p,k,xs,rfl,ry.int',hp,⟨h0,h1,by rw[r1.length];exact h2⟩,h.newL st (r1.rep k.toNat)⟩)
  |_=>exact False.elim h
 |_=>cases y <;> exact False.elim h
theorem ut (st:St3 K ρ S H) (rx:Rep ρ H x v) (ry:Rep ρ H y u) (h:End K xw Rep ρ H Q (Ev.binop .fdiv x y S)):rI CDiv (λi j=>.int (i / j)) v u H Q:=by
 cases x with
 |int i=>cases y with
  |int j=>
   obtain⟨hc,h⟩:=End.guard h;exact⟨i,j,rx.int',ry.int',hc,End.ok h st (ZF _)⟩
  |_=>exact False.elim h
 |_=>cases y <;> exact False.elim h
theorem qO (st:St3 K ρ S H) (rx:Rep ρ H x v) (ry:Rep ρ H y u) (h:End K xw Rep ρ H Q (Ev.binop .mod x y S)):rI (λ_ j=>0<j) (λi j=>.int (i%j)) v u H Q:=by
 cases x with
 |int i=>cases y with
  |int j=>
   obtain⟨hc,h⟩:=End.guard h;exact⟨i,j,rx.int',ry.int',hc,End.ok h st (ZF _)⟩
  |_=>exact False.elim h
 |_=>cases y <;> exact False.elim h
theorem qu (st:St3 K ρ S H) (rx:Rep ρ H x v) (ry:Rep ρ H y u) (h:End K xw Rep ρ H Q (Ev.binop .pow x y S)):rI CPow (λi j=>.int (i^j.toNat)) v u H Q:=by
 cases x with
 |int i=>cases y with
  |int j=>
   obtain⟨hc,h⟩:=End.guard h;exact⟨i,j,rx.int',ry.int',⟨hc.1,by omega,hc.2.2⟩,End.ok h st (ZF _)⟩
  |_=>exact False.elim h
 |_=>cases y <;> exact False.elim h
theorem Yy (ha:CE X xw C a i) (hb:CE X xw C b j):CE X xw C (.BinOp a .Add b pos) (.bin .add i j):=PE.imp (QC uT ha hb) (WH λst rx ry h=>ju st rx ry h)
theorem JH (ha:CE X xw C a i) (hb:CE X xw C b j):CE X xw C (.BinOp a .Sub b pos) (.bin .sub i j):=PE.imp (QC jb ha hb) (WH λst rx ry h=>qV st rx ry h)
theorem YR (ha:CE X xw C a i) (hb:CE X xw C b j):CE X xw C (.BinOp a .Mult b pos) (.bin .mul i j):=PE.imp (QC uR ha hb) (WH λst rx ry h=>qZ st rx ry h)
theorem UD (ha:CE X xw C a i) (hb:CE X xw C b j):CE X xw C (.BinOp a .FloorDiv b pos) (.bin .fdiv i j):=PE.imp (QC vM ha hb) (WH λst rx ry h=>ut st rx ry h)
theorem YM (ha:CE X xw C a i) (hb:CE X xw C b j):CE X xw C (.BinOp a .Mod b pos) (.bin .mod i j):=PE.imp (QC jK ha hb) (WH λst rx ry h=>qO st rx ry h)
theorem Je (ha:CE X xw C a i) (hb:CE X xw C b j):CE X xw C (.BinOp a .Pow b pos) (.bin .pow i j):=PE.imp (QC jF ha hb) (WH λst rx ry h=>qu st rx ry h)
theorem VW (ha:CE X xw C a i):CE X xw C (.UnaryOp .USub a pos) (.neg i):=PE.imp (Zaz jr ha) λσ H Q ⟨ρ,l,S,st,lr,h⟩=>by
 refine⟨ρ,l,S,st,lr,End.bind (show End X.K xw Rep ρ H Q ((ev C i l S).bind _) from h) λx S1 ρ1 H1 v f1 st1 r1 h1=>?_⟩
 cases x with
 |int n=>exact⟨n,r1.int',End.ok h1 st1 (ZF _)⟩
 |_=>exact False.elim h1
theorem XG {n:Bool}(st:St3 K ρ S H) (rx:Rep ρ H x v) (h:Ev.truth S x=some n):vN K v H n:=by
 cases x with
 |non=>rw[rx.non'];exact (Option.some.inj h).symm
 |bl b=>rw[rx.bl'];exact (Option.some.inj h).symm
 |int i=>
  rw[rx.int'];have h':=Option.some.inj h;show n=(i != 0);rw[<-h'];by_cases z:i=0
  ·subst z;rfl
  ·rw[decide_eq_true z];exact (bne_iff_ne.mpr z).symm
 |tup ds=>
  obtain⟨p,xs,rfl,hp,r⟩:=rx.tup';have h':=Option.some.inj h;refine .inr (.inl ⟨xs,SqT.of hp,?_⟩);rw[<-h'];have:=r.length;cases ds <;> cases xs <;> first | rfl | (simp at this)
 |loc m=>
  have h2:(Ev.Yu S m).map (λxs=>!xs.isEmpty)=some n:=h
  cases e:Ev.Yu S m with
  |none=>rw[e] at h2;cases h2
  |some ds=>
   rw[e] at h2;obtain⟨p,xs,q,hp,r⟩:=st.seq e;obtain⟨p',rfl,t⟩:=rx.loc';rw[q] at t;cases t;refine .inl ⟨xs,hp,?_⟩;have h':=Option.some.inj h2;rw[<-h'];have:=r.length;cases ds <;> cases xs <;> first | rfl | (simp at this)
 |_=>cases h
theorem Yx (ha:CE X xw C a i) (he:∀whole,isTrue a X.env whole=(do let v <-whole;standAt a.pos;holding [v] (truthy v)):=by intro _;rfl):CT X xw C a i:=
 PT.imp (xP ha he) λσ H Q ⟨ρ,l,S,st,lr,h⟩=>by
  refine⟨ρ,l,S,st,lr,End.bind (show End X.K xw Vo ρ H Q ((ev C i l S).bind λx S=>Ev.ob (Ev.truth S x) S) from h) λx S1 ρ1 H1 v f1 st1 r1 h1=>?_⟩
  cases q:Ev.truth S1 x with
  |none=>rw[q] at h1;exact False.elim h1
  |some n=>rw[q] at h1;exact⟨n,XG st1 r1 q,End.ok h1 st1 rfl⟩
theorem YO (ha:CT X xw C a i):CT X xw C (.UnaryOp .Not a pos) (.not i):=PT.imp (jI ha) λσ H Q ⟨ρ,l,S,st,lr,h⟩=>by
 refine⟨ρ,l,S,st,lr,?_⟩;have h':End X.K xw Vo ρ H Q (((ev C i l S).bind λx S=>(Ev.ob (Ev.truth S x) S).bind λb S=>.ok (.bl !b) S).bind λx S=>Ev.ob (Ev.truth S x) S):=h
 show End X.K xw Vo ρ H (λc H1=>Q (!c) H1) ((ev C i l S).bind λx S=>Ev.ob (Ev.truth S x) S)
 cases q:ev C i l S with
 |no=>rw[q] at h';exact h'
 |ex c S1=>rw[q] at h';exact h'
 |ok x S1=>
  rw[q] at h';show End X.K xw Vo ρ H _ (Ev.ob (Ev.truth S1 x) S1);have h2:End X.K xw Vo ρ H Q (((Ev.ob (Ev.truth S1 x) S1).bind λb S=>.ok (.bl !b) S).bind λx S=>Ev.ob (Ev.truth S x) S):=h'
  cases t:Ev.truth S1 x with
  |none=>rw[t] at h2;exact h2
  |some n=>
   rw[t] at h2;intro ρ1 H1 w f1 st1 e;exact h2 ρ1 H1 (!w) f1 st1 (by rw[<-(show n=w from e)];rfl)
theorem UJ (ha:CE X xw C a i):CE X xw C (.UnaryOp .Not a pos) (.not i):=by
 intro pins s σ H Q I hq;obtain⟨ρ,l,S,st,lr,h⟩:=hq;have h':End X.K xw Rep ρ H Q ((ev C i l S).bind λx S=>(Ev.ob (Ev.truth S x) S).bind λb S=>.ok (.bl !b) S):=h
 refine UnaryOp_ (thn (ha pins s σ H (λv H1=>∃k,vN X.K v H1 k/\Q (.bl !k) H1) I ⟨ρ,l,S,st,lr,End.bind h' λx S1 ρ1 H1 v f1 st1 r1 h1=>?_⟩) λv s1 ⟨x,H1,I1,r1,q1⟩=>?_)
 ·cases q:Ev.truth S1 x with
  |none=>rw[q] at h1;exact False.elim h1
  |some n=>rw[q] at h1;exact⟨n,XG st1 r1 q,End.ok h1 st1 (ZH _)⟩
 ·obtain⟨k,tk,q2⟩:=q1
  refine not_of (thn (xK pins s1 σ H1 x v (λk' H'=>Q (.bl !k') H') I1 r1 ⟨k,tk,q2⟩) λk' s2 ⟨H2,I2,q3⟩=>?_)
  exact⟨.bl (!k'),H2,I2,rfl,q3⟩
theorem WM {rest:List Expr}(ha:CE X xw C a i) (hb:CE X xw C (.BoolOp .And (b::rest) pos) j):CE X xw C (.BoolOp .And (a::b::rest) pos) (.and i j):=PE.imp (qM ha hb) λσ H Q ⟨ρ,l,S,st,lr,h⟩=>by
 refine⟨ρ,l,S,st,lr,End.bind (show End X.K xw Rep ρ H Q ((ev C i l S).bind _) from h) λx S1 ρ1 H1 v f1 st1 r1 h1=>?_⟩
 cases x with
 |bl c=>
  refine⟨c,r1.bl',?_⟩;cases c with
  |true=>exact⟨ρ1,l,S1,st1,lr.mono f1,h1⟩
  |false=>exact End.ok h1 st1 (ZH _)
 |_=>exact False.elim h1
theorem VL {op}(ha:CE X xw C a i):CE X xw C (.BoolOp op [a] pos) i:=qJ ha
noncomputable def CWh (X:Cx) (xw:Nat->Hp->Prop) (C:Calls) (e:Expr) (i:E):Prop:=PW X e (tB3 X xw (tst C i))
theorem CWh.ct (h:CWh X xw C e i):CT X xw C e i:=PW.pt h
theorem PW.imp {X:Cx}{e:Expr}{t t':TT}(h:PW X e t) (k:∀σ H Q,t' σ H Q->t σ H Q):PW X e t':=λwh pins s σ H Q I q=>h wh pins s σ H Q I (k σ H Q q)
theorem Xl (ha:CT X xw C a i):CWh X xw C (.BoolOp .Or [a] pos) i:=qY ha
theorem Ws {rest:List Expr}(ha:CT X xw C a i) (hb:CWh X xw C (.BoolOp .Or (b::rest) pos) j):CWh X xw C (.BoolOp .Or (a::b::rest) pos) (.or i j):=PW.imp (j3 ha hb) λσ H Q ⟨ρ,l,S,st,lr,h⟩=>by
 have h':End X.K xw Vo ρ H Q (((ev C i l S).bind λx S=>match x with | .bl c=>if c then .ok (.bl true) S else ev C j l S | _=>.no).bind λx S=>Ev.ob (Ev.truth S x) S):=h
 refine⟨ρ,l,S,st,lr,?_⟩;show End X.K xw Vo ρ H _ ((ev C i l S).bind λx S=>Ev.ob (Ev.truth S x) S)
 cases q:ev C i l S with
 |no=>rw[q] at h';exact h'
 |ex c S1=>rw[q] at h';exact h'
 |ok x S1=>
  rw[q] at h';cases x with
  |bl n=>
   intro ρ1 H1 w f1 st1 e;have e':n=w:=e;subst e';cases n with
   |false=>exact⟨ρ1,l,S1,st1,lr.mono f1,End.mono f1 (show End X.K xw Vo ρ H Q ((ev C j l S1).bind λx S=>Ev.ob (Ev.truth S x) S) from h')⟩
   |true=>exact (show End X.K xw Vo ρ H Q (.ok true S1) from h') ρ1 H1 true f1 st1 rfl
  |_=>exact False.elim h'
end
end Sd
namespace Sd
open PySem PySem.Spec PyProof.Rows L2
open Ev (D Ob Store Lc R E Sm Calls Walk Fl Fn Bop Cop Ty Bf Mf ev evs evo evt evw tst run runs)
section
variable {K:PySem.W.Frag}{ρ:List Addr}{H:Hp}{S:Store}
theorem U5 {f:D->D->Option Bool}(hf:∀x y v b,Rep ρ H x v->Rep ρ H y v->f x y=some b->b=true):∀{ds es:List D}{xs:List V}{b:Bool},Reps ρ H ds xs->Reps ρ H es xs->Ev.eqL f ds es=some b->b=true
 |[],[],_,b,_,_,h=>(Option.some.inj h).symm
 |d::ds,e::es,_,b,r1,r2,h=>by
  unfold Reps at r1 r2;obtain⟨v,vs,rfl,a1,b1⟩:=r1;obtain⟨v',vs',e',a2,b2⟩:=r2;cases e';unfold Ev.eqL at h;cases q1:f d e with
  |none=>rw[q1] at h;cases h
  |some p=>
   cases q2:Ev.eqL f ds es with
   |none=>rw[q1,q2] at h;cases h
   |some q=>
    rw[q1,q2] at h;have h':(p&&q)=b:=Option.some.inj h;rw[<-h',hf d e v p a1 a2 q1,U5 hf b1 b2 q2];rfl
 |[],_::_,_,b,r1,r2,h=>by
  have l1:=r1.length;have l2:=r2.length;rw[l1] at l2;simp at l2
 |_::_,[],_,b,r1,r2,h=>by
  have l1:=r1.length;have l2:=r2.length;rw[l1] at l2;simp at l2
theorem Vi (st:St3 K ρ S H):∀(k:Nat) (x y:D) (v:V) (b:Bool),Rep ρ H x v->Rep ρ H y v->Ev.eqD S k x y=some b->b=true
 |0,_,_,_,_,_,_,h=>by cases h
 |k+1,x,y,v,b,r1,r2,h=>by
  cases x with
  |non=>
   cases r1.non';cases y with
   |non=>exact (Option.some.inj h).symm
   |bl _=>cases r2.bl'
   |int _=>cases r2.int'
   |str _=>cases r2.str'
   |tup _=>obtain⟨_,_,z,_⟩:=r2.tup';cases z
   |loc _=>obtain⟨_,z,_⟩:=r2.loc';cases z
   |fn _=>unfold Rep at r2;exact r2.elim
   |exc _ _=>unfold Rep at r2;exact r2.elim
  |bl i=>
   cases r1.bl';cases y with
   |bl j=>cases r2.bl';have:=Option.some.inj h;rw[<-this];exact decide_eq_true rfl
   |non=>cases r2.non'
   |int _=>cases r2.int'
   |str _=>cases r2.str'
   |tup _=>obtain⟨_,_,z,_⟩:=r2.tup';cases z
   |loc _=>obtain⟨_,z,_⟩:=r2.loc';cases z
   |fn _=>unfold Rep at r2;exact r2.elim
   |exc _ _=>unfold Rep at r2;exact r2.elim
  |int i=>
   cases r1.int';cases y with
   |int j=>cases r2.int';have:=Option.some.inj h;rw[<-this];exact decide_eq_true rfl
   |non=>cases r2.non'
   |bl _=>cases r2.bl'
   |str _=>cases r2.str'
   |tup _=>obtain⟨_,_,z,_⟩:=r2.tup';cases z
   |loc _=>obtain⟨_,z,_⟩:=r2.loc';cases z
   |fn _=>unfold Rep at r2;exact r2.elim
   |exc _ _=>unfold Rep at r2;exact r2.elim
  |str i=>
   cases r1.str';cases y with
   |str j=>cases r2.str';have:=Option.some.inj h;rw[<-this];exact decide_eq_true rfl
   |non=>cases r2.non'
   |bl _=>cases r2.bl'
   |int _=>cases r2.int'
   |tup _=>obtain⟨_,_,z,_⟩:=r2.tup';cases z
   |loc _=>obtain⟨_,z,_⟩:=r2.loc';cases z
   |fn _=>unfold Rep at r2;exact r2.elim
   |exc _ _=>unfold Rep at r2;exact r2.elim
  |tup ds=>
   obtain⟨p,xs,rfl,hp,q1⟩:=r1.tup';cases y with
   |tup es=>
    obtain⟨p',xs',z,hp',q2⟩:=r2.tup';cases z;rw[hp] at hp';cases hp';exact U5 (λx y v b=>Vi st k x y v b) q1 q2 h
   |non=>cases r2.non'
   |bl _=>cases r2.bl'
   |int _=>cases r2.int'
   |str _=>cases r2.str'
   |loc _=>cases h
   |fn _=>unfold Rep at r2;exact r2.elim
   |exc _ _=>unfold Rep at r2;exact r2.elim
  |loc m=>
   obtain⟨p,rfl,hp⟩:=r1.loc';cases y with
   |loc n=>
    obtain⟨p',z,hp'⟩:=r2.loc';cases z;have h':(match Ev.Zv S m,Ev.Zv S n with
     |some xs,some ys=>if xs.length=ys.length then Ev.eqL (Ev.eqD S k) xs ys else some false
     |_,_=>none)=some b:=h
    cases e1:Ev.Zv S m with
    |none=>rw[e1] at h';cases h'
    |some ds=>
     cases e2:Ev.Zv S n with
     |none=>rw[e1,e2] at h';cases h'
     |some es=>
      rw[e1,e2] at h';obtain⟨s1,a1,xs,t1,u1,q1⟩:=st.lst e1;obtain⟨s2,a2,ys,t2,u2,q2⟩:=st.lst e2;by_cases hmn:m=n
      ·subst hmn
       rw[e1] at e2;cases e2;have h2:(if ds.length=ds.length then Ev.eqL (Ev.eqD S k) ds ds else some false)=some b:=h'
       rw[if_pos rfl] at h2;exact U5 (λx y v b=>Vi st k x y v b) q1 q1 h2
      ·rcases st.nd m n p hp hp' hmn with ⟨ns,z⟩ | ⟨ns,z⟩
       ·rw[s1] at z;cases z
       ·rw[s2] at z;cases z
   |non=>cases r2.non'
   |bl _=>cases r2.bl'
   |int _=>cases r2.int'
   |str _=>cases r2.str'
   |tup _=>cases h
   |fn _=>unfold Rep at r2;exact r2.elim
   |exc _ _=>unfold Rep at r2;exact r2.elim
  |fn _=>unfold Rep at r1;exact r1.elim
  |exc _ _=>unfold Rep at r1;exact r1.elim
noncomputable def eAt (f:D->D->Option Bool) (ds es:List D) (j:Nat):Bool:=match ds[j]?,es[j]? with
 |some x,some y=>(f x y).getD false
 |_,_=>false
theorem XO {f:D->D->Option Bool}:∀{ds es:List D}{b:Bool},Ev.eqL f ds es=some b->
  ((List.range (min ds.length es.length)).all (eAt f ds es)&&ds.length == es.length)=b/\∀j x y,ds[j]? = some x->es[j]? = some y->f x y=some (eAt f ds es j)
 |[],[],b,h=>⟨Option.some.inj h,λj x y e=>by simp at e⟩
 |[],_::es,b,h=>⟨by rw[<-Option.some.inj h];simp,λj x y e=>by simp at e⟩
 |_::ds,[],b,h=>⟨by rw[<-Option.some.inj h];simp,λj x y _ e=>by simp at e⟩
 |d::ds,e::es,b,h=>by
  unfold Ev.eqL at h;cases q1:f d e with
  |none=>rw[q1] at h;cases h
  |some p=>
   cases q2:Ev.eqL f ds es with
   |none=>rw[q1,q2] at h;cases h
   |some q=>
    rw[q1,q2] at h;obtain⟨ih,ih2⟩:=XO q2;have h':(p&&q)=b:=Option.some.inj h;have e0:eAt f (d::ds) (e::es) 0=p:=by simp[eAt,q1]
    have es':∀j,eAt f (d::ds) (e::es) (j+1)=eAt f ds es j:=λj=>by simp[eAt]
    refine⟨?_,λj x y hx hy=>?_⟩
    ·rw[<-h',<-ih,List.length_cons,List.length_cons,Nat.succ_min_succ,List.range_succ_eq_map,List.all_cons,e0,List.all_map]
     have:((List.range (min ds.length es.length)).all (eAt f (d::ds) (e::es)∘Nat.succ))=(List.range (min ds.length es.length)).all (eAt f ds es):=by
      exact congrArg (λg=>(List.range (min ds.length es.length)).all g) (funext λj=>es' j)
     rw[this,Bool.and_assoc]
     congr 2
     simp
    ·cases j with
     |zero=>
      simp at hx hy;subst hx hy;rw[e0];exact q1
     |succ j=>
      rw[es' j];exact ih2 j x y (by simpa using hx) (by simpa using hy)
end
section
variable {X:Cx}{pins:List (Addr×Obj)}{σ:L2.St}{H:Hp}{s:Shared}{ρ:List Addr}{S:Store}
theorem Y5 {A:Around}{k:Nat}(h:A.units+(k+1)<cLine):A.in1.units+k<cLine:=by
 have e:A.in1.units<=A.units+1:=by
  first | exact Nat.le_refl _ | (simp[Around.in1,Around.units] <;> omega)
 omega
theorem Jy (I:Inv X pins σ H s) (st:St3 X.K ρ S H):∀(k:Nat) (A:Around) (x y:D) (v u:V) (vv uu:Value) (b:Bool),A.units+k<cLine->Rep ρ H x v->Rep ρ H y u->Z2 v vv->Z2 u uu->Ev.eqD S k x y=some b->SeqAt.EqAt A s vv uu b
 |0,_,_,_,_,_,_,_,_,_,_,_,_,_,h=>by cases h
 |k+1,A,x,y,v,u,vv,uu,b,hu,r1,r2,e1,e2,h=>by
  have flat:zK v=true->zK u=true->eqV v u=b->SeqAt.EqAt A s vv uu b:=λf1 f2 e=>by rw[<-e];exact qA e1 e2 f1 f2
  have bb:∀{a c:Bool},(a == c)=decide (a=c):=λ{a c}=>by cases a <;> cases c <;> rfl
  have ii:∀{a c:Int},(a == c)=decide (a=c):=λ{a c}=>by rw[Bool.eq_iff_iff];simp
  have ss:∀{a c:Str},(a == c)=decide (a=c):=λ{a c}=>by rw[Bool.eq_iff_iff];simp
  cases x with
  |non=>
   cases r1.non';cases y with
   |non=>cases r2.non';exact flat rfl rfl (Option.some.inj h)
   |bl _=>cases r2.bl';exact flat rfl rfl (Option.some.inj h)
   |int _=>cases r2.int';exact flat rfl rfl (Option.some.inj h)
   |str _=>cases r2.str';exact flat rfl rfl (Option.some.inj h)
   |_=>cases h
  |bl i=>
   cases r1.bl';cases y with
   |non=>cases r2.non';exact flat rfl rfl (Option.some.inj h)
   |bl _=>cases r2.bl';exact flat rfl rfl (bb.trans (Option.some.inj h))
   |int _=>cases r2.int';exact flat rfl rfl (ii.trans (Option.some.inj h))
   |str _=>cases r2.str';exact flat rfl rfl (Option.some.inj h)
   |_=>cases h
  |int i=>
   cases r1.int';cases y with
   |non=>cases r2.non';exact flat rfl rfl (Option.some.inj h)
   |bl _=>cases r2.bl';exact flat rfl rfl (ii.trans (Option.some.inj h))
   |int _=>cases r2.int';exact flat rfl rfl (ii.trans (Option.some.inj h))
   |str _=>cases r2.str';exact flat rfl rfl (Option.some.inj h)
   |_=>cases h
  |str i=>
   cases r1.str';cases y with
   |non=>cases r2.non';exact flat rfl rfl (Option.some.inj h)
   |bl _=>cases r2.bl';exact flat rfl rfl (Option.some.inj h)
   |int _=>cases r2.int';exact flat rfl rfl (Option.some.inj h)
   |str _=>cases r2.str';exact flat rfl rfl (ss.trans (Option.some.inj h))
   |_=>cases h
  |tup ds=>
   obtain⟨p,xs,rfl,hp,q1⟩:=r1.tup';cases e1;cases y with
   |tup es=>
    obtain⟨p',ys,rfl,hp',q2⟩:=r2.tup';cases e2;by_cases hpp:p=p'
    ·subst hpp
     rw[Vi st (k+1) (.tup ds) (.tup es) (.ref p) b r1 r2 h];exact SeqAt.EqAt.same _
    ·obtain⟨its,v1,t1,_⟩:=I.tuple (SqT.of hp)
     obtain⟨its2,v2,t2,_⟩:=I.tuple (SqT.of hp');have h':Ev.eqL (Ev.eqD S k) ds es=some b:=h;obtain⟨ev,ea⟩:=XO h';have n1:its.toArray.size=ds.length:=by rw[List.size_toArray,<-v1.length,q1.length]
     have n2:its2.toArray.size=es.length:=by rw[List.size_toArray,<-v2.length,q2.length]
     refine SeqAt.EqAt.of_refs hpp ?_;rw[<-ev,<-n1,<-n2];refine SeqAt.RcAt.tuples t1 t2 (by omega) λj j1 j2=>?_
     have d1:ds[j]? = some ds[j]:=List.getElem?_eq_getElem (by omega)
     have d2:es[j]? = some es[j]:=List.getElem?_eq_getElem (by omega)
     obtain⟨w1,g1,z1⟩:=q1.get d1;obtain⟨w2,g2,z2⟩:=q2.get d2;obtain⟨m1,k1,y1⟩:=v1.get g1;obtain⟨m2,k2,y2⟩:=v2.get g2;have o1:its.toArray[j]=m1:=by
      have:=List.getElem?_eq_some_iff.mp k1
      simpa using this.2
     have o2:its2.toArray[j]=m2:=by
      have:=List.getElem?_eq_some_iff.mp k2
      simpa using this.2
     rw[o1,o2];exact Jy I st k A.in1 ds[j] es[j] w1 w2 m1 m2 _ (Y5 hu) z1 z2 y1 y2 (ea j _ _ d1 d2)
   |_=>cases h
  |loc m=>
   obtain⟨p,rfl,hp⟩:=r1.loc';cases e1;cases y with
   |loc n=>
    obtain⟨p',rfl,hp'⟩:=r2.loc';cases e2;by_cases hpp:p=p'
    ·subst hpp
     rw[Vi st (k+1) (.loc m) (.loc n) (.ref p) b r1 r2 h];exact SeqAt.EqAt.same _
    ·have h':(match Ev.Zv S m,Ev.Zv S n with
      |some xs,some ys=>if xs.length=ys.length then Ev.eqL (Ev.eqD S k) xs ys else some false
      |_,_=>none)=some b:=h
     cases a1:Ev.Zv S m with
     |none=>rw[a1] at h';cases h'
     |some ds=>
      cases a2:Ev.Zv S n with
      |none=>rw[a1,a2] at h';cases h'
      |some es=>
       rw[a1,a2] at h';obtain⟨s1,c1,xs,t1,u1,q1⟩:=st.lst a1;obtain⟨s2,c2,ys,t2,u2,q2⟩:=st.lst a2;rw[hp] at t1;cases t1;rw[hp'] at t2;cases t2;obtain⟨its,v1,p1,_⟩:=I.list (SqL.of u1);obtain⟨its2,v2,p2,_⟩:=I.list (SqL.of u2);have n1:its.toArray.size=ds.length:=by rw[List.size_toArray,<-v1.length,q1.length]
       have n2:its2.toArray.size=es.length:=by rw[List.size_toArray,<-v2.length,q2.length]
       refine SeqAt.EqAt.of_refs hpp ?_;have h2:(if ds.length=es.length then Ev.eqL (Ev.eqD S k) ds es else some false)=some b:=h'
       by_cases hl:ds.length=es.length
       ·rw[if_pos hl] at h2
        obtain⟨ev,ea⟩:=XO h2;have ev':(List.range ds.length).all (eAt (Ev.eqD S k) ds es)=b:=by
         rw[<-ev,<-hl,Nat.min_self];simp
        rw[<-ev',<-n1];refine SeqAt.RcAt.lists p1.isList p2.isList (by omega) (by omega) λj j1 j2=>?_
        have d1:ds[j]? = some ds[j]:=List.getElem?_eq_getElem (by omega)
        have d2:es[j]? = some es[j]:=List.getElem?_eq_getElem (by omega)
        obtain⟨w1,g1,z1⟩:=q1.get d1;obtain⟨w2,g2,z2⟩:=q2.get d2;obtain⟨m1,k1,y1⟩:=v1.get g1;obtain⟨m2,k2,y2⟩:=v2.get g2;have o1:its.toArray[j]=m1:=by
         have:=List.getElem?_eq_some_iff.mp k1
         simpa using this.2
        have o2:its2.toArray[j]=m2:=by
         have:=List.getElem?_eq_some_iff.mp k2
         simpa using this.2
        rw[o1,o2];exact Jy I st k A.in1 ds[j] es[j] w1 w2 m1 m2 _ (Y5 hu) z1 z2 y1 y2 (ea j _ _ d1 d2)
       ·rw[if_neg hl] at h2
        rw[<-Option.some.inj h2];exact SeqAt.RcAt.lists_lengths p1.isList p2.isList (bne_iff_ne.mpr (by omega)) (by omega)
   |_=>cases h
  |_=>cases h
end
end Sd
namespace Sd
open PySem PySem.Spec PyProof.Rows L2
open Ev (D Ob Store Lc R E Sm Calls Walk Fl Fn Bop Cop Ty Bf Mf ev evs evo evt evw tst run runs)
section
variable {X:Cx}{pins:List (Addr×Obj)}{σ:L2.St}{H:Hp}{s:Shared}{ρ:List Addr}{S:Store}
theorem Vj (I:Inv X pins σ H s) (st:St3 X.K ρ S H) {k:Nat}{A:Around}{ds es:List D}{xs ys:List V}{its its2:List Value}{b:Bool}(hu:A.units+(k+1)<cLine)
  (q1:Reps ρ H ds xs) (q2:Reps ρ H es ys) (v1:Vals xs its) (v2:Vals ys its2) (h:Ev.eqL (Ev.eqD S k) ds es=some b) :
  ∀j (h1:j<its.toArray.size) (h2:j<its2.toArray.size),SeqAt.EqAt A.in1 s its.toArray[j] its2.toArray[j] (eAt (Ev.eqD S k) ds es j):=λj j1 j2=>by
 obtain⟨_,ea⟩:=XO h;have n1:its.toArray.size=ds.length:=by rw[List.size_toArray,<-v1.length,q1.length]
 have n2:its2.toArray.size=es.length:=by rw[List.size_toArray,<-v2.length,q2.length]
 have d1:ds[j]? = some ds[j]:=List.getElem?_eq_getElem (by omega)
 have d2:es[j]? = some es[j]:=List.getElem?_eq_getElem (by omega)
 obtain⟨w1,g1,z1⟩:=q1.get d1;obtain⟨w2,g2,z2⟩:=q2.get d2;obtain⟨m1,k1,y1⟩:=v1.get g1;obtain⟨m2,k2,y2⟩:=v2.get g2;have o1:its.toArray[j]=m1:=by
  have:=List.getElem?_eq_some_iff.mp k1
  simpa using this.2
 have o2:its2.toArray[j]=m2:=by
  have:=List.getElem?_eq_some_iff.mp k2
  simpa using this.2
 rw[o1,o2];exact Jy I st k A.in1 ds[j] es[j] w1 w2 m1 m2 _ (Y5 hu) z1 z2 y1 y2 (ea j _ _ d1 d2)
end
section
variable {X:Cx}{xw:Nat->Hp->Prop}{C:Calls}{e a b c:Expr}{i j k:E}{pos p p':Pos}
noncomputable def vi (K:PySem.W.Frag) (xw:Nat->Hp->Prop) (op:Cop):R2:=λv u H Q=>∃ρ S x y,St3 K ρ S H/\Rep ρ H x v/\Rep ρ H y u/\End K xw Rep ρ H Q (Ev.cmpop op x y S)
theorem jk {op:Cop}:∀σ H Q,tE X xw (ev C (.cmp op i j)) σ H Q->tOp (vi X.K xw op) (tE X xw (ev C i)) (tE X xw (ev C j)) σ H Q:=λσ H Q h=>
 WH (r:=vi X.K xw op) (g:=Ev.cmpop op) (λ{ρ H S x y v u Q} st rx ry h=>⟨ρ,S,x,y,st,rx,ry,h⟩) σ H Q h
theorem dI {a c:Int}:(a == c)=decide (a=c):=by rw[Bool.eq_iff_iff];simp
theorem qN (hu:X.A.units+6<cLine):OpR X (compareOp .Eq) (vi X.K xw .eq):=by
 intro pins s σ H v u vv uu Q I e1 e2 h;obtain⟨ρ,S,x,y,st,rx,ry,h⟩:=h;have h0:End X.K xw Rep ρ H Q ((Ev.ob (Ev.eqD S Ev.ZA x y) S).bind λb S=>.ok (.bl b) S):=h
 obtain⟨b,hb,h1⟩:=End.ob h0;have q:Q (.bl b) H:=End.ok h1 st (ZH b);have flat:scal v u=true->decide (v=u)=b->wpAny (model X.prog X.w) X.A (compareOp .Eq vv uu) (EP X pins σ Q) X.xe s:=λhs e=>Zaj pins s σ H v u vv uu Q I e1 e2 ⟨hs,by rw[e];exact q⟩
 cases x with
 |non=>
  cases rx.non';cases y with
  |non=>cases ry.non';exact flat rfl (Option.some.inj hb▸by simp)
  |bl _=>cases ry.bl';exact flat rfl (Option.some.inj hb▸by simp)
  |int _=>cases ry.int';exact flat rfl (Option.some.inj hb▸by simp)
  |str _=>cases ry.str';exact flat rfl (Option.some.inj hb▸by simp)
  |_=>cases hb
 |bl i=>
  cases rx.bl';cases y with
  |non=>cases ry.non';exact flat rfl (Option.some.inj hb▸by simp)
  |bl j=>cases ry.bl';exact flat rfl (Option.some.inj hb▸by simp)
  |int j=>
   cases ry.int';cases e1;obtain⟨t,rfl⟩:=e2;refine EqBoolInt.eq_bool_int ⟨.bl b,H,I,?_,q⟩;show Value.bool ((if i then 1 else 0) == j)=Value.bool b
   rw[dI];exact congrArg Value.bool (Option.some.inj hb)
  |str _=>cases ry.str';exact flat rfl (Option.some.inj hb▸by simp)
  |_=>cases hb
 |int i=>
  cases rx.int';cases y with
  |non=>cases ry.non';exact flat rfl (Option.some.inj hb▸by simp)
  |bl j=>
   cases ry.bl';cases e2;obtain⟨t,rfl⟩:=e1;refine EqBoolInt.eq_int_bool ⟨.bl b,H,I,?_,q⟩;show Value.bool (i == (if j then 1 else 0))=Value.bool b
   rw[dI];exact congrArg Value.bool (Option.some.inj hb)
  |int _=>cases ry.int';exact flat rfl (Option.some.inj hb▸by simp)
  |str _=>cases ry.str';exact flat rfl (Option.some.inj hb▸by simp)
  |_=>cases hb
 |str i=>
  cases rx.str';cases y with
  |non=>cases ry.non';exact flat rfl (Option.some.inj hb▸by simp)
  |bl _=>cases ry.bl';exact flat rfl (Option.some.inj hb▸by simp)
  |int _=>cases ry.int';exact flat rfl (Option.some.inj hb▸by simp)
  |str _=>cases ry.str';exact flat rfl (Option.some.inj hb▸by simp)
  |_=>cases hb
 |tup ds=>
  obtain⟨p,xs,rfl,hp,q1⟩:=rx.tup';cases e1;cases y with
  |tup es=>
   obtain⟨p',ys,rfl,hp',q2⟩:=ry.tup';cases e2;obtain⟨its,v1,t1,_⟩:=I.tuple (SqT.of hp);obtain⟨its2,v2,t2,_⟩:=I.tuple (SqT.of hp');have hb':Ev.eqL (Ev.eqD S 5) ds es=some b:=hb;obtain⟨ev,_⟩:=XO hb';have n1:its.toArray.size=ds.length:=by rw[List.size_toArray,<-v1.length,q1.length]
   have n2:its2.toArray.size=es.length:=by rw[List.size_toArray,<-v2.length,q2.length]
   refine SeqAt.RcAt.tuples t1 t2 (by omega) (Vj I st hu q1 q2 v1 v2 hb') X.prog X.w X.xe _ ?_
   rw[n1,n2,ev];exact⟨.bl b,H,I,rfl,q⟩
  |_=>cases hb
 |loc m=>
  obtain⟨p,rfl,hp⟩:=rx.loc';cases e1;cases y with
  |loc n=>
   obtain⟨p',rfl,hp'⟩:=ry.loc';cases e2;have h':(match Ev.Zv S m,Ev.Zv S n with
    |some xs,some ys=>if xs.length=ys.length then Ev.eqL (Ev.eqD S 5) xs ys else some false
    |_,_=>none)=some b:=hb
   cases a1:Ev.Zv S m with
   |none=>rw[a1] at h';cases h'
   |some ds=>
    cases a2:Ev.Zv S n with
    |none=>rw[a1,a2] at h';cases h'
    |some es=>
     rw[a1,a2] at h';obtain⟨s1,c1,xs,t1,u1,q1⟩:=st.lst a1;obtain⟨s2,c2,ys,t2,u2,q2⟩:=st.lst a2;rw[hp] at t1;cases t1;rw[hp'] at t2;cases t2;obtain⟨its,v1,p1,_⟩:=I.list (SqL.of u1);obtain⟨its2,v2,p2,_⟩:=I.list (SqL.of u2);have n1:its.toArray.size=ds.length:=by rw[List.size_toArray,<-v1.length,q1.length]
     have n2:its2.toArray.size=es.length:=by rw[List.size_toArray,<-v2.length,q2.length]
     have h2:(if ds.length=es.length then Ev.eqL (Ev.eqD S 5) ds es else some false)=some b:=h'
     by_cases hl:ds.length=es.length
     ·rw[if_pos hl] at h2
      obtain⟨ev,_⟩:=XO h2;have ev':(List.range ds.length).all (eAt (Ev.eqD S 5) ds es)=b:=by
       rw[<-ev,<-hl,Nat.min_self];simp
      refine SeqAt.RcAt.lists p1.isList p2.isList (by omega) (by omega) (Vj I st hu q1 q2 v1 v2 h2) X.prog X.w X.xe _ ?_
      rw[n1,ev'];exact⟨.bl b,H,I,rfl,q⟩
     ·rw[if_neg hl] at h2
      refine SeqAt.RcAt.lists_lengths p1.isList p2.isList (bne_iff_ne.mpr (by omega)) (by omega) X.prog X.w X.xe _ ?_
      exact⟨.bl b,H,I,congrArg Value.bool (Option.some.inj h2),q⟩
  |_=>cases hb
 |_=>cases hb
theorem qP (hu:X.A.units+6<cLine):OpR X (compareOp .NotEq) (vi X.K xw .ne):=by
 intro pins s σ H v u vv uu Q I e1 e2 h;obtain⟨ρ,S,x,y,st,rx,ry,h⟩:=h;have h0:End X.K xw Rep ρ H Q ((Ev.ob (Ev.eqD S Ev.ZA x y) S).bind λb S=>.ok (.bl !b) S):=h
 obtain⟨b,hb,h1⟩:=End.ob h0;have q:Q (.bl !b) H:=End.ok h1 st (ZH _);have flat:scal v u=true->decide (v=u)=b->wpAny (model X.prog X.w) X.A (compareOp .NotEq vv uu) (EP X pins σ Q) X.xe s:=λhs e=>jU pins s σ H v u vv uu Q I e1 e2 ⟨hs,by rw[e];exact q⟩
 cases x with
 |non=>
  cases rx.non';cases y with
  |non=>cases ry.non';exact flat rfl (Option.some.inj hb▸by simp)
  |bl _=>cases ry.bl';exact flat rfl (Option.some.inj hb▸by simp)
  |int _=>cases ry.int';exact flat rfl (Option.some.inj hb▸by simp)
  |str _=>cases ry.str';exact flat rfl (Option.some.inj hb▸by simp)
  |_=>cases hb
 |bl i=>
  cases rx.bl';cases y with
  |non=>cases ry.non';exact flat rfl (Option.some.inj hb▸by simp)
  |bl j=>cases ry.bl';exact flat rfl (Option.some.inj hb▸by simp)
  |int j=>
   cases ry.int';cases e1;obtain⟨t,rfl⟩:=e2;refine EqBoolInt.ne_bool_int ⟨.bl !b,H,I,?_,q⟩;show Value.bool (!((if i then 1 else 0) == j))=Value.bool !b
   rw[dI];exact congrArg (λz=>Value.bool !z) (Option.some.inj hb)
  |str _=>cases ry.str';exact flat rfl (Option.some.inj hb▸by simp)
  |_=>cases hb
 |int i=>
  cases rx.int';cases y with
  |non=>cases ry.non';exact flat rfl (Option.some.inj hb▸by simp)
  |bl j=>
   cases ry.bl';cases e2;obtain⟨t,rfl⟩:=e1;refine EqBoolInt.ne_int_bool ⟨.bl !b,H,I,?_,q⟩;show Value.bool (!(i == (if j then 1 else 0)))=Value.bool !b
   rw[dI];exact congrArg (λz=>Value.bool !z) (Option.some.inj hb)
  |int _=>cases ry.int';exact flat rfl (Option.some.inj hb▸by simp)
  |str _=>cases ry.str';exact flat rfl (Option.some.inj hb▸by simp)
  |_=>cases hb
 |str i=>
  cases rx.str';cases y with
  |non=>cases ry.non';exact flat rfl (Option.some.inj hb▸by simp)
  |bl _=>cases ry.bl';exact flat rfl (Option.some.inj hb▸by simp)
  |int _=>cases ry.int';exact flat rfl (Option.some.inj hb▸by simp)
  |str _=>cases ry.str';exact flat rfl (Option.some.inj hb▸by simp)
  |_=>cases hb
 |tup ds=>
  obtain⟨p,xs,rfl,hp,q1⟩:=rx.tup';cases e1;cases y with
  |tup es=>
   obtain⟨p',ys,rfl,hp',q2⟩:=ry.tup';cases e2;obtain⟨its,v1,t1,_⟩:=I.tuple (SqT.of hp);obtain⟨its2,v2,t2,_⟩:=I.tuple (SqT.of hp');have hb':Ev.eqL (Ev.eqD S 5) ds es=some b:=hb;obtain⟨ev,_⟩:=XO hb';have n1:its.toArray.size=ds.length:=by rw[List.size_toArray,<-v1.length,q1.length]
   have n2:its2.toArray.size=es.length:=by rw[List.size_toArray,<-v2.length,q2.length]
   refine SeqAt.RcNeAt.tuples t1 t2 (by omega) (Vj I st hu q1 q2 v1 v2 hb') X.prog X.w X.xe _ ?_
   rw[n1,n2,ev];exact⟨.bl !b,H,I,rfl,q⟩
  |_=>cases hb
 |loc m=>
  obtain⟨p,rfl,hp⟩:=rx.loc';cases e1;cases y with
  |loc n=>
   obtain⟨p',rfl,hp'⟩:=ry.loc';cases e2;have h':(match Ev.Zv S m,Ev.Zv S n with
    |some xs,some ys=>if xs.length=ys.length then Ev.eqL (Ev.eqD S 5) xs ys else some false
    |_,_=>none)=some b:=hb
   cases a1:Ev.Zv S m with
   |none=>rw[a1] at h';cases h'
   |some ds=>
    cases a2:Ev.Zv S n with
    |none=>rw[a1,a2] at h';cases h'
    |some es=>
     rw[a1,a2] at h';obtain⟨s1,c1,xs,t1,u1,q1⟩:=st.lst a1;obtain⟨s2,c2,ys,t2,u2,q2⟩:=st.lst a2;rw[hp] at t1;cases t1;rw[hp'] at t2;cases t2;obtain⟨its,v1,p1,_⟩:=I.list (SqL.of u1);obtain⟨its2,v2,p2,_⟩:=I.list (SqL.of u2);have n1:its.toArray.size=ds.length:=by rw[List.size_toArray,<-v1.length,q1.length]
     have n2:its2.toArray.size=es.length:=by rw[List.size_toArray,<-v2.length,q2.length]
     have h2:(if ds.length=es.length then Ev.eqL (Ev.eqD S 5) ds es else some false)=some b:=h'
     by_cases hl:ds.length=es.length
     ·rw[if_pos hl] at h2
      obtain⟨ev,_⟩:=XO h2;have ev':(List.range ds.length).all (eAt (Ev.eqD S 5) ds es)=b:=by
       rw[<-ev,<-hl,Nat.min_self];simp
      refine SeqAt.RcNeAt.lists p1.isList p2.isList (by omega) (by omega) (Vj I st hu q1 q2 v1 v2 h2) X.prog X.w X.xe _ ?_
      rw[n1,ev'];exact⟨.bl !b,H,I,rfl,q⟩
     ·rw[if_neg hl] at h2
      refine SeqAt.RcNeAt.lists_lengths p1.isList p2.isList (bne_iff_ne.mpr (by omega)) (by omega) X.prog X.w X.xe _ ?_
      exact⟨.bl !b,H,I,congrArg (λz=>Value.bool !z) (Option.some.inj h2),q⟩
  |_=>cases hb
 |_=>cases hb
end
end Sd
namespace Sd
open PySem PySem.Spec PyProof.Rows L2
open Ev (D Ob Store Lc R E Sm Calls Walk Fl Fn Bop Cop Ty Bf Mf ev evs evo evt evw tst run runs)
section
variable {K:PySem.W.Frag}{ρ:List Addr}{H:Hp}{S:Store}
theorem zY {f:D->D->Option Bool}(hf:∀x x' y v b b',Rep ρ H x v->Rep ρ H x' v->f x y=some b->f x' y=some b'->b=b') :
  ∀{ds ds' es:List D} {xs:List V} {b b':Bool},Reps ρ H ds xs->Reps ρ H ds' xs->Ev.eqL f ds es=some b->Ev.eqL f ds' es=some b'->b=b'
 |[],[],[],_,b,b',_,_,h,h'=>(Option.some.inj h).symm.trans (Option.some.inj h')
 |[],[],_::_,_,b,b',_,_,h,h'=>(Option.some.inj h).symm.trans (Option.some.inj h')
 |_::_,_::_,[],_,b,b',_,_,h,h'=>(Option.some.inj h).symm.trans (Option.some.inj h')
 |d::ds,d'::ds',e::es,_,b,b',r1,r2,h,h'=>by
  unfold Reps at r1 r2;obtain⟨v,vs,rfl,a1,b1⟩:=r1;obtain⟨v',vs',e',a2,b2⟩:=r2;cases e';unfold Ev.eqL at h h';cases q1:f d e with
  |none=>rw[q1] at h;cases h
  |some p=>
   cases q2:Ev.eqL f ds es with
   |none=>rw[q1,q2] at h;cases h
   |some q=>
    cases q3:f d' e with
    |none=>rw[q3] at h';cases h'
    |some p'=>
     cases q4:Ev.eqL f ds' es with
     |none=>rw[q3,q4] at h';cases h'
     |some q'=>
      rw[q1,q2] at h;rw[q3,q4] at h';have z1:(p&&q)=b:=Option.some.inj h;have z2:(p'&&q')=b':=Option.some.inj h';rw[<-z1,<-z2,hf d d' e v p p' a1 a2 q1 q3,zY hf b1 b2 q2 q4]
 |[],_::_,_,_,b,b',r1,r2,_,_=>by
  have l1:=r1.length;have l2:=r2.length;rw[l1] at l2;simp at l2
 |_::_,[],_,_,b,b',r1,r2,_,_=>by
  have l1:=r1.length;have l2:=r2.length;rw[l1] at l2;simp at l2
theorem z8 (st:St3 K ρ S H):∀(k:Nat) (x x' y:D) (v:V) (b b':Bool),Rep ρ H x v->Rep ρ H x' v->Ev.eqD S k x y=some b->Ev.eqD S k x' y=some b'->b=b'
 |0,_,_,_,_,_,_,_,_,h,_=>by cases h
 |k+1,x,x',y,v,b,b',r1,r2,h,h'=>by
  cases x with
  |non=>
   cases r1.non';cases x' with
   |non=>exact Option.some.inj (h.symm.trans h')
   |bl _=>cases r2.bl'
   |int _=>cases r2.int'
   |str _=>cases r2.str'
   |tup _=>obtain⟨_,_,z,_⟩:=r2.tup';cases z
   |loc _=>obtain⟨_,z,_⟩:=r2.loc';cases z
   |fn _=>unfold Rep at r2;exact r2.elim
   |exc _ _=>unfold Rep at r2;exact r2.elim
  |bl i=>
   cases r1.bl';cases x' with
   |bl j=>cases r2.bl';exact Option.some.inj (h.symm.trans h')
   |non=>cases r2.non'
   |int _=>cases r2.int'
   |str _=>cases r2.str'
   |tup _=>obtain⟨_,_,z,_⟩:=r2.tup';cases z
   |loc _=>obtain⟨_,z,_⟩:=r2.loc';cases z
   |fn _=>unfold Rep at r2;exact r2.elim
   |exc _ _=>unfold Rep at r2;exact r2.elim
  |int i=>
   cases r1.int';cases x' with
   |int j=>cases r2.int';exact Option.some.inj (h.symm.trans h')
   |non=>cases r2.non'
   |bl _=>cases r2.bl'
   |str _=>cases r2.str'
   |tup _=>obtain⟨_,_,z,_⟩:=r2.tup';cases z
   |loc _=>obtain⟨_,z,_⟩:=r2.loc';cases z
   |fn _=>unfold Rep at r2;exact r2.elim
   |exc _ _=>unfold Rep at r2;exact r2.elim
  |str i=>
   cases r1.str';cases x' with
   |str j=>cases r2.str';exact Option.some.inj (h.symm.trans h')
   |non=>cases r2.non'
   |bl _=>cases r2.bl'
   |int _=>cases r2.int'
   |tup _=>obtain⟨_,_,z,_⟩:=r2.tup';cases z
   |loc _=>obtain⟨_,z,_⟩:=r2.loc';cases z
   |fn _=>unfold Rep at r2;exact r2.elim
   |exc _ _=>unfold Rep at r2;exact r2.elim
  |tup ds=>
   obtain⟨p,xs,rfl,hp,q1⟩:=r1.tup';cases y with
   |tup es=>
    cases x' with
    |tup ds'=>
     obtain⟨p',xs',z,hp',q2⟩:=r2.tup';cases z;rw[hp] at hp';cases hp';exact zY (λx x' y v b b'=>z8 st k x x' y v b b') q1 q2 h h'
    |non=>cases r2.non'
    |bl _=>cases r2.bl'
    |int _=>cases r2.int'
    |str _=>cases r2.str'
    |loc _=>cases h'
    |fn _=>unfold Rep at r2;exact r2.elim
    |exc _ _=>unfold Rep at r2;exact r2.elim
   |_=>cases h
  |loc m=>
   obtain⟨p,rfl,hp⟩:=r1.loc';cases y with
   |loc n=>
    cases x' with
    |loc m'=>
     obtain⟨p',z,hp'⟩:=r2.loc';cases z;by_cases hm:m=m'
     ·subst hm
      exact Option.some.inj (h.symm.trans h')
     ·have one:∀{q:Nat} {b:Bool},Ev.eqD S (k+1) (.loc q) (.loc n)=some b->∃ds,Ev.Zv S q=some ds:=λ{q b} h=>by
       have h2:(match Ev.Zv S q,Ev.Zv S n with
        |some xs,some ys=>if xs.length=ys.length then Ev.eqL (Ev.eqD S k) xs ys else some false
        |_,_=>none)=some b:=h
       cases e1:Ev.Zv S q with
       |none=>rw[e1] at h2;cases h2
       |some ds=>exact⟨ds,rfl⟩
      obtain⟨ds,e1⟩:=one h;obtain⟨ds',e2⟩:=one h';rcases st.nd m m' p hp hp' hm with ⟨ns,z⟩ | ⟨ns,z⟩
      ·rw[(st.lst e1).1] at z;cases z
      ·rw[(st.lst e2).1] at z;cases z
    |non=>cases r2.non'
    |bl _=>cases r2.bl'
    |int _=>cases r2.int'
    |str _=>cases r2.str'
    |tup _=>cases h'
    |fn _=>unfold Rep at r2;exact r2.elim
    |exc _ _=>unfold Rep at r2;exact r2.elim
   |_=>cases h
  |fn _=>unfold Rep at r1;exact r1.elim
  |exc _ _=>unfold Rep at r1;exact r1.elim
theorem Jp {x:D}:∀{ds:List D}{b:Bool},Ev.inL S x ds=some b->∀d∈ds,∃c,Ev.eqD S Ev.ZA d x=some c
 |[],_,_,d,hd=>by cases hd
 |y::ys,b,h,d,hd=>by
  unfold Ev.inL at h;cases q1:Ev.eqD S Ev.ZA y x with
  |none=>rw[q1] at h;cases h
  |some p=>
   cases q2:Ev.inL S x ys with
   |none=>rw[q1,q2] at h;cases h
   |some q=>
    rcases List.mem_cons.mp hd with rfl | hd
    ·exact⟨p,q1⟩
    ·exact Jp q2 d hd
theorem yh {x:D}:∀{ds:List D}{b:Bool},Ev.inL S x ds=some b->(ds.any λd=>(Ev.eqD S Ev.ZA d x).getD false)=b
 |[],_,h=>Option.some.inj h
 |y::ys,b,h=>by
  unfold Ev.inL at h;cases q1:Ev.eqD S Ev.ZA y x with
  |none=>rw[q1] at h;cases h
  |some p=>
   cases q2:Ev.inL S x ys with
   |none=>rw[q1,q2] at h;cases h
   |some q=>
    rw[q1,q2] at h;rw[List.any_cons,yh q2,q1,<-Option.some.inj h];rfl
end
section
variable {X:Cx}{pins:List (Addr×Obj)}{σ:L2.St}{H:Hp}{s:Shared}{ρ:List Addr}{S:Store}
open Classical in
theorem Vg (I:Inv X pins σ H s) (st:St3 X.K ρ S H) {A:Around}{x:D}{ds:List D}{xs:List V}{its:List Value}{b:Bool}{v:V}{vv:Value}(hu:A.units+6<cLine) (rx:Rep ρ H x v) (ex:Z2 v vv)
  (q:Reps ρ H ds xs) (vs:Vals xs its) (h:Ev.inL S x ds=some b):∃e:Value->Bool,(∀u,u∈its.toArray->SeqAt.EqAt A s u vv (e u))/\its.toArray.any e=b:=by
 refine⟨λu=>decide (∃d∈ds,∃w,Rep ρ H d w/\Z2 w u/\Ev.eqD S Ev.ZA d x=some true),λu hu'=>?_,?_⟩
 ·have hu2:u∈its:=by simpa using hu'
  obtain⟨j,hj,e⟩:=List.getElem_of_mem hu2;have hl:j<ds.length:=by rw[<-q.length,vs.length];exact hj
  obtain⟨w,g,r⟩:=q.get (List.getElem?_eq_getElem hl);obtain⟨u',g',r'⟩:=vs.get g;have eu:u'=u:=by
   rw[List.getElem?_eq_getElem hj] at g';exact (Option.some.inj g').symm.trans e
  subst eu;obtain⟨c,hc⟩:=Jp h ds[j] (List.getElem_mem hl);have ec:decide (∃d∈ds,∃w,Rep ρ H d w/\Z2 w u'/\Ev.eqD S Ev.ZA d x=some true)=c:=by
   cases c with
   |true=>exact decide_eq_true ⟨ds[j],List.getElem_mem hl,w,r,r',hc⟩
   |false=>
    refine decide_eq_false ?_
    rintro ⟨d,hd,w',a1,a2,a3⟩
    cases a2.inj r';exact absurd (z8 st 6 d ds[j] x w true false a1 r a3 hc) (by decide)
  dsimp only
  rw[ec];exact Jy I st 6 A ds[j] x w v u' vv c hu r rx r' ex hc
 ·rw[<-yh h,List.any_toArray,Bool.eq_iff_iff,List.any_eq_true,List.any_eq_true]
  constructor
  ·rintro ⟨u,hu1,h1⟩
   obtain⟨d,hd,w,a1,a2,a3⟩:=of_decide_eq_true h1;exact⟨d,hd,by rw[a3];rfl⟩
  ·rintro ⟨d,hd,h1⟩
   obtain⟨j,hj,e⟩:=List.getElem_of_mem hd;subst e;obtain⟨w,g,r⟩:=q.get (List.getElem?_eq_getElem hj);obtain⟨u,g',r'⟩:=vs.get g;refine⟨u,List.mem_of_getElem? g',decide_eq_true ⟨ds[j],hd,w,r,r',?_⟩⟩;obtain⟨c,hc⟩:=Jp h ds[j] hd;rw[hc] at h1 ⊢;exact congrArg some h1
end
section
variable {X:Cx}{xw:Nat->Hp->Prop}{C:Calls}{e a b c:Expr}{i j k:E}{pos p p':Pos}
theorem qT (hu:X.A.units+7<cLine):OpR X (compareOp .In) (λv u H Q=>∃ρ S x ds b,St3 X.K ρ S H/\Rep ρ H x v/\(Rep ρ H (.tup ds) u\/∃n,Rep ρ H (.loc n) u/\S[n]? = some (.lst ds))/\Ev.inL S x ds=some b/\Q (.bl b) H):=by
 intro pins s σ H v u vv uu Q I e1 e2 h;obtain⟨ρ,S,x,ds,b,st,rx,ry,hb,q⟩:=h;rcases ry with ry | ⟨n,ry,hn⟩
 ·obtain⟨p,xs,rfl,hp,q1⟩:=ry.tup'
  cases e2;obtain⟨its,v1,t1,_⟩:=I.tuple (SqT.of hp);obtain⟨f,h1,h2⟩:=Vg I st (A:=X.A.in1) (Y5 hu) rx e1 q1 v1 hb;exact SeqAt.in_tupleAt f t1 h1 (by rw[h2];exact⟨.bl b,H,I,rfl,q⟩)
 ·obtain⟨p,rfl,hp⟩:=ry.loc'
  cases e2;obtain⟨p',hp',xs,hx,q1⟩:=st.at hn;rw[hp] at hp';cases hp';obtain⟨its,v1,t1,_⟩:=I.list (SqL.of hx);obtain⟨f,h1,h2⟩:=Vg I st (A:=X.A.in1) (Y5 hu) rx e1 q1 v1 hb;exact SeqAt.in_listAt f t1.isList h1 (by rw[h2];exact⟨.bl b,H,I,rfl,q⟩)
theorem uV (hu:X.A.units+7<cLine):OpR X (compareOp .NotIn) (λv u H Q=>∃ρ S x ds b,St3 X.K ρ S H/\Rep ρ H x v/\(Rep ρ H (.tup ds) u\/∃n,Rep ρ H (.loc n) u/\S[n]? = some (.lst ds))/\Ev.inL S x ds=some b/\Q (.bl !b) H):=by
 intro pins s σ H v u vv uu Q I e1 e2 h;obtain⟨ρ,S,x,ds,b,st,rx,ry,hb,q⟩:=h;rcases ry with ry | ⟨n,ry,hn⟩
 ·obtain⟨p,xs,rfl,hp,q1⟩:=ry.tup'
  cases e2;obtain⟨its,v1,t1,_⟩:=I.tuple (SqT.of hp);obtain⟨f,h1,h2⟩:=Vg I st (A:=X.A.in1) (Y5 hu) rx e1 q1 v1 hb;exact SeqAt.notIn_tupleAt f t1 h1 (by rw[h2];exact⟨.bl !b,H,I,rfl,q⟩)
 ·obtain⟨p,rfl,hp⟩:=ry.loc'
  cases e2;obtain⟨p',hp',xs,hx,q1⟩:=st.at hn;rw[hp] at hp';cases hp';obtain⟨its,v1,t1,_⟩:=I.list (SqL.of hx);obtain⟨f,h1,h2⟩:=Vg I st (A:=X.A.in1) (Y5 hu) rx e1 q1 v1 hb;exact SeqAt.notIn_listAt f t1.isList h1 (by rw[h2];exact⟨.bl !b,H,I,rfl,q⟩)
variable {ρ:List Addr}{H:Hp}{S:Store}{x y:D}{v u:V}{Q:VK}{K:PySem.W.Frag}
theorem jO (st:St3 K ρ S H) (rx:Rep ρ H x v) (ry:Rep ρ H y u) (h:End K xw Rep ρ H Q (Ev.cmpop .lt x y S)):rI0 (λi j=>.bl (decide (i<j))) v u H Q:=by
 cases x with
 |int i=>cases y with
  |int j=>exact⟨i,j,rx.int',ry.int',End.ok h st (ZH _)⟩
  |_=>exact False.elim h
 |_=>cases y <;> exact False.elim h
theorem jP (st:St3 K ρ S H) (rx:Rep ρ H x v) (ry:Rep ρ H y u) (h:End K xw Rep ρ H Q (Ev.cmpop .le x y S)):rI0 (λi j=>.bl (decide (i<=j))) v u H Q:=by
 cases x with
 |int i=>cases y with
  |int j=>exact⟨i,j,rx.int',ry.int',End.ok h st (ZH _)⟩
  |_=>exact False.elim h
 |_=>cases y <;> exact False.elim h
theorem j5 (st:St3 K ρ S H) (rx:Rep ρ H x v) (ry:Rep ρ H y u) (h:End K xw Rep ρ H Q (Ev.cmpop .ge x y S)):rI0 (λi j=>.bl (decide (j<=i))) v u H Q:=by
 cases x with
 |int i=>cases y with
  |int j=>exact⟨i,j,rx.int',ry.int',End.ok h st (ZH _)⟩
  |_=>exact False.elim h
 |_=>cases y <;> exact False.elim h
end
end Sd
namespace Sd
open PySem PySem.Spec PyProof.Rows L2
open Ev (D Ob Store Lc R E Sm Calls Walk Fl Fn Bop Cop Ty Bf Mf ev evs evo evt evw tst run runs)
section
variable {X:Cx}{xw:Nat->Hp->Prop}{C:Calls}{e a b c:Expr}{i j k:E}{pos p p':Pos}
theorem XS {α β γ:Type}(r:R α) (f:α->Store->R β) (g:β->Store->R γ):(r.bind f).bind g=r.bind λa S=>(f a S).bind g:=by cases r <;> rfl
theorem z9 {α β:Type}{o:Option α}{S S':Store}{f:α->Store->R β}{z:β}(h:(Ev.ob o S).bind f=.ok z S'):∃a,o=some a/\f a S=.ok z S':=by
 cases o with
 |none=>cases h
 |some a=>exact⟨a,rfl,h⟩
theorem xJ {o:Cop}{x y:D}{S S':Store}{z:D}(h:Ev.cmpop o x y S=.ok z S'):∃b,z=.bl b:=by
 have fin:∀{n:Bool},R.ok (D.bl n) S=.ok z S'->∃b,z=.bl b:=λ{n} e=>by cases e;exact⟨n,rfl⟩
 cases o with
 |eq=>obtain⟨_,_,e⟩:=z9 h;exact fin e
 |ne=>obtain⟨_,_,e⟩:=z9 h;exact fin e
 |lt=>cases x <;> cases y <;> first | exact fin h | cases h
 |gt=>cases x <;> cases y <;> first | exact fin h | cases h
 |le=>cases x <;> cases y <;> first | exact fin h | cases h
 |ge=>cases x <;> cases y <;> first | exact fin h | cases h
 |is=>cases x <;> cases y <;> first | exact fin h | cases h
 |isn=>cases x <;> cases y <;> first | exact fin h | cases h
 |inn=>cases q:Ev.W5 S x y with
  |ok b S1=>have h':((Ev.W5 S x y).bind λb S=>R.ok (D.bl b) S)=.ok z S':=h;rw[q] at h';cases h';exact⟨b,rfl⟩
  |ex _ _=>have h':((Ev.W5 S x y).bind λb S=>R.ok (D.bl b) S)=.ok z S':=h;rw[q] at h';cases h'
  |no=>have h':((Ev.W5 S x y).bind λb S=>R.ok (D.bl b) S)=.ok z S':=h;rw[q] at h';cases h'
 |nin=>cases q:Ev.W5 S x y with
  |ok b S1=>have h':((Ev.W5 S x y).bind λb S=>R.ok (D.bl !b) S)=.ok z S':=h;rw[q] at h';cases h';exact⟨!b,rfl⟩
  |ex _ _=>have h':((Ev.W5 S x y).bind λb S=>R.ok (D.bl !b) S)=.ok z S':=h;rw[q] at h';cases h'
  |no=>have h':((Ev.W5 S x y).bind λb S=>R.ok (D.bl !b) S)=.ok z S':=h;rw[q] at h';cases h'
noncomputable def Y3 (X:Cx) (xw:Nat->Hp->Prop) (op:CmpOp) (o:Cop):Prop:=OpR X (compareOp op) (vi X.K xw o)
theorem OpR.imp {X:Cx}{f:Value->Value->Sem Value}{r r':R2}(h:OpR X f r) (k:∀v u H Q,r' v u H Q->r v u H Q):OpR X f r':=λpins s σ H x y v u Q I e1 e2 q=>h pins s σ H x y v u Q I e1 e2 (k x y H Q q)
theorem Uf (hu:X.A.units+7<cLine):Y3 X xw .Eq .eq:=qN (by omega)
theorem Y4 (hu:X.A.units+7<cLine):Y3 X xw .NotEq .ne:=qP (by omega)
theorem xF (hu:X.A.units+7<cLine):Y3 X xw .Lt .lt:=OpR.imp j9 λv u H Q ⟨ρ,S,x,y,st,rx,ry,h⟩=>jO st rx ry h
theorem zT (hu:X.A.units+7<cLine):Y3 X xw .LtE .le:=OpR.imp Zai λv u H Q ⟨ρ,S,x,y,st,rx,ry,h⟩=>jP st rx ry h
theorem u5 (hu:X.A.units+7<cLine):Y3 X xw .GtE .ge:=OpR.imp j0 λv u H Q ⟨ρ,S,x,y,st,rx,ry,h⟩=>j5 st rx ry h
theorem yw (hu:X.A.units+7<cLine):Y3 X xw .Is .is:=OpR.imp (jz.or qS) λv u H Q ⟨ρ,S,x,y,st,rx,ry,h⟩=>by
 cases y with
 |non=>
  refine .inl ⟨ry.non',?_⟩;have e:decide (x=D.non)=decide (v=V.non):=by
   cases x with
   |non=>rw[rx.non'];simp
   |bl _=>rw[rx.bl'];simp
   |int _=>rw[rx.int'];simp
   |str _=>rw[rx.str'];simp
   |tup _=>obtain⟨_,_,z,_⟩:=rx.tup';rw[z];simp
   |loc _=>obtain⟨_,z,_⟩:=rx.loc';rw[z];simp
   |fn _=>unfold Rep at rx;exact rx.elim
   |exc _ _=>unfold Rep at rx;exact rx.elim
  rw[<-e];have h':End X.K xw Rep ρ H Q (.ok (.bl (decide (x=.non))) S):=by cases x <;> exact h
  exact End.ok h' st (ZH _)
 |bl j=>cases x with
  |bl i=>exact .inr ⟨i,j,rx.bl',ry.bl',End.ok h st (ZH _)⟩
  |_=>exact False.elim h
 |_=>cases x <;> exact False.elim h
theorem zE (hu:X.A.units+7<cLine):Y3 X xw .IsNot .isn:=OpR.imp (ui.or v7) λv u H Q ⟨ρ,S,x,y,st,rx,ry,h⟩=>by
 cases y with
 |non=>
  refine .inl ⟨ry.non',?_⟩;have e:decide (x≠D.non) = !decide (v=V.non):=by
   cases x with
   |non=>rw[rx.non'];simp
   |bl _=>rw[rx.bl'];simp
   |int _=>rw[rx.int'];simp
   |str _=>rw[rx.str'];simp
   |tup _=>obtain⟨_,_,z,_⟩:=rx.tup';rw[z];simp
   |loc _=>obtain⟨_,z,_⟩:=rx.loc';rw[z];simp
   |fn _=>unfold Rep at rx;exact rx.elim
   |exc _ _=>unfold Rep at rx;exact rx.elim
  rw[<-e];have h':End X.K xw Rep ρ H Q (.ok (.bl (decide (x≠.non))) S):=by cases x <;> exact h
  exact End.ok h' st (ZH _)
 |bl j=>cases x with
  |bl i=>exact .inr ⟨i,j,rx.bl',ry.bl',End.ok h st (ZH _)⟩
  |_=>exact False.elim h
 |_=>cases x <;> exact False.elim h
theorem GM {ρ:List Addr}{S:Store}{H:Hp}{x y:D}{u:V}(st:St3 X.K ρ S H) (ry:Rep ρ H y u) {f:Bool->Store->R D}{Q:VK}(h:End X.K xw Rep ρ H Q ((Ev.W5 S x y).bind f)) :
  (∃ds b,(Rep ρ H (.tup ds) u\/∃n,Rep ρ H (.loc n) u/\S[n]? = some (.lst ds))/\Ev.inL S x ds=some b/\End X.K xw Rep ρ H Q (f b S))\/
  (∃n kvs k ks,Rep ρ H (.loc n) u/\S[n]? = some (.dt kvs)/\x=.tup k/\Ev.Xp k=some ks/\End X.K xw Rep ρ H Q (f ((kvs.map (·.1)).contains ks) S)):=by
 cases y with
 |tup ys=>
  obtain⟨b,hb,h1⟩:=End.ob (show End X.K xw Rep ρ H Q ((Ev.ob (Ev.inL S x ys) S).bind f) from h)
  exact .inl ⟨ys,b,.inl ry,hb,h1⟩
 |loc n=>
  have h':End X.K xw Rep ρ H Q ((Ev.jE S x S[n]?).bind f):=h;cases q:S[n]? with
  |none=>rw[q] at h';exact False.elim h'
  |some o=>
   rw[q] at h';cases o with
   |lst ys=>
    obtain⟨b,hb,h1⟩:=End.ob (show End X.K xw Rep ρ H Q ((Ev.ob (Ev.inL S x ys) S).bind f) from h')
    exact .inl ⟨ys,b,.inr ⟨n,ry,q⟩,hb,h1⟩
   |dt kvs=>
    cases x with
    |tup k=>
     have h2:End X.K xw Rep ρ H Q (((Ev.ob (Ev.Xp k) S).bind λk S=>R.ok ((kvs.map (·.1)).contains k) S).bind f):=h'
     cases e:Ev.Xp k with
     |none=>rw[e] at h2;exact False.elim h2
     |some ks=>rw[e] at h2;exact .inr ⟨n,kvs,k,ks,ry,q,rfl,e,h2⟩
    |_=>exact False.elim h'
   |_=>exact False.elim h'
 |_=>exact False.elim h
theorem XX {op:CmpOp}{o:Cop}(hc:Y3 X xw op o) (ha:CE X xw C a i) (hb:CE X xw C b j) (hm:behindInMarks op b=false:=by first | exact nomark _ | rfl | (with_unfolding_all rfl)):CE X xw C (.Compare a [op] [b] pos) (.cmp o i j):=
 PE.imp (vR hc ha hb hm) (jk)
theorem ZY {op:CmpOp}{o:Cop}(hc:Y3 X xw op o) (ha:CE X xw C a i) (hb:CE X xw C b j) (hm:behindInMarks op b=false:=by first | exact nomark _ | rfl | (with_unfolding_all rfl)):CT X xw C (.Compare a [op] [b] pos) (.cmp o i j):=
 PT.imp (v0 hc ha hb hm) λσ H Q ⟨ρ,l,S,st,lr,h⟩=>by
  have h':End X.K xw Vo ρ H Q (((ev C i l S).bind λx S=>(ev C j l S).bind λy S=>Ev.cmpop o x y S).bind λx S=>Ev.ob (Ev.truth S x) S):=h
  simp only[XS] at h';refine⟨ρ,l,S,st,lr,h'.bind λx S1 ρ1 H1 v f1 st1 r1 h1=>⟨ρ1,l,S1,st1,lr.mono f1,h1.bind λy S2 ρ2 H2 u f2 st2 r2 h2=>⟨ρ2,S2,x,y,st2,r1.mono f2,r2,?_⟩⟩⟩
  have h3:∀{r:R D},(∀z S',r=.ok z S'->∃b,z=.bl b)->End X.K xw Vo ρ2 H2 Q (r.bind λx S=>Ev.ob (Ev.truth S x) S)->End X.K xw Rep ρ2 H2 (λx H'=>∃k,x=V.bl k/\Q k H') r:=λ{r} hr h=>by
   cases r with
   |no=>exact h
   |ex _ _=>exact h
   |ok z S3=>
    obtain⟨b,rfl⟩:=hr z S3 rfl;exact λρ3 H3 w f3 st3 r3=>⟨b,r3.bl',h ρ3 H3 b f3 st3 rfl⟩
  exact h3 (λz S' e=>xJ e) h2
theorem U9 {op op':CmpOp}{o o':Cop}{d:Expr}{k:E}(hc:Y3 X xw op o) (hc':Y3 X xw op' o') (ha:CE X xw C a i) (hb:CE X xw C b j) (hd:CE X xw C d k)
  (hm:lastMarks [op,op'] [b,d]=false:=by with_unfolding_all rfl):CE X xw C (.Compare a [op,op'] [b,d] pos) (.chain o o' i j k):=
 PE.imp (wc hc hc' ha hb hd hm) λσ H Q ⟨ρ,l,S,st,lr,h⟩=>by
  refine⟨ρ,l,S,st,lr,End.bind (show End X.K xw Rep ρ H Q ((ev C i l S).bind _) from h) λx S1 ρ1 H1 v f1 st1 r1 h1=>⟨ρ1,l,S1,st1,lr.mono f1,h1.bind λy S2 ρ2 H2 u f2 st2 r2 h2=>⟨ρ2,S2,x,y,st2,r1.mono f2,r2,h2.bind λz S3 ρ3 H3 w f3 st3 r3 h3=>?_⟩⟩⟩
  cases z with
  |bl n=>
   refine⟨n,r3.bl',?_⟩;cases n with
   |true=>exact⟨ρ3,l,S3,st3,((lr.mono f1).mono f2).mono f3,End.bind (show End X.K xw Rep ρ3 H3 Q ((ev C k l S3).bind _) from h3) λt S4 ρ4 H4 t' f4 st4 r4 h4=>⟨ρ4,S4,y,t,st4,(r2.mono f3).mono f4,r4,h4⟩⟩
   |false=>exact End.ok h3 st3 (ZH _)
  |_=>exact False.elim h3
end
end Sd
namespace Sd
open PySem PySem.Spec PyProof.Rows L2
open Ev (D Ob Store Lc R E Sm Calls Walk Fl Fn Bop Cop Ty Bf Mf ev evs evo evt evw tst run runs)
section
variable {X:Cx}{xw:Nat->Hp->Prop}{C:Calls}{e a b c:Expr}{i j k:E}{pos p p' p2:Pos}
variable {ρ:List Addr}{H:Hp}{S:Store}{x y:D}{v u:V}{Q:VK}{K:PySem.W.Frag}
theorem VH:∀{ks:List D}{k:List Int}{xs:List V},Ev.Xp ks=some k->Reps ρ H ks xs->xs=(k.map (Sum.inl:Int->Key)).map kV
 |[],k,xs,h,r=>by unfold Reps at r;cases h;rw[r];rfl
 |.int n::ks,k,xs,h,r=>by
  unfold Reps at r;obtain⟨v,vs,rfl,a1,b1⟩:=r;have h':(Ev.Xp ks).map (n :: ·)=some k:=h
  cases q:Ev.Xp ks with
  |none=>rw[q] at h';cases h'
  |some k'=>
   rw[q] at h';have e:n::k'=k:=Option.some.inj h';rw[<-e,a1.int',VH q b1];rfl
 |.non::ks,k,xs,h,r=>by cases h
 |.bl _::ks,k,xs,h,r=>by cases h
 |.str _::ks,k,xs,h,r=>by cases h
 |.tup _::ks,k,xs,h,r=>by cases h
 |.loc _::ks,k,xs,h,r=>by cases h
 |.fn _::ks,k,xs,h,r=>by cases h
 |.exc _ _::ks,k,xs,h,r=>by cases h
theorem yi:∀{k k':List Int},k.map (Sum.inl:Int->Key)=k'.map Sum.inl->k=k'
 |[],[],_=>rfl
 |[],_::_,h=>by simp at h
 |_::_,[],h=>by simp at h
 |a::k,b::k',h=>by
  rw[List.map_cons,List.map_cons] at h;injection h with h1 h2
  rw[Sum.inl.inj h1,yi h2]
theorem XZ {k:List Int}:∀{kvs:List (List Int×D)}{vs:List (List Key×V)},uZ ρ H kvs vs->(VD vs (k.map (Sum.inl:Int->Key))).isSome=(kvs.map (·.1)).contains k
 |_,_,.nil=>rfl
 |_,_,.cons (a:=p) (b:=q) r t=>by
  have ih:=XZ (k:=k) t;rw[List.map_cons,List.contains_cons,<-ih];unfold VD;rw[List.find?_cons];by_cases z:p.1=k
  ·have z':q.1=k.map Sum.inl:=by rw[r.1,z]
   rw[decide_eq_true z',z];simp
  ·have z':¬q.1=k.map Sum.inl:=λw=>z (yi (r.1.symm.trans w))
   rw[decide_eq_false z'];have:(k == p.1)=false:=beq_eq_false_iff_ne.mpr (Ne.symm z);rw[this,Bool.false_or]
theorem jH (hu:X.A.units+7<cLine):OpR X (compareOp .In) (λv u H Q=>∃a y o,u=.ref a/\v=y/\DGet H a y o/\Q (.bl o.isSome) H):=by
 intro pins s σ H v u vv uu Q I e1 e2 h;obtain⟨a,y,o,rfl,rfl,g,q⟩:=h;cases e2;exact ZaH (by omega) I g e1 λs' I'=>⟨.bl o.isSome,H,I',rfl,q⟩
theorem vO (hu:X.A.units+7<cLine):OpR X (compareOp .NotIn) (λv u H Q=>∃a y o,u=.ref a/\v=y/\DGet H a y o/\Q (.bl !o.isSome) H):=by
 intro pins s σ H v u vv uu Q I e1 e2 h;obtain⟨a,y,o,rfl,rfl,g,q⟩:=h;cases e2;exact uo (by omega) I g e1 λs' I'=>⟨.bl !o.isSome,H,I',rfl,q⟩
theorem qg (hu:X.A.units+7<cLine):Y3 X xw .In .inn:=OpR.imp ((qT hu).or (jH hu)) λv u H Q ⟨ρ,S,x,y,st,rx,ry,h⟩=>by
 rcases GM st ry (show End X.K xw Rep ρ H Q ((Ev.W5 S x y).bind λb S=>.ok (.bl b) S) from h) with ⟨ds,b,hy,hb,h1⟩ | ⟨n,kvs,k,ks,hy,hn,rfl,hk,h1⟩
 ·exact .inl ⟨ρ,S,x,ds,b,st,rx,hy,hb,End.ok h1 st (ZH _)⟩
 ·obtain⟨p,rfl,hp⟩:=hy.loc'
  obtain⟨p',hp',vs,hx,r⟩:=st.at hn;rw[hp] at hp';cases hp';obtain⟨q,xs,rfl,hq,r2⟩:=rx.tup';refine .inr ⟨p,.ref q,VD vs (ks.map Sum.inl),rfl,rfl,DGet.t hx (by rw[hq,VH hk r2]),?_⟩
  rw[XZ r];exact End.ok h1 st (ZH _)
theorem wG (hu:X.A.units+7<cLine):Y3 X xw .NotIn .nin:=OpR.imp ((uV hu).or (vO hu)) λv u H Q ⟨ρ,S,x,y,st,rx,ry,h⟩=>by
 rcases GM st ry (show End X.K xw Rep ρ H Q ((Ev.W5 S x y).bind λb S=>.ok (.bl !b) S) from h) with ⟨ds,b,hy,hb,h1⟩ | ⟨n,kvs,k,ks,hy,hn,rfl,hk,h1⟩
 ·exact .inl ⟨ρ,S,x,ds,b,st,rx,hy,hb,End.ok h1 st (ZH _)⟩
 ·obtain⟨p,rfl,hp⟩:=hy.loc'
  obtain⟨p',hp',vs,hx,r⟩:=st.at hn;rw[hp] at hp';cases hp';obtain⟨q,xs,rfl,hq,r2⟩:=rx.tup';refine .inr ⟨p,.ref q,VD vs (ks.map Sum.inl),rfl,rfl,DGet.t hx (by rw[hq,VH hk r2]),?_⟩
  rw[XZ r];exact End.ok h1 st (ZH _)
theorem Z9 (ha:CE X xw C a i) (hb:CE X xw C b j) (hs:JP b:=by intro _ _;with_unfolding_all rfl):CE X xw C (.Subscript a b pos) (.ix i j):=PE.imp (Zag (uK.or qB) ha hb hs) (WH λ{ρ H S x y v u Q} st rx ry h=>by
 cases x with
 |tup ds=>cases y with
  |int n=>
   obtain⟨p,xs,rfl,hp,r⟩:=rx.tup';have h':End X.K xw Rep ρ H Q (Ev.ob (Ev.at' ds n) S):=h;cases q:Ev.at' ds n with
   |none=>rw[q] at h';exact False.elim h'
   |some d=>
    rw[q] at h';unfold Ev.at' at q;cases q2:Ev.ixN ds.length n with
    |none=>rw[q2] at q;cases q
    |some m=>
     rw[q2] at q;obtain⟨w,g,rw'⟩:=r.get (show ds[m]? = some d from q)
     refine .inr ⟨p,xs,n,w,rfl,ry.int',SqT.of hp,?_,End.ok h' st rw'⟩;unfold atI;rw[r.length,show ixN ds.length n=some m from q2]
     exact g
  |_=>exact False.elim h
 |loc m=>cases y with
  |int n=>
   have h':End X.K xw Rep ρ H Q (match Ev.Yu S m with
    |some xs=>Ev.ob (Ev.at' xs n) S
    |none=>.no):=h
   cases e1:Ev.Yu S m with
   |none=>rw[e1] at h';exact False.elim h'
   |some ds=>
    rw[e1] at h';obtain⟨p,xs,q1,hp,r⟩:=st.seq e1;obtain⟨p',rfl,t⟩:=rx.loc';rw[q1] at t;cases t;have h2:End X.K xw Rep ρ H Q (Ev.ob (Ev.at' ds n) S):=h';cases q:Ev.at' ds n with
    |none=>rw[q] at h2;exact False.elim h2
    |some d=>
     rw[q] at h2;unfold Ev.at' at q;cases q2:Ev.ixN ds.length n with
     |none=>rw[q2] at q;cases q
     |some k=>
      rw[q2] at q;obtain⟨w,g,rw'⟩:=r.get (show ds[k]? = some d from q)
      refine .inl ⟨p,xs,n,w,rfl,ry.int',hp,?_,End.ok h2 st rw'⟩;unfold atI;rw[r.length,show ixN ds.length n=some k from q2]
      exact g
  |_=>exact False.elim h
 |_=>cases y <;> exact False.elim h)
theorem Vn:CO X xw C none none:=PO.imp uL λσ H Q ⟨ρ,l,S,st,lr,h⟩=>End.ok (rep:=uD) h st rfl
theorem Vq (h:CE X xw C e i):CO X xw C (some e) (some i):=PO.imp (Zi h) λσ H Q ⟨ρ,l,S,st,lr,h⟩=>by
 refine⟨ρ,l,S,st,lr,End.bind (show End X.K xw uD ρ H Q ((ev C i l S).bind _) from h) λx S1 ρ1 H1 v f1 st1 r1 h1=>?_⟩
 cases x with
 |int n=>exact⟨n,r1.int',End.ok (rep:=uD) h1 st1 rfl⟩
 |_=>exact False.elim h1
theorem Jt (n d:Nat) (o:Option Int):Ev.sIx n d o=HT.sIx n d o:=by
 cases o with
 |none=>rfl
 |some i=>first | rfl | (unfold Ev.sIx HT.sIx;rfl)
theorem yj {ds:List D}{xs:List V}(r:Reps ρ H ds xs) (lo hi:Option Int):Reps ρ H (Ev.cut ds lo hi) (Wm xs lo hi):=by
 unfold Ev.cut Wm;rw[Jt,Jt,r.length];exact (r.drop _).take _
theorem Ge {lo hi:Option Expr}{il ih:Option E}(ha:CE X xw C a i) (hl:CO X xw C lo il) (hh:CO X xw C hi ih):CE X xw C (.Subscript a (.Slice lo hi none p2) pos) (.sl i il ih):=
 PE.imp (wf (qQ.or (wS.or uw)) ha hl hh) λσ H Q ⟨ρ,l,S,st,lr,h⟩=>by
  refine⟨ρ,l,S,st,lr,End.bind (show End X.K xw Rep ρ H Q ((ev C i l S).bind _) from h) λx S1 ρ1 H1 v f1 st1 r1 h1=>⟨ρ1,l,S1,st1,lr.mono f1,h1.bind λy S2 ρ2 H2 u f2 st2 r2 h2=>⟨ρ2,l,S2,st2,(lr.mono f1).mono f2,h2.bind λz S3 ρ3 H3 w f3 st3 r3 h3=>?_⟩⟩⟩
  have e1:y=u:=r2;have e2:z=w:=r3;subst e1 e2;have r0:=(r1.mono f2).mono f3;cases x with
  |tup ds=>
   obtain⟨p,xs,rfl,hp,r⟩:=r0.tup';have h':End X.K xw Rep ρ3 H3 Q (.ok (.tup (Ev.cut ds y z)) S3):=h3;by_cases hw:HT.sIx xs.length 0 y=0/\HT.sIx xs.length xs.length z=xs.length
   ·refine .inr (.inl ⟨p,xs,rfl,SqT.of hp,hw,End.ok h' st3 ?_⟩)
    have ew:Ev.cut ds y z=ds:=by
     unfold Ev.cut;rw[Jt,Jt,<-r.length,hw.1,hw.2,List.drop_zero,Nat.sub_zero,r.length,List.take_length]
    rw[ew];exact Ye hp r
   ·exact .inl ⟨p,xs,rfl,SqT.of hp,hw,h'.newT st3 (yj r y z)⟩
  |loc n=>
   have h':End X.K xw Rep ρ3 H3 Q (match Ev.Zv S3 n with
    |some xs=>.ok (.loc S3.length) (S3++[.lst (Ev.cut xs y z)])
    |none=>.no):=h3
   cases e1:Ev.Zv S3 n with
   |none=>rw[e1] at h';exact False.elim h'
   |some ds=>
    rw[e1] at h';obtain⟨_,p,xs,q1,hp,r⟩:=st3.lst e1;obtain⟨p',rfl,t⟩:=r0.loc';rw[q1] at t;cases t;exact .inr (.inr ⟨p,xs,rfl,SqL.of hp,End.newL h' st3 (yj r y z)⟩)
  |_=>exact False.elim h3
noncomputable def VF (K:PySem.W.Frag) (xw:Nat->Hp->Prop) (f:Bf):List V->Hp->VK->Prop:=λvs H Q=>∃ρ S ds,St3 K ρ S H/\Reps ρ H ds vs/\End K xw Rep ρ H Q (Ev.bltin f ds S)
theorem Yc.imp {X:Cx}{f:Value}{r r':List V->Hp->VK->Prop}(h:Yc X f r) (k:∀vs H Q,r' vs H Q->r vs H Q):Yc X f r':=λpins s σ H xs us Q I e q=>h pins s σ H xs us Q I e (k xs H Q q)
theorem xY {f:Bf}{is:List E}:∀σ H Q,tE X xw (ev C (.blt f is)) σ H Q->tCB (VF X.K xw f) (tA X xw (evs C is)) σ H Q:=λσ H Q ⟨ρ,l,S,st,lr,h⟩=>
 ⟨ρ,l,S,st,lr,End.bind (show End X.K xw Rep ρ H Q ((evs C is l S).bind _) from h) λxs S1 ρ1 H1 vs f1 st1 r1 h1=>⟨ρ1,S1,xs,st1,r1,h1⟩⟩
theorem reps1 {d:D}{vs:List V}(r:Reps ρ H [d] vs):∃v,vs=[v]/\Rep ρ H d v:=by
 unfold Reps at r;obtain⟨v,ws,rfl,a1,b1⟩:=r;unfold Reps at b1;exact⟨v,by rw[b1],a1⟩
theorem reps2 {d e:D}{vs:List V}(r:Reps ρ H [d,e] vs):∃v w,vs=[v,w]/\Rep ρ H d v/\Rep ρ H e w:=by
 unfold Reps at r;obtain⟨v,ws,rfl,a1,b1⟩:=r;obtain⟨w,rfl,b2⟩:=reps1 b1;exact⟨v,w,rfl,a1,b2⟩
theorem Qz (st:St3 K ρ S H) (rx:Rep ρ H x v) {ds:List D}(h:Ev.XI S x=some ds):∃p xs,v=.ref p/\(SqL K H p xs\/SqT K H p xs)/\Reps ρ H ds xs:=by
 cases x with
 |tup es=>
  cases h;obtain⟨p,xs,rfl,hp,r⟩:=rx.tup';exact⟨p,xs,rfl,.inr (SqT.of hp),r⟩
 |loc n=>
  obtain⟨p,rfl,hp⟩:=rx.loc';obtain⟨p',xs,q1,hx,r⟩:=st.seq (show Ev.Yu S n=some ds from h)
  rw[hp] at q1;cases q1;exact⟨p,xs,rfl,.inl hx,r⟩
 |_=>cases h
theorem Xx:Yc X (.builtin "len") (VF X.K xw .len):=Yc.imp Jr λvs H Q ⟨ρ,S,ds,st,r,h⟩=>by
 cases ds with
 |nil=>exact False.elim h
 |cons d ds=>cases ds with
  |cons _ _=>exact False.elim h
  |nil=>
   obtain⟨v,rfl,rv⟩:=reps1 r;obtain⟨xs,hx,h1⟩:=End.ob (show End X.K xw Rep ρ H Q ((Ev.ob (Ev.XI S d) S).bind λxs S=>.ok (.int xs.length) S) from h)
   obtain⟨p,ys,rfl,hq,r2⟩:=Qz st rv hx;refine⟨p,ys,rfl,hq,?_⟩;rw[r2.length];exact End.ok h1 st (ZF _)
theorem jo:∀(as:List D) (S:Store),(∃a b,as=[.int a,.int b])\/Ev.bltin .max2 as S=.no
 |[.int a,.int b],_=>.inl ⟨a,b,rfl⟩
 |[],_=>.inr rfl
 |[x],_=>.inr (by cases x <;> rfl)
 |x::y::_::_,_=>.inr (by cases x <;> first | rfl | (cases y <;> rfl))
 |[.non,_],_ | [.bl _,_],_ | [.str _,_],_ | [.tup _,_],_ | [.loc _,_],_ | [.fn _,_],_ | [.exc _ _,_],_=>.inr rfl
 |[.int _,.non],_ | [.int _,.bl _],_ | [.int _,.str _],_ | [.int _,.tup _],_ | [.int _,.loc _],_ | [.int _,.fn _],_ | [.int _,.exc _ _],_=>.inr rfl
theorem jq:∀(as:List D) (S:Store),(∃a b,as=[.int a,.int b])\/Ev.bltin .min2 as S=.no
 |[.int a,.int b],_=>.inl ⟨a,b,rfl⟩
 |[],_=>.inr rfl
 |[x],_=>.inr (by cases x <;> rfl)
 |x::y::_::_,_=>.inr (by cases x <;> first | rfl | (cases y <;> rfl))
 |[.non,_],_ | [.bl _,_],_ | [.str _,_],_ | [.tup _,_],_ | [.loc _,_],_ | [.fn _,_],_ | [.exc _ _,_],_=>.inr rfl
 |[.int _,.non],_ | [.int _,.bl _],_ | [.int _,.str _],_ | [.int _,.tup _],_ | [.int _,.loc _],_ | [.int _,.fn _],_ | [.int _,.exc _ _],_=>.inr rfl
theorem jA:∀(as:List D) (S:Store),(∃a,as=[.int a])\/(∃b,as=[.bl b])\/Ev.bltin .toInt as S=.no
 |[.int a],_=>.inl ⟨a,rfl⟩
 |[.bl b],_=>.inr (.inl ⟨b,rfl⟩)
 |x::_::_,_=>.inr (.inr (by cases x <;> rfl))
 |[],_ | [.non],_ | [.str _],_ | [.tup _],_ | [.loc _],_ | [.fn _],_ | [.exc _ _],_=>.inr (.inr rfl)
theorem wY:∀(as:List D) (S:Store),(∃a,as=[.tup a])\/(∃b,as=[.loc b])\/Ev.bltin .tuple as S=.no
 |[.tup a],_=>.inl ⟨a,rfl⟩
 |[.loc b],_=>.inr (.inl ⟨b,rfl⟩)
 |x::_::_,_=>.inr (.inr (by cases x <;> rfl))
 |[],_ | [.non],_ | [.str _],_ | [.bl _],_ | [.int _],_ | [.fn _],_ | [.exc _ _],_=>.inr (.inr rfl)
theorem vW:∀(as:List D) (S:Store),(∃a,as=[a])\/Ev.bltin .list as S=.no
 |[a],_=>.inl ⟨a,rfl⟩
 |[],_=>.inr rfl
 |x::_::_,_=>.inr (by cases x <;> rfl)
theorem jv:∀(as:List D) (S:Store),(∃b,as=[.loc b])\/Ev.bltin .all as S=.no
 |[.loc b],_=>.inl ⟨b,rfl⟩
 |x::_::_,_=>.inr (by cases x <;> rfl)
 |[],_ | [.non],_ | [.str _],_ | [.bl _],_ | [.int _],_ | [.tup _],_ | [.fn _],_ | [.exc _ _],_=>.inr rfl
theorem yt (hc:X.calm=true):Yc X (.builtin "max") (VF X.K xw .max2):=Yc.imp (yN hc) λvs H Q ⟨ρ,S,ds,st,r,h⟩=>by
 rcases jo ds S with ⟨m,n,rfl⟩ | e
 ·obtain⟨v,w,rfl,r1,r2⟩:=reps2 r
  exact⟨m,n,by rw[r1.int',r2.int'],End.ok h st (ZF _)⟩
 ·rw[e] at h;exact h.elim
theorem yk (hc:X.calm=true):Yc X (.builtin "min") (VF X.K xw .min2):=Yc.imp (yL hc) λvs H Q ⟨ρ,S,ds,st,r,h⟩=>by
 rcases jq ds S with ⟨m,n,rfl⟩ | e
 ·obtain⟨v,w,rfl,r1,r2⟩:=reps2 r
  exact⟨m,n,by rw[r1.int',r2.int'],End.ok h st (ZF _)⟩
 ·rw[e] at h;exact h.elim
theorem zN:Yc X (.type "int") (VF X.K xw .toInt):=Yc.imp yD λvs H Q ⟨ρ,S,ds,st,r,h⟩=>by
 rcases jA ds S with ⟨m,rfl⟩ | ⟨m,rfl⟩ | e
 ·obtain⟨v,rfl,r1⟩:=reps1 r
  exact .inl ⟨m,by rw[r1.int'],End.ok h st (ZF _)⟩
 ·obtain⟨v,rfl,r1⟩:=reps1 r
  exact .inr ⟨m,by rw[r1.bl'],End.ok h st (ZF _)⟩
 ·rw[e] at h;exact h.elim
theorem YC:Yc X (.type "tuple") (VF X.K xw .tuple):=Yc.imp Qv λvs H Q ⟨ρ,S,ds,st,r,h⟩=>by
 rcases wY ds S with ⟨es,rfl⟩ | ⟨n,rfl⟩ | e
 ·obtain⟨v,rfl,r1⟩:=reps1 r
  obtain⟨p,xs,rfl,hp,r2⟩:=r1.tup';exact⟨p,xs,rfl,.inr ⟨SqT.of hp,End.ok h st r1⟩⟩
 ·obtain⟨v,rfl,r1⟩:=reps1 r
  obtain⟨xs,hx,h1⟩:=End.ob (show End X.K xw Rep ρ H Q ((Ev.ob (Ev.Zv S n) S).bind λxs S=>.ok (.tup xs) S) from h)
  obtain⟨_,p,ys,q1,hp,r2⟩:=st.lst hx;obtain⟨p',rfl,t⟩:=r1.loc';rw[q1] at t;cases t;exact⟨p,ys,rfl,.inl ⟨SqL.of hp,h1.newT st r2⟩⟩
 ·rw[e] at h;exact h.elim
theorem Vf:Yc X (.type "list") (VF X.K xw .list):=Yc.imp JI λvs H Q ⟨ρ,S,ds,st,r,h⟩=>by
 rcases vW ds S with ⟨d,rfl⟩ | e
 case inr=>rw[e] at h;exact h.elim
 case inl=>
  obtain⟨v,rfl,r1⟩:=reps1 r;obtain⟨xs,hx,h1⟩:=End.ob (show End X.K xw Rep ρ H Q ((Ev.ob (Ev.XI S d) S).bind λxs S=>.ok (.loc S.length) (S++[.lst xs])) from h)
  obtain⟨p,ys,rfl,hq,r2⟩:=Qz st r1 hx;exact⟨p,ys,rfl,hq,h1.newL st r2⟩
theorem Yf {f:Bf}{id:String}{x:Str}{es:List Expr}{is:List E}(hc:Yc X (.builtin id) (VF X.K xw f)) (hm:X.mg x=none) (ha:CA X xw C (e::es) is) (hg:Gl X x:=by rfl) (hv:bootBuiltins x=some (.builtin id):=by rfl) (hn:x≠"__name__":=by decide) (hdb:(x == ("__debug__" : Str))=false:=by decide)
  (he:starEach (e::es) X.env=(false,eval e X.env)::starEach es X.env:=by rfl) (hpl:(backTo pos (starEach es X.env)).any (·.1)=false:=by rfl):CE X xw C (.Call (.Name x p) (e::es) [] pos) (.blt f is):=
 PE.imp (UP hc hg hm hv ha hn hdb he hpl) xY
theorem Yt {f:Bf}{id:String}{x:Str}{es:List Expr}{is:List E}(hc:Yc X (.type id) (VF X.K xw f)) (hm:X.mg x=none) (ha:CA X xw C (e::es) is) (hg:Gl X x:=by rfl) (hv:bootBuiltins x=some (.type id):=by rfl) (hn:x≠"__name__":=by decide) (hdb:(x == ("__debug__" : Str))=false:=by decide)
  (he:starEach (e::es) X.env=(false,eval e X.env)::starEach es X.env:=by rfl) (hpl:(backTo pos (starEach es X.env)).any (·.1)=false:=by rfl):CE X xw C (.Call (.Name x p) (e::es) [] pos) (.blt f is):=
 PE.imp (yK hc hg hm hv ha hn hdb he hpl) xY
end
end Sd
namespace Sd
open PySem PySem.Spec PyProof.Rows L2
open Ev (D Ob Store Lc R E Sm Calls Walk Fl Fn Bop Cop Ty Bf Mf ev evs evo evt evw tst run runs)
section
variable {X:Cx}{xw:Nat->Hp->Prop}{C:Calls}{e a b c:Expr}{i j k:E}{pos p p' p2:Pos}
theorem U7:∀{ds:List D}{bs:List Bool},Ev.truths ds=some bs->bs.length=ds.length/\∀j d,ds[j]? = some d->Ev.ptruth d=some (bs.getD j false)
 |[],bs,h=>by cases h;exact⟨rfl,λj d e=>by simp at e⟩
 |d::ds,bs,h=>by
  unfold Ev.truths at h;cases q1:Ev.ptruth d with
  |none=>rw[q1] at h;cases h
  |some b=>
   cases q2:Ev.truths ds with
   |none=>rw[q1,q2] at h;cases h
   |some cs=>
    rw[q1,q2] at h;cases h;obtain⟨l,ih⟩:=U7 q2;refine⟨by rw[List.length_cons,List.length_cons,l],λj d' e=>?_⟩
    cases j with
    |zero=>simp at e;subst e;simpa using q1
    |succ j=>simpa using ih j d' (by simpa using e)
theorem yI (bs:List Bool):(List.range bs.length).all (λj=>bs.getD j false)=bs.all id:=by
 rw[Bool.eq_iff_iff,List.all_eq_true,List.all_eq_true]
 constructor
 ·intro h b hb
  obtain⟨j,hj,e⟩:=List.getElem_of_mem hb;have:=h j (List.mem_range.mpr hj)
  simpa [List.getElem?_eq_getElem hj,e] using this
 ·intro h j hj
  have hj':=List.mem_range.mp hj
  simpa [List.getElem?_eq_getElem hj'] using h bs[j] (List.getElem_mem hj')
theorem JK {prog:Program}{w:World}{A:Around}{ρ:List Addr}{H:Hp}{d:D}{v:V}{u:Value}{n:Bool}(r:Rep ρ H d v) (e:Z2 v u) (h:Ev.ptruth d=some n) (s:Shared) (Q:Bool->Shared->Prop) (E:Value->Shared->Prop) (q:Q n s) :
  wpAny (model prog w) A (truthy u) Q E s:=by
 cases d with
 |non=>cases r.non';cases e;cases h;exact truthy_none q
 |bl b=>cases r.bl';cases e;cases h;exact wpAny_truthy_bool q
 |int m=>
  cases r.int';obtain⟨t,rfl⟩:=e;have h':decide (m≠0)=n:=Option.some.inj h;refine PySem.P.truthy_int ?_;have:(m != 0)=n:=by
   rw[<-h'];by_cases z:m=0
   ·subst z;rfl
   ·rw[decide_eq_true z];exact bne_iff_ne.mpr z
  rw[this];exact q
 |_=>cases h
theorem xa (hc:X.calm=true):Yc X (.builtin "all") (λvs H Q=>∃ρ S ds n bs,St3 X.K ρ S H/\Reps ρ H [.loc n] vs/\Ev.Zv S n=some ds/\Ev.truths ds=some bs/\Q (.bl (bs.all id)) H):=by
 intro pins s σ H vs us Q I r h;obtain⟨ρ,S,ds,n,bs,st,rs,hl,hb,q⟩:=h;obtain⟨v,rfl,r1⟩:=reps1 rs;obtain⟨_,p,xs,q1,hx,rx⟩:=st.lst hl;obtain⟨p',rfl,t⟩:=r1.loc';rw[q1] at t;cases t;obtain⟨u,rfl,ru⟩:=vals1 r;cases ru;obtain⟨its,rv,pl,hz⟩:=I.list (SqL.of hx);obtain⟨lb,tb⟩:=U7 hb;have hlt:p<s.heap.objs.size:=by obtain⟨_,e,_⟩:=pl.isList;exact Heap.lt_size e
 have hlen:its.toArray.size=bs.length:=by rw[List.size_toArray,<-rv.length,rx.length,lb]
 refine call_all_walk (wpAny_pyIter_list pl.isList ⟨s.heap.objs.size,[s.heap.objs.size,p],[s.heap.objs.size],its.toArray.size,(λi v=>its.toArray[i]? = some v),(λi h=>h.IsListIter s.heap.objs.size p i/\h.IsList p its.toArray),λj=>bs.getD j false,rfl,Walks.list (A:=X.A.in1) (show X.A.in1.handled=none from I.ok.hd hc) s.heap.objs.size p (Nat.ne_of_lt hlt) its.toArray,⟨⟨_,Heap.get?_push_size _ rfl,rfl,rfl⟩,pl.isList.push _⟩,?_,?_⟩)
 ·intro j v s' Q' E' hv hQ'
  have hj:its[j]? = some v:=by simpa using hv
  have jl:j<ds.length:=by
   have:=(List.getElem?_eq_some_iff.mp hj).1;rw[<-rv.length,rx.length] at this;exact this
  obtain⟨w',g,r'⟩:=rx.get (List.getElem?_eq_getElem jl);obtain⟨u',g',ru'⟩:=rv.get g;rw[hj] at g';cases g';exact JK r' ru' (tb j _ (List.getElem?_eq_getElem jl)) s' Q' E' hQ'
 ·intro h' tk hk
  rw[hlen,yI];have kp:∀b o,s.heap.get? b=some o->h'.get? b=some o:=λb o e=>hk b o (λhm=>by
   have:b=s.heap.objs.size:=by simpa using hm
   exact absurd (this▸Heap.lt_size e) (Nat.lt_irrefl _)) (Heap.get?_push_of_some _ e)
  exact⟨.bl (bs.all id),H,I.kept (t':=tk) kp,rfl,q⟩
theorem Wo (hc:X.calm=true):Yc X (.builtin "all") (VF X.K xw .all):=Yc.imp (xa hc) λvs H Q ⟨ρ,S,ds,st,r,h⟩=>by
 rcases jv ds S with ⟨n,rfl⟩ | e
 case inr=>rw[e] at h;exact h.elim
 case inl=>
  obtain⟨xs,hx,h1⟩:=End.ob (show End X.K xw Rep ρ H Q ((Ev.ob (Ev.Zv S n) S).bind λxs S=>(Ev.ob (Ev.truths xs) S).bind λbs S=>.ok (.bl (bs.all id)) S) from h)
  obtain⟨bs,hb,h2⟩:=End.ob h1;exact⟨ρ,S,xs,n,bs,st,r,hx,hb,End.ok h2 st (ZH _)⟩
noncomputable def ZU:Ty->String
 |.int=>"int" | .bool=>"bool" | .str=>"str" | .tuple=>"tuple" | .list=>"list" | .dict=>"dict" | .cls _=>""
theorem zr {K:PySem.W.Frag}{ρ:List Addr}{S:Store}{H:Hp}{x:D}{v:V}{t:Ty}{n:Bool}(st:St3 K ρ S H) (rx:Rep ρ H x v) (ht:∀m,t≠.cls m) (h:Ev.GP S x t=some n) :
  ∃tv,TyOf K H v tv/\PySem.W.kitOne K tv (.type (ZU t))=some n:=by
 cases x with
 |non=>rw[rx.non'];refine⟨_,.non,?_⟩;cases h;cases t <;> first | rfl | exact absurd rfl (ht _)
 |bl b=>rw[rx.bl'];refine⟨_,.bl b,?_⟩;cases h;cases t <;> first | rfl | exact absurd rfl (ht _)
 |int b=>rw[rx.int'];refine⟨_,.int b,?_⟩;cases h;cases t <;> first | rfl | exact absurd rfl (ht _)
 |str b=>rw[rx.str'];refine⟨_,.str b,?_⟩;cases h;cases t <;> first | rfl | exact absurd rfl (ht _)
 |tup ds=>
  obtain⟨p,xs,rfl,hp,_⟩:=rx.tup';refine⟨_,.tup hp,?_⟩;cases h;cases t <;> first | rfl | exact absurd rfl (ht _)
 |loc m=>
  obtain⟨p,rfl,hp⟩:=rx.loc';have h':(match S[m]? with
   |some (.lst _)=>some (decide (t=.list))
   |some (.dt _)=>some (decide (t=.dict))
   |some (.dk _)=>some (decide (t=.dict))
   |_=>none)=some n:=h
  cases q:S[m]? with
  |none=>rw[q] at h';cases h'
  |some o=>
   rw[q] at h';obtain⟨p',hp',ro⟩:=st.at q;rw[hp] at hp';cases hp';cases o with
   |lst xs=>obtain⟨ys,e,_⟩:=ro;refine⟨_,.lst e,?_⟩;cases h';cases t <;> first | rfl | exact absurd rfl (ht _)
   |dt kvs=>obtain⟨ys,e,_⟩:=ro;refine⟨_,.dT e,?_⟩;cases h';cases t <;> first | rfl | exact absurd rfl (ht _)
   |dk kvs=>obtain⟨ys,e,_⟩:=ro;refine⟨_,.dK e,?_⟩;cases h';cases t <;> first | rfl | exact absurd rfl (ht _)
   |_=>cases h'
 |_=>cases h
theorem wz (T:String):Yc X (.builtin "isinstance") (λvs H Q=>∃v tv n,vs=[v,.ty T]/\TyOf X.K H v tv/\PySem.W.kitOne X.K tv (.type T)=some n/\Q (.bl n) H):=by
 intro pins s σ H vs us Q I r h;obtain⟨v,tv,n,rfl,ty,e,q⟩:=h;obtain⟨u,w',rfl,r1,r2⟩:=vals2 r;cases r2;exact yR I r1 ty e λtk=>⟨.bl n,H,I.tok tk,rfl,q⟩
theorem VQ {T:Str}{t:Ty}(ht:∀m,t≠.cls m) (hm:X.mg "isinstance" = none) (hmT:X.mg T=none) (ha:CE X xw C a i) (hg:Gl X "isinstance":=by rfl) (hgT:Gl X T:=by rfl) (hvT:bootBuiltins T=some (.type (ZU t)):=by rfl) (hnT:T≠"__name__":=by decide) (hdT:(T == ("__debug__" : Str))=false:=by decide)
  (hs1:starEach [a,.Name T p2] X.env=(false,eval a X.env)::starEach [.Name T p2] X.env:=by rfl) (hs2:starEach [.Name T p2] X.env=(false,eval (.Name T p2) X.env)::starEach [] X.env:=by rfl) (hpl:(backTo pos (starEach [.Name T p2] X.env)).any (·.1)=false:=by rfl) :
  CE X xw C (.Call (.Name "isinstance" p) [a,.Name T p2] [] pos) (.isi i [t]):=
 PE.imp (UP (wz (ZU t)) hg hm (by rfl) (Wc ha (Wc (JA (v:=.ty (ZU t)) hgT hmT hvT rfl hnT hdT) JN hs2) hs1) (by decide) (by decide) hs1 hpl) λσ H Q ⟨ρ,l,S,st,lr,h⟩=>by
  refine⟨ρ,l,S,st,lr,End.bind (show End X.K xw Rep ρ H Q ((ev C i l S).bind _) from h) λx S1 ρ1 H1 v f1 st1 r1 h1=>?_⟩
  obtain⟨n,hn,h2⟩:=End.ob h1;have hn':Ev.GP S1 x t=some n:=by
   unfold Ev.UV at hn;cases q:Ev.GP S1 x t with
   |none=>rw[q] at hn;cases hn
   |some m=>rw[q] at hn;cases m <;> exact hn
  obtain⟨tv,ty,e⟩:=zr st1 r1 ht hn';exact⟨v,tv,n,rfl,ty,e,End.ok h2 st1 (ZH _)⟩
noncomputable def spF (K:PySem.W.Frag) (C:Calls) (n:Nat):Sp:=λvs H Q _=>∃ρ ds S,St3 K ρ S H/\Reps ρ H ds vs/\End K (λ_ _=>False) Rep ρ H Q (C n ds S)
theorem Zm {n kk:Nat}{f:Addr}{fd:FuncData}{ps:List Str}{x:Str}{es:List Expr}{is:List E}(F:FnOk X.prog X.w X.K X.mg X.base CX0 kk f fd ps (spF X.K C n)) (hr:Room kk X.A) (hm:X.mg x=some (.ref f)) (hk:PySem.W.keepIn X.K (.ref f)=true) (hb:Binds X.K fd ps [])
  (ha:CA X (λ_ _=>False) C (e::es) is) (hg:Gl X x:=by rfl) (hdb:(x == ("__debug__" : Str))=false:=by decide) (he:starEach (e::es) X.env=(false,eval e X.env)::starEach es X.env:=by rfl) (hpl:(backTo pos (starEach es X.env)).any (·.1)=false:=by rfl) :
  CE X (λ_ _=>False) C (.Call (.Name x p) (e::es) [] pos) (.call n is):=
 PE.imp (vQ F hr hg hm hk hb .nil pass0 ha hdb he hpl) λσ H Q ⟨ρ,l,S,st,lr,h⟩=>
  ⟨ρ,l,S,st,lr,End.bind (show End X.K (λ_ _=>False) Rep ρ H Q ((evs C is l S).bind _) from h) λxs S1 ρ1 H1 vs f1 st1 r1 h1=>by
   rw[List.append_nil];exact⟨ρ1,xs,S1,st1,r1,h1⟩⟩
end
end Sd
namespace Sd
open PySem PySem.Spec PyProof.Rows L2
open Ev (D Ob Store Lc R E Sm Calls Walk Fl Fn Bop Cop Ty Bf Mf ev evs evo evt evw tst run runs)
noncomputable def ZQ (K:PySem.W.Frag) (xw:Nat->Hp->Prop) (ρ:List Addr) (H:Hp) (D:Ends):R Fl->Prop
 |.ok (.nx l) S=>∀ρ' H' σ',Fut ρ H ρ' H'->St3 K ρ' S H'->LocR ρ' H' l σ'->D.nx σ' H'
 |.ok (.brk l) S=>∀ρ' H' σ',Fut ρ H ρ' H'->St3 K ρ' S H'->LocR ρ' H' l σ'->D.bk σ' H'
 |.ok (.cnt l) S=>∀ρ' H' σ',Fut ρ H ρ' H'->St3 K ρ' S H'->LocR ρ' H' l σ'->D.ct σ' H'
 |.ok (.ret d) S=>∀ρ' H' v,Fut ρ H ρ' H'->St3 K ρ' S H'->Rep ρ' H' d v->D.rt v H'
 |.ex c S=>∀ρ' H',Fut ρ H ρ' H'->St3 K ρ' S H'->xw c H'
 |.no=>False
section
variable {K:PySem.W.Frag}{xw:Nat->Hp->Prop}{ρ ρ':List Addr}{H H':Hp}{α β:Type}{rep:List Addr->Hp->α->β->Prop}{D:Ends}
theorem ZQ.mono {r:R Fl}(f:Fut ρ H ρ' H') (h:ZQ K xw ρ H D r):ZQ K xw ρ' H' D r:=by
 cases r with
 |ok fl S=>
  cases fl with
  |nx l=>exact λρ2 H2 σ g=>h ρ2 H2 σ (f.trans g)
  |brk l=>exact λρ2 H2 σ g=>h ρ2 H2 σ (f.trans g)
  |cnt l=>exact λρ2 H2 σ g=>h ρ2 H2 σ (f.trans g)
  |ret d=>exact λρ2 H2 v g=>h ρ2 H2 v (f.trans g)
 |ex c S=>exact λρ2 H2 g=>h ρ2 H2 (f.trans g)
 |no=>exact h
theorem ZQ.bind {r:R α}{f:α->Store->R Fl}{Q1:β->Hp->Prop}(h:ZQ K xw ρ H D (r.bind f))
  (k:∀d S ρ1 H1 v,Fut ρ H ρ1 H1->St3 K ρ1 S H1->rep ρ1 H1 d v->ZQ K xw ρ1 H1 D (f d S)->Q1 v H1):End K xw rep ρ H Q1 r:=by
 cases r with
 |ok d S=>exact λρ1 H1 v g st r=>k d S ρ1 H1 v g st r (ZQ.mono g h)
 |ex c S=>exact h
 |no=>exact h
theorem ZQ.ob {o:Option α}{S:Store}{f:α->Store->R Fl}(h:ZQ K xw ρ H D ((Ev.ob o S).bind f)):∃a,o=some a/\ZQ K xw ρ H D (f a S):=by
 cases o with
 |none=>exact h.elim
 |some a=>exact⟨a,rfl,h⟩
theorem ZQ.nx {l:Lc}{S:Store}{σ:L2.St}(h:ZQ K xw ρ H D (.ok (.nx l) S)) (st:St3 K ρ S H) (lr:LocR ρ H l σ):D.nx σ H:=h ρ H σ (Fut.refl ρ H) st lr
end
section
variable (X:Cx) (xw:Nat->Hp->Prop)
noncomputable def tS3 (f:Lc->Store->R Fl):TS:=λD σ H=>∃ρ l S,St3 X.K ρ S H/\LocR ρ H l σ/\ZQ X.K xw ρ H D (f l S)
variable (C:Calls)
noncomputable def CS (st:Stmt) (s:Sm):Prop:=PS X st (tS3 X xw (run C s))
noncomputable def CSs (st:List Stmt) (s:List Sm):Prop:=PSs X st (tS3 X xw (runs C s))
noncomputable def tG3 (t:List Nat):TG:=λv σ H Q=>∃ρ l S d l',St3 X.K ρ S H/\LocR ρ H l σ/\Rep ρ H d v/\Ev.assign t d S l=some l'/\∀σ',LocR ρ H l' σ'->Q σ' H
noncomputable def CG (tg:Expr) (t:List Nat):Prop:=PG X tg (tG3 X t)
noncomputable def ZaC (t:List Nat):TGs:=λvs σ H Q=>∃ρ l ds l',LocR ρ H l σ/\Reps ρ H ds vs/\Ev.fill t ds l=some l'/\∀σ',LocR ρ H l' σ'->Q σ' H
noncomputable def CGs (tgs:List Expr) (t:List Nat):Prop:=PGs X tgs (ZaC t)
end
theorem PS.imp {X:Cx}{e:Stmt}{t t':TS}(h:PS X e t) (k:∀D σ H,t' D σ H->t D σ H):PS X e t':=λpins s σ H D I q=>h pins s σ H D I (k D σ H q)
theorem PSs.imp {X:Cx}{e:List Stmt}{t t':TS}(h:PSs X e t) (k:∀D σ H,t' D σ H->t D σ H):PSs X e t':=λpins s σ H D I q=>h pins s σ H D I (k D σ H q)
theorem PG.imp {X:Cx}{e:Expr}{t t':TG}(h:PG X e t) (k:∀v σ H Q,t' v σ H Q->t v σ H Q):PG X e t':=λpins s σ H v u Q I r q=>h pins s σ H v u Q I r (k v σ H Q q)
theorem PGs.imp {X:Cx}{e:List Expr}{t t':TGs}(h:PGs X e t) (k:∀v σ H Q,t' v σ H Q->t v σ H Q):PGs X e t':=λpins s σ H v u Q I r q=>h pins s σ H v u Q I r (k v σ H Q q)
section
variable {X:Cx}{xw:Nat->Hp->Prop}{C:Calls}{e a b c:Expr}{i j k:E}{pos p p' p2:Pos}{s0:Stmt}{ss:List Stmt}{m0:Sm}{ms ms':List Sm}
theorem Zq:CSs X xw C [] []:=PSs.imp uQ λD σ H ⟨ρ,l,S,st,lr,h⟩=>ZQ.nx h st lr
theorem Ze (h1:CS X xw C s0 m0) (h2:CSs X xw C ss ms):CSs X xw C (s0::ss) (m0::ms):=PSs.imp (ww h1 h2) λD σ H ⟨ρ,l,S,st,lr,h⟩=>by
 refine⟨ρ,l,S,st,lr,?_⟩;have h':ZQ X.K xw ρ H D ((run C m0 l S).bind λf S=>match f with | .nx σ=>runs C ms σ S | f=>.ok f S):=h
 cases q:run C m0 l S with
 |no=>rw[q] at h';exact h'
 |ex c S1=>rw[q] at h';exact h'
 |ok fl S1=>
  rw[q] at h';cases fl with
  |nx l1=>exact λρ1 H1 σ1 f1 st1 lr1=>⟨ρ1,l1,S1,st1,lr1,ZQ.mono f1 h'⟩
  |brk l1=>exact h'
  |cnt l1=>exact h'
  |ret d=>exact h'
theorem Zx (he:CE X xw C e i):CS X xw C (.Return (some e) pos) (.ret i):=PS.imp (jD he) λD σ H ⟨ρ,l,S,st,lr,h⟩=>
 ⟨ρ,l,S,st,lr,ZQ.bind (show ZQ X.K xw ρ H D ((ev C i l S).bind λx S=>.ok (.ret x) S) from h) λx S1 ρ1 H1 v f1 st1 r1 h1=>h1 ρ1 H1 v (Fut.refl _ _) st1 r1⟩
theorem YB (he:CE X xw C e i) (hs:swapsWith e none pos.line X.env=pure false:=by rfl):CS X xw C (.Expr e pos) (.ex i):=PS.imp (uc he hs) λD σ H ⟨ρ,l,S,st,lr,h⟩=>
 ⟨ρ,l,S,st,lr,ZQ.bind (show ZQ X.K xw ρ H D ((ev C i l S).bind λ_ S=>.ok (.nx l) S) from h) λx S1 ρ1 H1 v f1 st1 r1 h1=>ZQ.nx h1 st1 (lr.mono f1)⟩
theorem Yl {sa sb:List Stmt}(hc:CT X xw C c k) (ha:CSs X xw C sa ms) (hb:CSs X xw C sb ms'):CS X xw C (.If c sa sb pos) (.ite k ms ms'):=PS.imp (j7 hc ha hb) λD σ H ⟨ρ,l,S,st,lr,h⟩=>
 ⟨ρ,l,S,st,lr,ZQ.bind (show ZQ X.K xw ρ H D ((tst C k l S).bind λc S=>if c then runs C ms l S else runs C ms' l S) from h) λx S1 ρ1 H1 v f1 st1 r1 h1=>by
  have e1:x=v:=r1;subst e1;cases x with
  |true=>exact⟨ρ1,l,S1,st1,lr.mono f1,h1⟩
  |false=>exact⟨ρ1,l,S1,st1,lr.mono f1,h1⟩⟩
theorem Zs {n:Nat}{x:Str}(hN:X.N.Nodup) (hi:X.N[n]? = some x:=by rfl) (hx:L2.Loc X.env.scope x:=by first | exact Or.inl rfl | exact Or.inr rfl) (hf:X.fn x=true\/X.env.scope.names.lookup x=some .local:=by first | exact .inl rfl | exact .inr rfl):CG X (.Name x pos) [n]:=
 PG.imp (zS hN hi hx hf) λv σ H Q ⟨ρ,l,S,d,l',st,lr,r,ha,q⟩=>by
  have e:l.set n (some d)=l':=Option.some.inj ha;exact q _ (by rw[<-e];exact lr.set n r)
theorem Yo:CGs X [] []:=PGs.imp uG λvs σ H Q ⟨ρ,l,ds,l',lr,r,hf,q⟩=>by
 cases ds with
 |nil=>
  unfold Reps at r;cases hf;exact⟨r,q σ lr⟩
 |cons _ _=>cases hf
theorem ZE {tgs:List Expr}{n:Nat}{t:List Nat}{x:Str}(hN:X.N.Nodup) (h2:CGs X tgs t) (hi:X.N[n]? = some x:=by rfl) (hx:L2.Loc X.env.scope x:=by first | exact Or.inl rfl | exact Or.inr rfl) (hf:X.fn x=true\/X.env.scope.names.lookup x=some .local:=by first | exact .inl rfl | exact .inr rfl)
  (hs:(assignEach (.Name x pos::tgs) X.env).map (·.2)=PySem.assign (.Name x pos) X.env::(assignEach tgs X.env).map (·.2):=by rfl):CGs X (.Name x pos::tgs) (n::t):=
 PGs.imp (wD (zS hN hi hx hf) h2 hs) λvs σ H Q ⟨ρ,l,ds,l',lr,r,hf,q⟩=>by
  cases ds with
  |nil=>cases hf
  |cons d ds=>
   unfold Reps at r;obtain⟨v,ws,rfl,r1,r2⟩:=r;exact⟨v,ws,rfl,ρ,l.set n (some d),ds,l',lr.set n r1,r2,hf,q⟩
theorem U3:∀{t:List Nat}{ds:List D}{l l':Lc},Ev.fill t ds l=some l'->ds.length=t.length
 |[],[],_,_,_=>rfl
 |[],_::_,_,_,h=>by cases h
 |_::_,[],_,_,h=>by cases h
 |n::t,d::ds,l,l',h=>by rw[List.length_cons,List.length_cons,U3 (t:=t) (ds:=ds) h]
theorem Q4 {prog:Program}{w:World}{A:Around}{E:Value->Shared->Prop}{it t:Addr}{items:Array Value}(hne:t≠it):∀(n i:Nat) (s:Shared) (Q:List Value->Shared->Prop),s.heap.IsListIter it t i->s.heap.IsList t items->i+n<=items.size->
  (∀h',Heap.IsListIter h' it t (i+n)->Heap.SameBut it s.heap h'->Q ((items.toList.drop i).take n) { s with heap:=h' })->wpAny (model prog w) A (draw (.ref it) n) Q E s
 |0,i,s,Q,hit,_,_,hQ=>by
  show wpAny _ _ (pure []) Q E s;exact wpAny_pure (by simpa using hQ s.heap hit (Heap.SameBut.refl ..))
 |n+1,i,s,Q,hit,ht,hle,hQ=>by
  have hlt:i<items.size:=by omega
  show wpAny _ _ (pyNext (.ref it) >>= _) Q E s;refine wpAny_bind (wpAny_pyNext_list_item hit ht (x:=items[i]) (by simp[hlt]) λh₁ hit₁ hs₁=>?_)
  refine wpAny_bind (wpAny_holding (Q4 hne n (i+1) _ _ hit₁ (ht.extBut hs₁.extBut hne) (by omega) λh₂ hit₂ hs₂=>wpAny_pure ?_))
  have hd:items.toList.drop i=items[i]::items.toList.drop (i+1):=by simp[List.drop_eq_getElem_cons,hlt]
  have:=hQ h₂ (by rw[show i+(n+1)=i+1+n by omega];exact hit₂) (hs₁.trans hs₂)
  rw[hd,List.take_succ_cons] at this;exact this
theorem J2 {prog:Program}{w:World}{A:Around}{E:Value->Shared->Prop}{s:Shared}{env:Env}{elts:List Expr}{x1}{pos:Pos}{t:Addr}{items:Array Value}{Q:Unit->Shared->Prop}(hh:A.handled=none) (ht:s.heap.IsList t items)
  (hn:(assignEach elts env).length=items.size) (hstar:(assignEach elts env).findIdx? (·.1)=none)
  (h:∀h',Heap.ExtBut s.heap.objs.size s.heap h'->wpAny (model prog w) A (assignInOrder ((assignEach elts env).map (·.2)) items.toList) Q E { s with heap:=h' }) :
  wpAny (model prog w) A (PySem.assign (.Tuple elts x1 pos) env (.ref t)) Q E s:=by
 rw[assign_Tuple];refine wpAny_bind (wpAny_standAt ?_);have hlt:t≠s.heap.objs.size:=by obtain⟨o,ho,_⟩:=ht;exact Nat.ne_of_lt (Heap.lt_size ho)
 unfold unpack;rw[hn,hstar];refine wpAny_bind (wpAny_holding ?_);unfold unpackItems;refine wpAny_bind ?_;unfold notIterableAtAll;refine wpAny_bind (wpAny_specialOf ht.typeIs slot_list_iter.lookup ?_);refine wpAny_pure ?_;simp only[Bool.false_eq_true,if_false];refine wpAny_bind (wpAny_holding (wpAny_pyIter_list ht ?_));refine wpAny_bind (wpAny_holding (Q4 hlt items.size 0 _ _ ⟨_,Heap.get?_push_size _ rfl,rfl,rfl⟩ (ht.push _) (by omega) λh₁ hit₁ hs₁=>?_))
 have hall:List.take items.size (List.drop 0 items.toList)=items.toList:=by
  rw[List.drop_zero];exact List.take_of_length_le (by simp)
 rw[hall];rw[if_neg (by simp)]
 have ht₁:h₁.IsList t items:=(ht.push _).extBut hs₁.extBut hlt;refine wpAny_bind (wpAny_holding (wpAny_pyNext_list_end hh hit₁ ht₁ (by simp) λh₂ he₂=>?_))
 simp only[Option.isSome_none,Bool.false_eq_true,if_false];exact wpAny_pure (h h₂ λb o hb e=>he₂ b o hb (hs₁.extBut b o hb (Heap.get?_push_of_some _ e)))
noncomputable def gTL (K:PySem.W.Frag) (n:Nat) (t:TGs):TG:=λv σ H Q=>∃a xs,v=.ref a/\(SqT K H a xs\/H a=some (.lst xs))/\xs.length=n/\t xs σ H Q
theorem jW {X:Cx}{pos:Pos}{es:List Expr}{k:Nat}{t:TGs}{n:Nat}(hc:X.calm=true) (h:PGs X es t)
  (hn:(assignEach es X.env).length=n:=by rfl) (hst:(assignEach es X.env).findIdx? (·.1)=none:=by rfl):PG X (.Tuple es k pos) (gTL X.K n t):=by
 intro pins s σ H v u Q I r hw;obtain⟨a,xs,e1,hq | hq,hl,hw⟩:=hw
 ·exact jC hc h hn hst pins s σ H v u Q I r ⟨a,xs,e1,hq,hl,hw⟩
 ·subst e1
  cases r;obtain⟨its,rv,pl,hz⟩:=I.list (SqL.of hq);refine J2 (I.ok.hd hc) pl.isList (by simp[hn,<-hl,rv.length]) hst λh' hx=>?_
  have I1:Inv X pins σ H { s with heap:=h' }:=I.kept (t':=s.toks) λb o e=>hx b o (Nat.ne_of_lt (Heap.lt_size e)) e
  exact h pins _ σ H xs _ Q I1 (by simpa using rv) hw
theorem YQ {tgs:List Expr}{q2:Nat}{n m:Nat}{r:List Nat}(hc:X.calm=true) (h:CGs X tgs (n::m::r)) (hn:(assignEach tgs X.env).length=(n::m::r).length:=by rfl) (hst:(assignEach tgs X.env).findIdx? (·.1)=none:=by rfl):CG X (.Tuple tgs q2 pos) (n::m::r):=
 PG.imp (jW hc h hn hst) λv σ H Q ⟨ρ,l,S,d,l',st,lr,rd,ha,q⟩=>by
  cases d with
  |tup ds=>
   have hf:Ev.fill (n::m::r) ds l=some l':=ha;obtain⟨p,xs,rfl,hp,rs⟩:=rd.tup';exact⟨p,xs,rfl,.inl (SqT.of hp),by rw[rs.length];exact U3 hf,ρ,l,ds,l',lr,rs,hf,q⟩
  |loc k=>
   have ha':(match Ev.Zv S k with
    |some xs=>Ev.fill (n::m::r) xs l
    |none=>none)=some l':=ha
   cases e1:Ev.Zv S k with
   |none=>rw[e1] at ha';cases ha'
   |some ds=>
    rw[e1] at ha';have hf:Ev.fill (n::m::r) ds l=some l':=ha';obtain⟨_,p,xs,q1,hp,r1⟩:=st.lst e1;obtain⟨p',rfl,t1⟩:=rd.loc';rw[q1] at t1;cases t1;exact⟨p,xs,rfl,.inr hp,by rw[r1.length];exact U3 hf,ρ,l,ds,l',lr,r1,hf,q⟩
  |_=>cases ha
theorem ZL {tg:Expr}{t:List Nat}(he:CE X xw C e i) (hg:CG X tg t) (hs:swapsWithSole [tg] e pos.line X.env=pure false:=by rfl) (hw:swappedStores [tg] e X.env=pure none:=by rfl)
  (h1:(assignEach [tg] X.env).map (·.2)=[PySem.assign tg X.env]:=by rfl):CS X xw C (.Assign [tg] e pos) (.asg t i):=PS.imp (wB he hg hs hw h1) λD σ H ⟨ρ,l,S,st,lr,h⟩=>
 ⟨ρ,l,S,st,lr,ZQ.bind (show ZQ X.K xw ρ H D ((ev C i l S).bind λx S=>(Ev.ob (Ev.assign t x S l) S).bind λσ S=>.ok (.nx σ) S) from h) λx S1 ρ1 H1 v f1 st1 r1 h1=>by
  obtain⟨l',hl',h2⟩:=ZQ.ob h1;exact⟨ρ1,l,S1,x,l',st1,lr.mono f1,r1,hl',λσ' lr'=>ZQ.nx h2 st1 lr'⟩⟩
theorem VS {o ix:Expr}{io ii:E}(ho:CE X xw C o io) (hi:CE X xw C ix ii) (he:CE X xw C e i)
  (ha:∀v,PySem.assign (.Subscript o ix p) X.env v=(do
   let ov <-holding [v] (eval o X.env)
   let iv <-holding [v,ov] (eval ix X.env)
   standAt p
   holding [v,ov,iv] (setItem ov iv v)
   release [v,ov,iv] []):=by intro _;rfl) (hs:swapsWithSole [.Subscript o ix p] e pos.line X.env=pure false:=by rfl) (hw:swappedStores [.Subscript o ix p] e X.env=pure none:=by rfl)
  (h1:(assignEach [.Subscript o ix p] X.env).map (·.2)=[PySem.assign (.Subscript o ix p) X.env]:=by rfl):CS X xw C (.Assign [.Subscript o ix p] e pos) (.put io ii i):=
 PS.imp (wB he (qv ho hi (wy (X:=X)) ha) hs hw h1) λD σ H ⟨ρ,l,S,st,lr,h⟩=>
 ⟨ρ,l,S,st,lr,ZQ.bind (show ZQ X.K xw ρ H D ((ev C i l S).bind λv S=>(ev C io l S).bind λx S=>(ev C ii l S).bind λy S=>(Ev.setix x y v S).bind λ_ S=>.ok (.nx l) S) from h) λx S1 ρ1 H1 v f1 st1 r1 h1=>
  ⟨ρ1,l,S1,st1,lr.mono f1,h1.bind λy S2 ρ2 H2 u f2 st2 r2 h2=>⟨ρ2,l,S2,st2,(lr.mono f1).mono f2,h2.bind λz S3 ρ3 H3 w f3 st3 r3 h3=>by
   cases y with
   |loc n=>cases z with
    |int m=>
     obtain⟨pa,rfl,hp⟩:=(r2.mono f3).loc';have h4:ZQ X.K xw ρ3 H3 D ((match S3[n]? with
      |some (.lst xs)=>(Ev.ob (Ev.ixN xs.length m) S3).bind λj S=>.ok () (S.set n (.lst (xs.set j x)))
      |_=>.no).bind λ_ S=>.ok (.nx l) S):=h3
     cases q:S3[n]? with
     |none=>rw[q] at h4;exact False.elim h4
     |some ob=>
      rw[q] at h4;cases ob with
      |lst xs=>
       have h5:ZQ X.K xw ρ3 H3 D (((Ev.ob (Ev.ixN xs.length m) S3).bind λj S=>R.ok () (S.set n (.lst (xs.set j x)))).bind λ_ S=>.ok (.nx l) S):=h4
       cases hj:Ev.ixN xs.length m with
       |none=>rw[hj] at h5;exact False.elim h5
       |some jj=>
        rw[hj] at h5;obtain⟨pb,hp',ys,hy,ry⟩:=st3.at q;rw[hp] at hp';cases hp';refine⟨pa,ys,m,jj,rfl,r3.int',hy,by rw[ry.length];exact hj,?_⟩
        have rx:=(r1.mono f2).mono f3;exact h5 ρ3 _ σ (XR hy) (st3.wr hp q hy (Reps.set rx jj ry)) ((((lr.mono f1).mono f2).mono f3).mono (XR hy))
      |_=>exact False.elim h4
    |_=>exact False.elim h3
   |_=>exact False.elim h3⟩⟩⟩
end
end Sd
namespace Sd
open PySem PySem.Spec PyProof.Rows L2
open Ev (D Ob Store Lc R E Sm Calls Walk Fl Fn Bop Cop Ty Bf Mf ev evs evo evt evw tst run runs)
structure WRel (K:PySem.W.Frag) (ρ:List Addr) (H:Hp) (w:Walk) (J:It):Prop where
 go:∀(i:Nat) ρ' S' H',Fut ρ H ρ' H'->St3 K ρ' S' H'->w.still S'=true->i<w.items.length->J.go i H'/\∀x H'',J.yld i H' x H''->Fut ρ' H' ρ' H''/\St3 K ρ' S' H''/\∀d,w.items[i]? = some d->Rep ρ' H'' d x
 stop:∀ρ' S' H',Fut ρ H ρ' H'->St3 K ρ' S' H'->w.still S'=true->J.stop w.items.length H'
section
variable (X:Cx) (xw:Nat->Hp->Prop)
noncomputable def tW3 (f:Lc->Store->R Walk):TI:=λσ H Q=>∃ρ l S,St3 X.K ρ S H/\LocR ρ H l σ/\End X.K xw (WRel X.K) ρ H Q (f l S)
noncomputable def CW (C:Calls) (tg it:Expr) (w:Ev.W):Prop:=PI X tg it (tW3 X xw (evw C w))
end
theorem PI.imp {X:Cx}{tg it:Expr}{t t':TI}(h:PI X tg it t) (k:∀σ H Q,t' σ H Q->t σ H Q):PI X tg it t':=λpins s σ H R I q=>h pins s σ H R I (k σ H R q)
section
variable {X:Cx}{xw:Nat->Hp->Prop}{C:Calls}{e a b c tg it:Expr}{i j k:E}{pos p p' p2:Pos}
noncomputable def ZaB (K:PySem.W.Frag) (tl:TE):TI:=λσ H R=>tl σ H λx H1=>∃a,x=.ref a/\(((∃xs,SqL K H1 a xs)/\R (Itl K a) H1)\/((∃xs,SqT K H1 a xs)/\R (Itt K a) H1))
theorem qI {l:Expr}{tl:TE}(hl:PE X l tl):PI X tg l (ZaB X.K tl):=by
 intro pins s σ H R I h;refine thn (hl pins s σ H _ I h) λv s1 ⟨x,H1,I1,r1,a,e,q⟩=>?_
 subst e;cases r1;rcases q with ⟨⟨xs,hq⟩,q⟩ | ⟨⟨xs,hq⟩,q⟩
 ·obtain⟨its,rv,p,hz⟩:=I1.list hq
  refine wpAny_pyIter_list p.isList ?_;refine⟨s1.heap.objs.size,[s1.heap.objs.size],_,_,H1,rfl,I1.kept (t':=s1.toks) λb o e=>Heap.get?_push_of_some _ e,xn a _,⟨_,Heap.get?_push_size _ rfl,rfl,rfl⟩,λb hb=>?_,q⟩
  have e:b=s1.heap.objs.size:=by simpa using hb
  subst e;exact I1.fpOk (Nat.le_refl _) (I1.hok.fresh (Nat.le_refl _))
 ·obtain⟨its,rv,p,hz⟩:=I1.tuple hq
  refine wpAny_pyIter_tuple (show s1.heap.IsTuple a its.toArray from p) ?_
  refine⟨s1.heap.objs.size,[s1.heap.objs.size],_,_,H1,rfl,I1.kept (t':=s1.toks) λb o e=>Heap.get?_push_of_some _ e,zc a _,⟨_,Heap.get?_push_size _ rfl,rfl,rfl⟩,λb hb=>?_,q⟩
  have e:b=s1.heap.objs.size:=by simpa using hb
  subst e;exact I1.fpOk (Nat.le_refl _) (I1.hok.fresh (Nat.le_refl _))
theorem wT {K:PySem.W.Frag}{ρ:List Addr}{H:Hp}{ds:List D}{a:Addr}{xs:List V}(hp:H a=some (.tup xs)) (r:Reps ρ H ds xs):WRel K ρ H ⟨ds,[]⟩ (Itt K a) where
 go:=λi ρ' S' H' f st _ hi=>by
  have hi':i<ds.length:=hi;obtain⟨v,g,_⟩:=(r.mono f).get (List.getElem?_eq_getElem hi');refine⟨⟨xs,v,SqT.of (f.tup a xs hp),g⟩,λx H'' y=>?_⟩
  obtain⟨rfl,y⟩:=y;refine⟨Fut.refl _ _,st,λd hd=>?_⟩
  obtain⟨v',g',r'⟩:=(r.mono f).get hd;have:=y xs (SqT.of (f.tup a xs hp));rw[g'] at this;cases this;exact r'
 stop:=λρ' S' H' f st _=>⟨xs,SqT.of (f.tup a xs hp),by show xs.length<=ds.length;rw[r.length];exact Nat.le_refl _⟩
theorem x9 {K:PySem.W.Frag}{ρ:List Addr}{H:Hp}{ds:List D}{a:Addr}{n:Nat}(hp:ρ[n]? = some a):WRel K ρ H ⟨ds,[(n,ds)]⟩ (Itl K a) where
 go:=λi ρ' S' H' f st hs hi=>by
  have hn:S'[n]? = some (.lst ds):=by simpa [Walk.still] using hs
  obtain⟨a',ha,xs,hx,r⟩:=st.at hn;rw[f.at hp] at ha;cases ha;have hi':i<ds.length:=hi;obtain⟨v,g,_⟩:=r.get (List.getElem?_eq_getElem hi');refine⟨⟨xs,v,SqL.of hx,g⟩,λx H'' y=>?_⟩
  obtain⟨rfl,y⟩:=y;refine⟨Fut.refl _ _,st,λd hd=>?_⟩
  obtain⟨v',g',r'⟩:=r.get hd;have:=y xs (SqL.of hx);rw[g'] at this;cases this;exact r'
 stop:=λρ' S' H' f st hs=>by
  have hn:S'[n]? = some (.lst ds):=by simpa [Walk.still] using hs
  obtain⟨a',ha,xs,hx,r⟩:=st.at hn;rw[f.at hp] at ha;cases ha;exact⟨xs,SqL.of hx,by show xs.length<=ds.length;rw[r.length];exact Nat.le_refl _⟩
theorem Gk {lo:Int}{n i:Nat}(h:i<n):(Ev.Z3 lo n)[i]? = some (.int (lo+i)):=by
 unfold Ev.Z3;rw[List.getElem?_map,List.getElem?_range h];rfl
theorem WP (lo:Int) (n:Nat):(Ev.Z3 lo n).length=n:=by unfold Ev.Z3;rw[List.length_map,List.length_range]
theorem vj {K:PySem.W.Frag}{ρ:List Addr}{H:Hp}{lo:Int}{n:Nat}:WRel K ρ H ⟨Ev.Z3 lo n,[]⟩ (Itr lo n) where
 go:=λi ρ' S' H' f st _ hi=>by
  have hi':i<n:=by simpa [WP] using hi
  refine⟨hi',λx H'' y=>?_⟩
  obtain⟨rfl,rfl⟩:=y;refine⟨Fut.refl _ _,st,λd hd=>?_⟩
  have hd':(Ev.Z3 lo n)[i]? = some d:=hd;rw[Gk hi'] at hd';cases hd';exact ZF _
 stop:=λρ' S' H' f st _=>by
  show n<=(Ev.Z3 lo n).length;rw[WP];exact Nat.le_refl _
theorem Yq (he:CE X xw C e i):CW X xw C tg e (.of i):=PI.imp (qI he) λσ H Q ⟨ρ,l,S,st,lr,h⟩=>by
 refine⟨ρ,l,S,st,lr,End.bind (show End X.K xw (WRel X.K) ρ H Q ((ev C i l S).bind λx S=>Ev.ob (Ev.YN S x) S) from h) λx S1 ρ1 H1 v f1 st1 r1 h1=>?_⟩
 cases x with
 |tup ds=>
  obtain⟨a,xs,rfl,hp,r⟩:=r1.tup';exact⟨a,rfl,.inr ⟨⟨xs,SqT.of hp⟩,End.ok (rep:=WRel X.K) h1 st1 (wT hp r)⟩⟩
 |loc n=>
  obtain⟨a,rfl,hp⟩:=r1.loc';have h':End X.K xw (WRel X.K) ρ1 H1 Q (Ev.ob (match S1[n]? with
   |some (.lst xs)=>some ⟨xs,[(n,xs)]⟩
   |_=>none) S1):=h1
  cases q:S1[n]? with
  |none=>rw[q] at h';exact False.elim h'
  |some o=>
   rw[q] at h';cases o with
   |lst ds=>
    obtain⟨a',ha,xs,hx,r⟩:=st1.at q;rw[hp] at ha;cases ha;exact⟨a,rfl,.inl ⟨⟨xs,SqL.of hx⟩,End.ok (rep:=WRel X.K) h' st1 (x9 hp)⟩⟩
   |_=>exact False.elim h'
 |_=>exact False.elim h1
theorem Xe (hm:X.mg "range" = none) (ha:CA X xw C [a] [i]) (hg:Gl X "range":=by rfl) (hs:starEach [a] X.env=[(false,eval a X.env)]:=by rfl):CW X xw C tg (.Call (.Name "range" p) [a] [] pos) (.rng1 i):=
 PI.imp (yM hg hm ha hs) λσ H Q ⟨ρ,l,S,st,lr,h⟩=>by
  refine⟨ρ,l,S,st,lr,?_⟩;show End X.K xw Reps ρ H _ ((ev C i l S).bind λx S=>(Ev.R.ok [] S).bind λxs S=>.ok (x::xs) S)
  have h':End X.K xw (WRel X.K) ρ H Q ((ev C i l S).bind λx S=>match x with
   |.int i=>if Ev.small i then .ok ⟨Ev.Z3 0 i.toNat,[]⟩ S else .no
   |_=>.no):=h
  cases q:ev C i l S with
  |no=>rw[q] at h';exact h'
  |ex c S1=>rw[q] at h';exact h'
  |ok x S1=>
   rw[q] at h';intro ρ1 H1 vs f1 st1 r1;obtain⟨v,rfl,r⟩:=reps1 r1;cases x with
   |int n=>
    obtain⟨hs,h2⟩:=End.guard (End.mono f1 (show End X.K xw (WRel X.K) ρ H Q (if Ev.small n=true then .ok ⟨Ev.Z3 0 n.toNat,[]⟩ S1 else .no) from h'))
    have hs':=of_decide_eq_true (show decide (-(2^62)<=n/\n<2^62)=true from hs)
    exact⟨n,by rw[r.int'],hs'.1,hs'.2,End.ok (rep:=WRel X.K) h2 st1 vj⟩
   |_=>exact False.elim h'
theorem Xm {body:List Stmt}{ms:List Sm}{w:Ev.W}{t:List Nat}(hp:PassesOwn (model X.prog X.w) X.A X.env X.xe) (hc:X.calm=true) (hw:CW X xw C tg it w) (hg:CG X tg t) (hb:CSs X xw C body ms)
  (hs:∀x,foldedSetIterable it X.env x=pure x:=by intro _;rfl):CS X xw C (.For tg it body [] pos) (.forr t w ms):=PS.imp (qU hp hc hw hg hb hs) λD σ H ⟨ρ,l,S,st,lr,h⟩=>by
 have h':ZQ X.K xw ρ H D ((evw C w l S).bind λw S=>Ev.Vx w (λx σ S=>(Ev.ob (Ev.assign t x S σ) S).bind λσ S=>runs C ms σ S) w.items l S):=h
 refine⟨ρ,l,S,st,lr,h'.bind λwk S1 ρ1 H1 J f1 st1 r1 h1=>?_⟩
 let B:Ev.D->Lc->Store->R Fl:=λx σ S=>(Ev.ob (Ev.assign t x S σ) S).bind λσ S=>runs C ms σ S
 refine⟨λn m σ' H'=>m=wk.items.length-n/\n<=wk.items.length/\∃ρ' l' S',Fut ρ1 H1 ρ' H'/\St3 X.K ρ' S' H'/\LocR ρ' H' l' σ'/\ZQ X.K xw ρ' H' D (Ev.Vx wk B (wk.items.drop n) l' S'),
  ⟨wk.items.length,rfl,Nat.zero_le _,ρ1,l,S1,Fut.refl _ _,st1,lr.mono f1,h1⟩,?_⟩
 rintro n m σ' H' ⟨rfl,hn,ρ',l',S',f',st',lr',e'⟩
 by_cases hlt:n<wk.items.length
 ·right
  have hd:wk.items.drop n=wk.items[n]::wk.items.drop (n+1):=List.drop_eq_getElem_cons hlt;rw[hd] at e';have e2:ZQ X.K xw ρ' H' D (if wk.still S'=true then (match B wk.items[n] l' S' with
   |.ok (.nx σ') S'=>Ev.Vx wk B (wk.items.drop (n+1)) σ' S'
   |.ok (.cnt σ') S'=>Ev.Vx wk B (wk.items.drop (n+1)) σ' S'
   |.ok (.brk σ') S'=>.ok (.nx σ') S'
   |.ok (.ret d) S'=>.ok (.ret d) S'
   |.ex c S'=>.ex c S'
   |.no=>.no) else .no):=e'
  by_cases hst:wk.still S'=true
  ·rw[if_pos hst] at e2
   obtain⟨go,yl⟩:=r1.go n ρ' S' H' f' st' hst hlt;refine⟨go,λσ2 H2=>∃ρ2 l2 S2,Fut ρ1 H1 ρ2 H2/\St3 X.K ρ2 S2 H2/\LocR ρ2 H2 l2 σ2/\ZQ X.K xw ρ2 H2 D (Ev.Vx wk B (wk.items.drop (n+1)) l2 S2),λσ2 H2 ⟨ρ2,l2,S2,a1,a2,a3,a4⟩=>⟨wk.items.length-(n+1),by omega,rfl,hlt,ρ2,l2,S2,a1,a2,a3,a4⟩,λx H3 y=>?_⟩
   obtain⟨f3,st3,rp⟩:=yl x H3 y;have rx:=rp _ (List.getElem?_eq_getElem hlt);cases ha:Ev.assign t wk.items[n] S' l' with
   |none=>
    have e3:B wk.items[n] l' S'=.no:=by show (Ev.ob (Ev.assign t wk.items[n] S' l') S').bind _=_;rw[ha];rfl
    rw[e3] at e2;exact False.elim e2
   |some l2=>
    have e3:B wk.items[n] l' S'=runs C ms l2 S':=by show (Ev.ob (Ev.assign t wk.items[n] S' l') S').bind _=_;rw[ha];rfl
    rw[e3] at e2;refine⟨ρ',l',S',wk.items[n],l2,st3,lr'.mono f3,rx,ha,λσ2 lr2=>⟨ρ',l2,S',st3,lr2,?_⟩⟩
    have e4:=ZQ.mono f3 e2;have ff:=f'.trans f3;cases q:runs C ms l2 S' with
    |no=>rw[q] at e4;exact e4
    |ex c S2=>rw[q] at e4;exact e4
    |ok fl S2=>
     rw[q] at e4;cases fl with
     |nx l3=>exact λρ4 H4 σ4 f4 st4 lr4=>⟨ρ4,l3,S2,ff.trans f4,st4,lr4,ZQ.mono f4 e4⟩
     |cnt l3=>exact λρ4 H4 σ4 f4 st4 lr4=>⟨ρ4,l3,S2,ff.trans f4,st4,lr4,ZQ.mono f4 e4⟩
     |brk l3=>exact e4
     |ret d=>exact e4
  ·rw[if_neg hst] at e2
   exact False.elim e2
 ·left
  have en:n=wk.items.length:=by omega
  subst en;rw[List.drop_length] at e';have e2:ZQ X.K xw ρ' H' D (if wk.still S'=true then .ok (.nx l') S' else .no):=e'
  by_cases hst:wk.still S'=true
  ·rw[if_pos hst] at e2
   exact⟨r1.stop ρ' S' H' f' st' hst,ZQ.nx e2 st' lr'⟩
  ·rw[if_neg hst] at e2
   exact False.elim e2
end
end Sd
namespace Sd
open PySem PySem.Spec PyProof.Rows L2
noncomputable def xf (env:Env):List (Str×NameKind)->List (Str×Addr)->List (Str×Addr)
 |[],acc=>acc
 |x::r,acc=>xf env r (if (x.2 == NameKind.free)=true then (x.1,(env.cells.lookup x.1).getD 0)::acc else acc)
theorem UI {env:Env}{f:Str×NameKind->List (Str×Addr)->Sem (ForInStep (List (Str×Addr)))}:∀(names:List (Str×NameKind)) (acc:List (Str×Addr)),
  (∀x∈names,∀c,f x c=pure (.yield (if (x.2 == NameKind.free)=true then (x.1,(env.cells.lookup x.1).getD 0)::c else c)))->forIn names acc f=pure (xf env names acc)
 |[],acc,_=>rfl
 |x::r,acc,h=>by
  rw[List.forIn_cons,h x List.mem_cons_self,pure_bind];exact UI r _ λy hy=>h y (List.mem_cons_of_mem _ hy)
theorem Gj {env:Env}{x:Str}{c:Addr}:∀(names:List (Str×NameKind)) (acc:List (Str×Addr)),(xf env names acc).lookup x=some c->acc.lookup x=some c\/(∃y∈names,y.1=x/\y.2=.free/\c=(env.cells.lookup x).getD 0)
 |[],acc,h=>.inl h
 |y::r,acc,h=>by
  rcases Gj r _ h with h | ⟨z,hz,e⟩
  ·by_cases hf:(y.2 == NameKind.free)=true
   ·rw[if_pos hf,List.lookup_cons] at h
    cases q:(x == y.1) with
    |true=>
     rw[q] at h;have e:x=y.1:=eq_of_beq q;exact .inr ⟨y,List.mem_cons_self,e.symm,eq_of_beq hf,by rw[e];exact (Option.some.inj h).symm⟩
    |false=>rw[q] at h;exact .inl h
   ·rw[if_neg hf] at h;exact .inl h
  ·exact .inr ⟨z,List.mem_cons_of_mem _ hz,e⟩
theorem Gh {env:Env}{x:Str}:∀(names:List (Str×NameKind)) (acc:List (Str×Addr)),(acc.lookup x).isSome=true->((xf env names acc).lookup x).isSome=true
 |[],acc,h=>h
 |y::r,acc,h=>by
  refine Gh r _ ?_;split
  ·rw[List.lookup_cons]
   cases (x == y.1) with
   |true=>rfl
   |false=>exact h
  ·exact h
theorem GN {env:Env}{x:Str}:∀(names:List (Str×NameKind)) (acc:List (Str×Addr)),(x,NameKind.free)∈names->((xf env names acc).lookup x).isSome=true
 |[],acc,h=>by cases h
 |y::r,acc,h=>by
  rcases List.mem_cons.mp h with h | h
  ·subst h
   refine Gh r _ ?_;rw[if_pos (by rfl),List.lookup_cons,beq_self_eq_true]
   rfl
  ·exact GN r _ h
theorem za {scope:Scope}{env:Env}(h:∀y∈scope.names,y.2=.free->∃c,env.cells.lookup y.1=some c) :
  ∃cl,closureFor scope env=pure cl/\(∀x c,cl.lookup x=some c->env.cells.lookup x=some c)/\∀x,(x,NameKind.free)∈scope.names->∃c,cl.lookup x=some c:=by
 refine⟨xf env scope.names [],?_,λx c e=>?_,λx hx=>Option.isSome_iff_exists.mp (GN _ _ hx)⟩
 ·simp only[closureFor]
  rw[UI (env:=env) scope.names [] (λx hx c=>by
   obtain⟨n,kind⟩:=x;by_cases hk:(kind == NameKind.free)=true
   ·obtain⟨a,ha⟩:=h (n,kind) hx (eq_of_beq hk)
    have ha':env.cells.lookup n=some a:=ha;simp only[hk,if_true,cellOf,ha',pure_bind,Option.getD_some]
   ·simp only[hk,if_false]
    rfl),pure_bind]
 ·rcases Gj _ _ e with e | ⟨y,hy,e1,e2,e3⟩
  ·cases e
  ·obtain⟨a,ha⟩:=h y hy e2
   rw[e1] at ha;rw[e3,ha];rfl
noncomputable def cxC (X:Cx) (N:List Str) (scope:Scope) (cl:List (Str×Addr)) (s:Shared) (H:Hp) (fp:List Addr):Cx:=
 { X with N:=N,s₀:=s,H₀:=H,env:=compEnvC scope cl s.heap.objs.size X.env,outer:=X.stack,ex:=fp,fn:=λ_=>false,pn:=[],xe:=λ_ _=>False }
noncomputable def PTs (X:Cx) (ifs:List Expr) (t:TT):Prop:=
 ∀(pins:List (Addr×Obj)) (s:Shared) (σ:L2.St) (H:Hp) (Q:Bool->Hp->Prop),Inv X pins σ H s->t σ H Q->
  wpAny (model X.prog X.w) X.A (forIn ifs true λc r=>if r=true then do let ok <-isTrue c X.env (eval c X.env);pure (ForInStep.yield ok) else pure (ForInStep.yield r)) (TP X pins σ Q) X.xe s
theorem uO {X:Cx}:PTs X [] (λσ H Q=>Q true H):=λpins s σ H Q I h=>wpAny_tests_nil ⟨H,I,h⟩
theorem uH {X:Cx}{c:Expr}{t:TT}(h:PT X c t):PTs X [c] t:=λpins s σ H Q I hq=>wpAny_tests_one (h pins s σ H Q I hq)
structure CompScope (sc:Scope) (N0:List Str) (scope:Scope) (N:List Str) (cap:List Nat) (nl:Nat):Prop where
 kind:scope.kind=.function
 nocell:∀y∈scope.names,y.2≠.cell
 names:∀y∈scope.names,y.2=.local->scope.names.lookup y.1=some .local
 free:∀y∈scope.names,y.2=.free->sc.names.lookup y.1=some .cell\/sc.names.lookup y.1=some .free
 apart:∀y∈scope.names,y.2=.free->scope.names.lookup y.1≠some .local
 len:N.length=nl+cap.length
 cap:∀p∈cap.zipIdx,N[nl+p.2]? = N0[p.1]?/\(N0[p.1]?).map (λx=>decide ((x,NameKind.free)∈scope.names))=some true
theorem CompScope.capt {sc:Scope}{N0:List Str}{scope:Scope}{N:List Str}{cap:List Nat}{nl:Nat}(h:CompScope sc N0 scope N cap nl) (i j:Nat) (e:cap[i]? = some j):∃x,N[nl+i]? = some x/\N0[j]? = some x/\(x,NameKind.free)∈scope.names:=by
 have hm:(j,i)∈cap.zipIdx:=by
  rw[List.mem_zipIdx_iff_getElem?];exact e
 obtain⟨h1,h2⟩:=h.cap (j,i) hm;cases q:N0[j]? with
 |none=>rw[show N0[(j,i).1]? = none from q] at h2;cases h2
 |some x=>
  rw[show N0[(j,i).1]? = some x from q] at h1 h2
  exact⟨x,h1,rfl,of_decide_eq_true (Option.some.inj h2)⟩
noncomputable def XH (cap:List Nat) (nl:Nat) (σ:L2.St):L2.St:=List.replicate nl none++cap.map λi=>(σ[i]?).join
section
variable {X:Cx}{pins:List (Addr×Obj)}{σ:L2.St}{H:Hp}{s:Shared}
theorem Vk {scope:Scope}{env:Env}:∀{names:List (Str×NameKind)}{x:Str},(names.map λ(n,k)=>if (k == NameKind.free&&env.scope.kind == .function&&env.kindOf n == some .cell) then (n,NameKind.cell) else (n,k)).lookup x=some .cell\/
  (names.map λ(n,k)=>if (k == NameKind.free&&env.scope.kind == .function&&env.kindOf n == some .cell) then (n,NameKind.cell) else (n,k)).lookup x=some .free->(∀y∈names,y.2≠.cell)->(x,NameKind.free)∈names
 |[],x,h,_=>by rcases h with h | h <;> cases h
 |(n,k)::r,x,h,hc=>by
  have ih:=@Vk scope env r x;have hk:k≠.cell:=hc (n,k) List.mem_cons_self;by_cases e:x=n
  ·subst e
   have hk2:k=.free:=by
    rcases h with h | h
    ·rw[List.map_cons] at h
     by_cases c:(k == NameKind.free&&env.scope.kind == .function&&env.kindOf x == some .cell)=true
     ·have:=(Bool.and_eq_true _ _).mp c
      exact eq_of_beq ((Bool.and_eq_true _ _).mp this.1).1
     ·simp only[if_neg c,List.lookup_cons,beq_self_eq_true] at h
      exact absurd (Option.some.inj h) hk
    ·rw[List.map_cons] at h
     by_cases c:(k == NameKind.free&&env.scope.kind == .function&&env.kindOf x == some .cell)=true
     ·simp only[if_pos c,List.lookup_cons,beq_self_eq_true] at h
      cases h
     ·simp only[if_neg c,List.lookup_cons,beq_self_eq_true] at h
      exact Option.some.inj h
   rw[hk2];exact List.mem_cons_self
  ·have hb:(x == n)=false:=beq_eq_false_iff_ne.mpr e
   refine List.mem_cons_of_mem _ (ih ?_ λy hy=>hc y (List.mem_cons_of_mem _ hy))
   rcases h with h | h
   ·left
    rw[List.map_cons] at h;by_cases c:(k == NameKind.free&&env.scope.kind == .function&&env.kindOf n == some .cell)=true
    ·simp only[if_pos c,List.lookup_cons,hb] at h;exact h
    ·simp only[if_neg c,List.lookup_cons,hb] at h;exact h
   ·right
    rw[List.map_cons] at h;by_cases c:(k == NameKind.free&&env.scope.kind == .function&&env.kindOf n == some .cell)=true
    ·simp only[if_pos c,List.lookup_cons,hb] at h;exact h
    ·simp only[if_neg c,List.lookup_cons,hb] at h;exact h
theorem wp {N:List Str}{scope:Scope}{cl:List (Str×Addr)}{fp:List Addr}{cap:List Nat}{nl:Nat}{h1:Heap}{tk:Nat}(I:Inv X pins σ H s) (CS:CompScope X.env.scope X.N scope N cap nl) (hN:X.N.Nodup)
  (c1:∀x c,cl.lookup x=some c->X.env.cells.lookup x=some c) (c2:∀x,(x,NameKind.free)∈scope.names->∃c,cl.lookup x=some c)
  (hf:∀b∈fp,Vs X pins H b) (hb:∀b∈fp,∃o,s.heap.get? b=some o) (hns:∃m,h1.Ns s.heap.objs.size m) (hk:∀b o,s.heap.get? b=some o->h1.get? b=some o) :
  Inv (cxC X N scope cl s H fp) [] (XH cap nl σ) H { s with heap:=h1,toks:=tk }:=by
 have bne:∀b∈fp,b≠s.heap.objs.size:=λb hb' e=>by
  obtain⟨o,ho⟩:=hb b hb';exact absurd (Heap.lt_size ho) (by rw[e];exact Nat.lt_irrefl _)
 refine⟨⟨I.ok.mod,CS.kind,I.ok.glob,I.ok.blt,Nat.le_refl _,λx y c h1 h2=>I.ok.inj x y c (c1 x c h1) (c1 y c h2),λx hx=>c2 x (Vk (scope:=scope) (env:=X.env) hx CS.nocell),λx c h=>(by cases h),I.ok.hd,I.ok.frames,.inl rfl,
  λb hb'=>⟨bne b hb',λx c e=>(hf b hb').2.2.2.2.1 x c (c1 x c e)⟩,I.bs,Nat.le_trans I.ok.bsz I.sz,λb o e hb'=>?_,λb hb' hm=>?_,I.stack,I.stkFree⟩,
  rfl,I.bare,Un.kept hk,?_,λx c e=>?_,I.hok.fresh (Nat.le_refl _),λx c e=>I.freeC x c (c1 x c e),λp hp=>absurd hp (by simp[cxC]),I.hok.kept hk,?_⟩
 ·rcases (hf b hb').2.2.2.1 with z | z
  ·exact I.ok.noex b o e z
  ·exact absurd (Heap.lt_size e) (Nat.not_lt.mpr (Nat.le_trans I.ok.bsz z))
 ·rcases List.mem_cons.mp (I.stkSub b hm) with e | e
  ·exact (hf b hb').2.1 e
  ·exact (hf b hb').2.2.1 e
 ·obtain⟨m1,hm1⟩:=hns
  refine⟨m1,hm1,λi x v e1 e2 e3=>?_⟩
  obtain⟨m,hm,hl⟩:=I.loc;have hi:nl<=i:=by
   by_cases hi:nl<=i
   ·exact hi
   ·have z:(XH cap nl σ)[i]? = some none:=by
     unfold XH;rw[List.getElem?_append_left (by simp;omega),List.getElem?_replicate,if_pos (by omega)]
    rw[z] at e2;cases e2
  have e2':(cap.map λi=>(σ[i]?).join)[i-nl]? = some (some v):=by
   have:(XH cap nl σ)[i]? = some (some v):=e2;unfold XH at this
   rwa [List.getElem?_append_right (by simp;exact hi),List.length_replicate] at this
  rw[List.getElem?_map] at e2';cases hj:cap[i-nl]? with
  |none=>rw[hj] at e2';cases e2'
  |some j=>
   rw[hj] at e2';have hv:σ[j]? = some (some v):=by
    have:(σ[j]?).join=some v:=Option.some.inj e2';cases q:σ[j]? with
    |none=>rw[q] at this;cases this
    |some o=>rw[q] at this;cases o with
     |none=>cases this
     |some w=>cases this;rfl
   obtain⟨x',n1,n2,fr⟩:=CS.capt _ _ hj;have ex:x'=x:=by
    have:N[nl+(i-nl)]? = some x:=by rw[show nl+(i-nl)=i by omega];exact e1
    rw[n1] at this;exact Option.some.inj this
   subst ex;have kd:=CS.free _ fr rfl;have vis:Vis X.env.scope x':=by
    rcases kd with z | z
    ·exact .inr (.inl z)
    ·exact .inr (.inr z)
   obtain⟨u,r,lk⟩:=hl j x' v n2 hv vis;refine⟨u,r,?_⟩;rcases lk with ⟨k,_⟩ | ⟨k,c,ec,hc⟩
   ·have k':X.env.scope.names.lookup x'=some .local:=k
    rcases kd with z | z <;> (rw[z] at k';cases k')
   ·obtain⟨c',ec'⟩:=c2 x' fr
    have ecc:c'=c:=by
     have:=c1 x' c' ec';rw[ec] at this;exact (Option.some.inj this).symm
    subst ecc;have vis2:Vis (relabel scope X.env) x':=e3;refine .inr ⟨?_,c',ec',?_⟩
    ·rcases vis2 with z | z | z
     ·have z':(scope.names.map λ(n,k)=>if (k == NameKind.free&&X.env.scope.kind == .function&&X.env.kindOf n == some .cell) then (n,NameKind.cell) else (n,k)).lookup x'=some .local:=z
      exfalso
      have:∀(names:List (Str×NameKind)),(∀y∈names,y.2=NameKind.local->y.1≠x')->(names.map λ(n,k)=>if (k == NameKind.free&&X.env.scope.kind == .function&&X.env.kindOf n == some .cell) then (n,NameKind.cell) else (n,k)).lookup x'≠some .local:=by
       intro names
       induction names with
       |nil=>intro _ h;cases h
       |cons y r ih=>
        obtain⟨n,k⟩:=y;intro hy h;rw[List.map_cons] at h;by_cases e:x'=n
        ·subst e
         by_cases c:(k == NameKind.free&&X.env.scope.kind == .function&&X.env.kindOf x' == some .cell)=true
         ·simp only[if_pos c,List.lookup_cons,beq_self_eq_true] at h;cases h
         ·simp only[if_neg c,List.lookup_cons,beq_self_eq_true] at h
          exact hy (x',k) List.mem_cons_self (Option.some.inj h) rfl
        ·have hb:(x' == n)=false:=beq_eq_false_iff_ne.mpr e
         refine ih (λy hy'=>hy y (List.mem_cons_of_mem _ hy')) ?_
         by_cases c:(k == NameKind.free&&X.env.scope.kind == .function&&X.env.kindOf n == some .cell)=true
         ·simp only[if_pos c,List.lookup_cons,hb] at h;exact h
         ·simp only[if_neg c,List.lookup_cons,hb] at h;exact h
      refine this scope.names (λy hy hl e=>?_) z'
      have l1:=CS.names y hy hl;rw[e] at l1;exact CS.apart (x',.free) fr rfl l1
     ·exact .inl z
     ·exact .inr z
    ·obtain⟨o,ho,hd⟩:=hc
     exact⟨o,hk c' o ho,hd⟩
 ·obtain⟨v,o,ho,hd⟩:=I.cell x c (c1 x c e)
  exact⟨v,o,hk c o ho,hd⟩
 ·unfold XH
  show _=N.length;rw[List.length_append,List.length_replicate,List.length_map,CS.len]
end
end Sd
namespace Sd
open PySem PySem.Spec PyProof.Rows L2
noncomputable abbrev TEm:=L2.St->Hp->(L2.St->Hp->Prop)->Prop
noncomputable def Gd (X:Cx) (act:Sem Fin->Sem Fin) (te:TEm):Prop:=
 ∀(pins:List (Addr×Obj)) (s:Shared) (σ:L2.St) (H:Hp) (Q:L2.St->Hp->Prop) (k:Sem Fin) (QF:Fin->Shared->Prop) (EE:Value->Shared->Prop),Inv X pins σ H s->te σ H Q->(∀s' σ' H',Inv X pins σ' H' s'->Q σ' H'->wpAny (model X.prog X.w) X.A k QF EE s')->
  wpAny (model X.prog X.w) X.A (act k) QF EE s
noncomputable def Vh (ipos:Pos) (tg:Expr) (ifs:List Expr) (act:Sem Fin->Sem Fin) (it:Value) (env:Env) (c:Code):Sem Fin:=do
 standAt ipos
 match <-pyNext it with
 |none=>pure (.done .next)
 |some v=>
  letOwnedTupleGo tg it v
  assign tg env v
  let mut ok:=true
  for c in ifs do
   if ok then ok <-isTrue c env (eval c env)
  if ok then act (again c) else again c
noncomputable def ya (J:It) (g:TG) (tt:TT) (te:TEm) (W:Nat->Nat->L2.St->Hp->Prop) (Q:L2.St->Hp->Prop):Prop:=∀i m σ' H',W i m σ' H'->
  (J.stop i H'/\Q σ' H')\/(J.go i H'/\∀x H'',J.yld i H' x H''->g x σ' H'' λσ2 H2=>tt σ2 H2 λok H3=>if ok=true then te σ2 H3 λσ3 H4=>∃m',m'<m/\W (i+1) m' σ3 H4 else ∃m',m'<m/\W (i+1) m' σ2 H3)
theorem Q2 {Y:Cx}{e:Expr}{depth:Nat}{ipos:Pos}{tg:Expr}{ifs:List Expr}{act:Sem Fin->Sem Fin}{acc:Value}{J:It}{fp:List Addr}{it:Addr}{tn:Nat->Heap->Prop}{g:TG}{tt:TT}{te:TEm}{pins:List (Addr×Obj)}{Rr:Result->Shared->Prop}{Q:L2.St->Hp->Prop}{W:Nat->Nat->L2.St->Hp->Prop}{s:Shared}{σ:L2.St}{H:Hp}{m:Nat}
  (hc:Y.calm=true) (hx:∀a b,Y.xe a b->False) (hT:compTurn e depth (.ref it) acc Y.env=Vh ipos tg ifs act (.ref it) Y.env (.compLoop e depth (.ref it) acc Y.env)) (hquiet:(Code.compLoop e depth (.ref it) acc Y.env).isFrame=false)
  (hq:(Code.compLoop e depth (.ref it) acc Y.env).quiet=true) (T:Turn Y.prog Y.w Y.K tg J fp it tn) (hg:PG Y tg g) (ht:PTs Y ifs tt) (he:Gd Y act te) (stat:∀{H':Hp},(∀b∈fp,H' b=none)->∀b∈fp,Vs Y pins H' b)
  (turn:ya J g tt te W Q) (fin:∀σ H s,Inv Y pins σ H s->Q σ H->Rr (.ok .next) s)
  (I0:Inv Y pins σ H s) (st0:tn 0 s.heap) (fr0:∀b∈fp,H b=none) (w0:W 0 m σ H) (hden:(model Y.prog Y.w).den (.compLoop e depth (.ref it) acc Y.env)=(compTurn e depth (.ref it) acc Y.env).onRaise (λx=>do noteFrame x Y.env;theTreesLotGoes x))
  (hund:Y.A.under (.compLoop e depth (.ref it) acc Y.env)=Y.A):codeAny (model Y.prog Y.w) Y.A (.compLoop e depth (.ref it) acc Y.env) Rr s:=by
 refine codeAny_loop hq (λn s'=>∃i σ' H',Inv Y pins σ' H' s'/\tn i s'.heap/\(∀b∈fp,H' b=none)/\W i n σ' H') (λn s5 hI=>?_) m ⟨0,σ,H,I0,st0,fr0,w0⟩
 rw[hund,hden,hT];refine wpAny_noted ?_;obtain⟨i,σ5,H5,I5,st5,fr5,w5⟩:=hI;unfold Vh;refine wpAny_bind (wpAny_standAt (wpAny_bind ?_));rcases turn i n σ5 H5 w5 with ⟨stop,qn⟩ | ⟨go,step⟩
 ·refine wpAny_mono (T.done Y rfl rfl rfl hc i pins s5 σ5 H5 (λ_ _=>False) I5 (stat fr5) st5 stop) (λr s6 ⟨hr,I6⟩=>?_) λ_ _ h'=>h'.elim
  subst hr;exact wpAny_pure (fin σ5 H5 s6 I6 qn)
 ·refine wpAny_mono (T.item Y rfl rfl rfl hc i pins s5 σ5 H5 (λ_ _=>False) I5 (stat fr5) st5 go) (λr s6 ⟨u,hr,h6⟩=>?_) λ_ _ h'=>h'.elim
  subst hr;refine wpAny_bind (wpAny_mono h6 (λ_ s7 ⟨x,H7,I7,r7,y7,st7,fr7⟩=>?_) λ_ _ h'=>h'.elim)
  have I7':=I7.pinned (stat fr7) (T.obj _ _ st7);have back:∀{σ8:L2.St} {H8:Hp} {s8:Shared} {m':Nat},Inv Y (pins++Qk fp s7.heap) σ8 H8 s8->m'<n->W (i+1) m' σ8 H8->∃m,m<n/\∃i σ' H',Inv Y pins σ' H' s8/\tn i s8.heap/\(∀b∈fp,H' b=none)/\W i m σ' H':=λ{σ8 H8 s8 m'} I8 hm w8=>by
   refine⟨m',hm,i+1,σ8,H8,I8.unpinned,T.keep _ _ _ st7 λb hb' o e=>(I8.pin (b,o) (List.mem_append_right _ (List.mem_append_right _ (Wj hb' e)))).1,λb hb'=>?_,w8⟩
   obtain⟨o,e,d⟩:=T.obj _ _ st7 b hb';exact (I8.pin (b,o) (List.mem_append_right _ (List.mem_append_right _ (Wj hb' e)))).2.1
  refine wpAny_bind (wpAny_mono (hg _ s7 σ5 H7 x u _ I7' r7 (step x H7 y7)) (λ_ s8 ⟨σ8,H8,I8,q8⟩=>?_) λ_ _ h'=>(hx _ _ h').elim)
  refine wpAny_bind (wpAny_mono (ht _ s8 σ8 H8 _ I8 q8) (λok s9 ⟨H9,I9,q9⟩=>?_) λ_ _ h'=>(hx _ _ h').elim)
  cases ok with
  |false=>
   rw[if_neg Bool.false_ne_true] at q9;obtain⟨m',hm,w9⟩:=q9;exact wpAny_pure ⟨rfl,back I9 hm w9⟩
  |true=>
   rw[if_pos rfl] at q9;exact he _ s9 σ8 H9 _ _ _ _ I9 q9 λs10 σ10 H10 I10 ⟨m',hm,w10⟩=>wpAny_pure ⟨rfl,back I10 hm w10⟩
theorem UZ {Y:Cx}{elt:Expr}{te:TE}{D:Addr}(hx:∀a b,Y.xe a b->False) (he:PE Y elt te):Gd Y (λk=>(do let _ <-call (.builtin "list.append") [.ref D,<-eval elt Y.env]:Sem Unit) >>= λ_=>k) (λσ H Q=>te σ H λy H4=>∃ys,H4 D=some (.lst ys)/\ys.length<sizeLine/\Q σ (upd H4 D (.lst (ys++[y])))):=by
 intro pins s σ H Q k QF EE I h hk;refine wpAny_bind ?_;refine wpAny_bind (wpAny_mono (he pins s σ H _ I h) (λxv s10 ⟨y,H10,I10,r10,ys,hDy,hz,q⟩=>?_) λ_ _ h'=>(hx _ _ h').elim)
 refine wpAny_bind (wpAny_mono (xm (X:=Y) pins s10 σ H10 (.ref D) [y] (.ref D) [xv] (λv H'=>v=.non/\H'=upd H10 D (.lst (ys++[y]))) I10 rfl (.cons r10 .nil) ⟨D,ys,y,rfl,rfl,hDy,hz,rfl,rfl⟩) (λ_ s11 ⟨v11,H11,I11,_,_,eH⟩=>?_) λ_ _ h'=>(hx _ _ h').elim)
 subst eH;exact wpAny_pure (hk _ _ _ I11 q)
noncomputable def G0 (wi:TI) (g:TG) (tt:TT) (te:Addr->TEm) (cap:List Nat) (nl:Nat):TE:=λσ H Q=>wi σ H λJ H1=>∀D,H1 D=none->∃W:Nat->Nat->L2.St->Hp->Prop,(∃m,W 0 m (XH cap nl σ) (upd H1 D (.lst [])))/\ya J g tt (te D) W λ_ H'=>Q (.ref D) H'
noncomputable def x5 (wi:TI) (g:TG) (tt:TT) (te:TE) (cap:List Nat) (nl:Nat):TE:=λσ H Q=>wi σ H λJ H1=>∀D,H1 D=none->∃W:Nat->Nat->L2.St->Hp->Prop,(∃m,W 0 m (XH cap nl σ) (upd H1 D (.lst [])))/\∀i m σ' H',W i m σ' H'->
  (J.stop i H'/\Q (.ref D) H')\/(J.go i H'/\∀x H'',J.yld i H' x H''->g x σ' H'' λσ2 H2=>tt σ2 H2 λok H3=>if ok=true then te σ2 H3 λy H4=>∃ys,H4 D=some (.lst ys)/\ys.length<sizeLine/\∃m',m'<m/\W (i+1) m' σ2 (upd H4 D (.lst (ys++[y]))) else ∃m',m'<m/\W (i+1) m' σ2 H3)
section
variable {X:Cx}
structure Gone (X:Cx) (pins:List (Addr×Obj)) (H:Hp) (s:Shared) (C:Addr):Prop where
 free:H C=none
 ns:∃m,s.heap.Ns C m
 loc:C≠X.env.locals
 big:X.s₀.heap.objs.size<=C
 cel:∀x c,X.env.cells.lookup x=some c->c≠C
 pin:∀p∈X.pn++pins,p.1≠C
theorem VN {tg iter elt:Expr}{ifs:List Expr}{scope:Scope}{pos fpos:Pos}{N:List Str}{cap:List Nat}{nl:Nat}{wi:TI}{g:TG}{tt:TT}{te:Addr->TEm}{act:Value->Env->Sem Fin->Sem Fin}{rest:List Comprehension}{pins:List (Addr×Obj)}{s:Shared}{σ:L2.St}{H:Hp}{Q:VK}{use:Option (Value->Sem Unit)}{QQ:Value->Shared->Prop}(hc:X.calm=true) (hN:X.N.Nodup) (CS:CompScope X.env.scope X.N scope N cap nl) (hi:PI X tg iter wi)
  (hT:∀it acc env,compTurn (.ListComp elt (⟨tg,iter,ifs,0⟩::rest) scope pos) 0 it acc env=Vh iter.pos tg ifs (act acc env) it env (.compLoop (.ListComp elt (⟨tg,iter,ifs,0⟩::rest) scope pos) 0 it acc env))
  (hb:∀cl s H fp,PG (cxC X N scope cl s H fp) tg g/\PTs (cxC X N scope cl s H fp) ifs tt/\∀D,Gd (cxC X N scope cl s H fp) (act (.ref D) (cxC X N scope cl s H fp).env) (te D))
  (hs:∀x,foldedSetIterable iter X.env x=pure x) (I:Inv X pins σ H s) (h:G0 wi g tt te cap nl σ H Q)
  (fin:∀D C H5 s6,Inv X pins σ H5 s6->Gone X pins H5 s6 C->Q (.ref D) H5->compPost (model X.prog X.w) X.A X.xe use QQ (.ref D) C (.ok .next) s6) :
  wpAny (model X.prog X.w) X.A (comprehension (.ListComp elt (⟨tg,iter,ifs,0⟩::rest) scope pos) scope X.env fpos (newList []) false (eval iter X.env) use) QQ X.xe s:=by
 obtain⟨cl,hcl,c1,c2⟩:=za (scope:=scope) (env:=X.env) λy hy hf=>I.ok.has y.1 (CS.free y hy hf)
 refine wpAny_comprehension_free (use:=use) rfl hs hcl CS.kind CS.names ?_;refine thn (hi pins s σ H _ I h) λv s1 h1=>thn h1 λitv s2 h2=>?_
 obtain⟨it,fp,tn,J,H2,rfl,I2,T,st2,f2,q2⟩:=h2;obtain⟨W,⟨m0,w0⟩,turn⟩:=q2 s2.heap.objs.size (I2.hok.fresh (Nat.le_refl _));refine wpAny_newObj_type (wpAny_newFunctionEnv CS.nocell (by intro y hy;simp at hy) (λh₁ hns₁ hsb₁=>?_) CS.kind)
 dsimp only at hns₁ hsb₁ ⊢
 have I3:Inv X pins σ (upd H2 s2.heap.objs.size (.lst [])) { s2 with heap:=s2.heap.push { cls:=.type "list",dict:=none,data:=.seq ([]:List Value).toArray },toks:=s2.toks }:=
  I2.laid (λb u e=>Heap.get?_push_of_some _ e) (Nat.le_refl _) ⟨Nat.zero_le _,[],0,.nil,Heap.get?_push_size _ rfl⟩
 generalize hD:s2.heap.objs.size=D at I3 w0 turn hns₁ hsb₁ ⊢;generalize hs3:({ s2 with heap:=s2.heap.push { cls:=.type "list",dict:=none,data:=.seq ([]:List Value).toArray },toks:=s2.toks }:Shared)=s3 at I3
 have hh3:s2.heap.push { cls:=.type "list",dict:=none,data:=.seq ([]:List Value).toArray }=s3.heap:=by rw[<-hs3]
 rw[hh3] at hns₁ hsb₁;have old:∀b o,s2.heap.get? b=some o->s3.heap.get? b=some o:=λb o e=>by rw[<-hh3];exact Heap.get?_push_of_some _ e
 have neD:∀b∈fp,b≠D:=λb hb' e=>by
  obtain⟨o,ho,_⟩:=T.obj _ _ st2 b hb';exact absurd (Heap.lt_size ho) (by rw[e,<-hD];exact Nat.lt_irrefl _)
 have f3:∀b∈fp,Vs X pins (upd H2 D (.lst [])) b:=λb hb'=>⟨by rw[Z0 (neD b hb')];exact (f2 b hb').1,(f2 b hb').2⟩
 have keep4:∀b o,s3.heap.get? b=some o->h₁.get? b=some o:=λb o e=>hsb₁.extBut b o (Nat.ne_of_lt (Heap.lt_size e)) (Heap.get?_push_of_some _ e)
 have I4:=wp (tk:=s2.toks+([]:List (Str×Value)).length) I3 CS hN c1 c2 f3 (λb hb'=>let ⟨o,ho,_⟩:=T.obj _ _ st2 b hb';⟨o,old b o ho⟩) ⟨_,hns₁⟩ keep4
 have e4:({ s3 with heap:=h₁,toks:=s2.toks+([]:List (Str×Value)).length }:Shared)={ s2 with heap:=h₁,toks:=s2.toks+([]:List (Str×Value)).length }:=by rw[<-hs3]
 rw[e4] at I4;obtain⟨hg,ht,he⟩:=hb cl s3 (upd H2 D (.lst [])) fp;generalize hY:cxC X N scope cl s3 (upd H2 D (.lst [])) fp=Y at I4 hg ht he;have yP:Y.prog=X.prog:=by rw[<-hY];rfl
 have stat:∀{H':Hp},(∀b∈fp,H' b=none)->∀b∈fp,Vs Y [] H' b:=λhn b hb'=>by
  subst hY;refine⟨hn b hb',λe=>?_,λhm=>?_,.inl hb',λx c e=>(f3 b hb').2.2.2.2.1 x c (c1 x c e),λp hp=>absurd hp (by simp[cxC])⟩
  ·obtain⟨o,ho,_⟩:=T.obj _ _ st2 b hb'
   have:=Heap.lt_size (old b o ho);rw[e] at this;exact absurd this (Nat.lt_irrefl _)
  ·rcases List.mem_cons.mp (I3.stkSub b hm) with e | e
   ·exact (f3 b hb').2.1 e
   ·exact (f3 b hb').2.2.1 e
 subst hY
 let Y:=cxC X N scope cl s3 (upd H2 D (.lst [])) fp
 have st4:tn 0 h₁:=T.keep _ _ _ st2 λb hb' o e=>keep4 b o (old b o e)
 have fr4:∀b∈fp,upd H2 D (HO.lst []) b=none:=λb hb'=>(f3 b hb').1
 have loop:codeAny (model X.prog X.w) X.A (.compLoop (.ListComp elt (⟨tg,iter,ifs,0⟩::rest) scope pos) 0 (.ref it) (.ref D) (compEnvC scope cl s3.heap.objs.size X.env))
   (compPost (model X.prog X.w) X.A X.xe use QQ (.ref D) s3.heap.objs.size) { s2 with heap:=h₁,toks:=s2.toks+([]:List (Str×Value)).length }:=by
  refine Q2 (Y:=cxC X N scope cl s3 (upd H2 D (.lst [])) fp) (pins:=[]) (W:=W) (Q:=λ_ H'=>Q (.ref D) H') hc (λ_ _ z=>z) (hT _ _ _) rfl rfl T hg ht (he D) stat turn (λσ5 H5 s6 I6 qn=>?_) I4 st4 fr4 w0 rfl rfl
  obtain⟨m6,hn6,_⟩:=I6.loc;have u:=I6.base;have IX:Inv X pins σ H5 s6:=Inv.call' (s':=s6) (ch:=fp) I3 I6.os ⟨u.keep,u.slot,u.free,u.there,u.tups,u.frzs,u.tbls⟩ I6.hok I6.bare λb hb'=>⟨(f3 b hb').2.2.2.1,(f3 b hb').2.1,(f3 b hb').2.2.2.2.1,λp hp e=>(f3 b hb').2.2.2.2.2 p hp e⟩
  refine fin D s3.heap.objs.size H5 s6 IX ⟨I6.free,⟨m6,hn6⟩,Ne.symm (Nat.ne_of_lt I3.lt),I3.sz,λx c e z=>?_,λp hp z=>?_⟩ qn
  ·obtain⟨v,q⟩:=I3.cell x c e
   exact absurd q.lt (by rw[z];exact Nat.lt_irrefl _)
  ·exact absurd (Heap.lt_size (I3.pin p hp).1) (by rw[z];exact Nat.lt_irrefl _)
 subst hs3;exact codeAny_compStart_list loop (T.self _ 0 _ _ _ st4 loop)
theorem Gone.inv {pins:List (Addr×Obj)}{H:Hp}{s:Shared}{C:Addr}{σ:L2.St}{h':Heap}(G:Gone X pins H s C) (I:Inv X pins σ H s) (hsb:Heap.SameBut C s.heap h'):Inv X pins σ H { s with heap:=h' }:=
 I.turned (t':=s.toks) (λb o hb e=>(hsb.2 b hb).trans e) G.free G.loc (.inr G.big) G.cel G.pin
noncomputable def xt (te:TE) (D:Addr):TEm:=λσ H Q=>te σ H λy H4=>∃ys,H4 D=some (.lst ys)/\ys.length<sizeLine/\Q σ (upd H4 D (.lst (ys++[y])))
theorem uW {tg iter elt:Expr}{ifs:List Expr}{scope:Scope}{pos:Pos}{N:List Str}{cap:List Nat}{nl:Nat}{wi:TI}{g:TG}{tt:TT}{te:TE}(hc:X.calm=true) (hN:X.N.Nodup) (CS:CompScope X.env.scope X.N scope N cap nl) (hi:PI X tg iter wi)
  (hb:∀cl s H fp,PG (cxC X N scope cl s H fp) tg g/\PTs (cxC X N scope cl s H fp) ifs tt/\PE (cxC X N scope cl s H fp) elt te)
  (hs:∀x,foldedSetIterable iter X.env x=pure x:=by intro _;rfl):PE X (.ListComp elt [⟨tg,iter,ifs,0⟩] scope pos) (x5 wi g tt te cap nl):=by
 intro pins s σ H Q I h;rw[eval_ListComp];refine VN (te:=xt te) (act:=λacc env k=>(do let _ <-call (.builtin "list.append") [acc,<-eval elt env]:Sem Unit) >>= λ_=>k) hc hN CS hi (λ_ _ _=>rfl) (λcl s H fp=>⟨(hb cl s H fp).1,(hb cl s H fp).2.1,λD=>UZ (λ_ _ z=>z) (hb cl s H fp).2.2⟩) hs I h λD C H5 s6 I6 G q=>?_
 obtain⟨m6,hn6⟩:=G.ns;exact⟨m6,hn6,λh' hsb=>⟨.ref D,H5,G.inv I6 hsb,rfl,q⟩⟩
theorem xM {tg iter elt:Expr}{ifs:List Expr}{scope:Scope}{pos spos py:Pos}{N:List Str}{cap:List Nat}{nl:Nat}{wi:TI}{g:TG}{tt:TT}{te:TE}{i:Nat}{y:Str}(hc:X.calm=true) (hN:X.N.Nodup) (CS:CompScope X.env.scope X.N scope N cap nl) (hi:PI X tg iter wi)
  (hb:∀cl s H fp,PG (cxC X N scope cl s H fp) tg g/\PTs (cxC X N scope cl s H fp) ifs tt/\PE (cxC X N scope cl s H fp) elt te)
  (hsw:swapsWith (.ListComp elt [⟨tg,iter,ifs,0⟩] scope pos) (some (.Name y py)) spos.line X.env=pure true)
  (hy:X.N[i]? = some y) (hx:L2.Loc X.env.scope y) (hf:X.fn y=true\/X.env.scope.names.lookup y=some .local)
  (hs:∀x,foldedSetIterable iter X.env x=pure x:=by intro _;rfl):PS X (.Assign [.Name y py] (.ListComp elt [⟨tg,iter,ifs,0⟩] scope pos) spos) (λD σ H=>x5 wi g tt te cap nl σ H λv H1=>D.nx (σ.set i (some v)) H1):=by
 intro pins s σ H D I h;rw[exec_Assign_Name_used _ _ _ _ hsw];refine wpAny_bind (wpAny_standAt (wpAny_bind ?_));show wpAny _ X.A (do let _ <-comprehension (.ListComp elt [⟨tg,iter,ifs,0⟩] scope pos) scope X.env _ (newList []) false (eval iter X.env) (some (assign (.Name y py) X.env))) _ _ s;refine wpAny_bind (wpAny_mono (VN (use:=some (assign (.Name y py) X.env)) (QQ:=λ_ s'=>SP X pins D .next s') (Q:=λv H1=>D.nx (σ.set i (some v)) H1) (te:=xt te) (act:=λacc env k=>(do let _ <-call (.builtin "list.append") [acc,<-eval elt env]:Sem Unit) >>= λ_=>k) hc hN CS hi (λ_ _ _=>rfl) (λcl s H fp=>⟨(hb cl s H fp).1,(hb cl s H fp).2.1,λD=>UZ (λ_ _ z=>z) (hb cl s H fp).2.2⟩) hs I h λA C H5 s6 I6 G q=>?_) (λ_ s' hq=>wpAny_pure (wpAny_pure hq)) λ_ _ e=>e)
 show wpAny _ X.A (assign (.Name y py) X.env (.ref A)) _ _ s6;refine wpAny_assign_Name (VV (v:=V.ref A) I6 hN hy hx rfl (λs7 I7 ⟨a,hsb,ha⟩=>?_) hf)
 have hCa:C≠a:=by
  rcases ha with e | e
  ·rw[e];exact G.loc
  ·exact Ne.symm (G.cel y a e)
 obtain⟨m6,hn6⟩:=G.ns;have G7:Gone X pins H5 s7 C:=⟨G.free,⟨m6,hn6.sameBut hsb hCa⟩,G.loc,G.big,G.cel,G.pin⟩;exact⟨m6,hn6.sameBut hsb hCa,λh' hs'=>⟨σ.set i (some (.ref A)),H5,G7.inv I7 hs',q⟩⟩
noncomputable def JG (wi:TI) (g:TG) (tt:TT) (te:TEm):TEm:=λσ H Q=>wi σ H λJ H1=>∃W:Nat->Nat->L2.St->Hp->Prop,(∃m,W 0 m σ H1)/\ya J g tt te W Q
theorem G9 {Y:Cx}{elt t2 i2:Expr}{gens:List Comprehension}{scope:Scope}{pos:Pos}{f2:List Expr}{act:Sem Fin->Sem Fin}{acc:Value}{wi:TI}{g:TG}{tt:TT}{te:TEm}(hc:Y.calm=true) (hx:∀a b,Y.xe a b->False) (hi:PI Y t2 i2 wi) (hg:PG Y t2 g) (ht:PTs Y f2 tt) (he:Gd Y act te)
  (hs:∀x,foldedSetIterable i2 Y.env x=pure x)
  (hstart:∀(it:Value) (R:Result->Shared->Prop) (s:Shared),codeAny (model Y.prog Y.w) Y.A (.compLoop (.ListComp elt gens scope pos) 1 it acc Y.env) R s->wpAny (model Y.prog Y.w) Y.A (pyIter it) (λit' s'=>codeAny (model Y.prog Y.w) Y.A (.compLoop (.ListComp elt gens scope pos) 1 it' acc Y.env) R s') (notedBy (model Y.prog Y.w) Y.A Y.env λx s'=>R (.error x) s') s->codeAny (model Y.prog Y.w) Y.A (.compStart (.ListComp elt gens scope pos) 1 it acc Y.env) R s)
  (hT:∀it,compTurn (.ListComp elt gens scope pos) 1 it acc Y.env=Vh i2.pos t2 f2 act it Y.env (.compLoop (.ListComp elt gens scope pos) 1 it acc Y.env)) :
  Gd Y (λk=>do let x <-eval i2 Y.env;standAt i2.pos;let x <-foldedSetIterable i2 Y.env x;let _ <-runOwn (.compStart (.ListComp elt gens scope pos) 1 (<-holding [x] (pyIter x)) acc Y.env) Y.env;k) (JG wi g tt te):=by
 intro pins s σ H Q k QF EE I h hk;refine wpAny_bind (wpAny_mono (hi pins s σ H _ I h) (λv s1 h1=>wpAny_bind (wpAny_standAt (wpAny_bind (wpAny_of_eq (hs v) (wpAny_bind (wpAny_holding (wpAny_mono h1 (λitv s2 h2=>?_) λ_ _ z=>(hx _ _ z).elim))))))) λ_ _ z=>(hx _ _ z).elim)
 obtain⟨it,fp,tn,J,H2,rfl,I2,T,st2,f2',W,⟨m0,w0⟩,turn⟩:=h2;have stat:∀{H':Hp},(∀b∈fp,H' b=none)->∀b∈fp,Vs Y pins H' b:=λhn b hb=>⟨hn b hb,(f2' b hb).2⟩
 have loop:codeAny (model Y.prog Y.w) Y.A (.compLoop (.ListComp elt gens scope pos) 1 (.ref it) acc Y.env) (λr s'=>match r with | .ok f=>wpAny (model Y.prog Y.w) Y.A k QF EE s' | .error x=>cameBackBy (model Y.prog Y.w) Y.A Y.env EE x s') s2:=
  Q2 (W:=W) (Q:=Q) hc hx (hT _) rfl rfl T hg ht he stat turn (λσ5 H5 s6 I6 qn=>hk s6 σ5 H5 I6 qn) I2 st2 (λb hb=>(f2' b hb).1) w0 rfl rfl
 exact wpAny_bind (wpAny_runOwn (hstart _ _ _ loop (T.self _ 0 _ _ _ st2 loop)))
theorem start1 {prog:Program}{w:World}{A:Around}{R:Result->Shared->Prop}{s:Shared}{elt t1 i1 t2 i2:Expr}{f1 f2:List Expr}{scope:Scope}{pos:Pos}{it acc:Value}{env:Env}
  (h0:codeAny (model prog w) A (.compLoop (.ListComp elt [⟨t1,i1,f1,0⟩,⟨t2,i2,f2,0⟩] scope pos) 1 it acc env) R s)
  (h:wpAny (model prog w) A (pyIter it) (λit' s'=>codeAny (model prog w) A (.compLoop (.ListComp elt [⟨t1,i1,f1,0⟩,⟨t2,i2,f2,0⟩] scope pos) 1 it' acc env) R s') (notedBy (model prog w) A env λx s'=>R (.error x) s') s) :
  codeAny (model prog w) A (.compStart (.ListComp elt [⟨t1,i1,f1,0⟩,⟨t2,i2,f2,0⟩] scope pos) 1 it acc env) R s:=by
 refine codeAny_of_tree ?_;show wpAny _ _ ((compStart (.ListComp elt [⟨t1,i1,f1,0⟩,⟨t2,i2,f2,0⟩] scope pos) 1 it acc env).onRaise (λx=>do noteFrame x env;standAt theWindowsPlace)) _ _ s
 refine wpAny_notedAt ?_;unfold compStart;show wpAny _ _ (ask >>= _) _ _ s;refine wpAny_bind (wpAny_askSetting (wpAny_ite ?_));split
 ·first | exact wpAny_bind (wpAny_pure (wpAny_pure (And.intro rfl h0))) | exact wpAny_pure (And.intro rfl h0)
 ·first | exact wpAny_bind (wpAny_rule (wpAny_bind (wpAny_standAt (wpAny_bind (wpAny_mono h (λit' s' h'=>wpAny_pure (And.intro rfl h')) λ_ _ x=>x))))) | (refine wpAny_bind (wpAny_rule ?_);show wpAny _ _ (standAt i2.pos >>= _) _ _ s;exact wpAny_bind (wpAny_standAt (wpAny_bind (wpAny_mono h (λit' s' h'=>wpAny_pure (And.intro rfl h')) λ_ _ x=>x))))
theorem yG {t1 i1 t2 i2 elt:Expr}{f1 f2:List Expr}{scope:Scope}{pos spos py:Pos}{N:List Str}{cap:List Nat}{nl:Nat}{wi wj:TI}{g1 g2:TG}{tt1 tt2:TT}{te:TE}{i:Nat}{y:Str}(hc:X.calm=true) (hN:X.N.Nodup) (CS:CompScope X.env.scope X.N scope N cap nl) (hi:PI X t1 i1 wi)
  (hb:∀cl s H fp,PG (cxC X N scope cl s H fp) t1 g1/\PTs (cxC X N scope cl s H fp) f1 tt1/\PI (cxC X N scope cl s H fp) t2 i2 wj/\PG (cxC X N scope cl s H fp) t2 g2/\PTs (cxC X N scope cl s H fp) f2 tt2/\PE (cxC X N scope cl s H fp) elt te)
  (hsw:swapsWith (.ListComp elt [⟨t1,i1,f1,0⟩,⟨t2,i2,f2,0⟩] scope pos) (some (.Name y py)) spos.line X.env=pure true)
  (hy:X.N[i]? = some y) (hx:L2.Loc X.env.scope y) (hf:X.fn y=true\/X.env.scope.names.lookup y=some .local)
  (hs:∀x,foldedSetIterable i1 X.env x=pure x:=by intro _;rfl) (hs2:∀env x,foldedSetIterable i2 env x=pure x:=by intro _ _;rfl) :
  PS X (.Assign [.Name y py] (.ListComp elt [⟨t1,i1,f1,0⟩,⟨t2,i2,f2,0⟩] scope pos) spos) (λD σ H=>G0 wi g1 tt1 (λD=>JG wj g2 tt2 (xt te D)) cap nl σ H λv H1=>D.nx (σ.set i (some v)) H1):=by
 intro pins s σ H D I h;rw[exec_Assign_Name_used _ _ _ _ hsw];refine wpAny_bind (wpAny_standAt (wpAny_bind ?_));show wpAny _ X.A (do let _ <-comprehension (.ListComp elt [⟨t1,i1,f1,0⟩,⟨t2,i2,f2,0⟩] scope pos) scope X.env _ (newList []) false (eval i1 X.env) (some (assign (.Name y py) X.env))) _ _ s;refine wpAny_bind (wpAny_mono (VN (use:=some (assign (.Name y py) X.env)) (QQ:=λ_ s'=>SP X pins D .next s') (Q:=λv H1=>D.nx (σ.set i (some v)) H1) (te:=λD=>JG wj g2 tt2 (xt te D)) (act:=λacc env k=>do let x <-eval i2 env;standAt i2.pos;let x <-foldedSetIterable i2 env x;let _ <-runOwn (.compStart (.ListComp elt [⟨t1,i1,f1,0⟩,⟨t2,i2,f2,0⟩] scope pos) 1 (<-holding [x] (pyIter x)) acc env) env;k) hc hN CS hi (λ_ _ _=>rfl) (λcl s H fp=>?_) hs I h λA C H5 s6 I6 G q=>?_) (λ_ s' hq=>wpAny_pure (wpAny_pure hq)) λ_ _ e=>e)
 ·obtain⟨a1,a2,a3,a4,a5,a6⟩:=hb cl s H fp
  exact⟨a1,a2,λD=>G9 hc (λ_ _ z=>z) a3 a4 a5 (UZ (λ_ _ z=>z) a6) (λx=>hs2 _ x) (λit R s k1 k2=>start1 k1 k2) λit=>rfl⟩
 show wpAny _ X.A (assign (.Name y py) X.env (.ref A)) _ _ s6;refine wpAny_assign_Name (VV (v:=V.ref A) I6 hN hy hx rfl (λs7 I7 ⟨a,hsb,ha⟩=>?_) hf)
 have hCa:C≠a:=by
  rcases ha with e | e
  ·rw[e];exact G.loc
  ·exact Ne.symm (G.cel y a e)
 obtain⟨m6,hn6⟩:=G.ns;have G7:Gone X pins H5 s7 C:=⟨G.free,⟨m6,hn6.sameBut hsb hCa⟩,G.loc,G.big,G.cel,G.pin⟩;exact⟨m6,hn6.sameBut hsb hCa,λh' hs'=>⟨σ.set i (some (.ref A)),H5,G7.inv I7 hs',q⟩⟩
end
end Sd
namespace Sd
open PySem PySem.Spec PyProof.Rows L2
open Ev (D Ob Store Lc R E Sm Calls Walk Fl Fn Bop Cop Ty Bf Mf ev evs evo evt evw tst run runs)
section
variable {X:Cx}{xw:Nat->Hp->Prop}{C:Calls}{e a b c tg it:Expr}{i j k:E}{pos p p' p2:Pos}
noncomputable def CTs (X:Cx) (xw:Nat->Hp->Prop) (C:Calls) (ifs:List Expr) (is:List E):Prop:=PTs X ifs (tB3 X xw (evt C is))
theorem PTs.imp {X:Cx}{e:List Expr}{t t':TT}(h:PTs X e t) (k:∀σ H Q,t' σ H Q->t σ H Q):PTs X e t':=λpins s σ H Q I q=>h pins s σ H Q I (k σ H Q q)
theorem Z1:CTs X xw C [] []:=PTs.imp uO λσ H Q ⟨ρ,l,S,st,lr,h⟩=>End.ok (rep:=Vo) (show End X.K xw Vo ρ H Q (.ok true S) from h) st rfl
theorem uj (σ:Lc) (S:Store):evt C [i] σ S=tst C i σ S:=by
 show ((ev C i σ S).bind λx S=>(Ev.ob (Ev.truth S x) S).bind λb S=>if b then evt C [] σ S else .ok false S)=(ev C i σ S).bind λx S=>Ev.ob (Ev.truth S x) S
 congr 1
 funext x S
 cases Ev.truth S x with
 |none=>rfl
 |some b=>cases b <;> rfl
theorem Wa (h:CT X xw C c i):CTs X xw C [c] [i]:=PTs.imp (uH h) λσ H Q ⟨ρ,l,S,st,lr,h⟩=>⟨ρ,l,S,st,lr,by rw[<-uj];exact h⟩
theorem LocR.caught {ρ:List Addr}{H:Hp}{l:Lc}{σ:L2.St}(lr:LocR ρ H l σ) (cap:List Nat) (nl:Nat):LocR ρ H (Ev.caught cap nl l) (XH cap nl σ):=by
 refine⟨by unfold Ev.caught XH;simp,λn d e=>?_⟩
 unfold Ev.caught at e;by_cases hn:n<nl
 ·rw[List.getElem?_append_left (by simp;exact hn),List.getElem?_replicate,if_pos hn] at e
  cases e
 ·rw[List.getElem?_append_right (by simp;omega),List.length_replicate,List.getElem?_map] at e
  unfold XH;rw[List.getElem?_append_right (by simp;omega),List.length_replicate,List.getElem?_map]
  cases q:cap[n-nl]? with
  |none=>rw[q] at e;cases e
  |some m=>
   rw[q] at e;have e':(l[m]?).join=some d:=Option.some.inj e;have:l[m]? = some (some d):=by
    cases z:l[m]? with
    |none=>rw[z] at e';cases e'
    |some o=>rw[z] at e';cases o with
     |none=>cases e'
     |some w=>cases e';rfl
   obtain⟨v,hv,r⟩:=lr.val m d this;exact⟨v,by show some ((σ[m]?).join)=_;rw[hv];rfl,r⟩
theorem GS {is:List E}{ie:E}{cap:List Nat}{nl:Nat}{w:Ev.W}{t:List Nat}{σ:L2.St}{H:Hp}{Q:VK}(hyp:tE X xw (ev C (.comp1 cap nl t w is ie)) σ H Q):x5 (tW3 X xw (evw C w)) (tG3 X t) (tB3 X xw (evt C is)) (tE X xw (ev C ie)) cap nl σ H Q:=by
  obtain⟨ρ,l,S,st,lr,h⟩:=hyp;rw[ev] at h;refine⟨ρ,l,S,st,lr,h.bind λwk S1 ρ1 H1 J f1 st1 r1 h1=>λD hD=>?_⟩
  have st2:St3 X.K (ρ1++[D]) (S1++[.lst []]) (upd H1 D (.lst [])):=st1.new hD ⟨[],YH,Reps.nil⟩;have f2:Fut ρ1 H1 (ρ1++[D]) (upd H1 D (.lst [])):=Vm hD;have pD:(ρ1++[D])[S1.length]? = some D:=by rw[<-st1.len];simp
  let B:Ev.D->Lc->Store->R Lc:=λx σ S2=>(Ev.ob (Ev.assign t x S2 σ) S2).bind λσ S2=>(evt C is σ S2).bind λb S2=>if b then (ev C ie σ S2).bind λy S2=>(Ev.push S1.length y S2).bind λ_ S2=>.ok σ S2 else .ok σ S2
  have h2:End X.K xw Rep ρ1 H1 Q ((Ev.YT wk B wk.items (Ev.caught cap nl l) (S1++[.lst []])).bind λ_ S2=>.ok (.loc S1.length) S2):=h1
  refine⟨λn m σ' H'=>m=wk.items.length-n/\n<=wk.items.length/\∃ρ' l' S',Fut (ρ1++[D]) (upd H1 D (.lst [])) ρ' H'/\St3 X.K ρ' S' H'/\LocR ρ' H' l' σ'/\End X.K xw Rep ρ' H' Q ((Ev.YT wk B (wk.items.drop n) l' S').bind λ_ S2=>.ok (.loc S1.length) S2),
   ⟨wk.items.length,rfl,Nat.zero_le _,ρ1++[D],Ev.caught cap nl l,S1++[Ob.lst []],Fut.refl _ _,st2,(((lr.mono f1).mono f2).caught cap nl),by rw[List.drop_zero];exact End.mono f2 h2⟩,?_⟩
  rintro n m σ' H' ⟨rfl,hn,ρ',l',S',f',st',lr',e'⟩
  by_cases hlt:n<wk.items.length
  ·right
   have hd:wk.items.drop n=wk.items[n]::wk.items.drop (n+1):=List.drop_eq_getElem_cons hlt;rw[hd] at e';have e2:End X.K xw Rep ρ' H' Q ((if wk.still S'=true then (B wk.items[n] l' S').bind λσ S=>Ev.YT wk B (wk.items.drop (n+1)) σ S else .no).bind λ_ S2=>.ok (.loc S1.length) S2):=e'
   by_cases hst:wk.still S'=true
   ·rw[if_pos hst] at e2
    obtain⟨go,yl⟩:=r1.go n ρ' S' H' (f2.trans f') st' hst hlt;refine⟨go,λx H3 y=>?_⟩
    obtain⟨f3,st3,rp⟩:=yl x H3 y;have rx:=rp _ (List.getElem?_eq_getElem hlt);have e3:=End.mono f3 e2;have ff:=f'.trans f3;cases ha:Ev.assign t wk.items[n] S' l' with
    |none=>
     have z:B wk.items[n] l' S'=.no:=by show (Ev.ob (Ev.assign t wk.items[n] S' l') S').bind _=_;rw[ha];rfl
     rw[z] at e3;exact False.elim e3
    |some l2=>
     have z:B wk.items[n] l' S'=(evt C is l2 S').bind λb S2=>if b then (ev C ie l2 S2).bind λy S2=>(Ev.push S1.length y S2).bind λ_ S2=>.ok l2 S2 else .ok l2 S2:=by
      show (Ev.ob (Ev.assign t wk.items[n] S' l') S').bind _=_;rw[ha];rfl
     rw[z] at e3;simp only[XS] at e3;refine⟨ρ',l',S',wk.items[n],l2,st3,lr'.mono f3,rx,ha,λσ2 lr2=>⟨ρ',l2,S',st3,lr2,e3.bind λok S4 ρ4 H4 ok' f4 st4 ro h4=>?_⟩⟩
     have eo:ok=ok':=ro;subst eo;cases ok with
     |false=>
      rw[if_neg Bool.false_ne_true];exact⟨wk.items.length-(n+1),by omega,rfl,hlt,ρ4,l2,S4,ff.trans f4,st4,lr2.mono f4,h4⟩
     |true=>
      rw[if_pos rfl];have h5:End X.K xw Rep ρ4 H4 Q (((ev C ie l2 S4).bind λy S2=>(Ev.push S1.length y S2).bind λ_ S2=>.ok l2 S2).bind λa S=>(Ev.YT wk B (wk.items.drop (n+1)) a S).bind λ_ S2=>.ok (.loc S1.length) S2):=h4
      simp only[XS] at h5;refine⟨ρ4,l2,S4,st4,lr2.mono f4,h5.bind λy S5 ρ5 H5 v f5 st5 r5 h6=>?_⟩
      have p5:ρ5[S1.length]? = some D:=f5.at (f4.at (ff.at pD));cases q:Ev.Zv S5 S1.length with
      |none=>
       have z:Ev.push S1.length y S5=.no:=by unfold Ev.push;rw[q]
       rw[z] at h6;exact False.elim h6
      |some zs=>
       have z:Ev.push S1.length y S5=if zs.length<Ev.lim then .ok () (S5.set S1.length (.lst (zs++[y]))) else .no:=by unfold Ev.push;rw[q]
       rw[z] at h6;by_cases hl:zs.length<Ev.lim
       ·rw[if_pos hl] at h6
        obtain⟨sn,a,xs,pa,hx,rz⟩:=st5.lst q;rw[p5] at pa;cases pa;refine⟨xs,hx,by rw[rz.length,<-V0];exact hl,wk.items.length-(n+1),by omega,rfl,hlt,ρ5,l2,S5.set S1.length (.lst (zs++[y])),((ff.trans f4).trans f5).trans (XR hx),st5.wr p5 sn hx (rz.append (Reps.cons r5 Reps.nil)),((lr2.mono f4).mono f5).mono (XR hx),End.mono (XR hx) h6⟩
       ·rw[if_neg hl] at h6
        exact False.elim h6
   ·rw[if_neg hst] at e2
    exact False.elim e2
  ·left
   have en:n=wk.items.length:=by omega
   subst en;rw[List.drop_length] at e';have e2:End X.K xw Rep ρ' H' Q ((if wk.still S'=true then Ev.R.ok l' S' else .no).bind λ_ S2=>.ok (.loc S1.length) S2):=e'
   by_cases hst:wk.still S'=true
   ·rw[if_pos hst] at e2
    exact⟨r1.stop ρ' S' H' (f2.trans f') st' hst,End.ok (rep:=Rep) (show End X.K xw Rep ρ' H' Q (.ok (.loc S1.length) S') from e2) st' (Uv (f'.at pD))⟩
   ·rw[if_neg hst] at e2
    exact False.elim e2
theorem ZP {elt:Expr}{ifs:List Expr}{is:List E}{ie:E}{scope:Scope}{N:List Str}{cap:List Nat}{nl:Nat}{w:Ev.W}{t:List Nat}(hc:X.calm=true) (hN:X.N.Nodup) (CS:CompScope X.env.scope X.N scope N cap nl) (hi:CW X xw C tg it w)
  (hb:∀cl s H fp,CG (cxC X N scope cl s H fp) tg t/\CTs (cxC X N scope cl s H fp) xw C ifs is/\CE (cxC X N scope cl s H fp) xw C elt ie)
  (hs:∀x,foldedSetIterable it X.env x=pure x:=by intro _;rfl):CE X xw C (.ListComp elt [⟨tg,it,ifs,0⟩] scope pos) (.comp1 cap nl t w is ie):=
 PE.imp (uW (g:=tG3 X t) (tt:=tB3 X xw (evt C is)) (te:=tE X xw (ev C ie)) hc hN CS hi (λcl s H fp=>hb cl s H fp) hs) λσ H Q hyp=>GS hyp
theorem XF {elt:Expr}{ifs:List Expr}{is:List E}{ie:E}{scope:Scope}{N:List Str}{cap:List Nat}{nl:Nat}{w:Ev.W}{t:List Nat}{n:Nat}{y:Str}{spos py:Pos}(hc:X.calm=true) (hN:X.N.Nodup) (CSc:CompScope X.env.scope X.N scope N cap nl) (hi:CW X xw C tg it w)
  (hb:∀cl s H fp,CG (cxC X N scope cl s H fp) tg t/\CTs (cxC X N scope cl s H fp) xw C ifs is/\CE (cxC X N scope cl s H fp) xw C elt ie)
  (hsw:swapsWith (.ListComp elt [⟨tg,it,ifs,0⟩] scope pos) (some (.Name y py)) spos.line X.env=pure true:=by rfl)
  (hy:X.N[n]? = some y:=by rfl) (hx:L2.Loc X.env.scope y:=by first | exact Or.inl rfl | exact Or.inr rfl) (hf:X.fn y=true\/X.env.scope.names.lookup y=some .local:=by first | exact .inl rfl | exact .inr rfl)
  (hs:∀x,foldedSetIterable it X.env x=pure x:=by intro _;rfl):CS X xw C (.Assign [.Name y py] (.ListComp elt [⟨tg,it,ifs,0⟩] scope pos) spos) (.asg [n] (.comp1 cap nl t w is ie)):=
 PS.imp (xM (g:=tG3 X t) (tt:=tB3 X xw (evt C is)) (te:=tE X xw (ev C ie)) hc hN CSc hi (λcl s H fp=>hb cl s H fp) hsw hy hx hf hs) λD σ H ⟨ρ,l,S,st,lr,h⟩=>
  GS ⟨ρ,l,S,st,lr,ZQ.bind (show ZQ X.K xw ρ H D ((ev C (.comp1 cap nl t w is ie) l S).bind λx S=>(Ev.ob (Ev.assign [n] x S l) S).bind λσ S=>.ok (.nx σ) S) from h) λx S1 ρ1 H1 v f1 st1 r1 h1=>by
   obtain⟨l',hl',h2⟩:=ZQ.ob h1;have e:l.set n (some x)=l':=Option.some.inj hl';exact ZQ.nx h2 st1 (by rw[<-e];exact (lr.mono f1).set n r1)⟩
noncomputable def LcR (ρ:List Addr) (H:Hp) (l:Lc) (σ:L2.St):Prop:=LocR ρ H l σ
noncomputable def Wt (C:Calls) (t:List Nat) (is:List E) (Em:Lc->Store->R Lc) (x:D) (l:Lc) (S:Store):R Lc:=(Ev.ob (Ev.assign t x S l) S).bind λl S=>(evt C is l S).bind λb S=>if b then Em l S else .ok l S
theorem Gq {ρ1:List Addr}{H1:Hp}{wk:Walk}{J:It}(r1:WRel X.K ρ1 H1 wk J) {t:List Nat}{is:List E}{te:TEm}{Em:Lc->Store->R Lc}(P:List Addr->Prop) (hP:∀ρ ρ' H H',Fut ρ H ρ' H'->P ρ->P ρ')
  (hEm:∀ρ H l σ S Q,P ρ->St3 X.K ρ S H->LocR ρ H l σ->End X.K xw LcR ρ H Q (Em l S)->te σ H Q) {QQ:L2.St->Hp->Prop} {ρ:List Addr} {H:Hp} {l:Lc} {σ:L2.St} {S:Store} (f:Fut ρ1 H1 ρ H) (hp:P ρ) (st:St3 X.K ρ S H) (lr:LocR ρ H l σ)
  (h:End X.K xw LcR ρ H QQ (Ev.YT wk (Wt C t is Em) wk.items l S)):∃W:Nat->Nat->L2.St->Hp->Prop,(∃m,W 0 m σ H)/\ya J (tG3 X t) (tB3 X xw (evt C is)) te W QQ:=by
 refine⟨λn m σ' H'=>m=wk.items.length-n/\n<=wk.items.length/\∃ρ' l' S',Fut ρ1 H1 ρ' H'/\P ρ'/\St3 X.K ρ' S' H'/\LocR ρ' H' l' σ'/\End X.K xw LcR ρ' H' QQ (Ev.YT wk (Wt C t is Em) (wk.items.drop n) l' S'),
  ⟨wk.items.length,rfl,Nat.zero_le _,ρ,l,S,f,hp,st,lr,by rw[List.drop_zero];exact h⟩,?_⟩
 rintro n m σ' H' ⟨rfl,hn,ρ',l',S',f',hp',st',lr',e'⟩
 by_cases hlt:n<wk.items.length
 ·right
  have hd:wk.items.drop n=wk.items[n]::wk.items.drop (n+1):=List.drop_eq_getElem_cons hlt;rw[hd] at e';have e2:End X.K xw LcR ρ' H' QQ (if wk.still S'=true then (Wt C t is Em wk.items[n] l' S').bind λσ S=>Ev.YT wk (Wt C t is Em) (wk.items.drop (n+1)) σ S else .no):=e'
  obtain⟨hst,e2⟩:=End.guard e2;obtain⟨go,yl⟩:=r1.go n ρ' S' H' f' st' hst hlt;refine⟨go,λx H3 y=>?_⟩
  obtain⟨f3,st3,rp⟩:=yl x H3 y;have rx:=rp _ (List.getElem?_eq_getElem hlt);have e3:=End.mono f3 e2;have ff:=f'.trans f3;have p3:=hP _ _ _ _ f3 hp';cases ha:Ev.assign t wk.items[n] S' l' with
  |none=>
   have z:Wt C t is Em wk.items[n] l' S'=.no:=by unfold Wt;rw[ha];rfl
   rw[z] at e3;exact False.elim e3
  |some l2=>
   have z:Wt C t is Em wk.items[n] l' S'=(evt C is l2 S').bind λb S2=>if b then Em l2 S2 else .ok l2 S2:=by unfold Wt;rw[ha];rfl
   rw[z] at e3;simp only[XS] at e3;refine⟨ρ',l',S',wk.items[n],l2,st3,lr'.mono f3,rx,ha,λσ2 lr2=>⟨ρ',l2,S',st3,lr2,e3.bind λok S4 ρ4 H4 ok' f4 st4 ro h4=>?_⟩⟩
   have eo:ok=ok':=ro;subst eo;have p4:=hP _ _ _ _ f4 p3;cases ok with
   |false=>
    rw[if_neg Bool.false_ne_true];exact⟨wk.items.length-(n+1),by omega,rfl,hlt,ρ4,l2,S4,ff.trans f4,p4,st4,lr2.mono f4,h4⟩
   |true=>
    rw[if_pos rfl];have h5:End X.K xw LcR ρ4 H4 QQ ((Em l2 S4).bind λa S=>Ev.YT wk (Wt C t is Em) (wk.items.drop (n+1)) a S):=h4
    refine hEm ρ4 H4 l2 σ2 S4 _ p4 st4 (lr2.mono f4) (h5.bind λl3 S5 ρ5 H5 σ3 f5 st5 r5 h6=>?_)
    exact⟨wk.items.length-(n+1),by omega,rfl,hlt,ρ5,l3,S5,(ff.trans f4).trans f5,hP _ _ _ _ f5 p4,st5,r5,h6⟩
 ·left
  have en:n=wk.items.length:=by omega
  subst en;rw[List.drop_length] at e';have e2:End X.K xw LcR ρ' H' QQ (if wk.still S'=true then .ok l' S' else .no):=e'
  obtain⟨hst,e2⟩:=End.guard e2;exact⟨r1.stop ρ' S' H' f' st' hst,End.ok (rep:=LcR) e2 st' lr'⟩
noncomputable def emE (C:Calls) (n:Nat) (ie:E) (l:Lc) (S:Store):R Lc:=(ev C ie l S).bind λy S=>(Ev.push n y S).bind λ_ S=>.ok l S
theorem jJ {ie:E}{n:Nat}{D:Addr}(ρ:List Addr) (H:Hp) (l:Lc) (σ:L2.St) (S:Store) (Q:L2.St->Hp->Prop) (hp:ρ[n]? = some D) (st:St3 X.K ρ S H) (lr:LocR ρ H l σ) (h:End X.K xw LcR ρ H Q (emE C n ie l S)):xt (tE X xw (ev C ie)) D σ H Q:=by
 refine⟨ρ,l,S,st,lr,End.bind (show End X.K xw LcR ρ H Q ((ev C ie l S).bind _) from h) λy S5 ρ5 H5 v f5 st5 r5 h6=>?_⟩
 have p5:ρ5[n]? = some D:=f5.at hp;cases q:Ev.Zv S5 n with
 |none=>
  have z:Ev.push n y S5=.no:=by unfold Ev.push;rw[q]
  rw[z] at h6;exact False.elim h6
 |some zs=>
  have z:Ev.push n y S5=if zs.length<Ev.lim then .ok () (S5.set n (.lst (zs++[y]))) else .no:=by unfold Ev.push;rw[q]
  rw[z] at h6;by_cases hl:zs.length<Ev.lim
  ·rw[if_pos hl] at h6
   obtain⟨sn,a,xs,pa,hx,rz⟩:=st5.lst q;rw[p5] at pa;cases pa;exact⟨xs,hx,by rw[rz.length,<-V0];exact hl,(show End X.K xw LcR ρ5 H5 Q (.ok l (S5.set n (.lst (zs++[y])))) from h6) ρ5 _ σ (XR hx) (st5.wr p5 sn hx (rz.append (Reps.cons r5 Reps.nil))) ((lr.mono f5).mono (XR hx))⟩
  ·rw[if_neg hl] at h6
   exact False.elim h6
theorem xB {is js:List E}{ie:E}{cap:List Nat}{nl:Nat}{w w2:Ev.W}{t u:List Nat}{σ:L2.St}{H:Hp}{Q:VK}(hyp:tE X xw (ev C (.comp2 cap nl t w is u w2 js ie)) σ H Q) :
  G0 (tW3 X xw (evw C w)) (tG3 X t) (tB3 X xw (evt C is)) (λD=>JG (tW3 X xw (evw C w2)) (tG3 X u) (tB3 X xw (evt C js)) (xt (tE X xw (ev C ie)) D)) cap nl σ H Q:=by
 obtain⟨ρ,l,S,st,lr,h⟩:=hyp;rw[ev] at h;refine⟨ρ,l,S,st,lr,h.bind λwk S1 ρ1 H1 J f1 st1 r1 h1=>λD hD=>?_⟩
 have st2:St3 X.K (ρ1++[D]) (S1++[.lst []]) (upd H1 D (.lst [])):=st1.new hD ⟨[],YH,Reps.nil⟩;have f2:Fut ρ1 H1 (ρ1++[D]) (upd H1 D (.lst [])):=Vm hD;have pD:(ρ1++[D])[S1.length]? = some D:=by rw[<-st1.len];simp
 let Em:Lc->Store->R Lc:=λl S2=>(evw C w2 l S2).bind λwk2 S2=>Ev.YT wk2 (Wt C u js (emE C S1.length ie)) wk2.items l S2
 have h2:End X.K xw Rep ρ1 H1 Q ((Ev.YT wk (Wt C t is Em) wk.items (Ev.caught cap nl l) (S1++[.lst []])).bind λ_ S2=>.ok (.loc S1.length) S2):=h1
 refine Gq r1 (λρ=>ρ[S1.length]? = some D) (λρ ρ' H H' f hp=>f.at hp) (λρ H l σ S Q hp st lr h=>?_) (Em:=Em) f2 pD st2 (((lr.mono f1).mono f2).caught cap nl) ((End.mono f2 h2).bind λl3 S3 ρ3 H3 σ3 f3 st3 r3 h3=>End.ok (rep:=Rep) h3 st3 (Uv (f3.at pD)))
 exact⟨ρ,l,S,st,lr,End.bind (show End X.K xw LcR ρ H Q ((evw C w2 l S).bind λwk2 S2=>Ev.YT wk2 (Wt C u js (emE C S1.length ie)) wk2.items l S2) from h) λwk2 S5 ρ5 H5 J5 f5 st5 r5 h5=>
  Gq r5 (λρ=>ρ[S1.length]? = some D) (λρ ρ' H H' f hp=>f.at hp) (λρ H l σ S Q hp st lr h=>jJ ρ H l σ S Q hp st lr h) (Fut.refl _ _) (f5.at hp) st5 (lr.mono f5) h5⟩
theorem V5 {elt t1 i1 t2 i2:Expr}{f1' f2':List Expr}{is js:List E}{ie:E}{scope:Scope}{N:List Str}{cap:List Nat}{nl:Nat}{w w2:Ev.W}{t u:List Nat}{n:Nat}{y:Str}{spos py:Pos}(hc:X.calm=true) (hN:X.N.Nodup) (CSc:CompScope X.env.scope X.N scope N cap nl) (hi:CW X xw C t1 i1 w)
  (hb:∀cl s H fp,CG (cxC X N scope cl s H fp) t1 t/\CTs (cxC X N scope cl s H fp) xw C f1' is/\CW (cxC X N scope cl s H fp) xw C t2 i2 w2/\CG (cxC X N scope cl s H fp) t2 u/\CTs (cxC X N scope cl s H fp) xw C f2' js/\CE (cxC X N scope cl s H fp) xw C elt ie)
  (hsw:swapsWith (.ListComp elt [⟨t1,i1,f1',0⟩,⟨t2,i2,f2',0⟩] scope pos) (some (.Name y py)) spos.line X.env=pure true:=by rfl)
  (hy:X.N[n]? = some y:=by rfl) (hx:L2.Loc X.env.scope y:=by first | exact Or.inl rfl | exact Or.inr rfl) (hf:X.fn y=true\/X.env.scope.names.lookup y=some .local:=by first | exact .inl rfl | exact .inr rfl)
  (hs:∀x,foldedSetIterable i1 X.env x=pure x:=by intro _;rfl) (hs2:∀env x,foldedSetIterable i2 env x=pure x:=by intro _ _;rfl) :
  CS X xw C (.Assign [.Name y py] (.ListComp elt [⟨t1,i1,f1',0⟩,⟨t2,i2,f2',0⟩] scope pos) spos) (.asg [n] (.comp2 cap nl t w is u w2 js ie)):=
 PS.imp (yG (wj:=tW3 X xw (evw C w2)) (g1:=tG3 X t) (tt1:=tB3 X xw (evt C is)) (g2:=tG3 X u) (tt2:=tB3 X xw (evt C js)) (te:=tE X xw (ev C ie)) hc hN CSc hi (λcl s H fp=>hb cl s H fp) hsw hy hx hf hs hs2) λD σ H ⟨ρ,l,S,st,lr,h⟩=>
  xB ⟨ρ,l,S,st,lr,ZQ.bind (show ZQ X.K xw ρ H D ((ev C (.comp2 cap nl t w is u w2 js ie) l S).bind λx S=>(Ev.ob (Ev.assign [n] x S l) S).bind λσ S=>.ok (.nx σ) S) from h) λx S1 ρ1 H1 v f1 st1 r1 h1=>by
   obtain⟨l',hl',h2⟩:=ZQ.ob h1;have e:l.set n (some x)=l':=Option.some.inj hl';exact ZQ.nx h2 st1 (by rw[<-e];exact (lr.mono f1).set n r1)⟩
end
end Sd
namespace Sd
open PySem PySem.Spec PyProof.Rows L2
open Ev (D Ob Store Lc R E Sm Calls Walk Fl Fn Bop Cop Ty Bf Mf ev evs evo evt evw tst run runs)
theorem LocR.start {ρ:List Addr}{H:Hp}{ds:List D}{vs:List V}(r:Reps ρ H ds vs) (N:List Str) (n:Nat) (hn:n=N.length):LocR ρ H (Ev.start n ds) (L2.start N vs):=by
 subst hn;have hl:=r.length;refine⟨by unfold Ev.start L2.start;simp[hl],λi d e=>?_⟩
 unfold Ev.start at e;by_cases hi:i<ds.length
 ·rw[List.getElem?_append_left (by simpa using hi),List.getElem?_map] at e
  cases q:ds[i]? with
  |none=>rw[q] at e;cases e
  |some d'=>
   rw[q] at e;cases e;obtain⟨v,hv,r'⟩:=r.get q;refine⟨v,?_,r'⟩;unfold L2.start;rw[List.getElem?_append_left (by simp;omega),List.getElem?_map,hv]
   rfl
 ·rw[List.getElem?_append_right (by simp;omega),List.getElem?_replicate] at e
  split at e <;> cases e
section
variable {P:Program}{w:World}{K:PySem.W.Frag}{mg:Str->Option Value}{base:Heap}
theorem ZC {F:List Fn}{n d:Nat}{fn:Fn}{x qual:Str}{st:Stmt}{f:Addr}{fd:FuncData}{N ps:List Str}{k:Nat}(hF:F[n]? = some fn) (hns:fn.ns=N.length) (hps:fn.ps=ps.length) (Fu:Fun K x qual st f fd) (S:FnScope N ps (Zl st))
  (hb:∀(cdv:Value) (A:Around) (outer:List Env) (s:Shared) (H:Hp) (E:XK),Room k (A.deeper (envOfC qual (Zl st) s.heap.objs.size f cdv))->
   CSs (GQ CX0 P w K mg base N qual (Zl st) f cdv A outer s H E).nox (λ_ _=>False) (Ev.calls F d) (Yp st) fn.body) :
  FnOk P w K mg base CX0 (k+1) f fd ps (spF K (Ev.calls F (d+1)) n):=by
 have eq:∀ds S,Ev.calls F (d+1) n ds S=if ds.length=fn.ps then (runs (Ev.calls F d) fn.body (Ev.start fn.ns ds) S).bind λf S=>match f with
    |.ret x=>.ok x S
    |.nx _=>.ok .non S
    |_=>.no
   else .no:=λds S=>by
  rw[Ev.calls,hF]
  all_goals rfl
 refine Fu.ok S (λvs H Q E ⟨ρ,ds,S,st,r,h⟩=>?_) λcdv A outer s H vs Q E hr ⟨ρ,ds,S',st,r,h⟩=>⟨_,hb cdv A outer s H E hr,ρ,Ev.start fn.ns ds,S',st,LocR.start r N fn.ns hns,?_⟩
 ·rw[eq] at h
  obtain⟨hl,_⟩:=End.guard h;rw[r.length,hl,hps]
 ·rw[eq] at h
  obtain⟨hl,h⟩:=End.guard h;cases q:runs (Ev.calls F d) fn.body (Ev.start fn.ns ds) S' with
  |no=>rw[q] at h;exact h
  |ex c S2=>rw[q] at h;exact h
  |ok fl S2=>
   rw[q] at h;cases fl with
   |ret x=>exact λρ' H' v g st r=>h ρ' H' v g st r
   |nx l=>exact λρ' H' σ' g st lr=>h ρ' H' .non g st Ut
   |brk l=>exact False.elim h
   |cnt l=>exact False.elim h
theorem zV {F:List Fn}{n k:Nat}{f:Addr}{fd:FuncData}{ps:List Str}:FnOk P w K mg base CX0 k f fd ps (spF K (Ev.calls F 0) n):=
 ⟨λvs H Q E ⟨ρ,ds,S,st,r,h⟩=>False.elim h,λA outer s H args us vs Q E hr e0 hb r ⟨ρ,ds,S,st,r',h⟩=>False.elim h⟩
end
end Sd
namespace Sd
open PySem PySem.Spec PyProof.Rows L2
open Ev (D Ob Store Lc R E Sm Calls Walk Fl Fn Bop Cop Ty Bf Mf ev evs evo evt evw tst run runs)
end Sd
namespace Sd
open PySem PySem.Spec PyProof.Rows L2
open Ev (D Ob Store Lc R E Sm Calls Walk Fl Fn Bop Cop Ty Bf Mf ev evs evo evt evw tst run runs)
section
variable {es:List Expr}{env:Env}
theorem Zt {a b c}:starEach (.Constant a b c::es) env=(false,eval (.Constant a b c) env)::starEach es env:=rfl
theorem Zb {a b}:starEach (.Name a b::es) env=(false,eval (.Name a b) env)::starEach es env:=rfl
theorem Z4 {a b c}:starEach (.Tuple a b c::es) env=(false,eval (.Tuple a b c) env)::starEach es env:=rfl
theorem Wf {a b c d}:starEach (.BinOp a b c d::es) env=(false,eval (.BinOp a b c d) env)::starEach es env:=rfl
theorem z7 {a b c}:starEach (.UnaryOp a b c::es) env=(false,eval (.UnaryOp a b c) env)::starEach es env:=rfl
theorem wl {a b c d}:starEach (.Compare a b c d::es) env=(false,eval (.Compare a b c d) env)::starEach es env:=rfl
theorem WF {a b c}:starEach (.Subscript a b c::es) env=(false,eval (.Subscript a b c) env)::starEach es env:=rfl
theorem ZZ {a b c d}:starEach (.Call a b c d::es) env=(false,eval (.Call a b c d) env)::starEach es env:=rfl
theorem Yv {a b c d}:starEach (.ListComp a b c d::es) env=(false,eval (.ListComp a b c d) env)::starEach es env:=rfl
end
theorem hu7 {k:Nat}{A:Around}(hr:Room k A):A.units+7<cLine:=Nat.lt_of_le_of_lt (by omega) hr.un
theorem xD {K:PySem.W.Frag}{C:Calls}{n:Nat}{H:Hp}{a:Addr}{ns:List Int}(hO:Only H) (hS:SqL K H a (ns.map V.int)) (h:∃S',C n [.loc 0] [.scr ns]=.ok (.bl true) S'):spF K C n [.ref a] H (λv _=>v=.bl true) λ_ _ _=>False:=by
 obtain⟨S',e⟩:=h;refine⟨[a],[.loc 0],[.scr ns],⟨rfl,λm k b h1 h2 hm=>?_,λm o b h1 h2=>?_⟩,Reps.cons (Uv rfl) Reps.nil,?_⟩
 ·have l1:=(List.getElem?_eq_some_iff.mp h1).1
  have l2:=(List.getElem?_eq_some_iff.mp h2).1;simp at l1 l2;omega
 ·have l1:=(List.getElem?_eq_some_iff.mp h1).1
  have e0:m=0:=by simp at l1;exact l1
  subst e0;cases h1;cases h2;show Scr K H a ns;rcases hS with (hS | hS) | hS
  ·rcases hO a with z | ⟨o,xs,z⟩
   ·rw[z] at hS;cases hS
   ·rw[z] at hS;cases hS
  ·exact .inl hS
  ·exact .inr hS
 ·rw[e]
  exact λρ' H' v _ _ r=>r.bl'
end Sd
namespace Sd
open PySem PySem.Spec PyProof.Rows L2
open Ev (D Ob Store Lc R E Sm Calls Walk Fl Fn Bop Cop Ty Bf Mf ev evs evo evt evw tst run runs)
section
variable {X:Cx}{xw:Nat->Hp->Prop}{C:Calls}{e a b c tg it:Expr}{i j k:E}{pos p p' p2 p3:Pos}{s0:Stmt}{ss:List Stmt}{m0:Sm}{ms ms':List Sm}
theorem WA {n:Nat}:CS X (λ_ _=>False) C s0 (.raise n []):=λpins s σ H D I ⟨ρ,l,S,st,lr,h⟩=>
 False.elim ((show ZQ X.K (λ_ _=>False) ρ H D (.ex n S) from h) ρ H (Fut.refl ρ H) st)
structure AugOk (X:Cx) (op:Operator) (o:Bop):Prop where
 h:∃t:TIp,PIp X op t/\∀(xw:Nat->Hp->Prop) ρ S H n m Q,St3 X.K ρ S H->End X.K xw Rep ρ H Q (Ev.binop o (.int n) (.int m) S)->t (.int n) (.int m) H Q
theorem xN:AugOk X .Add .add:=⟨_,vX,λxw ρ S H n m Q st h=>⟨n,m,rfl,rfl,End.ok h st (ZF _)⟩⟩
theorem zg {op:Operator}{o:Bop}{n:Nat}{x:Str}(ho:AugOk X op o) (hN:X.N.Nodup) (he:CE X xw C e i) (hi:X.N[n]? = some x:=by rfl) (hx:L2.Loc X.env.scope x:=by first | exact Or.inl rfl | exact Or.inr rfl) (hf:X.fn x=true\/X.env.scope.names.lookup x=some .local:=by first | exact .inl rfl | exact .inr rfl) :
  CS X xw C (.AugAssign (.Name x p) op e pos) (.aug n o i):=by
 obtain⟨t,ht,hq⟩:=ho.h;refine PS.imp (jd hN hi hx he ht hf) λD σ H ⟨ρ,l,S,st,lr,h⟩=>?_
 obtain⟨d,hd,h1⟩:=ZQ.ob (show ZQ X.K xw ρ H D ((Ev.ob (l[n]?).join S).bind λx S=>(ev C i l S).bind λy S=>(Ev.augop o x y S).bind λz S=>.ok (.nx (l.set n (some z))) S) from h)
 have hd':l[n]? = some (some d):=by
  cases z:l[n]? with
  |none=>rw[z] at hd;cases hd
  |some oo=>rw[z] at hd;cases oo with
   |none=>cases hd
   |some w=>cases hd;rfl
 obtain⟨v,hv,rv⟩:=lr.val n d hd';refine⟨v,hv,ρ,l,S,st,lr,h1.bind λy S1 ρ1 H1 u f1 st1 r1 h2=>?_⟩
 cases d with
 |int m=>cases y with
  |int m'=>
   rw[rv.int',r1.int'];refine hq xw ρ1 S1 H1 m m' _ st1 ?_;exact ZQ.bind (show ZQ X.K xw ρ1 H1 D ((Ev.binop o (.int m) (.int m') S1).bind λz S=>.ok (.nx (l.set n (some z))) S) from h2) λz S2 ρ2 H2 w f2 st2 r2 h3=>ZQ.nx h3 st2 (((lr.mono f1).mono f2).set n r2)
  |_=>exact False.elim h2
 |_=>exact False.elim h2
theorem UF {body:List Stmt}(hp:PassesOwn (model X.prog X.w) X.A X.env X.xe) (hc:CT X xw C c k) (hb:CSs X xw C body ms):CS X xw C (.While c body [] pos) (.whl k ms):=PS.imp (xH hp hc hb) λD σ H ⟨ρ,l,S,st,lr,h⟩=>by
 refine⟨λm σ' H'=>∃ρ' l' S',St3 X.K ρ' S' H'/\LocR ρ' H' l' σ'/\ZQ X.K xw ρ' H' D (Ev.XD (tst C k) (runs C ms) m l' S'),⟨Ev.Vv,ρ,l,S,st,lr,h⟩,?_⟩
 rintro m σ' H' ⟨ρ',l',S',st',lr',e'⟩
 cases m with
 |zero=>exact False.elim e'
 |succ m=>
  refine⟨ρ',l',S',st',lr',ZQ.bind (show ZQ X.K xw ρ' H' D ((tst C k l' S').bind λb S=>if b then (match runs C ms l' S with
   |.ok (.nx σ') S'=>Ev.XD (tst C k) (runs C ms) m σ' S'
   |.ok (.cnt σ') S'=>Ev.XD (tst C k) (runs C ms) m σ' S'
   |.ok (.brk σ') S'=>.ok (.nx σ') S'
   |.ok (.ret d) S'=>.ok (.ret d) S'
   |.ex c S'=>.ex c S'
   |.no=>.no) else .ok (.nx l') S) from e') λb S1 ρ1 H1 b' f1 st1 r1 h1=>?_⟩
  have eb:b=b':=r1;subst eb;cases b with
  |false=>
   rw[if_neg Bool.false_ne_true] at h1 ⊢;exact ZQ.nx h1 st1 (lr'.mono f1)
  |true=>
   rw[if_pos rfl] at h1 ⊢;refine⟨λσ2 H2=>∃ρ2 l2 S2,St3 X.K ρ2 S2 H2/\LocR ρ2 H2 l2 σ2/\ZQ X.K xw ρ2 H2 D (Ev.XD (tst C k) (runs C ms) m l2 S2),λσ2 H2 w=>⟨m,Nat.lt_succ_self m,w⟩,ρ1,l',S1,st1,lr'.mono f1,?_⟩
   cases q:runs C ms l' S1 with
   |no=>rw[q] at h1;exact h1
   |ex c S2=>rw[q] at h1;exact h1
   |ok fl S2=>
    rw[q] at h1;cases fl with
    |nx l3=>exact λρ4 H4 σ4 f4 st4 lr4=>⟨ρ4,l3,S2,st4,lr4,ZQ.mono f4 h1⟩
    |cnt l3=>exact λρ4 H4 σ4 f4 st4 lr4=>⟨ρ4,l3,S2,st4,lr4,ZQ.mono f4 h1⟩
    |brk l3=>exact h1
    |ret d=>exact h1
end
end Sd
namespace Sd
open PySem PySem.Spec PyProof.Rows L2
noncomputable def Src (b:Bool) (h:Heap) (it l:Addr) (k:Nat):Prop:=match b with
 |true=>h.IsListIter it l k
 |false=>h.IsTupleIter it l k
noncomputable def Xo (b:Bool) (h:Heap) (l:Addr) (xs:Array Value):Prop:=match b with
 |true=>h.IsList l xs
 |false=>h.IsTuple l xs
theorem Src.ext {b:Bool}{h h':Heap}{it l c:Addr}{k:Nat}(x:Src b h it l k) (e:Heap.ExtBut c h h') (n:it≠c):Src b h' it l k:=by
 cases b
 ·exact Heap.IsTupleIter.extBut x e n
 ·exact Heap.IsListIter.extBut x e n
theorem Src.keep {b:Bool}{h h':Heap}{it l:Addr}{k:Nat}(x:Src b h it l k) (e:∀o,h.get? it=some o->h'.get? it=some o):Src b h' it l k:=by
 cases b
 ·obtain⟨o,ho,r⟩:=x;exact⟨o,e o ho,r⟩
 ·obtain⟨o,ho,r⟩:=x;exact⟨o,e o ho,r⟩
theorem Src.obj {b:Bool}{h:Heap}{it l:Addr}{k:Nat}(x:Src b h it l k):∃o,h.get? it=some o/\∀v,o.data≠.cell v:=by
 cases b
 ·obtain⟨o,ho,_,d⟩:=x;exact⟨o,ho,λv z=>by rw[d] at z;cases z⟩
 ·obtain⟨o,ho,_,d⟩:=x;exact⟨o,ho,λv z=>by rw[d] at z;cases z⟩
theorem Xo.keep {b:Bool}{h h':Heap}{l:Addr}{xs:Array Value}(x:Xo b h l xs) (e:∀o,h.get? l=some o->h'.get? l=some o):Xo b h' l xs:=by
 cases b
 ·obtain⟨o,ho,r⟩:=x;exact⟨o,e o ho,r⟩
 ·obtain⟨o,ho,r⟩:=x;exact⟨o,e o ho,r⟩
section
variable {prog:Program}{w:World}{A:Around}{E:Value->Shared->Prop}{s:Shared}
theorem we {it t:Addr}{i:Nat}{items:Array Value}{x:Value}{Q:Value->Shared->Prop}(hit:s.heap.IsTupleIter it t i) (ht:s.heap.IsTuple t items) (hx:items[i]? = some x)
  (hQ:∀h',h'.IsTupleIter it t (i+1)->Heap.SameBut it s.heap h'->Q x { s with heap:=h' }):wpAny (model prog w) A (Builtin.SmallTypes.nextOf (.ref it)) Q E s:=by
 obtain⟨o,ho,hc,hd⟩:=id hit;obtain⟨ol,hol,_,nl,hdl⟩:=ht;unfold Builtin.SmallTypes.nextOf;refine wpAny_bind (wpAny_callSpecial?_slot (name:=Str.ofString "__next__") hit.typeIs F.slot_tuple_iterator_next (wpAny_call_entry F.slot_tuple_iterator_next hit.typeIs F.entry_tuple_iterator_next ?_ (F.args_tuple_iterator_next_1 _)));show wpAny _ _ (field (.ref it) 0 >>= _) _ _ s;refine wpAny_bind (wpAny_field ho hd (x:=.ref t) rfl ?_);show wpAny _ _ (if (Value.ref t == Value.none)=true then _ else _) _ _ s
 rw[if_neg (show ¬((Value.ref t == Value.none)=true) by exact Bool.false_ne_true)];show wpAny _ _ (field (.ref it) 1 >>= _) _ _ s;refine wpAny_bind (wpAny_field ho hd (x:=.int i 0) rfl ?_)
 show wpAny _ _ (seqItems? (.ref t) >>= _) _ _ s;refine wpAny_bind (wpAny_seqItems hol hdl ?_);simp only[Int.toNat_natCast,hx];refine wpAny_bind (wpAny_setField ho hd (by simp) (wpAny_pure ⟨x,rfl,wpAny_pure (hQ _ ⟨_,Heap.get?_update_self _ ho (Obj.isFreed_of_fields (Obj.data_mapFields hd _)),(Obj.cls_mapFields ..).trans hc,?_⟩ (Heap.SameBut.update ..))⟩))
 rw[Obj.data_mapFields hd];simp[rawInt]
theorem JB {it t:Addr}{i:Nat}{items:Array Value}{Q:Value->Shared->Prop}(hh:A.handled=none) (hit:s.heap.IsTupleIter it t i) (ht:s.heap.IsTuple t items) (hx:items[i]? = none)
  (hE:∀h' e,Heap.ExtBut it s.heap h'->(∃o,h'.get? e=some o/\o.cls=.type "StopIteration")->E (.ref e) { s with heap:=h' }):wpAny (model prog w) A (Builtin.SmallTypes.nextOf (.ref it)) Q E s:=by
 obtain⟨o,ho,hc,hd⟩:=id hit;obtain⟨ol,hol,_,nl,hdl⟩:=ht;unfold Builtin.SmallTypes.nextOf;refine wpAny_bind (wpAny_callSpecial?_slot (name:=Str.ofString "__next__") hit.typeIs F.slot_tuple_iterator_next (wpAny_call_entry F.slot_tuple_iterator_next hit.typeIs F.entry_tuple_iterator_next ?_ (F.args_tuple_iterator_next_1 _)));show wpAny _ _ (field (.ref it) 0 >>= _) _ _ s;refine wpAny_bind (wpAny_field ho hd (x:=.ref t) rfl ?_);show wpAny _ _ (if (Value.ref t == Value.none)=true then _ else _) _ _ s
 rw[if_neg (show ¬((Value.ref t == Value.none)=true) by exact Bool.false_ne_true)];show wpAny _ _ (field (.ref it) 1 >>= _) _ _ s;refine wpAny_bind (wpAny_field ho hd (x:=.int i 0) rfl ?_)
 show wpAny _ _ (seqItems? (.ref t) >>= _) _ _ s;refine wpAny_bind (wpAny_seqItems hol hdl ?_);simp only[Int.toNat_natCast,hx];refine wpAny_bind (wpAny_rule (wpAny_bind (wpAny_setField ho hd (by simp) ?_)));show wpAny _ _ (newExc (.type "StopIteration") [] >>= _) _ _ _
 refine wpAny_bind ?_;simp only[newExc,newTuple];refine wpAny_bind (wpAny_newObj_type ?_ (by size_fits))
 refine wpAny_bind (m:=firstArgMember _ _) (wpAny_of_eq (a:=Value.none) (by first | rfl | (simp only[firstArgMember];rfl)) (wpAny_newObj_type ?_ (by size_fits)))
 simp only[raiseNew];refine wpAny_bind (wpAny_handled ?_);first | rw[show A.in1.handled=none from hh] | rw[hh]
 exact wpAny_bind (wpAny_pure (wpAny_throw (hE _ _ (((Heap.SameBut.update ..).extBut.push _).push _) ⟨_,Heap.get?_push_size _ rfl,rfl⟩)))
theorem VC {b:Bool}{it l:Addr}{k:Nat}{xs:Array Value}{x:Value}{Q:Value->Shared->Prop}(hit:Src b s.heap it l k) (hl:Xo b s.heap l xs) (hx:xs[k]? = some x)
  (hQ:∀h',Src b h' it l (k+1)->Heap.SameBut it s.heap h'->Q x { s with heap:=h' }):wpAny (model prog w) A (Builtin.SmallTypes.nextOf (.ref it)) Q E s:=by
 cases b
 ·exact we hit hl hx hQ
 ·exact wpAny_nextOf_list_item hit hl hx hQ
theorem JE {b:Bool}{it l:Addr}{k:Nat}{xs:Array Value}{Q:Value->Shared->Prop}(hh:A.handled=none) (hit:Src b s.heap it l k) (hl:Xo b s.heap l xs) (hx:xs[k]? = none)
  (hE:∀h' e,Heap.ExtBut it s.heap h'->(∃o,h'.get? e=some o/\o.cls=.type "StopIteration")->E (.ref e) { s with heap:=h' }):wpAny (model prog w) A (Builtin.SmallTypes.nextOf (.ref it)) Q E s:=by
 cases b
 ·exact JB hh hit hl hx hE
 ·exact wpAny_nextOf_list_end hh hit hl hx hE
noncomputable def Xa (b:Bool) (l:Addr):Obj:={ cls:=.type (if b then "list_iterator" else "tuple_iterator"),data:=.fields #[.ref l,.int 0 0] }
theorem GC {b:Bool}{l:Addr}{xs:Array Value}{Q:Value->Shared->Prop}(hl:Xo b s.heap l xs) (h:Q (.ref s.heap.objs.size) { s with heap:=s.heap.push (Xa b l) }):wpAny (model prog w) A (pyIter (.ref l)) Q E s:=by
 cases b
 ·exact wpAny_pyIter_tuple hl h
 ·exact wpAny_pyIter_list hl h
structure ZipSt (b1 b2:Bool) (z TI TO i1 i2 l1 l2:Addr) (k:Nat) (f0:Value) (h:Heap):Prop where
 zp:IsZip h z TI TO f0
 ti:IsPair h TI (.ref i1) (.ref i2)
 to:∃a b,IsPair h TO a b
 s1:Src b1 h i1 l1 k
 s2:Src b2 h i2 l2 k
theorem wW {b1 b2:Bool}{z TI TO i1 i2 l1 l2:Addr}{k:Nat}{xs ys:Array Value}{x y:Value}{Q:Value->Shared->Prop}(D:ZipApart z TI TO i1 i2 l1 l2) (Z:ZipSt b1 b2 z TI TO i1 i2 l1 l2 k .none s.heap) (hl1:Xo b1 s.heap l1 xs) (hl2:Xo b2 s.heap l2 ys) (hx:xs[k]? = some x) (hy:ys[k]? = some y)
  (hQ:∀h',ZipSt b1 b2 z TI TO i1 i2 l1 l2 (k+1) (rawInt s.heap.objs.size) h'->IsPair h' s.heap.objs.size x y->(∀c o,c∉[z,TO,i1,i2]->s.heap.get? c=some o->h'.get? c=some o)->Q (.ref s.heap.objs.size) { s with heap:=h' }) :
  wpAny (model prog w) A (Builtin.«zip.__next__» ⟨[.ref z],[]⟩) (λfin s'=>∃v,fin=.done (.ret v)/\Q v s') E s:=by
 obtain⟨hz,hTI,⟨a,b,hTO⟩,h1,h2⟩:=Z;show wpAny _ _ (field (.ref z) 2 >>= _) _ _ _;refine wpAny_bind (wpAny_field hz rfl (x:=.bool false) rfl ?_);show wpAny _ _ (field (.ref z) 3 >>= _) _ _ _;refine wpAny_bind (wpAny_field hz rfl (x:=.ref TI) rfl (wpAny_bind (wpAny_seqItems hTI rfl ?_)));show wpAny _ _ (Builtin.SmallTypes.ownedTupleIsFree (.ref z) >>= _) _ _ _;refine wpAny_bind ?_;unfold Builtin.SmallTypes.ownedTupleIsFree;refine wpAny_bind (wpAny_field hz rfl (x:=.none) rfl (wpAny_pure ?_));simp only[if_true];refine wpAny_bind (wpAny_rule (wpAny_bind (wpAny_field hz rfl (x:=.ref TO) rfl (wpAny_bind (wpAny_setField_rec hz (by simp) λh₁ hz₁ hs₁=>?_)))))
 replace hz₁:IsZip h₁ z TI TO .ellipsis:=by exact hz₁
 refine wpAny_bind ?_;simp only[List.zipIdx_cons,List.zipIdx_nil,List.forIn_cons,List.forIn_nil];refine wpAny_bind (wpAny_bind (wpAny_onRaise ?_));show wpAny _ _ (Builtin.SmallTypes.nextOf (.ref i1) >>= _) _ _ _;refine wpAny_bind (VC (h1.ext hs₁.extBut D.i1z) (hl1.keep λo e=>hs₁.extBut _ o D.l1z e) hx λh₂ h1₂ hs₂=>wpAny_pure ?_)
 have hTO₂:IsPair h₂ TO a b:=by exact hs₂.extBut _ _ D.TOi1 (hs₁.extBut _ _ D.TOz hTO)
 refine wpAny_bind (wpAny_seqItems hTO₂ rfl (wpAny_bind (wpAny_updateSeq_pair hTO₂ λh₃ hTO₃ hs₃=>?_)))
 replace hTO₃:IsPair h₃ TO x b:=by exact hTO₃
 refine wpAny_bind (wpAny_letGo (wpAny_pure (wpAny_bind (wpAny_bind (wpAny_onRaise ?_)))));show wpAny _ _ (Builtin.SmallTypes.nextOf (.ref i2) >>= _) _ _ _;have to3:∀c o,c≠z->c≠TO->c≠i1->s.heap.get? c=some o->h₃.get? c=some o:=λc o c1 c2 c3 e=>hs₃.extBut _ _ c2 (hs₂.extBut _ _ c3 (hs₁.extBut _ _ c1 e))
 refine wpAny_bind (VC (h2.keep λo e=>to3 _ o D.i2z D.TOi2.symm D.i12.symm e) (hl2.keep λo e=>to3 _ o D.l2z D.l2TO D.l2i1 e) hy λh₄ h2₄ hs₄=>wpAny_pure ?_)
 have hTO₄:IsPair h₄ TO x b:=by exact hs₄.extBut _ _ D.TOi2 hTO₃
 refine wpAny_bind (wpAny_seqItems hTO₄ rfl (wpAny_bind (wpAny_updateSeq_pair hTO₄ λh₅ hTO₅ hs₅=>?_)))
 replace hTO₅:IsPair h₅ TO x y:=by exact hTO₅
 refine wpAny_bind (wpAny_letGo (wpAny_pure (wpAny_pure (wpAny_bind (wpAny_seqItems hTO₅ rfl (wpAny_bind (wpAny_newTuple ?_)))))));have hsz:h₅.objs.size=s.heap.objs.size:=by rw[hs₅.1,hs₄.1,hs₃.1,hs₂.1,hs₁.1]
 have to5:∀c o,c≠z->c≠TO->c≠i1->c≠i2->s.heap.get? c=some o->h₅.get? c=some o:=λc o c1 c2 c3 c4 e=>hs₅.extBut _ _ c2 (hs₄.extBut _ _ c4 (to3 c o c1 c2 c3 e))
 have hz₅:IsZip h₅ z TI TO .ellipsis:=by exact hs₅.extBut _ _ D.TOz.symm (hs₄.extBut _ _ D.i2z.symm (hs₃.extBut _ _ D.TOz.symm (hs₂.extBut _ _ D.i1z.symm hz₁)))
 have h1₅:Src b1 h₅ i1 l1 (k+1):=((h1₂.ext hs₃.extBut D.TOi1.symm).ext hs₄.extBut D.i12).ext hs₅.extBut D.TOi1.symm;have h2₅:Src b2 h₅ i2 l2 (k+1):=h2₄.ext hs₅.extBut D.TOi2.symm;have zl:z<h₅.objs.size:=Heap.lt_size hz₅;show wpAny _ _ (Builtin.SmallTypes.ownedTupleHandOut (.ref z) (.ref h₅.objs.size) >>= _) _ _ _;refine wpAny_bind ?_;unfold Builtin.SmallTypes.ownedTupleHandOut;have hz₆:IsZip (h₅.push { cls:=.type "tuple",data:=.seq #[x,y] }) z TI TO .ellipsis:=by exact Heap.get?_push_of_some _ hz₅
 refine wpAny_bind (wpAny_setField_rec hz₆ (by simp) λh₇ hz₇ hs₇=>?_)
 replace hz₇:IsZip h₇ z TI TO (rawInt h₅.objs.size):=by exact hz₇
 refine wpAny_setField_rec hz₇ (by simp) λh₈ hz₈ hs₈=>wpAny_pure ⟨_,rfl,?_⟩
 replace hz₈:IsZip h₈ z TI TO (rawInt h₅.objs.size):=by exact hz₈
 have up:∀c o,c≠z->h₅.get? c=some o->h₈.get? c=some o:=λc o c1 e=>by exact hs₈.extBut _ _ c1 (hs₇.extBut _ _ c1 (Heap.get?_push_of_some _ e))
 have hT₈:IsPair h₈ h₅.objs.size x y:=by exact hs₈.extBut _ _ (Nat.ne_of_gt zl) (hs₇.extBut _ _ (Nat.ne_of_gt zl) (Heap.get?_push_size _ rfl))
 show Q (.ref h₅.objs.size) _;rw[hsz] at hz₈ hT₈ ⊢;refine hQ h₈ ⟨hz₈,up _ _ D.TIz (to5 _ _ D.TIz D.TITO D.TIi1 D.TIi2 hTI),⟨x,y,up _ _ D.TOz hTO₅⟩,h1₅.keep λo e=>up _ o D.i1z e,h2₅.keep λo e=>up _ o D.i2z e⟩ hT₈ λc o hc e=>?_
 simp only[List.mem_cons,List.not_mem_nil,or_false,not_or] at hc;exact up c o hc.1 (to5 c o hc.1 hc.2.1 hc.2.2.1 hc.2.2.2 e)
end
end Sd
namespace Sd
open PySem PySem.Spec PyProof.Rows L2
section
variable {prog:Program}{w:World}{A:Around}{E:Value->Shared->Prop}{s:Shared}
theorem Qu {b1 b2:Bool}{z TI TO i1 i2 l1 l2:Addr}{k:Nat}{xs ys:Array Value}{Q:Fin->Shared->Prop}(hh:A.handled=none) (D:ZipApart z TI TO i1 i2 l1 l2) (Z:ZipSt b1 b2 z TI TO i1 i2 l1 l2 k .none s.heap) (hl1:Xo b1 s.heap l1 xs) (hl2:Xo b2 s.heap l2 ys) (hend:xs[k]? = none\/ys[k]? = none)
  (hE:∀h' e,(∀c o,c∉[z,TO,i1,i2]->s.heap.get? c=some o->h'.get? c=some o)->(∃o,h'.get? e=some o/\o.cls=.type "StopIteration")->E (.ref e) { s with heap:=h' }) :
  wpAny (model prog w) A (Builtin.«zip.__next__» ⟨[.ref z],[]⟩) Q E s:=by
 obtain⟨hz,hTI,⟨a,b,hTO⟩,h1,h2⟩:=Z;have hk:∀{c:Addr},c∉[z,TO,i1,i2]->c≠z/\c≠TO/\c≠i1/\c≠i2:=λhc=>by
  simp only[List.mem_cons,List.not_mem_nil,or_false,not_or] at hc;exact hc
 show wpAny _ _ (field (.ref z) 2 >>= _) _ _ _;refine wpAny_bind (wpAny_field hz rfl (x:=.bool false) rfl ?_);show wpAny _ _ (field (.ref z) 3 >>= _) _ _ _;refine wpAny_bind (wpAny_field hz rfl (x:=.ref TI) rfl (wpAny_bind (wpAny_seqItems hTI rfl ?_)));show wpAny _ _ (Builtin.SmallTypes.ownedTupleIsFree (.ref z) >>= _) _ _ _;refine wpAny_bind ?_;unfold Builtin.SmallTypes.ownedTupleIsFree;refine wpAny_bind (wpAny_field hz rfl (x:=.none) rfl (wpAny_pure ?_));simp only[if_true];refine wpAny_bind (wpAny_rule (wpAny_bind (wpAny_field hz rfl (x:=.ref TO) rfl (wpAny_bind (wpAny_setField_rec hz (by simp) λh₁ hz₁ hs₁=>?_)))))
 replace hz₁:IsZip h₁ z TI TO .ellipsis:=by exact hz₁
 refine wpAny_bind ?_;simp only[List.zipIdx_cons,List.zipIdx_nil,List.forIn_cons,List.forIn_nil];refine wpAny_bind (wpAny_bind (wpAny_onRaise ?_));show wpAny _ _ (Builtin.SmallTypes.nextOf (.ref i1) >>= _) _ _ _;have l1₁:Xo b1 h₁ l1 xs:=hl1.keep λo e=>hs₁.extBut _ o D.l1z e
 cases hx:xs[k]? with
 |none=>
  refine wpAny_bind (JE hh (h1.ext hs₁.extBut D.i1z) l1₁ hx λh₂ e hs₂ he=>?_)
  obtain⟨oe,hoe,hce⟩:=he;have hz₂:IsZip h₂ z TI TO .ellipsis:=by exact hs₂ _ _ D.i1z.symm hz₁
  have hez:e≠z:=λx=>by subst x;rw[hz₂] at hoe;cases hoe;simp at hce
  exact wpAny_setField_rec hz₂ (by simp) λh₃ _ hs₃=>hE h₃ e (λc o hc x=>hs₃.extBut _ _ (hk hc).1 (hs₂ _ _ (hk hc).2.2.1 (hs₁.extBut _ _ (hk hc).1 x))) ⟨oe,hs₃.extBut _ _ hez hoe,hce⟩
 |some x=>
  have hy:ys[k]? = none:=by rcases hend with q | q;rw[hx] at q;cases q;exact q
  refine wpAny_bind (VC (h1.ext hs₁.extBut D.i1z) l1₁ hx λh₂ h1₂ hs₂=>wpAny_pure ?_)
  have hTO₂:IsPair h₂ TO a b:=by exact hs₂.extBut _ _ D.TOi1 (hs₁.extBut _ _ D.TOz hTO)
  refine wpAny_bind (wpAny_seqItems hTO₂ rfl (wpAny_bind (wpAny_updateSeq_pair hTO₂ λh₃ hTO₃ hs₃=>?_)))
  refine wpAny_bind (wpAny_letGo (wpAny_pure (wpAny_bind (wpAny_bind (wpAny_onRaise ?_)))));show wpAny _ _ (Builtin.SmallTypes.nextOf (.ref i2) >>= _) _ _ _;have to3:∀c o,c≠z->c≠TO->c≠i1->s.heap.get? c=some o->h₃.get? c=some o:=λc o c1 c2 c3 e=>hs₃.extBut _ _ c2 (hs₂.extBut _ _ c3 (hs₁.extBut _ _ c1 e))
  refine wpAny_bind (JE hh (h2.keep λo e=>to3 _ o D.i2z D.TOi2.symm D.i12.symm e) (hl2.keep λo e=>to3 _ o D.l2z D.l2TO D.l2i1 e) hy λh₄ e hs₄ he=>?_)
  obtain⟨oe,hoe,hce⟩:=he;have hz₄:IsZip h₄ z TI TO .ellipsis:=by exact hs₄ _ _ D.i2z.symm (hs₃.extBut _ _ D.TOz.symm (hs₂.extBut _ _ D.i1z.symm hz₁))
  have hez:e≠z:=λx=>by subst x;rw[hz₄] at hoe;cases hoe;simp at hce
  exact wpAny_setField_rec hz₄ (by simp) λh₅ _ hs₅=>hE h₅ e (λc o hc x=>hs₅.extBut _ _ (hk hc).1 (hs₄ _ _ (hk hc).2.2.2 (to3 c o (hk hc).1 (hk hc).2.1 (hk hc).2.2.1 x))) ⟨oe,hs₅.extBut _ _ hez hoe,hce⟩
theorem GY {b1 b2:Bool}{z TI TO i1 i2 l1 l2:Addr}{k:Nat}{xs ys:Array Value}{x y:Value}{Q:Option Value->Shared->Prop}(D:ZipApart z TI TO i1 i2 l1 l2) (Z:ZipSt b1 b2 z TI TO i1 i2 l1 l2 k .none s.heap) (hl1:Xo b1 s.heap l1 xs) (hl2:Xo b2 s.heap l2 ys) (hx:xs[k]? = some x) (hy:ys[k]? = some y)
  (hQ:∀h',ZipSt b1 b2 z TI TO i1 i2 l1 l2 (k+1) (rawInt s.heap.objs.size) h'->IsPair h' s.heap.objs.size x y->(∀c o,c∉[z,TO,i1,i2]->s.heap.get? c=some o->h'.get? c=some o)->Q (some (.ref s.heap.objs.size)) { s with heap:=h' }) :
  wpAny (model prog w) A (pyNext (.ref z)) Q E s:=by
 have hT:s.TypeIs (.ref z) "zip":=⟨_,Z.zp,rfl⟩;unfold pyNext;exact wpAny_bind (wpAny_attempt (wpAny_callSpecial?_slot (name:=Str.ofString "__next__") hT F.slot_zip_next (wpAny_call_entry F.slot_zip_next hT F.entry_zip_next (wW D Z hl1 hl2 hx hy λh' a1 a2 a3=>wpAny_pure (hQ h' a1 a2 a3)) (F.args_zip_next_1 _))))
theorem UG {b1 b2:Bool}{z TI TO i1 i2 l1 l2:Addr}{k:Nat}{xs ys:Array Value}{Q:Option Value->Shared->Prop}(hh:A.handled=none) (D:ZipApart z TI TO i1 i2 l1 l2) (Z:ZipSt b1 b2 z TI TO i1 i2 l1 l2 k .none s.heap) (hl1:Xo b1 s.heap l1 xs) (hl2:Xo b2 s.heap l2 ys) (hend:xs[k]? = none\/ys[k]? = none)
  (hQ:∀h',(∀c o,c∉[z,TO,i1,i2]->s.heap.get? c=some o->h'.get? c=some o)->Q none { s with heap:=h' }):wpAny (model prog w) A (pyNext (.ref z)) Q E s:=by
 have hT:s.TypeIs (.ref z) "zip":=⟨_,Z.zp,rfl⟩;unfold pyNext;refine wpAny_bind (wpAny_attempt (wpAny_callSpecial?_slot (name:=Str.ofString "__next__") hT F.slot_zip_next (wpAny_call_entry F.slot_zip_next hT F.entry_zip_next (Qu hh D Z hl1 hl2 hend λh' e hk he=>?_) (F.args_zip_next_1 _))))
 obtain⟨o,ho,hc⟩:=he;exact wpAny_bind (wpAny_isInstance (T:="StopIteration") (b:=true) ⟨o,ho,hc⟩ isSubtype_stop (wpAny_pure (hQ _ hk)))
noncomputable def zH1 (h:Heap) (b1:Bool) (l1:Addr):Heap:=h.push (Xa b1 l1)
noncomputable def zH2 (h:Heap) (b1 b2:Bool) (l1 l2:Addr):Heap:=(zH1 h b1 l1).push (Xa b2 l2)
noncomputable def zH3 (h:Heap) (b1 b2:Bool) (l1 l2:Addr):Heap:=(zH2 h b1 b2 l1 l2).push { cls:=.type "tuple",data:=.seq #[.ref h.objs.size,.ref (zH1 h b1 l1).objs.size] }
noncomputable def zH4 (h:Heap) (b1 b2:Bool) (l1 l2:Addr):Heap:=(zH3 h b1 b2 l1 l2).push { cls:=.type "tuple",data:=.seq #[.none,.none] }
noncomputable def zH5 (h:Heap) (b1 b2:Bool) (l1 l2:Addr):Heap:=(zH4 h b1 b2 l1 l2).push { cls:=.type "zip",data:=.fields #[.none,.bool false,.bool false,.ref (zH2 h b1 b2 l1 l2).objs.size,.ref (zH3 h b1 b2 l1 l2).objs.size] }
theorem vZ (b1 b2:Bool) (l1 l2:Addr) (xs ys:Array Value) :
  Meets (Builtin.«zip.__new__» ⟨[.type "zip",.ref l1,.ref l2],[]⟩) (λ_ R s=>Xo b1 s.heap l1 xs/\Xo b2 s.heap l2 ys/\R (.ok (.ret (.ref (zH4 s.heap b1 b2 l1 l2).objs.size))) { s with heap:=zH5 s.heap b1 b2 l1 l2 }):=
 .of_wp λprog w A R s h=>by
  obtain⟨hp,g,d,tk,os⟩:=s;obtain⟨hl1,hl2,h⟩:=h;have hsub:=sub_zip;have hL1:Xo b1 (Shared.heap ⟨hp,g,d,tk,os⟩) l1 xs:=hl1;have hL2:Xo b2 (Shared.heap ⟨hp.push (Xa b1 l1),g,d,tk,os⟩) l2 ys:=hl2.keep λo e=>Heap.get?_push_of_some _ e
  wp_walk using GC hL1,GC hL2
  exact⟨_,rfl,h⟩
theorem wg {b1 b2:Bool}{l1 l2:Addr}{xs ys:Array Value}{Q:Value->Shared->Prop}(hl1:Xo b1 s.heap l1 xs) (hl2:Xo b2 s.heap l2 ys)
  (h:∀h' n,n=s.heap.objs.size->ZipSt b1 b2 (n+4) (n+2) (n+3) n (n+1) l1 l2 0 .none h'->(∀c o,s.heap.get? c=some o->h'.get? c=some o)->Q (.ref (n+4)) { s with heap:=h' }) :
  wpAny (model prog w) A (call (.type "zip") [.ref l1,.ref l2]) Q E s:=by
 refine callType_new F.called_zip (by decide) (F.typeCall_zip_2 _ _) (F.newCall_zip_2 _ _) (λobj=>F.args_object_init_3 obj _ _) F.entry_zip_new (vZ b1 b2 l1 l2 xs ys) ⟨hl1,hl2,?_⟩
 have z1:(zH1 s.heap b1 l1).objs.size=s.heap.objs.size+1:=Heap.size_push ..;have z2:(zH2 s.heap b1 b2 l1 l2).objs.size=s.heap.objs.size+2:=by unfold zH2;rw[Heap.size_push,z1]
 have z3:(zH3 s.heap b1 b2 l1 l2).objs.size=s.heap.objs.size+3:=by unfold zH3;rw[Heap.size_push,z2]
 have z4:(zH4 s.heap b1 b2 l1 l2).objs.size=s.heap.objs.size+4:=by unfold zH4;rw[Heap.size_push,z3]
 have g5:(zH5 s.heap b1 b2 l1 l2).get? (zH4 s.heap b1 b2 l1 l2).objs.size=some { cls:=.type "zip",data:=.fields #[.none,.bool false,.bool false,.ref (zH2 s.heap b1 b2 l1 l2).objs.size,.ref (zH3 s.heap b1 b2 l1 l2).objs.size] }:=Heap.get?_push_size _ rfl;have k4:∀c o,(zH4 s.heap b1 b2 l1 l2).get? c=some o->(zH5 s.heap b1 b2 l1 l2).get? c=some o:=λc o e=>Heap.get?_push_of_some _ e
 have k3:∀c o,(zH3 s.heap b1 b2 l1 l2).get? c=some o->(zH5 s.heap b1 b2 l1 l2).get? c=some o:=λc o e=>k4 c o (Heap.get?_push_of_some _ e)
 have k2:∀c o,(zH2 s.heap b1 b2 l1 l2).get? c=some o->(zH5 s.heap b1 b2 l1 l2).get? c=some o:=λc o e=>k3 c o (Heap.get?_push_of_some _ e)
 have k1:∀c o,(zH1 s.heap b1 l1).get? c=some o->(zH5 s.heap b1 b2 l1 l2).get? c=some o:=λc o e=>k2 c o (Heap.get?_push_of_some _ e)
 have g4:=k4 _ _ (Heap.get?_push_size (zH3 s.heap b1 b2 l1 l2) (o:={ cls:=.type "tuple",data:=.seq #[.none,.none] }) rfl);have g3:=k3 _ _ (Heap.get?_push_size (zH2 s.heap b1 b2 l1 l2) (o:={ cls:=.type "tuple",data:=.seq #[.ref s.heap.objs.size,.ref (zH1 s.heap b1 l1).objs.size] }) rfl);have g2:=k2 _ _ (Heap.get?_push_size (zH1 s.heap b1 l1) (o:=Xa b2 l2) rfl);have g1:=k1 _ _ (Heap.get?_push_size s.heap (o:=Xa b1 l1) rfl);rw[z2,z3,z4] at g5;rw[z1,z2] at g3;rw[z3] at g4;rw[z1] at g2;rw[z4];have src:∀b l it,(zH5 s.heap b1 b2 l1 l2).get? it=some (Xa b l)->Src b (zH5 s.heap b1 b2 l1 l2) it l 0:=λb l it e=>by
  cases b
  ·exact⟨_,e,rfl,rfl⟩
  ·exact⟨_,e,rfl,rfl⟩
 exact⟨⟨_,g5,rfl⟩,h _ _ rfl ⟨g5,g3,⟨_,_,g4⟩,src b1 l1 _ g1,src b2 l2 _ g2⟩ λc o e=>k1 c o (Heap.get?_push_of_some _ e)⟩
end
end Sd
namespace Sd
open PySem PySem.Spec PyProof.Rows L2
open Ev (D Ob Store Lc R E Sm Calls Walk Fl Fn Bop Cop Ty Bf Mf ev evs evo evt evw tst run runs)
theorem WZ {X:Cx}{pins:List (Addr×Obj)}{σ:L2.St}{H:Hp}{s:Shared}{h':Heap}{t':Nat}{ch:List Addr}(I:Inv X pins σ H s) (k:∀b o,b∉ch->s.heap.get? b=some o->h'.get? b=some o) (hf:∀b∈ch,Vs X pins H b):Inv X pins σ H { s with heap:=h',toks:=t' }:=by
 have nit:∀b u,H b=some u->b∉ch:=λb u e z=>by have:=(hf b z).1;rw[e] at this;cases this
 refine I.step (g':=s.gens) (d':=s.drawn) (ch:=ch) (λb hb=>?_) (λb o _ _ hc e _=>k b o hc e) (λb o _ _ hc e _=>⟨o.slots,k b o hc e⟩) (λ_ _ _ _ n=>n) (λb o hc e=>⟨o,k b o hc e⟩) (λ_ _ e=>e) (λ_ _ _ e=>e) (λb ps e=>⟨#[],by rw[e];simp⟩) (λm hm=>?_) (λb u e=>?_) I.bare
 ·exact⟨(hf b hb).2.2.2.1,(hf b hb).2.1,(hf b hb).2.2.2.2.1,(hf b hb).2.2.2.2.2⟩
 ·obtain⟨o,es,ep,ho,r⟩:=hm
  exact⟨o,es,ep,k _ o (λz=>(hf _ z).2.1 rfl) ho,r⟩
 ·refine (I.hok b u e).stay (λc v hc q=>k c v ?_ q) (λ_ q=>q) λ_ _ q=>q
  rcases hc with z | z
  ·rw[z];exact nit b u e
  ·exact nit c _ z
theorem QL {h:Heap}{o o':Obj}{b:Addr}(e:(h.push o').get? b=some o) (n:b≠h.objs.size):h.get? b=some o:=by
 unfold Heap.get? Heap.push at *;simp only[Array.getElem?_push] at e;rw[if_neg n] at e;exact e
theorem Wx {a b:Nat}(h:a<b\/b<a):(a:Addr)≠b:=λe=>by
 have e':(a:Nat)=b:=e;omega
noncomputable def Sq (b:Bool) (K:PySem.W.Frag) (H:Hp) (l:Addr) (xs:List V):Prop:=match b with
 |true=>SqL K H l xs
 |false=>SqT K H l xs
section
variable {X:Cx}{pins:List (Addr×Obj)}{σ:L2.St}{H:Hp}{s:Shared}
theorem X8 (I:Inv X pins σ H s) {b:Bool}{l:Addr}{xs:List V}(h:Sq b X.K H l xs):∃its:List Value,Vals xs its/\Xo b s.heap l its.toArray:=by
 cases b
 ·obtain⟨its,r,p,_⟩:=I.tuple h;exact⟨its,r,p⟩
 ·obtain⟨its,r,p,_⟩:=I.list h;exact⟨its,r,p.isList⟩
theorem zq (I:Inv X pins σ H s) {b:Bool}{l:Addr}{xs ys:List V}(h:Sq b X.K H l xs) (h':Sq b X.K H l ys):xs=ys:=by
 cases b
 ·exact I.tuple_inj h h'
 ·exact I.list_inj h h'
theorem JJ {b:Bool}{h:Heap}{l:Addr}{xs:Array Value}(x:Xo b h l xs):l<h.objs.size:=by
 cases b
 ·obtain⟨o,ho,_⟩:=x;exact Heap.lt_size ho
 ·obtain⟨o,ho,_⟩:=x;exact Heap.lt_size ho
end
noncomputable def Itz (K:PySem.W.Frag) (b1 b2:Bool) (l1 l2:Addr):It:=
 ⟨λi H=>∃xs ys x y,Sq b1 K H l1 xs/\Sq b2 K H l2 ys/\xs[i]? = some x/\ys[i]? = some y,
  λi H v H'=>∃T x y,(∀xs,Sq b1 K H l1 xs->xs[i]? = some x)/\(∀ys,Sq b2 K H l2 ys->ys[i]? = some y)/\H T=none/\H'=upd H T (.tup [x,y])/\v=.ref T,
  λi H=>∃xs ys,Sq b1 K H l1 xs/\Sq b2 K H l2 ys/\(xs.length<=i\/ys.length<=i)⟩
theorem wR {P:Program}{w:World}{K:PySem.W.Frag}{elts:List Expr}{kk:Nat}{tp:Pos}{b1 b2:Bool}{z TI TO i1 i2 l1 l2:Addr}(D:ZipApart z TI TO i1 i2 l1 l2) :
  Turn P w K (.Tuple elts kk tp) (Itz K b1 b2 l1 l2) [z,TI,TO,i1,i2] z (λi h=>ZipSt b1 b2 z TI TO i1 i2 l1 l2 i .none h) where
 mem:=by simp
 obj:=λi h st b hb=>by
  simp only[List.mem_cons,List.not_mem_nil,or_false] at hb;obtain⟨a,c,hTO⟩:=st.to;rcases hb with e | e | e | e | e <;> subst e
  ·exact⟨_,st.zp,λv q=>by cases q⟩
  ·exact⟨_,st.ti,λv q=>by cases q⟩
  ·exact⟨_,hTO,λv q=>by cases q⟩
  ·exact st.s1.obj
  ·exact st.s2.obj
 keep:=λi h h' st k=>by
  obtain⟨a,c,hTO⟩:=st.to;exact⟨k z (by simp) _ st.zp,k TI (by simp) _ st.ti,⟨a,c,k TO (by simp) _ hTO⟩,st.s1.keep λo e=>k i1 (by simp) o e,st.s2.keep λo e=>k i2 (by simp) o e⟩
 item:=by
  intro X hP hw hK hc i pins s σ H E I hf st hg;subst hP hw hK;obtain⟨xs,ys,x,y,hq1,hq2,hx,hy⟩:=hg;obtain⟨its,rv,o1⟩:=X8 I hq1;obtain⟨its2,rv2,o2⟩:=X8 I hq2;obtain⟨u,hu,ru⟩:=rv.get hx;obtain⟨u2,hu2,ru2⟩:=rv2.get hy;refine GY D st o1 o2 (x:=u) (y:=u2) (by simpa using hu) (by simpa using hu2) λh' Z' hT hk=>?_
  have hfree:H s.heap.objs.size=none:=I.hok.fresh (Nat.le_refl _);have ltz:∀b∈[z,TI,TO,i1,i2],b≠s.heap.objs.size:=λb hb e=>by
   simp only[List.mem_cons,List.not_mem_nil,or_false] at hb;obtain⟨a,c,hTO⟩:=st.to;rcases hb with q | q | q | q | q <;> subst q
   ·exact absurd (Heap.lt_size st.zp) (by rw[e];exact Nat.lt_irrefl _)
   ·exact absurd (Heap.lt_size st.ti) (by rw[e];exact Nat.lt_irrefl _)
   ·exact absurd (Heap.lt_size hTO) (by rw[e];exact Nat.lt_irrefl _)
   ·obtain⟨o,ho,_⟩:=st.s1.obj;exact absurd (Heap.lt_size ho) (by rw[e];exact Nat.lt_irrefl _)
   ·obtain⟨o,ho,_⟩:=st.s2.obj;exact absurd (Heap.lt_size ho) (by rw[e];exact Nat.lt_irrefl _)
  have IA:Inv X pins σ (upd H s.heap.objs.size (.tup [x,y])) { s with heap:=s.heap.push { cls:=.type "tuple",data:=.seq [u,u2].toArray },toks:=s.toks }:=
   I.laid (λb o e=>Heap.get?_push_of_some _ e) (Nat.le_refl _) ⟨by show 2<=sizeLine;decide,[u,u2],.cons ru (.cons ru2 .nil),IsTup.new _ _⟩
  have hf2:∀b∈[z,TI,TO,i1,i2],Vs X pins (upd H s.heap.objs.size (.tup [x,y])) b:=λb hb=>⟨by rw[Z0 (ltz b hb)];exact (hf b hb).1,(hf b hb).2⟩
  have IB:Inv X pins σ (upd H s.heap.objs.size (.tup [x,y])) { s with heap:=h',toks:=s.toks }:=by
   refine WZ (s:={ s with heap:=s.heap.push { cls:=.type "tuple",data:=.seq [u,u2].toArray },toks:=s.toks }) (ch:=[z,TO,i1,i2]) IA (λb o hb e=>?_) λb hb=>hf2 b (by simp only[List.mem_cons,List.not_mem_nil,or_false] at hb ⊢;rcases hb with q | q | q | q <;> simp[q])
   by_cases hbs:b=s.heap.objs.size
   ·subst hbs
    have e':(s.heap.push { cls:=.type "tuple",data:=.seq [u,u2].toArray }).get? s.heap.objs.size=some o:=e;rw[Heap.get?_push_size _ rfl] at e';cases e';exact hT
   ·refine hk b o hb ?_
    have e':(s.heap.push { cls:=.type "tuple",data:=.seq [u,u2].toArray }).get? b=some o:=e;have hlt:=Heap.lt_size e';rw[Heap.size_push] at hlt;exact QL e' hbs
  refine⟨.ref s.heap.objs.size,rfl,wpAny_letOwnedTupleGo_zip (s:={ s with heap:=h' }) Z'.zp λh2 hz2 hs2=>?_⟩
  have IC:Inv X pins σ (upd H s.heap.objs.size (.tup [x,y])) { s with heap:=h2,toks:=s.toks }:=WZ (s:={ s with heap:=h',toks:=s.toks }) (ch:=[z]) IB (λb o hb e=>(hs2.2 b (by simpa using hb)).trans e) λb hb=>hf2 b (by simp only[List.mem_singleton] at hb;simp[hb])
  obtain⟨a,c,hTO⟩:=Z'.to;refine⟨.ref s.heap.objs.size,_,IC,rfl,⟨_,x,y,λzs hz=>by rw[zq I hz hq1];exact hx,λzs hz=>by rw[zq I hz hq2];exact hy,hfree,rfl,rfl⟩,?_,λb hb=>(hf2 b hb).1⟩
  exact⟨hz2,hs2.extBut _ _ D.TIz Z'.ti,⟨a,c,hs2.extBut _ _ D.TOz hTO⟩,Z'.s1.ext hs2.extBut D.i1z,Z'.s2.ext hs2.extBut D.i2z⟩
 done:=by
  intro X hP hw hK hc i pins s σ H E I hf st hg;subst hP hw hK;obtain⟨xs,ys,hq1,hq2,hend⟩:=hg;obtain⟨its,rv,o1⟩:=X8 I hq1;obtain⟨its2,rv2,o2⟩:=X8 I hq2;have e1:=rv.length;have e2:=rv2.length;refine UG (I.ok.hd hc) D st o1 o2 (by rcases hend with q | q;exact .inl (by simp;omega);exact .inr (by simp;omega)) λh' hk=>⟨rfl,WZ (t':=s.toks) (ch:=[z,TO,i1,i2]) I (λb o hb e=>hk b o hb e) λb hb=>hf b (by simp only[List.mem_cons,List.not_mem_nil,or_false] at hb ⊢;rcases hb with q | q | q | q <;> simp[q])⟩
 self:=λ_ _ _ _ _ st h=>wpAny_pyIter_zip st.zp h
section
variable {X:Cx}{elts:List Expr}{kk:Nat}{tp:Pos}
noncomputable def ZaU (K:PySem.W.Frag) (ta:TA):TI:=λσ H R=>ta σ H λvs H1=>∃b1 b2 l1 l2,vs=[.ref l1,.ref l2]/\(∃xs,Sq b1 K H1 l1 xs)/\(∃ys,Sq b2 K H1 l2 ys)/\R (Itz K b1 b2 l1 l2) H1
theorem qH {a b:Expr}{ta:TA}{p pos:Pos}(hg:Gl X "zip") (hm:X.mg "zip" = none) (ha:PA X [a,b] ta) (hs:starEach [a,b] X.env=[(false,eval a X.env),(false,eval b X.env)]:=by rfl) (hs2:starEach [b] X.env=[(false,eval b X.env)]:=by rfl) :
  PI X (.Tuple elts kk tp) (.Call (.Name "zip" p) [a,b] [] pos) (ZaU X.K ta):=by
 intro pins s σ H R I h;refine Call_ (W8 I hg hm (by rfl) (PyProof.Rows.callWith_type1 (thn (ha pos pins s σ H _ I h) λus s1 ⟨vs,H1,I1,r1,q1⟩=>?_) (by rw[hs,hs2]) (by rw[hs2];rfl)))
 obtain⟨b1,b2,l1,l2,e,⟨xs,hq1⟩,⟨ys,hq2⟩,q⟩:=q1;subst e;cases r1 with
 |cons r rr=>
  cases rr with
  |cons r' rr=>
   cases rr;cases r;cases r';obtain⟨its,rv,o1⟩:=X8 I1 hq1;obtain⟨its2,rv2,o2⟩:=X8 I1 hq2;have lt1:=JJ o1;have lt2:=JJ o2;refine wg o1 o2 λh' n hn Z hk=>?_
   have I2:Inv X pins σ H1 { s1 with heap:=h' }:=I1.kept (t':=s1.toks) hk
   have q1:(l1:Nat)<n:=by rw[hn];exact lt1
   have q2:(l2:Nat)<n:=by rw[hn];exact lt2
   have D:ZipApart (n+4) (n+2) (n+3) n (n+1) l1 l2:=by constructor <;> first | exact Wx (by omega) | exact Wx (.inl (Nat.lt_of_lt_of_le q1 (Nat.le_add_right n _))) | exact Wx (.inl (Nat.lt_of_lt_of_le q2 (Nat.le_add_right n _))) | exact Wx (.inl q1) | exact Wx (.inl q2)
   refine wpAny_pyIter_zip (s:={ s1 with heap:=h' }) Z.zp ⟨n+4,[n+4,n+2,n+3,n,n+1],_,_,H1,rfl,I2,wR D,Z,λb hb=>?_,q⟩
   have hbn:s1.heap.objs.size<=b:=by
    rw[<-hn];simp only[List.mem_cons,List.not_mem_nil,or_false] at hb;rcases hb with e | e | e | e | e <;> rw[e]
    ·exact Nat.le_add_right n 4
    ·exact Nat.le_add_right n 2
    ·exact Nat.le_add_right n 3
    ·exact Nat.le_refl n
    ·exact Nat.le_add_right n 1
   exact I1.fpOk hbn (I1.hok.fresh hbn)
end
noncomputable def Side (K:PySem.W.Frag) (ρ:List Addr) (H:Hp) (wk:Walk) (b:Bool) (l:Addr):Prop:=∀ρ' S' H',Fut ρ H ρ' H'->St3 K ρ' S' H'->wk.still S'=true->∃vs,Sq b K H' l vs/\Reps ρ' H' wk.items vs
theorem JQ {K:PySem.W.Frag}{ρ:List Addr}{S:Store}{H:Hp}{x:D}{v:V}{wk:Walk}(st:St3 K ρ S H) (r:Rep ρ H x v) (h:Ev.YN S x=some wk):∃b l,v=.ref l/\(∃xs,Sq b K H l xs)/\Side K ρ H wk b l:=by
 cases x with
 |tup ds=>
  obtain⟨a,xs,rfl,hp,rs⟩:=r.tup';cases h;exact⟨false,a,rfl,⟨xs,SqT.of hp⟩,λρ' S' H' f _ _=>⟨xs,SqT.of (f.tup a xs hp),rs.mono f⟩⟩
 |loc n=>
  obtain⟨a,rfl,hp⟩:=r.loc';have h':(match S[n]? with
   |some (.lst xs)=>some (Walk.mk xs [(n,xs)])
   |_=>none)=some wk:=h
  cases q:S[n]? with
  |none=>rw[q] at h';cases h'
  |some o=>
   rw[q] at h';cases o with
   |lst ds=>
    cases h';obtain⟨a',ha,xs,hx,rs⟩:=st.at q;rw[hp] at ha;cases ha;refine⟨true,a,rfl,⟨xs,SqL.of hx⟩,λρ' S' H' f st' hs=>?_⟩
    have hn:S'[n]? = some (.lst ds):=by simpa [Walk.still] using hs
    obtain⟨a',ha,xs',hx',rs'⟩:=st'.at hn;rw[f.at hp] at ha;cases ha;exact⟨xs',SqL.of hx',rs'⟩
   |_=>cases h'
 |_=>cases h
theorem wQ {K:PySem.W.Frag}{ρ:List Addr}{H:Hp}{v w:Walk}{b1 b2:Bool}{l1 l2:Addr}(h1:Side K ρ H v b1 l1) (h2:Side K ρ H w b2 l2):WRel K ρ H ⟨(v.items.zip w.items).map λp=>.tup [p.1,p.2],v.kept++w.kept⟩ (Itz K b1 b2 l1 l2) where
 go:=λi ρ' S' H' f st hs hi=>by
  have hs':v.still S'=true/\w.still S'=true:=by
   have:(v.kept++w.kept).all (λp=>decide (S'[p.1]? = some (.lst p.2)))=true:=hs
   rw[List.all_append,Bool.and_eq_true] at this;exact this
  obtain⟨xs,q1,r1⟩:=h1 ρ' S' H' f st hs'.1;obtain⟨ys,q2,r2⟩:=h2 ρ' S' H' f st hs'.2;have hi':i<min v.items.length w.items.length:=by simpa using hi
  obtain⟨x,g1,rx⟩:=r1.get (List.getElem?_eq_getElem (show i<v.items.length by omega))
  obtain⟨y,g2,ry⟩:=r2.get (List.getElem?_eq_getElem (show i<w.items.length by omega))
  refine⟨⟨xs,ys,x,y,q1,q2,g1,g2⟩,λu H'' ⟨T,x',y',e1,e2,hT,eH,eu⟩=>?_⟩
  subst eH eu;have ex:=(e1 xs q1).symm.trans g1;have ey:=(e2 ys q2).symm.trans g2;cases ex;cases ey;refine⟨YE hT,st.fresh hT,λd hd=>?_⟩
  have hd':((v.items.zip w.items).map λp=>D.tup [p.1,p.2])[i]? = some d:=hd
  have hz:(v.items.zip w.items)[i]? = some (v.items[i],w.items[i]):=List.getElem?_zip_eq_some.mpr ⟨List.getElem?_eq_getElem (show i<v.items.length by omega),List.getElem?_eq_getElem (show i<w.items.length by omega)⟩
  rw[List.getElem?_map,hz] at hd';cases hd';exact Ye YH (Reps.cons (rx.mono (YE hT)) (Reps.cons (ry.mono (YE hT)) Reps.nil))
 stop:=λρ' S' H' f st hs=>by
  have hs':v.still S'=true/\w.still S'=true:=by
   have:(v.kept++w.kept).all (λp=>decide (S'[p.1]? = some (.lst p.2)))=true:=hs
   rw[List.all_append,Bool.and_eq_true] at this;exact this
  obtain⟨xs,q1,r1⟩:=h1 ρ' S' H' f st hs'.1;obtain⟨ys,q2,r2⟩:=h2 ρ' S' H' f st hs'.2;refine⟨xs,ys,q1,q2,?_⟩;show xs.length<=((v.items.zip w.items).map λp=>D.tup [p.1,p.2]).length\/_
  rw[r1.length,r2.length,List.length_map,List.length_zip];omega
section
variable {X:Cx}{xw:Nat->Hp->Prop}{C:Calls}{a b:Expr}{i j:E}{pos p tp:Pos}{elts:List Expr}{kk:Nat}
noncomputable def uN (x y:D) (S:Store):R Walk:=match Ev.YN S x,Ev.YN S y with
 |some v,some w=>.ok ⟨(v.items.zip w.items).map λp=>.tup [p.1,p.2],v.kept++w.kept⟩ S
 |_,_=>.no
theorem Qa (hm:X.mg "zip" = none) (ha:CA X xw C [a,b] [i,j]) (hg:Gl X "zip":=by rfl) (hs:starEach [a,b] X.env=[(false,eval a X.env),(false,eval b X.env)]:=by rfl) (hs2:starEach [b] X.env=[(false,eval b X.env)]:=by rfl) :
  CW X xw C (.Tuple elts kk tp) (.Call (.Name "zip" p) [a,b] [] pos) (.zip i j):=
 PI.imp (qH hg hm ha hs hs2) λσ H Q ⟨ρ,l,S,st,lr,h⟩=>by
  refine⟨ρ,l,S,st,lr,?_⟩;show End X.K xw Reps ρ H _ ((ev C i l S).bind λx S=>((ev C j l S).bind λy S=>(Ev.R.ok [] S).bind λxs S=>.ok (y::xs) S).bind λxs S=>.ok (x::xs) S)
  have h':End X.K xw (WRel X.K) ρ H Q ((ev C i l S).bind λx S=>(ev C j l S).bind λy S=>uN x y S):=h
  cases q:ev C i l S with
  |no=>rw[q] at h';exact h'
  |ex c S1=>rw[q] at h';exact h'
  |ok x S1=>
   rw[q] at h';have h2:End X.K xw (WRel X.K) ρ H Q ((ev C j l S1).bind λy S=>uN x y S):=h'
   show End X.K xw Reps ρ H _ (((ev C j l S1).bind λy S=>(Ev.R.ok [] S).bind λxs S=>.ok (y::xs) S).bind λxs S=>.ok (x::xs) S)
   cases q2:ev C j l S1 with
   |no=>rw[q2] at h2;exact h2
   |ex c S2=>rw[q2] at h2;exact h2
   |ok y S2=>
    rw[q2] at h2;intro ρ1 H1 vs f1 st1 r1;obtain⟨v,u,rfl,rv,ru⟩:=reps2 r1;have h3:End X.K xw (WRel X.K) ρ1 H1 Q (uN x y S2):=End.mono f1 h2;unfold uN at h3;cases e1:Ev.YN S2 x with
    |none=>rw[e1] at h3;exact False.elim h3
    |some v1=>
     cases e2:Ev.YN S2 y with
     |none=>rw[e1,e2] at h3;exact False.elim h3
     |some v2=>
      rw[e1,e2] at h3;obtain⟨b1,l1,rfl,s1,d1⟩:=JQ st1 rv e1;obtain⟨b2,l2,rfl,s2,d2⟩:=JQ st1 ru e2;exact⟨b1,b2,l1,l2,rfl,s1,s2,End.ok (rep:=WRel X.K) h3 st1 (wQ d1 d2)⟩
end
end Sd
namespace Sd
open PySem PySem.Spec PyProof.Rows L2
open Ev (D Ob Store Lc R E Sm Calls Walk Fl Fn Bop Cop Ty Bf Mf ev evs evo evt evw tst run runs)
theorem QJ {prog:Program}{w:World}{A:Around}(hh:A.handled=none) (b:Bool) (it l:Addr) (hne:l≠it) (xs:Array Value) :
  Draws prog w A it [it,l] xs.size (λi v=>xs[i]? = some v) (λi h=>Src b h it l i/\Xo b h l xs) where
 live:=λ_ _ st=>let ⟨o,ho,_⟩:=st.1.obj;⟨o,ho⟩
 frame:=λ_ _ _ st hk=>⟨st.1.keep λo e=>hk it (by simp) o e,st.2.keep λo e=>hk l (by simp) o e⟩
 item:=λi s Q E hi st hQ=>VC st.1 st.2 (x:=xs[i]) (Array.getElem?_eq_getElem hi) λh' hit' hs'=>hQ _ h' s.toks (Array.getElem?_eq_getElem hi) ⟨hit',st.2.keep λo e=>hs'.extBut _ o hne e⟩ hs'
 done:=λs Q E st hE=>JE hh st.1 st.2 (Array.getElem?_eq_none (Nat.le_refl _)) hE
noncomputable def Ite (K:PySem.W.Frag) (b:Bool) (l:Addr):It:=
 ⟨λi H=>∃xs x,Sq b K H l xs/\xs[i]? = some x,
  λi H v H'=>∃T x,(∀xs,Sq b K H l xs->xs[i]? = some x)/\H T=none/\H'=upd H T (.tup [.int i,x])/\v=.ref T,
  λi H=>∃xs,Sq b K H l xs/\xs.length=i⟩
theorem yJ {P:Program}{w:World}{K:PySem.W.Frag}{elts:List Expr}{kk:Nat}{tp:Pos}{b:Bool}{e it l:Addr}(hei:e≠it) (hle:l≠e) (hli:l≠it) :
  Turn P w K (.Tuple elts kk tp) (Ite K b l) [e,it] e (λi h=>(∃old,IsEnum h e it i old)/\Src b h it l i) where
 mem:=by simp
 obj:=λi h st c hc=>by
  simp only[List.mem_cons,List.not_mem_nil,or_false] at hc;obtain⟨⟨old,he⟩,hs⟩:=st;rcases hc with q | q <;> subst q
  ·exact⟨_,he,λv q=>by cases q⟩
  ·exact hs.obj
 keep:=λi h h' st k=>by
  obtain⟨⟨old,he⟩,hs⟩:=st;exact⟨⟨old,k e (by simp) _ he⟩,hs.keep λo q=>k it (by simp) o q⟩
 item:=by
  intro X hP hw hK hc i pins s σ H E I hf st hg;subst hP hw hK;obtain⟨xs,x,hq,hx⟩:=hg;obtain⟨its,rv,o1⟩:=X8 I hq;obtain⟨⟨old,he⟩,hs⟩:=st;obtain⟨u,hu,ru⟩:=rv.get hx;have hlt:i<its.toArray.size:=by
   have:=(List.getElem?_eq_some_iff.mp hu).1
   simpa using this
  have hh:X.A.in1.handled=none:=I.ok.hd hc;refine wpAny_pyNext_enum_itemD (QJ hh b it l hli its.toArray) he ⟨hs,o1⟩ hlt hei (by simp only[List.mem_cons,List.not_mem_nil,or_false,not_or];exact⟨hei,Ne.symm hle⟩) λx' h' tk hP ho hst hT hsz hk=>?_
  have ex:x'=u:=by
   have:its.toArray[i]? = some u:=by simpa using hu
   rw[this] at hP;exact (Option.some.inj hP).symm
  subst ex;have hfree:H s.heap.objs.size=none:=I.hok.fresh (Nat.le_refl _);have ltz:∀c∈[e,it],c≠s.heap.objs.size:=λc hc q=>by
   simp only[List.mem_cons,List.not_mem_nil,or_false] at hc;rcases hc with z | z <;> subst z
   ·exact absurd (Heap.lt_size he) (by rw[q];exact Nat.lt_irrefl _)
   ·obtain⟨o,ho,_⟩:=hs.obj;exact absurd (Heap.lt_size ho) (by rw[q];exact Nat.lt_irrefl _)
  have IA:Inv X pins σ (upd H s.heap.objs.size (.tup [.int i,x])) { s with heap:=s.heap.push { cls:=.type "tuple",data:=.seq [.int i tk,x'].toArray },toks:=tk+1 }:=
   I.laid (λc o q=>Heap.get?_push_of_some _ q) (Nat.le_refl _) ⟨by show 2<=sizeLine;decide,[.int i tk,x'],.cons ⟨tk,rfl⟩ (.cons ru .nil),IsTup.new _ _⟩
  have hf2:∀c∈[e,it],Vs X pins (upd H s.heap.objs.size (.tup [.int i,x])) c:=λc hc=>⟨by rw[Z0 (ltz c hc)];exact (hf c hc).1,(hf c hc).2⟩
  have IB:Inv X pins σ (upd H s.heap.objs.size (.tup [.int i,x])) { s with heap:=h',toks:=tk+1 }:=by
   refine WZ (s:={ s with heap:=s.heap.push { cls:=.type "tuple",data:=.seq [.int i tk,x'].toArray },toks:=tk+1 }) (ch:=[e,it]) IA (λc o hc q=>?_) hf2
   by_cases hcs:c=s.heap.objs.size
   ·subst hcs
    have q':(s.heap.push { cls:=.type "tuple",data:=.seq [.int i tk,x'].toArray }).get? s.heap.objs.size=some o:=q;rw[Heap.get?_push_size _ rfl] at q';cases q';exact hT
   ·simp only[List.mem_cons,List.not_mem_nil,or_false,not_or] at hc
    exact hk c o hc.1 hc.2 (QL q hcs)
  refine⟨.ref s.heap.objs.size,rfl,wpAny_letOwnedTupleGo_enum (s:={ s with heap:=h',toks:=tk+1 }) ho λh2 he2 hs2=>?_⟩
  have IC:Inv X pins σ (upd H s.heap.objs.size (.tup [.int i,x])) { s with heap:=h2,toks:=tk+1 }:=WZ (s:={ s with heap:=h',toks:=tk+1 }) (ch:=[e]) IB (λc o hc q=>(hs2.2 c (by simpa using hc)).trans q) λc hc=>hf2 c (by simp only[List.mem_singleton] at hc;simp[hc])
  refine⟨.ref s.heap.objs.size,_,IC,rfl,⟨_,x,λzs hz=>by rw[zq I hz hq];exact hx,hfree,rfl,rfl⟩,⟨⟨x',by simpa using he2⟩,hst.1.ext hs2.extBut (Ne.symm hei)⟩,λc hc=>(hf2 c hc).1⟩
 done:=by
  intro X hP hw hK hc i pins s σ H E I hf st hg;subst hP hw hK;obtain⟨xs,hq,hend⟩:=hg;obtain⟨its,rv,o1⟩:=X8 I hq;obtain⟨⟨old,he⟩,hs⟩:=st;have e1:=rv.length;have hh:X.A.in1.handled=none:=I.ok.hd hc;have en:i=its.toArray.size:=by simp;omega
  subst en;exact wpAny_pyNext_enum_endD (QJ hh b it l hli its.toArray) he ⟨hs,o1⟩ λh' hx=>⟨rfl,WZ (t':=s.toks) (ch:=[e,it]) I (λc o hc q=>hx c o (λz=>hc (by simp[z])) q) hf⟩
 self:=λ_ _ _ _ _ st h=>by
  obtain⟨⟨old,he⟩,_⟩:=st;exact wpAny_pyIter_enum he h
section
variable {prog:Program}{w:World}{A:Around}{E:Value->Shared->Prop}{s:Shared}
theorem wU (l:Addr) (items:Array Value) (n:Nat) (dct:Option Addr) (sl:Array (Option Value)) :
  Meets (Builtin.«enumerate.__new__» ⟨[.type "enumerate",.ref l],[]⟩) (λ_ R s=>s.heap.get? l=some { cls:=.type "tuple",dict:=dct,data:=.seq items n,slots:=sl }/\
   R (.ok (.ret (.ref (s.heap.push (Xa false l)).objs.size))) { s with heap:=(s.heap.push (Xa false l)).push { cls:=.type "enumerate",data:=.fields #[.none,.bool false,.ref s.heap.objs.size,rawInt 0,.none,.none] } }):=
 .of_wp λprog w A R s h=>by
  obtain⟨hp,g,d,tk,os⟩:=s;obtain⟨hl,h⟩:=h;have hsub:=sub_enumerate;have hL:Heap.IsTuple (Shared.heap ⟨hp,g,d,tk,os⟩) l items:=⟨_,hl,rfl,n,rfl⟩
  wp_walk using AutoSeq1.wpAny_loadPart' hl;refine wpAny_stack_any λst=>wpAny_pure ?_;split
  ·rename_i c _ _ _ _ _;cases (c == Value.type "enumerate") <;> (wp_walk using AutoSeq1.wpAny_loadPart' hl,wpAny_pyIter_tuple hL;exact⟨_,rfl,h⟩)
  ·wp_walk using AutoSeq1.wpAny_loadPart' hl,wpAny_pyIter_tuple hL;exact⟨_,rfl,h⟩
theorem y9 {b:Bool}{l:Addr}{xs:Array Value}{Q:Value->Shared->Prop}(hL:Xo b s.heap l xs)
  (h:∀h' n,n=s.heap.objs.size->IsEnum h' (n+1) n 0 .none->Src b h' n l 0->(∀c o,s.heap.get? c=some o->h'.get? c=some o)->Q (.ref (n+1)) { s with heap:=h' }):wpAny (model prog w) A (call (.type "enumerate") [.ref l]) Q E s:=by
 cases b with
 |true=>exact call_enumerate_list hL λh' a1 a2 _ a4=>h h' _ rfl a1 a2 a4
 |false=>
  obtain⟨⟨c,dct,dt,sl⟩,hl,hc,n,hd⟩:=hL;simp only at hc hd;subst hc hd;refine callType_new F.called_enumerate (by decide) (F.typeCall_enumerate_1 _) (F.newCall_enumerate_1 _) (λobj=>F.args_object_init_2 obj _) F.entry_enumerate_new (wU l xs n dct sl) ⟨hl,?_⟩
  have hz:(s.heap.push (Xa false l)).objs.size=s.heap.objs.size+1:=Heap.size_push ..;have g2:=Heap.get?_push_size (s.heap.push (Xa false l)) (o:={ cls:=.type "enumerate",data:=.fields #[.none,.bool false,.ref s.heap.objs.size,rawInt 0,.none,.none] }) rfl;have g1:((s.heap.push (Xa false l)).push { cls:=.type "enumerate",data:=.fields #[.none,.bool false,.ref s.heap.objs.size,rawInt 0,.none,.none] }).get? s.heap.objs.size=some (Xa false l):=Heap.get?_push_of_some _ (Heap.get?_push_size _ rfl);rw[hz] at g2 ⊢;exact⟨⟨_,g2,rfl⟩,h _ _ rfl g2 ⟨_,g1,rfl,rfl⟩ λc o q=>Heap.get?_push_of_some _ (Heap.get?_push_of_some _ q)⟩
end
section
variable {X:Cx}{elts:List Expr}{kk:Nat}{tp:Pos}
noncomputable def Zab (K:PySem.W.Frag) (ta:TA):TI:=λσ H R=>ta σ H λvs H1=>∃b l,vs=[.ref l]/\(∃xs,Sq b K H1 l xs)/\R (Ite K b l) H1
theorem ub {a:Expr}{ta:TA}{p pos:Pos}(hg:Gl X "enumerate") (hm:X.mg "enumerate" = none) (ha:PA X [a] ta) (hs:starEach [a] X.env=[(false,eval a X.env)]:=by rfl):PI X (.Tuple elts kk tp) (.Call (.Name "enumerate" p) [a] [] pos) (Zab X.K ta):=by
 intro pins s σ H R I h;refine Call_ (W8 I hg hm (by rfl) (PyProof.Rows.callWith_type1 (thn (ha pos pins s σ H _ I h) λus s1 ⟨vs,H1,I1,r1,q1⟩=>?_) hs rfl))
 obtain⟨b,l,e,⟨xs,hq⟩,q⟩:=q1;subst e;cases r1 with
 |cons r rr=>
  cases rr;cases r;obtain⟨its,rv,o1⟩:=X8 I1 hq;have lt1:=JJ o1;refine y9 o1 λh' n hn he hs' hk=>?_
  have I2:Inv X pins σ H1 { s1 with heap:=h' }:=I1.kept (t':=s1.toks) hk
  have q1:(l:Nat)<n:=by rw[hn];exact lt1
  refine wpAny_pyIter_enum (s:={ s1 with heap:=h' }) he ⟨n+1,[n+1,n],_,_,H1,rfl,I2,yJ (Wx (.inr (Nat.lt_succ_self n))) (Wx (.inl (Nat.lt_succ_of_lt q1))) (Wx (.inl q1)),⟨⟨_,he⟩,hs'⟩,λc hc=>?_,q⟩
  have hbn:s1.heap.objs.size<=c:=by
   rw[<-hn];simp only[List.mem_cons,List.not_mem_nil,or_false] at hc;rcases hc with e | e <;> rw[e]
   ·exact Nat.le_succ n
   ·exact Nat.le_refl n
  exact I1.fpOk hbn (I1.hok.fresh hbn)
end
theorem xr {K:PySem.W.Frag}{ρ:List Addr}{H:Hp}{w:Walk}{b:Bool}{l:Addr}(h1:Side K ρ H w b l):WRel K ρ H ⟨(Ev.Z3 0 w.items.length).zip w.items |>.map λp=>.tup [p.1,p.2],w.kept⟩ (Ite K b l) where
 go:=λi ρ' S' H' f st hs hi=>by
  obtain⟨xs,q1,r1⟩:=h1 ρ' S' H' f st hs;have hi':i<w.items.length:=by
   have:i<(((Ev.Z3 0 w.items.length).zip w.items).map λp=>D.tup [p.1,p.2]).length:=hi
   rw[List.length_map,List.length_zip,WP] at this;omega
  obtain⟨x,g1,rx⟩:=r1.get (List.getElem?_eq_getElem hi');refine⟨⟨xs,x,q1,g1⟩,λu H'' ⟨T,x',e1,hT,eH,eu⟩=>?_⟩
  subst eH eu;have ex:=(e1 xs q1).symm.trans g1;cases ex;refine⟨YE hT,st.fresh hT,λd hd=>?_⟩
  have hd':(((Ev.Z3 0 w.items.length).zip w.items).map λp=>D.tup [p.1,p.2])[i]? = some d:=hd
  have hz:((Ev.Z3 0 w.items.length).zip w.items)[i]? = some (.int (0+i),w.items[i]):=List.getElem?_zip_eq_some.mpr ⟨Gk hi',List.getElem?_eq_getElem hi'⟩;rw[List.getElem?_map,hz] at hd';cases hd';refine Ye YH (Reps.cons ?_ (Reps.cons (rx.mono (YE hT)) Reps.nil));have:((0:Int)+i)=i:=by omega
  show Rep _ _ (D.int (0+i)) (V.int i);rw[this];exact ZF _
 stop:=λρ' S' H' f st hs=>by
  obtain⟨xs,q1,r1⟩:=h1 ρ' S' H' f st hs;refine⟨xs,q1,?_⟩;show xs.length=(((Ev.Z3 0 w.items.length).zip w.items).map λp=>D.tup [p.1,p.2]).length
  rw[List.length_map,List.length_zip,WP,r1.length];omega
section
variable {X:Cx}{xw:Nat->Hp->Prop}{C:Calls}{a b:Expr}{i j:E}{pos p tp:Pos}{elts:List Expr}{kk:Nat}
theorem Uw (hm:X.mg "enumerate" = none) (ha:CA X xw C [a] [i]) (hg:Gl X "enumerate":=by rfl) (hs:starEach [a] X.env=[(false,eval a X.env)]:=by rfl) :
  CW X xw C (.Tuple elts kk tp) (.Call (.Name "enumerate" p) [a] [] pos) (.enum i):=
 PI.imp (ub hg hm ha hs) λσ H Q ⟨ρ,l,S,st,lr,h⟩=>by
  refine⟨ρ,l,S,st,lr,?_⟩;show End X.K xw Reps ρ H _ ((ev C i l S).bind λx S=>(Ev.R.ok [] S).bind λxs S=>.ok (x::xs) S)
  have h':End X.K xw (WRel X.K) ρ H Q ((ev C i l S).bind λx S=>match Ev.YN S x with
   |some w=>.ok ⟨(Ev.Z3 0 w.items.length).zip w.items |>.map λp=>.tup [p.1,p.2],w.kept⟩ S
   |none=>.no):=h
  cases q:ev C i l S with
  |no=>rw[q] at h';exact h'
  |ex c S1=>rw[q] at h';exact h'
  |ok x S1=>
   rw[q] at h';intro ρ1 H1 vs f1 st1 r1;obtain⟨v,rfl,r⟩:=reps1 r1;have h3:End X.K xw (WRel X.K) ρ1 H1 Q (match Ev.YN S1 x with
    |some w=>.ok ⟨(Ev.Z3 0 w.items.length).zip w.items |>.map λp=>.tup [p.1,p.2],w.kept⟩ S1
    |none=>.no):=End.mono f1 (show End X.K xw (WRel X.K) ρ H Q _ from h')
   cases e1:Ev.YN S1 x with
   |none=>rw[e1] at h3;exact False.elim h3
   |some wk=>
    rw[e1] at h3;obtain⟨b1,l1,rfl,s1,d1⟩:=JQ st1 r e1;exact⟨b1,l1,rfl,s1,End.ok (rep:=WRel X.K) h3 st1 (xr d1)⟩
end
end Sd
namespace Sd
open PySem PySem.Spec PyProof.Rows L2
open Ev (D Ob Store Lc R E Sm Calls Walk Fl Fn Bop Cop Ty Bf Mf ev evs evo evt evw tst run runs)
section
variable {X:Cx}{xw:Nat->Hp->Prop}{C:Calls}{e a b c:Expr}{i j k:E}{pos p p' p2:Pos}
theorem G8 {n m:Nat}{x y:Str}{px py pt:Pos}{kt k2 pt2}(hc:X.calm=true) (hN:X.N.Nodup) (ha:CA X xw C [a,b] [i,j]) (hnm:n≠m:=by decide) (hi:X.N[n]? = some x:=by rfl) (hj:X.N[m]? = some y:=by rfl)
  (hx:X.env.scope.names.lookup x=some .local:=by rfl) (hy:X.env.scope.names.lookup y=some .local:=by rfl)
  (hw:swappedStores [.Tuple [.Name x px,.Name y py] kt pt] (.Tuple [a,b] k2 pt2) X.env=pure (some [x,y]):=by rfl)
  (hs:swapsWithSole [.Tuple [.Name x px,.Name y py] kt pt] (.Tuple [a,b] k2 pt2) pos.line X.env=pure false:=by rfl) :
  CS X xw C (.Assign [.Tuple [.Name x px,.Name y py] kt pt] (.Tuple [a,b] k2 pt2) pos) (.par [n,m] [i,j]):=
 PS.imp (jw hc hN hi hj hnm hx hy ha hw hs) λD σ H ⟨ρ,l,S,st,lr,h⟩=>
  ⟨ρ,l,S,st,lr,ZQ.bind (show ZQ X.K xw ρ H D ((evs C [i,j] l S).bind λxs S=>(Ev.ob (Ev.fill [n,m] xs l) S).bind λσ S=>.ok (.nx σ) S) from h) λxs S1 ρ1 H1 vs f1 st1 r1 h1=>by
   obtain⟨l',hl',h2⟩:=ZQ.ob h1
   match xs,r1,hl' with
   |[d1,d2],r1,hl'=>
    obtain⟨v,w,rfl,a1,a2⟩:=reps2 r1;have e:(l.set n (some d1)).set m (some d2)=l':=Option.some.inj hl';exact⟨v,w,rfl,ZQ.nx h2 st1 (by rw[<-e];exact ((lr.mono f1).set n a1).set m a2)⟩
   |[],_,hl'=>cases hl'
   |[_],_,hl'=>cases hl'
   |_::_::_::_,_,hl'=>cases hl'⟩
end
end Sd
namespace Sd
open PySem PySem.Spec PyProof.Rows L2
open Ev (D Ob Store Lc R E Sm Calls Walk Fl Fn Bop Cop Ty Bf Mf ev evs evo evt evw tst run runs)
end Sd
namespace Sd
open PySem PySem.Spec PyProof.Rows L2
open Ev (D Ob Store Lc R E Sm Calls Walk Fl Fn Bop Cop Ty Bf Mf ev evs evo evt evw tst run runs)
end Sd
namespace Sq
open PySem PySem.W PyProof.Rows
noncomputable def evT {α:Type} (n:Nat) (lt:Nat->Nat->Bool):KasT α->Option α
 |.ret a=>some a
 |.ask i j k=>if i<n/\j<n then evT n lt (k (lt i j)) else none
theorem WS {α:Type}{n:Nat}{lt:Nat->Nat->Bool}{i j:Nat}{k:Bool->KasT α}(c:i<n/\j<n):evT n lt (.ask i j k)=evT n lt (k (lt i j)):=by
 show (if i<n/\j<n then evT n lt (k (lt i j)) else none)=_
 rw[if_pos c]
theorem X5 {α β:Type}{n:Nat}{lt:Nat->Nat->Bool}{f:α->KasT β}:∀{t:KasT α}{a:α},evT n lt t=some a->evT n lt (t.bind f)=evT n lt (f a)
 |.ret a,b,h=>by cases h;rfl
 |.ask i j k,b,h=>by
  unfold evT at h;by_cases c:i<n/\j<n
  ·rw[if_pos c] at h
   show evT n lt (.ask i j λb=>(k b).bind f)=_
   rw[WS c];exact X5 h
  ·rw[if_neg c] at h;cases h
theorem wI {α:Type}{n:Nat}{lt:Nat->Nat->Bool}{cmp:Nat->Nat->(Bool->Shared->Prop)->Shared->Prop}{G:α->Shared->Prop}{s:Shared}(hc:∀i j,i<n->j<n->∀C:Bool->Shared->Prop,C (lt i j) s->cmp i j C s) :
  ∀{t:KasT α} {a:α},evT n lt t=some a->G a s->t.kasWp cmp G s
 |.ret a,b,h,g=>by cases h;exact g
 |.ask i j k,b,h,g=>by
  unfold evT at h;by_cases c:i<n/\j<n
  ·rw[if_pos c] at h
   exact hc i j c.1 c.2 _ (wI hc h g)
  ·rw[if_neg c] at h;cases h
structure Ord (n:Nat) (lt:Nat->Nat->Bool):Prop where
 tot:∀i j,i<n->j<n->i≠j->lt i j=false->lt j i=true
 asy:∀i j,i<n->j<n->lt i j=true->lt j i=false
 tr:∀i j k,i<n->j<n->k<n->lt i j=true->lt j k=true->lt i k=true
noncomputable abbrev g (p:Array Nat) (i:Nat):Nat:=p.getD i 0
noncomputable def Pm (n:Nat) (p:Array Nat):Prop:=p.Perm (List.toArray (List.range n))
theorem Pm.size {n:Nat}{p:Array Nat}(h:Pm n p):p.size=n:=by have:=Array.Perm.size_eq h;simpa using this
theorem wv {p:Array Nat}{i:Nat}(h:i<p.size):p[i]? = some (g p i):=by simp[g,h]
theorem Pm.lt {n:Nat}{p:Array Nat}(h:Pm n p) {i:Nat}(hi:i<n):g p i<n:=by
 have hs:=h.size;have h1:g p i∈p.toList:=by
  have:p.toList[i]? = some (g p i):=by rw[Array.getElem?_toList];exact wv (by omega)
  exact List.mem_of_getElem? this
 have h2:p.toList.Perm (List.range n):=by simpa using Array.perm_iff_toList_perm.mp h
 exact List.mem_range.mp (h2.mem_iff.mp h1)
theorem Pm.inj {n:Nat}{p:Array Nat}(h:Pm n p) {i j:Nat}(hi:i<n) (hj:j<n) (e:g p i=g p j):i=j:=by
 have hs:=h.size;have h2:p.toList.Perm (List.range n):=by simpa using Array.perm_iff_toList_perm.mp h
 have nd:p.toList.Nodup:=(h2.nodup_iff).mpr List.nodup_range;have e1:p.toList[i]? = some (g p i):=by rw[Array.getElem?_toList];exact wv (by omega)
 have e2:p.toList[j]? = some (g p j):=by rw[Array.getElem?_toList];exact wv (by omega)
 have hl:i<p.toList.length:=by simpa [hs] using hi
 exact (List.getElem?_inj hl nd).mp (by rw[e1,e2,e])
theorem Gb {p:Array Nat}{src d:Nat}(hs:src<p.size) (hd:d<=src) (k:Nat):g (bubble p src d) k=if k=src-d then g p src else if src-d<k/\k<=src then g p (k-1) else g p k:=by
 have:=getElem?_bubble hs d hd k;unfold g;simp only[Array.getD_eq_getD_getElem?,this]
 repeat' split
 all_goals rfl
theorem qk {p:Array Nat}{m:Nat}(hm:m<=p.size) (k:Nat):g (kas_rev p 0 m) k=if k<m then g p (m-1-k) else g p k:=by
 have:=getElem?_mirror (xs:=p) (i:=0) (j:=m) hm ((m-0) / 2) (by omega) k
 unfold g kas_rev;simp only[Array.getD_eq_getD_getElem?,this];by_cases c:k<m
 ·rw[if_pos c]
  split
  ·congr 2;omega
  ·congr 2;omega
 ·rw[if_neg c,if_neg (by omega)]
theorem vB {n:Nat}{p:Array Nat}(h:Pm n p) (i j:Nat):Pm n (kas_rev p i j):=(mirror_perm _ _ _ _).trans h
theorem yX {n:Nat}{p:Array Nat}(h:Pm n p) (i j:Nat):Pm n (bubble p i j):=(bubble_perm _ _ _).trans h
section
variable {n:Nat}{lt:Nat->Nat->Bool}
noncomputable def Up (lt:Nat->Nat->Bool) (p:Array Nat) (m:Nat):Prop:=∀i j,i<j->j<m->lt (g p i) (g p j)=true
noncomputable def Dn (lt:Nat->Nat->Bool) (p:Array Nat) (m:Nat):Prop:=∀i j,i<j->j<m->lt (g p j) (g p i)=true
theorem jL (p:Array Nat):Up lt p 1:=λi j a b=>by omega
theorem v4 (O:Ord n lt) {p:Array Nat}(h:Pm n p) {m:Nat}(hm:m<n) (h1:1<=m) (u:Up lt p m) (c:lt (g p m) (g p (m-1))=false):Up lt p (m+1):=by
 have hl:lt (g p (m-1)) (g p m)=true:=O.tot _ _ (h.lt hm) (h.lt (by omega)) (λe=>by have:=h.inj hm (by omega) e;omega) c
 intro i j a b;by_cases z:j=m
 ·subst z
  by_cases y:i=j-1
  ·subst y;exact hl
  ·exact O.tr _ _ _ (h.lt (by omega)) (h.lt (by omega)) (h.lt hm) (u i (j-1) (by omega) (by omega)) hl
 ·exact u i j a (by omega)
theorem zA (O:Ord n lt) {p:Array Nat}(h:Pm n p):∀(f m:Nat),1<=m->m+f=n->Up lt p m->∃k,evT n lt (kas_asc p f m)=some k/\m<=k/\k<=n/\Up lt p k/\(k<n->lt (g p k) (g p (k-1))=true)
 |0,m,h1,e,u=>⟨m,rfl,Nat.le_refl _,by omega,u,λz=>by omega⟩
 |f+1,m,h1,e,u=>by
  unfold kas_asc;rw[WS ⟨h.lt (by omega),h.lt (by omega)⟩]
  cases c:lt (g p m) (g p (m-1)) with
  |true=>exact⟨m,by rw[if_pos rfl];rfl,Nat.le_refl _,by omega,u,λ_=>c⟩
  |false=>
   obtain⟨k,e1,e2,e3,e4⟩:=zA O h f (m+1) (by omega) (by omega) (v4 O h (by omega) h1 u c)
   exact⟨k,by rw[if_neg (by simp)];exact e1,by omega,e3,e4⟩
theorem yq (O:Ord n lt) {p:Array Nat}(h:Pm n p) {m:Nat}(hm:m<n) (h1:1<=m) (u:Dn lt p m) (c:lt (g p m) (g p (m-1))=true):Dn lt p (m+1):=by
 intro i j a b;by_cases z:j=m
 ·subst z
  by_cases y:i=j-1
  ·subst y;exact c
  ·exact O.tr _ _ _ (h.lt hm) (h.lt (by omega)) (h.lt (by omega)) c (u i (j-1) (by omega) (by omega))
 ·exact u i j a (by omega)
theorem yu (O:Ord n lt) {p:Array Nat}(h:Pm n p):∀(f m:Nat),1<=m->m+f=n->Dn lt p m->∃k,evT n lt (kas_desc f p m 0)=some (p,k,0)/\m<=k/\k<=n/\Dn lt p k
 |0,m,h1,e,u=>⟨m,rfl,Nat.le_refl _,by omega,u⟩
 |f+1,m,h1,e,u=>by
  unfold kas_desc;rw[WS ⟨h.lt (by omega),h.lt (by omega)⟩]
  cases c:lt (g p m) (g p (m-1)) with
  |true=>
   obtain⟨k,e1,e2,e3,e4⟩:=yu O h f (m+1) (by omega) (by omega) (yq O h (by omega) h1 u c)
   exact⟨k,by rw[if_pos rfl,if_neg (by omega)];exact e1,by omega,e3,e4⟩
  |false=>
   have hl:lt (g p (m-1)) (g p m)=true:=O.tot _ _ (h.lt (by omega)) (h.lt (by omega)) (λe=>by have:=h.inj (by omega) (by omega) e;omega) c
   refine⟨m,?_,Nat.le_refl _,by omega,u⟩
   rw[if_neg (by simp)]
   rw[WS ⟨h.lt (by omega),h.lt (by omega)⟩]
   show evT n lt (if lt (g p (m-1)) (g p m)=true then _ else _)=_
   rw[if_pos hl];rfl
theorem xZ (O:Ord n lt) {p:Array Nat}(h:Pm n p) (hn:1<=n):∃k p',evT n lt (kas_count n p)=some (k,p')/\1<=k/\k<=n/\Pm n p'/\Up lt p' k:=by
 obtain⟨k,e1,e2,e3,e4,e5⟩:=zA O h (n-1) 1 (Nat.le_refl _) (by omega) (jL p)
 unfold kas_count;rw[X5 e1];by_cases c:k=n
 ·exact⟨k,p,by rw[if_pos (by simpa using c)];rfl,e2,e3,h,e4⟩
 ·rw[if_neg (by simpa using c)]
  by_cases c1:k>1
  ·refine⟨k,p,?_,e2,e3,h,e4⟩
   rw[if_pos c1];rw[WS ⟨h.lt (by omega),h.lt (by omega)⟩]
   show evT n lt (if lt (g p 0) (g p (k-1))=true then _ else _)=_
   rw[if_pos (e4 0 (k-1) (by omega) (by omega))];rfl
  ·rw[if_neg c1]
   have hk:k=1:=by omega
   subst hk;have c2:=e5 (by omega)
   have d2:Dn lt p 2:=yq O h (by omega) (Nat.le_refl _) (λi j a b=>by omega) c2
   obtain⟨m,f1,f2,f3,f4⟩:=yu O h (n-(1+1)) 2 (by omega) (by omega) d2
   unfold kas_descPart;rw[X5 f1,if_neg (by simp)]
   unfold kas_tail3;have hu:Up lt (kas_rev p 0 m) m:=by
    intro i j a b;rw[qk (by rw[h.size];exact f3),qk (by rw[h.size];exact f3),if_pos (by omega),if_pos b]
    exact f4 _ _ (by omega) (by omega)
   obtain⟨k',a1,a2,a3,a4,_⟩:=zA O (vB h 0 m) (n-m) m (by omega) (by omega) hu
   exact⟨k',kas_rev p 0 m,by rw[X5 a1];rfl,by omega,a3,vB h 0 m,a4⟩
theorem Qh (O:Ord n lt) {p:Array Nat}(h:Pm n p) {k:Nat}(hk:k<n) (u:Up lt p k):∀(f l r:Nat),l<=r->r<=k->r-l<=f->(∀i,i<l->lt (g p i) (g p k)=true)->(∀i,r<=i->i<k->lt (g p k) (g p i)=true)->
  ∃m,evT n lt (kas_place p k f l r)=some m/\m<=k/\(∀i,i<m->lt (g p i) (g p k)=true)/\∀i,m<=i->i<k->lt (g p k) (g p i)=true
 |0,l,r,h1,h2,h3,a,b=>⟨l,rfl,by omega,a,λi z=>b i (by omega)⟩
 |f+1,l,r,h1,h2,h3,a,b=>by
  unfold kas_place;by_cases c:l>=r
  ·rw[if_pos c];exact⟨l,rfl,by omega,a,λi z=>b i (by omega)⟩
  ·rw[if_neg c]
   rw[WS ⟨h.lt hk,h.lt (by omega)⟩]
   cases q:lt (g p k) (g p ((l+r) / 2)) with
   |true=>
    rw[if_pos rfl];refine Qh O h hk u f l ((l+r) / 2) (by omega) (by omega) (by omega) a λi z1 z2=>?_
    by_cases y:i=(l+r) / 2
    ·rw[y];exact q
    ·exact O.tr _ _ _ (h.lt hk) (h.lt (by omega)) (h.lt (by omega)) q (u _ _ (by omega) z2)
   |false=>
    rw[if_neg (by simp)]
    have q':lt (g p ((l+r) / 2)) (g p k)=true:=O.tot _ _ (h.lt hk) (h.lt (by omega)) (λe=>by have:=h.inj hk (by omega) e;omega) q
    refine Qh O h hk u f ((l+r) / 2+1) r (by omega) h2 (by omega) (λi z=>?_) b
    by_cases y:i=(l+r) / 2
    ·rw[y];exact q'
    ·exact O.tr _ _ _ (h.lt (by omega)) (h.lt (by omega)) (h.lt hk) (u _ _ (by omega) (by omega)) q'
theorem wH (O:Ord n lt):∀(f:Nat) {p:Array Nat}{k:Nat},Pm n p->1<=k->k+f=n->Up lt p k->∃p',evT n lt (kas_bin f p k)=some p'/\Pm n p'/\Up lt p' n
 |0,p,k,h,h1,e,u=>⟨p,rfl,h,by
  have:k=n:=by omega
  rw[<-this];exact u⟩
 |f+1,p,k,h,h1,e,u=>by
  obtain⟨l,e1,e2,e3,e4⟩:=Qh O h (by omega) u k 0 k (by omega) (Nat.le_refl _) (by omega) (λi z=>by omega) (λi a b=>by omega)
  unfold kas_bin;rw[X5 e1];refine wH O f (yX h k (k-l)) (by omega) (by omega) ?_
  have hs:k<p.size:=by rw[h.size];omega
  intro i j a b;rw[Gb hs (by omega),Gb hs (by omega)]
  have y:k-(k-l)=l:=by omega
  rw[y];by_cases ci:i=l
  ·rw[if_pos ci,if_neg (by omega),if_pos (by omega)]
   exact e4 _ (by omega) (by omega)
  ·rw[if_neg ci]
   by_cases cj:j=l
   ·rw[if_pos cj,if_neg (by omega)]
    exact e3 _ (by omega)
   ·rw[if_neg cj]
    by_cases di:l<i/\i<=k
    ·rw[if_pos di,if_pos (by omega)]
     exact u _ _ (by omega) (by omega)
    ·rw[if_neg di]
     by_cases dj:l<j/\j<=k
     ·rw[if_pos dj];exact u _ _ (by omega) (by omega)
     ·rw[if_neg dj];exact u _ _ (by omega) (by omega)
theorem uJ (O:Ord n lt) (hn:1<=n):∃p,evT n lt (kas_sort n)=some p/\Pm n p/\Up lt p n:=by
 obtain⟨k,p,e1,e2,e3,e4,e5⟩:=xZ O (p:=List.toArray (List.range n)) (Array.Perm.refl _) hn;unfold kas_sort;rw[X5 e1];by_cases c:k<n
 ·rw[if_pos c]
  have:max k 1=k:=by omega
  rw[this];exact wH O (n-k) e4 e2 (by omega) e5
 ·rw[if_neg c]
  have:k=n:=by omega
  exact⟨p,rfl,e4,by rw[<-this];exact e5⟩
end
end Sq
namespace Sq
open PySem PySem.W PyProof.Rows PySem.Calls
section
variable {prog:Program}{w:World}{A:Around}{E:Value->Shared->Prop}{s:Shared}
noncomputable def Lat (h h':Heap):Prop:=∀b o,h.get? b=some o->h'.get? b=some o
structure Asks (prog:Program) (w:World) (A:Around) (h:Heap) (vs:List Value) (κ:SortKind) (lt:Nat->Nat->Bool):Prop where
 kind:2<=vs.length->∀(s':Shared) (E:Value->Shared->Prop) (Q:SortKind->Shared->Prop),Lat h s'.heap->Q κ s'->wpAny (model prog w) A (keyKind' vs.toArray) Q E s'
 cmp:∀i j,i<vs.length->j<vs.length->∀(s':Shared) (C:Bool->Shared->Prop) (E:Value->Shared->Prop),Lat h s'.heap->C (lt i j) s'->wpAny (model prog w) A (keyLt' κ (vs.getD i Value.none) (vs.getD j Value.none)) C E s'
noncomputable def ltR (b:Bool) (n:Nat) (lt:Nat->Nat->Bool):Nat->Nat->Bool:=λi j=>if b=true then lt (n-1-i) (n-1-j) else lt i j
theorem vU {b:Bool}{n:Nat}{lt:Nat->Nat->Bool}(O:Ord n lt):Ord n (ltR b n lt):=by
 cases b
 ·exact O
 ·exact⟨λi j hi hj ne h=>O.tot _ _ (by omega) (by omega) (by omega) h,λi j hi hj h=>O.asy _ _ (by omega) (by omega) h,λi j k hi hj hk h1 h2=>O.tr _ _ _ (by omega) (by omega) (by omega) h1 h2⟩
theorem JZ {b:Bool}{vs:List Value}{i:Nat}(hi:i<vs.length):(katRev b vs).getD i Value.none=vs.getD (if b=true then vs.length-1-i else i) Value.none:=by
 cases b
 ·rfl
 ·show vs.reverse.getD i Value.none=vs.getD (vs.length-1-i) Value.none
  simp only[List.getD_eq_getElem?_getD];rw[List.getElem?_reverse hi]
theorem yY (vs:List Value):(List.range vs.length).map (λi=>vs.getD i Value.none)=vs:=by
 apply List.ext_getElem?
 intro i;rw[List.getElem?_map];by_cases h:i<vs.length
 ·rw[List.getElem?_range h];simp[h]
 ·simp[Nat.le_of_not_lt h]
theorem list_sort_rev {a:Addr}{vs:List Value}{n:Nat}{b:Bool}{κ:SortKind}{lt:Nat->Nat->Bool}{P:PySem.Fin->Shared->Prop}{h0:Heap}(ho:s.heap.get? a=some (seqObj "list" vs.toArray n)) (h64:vs.length<64)
  (h00:∀b o,h0.get? b=some o->b≠a/\s.heap.get? b=some o) (O:Ord vs.length lt) (K:Asks prog w A h0 vs κ lt)
  (h:∀p,Pm vs.length p->Up (ltR b vs.length lt) p vs.length->P (.done (.ret .none)) { s with heap:=sortedHeap s.heap a vs (List.toArray (katRev b (p.toList.map λi=>(katRev b vs).getD i Value.none))) }) :
  wpAny (model prog w) A (Builtin.«list.sort» ⟨[.ref a],[(Str.ofString "reverse",.bool b)]⟩) P E s:=by
 rw[PyProof.Rows.list_sort_rev];have ha:a<s.heap.objs.size:=Heap.lt_size ho;refine wpAny_bind (listItems_at ho rfl ?_);refine wpAny_bind (listUpdate_at ho rfl ?_);obtain⟨e1,ho1⟩:∃e1,(s.heap.update a (Obj.mapSeq λ_=>#[])).get? a=some (seqObj "list" #[] e1):=⟨_,get?_update_seq ho (λ_=>#[])⟩
 refine wpAny_bind (seqEpoch_at ho1 rfl ?_);refine wpAny_bind (wpAny_newTuple ?_);refine wpAny_bind (wpAny_newList ?_);refine wpAny_holding ?_;have ho6:(((s.heap.update a (Obj.mapSeq λ_=>#[])).push (seqObj "tuple" vs.toArray 0)).push (seqObj "list" #[] 0)).get? a=some (seqObj "list" #[] e1):=by
  rw[Heap.get?_push_ne _ _ _ (by rw[size_push',Heap.size_update];exact Nat.ne_of_lt (Nat.lt_succ_of_lt ha)),Heap.get?_push_ne _ _ _ (by rw[Heap.size_update];exact Nat.ne_of_lt ha)]
  exact ho1
 have lat:Lat h0 (((s.heap.update a (Obj.mapSeq λ_=>#[])).push (seqObj "tuple" vs.toArray 0)).push (seqObj "list" #[] 0)):=λb o e=>by
  obtain⟨nb,e⟩:=h00 b o e;exact Heap.get?_push_of_some _ (Heap.get?_push_of_some _ (by rw[Heap.get?_update_ne _ _ _ _ nb];exact e))
 show wpAny (model prog w) A _ P E { s with heap:=((s.heap.update a (Obj.mapSeq λ_=>#[])).push (seqObj "tuple" vs.toArray 0)).push (seqObj "list" #[] 0) }
 generalize hs':((s.heap.update a (Obj.mapSeq λ_=>#[])).push (seqObj "tuple" vs.toArray 0)).push (seqObj "list" #[] 0)=h1 at ho6 lat ⊢
 dsimp only
 have step:∀t:Sem PySem.Fin,wpAny (model prog w) A t P E { s with heap:=h1 }->wpAny (model prog w) A (if b=true then (do let _ <-rule "list.sort.reverse";t) else t) P E { s with heap:=h1 }:=by
  intro t ht;split
  ·exact wpAny_bind (wpAny_rule ht)
  ·exact ht
 refine step _ ?_;have hrl:(katRev b vs).length=vs.length:=kat_len b vs;have fin:∀out:List Value,out.length=vs.length->(∃p,Pm vs.length p/\Up (ltR b vs.length lt) p vs.length/\out=p.toList.map λi=>(katRev b vs).getD i Value.none)->
   P (.done (.ret .none)) { s with heap:=h1.update a (Obj.mapSeq λ_=>List.toArray (katRev b out)) }:=by
  rintro out _ ⟨p,h1',h2',rfl⟩
  subst hs';exact h p h1' h2'
 by_cases h2:vs.toArray.size<2
 ·rw[if_pos h2,if_pos h2]
  refine wpAny_bind (wpAny_pure ?_);rw[StateT.run_pure];refine wpAny_bind (wpAny_pure ?_)
  dsimp only
  have hz:((arrOf (SortSt.mk' general' (if b=true then (vs.toArray.zip vs.toArray).reverse else vs.toArray.zip vs.toArray) #[] 7 none)).map (·.2))=List.toArray (katRev b vs):=by
   show ((if b=true then (vs.toArray.zip vs.toArray).reverse else vs.toArray.zip vs.toArray).map (·.2))=_
   rw[kat_pairs b rfl];apply Array.toList_inj.mp;rw[Array.toList_map,ksk_zip];show (List.zip (katRev b vs) (katRev b vs)).map Prod.snd=katRev b vs;exact List.map_snd_zip (Nat.le_refl _)
  rw[hz];refine wpAny_bind (seqEpoch_at ho6 rfl ?_);rw[kat_outs];refine wpAny_bind (listUpdate_at ho6 rfl ?_ (hsz2:=by rw[List.size_toArray];(try rw[kat_len]);(try rw[kat_len]);rw[sizeLine_eq];omega))
  simp only[bne_self_eq_false,Bool.false_eq_true,if_false];refine wpAny_pure (fin (katRev b vs) (kat_len b vs) ⟨List.toArray (List.range vs.length),Array.Perm.refl _,λi j a1 a2=>by rw[List.size_toArray] at h2;omega,?_⟩)
  rw[<-hrl];exact (yY _).symm
 ·rw[if_neg h2,if_neg h2]
  have l2:2<=vs.length:=by rw[List.size_toArray] at h2;omega
  refine wpAny_bind (K.kind l2 _ _ _ lat ?_);rw[kat_pairs b rfl];obtain⟨p,e1,e2,e3⟩:=uJ (vU (b:=b) O) (by omega)
  refine wpAny_bind (wpAny_mono (kat_run (s:={ s with heap:=h1 }) (vs:=katRev b vs) (ks:=katRev b vs) (κ:=κ) (G:=λp' s'=>s'={ s with heap:=h1 }/\p'=p) (Q:=λst' s'=>s'={ s with heap:=h1 }/\failedOf st'=none/\(arrOf st').map (·.2)=List.toArray (p.toList.map λi=>(katRev b vs).getD i Value.none)) rfl (by rw[hrl];exact l2) (by rw[hrl];exact h64)
   (λp' st' s' a1 a2 a3 a4=>⟨a4.1,a3,by rw[kat_snds rfl a2,a4.2]⟩) (by
    rw[hrl];refine wI (n:=vs.length) (lt:=ltR b vs.length lt) (λi j hi hj C hC=>?_) e1 ⟨rfl,rfl⟩
    unfold kas_ask;rw[JZ hi,JZ hj];cases b
    ·exact K.cmp i j hi hj _ _ _ lat hC
    ·exact K.cmp _ _ (by simp only[if_true];omega) (by simp only[if_true];omega) _ _ _ lat hC)) ?_ λ_ _ x=>x)
  rintro ⟨⟨⟩,st'⟩ s' ⟨rfl,hf,har⟩
  dsimp only
  rw[har];have hl:(p.toList.map λi=>(katRev b vs).getD i Value.none).length=vs.length:=by rw[List.length_map,Array.length_toList,e2.size]
  refine wpAny_bind (seqEpoch_at ho6 rfl ?_);rw[kat_outs];refine wpAny_bind (listUpdate_at ho6 rfl ?_ (hsz2:=by rw[List.size_toArray];(try rw[kat_len]);rw[hl,sizeLine_eq];omega))
  rw[hf];simp only[bne_self_eq_false,Bool.false_eq_true,if_false];exact wpAny_pure (fin _ hl ⟨p,e2,e3,rfl⟩)
theorem GX {l:Addr}{vs:List Value}{b:Bool}{κ:SortKind}{lt:Nat->Nat->Bool}{Q:Value->Shared->Prop}(hl:s.heap.IsList l vs.toArray) (h64:vs.length<64) (O:Ord vs.length lt) (K:Asks prog w A.in1.in1 s.heap vs κ lt)
  (h:∀p,Pm vs.length p->Up (ltR b vs.length lt) p vs.length->Q (.ref (s.heap.objs.size+1)) { s with heap:=sortedAll s.heap vs (List.toArray (katRev b (p.toList.map λi=>(katRev b vs).getD i Value.none))) }) :
  wpAny (model prog w) A (call (.builtin "sorted") [.ref l] [(Str.ofString "reverse",.bool b)]) Q E s:=by
 refine call_function_entry_kw kind_sorted plain_sorted entry_sorted (args_sorted_rev _ _) ?_;unfold Builtin.«sorted»;refine wpAny_bind (m:=checkCount "sorted" 1 1 _) (wpAny_pure ?_);refine wpAny_bind (collect_list hl ?_);refine wpAny_bind (wpAny_newList ?_);have hsz:((s.heap.push (seqObj "list" #[] 0)).update s.heap.objs.size (Obj.mapSeq (·++vs.toArray))).objs.size=s.heap.objs.size+1:=by
  rw[Heap.size_update,size_push']
 have hoL:(((s.heap.push (seqObj "list" #[] 0)).update s.heap.objs.size (Obj.mapSeq (·++vs.toArray))).push (seqObj "list" vs.toArray 0)).get? (s.heap.objs.size+1)=some (seqObj "list" vs.toArray 0):=by
  rw[<-hsz];exact Heap.get?_push_size _ rfl
 show wpAny _ _ _ _ _ { s with heap:=((s.heap.push (seqObj "list" #[] 0)).update s.heap.objs.size (Obj.mapSeq (·++vs.toArray))).push (seqObj "list" vs.toArray 0) }
 rw[hsz];refine wpAny_bind (wpAny_holding (wpAny_call_entry_kw slot_list_sort ⟨_,hoL,rfl⟩ entry_list_sort (list_sort_rev (h0:=s.heap) hoL h64 (λb o e=>?_) O K  λp a1 a2=>⟨_,rfl,?_⟩) (args_list_sort_rev _ _)))
 ·have hlt:b<s.heap.objs.size:=Heap.lt_size e
  refine⟨Nat.ne_of_lt (Nat.lt_succ_of_lt hlt),?_⟩;rw[Heap.get?_push_ne _ _ _ (by rw[hsz];exact Nat.ne_of_lt (Nat.lt_succ_of_lt hlt)),Heap.get?_update_ne _ _ _ _ (Nat.ne_of_lt hlt),Heap.get?_push_ne _ _ _ (Nat.ne_of_lt hlt)]
  exact e
 ·exact wpAny_pure ⟨_,rfl,h p a1 a2⟩
end
end Sq
namespace Sd
open PySem PySem.Spec PyProof.Rows L2
open Ev (D Ob Store Lc R E Sm Calls Walk Fl Fn Bop Cop Ty Bf Mf ev evs evo evt evw tst run runs)
section
variable {X:Cx}{pins:List (Addr×Obj)}{σ:L2.St}{H:Hp}{s:Shared}{A:Around}{E:Value->Shared->Prop}{b:Bool}{Q:Value->Shared->Prop}
theorem G5 {x:V}{u t:Value}{tp:Addr}{dd:Option Addr}{its:List Value}{n:Nat}{sl:Array (Option Value)}(I:Inv X pins σ H s) (rx:Z2 x u) (ty:TyOf X.K H x t) (htp:s.heap.get? tp=some ⟨.type "tuple",dd,.seq its.toArray n,sl⟩)
  (e:PySem.W.kitAny X.K t its=some b) (h:∀tk,Q (.bool b) { s with toks:=tk }):wpAny (model X.prog X.w) A (call (.builtin "isinstance") [u,.ref tp]) Q E s:=by
 cases ty with
 |non=>cases (show u=Value.none from rx);exact PySem.W.kia_tup PySem.W.kitx_none I.kIn True.intro htp e (λz=>nomatch z) h
 |bl y=>cases (show u=Value.bool y from rx);exact PySem.W.kia_tup PySem.W.kitx_bool I.kIn True.intro htp e (λz=>nomatch z) h
 |int i=>obtain⟨t,q⟩:=(show ∃t,u=Value.int i t from rx);cases q;exact PySem.W.kia_tup PySem.W.kitx_int I.kIn True.intro htp e (λz=>nomatch z) h
 |str y=>obtain⟨t,q⟩:=(show ∃t,u=Value.str y t from rx);cases q;exact PySem.W.kia_tup PySem.W.kitx_str I.kIn True.intro htp e (λz=>nomatch z) h
 |flt y=>obtain⟨t,q⟩:=(show ∃t,u=Value.float y t from rx);cases q;exact PySem.W.kia_tup PySem.W.kitx_float I.kIn True.intro htp e (λz=>nomatch z) h
 |@lst a xs ea=>
  cases (show u=Value.ref a from rx);obtain⟨_,_,n,_,h1⟩:=(show Yi X.prog X.w H s.heap a (.lst xs) from I.hok a _ ea)
  exact PySem.W.kia_tup PySem.W.kitx_list I.kIn ⟨_,h1,rfl⟩ htp e (λz=>nomatch z) h
 |@frz a ob xs ea=>
  cases (show u=Value.ref a from rx);obtain⟨_,_,_,n,_,h1⟩:=(show Yi X.prog X.w H s.heap a (.frz ob (.lst xs)) from I.hok a _ ea)
  exact PySem.W.kia_tup PySem.W.kitx_list I.kIn ⟨_,h1,rfl⟩ htp e (λz=>nomatch z) h
 |@tup a xs ea=>
  cases (show u=Value.ref a from rx);obtain⟨_,_,_,p⟩:=(show Yi X.prog X.w H s.heap a (.tup xs) from I.hok a _ ea)
  obtain⟨o,h1,h2,_⟩:=p;exact PySem.W.kia_tup PySem.W.kitx_tuple I.kIn ⟨o,h1,h2⟩ htp e (λz=>nomatch z) h
 |@dK a kvs ea=>
  cases (show u=Value.ref a from rx);obtain⟨_,_,vs,_,p⟩:=(show Yi X.prog X.w H s.heap a (.dK kvs) from I.hok a _ ea)
  obtain⟨o,es,ep,h1,h2,_⟩:=p;exact PySem.W.kia_tup PySem.W.kitx_dict I.kIn ⟨o,h1,h2.1⟩ htp e (λz=>nomatch z) h
 |@dT a kvs ea=>
  cases (show u=Value.ref a from rx);obtain⟨_,_,xs,_,o,es,ep,h1,h2,_⟩:=(show Yi X.prog X.w H s.heap a (.dT kvs) from I.hok a _ ea)
  exact PySem.W.kia_tup PySem.W.kitx_dict I.kIn ⟨o,h1,h2.1⟩ htp e (λz=>nomatch z) h
 |@ins a C dx fs ea cl ha hn htk hm=>
  cases (show u=Value.ref a from rx);obtain⟨mA,O,_⟩:=zM I.hok ea
  obtain⟨od,J,_⟩:=O.look;exact PySem.W.kia_tup (PySem.W.kitx_own (cl.get _) cl.hd ha hn htk hm) I.kIn J htp e (λz=>nomatch z) h
end
section
variable {X:Cx}{xw:Nat->Hp->Prop}{C:Calls}{e a b c:Expr}{i j k:E}{pos p p' p2 p3:Pos}
theorem xy (T U:String):Yc X (.builtin "isinstance") (λvs H Q=>∃v tv n q,vs=[v,.ref q]/\H q=some (.tup [.ty T,.ty U])/\TyOf X.K H v tv/\PySem.W.kitAny X.K tv [.type T,.type U]=some n/\Q (.bl n) H):=by
 intro pins s σ H vs us Q I r h;obtain⟨v,tv,n,q,rfl,hq,ty,e,qq⟩:=h;obtain⟨u,w',rfl,r1,r2⟩:=vals2 r;cases r2;obtain⟨its,rv,⟨o,ho,hc,m,hd⟩,_⟩:=I.tuple (SqT.of hq);obtain⟨cls,dd,data,sl⟩:=o;simp only at hc hd;subst hc hd;obtain⟨z1,z2,rfl,q1,q2⟩:=vals2 rv;cases q1;cases q2;exact G5 I r1 ty ho e λtk=>⟨.bl n,H,I.tok tk,rfl,qq⟩
theorem TyOf.later {K:PySem.W.Frag}{H:Hp}{v:V}{tv:Value}{q:Addr}{o:HO}(h:TyOf K H v tv) (hq:H q=none):TyOf K (upd H q o) v tv:=by
 cases h with
 |non=>exact .non
 |bl b=>exact .bl b
 |int b=>exact .int b
 |str b=>exact .str b
 |flt b=>exact .flt b
 |lst e=>exact .lst (by rw[Z0 (ZV e hq)];exact e)
 |frz e=>exact .frz (by rw[Z0 (ZV e hq)];exact e)
 |tup e=>exact .tup (by rw[Z0 (ZV e hq)];exact e)
 |dK e=>exact .dK (by rw[Z0 (ZV e hq)];exact e)
 |dT e=>exact .dT (by rw[Z0 (ZV e hq)];exact e)
 |ins e a1 a2 a3 a4 a5=>exact .ins (by rw[Z0 (ZV e hq)];exact e) a1 a2 a3 a4 a5
theorem TyOf.uniq {K:PySem.W.Frag}{H:Hp}{v:V}{t1 t2:Value}(h1:TyOf K H v t1) (h2:TyOf K H v t2):t1=t2:=by
 cases h1 <;> cases h2 <;> first | rfl | simp_all
theorem Jf {T U:Str}{t u:Ty}{k0:Nat}{p4:Pos}(ht:∀m,t≠.cls m) (hu:∀m,u≠.cls m) (hm:X.mg "isinstance" = none) (hmT:X.mg T=none) (hmU:X.mg U=none) (ha:CE X xw C a i) (hg:Gl X "isinstance":=by rfl) (hgT:Gl X T:=by rfl) (hgU:Gl X U:=by rfl) (hvT:bootBuiltins T=some (.type (ZU t)):=by rfl) (hvU:bootBuiltins U=some (.type (ZU u)):=by rfl) (hnT:T≠"__name__":=by decide) (hdT:(T == ("__debug__" : Str))=false:=by decide) (hnU:U≠"__name__":=by decide) (hdU:(U == ("__debug__" : Str))=false:=by decide)
  (hs0:starEach [.Name T p2,.Name U p3] X.env=(false,eval (.Name T p2) X.env)::starEach [.Name U p3] X.env:=by rfl) (hs00:starEach [.Name U p3] X.env=(false,eval (.Name U p3) X.env)::starEach [] X.env:=by rfl)
  (hs1:starEach [a,.Tuple [.Name T p2,.Name U p3] k0 p4] X.env=(false,eval a X.env)::starEach [.Tuple [.Name T p2,.Name U p3] k0 p4] X.env:=by rfl) (hs2:starEach [.Tuple [.Name T p2,.Name U p3] k0 p4] X.env=(false,eval (.Tuple [.Name T p2,.Name U p3] k0 p4) X.env)::starEach [] X.env:=by rfl) (hpl:(backTo pos (starEach [.Tuple [.Name T p2,.Name U p3] k0 p4] X.env)).any (·.1)=false:=by rfl) :
  CE X xw C (.Call (.Name "isinstance" p) [a,.Tuple [.Name T p2,.Name U p3] k0 p4] [] pos) (.isi i [t,u]):=
 PE.imp (UP (xy (ZU t) (ZU u)) hg hm (by rfl) (Wc ha (Wc (xC (Wc (JA (v:=.ty (ZU t)) hgT hmT hvT rfl hnT hdT) (Wc (JA (v:=.ty (ZU u)) hgU hmU hvU rfl hnU hdU) JN hs00) hs0)) JN hs2) hs1) (by decide) (by decide) hs1 hpl) λσ H Q ⟨ρ,l,S,st,lr,h⟩=>by
  refine⟨ρ,l,S,st,lr,End.bind (show End X.K xw Rep ρ H Q ((ev C i l S).bind _) from h) λx S1 ρ1 H1 v f1 st1 r1 h1=>⟨by show 2<=sizeLine;rw[sizeLine_eq];omega,λq hq=>?_⟩⟩
  obtain⟨n,hn,h2⟩:=End.ob h1;have st2:=st1.fresh (o:=.tup [.ty (ZU t),.ty (ZU u)]) hq;have f2:=YE (ρ:=ρ1) (o:=.tup [.ty (ZU t),.ty (ZU u)]) hq;have fin:∀tv,TyOf X.K H1 v tv->PySem.W.kitAny X.K tv [.type (ZU t),.type (ZU u)]=some n->_:=λtv ty e=>(⟨v,tv,n,q,rfl,YH,TyOf.later ty hq,e,h2 ρ1 _ _ f2 st2 (ZH n)⟩:∃v' tv n q',[v,V.ref q]=[v',.ref q']/\upd H1 q (.tup [.ty (ZU t),.ty (ZU u)]) q'=some (.tup [.ty (ZU t),.ty (ZU u)])/\TyOf X.K (upd H1 q (.tup [.ty (ZU t),.ty (ZU u)])) v' tv/\PySem.W.kitAny X.K tv [.type (ZU t),.type (ZU u)]=some n/\Q (.bl n) (upd H1 q (.tup [.ty (ZU t),.ty (ZU u)])))
  unfold Ev.UV at hn;cases q1:Ev.GP S1 x t with
  |none=>rw[q1] at hn;cases hn
  |some m=>
   rw[q1] at hn;obtain⟨tv,ty,e⟩:=zr st1 r1 ht q1;cases m with
   |true=>
    have hn':n=true:=(Option.some.inj hn).symm;exact fin tv ty (by unfold PySem.W.kitAny;rw[e,hn'])
   |false=>
    have hn1:(match Ev.GP S1 x u with
     |some true=>some true
     |some false=>Ev.UV S1 x []
     |none=>none)=some n:=hn
    cases q2:Ev.GP S1 x u with
    |none=>rw[q2] at hn1;cases hn1
    |some m2=>
     rw[q2] at hn1;obtain⟨tv2,ty2,e2⟩:=zr st1 r1 hu q2;have et:tv2=tv:=TyOf.uniq ty2 ty;subst et;refine fin tv2 ty ?_;unfold PySem.W.kitAny;rw[e];show PySem.W.kitAny X.K tv2 [.type (ZU u)]=some n;unfold PySem.W.kitAny;rw[e2];cases m2 with
     |true=>exact hn1
     |false=>exact hn1
end
end Sd
namespace Sd
open Ev (ltI VP Z8)
theorem Jm:∀{x y:List Int},x≠y->ltI x y=false->ltI y x=true
 |[],[],h,_=>absurd rfl h
 |[],_::_,_,h=>by cases h
 |_::_,[],_,_=>rfl
 |a::x,b::y,h,e=>by
  unfold ltI at e ⊢;by_cases c:a=b
  ·subst c
   rw[if_pos rfl] at e ⊢;exact Jm (λz=>h (by rw[z])) e
  ·rw[if_neg c] at e
   rw[if_neg (Ne.symm c)];have:=of_decide_eq_false e;exact decide_eq_true (by omega)
theorem Wh:∀{x y:List Int},ltI x y=true->ltI y x=false
 |[],[],h=>by cases h
 |[],_::_,_=>rfl
 |_::_,[],h=>by cases h
 |a::x,b::y,e=>by
  unfold ltI at e ⊢;by_cases c:a=b
  ·subst c
   rw[if_pos rfl] at e ⊢;exact Wh e
  ·rw[if_neg c] at e
   rw[if_neg (Ne.symm c)];have:=of_decide_eq_true e;exact decide_eq_false (by omega)
theorem zb:∀{x y z:List Int},ltI x y=true->ltI y z=true->ltI x z=true
 |[],[],_,h,_=>by cases h
 |_::_,[],_,h,_=>by cases h
 |_,_::_,[],_,h=>by cases h
 |[],_::_,_::_,_,_=>rfl
 |a::x,b::y,c::z,e,f=>by
  unfold ltI at e f ⊢;by_cases h1:a=b
  ·subst h1
   rw[if_pos rfl] at e;by_cases h2:a=c
   ·subst h2
    rw[if_pos rfl] at f ⊢;exact zb e f
   ·rw[if_neg h2] at f ⊢;exact f
  ·rw[if_neg h1] at e
   have e':=of_decide_eq_true e;by_cases h2:b=c
   ·subst h2
    rw[if_neg h1];exact e
   ·rw[if_neg h2] at f
    have f':=of_decide_eq_true f;rw[if_neg (by omega)]
    exact decide_eq_true (by omega)
theorem VR (x:List Int):∀l:List (List Int),(VP x l).Perm (x::l)
 |[]=>List.Perm.refl _
 |y::r=>by
  unfold VP;split
  ·exact List.Perm.refl _
  ·exact ((VR x r).cons y).trans (List.Perm.swap x y r)
theorem XE:∀l:List (List Int),(Z8 l).Perm l
 |[]=>List.Perm.refl _
 |x::r=>(VR x (Z8 r)).trans ((XE r).cons x)
theorem Ui (x:List Int):∀{l:List (List Int)},(∀y∈l,x≠y)->l.Pairwise (λa b=>ltI a b=true)->(VP x l).Pairwise (λa b=>ltI a b=true)
 |[],_,_=>by unfold VP;exact List.pairwise_singleton ..
 |y::r,hn,h=>by
  rw[List.pairwise_cons] at h;unfold VP;split
  ·rename_i c
   rw[List.pairwise_cons,List.pairwise_cons];refine⟨λz hz=>?_,h⟩
   rcases List.mem_cons.mp hz with rfl | hz
   ·exact c
   ·exact zb c (h.1 z hz)
  ·rename_i c
   rw[List.pairwise_cons];refine⟨λz hz=>?_,Ui x (λy hy=>hn y (List.mem_cons_of_mem _ hy)) h.2⟩
   rcases List.mem_cons.mp ((VR x r).mem_iff.mp hz) with rfl | hz
   ·exact Jm (hn y (List.mem_cons_self ..)) (by simpa using c)
   ·exact h.1 z hz
theorem Wi:∀{l:List (List Int)},l.Nodup->(Z8 l).Pairwise (λa b=>ltI a b=true)
 |[],_=>List.Pairwise.nil
 |x::r,h=>by
  rw[List.nodup_cons] at h;exact Ui x (λy hy e=>h.1 (by rw[e];exact (XE r).mem_iff.mp hy)) (Wi h.2)
theorem XM:∀{a b:List (List Int)},a.Perm b->a.Pairwise (λx y=>ltI x y=true)->b.Pairwise (λx y=>ltI x y=true)->a=b
 |[],b,p,_,_=>(List.Perm.nil_eq p)
 |x::a,[],p,_,_=>by have:=p.length_eq;simp at this
 |x::a,y::b,p,ha,hb=>by
  rw[List.pairwise_cons] at ha hb;have e:x=y:=by
   rcases List.mem_cons.mp (p.mem_iff.mp (List.mem_cons_self ..)) with h | h
   ·exact h
   ·rcases List.mem_cons.mp (p.mem_iff.mpr (List.mem_cons_self (a:=y) (l:=b))) with h2 | h2
    ·exact h2.symm
    ·have z1:=hb.1 x h
     have z2:=ha.1 y h2;rw[Wh z1] at z2;cases z2
  subst e;rw[XM (List.perm_cons x |>.mp p) ha.2 hb.2]
end Sd
namespace Sd
open PySem PySem.Spec PyProof.Rows L2
open Ev (D Ob Store Lc R E Sm Calls Walk Fl Fn Bop Cop Ty Bf Mf ev evs evo evt evw tst run runs ltI VP Z8 Y9 QU Vt YA)
noncomputable def zw (fin:Bool):List Int->List Int->Bool
 |[],_=>fin
 |_::_,[]=>fin
 |a::x,b::y=>if a=b then zw fin x y else decide (a<b)
theorem zJ:∀(x y:List Int),zw (decide (x.length<y.length)) x y=ltI x y
 |[],[]=>rfl
 |[],_::_=>by unfold zw ltI;simp
 |_::_,[]=>by unfold zw ltI;simp
 |a::x,b::y=>by
  unfold zw ltI;have:decide ((a::x).length<(b::y).length)=decide (x.length<y.length):=by simp
  rw[this,zJ x y]
section
variable {prog:Program}{w:World}{A:Around}{s:Shared}
theorem GU {b fin:Bool}{C:Bool->Shared->Prop}:∀{x y:List Int}{u v:List Value}{i:Nat},Vals (x.map V.int) u->Vals (y.map V.int) v->C (zw fin x y) s->PySem.W.KatLex prog w A b fin C (u.zip v) i s
 |[],_,_,_,_,.nil,_,h=>by rw[List.zip_nil_left];exact PySem.W.kat_nil h
 |_::_,[],_,_,_,_,.nil,h=>by rw[List.zip_nil_right];exact PySem.W.kat_nil h
 |a::x,c::y,_,_,i,.cons ra ta,.cons rb tb,h=>by
  obtain⟨t,rfl⟩:=ra;obtain⟨t',rfl⟩:=rb;rw[List.zip_cons_cons];refine PySem.W.kat_cons (wpAny_eqBool_int ?_);unfold zw at h;by_cases e:a=c
  ·rw[if_pos e] at h
   rw[beq_iff_eq.mpr e];exact PySem.W.kat_yes (GU ta tb h)
  ·rw[if_neg e] at h
   rw[beq_eq_false_iff_ne.mpr e];refine PySem.W.kat_no ?_;cases q:(b&&i == 0) with
   |true=>exact oneLt_int h
   |false=>exact PySem.W.kat_one _ _ (lt_int h)
end
section
variable {X:Cx}{pins:List (Addr×Obj)}{σ:L2.St}{H:Hp}{s:Shared}{ρ:List Addr}
inductive RowsAt (h:Heap):List (List Int)->List Value->Prop where
 |nil:RowsAt h [] []
 |cons {r:List Int} {rs:List (List Int)} {vs:List Value} {a:Addr} {o:Obj} {us:List Value} {m:Nat} (ho:h.get? a=some o) (hc:o.cls=.type "tuple") (hd:o.data=.seq us.toArray m) (hv:Vals (r.map V.int) us) (t:RowsAt h rs vs):RowsAt h (r::rs) (.ref a::vs)
theorem U2:∀{ks:List D}{k:List Int},Ev.Xp ks=some k->ks=k.map D.int
 |[],k,h=>by cases h;rfl
 |.int n::ks,k,h=>by
  have h':(Ev.Xp ks).map (n :: ·)=some k:=h
  cases q:Ev.Xp ks with
  |none=>rw[q] at h';cases h'
  |some k'=>
   rw[q] at h';have e:n::k'=k:=Option.some.inj h';rw[<-e,U2 q];rfl
 |.non::_,_,h | .bl _::_,_,h | .str _::_,_,h | .tup _::_,_,h | .loc _::_,_,h | .fn _::_,_,h | .exc _ _::_,_,h=>by cases h
theorem xu {d:D}{r:List Int}(h:QU d=some r):d=Vt r:=by
 cases d with
 |tup ks=>exact congrArg D.tup (U2 h)
 |_=>cases h
theorem Reps.intsV:∀{r:List Int}{xs:List V},Reps ρ H (r.map D.int) xs->xs=r.map V.int
 |[],xs,h=>by unfold Reps at h;exact h
 |n::r,xs,h=>by
  have h':Reps ρ H (D.int n::r.map D.int) xs:=h;unfold Reps at h';obtain⟨v,vs,rfl,a,b⟩:=h';rw[a.int',Reps.intsV b];rfl
theorem zP (I:Inv X pins σ H s):∀{ds:List D}{rs:List (List Int)}{xs:List V}{its:List Value},Y9 ds=some rs->Reps ρ H ds xs->Vals xs its->RowsAt s.heap rs its/\ds=rs.map Vt
 |[],rs,xs,its,h,r,v=>by
  unfold Reps at r;subst r;cases v;cases h;exact⟨.nil,rfl⟩
 |d::ds,rs,xs,its,h,r,v=>by
  unfold Reps at r;obtain⟨x,xs',rfl,r1,r2⟩:=r;cases v with
  |cons v1 v2=>
   unfold Y9 at h;cases q1:QU d with
   |none=>rw[q1] at h;cases h
   |some a=>
    cases q2:Y9 ds with
    |none=>rw[q1,q2] at h;cases h
    |some b=>
     rw[q1,q2] at h;cases h;obtain⟨t,e⟩:=zP I q2 r2 v2;have ed:=xu q1;subst ed;obtain⟨p,ys,rfl,hp,ry⟩:=r1.tup';have ey:=Reps.intsV ry;subst ey;cases v1;obtain⟨us,rv,⟨o,ho,hc,m,hd⟩,_⟩:=I.tuple (SqT.of hp);exact⟨.cons ho hc hd rv t,by rw[e];rfl⟩
theorem RowsAt.length {h:Heap}:∀{rs:List (List Int)}{vs:List Value},RowsAt h rs vs->rs.length=vs.length
 |_,_,.nil=>rfl
 |_,_,.cons _ _ _ _ t=>by rw[List.length_cons,List.length_cons,RowsAt.length t]
theorem RowsAt.at {h:Heap}:∀{rs:List (List Int)}{vs:List Value}(i:Nat),RowsAt h rs vs->i<vs.length->∃a o us m,vs.getD i Value.none=.ref a/\h.get? a=some o/\o.data=.seq us.toArray m/\Vals ((rs.getD i []).map V.int) us
 |_,_,_,.nil,hi=>by simp at hi
 |_,_,0,.cons ho hc hd hv t,_=>⟨_,_,_,_,rfl,ho,hd,hv⟩
 |_,_,i+1,.cons ho hc hd hv t,hi=>by
  obtain⟨a,o,us,m,e1,e2,e3,e4⟩:=RowsAt.at i t (by simpa using hi)
  exact⟨a,o,us,m,by simpa using e1,e2,e3,by simpa using e4⟩
theorem RowsAt.tups {h h':Heap}(k:Sq.Lat h h'):∀{rs:List (List Int)}{vs:List Value},RowsAt h rs vs->(∀r∈rs,r≠[])->∃fs,PySem.W.KatTups h' vs fs/\fs.length=vs.length/\∀v∈fs,∃n t,v=Value.int n t
 |_,_,.nil,_=>⟨[],.nil,rfl,λv hv=>by cases hv⟩
 |_,_,.cons (r:=r) (us:=us) ho hc hd hv t,hn=>by
  obtain⟨fs,t1,t2,t3⟩:=RowsAt.tups k t λr hr=>hn r (List.mem_cons_of_mem _ hr)
  have hr:=hn r (List.mem_cons_self ..);cases r with
  |nil=>exact absurd rfl hr
  |cons n r=>
   obtain⟨u,g,rel⟩:=hv.get (i:=0) (x:=V.int n) rfl;refine⟨u::fs,.cons (k _ _ ho) hc hd (by simpa using g) t1,by rw[List.length_cons,List.length_cons,t2],λv hv=>?_⟩
   rcases List.mem_cons.mp hv with rfl | hv
   ·obtain⟨tk,e⟩:=rel
    exact⟨n,tk,e⟩
   ·exact t3 v hv
theorem yF {prog:Program}{w:World}{A:Around}{h:Heap}{rs:List (List Int)}{vs:List Value}(R:RowsAt h rs vs) (hn:∀r∈rs,r≠[]):Sq.Asks prog w A h vs (tuples' true) (λi j=>ltI (rs.getD i []) (rs.getD j [])):=by
 refine⟨λh2 s' E Q k q=>?_,λi j hi hj s' C E k q=>?_⟩
 ·obtain⟨fs,t1,t2,t3⟩:=R.tups k hn
  exact PySem.W.kat_kind (T:=.type "int") t1 (by omega) (λv hv=>by obtain⟨n,t,rfl⟩:=t3 v hv;exact PySem.W.Looks.of_pure rfl) rfl q
 ·obtain⟨a,o,us,m,e1,e2,e3,e4⟩:=R.at i hi
  obtain⟨a',o',us',m',f1,f2,f3,f4⟩:=R.at j hj;rw[e1,f1];refine PySem.W.kat_lt (k _ _ e2) e3 (k _ _ f2) f3 (GU e4 f4 ?_);have l1:us.toArray.size=(rs.getD i []).length:=by rw[List.size_toArray,<-e4.length,List.length_map]
  have l2:us'.toArray.size=(rs.getD j []).length:=by rw[List.size_toArray,<-f4.length,List.length_map]
  rw[l1,l2,zJ];exact q
theorem wP {rs:List (List Int)}{n:Nat}(hn:rs.Nodup) (hl:rs.length=n):Sq.Ord n (λi j=>ltI (rs.getD i []) (rs.getD j [])):=by
 have hd:∀i j,i<n->j<n->i≠j->rs.getD i []≠rs.getD j []:=λi j hi hj ne e=>by
  simp only[List.getD_eq_getElem?_getD] at e;have hi':i<rs.length:=by omega
  have hj':j<rs.length:=by omega
  refine ne ((List.getElem?_inj hi' hn).mp ?_);rw[List.getElem?_eq_getElem hi',List.getElem?_eq_getElem hj'] at e ⊢;exact congrArg some e
 exact⟨λi j hi hj ne e=>Jm (hd i j hi hj ne) e,λi j _ _ e=>Wh e,λi j k _ _ _ e f=>zb e f⟩
theorem Qm {α β:Type}(b:Bool) (f:α->β) (l:List α):PySem.W.katRev b (l.map f)=(PySem.W.katRev b l).map f:=by
 cases b
 ·rfl
 ·exact List.map_reverse.symm
theorem Gg {α:Type}(b:Bool) (l:List α):(PySem.W.katRev b l).Perm l:=by
 cases b
 ·exact List.Perm.refl _
 ·exact List.reverse_perm l
theorem Uk {α:Type}{d:α}{b:Bool}{vs:List α}{i:Nat}(hi:i<vs.length):(PySem.W.katRev b vs).getD i d=vs.getD (if b=true then vs.length-1-i else i) d:=by
 cases b
 ·rfl
 ·show vs.reverse.getD i d=vs.getD (vs.length-1-i) d
  simp only[List.getD_eq_getElem?_getD];rw[List.getElem?_reverse hi]
theorem vw {rs:List (List Int)}{b:Bool}{p:Array Nat}(hn:rs.Nodup) (h1:Sq.Pm rs.length p) (h2:Sq.Up (Sq.ltR b rs.length λi j=>ltI (rs.getD i []) (rs.getD j [])) p rs.length) :
  (p.toList.map λi=>(PySem.W.katRev b rs).getD i [])=Z8 rs:=by
 have hp:p.toList.Perm (List.range rs.length):=by simpa using Array.perm_iff_toList_perm.mp h1
 have hl:p.toList.length=rs.length:=by rw[hp.length_eq,List.length_range]
 refine XM ?_ ?_ (Wi hn)
 ·refine ((hp.map _).trans ?_).trans (XE rs).symm
  have e:(List.range rs.length).map (λi=>(PySem.W.katRev b rs).getD i [])=PySem.W.katRev b rs:=by
   apply List.ext_getElem?
   intro i;rw[List.getElem?_map];by_cases h:i<rs.length
   ·have:i<(PySem.W.katRev b rs).length:=by rw[PySem.W.kat_len];exact h
    rw[List.getElem?_range h];simp[this]
   ·have:(PySem.W.katRev b rs).length<=i:=by rw[PySem.W.kat_len];omega
    simp[Nat.le_of_not_lt h,this]
  rw[e];exact Gg b rs
 ·rw[List.pairwise_map,List.pairwise_iff_getElem]
  intro i j hi hj hij;have g1:p.toList[i]=Sq.g p i:=by
   have:=Sq.wv (p:=p) (i:=i) (by simpa using hi)
   rw[<-Array.getElem?_toList,List.getElem?_eq_getElem hi] at this;exact Option.some.inj this
  have g2:p.toList[j]=Sq.g p j:=by
   have:=Sq.wv (p:=p) (i:=j) (by simpa using hj)
   rw[<-Array.getElem?_toList,List.getElem?_eq_getElem hj] at this;exact Option.some.inj this
  rw[g1,g2,Uk (h1.lt (by omega)),Uk (h1.lt (by omega))]
  have:=h2 i j hij (by omega)
  unfold Sq.ltR at this;cases b
  ·exact this
  ·exact this
theorem wZ {F:List Nat}{xs:List V}{rs:List (List Int)}(h:Reps ρ H (rs.map Vt) xs) (hF:∀i∈F,i<rs.length):Reps ρ H ((F.map λi=>rs.getD i []).map Vt) (F.map λi=>xs.getD i V.non):=by
 induction F with
 |nil=>exact Reps.nil
 |cons i F ih=>
  refine Reps.cons ?_ (ih λj hj=>hF j (List.mem_cons_of_mem _ hj))
  have hi:=hF i (List.mem_cons_self ..);obtain⟨v,g,r⟩:=h.get (i:=i) (d:=Vt rs[i]) (by rw[List.getElem?_map,List.getElem?_eq_getElem hi];rfl)
  show Rep ρ H (Vt (rs.getD i [])) (xs.getD i V.non);rw[List.getD_eq_getElem?_getD,List.getD_eq_getElem?_getD,g,List.getElem?_eq_getElem hi];exact r
theorem xE {F:List Nat}{xs:List V}{us:List Value}(h:Vals xs us) (hF:∀i∈F,i<xs.length):Vals (F.map λi=>xs.getD i V.non) (F.map λi=>us.getD i Value.none):=by
 induction F with
 |nil=>exact .nil
 |cons i F ih=>
  refine .cons ?_ (ih λj hj=>hF j (List.mem_cons_of_mem _ hj))
  have hi:=hF i (List.mem_cons_self ..);obtain⟨u,g,r⟩:=h.get (List.getElem?_eq_getElem hi);show Z2 (xs.getD i V.non) (us.getD i Value.none);rw[List.getD_eq_getElem?_getD,List.getD_eq_getElem?_getD,g,List.getElem?_eq_getElem hi];exact r
theorem JW {b:Bool}{ds:List D}{xs:List V}(h:Reps ρ H ds xs):Reps ρ H (PySem.W.katRev b ds) (PySem.W.katRev b xs):=by
 cases b
 ·exact h
 ·exact h.reverse
theorem Gm {b:Bool}:∀{xs:List V}{us:List Value},Vals xs us->Vals (PySem.W.katRev b xs) (PySem.W.katRev b us):=by
 cases b
 ·exact λh=>h
 ·have snoc:∀{xs:List V} {us:List Value} {x:V} {u:Value},Vals xs us->Z2 x u->Vals (xs++[x]) (us++[u]):=by
   intro xs us x u h r
   induction h with
   |nil=>exact .cons r .nil
   |cons a _ ih=>exact .cons a ih
  intro xs us h;show Vals xs.reverse us.reverse
  induction h with
  |nil=>exact .nil
  |cons r t ih=>rw[List.reverse_cons,List.reverse_cons];exact snoc ih r
end
end Sd
namespace Sd
open PySem PySem.Spec PyProof.Rows L2
open Ev (D Ob Store Lc R E Sm Calls Walk Fl Fn Bop Cop Ty Bf Mf ev evs evo evt evw tst run runs ltI VP Z8 Y9 QU Vt YA)
section
variable {X:Cx}{xw:Nat->Hp->Prop}{C:Calls}{e a b c:Expr}{i j k:E}{pos p p' p2 p3:Pos}
noncomputable def qi (K:PySem.W.Frag) (xw:Nat->Hp->Prop) (b:Bool):List V->Hp->VK->Prop:=λvs H Q=>∃ρ S n,St3 K ρ S H/\Reps ρ H [.loc n] vs/\End K xw Rep ρ H Q (Ev.sorted b n S)
theorem y8 {pins:List (Addr×Obj)}{s:Shared}{σ:L2.St}{H:Hp}{vs:List V}{us:List Value}{Q:VK}{b:Bool}(I:Inv X pins σ H s) (r:Vals vs us) (h:qi X.K xw b vs H Q) :
  ∃(l:Addr) (its:List Value) (rs:List (List Int)),us=[.ref l]/\s.heap.IsList l its.toArray/\its.length<64/\rs.length=its.length/\Sq.Ord its.length (λi j=>ltI (rs.getD i []) (rs.getD j []))/\(∀A,Sq.Asks X.prog X.w A s.heap its (tuples' true) (λi j=>ltI (rs.getD i []) (rs.getD j [])))/\
   ∀p,Sq.Pm its.length p->Sq.Up (Sq.ltR b its.length λi j=>ltI (rs.getD i []) (rs.getD j [])) p its.length->
    EP X pins σ Q (.ref (s.heap.objs.size+1)) { s with heap:=sortedAll s.heap its (List.toArray (PySem.W.katRev b (p.toList.map λi=>(PySem.W.katRev b its).getD i Value.none))) }:=by
 obtain⟨ρ,S,n,st,rs,h⟩:=h;obtain⟨ds,hl,h1⟩:=End.ob (show End X.K xw Rep ρ H Q ((Ev.ob (Ev.Zv S n) S).bind λxs S=>(Ev.ob (Y9 xs) S).bind λrs S=>if YA rs=true then .ok (.loc S.length) (S++[.lst ((if b then (Z8 rs).reverse else Z8 rs).map Vt)]) else .no) from h)
 obtain⟨rws,hrw,h2⟩:=End.ob h1;obtain⟨hok,h3⟩:=h2.guard;obtain⟨v,rfl,r1⟩:=reps1 rs;obtain⟨_,l,xs,q1,hx,rx⟩:=st.lst hl;obtain⟨l',rfl,t⟩:=r1.loc';rw[q1] at t;cases t;obtain⟨u,rfl,ru⟩:=vals1 r;cases ru;obtain⟨its,rv,pl,hz⟩:=I.list (SqL.of hx);obtain⟨RA,ed⟩:=zP I hrw rx rv;obtain⟨hok1,hok3⟩:=(Bool.and_eq_true _ _).mp hok;obtain⟨hok1,hok2⟩:=(Bool.and_eq_true _ _).mp hok1;have h64:=of_decide_eq_true hok1;have hnd:=of_decide_eq_true hok2;have hne:∀r∈rws,r≠[]:=λr hr e=>by
  have:=List.all_eq_true.mp hok3 r hr;rw[e] at this;cases this
 have hlen:=RA.length;refine⟨l,its,rws,rfl,pl.isList,by omega,hlen,wP hnd hlen,λA=>yF RA hne,λp hp hu=>?_⟩
 rw[<-hlen] at hp hu;have out:=vw hnd hp hu;have hmem:∀i∈p.toList,i<rws.length:=λi hi=>by
  have hp':p.toList.Perm (List.range rws.length):=by simpa using Array.perm_iff_toList_perm.mp hp
  exact List.mem_range.mp (hp'.mem_iff.mp hi)
 subst ed;have xl:xs.length=rws.length:=by rw[rx.length,List.length_map]
 have rx1:Reps ρ H ((PySem.W.katRev b rws).map Vt) (PySem.W.katRev b xs):=by rw[<-Qm];exact JW rx
 have rx2:=wZ (F:=p.toList) rx1 (by rw[PySem.W.kat_len];exact hmem)
 rw[out] at rx2;have rx3:=JW (b:=b) rx2;have rv2:=Gm (b:=b) (xE (F:=p.toList) (Gm (b:=b) rv) (by rw[PySem.W.kat_len,xl];exact hmem))
 have eb:(if b=true then (Z8 rws).reverse else Z8 rws)=PySem.W.katRev b (Z8 rws):=rfl
 rw[eb,<-Qm] at h3;obtain⟨ep,he⟩:=sortedAll_at s.heap its (List.toArray (PySem.W.katRev b (p.toList.map λi=>(PySem.W.katRev b its).getD i Value.none)))
 refine⟨.ref (s.heap.objs.size+1),_,I.laid (t':=s.toks) (o:=.lst (PySem.W.katRev b (p.toList.map λi=>(PySem.W.katRev b xs).getD i V.non))) (λb ob q=>sortedAll_old q) (Nat.le_succ _) ?_,rfl,h3.newL st rx3 _ (I.hok.fresh (Nat.le_succ _))⟩
 refine⟨?_,_,ep,rv2,he⟩;rw[PySem.W.kat_len,List.length_map,Array.length_toList,hp.size,sizeLine_eq];omega
theorem vV (b:Bool):∀(as:List D) (S:Store),(∃n,as=[.loc n])\/Ev.bltin (if b then .sortedR else .sorted) as S=.no
 |[.loc n],_=>.inl ⟨n,rfl⟩
 |x::_::_,_=>.inr (by cases b <;> cases x <;> rfl)
 |[],_ | [.non],_ | [.str _],_ | [.bl _],_ | [.int _],_ | [.tup _],_ | [.fn _],_ | [.exc _ _],_=>.inr (by cases b <;> rfl)
theorem Vd {kp kp2:Pos}{q0}(hm:X.mg "sorted" = none) (ha:CA X xw C [e] [i]) (hg:Gl X "sorted":=by rfl)
  (he:backTo pos (starEach [e] X.env)=(false,eval e X.env)::backTo pos (starEach [] X.env):=by rfl) (hpl:(backTo pos (starEach [e] X.env)).any (·.1)=false:=by rfl) :
  CE X xw C (.Call (.Name "sorted" p) [e] [⟨some "reverse",.Constant (.bool true) q0 kp,kp2⟩] pos) (.blt .sortedR [i]):=by
 intro pins s σ H Q I hq;obtain⟨ρ,l,S,st,lr,h⟩:=hq;refine wpAny_Call_Name_kw (W8 I hg hm (show bootBuiltins "sorted" = some (.builtin "sorted") from rfl) ?_ (by decide) (by decide))
 refine callWith_kw (thn (ha pos pins s σ H (λvs H1=>qi X.K xw true vs H1 Q) I ?_) λus s1 ⟨vs,H1,I1,r1,q1⟩=>?_) he hpl rfl rfl
 ·refine⟨ρ,l,S,st,lr,End.bind (show End X.K xw Rep ρ H Q ((evs C [i] l S).bind λxs S=>Ev.bltin .sortedR xs S) from h) λxs S1 ρ1 H1 vs f1 st1 r1 h1=>?_⟩
  rcases vV true xs S1 with ⟨n,rfl⟩ | e
  ·exact⟨ρ1,S1,n,st1,r1,h1⟩
  ·exact (show End X.K xw Rep ρ1 H1 Q (.no:R D) from e▸h1).elim
 ·refine kws_cons (thn (qo pins s1 σ H1 (λv H2=>v=.bl true/\H2=H1) I1 ⟨rfl,rfl⟩) λu s2 ⟨x,H2,I2,r2,e1,e2⟩=>kws_nil ?_)
  subst e1 e2;cases r2;obtain⟨l,its,rs,rfl,h1,h2,h3,h4,h5,h6⟩:=y8 I2 r1 q1;exact Sq.GX (b:=true) h1 h2 h4 (h5 _) λp a b=>h6 p a b
end
end Sd
namespace Wr
open PySem PySem.Spec PyProof.Rows L2
open Ev (D Ob Store Lc R E Sm Calls Walk Fl Fn Bop Cop Ty Bf Mf ev evs evo evt evw tst run runs)
structure CE (X:Cx) (xw:Nat->Hp->Prop) (C:Calls) (e:Expr) (i:E):Prop where h:Sd.CE X xw C e i
structure CT (X:Cx) (xw:Nat->Hp->Prop) (C:Calls) (e:Expr) (i:E):Prop where h:Sd.CT X xw C e i
structure CWh (X:Cx) (xw:Nat->Hp->Prop) (C:Calls) (e:Expr) (i:E):Prop where h:Sd.CWh X xw C e i
structure CA (X:Cx) (xw:Nat->Hp->Prop) (C:Calls) (e:List Expr) (i:List E):Prop where h:Sd.CA X xw C e i
structure CO (X:Cx) (xw:Nat->Hp->Prop) (C:Calls) (e:Option Expr) (i:Option E):Prop where h:Sd.CO X xw C e i
structure CS (X:Cx) (xw:Nat->Hp->Prop) (C:Calls) (e:Stmt) (i:Sm):Prop where h:Sd.CS X xw C e i
structure CSs (X:Cx) (xw:Nat->Hp->Prop) (C:Calls) (e:List Stmt) (i:List Sm):Prop where h:Sd.CSs X xw C e i
structure CTs (X:Cx) (xw:Nat->Hp->Prop) (C:Calls) (e:List Expr) (i:List E):Prop where h:Sd.CTs X xw C e i
structure CG (X:Cx) (e:Expr) (i:List Nat):Prop where h:Sd.CG X e i
structure CGs (X:Cx) (e:List Expr) (i:List Nat):Prop where h:Sd.CGs X e i
structure CW (X:Cx) (xw:Nat->Hp->Prop) (C:Calls) (tg it:Expr) (w:Ev.W):Prop where h:Sd.CW X xw C tg it w
open Sd (Y3 VF spF ZU CompScope cxC AugOk)
section
variable {X:Cx}{xw:Nat->Hp->Prop}{C:Calls}{e a b c tg it:Expr}{i j k:E}{pos p p' p2 p3:Pos}{o ix:Expr}{io ii:E}{s0:Stmt}{ss:List Stmt}{m0:Sm}{ms ms':List Sm}{tp:Pos}{elts:List Expr}{kk:Nat}
theorem CWh.ct (h:Wr.CWh X xw C e i):Wr.CT X xw C e i:=⟨Sd.CWh.ct h.h⟩
theorem Zr {n:Int}{q}:Wr.CE X xw C (.Constant (.int n) q pos) (.c (.int n)):=⟨Sd.Zr ⟩
theorem YF {n:Bool}{q}:Wr.CE X xw C (.Constant (.bool n) q pos) (.c (.bl n)):=⟨Sd.YF ⟩
theorem WD {q}:Wr.CE X xw C (.Constant .none q pos) (.c .non):=⟨Sd.WD ⟩
theorem Zd (n:Nat) {x:Str}(hN:X.N[n]? = some x:=by rfl) (hv:Vis X.env.scope x:=by first | exact Or.inl rfl | exact Or.inr (Or.inl rfl) | exact Or.inr (Or.inr rfl)) (hd:(x == ("__debug__" : Str))=false:=by decide)
  (hcd:(x == ("__classdict__" : Str))=false:=by decide):Wr.CE X xw C (.Name x pos) (.v n):=⟨Sd.Zd (n:=n) (hN:=hN) (hv:=hv) (hd:=hd) (hcd:=hcd)⟩
theorem ZT {es:List Expr}{is:List E}{q}(h:Wr.CA X xw C es is):Wr.CE X xw C (.Tuple es q pos) (.tup is):=⟨Sd.ZT (h:=h.h)⟩
theorem Xd {es:List Expr}{is:List E}(h:Wr.CA X xw C es is):Wr.CE X xw C (.List es pos) (.lst is):=⟨Sd.Xd (h:=h.h)⟩
theorem Yy (ha:Wr.CE X xw C a i) (hb:Wr.CE X xw C b j):Wr.CE X xw C (.BinOp a .Add b pos) (.bin .add i j):=⟨Sd.Yy (ha:=ha.h) (hb:=hb.h)⟩
theorem JH (ha:Wr.CE X xw C a i) (hb:Wr.CE X xw C b j):Wr.CE X xw C (.BinOp a .Sub b pos) (.bin .sub i j):=⟨Sd.JH (ha:=ha.h) (hb:=hb.h)⟩
theorem YR (ha:Wr.CE X xw C a i) (hb:Wr.CE X xw C b j):Wr.CE X xw C (.BinOp a .Mult b pos) (.bin .mul i j):=⟨Sd.YR (ha:=ha.h) (hb:=hb.h)⟩
theorem UD (ha:Wr.CE X xw C a i) (hb:Wr.CE X xw C b j):Wr.CE X xw C (.BinOp a .FloorDiv b pos) (.bin .fdiv i j):=⟨Sd.UD (ha:=ha.h) (hb:=hb.h)⟩
theorem YM (ha:Wr.CE X xw C a i) (hb:Wr.CE X xw C b j):Wr.CE X xw C (.BinOp a .Mod b pos) (.bin .mod i j):=⟨Sd.YM (ha:=ha.h) (hb:=hb.h)⟩
theorem Je (ha:Wr.CE X xw C a i) (hb:Wr.CE X xw C b j):Wr.CE X xw C (.BinOp a .Pow b pos) (.bin .pow i j):=⟨Sd.Je (ha:=ha.h) (hb:=hb.h)⟩
theorem VW (ha:Wr.CE X xw C a i):Wr.CE X xw C (.UnaryOp .USub a pos) (.neg i):=⟨Sd.VW (ha:=ha.h)⟩
theorem UJ (ha:Wr.CE X xw C a i):Wr.CE X xw C (.UnaryOp .Not a pos) (.not i):=⟨Sd.UJ (ha:=ha.h)⟩
theorem WM {rest:List Expr}(ha:Wr.CE X xw C a i) (hb:Wr.CE X xw C (.BoolOp .And (b::rest) pos) j):Wr.CE X xw C (.BoolOp .And (a::b::rest) pos) (.and i j):=⟨Sd.WM (ha:=ha.h) (hb:=hb.h)⟩
theorem VL {op}(ha:Wr.CE X xw C a i):Wr.CE X xw C (.BoolOp op [a] pos) i:=⟨Sd.VL (ha:=ha.h)⟩
theorem XX {op:CmpOp}{o:Cop}(hc:Y3 X xw op o) (ha:Wr.CE X xw C a i) (hb:Wr.CE X xw C b j) (hm:behindInMarks op b=false:=by first | exact nomark _ | rfl | (with_unfolding_all rfl)):Wr.CE X xw C (.Compare a [op] [b] pos) (.cmp o i j):=⟨Sd.XX (hc:=hc) (ha:=ha.h) (hb:=hb.h) (hm:=hm)⟩
theorem U9 {op op':CmpOp}{o o':Cop}{d:Expr}{k:E}(hc:Y3 X xw op o) (hc':Y3 X xw op' o') (ha:Wr.CE X xw C a i) (hb:Wr.CE X xw C b j) (hd:Wr.CE X xw C d k)
  (hm:lastMarks [op,op'] [b,d]=false:=by with_unfolding_all rfl):Wr.CE X xw C (.Compare a [op,op'] [b,d] pos) (.chain o o' i j k):=⟨Sd.U9 (hc:=hc) (hc':=hc') (ha:=ha.h) (hb:=hb.h) (hd:=hd.h) (hm:=hm)⟩
theorem Ge {lo hi:Option Expr}{il ih:Option E}(ha:Wr.CE X xw C a i) (hl:Wr.CO X xw C lo il) (hh:Wr.CO X xw C hi ih):Wr.CE X xw C (.Subscript a (.Slice lo hi none p2) pos) (.sl i il ih):=⟨Sd.Ge (ha:=ha.h) (hl:=hl.h) (hh:=hh.h)⟩
theorem Z9 (ha:Wr.CE X xw C a i) (hb:Wr.CE X xw C b j) (hs:JP b:=by intro _ _;with_unfolding_all rfl):Wr.CE X xw C (.Subscript a b pos) (.ix i j):=⟨Sd.Z9 (ha:=ha.h) (hb:=hb.h) (hs:=hs)⟩
theorem Zm {n kk:Nat}{f:Addr}{fd:FuncData}{ps:List Str}{x:Str}{es:List Expr}{is:List E}(F:FnOk X.prog X.w X.K X.mg X.base CX0 kk f fd ps (spF X.K C n)) (hr:Room kk X.A) (hm:X.mg x=some (.ref f)) (hk:PySem.W.keepIn X.K (.ref f)=true) (hb:Binds X.K fd ps [])
  (ha:Wr.CA X (λ_ _=>False) C (e::es) is) (hg:Gl X x:=by rfl) (hdb:(x == ("__debug__" : Str))=false:=by decide) (he:starEach (e::es) X.env=(false,eval e X.env)::starEach es X.env:=by rfl) (hpl:(backTo pos (starEach es X.env)).any (·.1)=false:=by rfl) :
  Wr.CE X (λ_ _=>False) C (.Call (.Name x p) (e::es) [] pos) (.call n is):=⟨Sd.Zm (F:=F) (hr:=hr) (hm:=hm) (hk:=hk) (hb:=hb) (ha:=ha.h) (hg:=hg) (hdb:=hdb) (he:=he) (hpl:=hpl)⟩
theorem VQ {T:Str}{t:Ty}(ht:∀m,t≠.cls m) (hm:X.mg "isinstance" = none) (hmT:X.mg T=none) (ha:Wr.CE X xw C a i) (hg:Gl X "isinstance":=by rfl) (hgT:Gl X T:=by rfl) (hvT:bootBuiltins T=some (.type (ZU t)):=by rfl) (hnT:T≠"__name__":=by decide) (hdT:(T == ("__debug__" : Str))=false:=by decide)
  (hs1:starEach [a,.Name T p2] X.env=(false,eval a X.env)::starEach [.Name T p2] X.env:=by rfl) (hs2:starEach [.Name T p2] X.env=(false,eval (.Name T p2) X.env)::starEach [] X.env:=by rfl) (hpl:(backTo pos (starEach [.Name T p2] X.env)).any (·.1)=false:=by rfl) :
  Wr.CE X xw C (.Call (.Name "isinstance" p) [a,.Name T p2] [] pos) (.isi i [t]):=⟨Sd.VQ (ht:=ht) (hm:=hm) (hmT:=hmT) (ha:=ha.h) (hg:=hg) (hgT:=hgT) (hvT:=hvT) (hnT:=hnT) (hdT:=hdT) (hs1:=hs1) (hs2:=hs2) (hpl:=hpl)⟩
theorem Yf {f:Bf}{id:String}{x:Str}{es:List Expr}{is:List E}(hc:Yc X (.builtin id) (VF X.K xw f)) (hm:X.mg x=none) (ha:Wr.CA X xw C (e::es) is) (hg:Gl X x:=by rfl) (hv:bootBuiltins x=some (.builtin id):=by rfl) (hn:x≠"__name__":=by decide) (hdb:(x == ("__debug__" : Str))=false:=by decide)
  (he:starEach (e::es) X.env=(false,eval e X.env)::starEach es X.env:=by rfl) (hpl:(backTo pos (starEach es X.env)).any (·.1)=false:=by rfl):Wr.CE X xw C (.Call (.Name x p) (e::es) [] pos) (.blt f is):=⟨Sd.Yf (hc:=hc) (hm:=hm) (ha:=ha.h) (hg:=hg) (hv:=hv) (hn:=hn) (hdb:=hdb) (he:=he) (hpl:=hpl)⟩
theorem Yt {f:Bf}{id:String}{x:Str}{es:List Expr}{is:List E}(hc:Yc X (.type id) (VF X.K xw f)) (hm:X.mg x=none) (ha:Wr.CA X xw C (e::es) is) (hg:Gl X x:=by rfl) (hv:bootBuiltins x=some (.type id):=by rfl) (hn:x≠"__name__":=by decide) (hdb:(x == ("__debug__" : Str))=false:=by decide)
  (he:starEach (e::es) X.env=(false,eval e X.env)::starEach es X.env:=by rfl) (hpl:(backTo pos (starEach es X.env)).any (·.1)=false:=by rfl):Wr.CE X xw C (.Call (.Name x p) (e::es) [] pos) (.blt f is):=⟨Sd.Yt (hc:=hc) (hm:=hm) (ha:=ha.h) (hg:=hg) (hv:=hv) (hn:=hn) (hdb:=hdb) (he:=he) (hpl:=hpl)⟩
theorem Zf:Wr.CA X xw C [] []:=⟨Sd.Zf ⟩
theorem Za {es:List Expr}{is:List E}(ha:Wr.CE X xw C e i) (hr:Wr.CA X xw C es is) (hs:starEach (e::es) X.env=(false,eval e X.env)::starEach es X.env:=by rfl):Wr.CA X xw C (e::es) (i::is):=⟨Sd.Za (ha:=ha.h) (hr:=hr.h) (hs:=hs)⟩
theorem Vn:Wr.CO X xw C none none:=⟨Sd.Vn ⟩
theorem Vq (h:Wr.CE X xw C e i):Wr.CO X xw C (some e) (some i):=⟨Sd.Vq (h:=h.h)⟩
theorem YO (ha:Wr.CT X xw C a i):Wr.CT X xw C (.UnaryOp .Not a pos) (.not i):=⟨Sd.YO (ha:=ha.h)⟩
theorem ZY {op:CmpOp}{o:Cop}(hc:Y3 X xw op o) (ha:Wr.CE X xw C a i) (hb:Wr.CE X xw C b j) (hm:behindInMarks op b=false:=by first | exact nomark _ | rfl | (with_unfolding_all rfl)):Wr.CT X xw C (.Compare a [op] [b] pos) (.cmp o i j):=⟨Sd.ZY (hc:=hc) (ha:=ha.h) (hb:=hb.h) (hm:=hm)⟩
theorem Yx (ha:Wr.CE X xw C a i) (he:∀whole,isTrue a X.env whole=(do let v <-whole;standAt a.pos;holding [v] (truthy v)):=by intro _;rfl):Wr.CT X xw C a i:=⟨Sd.Yx (ha:=ha.h) (he:=he)⟩
theorem Ws {rest:List Expr}(ha:Wr.CT X xw C a i) (hb:Wr.CWh X xw C (.BoolOp .Or (b::rest) pos) j):Wr.CWh X xw C (.BoolOp .Or (a::b::rest) pos) (.or i j):=⟨Sd.Ws (ha:=ha.h) (hb:=hb.h)⟩
theorem Xl (ha:Wr.CT X xw C a i):Wr.CWh X xw C (.BoolOp .Or [a] pos) i:=⟨Sd.Xl (ha:=ha.h)⟩
theorem Z1:Wr.CTs X xw C [] []:=⟨Sd.Z1 ⟩
theorem Wa (h:Wr.CT X xw C c i):Wr.CTs X xw C [c] [i]:=⟨Sd.Wa (h:=h.h)⟩
theorem Yq (he:Wr.CE X xw C e i):Wr.CW X xw C tg e (.of i):=⟨Sd.Yq (he:=he.h)⟩
theorem Xe (hm:X.mg "range" = none) (ha:Wr.CA X xw C [a] [i]) (hg:Gl X "range":=by rfl) (hs:starEach [a] X.env=[(false,eval a X.env)]:=by rfl):Wr.CW X xw C tg (.Call (.Name "range" p) [a] [] pos) (.rng1 i):=⟨Sd.Xe (hm:=hm) (ha:=ha.h) (hg:=hg) (hs:=hs)⟩
theorem Zs {n:Nat}{x:Str}(hN:X.N.Nodup) (hi:X.N[n]? = some x:=by rfl) (hx:L2.Loc X.env.scope x:=by first | exact Or.inl rfl | exact Or.inr rfl) (hf:X.fn x=true\/X.env.scope.names.lookup x=some .local:=by first | exact .inl rfl | exact .inr rfl):Wr.CG X (.Name x pos) [n]:=⟨Sd.Zs (hN:=hN) (hi:=hi) (hx:=hx) (hf:=hf)⟩
theorem YQ {tgs:List Expr}{q2:Nat}{n m:Nat}{r:List Nat}(hc:X.calm=true) (h:Wr.CGs X tgs (n::m::r)) (hn:(assignEach tgs X.env).length=(n::m::r).length:=by rfl) (hst:(assignEach tgs X.env).findIdx? (·.1)=none:=by rfl):Wr.CG X (.Tuple tgs q2 pos) (n::m::r):=⟨Sd.YQ (hc:=hc) (h:=h.h) (hn:=hn) (hst:=hst)⟩
theorem Yo:Wr.CGs X [] []:=⟨Sd.Yo ⟩
theorem ZE {tgs:List Expr}{n:Nat}{t:List Nat}{x:Str}(hN:X.N.Nodup) (h2:Wr.CGs X tgs t) (hi:X.N[n]? = some x:=by rfl) (hx:L2.Loc X.env.scope x:=by first | exact Or.inl rfl | exact Or.inr rfl) (hf:X.fn x=true\/X.env.scope.names.lookup x=some .local:=by first | exact .inl rfl | exact .inr rfl)
  (hs:(assignEach (.Name x pos::tgs) X.env).map (·.2)=PySem.assign (.Name x pos) X.env::(assignEach tgs X.env).map (·.2):=by rfl):Wr.CGs X (.Name x pos::tgs) (n::t):=⟨Sd.ZE (hN:=hN) (h2:=h2.h) (hi:=hi) (hx:=hx) (hf:=hf) (hs:=hs)⟩
theorem Zq:Wr.CSs X xw C [] []:=⟨Sd.Zq ⟩
theorem Ze (h1:Wr.CS X xw C s0 m0) (h2:Wr.CSs X xw C ss ms):Wr.CSs X xw C (s0::ss) (m0::ms):=⟨Sd.Ze (h1:=h1.h) (h2:=h2.h)⟩
theorem ZL {tg:Expr}{t:List Nat}(he:Wr.CE X xw C e i) (hg:Wr.CG X tg t) (hs:swapsWithSole [tg] e pos.line X.env=pure false:=by rfl) (hw:swappedStores [tg] e X.env=pure none:=by rfl)
  (h1:(assignEach [tg] X.env).map (·.2)=[PySem.assign tg X.env]:=by rfl):Wr.CS X xw C (.Assign [tg] e pos) (.asg t i):=⟨Sd.ZL (he:=he.h) (hg:=hg.h) (hs:=hs) (hw:=hw) (h1:=h1)⟩
theorem VS {o ix:Expr}{io ii:E}(ho:Wr.CE X xw C o io) (hi:Wr.CE X xw C ix ii) (he:Wr.CE X xw C e i)
  (ha:∀v,PySem.assign (.Subscript o ix p) X.env v=(do
   let ov <-holding [v] (eval o X.env)
   let iv <-holding [v,ov] (eval ix X.env)
   standAt p
   holding [v,ov,iv] (setItem ov iv v)
   release [v,ov,iv] []):=by intro _;rfl) (hs:swapsWithSole [.Subscript o ix p] e pos.line X.env=pure false:=by rfl) (hw:swappedStores [.Subscript o ix p] e X.env=pure none:=by rfl)
  (h1:(assignEach [.Subscript o ix p] X.env).map (·.2)=[PySem.assign (.Subscript o ix p) X.env]:=by rfl):Wr.CS X xw C (.Assign [.Subscript o ix p] e pos) (.put io ii i):=⟨Sd.VS (ho:=ho.h) (hi:=hi.h) (he:=he.h) (ha:=ha) (hs:=hs) (hw:=hw) (h1:=h1)⟩
theorem Zx (he:Wr.CE X xw C e i):Wr.CS X xw C (.Return (some e) pos) (.ret i):=⟨Sd.Zx (he:=he.h)⟩
theorem YB (he:Wr.CE X xw C e i) (hs:swapsWith e none pos.line X.env=pure false:=by rfl):Wr.CS X xw C (.Expr e pos) (.ex i):=⟨Sd.YB (he:=he.h) (hs:=hs)⟩
theorem Yl {sa sb:List Stmt}(hc:Wr.CT X xw C c k) (ha:Wr.CSs X xw C sa ms) (hb:Wr.CSs X xw C sb ms'):Wr.CS X xw C (.If c sa sb pos) (.ite k ms ms'):=⟨Sd.Yl (hc:=hc.h) (ha:=ha.h) (hb:=hb.h)⟩
theorem Xm {body:List Stmt}{ms:List Sm}{w:Ev.W}{t:List Nat}(hp:PassesOwn (model X.prog X.w) X.A X.env X.xe) (hc:X.calm=true) (hw:Wr.CW X xw C tg it w) (hg:Wr.CG X tg t) (hb:Wr.CSs X xw C body ms)
  (hs:∀x,foldedSetIterable it X.env x=pure x:=by intro _;rfl):Wr.CS X xw C (.For tg it body [] pos) (.forr t w ms):=⟨Sd.Xm (hp:=hp) (hc:=hc) (hw:=hw.h) (hg:=hg.h) (hb:=hb.h) (hs:=hs)⟩
theorem WA {n:Nat}:Wr.CS X (λ_ _=>False) C s0 (.raise n []):=⟨Sd.WA ⟩
theorem zg {op:Operator}{o:Bop}{n:Nat}{x:Str}(ho:AugOk X op o) (hN:X.N.Nodup) (he:Wr.CE X xw C e i) (hi:X.N[n]? = some x:=by rfl) (hx:L2.Loc X.env.scope x:=by first | exact Or.inl rfl | exact Or.inr rfl) (hf:X.fn x=true\/X.env.scope.names.lookup x=some .local:=by first | exact .inl rfl | exact .inr rfl) :
  Wr.CS X xw C (.AugAssign (.Name x p) op e pos) (.aug n o i):=⟨Sd.zg (ho:=ho) (hN:=hN) (he:=he.h) (hi:=hi) (hx:=hx) (hf:=hf)⟩
theorem UF {body:List Stmt}(hp:PassesOwn (model X.prog X.w) X.A X.env X.xe) (hc:Wr.CT X xw C c k) (hb:Wr.CSs X xw C body ms):Wr.CS X xw C (.While c body [] pos) (.whl k ms):=⟨Sd.UF (hp:=hp) (hc:=hc.h) (hb:=hb.h)⟩
theorem Qa (hm:X.mg "zip" = none) (ha:Wr.CA X xw C [a,b] [i,j]) (hg:Gl X "zip":=by rfl) (hs:starEach [a,b] X.env=[(false,eval a X.env),(false,eval b X.env)]:=by rfl) (hs2:starEach [b] X.env=[(false,eval b X.env)]:=by rfl) :
  Wr.CW X xw C (.Tuple elts kk tp) (.Call (.Name "zip" p) [a,b] [] pos) (.zip i j):=⟨Sd.Qa (hm:=hm) (ha:=ha.h) (hg:=hg) (hs:=hs) (hs2:=hs2)⟩
theorem Uw (hm:X.mg "enumerate" = none) (ha:Wr.CA X xw C [a] [i]) (hg:Gl X "enumerate":=by rfl) (hs:starEach [a] X.env=[(false,eval a X.env)]:=by rfl) :
  Wr.CW X xw C (.Tuple elts kk tp) (.Call (.Name "enumerate" p) [a] [] pos) (.enum i):=⟨Sd.Uw (hm:=hm) (ha:=ha.h) (hg:=hg) (hs:=hs)⟩
theorem G8 {n m:Nat}{x y:Str}{px py pt:Pos}{kt k2 pt2}(hc:X.calm=true) (hN:X.N.Nodup) (ha:Wr.CA X xw C [a,b] [i,j]) (hnm:n≠m:=by decide) (hi:X.N[n]? = some x:=by rfl) (hj:X.N[m]? = some y:=by rfl)
  (hx:X.env.scope.names.lookup x=some .local:=by rfl) (hy:X.env.scope.names.lookup y=some .local:=by rfl)
  (hw:swappedStores [.Tuple [.Name x px,.Name y py] kt pt] (.Tuple [a,b] k2 pt2) X.env=pure (some [x,y]):=by rfl)
  (hs:swapsWithSole [.Tuple [.Name x px,.Name y py] kt pt] (.Tuple [a,b] k2 pt2) pos.line X.env=pure false:=by rfl) :
  Wr.CS X xw C (.Assign [.Tuple [.Name x px,.Name y py] kt pt] (.Tuple [a,b] k2 pt2) pos) (.par [n,m] [i,j]):=⟨Sd.G8 (hc:=hc) (hN:=hN) (ha:=ha.h) (hnm:=hnm) (hi:=hi) (hj:=hj) (hx:=hx) (hy:=hy) (hw:=hw) (hs:=hs)⟩
theorem Jf {T U:Str}{t u:Ty}{k0:Nat}{p4:Pos}(ht:∀m,t≠.cls m) (hu:∀m,u≠.cls m) (hm:X.mg "isinstance" = none) (hmT:X.mg T=none) (hmU:X.mg U=none) (ha:Wr.CE X xw C a i) (hg:Gl X "isinstance":=by rfl) (hgT:Gl X T:=by rfl) (hgU:Gl X U:=by rfl) (hvT:bootBuiltins T=some (.type (ZU t)):=by rfl) (hvU:bootBuiltins U=some (.type (ZU u)):=by rfl) (hnT:T≠"__name__":=by decide) (hdT:(T == ("__debug__" : Str))=false:=by decide) (hnU:U≠"__name__":=by decide) (hdU:(U == ("__debug__" : Str))=false:=by decide)
  (hs0:starEach [.Name T p2,.Name U p3] X.env=(false,eval (.Name T p2) X.env)::starEach [.Name U p3] X.env:=by rfl) (hs00:starEach [.Name U p3] X.env=(false,eval (.Name U p3) X.env)::starEach [] X.env:=by rfl)
  (hs1:starEach [a,.Tuple [.Name T p2,.Name U p3] k0 p4] X.env=(false,eval a X.env)::starEach [.Tuple [.Name T p2,.Name U p3] k0 p4] X.env:=by rfl) (hs2:starEach [.Tuple [.Name T p2,.Name U p3] k0 p4] X.env=(false,eval (.Tuple [.Name T p2,.Name U p3] k0 p4) X.env)::starEach [] X.env:=by rfl) (hpl:(backTo pos (starEach [.Tuple [.Name T p2,.Name U p3] k0 p4] X.env)).any (·.1)=false:=by rfl) :
  Wr.CE X xw C (.Call (.Name "isinstance" p) [a,.Tuple [.Name T p2,.Name U p3] k0 p4] [] pos) (.isi i [t,u]):=⟨Sd.Jf (ht:=ht) (hu:=hu) (hm:=hm) (hmT:=hmT) (hmU:=hmU) (ha:=ha.h) (hg:=hg) (hgT:=hgT) (hgU:=hgU) (hvT:=hvT) (hvU:=hvU) (hnT:=hnT) (hdT:=hdT) (hnU:=hnU) (hdU:=hdU) (hs0:=hs0) (hs00:=hs00) (hs1:=hs1) (hs2:=hs2) (hpl:=hpl)⟩
theorem Vd {kp kp2:Pos}{q0}(hm:X.mg "sorted" = none) (ha:Wr.CA X xw C [e] [i]) (hg:Gl X "sorted":=by rfl)
  (he:backTo pos (starEach [e] X.env)=(false,eval e X.env)::backTo pos (starEach [] X.env):=by rfl) (hpl:(backTo pos (starEach [e] X.env)).any (·.1)=false:=by rfl) :
  Wr.CE X xw C (.Call (.Name "sorted" p) [e] [⟨some "reverse",.Constant (.bool true) q0 kp,kp2⟩] pos) (.blt .sortedR [i]):=⟨Sd.Vd (hm:=hm) (ha:=ha.h) (hg:=hg) (he:=he) (hpl:=hpl)⟩
theorem ZP {elt:Expr}{ifs:List Expr}{is:List E}{ie:E}{scope:Scope}{N:List Str}{cap:List Nat}{nl:Nat}{w:Ev.W}{t:List Nat}(hc:X.calm=true) (hN:X.N.Nodup) (CS:CompScope X.env.scope X.N scope N cap nl) (hi:Wr.CW X xw C tg it w)
  (hb:∀cl s H fp,Wr.CG (cxC X N scope cl s H fp) tg t/\Wr.CTs (cxC X N scope cl s H fp) xw C ifs is/\Wr.CE (cxC X N scope cl s H fp) xw C elt ie)
  (hs:∀x,foldedSetIterable it X.env x=pure x:=by intro _;rfl):Wr.CE X xw C (.ListComp elt [⟨tg,it,ifs,0⟩] scope pos) (.comp1 cap nl t w is ie):=
 ⟨Sd.ZP hc hN CS hi.h (λcl s H fp=>⟨(hb cl s H fp).1.h,(hb cl s H fp).2.1.h,(hb cl s H fp).2.2.h⟩) hs⟩
theorem XF {elt:Expr}{ifs:List Expr}{is:List E}{ie:E}{scope:Scope}{N:List Str}{cap:List Nat}{nl:Nat}{w:Ev.W}{t:List Nat}{n:Nat}{y:Str}{spos py:Pos}(hc:X.calm=true) (hN:X.N.Nodup) (CSc:CompScope X.env.scope X.N scope N cap nl) (hi:Wr.CW X xw C tg it w)
  (hb:∀cl s H fp,Wr.CG (cxC X N scope cl s H fp) tg t/\Wr.CTs (cxC X N scope cl s H fp) xw C ifs is/\Wr.CE (cxC X N scope cl s H fp) xw C elt ie)
  (hsw:swapsWith (.ListComp elt [⟨tg,it,ifs,0⟩] scope pos) (some (.Name y py)) spos.line X.env=pure true:=by rfl)
  (hy:X.N[n]? = some y:=by rfl) (hx:L2.Loc X.env.scope y:=by first | exact Or.inl rfl | exact Or.inr rfl) (hf:X.fn y=true\/X.env.scope.names.lookup y=some .local:=by first | exact .inl rfl | exact .inr rfl)
  (hs:∀x,foldedSetIterable it X.env x=pure x:=by intro _;rfl):Wr.CS X xw C (.Assign [.Name y py] (.ListComp elt [⟨tg,it,ifs,0⟩] scope pos) spos) (.asg [n] (.comp1 cap nl t w is ie)):=
 ⟨Sd.XF hc hN CSc hi.h (λcl s H fp=>⟨(hb cl s H fp).1.h,(hb cl s H fp).2.1.h,(hb cl s H fp).2.2.h⟩) hsw hy hx hf hs⟩
theorem V5 {elt t1 i1 t2 i2:Expr}{f1' f2':List Expr}{is js:List E}{ie:E}{scope:Scope}{N:List Str}{cap:List Nat}{nl:Nat}{w w2:Ev.W}{t u:List Nat}{n:Nat}{y:Str}{spos py:Pos}(hc:X.calm=true) (hN:X.N.Nodup) (CSc:CompScope X.env.scope X.N scope N cap nl) (hi:Wr.CW X xw C t1 i1 w)
  (hb:∀cl s H fp,Wr.CG (cxC X N scope cl s H fp) t1 t/\Wr.CTs (cxC X N scope cl s H fp) xw C f1' is/\Wr.CW (cxC X N scope cl s H fp) xw C t2 i2 w2/\Wr.CG (cxC X N scope cl s H fp) t2 u/\Wr.CTs (cxC X N scope cl s H fp) xw C f2' js/\Wr.CE (cxC X N scope cl s H fp) xw C elt ie)
  (hsw:swapsWith (.ListComp elt [⟨t1,i1,f1',0⟩,⟨t2,i2,f2',0⟩] scope pos) (some (.Name y py)) spos.line X.env=pure true:=by rfl)
  (hy:X.N[n]? = some y:=by rfl) (hx:L2.Loc X.env.scope y:=by first | exact Or.inl rfl | exact Or.inr rfl) (hf:X.fn y=true\/X.env.scope.names.lookup y=some .local:=by first | exact .inl rfl | exact .inr rfl)
  (hs:∀x,foldedSetIterable i1 X.env x=pure x:=by intro _;rfl) (hs2:∀env x,foldedSetIterable i2 env x=pure x:=by intro _ _;rfl) :
  Wr.CS X xw C (.Assign [.Name y py] (.ListComp elt [⟨t1,i1,f1',0⟩,⟨t2,i2,f2',0⟩] scope pos) spos) (.asg [n] (.comp2 cap nl t w is u w2 js ie)):=
 ⟨Sd.V5 hc hN CSc hi.h (λcl s H fp=>let ⟨a,b,c,d,e,f⟩:=hb cl s H fp;⟨a.h,b.h,c.h,d.h,e.h,f.h⟩) hsw hy hx hf hs hs2⟩
end
theorem ZC {P:Program}{w:World}{K:PySem.W.Frag}{mg:Str->Option Value}{base:Heap}{F:List Fn}{n d:Nat}{fn:Fn}{x qual:Str}{st:Stmt}{f:Addr}{fd:FuncData}{N ps:List Str}{k:Nat}(hF:F[n]? = some fn) (hns:fn.ns=N.length) (hps:fn.ps=ps.length) (Fu:Fun K x qual st f fd) (S:FnScope N ps (Zl st))
  (hb:∀(cdv:Value) (A:Around) (outer:List Env) (s:Shared) (H:Hp) (E:XK),Room k (A.deeper (envOfC qual (Zl st) s.heap.objs.size f cdv))->
   Wr.CSs (GQ CX0 P w K mg base N qual (Zl st) f cdv A outer s H E).nox (λ_ _=>False) (Ev.calls F d) (Yp st) fn.body) :
  FnOk P w K mg base CX0 (k+1) f fd ps (spF K (Ev.calls F (d+1)) n):=Sd.ZC hF hns hps Fu S λcdv A outer s H E hr=>(hb cdv A outer s H E hr).h
end Wr
namespace Pv
open Ev
open PySem (Str)
inductive V where
 |non | bl (b:Bool) | int (i:Int) | str (x:Str) | tup (xs:List V) | lst (xs:List V) | drw
 deriving Repr,Inhabited
noncomputable abbrev DS:=Int×Bool
inductive PR (α:Type) where
 |ok (a:α) (s:DS) | ex (c:Nat) (s:DS) | no
noncomputable def PR.bind {α β:Type} (r:PR α) (f:α->DS->PR β):PR β:=match r with
 |.ok a s=>f a s
 |.ex c s=>.ex c s
 |.no=>.no
noncomputable def po {α:Type} (o:Option α) (s:DS):PR α:=match o with
 |some a=>.ok a s
 |none=>.no
noncomputable abbrev Env:=List (Option V)
mutual
noncomputable def V.flat:V->Bool
 |.tup xs=>flats xs
 |.lst _=>false
 |.drw=>false
 |_=>true
noncomputable def flats:List V->Bool
 |[]=>true
 |x::xs=>x.flat&&flats xs
end
mutual
noncomputable def toD:V->D
 |.non=>.non
 |.bl b=>.bl b
 |.int i=>.int i
 |.str x=>.str x
 |.tup xs=>.tup (Y6 xs)
 |_=>.non
noncomputable def Y6:List V->List D
 |[]=>[]
 |x::xs=>toD x::Y6 xs
end
mutual
noncomputable def ofD:D->Option V
 |.non=>some .non
 |.bl b=>some (.bl b)
 |.int i=>some (.int i)
 |.str x=>some (.str x)
 |.tup xs=>(yV xs).map .tup
 |_=>none
noncomputable def yV:List D->Option (List V)
 |[]=>some []
 |x::xs=>match ofD x,yV xs with
  |some a,some b=>some (a::b)
  |_,_=>none
end
noncomputable def YG:V->Option Bool
 |.non=>some false
 |.bl b=>some b
 |.int i=>some (decide (i≠0))
 |.tup xs=>some (!xs.isEmpty)
 |.lst xs=>some (!xs.isEmpty)
 |_=>none
noncomputable def Vb (f:V->V->Option Bool):List V->List V->Option Bool
 |[],[]=>some true
 |x::xs,y::ys=>match f x y,Vb f xs ys with
  |some a,some b=>some (a&&b)
  |_,_=>none
 |_,_=>some false
noncomputable def eqV:Nat->V->V->Option Bool
 |0,_,_=>none
 |k+1,x,y=>match x,y with
  |.non,.non=>some true
  |.bl a,.bl b=>some (decide (a=b))
  |.int a,.int b=>some (decide (a=b))
  |.bl a,.int b=>some (decide (b2i a=b))
  |.int a,.bl b=>some (decide (a=b2i b))
  |.str a,.str b=>some (decide (a=b))
  |.tup xs,.tup ys=>Vb (eqV k) xs ys
  |.lst xs,.lst ys=>if xs.length=ys.length then Vb (eqV k) xs ys else some false
  |.non,.bl _ | .non,.int _ | .non,.str _ | .bl _,.non | .int _,.non | .str _,.non=>some false
  |.bl _,.str _ | .int _,.str _ | .str _,.bl _ | .str _,.int _=>some false
  |_,_=>none
noncomputable def Qx (x:V):List V->Option Bool
 |[]=>some false
 |y::ys=>match eqV ZA y x,Qx x ys with
  |some a,some b=>some (a||b)
  |_,_=>none
noncomputable def GA:V->Ty->Option Bool
 |.non,_=>some false
 |.bl _,t=>some (decide (t=.bool\/t=.int))
 |.int _,t=>some (decide (t=.int))
 |.str _,t=>some (decide (t=.str))
 |.tup _,t=>some (decide (t=.tuple))
 |.lst _,t=>some (decide (t=.list))
 |_,_=>none
noncomputable def We (x:V):List Ty->Option Bool
 |[]=>some false
 |t::ts=>match GA x t with
  |some true=>some true
  |some false=>We x ts
  |none=>none
noncomputable def Wm (xs:List V) (lo hi:Option Int):List V:=(xs.drop (sIx xs.length 0 lo)).take (sIx xs.length xs.length hi-sIx xs.length 0 lo)
noncomputable def Um (op:Bop) (x y:V) (s:DS):PR V:=match op,x,y with
 |.add,.int a,.int b=>.ok (.int (a+b)) s
 |.sub,.int a,.int b=>.ok (.int (a-b)) s
 |.mul,.int a,.int b=>if (fits a&&fits b)=true then .ok (.int (a*b)) s else .no
 |.fdiv,.int a,.int b=>if 0<b/\b<1073741824 then .ok (.int (a / b)) s else .no
 |.mod,.int a,.int b=>if 0<b then .ok (.int (a%b)) s else .no
 |.pow,.int a,.int b=>if 0<=b/\b<=1000/\a.natAbs<2^64 then .ok (.int (a^b.toNat)) s else .no
 |.add,.tup a,.tup b=>if a.length+b.length<=lim then .ok (.tup (a++b)) s else .no
 |.mul,.tup a,.int b=>if 0<=b/\b<1000/\a.length<=1000 then .ok (.tup (List.replicate b.toNat a).flatten) s else .no
 |.mul,.lst a,.int b=>if 0<=b/\b<1000/\a.length<=1000 then .ok (.lst (List.replicate b.toNat a).flatten) s else .no
 |.add,.lst a,.lst b=>if a.length+b.length<=lim then .ok (.lst (a++b)) s else .no
 |_,_,_=>.no
noncomputable def yS (op:Bop) (x y:V) (s:DS):PR V:=match x,y with
 |.int _,.int _=>Um op x y s
 |_,_=>.no
noncomputable def WN (x y:V):Option Bool:=match y with
 |.tup ys=>Qx x ys
 |.lst ys=>Qx x ys
 |_=>none
noncomputable def XA:V->Bool
 |.non=>true
 |_=>false
noncomputable def W3 (op:Cop) (x y:V):Option V:=match op with
 |.eq=>(eqV ZA x y).map .bl
 |.ne=>(eqV ZA x y).map λb=>.bl !b
 |.lt=>match x,y with
  |.int a,.int b=>some (.bl (decide (a<b)))
  |_,_=>none
 |.gt=>match x,y with
  |.int a,.int b=>some (.bl (decide (b<a)))
  |_,_=>none
 |.le=>match x,y with
  |.int a,.int b=>some (.bl (decide (a<=b)))
  |_,_=>none
 |.ge=>match x,y with
  |.int a,.int b=>some (.bl (decide (b<=a)))
  |_,_=>none
 |.is=>match x,y with
  |_,.non=>some (.bl (XA x))
  |.bl a,.bl b=>some (.bl (decide (a=b)))
  |_,_=>none
 |.isn=>match x,y with
  |_,.non=>some (.bl !(XA x))
  |.bl a,.bl b=>some (.bl (decide (a≠b)))
  |_,_=>none
 |.inn=>(WN x y).map .bl
 |.nin=>(WN x y).map λb=>.bl !b
noncomputable def ixV (x y:V):Option V:=match x,y with
 |.tup xs,.int i=>at' xs i
 |.lst xs,.int i=>at' xs i
 |_,_=>none
noncomputable def slV (x:V) (lo hi:Option Int):Option V:=match x with
 |.tup xs=>some (.tup (Wm xs lo hi))
 |.lst xs=>some (.lst (Wm xs lo hi))
 |_=>none
noncomputable def ZaZ:V->Option V
 |.tup xs=>some (.tup xs.reverse)
 |_=>none
noncomputable def Ja:V->Option Bool
 |.non=>some false
 |.bl b=>some b
 |.int i=>some (decide (i≠0))
 |_=>none
noncomputable def Yr:List V->Option (List Bool)
 |[]=>some []
 |x::xs=>match Ja x,Yr xs with
  |some b,some bs=>some (b::bs)
  |_,_=>none
noncomputable def intsV:List V->Option (List Int)
 |[]=>some []
 |.int i::r=>(intsV r).map (i :: ·)
 |_::_=>none
noncomputable def Zk (r:List Int):V:=.tup (r.map .int)
noncomputable def X0:List V->Option (List (List Int))
 |[]=>some []
 |.tup x::r=>match intsV x,X0 r with
  |some a,some b=>some (a::b)
  |_,_=>none
 |_::_=>none
noncomputable def Yw:V->Option (List V)
 |.tup xs=>some xs
 |.lst xs=>some xs
 |_=>none
noncomputable def U1 (f:Bf) (as:List V):Option V:=match f,as with
 |.len,[x]=>(Yw x).map λxs=>.int xs.length
 |.max2,[.int a,.int b]=>some (.int (if b>a then b else a))
 |.min2,[.int a,.int b]=>some (.int (if b<a then b else a))
 |.toInt,[.int a]=>some (.int a)
 |.toInt,[.bl b]=>some (.int (b2i b))
 |.tuple,[x]=>(Yw x).map .tup
 |.list,[x]=>(Yw x).map .lst
 |.all,[.lst xs]=>(Yr xs).map λbs=>.bl (bs.all id)
 |.any,[x]=>(Yw x).bind λxs=>(Yr xs).map λbs=>.bl (bs.any id)
 |.sum,[.lst xs]=>(intsV xs).bind λis=>if QH is=true then some (.int is.sum) else none
 |.sorted,[.lst xs]=>(X0 xs).bind λrs=>if YA rs=true then some (.lst ((Z8 rs).map Zk)) else none
 |.sortedR,[.lst xs]=>(X0 xs).bind λrs=>if YA rs=true then some (.lst ((Z8 rs).reverse.map Zk)) else none
 |_,_=>none
noncomputable def Xq:List Nat->List V->Env->Option Env
 |[],[],ρ=>some ρ
 |i::t,x::xs,ρ=>Xq t xs (ρ.set i (some x))
 |_,_,_=>none
noncomputable def ZI (t:List Nat) (x:V) (ρ:Env):Option Env:=match t with
 |[i]=>some (ρ.set i (some x))
 |t=>match Yw x with
  |some xs=>Xq t xs ρ
  |none=>none
noncomputable def Xu (lo:Int) (n:Nat):List V:=(List.range n).map λ(k:Nat)=>.int (lo+(k:Int))
noncomputable abbrev Z5:=Nat->List V->DS->PR V
noncomputable def Zj (cap:List Nat) (nl:Nat) (ρ:Env):Env:=List.replicate nl none++cap.map λi=>(ρ[i]?).join
noncomputable def mapP (f:V->DS->PR (List V)):List V->DS->PR (List V)
 |[],s=>.ok [] s
 |x::xs,s=>match f x s with
  |.ok ys s=>match mapP f xs s with
   |.ok zs s=>.ok (ys++zs) s
   |_=>.no
  |_=>.no
noncomputable def own (nl:Nat) (t:List Nat):Bool:=t.all λi=>decide (i<nl)
noncomputable def own2 (nl:Nat) (t u:List Nat):Bool:=own nl t&&u.all λi=>decide (i<nl) && !t.contains i
mutual
noncomputable def pv (C:Z5):E->Env->DS->PR V
 |.c d,_,s=>po (ofD d) s
 |.v i,ρ,s=>po (ρ[i]?).join s
 |.tup es,ρ,s=>(pvs C es ρ s).bind λxs s=>if xs.length<=lim then .ok (.tup xs) s else .no
 |.lst es,ρ,s=>(pvs C es ρ s).bind λxs s=>if xs.length<=lim then .ok (.lst xs) s else .no
 |.dnew,_,_=>.no
 |.dput1 _ _,_,_=>.no
 |.bin op a b,ρ,s=>(pv C a ρ s).bind λx s=>(pv C b ρ s).bind λy s=>Um op x y s
 |.neg a,ρ,s=>(pv C a ρ s).bind λx s=>match x with
  |.int i=>.ok (.int (-i)) s
  |_=>.no
 |.not a,ρ,s=>(pv C a ρ s).bind λx s=>(po (YG x) s).bind λb s=>.ok (.bl !b) s
 |.and a b,ρ,s=>(pv C a ρ s).bind λx s=>match x with
  |.bl c=>if c then pv C b ρ s else .ok (.bl false) s
  |_=>.no
 |.or a b,ρ,s=>(pv C a ρ s).bind λx s=>match x with
  |.bl c=>if c then .ok (.bl true) s else pv C b ρ s
  |_=>.no
 |.ite t a b,ρ,s=>(pv C t ρ s).bind λx s=>(po (YG x) s).bind λc s=>if c then pv C a ρ s else pv C b ρ s
 |.cmp op a b,ρ,s=>(pv C a ρ s).bind λx s=>(pv C b ρ s).bind λy s=>po (W3 op x y) s
 |.chain o p a b d,ρ,s=>(pv C a ρ s).bind λx s=>(pv C b ρ s).bind λy s=>(po (W3 o x y) s).bind λz s=>match z with
  |.bl c=>if c then (pv C d ρ s).bind λw s=>po (W3 p y w) s else .ok (.bl false) s
  |_=>.no
 |.ix a i,ρ,s=>(pv C a ρ s).bind λx s=>(pv C i ρ s).bind λy s=>po (ixV x y) s
 |.sl a lo hi,ρ,s=>(pv C a ρ s).bind λx s=>(pvo C lo ρ s).bind λl s=>(pvo C hi ρ s).bind λh s=>po (slV x l h) s
 |.rev a,ρ,s=>(pv C a ρ s).bind λx s=>po (ZaZ x) s
 |.call f as,ρ,s=>(pvs C as ρ s).bind λxs s=>C f xs s
 |.blt f as,ρ,s=>(pvs C as ρ s).bind λxs s=>po (U1 f xs) s
 |.mt _ _ _,_,_=>.no
 |.isi a ts,ρ,s=>(pv C a ρ s).bind λx s=>(po (We x ts) s).bind λb s=>.ok (.bl b) s
 |.inT a tab,ρ,s=>(pv C a ρ s).bind λx s=>match x with
  |.int i=>.ok (.bl ((tab.map (·.1)).contains i)) s
  |_=>.no
 |.getT tab a,ρ,s=>(pv C a ρ s).bind λx s=>match x with
  |.int i=>(po (tab.lookup i) s).bind λj s=>.ok (.int j) s
  |_=>.no
 |.comp1 cap nl t it ifs elt,ρ,s=>if own nl t=true then (pvw C it ρ s).bind λw s=>
   (mapP (λx s=>(po (ZI t x (Zj cap nl ρ)) s).bind λσ s=>(pvt C ifs σ s).bind λb s=>if b then (pv C elt σ s).bind λy s=>.ok [y] s else .ok [] s) w s).bind
    λys s=>if ys.length<=lim then .ok (.lst ys) s else .no
  else .no
 |.comp2 cap nl t it ifs u jt jfs elt,ρ,s=>if own2 nl t u=true then (pvw C it ρ s).bind λw s=>
   (mapP (λx s=>(po (ZI t x (Zj cap nl ρ)) s).bind λσ s=>(pvt C ifs σ s).bind λb s=>if b then
    (pvw C jt σ s).bind λw2 s=>mapP (λx s=>(po (ZI u x σ) s).bind λσ s=>(pvt C jfs σ s).bind λb s=>if b then (pv C elt σ s).bind λy s=>.ok [y] s else .ok [] s) w2 s
    else .ok [] s) w s).bind
    λys s=>if ys.length<=lim then .ok (.lst ys) s else .no
  else .no
 |.fstr,_,_=>.no
noncomputable def pvs (C:Z5):List E->Env->DS->PR (List V)
 |[],_,s=>.ok [] s
 |e::es,ρ,s=>(pv C e ρ s).bind λx s=>(pvs C es ρ s).bind λxs s=>.ok (x::xs) s
noncomputable def pvo (C:Z5):Option E->Env->DS->PR (Option Int)
 |none,_,s=>.ok none s
 |some e,ρ,s=>(pv C e ρ s).bind λx s=>match x with
  |.int i=>.ok (some i) s
  |_=>.no
noncomputable def pvt (C:Z5):List E->Env->DS->PR Bool
 |[],_,s=>.ok true s
 |e::es,ρ,s=>(pv C e ρ s).bind λx s=>(po (YG x) s).bind λb s=>if b then pvt C es ρ s else .ok false s
noncomputable def pvw (C:Z5):W->Env->DS->PR (List V)
 |.rng1 a,ρ,s=>(pv C a ρ s).bind λx s=>match x with
  |.int i=>if small i then .ok (Xu 0 i.toNat) s else .no
  |_=>.no
 |.rng2 a b,ρ,s=>(pv C a ρ s).bind λx s=>(pv C b ρ s).bind λy s=>match x,y with
  |.int i,.int j=>if (small i&&small j)=true then .ok (Xu i (j-i).toNat) s else .no
  |_,_=>.no
 |.rrng a b,ρ,s=>(pv C a ρ s).bind λx s=>(pv C b ρ s).bind λy s=>match x,y with
  |.int i,.int j=>if (small i&&small j)=true then .ok (Xu i (j-i).toNat).reverse s else .no
  |_,_=>.no
 |.zip a b,ρ,s=>(pv C a ρ s).bind λx s=>(pv C b ρ s).bind λy s=>match Yw x,Yw y with
  |some v,some w=>.ok ((v.zip w).map λp=>.tup [p.1,p.2]) s
  |_,_=>.no
 |.enum a,ρ,s=>(pv C a ρ s).bind λx s=>match Yw x with
  |some w=>.ok (((Xu 0 w.length).zip w).map λp=>.tup [p.1,p.2]) s
  |none=>.no
 |.of e,ρ,s=>(pv C e ρ s).bind λx s=>po (Yw x) s
end
inductive FlV where | nx (ρ:Env) (os:List Nat) | ret (v:V) | brk (ρ:Env) (os:List Nat) | cnt (ρ:Env) (os:List Nat)
noncomputable def hide (os:List Nat) (ρ:Env):Env:=ρ.mapIdx λi o=>if os.contains i then none else o
noncomputable def fresh:E->Bool
 |.lst _=>true
 |.comp1 .. => true
 |.comp2 .. => true
 |.bin .mul (.lst _) _=>true
 |.blt .list _=>true
 |.blt .sorted _=>true
 |_=>false
noncomputable def pvA (C:Z5) (e:E) (ρ:Env) (os:List Nat) (s:DS):PR V:=match os with
 |[]=>pv C e ρ s
 |os=>match pv C e (hide os ρ) s with
  |.ok v s=>.ok v s
  |.ex c s=>.ex c s
  |.no=>(pv C e ρ s).bind λv s=>if v.flat then .ok v s else .no
noncomputable def Zao (C:Z5) (es:List E) (ρ:Env) (os:List Nat) (s:DS):PR (List V):=match os with
 |[]=>pvs C es ρ s
 |_=>(pvs C es ρ s).bind λv s=>if flats v then .ok v s else .no
noncomputable def Zy (C:Z5) (e:E) (ρ:Env) (s:DS):PR Bool:=(pv C e ρ s).bind λx s=>po (YG x) s
noncomputable def Vc (body:V->Env->List Nat->DS->PR FlV):List V->Env->List Nat->DS->PR FlV
 |[],ρ,os,s=>.ok (.nx ρ os) s
 |x::xs,ρ,os,s=>(body x ρ os s).bind λf s=>match f with
  |.nx ρ os=>Vc body xs ρ os s
  |.cnt ρ os=>Vc body xs ρ os s
  |.brk ρ os=>.ok (.nx ρ os) s
  |.ret v=>.ok (.ret v) s
noncomputable def XY (test:Env->DS->PR Bool) (body:Env->List Nat->DS->PR FlV):Nat->Env->List Nat->DS->PR FlV
 |0,_,_,_=>.no
 |n+1,ρ,os,s=>(test ρ s).bind λb s=>if b then (body ρ os s).bind λf s=>match f with
  |.nx ρ os=>XY test body n ρ os s
  |.cnt ρ os=>XY test body n ρ os s
  |.brk ρ os=>.ok (.nx ρ os) s
  |.ret v=>.ok (.ret v) s
  else .ok (.nx ρ os) s
noncomputable def W7:Option (Option V)->Option (List V)
 |some (some (.lst xs))=>some xs
 |_=>none
mutual
noncomputable def rv (C:Z5) (ms:List Nat):Sm->Env->List Nat->DS->PR FlV
 |.asg [i] e,ρ,os,s=>(pvA C e ρ os s).bind λv s=>if (ms.contains i&&fresh e)=true then match v with
   |.lst xs=>if flats xs=true/\i<ρ.length then .ok (.nx (ρ.set i (some v)) (i::os.filter (· != i))) s else .no
   |_=>.no
  else .ok (.nx (ρ.set i (some v)) (os.filter (· != i))) s
 |.asg t e,ρ,os,s=>(pvA C e ρ os s).bind λv s=>if (t.any os.contains)=true then .no else (po (ZI t v ρ) s).bind λρ s=>.ok (.nx ρ os) s
 |.par t es,ρ,os,s=>(Zao C es ρ os s).bind λvs s=>if (t.any os.contains)=true then .no else (po (Xq t vs ρ) s).bind λρ s=>.ok (.nx ρ os) s
 |.aug i op e,ρ,os,s=>if os.contains i then .no else (po (ρ[i]?).join s).bind λx s=>(pv C e ρ s).bind λy s=>(yS op x y s).bind λz s=>.ok (.nx (ρ.set i (some z)) os) s
 |.put (.v i) k e,ρ,os,s=>if os.contains i then (pv C e ρ s).bind λv s=>if v.flat then (po (W7 ρ[i]?) s).bind λxs s=>(pv C k ρ s).bind λy s=>match y with
   |.int n=>(po (ixN xs.length n) s).bind λj s=>.ok (.nx (ρ.set i (some (.lst (xs.set j v)))) os) s
   |_=>.no
  else .no else .no
 |.put _ _ _,_,_,_=>.no
 |.dput _ _ _,_,_,_=>.no
 |.ret e,ρ,os,s=>(pv C e ρ s).bind λv s=>.ok (.ret v) s
 |.ex (.mt .append (.v i) [e]),ρ,os,s=>if os.contains i then (po (W7 ρ[i]?) s).bind λxs s=>(pv C e ρ s).bind λv s=>if v.flat=true/\xs.length<lim then .ok (.nx (ρ.set i (some (.lst (xs++[v])))) os) s else .no else .no
 |.ex (.mt .extend (.v i) [e]),ρ,os,s=>if os.contains i then (po (W7 ρ[i]?) s).bind λxs s=>(pv C e (hide os ρ) s).bind λv s=>match v with
   |.lst ys=>if flats ys=true/\xs.length+ys.length<=lim then .ok (.nx (ρ.set i (some (.lst (xs++ys)))) os) s else .no
   |_=>.no
  else .no
 |.ex e,ρ,os,s=>(pv C e ρ s).bind λ_ s=>.ok (.nx ρ os) s
 |.ite t a b,ρ,os,s=>(Zy C t ρ s).bind λc s=>if c then rvs C ms a ρ os s else rvs C ms b ρ os s
 |.forr t it b,ρ,os,s=>(pvw C it (hide os ρ) s).bind λw s=>Vc (λx ρ os s=>if (t.any os.contains)=true then .no else if (os.isEmpty||x.flat)=true then (po (ZI t x ρ) s).bind λρ s=>rvs C ms b ρ os s else .no) w ρ os s
 |.whl t b,ρ,os,s=>XY (Zy C t) (rvs C ms b) Vv ρ os s
 |.raise c as,ρ,os,s=>(pvs C as ρ s).bind λ_ s=>.ex c s
 |.pas,ρ,os,s=>.ok (.nx ρ os) s
 |.brk,ρ,os,s=>.ok (.brk ρ os) s
 |.cnt,ρ,os,s=>.ok (.cnt ρ os) s
noncomputable def rvs (C:Z5) (ms:List Nat):List Sm->Env->List Nat->DS->PR FlV
 |[],ρ,os,s=>.ok (.nx ρ os) s
 |m::ss,ρ,os,s=>(rv C ms m ρ os s).bind λf s=>match f with
  |.nx ρ os=>rvs C ms ss ρ os s
  |f=>.ok f s
end
mutual
noncomputable def muts1:Sm->List Nat
 |.put (.v i) _ _=>[i]
 |.ex (.mt .append (.v i) _)=>[i]
 |.ex (.mt .extend (.v i) _)=>[i]
 |.ite _ a b=>muts a++muts b
 |.forr _ _ b=>muts b
 |.whl _ b=>muts b
 |_=>[]
noncomputable def muts:List Sm->List Nat
 |[]=>[]
 |m::ss=>muts1 m++muts ss
end
noncomputable def Zp (n:Nat) (xs:List V):Env:=xs.map some++List.replicate (n-xs.length) none
noncomputable def takeF (s:DS) (m:Int):Int×DS:=
 if s.2 then (s.1%m,(s.1 / m,true)) else
  let x:=(s.1*48271+29)%2147483647
  let y:=(x*x+39373*x+7)%2147483629
  let z:=(y*y+16807*y)%2147483587
  (z / 8%m,(x,false))
noncomputable def takeV (vs:List V) (s:DS):PR V:=match vs with
 |[.drw,.int m]=>if 0<m/\m<1073741824 then .ok (.int (takeF s m).1) (takeF s m).2 else .no
 |_=>.no
noncomputable def Yh (F:List Fn) (tk:Nat):Nat->Z5
 |0,_,_,_=>.no
 |d+1,f,xs,s=>if f=tk then takeV xs s else match F[f]? with
  |some fn=>if xs.length=fn.ps then (rvs (Yh F tk d) (muts fn.body) fn.body (Zp fn.ns xs) [] s).bind λf s=>match f with
    |.ret v=>.ok v s
    |.nx _ _=>.ok .non s
    |_=>.no
   else .no
  |none=>.no
end Pv
namespace Pv
open Ev
mutual
noncomputable def Rep (S:Store) (X:Nat->Prop) (n0:Nat):V->D->Prop
 |.non,d=>d=.non
 |.bl b,d=>d=.bl b
 |.int i,d=>d=.int i
 |.str x,d=>d=.str x
 |.tup vs,d=>∃ds,d=.tup ds/\Reps S X n0 vs ds
 |.lst vs,d=>∃n ds,d=.loc n/\S[n]? = some (.lst ds)/\¬X n/\Reps S X n0 vs ds
 |.drw,d=>d=.loc n0
noncomputable def Reps (S:Store) (X:Nat->Prop) (n0:Nat):List V->List D->Prop
 |[],ds=>ds=[]
 |v::vs,ds=>∃d es,ds=d::es/\Rep S X n0 v d/\Reps S X n0 vs es
end
section
variable {S S':Store}{X X':Nat->Prop}{n0:Nat}
theorem XU {n:Nat}{o:Ob}(h:S[n]? = some o):n<S.length:=(List.getElem?_eq_some_iff.mp h).1
mutual
theorem Rep.mono (k:∀n o,¬X n->S[n]? = some o->S'[n]? = some o) (x:∀n,n<S.length->X' n->X n):∀{v:V}{d:D},Rep S X n0 v d->Rep S' X' n0 v d
 |.non,_,h | .bl _,_,h | .int _,_,h | .str _,_,h | .drw,_,h=>by unfold Rep at h ⊢;exact h
 |.tup vs,d,h=>by
  unfold Rep at h ⊢;obtain⟨ds,e,r⟩:=h;exact⟨ds,e,Reps.mono k x r⟩
 |.lst vs,d,h=>by
  unfold Rep at h ⊢;obtain⟨n,ds,e,hs,hx,r⟩:=h;exact⟨n,ds,e,k n _ hx hs,λz=>hx (x n (XU hs) z),Reps.mono k x r⟩
theorem Reps.mono (k:∀n o,¬X n->S[n]? = some o->S'[n]? = some o) (x:∀n,n<S.length->X' n->X n):∀{vs:List V}{ds:List D},Reps S X n0 vs ds->Reps S' X' n0 vs ds
 |[],_,h=>by unfold Reps at h ⊢;exact h
 |v::vs,ds,h=>by
  unfold Reps at h ⊢;obtain⟨d,es,e,r,rs⟩:=h;exact⟨d,es,e,Rep.mono k x r,Reps.mono k x rs⟩
end
theorem Reps.nil:Reps S X n0 [] []:=by unfold Reps;rfl
theorem Reps.cons {v:V}{d:D}{vs:List V}{ds:List D}(r:Rep S X n0 v d) (rs:Reps S X n0 vs ds):Reps S X n0 (v::vs) (d::ds):=by unfold Reps;exact⟨d,ds,rfl,r,rs⟩
theorem Reps.nil' {ds:List D}(h:Reps S X n0 [] ds):ds=[]:=by unfold Reps at h;exact h
theorem Reps.cons' {v:V}{vs:List V}{ds:List D}(h:Reps S X n0 (v::vs) ds):∃d es,ds=d::es/\Rep S X n0 v d/\Reps S X n0 vs es:=by unfold Reps at h;exact h
theorem Reps.length:∀{vs:List V}{ds:List D},Reps S X n0 vs ds->ds.length=vs.length
 |[],_,h=>by rw[h.nil'];rfl
 |v::vs,_,h=>by obtain⟨d,es,rfl,_,t⟩:=h.cons';rw[List.length_cons,List.length_cons,Reps.length t]
theorem Reps.append:∀{vs ws:List V}{ds es:List D},Reps S X n0 vs ds->Reps S X n0 ws es->Reps S X n0 (vs++ws) (ds++es)
 |[],_,_,_,h,r=>by rw[h.nil'];exact r
 |v::vs,_,_,_,h,r=>by obtain⟨d,es,rfl,a,t⟩:=h.cons';exact Reps.cons a (Reps.append t r)
theorem Reps.take:∀{vs:List V}{ds:List D}(k:Nat),Reps S X n0 vs ds->Reps S X n0 (vs.take k) (ds.take k)
 |_,_,0,_=>Reps.nil
 |[],_,k+1,h=>by rw[h.nil'];exact Reps.nil
 |v::vs,_,k+1,h=>by obtain⟨d,es,rfl,a,t⟩:=h.cons';exact Reps.cons a (Reps.take k t)
theorem Reps.drop:∀{vs:List V}{ds:List D}(k:Nat),Reps S X n0 vs ds->Reps S X n0 (vs.drop k) (ds.drop k)
 |_,_,0,h=>h
 |[],_,k+1,h=>by rw[h.nil'];exact Reps.nil
 |v::vs,_,k+1,h=>by obtain⟨d,es,rfl,a,t⟩:=h.cons';exact Reps.drop k t
theorem Reps.get:∀{vs:List V}{ds:List D}{i:Nat}{v:V},Reps S X n0 vs ds->vs[i]? = some v->∃d,ds[i]? = some d/\Rep S X n0 v d
 |[],_,_,_,_,e=>by simp at e
 |v::vs,_,0,_,h,e=>by
  obtain⟨d,es,rfl,a,t⟩:=h.cons';simp at e;subst e;exact⟨d,rfl,a⟩
 |v::vs,_,i+1,_,h,e=>by
  obtain⟨d,es,rfl,a,t⟩:=h.cons';obtain⟨u,q,r⟩:=Reps.get (i:=i) t (by simpa using e)
  exact⟨u,by simpa using q,r⟩
theorem Reps.reverse:∀{vs:List V}{ds:List D},Reps S X n0 vs ds->Reps S X n0 vs.reverse ds.reverse
 |[],_,h=>by rw[h.nil'];exact Reps.nil
 |v::vs,_,h=>by
  obtain⟨d,es,rfl,a,t⟩:=h.cons';rw[List.reverse_cons,List.reverse_cons];exact Reps.append (Reps.reverse t) (Reps.cons a Reps.nil)
theorem Reps.rep {vs:List V}{ds:List D}(h:Reps S X n0 vs ds):∀k:Nat,Reps S X n0 (List.replicate k vs).flatten (List.replicate k ds).flatten
 |0=>Reps.nil
 |k+1=>by rw[List.replicate_succ,List.replicate_succ,List.flatten_cons,List.flatten_cons];exact Reps.append h (Reps.rep h k)
theorem Reps.empty:∀{vs:List V}{ds:List D},Reps S X n0 vs ds->ds.isEmpty=vs.isEmpty
 |[],_,h=>by rw[h.nil'];rfl
 |v::vs,_,h=>by obtain⟨d,es,rfl,_,_⟩:=h.cons';rfl
mutual
theorem Wy:∀{v:V}{d:D},v.flat=true->Rep S X n0 v d->d=toD v
 |.non,_,_,h | .bl _,_,_,h | .int _,_,_,h | .str _,_,_,h=>by unfold Rep at h;exact h
 |.tup vs,d,hf,h=>by
  unfold Rep at h;obtain⟨ds,rfl,r⟩:=h;exact congrArg D.tup (X6 hf r)
 |.lst _,_,hf,_=>by cases hf
 |.drw,_,hf,_=>by cases hf
theorem X6:∀{vs:List V}{ds:List D},flats vs=true->Reps S X n0 vs ds->ds=Y6 vs
 |[],_,_,h=>h.nil'
 |v::vs,_,hf,h=>by
  obtain⟨d,es,rfl,a,t⟩:=h.cons';unfold flats at hf;obtain⟨h1,h2⟩:=(Bool.and_eq_true _ _).mp hf;rw[Wy h1 a,X6 h2 t];rfl
end
mutual
theorem U8:∀{v:V},v.flat=true->Rep S X n0 v (toD v)
 |.non,_ | .bl _,_ | .int _,_ | .str _,_=>by unfold Rep;rfl
 |.tup vs,hf=>by unfold Rep;exact⟨Y6 vs,rfl,WR hf⟩
 |.lst _,hf=>by cases hf
 |.drw,hf=>by cases hf
theorem WR:∀{vs:List V},flats vs=true->Reps S X n0 vs (Y6 vs)
 |[],_=>Reps.nil
 |v::vs,hf=>by
  unfold flats at hf;obtain⟨h1,h2⟩:=(Bool.and_eq_true _ _).mp hf;exact Reps.cons (U8 h1) (WR h2)
end
theorem Rep.int' {i:Int}{d:D}(h:Rep S X n0 (.int i) d):d=.int i:=by unfold Rep at h;exact h
theorem Rep.bl' {i:Bool}{d:D}(h:Rep S X n0 (.bl i) d):d=.bl i:=by unfold Rep at h;exact h
theorem Rep.non' {d:D}(h:Rep S X n0 .non d):d=.non:=by unfold Rep at h;exact h
theorem Rep.str' {x:PySem.Str}{d:D}(h:Rep S X n0 (.str x) d):d=.str x:=by unfold Rep at h;exact h
theorem Rep.tup' {vs:List V}{d:D}(h:Rep S X n0 (.tup vs) d):∃ds,d=.tup ds/\Reps S X n0 vs ds:=by unfold Rep at h;exact h
theorem Rep.lst' {vs:List V}{d:D}(h:Rep S X n0 (.lst vs) d):∃n ds,d=.loc n/\S[n]? = some (.lst ds)/\¬X n/\Reps S X n0 vs ds:=by unfold Rep at h;exact h
theorem Rep.drw' {d:D}(h:Rep S X n0 .drw d):d=.loc n0:=by unfold Rep at h;exact h
theorem ZF (i:Int):Rep S X n0 (.int i) (.int i):=by unfold Rep;rfl
theorem ZH (i:Bool):Rep S X n0 (.bl i) (.bl i):=by unfold Rep;rfl
theorem Ut:Rep S X n0 .non .non:=by unfold Rep;rfl
theorem Ye {vs:List V}{ds:List D}(h:Reps S X n0 vs ds):Rep S X n0 (.tup vs) (.tup ds):=by unfold Rep;exact⟨ds,rfl,h⟩
theorem Jh {vs:List V}{n:Nat}{ds:List D}(hs:S[n]? = some (.lst ds)) (hx:¬X n) (h:Reps S X n0 vs ds):Rep S X n0 (.lst vs) (.loc n):=by unfold Rep;exact⟨n,ds,rfl,hs,hx,h⟩
theorem ZX {n:Nat}{ds:List D}(h:S[n]? = some (.lst ds)):Zv S n=some ds:=by unfold Zv;rw[h]
theorem U6 {n:Nat}{ds:List D}(h:S[n]? = some (.lst ds)):Yu S n=some ds:=by unfold Yu;rw[h]
mutual
theorem ye:∀{d:D}{v:V},ofD d=some v->Rep S X n0 v d
 |.non,v,h | .bl _,v,h | .int _,v,h | .str _,v,h=>by cases h;unfold Rep;rfl
 |.tup ds,v,h=>by
  unfold ofD at h;cases q:yV ds with
  |none=>rw[q] at h;cases h
  |some vs=>rw[q] at h;cases h;exact Ye (J8 q)
 |.loc _,_,h | .fn _,_,h | .exc _ _,_,h=>by cases h
theorem J8:∀{ds:List D}{vs:List V},yV ds=some vs->Reps S X n0 vs ds
 |[],vs,h=>by cases h;exact Reps.nil
 |d::ds,vs,h=>by
  unfold yV at h;cases q:ofD d with
  |none=>rw[q] at h;cases h
  |some a=>
   cases q2:yV ds with
   |none=>rw[q,q2] at h;cases h
   |some b=>rw[q,q2] at h;cases h;exact Reps.cons (ye q) (J8 q2)
end
theorem XG {v:V}{d:D}{b:Bool}(r:Rep S X n0 v d) (h:YG v=some b):truth S d=some b:=by
 cases v with
 |non=>cases r.non';exact h
 |bl x=>cases r.bl';exact h
 |int x=>cases r.int';exact h
 |str x=>cases h
 |drw=>cases h
 |tup vs=>
  obtain⟨ds,rfl,rs⟩:=r.tup';show some (!ds.isEmpty)=some b;rw[rs.empty];exact h
 |lst vs=>
  obtain⟨n,ds,rfl,hs,_,rs⟩:=r.lst';show (Yu S n).map _=some b;rw[U6 hs];show some (!ds.isEmpty)=some b;rw[rs.empty];exact h
theorem ze {f:V->V->Option Bool}{g:D->D->Option Bool}(hf:∀v w d e b,Rep S X n0 v d->Rep S X n0 w e->f v w=some b->g d e=some b):∀{vs ws:List V}{ds es:List D}{b:Bool},Reps S X n0 vs ds->Reps S X n0 ws es->Vb f vs ws=some b->eqL g ds es=some b
 |[],[],_,_,b,h1,h2,h=>by rw[h1.nil',h2.nil'];exact h
 |[],w::ws,_,_,b,h1,h2,h=>by rw[h1.nil'];obtain⟨d,es,rfl,_,_⟩:=h2.cons';exact h
 |v::vs,[],_,_,b,h1,h2,h=>by rw[h2.nil'];obtain⟨d,es,rfl,_,_⟩:=h1.cons';exact h
 |v::vs,w::ws,_,_,b,h1,h2,h=>by
  obtain⟨d,ds,rfl,a1,t1⟩:=h1.cons';obtain⟨e,es,rfl,a2,t2⟩:=h2.cons';unfold Vb at h;cases q1:f v w with
  |none=>rw[q1] at h;cases h
  |some x=>
   cases q2:Vb f vs ws with
   |none=>rw[q1,q2] at h;cases h
   |some y=>
    rw[q1,q2] at h;unfold eqL;rw[hf v w d e x a1 a2 q1,ze hf t1 t2 q2];exact h
theorem UL:∀(k:Nat) (v w:V) (d e:D) (b:Bool),Rep S X n0 v d->Rep S X n0 w e->eqV k v w=some b->eqD S k d e=some b
 |0,_,_,_,_,_,_,_,h=>by cases h
 |k+1,v,w,d,e,b,r1,r2,h=>by
  cases v with
  |tup vs=>cases w with
   |tup ws=>
    obtain⟨ds,rfl,t1⟩:=r1.tup';obtain⟨es,rfl,t2⟩:=r2.tup';exact ze (UL k) t1 t2 h
   |_=>cases h
  |lst vs=>cases w with
   |lst ws=>
    obtain⟨m,ds,rfl,hs1,_,t1⟩:=r1.lst';obtain⟨n,es,rfl,hs2,_,t2⟩:=r2.lst';have h':(if vs.length=ws.length then Vb (eqV k) vs ws else some false)=some b:=h
    show (match Zv S m,Zv S n with
     |some xs,some ys=>if xs.length=ys.length then eqL (eqD S k) xs ys else some false
     |_,_=>none)=some b
    rw[ZX hs1,ZX hs2];show (if ds.length=es.length then eqL (eqD S k) ds es else some false)=some b
    rw[t1.length,t2.length];by_cases c:vs.length=ws.length
    ·rw[if_pos c] at h' ⊢;exact ze (UL k) t1 t2 h'
    ·rw[if_neg c] at h' ⊢;exact h'
   |_=>cases h
  |drw=>cases w <;> cases h
  |non=>cases r1.non';cases w with
   |non=>cases r2.non';exact h
   |bl _=>cases r2.bl';exact h
   |int _=>cases r2.int';exact h
   |str _=>cases r2.str';exact h
   |_=>cases h
  |bl x=>cases r1.bl';cases w with
   |non=>cases r2.non';exact h
   |bl _=>cases r2.bl';exact h
   |int _=>cases r2.int';exact h
   |str _=>cases r2.str';exact h
   |_=>cases h
  |int x=>cases r1.int';cases w with
   |non=>cases r2.non';exact h
   |bl _=>cases r2.bl';exact h
   |int _=>cases r2.int';exact h
   |str _=>cases r2.str';exact h
   |_=>cases h
  |str x=>cases r1.str';cases w with
   |non=>cases r2.non';exact h
   |bl _=>cases r2.bl';exact h
   |int _=>cases r2.int';exact h
   |str _=>cases r2.str';exact h
   |_=>cases h
theorem zu {x:V}{dx:D}(rx:Rep S X n0 x dx):∀{vs:List V}{ds:List D}{b:Bool},Reps S X n0 vs ds->Qx x vs=some b->inL S dx ds=some b
 |[],_,b,h,e=>by rw[h.nil'];exact e
 |v::vs,_,b,h,e=>by
  obtain⟨d,ds,rfl,a,t⟩:=h.cons';unfold Qx at e;cases q1:eqV ZA v x with
  |none=>rw[q1] at e;cases e
  |some y=>
   cases q2:Qx x vs with
   |none=>rw[q1,q2] at e;cases e
   |some z=>
    rw[q1,q2] at e;unfold inL;rw[UL _ _ _ _ _ _ a rx q1,zu rx t q2];exact e
theorem v8 {v:V}{d:D}{t:Ty}{b:Bool}(r:Rep S X n0 v d) (h:GA v t=some b):GP S d t=some b:=by
 cases v with
 |non=>cases r.non';exact h
 |bl x=>cases r.bl';exact h
 |int x=>cases r.int';exact h
 |str x=>cases r.str';exact h
 |drw=>cases h
 |tup vs=>obtain⟨ds,rfl,rs⟩:=r.tup';exact h
 |lst vs=>
  obtain⟨n,ds,rfl,hs,_,rs⟩:=r.lst';show (match S[n]? with
   |some (.lst _)=>some (decide (t=.list))
   |some (.dt _)=>some (decide (t=.dict))
   |some (.dk _)=>some (decide (t=.dict))
   |_=>none)=some b
  rw[hs];exact h
theorem Gp {v:V}{d:D}(r:Rep S X n0 v d):∀{ts:List Ty}{b:Bool},We v ts=some b->UV S d ts=some b
 |[],b,h=>h
 |t::ts,b,h=>by
  unfold We at h;unfold UV;cases q:GA v t with
  |none=>rw[q] at h;cases h
  |some x=>
   rw[q] at h;rw[v8 r q];cases x with
   |true=>exact h
   |false=>exact Gp r h
theorem u3 {vs:List V}{ds:List D}{i:Int}{v:V}(r:Reps S X n0 vs ds) (h:at' vs i=some v):∃d,at' ds i=some d/\Rep S X n0 v d:=by
 unfold at' at h ⊢;rw[r.length];cases q:ixN vs.length i with
 |none=>rw[q] at h;cases h
 |some j=>rw[q] at h;exact r.get h
theorem vh {vs:List V}{ds:List D}{lo hi:Option Int}(r:Reps S X n0 vs ds):Reps S X n0 (Wm vs lo hi) (cut ds lo hi):=by
 unfold Wm cut;rw[r.length];exact (r.drop _).take _
theorem V3:∀{vs:List V}{ds:List D}{is:List Int},Reps S X n0 vs ds->intsV vs=some is->UW ds=some is/\Xp ds=some is
 |[],_,is,r,h=>by rw[r.nil'];cases h;exact⟨rfl,rfl⟩
 |v::vs,_,is,r,h=>by
  obtain⟨d,ds,rfl,a,t⟩:=r.cons';cases v with
  |int i=>
   cases a.int';have h':(intsV vs).map (i :: ·)=some is:=h
   cases q:intsV vs with
   |none=>rw[q] at h';cases h'
   |some js=>
    rw[q] at h';obtain⟨e1,e2⟩:=V3 t q;refine⟨?_,?_⟩
    ·show (UW ds).map (i :: ·)=some is;rw[e1];exact h'
    ·show (Xp ds).map (i :: ·)=some is;rw[e2];exact h'
  |_=>cases h
theorem Ub:∀{vs:List V}{ds:List D}{rs:List (List Int)},Reps S X n0 vs ds->X0 vs=some rs->Y9 ds=some rs
 |[],_,rs,r,h=>by rw[r.nil'];cases h;rfl
 |v::vs,_,rs,r,h=>by
  obtain⟨d,ds,rfl,a,t⟩:=r.cons';cases v with
  |tup xs=>
   obtain⟨es,rfl,r2⟩:=a.tup';unfold X0 at h;cases q1:intsV xs with
   |none=>rw[q1] at h;cases h
   |some x=>
    cases q2:X0 vs with
    |none=>rw[q1,q2] at h;cases h
    |some y=>
     rw[q1,q2] at h;unfold Y9;have:QU (.tup es)=some x:=(V3 r2 q1).2;rw[this,Ub t q2];exact h
  |_=>cases h
theorem Gt:∀(is:List Int),Reps S X n0 (is.map V.int) (is.map D.int)
 |[]=>Reps.nil
 |i::is=>Reps.cons (ZF i) (Gt is)
theorem Qi:∀(rs:List (List Int)),Reps S X n0 (rs.map Zk) (rs.map Vt)
 |[]=>Reps.nil
 |r::rs=>Reps.cons (Ye (Gt r)) (Qi rs)
theorem yO {v:V}{d:D}{b:Bool}(r:Rep S X n0 v d) (h:Ja v=some b):ptruth d=some b:=by
 cases v with
 |non=>cases r.non';exact h
 |bl x=>cases r.bl';exact h
 |int x=>cases r.int';exact h
 |_=>cases h
theorem VY:∀{vs:List V}{ds:List D}{bs:List Bool},Reps S X n0 vs ds->Yr vs=some bs->truths ds=some bs
 |[],_,bs,r,h=>by rw[r.nil'];exact h
 |v::vs,_,bs,r,h=>by
  obtain⟨d,ds,rfl,a,t⟩:=r.cons';unfold Yr at h;cases q1:Ja v with
  |none=>rw[q1] at h;cases h
  |some x=>
   cases q2:Yr vs with
   |none=>rw[q1,q2] at h;cases h
   |some y=>
    rw[q1,q2] at h;unfold truths;rw[yO a q1,VY t q2];exact h
theorem zF {v:V}{d:D}{vs:List V}(r:Rep S X n0 v d) (h:Yw v=some vs):∃ds,XI S d=some ds/\Reps S X n0 vs ds:=by
 cases v with
 |tup xs=>obtain⟨ds,rfl,rs⟩:=r.tup';cases h;exact⟨ds,rfl,rs⟩
 |lst xs=>obtain⟨n,ds,rfl,hs,_,rs⟩:=r.lst';cases h;exact⟨ds,U6 hs,rs⟩
 |_=>cases h
end
end Pv
namespace Pv
open Ev
structure Ext (n0:Nat) (S S':Store):Prop where
 len:S.length<=S'.length
 keep:∀n o,n≠n0->S[n]? = some o->S'[n]? = some o
theorem Ext.refl {n0:Nat}{S:Store}:Ext n0 S S:=⟨Nat.le_refl _,λ_ _ _ h=>h⟩
theorem Ext.trans {n0:Nat}{S S1 S2:Store}(a:Ext n0 S S1) (b:Ext n0 S1 S2):Ext n0 S S2:=⟨Nat.le_trans a.len b.len,λn o h e=>b.keep n o h (a.keep n o h e)⟩
theorem Ext.app {n0:Nat}{S T:Store}:Ext n0 S (S++T):=⟨by simp,λn o _ e=>by rw[List.getElem?_append_left (XU e)];exact e⟩
noncomputable def Dw (n0:Nat) (S:Store) (s:DS):Prop:=S[n0]? = some (.lst [.int s.1,.bl s.2])/\0<=s.1/\(s.2=false->s.1<2147483647)
theorem Dw.app {n0:Nat}{S T:Store}{s:DS}(h:Dw n0 S s):Dw n0 (S++T) s:=⟨by rw[List.getElem?_append_left (XU h.1)];exact h.1,h.2⟩
structure Xok (X:Nat->Prop) (n0:Nat) (S:Store):Prop where
 z:X n0
 lt:∀n,X n->n<S.length
theorem Xok.ext {X:Nat->Prop}{n0:Nat}{S S':Store}(h:Xok X n0 S) (e:Ext n0 S S'):Xok X n0 S':=⟨h.z,λn x=>Nat.lt_of_lt_of_le (h.lt n x) e.len⟩
theorem Rep.ext {X:Nat->Prop}{n0:Nat}{S S':Store}{v:V}{d:D}(x:Xok X n0 S) (e:Ext n0 S S') (h:Rep S X n0 v d):Rep S' X n0 v d:=
 h.mono (λn o nx hs=>e.keep n o (λz=>nx (z▸x.z)) hs) λ_ _ h=>h
theorem Reps.ext {X:Nat->Prop}{n0:Nat}{S S':Store}{v:List V}{d:List D}(x:Xok X n0 S) (e:Ext n0 S S') (h:Reps S X n0 v d):Reps S' X n0 v d:=
 h.mono (λn o nx hs=>e.keep n o (λz=>nx (z▸x.z)) hs) λ_ _ h=>h
noncomputable def Sim {α β:Type} (n0:Nat) (S:Store) (Rl:Store->β->α->Prop) (r:R α) (q:PR β):Prop:=match q with
 |.no=>True
 |.ok b s'=>∃a S',r=.ok a S'/\Ext n0 S S'/\Dw n0 S' s'/\Rl S' b a
 |.ex c s'=>∃S',r=.ex c S'/\Ext n0 S S'/\Dw n0 S' s'
section
variable {α β γ δ:Type}{n0:Nat}{S:Store}{X:Nat->Prop}
theorem Sim.bind {Rl:Store->β->α->Prop}{Rm:Store->δ->γ->Prop}{r:R α}{q:PR β}{f:α->Store->R γ}{g:β->DS->PR δ}(h:Sim n0 S Rl r q)
  (k:∀a b S' s',Ext n0 S S'->Dw n0 S' s'->Rl S' b a->Sim n0 S' Rm (f a S') (g b s')):Sim n0 S Rm (r.bind f) (q.bind g):=by
 cases q with
 |no=>exact True.intro
 |ex c s'=>
  obtain⟨S',e,x,w⟩:=h;rw[e];exact⟨S',rfl,x,w⟩
 |ok b s'=>
  obtain⟨a,S',e,x,w,rl⟩:=h;rw[e];have k':=k a b S' s' x w rl;show Sim n0 S Rm (f a S') (g b s');cases q2:g b s' with
  |no=>exact True.intro
  |ex c s2=>
   rw[q2] at k';obtain⟨S2,e2,x2,w2⟩:=k';exact⟨S2,e2,x.trans x2,w2⟩
  |ok b2 s2=>
   rw[q2] at k';obtain⟨a2,S2,e2,x2,w2,r2⟩:=k';exact⟨a2,S2,e2,x.trans x2,w2,r2⟩
theorem Sim.ok {Rl:Store->β->α->Prop}{a:α}{b:β}{s:DS}(w:Dw n0 S s) (r:Rl S b a):Sim n0 S Rl (.ok a S) (.ok b s):=⟨a,S,rfl,Ext.refl,w,r⟩
theorem Sim.app {Rl:Store->β->α->Prop}{a:α}{b:β}{s:DS}{T:Store}(w:Dw n0 S s) (r:Rl (S++T) b a):Sim n0 S Rl (.ok a (S++T)) (.ok b s):=⟨a,S++T,rfl,Ext.app,w.app,r⟩
theorem Sim.po {Rl:Store->β->α->Prop}{r:R α}{o:Option β}{s:DS}(h:∀b,o=some b->Sim n0 S Rl r (.ok b s)):Sim n0 S Rl r (po o s):=by
 cases o with
 |none=>exact True.intro
 |some b=>exact h b rfl
theorem Sim.obp {Rl:Store->β->α->Prop}{o':Option α}{o:Option β}{s:DS}(w:Dw n0 S s) (h:∀b,o=some b->∃a,o'=some a/\Rl S b a):Sim n0 S Rl (ob o' S) (Pv.po o s):=by
 cases o with
 |none=>exact True.intro
 |some b=>
  obtain⟨a,e,r⟩:=h b rfl;rw[e];exact Sim.ok w r
theorem Sim.guard {Rl:Store->β->α->Prop}{r r':R α}{q:PR β}{P:Prop}[Decidable P] (h:P->Sim n0 S Rl r q):Sim n0 S Rl (if P then r else r') (if P then q else .no):=by
 by_cases c:P
 ·rw[if_pos c,if_pos c];exact h c
 ·rw[if_neg c,if_neg c];exact True.intro
noncomputable abbrev RlV (X:Nat->Prop) (n0:Nat):Store->V->D->Prop:=λS v d=>Rep S X n0 v d
noncomputable abbrev v6 (X:Nat->Prop) (n0:Nat):Store->List V->List D->Prop:=λS v d=>Reps S X n0 v d
noncomputable abbrev RlE {α:Type}:Store->α->α->Prop:=λ_ a b=>b=a
theorem Sim.new {vs:List V}{ds:List D}{s:DS}(x:Xok X n0 S) (w:Dw n0 S s) (r:Reps S X n0 vs ds):Sim n0 S (RlV X n0) (.ok (.loc S.length) (S++[.lst ds])) (.ok (.lst vs) s):=
 Sim.app w (Jh (by simp) (λz=>Nat.lt_irrefl _ (x.lt _ z)) (r.ext x Ext.app))
theorem zZ {op:Bop}{x y:V}{a b:D}{s:DS}(xo:Xok X n0 S) (w:Dw n0 S s) (rx:Rep S X n0 x a) (ry:Rep S X n0 y b):Sim n0 S (RlV X n0) (binop op a b S) (Um op x y s):=by
 have bad:∀r:R D,Sim n0 S (RlV X n0) r .no:=λ_=>True.intro
 cases x with
 |int i=>
  cases rx.int';cases y with
  |int j=>
   cases ry.int';cases op with
   |add=>exact Sim.ok w (ZF _)
   |sub=>exact Sim.ok w (ZF _)
   |mul=>exact Sim.guard λ_=>Sim.ok w (ZF _)
   |fdiv=>exact Sim.guard λ_=>Sim.ok w (ZF _)
   |mod=>exact Sim.guard λ_=>Sim.ok w (ZF _)
   |pow=>exact Sim.guard λ_=>Sim.ok w (ZF _)
  |_=>cases op <;> exact bad _
 |tup us=>
  obtain⟨ds,rfl,r1⟩:=rx.tup';cases y with
  |tup ws=>
   obtain⟨es,rfl,r2⟩:=ry.tup';cases op with
   |add=>
    show Sim n0 S (RlV X n0) (if ds.length+es.length<=lim then .ok (.tup (ds++es)) S else .no) (if us.length+ws.length<=lim then .ok (.tup (us++ws)) s else .no)
    rw[r1.length,r2.length];exact Sim.guard λ_=>Sim.ok w (Ye (r1.append r2))
   |_=>exact bad _
  |int j=>
   cases ry.int';cases op with
   |mul=>
    show Sim n0 S (RlV X n0) (if 0<=j/\j<1000/\ds.length<=1000 then .ok (.tup (List.replicate j.toNat ds).flatten) S else .no) (if 0<=j/\j<1000/\us.length<=1000 then .ok (.tup (List.replicate j.toNat us).flatten) s else .no)
    rw[r1.length];exact Sim.guard λ_=>Sim.ok w (Ye (r1.rep _))
   |_=>exact bad _
  |_=>cases op <;> exact bad _
 |lst us=>
  obtain⟨n,ds,rfl,hs,_,r1⟩:=rx.lst';cases y with
  |lst ws=>
   obtain⟨m,es,rfl,hs2,_,r2⟩:=ry.lst';cases op with
   |add=>
    show Sim n0 S (RlV X n0) (match Zv S n,Zv S m with
     |some a,some b=>if a.length+b.length<=lim then .ok (.loc S.length) (S++[.lst (a++b)]) else .no
     |_,_=>.no) (if us.length+ws.length<=lim then .ok (.lst (us++ws)) s else .no)
    rw[ZX hs,ZX hs2];show Sim n0 S (RlV X n0) (if ds.length+es.length<=lim then .ok (.loc S.length) (S++[.lst (ds++es)]) else .no) _
    rw[r1.length,r2.length];exact Sim.guard λ_=>Sim.new xo w (r1.append r2)
   |_=>exact bad _
  |int j=>
   cases ry.int';cases op with
   |mul=>
    show Sim n0 S (RlV X n0) (match Zv S n with
     |some a=>if 0<=j/\j<1000/\a.length<=1000 then .ok (.loc S.length) (S++[.lst (List.replicate j.toNat a).flatten]) else .no
     |none=>.no) (if 0<=j/\j<1000/\us.length<=1000 then .ok (.lst (List.replicate j.toNat us).flatten) s else .no)
    rw[ZX hs];show Sim n0 S (RlV X n0) (if 0<=j/\j<1000/\ds.length<=1000 then .ok (.loc S.length) (S++[.lst (List.replicate j.toNat ds).flatten]) else .no) _
    rw[r1.length];exact Sim.guard λ_=>Sim.new xo w (r1.rep _)
   |_=>exact bad _
  |_=>cases op <;> exact bad _
 |_=>cases op <;> exact bad _
theorem uq {op:Bop}{x y:V}{a b:D}{s:DS}(xo:Xok X n0 S) (w:Dw n0 S s) (rx:Rep S X n0 x a) (ry:Rep S X n0 y b):Sim n0 S (RlV X n0) (augop op a b S) (yS op x y s):=by
 cases x with
 |int i=>cases y with
  |int j=>
   have h:=zZ (op:=op) xo w rx ry;cases rx.int';cases ry.int';exact h
  |_=>exact True.intro
 |_=>exact True.intro
theorem Jx {op:Cop}{x y:V}{a b:D}{s:DS}(w:Dw n0 S s) (rx:Rep S X n0 x a) (ry:Rep S X n0 y b):Sim n0 S (RlV X n0) (cmpop op a b S) (po (W3 op x y) s):=by
 have inn:∀z,WN x y=some z->W5 S a b=.ok z S:=by
  intro z h;cases y with
  |tup ys=>
   obtain⟨ds,rfl,rs⟩:=ry.tup';show ob (inL S a ds) S=_;rw[zu rx rs h];rfl
  |lst ys=>
   obtain⟨n,ds,rfl,hs,_,rs⟩:=ry.lst';show jE S a S[n]? = _;rw[hs];show ob (inL S a ds) S=_;rw[zu rx rs h];rfl
  |_=>cases h
 refine Sim.po λv hv=>?_
 cases op with
 |eq=>
  have hv:(eqV ZA x y).map V.bl=some v:=hv;cases q:eqV ZA x y with
  |none=>rw[q] at hv;cases hv
  |some z=>
   rw[q] at hv;cases hv;show Sim n0 S (RlV X n0) ((ob (eqD S ZA a b) S).bind _) _;rw[UL _ _ _ _ _ _ rx ry q];exact Sim.ok w (ZH z)
 |ne=>
  have hv:(eqV ZA x y).map (λb=>V.bl !b)=some v:=hv
  cases q:eqV ZA x y with
  |none=>rw[q] at hv;cases hv
  |some z=>
   rw[q] at hv;cases hv;show Sim n0 S (RlV X n0) ((ob (eqD S ZA a b) S).bind _) _;rw[UL _ _ _ _ _ _ rx ry q];exact Sim.ok w (ZH _)
 |lt=>cases x <;> cases y <;> first | (cases hv;cases rx.int';cases ry.int';exact Sim.ok w (ZH _)) | cases hv
 |gt=>cases x <;> cases y <;> first | (cases hv;cases rx.int';cases ry.int';exact Sim.ok w (ZH _)) | cases hv
 |le=>cases x <;> cases y <;> first | (cases hv;cases rx.int';cases ry.int';exact Sim.ok w (ZH _)) | cases hv
 |ge=>cases x <;> cases y <;> first | (cases hv;cases rx.int';cases ry.int';exact Sim.ok w (ZH _)) | cases hv
 |is=>
  cases y with
  |non=>
   cases ry.non';have e:cmpop .is a .non S=.ok (.bl (XA x)) S:=by
    cases x with
    |non=>cases rx.non';rfl
    |bl _=>cases rx.bl';rfl
    |int _=>cases rx.int';rfl
    |str _=>cases rx.str';rfl
    |tup _=>obtain⟨_,rfl,_⟩:=rx.tup';rfl
    |lst _=>obtain⟨_,_,rfl,_⟩:=rx.lst';rfl
    |drw=>cases rx.drw';rfl
   rw[e];have hv:some (V.bl (XA x))=some v:=by cases x <;> exact hv
   cases hv;exact Sim.ok w (ZH _)
  |bl j=>cases x with
   |bl i=>cases rx.bl';cases ry.bl';cases hv;exact Sim.ok w (ZH _)
   |_=>cases hv
  |_=>cases x <;> cases hv
 |isn=>
  cases y with
  |non=>
   cases ry.non';have e:cmpop .isn a .non S=.ok (.bl !(XA x)) S:=by
    cases x with
    |non=>cases rx.non';rfl
    |bl _=>cases rx.bl';rfl
    |int _=>cases rx.int';rfl
    |str _=>cases rx.str';rfl
    |tup _=>obtain⟨_,rfl,_⟩:=rx.tup';rfl
    |lst _=>obtain⟨_,_,rfl,_⟩:=rx.lst';rfl
    |drw=>cases rx.drw';rfl
   rw[e];have hv:some (V.bl !(XA x))=some v:=by cases x <;> exact hv
   cases hv;exact Sim.ok w (ZH _)
  |bl j=>cases x with
   |bl i=>cases rx.bl';cases ry.bl';cases hv;exact Sim.ok w (ZH _)
   |_=>cases hv
  |_=>cases x <;> cases hv
 |inn=>
  have hv:(WN x y).map V.bl=some v:=hv;cases q:WN x y with
  |none=>rw[q] at hv;cases hv
  |some z=>
   rw[q] at hv;cases hv;show Sim n0 S (RlV X n0) ((W5 S a b).bind _) _;rw[inn z q];exact Sim.ok w (ZH _)
 |nin=>
  have hv:(WN x y).map (λb=>V.bl !b)=some v:=hv
  cases q:WN x y with
  |none=>rw[q] at hv;cases hv
  |some z=>
   rw[q] at hv;cases hv;show Sim n0 S (RlV X n0) ((W5 S a b).bind _) _;rw[inn z q];exact Sim.ok w (ZH _)
theorem qx {x y:V}{a b:D}{s:DS}(w:Dw n0 S s) (rx:Rep S X n0 x a) (ry:Rep S X n0 y b):Sim n0 S (RlV X n0) (getix a b S) (po (ixV x y) s):=by
 refine Sim.po λv hv=>?_
 cases x with
 |tup xs=>cases y with
  |int i=>
   obtain⟨ds,rfl,rs⟩:=rx.tup';cases ry.int';obtain⟨d,e,r⟩:=u3 rs hv;show Sim n0 S (RlV X n0) (ob (at' ds i) S) _;rw[e];exact Sim.ok w r
  |_=>cases hv
 |lst xs=>cases y with
  |int i=>
   obtain⟨n,ds,rfl,hs,_,rs⟩:=rx.lst';cases ry.int';obtain⟨d,e,r⟩:=u3 rs hv;show Sim n0 S (RlV X n0) (match Yu S n with
    |some xs=>ob (at' xs i) S
    |none=>.no) _
   rw[U6 hs];show Sim n0 S (RlV X n0) (ob (at' ds i) S) _;rw[e];exact Sim.ok w r
  |_=>cases hv
 |_=>cases y <;> cases hv
theorem qE {x:V}{a:D}{s:DS}{lo hi:Option Int}(xo:Xok X n0 S) (w:Dw n0 S s) (rx:Rep S X n0 x a):Sim n0 S (RlV X n0) (slice a lo hi S) (po (slV x lo hi) s):=by
 refine Sim.po λv hv=>?_
 cases x with
 |tup xs=>
  obtain⟨ds,rfl,rs⟩:=rx.tup';cases hv;exact Sim.ok w (Ye (vh rs))
 |lst xs=>
  obtain⟨n,ds,rfl,hs,_,rs⟩:=rx.lst';cases hv;show Sim n0 S (RlV X n0) (match Zv S n with
    |some xs=>.ok (.loc S.length) (S++[.lst (cut xs lo hi)])
    |none=>.no) _
  rw[ZX hs];exact Sim.new xo w (vh rs)
 |_=>cases hv
theorem uB {f:Bf}{xs:List V}{ds:List D}{s:DS}(xo:Xok X n0 S) (w:Dw n0 S s) (rs:Reps S X n0 xs ds):Sim n0 S (RlV X n0) (bltin f ds S) (po (U1 f xs) s):=by
 refine Sim.po λv hv=>?_
 have one:∀{x:V} {ds:List D},Reps S X n0 [x] ds->∃d,ds=[d]/\Rep S X n0 x d:=λ{x ds} h=>by
  obtain⟨d,es,rfl,a,t⟩:=h.cons';rw[t.nil'];exact⟨d,rfl,a⟩
 have two:∀{x y:V} {ds:List D},Reps S X n0 [x,y] ds->∃d e,ds=[d,e]/\Rep S X n0 x d/\Rep S X n0 y e:=λ{x y ds} h=>by
  obtain⟨d,es,rfl,a,t⟩:=h.cons';obtain⟨e,rfl,b⟩:=one t;exact⟨d,e,rfl,a,b⟩
 cases f with
 |len=>match xs,rs,hv with
  |[x],rs,hv=>
   obtain⟨d,rfl,r⟩:=one rs;have hv:(Yw x).map (λxs=>V.int xs.length)=some v:=hv
   cases q:Yw x with
   |none=>rw[q] at hv;cases hv
   |some ys=>
    rw[q] at hv;cases hv;obtain⟨es,e,r2⟩:=zF r q;show Sim n0 S (RlV X n0) ((ob (XI S d) S).bind _) _;rw[e];show Sim n0 S (RlV X n0) (.ok (.int es.length) S) _;rw[r2.length];exact Sim.ok w (ZF _)
 |max2=>match xs,rs,hv with
  |[.int i,.int j],rs,hv=>
   obtain⟨d,e,rfl,r1,r2⟩:=two rs;cases r1.int';cases r2.int';cases hv;exact Sim.ok w (ZF _)
 |min2=>match xs,rs,hv with
  |[.int i,.int j],rs,hv=>
   obtain⟨d,e,rfl,r1,r2⟩:=two rs;cases r1.int';cases r2.int';cases hv;exact Sim.ok w (ZF _)
 |toInt=>match xs,rs,hv with
  |[.int i],rs,hv=>obtain⟨d,rfl,r⟩:=one rs;cases r.int';cases hv;exact Sim.ok w (ZF _)
  |[.bl i],rs,hv=>obtain⟨d,rfl,r⟩:=one rs;cases r.bl';cases hv;exact Sim.ok w (ZF _)
 |tuple=>match xs,rs,hv with
  |[x],rs,hv=>
   obtain⟨d,rfl,r⟩:=one rs;have hv:(Yw x).map V.tup=some v:=hv;cases x with
   |tup ys=>
    obtain⟨es,rfl,r2⟩:=r.tup';cases hv;exact Sim.ok w (Ye r2)
   |lst ys=>
    obtain⟨n,es,rfl,hs,_,r2⟩:=r.lst';cases hv;show Sim n0 S (RlV X n0) ((ob (Zv S n) S).bind _) _;rw[ZX hs];exact Sim.ok w (Ye r2)
   |_=>cases hv
 |list=>match xs,rs,hv with
  |[x],rs,hv=>
   obtain⟨d,rfl,r⟩:=one rs;have hv:(Yw x).map V.lst=some v:=hv;cases q:Yw x with
   |none=>rw[q] at hv;cases hv
   |some ys=>
    rw[q] at hv;cases hv;obtain⟨es,e,r2⟩:=zF r q;show Sim n0 S (RlV X n0) ((ob (XI S d) S).bind _) _;rw[e];exact Sim.new xo w r2
 |all=>match xs,rs,hv with
  |[.lst ys],rs,hv=>
   obtain⟨d,rfl,r⟩:=one rs;obtain⟨n,es,rfl,hs,_,r2⟩:=r.lst';have hv:(Yr ys).map (λbs=>V.bl (bs.all id))=some v:=hv
   cases q:Yr ys with
   |none=>rw[q] at hv;cases hv
   |some bs=>
    rw[q] at hv;cases hv;show Sim n0 S (RlV X n0) ((ob (Zv S n) S).bind _) _;rw[ZX hs];show Sim n0 S (RlV X n0) ((ob (truths es) S).bind _) _;rw[VY r2 q];exact Sim.ok w (ZH _)
 |any=>match xs,rs,hv with
  |[x],rs,hv=>
   obtain⟨d,rfl,r⟩:=one rs;have hv:(Yw x).bind (λxs=>(Yr xs).map λbs=>V.bl (bs.any id))=some v:=hv
   cases q:Yw x with
   |none=>rw[q] at hv;cases hv
   |some ys=>
    rw[q] at hv;have hv:(Yr ys).map (λbs=>V.bl (bs.any id))=some v:=hv
    obtain⟨es,e,r2⟩:=zF r q;cases q2:Yr ys with
    |none=>rw[q2] at hv;cases hv
    |some bs=>
     rw[q2] at hv;cases hv;show Sim n0 S (RlV X n0) ((ob (XI S d) S).bind _) _;rw[e];show Sim n0 S (RlV X n0) ((ob (truths es) S).bind _) _;rw[VY r2 q2];exact Sim.ok w (ZH _)
 |sum=>match xs,rs,hv with
  |[.lst ys],rs,hv=>
   obtain⟨d,rfl,r⟩:=one rs;obtain⟨n,es,rfl,hs,_,r2⟩:=r.lst';have hv:(intsV ys).bind (λis=>if QH is=true then some (V.int is.sum) else none)=some v:=hv
   cases q:intsV ys with
   |none=>rw[q] at hv;cases hv
   |some is=>
    rw[q] at hv;have hv:(if QH is=true then some (V.int is.sum) else none)=some v:=hv
    show Sim n0 S (RlV X n0) ((ob (Zv S n) S).bind _) _;rw[ZX hs];show Sim n0 S (RlV X n0) ((ob (UW es) S).bind _) _;rw[(V3 r2 q).1];show Sim n0 S (RlV X n0) (if QH is=true then .ok (.int is.sum) S else .no) _
    by_cases c:QH is=true
    ·rw[if_pos c] at hv ⊢;cases hv;exact Sim.ok w (ZF _)
    ·rw[if_neg c] at hv;cases hv
 |sorted=>match xs,rs,hv with
  |[.lst ys],rs,hv=>
   obtain⟨d,rfl,r⟩:=one rs;obtain⟨n,es,rfl,hs,_,r2⟩:=r.lst';have hv:(X0 ys).bind (λrs=>if YA rs=true then some (V.lst ((Z8 rs).map Zk)) else none)=some v:=hv
   cases q:X0 ys with
   |none=>rw[q] at hv;cases hv
   |some ws=>
    rw[q] at hv;have hv:(if YA ws=true then some (V.lst ((Z8 ws).map Zk)) else none)=some v:=hv
    show Sim n0 S (RlV X n0) ((ob (Zv S n) S).bind _) _;rw[ZX hs];show Sim n0 S (RlV X n0) ((ob (Y9 es) S).bind _) _;rw[Ub r2 q];show Sim n0 S (RlV X n0) (if YA ws=true then .ok (.loc S.length) (S++[.lst ((Z8 ws).map Vt)]) else .no) _
    by_cases c:YA ws=true
    ·rw[if_pos c] at hv ⊢;cases hv;exact Sim.new xo w (Qi _)
    ·rw[if_neg c] at hv;cases hv
 |sortedR=>match xs,rs,hv with
  |[.lst ys],rs,hv=>
   obtain⟨d,rfl,r⟩:=one rs;obtain⟨n,es,rfl,hs,_,r2⟩:=r.lst';have hv:(X0 ys).bind (λrs=>if YA rs=true then some (V.lst ((Z8 rs).reverse.map Zk)) else none)=some v:=hv
   cases q:X0 ys with
   |none=>rw[q] at hv;cases hv
   |some ws=>
    rw[q] at hv;have hv:(if YA ws=true then some (V.lst ((Z8 ws).reverse.map Zk)) else none)=some v:=hv
    show Sim n0 S (RlV X n0) ((ob (Zv S n) S).bind _) _;rw[ZX hs];show Sim n0 S (RlV X n0) ((ob (Y9 es) S).bind _) _;rw[Ub r2 q];show Sim n0 S (RlV X n0) (if YA ws=true then .ok (.loc S.length) (S++[.lst ((Z8 ws).reverse.map Vt)]) else .no) _
    by_cases c:YA ws=true
    ·rw[if_pos c] at hv ⊢;cases hv;exact Sim.new xo w (Qi _)
    ·rw[if_neg c] at hv;cases hv
 |_=>cases hv
end
end Pv
namespace Pv
open Ev
structure EnvE (S:Store) (X:Nat->Prop) (n0:Nat) (ρ:Env) (σ:Lc):Prop where
 len:ρ.length=σ.length
 val:∀(i:Nat) (v:V),ρ[i]? = some (some v)->∃d,σ[i]? = some (some d)/\Rep S X n0 v d
section
variable {S S':Store}{X X':Nat->Prop}{n0:Nat}{ρ ρ':Env}{σ σ':Lc}
theorem EnvE.mono (k:∀n o,¬X n->S[n]? = some o->S'[n]? = some o) (x:∀n,n<S.length->X' n->X n) (h:EnvE S X n0 ρ σ):EnvE S' X' n0 ρ σ:=
 ⟨h.len,λi v e=>let ⟨d,a,b⟩:=h.val i v e;⟨d,a,b.mono k x⟩⟩
theorem EnvE.ext (x:Xok X n0 S) (e:Ext n0 S S') (h:EnvE S X n0 ρ σ):EnvE S' X n0 ρ σ:=
 ⟨h.len,λi v q=>let ⟨d,a,b⟩:=h.val i v q;⟨d,a,b.ext x e⟩⟩
theorem EnvE.weak (h:EnvE S X n0 ρ σ) (hl:ρ'.length=ρ.length) (w:∀(i:Nat) (v:V),ρ'[i]? = some (some v)->ρ[i]? = some (some v)):EnvE S X n0 ρ' σ:=⟨by rw[hl];exact h.len,λi v e=>h.val i v (w i v e)⟩
theorem EnvE.set {v:V}{d:D}(h:EnvE S X n0 ρ σ) (i:Nat) (r:Rep S X n0 v d):EnvE S X n0 (ρ.set i (some v)) (σ.set i (some d)):=by
 refine⟨by rw[List.length_set,List.length_set];exact h.len,λj w e=>?_⟩
 rw[List.getElem?_set] at e ⊢;by_cases c:i=j
 ·rw[if_pos c] at e ⊢
  by_cases l:i<ρ.length
  ·rw[if_pos l] at e
   rw[if_pos (by rw[<-h.len];exact l)]
   cases e;exact⟨d,rfl,r⟩
  ·rw[if_neg l] at e;cases e
 ·rw[if_neg c] at e ⊢
  exact h.val j w e
theorem Jz:∀{t:List Nat}{vs:List V}{ds:List D}{ρ ρ':Env}{σ:Lc},EnvE S X n0 ρ σ->Reps S X n0 vs ds->Xq t vs ρ=some ρ'->∃σ',fill t ds σ=some σ'/\EnvE S X n0 ρ' σ'
 |[],[],_,ρ,ρ',σ,h,r,e=>by rw[r.nil'];cases e;exact⟨σ,rfl,h⟩
 |[],_::_,_,_,_,_,_,_,e=>by cases e
 |_::_,[],_,_,_,_,_,_,e=>by cases e
 |i::t,v::vs,_,ρ,ρ',σ,h,r,e=>by
  obtain⟨d,ds,rfl,a,b⟩:=r.cons';exact Jz (t:=t) (vs:=vs) (h.set i a) b e
theorem Q7 {t:List Nat}{v:V}{d:D}(h:EnvE S X n0 ρ σ) (r:Rep S X n0 v d) (e:ZI t v ρ=some ρ'):∃σ',assign t d S σ=some σ'/\EnvE S X n0 ρ' σ':=by
 have gen:∀t:List Nat,(∀i,t≠[i])->(match Yw v with
   |some xs=>Xq t xs ρ
   |none=>none)=some ρ'->∃σ',(match d with
   |.tup xs=>fill t xs σ
   |.loc n=>match Zv S n with
    |some xs=>fill t xs σ
    |none=>none
   |_=>none)=some σ'/\EnvE S X n0 ρ' σ':=by
  intro t _ e;cases v with
  |tup vs=>obtain⟨ds,rfl,rs⟩:=r.tup';exact Jz h rs e
  |lst vs=>
   obtain⟨n,ds,rfl,hs,_,rs⟩:=r.lst';obtain⟨σ',a,b⟩:=Jz h rs e;refine⟨σ',?_,b⟩;show (match Zv S n with
    |some xs=>fill t xs σ
    |none=>none)=some σ'
   rw[ZX hs];exact a
  |_=>cases e
 match t,e with
 |[i],e=>cases e;exact⟨_,rfl,h.set i r⟩
 |[],e=>exact gen [] (by simp) e
 |i::j::t,e=>exact gen (i::j::t) (by simp) e
theorem Y7:∀{t:List Nat}{vs:List V}{ρ ρ':Env},Xq t vs ρ=some ρ'->ρ'.length=ρ.length/\∀j,j∉t->ρ'[j]? = ρ[j]?
 |[],[],ρ,ρ',e=>by cases e;exact⟨rfl,λ_ _=>rfl⟩
 |[],_::_,_,_,e=>by cases e
 |_::_,[],_,_,e=>by cases e
 |i::t,v::vs,ρ,ρ',e=>by
  obtain⟨a,b⟩:=Y7 (t:=t) (vs:=vs) (ρ:=ρ.set i (some v)) e;refine⟨by rw[a,List.length_set],λj hj=>?_⟩
  have hij:i≠j:=λz=>hj (by rw[z];exact List.mem_cons_self ..)
  rw[b j (λz=>hj (List.mem_cons_of_mem _ z)),List.getElem?_set_ne hij]
theorem Uj {t:List Nat}{v:V}(e:ZI t v ρ=some ρ'):ρ'.length=ρ.length/\∀j,j∉t->ρ'[j]? = ρ[j]?:=by
 match t,e with
 |[i],e=>cases e;exact⟨by simp,λj hj=>List.getElem?_set_ne (λz:i=j=>hj (by rw[z];exact List.mem_cons_self ..))⟩
 |[],e=>
  have e:(match Yw v with | some xs=>Xq [] xs ρ | none=>none)=some ρ':=e
  cases q:Yw v with
  |none=>rw[q] at e;cases e
  |some xs=>rw[q] at e;exact Y7 e
 |i::j::t,e=>
  have e:(match Yw v with | some xs=>Xq (i::j::t) xs ρ | none=>none)=some ρ':=e
  cases q:Yw v with
  |none=>rw[q] at e;cases e
  |some xs=>rw[q] at e;exact Y7 e
noncomputable def WkR (X:Nat->Prop) (n0:Nat):Store->List V->Walk->Prop:=λS vs w=>Reps S X n0 vs w.items/\∀p∈w.kept,S[p.1]? = some (.lst p.2)/\¬X p.1
theorem Vp {w:Walk}(h:∀p∈w.kept,S[p.1]? = some (.lst p.2)):w.still S=true:=by
 unfold Walk.still;rw[List.all_eq_true];intro p hp;exact decide_eq_true (h p hp)
theorem WQ {v:V}{d:D}{vs:List V}(r:Rep S X n0 v d) (h:Yw v=some vs):∃w,YN S d=some w/\WkR X n0 S vs w:=by
 cases v with
 |tup xs=>obtain⟨ds,rfl,rs⟩:=r.tup';cases h;exact⟨⟨ds,[]⟩,rfl,rs,λp hp=>by cases hp⟩
 |lst xs=>
  obtain⟨n,ds,rfl,hs,hx,rs⟩:=r.lst';cases h;refine⟨⟨ds,[(n,ds)]⟩,?_,rs,λp hp=>?_⟩
  ·unfold YN;simp only[hs]
  ·rcases List.mem_singleton.mp hp with rfl
   exact⟨hs,hx⟩
 |_=>cases h
theorem UB (lo:Int) (n:Nat):Reps S X n0 (Xu lo n) (Z3 lo n):=by
 unfold Xu Z3
 induction List.range n with
 |nil=>exact Reps.nil
 |cons k r ih=>exact Reps.cons (ZF _) ih
theorem Js:∀{vs ws:List V}{ds es:List D},Reps S X n0 vs ds->Reps S X n0 ws es->Reps S X n0 ((vs.zip ws).map λp=>V.tup [p.1,p.2]) ((ds.zip es).map λp=>D.tup [p.1,p.2])
 |[],_,_,_,a,_=>by rw[a.nil'];simp only[List.zip_nil_left,List.map_nil];exact Reps.nil
 |_::_,[],_,_,a,b=>by rw[b.nil'];simp only[List.zip_nil_right,List.map_nil];exact Reps.nil
 |v::vs,w::ws,_,_,a,b=>by
  obtain⟨d,ds,rfl,a1,a2⟩:=a.cons';obtain⟨e,es,rfl,b1,b2⟩:=b.cons';exact Reps.cons (Ye (Reps.cons a1 (Reps.cons b1 Reps.nil))) (Js a2 b2)
end
structure Ext2 (n0 m:Nat) (S S':Store):Prop where
 len:S.length<=S'.length
 keep:∀n o,n≠n0->n≠m->S[n]? = some o->S'[n]? = some o
theorem Ext2.trans {n0 m:Nat}{S S1 S2:Store}(a:Ext2 n0 m S S1) (b:Ext2 n0 m S1 S2):Ext2 n0 m S S2:=⟨Nat.le_trans a.len b.len,λn o h z e=>b.keep n o h z (a.keep n o h z e)⟩
theorem Ext2.refl {n0 m:Nat}{S:Store}:Ext2 n0 m S S:=⟨Nat.le_refl _,λ_ _ _ _ h=>h⟩
theorem Ext.two {n0 m:Nat}{S S':Store}(h:Ext n0 S S'):Ext2 n0 m S S':=⟨h.len,λn o a _ e=>h.keep n o a e⟩
section
variable {n0 m:Nat}{X:Nat->Prop}
theorem Reps.ext2 {S S':Store}{v:List V}{d:List D}(z:X n0) (zm:X m) (e:Ext2 n0 m S S') (h:Reps S X n0 v d):Reps S' X n0 v d:=
 h.mono (λn o nx hs=>e.keep n o (λq=>nx (q▸z)) (λq=>nx (q▸zm)) hs) λ_ _ h=>h
theorem EnvE.ext2 {S S':Store}{ρ:Env}{σ:Lc}(z:X n0) (zm:X m) (e:Ext2 n0 m S S') (h:EnvE S X n0 ρ σ):EnvE S' X n0 ρ σ:=
 h.mono (λn o nx hs=>e.keep n o (λq=>nx (q▸z)) (λq=>nx (q▸zm)) hs) λ_ _ h=>h
theorem Xok.ext2 {S S':Store}(h:Xok X n0 S) (e:Ext2 n0 m S S'):Xok X n0 S':=⟨h.z,λn x=>Nat.lt_of_lt_of_le (h.lt n x) e.len⟩
noncomputable def Turn (n0 m:Nat) (X:Nat->Prop) (ρ:Env) (S:Store) (ds:List D) (q:PR (List V)) (r:R Lc):Prop:=∀ys s',q=.ok ys s'->ds.length+ys.length<=lim->
 ∃σ' S' es,r=.ok σ' S'/\Ext2 n0 m S S'/\EnvE S' X n0 ρ σ'/\Dw n0 S' s'/\S'[m]? = some (.lst (ds++es))/\Reps S' X n0 ys es
theorem Qs {ρ:Env}{wk:Walk}{f:V->DS->PR (List V)}{turn:D->Lc->Store->R Lc}(zm:X m) (hk:∀p∈wk.kept,¬X p.1)
  (ht:∀x d S s σ ds,Xok X n0 S->Rep S X n0 x d->EnvE S X n0 ρ σ->Dw n0 S s->S[m]? = some (.lst ds)->Turn n0 m X ρ S ds (f x s) (turn d σ S)) :
  ∀(vs:List V) (es:List D) (S:Store) (s:DS) (σ:Lc) (ds:List D),Xok X n0 S->Reps S X n0 vs es->EnvE S X n0 ρ σ->Dw n0 S s->S[m]? = some (.lst ds)->(∀p∈wk.kept,S[p.1]? = some (.lst p.2))->Turn n0 m X ρ S ds (mapP f vs s) (YT wk turn es σ S)
 |[],es,S,s,σ,ds,xo,rs,he,w,hm,hs=>by
  intro ys s' q _;cases q;rw[rs.nil'];exact⟨σ,S,[],by rw[YT,if_pos (Vp hs)],Ext2.refl,he,w,by rw[List.append_nil];exact hm,Reps.nil⟩
 |v::vs,es,S,s,σ,ds,xo,rs,he,w,hm,hs=>by
  intro ys s' q hl;obtain⟨d,es,rfl,r1,r2⟩:=rs.cons';unfold mapP at q;cases q1:f v s with
  |no=>rw[q1] at q;cases q
  |ex _ _=>rw[q1] at q;cases q
  |ok y1 s1=>
   rw[q1] at q;cases q2:mapP f vs s1 with
   |no=>simp only[q2] at q;cases q
   |ex _ _=>simp only[q2] at q;cases q
   |ok y2 s2=>
    simp only[q2] at q;cases q;rw[List.length_append] at hl;obtain⟨σ1,S1,e1,a1,a2,a3,a4,a5,a6⟩:=ht v d S s σ ds xo r1 he w hm y1 s1 q1 (by omega)
    have xo1:=xo.ext2 a2;have hs1:∀p∈wk.kept,S1[p.1]? = some (.lst p.2):=λp hp=>a2.keep _ _ (λz=>hk p hp (z▸xo.z)) (λz=>hk p hp (z▸zm)) (hs p hp)
    obtain⟨σ2,S2,e2,b1,b2,b3,b4,b5,b6⟩:=Qs zm hk ht vs es S1 s1 σ1 (ds++e1) xo1 (r2.ext2 xo.z zm a2) a3 a4 a5 hs1 y2 _ q2 (by rw[List.length_append,a6.length];omega)
    refine⟨σ2,S2,e1++e2,?_,a2.trans b2,b3,b4,by rw[<-List.append_assoc];exact b5,(a6.ext2 xo.z zm b2).append b6⟩
    rw[YT,if_pos (Vp hs),a1];exact b1
theorem uv {S:Store}{y:D}{ds:List D}(hm:S[m]? = some (.lst ds)) (hl:ds.length<lim):push m y S=.ok () (S.set m (.lst (ds++[y]))):=by
 unfold push;rw[ZX hm];show (if ds.length<lim then _ else _)=_
 rw[if_pos hl]
end
end Pv
namespace Pv
open Ev
theorem vL {f:V->DS->PR (List V)}:∀{vs:List V}{s s':DS}{c:Nat},mapP f vs s≠.ex c s'
 |[],_,_,_,h=>by cases h
 |v::vs,s,s',c,h=>by
  unfold mapP at h;cases q1:f v s with
  |no=>rw[q1] at h;cases h
  |ex _ _=>rw[q1] at h;cases h
  |ok y s1=>
   rw[q1] at h;cases q2:mapP f vs s1 with
   |no=>simp only[q2] at h;cases h
   |ex _ _=>simp only[q2] at h;cases h
   |ok z s2=>simp only[q2] at h;cases h
section
variable {n0 m:Nat}{X:Nat->Prop}{C:Calls}{CV:Z5}
theorem xX {S:Store}{o:Ob}:Ext2 n0 m S (S.set m o):=⟨by simp,λn o' _ z e=>by rw[List.getElem?_set_ne (Ne.symm z)];exact e⟩
theorem qd {α:Type}{o:Option α}{s s':DS}{a:α}(h:po o s=.ok a s'):o=some a/\s'=s:=by
 cases o with
 |none=>cases h
 |some b=>cases h;exact⟨rfl,rfl⟩
theorem Ys {α β:Type}{r:PR α}{f:α->DS->PR β}{b:β}{s':DS}(h:r.bind f=.ok b s'):∃a s1,r=.ok a s1/\f a s1=.ok b s':=by
 cases r with
 |no=>cases h
 |ex _ _=>cases h
 |ok a s1=>exact⟨a,s1,rfl,h⟩
theorem Sim.out {α β:Type}{S:Store}{Rl:Store->β->α->Prop}{r:R α}{q:PR β}{b:β}{s':DS}(h:Sim n0 S Rl r q) (e:q=.ok b s'):∃a S',r=.ok a S'/\Ext n0 S S'/\Dw n0 S' s'/\Rl S' b a:=by
 rw[e] at h;exact h
theorem Gu {ρ ρ1:Env}{t:List Nat}{x:V}(e:ZI t x ρ=some ρ1) (hno:∀i∈t,∀v,ρ[i]?≠some (some v)):ρ.length=ρ1.length/\∀(i:Nat) (v:V),ρ[i]? = some (some v)->ρ1[i]? = some (some v):=by
 obtain⟨a,b⟩:=Uj e;refine⟨a.symm,λi v h=>?_⟩
 rw[b i λz=>hno i z v h];exact h
theorem turn1 {ρ:Env}{t:List Nat}{ifs:List E}{elt:E}{x:V}{d:D}{S:Store}{s:DS}{σ:Lc}{ds:List D}(hmn:m≠n0) (zm:X m)
  (hT:∀{ρ:Env} {σ:Lc} {S:Store} {s:DS},Xok X n0 S->EnvE S X n0 ρ σ->Dw n0 S s->Sim n0 S RlE (evt C ifs σ S) (pvt CV ifs ρ s)) (hE:∀{ρ:Env} {σ:Lc} {S:Store} {s:DS},Xok X n0 S->EnvE S X n0 ρ σ->Dw n0 S s->Sim n0 S (RlV X n0) (ev C elt σ S) (pv CV elt ρ s))
  (hno:∀i∈t,∀v,ρ[i]?≠some (some v)) (xo:Xok X n0 S) (rx:Rep S X n0 x d) (he:EnvE S X n0 ρ σ) (w:Dw n0 S s) (hm:S[m]? = some (.lst ds)) :
  Turn n0 m X ρ S ds ((po (ZI t x ρ) s).bind λσ s=>(pvt CV ifs σ s).bind λb s=>if b then (pv CV elt σ s).bind λy s=>.ok [y] s else .ok [] s)
   ((ob (assign t d S σ) S).bind λσ S1=>(evt C ifs σ S1).bind λb S1=>if b then (ev C elt σ S1).bind λy S1=>(push m y S1).bind λ_ S1=>.ok σ S1 else .ok σ S1):=by
 intro ys s' q hl;obtain⟨ρ1,s1,qa,qb⟩:=Ys q;clear q;obtain⟨q1,es1⟩:=qd qa;subst es1;obtain⟨σ1,e1,he1⟩:=Q7 he rx q1;obtain⟨b,s2,q2,q⟩:=Ys qb;clear qb;obtain⟨b',S2,e2,x2,w2,rfl⟩:=(hT xo he1 w).out q2;obtain⟨kl,kv⟩:=Gu q1 hno;have xo2:=xo.ext x2;have he2:=he1.ext xo x2;have hm2:=x2.keep m _ hmn hm;cases b' with
 |false=>
  cases q;refine⟨σ1,S2,[],?_,x2.two,he2.weak kl kv,w2,by rw[List.append_nil];exact hm2,Reps.nil⟩
  rw[e1];show ((evt C ifs σ1 S).bind _)=_;rw[e2];rfl
 |true=>
  obtain⟨y,s3,q3,qe⟩:=Ys q;cases qe;obtain⟨dy,S3,e3,x3,w3,r3⟩:=(hE xo2 he2 w2).out q3;have hm3:=x3.keep m _ hmn hm2;have xo3:=xo2.ext x3;have hs:Ext2 n0 m S3 (S3.set m (.lst (ds++[dy]))):=xX;refine⟨σ1,S3.set m (.lst (ds++[dy])),[dy],?_,(x2.two.trans x3.two).trans hs,((he2.ext xo2 x3).ext2 xo.z zm hs).weak kl kv,⟨by rw[List.getElem?_set_ne hmn];exact w3.1,w3.2⟩,List.getElem?_set_self (XU hm3),Reps.ext2 xo.z zm hs (Reps.cons r3 Reps.nil)⟩
  rw[e1];show ((evt C ifs σ1 S).bind _)=_;rw[e2];show ((ev C elt σ1 S2).bind _)=_;rw[e3];show ((push m dy S3).bind _)=_;rw[uv hm3 (by simp at hl;omega)];rfl
theorem turn2 {ρ:Env}{t u:List Nat}{ifs jfs:List E}{elt:E}{jt:W}{x:V}{d:D}{S:Store}{s:DS}{σ:Lc}{ds:List D}(hmn:m≠n0) (zm:X m)
  (hT:∀{ρ:Env} {σ:Lc} {S:Store} {s:DS},Xok X n0 S->EnvE S X n0 ρ σ->Dw n0 S s->Sim n0 S RlE (evt C ifs σ S) (pvt CV ifs ρ s)) (hJ:∀{ρ:Env} {σ:Lc} {S:Store} {s:DS},Xok X n0 S->EnvE S X n0 ρ σ->Dw n0 S s->Sim n0 S RlE (evt C jfs σ S) (pvt CV jfs ρ s))
  (hW:∀{ρ:Env} {σ:Lc} {S:Store} {s:DS},Xok X n0 S->EnvE S X n0 ρ σ->Dw n0 S s->Sim n0 S (WkR X n0) (evw C jt σ S) (pvw CV jt ρ s)) (hE:∀{ρ:Env} {σ:Lc} {S:Store} {s:DS},Xok X n0 S->EnvE S X n0 ρ σ->Dw n0 S s->Sim n0 S (RlV X n0) (ev C elt σ S) (pv CV elt ρ s))
  (hno:∀i∈t,∀v,ρ[i]?≠some (some v)) (hnu:∀i∈u,i∉t/\∀v,ρ[i]?≠some (some v)) (xo:Xok X n0 S) (rx:Rep S X n0 x d) (he:EnvE S X n0 ρ σ) (w:Dw n0 S s) (hm:S[m]? = some (.lst ds)) :
  Turn n0 m X ρ S ds ((po (ZI t x ρ) s).bind λσ s=>(pvt CV ifs σ s).bind λb s=>if b then
    (pvw CV jt σ s).bind λw2 s=>mapP (λx s=>(po (ZI u x σ) s).bind λσ s=>(pvt CV jfs σ s).bind λb s=>if b then (pv CV elt σ s).bind λy s=>.ok [y] s else .ok [] s) w2 s
    else .ok [] s)
   ((ob (assign t d S σ) S).bind λσ S1=>(evt C ifs σ S1).bind λb S1=>if b then
    (evw C jt σ S1).bind λw2 S1=>YT w2 (λx σ S1=>(ob (assign u x S1 σ) S1).bind λσ S1=>(evt C jfs σ S1).bind λb S1=>if b then (ev C elt σ S1).bind λy S1=>(push m y S1).bind λ_ S1=>.ok σ S1 else .ok σ S1) w2.items σ S1
    else .ok σ S1):=by
 intro ys s' q hl;obtain⟨ρ1,s1,qa,qb⟩:=Ys q;clear q;obtain⟨q1,es1⟩:=qd qa;subst es1;obtain⟨σ1,e1,he1⟩:=Q7 he rx q1;obtain⟨b,s2,q2,q⟩:=Ys qb;clear qb;obtain⟨b',S2,e2,x2,w2,rfl⟩:=(hT xo he1 w).out q2;obtain⟨kl,kv⟩:=Gu q1 hno;have xo2:=xo.ext x2;have he2:=he1.ext xo x2;have hm2:=x2.keep m _ hmn hm;cases b' with
 |false=>
  cases q;refine⟨σ1,S2,[],?_,x2.two,he2.weak kl kv,w2,by rw[List.append_nil];exact hm2,Reps.nil⟩
  rw[e1];show ((evt C ifs σ1 S).bind _)=_;rw[e2];rfl
 |true=>
  obtain⟨vs,s3,q3,qe⟩:=Ys q;obtain⟨wk,S3,e3,x3,w3,r3⟩:=(hW xo2 he2 w2).out q3;have hm3:=x3.keep m _ hmn hm2;have xo3:=xo2.ext x3;have he3:=he2.ext xo2 x3;have hnu1:∀i∈u,∀v,ρ1[i]?≠some (some v):=λi hi v z=>by
   rw[(Uj q1).2 i (hnu i hi).1] at z;exact (hnu i hi).2 v z
  obtain⟨σ4,S4,es,a1,a2,a3,a4,a5,a6⟩:=Qs (ρ:=ρ1) (wk:=wk) zm (λp hp=>(r3.2 p hp).2) (λx d S s σ ds xo rx he w hm=>turn1 hmn zm hJ hE hnu1 xo rx he w hm) vs wk.items S3 s3 σ1 ds xo3 r3.1 he3 w3 hm3 (λp hp=>(r3.2 p hp).1) ys s' qe hl
  refine⟨σ4,S4,es,?_,(x2.two.trans x3.two).trans a2,a3.weak kl kv,a4,a5,a6⟩;rw[e1];show ((evt C ifs σ1 S).bind _)=_;rw[e2];show ((evw C jt σ1 S2).bind _)=_;rw[e3];exact a1
theorem QN {S:Store}{ρ:Env}{σ:Lc}{cap:List Nat}{nl:Nat}(he:EnvE S X n0 ρ σ):EnvE S X n0 (Zj cap nl ρ) (caught cap nl σ):=by
 refine⟨by simp[Zj,caught],λi v h=>?_⟩
 unfold Zj at h;unfold caught;by_cases c:i<nl
 ·rw[List.getElem?_append_left (by simpa using c)] at h
  simp[c] at h
 ·rw[List.getElem?_append_right (by simp;omega)] at h ⊢
  rw[List.length_replicate] at h ⊢;rw[List.getElem?_map] at h ⊢;cases q:cap[i-nl]? with
  |none=>rw[q] at h;cases h
  |some j=>
   rw[q] at h;have h':(ρ[j]?).join=some v:=Option.some.inj h;cases q2:ρ[j]? with
   |none=>rw[q2] at h';cases h'
   |some o=>
    rw[q2] at h';have h'':o=some v:=h';subst h'';obtain⟨d,e,r⟩:=he.val j v q2;exact⟨d,by show some ((σ[j]?).join)=_;rw[e];rfl,r⟩
theorem Ud {ρ:Env}{cap:List Nat}{nl i:Nat}(h:i<nl) (v:V):(Zj cap nl ρ)[i]?≠some (some v):=by
 unfold Zj;rw[List.getElem?_append_left (by simpa using h)]
 simp[h]
theorem Gx {S:Store}{vs:List V}{s:DS}{ρ0:Env}{σ0:Lc}{wk:Walk}{f:V->DS->PR (List V)}{turn:D->Lc->Store->R Lc}(xo:Xok X n0 S) (w:Dw n0 S s) (rw':WkR X n0 S vs wk) (he:EnvE S X n0 ρ0 σ0)
  (ht:∀x d S1 s σ ds,Xok (λn=>X n\/n=S.length) n0 S1->Rep S1 (λn=>X n\/n=S.length) n0 x d->EnvE S1 (λn=>X n\/n=S.length) n0 ρ0 σ->Dw n0 S1 s->S1[S.length]? = some (.lst ds)->Turn n0 S.length (λn=>X n\/n=S.length) ρ0 S1 ds (f x s) (turn d σ S1)) :
  Sim n0 S (RlV X n0) ((YT wk turn wk.items σ0 (S++[.lst []])).bind λ_ S1=>.ok (.loc S.length) S1) ((mapP f vs s).bind λys s=>if ys.length<=lim then .ok (.lst ys) s else .no):=by
 cases q:mapP f vs s with
 |no=>exact True.intro
 |ex c s'=>exact absurd q vL
 |ok ys s'=>
  show Sim n0 S _ _ (if ys.length<=lim then PR.ok (V.lst ys) s' else .no)
  by_cases c:ys.length<=lim
  ·rw[if_pos c]
   have hX:∀n,n<S.length->(X n\/n=S.length)->X n:=λn h z=>z.elim id λe=>absurd (e▸h) (Nat.lt_irrefl _)
   have hk:∀n o,¬X n->S[n]? = some o->(S++[Ob.lst []])[n]? = some o:=λn o _ e=>by rw[List.getElem?_append_left (XU e)];exact e
   have xo1:Xok (λn=>X n\/n=S.length) n0 (S++[.lst []]):=⟨.inl xo.z,λn h=>by
    rw[List.length_append,List.length_singleton];rcases h with h | h
    ·have:=xo.lt n h;omega
    ·omega⟩
   obtain⟨σ',S',es,a1,a2,a3,a4,a5,a6⟩:=Qs (m:=S.length) (ρ:=ρ0) (wk:=wk) (.inr rfl) (λp hp z=>(rw'.2 p hp).2 (hX _ (XU (rw'.2 p hp).1) z)) ht vs wk.items (S++[.lst []]) s σ0 [] xo1 (rw'.1.mono hk hX) (he.mono hk hX) w.app (by simp) (λp hp=>hk _ _ (rw'.2 p hp).2 (rw'.2 p hp).1) ys s' q (by simpa using c)
   refine⟨.loc S.length,S',by rw[a1];rfl,⟨Nat.le_trans (by simp) a2.len,λn o hn e=>a2.keep n o hn (λz=>absurd (XU e) (by omega)) (by rw[List.getElem?_append_left (XU e)];exact e)⟩,a4,?_⟩
   exact Jh a5 (λz=>Nat.lt_irrefl _ (xo.lt _ z)) (a6.mono (λn o nx e=>e) λn _ h=>.inl h)
  ·rw[if_neg c];exact True.intro
end
noncomputable def Yj (n0:Nat) (C:Calls) (CV:Z5):Prop:=∀(f:Nat) (vs:List V) (ds:List D) (S:Store) (s:DS) (X:Nat->Prop),Xok X n0 S->Dw n0 S s->Reps S X n0 vs ds->Sim n0 S (RlV X n0) (C f ds S) (CV f vs s)
section
variable {n0:Nat}{C:Calls}{CV:Z5}
mutual
theorem Ya (H:Yj n0 C CV):∀(e:E) {X:Nat->Prop}{ρ:Env}{σ:Lc}{S:Store}{s:DS},Xok X n0 S->EnvE S X n0 ρ σ->Dw n0 S s->Sim n0 S (RlV X n0) (ev C e σ S) (pv CV e ρ s)
 |.c d,X,ρ,σ,S,s,xo,he,w=>by
  rw[ev,pv];exact Sim.po λv hv=>Sim.ok w (ye hv)
 |.v i,X,ρ,σ,S,s,xo,he,w=>by
  rw[ev,pv];refine Sim.obp w λv hv=>?_
  cases q:ρ[i]? with
  |none=>rw[q] at hv;cases hv
  |some o=>
   rw[q] at hv;have hv:o=some v:=hv;subst hv;obtain⟨d,e,r⟩:=he.val i v q;exact⟨d,by rw[e];rfl,r⟩
 |.tup es,X,ρ,σ,S,s,xo,he,w=>by
  rw[ev,pv];refine (Wv H es xo he w).bind λds vs S1 s1 x1 w1 r1=>?_
  rw[Reps.length r1];exact Sim.guard λ_=>Sim.ok w1 (Ye r1)
 |.lst es,X,ρ,σ,S,s,xo,he,w=>by
  rw[ev,pv];refine (Wv H es xo he w).bind λds vs S1 s1 x1 w1 r1=>?_
  rw[Reps.length r1];exact Sim.guard λ_=>Sim.new (xo.ext x1) w1 r1
 |.dnew,X,ρ,σ,S,s,xo,he,w=>by rw[pv];exact True.intro
 |.dput1 _ _,X,ρ,σ,S,s,xo,he,w=>by rw[pv];exact True.intro
 |.fstr,X,ρ,σ,S,s,xo,he,w=>by rw[pv];exact True.intro
 |.mt _ _ _,X,ρ,σ,S,s,xo,he,w=>by rw[pv];exact True.intro
 |.bin op a b,X,ρ,σ,S,s,xo,he,w=>by
  rw[ev,pv];exact (Ya H a xo he w).bind λd v S1 s1 x1 w1 r1=>(Ya H b (xo.ext x1) (he.ext xo x1) w1).bind λe u S2 s2 x2 w2 r2=>zZ ((xo.ext x1).ext x2) w2 (Rep.ext (xo.ext x1) x2 r1) r2
 |.neg a,X,ρ,σ,S,s,xo,he,w=>by
  rw[ev,pv];refine (Ya H a xo he w).bind λd v S1 s1 x1 w1 r1=>?_
  cases v with
  |int i=>cases Rep.int' r1;exact Sim.ok w1 (ZF _)
  |_=>exact True.intro
 |.not a,X,ρ,σ,S,s,xo,he,w=>by
  rw[ev,pv];refine (Ya H a xo he w).bind λd v S1 s1 x1 w1 r1=>?_
  cases q:YG v with
  |none=>exact True.intro
  |some b=>
   rw[XG r1 q];exact Sim.ok w1 (ZH _)
 |.and a b,X,ρ,σ,S,s,xo,he,w=>by
  rw[ev,pv];refine (Ya H a xo he w).bind λd v S1 s1 x1 w1 r1=>?_
  cases v with
  |bl c=>
   cases Rep.bl' r1;cases c with
   |true=>exact Ya H b (xo.ext x1) (he.ext xo x1) w1
   |false=>exact Sim.ok w1 (ZH _)
  |_=>exact True.intro
 |.or a b,X,ρ,σ,S,s,xo,he,w=>by
  rw[ev,pv];refine (Ya H a xo he w).bind λd v S1 s1 x1 w1 r1=>?_
  cases v with
  |bl c=>
   cases Rep.bl' r1;cases c with
   |true=>exact Sim.ok w1 (ZH _)
   |false=>exact Ya H b (xo.ext x1) (he.ext xo x1) w1
  |_=>exact True.intro
 |.ite t a b,X,ρ,σ,S,s,xo,he,w=>by
  rw[ev,pv];refine (Ya H t xo he w).bind λd v S1 s1 x1 w1 r1=>?_
  cases q:YG v with
  |none=>exact True.intro
  |some c=>
   rw[XG r1 q];cases c with
   |true=>exact Ya H a (xo.ext x1) (he.ext xo x1) w1
   |false=>exact Ya H b (xo.ext x1) (he.ext xo x1) w1
 |.cmp op a b,X,ρ,σ,S,s,xo,he,w=>by
  rw[ev,pv];exact (Ya H a xo he w).bind λd v S1 s1 x1 w1 r1=>(Ya H b (xo.ext x1) (he.ext xo x1) w1).bind λe u S2 s2 x2 w2 r2=>Jx w2 (Rep.ext (xo.ext x1) x2 r1) r2
 |.chain o p a b d,X,ρ,σ,S,s,xo,he,w=>by
  rw[ev,pv];refine (Ya H a xo he w).bind λda va S1 s1 x1 w1 r1=>(Ya H b (xo.ext x1) (he.ext xo x1) w1).bind λdb vb S2 s2 x2 w2 r2=>(Jx w2 (Rep.ext (xo.ext x1) x2 r1) r2).bind λdz vz S3 s3 x3 w3 r3=>?_
  cases vz with
  |bl c=>
   cases Rep.bl' r3;cases c with
   |true=>
    refine (Ya H d (((xo.ext x1).ext x2).ext x3) (((he.ext xo x1).ext (xo.ext x1) x2).ext ((xo.ext x1).ext x2) x3) w3).bind λdd vd S4 s4 x4 w4 r4=>Jx w4 (Rep.ext (((xo.ext x1).ext x2).ext x3) x4 (Rep.ext ((xo.ext x1).ext x2) x3 r2)) r4
   |false=>exact Sim.ok w3 (ZH _)
  |_=>exact True.intro
 |.ix a i,X,ρ,σ,S,s,xo,he,w=>by
  rw[ev,pv];exact (Ya H a xo he w).bind λd v S1 s1 x1 w1 r1=>(Ya H i (xo.ext x1) (he.ext xo x1) w1).bind λe u S2 s2 x2 w2 r2=>qx w2 (Rep.ext (xo.ext x1) x2 r1) r2
 |.sl a lo hi,X,ρ,σ,S,s,xo,he,w=>by
  rw[ev,pv];refine (Ya H a xo he w).bind λd v S1 s1 x1 w1 r1=>(Zaw H lo (xo.ext x1) (he.ext xo x1) w1).bind λl' l S2 s2 x2 w2 r2=>?_
  have r2:l'=l:=r2;subst r2;refine (Zaw H hi ((xo.ext x1).ext x2) ((he.ext xo x1).ext (xo.ext x1) x2) w2).bind λh' h S3 s3 x3 w3 r3=>?_
  have r3:h'=h:=r3;subst r3;exact qE (((xo.ext x1).ext x2).ext x3) w3 (Rep.ext ((xo.ext x1).ext x2) x3 (Rep.ext (xo.ext x1) x2 r1))
 |.rev a,X,ρ,σ,S,s,xo,he,w=>by
  rw[ev,pv];refine (Ya H a xo he w).bind λd v S1 s1 x1 w1 r1=>?_
  cases v with
  |tup vs=>obtain⟨ds,rfl,rs⟩:=Rep.tup' r1;exact Sim.ok w1 (Ye rs.reverse)
  |_=>exact True.intro
 |.call f as,X,ρ,σ,S,s,xo,he,w=>by
  rw[ev,pv];exact (Wv H as xo he w).bind λds vs S1 s1 x1 w1 r1=>H f vs ds S1 s1 X (xo.ext x1) w1 r1
 |.blt f as,X,ρ,σ,S,s,xo,he,w=>by
  rw[ev,pv];exact (Wv H as xo he w).bind λds vs S1 s1 x1 w1 r1=>uB (xo.ext x1) w1 r1
 |.isi a ts,X,ρ,σ,S,s,xo,he,w=>by
  rw[ev,pv];refine (Ya H a xo he w).bind λd v S1 s1 x1 w1 r1=>?_
  cases q:We v ts with
  |none=>exact True.intro
  |some b=>
   rw[Gp r1 q];exact Sim.ok w1 (ZH _)
 |.inT a tab,X,ρ,σ,S,s,xo,he,w=>by
  rw[ev,pv];refine (Ya H a xo he w).bind λd v S1 s1 x1 w1 r1=>?_
  cases v with
  |int i=>cases Rep.int' r1;exact Sim.ok w1 (ZH _)
  |_=>exact True.intro
 |.getT tab a,X,ρ,σ,S,s,xo,he,w=>by
  rw[ev,pv];refine (Ya H a xo he w).bind λd v S1 s1 x1 w1 r1=>?_
  cases v with
  |int i=>
   cases Rep.int' r1;show Sim n0 S1 (RlV X n0) ((ob (tab.lookup i) S1).bind _) ((po (tab.lookup i) s1).bind _);cases q:tab.lookup i with
   |none=>exact True.intro
   |some j=>exact Sim.ok w1 (ZF _)
  |_=>exact True.intro
 |.comp1 cap nl t it ifs elt,X,ρ,σ,S,s,xo,he,w=>by
  rw[ev,pv];by_cases c:own nl t=true
  ·rw[if_pos c]
   refine (yC H it xo he w).bind λwk vs S1 s1 x1 w1 r1=>?_
   have hn:∀i∈t,i<nl:=λi hi=>of_decide_eq_true (List.all_eq_true.mp c i hi)
   have xo1:=xo.ext x1;exact Gx xo1 w1 r1 (QN (he.ext xo x1)) λx d S2 s σ ds xo2 rx he2 w2 hm=>turn1 (λz=>absurd (xo1.lt _ xo1.z) (by omega)) (.inr rfl) (v5 H ifs) (Ya H elt) (λi hi v=>Ud (hn i hi) v) xo2 rx he2 w2 hm
  ·rw[if_neg c];exact True.intro
 |.comp2 cap nl t it ifs u jt jfs elt,X,ρ,σ,S,s,xo,he,w=>by
  rw[ev,pv];by_cases c:own2 nl t u=true
  ·rw[if_pos c]
   refine (yC H it xo he w).bind λwk vs S1 s1 x1 w1 r1=>?_
   obtain⟨c1,c2⟩:=(Bool.and_eq_true _ _).mp c;have hn:∀i∈t,i<nl:=λi hi=>of_decide_eq_true (List.all_eq_true.mp c1 i hi)
   have hn2:∀i∈u,i<nl/\i∉t:=λi hi=>by
    obtain⟨a,b⟩:=(Bool.and_eq_true _ _).mp (List.all_eq_true.mp c2 i hi);exact⟨of_decide_eq_true a,by simpa using b⟩
   have xo1:=xo.ext x1;exact Gx xo1 w1 r1 (QN (he.ext xo x1)) λx d S2 s σ ds xo2 rx he2 w2 hm=>turn2 (λz=>absurd (xo1.lt _ xo1.z) (by omega)) (.inr rfl) (v5 H ifs) (v5 H jfs) (yC H jt) (Ya H elt) (λi hi v=>Ud (hn i hi) v) (λi hi=>⟨(hn2 i hi).2,λv=>Ud (hn2 i hi).1 v⟩) xo2 rx he2 w2 hm
  ·rw[if_neg c];exact True.intro
theorem Wv (H:Yj n0 C CV):∀(es:List E) {X:Nat->Prop}{ρ:Env}{σ:Lc}{S:Store}{s:DS},Xok X n0 S->EnvE S X n0 ρ σ->Dw n0 S s->Sim n0 S (v6 X n0) (evs C es σ S) (pvs CV es ρ s)
 |[],X,ρ,σ,S,s,xo,he,w=>by rw[evs,pvs];exact Sim.ok w Reps.nil
 |e::es,X,ρ,σ,S,s,xo,he,w=>by
  rw[evs,pvs];exact (Ya H e xo he w).bind λd v S1 s1 x1 w1 r1=>(Wv H es (xo.ext x1) (he.ext xo x1) w1).bind λds vs S2 s2 x2 w2 r2=>Sim.ok w2 (Reps.cons (Rep.ext (xo.ext x1) x2 r1) r2)
theorem Zaw (H:Yj n0 C CV):∀(e:Option E) {X:Nat->Prop}{ρ:Env}{σ:Lc}{S:Store}{s:DS},Xok X n0 S->EnvE S X n0 ρ σ->Dw n0 S s->Sim n0 S RlE (evo C e σ S) (pvo CV e ρ s)
 |none,X,ρ,σ,S,s,xo,he,w=>by rw[evo,pvo];exact Sim.ok w rfl
 |some e,X,ρ,σ,S,s,xo,he,w=>by
  rw[evo,pvo];refine (Ya H e xo he w).bind λd v S1 s1 x1 w1 r1=>?_
  cases v with
  |int i=>cases Rep.int' r1;exact Sim.ok w1 rfl
  |_=>exact True.intro
theorem v5 (H:Yj n0 C CV):∀(es:List E) {X:Nat->Prop}{ρ:Env}{σ:Lc}{S:Store}{s:DS},Xok X n0 S->EnvE S X n0 ρ σ->Dw n0 S s->Sim n0 S RlE (evt C es σ S) (pvt CV es ρ s)
 |[],X,ρ,σ,S,s,xo,he,w=>by rw[evt,pvt];exact Sim.ok w rfl
 |e::es,X,ρ,σ,S,s,xo,he,w=>by
  rw[evt,pvt];refine (Ya H e xo he w).bind λd v S1 s1 x1 w1 r1=>?_
  cases q:YG v with
  |none=>exact True.intro
  |some b=>
   rw[XG r1 q];cases b with
   |true=>exact v5 H es (xo.ext x1) (he.ext xo x1) w1
   |false=>exact Sim.ok w1 rfl
theorem yC (H:Yj n0 C CV):∀(wk:W) {X:Nat->Prop}{ρ:Env}{σ:Lc}{S:Store}{s:DS},Xok X n0 S->EnvE S X n0 ρ σ->Dw n0 S s->Sim n0 S (WkR X n0) (evw C wk σ S) (pvw CV wk ρ s)
 |.rng1 a,X,ρ,σ,S,s,xo,he,w=>by
  rw[evw,pvw];refine (Ya H a xo he w).bind λd v S1 s1 x1 w1 r1=>?_
  cases v with
  |int i=>
   cases Rep.int' r1;exact Sim.guard λ_=>Sim.ok w1 ⟨UB _ _,λp hp=>by cases hp⟩
  |_=>exact True.intro
 |.rng2 a b,X,ρ,σ,S,s,xo,he,w=>by
  rw[evw,pvw];refine (Ya H a xo he w).bind λd v S1 s1 x1 w1 r1=>(Ya H b (xo.ext x1) (he.ext xo x1) w1).bind λe u S2 s2 x2 w2 r2=>?_
  cases v with
  |int i=>cases u with
   |int j=>
    cases Rep.int' r1;cases Rep.int' r2;exact Sim.guard λ_=>Sim.ok w2 ⟨UB _ _,λp hp=>by cases hp⟩
   |_=>exact True.intro
  |_=>exact True.intro
 |.rrng a b,X,ρ,σ,S,s,xo,he,w=>by
  rw[evw,pvw];refine (Ya H a xo he w).bind λd v S1 s1 x1 w1 r1=>(Ya H b (xo.ext x1) (he.ext xo x1) w1).bind λe u S2 s2 x2 w2 r2=>?_
  cases v with
  |int i=>cases u with
   |int j=>
    cases Rep.int' r1;cases Rep.int' r2;exact Sim.guard λ_=>Sim.ok w2 ⟨Reps.reverse (UB _ _),λp hp=>by cases hp⟩
   |_=>exact True.intro
  |_=>exact True.intro
 |.zip a b,X,ρ,σ,S,s,xo,he,w=>by
  rw[evw,pvw];refine (Ya H a xo he w).bind λd v S1 s1 x1 w1 r1=>(Ya H b (xo.ext x1) (he.ext xo x1) w1).bind λe u S2 s2 x2 w2 r2=>?_
  cases q1:Yw v with
  |none=>exact True.intro
  |some vs=>
   cases q2:Yw u with
   |none=>exact True.intro
   |some us=>
    obtain⟨k1,e1,k2,k3⟩:=WQ (Rep.ext (xo.ext x1) x2 r1) q1;obtain⟨l1,f1,l2,l3⟩:=WQ r2 q2;rw[e1,f1];refine Sim.ok w2 ⟨Js k2 l2,λp hp=>?_⟩
    rcases List.mem_append.mp hp with hp | hp
    ·exact k3 p hp
    ·exact l3 p hp
 |.enum a,X,ρ,σ,S,s,xo,he,w=>by
  rw[evw,pvw];refine (Ya H a xo he w).bind λd v S1 s1 x1 w1 r1=>?_
  cases q1:Yw v with
  |none=>exact True.intro
  |some vs=>
   obtain⟨k1,e1,k2,k3⟩:=WQ r1 q1;rw[e1];refine Sim.ok w1 ⟨?_,k3⟩;show Reps S1 X n0 (((Xu 0 vs.length).zip vs).map _) (((Z3 0 k1.items.length).zip k1.items).map _);rw[k2.length];exact Js (UB _ _) k2
 |.of e,X,ρ,σ,S,s,xo,he,w=>by
  rw[evw,pvw];refine (Ya H e xo he w).bind λd v S1 s1 x1 w1 r1=>Sim.obp w1 λvs q=>WQ r1 q
end
end
end Pv
namespace Pv
open Ev
noncomputable abbrev Own:=Nat->Option Nat
noncomputable def XW (X:Nat->Prop) (W:Own):Nat->Prop:=λn=>X n\/∃i,W i=some n
structure EnvS (S:Store) (X:Nat->Prop) (n0 base:Nat) (W:Own) (ρ:Env) (os:List Nat) (σ:Lc):Prop where
 xz:X n0
 xb:∀n,X n->n<base
 bs:base<=S.length
 len:ρ.length=σ.length
 osW:∀i,os.contains i=(W i).isSome
 inj:∀i j n,W i=some n->W j=some n->i=j
 pl:∀i n,W i=some n->base<=n
 own:∀i n,W i=some n->∃xs,ρ[i]? = some (some (.lst xs))/\flats xs=true/\σ[i]? = some (some (.loc n))/\S[n]? = some (.lst (Y6 xs))
 val:∀(i:Nat) (v:V),ρ[i]? = some (some v)->W i=none->∃d,σ[i]? = some (some d)/\Rep S (XW X W) n0 v d
section
variable {S S':Store}{X:Nat->Prop}{n0 base:Nat}{W W':Own}{ρ:Env}{os:List Nat}{σ:Lc}
theorem EnvS.xok (h:EnvS S X n0 base W ρ os σ):Xok X n0 S:=⟨h.xz,λn x=>Nat.lt_of_lt_of_le (h.xb n x) h.bs⟩
theorem EnvS.xokW (h:EnvS S X n0 base W ρ os σ):Xok (XW X W) n0 S:=⟨.inl h.xz,λn x=>by
 rcases x with x | ⟨i,x⟩
 ·exact h.xok.lt n x
 ·obtain⟨xs,_,_,_,e⟩:=h.own i n x;exact XU e⟩
theorem EnvS.nx (h:EnvS S X n0 base W ρ os σ) {i n:Nat}(e:W i=some n):¬X n:=λz=>by have:=h.xb n z;have:=h.pl i n e;omega
theorem EnvS.ne (h:EnvS S X n0 base W ρ os σ) {i n:Nat}(e:W i=some n):n≠n0:=λz=>h.nx e (z▸h.xz)
theorem EnvS.all (h:EnvS S X n0 base W ρ os σ):EnvE S X n0 ρ σ:=⟨h.len,λi v e=>by
 cases q:W i with
 |none=>
  obtain⟨d,a,b⟩:=h.val i v e q;exact⟨d,a,b.mono (λ_ _ _ z=>z) λn _ z=>.inl z⟩
 |some n=>
  obtain⟨xs,a,b,c,d⟩:=h.own i n q;rw[a] at e;cases e;exact⟨_,c,Jh d (h.nx q) (WR b)⟩⟩
theorem vq {i:Nat}{v:V}(e:(hide os ρ)[i]? = some (some v)):ρ[i]? = some (some v)/\os.contains i=false:=by
 unfold hide at e;rw[List.getElem?_mapIdx] at e;cases q:ρ[i]? with
 |none=>rw[q] at e;cases e
 |some o=>
  rw[q] at e;have e':(if os.contains i=true then none else o)=some v:=Option.some.inj e
  by_cases c:os.contains i=true
  ·rw[if_pos c] at e';cases e'
  ·rw[if_neg c] at e';exact⟨by rw[e'],by simpa using c⟩
theorem EnvS.hid (h:EnvS S X n0 base W ρ os σ):EnvE S (XW X W) n0 (hide os ρ) σ:=⟨by unfold hide;rw[List.length_mapIdx];exact h.len,λi v e=>by
 obtain⟨a,b⟩:=vq e;rw[h.osW] at b;exact h.val i v a (by cases q:W i with | none=>rfl | some _=>rw[q] at b;cases b)⟩
theorem EnvS.ext (h:EnvS S X n0 base W ρ os σ) (e:Ext n0 S S'):EnvS S' X n0 base W ρ os σ:=
 ⟨h.xz,h.xb,Nat.le_trans h.bs e.len,h.len,h.osW,h.inj,h.pl,λi n q=>by
  obtain⟨xs,a,b,c,d⟩:=h.own i n q;exact⟨xs,a,b,c,e.keep n _ (h.ne q) d⟩,λi v a b=>by
  obtain⟨d,c,r⟩:=h.val i v a b;exact⟨d,c,r.ext h.xokW e⟩⟩
theorem EnvS.noW (h:EnvS S X n0 base W ρ [] σ):∀i,W i=none:=λi=>by
 have:=h.osW i;cases q:W i with
 |none=>rfl
 |some n=>rw[q] at this;cases this
theorem EnvS.set {i:Nat}{v:V}{d:D}(h:EnvS S X n0 base W ρ os σ) (hi:os.contains i=false) (r:Rep S (XW X W) n0 v d):EnvS S X n0 base W (ρ.set i (some v)) os (σ.set i (some d)):=by
 have hw:W i=.none:=by have:=h.osW i;rw[hi] at this;cases q:W i with | none=>rfl | some _=>rw[q] at this;cases this
 refine⟨h.xz,h.xb,h.bs,by rw[List.length_set,List.length_set];exact h.len,h.osW,h.inj,h.pl,λj n q=>?_,λj w e q=>?_⟩
 ·obtain⟨xs,a,b,c,e⟩:=h.own j n q
  have ij:i≠j:=λz=>by rw[z,q] at hw;cases hw
  exact⟨xs,by rw[List.getElem?_set_ne ij];exact a,b,by rw[List.getElem?_set_ne ij];exact c,e⟩
 ·rw[List.getElem?_set] at e ⊢
  by_cases c:i=j
  ·rw[if_pos c] at e ⊢
   by_cases l:i<ρ.length
   ·rw[if_pos l] at e
    rw[if_pos (by rw[<-h.len];exact l)]
    cases e;exact⟨d,rfl,r⟩
   ·rw[if_neg l] at e;cases e
  ·rw[if_neg c] at e ⊢
   exact h.val j w e q
theorem EnvS.fill:∀{t:List Nat}{vs:List V}{ds:List D}{ρ ρ':Env}{σ:Lc},EnvS S X n0 base W ρ os σ->(t.any os.contains)=false->Reps S (XW X W) n0 vs ds->Xq t vs ρ=some ρ'->∃σ',Ev.fill t ds σ=some σ'/\EnvS S X n0 base W ρ' os σ'
 |[],[],_,ρ,ρ',σ,h,_,r,e=>by rw[r.nil'];cases e;exact⟨σ,rfl,h⟩
 |[],_::_,_,_,_,_,_,_,_,e=>by cases e
 |_::_,[],_,_,_,_,_,_,_,e=>by cases e
 |i::t,v::vs,_,ρ,ρ',σ,h,ht,r,e=>by
  obtain⟨d,ds,rfl,a,b⟩:=r.cons';rw[List.any_cons,Bool.or_eq_false_iff] at ht;exact EnvS.fill (t:=t) (vs:=vs) (h.set ht.1 a) ht.2 b e
theorem EnvS.assign {t:List Nat}{v:V}{d:D}{ρ':Env}(h:EnvS S X n0 base W ρ os σ) (ht:(t.any os.contains)=false) (r:Rep S (XW X W) n0 v d) (e:ZI t v ρ=some ρ'):∃σ',Ev.assign t d S σ=some σ'/\EnvS S X n0 base W ρ' os σ':=by
 have gen:∀t:List Nat,(t.any os.contains)=false->(match Yw v with
   |some xs=>Xq t xs ρ
   |none=>none)=some ρ'->∃σ',(match d with
   |.tup xs=>Ev.fill t xs σ
   |.loc n=>match Zv S n with
    |some xs=>Ev.fill t xs σ
    |none=>none
   |_=>none)=some σ'/\EnvS S X n0 base W ρ' os σ':=by
  intro t ht e;cases v with
  |tup vs=>obtain⟨ds,rfl,rs⟩:=r.tup';exact h.fill ht rs e
  |lst vs=>
   obtain⟨n,ds,rfl,hs,_,rs⟩:=r.lst';obtain⟨σ',a,b⟩:=h.fill ht rs e;refine⟨σ',?_,b⟩;show (match Zv S n with
    |some xs=>Ev.fill t xs σ
    |.none=>.none)=some σ'
   rw[ZX hs];exact a
  |_=>cases e
 match t,ht,e with
 |[i],ht,e=>
  cases e;exact⟨_,rfl,h.set (by simpa using ht) r⟩
 |[],ht,e=>exact gen [] ht e
 |i::j::t,ht,e=>exact gen (i::j::t) ht e
theorem EnvS.drop {i:Nat}{v:V}{d:D}(h:EnvS S X n0 base W ρ os σ) (r:Rep S (XW X W) n0 v d):EnvS S X n0 base (λj=>if j=i then .none else W j) (ρ.set i (some v)) (os.filter (· != i)) (σ.set i (some d)):=by
 have sub:∀n,XW X (λj=>if j=i then none else W j) n->XW X W n:=λn z=>by
  rcases z with z | ⟨j,z⟩
  ·exact .inl z
  ·by_cases c:j=i
   ·simp only[c,if_true] at z;cases z
   ·simp only[c,if_false] at z;exact .inr ⟨j,z⟩
 have get:∀{j n:Nat},(if j=i then Option.none else W j)=some n->j≠i/\W j=some n:=λ{j n} z=>by
  by_cases c:j=i
  ·rw[if_pos c] at z;cases z
  ·rw[if_neg c] at z;exact⟨c,z⟩
 refine⟨h.xz,h.xb,h.bs,by rw[List.length_set,List.length_set];exact h.len,λj=>?_,λa b n x y=>h.inj a b n (get x).2 (get y).2,λj n z=>h.pl j n (get z).2,λj n z=>?_,λj w e z=>?_⟩
 ·by_cases c:j=i
  ·simp[c]
  ·simp only[c,if_false]
   rw[<-h.osW j,Bool.eq_iff_iff,List.contains_iff_mem,List.contains_iff_mem,List.mem_filter];simp[c]
 ·obtain⟨xs,a,b,c,e⟩:=h.own j n (get z).2
  have ij:i≠j:=Ne.symm (get z).1;exact⟨xs,by rw[List.getElem?_set_ne ij];exact a,b,by rw[List.getElem?_set_ne ij];exact c,e⟩
 ·rw[List.getElem?_set] at e ⊢
  by_cases c:i=j
  ·rw[if_pos c] at e ⊢
   by_cases l:i<ρ.length
   ·rw[if_pos l] at e
    rw[if_pos (by rw[<-h.len];exact l)]
    cases e;exact⟨d,rfl,r.mono (λ_ _ _ q=>q) λn _ q=>sub n q⟩
   ·rw[if_neg l] at e;cases e
  ·rw[if_neg c] at e ⊢
   rw[if_neg (Ne.symm c)] at z;obtain⟨d',a,b⟩:=h.val j w e z;exact⟨d',a,b.mono (λ_ _ _ q=>q) λn _ q=>sub n q⟩
theorem EnvS.take {S0:Store}{i n:Nat}{xs:List V}(h:EnvS S0 X n0 base W ρ os σ) (e:Ext n0 S0 S) (hn:S0.length<=n) (hf:flats xs=true) (r:Rep S (XW X W) n0 (.lst xs) (.loc n)) (hi:i<ρ.length) :
  EnvS S X n0 base (λj=>if j=i then some n else W j) (ρ.set i (some (.lst xs))) (i::os.filter (· != i)) (σ.set i (some (.loc n))):=by
 obtain⟨n',ds,en,hs,hx,rs⟩:=r.lst';cases en;have ed:=X6 hf rs;subst ed;have h1:=h.ext e;have sub:∀m,m<S0.length->XW X (λj=>if j=i then some n else W j) m->XW X W m:=λm hm z=>by
  rcases z with z | ⟨j,z⟩
  ·exact .inl z
  ·by_cases c:j=i
   ·simp only[c,if_true] at z
    have:n=m:=Option.some.inj z;omega
   ·simp only[c,if_false] at z;exact .inr ⟨j,z⟩
 have get:∀{j m:Nat},(if j=i then some n else W j)=some m->(j=i/\n=m)\/(j≠i/\W j=some m):=λ{j m} z=>by
  by_cases c:j=i
  ·rw[if_pos c] at z;exact .inl ⟨c,Option.some.inj z⟩
  ·rw[if_neg c] at z;exact .inr ⟨c,z⟩
 refine⟨h1.xz,h1.xb,h1.bs,by rw[List.length_set,List.length_set];exact h.len,λj=>?_,λa b m x y=>?_,λj m z=>?_,λj m z=>?_,λj w q z=>?_⟩
 ·by_cases c:j=i
  ·simp[c]
  ·simp only[c,if_false]
   rw[<-h.osW j,Bool.eq_iff_iff,List.contains_iff_mem,List.contains_iff_mem,List.mem_cons,List.mem_filter];simp[c]
 ·rcases get x with ⟨x1,x2⟩ | ⟨x1,x2⟩
  ·rcases get y with ⟨y1,y2⟩ | ⟨y1,y2⟩
   ·rw[x1,y1]
   ·exact absurd (.inr ⟨b,x2▸y2⟩) hx
  ·rcases get y with ⟨y1,y2⟩ | ⟨y1,y2⟩
   ·exact absurd (.inr ⟨a,y2▸x2⟩) hx
   ·exact h.inj a b m x2 y2
 ·rcases get z with ⟨z1,z2⟩ | ⟨z1,z2⟩
  ·have:=h.bs;omega
  ·exact h.pl j m z2
 ·rcases get z with ⟨z1,z2⟩ | ⟨z1,z2⟩
  ·subst z1 z2
   exact⟨xs,List.getElem?_set_self hi,hf,List.getElem?_set_self (by rw[<-h.len];exact hi),hs⟩
  ·obtain⟨ys,a,b,c,q⟩:=h1.own j m z2
   exact⟨ys,by rw[List.getElem?_set_ne (Ne.symm z1)];exact a,b,by rw[List.getElem?_set_ne (Ne.symm z1)];exact c,q⟩
 ·by_cases c:j=i
  ·rw[if_pos c] at z;cases z
  ·rw[if_neg c] at z
   rw[List.getElem?_set_ne (Ne.symm c)] at q ⊢;obtain⟨d,a,b⟩:=h.val j w q z;exact⟨d,a,b.mono (λm o nx hs=>e.keep m o (λq=>nx (q▸.inl h.xz)) hs) sub⟩
theorem EnvS.mut {i n:Nat}{ys:List V}(h:EnvS S X n0 base W ρ os σ) (hw:W i=some n) (hf:flats ys=true):EnvS (S.set n (.lst (Y6 ys))) X n0 base W (ρ.set i (some (.lst ys))) os σ:=by
 obtain⟨xs,a,b,c,e⟩:=h.own i n hw;have hi:i<ρ.length:=(List.getElem?_eq_some_iff.mp a).1;refine⟨h.xz,h.xb,by rw[List.length_set];exact h.bs,by rw[List.length_set];exact h.len,h.osW,h.inj,h.pl,λj m z=>?_,λj w q z=>?_⟩
 ·by_cases k:i=j
  ·subst k
   rw[hw] at z;cases z;exact⟨ys,List.getElem?_set_self hi,hf,c,List.getElem?_set_self (XU e)⟩
  ·obtain⟨zs,a',b',c',e'⟩:=h.own j m z
   exact⟨zs,by rw[List.getElem?_set_ne k];exact a',b',c',by rw[List.getElem?_set_ne (λq:n=m=>k (h.inj i j n hw (by rw[q];exact z)))];exact e'⟩
 ·have k:i≠j:=λk=>by rw[<-k,hw] at z;cases z
  rw[List.getElem?_set_ne k] at q;obtain⟨d,a',b'⟩:=h.val j w q z;exact⟨d,a',b'.mono (λm o nx hs=>by rw[List.getElem?_set_ne (λq:n=m=>nx (.inr ⟨i,by rw[<-q];exact hw⟩))];exact hs) λ_ _ q=>q⟩
end
structure ExtS (n0:Nat) (W:Own) (S S':Store):Prop where
 len:S.length<=S'.length
 keep:∀n o,n≠n0->(∀i,W i≠some n)->S[n]? = some o->S'[n]? = some o
noncomputable def WExt (S:Store) (W W':Own):Prop:=∀i n,W' i=some n->(∃j,W j=some n)\/S.length<=n
theorem Ext.s {n0:Nat}{W:Own}{S S':Store}(h:Ext n0 S S'):ExtS n0 W S S':=⟨h.len,λn o a _ e=>h.keep n o a e⟩
theorem ExtS.trans {n0:Nat}{W W':Own}{S S1 S2:Store}(a:ExtS n0 W S S1) (w:WExt S W W') (b:ExtS n0 W' S1 S2):ExtS n0 W S S2:=⟨Nat.le_trans a.len b.len,λn o h z e=>b.keep n o h (λi q=>by
 rcases w i n q with ⟨j,q⟩ | q
 ·exact z j q
 ·exact absurd (XU e) (by omega)) (a.keep n o h z e)⟩
theorem WExt.refl {S:Store}{W:Own}:WExt S W W:=λi n h=>.inl ⟨i,h⟩
theorem WExt.trans {S S1:Store}{W W1 W2:Own}(a:WExt S W W1) (l:S.length<=S1.length) (b:WExt S1 W1 W2):WExt S W W2:=λi n h=>by
 rcases b i n h with ⟨j,h⟩ | h
 ·exact a j n h
 ·exact .inr (Nat.le_trans l h)
noncomputable def FlR (X:Nat->Prop) (n0 base:Nat) (S:Store) (W:Own) (S':Store):FlV->Fl->Prop
 |.nx ρ os,.nx σ=>∃W',WExt S W W'/\EnvS S' X n0 base W' ρ os σ
 |.brk ρ os,.brk σ=>∃W',WExt S W W'/\EnvS S' X n0 base W' ρ os σ
 |.cnt ρ os,.cnt σ=>∃W',WExt S W W'/\EnvS S' X n0 base W' ρ os σ
 |.ret v,.ret d=>Rep S' X n0 v d
 |_,_=>False
noncomputable def ZS (X:Nat->Prop) (n0 base:Nat) (S:Store) (W:Own) (r:R Fl) (q:PR FlV):Prop:=match q with
 |.no=>True
 |.ex c s'=>∃S',r=.ex c S'/\ExtS n0 W S S'/\Dw n0 S' s'
 |.ok f s'=>∃g S',r=.ok g S'/\ExtS n0 W S S'/\Dw n0 S' s'/\FlR X n0 base S W S' f g
section
variable {α β:Type}{S S':Store}{X:Nat->Prop}{n0 base:Nat}{W W':Own}{ρ:Env}{os:List Nat}{σ:Lc}
theorem FlR.from {S1:Store}{f:FlV}{g:Fl}(w:WExt S W W') (l:S.length<=S1.length) (h:FlR X n0 base S1 W' S' f g):FlR X n0 base S W S' f g:=by
 cases f with
 |nx ρ os=>cases g with
  |nx σ=>obtain⟨W2,a,b⟩:=h;exact⟨W2,w.trans l a,b⟩
  |_=>exact h.elim
 |brk ρ os=>cases g with
  |brk σ=>obtain⟨W2,a,b⟩:=h;exact⟨W2,w.trans l a,b⟩
  |_=>exact h.elim
 |cnt ρ os=>cases g with
  |cnt σ=>obtain⟨W2,a,b⟩:=h;exact⟨W2,w.trans l a,b⟩
  |_=>exact h.elim
 |ret v=>cases g with
  |ret d=>exact h
  |_=>exact h.elim
theorem ZS.from {S1:Store}{r:R Fl}{q:PR FlV}(x:ExtS n0 W S S1) (w:WExt S W W') (h:ZS X n0 base S1 W' r q):ZS X n0 base S W r q:=by
 cases q with
 |no=>exact True.intro
 |ex c s'=>obtain⟨S2,a,b,c⟩:=h;exact⟨S2,a,x.trans w b,c⟩
 |ok f s'=>obtain⟨g,S2,a,b,c,d⟩:=h;exact⟨g,S2,a,x.trans w b,c,FlR.from w x.len d⟩
theorem ZS.bindE {Rl:Store->β->α->Prop}{r:R α}{q:PR β}{f:α->Store->R Fl}{g:β->DS->PR FlV}(h:Sim n0 S Rl r q)
  (k:∀a b S' s',Ext n0 S S'->Dw n0 S' s'->Rl S' b a->ZS X n0 base S' W (f a S') (g b s')):ZS X n0 base S W (r.bind f) (q.bind g):=by
 cases q with
 |no=>exact True.intro
 |ex c s'=>obtain⟨S',e,x,w⟩:=h;rw[e];exact⟨S',rfl,x.s,w⟩
 |ok b s'=>
  obtain⟨a,S',e,x,w,rl⟩:=h;rw[e];exact ZS.from x.s WExt.refl (k a b S' s' x w rl)
theorem ZS.nx {s:DS}{σ':Lc}{ρ':Env}{os':List Nat}(w:Dw n0 S s) (hw:WExt S W W') (h:EnvS S X n0 base W' ρ' os' σ'):ZS X n0 base S W (.ok (.nx σ') S) (.ok (.nx ρ' os') s):=⟨_,S,rfl,Ext.refl.s,w,W',hw,h⟩
end
section
variable {n0:Nat}{C:Calls}{CV:Z5}{X:Nat->Prop}{base:Nat}
theorem Zam (H:Yj n0 C CV) (e:E) {W:Own}{ρ:Env}{os:List Nat}{σ:Lc}{S:Store}{s:DS}(he:EnvS S X n0 base W ρ os σ) (w:Dw n0 S s):Sim n0 S (RlV (XW X W) n0) (ev C e σ S) (pvA CV e ρ os s):=by
 cases os with
 |nil=>
  have hh:EnvE S (XW X W) n0 ρ σ:=⟨he.len,λi v q=>he.val i v q (he.noW i)⟩
  exact Ya H e he.xokW hh w
 |cons o os=>
  show Sim n0 S (RlV (XW X W) n0) (ev C e σ S) (match pv CV e (hide (o::os) ρ) s with
   |.ok v s=>.ok v s
   |.ex c s=>.ex c s
   |.no=>(pv CV e ρ s).bind λv s=>if v.flat then .ok v s else .no)
  have h1:=Ya H e he.xokW he.hid w;cases q:pv CV e (hide (o::os) ρ) s with
  |ok v s1=>rw[q] at h1;exact h1
  |ex c s1=>rw[q] at h1;exact h1
  |no=>
   have h2:=Ya H e he.xok he.all w;cases q2:pv CV e ρ s with
   |no=>exact True.intro
   |ex c s1=>rw[q2] at h2;exact h2
   |ok v s1=>
    rw[q2] at h2;show Sim n0 S (RlV (XW X W) n0) (ev C e σ S) (if v.flat=true then .ok v s1 else .no)
    by_cases c:v.flat=true
    ·rw[if_pos c]
     obtain⟨d,S',a1,a2,a3,a4⟩:=h2;exact⟨d,S',a1,a2,a3,by rw[Wy c a4];exact U8 c⟩
    ·rw[if_neg c];exact True.intro
theorem Zas (H:Yj n0 C CV) (es:List E) {W:Own}{ρ:Env}{os:List Nat}{σ:Lc}{S:Store}{s:DS}(he:EnvS S X n0 base W ρ os σ) (w:Dw n0 S s):Sim n0 S (v6 (XW X W) n0) (evs C es σ S) (Zao CV es ρ os s):=by
 cases os with
 |nil=>
  have hh:EnvE S (XW X W) n0 ρ σ:=⟨he.len,λi v q=>he.val i v q (he.noW i)⟩
  exact Wv H es he.xokW hh w
 |cons o os=>
  show Sim n0 S (v6 (XW X W) n0) (evs C es σ S) ((pvs CV es ρ s).bind λv s=>if flats v=true then .ok v s else .no)
  have h2:=Wv H es he.xok he.all w;cases q2:pvs CV es ρ s with
  |no=>exact True.intro
  |ex c s1=>rw[q2] at h2;exact h2
  |ok v s1=>
   rw[q2] at h2;show Sim n0 S (v6 (XW X W) n0) (evs C es σ S) (if flats v=true then .ok v s1 else .no)
   by_cases c:flats v=true
   ·rw[if_pos c]
    obtain⟨d,S',a1,a2,a3,a4⟩:=h2;exact⟨d,S',a1,a2,a3,by rw[X6 c a4];exact WR c⟩
   ·rw[if_neg c];exact True.intro
theorem QE (H:Yj n0 C CV) {e:E}(hf:fresh e=true) {ρ:Env}{σ:Lc}{S S':Store}{s s':DS}{xs:List V}{d:D}(xo:Xok X n0 S) (he:EnvE S X n0 ρ σ) (w:Dw n0 S s) (q:pv CV e ρ s=.ok (.lst xs) s') (r:ev C e σ S=.ok d S'):∃n,d=.loc n/\S.length<=n:=by
 have bo:∀{α β:Type} {r:R α} {f:α->Store->R β} {b:β} {S':Store},r.bind f=.ok b S'->∃a S1,r=.ok a S1/\f a S1=.ok b S':=λ{α β r f b S'} h=>by
  cases r with
  |no=>cases h
  |ex _ _=>cases h
  |ok a S1=>exact⟨a,S1,rfl,h⟩
 have ifo:∀{α:Type} {P:Prop} [Decidable P] {r:R α} {b:α} {S':Store},(if P then r else .no)=.ok b S'->r=.ok b S':=λ{α P _ r b S'} h=>by
  by_cases c:P
  ·rw[if_pos c] at h;exact h
  ·rw[if_neg c] at h;cases h
 cases e with
 |lst es=>
  rw[pv] at q;obtain⟨vs,s1,q1,_⟩:=Ys q;obtain⟨ds,S1,e1,x1,_,_⟩:=(Wv H es xo he w).out q1;rw[ev,e1] at r;have r:=ifo (show (if ds.length<=lim then R.ok (D.loc S1.length) (S1++[.lst ds]) else .no)=.ok d S' from r)
  cases r;exact⟨_,rfl,x1.len⟩
 |comp1 cap nl t it ifs elt=>
  rw[pv] at q;by_cases c:own nl t=true
  ·rw[if_pos c] at q
   obtain⟨vs,s1,q1,_⟩:=Ys q;obtain⟨wk,S1,e1,x1,_,_⟩:=(yC H it xo he w).out q1;rw[ev,e1] at r;obtain⟨_,_,ea,r⟩:=bo r;cases ea;obtain⟨_,S2,_,r⟩:=bo r;cases r;exact⟨_,rfl,x1.len⟩
  ·rw[if_neg c] at q;cases q
 |comp2 cap nl t it ifs u jt jfs elt=>
  rw[pv] at q;by_cases c:own2 nl t u=true
  ·rw[if_pos c] at q
   obtain⟨vs,s1,q1,_⟩:=Ys q;obtain⟨wk,S1,e1,x1,_,_⟩:=(yC H it xo he w).out q1;rw[ev,e1] at r;obtain⟨_,_,ea,r⟩:=bo r;cases ea;obtain⟨_,S2,_,r⟩:=bo r;cases r;exact⟨_,rfl,x1.len⟩
  ·rw[if_neg c] at q;cases q
 |bin op a b=>
  cases op with
  |mul=>cases a with
   |lst es=>
    rw[pv] at q;obtain⟨x,s1,q1,q⟩:=Ys q;obtain⟨y,s2,q2,q⟩:=Ys q;obtain⟨dx,S1,e1,x1,w1,r1⟩:=(Ya H (.lst es) xo he w).out q1;obtain⟨dy,S2,e2,x2,w2,r2⟩:=(Ya H b (xo.ext x1) (he.ext xo x1) w1).out q2;rw[ev,e1] at r;have r:(ev C b σ S1).bind (λy S=>binop .mul dx y S)=.ok d S':=r
    rw[e2] at r;have r:binop .mul dx dy S2=.ok d S':=r;cases x with
    |lst us=>cases y with
     |int j=>
      obtain⟨n,ds,rfl,hs,_,_⟩:=Rep.lst' r1;cases Rep.int' r2;have hs2:=x2.keep n _ (λz=>?_) hs
      ·have r:(match Zv S2 n with
        |some a=>if 0<=j/\j<1000/\a.length<=1000 then R.ok (D.loc S2.length) (S2++[Ob.lst (List.replicate j.toNat a).flatten]) else .no
        |none=>.no)=.ok d S':=r
       rw[ZX hs2] at r;have r:=ifo (show (if 0<=j/\j<1000/\ds.length<=1000 then R.ok (D.loc S2.length) (S2++[Ob.lst (List.replicate j.toNat ds).flatten]) else .no)=.ok d S' from r)
       cases r;exact⟨_,rfl,Nat.le_trans x1.len x2.len⟩
      ·obtain⟨n',_,en,_,nx,_⟩:=Rep.lst' r1
       cases en;exact nx (z▸xo.z)
     |_=>cases q
    |tup us=>cases y with
     |int j=>
      have q:(if 0<=j/\j<1000/\us.length<=1000 then PR.ok (V.tup (List.replicate j.toNat us).flatten) s2 else .no)=.ok (.lst xs) s':=q
      by_cases c:0<=j/\j<1000/\us.length<=1000
      ·rw[if_pos c] at q;cases q
      ·rw[if_neg c] at q;cases q
     |_=>cases q
    |int i=>cases y with
     |int j=>
      have q:(if (fits i&&fits j)=true then PR.ok (V.int (i*j)) s2 else .no)=.ok (.lst xs) s':=q
      by_cases c:(fits i&&fits j)=true
      ·rw[if_pos c] at q;cases q
      ·rw[if_neg c] at q;cases q
     |_=>cases q
    |_=>cases y <;> cases q
   |_=>cases hf
  |_=>cases hf
 |blt f as=>
  cases f with
  |list=>
   rw[pv] at q;obtain⟨vs,s1,q1,q⟩:=Ys q;obtain⟨ds,S1,e1,x1,w1,r1⟩:=(Wv H as xo he w).out q1;rw[ev,e1] at r;have r:bltin .list ds S1=.ok d S':=r
   match ds,r with
   |[z],r=>
    obtain⟨_,S2,r1,r⟩:=bo (show (ob (XI S1 z) S1).bind (λxs S=>R.ok (D.loc S.length) (S++[.lst xs]))=.ok d S' from r)
    cases q:XI S1 z with
    |none=>rw[q] at r1;cases r1
    |some _=>rw[q] at r1;cases r1;cases r;exact⟨_,rfl,x1.len⟩
  |sorted=>
   rw[pv] at q;obtain⟨vs,s1,q1,q⟩:=Ys q;obtain⟨ds,S1,e1,x1,w1,r1⟩:=(Wv H as xo he w).out q1;rw[ev,e1] at r;have r:bltin .sorted ds S1=.ok d S':=r
   match ds,r with
   |[.loc z],r=>
    obtain⟨ys,S2,r1,r⟩:=bo (show (ob (Zv S1 z) S1).bind _=.ok d S' from r)
    cases q:Zv S1 z with
    |none=>rw[q] at r1;cases r1
    |some _=>
     rw[q] at r1;cases r1;obtain⟨rs,S3,r2,r⟩:=bo r;cases q2:Y9 ys with
     |none=>rw[q2] at r2;cases r2
     |some _=>
      rw[q2] at r2;cases r2;have r:=ifo r;cases r;exact⟨_,rfl,x1.len⟩
  |_=>cases hf
 |_=>cases hf
end
end Pv
namespace Pv
open Ev
theorem Ww:∀(a b:List V),Y6 (a++b)=Y6 a++Y6 b
 |[],b=>rfl
 |x::a,b=>by rw[List.cons_append];show toD x::Y6 (a++b)=_;rw[Ww a b];rfl
theorem Wd:∀{a b:List V},flats a=true->flats b=true->flats (a++b)=true
 |[],b,_,h=>h
 |x::a,b,h,h'=>by
  unfold flats at h;obtain⟨h1,h2⟩:=(Bool.and_eq_true _ _).mp h;show (x.flat&&flats (a++b))=true;rw[h1,Wd h2 h'];rfl
theorem J6:∀(a:List V) (j:Nat) (v:V),Y6 (a.set j v)=(Y6 a).set j (toD v)
 |[],_,_=>rfl
 |x::a,0,v=>rfl
 |x::a,j+1,v=>by show toD x::Y6 (a.set j v)=toD x::(Y6 a).set j (toD v);rw[J6 a j v]
theorem Q6:∀{a:List V}{j:Nat}{v:V},flats a=true->v.flat=true->flats (a.set j v)=true
 |[],_,_,h,_=>h
 |x::a,0,v,h,h'=>by
  unfold flats at h;obtain⟨h1,h2⟩:=(Bool.and_eq_true _ _).mp h;show (v.flat&&flats a)=true;rw[h',h2];rfl
 |x::a,j+1,v,h,h'=>by
  unfold flats at h;obtain⟨h1,h2⟩:=(Bool.and_eq_true _ _).mp h;show (x.flat&&flats (a.set j v))=true;rw[h1,Q6 h2 h'];rfl
theorem Xf:∀a:List V,(Y6 a).length=a.length
 |[]=>rfl
 |x::a=>by show (Y6 a).length+1=_;rw[Xf a];rfl
theorem zO {C:Calls}{e:E}{σ:Lc}{S:Store}:evs C [e] σ S=(ev C e σ S).bind λx S=>.ok [x] S:=by
 rw[evs];rfl
section
variable {n0:Nat}{C:Calls}{CV:Z5}{X:Nat->Prop}{base:Nat}{W:Own}{ρ:Env}{os:List Nat}{σ:Lc}{S:Store}{s:DS}
theorem EnvS.at (h:EnvS S X n0 base W ρ os σ) {i:Nat}(hi:os.contains i=true):∃n xs,W i=some n/\ρ[i]? = some (some (.lst xs))/\flats xs=true/\σ[i]? = some (some (.loc n))/\S[n]? = some (.lst (Y6 xs)):=by
 rw[h.osW] at hi;obtain⟨n,hn⟩:=Option.isSome_iff_exists.mp hi;obtain⟨xs,a,b,c,d⟩:=h.own i n hn;exact⟨n,xs,hn,a,b,c,d⟩
theorem vP {n:Nat}{o:Ob}{i:Nat}(hw:W i=some n):ExtS n0 W S (S.set n o):=⟨by simp,λm o' _ z e=>by rw[List.getElem?_set_ne (λq:n=m=>z i (by rw[<-q];exact hw))];exact e⟩
theorem ZS.mutd {i n:Nat}{ys:List V}(he:EnvS S X n0 base W ρ os σ) (w:Dw n0 S s) (hw:W i=some n) (hf:flats ys=true):ZS X n0 base S W (.ok (.nx σ) (S.set n (.lst (Y6 ys)))) (.ok (.nx (ρ.set i (some (.lst ys))) os) s):=
 ⟨_,_,rfl,vP hw,⟨by rw[List.getElem?_set_ne (he.ne hw)];exact w.1,w.2⟩,W,WExt.refl,he.mut hw hf⟩
theorem vI {op:Bop}{x y z:V}{s s':DS}(h:yS op x y s=.ok z s'):∃i,z=.int i:=by
 cases x with
 |int i=>cases y with
  |int j=>
   have ifo:∀{P:Prop} [Decidable P] {k:Int} ,(if P then PR.ok (V.int k) s else .no)=.ok z s'->∃i,z=.int i:=λ{P _ k} h=>by
    by_cases c:P
    ·rw[if_pos c] at h;cases h;exact⟨_,rfl⟩
    ·rw[if_neg c] at h;cases h
   cases op with
   |add=>cases h;exact⟨_,rfl⟩
   |sub=>cases h;exact⟨_,rfl⟩
   |mul=>exact ifo h
   |fdiv=>exact ifo h
   |mod=>exact ifo h
   |pow=>exact ifo h
  |_=>cases h
 |_=>cases h
theorem wn (H:Yj n0 C CV) (e:E) (he:EnvS S X n0 base W ρ os σ) (w:Dw n0 S s):Sim n0 S RlE (tst C e σ S) (Zy CV e ρ s):=by
 refine (Ya H e he.xok he.all w).bind λd v S1 s1 x1 w1 r1=>?_
 cases q:YG v with
 |none=>exact True.intro
 |some b=>rw[XG r1 q];exact Sim.ok w1 rfl
theorem u7 (H:Yj n0 C CV) (e:E) (he:EnvS S X n0 base W ρ os σ) (w:Dw n0 S s):ZS X n0 base S W ((ev C e σ S).bind λ_ S=>.ok (.nx σ) S) ((pv CV e ρ s).bind λ_ s=>.ok (.nx ρ os) s):=
 ZS.bindE (Ya H e he.xok he.all w) λd v S1 s1 x1 w1 r1=>ZS.nx w1 WExt.refl (he.ext x1)
theorem zC (H:Yj n0 C CV) (i:Nat) (e:E) (he:EnvS S X n0 base W ρ os σ) (w:Dw n0 S s):ZS X n0 base S W ((ev C (.mt .append (.v i) [e]) σ S).bind λ_ S=>.ok (.nx σ) S)
  (if os.contains i=true then (po (W7 ρ[i]?) s).bind λxs s=>(pv CV e ρ s).bind λv s=>if v.flat=true/\xs.length<lim then .ok (.nx (ρ.set i (some (.lst (xs++[v])))) os) s else .no else .no):=by
 by_cases c:os.contains i=true
 ·rw[if_pos c]
  obtain⟨n,xs,hw,a1,a2,a3,a4⟩:=he.at c;have e0:W7 ρ[i]? = some xs:=by rw[a1];rfl
  rw[e0];show ZS X n0 base S W _ ((pv CV e ρ s).bind _);have e1:(ev C (.mt .append (.v i) [e]) σ S).bind (λ_ S=>R.ok (Fl.nx σ) S)=(ev C e σ S).bind λd S=>(method .append (.loc n) [d] S).bind λ_ S=>.ok (.nx σ) S:=by
   rw[ev,ev,a3];show R.bind (if xW S (.loc n)=true then _ else _) _=_
   rw[if_pos (by show (Zv S n).isSome=true;rw[ZX a4];rfl),zO]
   cases ev C e σ S <;> rfl
  rw[e1];refine ZS.bindE (Ya H e he.xok he.all w) λd v S1 s1 x1 w1 r1=>?_
  have he1:=he.ext x1;have a5:=x1.keep n _ (he.ne hw) a4;by_cases c2:v.flat=true/\xs.length<lim
  ·rw[if_pos c2]
   have hm:method .append (.loc n) [d] S1=.ok .non (S1.set n (.lst (Y6 xs++[d]))):=by
    show R.bind (ob (Zv S1 n) S1) _=_;rw[ZX a5];show (if (Y6 xs).length<lim then _ else _)=_
    rw[if_pos (by rw[Xf];exact c2.2)]
   rw[hm];have:=ZS.mutd (ys:=xs++[v]) he1 w1 hw (Wd a2 (by show (v.flat&&true)=true;rw[c2.1];rfl))
   rw[Ww] at this;rw[Wy c2.1 r1];exact this
  ·rw[if_neg c2];exact True.intro
 ·rw[if_neg c];exact True.intro
theorem G4 (H:Yj n0 C CV) (i:Nat) (e:E) (he:EnvS S X n0 base W ρ os σ) (w:Dw n0 S s):ZS X n0 base S W ((ev C (.mt .extend (.v i) [e]) σ S).bind λ_ S=>.ok (.nx σ) S)
  (if os.contains i=true then (po (W7 ρ[i]?) s).bind λxs s=>(pv CV e (hide os ρ) s).bind λv s=>match v with
   |.lst ys=>if flats ys=true/\xs.length+ys.length<=lim then .ok (.nx (ρ.set i (some (.lst (xs++ys)))) os) s else .no
   |_=>.no
  else .no):=by
 by_cases c:os.contains i=true
 ·rw[if_pos c]
  obtain⟨n,xs,hw,a1,a2,a3,a4⟩:=he.at c;have e0:W7 ρ[i]? = some xs:=by rw[a1];rfl
  rw[e0];show ZS X n0 base S W _ ((pv CV e (hide os ρ) s).bind _);have e1:(ev C (.mt .extend (.v i) [e]) σ S).bind (λ_ S=>R.ok (Fl.nx σ) S)=(ev C e σ S).bind λd S=>(method .extend (.loc n) [d] S).bind λ_ S=>.ok (.nx σ) S:=by
   rw[ev,ev,a3];show R.bind (if xW S (.loc n)=true then _ else _) _=_
   rw[if_pos (by show (Zv S n).isSome=true;rw[ZX a4];rfl),zO]
   cases ev C e σ S <;> rfl
  rw[e1];refine ZS.bindE (Ya H e he.xokW he.hid w) λd v S1 s1 x1 w1 r1=>?_
  have he1:=he.ext x1;have a5:=x1.keep n _ (he.ne hw) a4;cases v with
  |lst ys=>
   obtain⟨k,ds,rfl,hs,hx,rs⟩:=Rep.lst' r1;show ZS X n0 base S1 W _ (if flats ys=true/\xs.length+ys.length<=lim then .ok (.nx (ρ.set i (some (.lst (xs++ys)))) os) s1 else .no)
   by_cases c2:flats ys=true/\xs.length+ys.length<=lim
   ·rw[if_pos c2]
    have ed:=X6 c2.1 rs;subst ed;have hm:method .extend (.loc n) [.loc k] S1=.ok .non (S1.set n (.lst (Y6 xs++Y6 ys))):=by
     show (if n=k then R.no else (ob (Zv S1 n) S1).bind λxs S=>(ob (Zv S k) S).bind λys S=>if xs.length+ys.length<=lim then R.ok D.non (S.set n (.lst (xs++ys))) else .no)=_
     rw[if_neg (λz:n=k=>hx (.inr ⟨i,by rw[<-z];exact hw⟩)),ZX a5]
     show R.bind (ob (Zv S1 k) S1) _=_;rw[ZX hs];show (if (Y6 xs).length+(Y6 ys).length<=lim then _ else _)=_
     rw[if_pos (by rw[Xf,Xf];exact c2.2)]
    rw[hm];have:=ZS.mutd (ys:=xs++ys) he1 w1 hw (Wd a2 c2.1);rw[Ww] at this;exact this
   ·rw[if_neg c2];exact True.intro
  |_=>exact True.intro
 ·rw[if_neg c];exact True.intro
theorem ux (H:Yj n0 C CV) (i:Nat) (k e:E) (he:EnvS S X n0 base W ρ os σ) (w:Dw n0 S s):ZS X n0 base S W ((ev C e σ S).bind λv S=>(ev C (.v i) σ S).bind λx S=>(ev C k σ S).bind λy S=>(setix x y v S).bind λ_ S=>.ok (.nx σ) S)
  (if os.contains i then (pv CV e ρ s).bind λv s=>if v.flat then (po (W7 ρ[i]?) s).bind λxs s=>(pv CV k ρ s).bind λy s=>match y with
   |.int n=>(po (ixN xs.length n) s).bind λj s=>.ok (.nx (ρ.set i (some (.lst (xs.set j v)))) os) s
   |_=>.no
  else .no else .no):=by
 by_cases c:os.contains i=true
 ·rw[if_pos c]
  obtain⟨n,xs,hw,a1,a2,a3,a4⟩:=he.at c;refine ZS.bindE (Ya H e he.xok he.all w) λd v S1 s1 x1 w1 r1=>?_
  have he1:=he.ext x1;have a5:=x1.keep n _ (he.ne hw) a4;by_cases c2:v.flat=true
  ·rw[if_pos c2]
   have e0:W7 ρ[i]? = some xs:=by rw[a1];rfl
   rw[e0,ev,a3];show ZS X n0 base S1 W ((ev C k σ S1).bind λy S=>(setix (.loc n) y d S).bind λ_ S=>.ok (.nx σ) S) ((pv CV k ρ s1).bind _)
   refine ZS.bindE (Ya H k he1.xok he1.all w1) λdk vk S2 s2 x2 w2 r2=>?_
   have he2:=he1.ext x2;have a6:=x2.keep n _ (he.ne hw) a5;cases vk with
   |int m=>
    cases Rep.int' r2;show ZS X n0 base S2 W ((setix (.loc n) (.int m) d S2).bind _) ((po (ixN xs.length m) s2).bind _);cases q:ixN xs.length m with
    |none=>exact True.intro
    |some j=>
     have hm:setix (.loc n) (.int m) d S2=.ok () (S2.set n (.lst ((Y6 xs).set j d))):=by
      show (match S2[n]? with
       |some (.lst xs)=>(ob (ixN xs.length m) S2).bind λj S=>R.ok () (S.set n (.lst (xs.set j d)))
       |_=>.no)=_
      rw[a6];show (ob (ixN (Y6 xs).length m) S2).bind _=_;rw[Xf,q];rfl
     rw[hm];have:=ZS.mutd (ys:=xs.set j v) he2 w2 hw (Q6 a2 c2);rw[J6] at this;rw[Wy c2 r1];exact this
   |_=>exact True.intro
  ·rw[if_neg c2];exact True.intro
 ·rw[if_neg c];exact True.intro
theorem xQ (H:Yj n0 C CV) (ms:List Nat) (i:Nat) (e:E) (he:EnvS S X n0 base W ρ os σ) (w:Dw n0 S s):ZS X n0 base S W ((ev C e σ S).bind λx S=>(ob (assign [i] x S σ) S).bind λσ S=>.ok (.nx σ) S)
  ((pvA CV e ρ os s).bind λv s=>if (ms.contains i&&fresh e)=true then match v with
   |.lst xs=>if flats xs=true/\i<ρ.length then .ok (.nx (ρ.set i (some v)) (i::os.filter (· != i))) s else .no
   |_=>.no
  else .ok (.nx (ρ.set i (some v)) (os.filter (· != i))) s):=by
 have hA:=Zam H e he w;cases q:pvA CV e ρ os s with
 |no=>exact True.intro
 |ex c s1=>rw[q] at hA;obtain⟨S1,e1,x1,w1⟩:=hA;rw[e1];exact⟨S1,rfl,x1.s,w1⟩
 |ok v s1=>
  rw[q] at hA;obtain⟨d,S1,e1,x1,w1,r1⟩:=hA;rw[e1];show ZS X n0 base S W (.ok (.nx (σ.set i (some d))) S1) (if (ms.contains i&&fresh e)=true then _ else _)
  by_cases c:(ms.contains i&&fresh e)=true
  ·rw[if_pos c]
   cases v with
   |lst xs=>
    show ZS X n0 base S W _ (if flats xs=true/\i<ρ.length then _ else _)
    by_cases c2:flats xs=true/\i<ρ.length
    ·rw[if_pos c2]
     obtain⟨c2,hi⟩:=c2;have hf:=((Bool.and_eq_true _ _).mp c).2;have fl:∃n,d=.loc n/\S.length<=n:=by
      cases os with
      |nil=>
       have hh:EnvE S (XW X W) n0 ρ σ:=⟨he.len,λi v q=>he.val i v q (he.noW i)⟩
       exact QE H hf he.xokW hh w q e1
      |cons o os=>
       have q':(match pv CV e (hide (o::os) ρ) s with
        |.ok v s=>.ok v s
        |.ex c s=>.ex c s
        |.no=>(pv CV e ρ s).bind λv s=>if v.flat then .ok v s else .no)=PR.ok (V.lst xs) s1:=q
       cases q3:pv CV e (hide (o::os) ρ) s with
       |ok v s2=>rw[q3] at q';cases q';exact QE H hf he.xokW he.hid w q3 e1
       |ex _ _=>rw[q3] at q';cases q'
       |no=>
        rw[q3] at q';obtain⟨v,s2,_,q5⟩:=Ys q';by_cases cf:v.flat=true
        ·rw[if_pos cf] at q5;cases q5;cases cf
        ·rw[if_neg cf] at q5;cases q5
     obtain⟨n,rfl,hn⟩:=fl;refine⟨_,S1,rfl,x1.s,w1,_,?_,he.take x1 hn c2 r1 hi⟩;intro j m z;by_cases cj:j=i
     ·simp only[cj,if_true] at z;cases z;exact .inr hn
     ·simp only[cj,if_false] at z;exact .inl ⟨j,z⟩
    ·rw[if_neg c2];exact True.intro
   |_=>exact True.intro
  ·rw[if_neg c]
   refine⟨_,S1,rfl,x1.s,w1,_,?_,(he.ext x1).drop r1⟩;intro j m z;by_cases cj:j=i
   ·simp only[cj,if_true] at z;cases z
   ·simp only[cj,if_false] at z;exact .inl ⟨j,z⟩
end
end Pv
namespace Pv
open Ev
section
variable {n0:Nat}{C:Calls}{CV:Z5}{X:Nat->Prop}{base:Nat}
theorem GW {wk:Walk}{S0:Store}{W0:Own}{body:D->Lc->Store->R Fl}{bodyV:V->Env->List Nat->DS->PR FlV}
  (hk:∀p∈wk.kept,S0[p.1]? = some (.lst p.2)/\¬XW X W0 p.1) (z0:X n0)
  (hb:∀x d S W ρ os σ s,EnvS S X n0 base W ρ os σ->Dw n0 S s->Rep S X n0 x d->ZS X n0 base S W (body d σ S) (bodyV x ρ os s)) :
  ∀(vs:List V) (ds:List D) (S:Store) (W:Own) (ρ:Env) (os:List Nat) (σ:Lc) (s:DS),Reps S0 (XW X W0) n0 vs ds->ExtS n0 W0 S0 S->WExt S0 W0 W->EnvS S X n0 base W ρ os σ->Dw n0 S s->ZS X n0 base S W (Vx wk body ds σ S) (Vc bodyV vs ρ os s)
 |[],ds,S,W,ρ,os,σ,s,rs,x,wx,he,w=>by
  rw[rs.nil',Vx,Vc,if_pos (Vp λp hp=>x.keep _ _ (λz=>(hk p hp).2 (.inl (z▸z0))) (λi z=>(hk p hp).2 (.inr ⟨i,z⟩)) (hk p hp).1)]
  exact ZS.nx w WExt.refl he
 |v::vs,ds,S,W,ρ,os,σ,s,rs,x,wx,he,w=>by
  obtain⟨d,ds,rfl,r1,r2⟩:=rs.cons';rw[Vx,Vc,if_pos (Vp λp hp=>x.keep _ _ (λz=>(hk p hp).2 (.inl (z▸z0))) (λi z=>(hk p hp).2 (.inr ⟨i,z⟩)) (hk p hp).1)]
  have r1':Rep S X n0 v d:=r1.mono (λn o nx hs=>x.keep n o (λz=>nx (.inl (z▸z0))) (λi z=>nx (.inr ⟨i,z⟩)) hs) λn _ z=>.inl z
  have h1:=hb v d S W ρ os σ s he w r1';cases q:bodyV v ρ os s with
  |no=>exact True.intro
  |ex c s1=>rw[q] at h1;obtain⟨S1,e,x1,w1⟩:=h1;rw[e];exact⟨S1,rfl,x1,w1⟩
  |ok f s1=>
   rw[q] at h1;obtain⟨g,S1,e,x1,w1,fr⟩:=h1;rw[e];cases f with
   |nx ρ1 os1=>cases g with
    |nx σ1=>
     obtain⟨W1,wx1,he1⟩:=fr;exact ZS.from x1 wx1 (GW hk z0 hb vs ds S1 W1 ρ1 os1 σ1 s1 r2 (x.trans wx x1) (wx.trans x.len wx1) he1 w1)
    |_=>exact fr.elim
   |cnt ρ1 os1=>cases g with
    |cnt σ1=>
     obtain⟨W1,wx1,he1⟩:=fr;exact ZS.from x1 wx1 (GW hk z0 hb vs ds S1 W1 ρ1 os1 σ1 s1 r2 (x.trans wx x1) (wx.trans x.len wx1) he1 w1)
    |_=>exact fr.elim
   |brk ρ1 os1=>cases g with
    |brk σ1=>exact⟨_,S1,rfl,x1,w1,fr⟩
    |_=>exact fr.elim
   |ret v1=>cases g with
    |ret d1=>exact⟨_,S1,rfl,x1,w1,fr⟩
    |_=>exact fr.elim
theorem Qp {test:Lc->Store->R Bool}{testV:Env->DS->PR Bool}{body:Lc->Store->R Fl}{bodyV:Env->List Nat->DS->PR FlV}
  (ht:∀S W ρ os σ s,EnvS S X n0 base W ρ os σ->Dw n0 S s->Sim n0 S RlE (test σ S) (testV ρ s))
  (hb:∀S W ρ os σ s,EnvS S X n0 base W ρ os σ->Dw n0 S s->ZS X n0 base S W (body σ S) (bodyV ρ os s)) :
  ∀(n:Nat) (S:Store) (W:Own) (ρ:Env) (os:List Nat) (σ:Lc) (s:DS),EnvS S X n0 base W ρ os σ->Dw n0 S s->ZS X n0 base S W (XD test body n σ S) (XY testV bodyV n ρ os s)
 |0,S,W,ρ,os,σ,s,he,w=>by rw[XY];exact True.intro
 |n+1,S,W,ρ,os,σ,s,he,w=>by
  rw[XD,XY];refine ZS.bindE (ht S W ρ os σ s he w) λb' b S1 s1 x1 w1 r1=>?_
  have r1:b'=b:=r1;subst r1;have he1:=he.ext x1;cases b' with
  |false=>exact ZS.nx w1 WExt.refl he1
  |true=>
   have h1:=hb S1 W ρ os σ s1 he1 w1;show ZS X n0 base S1 W (match body σ S1 with
    |.ok (.nx σ') S'=>XD test body n σ' S'
    |.ok (.cnt σ') S'=>XD test body n σ' S'
    |.ok (.brk σ') S'=>.ok (.nx σ') S'
    |.ok (.ret d) S'=>.ok (.ret d) S'
    |.ex c S'=>.ex c S'
    |.no=>.no) ((bodyV ρ os s1).bind _)
   cases q:bodyV ρ os s1 with
   |no=>exact True.intro
   |ex c s2=>rw[q] at h1;obtain⟨S2,e,x2,w2⟩:=h1;rw[e];exact⟨S2,rfl,x2,w2⟩
   |ok f s2=>
    rw[q] at h1;obtain⟨g,S2,e,x2,w2,fr⟩:=h1;rw[e];cases f with
    |nx ρ1 os1=>cases g with
     |nx σ1=>obtain⟨W1,wx1,he2⟩:=fr;exact ZS.from x2 wx1 (Qp ht hb n S2 W1 ρ1 os1 σ1 s2 he2 w2)
     |_=>exact fr.elim
    |cnt ρ1 os1=>cases g with
     |cnt σ1=>obtain⟨W1,wx1,he2⟩:=fr;exact ZS.from x2 wx1 (Qp ht hb n S2 W1 ρ1 os1 σ1 s2 he2 w2)
     |_=>exact fr.elim
    |brk ρ1 os1=>cases g with
     |brk σ1=>exact⟨_,S2,rfl,x2,w2,fr⟩
     |_=>exact fr.elim
    |ret v1=>cases g with
     |ret d1=>exact⟨_,S2,rfl,x2,w2,fr⟩
     |_=>exact fr.elim
mutual
theorem ZaM (H:Yj n0 C CV) (ms:List Nat):∀(m:Sm) {W:Own}{ρ:Env}{os:List Nat}{σ:Lc}{S:Store}{s:DS},EnvS S X n0 base W ρ os σ->Dw n0 S s->ZS X n0 base S W (run C m σ S) (rv CV ms m ρ os s)
 |.asg t e,W,ρ,os,σ,S,s,he,w=>by
  rw[run];have gen:∀t:List Nat,ZS X n0 base S W ((ev C e σ S).bind λx S=>(ob (assign t x S σ) S).bind λσ S=>.ok (.nx σ) S) ((pvA CV e ρ os s).bind λv s=>if (t.any os.contains)=true then .no else (po (ZI t v ρ) s).bind λρ s=>.ok (.nx ρ os) s):=by
   intro t;refine ZS.bindE (Zam H e he w) λd v S1 s1 x1 w1 r1=>?_
   by_cases c:(t.any os.contains)=true
   ·rw[if_pos c];exact True.intro
   ·rw[if_neg c]
    cases q:ZI t v ρ with
    |none=>exact True.intro
    |some ρ1=>
     obtain⟨σ1,e1,he1⟩:=(he.ext x1).assign (by simpa using c) r1 q
     rw[e1];exact ZS.nx w1 WExt.refl he1
  match t with
  |[i]=>exact xQ H ms i e he w
  |[]=>exact gen []
  |i::j::t=>exact gen (i::j::t)
 |.par t es,W,ρ,os,σ,S,s,he,w=>by
  rw[run,rv];refine ZS.bindE (Zas H es he w) λds vs S1 s1 x1 w1 r1=>?_
  by_cases c:(t.any os.contains)=true
  ·rw[if_pos c];exact True.intro
  ·rw[if_neg c]
   cases q:Xq t vs ρ with
   |none=>exact True.intro
   |some ρ1=>
    obtain⟨σ1,e1,he1⟩:=(he.ext x1).fill (by simpa using c) r1 q
    rw[e1];exact ZS.nx w1 WExt.refl he1
 |.aug i op e,W,ρ,os,σ,S,s,he,w=>by
  rw[run,rv];by_cases c:os.contains i=true
  ·rw[if_pos c];exact True.intro
  ·rw[if_neg c]
   cases q:(ρ[i]?).join with
   |none=>exact True.intro
   |some x=>
    have q':ρ[i]? = some (some x):=by
     cases q2:ρ[i]? with
     |none=>rw[q2] at q;cases q
     |some o=>rw[q2] at q;have q:o=some x:=q;rw[q]
    obtain⟨d,e1,r1⟩:=he.all.val i x q';rw[e1];show ZS X n0 base S W ((ev C e σ S).bind λy S=>(augop op d y S).bind λz S=>.ok (.nx (σ.set i (some z))) S) ((pv CV e ρ s).bind λy s=>(yS op x y s).bind λz s=>.ok (.nx (ρ.set i (some z)) os) s)
    refine ZS.bindE (Ya H e he.xok he.all w) λdy y S1 s1 x1 w1 r2=>?_
    have he1:=he.ext x1;have hs:=uq (op:=op) he1.xok w1 (r1.ext he.xok x1) r2;cases q3:yS op x y s1 with
    |no=>exact True.intro
    |ex c s2=>rw[q3] at hs;obtain⟨S2,e2,x2,w2⟩:=hs;rw[e2];exact⟨S2,rfl,x2.s,w2⟩
    |ok z s2=>
     rw[q3] at hs;obtain⟨dz,S2,e2,x2,w2,r3⟩:=hs;obtain⟨k,rfl⟩:=vI q3;cases Rep.int' r3;rw[e2];exact ZS.from x2.s WExt.refl (ZS.nx w2 WExt.refl ((he1.ext x2).set (by simpa using c) (ZF k)))
 |.put o k e,W,ρ,os,σ,S,s,he,w=>by
  rw[run];cases o with
  |v i=>exact ux H i k e he w
  |_=>exact True.intro
 |.dput _ _ _,W,ρ,os,σ,S,s,he,w=>by rw[rv];exact True.intro
 |.ret e,W,ρ,os,σ,S,s,he,w=>by
  rw[run,rv];exact ZS.bindE (Ya H e he.xok he.all w) λd v S1 s1 x1 w1 r1=>⟨_,S1,rfl,Ext.refl.s,w1,r1⟩
 |.ex e,W,ρ,os,σ,S,s,he,w=>by
  rw[run];cases e with
  |mt m o as=>
   have no:∀{q:PR FlV},q=(pv CV (.mt m o as) ρ s).bind (λ_ s=>.ok (.nx ρ os) s)->ZS X n0 base S W ((ev C (.mt m o as) σ S).bind λ_ S=>.ok (.nx σ) S) q:=λ{q} h=>by rw[h];exact u7 H _ he w
   cases m with
   |append=>cases o with
    |v i=>match as with
     |[e]=>exact zC H i e he w
     |[]=>exact no rfl
     |_::_::_=>exact no rfl
    |_=>exact no rfl
   |extend=>cases o with
    |v i=>match as with
     |[e]=>exact G4 H i e he w
     |[]=>exact no rfl
     |_::_::_=>exact no rfl
    |_=>exact no rfl
   |index=>exact no rfl
  |_=>exact u7 H _ he w
 |.ite t a b,W,ρ,os,σ,S,s,he,w=>by
  rw[run,rv];refine ZS.bindE (wn H t he w) λc' c S1 s1 x1 w1 r1=>?_
  have r1:c'=c:=r1;subst r1;cases c' with
  |true=>exact Qr H ms a (he.ext x1) w1
  |false=>exact Qr H ms b (he.ext x1) w1
 |.forr t it b,W,ρ,os,σ,S,s,he,w=>by
  rw[run,rv];refine ZS.bindE (yC H it he.xokW he.hid w) λwk vs S1 s1 x1 w1 r1=>?_
  have he1:=he.ext x1;refine GW (W0:=W) (S0:=S1) (λp hp=>r1.2 p hp) he.xz (λx d S W ρ os σ s he w r=>?_) vs wk.items S1 W ρ os σ s1 r1.1 Ext.refl.s WExt.refl he1 w1
  by_cases c:(t.any os.contains)=true
  ·rw[if_pos c];exact True.intro
  ·rw[if_neg c]
   by_cases c2:(os.isEmpty||x.flat)=true
   ·rw[if_pos c2]
    have r':Rep S (XW X W) n0 x d:=by
     rcases (Bool.or_eq_true _ _).mp c2 with c3 | c3
     ·have:os=[]:=by simpa using c3
      subst this;exact r.mono (λ_ _ _ z=>z) λn _ z=>z.elim id λ⟨i,z⟩=>by rw[he.noW i] at z;cases z
     ·rw[Wy c3 r];exact U8 c3
    cases q:ZI t x ρ with
    |none=>exact True.intro
    |some ρ1=>
     obtain⟨σ1,e1,he2⟩:=he.assign (by simpa using c) r' q
     rw[e1];exact Qr H ms b he2 w
   ·rw[if_neg c2];exact True.intro
 |.whl t b,W,ρ,os,σ,S,s,he,w=>by
  rw[run,rv];exact Qp (λS W ρ os σ s he w=>wn H t he w) (λS W ρ os σ s he w=>Qr H ms b he w) Vv S W ρ os σ s he w
 |.raise c as,W,ρ,os,σ,S,s,he,w=>by
  rw[run,rv];exact ZS.bindE (Wv H as he.xok he.all w) λd v S1 s1 x1 w1 r1=>⟨S1,rfl,Ext.refl.s,w1⟩
 |.pas,W,ρ,os,σ,S,s,he,w=>by rw[run,rv];exact ZS.nx w WExt.refl he
 |.brk,W,ρ,os,σ,S,s,he,w=>by rw[run,rv];exact⟨_,S,rfl,Ext.refl.s,w,W,WExt.refl,he⟩
 |.cnt,W,ρ,os,σ,S,s,he,w=>by rw[run,rv];exact⟨_,S,rfl,Ext.refl.s,w,W,WExt.refl,he⟩
theorem Qr (H:Yj n0 C CV) (ms:List Nat):∀(l:List Sm) {W:Own}{ρ:Env}{os:List Nat}{σ:Lc}{S:Store}{s:DS},EnvS S X n0 base W ρ os σ->Dw n0 S s->ZS X n0 base S W (runs C l σ S) (rvs CV ms l ρ os s)
 |[],W,ρ,os,σ,S,s,he,w=>by rw[runs,rvs];exact ZS.nx w WExt.refl he
 |m::l,W,ρ,os,σ,S,s,he,w=>by
  rw[runs,rvs];have h1:=ZaM H ms m he w;cases q:rv CV ms m ρ os s with
  |no=>exact True.intro
  |ex c s1=>rw[q] at h1;obtain⟨S1,e,x1,w1⟩:=h1;rw[e];exact⟨S1,rfl,x1,w1⟩
  |ok f s1=>
   rw[q] at h1;obtain⟨g,S1,e,x1,w1,fr⟩:=h1;rw[e];cases f with
   |nx ρ1 os1=>cases g with
    |nx σ1=>obtain⟨W1,wx1,he1⟩:=fr;exact ZS.from x1 wx1 (Qr H ms l he1 w1)
    |_=>exact fr.elim
   |cnt ρ1 os1=>cases g with
    |cnt σ1=>exact⟨_,S1,rfl,x1,w1,fr⟩
    |_=>exact fr.elim
   |brk ρ1 os1=>cases g with
    |brk σ1=>exact⟨_,S1,rfl,x1,w1,fr⟩
    |_=>exact fr.elim
   |ret v1=>cases g with
    |ret d1=>exact⟨_,S1,rfl,x1,w1,fr⟩
    |_=>exact fr.elim
end
end
noncomputable def takeFn:Fn:=⟨2,4,
 [.ite (.ix (.v 0) (.c (.int 1))) [.asg [2] (.bin .mod (.ix (.v 0) (.c (.int 0))) (.v 1)),
  .put (.v 0) (.c (.int 0)) (.bin .fdiv (.ix (.v 0) (.c (.int 0))) (.v 1)),
  .ret (.v 2)] [],
  .put (.v 0) (.c (.int 0)) (.bin .mod (.bin .add (.bin .mul (.ix (.v 0) (.c (.int 0))) (.c (.int 48271))) (.c (.int 29))) (.c (.int 2147483647))),
  .asg [3] (.bin .mod (.bin .add (.bin .add (.bin .mul (.ix (.v 0) (.c (.int 0))) (.ix (.v 0) (.c (.int 0)))) (.bin .mul (.c (.int 39373)) (.ix (.v 0) (.c (.int 0))))) (.c (.int 7))) (.c (.int 2147483629))),
  .asg [3] (.bin .mod (.bin .add (.bin .mul (.v 3) (.v 3)) (.bin .mul (.c (.int 16807)) (.v 3))) (.c (.int 2147483587))),
  .ret (.bin .mod (.bin .fdiv (.v 3) (.c (.int 8))) (.v 1))]⟩
theorem WW {a:Int}(h0:0<=a) (h:a<4294967296):fits a=true:=by
 unfold fits;refine decide_eq_true ?_;have h1:a.natAbs<2^32:=by omega
 exact Nat.lt_of_lt_of_le h1 (Nat.pow_le_pow_right (by decide) (by decide))
theorem evT:(∀a b S,binop .add (.int a) (.int b) S=.ok (.int (a+b)) S)/\(∀a b S,binop .mul (.int a) (.int b) S=if (fits a&&fits b)=true then .ok (.int (a*b)) S else .no)/\(∀a b S,binop .fdiv (.int a) (.int b) S=if 0<b/\b<1073741824 then .ok (.int (a / b)) S else .no)/\(∀a b S,binop .mod (.int a) (.int b) S=if 0<b then .ok (.int (a%b)) S else .no)/\(∀S b,truth S (.bl b)=some b)/\(∀i x S σ,assign [i] x S σ=some (σ.set i (some x))):=
 ⟨λ_ _ _=>rfl,λ_ _ _=>rfl,λ_ _ _=>rfl,λ_ _ _=>rfl,λ_ _=>rfl,λ_ _ _ _=>rfl⟩
theorem UC {S:Store}{n:Nat}{i:Int}{xs:List D}(h:S[n]? = some (.lst xs)):getix (.loc n) (.int i) S=ob (at' xs i) S:=by
 have e:Yu S n=some xs:=by unfold Yu;rw[h]
 show (match Yu S n with | some xs=>ob (at' xs i) S | none=>.no)=_
 rw[e]
theorem yz {S:Store}{n:Nat}{i:Int}{v:D}{xs:List D}(h:S[n]? = some (.lst xs)):setix (.loc n) (.int i) v S=(ob (ixN xs.length i) S).bind λj S=>.ok () (S.set n (.lst (xs.set j v))):=by
 show (match S[n]? with | some (.lst xs)=>(ob (ixN xs.length i) S).bind λj S=>.ok () (S.set n (.lst (xs.set j v))) | _=>.no)=_
 rw[h]
theorem take_ok {F:List Fn}{tk d:Nat}{n0:Nat}{S:Store}{s:DS}{m:Int}(hF:F[tk]? = some takeFn) (h:Dw n0 S s) (m0:0<m) (m1:m<1073741824) :
  ∃S',calls F (d+1) tk [.loc n0,.int m] S=.ok (.int (takeF s m).1) S'/\Ext n0 S S'/\Dw n0 S' (takeF s m).2:=by
 obtain⟨a,b⟩:=s;obtain⟨hs,ha,hb⟩:=h;simp only at hs ha hb;have hn:=XU hs;have hx:∀o,Ext n0 S (S.set n0 o):=λo=>⟨by simp,λn o' z e=>by rw[List.getElem?_set_ne (Ne.symm z)];exact e⟩
 have hset:∀o,(S.set n0 o)[n0]? = some o:=λo=>List.getElem?_set_self hn
 rw[calls,hF];cases b with
 |true=>
  refine⟨S.set n0 (.lst [.int (a / m),.bl true]),?_,hx _,hset _,?_,by simp[takeF]⟩
  ·simp[takeFn,takeF,Ev.runs,Ev.run,Ev.ev.eq_1,Ev.ev.eq_2,Ev.ev.eq_7,Ev.ev.eq_15,Ev.tst,Ev.R.bind,Ev.ob,evT,Ev.start,UC hs,yz hs,UC (hset _),hs,at',ixN,m0,m1]
  ·simp only[takeF,if_true]
   exact Int.ediv_nonneg ha (by omega)
 |false=>
  have hb:=hb rfl;have h1:=WW ha (by omega)
  have x0:0<=(a*48271+29)%2147483647:=by omega
  have x1:(a*48271+29)%2147483647<2147483647:=by omega
  generalize hxx:(a*48271+29)%2147483647=x at x0 x1;have y0:0<=(x*x+39373*x+7)%2147483629:=by omega
  have y1:(x*x+39373*x+7)%2147483629<2147483629:=by omega
  generalize hyy:(x*x+39373*x+7)%2147483629=y at y0 y1;refine⟨S.set n0 (.lst [.int x,.bl false]),?_,hx _,by simp only[takeF,Bool.false_eq_true,if_false,hxx];exact hset _,by simp only[takeF,Bool.false_eq_true,if_false,hxx];exact x0,by simp only[takeF,Bool.false_eq_true,if_false,hxx];exact λ_=>x1⟩
  have f1:=WW x0 (by omega)
  have f2:=WW y0 (by omega)
  have f3:fits 48271=true:=WW (by omega) (by omega)
  have f4:fits 39373=true:=WW (by omega) (by omega)
  have f5:fits 16807=true:=WW (by omega) (by omega)
  clear hn;simp[takeFn,takeF,Ev.runs,Ev.run,Ev.ev.eq_1,Ev.ev.eq_2,Ev.ev.eq_7,Ev.ev.eq_15,Ev.tst,Ev.R.bind,Ev.ob,evT,Ev.start,UC hs,yz hs,UC (hset _),hs,at',ixN,m0,m1,h1,hxx,hyy,f1,f2,f3,f4,f5,hset]
theorem xS {S:Store}{X:Nat->Prop}{n0:Nat}{vs:List V}{ds:List D}(n:Nat) (xo:Xok X n0 S) (rs:Reps S X n0 vs ds):EnvS S X n0 S.length (λ_=>none) (Zp n vs) [] (start n ds):=by
 refine⟨xo.z,xo.lt,Nat.le_refl _,by unfold Zp start;simp[rs.length],λi=>rfl,λi j n h=>(by cases h),λi n h=>(by cases h),λi n h=>(by cases h),λi v e _=>?_⟩
 unfold Zp at e;unfold start;by_cases c:i<vs.length
 ·rw[List.getElem?_append_left (by simpa using c),List.getElem?_map] at e
  rw[List.getElem?_append_left (by simpa [rs.length] using c),List.getElem?_map]
  cases q:vs[i]? with
  |none=>rw[q] at e;cases e
  |some u=>
   rw[q] at e;have e:some u=some v:=Option.some.inj e;cases e;obtain⟨d,a,b⟩:=rs.get q;rw[a];exact⟨d,rfl,b.mono (λ_ _ _ z=>z) λn _ z=>z.elim id λ⟨_,z⟩=>by cases z⟩
 ·rw[List.getElem?_append_right (by simpa using Nat.le_of_not_lt c),List.getElem?_replicate] at e
  split at e <;> cases e
theorem Go {F:List Fn}{tk n0:Nat}(hF:F[tk]? = some takeFn):∀d,Yj n0 (calls F d) (Yh F tk d)
 |0,f,vs,ds,S,s,X,xo,w,rs=>by rw[Yh];exact True.intro
 |d+1,f,vs,ds,S,s,X,xo,w,rs=>by
  rw[Yh];by_cases c:f=tk
  ·rw[if_pos c]
   subst c
   match vs,rs with
   |[.drw,.int m],rs=>
    show Sim n0 S (RlV X n0) _ (if 0<m/\m<1073741824 then .ok (.int (takeF s m).1) (takeF s m).2 else .no)
    by_cases c2:0<m/\m<1073741824
    ·rw[if_pos c2]
     obtain⟨d1,es,rfl,r1,r2⟩:=rs.cons';obtain⟨d2,es2,rfl,r3,r4⟩:=r2.cons';cases r4.nil';cases r1.drw';cases r3.int';obtain⟨S',e,x,w'⟩:=take_ok (d:=d) hF w c2.1 c2.2;exact⟨_,S',e,x,w',ZF _⟩
    ·rw[if_neg c2];exact True.intro
   |[],_=>exact True.intro
   |[_],_=>unfold takeV;split <;> first | exact True.intro | (rename_i h;cases h)
   |a::b::c::l,_=>unfold takeV;split <;> first | exact True.intro | (rename_i h;cases h)
   |[.non,_],_ | [.bl _,_],_ | [.int _,_],_ | [.str _,_],_ | [.tup _,_],_ | [.lst _,_],_=>exact True.intro
   |[.drw,.non],_ | [.drw,.bl _],_ | [.drw,.str _],_ | [.drw,.tup _],_ | [.drw,.lst _],_ | [.drw,.drw],_=>exact True.intro
  ·rw[if_neg c,calls]
   cases q:F[f]? with
   |none=>exact True.intro
   |some fn=>
    show Sim n0 S (RlV X n0) (if ds.length=fn.ps then _ else .no) (if vs.length=fn.ps then _ else .no)
    rw[rs.length];refine Sim.guard λ_=>?_
    have h1:=Qr (Go (n0:=n0) hF d) (muts fn.body) fn.body (xS fn.ns xo rs) w;have ex:∀{S':Store},ExtS n0 (λ_=>none) S S'->Ext n0 S S':=λ{S'} x=>⟨x.len,λn o a b=>x.keep n o a (λi z=>by cases z) b⟩
    cases q2:rvs (Yh F tk d) (muts fn.body) fn.body (Zp fn.ns vs) [] s with
    |no=>exact True.intro
    |ex c s1=>rw[q2] at h1;obtain⟨S1,e,x1,w1⟩:=h1;rw[e];exact⟨S1,rfl,ex x1,w1⟩
    |ok g s1=>
     rw[q2] at h1;obtain⟨g',S1,e,x1,w1,fr⟩:=h1;rw[e];cases g with
     |nx ρ1 os1=>cases g' with
      |nx σ1=>exact⟨.non,S1,rfl,ex x1,w1,Ut⟩
      |_=>exact fr.elim
     |ret v1=>cases g' with
      |ret d1=>exact⟨d1,S1,rfl,ex x1,w1,fr⟩
      |_=>exact fr.elim
     |brk _ _=>exact True.intro
     |cnt _ _=>exact True.intro
end Pv
namespace La
variable {F:Type}[Lean.Grind.CommRing F]
noncomputable abbrev Vec (F:Type):=Nat->F
noncomputable abbrev Pt (F:Type):=List (Nat×Vec F)
noncomputable def pr:Pt F->Vec F->Vec F
 |[],_,_=>0
 |a::P,v,j=>v a.1*a.2 j+pr P v j
structure Rf (P:Pt F):Prop where
 inc:P.Pairwise λa b=>a.1<b.1
 low:∀a∈P,∀j,j<a.1->a.2 j=0
 one:∀a∈P,a.2 a.1=1
 zer:∀a∈P,∀b∈P,a.1≠b.1->b.2 a.1=0
noncomputable def Mem (P:Pt F) (v:Vec F):Prop:=∀j,v j=pr P v j
theorem jy (P:Pt F) (u v:Vec F) (c:F) (j:Nat):pr P (λj=>u j+c*v j) j=pr P u j+c*pr P v j:=by
 induction P with
 |nil=>show (0:F)=0+c*0;grind
 |cons a P ih=>show (u a.1+c*v a.1)*a.2 j+pr P _ j=(u a.1*a.2 j+pr P u j)+c*(v a.1*a.2 j+pr P v j);grind
theorem VG (P:Pt F) (u v:Vec F) (c:F) (j:Nat):pr P (λj=>u j-c*v j) j=pr P u j-c*pr P v j:=by
 induction P with
 |nil=>show (0:F)=0-c*0;grind
 |cons a P ih=>show (u a.1-c*v a.1)*a.2 j+pr P _ j=(u a.1*a.2 j+pr P u j)-c*(v a.1*a.2 j+pr P v j);grind
theorem vE {P:Pt F}{u v:Vec F}(h:∀b∈P,u b.1=v b.1) (j:Nat):pr P u j=pr P v j:=by
 induction P with
 |nil=>rfl
 |cons a P ih=>
  show u a.1*a.2 j+pr P u j=v a.1*a.2 j+pr P v j;rw[h a (List.mem_cons_self ..),ih λb hb=>h b (List.mem_cons_of_mem _ hb)]
theorem Xr {P:Pt F}{v:Vec F}{j:Nat}(h:∀b∈P,v b.1*b.2 j=0):pr P v j=0:=by
 induction P with
 |nil=>rfl
 |cons a P ih=>
  show v a.1*a.2 j+pr P v j=0;rw[h a (List.mem_cons_self ..),ih λb hb=>h b (List.mem_cons_of_mem _ hb)];grind
theorem yg {P:Pt F}{v:Vec F}{j:Nat}{a:Nat×Vec F}(inc:P.Pairwise λa b=>a.1<b.1) (ha:a∈P) (h:∀b∈P,b.1≠a.1->v b.1*b.2 j=0):pr P v j=v a.1*a.2 j:=by
 induction P with
 |nil=>cases ha
 |cons b P ih=>
  rw[List.pairwise_cons] at inc;show v b.1*b.2 j+pr P v j=_;rcases List.mem_cons.mp ha with e | hm
  ·subst e
   rw[Xr λc hc=>h c (List.mem_cons_of_mem _ hc) (by have:=inc.1 c hc;omega)];grind
  ·rw[ih inc.2 hm λc hc=>h c (List.mem_cons_of_mem _ hc),h b (List.mem_cons_self ..) (by have:=inc.1 a hm;omega)];grind
theorem Rf.tail {a:Nat×Vec F}{P:Pt F}(h:Rf (a::P)):Rf P:=
 ⟨(List.pairwise_cons.mp h.inc).2,λb hb=>h.low b (List.mem_cons_of_mem _ hb),λb hb=>h.one b (List.mem_cons_of_mem _ hb),λb hb c hc=>h.zer b (List.mem_cons_of_mem _ hb) c (List.mem_cons_of_mem _ hc)⟩
theorem Rf.nil:Rf ([]:Pt F):=⟨List.Pairwise.nil,λ_ h=>(by cases h),λ_ h=>(by cases h),λ_ h=>(by cases h)⟩
theorem Jj {P:Pt F}(h:Rf P) {a:Nat×Vec F}(ha:a∈P) (v:Vec F):pr P v a.1=v a.1:=by
 rw[yg h.inc ha λb hb ne=>by rw[h.zer a ha b hb (Ne.symm ne)];grind,h.one a ha];grind
theorem Xt {P:Pt F}(h:Rf P) {a:Nat×Vec F}(ha:a∈P):Mem P a.2:=λj=>by
 rw[yg h.inc ha λb hb ne=>by rw[h.zer b hb a ha ne];grind,h.one a ha];grind
theorem Xw {P:Pt F}{u v:Vec F}(c:F) (hu:Mem P u) (hv:Mem P v):Mem P λj=>u j+c*v j:=λj=>by
 show u j+c*v j=_;rw[jy,<-hu j,<-hv j]
theorem X7 {P:Pt F}{u v:Vec F}(c:F) (hu:Mem P u) (hv:Mem P v):Mem P λj=>u j-c*v j:=λj=>by
 show u j-c*v j=_;rw[VG,<-hu j,<-hv j]
theorem XJ {P:Pt F}:Mem P λ_=>0:=λj=>(Xr λb _=>by grind).symm
theorem G6 {P:Pt F}(h:Rf P) (v:Vec F):Mem P (pr P v):=λj=>vE (λb hb=>(Jj h hb v).symm) j
theorem GK {P:Pt F}{v:Vec F}(h:Mem P v) (z:∀b∈P,v b.1=0) (j:Nat):v j=0:=by
 rw[h j];exact Xr λb hb=>by rw[z b hb];grind
theorem GI {P:Pt F}(h:Rf P) {v:Vec F}(hv:Mem P v) {k:Nat}(hk:v k≠0) (hl:∀j,j<k->v j=0):∃a∈P,a.1=k:=by
 have inc:=h.inc;have low:=h.low;have gen:∀Q:Pt F,Q.Pairwise (λa b=>a.1<b.1)->(∀a∈Q,∀j,j<a.1->a.2 j=0)->(∀j,v j=pr Q v j)->∃a∈Q,v a.1≠0/\∀j,j<a.1->v j=0:=by
  intro Q
  induction Q with
  |nil=>intro _ _ e;exact absurd (e k) hk
  |cons a Q ih=>
   intro inc low e;rw[List.pairwise_cons] at inc;by_cases c:v a.1=0
   ·obtain⟨b,hb,r⟩:=ih inc.2 (λb hb=>low b (List.mem_cons_of_mem _ hb)) λj=>by
     have:v j=v a.1*a.2 j+pr Q v j:=e j;rw[c] at this;grind
    exact⟨b,List.mem_cons_of_mem _ hb,r⟩
   ·refine⟨a,List.mem_cons_self ..,c,λj hj=>?_⟩
    have e1:v j=v a.1*a.2 j+pr Q v j:=e j;have e2:pr Q v j=0:=Xr λb hb=>by rw[low b (List.mem_cons_of_mem _ hb) j (by have:=inc.1 b hb;omega)];grind
    rw[e1,e2,low a (List.mem_cons_self ..) j hj];grind
 obtain⟨a,ha,h1,h2⟩:=gen P inc low hv;refine⟨a,ha,?_⟩;by_cases c:a.1<k
 ·exact absurd (hl _ c) h1
 ·by_cases c2:k<a.1
  ·exact absurd (h2 _ c2) hk
  ·omega
theorem V1 {P Q:Pt F}(one0:(1:F)≠0) (hP:Rf P) (hQ:Rf Q) (h:∀v,Mem P v->Mem Q v):∀a∈P,∃b∈Q,b.1=a.1:=λa ha=>
 GI hQ (h _ (Xt hP ha)) (by rw[hP.one a ha];exact one0) (hP.low a ha)
theorem zd:∀{a b:List Nat},a.Pairwise (· < ·)->b.Pairwise (· < ·)->(∀x,x∈a↔x∈b)->a=b
 |[],[],_,_,_=>rfl
 |[],y::b,_,_,h=>by have:=(h y).mpr (List.mem_cons_self ..);cases this
 |x::a,[],_,_,h=>by have:=(h x).mp (List.mem_cons_self ..);cases this
 |x::a,y::b,ha,hb,h=>by
  rw[List.pairwise_cons] at ha hb;have e:x=y:=by
   rcases List.mem_cons.mp ((h x).mp (List.mem_cons_self ..)) with e | e
   ·exact e
   ·rcases List.mem_cons.mp ((h y).mpr (List.mem_cons_self ..)) with e' | e'
    ·exact e'.symm
    ·have:=hb.1 x e;have:=ha.1 y e';omega
  subst e;rw[zd ha.2 hb.2 λz=>?_]
  constructor
  ·intro hz
   rcases List.mem_cons.mp ((h z).mp (List.mem_cons_of_mem _ hz)) with e | e
   ·have:=ha.1 z hz;omega
   ·exact e
  ·intro hz
   rcases List.mem_cons.mp ((h z).mpr (List.mem_cons_of_mem _ hz)) with e | e
   ·have:=hb.1 z hz;omega
   ·exact e
theorem JM:∀{a b:List Nat},a.Pairwise (· < ·)->b.Pairwise (· < ·)->(∀x∈a,x∈b)->a.length<=b.length/\(a.length=b.length->a=b)
 |[],b,_,_,_=>⟨Nat.zero_le _,λe=>(List.length_eq_zero_iff.mp e.symm).symm⟩
 |x::a,[],_,_,h=>by have:=h x (List.mem_cons_self ..);cases this
 |x::a,y::b,ha,hb,h=>by
  have ha':=ha;rw[List.pairwise_cons] at ha hb;by_cases e:x=y
  ·subst e
   obtain⟨h1,h2⟩:=JM ha.2 hb.2 λz hz=>by
    rcases List.mem_cons.mp (h z (List.mem_cons_of_mem _ hz)) with e | e
    ·have:=ha.1 z hz;omega
    ·exact e
   refine⟨by simp only[List.length_cons];omega,λe=>?_⟩
   rw[h2 (by simpa using e)]
  ·have hxb:x∈b:=by
    rcases List.mem_cons.mp (h x (List.mem_cons_self ..)) with e' | e'
    ·exact absurd e' e
    ·exact e'
   have:=hb.1 x hxb;obtain⟨h1,h2⟩:=JM ha' hb.2 λz hz=>by
    rcases List.mem_cons.mp (h z hz) with e' | e'
    ·rcases List.mem_cons.mp hz with e2 | e2
     ·omega
     ·have:=ha.1 z e2;omega
    ·exact e'
   simp only[List.length_cons] at h1 ⊢;exact⟨by omega,λe=>by omega⟩
theorem Rf.heads {P:Pt F}(h:Rf P):(P.map (·.1)).Pairwise (· < ·):=List.pairwise_map.mpr h.inc
theorem vf {P Q:Pt F}(one0:(1:F)≠0) (hP:Rf P) (hQ:Rf Q) (h:∀v,Mem P v->Mem Q v):P.length<=Q.length/\(P.length=Q.length->∀v,Mem Q v->Mem P v):=by
 obtain⟨h1,h2⟩:=JM hP.heads hQ.heads λx hx=>by
  obtain⟨a,ha,rfl⟩:=List.mem_map.mp hx;obtain⟨b,hb,e⟩:=V1 one0 hP hQ h a ha;exact List.mem_map.mpr ⟨b,hb,e⟩
 rw[List.length_map,List.length_map] at h1 h2;refine⟨h1,λe v hv=>?_⟩
 have eh:=h2 e;have hd:Mem Q λj=>v j-1*pr P v j:=X7 1 hv (h _ (G6 hP v))
 have z:∀j,v j-1*pr P v j=0:=λj=>GK hd (λb hb=>by
  have:b.1∈P.map (·.1):=by rw[eh];exact List.mem_map.mpr ⟨b,hb,rfl⟩
  obtain⟨a,ha,ea⟩:=List.mem_map.mp this;show v b.1-1*pr P v b.1=0;rw[<-ea,Jj hP ha v];grind) j
 intro j;have:=z j
 grind
theorem uniq {P Q:Pt F}(one0:(1:F)≠0) (hP:Rf P) (hQ:Rf Q) (h:∀v,Mem P v↔Mem Q v):P=Q:=by
 have eh:P.map (·.1)=Q.map (·.1):=zd hP.heads hQ.heads λx=>by
  constructor
  ·intro hx
   obtain⟨a,ha,rfl⟩:=List.mem_map.mp hx;obtain⟨b,hb,e⟩:=V1 one0 hP hQ (λv=>(h v).mp) a ha
   exact List.mem_map.mpr ⟨b,hb,e⟩
  ·intro hx
   obtain⟨a,ha,rfl⟩:=List.mem_map.mp hx;obtain⟨b,hb,e⟩:=V1 one0 hQ hP (λv=>(h v).mpr) a ha
   exact List.mem_map.mpr ⟨b,hb,e⟩
 have ev:∀a∈P,∀b∈Q,a.1=b.1->a.2=b.2:=by
  intro a ha b hb e;have hd:Mem P λj=>a.2 j-1*b.2 j:=X7 1 (Xt hP ha) ((h _).mpr (Xt hQ hb))
  funext j
  have:=GK hd (λc hc=>by
   show a.2 c.1-1*b.2 c.1=0;have:c.1∈Q.map (·.1):=by rw[<-eh];exact List.mem_map.mpr ⟨c,hc,rfl⟩
   obtain⟨c',hc',ec⟩:=List.mem_map.mp this;by_cases z:c.1=a.1
   ·rw[z,hP.one a ha,e,hQ.one b hb];grind
   ·rw[hP.zer c hc a ha z,<-ec,hQ.zer c' hc' b hb (by omega)];grind) j
  grind
 clear h hP hQ
 induction P generalizing Q with
 |nil=>cases Q with
  |nil=>rfl
  |cons b Q=>cases eh
 |cons a P ih=>cases Q with
  |nil=>cases eh
  |cons b Q=>
   rw[List.map_cons,List.map_cons] at eh;injection eh with e1 e2
   have e3:=ev a (List.mem_cons_self ..) b (List.mem_cons_self ..) e1;rw[ih e2 λx hx y hy=>ev x (List.mem_cons_of_mem _ hx) y (List.mem_cons_of_mem _ hy)]
   rw[show a=b from Prod.ext e1 e3]
noncomputable def ins (x:Nat×Vec F):Pt F->Pt F
 |[]=>[x]
 |y::P=>if x.1<y.1 then x::y::P else y::ins x P
theorem Xh (x:Nat×Vec F):∀P:Pt F,(ins x P).Perm (x::P)
 |[]=>List.Perm.refl _
 |y::P=>by
  unfold ins;split
  ·exact List.Perm.refl _
  ·exact ((Xh x P).cons y).trans (List.Perm.swap x y P)
theorem zX (x:Nat×Vec F):∀{P:Pt F},P.Pairwise (λa b=>a.1<b.1)->(∀a∈P,a.1≠x.1)->(ins x P).Pairwise λa b=>a.1<b.1
 |[],_,_=>by unfold ins;exact List.pairwise_singleton ..
 |y::P,h,hn=>by
  have h':=List.pairwise_cons.mp h;unfold ins;split
  ·rename_i c
   refine List.pairwise_cons.mpr ⟨λz hz=>?_,h⟩
   rcases List.mem_cons.mp hz with rfl | hz
   ·exact c
   ·have:=h'.1 z hz;omega
  ·rename_i c
   refine List.pairwise_cons.mpr ⟨λz hz=>?_,zX x h'.2 λa ha=>hn a (List.mem_cons_of_mem _ ha)⟩
   rcases List.mem_cons.mp ((Xh x P).mem_iff.mp hz) with rfl | hz
   ·have:=hn y (List.mem_cons_self ..);omega
   ·exact h'.1 z hz
theorem wa (x:Nat×Vec F) (v:Vec F) (j:Nat):∀P:Pt F,pr (ins x P) v j=v x.1*x.2 j+pr P v j
 |[]=>rfl
 |y::P=>by
  unfold ins;split
  ·rfl
  ·show v y.1*y.2 j+pr (ins x P) v j=v x.1*x.2 j+(v y.1*y.2 j+pr P v j)
   rw[wa x v j P];grind
noncomputable def off (h:Nat) (l:Vec F) (a:Nat×Vec F):Nat×Vec F:=(a.1,λj=>a.2 j-a.2 h*l j)
noncomputable def wid (P:Pt F) (h:Nat) (l:Vec F):Pt F:=ins (h,l) (P.map (off h l))
theorem wC (h:Nat) (l v:Vec F) (j:Nat):∀P:Pt F,pr (P.map (off h l)) v j=pr P v j-pr P v h*l j
 |[]=>by show (0:F)=0-0*l j;grind
 |a::P=>by
  show v a.1*(a.2 j-a.2 h*l j)+pr (P.map (off h l)) v j=(v a.1*a.2 j+pr P v j)-(v a.1*a.2 h+pr P v h)*l j;rw[wC h l v j P];grind
structure Lead (P:Pt F) (h:Nat) (l:Vec F):Prop where
 one:l h=1
 low:∀j,j<h->l j=0
 zer:∀a∈P,l a.1=0
theorem Lead.ne {P:Pt F}{h:Nat}{l:Vec F}(one0:(1:F)≠0) (L:Lead P h l) {a:Nat×Vec F}(ha:a∈P):a.1≠h:=λe=>by
 have:=L.zer a ha;rw[e,L.one] at this;exact one0 this
theorem x8 {P:Pt F}{h:Nat}{l:Vec F}(one0:(1:F)≠0) (hP:Rf P) (L:Lead P h l):Rf (wid P h l):=by
 have mem:∀{x},x∈wid P h l->x=(h,l)\/∃a∈P,x=off h l a:=λ{x} hx=>by
  rcases List.mem_cons.mp ((Xh _ _).mem_iff.mp hx) with e | e
  ·exact .inl e
  ·obtain⟨a,ha,e⟩:=List.mem_map.mp e
   exact .inr ⟨a,ha,e.symm⟩
 refine⟨zX _ ?_ ?_,λx hx j hj=>?_,λx hx=>?_,λx hx y hy ne=>?_⟩
 ·exact List.pairwise_map.mpr hP.inc
 ·intro a ha
  obtain⟨b,hb,rfl⟩:=List.mem_map.mp ha;exact L.ne (a:=b) one0 hb
 ·rcases mem hx with rfl | ⟨a,ha,rfl⟩
  ·exact L.low j hj
  ·show a.2 j-a.2 h*l j=0
   rw[hP.low a ha j hj];by_cases c:h<a.1
   ·rw[hP.low a ha h c];grind
   ·have:j<a.1:=hj
    rw[L.low j (by have:=L.ne one0 ha;omega)];grind
 ·rcases mem hx with rfl | ⟨a,ha,rfl⟩
  ·exact L.one
  ·show a.2 a.1-a.2 h*l a.1=1
   rw[hP.one a ha,L.zer a ha];grind
 ·rcases mem hx with rfl | ⟨a,ha,rfl⟩
  ·rcases mem hy with rfl | ⟨b,hb,rfl⟩
   ·exact absurd rfl ne
   ·show b.2 h-b.2 h*l h=0
    rw[L.one];grind
  ·rcases mem hy with rfl | ⟨b,hb,rfl⟩
   ·exact L.zer a ha
   ·show b.2 a.1-b.2 h*l a.1=0
    rw[hP.zer a ha b hb ne,L.zer a ha];grind
theorem uA (P:Pt F) (h:Nat) (l:Vec F):(wid P h l).length=P.length+1:=by
 have:=(Xh (h,l) (P.map (off h l))).length_eq;rw[List.length_cons,List.length_map] at this;exact this
theorem uC {P:Pt F}{h:Nat}{l:Vec F}(hP:Rf P) (L:Lead P h l) (u:Vec F):Mem (wid P h l) u↔∃c,Mem P λj=>u j-c*l j:=by
 have e:∀j,pr (wid P h l) u j=u h*l j+(pr P u j-pr P u h*l j):=λj=>by
  unfold wid;rw[wa,wC]
 have pl:∀j,pr P l j=0:=λj=>Xr λb hb=>by rw[L.zer b hb];grind
 constructor
 ·intro hu
  refine⟨u h-pr P u h,λj=>?_⟩
  rw[VG,pl];have:=hu j;rw[e j] at this;show u j-(u h-pr P u h)*l j=_
  grind
 ·rintro ⟨c,hc⟩ j
  rw[e j];have h1:u j-c*l j=_:=hc j;have h2:u h-c*l h=_:=hc h;rw[VG,pl] at h1 h2;rw[L.one] at h2
  grind
noncomputable def rest (P:Pt F) (v:Vec F):Vec F:=λj=>v j-pr P v j
theorem vy {P:Pt F}(hP:Rf P) (v:Vec F) {a:Nat×Vec F}(ha:a∈P):rest P v a.1=0:=by
 unfold rest;rw[Jj hP ha];grind
theorem U4 {P:Pt F}{v:Vec F}:(∀j,rest P v j=0)↔Mem P v:=by
 constructor
 ·intro h j;have:=h j;unfold rest at this;grind
 ·intro h j;have:=h j;unfold rest;grind
theorem zL {P:Pt F}(hP:Rf P) {v:Vec F}{h:Nat}{i:F}(hi:i*rest P v h=1) (hl:∀j,j<h->rest P v j=0):Lead P h λj=>i*rest P v j:=
 ⟨hi,λj hj=>by show i*rest P v j=0;rw[hl j hj];grind,λa ha=>by show i*rest P v a.1=0;rw[vy hP v ha];grind⟩
theorem xR {P:Pt F}(hP:Rf P) {v:Vec F}{h:Nat}{i:F}(hi:i*rest P v h=1) (hl:∀j,j<h->rest P v j=0) (u:Vec F) :
  Mem (wid P h λj=>i*rest P v j) u↔∃c,Mem P λj=>u j-c*v j:=by
 rw[uC hP (zL hP hi hl)]
 constructor
 ·rintro ⟨c,hc⟩
  refine⟨c*i,?_⟩;have:=X7 (c*i) hc (G6 hP v);have e:(λj=>(u j-c*(i*rest P v j))-c*i*pr P v j)=λj=>u j-c*i*v j:=by funext j;unfold rest;grind
  rw[e] at this;exact this
 ·rintro ⟨c,hc⟩
  refine⟨c*rest P v h,?_⟩;have:=Xw c hc (G6 hP v);have e:(λj=>(u j-c*v j)+c*pr P v j)=λj=>u j-c*rest P v h*(i*rest P v j):=by funext j;unfold rest at hi ⊢;grind
  rw[e] at this;exact this
theorem vA {P:Pt F}{v:Vec F}(hv:Mem P v) (u:Vec F):Mem P u↔∃c,Mem P λj=>u j-c*v j:=by
 constructor
 ·intro h;exact⟨0,by have:=X7 0 h hv;exact this⟩
 ·rintro ⟨c,hc⟩
  have:=Xw c hc hv;have e:(λj=>(u j-c*v j)+c*v j)=u:=by funext j;grind
  rw[e] at this;exact this
noncomputable def UQ (P:Pt F):List (Vec F)->Vec F->Prop
 |[],u=>Mem P u
 |v::vs,u=>∃c,UQ P vs λj=>u j-c*v j
theorem VM {P P':Pt F}{v:Vec F}(h:∀u,Mem P' u↔∃c,Mem P λj=>u j-c*v j):∀(vs:List (Vec F)) (u:Vec F),UQ P' vs u↔UQ P (v::vs) u
 |[],u=>h u
 |w::vs,u=>by
  constructor
  ·rintro ⟨d,hd⟩
   obtain⟨c,hc⟩:=(VM h vs _).mp hd;refine⟨c,d,?_⟩;have e:(λj=>u j-c*v j-d*w j)=λj=>u j-d*w j-c*v j:=by funext j;grind
   show UQ P vs λj=>u j-c*v j-d*w j
   rw[e];exact hc
  ·rintro ⟨c,d,hc⟩
   refine⟨d,(VM h vs _).mpr ⟨c,?_⟩⟩;have e:(λj=>u j-d*w j-c*v j)=λj=>u j-c*v j-d*w j:=by funext j;grind
   show UQ P vs λj=>u j-d*w j-c*v j
   rw[e];exact hc
theorem y4 {P Q:Pt F}(hQ:Rf Q) (u:Vec F):UQ P (Q.map (·.2)) u↔∃q,Mem Q q/\Mem P λj=>u j-q j:=by
 constructor
 ·have gen:∀(ws:List (Vec F)) (u:Vec F),(∀w∈ws,Mem Q w)->UQ P ws u->∃q,Mem Q q/\Mem P λj=>u j-q j:=by
   intro ws
   induction ws with
   |nil=>intro u _ h;exact⟨λ_=>0,XJ,by
    have e:(λj=>u j-0)=u:=by funext j;grind
    rw[e];exact h⟩
   |cons w ws ih=>
    rintro u hw ⟨c,h⟩
    obtain⟨q,hq,hp⟩:=ih _ (λx hx=>hw x (List.mem_cons_of_mem _ hx)) h
    refine⟨λj=>q j+c*w j,Xw c hq (hw w (List.mem_cons_self ..)),?_⟩
    have e:(λj=>u j-(q j+c*w j))=λj=>u j-c*w j-q j:=by funext j;grind
    rw[e];exact hp
  exact gen _ u λw hw=>by obtain⟨a,ha,rfl⟩:=List.mem_map.mp hw;exact Xt hQ ha
 ·rintro ⟨q,hq,hp⟩
  have gen:∀(R:Pt F) (u:Vec F),(Mem P λj=>u j-pr R q j)->UQ P (R.map (·.2)) u:=by
   intro R
   induction R with
   |nil=>
    intro u h;have e:(λj=>u j-pr [] q j)=u:=by funext j;show u j-0=u j;grind
    rw[e] at h;exact h
   |cons a R ih=>
    intro u h;refine⟨q a.1,ih _ ?_⟩;have e:(λj=>u j-q a.1*a.2 j-pr R q j)=λj=>u j-pr (a::R) q j:=by funext j;show _=u j-(q a.1*a.2 j+pr R q j);grind
    show Mem P λj=>u j-q a.1*a.2 j-pr R q j
    rw[e];exact h
  refine gen Q u ?_;have e:(λj=>u j-pr Q q j)=λj=>u j-q j:=by funext j;rw[<-hq j]
  rw[e];exact hp
end La
namespace La
variable {F:Type}[Lean.Grind.CommRing F] [DecidableEq F]
noncomputable def Supp (n:Nat) (v:Vec F):Prop:=∀j,n<=j->v j=0
structure Pn (n:Nat) (P:Pt F):Prop where
 rf:Rf P
 lt:∀a∈P,a.1<n
 sp:∀a∈P,Supp n a.2
theorem Pn.nil {n:Nat}:Pn n ([]:Pt F):=⟨Rf.nil,λ_ h=>(by cases h),λ_ h=>(by cases h)⟩
theorem yo {n:Nat}{P:Pt F}(h:Pn n P) (v:Vec F):Supp n (pr P v):=λj hj=>Xr λb hb=>by rw[h.sp b hb j hj];grind
theorem UK {n:Nat}{P:Pt F}(h:Pn n P) {v:Vec F}(hv:Mem P v):Supp n v:=λj hj=>by rw[hv j];exact yo h v j hj
noncomputable def hdV (n:Nat) (v:Vec F):Option Nat:=(List.range n).find? λj=>decide (v j≠0)
theorem J7 {n:Nat}{v:Vec F}(hs:Supp n v) (h:hdV n v=none) (j:Nat):v j=0:=by
 by_cases c:j<n
 ·have:=List.find?_eq_none.mp h j (List.mem_range.mpr c)
  simpa using this
 ·exact hs j (by omega)
theorem UR {n:Nat}{v:Vec F}{k:Nat}(h:hdV n v=some k):k<n/\v k≠0/\∀j,j<k->v j=0:=by
 unfold hdV at h;rw[List.find?_range_eq_some] at h;obtain⟨h1,h2,h3⟩:=h;refine⟨List.mem_range.mp h2,by simpa using h1,λj hj=>?_⟩
 have:=h3 j hj
 simpa using this
theorem G2 {n:Nat}{v:Vec F}{k:Nat}(hk:k<n) (h1:v k≠0) (h2:∀j,j<k->v j=0):hdV n v=some k:=by
 unfold hdV;rw[List.find?_range_eq_some];exact⟨by simpa using h1,List.mem_range.mpr hk,λj hj=>by simpa using h2 j hj⟩
structure Fld (inv:F->F):Prop where
 inv:∀a,a≠0->inv a*a=1
 one0:(1:F)≠0
section
variable {inv:F->F}{n:Nat}
noncomputable def more (inv:F->F) (n:Nat) (P:Pt F) (v:Vec F):Pt F:=match hdV n (rest P v) with
 |none=>P
 |some h=>wid P h λj=>inv (rest P v h)*rest P v j
structure Grow (n:Nat) (P:Pt F) (v:Vec F) (P':Pt F):Prop where
 pn:Pn n P'
 mem:∀u,Mem P' u↔∃c,Mem P λj=>u j-c*v j
 same:Mem P v->P'=P
 len:¬Mem P v->P'.length=P.length+1
theorem Ve (f:Fld inv) {P:Pt F}{v:Vec F}(hP:Pn n P) (hv:Supp n v):Grow n P v (more inv n P v):=by
 have hs:Supp n (rest P v):=λj hj=>by unfold rest;rw[hv j hj,yo hP v j hj];grind
 cases q:hdV n (rest P v) with
 |none=>
  have e:more inv n P v=P:=by unfold more;rw[q]
  have hm:Mem P v:=U4.mp (J7 hs q);rw[e];exact⟨hP,vA hm,λ_=>rfl,λh=>absurd hm h⟩
 |some h=>
  have e:more inv n P v=wid P h λj=>inv (rest P v h)*rest P v j:=by unfold more;rw[q]
  obtain⟨h1,h2,h3⟩:=UR q;have hi:=f.inv _ h2;have L:=zL hP.rf hi h3;rw[e];refine⟨⟨x8 f.one0 hP.rf L,λa ha=>?_,λa ha=>?_⟩,xR hP.rf hi h3,λhm=>absurd (U4.mpr hm h) h2,λ_=>uA ..⟩
  ·rcases List.mem_cons.mp ((Xh _ _).mem_iff.mp ha) with e | e
   ·rw[e];exact h1
   ·obtain⟨b,hb,rfl⟩:=List.mem_map.mp e
    exact hP.lt b hb
  ·rcases List.mem_cons.mp ((Xh _ _).mem_iff.mp ha) with e | e
   ·rw[e];intro j hj
    show inv (rest P v h)*rest P v j=0;rw[hs j hj];grind
   ·obtain⟨b,hb,rfl⟩:=List.mem_map.mp e
    intro j hj;show b.2 j-b.2 h*(inv (rest P v h)*rest P v j)=0;rw[hP.sp b hb j hj,hs j hj];grind
noncomputable def W6 (inv:F->F) (n:Nat) (P:Pt F) (vs:List (Vec F)):Pt F:=vs.foldl (more inv n) P
theorem WC (f:Fld inv):∀(vs:List (Vec F)) {P:Pt F},Pn n P->(∀v∈vs,Supp n v)->Pn n (W6 inv n P vs)/\∀u,Mem (W6 inv n P vs) u↔UQ P vs u
 |[],P,hP,_=>⟨hP,λu=>Iff.rfl⟩
 |v::vs,P,hP,hv=>by
  have g:=Ve f hP (hv v (List.mem_cons_self ..));obtain⟨a,b⟩:=WC f vs g.pn λw hw=>hv w (List.mem_cons_of_mem _ hw)
  exact⟨a,λu=>(b u).trans (VM g.mem vs u)⟩
noncomputable def join (inv:F->F) (n:Nat) (P Q:Pt F):Pt F:=W6 inv n P (Q.map (·.2))
theorem yv (f:Fld inv) {P Q:Pt F}(hP:Pn n P) (hQ:Pn n Q):Pn n (join inv n P Q):=(WC f _ hP λv hv=>by obtain⟨a,ha,rfl⟩:=List.mem_map.mp hv;exact hQ.sp a ha).1
theorem Wz (f:Fld inv) {P Q:Pt F}(hP:Pn n P) (hQ:Pn n Q) (u:Vec F):Mem (join inv n P Q) u↔∃q,Mem Q q/\Mem P λj=>u j-q j:=
 ((WC f _ hP λv hv=>by obtain⟨a,ha,rfl⟩:=List.mem_map.mp hv;exact hQ.sp a ha).2 u).trans (y4 hQ.rf u)
theorem xU (f:Fld inv) {P Q:Pt F}(hP:Pn n P) (hQ:Pn n Q) (h:∀v,Mem P v↔Mem Q v):P=Q:=uniq f.one0 hP.rf hQ.rf h
theorem sub_self (u:Vec F):(λj=>u j-u j)=λ_=>0:=by funext j;grind
theorem QD (f:Fld inv) {P Q:Pt F}(hP:Pn n P) (hQ:Pn n Q) {u:Vec F}(h:Mem P u):Mem (join inv n P Q) u:=
 (Wz f hP hQ u).mpr ⟨λ_=>0,XJ,by
   have e:(λj=>u j-0)=u:=by funext j;grind
   rw[e];exact h⟩
theorem W9 (f:Fld inv) {P Q:Pt F}(hP:Pn n P) (hQ:Pn n Q) {u:Vec F}(h:Mem Q u):Mem (join inv n P Q) u:=
 (Wz f hP hQ u).mpr ⟨u,h,by rw[sub_self];exact XJ⟩
theorem Qq (f:Fld inv) {P Q R:Pt F}(hP:Pn n P) (hQ:Pn n Q) (h1:∀u,Mem P u->Mem R u) (h2:∀u,Mem Q u->Mem R u) {u:Vec F}(h:Mem (join inv n P Q) u):Mem R u:=by
 obtain⟨q,a,b⟩:=(Wz f hP hQ u).mp h;have:=Xw 1 (h1 _ b) (h2 _ a);have e:(λj=>u j-q j+1*q j)=u:=by funext j;grind
 rw[e] at this;exact this
theorem xx (f:Fld inv) {P Q M:Pt F}(hP:Pn n P) (hQ:Pn n Q) (hM:Pn n M) (h:∀u,Mem M u↔Mem P u/\Mem Q u):(join inv n P Q).length+M.length=P.length+Q.length:=by
 have gen:∀(vs:List (Vec F)) (J T:Pt F),(∀v∈vs,Mem Q v/\Supp n v)->Pn n J->Pn n T->(∀u,Mem T u->Mem Q u)->(∀u,Mem M u->Mem T u)->(∀u,Mem J u↔∃t,Mem T t/\Mem P λj=>u j-t j)->J.length+M.length=P.length+T.length->(W6 inv n J vs).length+M.length=P.length+(W6 inv n T vs).length:=by
  intro vs
  induction vs with
  |nil=>intro J T _ _ _ _ _ _ e;exact e
  |cons v vs ih=>
   intro J T hv hJ hT h1 h2 h3 e;obtain⟨hvQ,hvS⟩:=hv v (List.mem_cons_self ..);have gJ:=Ve f hJ hvS;have gT:=Ve f hT hvS;refine ih (more inv n J v) (more inv n T v) (λw hw=>hv w (List.mem_cons_of_mem _ hw)) gJ.pn gT.pn (λu hu=>?_) (λu hu=>?_) (λu=>?_) ?_
   ·obtain⟨c,hc⟩:=(gT.mem u).mp hu
    have:=Xw c (h1 _ hc) hvQ;have e:(λj=>u j-c*v j+c*v j)=u:=by funext j;grind
    rw[e] at this;exact this
   ·exact (gT.mem u).mpr ⟨0,by
     have e:(λj=>u j-0*v j)=u:=by funext j;grind
     rw[e];exact h2 u hu⟩
   ·rw[gJ.mem u]
    constructor
    ·rintro ⟨c,hc⟩
     obtain⟨t,ht,hp⟩:=(h3 _).mp hc;refine⟨λj=>t j+c*v j,(gT.mem _).mpr ⟨c,?_⟩,?_⟩
     ·have e:(λj=>t j+c*v j-c*v j)=t:=by funext j;grind
      rw[e];exact ht
     ·have e:(λj=>u j-(t j+c*v j))=λj=>u j-c*v j-t j:=by funext j;grind
      rw[e];exact hp
    ·rintro ⟨t,ht,hp⟩
     obtain⟨c,hc⟩:=(gT.mem t).mp ht;refine⟨c,(h3 _).mpr ⟨_,hc,?_⟩⟩;have e:(λj=>u j-c*v j-(t j-c*v j))=λj=>u j-t j:=by funext j;grind
     rw[e];exact hp
   ·by_cases c:Mem T v
    ·have cJ:Mem J v:=(h3 v).mpr ⟨v,c,by rw[sub_self];exact XJ⟩
     rw[gJ.same cJ,gT.same c];exact e
    ·have cJ:¬Mem J v:=λhc=>by
      obtain⟨t,ht,hp⟩:=(h3 v).mp hc;have hq:Mem Q λj=>v j-t j:=by
       have:=X7 1 hvQ (h1 t ht);have e:(λj=>v j-1*t j)=λj=>v j-t j:=by funext j;grind
       rw[e] at this;exact this
      have:=Xw 1 (h2 _ ((h _).mpr ⟨hp,hq⟩)) ht;have e:(λj=>v j-t j+1*t j)=v:=by funext j;grind
      rw[e] at this;exact c this
     rw[gJ.len cJ,gT.len c];omega
 have hv:∀v∈Q.map (·.2),Mem Q v/\Supp n v:=λv hv=>by obtain⟨a,ha,rfl⟩:=List.mem_map.mp hv;exact⟨Xt hQ.rf ha,hQ.sp a ha⟩
 have:=gen (Q.map (·.2)) P M hv hP hM (λu hu=>((h u).mp hu).2) (λu hu=>hu) (λu=>by
  constructor
  ·intro hu
   exact⟨λ_=>0,XJ,by
     have e:(λj=>u j-0)=u:=by funext j;grind
     rw[e];exact hu⟩
  ·rintro ⟨t,ht,hp⟩
   have:=Xw 1 hp ((h t).mp ht).1;have e:(λj=>u j-t j+1*t j)=u:=by funext j;grind
   rw[e] at this;exact this) rfl
 have eT:W6 inv n M (Q.map (·.2))=Q:=xU f (yv f hM hQ) hQ λu=>by
  constructor
  ·exact Qq f hM hQ (λu hu=>((h u).mp hu).2) λu hu=>hu
  ·exact W9 f hM hQ
 rw[eT] at this;exact this
noncomputable def sl:List Nat->(Nat->F)->F
 |[],_=>0
 |k::L,g=>g k+sl L g
theorem X2 {L:List Nat}{g g':Nat->F}(h:∀k∈L,g k=g' k):sl L g=sl L g':=by
 induction L with
 |nil=>rfl
 |cons k L ih=>show g k+sl L g=g' k+sl L g';rw[h k (List.mem_cons_self ..),ih λj hj=>h j (List.mem_cons_of_mem _ hj)]
theorem ve (L:List Nat) (g g':Nat->F) (c:F):sl L (λj=>g j-c*g' j)=sl L g-c*sl L g':=by
 induction L with
 |nil=>show (0:F)=0-c*0;grind
 |cons k L ih=>show (g k-c*g' k)+sl L _=(g k+sl L g)-c*(g' k+sl L g');rw[ih];grind
theorem VA {L:List Nat}{g:Nat->F}(h:∀k∈L,g k=0):sl L g=0:=by
 induction L with
 |nil=>rfl
 |cons k L ih=>show g k+sl L g=0;rw[h k (List.mem_cons_self ..),ih λj hj=>h j (List.mem_cons_of_mem _ hj)];grind
theorem zo {L:List Nat}{g:Nat->F}{k:Nat}(hn:L.Nodup) (hk:k∈L) (h:∀j∈L,j≠k->g j=0):sl L g=g k:=by
 induction L with
 |nil=>cases hk
 |cons m L ih=>
  rw[List.nodup_cons] at hn;show g m+sl L g=_;rcases List.mem_cons.mp hk with e | e
  ·subst e
   rw[VA λj hj=>h j (List.mem_cons_of_mem _ hj) λz=>hn.1 (z▸hj)];grind
  ·rw[ih hn.2 e λj hj=>h j (List.mem_cons_of_mem _ hj),h m (List.mem_cons_self ..) λz=>hn.1 (z▸e)];grind
theorem vT (p:Nat->Bool) (L:List Nat) (g:Nat->F):sl L g=sl (L.filter p) g+sl (L.filter λk=>!p k) g:=by
 induction L with
 |nil=>show (0:F)=0+0;grind
 |cons k L ih=>
  rw[List.filter_cons,List.filter_cons];show g k+sl L g=_;cases p k with
  |true=>simp only[if_true,Bool.not_true,Bool.false_eq_true,if_false];show _=g k+sl _ g+_;rw[ih];grind
  |false=>simp only[Bool.false_eq_true,if_false,Bool.not_false,if_true];show _=_+(g k+sl _ g);rw[ih];grind
noncomputable def dot (n:Nat) (u w:Vec F):F:=sl (List.range n) λj=>u j*w j
theorem Jg (n:Nat) (a u v:Vec F) (c:F):dot n a (λj=>u j-c*v j)=dot n a u-c*dot n a v:=by
 unfold dot;rw[<-ve];exact X2 λk _=>by grind
theorem Vy (n:Nat) (u w:Vec F):dot n u w=dot n w u:=X2 λk _=>by grind
noncomputable def Yb (P:Pt F) (j:Nat):Bool:=(P.map (·.1)).contains j
noncomputable def free (n:Nat) (P:Pt F):List Nat:=(List.range n).filter λj=>!Yb P j
noncomputable def av:Pt F->Nat->Vec F
 |[],f,j=>if j=f then 1 else 0
 |a::P,f,j=>if j=a.1 then-a.2 f else av P f j
theorem YK {P:Pt F}{j:Nat}:Yb P j=true↔∃a∈P,a.1=j:=by
 unfold Yb;rw[List.contains_iff_mem,List.mem_map]
theorem WI {P:Pt F}{f j:Nat}(h:Yb P j=false):av P f j=if j=f then 1 else 0:=by
 induction P with
 |nil=>rfl
 |cons a P ih=>
  have h1:¬∃b∈a::P,b.1=j:=λz=>by rw[YK.mpr z] at h;cases h
  show (if j=a.1 then-a.2 f else av P f j)=_
  rw[if_neg λz=>h1 ⟨a,List.mem_cons_self ..,z.symm⟩]
  exact ih (by
   cases q:Yb P j with
   |false=>rfl
   |true=>obtain⟨b,hb,e⟩:=YK.mp q;exact absurd ⟨b,List.mem_cons_of_mem _ hb,e⟩ h1)
theorem yb {P:Pt F}(hP:P.Pairwise λa b=>a.1<b.1) {a:Nat×Vec F}(ha:a∈P) (f:Nat):av P f a.1 = - a.2 f:=by
 induction P with
 |nil=>cases ha
 |cons b P ih=>
  rw[List.pairwise_cons] at hP;show (if a.1=b.1 then-b.2 f else av P f a.1)=_
  rcases List.mem_cons.mp ha with e | e
  ·subst e;rw[if_pos rfl]
  ·rw[if_neg (by have:=hP.1 a e;omega)];exact ih hP.2 e
theorem Yz {P:Pt F}{j:Nat}:j∈free n P↔j<n/\Yb P j=false:=by
 unfold free;rw[List.mem_filter,List.mem_range];simp
theorem Qj {P:Pt F}:(free n P).Nodup:=List.Pairwise.filter _ List.nodup_range
theorem Us {P:Pt F}(hP:Pn n P) {f:Nat}(hf:f<n):Supp n (av P f):=λj hj=>by
 rw[WI (by
  cases q:Yb P j with
  |false=>rfl
  |true=>obtain⟨b,hb,e⟩:=YK.mp q;have:=hP.lt b hb;omega),if_neg (by omega)]
theorem QX {P:Pt F}(hP:Pn n P) {a:Nat×Vec F}(ha:a∈P) (u:Vec F):dot n a.2 u=sl (free n P) (λj=>a.2 j*u j)+u a.1:=by
 unfold dot;rw[vT (Yb P) (List.range n)];have e:sl ((List.range n).filter (Yb P)) (λj=>a.2 j*u j)=a.2 a.1*u a.1:=by
  refine zo (List.Pairwise.filter _ List.nodup_range) (List.mem_filter.mpr ⟨List.mem_range.mpr (hP.lt a ha),YK.mpr ⟨a,ha,rfl⟩⟩) λj hj ne=>?_
  obtain⟨b,hb,rfl⟩:=YK.mp (List.mem_filter.mp hj).2;rw[hP.rf.zer b hb a ha ne];grind
 rw[e,hP.rf.one a ha];show _=sl ((List.range n).filter λj=>!Yb P j) _+_
 grind
theorem jc {P:Pt F}(hP:Pn n P) {a:Nat×Vec F}(ha:a∈P) {f:Nat}(hf:f∈free n P):dot n a.2 (av P f)=0:=by
 obtain⟨f1,f2⟩:=Yz.mp hf;rw[QX hP ha,yb hP.rf.inc ha,zo (L:=free n P) (k:=f) Qj hf λj hj ne=>by
  rw[WI (Yz.mp hj).2,if_neg ne];grind]
 rw[WI f2,if_pos rfl];grind
noncomputable def perp (inv:F->F) (n:Nat) (P:Pt F):Pt F:=W6 inv n [] ((free n P).map (av P))
theorem UA (f:Fld inv) {P:Pt F}(hP:Pn n P):Pn n (perp inv n P):=(WC f _ Pn.nil λv hv=>by
 obtain⟨k,hk,rfl⟩:=List.mem_map.mp hv;exact Us hP (Yz.mp hk).1).1
theorem Gi {P:Pt F}(hP:Pn n P) {a:Nat×Vec F}(ha:a∈P):∀(L:List Nat) (u:Vec F),(∀k∈L,k∈free n P)->UQ [] (L.map (av P)) u->dot n a.2 u=0
 |[],u,_,h=>VA λk _=>by rw[h k];show a.2 k*0=0;grind
 |k::L,u,hL,⟨c,h⟩=>by
  have:=Gi hP ha L _ (λj hj=>hL j (List.mem_cons_of_mem _ hj)) h
  rw[Jg,jc hP ha (hL k (List.mem_cons_self ..))] at this
  grind
theorem QI {P:Pt F}{u:Vec F}:∀(L:List Nat) (w:Vec F),(∀j,w j=sl L λf=>u f*av P f j)->UQ [] (L.map (av P)) w
 |[],w,h=>h
 |k::L,w,h=>⟨u k,QI (u:=u) L _ λj=>by rw[h j];show u k*av P k j+sl L (λf=>u f*av P f j)-u k*av P k j=_;grind⟩
theorem xG (f:Fld inv) {P:Pt F}(hP:Pn n P) (u:Vec F):Mem (perp inv n P) u↔Supp n u/\∀a∈P,dot n a.2 u=0:=by
 have ok:=WC f ((free n P).map (av P)) (Pn.nil (n:=n)) λv hv=>by
  obtain⟨k,hk,rfl⟩:=List.mem_map.mp hv;exact Us hP (Yz.mp hk).1
 constructor
 ·intro h
  exact⟨UK ok.1 h,λa ha=>Gi hP ha _ u (λk hk=>hk) ((ok.2 u).mp h)⟩
 ·rintro ⟨hs,hd⟩
  refine (ok.2 u).mpr (QI (u:=u) _ u λj=>?_)
  by_cases c:n<=j
  ·rw[hs j c]
   exact (VA λk hk=>by rw[Us hP (Yz.mp hk).1 j c];grind).symm
  ·cases q:Yb P j with
   |false=>
    rw[zo (L:=free n P) (k:=j) Qj (Yz.mpr ⟨by omega,q⟩) λk hk ne=>by
     rw[WI q,if_neg (Ne.symm ne)];grind]
    rw[WI q,if_pos rfl];grind
   |true=>
    obtain⟨a,ha,rfl⟩:=YK.mp q;have h1:=hd a ha;rw[QX hP ha] at h1;have e:sl (free n P) (λf=>u f*av P f a.1) = - sl (free n P) λj=>a.2 j*u j:=by
     have:=ve (free n P) (λ_=>(0:F)) (λj=>a.2 j*u j) 1
     rw[VA (g:=λ_=>(0:F)) λ_ _=>rfl] at this
     have e2:sl (free n P) (λf=>u f*av P f a.1)=sl (free n P) λj=>0-1*(a.2 j*u j):=X2 λk _=>by rw[yb hP.rf.inc ha];grind
     rw[e2,this];grind
    rw[e];grind
theorem Y8 (f:Fld inv) {P:Pt F}(hP:Pn n P) (u:Vec F):Mem (perp inv n P) u↔Supp n u/\∀v,Mem P v->dot n v u=0:=by
 rw[xG f hP]
 constructor
 ·rintro ⟨hs,hd⟩
  refine⟨hs,λv hv=>?_⟩
  have e:dot n v u=dot n u (pr P v):=by rw[Vy];exact X2 λk _=>by rw[<-hv k]
  rw[e];have gen:∀Q:Pt F,(∀a∈Q,dot n a.2 u=0)->dot n u (pr Q v)=0:=by
   intro Q
   induction Q with
   |nil=>intro _;exact VA λk _=>by show u k*0=0;grind
   |cons a Q ih=>
    intro h;have e2:dot n u (pr (a::Q) v)=dot n u (λj=>pr Q v j-(- v a.1)*a.2 j):=X2 λk _=>by show u k*(v a.1*a.2 k+pr Q v k)=_;grind
    rw[e2,Jg,ih λb hb=>h b (List.mem_cons_of_mem _ hb),Vy,h a (List.mem_cons_self ..)];grind
  exact gen P hd
 ·rintro ⟨hs,hd⟩
  exact⟨hs,λa ha=>hd _ (Xt hP.rf ha)⟩
theorem Uc (f:Fld inv) {P:Pt F}(hP:Pn n P):(perp inv n P).length+P.length=n:=by
 have gen:∀(L:List Nat) (A:Pt F) (D:List Nat),Pn n A->(∀k∈L,k∈free n P)->L.Nodup->(∀k∈L,k∉D)->(∀u,Mem A u->∀k∈free n P,k∉D->u k=0)->(W6 inv n A (L.map (av P))).length=A.length+L.length:=by
  intro L
  induction L with
  |nil=>intro A D _ _ _ _ _;rfl
  |cons k L ih=>
   intro A D hA hL hn hD hz;rw[List.nodup_cons] at hn;have hk:=hL k (List.mem_cons_self ..);have g:=Ve f hA (Us hP (Yz.mp hk).1);have nm:¬Mem A (av P k):=λh=>by
    have:=hz _ h k hk (hD k (List.mem_cons_self ..));rw[WI (Yz.mp hk).2,if_pos rfl] at this;exact f.one0 this
   have:=ih (more inv n A (av P k)) (k::D) g.pn (λj hj=>hL j (List.mem_cons_of_mem _ hj)) hn.2 (λj hj=>by
    rw[List.mem_cons]
    rintro (z | z)
    ·exact hn.1 (z▸hj)
    ·exact hD j (List.mem_cons_of_mem _ hj) z) λu hu j hj hjD=>by
     obtain⟨c,hc⟩:=(g.mem u).mp hu;rw[List.mem_cons] at hjD;have h1:u j-c*av P k j=0:=hz _ hc j hj λz=>hjD (.inr z)
     rw[WI (Yz.mp hj).2,if_neg λz=>hjD (.inl z)] at h1
     grind
   show (W6 inv n (more inv n A (av P k)) (L.map (av P))).length=_;rw[this,g.len nm,List.length_cons];omega
 have h1:=gen (free n P) [] [] Pn.nil (λ_ h=>h) (List.Pairwise.filter _ List.nodup_range) (λ_ _ h=>by cases h) λu hu k _ _=>hu k
 have h2:(List.range n).filter (Yb P)=P.map (·.1):=zd (List.Pairwise.filter _ List.pairwise_lt_range) hP.rf.heads λx=>by
  rw[List.mem_filter,List.mem_range,YK,List.mem_map]
  constructor
  ·rintro ⟨_,a,ha,e⟩;exact⟨a,ha,e⟩
  ·rintro ⟨a,ha,e⟩;exact⟨by rw[<-e];exact hP.lt a ha,a,ha,e⟩
 have h3:((List.range n).filter (Yb P)).length+(free n P).length=n:=by
  have gen:∀L:List Nat,(L.filter (Yb P)).length+(L.filter λj=>!Yb P j).length=L.length:=by
   intro L
   induction L with
   |nil=>rfl
   |cons k L ih=>
    rw[List.filter_cons,List.filter_cons];cases Yb P k <;> simp <;> omega
  have:=gen (List.range n);rw[List.length_range] at this;exact this
 rw[h2,List.length_map] at h3;have h4:(perp inv n P).length=(free n P).length:=by
  have e:(perp inv n P).length=0+(free n P).length:=h1;omega
 omega
theorem QR (f:Fld inv) {P:Pt F}(hP:Pn n P):perp inv n (perp inv n P)=P:=by
 have h1:=UA f hP;have h2:=UA f h1;have s1:=Uc f hP;have s2:=Uc f h1;have sub:∀v,Mem P v->Mem (perp inv n (perp inv n P)) v:=λv hv=>(Y8 f h1 v).mpr ⟨UK hP hv,λw hw=>by
  rw[Vy];exact ((Y8 f hP w).mp hw).2 v hv⟩
 refine (xU f hP h2 λv=>⟨sub v,(vf f.one0 hP.rf h2.rf sub).2 (by omega) v⟩).symm
noncomputable def meet (inv:F->F) (n:Nat) (P Q:Pt F):Pt F:=perp inv n (join inv n (perp inv n P) (perp inv n Q))
theorem x6 (f:Fld inv) {P Q:Pt F}(hP:Pn n P) (hQ:Pn n Q) (u:Vec F):Mem (meet inv n P Q) u↔Mem P u/\Mem Q u:=by
 have hA:=UA f hP;have hB:=UA f hQ;unfold meet;rw[Y8 f (yv f hA hB)]
 constructor
 ·rintro ⟨hs,h⟩
  refine⟨?_,?_⟩
  ·have:Mem (perp inv n (perp inv n P)) u:=(Y8 f hA u).mpr ⟨hs,λv hv=>h v (QD f hA hB hv)⟩
   rw[QR f hP] at this;exact this
  ·have:Mem (perp inv n (perp inv n Q)) u:=(Y8 f hB u).mpr ⟨hs,λv hv=>h v (W9 f hA hB hv)⟩
   rw[QR f hQ] at this;exact this
 ·rintro ⟨h1,h2⟩
  refine⟨UK hP h1,λv hv=>?_⟩
  obtain⟨q,hq,hp⟩:=(Wz f hA hB v).mp hv;have e1:=((Y8 f hP _).mp hp).2 u h1;have e2:=((Y8 f hQ _).mp hq).2 u h2;have e3:dot n u v=dot n u (λj=>(v j-q j)-(-1)*q j):=X2 λk _=>by grind
  rw[Vy,e3,Jg,e1,e2];grind
end
end La
set_option maxRecDepth 10000
namespace Rw
open La
open Ev (ltI VP Z8)
section
variable {p:Nat}[NeZero p]
noncomputable def ph (p:Nat) [NeZero p] (a:Int):Fin p:=Fin.ofNat p (a%p).toNat
theorem ppos:(0:Int)<p:=by have:=NeZero.ne p;omega
theorem XC (a:Int):((ph p a).val:Int)=a%p:=by
 have h:=ppos (p:=p);have h0:=Int.emod_nonneg a (by omega:(p:Int)≠0)
 have h1:=Int.emod_lt_of_pos a h;show ((((a%p).toNat)%p:Nat):Int)=a%p;rw[Nat.mod_eq_of_lt (by omega)]
 omega
theorem Ur {x y:Fin p}(h:(x.val:Int)=y.val):x=y:=Fin.ext (by omega)
theorem vC (a b:Int):ph p (a+b)=ph p a+ph p b:=Ur (by
 rw[XC,Fin.val_add];show (a+b)%p=(((ph p a).val+(ph p b).val:Nat):Int)%p;rw[Int.natCast_add,XC,XC,<-Int.add_emod])
theorem wd (a b:Int):ph p (a*b)=ph p a*ph p b:=Ur (by
 rw[XC,Fin.val_mul];show (a*b)%p=(((ph p a).val*(ph p b).val:Nat):Int)%p;rw[Int.natCast_mul,XC,XC,<-Int.mul_emod])
theorem zG (a:Int):ph p (a%p)=ph p a:=Ur (by rw[XC,XC,Int.emod_emod])
theorem WY:ph p 0=0:=Ur (by rw[XC];simp)
theorem JO (a:Int):ph p (-a) = - ph p a:=by
 have h:ph p (-a+a)=ph p (-a)+ph p a:=vC _ _;rw[show -a+a=0 by omega,WY] at h
 grind
theorem UU {a b:Int}(ha:0<=a/\a<p) (hb:0<=b/\b<p) (h:ph p a=ph p b):a=b:=by
 have:=congrArg (λx:Fin p=>(x.val:Int)) h
 simp only[XC] at this;rw[Int.emod_eq_of_lt ha.1 ha.2,Int.emod_eq_of_lt hb.1 hb.2] at this;exact this
theorem jS {a:Int}(ha:0<=a/\a<p):ph p a=0↔a=0:=by
 constructor
 ·intro h;exact UU ha ⟨by omega,ppos⟩ (by rw[h,WY])
 ·rintro rfl;exact WY
end
noncomputable abbrev Row:=List Int
noncomputable def Zz (p n:Nat) (r:Row):Prop:=r.length=n/\∀a∈r,0<=a/\a<(p:Int)
noncomputable def gt (r:Row) (j:Nat):Int:=r.getD j 0
theorem Xi {p n:Nat}(h0:(0:Int)<p) {r:Row}(h:Zz p n r) (j:Nat):0<=gt r j/\gt r j<p:=by
 unfold gt;rw[List.getD_eq_getElem?_getD];cases q:r[j]? with
 |none=>exact⟨Int.le_refl _,h0⟩
 |some a=>exact h.2 a (List.mem_of_getElem? q)
theorem wO {r:Row}{j:Nat}(h:r.length<=j):gt r j=0:=by unfold gt;rw[List.getD_eq_getElem?_getD,List.getElem?_eq_none h];rfl
theorem xL {r s:Row}(hl:r.length=s.length) (h:∀j,gt r j=gt s j):r=s:=by
 apply List.ext_getElem hl;intro j h1 h2;have:=h j;unfold gt at this;rw[List.getD_eq_getElem?_getD,List.getD_eq_getElem?_getD,List.getElem?_eq_getElem h1,List.getElem?_eq_getElem h2] at this;exact this
noncomputable def hdI:Row->Option Nat
 |[]=>none
 |a::r=>if a≠0 then some 0 else (hdI r).map (· + 1)
theorem Xk:∀{r:Row}{k:Nat},hdI r=some k->gt r k≠0/\k<r.length/\∀j,j<k->gt r j=0
 |[],k,h=>by cases h
 |a::r,k,h=>by
  unfold hdI at h;by_cases c:a≠0
  ·rw[if_pos c] at h;cases h;exact⟨c,by simp,λj hj=>by omega⟩
  ·rw[if_neg c] at h
   cases q:hdI r with
   |none=>rw[q] at h;cases h
   |some m=>
    rw[q] at h;have e:m+1=k:=Option.some.inj h;subst e;obtain⟨h1,h2,h3⟩:=Xk q;refine⟨h1,by simp;omega,λj hj=>?_⟩
    cases j with
    |zero=>exact Classical.not_not.mp c
    |succ j=>exact h3 j (by omega)
theorem WB:∀{r:Row},hdI r=none->∀j,gt r j=0
 |[],_,j=>wO (Nat.zero_le _)
 |a::r,h,j=>by
  unfold hdI at h;by_cases c:a≠0
  ·rw[if_pos c] at h;cases h
  ·rw[if_neg c] at h
   have h':hdI r=none:=Option.map_eq_none_iff.mp h;cases j with
   |zero=>exact Classical.not_not.mp c
   |succ j=>exact WB h' j
theorem jf {r:Row}{k:Nat}(h1:gt r k≠0) (h2:∀j,j<k->gt r j=0):hdI r=some k:=by
 cases q:hdI r with
 |none=>exact absurd (WB q k) h1
 |some m=>
  obtain⟨a,_,c⟩:=Xk q;have:¬k<m:=λz=>h1 (c k z)
  have:¬m<k:=λz=>a (h2 m z)
  rw[show m=k by omega]
section
variable {p n:Nat}[NeZero p]
noncomputable def toV (p:Nat) [NeZero p] (r:Row):Vec (Fin p):=λj=>ph p (gt r j)
theorem Jc {r s:Row}(hr:Zz p n r) (hs:Zz p n s) (h:toV p r=toV p s):r=s:=
 xL (by rw[hr.1,hs.1]) λj=>UU (Xi ppos hr j) (Xi ppos hs j) (congrFun h j)
theorem Vr {r:Row}(hr:Zz p n r):Supp n (toV p r):=λj hj=>by unfold toV;rw[wO (by rw[hr.1];exact hj),WY]
theorem Xn {r:Row}(hr:Zz p n r) {j:Nat}:toV p r j=0↔gt r j=0:=jS (Xi ppos hr j)
theorem Jn {r:Row}(hr:Zz p n r):hdV n (toV p r)=hdI r:=by
 cases q:hdI r with
 |none=>
  cases q2:hdV n (toV p r) with
  |none=>rfl
  |some k=>exact absurd ((Xn hr).mpr (WB q k)) (UR q2).2.1
 |some k=>
  obtain⟨a,b,c⟩:=Xk q;exact G2 (by rw[<-hr.1];exact b) (λz=>a ((Xn hr).mp z)) λj hj=>(Xn hr).mpr (c j hj)
noncomputable def Y0 (p:Nat) (r o:Row) (k:Int):Row:=List.zipWith (λa b=>(a+k*b)%p) r o
noncomputable def Wn (p:Nat) (r:Row) (k:Int):Row:=r.map λa=>k*a%p
theorem qw {f:Int->Int->Int}{r o:Row}(hl:r.length=o.length) (h0:f 0 0=0) (j:Nat):gt (List.zipWith f r o) j=f (gt r j) (gt o j):=by
 unfold gt;simp only[List.getD_eq_getElem?_getD];rw[List.getElem?_zipWith];by_cases c:j<r.length
 ·rw[List.getElem?_eq_getElem c,List.getElem?_eq_getElem (by omega)];rfl
 ·rw[List.getElem?_eq_none (by omega),List.getElem?_eq_none (by omega)];exact h0.symm
theorem ZW {r o:Row}{k:Int}(hr:Zz p n r) (ho:Zz p n o):Zz p n (Y0 p r o k):=by
 refine⟨by unfold Y0;rw[List.length_zipWith,hr.1,ho.1];simp,λa ha=>?_⟩
 unfold Y0 at ha;rw[<-List.map_uncurry_zip_eq_zipWith] at ha;obtain⟨⟨x,y⟩,_,rfl⟩:=List.mem_map.mp ha;exact⟨Int.emod_nonneg _ (by have:=ppos (p:=p);omega),Int.emod_lt_of_pos _ ppos⟩
theorem XT {r o:Row}{k:Int}(hr:Zz p n r) (ho:Zz p n o) (j:Nat):gt (Y0 p r o k) j=(gt r j+k*gt o j)%p:=by
 unfold Y0;rw[qw (by rw[hr.1,ho.1]) (by simp)]
theorem Wu {r o:Row}{k:Int}(hr:Zz p n r) (ho:Zz p n o):toV p (Y0 p r o k)=λj=>toV p r j+ph p k*toV p o j:=by
 funext j
 unfold toV;rw[XT hr ho,zG,vC,wd]
theorem UM {r:Row}{k:Int}(j:Nat):gt (Wn p r k) j=k*gt r j%p:=by
 unfold Wn gt;simp only[List.getD_eq_getElem?_getD,List.getElem?_map];cases r[j]? <;> simp
theorem WT {r:Row}{k:Int}(hr:Zz p n r):Zz p n (Wn p r k):=by
 refine⟨by unfold Wn;rw[List.length_map,hr.1],λa ha=>?_⟩
 obtain⟨x,_,rfl⟩:=List.mem_map.mp ha;exact⟨Int.emod_nonneg _ (by have:=ppos (p:=p);omega),Int.emod_lt_of_pos _ ppos⟩
theorem y6 {r:Row}{k:Int}:toV p (Wn p r k)=λj=>ph p k*toV p r j:=by
 funext j
 unfold toV;rw[UM,zG,wd]
noncomputable def toP (p:Nat) [NeZero p] (P:List Row):Pt (Fin p):=P.map λr=>((hdI r).getD 0,toV p r)
structure Part (p n:Nat) [NeZero p] (P:List Row):Prop where
 row:∀r∈P,Zz p n r
 pn:Pn n (toP p P)
theorem Part.nil:Part p n []:=⟨λ_ h=>(by cases h),Pn.nil⟩
theorem YY {P:List Row}{r:Row}(h:r∈P):((hdI r).getD 0,toV p r)∈toP p P:=List.mem_map.mpr ⟨r,h,rfl⟩
theorem Part.head (one0:(1:Fin p)≠0) {P:List Row}(h:Part p n P) {r:Row}(hr:r∈P):∃k,hdI r=some k/\k<n/\toV p r k=1:=by
 have h1:=h.pn.rf.one _ (YY (p:=p) hr);cases q:hdI r with
 |none=>
  rw[q] at h1;have:toV p r 0=1:=h1;have z:toV p r 0=0:=(Xn (h.row r hr)).mpr (WB q 0);rw[z] at this;exact absurd this.symm one0
 |some k=>
  rw[q] at h1;have h2:=h.pn.lt _ (YY (p:=p) hr);rw[q] at h2;exact⟨k,rfl,h2,h1⟩
theorem uM {P Q:List Row}(hP:∀r∈P,Zz p n r) (hQ:∀r∈Q,Zz p n r) (h:toP p P=toP p Q):P=Q:=by
 induction P generalizing Q with
 |nil=>cases Q with
  |nil=>rfl
  |cons b Q=>cases h
 |cons a P ih=>cases Q with
  |nil=>cases h
  |cons b Q=>
   have h':((hdI a).getD 0,toV p a)::toP p P=((hdI b).getD 0,toV p b)::toP p Q:=h;injection h' with e1 e2
   have e3:toV p a=toV p b:=congrArg Prod.snd e1;rw[Jc (hP a (List.mem_cons_self ..)) (hQ b (List.mem_cons_self ..)) e3,ih (λr hr=>hP r (List.mem_cons_of_mem _ hr)) (λr hr=>hQ r (List.mem_cons_of_mem _ hr)) e2]
theorem vJ (P:List Row):(toP p P).map (·.2)=P.map (toV p):=by unfold toP;rw[List.map_map];rfl
theorem zI (P:List Row):(toP p P).length=P.length:=by unfold toP;rw[List.length_map]
noncomputable def clr (p:Nat) (r o:Row) (h:Nat):Row:=Y0 p r o (-(gt r h))
noncomputable def ZB (p:Nat) (P:List Row) (r:Row):Row:=P.foldl (λs o=>clr p s o ((hdI o).getD 0)) r
theorem Uz {r o:Row}{h:Nat}(hr:Zz p n r) (ho:Zz p n o):toV p (clr p r o h)=λj=>toV p r j-toV p r h*toV p o j:=by
 unfold clr;rw[Wu hr ho]
 funext j
 rw[JO];show toV p r j+(- toV p r h)*toV p o j=_
 grind
theorem UE:∀{P:List Row}{r:Row},(∀o∈P,Zz p n o)->Rf (toP p P)->Zz p n r->Zz p n (ZB p P r)/\toV p (ZB p P r)=rest (toP p P) (toV p r)
 |[],r,_,_,hr=>⟨hr,by funext j;show toV p r j=toV p r j-0;grind⟩
 |o::P,r,hP,hf,hr=>by
  have ho:=hP o (List.mem_cons_self ..);have hc:Zz p n (clr p r o ((hdI o).getD 0)):=ZW hr ho;obtain⟨a,b⟩:=UE (P:=P) (λo h=>hP o (List.mem_cons_of_mem _ h)) hf.tail hc
  refine⟨a,?_⟩;show toV p (ZB p P (clr p r o ((hdI o).getD 0)))=_;rw[b,Uz hr ho];have z:∀j,pr (toP p P) (toV p o) j=0:=λj=>Xr λc hc=>by
   have:toV p o c.1=0:=by
    have h1:c∈toP p (o::P):=List.mem_cons_of_mem _ hc;have h2:((hdI o).getD 0,toV p o)∈toP p (o::P):=List.mem_cons_self ..;have h3:=(List.pairwise_cons.mp hf.inc).1 c hc;exact hf.zer c h1 _ h2 (by simp only at h3 ⊢;omega)
   rw[this];grind
  funext j
  unfold rest;rw[VG,z];show toV p r j-toV p r ((hdI o).getD 0)*toV p o j-(pr (toP p P) (toV p r) j-_*0)=toV p r j-(toV p r ((hdI o).getD 0)*toV p o j+pr (toP p P) (toV p r) j)
  grind
theorem vx {P:List Row}{r:Row}(hP:Part p n P) (hr:Zz p n r):hdI (ZB p P r)=none↔Mem (toP p P) (toV p r):=by
 obtain⟨a,b⟩:=UE hP.row hP.pn.rf hr;rw[<-U4,<-b]
 constructor
 ·intro h j;exact (Xn a).mpr (WB h j)
 ·intro h
  cases q:hdI (ZB p P r) with
  |none=>rfl
  |some k=>exact absurd ((Xn a).mp (h k)) (Xk q).1
end
end Rw
set_option maxRecDepth 10000
namespace Rw
open La
open Ev (ltI VP Z8)
noncomputable def YL (p:Nat) (a:Int):Int:=if a=1 then 1 else if p=3 then 2 else if a=2 then 3 else if a=3 then 2 else 4
noncomputable def Qg (p:Nat) [NeZero p] (x:Fin p):Fin p:=ph p (YL p x.val)
class Base (p:Nat):Prop where
 b:p=2\/p=3\/p=5
instance (p:Nat) [h:Base p]:NeZero p:=⟨by rcases h.b with e | e | e <;> omega⟩
section
variable {p n:Nat}[Base p]
theorem fld2:∀a:Fin 2,a≠0->Qg 2 a*a=1:=by decide
theorem fld3:∀a:Fin 3,a≠0->Qg 3 a*a=1:=by decide
theorem fld5:∀a:Fin 5,a≠0->Qg 5 a*a=1:=by decide
theorem one2:(1:Fin 2)≠0:=by decide
theorem one3:(1:Fin 3)≠0:=by decide
theorem one5:(1:Fin 5)≠0:=by decide
theorem fld:Fld (Qg p):=by
 rcases (inferInstance:Base p).b with e | e | e <;> subst e
 ·exact⟨fld2,one2⟩
 ·exact⟨fld3,one3⟩
 ·exact⟨fld5,one5⟩
theorem vH {a:Int}(h:0<=a/\a<(p:Int)):((ph p a).val:Int)=a:=by rw[XC,Int.emod_eq_of_lt h.1 h.2]
noncomputable def lead (p:Nat) (s:Row) (h:Nat):Row:=Wn p s (YL p (gt s h))
noncomputable def Qo (p:Nat) (P:List Row) (r:Row):List Row:=match hdI (ZB p P r) with
 |none=>P
 |some h=>(Z8 (P.map (λo=>clr p o (lead p (ZB p P r) h) h)++[lead p (ZB p P r) h])).reverse
noncomputable def J1 (h:Nat) (x:Row):List Row->List Row
 |[]=>[x]
 |y::P=>if h<(hdI y).getD 0 then x::y::P else y::J1 h x P
theorem VE (h:Nat) (x:Row):∀P:List Row,(J1 h x P).Perm (x::P)
 |[]=>List.Perm.refl _
 |y::P=>by
  unfold J1;split
  ·exact List.Perm.refl _
  ·exact ((VE h x P).cons y).trans (List.Perm.swap x y P)
theorem GO {h:Nat}{x:Row}(hx:hdI x=some h):∀P:List Row,toP p (J1 h x P)=ins (h,toV p x) (toP p P)
 |[]=>by show [((hdI x).getD 0,toV p x)]=_;rw[hx];rfl
 |y::P=>by
  unfold J1;show toP p (if h<(hdI y).getD 0 then _ else _)=(if h<(hdI y).getD 0 then _ else _)
  split
  ·show ((hdI x).getD 0,toV p x)::_=_;rw[hx];rfl
  ·show ((hdI y).getD 0,toV p y)::toP p (J1 h x P)=_;rw[GO hx P];rfl
theorem Qb:∀{a b:Row}{h:Nat},a.length=b.length->(∀j,j<h->gt a j=gt b j)->gt b h<gt a h->h<a.length->ltI b a=true
 |[],_,_,_,_,_,hl=>by simp at hl
 |x::a,[],_,e,_,_,_=>by simp at e
 |x::a,y::b,0,_,_,hlt,_=>by
  have:y<x:=hlt;unfold ltI;rw[if_neg (by omega)]
  exact decide_eq_true this
 |x::a,y::b,h+1,e,hj,hlt,hl=>by
  have:x=y:=hj 0 (by omega)
  unfold ltI;rw[if_pos this.symm];exact Qb (by simpa using e) (λj h'=>hj (j+1) (by omega)) hlt (by simpa using hl)
theorem vo {a b:Row}{h k:Nat}(ha:Zz p n a) (hb:Zz p n b) (h1:hdI a=some h) (h2:hdI b=some k) (hk:h<k):ltI b a=true:=by
 obtain⟨a1,a2,a3⟩:=Xk h1;obtain⟨b1,b2,b3⟩:=Xk h2;refine Qb (by rw[ha.1,hb.1]) (λj hj=>by rw[a3 j hj,b3 j (by omega)]) ?_ a2
 rw[b3 h hk];have:=(Xi ppos ha h).1;omega
theorem Part.falls {P:List Row}(hP:Part p n P):P.Pairwise λa b=>ltI b a=true:=by
 have inc:P.Pairwise λa b=>(hdI a).getD 0<(hdI b).getD 0:=by
  have:=hP.pn.rf.inc;unfold toP at this;rw[List.pairwise_map] at this;exact this
 refine List.Pairwise.imp_of_mem (λ{a b} ha hb hab=>?_) inc
 obtain⟨h,e1,_⟩:=hP.head fld.one0 ha;obtain⟨k,e2,_⟩:=hP.head fld.one0 hb;rw[e1,e2] at hab;exact vo (hP.row a ha) (hP.row b hb) e1 e2 hab
theorem Ul {P:List Row}(h:P.Pairwise λa b=>ltI b a=true):P.Nodup:=List.Pairwise.imp (λ{a b} hab e=>by
 rw[e] at hab;have:=Sd.Wh hab;rw[hab] at this;cases this) h
theorem vY {P Q:List Row}(hp:Q.Perm P) (h:Q.Pairwise λa b=>ltI b a=true):(Z8 P).reverse=Q:=by
 have hn:P.Nodup:=(hp.nodup_iff).mp (Ul h);have e:Z8 P=Q.reverse:=Sd.XM ((Sd.XE P).trans (hp.symm.trans (List.reverse_perm Q).symm)) (Sd.Wi hn) (List.pairwise_reverse.mpr h);rw[e,List.reverse_reverse]
theorem zh {P:List Row}{r:Row}(hP:Part p n P) (hr:Zz p n r):Part p n (Qo p P r)/\toP p (Qo p P r)=more (Qg p) n (toP p P) (toV p r):=by
 obtain⟨s1,s2⟩:=UE hP.row hP.pn.rf hr;have eh:=Jn s1;rw[s2] at eh;have g:=Ve fld hP.pn (Vr hr);unfold Qo;cases q:hdI (ZB p P r) with
 |none=>
  rw[q] at eh;exact⟨hP,by unfold more;rw[eh]⟩
 |some h=>
  rw[q] at eh;have em:more (Qg p) n (toP p P) (toV p r)=wid (toP p P) h (toV p (lead p (ZB p P r) h)):=by
   unfold more;rw[eh];show wid _ h _=_
   congr 1
   unfold lead;rw[y6,s2]
   funext j
   congr 1
   unfold Qg;rw[<-s2];show ph p (YL p ((ph p (gt (ZB p P r) h)).val))=_;rw[vH (Xi ppos s1 h)]
  have hl:Zz p n (lead p (ZB p P r) h):=WT s1;rw[em] at g;have mem:∀x∈wid (toP p P) h (toV p (lead p (ZB p P r) h)),hdV n x.2=some x.1:=λx hx=>G2 (g.pn.lt x hx) (by rw[g.pn.rf.one x hx];exact fld.one0) (g.pn.rf.low x hx)
  have hx:hdI (lead p (ZB p P r) h)=some h:=by
   rw[<-Jn hl];exact mem (h,toV p (lead p (ZB p P r) h)) ((Xh _ _).mem_iff.mpr (List.mem_cons_self ..))
  have e1:toP p (P.map λo=>clr p o (lead p (ZB p P r) h) h)=(toP p P).map (off h (toV p (lead p (ZB p P r) h))):=by
   unfold toP;rw[List.map_map,List.map_map];refine List.map_congr_left λo ho=>?_
   have ho':=hP.row o ho;have hc:Zz p n (clr p o (lead p (ZB p P r) h) h):=ZW ho' hl;have ev:toV p (clr p o (lead p (ZB p P r) h) h)=(off h (toV p (lead p (ZB p P r) h)) ((hdI o).getD 0,toV p o)).2:=Uz ho' hl;show ((hdI (clr p o (lead p (ZB p P r) h) h)).getD 0,toV p (clr p o (lead p (ZB p P r) h) h))=off h _ ((hdI o).getD 0,toV p o);have:=mem (off h (toV p (lead p (ZB p P r) h)) ((hdI o).getD 0,toV p o)) ((Xh _ _).mem_iff.mpr (List.mem_cons_of_mem _ (List.mem_map.mpr ⟨_,YY ho,rfl⟩)));rw[<-ev,Jn hc] at this;rw[this,ev];rfl
  have e2:toP p (J1 h (lead p (ZB p P r) h) (P.map λo=>clr p o (lead p (ZB p P r) h) h))=wid (toP p P) h (toV p (lead p (ZB p P r) h)):=by
   rw[GO hx,e1];rfl
  have hQ:Part p n (J1 h (lead p (ZB p P r) h) (P.map λo=>clr p o (lead p (ZB p P r) h) h)):=by
   refine⟨λx hx=>?_,by rw[e2];exact g.pn⟩
   rcases List.mem_cons.mp ((VE _ _ _).mem_iff.mp hx) with e | e
   ·rw[e];exact hl
   ·obtain⟨o,ho,rfl⟩:=List.mem_map.mp e
    exact ZW (hP.row o ho) hl
  have e3:=vY ((VE h (lead p (ZB p P r) h) (P.map λo=>clr p o (lead p (ZB p P r) h) h)).trans (List.perm_append_singleton _ _).symm) hQ.falls
  show Part p n (Z8 _).reverse/\toP p (Z8 _).reverse=_;rw[e3];exact⟨hQ,by rw[e2,em]⟩
noncomputable def Yn (p:Nat) (P:List Row) (rs:List Row):List Row:=rs.foldl (Qo p) P
theorem JL:∀{rs:List Row}{P:List Row},Part p n P->(∀r∈rs,Zz p n r)->Part p n (Yn p P rs)/\toP p (Yn p P rs)=W6 (Qg p) n (toP p P) (rs.map (toV p))
 |[],P,hP,_=>⟨hP,rfl⟩
 |r::rs,P,hP,hr=>by
  obtain⟨a,b⟩:=zh hP (hr r (List.mem_cons_self ..));obtain⟨c,d⟩:=JL (rs:=rs) a λx hx=>hr x (List.mem_cons_of_mem _ hx)
  refine⟨c,?_⟩;show toP p (Yn p (Qo p P r) rs)=_;rw[d,b];rfl
theorem Xj {P Q:List Row}(hP:Part p n P) (hQ:Part p n Q):Part p n (Yn p P Q)/\toP p (Yn p P Q)=join (Qg p) n (toP p P) (toP p Q):=by
 obtain⟨a,b⟩:=JL hP hQ.row;exact⟨a,by rw[b];unfold join;rw[vJ]⟩
noncomputable def ZR (P:List Row):List Nat:=P.map λr=>(hdI r).getD 0
noncomputable def Wp (n:Nat) (P:List Row):List Nat:=(List.range n).filter λj=>!(ZR P).contains j
theorem WU (P:List Row):(toP p P).map (·.1)=ZR P:=by unfold toP ZR;rw[List.map_map];rfl
theorem Qd (P:List Row):free n (toP p P)=Wp n P:=by unfold free Wp Yb;rw[WU]
noncomputable def avF (p:Nat) (P:List Row) (f:Nat) (s:Row):Row:=P.foldl (λs r=>s.set ((hdI r).getD 0) ((-(gt r f))%p)) s
noncomputable def avI (p n:Nat) (P:List Row) (f:Nat):Row:=avF p P f ((List.replicate n 0).set f 1)
theorem wE {s:Row}{i j:Nat}{x:Int}(hi:i<s.length):gt (s.set i x) j=if j=i then x else gt s j:=by
 unfold gt;simp only[List.getD_eq_getElem?_getD];rw[List.getElem?_set];by_cases c:i=j
 ·rw[if_pos c,if_pos hi,if_pos c.symm];rfl
 ·rw[if_neg c,if_neg (Ne.symm c)]
theorem yp:∀{P:List Row}{f:Nat}{s:Row},Zz p n s->Zz p n (avF p P f s)
 |[],_,_,h=>h
 |r::P,f,s,h=>by
  refine yp (P:=P) ⟨by rw[List.length_set];exact h.1,λa ha=>?_⟩
  rcases List.mem_or_eq_of_mem_set ha with z | z
  ·exact h.2 a z
  ·rw[z];exact⟨Int.emod_nonneg _ (by have:=ppos (p:=p);omega),Int.emod_lt_of_pos _ ppos⟩
theorem yd:∀{P:List Row}{f:Nat}{s:Row}(j:Nat),(∀r∈P,(hdI r).getD 0<n)->(ZR P).Pairwise (· < ·)->s.length=n->toV p (avF p P f s) j=if Yb (toP p P) j=true then av (toP p P) f j else toV p s j
 |[],_,_,j,_,_,_=>rfl
 |r::P,f,s,j,hb,hi,hl=>by
  have hi':=List.pairwise_cons.mp hi;show toV p (avF p P f (s.set ((hdI r).getD 0) ((-(gt r f))%p))) j=_;rw[yd j (λx hx=>hb x (List.mem_cons_of_mem _ hx)) hi'.2 (by rw[List.length_set];exact hl)]
  have e:av (toP p (r::P)) f j=if j=(hdI r).getD 0 then-toV p r f else av (toP p P) f j:=rfl
  have e0:Yb (toP p (r::P)) j=(decide (j=(hdI r).getD 0)||Yb (toP p P) j):=by
   unfold Yb;show (((hdI r).getD 0)::(toP p P).map (·.1)).contains j=_
   rw[List.contains_cons]
   congr 1
  cases q:Yb (toP p P) j with
  |true=>
   rw[if_pos rfl,if_pos (by rw[e0,q];simp),e,if_neg]
   intro z;have:j∈ZR P:=by rw[<-WU (p:=p)];unfold Yb at q;exact List.contains_iff_mem.mp q
   have h5:(hdI r).getD 0<j:=hi'.1 j this;omega
  |false=>
   rw[if_neg (by simp)]
   unfold toV;rw[wE (by rw[hl];exact hb r (List.mem_cons_self ..))]
   by_cases c:j=(hdI r).getD 0
   ·rw[if_pos c,if_pos (by rw[e0];simp[c]),e,if_pos c,zG,JO];rfl
   ·rw[if_neg c,if_neg (by rw[e0,q];simp[c])]
theorem vm {P:List Row}{f:Nat}(hP:Part p n P) (hf:f∈Wp n P):Zz p n (avI p n P f)/\toV p (avI p n P f)=av (toP p P) f:=by
 rw[<-Qd (p:=p)] at hf;obtain⟨f1,f2⟩:=Yz.mp hf;have hone:(1:Int)<p:=by rcases (inferInstance:Base p).b with e | e | e <;> subst e <;> decide
 have hs:Zz p n ((List.replicate n (0:Int)).set f 1):=by
  refine⟨by simp,λa ha=>?_⟩
  rcases List.mem_or_eq_of_mem_set ha with z | z
  ·rw[(List.mem_replicate.mp z).2];exact⟨by omega,ppos⟩
  ·rw[z];exact⟨by omega,hone⟩
 refine⟨yp hs,?_⟩
 funext j
 unfold avI;rw[yd (n:=n) j (λr hr=>hP.pn.lt _ (YY hr)) (by rw[<-WU (p:=p)];exact hP.pn.rf.heads) hs.1]
 cases q:Yb (toP p P) j with
 |true=>rw[if_pos rfl]
 |false=>
  rw[if_neg (by simp),WI q]
  unfold toV;rw[wE (by simpa using f1)]
  have one:ph p 1=1:=by rcases (inferInstance:Base p).b with e | e | e <;> subst e <;> rfl
  by_cases c:j=f
  ·rw[if_pos c,if_pos c,one]
  ·rw[if_neg c,if_neg c]
   have:gt (List.replicate n (0:Int)) j=0:=by
    unfold gt;rw[List.getD_eq_getElem?_getD,List.getElem?_replicate];split <;> rfl
   rw[this,WY]
noncomputable def UO (p n:Nat) (P:List Row):List Row:=Yn p [] ((Wp n P).map (avI p n P))
theorem WK {P:List Row}(hP:Part p n P):Part p n (UO p n P)/\toP p (UO p n P)=perp (Qg p) n (toP p P):=by
 obtain⟨a,b⟩:=JL (rs:=(Wp n P).map (avI p n P)) (Part.nil (p:=p) (n:=n)) λr hr=>by
  obtain⟨f,hf,rfl⟩:=List.mem_map.mp hr;exact (vm hP hf).1
 refine⟨a,?_⟩;unfold UO;rw[b];unfold perp;rw[Qd,List.map_map]
 congr 1
 exact List.map_congr_left λf hf=>(vm hP hf).2
noncomputable def YS (p n:Nat) (P Q:List Row):List Row:=UO p n (Yn p (UO p n P) (UO p n Q))
theorem GJ {P Q:List Row}(hP:Part p n P) (hQ:Part p n Q):Part p n (YS p n P Q)/\toP p (YS p n P Q)=meet (Qg p) n (toP p P) (toP p Q):=by
 obtain⟨a1,a2⟩:=WK hP;obtain⟨b1,b2⟩:=WK hQ;obtain⟨c1,c2⟩:=Xj a1 b1;obtain⟨d1,d2⟩:=WK c1;exact⟨d1,by unfold YS;rw[d2,c2,a2,b2];rfl⟩
noncomputable def Wq (p:Nat) (rs:List Row) (o:Row):List Row:=rs.flatMap λr=>(List.range p).map λ(k:Nat)=>Y0 p r o (k:Int)
noncomputable def YZ (p n:Nat) (P:List Row):List Row:=P.foldl (Wq p) [List.replicate n 0]
theorem zz (P:List Row) (o:Row):YZ p n (P++[o])=Wq p (YZ p n P) o:=by unfold YZ;rw[List.foldl_append];rfl
theorem Part.init {P:List Row}{o:Row}(h:Part p n (P++[o])):Part p n P:=by
 have mem:∀{x},x∈toP p P->x∈toP p (P++[o]):=λ{x} hx=>by unfold toP at hx ⊢;rw[List.map_append];exact List.mem_append_left _ hx
 refine⟨λr hr=>h.row r (List.mem_append_left _ hr),⟨⟨?_,λa ha=>h.pn.rf.low a (mem ha),λa ha=>h.pn.rf.one a (mem ha),λa ha b hb=>h.pn.rf.zer a (mem ha) b (mem hb)⟩,λa ha=>h.pn.lt a (mem ha),λa ha=>h.pn.sp a (mem ha)⟩⟩
 have:=h.pn.rf.inc;unfold toP at this ⊢;rw[List.map_append,List.pairwise_append] at this;exact this.1
theorem wq (P Q:Pt (Fin p)) (v:Vec (Fin p)) (j:Nat):pr (P++Q) v j=pr P v j+pr Q v j:=by
 induction P with
 |nil=>show _=0+_;grind
 |cons a P ih=>show v a.1*a.2 j+pr (P++Q) v j=v a.1*a.2 j+pr P v j+pr Q v j;rw[ih];grind
theorem Wk:∀{P:List Row},Part p n P->(∀r,r∈YZ p n P↔Zz p n r/\Mem (toP p P) (toV p r))/\(YZ p n P).Pairwise λa b=>ltI a b=true:=by
 have hz:Zz p n (List.replicate n (0:Int)):=⟨by simp,λa ha=>by rw[(List.mem_replicate.mp ha).2];exact⟨by omega,ppos⟩⟩
 have gz:∀j,gt (List.replicate n (0:Int)) j=0:=λj=>by
  unfold gt;rw[List.getD_eq_getElem?_getD,List.getElem?_replicate];split <;> rfl
 have key:∀(m:Nat) (P:List Row),P.length=m->Part p n P->(∀r,r∈YZ p n P↔Zz p n r/\Mem (toP p P) (toV p r))/\(YZ p n P).Pairwise λa b=>ltI a b=true:=by
  intro m
  induction m with
  |zero=>
   intro P hl hP;have:P=[]:=List.length_eq_zero_iff.mp hl;subst this;refine⟨λr=>?_,List.pairwise_singleton ..⟩
   show r∈[List.replicate n (0:Int)]↔_;rw[List.mem_singleton]
   constructor
   ·rintro rfl
    exact⟨hz,λj=>by show ph p (gt _ j)=0;rw[gz,WY]⟩
   ·rintro ⟨h1,h2⟩
    exact xL (by rw[h1.1,hz.1]) λj=>by rw[gz];exact (Xn h1).mp (h2 j)
  |succ m ih=>
   intro P hl hP;obtain⟨Q,o,rfl⟩:∃Q o,P=Q++[o]:=⟨P.dropLast,P.getLast (by intro z;rw[z] at hl;cases hl),(List.dropLast_concat_getLast _).symm⟩
   have hQ:=hP.init;obtain⟨ih1,ih2⟩:=ih Q (by simpa using hl) hQ
   have hoM:o∈Q++[o]:=List.mem_append_right _ (List.mem_singleton.mpr rfl);have ho:=hP.row o hoM;obtain⟨k,hk1,hk2,hk3⟩:=hP.head fld.one0 hoM;have eP:toP p (Q++[o])=toP p Q++[(k,toV p o)]:=by unfold toP;rw[List.map_append];show _++[((hdI o).getD 0,toV p o)]=_;rw[hk1];rfl
   have mo:(k,toV p o)∈toP p (Q++[o]):=by rw[eP];exact List.mem_append_right _ (List.mem_singleton.mpr rfl)
   have mq:∀{a},a∈toP p Q->a∈toP p (Q++[o]):=λ{a} ha=>by rw[eP];exact List.mem_append_left _ ha
   have hlt:∀a∈toP p Q,a.1<k:=λa ha=>by
    have:=hP.pn.rf.inc;rw[eP,List.pairwise_append] at this;exact this.2.2 a ha _ (List.mem_singleton.mpr rfl)
   have oz:∀a∈toP p Q,toV p o a.1=0:=λa ha=>hP.pn.rf.zer a (mq ha) _ mo (by have:=hlt a ha;simp only;omega)
   have qz:∀a∈toP p Q,a.2 k=0:=λa ha=>hP.pn.rf.zer _ mo a (mq ha) (by have:=hlt a ha;simp only;omega)
   have po:∀j,pr (toP p Q) (toV p o) j=0:=λj=>Xr λa ha=>by rw[oz a ha];grind
   have memP:∀u:Vec (Fin p),Mem (toP p (Q++[o])) u↔Mem (toP p Q) λj=>u j-u k*toV p o j:=λu=>by
    rw[eP]
    constructor
    ·intro h j
     have h1:=h j;rw[wq] at h1;rw[VG,po];show u j-u k*toV p o j=_;have e:pr [(k,toV p o)] u j=u k*toV p o j+0:=rfl;rw[e] at h1
     grind
    ·intro h j
     have h1:u j-u k*toV p o j=_:=h j;rw[VG,po] at h1;rw[wq];have e:pr [(k,toV p o)] u j=u k*toV p o j+0:=rfl;rw[e]
     grind
   have atk:∀r,r∈YZ p n Q->gt r k=0:=λr hr=>by
    obtain⟨h1,h2⟩:=(ih1 r).mp hr;exact (Xn h1).mp (by rw[h2 k];exact Xr λa ha=>by rw[qz a ha];grind)
   have low:∀j,j<k->gt o j=0:=(Xk hk1).2.2;have one:gt o k=1:=UU (Xi ppos ho k) ⟨by omega,by rcases (inferInstance:Base p).b with e | e | e <;> subst e <;> decide⟩ (by
    have:ph p (gt o k)=1:=hk3;rw[this];rcases (inferInstance:Base p).b with e | e | e <;> subst e <;> rfl)
   rw[zz];refine⟨λr=>?_,?_⟩
   ·unfold Wq
    rw[List.mem_flatMap]
    constructor
    ·rintro ⟨s,hs,hr⟩
     obtain⟨c,hc,rfl⟩:=List.mem_map.mp hr;obtain⟨h1,h2⟩:=(ih1 s).mp hs;refine⟨ZW h1 ho,?_⟩;rw[Wu h1 ho];refine Xw _ ?_ (Xt hP.pn.rf mo);rw[memP];have z:toV p s k=0:=(Xn h1).mpr (atk s hs);have e:(λj=>toV p s j-toV p s k*toV p o j)=toV p s:=by funext j;rw[z];grind
     rw[e];exact h2
    ·rintro ⟨h1,h2⟩
     have hb:=Xi ppos h1 k;refine⟨Y0 p r o (-(gt r k)),(ih1 _).mpr ⟨ZW h1 ho,?_⟩,List.mem_map.mpr ⟨(gt r k).toNat,List.mem_range.mpr (by omega),?_⟩⟩
     ·rw[Wu h1 ho,JO]
      have:=(memP _).mp h2;have e:(λj=>toV p r j + -ph p (gt r k)*toV p o j)=λj=>toV p r j-toV p r k*toV p o j:=by funext j;show _ + -(toV p r k)*_=_;grind
      rw[e];exact this
     ·refine Jc (ZW (ZW h1 ho) ho) h1 ?_
      rw[Wu (ZW h1 ho) ho,Wu h1 ho]
      funext j
      rw[show (((gt r k).toNat:Nat):Int)=gt r k by omega,JO]
      grind
   ·unfold Wq
    rw[List.pairwise_flatMap];refine⟨λs hs=>?_,?_⟩
    ·have h1:=((ih1 s).mp hs).1
     rw[List.pairwise_map];refine List.Pairwise.imp_of_mem (λ{a b} ha hb hab=>?_) List.pairwise_lt_range
     have hb':=List.mem_range.mp hb;refine Qb (h:=k) (by rw[(ZW h1 ho).1,(ZW h1 ho).1]) (λj hj=>by rw[XT h1 ho,XT h1 ho,low j hj];simp) ?_ (by rw[(ZW h1 ho).1];exact hk2)
     rw[XT h1 ho,XT h1 ho,atk s hs,one];rw[Int.emod_eq_of_lt (by omega) (by omega),Int.emod_eq_of_lt (by omega) (by omega)]
     omega
    ·refine List.Pairwise.imp_of_mem (λ{s t} hs ht hst=>?_) ih2
     have h1:=(ih1 s).mp hs;have h2:=(ih1 t).mp ht;intro x hx y hy;obtain⟨a,_,rfl⟩:=List.mem_map.mp hx;obtain⟨b,_,rfl⟩:=List.mem_map.mp hy;have hd:Mem (toP p Q) λj=>toV p t j-1*toV p s j:=X7 1 h2.2 h1.2
     have:∃d,(toV p t d-1*toV p s d≠0)/\∀j,j<d->toV p t j-1*toV p s j=0:=by
      cases q:hdV n (λj=>toV p t j-1*toV p s j) with
      |none=>
       exfalso
       have e:toV p t=toV p s:=by
        funext j
        have:=J7 (n:=n) (v:=λj=>toV p t j-1*toV p s j) (λj hj=>by show toV p t j-1*toV p s j=0;rw[Vr h2.1 j hj,Vr h1.1 j hj];grind) q j
        grind
       have e2:=Jc h2.1 h1.1 e;rw[e2] at hst;have:=Sd.Wh hst;rw[hst] at this;cases this
      |some d=>exact⟨d,(UR q).2⟩
     obtain⟨d,d1,d2⟩:=this;obtain⟨c,hc,rfl⟩:=GI hQ.pn.rf hd d1 d2;have hck:=hlt c hc;have heq:∀j,j<c.1->gt t j=gt s j:=λj hj=>UU (Xi ppos h2.1 j) (Xi ppos h1.1 j) (by
      have:=d2 j hj;show toV p t j=toV p s j
      grind)
     have hne:gt t c.1≠gt s c.1:=λz=>d1 (by show ph p (gt t c.1)-1*ph p (gt s c.1)=0;rw[z];grind)
     have hcn:=hQ.pn.lt c hc;have hst':gt s c.1<gt t c.1:=by
      by_cases z:gt s c.1<gt t c.1
      ·exact z
      ·exfalso
       have:=Qb (a:=s) (b:=t) (h:=c.1) (by rw[h1.1.1,h2.1.1]) (λj hj=>(heq j hj).symm) (by omega) (by rw[h1.1.1];exact hcn)
       rw[Sd.Wh hst] at this;cases this
     have vs:∀j,j<=c.1->gt (Y0 p s o a) j=gt s j:=λj hj=>by
      rw[XT h1.1 ho,low j (by omega)]
      have:=Xi ppos h1.1 j;rw[show gt s j+(a:Int)*0=gt s j by omega,Int.emod_eq_of_lt this.1 this.2]
     have vt:∀j,j<=c.1->gt (Y0 p t o b) j=gt t j:=λj hj=>by
      rw[XT h2.1 ho,low j (by omega)]
      have:=Xi ppos h2.1 j;rw[show gt t j+(b:Int)*0=gt t j by omega,Int.emod_eq_of_lt this.1 this.2]
     refine Qb (h:=c.1) (by rw[(ZW h1.1 ho).1,(ZW h2.1 ho).1]) (λj hj=>by rw[vs j (by omega),vt j (by omega),heq j hj]) (by rw[vs _ (Nat.le_refl _),vt _ (Nat.le_refl _)];exact hst') (by rw[(ZW h2.1 ho).1];exact hcn)
 exact λ{P} hP=>key P.length P rfl hP
end
end Rw
set_option maxRecDepth 10000
namespace Rw
open La
open Ev (ltI VP Z8)
section
variable {p n:Nat}[Base p]
noncomputable abbrev Mm (p:Nat) [NeZero p] (P:List Row) (u:Vec (Fin p)):Prop:=Mem (toP p P) u
theorem eqP {A B:List Row}(hA:Part p n A) (hB:Part p n B) (h:∀u,Mm p A u↔Mm p B u):A=B:=uM hA.row hB.row (xU fld hA.pn hB.pn h)
theorem yy {P Q:List Row}(hP:Part p n P) (hQ:Part p n Q) (u:Vec (Fin p)):Mm p (Yn p P Q) u↔∃q,Mm p Q q/\Mm p P λj=>u j-q j:=by
 unfold Mm;rw[(Xj hP hQ).2];exact Wz fld hP.pn hQ.pn u
theorem YV {P Q:List Row}(hP:Part p n P) (hQ:Part p n Q) {u:Vec (Fin p)}(h:Mm p P u):Mm p (Yn p P Q) u:=by
 unfold Mm;rw[(Xj hP hQ).2];exact QD fld hP.pn hQ.pn h
theorem YI {P Q:List Row}(hP:Part p n P) (hQ:Part p n Q) {u:Vec (Fin p)}(h:Mm p Q u):Mm p (Yn p P Q) u:=by
 unfold Mm;rw[(Xj hP hQ).2];exact W9 fld hP.pn hQ.pn h
theorem YX {P Q R:List Row}(hP:Part p n P) (hQ:Part p n Q) (h1:∀u,Mm p P u->Mm p R u) (h2:∀u,Mm p Q u->Mm p R u) {u:Vec (Fin p)}(h:Mm p (Yn p P Q) u):Mm p R u:=by
 unfold Mm at h;rw[(Xj hP hQ).2] at h;exact Qq fld hP.pn hQ.pn h1 h2 h
theorem Yg {P Q:List Row}(hP:Part p n P) (hQ:Part p n Q) (u:Vec (Fin p)):Mm p (YS p n P Q) u↔Mm p P u/\Mm p Q u:=by
 unfold Mm;rw[(GJ hP hQ).2];exact x6 fld hP.pn hQ.pn u
theorem pJ {P Q:List Row}(hP:Part p n P) (hQ:Part p n Q):Part p n (Yn p P Q):=(Xj hP hQ).1
theorem pM {P Q:List Row}(hP:Part p n P) (hQ:Part p n Q):Part p n (YS p n P Q):=(GJ hP hQ).1
theorem sizes {P Q:List Row}(hP:Part p n P) (hQ:Part p n Q):(Yn p P Q).length+(YS p n P Q).length=P.length+Q.length:=by
 have:=xx fld hP.pn hQ.pn (pM hP hQ).pn (Yg hP hQ);rw[<-(Xj hP hQ).2] at this
 simpa only[zI] using this
theorem V7 {P Q:List Row}(hP:Part p n P) (hQ:Part p n Q):Yn p P Q=Yn p Q P:=eqP (pJ hP hQ) (pJ hQ hP) λu=>
 ⟨YX hP hQ (λu=>YI hQ hP) λu=>YV hQ hP,YX hQ hP (λu=>YI hP hQ) λu=>YV hP hQ⟩
theorem yU {P Q:List Row}(hP:Part p n P) (hQ:Part p n Q):YS p n P Q=YS p n Q P:=eqP (pM hP hQ) (pM hQ hP) λu=>by
 rw[Yg hP hQ,Yg hQ hP];exact And.comm
theorem US {P Q:List Row}(hP:Part p n P) (hQ:Part p n Q) (h:∀u,Mm p P u->Mm p Q u):Yn p P Q=Q:=eqP (pJ hP hQ) hQ λu=>
 ⟨YX hP hQ h λ_ h=>h,YI hP hQ⟩
theorem wA {P Q:List Row}(hP:Part p n P) (hQ:Part p n Q) (h:∀u,Mm p Q u->Mm p P u):Yn p P Q=P:=by rw[V7 hP hQ];exact US hQ hP h
theorem ur {P:List Row}(u:Vec (Fin p)) (h:Mm p ([]:List Row) u):Mm p P u:=by
 have e:u=λ_=>0:=funext λj=>h j
 rw[e];exact XJ
theorem yA {P:List Row}(hP:Part p n P):Yn p [] P=P:=US Part.nil hP ur
theorem yB {P Q:List Row}(hP:Part p n P) (hQ:Part p n Q):Yn p [] (Q++P)=Yn p P Q:=by
 have e:Yn p [] (Q++P)=Yn p (Yn p [] Q) P:=by unfold Yn;rw[List.foldl_append]
 rw[e,yA hQ,V7 hQ hP]
theorem GH {P Q:List Row}(hP:Part p n P) (hQ:Part p n Q) (h:∀u,Mm p P u->Mm p Q u):YS p n P Q=P:=eqP (pM hP hQ) hP λu=>by
 rw[Yg hP hQ];exact⟨λh=>h.1,λz=>⟨z,h u z⟩⟩
theorem zy {P Q R:List Row}(hP:Part p n P) (hQ:Part p n Q) (hR:Part p n R):Yn p (Yn p P Q) R=Yn p P (Yn p Q R):=by
 have h1:=pJ hP hQ;have h2:=pJ hQ hR;refine eqP (pJ h1 hR) (pJ hP h2) λu=>⟨YX h1 hR (λu=>YX hP hQ (λu=>YV hP h2) λu h=>YI hP h2 (YV hQ hR h)) λu h=>YI hP h2 (YI hQ hR h),YX hP h2 (λu h=>YV h1 hR (YV hP hQ h)) λu=>YX hQ hR (λu h=>YV h1 hR (YI hP hQ h)) λu=>YI h1 hR⟩
theorem zB {P Q R:List Row}(hP:Part p n P) (hQ:Part p n Q) (hR:Part p n R):YS p n (YS p n P Q) R=YS p n P (YS p n Q R):=eqP (pM (pM hP hQ) hR) (pM hP (pM hQ hR)) λu=>by
 rw[Yg (pM hP hQ) hR,Yg hP hQ,Yg hP (pM hQ hR),Yg hQ hR];exact and_assoc
theorem modular {P Q W:List Row}(hP:Part p n P) (hQ:Part p n Q) (hW:Part p n W) (h:∀u,Mm p P u->Mm p W u):Yn p P (YS p n Q W)=YS p n (Yn p P Q) W:=by
 have hM:=pM hQ hW;have hJ:=pJ hP hQ;refine eqP (pJ hP hM) (pM hJ hW) λu=>?_
 rw[Yg hJ hW]
 constructor
 ·intro hu
  refine⟨?_,?_⟩
  ·exact YX hP hM (λu=>YV hP hQ) (λu hu=>YI hP hQ ((Yg hQ hW u).mp hu).1) hu
  ·exact YX hP hM h (λu hu=>((Yg hQ hW u).mp hu).2) hu
 ·rintro ⟨h1,h2⟩
  obtain⟨q,hq,hp⟩:=(yy hP hQ u).mp h1;refine (yy hP hM u).mpr ⟨q,(Yg hQ hW q).mpr ⟨hq,?_⟩,hp⟩;have:=X7 1 h2 (h _ hp);have e:(λj=>u j-1*(u j-q j))=q:=by funext j;grind
  rw[e] at this;exact this
noncomputable def YD (p:Nat) (P:List Row) (r:Row):Bool:=(hdI (ZB p P r)).isNone
theorem YU {P:List Row}{r:Row}(hP:Part p n P) (hr:Zz p n r):YD p P r=true↔Mm p P (toV p r):=by
 unfold Mm;rw[<-vx hP hr];unfold YD;cases hdI (ZB p P r) <;> simp
theorem X4 {P Q:List Row}(hP:Part p n P) (hQ:Part p n Q):P.all (YD p Q)=true↔∀u,Mm p P u->Mm p Q u:=by
 rw[List.all_eq_true]
 constructor
 ·intro h u hu
  have gen:∀R:Pt (Fin p),(∀a∈R,Mm p Q a.2)->Mm p Q (pr R u):=by
   intro R
   induction R with
   |nil=>intro _;exact XJ
   |cons a R ih=>
    intro hR;have:=Xw (u a.1) (ih λb hb=>hR b (List.mem_cons_of_mem _ hb)) (hR a (List.mem_cons_self ..))
    have e:(λj=>pr R u j+u a.1*a.2 j)=pr (a::R) u:=by funext j;show _=u a.1*a.2 j+pr R u j;grind
    rw[e] at this;exact this
  have:=gen (toP p P) λa ha=>by
   unfold toP at ha;obtain⟨r,hr,rfl⟩:=List.mem_map.mp ha;exact (YU hQ (hP.row r hr)).mp (h r hr)
  have e:pr (toP p P) u=u:=funext λj=>(hu j).symm
  rw[e] at this;exact this
 ·intro h r hr
  exact (YU hQ (hP.row r hr)).mpr (h _ (Xt hP.pn.rf (YY hr)))
noncomputable def beyond (p n:Nat) (P Q:List Row):Option Row:=(YZ p n P).find? λr=>!YD p Q r
theorem Ug {P Q:List Row}(hP:Part p n P) (hQ:Part p n Q):beyond p n P Q=none↔P.all (YD p Q)=true:=by
 unfold beyond;rw[List.find?_eq_none,X4 hP hQ]
 constructor
 ·intro h
  refine (X4 hP hQ).mp (List.all_eq_true.mpr λr hr=>?_)
  have:=h r (((Wk hP).1 r).mpr ⟨hP.row r hr,Xt hP.pn.rf (YY hr)⟩)
  simpa using this
 ·intro h r hr
  obtain⟨a,b⟩:=((Wk hP).1 r).mp hr;have:=(YU hQ a).mpr (h _ b);simp[this]
theorem J4 {P Q:List Row}{r:Row}(hP:Part p n P) (hQ:Part p n Q) (h:beyond p n P Q=some r):Zz p n r/\YD p P r=true/\YD p Q r=false:=by
 unfold beyond at h;have h1:=List.mem_of_find?_eq_some h;have h2:=List.find?_some h;obtain⟨a,b⟩:=((Wk hP).1 r).mp h1;exact⟨a,(YU hP a).mpr b,by simpa using h2⟩
theorem yW {P Q:List Row}(hP:Part p n P) (hQ:Part p n Q):YZ p n (YS p n P Q)=(YZ p n P).filter (YD p Q):=by
 have hM:=pM hP hQ;obtain⟨a1,a2⟩:=Wk hM;obtain⟨b1,b2⟩:=Wk hP;have c2:=List.Pairwise.filter (YD p Q) b2;have nd:∀{l:List Row},l.Pairwise (λa b=>ltI a b=true)->l.Nodup:=λ{l} h=>List.Pairwise.imp (λ{a b} hab e=>by
  rw[e] at hab;have:=Sd.Wh hab;rw[hab] at this;cases this) h
 refine Sd.XM ((List.perm_ext_iff_of_nodup (nd a2) (nd c2)).mpr λr=>?_) a2 c2
 rw[a1,List.mem_filter,b1]
 constructor
 ·rintro ⟨h1,h2⟩
  have:=(Yg hP hQ _).mp h2;exact⟨⟨h1,this.1⟩,(YU hQ h1).mpr this.2⟩
 ·rintro ⟨⟨h1,h2⟩,h3⟩
  exact⟨h1,(Yg hP hQ _).mpr ⟨h2,(YU hQ h1).mp h3⟩⟩
theorem yx {F:Type}[Lean.Grind.CommRing F]{x:Nat×Vec F}:∀{P:Pt F},(∀a∈P,a.1<x.1)->ins x P=P++[x]
 |[],_=>rfl
 |y::P,h=>by
  unfold ins;rw[if_neg (by have:=h y (List.mem_cons_self ..);omega),yx λa ha=>h a (List.mem_cons_of_mem _ ha)];rfl
theorem xi {P:List Row}{l:Row}{j:Nat}(hP:Part p n P) (hl:Zz p n l) (hj:j<n) (h1:gt l j=1) (h0:∀i,i<j->gt l i=0) (hh:∀r∈P,(hdI r).getD 0<j):Part p n (P.map (λo=>clr p o l j)++[l])/\∀r∈P.map (λo=>clr p o l j)++[l],(hdI r).getD 0<j+1:=by
 have one:ph p 1=1:=by rcases (inferInstance:Base p).b with e | e | e <;> subst e <;> rfl
 have hlt:∀a∈toP p P,a.1<j:=λa ha=>by
  unfold toP at ha;obtain⟨r,hr,rfl⟩:=List.mem_map.mp ha;exact hh r hr
 have L:Lead (toP p P) j (toV p l):=⟨by unfold toV;rw[h1,one],λi hi=>(Xn hl).mpr (h0 i hi),λa ha=>(Xn hl).mpr (h0 _ (hlt a ha))⟩
 have rf:=x8 fld.one0 hP.pn.rf L;have ew:wid (toP p P) j (toV p l)=(toP p P).map (off j (toV p l))++[(j,toV p l)]:=yx λa ha=>by
  obtain⟨b,hb,rfl⟩:=List.mem_map.mp ha;exact hlt b hb
 have hx:hdI l=some j:=jf (by rw[h1];decide) h0
 have hmem:∀o∈P,off j (toV p l) ((hdI o).getD 0,toV p o)∈wid (toP p P) j (toV p l):=λo ho=>by
  rw[ew];exact List.mem_append_left _ (List.mem_map.mpr ⟨_,YY ho,rfl⟩)
 have eh:∀o∈P,hdI (clr p o l j)=some ((hdI o).getD 0):=λo ho=>by
  have ho':=hP.row o ho;have hc:Zz p n (clr p o l j):=ZW ho' hl;have ev:toV p (clr p o l j)=(off j (toV p l) ((hdI o).getD 0,toV p o)).2:=Uz ho' hl;rw[<-Jn hc,ev];exact G2 (hP.pn.lt _ (YY ho)) (λz=>fld.one0 ((rf.one _ (hmem o ho)).symm.trans z)) (rf.low _ (hmem o ho))
 have eP:toP p (P.map (λo=>clr p o l j)++[l])=wid (toP p P) j (toV p l):=by
  rw[ew];unfold toP;rw[List.map_append,List.map_map,List.map_map]
  congr 1
  ·refine List.map_congr_left λo ho=>?_
   show ((hdI (clr p o l j)).getD 0,toV p (clr p o l j))=off j _ ((hdI o).getD 0,toV p o);rw[eh o ho,Uz (hP.row o ho) hl];rfl
  ·show [((hdI l).getD 0,toV p l)]=_
   rw[hx];rfl
 have hrow:∀r∈P.map (λo=>clr p o l j)++[l],Zz p n r:=λr hr=>by
  rcases List.mem_append.mp hr with z | z
  ·obtain⟨o,ho,rfl⟩:=List.mem_map.mp z
   exact ZW (hP.row o ho) hl
  ·rw[List.mem_singleton.mp z];exact hl
 refine⟨⟨hrow,⟨by rw[eP];exact rf,λa ha=>?_,λa ha=>?_⟩⟩,λr hr=>?_⟩
 ·unfold toP at ha
  obtain⟨r,hr,rfl⟩:=List.mem_map.mp ha;rcases List.mem_append.mp hr with z | z
  ·obtain⟨o,ho,rfl⟩:=List.mem_map.mp z
   show (hdI _).getD 0<n;rw[eh o ho];exact hP.pn.lt _ (YY ho)
  ·rw[List.mem_singleton.mp z];show (hdI l).getD 0<n;rw[hx];exact hj
 ·unfold toP at ha
  obtain⟨r,hr,rfl⟩:=List.mem_map.mp ha;exact Vr (hrow r hr)
 ·rcases List.mem_append.mp hr with z | z
  ·obtain⟨o,ho,rfl⟩:=List.mem_map.mp z
   rw[eh o ho];have:=hh o ho;show (hdI o).getD 0<j+1;omega
  ·rw[List.mem_singleton.mp z,hx];show j<j+1;omega
theorem uX {a:Int}(h0:0<a) (h1:a<p):YL p a*a%p=1:=by
 rcases (inferInstance:Base p).b with e | e | e <;> subst e
 ·have:a=1:=by omega
  subst this;rfl
 ·have:a=1\/a=2:=by omega
  rcases this with e | e <;> subst e <;> rfl
 ·have:a=1\/a=2\/a=3\/a=4:=by omega
  rcases this with e | e | e | e <;> subst e <;> rfl
theorem wN {a:Int}(h0:0<a) (h1:a<p):(List.range p).filter (λk:Nat=>decide ((k:Int)*a%p=1))=[(YL p a).toNat]/\((YL p a).toNat:Int)=YL p a:=by
 rcases (inferInstance:Base p).b with e | e | e <;> subst e
 ·have:a=1:=by omega
  subst this;exact⟨rfl,rfl⟩
 ·have:a=1\/a=2:=by omega
  rcases this with e | e <;> subst e <;> exact⟨rfl,rfl⟩
 ·have:a=1\/a=2\/a=3\/a=4:=by omega
  rcases this with e | e | e | e <;> subst e <;> exact⟨rfl,rfl⟩
structure Red (p n:Nat) [NeZero p] (j:Nat) (rest found:List Row):Prop where
 row:∀r∈rest,Zz p n r
 low:∀r∈rest,∀i,i<j->gt r i=0
 part:Part p n found
 head:∀r∈found,(hdI r).getD 0<j
theorem wF {j:Nat}{rest found:List Row}(h:Red p n j rest found) (hz:∀r∈rest,gt r j=0):Red p n (j+1) rest found:=
 ⟨h.row,λr hr i hi=>by
   by_cases c:i=j
   ·rw[c];exact hz r hr
   ·exact h.low r hr i (by omega),h.part,λr hr=>by have:=h.head r hr;omega⟩
theorem vg {j:Nat}{rest found:List Row}{f:Row}(h:Red p n j rest found) (hj:j<n) (hf:f∈rest) (hz:gt f j≠0):Red p n (j+1) (rest.map λr=>clr p r (lead p f j) j) (found.map (λr=>clr p r (lead p f j) j)++[lead p f j]):=by
 have hfr:=h.row f hf;have hg:=Xi ppos hfr j;have hl:Zz p n (lead p f j):=WT hfr;have h1:gt (lead p f j) j=1:=by unfold lead;rw[UM];exact uX (by omega) hg.2
 have h0:∀i,i<j->gt (lead p f j) i=0:=λi hi=>by unfold lead;rw[UM,h.low f hf i hi];simp
 obtain⟨a,b⟩:=xi h.part hl hj h1 h0 h.head;refine⟨λr hr=>?_,λr hr i hi=>?_,a,b⟩
 ·obtain⟨o,ho,rfl⟩:=List.mem_map.mp hr
  exact ZW (h.row o ho) hl
 ·obtain⟨o,ho,rfl⟩:=List.mem_map.mp hr
  unfold clr;rw[XT (h.row o ho) hl];by_cases c:i=j
  ·rw[c,h1]
   rw[show gt o j + -(gt o j)*1=0 by omega];rfl
  ·rw[h.low o ho i (by omega),h0 i (by omega)];simp
end
end Rw
namespace Pv
open Ev
open Rw
theorem Zc {α β:Type}{a:α}{s:DS}{f:α->DS->PR β}:(PR.ok a s).bind f=f a s:=rfl
theorem UY {F:List Fn}{tk d f:Nat}{vs:List V}{s:DS}{fn:Fn}(hf:F[f]? = some fn) (hne:f≠tk) (hl:vs.length=fn.ps):Yh F tk (d+1) f vs s=(rvs (Yh F tk d) (muts fn.body) fn.body (Zp fn.ns vs) [] s).bind λg s=>match g with
  |.ret v=>.ok v s
  |.nx _ _=>.ok .non s
  |_=>.no:=by
 rw[Yh,if_neg hne,hf];show (if vs.length=fn.ps then _ else _)=_
 rw[if_pos hl]
 all_goals rfl
theorem takeF_ok (s:DS) {m:Int}(h:0<m):0<=(takeF s m).1/\(takeF s m).1<m:=by
 unfold takeF;split
 ·exact⟨Int.emod_nonneg _ (by omega),Int.emod_lt_of_pos _ h⟩
 ·exact⟨Int.emod_nonneg _ (by omega),Int.emod_lt_of_pos _ h⟩
theorem vF {F:List Fn}{tk d:Nat}{m:Int}(s:DS) (h0:0<m) (h1:m<1073741824):∃v s',Yh F tk (d+1) tk [.drw,.int m] s=.ok (.int v) s'/\0<=v/\v<m:=by
 refine⟨(takeF s m).1,(takeF s m).2,?_,takeF_ok s h0⟩;rw[Yh,if_pos rfl];show (if 0<m/\m<1073741824 then _ else _)=_
 rw[if_pos ⟨h0,h1⟩]
theorem Qf {α:Type}{f:V->DS->PR (List V)}{s:DS}{e:α->V}{g:α->V}:∀{l:List α},(∀x∈l,f (e x) s=.ok [g x] s)->mapP f (l.map e) s=.ok (l.map g) s
 |[],_=>rfl
 |x::l,h=>by
  rw[List.map_cons,mapP,h x (List.mem_cons_self ..)];show (match mapP f (l.map e) s with | .ok zs s=>PR.ok ([g x]++zs) s | _=>.no)=_
  rw[Qf λy hy=>h y (List.mem_cons_of_mem _ hy)];rfl
theorem Ue {α:Type}{f:V->DS->PR (List V)}{s:DS}{e:α->V}{g:α->V}{q:α->Bool}:∀{l:List α},(∀x∈l,f (e x) s=.ok (if q x=true then [g x] else []) s)->mapP f (l.map e) s=.ok ((l.filter q).map g) s
 |[],_=>rfl
 |x::l,h=>by
  rw[List.map_cons,mapP,h x (List.mem_cons_self ..)];show (match mapP f (l.map e) s with | .ok zs s=>PR.ok ((if q x=true then [g x] else [])++zs) s | _=>.no)=_
  rw[Ue λy hy=>h y (List.mem_cons_of_mem _ hy),List.filter_cons]
  show PR.ok _ s=_;cases q x <;> rfl
theorem QM {α:Type}{f:V->DS->PR (List V)}{s:DS}{e:α->V}{g:α->List V}:∀{l:List α},(∀x∈l,f (e x) s=.ok (g x) s)->mapP f (l.map e) s=.ok (l.flatMap g) s
 |[],_=>rfl
 |x::l,h=>by
  rw[List.map_cons,mapP,h x (List.mem_cons_self ..)];show (match mapP f (l.map e) s with | .ok zs s=>PR.ok (g x++zs) s | _=>.no)=_
  rw[QM λy hy=>h y (List.mem_cons_of_mem _ hy)];rfl
theorem QP {f:V->DS->PR (List V)}{Q:V->Prop}(h:∀x s,∃y s',f x s=.ok [y] s'/\Q y):∀(l:List V) (s:DS),∃ys s',mapP f l s=.ok ys s'/\ys.length=l.length/\∀y∈ys,Q y
 |[],s=>⟨[],s,rfl,rfl,λ_ h=>by cases h⟩
 |x::l,s=>by
  obtain⟨y,s1,e1,q1⟩:=h x s;obtain⟨ys,s2,e2,l2,q2⟩:=QP h l s1;refine⟨y::ys,s2,?_,by rw[List.length_cons,List.length_cons,l2],λz hz=>?_⟩
  ·rw[mapP,e1]
   show (match mapP f l s1 with | .ok zs s=>PR.ok ([y]++zs) s | _=>.no)=_
   rw[e2];rfl
  ·rcases List.mem_cons.mp hz with rfl | hz
   ·exact q1
   ·exact q2 z hz
theorem QG {σ α:Type}{body:V->Env->List Nat->DS->PR FlV}{s:DS}{os:List Nat}{ρ:σ->Option V->Env}{step:σ->α->σ}{e:α->V}(I:σ->Prop):∀{l:List α}{st:σ}{o:Option V},I st->(∀x∈l,∀st o,I st->I (step st x)/\∃o',body (e x) (ρ st o) os s=.ok (.nx (ρ (step st x) o') os) s)->∃o',I (l.foldl step st)/\Vc body (l.map e) (ρ st o) os s=.ok (.nx (ρ (l.foldl step st) o') os) s
 |[],st,o,hI,_=>⟨o,hI,rfl⟩
 |x::l,st,o,hI,h=>by
  obtain⟨h1,o1,e1⟩:=h x (List.mem_cons_self ..) st o hI;obtain⟨o2,h2,e2⟩:=QG I (l:=l) (st:=step st x) (o:=o1) h1 λy hy=>h y (List.mem_cons_of_mem _ hy)
  refine⟨o2,h2,?_⟩;rw[List.map_cons,Vc,e1];exact e2
noncomputable def UN:Option Nat->V
 |none=>.non
 |some k=>.int k
noncomputable def Zg (P:List Row):V:=.tup (P.map Zk)
noncomputable def spV (p n:Nat):V:=.tup [.int p,.int n]
theorem Yd {a:Int}(h:-4294967296<a) (h':a<4294967296):fits a=true:=by
 unfold fits;refine decide_eq_true ?_;have h1:a.natAbs<2^32:=by omega
 exact Nat.lt_of_lt_of_le h1 (Nat.pow_le_pow_right (by decide) (by decide))
theorem GZ {α:Type}{xs:List α}{k:Nat}{x:α}(h:xs[k]? = some x):at' xs (k:Int)=some x:=by
 have hk:k<xs.length:=(List.getElem?_eq_some_iff.mp h).1;unfold at' ixN;rw[if_pos (by omega),if_pos (by omega)]
 show xs[(k:Int).toNat]? = _;rw[show (k:Int).toNat=k by omega];exact h
theorem WE {r:Row}{k:Nat}(hk:k<r.length):at' (r.map V.int) (k:Int)=some (.int (gt r k)):=by
 refine GZ ?_;rw[List.getElem?_map,List.getElem?_eq_getElem hk];unfold gt;rw[List.getD_eq_getElem?_getD,List.getElem?_eq_getElem hk];rfl
theorem Xc {α:Type}{g:α->Bool}:∀l:List α,Yr (l.map λx=>.bl (g x))=some (l.map g)
 |[]=>rfl
 |x::l=>by rw[List.map_cons,Yr,Xc l];rfl
theorem VB {α:Type}{f:V->V->Option Bool}{e:α->V}{d:α->α->Bool}(hd:∀a b,d a b=true↔a=b) (h:∀a b,f (e a) (e b)=some (d a b)):∀a b:List α,∃c,Vb f (a.map e) (b.map e)=some c/\(c=true↔a=b)
 |[],[]=>⟨true,rfl,by simp⟩
 |[],_::_=>⟨false,rfl,by simp⟩
 |_::_,[]=>⟨false,rfl,by simp⟩
 |x::a,y::b=>by
  obtain⟨c,e1,e2⟩:=VB hd h a b;refine⟨d x y&&c,?_,?_⟩
  ·rw[List.map_cons,List.map_cons,Vb,h,e1]
  ·rw[Bool.and_eq_true,hd,e2];simp
theorem ym (k:Nat) (a b:Row):eqV (k+2) (Zk a) (Zk b)=some (decide (a=b)):=by
 show Vb (eqV (k+1)) (a.map .int) (b.map .int)=_;obtain⟨c,e1,e2⟩:=VB (f:=eqV (k+1)) (e:=V.int) (d:=λa b=>decide (a=b)) (λa b=>by simp) (λa b=>rfl) a b
 rw[e1,show c=decide (a=b) by rw[Bool.eq_iff_iff,e2];simp]
theorem Ga (k:Nat) (a b:List Row):eqV (k+3) (Zg a) (Zg b)=some (decide (a=b)):=by
 show Vb (eqV (k+2)) (a.map Zk) (b.map Zk)=_;obtain⟨c,e1,e2⟩:=VB (f:=eqV (k+2)) (e:=Zk) (d:=λa b=>decide (a=b)) (λa b=>by simp) (λa b=>ym k a b) a b
 rw[e1,show c=decide (a=b) by rw[Bool.eq_iff_iff,e2];simp]
theorem wu (k:Nat) (a b:List Row):eqV (k+3) (.lst (a.map Zk)) (.lst (b.map Zk))=some (decide (a=b)):=by
 show (if (a.map Zk).length=(b.map Zk).length then Vb (eqV (k+2)) (a.map Zk) (b.map Zk) else some false)=_
 obtain⟨c,e1,e2⟩:=VB (f:=eqV (k+2)) (e:=Zk) (d:=λa b=>decide (a=b)) (λa b=>by simp) (λa b=>ym k a b) a b
 split
 ·rw[e1,show c=decide (a=b) by rw[Bool.eq_iff_iff,e2];simp]
 ·rename_i h
  have:¬a=b:=λz=>h (by rw[z])
  simp[this]
theorem U0:∀(r o:Row),((r.map V.int).zip (o.map V.int)).map (λq=>V.tup [q.1,q.2])=(r.zip o).map λq=>V.tup [.int q.1,.int q.2]
 |[],_=>rfl
 |_::_,[]=>rfl
 |a::r,b::o=>by rw[List.map_cons,List.map_cons,List.zip_cons_cons,List.map_cons,List.zip_cons_cons,List.map_cons,U0 r o]
theorem Q8:∀r:Row,intsV (r.map V.int)=some r
 |[]=>rfl
 |a::r=>by show (intsV (r.map V.int)).map (a :: ·)=_;rw[Q8 r];rfl
theorem QK:∀P:List Row,X0 (P.map Zk)=some P
 |[]=>rfl
 |r::P=>by
  show (match intsV (r.map V.int),X0 (P.map Zk) with | some a,some b=>some (a::b) | _,_=>none)=_
  rw[Q8,QK P]
theorem Va:∀r:Row,flats (r.map V.int)=true
 |[]=>rfl
 |a::r=>Va r
theorem uS (n:Nat):Xu 0 n=(List.range n).map λ(k:Nat)=>V.int (k:Int):=by
 unfold Xu;refine List.map_congr_left λk _=>?_
 simp
theorem Zi {α:Type}{a:α}{s:DS}:po (some a) s=.ok a s:=rfl
section
variable {C:Z5}{cap:List Nat}{nl:Nat}{t:List Nat}{it:W}{elt tst:E}{ρ:Env}{s:DS}{α:Type}
theorem Z7 {l:List α}{e g:α->V}(hw:pvw C it ρ s=.ok (l.map e) s) (hl:l.length<=lim) (h:∀x∈l,∃σ,ZI t (e x) (Zj cap nl ρ)=some σ/\pv C elt σ s=.ok (g x) s) (ho:own nl t=true:=by rfl):pv C (.comp1 cap nl t it [] elt) ρ s=.ok (.lst (l.map g)) s:=by
 rw[pv,if_pos ho,hw,Zc,Qf (g:=g) λx hx=>by
  obtain⟨σ,e1,e2⟩:=h x hx;rw[e1,Zi,Zc,pvt,Zc];show (pv C elt σ s).bind _=_;rw[e2];rfl]
 rw[Zc,if_pos (by rw[List.length_map];exact hl)]
theorem Xg {l:List α}{e g:α->V}{q:α->Bool}(hw:pvw C it ρ s=.ok (l.map e) s) (hl:l.length<=lim) (h:∀x∈l,∃σ v,ZI t (e x) (Zj cap nl ρ)=some σ/\pv C tst σ s=.ok v s/\YG v=some (q x)/\(q x=true->pv C elt σ s=.ok (g x) s)) (ho:own nl t=true:=by rfl):pv C (.comp1 cap nl t it [tst] elt) ρ s=.ok (.lst ((l.filter q).map g)) s:=by
 rw[pv,if_pos ho,hw,Zc,Ue (g:=g) (q:=q) λx hx=>by
  obtain⟨σ,v,e1,e2,e3,e4⟩:=h x hx;rw[e1,Zi,Zc,pvt,e2,Zc,e3,Zi,Zc];cases c:q x with
  |true=>
   rw[if_pos rfl,pvt,Zc,if_pos rfl,if_pos rfl,e4 c];rfl
  |false=>rw[if_neg (by simp),Zc,if_neg (by simp),if_neg (by simp)]]
 rw[Zc,if_pos (by rw[List.length_map];exact Nat.le_trans (List.length_filter_le ..) hl)]
theorem wb {β:Type}{u:List Nat}{jt:W}{l:List α}{e:α->V}{m:α->List β}{e2:β->V}{g:α->β->V}(hw:pvw C it ρ s=.ok (l.map e) s) (hl:(l.flatMap λx=>(m x).map (g x)).length<=lim)
  (h:∀x∈l,∃σ,ZI t (e x) (Zj cap nl ρ)=some σ/\pvw C jt σ s=.ok ((m x).map e2) s/\∀y∈m x,∃σ',ZI u (e2 y) σ=some σ'/\pv C elt σ' s=.ok (g x y) s) (ho:own2 nl t u=true:=by rfl):pv C (.comp2 cap nl t it [] u jt [] elt) ρ s=.ok (.lst (l.flatMap λx=>(m x).map (g x))) s:=by
 rw[pv,if_pos ho,hw,Zc,QM (g:=λx=>(m x).map (g x)) λx hx=>by
  obtain⟨σ,e1,e3,e4⟩:=h x hx;rw[e1,Zi,Zc,pvt,Zc,if_pos rfl,e3,Zc];exact Qf λy hy=>by
   obtain⟨σ',f1,f2⟩:=e4 y hy;rw[f1,Zi,Zc,pvt,Zc];show (pv C elt σ' s).bind _=_;rw[f2];rfl]
 rw[Zc,if_pos hl]
theorem VT {k:Nat}{Q:V->Prop}(hw:pvw C it ρ s=.ok (Xu 0 k) s) (hl:k<=lim) (h:∀(x:V) (s:DS),∃σ y s',ZI t x (Zj cap nl ρ)=some σ/\pv C elt σ s=.ok y s'/\Q y) (ho:own nl t=true:=by rfl) :
  ∃ys s',pv C (.comp1 cap nl t it [] elt) ρ s=.ok (.lst ys) s'/\ys.length=k/\∀y∈ys,Q y:=by
 obtain⟨ys,s',e1,e2,e3⟩:=QP (Q:=Q) (f:=λx s=>(po (ZI t x (Zj cap nl ρ)) s).bind λσ s=>(pvt C [] σ s).bind λb s=>if b then (pv C elt σ s).bind λy s=>.ok [y] s else .ok [] s) (λx s=>by
  obtain⟨σ,y,s',f1,f2,f3⟩:=h x s;refine⟨y,s',?_,f3⟩;rw[f1,Zi,Zc,pvt,Zc];show (pv C elt σ s).bind _=_;rw[f2];rfl) (Xu 0 k) s
 have hk:(Xu 0 k).length=k:=by unfold Xu;simp
 refine⟨ys,s',?_,by rw[e2,hk],e3⟩
 rw[pv,if_pos ho,hw,Zc,e1,Zc,if_pos (by rw[e2,hk];exact hl)]
end
theorem qW {xs:List V}{k:Nat}(h:k<=xs.length):Wm xs none (some (k:Int))=xs.take k:=by
 show (xs.drop 0).take ((if (k:Int)<0 then ((k:Int)+xs.length).toNat else min (k:Int).toNat xs.length)-0)=_
 rw[if_neg (by omega),show min (k:Int).toNat xs.length-0=k by omega];rfl
theorem Gy {xs:List V}{i:Int}{k:Nat}(hi:i=k) (h:k<=xs.length):Wm xs (some i) none=xs.drop k:=by
 subst hi;show (xs.drop (if (k:Int)<0 then ((k:Int)+xs.length).toNat else min (k:Int).toNat xs.length)).take (xs.length-(if (k:Int)<0 then ((k:Int)+xs.length).toNat else min (k:Int).toNat xs.length))=_
 rw[if_neg (by omega),show min (k:Int).toNat xs.length=k by omega]
 exact List.take_of_length_le (by rw[List.length_drop];omega)
theorem wt {xs:List V}:Wm xs (some 1) none=xs.tail:=by
 cases xs with
 |nil=>rfl
 |cons x xs=>exact Gy (k:=1) rfl (by simp)
noncomputable def ZK (k:Nat):V:=.int k
theorem Uy (n:Nat):Xu 0 n=(List.range n).map ZK:=by rw[uS];rfl
theorem JX {i:Int}(h0:0<=i) (h1:i<1000000):small i=true:=by
 unfold small;have e:(2:Int)^62=4611686018427387904:=by decide
 rw[e];exact decide_eq_true ⟨by omega,by omega⟩
theorem ZG {F:List Fn}{tk d f:Nat}{vs:List V}{s s':DS}{fn:Fn}{v:V}(hf:F[f]? = some fn) (hne:f≠tk) (hl:vs.length=fn.ps) (h:rvs (Yh F tk d) (muts fn.body) fn.body (Zp fn.ns vs) [] s=.ok (.ret v) s'):Yh F tk (d+1) f vs s=.ok v s':=by
 rw[UY hf hne hl,h];rfl
theorem Jv {F:List Fn}{tk d f:Nat}{vs:List V}{s s':DS}{fn:Fn}{ρ:Env}{os:List Nat}(hf:F[f]? = some fn) (hne:f≠tk) (hl:vs.length=fn.ps) (h:rvs (Yh F tk d) (muts fn.body) fn.body (Zp fn.ns vs) [] s=.ok (.nx ρ os) s'):Yh F tk (d+1) f vs s=.ok .non s':=by
 rw[UY hf hne hl,h];rfl
section
variable {C:Z5}{ms:List Nat}{m:Sm}{l:List Sm}{ρ ρ':Env}{os os':List Nat}{s s':DS}
theorem Zu (h:rv C ms m ρ os s=.ok (.nx ρ' os') s'):rvs C ms (m::l) ρ os s=rvs C ms l ρ' os' s':=by rw[rvs,h];rfl
theorem ZN {v:V}(h:rv C ms m ρ os s=.ok (.ret v) s'):rvs C ms (m::l) ρ os s=.ok (.ret v) s':=by rw[rvs,h];rfl
theorem Z6 {v:V}{e:E}(h:pv C e ρ s=.ok v s'):rv C ms (.ret e) ρ os s=.ok (.ret v) s':=by rw[rv,h];rfl
theorem Vw {v:V}{f:Nat}{as:List E}(h:pv C (.call f as) ρ s=.ok v s'):rv C ms (.ex (.call f as)) ρ os s=.ok (.nx ρ os) s':=by
 have:rv C ms (.ex (.call f as)) ρ os s=(pv C (.call f as) ρ s).bind λ_ s=>.ok (.nx ρ os) s:=by
  rw[rv]
  all_goals (intro _ _ z;cases z)
 rw[this,h];rfl
theorem Qe {b:Bool}{t:E}{x y:List Sm}(h:Zy C t ρ s=.ok b s'):rv C ms (.ite t x y) ρ os s=if b=true then rvs C ms x ρ os s' else rvs C ms y ρ os s':=by rw[rv,h];rfl
theorem VI {v:V}{b:Bool}{t:E}(h:pv C t ρ s=.ok v s') (hb:YG v=some b):Zy C t ρ s=.ok b s':=by unfold Zy;rw[h,Zc,hb];rfl
theorem ZD {f:Nat}{as:List E}{vs:List V}{v:V}{s1:DS}(h:pvs C as ρ s=.ok vs s1) (hc:C f vs s1=.ok v s'):pv C (.call f as) ρ s=.ok v s':=by rw[pv,h];exact hc
theorem Zw:pvs C [] ρ s=.ok [] s:=by rw[pvs]
theorem Zh {e:E}{es:List E}{v:V}{vs:List V}{s1:DS}(h:pv C e ρ s=.ok v s1) (h2:pvs C es ρ s1=.ok vs s'):pvs C (e::es) ρ s=.ok (v::vs) s':=by rw[pvs,h,Zc,h2];rfl
theorem Zo {i:Nat}{v:V}(h:ρ[i]? = some (some v)):pv C (.v i) ρ s=.ok v s:=by rw[pv,h];rfl
theorem YW {i:Nat}{e:E}{v:V}(h:pv C e ρ s=.ok v s') (hm:(ms.contains i&&fresh e)=false):rv C ms (.asg [i] e) ρ [] s=.ok (.nx (ρ.set i (some v)) []) s':=by
 rw[rv];show (pv C e ρ s).bind _=_;rw[h,Zc,if_neg (by rw[hm];simp)];rfl
theorem JF {σ α:Type}{t:List Nat}{it:W}{b:List Sm}{L:List α}{e:α->V}{step:σ->α->σ}{ρ:σ->Option V->Env}{st:σ}{o:Option V}(I:σ->Prop) (hw:pvw C it (hide os (ρ st o)) s=.ok (L.map e) s) (hI:I st) (ht:(t.any os.contains)=false)
  (h:∀x∈L,∀st o,I st->I (step st x)/\(os.isEmpty||(e x).flat)=true/\∃ρ1 o',ZI t (e x) (ρ st o)=some ρ1/\rvs C ms b ρ1 os s=.ok (.nx (ρ (step st x) o') os) s) :
  ∃o',I (L.foldl step st)/\rv C ms (.forr t it b) (ρ st o) os s=.ok (.nx (ρ (L.foldl step st) o') os) s:=by
 obtain⟨o',h1,h2⟩:=QG (body:=λx ρ os s=>if (t.any os.contains)=true then .no else if (os.isEmpty||x.flat)=true then (po (ZI t x ρ) s).bind λρ s=>rvs C ms b ρ os s else .no) (s:=s) (os:=os) (ρ:=ρ) (step:=step) (e:=e) I (l:=L) (st:=st) (o:=o) hI (λx hx st o hI=>by
  obtain⟨a,f,ρ1,o',b1,b2⟩:=h x hx st o hI;refine⟨a,o',?_⟩;rw[if_neg (by rw[ht];simp),if_pos f,b1,Zi,Zc,b2])
 refine⟨o',h1,?_⟩;rw[rv,hw,Zc];exact h2
theorem X9 {e:E}{n:Nat}(h:pv C e ρ s=.ok (.int n) s') (hn:n<1000000):pvw C (.rng1 e) ρ s=.ok ((List.range n).map ZK) s':=by
 rw[pvw,h,Zc];show (if small (n:Int)=true then PR.ok (Xu 0 (n:Int).toNat) s' else .no)=_
 rw[if_pos (JX (by omega) (by omega)),Int.toNat_natCast,Uy]
theorem zH {α:Type}{t:List Nat}{it:W}{b:List Sm}{L:List α}{e:α->V}(I:List α->Env->Prop) (hw:pvw C it (hide os ρ) s=.ok (L.map e) s) (hI:I L ρ) (ht:(t.any os.contains)=false)
  (h:∀x l ρ,I (x::l) ρ->(os.isEmpty||(e x).flat)=true/\∃ρ1 ρ',ZI t (e x) ρ=some ρ1/\rvs C ms b ρ1 os s=.ok (.nx ρ' os) s/\I l ρ') :
  ∃ρ',I [] ρ'/\rv C ms (.forr t it b) ρ os s=.ok (.nx ρ' os) s:=by
 rw[rv,hw,Zc];clear hw
 induction L generalizing ρ with
 |nil=>exact⟨ρ,hI,rfl⟩
 |cons x L ih=>
  obtain⟨f,ρ1,ρ',b1,b2,b3⟩:=h x L ρ hI;obtain⟨ρ2,c1,c2⟩:=ih b3;refine⟨ρ2,c1,?_⟩;rw[List.map_cons,Vc,if_neg (by rw[ht];simp),if_pos f,b1,Zi,Zc,b2,Zc]
  exact c2
theorem uy {σ α:Type}{t:List Nat}{it:W}{b:List Sm}{L:List α}{e:α->V}{step:σ->α->σ}{ρ:σ->Option V->Env}{st:σ}{o:Option V}(I:List α->σ->Prop) (hw:pvw C it (hide os (ρ st o)) s=.ok (L.map e) s) (hI:I L st) (ht:(t.any os.contains)=false)
  (h:∀x l st o,I (x::l) st->I l (step st x)/\(os.isEmpty||(e x).flat)=true/\∃ρ1 o',ZI t (e x) (ρ st o)=some ρ1/\rvs C ms b ρ1 os s=.ok (.nx (ρ (step st x) o') os) s) :
  ∃o',I [] (L.foldl step st)/\rv C ms (.forr t it b) (ρ st o) os s=.ok (.nx (ρ (L.foldl step st) o') os) s:=by
 rw[rv,hw,Zc];clear hw
 induction L generalizing st o with
 |nil=>exact⟨o,hI,rfl⟩
 |cons x L ih=>
  obtain⟨a,f,ρ1,o',b1,b2⟩:=h x L st o hI;obtain⟨o2,c1,c2⟩:=ih (st:=step st x) (o:=o') a;refine⟨o2,c1,?_⟩;rw[List.map_cons,Vc,if_neg (by rw[ht];simp),if_pos f,b1,Zi,Zc,b2,Zc]
  exact c2
end
theorem pvF:(∀a,fresh (.lst a)=true)/\(∀a b,fresh (.bin .mul (.lst a) b)=true)/\(∀b,YG (.bl b)=some b)/\(∀i,YG (.int i)=some (decide (i≠0)))/\(∀xs,YG (.tup xs)=some (!xs.isEmpty))/\(∀xs,YG (.lst xs)=some (!xs.isEmpty))/\(YG .non=some false)/\(∀xs i,ixV (.tup xs) (.int i)=at' xs i)/\(∀xs i,ixV (.lst xs) (.int i)=at' xs i)/\(∀xs,Yw (.tup xs)=some xs)/\(∀xs,Yw (.lst xs)=some xs)/\(∀x,U1 .len [x]=(Yw x).map λxs=>.int xs.length)/\(∀x,U1 .tuple [x]=(Yw x).map .tup)/\(∀x,U1 .list [x]=(Yw x).map .lst)/\(∀xs,U1 .all [.lst xs]=(Yr xs).map λbs=>.bl (bs.all id))/\(∀a b,U1 .max2 [.int a,.int b]=some (.int (if b>a then b else a)))/\(∀a b,U1 .min2 [.int a,.int b]=some (.int (if b<a then b else a)))/\(∀a,U1 .toInt [.int a]=some (.int a))/\(∀a,U1 .toInt [.bl a]=some (.int (b2i a)))/\(∀xs,U1 .sortedR [.lst xs]=(X0 xs).bind λrs=>if YA rs=true then some (.lst ((Z8 rs).reverse.map Zk)) else none)/\(∀a b s,Um .add (.int a) (.int b) s=.ok (.int (a+b)) s)/\(∀a b s,Um .sub (.int a) (.int b) s=.ok (.int (a-b)) s)/\(∀a b s,Um .mul (.int a) (.int b) s=if (fits a&&fits b)=true then .ok (.int (a*b)) s else .no)/\(∀a b s,Um .mod (.int a) (.int b) s=if 0<b then .ok (.int (a%b)) s else .no)/\(∀a b s,Um .add (.tup a) (.tup b) s=if a.length+b.length<=lim then .ok (.tup (a++b)) s else .no)/\(∀a b s,Um .mul (.tup a) (.int b) s=if 0<=b/\b<1000/\a.length<=1000 then .ok (.tup (List.replicate b.toNat a).flatten) s else .no)/\(∀a b s,Um .mul (.lst a) (.int b) s=if 0<=b/\b<1000/\a.length<=1000 then .ok (.lst (List.replicate b.toNat a).flatten) s else .no)/\(∀a b s,Um .add (.lst a) (.lst b) s=if a.length+b.length<=lim then .ok (.lst (a++b)) s else .no)/\(∀x y,W3 .eq x y=(eqV ZA x y).map .bl)/\(∀x y,W3 .ne x y=(eqV ZA x y).map λb=>.bl !b)/\(∀a b,W3 .lt (.int a) (.int b)=some (.bl (decide (a<b))))/\(∀a b,W3 .gt (.int a) (.int b)=some (.bl (decide (b<a))))/\(∀a b,W3 .le (.int a) (.int b)=some (.bl (decide (a<=b))))/\(∀a b,W3 .ge (.int a) (.int b)=some (.bl (decide (b<=a))))/\(∀x,W3 .is x .non=some (.bl (XA x)))/\(∀x,W3 .isn x .non=some (.bl !(XA x)))/\(∀a b,W3 .is (.bl a) (.bl b)=some (.bl (decide (a=b))))/\(∀a b,W3 .isn (.bl a) (.bl b)=some (.bl (decide (a≠b))))/\(∀x y,W3 .inn x y=(WN x y).map .bl)/\(∀x y,W3 .nin x y=(WN x y).map λb=>.bl !b)/\(XA .non=true)/\(∀b,XA (.bl b)=false)/\(∀b,XA (.int b)=false)/\(∀b,XA (.tup b)=false)/\(∀b,XA (.lst b)=false)/\(ofD .non=some .non)/\(∀b,ofD (.bl b)=some (.bl b))/\(∀b,ofD (.int b)=some (.int b))/\(∀ρ,Xq [] [] ρ=some ρ)/\(∀i t x xs ρ,Xq (i::t) (x::xs) ρ=Xq t xs (ρ.set i (some x)))/\(∀i x ρ,ZI [i] x ρ=some (ρ.set i (some x)))/\(∀i j t xs ρ,ZI (i::j::t) (.tup xs) ρ=Xq (i::j::t) xs ρ)/\(∀i j t xs ρ,ZI (i::j::t) (.lst xs) ρ=Xq (i::j::t) xs ρ)/\(∀k a b,eqV (k+1) (.int a) (.int b)=some (decide (a=b)))/\(∀k a b,eqV (k+1) (.bl a) (.bl b)=some (decide (a=b)))/\(∀k a b,eqV (k+1) (.tup a) (.tup b)=Vb (eqV k) a b)/\(∀k a b,eqV (k+1) (.lst a) (.lst b)=if a.length=b.length then Vb (eqV k) a b else some false):=
 ⟨λ_=>rfl,λ_ _=>rfl,λ_=>rfl,λ_=>rfl,λ_=>rfl,λ_=>rfl,rfl,λ_ _=>rfl,λ_ _=>rfl,λ_=>rfl,λ_=>rfl,λ_=>rfl,λ_=>rfl,λ_=>rfl,λ_=>rfl,λ_ _=>rfl,λ_ _=>rfl,λ_=>rfl,λ_=>rfl,λ_=>rfl,λ_ _ _=>rfl,λ_ _ _=>rfl,λ_ _ _=>rfl,λ_ _ _=>rfl,λ_ _ _=>rfl,λ_ _ _=>rfl,λ_ _ _=>rfl,λ_ _ _=>rfl,λ_ _=>rfl,λ_ _=>rfl,λ_ _=>rfl,λ_ _=>rfl,λ_ _=>rfl,λ_ _=>rfl,λ_=>rfl,λ_=>rfl,λ_ _=>rfl,λ_ _=>rfl,λ_ _=>rfl,λ_ _=>rfl,rfl,λ_=>rfl,λ_=>rfl,λ_=>rfl,λ_=>rfl,rfl,λ_=>rfl,λ_=>rfl,λ_=>rfl,λ_ _ _ _ _=>rfl,λ_ _ _=>rfl,λ_ _ _ _ _=>rfl,λ_ _ _ _ _=>rfl,λ_ _ _=>rfl,λ_ _ _=>rfl,λ_ _ _=>rfl,λ_ _ _=>rfl⟩
def pvE:=And.intro @pv.eq_1 (And.intro @pv.eq_2 (And.intro @pv.eq_3 (And.intro @pv.eq_4 (And.intro @pv.eq_5 (And.intro @pv.eq_6 (And.intro @pv.eq_7 (And.intro @pv.eq_8 (And.intro @pv.eq_9 (And.intro @pv.eq_10 (And.intro @pv.eq_11 (And.intro @pv.eq_12 (And.intro @pv.eq_13 (And.intro @pv.eq_14 (And.intro @pv.eq_15 (And.intro @pv.eq_16 (And.intro @pv.eq_17 (And.intro @pv.eq_18 (And.intro @pv.eq_19 (And.intro @pv.eq_20 (And.intro @pv.eq_21 (And.intro @pv.eq_22 @pv.eq_23)))))))))))))))))))))
end Pv
namespace K23
open Ev
noncomputable def f__law_cell_at:Fn:=⟨2,2,
 [.ite (.cmp .lt (.v 1) (.blt .len [(.v 0)])) [.ret (.ix (.v 0) (.v 1))] [],
  .ret (.c (.int 0))]⟩
noncomputable def f__law_state:Fn:=⟨2,3,
 [.asg [2] (.call 0 [(.v 0),(.v 1)]),
  .ite (.cmp .ge (.v 2) (.bin .pow (.c (.int 10)) (.c (.int 18)))) [.ret (.lst [(.bin .sub (.v 2) (.bin .pow (.c (.int 10)) (.c (.int 18)))),(.c (.bl true))])] [],
  .ret (.lst [(.bin .mod (.v 2) (.c (.int 2147483647))),(.c (.bl false))])]⟩
noncomputable def f__law_take:Fn:=⟨2,4,
 [.ite (.ix (.v 0) (.c (.int 1))) [.asg [2] (.bin .mod (.ix (.v 0) (.c (.int 0))) (.v 1)),
  .put (.v 0) (.c (.int 0)) (.bin .fdiv (.ix (.v 0) (.c (.int 0))) (.v 1)),
  .ret (.v 2)] [],
  .put (.v 0) (.c (.int 0)) (.bin .mod (.bin .add (.bin .mul (.ix (.v 0) (.c (.int 0))) (.c (.int 48271))) (.c (.int 29))) (.c (.int 2147483647))),
  .asg [3] (.bin .mod (.bin .add (.bin .add (.bin .mul (.ix (.v 0) (.c (.int 0))) (.ix (.v 0) (.c (.int 0)))) (.bin .mul (.c (.int 39373)) (.ix (.v 0) (.c (.int 0))))) (.c (.int 7))) (.c (.int 2147483629))),
  .asg [3] (.bin .mod (.bin .add (.bin .mul (.v 3) (.v 3)) (.bin .mul (.c (.int 16807)) (.v 3))) (.c (.int 2147483587))),
  .ret (.bin .mod (.bin .fdiv (.v 3) (.c (.int 8))) (.v 1))]⟩
noncomputable def f__law_space:Fn:=⟨2,3,
 [.asg [2] (.lst [(.tup [(.c (.int 2)),(.tup [(.c (.int 2)),(.c (.int 1))])]),(.tup [(.c (.int 4)),(.tup [(.c (.int 2)),(.c (.int 2))])]),(.tup [(.c (.int 8)),(.tup [(.c (.int 2)),(.c (.int 3))])]),(.tup [(.c (.int 16)),(.tup [(.c (.int 2)),(.c (.int 4))])]),(.tup [(.c (.int 32)),(.tup [(.c (.int 2)),(.c (.int 5))])]),(.tup [(.c (.int 64)),(.tup [(.c (.int 2)),(.c (.int 6))])]),(.tup [(.c (.int 3)),(.tup [(.c (.int 3)),(.c (.int 1))])]),(.tup [(.c (.int 9)),(.tup [(.c (.int 3)),(.c (.int 2))])])]),
  .asg [2] (.bin .add (.v 2) (.lst [(.tup [(.c (.int 27)),(.tup [(.c (.int 3)),(.c (.int 3))])]),(.tup [(.c (.int 81)),(.tup [(.c (.int 3)),(.c (.int 4))])]),(.tup [(.c (.int 5)),(.tup [(.c (.int 5)),(.c (.int 1))])]),(.tup [(.c (.int 25)),(.tup [(.c (.int 5)),(.c (.int 2))])]),(.tup [(.c (.int 125)),(.tup [(.c (.int 5)),(.c (.int 3))])])])),
  .asg [2] (.comp1 [1] 2 [0,1] (.of (.v 2)) [(.cmp .le (.v 0) (.v 2))] (.v 1)),
  .ret (.ix (.v 2) (.call 2 [(.v 0),(.blt .len [(.v 2)])]))]⟩
noncomputable def f__law_plus:Fn:=⟨4,4,
 [.ret (.blt .tuple [(.comp1 [3,0] 2 [0,1] (.zip (.v 1) (.v 2)) [] (.bin .mod (.bin .add (.v 0) (.bin .mul (.v 2) (.v 1))) (.ix (.v 3) (.c (.int 0)))))])]⟩
noncomputable def f__law_reduced:Fn:=⟨2,8,
 [.asg [2] (.blt .list [(.v 1)]),
  .asg [3] (.lst []),
  .forr [4] (.rng1 (.ix (.v 0) (.c (.int 1)))) [.asg [5] (.comp1 [4] 1 [0] (.of (.v 2)) [(.cmp .ne (.ix (.v 0) (.v 1)) (.c (.int 0)))] (.v 0)),
  .ite (.cmp .ne (.v 5) (.lst [])) [.asg [6] (.ix (.comp1 [5,4,0] 1 [0] (.rng1 (.ix (.v 0) (.c (.int 0)))) [(.cmp .eq (.bin .mod (.bin .mul (.v 0) (.ix (.ix (.v 1) (.c (.int 0))) (.v 2))) (.ix (.v 3) (.c (.int 0)))) (.c (.int 1)))] (.v 0)) (.c (.int 0))),
  .asg [7] (.blt .tuple [(.comp1 [6,0] 1 [0] (.of (.ix (.v 5) (.c (.int 0)))) [] (.bin .mod (.bin .mul (.v 1) (.v 0)) (.ix (.v 2) (.c (.int 0)))))]),
  .asg [2] (.comp1 [0,7,4] 1 [0] (.of (.v 2)) [] (.call 4 [(.v 1),(.v 0),(.v 2),(.neg (.ix (.v 0) (.v 3)))])),
  .asg [3] (.bin .add (.comp1 [0,7,4] 1 [0] (.of (.v 3)) [] (.call 4 [(.v 1),(.v 0),(.v 2),(.neg (.ix (.v 0) (.v 3)))])) (.lst [(.v 7)]))] []],
  .ret (.blt .tuple [(.v 3)])]⟩
noncomputable def f__law_row_of:Fn:=⟨2,2,
 [.ret (.blt .tuple [(.comp1 [0,1] 1 [0] (.rng1 (.ix (.v 1) (.c (.int 1)))) [] (.call 2 [(.v 1),(.ix (.v 2) (.c (.int 0)))]))])]⟩
noncomputable def f__law_part:Fn:=⟨2,3,
 [.asg [2] (.call 2 [(.v 0),(.bin .add (.ix (.v 1) (.c (.int 1))) (.c (.int 1)))]),
  .ret (.call 5 [(.v 1),(.comp1 [0,1] 1 [0] (.rng1 (.v 2)) [] (.call 6 [(.v 1),(.v 2)]))])]⟩
noncomputable def VZ:Fn:=⟨1,3,
 [.forr [1,2] (.enum (.v 0)) [.ite (.cmp .ne (.v 2) (.c (.int 0))) [.ret (.v 1)] []],
  .ret (.c .non)]⟩
noncomputable def XL:Fn:=⟨1,1,
 [.ret (.blt .all [(.comp1 [] 2 [0,1] (.zip (.v 0) (.sl (.v 0) (some (.c (.int 1))) none)) [] (.cmp .lt (.v 0) (.v 1)))])]⟩
noncomputable def Xs:Fn:=⟨2,2,
 [.ret (.blt .all [(.comp1 [1] 1 [0] (.of (.v 0)) [] (.cmp .eq (.ix (.v 0) (.v 1)) (.c (.int 0))))])]⟩
noncomputable def Y2:Fn:=⟨3,3,
 [.ret (.and (.cmp .eq (.ix (.ix (.v 0) (.v 1)) (.v 2)) (.c (.int 1))) (.call 10 [(.bin .add (.sl (.v 0) none (some (.v 1))) (.sl (.v 0) (some (.bin .add (.v 1) (.c (.int 1)))) none)),(.v 2)]))]⟩
noncomputable def Wb:Fn:=⟨3,3,
 [.ret (.and (.isi (.v 0) [.int]) (.and (.not (.isi (.v 0) [.bool])) (.chain .le .le (.v 1) (.v 0) (.v 2))))]⟩
noncomputable def Ql:Fn:=⟨2,4,
 [.asg [2,3] (.v 0),
  .ite (.or (.not (.isi (.v 1) [.tuple])) (.cmp .ne (.blt .len [(.v 1)]) (.v 3))) [.ret (.c (.bl false))] [],
  .ret (.blt .all [(.comp1 [2] 1 [0] (.of (.v 1)) [] (.call 12 [(.v 0),(.c (.int 0)),(.bin .sub (.v 1) (.c (.int 1)))]))])]⟩
noncomputable def VU:Fn:=⟨2,3,
 [.ite (.or (.not (.isi (.v 1) [.tuple])) (.not (.blt .all [(.comp1 [0] 1 [0] (.of (.v 1)) [] (.call 13 [(.v 1),(.v 0)]))]))) [.ret (.c (.bl false))] [],
  .asg [2] (.comp1 [] 1 [0] (.of (.v 1)) [] (.call 8 [(.v 0)])),
  .ite (.or (.cmp .inn (.c .non) (.v 2)) (.not (.call 9 [(.v 2)]))) [.ret (.c (.bl false))] [],
  .ret (.blt .all [(.comp1 [1] 2 [0,1] (.enum (.v 2)) [] (.call 11 [(.v 2),(.v 0),(.v 1)]))])]⟩
noncomputable def XQ:Fn:=⟨2,2,
 [.ite (.not (.call 14 [(.v 0),(.v 1)])) [.raise 2 []] []]⟩
noncomputable def Xv:Fn:=⟨3,3,
 [.ex (.call 15 [(.v 0),(.v 1)]),
  .ex (.call 15 [(.v 0),(.v 2)])]⟩
noncomputable def Xy:Fn:=⟨4,4,
 [.ret (.blt .tuple [(.comp1 [3,0] 2 [0,1] (.zip (.v 1) (.v 2)) [] (.bin .mod (.bin .add (.v 0) (.bin .mul (.v 2) (.v 1))) (.v 3)))])]⟩
noncomputable def WX:Fn:=⟨4,4,
 [.ret (.call 17 [(.v 0),(.v 1),(.v 2),(.neg (.ix (.v 1) (.v 3)))])]⟩
noncomputable def WJ:Fn:=⟨3,7,
 [.asg [3,4] (.v 0),
  .asg [5] (.v 2),
  .forr [6] (.of (.v 1)) [.asg [5] (.call 18 [(.v 3),(.v 5),(.v 6),(.call 8 [(.v 6)])])],
  .ret (.v 5)]⟩
noncomputable def Uu:Fn:=⟨3,3,
 [.ret (.blt .tuple [(.comp1 [2,0] 1 [0] (.of (.v 1)) [] (.bin .mod (.bin .mul (.v 1) (.v 0)) (.v 2)))])]⟩
noncomputable def V2:Fn:=⟨2,3,
 [.asg [2] (.c (.int 1)),
  .whl (.cmp .ne (.bin .mod (.bin .mul (.v 2) (.v 1)) (.v 0)) (.c (.int 1))) [.aug 2 .add (.c (.int 1))],
  .ret (.v 2)]⟩
noncomputable def V6:Fn:=⟨3,9,
 [.asg [3,4] (.v 0),
  .asg [5] (.call 19 [(.v 0),(.v 1),(.v 2)]),
  .asg [6] (.call 8 [(.v 5)]),
  .ite (.cmp .is (.v 6) (.c .non)) [.ret (.v 1)] [],
  .asg [7] (.call 20 [(.v 3),(.v 5),(.call 21 [(.v 3),(.ix (.v 5) (.v 6))])]),
  .asg [8] (.comp1 [3,7,6] 1 [0] (.of (.v 1)) [] (.call 18 [(.v 1),(.v 0),(.v 2),(.v 3)])),
  .ret (.blt .tuple [(.blt .sortedR [(.bin .add (.v 8) (.lst [(.v 7)]))])])]⟩
noncomputable def Xb:Fn:=⟨3,5,
 [.asg [3] (.v 1),
  .forr [4] (.of (.v 2)) [.asg [3] (.call 22 [(.v 0),(.v 3),(.v 4)])],
  .ret (.v 3)]⟩
noncomputable def Qc:Fn:=⟨3,3,
 [.ex (.call 16 [(.v 0),(.v 1),(.v 2)]),
  .ret (.call 23 [(.v 0),(.v 1),(.v 2)])]⟩
noncomputable def Wg:Fn:=⟨2,2,
 [.ite (.not (.call 13 [(.v 0),(.v 1)])) [.raise 1 []] []]⟩
noncomputable def V9:Fn:=⟨2,3,
 [.ite (.not (.isi (.v 1) [.tuple,.list])) [.raise 1 []] [],
  .forr [2] (.of (.v 1)) [.ex (.call 25 [(.v 0),(.v 2)])],
  .ret (.call 23 [(.v 0),(.tup []),(.v 1)])]⟩
noncomputable def XV:Fn:=⟨3,7,
 [.asg [3,4] (.v 0),
  .asg [5] (.bin .mul (.lst [(.c (.int 0))]) (.v 4)),
  .put (.v 5) (.v 2) (.c (.int 1)),
  .forr [6] (.of (.v 1)) [.put (.v 5) (.call 8 [(.v 6)]) (.bin .mod (.neg (.ix (.v 6) (.v 2))) (.v 3))],
  .ret (.blt .tuple [(.v 5)])]⟩
noncomputable def V8:Fn:=⟨2,6,
 [.ex (.call 15 [(.v 0),(.v 1)]),
  .asg [2,3] (.v 0),
  .asg [4] (.comp1 [] 1 [0] (.of (.v 1)) [] (.call 8 [(.v 0)])),
  .asg [5] (.comp1 [4] 1 [0] (.rng1 (.v 3)) [(.cmp .nin (.v 0) (.v 1))] (.v 0)),
  .ret (.call 26 [(.v 0),(.comp1 [0,1] 1 [0] (.of (.v 5)) [] (.call 27 [(.v 1),(.v 2),(.v 0)]))])]⟩
noncomputable def wK:Fn:=⟨3,3,
 [.ex (.call 16 [(.v 0),(.v 1),(.v 2)]),
  .ret (.call 28 [(.v 0),(.call 24 [(.v 0),(.call 28 [(.v 0),(.v 1)]),(.call 28 [(.v 0),(.v 2)])])])]⟩
noncomputable def V4:Fn:=⟨3,3,
 [.ret (.cmp .is (.call 8 [(.call 19 [(.v 0),(.v 1),(.v 2)])]) (.c .non))]⟩
noncomputable def Jk:Fn:=⟨3,3,
 [.ex (.call 15 [(.v 0),(.v 1)]),
  .ex (.call 25 [(.v 0),(.v 2)]),
  .ret (.call 30 [(.v 0),(.v 1),(.v 2)])]⟩
noncomputable def VJ:Fn:=⟨2,6,
 [.ex (.call 15 [(.v 0),(.v 1)]),
  .asg [2,3] (.v 0),
  .asg [4] (.lst [(.bin .mul (.tup [(.c (.int 0))]) (.v 3))]),
  .forr [5] (.of (.v 1)) [.asg [4] (.comp2 [2,5] 2 [0] (.of (.v 4)) [] [1] (.rng1 (.v 2)) [] (.call 17 [(.v 2),(.v 0),(.v 3),(.v 1)]))],
  .ret (.v 4)]⟩
noncomputable def f__law_three_right:Fn:=⟨5,7,
 [.ite (.cmp .ne (.call 24 [(.v 0),(.call 24 [(.v 0),(.v 1),(.v 2)]),(.v 3)]) (.call 24 [(.v 0),(.v 1),(.call 24 [(.v 0),(.v 2),(.v 3)])])) [.ret (.c (.bl false))] [],
  .ite (.cmp .ne (.call 29 [(.v 0),(.call 29 [(.v 0),(.v 1),(.v 2)]),(.v 3)]) (.call 29 [(.v 0),(.v 1),(.call 29 [(.v 0),(.v 2),(.v 3)])])) [.ret (.c (.bl false))] [],
  .asg [5] (.call 24 [(.v 0),(.v 1),(.v 3)]),
  .ite (.cmp .ne (.call 24 [(.v 0),(.v 1),(.call 29 [(.v 0),(.v 2),(.v 5)])]) (.call 29 [(.v 0),(.call 24 [(.v 0),(.v 1),(.v 2)]),(.v 5)])) [.ret (.c (.bl false))] [],
  .asg [6] (.and (.call 31 [(.v 0),(.v 1),(.v 4)]) (.call 31 [(.v 0),(.v 2),(.v 4)])),
  .ite (.cmp .ne (.call 31 [(.v 0),(.call 29 [(.v 0),(.v 1),(.v 2)]),(.v 4)]) (.v 6)) [.ret (.c (.bl false))] [],
  .ret (.cmp .eq (.call 32 [(.v 0),(.call 29 [(.v 0),(.v 1),(.v 2)])]) (.comp1 [0,2] 1 [0] (.of (.call 32 [(.v 0),(.v 1)])) [(.call 31 [(.v 1),(.v 2),(.v 0)])] (.v 0)))]⟩
noncomputable def WL:Fn:=⟨3,3,
 [.ret (.blt .all [(.comp1 [0,2] 1 [0] (.of (.v 1)) [] (.call 30 [(.v 1),(.v 2),(.v 0)]))])]⟩
noncomputable def VO:Fn:=⟨3,3,
 [.ex (.call 16 [(.v 0),(.v 1),(.v 2)]),
  .ret (.call 34 [(.v 0),(.v 1),(.v 2)])]⟩
noncomputable def XB:Fn:=⟨3,4,
 [.ex (.call 16 [(.v 0),(.v 1),(.v 2)]),
  .forr [3] (.of (.call 32 [(.v 0),(.v 1)])) [.ite (.not (.call 30 [(.v 0),(.v 2),(.v 3)])) [.ret (.v 3)] []],
  .ret (.c .non)]⟩
noncomputable def f__law_two_right:Fn:=⟨3,8,
 [.par [3,4] [(.call 24 [(.v 0),(.v 1),(.v 2)]),(.call 29 [(.v 0),(.v 1),(.v 2)])],
  .ite (.or (.cmp .isn (.call 14 [(.v 0),(.v 3)]) (.c (.bl true))) (.cmp .isn (.call 14 [(.v 0),(.v 4)]) (.c (.bl true)))) [.ret (.c (.bl false))] [],
  .ite (.or (.cmp .ne (.bin .add (.blt .len [(.v 3)]) (.blt .len [(.v 4)])) (.bin .add (.blt .len [(.v 1)]) (.blt .len [(.v 2)]))) (.cmp .ne (.v 3) (.call 26 [(.v 0),(.bin .add (.blt .list [(.v 2)]) (.blt .list [(.v 1)]))]))) [.ret (.c (.bl false))] [],
  .ite (.or (.cmp .ne (.v 3) (.call 24 [(.v 0),(.v 2),(.v 1)])) (.cmp .ne (.v 4) (.call 29 [(.v 0),(.v 2),(.v 1)]))) [.ret (.c (.bl false))] [],
  .forr [5] (.of (.tup [(.v 1),(.v 2)])) [.ite (.or (.not (.call 35 [(.v 0),(.v 5),(.v 3)])) (.not (.call 35 [(.v 0),(.v 4),(.v 5)]))) [.ret (.c (.bl false))] [],
  .ite (.or (.cmp .ne (.call 24 [(.v 0),(.v 5),(.v 4)]) (.v 5)) (.cmp .ne (.call 29 [(.v 0),(.v 5),(.v 3)]) (.v 5))) [.ret (.c (.bl false))] []],
  .asg [6] (.call 35 [(.v 0),(.v 1),(.v 2)]),
  .ite (.or (.cmp .ne (.v 6) (.cmp .eq (.v 3) (.v 2))) (.cmp .ne (.v 6) (.cmp .eq (.v 4) (.v 1)))) [.ret (.c (.bl false))] [],
  .asg [7] (.call 36 [(.v 0),(.v 1),(.v 2)]),
  .ite (.cmp .is (.v 7) (.c .non)) [.ret (.v 6)] [],
  .ret (.and (.not (.v 6)) (.and (.call 31 [(.v 0),(.v 1),(.v 7)]) (.not (.call 31 [(.v 0),(.v 2),(.v 7)]))))]⟩
noncomputable def qp:Fn:=⟨1,7,
 [.forr [1] (.rng1 (.blt .max2 [(.c (.int 1)),(.blt .min2 [(.blt .len [(.v 0)]),(.c (.int 5))])])) [.asg [2] (.call 1 [(.v 0),(.v 1)]),
  .asg [3] (.call 3 [(.v 2),(.ix (.lst [(.c (.int 27)),(.c (.int 125))]) (.blt .toInt [(.cmp .eq (.v 1) (.c (.int 0)))]))]),
  .asg [4,5,6] (.comp1 [2,3] 1 [0] (.rng1 (.c (.int 3))) [] (.call 7 [(.v 1),(.v 2)])),
  .ite (.or (.not (.call 37 [(.v 3),(.v 4),(.v 5)])) (.not (.call 37 [(.v 3),(.v 4),(.v 6)]))) [.ret (.c (.bl false))] [],
  .ite (.not (.call 33 [(.v 3),(.v 4),(.v 5),(.v 6),(.call 6 [(.v 2),(.v 3)])])) [.ret (.c (.bl false))] []],
  .ret (.c (.bl true))]⟩
noncomputable def fns:List Fn:=[f__law_cell_at,f__law_state,f__law_take,f__law_space,f__law_plus,f__law_reduced,f__law_row_of,f__law_part,VZ,XL,Xs,Y2,Wb,Ql,VU,XQ,Xv,Xy,WX,WJ,Uu,V2,V6,Xb,Qc,Wg,V9,XV,V8,wK,V4,Jk,VJ,f__law_three_right,WL,VO,XB,f__law_two_right,qp]
end K23
namespace K23
open Ev Pv Rw La
noncomputable abbrev CV (d:Nat):Z5:=Yh fns 2 d
theorem QT (C:Z5) (s:DS) (v:V):∀(r:Row) (k:Nat) (a b:Option V),∃a' b',Vc (λx ρ os s=>if (([1,2]:List Nat).any os.contains)=true then .no else if (os.isEmpty||x.flat)=true then (po (ZI [1,2] x ρ) s).bind λρ s=>rvs C [] [.ite (.cmp .ne (.v 2) (.c (.int 0))) [.ret (.v 1)] []] ρ os s else .no)
   (((Xu k r.length).zip (r.map V.int)).map λp=>V.tup [p.1,p.2]) [some v,a,b] [] s=match hdI r with
    |some m=>.ok (.ret (.int (k+m:Nat))) s
    |none=>.ok (.nx [some v,a',b'] []) s
 |[],k,a,b=>⟨a,b,rfl⟩
 |x::r,k,a,b=>by
  have er:Xu k (x::r).length=.int k::Xu (k+1:Nat) r.length:=by
   unfold Xu;rw[List.length_cons,List.range_succ_eq_map,List.map_cons,List.map_map];refine List.cons_eq_cons.mpr ⟨by simp,?_⟩
   ·refine List.map_congr_left λj _=>?_
    show V.int ((k:Int)+((j+1:Nat):Int))=V.int (((k+1:Nat):Int)+(j:Int))
    congr 1
    omega
  obtain⟨a',b',ih⟩:=QT C s v r (k+1) (some (.int k)) (some (.int x));refine⟨a',b',?_⟩;rw[er,List.map_cons,List.zip_cons_cons,List.map_cons,Vc];by_cases c:x=0
  ·subst c
   have e0:hdI (0::r)=(hdI r).map (· + 1):=by rw[hdI,if_neg (by simp)]
   have e1:(if (([1,2]:List Nat).any ([]:List Nat).contains)=true then (.no:PR FlV) else if (([]:List Nat).isEmpty||(V.tup [V.int k,V.int 0]).flat)=true then (po (ZI [1,2] (V.tup [.int k,.int 0]) [some v,a,b]) s).bind λρ s=>rvs C [] [.ite (.cmp .ne (.v 2) (.c (.int 0))) [.ret (.v 1)] []] ρ [] s else .no)=.ok (.nx [some v,some (.int k),some (.int 0)] []) s:=by
    simp[rvs,rv,pvA,pvE,pvs,pvo,pvt,pvw,Zy,Zc,Zi,Zp,pvF,hide,Zj,Option.join,lim,ZA]
   rw[e1,Zc,e0];show Vc _ _ [some v,some (.int k),some (.int 0)] [] s=_;rw[ih];cases hdI r with
   |none=>rfl
   |some m=>show PR.ok (FlV.ret (.int ((k+1+m:Nat):Int))) s=PR.ok (FlV.ret (.int ((k+(m+1):Nat):Int))) s;congr 3;omega
  ·have e0:hdI (x::r)=some 0:=by rw[hdI,if_pos c]
   have e1:(if (([1,2]:List Nat).any ([]:List Nat).contains)=true then (.no:PR FlV) else if (([]:List Nat).isEmpty||(V.tup [V.int k,V.int x]).flat)=true then (po (ZI [1,2] (V.tup [.int k,.int x]) [some v,a,b]) s).bind λρ s=>rvs C [] [.ite (.cmp .ne (.v 2) (.c (.int 0))) [.ret (.v 1)] []] ρ [] s else .no)=.ok (.ret (.int k)) s:=by
    simp[rvs,rv,pvA,pvE,pvs,pvo,pvt,pvw,Zy,Zc,Zi,Zp,pvF,hide,Zj,Option.join,lim,ZA,c]
   rw[e1,Zc,e0];rfl
theorem WV (d:Nat) (r:Row) (s:DS):CV (d+1) 8 [Zk r] s=.ok (UN (hdI r)) s:=by
 rw[CV,UY (fn:=VZ) rfl (by decide) rfl]
 obtain⟨a,b,e⟩:=QT (Yh fns 2 d) s (Zk r) r 0 none none;show ((rv _ [] (.forr [1,2] (.enum (.v 0)) _) [some (Zk r),none,none] [] s).bind _).bind _=_;have e2:rv (Yh fns 2 d) [] (.forr [1,2] (.enum (.v 0)) [.ite (.cmp .ne (.v 2) (.c (.int 0))) [.ret (.v 1)] []]) [some (Zk r),none,none] [] s=match hdI r with
    |some m=>.ok (.ret (.int (m:Nat))) s
    |none=>.ok (.nx [some (Zk r),a,b] []) s:=by
  rw[rv];have ew:pvw (Yh fns 2 d) (.enum (.v 0)) (hide [] [some (Zk r),none,none]) s=.ok (((Xu 0 r.length).zip (r.map V.int)).map λp=>V.tup [p.1,p.2]) s:=by
   simp[rvs,rv,pvA,pvE,pvs,pvo,pvt,pvw,Zy,Zc,Zi,Zp,pvF,hide,Zj,Option.join,lim,Zk]
  rw[ew,Zc];simp only[Nat.zero_add,Int.natCast_zero] at e;exact e
 rw[e2];cases hdI r with
 |none=>rfl
 |some m=>rfl
section
variable {p n:Nat}[Base p]
theorem Uq:(p:Int)<=5/\(2:Int)<=p:=by rcases (inferInstance:Base p).b with e | e | e <;> subst e <;> decide
theorem Qn (d:Nat) {r o:Row}{k:Int}(s:DS) (hn:n<=6) (hr:Zz p n r) (ho:Zz p n o) (hk:-1000<k/\k<1000):CV (d+1) 17 [.int p,Zk r,Zk o,.int k] s=.ok (Zk (Y0 p r o k)) s:=by
 rw[CV,UY (fn:=Xy) rfl (by decide) rfl]
 have hp:=Uq (p:=p);have hc:=Z7 (C:=Yh fns 2 d) (cap:=[3,0]) (nl:=2) (t:=[0,1]) (it:=.zip (.v 1) (.v 2)) (elt:=.bin .mod (.bin .add (.v 0) (.bin .mul (.v 2) (.v 1))) (.v 3)) (ρ:=[some (.int p),some (Zk r),some (Zk o),some (.int k)]) (s:=s) (l:=r.zip o) (e:=λq=>V.tup [.int q.1,.int q.2]) (g:=λq=>V.int ((q.1+k*q.2)%p))
  (by simp[rvs,rv,pvA,pvE,pvs,pvo,pvt,pvw,Zy,Zc,Zi,Zp,pvF,hide,Zj,Option.join,lim,Zk,U0]) (by rw[List.length_zip,hr.1,ho.1];unfold lim;omega) (λq hq=>by
   have h2:=ho.2 q.2 (List.of_mem_zip hq).2;refine⟨_,rfl,?_⟩;have f1:=Yd (a:=k) (by omega) (by omega)
   have f2:=Yd (a:=q.2) (by omega) (by omega)
   have hp0:0<p:=by omega
   simp[rvs,rv,pvA,pvE,pvs,pvo,pvt,pvw,Zy,Zc,Zi,Zp,pvF,hide,Zj,Option.join,lim,f1,f2,hp0])
 have e:(r.zip o).map (λq=>V.int ((q.1+k*q.2)%p))=(Y0 p r o k).map V.int:=by
  unfold Y0;rw[<-List.map_uncurry_zip_eq_zipWith,List.map_map];rfl
 simp[Xy,rvs,rv,pvA,pvE,pvs,pvo,pvt,pvw,Zy,Zc,Zi,Zp,pvF,hide,Zj,Option.join,lim,hc,e];rfl
theorem cleared (d:Nat) {r o:Row}{h:Nat}(s:DS) (hn:n<=6) (hr:Zz p n r) (ho:Zz p n o) (hh:h<n):CV (d+2) 18 [.int p,Zk r,Zk o,.int h] s=.ok (Zk (clr p r o h)) s:=by
 rw[CV,UY (fn:=WX) rfl (by decide) rfl]
 have hg:=Xi ppos hr h;have hp:=Uq (p:=p);have e:=Qn (p:=p) d (k:=-(gt r h)) s hn hr ho ⟨by omega,by omega⟩
 have e2:=WE (r:=r) (k:=h) (by rw[hr.1];exact hh)
 simp only[CV] at e;simp[WX,rvs,rv,pvA,pvE,pvs,pvo,pvt,pvw,Zy,Zc,Zi,Zp,pvF,hide,Zj,Option.join,lim,Zk,e2];simp only[Zk] at e;rw[e];simp[rvs,rv,pvA,pvE,pvs,pvo,pvt,pvw,Zy,Zc,Zi,Zp,pvF,hide,Zj,Option.join,lim,clr]
theorem times (d:Nat) {r:Row}{k:Int}(s:DS) (hn:n<=6) (hr:Zz p n r) (hk:-1000<k/\k<1000):CV (d+1) 20 [.int p,Zk r,.int k] s=.ok (Zk (Wn p r k)) s:=by
 rw[CV,UY (fn:=Uu) rfl (by decide) rfl]
 have hp:=Uq (p:=p);have hc:=Z7 (C:=Yh fns 2 d) (cap:=[2,0]) (nl:=1) (t:=[0]) (it:=.of (.v 1)) (elt:=.bin .mod (.bin .mul (.v 1) (.v 0)) (.v 2)) (ρ:=[some (.int p),some (Zk r),some (.int k)]) (s:=s) (l:=r) (e:=V.int) (g:=λq=>V.int (k*q%p))
  (by simp[rvs,rv,pvA,pvE,pvs,pvo,pvt,pvw,Zy,Zc,Zi,Zp,pvF,hide,Zj,Option.join,lim,Zk]) (by rw[hr.1];unfold lim;omega) (λq hq=>by
   have h2:=hr.2 q hq;refine⟨_,rfl,?_⟩;have f1:=Yd (a:=k) (by omega) (by omega)
   have f2:=Yd (a:=q) (by omega) (by omega)
   have hp0:0<p:=by omega
   simp[rvs,rv,pvA,pvE,pvs,pvo,pvt,pvw,Zy,Zc,Zi,Zp,pvF,hide,Zj,Option.join,lim,f1,f2,hp0])
 simp[Uu,rvs,rv,pvA,pvE,pvs,pvo,pvt,pvw,Zy,Zc,Zi,Zp,pvF,hide,Zj,Option.join,lim,hc];simp[Zk,Wn]
theorem JC (C:Z5) (m:Nat) {q a k:Int}(s:DS) (hq:0<q) (f1:fits a=true) (f2:fits k=true):XY (Zy C (.cmp .ne (.bin .mod (.bin .mul (.v 2) (.v 1)) (.v 0)) (.c (.int 1)))) (rvs C [] [.aug 2 .add (.c (.int 1))]) (m+1) [some (.int q),some (.int a),some (.int k)] [] s =
  if k*a%q=1 then .ok (.nx [some (.int q),some (.int a),some (.int k)] []) s else XY (Zy C (.cmp .ne (.bin .mod (.bin .mul (.v 2) (.v 1)) (.v 0)) (.c (.int 1)))) (rvs C [] [.aug 2 .add (.c (.int 1))]) m [some (.int q),some (.int a),some (.int (k+1))] [] s:=by
 rw[XY];by_cases c:k*a%q=1 <;> simp[rvs,rv,pvA,pvE,pvs,pvo,pvt,pvw,Zy,Zc,Zi,Zp,pvF,hide,Zj,Option.join,lim,f1,f2,hq,ZA,c,yS]
theorem inverse (d:Nat) {a:Int}(s:DS) (ha:0<a/\a<p):CV (d+1) 21 [.int p,.int a] s=.ok (.int (YL p a)) s:=by
 rw[CV,UY (fn:=V2) rfl (by decide) rfl]
 generalize Yh fns 2 d=C;have fs:∀k:Int,0<=k->k<=5->fits k=true:=λk h0 h1=>Yd (by omega) (by omega)
 have hp:=Uq (p:=p);have fa:=fs a (by omega) (by omega)
 have key:XY (Zy C (.cmp .ne (.bin .mod (.bin .mul (.v 2) (.v 1)) (.v 0)) (.c (.int 1)))) (rvs C [] [.aug 2 .add (.c (.int 1))]) (996+1+1+1+1) [some (.int p),some (.int a),some (.int 1)] [] s=.ok (.nx [some (.int p),some (.int a),some (.int (YL p a))] []) s:=by
  rw[JC C _ s (by omega) fa (fs 1 (by omega) (by omega)),JC C _ s (by omega) fa (fs (1+1) (by omega) (by omega)),JC C _ s (by omega) fa (fs (1+1+1) (by omega) (by omega)),JC C _ s (by omega) fa (fs (1+1+1+1) (by omega) (by omega))]
  rcases (inferInstance:Base p).b with e | e | e <;> subst e
  ·have:a=1:=by omega
   subst this;rfl
  ·have:a=1\/a=2:=by omega
   rcases this with e | e <;> subst e <;> rfl
  ·have:a=1\/a=2\/a=3\/a=4:=by omega
   rcases this with e | e | e | e <;> subst e <;> rfl
 have e:rv C [] (.whl (.cmp .ne (.bin .mod (.bin .mul (.v 2) (.v 1)) (.v 0)) (.c (.int 1))) [.aug 2 .add (.c (.int 1))]) [some (.int p),some (.int a),some (.int 1)] [] s=.ok (.nx [some (.int p),some (.int a),some (.int (YL p a))] []) s:=by
  rw[rv];exact key
 show ((rvs C [] (.asg [2] (.c (.int 1)) :: .whl _ _ :: .ret (.v 2)::[]) [some (.int p),some (.int a),none] [] s).bind _)=_;have e1:rv C [] (.asg [2] (.c (.int 1))) [some (.int p),some (.int a),none] [] s=.ok (.nx [some (.int p),some (.int a),some (.int 1)] []) s:=by simp[rvs,rv,pvA,pvE,pvs,pvo,pvt,pvw,Zy,Zc,Zi,Zp,pvF,hide,Zj,Option.join,lim]
 rw[rvs,e1,Zc];show ((rvs C [] (.whl _ _ :: .ret (.v 2)::[]) [some (.int p),some (.int a),some (.int 1)] [] s).bind _)=_;rw[rvs,e,Zc];simp[rvs,rv,pvA,pvE,pvs,pvo,pvt,pvw,Zy,Zc,Zi,Zp,pvF,hide,Zj,Option.join,lim]
end
end K23
namespace K23
open Ev Pv Rw La
section
variable {p n:Nat}[Base p]
theorem Xz (C:Z5) (ms:List Nat) {i j:Nat}{ρ:Env}{os:List Nat}{s:DS}{e:E}(h:pvA C e ρ os s=.ok (spV p n) s) (ho:os.contains i=false/\os.contains j=false):rv C ms (.asg [i,j] e) ρ os s=.ok (.nx ((ρ.set i (some (.int p))).set j (some (.int n))) os) s:=by
 rw[rv,h,Zc,if_neg (by simpa using ho)]
 ·rfl
 ·simp
theorem QV (d:Nat) {P:List Row}{r:Row}(s:DS) (hn:n<=6) (hP:Part p n P) (hr:Zz p n r):CV (d+3) 19 [spV p n,Zg P,Zk r] s=.ok (Zk (ZB p P r)) s:=by
 refine ZG (fn:=WJ) rfl (by decide) rfl ?_
 show rvs (CV (d+2)) [] (.asg [3,4] (.v 0) :: .asg [5] (.v 2) :: .forr [6] (.of (.v 1)) [.asg [5] (.call 18 [(.v 3),(.v 5),(.v 6),(.call 8 [(.v 6)])])] :: .ret (.v 5)::[]) [some (spV p n),some (Zg P),some (Zk r),none,none,none,none] [] s=_;rw[Zu (Xz (p:=p) (n:=n) _ _ (by simp[rvs,rv,pvA,pvE,pvs,pvo,pvt,pvw,Zy,Zc,Zi,Zp,pvF,hide,Zj,Option.join,lim]) (by simp))]
 rw[Zu (ρ':=[some (spV p n),some (Zg P),some (Zk r),some (.int p),some (.int n),some (Zk r),none]) (os':=[]) (s':=s) (by simp[rvs,rv,pvA,pvE,pvs,pvo,pvt,pvw,Zy,Zc,Zi,Zp,pvF,hide,Zj,Option.join,lim])]
 obtain⟨o',hI,e⟩:=JF (C:=CV (d+2)) (ms:=[]) (t:=[6]) (it:=.of (.v 1)) (b:=[.asg [5] (.call 18 [(.v 3),(.v 5),(.v 6),(.call 8 [(.v 6)])])]) (L:=P) (e:=Zk) (step:=λst o=>clr p st o ((hdI o).getD 0)) (ρ:=λst o=>[some (spV p n),some (Zg P),some (Zk r),some (.int p),some (.int n),some (Zk st),o]) (st:=r) (o:=none) (os:=[]) (s:=s) (Zz p n) (by simp[rvs,rv,pvA,pvE,pvs,pvo,pvt,pvw,Zy,Zc,Zi,Zp,pvF,hide,Zj,Option.join,lim,Zg]) hr rfl (λx hx st o hst=>by
  have hx':=hP.row x hx;obtain⟨k,hk,hkn,_⟩:=hP.head fld.one0 hx;refine⟨ZW hst hx',rfl,_,some (Zk x),rfl,?_⟩;have e1:=WV (d+1) x s;have e2:=cleared d (h:=k) s hn hst hx' hkn;rw[hk] at e1;simp only[UN] at e1;have e3:CV (d+2) 8 [Zk x] s=.ok (.int k) s:=e1;simp[rvs,rv,pvA,pvE,pvs,pvo,pvt,pvw,Zy,Zc,Zi,Zp,pvF,hide,Zj,Option.join,lim,e3,e2,hk])
 rw[Zu e];exact ZN (Z6 (by simp[rvs,rv,pvA,pvE,pvs,pvo,pvt,pvw,Zy,Zc,Zi,Zp,pvF,hide,Zj,Option.join,lim,ZB]))
theorem dsum {P:List Row}(hP:Part p n P):P.length<=n:=by
 have:=Uc fld hP.pn;rw[zI] at this;omega
theorem widened (d:Nat) {P:List Row}{r:Row}(s:DS) (hn:n<=6) (hP:Part p n P) (hr:Zz p n r):CV (d+4) 22 [spV p n,Zg P,Zk r] s=.ok (Zg (Qo p P r)) s:=by
 refine ZG (fn:=V6) rfl (by decide) rfl ?_
 show rvs (CV (d+3)) [] (.asg [3,4] (.v 0) :: .asg [5] (.call 19 [(.v 0),(.v 1),(.v 2)]) :: .asg [6] (.call 8 [(.v 5)]) :: .ite (.cmp .is (.v 6) (.c .non)) [.ret (.v 1)] [] ::
  .asg [7] (.call 20 [(.v 3),(.v 5),(.call 21 [(.v 3),(.ix (.v 5) (.v 6))])]) :: .asg [8] (.comp1 [3,7,6] 1 [0] (.of (.v 1)) [] (.call 18 [(.v 1),(.v 0),(.v 2),(.v 3)])) ::
  .ret (.blt .tuple [(.blt .sortedR [(.bin .add (.v 8) (.lst [(.v 7)]))])])::[]) [some (spV p n),some (Zg P),some (Zk r),none,none,none,none,none,none] [] s=_
 obtain⟨l1,l2⟩:=UE hP.row hP.pn.rf hr;have hw:=(zh hP hr).1;rw[Zu (Xz (p:=p) (n:=n) _ _ (by simp[rvs,rv,pvA,pvE,pvs,pvo,pvt,pvw,Zy,Zc,Zi,Zp,pvF,hide,Zj,Option.join,lim]) (by simp))]
 have e1:=QV d s hn hP hr;rw[Zu (ρ':=[some (spV p n),some (Zg P),some (Zk r),some (.int p),some (.int n),some (Zk (ZB p P r)),none,none,none]) (os':=[]) (s':=s) (by simp[rvs,rv,pvA,pvE,pvs,pvo,pvt,pvw,Zy,Zc,Zi,Zp,pvF,hide,Zj,Option.join,lim,e1])]
 have e2:=WV (d+2) (ZB p P r) s;rw[Zu (ρ':=[some (spV p n),some (Zg P),some (Zk r),some (.int p),some (.int n),some (Zk (ZB p P r)),some (UN (hdI (ZB p P r))),none,none]) (os':=[]) (s':=s) (by simp[rvs,rv,pvA,pvE,pvs,pvo,pvt,pvw,Zy,Zc,Zi,Zp,pvF,hide,Zj,Option.join,lim,e2])]
 cases q:hdI (ZB p P r) with
 |none=>
  refine ZN ?_;have:Qo p P r=P:=by unfold Qo;rw[q]
  simp[rvs,rv,pvA,pvE,pvs,pvo,pvt,pvw,Zy,Zc,Zi,Zp,pvF,hide,Zj,Option.join,lim,UN,this]
 |some h=>
  obtain⟨h1,h2,h3⟩:=Xk q;rw[l1.1] at h2;have hg:=Xi ppos l1 h;have hp:=Uq (p:=p);have hwid:Qo p P r=(Z8 (P.map (λo=>clr p o (lead p (ZB p P r) h) h)++[lead p (ZB p P r) h])).reverse:=by unfold Qo;rw[q]
  rw[Zu (ρ':=[some (spV p n),some (Zg P),some (Zk r),some (.int p),some (.int n),some (Zk (ZB p P r)),some (.int h),none,none]) (os':=[]) (s':=s) (by simp[rvs,rv,pvA,pvE,pvs,pvo,pvt,pvw,Zy,Zc,Zi,Zp,pvF,hide,Zj,Option.join,lim,UN])]
  have e3:=inverse (p:=p) (d+2) (a:=gt (ZB p P r) h) s ⟨by omega,hg.2⟩
  have hi:-1000<YL p (gt (ZB p P r) h)/\YL p (gt (ZB p P r) h)<1000:=by
   unfold YL
   repeat' split
   all_goals omega
  have e4:=times (p:=p) (d+2) s hn l1 hi;have e5:=WE (r:=ZB p P r) (k:=h) (by rw[l1.1];exact h2)
  have hl:Zz p n (lead p (ZB p P r) h):=WT l1;rw[Zu (ρ':=[some (spV p n),some (Zg P),some (Zk r),some (.int p),some (.int n),some (Zk (ZB p P r)),some (.int h),some (Zk (lead p (ZB p P r) h)),none]) (os':=[]) (s':=s) (by
   have e6:pv (CV (d+3)) (.call 20 [(.v 3),(.v 5),(.call 21 [(.v 3),(.ix (.v 5) (.v 6))])]) [some (spV p n),some (Zg P),some (Zk r),some (.int p),some (.int n),some (Zk (ZB p P r)),some (.int h),none,none] s=.ok (Zk (lead p (ZB p P r) h)) s:=by
    refine ZD (vs:=[.int p,Zk (ZB p P r),.int (YL p (gt (ZB p P r) h))]) (s1:=s) ?_ e4;have e7:pv (CV (d+3)) (.call 21 [(.v 3),(.ix (.v 5) (.v 6))]) [some (spV p n),some (Zg P),some (Zk r),some (.int p),some (.int n),some (Zk (ZB p P r)),some (.int h),none,none] s=.ok (.int (YL p (gt (ZB p P r) h))) s:=by
     refine ZD (vs:=[.int p,.int (gt (ZB p P r) h)]) (s1:=s) ?_ e3;simp[rvs,rv,pvA,pvE,pvs,pvo,pvt,pvw,Zy,Zc,Zi,Zp,pvF,hide,Zj,Option.join,lim,Zk,e5]
    exact Zh (Zo rfl) (Zh (Zo rfl) (Zh e7 Zw))
   rw[rv];show (pv _ _ _ _).bind _=_;rw[e6];rfl)]
  have hc:=Z7 (C:=CV (d+3)) (cap:=[3,7,6]) (nl:=1) (t:=[0]) (it:=.of (.v 1)) (elt:=.call 18 [(.v 1),(.v 0),(.v 2),(.v 3)]) (ρ:=[some (spV p n),some (Zg P),some (Zk r),some (.int p),some (.int n),some (Zk (ZB p P r)),some (.int h),some (Zk (lead p (ZB p P r) h)),none]) (s:=s) (l:=P) (e:=Zk) (g:=λo=>Zk (clr p o (lead p (ZB p P r) h) h))
   (by simp[rvs,rv,pvA,pvE,pvs,pvo,pvt,pvw,Zy,Zc,Zi,Zp,pvF,hide,Zj,Option.join,lim,Zg]) (by have:=dsum hP;unfold lim;omega) (λo ho=>⟨_,rfl,by
    have:=cleared (p:=p) (d+1) (h:=h) s hn (hP.row o ho) hl h2;simp[rvs,rv,pvA,pvE,pvs,pvo,pvt,pvw,Zy,Zc,Zi,Zp,pvF,hide,Zj,Option.join,lim,this]⟩)
  rw[Zu (ρ':=[some (spV p n),some (Zg P),some (Zk r),some (.int p),some (.int n),some (Zk (ZB p P r)),some (.int h),some (Zk (lead p (ZB p P r) h)),some (.lst (P.map λo=>Zk (clr p o (lead p (ZB p P r) h) h)))]) (os':=[]) (s':=s) (by simp[rvs,rv,pvA,pvE,pvs,pvo,pvt,pvw,Zy,Zc,Zi,Zp,pvF,hide,Zj,Option.join,lim,hc])]
  refine ZN (Z6 ?_);have ea:(P.map λo=>Zk (clr p o (lead p (ZB p P r) h) h))++[Zk (lead p (ZB p P r) h)]=((P.map λo=>clr p o (lead p (ZB p P r) h) h)++[lead p (ZB p P r) h]).map Zk:=by rw[List.map_append,List.map_map];rfl
  have hs:YA ((P.map λo=>clr p o (lead p (ZB p P r) h) h)++[lead p (ZB p P r) h])=true:=by
   have hlen:((P.map λo=>clr p o (lead p (ZB p P r) h) h)++[lead p (ZB p P r) h]).length=P.length+1:=by simp
   have hnd:((P.map λo=>clr p o (lead p (ZB p P r) h) h)++[lead p (ZB p P r) h]).Nodup:=by
    have h5:=Ul hw.falls;rw[hwid] at h5;exact ((Sd.XE _).nodup_iff).mp (((List.reverse_perm _).nodup_iff).mp h5)
   have hd:=dsum hP;unfold YA;rw[decide_eq_true (by rw[hlen];omega),decide_eq_true hnd]
   rw[Bool.and_eq_true];refine⟨rfl,List.all_eq_true.mpr λx hx=>?_⟩
   have:x.length=n:=by
    rcases List.mem_append.mp hx with z | z
    ·obtain⟨o,ho,rfl⟩:=List.mem_map.mp z
     exact (ZW (hP.row o ho) hl).1
    ·rw[List.mem_singleton.mp z];exact hl.1
   cases x with
   |nil=>simp at this;omega
   |cons _ _=>rfl
  have hlen2:P.length+1<=16777216:=by have:=dsum hP;omega
  simp[rvs,rv,pvA,pvE,pvs,pvo,pvt,pvw,Zy,Zc,Zi,Zp,pvF,hide,Zj,Option.join,lim,hlen2];rw[ea,QK];simp[rvs,rv,pvA,pvE,pvs,pvo,pvt,pvw,Zy,Zc,Zi,Zp,pvF,hide,Zj,Option.join,lim,hs,hwid,Zg,List.map_reverse]
theorem WG (d:Nat) {P R:List Row}{v:V}(s:DS) (hn:n<=6) (hP:Part p n P) (hR:∀r∈R,Zz p n r) (hv:Yw v=some (R.map Zk)):CV (d+5) 23 [spV p n,Zg P,v] s=.ok (Zg (Yn p P R)) s:=by
 refine ZG (fn:=Xb) rfl (by decide) rfl ?_
 show rvs (CV (d+4)) [] (.asg [3] (.v 1) :: .forr [4] (.of (.v 2)) [.asg [3] (.call 22 [(.v 0),(.v 3),(.v 4)])] :: .ret (.v 3)::[]) [some (spV p n),some (Zg P),some v,none,none] [] s=_;rw[Zu (ρ':=[some (spV p n),some (Zg P),some v,some (Zg P),none]) (os':=[]) (s':=s) (by simp[rvs,rv,pvA,pvE,pvs,pvo,pvt,pvw,Zy,Zc,Zi,Zp,pvF,hide,Zj,Option.join,lim])]
 obtain⟨o',hI,e⟩:=JF (C:=CV (d+4)) (ms:=[]) (t:=[4]) (it:=.of (.v 2)) (b:=[.asg [3] (.call 22 [(.v 0),(.v 3),(.v 4)])]) (L:=R) (e:=Zk) (step:=Qo p) (ρ:=λst o=>[some (spV p n),some (Zg P),some v,some (Zg st),o]) (st:=P) (o:=none) (os:=[]) (s:=s) (Part p n) (by show pvw (CV (d+4)) (.of (.v 2)) [some (spV p n),some (Zg P),some v,some (Zg P),none] s=_;rw[pvw,pv];show po (Yw v) s=_;rw[hv];rfl) hP rfl (λx hx st o hst=>by
  have hx':=hR x hx;refine⟨(zh hst hx').1,rfl,_,some (Zk x),rfl,?_⟩;have e2:=widened d s hn hst hx';simp[rvs,rv,pvA,pvE,pvs,pvo,pvt,pvw,Zy,Zc,Zi,Zp,pvF,hide,Zj,Option.join,lim,e2])
 rw[Zu e];exact ZN (Z6 (by simp[rvs,rv,pvA,pvE,pvs,pvo,pvt,pvw,Zy,Zc,Zi,Zp,pvF,hide,Zj,Option.join,lim,Yn]))
end
end K23
namespace K23
open Ev Pv Rw La
section
variable {p n:Nat}[Base p]
theorem wX (d:Nat) (i lo hi:Int) (s:DS):CV (d+1) 12 [.int i,.int lo,.int hi] s=.ok (.bl (decide (lo<=i)&&decide (i<=hi))) s:=by
 refine ZG (fn:=Wb) rfl (by decide) rfl ?_
 by_cases c:lo<=i <;> simp[Wb,rvs,rv,pvA,pvE,pvs,pvo,pvt,pvw,Zy,Zc,Zi,Zp,pvF,hide,Zj,Option.join,lim,We,GA,c]
theorem xO (d:Nat) {r:Row}(s:DS) (hn:n<=6) (hr:Zz p n r):CV (d+2) 13 [spV p n,Zk r] s=.ok (.bl true) s:=by
 refine ZG (fn:=Ql) rfl (by decide) rfl ?_
 show rvs (CV (d+1)) [] (.asg [2,3] (.v 0) :: .ite (.or (.not (.isi (.v 1) [.tuple])) (.cmp .ne (.blt .len [(.v 1)]) (.v 3))) [.ret (.c (.bl false))] [] :: .ret (.blt .all [(.comp1 [2] 1 [0] (.of (.v 1)) [] (.call 12 [(.v 0),(.c (.int 0)),(.bin .sub (.v 1) (.c (.int 1)))]))])::[]) [some (spV p n),some (Zk r),none,none] [] s=_;rw[Zu (Xz (p:=p) (n:=n) _ _ (by simp[rvs,rv,pvA,pvE,pvs,pvo,pvt,pvw,Zy,Zc,Zi,Zp,pvF,hide,Zj,Option.join,lim]) (by simp))]
 rw[Zu (ρ':=[some (spV p n),some (Zk r),some (.int p),some (.int n)]) (os':=[]) (s':=s) (by
  have hl:=hr.1;simp[rvs,rv,pvA,pvE,pvs,pvo,pvt,pvw,Zy,Zc,Zi,Zp,pvF,hide,Zj,Option.join,lim,We,GA,Zk,ZA,hl])]
 refine ZN (Z6 ?_);have hc:=Z7 (C:=CV (d+1)) (cap:=[2]) (nl:=1) (t:=[0]) (it:=.of (.v 1)) (elt:=.call 12 [(.v 0),(.c (.int 0)),(.bin .sub (.v 1) (.c (.int 1)))]) (ρ:=[some (spV p n),some (Zk r),some (.int p),some (.int n)]) (s:=s) (l:=r) (e:=V.int) (g:=λ_=>V.bl true)
  (by simp[rvs,rv,pvA,pvE,pvs,pvo,pvt,pvw,Zy,Zc,Zi,Zp,pvF,hide,Zj,Option.join,lim,Zk]) (by rw[hr.1];unfold lim;omega) (λx hx=>⟨_,rfl,by
   have h:=hr.2 x hx;have e:=wX d x 0 (p-1) s;have h1:x<=p-1:=by omega
   simp[rvs,rv,pvA,pvE,pvs,pvo,pvt,pvw,Zy,Zc,Zi,Zp,pvF,hide,Zj,Option.join,lim,e,h.1,h1]⟩)
 have ht:=Xc (g:=λ_:Int=>true) r
 simp[rvs,rv,pvA,pvE,pvs,pvo,pvt,pvw,Zy,Zc,Zi,Zp,pvF,hide,Zj,Option.join,lim,hc,ht]
theorem GE (d:Nat) {r:Row}(s:DS) (hn:n<=6) (hr:Zz p n r):CV (d+3) 25 [spV p n,Zk r] s=.ok .non s:=by
 have e:=xO d s hn hr;refine Jv (fn:=Wg) (ρ:=[some (spV p n),some (Zk r)]) (os:=[]) rfl (by decide) rfl ?_
 show rvs (CV (d+2)) [] _ [some (spV p n),some (Zk r)] [] s=_;simp[Wg,rvs,rv,pvA,pvE,pvs,pvo,pvt,pvw,Zy,Zc,Zi,Zp,pvF,hide,Zj,Option.join,lim,e]
theorem yQ (d:Nat) {hs:List Nat}(s:DS) (hl:hs.length<=1000) (h:hs.Pairwise (· < ·)):CV (d+1) 9 [.lst (hs.map ZK)] s=.ok (.bl true) s:=by
 refine ZG (fn:=XL) rfl (by decide) rfl ?_
 have ez:∀(a b:List Nat),((a.map ZK).zip (b.map ZK)).map (λq=>V.tup [q.1,q.2])=(a.zip b).map λq=>V.tup [ZK q.1,ZK q.2]:=by
  intro a
  induction a with
  |nil=>intro b;rfl
  |cons x a ih=>intro b;cases b with
   |nil=>rfl
   |cons y b=>simp only[List.map_cons,List.zip_cons_cons];rw[ih]
 have hc:=Z7 (C:=CV d) (cap:=[]) (nl:=2) (t:=[0,1]) (it:=.zip (.v 0) (.sl (.v 0) (some (.c (.int 1))) none)) (elt:=.cmp .lt (.v 0) (.v 1)) (ρ:=[some (.lst (hs.map ZK))]) (s:=s) (l:=hs.zip hs.tail) (e:=λq=>V.tup [ZK q.1,ZK q.2]) (g:=λ_=>V.bl true)
  (by
   have e1:Wm (hs.map ZK) (some 1) none=hs.tail.map ZK:=by rw[wt,List.map_tail]
   simp[rvs,rv,pvA,pvE,pvs,pvo,pvt,pvw,Zy,Zc,Zi,Zp,pvF,hide,Zj,Option.join,lim,slV,e1];rw[<-List.map_tail,ez]) (by rw[List.length_zip];unfold lim;omega) (λq hq=>⟨_,rfl,by
   have:q.1<q.2:=by
    obtain⟨i,hi,e⟩:=List.getElem_of_mem hq;rw[List.getElem_zip] at e;rw[<-e];rw[List.length_zip,List.length_tail] at hi;simp only[List.getElem_tail];exact List.pairwise_iff_getElem.mp h i (i+1) (by omega) (by omega) (by omega)
   simp[rvs,rv,pvA,pvE,pvs,pvo,pvt,pvw,Zy,Zc,Zi,Zp,pvF,hide,Zj,Option.join,lim,ZK,this]⟩)
 have ht:=Xc (g:=λ_:Nat×Nat=>true) (hs.zip hs.tail)
 simp[XL,rvs,rv,pvA,pvE,pvs,pvo,pvt,pvw,Zy,Zc,Zi,Zp,pvF,hide,Zj,Option.join,lim,hc,ht]
theorem zx (d:Nat) {R:List Row}{k:Nat}(s:DS) (hl:R.length<=1000) (hk:∀r∈R,k<r.length/\gt r k=0):CV (d+1) 10 [Zg R,.int k] s=.ok (.bl true) s:=by
 refine ZG (fn:=Xs) rfl (by decide) rfl ?_
 have hc:=Z7 (C:=CV d) (cap:=[1]) (nl:=1) (t:=[0]) (it:=.of (.v 0)) (elt:=.cmp .eq (.ix (.v 0) (.v 1)) (.c (.int 0))) (ρ:=[some (Zg R),some (.int k)]) (s:=s) (l:=R) (e:=Zk) (g:=λ_=>V.bl true)
  (by simp[rvs,rv,pvA,pvE,pvs,pvo,pvt,pvw,Zy,Zc,Zi,Zp,pvF,hide,Zj,Option.join,lim,Zg]) (by unfold lim;omega) (λr hr=>⟨_,rfl,by
   obtain⟨h1,h2⟩:=hk r hr;have:=WE h1;simp[rvs,rv,pvA,pvE,pvs,pvo,pvt,pvw,Zy,Zc,Zi,Zp,pvF,hide,Zj,Option.join,lim,Zk,this,h2,ZA]⟩)
 have ht:=Xc (g:=λ_:Row=>true) R
 simp[Xs,rvs,rv,pvA,pvE,pvs,pvo,pvt,pvw,Zy,Zc,Zi,Zp,pvF,hide,Zj,Option.join,lim,hc,ht]
theorem GL {P:List Row}(hP:Part p n P):P.map (λr=>UN (hdI r))=(ZR P).map ZK:=by
 unfold ZR;rw[List.map_map];refine List.map_congr_left λr hr=>?_
 obtain⟨k,hk,_⟩:=hP.head fld.one0 hr;show UN (hdI r)=ZK ((hdI r).getD 0);rw[hk];rfl
theorem qF {P:List Row}(hP:Part p n P) {i:Nat}(hi:i<P.length):∃k,hdI P[i]=some k/\k<n/\gt P[i] k=1/\∀j (hj:j<P.length),j≠i->gt P[j] k=0:=by
 have hm:=List.getElem_mem hi;obtain⟨k,h1,h2,h3⟩:=hP.head fld.one0 hm;have one:ph p 1=1:=by rcases (inferInstance:Base p).b with e | e | e <;> subst e <;> rfl
 refine⟨k,h1,h2,UU (Xi ppos (hP.row _ hm) k) ⟨by omega,by have:=Uq (p:=p);omega⟩ (by rw[one];exact h3),λj hj ne=>?_⟩
 have hm2:=List.getElem_mem hj;obtain⟨k2,g1,g2,g3⟩:=hP.head fld.one0 hm2;have inc:=hP.pn.rf.heads;have a1:=YY (p:=p) hm;have a2:=YY (p:=p) hm2;rw[h1] at a1;rw[g1] at a2;refine (Xn (hP.row _ hm2)).mp (hP.pn.rf.zer _ a1 _ a2 ?_);have hinc:=hP.pn.rf.inc;unfold toP at hinc;rw[List.pairwise_map,List.pairwise_iff_getElem] at hinc;show k≠k2;rcases Nat.lt_or_gt_of_ne ne with c | c
 ·have:=hinc j i hj hi c
  simp only[h1,g1] at this;simp at this;omega
 ·have:=hinc i j hi hj c
  simp only[h1,g1] at this;simp at this;omega
theorem Jw (d:Nat) {P:List Row}{i:Nat}(s:DS) (hn:n<=6) (hP:Part p n P) (hi:i<P.length):∃k,hdI P[i]=some k/\CV (d+2) 11 [Zg P,.int i,.int k] s=.ok (.bl true) s:=by
 obtain⟨k,h1,h2,h3,h4⟩:=qF hP hi;refine⟨k,h1,ZG (fn:=Y2) rfl (by decide) rfl ?_⟩
 have hd:=dsum hP;have hrow:=hP.row _ (List.getElem_mem hi);have e1:at' (P.map Zk) (i:Int)=some (Zk P[i]):=GZ (by rw[List.getElem?_map,List.getElem?_eq_getElem hi];rfl)
 have e2:=WE (r:=P[i]) (k:=k) (by rw[hrow.1];exact h2)
 have e3:=zx d (R:=P.take i++P.drop (i+1)) (k:=k) s (by rw[List.length_append,List.length_take,List.length_drop];omega) (λr hr=>by
  have hmem:∃j,∃(hj:j<P.length),j≠i/\P[j]=r:=by
   rcases List.mem_append.mp hr with z | z
   ·obtain⟨j,hj,e⟩:=List.getElem_of_mem z
    rw[List.length_take] at hj;exact⟨j,by omega,by omega,by rw[<-e,List.getElem_take]⟩
   ·obtain⟨j,hj,e⟩:=List.getElem_of_mem z
    rw[List.length_drop] at hj;exact⟨i+1+j,by omega,by omega,by rw[<-e,List.getElem_drop]⟩
  obtain⟨j,hj,ne,rfl⟩:=hmem;exact⟨by rw[(hP.row _ (List.getElem_mem hj)).1];exact h2,h4 j hj ne⟩)
 have c1:Wm (P.map Zk) none (some (i:Int))=(P.take i).map Zk:=by rw[qW (by rw[List.length_map];omega),List.map_take]
 have c2:Wm (P.map Zk) (some ((i:Int)+1)) none=(P.drop (i+1)).map Zk:=by rw[Gy (k:=i+1) (by omega) (by rw[List.length_map];omega),List.map_drop]
 have c3:(P.take i).length+(P.drop (i+1)).length<=16777216:=by rw[List.length_take,List.length_drop];omega
 rw[List.length_take,List.length_drop] at c3;have e4:CV (d+1) 10 [V.tup ((P.map Zk).take i++(P.map Zk).drop (i+1)),.int k] s=.ok (.bl true) s:=by
  rw[<-List.map_take,<-List.map_drop,<-List.map_append];exact e3
 simp[Y2,rvs,rv,pvA,pvE,pvs,pvo,pvt,pvw,Zy,Zc,Zi,Zp,pvF,hide,Zj,Option.join,lim,Zg,slV,e1,c1,c2,c3,e4];simp[Zk,e2,h3,ZA,rvs,rv,pvA,pvE,pvs,pvo,pvt,pvw,Zy,Zc,Zi,Zp,pvF,hide,Zj,Option.join,lim,e4]
theorem zU:∀hs:List Nat,Qx .non (hs.map ZK)=some false
 |[]=>rfl
 |h::hs=>by
  show (match eqV ZA (ZK h) .non,Qx .non (hs.map ZK) with | some a,some b=>some (a||b) | _,_=>none)=_
  rw[zU hs];rfl
theorem Jb (d:Nat) {P:List Row}(s:DS) (hn:n<=6) (hP:Part p n P):CV (d+3) 14 [spV p n,Zg P] s=.ok (.bl true) s:=by
 refine ZG (fn:=VU) rfl (by decide) rfl ?_
 show rvs (CV (d+2)) [] (.ite (.or (.not (.isi (.v 1) [.tuple])) (.not (.blt .all [(.comp1 [0] 1 [0] (.of (.v 1)) [] (.call 13 [(.v 1),(.v 0)]))]))) [.ret (.c (.bl false))] [] ::
  .asg [2] (.comp1 [] 1 [0] (.of (.v 1)) [] (.call 8 [(.v 0)])) ::
  .ite (.or (.cmp .inn (.c .non) (.v 2)) (.not (.call 9 [(.v 2)]))) [.ret (.c (.bl false))] [] ::
  .ret (.blt .all [(.comp1 [1] 2 [0,1] (.enum (.v 2)) [] (.call 11 [(.v 2),(.v 0),(.v 1)]))])::[]) [some (spV p n),some (Zg P),none] [] s=_
 have hd:=dsum hP;have hc1:=Z7 (C:=CV (d+2)) (cap:=[0]) (nl:=1) (t:=[0]) (it:=.of (.v 1)) (elt:=.call 13 [(.v 1),(.v 0)]) (ρ:=[some (spV p n),some (Zg P),none]) (s:=s) (l:=P) (e:=Zk) (g:=λ_=>V.bl true)
  (by simp[rvs,rv,pvA,pvE,pvs,pvo,pvt,pvw,Zy,Zc,Zi,Zp,pvF,hide,Zj,Option.join,lim,Zg]) (by unfold lim;omega) (λx hx=>⟨_,rfl,by
   have e:=xO d s hn (hP.row x hx);simp[rvs,rv,pvA,pvE,pvs,pvo,pvt,pvw,Zy,Zc,Zi,Zp,pvF,hide,Zj,Option.join,lim,e]⟩)
 have ht:=Xc (g:=λ_:Row=>true) P
 have hpt:We (Zg P) [.tuple]=some true:=rfl;rw[Zu (ρ':=[some (spV p n),some (Zg P),none]) (os':=[]) (s':=s) (by simp[rvs,rv,pvA,pvE,pvs,pvo,pvt,pvw,Zy,Zc,Zi,Zp,pvF,hide,Zj,Option.join,lim,hpt,hc1,ht])]
 have hc2:=Z7 (C:=CV (d+2)) (cap:=[]) (nl:=1) (t:=[0]) (it:=.of (.v 1)) (elt:=.call 8 [(.v 0)]) (ρ:=[some (spV p n),some (Zg P),none]) (s:=s) (l:=P) (e:=Zk) (g:=λr=>UN (hdI r))
  (by simp[rvs,rv,pvA,pvE,pvs,pvo,pvt,pvw,Zy,Zc,Zi,Zp,pvF,hide,Zj,Option.join,lim,Zg]) (by unfold lim;omega) (λx hx=>⟨_,rfl,by
   have e:=WV (d+1) x s;simp[rvs,rv,pvA,pvE,pvs,pvo,pvt,pvw,Zy,Zc,Zi,Zp,pvF,hide,Zj,Option.join,lim,e]⟩)
 rw[GL hP] at hc2;rw[Zu (ρ':=[some (spV p n),some (Zg P),some (.lst ((ZR P).map ZK))]) (os':=[]) (s':=s) (by simp[rvs,rv,pvA,pvE,pvs,pvo,pvt,pvw,Zy,Zc,Zi,Zp,pvF,hide,Zj,Option.join,lim,hc2])]
 have hrs:(ZR P).Pairwise (· < ·):=by rw[<-WU (p:=p)];exact hP.pn.rf.heads
 have hln:(ZR P).length=P.length:=by unfold ZR;rw[List.length_map]
 have e3:=yQ (d+1) s (by omega) hrs
 have hin:=zU (ZR P);rw[Zu (ρ':=[some (spV p n),some (Zg P),some (.lst ((ZR P).map ZK))]) (os':=[]) (s':=s) (by simp[rvs,rv,pvA,pvE,pvs,pvo,pvt,pvw,Zy,Zc,Zi,Zp,pvF,hide,Zj,Option.join,lim,WN,hin,e3])]
 refine ZN (Z6 ?_);have ew:((Xu 0 (ZR P).length).zip ((ZR P).map ZK)).map (λq=>V.tup [q.1,q.2])=(List.range P.length).map λi=>V.tup [ZK i,ZK ((ZR P).getD i 0)]:=by
  apply List.ext_getElem
  ·simp[Xu,hln]
  ·intro i h1 h2
   have h3:i<P.length:=by simpa using h2
   have h4:i<(ZR P).length:=by omega
   simp[Xu,ZK,h4]
 have hc3:=Z7 (C:=CV (d+2)) (cap:=[1]) (nl:=2) (t:=[0,1]) (it:=.enum (.v 2)) (elt:=.call 11 [(.v 2),(.v 0),(.v 1)]) (ρ:=[some (spV p n),some (Zg P),some (.lst ((ZR P).map ZK))]) (s:=s) (l:=List.range P.length) (e:=λi=>V.tup [ZK i,ZK ((ZR P).getD i 0)]) (g:=λ_=>V.bl true)
  (by
   have:pvw (CV (d+2)) (.enum (.v 2)) [some (spV p n),some (Zg P),some (.lst ((ZR P).map ZK))] s=.ok (((Xu 0 ((ZR P).map ZK).length).zip ((ZR P).map ZK)).map λq=>V.tup [q.1,q.2]) s:=by simp[rvs,rv,pvA,pvE,pvs,pvo,pvt,pvw,Zy,Zc,Zi,Zp,pvF,hide,Zj,Option.join,lim]
   rw[this,List.length_map,ew]) (by rw[List.length_range];unfold lim;omega) (λi hi=>⟨_,rfl,by
   have hi':=List.mem_range.mp hi;obtain⟨k,hk,e⟩:=Jw d s hn hP hi';have:(ZR P).getD i 0=k:=by
    unfold ZR;rw[List.getD_eq_getElem?_getD,List.getElem?_map,List.getElem?_eq_getElem hi'];show ((hdI P[i]).getD 0)=k;rw[hk];rfl
   have e':CV (d+2) 11 [Zg P,ZK i,ZK ((ZR P).getD i 0)] s=.ok (.bl true) s:=by rw[this];exact e
   simp[rvs,rv,pvA,pvE,pvs,pvo,pvt,pvw,Zy,Zc,Zi,Zp,pvF,hide,Zj,Option.join,lim] at e' ⊢;exact e'⟩)
 have ht3:=Xc (g:=λ_:Nat=>true) (List.range P.length)
 simp[rvs,rv,pvA,pvE,pvs,pvo,pvt,pvw,Zy,Zc,Zi,Zp,pvF,hide,Zj,Option.join,lim,hc3,ht3]
theorem X3 (d:Nat) {P:List Row}(s:DS) (hn:n<=6) (hP:Part p n P):CV (d+4) 15 [spV p n,Zg P] s=.ok .non s:=by
 have e:=Jb d s hn hP;refine Jv (fn:=XQ) (ρ:=[some (spV p n),some (Zg P)]) (os:=[]) rfl (by decide) rfl ?_
 show rvs (CV (d+3)) [] _ [some (spV p n),some (Zg P)] [] s=_;simp[XQ,rvs,rv,pvA,pvE,pvs,pvo,pvt,pvw,Zy,Zc,Zi,Zp,pvF,hide,Zj,Option.join,lim,e]
theorem Wl (d:Nat) {P Q:List Row}(s:DS) (hn:n<=6) (hP:Part p n P) (hQ:Part p n Q):CV (d+5) 16 [spV p n,Zg P,Zg Q] s=.ok .non s:=by
 have e1:=X3 d s hn hP;have e2:=X3 d s hn hQ;refine Jv (fn:=Xv) (ρ:=[some (spV p n),some (Zg P),some (Zg Q)]) (os:=[]) rfl (by decide) rfl ?_
 show rvs (CV (d+4)) [] _ [some (spV p n),some (Zg P),some (Zg Q)] [] s=_;simp[Xv,rvs,rv,pvA,pvE,pvs,pvo,pvt,pvw,Zy,Zc,Zi,Zp,pvF,hide,Zj,Option.join,lim,e1,e2]
end
end K23
namespace K23
open Ev Pv Rw La
section
variable {p n:Nat}[Base p]
theorem spanned (d:Nat) {R:List Row}{v:V}(s:DS) (hn:n<=6) (hR:∀r∈R,Zz p n r) (hv:Yw v=some (R.map Zk)) (ht:We v [.tuple,.list]=some true):CV (d+6) 26 [spV p n,v] s=.ok (Zg (Yn p [] R)) s:=by
 refine ZG (fn:=V9) rfl (by decide) rfl ?_
 show rvs (CV (d+5)) [] (.ite (.not (.isi (.v 1) [.tuple,.list])) [.raise _ []] [] :: .forr [2] (.of (.v 1)) [.ex (.call 25 [(.v 0),(.v 2)])] :: .ret (.call 23 [(.v 0),(.tup []),(.v 1)])::[]) [some (spV p n),some v,none] [] s=_;rw[Zu (ρ':=[some (spV p n),some v,none]) (os':=[]) (s':=s) (by simp[rvs,rv,pvA,pvE,pvs,pvo,pvt,pvw,Zy,Zc,Zi,Zp,pvF,hide,Zj,Option.join,lim,ht])]
 obtain⟨o',hI,e⟩:=JF (C:=CV (d+5)) (ms:=[]) (t:=[2]) (it:=.of (.v 1)) (b:=[.ex (.call 25 [(.v 0),(.v 2)])]) (L:=R) (e:=Zk) (step:=λ(st:Unit) _=>st) (ρ:=λ_ o=>[some (spV p n),some v,o]) (st:=()) (o:=none) (os:=[]) (s:=s) (λ_=>True) (by show pvw (CV (d+5)) (.of (.v 1)) [some (spV p n),some v,none] s=_;rw[pvw,pv];show po (Yw v) s=_;rw[hv];rfl) True.intro rfl (λx hx st o hst=>by
  refine⟨True.intro,rfl,_,some (Zk x),rfl,?_⟩;have e2:=GE (d+2) s hn (hR x hx);show rvs (CV (d+5)) [] _ [some (spV p n),some v,some (Zk x)] [] s=_;rw[Zu (Vw (v:=.non) (s':=s) (ZD (vs:=[spV p n,Zk x]) (s1:=s) (Zh (Zo rfl) (Zh (Zo rfl) Zw)) e2)),rvs])
 rw[Zu e];refine ZN (Z6 (ZD (vs:=[spV p n,Zg [],v]) (s1:=s) (Zh (Zo rfl) (Zh (by simp[rvs,rv,pvA,pvE,pvs,pvo,pvt,pvw,Zy,Zc,Zi,Zp,pvF,hide,Zj,Option.join,lim,Zg]) (Zh (Zo rfl) Zw))) (WG d s hn Part.nil hR hv)))
theorem joined (d:Nat) {P Q:List Row}(s:DS) (hn:n<=6) (hP:Part p n P) (hQ:Part p n Q):CV (d+6) 24 [spV p n,Zg P,Zg Q] s=.ok (Zg (Yn p P Q)) s:=by
 refine ZG (fn:=Qc) rfl (by decide) rfl ?_
 show rvs (CV (d+5)) [] (.ex (.call 16 [(.v 0),(.v 1),(.v 2)]) :: .ret (.call 23 [(.v 0),(.v 1),(.v 2)])::[]) [some (spV p n),some (Zg P),some (Zg Q)] [] s=_;have ha:pvs (CV (d+5)) [(.v 0),(.v 1),(.v 2)] [some (spV p n),some (Zg P),some (Zg Q)] s=.ok [spV p n,Zg P,Zg Q] s:=Zh (Zo rfl) (Zh (Zo rfl) (Zh (Zo rfl) Zw));rw[Zu (Vw (ZD ha (Wl d s hn hP hQ)))];exact ZN (Z6 (ZD ha (WG d s hn hP hQ.row rfl)))
theorem GG {r:Row}{k:Nat}{x:Int}:(r.map V.int).set k (.int x)=(r.set k x).map V.int:=by rw[List.map_set]
theorem J9 (d:Nat) {P:List Row}{f:Nat}(s:DS) (hn:n<=6) (hP:Part p n P) (hf:f<n):CV (d+2) 27 [spV p n,Zg P,.int f] s=.ok (Zk (avI p n P f)) s:=by
 refine ZG (fn:=XV) rfl (by decide) rfl ?_
 show rvs (CV (d+1)) [5,5] (.asg [3,4] (.v 0) :: .asg [5] (.bin .mul (.lst [(.c (.int 0))]) (.v 4)) :: .put (.v 5) (.v 2) (.c (.int 1)) :: .forr [6] (.of (.v 1)) [.put (.v 5) (.call 8 [(.v 6)]) (.bin .mod (.neg (.ix (.v 6) (.v 2))) (.v 3))] :: .ret (.blt .tuple [(.v 5)])::[]) [some (spV p n),some (Zg P),some (.int f),none,none,none,none] [] s=_;rw[Zu (Xz (p:=p) (n:=n) _ _ (by simp[rvs,rv,pvA,pvE,pvs,pvo,pvt,pvw,Zy,Zc,Zi,Zp,pvF,hide,Zj,Option.join,lim]) (by simp))]
 have er:(List.replicate n [V.int 0]).flatten=(List.replicate n (0:Int)).map V.int:=by
  rw[List.map_replicate];clear hf hP hn
  induction n with
  |zero=>rfl
  |succ k ih=>rw[List.replicate_succ,List.flatten_cons,ih];rfl
 have hp:=Uq (p:=p);have e1:rv (CV (d+1)) [5,5] (.asg [5] (.bin .mul (.lst [(.c (.int 0))]) (.v 4))) [some (spV p n),some (Zg P),some (.int f),some (.int p),some (.int n),none,none] [] s=.ok (.nx [some (spV p n),some (Zg P),some (.int f),some (.int p),some (.int n),some (.lst ((List.replicate n (0:Int)).map V.int)),none] [5]) s:=by
  have h1:n<1000:=by omega
  have hfl:=Va (List.replicate n (0:Int));rw[List.map_replicate] at hfl er;have h2:(n:Int)<1000:=by omega
  simp[rvs,rv,pvA,pvE,pvs,pvo,pvt,pvw,Zy,Zc,Zi,Zp,pvF,hide,Zj,Option.join,lim,h2,er,hfl]
 rw[show (([some (spV p n),some (Zg P),some (.int f),none,none,none,none]:Env).set 3 (some (.int p))).set 4 (some (.int n))=[some (spV p n),some (Zg P),some (.int f),some (.int p),some (.int n),none,none] from rfl,Zu e1]
 have ix:∀(r:Row) (k:Nat),k<r.length->ixN (r.map V.int).length (k:Int)=some k:=λr k h=>by
  unfold ixN;rw[if_pos (by omega),if_pos (by rw[List.length_map];omega)];rfl
 have e2:rv (CV (d+1)) [5,5] (.put (.v 5) (.v 2) (.c (.int 1))) [some (spV p n),some (Zg P),some (.int f),some (.int p),some (.int n),some (.lst ((List.replicate n (0:Int)).map V.int)),none] [5] s=.ok (.nx [some (spV p n),some (Zg P),some (.int f),some (.int p),some (.int n),some (.lst (((List.replicate n (0:Int)).set f 1).map V.int)),none] [5]) s:=by
  have h1:=ix (List.replicate n 0) f (by simpa using hf)
  rw[rv];simp only[rvs,rv,pvA,pvE,pvs,pvo,pvt,pvw,Zy,Zc,Zi,Zp,pvF,hide,Zj,Option.join,lim,W7,V.flat];simp only[List.contains_cons,BEq.rfl,Bool.true_or,if_true,List.getElem?_cons_succ,List.getElem?_cons_zero,Option.bind,id,rvs,rv,pvA,pvE,pvs,pvo,pvt,pvw,Zy,Zc,Zi,Zp,pvF,hide,Zj,Option.join,lim];rw[h1,Zi,Zc,GG];rfl
 rw[Zu e2];obtain⟨o',hI,e⟩:=JF (C:=CV (d+1)) (ms:=[5,5]) (t:=[6]) (it:=.of (.v 1)) (b:=[.put (.v 5) (.call 8 [(.v 6)]) (.bin .mod (.neg (.ix (.v 6) (.v 2))) (.v 3))]) (L:=P) (e:=Zk) (step:=λ(s:Row) r=>s.set ((hdI r).getD 0) ((-(gt r f))%p)) (ρ:=λst o=>[some (spV p n),some (Zg P),some (.int f),some (.int p),some (.int n),some (.lst (st.map V.int)),o]) (st:=(List.replicate n (0:Int)).set f 1) (o:=none) (os:=[5]) (s:=s) (λst=>st.length=n) (by simp[rvs,rv,pvA,pvE,pvs,pvo,pvt,pvw,Zy,Zc,Zi,Zp,pvF,hide,Zj,Option.join,lim,Zg]) (by simp) (by simp) (λx hx st o hst=>by
  have hx':=hP.row x hx;obtain⟨k,hk,hkn,_⟩:=hP.head fld.one0 hx;refine⟨by rw[List.length_set];exact hst,by simp[Zk,V.flat,Va],_,some (Zk x),rfl,?_⟩
  show rvs (CV (d+1)) [5,5] _ [some (spV p n),some (Zg P),some (.int f),some (.int p),some (.int n),some (.lst (st.map V.int)),some (Zk x)] [5] s=_;have e3:=WV d x s;rw[hk] at e3;have e3':CV (d+1) 8 [Zk x] s=.ok (.int k) s:=e3;have e4:=WE (r:=x) (k:=f) (by rw[hx'.1];exact hf)
  have ev:pv (CV (d+1)) (.bin .mod (.neg (.ix (.v 6) (.v 2))) (.v 3)) [some (spV p n),some (Zg P),some (.int f),some (.int p),some (.int n),some (.lst (st.map V.int)),some (Zk x)] s=.ok (.int ((-(gt x f))%p)) s:=by
   have hp0:0<p:=by omega
   simp[rvs,rv,pvA,pvE,pvs,pvo,pvt,pvw,Zy,Zc,Zi,Zp,pvF,hide,Zj,Option.join,lim,Zk,e4,hp0]
  have ek:pv (CV (d+1)) (.call 8 [(.v 6)]) [some (spV p n),some (Zg P),some (.int f),some (.int p),some (.int n),some (.lst (st.map V.int)),some (Zk x)] s=.ok (.int k) s:=ZD (Zh (Zo rfl) Zw) e3';have h1:=ix st k (by rw[hst];exact hkn)
  rw[hk];rw[Zu (ρ':=[some (spV p n),some (Zg P),some (.int f),some (.int p),some (.int n),some (.lst ((st.set k ((-(gt x f))%p)).map V.int)),some (Zk x)]) (os':=[5]) (s':=s) (by
   rw[rv,if_pos (by simp),ev,Zc,if_pos (by rfl)]
   show (po (some (st.map V.int)) s).bind _=_;rw[Zi,Zc,ek,Zc];show (po (ixN (st.map V.int).length (k:Int)) s).bind _=_;rw[h1,Zi,Zc,GG];rfl),rvs]
  rfl)
 rw[Zu e];refine ZN (Z6 ?_);simp[rvs,rv,pvA,pvE,pvs,pvo,pvt,pvw,Zy,Zc,Zi,Zp,pvF,hide,Zj,Option.join,lim,Zk,avI,avF]
theorem wV (j:Nat):∀hs:List Nat,Qx (ZK j) (hs.map ZK)=some (hs.contains j)
 |[]=>rfl
 |h::hs=>by
  show (match eqV ZA (ZK h) (ZK j),Qx (ZK j) (hs.map ZK) with | some a,some b=>some (a||b) | _,_=>none)=_
  rw[wV j hs,List.contains_cons];show some (decide ((h:Int)=(j:Int))||hs.contains j)=_
  congr 2
  rw[Bool.eq_iff_iff];simp;omega
theorem against (d:Nat) {P:List Row}(s:DS) (hn:n<=6) (hP:Part p n P):CV (d+7) 28 [spV p n,Zg P] s=.ok (Zg (UO p n P)) s:=by
 refine ZG (fn:=V8) rfl (by decide) rfl ?_
 show rvs (CV (d+6)) [] (.ex (.call 15 [(.v 0),(.v 1)]) :: .asg [2,3] (.v 0) :: .asg [4] (.comp1 [] 1 [0] (.of (.v 1)) [] (.call 8 [(.v 0)])) :: .asg [5] (.comp1 [4] 1 [0] (.rng1 (.v 3)) [(.cmp .nin (.v 0) (.v 1))] (.v 0)) :: .ret (.call 26 [(.v 0),(.comp1 [0,1] 1 [0] (.of (.v 5)) [] (.call 27 [(.v 1),(.v 2),(.v 0)]))])::[]) [some (spV p n),some (Zg P),none,none,none,none] [] s=_;have hd:=dsum hP;rw[Zu (Vw (ZD (Zh (Zo rfl) (Zh (Zo rfl) Zw)) (X3 (d+2) s hn hP)))];rw[Zu (Xz (p:=p) (n:=n) _ _ (by simp[rvs,rv,pvA,pvE,pvs,pvo,pvt,pvw,Zy,Zc,Zi,Zp,pvF,hide,Zj,Option.join,lim]) (by simp))]
 have hc2:=Z7 (C:=CV (d+6)) (cap:=[]) (nl:=1) (t:=[0]) (it:=.of (.v 1)) (elt:=.call 8 [(.v 0)]) (ρ:=[some (spV p n),some (Zg P),some (.int p),some (.int n),none,none]) (s:=s) (l:=P) (e:=Zk) (g:=λr=>UN (hdI r))
  (by simp[rvs,rv,pvA,pvE,pvs,pvo,pvt,pvw,Zy,Zc,Zi,Zp,pvF,hide,Zj,Option.join,lim,Zg]) (by unfold lim;omega) (λx hx=>⟨_,rfl,by
   have e:=WV (d+5) x s;simp[rvs,rv,pvA,pvE,pvs,pvo,pvt,pvw,Zy,Zc,Zi,Zp,pvF,hide,Zj,Option.join,lim,e]⟩)
 rw[GL hP] at hc2;rw[Zu (ρ':=[some (spV p n),some (Zg P),some (.int p),some (.int n),some (.lst ((ZR P).map ZK)),none]) (os':=[]) (s':=s) (by simp[rvs,rv,pvA,pvE,pvs,pvo,pvt,pvw,Zy,Zc,Zi,Zp,pvF,hide,Zj,Option.join,lim,hc2])]
 have hc3:=Xg (C:=CV (d+6)) (cap:=[4]) (nl:=1) (t:=[0]) (it:=.rng1 (.v 3)) (tst:=.cmp .nin (.v 0) (.v 1)) (elt:=.v 0) (ρ:=[some (spV p n),some (Zg P),some (.int p),some (.int n),some (.lst ((ZR P).map ZK)),none]) (s:=s) (l:=List.range n) (e:=ZK) (g:=ZK) (q:=λj=>!(ZR P).contains j)
  (X9 (Zo rfl) (by omega)) (by rw[List.length_range];unfold lim;omega) (λj hj=>⟨_,.bl (!(ZR P).contains j),rfl,by
   have:=wV j (ZR P);simp[rvs,rv,pvA,pvE,pvs,pvo,pvt,pvw,Zy,Zc,Zi,Zp,pvF,hide,Zj,Option.join,lim,WN,this],rfl,λ_=>by simp[rvs,rv,pvA,pvE,pvs,pvo,pvt,pvw,Zy,Zc,Zi,Zp,pvF,hide,Zj,Option.join,lim]⟩)
 rw[Zu (ρ':=[some (spV p n),some (Zg P),some (.int p),some (.int n),some (.lst ((ZR P).map ZK)),some (.lst ((Wp n P).map ZK))]) (os':=[]) (s':=s) (by
  refine (YW hc3 rfl).trans ?_;rfl)]
 have hc4:=Z7 (C:=CV (d+6)) (cap:=[0,1]) (nl:=1) (t:=[0]) (it:=.of (.v 5)) (elt:=.call 27 [(.v 1),(.v 2),(.v 0)]) (ρ:=[some (spV p n),some (Zg P),some (.int p),some (.int n),some (.lst ((ZR P).map ZK)),some (.lst ((Wp n P).map ZK))]) (s:=s) (l:=Wp n P) (e:=ZK) (g:=λf=>Zk (avI p n P f))
  (by simp[rvs,rv,pvA,pvE,pvs,pvo,pvt,pvw,Zy,Zc,Zi,Zp,pvF,hide,Zj,Option.join,lim]) (by
   have:(Wp n P).length<=n:=by unfold Wp;exact Nat.le_trans (List.length_filter_le ..) (by rw[List.length_range];exact Nat.le_refl _)
   unfold lim;omega) (λf hf=>⟨_,rfl,by
   have hf':f<n:=by rw[<-Qd (p:=p)] at hf;exact (Yz.mp hf).1
   have e:=J9 (d+4) s hn hP hf';exact ZD (Zh (Zo rfl) (Zh (Zo rfl) (Zh (Zo rfl) Zw))) e⟩)
 have e5:=spanned (p:=p) (n:=n) d (R:=(Wp n P).map (avI p n P)) (v:=.lst ((Wp n P).map λf=>Zk (avI p n P f))) s hn (λr hr=>by obtain⟨f,hf,rfl⟩:=List.mem_map.mp hr;exact (vm hP hf).1) (by rw[List.map_map];rfl) rfl
 exact ZN (Z6 (ZD (Zh (Zo rfl) (Zh hc4 Zw)) e5))
theorem met (d:Nat) {P Q:List Row}(s:DS) (hn:n<=6) (hP:Part p n P) (hQ:Part p n Q):CV (d+8) 29 [spV p n,Zg P,Zg Q] s=.ok (Zg (YS p n P Q)) s:=by
 refine ZG (fn:=wK) rfl (by decide) rfl ?_
 show rvs (CV (d+7)) [] (.ex (.call 16 [(.v 0),(.v 1),(.v 2)]) :: .ret (.call 28 [(.v 0),(.call 24 [(.v 0),(.call 28 [(.v 0),(.v 1)]),(.call 28 [(.v 0),(.v 2)])])])::[]) [some (spV p n),some (Zg P),some (Zg Q)] [] s=_;rw[Zu (Vw (ZD (Zh (Zo rfl) (Zh (Zo rfl) (Zh (Zo rfl) Zw))) (Wl (d+2) s hn hP hQ)))];have a1:=(WK hP).1;have a2:=(WK hQ).1;have a3:=(Xj a1 a2).1;exact ZN (Z6 (ZD (Zh (Zo rfl) (Zh (ZD (Zh (Zo rfl) (Zh (ZD (Zh (Zo rfl) (Zh (Zo rfl) Zw)) (against d s hn hP)) (Zh (ZD (Zh (Zo rfl) (Zh (Zo rfl) Zw)) (against d s hn hQ)) Zw))) (joined (d+1) s hn a1 a2)) Zw)) (against d s hn a3)))
theorem JD (d:Nat) {P:List Row}{r:Row}(s:DS) (hn:n<=6) (hP:Part p n P) (hr:Zz p n r):CV (d+4) 30 [spV p n,Zg P,Zk r] s=.ok (.bl (YD p P r)) s:=by
 refine ZG (fn:=V4) rfl (by decide) rfl ?_
 show rvs (CV (d+3)) [] (.ret (.cmp .is (.call 8 [(.call 19 [(.v 0),(.v 1),(.v 2)])]) (.c .non))::[]) [some (spV p n),some (Zg P),some (Zk r)] [] s=_;have e1:pv (CV (d+3)) (.call 8 [(.call 19 [(.v 0),(.v 1),(.v 2)])]) [some (spV p n),some (Zg P),some (Zk r)] s=.ok (UN (hdI (ZB p P r))) s:=
  ZD (Zh (ZD (Zh (Zo rfl) (Zh (Zo rfl) (Zh (Zo rfl) Zw))) (QV d s hn hP hr)) Zw) (WV (d+2) _ s)
 refine ZN (Z6 ?_);rw[pv,e1,Zc];unfold YD;cases hdI (ZB p P r) <;> simp[rvs,rv,pvA,pvE,pvs,pvo,pvt,pvw,Zy,Zc,Zi,Zp,pvF,hide,Zj,Option.join,lim,UN]
theorem holds (d:Nat) {P:List Row}{r:Row}(s:DS) (hn:n<=6) (hP:Part p n P) (hr:Zz p n r):CV (d+5) 31 [spV p n,Zg P,Zk r] s=.ok (.bl (YD p P r)) s:=by
 refine ZG (fn:=Jk) rfl (by decide) rfl ?_
 show rvs (CV (d+4)) [] (.ex (.call 15 [(.v 0),(.v 1)]) :: .ex (.call 25 [(.v 0),(.v 2)]) :: .ret (.call 30 [(.v 0),(.v 1),(.v 2)])::[]) [some (spV p n),some (Zg P),some (Zk r)] [] s=_;rw[Zu (Vw (ZD (Zh (Zo rfl) (Zh (Zo rfl) Zw)) (X3 d s hn hP)))];rw[Zu (Vw (ZD (Zh (Zo rfl) (Zh (Zo rfl) Zw)) (GE (d+1) s hn hr)))];exact ZN (Z6 (ZD (Zh (Zo rfl) (Zh (Zo rfl) (Zh (Zo rfl) Zw))) (JD d s hn hP hr)))
theorem yE (d:Nat) {P Q:List Row}(s:DS) (hn:n<=6) (hP:Part p n P) (hQ:Part p n Q):CV (d+5) 34 [spV p n,Zg P,Zg Q] s=.ok (.bl (P.all (YD p Q))) s:=by
 refine ZG (fn:=WL) rfl (by decide) rfl ?_
 show rvs (CV (d+4)) [] (.ret (.blt .all [(.comp1 [0,2] 1 [0] (.of (.v 1)) [] (.call 30 [(.v 1),(.v 2),(.v 0)]))])::[]) [some (spV p n),some (Zg P),some (Zg Q)] [] s=_;have hd:=dsum hP;have hc:=Z7 (C:=CV (d+4)) (cap:=[0,2]) (nl:=1) (t:=[0]) (it:=.of (.v 1)) (elt:=.call 30 [(.v 1),(.v 2),(.v 0)]) (ρ:=[some (spV p n),some (Zg P),some (Zg Q)]) (s:=s) (l:=P) (e:=Zk) (g:=λr=>V.bl (YD p Q r))
  (by simp[rvs,rv,pvA,pvE,pvs,pvo,pvt,pvw,Zy,Zc,Zi,Zp,pvF,hide,Zj,Option.join,lim,Zg]) (by unfold lim;omega) (λx hx=>⟨_,rfl,ZD (Zh (Zo rfl) (Zh (Zo rfl) (Zh (Zo rfl) Zw))) (JD d s hn hQ (hP.row x hx))⟩)
 have ht:=Xc (g:=YD p Q) P;refine ZN (Z6 ?_);rw[pv,Zh hc Zw,Zc];simp[rvs,rv,pvA,pvE,pvs,pvo,pvt,pvw,Zy,Zc,Zi,Zp,pvF,hide,Zj,Option.join,lim,ht,List.all_map,Function.comp]
theorem Jo (d:Nat) {P Q:List Row}(s:DS) (hn:n<=6) (hP:Part p n P) (hQ:Part p n Q):CV (d+6) 35 [spV p n,Zg P,Zg Q] s=.ok (.bl (P.all (YD p Q))) s:=by
 refine ZG (fn:=VO) rfl (by decide) rfl ?_
 show rvs (CV (d+5)) [] (.ex (.call 16 [(.v 0),(.v 1),(.v 2)]) :: .ret (.call 34 [(.v 0),(.v 1),(.v 2)])::[]) [some (spV p n),some (Zg P),some (Zg Q)] [] s=_;rw[Zu (Vw (ZD (Zh (Zo rfl) (Zh (Zo rfl) (Zh (Zo rfl) Zw))) (Wl d s hn hP hQ)))];exact ZN (Z6 (ZD (Zh (Zo rfl) (Zh (Zo rfl) (Zh (Zo rfl) Zw))) (yE d s hn hP hQ)))
theorem JV (rs:List Row) (o:Row):(Wq p rs o).length=rs.length*p:=by
 unfold Wq;rw[List.length_flatMap];simp only[List.length_map,List.length_range];rw[List.map_const',List.sum_replicate_nat]
theorem Jq (d:Nat) {P:List Row}(s:DS) (hn:n<=6) (hP:Part p n P):CV (d+5) 32 [spV p n,Zg P] s=.ok (.lst ((YZ p n P).map Zk)) s:=by
 refine ZG (fn:=VJ) rfl (by decide) rfl ?_
 show rvs (CV (d+4)) [] (.ex (.call 15 [(.v 0),(.v 1)]) :: .asg [2,3] (.v 0) :: .asg [4] (.lst [(.bin .mul (.tup [(.c (.int 0))]) (.v 3))]) :: .forr [5] (.of (.v 1)) [.asg [4] (.comp2 [2,5] 2 [0] (.of (.v 4)) [] [1] (.rng1 (.v 2)) [] (.call 17 [(.v 2),(.v 0),(.v 3),(.v 1)]))] :: .ret (.v 4)::[]) [some (spV p n),some (Zg P),none,none,none,none] [] s=_;have hd:=dsum hP;have hp:=Uq (p:=p);rw[Zu (Vw (ZD (Zh (Zo rfl) (Zh (Zo rfl) Zw)) (X3 d s hn hP)))];rw[Zu (Xz (p:=p) (n:=n) _ _ (by simp[rvs,rv,pvA,pvE,pvs,pvo,pvt,pvw,Zy,Zc,Zi,Zp,pvF,hide,Zj,Option.join,lim]) (by simp))]
 have er:(List.replicate n [V.int 0]).flatten=(List.replicate n (0:Int)).map V.int:=by
  rw[List.map_replicate];clear hd hP hn
  induction n with
  |zero=>rfl
  |succ k ih=>rw[List.replicate_succ,List.flatten_cons,ih];rfl
 rw[Zu (ρ':=[some (spV p n),some (Zg P),some (.int p),some (.int n),some (.lst ([List.replicate n (0:Int)].map Zk)),none]) (os':=[]) (s':=s) (by
  have h1:(n:Int)<1000:=by omega
  rw[List.map_replicate] at er;simp[rvs,rv,pvA,pvE,pvs,pvo,pvt,pvw,Zy,Zc,Zi,Zp,pvF,hide,Zj,Option.join,lim,h1,er,Zk])]
 have hz:Zz p n (List.replicate n (0:Int)):=⟨by simp,λa ha=>by rw[(List.mem_replicate.mp ha).2];exact⟨by omega,ppos⟩⟩
 obtain⟨o',hI,e⟩:=uy (C:=CV (d+4)) (ms:=[]) (t:=[5]) (it:=.of (.v 1)) (b:=[.asg [4] (.comp2 [2,5] 2 [0] (.of (.v 4)) [] [1] (.rng1 (.v 2)) [] (.call 17 [(.v 2),(.v 0),(.v 3),(.v 1)]))]) (L:=P) (e:=Zk) (step:=Wq p) (ρ:=λst o=>[some (spV p n),some (Zg P),some (.int p),some (.int n),some (.lst (st.map Zk)),o]) (st:=[List.replicate n (0:Int)]) (o:=none) (os:=[]) (s:=s) (λl st=>(∀r∈l,Zz p n r)/\(∀r∈st,Zz p n r)/\st.length*5^l.length<=15625) (by simp[rvs,rv,pvA,pvE,pvs,pvo,pvt,pvw,Zy,Zc,Zi,Zp,pvF,hide,Zj,Option.join,lim,Zg]) ⟨hP.row,λr hr=>by rw[List.mem_singleton.mp hr];exact hz,by
   have h1:P.length<=6:=by omega
   have:5^P.length<=5^6:=Nat.pow_le_pow_right (by omega) h1
   simp only[List.length_singleton];omega⟩ rfl (λx l st o hst=>by
  obtain⟨h1,h2,h3⟩:=hst;have hx:=h1 x (List.mem_cons_self ..);have hsl:(Wq p st x).length=st.length*p:=JV st x;have hb:st.length*p*5^l.length<=15625:=by
   have:st.length*p<=st.length*5:=Nat.mul_le_mul_left _ (by omega)
   have h4:st.length*p*5^l.length<=st.length*5*5^l.length:=Nat.mul_le_mul_right _ this;rw[List.length_cons,Nat.pow_succ] at h3;have h5:st.length*5*5^l.length=st.length*(5^l.length*5):=by rw[Nat.mul_assoc,Nat.mul_comm 5]
   omega
  have hlim:st.length*p<=15625:=Nat.le_trans (Nat.le_mul_of_pos_right _ (Nat.pow_pos (by omega))) hb
  refine⟨⟨λr hr=>h1 r (List.mem_cons_of_mem _ hr),λr hr=>?_,by rw[hsl];exact hb⟩,rfl,_,some (Zk x),rfl,?_⟩
  ·unfold Wq at hr
   obtain⟨q,hq,hr⟩:=List.mem_flatMap.mp hr;obtain⟨k,_,rfl⟩:=List.mem_map.mp hr;exact ZW (h2 q hq) hx
  ·show rvs (CV (d+4)) [] _ [some (spV p n),some (Zg P),some (.int p),some (.int n),some (.lst (st.map Zk)),some (Zk x)] [] s=_
   have hc:=wb (C:=CV (d+4)) (cap:=[2,5]) (nl:=2) (t:=[0]) (u:=[1]) (it:=.of (.v 4)) (jt:=.rng1 (.v 2)) (elt:=.call 17 [(.v 2),(.v 0),(.v 3),(.v 1)]) (ρ:=[some (spV p n),some (Zg P),some (.int p),some (.int n),some (.lst (st.map Zk)),some (Zk x)]) (s:=s) (l:=st) (e:=Zk) (m:=λ_=>List.range p) (e2:=ZK) (g:=λr k=>Zk (Y0 p r x (k:Int)))
    (by simp[rvs,rv,pvA,pvE,pvs,pvo,pvt,pvw,Zy,Zc,Zi,Zp,pvF,hide,Zj,Option.join,lim]) (by rw[List.length_flatMap];simp only[List.length_map,List.length_range];rw[List.map_const',List.sum_replicate_nat];unfold lim;omega) (λr hr=>⟨_,rfl,by
     exact X9 (n:=p) (Zo rfl) (by omega),λk hk=>⟨_,rfl,by
     have hk':=List.mem_range.mp hk;have:=Qn (p:=p) (d+3) (k:=(k:Int)) s hn (h2 r hr) hx ⟨by omega,by omega⟩
     exact ZD (Zh (Zo rfl) (Zh (Zo rfl) (Zh (Zo rfl) (Zh (Zo rfl) Zw)))) this⟩⟩)
   have ef:(st.flatMap λr=>(List.range p).map λ(k:Nat)=>Zk (Y0 p r x (k:Int)))=(Wq p st x).map Zk:=by
    unfold Wq;rw[List.map_flatMap];exact congrArg (λf=>st.flatMap f) (funext λr=>by rw[List.map_map];rfl)
   rw[ef] at hc;rw[Zu (YW hc rfl),rvs];rfl)
 rw[Zu e];exact ZN (Z6 (Zo rfl))
noncomputable def zn:Option Row->V
 |none=>.non
 |some r=>Zk r
theorem Ji (d:Nat) {P Q:List Row}(s:DS) (hn:n<=6) (hP:Part p n P) (hQ:Part p n Q):CV (d+6) 36 [spV p n,Zg P,Zg Q] s=.ok (zn (beyond p n P Q)) s:=by
 refine ZG (fn:=XB) rfl (by decide) rfl ?_
 show rvs (CV (d+5)) [] (.ex (.call 16 [(.v 0),(.v 1),(.v 2)]) :: .forr [3] (.of (.call 32 [(.v 0),(.v 1)])) [.ite (.not (.call 30 [(.v 0),(.v 2),(.v 3)])) [.ret (.v 3)] []] :: .ret (.c .non)::[]) [some (spV p n),some (Zg P),some (Zg Q),none] [] s=_;rw[Zu (Vw (ZD (Zh (Zo rfl) (Zh (Zo rfl) (Zh (Zo rfl) Zw))) (Wl d s hn hP hQ)))];have hr:∀r∈YZ p n P,Zz p n r:=λr hr=>(((Wk hP).1 r).mp hr).1
 have ew:pvw (CV (d+5)) (.of (.call 32 [(.v 0),(.v 1)])) (hide [] [some (spV p n),some (Zg P),some (Zg Q),none]) s=.ok ((YZ p n P).map Zk) s:=by
  show pvw (CV (d+5)) (.of (.call 32 [(.v 0),(.v 1)])) [some (spV p n),some (Zg P),some (Zg Q),none] s=_;rw[pvw,ZD (Zh (Zo rfl) (Zh (Zo rfl) Zw)) (Jq d s hn hP)];rfl
 have loop:∀(L:List Row) (o:Option V),(∀r∈L,Zz p n r)->∃o',Vc (λx ρ os s=>if (([3]:List Nat).any os.contains)=true then .no else if (os.isEmpty||x.flat)=true then (po (ZI [3] x ρ) s).bind λρ s=>rvs (CV (d+5)) [] [.ite (.not (.call 30 [(.v 0),(.v 2),(.v 3)])) [.ret (.v 3)] []] ρ os s else .no) (L.map Zk) [some (spV p n),some (Zg P),some (Zg Q),o] [] s=match L.find? λr=>!YD p Q r with
   |some r=>.ok (.ret (Zk r)) s
   |none=>.ok (.nx [some (spV p n),some (Zg P),some (Zg Q),o'] []) s:=by
  intro L
  induction L with
  |nil=>intro o _;exact⟨o,rfl⟩
  |cons r L ih=>
   intro o hL;obtain⟨o',e'⟩:=ih (some (Zk r)) λx hx=>hL x (List.mem_cons_of_mem _ hx)
   refine⟨o',?_⟩;have e1:Zy (CV (d+5)) (.not (.call 30 [(.v 0),(.v 2),(.v 3)])) [some (spV p n),some (Zg P),some (Zg Q),some (Zk r)] s=.ok (!YD p Q r) s:=by
    refine VI (v:=.bl (!YD p Q r)) ?_ rfl;rw[pv,ZD (Zh (Zo rfl) (Zh (Zo rfl) (Zh (Zo rfl) Zw))) (JD (d+1) s hn hQ (hL r (List.mem_cons_self ..)))];rfl
   have e2:rvs (CV (d+5)) [] [.ite (.not (.call 30 [(.v 0),(.v 2),(.v 3)])) [.ret (.v 3)] []] [some (spV p n),some (Zg P),some (Zg Q),some (Zk r)] [] s=if (!YD p Q r)=true then .ok (.ret (Zk r)) s else .ok (.nx [some (spV p n),some (Zg P),some (Zg Q),some (Zk r)] []) s:=by
    cases c:(!YD p Q r) with
    |true=>
     rw[c] at e1;exact ZN ((Qe e1).trans (by rw[if_pos rfl];exact ZN (Z6 (Zo rfl))))
    |false=>
     rw[c] at e1;rw[Zu ((Qe e1).trans (by rw[if_neg (by simp),rvs])),rvs];rfl
   rw[List.map_cons,Vc,List.find?_cons];show PR.bind (rvs (CV (d+5)) [] _ [some (spV p n),some (Zg P),some (Zg Q),some (Zk r)] [] s) _=_;rw[e2];cases c:(!YD p Q r) with
   |true=>rfl
   |false=>exact e'
 obtain⟨o',e⟩:=loop (YZ p n P) none hr;have e3:rv (CV (d+5)) [] (.forr [3] (.of (.call 32 [(.v 0),(.v 1)])) [.ite (.not (.call 30 [(.v 0),(.v 2),(.v 3)])) [.ret (.v 3)] []]) [some (spV p n),some (Zg P),some (Zg Q),none] [] s=match beyond p n P Q with
   |some r=>.ok (.ret (Zk r)) s
   |none=>.ok (.nx [some (spV p n),some (Zg P),some (Zg Q),o'] []) s:=by
  rw[rv,ew,Zc];exact e
 cases q:beyond p n P Q with
 |some r=>rw[q] at e3;exact ZN e3
 |none=>
  rw[q] at e3;rw[Zu e3];exact ZN (Z6 (by simp[rvs,rv,pvA,pvE,pvs,pvo,pvt,pvw,Zy,Zc,Zi,Zp,pvF,hide,Zj,Option.join,lim,zn]))
end
end K23
namespace K23
open Ev Pv Rw La
section
variable {p n:Nat}[Base p]
theorem ix0 {C:Z5}{i:Nat}{ρ:Env}{s:DS}(h:ρ[i]? = some (some (spV p n))):pv C (.ix (.v i) (.c (.int 0))) ρ s=.ok (.int p) s:=by
 rw[pv,Zo h,Zc,pv];rfl
theorem ix1 {C:Z5}{i:Nat}{ρ:Env}{s:DS}(h:ρ[i]? = some (some (spV p n))):pv C (.ix (.v i) (.c (.int 1))) ρ s=.ok (.int n) s:=by
 rw[pv,Zo h,Zc,pv];rfl
theorem Ux {C:Z5}{e:E}{x:V}{xs:List V}{ρ:Env}{s:DS}(h:pv C e ρ s=.ok (.lst (x::xs)) s):pv C (.ix e (.c (.int 0))) ρ s=.ok x s:=by
 rw[pv,h,Zc,pv];show po (at' (x::xs) 0) s=_;simp[at',ixN,po]
theorem law_plus (d:Nat) {r o:Row}{k:Int}(s:DS) (hn:n<=6) (hr:Zz p n r) (ho:Zz p n o) (hk:-1000<k/\k<1000):CV (d+1) 4 [spV p n,Zk r,Zk o,.int k] s=.ok (Zk (Y0 p r o k)) s:=by
 refine ZG (fn:=f__law_plus) rfl (by decide) rfl ?_
 show rvs (CV d) [] (.ret (.blt .tuple [(.comp1 [3,0] 2 [0,1] (.zip (.v 1) (.v 2)) [] (.bin .mod (.bin .add (.v 0) (.bin .mul (.v 2) (.v 1))) (.ix (.v 3) (.c (.int 0)))))])::[]) [some (spV p n),some (Zk r),some (Zk o),some (.int k)] [] s=_;have hp:=Uq (p:=p);have hc:=Z7 (C:=CV d) (cap:=[3,0]) (nl:=2) (t:=[0,1]) (it:=.zip (.v 1) (.v 2)) (elt:=.bin .mod (.bin .add (.v 0) (.bin .mul (.v 2) (.v 1))) (.ix (.v 3) (.c (.int 0)))) (ρ:=[some (spV p n),some (Zk r),some (Zk o),some (.int k)]) (s:=s) (l:=r.zip o) (e:=λq=>V.tup [.int q.1,.int q.2]) (g:=λq=>V.int ((q.1+k*q.2)%p))
  (by simp[rvs,rv,pvA,pvE,pvs,pvo,pvt,pvw,Zy,Zc,Zi,Zp,pvF,hide,Zj,Option.join,lim,Zk,U0]) (by rw[List.length_zip,hr.1,ho.1];unfold lim;omega) (λq hq=>by
   have h2:=ho.2 q.2 (List.of_mem_zip hq).2;refine⟨_,rfl,?_⟩;have f1:=Yd (a:=k) (by omega) (by omega)
   have f2:=Yd (a:=q.2) (by omega) (by omega)
   have hp0:0<p:=by omega
   have e0:=ix0 (p:=p) (n:=n) (C:=CV d) (i:=3) (ρ:=[some (.int q.1),some (.int q.2),some (.int k),some (spV p n)]) (s:=s) rfl;show pv (CV d) _ [some (.int q.1),some (.int q.2),some (.int k),some (spV p n)] s=_;have g:pv (CV d) (.bin .add (.v 0) (.bin .mul (.v 2) (.v 1))) [some (.int q.1),some (.int q.2),some (.int k),some (spV p n)] s=.ok (.int (q.1+k*q.2)) s:=by simp[rvs,rv,pvA,pvE,pvs,pvo,pvt,pvw,Zy,Zc,Zi,Zp,pvF,hide,Zj,Option.join,lim,f1,f2]
   rw[pv,g,Zc,e0,Zc];simp[pvF,hp0])
 have e:(r.zip o).map (λq=>V.int ((q.1+k*q.2)%p))=(Y0 p r o k).map V.int:=by
  unfold Y0;rw[<-List.map_uncurry_zip_eq_zipWith,List.map_map];rfl
 refine ZN (Z6 ?_);rw[pv,Zh hc Zw,e];rfl
theorem law_row_of (d:Nat) (s:DS) (hn:n<=6):∃r s',CV (d+2) 6 [.drw,spV p n] s=.ok (Zk r) s'/\Zz p n r:=by
 have hp:=Uq (p:=p);obtain⟨ys,s',e1,e2,e3⟩:=VT (C:=CV (d+1)) (cap:=[0,1]) (nl:=1) (t:=[0]) (it:=.rng1 (.ix (.v 1) (.c (.int 1)))) (elt:=.call 2 [(.v 1),(.ix (.v 2) (.c (.int 0)))]) (ρ:=[some .drw,some (spV p n)]) (s:=s) (k:=n) (Q:=λy=>∃a:Int,y=.int a/\0<=a/\a<p)
  (by rw[Uy];exact X9 (ix1 rfl) (by omega)) (by unfold lim;omega) (λx s=>by
   obtain⟨v,s',f1,f2,f3⟩:=vF (F:=fns) (tk:=2) (d:=d) (m:=p) s (by omega) (by omega)
   refine⟨[some x,some .drw,some (spV p n)],.int v,s',rfl,ZD (Zh (Zo rfl) (Zh (ix0 (p:=p) (n:=n) rfl) Zw)) f1,v,rfl,f2,f3⟩)
 have:∃r:Row,ys=r.map V.int/\∀a∈r,0<=a/\a<(p:Int):=by
  clear e1 e2
  induction ys with
  |nil=>exact⟨[],rfl,λ_ h=>by cases h⟩
  |cons y ys ih=>
   obtain⟨r,h1,h2⟩:=ih λz hz=>e3 z (List.mem_cons_of_mem _ hz)
   obtain⟨a,rfl,h3⟩:=e3 y (List.mem_cons_self ..);refine⟨a::r,by rw[h1];rfl,λx hx=>?_⟩
   rcases List.mem_cons.mp hx with rfl | hx
   ·exact h3
   ·exact h2 x hx
 obtain⟨r,rfl,h2⟩:=this;refine⟨r,s',ZG (fn:=f__law_row_of) rfl (by decide) rfl ?_,by simpa using e2,h2⟩
 show rvs (CV (d+1)) [] (.ret (.blt .tuple [(.comp1 [0,1] 1 [0] (.rng1 (.ix (.v 1) (.c (.int 1)))) [] (.call 2 [(.v 1),(.ix (.v 2) (.c (.int 0)))]))])::[]) [some .drw,some (spV p n)] [] s=_;refine ZN (Z6 ?_);rw[pv,Zh e1 Zw];rfl
noncomputable def um:List Sm:=[.asg [5] (.comp1 [4] 1 [0] (.of (.v 2)) [(.cmp .ne (.ix (.v 0) (.v 1)) (.c (.int 0)))] (.v 0)),
  .ite (.cmp .ne (.v 5) (.lst [])) [.asg [6] (.ix (.comp1 [5,4,0] 1 [0] (.rng1 (.ix (.v 0) (.c (.int 0)))) [(.cmp .eq (.bin .mod (.bin .mul (.v 0) (.ix (.ix (.v 1) (.c (.int 0))) (.v 2))) (.ix (.v 3) (.c (.int 0)))) (.c (.int 1)))] (.v 0)) (.c (.int 0))),
  .asg [7] (.blt .tuple [(.comp1 [6,0] 1 [0] (.of (.ix (.v 5) (.c (.int 0)))) [] (.bin .mod (.bin .mul (.v 1) (.v 0)) (.ix (.v 2) (.c (.int 0)))))]),
  .asg [2] (.comp1 [0,7,4] 1 [0] (.of (.v 2)) [] (.call 4 [(.v 1),(.v 0),(.v 2),(.neg (.ix (.v 0) (.v 3)))])),
  .asg [3] (.bin .add (.comp1 [0,7,4] 1 [0] (.of (.v 3)) [] (.call 4 [(.v 1),(.v 0),(.v 2),(.neg (.ix (.v 0) (.v 3)))])) (.lst [(.v 7)]))] []]
theorem vD (d:Nat) {rest found:List Row}{j:Nat}{v:V}{a5 a6 a7:Option V}(s:DS) (hn:n<=6) (hj:j<n) (hR:Red p n j rest found) (hl:rest.length<=1000) (hl2:found.length<=1000):∃rest' found' b5 b6 b7,rvs (CV (d+1)) [] um [some (spV p n),some v,some (.lst (rest.map Zk)),some (.lst (found.map Zk)),some (ZK j),a5,a6,a7] [] s=.ok (.nx [some (spV p n),some v,some (.lst (rest'.map Zk)),some (.lst (found'.map Zk)),some (ZK j),b5,b6,b7] []) s/\Red p n (j+1) rest' found'/\rest'.length=rest.length/\found'.length<=found.length+1:=by
 have hp:=Uq (p:=p);have hatj:∀r∈rest,at' (r.map V.int) (j:Int)=some (.int (gt r j)):=λr hr=>WE (by rw[(hR.row r hr).1];exact hj)
 have hc1:=Xg (C:=CV (d+1)) (cap:=[4]) (nl:=1) (t:=[0]) (it:=.of (.v 2)) (tst:=.cmp .ne (.ix (.v 0) (.v 1)) (.c (.int 0))) (elt:=.v 0) (ρ:=[some (spV p n),some v,some (.lst (rest.map Zk)),some (.lst (found.map Zk)),some (ZK j),a5,a6,a7]) (s:=s) (l:=rest) (e:=Zk) (g:=Zk) (q:=λr=>decide (gt r j≠0))
  (by simp[rvs,rv,pvA,pvE,pvs,pvo,pvt,pvw,Zy,Zc,Zi,Zp,pvF,hide,Zj,Option.join,lim]) (by unfold lim;omega) (λr hr=>⟨[some (Zk r),some (ZK j)],.bl (decide (gt r j≠0)),rfl,by
   have:=hatj r hr;simp[rvs,rv,pvA,pvE,pvs,pvo,pvt,pvw,Zy,Zc,Zi,Zp,pvF,hide,Zj,Option.join,lim,Zk,ZK,this,ZA],rfl,λ_=>Zo rfl⟩)
 unfold um;rw[Zu (YW hc1 rfl)];show ∃rest' found' b5 b6 b7,rvs (CV (d+1)) [] _ [some (spV p n),some v,some (.lst (rest.map Zk)),some (.lst (found.map Zk)),some (ZK j),some (.lst ((rest.filter λr=>decide (gt r j≠0)).map Zk)),_,_] [] s=_/\_
 cases q:rest.filter λr=>decide (gt r j≠0) with
 |nil=>
  refine⟨rest,found,some (.lst ([].map Zk)),a6,a7,?_,wF hR λr hr=>?_,rfl,by omega⟩
  ·have e1:Zy (CV (d+1)) (.cmp .ne (.v 5) (.lst [])) [some (spV p n),some v,some (.lst (rest.map Zk)),some (.lst (found.map Zk)),some (ZK j),some (.lst ([].map Zk)),a6,a7] s=.ok false s:=by
    refine VI (v:=.bl false) ?_ rfl;rw[pv,Zo (v:=.lst []) rfl];simp[rvs,rv,pvA,pvE,pvs,pvo,pvt,pvw,Zy,Zc,Zi,Zp,pvF,hide,Zj,Option.join,lim,ZA,Vb]
   rw[Zu ((Qe e1).trans (by rw[if_neg (by simp),rvs])),rvs]
  ·have:=List.filter_eq_nil_iff.mp q r hr
   simpa using this
 |cons f fs=>
  have hf:f∈rest/\gt f j≠0:=by
   have:f∈rest.filter λr=>decide (gt r j≠0):=by rw[q];exact List.mem_cons_self ..
   rw[List.mem_filter] at this;exact⟨this.1,by simpa using this.2⟩
  have hfr:=hR.row f hf.1;have hg:=Xi ppos hfr j;obtain⟨io1,io2⟩:=wN (p:=p) (a:=gt f j) (by omega) hg.2
  have hl1:Zz p n (lead p f j):=WT hfr;have hi:0<=YL p (gt f j)/\YL p (gt f j)<1000:=by
   unfold YL
   repeat' split
   all_goals omega
  let ρ0:Env:=[some (spV p n),some v,some (.lst (rest.map Zk)),some (.lst (found.map Zk)),some (ZK j),some (.lst ((f::fs).map Zk)),a6,a7]
  have e1:Zy (CV (d+1)) (.cmp .ne (.v 5) (.lst [])) ρ0 s=.ok true s:=by
   refine VI (v:=.bl true) ?_ rfl;rw[pv,Zo (v:=.lst ((f::fs).map Zk)) rfl];simp[rvs,rv,pvA,pvE,pvs,pvo,pvt,pvw,Zy,Zc,Zi,Zp,pvF,hide,Zj,Option.join,lim,ZA]
  have ef:pv (CV (d+1)) (.ix (.v 5) (.c (.int 0))) ρ0 s=.ok (Zk f) s:=by
   exact Ux (Zo rfl)
  have hatf:=WE (r:=f) (k:=j) (by rw[hfr.1];exact hj)
  have hc2:=Xg (C:=CV (d+1)) (cap:=[5,4,0]) (nl:=1) (t:=[0]) (it:=.rng1 (.ix (.v 0) (.c (.int 0)))) (tst:=.cmp .eq (.bin .mod (.bin .mul (.v 0) (.ix (.ix (.v 1) (.c (.int 0))) (.v 2))) (.ix (.v 3) (.c (.int 0)))) (.c (.int 1))) (elt:=.v 0) (ρ:=ρ0) (s:=s) (l:=List.range p) (e:=ZK) (g:=ZK) (q:=λk=>decide ((k:Int)*gt f j%p=1))
   (X9 (ix0 rfl) (by omega)) (by rw[List.length_range];unfold lim;omega) (λk hk=>⟨[some (ZK k),some (.lst ((f::fs).map Zk)),some (ZK j),some (spV p n)],.bl (decide ((k:Int)*gt f j%p=1)),rfl,by
    have hk':=List.mem_range.mp hk;have f1:=Yd (a:=(k:Int)) (by omega) (by omega)
    have f2:=Yd (a:=gt f j) (by omega) (by omega)
    have g1:pv (CV (d+1)) (.ix (.ix (.v 1) (.c (.int 0))) (.v 2)) [some (ZK k),some (.lst ((f::fs).map Zk)),some (ZK j),some (spV p n)] s=.ok (.int (gt f j)) s:=by
     have g0:pv (CV (d+1)) (.ix (.v 1) (.c (.int 0))) [some (ZK k),some (.lst ((f::fs).map Zk)),some (ZK j),some (spV p n)] s=.ok (Zk f) s:=by
      exact Ux (Zo rfl)
     rw[pv,g0,Zc,Zo (v:=ZK j) rfl,Zc];show po (at' (f.map V.int) (j:Int)) s=_;rw[hatf];rfl
    have g2:=ix0 (p:=p) (n:=n) (C:=CV (d+1)) (i:=3) (ρ:=[some (ZK k),some (.lst ((f::fs).map Zk)),some (ZK j),some (spV p n)]) (s:=s) rfl;have g3:pv (CV (d+1)) (.bin .mul (.v 0) (.ix (.ix (.v 1) (.c (.int 0))) (.v 2))) [some (ZK k),some (.lst ((f::fs).map Zk)),some (ZK j),some (spV p n)] s=.ok (.int ((k:Int)*gt f j)) s:=by
     rw[pv,Zo (v:=ZK k) rfl,Zc,g1,Zc];simp[ZK,Um,f1,f2]
    have hp0:0<p:=by omega
    rw[pv,pv,g3,Zc,g2,Zc];simp[rvs,rv,pvA,pvE,pvs,pvo,pvt,pvw,Zy,Zc,Zi,Zp,pvF,hide,Zj,Option.join,lim,ZA,hp0],rfl,λ_=>Zo rfl⟩)
  rw[io1] at hc2;have e6:pv (CV (d+1)) (.ix (.comp1 [5,4,0] 1 [0] (.rng1 (.ix (.v 0) (.c (.int 0)))) [(.cmp .eq (.bin .mod (.bin .mul (.v 0) (.ix (.ix (.v 1) (.c (.int 0))) (.v 2))) (.ix (.v 3) (.c (.int 0)))) (.c (.int 1)))] (.v 0)) (.c (.int 0))) ρ0 s=.ok (.int (YL p (gt f j))) s:=by
   have:=Ux hc2;rw[ZK,io2] at this;exact this
  let ρ1:Env:=[some (spV p n),some v,some (.lst (rest.map Zk)),some (.lst (found.map Zk)),some (ZK j),some (.lst ((f::fs).map Zk)),some (.int (YL p (gt f j))),a7]
  have ef1:pv (CV (d+1)) (.ix (.v 5) (.c (.int 0))) ρ1 s=.ok (Zk f) s:=by
   exact Ux (Zo rfl)
  have hc3:=Z7 (C:=CV (d+1)) (cap:=[6,0]) (nl:=1) (t:=[0]) (it:=.of (.ix (.v 5) (.c (.int 0)))) (elt:=.bin .mod (.bin .mul (.v 1) (.v 0)) (.ix (.v 2) (.c (.int 0)))) (ρ:=ρ1) (s:=s) (l:=f) (e:=V.int) (g:=λa=>V.int (YL p (gt f j)*a%p))
   (by rw[pvw,ef1];rfl) (by rw[hfr.1];unfold lim;omega) (λa ha=>⟨[some (.int a),some (.int (YL p (gt f j))),some (spV p n)],rfl,by
    have h2:=hfr.2 a ha;have f1:=Yd (a:=YL p (gt f j)) (by omega) (by omega)
    have f2:=Yd (a:=a) (by omega) (by omega)
    have g2:=ix0 (p:=p) (n:=n) (C:=CV (d+1)) (i:=2) (ρ:=[some (.int a),some (.int (YL p (gt f j))),some (spV p n)]) (s:=s) rfl;have hp0:0<p:=by omega
    have g:pv (CV (d+1)) (.bin .mul (.v 1) (.v 0)) [some (.int a),some (.int (YL p (gt f j))),some (spV p n)] s=.ok (.int (YL p (gt f j)*a)) s:=by simp[rvs,rv,pvA,pvE,pvs,pvo,pvt,pvw,Zy,Zc,Zi,Zp,pvF,hide,Zj,Option.join,lim,f1,f2]
    rw[pv,g,Zc,g2,Zc];simp[pvF,hp0]⟩)
  have el:f.map (λa=>V.int (YL p (gt f j)*a%p))=(lead p f j).map V.int:=by unfold lead Wn;rw[List.map_map];rfl
  rw[el] at hc3;have e7:pv (CV (d+1)) (.blt .tuple [(.comp1 [6,0] 1 [0] (.of (.ix (.v 5) (.c (.int 0)))) [] (.bin .mod (.bin .mul (.v 1) (.v 0)) (.ix (.v 2) (.c (.int 0)))))]) ρ1 s=.ok (Zk (lead p f j)) s:=by
   rw[pv,Zh hc3 Zw];rfl
  let ρ2:Env:=[some (spV p n),some v,some (.lst (rest.map Zk)),some (.lst (found.map Zk)),some (ZK j),some (.lst ((f::fs).map Zk)),some (.int (YL p (gt f j))),some (Zk (lead p f j))]
  have elt:∀r:Row,Zz p n r->pv (CV (d+1)) (.call 4 [(.v 1),(.v 0),(.v 2),(.neg (.ix (.v 0) (.v 3)))]) [some (Zk r),some (spV p n),some (Zk (lead p f j)),some (ZK j)] s=.ok (Zk (clr p r (lead p f j) j)) s:=λr hr=>by
   have hgr:=Xi ppos hr j;have h3:=WE (r:=r) (k:=j) (by rw[hr.1];exact hj)
   have g1:pv (CV (d+1)) (.neg (.ix (.v 0) (.v 3))) [some (Zk r),some (spV p n),some (Zk (lead p f j)),some (ZK j)] s=.ok (.int (-(gt r j))) s:=by
    simp[rvs,rv,pvA,pvE,pvs,pvo,pvt,pvw,Zy,Zc,Zi,Zp,pvF,hide,Zj,Option.join,lim,Zk,ZK,h3]
   exact ZD (Zh (Zo rfl) (Zh (Zo rfl) (Zh (Zo rfl) (Zh g1 Zw)))) (law_plus d s hn hr hl1 ⟨by omega,by omega⟩)
  have hc4:=Z7 (C:=CV (d+1)) (cap:=[0,7,4]) (nl:=1) (t:=[0]) (it:=.of (.v 2)) (elt:=.call 4 [(.v 1),(.v 0),(.v 2),(.neg (.ix (.v 0) (.v 3)))]) (ρ:=ρ2) (s:=s) (l:=rest) (e:=Zk) (g:=λr=>Zk (clr p r (lead p f j) j))
   (by rw[pvw,Zo (v:=.lst (rest.map Zk)) rfl];rfl) (by unfold lim;omega) (λr hr=>⟨_,rfl,elt r (hR.row r hr)⟩)
  let ρ3:Env:=[some (spV p n),some v,some (.lst (rest.map λr=>Zk (clr p r (lead p f j) j))),some (.lst (found.map Zk)),some (ZK j),some (.lst ((f::fs).map Zk)),some (.int (YL p (gt f j))),some (Zk (lead p f j))]
  have hc5:=Z7 (C:=CV (d+1)) (cap:=[0,7,4]) (nl:=1) (t:=[0]) (it:=.of (.v 3)) (elt:=.call 4 [(.v 1),(.v 0),(.v 2),(.neg (.ix (.v 0) (.v 3)))]) (ρ:=ρ3) (s:=s) (l:=found) (e:=Zk) (g:=λr=>Zk (clr p r (lead p f j) j))
   (by rw[pvw,Zo (v:=.lst (found.map Zk)) rfl];rfl) (by unfold lim;omega) (λr hr=>⟨_,rfl,elt r (hR.part.row r hr)⟩)
  have e9:pv (CV (d+1)) (.bin .add (.comp1 [0,7,4] 1 [0] (.of (.v 3)) [] (.call 4 [(.v 1),(.v 0),(.v 2),(.neg (.ix (.v 0) (.v 3)))])) (.lst [(.v 7)])) ρ3 s=.ok (.lst ((found.map λr=>Zk (clr p r (lead p f j) j))++[Zk (lead p f j)])) s:=by
   have hll:pv (CV (d+1)) (.lst [(.v 7)]) ρ3 s=.ok (.lst [Zk (lead p f j)]) s:=by
    rw[pv,Zh (Zo (v:=Zk (lead p f j)) rfl) Zw,Zc,if_pos (by simp[lim])]
   rw[pv,hc5,Zc,hll,Zc];show (if (found.map λr=>Zk (clr p r (lead p f j) j)).length+[Zk (lead p f j)].length<=lim then _ else _)=_
   rw[if_pos (by rw[List.length_map,List.length_singleton];unfold lim;omega)]
  refine⟨rest.map λr=>clr p r (lead p f j) j,found.map (λr=>clr p r (lead p f j) j)++[lead p f j],some (.lst ((f::fs).map Zk)),some (.int (YL p (gt f j))),some (Zk (lead p f j)),?_,vg hR hj hf.1 hf.2,by rw[List.length_map],by simp⟩
  rw[Zu (ρ':=[some (spV p n),some v,some (.lst (rest.map λr=>Zk (clr p r (lead p f j) j))),some (.lst ((found.map λr=>Zk (clr p r (lead p f j) j))++[Zk (lead p f j)])),some (ZK j),some (.lst ((f::fs).map Zk)),some (.int (YL p (gt f j))),some (Zk (lead p f j))]) (os':=[]) (s':=s) ((Qe e1).trans (by
   rw[if_pos rfl,Zu (YW e6 rfl)];show rvs _ _ _ ρ1 [] s=_;rw[Zu (YW e7 rfl)];show rvs _ _ _ ρ2 [] s=_;rw[Zu (YW hc4 rfl)];show rvs _ _ _ ρ3 [] s=_;rw[Zu (YW e9 rfl),rvs];rfl)),rvs]
  rw[List.map_map,List.map_append,List.map_map];rfl
theorem zk {n j:Nat}{x:Nat}{l:List Nat}(h:x::l=(List.range n).drop j):x=j/\j<n/\l=(List.range n).drop (j+1):=by
 have hj:j<n:=by
  by_cases c:j<n
  ·exact c
  ·rw[List.drop_eq_nil_of_le (by rw[List.length_range];omega)] at h;cases h
 rw[List.drop_eq_getElem_cons (by rw[List.length_range];exact hj)] at h
 injection h with h1 h2
 exact⟨by rw[h1,List.getElem_range],hj,h2⟩
theorem law_reduced (d:Nat) {R:List Row}(s:DS) (hn:n<=6) (hR:∀r∈R,Zz p n r) (hl:R.length<=1000):∃P,CV (d+2) 5 [spV p n,.lst (R.map Zk)] s=.ok (Zg P) s/\Part p n P:=by
 let I:List Nat->Env->Prop:=λl ρ=>∃rest found j a4 a5 a6 a7,ρ=[some (spV p n),some (.lst (R.map Zk)),some (.lst (rest.map Zk)),some (.lst (found.map Zk)),a4,a5,a6,a7]/\l=(List.range n).drop j/\Red p n j rest found/\rest.length<=1000/\found.length<=j
 obtain⟨ρ',hI,e⟩:=zH (C:=CV (d+1)) (ms:=[]) (t:=[4]) (it:=.rng1 (.ix (.v 0) (.c (.int 1)))) (b:=um) (L:=List.range n) (e:=ZK) (os:=[]) (s:=s) (ρ:=[some (spV p n),some (.lst (R.map Zk)),some (.lst (R.map Zk)),some (.lst []),none,none,none,none]) I
  (X9 (ix1 rfl) (by omega)) ⟨R,[],0,none,none,none,none,rfl,rfl,⟨hR,λr _ i hi=>by omega,Part.nil,λr hr=>by cases hr⟩,hl,Nat.le_refl _⟩ rfl (λx l ρ hx=>by
   obtain⟨rest,found,j,a4,a5,a6,a7,rfl,hl',hred,h1,h2⟩:=hx;obtain⟨rfl,hj,hl2⟩:=zk hl';obtain⟨rest',found',b5,b6,b7,e1,e2,e3,e4⟩:=vD (p:=p) (n:=n) d (rest:=rest) (found:=found) (j:=x) (v:=.lst (R.map Zk)) (a5:=a5) (a6:=a6) (a7:=a7) s hn hj hred h1 (by omega)
   exact⟨rfl,_,_,rfl,e1,rest',found',x+1,_,_,_,_,rfl,hl2,e2,by omega,by omega⟩)
 obtain⟨rest,found,j,a4,a5,a6,a7,rfl,_,hred,_,_⟩:=hI;refine⟨found,ZG (fn:=f__law_reduced) rfl (by decide) rfl ?_,hred.part⟩
 show rvs (CV (d+1)) [] (.asg [2] (.blt .list [(.v 1)]) :: .asg [3] (.lst []) :: .forr [4] (.rng1 (.ix (.v 0) (.c (.int 1)))) um :: .ret (.blt .tuple [(.v 3)])::[]) [some (spV p n),some (.lst (R.map Zk)),none,none,none,none,none,none] [] s=_;rw[Zu (ρ':=[some (spV p n),some (.lst (R.map Zk)),some (.lst (R.map Zk)),none,none,none,none,none]) (os':=[]) (s':=s) (by simp[rvs,rv,pvA,pvE,pvs,pvo,pvt,pvw,Zy,Zc,Zi,Zp,pvF,hide,Zj,Option.join,lim])]
 rw[Zu (ρ':=[some (spV p n),some (.lst (R.map Zk)),some (.lst (R.map Zk)),some (.lst []),none,none,none,none]) (os':=[]) (s':=s) (by simp[rvs,rv,pvA,pvE,pvs,pvo,pvt,pvw,Zy,Zc,Zi,Zp,pvF,hide,Zj,Option.join,lim])]
 rw[Zu e];exact ZN (Z6 (by simp[rvs,rv,pvA,pvE,pvs,pvo,pvt,pvw,Zy,Zc,Zi,Zp,pvF,hide,Zj,Option.join,lim,Zg]))
theorem law_part (d:Nat) (s:DS) (hn:n<=6):∃P s',CV (d+3) 7 [.drw,spV p n] s=.ok (Zg P) s'/\Part p n P:=by
 obtain⟨v,s1,f1,f2,f3⟩:=vF (F:=fns) (tk:=2) (d:=d+1) (m:=(n:Int)+1) s (by omega) (by omega)
 obtain⟨k,rfl⟩:∃k:Nat,v=k:=⟨v.toNat,by omega⟩
 obtain⟨ys,s2,e1,e2,e3⟩:=VT (C:=CV (d+2)) (cap:=[0,1]) (nl:=1) (t:=[0]) (it:=.rng1 (.v 2)) (elt:=.call 6 [(.v 1),(.v 2)]) (ρ:=[some .drw,some (spV p n),some (.int k)]) (s:=s1) (k:=k) (Q:=λy=>∃r:Row,y=Zk r/\Zz p n r)
  (by rw[Uy];exact X9 (Zo rfl) (by omega)) (by unfold lim;omega) (λx s=>by
   obtain⟨r,s',g1,g2⟩:=law_row_of (p:=p) (n:=n) d s hn;exact⟨[some x,some .drw,some (spV p n)],Zk r,s',rfl,ZD (Zh (Zo rfl) (Zh (Zo rfl) Zw)) g1,r,rfl,g2⟩)
 have:∃R:List Row,ys=R.map Zk/\∀r∈R,Zz p n r:=by
  clear e1 e2
  induction ys with
  |nil=>exact⟨[],rfl,λ_ h=>by cases h⟩
  |cons y ys ih=>
   obtain⟨r,h1,h2⟩:=ih λz hz=>e3 z (List.mem_cons_of_mem _ hz)
   obtain⟨a,rfl,h3⟩:=e3 y (List.mem_cons_self ..);refine⟨a::r,by rw[h1];rfl,λx hx=>?_⟩
   rcases List.mem_cons.mp hx with rfl | hx
   ·exact h3
   ·exact h2 x hx
 obtain⟨R,rfl,hR⟩:=this;rw[List.length_map] at e2;obtain⟨P,e4,hP⟩:=law_reduced (p:=p) (n:=n) d s2 hn hR (by omega)
 refine⟨P,s2,ZG (fn:=f__law_part) rfl (by decide) rfl ?_,hP⟩
 show rvs (CV (d+2)) [] (.asg [2] (.call 2 [(.v 0),(.bin .add (.ix (.v 1) (.c (.int 1))) (.c (.int 1)))]) :: .ret (.call 5 [(.v 1),(.comp1 [0,1] 1 [0] (.rng1 (.v 2)) [] (.call 6 [(.v 1),(.v 2)]))])::[]) [some .drw,some (spV p n),none] [] s=_;have g1:pv (CV (d+2)) (.bin .add (.ix (.v 1) (.c (.int 1))) (.c (.int 1))) [some .drw,some (spV p n),none] s=.ok (.int ((n:Int)+1)) s:=by
  rw[pv,ix1 (p:=p) (n:=n) rfl];simp[rvs,rv,pvA,pvE,pvs,pvo,pvt,pvw,Zy,Zc,Zi,Zp,pvF,hide,Zj,Option.join,lim]
 rw[Zu (YW (ZD (Zh (Zo rfl) (Zh g1 Zw)) f1) rfl)];exact ZN (Z6 (ZD (Zh (Zo rfl) (Zh e1 Zw)) e4))
end
end K23
namespace K23
open Ev Pv Rw La
section
variable {C:Z5}{ρ:Env}{s:DS}{a b:E}
theorem UH {c:Bool}(h1:pv C a ρ s=.ok (.bl false) s) (h2:pv C b ρ s=.ok (.bl c) s):pv C (.or a b) ρ s=.ok (.bl c) s:=by rw[pv,h1];exact h2
theorem zi {c c':Bool}(h1:pv C a ρ s=.ok (.bl c) s) (h2:pv C b ρ s=.ok (.bl c') s):pv C (.and a b) ρ s=.ok (.bl (c&&c')) s:=by
 rw[pv,h1];cases c
 ·rfl
 ·exact h2
theorem VX {c:Bool}(h1:pv C a ρ s=.ok (.bl c) s):pv C (.not a) ρ s=.ok (.bl !c) s:=by rw[pv,h1];rfl
theorem uf {P Q:List Row}(h1:pv C a ρ s=.ok (Zg P) s) (h2:pv C b ρ s=.ok (Zg Q) s):pv C (.cmp .ne a b) ρ s=.ok (.bl !decide (P=Q)) s:=by
 rw[pv,h1,Zc,h2,Zc];show po ((eqV ZA (Zg P) (Zg Q)).map λb=>V.bl !b) s=_
 rw[ZA,Ga];rfl
theorem yc {P Q:List Row}(h1:pv C a ρ s=.ok (Zg P) s) (h2:pv C b ρ s=.ok (Zg Q) s):pv C (.cmp .eq a b) ρ s=.ok (.bl (decide (P=Q))) s:=by
 rw[pv,h1,Zc,h2,Zc];show po ((eqV ZA (Zg P) (Zg Q)).map V.bl) s=_;rw[ZA,Ga];rfl
theorem XN {P Q:List Row}(h1:pv C a ρ s=.ok (Zg P) s) (h2:pv C b ρ s=.ok (Zg Q) s) (h:P=Q):pv C (.cmp .ne a b) ρ s=.ok (.bl false) s:=by
 rw[uf h1 h2,decide_eq_true h];rfl
theorem vc {c c':Bool}(h1:pv C a ρ s=.ok (.bl c) s) (h2:pv C b ρ s=.ok (.bl c') s) (h:c=c'):pv C (.cmp .ne a b) ρ s=.ok (.bl false) s:=by
 subst h;rw[pv,h1,Zc,h2,Zc];cases c <;> rfl
theorem Gf (h1:pv C a ρ s=.ok (.bl true) s):pv C (.cmp .isn a (.c (.bl true))) ρ s=.ok (.bl false) s:=by
 rw[pv,h1,Zc,pv];rfl
theorem call1 {f:Nat}{x y:E}{v w r:V}(h1:pv C x ρ s=.ok v s) (h2:pv C y ρ s=.ok w s) (h:C f [v,w] s=.ok r s):pv C (.call f [x,y]) ρ s=.ok r s:=ZD (Zh h1 (Zh h2 Zw)) h
theorem call3 {f:Nat}{x y z:E}{v w u r:V}(h1:pv C x ρ s=.ok v s) (h2:pv C y ρ s=.ok w s) (h3:pv C z ρ s=.ok u s) (h:C f [v,w,u] s=.ok r s):pv C (.call f [x,y,z]) ρ s=.ok r s:=ZD (Zh h1 (Zh h2 (Zh h3 Zw))) h
theorem guard {ms:List Nat}{t:E}{x l:List Sm}(h:pv C t ρ s=.ok (.bl false) s):rvs C ms (.ite t x []::l) ρ [] s=rvs C ms l ρ [] s:=by
 rw[Zu ((Qe (VI h rfl)).trans (by rw[if_neg (by simp),rvs]))]
theorem Vu {P:List Row}(h1:pv C a ρ s=.ok (Zg P) s):pv C (.blt .len [a]) ρ s=.ok (.int P.length) s:=by
 rw[pv,Zh h1 Zw,Zc];show po (some (V.int (P.map Zk).length)) s=_;rw[List.length_map];rfl
theorem GF {x y:Int}(h1:pv C a ρ s=.ok (.int x) s) (h2:pv C b ρ s=.ok (.int y) s):pv C (.bin .add a b) ρ s=.ok (.int (x+y)) s:=by
 rw[pv,h1,Zc,h2,Zc];rfl
theorem ne_int {x y:Int}(h1:pv C a ρ s=.ok (.int x) s) (h2:pv C b ρ s=.ok (.int y) s) (h:x=y):pv C (.cmp .ne a b) ρ s=.ok (.bl false) s:=by
 rw[pv,h1,Zc,h2,Zc];show PR.ok (V.bl !decide (x=y)) s=_;rw[decide_eq_true h];rfl
theorem Q5 {P:List Row}(h1:pv C a ρ s=.ok (Zg P) s):pv C (.blt .list [a]) ρ s=.ok (.lst (P.map Zk)) s:=by
 rw[pv,Zh h1 Zw];rfl
theorem xk {x y:List V}(h1:pv C a ρ s=.ok (.lst x) s) (h2:pv C b ρ s=.ok (.lst y) s) (h:x.length+y.length<=lim):pv C (.bin .add a b) ρ s=.ok (.lst (x++y)) s:=by
 rw[pv,h1,Zc,h2,Zc];show (if x.length+y.length<=lim then _ else _)=_
 rw[if_pos h]
end
section
variable {p n:Nat}[Base p]
noncomputable def uF:List Sm:=[.ite (.or (.not (.call 35 [(.v 0),(.v 5),(.v 3)])) (.not (.call 35 [(.v 0),(.v 4),(.v 5)]))) [.ret (.c (.bl false))] [],
  .ite (.or (.cmp .ne (.call 24 [(.v 0),(.v 5),(.v 4)]) (.v 5)) (.cmp .ne (.call 29 [(.v 0),(.v 5),(.v 3)]) (.v 5))) [.ret (.c (.bl false))] []]
theorem Gs (d:Nat) {P Q U D X:List Row}(s:DS) (hn:n<=6) (hU:Part p n U) (hD:Part p n D) (hX:Part p n X) (h1:∀u,Mm p X u->Mm p U u) (h2:∀u,Mm p D u->Mm p X u):rvs (CV (d+8)) [] uF [some (spV p n),some (Zg P),some (Zg Q),some (Zg U),some (Zg D),some (Zg X),none,none] [] s=.ok (.nx [some (spV p n),some (Zg P),some (Zg Q),some (Zg U),some (Zg D),some (Zg X),none,none] []) s:=by
 unfold uF;have l1:=Jo (d+2) s hn hX hU;have l2:=Jo (d+2) s hn hD hX;rw[(X4 hX hU).mpr h1] at l1;rw[(X4 hD hX).mpr h2] at l2;have j1:=joined (d+2) s hn hX hD;rw[wA hX hD h2] at j1;have m1:=met d s hn hX hU;rw[GH hX hU h1] at m1;rw[guard (UH (VX (call3 (Zo rfl) (Zo rfl) (Zo rfl) l1)) (VX (call3 (Zo rfl) (Zo rfl) (Zo rfl) l2)))];rw[guard (UH (XN (call3 (Zo rfl) (Zo rfl) (Zo rfl) j1) (Zo rfl) rfl) (XN (call3 (Zo rfl) (Zo rfl) (Zo rfl) m1) (Zo rfl) rfl)),rvs]
theorem QB (d:Nat) {P Q:List Row}(s:DS) (hn:n<=6) (hP:Part p n P) (hQ:Part p n Q):CV (d+9) 37 [spV p n,Zg P,Zg Q] s=.ok (.bl true) s:=by
 refine ZG (fn:=f__law_two_right) rfl (by decide) rfl ?_
 let U:=Yn p P Q
 let D:=YS p n P Q
 have hU:Part p n U:=pJ hP hQ;have hD:Part p n D:=pM hP hQ;show rvs (CV (d+8)) [] (.par [3,4] [(.call 24 [(.v 0),(.v 1),(.v 2)]),(.call 29 [(.v 0),(.v 1),(.v 2)])] ::
  .ite (.or (.cmp .isn (.call 14 [(.v 0),(.v 3)]) (.c (.bl true))) (.cmp .isn (.call 14 [(.v 0),(.v 4)]) (.c (.bl true)))) [.ret (.c (.bl false))] [] ::
  .ite (.or (.cmp .ne (.bin .add (.blt .len [(.v 3)]) (.blt .len [(.v 4)])) (.bin .add (.blt .len [(.v 1)]) (.blt .len [(.v 2)]))) (.cmp .ne (.v 3) (.call 26 [(.v 0),(.bin .add (.blt .list [(.v 2)]) (.blt .list [(.v 1)]))]))) [.ret (.c (.bl false))] [] ::
  .ite (.or (.cmp .ne (.v 3) (.call 24 [(.v 0),(.v 2),(.v 1)])) (.cmp .ne (.v 4) (.call 29 [(.v 0),(.v 2),(.v 1)]))) [.ret (.c (.bl false))] [] ::
  .forr [5] (.of (.tup [(.v 1),(.v 2)])) uF ::
  .asg [6] (.call 35 [(.v 0),(.v 1),(.v 2)]) ::
  .ite (.or (.cmp .ne (.v 6) (.cmp .eq (.v 3) (.v 2))) (.cmp .ne (.v 6) (.cmp .eq (.v 4) (.v 1)))) [.ret (.c (.bl false))] [] ::
  .asg [7] (.call 36 [(.v 0),(.v 1),(.v 2)]) ::
  .ite (.cmp .is (.v 7) (.c .non)) [.ret (.v 6)] [] ::
  .ret (.and (.not (.v 6)) (.and (.call 31 [(.v 0),(.v 1),(.v 7)]) (.not (.call 31 [(.v 0),(.v 2),(.v 7)]))))::[]) [some (spV p n),some (Zg P),some (Zg Q),none,none,none,none,none] [] s=_
 have e0:rv (CV (d+8)) [] (.par [3,4] [(.call 24 [(.v 0),(.v 1),(.v 2)]),(.call 29 [(.v 0),(.v 1),(.v 2)])]) [some (spV p n),some (Zg P),some (Zg Q),none,none,none,none,none] [] s=.ok (.nx [some (spV p n),some (Zg P),some (Zg Q),some (Zg U),some (Zg D),none,none,none] []) s:=by
  rw[rv];show (pvs _ _ _ _).bind _=_;rw[Zh (call3 (Zo rfl) (Zo rfl) (Zo rfl) (joined (d+2) s hn hP hQ)) (Zh (call3 (Zo rfl) (Zo rfl) (Zo rfl) (met d s hn hP hQ)) Zw)];rfl
 have hlP:=dsum hP;have hlQ:=dsum hQ;have hle:(Yn p P Q).length+(YS p n P Q).length=P.length+Q.length:=sizes hP hQ;rw[Zu e0];rw[guard (UH (Gf (call1 (Zo rfl) (Zo rfl) (Jb (d+5) s hn hU))) (Gf (call1 (Zo rfl) (Zo rfl) (Jb (d+5) s hn hD))))];have hsp:=spanned (p:=p) (n:=n) (d+2) (R:=Q++P) (v:=.lst (Q.map Zk++P.map Zk)) s hn (λr hr=>by
  rcases List.mem_append.mp hr with h | h
  ·exact hQ.row r h
  ·exact hP.row r h) (by rw[List.map_append];rfl) rfl
 rw[yB hP hQ] at hsp;rw[guard (UH (ne_int (GF (Vu (P:=U) (Zo rfl)) (Vu (P:=D) (Zo rfl))) (GF (Vu (P:=P) (Zo rfl)) (Vu (P:=Q) (Zo rfl))) (by
   show ((Yn p P Q).length:Int)+(YS p n P Q).length=P.length+Q.length;omega)) (XN (P:=U) (Zo rfl) (call1 (Zo rfl) (xk (Q5 (P:=Q) (Zo rfl)) (Q5 (P:=P) (Zo rfl)) (by rw[List.length_map,List.length_map];unfold lim;omega)) hsp) rfl))]
 rw[guard (UH (XN (P:=U) (Zo rfl) (call3 (Zo rfl) (Zo rfl) (Zo rfl) (joined (d+2) s hn hQ hP)) (V7 hP hQ)) (XN (P:=D) (Zo rfl) (call3 (Zo rfl) (Zo rfl) (Zo rfl) (met d s hn hQ hP)) (yU hP hQ)))];obtain⟨ρ',hI,e⟩:=zH (C:=CV (d+8)) (ms:=[]) (t:=[5]) (it:=.of (.tup [(.v 1),(.v 2)])) (b:=uF) (L:=[P,Q]) (e:=Zg) (os:=[]) (s:=s) (ρ:=[some (spV p n),some (Zg P),some (Zg Q),some (Zg U),some (Zg D),none,none,none])
  (λl ρ=>(∀X∈l,X=P\/X=Q)/\∃o,ρ=[some (spV p n),some (Zg P),some (Zg Q),some (Zg U),some (Zg D),o,none,none]) (by
   show pvw _ _ [some (spV p n),some (Zg P),some (Zg Q),some (Zg U),some (Zg D),none,none,none] _=_;rw[pvw,pv,Zh (Zo (v:=Zg P) rfl) (Zh (Zo (v:=Zg Q) rfl) Zw)];rfl) ⟨by simp,none,rfl⟩ rfl (λX l ρ h=>by
   obtain⟨h1,o,rfl⟩:=h;refine⟨rfl,_,_,rfl,?_,λY hY=>h1 Y (List.mem_cons_of_mem _ hY),some (Zg X),rfl⟩
   rcases h1 X (List.mem_cons_self ..) with rfl | rfl
   ·exact Gs d s hn hU hD hP (λu h=>YV hP hQ h) (λu h=>((Yg hP hQ u).mp h).1)
   ·exact Gs d s hn hU hD hQ (λu h=>YI hP hQ h) (λu h=>((Yg hP hQ u).mp h).2))
 obtain⟨_,o,rfl⟩:=hI;rw[Zu e,Zu (YW (call3 (Zo rfl) (Zo rfl) (Zo rfl) (Jo (d+2) s hn hP hQ)) rfl)];show rvs _ _ _ [some (spV p n),some (Zg P),some (Zg Q),some (Zg U),some (Zg D),o,some (.bl (P.all (YD p Q))),none] _ _=_;have k1:P.all (YD p Q)=decide (U=Q):=by
  rw[Bool.eq_iff_iff,X4 hP hQ,decide_eq_true_iff];refine⟨US hP hQ,λh u hu=>?_⟩
  rw[<-h];exact YV hP hQ hu
 have k2:P.all (YD p Q)=decide (D=P):=by
  rw[Bool.eq_iff_iff,X4 hP hQ,decide_eq_true_iff];refine⟨GH hP hQ,λh u hu=>?_⟩
  rw[<-h] at hu;exact ((Yg hP hQ u).mp hu).2
 rw[guard (UH (vc (Zo rfl) (yc (P:=U) (Q:=Q) (Zo rfl) (Zo rfl)) k1) (vc (Zo rfl) (yc (P:=D) (Q:=P) (Zo rfl) (Zo rfl)) k2))];rw[Zu (YW (call3 (Zo rfl) (Zo rfl) (Zo rfl) (Ji (d+2) s hn hP hQ)) rfl)];show rvs _ _ _ [some (spV p n),some (Zg P),some (Zg Q),some (Zg U),some (Zg D),o,some (.bl (P.all (YD p Q))),some (zn (beyond p n P Q))] _ _=_;have e7:pv (CV (d+8)) (.cmp .is (.v 7) (.c .non)) [some (spV p n),some (Zg P),some (Zg Q),some (Zg U),some (Zg D),o,some (.bl (P.all (YD p Q))),some (zn (beyond p n P Q))] s=.ok (.bl (XA (zn (beyond p n P Q)))) s:=by
  rw[pv,Zo (v:=zn (beyond p n P Q)) rfl,Zc,pv];rfl
 cases c:beyond p n P Q with
 |none=>
  rw[c] at e7;rw[(Ug hP hQ).mp c] at e7 ⊢;exact ZN ((Qe (VI e7 rfl)).trans (by rw[show XA (zn none)=true from rfl,if_pos rfl];exact ZN (Z6 (Zo rfl))))
 |some r=>
  rw[c] at e7;obtain⟨hr,b1,b2⟩:=J4 hP hQ c;have b3:P.all (YD p Q)=false:=by
   cases q:P.all (YD p Q) with
   |false=>rfl
   |true=>rw[(Ug hP hQ).mpr q] at c;cases c
  rw[b3] at e7 ⊢;rw[guard e7];have h1:=holds (d+3) s hn hP hr;have h2:=holds (d+3) s hn hQ hr;rw[b1] at h1;rw[b2] at h2;exact ZN (Z6 (zi (c:=!false) (c':=true && !false) (VX (Zo rfl)) (zi (call3 (Zo rfl) (Zo rfl) (Zo rfl) h1) (VX (call3 (Zo rfl) (Zo rfl) (Zo rfl) h2)))))
theorem xT {P:List Row}(hn:n<=6) (hP:Part p n P):(YZ p n P).length<=lim:=by
 have hp:=Uq (p:=p);have g:∀(L:List Row) (st:List Row),(L.foldl (Wq p) st).length=st.length*p^L.length:=by
  intro L
  induction L with
  |nil=>intro st;simp
  |cons x L ih=>intro st;rw[List.foldl_cons,ih,JV,List.length_cons,Nat.pow_succ,Nat.mul_assoc,Nat.mul_comm p]
 have h1:(YZ p n P).length=p^P.length:=by
  unfold YZ;rw[g,List.length_singleton,Nat.one_mul]
 have h2:=dsum hP;have h3:p^P.length<=5^P.length:=Nat.pow_le_pow_left (by omega) _
 have h4:5^P.length<=5^6:=Nat.pow_le_pow_right (by omega) (by omega)
 unfold lim;omega
theorem JY (d:Nat) {P Q R:List Row}{r:Row}(s:DS) (hn:n<=6) (hP:Part p n P) (hQ:Part p n Q) (hR:Part p n R) (hr:Zz p n r):CV (d+9) 33 [spV p n,Zg P,Zg Q,Zg R,Zk r] s=.ok (.bl true) s:=by
 refine ZG (fn:=f__law_three_right) rfl (by decide) rfl ?_
 show rvs (CV (d+8)) [] (.ite (.cmp .ne (.call 24 [(.v 0),(.call 24 [(.v 0),(.v 1),(.v 2)]),(.v 3)]) (.call 24 [(.v 0),(.v 1),(.call 24 [(.v 0),(.v 2),(.v 3)])])) [.ret (.c (.bl false))] [] ::
  .ite (.cmp .ne (.call 29 [(.v 0),(.call 29 [(.v 0),(.v 1),(.v 2)]),(.v 3)]) (.call 29 [(.v 0),(.v 1),(.call 29 [(.v 0),(.v 2),(.v 3)])])) [.ret (.c (.bl false))] [] ::
  .asg [5] (.call 24 [(.v 0),(.v 1),(.v 3)]) ::
  .ite (.cmp .ne (.call 24 [(.v 0),(.v 1),(.call 29 [(.v 0),(.v 2),(.v 5)])]) (.call 29 [(.v 0),(.call 24 [(.v 0),(.v 1),(.v 2)]),(.v 5)])) [.ret (.c (.bl false))] [] ::
  .asg [6] (.and (.call 31 [(.v 0),(.v 1),(.v 4)]) (.call 31 [(.v 0),(.v 2),(.v 4)])) ::
  .ite (.cmp .ne (.call 31 [(.v 0),(.call 29 [(.v 0),(.v 1),(.v 2)]),(.v 4)]) (.v 6)) [.ret (.c (.bl false))] [] ::
  .ret (.cmp .eq (.call 32 [(.v 0),(.call 29 [(.v 0),(.v 1),(.v 2)])]) (.comp1 [0,2] 1 [0] (.of (.call 32 [(.v 0),(.v 1)])) [(.call 31 [(.v 1),(.v 2),(.v 0)])] (.v 0)))::[]) [some (spV p n),some (Zg P),some (Zg Q),some (Zg R),some (Zk r),none,none] [] s=_
 have J {A B:List Row} (hA:Part p n A) (hB:Part p n B):=joined (d+2) s hn hA hB;have M {A B:List Row} (hA:Part p n A) (hB:Part p n B):=met d s hn hA hB;have H {A:List Row} {r:Row} (hA:Part p n A) (hr:Zz p n r):=holds (d+3) s hn hA hr;rw[guard (XN (call3 (Zo rfl) (call3 (Zo rfl) (Zo rfl) (Zo rfl) (J hP hQ)) (Zo rfl) (J (pJ hP hQ) hR)) (call3 (Zo rfl) (Zo rfl) (call3 (Zo rfl) (Zo rfl) (Zo rfl) (J hQ hR)) (J hP (pJ hQ hR))) (zy hP hQ hR))];rw[guard (XN (call3 (Zo rfl) (call3 (Zo rfl) (Zo rfl) (Zo rfl) (M hP hQ)) (Zo rfl) (M (pM hP hQ) hR)) (call3 (Zo rfl) (Zo rfl) (call3 (Zo rfl) (Zo rfl) (Zo rfl) (M hQ hR)) (M hP (pM hQ hR))) (zB hP hQ hR))]
 rw[Zu (YW (call3 (Zo rfl) (Zo rfl) (Zo rfl) (J hP hR)) rfl)];show rvs _ _ _ [some (spV p n),some (Zg P),some (Zg Q),some (Zg R),some (Zk r),some (Zg (Yn p P R)),none] _ _=_;have hW:=pJ hP hR;rw[guard (XN (call3 (Zo rfl) (Zo rfl) (call3 (Zo rfl) (Zo rfl) (Zo rfl) (M hQ hW)) (J hP (pM hQ hW))) (call3 (Zo rfl) (call3 (Zo rfl) (Zo rfl) (Zo rfl) (J hP hQ)) (Zo rfl) (M (pJ hP hQ) hW)) (modular hP hQ hW λu h=>YV hP hR h))]
 rw[Zu (YW (zi (call3 (Zo rfl) (Zo rfl) (Zo rfl) (H hP hr)) (call3 (Zo rfl) (Zo rfl) (Zo rfl) (H hQ hr))) rfl)];show rvs _ _ _ [some (spV p n),some (Zg P),some (Zg Q),some (Zg R),some (Zk r),some (Zg (Yn p P R)),some (.bl (YD p P r&&YD p Q r))] _ _=_;have hD:=pM hP hQ;rw[guard (vc (call3 (Zo rfl) (call3 (Zo rfl) (Zo rfl) (Zo rfl) (M hP hQ)) (Zo rfl) (H hD hr)) (Zo rfl) (by
  rw[Bool.eq_iff_iff,YU hD hr,Yg hP hQ,Bool.and_eq_true,YU hP hr,YU hQ hr]))]
 have hc:=Xg (C:=CV (d+8)) (cap:=[0,2]) (nl:=1) (t:=[0]) (it:=.of (.call 32 [(.v 0),(.v 1)])) (tst:=.call 31 [(.v 1),(.v 2),(.v 0)]) (elt:=.v 0) (ρ:=[some (spV p n),some (Zg P),some (Zg Q),some (Zg R),some (Zk r),some (Zg (Yn p P R)),some (.bl (YD p P r&&YD p Q r))]) (s:=s) (l:=YZ p n P) (e:=Zk) (g:=Zk) (q:=YD p Q)
  (by rw[pvw,call1 (Zo rfl) (Zo rfl) (Jq (d+3) s hn hP)];rfl) (xT hn hP) (λx hx=>⟨_,_,rfl,call3 (Zo rfl) (Zo rfl) (Zo rfl) (H hQ (((Wk hP).1 x).mp hx).1),rfl,λ_=>Zo rfl⟩)
 rw[<-yW hP hQ] at hc;refine ZN (Z6 ?_);rw[pv,call1 (Zo rfl) (call3 (Zo rfl) (Zo rfl) (Zo rfl) (M hP hQ)) (Jq (d+3) s hn hD),Zc,hc,Zc];show po ((eqV ZA _ _).map V.bl) s=_;rw[ZA,wu,decide_eq_true rfl];rfl
end
end K23
namespace K23
open Ev Pv Rw La
noncomputable def menu:List (Nat×Nat×Nat):=[(2,2,1),(4,2,2),(8,2,3),(16,2,4),(32,2,5),(64,2,6),(3,3,1),(9,3,2),(27,3,3),(81,3,4),(5,5,1),(25,5,2),(125,5,3)]
theorem ug:∀q∈menu,(q.2.1=2\/q.2.1=3\/q.2.1=5)/\1<=q.2.2/\q.2.2<=6:=by decide
theorem law_space (d:Nat) {m:Int}(s:DS) (hm:2<=m):∃p n s',CV (d+2) 3 [.drw,.int m] s=.ok (spV p n) s'/\(p=2\/p=3\/p=5)/\1<=n/\n<=6:=by
 let L:=menu.filter λq=>decide ((q.1:Int)<=m)
 have hL:0<L.length:=List.length_pos_of_mem (a:=(2,2,1)) (List.mem_filter.mpr ⟨List.mem_cons_self ..,decide_eq_true hm⟩);have hL2:L.length<=13:=List.length_filter_le ..;have hc:=Xg (C:=CV (d+1)) (cap:=[1]) (nl:=2) (t:=[0,1]) (it:=.of (.v 2)) (tst:=.cmp .le (.v 0) (.v 2)) (elt:=.v 1) (ρ:=[some .drw,some (.int m),some (.lst (menu.map λq=>.tup [.int q.1,spV q.2.1 q.2.2]))]) (s:=s) (l:=menu) (e:=λq=>.tup [.int q.1,spV q.2.1 q.2.2]) (g:=λq=>spV q.2.1 q.2.2) (q:=λq=>decide ((q.1:Int)<=m))
  (by rw[pvw,Zo (v:=.lst (menu.map λq=>.tup [.int q.1,spV q.2.1 q.2.2])) rfl];rfl) (by decide) (λq _=>⟨[some (.int q.1),some (spV q.2.1 q.2.2),some (.int m)],.bl (decide ((q.1:Int)<=m)),rfl,by
   rw[pv,Zo (v:=.int q.1) rfl,Zc,Zo (v:=.int m) rfl];rfl,rfl,λ_=>Zo rfl⟩)
 obtain⟨v,s',f1,f2,f3⟩:=vF (F:=fns) (tk:=2) (d:=d) (m:=L.length) s (by omega) (by omega)
 obtain⟨k,rfl⟩:∃k:Nat,v=k:=⟨v.toNat,by omega⟩
 have hk:k<L.length:=by omega
 have hq:=ug _ (List.mem_filter.mp (List.getElem_mem hk)).1;refine⟨L[k].2.1,L[k].2.2,s',ZG (fn:=f__law_space) rfl (by decide) rfl ?_,hq⟩
 show rvs (CV (d+1)) [] (.asg [2] (.lst [(.tup [(.c (.int 2)),(.tup [(.c (.int 2)),(.c (.int 1))])]),(.tup [(.c (.int 4)),(.tup [(.c (.int 2)),(.c (.int 2))])]),(.tup [(.c (.int 8)),(.tup [(.c (.int 2)),(.c (.int 3))])]),(.tup [(.c (.int 16)),(.tup [(.c (.int 2)),(.c (.int 4))])]),(.tup [(.c (.int 32)),(.tup [(.c (.int 2)),(.c (.int 5))])]),(.tup [(.c (.int 64)),(.tup [(.c (.int 2)),(.c (.int 6))])]),(.tup [(.c (.int 3)),(.tup [(.c (.int 3)),(.c (.int 1))])]),(.tup [(.c (.int 9)),(.tup [(.c (.int 3)),(.c (.int 2))])])]) ::
  .asg [2] (.bin .add (.v 2) (.lst [(.tup [(.c (.int 27)),(.tup [(.c (.int 3)),(.c (.int 3))])]),(.tup [(.c (.int 81)),(.tup [(.c (.int 3)),(.c (.int 4))])]),(.tup [(.c (.int 5)),(.tup [(.c (.int 5)),(.c (.int 1))])]),(.tup [(.c (.int 25)),(.tup [(.c (.int 5)),(.c (.int 2))])]),(.tup [(.c (.int 125)),(.tup [(.c (.int 5)),(.c (.int 3))])])])) ::
  .asg [2] (.comp1 [1] 2 [0,1] (.of (.v 2)) [(.cmp .le (.v 0) (.v 2))] (.v 1)) ::
  .ret (.ix (.v 2) (.call 2 [(.v 0),(.blt .len [(.v 2)])]))::[]) [some .drw,some (.int m),none] [] s=_
 rw[Zu (ρ':=[some .drw,some (.int m),some (.lst ((menu.take 8).map λq=>.tup [.int q.1,spV q.2.1 q.2.2]))]) (os':=[]) (s':=s) (by simp[rvs,rv,pvA,pvE,pvs,pvo,pvt,pvw,Zy,Zc,Zi,Zp,pvF,hide,Zj,Option.join,lim,menu,spV])]
 rw[Zu (ρ':=[some .drw,some (.int m),some (.lst (menu.map λq=>.tup [.int q.1,spV q.2.1 q.2.2]))]) (os':=[]) (s':=s) (by simp[rvs,rv,pvA,pvE,pvs,pvo,pvt,pvw,Zy,Zc,Zi,Zp,pvF,hide,Zj,Option.join,lim,menu,spV])]
 rw[Zu (YW hc rfl)];show rvs _ _ _ [some .drw,some (.int m),some (.lst (L.map λq=>spV q.2.1 q.2.2))] _ _=_
 refine ZN (Z6 ?_);have e1:pv (CV (d+1)) (.blt .len [(.v 2)]) [some .drw,some (.int m),some (.lst (L.map λq=>spV q.2.1 q.2.2))] s=.ok (.int L.length) s:=by
  rw[pv,Zh (Zo (v:=.lst (L.map λq=>spV q.2.1 q.2.2)) rfl) Zw,Zc]
  show po (some (V.int (L.map λq=>spV q.2.1 q.2.2).length)) s=_
  rw[List.length_map];rfl
 rw[pv,Zo (v:=.lst (L.map λq=>spV q.2.1 q.2.2)) rfl,Zc,ZD (Zh (Zo rfl) (Zh e1 Zw)) f1,Zc]
 show po (at' (L.map λq=>spV q.2.1 q.2.2) (k:Int)) s'=_
 rw[GZ (x:=spV L[k].2.1 L[k].2.2) (by rw[List.getElem?_map,List.getElem?_eq_getElem hk];rfl)];rfl
noncomputable def J0:List Sm:=[.asg [3] (.call 3 [(.v 2),(.ix (.lst [(.c (.int 27)),(.c (.int 125))]) (.blt .toInt [(.cmp .eq (.v 1) (.c (.int 0)))]))]),
  .asg [4,5,6] (.comp1 [2,3] 1 [0] (.rng1 (.c (.int 3))) [] (.call 7 [(.v 1),(.v 2)])),
  .ite (.or (.not (.call 37 [(.v 3),(.v 4),(.v 5)])) (.not (.call 37 [(.v 3),(.v 4),(.v 6)]))) [.ret (.c (.bl false))] [],
  .ite (.not (.call 33 [(.v 3),(.v 4),(.v 5),(.v 6),(.call 6 [(.v 2),(.v 3)])])) [.ret (.c (.bl false))] []]
theorem w6 (d:Nat) (k:Nat) (a0:Option V) (s:DS) (b3 b4 b5 b6:Option V):∃ρ' os' s',rvs (CV (d+9)) [] J0 [a0,some (.int k),some .drw,b3,b4,b5,b6] [] s=.ok (.nx ρ' os') s':=by
 unfold J0;have e1:∃m:Int,2<=m/\pv (CV (d+9)) (.ix (.lst [(.c (.int 27)),(.c (.int 125))]) (.blt .toInt [(.cmp .eq (.v 1) (.c (.int 0)))])) [a0,some (.int k),some .drw,b3,b4,b5,b6] s=.ok (.int m) s:=by
  cases k with
  |zero=>exact⟨125,by omega,by simp[rvs,rv,pvA,pvE,pvs,pvo,pvt,pvw,Zy,Zc,Zi,Zp,pvF,hide,Zj,Option.join,lim,ZA,b2i,at',ixN]⟩
  |succ k=>
   have h:¬(k:Int)+1=0:=by omega
   exact⟨27,by omega,by simp[rvs,rv,pvA,pvE,pvs,pvo,pvt,pvw,Zy,Zc,Zi,Zp,pvF,hide,Zj,Option.join,lim,ZA,b2i,at',ixN,h]⟩
 obtain⟨m,hm,e1⟩:=e1;obtain⟨p,n,s1,f1,f2,f3,f4⟩:=law_space (d+7) s hm;have hB:Base p:=⟨f2⟩;rw[Zu (YW (ZD (Zh (Zo rfl) (Zh e1 Zw)) f1) rfl)];show ∃ρ' os' s',rvs _ _ _ [a0,some (.int k),some .drw,some (spV p n),b4,b5,b6] [] s1=.ok (.nx ρ' os') s';obtain⟨ys,s2,e2,e3,e4⟩:=VT (C:=CV (d+9)) (cap:=[2,3]) (nl:=1) (t:=[0]) (it:=.rng1 (.c (.int 3))) (elt:=.call 7 [(.v 1),(.v 2)]) (ρ:=[a0,some (.int k),some .drw,some (spV p n),b4,b5,b6]) (s:=s1) (k:=3) (Q:=λy=>∃P:List Row,y=Zg P/\Part p n P)
  (by rw[Uy];exact X9 (by rw[pv];rfl) (by omega)) (by decide) (λx s=>by
   obtain⟨P,s',g1,g2⟩:=law_part (p:=p) (n:=n) (d+6) s f4;exact⟨[some x,some .drw,some (spV p n)],Zg P,s',rfl,ZD (Zh (Zo rfl) (Zh (Zo rfl) Zw)) g1,P,rfl,g2⟩)
 match ys,e3,e4,e2 with
 |[y1,y2,y3],_,e4,e2=>
  obtain⟨P,rfl,hP⟩:=e4 y1 (by simp)
  obtain⟨Q,rfl,hQ⟩:=e4 y2 (by simp)
  obtain⟨R,rfl,hR⟩:=e4 y3 (by simp)
  have e5:rv (CV (d+9)) [] (.asg [4,5,6] (.comp1 [2,3] 1 [0] (.rng1 (.c (.int 3))) [] (.call 7 [(.v 1),(.v 2)]))) [a0,some (.int k),some .drw,some (spV p n),b4,b5,b6] [] s1=.ok (.nx [a0,some (.int k),some .drw,some (spV p n),some (Zg P),some (Zg Q),some (Zg R)] []) s2:=by
   rw[rv]
   ·show (pv _ _ _ _).bind _=_
    rw[e2];rfl
   ·intro i h;cases h
  rw[Zu e5];rw[guard (UH (VX (call3 (Zo rfl) (Zo rfl) (Zo rfl) (QB d s2 f4 hP hQ))) (VX (call3 (Zo rfl) (Zo rfl) (Zo rfl) (QB d s2 f4 hP hR))))];obtain⟨r,s3,g1,g2⟩:=law_row_of (p:=p) (n:=n) (d+7) s2 f4;have e6:Zy (CV (d+9)) (.not (.call 33 [(.v 3),(.v 4),(.v 5),(.v 6),(.call 6 [(.v 2),(.v 3)])])) [a0,some (.int k),some .drw,some (spV p n),some (Zg P),some (Zg Q),some (Zg R)] s2=.ok false s3:=by
   refine VI (v:=.bl (!true)) ?_ rfl;rw[pv,ZD (Zh (Zo rfl) (Zh (Zo rfl) (Zh (Zo rfl) (Zh (Zo rfl) (Zh (ZD (Zh (Zo rfl) (Zh (Zo rfl) Zw)) g1) Zw))))) (JY d s3 f4 hP hQ hR g2)];rfl
  rw[Zu ((Qe e6).trans (by rw[if_neg (by simp),rvs])),rvs]
  exact⟨_,_,_,rfl⟩
end K23
namespace K23
open Ev Pv
section
theorem evF:(∀x S,bltin .len [x] S=(ob (XI S x) S).bind λxs S=>.ok (.int xs.length) S)/\(∀a b S,bltin .max2 [.int a,.int b] S=.ok (.int (if b>a then b else a)) S)/\(∀a b S,bltin .min2 [.int a,.int b] S=.ok (.int (if b<a then b else a)) S)/\(∀a b S,cmpop .lt (.int a) (.int b) S=.ok (.bl (decide (a<b))) S)/\(∀a b S,cmpop .ge (.int a) (.int b) S=.ok (.bl (decide (b<=a))) S)/\(∀a b S,binop .sub (.int a) (.int b) S=.ok (.int (a-b)) S)/\(∀a b S,binop .mod (.int a) (.int b) S=if 0<b then .ok (.int (a%b)) S else .no)/\(∀a b S,binop .pow (.int a) (.int b) S=if 0<=b/\b<=1000/\a.natAbs<2^64 then .ok (.int (a^b.toNat)) S else .no)/\(∀S b,truth S (.bl b)=some b)/\(∀n S,XI S (.loc n)=Yu S n)/\(∀i x S σ,assign [i] x S σ=some (σ.set i (some x))):=
 ⟨λ_ _=>rfl,λ_ _ _=>rfl,λ_ _ _=>rfl,λ_ _ _=>rfl,λ_ _ _=>rfl,λ_ _ _=>rfl,λ_ _ _=>rfl,λ_ _ _=>rfl,λ_ _=>rfl,λ_ _=>rfl,λ_ _ _ _=>rfl⟩
theorem uP {S:Store}{n:Nat}{i:Int}{xs:List D}(h:Yu S n=some xs):getix (.loc n) (.int i) S=ob (at' xs i) S:=by
 show (match Yu S n with | some xs=>ob (at' xs i) S | none=>.no)=_
 rw[h]
theorem vS {C:Calls}{es:List E}{σ:Lc}{S S1:Store}{xs:List D}{f:Nat}(h1:evs C es σ S=.ok xs S1):ev C (.call f es) σ S=C f xs S1:=by
 rw[ev,h1];rfl
theorem yZ {C:Calls}{e:E}{ss:List Sm}{σ:Lc}{S S':Store}{x:D}{k:Nat}(h:ev C e σ S=.ok x S'):runs C (.asg [k] e::ss) σ S=runs C ss (σ.set k (some x)) S':=by
 rw[runs,run,h];rfl
theorem vG {C:Calls}{e:E}{ss:List Sm}{σ:Lc}{S S':Store}{x:D}(h:ev C e σ S=.ok x S'):runs C (.ret e::ss) σ S=.ok (.ret x) S':=by
 rw[runs,run,h];rfl
theorem ud {C:Calls}{s:Sm}{ss:List Sm}{σ σ':Lc}{S S':Store}(h:run C s σ S=.ok (.nx σ') S'):runs C (s::ss) σ S=runs C ss σ' S':=by rw[runs,h];rfl
theorem yf {S:Store}{o:Ob}:(S++[o])[S.length]? = some o:=by rw[List.getElem?_append_right (Nat.le_refl _),Nat.sub_self];rfl
theorem vK {S:Store}{ns:List Int}{k:Int}(d:Nat) (hs:S[0]? = some (.scr ns)) (k0:0<=k):∃c,calls fns (d+1) 0 [.loc 0,.int k] S=.ok (.int c) S:=by
 have h1:Yu S 0=some (ns.map .int):=by unfold Yu;rw[hs]
 by_cases c:k<ns.length
 ·have hk:k.toNat<ns.length:=by omega
  refine⟨ns[k.toNat],?_⟩;simp[Ev.calls,Ev.runs,Ev.run,Ev.ev.eq_1,Ev.ev.eq_2,Ev.ev.eq_3,Ev.ev.eq_4,Ev.ev.eq_5,Ev.ev.eq_6,Ev.ev.eq_7,Ev.ev.eq_8,Ev.ev.eq_9,Ev.ev.eq_10,Ev.ev.eq_11,Ev.ev.eq_12,Ev.ev.eq_13,Ev.ev.eq_14,Ev.ev.eq_15,Ev.ev.eq_16,Ev.ev.eq_17,Ev.ev.eq_18,Ev.ev.eq_19,Ev.ev.eq_20,Ev.ev.eq_21,Ev.ev.eq_22,Ev.ev.eq_23,Ev.evs,Ev.evo,Ev.evt,Ev.tst,Ev.R.bind,Ev.ob,Ev.start,Ev.lim,fns,f__law_cell_at,evF,h1,c,uP h1,at',ixN,k0,hk]
 ·refine⟨0,?_⟩
  simp[Ev.calls,Ev.runs,Ev.run,Ev.ev.eq_1,Ev.ev.eq_2,Ev.ev.eq_3,Ev.ev.eq_4,Ev.ev.eq_5,Ev.ev.eq_6,Ev.ev.eq_7,Ev.ev.eq_8,Ev.ev.eq_9,Ev.ev.eq_10,Ev.ev.eq_11,Ev.ev.eq_12,Ev.ev.eq_13,Ev.ev.eq_14,Ev.ev.eq_15,Ev.ev.eq_16,Ev.ev.eq_17,Ev.ev.eq_18,Ev.ev.eq_19,Ev.ev.eq_20,Ev.ev.eq_21,Ev.ev.eq_22,Ev.ev.eq_23,Ev.evs,Ev.evo,Ev.evt,Ev.tst,Ev.R.bind,Ev.ob,Ev.start,Ev.lim,fns,f__law_cell_at,evF,h1,c]
theorem vp {S:Store}{ns:List Int}{k:Int}(d:Nat) (hs:S[0]? = some (.scr ns)) (k0:0<=k):∃o s,Dw S.length (S++[o]) s/\calls fns (d+2) 1 [.loc 0,.int k] S=.ok (.loc S.length) (S++[o]):=by
 obtain⟨c,e⟩:=vK d hs k0;rw[show d+2=(d+1)+1 from rfl,calls]
 generalize calls fns (d+1)=C at e ⊢;by_cases h:10^18<=c
 ·refine⟨.lst [.int (c-10^18),.bl true],(c-10^18,true),⟨yf,by show 0<=c-10^18;omega,by simp⟩,?_⟩
  have h':(1000000000000000000:Int)<=c:=by simpa using h
  simp[Ev.calls,Ev.runs,Ev.run,Ev.ev.eq_1,Ev.ev.eq_2,Ev.ev.eq_3,Ev.ev.eq_4,Ev.ev.eq_5,Ev.ev.eq_6,Ev.ev.eq_7,Ev.ev.eq_8,Ev.ev.eq_9,Ev.ev.eq_10,Ev.ev.eq_11,Ev.ev.eq_12,Ev.ev.eq_13,Ev.ev.eq_14,Ev.ev.eq_15,Ev.ev.eq_16,Ev.ev.eq_17,Ev.ev.eq_18,Ev.ev.eq_19,Ev.ev.eq_20,Ev.ev.eq_21,Ev.ev.eq_22,Ev.ev.eq_23,Ev.evs,Ev.evo,Ev.evt,Ev.tst,Ev.R.bind,Ev.ob,Ev.start,Ev.lim,fns,f__law_state,e,evF,h']
 ·refine⟨.lst [.int (c%2147483647),.bl false],(c%2147483647,false),⟨yf,by show 0<=c%2147483647;omega,λ_=>by show c%2147483647<_;omega⟩,?_⟩
  have h':¬(1000000000000000000:Int)<=c:=by simpa using h
  simp[Ev.calls,Ev.runs,Ev.run,Ev.ev.eq_1,Ev.ev.eq_2,Ev.ev.eq_3,Ev.ev.eq_4,Ev.ev.eq_5,Ev.ev.eq_6,Ev.ev.eq_7,Ev.ev.eq_8,Ev.ev.eq_9,Ev.ev.eq_10,Ev.ev.eq_11,Ev.ev.eq_12,Ev.ev.eq_13,Ev.ev.eq_14,Ev.ev.eq_15,Ev.ev.eq_16,Ev.ev.eq_17,Ev.ev.eq_18,Ev.ev.eq_19,Ev.ev.eq_20,Ev.ev.eq_21,Ev.ev.eq_22,Ev.ev.eq_23,Ev.evs,Ev.evo,Ev.evt,Ev.tst,Ev.R.bind,Ev.ob,Ev.start,Ev.lim,fns,f__law_state,e,evF,h']
theorem Gr {w:Walk}{body:D->Lc->Store->R Fl}(P:Lc->Store->Prop) (hst:∀σ S,P σ S->w.still S=true):∀(xs:List D),(∀x∈xs,∀σ S,P σ S->∃σ' S',P σ' S'/\body x σ S=.ok (.nx σ') S')->∀σ S,P σ S->∃σ' S',P σ' S'/\Vx w body xs σ S=.ok (.nx σ') S'
 |[],_,σ,S,h=>⟨σ,S,h,by rw[Vx,if_pos (hst σ S h)]⟩
 |x::xs,hb,σ,S,h=>by
  obtain⟨σ1,S1,h1,e1⟩:=hb x (List.mem_cons_self ..) σ S h;obtain⟨σ2,S2,h2,e2⟩:=Gr P hst xs (λy hy=>hb y (List.mem_cons_of_mem _ hy)) σ1 S1 h1
  refine⟨σ2,S2,h2,?_⟩;rw[Vx,if_pos (hst σ S h),e1];exact e2
theorem xA {lo:Int}{k:Nat}{x:D}(h:x∈Z3 lo k):∃i,x=.int i/\lo<=i:=by
 unfold Z3 at h;obtain⟨j,_,e⟩:=List.mem_map.mp h;exact⟨_,e.symm,by omega⟩
noncomputable def Kept (σ σ':Lc):Prop:=σ'[0]? = σ[0]?/\σ'.length=σ.length
theorem Kept.trans {σ σ1 σ2:Lc}(h:Kept σ σ1) (h2:Kept σ1 σ2):Kept σ σ2:=⟨h2.1.trans h.1,h2.2.trans h.2⟩
theorem Kept.set {σ:Lc}{i:Nat}{x:Option D}(h:i≠0):Kept σ (σ.set i x):=⟨List.getElem?_set_ne h,List.length_set ..⟩
theorem Y7:∀{t:List Nat}{xs:List D}{σ σ':Lc},fill t xs σ=some σ'->¬0∈t->Kept σ σ'
 |[],[],σ,σ',h,_=>by cases h;exact⟨rfl,rfl⟩
 |i::t,x::xs,σ,σ',h,h0=>(Kept.set (λz=>h0 (by rw[z];exact List.mem_cons_self ..))).trans (Y7 (t:=t) (xs:=xs) h λz=>h0 (List.mem_cons_of_mem _ z))
 |[],_::_,_,_,h,_=>by cases h
 |_::_,[],_,_,h,_=>by cases h
theorem WO {C:Calls}{m:Sm}{l:List Sm}{σ σ':Lc}{S S':Store}(h:runs C (m::l) σ S=.ok (.nx σ') S'):∃σ1 S1,run C m σ S=.ok (.nx σ1) S1/\runs C l σ1 S1=.ok (.nx σ') S':=by
 rw[runs] at h;cases q:run C m σ S with
 |no=>rw[q] at h;cases h
 |ex c S1=>rw[q] at h;cases h
 |ok f S1=>
  rw[q] at h;cases f with
  |nx σ1=>exact⟨σ1,S1,rfl,h⟩
  |ret v=>cases h
  |brk v=>cases h
  |cnt v=>cases h
theorem Gz {C:Calls}{t:List Nat}{e:E}{σ σ':Lc}{S S':Store}(h:run C (.asg t e) σ S=.ok (.nx σ') S') (h0:¬0∈t):Kept σ σ':=by
 rw[run] at h;cases q:ev C e σ S with
 |no=>rw[q] at h;cases h
 |ex c S1=>rw[q] at h;cases h
 |ok x S1=>
  rw[q] at h;replace h:((ob (assign t x S1 σ) S1).bind λσ S=>R.ok (Fl.nx σ) S)=.ok (.nx σ') S':=h
  cases q2:assign t x S1 σ with
  |none=>rw[q2] at h;cases h
  |some σ1=>
   rw[q2] at h;cases h;unfold assign at q2;split at q2
   ·cases q2
    exact Kept.set λz=>h0 (by simp[z])
   ·split at q2
    ·exact Y7 q2 h0
    ·split at q2
     ·exact Y7 q2 h0
     ·cases q2
    ·cases q2
theorem Gc {C:Calls}{t e:E}{σ σ':Lc}{S S':Store}(h:run C (.ite t [.ret e] []) σ S=.ok (.nx σ') S'):σ'=σ:=by
 rw[run] at h;cases q:tst C t σ S with
 |no=>rw[q] at h;cases h
 |ex c S1=>rw[q] at h;cases h
 |ok b S1=>
  rw[q] at h;cases b with
  |false=>
   replace h:runs C [] σ S1=.ok (.nx σ') S':=h;rw[runs] at h;cases h;rfl
  |true=>
   replace h:runs C [.ret e] σ S1=.ok (.nx σ') S':=h;obtain⟨σ1,S2,h1,_⟩:=WO h;rw[run] at h1;cases q3:ev C e σ S1 with
   |no=>rw[q3] at h1;cases h1
   |ex c S1=>rw[q3] at h1;cases h1
   |ok x S1=>rw[q3] at h1;cases h1
end
noncomputable def Q0 (ns:List Int) (σ:Lc) (S:Store):Prop:=∃a1 a2 a3 a4 a5 a6,σ=[some (.loc 0),a1,a2,a3,a4,a5,a6]/\S[0]? = some (.scr ns)
theorem ue {ns:List Int}{x:D}{σ:Lc}{S:Store}{d:Nat}(hx:∃i,x=.int i/\0<=i) (hq:Q0 ns σ S):∃σ' S',Q0 ns σ' S'/\(ob (assign [1] x S σ) S).bind (λσ S=>runs (calls fns (d+9)) (.asg [2] (.call 1 [(.v 0),(.v 1)])::J0) σ S)=.ok (.nx σ') S':=by
 obtain⟨i,rfl,i0⟩:=hx;obtain⟨k,rfl⟩:∃k:Nat,i=k:=⟨i.toNat,by omega⟩
 obtain⟨a1,a2,a3,a4,a5,a6,rfl,hs⟩:=hq;show ∃σ' S',Q0 ns σ' S'/\runs (calls fns (d+9)) _ [some (.loc 0),some (.int k),a2,a3,a4,a5,a6] S=.ok (.nx σ') S';obtain⟨o,s,h1,e1⟩:=vp (d+7) hs i0;have n0:S.length≠0:=by have:=XU hs;omega
 have s1:(S++[o])[0]? = some (.scr ns):=by rw[List.getElem?_append_left (XU hs)];exact hs
 rw[yZ (x:=.loc S.length) (S':=S++[o]) (by rw[vS (xs:=[.loc 0,.int k]) (S1:=S) rfl];exact e1)]
 show ∃σ' S',Q0 ns σ' S'/\runs (calls fns (d+9)) _ [some (.loc 0),some (.int k),some (.loc S.length),a3,a4,a5,a6] (S++[o])=.ok (.nx σ') S';obtain⟨ρ',os',s',e2⟩:=w6 d k none s none none none none;have hE:EnvS (S++[o]) (· = S.length) S.length (S.length+1) (λ_=>none) [none,some (.int k),some .drw,none,none,none,none] [] [some (.loc 0),some (.int k),some (.loc S.length),a3,a4,a5,a6]:={
  xz:=rfl
  xb:=λn h=>by omega
  bs:=by simp
  len:=rfl
  osW:=λi=>rfl
  inj:=λi j n h=>by cases h
  pl:=λi n h=>by cases h
  own:=λi n h=>by cases h
  val:=λi v h _=>by
   match i,h with
   |0,h=>cases h
   |1,h=>cases h;exact⟨_,rfl,by unfold Rep;rfl⟩
   |2,h=>cases h;exact⟨_,rfl,by unfold Rep;rfl⟩
   |3,h=>cases h
   |4,h=>cases h
   |5,h=>cases h
   |6,h=>cases h
   |i+7,h=>cases h }
 have hS:=Qr (Go (F:=fns) (tk:=2) (n0:=S.length) rfl (d+9)) [] J0 hE h1;replace e2:rvs (Yh fns 2 (d+9)) [] J0 [none,some (.int k),some .drw,none,none,none,none] [] s=.ok (.nx ρ' os') s':=e2;rw[e2] at hS;obtain⟨g,S',e3,x3,w3,f3⟩:=hS;cases g with
 |nx σ'=>
  obtain⟨W',_,he⟩:=f3;refine⟨σ',S',?_,e3⟩;have hl:Kept [some (.loc 0),some (.int k),some (.loc S.length),a3,a4,a5,a6] σ':=by
   obtain⟨σ1,S1,r1,q1⟩:=WO e3;obtain⟨σ2,S2,r2,q2⟩:=WO q1;obtain⟨σ3,S3,r3,q3⟩:=WO q2;obtain⟨σ4,S4,r4,q4⟩:=WO q3;rw[runs] at q4;cases q4;have h3:=Gc r3;have h4:=Gc r4;subst h3;subst h4;exact (Gz r1 (by decide)).trans (Gz r2 (by decide))
  have hlen:σ'.length=7:=hl.2;replace hl:σ'[0]? = some (some (.loc 0)):=hl.1
  match σ',hlen,hl with
  |[b0,b1,b2,b3,b4,b5,b6],_,hl=>
   cases hl;exact⟨b1,b2,b3,b4,b5,b6,rfl,x3.keep 0 _ (Ne.symm n0) (λi h=>by cases h) s1⟩
 |ret v=>exact f3.elim
 |brk v=>exact f3.elim
 |cnt v=>exact f3.elim
theorem law_ok {ns:List Int}{S:Store}(d:Nat) (hs:S[0]? = some (.scr ns)):∃S',S'[0]? = some (.scr ns)/\calls fns (d+10) 38 [.loc 0] S=.ok (.bl true) S':=by
 have h1:Yu S 0=some (ns.map .int):=by unfold Yu;rw[hs]
 let k:Int:=if (if 5<(ns.length:Int) then (5:Int) else ns.length)>1 then (if 5<(ns.length:Int) then (5:Int) else ns.length) else 1
 have hk:small k=true:=JX (by simp only[k];split <;> split <;> omega) (by simp only[k];split <;> split <;> omega)
 obtain⟨σ1,S1,⟨a1,a2,a3,a4,a5,a6,rfl,s1⟩,e1⟩:=Gr (w:=⟨Z3 0 k.toNat,[]⟩) (Q0 ns) (λ_ _ _=>rfl) (Z3 0 k.toNat) (λx hx σ S hq=>ue (d:=d) (xA hx) hq) [some (.loc 0),none,none,none,none,none,none] S ⟨_,_,_,_,_,_,rfl,hs⟩
 refine⟨S1,s1,?_⟩;rw[show d+10=(d+9)+1 from rfl,calls]
 show (runs (calls fns (d+9)) (.forr [1] (.rng1 (.blt .max2 [(.c (.int 1)),(.blt .min2 [(.blt .len [(.v 0)]),(.c (.int 5))])])) _ :: .ret (.c (.bl true))::[]) [some (.loc 0),none,none,none,none,none,none] S).bind _=_;have er:ev (calls fns (d+9)) (.blt .max2 [(.c (.int 1)),(.blt .min2 [(.blt .len [(.v 0)]),(.c (.int 5))])]) [some (.loc 0),none,none,none,none,none,none] S=.ok (.int k) S:=by
  simp[Ev.calls,Ev.runs,Ev.run,Ev.ev.eq_1,Ev.ev.eq_2,Ev.ev.eq_3,Ev.ev.eq_4,Ev.ev.eq_5,Ev.ev.eq_6,Ev.ev.eq_7,Ev.ev.eq_8,Ev.ev.eq_9,Ev.ev.eq_10,Ev.ev.eq_11,Ev.ev.eq_12,Ev.ev.eq_13,Ev.ev.eq_14,Ev.ev.eq_15,Ev.ev.eq_16,Ev.ev.eq_17,Ev.ev.eq_18,Ev.ev.eq_19,Ev.ev.eq_20,Ev.ev.eq_21,Ev.ev.eq_22,Ev.ev.eq_23,Ev.evs,Ev.evo,Ev.evt,Ev.tst,Ev.R.bind,Ev.ob,Ev.start,Ev.lim,evF,h1,k]
 have ew:evw (calls fns (d+9)) (.rng1 (.blt .max2 [(.c (.int 1)),(.blt .min2 [(.blt .len [(.v 0)]),(.c (.int 5))])])) [some (.loc 0),none,none,none,none,none,none] S=.ok ⟨Z3 0 k.toNat,[]⟩ S:=by
  rw[evw,er];show (if small k=true then _ else _)=_
  rw[if_pos hk]
 rw[ud (σ':=[some (.loc 0),a1,a2,a3,a4,a5,a6]) (S':=S1) (by rw[run,ew];exact e1)]
 rw[vG (x:=.bl true) (S':=S1) (by rw[ev])];rfl
end K23
namespace K23
open PySem PySem.Spec PyProof.Rows L2 Wr
open Sd (xD spF zV hu7 CompScope Zt Zb Z4 Wf z7 wl WF ZZ Yv Uf Y4 xF zT u5 yw zE qg wG Xx yt yk zN YC Vf Wo xN)
def top (i:Nat):Stmt:=PySem.Challenge.pw_fewspaces_k23_whole_joined_and_met.main.body.getD i (.Pass ⟨0,0,0,0⟩)
abbrev s0:Stmt:=top 37
abbrev s1:Stmt:=top 38
abbrev s2:Stmt:=top 39
abbrev s3:Stmt:=top 40
abbrev s4:Stmt:=top 42
abbrev s5:Stmt:=top 43
abbrev s6:Stmt:=top 41
abbrev s7:Stmt:=top 44
abbrev s8:Stmt:=top 7
abbrev s9:Stmt:=top 6
abbrev s10:Stmt:=top 12
abbrev s11:Stmt:=top 16
abbrev s12:Stmt:=top 5
abbrev s13:Stmt:=top 14
abbrev s14:Stmt:=top 15
abbrev s15:Stmt:=top 18
abbrev s16:Stmt:=top 19
abbrev s17:Stmt:=top 9
abbrev s18:Stmt:=top 11
abbrev s19:Stmt:=top 23
abbrev s20:Stmt:=top 8
abbrev s21:Stmt:=top 10
abbrev s22:Stmt:=top 22
abbrev s23:Stmt:=top 21
abbrev s24:Stmt:=top 31
abbrev s25:Stmt:=top 17
abbrev s26:Stmt:=top 20
abbrev s27:Stmt:=top 29
abbrev s28:Stmt:=top 28
abbrev s29:Stmt:=top 32
abbrev s30:Stmt:=top 25
abbrev s31:Stmt:=top 24
abbrev s32:Stmt:=top 26
abbrev s33:Stmt:=top 46
abbrev s34:Stmt:=top 34
abbrev s35:Stmt:=top 33
abbrev s36:Stmt:=top 35
abbrev s37:Stmt:=top 45
abbrev s38:Stmt:=top 47
theorem jQ:(["_law_rows","_law_space_here","_law_most"]:List Str).Nodup:=by decide +kernel
theorem Zah:(["_law_first","_law_second","_law_often","_law_space_here"]:List Str).Nodup:=by decide +kernel
theorem Zaa:(["_law_row","_law_space_here","_law_one","_law_place"]:List Str).Nodup:=by decide +kernel
theorem ZaE:(["_law_number","_law_often","_law_space_here"]:List Str).Nodup:=by decide +kernel
theorem Za4:(["_law_number","_law_fit","_law_place","_law_space_here"]:List Str).Nodup:=by decide +kernel
theorem ZaO:(["_law_row","_law_place"]:List Str).Nodup:=by decide +kernel
theorem ZaJ:(["_law_place","_law_state_here","_law_space_here"]:List Str).Nodup:=by decide +kernel
theorem jT:(["_law_turn","_law_state_here","_law_space_here"]:List Str).Nodup:=by decide +kernel
theorem Zac:(["one","other"]:List Str).Nodup:=by decide +kernel
theorem ZaI:(["row","place"]:List Str).Nodup:=by decide +kernel
theorem Zak:(["number","p"]:List Str).Nodup:=by decide +kernel
theorem u6:(["at","place","thing"]:List Str).Nodup:=by decide +kernel
theorem qj:(["row"]:List Str).Nodup:=by decide +kernel
theorem Zad:(["row","space"]:List Str).Nodup:=by decide +kernel
theorem ql:(["mine","its","number","p"]:List Str).Nodup:=by decide +kernel
theorem Zae:(["mine","number","p"]:List Str).Nodup:=by decide +kernel
theorem jN:(["other","p","lead","head"]:List Str).Nodup:=by decide +kernel
theorem Zat:(["place","space","part"]:List Str).Nodup:=by decide +kernel
theorem Zaq:(["place","places"]:List Str).Nodup:=by decide +kernel
theorem u0:(["row","number","p","other"]:List Str).Nodup:=by decide +kernel
theorem jY:(["_law_line","_law_space_here","_law_other"]:List Str).Nodup:=by decide +kernel
theorem jM:(["row","space","other"]:List Str).Nodup:=by decide +kernel
theorem sc0:FnScope ["_law_script","_law_k"] ["_law_script","_law_k"] (Zl s0):=⟨rfl,rfl,rfl,by decide +kernel,rfl,by decide +kernel,by decide +kernel⟩
theorem sc1:FnScope ["_law_script","_law_k","_law_cell"] ["_law_script","_law_k"] (Zl s1):=⟨rfl,rfl,rfl,by decide +kernel,rfl,by decide +kernel,by decide +kernel⟩
theorem sc2:FnScope ["_law_state_here","_law_many","_law_found","_law_mixed"] ["_law_state_here","_law_many"] (Zl s2):=⟨rfl,rfl,rfl,by decide +kernel,rfl,by decide +kernel,by decide +kernel⟩
theorem sc3:FnScope ["_law_state_here","_law_most","_law_some"] ["_law_state_here","_law_most"] (Zl s3):=⟨rfl,rfl,rfl,by decide +kernel,rfl,by decide +kernel,by decide +kernel⟩
theorem sc4:FnScope ["_law_space_here","_law_one","_law_other","_law_often"] ["_law_space_here","_law_one","_law_other","_law_often"] (Zl s4):=⟨rfl,rfl,rfl,by decide +kernel,rfl,by decide +kernel,by decide +kernel⟩
theorem sc5:FnScope ["_law_space_here","_law_rows","_law_rest","_law_found","_law_place","_law_fit","_law_often","_law_one"] ["_law_space_here","_law_rows"] (Zl s5):=⟨rfl,rfl,rfl,by decide +kernel,rfl,by decide +kernel,by decide +kernel⟩
theorem sc6:FnScope ["_law_state_here","_law_space_here"] ["_law_state_here","_law_space_here"] (Zl s6):=⟨rfl,rfl,rfl,by decide +kernel,rfl,by decide +kernel,by decide +kernel⟩
theorem sc7:FnScope ["_law_state_here","_law_space_here","_law_many"] ["_law_state_here","_law_space_here"] (Zl s7):=⟨rfl,rfl,rfl,by decide +kernel,rfl,by decide +kernel,by decide +kernel⟩
theorem sc8:FnScope ["row","place","number"] ["row"] (Zl s8):=⟨rfl,rfl,rfl,by decide +kernel,rfl,by decide +kernel,by decide +kernel⟩
theorem sc9:FnScope ["things"] ["things"] (Zl s9):=⟨rfl,rfl,rfl,by decide +kernel,rfl,by decide +kernel,by decide +kernel⟩
theorem sc10:FnScope ["rows","place"] ["rows","place"] (Zl s10):=⟨rfl,rfl,rfl,by decide +kernel,rfl,by decide +kernel,by decide +kernel⟩
theorem sc11:FnScope ["rows","at","place"] ["rows","at","place"] (Zl s11):=⟨rfl,rfl,rfl,by decide +kernel,rfl,by decide +kernel,by decide +kernel⟩
theorem sc12:FnScope ["thing","least","greatest"] ["thing","least","greatest"] (Zl s12):=⟨rfl,rfl,rfl,by decide +kernel,rfl,by decide +kernel,by decide +kernel⟩
theorem sc13:FnScope ["space","thing","p","n"] ["space","thing"] (Zl s13):=⟨rfl,rfl,rfl,by decide +kernel,rfl,by decide +kernel,by decide +kernel⟩
theorem sc14:FnScope ["space","thing","places"] ["space","thing"] (Zl s14):=⟨rfl,rfl,rfl,by decide +kernel,rfl,by decide +kernel,by decide +kernel⟩
theorem sc15:FnScope ["space","thing"] ["space","thing"] (Zl s15):=⟨rfl,rfl,rfl,by decide +kernel,rfl,by decide +kernel,by decide +kernel⟩
theorem sc16:FnScope ["space","one","other"] ["space","one","other"] (Zl s16):=⟨rfl,rfl,rfl,by decide +kernel,rfl,by decide +kernel,by decide +kernel⟩
theorem sc17:FnScope ["p","row","other","number"] ["p","row","other","number"] (Zl s17):=⟨rfl,rfl,rfl,by decide +kernel,rfl,by decide +kernel,by decide +kernel⟩
theorem sc18:FnScope ["p","row","other","head"] ["p","row","other","head"] (Zl s18):=⟨rfl,rfl,rfl,by decide +kernel,rfl,by decide +kernel,by decide +kernel⟩
theorem sc19:FnScope ["space","part","row","p","n","rest","other"] ["space","part","row"] (Zl s19):=⟨rfl,rfl,rfl,by decide +kernel,rfl,by decide +kernel,by decide +kernel⟩
theorem sc20:FnScope ["p","row","number"] ["p","row","number"] (Zl s20):=⟨rfl,rfl,rfl,by decide +kernel,rfl,by decide +kernel,by decide +kernel⟩
theorem sc21:FnScope ["p","number","found"] ["p","number"] (Zl s21):=⟨rfl,rfl,rfl,by decide +kernel,rfl,by decide +kernel,by decide +kernel⟩
theorem sc22:FnScope ["space","part","row","p","n","rest","head","lead","rows"] ["space","part","row"] (Zl s22):=⟨rfl,rfl,rfl,by decide +kernel,rfl,by decide +kernel,by decide +kernel⟩
theorem sc23:FnScope ["space","part","rows","wider","row"] ["space","part","rows"] (Zl s23):=⟨rfl,rfl,rfl,by decide +kernel,rfl,by decide +kernel,by decide +kernel⟩
theorem sc24:FnScope ["space","one","other"] ["space","one","other"] (Zl s24):=⟨rfl,rfl,rfl,by decide +kernel,rfl,by decide +kernel,by decide +kernel⟩
theorem sc25:FnScope ["space","thing"] ["space","thing"] (Zl s25):=⟨rfl,rfl,rfl,by decide +kernel,rfl,by decide +kernel,by decide +kernel⟩
theorem sc26:FnScope ["space","rows","row"] ["space","rows"] (Zl s26):=⟨rfl,rfl,rfl,by decide +kernel,rfl,by decide +kernel,by decide +kernel⟩
theorem sc27:FnScope ["space","part","free","p","n","numbers","row"] ["space","part","free"] (Zl s27):=⟨rfl,rfl,rfl,by decide +kernel,rfl,by decide +kernel,by decide +kernel⟩
theorem sc28:FnScope ["space","part","p","n","places","free"] ["space","part"] (Zl s28):=⟨rfl,rfl,rfl,by decide +kernel,rfl,by decide +kernel,by decide +kernel⟩
theorem sc29:FnScope ["space","one","other"] ["space","one","other"] (Zl s29):=⟨rfl,rfl,rfl,by decide +kernel,rfl,by decide +kernel,by decide +kernel⟩
theorem sc30:FnScope ["space","part","row"] ["space","part","row"] (Zl s30):=⟨rfl,rfl,rfl,by decide +kernel,rfl,by decide +kernel,by decide +kernel⟩
theorem sc31:FnScope ["space","part","row"] ["space","part","row"] (Zl s31):=⟨rfl,rfl,rfl,by decide +kernel,rfl,by decide +kernel,by decide +kernel⟩
theorem sc32:FnScope ["space","part","p","n","rows","other"] ["space","part"] (Zl s32):=⟨rfl,rfl,rfl,by decide +kernel,rfl,by decide +kernel,by decide +kernel⟩
theorem sc33:FnScope ["_law_space_here","_law_one","_law_other","_law_third","_law_row","_law_wide","_law_both"] ["_law_space_here","_law_one","_law_other","_law_third","_law_row"] (Zl s33):=⟨rfl,rfl,rfl,by decide +kernel,rfl,by decide +kernel,by decide +kernel⟩
theorem sc34:FnScope ["space","one","other"] ["space","one","other"] (Zl s34):=⟨rfl,rfl,rfl,by decide +kernel,rfl,by decide +kernel,by decide +kernel⟩
theorem sc35:FnScope ["space","one","other"] ["space","one","other"] (Zl s35):=⟨rfl,rfl,rfl,by decide +kernel,rfl,by decide +kernel,by decide +kernel⟩
theorem sc36:FnScope ["space","one","other","row"] ["space","one","other"] (Zl s36):=⟨rfl,rfl,rfl,by decide +kernel,rfl,by decide +kernel,by decide +kernel⟩
theorem sc37:FnScope ["_law_space_here","_law_one","_law_other","_law_up","_law_down","_law_part_here","_law_lies","_law_row"] ["_law_space_here","_law_one","_law_other"] (Zl s37):=⟨rfl,rfl,rfl,by decide +kernel,rfl,by decide +kernel,by decide +kernel⟩
theorem sc38:FnScope ["_law_script","_law_k","_law_state_here","_law_space_here","_law_one","_law_other","_law_third"] ["_law_script"] (Zl s38):=⟨rfl,rfl,rfl,by decide +kernel,rfl,by decide +kernel,by decide +kernel⟩
def Ym:Nat->List Str
 |0=>["_law_script","_law_k"]
 |1=>["_law_script","_law_k"]
 |2=>["_law_state_here","_law_many"]
 |3=>["_law_state_here","_law_most"]
 |4=>["_law_space_here","_law_one","_law_other","_law_often"]
 |5=>["_law_space_here","_law_rows"]
 |6=>["_law_state_here","_law_space_here"]
 |7=>["_law_state_here","_law_space_here"]
 |8=>["row"]
 |9=>["things"]
 |10=>["rows","place"]
 |11=>["rows","at","place"]
 |12=>["thing","least","greatest"]
 |13=>["space","thing"]
 |14=>["space","thing"]
 |15=>["space","thing"]
 |16=>["space","one","other"]
 |17=>["p","row","other","number"]
 |18=>["p","row","other","head"]
 |19=>["space","part","row"]
 |20=>["p","row","number"]
 |21=>["p","number"]
 |22=>["space","part","row"]
 |23=>["space","part","rows"]
 |24=>["space","one","other"]
 |25=>["space","thing"]
 |26=>["space","rows"]
 |27=>["space","part","free"]
 |28=>["space","part"]
 |29=>["space","one","other"]
 |30=>["space","part","row"]
 |31=>["space","part","row"]
 |32=>["space","part"]
 |33=>["_law_space_here","_law_one","_law_other","_law_third","_law_row"]
 |34=>["space","one","other"]
 |35=>["space","one","other"]
 |36=>["space","one","other"]
 |37=>["_law_space_here","_law_one","_law_other"]
 |38=>["_law_script"]
 |_=>[]
structure Top (P:Program) (w:World) (K:PySem.W.Frag) (mg:Str->Option Value) (f:Nat->Addr) (fd:Nat->FuncData)  : Prop where
 d0:Fun K "_law_cell_at" "_law_cell_at" s0 (f 0) (fd 0)
 b0:Binds K (fd 0) (Ym 0) []
 m0:mg "_law_cell_at" = some (.ref (f 0))
 d1:Fun K "_law_state" "_law_state" s1 (f 1) (fd 1)
 b1:Binds K (fd 1) (Ym 1) []
 m1:mg "_law_state" = some (.ref (f 1))
 d2:Fun K "_law_take" "_law_take" s2 (f 2) (fd 2)
 b2:Binds K (fd 2) (Ym 2) []
 m2:mg "_law_take" = some (.ref (f 2))
 d3:Fun K "_law_space" "_law_space" s3 (f 3) (fd 3)
 b3:Binds K (fd 3) (Ym 3) []
 m3:mg "_law_space" = some (.ref (f 3))
 d4:Fun K "_law_plus" "_law_plus" s4 (f 4) (fd 4)
 b4:Binds K (fd 4) (Ym 4) []
 m4:mg "_law_plus" = some (.ref (f 4))
 d5:Fun K "_law_reduced" "_law_reduced" s5 (f 5) (fd 5)
 b5:Binds K (fd 5) (Ym 5) []
 m5:mg "_law_reduced" = some (.ref (f 5))
 d6:Fun K "_law_row_of" "_law_row_of" s6 (f 6) (fd 6)
 b6:Binds K (fd 6) (Ym 6) []
 m6:mg "_law_row_of" = some (.ref (f 6))
 d7:Fun K "_law_part" "_law_part" s7 (f 7) (fd 7)
 b7:Binds K (fd 7) (Ym 7) []
 m7:mg "_law_part" = some (.ref (f 7))
 d8:Fun K "head_of" "head_of" s8 (f 8) (fd 8)
 b8:Binds K (fd 8) (Ym 8) []
 m8:mg "head_of" = some (.ref (f 8))
 d9:Fun K "is_rising" "is_rising" s9 (f 9) (fd 9)
 b9:Binds K (fd 9) (Ym 9) []
 m9:mg "is_rising" = some (.ref (f 9))
 d10:Fun K "noughts_at" "noughts_at" s10 (f 10) (fd 10)
 b10:Binds K (fd 10) (Ym 10) []
 m10:mg "noughts_at" = some (.ref (f 10))
 d11:Fun K "stands_alone" "stands_alone" s11 (f 11) (fd 11)
 b11:Binds K (fd 11) (Ym 11) []
 m11:mg "stands_alone" = some (.ref (f 11))
 d12:Fun K "is_whole" "is_whole" s12 (f 12) (fd 12)
 b12:Binds K (fd 12) (Ym 12) []
 m12:mg "is_whole" = some (.ref (f 12))
 d13:Fun K "is_row" "is_row" s13 (f 13) (fd 13)
 b13:Binds K (fd 13) (Ym 13) []
 m13:mg "is_row" = some (.ref (f 13))
 d14:Fun K "is_part" "is_part" s14 (f 14) (fd 14)
 b14:Binds K (fd 14) (Ym 14) []
 m14:mg "is_part" = some (.ref (f 14))
 d15:Fun K "need_part" "need_part" s15 (f 15) (fd 15)
 b15:Binds K (fd 15) (Ym 15) []
 m15:mg "need_part" = some (.ref (f 15))
 d16:Fun K "need_parts" "need_parts" s16 (f 16) (fd 16)
 b16:Binds K (fd 16) (Ym 16) []
 m16:mg "need_parts" = some (.ref (f 16))
 d17:Fun K "plus_times" "plus_times" s17 (f 17) (fd 17)
 b17:Binds K (fd 17) (Ym 17) []
 m17:mg "plus_times" = some (.ref (f 17))
 d18:Fun K "cleared" "cleared" s18 (f 18) (fd 18)
 b18:Binds K (fd 18) (Ym 18) []
 m18:mg "cleared" = some (.ref (f 18))
 d19:Fun K "left_over" "left_over" s19 (f 19) (fd 19)
 b19:Binds K (fd 19) (Ym 19) []
 m19:mg "left_over" = some (.ref (f 19))
 d20:Fun K "times" "times" s20 (f 20) (fd 20)
 b20:Binds K (fd 20) (Ym 20) []
 m20:mg "times" = some (.ref (f 20))
 d21:Fun K "inverse" "inverse" s21 (f 21) (fd 21)
 b21:Binds K (fd 21) (Ym 21) []
 m21:mg "inverse" = some (.ref (f 21))
 d22:Fun K "widened" "widened" s22 (f 22) (fd 22)
 b22:Binds K (fd 22) (Ym 22) []
 m22:mg "widened" = some (.ref (f 22))
 d23:Fun K "widened_by_all" "widened_by_all" s23 (f 23) (fd 23)
 b23:Binds K (fd 23) (Ym 23) []
 m23:mg "widened_by_all" = some (.ref (f 23))
 d24:Fun K "joined" "joined" s24 (f 24) (fd 24)
 b24:Binds K (fd 24) (Ym 24) []
 m24:mg "joined" = some (.ref (f 24))
 d25:Fun K "need_row" "need_row" s25 (f 25) (fd 25)
 b25:Binds K (fd 25) (Ym 25) []
 m25:mg "need_row" = some (.ref (f 25))
 d26:Fun K "spanned" "spanned" s26 (f 26) (fd 26)
 b26:Binds K (fd 26) (Ym 26) []
 m26:mg "spanned" = some (.ref (f 26))
 d27:Fun K "row_against" "row_against" s27 (f 27) (fd 27)
 b27:Binds K (fd 27) (Ym 27) []
 m27:mg "row_against" = some (.ref (f 27))
 d28:Fun K "against" "against" s28 (f 28) (fd 28)
 b28:Binds K (fd 28) (Ym 28) []
 m28:mg "against" = some (.ref (f 28))
 d29:Fun K "met" "met" s29 (f 29) (fd 29)
 b29:Binds K (fd 29) (Ym 29) []
 m29:mg "met" = some (.ref (f 29))
 d30:Fun K "has_row" "has_row" s30 (f 30) (fd 30)
 b30:Binds K (fd 30) (Ym 30) []
 m30:mg "has_row" = some (.ref (f 30))
 d31:Fun K "holds" "holds" s31 (f 31) (fd 31)
 b31:Binds K (fd 31) (Ym 31) []
 m31:mg "holds" = some (.ref (f 31))
 d32:Fun K "rows_of" "rows_of" s32 (f 32) (fd 32)
 b32:Binds K (fd 32) (Ym 32) []
 m32:mg "rows_of" = some (.ref (f 32))
 d33:Fun K "_law_three_right" "_law_three_right" s33 (f 33) (fd 33)
 b33:Binds K (fd 33) (Ym 33) []
 m33:mg "_law_three_right" = some (.ref (f 33))
 d34:Fun K "is_within" "is_within" s34 (f 34) (fd 34)
 b34:Binds K (fd 34) (Ym 34) []
 m34:mg "is_within" = some (.ref (f 34))
 d35:Fun K "lies_in" "lies_in" s35 (f 35) (fd 35)
 b35:Binds K (fd 35) (Ym 35) []
 m35:mg "lies_in" = some (.ref (f 35))
 d36:Fun K "first_beyond" "first_beyond" s36 (f 36) (fd 36)
 b36:Binds K (fd 36) (Ym 36) []
 m36:mg "first_beyond" = some (.ref (f 36))
 d37:Fun K "_law_two_right" "_law_two_right" s37 (f 37) (fd 37)
 b37:Binds K (fd 37) (Ym 37) []
 m37:mg "_law_two_right" = some (.ref (f 37))
 d38:Fun K "law" "law" s38 (f 38) (fd 38)
 b38:Binds K (fd 38) (Ym 38) []
 m38:mg "law" = some (.ref (f 38))
 z_all:mg "all" = none
 z_bool:mg "bool" = none
 z_enumerate:mg "enumerate" = none
 z_int:mg "int" = none
 z_isinstance:mg "isinstance" = none
 z_len:mg "len" = none
 z_list:mg "list" = none
 z_max:mg "max" = none
 z_min:mg "min" = none
 z_range:mg "range" = none
 z_sorted:mg "sorted" = none
 z_tuple:mg "tuple" = none
 z_zip:mg "zip" = none
section
variable {P:Program}{w:World}{K:PySem.W.Frag}{mg:Str->Option Value}{base:Heap}{f:Nat->Addr}{fd:Nat->FuncData}
def All (P:Program) (w:World) (K:PySem.W.Frag) (mg:Str->Option Value) (base:Heap) (f:Nat->Addr) (fd:Nat->FuncData) (d:Nat):Prop:=∀i,i<39->FnOk P w K mg base CX0 d (f i) (fd i) (Ym i) (spF K (Ev.calls fns d) i)
abbrev OK (P:Program) (w:World) (K:PySem.W.Frag) (mg:Str->Option Value) (base:Heap) (f:Nat->Addr) (fd:Nat->FuncData) (d n:Nat):Prop:=FnOk P w K mg base CX0 (d+1) (f n) (fd n) (Ym n) (spF K (Ev.calls fns (d+1)) n)
section
variable (T:Top P w K mg f fd) {d:Nat}(h:All P w K mg base f fd d)
include T h
theorem ok0:OK P w K mg base f fd d 0:=
 ZC (P:=P) (w:=w) (base:=base) (F:=fns) (n:=0) (d:=d) (k:=d) (fn:=f__law_cell_at) (N:=["_law_script","_law_k"]) (ps:=["_law_script","_law_k"]) rfl rfl rfl T.d0 sc0 λcdv A outer s H E hr=>by
  have hu:=hu7 hr;exact (Ze (Yl (ZY (xF hu) (Zd 1) (Yf Xx T.z_len (Za (Zd 0) Zf Zb))) (Ze (Zx (Z9 (Zd 0) (Zd 1)))
  Zq) Zq)
  (Ze (Zx Zr)
  Zq))
theorem ok1:OK P w K mg base f fd d 1:=
 ZC (P:=P) (w:=w) (base:=base) (F:=fns) (n:=1) (d:=d) (k:=d) (fn:=f__law_state) (N:=["_law_script","_law_k","_law_cell"]) (ps:=["_law_script","_law_k"]) rfl rfl rfl T.d1 sc1 λcdv A outer s H E hr=>by
  have hu:=hu7 hr;exact (Ze (ZL (Zm (h 0 (by decide)) hr T.m0 T.d0.kp T.b0 (Za (Zd 0) (Za (Zd 1) Zf Zb) Zb)) (Zs sc1.nd))
  (Ze (Yl (ZY (u5 hu) (Zd 2) (Je Zr Zr)) (Ze (Zx (Xd (Za (JH (Zd 2) (Je Zr Zr)) (Za YF Zf Zt) Wf)))
  Zq) Zq)
  (Ze (Zx (Xd (Za (YM (Zd 2) Zr) (Za YF Zf Zt) Wf)))
  Zq)))
theorem ok2:OK P w K mg base f fd d 2:=
 ZC (P:=P) (w:=w) (base:=base) (F:=fns) (n:=2) (d:=d) (k:=d) (fn:=f__law_take) (N:=["_law_state_here","_law_many","_law_found","_law_mixed"]) (ps:=["_law_state_here","_law_many"]) rfl rfl rfl T.d2 sc2 λcdv A outer s H E hr=>by
  have hu:=hu7 hr;exact (Ze (Yl (Yx (Z9 (Zd 0) Zr)) (Ze (ZL (YM (Z9 (Zd 0) Zr) (Zd 1)) (Zs sc2.nd))
  (Ze (VS (Zd 0) Zr (UD (Z9 (Zd 0) Zr) (Zd 1)))
  (Ze (Zx (Zd 2))
  Zq))) Zq)
  (Ze (VS (Zd 0) Zr (YM (Yy (YR (Z9 (Zd 0) Zr) Zr) Zr) Zr))
  (Ze (ZL (YM (Yy (Yy (YR (Z9 (Zd 0) Zr) (Z9 (Zd 0) Zr)) (YR Zr (Z9 (Zd 0) Zr))) Zr) Zr) (Zs sc2.nd))
  (Ze (ZL (YM (Yy (YR (Zd 3) (Zd 3)) (YR Zr (Zd 3))) Zr) (Zs sc2.nd))
  (Ze (Zx (YM (UD (Zd 3) Zr) (Zd 1)))
  Zq)))))
theorem ok3:OK P w K mg base f fd d 3:=
 ZC (P:=P) (w:=w) (base:=base) (F:=fns) (n:=3) (d:=d) (k:=d) (fn:=f__law_space) (N:=["_law_state_here","_law_most","_law_some"]) (ps:=["_law_state_here","_law_most"]) rfl rfl rfl T.d3 sc3 λcdv A outer s H E hr=>by
  have hu:=hu7 hr;exact (Ze (ZL (Xd (Za (ZT (Za Zr (Za (ZT (Za Zr (Za Zr Zf Zt) Zt)) Zf Z4) Zt)) (Za (ZT (Za Zr (Za (ZT (Za Zr (Za Zr Zf Zt) Zt)) Zf Z4) Zt)) (Za (ZT (Za Zr (Za (ZT (Za Zr (Za Zr Zf Zt) Zt)) Zf Z4) Zt)) (Za (ZT (Za Zr (Za (ZT (Za Zr (Za Zr Zf Zt) Zt)) Zf Z4) Zt)) (Za (ZT (Za Zr (Za (ZT (Za Zr (Za Zr Zf Zt) Zt)) Zf Z4) Zt)) (Za (ZT (Za Zr (Za (ZT (Za Zr (Za Zr Zf Zt) Zt)) Zf Z4) Zt)) (Za (ZT (Za Zr (Za (ZT (Za Zr (Za Zr Zf Zt) Zt)) Zf Z4) Zt)) (Za (ZT (Za Zr (Za (ZT (Za Zr (Za Zr Zf Zt) Zt)) Zf Z4) Zt)) Zf Z4) Z4) Z4) Z4) Z4) Z4) Z4) Z4)) (Zs sc3.nd))
  (Ze (ZL (Yy (Zd 2) (Xd (Za (ZT (Za Zr (Za (ZT (Za Zr (Za Zr Zf Zt) Zt)) Zf Z4) Zt)) (Za (ZT (Za Zr (Za (ZT (Za Zr (Za Zr Zf Zt) Zt)) Zf Z4) Zt)) (Za (ZT (Za Zr (Za (ZT (Za Zr (Za Zr Zf Zt) Zt)) Zf Z4) Zt)) (Za (ZT (Za Zr (Za (ZT (Za Zr (Za Zr Zf Zt) Zt)) Zf Z4) Zt)) (Za (ZT (Za Zr (Za (ZT (Za Zr (Za Zr Zf Zt) Zt)) Zf Z4) Zt)) Zf Z4) Z4) Z4) Z4) Z4))) (Zs sc3.nd))
  (Ze (XF (N:=["_law_rows","_law_space_here","_law_most"]) rfl sc3.nd (by show CompScope (Zl s3) ["_law_state_here","_law_most","_law_some"] _ _ _ _;exact⟨rfl,by decide +kernel,by decide +kernel,by decide +kernel,by decide +kernel,rfl,by decide +kernel⟩) (Yq (Zd 2)) (λ_ _ _ _=>⟨(YQ rfl (ZE jQ (ZE jQ Yo))),(Wa (ZY (zT hu) (Zd 0) (Zd 2))),(Zd 1)⟩))
  (Ze (Zx (Z9 (Zd 2) (Zm (h 2 (by decide)) hr T.m2 T.d2.kp T.b2 (Za (Zd 0) (Za (Yf Xx T.z_len (Za (Zd 2) Zf Zb)) Zf ZZ) Zb))))
  Zq))))
theorem ok4:OK P w K mg base f fd d 4:=
 ZC (P:=P) (w:=w) (base:=base) (F:=fns) (n:=4) (d:=d) (k:=d) (fn:=f__law_plus) (N:=["_law_space_here","_law_one","_law_other","_law_often"]) (ps:=["_law_space_here","_law_one","_law_other","_law_often"]) rfl rfl rfl T.d4 sc4 λcdv A outer s H E hr=>by
  have hu:=hu7 hr;exact (Ze (Zx (Yt YC T.z_tuple (Za (ZP (N:=["_law_first","_law_second","_law_often","_law_space_here"]) rfl sc4.nd (by show CompScope (Zl s4) ["_law_space_here","_law_one","_law_other","_law_often"] _ _ _ _;exact⟨rfl,by decide +kernel,by decide +kernel,by decide +kernel,by decide +kernel,rfl,by decide +kernel⟩) (Qa T.z_zip (Za (Zd 1) (Za (Zd 2) Zf Zb) Zb)) (λ_ _ _ _=>⟨(YQ rfl (ZE Zah (ZE Zah Yo))),Z1,(YM (Yy (Zd 0) (YR (Zd 2) (Zd 1))) (Z9 (Zd 3) Zr))⟩)) Zf Yv)))
  Zq)
theorem ok5:OK P w K mg base f fd d 5:=
 ZC (P:=P) (w:=w) (base:=base) (F:=fns) (n:=5) (d:=d) (k:=d) (fn:=f__law_reduced) (N:=["_law_space_here","_law_rows","_law_rest","_law_found","_law_place","_law_fit","_law_often","_law_one"]) (ps:=["_law_space_here","_law_rows"]) rfl rfl rfl T.d5 sc5 λcdv A outer s H E hr=>by
  have hu:=hu7 hr;exact (Ze (ZL (Yt Vf T.z_list (Za (Zd 1) Zf Zb)) (Zs sc5.nd))
  (Ze (ZL (Xd Zf) (Zs sc5.nd))
  (Ze (Xm PassesOwn.never rfl (Xe T.z_range (Za (Z9 (Zd 0) Zr) Zf WF)) (Zs sc5.nd) (Ze (ZL (ZP (N:=["_law_row","_law_place"]) rfl sc5.nd (by show CompScope (Zl s5) ["_law_space_here","_law_rows","_law_rest","_law_found","_law_place","_law_fit","_law_often","_law_one"] _ _ _ _;exact⟨rfl,by decide +kernel,by decide +kernel,by decide +kernel,by decide +kernel,rfl,by decide +kernel⟩) (Yq (Zd 2)) (λ_ _ _ _=>⟨(Zs ZaO),(Wa (ZY (Y4 hu) (Z9 (Zd 0) (Zd 1)) Zr)),(Zd 0)⟩)) (Zs sc5.nd))
  (Ze (Yl (ZY (Y4 hu) (Zd 5) (Xd Zf)) (Ze (ZL (Z9 (ZP (N:=["_law_number","_law_fit","_law_place","_law_space_here"]) rfl sc5.nd (by show CompScope (Zl s5) ["_law_space_here","_law_rows","_law_rest","_law_found","_law_place","_law_fit","_law_often","_law_one"] _ _ _ _;exact⟨rfl,by decide +kernel,by decide +kernel,by decide +kernel,by decide +kernel,rfl,by decide +kernel⟩) (Xe T.z_range (Za (Z9 (Zd 0) Zr) Zf WF)) (λ_ _ _ _=>⟨(Zs Za4),(Wa (ZY (Uf hu) (YM (YR (Zd 0) (Z9 (Z9 (Zd 1) Zr) (Zd 2))) (Z9 (Zd 3) Zr)) Zr)),(Zd 0)⟩)) Zr) (Zs sc5.nd))
  (Ze (ZL (Yt YC T.z_tuple (Za (ZP (N:=["_law_number","_law_often","_law_space_here"]) rfl sc5.nd (by show CompScope (Zl s5) ["_law_space_here","_law_rows","_law_rest","_law_found","_law_place","_law_fit","_law_often","_law_one"] _ _ _ _;exact⟨rfl,by decide +kernel,by decide +kernel,by decide +kernel,by decide +kernel,rfl,by decide +kernel⟩) (Yq (Z9 (Zd 5) Zr)) (λ_ _ _ _=>⟨(Zs ZaE),Z1,(YM (YR (Zd 1) (Zd 0)) (Z9 (Zd 2) Zr))⟩)) Zf Yv)) (Zs sc5.nd))
  (Ze (XF (N:=["_law_row","_law_space_here","_law_one","_law_place"]) rfl sc5.nd (by show CompScope (Zl s5) ["_law_space_here","_law_rows","_law_rest","_law_found","_law_place","_law_fit","_law_often","_law_one"] _ _ _ _;exact⟨rfl,by decide +kernel,by decide +kernel,by decide +kernel,by decide +kernel,rfl,by decide +kernel⟩) (Yq (Zd 2)) (λ_ _ _ _=>⟨(Zs Zaa),Z1,(Zm (h 4 (by decide)) hr T.m4 T.d4.kp T.b4 (Za (Zd 1) (Za (Zd 0) (Za (Zd 2) (Za (VW (Z9 (Zd 0) (Zd 3))) Zf z7) Zb) Zb) Zb))⟩))
  (Ze (ZL (Yy (ZP (N:=["_law_row","_law_space_here","_law_one","_law_place"]) rfl sc5.nd (by show CompScope (Zl s5) ["_law_space_here","_law_rows","_law_rest","_law_found","_law_place","_law_fit","_law_often","_law_one"] _ _ _ _;exact⟨rfl,by decide +kernel,by decide +kernel,by decide +kernel,by decide +kernel,rfl,by decide +kernel⟩) (Yq (Zd 3)) (λ_ _ _ _=>⟨(Zs Zaa),Z1,(Zm (h 4 (by decide)) hr T.m4 T.d4.kp T.b4 (Za (Zd 1) (Za (Zd 0) (Za (Zd 2) (Za (VW (Z9 (Zd 0) (Zd 3))) Zf z7) Zb) Zb) Zb))⟩)) (Xd (Za (Zd 7) Zf Zb))) (Zs sc5.nd))
  Zq)))) Zq)
  Zq)))
  (Ze (Zx (Yt YC T.z_tuple (Za (Zd 3) Zf Zb)))
  Zq))))
theorem ok6:OK P w K mg base f fd d 6:=
 ZC (P:=P) (w:=w) (base:=base) (F:=fns) (n:=6) (d:=d) (k:=d) (fn:=f__law_row_of) (N:=["_law_state_here","_law_space_here"]) (ps:=["_law_state_here","_law_space_here"]) rfl rfl rfl T.d6 sc6 λcdv A outer s H E hr=>by
  have hu:=hu7 hr;exact (Ze (Zx (Yt YC T.z_tuple (Za (ZP (N:=["_law_place","_law_state_here","_law_space_here"]) rfl sc6.nd (by show CompScope (Zl s6) ["_law_state_here","_law_space_here"] _ _ _ _;exact⟨rfl,by decide +kernel,by decide +kernel,by decide +kernel,by decide +kernel,rfl,by decide +kernel⟩) (Xe T.z_range (Za (Z9 (Zd 1) Zr) Zf WF)) (λ_ _ _ _=>⟨(Zs ZaJ),Z1,(Zm (h 2 (by decide)) hr T.m2 T.d2.kp T.b2 (Za (Zd 1) (Za (Z9 (Zd 2) Zr) Zf WF) Zb))⟩)) Zf Yv)))
  Zq)
theorem ok7:OK P w K mg base f fd d 7:=
 ZC (P:=P) (w:=w) (base:=base) (F:=fns) (n:=7) (d:=d) (k:=d) (fn:=f__law_part) (N:=["_law_state_here","_law_space_here","_law_many"]) (ps:=["_law_state_here","_law_space_here"]) rfl rfl rfl T.d7 sc7 λcdv A outer s H E hr=>by
  have hu:=hu7 hr;exact (Ze (ZL (Zm (h 2 (by decide)) hr T.m2 T.d2.kp T.b2 (Za (Zd 0) (Za (Yy (Z9 (Zd 1) Zr) Zr) Zf Wf) Zb)) (Zs sc7.nd))
  (Ze (Zx (Zm (h 5 (by decide)) hr T.m5 T.d5.kp T.b5 (Za (Zd 1) (Za (ZP (N:=["_law_turn","_law_state_here","_law_space_here"]) rfl sc7.nd (by show CompScope (Zl s7) ["_law_state_here","_law_space_here","_law_many"] _ _ _ _;exact⟨rfl,by decide +kernel,by decide +kernel,by decide +kernel,by decide +kernel,rfl,by decide +kernel⟩) (Xe T.z_range (Za (Zd 2) Zf Zb)) (λ_ _ _ _=>⟨(Zs jT),Z1,(Zm (h 6 (by decide)) hr T.m6 T.d6.kp T.b6 (Za (Zd 1) (Za (Zd 2) Zf Zb) Zb))⟩)) Zf Yv) Zb)))
  Zq))
theorem ok8:OK P w K mg base f fd d 8:=
 ZC (P:=P) (w:=w) (base:=base) (F:=fns) (n:=8) (d:=d) (k:=d) (fn:=VZ) (N:=["row","place","number"]) (ps:=["row"]) rfl rfl rfl T.d8 sc8 λcdv A outer s H E hr=>by
  have hu:=hu7 hr;exact (Ze (Xm PassesOwn.never rfl (Uw T.z_enumerate (Za (Zd 0) Zf Zb)) (YQ rfl (ZE sc8.nd (ZE sc8.nd Yo))) (Ze (Yl (ZY (Y4 hu) (Zd 2) Zr) (Ze (Zx (Zd 1))
  Zq) Zq)
  Zq))
  (Ze (Zx WD)
  Zq))
theorem ok9:OK P w K mg base f fd d 9:=
 ZC (P:=P) (w:=w) (base:=base) (F:=fns) (n:=9) (d:=d) (k:=d) (fn:=XL) (N:=["things"]) (ps:=["things"]) rfl rfl rfl T.d9 sc9 λcdv A outer s H E hr=>by
  have hu:=hu7 hr;exact (Ze (Zx (Yf (Wo rfl) T.z_all (Za (ZP (N:=["one","other"]) rfl sc9.nd (by show CompScope (Zl s9) ["things"] _ _ _ _;exact⟨rfl,by decide +kernel,by decide +kernel,by decide +kernel,by decide +kernel,rfl,by decide +kernel⟩) (Qa T.z_zip (Za (Zd 0) (Za (Ge (Zd 0) (Vq Zr) Vn) Zf WF) Zb)) (λ_ _ _ _=>⟨(YQ rfl (ZE Zac (ZE Zac Yo))),Z1,(XX (xF hu) (Zd 0) (Zd 1))⟩)) Zf Yv)))
  Zq)
theorem ok10:OK P w K mg base f fd d 10:=
 ZC (P:=P) (w:=w) (base:=base) (F:=fns) (n:=10) (d:=d) (k:=d) (fn:=Xs) (N:=["rows","place"]) (ps:=["rows","place"]) rfl rfl rfl T.d10 sc10 λcdv A outer s H E hr=>by
  have hu:=hu7 hr;exact (Ze (Zx (Yf (Wo rfl) T.z_all (Za (ZP (N:=["row","place"]) rfl sc10.nd (by show CompScope (Zl s10) ["rows","place"] _ _ _ _;exact⟨rfl,by decide +kernel,by decide +kernel,by decide +kernel,by decide +kernel,rfl,by decide +kernel⟩) (Yq (Zd 0)) (λ_ _ _ _=>⟨(Zs ZaI),Z1,(XX (Uf hu) (Z9 (Zd 0) (Zd 1)) Zr)⟩)) Zf Yv)))
  Zq)
theorem ok11:OK P w K mg base f fd d 11:=
 ZC (P:=P) (w:=w) (base:=base) (F:=fns) (n:=11) (d:=d) (k:=d) (fn:=Y2) (N:=["rows","at","place"]) (ps:=["rows","at","place"]) rfl rfl rfl T.d11 sc11 λcdv A outer s H E hr=>by
  have hu:=hu7 hr;exact (Ze (Zx (WM (XX (Uf hu) (Z9 (Z9 (Zd 0) (Zd 1)) (Zd 2)) Zr) (VL (Zm (h 10 (by decide)) hr T.m10 T.d10.kp T.b10 (Za (Yy (Ge (Zd 0) Vn (Vq (Zd 1))) (Ge (Zd 0) (Vq (Yy (Zd 1) Zr)) Vn)) (Za (Zd 2) Zf Zb) Wf)))))
  Zq)
theorem ok12:OK P w K mg base f fd d 12:=
 ZC (P:=P) (w:=w) (base:=base) (F:=fns) (n:=12) (d:=d) (k:=d) (fn:=Wb) (N:=["thing","least","greatest"]) (ps:=["thing","least","greatest"]) rfl rfl rfl T.d12 sc12 λcdv A outer s H E hr=>by
  have hu:=hu7 hr;exact (Ze (Zx (WM (VQ (t:=.int) (by intro m h;cases h) T.z_isinstance T.z_int (Zd 0)) (WM (UJ (VQ (t:=.bool) (by intro m h;cases h) T.z_isinstance T.z_bool (Zd 0))) (VL (U9 (zT hu) (zT hu) (Zd 1) (Zd 0) (Zd 2))))))
  Zq)
theorem ok13:OK P w K mg base f fd d 13:=
 ZC (P:=P) (w:=w) (base:=base) (F:=fns) (n:=13) (d:=d) (k:=d) (fn:=Ql) (N:=["space","thing","p","n"]) (ps:=["space","thing"]) rfl rfl rfl T.d13 sc13 λcdv A outer s H E hr=>by
  have hu:=hu7 hr;exact (Ze (ZL (Zd 0) (YQ rfl (ZE sc13.nd (ZE sc13.nd Yo))))
  (Ze (Yl (CWh.ct (Ws (YO (Yx (VQ (t:=.tuple) (by intro m h;cases h) T.z_isinstance T.z_tuple (Zd 1)))) (Xl (ZY (Y4 hu) (Yf Xx T.z_len (Za (Zd 1) Zf Zb)) (Zd 3))))) (Ze (Zx YF)
  Zq) Zq)
  (Ze (Zx (Yf (Wo rfl) T.z_all (Za (ZP (N:=["number","p"]) rfl sc13.nd (by show CompScope (Zl s13) ["space","thing","p","n"] _ _ _ _;exact⟨rfl,by decide +kernel,by decide +kernel,by decide +kernel,by decide +kernel,rfl,by decide +kernel⟩) (Yq (Zd 1)) (λ_ _ _ _=>⟨(Zs Zak),Z1,(Zm (h 12 (by decide)) hr T.m12 T.d12.kp T.b12 (Za (Zd 0) (Za Zr (Za (JH (Zd 1) Zr) Zf Wf) Zt) Zb))⟩)) Zf Yv)))
  Zq)))
theorem ok14:OK P w K mg base f fd d 14:=
 ZC (P:=P) (w:=w) (base:=base) (F:=fns) (n:=14) (d:=d) (k:=d) (fn:=VU) (N:=["space","thing","places"]) (ps:=["space","thing"]) rfl rfl rfl T.d14 sc14 λcdv A outer s H E hr=>by
  have hu:=hu7 hr;exact (Ze (Yl (CWh.ct (Ws (YO (Yx (VQ (t:=.tuple) (by intro m h;cases h) T.z_isinstance T.z_tuple (Zd 1)))) (Xl (YO (Yx (Yf (Wo rfl) T.z_all (Za (ZP (N:=["row","space"]) rfl sc14.nd (by show CompScope (Zl s14) ["space","thing","places"] _ _ _ _;exact⟨rfl,by decide +kernel,by decide +kernel,by decide +kernel,by decide +kernel,rfl,by decide +kernel⟩) (Yq (Zd 1)) (λ_ _ _ _=>⟨(Zs Zad),Z1,(Zm (h 13 (by decide)) hr T.m13 T.d13.kp T.b13 (Za (Zd 1) (Za (Zd 0) Zf Zb) Zb))⟩)) Zf Yv))))))) (Ze (Zx YF)
  Zq) Zq)
  (Ze (XF (N:=["row"]) rfl sc14.nd (by show CompScope (Zl s14) ["space","thing","places"] _ _ _ _;exact⟨rfl,by decide +kernel,by decide +kernel,by decide +kernel,by decide +kernel,rfl,by decide +kernel⟩) (Yq (Zd 1)) (λ_ _ _ _=>⟨(Zs qj),Z1,(Zm (h 8 (by decide)) hr T.m8 T.d8.kp T.b8 (Za (Zd 0) Zf Zb))⟩))
  (Ze (Yl (CWh.ct (Ws (ZY (qg hu) WD (Zd 2)) (Xl (YO (Yx (Zm (h 9 (by decide)) hr T.m9 T.d9.kp T.b9 (Za (Zd 2) Zf Zb))))))) (Ze (Zx YF)
  Zq) Zq)
  (Ze (Zx (Yf (Wo rfl) T.z_all (Za (ZP (N:=["at","place","thing"]) rfl sc14.nd (by show CompScope (Zl s14) ["space","thing","places"] _ _ _ _;exact⟨rfl,by decide +kernel,by decide +kernel,by decide +kernel,by decide +kernel,rfl,by decide +kernel⟩) (Uw T.z_enumerate (Za (Zd 2) Zf Zb)) (λ_ _ _ _=>⟨(YQ rfl (ZE u6 (ZE u6 Yo))),Z1,(Zm (h 11 (by decide)) hr T.m11 T.d11.kp T.b11 (Za (Zd 2) (Za (Zd 0) (Za (Zd 1) Zf Zb) Zb) Zb))⟩)) Zf Yv)))
  Zq))))
theorem ok15:OK P w K mg base f fd d 15:=
 ZC (P:=P) (w:=w) (base:=base) (F:=fns) (n:=15) (d:=d) (k:=d) (fn:=XQ) (N:=["space","thing"]) (ps:=["space","thing"]) rfl rfl rfl T.d15 sc15 λcdv A outer s H E hr=>by
  have hu:=hu7 hr;exact (Ze (Yl (YO (Yx (Zm (h 14 (by decide)) hr T.m14 T.d14.kp T.b14 (Za (Zd 0) (Za (Zd 1) Zf Zb) Zb)))) (Ze WA
  Zq) Zq)
  Zq)
theorem ok16:OK P w K mg base f fd d 16:=
 ZC (P:=P) (w:=w) (base:=base) (F:=fns) (n:=16) (d:=d) (k:=d) (fn:=Xv) (N:=["space","one","other"]) (ps:=["space","one","other"]) rfl rfl rfl T.d16 sc16 λcdv A outer s H E hr=>by
  have hu:=hu7 hr;exact (Ze (YB (Zm (h 15 (by decide)) hr T.m15 T.d15.kp T.b15 (Za (Zd 0) (Za (Zd 1) Zf Zb) Zb)))
  (Ze (YB (Zm (h 15 (by decide)) hr T.m15 T.d15.kp T.b15 (Za (Zd 0) (Za (Zd 2) Zf Zb) Zb)))
  Zq))
theorem ok17:OK P w K mg base f fd d 17:=
 ZC (P:=P) (w:=w) (base:=base) (F:=fns) (n:=17) (d:=d) (k:=d) (fn:=Xy) (N:=["p","row","other","number"]) (ps:=["p","row","other","number"]) rfl rfl rfl T.d17 sc17 λcdv A outer s H E hr=>by
  have hu:=hu7 hr;exact (Ze (Zx (Yt YC T.z_tuple (Za (ZP (N:=["mine","its","number","p"]) rfl sc17.nd (by show CompScope (Zl s17) ["p","row","other","number"] _ _ _ _;exact⟨rfl,by decide +kernel,by decide +kernel,by decide +kernel,by decide +kernel,rfl,by decide +kernel⟩) (Qa T.z_zip (Za (Zd 1) (Za (Zd 2) Zf Zb) Zb)) (λ_ _ _ _=>⟨(YQ rfl (ZE ql (ZE ql Yo))),Z1,(YM (Yy (Zd 0) (YR (Zd 2) (Zd 1))) (Zd 3))⟩)) Zf Yv)))
  Zq)
theorem ok18:OK P w K mg base f fd d 18:=
 ZC (P:=P) (w:=w) (base:=base) (F:=fns) (n:=18) (d:=d) (k:=d) (fn:=WX) (N:=["p","row","other","head"]) (ps:=["p","row","other","head"]) rfl rfl rfl T.d18 sc18 λcdv A outer s H E hr=>by
  have hu:=hu7 hr;exact (Ze (Zx (Zm (h 17 (by decide)) hr T.m17 T.d17.kp T.b17 (Za (Zd 0) (Za (Zd 1) (Za (Zd 2) (Za (VW (Z9 (Zd 1) (Zd 3))) Zf z7) Zb) Zb) Zb)))
  Zq)
theorem ok19:OK P w K mg base f fd d 19:=
 ZC (P:=P) (w:=w) (base:=base) (F:=fns) (n:=19) (d:=d) (k:=d) (fn:=WJ) (N:=["space","part","row","p","n","rest","other"]) (ps:=["space","part","row"]) rfl rfl rfl T.d19 sc19 λcdv A outer s H E hr=>by
  have hu:=hu7 hr;exact (Ze (ZL (Zd 0) (YQ rfl (ZE sc19.nd (ZE sc19.nd Yo))))
  (Ze (ZL (Zd 2) (Zs sc19.nd))
  (Ze (Xm PassesOwn.never rfl (Yq (Zd 1)) (Zs sc19.nd) (Ze (ZL (Zm (h 18 (by decide)) hr T.m18 T.d18.kp T.b18 (Za (Zd 3) (Za (Zd 5) (Za (Zd 6) (Za (Zm (h 8 (by decide)) hr T.m8 T.d8.kp T.b8 (Za (Zd 6) Zf Zb)) Zf ZZ) Zb) Zb) Zb)) (Zs sc19.nd))
  Zq))
  (Ze (Zx (Zd 5))
  Zq))))
theorem ok20:OK P w K mg base f fd d 20:=
 ZC (P:=P) (w:=w) (base:=base) (F:=fns) (n:=20) (d:=d) (k:=d) (fn:=Uu) (N:=["p","row","number"]) (ps:=["p","row","number"]) rfl rfl rfl T.d20 sc20 λcdv A outer s H E hr=>by
  have hu:=hu7 hr;exact (Ze (Zx (Yt YC T.z_tuple (Za (ZP (N:=["mine","number","p"]) rfl sc20.nd (by show CompScope (Zl s20) ["p","row","number"] _ _ _ _;exact⟨rfl,by decide +kernel,by decide +kernel,by decide +kernel,by decide +kernel,rfl,by decide +kernel⟩) (Yq (Zd 1)) (λ_ _ _ _=>⟨(Zs Zae),Z1,(YM (YR (Zd 1) (Zd 0)) (Zd 2))⟩)) Zf Yv)))
  Zq)
theorem ok21:OK P w K mg base f fd d 21:=
 ZC (P:=P) (w:=w) (base:=base) (F:=fns) (n:=21) (d:=d) (k:=d) (fn:=V2) (N:=["p","number","found"]) (ps:=["p","number"]) rfl rfl rfl T.d21 sc21 λcdv A outer s H E hr=>by
  have hu:=hu7 hr;exact (Ze (ZL Zr (Zs sc21.nd))
  (Ze (UF PassesOwn.never (ZY (Y4 hu) (YM (YR (Zd 2) (Zd 1)) (Zd 0)) Zr) (Ze (zg xN sc21.nd Zr)
  Zq))
  (Ze (Zx (Zd 2))
  Zq)))
theorem ok22:OK P w K mg base f fd d 22:=
 ZC (P:=P) (w:=w) (base:=base) (F:=fns) (n:=22) (d:=d) (k:=d) (fn:=V6) (N:=["space","part","row","p","n","rest","head","lead","rows"]) (ps:=["space","part","row"]) rfl rfl rfl T.d22 sc22 λcdv A outer s H E hr=>by
  have hu:=hu7 hr;exact (Ze (ZL (Zd 0) (YQ rfl (ZE sc22.nd (ZE sc22.nd Yo))))
  (Ze (ZL (Zm (h 19 (by decide)) hr T.m19 T.d19.kp T.b19 (Za (Zd 0) (Za (Zd 1) (Za (Zd 2) Zf Zb) Zb) Zb)) (Zs sc22.nd))
  (Ze (ZL (Zm (h 8 (by decide)) hr T.m8 T.d8.kp T.b8 (Za (Zd 5) Zf Zb)) (Zs sc22.nd))
  (Ze (Yl (ZY (yw hu) (Zd 6) WD) (Ze (Zx (Zd 1))
  Zq) Zq)
  (Ze (ZL (Zm (h 20 (by decide)) hr T.m20 T.d20.kp T.b20 (Za (Zd 3) (Za (Zd 5) (Za (Zm (h 21 (by decide)) hr T.m21 T.d21.kp T.b21 (Za (Zd 3) (Za (Z9 (Zd 5) (Zd 6)) Zf WF) Zb)) Zf ZZ) Zb) Zb)) (Zs sc22.nd))
  (Ze (XF (N:=["other","p","lead","head"]) rfl sc22.nd (by show CompScope (Zl s22) ["space","part","row","p","n","rest","head","lead","rows"] _ _ _ _;exact⟨rfl,by decide +kernel,by decide +kernel,by decide +kernel,by decide +kernel,rfl,by decide +kernel⟩) (Yq (Zd 1)) (λ_ _ _ _=>⟨(Zs jN),Z1,(Zm (h 18 (by decide)) hr T.m18 T.d18.kp T.b18 (Za (Zd 1) (Za (Zd 0) (Za (Zd 2) (Za (Zd 3) Zf Zb) Zb) Zb) Zb))⟩))
  (Ze (Zx (Yt YC T.z_tuple (Za (Vd T.z_sorted (Za (Yy (Zd 8) (Xd (Za (Zd 7) Zf Zb))) Zf Wf)) Zf ZZ)))
  Zq)))))))
theorem ok23:OK P w K mg base f fd d 23:=
 ZC (P:=P) (w:=w) (base:=base) (F:=fns) (n:=23) (d:=d) (k:=d) (fn:=Xb) (N:=["space","part","rows","wider","row"]) (ps:=["space","part","rows"]) rfl rfl rfl T.d23 sc23 λcdv A outer s H E hr=>by
  have hu:=hu7 hr;exact (Ze (ZL (Zd 1) (Zs sc23.nd))
  (Ze (Xm PassesOwn.never rfl (Yq (Zd 2)) (Zs sc23.nd) (Ze (ZL (Zm (h 22 (by decide)) hr T.m22 T.d22.kp T.b22 (Za (Zd 0) (Za (Zd 3) (Za (Zd 4) Zf Zb) Zb) Zb)) (Zs sc23.nd))
  Zq))
  (Ze (Zx (Zd 3))
  Zq)))
theorem ok24:OK P w K mg base f fd d 24:=
 ZC (P:=P) (w:=w) (base:=base) (F:=fns) (n:=24) (d:=d) (k:=d) (fn:=Qc) (N:=["space","one","other"]) (ps:=["space","one","other"]) rfl rfl rfl T.d24 sc24 λcdv A outer s H E hr=>by
  have hu:=hu7 hr;exact (Ze (YB (Zm (h 16 (by decide)) hr T.m16 T.d16.kp T.b16 (Za (Zd 0) (Za (Zd 1) (Za (Zd 2) Zf Zb) Zb) Zb)))
  (Ze (Zx (Zm (h 23 (by decide)) hr T.m23 T.d23.kp T.b23 (Za (Zd 0) (Za (Zd 1) (Za (Zd 2) Zf Zb) Zb) Zb)))
  Zq))
theorem ok25:OK P w K mg base f fd d 25:=
 ZC (P:=P) (w:=w) (base:=base) (F:=fns) (n:=25) (d:=d) (k:=d) (fn:=Wg) (N:=["space","thing"]) (ps:=["space","thing"]) rfl rfl rfl T.d25 sc25 λcdv A outer s H E hr=>by
  have hu:=hu7 hr;exact (Ze (Yl (YO (Yx (Zm (h 13 (by decide)) hr T.m13 T.d13.kp T.b13 (Za (Zd 0) (Za (Zd 1) Zf Zb) Zb)))) (Ze WA
  Zq) Zq)
  Zq)
theorem ok26:OK P w K mg base f fd d 26:=
 ZC (P:=P) (w:=w) (base:=base) (F:=fns) (n:=26) (d:=d) (k:=d) (fn:=V9) (N:=["space","rows","row"]) (ps:=["space","rows"]) rfl rfl rfl T.d26 sc26 λcdv A outer s H E hr=>by
  have hu:=hu7 hr;exact (Ze (Yl (YO (Yx (Jf (t:=.tuple) (u:=.list) (by intro m h;cases h) (by intro m h;cases h) T.z_isinstance T.z_tuple T.z_list (Zd 1)))) (Ze WA
  Zq) Zq)
  (Ze (Xm PassesOwn.never rfl (Yq (Zd 1)) (Zs sc26.nd) (Ze (YB (Zm (h 25 (by decide)) hr T.m25 T.d25.kp T.b25 (Za (Zd 0) (Za (Zd 2) Zf Zb) Zb)))
  Zq))
  (Ze (Zx (Zm (h 23 (by decide)) hr T.m23 T.d23.kp T.b23 (Za (Zd 0) (Za (ZT Zf) (Za (Zd 1) Zf Zb) Z4) Zb)))
  Zq)))
theorem ok27:OK P w K mg base f fd d 27:=
 ZC (P:=P) (w:=w) (base:=base) (F:=fns) (n:=27) (d:=d) (k:=d) (fn:=XV) (N:=["space","part","free","p","n","numbers","row"]) (ps:=["space","part","free"]) rfl rfl rfl T.d27 sc27 λcdv A outer s H E hr=>by
  have hu:=hu7 hr;exact (Ze (ZL (Zd 0) (YQ rfl (ZE sc27.nd (ZE sc27.nd Yo))))
  (Ze (ZL (YR (Xd (Za Zr Zf Zt)) (Zd 4)) (Zs sc27.nd))
  (Ze (VS (Zd 5) (Zd 2) Zr)
  (Ze (Xm PassesOwn.never rfl (Yq (Zd 1)) (Zs sc27.nd) (Ze (VS (Zd 5) (Zm (h 8 (by decide)) hr T.m8 T.d8.kp T.b8 (Za (Zd 6) Zf Zb)) (YM (VW (Z9 (Zd 6) (Zd 2))) (Zd 3)))
  Zq))
  (Ze (Zx (Yt YC T.z_tuple (Za (Zd 5) Zf Zb)))
  Zq)))))
theorem ok28:OK P w K mg base f fd d 28:=
 ZC (P:=P) (w:=w) (base:=base) (F:=fns) (n:=28) (d:=d) (k:=d) (fn:=V8) (N:=["space","part","p","n","places","free"]) (ps:=["space","part"]) rfl rfl rfl T.d28 sc28 λcdv A outer s H E hr=>by
  have hu:=hu7 hr;exact (Ze (YB (Zm (h 15 (by decide)) hr T.m15 T.d15.kp T.b15 (Za (Zd 0) (Za (Zd 1) Zf Zb) Zb)))
  (Ze (ZL (Zd 0) (YQ rfl (ZE sc28.nd (ZE sc28.nd Yo))))
  (Ze (ZL (ZP (N:=["row"]) rfl sc28.nd (by show CompScope (Zl s28) ["space","part","p","n","places","free"] _ _ _ _;exact⟨rfl,by decide +kernel,by decide +kernel,by decide +kernel,by decide +kernel,rfl,by decide +kernel⟩) (Yq (Zd 1)) (λ_ _ _ _=>⟨(Zs qj),Z1,(Zm (h 8 (by decide)) hr T.m8 T.d8.kp T.b8 (Za (Zd 0) Zf Zb))⟩)) (Zs sc28.nd))
  (Ze (XF (N:=["place","places"]) rfl sc28.nd (by show CompScope (Zl s28) ["space","part","p","n","places","free"] _ _ _ _;exact⟨rfl,by decide +kernel,by decide +kernel,by decide +kernel,by decide +kernel,rfl,by decide +kernel⟩) (Xe T.z_range (Za (Zd 3) Zf Zb)) (λ_ _ _ _=>⟨(Zs Zaq),(Wa (ZY (wG hu) (Zd 0) (Zd 1))),(Zd 0)⟩))
  (Ze (Zx (Zm (h 26 (by decide)) hr T.m26 T.d26.kp T.b26 (Za (Zd 0) (Za (ZP (N:=["place","space","part"]) rfl sc28.nd (by show CompScope (Zl s28) ["space","part","p","n","places","free"] _ _ _ _;exact⟨rfl,by decide +kernel,by decide +kernel,by decide +kernel,by decide +kernel,rfl,by decide +kernel⟩) (Yq (Zd 5)) (λ_ _ _ _=>⟨(Zs Zat),Z1,(Zm (h 27 (by decide)) hr T.m27 T.d27.kp T.b27 (Za (Zd 1) (Za (Zd 2) (Za (Zd 0) Zf Zb) Zb) Zb))⟩)) Zf Yv) Zb)))
  Zq)))))
theorem ok29:OK P w K mg base f fd d 29:=
 ZC (P:=P) (w:=w) (base:=base) (F:=fns) (n:=29) (d:=d) (k:=d) (fn:=wK) (N:=["space","one","other"]) (ps:=["space","one","other"]) rfl rfl rfl T.d29 sc29 λcdv A outer s H E hr=>by
  have hu:=hu7 hr;exact (Ze (YB (Zm (h 16 (by decide)) hr T.m16 T.d16.kp T.b16 (Za (Zd 0) (Za (Zd 1) (Za (Zd 2) Zf Zb) Zb) Zb)))
  (Ze (Zx (Zm (h 28 (by decide)) hr T.m28 T.d28.kp T.b28 (Za (Zd 0) (Za (Zm (h 24 (by decide)) hr T.m24 T.d24.kp T.b24 (Za (Zd 0) (Za (Zm (h 28 (by decide)) hr T.m28 T.d28.kp T.b28 (Za (Zd 0) (Za (Zd 1) Zf Zb) Zb)) (Za (Zm (h 28 (by decide)) hr T.m28 T.d28.kp T.b28 (Za (Zd 0) (Za (Zd 2) Zf Zb) Zb)) Zf ZZ) ZZ) Zb)) Zf ZZ) Zb)))
  Zq))
theorem ok30:OK P w K mg base f fd d 30:=
 ZC (P:=P) (w:=w) (base:=base) (F:=fns) (n:=30) (d:=d) (k:=d) (fn:=V4) (N:=["space","part","row"]) (ps:=["space","part","row"]) rfl rfl rfl T.d30 sc30 λcdv A outer s H E hr=>by
  have hu:=hu7 hr;exact (Ze (Zx (XX (yw hu) (Zm (h 8 (by decide)) hr T.m8 T.d8.kp T.b8 (Za (Zm (h 19 (by decide)) hr T.m19 T.d19.kp T.b19 (Za (Zd 0) (Za (Zd 1) (Za (Zd 2) Zf Zb) Zb) Zb)) Zf ZZ)) WD))
  Zq)
theorem ok31:OK P w K mg base f fd d 31:=
 ZC (P:=P) (w:=w) (base:=base) (F:=fns) (n:=31) (d:=d) (k:=d) (fn:=Jk) (N:=["space","part","row"]) (ps:=["space","part","row"]) rfl rfl rfl T.d31 sc31 λcdv A outer s H E hr=>by
  have hu:=hu7 hr;exact (Ze (YB (Zm (h 15 (by decide)) hr T.m15 T.d15.kp T.b15 (Za (Zd 0) (Za (Zd 1) Zf Zb) Zb)))
  (Ze (YB (Zm (h 25 (by decide)) hr T.m25 T.d25.kp T.b25 (Za (Zd 0) (Za (Zd 2) Zf Zb) Zb)))
  (Ze (Zx (Zm (h 30 (by decide)) hr T.m30 T.d30.kp T.b30 (Za (Zd 0) (Za (Zd 1) (Za (Zd 2) Zf Zb) Zb) Zb)))
  Zq)))
theorem ok32:OK P w K mg base f fd d 32:=
 ZC (P:=P) (w:=w) (base:=base) (F:=fns) (n:=32) (d:=d) (k:=d) (fn:=VJ) (N:=["space","part","p","n","rows","other"]) (ps:=["space","part"]) rfl rfl rfl T.d32 sc32 λcdv A outer s H E hr=>by
  have hu:=hu7 hr;exact (Ze (YB (Zm (h 15 (by decide)) hr T.m15 T.d15.kp T.b15 (Za (Zd 0) (Za (Zd 1) Zf Zb) Zb)))
  (Ze (ZL (Zd 0) (YQ rfl (ZE sc32.nd (ZE sc32.nd Yo))))
  (Ze (ZL (Xd (Za (YR (ZT (Za Zr Zf Zt)) (Zd 3)) Zf Wf)) (Zs sc32.nd))
  (Ze (Xm PassesOwn.never rfl (Yq (Zd 1)) (Zs sc32.nd) (Ze (V5 (N:=["row","number","p","other"]) rfl sc32.nd (by show CompScope (Zl s32) ["space","part","p","n","rows","other"] _ _ _ _;exact⟨rfl,by decide +kernel,by decide +kernel,by decide +kernel,by decide +kernel,rfl,by decide +kernel⟩) (Yq (Zd 4)) (λ_ _ _ _=>⟨(Zs u0),Z1,(Xe T.z_range (Za (Zd 2) Zf Zb)),(Zs u0),Z1,(Zm (h 17 (by decide)) hr T.m17 T.d17.kp T.b17 (Za (Zd 2) (Za (Zd 0) (Za (Zd 3) (Za (Zd 1) Zf Zb) Zb) Zb) Zb))⟩))
  Zq))
  (Ze (Zx (Zd 4))
  Zq)))))
theorem ok33:OK P w K mg base f fd d 33:=
 ZC (P:=P) (w:=w) (base:=base) (F:=fns) (n:=33) (d:=d) (k:=d) (fn:=f__law_three_right) (N:=["_law_space_here","_law_one","_law_other","_law_third","_law_row","_law_wide","_law_both"]) (ps:=["_law_space_here","_law_one","_law_other","_law_third","_law_row"]) rfl rfl rfl T.d33 sc33 λcdv A outer s H E hr=>by
  have hu:=hu7 hr;exact (Ze (Yl (ZY (Y4 hu) (Zm (h 24 (by decide)) hr T.m24 T.d24.kp T.b24 (Za (Zd 0) (Za (Zm (h 24 (by decide)) hr T.m24 T.d24.kp T.b24 (Za (Zd 0) (Za (Zd 1) (Za (Zd 2) Zf Zb) Zb) Zb)) (Za (Zd 3) Zf Zb) ZZ) Zb)) (Zm (h 24 (by decide)) hr T.m24 T.d24.kp T.b24 (Za (Zd 0) (Za (Zd 1) (Za (Zm (h 24 (by decide)) hr T.m24 T.d24.kp T.b24 (Za (Zd 0) (Za (Zd 2) (Za (Zd 3) Zf Zb) Zb) Zb)) Zf ZZ) Zb) Zb))) (Ze (Zx YF)
  Zq) Zq)
  (Ze (Yl (ZY (Y4 hu) (Zm (h 29 (by decide)) hr T.m29 T.d29.kp T.b29 (Za (Zd 0) (Za (Zm (h 29 (by decide)) hr T.m29 T.d29.kp T.b29 (Za (Zd 0) (Za (Zd 1) (Za (Zd 2) Zf Zb) Zb) Zb)) (Za (Zd 3) Zf Zb) ZZ) Zb)) (Zm (h 29 (by decide)) hr T.m29 T.d29.kp T.b29 (Za (Zd 0) (Za (Zd 1) (Za (Zm (h 29 (by decide)) hr T.m29 T.d29.kp T.b29 (Za (Zd 0) (Za (Zd 2) (Za (Zd 3) Zf Zb) Zb) Zb)) Zf ZZ) Zb) Zb))) (Ze (Zx YF)
  Zq) Zq)
  (Ze (ZL (Zm (h 24 (by decide)) hr T.m24 T.d24.kp T.b24 (Za (Zd 0) (Za (Zd 1) (Za (Zd 3) Zf Zb) Zb) Zb)) (Zs sc33.nd))
  (Ze (Yl (ZY (Y4 hu) (Zm (h 24 (by decide)) hr T.m24 T.d24.kp T.b24 (Za (Zd 0) (Za (Zd 1) (Za (Zm (h 29 (by decide)) hr T.m29 T.d29.kp T.b29 (Za (Zd 0) (Za (Zd 2) (Za (Zd 5) Zf Zb) Zb) Zb)) Zf ZZ) Zb) Zb)) (Zm (h 29 (by decide)) hr T.m29 T.d29.kp T.b29 (Za (Zd 0) (Za (Zm (h 24 (by decide)) hr T.m24 T.d24.kp T.b24 (Za (Zd 0) (Za (Zd 1) (Za (Zd 2) Zf Zb) Zb) Zb)) (Za (Zd 5) Zf Zb) ZZ) Zb))) (Ze (Zx YF)
  Zq) Zq)
  (Ze (ZL (WM (Zm (h 31 (by decide)) hr T.m31 T.d31.kp T.b31 (Za (Zd 0) (Za (Zd 1) (Za (Zd 4) Zf Zb) Zb) Zb)) (VL (Zm (h 31 (by decide)) hr T.m31 T.d31.kp T.b31 (Za (Zd 0) (Za (Zd 2) (Za (Zd 4) Zf Zb) Zb) Zb)))) (Zs sc33.nd))
  (Ze (Yl (ZY (Y4 hu) (Zm (h 31 (by decide)) hr T.m31 T.d31.kp T.b31 (Za (Zd 0) (Za (Zm (h 29 (by decide)) hr T.m29 T.d29.kp T.b29 (Za (Zd 0) (Za (Zd 1) (Za (Zd 2) Zf Zb) Zb) Zb)) (Za (Zd 4) Zf Zb) ZZ) Zb)) (Zd 6)) (Ze (Zx YF)
  Zq) Zq)
  (Ze (Zx (XX (Uf hu) (Zm (h 32 (by decide)) hr T.m32 T.d32.kp T.b32 (Za (Zd 0) (Za (Zm (h 29 (by decide)) hr T.m29 T.d29.kp T.b29 (Za (Zd 0) (Za (Zd 1) (Za (Zd 2) Zf Zb) Zb) Zb)) Zf ZZ) Zb)) (ZP (N:=["_law_line","_law_space_here","_law_other"]) rfl sc33.nd (by show CompScope (Zl s33) ["_law_space_here","_law_one","_law_other","_law_third","_law_row","_law_wide","_law_both"] _ _ _ _;exact⟨rfl,by decide +kernel,by decide +kernel,by decide +kernel,by decide +kernel,rfl,by decide +kernel⟩) (Yq (Zm (h 32 (by decide)) hr T.m32 T.d32.kp T.b32 (Za (Zd 0) (Za (Zd 1) Zf Zb) Zb))) (λ_ _ _ _=>⟨(Zs jY),(Wa (Yx (Zm (h 31 (by decide)) hr T.m31 T.d31.kp T.b31 (Za (Zd 1) (Za (Zd 2) (Za (Zd 0) Zf Zb) Zb) Zb)))),(Zd 0)⟩))))
  Zq)))))))
theorem ok34:OK P w K mg base f fd d 34:=
 ZC (P:=P) (w:=w) (base:=base) (F:=fns) (n:=34) (d:=d) (k:=d) (fn:=WL) (N:=["space","one","other"]) (ps:=["space","one","other"]) rfl rfl rfl T.d34 sc34 λcdv A outer s H E hr=>by
  have hu:=hu7 hr;exact (Ze (Zx (Yf (Wo rfl) T.z_all (Za (ZP (N:=["row","space","other"]) rfl sc34.nd (by show CompScope (Zl s34) ["space","one","other"] _ _ _ _;exact⟨rfl,by decide +kernel,by decide +kernel,by decide +kernel,by decide +kernel,rfl,by decide +kernel⟩) (Yq (Zd 1)) (λ_ _ _ _=>⟨(Zs jM),Z1,(Zm (h 30 (by decide)) hr T.m30 T.d30.kp T.b30 (Za (Zd 1) (Za (Zd 2) (Za (Zd 0) Zf Zb) Zb) Zb))⟩)) Zf Yv)))
  Zq)
theorem ok35:OK P w K mg base f fd d 35:=
 ZC (P:=P) (w:=w) (base:=base) (F:=fns) (n:=35) (d:=d) (k:=d) (fn:=VO) (N:=["space","one","other"]) (ps:=["space","one","other"]) rfl rfl rfl T.d35 sc35 λcdv A outer s H E hr=>by
  have hu:=hu7 hr;exact (Ze (YB (Zm (h 16 (by decide)) hr T.m16 T.d16.kp T.b16 (Za (Zd 0) (Za (Zd 1) (Za (Zd 2) Zf Zb) Zb) Zb)))
  (Ze (Zx (Zm (h 34 (by decide)) hr T.m34 T.d34.kp T.b34 (Za (Zd 0) (Za (Zd 1) (Za (Zd 2) Zf Zb) Zb) Zb)))
  Zq))
theorem ok36:OK P w K mg base f fd d 36:=
 ZC (P:=P) (w:=w) (base:=base) (F:=fns) (n:=36) (d:=d) (k:=d) (fn:=XB) (N:=["space","one","other","row"]) (ps:=["space","one","other"]) rfl rfl rfl T.d36 sc36 λcdv A outer s H E hr=>by
  have hu:=hu7 hr;exact (Ze (YB (Zm (h 16 (by decide)) hr T.m16 T.d16.kp T.b16 (Za (Zd 0) (Za (Zd 1) (Za (Zd 2) Zf Zb) Zb) Zb)))
  (Ze (Xm PassesOwn.never rfl (Yq (Zm (h 32 (by decide)) hr T.m32 T.d32.kp T.b32 (Za (Zd 0) (Za (Zd 1) Zf Zb) Zb))) (Zs sc36.nd) (Ze (Yl (YO (Yx (Zm (h 30 (by decide)) hr T.m30 T.d30.kp T.b30 (Za (Zd 0) (Za (Zd 2) (Za (Zd 3) Zf Zb) Zb) Zb)))) (Ze (Zx (Zd 3))
  Zq) Zq)
  Zq))
  (Ze (Zx WD)
  Zq)))
theorem ok37:OK P w K mg base f fd d 37:=
 ZC (P:=P) (w:=w) (base:=base) (F:=fns) (n:=37) (d:=d) (k:=d) (fn:=f__law_two_right) (N:=["_law_space_here","_law_one","_law_other","_law_up","_law_down","_law_part_here","_law_lies","_law_row"]) (ps:=["_law_space_here","_law_one","_law_other"]) rfl rfl rfl T.d37 sc37 λcdv A outer s H E hr=>by
  have hu:=hu7 hr;exact (Ze (G8 rfl sc37.nd (Za (Zm (h 24 (by decide)) hr T.m24 T.d24.kp T.b24 (Za (Zd 0) (Za (Zd 1) (Za (Zd 2) Zf Zb) Zb) Zb)) (Za (Zm (h 29 (by decide)) hr T.m29 T.d29.kp T.b29 (Za (Zd 0) (Za (Zd 1) (Za (Zd 2) Zf Zb) Zb) Zb)) Zf ZZ) ZZ))
  (Ze (Yl (CWh.ct (Ws (ZY (zE hu) (Zm (h 14 (by decide)) hr T.m14 T.d14.kp T.b14 (Za (Zd 0) (Za (Zd 3) Zf Zb) Zb)) YF) (Xl (ZY (zE hu) (Zm (h 14 (by decide)) hr T.m14 T.d14.kp T.b14 (Za (Zd 0) (Za (Zd 4) Zf Zb) Zb)) YF)))) (Ze (Zx YF)
  Zq) Zq)
  (Ze (Yl (CWh.ct (Ws (ZY (Y4 hu) (Yy (Yf Xx T.z_len (Za (Zd 3) Zf Zb)) (Yf Xx T.z_len (Za (Zd 4) Zf Zb))) (Yy (Yf Xx T.z_len (Za (Zd 1) Zf Zb)) (Yf Xx T.z_len (Za (Zd 2) Zf Zb)))) (Xl (ZY (Y4 hu) (Zd 3) (Zm (h 26 (by decide)) hr T.m26 T.d26.kp T.b26 (Za (Zd 0) (Za (Yy (Yt Vf T.z_list (Za (Zd 2) Zf Zb)) (Yt Vf T.z_list (Za (Zd 1) Zf Zb))) Zf Wf) Zb)))))) (Ze (Zx YF)
  Zq) Zq)
  (Ze (Yl (CWh.ct (Ws (ZY (Y4 hu) (Zd 3) (Zm (h 24 (by decide)) hr T.m24 T.d24.kp T.b24 (Za (Zd 0) (Za (Zd 2) (Za (Zd 1) Zf Zb) Zb) Zb))) (Xl (ZY (Y4 hu) (Zd 4) (Zm (h 29 (by decide)) hr T.m29 T.d29.kp T.b29 (Za (Zd 0) (Za (Zd 2) (Za (Zd 1) Zf Zb) Zb) Zb)))))) (Ze (Zx YF)
  Zq) Zq)
  (Ze (Xm PassesOwn.never rfl (Yq (ZT (Za (Zd 1) (Za (Zd 2) Zf Zb) Zb))) (Zs sc37.nd) (Ze (Yl (CWh.ct (Ws (YO (Yx (Zm (h 35 (by decide)) hr T.m35 T.d35.kp T.b35 (Za (Zd 0) (Za (Zd 5) (Za (Zd 3) Zf Zb) Zb) Zb)))) (Xl (YO (Yx (Zm (h 35 (by decide)) hr T.m35 T.d35.kp T.b35 (Za (Zd 0) (Za (Zd 4) (Za (Zd 5) Zf Zb) Zb) Zb))))))) (Ze (Zx YF)
  Zq) Zq)
  (Ze (Yl (CWh.ct (Ws (ZY (Y4 hu) (Zm (h 24 (by decide)) hr T.m24 T.d24.kp T.b24 (Za (Zd 0) (Za (Zd 5) (Za (Zd 4) Zf Zb) Zb) Zb)) (Zd 5)) (Xl (ZY (Y4 hu) (Zm (h 29 (by decide)) hr T.m29 T.d29.kp T.b29 (Za (Zd 0) (Za (Zd 5) (Za (Zd 3) Zf Zb) Zb) Zb)) (Zd 5))))) (Ze (Zx YF)
  Zq) Zq)
  Zq)))
  (Ze (ZL (Zm (h 35 (by decide)) hr T.m35 T.d35.kp T.b35 (Za (Zd 0) (Za (Zd 1) (Za (Zd 2) Zf Zb) Zb) Zb)) (Zs sc37.nd))
  (Ze (Yl (CWh.ct (Ws (ZY (Y4 hu) (Zd 6) (XX (Uf hu) (Zd 3) (Zd 2))) (Xl (ZY (Y4 hu) (Zd 6) (XX (Uf hu) (Zd 4) (Zd 1)))))) (Ze (Zx YF)
  Zq) Zq)
  (Ze (ZL (Zm (h 36 (by decide)) hr T.m36 T.d36.kp T.b36 (Za (Zd 0) (Za (Zd 1) (Za (Zd 2) Zf Zb) Zb) Zb)) (Zs sc37.nd))
  (Ze (Yl (ZY (yw hu) (Zd 7) WD) (Ze (Zx (Zd 6))
  Zq) Zq)
  (Ze (Zx (WM (UJ (Zd 6)) (WM (Zm (h 31 (by decide)) hr T.m31 T.d31.kp T.b31 (Za (Zd 0) (Za (Zd 1) (Za (Zd 7) Zf Zb) Zb) Zb)) (VL (UJ (Zm (h 31 (by decide)) hr T.m31 T.d31.kp T.b31 (Za (Zd 0) (Za (Zd 2) (Za (Zd 7) Zf Zb) Zb) Zb)))))))
  Zq))))))))))
theorem ok38:OK P w K mg base f fd d 38:=
 ZC (P:=P) (w:=w) (base:=base) (F:=fns) (n:=38) (d:=d) (k:=d) (fn:=qp) (N:=["_law_script","_law_k","_law_state_here","_law_space_here","_law_one","_law_other","_law_third"]) (ps:=["_law_script"]) rfl rfl rfl T.d38 sc38 λcdv A outer s H E hr=>by
  have hu:=hu7 hr;exact (Ze (Xm PassesOwn.never rfl (Xe T.z_range (Za (Yf (yt rfl) T.z_max (Za Zr (Za (Yf (yk rfl) T.z_min (Za (Yf Xx T.z_len (Za (Zd 0) Zf Zb)) (Za Zr Zf Zt) ZZ)) Zf ZZ) Zt)) Zf ZZ)) (Zs sc38.nd) (Ze (ZL (Zm (h 1 (by decide)) hr T.m1 T.d1.kp T.b1 (Za (Zd 0) (Za (Zd 1) Zf Zb) Zb)) (Zs sc38.nd))
  (Ze (ZL (Zm (h 3 (by decide)) hr T.m3 T.d3.kp T.b3 (Za (Zd 2) (Za (Z9 (Xd (Za Zr (Za Zr Zf Zt) Zt)) (Yt zN T.z_int (Za (XX (Uf hu) (Zd 1) Zr) Zf wl))) Zf WF) Zb)) (Zs sc38.nd))
  (Ze (ZL (ZP (N:=["_law_turn","_law_state_here","_law_space_here"]) rfl sc38.nd (by show CompScope (Zl s38) ["_law_script","_law_k","_law_state_here","_law_space_here","_law_one","_law_other","_law_third"] _ _ _ _;exact⟨rfl,by decide +kernel,by decide +kernel,by decide +kernel,by decide +kernel,rfl,by decide +kernel⟩) (Xe T.z_range (Za Zr Zf Zt)) (λ_ _ _ _=>⟨(Zs jT),Z1,(Zm (h 7 (by decide)) hr T.m7 T.d7.kp T.b7 (Za (Zd 1) (Za (Zd 2) Zf Zb) Zb))⟩)) (YQ rfl (ZE sc38.nd (ZE sc38.nd (ZE sc38.nd Yo)))))
  (Ze (Yl (CWh.ct (Ws (YO (Yx (Zm (h 37 (by decide)) hr T.m37 T.d37.kp T.b37 (Za (Zd 3) (Za (Zd 4) (Za (Zd 5) Zf Zb) Zb) Zb)))) (Xl (YO (Yx (Zm (h 37 (by decide)) hr T.m37 T.d37.kp T.b37 (Za (Zd 3) (Za (Zd 4) (Za (Zd 6) Zf Zb) Zb) Zb))))))) (Ze (Zx YF)
  Zq) Zq)
  (Ze (Yl (YO (Yx (Zm (h 33 (by decide)) hr T.m33 T.d33.kp T.b33 (Za (Zd 3) (Za (Zd 4) (Za (Zd 5) (Za (Zd 6) (Za (Zm (h 6 (by decide)) hr T.m6 T.d6.kp T.b6 (Za (Zd 2) (Za (Zd 3) Zf Zb) Zb)) Zf ZZ) Zb) Zb) Zb) Zb)))) (Ze (Zx YF)
  Zq) Zq)
  Zq))))))
  (Ze (Zx YF)
  Zq))
end
theorem ZJ (T:Top P w K mg f fd ):∀d,All P w K mg base f fd d
 |0=>λi _=>zV
 |d+1=>λi hi=>match i,hi with
  |0,_=>ok0 T (ZJ T d)
  |1,_=>ok1 T (ZJ T d)
  |2,_=>ok2 T (ZJ T d)
  |3,_=>ok3 T (ZJ T d)
  |4,_=>ok4 T (ZJ T d)
  |5,_=>ok5 T (ZJ T d)
  |6,_=>ok6 T (ZJ T d)
  |7,_=>ok7 T (ZJ T d)
  |8,_=>ok8 T (ZJ T d)
  |9,_=>ok9 T (ZJ T d)
  |10,_=>ok10 T (ZJ T d)
  |11,_=>ok11 T (ZJ T d)
  |12,_=>ok12 T (ZJ T d)
  |13,_=>ok13 T (ZJ T d)
  |14,_=>ok14 T (ZJ T d)
  |15,_=>ok15 T (ZJ T d)
  |16,_=>ok16 T (ZJ T d)
  |17,_=>ok17 T (ZJ T d)
  |18,_=>ok18 T (ZJ T d)
  |19,_=>ok19 T (ZJ T d)
  |20,_=>ok20 T (ZJ T d)
  |21,_=>ok21 T (ZJ T d)
  |22,_=>ok22 T (ZJ T d)
  |23,_=>ok23 T (ZJ T d)
  |24,_=>ok24 T (ZJ T d)
  |25,_=>ok25 T (ZJ T d)
  |26,_=>ok26 T (ZJ T d)
  |27,_=>ok27 T (ZJ T d)
  |28,_=>ok28 T (ZJ T d)
  |29,_=>ok29 T (ZJ T d)
  |30,_=>ok30 T (ZJ T d)
  |31,_=>ok31 T (ZJ T d)
  |32,_=>ok32 T (ZJ T d)
  |33,_=>ok33 T (ZJ T d)
  |34,_=>ok34 T (ZJ T d)
  |35,_=>ok35 T (ZJ T d)
  |36,_=>ok36 T (ZJ T d)
  |37,_=>ok37 T (ZJ T d)
  |38,_=>ok38 T (ZJ T d)
  |i+39,hi=>absurd hi (by omega)
end
theorem bd1 {K:PySem.W.Frag}{x:Str}{st:Stmt}{f:Addr}{fd:FuncData}{n0:Str}(F:Fun K x x st f fd) (h:∀(kV doc pm:Value) (an:Option Addr) (cdv ct:Value) (a0:Value),bindArgs (PySem.W.fnOf x x (YJ st) (Yp st) (Zl st) .none kV doc pm an cdv ct) ⟨[a0],[]⟩=pure ([n0].zip [a0])):Binds K fd [n0] []:=
 F.binds (ps:=[n0]) λkV doc pm an cdv ct us hl=>match us,hl with | [a0],_=>h kV doc pm an cdv ct a0
theorem bd2 {K:PySem.W.Frag}{x:Str}{st:Stmt}{f:Addr}{fd:FuncData}{n0 n1:Str}(F:Fun K x x st f fd) (h:∀(kV doc pm:Value) (an:Option Addr) (cdv ct:Value) (a0 a1:Value),bindArgs (PySem.W.fnOf x x (YJ st) (Yp st) (Zl st) .none kV doc pm an cdv ct) ⟨[a0,a1],[]⟩=pure ([n0,n1].zip [a0,a1])):Binds K fd [n0,n1] []:=
 F.binds (ps:=[n0,n1]) λkV doc pm an cdv ct us hl=>match us,hl with | [a0,a1],_=>h kV doc pm an cdv ct a0 a1
theorem bd3 {K:PySem.W.Frag}{x:Str}{st:Stmt}{f:Addr}{fd:FuncData}{n0 n1 n2:Str}(F:Fun K x x st f fd) (h:∀(kV doc pm:Value) (an:Option Addr) (cdv ct:Value) (a0 a1 a2:Value),bindArgs (PySem.W.fnOf x x (YJ st) (Yp st) (Zl st) .none kV doc pm an cdv ct) ⟨[a0,a1,a2],[]⟩=pure ([n0,n1,n2].zip [a0,a1,a2])):Binds K fd [n0,n1,n2] []:=
 F.binds (ps:=[n0,n1,n2]) λkV doc pm an cdv ct us hl=>match us,hl with | [a0,a1,a2],_=>h kV doc pm an cdv ct a0 a1 a2
theorem bd4 {K:PySem.W.Frag}{x:Str}{st:Stmt}{f:Addr}{fd:FuncData}{n0 n1 n2 n3:Str}(F:Fun K x x st f fd) (h:∀(kV doc pm:Value) (an:Option Addr) (cdv ct:Value) (a0 a1 a2 a3:Value),bindArgs (PySem.W.fnOf x x (YJ st) (Yp st) (Zl st) .none kV doc pm an cdv ct) ⟨[a0,a1,a2,a3],[]⟩=pure ([n0,n1,n2,n3].zip [a0,a1,a2,a3])):Binds K fd [n0,n1,n2,n3] []:=
 F.binds (ps:=[n0,n1,n2,n3]) λkV doc pm an cdv ct us hl=>match us,hl with | [a0,a1,a2,a3],_=>h kV doc pm an cdv ct a0 a1 a2 a3
theorem bd5 {K:PySem.W.Frag}{x:Str}{st:Stmt}{f:Addr}{fd:FuncData}{n0 n1 n2 n3 n4:Str}(F:Fun K x x st f fd) (h:∀(kV doc pm:Value) (an:Option Addr) (cdv ct:Value) (a0 a1 a2 a3 a4:Value),bindArgs (PySem.W.fnOf x x (YJ st) (Yp st) (Zl st) .none kV doc pm an cdv ct) ⟨[a0,a1,a2,a3,a4],[]⟩=pure ([n0,n1,n2,n3,n4].zip [a0,a1,a2,a3,a4])):Binds K fd [n0,n1,n2,n3,n4] []:=
 F.binds (ps:=[n0,n1,n2,n3,n4]) λkV doc pm an cdv ct us hl=>match us,hl with | [a0,a1,a2,a3,a4],_=>h kV doc pm an cdv ct a0 a1 a2 a3 a4
theorem bd6 {K:PySem.W.Frag}{x:Str}{st:Stmt}{f:Addr}{fd:FuncData}{n0 n1 n2 n3 n4 n5:Str}(F:Fun K x x st f fd) (h:∀(kV doc pm:Value) (an:Option Addr) (cdv ct:Value) (a0 a1 a2 a3 a4 a5:Value),bindArgs (PySem.W.fnOf x x (YJ st) (Yp st) (Zl st) .none kV doc pm an cdv ct) ⟨[a0,a1,a2,a3,a4,a5],[]⟩=pure ([n0,n1,n2,n3,n4,n5].zip [a0,a1,a2,a3,a4,a5])):Binds K fd [n0,n1,n2,n3,n4,n5] []:=
 F.binds (ps:=[n0,n1,n2,n3,n4,n5]) λkV doc pm an cdv ct us hl=>match us,hl with | [a0,a1,a2,a3,a4,a5],_=>h kV doc pm an cdv ct a0 a1 a2 a3 a4 a5
abbrev An (K:PySem.W.Frag) (x:Str) (f:Addr):Prop:=PySem.W.nsIn K mainGlobals x=some (some (.ref f))
abbrev Zn (K:PySem.W.Frag) (x:Str):Prop:=PySem.W.nsIn K mainGlobals x=some none
noncomputable abbrev Gn (x:Str) (s:Stmt) (kV) (dc) (pm) (an:Option Addr) (cd) (ct):=PySem.W.fnOf x x (YJ s) (Yp s) (Zl s) .none kV dc pm an cd ct
abbrev Ln (K:PySem.W.Frag) (f:Addr) (oc) (od:Option Addr) (x:Str) (s:Stmt) (kV) (dc) (pm) (an:Option Addr) (cd) (ct) (sl:Array (Option Value)):=K.lookup f=some ⟨oc,od,.func (PySem.W.fnOf x x (YJ s) (Yp s) (Zl s) .none kV dc pm an cd ct),sl⟩
abbrev Cn (K:PySem.W.Frag) (cd) (x:Str):=PySem.W.codeIn K cd x=true
abbrev Kn (K:PySem.W.Frag) (f:Addr):Prop:=PySem.W.keepIn K (.ref f)=true
theorem jm {l:PySem.W.OpenLaw}{w:World}{K:PySem.W.Frag}{h:Heap}{mg:Str->Option Value}{fa f0 f1 f2 f3 f4 f5 f6 f7 f8 f9 f10 f11 f12 f13 f14 f15 f16 f17 f18 f19 f20 f21 f22 f23 f24 f25 f26 f27 f28 f29 f30 f31 f32 f33 f34 f35 f36 f37 f38  : Addr}(X:K.In h) (G:h.Ns mainGlobals mg) (hfa:mg "law" = some (.ref fa))
  {od0 an0 od1 an1 od2 an2 od3 an3 od4 an4 od5 an5 od6 an6 od7 an7 od8 an8 od9 an9 od10 an10 od11 an11 od12 an12 od13 an13 od14 an14 od15 an15 od16 an16 od17 an17 od18 an18 od19 an19 od20 an20 od21 an21 od22 an22 od23 an23 od24 an24 od25 an25 od26 an26 od27 an27 od28 an28 od29 an29 od30 an30 od31 an31 od32 an32 od33 an33 od34 an34 od35 an35 od36 an36 od37 an37 od38 an38:Option Addr} {sl0 sl1 sl2 sl3 sl4 sl5 sl6 sl7 sl8 sl9 sl10 sl11 sl12 sl13 sl14 sl15 sl16 sl17 sl18 sl19 sl20 sl21 sl22 sl23 sl24 sl25 sl26 sl27 sl28 sl29 sl30 sl31 sl32 sl33 sl34 sl35 sl36 sl37 sl38:Array (Option Value)} {oc0 kV0 dc0 pm0 cd0 ct0 oc1 kV1 dc1 pm1 cd1 ct1 oc2 kV2 dc2 pm2 cd2 ct2 oc3 kV3 dc3 pm3 cd3 ct3 oc4 kV4 dc4 pm4 cd4 ct4 oc5 kV5 dc5 pm5 cd5 ct5 oc6 kV6 dc6 pm6 cd6 ct6 oc7 kV7 dc7 pm7 cd7 ct7 oc8 kV8 dc8 pm8 cd8 ct8 oc9 kV9 dc9 pm9 cd9 ct9 oc10 kV10 dc10 pm10 cd10 ct10 oc11 kV11 dc11 pm11 cd11 ct11 oc12 kV12 dc12 pm12 cd12 ct12 oc13 kV13 dc13 pm13 cd13 ct13 oc14 kV14 dc14 pm14 cd14 ct14 oc15 kV15 dc15 pm15 cd15 ct15 oc16 kV16 dc16 pm16 cd16 ct16 oc17 kV17 dc17 pm17 cd17 ct17 oc18 kV18 dc18 pm18 cd18 ct18 oc19 kV19 dc19 pm19 cd19 ct19 oc20 kV20 dc20 pm20 cd20 ct20 oc21 kV21 dc21 pm21 cd21 ct21 oc22 kV22 dc22 pm22 cd22 ct22 oc23 kV23 dc23 pm23 cd23 ct23 oc24 kV24 dc24 pm24 cd24 ct24 oc25 kV25 dc25 pm25 cd25 ct25 oc26 kV26 dc26 pm26 cd26 ct26 oc27 kV27 dc27 pm27 cd27 ct27 oc28 kV28 dc28 pm28 cd28 ct28 oc29 kV29 dc29 pm29 cd29 ct29 oc30 kV30 dc30 pm30 cd30 ct30 oc31 kV31 dc31 pm31 cd31 ct31 oc32 kV32 dc32 pm32 cd32 ct32 oc33 kV33 dc33 pm33 cd33 ct33 oc34 kV34 dc34 pm34 cd34 ct34 oc35 kV35 dc35 pm35 cd35 ct35 oc36 kV36 dc36 pm36 cd36 ct36 oc37 kV37 dc37 pm37 cd37 ct37 oc38 kV38 dc38 pm38 cd38 ct38:Value}
  (a0:An K "_law_cell_at" f0) (l0:Ln K f0 oc0 od0 "_law_cell_at" s0 kV0 dc0 pm0 an0 cd0 ct0 sl0) (c0:Cn K cd0 "_law_cell_at") (k0:Kn K f0)
  (a1:An K "_law_state" f1) (l1:Ln K f1 oc1 od1 "_law_state" s1 kV1 dc1 pm1 an1 cd1 ct1 sl1) (c1:Cn K cd1 "_law_state") (k1:Kn K f1)
  (a2:An K "_law_take" f2) (l2:Ln K f2 oc2 od2 "_law_take" s2 kV2 dc2 pm2 an2 cd2 ct2 sl2) (c2:Cn K cd2 "_law_take") (k2:Kn K f2)
  (a3:An K "_law_space" f3) (l3:Ln K f3 oc3 od3 "_law_space" s3 kV3 dc3 pm3 an3 cd3 ct3 sl3) (c3:Cn K cd3 "_law_space") (k3:Kn K f3)
  (a4:An K "_law_plus" f4) (l4:Ln K f4 oc4 od4 "_law_plus" s4 kV4 dc4 pm4 an4 cd4 ct4 sl4) (c4:Cn K cd4 "_law_plus") (k4:Kn K f4)
  (a5:An K "_law_reduced" f5) (l5:Ln K f5 oc5 od5 "_law_reduced" s5 kV5 dc5 pm5 an5 cd5 ct5 sl5) (c5:Cn K cd5 "_law_reduced") (k5:Kn K f5)
  (a6:An K "_law_row_of" f6) (l6:Ln K f6 oc6 od6 "_law_row_of" s6 kV6 dc6 pm6 an6 cd6 ct6 sl6) (c6:Cn K cd6 "_law_row_of") (k6:Kn K f6)
  (a7:An K "_law_part" f7) (l7:Ln K f7 oc7 od7 "_law_part" s7 kV7 dc7 pm7 an7 cd7 ct7 sl7) (c7:Cn K cd7 "_law_part") (k7:Kn K f7)
  (a8:An K "head_of" f8) (l8:Ln K f8 oc8 od8 "head_of" s8 kV8 dc8 pm8 an8 cd8 ct8 sl8) (c8:Cn K cd8 "head_of") (k8:Kn K f8)
  (a9:An K "is_rising" f9) (l9:Ln K f9 oc9 od9 "is_rising" s9 kV9 dc9 pm9 an9 cd9 ct9 sl9) (c9:Cn K cd9 "is_rising") (k9:Kn K f9)
  (a10:An K "noughts_at" f10) (l10:Ln K f10 oc10 od10 "noughts_at" s10 kV10 dc10 pm10 an10 cd10 ct10 sl10) (c10:Cn K cd10 "noughts_at") (k10:Kn K f10)
  (a11:An K "stands_alone" f11) (l11:Ln K f11 oc11 od11 "stands_alone" s11 kV11 dc11 pm11 an11 cd11 ct11 sl11) (c11:Cn K cd11 "stands_alone") (k11:Kn K f11)
  (a12:An K "is_whole" f12) (l12:Ln K f12 oc12 od12 "is_whole" s12 kV12 dc12 pm12 an12 cd12 ct12 sl12) (c12:Cn K cd12 "is_whole") (k12:Kn K f12)
  (a13:An K "is_row" f13) (l13:Ln K f13 oc13 od13 "is_row" s13 kV13 dc13 pm13 an13 cd13 ct13 sl13) (c13:Cn K cd13 "is_row") (k13:Kn K f13)
  (a14:An K "is_part" f14) (l14:Ln K f14 oc14 od14 "is_part" s14 kV14 dc14 pm14 an14 cd14 ct14 sl14) (c14:Cn K cd14 "is_part") (k14:Kn K f14)
  (a15:An K "need_part" f15) (l15:Ln K f15 oc15 od15 "need_part" s15 kV15 dc15 pm15 an15 cd15 ct15 sl15) (c15:Cn K cd15 "need_part") (k15:Kn K f15)
  (a16:An K "need_parts" f16) (l16:Ln K f16 oc16 od16 "need_parts" s16 kV16 dc16 pm16 an16 cd16 ct16 sl16) (c16:Cn K cd16 "need_parts") (k16:Kn K f16)
  (a17:An K "plus_times" f17) (l17:Ln K f17 oc17 od17 "plus_times" s17 kV17 dc17 pm17 an17 cd17 ct17 sl17) (c17:Cn K cd17 "plus_times") (k17:Kn K f17)
  (a18:An K "cleared" f18) (l18:Ln K f18 oc18 od18 "cleared" s18 kV18 dc18 pm18 an18 cd18 ct18 sl18) (c18:Cn K cd18 "cleared") (k18:Kn K f18)
  (a19:An K "left_over" f19) (l19:Ln K f19 oc19 od19 "left_over" s19 kV19 dc19 pm19 an19 cd19 ct19 sl19) (c19:Cn K cd19 "left_over") (k19:Kn K f19)
  (a20:An K "times" f20) (l20:Ln K f20 oc20 od20 "times" s20 kV20 dc20 pm20 an20 cd20 ct20 sl20) (c20:Cn K cd20 "times") (k20:Kn K f20)
  (a21:An K "inverse" f21) (l21:Ln K f21 oc21 od21 "inverse" s21 kV21 dc21 pm21 an21 cd21 ct21 sl21) (c21:Cn K cd21 "inverse") (k21:Kn K f21)
  (a22:An K "widened" f22) (l22:Ln K f22 oc22 od22 "widened" s22 kV22 dc22 pm22 an22 cd22 ct22 sl22) (c22:Cn K cd22 "widened") (k22:Kn K f22)
  (a23:An K "widened_by_all" f23) (l23:Ln K f23 oc23 od23 "widened_by_all" s23 kV23 dc23 pm23 an23 cd23 ct23 sl23) (c23:Cn K cd23 "widened_by_all") (k23:Kn K f23)
  (a24:An K "joined" f24) (l24:Ln K f24 oc24 od24 "joined" s24 kV24 dc24 pm24 an24 cd24 ct24 sl24) (c24:Cn K cd24 "joined") (k24:Kn K f24)
  (a25:An K "need_row" f25) (l25:Ln K f25 oc25 od25 "need_row" s25 kV25 dc25 pm25 an25 cd25 ct25 sl25) (c25:Cn K cd25 "need_row") (k25:Kn K f25)
  (a26:An K "spanned" f26) (l26:Ln K f26 oc26 od26 "spanned" s26 kV26 dc26 pm26 an26 cd26 ct26 sl26) (c26:Cn K cd26 "spanned") (k26:Kn K f26)
  (a27:An K "row_against" f27) (l27:Ln K f27 oc27 od27 "row_against" s27 kV27 dc27 pm27 an27 cd27 ct27 sl27) (c27:Cn K cd27 "row_against") (k27:Kn K f27)
  (a28:An K "against" f28) (l28:Ln K f28 oc28 od28 "against" s28 kV28 dc28 pm28 an28 cd28 ct28 sl28) (c28:Cn K cd28 "against") (k28:Kn K f28)
  (a29:An K "met" f29) (l29:Ln K f29 oc29 od29 "met" s29 kV29 dc29 pm29 an29 cd29 ct29 sl29) (c29:Cn K cd29 "met") (k29:Kn K f29)
  (a30:An K "has_row" f30) (l30:Ln K f30 oc30 od30 "has_row" s30 kV30 dc30 pm30 an30 cd30 ct30 sl30) (c30:Cn K cd30 "has_row") (k30:Kn K f30)
  (a31:An K "holds" f31) (l31:Ln K f31 oc31 od31 "holds" s31 kV31 dc31 pm31 an31 cd31 ct31 sl31) (c31:Cn K cd31 "holds") (k31:Kn K f31)
  (a32:An K "rows_of" f32) (l32:Ln K f32 oc32 od32 "rows_of" s32 kV32 dc32 pm32 an32 cd32 ct32 sl32) (c32:Cn K cd32 "rows_of") (k32:Kn K f32)
  (a33:An K "_law_three_right" f33) (l33:Ln K f33 oc33 od33 "_law_three_right" s33 kV33 dc33 pm33 an33 cd33 ct33 sl33) (c33:Cn K cd33 "_law_three_right") (k33:Kn K f33)
  (a34:An K "is_within" f34) (l34:Ln K f34 oc34 od34 "is_within" s34 kV34 dc34 pm34 an34 cd34 ct34 sl34) (c34:Cn K cd34 "is_within") (k34:Kn K f34)
  (a35:An K "lies_in" f35) (l35:Ln K f35 oc35 od35 "lies_in" s35 kV35 dc35 pm35 an35 cd35 ct35 sl35) (c35:Cn K cd35 "lies_in") (k35:Kn K f35)
  (a36:An K "first_beyond" f36) (l36:Ln K f36 oc36 od36 "first_beyond" s36 kV36 dc36 pm36 an36 cd36 ct36 sl36) (c36:Cn K cd36 "first_beyond") (k36:Kn K f36)
  (a37:An K "_law_two_right" f37) (l37:Ln K f37 oc37 od37 "_law_two_right" s37 kV37 dc37 pm37 an37 cd37 ct37 sl37) (c37:Cn K cd37 "_law_two_right") (k37:Kn K f37)
  (a38:An K "law" f38) (l38:Ln K f38 oc38 od38 "law" s38 kV38 dc38 pm38 an38 cd38 ct38 sl38) (c38:Cn K cd38 "law") (k38:Kn K f38)
  (z_all:Zn K "all")
  (z_bool:Zn K "bool")
  (z_enumerate:Zn K "enumerate")
  (z_int:Zn K "int")
  (z_isinstance:Zn K "isinstance")
  (z_len:Zn K "len")
  (z_list:Zn K "list")
  (z_max:Zn K "max")
  (z_min:Zn K "min")
  (z_range:Zn K "range")
  (z_sorted:Zn K "sorted")
  (z_tuple:Zn K "tuple")
  (z_zip:Zn K "zip") :
  ∃fd:FuncData,(∀(s:Shared) (v:Value),BindsTo s fd ⟨[v],[]⟩ [("_law_script",v)])/\∀base:Heap,K.In base->base.Ns mainGlobals mg->FnOk l.prog w K mg base CX0 65 fa fd ["_law_script"] (spF K (Ev.calls fns 65) 38):=by
 have e:=hfa.symm.trans (PySem.W.mg_of X G a38);cases e;have m:∀{x:Str} {f:Addr},An K x f->mg x=some (.ref f):=λa=>PySem.W.mg_of X G a
 have F0:=ZM (st:=s0) l0 c0 k0;have B0:Binds K _ ["_law_script","_law_k"] []:=bd2 F0 λ_ _ _ _ _ _ _ _=>rfl
 have F1:=ZM (st:=s1) l1 c1 k1;have B1:Binds K _ ["_law_script","_law_k"] []:=bd2 F1 λ_ _ _ _ _ _ _ _=>rfl
 have F2:=ZM (st:=s2) l2 c2 k2;have B2:Binds K _ ["_law_state_here","_law_many"] []:=bd2 F2 λ_ _ _ _ _ _ _ _=>rfl
 have F3:=ZM (st:=s3) l3 c3 k3;have B3:Binds K _ ["_law_state_here","_law_most"] []:=bd2 F3 λ_ _ _ _ _ _ _ _=>rfl
 have F4:=ZM (st:=s4) l4 c4 k4;have B4:Binds K _ ["_law_space_here","_law_one","_law_other","_law_often"] []:=bd4 F4 λ_ _ _ _ _ _ _ _ _ _=>rfl
 have F5:=ZM (st:=s5) l5 c5 k5;have B5:Binds K _ ["_law_space_here","_law_rows"] []:=bd2 F5 λ_ _ _ _ _ _ _ _=>rfl
 have F6:=ZM (st:=s6) l6 c6 k6;have B6:Binds K _ ["_law_state_here","_law_space_here"] []:=bd2 F6 λ_ _ _ _ _ _ _ _=>rfl
 have F7:=ZM (st:=s7) l7 c7 k7;have B7:Binds K _ ["_law_state_here","_law_space_here"] []:=bd2 F7 λ_ _ _ _ _ _ _ _=>rfl
 have F8:=ZM (st:=s8) l8 c8 k8;have B8:Binds K _ ["row"] []:=bd1 F8 λ_ _ _ _ _ _ _=>rfl
 have F9:=ZM (st:=s9) l9 c9 k9;have B9:Binds K _ ["things"] []:=bd1 F9 λ_ _ _ _ _ _ _=>rfl
 have F10:=ZM (st:=s10) l10 c10 k10;have B10:Binds K _ ["rows","place"] []:=bd2 F10 λ_ _ _ _ _ _ _ _=>rfl
 have F11:=ZM (st:=s11) l11 c11 k11;have B11:Binds K _ ["rows","at","place"] []:=bd3 F11 λ_ _ _ _ _ _ _ _ _=>rfl
 have F12:=ZM (st:=s12) l12 c12 k12;have B12:Binds K _ ["thing","least","greatest"] []:=bd3 F12 λ_ _ _ _ _ _ _ _ _=>rfl
 have F13:=ZM (st:=s13) l13 c13 k13;have B13:Binds K _ ["space","thing"] []:=bd2 F13 λ_ _ _ _ _ _ _ _=>rfl
 have F14:=ZM (st:=s14) l14 c14 k14;have B14:Binds K _ ["space","thing"] []:=bd2 F14 λ_ _ _ _ _ _ _ _=>rfl
 have F15:=ZM (st:=s15) l15 c15 k15;have B15:Binds K _ ["space","thing"] []:=bd2 F15 λ_ _ _ _ _ _ _ _=>rfl
 have F16:=ZM (st:=s16) l16 c16 k16;have B16:Binds K _ ["space","one","other"] []:=bd3 F16 λ_ _ _ _ _ _ _ _ _=>rfl
 have F17:=ZM (st:=s17) l17 c17 k17;have B17:Binds K _ ["p","row","other","number"] []:=bd4 F17 λ_ _ _ _ _ _ _ _ _ _=>rfl
 have F18:=ZM (st:=s18) l18 c18 k18;have B18:Binds K _ ["p","row","other","head"] []:=bd4 F18 λ_ _ _ _ _ _ _ _ _ _=>rfl
 have F19:=ZM (st:=s19) l19 c19 k19;have B19:Binds K _ ["space","part","row"] []:=bd3 F19 λ_ _ _ _ _ _ _ _ _=>rfl
 have F20:=ZM (st:=s20) l20 c20 k20;have B20:Binds K _ ["p","row","number"] []:=bd3 F20 λ_ _ _ _ _ _ _ _ _=>rfl
 have F21:=ZM (st:=s21) l21 c21 k21;have B21:Binds K _ ["p","number"] []:=bd2 F21 λ_ _ _ _ _ _ _ _=>rfl
 have F22:=ZM (st:=s22) l22 c22 k22;have B22:Binds K _ ["space","part","row"] []:=bd3 F22 λ_ _ _ _ _ _ _ _ _=>rfl
 have F23:=ZM (st:=s23) l23 c23 k23;have B23:Binds K _ ["space","part","rows"] []:=bd3 F23 λ_ _ _ _ _ _ _ _ _=>rfl
 have F24:=ZM (st:=s24) l24 c24 k24;have B24:Binds K _ ["space","one","other"] []:=bd3 F24 λ_ _ _ _ _ _ _ _ _=>rfl
 have F25:=ZM (st:=s25) l25 c25 k25;have B25:Binds K _ ["space","thing"] []:=bd2 F25 λ_ _ _ _ _ _ _ _=>rfl
 have F26:=ZM (st:=s26) l26 c26 k26;have B26:Binds K _ ["space","rows"] []:=bd2 F26 λ_ _ _ _ _ _ _ _=>rfl
 have F27:=ZM (st:=s27) l27 c27 k27;have B27:Binds K _ ["space","part","free"] []:=bd3 F27 λ_ _ _ _ _ _ _ _ _=>rfl
 have F28:=ZM (st:=s28) l28 c28 k28;have B28:Binds K _ ["space","part"] []:=bd2 F28 λ_ _ _ _ _ _ _ _=>rfl
 have F29:=ZM (st:=s29) l29 c29 k29;have B29:Binds K _ ["space","one","other"] []:=bd3 F29 λ_ _ _ _ _ _ _ _ _=>rfl
 have F30:=ZM (st:=s30) l30 c30 k30;have B30:Binds K _ ["space","part","row"] []:=bd3 F30 λ_ _ _ _ _ _ _ _ _=>rfl
 have F31:=ZM (st:=s31) l31 c31 k31;have B31:Binds K _ ["space","part","row"] []:=bd3 F31 λ_ _ _ _ _ _ _ _ _=>rfl
 have F32:=ZM (st:=s32) l32 c32 k32;have B32:Binds K _ ["space","part"] []:=bd2 F32 λ_ _ _ _ _ _ _ _=>rfl
 have F33:=ZM (st:=s33) l33 c33 k33;have B33:Binds K _ ["_law_space_here","_law_one","_law_other","_law_third","_law_row"] []:=bd5 F33 λ_ _ _ _ _ _ _ _ _ _ _=>rfl
 have F34:=ZM (st:=s34) l34 c34 k34;have B34:Binds K _ ["space","one","other"] []:=bd3 F34 λ_ _ _ _ _ _ _ _ _=>rfl
 have F35:=ZM (st:=s35) l35 c35 k35;have B35:Binds K _ ["space","one","other"] []:=bd3 F35 λ_ _ _ _ _ _ _ _ _=>rfl
 have F36:=ZM (st:=s36) l36 c36 k36;have B36:Binds K _ ["space","one","other"] []:=bd3 F36 λ_ _ _ _ _ _ _ _ _=>rfl
 have F37:=ZM (st:=s37) l37 c37 k37;have B37:Binds K _ ["_law_space_here","_law_one","_law_other"] []:=bd3 F37 λ_ _ _ _ _ _ _ _ _=>rfl
 have F38:=ZM (st:=s38) l38 c38 k38;have B38:Binds K _ ["_law_script"] []:=bd1 F38 λ_ _ _ _ _ _ _=>rfl
 let ff:Nat->Addr:=λi=>[f0,f1,f2,f3,f4,f5,f6,f7,f8,f9,f10,f11,f12,f13,f14,f15,f16,f17,f18,f19,f20,f21,f22,f23,f24,f25,f26,f27,f28,f29,f30,f31,f32,f33,f34,f35,f36,f37,fa].getD i 0
 let gg:Nat->FuncData:=λi=>[Gn "_law_cell_at" s0 kV0 dc0 pm0 an0 cd0 ct0,Gn "_law_state" s1 kV1 dc1 pm1 an1 cd1 ct1,Gn "_law_take" s2 kV2 dc2 pm2 an2 cd2 ct2,Gn "_law_space" s3 kV3 dc3 pm3 an3 cd3 ct3,Gn "_law_plus" s4 kV4 dc4 pm4 an4 cd4 ct4,Gn "_law_reduced" s5 kV5 dc5 pm5 an5 cd5 ct5,Gn "_law_row_of" s6 kV6 dc6 pm6 an6 cd6 ct6,Gn "_law_part" s7 kV7 dc7 pm7 an7 cd7 ct7,Gn "head_of" s8 kV8 dc8 pm8 an8 cd8 ct8,Gn "is_rising" s9 kV9 dc9 pm9 an9 cd9 ct9,Gn "noughts_at" s10 kV10 dc10 pm10 an10 cd10 ct10,Gn "stands_alone" s11 kV11 dc11 pm11 an11 cd11 ct11,Gn "is_whole" s12 kV12 dc12 pm12 an12 cd12 ct12,Gn "is_row" s13 kV13 dc13 pm13 an13 cd13 ct13,Gn "is_part" s14 kV14 dc14 pm14 an14 cd14 ct14,Gn "need_part" s15 kV15 dc15 pm15 an15 cd15 ct15,Gn "need_parts" s16 kV16 dc16 pm16 an16 cd16 ct16,Gn "plus_times" s17 kV17 dc17 pm17 an17 cd17 ct17,Gn "cleared" s18 kV18 dc18 pm18 an18 cd18 ct18,Gn "left_over" s19 kV19 dc19 pm19 an19 cd19 ct19,Gn "times" s20 kV20 dc20 pm20 an20 cd20 ct20,Gn "inverse" s21 kV21 dc21 pm21 an21 cd21 ct21,Gn "widened" s22 kV22 dc22 pm22 an22 cd22 ct22,Gn "widened_by_all" s23 kV23 dc23 pm23 an23 cd23 ct23,Gn "joined" s24 kV24 dc24 pm24 an24 cd24 ct24,Gn "need_row" s25 kV25 dc25 pm25 an25 cd25 ct25,Gn "spanned" s26 kV26 dc26 pm26 an26 cd26 ct26,Gn "row_against" s27 kV27 dc27 pm27 an27 cd27 ct27,Gn "against" s28 kV28 dc28 pm28 an28 cd28 ct28,Gn "met" s29 kV29 dc29 pm29 an29 cd29 ct29,Gn "has_row" s30 kV30 dc30 pm30 an30 cd30 ct30,Gn "holds" s31 kV31 dc31 pm31 an31 cd31 ct31,Gn "rows_of" s32 kV32 dc32 pm32 an32 cd32 ct32,Gn "_law_three_right" s33 kV33 dc33 pm33 an33 cd33 ct33,Gn "is_within" s34 kV34 dc34 pm34 an34 cd34 ct34,Gn "lies_in" s35 kV35 dc35 pm35 an35 cd35 ct35,Gn "first_beyond" s36 kV36 dc36 pm36 an36 cd36 ct36,Gn "_law_two_right" s37 kV37 dc37 pm37 an37 cd37 ct37,Gn "law" s38 kV38 dc38 pm38 an38 cd38 ct38].getD i (Gn "law" s38 kV38 dc38 pm38 an38 cd38 ct38)
 have TT:Top l.prog w K mg ff gg:=
  ⟨F0,B0,m a0,F1,B1,m a1,F2,B2,m a2,F3,B3,m a3,F4,B4,m a4,F5,B5,m a5,F6,B6,m a6,F7,B7,m a7,F8,B8,m a8,F9,B9,m a9,F10,B10,m a10,F11,B11,m a11,F12,B12,m a12,F13,B13,m a13,F14,B14,m a14,F15,B15,m a15,F16,B16,m a16,F17,B17,m a17,F18,B18,m a18,F19,B19,m a19,F20,B20,m a20,F21,B21,m a21,F22,B22,m a22,F23,B23,m a23,F24,B24,m a24,F25,B25,m a25,F26,B26,m a26,F27,B27,m a27,F28,B28,m a28,F29,B29,m a29,F30,B30,m a30,F31,B31,m a31,F32,B32,m a32,F33,B33,m a33,F34,B34,m a34,F35,B35,m a35,F36,B36,m a36,F37,B37,m a37,F38,B38,m a38,PySem.W.mg_none_of X G z_all,PySem.W.mg_none_of X G z_bool,PySem.W.mg_none_of X G z_enumerate,PySem.W.mg_none_of X G z_int,PySem.W.mg_none_of X G z_isinstance,PySem.W.mg_none_of X G z_len,PySem.W.mg_none_of X G z_list,PySem.W.mg_none_of X G z_max,PySem.W.mg_none_of X G z_min,PySem.W.mg_none_of X G z_range,PySem.W.mg_none_of X G z_sorted,PySem.W.mg_none_of X G z_tuple,PySem.W.mg_none_of X G z_zip⟩
 refine⟨gg 38,λs v=>.of_eq rfl,λbase _ _=>?_⟩
 exact ZJ (base:=base) TT 65 38 (by decide)
theorem walk {l:PySem.W.OpenLaw}{q:Program}{loose:List Str}{XP:(Str->Option Value)->Heap->Prop}{YP:World->Heap->Prop}{d:DefRec}{K:Params->PySem.W.Frag}(hn:l.most=some 63) (hdf:d.params.defaults=[])
  (hY:∀(w:World) (h:Heap),YP w h->(K w.params).In h)
  (F:∀(w:World) (mg:Str->Option Value) (fa:Addr) (h:Heap),(K w.params).In h->h.Ns mainGlobals mg->mg d.name=some (.ref fa)->
   ∃fd:FuncData,(∀(s:Shared) (u:Value),BindsTo s fd ⟨[u],[]⟩ [("_law_script",u)])/\∀base:Heap,(K w.params).In base->base.Ns mainGlobals mg->FnOk l.prog w (K w.params) mg base CX0 65 fa fd ["_law_script"] (spF (K w.params) (Ev.calls fns 65) 38)) :
  PySem.W.WalkO q loose XP YP l.row.toRowW d [] (λf vs=>PySem.call f vs):=
 L2.ul (n:=63) (k:=65) (x:="_law_script") (CX:=λ_=>CX0) (sp:=λw=>spF (K w.params) (Ev.calls fns 65) 38) hn (by decide) hdf ⟨rfl,by decide,by decide⟩ hY F (λw H a ns hl hO hS=>xD hO hS (let ⟨S,_,e⟩:=K23.law_ok (ns:=ns) (S:=[.scr ns]) 55 rfl;⟨S,e⟩)) λ_ _ _ _ _ z=>z
end K23
def PySem.W.Fast.tw3441902299696457491:=0
def PySem.W.Fast.tw18259202684291349855:=0
def PySem.W.Fast.tw5619676925201890566:=0
def PySem.W.Fast.tw11627421022780469626:=0
def PySem.W.Fast.tw2154623605598074854:=0
def PySem.W.Fast.tw16378366204348517328:=0
def PySem.W.Fast.tw9376952537356454980:=0
def PySem.W.Fast.tw7844144681528813204:=0
def PySem.W.Fast.tw6746122418560901698:=0
def PySem.W.Fast.tw6020813171318932895:=0
def PySem.W.Fast.tw836734512667451175:=0
def PySem.W.Fast.tw1601458785860096860:=0
def PySem.W.Fast.tw11643096645464184864:=0
def PySem.W.Fast.tw4173786888278158765:=0
def PySem.W.Fast.tw1611746177294121250:=0
def PySem.W.Fast.tw16926581492331617955:=0
open PySem PySem.W PyProof.Rows
set_option maxRecDepth 100000 in
set_option maxHeartbeats 0 in
theorem PySem.Challenge.cw_fewspaces_k23_whole_joined_and_met_holds : PySem.Challenge.rw_fewspaces_k23_whole_joined_and_met.Holds := by
  w_on; o_law; k_head; (case hw => w_witness2)
  k_fill
  refine K23.walk (l := PySem.Challenge.rw_fewspaces_k23_whole_joined_and_met) rfl rfl (fun w h Y => PySem.W.kIn_of Y) ?F
  case F =>
    intro w mg fa h KX G hmg;refine' K23.jm KX G hmg ?a0 ?l0 ?c0 ?k0 ?a1 ?l1 ?c1 ?k1 ?a2 ?l2 ?c2 ?k2 ?a3 ?l3 ?c3 ?k3 ?a4 ?l4 ?c4 ?k4 ?a5 ?l5 ?c5 ?k5 ?a6 ?l6 ?c6 ?k6 ?a7 ?l7 ?c7 ?k7 ?a8 ?l8 ?c8 ?k8 ?a9 ?l9 ?c9 ?k9 ?a10 ?l10 ?c10 ?k10 ?a11 ?l11 ?c11 ?k11 ?a12 ?l12 ?c12 ?k12 ?a13 ?l13 ?c13 ?k13 ?a14 ?l14 ?c14 ?k14 ?a15 ?l15 ?c15 ?k15 ?a16 ?l16 ?c16 ?k16 ?a17 ?l17 ?c17 ?k17 ?a18 ?l18 ?c18 ?k18 ?a19 ?l19 ?c19 ?k19 ?a20 ?l20 ?c20 ?k20 ?a21 ?l21 ?c21 ?k21 ?a22 ?l22 ?c22 ?k22 ?a23 ?l23 ?c23 ?k23 ?a24 ?l24 ?c24 ?k24 ?a25 ?l25 ?c25 ?k25 ?a26 ?l26 ?c26 ?k26 ?a27 ?l27 ?c27 ?k27 ?a28 ?l28 ?c28 ?k28 ?a29 ?l29 ?c29 ?k29 ?a30 ?l30 ?c30 ?k30 ?a31 ?l31 ?c31 ?k31 ?a32 ?l32 ?c32 ?k32 ?a33 ?l33 ?c33 ?k33 ?a34 ?l34 ?c34 ?k34 ?a35 ?l35 ?c35 ?k35 ?a36 ?l36 ?c36 ?k36 ?a37 ?l37 ?c37 ?k37 ?a38 ?l38 ?c38 ?k38 ?z_all ?z_bool ?z_enumerate ?z_int ?z_isinstance ?z_len ?z_list ?z_max ?z_min ?z_range ?z_sorted ?z_tuple ?z_zip
    case a0|l0|c0|k0|a1|l1|c1|k1|a2|l2|c2|k2|a3|l3|c3|k3|a4|l4|c4|k4|a5|l5|c5|k5|a6|l6|c6|k6|a7|l7|c7|k7|a8|l8|c8|k8|a9|l9|c9|k9|a10|l10|c10|k10|a11|l11|c11|k11|a12|l12|c12|k12|a13|l13|c13|k13|a14|l14|c14|k14|a15|l15|c15|k15|a16|l16|c16|k16|a17|l17|c17|k17|a18|l18|c18|k18|a19|l19|c19|k19|a20|l20|c20|k20|a21|l21|c21|k21|a22|l22|c22|k22|a23|l23|c23|k23|a24|l24|c24|k24|a25|l25|c25|k25|a26|l26|c26|k26|a27|l27|c27|k27|a28|l28|c28|k28|a29|l29|c29|k29|a30|l30|c30|k30|a31|l31|c31|k31|a32|l32|c32|k32|a33|l33|c33|k33|a34|l34|c34|k34|a35|l35|c35|k35|a36|l36|c36|k36|a37|l37|c37|k37|a38|l38|c38|k38|z_all|z_bool|z_enumerate|z_int|z_isinstance|z_len|z_list|z_max|z_min|z_range|z_sorted|z_tuple|z_zip => (first | delta K23.An | delta K23.Zn | delta K23.Ln | delta K23.Cn | delta K23.Kn); k_is
