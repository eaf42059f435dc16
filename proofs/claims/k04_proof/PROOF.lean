import PyProof.Rows.All
import Wide.All
import OpenK.AllK
import Wide.FinOn
import Lean
import PyProof.EqAt
import PyProof.EqKinds
import PyProof.TupleCall
import KE.KSortTup
import PyProof.Rows.SortShellK
import PyProof.Rows.SortWalk
import KE.KDictList
import KE.KStar
import PyProof.ListMulRoad
import PyProof.FactsAll.tuple
import PySem.SetOps
import PyProof.SetScanFacts
import PyProof.SetNew
import PyProof.SetRoads
import PyProof.Rows.SetFrom
import PyProof.WalksMore
import PyProof.CollectWalk
import PySem.Challenge.RW_everalike_k04_whole_webs_put_together
set_option Elab.async false
set_option linter.all false
set_option maxRecDepth 100000
namespace L2
open PySem PySem.Spec PyProof.Rows
abbrev Key:=Sum Int Str
def mT:Key->Value->Bool
 | .inl k,v=>Value.isInt k v
 | .inr x,v=>Value.isStrOf x v
def Hk (w:World):Key->Int
 | .inl k=>hashInt k
 | .inr x=>hashStr w x
theorem bC:∀ {k:Key} {v:Value},mT k v=true->(∃ i t,k=Sum.inl i/\v=Value.int i t)\/(∃ x t,k=Sum.inr x/\v=Value.str x t)
 | .inl i,v,h=>by
  obtain ⟨t,e⟩:=Value.isInt_shape (k:=i) (v:=v) h
  exact .inl ⟨i,t,rfl,e⟩
 | .inr x,v,h=>by
  obtain ⟨t,e⟩:=Value.isStrOf_shape (x:=x) (v:=v) h
  exact .inr ⟨x,t,rfl,e⟩
theorem xj (i:Int) (t:Tok):mT (.inl i) (.int i t)=true:=by simp [mT,Value.isInt]
theorem xk (x:Str) (t:Tok):mT (.inr x) (.str x t)=true:=by simp [mT,Value.isStrOf]
theorem Dh (a b:Int):decide ((Sum.inl a:Key)=Sum.inl b)=(a == b):=by
 by_cases e:a=b
 ·subst e;simp
 ·have h:¬ (Sum.inl a:Key)=Sum.inl b:=fun q=>e (Sum.inl.inj q)
  rw [decide_eq_false h]
  exact (beq_eq_false_iff_ne.mpr e).symm
theorem Di (a b:Str):decide ((Sum.inr a:Key)=Sum.inr b)=decide (a=b):=by
 by_cases e:a=b
 ·subst e;simp
 ·have h:¬ (Sum.inr a:Key)=Sum.inr b:=fun q=>e (Sum.inr.inj q)
  rw [decide_eq_false h,decide_eq_false e]
theorem Dj (a:Int) (b:Str):decide ((Sum.inl a:Key)=Sum.inr b)=false:=decide_eq_false (fun q=>nomatch q)
theorem Dk (a:Str) (b:Int):decide ((Sum.inr a:Key)=Sum.inl b)=false:=decide_eq_false (fun q=>nomatch q)
def bU (prog:Program) (w:World):PySem.KeyKind prog w Key where
 is:=mT
 hash:=Hk w
 inj:=fun v a b ha hb=>by
  rcases bC ha with ⟨i,t,rfl,rfl⟩ | ⟨x,t,rfl,rfl⟩
  ·rcases bC hb with ⟨j,u,rfl,e⟩ | ⟨y,u,rfl,e⟩
   ·injection e with e1 _;rw [e1]
   ·exact nomatch e
  ·rcases bC hb with ⟨j,u,rfl,e⟩ | ⟨y,u,rfl,e⟩
   ·exact nomatch e
   ·injection e with e1 _;rw [e1]
 byValue:=fun k v h=>by
  rcases bC h with ⟨i,t,rfl,rfl⟩ | ⟨x,t,rfl,rfl⟩<;>rfl
 pyHash:=fun hv h=>by
  rcases bC hv with ⟨i,t,rfl,rfl⟩ | ⟨x,t,rfl,rfl⟩
  ·exact wpAny_pyHash_int h
  ·exact wpAny_pyHash_str h
 eqBool:=fun hu hv h=>by
  rcases bC hu with ⟨i,t,rfl,rfl⟩ | ⟨x,t,rfl,rfl⟩
  ·rcases bC hv with ⟨j,u,rfl,rfl⟩ | ⟨y,u,rfl,rfl⟩
   ·rw [Dh] at h;exact wpAny_eqBool_int h
   ·rw [Dj] at h;exact SeqAt.EqAt.int_str i t y u _ _ _ _ h
  ·rcases bC hv with ⟨j,u,rfl,rfl⟩ | ⟨y,u,rfl,rfl⟩
   ·rw [Dk] at h;exact SeqAt.EqAt.str_int x t j u _ _ _ _ h
   ·rw [Di] at h;exact wpAny_eqBool_str h
 «strs» := fun k x t v h=>by
  rcases bC h with ⟨i,u,rfl,e⟩ | ⟨y,u,rfl,e⟩
  ·exact nomatch e
  ·injection e with e1 _
   subst e1
   cases v<;>rfl
theorem sL (prog:Program) (w:World) (i:Int) (t:Tok):(bU prog w).is (.inl i) (.int i t)=true:=xj i t
theorem sM (prog:Program) (w:World) (x:Str) (t:Tok):(bU prog w).is (.inr x) (.str x t)=true:=xk x t
end L2
namespace L2
open PySem PySem.Spec PyProof.Rows
inductive V where
 | non | bl (b:Bool) | int (i:Int) | str (x:Str) | byt (b:Array UInt8) | flt (b:UInt64) | ref (a:Addr) | ty (n:String)
 deriving DecidableEq
def RelV:V->Value->Prop
 | .non,u=>u=Value.none
 | .bl b,u=>u=Value.bool b
 | .int i,u=>∃ t,u=Value.int i t
 | .str x,u=>∃ t,u=Value.str x t
 | .byt b,u=>∃ t,u=Value.bytes b t
 | .flt b,u=>∃ t,u=Value.float b t
 | .ref a,u=>u=Value.ref a
 | .ty n,u=>u=Value.type n
abbrev Vals:List V->List Value->Prop:=Paired RelV
theorem Vals.length {xs:List V} {us:List Value} (r:Vals xs us):xs.length=us.length:=Paired.length r
theorem Vals.get:∀ {xs:List V} {us:List Value} {i:Nat} {x:V},Vals xs us->xs[i]?=some x->∃ u,us[i]?=some u/\RelV x u
 | _,_,_,_,.nil,e=>by simp at e
 | _,_,0,_,.cons r _,e=>by simp at e;subst e;exact ⟨_,rfl,r⟩
 | _,_,i+1,x,.cons _ t,e=>by
  obtain ⟨u,h1,h2⟩:=Vals.get (i:=i) (x:=x) t (by simpa using e)
  exact ⟨u,by simpa using h1,h2⟩
theorem Vals.set {x:V} {u:Value} (r:RelV x u):∀ {xs:List V} {us:List Value} (i:Nat),Vals xs us->Vals (xs.set i x) (us.set i u)
 | _,_,_,.nil=>.nil
 | _,_,0,.cons _ t=>.cons r t
 | _,_,i+1,.cons q t=>.cons q (Vals.set r i t)
theorem Vals.append:∀ {xs ys:List V} {us ws:List Value},Vals xs us->Vals ys ws->Vals (xs++ys) (us++ws)
 | _,_,_,_,.nil,s=>s
 | _,_,_,_,.cons r t,s=>.cons r (Vals.append t s)
theorem Vals.take:∀ {xs:List V} {us:List Value} (n:Nat),Vals xs us->Vals (xs.take n) (us.take n)
 | _,_,0,_=>.nil
 | _,_,_+1,.nil=>.nil
 | _,_,n+1,.cons r t=>.cons r (Vals.take n t)
theorem Vals.drop:∀ {xs:List V} {us:List Value} (n:Nat),Vals xs us->Vals (xs.drop n) (us.drop n)
 | _,_,0,r=>r
 | _,_,_+1,.nil=>.nil
 | _,_,n+1,.cons _ t=>Vals.drop n t
def mU:Option V->Option Value->Prop
 | some v,some u=>RelV v u
 | none,none=>True
 | _,_=>False
def KV {κ:Type}:List (κ×V)->List (κ×Value)->Prop:=Paired fun (p:κ×V) (q:κ×Value)=>p.1=q.1/\RelV p.2 q.2
def kV:Key->V
 | .inl i=>.int i
 | .inr x=>.str x
inductive HO where
 | lst (xs:List V)
 | tup (xs:List V)
 | dK (kvs:List (Key×V)) | dT (kvs:List (List Key×V))
 | set (S:Int->Bool) (n:Nat)
 | ins (C dx:Addr) (fs:List (Str×V))
 | own (x:Addr)
 | xd (fs:List (Str×V))
 | met (f x:Addr)
 | rng (lo hi:Int)
 | frz (o:Obj) (u:HO)
 | tbl (ps:Array Value)
 | ext (φ:Heap->Prop)
abbrev Hp:=Addr->Option HO
def upd (H:Hp) (a:Addr) (o:HO):Hp:=fun b=>if b=a then some o else H b
theorem aW {H:Hp} {a:Addr} {o:HO}:upd H a o a=some o:=by unfold upd;rw [if_pos rfl]
theorem aA {H:Hp} {a b:Addr} {o:HO} (h:b≠a):upd H a o b=H b:=by unfold upd;rw [if_neg h]
theorem Fo {H:Hp} {a b:Addr} {o u:HO} (h:H a=some o) (h':H b=some u) (d:o≠u):a≠b:=by
 intro e;subst e;rw [h] at h';exact d (Option.some.inj h')
theorem aG {H:Hp} {a b:Addr} {o:HO} (h:H a=some o) (h':H b=none):a≠b:=by
 intro e;subst e;rw [h] at h';cases h'
section
variable (P:Program) (w:World)
def bY (H:Hp) (h:Heap) (a:Addr):HO->Prop
 | .lst xs=>xs.length<=sizeLine/\∃ (its:List Value) (n:Nat),Vals xs its/\h.get? a=some {cls:=.type "list",data:=.seq its.toArray n}
 | .tup xs=>xs.length<=sizeLine/\∃ its:List Value,Vals xs its/\IsTup h a its.toArray
 | .dK kvs=>kvs.length<=sizeLine/\(a == sysModules)=false/\∃ vs,KV kvs vs/\h.DictOf (bU P w) a vs
 | .dT kvs=>kvs.length<=sizeLine/\(a == sysModules)=false/\∃ xs:List (List Key×Addr×Value),
   Paired (fun (p:List Key×V) (q:List Key×Addr×Value)=>p.1=q.1/\H q.2.1=some (.tup (p.1.map kV))/\RelV p.2 q.2.2) kvs xs /\
   ∃ o es ep,h.get? a=some o/\o.ExactDict/\o.data=.dict es ep/\es.toList=xs.map (entryOfKey (tupleKind (bU P w)))/\(xs.map (·.1)).Nodup
 | .set S n=>h.SetOf (intKind P w) a S n
 | .ins C dx fs=>H dx=some (.own a)/\fs.length<=1000/\dx≠a/\h.get? a=some (PySem.W.instObj C dx) /\
   ∃ mA,h.Ns1 dx mA/\(∀ f,mU (fs.lookup f) (mA f))/\PySem.Within mA (fs.map (·.1))
 | .own _=>∃ o,h.get? a=some o
 | .xd fs=>∃ mA,h.Ns1 a mA/\∀ f,mU (fs.lookup f) (mA f)
 | .rng lo hi=>∃ t u v,h.get? a=some {cls:=.type "range",data:=.fields #[.int lo t,.int hi u,.int 1 v]}
 | .frz o u=>h.get? a=some o/\bY H h a u
 | .tbl ps=>h.get? a=some {cls:=.none,data:=.fields ps}
 | .met f x=>h.get? a=some (PySem.W.methodObj (.ref f) (.ref x))
 | .ext φ=>φ h/\(∃ o,h.get? a=some o)/\∀ h1 h2:Heap,φ h1->(∀ o,h1.get? a=some o->h2.get? a=some o)->φ h2
def iD (H:Hp) (h:Heap):Prop:=∀ a o,H a=some o->bY P w H h a o
end
section
variable {P:Program} {w:World} {H H':Hp} {h h':Heap} {a:Addr} {o:HO}
theorem bY.lt (x:bY P w H h a o):a < h.objs.size:=by
 cases o with
 | lst xs=>obtain ⟨_,_,_,_,e⟩:=x;exact Heap.lt_size e
 | tup xs=>obtain ⟨_,_,_,p⟩:=x;exact p.lt
 | dK kvs=>obtain ⟨_,_,_,_,o,_,_,e,_⟩:=x;exact Heap.lt_size e
 | dT kvs=>obtain ⟨_,_,_,_,o,_,_,e,_⟩:=x;exact Heap.lt_size e
 | set S n=>obtain ⟨o,_,_,_,e,_⟩:=x;exact Heap.lt_size e
 | ins C dx fs=>obtain ⟨_,_,_,e,_⟩:=x;exact Heap.lt_size e
 | own y=>obtain ⟨_,e⟩:=x;exact Heap.lt_size e
 | xd fs=>obtain ⟨_,⟨_,_,_,e,_⟩,_⟩:=x;exact Heap.lt_size e
 | rng lo hi=>obtain ⟨_,_,_,e⟩:=x;exact Heap.lt_size e
 | frz ob u=>obtain ⟨e,_⟩:=x;exact Heap.lt_size e
 | tbl ps=>exact Heap.lt_size (show h.get? a=some _ from x)
 | met f y=>exact Heap.lt_size (show h.get? a=some _ from x)
 | ext φ=>obtain ⟨_,⟨_,e⟩,_⟩:=x;exact Heap.lt_size e
theorem Paired.jh {α β:Type} {F G:α->β->Prop}:∀ {l₁:List α} {l₂:List β},Paired F l₁ l₂->(∀ a b,F a b->G a b)->Paired G l₁ l₂
 | _,_,.nil,_=>.nil
 | _,_,.cons r t,f=>.cons (f _ _ r) (Paired.jh t f)
theorem bY.qH (x:bY P w H h a o) (k:∀ b u,(b=a\/H b=some (.own a))->h.get? b=some u->h'.get? b=some u)
  (ho:∀ b,H b=some (.own a)->H' b=some (.own a)) (ht:∀ b xs,H b=some (.tup xs)->H' b=some (.tup xs)):bY P w H' h' a o:=by
 induction o with
 | lst xs=>obtain ⟨z,its,n,r,e⟩:=x;exact ⟨z,its,n,r,k _ _ (.inl rfl) e⟩
 | tup xs=>obtain ⟨z,its,r,ob,e,c⟩:=x;exact ⟨z,its,r,ob,k _ _ (.inl rfl) e,c⟩
 | dK kvs=>obtain ⟨z,y,vs,r,ob,es,ep,e,c⟩:=x;exact ⟨z,y,vs,r,ob,es,ep,k _ _ (.inl rfl) e,c⟩
 | dT kvs=>
  obtain ⟨z,y,xs,r,ob,es,ep,e,c⟩:=x
  exact ⟨z,y,xs,Paired.jh r fun p q z=>⟨z.1,ht _ _ z.2.1,z.2.2⟩,ob,es,ep,k _ _ (.inl rfl) e,c⟩
 | set S n=>obtain ⟨ob,es,ep,t,e,c⟩:=x;exact ⟨ob,es,ep,t,k _ _ (.inl rfl) e,c⟩
 | ins C dx fs=>
  obtain ⟨d,z,ne,e,mA,⟨od,es,ep,e2,c⟩,r⟩:=x
  exact ⟨ho _ d,z,ne,k _ _ (.inl rfl) e,mA,⟨od,es,ep,k _ _ (.inr d) e2,c⟩,r⟩
 | own y=>obtain ⟨ob,e⟩:=x;exact ⟨ob,k _ _ (.inl rfl) e⟩
 | xd fs=>obtain ⟨mA,⟨od,es,ep,e,c⟩,r⟩:=x;exact ⟨mA,⟨od,es,ep,k _ _ (.inl rfl) e,c⟩,r⟩
 | rng lo hi=>obtain ⟨t,u,v,e⟩:=x;exact ⟨t,u,v,k _ _ (.inl rfl) e⟩
 | frz ob u ih=>obtain ⟨e,q⟩:=x;exact ⟨k _ _ (.inl rfl) e,ih q⟩
 | tbl ps=>
  have e:h.get? a=some {cls:=.none,data:=.fields ps}:=x
  show h'.get? a=some {cls:=.none,data:=.fields ps}
  exact k a _ (.inl rfl) e
 | met f y=>
  have e:h.get? a=some (PySem.W.methodObj (.ref f) (.ref y)):=x
  show h'.get? a=some (PySem.W.methodObj (.ref f) (.ref y))
  exact k a _ (.inl rfl) e
 | ext φ=>obtain ⟨p,⟨o,e⟩,st⟩:=x;exact ⟨st _ _ p fun o q=>k _ _ (.inl rfl) q,⟨o,k _ _ (.inl rfl) e⟩,st⟩
theorem iD.lt (x:iD P w H h) (e:H a=some o):a < h.objs.size:=(x a o e).lt
theorem iD.fresh (x:iD P w H h) (e:h.objs.size<=a):H a=none:=by
 cases q:H a with
 | none=>rfl
 | some u=>exact absurd (Nat.lt_of_lt_of_le (x.lt q) e) (Nat.lt_irrefl _)
theorem iD.kept (x:iD P w H h) (k:∀ b u,h.get? b=some u->h'.get? b=some u):iD P w H h':=fun a o e=>
 (x a o e).qH (fun b u _ q=>k b u q) (fun _ q=>q) fun _ _ q=>q
theorem iD.laid (x:iD P w H h) (k:∀ b u,h.get? b=some u->h'.get? b=some u) (hp:h.objs.size<=a) (new:bY P w (upd H a o) h' a o):iD P w (upd H a o) h':=fun b u e=>by
 have hn:=x.fresh hp
 by_cases hb:b=a
 ·subst hb;rw [aW] at e;cases e;exact new
 ·rw [aA hb] at e
  exact (x b u e).qH (fun c v _ q=>k c v q) (fun c q=>by rw [aA (aG q hn)];exact q) fun c xs q=>by rw [aA (aG q hn)];exact q
end
def Rd (H:Hp) (a:Addr) (u:HO):Prop:=H a=some u\/∃ o,H a=some (.frz o u)
theorem Rd.ok {P:Program} {w:World} {H:Hp} {h:Heap} {a:Addr} {u:HO} (r:Rd H a u) (x:iD P w H h):bY P w H h a u:=by
 rcases r with r | ⟨o,r⟩
 ·exact x a u r
 ·obtain ⟨_,q⟩:=x a _ r
  exact q
def E5:Option HO->Prop
 | some (.lst _)=>True
 | some (.dK _)=>True
 | some (.dT _)=>True
 | some (.set _ _)=>True
 | some (.ins _ _ _)=>True
 | some (.ext _)=>True
 | _=>False
section
variable {P:Program} {w:World} {H:Hp} {h h':Heap} {x e:Addr} {o':HO}
theorem iD.write (ok:iD P w H h) (mu:E5 (H x)) (he:e=x\/H e=some (.own x)) (k:∀ b u,b≠e->h.get? b=some u->h'.get? b=some u) (heo:∃ u,h'.get? e=some u)
  (new:bY P w (upd H x o') h' x o'):iD P w (upd H x o') h':=fun b u q=>by
 have nown:∀ c y,H c=some (.own y)->c≠x:=fun c y r z=>by subst z;rw [r] at mu;exact mu
 have ntup:∀ c xs,H c=some (.tup xs)->c≠x:=fun c xs r z=>by subst z;rw [r] at mu;exact mu
 by_cases hb:b=x
 ·subst hb;rw [aW] at q;cases q;exact new
 ·rw [aA hb] at q
  by_cases hbe:b=e
  ·have q':H b=some (.own x):=by
    rcases he with z | z
    ·exact absurd (hbe.trans z) hb
    ·rw [hbe];exact z
   rw [q] at q';cases q'
   obtain ⟨v,hv⟩:=heo
   exact ⟨v,by rw [hbe];exact hv⟩
  ·refine (ok b u q).qH (fun c v hc r=>k c v ?_ r) (fun c r=>by rw [aA (nown c b r)];exact r) fun c xs r=>by rw [aA (ntup c xs r)];exact r
   rcases hc with rfl | hc
   ·exact hbe
   ·rintro rfl
    rcases he with z | z
    ·exact nown c b hc z
    ·rw [hc] at z;cases z;exact hb rfl
end
structure Un (fs ex:List Addr) (H H':Hp) (h h':Heap):Prop where
 keep:∀ b o,h.get? b=some o->H b=none->b∉fs->b∉ex->h'.get? b=some o
 slot:∀ b o,h.get? b=some o->H b=none->b∈fs->b∉ex->∃ sl,h'.get? b=some {o with slots:=sl}
 free:∀ b o,h.get? b=some o->H b=none->b∉ex->H' b=none
 there:∀ b o,h.get? b=some o->b∉ex->∃ o',h'.get? b=some o'
 tups:∀ b xs,H b=some (.tup xs)->H' b=some (.tup xs)
 frzs:∀ b o u,H b=some (.frz o u)->H' b=some (.frz o u)
 tbls:∀ b ps,H b=some (.tbl ps)->∃ more,H' b=some (.tbl (ps++more))
section
variable {fs fs' ex ex':List Addr} {H H1 H2:Hp} {h h1 h2 h':Heap} {a x e:Addr} {o:HO}
theorem Un.any (u:Un fs ex H H1 h h1) {b:Addr} {ob:Obj} (q:h.get? b=some ob) (n:H b=none) (hx:b∉ex):∃ sl,h1.get? b=some {ob with slots:=sl}:=by
 by_cases hb:b∈fs
 ·exact u.slot b ob q n hb hx
 ·exact ⟨ob.slots,u.keep b ob q n hb hx⟩
theorem Un.kept (k:∀ b u,h.get? b=some u->h'.get? b=some u):Un fs ex H H h h':=
 ⟨fun b ob q _ _ _=>k b ob q,fun b ob q _ _ _=>⟨ob.slots,k b ob q⟩,fun _ _ _ n _=>n,fun b ob q _=>⟨ob,k b ob q⟩,fun _ _ q=>q,fun _ _ _ q=>q,fun _ ps q=>⟨#[],by rw [q];simp⟩⟩
theorem Un.refl:Un fs ex H H h h:=Un.kept fun _ _ q=>q
theorem Un.laid (k:∀ b u,h.get? b=some u->h'.get? b=some u) (hp:h.objs.size<=a) (hn:H a=none):Un fs ex H (upd H a o) h h' where
 keep:=fun b u q _ _ _=>k b u q
 slot:=fun b u q _ _ _=>⟨u.slots,k b u q⟩
 free:=fun b u q n _=>by rw [aA (Nat.ne_of_lt (Nat.lt_of_lt_of_le (Heap.lt_size q) hp))];exact n
 there:=fun b u q _=>⟨u,k b u q⟩
 tups:=fun b xs q=>by rw [aA (aG q hn)];exact q
 frzs:=fun b u xs q=>by rw [aA (aG q hn)];exact q
 tbls:=fun b ps q=>⟨#[],by rw [aA (aG q hn),q];simp⟩
theorem Un.write (mu:E5 (H x)) (he:e=x\/H e=some (.own x)) (k:∀ b u,b≠e->h.get? b=some u->h'.get? b=some u) (heo:∃ u,h'.get? e=some u):Un fs ex H (upd H x o) h h':=by
 have hx:∀ b,H b=none->b≠x:=fun b n z=>by subst z;rw [n] at mu;exact mu
 have hb:∀ b,H b=none->b≠e:=fun b n z=>by
  subst z
  rcases he with r | r
  ·exact hx b n r
  ·rw [n] at r;cases r
 have hm:∀ b u,H b=some u->¬ E5 (some u)->b≠x:=fun b u q nm z=>by subst z;rw [q] at mu;exact nm mu
 refine ⟨fun b u q n _ _=>k b u (hb b n) q,fun b u q n _ _=>⟨u.slots,k b u (hb b n) q⟩,fun b u q n _=>by rw [aA (hx b n)];exact n,fun b u q _=>?_,
  fun b xs q=>by rw [aA (hm b _ q fun z=>z)];exact q,fun b u xs q=>by rw [aA (hm b _ q fun z=>z)];exact q,fun b ps q=>⟨#[],by rw [aA (hm b _ q fun z=>z),q];simp⟩⟩
 by_cases hbe:b=e
 ·subst hbe;exact heo
 ·exact ⟨u,k b u hbe q⟩
end
def xl (h:Heap) (H:Hp):List Addr:=(List.range h.objs.size).filter fun a=>(H a).isSome
def qI (h:Heap) (H:Hp):Heap:=PySem.W.hideAll h (xl h H)
theorem xm (h:Heap) (H:Hp):(qI h H).objs.size=h.objs.size:=PySem.W.hideAll_size _ _
theorem yi {h:Heap} {H:Hp} {b:Addr} {o:Obj} (e:h.get? b=some o) (n:H b=none):(qI h H).get? b=some o:=
 PySem.W.hideAll_get _ e fun hm=>by
  have q:(H b).isSome=true:=(List.mem_filter.mp hm).2
  rw [n] at q;simp at q
theorem AA {h:Heap} {H:Hp} {b:Addr} {o:Obj} (e:(qI h H).get? b=some o):h.get? b=some o/\H b=none:=by
 have e':h.get? b=some o:=PySem.W.of_hideAll (xl h H) e
 refine ⟨e',?_⟩
 cases q:H b with
 | none=>rfl
 | some x=>
  have hm:b∈xl h H:=List.mem_filter.mpr ⟨List.mem_range.mpr (Heap.lt_size e'),by simp [q]⟩
  have z:(qI h H).get? b=none:=PySem.W.hideAll_none (xl h H) hm
  rw [z] at e;cases e
def AB (g h:Heap) (L:Addr):List (Addr×Obj):=(List.range h.objs.size).filterMap fun a=>if a=L\/(g.get? a).isSome=true then none else (h.get? a).map fun o=>(a,o)
def rest (g h:Heap) (L d:Addr):List (Addr×Obj):=(AB g h L).filter fun p=>decide (p.1≠d)
end L2
namespace L2
open PySem PySem.Spec PyProof.Rows
structure Mod (K:PySem.W.Frag) (mg:Str->Option Value) (base:Heap):Prop where
 kin:K.In base
 glob:base.Ns mainGlobals mg
 blt:∃ mb,base.Ns builtinsNs mb/\∀ x:Str,x ≠ "__name__" -> mb x=bootBuiltins x
 nolimit:base.NoLimit
structure Cx where
 prog:Program
 w:World
 K:PySem.W.Frag
 mg:Str->Option Value
 base:Heap
 A:Around
 N:List Str
 s₀:Shared
 H₀:Hp
 env:Env
 outer:List Env
 stack:List Env
 ex:List Addr
 fn:Str->Bool
 calm:Bool
 pn:List (Addr×Obj)
 xe:Value->Shared->Prop
def sF (l:List Env):List Addr:=l.filterMap (·.frame)
abbrev Cx.fs (X:Cx):List Addr:=sF X.outer
def Cz (sc:Scope) (x:Str):Prop:=sc.names.lookup x=some .local\/sc.names.lookup x=some .cell\/sc.names.lookup x=some .free
def Loc (sc:Scope) (x:Str):Prop:=sc.names.lookup x=some .local\/sc.names.lookup x=some .cell
def Look (env:Env) (h:Heap) (m:Str->Option Value) (x:Str) (u:Value):Prop:=
 (env.kindOf x=some .local/\m x=some u)\/((env.kindOf x=some .cell\/env.kindOf x=some .free)/\∃ c,env.cells.lookup x=some c/\h.IsCell c (some u))
structure Cx.Ok (X:Cx):Prop where
 mod:Mod X.K X.mg X.base
 kind:X.env.scope.kind=.function
 glob:X.env.globals=mainGlobals
 blt:X.env.builtins=builtinsNs
 above:X.s₀.heap.objs.size<=X.env.locals
 inj:∀ x y c,X.env.cells.lookup x=some c->X.env.cells.lookup y=some c->x=y
 has:∀ x,(X.env.kindOf x=some .cell\/X.env.kindOf x=some .free)->∃ c,X.env.cells.lookup x=some c
 cab:∀ x c,X.fn x=true->X.env.cells.lookup x=some c->X.s₀.heap.objs.size<=c
 hd:X.calm=true->X.A.handled=none
 frames:X.A.frames=some X.stack
 gR:X.stack=X.outer\/(X.stack=X.env::X.outer/\X.env.frame=some X.env.locals)
 exf:∀ b∈X.ex,b≠X.env.locals/\∀ x c,X.env.cells.lookup x=some c->c≠b
 bs:∀ b o,X.base.get? b=some o->X.s₀.heap.get? b=some o/\X.H₀ b=none
 bsz:X.base.objs.size<=X.s₀.heap.objs.size
 noex:∀ b o,X.base.get? b=some o->b∉X.ex
 exfs:∀ b∈X.ex,b∉X.fs
 jG:X.s₀.heap.FunFrames X.base X.outer
 frf:∀ b∈X.fs,X.H₀ b=none
structure Inv (X:Cx) (pins:List (Addr×Obj)) (σ:List (Option V)) (H:Hp) (s:Shared):Prop where
 ok:X.Ok
 os:s.os=X.s₀.os
 bare:AllBare s.gens
 base:Un X.fs X.ex X.H₀ H X.s₀.heap s.heap
 loc:∃ m,s.heap.Ns X.env.locals m/\∀ (i:Nat) (x:Str) (v:V),X.N[i]?=some x->σ[i]?=some (some v)->Cz X.env.scope x->∃ u,RelV v u/\Look X.env s.heap m x u
 cell:∀ x c,X.env.cells.lookup x=some c->∃ v,s.heap.IsCell c v
 free:H X.env.locals=none
 freeC:∀ x c,X.env.cells.lookup x=some c->H c=none
 pin:∀ p∈X.pn++pins,s.heap.get? p.1=some p.2/\H p.1=none/\p.1≠X.env.locals/\p.1∉X.fs/\∀ v,p.2.data≠.cell v
 hok:iD X.prog X.w H s.heap
 len:σ.length=X.N.length
section
variable {X:Cx} {pins:List (Addr×Obj)} {σ:List (Option V)} {H H':Hp} {s:Shared} {h':Heap}
theorem Cx.Ok.Hl (ok:X.Ok) {b:Addr} {o:Obj} (e:X.base.get? b=some o):b∉X.fs:=fun hb=>by
 have:=(ok.jG.mem hb).1
 rw [e] at this;cases this
theorem Inv.bs (I:Inv X pins σ H s):∀ b o,X.base.get? b=some o->s.heap.get? b=some o/\H b=none:=fun b o e=>
 ⟨I.base.keep b o (I.ok.bs b o e).1 (I.ok.bs b o e).2 (I.ok.Hl e) (I.ok.noex b o e),I.base.free b o (I.ok.bs b o e).1 (I.ok.bs b o e).2 (I.ok.noex b o e)⟩
theorem Inv.bk (I:Inv X pins σ H s):∀ b o,X.base.get? b=some o->s.heap.get? b=some o:=fun b o e=>(I.bs b o e).1
theorem Inv.mod (I:Inv X pins σ H s):Mod X.K X.mg X.base:=I.ok.mod
theorem Inv.qJ (I:Inv X pins σ H s):X.K.In s.heap:=I.ok.mod.kin.keeps I.bk
theorem Inv.lt (I:Inv X pins σ H s):X.env.locals < s.heap.objs.size:=let ⟨_,hn,_⟩:=I.loc;hn.lt
theorem Inv.sz (I:Inv X pins σ H s):X.s₀.heap.objs.size<=s.heap.objs.size:=Nat.le_trans I.ok.above (Nat.le_of_lt I.lt)
theorem Inv.Dn (I:Inv X pins σ H s) {a:Addr} (h:s.heap.objs.size<=a):a∉X.fs:=fun hb=>by
 obtain ⟨_,o,ho,_⟩:=I.ok.jG.mem hb
 exact absurd (Nat.lt_of_lt_of_le (Heap.lt_size ho) (Nat.le_trans I.sz h)) (Nat.lt_irrefl _)
theorem Inv.Dp (I:Inv X pins σ H s):∀ x c,X.env.cells.lookup x=some c->c≠X.env.locals:=fun x c e z=>by
 obtain ⟨v,o,ho,hd⟩:=I.cell x c e
 obtain ⟨m,⟨o',es,ep,ho',hd',_⟩,_⟩:=I.loc
 rw [z,ho'] at ho;cases ho;rw [hd'] at hd;cases hd
theorem Inv.jG (I:Inv X pins σ H s):s.heap.FunFrames X.base X.outer:=by
 have all:∀ (l:List Env),(∀ b∈sF l,b∈X.fs)->X.s₀.heap.FunFrames X.base l->s.heap.FunFrames X.base l:=by
  intro l
  induction l with
  | nil=>intro _ _;trivial
  | cons env r ih=>
   intro hs hl
   obtain ⟨hk,⟨L,o,hf,hn,ho,hd⟩,hr⟩:=hl
   have hL:L∈X.fs:=hs L (by unfold sF;rw [List.filterMap_cons,hf];exact List.mem_cons_self)
   obtain ⟨sl,e⟩:=I.base.slot L o ho (I.ok.frf L hL) hL fun z=>I.ok.exfs L z hL
   exact ⟨hk,⟨L,_,hf,hn,e,hd⟩,ih (fun b hb=>hs b (by unfold sF;rw [List.filterMap_cons,hf];exact List.mem_cons_of_mem _ hb)) hr⟩
 exact all X.outer (fun _ hb=>hb) I.ok.jG
theorem Inv.stack (I:Inv X pins σ H s):s.heap.FunFrames X.base X.stack:=by
 rcases I.ok.gR with e | ⟨e,hf⟩
 ·rw [e];exact I.jG
 ·rw [e]
  obtain ⟨m,hn,_⟩:=I.loc
  refine .cons (by rw [I.ok.kind];decide) hf hn ?_ I.jG
  exact Heap.get?_none_of_le (Nat.le_trans I.ok.bsz I.ok.above)
theorem Inv.ku (I:Inv X pins σ H s):∀ b∈sF X.stack,b∈X.env.locals::X.fs:=fun b hb=>by
 rcases I.ok.gR with e | ⟨e,hf⟩
 ·rw [e] at hb;exact List.mem_cons_of_mem _ hb
 ·rw [e] at hb
  unfold sF at hb
  rw [List.filterMap_cons,hf] at hb
  exact hb
theorem Inv.vQ (I:Inv X pins σ H s):∀ b∈sF X.stack,H b=none:=fun b hb=>by
 rcases List.mem_cons.mp (I.ku b hb) with e | hb
 ·rw [e];exact I.free
 ·obtain ⟨_,o,ho,_⟩:=I.ok.jG.mem hb
  exact I.base.free b o ho (I.ok.frf b hb) fun z=>I.ok.exfs b z hb
theorem Inv.step {g':Array GenState} {t':Nat} {d':Drawn} {ch:List Addr} (I:Inv X pins σ H s)
  (hch:∀ b∈ch,(b∈X.ex\/X.s₀.heap.objs.size<=b)/\b≠X.env.locals/\(∀ x c,X.env.cells.lookup x=some c->c≠b)/\∀ p∈X.pn++pins,p.1≠b)
  (keep:∀ b o,b≠X.env.locals->b∉X.fs->b∉ch->s.heap.get? b=some o->H b=none->h'.get? b=some o)
  (slot:∀ b o,b≠X.env.locals->b∈X.fs->b∉ch->s.heap.get? b=some o->H b=none->∃ sl,h'.get? b=some {o with slots:=sl}) (free:∀ b o,b∉ch->s.heap.get? b=some o->H b=none->H' b=none)
  (there:∀ b o,b∉ch->s.heap.get? b=some o->∃ o',h'.get? b=some o')
  (tups:∀ b xs,H b=some (.tup xs)->H' b=some (.tup xs)) (frzs:∀ b o u,H b=some (.frz o u)->H' b=some (.frz o u)) (tbls:∀ b ps,H b=some (.tbl ps)->∃ more,H' b=some (.tbl (ps++more)))
  (ns:∀ m,s.heap.Ns X.env.locals m->h'.Ns X.env.locals m) (hok:iD X.prog X.w H' h') (hg:AllBare g') :
  Inv X pins σ H' {s with heap:=h',gens:=g',drawn:=d',toks:=t'}:=by
 have neL:∀ b o,X.s₀.heap.get? b=some o->b≠X.env.locals:=fun b o e=>Nat.ne_of_lt (Nat.lt_of_lt_of_le (Heap.lt_size e) I.ok.above)
 have neC:∀ b o,X.s₀.heap.get? b=some o->b∉X.ex->b∉ch:=fun b o e hx hb=>by
  rcases (hch b hb).1 with z | z
  ·exact hx z
  ·exact absurd (Nat.lt_of_lt_of_le (Heap.lt_size e) z) (Nat.lt_irrefl _)
 have cellK:∀ x c,X.env.cells.lookup x=some c->∀ v,s.heap.IsCell c v->h'.IsCell c v:=fun x c e v ⟨o,ho,hd⟩=>by
  have nch:c∉ch:=fun z=>(hch c z).2.2.1 x c e rfl
  by_cases hc:c∈X.fs
  ·obtain ⟨sl,q⟩:=slot c o (I.Dp x c e) hc nch ho (I.freeC x c e)
   exact ⟨_,q,hd⟩
  ·exact ⟨o,keep c o (I.Dp x c e) hc nch ho (I.freeC x c e),hd⟩
 refine ⟨I.ok,I.os,hg,⟨fun b o e n hb hx=>?_,fun b o e n hb hx=>?_,fun b o e n hx=>?_,fun b o e hx=>?_,fun b xs e=>tups b xs (I.base.tups b xs e),fun b o xs e=>frzs b o xs (I.base.frzs b o xs e),fun b ps e=>?_⟩,?_,fun x c e=>?_,?_,fun x c e=>?_,fun p hp=>?_,hok,I.len⟩
 ·exact keep b o (neL b o e) hb (neC b o e hx) (I.base.keep b o e n hb hx) (I.base.free b o e n hx)
 ·obtain ⟨sl,e1⟩:=I.base.slot b o e n hb hx
  obtain ⟨sl',e2⟩:=slot b _ (neL b o e) hb (neC b o e hx) e1 (I.base.free b o e n hx)
  exact ⟨sl',e2⟩
 ·obtain ⟨o',e1⟩:=I.base.there b o e hx
  exact free b o' (neC b o e hx) e1 (I.base.free b o e n hx)
 ·obtain ⟨o',e1⟩:=I.base.there b o e hx
  exact there b o' (neC b o e hx) e1
 ·obtain ⟨m1,e1⟩:=I.base.tbls b ps e
  obtain ⟨m2,e2⟩:=tbls b _ e1
  exact ⟨m1++m2,by rw [e2,Array.append_assoc]⟩
 ·obtain ⟨m,hn,hl⟩:=I.loc
  refine ⟨m,ns m hn,fun i x v e1 e2 e3=>?_⟩
  obtain ⟨u,r,l⟩:=hl i x v e1 e2 e3
  refine ⟨u,r,?_⟩
  rcases l with l | ⟨k,c,e,z⟩
  ·exact .inl l
  ·exact .inr ⟨k,c,e,cellK x c e _ z⟩
 ·obtain ⟨v,z⟩:=I.cell x c e
  exact ⟨v,cellK x c e v z⟩
 ·obtain ⟨m,⟨o,_,_,ho,_⟩,_⟩:=I.loc
  exact free _ o (fun z=>(hch _ z).2.1 rfl) ho I.free
 ·obtain ⟨v,o,ho,hd⟩:=I.cell x c e
  exact free c o (fun z=>(hch c z).2.2.1 x c e rfl) ho (I.freeC x c e)
 ·obtain ⟨e,n,ne,nf,d⟩:=I.pin p hp
  have nch:p.1∉ch:=fun z=>(hch p.1 z).2.2.2 p hp rfl
  exact ⟨keep p.1 p.2 ne nf nch e n,free p.1 p.2 nch e n,ne,nf,d⟩
theorem Inv.un {t':Nat} (I:Inv X pins σ H s) (u:Un X.fs [] H H' s.heap h') (hok:iD X.prog X.w H' h'):Inv X pins σ H' {s with heap:=h',toks:=t'}:=by
 obtain ⟨m,⟨o,es,ep,ho,r⟩,_⟩:=id I.loc
 obtain ⟨sl,hL⟩:=u.any ho I.free (by simp)
 exact I.step (g':=s.gens) (d':=s.drawn) (ch:=[]) (fun _ z=>nomatch z) (fun b o _ hb _ e n=>u.keep b o e n hb (by simp)) (fun b o _ hb _ e n=>u.slot b o e n hb (by simp)) (fun b o _ e n=>u.free b o e n (by simp)) (fun b o _ e=>u.there b o e (by simp)) u.tups u.frzs u.tbls (fun m' hm=>by
  obtain ⟨o',es',ep',ho',r'⟩:=hm
  rw [ho] at ho';cases ho'
  exact ⟨_,es',ep',hL,r'⟩) hok I.bare
theorem Inv.call {g':Array GenState} {t':Nat} {d':Drawn} {ch:List Addr} (I:Inv X pins σ H s) (u:Un (sF X.stack) ch H H' s.heap h') (hok:iD X.prog X.w H' h') (hg:AllBare g')
  (hch:∀ b∈ch,(b∈X.ex\/X.s₀.heap.objs.size<=b)/\b≠X.env.locals/\(∀ x c,X.env.cells.lookup x=some c->c≠b)/\∀ p∈X.pn++pins,p.1≠b) :
  Inv X pins σ H' {s with heap:=h',gens:=g',drawn:=d',toks:=t'}:=by
 obtain ⟨m,⟨o,es,ep,ho,r⟩,_⟩:=id I.loc
 obtain ⟨sl,hL⟩:=u.any ho I.free fun z=>(hch _ z).2.1 rfl
 exact I.step (ch:=ch) hch (fun b o hL hb hc e n=>u.keep b o e n (fun z=>(List.mem_cons.mp (I.ku b z)).elim hL hb) hc) (fun b o _ _ hc e n=>u.any e n hc) (fun b o hc e n=>u.free b o e n hc) (fun b o hc e=>u.there b o e hc) u.tups u.frzs u.tbls (fun m' hm=>by
  obtain ⟨o',es',ep',ho',r'⟩:=hm
  rw [ho] at ho';cases ho'
  exact ⟨_,es',ep',hL,r'⟩) hok hg
theorem Inv.turned {t':Nat} {it:Addr} (I:Inv X pins σ H s) (k:∀ b o,b≠it->s.heap.get? b=some o->h'.get? b=some o) (hn:H it=none) (hL:it≠X.env.locals)
  (h1:it∈X.ex\/X.s₀.heap.objs.size<=it) (h2:∀ x c,X.env.cells.lookup x=some c->c≠it) (h3:∀ p∈X.pn++pins,p.1≠it):Inv X pins σ H {s with heap:=h',toks:=t'}:=by
 have nit:∀ b u,H b=some u->b≠it:=fun b u e z=>by rw [z,hn] at e;cases e
 refine I.step (g':=s.gens) (d':=s.drawn) (ch:=[it]) (fun b hb=>?_) (fun b o _ _ hc e _=>k b o (fun z=>hc (by simp [z])) e) (fun b o _ _ hc e _=>⟨o.slots,k b o (fun z=>hc (by simp [z])) e⟩) (fun _ _ _ _ n=>n)
  (fun b o hc e=>⟨o,k b o (fun z=>hc (by simp [z])) e⟩) (fun _ _ e=>e) (fun _ _ _ e=>e) (fun b ps e=>⟨#[],by rw [e];simp⟩) (fun m hm=>?_) (fun b u e=>?_) I.bare
 ·have e:b=it:=by simpa using hb
  subst e
  exact ⟨h1,hL,h2,h3⟩
 ·obtain ⟨o,es,ep,ho,r⟩:=hm
  exact ⟨o,es,ep,k _ o (Ne.symm hL) ho,r⟩
 ·refine (I.hok b u e).qH (fun c v hc q=>k c v ?_ q) (fun _ q=>q) fun _ _ q=>q
  rcases hc with z | z
  ·rw [z];exact nit b u e
  ·exact nit c _ z
theorem Inv.tok (I:Inv X pins σ H s) (t:Nat):Inv X pins σ H {s with toks:=t}:=I.un (h':=s.heap) (t':=t) Un.refl I.hok
theorem Inv.kept {t':Nat} (I:Inv X pins σ H s) (k:∀ b u,s.heap.get? b=some u->h'.get? b=some u):Inv X pins σ H {s with heap:=h',toks:=t'}:=I.un (Un.kept k) (I.hok.kept k)
theorem Inv.laid {a:Addr} {o:HO} {t':Nat} (I:Inv X pins σ H s) (k:∀ b u,s.heap.get? b=some u->h'.get? b=some u) (hp:s.heap.objs.size<=a) (new:bY X.prog X.w (upd H a o) h' a o) :
  Inv X pins σ (upd H a o) {s with heap:=h',toks:=t'}:=I.un (Un.laid k hp (I.hok.fresh hp)) (I.hok.laid k hp new)
theorem Inv.write {x e:Addr} {o:HO} {t':Nat} (I:Inv X pins σ H s) (mu:E5 (H x)) (he:e=x\/H e=some (.own x)) (k:∀ b u,b≠e->s.heap.get? b=some u->h'.get? b=some u) (heo:∃ u,h'.get? e=some u)
  (new:bY X.prog X.w (upd H x o) h' x o):Inv X pins σ (upd H x o) {s with heap:=h',toks:=t'}:=I.un (Un.write mu he k heo) (I.hok.write mu he k heo new)
theorem Inv.jH {pins':List (Addr×Obj)} (I:Inv X pins σ H s) (h:∀ p∈pins',s.heap.get? p.1=some p.2/\H p.1=none/\p.1≠X.env.locals/\p.1∉X.fs/\∀ v,p.2.data≠.cell v):Inv X pins' σ H s:=
 ⟨I.ok,I.os,I.bare,I.base,I.loc,I.cell,I.free,I.freeC,fun p hp=>(List.mem_append.mp hp).elim (fun z=>I.pin p (List.mem_append_left _ z)) (h p),I.hok,I.len⟩
theorem sN {N:List Str} (hN:N.Nodup) {i j:Nat} {x:Str} (a:N[i]?=some x) (b:N[j]?=some x):i=j:=by
 obtain ⟨h1,e1⟩:=List.getElem?_eq_some_iff.mp a
 obtain ⟨h2,e2⟩:=List.getElem?_eq_some_iff.mp b
 exact (List.getElem_inj hN).mp (e1.trans e2.symm)
theorem pM {M:Model} {A:Around} {E:Value->Shared->Prop} {i:Nat} {x:Str} {v:V} {u:Value} {Q:Unit->Shared->Prop} (I:Inv X pins σ H s) (hN:X.N.Nodup) (hi:X.N[i]?=some x) (hx:Loc X.env.scope x) (r:RelV v u)
  (h:∀ s',Inv X pins (σ.set i (some v)) H s'->(∃ a,Heap.SameBut a s.heap s'.heap/\(a=X.env.locals\/X.env.cells.lookup x=some a))->Q () s') (hf:X.fn x=true\/X.env.scope.names.lookup x=some .local:=by first | exact .inl rfl | exact .inr rfl | assumption):wpAny M A (storeName X.env x u) Q E s:=by
 obtain ⟨m,hn,hl⟩:=id I.loc
 have hcls:(X.env.scope.kind == .class || (X.env.scope.kind == .module && X.env.locals != X.env.globals))=false:=by rw [I.ok.kind];rfl
 have hiσ:i < σ.length:=by rw [I.len];exact (List.getElem?_eq_some_iff.mp hi).1
 have Dp:=I.Dp
 have tracked:∀ {a:Addr} {h':Heap},(∃ o,s.heap.get? a=some o/\H a=none)->Heap.SameBut a s.heap h'->iD X.prog X.w H h':=fun {a h'} ha hs b ob e=>by
  obtain ⟨_,_,hfree⟩:=ha
  refine (I.hok b ob e).qH (fun c w' hc q=>(hs.2 c ?_).trans q) (fun _ q=>q) fun _ _ q=>q
  rintro rfl
  rcases hc with rfl | hc
  ·rw [hfree] at e;cases e
  ·rw [hfree] at hc;cases hc
 rcases hx with hk | hk
 ·refine wpAny_storeName_local hk hn (fun h' hn' hs=>?_) hcls
  obtain ⟨oL,_,_,hoL,_⟩:=id hn
  refine h _ ⟨I.ok,I.os,I.bare,⟨fun b o e n hb hx=>?_,fun b o e n hb hx=>?_,I.base.free,fun b o e hx=>?_,I.base.tups,I.base.frzs,I.base.tbls⟩,⟨_,hn',fun j y v' e1 e2 e3=>?_⟩,fun y c e=>?_,I.free,I.freeC,fun p hp=>?_,tracked ⟨oL,hoL,I.free⟩ hs,by simpa using I.len⟩ ⟨_,hs,.inl rfl⟩
  ·exact (hs.2 b (Nat.ne_of_lt (Nat.lt_of_lt_of_le (Heap.lt_size e) I.ok.above))).trans (I.base.keep b o e n hb hx)
  ·obtain ⟨sl,e1⟩:=I.base.slot b o e n hb hx
   exact ⟨sl,(hs.2 b (Nat.ne_of_lt (Nat.lt_of_lt_of_le (Heap.lt_size e) I.ok.above))).trans e1⟩
  ·obtain ⟨o',e1⟩:=I.base.there b o e hx
   exact ⟨o',(hs.2 b (Nat.ne_of_lt (Nat.lt_of_lt_of_le (Heap.lt_size e) I.ok.above))).trans e1⟩
  ·by_cases hj:j=i
   ·subst hj
    rw [hi] at e1;cases e1
    rw [List.getElem?_set_self hiσ] at e2
    cases e2
    exact ⟨u,r,.inl ⟨hk,by simp⟩⟩
   ·rw [List.getElem?_set_ne (Ne.symm hj)] at e2
    obtain ⟨u',r',q⟩:=hl j y v' e1 e2 e3
    refine ⟨u',r',?_⟩
    rcases q with ⟨k,e⟩ | ⟨k,c,e,z⟩
    ·refine .inl ⟨k,?_⟩
     have:y≠x:=fun e=>hj (sN hN e1 (e▸hi))
     simp [this,e]
    ·exact .inr ⟨k,c,e,z.sameBut hs (Dp y c e)⟩
  ·obtain ⟨w',z⟩:=I.cell y c e
   exact ⟨w',z.sameBut hs (Dp y c e)⟩
  ·obtain ⟨e,n,ne,nf,d⟩:=I.pin p hp
   exact ⟨(hs.2 p.1 ne).trans e,n,ne,nf,d⟩
 ·have hfn:X.fn x=true:=by
   rcases hf with z | z
   ·exact z
   ·rw [z] at hk;cases hk
  obtain ⟨c,hc⟩:=I.ok.has x (.inl hk)
  obtain ⟨w',z⟩:=I.cell x c hc
  refine wpAny_storeName_cell I.ok.kind hk hc z (fun h' hc' hs=>?_)
  obtain ⟨oc,hoc,hocd⟩:=id z
  refine h {s with heap:=h'} ⟨I.ok,I.os,I.bare,⟨fun b o e n hb hx=>?_,fun b o e n hb hx=>?_,I.base.free,fun b o e hx=>?_,I.base.tups,I.base.frzs,I.base.tbls⟩,⟨m,hn.sameBut hs (Ne.symm (Dp x c hc)),fun j y v' e1 e2 e3=>?_⟩,fun y c' e=>?_,I.free,I.freeC,fun p hp=>?_,tracked ⟨oc,hoc,I.freeC x c hc⟩ hs,by simpa using I.len⟩ ⟨c,hs,.inr hc⟩
  ·exact (hs.2 b (Nat.ne_of_lt (Nat.lt_of_lt_of_le (Heap.lt_size e) (I.ok.cab x c hfn hc)))).trans (I.base.keep b o e n hb hx)
  ·obtain ⟨sl,e1⟩:=I.base.slot b o e n hb hx
   exact ⟨sl,(hs.2 b (Nat.ne_of_lt (Nat.lt_of_lt_of_le (Heap.lt_size e) (I.ok.cab x c hfn hc)))).trans e1⟩
  ·obtain ⟨o',e1⟩:=I.base.there b o e hx
   exact ⟨o',(hs.2 b (Nat.ne_of_lt (Nat.lt_of_lt_of_le (Heap.lt_size e) (I.ok.cab x c hfn hc)))).trans e1⟩
  ·by_cases hj:j=i
   ·subst hj
    rw [hi] at e1;cases e1
    rw [List.getElem?_set_self hiσ] at e2
    cases e2
    exact ⟨u,r,.inr ⟨.inl hk,c,hc,hc'⟩⟩
   ·rw [List.getElem?_set_ne (Ne.symm hj)] at e2
    obtain ⟨u',r',q⟩:=hl j y v' e1 e2 e3
    refine ⟨u',r',?_⟩
    rcases q with q | ⟨k,c',e,z'⟩
    ·exact .inl q
    ·refine .inr ⟨k,c',e,z'.sameBut hs ?_⟩
     rintro rfl
     exact hj (sN hN e1 (I.ok.inj _ _ _ e hc▸hi))
  ·by_cases hcc:c'=c
   ·subst hcc;exact ⟨_,hc'⟩
   ·obtain ⟨w2,z2⟩:=I.cell y c' e
    exact ⟨w2,z2.sameBut hs hcc⟩
  ·obtain ⟨e,n,ne,nf,d⟩:=I.pin p hp
   refine ⟨(hs.2 p.1 ?_).trans e,n,ne,nf,d⟩
   intro q
   rw [q,hoc] at e
   have q':oc=p.2:=Option.some.inj e
   exact d w' (by rw [<- q'];exact hocd)
theorem gX {M:Model} {A:Around} {E:Value->Shared->Prop} {i:Nat} {x:Str} {v:V} {u:Value} {Q:Unit->Shared->Prop} (I:Inv X pins σ H s) (hN:X.N.Nodup) (hi:X.N[i]?=some x) (hx:Loc X.env.scope x) (r:RelV v u)
  (h:∀ s',Inv X pins (σ.set i (some v)) H s'->Q () s') (hf:X.fn x=true\/X.env.scope.names.lookup x=some .local:=by first | exact .inl rfl | exact .inr rfl | assumption):wpAny M A (storeName X.env x u) Q E s:=
 pM I hN hi hx r (fun s' I' _=>h s' I') hf
theorem Inv.CA {s':Shared} {ch:List Addr} (I:Inv X pins σ H s) (ho:s'.os=s.os) (u:Un (sF X.stack) ch H H' s.heap s'.heap) (hok:iD X.prog X.w H' s'.heap) (hg:AllBare s'.gens)
  (hch:∀ b∈ch,(b∈X.ex\/X.s₀.heap.objs.size<=b)/\b≠X.env.locals/\(∀ x c,X.env.cells.lookup x=some c->c≠b)/\∀ p∈X.pn++pins,p.1≠b):Inv X pins σ H' s':=by
 obtain ⟨h',g',d',t',o'⟩:=s'
 have e:o'=s.os:=ho
 subst e
 exact I.call (g':=g') (t':=t') (d':=d') u hok hg hch
end
abbrev XK:=Value->Option Addr->Hp->Prop
abbrev St:=List (Option V)
abbrev VK:=V->Hp->Prop
abbrev TE:=St->Hp->VK->Prop
abbrev TT:=St->Hp->(Bool->Hp->Prop)->Prop
abbrev TA:=St->Hp->(List V->Hp->Prop)->Prop
structure Ends where
 nx:St->Hp->Prop
 rt:VK
 bk:St->Hp->Prop:=fun _ _=>False
 ct:St->Hp->Prop:=fun _ _=>False
abbrev TS:=Ends->St->Hp->Prop
def EP (X:Cx) (pins:List (Addr×Obj)) (σ:St) (Q:VK) (u:Value) (s':Shared):Prop:=∃ v H',Inv X pins σ H' s'/\RelV v u/\Q v H'
def TP (X:Cx) (pins:List (Addr×Obj)) (σ:St) (Q:Bool->Hp->Prop) (b:Bool) (s':Shared):Prop:=∃ H',Inv X pins σ H' s'/\Q b H'
def AP (X:Cx) (pins:List (Addr×Obj)) (σ:St) (Q:List V->Hp->Prop) (us:List Value) (s':Shared):Prop:=∃ vs H',Inv X pins σ H' s'/\Vals vs us/\Q vs H'
def SP (X:Cx) (pins:List (Addr×Obj)) (D:Ends) (f:Flow) (s':Shared):Prop:=
 match f with
 | .next=>∃ σ' H',Inv X pins σ' H' s'/\D.nx σ' H'
 | .brk=>∃ σ' H',Inv X pins σ' H' s'/\D.bk σ' H'
 | .cont=>∃ σ' H',Inv X pins σ' H' s'/\D.ct σ' H'
 | .ret u=>∃ v σ' H',Inv X pins σ' H' s'/\RelV v u/\D.rt v H'
def PE (X:Cx) (e:Expr) (t:TE):Prop:=
 ∀ (pins:List (Addr×Obj)) (s:Shared) (σ:St) (H:Hp) (Q:VK),Inv X pins σ H s->t σ H Q->wpAny (model X.prog X.w) X.A (eval e X.env) (EP X pins σ Q) X.xe s
def PT (X:Cx) (e:Expr) (t:TT):Prop:=
 ∀ (pins:List (Addr×Obj)) (s:Shared) (σ:St) (H:Hp) (Q:Bool->Hp->Prop),Inv X pins σ H s->t σ H Q->wpAny (model X.prog X.w) X.A (isTrue e X.env (eval e X.env)) (TP X pins σ Q) X.xe s
def PW (X:Cx) (e:Expr) (t:TT):Prop:=
 ∀ (whole:Sem Value) (pins:List (Addr×Obj)) (s:Shared) (σ:St) (H:Hp) (Q:Bool->Hp->Prop),Inv X pins σ H s->t σ H Q->wpAny (model X.prog X.w) X.A (isTrue e X.env whole) (TP X pins σ Q) X.xe s
theorem PW.pt {X:Cx} {e:Expr} {t:TT} (h:PW X e t):PT X e t:=h _
def PA (X:Cx) (es:List Expr) (t:TA):Prop:=
 ∀ (pos:Pos) (pins:List (Addr×Obj)) (s:Shared) (σ:St) (H:Hp) (Q:List V->Hp->Prop),Inv X pins σ H s->t σ H Q->wpAny (model X.prog X.w) X.A (spliced (backTo pos (starEach es X.env))) (AP X pins σ Q) X.xe s
def PS (X:Cx) (st:Stmt) (t:TS):Prop:=
 ∀ (pins:List (Addr×Obj)) (s:Shared) (σ:St) (H:Hp) (D:Ends),Inv X pins σ H s->t D σ H->wpAny (model X.prog X.w) X.A (exec st X.env) (SP X pins D) X.xe s
def uC (X:Cx) (st:List Stmt) (t:TS):Prop:=
 ∀ (pins:List (Addr×Obj)) (s:Shared) (σ:St) (H:Hp) (D:Ends),Inv X pins σ H s->t D σ H->wpAny (model X.prog X.w) X.A (execs st X.env) (SP X pins D) X.xe s
theorem cf {α:Type} {t:Sem α} {Q Q':α->Shared->Prop} {M:Model} {A:Around} {E:Value->Shared->Prop} {s:Shared} (h:wpAny M A t Q E s) (hQ:∀ a s,Q a s->Q' a s):wpAny M A t Q' E s:=wpAny_mono h hQ fun _ _ x=>x
end L2
namespace L2
open PySem PySem.Spec PyProof.Rows
section
variable {X:Cx}
def Hn (i:Nat):TE:=fun σ H Q=>∃ v,σ[i]?=some (some v)/\Q v H
def tC (v:V):TE:=fun _ H Q=>Q v H
theorem Dq {i:Nat} {x:Str} {pos:Pos} (hN:X.N[i]?=some x) (hv:Cz X.env.scope x) (hd:(x == ("__debug__" : Str))=false:=by decide) (hcd:(x == ("__classdict__" : Str))=false:=by decide):PE X (.Name x pos) (Hn i):=by
 intro pins s σ H Q I h
 obtain ⟨v,e,h⟩:=h
 obtain ⟨m,hn,hl⟩:=I.loc
 obtain ⟨u,r,l⟩:=hl i x v hN e hv
 have fin:EP X pins σ Q u s:=⟨v,H,I,r,h⟩
 rcases l with ⟨hk,hm⟩ | ⟨hk,c,hc,hcell⟩
 ·exact wpAny_Name (wpAny_loadName_local I.ok.kind hk hn hm fin) hd
 ·rcases hk with hk | hk
  ·exact wpAny_Name (wpAny_loadName_cell I.ok.kind hk hc hcell fin) hd
  ·exact wpAny_Name (wpAny_loadName_free I.ok.kind hk hc hcell fin hcd) hd
theorem ky {i j pos}:PE X (.Constant (.int i) j pos) (tC (.int i)):=fun _ _ _ H _ I h=>wpAny_Constant_int ⟨.int i,H,I.tok _,⟨_,rfl⟩,h⟩
theorem CB {b j pos}:PE X (.Constant (.bool b) j pos) (tC (.bl b)):=fun _ _ _ H _ I h=>Constant_bool ⟨.bl b,H,I,rfl,h⟩
theorem Ds {j pos}:PE X (.Constant .none j pos) (tC .non):=fun _ _ _ H _ I h=>Constant_none ⟨.non,H,I,rfl,h⟩
theorem uF {x j pos}:PE X (.Constant (.str x) j pos) (tC (.str x)):=fun _ _ _ H _ I h=>Calls.Constant_str ⟨.str x,H,I.tok _,⟨_,rfl⟩,h⟩
def Gl (X:Cx) (x:Str):Prop:=X.env.kindOf x=some .globalImplicit
theorem vR {E:Value->Shared->Prop} {pins:List (Addr×Obj)} {s:Shared} {σ:St} {H:Hp} {x:Str} {u:Value} {pos:Pos} {Q:Value->Shared->Prop} (I:Inv X pins σ H s) (hg:Gl X x) (hm:X.mg x=some u) (h:Q u s)
  (hd:(x == ("__debug__" : Str))=false:=by decide):wpAny (model X.prog X.w) X.A (eval (.Name x pos) X.env) Q E s:=
 Calls.Name_function_global I.ok.kind hg (Calls.loadGlobal_global (by rw [I.ok.glob];exact I.mod.glob.keeps I.bk) hm h) hd
theorem gw {E:Value->Shared->Prop} {pins:List (Addr×Obj)} {s:Shared} {σ:St} {H:Hp} {x:Str} {u:Value} {pos:Pos} {Q:Value->Shared->Prop} (I:Inv X pins σ H s) (hg:Gl X x) (hm:X.mg x=none) (hv:bootBuiltins x=some u) (h:Q u s)
  (hn:x ≠ "__name__" := by decide) (hd:(x == ("__debug__" : Str))=false:=by decide):wpAny (model X.prog X.w) X.A (eval (.Name x pos) X.env) Q E s:=by
 obtain ⟨mb,h1,h2⟩:=I.mod.blt
 exact Calls.Name_function_global I.ok.kind hg (Calls.loadGlobal_builtin (by rw [I.ok.glob];exact I.mod.glob.keeps I.bk) hm (by rw [I.ok.blt];exact h1.keeps I.bk) ((h2 x hn).trans hv) h) hd
theorem AD {x:Str} {v:V} {u:Value} {pos:Pos} (hg:Gl X x) (hm:X.mg x=some u) (r:RelV v u) (hd:(x == ("__debug__" : Str))=false:=by decide):PE X (.Name x pos) (tC v):=
 fun _ _ _ H _ I h=>vR I hg hm ⟨v,H,I,r,h⟩ hd
theorem AE {x:Str} {v:V} {u:Value} {pos:Pos} (hg:Gl X x) (hm:X.mg x=none) (hv:bootBuiltins x=some u) (r:RelV v u) (hn:x ≠ "__name__" := by decide) (hd:(x == ("__debug__" : Str))=false:=by decide):PE X (.Name x pos) (tC v):=
 fun _ _ _ H _ I h=>gw I hg hm hv ⟨v,H,I,r,h⟩ hn hd
variable {a b:Expr} {ta tb:TE} {pos:Pos}
variable {tA tB':TT} {rest:List Expr}
def yj (t u:TT):TT:=fun σ H Q=>t σ H fun c H1=>if c=true then u σ H1 Q else Q false H1
def uG (t u:TT):TT:=fun σ H Q=>t σ H fun c H1=>if c=true then Q true H1 else u σ H1 Q
def ji (t:TT):TT:=fun σ H Q=>t σ H fun c H1=>Q (!c) H1
theorem AF (ha:PT X a tA):PW X (.BoolOp .And [a] pos) tA:=by
 intro wh pins s σ H Q I h
 refine isTrue_and (cf (ha pins s σ H Q I h) fun c s1 e=>?_)
 cases c with
 | true=>exact isTrue_and_nil e
 | false=>exact e
theorem Dt (ha:PT X a tA):PW X (.BoolOp .Or [a] pos) tA:=by
 intro wh pins s σ H Q I h
 refine isTrue_or (cf (ha pins s σ H Q I h) fun c s1 e=>?_)
 cases c with
 | false=>exact isTrue_or_nil e
 | true=>exact e
theorem Du (ha:PT X a tA) (hb:PW X (.BoolOp .And (b::rest) pos) tB'):PW X (.BoolOp .And (a::b::rest) pos) (yj tA tB'):=by
 intro wh pins s σ H Q I h
 refine isTrue_and (cf (ha pins s σ H _ I h) fun c s1 ⟨H1,I1,q1⟩=>?_)
 cases c with
 | true=>exact hb wh pins s1 σ H1 Q I1 q1
 | false=>exact ⟨H1,I1,q1⟩
theorem Fp (ha:PT X a tA) (hb:PW X (.BoolOp .Or (b::rest) pos) tB'):PW X (.BoolOp .Or (a::b::rest) pos) (uG tA tB'):=by
 intro wh pins s σ H Q I h
 refine isTrue_or (cf (ha pins s σ H _ I h) fun c s1 ⟨H1,I1,q1⟩=>?_)
 cases c with
 | true=>exact ⟨H1,I1,q1⟩
 | false=>exact hb wh pins s1 σ H1 Q I1 q1
theorem Dv (ha:PT X a tA):PT X (.UnaryOp .Not a pos) (ji tA):=by
 intro pins s σ H Q I h
 exact isTrue_not (ha pins s σ H (fun c H1=>Q (!c) H1) I h)
theorem Dw {op} {t:TE} (h:PE X a t):PE X (.BoolOp op [a] pos) t:=fun pins s σ H Q I hw=>BoolOp_one (h pins s σ H Q I hw)
def Jv (t:TT) (ta tb:TE):TE:=fun σ H Q=>t σ H fun c H1=>if c=true then ta σ H1 Q else tb σ H1 Q
theorem yk {c:Expr} (hc:PT X c tA) (ha:PE X a ta) (hb:PE X b tb):PE X (.IfExp c a b pos) (Jv tA ta tb):=by
 intro pins s σ H Q I h
 refine wpAny_IfExp (cf (hc pins s σ H _ I h) fun d s1 ⟨H1,I1,q1⟩=>?_)
 cases d with
 | true=>exact ha pins s1 σ H1 Q I1 q1
 | false=>exact hb pins s1 σ H1 Q I1 q1
end
end L2
namespace L2
open PySem PySem.Spec PyProof.Rows
def gc (K:PySem.W.Frag) (H:Hp) (a:Addr) (xs:List V):Prop:=
 Rd H a (.lst xs) \/
  ∃ (o:Obj) (its:Array Value) (n:Nat),K.lookup a=some o/\o.cls=.type "list" /\ o.dict=none/\o.data=.seq its n/\its.size<=sizeLine/\Vals xs its.toList
def eR (K:PySem.W.Frag) (H:Hp) (a:Addr) (xs:List V):Prop:=
 Rd H a (.tup xs) \/
  ∃ (o:Obj) (its:Array Value) (n:Nat),K.lookup a=some o/\o.cls=.type "tuple" /\ o.data=.seq its n/\its.size<=sizeLine/\Vals xs its.toList
def Ho:Value->Option V
 | .none=>some .non
 | .bool b=>some (.bl b)
 | .int i _=>some (.int i)
 | .str x _=>some (.str x)
 | .bytes b _=>some (.byt b)
 | .float b _=>some (.flt b)
 | .ref a=>some (.ref a)
 | .type n=>some (.ty n)
 | _=>none
theorem RelV.abs {x:V} {u:Value} (r:RelV x u):Ho u=some x:=by
 cases x with
 | non=>cases r;rfl
 | bl _=>cases r;rfl
 | int _=>obtain ⟨t,rfl⟩:=r;rfl
 | str _=>obtain ⟨t,rfl⟩:=r;rfl
 | byt _=>obtain ⟨t,rfl⟩:=r;rfl
 | flt _=>obtain ⟨t,rfl⟩:=r;rfl
 | ref _=>cases r;rfl
 | ty _=>cases r;rfl
theorem RelV.inj {x y:V} {u:Value} (r:RelV x u) (q:RelV y u):x=y:=Option.some.inj (r.abs.symm.trans q.abs)
theorem Vals.inj:∀ {xs ys:List V} {us:List Value},Vals xs us->Vals ys us->xs=ys
 | _,_,_,.nil,.nil=>rfl
 | _,_,_,.cons r t,.cons r' t'=>by rw [r.inj r',Vals.inj t t']
section
variable {X:Cx} {pins:List (Addr×Obj)} {σ:St} {H:Hp} {s:Shared} {a:Addr} {xs ys:List V}
theorem gc.of {K:PySem.W.Frag} (h:H a=some (.lst xs)):gc K H a xs:=.inl (.inl h)
theorem eR.of {K:PySem.W.Frag} (h:H a=some (.tup xs)):eR K H a xs:=.inl (.inl h)
theorem Inv.list (I:Inv X pins σ H s) (h:gc X.K H a xs):∃ its:List Value,Vals xs its/\PlainL s.heap a its.toArray/\xs.length<=sizeLine:=by
 rcases h with h | ⟨o,its,n,hk,hc,hd,hs,hz,r⟩
 ·obtain ⟨z,its,n,r,e⟩:=h.ok I.hok
  exact ⟨its,r,⟨_,n,e,rfl,rfl,rfl⟩,z⟩
 ·refine ⟨its.toList,r,⟨o,n,I.qJ a o hk,hc,hd,by simpa using hs⟩,?_⟩
  have e:=r.length
  simp only [Array.length_toList] at e
  omega
theorem Inv.tuple (I:Inv X pins σ H s) (h:eR X.K H a xs):∃ its:List Value,Vals xs its/\IsTup s.heap a its.toArray/\xs.length<=sizeLine:=by
 rcases h with h | ⟨o,its,n,hk,hc,hs,hz,r⟩
 ·obtain ⟨z,its,r,p⟩:=h.ok I.hok
  exact ⟨its,r,p,z⟩
 ·refine ⟨its.toList,r,⟨o,I.qJ a o hk,hc,n,by simpa using hs⟩,?_⟩
  have e:=r.length
  simp only [Array.length_toList] at e
  omega
theorem Inv.yl (I:Inv X pins σ H s) (h:gc X.K H a xs) (h':gc X.K H a ys):xs=ys:=by
 obtain ⟨its,r,⟨o,n,e,_,_,d⟩,_⟩:=I.list h
 obtain ⟨its',r',⟨o',n',e',_,_,d'⟩,_⟩:=I.list h'
 rw [e] at e';cases e'
 rw [d] at d'
 injection d' with d1 _
 have:its=its':=by simpa using congrArg Array.toList d1
 subst this
 exact r.inj r'
theorem Inv.kz (I:Inv X pins σ H s) (h:eR X.K H a xs) (h':eR X.K H a ys):xs=ys:=by
 obtain ⟨its,r,⟨o,e,_,n,d⟩,_⟩:=I.tuple h
 obtain ⟨its',r',⟨o',e',_,n',d'⟩,_⟩:=I.tuple h'
 rw [e] at e';cases e'
 rw [d] at d'
 injection d' with d1 _
 have:its=its':=by simpa using congrArg Array.toList d1
 subst this
 exact r.inj r'
end
abbrev Cx.pe (X:Cx) (E:Value->Shared->Prop):Cx:={X with xe:=E}
abbrev Cx.E6 (X:Cx):Cx:=X.pe fun _ _=>False
theorem Cx.Ok.pe {X:Cx} (ok:X.Ok) (E:Value->Shared->Prop):(X.pe E).Ok:=
 ⟨ok.mod,ok.kind,ok.glob,ok.blt,ok.above,ok.inj,ok.has,ok.cab,ok.hd,ok.frames,ok.gR,ok.exf,ok.bs,ok.bsz,ok.noex,ok.exfs,ok.jG,ok.frf⟩
theorem Cx.Ok.gY {X:Cx} {E:Value->Shared->Prop} (ok:(X.pe E).Ok):X.Ok:=
 ⟨ok.mod,ok.kind,ok.glob,ok.blt,ok.above,ok.inj,ok.has,ok.cab,ok.hd,ok.frames,ok.gR,ok.exf,ok.bs,ok.bsz,ok.noex,ok.exfs,ok.jG,ok.frf⟩
section
variable {X:Cx} {pins:List (Addr×Obj)} {σ:St} {H:Hp} {s:Shared} {E:Value->Shared->Prop}
theorem Inv.pe (I:Inv X pins σ H s) (E:Value->Shared->Prop):Inv (X.pe E) pins σ H s:=⟨I.ok.pe E,I.os,I.bare,I.base,I.loc,I.cell,I.free,I.freeC,I.pin,I.hok,I.len⟩
theorem Inv.gY (I:Inv (X.pe E) pins σ H s):Inv X pins σ H s:=⟨I.ok.gY,I.os,I.bare,I.base,I.loc,I.cell,I.free,I.freeC,I.pin,I.hok,I.len⟩
theorem SP.gY {D:Ends} {f:Flow} {s':Shared} (h:SP (X.pe E) pins D f s'):SP X pins D f s':=by
 cases f with
 | next=>obtain ⟨σ',H',I,q⟩:=h;exact ⟨σ',H',I.gY,q⟩
 | brk=>obtain ⟨σ',H',I,q⟩:=h;exact ⟨σ',H',I.gY,q⟩
 | cont=>obtain ⟨σ',H',I,q⟩:=h;exact ⟨σ',H',I.gY,q⟩
 | ret u=>obtain ⟨v,σ',H',I,r,q⟩:=h;exact ⟨v,σ',H',I.gY,r,q⟩
end
section
variable {X:Cx} {st:Stmt} {rest:List Stmt} {t u:TS} {e:Expr} {te:TE} {pos:Pos}
def Fq:TS:=fun D σ H=>D.nx σ H
def Hq (t u:TS):TS:=fun D σ H=>t {D with nx:=u D} σ H
theorem AG:uC X [] Fq:=fun _ _ σ H _ I h=>wpAny_execs_nil ⟨σ,H,I,h⟩
theorem ym (h1:PS X st t) (h2:uC X rest u):uC X (st::rest) (Hq t u):=by
 intro pins s σ H D I h
 refine wpAny_execs_cons (cf (h1 pins s σ H {D with nx:=u D} I h) fun f s1 q=>?_)
 cases f with
 | next=>
  obtain ⟨σ',H',I',q⟩:=q
  exact h2 pins s1 σ' H' D I' q
 | ret v=>exact q
 | brk=>exact q
 | cont=>exact q
theorem AH (h1:PS X st t):uC X [st] t:=by
 intro pins s σ H D I h
 refine wpAny_execs_cons (cf (h1 pins s σ H D I h) fun f s1 q=>?_)
 cases f with
 | next=>exact wpAny_execs_nil q
 | ret v=>exact q
 | brk=>exact q
 | cont=>exact q
theorem Inv.quiet {pins:List (Addr×Obj)} {σ:St} {H:Hp} {s:Shared} (I:Inv X pins σ H s):interactive X.env=false:=by simp [interactive,I.ok.kind]
def Fs (te:TE):TS:=fun D σ H=>te σ H fun _ H1=>D.nx σ H1
theorem AI (he:PE X e te) (hs:swapsWith e none pos.line X.env=pure false:=by rfl):PS X (.Expr e pos) (Fs te):=by
 intro pins s σ H D I h
 exact wpAny_Expr_any (cf (he pins s σ H _ I h) fun v s1 ⟨x,H1,I1,r1,q1⟩=>⟨σ,H1,I1,q1⟩) I.quiet hs
def Hr (te:TE):TS:=fun D σ H=>te σ H D.rt
theorem Dx (he:PE X e te):PS X (.Return (some e) pos) (Hr te):=by
 intro pins s σ H D I h
 exact wpAny_Return_some (cf (he pins s σ H _ I h) fun v s1 ⟨x,H1,I1,r1,q1⟩=>⟨x,σ,H1,I1,r1,q1⟩)
def Hs (c:TT) (t u:TS):TS:=fun D σ H=>c σ H fun b H1=>if b=true then t D σ H1 else u D σ H1
theorem Ft {c:Expr} {a b:List Stmt} {tc:TT} (hc:PT X c tc) (ha:uC X a t) (hb:uC X b u):PS X (.If c a b pos) (Hs tc t u):=by
 intro pins s σ H D I h
 refine wpAny_If (cf (hc pins s σ H _ I h) fun d s1 ⟨H1,I1,q1⟩=>?_)
 cases d with
 | true=>exact ha pins s1 σ H1 D I1 q1
 | false=>exact hb pins s1 σ H1 D I1 q1
end
abbrev TG:=V->St->Hp->(St->Hp->Prop)->Prop
abbrev CC:=List V->St->Hp->(St->Hp->Prop)->Prop
def PG (X:Cx) (target:Expr) (t:TG):Prop:=
 ∀ (pins:List (Addr×Obj)) (s:Shared) (σ:St) (H:Hp) (v:V) (u:Value) (Q:St->Hp->Prop),Inv X pins σ H s->RelV v u->t v σ H Q ->
  wpAny (model X.prog X.w) X.A (assign target X.env u) (fun _ s'=>∃ σ' H',Inv X pins σ' H' s'/\Q σ' H') X.xe s
def E7 (X:Cx) (ts:List Expr) (t:CC):Prop:=
 ∀ (pins:List (Addr×Obj)) (s:Shared) (σ:St) (H:Hp) (vs:List V) (us:List Value) (Q:St->Hp->Prop),Inv X pins σ H s->Vals vs us->t vs σ H Q ->
  wpAny (model X.prog X.w) X.A (assignInOrder ((assignEach ts X.env).map (·.2)) us) (fun _ s'=>∃ σ' H',Inv X pins σ' H' s'/\Q σ' H') X.xe s
abbrev Dy:=V->V->V->Hp->(Hp->Prop)->Prop
def Dz (X:Cx) (t:Dy):Prop:=
 ∀ (pins:List (Addr×Obj)) (s:Shared) (σ:St) (H:Hp) (o i v:V) (ov iv u:Value) (Q:Hp->Prop),Inv X pins σ H s->RelV o ov->RelV i iv->RelV v u->t o i v H Q ->
  wpAny (model X.prog X.w) X.A (setItem ov iv u) (fun _ s'=>∃ H',Inv X pins σ H' s'/\Q H') X.xe s
section
variable {X:Cx} {pos:Pos}
def au (i:Nat):TG:=fun v σ H Q=>Q (σ.set i (some v)) H
theorem AJ {i:Nat} {x:Str} (hN:X.N.Nodup) (hi:X.N[i]?=some x) (hx:Loc X.env.scope x) (hf:X.fn x=true\/X.env.scope.names.lookup x=some .local:=by first | exact .inl rfl | exact .inr rfl | assumption):PG X (.Name x pos) (au i):=by
 intro pins s σ H v u Q I r h
 exact wpAny_assign_Name (gX I hN hi hx r (fun s' I'=>⟨_,H,I',h⟩) hf)
def jj:CC:=fun vs σ H Q=>vs=[]/\Q σ H
def cq (t:TG) (u:CC):CC:=fun vs σ H Q=>∃ v r,vs=v::r/\t v σ H fun σ' H'=>u r σ' H' Q
theorem AK:E7 X [] jj:=by
 intro pins s σ H vs us Q I r h
 obtain ⟨e,h⟩:=h
 subst e
 cases r
 exact assignInOrder_nil ⟨σ,H,I,h⟩
theorem yn {e:Expr} {es:List Expr} {t:TG} {u:CC} (h1:PG X e t) (h2:E7 X es u)
  (hs:(assignEach (e::es) X.env).map (·.2)=assign e X.env::(assignEach es X.env).map (·.2):=by rfl):E7 X (e::es) (cq t u):=by
 intro pins s σ H vs us Q I r h
 obtain ⟨v,vr,e1,h⟩:=h
 subst e1
 cases r with
 | cons r rr=>
  rw [hs]
  refine assignInOrder_cons (cf (h1 pins s σ H _ _ _ I r h) fun _ s1 ⟨σ1,H1,I1,q1⟩=>?_)
  exact h2 pins s1 σ1 H1 _ _ Q I1 rr q1
def jk (K:PySem.W.Frag) (n:Nat) (t:CC):TG:=fun v σ H Q=>∃ a xs,v=.ref a/\eR K H a xs/\xs.length=n/\t xs σ H Q
theorem DB {es:List Expr} {k:Nat} {t:CC} {n:Nat} (hc:X.calm=true) (h:E7 X es t)
  (hn:(assignEach es X.env).length=n:=by rfl) (hst:(assignEach es X.env).findIdx? (·.1)=none:=by rfl):PG X (.Tuple es k pos) (jk X.K n t):=by
 intro pins s σ H v u Q I r hw
 obtain ⟨a,xs,e1,hq,hl,hw⟩:=hw
 subst e1
 cases r
 obtain ⟨its,rv,ht,hz⟩:=I.tuple hq
 refine assign_Tuple_tuple (I.ok.hd hc) ht (by simp [hn,<- hl,rv.length]) hst fun h' hx=>?_
 have I1:Inv X pins σ H {s with heap:=h'}:=I.kept (t':=s.toks) fun b o e=>hx b o (Nat.ne_of_lt (Heap.lt_size e)) e
 exact h pins _ σ H xs _ Q I1 (by simpa using rv) hw
def yo (to ti:TE) (t:Dy):TG:=fun v σ H Q=>to σ H fun o H1=>ti σ H1 fun i H2=>t o i v H2 fun H3=>Q σ H3
theorem DC {o i:Expr} {to ti:TE} {t:Dy} (ho:PE X o to) (hi:PE X i ti) (hs:Dz X t)
  (ha:∀ v,assign (.Subscript o i pos) X.env v=(do
   let ov <- holding [v] (eval o X.env)
   let iv <- holding [v,ov] (eval i X.env)
   standAt pos
   holding [v,ov,iv] (setItem ov iv v)
   release [v,ov,iv] []):=by intro _;rfl):PG X (.Subscript o i pos) (yo to ti t):=by
 intro pins s σ H v u Q I r h
 rw [ha]
 refine wpAny_bind (wpAny_holding (cf (ho pins s σ H _ I h) fun ov s1 ⟨x,H1,I1,r1,q1⟩=>?_))
 refine wpAny_bind (wpAny_holding (cf (hi pins s1 σ H1 _ I1 q1) fun iv s2 ⟨y,H2,I2,r2,q2⟩=>?_))
 refine wpAny_bind (wpAny_standAt (wpAny_bind (wpAny_holding (cf (hs pins s2 σ H2 x y v ov iv u _ I2 r1 r2 r q2) fun _ s3 ⟨H3,I3,q3⟩=>?_))))
 exact wpAny_release ⟨σ,H3,I3,q3⟩
def AL (te:TE) (g:TG):TS:=fun D σ H=>te σ H fun x H1=>g x σ H1 D.nx
theorem DD {tg e:Expr} {te:TE} {g:TG} (he:PE X e te) (hg:PG X tg g) (hs:swapsWithSole [tg] e pos.line X.env=pure false:=by rfl) (hw:swappedStores [tg] e X.env=pure none:=by rfl)
  (h1:(assignEach [tg] X.env).map (·.2)=[assign tg X.env]:=by rfl):PS X (.Assign [tg] e pos) (AL te g):=by
 intro pins s σ H D I h
 refine wpAny_Assign_stores (cf (he pins s σ H _ I h) fun v s1 ⟨x,H1,I1,r1,q1⟩=>?_) hs hw
 rw [h1]
 exact cf (hg pins s1 σ H1 x v _ I1 r1 q1) fun _ s2 q=>q
theorem DF {i:Nat} {x:Str} {e:Expr} {te:TE} {pos':Pos} (hN:X.N.Nodup) (hi:X.N[i]?=some x) (hx:Loc X.env.scope x) (he:PE X e te) (hs:swapsWith e (some (.Name x pos')) pos.line X.env=pure false:=by rfl) (hf:X.fn x=true\/X.env.scope.names.lookup x=some .local:=by first | exact .inl rfl | exact .inr rfl | assumption) :
  PS X (.Assign [.Name x pos'] e pos) (AL te (au i)):=by
 intro pins s σ H D I h
 refine wpAny_Assign_Name (cf (he pins s σ H _ I h) fun v s1 ⟨y,H1,I1,r1,q1⟩=>?_) hs
 exact gX I1 hN hi hx r1 (fun s2 I2=>⟨_,H1,I2,q1⟩) hf
end
section
variable {X:Cx} {pos:Pos}
end
structure It where
 go:Nat->Hp->Prop
 yld:Nat->Hp->V->Hp->Prop
 stop:Nat->Hp->Prop
def jI (X:Cx) (pins:List (Addr×Obj)) (H:Hp) (b:Addr):Prop:=
 H b=none/\b≠X.env.locals/\b∉X.fs/\(b∈X.ex\/X.s₀.heap.objs.size<=b)/\(∀ x c,X.env.cells.lookup x=some c->c≠b)/\∀ p∈X.pn++pins,p.1≠b
theorem Inv.xn {X:Cx} {pins:List (Addr×Obj)} {σ:St} {H H':Hp} {s:Shared} {b:Addr} (I:Inv X pins σ H s) (hb:s.heap.objs.size<=b) (hn:H' b=none):jI X pins H' b:=by
 refine ⟨hn,Nat.ne_of_gt (Nat.lt_of_lt_of_le I.lt hb),I.Dn hb,.inr (Nat.le_trans I.sz hb),fun x c e z=>?_,fun p hp z=>?_⟩
 ·obtain ⟨v,q⟩:=I.cell x c e
  exact absurd (Nat.lt_of_lt_of_le q.lt (by rw [z];exact hb)) (Nat.lt_irrefl _)
 ·exact absurd (Nat.lt_of_lt_of_le (Heap.lt_size (I.pin p hp).1) (by rw [z];exact hb)) (Nat.lt_irrefl _)
structure Turn (P:Program) (w:World) (K:PySem.W.Frag) (tg:Expr) (J:It) (fp:List Addr) (it:Addr) (tn:Nat->Heap->Prop):Prop where
 mem:it∈fp
 obj:∀ i h,tn i h->∀ b∈fp,∃ o,h.get? b=some o/\∀ v,o.data≠.cell v
 keep:∀ i h h',tn i h->(∀ b∈fp,∀ o,h.get? b=some o->h'.get? b=some o)->tn i h'
 item:∀ (X:Cx),X.prog=P->X.w=w->X.K=K->X.calm=true->∀ (i:Nat) (pins:List (Addr×Obj)) (s:Shared) (σ:St) (H:Hp) (E:Value->Shared->Prop),Inv X pins σ H s->(∀ b∈fp,jI X pins H b)->tn i s.heap->J.go i H ->
  wpAny (model P w) X.A (pyNext (.ref it)) (fun r s1=>∃ u,r=some u /\
   wpAny (model P w) X.A (letOwnedTupleGo tg (.ref it) u) (fun _ s2=>∃ x H',Inv X pins σ H' s2/\RelV x u/\J.yld i H x H'/\tn (i+1) s2.heap/\∀ b∈fp,H' b=none) E s1) E s
 done:∀ (X:Cx),X.prog=P->X.w=w->X.K=K->X.calm=true->∀ (i:Nat) (pins:List (Addr×Obj)) (s:Shared) (σ:St) (H:Hp) (E:Value->Shared->Prop),Inv X pins σ H s->(∀ b∈fp,jI X pins H b)->tn i s.heap->J.stop i H ->
  wpAny (model P w) X.A (pyNext (.ref it)) (fun r s1=>r=none/\Inv X pins σ H s1) E s
 self:∀ (A:Around) (i:Nat) (s:Shared) (Q:Value->Shared->Prop) (E:Value->Shared->Prop),tn i s.heap->Q (.ref it) s->wpAny (model P w) A (pyIter (.ref it)) Q E s
abbrev TI:=St->Hp->(It->Hp->Prop)->Prop
def IZ (X:Cx) (pins:List (Addr×Obj)) (σ:St) (tg:Expr) (R:It->Hp->Prop) (itv:Value) (s2:Shared):Prop:=
 ∃ (it:Addr) (fp:List Addr) (tn:Nat->Heap->Prop) (J:It) (H':Hp),itv=.ref it/\Inv X pins σ H' s2/\Turn X.prog X.w X.K tg J fp it tn/\tn 0 s2.heap/\(∀ b∈fp,jI X pins H' b)/\R J H'
def PI (X:Cx) (tg iter:Expr) (wi:TI):Prop:=
 ∀ (pins:List (Addr×Obj)) (s:Shared) (σ:St) (H:Hp) (R:It->Hp->Prop),Inv X pins σ H s->wi σ H R ->
  wpAny (model X.prog X.w) X.A (eval iter X.env) (fun v s1=>wpAny (model X.prog X.w) X.A (pyIter v) (IZ X pins σ tg R) X.xe s1) X.xe s
theorem vS {M:Model} {A:Around} {E:Value->Shared->Prop} {s:Shared} {tg:Expr} {it:Addr} {u:Value} {o:Obj} {n:String} {vs:Array Value} {Q:Unit->Shared->Prop} (ho:s.heap.get? it=some o) (hc:o.cls=.type n) (hd:o.data=.fields vs)
  (hn:["enumerate", "zip", "dict_itemiterator", "dict_reverseitemiterator", "odict_iterator", "itertools.zip_longest", "itertools.pairwise"].contains n=false) (hQ:Q () s):wpAny M A (letOwnedTupleGo tg (.ref it) u) Q E s:=by
 unfold letOwnedTupleGo
 cases tg<;>first
  | exact wpAny_pure hQ
  | (cases u<;>first
    | exact wpAny_pure hQ
    | (refine wpAny_bind (wpAny_load ho ?_)
       rw [hc,hd]
       show wpAny M A (if (["enumerate", "zip", "dict_itemiterator", "dict_reverseitemiterator", "odict_iterator", "itertools.zip_longest", "itertools.pairwise"].contains n && vs[0]? == some (rawInt _))=true then _ else _) Q E s
       rw [if_neg (by intro h;rw [hn,Bool.false_and] at h;cases h)]
       exact wpAny_pure hQ))
def Ht (K:PySem.W.Frag) (a:Addr):It:=
 ⟨fun i H=>∃ xs x,gc K H a xs/\xs[i]?=some x,fun i H x H'=>H'=H/\∀ xs,gc K H a xs->xs[i]?=some x,fun i H=>∃ xs,gc K H a xs/\xs.length<=i⟩
def GF (K:PySem.W.Frag) (a:Addr):It:=
 ⟨fun i H=>∃ xs x,eR K H a xs/\xs[i]?=some x,fun i H x H'=>H'=H/\∀ xs,eR K H a xs->xs[i]?=some x,fun i H=>∃ xs,eR K H a xs/\xs.length<=i⟩
def GG (lo:Int) (n:Nat):It:=⟨fun i _=>i < n,fun i H x H'=>H'=H/\x=.int (lo+i),fun i _=>n<=i⟩
theorem xo {P:Program} {w:World} {K:PySem.W.Frag} {tg:Expr} (a it:Addr):Turn P w K tg (Ht K a) [it] it (fun i h=>h.IsListIter it a i) where
 mem:=by simp
 obj:=fun i h st b hb=>by
  have e:b=it:=by simpa using hb
  subst e
  obtain ⟨o,e,c,d⟩:=st
  exact ⟨o,e,fun v z=>by rw [d] at z;cases z⟩
 keep:=fun i h h' st k=>st.at fun o e=>k it (by simp) o e
 item:=by
  intro X hP hw hK hc i pins s σ H E I hf st hg
  subst hP hw hK
  obtain ⟨xs,x,hq,hx⟩:=hg
  obtain ⟨its,rv,p,hz⟩:=I.list hq
  obtain ⟨u,hu,ru⟩:=rv.get hx
  obtain ⟨f0,f1,f2,f3,f4,f5⟩:=hf it (by simp)
  refine wpAny_pyNext_list_item st p.isList (x:=u) (by simpa using hu) fun h' st' sb=>?_
  have I1:Inv X pins σ H {s with heap:=h'}:=I.turned (t':=s.toks) (fun b o hb e=>(sb.2 b hb).trans e) f0 f1 f3 f4 f5
  obtain ⟨o,e,c,d⟩:=id st'
  exact ⟨u,rfl,vS (s:={s with heap:=h'}) e c d (by decide) ⟨x,H,I1,ru,⟨rfl,fun ys hy=>by rw [I.yl hy hq];exact hx⟩,st',fun b hb=>(hf b hb).1⟩⟩
 done:=by
  intro X hP hw hK hc i pins s σ H E I hf st hg
  subst hP hw hK
  obtain ⟨xs,hq,hx⟩:=hg
  obtain ⟨its,rv,p,hz⟩:=I.list hq
  obtain ⟨f0,f1,f2,f3,f4,f5⟩:=hf it (by simp)
  have hl:=rv.length
  exact wpAny_pyNext_list_end (I.ok.hd hc) st p.isList (by simp;omega) fun h' eb=>⟨rfl,I.turned (t':=s.toks) (fun b o hb e=>eb b o hb e) f0 f1 f3 f4 f5⟩
 self:=fun _ _ _ _ _ st h=>wpAny_pyIter_listiter st h
theorem uH {P:Program} {w:World} {K:PySem.W.Frag} {tg:Expr} (a it:Addr):Turn P w K tg (GF K a) [it] it (fun i h=>h.IsTupleIter it a i) where
 mem:=by simp
 obj:=fun i h st b hb=>by
  have e:b=it:=by simpa using hb
  subst e
  obtain ⟨o,e,c,d⟩:=st
  exact ⟨o,e,fun v z=>by rw [d] at z;cases z⟩
 keep:=fun i h h' st k=>st.at fun o e=>k it (by simp) o e
 item:=by
  intro X hP hw hK hc i pins s σ H E I hf st hg
  subst hP hw hK
  obtain ⟨xs,x,hq,hx⟩:=hg
  obtain ⟨its,rv,p,hz⟩:=I.tuple hq
  obtain ⟨u,hu,ru⟩:=rv.get hx
  obtain ⟨f0,f1,f2,f3,f4,f5⟩:=hf it (by simp)
  refine wpAny_pyNext_tuple_item st (show s.heap.IsTuple a its.toArray from p) (x:=u) (by simpa using hu) fun h' st' sb=>?_
  have I1:Inv X pins σ H {s with heap:=h'}:=I.turned (t':=s.toks) (fun b o hb e=>(sb.2 b hb).trans e) f0 f1 f3 f4 f5
  obtain ⟨o,e,c,d⟩:=id st'
  exact ⟨u,rfl,vS (s:={s with heap:=h'}) e c d (by decide) ⟨x,H,I1,ru,⟨rfl,fun ys hy=>by rw [I.kz hy hq];exact hx⟩,st',fun b hb=>(hf b hb).1⟩⟩
 done:=by
  intro X hP hw hK hc i pins s σ H E I hf st hg
  subst hP hw hK
  obtain ⟨xs,hq,hx⟩:=hg
  obtain ⟨its,rv,p,hz⟩:=I.tuple hq
  obtain ⟨f0,f1,f2,f3,f4,f5⟩:=hf it (by simp)
  have hl:=rv.length
  exact wpAny_pyNext_tuple_end (I.ok.hd hc) st (show s.heap.IsTuple a its.toArray from p) (by simp;omega) fun h' eb=>⟨rfl,I.turned (t':=s.toks) (fun b o hb e=>eb b o hb e) f0 f1 f3 f4 f5⟩
 self:=fun _ _ _ _ _ st h=>wpAny_pyIter_tupleiter st h
theorem uI {P:Program} {w:World} {K:PySem.W.Frag} {tg:Expr} (it:Addr) (lo:Int) (n:Nat):Turn P w K tg (GG lo n) [it] it (fun i h=>IsRangeIter h it (lo+(i:Nat) * 1) ((n:Int) - (i:Nat)) 1) where
 mem:=by simp
 obj:=fun i h st b hb=>by
  have e:b=it:=by simpa using hb
  subst e
  exact ⟨_,st,fun v z=>by
   have z':Data.fields _=Data.cell v:=z
   cases z'⟩
 keep:=fun i h h' st k=>k it (by simp) _ st
 item:=by
  intro X hP hw hK hc i pins s σ H E I hf st hg
  subst hP hw hK
  obtain ⟨f0,f1,f2,f3,f4,f5⟩:=hf it (by simp)
  have W:=Walks.range (prog:=X.prog) (w:=X.w) (I.ok.hd hc) it lo 1 n
  refine W.item i s _ _ hg st fun v h' tk hv st' kk=>?_
  obtain ⟨t,rfl⟩:=hv
  have I1:Inv X pins σ H {s with heap:=h',toks:=tk}:=I.turned (fun b o hb e=>kk b o (by simpa using hb) e) f0 f1 f3 f4 f5
  refine ⟨_,rfl,vS (s:={s with heap:=h',toks:=tk}) (n := "range_iterator") st' rfl rfl (by decide) ⟨.int (lo+i),H,I1,⟨t,?_⟩,⟨rfl,rfl⟩,st',fun b hb=>(hf b hb).1⟩⟩
  rw [Int.mul_one]
 done:=by
  intro X hP hw hK hc i pins s σ H E I hf st hg
  subst hP hw hK
  obtain ⟨f0,f1,f2,f3,f4,f5⟩:=hf it (by simp)
  exact wpAny_pyNext_range_end (I.ok.hd hc) st (by have:n<=i:=hg;omega) fun h' eb=>⟨rfl,I.turned (t':=s.toks) (fun b o hb e=>eb b o hb e) f0 f1 f3 f4 f5⟩
 self:=fun _ _ _ _ _ st h=>wpAny_pyIter_rangeiter st h
end L2
namespace L2
open PySem PySem.Spec PyProof.Rows
section
variable {X:Cx} {tg:Expr}
def Fv (K:PySem.W.Frag) (tl:TE):TI:=fun σ H R=>tl σ H fun x H1=>∃ a,x=.ref a/\(∃ xs,gc K H1 a xs)/\R (Ht K a) H1
def Hu (K:PySem.W.Frag) (tl:TE):TI:=fun σ H R=>tl σ H fun x H1=>∃ a,x=.ref a/\(∃ xs,eR K H1 a xs)/\R (GF K a) H1
theorem AM {l:Expr} {tl:TE} (hl:PE X l tl):PI X tg l (Fv X.K tl):=by
 intro pins s σ H R I h
 refine cf (hl pins s σ H _ I h) fun v s1 ⟨x,H1,I1,r1,q1⟩=>?_
 obtain ⟨a,e,⟨xs,hq⟩,q⟩:=q1
 subst e
 cases r1
 obtain ⟨its,rv,p,hz⟩:=I1.list hq
 refine wpAny_pyIter_list p.isList ?_
 refine ⟨s1.heap.objs.size,[s1.heap.objs.size],_,_,H1,rfl,I1.kept (t':=s1.toks) fun b o e=>Heap.get?_push_of_some _ e,xo a _,⟨_,Heap.get?_push_size _ rfl,rfl,rfl⟩,fun b hb=>?_,q⟩
 have e:b=s1.heap.objs.size:=by simpa using hb
 subst e
 exact I1.xn (Nat.le_refl _) (I1.hok.fresh (Nat.le_refl _))
theorem yp {l:Expr} {tl:TE} (hl:PE X l tl):PI X tg l (Hu X.K tl):=by
 intro pins s σ H R I h
 refine cf (hl pins s σ H _ I h) fun v s1 ⟨x,H1,I1,r1,q1⟩=>?_
 obtain ⟨a,e,⟨xs,hq⟩,q⟩:=q1
 subst e
 cases r1
 obtain ⟨its,rv,p,hz⟩:=I1.tuple hq
 refine wpAny_pyIter_tuple (show s1.heap.IsTuple a its.toArray from p) ?_
 refine ⟨s1.heap.objs.size,[s1.heap.objs.size],_,_,H1,rfl,I1.kept (t':=s1.toks) fun b o e=>Heap.get?_push_of_some _ e,uH a _,⟨_,Heap.get?_push_size _ rfl,rfl,rfl⟩,fun b hb=>?_,q⟩
 have e:b=s1.heap.objs.size:=by simpa using hb
 subst e
 exact I1.xn (Nat.le_refl _) (I1.hok.fresh (Nat.le_refl _))
theorem yq {pins:List (Addr×Obj)} {σ:St} {H:Hp} {s:Shared} {R:It->Hp->Prop} {E:Value->Shared->Prop} {lo hi:Int} {t u v:Tok} {tk:Nat} (I:Inv X pins σ H s) (h1:-(2 ^ 62)<=lo) (h2:lo < 2 ^ 62) (h3:-(2 ^ 62)<=hi) (h4:hi < 2 ^ 62)
  (q:R (GG lo (hi - lo).toNat) H):wpAny (model X.prog X.w) X.A (pyIter (.ref s.heap.objs.size)) (IZ X pins σ tg R) E {s with heap:=s.heap.push {cls:=.type "range",data:=.fields #[.int lo t,.int hi u,.int 1 v]},toks:=tk}:=by
 refine wpAny_pyIter_range (IsRange.new ..) (small_one h1 h2 h3 h4) ?_
 have I1:Inv X pins σ H {s with heap:=s.heap.push {cls:=.type "range",data:=.fields #[.int lo t,.int hi u,.int 1 v]},toks:=tk}:=I.kept fun b o e=>Heap.get?_push_of_some _ e
 refine ⟨(s.heap.push {cls:=.type "range",data:=.fields #[.int lo t,.int hi u,.int 1 v]}).objs.size,[(s.heap.push {cls:=.type "range",data:=.fields #[.int lo t,.int hi u,.int 1 v]}).objs.size],_,_,H,rfl,
  I1.kept (t':=tk) fun b o e=>Heap.get?_push_of_some _ e,uI _ lo (hi - lo).toNat,?_,fun b hb=>?_,q⟩
 ·have e1:lo+((0:Nat):Int) * 1=lo:=by simp
  have e2:(((hi - lo).toNat:Nat):Int) - ((0:Nat):Int)=Builtin.Range.rangeSize lo hi 1:=by rw [rangeSize_one];split<;>omega
  show IsRangeIter _ _ (lo+((0:Nat):Int) * 1) ((((hi - lo).toNat:Nat):Int) - ((0:Nat):Int)) 1
  rw [e1,e2]
  exact Heap.get?_push_size _ rfl
 ·have e:b=(s.heap.push {cls:=.type "range",data:=.fields #[.int lo t,.int hi u,.int 1 v]}).objs.size:=by simpa using hb
  subst e
  exact I1.xn (Nat.le_refl _) (I1.hok.fresh (Nat.le_refl _))
def Fw (ta:TA):TI:=fun σ H R=>ta σ H fun vs H1=>∃ j:Int,vs=[.int j]/\-(2 ^ 62)<=j/\j < 2 ^ 62/\R (GG 0 j.toNat) H1
theorem xp {a:Expr} {ta:TA} {p pos:Pos} (hg:Gl X "range") (hm:X.mg "range" = none) (ha:PA X [a] ta) (hs:starEach [a] X.env=[(false,eval a X.env)]:=by rfl):PI X tg (.Call (.Name "range" p) [a] [] pos) (Fw ta):=by
 intro pins s σ H R I h
 refine Call_ (gw I hg hm boot_range (PyProof.Rows.callWith_type1 (cf (ha pos pins s σ H _ I h) fun us s1 ⟨vs,H1,I1,r1,q1⟩=>?_) hs rfl))
 obtain ⟨j,e,q1,q2,q⟩:=q1
 subst e
 cases r1 with
 | cons r rr=>
  cases rr
  obtain ⟨t,rfl⟩:=r
  exact call_range_1 (yq I1 (by omega) (by omega) q1 q2 (by simpa using q))
def Hv (wi:TI) (g:TG) (tb:TS):TS:=fun D σ H=>wi σ H fun J H1=>∃ W:Nat->Nat->St->Hp->Prop,(∃ m,W 0 m σ H1)/\∀ i m σ H,W i m σ H ->
 (J.stop i H/\D.nx σ H)\/(J.go i H/\∃ N:St->Hp->Prop,(∀ σ' H',N σ' H'->∃ m',m' < m/\W (i+1) m' σ' H')/\∀ x H',J.yld i H x H'->g x σ H' fun σ2 H2=>tb {D with nx:=N,ct:=N,bk:=D.nx} σ2 H2)
def gx (fp:List Addr) (h:Heap):List (Addr×Obj):=fp.filterMap fun b=>(h.get? b).map fun o=>(b,o)
theorem dS {fp:List Addr} {h:Heap} {b:Addr} {o:Obj} (hb:b∈fp) (e:h.get? b=some o):(b,o)∈gx fp h:=List.mem_filterMap.mpr ⟨b,hb,by rw [e];rfl⟩
theorem kA {fp:List Addr} {h:Heap} {p:Addr×Obj} (hp:p∈gx fp h):p.1∈fp/\h.get? p.1=some p.2:=by
 obtain ⟨b,hb,e⟩:=List.mem_filterMap.mp hp
 cases q:h.get? b with
 | none=>rw [q] at e;cases e
 | some o=>
  rw [q] at e
  have e':(b,o)=p:=Option.some.inj e
  subst e'
  exact ⟨hb,q⟩
theorem Inv.pinned {pins:List (Addr×Obj)} {σ:St} {H:Hp} {s:Shared} {fp:List Addr} (I:Inv X pins σ H s) (hf:∀ b∈fp,jI X pins H b) (ho:∀ b∈fp,∃ o,s.heap.get? b=some o/\∀ v,o.data≠.cell v):Inv X (pins++gx fp s.heap) σ H s:=
 I.jH fun p hp=>(List.mem_append.mp hp).elim (fun z=>I.pin p (List.mem_append_right _ z)) fun z=>by
  obtain ⟨hb,e⟩:=kA z
  obtain ⟨f0,f1,f2,_⟩:=hf p.1 hb
  obtain ⟨o,e',d⟩:=ho p.1 hb
  rw [e] at e';cases e'
  exact ⟨e,f0,f1,f2,d⟩
theorem Inv.mV {pins pl:List (Addr×Obj)} {σ:St} {H:Hp} {s:Shared} (I:Inv X (pins++pl) σ H s):Inv X pins σ H s:=I.jH fun p hp=>I.pin p (List.mem_append_right _ (List.mem_append_left _ hp))
theorem DH {iter:Expr} {body:List Stmt} {wi:TI} {g:TG} {tb:TS} {pos:Pos} (hp:PassesOwn (model X.prog X.w) X.A X.env X.xe) (hc:X.calm=true) (hi:PI X tg iter wi) (hg:PG X tg g) (hb:uC X body tb)
  (hs:∀ x,foldedSetIterable iter X.env x=pure x:=by intro _;rfl):PS X (.For tg iter body [] pos) (Hv wi g tb):=by
 intro pins s σ H D I h
 refine wpAny_For (cf (hi pins s σ H _ I h) fun v s1 h1=>cf h1 fun itv s2 h2=>?_) hs
 obtain ⟨it,fp,tn,J,H2,e,I2,T,st2,f2,W,⟨m0,w0⟩,turn⟩:=h2
 subst e
 have stat:∀ {H':Hp},(∀ b∈fp,H' b=none)->∀ b∈fp,jI X pins H' b:=fun hn b hb=>⟨hn b hb,(f2 b hb).2⟩
 refine codeAny_forLoop_any (fun n s'=>∃ i σ' H',Inv X pins σ' H' s'/\tn i s'.heap/\(∀ b∈fp,H' b=none)/\W i n σ' H') ?_ m0 ⟨0,σ,H2,I2,st2,fun b hb=>(f2 b hb).1,w0⟩
 rintro n s3 ⟨i,σ3,H3,I3,st3,fr3,w3⟩
 rcases turn i n σ3 H3 w3 with ⟨stop,qn⟩ | ⟨go,N,hN,step⟩
 ·refine wpAny_passesOwn hp (cf (T.done X rfl rfl rfl hc i pins s3 σ3 H3 X.xe I3 (stat fr3) st3 stop) fun r s4 ⟨hr,I4⟩=>?_)
  subst hr
  exact wpAny_execs_nil ⟨σ3,H3,I4,qn⟩
 ·refine wpAny_passesOwn hp (cf (T.item X rfl rfl rfl hc i pins s3 σ3 H3 X.xe I3 (stat fr3) st3 go) fun r s4 ⟨u,hr,h4⟩=>?_)
  subst hr
  refine wpAny_passesOwn hp (cf h4 fun _ s5 ⟨x,H5,I5,r5,y5,st5,fr5⟩=>?_)
  have I5':=I5.pinned (stat fr5) (T.obj _ _ st5)
  refine wpAny_passesOwn hp (cf (hg _ s5 σ3 H5 x u _ I5' r5 (step x H5 y5)) fun _ s6 ⟨σ6,H6,I6,q6⟩=>?_)
  refine wpAny_passesOwn hp (cf (hb _ s6 σ6 H6 _ I6 q6) fun f s7 q7=>?_)
  have again:∀ {σ7:St} {H7:Hp},Inv X (pins++gx fp s5.heap) σ7 H7 s7->N σ7 H7->∃ m,m < n/\∃ i σ' H',Inv X pins σ' H' s7/\tn i s7.heap/\(∀ b∈fp,H' b=none)/\W i m σ' H':=fun {σ7 H7} I7 n7=>by
   obtain ⟨m',hm,w7⟩:=hN σ7 H7 n7
   refine ⟨m',hm,i+1,σ7,H7,I7.mV,T.keep _ _ _ st5 fun b hb o e=>(I7.pin (b,o) (List.mem_append_right _ (List.mem_append_right _ (dS hb e)))).1,fun b hb=>?_,w7⟩
   obtain ⟨o,e,d⟩:=T.obj _ _ st5 b hb
   exact (I7.pin (b,o) (List.mem_append_right _ (List.mem_append_right _ (dS hb e)))).2.1
  cases f with
  | next=>obtain ⟨σ7,H7,I7,n7⟩:=q7;exact again I7 n7
  | cont=>obtain ⟨σ7,H7,I7,n7⟩:=q7;exact again I7 n7
  | brk=>obtain ⟨σ7,H7,I7,q7⟩:=q7;exact ⟨σ7,H7,I7.mV,q7⟩
  | ret v=>obtain ⟨x7,σ7,H7,I7,r7,q7⟩:=q7;exact ⟨x7,σ7,H7,I7.mV,r7,q7⟩
end
end L2
namespace L2
open PySem PySem.Spec PyProof.Rows
abbrev R2:=V->V->Hp->VK->Prop
def fI (X:Cx) (f:Value->Value->Sem Value) (r:R2):Prop:=
 ∀ (pins:List (Addr×Obj)) (s:Shared) (σ:St) (H:Hp) (x y:V) (v u:Value) (Q:VK),Inv X pins σ H s->RelV x v->RelV y u->r x y H Q ->
  wpAny (model X.prog X.w) X.A (f v u) (EP X pins σ Q) X.xe s
def Hw (X:Cx) (f:Value->Sem Value) (r:V->Hp->VK->Prop):Prop:=
 ∀ (pins:List (Addr×Obj)) (s:Shared) (σ:St) (H:Hp) (x:V) (v:Value) (Q:VK),Inv X pins σ H s->RelV x v->r x H Q ->
  wpAny (model X.prog X.w) X.A (f v) (EP X pins σ Q) X.xe s
def cF (X:Cx) (f:Value) (r:List V->Hp->VK->Prop):Prop:=
 ∀ (pins:List (Addr×Obj)) (s:Shared) (σ:St) (H:Hp) (xs:List V) (us:List Value) (Q:VK),Inv X pins σ H s->Vals xs us->r xs H Q ->
  wpAny (model X.prog X.w) X.A (call f us) (EP X pins σ Q) X.xe s
def Fx (X:Cx) (r:V->Hp->(Bool->Hp->Prop)->Prop):Prop:=
 ∀ (pins:List (Addr×Obj)) (s:Shared) (σ:St) (H:Hp) (x:V) (v:Value) (Q:Bool->Hp->Prop),Inv X pins σ H s->RelV x v->r x H Q ->
  wpAny (model X.prog X.w) X.A (truthy v) (TP X pins σ Q) X.xe s
def Fy (r:R2) (ta tb:TE):TE:=fun σ H Q=>ta σ H fun x H1=>tb σ H1 fun y H2=>r x y H2 Q
def Jw (r:V->Hp->VK->Prop) (ta:TE):TE:=fun σ H Q=>ta σ H fun x H1=>r x H1 Q
def rI (C:Int->Int->Prop) (g:Int->Int->V):R2:=fun x y H Q=>∃ i j,x=.int i/\y=.int j/\C i j/\Q (g i j) H
def E8 (g:Int->Int->V):R2:=fun x y H Q=>∃ i j,x=.int i/\y=.int j/\Q (g i j) H
def rU (g:Int->V):V->Hp->VK->Prop:=fun x H Q=>∃ i,x=.int i/\Q (g i) H
section
variable {X:Cx} {a b c:Expr} {ta tb tc:TE} {pos:Pos}
theorem DJ (ha:PE X a ta) (hb:PE X b tb) {pins:List (Addr×Obj)} {s:Shared} {σ:St} {H:Hp} {R:V->V->Hp->Prop} (I:Inv X pins σ H s)
  (h:ta σ H fun x H1=>tb σ H1 fun y H2=>R x y H2) {Q:Value->Shared->Prop} {f:Value->Value->Sem Value}
  (hf:∀ v u s2 x y H2,Inv X pins σ H2 s2->RelV x v->RelV y u->R x y H2->wpAny (model X.prog X.w) X.A (f v u) Q X.xe s2) :
  wpAny (model X.prog X.w) X.A (eval a X.env) (fun v s₁=>wpAny (model X.prog X.w) X.A (eval b X.env) (fun u s₂=>wpAny (model X.prog X.w) X.A (f v u) Q X.xe s₂) X.xe s₁) X.xe s:=by
 refine cf (ha pins s σ H _ I h) fun v s1 ⟨x,H1,I1,r1,q1⟩=>?_
 refine cf (hb pins s1 σ H1 _ I1 q1) fun u s2 ⟨y,H2,I2,r2,q2⟩=>?_
 exact hf v u s2 x y H2 I2 r1 r2 q2
theorem CD {op:Operator} {r:R2} (ho:fI X (binaryOp op) r) (ha:PE X a ta) (hb:PE X b tb):PE X (.BinOp a op b pos) (Fy r ta tb):=by
 intro pins s σ H Q I h
 exact wpAny_BinOp (DJ ha hb I h fun v u s2 x y H2 I2 rx ry q=>ho pins s2 σ H2 x y v u Q I2 rx ry q)
theorem Fz {op:UnaryOp} {r:V->Hp->VK->Prop} (ho:Hw X (unaryOp op) r) (ha:PE X a ta):PE X (.UnaryOp op a pos) (Jw r ta):=by
 intro pins s σ H Q I h
 exact UnaryOp_ (cf (ha pins s σ H _ I h) fun v s1 ⟨x,H1,I1,r1,q1⟩=>ho pins s1 σ H1 x v Q I1 r1 q1)
theorem GH {f:Value->Value->Sem Value} {C:Int->Int->Prop} {g:Int->Int->Int}
  (rule:∀ (i j:Int) (t u:Tok) (s:Shared) (Q:Value->Shared->Prop) (E:Value->Shared->Prop),C i j->Q (.int (g i j) s.toks) {s with toks:=s.toks+1}->wpAny (model X.prog X.w) X.A (f (.int i t) (.int j u)) Q E s) :
  fI X f (rI C fun i j=>.int (g i j)):=by
 intro pins s σ H x y v u Q I rx ry h
 obtain ⟨i,j,rfl,rfl,hc,q⟩:=h
 obtain ⟨t,rfl⟩:=rx
 obtain ⟨t',rfl⟩:=ry
 exact rule i j t t' s _ _ hc ⟨.int (g i j),H,I.tok _,⟨_,rfl⟩,q⟩
theorem Hx {f:Value->Value->Sem Value} {g:Int->Int->Int}
  (rule:∀ (i j:Int) (t u:Tok) (s:Shared) (Q:Value->Shared->Prop) (E:Value->Shared->Prop),Q (.int (g i j) s.toks) {s with toks:=s.toks+1}->wpAny (model X.prog X.w) X.A (f (.int i t) (.int j u)) Q E s) :
  fI X f (E8 fun i j=>.int (g i j)):=by
 intro pins s σ H x y v u Q I rx ry h
 obtain ⟨i,j,rfl,rfl,q⟩:=h
 obtain ⟨t,rfl⟩:=rx
 obtain ⟨t',rfl⟩:=ry
 exact rule i j t t' s _ _ ⟨.int (g i j),H,I.tok _,⟨_,rfl⟩,q⟩
theorem FA {f:Value->Value->Sem Value} {g:Int->Int->Bool}
  (rule:∀ (i j:Int) (t u:Tok) (s:Shared) (Q:Value->Shared->Prop) (E:Value->Shared->Prop),Q (.bool (g i j)) s->wpAny (model X.prog X.w) X.A (f (.int i t) (.int j u)) Q E s) :
  fI X f (E8 fun i j=>.bl (g i j)):=by
 intro pins s σ H x y v u Q I rx ry h
 obtain ⟨i,j,rfl,rfl,q⟩:=h
 obtain ⟨t,rfl⟩:=rx
 obtain ⟨t',rfl⟩:=ry
 exact rule i j t t' s _ _ ⟨.bl (g i j),H,I,rfl,q⟩
def FC (i j:Int):Prop:=0 < j/\j < 1073741824
def Hy (i j:Int):Prop:=0<=j/\j<=1000000/\i.natAbs < 2 ^ 64
def DK (i j:Int):Prop:=(-(2 ^ 64) < i/\i < 2 ^ 64)\/(-(2 ^ 64) < j/\j < 2 ^ 64)
theorem DK.ok {i j:Int} (h:DK i j):IntMulOk i j:=by
 rcases h with ⟨h1,h2⟩ | ⟨h1,h2⟩
 ·exact .of_left (intBits_le_64 h1 h2)
 ·exact .of_right (intBits_le_64 h1 h2)
theorem DL:fI X (binaryOp .Add) (E8 fun i j=>.int (i+j)):=Hx fun _ _ _ _ _ _ _ q=>add_int q
theorem DM:fI X (binaryOp .Mult) (rI DK fun i j=>.int (i * j)):=GH fun _ _ _ _ _ _ _ hc q=>mul_int q hc.ok
theorem AN:fI X (binaryOp .FloorDiv) (rI FC fun i j=>.int (i / j)):=GH fun i j _ _ _ _ _ hc q=>by
 have h1:(0:Int) < j:=hc.1
 have h2:j < 1073741824:=hc.2
 exact floordiv_int (by omega) (by rw [Int.fdiv_eq_ediv_of_nonneg i (by omega)];exact q) (.inl (PyProof.noPylong_small (by omega)))
theorem DN:fI X (binaryOp .Mod) (rI (fun _ j=>0 < j) fun i j=>.int (i % j)):=GH fun i j _ _ _ _ _ hc q=>by
 have h1:(0:Int) < j:=hc
 exact mod_int' (by omega) (by rw [Int.fmod_eq_emod_of_nonneg i (by omega)];exact q)
theorem DP:fI X (binaryOp .Pow) (rI Hy fun i j=>.int (i ^ j.toNat)):=GH fun _ _ _ _ _ _ _ hc q=>pow_int_small hc.1 hc.2.1 hc.2.2 q
theorem Jx {f:Value->Sem Value} {g:Int->Int}
  (rule:∀ (i:Int) (t:Tok) (s:Shared) (Q:Value->Shared->Prop) (E:Value->Shared->Prop),Q (.int (g i) s.toks) {s with toks:=s.toks+1}->wpAny (model X.prog X.w) X.A (f (.int i t)) Q E s) :
  Hw X f (rU fun i=>.int (g i)):=by
 intro pins s σ H x v Q I rx h
 obtain ⟨i,rfl,q⟩:=h
 obtain ⟨t,rfl⟩:=rx
 exact rule i t s _ _ ⟨.int (g i),H,I.tok _,⟨_,rfl⟩,q⟩
theorem DQ:Hw X (unaryOp .USub) (rU fun i=>.int (-i)):=Jx fun _ _ _ _ _ q=>neg_int q
end
def FD:V->V->Bool
 | .non,.non=>true | .non,.int _=>true | .int _,.non=>true | .non,.bl _=>true | .bl _,.non=>true | .non,.str _=>true | .str _,.non=>true
 | .int _,.int _=>true | .bl _,.bl _=>true | .str _,.str _=>true | .byt _,.byt _=>true
 | .int _,.str _=>true | .str _,.int _=>true | .bl _,.str _=>true | .str _,.bl _=>true
 | _,_=>false
def Jy:R2:=fun x y H Q=>FD x y=true/\Q (.bl (decide (x=y))) H
def Jz:R2:=fun x y H Q=>FD x y=true/\Q (.bl (!decide (x=y))) H
theorem vT {i j:Int}:decide (V.int i=V.int j)=(i == j):=by
 rw [Bool.eq_iff_iff]
 simp
theorem yr {i j:Bool}:decide (V.bl i=V.bl j)=(i == j):=by
 rw [Bool.eq_iff_iff]
 simp
theorem vU {i j:Str}:decide (V.str i=V.str j)=(i == j):=by
 rw [Bool.eq_iff_iff]
 simp
theorem vV {i j:Array UInt8}:decide (V.byt i=V.byt j)=(i.toList == j.toList):=by
 rw [Bool.eq_iff_iff]
 cases i
 cases j
 simp
section
variable {X:Cx} {a b c:Expr} {ta tb tc:TE} {pos:Pos}
theorem aX {pins:List (Addr×Obj)} {σ:St} {H:Hp} {s:Shared} {Q:VK} {k k':Bool} (I:Inv X pins σ H s) (q:Q (.bl k) H) (e:k=k'):EP X pins σ Q (.bool k') s:=by
 subst e
 exact ⟨.bl k,H,I,rfl,q⟩
theorem FE:fI X (compareOp .Eq) Jy:=by
 intro pins s σ H x y v u Q I rx ry h
 obtain ⟨hs,q⟩:=h
 cases x with
 | non=>
  cases rx
  cases y with
  | non=>cases ry;exact PySem.EqNone.eq_none_none (aX I q (by simp))
  | bl j=>cases ry;exact PySem.EqNone.eq_none_bool (aX I q (by simp))
  | int j=>obtain ⟨t',rfl⟩:=ry;exact PySem.EqNone.eq_none_int (aX I q (by simp))
  | str j=>obtain ⟨t',rfl⟩:=ry;exact PySem.EqNone.eq_none_str (aX I q (by simp))
  | _=>exact absurd (show false=true from hs) Bool.false_ne_true
 | bl i=>
  cases rx
  cases y with
  | non=>cases ry;exact PySem.EqNone.eq_bool_none (aX I q (by simp))
  | bl j=>cases ry;exact eq_bool (aX I q yr)
  | str j=>obtain ⟨t',rfl⟩:=ry;exact PySem.EqMixed.eq_bool_str (aX I q (by simp))
  | _=>exact absurd (show false=true from hs) Bool.false_ne_true
 | int i=>
  obtain ⟨t,rfl⟩:=rx
  cases y with
  | non=>cases ry;exact PySem.EqNone.eq_int_none (aX I q (by simp))
  | int j=>obtain ⟨t',rfl⟩:=ry;exact eq_int (aX I q vT)
  | str j=>obtain ⟨t',rfl⟩:=ry;exact PySem.EqMixed.eq_int_str (aX I q (by simp))
  | _=>exact absurd (show false=true from hs) Bool.false_ne_true
 | str i=>
  obtain ⟨t,rfl⟩:=rx
  cases y with
  | non=>cases ry;exact PySem.EqNone.eq_str_none (aX I q (by simp))
  | bl j=>cases ry;exact PySem.EqMixed.eq_str_bool (aX I q (by simp))
  | int j=>obtain ⟨t',rfl⟩:=ry;exact PySem.EqMixed.eq_str_int (aX I q (by simp))
  | str j=>obtain ⟨t',rfl⟩:=ry;exact eq_str (aX I q vU)
  | _=>exact absurd (show false=true from hs) Bool.false_ne_true
 | byt i=>
  obtain ⟨t,rfl⟩:=rx
  cases y with
  | byt j=>obtain ⟨t',rfl⟩:=ry;exact PySem.W.eq_bytes (aX I q vV)
  | _=>exact absurd (show false=true from hs) Bool.false_ne_true
 | _=>cases y<;>exact absurd (show false=true from hs) Bool.false_ne_true
theorem FF:fI X (compareOp .NotEq) Jz:=by
 intro pins s σ H x y v u Q I rx ry h
 obtain ⟨hs,q⟩:=h
 cases x with
 | non=>
  cases rx
  cases y with
  | non=>cases ry;exact PySem.EqNone.ne_none_none (aX I q (by simp))
  | bl j=>cases ry;exact PySem.EqNone.ne_none_bool (aX I q (by simp))
  | int j=>obtain ⟨t',rfl⟩:=ry;exact PySem.EqNone.ne_none_int (aX I q (by simp))
  | str j=>obtain ⟨t',rfl⟩:=ry;exact PySem.EqNone.ne_none_str (aX I q (by simp))
  | _=>exact absurd (show false=true from hs) Bool.false_ne_true
 | bl i=>
  cases rx
  cases y with
  | non=>cases ry;exact PySem.EqNone.ne_bool_none (aX I q (by simp))
  | bl j=>cases ry;exact ne_bool (aX I q (congrArg not yr))
  | str j=>obtain ⟨t',rfl⟩:=ry;exact PySem.EqMixed.ne_bool_str (aX I q (by simp))
  | _=>exact absurd (show false=true from hs) Bool.false_ne_true
 | int i=>
  obtain ⟨t,rfl⟩:=rx
  cases y with
  | non=>cases ry;exact PySem.EqNone.ne_int_none (aX I q (by simp))
  | int j=>obtain ⟨t',rfl⟩:=ry;exact ne_int (aX I q (congrArg not vT))
  | str j=>obtain ⟨t',rfl⟩:=ry;exact PySem.EqMixed.ne_int_str (aX I q (by simp))
  | _=>exact absurd (show false=true from hs) Bool.false_ne_true
 | str i=>
  obtain ⟨t,rfl⟩:=rx
  cases y with
  | non=>cases ry;exact PySem.EqNone.ne_str_none (aX I q (by simp))
  | bl j=>cases ry;exact PySem.EqMixed.ne_str_bool (aX I q (by simp))
  | int j=>obtain ⟨t',rfl⟩:=ry;exact PySem.EqMixed.ne_str_int (aX I q (by simp))
  | str j=>obtain ⟨t',rfl⟩:=ry;exact ne_str (aX I q (congrArg not vU))
  | _=>exact absurd (show false=true from hs) Bool.false_ne_true
 | byt i=>
  obtain ⟨t,rfl⟩:=rx
  cases y with
  | byt j=>obtain ⟨t',rfl⟩:=ry;exact PySem.W.ne_bytes (aX I q (congrArg not vV))
  | _=>exact absurd (show false=true from hs) Bool.false_ne_true
 | _=>cases y<;>exact absurd (show false=true from hs) Bool.false_ne_true
theorem FG:fI X (compareOp .LtE) (E8 fun i j=>.bl (decide (i<=j))):=FA fun _ _ _ _ _ _ _ q=>le_int q
theorem FH:fI X (compareOp .Gt) (E8 fun i j=>.bl (decide (j < i))):=FA fun _ _ _ _ _ _ _ q=>gt_int q
theorem xq:fI X (compareOp .In) (fun x y H Q=>∃ i j,x=.str i/\y=.str j/\Q (.bl (!(Builtin.Str.occurrences j i 0 j.length 1).isEmpty)) H):=by
 intro pins s σ H x y v u Q I rx ry h
 obtain ⟨i,j,rfl,rfl,q⟩:=h
 obtain ⟨t,rfl⟩:=rx
 obtain ⟨t',rfl⟩:=ry
 exact in_str (aX I q rfl)
theorem qK:fI X (compareOp .NotIn) (fun x y H Q=>∃ i j,x=.str i/\y=.str j/\Q (.bl (!(!(Builtin.Str.occurrences j i 0 j.length 1).isEmpty))) H):=by
 intro pins s σ H x y v u Q I rx ry h
 obtain ⟨i,j,rfl,rfl,q⟩:=h
 obtain ⟨t,rfl⟩:=rx
 obtain ⟨t',rfl⟩:=ry
 exact notIn_str (aX I q rfl)
theorem fI.or {f:Value->Value->Sem Value} {r r':R2} (h:fI X f r) (h':fI X f r'):fI X f (fun x y H Q=>r x y H Q\/r' x y H Q):=by
 intro pins s σ H x y v u Q I rx ry q
 rcases q with q | q
 ·exact h pins s σ H x y v u Q I rx ry q
 ·exact h' pins s σ H x y v u Q I rx ry q
theorem Hz (b:Expr) {op:CmpOp} (h:op≠.In:=by decide) (h2:op≠.NotIn:=by decide):behindInMarks op b=false:=by
 have e1:(op == CmpOp.In)=false:=by cases op<;>first | rfl | exact absurd rfl h
 have e2:(op == CmpOp.NotIn)=false:=by cases op<;>first | rfl | exact absurd rfl h2
 cases b<;>simp [behindInMarks,e1,e2]
theorem AO {op:CmpOp} {r:R2} (ho:fI X (compareOp op) r) (ha:PE X a ta) (hb:PE X b tb) (hm:behindInMarks op b=false):PE X (.Compare a [op] [b] pos) (Fy r ta tb):=by
 intro pins s σ H Q I h
 exact wpAny_Compare1 (DJ ha hb I h fun v u s2 x y H2 I2 rx ry q=>ho pins s2 σ H2 x y v u Q I2 rx ry q) hm
def CF (t:TE):TT:=fun σ H Q=>t σ H fun x H'=>∃ k,x=.bl k/\Q k H'
theorem AQ {op:CmpOp} {r:R2} (ho:fI X (compareOp op) r) (ha:PE X a ta) (hb:PE X b tb) (hm:behindInMarks op b=false):PT X (.Compare a [op] [b] pos) (CF (Fy r ta tb)):=by
 intro pins s σ H Q I h
 refine wpAny_isTrue_Compare1 (cf (ha pins s σ H _ I h) fun v s1 ⟨x,H1,I1,r1,q1⟩=>cf (hb pins s1 σ H1 _ I1 q1) fun u s2 ⟨y,H2,I2,r2,q2⟩=>
  cf (ho pins s2 σ H2 x y v u _ I2 r1 r2 q2) fun c s3 ⟨z,H3,I3,r3,k,e,q3⟩=>?_) hm
 subst e
 cases r3
 exact wpAny_truthy_bool ⟨H3,I3,q3⟩
def uJ (r r':R2) (ta tb tc:TE):TE:=fun σ H Q=>ta σ H fun x H1=>tb σ H1 fun y H2=>r x y H2 fun z H3=>∃ k,z=.bl k /\
 (if k=true then tc σ H3 fun w' H4=>r' y w' H4 Q else Q (.bl false) H3)
theorem yt {op op':CmpOp} {r r':R2} (ho:fI X (compareOp op) r) (ho':fI X (compareOp op') r') (ha:PE X a ta) (hb:PE X b tb) (hc:PE X c tc)
  (hm:lastMarks [op,op'] [b,c]=false:=by with_unfolding_all rfl):PE X (.Compare a [op,op'] [b,c] pos) (uJ r r' ta tb tc):=by
 intro pins s σ H Q I h
 refine Compare_chain (cf (ha pins s σ H _ I h) fun v s1 ⟨x,H1,I1,r1,q1⟩=>chain_link (cf (hb pins s1 σ H1 _ I1 q1) fun u s2 ⟨y,H2,I2,r2,q2⟩=>
  cf (ho pins s2 σ H2 x y v u _ I2 r1 r2 q2) fun d s3 ⟨z,H3,I3,r3,k,e,q3⟩=>?_)) hm
 subst e
 cases r3
 refine wpAny_truthy_bool ?_
 cases k with
 | false=>exact ite_ff ⟨.bl false,H3,I3,rfl,q3⟩
 | true=>exact ite_tt (chain_last (cf (hc pins s3 σ H3 _ I3 q3) fun w' s4 ⟨z',H4,I4,r4,q4⟩=>ho' pins s4 σ H4 y z' u w' Q I4 r2 r4 q4))
theorem yu {op op':CmpOp} {r r':R2} (ho:fI X (compareOp op) r) (ho':fI X (compareOp op') r') (ha:PE X a ta) (hb:PE X b tb) (hc:PE X c tc)
  (hm:lastMarks [op,op'] [b,c]=false:=by with_unfolding_all rfl):PT X (.Compare a [op,op'] [b,c] pos) (CF (uJ r r' ta tb tc)):=by
 intro pins s σ H Q I h
 refine isTrue_chain (cf (ha pins s σ H _ I h) fun v s1 ⟨x,H1,I1,r1,q1⟩=>test_link (cf (hb pins s1 σ H1 _ I1 q1) fun u s2 ⟨y,H2,I2,r2,q2⟩=>
  cf (ho pins s2 σ H2 x y v u _ I2 r1 r2 q2) fun d s3 ⟨z,H3,I3,r3,k,e,q3⟩=>?_)) hm
 subst e
 cases r3
 refine wpAny_truthy_bool ?_
 cases k with
 | false=>
  obtain ⟨k',e',q'⟩:=q3
  cases e'
  exact ite_ff ⟨H3,I3,q'⟩
 | true=>
  refine ite_tt (test_last (cf (hc pins s3 σ H3 _ I3 q3) fun w' s4 ⟨z',H4,I4,r4,q4⟩=>cf (ho' pins s4 σ H4 y z' u w' _ I4 r2 r4 q4) fun d' s5 ⟨z2,H5,I5,r5,k2,e2,q5⟩=>?_))
  subst e2
  cases r5
  exact wpAny_truthy_bool ⟨H5,I5,q5⟩
def DR (K:PySem.W.Frag) (x:V) (H:Hp) (k:Bool):Prop:=
 match x with
 | .non=>k=false
 | .bl b=>k=b
 | .int i=>k=(i != 0)
 | .str y=>y.length<=sizeLine/\k=((y.length:Int) != 0)
 | .byt y=>y.size<=sizeLine/\k=((y.size:Int) != 0)
 | .ref p=>(∃ xs,gc K H p xs/\k=!xs.isEmpty)\/(∃ xs,eR K H p xs/\k=!xs.isEmpty)\/∃ kvs,H p=some (.dK kvs)/\k=!kvs.isEmpty
 | _=>False
theorem uK {κ:Type} {kvs:List (κ×V)} {vs:List (κ×Value)} (r:KV kvs vs):(!vs.isEmpty)=!kvs.isEmpty:=by
 cases r<;>rfl
theorem mW {xs:List V} {its:List Value} (r:Vals xs its):(!its.toArray.isEmpty)=!xs.isEmpty:=by
 cases r<;>simp
theorem mY:(sizeLine:Nat) < 2 ^ 63:=by rw [sizeLine_eq];decide
theorem yw:Fx X (fun x H Q=>∃ k,DR X.K x H k/\Q k H):=by
 intro pins s σ H x v Q I rx h
 obtain ⟨k,e,q⟩:=h
 have hl:=mY
 have hs:sizeLine=16777216:=sizeLine_eq
 cases x with
 | non=>
  cases rx
  have e':k=false:=e
  subst e'
  exact truthy_none ⟨H,I,q⟩
 | bl b=>
  cases rx
  have e':k=b:=e
  subst e'
  exact wpAny_truthy_bool ⟨H,I,q⟩
 | int i=>
  obtain ⟨t,rfl⟩:=rx
  have e':k=(i != 0):=e
  subst e'
  exact PySem.P.truthy_int ⟨H,I,q⟩
 | str y=>
  obtain ⟨t,rfl⟩:=rx
  obtain ⟨hy,e'⟩:y.length<=sizeLine/\k=((y.length:Int) != 0):=e
  subst e'
  exact PySem.P.truthy_str (by omega) ⟨H,I.tok _,q⟩
 | byt y=>
  obtain ⟨t,rfl⟩:=rx
  obtain ⟨hy,e'⟩:y.size<=sizeLine/\k=((y.size:Int) != 0):=e
  subst e'
  exact PySem.W.truthy_bytes (by omega) ⟨H,I.tok _,q⟩
 | ref p=>
  cases rx
  have e':(∃ xs,gc X.K H p xs/\k=!xs.isEmpty)\/(∃ xs,eR X.K H p xs/\k=!xs.isEmpty)\/∃ kvs,H p=some (.dK kvs)/\k=!kvs.isEmpty:=e
  rcases e' with ⟨xs,hx,e'⟩ | ⟨xs,hx,e'⟩ | ⟨kvs,hx,e'⟩
  ·subst e'
   obtain ⟨its,r,pl,hz⟩:=I.list hx
   have hlen:=r.length
   exact wpAny_truthy_list pl.isList (by simp only [List.size_toArray];omega) ⟨H,I.tok _,by rw [mW r];exact q⟩
  ·subst e'
   obtain ⟨its,r,pl,hz⟩:=I.tuple hx
   have hlen:=r.length
   exact truthy_tuple pl (by simp only [List.size_toArray];omega) ⟨H,I.tok _,by rw [mW r];exact q⟩
  ·subst e'
   obtain ⟨hz,hS,vs,r,m⟩:kvs.length<=sizeLine/\(p == sysModules)=false/\∃ vs,KV kvs vs/\s.heap.DictOf (bU X.prog X.w) p vs:=I.hok p _ hx
   have hlen:kvs.length=vs.length:=Paired.length r
   exact wpAny_truthy_dict hS m (by omega) ⟨H,I.tok _,by rw [uK r];exact q⟩
 | _=>exact (show False from e).elim
theorem yx (ha:PE X a ta) (he:∀ whole,isTrue a X.env whole=(do let v <- whole;standAt a.pos;holding [v] (truthy v))) :
  PT X a (fun σ H Q=>ta σ H fun x H'=>∃ k,DR X.K x H' k/\Q k H'):=by
 intro pins s σ H Q I h
 exact isTrue_plain (cf (ha pins s σ H _ I h) fun v s1 ⟨x,H1,I1,r1,q1⟩=>yw pins s1 σ H1 x v Q I1 r1 q1) (he _)
theorem uL:fI X (binaryOp .Add) (fun x y H Q=>∃ i j,x=.str i/\y=.str j/\i.length+j.length<=sizeLine/\Q (.str (i++j)) H):=by
 intro pins s σ H x y v u Q I rx ry h
 obtain ⟨i,j,rfl,rfl,hz,q⟩:=h
 obtain ⟨t,rfl⟩:=rx
 obtain ⟨t',rfl⟩:=ry
 exact add_str (fun t' tk=>⟨.str (i++j),H,I.tok _,⟨_,rfl⟩,q⟩) hz
theorem vals1 {x:V} {us:List Value} (r:Vals [x] us):∃ u,us=[u]/\RelV x u:=by
 cases r with
 | cons r1 r2=>cases r2;exact ⟨_,rfl,r1⟩
theorem vals2 {x y:V} {us:List Value} (r:Vals [x,y] us):∃ u w',us=[u,w']/\RelV x u/\RelV y w':=by
 cases r with
 | cons r1 r2=>
  cases r2 with
  | cons r3 r4=>cases r4;exact ⟨_,_,rfl,r1,r3⟩
theorem yy:cF X (.builtin "abs") (fun xs H Q=>∃ i,xs=[.int i]/\Q (.int (if i < 0 then -i else i)) H):=by
 intro pins s σ H xs us Q I r h
 obtain ⟨i,rfl,q⟩:=h
 obtain ⟨u,rfl,t,rfl⟩:=vals1 r
 exact call_abs_int fun u tk=>⟨.int (if i < 0 then -i else i),H,I.tok _,⟨_,rfl⟩,q⟩
theorem xt (hc:X.calm=true):cF X (.builtin "max") (fun xs H Q=>∃ i j,xs=[.int i,.int j]/\Q (.int (if j > i then j else i)) H):=by
 intro pins s σ H xs us Q I r h
 obtain ⟨i,j,rfl,q⟩:=h
 obtain ⟨u,w',rfl,⟨t,rfl⟩,⟨t',rfl⟩⟩:=vals2 r
 refine max_two_ints (I.ok.hd hc) fun h' tk k=>⟨_,H,I.kept k,?_,q⟩
 by_cases hj:j > i
 ·rw [if_pos hj,if_pos hj];exact ⟨_,rfl⟩
 ·rw [if_neg hj,if_neg hj];exact ⟨_,rfl⟩
theorem xu (hc:X.calm=true):cF X (.builtin "min") (fun xs H Q=>∃ i j,xs=[.int i,.int j]/\Q (.int (if j < i then j else i)) H):=by
 intro pins s σ H xs us Q I r h
 obtain ⟨i,j,rfl,q⟩:=h
 obtain ⟨u,w',rfl,⟨t,rfl⟩,⟨t',rfl⟩⟩:=vals2 r
 refine min_two_ints (I.ok.hd hc) fun h' tk k=>⟨_,H,I.kept k,?_,q⟩
 by_cases hj:j < i
 ·rw [if_pos hj,if_pos hj];exact ⟨_,rfl⟩
 ·rw [if_neg hj,if_neg hj];exact ⟨_,rfl⟩
def HA (K:PySem.W.Frag) (x:V) (H:Hp) (n:Nat):Prop:=
 match x with
 | .str y=>y.length<=sizeLine/\n=y.length
 | .byt y=>y.size<=sizeLine/\n=y.size
 | .ref p=>(∃ xs,gc K H p xs/\n=xs.length)\/∃ xs,eR K H p xs/\n=xs.length
 | _=>False
theorem yz:cF X (.builtin "len") (fun xs H Q=>∃ x n,xs=[x]/\HA X.K x H n/\Q (.int n) H):=by
 intro pins s σ H xs us Q I r h
 obtain ⟨x,n,rfl,e,q⟩:=h
 obtain ⟨u,rfl,rx⟩:=vals1 r
 have hl:=mY
 have hs:sizeLine=16777216:=sizeLine_eq
 cases x with
 | str y=>
  obtain ⟨t,rfl⟩:=rx
  obtain ⟨hy,e'⟩:y.length<=sizeLine/\n=y.length:=e
  subst e'
  exact len_str (by omega) ⟨.int _,H,I.tok _,⟨_,rfl⟩,q⟩
 | byt y=>
  obtain ⟨t,rfl⟩:=rx
  obtain ⟨hy,e'⟩:y.size<=sizeLine/\n=y.size:=e
  subst e'
  exact PySem.W.len_bytes (by omega) ⟨.int _,H,I.tok _,⟨_,rfl⟩,q⟩
 | ref p=>
  cases rx
  have e':(∃ xs,gc X.K H p xs/\n=xs.length)\/∃ xs,eR X.K H p xs/\n=xs.length:=e
  rcases e' with ⟨xs,hx,e'⟩ | ⟨xs,hx,e'⟩
  ·subst e'
   obtain ⟨its,r',pl,hz⟩:=I.list hx
   have hlen:=r'.length
   exact Calls.call_len_list pl.isList (by simp only [List.size_toArray];omega) ⟨.int xs.length,H,I.tok _,⟨_,by simp only [List.size_toArray];rw [hlen]⟩,q⟩
  ·subst e'
   obtain ⟨its,r',pl,hz⟩:=I.tuple hx
   have hlen:=r'.length
   exact len_tuple pl (by simp only [List.size_toArray];omega) ⟨.int xs.length,H,I.tok _,⟨_,by simp only [List.size_toArray];rw [hlen]⟩,q⟩
 | _=>exact (show False from e).elim
theorem sO:cF X (.builtin "divmod") (fun xs H Q=>∃ i j,xs=[.int i,.int j]/\FC i j/\∀ p,H p=none->Q (.ref p) (upd H p (.tup [.int (i / j),.int (i % j)]))):=by
 intro pins s σ H xs us Q I r h
 obtain ⟨i,j,rfl,⟨h1,h2⟩,q⟩:=h
 obtain ⟨u,w',rfl,⟨t,rfl⟩,⟨t',rfl⟩⟩:=vals2 r
 refine divmod_int (by omega) ?_ (.inl (PyProof.noPylong_small (by omega)))
 rw [Int.fdiv_eq_ediv_of_nonneg i (by omega),Int.fmod_eq_emod_of_nonneg i (by omega)]
 have hn:H s.heap.objs.size=none:=I.hok.fresh (Nat.le_refl _)
 refine ⟨.ref s.heap.objs.size,_,?_,rfl,q _ hn⟩
 refine I.laid (fun b o e=>Heap.get?_push_of_some _ e) (Nat.le_refl _) ⟨by simp only [List.length_cons,List.length_nil];rw [sizeLine_eq];decide,[.int (i / j) s.toks,.int (i % j) (s.toks+1)],.cons ⟨_,rfl⟩ (.cons ⟨_,rfl⟩ .nil),?_⟩
 exact ⟨_,Heap.get?_push_size s.heap rfl,rfl,0,rfl⟩
end
end L2
namespace L2
open PySem PySem.Spec PyProof.Rows
structure DU (h:Heap) (x dx C:Addr) (mA:Str->Option Value):Prop where
 obj:h.get? x=some (PySem.W.instObj C dx)
 ns:h.Ns1 dx mA
 ne:dx≠x
theorem xw {h:Heap} {dx:Addr} {mA:Str->Option Value} (n:h.Ns1 dx mA):∃ od,h.get? dx=some od/\∀ name,PySem.W.lookIn name od=some (mA name):=by
 obtain ⟨o,es,ep,ho,hd,hk,_,hm⟩:=n
 refine ⟨o,ho,fun name=>?_⟩
 have e:=hm name
 unfold nsFind findBy at e
 rw [<- Array.find?_toList] at e
 unfold PySem.W.lookIn
 rw [hd]
 dsimp only
 split
 ·rename_i y q
  rw [q] at e
  exact congrArg some e
 ·rename_i q
  rw [q] at e
  have a:es.toList.any (·.refKey)=false:=by
   rw [List.any_eq_false]
   intro y hy
   obtain ⟨z,t,hkey⟩:=hk y (Array.mem_toList_iff.mp hy)
   simp [DictEntry.refKey,hkey]
  have a':¬ es.toList.any (·.refKey)=true:=by rw [a];exact Bool.false_ne_true
  rw [if_neg a']
  exact congrArg some e
theorem DU.look {h:Heap} {x dx C:Addr} {mA:Str->Option Value} (I:DU h x dx C mA):∃ od,PySem.W.InstAt h x (PySem.W.instObj C dx) C (some od)/\∀ name,PySem.W.lookIn name od=some (mA name):=
 let ⟨od,ho,hl⟩:=xw I.ns
 ⟨od,⟨I.obj,rfl,rfl,ho⟩,hl⟩
section
variable {prog:Program} {w:World} {A:Around} {E:Value->Shared->Prop} {s:Shared} {K:PySem.W.Frag} {x dx C f:Addr} {mA:Str->Option Value} {name:Str} {v:Value}
end
theorem mU.some_of {v:V} {o:Option Value} (r:mU (some v) o):∃ u,o=some u/\RelV v u:=by
 cases o with
 | none=>exact (show False from r).elim
 | some u=>exact ⟨u,rfl,r⟩
section
variable {P:Program} {w:World} {H H':Hp} {h h':Heap} {a C dx:Addr} {fs fs':List (Str×V)}
theorem AR (hok:iD P w H h) (e:H a=some (.ins C dx fs)):∃ mA,DU h a dx C mA/\(∀ f,mU (fs.lookup f) (mA f))/\PySem.Within mA (fs.map (·.1))/\fs.length<=1000/\H dx=some (.own a):=by
 obtain ⟨d,z,ne,ob,mA,n,r,q⟩:=(show bY P w H h a (.ins C dx fs) from hok a _ e)
 exact ⟨mA,⟨ob,n,ne⟩,r,q,z,d⟩
end
structure HB (K:PySem.W.Frag) (C:Addr):Prop where
 pg:PySem.W.plainGet K C Str.empty=true
 hd:PySem.W.hasDictIn K C=true
 po:PySem.W.plainOver K C=true
 sa:PySem.W.findIn K (.ref C) "__setattr__" = some (some (.builtin "object.__setattr__"))
theorem HB.get {K:PySem.W.Frag} {C:Addr} (c:HB K C) (f:Str):PySem.W.plainGet K C f=true:=c.pg
section
variable {X:Cx} {pins:List (Addr×Obj)} {σ:St} {H:Hp} {s:Shared} {a C dx:Addr} {fs:List (Str×V)} {f:Str} {v:V} {A:Around} {E:Value->Shared->Prop}
end
section
variable {X:Cx} {o e value:Expr} {f:Str} {pos pos' tpos:Pos} {ta tv:TE}
end
section
variable {X:Cx} {pins:List (Addr×Obj)} {σ:St} {H:Hp} {s:Shared} {A:Around} {E:Value->Shared->Prop} {Q:Value->Shared->Prop} {c:Value} {b:Bool}
inductive jJ (K:PySem.W.Frag) (H:Hp):V->Value->Prop where
 | non:jJ K H .non (.type "NoneType")
 | bl (x:Bool):jJ K H (.bl x) (.type "bool")
 | int (i:Int):jJ K H (.int i) (.type "int")
 | str (x:Str):jJ K H (.str x) (.type "str")
 | flt (x:UInt64):jJ K H (.flt x) (.type "float")
 | lst {a:Addr} {xs:List V} (e:H a=some (.lst xs)):jJ K H (.ref a) (.type "list")
 | frz {a:Addr} {o:Obj} {xs:List V} (e:H a=some (.frz o (.lst xs))):jJ K H (.ref a) (.type "list")
 | tup {a:Addr} {xs:List V} (e:H a=some (.tup xs)):jJ K H (.ref a) (.type "tuple")
 | dK {a:Addr} {kvs:List (Key×V)} (e:H a=some (.dK kvs)):jJ K H (.ref a) (.type "dict")
 | dT {a:Addr} {kvs:List (List Key×V)} (e:H a=some (.dT kvs)):jJ K H (.ref a) (.type "dict")
 | ins {a C dx:Addr} {fs:List (Str×V)} (e:H a=some (.ins C dx fs)) (cl:HB K C) (ha:PySem.W.findIn K (.ref C) "__class__" = some (some (.builtin "object.__class__")))
   (hn:PySem.W.specialIn K (.builtin "object.__class__") "__get__" = some (some (.builtin "getset_descriptor.__get__"))) (htk:PySem.W.takesIn K (.builtin "object.__class__")=some true)
   (hm:PySem.W.mroIn K C (.type "object")=some true):jJ K H (.ref a) (.ref C)
theorem xy {x:V} {u t:Value} (I:Inv X pins σ H s) (rx:RelV x u) (ty:jJ X.K H x t) (e:PySem.W.kitOne X.K t c=some b) (h:∀ tk,Q (.bool b) {s with toks:=tk}) :
  wpAny (model X.prog X.w) A (call (.builtin "isinstance") [u,c]) Q E s:=by
 cases ty with
 | non=>cases (show u=Value.none from rx);exact PySem.W.kia_one PySem.W.kitx_none I.qJ True.intro e (fun z=>nomatch z) h
 | bl y=>cases (show u=Value.bool y from rx);exact PySem.W.kia_one PySem.W.kitx_bool I.qJ True.intro e (fun z=>nomatch z) h
 | int i=>obtain ⟨t,q⟩:=(show ∃ t,u=Value.int i t from rx);cases q;exact PySem.W.kia_one PySem.W.kitx_int I.qJ True.intro e (fun z=>nomatch z) h
 | str y=>obtain ⟨t,q⟩:=(show ∃ t,u=Value.str y t from rx);cases q;exact PySem.W.kia_one PySem.W.kitx_str I.qJ True.intro e (fun z=>nomatch z) h
 | flt y=>obtain ⟨t,q⟩:=(show ∃ t,u=Value.float y t from rx);cases q;exact PySem.W.kia_one PySem.W.kitx_float I.qJ True.intro e (fun z=>nomatch z) h
 | @lst a xs ea=>
  cases (show u=Value.ref a from rx)
  obtain ⟨_,_,n,_,h1⟩:=(show bY X.prog X.w H s.heap a (.lst xs) from I.hok a _ ea)
  exact PySem.W.kia_one PySem.W.kitx_list I.qJ ⟨_,h1,rfl⟩ e (fun z=>nomatch z) h
 | @frz a ob xs ea=>
  cases (show u=Value.ref a from rx)
  obtain ⟨_,_,_,n,_,h1⟩:=(show bY X.prog X.w H s.heap a (.frz ob (.lst xs)) from I.hok a _ ea)
  exact PySem.W.kia_one PySem.W.kitx_list I.qJ ⟨_,h1,rfl⟩ e (fun z=>nomatch z) h
 | @tup a xs ea=>
  cases (show u=Value.ref a from rx)
  obtain ⟨_,_,_,p⟩:=(show bY X.prog X.w H s.heap a (.tup xs) from I.hok a _ ea)
  obtain ⟨o,h1,h2,_⟩:=p
  exact PySem.W.kia_one PySem.W.kitx_tuple I.qJ ⟨o,h1,h2⟩ e (fun z=>nomatch z) h
 | @dK a kvs ea=>
  cases (show u=Value.ref a from rx)
  obtain ⟨_,_,vs,_,p⟩:=(show bY X.prog X.w H s.heap a (.dK kvs) from I.hok a _ ea)
  obtain ⟨o,es,ep,h1,h2,_⟩:=p
  exact PySem.W.kia_one PySem.W.kitx_dict I.qJ ⟨o,h1,h2.1⟩ e (fun z=>nomatch z) h
 | @dT a kvs ea=>
  cases (show u=Value.ref a from rx)
  obtain ⟨_,_,xs,_,o,es,ep,h1,h2,_⟩:=(show bY X.prog X.w H s.heap a (.dT kvs) from I.hok a _ ea)
  exact PySem.W.kia_one PySem.W.kitx_dict I.qJ ⟨o,h1,h2.1⟩ e (fun z=>nomatch z) h
 | @ins a C dx fs ea cl ha hn htk hm=>
  cases (show u=Value.ref a from rx)
  obtain ⟨mA,O,_⟩:=AR I.hok ea
  obtain ⟨od,J,_⟩:=O.look
  exact PySem.W.kia_one (PySem.W.kitx_own (cl.get _) cl.hd ha hn htk hm) I.qJ J e (fun z=>nomatch z) h
end
end L2
namespace L2
open PySem PySem.Spec PyProof.Rows
structure cb (k:Nat) (A:Around):Prop where
 hd:A.handled=none
 dp:A.depth+3 * k+5 < recursionLimit
 un:A.units+16 * k+200 < cLine
 gd:A.guards=some []
theorem cb.mono {j k:Nat} {A:Around} (r:cb k A) (h:j<=k):cb j A:=⟨r.hd,by have:=r.dp;omega,by have:=r.un;omega,r.gd⟩
theorem cb.deeper {k:Nat} {A:Around} (r:cb (k+1) A) (env:Env):cb k (A.deeper env):=
 ⟨r.hd,by have:=r.dp;show A.depth+1+3 * k+5 < _;omega,by have:=r.un;show A.units+3+16 * k+200 < _;omega,r.gd⟩
theorem cb.depth {k:Nat} {A:Around} (r:cb k A):A.depth < recursionLimit:=by have:=r.dp;omega
theorem cb.units {k:Nat} {A:Around} (r:cb k A):A.units+64 < cLine:=by have:=r.un;omega
def FI:TA:=fun _ H Q=>Q [] H
def CG (ta:TE) (tr:TA):TA:=fun σ H Q=>ta σ H fun x H1=>tr σ H1 fun xs H2=>Q (x::xs) H2
section
variable {X:Cx} {e:Expr} {es:List Expr} {te:TE} {t:TA} {pos:Pos}
theorem qL:PA X [] FI:=fun _ _ _ _ H Q I h=>Calls.spliced_nil ⟨[],H,I,.nil,h⟩
theorem jK (ha:PE X e te) (hr:PA X es t) (hs:starEach (e::es) X.env=(false,eval e X.env)::starEach es X.env:=by rfl):PA X (e::es) (CG te t):=by
 intro pos pins s σ H Q I h
 rw [hs]
 show wpAny _ _ (spliced ((false,eval e X.env)::backTo pos (starEach es X.env))) _ _ s
 refine Calls.spliced_cons (cf (ha pins s σ H _ I h) fun u s1 ⟨x,H1,I1,r1,q1⟩=>?_)
 exact cf (hr pos pins s1 σ H1 _ I1 q1) fun us s2 ⟨xs,H2,I2,r2,q2⟩=>⟨x::xs,H2,I2,.cons r1 r2,q2⟩
def HC (t:TA):TE:=fun σ H Q=>t σ H fun xs H1=>xs.length<=sizeLine/\∀ p,H1 p=none->Q (.ref p) (upd H1 p (.tup xs))
def HD (t:TA):TE:=fun σ H Q=>t σ H fun xs H1=>xs.length<=sizeLine/\∀ p,H1 p=none->Q (.ref p) (upd H1 p (.lst xs))
theorem yA {x1} (h:PA X es t):PE X (.Tuple es x1 pos) (HC t):=by
 intro pins s σ H Q I hq
 refine wpAny_Tuple_spliced (cf (h pos pins s σ H _ I hq) fun us s1 ⟨xs,H1,I1,r,z,q⟩=>⟨by rw [<- r.length];exact z,?_⟩)
 have hf:H1 s1.heap.objs.size=none:=I1.hok.fresh (Nat.le_refl _)
 refine ⟨.ref s1.heap.objs.size,upd H1 s1.heap.objs.size (.tup xs),I1.laid (t':=s1.toks) (fun b u e=>Heap.get?_push_of_some _ e) (Nat.le_refl _) ?_,rfl,q _ hf⟩
 exact ⟨z,us,r,⟨_,Heap.get?_push_size _ rfl,rfl,_,rfl⟩⟩
theorem uM (h:PA X es t):PE X (.List es pos) (HD t):=by
 intro pins s σ H Q I hq
 refine wpAny_List_spliced (cf (h pos pins s σ H _ I hq) fun us s1 ⟨xs,H1,I1,r,z,q⟩=>⟨by rw [<- r.length];exact z,?_⟩)
 have hf:H1 s1.heap.objs.size=none:=I1.hok.fresh (Nat.le_refl _)
 refine ⟨.ref s1.heap.objs.size,upd H1 s1.heap.objs.size (.lst xs),I1.laid (t':=s1.toks) (fun b u e=>Heap.get?_push_of_some _ e) (Nat.le_refl _) ?_,rfl,q _ hf⟩
 exact ⟨z,us,0,r,Heap.get?_push_size _ rfl⟩
end
abbrev Sp:=List V->Hp->VK->XK->Prop
abbrev yh:=List Env->Hp->Shared->XK->Value->Shared->Prop
structure AS (P:Program) (w:World) (K:PySem.W.Frag) (mg:Str->Option Value) (base:Heap) (A:Around) (outer:List Env) (s:Shared) (H:Hp):Prop where
 frames:A.frames=some outer
 mod:Mod K mg base
 bs:∀ b o,base.get? b=some o->s.heap.get? b=some o/\H b=none
 bsz:base.objs.size<=s.heap.objs.size
 jG:s.heap.FunFrames base outer
 frf:∀ b∈sF outer,H b=none
 hok:iD P w H s.heap
 bare:AllBare s.gens
def CE (outer:List Env) (P:Program) (w:World) (H:Hp) (s:Shared) (Q:VK) (u:Value) (s':Shared):Prop:=
 ∃ v H',s'.os=s.os/\AllBare s'.gens/\Un (sF outer) [] H H' s.heap s'.heap/\iD P w H' s'.heap/\RelV v u/\Q v H'
def CR (CX:yh) (outer:List Env) (P:Program) (w:World) (H:Hp) (s:Shared) (Q:VK) (E:XK) (r:Result) (s':Shared):Prop:=
 match r with
 | .ok (.ret u)=>CE outer P w H s Q u s'
 | .ok _=>False
 | .error e=>CX outer H s E e s'
structure iU (P:Program) (w:World) (K:PySem.W.Frag) (mg:Str->Option Value) (base:Heap) (CX:yh) (k:Nat) (f:Addr) (fd:FuncData) (ps:List Str) (sp:Sp):Prop where
 len:∀ vs H Q E,sp vs H Q E->vs.length=ps.length
 run:∀ (A:Around) (outer:List Env) (s:Shared) (H:Hp) (args:Args) (us:List Value) (vs:List V) (Q:VK) (E:XK),cb k A->AS P w K mg base A outer s H->BindsTo s fd args (ps.zip us)->Vals vs us->sp vs H Q E ->
  codeAny (model P w) A (.call (.ref f) args) (CR CX outer P w H s Q E) s
theorem iU.imp {P:Program} {w:World} {K:PySem.W.Frag} {mg:Str->Option Value} {base:Heap} {CX:yh} {k:Nat} {f:Addr} {fd:FuncData} {ps:List Str} {sp sp':Sp} (F:iU P w K mg base CX k f fd ps sp)
  (h:∀ vs H Q E,sp' vs H Q E->sp vs H Q E):iU P w K mg base CX k f fd ps sp':=
 ⟨fun vs H Q E q=>F.len vs H Q E (h _ _ _ _ q),fun A outer s H args us vs Q E hr he hb hv hs=>F.run A outer s H args us vs Q E hr he hb hv (h _ _ _ _ hs)⟩
section
variable {X:Cx} {pins:List (Addr×Obj)} {σ:St} {H:Hp} {s s':Shared}
theorem Inv.HE (I:Inv X pins σ H s):AS X.prog X.w X.K X.mg X.base X.A X.stack s H:=
 ⟨I.ok.frames,I.ok.mod,I.bs,Nat.le_trans I.ok.bsz I.sz,I.stack,I.vQ,I.hok,I.bare⟩
theorem Inv.after {Q:VK} {u:Value} (I:Inv X pins σ H s) (h:CE X.stack X.prog X.w H s Q u s'):EP X pins σ Q u s':=by
 obtain ⟨v,H',os,bare,un,hok,r,q⟩:=h
 obtain ⟨hh,g,d,t,os'⟩:=s'
 obtain rfl:os'=s.os:=os
 exact ⟨v,H',I.call (h':=hh) (g':=g) (d':=d) (t':=t) (ch:=[]) un hok bare (fun b z=>absurd z (by simp)),r,q⟩
end
def CH (sp:Sp) (dvs:List V) (E:XK) (t:TA):TE:=fun σ H Q=>t σ H fun vs H1=>sp (vs++dvs) H1 Q E
def Binds (K:PySem.W.Frag) (fd:FuncData) (ps:List Str) (ds:List Value):Prop:=
 ∀ (s:Shared) (us:List Value),K.In s.heap->(us++ds).length=ps.length->BindsTo s fd ⟨us,[]⟩ (ps.zip (us++ds))
theorem Binds.all {K:PySem.W.Frag} {fd:FuncData} {ps:List Str} (h:∀ us:List Value,us.length=ps.length->bindArgs fd ⟨us,[]⟩=pure (ps.zip us)):Binds K fd ps []:=fun s us _ hl=>by
 rw [List.append_nil] at hl ⊢
 exact .of_eq (h us hl)
def Passes (CX:yh) (X:Cx) (E:XK):Prop:=∀ (pins:List (Addr×Obj)) (σ:St) (H:Hp) (s:Shared) (e:Value) (s':Shared),Inv X pins σ H s->CX X.stack H s E e s'->X.xe e s'
section
variable {X:Cx} {CX:yh} {k:Nat} {f C:Addr} {fd:FuncData} {ps:List Str} {sp:Sp} {dvs:List V} {ds:List Value} {E:XK} {x m:Str} {p pos apos:Pos} {e o:Expr} {es:List Expr} {ta:TE} {t:TA}
theorem DV {pins:List (Addr×Obj)} {σ:St} {H:Hp} {s:Shared} {Q:VK} {us:List Value} {vs:List V} (F:iU X.prog X.w X.K X.mg X.base CX k f fd ps sp) (hr:cb k X.A) (hb:Binds X.K fd ps ds) (hd:Vals dvs ds) (hx:Passes CX X E)
  (I:Inv X pins σ H s) (r:Vals vs us) (h:sp (vs++dvs) H Q E):wpAny (model X.prog X.w) X.A (call (.ref f) us) (EP X pins σ Q) X.xe s:=by
 have r2:Vals (vs++dvs) (us++ds):=r.append hd
 have hl:(us++ds).length=ps.length:=by rw [<- r2.length];exact F.len _ _ _ _ h
 refine wpAny_call (codeAny_mono (F.run X.A X.stack s H ⟨us,[]⟩ (us++ds) (vs++dvs) Q E hr I.HE (hb s us I.qJ hl) r2 h) fun r s' hq=>?_)
 cases r with
 | error e=>exact hx pins σ H s e s' I hq
 | ok fl=>
  cases fl with
  | ret u=>exact I.after hq
  | next=>exact False.elim hq
  | brk=>exact False.elim hq
  | cont=>exact False.elim hq
theorem AU (F:iU X.prog X.w X.K X.mg X.base CX k f fd ps sp) (hr:cb k X.A) (hg:Gl X x) (hm:X.mg x=some (.ref f)) (hk:PySem.W.keepIn X.K (.ref f)=true) (hb:Binds X.K fd ps ds) (hd:Vals dvs ds) (hx:Passes CX X E)
  (ha:PA X (e::es) t) (hdb:(x == ("__debug__" : Str))=false:=by decide) (he:starEach (e::es) X.env=(false,eval e X.env)::starEach es X.env:=by rfl) (hpl:(backTo pos (starEach es X.env)).any (·.1)=false:=by rfl) :
  PE X (.Call (.Name x p) (e::es) [] pos) (CH sp dvs E t):=by
 intro pins s σ H Q I h
 refine wpAny_Call_Name_kw (vR I hg hm ?_ hdb)
 refine PySem.W.callWith_K (h₀:=X.base) I.ok.mod.kin hk (cf (ha pos pins s σ H _ I h) fun us s1 ⟨vs,H1,I1,r,q⟩=>⟨I1.qJ,?_⟩) he hpl
 exact DV F hr hb hd hx I1 r q
end
section
variable {X:Cx} {CX:yh} {k:Nat} {f C:Addr} {fd:FuncData} {ps ks:List Str} {sp:Sp} {E:XK} {x m:Str} {p pos apos kpos:Pos} {e o:Expr} {es:List Expr} {kws:List Keyword} {te ta:TE} {t tk:TA} {nm:Option Str}
variable {g:List Value->List Value->List Value} {gV:List V->List V->List V}
end
structure aZ (N P:List Str) (sc:Scope):Prop where
 kind:sc.kind=.function
 co:sc.isCoroutine=false
 gen:sc.isGenerator=false
 nd:N.Nodup
 pre:N.take P.length=P
 par:∀ x∈P,sc.names.lookup x=some .local\/sc.names.lookup x=some .cell
 nofree:∀ y∈sc.names,y.2≠.free
theorem pN {kindOf:Str->Option NameKind} {x:Str}:∀ {binds:List (Str×Value)} {m:Str->Option Value},(∀ v,(x,v)∉binds)->bindL kindOf binds m x=m x
 | [],_,_=>rfl
 | (n,v)::r,m,h=>by
  unfold bindL
  rw [pN fun w hw=>h w (List.mem_cons_of_mem _ hw)]
  split
  ·have:x≠n:=by rintro rfl;exact h v List.mem_cons_self
   simp [this]
  ·rfl
theorem pO {kindOf:Str->Option NameKind} {x:Str}:∀ {binds:List (Str×Value)} {m:Str->Option Value},(∀ v,(x,v)∉binds)->bindC kindOf binds m x=m x
 | [],_,_=>rfl
 | (n,v)::r,m,h=>by
  unfold bindC
  rw [pO fun w hw=>h w (List.mem_cons_of_mem _ hw)]
  split
  ·rfl
  ·have:x≠n:=by rintro rfl;exact h v List.mem_cons_self
   simp [this]
theorem pP {kindOf:Str->Option NameKind} {x:Str} {v:Value}:∀ {P:List Str} {vs:List Value} {i:Nat} {m:Str->Option Value},P.Nodup->P[i]?=some x->vs[i]?=some v->kindOf x=some .local ->
  bindL kindOf (P.zip vs) m x=some v
 | [],_,_,_,_,h,_,_=>by simp at h
 | _::_,[],_,_,_,_,h,_=>by simp at h
 | p::P,w::vs,0,m,nd,h1,h2,hk=>by
  simp at h1 h2;subst h1;subst h2
  show bindL kindOf ((p,w)::P.zip vs) m p=_
  unfold bindL
  rw [pN fun v hv=>(List.nodup_cons.mp nd).1 (List.of_mem_zip hv).1,if_pos hk]
  simp
 | p::P,w::vs,i+1,m,nd,h1,h2,hk=>by
  show bindL kindOf ((p,w)::P.zip vs) m x=_
  unfold bindL
  exact pP (i:=i) (List.nodup_cons.mp nd).2 (by simpa using h1) (by simpa using h2) hk
theorem pQ {kindOf:Str->Option NameKind} {x:Str} {v:Value}:∀ {P:List Str} {vs:List Value} {i:Nat} {m:Str->Option Value},P.Nodup->P[i]?=some x->vs[i]?=some v->kindOf x≠some .local ->
  bindC kindOf (P.zip vs) m x=some v
 | [],_,_,_,_,h,_,_=>by simp at h
 | _::_,[],_,_,_,_,h,_=>by simp at h
 | p::P,w::vs,0,m,nd,h1,h2,hk=>by
  simp at h1 h2;subst h1;subst h2
  show bindC kindOf ((p,w)::P.zip vs) m p=_
  unfold bindC
  rw [pO fun v hv=>(List.nodup_cons.mp nd).1 (List.of_mem_zip hv).1,if_neg hk]
  simp
 | p::P,w::vs,i+1,m,nd,h1,h2,hk=>by
  show bindC kindOf ((p,w)::P.zip vs) m x=_
  unfold bindC
  exact pQ (i:=i) (List.nodup_cons.mp nd).2 (by simpa using h1) (by simpa using h2) hk
def start (N:List Str) (vs:List V):St:=vs.map some++List.replicate (N.length - vs.length) none
def pf (CX:yh) (P:Program) (w:World) (K:PySem.W.Frag) (mg:Str->Option Value) (base:Heap) (N:List Str) (qual:Str) (scope:Scope) (f:Addr) (cd:Value) (A:Around) (outer:List Env) (s:Shared) (H:Hp) (E:XK):Cx where
 prog:=P
 w:=w
 K:=K
 mg:=mg
 base:=base
 A:=A.deeper (envOfC qual scope s.heap.objs.size f cd)
 N:=N
 s₀:=s
 H₀:=H
 env:=envOfC qual scope s.heap.objs.size f cd
 outer:=outer
 stack:=envOfC qual scope s.heap.objs.size f cd::outer
 ex:=[]
 calm:=true
 fn:=fun _=>true
 pn:=[]
 xe:=fun e s'=>wpAny (model P w) (A.deeper (envOfC qual scope s.heap.objs.size f cd)) (leaving (envOfC qual scope s.heap.objs.size f cd) e) (fun _ s''=>CX outer H s E e s'') (fun e' s''=>CX outer H s E e' s'') s'
theorem sP {sc:Scope} {n:Nat} {x:Str} (h:sc.names.lookup x=some .cell):∃ c,(cellsFrom n sc.names []).lookup x=some c:=by
 have q:=PySem.W.cellsFrom_some sc.names n [] (.inl h)
 exact Option.isSome_iff_exists.mp q
theorem xA {CX:yh} {P:Program} {w:World} {K:PySem.W.Frag} {mg:Str->Option Value} {base:Heap} {N ps:List Str} {qual:Str} {scope:Scope} {f:Addr} {cd:Value} {A:Around} {outer:List Env} {s s1:Shared} {H:Hp} {E:XK} {us:List Value} {vs:List V}
  (S:aZ N ps scope) (hd:A.handled=none) (e0:AS P w K mg base A outer s H) (hl:vs.length=ps.length) (r:Vals vs us)
  (x:InCallC s s.heap.objs.size (bindL (envOfC qual scope s.heap.objs.size f cd).kindOf (ps.zip us) fun _=>none) (cellsFrom (s.heap.objs.size+1) scope.names []) (bindC (envOfC qual scope s.heap.objs.size f cd).kindOf (ps.zip us) fun _=>none) s1) :
  Inv (pf CX P w K mg base N qual scope f cd A outer s H E) [] (start N vs) H s1:=by
 have hpl:ps.length<=N.length:=by have:=congrArg List.length S.pre;rw [List.length_take] at this;omega
 obtain ⟨h1,tk,rfl,hk⟩:=x.done
 have noA:∀ b:Addr,b∉(pf CX P w K mg base N qual scope f cd A outer s H E).ex:=fun b z=>absurd (show b∈([]:List Addr) from z) (by simp)
 refine ⟨⟨e0.mod,S.kind,rfl,rfl,Nat.le_refl _,fun y z c h1 h2=>?_,fun y hy=>?_,fun y c _ h=>?_,fun _=>hd,Around.frames_deeper e0.frames,.inr ⟨rfl,rfl⟩,fun b z=>absurd z (noA b),e0.bs,e0.bsz,fun b _ _=>noA b,fun b z=>absurd z (noA b),e0.jG,e0.frf⟩,
  rfl,e0.bare,Un.kept hk,⟨_,x.toInCall.ns,fun i y v h1 h2 h3=>?_⟩,fun y c h=>⟨_,x.cell y c h⟩,e0.hok.fresh (Nat.le_refl _),fun y c h=>?_,fun p hp=>absurd (show p∈([]:List (Addr×Obj)) from hp) (by simp),e0.hok.kept hk,?_⟩
 ·exact name_of_addr x.apart (PySem.mem_of_lookup h1) (PySem.mem_of_lookup h2)
 ·have hy:scope.names.lookup y=some .cell\/scope.names.lookup y=some .free:=hy
  rcases hy with hy | hy
  ·exact sP hy
  ·exact absurd rfl (S.nofree _ (PySem.mem_of_lookup hy))
 ·exact Nat.le_of_lt (x.above y c (PySem.mem_of_lookup h))
 ·have hi:i < vs.length:=by
   unfold start at h2
   by_cases hi:i < vs.length
   ·exact hi
   ·rw [List.getElem?_append_right (by simpa using hi)] at h2
    rw [List.getElem?_replicate] at h2
    split at h2<;>cases h2
  have ha:vs[i]?=some v:=by
   unfold start at h2
   rw [List.getElem?_append_left (by simpa using hi),List.getElem?_map] at h2
   cases e:vs[i]? with
   | none=>rw [e] at h2;cases h2
   | some a=>rw [e] at h2;cases h2;rfl
  obtain ⟨u,hu,rv⟩:=r.get ha
  have hp:ps[i]?=some y:=by
   rw [<- S.pre,List.getElem?_take_of_lt (by omega)];exact h1
  have ndP:ps.Nodup:=by rw [<- S.pre];exact S.nd.sublist (List.take_sublist _ _)
  refine ⟨u,rv,?_⟩
  rcases S.par y (List.mem_of_getElem? hp) with k | k
  ·exact .inl ⟨k,pP ndP hp hu k⟩
  ·obtain ⟨c,e⟩:=sP (n:=s.heap.objs.size+1) k
   refine .inr ⟨.inl k,c,e,?_⟩
   have q:=x.cell y c e
   rw [pQ ndP hp hu (by show scope.names.lookup y≠_;rw [k];decide)] at q
   exact q
 ·exact e0.hok.fresh (Nat.le_of_lt (x.above y c (PySem.mem_of_lookup h)))
 ·unfold start
  show _=N.length
  rw [List.length_append,List.length_map,List.length_replicate]
  omega
theorem FJ {CX:yh} {P:Program} {w:World} {K:PySem.W.Frag} {mg:Str->Option Value} {base:Heap} {k:Nat} {f:Addr} {name qual:Str} {params:Arguments} {body:List Stmt} {scope:Scope} {dV kV doc pm cdv ct oc:Value} {an od:Option Addr}
  {osl:Array (Option Value)} {N ps:List Str} {sp:Sp} (lk:K.lookup f=some ⟨oc,od,.func (PySem.W.fnOf name qual params body scope dV kV doc pm an cdv ct),osl⟩) (hcd:PySem.W.codeIn K cdv qual=true) (S:aZ N ps scope)
  (len:∀ vs H Q E,sp vs H Q E->vs.length=ps.length)
  (hbody:∀ (A:Around) (outer:List Env) (s:Shared) (H:Hp) (vs:List V) (Q:VK) (E:XK),cb k (A.deeper (envOfC qual scope s.heap.objs.size f cdv))->sp vs H Q E ->
   ∃ t,uC (pf CX P w K mg base N qual scope f cdv A outer s H E) body t/\t {nx:=fun _ H'=>Q .non H',rt:=Q} (start N vs) H) :
  iU P w K mg base CX (k+1) f (PySem.W.fnOf name qual params body scope dV kV doc pm an cdv ct) ps sp:=by
 refine ⟨len,fun A outer s H args us vs Q E hr e0 hb r hsp=>?_⟩
 have hl:=len _ _ _ _ hsp
 have KX:K.In s.heap:=e0.mod.kin.keeps fun b o e=>(e0.bs b o e).1
 have lim:s.heap.NoLimit:=e0.mod.nolimit.keeps fun b o e=>(e0.bs b o e).1
 have hkind:∀ y∈ps.zip us,scope.names.lookup y.1=some .local\/(scope.names.lookup y.1=some .cell/\((cellsFrom (s.heap.objs.size+1) scope.names []).lookup y.1).isSome=true):=fun ⟨n,v⟩ hy=>by
  rcases S.par n (List.of_mem_zip hy).1 with q | q
  ·exact .inl q
  ·exact .inr ⟨q,PySem.W.cellsFrom_some _ _ _ (.inl q)⟩
 refine codeAny_call_function hr.depth (KX _ _ lk) rfl S.co S.gen rfl (PySem.W.codeRec_of KX hcd) (hb _ _ _ _ ?_)
 refine wpAny_newFunctionEnv_cells S.kind hkind fun env he s1 x=>?_
 subst he
 refine ⟨lim.keeps x.toInCall.keep,codeAny_func ?_⟩
 obtain ⟨t,ht,hq⟩:=hbody A outer s H vs Q E (hr.deeper _) hsp
 have I:Inv (pf CX P w K mg base N qual scope f cdv A outer s H E) [] (start N vs) H s1:=xA S hr.hd e0 hl r x
 refine wpAny_mono (ht [] s1 (start N vs) H _ I hq) (fun fl s' hs=>?_) fun e s' hs=>hs
 have fin:∀ {σ':St} {H':Hp} {v:V} {u:Value},Inv (pf CX P w K mg base N qual scope f cdv A outer s H E) [] σ' H' s'->RelV v u->Q v H'->CE outer P w H s Q u s':=
  fun {σ' H' v u} J rv q=>⟨v,H',J.os,J.bare,J.base,J.hok,rv,q⟩
 cases fl with
 | ret u=>
  obtain ⟨v,σ',H',J,rv,q⟩:=hs
  exact fin J rv q
 | next=>
  obtain ⟨σ',H',J,q⟩:=hs
  exact fin (v:=V.non) (u:=Value.none) J rfl q
 | brk=>
  obtain ⟨_,_,_,q⟩:=hs
  exact False.elim q
 | cont=>
  obtain ⟨_,_,_,q⟩:=hs
  exact False.elim q
end L2
namespace L2
open PySem PySem.Spec PyProof.Rows
section
variable {X:Cx} {x:Str} {p pos:Pos} {e:Expr} {es:List Expr} {t:TA} {id T:String} {r:List V->Hp->VK->Prop}
def HF (r:List V->Hp->VK->Prop) (t:TA):TE:=fun σ H Q=>t σ H fun vs H1=>r vs H1 Q
theorem sQ (hc:cF X (.builtin id) r) (hg:Gl X x) (hm:X.mg x=none) (hv:bootBuiltins x=some (.builtin id)) (ha:PA X (e::es) t) (hn:x ≠ "__name__" := by decide) (hdb:(x == ("__debug__" : Str))=false:=by decide)
  (he:starEach (e::es) X.env=(false,eval e X.env)::starEach es X.env:=by rfl) (hpl:(backTo pos (starEach es X.env)).any (·.1)=false:=by rfl):PE X (.Call (.Name x p) (e::es) [] pos) (HF r t):=by
 intro pins s σ H Q I h
 refine wpAny_Call_Name_kw (gw I hg hm hv ?_ hn hdb)
 exact PyProof.Rows.callWith_builtin1 (cf (ha pos pins s σ H _ I h) fun us s1 ⟨vs,H1,I1,r1,q1⟩=>hc pins s1 σ H1 vs us Q I1 r1 q1) he hpl
theorem xB (hc:cF X (.type T) r) (hg:Gl X x) (hm:X.mg x=none) (hv:bootBuiltins x=some (.type T)) (ha:PA X (e::es) t) (hn:x ≠ "__name__" := by decide) (hdb:(x == ("__debug__" : Str))=false:=by decide)
  (he:starEach (e::es) X.env=(false,eval e X.env)::starEach es X.env:=by rfl) (hpl:(backTo pos (starEach es X.env)).any (·.1)=false:=by rfl):PE X (.Call (.Name x p) (e::es) [] pos) (HF r t):=by
 intro pins s σ H Q I h
 refine wpAny_Call_Name_kw (gw I hg hm hv ?_ hn hdb)
 exact PyProof.Rows.callWith_type1 (cf (ha pos pins s σ H _ I h) fun us s1 ⟨vs,H1,I1,r1,q1⟩=>hc pins s1 σ H1 vs us Q I1 r1 q1) he hpl
end
end L2
namespace HT
open PySem PyProof.Rows
section
open PySem.SeqAt
open PySem.AutoSeq1 (wpAny_loadPart')
open PySem.MeetsSeq PySem.MeetsSeq2 PySem.MeetsSeq3
end
section
variable {prog:Program} {w:World} {A:Around} {E:Value->Shared->Prop} {s:Shared}
theorem AV {t b:Addr} {vs ws:List Value} {Q:Value->Shared->Prop} (ht:IsTup s.heap t vs.toArray) (hb:IsTup s.heap b ws.toArray) (hv:vs≠[])
  (h1:ws=[]->Q (.ref t) s) (h2:ws≠[]->Q (.ref s.heap.objs.size) {s with heap:=s.heap.push {cls:=.type "tuple",data:=.seq (vs++ws).toArray}})
  (hsz:vs.length+ws.length<=sizeLine):wpAny (model prog w) A (binaryOp .Add (.ref t) (.ref b)) Q E s:=by
 obtain ⟨⟨cls,dd,data,sl⟩,ho,hc,n,hd⟩:=id ht
 obtain ⟨⟨cls2,dd2,data2,sl2⟩,ho2,hc2,n2,hd2⟩:=id hb
 simp only at hc hd hc2 hd2
 subst hc hd hc2 hd2
 have e:vs.toArray++ws.toArray=(vs++ws).toArray:=by simp
 by_cases hw:ws=[]
 ·exact concat_meets ⟨_,ho,rfl⟩ ⟨_,ho2,rfl⟩ noFill_tuple_add seq_tuple_add PySem.F.slot_tuple_add PySem.F.entry_tuple_add (PySem.F.args_tuple_add_2 _ _)
   (tuple_addW1 t b vs.toArray ws.toArray n n2 dd dd2 sl sl2 (by simpa using hv) (by simp [hw])) ⟨ho,ho2,h1 hw⟩
 ·refine concat_meets ⟨_,ho,rfl⟩ ⟨_,ho2,rfl⟩ noFill_tuple_add seq_tuple_add PySem.F.slot_tuple_add PySem.F.entry_tuple_add (PySem.F.args_tuple_add_2 _ _)
   (tuple_addW2 t b vs.toArray ws.toArray n n2 dd dd2 sl sl2 (by simpa using hv) (by simpa using hw) (by rw [List.size_toArray,List.size_toArray];exact hsz)) ⟨ho,ho2,?_⟩
  rw [e]
  exact h2 hw
def cU (n d:Nat):Option Int->Nat
 | none=>d
 | some v=>if v < 0 then (v+(n:Int)).toNat else min v.toNat n
theorem DX (n d:Nat) (hd:d<=n) (o:Option Int):cU n d o<=n:=by
 cases o with
 | none=>exact hd
 | some v=>
  show (if v < 0 then (v+(n:Int)).toNat else min v.toNat n)<=n
  by_cases hv:v < 0
  ·rw [if_pos hv];omega
  ·rw [if_neg hv];exact Nat.min_le_right _ _
theorem vW (v:Int) (n d:Nat):(if v < 0 then max (v+(n:Int)) 0 else min v (n:Int))=((cU n d (some v):Nat):Int):=by
 show (if v < 0 then max (v+(n:Int)) 0 else min v (n:Int))=(((if v < 0 then (v+(n:Int)).toNat else min v.toNat n):Nat):Int)
 by_cases hv:v < 0
 ·simp only [if_pos hv];omega
 ·simp only [if_neg hv];omega
theorem uN (lo hi:Option Int) (n:Nat):Builtin.Slice.sliceAdjust lo hi 1 (n:Int)=(((cU n 0 lo:Nat):Int),((cU n n hi:Nat):Int)):=by
 have h1:¬ ((1:Int) < 0):=by omega
 unfold Builtin.Slice.sliceAdjust
 simp only [h1,if_false]
 refine Prod.ext ?_ ?_
 ·cases lo with
  | none=>rfl
  | some v=>exact vW v n 0
 ·cases hi with
  | none=>rfl
  | some v=>exact vW v n n
theorem uO (i j:Nat):Builtin.Slice.slicePlaces (i:Int) (j:Int) 1=j - i:=by
 unfold Builtin.Slice.slicePlaces
 have h1:(1:Int) > 0:=by omega
 simp only [h1,if_true,Int.ediv_one]
 split<;>omega
theorem mZ {v:Value} {o:Option Int} {Q:Option Int->Shared->Prop} (p:IsPart v o) (h:Q o s):wpAny (model prog w) A (Builtin.Slice.slicePartIndex v) Q E s:=by
 cases p with
 | none=>exact slicePart_none h
 | int i t=>exact slicePart_int h
theorem gf {sl:Addr} {vl vu:Value} {lo hi:Option Int} {n:Nat} {Q:Int×Int×Nat->Shared->Prop} (hs:s.heap.IsSliceOf sl vl vu .none) (pl:IsPart vl lo) (pu:IsPart vu hi)
  (h:Q (((cU n 0 lo:Nat):Int),1,cU n n hi - cU n 0 lo) s):wpAny (model prog w) A (Builtin.Slice.sliceApplied (.ref sl) (pure (n:Int))) Q E s:=by
 obtain ⟨os,hos,hcs,hds⟩:=id hs
 unfold Builtin.Slice.sliceApplied Builtin.Slice.sliceFields
 refine wpAny_bind (wpAny_bind (wpAny_field hos hds (x:=vl) rfl (wpAny_bind (wpAny_field hos hds (x:=vu) rfl (wpAny_bind (wpAny_field hos hds (x:=.none) rfl (wpAny_pure ?_)))))))
 refine wpAny_bind (slicePart_none ?_)
 show wpAny _ _ (if ((1:Int) == 0)=true then _ else _) _ _ s
 rw [if_neg (by decide)]
 refine wpAny_bind (mZ pl (wpAny_bind (mZ pu (wpAny_bind (wpAny_pure ?_)))))
 show wpAny _ _ (match Builtin.Slice.sliceAdjust lo hi 1 (n:Int) with | (lo,hi)=>pure (lo,(1:Int),Builtin.Slice.slicePlaces lo hi 1)) _ _ s
 rw [uN lo hi n]
 show wpAny _ _ (pure (((cU n 0 lo:Nat):Int),(1:Int),Builtin.Slice.slicePlaces ((cU n 0 lo:Nat):Int) ((cU n n hi:Nat):Int) 1)) _ _ s
 rw [uO]
 exact wpAny_pure h
theorem yB (xs:Array Value) (i k:Nat):((List.range k).filterMap fun (m:Nat)=>xs[((i:Int)+(m:Int) * 1).toNat]?).toArray=((xs.toList.drop i).take k).toArray:=by
 have e:(fun (m:Nat)=>xs[((i:Int)+(m:Int) * 1).toNat]?)=fun m=>xs[i+m]?:=by
  funext m
  have:((i:Int)+(m:Int) * 1).toNat=i+m:=by omega
  rw [this]
 rw [e]
 have:=pick_run xs i k
 rw [List.filterMap_map] at this
 have e2:((fun x=>xs[x]?)∘fun x=>i+x)=fun m=>xs[i+m]?:=rfl
 rw [e2] at this
 rw [this]
theorem jL {t sl:Addr} {items:Array Value} {vl vu:Value} {lo hi:Option Int} {Q:Value->Shared->Prop} (ht:IsTup s.heap t items) (hs:s.heap.IsSliceOf sl vl vu .none) (pl:IsPart vl lo) (pu:IsPart vu hi)
  (hw:¬ (cU items.size 0 lo=0/\cU items.size items.size hi=items.size))
  (h:Q (.ref s.heap.objs.size) {s with heap:=s.heap.push {cls:=.type "tuple",data:=.seq ((items.toList.drop (cU items.size 0 lo)).take (cU items.size items.size hi - cU items.size 0 lo)).toArray}})
  (hsz:items.size<=sizeLine):wpAny (model prog w) A (getItem (.ref t) (.ref sl)) Q E s:=by
 have htake:sizeOk (.seq ((items.toList.drop (cU items.size 0 lo)).take (cU items.size items.size hi - cU items.size 0 lo)).toArray):=by
  show ((items.toList.drop (cU items.size 0 lo)).take (cU items.size items.size hi - cU items.size 0 lo)).toArray.size<=sizeLine
  rw [List.size_toArray,List.length_take,List.length_drop,Array.length_toList]
  omega
 have hj:cU items.size items.size hi<=items.size:=DX _ _ (Nat.le_refl _) hi
 obtain ⟨os,hos,hcs,hds⟩:=id hs
 have hTs:s.TypeIs (.ref sl) "slice" := ⟨os,hos,hcs⟩
 unfold getItem
 try with_reducible refine wpAny_holding ?_
 first | refine wpAny_bind (wpAny_pure ?_) | skip
 refine wpAny_bind (wpAny_sequenceKey ht.typeIs (by decide) ?_)
 refine wpAny_bind (wpAny_callSpecial?_slot (name:=Str.ofString "__getitem__") ht.typeIs PyProof.Rows.slot_tuple_getitem
  (wpAny_call_entry PyProof.Rows.slot_tuple_getitem ht.typeIs entry_tuple_getitem ?_ (args_tuple_getitem _ _)))
 show wpAny _ _ (Builtin.Tuple.tupleItemsOf (.ref t) >>= _) _ _ s
 refine wpAny_bind (tupleItemsOf_ ht ?_)
 refine wpAny_bind (wpAny_typeOf hTs ?_)
 rw [if_pos (by decide)]
 refine wpAny_bind (gf hs pl pu ?_)
 have hno:¬ ((((cU items.size 0 lo:Nat):Int) == 0 && (1:Int) == 1 && (cU items.size items.size hi - cU items.size 0 lo) == items.size)=true):=by
  intro q
  rw [Bool.and_eq_true,Bool.and_eq_true] at q
  have q1:((cU items.size 0 lo:Nat):Int)=0:=eq_of_beq q.1.1
  have q2:cU items.size items.size hi - cU items.size 0 lo=items.size:=eq_of_beq q.2
  exact hw ⟨by omega,by omega⟩
 show wpAny _ _ (if (((cU items.size 0 lo:Nat):Int) == 0 && (1:Int) == 1 && (cU items.size items.size hi - cU items.size 0 lo) == items.size)=true then _ else _) _ _ s
 rw [if_neg hno,yB]
 first
  | exact wpAny_bind (m:=Builtin.Tuple.tupleExact _) (wpAny_newObj_type (wpAny_pure ⟨_,rfl,wpAny_pure h⟩) htake)
  | exact wpAny_bind (m:=Builtin.Tuple.tupleExact _) (wpAny_newObj_type (wpAny_bind (wpAny_pure (wpAny_pure ⟨_,rfl,wpAny_pure h⟩))) htake)
  | exact wpAny_bind (wpAny_bind (m:=Builtin.Tuple.tupleExact _) (wpAny_newObj_type (wpAny_pure (wpAny_pure ⟨_,rfl,wpAny_pure h⟩)) htake))
  | exact wpAny_bind (wpAny_bind (m:=Builtin.Tuple.tupleExact _) (wpAny_newObj_type (wpAny_pure ⟨_,rfl,wpAny_pure h⟩) htake))
end
end HT
namespace L2
open PySem PySem.Spec PyProof.Rows
abbrev TO:=St->Hp->(Option Int->Hp->Prop)->Prop
def PO (X:Cx) (e:Option Expr) (t:TO):Prop:=
 ∀ (pins:List (Addr×Obj)) (s:Shared) (σ:St) (H:Hp) (Q:Option Int->Hp->Prop),Inv X pins σ H s->t σ H Q ->
  wpAny (model X.prog X.w) X.A (evalPart e X.env) (fun u s'=>∃ o H',Inv X pins σ H' s'/\IsPart u o/\Q o H') X.xe s
def AW:TO:=fun _ H Q=>Q none H
def FK (t:TE):TO:=fun σ H Q=>t σ H fun x H1=>∃ i,x=.int i/\Q (some i) H1
section
variable {X:Cx} {e:Expr} {te:TE} {lo hi:Option Expr} {tl th:TO} {pos p2:Pos}
theorem AX:PO X none AW:=by
 intro pins s σ H Q I h
 rw [evalPart_none]
 exact wpAny_pure ⟨none,H,I,.none,h⟩
theorem AY (h:PE X e te):PO X (some e) (FK te):=by
 intro pins s σ H Q I hw
 rw [evalPart_some]
 refine cf (h pins s σ H _ I hw) fun u s1 ⟨x,H1,I1,r1,q1⟩=>?_
 obtain ⟨i,rfl,q⟩:=q1
 obtain ⟨t,rfl⟩:=r1
 exact ⟨some i,H1,I1,.int i t,q⟩
def FN (X:Cx) (r:V->Option Int->Option Int->Hp->VK->Prop):Prop:=
 ∀ (pins:List (Addr×Obj)) (s:Shared) (σ:St) (H:Hp) (x:V) (v vl vu:Value) (lo hi:Option Int) (sl:Addr) (Q:VK),Inv X pins σ H s->RelV x v->s.heap.IsSliceOf sl vl vu .none->IsPart vl lo->IsPart vu hi->r x lo hi H Q ->
  ∃ T id,typeLookup (.type T) "__getitem__" = pure (some (.builtin id))/\s.TypeIs v T/\wpAny (model X.prog X.w) X.A (getItem v (.ref sl)) (EP X pins σ Q) X.xe s
def JA (r:V->Option Int->Option Int->Hp->VK->Prop) (te:TE) (tl th:TO):TE:=fun σ H Q=>te σ H fun x H1=>tl σ H1 fun l H2=>th σ H2 fun u H3=>r x l u H3 Q
theorem yC {r:V->Option Int->Option Int->Hp->VK->Prop} (hr:FN X r) (he:PE X e te) (hl:PO X lo tl) (hu:PO X hi th):PE X (.Subscript e (.Slice lo hi none p2) pos) (JA r te tl th):=by
 intro pins s σ H Q I h
 refine Subscript_ (cf (he pins s σ H _ I h) fun v s1 ⟨x,H1,I1,r1,q1⟩=>?_)
 refine wpAny_Slice (cf (hl pins s1 σ H1 _ I1 q1) fun vl s2 ⟨l,H2,I2,pl,q2⟩=>cf (hu pins s2 σ H2 _ I2 q2) fun vu s3 ⟨u,H3,I3,pu,q3⟩=>?_)
 rw [evalPart_none]
 refine wpAny_pure ?_
 have I4:Inv X pins σ H3 {s3 with heap:=s3.heap.push {cls:=.type "slice",data:=.fields #[vl,vu,.none]}}:=I3.kept (t':=s3.toks) fun b ob q=>Heap.get?_push_of_some _ q
 obtain ⟨T,id,hT,ht,hg⟩:=hr pins {s3 with heap:=s3.heap.push {cls:=.type "slice",data:=.fields #[vl,vu,.none]}} σ H3 x v vl vu l u s3.heap.objs.size Q I4 r1 (Heap.IsSliceOf.new ..) pl pu q3
 show wpAny (model X.prog X.w) X.A (subscriptTail e (.Slice lo hi none p2) v (.ref s3.heap.objs.size)) (EP X pins σ Q) X.xe {s3 with heap:=s3.heap.push {cls:=.type "slice",data:=.fields #[vl,vu,.none]}}
 exact tail_any (ops:=[.ref s3.heap.objs.size,v]) ht hT hg (by with_unfolding_all rfl)
def ph (xs:List V) (lo hi:Option Int):List V:=(xs.drop (HT.cU xs.length 0 lo)).take (HT.cU xs.length xs.length hi - HT.cU xs.length 0 lo)
theorem lg (xs:List V) (lo hi:Option Int):(ph xs lo hi).length<=xs.length:=by
 unfold ph
 rw [List.length_take,List.length_drop]
 omega
def HG (K:PySem.W.Frag):V->Option Int->Option Int->Hp->VK->Prop:=fun x lo hi H Q=>∃ a xs,x=.ref a/\eR K H a xs /\
 ¬ (HT.cU xs.length 0 lo=0/\HT.cU xs.length xs.length hi=xs.length)/\∀ p,H p=none->Q (.ref p) (upd H p (.tup (ph xs lo hi)))
theorem DY:FN X (HG X.K):=by
 intro pins s σ H x v vl vu lo hi sl Q I rx hs pl pu h
 obtain ⟨a,xs,rfl,hx,hw,q⟩:=h
 cases rx
 obtain ⟨its,r,ht,hz⟩:=I.tuple hx
 have hlen:its.toArray.size=xs.length:=by rw [List.size_toArray];exact r.length.symm
 refine ⟨"tuple",_,PyProof.Rows.slot_tuple_getitem.lookup,ht.typeIs,?_⟩
 refine HT.jL ht hs pl pu (by rw [hlen];exact hw) ?_ (by rw [hlen];exact hz)
 rw [hlen]
 refine ⟨.ref s.heap.objs.size,_,I.laid (t':=s.toks) (o:=.tup (ph xs lo hi)) (fun b ob q=>Heap.get?_push_of_some _ q) (Nat.le_refl _) ?_,rfl,q _ (I.hok.fresh (Nat.le_refl _))⟩
 exact ⟨Nat.le_trans (lg xs lo hi) hz,_,(r.drop (HT.cU xs.length 0 lo)).take (HT.cU xs.length xs.length hi - HT.cU xs.length 0 lo),IsTup.new _ _⟩
def FO (K:PySem.W.Frag):R2:=fun x y H Q=>∃ a b xs ys,x=.ref a/\y=.ref b/\eR K H a xs/\eR K H b ys/\xs≠[]/\xs.length+ys.length<=sizeLine /\
 (ys=[]->Q (.ref a) H)/\(ys≠[]->∀ p,H p=none->Q (.ref p) (upd H p (.tup (xs++ys))))
theorem Vals.qM {xs:List V} {us:List Value} (r:Vals xs us):us=[]<->xs=[]:=by
 cases r with
 | nil=>simp
 | cons _ _=>simp
theorem AZ:fI X (binaryOp .Add) (FO X.K):=by
 intro pins s σ H x y v u Q I rx ry h
 obtain ⟨a,b,xs,ys,rfl,rfl,ha,hb,hx,hz,q1,q2⟩:=h
 cases rx
 cases ry
 obtain ⟨its,r1,p1,_⟩:=I.tuple ha
 obtain ⟨its2,r2,p2,_⟩:=I.tuple hb
 refine HT.AV p1 p2 (fun z=>hx (r1.qM.mp z)) (fun z=>⟨.ref a,H,I,rfl,q1 (r2.qM.mp z)⟩) (fun z=>?_) (by rw [<- r1.length,<- r2.length];exact hz)
 refine ⟨.ref s.heap.objs.size,_,I.laid (t':=s.toks) (o:=.tup (xs++ys)) (fun b ob q=>Heap.get?_push_of_some _ q) (Nat.le_refl _) ?_,rfl,q2 (fun w=>z (r2.qM.mpr w)) _ (I.hok.fresh (Nat.le_refl _))⟩
 exact ⟨by rw [List.length_append];exact hz,_,r1.append r2,IsTup.new _ _⟩
end
end L2
namespace L2
open PySem PySem.Spec PyProof.Rows
def sG (n:Nat) (i:Int):Option Nat:=if 0<=i then (if i < n then some i.toNat else none) else if -(n:Int)<=i then some (i+n).toNat else none
def jF {α:Type} (xs:List α) (i:Int):Option α:=(sG xs.length i).bind fun j=>xs[j]?
theorem vX {n:Nat} {i:Int} {j:Nat} (h:sG n i=some j):seqIndex? i n=some j/\j < n/\-(n:Int)<=i/\i < n:=by
 unfold sG at h
 by_cases h0:0<=i
 ·rw [if_pos h0] at h
  by_cases h1:i < n
  ·rw [if_pos h1] at h
   have e:i.toNat=j:=Option.some.inj h
   exact ⟨by rw [seqIndex_of h0 h1,e],by omega,by omega,h1⟩
  ·rw [if_neg h1] at h;cases h
 ·rw [if_neg h0] at h
  by_cases h1:-(n:Int)<=i
  ·rw [if_pos h1] at h
   have e:(i+n).toNat=j:=Option.some.inj h
   exact ⟨by rw [seqIndex_neg (by omega) h1,e],by omega,h1,by omega⟩
  ·rw [if_neg h1] at h;cases h
theorem vY {α:Type} {xs:List α} {i:Int} {v:α} (h:jF xs i=some v):∃ j,seqIndex? i xs.length=some j/\xs[j]?=some v/\j < xs.length/\-(xs.length:Int)<=i/\i < xs.length:=by
 unfold jF at h
 cases e:sG xs.length i with
 | none=>rw [e] at h;cases h
 | some j=>
  rw [e] at h
  obtain ⟨h1,h2,h3,h4⟩:=vX e
  exact ⟨j,h1,h,h2,h3,h4⟩
theorem jM {α:Type} {xs:List α} {j:Nat} {v:α} (h:xs[j]?=some v):jF xs (j:Int)=some v:=by
 have hj:j < xs.length:=(List.getElem?_eq_some_iff.mp h).1
 have e:sG xs.length (j:Int)=some j:=by
  unfold sG
  rw [if_pos (by omega),if_pos (by omega)];simp
 unfold jF;rw [e];exact h
def vZ (b:Expr):Prop:=∀ o i,subscripted b false o i=operate [o,i] (getItem o i)
def E9 (X:Cx) (r:R2):Prop:=
 ∀ (value slice:Expr) (pins:List (Addr×Obj)) (s:Shared) (σ:St) (H:Hp) (x y:V) (v u:Value) (Q:VK),Inv X pins σ H s->RelV x v->RelV y u->r x y H Q ->
  subscripted slice false v u=operate [v,u] (getItem v u)->wpAny (model X.prog X.w) X.A (subscriptTail value slice v u) (EP X pins σ Q) X.xe s
def JB (X:Cx) (id:String) (r:V->List V->Hp->VK->Prop):Prop:=
 ∀ (pins:List (Addr×Obj)) (s:Shared) (σ:St) (H:Hp) (x:V) (xs:List V) (v:Value) (us:List Value) (Q:VK),Inv X pins σ H s->RelV x v->Vals xs us->r x xs H Q ->
  wpAny (model X.prog X.w) X.A (call (.builtin id) (v::us)) (EP X pins σ Q) X.xe s
section
variable {X:Cx} {a b:Expr} {ta tb:TE} {pos:Pos}
theorem FP {r:R2} (hr:E9 X r) (ha:PE X a ta) (hb:PE X b tb) (hs:vZ b):PE X (.Subscript a b pos) (Fy r ta tb):=by
 intro pins s σ H Q I h
 exact Subscript_ (DJ ha hb I h fun v u s2 x y H2 I2 rx ry q=>hr a b pins s2 σ H2 x y v u Q I2 rx ry q (hs _ _))
def HH (K:PySem.W.Frag):R2:=fun x y H Q=>∃ p xs i v,x=.ref p/\y=.int i/\gc K H p xs/\jF xs i=some v/\Q v H
def HI (K:PySem.W.Frag):R2:=fun x y H Q=>∃ p xs i v,x=.ref p/\y=.int i/\eR K H p xs/\jF xs i=some v/\Q v H
theorem qN:E9 X (HH X.K):=by
 intro value slice pins s σ H x y v u Q I rx ry h hs
 obtain ⟨p,xs,i,z,rfl,rfl,hq,he,q⟩:=h
 cases rx
 obtain ⟨t,rfl⟩:=ry
 obtain ⟨its,r,pl,hz⟩:=I.list hq
 obtain ⟨j,h1,h2,h3,h4,h5⟩:=vY he
 obtain ⟨w,ew,rw'⟩:=r.get h2
 have hl:=r.length
 have hn:=mY
 have fin:EP X pins σ Q w s:=⟨z,H,I,rw',q⟩
 by_cases h0:0<=i
 ·have hj:i.toNat=j:=by
   rw [seqIndex_of h0 h5] at h1
   exact Option.some.inj h1
  exact item_listR pl.isList h0 (by omega) (by rw [hj];simpa using ew) fin hs
 ·have hj:(i+(its.toArray.size:Int)).toNat=j:=by
   rw [seqIndex_neg (by omega) h4] at h1
   rw [List.size_toArray,<- hl]
   exact Option.some.inj h1
  exact subscriptTail_builtinR (x:=w) pl.isList.typeIs slot_list_getitem.lookup
   (wpAny_getItem_list_neg (Q:=fun r s'=>r=w/\EP X pins σ Q r s') pl.isList (by omega) (by rw [List.size_toArray]<;>omega) (by omega) (by rw [hj];simpa using ew) ⟨rfl,fin⟩) hs
theorem DZ:E9 X (HI X.K):=by
 intro value slice pins s σ H x y v u Q I rx ry h hs
 obtain ⟨p,xs,i,z,rfl,rfl,hq,he,q⟩:=h
 cases rx
 obtain ⟨t,rfl⟩:=ry
 obtain ⟨its,r,pl,hz⟩:=I.tuple hq
 obtain ⟨j,h1,h2,h3,h4,h5⟩:=vY he
 obtain ⟨w,ew,rw'⟩:=r.get h2
 have hl:=r.length
 have hn:=mY
 have fin:EP X pins σ Q w s:=⟨z,H,I,rw',q⟩
 exact subscriptTail_builtinR (x:=w) pl.typeIs slot_tuple_getitem.lookup
  (getItem_tuple (j:=j) (Q:=fun r s'=>r=w/\EP X pins σ Q r s') pl (by omega) (by omega) (by rw [List.size_toArray,<- hl];exact h1) (by simpa using ew) ⟨rfl,fin⟩) hs
theorem uP (its:List Value) (n j:Nat) (u:Value):Obj.mapSeq (·.setIfInBounds j u) {cls:=.type "list",data:=.seq its.toArray n}={cls:=.type "list",data:=.seq (its.set j u).toArray n}:=by
 simp [Obj.mapSeq]
theorem Inv.lst {pins:List (Addr×Obj)} {σ:St} {H:Hp} {s:Shared} {p:Addr} {xs:List V} (I:Inv X pins σ H s) (h:H p=some (.lst xs)) :
  ∃ (its:List Value) (n:Nat),Vals xs its/\s.heap.get? p=some {cls:=.type "list",data:=.seq its.toArray n}/\xs.length<=sizeLine:=by
 obtain ⟨z,its,n,r,e⟩:=I.hok p _ h
 exact ⟨its,n,r,e,z⟩
theorem Inv.D0 {pins:List (Addr×Obj)} {σ:St} {H:Hp} {s:Shared} {p:Addr} {xs ys:List V} {its its':List Value} {n n':Nat} {f:Obj->Obj} (I:Inv X pins σ H s) (h:H p=some (.lst xs))
  (ho:s.heap.get? p=some {cls:=.type "list",data:=.seq its.toArray n}) (hf:f {cls:=.type "list",data:=.seq its.toArray n}={cls:=.type "list",data:=.seq its'.toArray n'}) (r:Vals ys its') (hz:ys.length<=sizeLine) (t:Nat) :
  Inv X pins σ (upd H p (.lst ys)) {s with heap:=s.heap.update p f,toks:=t}:=by
 have e:(s.heap.update p f).get? p=some {cls:=.type "list",data:=.seq its'.toArray n'}:=by
  rw [Heap.get?_update_self f ho (by rw [hf]<;>rfl),hf]
 refine I.write (x:=p) (e:=p) (by rw [h];trivial) (.inl rfl) (fun b u hb q=>(Heap.get?_update_other _ _ (Ne.symm hb)).trans q) ⟨_,e⟩ ?_
 exact ⟨hz,its',n',r,e⟩
def CI:V->V->V->Hp->(Hp->Prop)->Prop:=fun o i v H Q=>∃ p xs k j,o=.ref p/\i=.int k/\H p=some (.lst xs)/\sG xs.length k=some j/\Q (upd H p (.lst (xs.set j v)))
theorem set_list:Dz X CI:=by
 intro pins s σ H o i v ov iv u Q I ro ri rv h
 obtain ⟨p,xs,k,j,rfl,rfl,hp,hj,q⟩:=h
 cases ro
 obtain ⟨t,rfl⟩:=ri
 obtain ⟨its,n,r,ho,hz⟩:=I.lst hp
 obtain ⟨h1,h2,h3,h4⟩:=vX hj
 have hl:=r.length
 have hn:=mY
 have I':Inv X pins σ (upd H p (.lst (xs.set j v))) {s with heap:=s.heap.update p (Obj.mapSeq (·.setIfInBounds j u))}:=
  I.D0 hp ho (uP its n j u) (r.set rv j) (by rw [List.length_set];exact hz) s.toks
 by_cases h0:0<=k
 ·have hk:k.toNat=j:=by
   rw [seqIndex_of h0 h4] at h1
   exact Option.some.inj h1
  exact PySem.W.ki_setAt ho h0 (by omega) (by rw [List.size_toArray,<- hl];exact h4) (by rw [hk];exact ⟨_,I',q⟩)
 ·have hk:(k+(its.toArray.size:Int)).toNat=j:=by
   rw [seqIndex_neg (by omega) h3] at h1
   rw [List.size_toArray,<- hl]
   exact Option.some.inj h1
  exact PySem.W.ki_setBack ho (by omega) (by rw [List.size_toArray,<- hl];exact h3) (by omega) (by rw [hk];exact ⟨_,I',q⟩)
theorem qO (lo hi:Option Int) (n:Nat):(sliceBounds lo hi none n).1=((HT.cU n 0 lo:Nat):Int)/\(sliceBounds lo hi none n).2.1=((HT.cU n n hi:Nat):Int)/\(sliceBounds lo hi none n).2.2=1:=by
 refine ⟨?_,?_,rfl⟩
 ·cases lo with
  | none=>simp [sliceBounds,HT.cU]
  | some i=>
   simp only [sliceBounds,HT.cU,Option.getD_none,show (1:Int) > 0 by decide,if_true]
   by_cases h:i < 0
   ·simp only [h,if_true]<;>omega
   ·simp only [h,if_false]<;>omega
 ·cases hi with
  | none=>simp [sliceBounds,HT.cU]
  | some i=>
   simp only [sliceBounds,HT.cU,Option.getD_none,show (1:Int) > 0 by decide,if_true]
   by_cases h:i < 0
   ·simp only [h,if_true]<;>omega
   ·simp only [h,if_false]<;>omega
theorem pj (its:List Value) (lo hi:Option Int):slicePick its.toArray lo hi none=((its.drop (HT.cU its.length 0 lo)).take (HT.cU its.length its.length hi - HT.cU its.length 0 lo)).toArray:=by
 obtain ⟨h1,h2,h3⟩:=qO lo hi its.toArray.size
 unfold slicePick
 rw [h1,h2,h3]
 simp only [sliceRange_one,pick_run,List.size_toArray]<;>rfl
def HJ (K:PySem.W.Frag):V->Option Int->Option Int->Hp->VK->Prop:=fun x lo hi H Q=>∃ a xs,x=.ref a/\gc K H a xs/\∀ p,H p=none->Q (.ref p) (upd H p (.lst (ph xs lo hi)))
theorem A0:FN X (HJ X.K):=by
 intro pins s σ H x v vl vu lo hi sl Q I rx hs pl pu h
 obtain ⟨a,xs,rfl,hx,q⟩:=h
 cases rx
 obtain ⟨its,r,ht,hz⟩:=I.list hx
 have hlen:=r.length
 refine ⟨"list",_,slot_list_getitem.lookup,ht.isList.typeIs,?_⟩
 refine wpAny_getItem_list_slice ht.isList hs pl pu .none (by simp) ?_ (by rw [List.size_toArray]<;>omega)
 rw [pj,<- hlen]
 refine ⟨.ref s.heap.objs.size,_,I.laid (t':=s.toks) (o:=.lst (ph xs lo hi)) (fun b ob q=>Heap.get?_push_of_some _ q) (Nat.le_refl _) ?_,rfl,q _ (I.hok.fresh (Nat.le_refl _))⟩
 exact ⟨Nat.le_trans (lg xs lo hi) hz,_,0,(r.drop (HT.cU xs.length 0 lo)).take (HT.cU xs.length xs.length hi - HT.cU xs.length 0 lo),Heap.get?_push_size _ rfl⟩
theorem cF.or {f:Value} {r r':List V->Hp->VK->Prop} (h:cF X f r) (h':cF X f r'):cF X f (fun xs H Q=>r xs H Q\/r' xs H Q):=by
 intro pins s σ H xs us Q I rs q
 rcases q with q | q
 ·exact h pins s σ H xs us Q I rs q
 ·exact h' pins s σ H xs us Q I rs q
theorem qP:cF X (.type "list") (fun xs H Q=>∃ p ys,xs=[.ref p]/\(gc X.K H p ys\/eR X.K H p ys)/\∀ l,H l=none->Q (.ref l) (upd H l (.lst ys))):=by
 intro pins s σ H xs us Q I r h
 obtain ⟨p,ys,rfl,hq,q⟩:=h
 obtain ⟨u,rfl,rx⟩:=vals1 r
 cases rx
 have fin:∀ (its:List Value),Vals ys its->ys.length<=sizeLine->∀ (h':Heap) (c':Nat),(∀ b o',s.heap.get? b=some o'->h'.get? b=some o') ->
   h'.get? s.heap.objs.size=some {cls:=.type "list",dict:=none,data:=.seq its.toArray c',slots:=#[]}->EP X pins σ Q (.ref s.heap.objs.size) {s with heap:=h'}:=fun its r' hz h' c' kp e=>
  ⟨.ref s.heap.objs.size,_,I.laid (t':=s.toks) kp (Nat.le_refl _) (show bY X.prog X.w _ h' _ (.lst ys) from ⟨hz,its,c',r',e⟩),rfl,q _ (I.hok.fresh (Nat.le_refl _))⟩
 rcases hq with hq | hq
 ·obtain ⟨its,r',pl,hz⟩:=I.list hq
  have hlen:=r'.length
  obtain ⟨o,ho,hc,n,hd⟩:=pl.isList
  exact call_list_seq p (.inl rfl) ho hc hd (fun h' c' kp e=>fin its r' hz h' c' kp e) (by simp only [List.size_toArray]<;>omega)
 ·obtain ⟨its,r',pl,hz⟩:=I.tuple hq
  have hlen:=r'.length
  obtain ⟨o,ho,hc,n,hd⟩:=pl
  exact call_list_seq p (.inr rfl) ho hc hd (fun h' c' kp e=>fin its r' hz h' c' kp e) (by simp only [List.size_toArray]<;>omega)
theorem pq:cF X (.type "tuple") (fun xs H Q=>∃ p ys,xs=[.ref p]/\((gc X.K H p ys/\∀ l,H l=none->Q (.ref l) (upd H l (.tup ys)))\/(eR X.K H p ys/\Q (.ref p) H))):=by
 intro pins s σ H xs us Q I r h
 obtain ⟨p,ys,rfl,h⟩:=h
 obtain ⟨u,rfl,rx⟩:=vals1 r
 cases rx
 rcases h with ⟨hq,q⟩ | ⟨hq,q⟩
 ·obtain ⟨its,r',pl,hz⟩:=I.list hq
  have hlen:=r'.length
  refine call_tuple_list pl.isList (fun h' kp=>?_) (by simp only [List.size_toArray]<;>omega)
  have I1:Inv X pins σ H {s with heap:=h'}:=I.kept (t':=s.toks) kp
  have I2:Inv X pins σ (upd H h'.objs.size (.tup ys)) {s with heap:=h'.push {cls:=.type "tuple",data:=.seq its.toArray}}:=
   I1.laid (t':=s.toks) (fun b o e=>Heap.get?_push_of_some _ e) (Nat.le_refl _) (show bY X.prog X.w _ _ _ (.tup ys) from ⟨hz,its,r',IsTup.new _ _⟩)
  exact ⟨.ref h'.objs.size,_,I2,rfl,q _ (I1.hok.fresh (Nat.le_refl _))⟩
 ·obtain ⟨its,r',pl,hz⟩:=I.tuple hq
  exact call_tuple_same pl ⟨.ref p,H,I,rfl,q⟩
def I0 (K:PySem.W.Frag) (T:String) (x:V) (H:Hp):Prop:=match x with
 | .str _=>T = "str"
 | .int _=>T = "int"
 | .ref p=>(T = "list" /\ ∃ xs,gc K H p xs)\/(T = "tuple" /\ ∃ o,K.lookup p=some o/\o.cls=.type "tuple" /\ o.dict=none) \/
   (T = "dict" /\ ((∃ kvs,H p=some (.dK kvs))\/∃ kvs,H p=some (.dT kvs)))\/(T = "set" /\ ∃ S n,H p=some (.set S n))
 | _=>False
theorem D1 {pins:List (Addr×Obj)} {σ:St} {H:Hp} {s:Shared} {T:String} {x:V} {v:Value} (I:Inv X pins σ H s) (r:RelV x v) (ty:I0 X.K T x H) :
  s.TypeIs v T/\∀ a,v=.ref a->∃ ob,s.heap.get? a=some ob/\ob.dict=none:=by
 cases x with
 | str z=>
  obtain ⟨t,rfl⟩:=r
  cases (show T = "str" from ty)
  exact ⟨typeIs_str s z t,fun _ e=>nomatch e⟩
 | int i=>
  obtain ⟨t,rfl⟩:=r
  cases (show T = "int" from ty)
  exact ⟨typeIs_int s i t,fun _ e=>nomatch e⟩
 | ref p=>
  cases r
  rcases ty with ⟨rfl,xs,hq⟩ | ⟨rfl,o,hk,hc,hd⟩ | ⟨rfl,hk⟩ | ⟨rfl,S,n,hk⟩
  ·obtain ⟨its,_,pl,_⟩:=I.list hq
   refine ⟨pl.isList.typeIs,fun a e=>?_⟩
   cases e
   obtain ⟨o,n,e,c,hd,_⟩:=pl
   exact ⟨o,e,hd⟩
  ·refine ⟨⟨o,I.qJ p o hk,hc⟩,fun a e=>?_⟩
   cases e
   exact ⟨o,I.qJ _ o hk,hd⟩
  ·have z:∃ o,s.heap.get? p=some o/\o.ExactDict:=by
    rcases hk with ⟨kvs,hk⟩ | ⟨kvs,hk⟩
    ·obtain ⟨_,_,_,_,o,_,_,e,ex,_⟩:=I.hok p _ hk
     exact ⟨o,e,ex⟩
    ·obtain ⟨_,_,_,_,o,_,_,e,ex,_⟩:=I.hok p _ hk
     exact ⟨o,e,ex⟩
   obtain ⟨o,e,ex⟩:=z
   refine ⟨⟨o,e,ex.1⟩,fun a e2=>?_⟩
   cases e2
   exact ⟨o,e,ex.2.1⟩
  ·obtain ⟨o,_,_,_,e,ex,_⟩:=I.hok p _ hk
   refine ⟨⟨o,e,ex.1⟩,fun a e2=>?_⟩
   cases e2
   exact ⟨o,e,ex.2.1⟩
 | _=>exact False.elim ty
def I9 (K:PySem.W.Frag) (T:String) (r:V->List V->Hp->VK->Prop) (to:TE) (t:TA):TE:=fun σ H Q=>to σ H fun x H1=>I0 K T x H1/\t σ H1 fun xs H2=>r x xs H2 Q
variable {o e:Expr} {es:List Expr} {to:TE} {t:TA} {name:Str} {apos cpos:Pos} {T id:String} {r:V->List V->Hp->VK->Prop}
theorem FQ (pa:PlainAttrs T) (slot:Slot T name id) (hty:typeOf (.builtin id)=pure (.type "method_descriptor")) (hm:JB X id r) (ho:PE X o to) (ha:PA X (e::es) t)
  (hbase:attributeBase o name X.env (eval o X.env)=eval o X.env:=by rfl)
  (hfew:((backTo cpos (starEach (e::es) X.env)).all (fun x=>!x.1) && (backToKw cpos (keywordEach [] X.env)).all (fun x=>x.1.isSome)
   && decide ((e::es).length+([]:List Keyword).length+(if ([]:List Keyword).isEmpty then 0 else 1) < 30))=true:=by rfl)
  (hline:(apos.endLine == cpos.line)=true:=by rfl) (hs:starEach (e::es) X.env=(false,eval e X.env)::starEach es X.env:=by rfl) (hplain:(backTo cpos (starEach es X.env)).any (·.1)=false:=by rfl) :
  PE X (.Call (.Attribute o name apos) (e::es) [] cpos) (I9 X.K T r to t):=by
 intro pins s σ H Q I h
 refine wpAny_Call_method_late hbase hfew hline rfl (cf (ho pins s σ H _ I h) fun v s1 ⟨x,H1,I1,r1,ty,q1⟩=>?_)
 obtain ⟨h1,h2⟩:=D1 I1 r1 ty
 refine ⟨T,id,pa,slot,hty,h1,h2,?_⟩
 have hA:=ha cpos pins s1 σ H1 _ I1 q1
 rw [hs] at hA ⊢
 refine Calls.callWith_builtin (by show (false || (backTo cpos (starEach es X.env)).any (·.1))=false;rw [hplain]<;>rfl) (Calls.evalArgs_plain ?_)
 exact cf hA fun us s2 ⟨vs,H2,I2,r2,q2⟩=>hm pins s2 σ H2 x vs v us Q I2 r1 r2 q2
end
end L2
namespace L2
open PySem PySem.Spec PyProof.Rows
def JC (X:Cx) (id:String) (r:V->List V->Hp->VK->Prop):Prop:=
 ∀ (pins:List (Addr×Obj)) (s:Shared) (σ:St) (H:Hp) (x:V) (xs:List V) (v:Value) (us:List Value) (Q:VK),Inv X pins σ H s->RelV x v->Vals xs us->r x xs H Q ->
  wpAny (model X.prog X.w) X.A (call (.builtin id) (v::us)) (EP X pins σ Q) X.xe s
theorem Vals.one:∀ {x:V} {us:List Value},Vals [x] us->∃ u,us=[u]/\RelV x u
 | _,_,.cons r .nil=>⟨_,rfl,r⟩
theorem Vals.eraseIdx:∀ {xs:List V} {us:List Value} (i:Nat),Vals xs us->Vals (xs.eraseIdx i) (us.eraseIdx i)
 | _,_,_,.nil=>.nil
 | _,_,0,.cons _ t=>t
 | _,_,i+1,.cons r t=>.cons r (Vals.eraseIdx i t)
theorem Vals.rep {xs:List V} {us:List Value} (h:Vals xs us):∀ k:Nat,Vals (List.replicate k xs).flatten (List.replicate k us).flatten
 | 0=>.nil
 | k+1=>by
  rw [List.replicate_succ,List.replicate_succ,List.flatten_cons,List.flatten_cons]
  exact Vals.append h (Vals.rep h k)
theorem pR {α:Type}:∀ (l:List α) (i:Nat),(l.eraseIdx i).length<=l.length
 | [],_=>Nat.le_refl _
 | _::_,0=>Nat.le_succ _
 | _::r,i+1=>Nat.succ_le_succ (pR r i)
theorem foldl_rep (its:List Value):∀ (k:Nat) (acc:List Value),
  List.foldl (fun x1 x2=>x1++x2) acc.toArray (List.replicate k its.toArray)=(acc++(List.replicate k its).flatten).toArray
 | 0,acc=>by simp
 | k+1,acc=>by
  have e:acc.toArray++its.toArray=(acc++its).toArray:=by simp
  have e2:(acc++its)++(List.replicate k its).flatten=acc++(List.replicate (k+1) its).flatten:=by
   rw [List.replicate_succ,List.flatten_cons,List.append_assoc]
  rw [<- e2,<- foldl_rep its k (acc++its),<- e,List.replicate_succ,List.foldl_cons]
section
variable {X:Cx} {pins:List (Addr×Obj)} {σ:St} {H:Hp} {s:Shared} {l b:Addr} {xs ys zs:List V}
theorem Inv.HK {its its':List Value} {n:Nat} {f:Array Value->Array Value} {t':Nat} (I:Inv X pins σ H s) (hH:H l=some (.lst xs))
  (e:s.heap.get? l=some {cls:=.type "list",data:=.seq its.toArray n}) (hf:f its.toArray=its'.toArray) (hv:Vals ys its') (hz:ys.length<=sizeLine) :
  Inv X pins σ (upd H l (.lst ys)) {s with heap:=s.heap.update l (Obj.mapSeq f),toks:=t'}:=by
 have q:=PySem.IsL.update e f
 rw [hf] at q
 refine I.write (x:=l) (e:=l) (by rw [hH];exact trivial) (.inl rfl) (fun b' u hb hu=>(Heap.get?_update_other s.heap (Obj.mapSeq f) (Ne.symm hb)).trans hu) ⟨_,q⟩ ?_
 exact ⟨hz,its',_,hv,q⟩
theorem Inv.FR {its:List Value} {t':Nat} (I:Inv X pins σ H s) (hv:Vals ys its) (hz:ys.length<=sizeLine) :
  Inv X pins σ (upd H s.heap.objs.size (.lst ys)) {s with heap:=s.heap.push {cls:=.type "list",data:=.seq its.toArray},toks:=t'}:=
 I.laid (fun _ _ q=>Heap.get?_push_of_some _ q) (Nat.le_refl _) ⟨hz,its,0,hv,Heap.get?_push_size _ rfl⟩
theorem Inv.fresh (I:Inv X pins σ H s):H s.heap.objs.size=none:=I.hok.fresh (Nat.le_refl _)
theorem Inv.A1 (I:Inv X pins σ H s) (hH:H l=some (.lst xs)):xs.length<=sizeLine/\∃ (its:List Value) (n:Nat),Vals xs its/\xs.length=its.length/\s.heap.get? l=some {cls:=.type "list",data:=.seq its.toArray n}:=by
 obtain ⟨z,its,n,r,e⟩:=I.hok l _ hH
 exact ⟨z,its,n,r,r.length,e⟩
theorem yD {n:Nat} (h:n<=sizeLine):Builtin.List.listTooLong n=false:=by
 unfold Builtin.List.listTooLong
 exact decide_eq_false (by omega)
end
section
variable {X:Cx}
def D2:V->List V->Hp->VK->Prop:=fun x vs H Q=>∃ l xs i k y,x=.ref l/\vs=[.int i]/\H l=some (.lst xs)/\-(2 ^ 63)<=i/\i < 2 ^ 63/\seqIndex? i xs.length=some k/\xs[k]?=some y/\Q y (upd H l (.lst (xs.eraseIdx k)))
theorem yE:JC X "list.pop" D2:=by
 intro pins s σ H x vs v us Q I rx rv h
 obtain ⟨l,xs,i,k,y,rfl,rfl,hH,h1,h2,hk,hy,q⟩:=h
 cases rx
 obtain ⟨u,rfl,ru⟩:=rv.one
 obtain ⟨t,rfl⟩:=ru
 obtain ⟨z,its,n,r,hl,e⟩:=I.A1 hH
 obtain ⟨w,hw,rw'⟩:=r.get hy
 refine call_meets F.slot_list_pop ⟨_,e,rfl⟩ F.entry_list_pop (F.args_list_pop_2 _ _)
  (MeetsSeq.list_pop_at l its.toArray n i t k w (fitsIndex_both h1 h2) (by rw [List.size_toArray,<- hl];exact hk) (by rw [<- Array.getElem?_toList];exact hw) (by rw [List.size_toArray];omega)) ⟨e,?_⟩
 refine ⟨y,_,I.HK (its':=its.eraseIdx k) hH e ?_ (r.eraseIdx k) ?_,rw',q⟩
 ·show its.toArray.eraseIdxIfInBounds k=(its.eraseIdx k).toArray
  rw [List.eraseIdxIfInBounds_toArray]
 ·have:=pR xs k
  omega
def HM:R2:=fun x y H Q=>∃ l b xs zs,x=.ref l/\y=.ref b/\H l=some (.lst xs)/\H b=some (.lst zs)/\xs.length+zs.length<=sizeLine/\∀ p,H p=none->Q (.ref p) (upd H p (.lst (xs++zs)))
theorem D3:fI X (binaryOp .Add) HM:=by
 intro pins s σ H x y v u Q I rx ry h
 obtain ⟨l,b,xs,zs,rfl,rfl,hH,hB,hz,q⟩:=h
 cases rx
 cases ry
 obtain ⟨z,its,n,r,hl,e⟩:=I.A1 hH
 obtain ⟨z2,its2,n2,r2,hl2,e2⟩:=I.A1 hB
 refine PySem.P.add_list e e2 ?_ (by rw [List.size_toArray,List.size_toArray];omega)
 have ea:its.toArray++its2.toArray=(its++its2).toArray:=by simp
 rw [ea]
 exact ⟨.ref _,_,I.FR (t':=s.toks) (r.append r2) (by rw [List.length_append];omega),rfl,q _ I.fresh⟩
def HN:R2:=fun x y H Q=>∃ l k xs,x=.ref l/\y=.int k/\H l=some (.lst xs)/\-(2 ^ 63)<=k/\k < 2 ^ 63/\xs.length * k.toNat<=sizeLine /\
 ∀ p,H p=none->Q (.ref p) (upd H p (.lst (List.replicate k.toNat xs).flatten))
theorem len_rep {α:Type} (xs:List α) (k:Nat):(List.replicate k xs).flatten.length=k * xs.length:=by
 induction k with
 | zero=>simp
 | succ k ih=>rw [List.replicate_succ,List.flatten_cons,List.length_append,ih,Nat.succ_mul,Nat.add_comm]
theorem D4:fI X (binaryOp .Mult) HN:=by
 intro pins s σ H x y v u Q I rx ry h
 obtain ⟨l,k,xs,rfl,rfl,hH,h1,h2,hz,q⟩:=h
 cases rx
 obtain ⟨t,rfl⟩:=ry
 obtain ⟨z,its,n,r,hl,e⟩:=I.A1 hH
 have hlen:its.toArray.size * k.toNat<=sizeLine:=by rw [List.size_toArray,<- hl];exact hz
 have hcap:¬ its.toArray.size * k.toNat > (2 ^ 63 - 1) / 8:=by
  have:(sizeLine:Nat)<=(2 ^ 63 - 1) / 8:=by decide
  omega
 have hfit:¬ (!Builtin.List.listFitsIndex k)=true:=by
  rw [fitsIndex_both h1 h2]
  exact Bool.false_ne_true
 have hlong:¬ Builtin.List.listTooLong (its.toArray.size * k.toNat)=true:=by
  rw [yD hlen]
  exact Bool.false_ne_true
 have hnew:List.foldl (fun x1 x2=>x1++x2) #[] (List.replicate (if its.toArray.isEmpty=true then 0 else k.toNat) its.toArray)=(List.replicate k.toNat its).flatten.toArray:=by
  have f0:∀ m:Nat,List.foldl (fun x1 x2=>x1++x2) #[] (List.replicate m its.toArray)=(List.replicate m its).flatten.toArray:=fun m=>by
   have:=foldl_rep its m []
   rw [List.nil_append] at this
   exact this
  rw [f0]
  cases its with
  | nil=>simp
  | cons a r'=>rw [if_neg (by simp)]
 refine wpAny_binaryOp_repeat_ref (T := "list") (U := "int") (by decide) ⟨_,e,rfl⟩ (fun s'=>typeIs_int s' k t) noFill_list_mul F.fills_int_mul F.slot_int_rmul repeat_list F.slot_int_index.lookup
  (call_meets F.slot_int_rmul (typeIs_int s k t) F.entry_int_rmul (F.args_int_rmul_2 _ _) (int___rmul___int_list k t l its.toArray n)
   ⟨e,rfl,⟨_,e,rfl⟩,call_meets F.slot_list_mul ⟨_,e,rfl⟩ F.entry_list_mul (F.args_list_mul_2 _ _) (AutoListH.list___mul___list_int_3 l its.toArray n k t hfit hcap hlong) ⟨e,?_⟩⟩)
 rw [hnew]
 exact ⟨.ref _,_,I.FR (t':=s.toks) (r.rep k.toNat) (by rw [len_rep,Nat.mul_comm];exact hz),rfl,q _ I.fresh⟩
end
section
variable {prog:Program} {w:World} {A:Around} {E:Value->Shared->Prop} {s:Shared}
end
section
variable {X:Cx}
end
end L2
namespace Att
open PySem PySem.W PySem.Calls PyProof.Rows
theorem mf {P:Params} {h:Heap}:∀ (ns:List Int) (vs:List Value),WellAll P h vs (ns.map WData.int)->IntsAre vs ns:=by
 intro ns
 induction ns with
 | nil=>
  intro vs w
  rw [List.map_nil] at w
  cases w
  exact .nil
 | cons n ns ih=>
  intro vs w
  rw [List.map_cons] at w
  cases w with
  | cons a b=>
   cases a
   exact .cons _ _ (ih _ b)
theorem xC {l:OpenLaw} {n:Nat} (hn:l.most=some n) {P:Params} {h:Heap} {args:List WData} {vals:List Value}
  (hpre:l.row.toRowW.claim.pre args=true) (hwl:WellAll P h vals args) :
  ∃ a vs ns,vals=[Value.ref a]/\args=[WData.list (ns.map WData.int)]/\h.get? a=some {cls:=.type "list",data:=.seq vs.toArray}/\IntsAre vs ns/\ns.length<=n:=by
 have hsh:WShape.hasAll [] args [.list .int]=true:=(pre_splitW hpre).1
 have hc:l.pre.holds [] {args:=args}=true:=(pre_splitW hpre).2
 obtain ⟨d,r,rfl,h1,h2⟩:=hasAllW_cons hsh
 obtain rfl:=hasAllW_nil h2
 obtain ⟨xs,rfl,h3⟩:=hasW_list h1
 obtain ⟨ns,rfl⟩:=items_int h3
 have hlen:ns.length<=n:=by
  unfold OpenLaw.pre at hc
  have h4:(WTm.not (.lt (.lit (.int (n:Int))) (.len (.arg 0)))).holds [] {args:=[.list (ns.map .int)]}=true:=by
   have h4:=(holds_andW hc).1
   rw [hn] at h4
   exact h4
  have h5:=condW_of h4 (w_not (w_lt w_lit (w_len_list (w_arg rfl))))
  rw [List.length_map] at h5
  refine Nat.le_of_not_lt fun q=>?_
  have q':(n:Int) < ((ns.length:Nat):Int):=by omega
  first
   | (rw [decide_eq_true q'] at h5;exact absurd h5 (by decide))
   | (simp at h5;omega)
 cases hwl with
 | cons w1 w2=>
  cases w2
  cases w1 with
  | list ho hall=>exact ⟨_,_,ns,rfl,rfl,ho,mf ns _ hall,hlen⟩
theorem xD (l:OpenLaw) (args:List WData):l.row.toRowW.claim.post args (.bool true) args=true:=
 postW_of (r:=l.row.toRowW) (X:=(true == true))
  (show WShape.has [] (.bool true) .bool=true by first | rfl | decide | simp [WShape.has,WShape.arms,WShape.armsAll])
  (show (WTm.eq .res (.lit (.bool true))).value [] {args:=args,res:=some (.bool true),after:=args}=some (.bool (true == true)) from w_eq_bool (w_res rfl) w_lit) rfl
theorem sR {l:OpenLaw} {n:Nat} {q:Program} {loose:List Str} {XP:(Str->Option Value)->Heap->Prop} {YP:World->Heap->Prop} {d:DefRec}
  (hn:l.most=some n) (hdf:d.params.defaults=[])
  (call:∀ (w:World) (s₀ s₁:Shared) (mg mb:Str->Option Value) (fa:Addr) (o:Obj) (pm cd doc:Value) (a:Addr) (vs:List Value) (ns:List Int),
   Ground q loose [] XP w s₀ mg mb s₁.heap->YP w s₁.heap ->
   s₁.heap.get? fa=some o->o.data=.func (docDef d.name d.params d.body d.scope pm cd doc)->s₁.heap.CodeRec cd d.name->mg d.name=some (.ref fa) ->
   s₁.heap.get? a=some {cls:=.type "list",data:=.seq vs.toArray}->IntsAre vs ns->ns.length<=n->s₁.gens=#[] ->
   codeAny (model l.prog w) callerA (.call (.ref fa) ⟨[.ref a],[]⟩) (fun r s'=>r=.ok (.ret (.bool true))/\OldK s₁.heap s'.heap/\s'.os=s₁.os/\AllBare s'.gens) s₁) :
  WalkO q loose XP YP l.row.toRowW d [] (fun f vs=>PySem.call f vs):=by
 intro w s₀ s₁ mg mb G Y fa o pm cd doc dV kV ho hd hcd hD hmg hg args vals as hpre hlay hrd hwl hlo
 obtain rfl:dV=.none:=Dflts.none hD hdf
 obtain rfl:kV=.none:=Dflts.noKw hD
 obtain ⟨a,vs,ns,rfl,rfl,hobj,hints,hlen⟩:=xC hn hpre hwl
 refine enter_call (codeAny_mono (call w s₀ s₁ mg mb fa o pm cd doc a vs ns G Y ho (fd_plain hd) hcd hmg hobj hints hlen hg) fun r s' hq=>?_)
 obtain ⟨rfl,h2,h3,h4⟩:=hq
 exact ⟨.inl ⟨.bool true,.bool true,[],rfl,fun _=>rfl,.bool true,xD l _,fun _=>⟨List.Pairwise.nil,fun _ hm=>(nomatch hm)⟩⟩,h2,h3,h4⟩
section
variable {prog:Program} {w:World} {A:Around} {E:Value->Shared->Prop} {s:Shared} {K:Frag}
end
end Att
namespace L2
open PySem PySem.Spec PyProof.Rows
theorem pS:∀ {vs:List Value} {ns:List Int},IntsAre vs ns->Vals (ns.map V.int) vs
 | _,_,.nil=>.nil
 | _,_,.cons n t h=>.cons ⟨t,rfl⟩ (pS h)
def D5 (H:Hp):Prop:=∀ b,H b=none\/∃ o xs,H b=some (.frz o (.lst xs))
theorem yF {P:Program} {w:World} {K:PySem.W.Frag} {mg mb:Str->Option Value} {CX:yh} {k:Nat} {fa a:Addr} {fd:FuncData} {x:Str} {sp:Sp} {s₁:Shared} {vs:List Value} {ns:List Int}
  (KX:K.In s₁.heap) (hns:s₁.heap.Ns mainGlobals mg) (hb:s₁.heap.Ns builtinsNs mb) (hbb:∀ x:Str,x ≠ "__name__" -> mb x=bootBuiltins x) (hlim:s₁.heap.NoLimit) (hg:s₁.gens=#[])
  (ha:s₁.heap.get? a=some {cls:=.type "list",data:=.seq vs.toArray}) (hi:IntsAre vs ns) (hl:ns.length<=sizeLine) (hr:cb k callerA)
  (F:∀ base:Heap,K.In base->base.Ns mainGlobals mg->iU P w K mg base CX k fa fd [x] sp) (hbind:∀ (s:Shared) (u:Value),BindsTo s fd ⟨[u],[]⟩ [(x,u)])
  (hsp:∀ H:Hp,D5 H->gc K H a (ns.map V.int)->sp [.ref a] H (fun v _=>v=.bl true) fun _ _ _=>False)
  (hCX:∀ H e s',CX [] H s₁ (fun _ _ _=>False) e s'->False) :
  codeAny (model P w) callerA (.call (.ref fa) ⟨[.ref a],[]⟩) (fun r s'=>r=.ok (.ret (.bool true))/\OldK s₁.heap s'.heap/\s'.os=s₁.os/\AllBare s'.gens) s₁:=by
 have rv:=pS hi
 have lenV:=hi.length
 have core:∀ H:Hp,D5 H->gc K H a (ns.map V.int)->iD P w H s₁.heap->(∀ b,H b≠none->b=a)->(H a≠none->K.lookup a=none) ->
   codeAny (model P w) callerA (.call (.ref fa) ⟨[.ref a],[]⟩) (fun r s'=>r=.ok (.ret (.bool true))/\OldK s₁.heap s'.heap/\s'.os=s₁.os/\AllBare s'.gens) s₁:=by
  intro H hO hS hok hA hK
  have base_of:∀ {b:Addr} {o:Obj},s₁.heap.get? b=some o->H b=none->(qI s₁.heap H).get? b=some o:=fun e n=>yi e n
  have noA:∀ {b:Addr} {o:Obj} {es:Array DictEntry} {ep:Nat},s₁.heap.get? b=some o->o.data=.dict es ep->H b=none:=fun {b o es ep} e d=>by
   cases q:H b with
   | none=>rfl
   | some u=>
    have e':b=a:=hA b (by rw [q];simp)
    subst e'
    rw [ha] at e;cases e
    have d':Data.seq vs.toArray _=Data.dict es ep:=d
    cases d'
  have nsK:∀ {b:Addr} {m:Str->Option Value},s₁.heap.Ns b m->(qI s₁.heap H).Ns b m:=fun {b m} ⟨o,es,ep,e,d,r⟩=>⟨o,es,ep,base_of e (noA e d),d,r⟩
  have hKb:K.In (qI s₁.heap H):=fun b o e=>base_of (KX b o e) (by
   cases q:H b with
   | none=>rfl
   | some u=>
    have e':b=a:=hA b (by rw [q];simp)
    subst e'
    rw [hK (by rw [q];simp)] at e;cases e)
  have hM:Mod K mg (qI s₁.heap H):=⟨hKb,nsK hns,⟨mb,nsK hb,hbb⟩,let ⟨mc,h1,h2⟩:=hlim;⟨mc,nsK h1,h2⟩⟩
  have e0:AS P w K mg (qI s₁.heap H) callerA [] s₁ H:=⟨rfl,hM,fun b o e=>AA e,Nat.le_of_eq (xm _ _),trivial,fun b hb=>absurd (show b∈([]:List Addr) from hb) (by simp),hok,.of_eq hg⟩
  refine codeAny_mono ((F _ hKb (nsK hns)).run callerA [] s₁ H ⟨[.ref a],[]⟩ [.ref a] [.ref a] _ _ hr e0 (hbind s₁ (.ref a)) (.cons rfl .nil) (hsp H hO hS)) fun r s' h=>?_
  cases r with
  | error e=>exact (hCX H e s' h).elim
  | ok fl=>
   cases fl with
   | next=>exact False.elim h
   | brk=>exact False.elim h
   | cont=>exact False.elim h
   | ret u=>
    obtain ⟨v,H',os,bare,un,hok',r',q⟩:=h
    have q':v=.bl true:=q
    subst q'
    obtain rfl:u=Value.bool true:=r'
    refine ⟨rfl,OldK.of_keep fun b o e=>?_,os,bare⟩
    cases q:H b with
    | none=>exact un.keep b o e q (by intro z;exact absurd (show b∈([]:List Addr) from z) (by simp)) (by simp)
    | some u=>
     rcases hO b with z | ⟨ob,xs,z⟩
     ·rw [q] at z;cases z
     ·have z2:=un.frzs b ob _ z
      obtain ⟨e1,_⟩:=hok b _ z
      obtain ⟨e2,_⟩:=hok' b _ z2
      rw [e] at e1;cases e1
      exact e2
 cases hk:K.lookup a with
 | some o=>
  have e:=KX a o hk
  rw [ha] at e
  cases e
  refine core (fun _=>none) (fun _=>.inl rfl) (.inr ⟨_,vs.toArray,_,hk,rfl,rfl,rfl,by rw [List.size_toArray,lenV];exact hl,by simpa using rv⟩) (fun b u z=>by have z':(none:Option HO)=some u:=z;cases z') (fun b z=>absurd rfl z) fun z=>absurd rfl z
 | none=>
  refine core (fun b=>if b=a then some (.frz {cls:=.type "list",data:=.seq vs.toArray} (.lst (ns.map V.int))) else none) (fun b=>?_) (.inl (.inr ⟨{cls:=.type "list",data:=.seq vs.toArray},if_pos rfl⟩)) (fun b u z=>?_) (fun b z=>?_) fun _=>hk
  ·by_cases hb:b=a
   ·exact .inr ⟨_,_,if_pos hb⟩
   ·exact .inl (if_neg hb)
  ·by_cases hb:b=a
   ·have z':=(if_pos hb).symm.trans z
    cases z'
    subst hb
    exact ⟨ha,by rw [List.length_map];exact hl,vs,_,rv,ha⟩
   ·have z':=(if_neg hb).symm.trans z
    cases z'
  ·by_cases hb:b=a
   ·exact hb
   ·exact absurd (if_neg hb) z
end L2
namespace L2
open PySem PySem.Spec PyProof.Rows
theorem A3 {l:PySem.W.OpenLaw} {n k:Nat} {q:Program} {loose:List Str} {XP:(Str->Option Value)->Heap->Prop} {YP:World->Heap->Prop} {d:DefRec} {K:Params->PySem.W.Frag} {CX:World->yh} {sp:World->Sp} {x:Str}
  (hn:l.most=some n) (hn2:n<=sizeLine) (hdf:d.params.defaults=[]) (hr:cb k callerA)
  (hY:∀ (w:World) (h:Heap),YP w h->(K w.params).In h)
  (F:∀ (w:World) (mg:Str->Option Value) (fa:Addr) (h:Heap),(K w.params).In h->h.Ns mainGlobals mg->mg d.name=some (.ref fa) ->
   ∃ fd:FuncData,(∀ (s:Shared) (u:Value),BindsTo s fd ⟨[u],[]⟩ [(x,u)]) /\
    ∀ base:Heap,(K w.params).In base->base.Ns mainGlobals mg->iU l.prog w (K w.params) mg base (CX w) k fa fd [x] (sp w))
  (hsp:∀ (w:World) (H:Hp) (a:Addr) (ns:List Int),ns.length<=n->D5 H->gc (K w.params) H a (ns.map V.int)->sp w [.ref a] H (fun v _=>v=.bl true) fun _ _ _=>False)
  (hCX:∀ (w:World) (H:Hp) (s:Shared) (e:Value) (s':Shared),CX w [] H s (fun _ _ _=>False) e s'->False) :
  PySem.W.WalkO q loose XP YP l.row.toRowW d [] (fun f vs=>PySem.call f vs):=by
 refine Att.sR hn hdf fun w s₀ s₁ mg mb fa o pm cd doc a vs ns G Y ho hd hcd hmg hobj hints hlen hg=>?_
 have KX:=hY w _ Y
 obtain ⟨fd,hb,hF⟩:=F w mg fa _ KX G.T.g hmg
 exact yF KX G.T.g G.T.b G.T.builtins G.T.nolimit hg hobj hints (Nat.le_trans hlen hn2) hr hF hb (fun H hO hS=>hsp w H a ns hlen hO hS) fun H e s'=>hCX w H s₁ e s'
end L2
namespace L2
open PySem PySem.Spec PyProof.Rows
def fJ (s:Stmt):Arguments:=match s with
 | .FunctionDef _ a _ _ _ _ _ _ _ _=>a
 | _=>{posonlyargs:=[],args:=[],vararg:=none,kwonlyargs:=[],kw_defaults:=[],kwarg:=none,defaults:=[]}
def dB (s:Stmt):List Stmt:=match s with
 | .FunctionDef _ _ b _ _ _ _ _ _ _=>b
 | _=>[]
def ay (s:Stmt):Scope:=match s with
 | .FunctionDef _ _ _ _ _ _ sc _ _ _=>sc
 | _=>{kind:=.function,names:=[],isGenerator:=false,isCoroutine:=false}
structure CJ (K:PySem.W.Frag) (x qual:Str) (st:Stmt) (f:Addr) (fd:FuncData):Prop where
 ex:∃ (oc:Value) (od:Option Addr) (kV doc pm:Value) (an:Option Addr) (cdv ct:Value) (osl:Array (Option Value)),
  fd=PySem.W.fnOf x qual (fJ st) (dB st) (ay st) .none kV doc pm an cdv ct/\K.lookup f=some ⟨oc,od,.func fd,osl⟩/\PySem.W.codeIn K cdv qual=true
 kp:PySem.W.keepIn K (.ref f)=true
section
variable {P:Program} {w:World} {K:PySem.W.Frag} {mg:Str->Option Value} {base:Heap}
theorem CJ.binds {x qual:Str} {st:Stmt} {f:Addr} {fd:FuncData} {ps:List Str} (F:CJ K x qual st f fd)
  (h:∀ (kV doc pm:Value) (an:Option Addr) (cdv ct:Value) (us:List Value),us.length=ps.length->bindArgs (PySem.W.fnOf x qual (fJ st) (dB st) (ay st) .none kV doc pm an cdv ct) ⟨us,[]⟩=pure (ps.zip us)):Binds K fd ps []:=by
 obtain ⟨oc,od,kV,doc,pm,an,cdv,ct,osl,rfl,lk,hcd⟩:=F.ex
 exact .all (h kV doc pm an cdv ct)
theorem uQ {x qual:Str} {st:Stmt} {f:Addr} {oc:Value} {od an:Option Addr} {osl:Array (Option Value)} {kV doc pm cdv ct:Value} (l:K.lookup f=some ⟨oc,od,.func (PySem.W.fnOf x qual (fJ st) (dB st) (ay st) .none kV doc pm an cdv ct),osl⟩)
  (c:PySem.W.codeIn K cdv qual=true) (k:PySem.W.keepIn K (.ref f)=true):CJ K x qual st f (PySem.W.fnOf x qual (fJ st) (dB st) (ay st) .none kV doc pm an cdv ct):=⟨⟨oc,od,kV,doc,pm,an,cdv,ct,osl,rfl,l,c⟩,k⟩
end
section
variable {X:Cx}
end
def bg (H H':Hp):Prop:=∀ b o,H b=some o->H' b=some o
theorem bg.refl (H:Hp):bg H H:=fun _ _ h=>h
theorem bg.trans {H H1 H2:Hp} (a:bg H H1) (b:bg H1 H2):bg H H2:=fun c o h=>b c o (a c o h)
theorem bg.free {H H':Hp} (e:bg H H') {l:Addr} (h:H' l=Option.none):H l=Option.none:=by
 cases q:H l with
 | none=>rfl
 | some o=>
  rw [e l o q] at h
  cases h
theorem bg.seq {K:PySem.W.Frag} {H H':Hp} {a:Addr} {xs:List V} (e:bg H H') (h:gc K H a xs):gc K H' a xs:=by
 rcases h with (h | ⟨o,h⟩) | h
 ·exact .inl (.inl (e _ _ h))
 ·exact .inl (.inr ⟨o,e _ _ h⟩)
 ·exact .inr h
end L2
namespace L2
open PySem PySem.Spec PyProof.Rows
def dR (cells:List (Str×Addr)):List (Str×NameKind)->List (Str×Addr)->List (Str×Addr)
 | [],acc=>acc
 | (n,k)::r,acc=>if k == .free then dR cells r ((n,(cells.lookup n).getD 0)::acc) else dR cells r acc
theorem jl {env:Env}:∀ (names:List (Str×NameKind)) (acc:List (Str×Addr)),(∀ n,(n,NameKind.free)∈names->∃ c,env.cells.lookup n=some c) ->
  (forIn (m:=Sem) names acc fun (x:Str×NameKind) (cs:List (Str×Addr))=>match x with
   | (name,kind)=>if (kind == NameKind.free)=true then (do let a <- cellOf env name;pure (ForInStep.yield ((name,a)::cs))) else pure (ForInStep.yield cs))=pure (dR env.cells names acc)
 | [],acc,_=>by rw [List.forIn_nil];rfl
 | (n,k)::r,acc,h=>by
  rw [List.forIn_cons]
  unfold dR
  by_cases hk:(k == NameKind.free)=true
  ·obtain ⟨c,hc⟩:=h n (by have:=eq_of_beq hk;subst this;exact List.mem_cons_self)
   have e:cellOf env n=pure c:=by unfold cellOf;rw [hc]
   simp only [hk,if_true]
   rw [e,hc]
   exact jl r _ fun m hm=>h m (List.mem_cons_of_mem _ hm)
  ·simp only [hk]
   exact jl r _ fun m hm=>h m (List.mem_cons_of_mem _ hm)
theorem iX {scope:Scope} {env:Env} (h:∀ n,(n,NameKind.free)∈scope.names->∃ c,env.cells.lookup n=some c):closureFor scope env=pure (dR env.cells scope.names []):=by
 have q:=jl (env:=env) scope.names [] h
 unfold closureFor
 exact (congrArg (fun m=>m >>= fun cs=>pure cs) q)
theorem iE {cells:List (Str×Addr)} {x:Str}:∀ {names:List (Str×NameKind)} {acc:List (Str×Addr)},(x,NameKind.free)∉names->(dR cells names acc).lookup x=acc.lookup x
 | [],_,_=>rfl
 | (n,k)::r,acc,h=>by
  unfold dR
  by_cases hk:(k == NameKind.free)=true
  ·rw [if_pos hk,iE fun z=>h (List.mem_cons_of_mem _ z),List.lookup_cons]
   have:(x == n)=false:=by
    cases e:x == n with
    | false=>rfl
    | true=>
     have e1:=eq_of_beq e
     have e2:=eq_of_beq hk
     subst e1;subst e2
     exact absurd List.mem_cons_self h
   rw [this]
  ·rw [if_neg hk,iE fun z=>h (List.mem_cons_of_mem _ z)]
theorem fu {cells:List (Str×Addr)} {x:Str}:∀ {names:List (Str×NameKind)} {acc:List (Str×Addr)},(x,NameKind.free)∈names->(dR cells names acc).lookup x=some ((cells.lookup x).getD 0)
 | (n,k)::r,acc,h=>by
  unfold dR
  by_cases hr:(x,NameKind.free)∈r
  ·by_cases hk:(k == NameKind.free)=true
   ·rw [if_pos hk];exact fu hr
   ·rw [if_neg hk];exact fu hr
  ·rcases List.mem_cons.mp h with e | e
   ·cases e
    rw [if_pos (show (NameKind.free == NameKind.free)=true from rfl),iE hr,List.lookup_cons]
    simp
   ·exact absurd e hr
theorem cD:∀ (names:List (Str×NameKind)) (n:Nat) (acc:List (Str×Addr)),cellsFrom n names acc=cellsFrom n names []++acc
 | [],_,_=>rfl
 | (x,k)::r,n,acc=>by
  unfold cellsFrom
  by_cases hk:(k == NameKind.cell)=true
  ·rw [if_pos hk,if_pos hk,cD r (n+1) ((x,n)::acc),cD r (n+1) [(x,n)],List.append_assoc];rfl
  ·rw [if_neg hk,if_neg hk];exact cD r n acc
theorem dZ {x:Str} {c:Addr}:∀ {names:List (Str×NameKind)} {n:Nat},(x,c)∈cellsFrom n names []->(x,NameKind.cell)∈names/\n<=c
 | [],_,h=>nomatch h
 | (y,k)::r,n,h=>by
  unfold cellsFrom at h
  by_cases hk:(k == NameKind.cell)=true
  ·rw [if_pos hk,cD] at h
   rcases List.mem_append.mp h with h | h
   ·obtain ⟨h1,h2⟩:=dZ h
    exact ⟨List.mem_cons_of_mem _ h1,by omega⟩
   ·have e:(x,c)=(y,n):=by simpa using h
    cases e
    have:=eq_of_beq hk
    subst this
    exact ⟨List.mem_cons_self,Nat.le_refl _⟩
  ·rw [if_neg hk] at h
   obtain ⟨h1,h2⟩:=dZ h
   exact ⟨List.mem_cons_of_mem _ h1,h2⟩
structure cL (sc:Scope) (N own:List Str) (scope:Scope):Prop where
 kind:scope.kind=.function
 frees:∀ n,(n,NameKind.free)∈scope.names->sc.names.lookup n=some .cell\/sc.names.lookup n=some .free
 own:∀ x∈own,(x,NameKind.free)∉scope.names
 out:∀ x∈N,scope.names.lookup x≠some .local/\scope.names.lookup x≠some .cell
 uniq:∀ p∈scope.names,scope.names.lookup p.1=some p.2
def gg (sc:Scope) (N own:List Str) (scope:Scope):Bool:=
 (scope.kind == .function) && scope.names.all (fun p=>p.2 != .free || (sc.names.lookup p.1 == some .cell) || (sc.names.lookup p.1 == some .free)) &&
 own.all (fun x=>scope.names.all fun p=>!(p.1 == x && p.2 == .free)) && N.all (fun x=>scope.names.lookup x != some .local && scope.names.lookup x != some .cell) &&
 scope.names.all (fun p=>scope.names.lookup p.1 == some p.2)
theorem cL.of {sc:Scope} {N own:List Str} {scope:Scope} (h:gg sc N own scope=true):cL sc N own scope:=by
 unfold gg at h
 simp only [Bool.and_eq_true] at h
 obtain ⟨⟨⟨⟨h1,h2⟩,h3⟩,h4⟩,h5⟩:=h
 refine ⟨eq_of_beq h1,fun n hn=>?_,fun x hx hn=>?_,fun x hx=>?_,fun p hp=>?_⟩
 ·have:=List.all_eq_true.mp h2 _ hn
  simp only [Bool.or_eq_true,bne_self_eq_false,Bool.false_eq_true,false_or] at this
  rcases this with q | q
  ·exact .inl (eq_of_beq q)
  ·exact .inr (eq_of_beq q)
 ·have:=List.all_eq_true.mp (List.all_eq_true.mp h3 x hx) _ hn
  simp at this
 ·have:=List.all_eq_true.mp h4 x hx
  simp only [Bool.and_eq_true,bne_iff_ne] at this
  exact this
 ·exact eq_of_beq (List.all_eq_true.mp h5 p hp)
theorem gZ {env:Env} {x:Str}:∀ (names:List (Str×NameKind)),
  (names.map fun (n,k)=>if (k == NameKind.free && env.scope.kind == .function && env.kindOf n == some .cell) then (n,NameKind.cell) else (n,k)).lookup x
   = (names.lookup x).map fun k=>if (k == NameKind.free && env.scope.kind == .function && env.kindOf x == some .cell) then NameKind.cell else k
 | []=>rfl
 | (n,k)::r=>by
  have ih:=gZ (env:=env) (x:=x) r
  rw [List.map_cons]
  show List.lookup x ((if (k == NameKind.free && env.scope.kind == .function && env.kindOf n == some .cell)=true then (n,NameKind.cell) else (n,k))::_)=_
  by_cases hc:(k == NameKind.free && env.scope.kind == .function && env.kindOf n == some .cell)=true
  ·rw [if_pos hc,List.lookup_cons,List.lookup_cons]
   cases hx:x == n with
   | true=>have:=eq_of_beq hx;subst this;exact congrArg some (if_pos hc).symm
   | false=>exact ih
  ·rw [if_neg hc,List.lookup_cons,List.lookup_cons]
   cases hx:x == n with
   | true=>have:=eq_of_beq hx;subst this;exact congrArg some (if_neg hc).symm
   | false=>exact ih
theorem mem_of_lookupK {names:List (Str×NameKind)} {x:Str} {k:NameKind} (h:names.lookup x=some k):(x,k)∈names:=PySem.mem_of_lookup h
def m6 (scope:Scope) (C:Addr) (env:Env):Env:=
 {scope:=relabel scope env,locals:=C,globals:=env.globals,cells:=cellsFrom (C+1) scope.names (dR env.cells scope.names []),qual:=env.qual,func:=none,code:=env.code,frame:=env.frame,builtins:=env.builtins}
theorem pv {M:Model} {A:Around} {E:Value->Shared->Prop} {s:Shared} {scope:Scope} {env:Env} {cl:List (Str×Addr)} {Q:Env->Shared->Prop}
  (hQ:Q {scope:=scope,locals:=s.heap.objs.size,globals:=env.globals,cells:=cellsFrom (s.heap.objs.size+1) scope.names cl,qual:=env.qual,func:=none,code:=env.code,frame:=env.frame,builtins:=env.builtins}
   {s with heap:=pushCells (s.heap.push {cls:=.type "dict",data:=.dict #[]}) scope.names}) :
  wpAny M A (newFunctionEnv scope env.globals cl [] env.qual none .none (some env)) Q E s:=by
 simp only [newFunctionEnv,Option.isSome_some,if_true]
 refine wpAny_bind (wpAny_alloc ?_)
 refine wpAny_bind (wpAny_layCells _ (fun name kind cells=>by cases hkc:kind == NameKind.cell<;>simp [hkc]) _ _ _ _ ?_)
 rw [show ({s with heap:=s.heap.push {cls:=.type "dict",data:=.dict #[]}}:Shared).heap.objs.size=s.heap.objs.size+1 from Heap.size_push ..]
 exact wpAny_pure hQ
def br (X:Cx) (own:List Str) (scope:Scope) (C:Addr) (s2:Shared) (H2:Hp) (fp:List Addr) (pins:List (Addr×Obj)):Cx where
 prog:=X.prog
 w:=X.w
 K:=X.K
 mg:=X.mg
 base:=X.base
 A:=X.A
 N:=own++X.N
 s₀:=s2
 H₀:=H2
 env:=m6 scope C X.env
 outer:=X.stack
 stack:=X.stack
 ex:=fp
 fn:=fun x=>own.any (· == x)
 calm:=X.calm
 pn:=X.pn++pins
 xe:=fun _ _=>False
abbrev Cx.xE (X:Cx) (N':List Str):Cx:={X with N:=N'}
def mB (sc:Scope) (N N':List Str):Bool:=decide (N'.length=N.length) && (N'.zip N).all fun p=>p.1 == p.2 || (sc.names.lookup p.1).isNone
theorem Inv.xE {X:Cx} {N':List Str} {pins:List (Addr×Obj)} {σ:St} {H:Hp} {s:Shared} (I:Inv X pins σ H s) (h:mB X.env.scope X.N N'=true):Inv (X.xE N') pins σ H s:=by
 unfold mB at h
 simp only [Bool.and_eq_true,decide_eq_true_eq] at h
 obtain ⟨hl,ha⟩:=h
 obtain ⟨m,hn,hv⟩:=I.loc
 have o:=I.ok
 refine ⟨⟨o.mod,o.kind,o.glob,o.blt,o.above,o.inj,o.has,o.cab,o.hd,o.frames,o.gR,o.exf,o.bs,o.bsz,o.noex,o.exfs,o.jG,o.frf⟩,I.os,I.bare,I.base,⟨m,hn,fun i x v h1 h2 h3=>?_⟩,I.cell,I.free,I.freeC,I.pin,I.hok,by rw [I.len];exact hl.symm⟩
 have h1':N'[i]?=some x:=h1
 obtain ⟨li,ei⟩:=List.getElem?_eq_some_iff.mp h1'
 have li2:i < X.N.length:=by rw [<- hl];exact li
 have hm:(x,X.N[i])∈N'.zip X.N:=by
  rw [List.mem_iff_getElem]
  exact ⟨i,by simp;omega,by simp [ei]⟩
 have q:=List.all_eq_true.mp ha _ hm
 simp only [Bool.or_eq_true] at q
 rcases q with q | q
 ·have e:=eq_of_beq q
  exact hv i x v (by rw [List.getElem?_eq_getElem li2,<- e]) h2 h3
 ·exfalso
  have h3':Cz X.env.scope x:=h3
  unfold Cz at h3'
  rw [Option.isNone_iff_eq_none.mp q] at h3'
  rcases h3' with z | z | z<;>cases z
def Kept (X:Cx) (fp:List Addr) (H H':Hp) (s s':Shared):Prop:=s'.os=s.os/\Un (sF X.stack) fp H H' s.heap s'.heap/\iD X.prog X.w H' s'.heap/\AllBare s'.gens
theorem Kept.inv {X:Cx} {pins:List (Addr×Obj)} {σ:St} {H H':Hp} {s s':Shared} {fp:List Addr} (k:Kept X fp H H' s s') (I:Inv X pins σ H s) (hf:∀ b∈fp,jI X pins H b):Inv X pins σ H' s':=
 I.CA k.1 k.2.1 k.2.2.1 k.2.2.2 fun b hb=>⟨(hf b hb).2.2.2.1,(hf b hb).2.1,(hf b hb).2.2.2.2.1,(hf b hb).2.2.2.2.2⟩
section
variable {X:Cx} {own:List Str} {scope:Scope} {pins:List (Addr×Obj)} {σ:St} {H2:Hp} {s2:Shared} {fp:List Addr}
theorem fv (x:Str):(relabel scope X.env).names.lookup x=(scope.names.lookup x).map fun k=>if (k == NameKind.free && X.env.scope.kind == .function && X.env.kindOf x == some .cell) then NameKind.cell else k:=
 gZ _
theorem cI {C:Addr} {x:Str} {c:Addr} (h:(m6 scope C X.env).cells.lookup x=some c):((x,c)∈cellsFrom (C+1) scope.names []/\(x,NameKind.cell)∈scope.names/\C+1<=c)\/(dR X.env.cells scope.names []).lookup x=some c:=by
 have h':(cellsFrom (C+1) scope.names (dR X.env.cells scope.names [])).lookup x=some c:=h
 rw [cD,List.lookup_append] at h'
 cases e:(cellsFrom (C+1) scope.names []).lookup x with
 | some d=>
  rw [e] at h'
  cases h'
  have m:=PySem.mem_of_lookup e
  exact .inl ⟨m,dZ m⟩
 | none=>
  rw [e] at h'
  exact .inr h'
theorem g0 (I:Inv X pins σ H2 s2) (CS:cL X.env.scope X.N own scope) {x:Str} {c:Addr} (h:(dR X.env.cells scope.names []).lookup x=some c):(x,NameKind.free)∈scope.names/\X.env.cells.lookup x=some c:=by
 by_cases hf:(x,NameKind.free)∈scope.names
 ·refine ⟨hf,?_⟩
  rw [fu hf] at h
  obtain ⟨d,hd⟩:=I.ok.has x (CS.frees x hf)
  rw [hd] at h
  cases h
  exact hd
 ·rw [iE hf] at h
  cases h
theorem A4 (I:Inv X pins σ H2 s2) (CS:cL X.env.scope X.N own scope) {C:Addr} (hC:s2.heap.objs.size<=C) (hf:∀ b∈fp,jI X pins H2 b) (hl:∀ b∈fp,b < s2.heap.objs.size):(br X own scope C s2 H2 fp pins).Ok:=by
 have old:∀ x c,(dR X.env.cells scope.names []).lookup x=some c->X.env.cells.lookup x=some c/\c < s2.heap.objs.size:=fun x c h=>by
  obtain ⟨_,q⟩:=g0 I CS h
  obtain ⟨v,z⟩:=I.cell x c q
  exact ⟨q,z.lt⟩
 refine ⟨I.ok.mod,CS.kind,I.ok.glob,I.ok.blt,hC,fun x y c h1 h2=>?_,fun x hx=>?_,fun x c hx h=>?_,I.ok.hd,I.ok.frames,.inl rfl,fun b hb=>⟨?_,fun x c h=>?_⟩,I.bs,Nat.le_trans I.ok.bsz I.sz,fun b o e hb=>?_,fun b hb z=>?_,I.stack,I.vQ⟩
 ·rcases cI h1 with ⟨a1,_,a2⟩ | a1<;>rcases cI h2 with ⟨b1,_,b2⟩ | b1
  ·have ap:=(cellsFrom_ok scope.names {(default:Heap) with objs:=Array.replicate (C+1) default} (C+1) [] ⟨fun _ _ hm=>(nomatch hm),List.Pairwise.nil⟩ (by simp)).apart
   simp only [Array.size_replicate] at ap
   exact name_of_addr ap a1 b1
  ·exact absurd (Nat.lt_of_lt_of_le (old y c b1).2 (Nat.le_trans hC (Nat.le_trans (Nat.le_succ _) a2))) (Nat.lt_irrefl _)
  ·exact absurd (Nat.lt_of_lt_of_le (old x c a1).2 (Nat.le_trans hC (Nat.le_trans (Nat.le_succ _) b2))) (Nat.lt_irrefl _)
  ·exact I.ok.inj x y c (old x c a1).1 (old y c b1).1
 ·have hx':(relabel scope X.env).names.lookup x=some .cell\/(relabel scope X.env).names.lookup x=some .free:=hx
  rw [fv] at hx'
  show ∃ c,(cellsFrom (C+1) scope.names (dR X.env.cells scope.names [])).lookup x=some c
  refine Option.isSome_iff_exists.mp (PySem.W.cellsFrom_some _ _ _ ?_)
  cases e:scope.names.lookup x with
  | none=>rw [e] at hx';simp at hx'
  | some k=>
   rw [e] at hx'
   by_cases hk:k=.free
   ·subst hk
    exact .inr (by rw [fu (mem_of_lookupK e)];rfl)
   ·have hb:(k == NameKind.free)=false:=by simpa using hk
    simp only [Option.map_some,hb,Bool.false_and,Bool.false_eq_true,if_false,Option.some.injEq] at hx'
    rcases hx' with q | q
    ·exact .inl (by rw [q])
    ·exact absurd q hk
 ·obtain ⟨y,hy,e⟩:=List.any_eq_true.mp hx
  have:=eq_of_beq e
  subst this
  rcases cI h with ⟨_,_,a⟩ | a
  ·exact Nat.le_trans hC (Nat.le_trans (Nat.le_succ _) a)
  ·exact absurd (g0 I CS a).1 (CS.own _ hy)
 ·exact Nat.ne_of_lt (Nat.lt_of_lt_of_le (hl b hb) hC)
 ·rcases cI h with ⟨_,_,a⟩ | a
  ·exact Ne.symm (Nat.ne_of_lt (Nat.lt_of_lt_of_le (hl b hb) (Nat.le_trans hC (Nat.le_trans (Nat.le_succ _) a))))
  ·exact (hf b hb).2.2.2.2.1 x c (old x c a).1
 ·rcases (hf b hb).2.2.2.1 with z | z
  ·exact I.ok.noex b o e z
  ·exact absurd (Nat.lt_of_lt_of_le (Heap.lt_size e) (Nat.le_trans I.ok.bsz z)) (Nat.lt_irrefl _)
 ·rcases List.mem_cons.mp (I.ku b z) with e | e
  ·exact (hf b hb).2.1 e
  ·exact (hf b hb).2.2.1 e
theorem sS (I:Inv X pins σ H2 s2) (CS:cL X.env.scope X.N own scope) {C:Addr} {h:Heap} (hc:∀ c v,s2.heap.IsCell c v->(∃ x,X.env.cells.lookup x=some c)->h.IsCell c v) {m:Str->Option Value} :
  ∀ (i:Nat) (x:Str) (v:V),(own++X.N)[i]?=some x->(List.replicate own.length (none:Option V)++σ)[i]?=some (some v)->Cz (relabel scope X.env) x->∃ u,RelV v u/\Look (m6 scope C X.env) h m x u:=by
 intro i x v h1 h2 h3
 have hi:own.length<=i:=by
  by_cases hi:own.length<=i
  ·exact hi
  ·rw [List.getElem?_append_left (by simpa using hi),List.getElem?_replicate] at h2
   split at h2<;>cases h2
 rw [List.getElem?_append_right hi] at h1
 rw [List.getElem?_append_right (by simpa using hi),List.length_replicate] at h2
 have hN:=CS.out x (List.mem_of_getElem? h1)
 have hfr:scope.names.lookup x=some .free:=by
  unfold Cz at h3
  rw [fv] at h3
  cases e:scope.names.lookup x with
  | none=>rw [e] at h3;simp at h3
  | some k=>
   rw [e] at h3 hN
   by_cases hk:k=.free
   ·rw [hk]
   ·have hb:(k == NameKind.free)=false:=by simpa using hk
    simp only [Option.map_some,hb,Bool.false_and,Bool.false_eq_true,if_false,Option.some.injEq] at h3
    rcases h3 with q | q | q
    ·exact absurd (by rw [q]) hN.1
    ·exact absurd (by rw [q]) hN.2
    ·exact absurd q hk
 have hm:=mem_of_lookupK hfr
 have hk:=CS.frees x hm
 obtain ⟨mX,hn,hl⟩:=I.loc
 obtain ⟨u,r,l⟩:=hl _ x v h1 h2 (hk.elim (fun z=>.inr (.inl z)) fun z=>.inr (.inr z))
 refine ⟨u,r,?_⟩
 rcases l with ⟨z,_⟩ | ⟨_,c,hcx,z⟩
 ·have z':X.env.scope.names.lookup x=some .local:=z
  rcases hk with q | q<;>rw [q] at z'<;>cases z'
 ·refine .inr ⟨?_,c,?_,hc c _ z ⟨x,hcx⟩⟩
  ·show (relabel scope X.env).names.lookup x=some .cell\/(relabel scope X.env).names.lookup x=some .free
   rw [fv,hfr]
   simp only [Option.map_some]
   split
   ·exact .inl rfl
   ·exact .inr rfl
  ·show (cellsFrom (C+1) scope.names (dR X.env.cells scope.names [])).lookup x=some c
   rw [cD,List.lookup_append]
   have no:(cellsFrom (C+1) scope.names []).lookup x=none:=by
    cases e:(cellsFrom (C+1) scope.names []).lookup x with
    | none=>rfl
    | some d=>
     have:=CS.uniq _ (dZ (PySem.mem_of_lookup e)).1
     simp only [] at this
     rw [hfr] at this
     cases this
   rw [no,fu hm,hcx]
   rfl
end
end L2
namespace L2
open PySem PySem.Spec PyProof.Rows
theorem uR {prog:Program} {w:World} {A:Around} {R:Result->Shared->Prop} {s:Shared} {elt target iter:Expr} {ifs:List Expr} {scope:Scope} {pos:Pos} {it acc:Value} {env:Env} (I:Nat->Shared->Prop)
  (turn:∀ n s,I n s->wpAny (model prog w) A (pyNext it) (fun r s1=>match r with
   | none=>R (.ok .next) s1
   | some v=>wpAny (model prog w) A (letOwnedTupleGo target it v) (fun _ s2=>wpAny (model prog w) A (assign target env v) (fun _ s3=>
     wpAny (model prog w) A (forIn ifs true fun c r=>if r=true then do let ok <- isTrue c env (eval c env);pure (ForInStep.yield ok) else pure (ForInStep.yield r)) (fun ok s4=>
      if ok=true then wpAny (model prog w) A (eval elt env) (fun x s5=>
       wpAny (model prog w) A (call (.builtin "list.append") [acc,x]) (fun _ s6=>∃ m,m < n/\I m s6) (fun _ _=>False) s5) (fun _ _=>False) s4
      else ∃ m,m < n/\I m s4) (fun _ _=>False) s3) (fun _ _=>False) s2) (fun _ _=>False) s1) (fun _ _=>False) s)
  (n:Nat) (h:I n s) :
  codeAny (model prog w) A (.compLoop (.ListComp elt [⟨target,iter,ifs,0⟩] scope pos) 0 it acc env) R s:=by
 refine codeAny_loop rfl I (fun n s hI=>?_) n h
 show wpAny _ A ((compTurn (.ListComp elt [⟨target,iter,ifs,0⟩] scope pos) 0 it acc env).onRaise (fun x=>do noteFrame x env;theTreesLotGoes x)) _ _ s
 refine wpAny_noted ?_
 rw [compTurn_list]
 refine wpAny_mono (E:=fun _ _=>False) (E':=_) (Q':=_) ?_ (fun _ _ q=>q) fun _ _ z=>z.elim
 refine wpAny_bind (wpAny_standAt (wpAny_bind (cf (turn n s hI) (fun r s1 h1=>?_))))
 cases r with
 | none=>exact wpAny_pure h1
 | some v=>
  refine wpAny_bind (cf h1 fun _ s2 h2=>?_)
  refine wpAny_bind (cf h2 fun _ s3 h3=>wpAny_bind (cf h3 fun ok s4 h4=>?_))
  cases ok with
  | false=>exact wpAny_pure ⟨rfl,h4⟩
  | true=>exact wpAny_bind (wpAny_bind (cf h4 fun x s5 h5=>wpAny_bind (cf h5 fun _ s6 h6=>wpAny_pure (wpAny_pure ⟨rfl,h6⟩))))
def D6 (X:Cx) (ifs:List Expr) (t:TT):Prop:=
 ∀ (pins:List (Addr×Obj)) (s:Shared) (σ:St) (H:Hp) (Q:Bool->Hp->Prop),Inv X pins σ H s->t σ H Q ->
  wpAny (model X.prog X.w) X.A (forIn ifs true fun c r=>if r=true then do let ok <- isTrue c X.env (eval c X.env);pure (ForInStep.yield ok) else pure (ForInStep.yield r)) (TP X pins σ Q) X.xe s
def HP:TT:=fun _ H Q=>Q true H
theorem A5 {X:Cx}:D6 X [] HP:=fun _ _ _ H _ I h=>wpAny_tests_nil ⟨H,I,h⟩
theorem A6 {X:Cx} {c:Expr} {t:TT} (h:PT X c t):D6 X [c] t:=fun pins s σ H Q I q=>wpAny_tests_one (h pins s σ H Q I q)
def yG (n:Nat) (J:It) (g:TG) (tc:TT) (te:TE) (σ:St) (H:Hp) (Q:VK):Prop:=
 ∃ W:Nat->Nat->List V->Hp->Prop,(∃ m,W 0 m [] H)/\∀ i m ys H,W i m ys H ->
  (J.stop i H/\ys.length<=sizeLine/\∀ p,H p=none->Q (.ref p) (upd H p (.lst ys))) \/
  (J.go i H/\ys.length<=sizeLine/\∃ N:List V->Hp->Prop,(∀ ys' H',N ys' H'->∃ m',m' < m/\W (i+1) m' ys' H')/\∀ x H',J.yld i H x H'->g x (List.replicate n none++σ) H' fun σ2 H2=>tc σ2 H2 fun b H3=>
   if b=true then te σ2 H3 fun y H4=>N (ys++[y]) H4 else N ys H3)
theorem m7 {X:Cx} {own:List Str} {scope:Scope} {pins:List (Addr×Obj)} {σ:St} {H2:Hp} {s2:Shared} {fp:List Addr} {it:Addr} {tn:Nat->Heap->Prop} {J:It} {elt tg iter:Expr} {ifs:List Expr} {pos:Pos} {g:TG} {tc:TT} {te:TE} {Q:VK}
  {RR:Value->Addr->Result->Shared->Prop} {E:Value->Shared->Prop} (I:Inv X pins σ H2 s2) (CS:cL X.env.scope X.N own scope) (hc:X.calm=true) (T:Turn X.prog X.w X.K tg J fp it tn) (st:tn 0 s2.heap) (hf:∀ b∈fp,jI X pins H2 b)
  (hg:∀ C s2 H2 fp pins,PG (br X own scope C s2 H2 fp pins) tg g) (ht:∀ C s2 H2 fp pins,D6 (br X own scope C s2 H2 fp pins) ifs tc) (he:∀ C s2 H2 fp pins,PE (br X own scope C s2 H2 fp pins) elt te)
  (hW:yG own.length J g tc te σ H2 Q)
  (hR:∀ D C H' s',Inv X pins σ H' s'->jI X pins H' C->(∃ m,s'.heap.Ns C m)->Q (.ref D) H'->Kept X fp H2 H' s2 s'->RR (.ref D) C (.ok .next) s') :
  wpAny (model X.prog X.w) X.A (newList []) (fun acc s3=>wpAny (model X.prog X.w) X.A (newFunctionEnv scope X.env.globals (dR X.env.cells scope.names []) [] X.env.qual none .none (some X.env)) (fun cenv s4=>
   codeAny (model X.prog X.w) X.A (.compStart (.ListComp elt [⟨tg,iter,ifs,0⟩] scope pos) 0 (.ref it) acc {cenv with scope:=relabel scope X.env}) (RR acc cenv.locals) s4) E s3) E s2:=by
 refine wpAny_newObj_type (pv ?_)
 dsimp only
 generalize hH:s2.heap.push {cls:=.type "list",dict:=none,data:=.seq ([]:List Value).toArray}=h3
 have hDC:h3.objs.size=s2.heap.objs.size+1:=by rw [<- hH,Heap.size_push]
 have eC:({scope:=relabel scope X.env,locals:=h3.objs.size,globals:=X.env.globals,cells:=cellsFrom (h3.objs.size+1) scope.names (dR X.env.cells scope.names []),qual:=X.env.qual,func:=none,code:=X.env.code,frame:=X.env.frame,builtins:=X.env.builtins}:Env)=m6 scope h3.objs.size X.env:=rfl
 rw [eC]
 generalize eD:s2.heap.objs.size=D at *
 generalize eCC:h3.objs.size=C at *
 have hl:∀ b∈fp,b < s2.heap.objs.size:=fun b hb=>by
  obtain ⟨o,e,_⟩:=T.obj 0 _ st b hb
  exact Heap.lt_size e
 have hC:s2.heap.objs.size<=C:=by omega
 generalize hH4:pushCells (h3.push {cls:=.type "dict",data:=.dict #[]}) scope.names=h4
 have k34:∀ b o,(h3.push {cls:=.type "dict",data:=.dict #[]}).get? b=some o->h4.get? b=some o:=fun b o e=>by rw [<- hH4];exact pushCells_keeps _ _ b o e
 have k24:∀ b o,s2.heap.get? b=some o->h4.get? b=some o:=fun b o e=>k34 b o (Heap.get?_push_of_some _ (by rw [<- hH];exact Heap.get?_push_of_some _ e))
 have nsC:h4.Ns C fun _=>none:=by
  have:=Heap.Ns.new h3 (.type "dict")
  rw [eCC] at this
  exact this.keeps k34
 have accD:h4.get? D=some {cls:=.type "list",data:=.seq (([]:List Value).toArray)}:=k34 _ _ (Heap.get?_push_of_some _ (by rw [<- hH,<- eD];exact Heap.get?_push_size _ rfl))
 have cellN:∀ x c,(x,c)∈cellsFrom (C+1) scope.names []->h4.IsCell c none/\C+1<=c:=fun x c hm=>by
  have ok:=cellsFrom_ok scope.names (h3.push {cls:=.type "dict",data:=.dict #[]}) (C+1) [] ⟨fun _ _ hm=>(nomatch hm),List.Pairwise.nil⟩ (by rw [Heap.size_push];omega)
  rw [Heap.size_push,eCC,hH4] at ok
  exact ok.empty x c hm
 have hne:H2 D=none:=by rw [<- eD];exact I.hok.fresh (Nat.le_refl _)
 have ok':(br X own scope C s2 H2 fp pins).Ok:=A4 I CS hC hf hl
 have rebase:∀ {σ':St} {H':Hp} {ps:List (Addr×Obj)} {s':Shared},Inv (br X own scope C s2 H2 fp pins) ps σ' H' s'->Inv (br X own scope C s2 H2 fp pins) ps (List.replicate own.length none++σ) H' s':=fun {σ' H' ps s'} J'=>by
  obtain ⟨m,hn,_⟩:=J'.loc
  refine ⟨J'.ok,J'.os,J'.bare,J'.base,⟨m,hn,sS I CS fun c v z ⟨x,hx⟩=>?_⟩,J'.cell,J'.free,J'.freeC,J'.pin,J'.hok,?_⟩
  ·obtain ⟨o,ho,hd⟩:=z
   obtain ⟨sl,e⟩:=J'.base.any ho (I.freeC x c hx) fun hb=>(hf c hb).2.2.2.2.1 x c hx rfl
   exact ⟨_,e,hd⟩
  ·show (List.replicate own.length none++σ).length=(own++X.N).length
   rw [List.length_append,List.length_append,List.length_replicate,I.len]
 have start:Inv (br X own scope C s2 H2 fp pins) [] (List.replicate own.length none++σ) H2 {s2 with heap:=h4}:=by
  have I4:Inv X pins σ H2 {s2 with heap:=h4}:=I.kept (t':=s2.toks) k24
  refine ⟨ok',rfl,I.bare,Un.kept k24,⟨_,nsC,sS I CS fun c v z _=>z.keeps k24⟩,fun x c h=>?_,I.hok.fresh hC,fun x c h=>?_,fun p hp=>?_,I4.hok,?_⟩
  ·rcases cI h with ⟨a,_,_⟩ | a
   ·exact ⟨_,(cellN x c a).1⟩
   ·obtain ⟨v,z⟩:=I.cell x c (g0 I CS a).2
    exact ⟨v,z.keeps k24⟩
  ·rcases cI h with ⟨_,_,a⟩ | a
   ·exact I.hok.fresh (Nat.le_trans hC (Nat.le_trans (Nat.le_succ _) a))
   ·exact I.freeC x c (g0 I CS a).2
  ·have hp':p∈X.pn++pins:=by
    rcases List.mem_append.mp hp with z | z
    ·exact z
    ·exact nomatch z
   obtain ⟨e,n,ne,nf,d⟩:=I.pin p hp'
   refine ⟨k24 _ _ e,n,Nat.ne_of_lt (Nat.lt_of_lt_of_le (Heap.lt_size e) hC),fun z=>?_,d⟩
   rcases List.mem_cons.mp (I.ku _ z) with q | q
   ·exact ne q
   ·exact nf q
  ·show (List.replicate own.length none++σ).length=(own++X.N).length
   rw [List.length_append,List.length_append,List.length_replicate,I.len]
 obtain ⟨W,⟨m0,w0⟩,turn⟩:=hW
 have nfs:∀ b,s2.heap.objs.size<=b->b∉(br X own scope C s2 H2 fp pins).fs:=fun b hb z=>by
  rcases List.mem_cons.mp (I.ku b z) with q | q
  ·rw [q] at hb;exact absurd (Nat.lt_of_lt_of_le I.lt hb) (Nat.lt_irrefl _)
  ·exact I.Dn hb q
 have fpD:∀ {H':Hp},H' D=none->jI (br X own scope C s2 H2 fp pins) [] H' D:=fun {H'} hn=>by
  refine ⟨hn,Nat.ne_of_lt (by show D < C;omega),nfs D (by omega),.inr (by show s2.heap.objs.size<=D;omega),fun x c h z=>?_,fun p hp z=>?_⟩
  ·rcases cI h with ⟨_,_,a⟩ | a
   ·rw [z] at a;exact absurd (Nat.lt_of_lt_of_le (show D < C+1 by omega) a) (Nat.lt_irrefl _)
   ·obtain ⟨v,q⟩:=I.cell x c (g0 I CS a).2
    have:=q.lt
    rw [z,eD] at this
    exact Nat.lt_irrefl _ this
  ·have hp':p∈X.pn++pins:=by
    rcases List.mem_append.mp hp with z | z
    ·exact z
    ·exact nomatch z
   have:=Heap.lt_size (I.pin p hp').1
   rw [z,eD] at this
   exact Nat.lt_irrefl _ this
 have nD:D∉fp:=fun z=>by have:=hl D z;rw [eD] at this;exact Nat.lt_irrefl _ this
 have stat:∀ {H':Hp} {ps:List (Addr×Obj)},(∀ p∈ps,p.1=D)->(∀ b∈fp,H' b=none)->∀ b∈fp,jI (br X own scope C s2 H2 fp pins) ps H' b:=fun {H' ps} hps hn b hb=>by
  obtain ⟨f0,f1,f2,f3,f4,f5⟩:=hf b hb
  refine ⟨hn b hb,(ok'.exf b hb).1,ok'.exfs b hb,.inl hb,(ok'.exf b hb).2,fun p hp=>?_⟩
  rcases List.mem_append.mp hp with z | z
  ·exact f5 p z
  ·rw [hps p z]
   exact fun q=>nD (q▸hb)
 let LI:Nat->Shared->Prop:=fun n s'=>∃ i ys its k H',Inv (br X own scope C s2 H2 fp pins) [] (List.replicate own.length none++σ) H' s'/\tn i s'.heap/\(∀ b∈fp,H' b=none)/\H' D=none /\
  s'.heap.get? D=some {cls:=.type "list",data:=.seq (List.toArray its) k}/\Vals ys its/\W i n ys H'
 have l0:LI m0 {s2 with heap:=h4}:=⟨0,[],[],0,H2,start,T.keep _ _ _ st fun b _ o e=>k24 b o e,fun b hb=>(hf b hb).1,hne,accD,.nil,w0⟩
 have loop:codeAny (model X.prog X.w) X.A (.compLoop (.ListComp elt [⟨tg,iter,ifs,0⟩] scope pos) 0 (.ref it) (.ref D) (m6 scope C X.env)) (RR (.ref D) C) {s2 with heap:=h4}:=by
  refine uR LI ?_ m0 l0
  rintro n s3 ⟨i,ys,its,k,H3,I3,st3,fr3,d3,a3,v3,w3⟩
  rcases turn i n ys H3 w3 with ⟨stop,hz,qn⟩ | ⟨go,hz,NN,hNN,step⟩
  ·have I3p:=I3.pinned (fp:=[D]) (fun b hb=>(List.mem_singleton.mp hb)▸fpD d3) fun b hb=>⟨_,(List.mem_singleton.mp hb)▸a3,fun v z=>(by cases z)⟩
   refine cf (T.done (br X own scope C s2 H2 fp pins) rfl rfl rfl hc i _ s3 _ H3 _ I3p (stat (fun p hp=>by have q:p∈gx [D] s3.heap:=hp;have:=(kA q).1;simpa using this) fr3) st3 stop) fun r s4 ⟨hr,I4⟩=>?_
   subst hr
   have a4:s4.heap.get? D=_:=(I4.pin (D,_) (List.mem_append_right _ (List.mem_append_right _ (dS (by simp) a3)))).1
   have u4:Un (sF X.stack) fp H2 H3 s2.heap s4.heap:=I4.base
   have okD:iD X.prog X.w (upd H3 D (.lst ys)) s4.heap:=fun b o e=>by
    by_cases hb:b=D
    ·subst hb
     rw [aW] at e
     cases e
     exact ⟨hz,its,k,v3,a4⟩
    ·rw [aA hb] at e
     exact (I4.hok b o e).qH (fun _ _ _ q=>q) (fun c q=>by rw [aA (aG q d3)];exact q) fun c xs q=>by rw [aA (aG q d3)];exact q
   have nDo:∀ b o,s2.heap.get? b=some o->b≠D:=fun b o e=>by rw [<- eD];exact Nat.ne_of_lt (Heap.lt_size e)
   have uD:Un (sF X.stack) fp H2 (upd H3 D (.lst ys)) s2.heap s4.heap:=⟨u4.keep,u4.slot,fun b o e n hx=>by rw [aA (nDo b o e)];exact u4.free b o e n hx,u4.there,
    fun b xs e=>by rw [aA (aG e hne)];exact u4.tups b xs e,fun b o xs e=>by rw [aA (aG e hne)];exact u4.frzs b o xs e,fun b ps e=>by rw [aA (aG e hne)];exact u4.tbls b ps e⟩
   have kp:Kept X fp H2 (upd H3 D (.lst ys)) s2 s4:=⟨I4.os,uD,okD,I4.bare⟩
   have I5:Inv X pins σ (upd H3 D (.lst ys)) s4:=kp.inv I hf
   obtain ⟨m,hn,_⟩:=I4.loc
   refine hR D C _ s4 I5 ⟨by rw [aA (show C≠D by omega)];exact I4.free,Nat.ne_of_gt (Nat.lt_of_lt_of_le I.lt hC),I.Dn hC,.inr (Nat.le_trans I.sz hC),fun x c e z=>?_,fun p hp z=>?_⟩ ⟨m,hn⟩ (qn D d3) kp
   ·obtain ⟨v,q⟩:=I.cell x c e
    exact absurd (Nat.lt_of_lt_of_le q.lt (by rw [z];exact hC)) (Nat.lt_irrefl _)
   ·exact absurd (Nat.lt_of_lt_of_le (Heap.lt_size (I.pin p hp).1) (by rw [z];exact hC)) (Nat.lt_irrefl _)
  ·have I3p:=I3.pinned (fp:=[D]) (fun b hb=>(List.mem_singleton.mp hb)▸fpD d3) fun b hb=>⟨_,(List.mem_singleton.mp hb)▸a3,fun v z=>(by cases z)⟩
   have onlyD:∀ p∈([]++gx [D] s3.heap),p.1=D:=fun p hp=>by have q:p∈gx [D] s3.heap:=hp;have:=(kA q).1;simpa using this
   refine cf (T.item (br X own scope C s2 H2 fp pins) rfl rfl rfl hc i _ s3 _ H3 _ I3p (stat onlyD fr3) st3 go) fun r s4 ⟨u,hr,h4'⟩=>?_
   subst hr
   refine cf h4' fun _ s5 ⟨x,H5,I5,r5,y5,st5,fr5⟩=>?_
   have I5p:=I5.pinned (fp:=fp) (stat onlyD fr5) (T.obj _ _ st5)
   have cont:∀ {s6:Shared} {σ6:St} {H6:Hp},Inv (br X own scope C s2 H2 fp pins) (([]++gx [D] s3.heap)++gx fp s5.heap) σ6 H6 s6 ->
     Inv (br X own scope C s2 H2 fp pins) [] (List.replicate own.length none++σ) H6 s6/\tn (i+1) s6.heap/\(∀ b∈fp,H6 b=none)/\H6 D=none/\s6.heap.get? D=some {cls:=.type "list",data:=.seq (List.toArray its) k}:=fun {s6 σ6 H6} I6=>by
    have pD:=I6.pin (D,_) (List.mem_append_right _ (List.mem_append_left _ (List.mem_append_right _ (dS (by simp) a3))))
    refine ⟨rebase (I6.jH fun p hp=>nomatch hp),T.keep _ _ _ st5 fun b hb o e=>(I6.pin (b,o) (List.mem_append_right _ (List.mem_append_right _ (dS hb e)))).1,fun b hb=>?_,pD.2.1,pD.1⟩
    obtain ⟨o,e,_⟩:=T.obj _ _ st5 b hb
    exact (I6.pin (b,o) (List.mem_append_right _ (List.mem_append_right _ (dS hb e)))).2.1
   refine cf (hg C s2 H2 fp pins _ s5 _ H5 x u _ I5p r5 (step x H5 y5)) fun _ s6 ⟨σ6,H6,I6,q6⟩=>?_
   refine cf (ht C s2 H2 fp pins _ s6 σ6 H6 _ I6 q6) fun b s7 ⟨H7,I7,q7⟩=>?_
   cases b with
   | false=>
    have q7':NN ys H7:=q7
    obtain ⟨m',hm,w7⟩:=hNN _ _ q7'
    obtain ⟨c1,c2,c3,c4,c5⟩:=cont I7
    exact ⟨m',hm,i+1,ys,its,k,H7,c1,c2,c3,c4,c5,v3,w7⟩
   | true=>
    refine cf (he C s2 H2 fp pins _ s7 σ6 H7 _ I7 q7) fun v s8 ⟨y,H8,I8,r8,q8⟩=>?_
    obtain ⟨m',hm,w8⟩:=hNN _ _ q8
    obtain ⟨c1,c2,c3,c4,c5⟩:=cont I8
    refine wpAny_list_append_plain ⟨k,c5⟩ (fun h' hp hs=>?_) (by rw [List.size_toArray,<- v3.length];exact hz)
    obtain ⟨k',e'⟩:=hp
    obtain ⟨f0,f1,f2,f3,f4,f5⟩:=fpD c4
    refine ⟨m',hm,i+1,ys++[y],its++[v],k',H8,c1.turned (t':=s8.toks) (fun b o hb e=>(hs.2 b hb).trans e) f0 f1 f3 f4 f5,T.keep _ _ _ c2 fun b hb o e=>(hs.2 b fun z=>nD (z▸hb)).trans e,c3,c4,?_,v3.append (.cons r8 .nil),w8⟩
    show h'.get? D=_
    rw [e']
    simp
 exact codeAny_compStart_list loop (T.self X.A 0 {s2 with heap:=h4} _ _ (T.keep _ _ _ st fun b _ o e=>k24 b o e) loop)
end L2
namespace L2
open PySem PySem.Spec PyProof.Rows
section
variable {X:Cx} {own:List Str} {scope:Scope} {elt tg iter:Expr} {ifs:List Expr} {pos:Pos} {wi:TI} {g:TG} {tc:TT} {te:TE}
def v7 (n:Nat) (wi:TI) (g:TG) (tc:TT) (te:TE):TE:=fun σ H Q=>wi σ H fun J H1=>yG n J g tc te σ H1 Q
theorem m8 {sc:Scope} {N:List Str} (CS:cL sc N own scope):∀ x∈scope.names,x.2=.local->scope.names.lookup x.1=some .local:=fun x hx e=>by rw [CS.uniq x hx,e]
theorem A7 (own:List Str) (CS:gg X.env.scope X.N own scope=true) (hc:X.calm=true) (hi:PI X tg iter wi) (hg:∀ C s2 H2 fp pins,PG (br X own scope C s2 H2 fp pins) tg g)
  (ht:∀ C s2 H2 fp pins,D6 (br X own scope C s2 H2 fp pins) ifs tc) (he:∀ C s2 H2 fp pins,PE (br X own scope C s2 H2 fp pins) elt te) (hs:∀ x,foldedSetIterable iter X.env x=pure x:=by intro _;rfl) :
  PE X (.ListComp elt [⟨tg,iter,ifs,0⟩] scope pos) (v7 own.length wi g tc te):=by
 intro pins s σ H Q I h
 have CS:=cL.of CS
 rw [eval_ListComp]
 refine wpAny_comprehension_free (use:=none) (g:=⟨tg,iter,ifs,0⟩) rfl hs (iX fun n hn=>I.ok.has n (CS.frees n hn)) CS.kind (m8 CS) (cf (hi pins s σ H _ I h) fun v s1 h1=>cf h1 fun itv s2 h2=>?_)
 obtain ⟨it,fp,tn,J,H2,e,I2,T,st2,f2,hW⟩:=h2
 subst e
 refine m7 (RR:=fun acc C=>compPost (model X.prog X.w) X.A X.xe none (EP X pins σ Q) acc C) I2 CS hc T st2 f2 hg ht he hW fun D C H' s' I' fC ⟨m,hn⟩ q _=>?_
 refine ⟨m,hn,fun h' hs'=>⟨.ref D,H',?_,rfl,q⟩⟩
 obtain ⟨f0,f1,_,f3,f4,f5⟩:=fC
 exact I'.turned (t':=s'.toks) (fun b o hb e=>(hs'.2 b hb).trans e) f0 f1 f3 f4 f5
theorem yH (own N':List Str) {i:Nat} {x:Str} {pos' spos:Pos} (hN:X.N.Nodup) (hxi:X.N[i]?=some x) (hx:X.env.scope.names.lookup x=some .local) (HL:mB X.env.scope X.N N'=true) (CS:gg X.env.scope N' own scope=true) (hc:X.calm=true) (hi:PI X tg iter wi) (hg:∀ C s2 H2 fp pins,PG (br (X.xE N') own scope C s2 H2 fp pins) tg g)
  (ht:∀ C s2 H2 fp pins,D6 (br (X.xE N') own scope C s2 H2 fp pins) ifs tc) (he:∀ C s2 H2 fp pins,PE (br (X.xE N') own scope C s2 H2 fp pins) elt te) (hs:∀ x,foldedSetIterable iter X.env x=pure x:=by intro _;rfl)
  (hsw:swapsWith (.ListComp elt [⟨tg,iter,ifs,0⟩] scope pos) (some (.Name x pos')) spos.line X.env=pure true:=by rfl) :
  PS X (.Assign [.Name x pos'] (.ListComp elt [⟨tg,iter,ifs,0⟩] scope pos) spos) (AL (v7 own.length wi g tc te) (au i)):=by
 intro pins s σ H D I h
 have CS:=cL.of CS
 rw [exec_Assign_Name_used _ _ _ _ hsw]
 refine wpAny_bind (wpAny_standAt (wpAny_bind ?_))
 show wpAny _ X.A (do let _ <- comprehension (.ListComp elt [⟨tg,iter,ifs,0⟩] scope pos) scope X.env _ (newList []) false (eval iter X.env) (some (assign (.Name x pos') X.env))) _ _ s
 refine wpAny_bind (cf (wpAny_comprehension_free (use:=some (assign (.Name x pos') X.env)) (Q:=fun _ s'=>SP X pins D .next s') (g:=⟨tg,iter,ifs,0⟩) rfl hs (iX fun n hn=>I.ok.has n (CS.frees n hn)) CS.kind (m8 CS)
  (cf (hi pins s σ H _ I h) fun v s1 h1=>cf h1 fun itv s2 h2=>?_)) fun _ s' hq=>wpAny_pure (wpAny_pure hq))
 obtain ⟨it,fp,tn,J,H2,e,I2,T,st2,f2,hW⟩:=h2
 subst e
 refine m7 (X:=X.xE N') (Q:=fun x H1=>au i x σ H1 D.nx) (RR:=fun acc C=>compPost (model X.prog X.w) X.A X.xe (some (assign (.Name x pos') X.env)) (fun _ s'=>SP X pins D .next s') acc C) (I2.xE HL) CS hc T st2 f2 hg ht he hW fun Dl C H' s' _ fC ⟨m,hn⟩ q kp=>?_
 have I':Inv X pins σ H' s':=Kept.inv kp I2 f2
 show wpAny _ _ (assign (.Name x pos') X.env (.ref Dl)) _ _ s'
 refine wpAny_assign_Name (pM (v:=.ref Dl) I' hN hxi (.inl hx) rfl (fun s'' I'' hsb=>?_) (.inr hx))
 obtain ⟨f0,f1,f2',f3,f4,f5⟩:=fC
 obtain ⟨a,sb,ha⟩:=hsb
 have hCa:C≠a:=by
  rcases ha with e | e
  ·rw [e];exact f1
  ·exact (f4 x a e).symm
 refine ⟨m,hn.sameBut sb hCa,fun h' hs'=>⟨_,H',?_,q⟩⟩
 exact I''.turned (t':=s''.toks) (fun b o hb e=>(hs'.2 b hb).trans e) f0 f1 f3 f4 f5
end
section
variable {g:TG} {tc:TT} {te:TE} {σ:St} {H:Hp} {Q:VK} {n:Nat}
end
end L2
namespace L2
open PySem PySem.Spec PyProof.Rows
structure Nx (P:Program) (w:World) (i l:Addr) (st:Nat->Heap->Prop) (xs:List Value):Prop where
 obj:∀ k h,st k h->∃ o vs,h.get? i=some o/\o.data=.fields vs
 keep:∀ k h h',st k h->(∀ o,h.get? i=some o->h'.get? i=some o)->(∀ o,h.get? l=some o->h'.get? l=some o)->st k h'
 item:∀ (A:Around) k (s:Shared) x (Q:Value->Shared->Prop) (E:Value->Shared->Prop),st k s.heap->xs[k]?=some x->(∀ h',st (k+1) h'->Heap.SameBut i s.heap h'->Q x {s with heap:=h'}) ->
  wpAny (model P w) A (Builtin.SmallTypes.nextOf (.ref i)) Q E s
 done:∀ (A:Around) k (s:Shared) (Q:Value->Shared->Prop) (E:Value->Shared->Prop),A.handled=none->st k s.heap->xs[k]?=none ->
  (∀ h' e,Heap.ExtBut i s.heap h'->(∃ o,h'.get? e=some o/\o.cls=.type "StopIteration")->E (.ref e) {s with heap:=h'})->wpAny (model P w) A (Builtin.SmallTypes.nextOf (.ref i)) Q E s
section
variable {P:Program} {w:World} {A:Around} {E:Value->Shared->Prop} {s:Shared}
theorem sT {h:Heap} {i l:Addr} {k:Nat} {its:Array Value} (a:h.IsTupleIter i l k) (b:h.IsTuple l its):i≠l:=fun e=>by
 obtain ⟨o,h1,c1,_⟩:=a
 obtain ⟨o',h2,c2,_⟩:=b
 rw [e,h2] at h1;cases h1
 rw [c2] at c1
 exact absurd c1 (by decide)
theorem uS {it t:Addr} {k:Nat} {its:Array Value} {x:Value} {Q:Value->Shared->Prop} (a:s.heap.IsTupleIter it t k) (b:s.heap.IsTuple t its) (hx:its[k]?=some x)
  (q:∀ h',h'.IsTupleIter it t (k+1)->Heap.SameBut it s.heap h'->Q x {s with heap:=h'}):wpAny (model P w) A (Builtin.SmallTypes.nextOf (.ref it)) Q E s:=by
 obtain ⟨oi,gi,ci,di⟩:=id a
 obtain ⟨ot,gt,_,nt,dt⟩:=b
 unfold Builtin.SmallTypes.nextOf
 refine wpAny_bind (wpAny_callSpecial?_slot (name:=Str.ofString "__next__") a.typeIs F.slot_tuple_iterator_next (wpAny_call_entry F.slot_tuple_iterator_next a.typeIs F.entry_tuple_iterator_next ?_ (F.args_tuple_iterator_next_1 _)))
 show wpAny _ _ (field (Value.ref it) 0 >>= _) _ _ s
 refine wpAny_bind (wpAny_field (x:=Value.ref t) gi di rfl ?_)
 rw [if_neg (show ¬ (Value.ref t == Value.none)=true from Bool.false_ne_true)]
 show wpAny _ _ (field (Value.ref it) 1 >>= _) _ _ s
 refine wpAny_bind (wpAny_field (x:=Value.int k 0) gi di rfl ?_)
 show wpAny _ _ (seqItems? (Value.ref t) >>= _) _ _ s
 refine wpAny_bind (wpAny_seqItems gt dt ?_)
 simp only [hx,Int.toNat_natCast]
 refine wpAny_bind (wpAny_setField gi di (by simp) (wpAny_pure ⟨x,rfl,wpAny_pure (q _ ⟨_,Heap.get?_update_self _ gi (Obj.isFreed_of_fields (Obj.data_mapFields di _)),(Obj.cls_mapFields ..).trans ci,?_⟩ (Heap.SameBut.update ..))⟩))
 rw [Obj.data_mapFields di]
 simp [rawInt]
theorem m9 {it t:Addr} {k:Nat} {its:Array Value} {Q:Value->Shared->Prop} (hh:A.handled=none) (a:s.heap.IsTupleIter it t k) (b:s.heap.IsTuple t its) (hx:its[k]?=none)
  (q:∀ h' e,Heap.ExtBut it s.heap h'->(∃ o,h'.get? e=some o/\o.cls=.type "StopIteration")->E (.ref e) {s with heap:=h'}):wpAny (model P w) A (Builtin.SmallTypes.nextOf (.ref it)) Q E s:=by
 obtain ⟨oi,gi,ci,di⟩:=id a
 obtain ⟨ot,gt,_,nt,dt⟩:=b
 unfold Builtin.SmallTypes.nextOf
 refine wpAny_bind (wpAny_callSpecial?_slot (name:=Str.ofString "__next__") a.typeIs F.slot_tuple_iterator_next (wpAny_call_entry F.slot_tuple_iterator_next a.typeIs F.entry_tuple_iterator_next ?_ (F.args_tuple_iterator_next_1 _)))
 show wpAny _ _ (field (Value.ref it) 0 >>= _) _ _ s
 refine wpAny_bind (wpAny_field (x:=Value.ref t) gi di rfl ?_)
 rw [if_neg (show ¬ (Value.ref t == Value.none)=true from Bool.false_ne_true)]
 show wpAny _ _ (field (Value.ref it) 1 >>= _) _ _ s
 refine wpAny_bind (wpAny_field (x:=Value.int k 0) gi di rfl ?_)
 show wpAny _ _ (seqItems? (Value.ref t) >>= _) _ _ s
 refine wpAny_bind (wpAny_seqItems gt dt ?_)
 simp only [hx,Int.toNat_natCast]
 refine wpAny_bind (wpAny_rule (wpAny_bind (wpAny_setField gi di (by simp) ?_)))
 show wpAny _ _ (newExc (Value.type "StopIteration") [] >>= _) _ _ _
 refine wpAny_bind ?_
 simp only [newTuple,newExc]
 refine wpAny_bind (wpAny_newObj_type ?_ (by size_fits))
 refine wpAny_bind (m:=firstArgMember _ _) (wpAny_of_eq (a:=Value.none) (by first | rfl | (unfold firstArgMember;rfl)) ?_)
 refine wpAny_newObj_type ?_ (by size_fits)
 unfold raiseNew
 refine wpAny_bind (wpAny_handled ?_)
 rw [show A.in1.handled=none from hh]
 exact wpAny_bind (wpAny_pure (wpAny_throw (q _ _ (((Heap.SameBut.update ..).extBut.push _).push _) ⟨_,Heap.get?_push_size _ rfl,rfl⟩)))
theorem qQ (i l:Addr) (xs:List Value):Nx P w i l (fun k h=>h.IsTupleIter i l k/\h.IsTuple l xs.toArray) xs where
 obj:=fun k h ⟨⟨o,a,_,c⟩,_⟩=>⟨o,_,a,c⟩
 keep:=fun k h h' ⟨a,b⟩ k1 k2=>⟨a.at k1,let ⟨o,e,r⟩:=b;⟨o,k2 o e,r⟩⟩
 item:=fun A k s x Q E ⟨a,b⟩ hx q=>uS a b (by simpa using hx) fun h' a' sb=>q h' ⟨a',let ⟨o,e,r⟩:=b;⟨o,(sb.2 l (sT a b).symm).trans e,r⟩⟩ sb
 done:=fun A k s Q E hh ⟨a,b⟩ hx q=>m9 hh a b (by simpa using hx) q
structure ZA (z TI TO i1 i2 l1 l2:Addr):Prop where
 a1:TI≠z
 a2:TO≠z
 a3:i1≠z
 a4:i2≠z
 a5:TI≠TO
 a6:TI≠i1
 a7:TI≠i2
 a8:TO≠i1
 a9:TO≠i2
 b1:i1≠i2
 b2:l1≠z
 b3:l1≠TO
 b4:l1≠i2
 b5:l2≠z
 b6:l2≠TO
 b7:l2≠i1
variable {st1 st2:Nat->Heap->Prop} {xs ys:List Value} {z TI TO i1 i2 l1 l2:Addr} {k:Nat} {a b:Value}
theorem aw {h h':Heap} {c d:Addr} {o:Obj} (sb:Heap.SameBut c h h') (ne:d≠c) (e:h.get? d=some o):h'.get? d=some o:=(sb.2 d ne).trans e
theorem yI (D:ZA z TI TO i1 i2 l1 l2) (N1:Nx P w i1 l1 st1 xs) (N2:Nx P w i2 l2 st2 ys) {x y:Value} {Q:Value->Shared->Prop} (hz:IsZip s.heap z TI TO .none) (hI:IsPair s.heap TI (.ref i1) (.ref i2)) (hO:IsPair s.heap TO a b)
  (s1:st1 k s.heap) (s2:st2 k s.heap) (hx:xs[k]?=some x) (hy:ys[k]?=some y)
  (q:∀ h',IsZip h' z TI TO (rawInt s.heap.objs.size)->IsPair h' TO x y->st1 (k+1) h'->st2 (k+1) h'->IsPair h' s.heap.objs.size x y ->
   (∀ c o,c≠z->c≠TO->c≠i1->c≠i2->s.heap.get? c=some o->h'.get? c=some o)->Q (.ref s.heap.objs.size) {s with heap:=h'}) :
  wpAny (model P w) A (Builtin.«zip.__next__» ⟨[.ref z],[]⟩) (fun fin s'=>∃ v,fin=.done (.ret v)/\Q v s') E s:=by
 show wpAny _ _ (field (Value.ref z) 2 >>= _) _ _ _
 refine wpAny_bind (wpAny_field (x:=Value.bool false) hz rfl rfl ?_)
 show wpAny _ _ (field (Value.ref z) 3 >>= _) _ _ _
 refine wpAny_bind (wpAny_field (x:=Value.ref TI) hz rfl rfl ?_)
 refine wpAny_bind (wpAny_seqItems hI rfl ?_)
 show wpAny _ _ (Builtin.SmallTypes.ownedTupleIsFree (Value.ref z) >>= _) _ _ _
 refine wpAny_bind ?_
 unfold Builtin.SmallTypes.ownedTupleIsFree
 refine wpAny_bind (wpAny_field (x:=Value.none) hz rfl rfl (wpAny_pure ?_))
 simp only [if_true]
 refine wpAny_bind (wpAny_rule (wpAny_bind (wpAny_field (x:=Value.ref TO) hz rfl rfl ?_)))
 refine wpAny_bind (wpAny_setField_rec hz (by simp) fun g1 z1 e1=>?_)
 have z1:IsZip g1 z TI TO .ellipsis:=z1
 refine wpAny_bind ?_
 simp only [List.zipIdx_nil,List.zipIdx_cons,List.forIn_nil,List.forIn_cons]
 refine wpAny_bind (wpAny_bind (wpAny_onRaise ?_))
 show wpAny _ _ (Builtin.SmallTypes.nextOf (Value.ref i1) >>= _) _ _ _
 refine wpAny_bind (N1.item _ k _ x _ _ (N1.keep _ _ _ s1 (fun o=>aw e1 D.a3) fun o=>aw e1 D.b2) hx fun g2 t1 e2=>wpAny_pure ?_)
 have O2:IsPair g2 TO a b:=aw e2 D.a8 (aw e1 D.a2 hO)
 refine wpAny_bind (wpAny_seqItems O2 rfl (wpAny_bind (wpAny_updateSeq_pair O2 fun g3 O3 e3=>?_)))
 have O3:IsPair g3 TO x b:=O3
 refine wpAny_bind (wpAny_letGo (wpAny_pure (wpAny_bind (wpAny_bind (wpAny_onRaise ?_)))))
 show wpAny _ _ (Builtin.SmallTypes.nextOf (Value.ref i2) >>= _) _ _ _
 refine wpAny_bind (N2.item _ k _ y _ _ (N2.keep _ _ _ s2 (fun o e=>aw e3 D.a9.symm (aw e2 D.b1.symm (aw e1 D.a4 e))) fun o e=>aw e3 D.b6 (aw e2 D.b7 (aw e1 D.b5 e))) hy fun g4 t2 e4=>wpAny_pure ?_)
 have O4:IsPair g4 TO x b:=aw e4 D.a9 O3
 refine wpAny_bind (wpAny_seqItems O4 rfl (wpAny_bind (wpAny_updateSeq_pair O4 fun g5 O5 e5=>?_)))
 have O5:IsPair g5 TO x y:=O5
 refine wpAny_bind (wpAny_letGo (wpAny_pure (wpAny_pure (wpAny_bind (wpAny_seqItems O5 rfl (wpAny_bind (wpAny_newTuple ?_)))))))
 have sz:g5.objs.size=s.heap.objs.size:=by rw [e5.1,e4.1,e3.1,e2.1,e1.1]
 have z5:IsZip g5 z TI TO .ellipsis:=aw e5 D.a2.symm (aw e4 D.a4.symm (aw e3 D.a2.symm (aw e2 D.a3.symm z1)))
 have zlt:z < g5.objs.size:=Heap.lt_size z5
 have u1:st1 (k+1) g5:=N1.keep _ _ _ t1 (fun o e=>aw e5 D.a8.symm (aw e4 D.b1 (aw e3 D.a8.symm e))) fun o e=>aw e5 D.b3 (aw e4 D.b4 (aw e3 D.b3 e))
 have u2:st2 (k+1) g5:=N2.keep _ _ _ t2 (fun o e=>aw e5 D.a9.symm e) fun o e=>aw e5 D.b6 e
 show wpAny _ _ (Builtin.SmallTypes.ownedTupleHandOut (Value.ref z) (.ref g5.objs.size) >>= _) _ _ _
 refine wpAny_bind ?_
 unfold Builtin.SmallTypes.ownedTupleHandOut
 have z6:IsZip (g5.push {cls:=.type "tuple",data:=.seq #[x,y]}) z TI TO .ellipsis:=Heap.get?_push_of_some _ z5
 refine wpAny_bind (wpAny_setField_rec z6 (by simp) fun g7 z7 e7=>?_)
 have z7:IsZip g7 z TI TO (rawInt g5.objs.size):=z7
 refine wpAny_setField_rec z7 (by simp) fun g8 z8 e8=>?_
 have z8:IsZip g8 z TI TO (rawInt g5.objs.size):=z8
 have up:∀ c o,c≠z->g5.get? c=some o->g8.get? c=some o:=fun c o n e=>aw e8 n (aw e7 n (Heap.get?_push_of_some _ e))
 have nw:IsPair g8 g5.objs.size x y:=aw e8 (Nat.ne_of_gt zlt) (aw e7 (Nat.ne_of_gt zlt) (Heap.get?_push_size _ rfl))
 rw [sz] at z8 nw
 refine wpAny_pure ⟨_,rfl,?_⟩
 show Q (.ref g5.objs.size) _
 rw [sz]
 exact q g8 z8 (up _ _ D.a2 O5) (N1.keep _ _ _ u1 (fun o=>up _ o D.a3) fun o=>up _ o D.b2) (N2.keep _ _ _ u2 (fun o=>up _ o D.a4) fun o=>up _ o D.b5) nw fun c o n1 n2 n3 n4 e=>
  up c o n1 (aw e5 n2 (aw e4 n4 (aw e3 n2 (aw e2 n3 (aw e1 n1 e)))))
theorem A8 (hh:A.handled=none) (D:ZA z TI TO i1 i2 l1 l2) (N1:Nx P w i1 l1 st1 xs) (N2:Nx P w i2 l2 st2 ys) {Q:PySem.Fin->Shared->Prop} (hz:IsZip s.heap z TI TO .none) (hI:IsPair s.heap TI (.ref i1) (.ref i2)) (hO:IsPair s.heap TO a b)
  (s1:st1 k s.heap) (s2:st2 k s.heap) (hend:xs[k]?=none\/ys[k]?=none)
  (q:∀ h' e,(∀ c o,c≠z->c≠TO->c≠i1->c≠i2->s.heap.get? c=some o->h'.get? c=some o)->(∃ o,h'.get? e=some o/\o.cls=.type "StopIteration")->E (.ref e) {s with heap:=h'}) :
  wpAny (model P w) A (Builtin.«zip.__next__» ⟨[.ref z],[]⟩) Q E s:=by
 show wpAny _ _ (field (Value.ref z) 2 >>= _) _ _ _
 refine wpAny_bind (wpAny_field (x:=Value.bool false) hz rfl rfl ?_)
 show wpAny _ _ (field (Value.ref z) 3 >>= _) _ _ _
 refine wpAny_bind (wpAny_field (x:=Value.ref TI) hz rfl rfl ?_)
 refine wpAny_bind (wpAny_seqItems hI rfl ?_)
 show wpAny _ _ (Builtin.SmallTypes.ownedTupleIsFree (Value.ref z) >>= _) _ _ _
 refine wpAny_bind ?_
 unfold Builtin.SmallTypes.ownedTupleIsFree
 refine wpAny_bind (wpAny_field (x:=Value.none) hz rfl rfl (wpAny_pure ?_))
 simp only [if_true]
 refine wpAny_bind (wpAny_rule (wpAny_bind (wpAny_field (x:=Value.ref TO) hz rfl rfl ?_)))
 refine wpAny_bind (wpAny_setField_rec hz (by simp) fun g1 z1 e1=>?_)
 have z1:IsZip g1 z TI TO .ellipsis:=z1
 refine wpAny_bind ?_
 simp only [List.zipIdx_nil,List.zipIdx_cons,List.forIn_nil,List.forIn_cons]
 refine wpAny_bind (wpAny_bind (wpAny_onRaise ?_))
 show wpAny _ _ (Builtin.SmallTypes.nextOf (Value.ref i1) >>= _) _ _ _
 have t1:st1 k g1:=N1.keep _ _ _ s1 (fun o=>aw e1 D.a3) fun o=>aw e1 D.b2
 cases hx:xs[k]? with
 | none=>
  refine wpAny_bind (N1.done _ k _ _ _ hh t1 hx fun g2 e e2 ⟨oe,he,ce⟩=>?_)
  have z2:IsZip g2 z TI TO .ellipsis:=e2 _ _ D.a3.symm z1
  have ne:e≠z:=fun r=>by
   rw [r,z2] at he
   cases he
   exact absurd (show Value.type "zip" = Value.type "StopIteration" from ce) (by decide)
  exact wpAny_setField_rec z2 (by simp) fun g3 _ e3=>q g3 e (fun c o n1 _ n3 _ r=>aw e3 n1 (e2 _ _ n3 (aw e1 n1 r))) ⟨oe,aw e3 ne he,ce⟩
 | some x=>
  have hy:ys[k]?=none:=by
   rcases hend with r | r
   ·rw [hx] at r;cases r
   ·exact r
  refine wpAny_bind (N1.item _ k _ x _ _ t1 hx fun g2 t1 e2=>wpAny_pure ?_)
  have O2:IsPair g2 TO a b:=aw e2 D.a8 (aw e1 D.a2 hO)
  refine wpAny_bind (wpAny_seqItems O2 rfl (wpAny_bind (wpAny_updateSeq_pair O2 fun g3 O3 e3=>?_)))
  refine wpAny_bind (wpAny_letGo (wpAny_pure (wpAny_bind (wpAny_bind (wpAny_onRaise ?_)))))
  show wpAny _ _ (Builtin.SmallTypes.nextOf (Value.ref i2) >>= _) _ _ _
  refine wpAny_bind (N2.done _ k _ _ _ hh (N2.keep _ _ _ s2 (fun o e=>aw e3 D.a9.symm (aw e2 D.b1.symm (aw e1 D.a4 e))) fun o e=>aw e3 D.b6 (aw e2 D.b7 (aw e1 D.b5 e))) hy fun g4 e e4 ⟨oe,he,ce⟩=>?_)
  have z4:IsZip g4 z TI TO .ellipsis:=e4 _ _ D.a4.symm (aw e3 D.a2.symm (aw e2 D.a3.symm z1))
  have ne:e≠z:=fun r=>by
   rw [r,z4] at he
   cases he
   exact absurd (show Value.type "zip" = Value.type "StopIteration" from ce) (by decide)
  exact wpAny_setField_rec z4 (by simp) fun g5 _ e5=>q g5 e (fun c o n1 n2 n3 n4 r=>aw e5 n1 (e4 _ _ n4 (aw e3 n2 (aw e2 n3 (aw e1 n1 r))))) ⟨oe,aw e5 ne he,ce⟩
end
end L2
namespace L2
open PySem PySem.Spec PyProof.Rows
section
variable {P:Program} {w:World} {A:Around} {E:Value->Shared->Prop} {s:Shared}
structure FT (h h':Heap) (l1 l2:Addr):Prop where
 z:IsZip h' (h.objs.size+4) (h.objs.size+2) (h.objs.size+3) .none
 ti:IsPair h' (h.objs.size+2) (.ref h.objs.size) (.ref (h.objs.size+1))
 to:IsPair h' (h.objs.size+3) .none .none
 i1:h'.IsTupleIter h.objs.size l1 0
 i2:h'.IsTupleIter (h.objs.size+1) l2 0
 sz:h'.objs.size=h.objs.size+5
 keep:∀ c o,h.get? c=some o->h'.get? c=some o
abbrev iY (h:Heap) (u:Addr):Heap:=h.push {cls:=.type "tuple_iterator",data:=.fields #[.ref u,.int 0 0]}
abbrev CK (h:Heap) (a b:Addr):Heap:=h.push {cls:=.type "tuple",data:=.seq #[.ref a,.ref b]}
abbrev FU (h:Heap):Heap:=h.push {cls:=.type "tuple",data:=.seq #[.none,.none]}
abbrev JD (h:Heap) (a b:Addr):Heap:=h.push {cls:=.type "zip",data:=.fields #[.none,.bool false,.bool false,.ref a,.ref b]}
abbrev uT (h:Heap) (l1 l2:Addr):Heap:=JD (FU (CK (iY (iY h l1) l2) h.objs.size (iY h l1).objs.size)) (iY (iY h l1) l2).objs.size (CK (iY (iY h l1) l2) h.objs.size (iY h l1).objs.size).objs.size
theorem yJ (h:Heap) (l1 l2:Addr):FT h (uT h l1 l2) l1 l2:=by
 have e1:(iY h l1).objs.size=h.objs.size+1:=Heap.size_push ..
 have e2:(iY (iY h l1) l2).objs.size=h.objs.size+2:=by rw [Heap.size_push,e1]
 have e3:(CK (iY (iY h l1) l2) h.objs.size (iY h l1).objs.size).objs.size=h.objs.size+3:=by rw [Heap.size_push,e2]
 have e4:(FU (CK (iY (iY h l1) l2) h.objs.size (iY h l1).objs.size)).objs.size=h.objs.size+4:=by rw [Heap.size_push,e3]
 have p5:(uT h l1 l2).get? (FU (CK (iY (iY h l1) l2) h.objs.size (iY h l1).objs.size)).objs.size=some _:=Heap.get?_push_size _ rfl
 have p4:(uT h l1 l2).get? (CK (iY (iY h l1) l2) h.objs.size (iY h l1).objs.size).objs.size=some _:=Heap.get?_push_of_some _ (Heap.get?_push_size _ rfl)
 have p3:(uT h l1 l2).get? (iY (iY h l1) l2).objs.size=some _:=Heap.get?_push_of_some _ (Heap.get?_push_of_some _ (Heap.get?_push_size _ rfl))
 have p2:(uT h l1 l2).get? (iY h l1).objs.size=some _:=Heap.get?_push_of_some _ (Heap.get?_push_of_some _ (Heap.get?_push_of_some _ (Heap.get?_push_size _ rfl)))
 have p1:(uT h l1 l2).get? h.objs.size=some _:=Heap.get?_push_of_some _ (Heap.get?_push_of_some _ (Heap.get?_push_of_some _ (Heap.get?_push_of_some _ (Heap.get?_push_size _ rfl))))
 rw [e2,e3,e4] at p5
 rw [e3] at p4
 rw [e2,e1] at p3
 rw [e1] at p2
 exact ⟨p5,p3,p4,⟨_,p1,rfl,rfl⟩,⟨_,p2,rfl,rfl⟩,by rw [Heap.size_push,e4],fun c o e=>Heap.get?_push_of_some _ (Heap.get?_push_of_some _ (Heap.get?_push_of_some _ (Heap.get?_push_of_some _ (Heap.get?_push_of_some _ e))))⟩
theorem sU (l1 l2:Addr) (xs ys:Array Value) :
  Meets (Builtin.«zip.__new__» ⟨[.type "zip",.ref l1,.ref l2],[]⟩) (fun _ R s=>s.heap.IsTuple l1 xs/\s.heap.IsTuple l2 ys/\R (.ok (.ret (.ref (FU (CK (iY (iY s.heap l1) l2) s.heap.objs.size (iY s.heap l1).objs.size)).objs.size))) {s with heap:=uT s.heap l1 l2}):=
 .of_wp fun prog w A R s h=>by
  obtain ⟨hp,g,d,tk,os⟩:=s
  obtain ⟨t1,t2,h⟩:=h
  have hsub:=sub_zip
  have T1:Heap.IsTuple (Shared.heap ⟨hp,g,d,tk,os⟩) l1 xs:=t1
  have T2:Heap.IsTuple (Shared.heap ⟨hp.push {cls:=.type "tuple_iterator",data:=.fields #[.ref l1,.int 0 0]},g,d,tk,os⟩) l2 ys:=Heap.IsTuple.push t2 _
  wp_walk using wpAny_pyIter_tuple T1,wpAny_pyIter_tuple T2
  exact ⟨_,rfl,h⟩
theorem qR {l1 l2:Addr} {xs ys:Array Value} {Q:Value->Shared->Prop} (t1:s.heap.IsTuple l1 xs) (t2:s.heap.IsTuple l2 ys) (q:∀ h',FT s.heap h' l1 l2->Q (.ref (s.heap.objs.size+4)) {s with heap:=h'}) :
  wpAny (model P w) A (call (.type "zip") [.ref l1,.ref l2]) Q E s:=by
 refine callType_new F.called_zip (by decide) (F.typeCall_zip_2 _ _) (F.newCall_zip_2 _ _) (fun obj=>F.args_object_init_3 obj _ _) F.entry_zip_new (sU l1 l2 xs ys) ⟨t1,t2,?_⟩
 have n:=yJ s.heap l1 l2
 have e4:(FU (CK (iY (iY s.heap l1) l2) s.heap.objs.size (iY s.heap l1).objs.size)).objs.size=s.heap.objs.size+4:=by
  have:=n.sz
  rw [Heap.size_push] at this
  omega
 show _/\_
 rw [e4]
 exact ⟨⟨_,n.z,rfl⟩,q _ n⟩
theorem pA {z TI TO i1 i2 l1 l2:Addr} {k:Nat} {xs ys:List Value} {x y a b:Value} {Q:Option Value->Shared->Prop} (D:ZA z TI TO i1 i2 l1 l2) (hz:IsZip s.heap z TI TO .none) (hI:IsPair s.heap TI (.ref i1) (.ref i2)) (hO:IsPair s.heap TO a b)
  (t1:s.heap.IsTupleIter i1 l1 k) (t2:s.heap.IsTupleIter i2 l2 k) (h1:s.heap.IsTuple l1 xs.toArray) (h2:s.heap.IsTuple l2 ys.toArray) (hx:xs[k]?=some x) (hy:ys[k]?=some y)
  (q:∀ h',IsZip h' z TI TO (rawInt s.heap.objs.size)->IsPair h' TO x y->h'.IsTupleIter i1 l1 (k+1)->h'.IsTupleIter i2 l2 (k+1)->IsPair h' s.heap.objs.size x y ->
   (∀ c o,c≠z->c≠TO->c≠i1->c≠i2->s.heap.get? c=some o->h'.get? c=some o)->Q (some (.ref s.heap.objs.size)) {s with heap:=h'}):wpAny (model P w) A (pyNext (.ref z)) Q E s:=by
 have hT:s.TypeIs (.ref z) "zip" := ⟨_,hz,rfl⟩
 unfold pyNext
 refine wpAny_bind (wpAny_attempt (wpAny_callSpecial?_slot (name:=Str.ofString "__next__") hT F.slot_zip_next (wpAny_call_entry F.slot_zip_next hT F.entry_zip_next ?_ (F.args_zip_next_1 _))))
 exact yI D (qQ i1 l1 xs) (qQ i2 l2 ys) hz hI hO ⟨t1,h1⟩ ⟨t2,h2⟩ hx hy fun h' a1 a2 a3 a4 a5 a6=>wpAny_pure (q h' a1 a2 a3.1 a4.1 a5 a6)
theorem qS {z TI TO i1 i2 l1 l2:Addr} {k:Nat} {xs ys:List Value} {a b:Value} {Q:Option Value->Shared->Prop} (hh:A.handled=none) (D:ZA z TI TO i1 i2 l1 l2) (hz:IsZip s.heap z TI TO .none) (hI:IsPair s.heap TI (.ref i1) (.ref i2)) (hO:IsPair s.heap TO a b)
  (t1:s.heap.IsTupleIter i1 l1 k) (t2:s.heap.IsTupleIter i2 l2 k) (h1:s.heap.IsTuple l1 xs.toArray) (h2:s.heap.IsTuple l2 ys.toArray) (hend:xs[k]?=none\/ys[k]?=none)
  (q:∀ h',(∀ c o,c≠z->c≠TO->c≠i1->c≠i2->s.heap.get? c=some o->h'.get? c=some o)->Q none {s with heap:=h'}):wpAny (model P w) A (pyNext (.ref z)) Q E s:=by
 have hT:s.TypeIs (.ref z) "zip" := ⟨_,hz,rfl⟩
 unfold pyNext
 refine wpAny_bind (wpAny_attempt (wpAny_callSpecial?_slot (name:=Str.ofString "__next__") hT F.slot_zip_next (wpAny_call_entry F.slot_zip_next hT F.entry_zip_next ?_ (F.args_zip_next_1 _))))
 refine A8 (A:=A.in1) hh D (qQ i1 l1 xs) (qQ i2 l2 ys) hz hI hO ⟨t1,h1⟩ ⟨t2,h2⟩ hend fun h' e hk ⟨o,ho,hc⟩=>?_
 exact wpAny_bind (wpAny_isInstance (T := "StopIteration") (b:=true) ⟨o,ho,hc⟩ isSubtype_stop (wpAny_pure (q _ hk)))
end
def Ja (K:PySem.W.Frag) (a1 a2:Addr):It:=
 ⟨fun i H=>∃ xs ys x y,eR K H a1 xs/\eR K H a2 ys/\xs[i]?=some x/\ys[i]?=some y,
  fun i H v H'=>∃ p x y,v=.ref p/\H p=none/\H'=upd H p (.tup [x,y])/\(∀ xs,eR K H a1 xs->xs[i]?=some x)/\∀ ys,eR K H a2 ys->ys[i]?=some y,
  fun i H=>∃ xs ys,eR K H a1 xs/\eR K H a2 ys/\(xs.length<=i\/ys.length<=i)⟩
theorem yK {P:Program} {w:World} {K:PySem.W.Frag} {es:List Expr} {kk:_} {tpos:Pos} (a1 a2 z TI TO i1 i2:Addr) (D:ZA z TI TO i1 i2 a1 a2):Turn P w K (.Tuple es kk tpos) (Ja K a1 a2) [z,TI,TO,i1,i2] z
  (fun k h=>IsZip h z TI TO .none/\IsPair h TI (.ref i1) (.ref i2)/\(∃ a b,IsPair h TO a b)/\h.IsTupleIter i1 a1 k/\h.IsTupleIter i2 a2 k) where
 mem:=List.mem_cons_self
 obj:=fun k h st b hb=>by
  obtain ⟨hz,hI,⟨a,c,hO⟩,⟨o1,e1,_,d1⟩,⟨o2,e2,_,d2⟩⟩:=st
  simp only [List.mem_cons,List.not_mem_nil,or_false] at hb
  rcases hb with rfl | rfl | rfl | rfl | rfl
  ·exact ⟨_,hz,fun v r=>by cases r⟩
  ·exact ⟨_,hI,fun v r=>by cases r⟩
  ·exact ⟨_,hO,fun v r=>by cases r⟩
  ·exact ⟨_,e1,fun v r=>by rw [d1] at r;cases r⟩
  ·exact ⟨_,e2,fun v r=>by rw [d2] at r;cases r⟩
 keep:=fun k h h' st kp=>by
  obtain ⟨hz,hI,⟨a,c,hO⟩,t1,t2⟩:=st
  exact ⟨kp z (by simp) _ hz,kp TI (by simp) _ hI,⟨a,c,kp TO (by simp) _ hO⟩,t1.at (kp i1 (by simp)),t2.at (kp i2 (by simp))⟩
 item:=by
  intro X hP hw hK hc i pins s σ H E I hf st hg
  subst hP hw hK
  obtain ⟨xs,ys,x,y,q1,q2,hx,hy⟩:=hg
  obtain ⟨its1,r1,p1,_⟩:=I.tuple q1
  obtain ⟨its2,r2,p2,_⟩:=I.tuple q2
  obtain ⟨u1,hu1,ru1⟩:=r1.get hx
  obtain ⟨u2,hu2,ru2⟩:=r2.get hy
  obtain ⟨hz,hI,⟨a,c,hO⟩,t1,t2⟩:=st
  refine pA D hz hI hO t1 t2 (show s.heap.IsTuple a1 its1.toArray from p1) (show s.heap.IsTuple a2 its2.toArray from p2) hu1 hu2 fun h' z' o' t1' t2' nw kp=>?_
  refine ⟨_,rfl,wpAny_letOwnedTupleGo_zip z' fun h2 z2 sb=>?_⟩
  have lt:∀ {b:Addr} {o:Obj},s.heap.get? b=some o->b≠s.heap.objs.size:=fun e=>Nat.ne_of_lt (Heap.lt_size e)
  have nz:s.heap.objs.size≠z:=(lt hz).symm
  have hf0:H s.heap.objs.size=none:=I.hok.fresh (Nat.le_refl _)
  have hI2:IsPair h2 TI (.ref i1) (.ref i2):=aw sb D.a1 (kp _ _ D.a1 D.a5 D.a6 D.a7 hI)
  have kall:∀ b o,b∉[z,TI,TO,i1,i2]->s.heap.get? b=some o->h2.get? b=some o:=fun b o hb e=>by
   simp only [List.mem_cons,List.not_mem_nil,or_false,not_or] at hb
   exact aw sb hb.1 (kp b o hb.1 hb.2.2.1 hb.2.2.2.1 hb.2.2.2.2 e)
  have xl:∀ {b:Addr} {u:HO},H b=some u->b∉[z,TI,TO,i1,i2]:=fun {b u} e hb=>by
   rw [(hf b hb).1] at e;cases e
  have there:∀ b o,s.heap.get? b=some o->∃ o',h2.get? b=some o':=fun b o e=>by
   by_cases hb:b∈[z,TI,TO,i1,i2]
   ·simp only [List.mem_cons,List.not_mem_nil,or_false] at hb
    rcases hb with rfl | rfl | rfl | rfl | rfl
    ·exact ⟨_,z2⟩
    ·exact ⟨_,hI2⟩
    ·exact ⟨_,aw sb D.a2 o'⟩
    ·obtain ⟨_,e1,_⟩:=t1'
     exact ⟨_,aw sb D.a3 e1⟩
    ·obtain ⟨_,e1,_⟩:=t2'
     exact ⟨_,aw sb D.a4 e1⟩
   ·exact ⟨o,kall b o hb e⟩
  have hokN:iD X.prog X.w (upd H s.heap.objs.size (.tup [x,y])) h2:=fun b u e=>by
   by_cases hb:b=s.heap.objs.size
   ·subst hb
    rw [aW] at e
    cases e
    exact ⟨by show 2<=sizeLine;decide,[u1,u2],.cons ru1 (.cons ru2 .nil),⟨_,aw sb nz nw,rfl,_,rfl⟩⟩
   ·rw [aA hb] at e
    refine (I.hok b u e).qH (fun d v hd r=>kall d v ?_ r) (fun d r=>by rw [aA (aG r hf0)];exact r) fun d vs r=>by rw [aA (aG r hf0)];exact r
    rcases hd with rfl | hd
    ·exact xl e
    ·exact xl hd
  have I2:Inv X pins σ (upd H s.heap.objs.size (.tup [x,y])) {s with heap:=h2}:=by
   refine I.step (g':=s.gens) (d':=s.drawn) (t':=s.toks) (ch:=[z,TI,TO,i1,i2]) (fun b hb=>⟨(hf b hb).2.2.2.1,(hf b hb).2.1,(hf b hb).2.2.2.2.1,(hf b hb).2.2.2.2.2⟩) (fun b o _ _ hb e _=>kall b o hb e) (fun b o _ _ hb e _=>⟨o.slots,kall b o hb e⟩)
    (fun b o _ e n=>by rw [aA (lt e)];exact n) (fun b o _ e=>there b o e) (fun b vs e=>by rw [aA (aG e hf0)];exact e) (fun b o v e=>by rw [aA (aG e hf0)];exact e) (fun b ps e=>⟨#[],by rw [aA (aG e hf0),e];simp⟩) (fun m hm=>?_) hokN I.bare
   obtain ⟨o,es',ep,e,r⟩:=hm
   exact ⟨o,es',ep,kall _ o (fun hb=>(hf _ hb).2.1 rfl) e,r⟩
  refine ⟨.ref s.heap.objs.size,_,I2,rfl,⟨_,x,y,rfl,hf0,rfl,fun vs h=>by rw [I.kz h q1];exact hx,fun vs h=>by rw [I.kz h q2];exact hy⟩,⟨z2,hI2,⟨_,_,aw sb D.a2 o'⟩,t1'.at fun o e=>aw sb D.a3 e,t2'.at fun o e=>aw sb D.a4 e⟩,fun b hb=>?_⟩
  have hb':=(hf b hb).1
  by_cases e:b=s.heap.objs.size
  ·exfalso
   simp only [List.mem_cons,List.not_mem_nil,or_false] at hb
   rcases hb with r | r | r | r | r
   ·exact lt hz (r▸e)
   ·exact lt hI (r▸e)
   ·exact lt hO (r▸e)
   ·obtain ⟨_,e1,_⟩:=t1;exact lt e1 (r▸e)
   ·obtain ⟨_,e1,_⟩:=t2;exact lt e1 (r▸e)
  ·rw [aA e];exact hb'
 done:=by
  intro X hP hw hK hc i pins s σ H E I hf st hg
  subst hP hw hK
  obtain ⟨xs,ys,q1,q2,hl⟩:=hg
  obtain ⟨its1,r1,p1,_⟩:=I.tuple q1
  obtain ⟨its2,r2,p2,_⟩:=I.tuple q2
  obtain ⟨hz,hI,⟨a,c,hO⟩,t1,t2⟩:=st
  refine qS (I.ok.hd hc) D hz hI hO t1 t2 (show s.heap.IsTuple a1 its1.toArray from p1) (show s.heap.IsTuple a2 its2.toArray from p2) ?_ fun h' kp=>⟨rfl,?_⟩
  ·have e1:=r1.length
   have e2:=r2.length
   rcases hl with r | r
   ·exact .inl (List.getElem?_eq_none_iff.mpr (by omega))
   ·exact .inr (List.getElem?_eq_none_iff.mpr (by omega))
  ·have kall:∀ b o,b∉[z,TI,TO,i1,i2]->s.heap.get? b=some o->h'.get? b=some o:=fun b o hb e=>by
    simp only [List.mem_cons,List.not_mem_nil,or_false,not_or] at hb
    exact kp b o hb.1 hb.2.2.1 hb.2.2.2.1 hb.2.2.2.2 e
   have xl:∀ {b:Addr} {u:HO},H b=some u->b∉[z,TI,TO,i1,i2]:=fun {b u} e hb=>by
    rw [(hf b hb).1] at e;cases e
   refine I.step (g':=s.gens) (d':=s.drawn) (t':=s.toks) (ch:=[z,TI,TO,i1,i2]) (fun b hb=>⟨(hf b hb).2.2.2.1,(hf b hb).2.1,(hf b hb).2.2.2.2.1,(hf b hb).2.2.2.2.2⟩) (fun b o _ _ hb e _=>kall b o hb e) (fun b o _ _ hb e _=>⟨o.slots,kall b o hb e⟩)
    (fun b o _ e n=>n) (fun b o hb e=>⟨o,kall b o hb e⟩) (fun b vs e=>e) (fun b o v e=>e) (fun b ps e=>⟨#[],by rw [e];simp⟩) (fun m hm=>?_) (fun b u e=>(I.hok b u e).qH (fun d v hd r=>kall d v ?_ r) (fun _ r=>r) fun _ _ r=>r) I.bare
   ·obtain ⟨o,es',ep,e,r⟩:=hm
    exact ⟨o,es',ep,kall _ o (fun hb=>(hf _ hb).2.1 rfl) e,r⟩
   ·rcases hd with rfl | hd
    ·exact xl e
    ·exact xl hd
 self:=fun _ _ _ _ _ st h=>wpAny_pyIter_zip st.1 h
section
variable {X:Cx} {es:List Expr} {kk:Nat} {tpos:Pos}
theorem HQ (a b:Nat) (h:a≠b):@Ne Addr a b:=h
theorem FV (n a b:Nat) (h1:a < n) (h2:b < n):ZA (n+4) (n+2) (n+3) n (n+1) a b:=by
 constructor<;>refine HQ _ _ ?_<;>omega
def HR (K:PySem.W.Frag) (ta:TA):TI:=fun σ H R=>ta σ H fun vs H1=>∃ a1 a2 xs ys,vs=[.ref a1,.ref a2]/\eR K H1 a1 xs/\eR K H1 a2 ys/\R (Ja K a1 a2) H1
theorem D7 {e1 e2:Expr} {ta:TA} {p pos:Pos} (hg:Gl X "zip") (hm:X.mg "zip" = none) (ha:PA X [e1,e2] ta) (hs:starEach [e1,e2] X.env=[(false,eval e1 X.env),(false,eval e2 X.env)]:=by rfl) (hs2:starEach [e2] X.env=[(false,eval e2 X.env)]:=by rfl) :
  PI X (.Tuple es kk tpos) (.Call (.Name "zip" p) [e1,e2] [] pos) (HR X.K ta):=by
 intro pins s σ H R I h
 refine Call_ (gw I hg hm (by decide +kernel:bootBuiltins "zip" = some (.type "zip")) (PyProof.Rows.callWith_type1 (cf (ha pos pins s σ H _ I h) fun us s1 ⟨vs,H1,I1,r1,q1⟩=>?_) (by rw [hs,hs2]) (by rw [hs2];rfl)))
 obtain ⟨a1,a2,xs,ys,e,t1,t2,q⟩:=q1
 subst e
 cases r1 with
 | cons r rr=>
  cases rr with
  | cons r' rr=>
   cases rr
   cases r
   cases r'
   obtain ⟨its1,v1,p1,_⟩:=I1.tuple t1
   obtain ⟨its2,v2,p2,_⟩:=I1.tuple t2
   have L1:a1 < s1.heap.objs.size:=by obtain ⟨_,e,_⟩:=p1;exact Heap.lt_size e
   have L2:a2 < s1.heap.objs.size:=by obtain ⟨_,e,_⟩:=p2;exact Heap.lt_size e
   refine qR (show s1.heap.IsTuple a1 its1.toArray from p1) (show s1.heap.IsTuple a2 its2.toArray from p2) fun h' N=>?_
   refine wpAny_pyIter_zip (s:={s1 with heap:=h'}) N.z ?_
   have I2:Inv X pins σ H1 {s1 with heap:=h'}:=I1.kept (t':=s1.toks) N.keep
   refine ⟨s1.heap.objs.size+4,[s1.heap.objs.size+4,s1.heap.objs.size+2,s1.heap.objs.size+3,s1.heap.objs.size,s1.heap.objs.size+1],_,_,H1,rfl,I2,yK a1 a2 _ _ _ _ _ (FV _ _ _ L1 L2),⟨N.z,N.ti,⟨_,_,N.to⟩,N.i1,N.i2⟩,fun b hb=>?_,q⟩
   have ge:s1.heap.objs.size<=b:=by
    simp only [List.mem_cons,List.not_mem_nil,or_false] at hb
    rcases hb with rfl | rfl | rfl | rfl | rfl
    ·exact Nat.le_add_right _ _
    ·exact Nat.le_add_right _ _
    ·exact Nat.le_add_right _ _
    ·exact Nat.le_refl _
    ·exact Nat.le_add_right _ _
   exact I1.xn ge (I1.hok.fresh ge)
end
end L2
namespace L2
open PySem PySem.Spec PyProof.Rows
section
variable {κ:Type} [DecidableEq κ]
def mi (kvs:List (κ×V)) (k:κ):Option V:=(kvs.find? fun kv=>decide (kv.1=k)).map (·.2)
def putK (kvs:List (κ×V)) (k:κ) (v:V):List (κ×V):=
 if (kvs.any fun kv=>decide (kv.1=k))=true then kvs.map (fun kv=>if kv.1=k then (kv.1,v) else kv) else kvs++[(k,v)]
theorem jN {p:κ×V} {r:List (κ×V)} {k:κ} (e:p.1=k):mi (p::r) k=some p.2:=by simp [mi,List.find?_cons,e]
theorem jO {p:κ×V} {r:List (κ×V)} {k:κ} (e:¬ p.1=k):mi (p::r) k=mi r k:=by simp [mi,List.find?_cons,e]
theorem jP (k:κ):∀ kvs:List (κ×V),(kvs.any fun kv=>decide (kv.1=k))=(mi kvs k).isSome
 | []=>rfl
 | p::r=>by
  rw [List.any_cons]
  by_cases e:p.1=k
  ·simp only [jN e,decide_eq_true e,Bool.true_or,Option.isSome_some]
  ·rw [jO e,decide_eq_false e,Bool.false_or];exact jP k r
theorem g6 (kvs:List (κ×V)) (k:κ) (v:V):(putK kvs k v).length<=kvs.length+1:=by
 unfold putK
 split
 ·rw [List.length_map];omega
 ·rw [List.length_append,List.length_cons,List.length_nil];omega
theorem mU.gh {o:Option V} {u:Option Value} (r:mU o u):o.isSome=u.isSome:=by
 cases o with
 | none=>cases u with
  | none=>rfl
  | some _=>exact (show False from r).elim
 | some _=>cases u with
  | none=>exact (show False from r).elim
  | some _=>rfl
theorem KV.val {kvs:List (κ×V)} {vs:List (κ×Value)} (r:KV kvs vs) (k:κ):mU (mi kvs k) (valueAt vs k):=by
 unfold KV at r
 induction r with
 | nil=>exact True.intro
 | @cons p q ps qs h t ih=>
  obtain ⟨h1,h2⟩:=h
  by_cases e:p.1=k
  ·have e':q.1=k:=h1.symm.trans e
   have b:valueAt (q::qs) k=some q.2:=by simp [valueAt,List.find?_cons,e']
   rw [jN e,b];exact h2
  ·have e':¬ q.1=k:=fun z=>e (h1.trans z)
   have b:valueAt (q::qs) k=valueAt qs k:=by simp [valueAt,List.find?_cons,e']
   rw [jO e,b];exact ih
theorem KV.any {kvs:List (κ×V)} {vs:List (κ×Value)} (r:KV kvs vs) (k:κ):(kvs.any fun kv=>decide (kv.1=k))=vs.any fun kv=>decide (kv.1=k):=by
 unfold KV at r
 induction r with
 | nil=>rfl
 | cons h t ih=>rw [List.any_cons,List.any_cons,ih,h.1]
theorem KV.D8 {kvs:List (κ×V)} {vs:List (κ×Value)} (r:KV kvs vs) (k:κ) {y:V} {u:Value} (ry:RelV y u) :
  KV (kvs.map fun kv=>if kv.1=k then (kv.1,y) else kv) (vs.map fun kv=>if kv.1=k then (kv.1,u) else kv):=by
 unfold KV at r ⊢
 induction r with
 | nil=>exact .nil
 | @cons p q ps qs h t ih=>
  rw [List.map_cons,List.map_cons]
  refine .cons ?_ ih
  obtain ⟨h1,h2⟩:=h
  by_cases e:p.1=k
  ·rw [if_pos e,if_pos (h1.symm.trans e)];exact ⟨h1,ry⟩
  ·rw [if_neg e,if_neg (fun z=>e (h1.trans z))];exact ⟨h1,h2⟩
theorem KV.put {kvs:List (κ×V)} {vs:List (κ×Value)} (r:KV kvs vs) (k:κ) {y:V} {u:Value} (ry:RelV y u):KV (putK kvs k y) (stored vs k u):=by
 unfold putK stored
 rw [r.any k]
 by_cases e:(vs.any fun kv=>decide (kv.1=k))=true
 ·rw [if_pos e,if_pos e];exact r.D8 k ry
 ·rw [if_neg e,if_neg e];exact Paired.snoc r ⟨rfl,ry⟩
theorem KV.length {kvs:List (κ×V)} {vs:List (κ×Value)} (r:KV kvs vs):kvs.length=vs.length:=Paired.length r
end
theorem pT {P:Program} {w:World} {k:Key} {u:Value} (r:RelV (kV k) u):(bU P w).is k u=true:=by
 cases k with
 | inl i=>obtain ⟨t,e⟩:=(show ∃ t,u=Value.int i t from r);subst e;exact sL P w i t
 | inr x=>obtain ⟨t,e⟩:=(show ∃ t,u=Value.str x t from r);subst e;exact sM P w x t
theorem pU {P:Program} {w:World}:∀ {ks:List Key} {us:List Value},Vals (ks.map kV) us->ItemsAre (bU P w) ks us
 | [],_,r=>by rw [List.map_nil] at r;cases r;exact .nil
 | k::ks,_,r=>by
  rw [List.map_cons] at r
  cases r with
  | cons h t=>exact .cons (pT h) (pU t)
abbrev KT (H:Hp):List (List Key×V)->List (List Key×Addr×Value)->Prop:=Paired fun p q=>p.1=q.1/\H q.2.1=some (.tup (p.1.map kV))/\RelV p.2 q.2.2
theorem KT.val {H:Hp} {kvs:List (List Key×V)} {xs:List (List Key×Addr×Value)} (r:KT H kvs xs) (k:List Key):mU (mi kvs k) ((atKey xs k).map (·.2)):=by
 induction r with
 | nil=>exact True.intro
 | @cons p q ps qs h t ih=>
  obtain ⟨h1,_,h2⟩:=h
  by_cases e:p.1=k
  ·have e':q.1=k:=h1.symm.trans e
   have b:atKey (q::qs) k=some q.2:=by simp [atKey,List.find?_cons,e']
   rw [jN e,b];exact h2
  ·have e':¬ q.1=k:=fun z=>e (h1.trans z)
   have b:atKey (q::qs) k=atKey qs k:=by simp [atKey,List.find?_cons,e']
   rw [jO e,b];exact ih
theorem KT.D8 {H:Hp} {kvs:List (List Key×V)} {xs:List (List Key×Addr×Value)} (r:KT H kvs xs) (k:List Key) {y:V} {u:Value} (ry:RelV y u) :
  KT H (kvs.map fun kv=>if kv.1=k then (kv.1,y) else kv) (xs.map (putAt k u)):=by
 induction r with
 | nil=>exact .nil
 | @cons p q ps qs h t ih=>
  rw [List.map_cons,List.map_cons]
  refine .cons ?_ ih
  obtain ⟨h1,h2,h3⟩:=h
  unfold putAt
  by_cases e:p.1=k
  ·rw [if_pos e,if_pos (h1.symm.trans e)];exact ⟨h1,h2,ry⟩
  ·rw [if_neg e,if_neg (fun z=>e (h1.trans z))];exact ⟨h1,h2,h3⟩
theorem KT.put {H:Hp} {kvs:List (List Key×V)} {xs:List (List Key×Addr×Value)} (r:KT H kvs xs) (k:List Key) {b:Addr} {y:V} {u:Value} (hb:H b=some (.tup (k.map kV))) (ry:RelV y u) :
  KT H (putK kvs k y) (storedH xs k b u):=by
 have e:(kvs.any fun kv=>decide (kv.1=k))=(atKey xs k).isSome:=by
  rw [jP,(r.val k).gh,Option.isSome_map]
 unfold putK storedH
 rw [e]
 by_cases q:(atKey xs k).isSome=true
 ·rw [if_pos q,if_pos q];exact r.D8 k ry
 ·rw [if_neg q,if_neg q];exact Paired.snoc r ⟨rfl,hb,ry⟩
theorem KT.keeps {H H':Hp} {kvs:List (List Key×V)} {xs:List (List Key×Addr×Value)} (r:KT H kvs xs) (ht:∀ b ys,H b=some (.tup ys)->H' b=some (.tup ys)):KT H' kvs xs:=
 Paired.jh r fun _ _ z=>⟨z.1,ht _ _ z.2.1,z.2.2⟩
section
variable {P:Program} {w:World} {H:Hp} {h:Heap} {a:Addr}
theorem CL {u:HO} (ok:iD P w H h) (e:Rd H a u):bY P w H h a u:=e.ok ok
theorem v8 {kvs:List (Key×V)} (ok:iD P w H h) (e:Rd H a (.dK kvs)):kvs.length<=sizeLine/\(a == sysModules)=false/\∃ vs,KV kvs vs/\h.DictOf (bU P w) a vs:=
 show bY P w H h a (.dK kvs) from CL ok e
theorem CM {kvs:List (Key×V)} (ok:iD P w H h) (e:H a=some (.dK kvs)):kvs.length<=sizeLine/\(a == sysModules)=false/\∃ vs,KV kvs vs/\h.DictOf (bU P w) a vs:=v8 ok (.inl e)
theorem nc {ks:List Key} (ok:iD P w H h) (e:H a=some (.tup (ks.map kV))):(tupleKind (bU P w)).is h ks a:=by
 obtain ⟨_,its,r,o,h1,h2,n,h3⟩:=(show bY P w H h a (.tup (ks.map kV)) from ok a _ e)
 exact ⟨o,its.toArray,n,h1,h2,h3,by simpa using pU r⟩
theorem v9 {kvs:List (List Key×V)} (ok:iD P w H h) (e:Rd H a (.dT kvs)):kvs.length<=sizeLine/\(a == sysModules)=false /\
  ∃ xs,KT H kvs xs/\h.DictOfH (tupleKind (bU P w)) a xs:=by
 obtain ⟨z,y,xs,r,o,es,ep,h1,h2,h3,h4,h5⟩:=(show bY P w H h a (.dT kvs) from CL ok e)
 refine ⟨z,y,xs,r,o,es,ep,h1,h2,h3,h4,fun x hx=>?_,h5⟩
 have all:∀ {l:List (List Key×V)} {m:List (List Key×Addr×Value)},KT H l m->∀ x∈m,(tupleKind (bU P w)).is h x.1 x.2.1:=by
  intro l m q
  induction q with
  | nil=>intro x hx;exact nomatch hx
  | @cons p q ps qs hq t ih=>
   intro x hx
   rcases List.mem_cons.mp hx with e | hx
   ·subst e
    exact nc ok (by rw [<- hq.1];exact hq.2.1)
   ·exact ih x hx
 exact all r x hx
theorem FW {kvs:List (List Key×V)} (ok:iD P w H h) (e:H a=some (.dT kvs)):kvs.length<=sizeLine/\(a == sysModules)=false /\
  ∃ xs,KT H kvs xs/\h.DictOfH (tupleKind (bU P w)) a xs:=v9 ok (.inl e)
end
def sV (H:Hp) (a:Addr) (y:V) (r:Option V):Prop:=
 (∃ kvs k,Rd H a (.dK kvs)/\y=kV k/\r=mi kvs k)\/∃ kvs k b,Rd H a (.dT kvs)/\y=.ref b/\H b=some (.tup (k.map kV))/\r=mi kvs k
def A9 (H:Hp) (a:Addr) (y v:V) (H':Hp):Prop:=
 (∃ kvs k,H a=some (.dK kvs)/\y=kV k/\kvs.length < sizeLine/\H'=upd H a (.dK (putK kvs k v))) \/
 ∃ kvs k b,H a=some (.dT kvs)/\y=.ref b/\H b=some (.tup (k.map kV))/\kvs.length < sizeLine/\H'=upd H a (.dT (putK kvs k v))
theorem sV.k {H:Hp} {a:Addr} {kvs:List (Key×V)} {k:Key} (e:H a=some (.dK kvs)):sV H a (kV k) (mi kvs k):=.inl ⟨kvs,k,.inl e,rfl,rfl⟩
theorem A9.k {H:Hp} {a:Addr} {kvs:List (Key×V)} {k:Key} {v:V} (e:H a=some (.dK kvs)) (hl:kvs.length < sizeLine):A9 H a (kV k) v (upd H a (.dK (putK kvs k v))):=.inl ⟨kvs,k,e,rfl,hl,rfl⟩
section
variable {X:Cx} {pins:List (Addr×Obj)} {σ:St} {H:Hp} {s:Shared} {a:Addr} {y v:V} {u r:Value} {o:Option V} {A:Around} {E:Value->Shared->Prop}
theorem Inv.big (I:Inv X pins σ H s):sysModules < s.heap.objs.size:=by
 have h:mainGlobals < s.heap.objs.size:=(I.mod.glob.keeps I.bk).lt
 exact Nat.lt_trans (by decide) h
theorem xF {Q:Value->Shared->Prop} (hu:A.units+1 < cLine) (I:Inv X pins σ H s) (g:sV H a y (some v)) (ry:RelV y u) (h:∀ w' s',Inv X pins σ H s'->RelV v w'->Q w' s') :
  wpAny (model X.prog X.w) A (getItem (.ref a) u) Q E s:=by
 rcases g with ⟨kvs,k,e,ey,l⟩ | ⟨kvs,k,b,e,ey,eb,l⟩
 ·subst ey
  obtain ⟨z,hd,vs,rel,dd⟩:=v8 I.hok e
  obtain ⟨w',hw,rw'⟩:=mU.some_of (v:=v) (o:=valueAt vs k) (by rw [l];exact rel.val k)
  exact wpAny_getItem_of (pT ry) dd.mapOf hw (h w' _ (I.tok _) rw')
 ·subst ey
  cases (show u=Value.ref b from ry)
  obtain ⟨z,hd,xs,rel,dd⟩:=v9 I.hok e
  obtain ⟨w',hw,rw'⟩:=mU.some_of (v:=v) (o:=(atKey xs k).map (·.2)) (by rw [l];exact rel.val k)
  obtain ⟨p,hp,hp2⟩:=Option.map_eq_some_iff.mp hw
  refine wpAny_getItem_heap (tupleKind_room_in1 hu) (nc I.hok eb) dd hp ?_
  rw [hp2]
  exact h w' _ (I.tok _) rw'
theorem HS {Q:Value->Shared->Prop} (hu:A.units+1 < cLine) (I:Inv X pins σ H s) (g:sV H a y o) (ry:RelV y u) (h:∀ s',Inv X pins σ H s'->Q (.bool o.isSome) s') :
  wpAny (model X.prog X.w) A (compareOp .In u (.ref a)) Q E s:=by
 rcases g with ⟨kvs,k,e,ey,l⟩ | ⟨kvs,k,b,e,ey,eb,l⟩
 ·subst ey
  obtain ⟨z,hd,vs,rel,dd⟩:=v8 I.hok e
  refine wpAny_in_of (pT ry) hd dd.mapOf ?_
  rw [<- (rel.val k).gh,<- l]
  exact h _ (I.tok _)
 ·subst ey
  cases (show u=Value.ref b from ry)
  obtain ⟨z,hd,xs,rel,dd⟩:=v9 I.hok e
  refine wpAny_in_heap (tupleKind_room_in1 hu) (nc I.hok eb) hd dd ?_
  have q:=(rel.val k).gh
  rw [Option.isSome_map] at q
  rw [<- q,<- l]
  exact h _ (I.tok _)
theorem Ba {Q:Value->Shared->Prop} (hu:A.units+1 < cLine) (I:Inv X pins σ H s) (g:sV H a y o) (ry:RelV y u) (h:∀ s',Inv X pins σ H s'->Q (.bool (!o.isSome)) s') :
  wpAny (model X.prog X.w) A (compareOp .NotIn u (.ref a)) Q E s:=by
 rcases g with ⟨kvs,k,e,ey,l⟩ | ⟨kvs,k,b,e,ey,eb,l⟩
 ·subst ey
  obtain ⟨z,hd,vs,rel,dd⟩:=v8 I.hok e
  refine wpAny_notIn_of (pT ry) hd dd.mapOf ?_
  rw [<- (rel.val k).gh,<- l]
  exact h _ (I.tok _)
 ·subst ey
  cases (show u=Value.ref b from ry)
  obtain ⟨z,hd,xs,rel,dd⟩:=v9 I.hok e
  refine wpAny_notIn_heap (tupleKind_room_in1 hu) (nc I.hok eb) hd dd ?_
  have q:=(rel.val k).gh
  rw [Option.isSome_map] at q
  rw [<- q,<- l]
  exact h _ (I.tok _)
theorem mC {h':Heap} {t':Nat} {ob:HO} (I:Inv X pins σ H s) (mu:E5 (H a)) (hs:Heap.SameBut a s.heap h') (he:∃ q,h'.get? a=some q) (new:bY X.prog X.w (upd H a ob) h' a ob) :
  Inv X pins σ (upd H a ob) {s with heap:=h',toks:=t'}:=
 I.write (x:=a) (e:=a) mu (.inl rfl) (fun b q hb z=>(hs.2 b hb).trans z) he new
theorem yL {P:Program} {w:World} {H':Hp} {h':Heap} {kvs:List (Key×V)} {vs:List (Key×Value)} (z:kvs.length<=sizeLine) (hd:(a == sysModules)=false) (rel:KV kvs vs) (dd:h'.DictOf (bU P w) a vs) :
  bY P w H' h' a (.dK kvs):=⟨z,hd,vs,rel,dd⟩
theorem xG {H':Hp} {Q:Unit->Shared->Prop} (hu:A.units+1 < cLine) (I:Inv X pins σ H s) (g:A9 H a y v H') (ry:RelV y u) (rv:RelV v r) (h:∀ s',Inv X pins σ H' s'->Q () s') :
  wpAny (model X.prog X.w) A (setItem (.ref a) u r) Q E s:=by
 rcases g with ⟨kvs,k,e,ey,l,eH⟩ | ⟨kvs,k,b,e,ey,eb,l,eH⟩
 ·subst ey eH
  obtain ⟨z,hd,vs,rel,dd⟩:=CM I.hok e
  have hz:vs.length<=sizeLine:=by rw [<- rel.length];exact z
  have hl:(putK kvs k v).length<=sizeLine:=by have:=g6 kvs k v;omega
  refine wpAny_setItem_pairs (hsz:=hz) (pT ry) dd fun h' dd' hs=>h _ ?_
  have he:∃ q,h'.get? a=some q:=let ⟨q,_,_,hq,_⟩:=dd';⟨q,hq⟩
  exact mC I (by rw [e];exact True.intro) hs he (yL hl hd (rel.put k rv) dd')
 ·subst ey eH
  cases (show u=Value.ref b from ry)
  obtain ⟨z,hd,xs,rel,dd⟩:=FW I.hok e
  have hz:xs.length<=sizeLine:=by rw [<- Paired.length rel];exact z
  have hl:(putK kvs k v).length<=sizeLine:=by have:=g6 kvs k v;omega
  refine wpAny_setItem_heap (hsz:=hz) (tupleKind_room_in1 hu) (nc I.hok eb) dd fun h' dd' hs=>h _ ?_
  obtain ⟨q,es,ep,hq,h2,h3,h4,_,h5⟩:=dd'
  refine mC I (by rw [e];exact True.intro) hs ⟨q,hq⟩ ⟨hl,hd,_,(rel.put k eb rv).keeps fun c ys ec=>?_,q,es,ep,hq,h2,h3,h4,h5⟩
  rw [aA (Fo ec e (fun z=>nomatch z))]
  exact ec
end
section
variable {X:Cx} {pins:List (Addr×Obj)} {σ:St} {H:Hp} {s:Shared} {a:Addr} {kvs:List (Key×V)} {k:Key} {u:Value} {A:Around} {E:Value->Shared->Prop}
end
section
variable {X:Cx} {o i e value:Expr} {pos pos' tpos:Pos} {td ty tv:TE}
end
theorem sW {P:Program} {w:World} {H:Hp} (h:Heap) (hb:sysModules < h.objs.size):bY P w H (h.push {cls:=.type "dict",data:=.dict #[]}) h.objs.size (.dK []):=
 ⟨Nat.zero_le _,beq_eq_false_iff_ne.mpr (Ne.symm (Nat.ne_of_lt hb)),[],.nil,Heap.DictOf.new h⟩
def D9:TE:=fun _ H Q=>∀ p,H p=none->Q (.ref p) (upd H p (.dK []))
section
variable {X:Cx} {pos:Pos}
theorem yM:PE X (.Dict [] [] pos) D9:=fun pins s σ H Q I h=>
 wpAny_Dict_empty ⟨.ref s.heap.objs.size,_,I.laid (a:=s.heap.objs.size) (o:=.dK []) (t':=s.toks) (fun _ _ q=>Heap.get?_push_of_some _ q) (Nat.le_refl _) (sW s.heap I.big),rfl,h _ (I.hok.fresh (Nat.le_refl _))⟩
end
def uU:List (TE×TE)->St->Hp->(List (V×V)->Hp->Prop)->Prop
 | [],_,H,Q=>Q [] H
 | (tk,tv)::r,σ,H,Q=>tk σ H fun x H1=>tv σ H1 fun y H2=>uU r σ H2 fun ps H3=>Q ((x,y)::ps) H3
abbrev VV:List (V×V)->List (Value×Value)->Prop:=Paired fun p q=>RelV p.1 q.1/\RelV p.2 q.2
def GI (X:Cx) (pos:Pos) (keys:List (Option Expr)) (values:List Expr) (trs:List (TE×TE)):Prop:=
 ∀ (pins:List (Addr×Obj)) (s:Shared) (σ:St) (H:Hp) (Q:List (V×V)->Hp->Prop),Inv X pins σ H s->uU trs σ H Q ->
  wpAny (model X.prog X.w) X.A (evalPairs (pairTrees keys values X.env pos)) (fun vs s'=>∃ ps H',Inv X pins σ H' s'/\VV ps vs/\Q ps H') X.xe s
theorem Bb {X:Cx} {pos:Pos}:GI X pos [] [] []:=fun pins s σ H Q I h=>pairTrees_nil_walk ⟨[],H,I,.nil,h⟩
theorem yN {X:Cx} {pos:Pos} {k v:Expr} {ks:List (Option Expr)} {vs:List Expr} {tk tv:TE} {trs:List (TE×TE)} (hk:PE X k tk) (hv:PE X v tv) (hr:GI X pos ks vs trs) :
  GI X pos (some k::ks) (v::vs) ((tk,tv)::trs):=fun pins s σ H Q I h=>
 pairTrees_cons_walk (cf (hk pins s σ H _ I h) fun u s1 ⟨x,H1,I1,rx,q1⟩=>cf (hv pins s1 σ H1 _ I1 q1) fun w2 s2 ⟨y,H2,I2,ry,q2⟩=>
  cf (hr pins s2 σ H2 _ I2 q2) fun ws s3 ⟨ps,H3,I3,rel,q3⟩=>⟨(x,y)::ps,H3,I3,.cons ⟨rx,ry⟩ rel,q3⟩)
def ng (kvs more:List (Key×V)):List (Key×V):=more.foldl (fun acc kv=>putK acc kv.1 kv.2) kvs
theorem KV.merge:∀ {more:List (Key×V)} {rs:List (Key×Value)} {kvs:List (Key×V)} {vs:List (Key×Value)},KV more rs->KV kvs vs->KV (ng kvs more) (merged vs rs):=by
 intro more rs kvs vs r
 unfold KV at r
 induction r generalizing kvs vs with
 | nil=>intro q;exact q
 | @cons p q ps qs h t ih=>
  intro r0
  have e:KV (putK kvs p.1 p.2) (stored vs q.1 q.2):=by
   have:=r0.put p.1 h.2
   rw [<- h.1];exact this
  exact ih e
theorem iZ:∀ (more kvs:List (Key×V)),(ng kvs more).length<=kvs.length+more.length
 | [],kvs=>by show kvs.length<=kvs.length+0;omega
 | p::r,kvs=>by
  have h1:=iZ r (putK kvs p.1 p.2)
  have h2:=g6 kvs p.1 p.2
  show (ng (putK kvs p.1 p.2) r).length<=_
  rw [List.length_cons];omega
theorem nh {P:Program} {w:World}:∀ {kvs:List (Key×V)} {ws:List (Value×Value)},VV (kvs.map fun kv=>(kV kv.1,kv.2)) ws->∃ rs,Carries (bU P w) ws rs/\KV kvs rs
 | [],_,r=>by rw [List.map_nil] at r;cases r;exact ⟨[],True.intro,.nil⟩
 | p::kvs,_,r=>by
  rw [List.map_cons] at r
  cases r with
  | @cons a b as bs h t=>
   obtain ⟨rs,c,q⟩:=nh (P:=P) (w:=w) t
   obtain ⟨b1,b2⟩:=b
   exact ⟨(p.1,b2)::rs,⟨pT h.1,rfl,c⟩,.cons ⟨rfl,h.2⟩ q⟩
def FX (trs:List (TE×TE)):TE:=fun σ H Q=>∀ p,H p=none->uU trs σ (upd H p (.dK [])) fun ps H2=>H2 p=some (.dK [])/\∃ kvs:List (Key×V),ps=kvs.map (fun kv=>(kV kv.1,kv.2))/\kvs.length<=15/\Q (.ref p) (upd H2 p (.dK (ng [] kvs)))
theorem Bc {X:Cx} {pos:Pos} {keys:List (Option Expr)} {values:List Expr} {trs:List (TE×TE)} (h:GI X pos keys values trs) (hall:keys.all (·.isSome)=true) (hl:keys.length=values.length) (h0:keys≠[])
  (h15:keys.length<=15):PE X (.Dict keys values pos) (FX trs):=by
 intro pins s σ H Q I q
 have hn:=I.hok.fresh (Nat.le_refl s.heap.objs.size)
 have I1:=I.laid (a:=s.heap.objs.size) (o:=.dK []) (h':=s.heap.push {cls:=.type "dict",data:=.dict #[]}) (t':=s.toks) (fun _ _ q=>Heap.get?_push_of_some _ q) (Nat.le_refl _) (sW s.heap I.big)
 refine wpAny_Dict_walk (knd:=bU X.prog X.w) hall hl h0 h15 (cf (h pins _ σ _ _ I1 (q _ hn)) fun ws s2 ⟨ps,H2,I2,rel,e,kvs,ep,lk,q2⟩=>?_)
 subst ep
 obtain ⟨rs,c,rk⟩:=nh (P:=X.prog) (w:=X.w) rel
 obtain ⟨z,hd,vs0,r0,dd⟩:=CM I2.hok e
 cases r0
 refine ⟨rs,c,dd,fun h' dd' hs=>⟨.ref s.heap.objs.size,_,?_,rfl,q2⟩⟩
 have hz:(ng [] kvs).length<=sizeLine:=by
  have h1:=iZ kvs []
  rw [List.length_nil] at h1
  rw [sizeLine_eq];omega
 have he:∃ q,h'.get? s.heap.objs.size=some q:=let ⟨q,_,_,hq,_⟩:=dd';⟨q,hq⟩
 exact mC I2 (by rw [e];exact True.intro) hs he (yL hz hd (rk.merge .nil) dd')
section
variable {X:Cx} {pins:List (Addr×Obj)} {σ:St} {H:Hp} {s:Shared} {a:Addr} {y d:V} {u r:Value} {o:Option V} {A:Around} {E:Value->Shared->Prop}
end
section
variable {X:Cx} {o e f:Expr} {apos cpos:Pos} {td ty tx:TE}
end
section
variable {X:Cx} {pins:List (Addr×Obj)} {σ:St} {H:Hp} {s:Shared} {a:Addr} {kvs:List (Key×V)} {A:Around} {E:Value->Shared->Prop}
end
section
variable {X:Cx} {pins:List (Addr×Obj)} {σ:St} {H:Hp} {s:Shared} {a:Addr} {y:V} {u:Value} {A:Around} {E:Value->Shared->Prop}
end
end L2
namespace L2
open PySem PySem.Spec PyProof.Rows
section
variable {κ:Type} [DecidableEq κ]
end
end L2
namespace L2
open PySem PySem.Spec PyProof.Rows
theorem ni {P:Program} {w:World} {K:PySem.W.Frag} {tg:Expr} {it:Addr} {n:Nat} {Pv:Nat->Value->Prop} {St:Nat->Heap->Prop} {f:Nat->V} (W:∀ A:Around,A.handled=none->Walks P w A it [it] [it] n Pv St)
  (ob:∀ i h,St i h->∃ (o:Obj) (m:String) (vs:Array Value),h.get? it=some o/\o.cls=.type m/\o.data=.fields vs/\["enumerate", "zip", "dict_itemiterator", "dict_reverseitemiterator", "odict_iterator", "itertools.zip_longest", "itertools.pairwise"].contains m=false)
  (rel:∀ i v,i < n->Pv i v->RelV (f i) v) (sf:∀ (A:Around) (i:Nat) (s:Shared) (Q:Value->Shared->Prop) (E:Value->Shared->Prop),St i s.heap->Q (.ref it) s->wpAny (model P w) A (pyIter (.ref it)) Q E s):Turn P w K tg ⟨fun i _=>i < n,fun i H x H'=>H'=H/\x=f i,fun i _=>i=n⟩ [it] it St where
 mem:=by simp
 obj:=fun i h st b hb=>by
  have e:b=it:=by simpa using hb
  subst e
  obtain ⟨o,m,vs,e,_,d,_⟩:=ob i h st
  exact ⟨o,e,fun v z=>by rw [d] at z;cases z⟩
 keep:=fun i h h' st k=>(W {handled:=none,depth:=0,frames:=none,guards:=none,units:=0} rfl).frame i h h' st fun b hb o e=>k b hb o e
 item:=by
  intro X hP hw hK hc i pins s σ H E I hf st hg
  subst hP hw hK
  obtain ⟨f0,f1,f2,f3,f4,f5⟩:=hf it (by simp)
  refine (W X.A (I.ok.hd hc)).item i s _ _ hg st fun v h' tk hv st' kk=>?_
  have I1:Inv X pins σ H {s with heap:=h',toks:=tk}:=I.turned (fun b o hb e=>kk b o (by simpa using hb) e) f0 f1 f3 f4 f5
  obtain ⟨o,m,vs,e,c,d,nm⟩:=ob _ _ st'
  exact ⟨v,rfl,vS (s:={s with heap:=h',toks:=tk}) e c d nm ⟨f i,H,I1,rel i v hg hv,⟨rfl,rfl⟩,st',fun b hb=>(hf b hb).1⟩⟩
 done:=by
  intro X hP hw hK hc i pins s σ H E I hf st hg
  subst hP hw hK
  obtain ⟨f0,f1,f2,f3,f4,f5⟩:=hf it (by simp)
  have hg':i=n:=hg
  subst hg'
  exact (W X.A (I.ok.hd hc)).done s _ _ st fun h' tk kk=>⟨rfl,I.turned (fun b o hb e=>kk b o (by simpa using hb) e) f0 f1 f3 f4 f5⟩
 self:=sf
def sgn (x:Str) (i:Nat):V:=.str ⟨#[x.cps.getD i 0]⟩
def HU (x:Str):It:=⟨fun i _=>i < x.cps.size,fun i H v H'=>H'=H/\v=sgn x i,fun i _=>i=x.cps.size⟩
theorem qT {x:Str} (i:Nat) (v:Value) (hi:i < x.cps.size) (h:SignAt x i v):RelV (sgn x i) v:=by
 obtain ⟨c,u,e,rfl⟩:=h
 refine ⟨u,?_⟩
 have:x.cps.getD i 0=c:=by rw [Array.getD_eq_getD_getElem?,e];rfl
 rw [this]
section
variable {X:Cx} {tg:Expr}
def HV (tl:TE):TI:=fun σ H R=>tl σ H fun v H1=>∃ x,v=.str x/\R (HU x) H1
theorem Ea {l:Expr} {tl:TE} (hl:PE X l tl):PI X tg l (HV tl):=by
 intro pins s σ H R I h
 refine cf (hl pins s σ H _ I h) fun v s1 ⟨x,H1,I1,r1,q1⟩=>?_
 obtain ⟨x,e,q⟩:=q1
 subst e
 obtain ⟨t,rfl⟩:=r1
 have fp:∀ b∈[s1.heap.objs.size],jI X pins H1 b:=fun b hb=>by
  have e:b=s1.heap.objs.size:=by simpa using hb
  subst e
  exact I1.xn (Nat.le_refl _) (I1.hok.fresh (Nat.le_refl _))
 cases ha:x.cps.all (· < 128) with
 | false=>
  refine wpAny_pyIter_wide ha ?_
  refine ⟨s1.heap.objs.size,[s1.heap.objs.size],_,HU x,H1,rfl,I1.kept (t':=s1.toks) fun b o e=>Heap.get?_push_of_some _ e,
   ni (fun A hA=>Walks.strWide hA _ x t) (fun i h ⟨o,e,c,d⟩=>⟨o,_,_,e,c,d,by decide⟩) qT fun A i s Q E st h=>wpAny_pyIter_striter_wide st h,⟨_,Heap.get?_push_size _ rfl,rfl,rfl⟩,fp,q⟩
 | true=>
  refine wpAny_pyIter_ascii ha ?_
  refine ⟨s1.heap.objs.size,[s1.heap.objs.size],_,HU x,H1,rfl,I1.kept (t':=s1.toks) fun b o e=>Heap.get?_push_of_some _ e,
   ni (fun A hA=>Walks.strAscii hA _ x t) (fun i h ⟨o,e,c,d⟩=>⟨o,_,_,e,c,d,by decide⟩) qT fun A i s Q E st h=>wpAny_pyIter_striter_ascii st h,⟨_,Heap.get?_push_size _ rfl,rfl,rfl⟩,fp,q⟩
end
section
variable {g:TG} {tc:TT} {te:TE} {σ:St} {H:Hp} {Q:VK} {n:Nat}
end
section
variable {X:Cx}
theorem all_range (bs:List Bool):((List.range bs.length).all fun i=>(bs[i]?).getD true)=bs.all id:=by
 rw [Bool.eq_iff_iff]
 simp only [List.all_eq_true,List.mem_range,id]
 constructor
 ·intro h b hb
  obtain ⟨i,hi,rfl⟩:=List.mem_iff_getElem.mp hb
  simpa [hi] using h i hi
 ·intro h i hi
  simp only [hi,List.getElem?_eq_getElem,Option.getD_some]
  exact h _ (List.getElem_mem hi)
theorem yO (hc:X.calm=true):cF X (.builtin "all") (fun xs H Q=>∃ (l:Addr) (bs:List Bool),xs=[.ref l]/\gc X.K H l (bs.map V.bl)/\Q (.bl (bs.all id)) H):=by
 intro pins s σ H vs us Q I r h
 obtain ⟨l,bs,rfl,hq,q⟩:=h
 cases r with
 | cons r rr=>
  cases rr
  cases r
  obtain ⟨its,rv,p,_⟩:=I.list hq
  have pl:=p.isList
  have hlt:l < s.heap.objs.size:=by obtain ⟨_,e,_⟩:=pl;exact Heap.lt_size e
  refine call_all_walk (wpAny_pyIter_list pl ?_)
  refine ⟨s.heap.objs.size,[s.heap.objs.size,l],[s.heap.objs.size],its.toArray.size,_,_,fun i=>(bs[i]?).getD true,rfl,Walks.list (A:=X.A.in1) (I.ok.hd hc) _ l (Nat.ne_of_lt hlt) its.toArray,⟨⟨_,Heap.get?_push_size _ rfl,rfl,rfl⟩,pl.push _⟩,fun i v s' Q' E' hP hQ=>?_,fun h' tk hk=>?_⟩
  ·have hP':its[i]?=some v:=by simpa using hP
   have hi:i < (bs.map V.bl).length:=by rw [rv.length];exact (List.getElem?_eq_some_iff.mp hP').1
   obtain ⟨u,hu,ru⟩:=rv.get (i:=i) (x:=(bs.map V.bl)[i]) (by simp [hi])
   rw [hP'] at hu
   cases hu
   rw [List.length_map] at hi
   simp only [List.getElem_map] at ru
   obtain rfl:v=Value.bool bs[i]:=ru
   have hQ':=hQ
   simp only [hi,List.getElem?_eq_getElem,Option.getD_some] at hQ'
   exact wpAny_truthy_bool hQ'
  ·have e:((List.range its.toArray.size).all fun i=>(bs[i]?).getD true)=bs.all id:=by
    rw [List.size_toArray,<- rv.length,List.length_map];exact all_range bs
   rw [e]
   exact ⟨.bl _,H,I.kept fun b o e=>hk b o (fun hm=>by rw [List.mem_singleton.mp hm] at e;exact Nat.lt_irrefl _ (Heap.lt_size e)) (Heap.get?_push_of_some _ e),rfl,q⟩
theorem xH:fI X (compareOp .LtE) (fun x y H Q=>∃ i j,x=.str i/\y=.str j/\Q (.bl (!decide (j.cps.toList < i.cps.toList))) H):=by
 intro pins s σ H x y v u Q I rx ry h
 obtain ⟨i,j,rfl,rfl,q⟩:=h
 obtain ⟨t,rfl⟩:=rx
 obtain ⟨t',rfl⟩:=ry
 exact P.le_str ⟨.bl _,H,I,rfl,q⟩
end
end L2
namespace L2
open PySem PySem.Spec PyProof.Rows
def fw:V->Option PyData
 | .non=>some .none
 | .bl b=>some (.bool b)
 | .int i=>some (.int i)
 | .str x=>some (.str x)
 | _=>none
def sX:Key->PyData
 | .inl i=>.int i
 | .inr x=>.str x
def aY:List (Key×V)->Option (List (PyData×PyData))
 | []=>some []
 | (k,v)::r=>match fw v,aY r with
  | some d,some ds=>some ((sX k,d)::ds)
  | _,_=>none
mutual
def Rep (H:Hp):PyData->V->Prop
 | .none,v=>v=.non
 | .bool b,v=>v=.bl b
 | .int i,v=>v=.int i
 | .str x,v=>v=.str x
 | .tuple ds,v=>∃ a vs,v=.ref a/\H a=some (.tup vs)/\aJ H ds vs
 | .list ds,v=>∃ a vs,v=.ref a/\H a=some (.lst vs)/\aJ H ds vs
 | .dict kvs,v=>∃ a ks,v=.ref a/\H a=some (.dK ks)/\aY ks=some kvs
def aJ (H:Hp):List PyData->List V->Prop
 | [],vs=>vs=[]
 | d::ds,vs=>∃ w ws,vs=w::ws/\Rep H d w/\aJ H ds ws
end
mutual
theorem Rep.same {H H':Hp} (s:bg H H'):∀ {d:PyData} {v:V},Rep H d v->Rep H' d v
 | .none,_,h=>h
 | .bool _,_,h=>h
 | .int _,_,h=>h
 | .str _,_,h=>h
 | .tuple ds,_,⟨a,vs,e,h,r⟩=>⟨a,vs,e,s _ _ h,aJ.same s r⟩
 | .list ds,_,⟨a,vs,e,h,r⟩=>⟨a,vs,e,s _ _ h,aJ.same s r⟩
 | .dict _,_,⟨a,ks,e,h,r⟩=>⟨a,ks,e,s _ _ h,r⟩
theorem aJ.same {H H':Hp} (s:bg H H'):∀ {ds:List PyData} {vs:List V},aJ H ds vs->aJ H' ds vs
 | [],_,h=>h
 | _::_,_,⟨w,ws,e,h,r⟩=>⟨w,ws,e,Rep.same s h,aJ.same s r⟩
end
theorem aJ.length {H:Hp}:∀ {ds:List PyData} {vs:List V},aJ H ds vs->vs.length=ds.length
 | [],_,h=>by cases h;rfl
 | _::ds,_,⟨w,ws,e,_,r⟩=>by rw [e,List.length_cons,List.length_cons,aJ.length r]
theorem aJ.get {H:Hp}:∀ {ds:List PyData} {vs:List V} {i:Nat} {v:V},aJ H ds vs->vs[i]?=some v->∃ d,ds[i]?=some d/\Rep H d v
 | [],_,i,v,h,e=>by cases h;simp at e
 | d::ds,_,0,v,⟨w,ws,e0,h,r⟩,e=>by subst e0;simp at e;subst e;exact ⟨d,rfl,h⟩
 | d::ds,_,i+1,v,⟨w,ws,e0,h,r⟩,e=>by
  subst e0
  obtain ⟨u,e1,e2⟩:=aJ.get (i:=i) r (by simpa using e)
  exact ⟨u,by simpa using e1,e2⟩
theorem aJ.get' {H:Hp}:∀ {ds:List PyData} {vs:List V} {i:Nat} {d:PyData},aJ H ds vs->ds[i]?=some d->∃ v,vs[i]?=some v/\Rep H d v
 | [],_,i,v,h,e=>by simp at e
 | d::ds,_,0,v,⟨w,ws,e0,h,r⟩,e=>by subst e0;simp at e;subst e;exact ⟨w,rfl,h⟩
 | d::ds,_,i+1,v,⟨w,ws,e0,h,r⟩,e=>by
  subst e0
  obtain ⟨u,e1,e2⟩:=aJ.get' (i:=i) r (by simpa using e)
  exact ⟨u,by simpa using e1,e2⟩
theorem aJ.append {H:Hp}:∀ {ds es:List PyData} {vs us:List V},aJ H ds vs->aJ H es us->aJ H (ds++es) (vs++us)
 | [],_,_,_,h,r=>by cases h;exact r
 | d::ds,_,_,_,⟨w,ws,e,h,q⟩,r=>by subst e;exact ⟨w,_,rfl,h,aJ.append q r⟩
theorem aJ.nil {H:Hp}:aJ H [] []:=rfl
theorem aJ.cons {H:Hp} {d:PyData} {ds:List PyData} {v:V} {vs:List V} (h:Rep H d v) (r:aJ H ds vs):aJ H (d::ds) (v::vs):=⟨v,vs,rfl,h,r⟩
theorem aJ.one {H:Hp} {d:PyData} {v:V} (h:Rep H d v):aJ H [d] [v]:=.cons h .nil
theorem aJ.take {H:Hp}:∀ {ds:List PyData} {vs:List V} (n:Nat),aJ H ds vs->aJ H (ds.take n) (vs.take n)
 | [],_,n,h=>by cases h;simp [aJ]
 | d::ds,_,0,⟨w,ws,e,h,r⟩=>by subst e;exact rfl
 | d::ds,_,n+1,⟨w,ws,e,h,r⟩=>by subst e;exact .cons h (aJ.take n r)
theorem aJ.drop {H:Hp}:∀ {ds:List PyData} {vs:List V} (n:Nat),aJ H ds vs->aJ H (ds.drop n) (vs.drop n)
 | [],_,n,h=>by cases h;simp [aJ]
 | d::ds,_,0,h=>h
 | d::ds,_,n+1,⟨w,ws,e,h,r⟩=>by subst e;exact aJ.drop n r
theorem uV {h:Heap} {v:V} {u:Value} {d:PyData} (e:fw v=some d) (r:RelV v u):Reads h u d []:=by
 cases v with
 | non=>cases e;cases r;exact .none
 | bl b=>cases e;cases r;exact .bool b
 | int i=>cases e;obtain ⟨t,rfl⟩:=r;exact .int i t
 | str x=>cases e;obtain ⟨t,rfl⟩:=r;exact .str x t
 | _=>cases e
theorem xI {h:Heap} {k:Key} {u:Value} (e:mT k u=true):Reads h u (sX k) []:=by
 rcases bC e with ⟨i,t,rfl,rfl⟩ | ⟨x,t,rfl,rfl⟩
 ·exact .int i t
 ·exact .str x t
theorem lh {P:Program} {w:World} {h:Heap}:∀ {ks:List (Key×V)} {vs:List (Key×Value)} {es:List DictEntry} {kvs:List (PyData×PyData)},aY ks=some kvs->KV ks vs->Pairs (bU P w) es vs ->
  ReadsAll h (es.map (·.key)) (kvs.map (·.1)) []/\ReadsAll h (es.map (·.val)) (kvs.map (·.2)) []
 | [],_,es,kvs,e,r,p=>by
  cases e
  cases r
  cases es with
  | nil=>exact ⟨.nil,.nil⟩
  | cons _ _=>exact (by cases p)
 | (k,v)::ks,_,es,kvs,e,r,p=>by
  cases r with
  | cons r1 r2=>
   rename_i q vs'
   obtain ⟨k',u⟩:=q
   obtain ⟨e1,e2⟩:=r1
   simp only at e1 e2
   subst e1
   cases p with
   | cons hk hv hr=>
    unfold aY at e
    cases e1:fw v with
    | none=>rw [e1] at e;cases e
    | some d=>
     cases e3:aY ks with
     | none=>rw [e1,e3] at e;cases e
     | some ds=>
      rw [e1,e3] at e
      cases e
      obtain ⟨z1,z2⟩:=lh e3 r2 hr
      exact ⟨.cons (as:=[]) (bs:=[]) (xI hk) z1,.cons (as:=[]) (bs:=[]) (by show Reads h (DictEntry.val _) d [];rw [hv];exact uV e1 e2) z2⟩
section
variable {X:Cx} {pins:List (Addr×Obj)} {σ:St} {H:Hp} {s:Shared}
mutual
theorem Rep.reads (I:Inv X pins σ H s):∀ {d:PyData} {v:V} {u:Value},Rep H d v->RelV v u->∃ as,Reads s.heap u d as
 | .none,_,u,h,r=>by cases h;cases r;exact ⟨_,.none⟩
 | .bool b,_,u,h,r=>by cases h;cases r;exact ⟨_,.bool b⟩
 | .int i,_,u,h,r=>by cases h;obtain ⟨t,rfl⟩:=r;exact ⟨_,.int i t⟩
 | .str x,_,u,h,r=>by cases h;obtain ⟨t,rfl⟩:=r;exact ⟨_,.str x t⟩
 | .tuple ds,_,u,⟨a,vs,e,h,q⟩,r=>by
  subst e
  cases r
  obtain ⟨_,its,rv,o,ho,hc,n,hd⟩:=I.hok a _ h
  obtain ⟨as,z⟩:=aJ.reads I q rv
  exact ⟨_,.tuple ho hc hd (by simpa using z)⟩
 | .list ds,_,u,⟨a,vs,e,h,q⟩,r=>by
  subst e
  cases r
  obtain ⟨_,its,n,rv,ho⟩:=I.hok a _ h
  obtain ⟨as,z⟩:=aJ.reads I q rv
  exact ⟨_,.list ho rfl rfl (by simpa using z)⟩
 | .dict kvs,_,u,⟨a,ks,e,h,q⟩,r=>by
  subst e
  cases r
  obtain ⟨_,_,vs,rk,o,es,ep,ho,hx,hd,_,hp,_⟩:=I.hok a _ h
  obtain ⟨z1,z2⟩:=lh (P:=X.prog) (w:=X.w) (h:=s.heap) q rk hp
  exact ⟨_,.dict ho hx.1 hd z1 z2⟩
theorem aJ.reads (I:Inv X pins σ H s):∀ {ds:List PyData} {vs:List V} {us:List Value},aJ H ds vs->Vals vs us->∃ as,ReadsAll s.heap us ds as
 | [],_,us,h,r=>by cases h;cases r;exact ⟨_,.nil⟩
 | d::ds,_,us,⟨w,ws,e,h,q⟩,r=>by
  subst e
  cases r with
  | cons r1 r2=>
   obtain ⟨as,z⟩:=Rep.reads I h r1
   obtain ⟨bs,y⟩:=aJ.reads I q r2
   exact ⟨_,.cons z y⟩
end
end
section
variable {X:Cx} {k:Nat}
def FY:PyData->String
 | .none => "NoneType"
 | .bool _ => "bool"
 | .int _ => "int"
 | .str _ => "str"
 | .tuple _ => "tuple"
 | .list _ => "list"
 | .dict _ => "dict"
theorem Rep.ty {H:Hp} {K:PySem.W.Frag} {d:PyData} {v:V} (h:Rep H d v):jJ K H v (.type (FY d)):=by
 cases d with
 | none=>cases h;exact .non
 | bool b=>cases h;exact .bl b
 | int i=>cases h;exact .int i
 | str x=>cases h;exact .str x
 | tuple ds=>obtain ⟨a,vs,rfl,e,_⟩:=h;exact .tup e
 | list ds=>obtain ⟨a,vs,rfl,e,_⟩:=h;exact .lst e
 | dict ds=>obtain ⟨a,ks,rfl,e,_⟩:=h;exact .dK e
theorem yP:cF X (.builtin "isinstance") (fun xs H Q=>∃ x n t b,xs=[x,.ty n]/\jJ X.K H x t/\PySem.W.kitOne X.K t (.type n)=some b/\Q (.bl b) H):=by
 intro pins s σ H vs us Q I r h
 obtain ⟨x,n,t,b,rfl,ty,e,q⟩:=h
 cases r with
 | cons r rr=>
  cases rr with
  | cons r' rr=>
   cases rr
   cases r'
   exact xy I r ty e fun tk=>⟨.bl b,H,I.tok _,rfl,q⟩
theorem kit_tuple (K:PySem.W.Frag) (d:PyData):PySem.W.kitOne K (.type (FY d)) (.type "tuple")=some (match d with | .tuple _=>true | _=>false):=by
 cases d<;>first | rfl | decide
theorem Bd (K:PySem.W.Frag) (d:PyData):PySem.W.kitOne K (.type (FY d)) (.type "str")=some (match d with | .str _=>true | _=>false):=by
 cases d<;>first | rfl | decide
end
end L2
namespace L2
open PySem PySem.Spec PyProof.Rows
section
variable {X:Cx} {x:Str} {ps:List Str} {k:Nat} {sp:Sp} {e:Expr} {es:List Expr} {t:TA} {p pos:Pos}
end
theorem bg.upd {H H':Hp} {p:Addr} {o:HO} (s:bg H H') (hp:H' p=none):bg H (upd H' p o):=fun b u e=>by rw [aA (aG (s b u e) hp)];exact s b u e
theorem bg.new {H:Hp} {p:Addr} {o:HO} (hp:H p=none):bg H (L2.upd H p o):=(bg.refl H).upd hp
section
variable {g:TG} {te:TE} {σ:St} {H:Hp} {Q:VK} {n:Nat}
end
theorem pB:bootBuiltins "isinstance" = some (.builtin "isinstance"):=by decide +kernel
theorem g9:bootBuiltins "len" = some (.builtin "len"):=by decide +kernel
theorem qU:bootBuiltins "all" = some (.builtin "all"):=by decide +kernel
theorem pV:bootBuiltins "sorted" = some (.builtin "sorted"):=by decide +kernel
theorem xJ:bootBuiltins "divmod" = some (.builtin "divmod"):=by decide +kernel
theorem Eb:bootBuiltins "abs" = some (.builtin "abs"):=by decide +kernel
theorem Ec:bootBuiltins "min" = some (.builtin "min"):=by decide +kernel
theorem Ed:bootBuiltins "max" = some (.builtin "max"):=by decide +kernel
theorem Ee:bootBuiltins "str" = some (.type "str"):=by decide +kernel
theorem eF:bootBuiltins "tuple" = some (.type "tuple"):=by decide +kernel
theorem Be:bootBuiltins "list" = some (.type "list"):=by decide +kernel
section
variable {X:Cx} {e e2:Expr} {te te2:TE} {t:TA} {p p2 pos:Pos}
def isTup:PyData->Bool | .tuple _=>true | _=>false
def isStr:PyData->Bool | .str _=>true | _=>false
end
def hE (f:Expr->Option PyData):List Expr->Option (List PyData)
 | []=>some []
 | e::es=>match f e,hE f es with
  | some d,some ds=>some (d::ds)
  | _,_=>none
def mj:Nat->Expr->Option PyData
 | 0,_=>none
 | n+1,e=>match e with
  | .Constant .none _ _=>some .none
  | .Constant (.bool b) _ _=>some (.bool b)
  | .Constant (.int i) _ _=>some (.int i)
  | .Constant (.str x) _ _=>some (.str x)
  | .Tuple es _ _=>if es.length<=1000 then (hE (mj n) es).map .tuple else none
  | .List es _=>if es.length<=1000 then (hE (mj n) es).map .list else none
  | .UnaryOp .USub (.Constant (.int i) _ _) _=>some (.int (-i))
  | .BinOp (.Constant (.int a) _ _) .Pow (.Constant (.int b) _ _) _=>if 0<=b/\b<=1000000/\a.natAbs < 2 ^ 64 then some (.int (a ^ b.toNat)) else none
  | .Dict [] [] _=>some (.dict [])
  | .Dict [some (.Constant (.str k) _ _)] [.Constant (.int i) _ _] _=>some (.dict [(.str k,.int i)])
  | _=>none
abbrev pW (n:Nat) (es:List Expr):Option (List PyData):=hE (mj n) es
def fK (H H' N:Hp):Prop:=∀ c o,N c=some o->H c=none/\H' c=some o
def Ef (d:PyData):TE:=fun _ H Q=>∀ r H' N,bg H H'->fK H H' N->Rep N d r->Q r H'
def FZ (ds:List PyData):TA:=fun _ H Q=>∀ rs H' N,bg H H'->fK H H' N->aJ N ds rs->Q rs H'
def pC:Hp:=fun _=>none
theorem fK.no {H H':Hp}:fK H H' pC:=fun _ _ e=>by cases e
def jm (N M:Hp):Hp:=fun c=>match N c with | some o=>some o | none=>M c
theorem Eg {N M:Hp}:bg N (jm N M):=fun c o e=>by simp only [jm,e]
theorem Eh {H H1 H2 N M:Hp} (n:fK H H1 N) (m:fK H1 H2 M):bg M (jm N M):=fun c o e=>by
 have h1:=(m c o e).1
 cases q:N c with
 | none=>simp only [jm,q,e]
 | some u=>rw [(n c u q).2] at h1;cases h1
theorem fK.plus {H H1 H2 N M:Hp} (s1:bg H H1) (s2:bg H1 H2) (n:fK H H1 N) (m:fK H1 H2 M):fK H H2 (jm N M):=fun c o e=>by
 cases q:N c with
 | some u=>
  simp only [jm,q] at e
  cases e
  exact ⟨(n c _ q).1,s2 _ _ (n c _ q).2⟩
 | none=>
  simp only [jm,q] at e
  exact ⟨s1.free (m c o e).1,(m c o e).2⟩
theorem fK.put {H H1 N:Hp} {p:Addr} {o:HO} (s1:bg H H1) (n:fK H H1 N) (hp:H1 p=none):fK H (upd H1 p o) (upd N p o)/\bg N (upd N p o):=by
 have np:∀ c u,N c=some u->c≠p:=fun c u e z=>by subst z;rw [(n c u e).2] at hp;cases hp
 refine ⟨fun c u e=>?_,fun c u e=>by rw [aA (np c u e)];exact e⟩
 by_cases hc:c=p
 ·subst hc
  rw [aW] at e
  cases e
  exact ⟨s1.free hp,aW⟩
 ·rw [aA hc] at e
  exact ⟨(n c u e).1,by rw [aA hc];exact (n c u e).2⟩
theorem gz:∀ {es:List Expr} {n:Nat} {ds:List PyData},pW n es=some ds->ds.length=es.length
 | [],n,ds,h=>by unfold pW hE at h;cases h;rfl
 | e::es,n,ds,h=>by
  unfold pW hE at h
  split at h
  ·rename_i d ds' h1 h2
   cases h
   rw [List.length_cons,List.length_cons,gz h2]
  ·cases h
section
variable {X:Cx}
theorem qV {n:Nat} (ih:∀ (e:Expr) (d:PyData),mj n e=some d->PE X e (Ef d)/\∀ es:List Expr,starEach (e::es) X.env=(false,eval e X.env)::starEach es X.env):∀ (es:List Expr) (ds:List PyData),pW n es=some ds->PA X es (FZ ds)
 | [],ds,h=>by
  unfold pW hE at h
  cases h
  intro pos pins s σ H Q I q
  exact qL pos pins s σ H Q I (q [] H pC (bg.refl H) .no rfl)
 | e::es,ds,h=>by
  unfold pW hE at h
  split at h
  ·rename_i d ds' h1 h2
   cases h
   obtain ⟨a,b⟩:=ih e d h1
   intro pos pins s σ H Q I q
   refine jK a (qV ih es ds' h2) (b es) pos pins s σ H Q I fun r H1 N1 s1 n1 hr rs H2 N2 s2 n2 hrs=>q _ H2 _ (s1.trans s2) (n1.plus s1 s2 n2) (.cons (hr.same Eg) (hrs.same (Eh n1 n2)))
  ·cases h
theorem uW:∀ (n:Nat) (e:Expr) (d:PyData),mj n e=some d->PE X e (Ef d)/\∀ es:List Expr,starEach (e::es) X.env=(false,eval e X.env)::starEach es X.env:=by
 intro n
 induction n with
 | zero=>intro e d h;unfold mj at h;cases h
 | succ n ih=>
  intro e d h
  unfold mj at h
  split at h
  ·cases h;exact ⟨fun pins s σ H Q I q=>Ds pins s σ H Q I (q _ H pC (bg.refl H) .no rfl),fun _=>rfl⟩
  ·cases h;exact ⟨fun pins s σ H Q I q=>CB pins s σ H Q I (q _ H pC (bg.refl H) .no rfl),fun _=>rfl⟩
  ·cases h;exact ⟨fun pins s σ H Q I q=>ky pins s σ H Q I (q _ H pC (bg.refl H) .no rfl),fun _=>rfl⟩
  ·cases h;exact ⟨fun pins s σ H Q I q=>uF pins s σ H Q I (q _ H pC (bg.refl H) .no rfl),fun _=>rfl⟩
  ·rename_i es k' p'
   split at h
   ·rename_i hl
    cases h1:hE (mj n) es with
    | none=>rw [h1] at h;cases h
    | some ds=>
     rw [h1] at h
     cases h
     refine ⟨fun pins s σ H Q I q=>yA (qV ih es ds h1) pins s σ H Q I fun rs H1 N1 s1 n1 hrs=>⟨?_,fun p hp=>q _ _ _ (s1.upd hp) (n1.put s1 hp).1 ⟨p,rs,rfl,aW,hrs.same (n1.put s1 hp).2⟩⟩,fun _=>rfl⟩
     rw [hrs.length,gz h1]
     exact Nat.le_trans hl (by decide)
   ·cases h
  ·rename_i es p'
   split at h
   ·rename_i hl
    cases h1:hE (mj n) es with
    | none=>rw [h1] at h;cases h
    | some ds=>
     rw [h1] at h
     cases h
     refine ⟨fun pins s σ H Q I q=>uM (qV ih es ds h1) pins s σ H Q I fun rs H1 N1 s1 n1 hrs=>⟨?_,fun p hp=>q _ _ _ (s1.upd hp) (n1.put s1 hp).1 ⟨p,rs,rfl,aW,hrs.same (n1.put s1 hp).2⟩⟩,fun _=>rfl⟩
     rw [hrs.length,gz h1]
     exact Nat.le_trans hl (by decide)
   ·cases h
  ·cases h;exact ⟨fun pins s σ H Q I q=>Fz DQ ky pins s σ H Q I ⟨_,rfl,q _ H pC (bg.refl H) .no rfl⟩,fun _=>rfl⟩
  ·split at h
   ·rename_i hl
    cases h
    exact ⟨fun pins s σ H Q I q=>CD DP ky ky pins s σ H Q I ⟨_,_,rfl,rfl,hl,q _ H pC (bg.refl H) .no rfl⟩,fun _=>rfl⟩
   ·cases h
  ·cases h;exact ⟨fun pins s σ H Q I q=>yM pins s σ H Q I fun p hp=>q _ _ (upd pC p (.dK [])) (bg.new hp) (fK.put (bg.refl H) .no hp).1 ⟨p,[],rfl,aW,rfl⟩,fun _=>rfl⟩
  ·rename_i k k1 p1 i i1 p2 p3
   cases h
   refine ⟨fun pins s σ H Q I q=>Bc (yN uF ky Bb) rfl rfl (by simp) (by show 1<=15;decide) pins s σ H Q I fun p hp=>⟨aW,[(Sum.inr k,V.int i)],rfl,by show 1<=15;decide,?_⟩,fun _=>rfl⟩
   refine q _ _ (upd pC p (.dK [(Sum.inr k,V.int i)])) (fun b o e=>?_) (fun c o e=>?_) ⟨p,[(Sum.inr k,V.int i)],rfl,aW,rfl⟩
   ·rw [aA (aG e hp),aA (aG e hp)]
    exact e
   ·by_cases hc:c=p
    ·subst hc
     rw [aW] at e
     cases e
     exact ⟨hp,aW⟩
    ·rw [aA hc] at e
     cases e
  ·cases h
@[irreducible] def Lit (n:Nat) (e:Expr) (d:PyData):Prop:=mj n e=some d
theorem Lit.of {n:Nat} {e:Expr} {d:PyData} (h:mj n e=some d):Lit n e d:=by unfold Lit;exact h
theorem Lit.eq {n:Nat} {e:Expr} {d:PyData} (h:Lit n e d):mj n e=some d:=by unfold Lit at h;exact h
theorem Ei (n:Nat) {e:Expr} {d:PyData} (h:Lit n e d):PE X e (Ef d):=(uW n e d h.eq).1
end
end L2
namespace L2
open PySem PySem.Spec PyProof.Rows
section
open PySem.SeqAt
open PySem.AutoSeq1 (wpAny_loadPart')
open PySem.MeetsSeq PySem.MeetsSeq2 PySem.MeetsSeq3
end
section
variable {X:Cx} {k:Nat}
def cutD (ds:List PyData) (lo hi:Option Int):List PyData:=(ds.drop (HT.cU ds.length 0 lo)).take (HT.cU ds.length ds.length hi - HT.cU ds.length 0 lo)
theorem pE {P:Program} {w:World} {A:Around} {E:Value->Shared->Prop} {s:Shared} {t sl:Addr} {items:Array Value} {vl vu:Value} {lo hi:Option Int} {Q:Value->Shared->Prop} (ht:IsTup s.heap t items) (hs:s.heap.IsSliceOf sl vl vu .none) (pl:IsPart vl lo) (pu:IsPart vu hi)
  (h0:HT.cU items.size 0 lo=0) (h1:HT.cU items.size items.size hi=items.size) (q:Q (.ref t) s):wpAny (model P w) A (getItem (.ref t) (.ref sl)) Q E s:=by
 obtain ⟨os,hos,hcs,hds⟩:=id hs
 have hTs:s.TypeIs (.ref sl) "slice" := ⟨os,hos,hcs⟩
 unfold getItem
 try with_reducible refine wpAny_holding ?_
 first | refine wpAny_bind (wpAny_pure ?_) | skip
 refine wpAny_bind (wpAny_sequenceKey ht.typeIs (by decide) ?_)
 refine wpAny_bind (wpAny_callSpecial?_slot (name:=Str.ofString "__getitem__") ht.typeIs PyProof.Rows.slot_tuple_getitem (wpAny_call_entry PyProof.Rows.slot_tuple_getitem ht.typeIs entry_tuple_getitem ?_ (args_tuple_getitem _ _)))
 show wpAny _ _ (Builtin.Tuple.tupleItemsOf (.ref t) >>= _) _ _ s
 refine wpAny_bind (tupleItemsOf_ ht (wpAny_bind (wpAny_typeOf hTs ?_)))
 rw [if_pos (by decide)]
 refine wpAny_bind (HT.gf hs pl pu ?_)
 rw [h0,h1]
 show wpAny _ _ (if ((((0:Nat):Int) == 0 && (1:Int) == 1 && (items.size - 0) == items.size)=true) then _ else _) _ _ s
 rw [if_pos (by simp)]
 unfold Builtin.Tuple.tupleIsExact
 refine wpAny_bind (wpAny_bind (wpAny_typeOf ht.typeIs (wpAny_pure ?_)))
 first
  | exact wpAny_bind (wpAny_rule (wpAny_bind (wpAny_pure (wpAny_pure ⟨_,rfl,wpAny_pure q⟩))))
  | exact wpAny_bind (wpAny_rule (wpAny_pure ⟨_,rfl,wpAny_pure q⟩))
  | (rw [if_pos (by decide)];exact wpAny_bind (wpAny_rule (wpAny_bind (wpAny_pure (wpAny_pure ⟨_,rfl,wpAny_pure q⟩)))))
  | (rw [if_pos (by decide)];exact wpAny_bind (wpAny_rule (wpAny_pure ⟨_,rfl,wpAny_pure q⟩)))
end
end L2
namespace L2
open PySem PySem.Spec PyProof.Rows
def sH (P:Program) (w:World):yh:=fun outer H s E e s'=>
 ∃ (a:Addr) (cls:Value) (t:Addr) (B:Heap) (H':Hp),e=.ref a/\s'.os=s.os/\AllBare s'.gens/\Un (sF outer) [] H H' s.heap s'.heap/\iD P w H' s'.heap/\Heap.FlyingW B outer a cls (.ref t) s'.heap /\
  (∀ b o,s.heap.get? b=some o->b∉sF outer->∃ o',s'.heap.get? b=some o'/\B.get? b=some o')/\(∀ b u,H' b=some u->∃ o',s'.heap.get? b=some o'/\B.get? b=some o')/\E cls none H'
section
variable {P:Program} {w:World} {K:PySem.W.Frag} {mg:Str->Option Value} {base:Heap} {N:List Str} {qual:Str} {scope:Scope} {f:Addr} {cd:Value} {A:Around} {outer:List Env} {s:Shared} {H:Hp} {E:XK}
theorem aM:Passes (sH P w) (pf (sH P w) P w K mg base N qual scope f cd A outer s H E) E:=by
 intro pins σ H1 s1 e s' I ⟨a,cls,t,B,H',e1,os,bare,un,hok,fl,old,xl,q⟩
 subst e1
 have J:=I.CA os un hok bare (fun b z=>nomatch z)
 have hfr:(A.deeper (envOfC qual scope s.heap.objs.size f cd)).frames=some (envOfC qual scope s.heap.objs.size f cd::outer):=I.ok.frames
 have noA:∀ b:Addr,b∉(pf (sH P w) P w K mg base N qual scope f cd A outer s H E).ex:=fun b z=>nomatch z
 have inB:∀ b o,s.heap.get? b=some o->b∉sF outer->∃ o',s'.heap.get? b=some o'/\B.get? b=some o':=fun b o e hb=>by
  obtain ⟨o1,e1⟩:=I.base.there b o e (noA b)
  refine old b o1 e1 fun z=>?_
  rcases List.mem_cons.mp (I.ku b z) with z | z
  ·have z2:b=s.heap.objs.size:=z
   exact absurd (Heap.lt_size e) (by rw [z2];exact Nat.lt_irrefl _)
  ·exact hb z
 refine wpAny_leaves_onW hfr rfl fl fun h' fl' up=>?_
 refine ⟨a,cls,t,B,H',rfl,os.trans I.os,bare,⟨fun b o e n hb _=>?_,fun b o e n hb _=>?_,fun b o e n _=>J.base.free b o e n (noA b),fun b o e _=>?_,J.base.tups,J.base.frzs,J.base.tbls⟩,fun b u e=>?_,fl',fun b o e hb=>?_,fun b u e=>?_,q⟩
 ·have e2:=J.base.keep b o e n hb (noA b)
  obtain ⟨o',e3,e4⟩:=inB b o e hb
  rw [e2] at e3;cases e3
  exact fl'.1 b o e4
 ·obtain ⟨sl,e2⟩:=J.base.slot b o e n hb (noA b)
  obtain ⟨_,o',e3,nf⟩:=J.jG.mem hb
  rw [e2] at e3;cases e3
  obtain ⟨sl',e4⟩:=up b _ e2 nf
  exact ⟨sl',e4⟩
 ·by_cases hb:b∈sF outer
  ·obtain ⟨o2,e2⟩:=J.base.there b o e (noA b)
   obtain ⟨_,o',e3,nf⟩:=J.jG.mem hb
   obtain ⟨sl',e4⟩:=up b _ e3 nf
   exact ⟨_,e4⟩
  ·obtain ⟨o',e3,e4⟩:=inB b o e hb
   exact ⟨o',fl'.1 b o' e4⟩
 ·refine (hok b u e).qH (fun c v hc z=>?_) (fun _ z=>z) fun _ _ z=>z
  have:∃ u',H' c=some u':=by
   rcases hc with hc | hc
   ·exact ⟨u,hc▸e⟩
   ·exact ⟨_,hc⟩
  obtain ⟨u',hu⟩:=this
  obtain ⟨o',e3,e4⟩:=xl c u' hu
  rw [z] at e3;cases e3
  exact fl'.1 c v e4
 ·obtain ⟨o',e3,e4⟩:=inB b o e hb
  exact ⟨o',fl'.1 b o' e4,e4⟩
 ·obtain ⟨o',e3,e4⟩:=xl b u e
  exact ⟨o',fl'.1 b o' e4,e4⟩
end
end L2
namespace L2
open PySem PySem.Spec PyProof.Rows
def Bf (a:Addr) (cls:Value):Heap->Prop:=fun h=>∃ o,h.get? a=some o/\o.cls=cls
end L2
namespace PySem.W
open PySem PySem.Spec PySem.Calls PyProof.Rows Builtin Builtin.ObjectAttr Builtin.Getset_descriptor
section
variable {prog:Program} {w:World} {K:Frag} {y D:Addr}
end
end PySem.W
namespace L2
open PySem PySem.Spec PyProof.Rows
section
variable {X:Cx}
end
end L2
namespace L2
open PySem PySem.Spec PyProof.Rows
end L2
namespace L2
open PySem
section
variable {X:Cx} {e:Expr} {te:TE} {p pos:Pos}
end
end L2
namespace L2
open PySem PySem.Spec PyProof.Rows
structure Ext (H G H' G':Hp):Prop where
 sh:bg H H'
 sg:bg G G'
 gs:bg G' H'
 old:∀ c,H c≠none->G' c=G c
theorem Ext.refl {H G:Hp} (s:bg G H):Ext H G H G:=⟨bg.refl H,bg.refl G,s,fun _ _=>rfl⟩
theorem Ext.new {H G:Hp} {p:Addr} {o:HO} (s:bg G H) (hp:H p=none):Ext H G (upd H p o) (upd G p o):=by
 refine ⟨bg.new hp,bg.new (s.free hp),fun c u e=>?_,fun c hc=>aA fun z=>hc (z▸hp)⟩
 by_cases h:c=p
 ·subst h;rw [aW] at e ⊢;exact e
 ·rw [aA h] at e ⊢;exact s c u e
section
variable {X:Cx} {k:Nat}
def F0:R2:=fun x y H Q=>∃ G ds es,bg G H/\Rep G (.tuple ds) x/\Rep G (.tuple es) y/\ds.length+es.length<=sizeLine/\∀ r H' G',Ext H G H' G'->Rep G' (.tuple (ds++es)) r->Q r H'
theorem Bg:fI X (binaryOp .Add) F0:=by
 intro pins s σ H x y v u Q I rx ry h
 obtain ⟨G,ds,es,sg,h1,h2,hz,q⟩:=h
 obtain ⟨a,vs,rfl,ha,r1⟩:=id h1
 obtain ⟨b,us,rfl,hb,r2⟩:=id h2
 by_cases hv:vs=[]
 ·subst hv
  have hd:ds=[]:=List.length_eq_zero_iff.mp r1.length.symm
  subst hd
  cases rx
  cases ry
  obtain ⟨its1,v1,⟨⟨c1,d1,e1,l1⟩,p1,g1,n1,z1⟩,_⟩:=I.tuple (eR.of (K:=X.K) (sg _ _ ha))
  obtain ⟨its2,v2,⟨⟨c2,d2,e2,l2⟩,p2,g2,n2,z2⟩,_⟩:=I.tuple (eR.of (K:=X.K) (sg _ _ hb))
  simp only at g1 z1 g2 z2
  subst g1 z1 g2 z2
  cases v1
  exact concat_meets ⟨_,p1,rfl⟩ ⟨_,p2,rfl⟩ noFill_tuple_add seq_tuple_add PySem.F.slot_tuple_add PySem.F.entry_tuple_add (PySem.F.args_tuple_add_2 _ _) (tuple_addW0 a b _ _ n1 n2 d1 d2 l1 l2 rfl) ⟨p1,p2,⟨.ref b,H,I,rfl,q _ H G (Ext.refl sg) h2⟩⟩
 ·refine AZ pins s σ H _ _ v u Q I rx ry ⟨a,b,vs,us,rfl,rfl,eR.of (sg _ _ ha),eR.of (sg _ _ hb),hv,by rw [r1.length,r2.length];exact hz,fun e=>?_,fun e p hp=>?_⟩
  ·subst e
   have he:es=[]:=List.length_eq_zero_iff.mp r2.length.symm
   subst he
   exact q _ H G (Ext.refl sg) (by rw [List.append_nil];exact h1)
  ·have x:=Ext.new (o:=.tup (vs++us)) sg hp
   exact q _ _ _ x ⟨p,_,rfl,aW,aJ.append (r1.same x.sg) (r2.same x.sg)⟩
def HW:V->Option Int->Option Int->Hp->VK->Prop:=fun x lo hi H Q=>∃ G ds,bg G H/\Rep G (.tuple ds) x/\∀ r H' G',Ext H G H' G'->Rep G' (.tuple (cutD ds lo hi)) r->Q r H'
theorem Bh:FN X HW:=by
 intro pins s σ H x v vl vu lo hi sl Q I rx hs pl pu h
 obtain ⟨G,ds,sg,h1,q⟩:=h
 obtain ⟨a,xs,rfl,ha,r1⟩:=id h1
 cases rx
 obtain ⟨its,rv,ht,hz⟩:=I.tuple (eR.of (K:=X.K) (sg _ _ ha))
 have hl:its.toArray.size=xs.length:=by rw [List.size_toArray];exact rv.length.symm
 by_cases hw:HT.cU xs.length 0 lo=0/\HT.cU xs.length xs.length hi=xs.length
 ·refine ⟨"tuple",_,PyProof.Rows.slot_tuple_getitem.lookup,ht.typeIs,pE ht hs pl pu (by rw [hl];exact hw.1) (by rw [hl];exact hw.2) ⟨.ref a,H,I,rfl,q _ H G (Ext.refl sg) ?_⟩⟩
  have e:cutD ds lo hi=ds:=by
   unfold cutD
   rw [<- r1.length,hw.1,hw.2,List.drop_zero,Nat.sub_zero,r1.length,List.take_length]
  rw [e]
  exact h1
 ·refine DY pins s σ H (.ref a) _ vl vu lo hi sl Q I rfl hs pl pu ⟨a,xs,rfl,eR.of (sg _ _ ha),hw,fun p hp=>?_⟩
  have x:=Ext.new (o:=.tup (ph xs lo hi)) sg hp
  refine q _ _ _ x ⟨p,_,rfl,aW,?_⟩
  have e:cutD ds lo hi=(ds.drop (HT.cU xs.length 0 lo)).take (HT.cU xs.length xs.length hi - HT.cU xs.length 0 lo):=by
   unfold cutD
   rw [r1.length]
  rw [e]
  exact ((r1.same x.sg).drop _).take _
end
end L2
namespace L2
open PySem PySem.Spec PyProof.Rows
end L2
namespace L2
open PySem PySem.Spec PyProof.Rows
section
variable {X:Cx} {o e:Expr} {es:List Expr} {to te:TE} {t:TA} {name:Str} {apos cpos p pos:Pos} {T id:String} {r:V->List V->Hp->VK->Prop}
end
end L2
namespace L2
open PySem PySem.Spec PyProof.Rows
theorem Vals.CN:∀ (us:List Value) (f:Nat->V),(∀ j v,us[j]?=some v->RelV (f j) v)->Vals ((List.range us.length).map f) us
 | [],_,_=>.nil
 | u::us,f,h=>by
  rw [List.length_cons,List.range_succ_eq_map,List.map_cons,List.map_map]
  exact .cons (h 0 u rfl) (Vals.CN us (f∘Nat.succ) fun j v e=>h (j+1) v e)
section
variable {X:Cx}
theorem sY (hc:X.calm=true):cF X (.type "tuple") (fun xs H Q=>∃ x,xs=[.str x]/\x.cps.size<=sizeLine/\∀ p,H p=none->Q (.ref p) (upd H p (.tup ((List.range x.cps.size).map (sgn x))))):=by
 intro pins s σ H xs us Q I r h
 obtain ⟨x,rfl,hz,q⟩:=h
 obtain ⟨u,rfl,rx⟩:=vals1 r
 obtain ⟨t,rfl⟩:=rx
 refine call_tuple_str (I.ok.hd hc) x t (fun h' tk acc kp hacc=>?_) hz
 have I1:Inv X pins σ H {s with heap:=h',toks:=tk}:=I.kept (t':=tk) kp
 have hv:Vals ((List.range x.cps.size).map (sgn x)) acc.toList:=by
  have e:acc.toList.length=x.cps.size:=by rw [Array.length_toList,hacc.1]
  rw [<- e]
  refine Vals.CN _ _ fun j v ev=>qT j v ?_ (hacc.2 j v (by simpa using ev))
  rw [<- e]
  exact (List.getElem?_eq_some_iff.mp ev).1
 have I2:Inv X pins σ (upd H h'.objs.size (.tup ((List.range x.cps.size).map (sgn x)))) {s with heap:=h'.push {cls:=.type "tuple",data:=.seq acc},toks:=tk}:=by
  refine I1.laid (t':=tk) (fun b o e=>Heap.get?_push_of_some _ e) (Nat.le_refl _) (show bY X.prog X.w _ _ _ (.tup _) from ⟨by rw [List.length_map,List.length_range];exact hz,acc.toList,hv,?_⟩)
  have:=IsTup.new h' acc
  simpa using this
 exact ⟨.ref h'.objs.size,_,I2,rfl,q _ (I1.hok.fresh (Nat.le_refl _))⟩
end
end L2
namespace L2
open PySem
end L2
namespace L2
open PySem PySem.Spec PyProof.Rows
def recAt (c:Addr) (q:Str):Heap->Prop:=fun h=>h.CodeRec (.ref c) q
section
variable {X:Cx} {pins:List (Addr×Obj)} {σ:St} {H:Hp} {s:Shared}
end
end L2
namespace L2
open PySem PySem.Spec PyProof.Rows
section
variable {X:Cx}
end
end L2
namespace PySem.SeqAt
open PySem PySem.MeetsSeq PySem.AutoSeq1
theorem nj (b:Str) (u:Tok) (l:Addr) (es:Array DictEntry) (n:Nat) (dd:Option Addr) (sl:Array (Option Value)) :
  Meets (Builtin.«str.__eq__» ⟨[.str b u,.ref l],[]⟩) (fun _ R s=>s.heap.get? l=some {cls:=.type "dict",dict:=dd,data:=.dict es n,slots:=sl}/\R (.ok (.ret .notImplemented)) s):=
 .of_wp fun prog w A R s h=>by
  obtain ⟨hp,g,d,tk,os⟩:=s
  obtain ⟨hl,h⟩:=h
  wp_walk using wpAny_loadPart' hl,wpAny_load hl
  exact ⟨_,rfl,h⟩
theorem nk (b:Str) (u:Tok) (l:Addr) (es:Array DictEntry) (n:Nat) (dd:Option Addr) (sl:Array (Option Value)) :
  Meets (Builtin.«dict.__eq__» ⟨[.ref l,.str b u],[]⟩) (fun _ R s=>s.heap.get? l=some {cls:=.type "dict",dict:=dd,data:=.dict es n,slots:=sl}/\R (.ok (.ret .notImplemented)) s):=
 .of_wp fun prog w A R s h=>by
  obtain ⟨hp,g,d,tk,os⟩:=s
  obtain ⟨hl,h⟩:=h
  have f1:=F.sub_str_dict
  wp_walk using wpAny_loadPart' hl,wpAny_load hl
  exact ⟨_,rfl,h⟩
theorem EqAt.Bi {A:Around} {s:Shared} {l:Addr} {es:Array DictEntry} {n:Nat} {dd:Option Addr} {sl:Array (Option Value)} (b:Str) (u:Tok) (hl:s.heap.get? l=some {cls:=.type "dict",dict:=dd,data:=.dict es n,slots:=sl}) (hu:A.units < cLine):EqAt A s (.str b u) (.ref l) false:=fun prog w E Q h=>by
 unfold eqBool
 refine wpAny_holding (wpAny_ite_split (fun hab=>absurd (eq_of_beq hab) nofun) (fun _=>wpAny_bind ?_))
 refine rc_eq_decline_or (k:=false) (typeIs_str s b u) ⟨_,hl,rfl⟩ (by decide) F.sub_dict_str F.slot_str_eq F.slot_dict_eq_refl
  (fun _ hq=>call_meets F.slot_str_eq (typeIs_str s b u) F.entry_str_eq (F.args_str_eq_2 _ _) (nj b u l es n dd sl) ⟨hl,hq⟩)
  (fun _ hq=>call_meets F.slot_dict_eq_refl ⟨_,hl,rfl⟩ F.entry_dict_eq (F.args_dict_eq_2 _ _) (nk b u l es n dd sl) ⟨hl,hq⟩)
  (fun _ hq=>wpAny_of_eq (rfl:isSame (.str b u) (.ref l)=pure false) hq) (.inr hu) (wpAny_truthy_bool h)
end PySem.SeqAt
set_option maxHeartbeats 4000000
namespace PySem.W
open PySem PySem.Calls PyProof.Rows
def KasT.Run {α:Type} (lt:Nat->Nat->Bool) (n:Nat):KasT α->(α->Prop)->Prop
 | .ret a,P=>P a
 | .ask i j k,P=>i < n/\j < n/\(k (lt i j)).Run lt n P
theorem KasT.run_bind {α β:Type} {lt:Nat->Nat->Bool} {n:Nat} {f:α->KasT β} {P:β->Prop} :
  ∀ (t:KasT α),t.Run lt n (fun a=>(f a).Run lt n P)->(t.bind f).Run lt n P
 | .ret _,h=>h
 | .ask _ _ k,h=>⟨h.1,h.2.1,KasT.run_bind (k _) h.2.2⟩
theorem KasT.cV {α:Type} {lt:Nat->Nat->Bool} {n:Nat} {P Q:α->Prop} (hq:∀ a,P a->Q a) :
  ∀ (t:KasT α),t.Run lt n P->t.Run lt n Q
 | .ret a,h=>hq a h
 | .ask _ _ k,h=>⟨h.1,h.2.1,KasT.cV hq (k _) h.2.2⟩
theorem KasT.yQ {α:Type} {lt:Nat->Nat->Bool} {n:Nat} {P:α->Prop} {Q:α->Shared->Prop} {I:Shared->Prop}
  {cmp:Nat->Nat->(Bool->Shared->Prop)->Shared->Prop}
  (hc:∀ i j C s,i < n->j < n->I s->(∀ s',I s'->C (lt i j) s')->cmp i j C s) (hq:∀ a s,P a->I s->Q a s) :
  ∀ (t:KasT α) (s:Shared),t.Run lt n P->I s->t.kasWp cmp Q s
 | .ret a,s,h,hi=>hq a s h hi
 | .ask i j k,s,h,hi=>hc i j _ s h.1 h.2.1 hi (fun s' hs'=>KasT.yQ hc hq (k _) s' h.2.2 hs')
structure iV (lt:Nat->Nat->Bool) (n:Nat):Prop where
 as:∀ a b,a < n->b < n->lt a b=true->lt b a=false
 tr:∀ a b c,a < n->b < n->c < n->lt b a=false->lt c b=false->lt c a=false
abbrev pat (p:Array Nat) (k:Nat):Nat:=p.getD k 0
theorem fW (p:Array Nat) (k:Nat):pat p k=p[k]?.getD 0:=by
 show p.getD k 0=_
 simp [Array.getD_eq_getD_getElem?]
structure bJ (n:Nat) (p:Array Nat):Prop where
 perm:p.toList.Perm (List.range n)
theorem bJ.size {n:Nat} {p:Array Nat} (h:bJ n p):p.size=n:=by
 have:=h.perm.length_eq
 simpa using this
theorem bJ.lt {n:Nat} {p:Array Nat} (h:bJ n p) {k:Nat} (hk:k < n):pat p k < n:=by
 have hs:k < p.size:=by rw [h.size];exact hk
 have e:pat p k=p[k]:=by rw [fW,getElem?_pos p k hs];rfl
 rw [e]
 have:p[k]∈p.toList:=by simp
 exact List.mem_range.mp (h.perm.mem_iff.mp this)
theorem bJ.of {n:Nat} {p q:Array Nat} (h:bJ n p) (e:q.Perm p):bJ n q:=
 ⟨(Array.perm_iff_toList_perm.mp e).trans h.perm⟩
theorem bJ.rev {n:Nat} {p:Array Nat} (h:bJ n p) (i j:Nat):bJ n (kas_rev p i j):=h.of (mirror_perm _ _ _ _)
theorem fL {n:Nat} {p:Array Nat} (h:bJ n p) {i j:Nat} (hj:j<=n) (k:Nat) :
  pat (kas_rev p i j) k=if i<=k/\k < j then pat p (i+j - 1 - k) else pat p k:=by
 rw [fW]
 unfold kas_rev
 rw [getElem?_mirror_all (by rw [h.size];exact hj)]
 split<;>rw [fW]
theorem wa {n:Nat} {p:Array Nat} (h:bJ n p) {k d:Nat} (hk:k < n) (hd:d<=k) (i:Nat) :
  pat (bubble p k d) i=if i=k - d then pat p k else if k - d < i/\i<=k then pat p (i - 1) else pat p i:=by
 rw [fW,getElem?_bubble (by rw [h.size];exact hk) d hd]
 split
 ·rw [fW]
 ·split<;>rw [fW]
section
variable {lt:Nat->Nat->Bool} {n:Nat}
def sZ (lt:Nat->Nat->Bool) (p:Array Nat) (m:Nat):Prop:=∀ i j,i < j->j < m->lt (pat p j) (pat p i)=false
def fM (lt:Nat->Nat->Bool) (p:Array Nat) (m:Nat):Prop:=∀ i j,i < j->j < m->lt (pat p i) (pat p j)=false
theorem iV.HX (O:iV lt n) {x:Nat} (hx:x < n):lt x x=false:=by
 cases hh:lt x x with
 | false=>rfl
 | true=>have:=O.as _ _ hx hx hh;rw [hh] at this;exact this
theorem sZ.more (O:iV lt n) {p:Array Nat} (hp:bJ n p) {m:Nat} (h1:1<=m) (hm:m < n) (u:sZ lt p m) (h:lt (pat p m) (pat p (m - 1))=false):sZ lt p (m+1):=by
 intro i j hij hj
 rcases Nat.lt_or_ge j m with h' | h'
 ·exact u i j hij h'
 ·obtain rfl:j=m:=by omega
  rcases Nat.lt_or_ge i (j - 1) with h'' | h''
  ·exact O.tr _ _ _ (hp.lt (by omega)) (hp.lt (by omega)) (hp.lt hm) (u i (j - 1) h'' (by omega)) h
  ·obtain rfl:i=j - 1:=by omega
   exact h
theorem fM.more (O:iV lt n) {p:Array Nat} (hp:bJ n p) {m:Nat} (h1:1<=m) (hm:m < n) (u:fM lt p m) (h:lt (pat p (m - 1)) (pat p m)=false):fM lt p (m+1):=by
 intro i j hij hj
 rcases Nat.lt_or_ge j m with h' | h'
 ·exact u i j hij h'
 ·obtain rfl:j=m:=by omega
  rcases Nat.lt_or_ge i (j - 1) with h'' | h''
  ·exact O.tr _ _ _ (hp.lt hm) (hp.lt (by omega)) (hp.lt (by omega)) h (u i (j - 1) h'' (by omega))
  ·obtain rfl:i=j - 1:=by omega
   exact h
theorem qW (O:iV lt n) {p:Array Nat} (hp:bJ n p):∀ (f m:Nat),1<=m->m+f<=n->sZ lt p m ->
  (kas_asc p f m).Run lt n (fun r=>m<=r/\r<=m+f/\sZ lt p r/\(r < m+f->lt (pat p r) (pat p (r - 1))=true))
 | 0,m,h1,hm,u=>⟨Nat.le_refl _,Nat.le_refl _,u,fun h=>absurd h (Nat.lt_irrefl _)⟩
 | f+1,m,h1,hm,u=>by
  refine ⟨hp.lt (by omega),hp.lt (by omega),?_⟩
  cases hc:lt (pat p m) (pat p (m - 1)) with
  | true=>
   simp only [if_true]
   exact ⟨Nat.le_refl _,by omega,u,fun _=>hc⟩
  | false=>
   have hc':=hc
   simp only [Bool.false_eq_true,if_false]
   refine KasT.cV (fun r hr=>?_) _ (qW O hp f (m+1) (by omega) (by omega) (u.more O hp h1 (by omega) hc'))
   exact ⟨by omega,by omega,hr.2.2.1,fun h=>hr.2.2.2 (by omega)⟩
def GJ (lt:Nat->Nat->Bool) (p:Array Nat) (a b:Nat):Prop:=∀ i j,a<=i->i < b->a<=j->j < b->lt (pat p i) (pat p j)=false
theorem nq {p:Array Nat} (hp:bJ n p) {a b m:Nat} (hb:b<=m) (hm:m<=n) (d:fM lt p m) (e:GJ lt p a b):fM lt (kas_rev p a b) m:=by
 intro i j hij hj
 rw [fL hp (by omega),fL hp (by omega)]
 split
 ·split
  ·exact e _ _ (by omega) (by omega) (by omega) (by omega)
  ·exact d _ _ (by omega) (by omega)
 ·split
  ·exact d _ _ (by omega) (by omega)
  ·exact d _ _ hij hj
theorem Ej {p:Array Nat} (hp:bJ n p) {m:Nat} (hm:m<=n) (d:fM lt p m):sZ lt (kas_rev p 0 m) m:=by
 intro i j hij hj
 rw [fL hp hm,fL hp hm,if_pos (by omega),if_pos (by omega)]
 exact d _ _ (by omega) (by omega)
theorem fM.zero {p:Array Nat}:fM lt p 1:=fun i j h h'=>by omega
theorem jQ (O:iV lt n):∀ (f:Nat) (p:Array Nat) (m q:Nat),bJ n p->q+1<=m->m+f<=n->fM lt p m->GJ lt p (m - (q+1)) m ->
  (kas_desc f p m q).Run lt n (fun r=>bJ n r.1/\r.2.2+1<=r.2.1/\r.2.1<=m+f/\fM lt r.1 r.2.1/\GJ lt r.1 (r.2.1 - (r.2.2+1)) r.2.1)
 | 0,p,m,q,hp,hq,hm,d,e=>⟨hp,hq,Nat.le_refl _,d,e⟩
 | f+1,p,m,q,hp,hq,hm,d,e=>by
  refine ⟨hp.lt (by omega),hp.lt (by omega),?_⟩
  cases hc:lt (p.getD m 0) (p.getD (m - 1) 0) with
  | true=>
   simp only [if_true]
   have h1:lt (pat p (m - 1)) (pat p m)=false:=O.as _ _ (hp.lt (by omega)) (hp.lt (by omega)) hc
   split
   ·have hd2:=nq (n:=n) hp (Nat.le_refl m) (by omega) d e
    have hp2:=hp.rev (m - (q+1)) m
    refine KasT.cV (fun r hr=>⟨hr.1,hr.2.1,by have:=hr.2.2.1;omega,hr.2.2.2⟩) _ (jQ O f _ (m+1) 0 hp2 (by omega) (by omega) ?_ ?_)
    ·refine hd2.more O hp2 (by omega) (by omega) ?_
     rw [fL hp (by omega),fL hp (by omega),if_pos (by omega),if_neg (by omega)]
     refine O.tr _ _ _ (hp.lt (by omega)) (hp.lt (by omega)) (hp.lt (by omega)) h1 ?_
     exact e _ _ (by omega) (by omega) (by omega) (by omega)
    ·intro i j h1 h2 h3 h4
     obtain rfl:i=m:=by omega
     obtain rfl:j=i:=by omega
     cases hh:lt (pat (kas_rev p (j - (q+1)) j) j) (pat (kas_rev p (j - (q+1)) j) j) with
     | false=>rfl
     | true=>exact (O.as _ _ (hp2.lt (by omega)) (hp2.lt (by omega)) hh).symm.trans hh▸rfl
   ·refine KasT.cV (fun r hr=>⟨hr.1,hr.2.1,by have:=hr.2.2.1;omega,hr.2.2.2⟩) _ (jQ O f _ (m+1) 0 hp (by omega) (by omega) (d.more O hp (by omega) (by omega) h1) ?_)
    intro i j h1 h2 h3 h4
    obtain rfl:i=m:=by omega
    obtain rfl:j=i:=by omega
    cases hh:lt (pat p j) (pat p j) with
    | false=>rfl
    | true=>exact (O.as _ _ (hp.lt (by omega)) (hp.lt (by omega)) hh).symm.trans hh▸rfl
  | false=>
   simp only [Bool.false_eq_true,if_false]
   refine ⟨hp.lt (by omega),hp.lt (by omega),?_⟩
   cases hc2:lt (p.getD (m - 1) 0) (p.getD m 0) with
   | true=>
    simp only [if_true]
    exact ⟨hp,hq,by show m<=_;omega,d,e⟩
   | false=>
    simp only [Bool.false_eq_true,if_false]
    refine KasT.cV (fun r hr=>⟨hr.1,hr.2.1,by have:=hr.2.2.1;omega,hr.2.2.2⟩) _ (jQ O f _ (m+1) (q+1) hp (by omega) (by omega) (d.more O hp (by omega) (by omega) hc2) ?_)
    have HX:lt (pat p m) (pat p m)=false:=by
     cases hh:lt (pat p m) (pat p m) with
     | false=>rfl
     | true=>exact (O.as _ _ (hp.lt (by omega)) (hp.lt (by omega)) hh).symm.trans hh▸rfl
    intro i j h1 h2 h3 h4
    rcases Nat.lt_or_ge i m with hi | hi
    ·rcases Nat.lt_or_ge j m with hj | hj
     ·exact e _ _ (by omega) hi (by omega) hj
     ·obtain rfl:j=m:=by omega
      exact O.tr _ _ _ (hp.lt (by omega)) (hp.lt (show j - 1 < n by omega)) (hp.lt (by omega)) hc2 (e _ _ (by omega) hi (by omega) (by omega))
    ·obtain rfl:i=m:=by omega
     rcases Nat.lt_or_ge j i with hj | hj
     ·exact O.tr _ _ _ (hp.lt (by omega)) (hp.lt (show i - 1 < n by omega)) (hp.lt (by omega)) (e _ _ (by omega) (by omega) (by omega) hj) hc
     ·obtain rfl:j=i:=by omega
      exact HX
def yR (lt:Nat->Nat->Bool) (n:Nat) (r:Nat×Array Nat):Prop:=bJ n r.2/\1<=r.1/\r.1<=n/\sZ lt r.2 r.1
theorem pX (O:iV lt n) {p:Array Nat} (hp:bJ n p) {m:Nat} (h1:1<=m) (hm:m<=n) (d:fM lt p m):(kas_tail3 m n p).Run lt n (yR lt n):=by
 unfold kas_tail3
 refine KasT.run_bind _ (KasT.cV (fun r hr=>?_) _ (qW O (hp.rev 0 m) (n - m) m h1 (by omega) (Ej hp hm d)))
 exact ⟨hp.rev 0 m,by show 1<=r;omega,by show r<=n;omega,hr.2.2.1⟩
theorem jR (O:iV lt n) {p:Array Nat} (hp:bJ n p) {m:Nat} (h1:1<=m) (hm:m < n) (d:fM lt p (m+1)):(kas_descPart m n p).Run lt n (yR lt n):=by
 unfold kas_descPart
 refine KasT.run_bind _ (KasT.cV (fun r hr=>?_) _ (jQ O (n - (m+1)) p (m+1) 0 hp (by omega) (by omega) d ?_))
 ·split
  ·exact pX O (hr.1.rev _ _) (by omega) (by omega) (nq hr.1 (Nat.le_refl _) (by omega) hr.2.2.2.1 hr.2.2.2.2)
  ·exact pX O hr.1 (by omega) (by omega) hr.2.2.2.1
 ·intro i j h1 h2 h3 h4
  obtain rfl:i=m:=by omega
  obtain rfl:j=i:=by omega
  cases hh:lt (pat p j) (pat p j) with
  | false=>rfl
  | true=>exact (O.as _ _ (hp.lt (by omega)) (hp.lt (by omega)) hh).symm.trans hh▸rfl
theorem xK (O:iV lt n) {p:Array Nat} (hp:bJ n p) (h1:1<=n):(kas_count n p).Run lt n (yR lt n):=by
 unfold kas_count
 refine KasT.run_bind _ (KasT.cV (fun r hr=>?_) _ (qW O hp (n - 1) 1 (Nat.le_refl _) (by omega) fun i j h h'=>by omega))
 obtain ⟨hr1,hr2,up,st⟩:=hr
 split
 ·exact ⟨hp,hr1,by show r<=n;omega,up⟩
 ·rename_i hne
  have hlt:r < n:=by
   have:r≠n:=fun e=>hne (by simp [e])
   omega
  have hs:=st (by omega)
  split
  ·rename_i hgt
   refine ⟨hp.lt (by omega),hp.lt (by omega),?_⟩
   dsimp only
   split
   ·exact ⟨hp,hr1,by show r<=n;omega,up⟩
   ·rename_i hc
    have hc:lt (pat p 0) (pat p (r - 1))=false:=by simpa using hc
    have eqs:GJ lt p 0 r:=by
     have lo:∀ i,i < r->lt (pat p i) (pat p 0)=false:=fun i hi=>by
      rcases Nat.eq_zero_or_pos i with rfl | h
      ·cases hh:lt (pat p 0) (pat p 0) with
       | false=>rfl
       | true=>exact (O.as _ _ (hp.lt (by omega)) (hp.lt (by omega)) hh).symm.trans hh▸rfl
      ·exact up 0 i h hi
     have hi:∀ i,i < r->lt (pat p (r - 1)) (pat p i)=false:=fun i hi=>by
      rcases Nat.lt_or_ge i (r - 1) with h | h
      ·exact up i (r - 1) h (by omega)
      ·obtain rfl:i=r - 1:=by omega
       exact O.HX (hp.lt (by omega))
     intro i j _ h2 _ h4
     have a1:lt (pat p 0) (pat p j)=false:=O.tr _ _ _ (hp.lt (by omega)) (hp.lt (show r - 1 < n by omega)) (hp.lt (by omega)) (hi j h4) hc
     exact O.tr _ _ _ (hp.lt (by omega)) (hp.lt (show 0 < n by omega)) (hp.lt (by omega)) a1 (lo i h2)
    have dn:fM lt (kas_rev p 0 r) r:=nq hp (Nat.le_refl r) (by omega) (fun i j h h'=>eqs _ _ (by omega) (by omega) (by omega) h') eqs
    refine jR O (hp.rev 0 r) (by omega) hlt (dn.more O (hp.rev 0 r) (by omega) hlt ?_)
    rw [fL hp (by omega),fL hp (by omega),if_pos (by omega),if_neg (by omega)]
    refine O.tr _ _ _ (hp.lt (by omega)) (hp.lt (show r - 1 < n by omega)) (hp.lt (by omega)) (O.as _ _ (hp.lt (by omega)) (hp.lt (by omega)) hs) ?_
    exact eqs _ _ (by omega) (by omega) (by omega) (by omega)
  ·obtain rfl:r=1:=by omega
   exact jR O hp (by omega) hlt ((fM.zero).more O hp (by omega) hlt (O.as _ _ (hp.lt (by omega)) (hp.lt (by omega)) hs))
theorem kB (O:iV lt n) {p:Array Nat} (hp:bJ n p) {k:Nat} (hk:k < n) (u:sZ lt p k):∀ (f l r:Nat),l<=r->r<=k->r - l<=f ->
  (∀ i,i < l->lt (pat p k) (pat p i)=false)->(∀ i,r<=i->i < k->lt (pat p i) (pat p k)=false) ->
  (kas_place p k f l r).Run lt n (fun m=>m<=k/\(∀ i,i < m->lt (pat p k) (pat p i)=false)/\(∀ i,m<=i->i < k->lt (pat p i) (pat p k)=false))
 | 0,l,r,h1,h2,h3,a,b=>⟨by show l<=k;omega,a,fun i hi=>b i (by omega)⟩
 | f+1,l,r,h1,h2,h3,a,b=>by
  unfold kas_place
  split
  ·exact ⟨by show l<=k;omega,a,fun i hi=>b i (by omega)⟩
  ·rename_i hlr
   refine ⟨hp.lt hk,hp.lt (by omega),?_⟩
   dsimp only
   split
   ·rename_i hc
    refine kB O hp hk u f l ((l+r) / 2) (by omega) (by omega) (by omega) a fun i hi hik=>?_
    have hm:lt (pat p ((l+r) / 2)) (pat p k)=false:=O.as _ _ (hp.lt hk) (hp.lt (by omega)) hc
    rcases Nat.lt_or_ge ((l+r) / 2) i with h | h
    ·exact O.tr _ _ _ (hp.lt hk) (hp.lt (show (l+r) / 2 < n by omega)) (hp.lt (by omega)) hm (u _ _ h hik)
    ·obtain rfl:i=(l+r) / 2:=by omega
     exact hm
   ·rename_i hc
    have hc:lt (pat p k) (pat p ((l+r) / 2))=false:=by simpa using hc
    refine kB O hp hk u f ((l+r) / 2+1) r (by omega) h2 (by omega) (fun i hi=>?_) b
    rcases Nat.lt_or_ge i ((l+r) / 2) with h | h
    ·exact O.tr _ _ _ (hp.lt (by omega)) (hp.lt (show (l+r) / 2 < n by omega)) (hp.lt hk) (u _ _ h (by omega)) hc
    ·obtain rfl:i=(l+r) / 2:=by omega
     exact hc
theorem wb (O:iV lt n):∀ (f:Nat) (p:Array Nat) (k:Nat),bJ n p->k+f=n->sZ lt p k->(kas_bin f p k).Run lt n (fun p=>bJ n p/\sZ lt p n)
 | 0,p,k,hp,hk,u=>⟨hp,by obtain rfl:k=n:=by omega
                         exact u⟩
 | f+1,p,k,hp,hk,u=>by
  unfold kas_bin
  refine KasT.run_bind _ (KasT.cV (fun m hm=>?_) _ (kB O hp (by omega) u k 0 k (Nat.zero_le _) (Nat.le_refl _) (by omega) (fun i h=>by omega) (fun i h h'=>by omega)))
  obtain ⟨hmk,lo,hi⟩:=hm
  refine wb O f _ (k+1) (hp.of (bubble_perm _ _ _)) (by omega) ?_
  intro i j hij hj
  have hd:k - (k - m)=m:=by omega
  rw [wa hp (by omega) (by omega),wa hp (by omega) (by omega),hd]
  by_cases j1:j=m
  ·rw [if_pos j1,if_neg (show ¬ i=m by omega),if_neg (by omega)]
   exact lo i (by omega)
  ·rw [if_neg j1]
   by_cases i1:i=m
   ·rw [if_pos i1,if_pos (by omega)]
    exact hi _ (by omega) (by omega)
   ·rw [if_neg i1]
    by_cases j2:m < j/\j<=k
    ·rw [if_pos j2]
     by_cases i2:m < i/\i<=k
     ·rw [if_pos i2]
      exact u _ _ (by omega) (by omega)
     ·rw [if_neg i2]
      exact u _ _ (by omega) (by omega)
    ·rw [if_neg j2,if_neg (by omega)]
     exact u _ _ hij (by omega)
theorem yS (O:iV lt n) (h:1<=n):(kas_sort n).Run lt n (fun p=>bJ n p/\sZ lt p n):=by
 unfold kas_sort
 refine KasT.run_bind _ (KasT.cV (fun r hr=>?_) _ (xK O (p:=List.toArray (List.range n)) ⟨List.Perm.refl _⟩ h))
 obtain ⟨hp,h1,h2,u⟩:=hr
 split
 ·rename_i hlt
  have:max r.1 1=r.1:=by omega
  rw [this]
  exact wb O _ _ _ hp (by omega) u
 ·refine ⟨hp,?_⟩
  have e:r.1=n:=by omega
  rw [e] at u
  exact u
end
end PySem.W
set_option maxHeartbeats 4000000
namespace PySem.W
open PySem PySem.Calls PyProof.Rows
section
variable {prog:Program} {w:World} {A:Around} {E:Value->Shared->Prop} {s:Shared}
def yT (prog:Program) (w:World) (A:Around) (vs:List Value) (lt:Nat->Nat->Bool) (s:Shared):Prop:=
 wpAny (model prog w) A (keyKind' vs.toArray) (fun κ s'=>s'=s/\∀ i j C,i < vs.length->j < vs.length->C (lt i j) s ->
  wpAny (model prog w) A (keyLt' κ (vs.getD i Value.none) (vs.getD j Value.none)) C (fun _ _=>False) s) (fun _ _=>False) s
theorem i0 {a:Addr} {vs:List Value} {lt:Nat->Nat->Bool} {n:Nat} {P:PySem.Fin->Shared->Prop} (ho:s.heap.get? a=some (seqObj "list" vs.toArray n))
  (O:iV lt vs.length) (h64:vs.length < 64)
  (hk:∀ h',(∀ b o,b≠a->s.heap.get? b=some o->h'.get? b=some o)->2<=vs.length->yT prog w A vs lt {s with heap:=h'})
  (h:∀ p:Array Nat,bJ vs.length p->sZ lt p vs.length->P (.done (.ret .none)) {s with heap:=sortedHeap s.heap a vs (p.toList.map fun i=>vs.getD i Value.none).toArray}) :
  wpAny (model prog w) A (Builtin.«list.sort» ⟨[.ref a],[]⟩) P E s:=by
 rw [list_sort_plain]
 have ha:a < s.heap.objs.size:=Heap.lt_size ho
 refine wpAny_bind (listItems_at ho rfl ?_)
 refine wpAny_bind (listUpdate_at ho rfl ?_)
 obtain ⟨e1,ho1⟩:∃ e1,(s.heap.update a (Obj.mapSeq fun _=>#[])).get? a=some (seqObj "list" #[] e1):=⟨_,get?_update_seq ho (fun _=>#[])⟩
 refine wpAny_bind (seqEpoch_at ho1 rfl ?_)
 refine wpAny_bind (wpAny_newTuple ?_)
 refine wpAny_bind (wpAny_newList ?_)
 refine wpAny_holding ?_
 have ho6:(((s.heap.update a (Obj.mapSeq fun _=>#[])).push (seqObj "tuple" vs.toArray 0)).push (seqObj "list" #[] 0)).get? a=some (seqObj "list" #[] e1):=by
  rw [Heap.get?_push_ne _ _ _ (by rw [size_push',Heap.size_update];exact Nat.ne_of_lt (Nat.lt_succ_of_lt ha)),Heap.get?_push_ne _ _ _ (by rw [Heap.size_update];exact Nat.ne_of_lt ha)]
  exact ho1
 show wpAny (model prog w) A _ P E {s with heap:=((s.heap.update a (Obj.mapSeq fun _=>#[])).push (seqObj "tuple" vs.toArray 0)).push (seqObj "list" #[] 0)}
 dsimp only
 by_cases h2:vs.toArray.size < 2
 ·rw [if_pos h2,if_pos h2]
  refine wpAny_bind (wpAny_pure ?_)
  rw [StateT.run_pure]
  refine wpAny_bind (wpAny_pure ?_)
  dsimp only
  refine wpAny_bind (seqEpoch_at ho6 rfl ?_)
  refine wpAny_bind (listUpdate_at ho6 rfl ?_ (hsz2:=by rw [Array.size_map];show (pairsOf vs).size<=_;rw [pairsOf_size,sizeLine_eq];omega))
  simp only [bne_self_eq_false,Bool.false_eq_true,if_false]
  have hl:vs.length < 2:=by simpa using h2
  have e:(arrOf (SortSt.mk' general' (vs.toArray.zip vs.toArray) #[] 7 none)).map (·.2)=(((List.range vs.length).toArray).toList.map fun i=>vs.getD i Value.none).toArray:=by
   show (vs.toArray.zip vs.toArray).map (·.2)=_
   match vs,hl with
   | [],_=>simp
   | [x],_=>simp [List.range_succ]
  rw [e]
  exact wpAny_pure (h _ ⟨List.Perm.refl _⟩ fun i j h1 h2=>by omega)
 ·rw [if_neg h2,if_neg h2]
  have hl:2<=vs.length:=by simp at h2;exact h2
  refine wpAny_bind (wpAny_mono (hk _ (fun b o hb q=>?_) hl) (fun κ s' hκ=>?_) fun _ _ x=>x.elim)
  ·have hbs:b < s.heap.objs.size:=Heap.lt_size q
   rw [Heap.get?_push_ne _ _ _ (by rw [size_push',Heap.size_update];exact Nat.ne_of_lt (Nat.lt_succ_of_lt hbs)),Heap.get?_push_ne _ _ _ (by rw [Heap.size_update];exact Nat.ne_of_lt hbs),Heap.get?_update_ne _ _ _ _ hb]
   exact q
  ·obtain ⟨rfl,hc⟩:=hκ
   refine wpAny_bind (wpAny_mono (kat_run (E:=E) (vs:=vs) (ks:=vs) (κ:=κ) (G:=fun p s'=>s'={s with heap:=((s.heap.update a (Obj.mapSeq fun _=>#[])).push (seqObj "tuple" vs.toArray 0)).push (seqObj "list" #[] 0)}/\bJ vs.length p/\sZ lt p vs.length)
    (Q:=fun st' s'=>s'={s with heap:=((s.heap.update a (Obj.mapSeq fun _=>#[])).push (seqObj "tuple" vs.toArray 0)).push (seqObj "list" #[] 0)}/\failedOf st'=none/\∃ p,bJ vs.length p/\sZ lt p vs.length/\(arrOf st').map (·.2)=List.toArray (p.toList.map fun i=>vs.getD i Value.none))
    rfl hl h64 (fun p st' s' a1 a2 a3 a4=>⟨a4.1,a3,p,a4.2.1,a4.2.2,kat_snds rfl a2⟩) ?_) ?_ fun _ _ e=>e)
   ·refine KasT.yQ (lt:=lt) (n:=vs.length) (P:=fun p=>bJ vs.length p/\sZ lt p vs.length) (I:=fun s'=>s'={s with heap:=((s.heap.update a (Obj.mapSeq fun _=>#[])).push (seqObj "tuple" vs.toArray 0)).push (seqObj "list" #[] 0)}) ?_ ?_ _ _ (yS O (by omega)) rfl
    ·rintro i j C s' hi hj rfl q
     exact hc i j C hi hj (q _ rfl)
    ·rintro p s' hp rfl
     exact ⟨rfl,hp⟩
   ·rintro ⟨⟨⟩,st'⟩ s' ⟨rfl,hf,p,hp,hu,e⟩
    dsimp only at hf e ⊢
    rw [e]
    refine wpAny_bind (seqEpoch_at ho6 rfl ?_)
    refine wpAny_bind (listUpdate_at ho6 rfl ?_ (hsz2:=by rw [List.size_toArray,List.length_map,Array.length_toList,hp.size,sizeLine_eq];omega))
    rw [hf]
    simp only [bne_self_eq_false,Bool.false_eq_true,if_false]
    exact wpAny_pure (h p hp hu)
theorem nu {l:Addr} {vs:List Value} {lt:Nat->Nat->Bool} {Q:Value->Shared->Prop} (hl:s.heap.IsList l vs.toArray) (O:iV lt vs.length) (h64:vs.length < 64)
  (hk:∀ h',(∀ b o,s.heap.get? b=some o->h'.get? b=some o)->2<=vs.length->yT prog w A.in1.in1 vs lt {s with heap:=h'})
  (h:∀ p:Array Nat,bJ vs.length p->sZ lt p vs.length->Q (.ref (s.heap.objs.size+1)) {s with heap:=sortedAll s.heap vs (p.toList.map fun i=>vs.getD i Value.none).toArray}) :
  wpAny (model prog w) A (call (.builtin "sorted") [.ref l]) Q E s:=by
 refine Calls.call_function_entry kind_sorted plain_sorted entry_sorted (args_sorted1 _) ?_
 unfold Builtin.«sorted»
 refine wpAny_bind (m:=checkCount "sorted" 1 1 _) (wpAny_pure ?_)
 refine wpAny_bind (collect_list hl ?_)
 refine wpAny_bind (wpAny_newList ?_)
 have hsz:((s.heap.push (seqObj "list" #[] 0)).update s.heap.objs.size (Obj.mapSeq (·++vs.toArray))).objs.size=s.heap.objs.size+1:=by
  rw [Heap.size_update,size_push']
 have hoL:(((s.heap.push (seqObj "list" #[] 0)).update s.heap.objs.size (Obj.mapSeq (·++vs.toArray))).push (seqObj "list" vs.toArray 0)).get? (s.heap.objs.size+1)=some (seqObj "list" vs.toArray 0):=by
  rw [<- hsz];exact Heap.get?_push_size _ rfl
 show wpAny _ _ _ _ _ {s with heap:=((s.heap.push (seqObj "list" #[] 0)).update s.heap.objs.size (Obj.mapSeq (·++vs.toArray))).push (seqObj "list" vs.toArray 0)}
 rw [hsz]
 refine wpAny_bind (wpAny_holding (wpAny_call_entry slot_list_sort ⟨_,hoL,rfl⟩ entry_list_sort (i0 hoL O h64 (fun h' k h2=>hk h' (fun b o q=>?_) h2) fun p a1 a2=>⟨_,rfl,?_⟩) (args_list_sort _)))
 ·have hlt:b < s.heap.objs.size:=Heap.lt_size q
  refine k b o (Nat.ne_of_lt (Nat.lt_succ_of_lt hlt)) ?_
  show (((s.heap.push (seqObj "list" #[] 0)).update s.heap.objs.size (Obj.mapSeq (·++vs.toArray))).push (seqObj "list" vs.toArray 0)).get? b=some o
  rw [Heap.get?_push_ne _ _ _ (by rw [hsz];exact Nat.ne_of_lt (Nat.lt_succ_of_lt hlt)),Heap.get?_update_ne _ _ _ _ (Nat.ne_of_lt hlt),Heap.get?_push_ne _ _ _ (Nat.ne_of_lt hlt)]
  exact q
 ·exact wpAny_pure ⟨_,rfl,h p a1 a2⟩
end
end PySem.W
namespace L2
open PySem PySem.Spec PyProof.Rows
open PySem.W (iV bJ sZ yT nu KatLex kat_lt kat_one kas_mapM kas_first_eq Looks pat)
def jn (x y:Str):Bool:=decide (x.cps.toList < y.cps.toList)
theorem qX (x:Str):jn x x=false:=strKind.irrefl _
theorem uX {x y z:Str} (h:jn x y=true) (h':jn y z=true):jn x z=true:=strKind.trans _ _ _ h h'
theorem yU {x y:Str} (h:jn x y=true):jn y x=false:=by
 cases e:jn y x with
 | false=>rfl
 | true=>have:=uX h e;rw [qX] at this;exact this.symm
theorem wc {x y:Str} (h:jn x y=false) (h':jn y x=false):x=y:=by
 have e:=strKind.total x.cps.toList y.cps.toList h h'
 cases x;cases y
 simpa using e
section
variable {P:Program} {w:World} {A:Around} {E:Value->Shared->Prop} {s:Shared}
theorem s9 {M:Model} {vs:List Value} {T:Value} {Q:Option Value->Shared->Prop} (h2:1<=vs.length) (hT:∀ v∈vs,Looks M s.heap (typeOf v) T) (hT2:(T == T)=true) (h:Q (some T) s) :
  wpAny M A (oneTypeOnly' vs.toArray) Q E s:=by
 obtain ⟨v,rest,rfl⟩:∃ v rest,vs=v::rest:=by
  match vs,h2 with
  | v::r,_=>exact ⟨v,r,rfl⟩
 rw [oneTypeOnly'_eq,List.mapM_toArray,map_eq_pure_bind]
 refine wpAny_bind (wpAny_bind (kas_mapM (r:=T) _ (fun v hv Q' hq=>(hT v hv).here hq) (wpAny_pure ?_)))
 have hall:((List.map (fun _=>T) (v::rest)).toArray.all fun x=>x == T)=true:=by
  simp only [List.all_toArray,List.all_map,List.all_eq_true]
  intro _ _
  exact hT2
 have h0:(List.map (fun _=>T) (v::rest)).toArray[0]?=some T:=by simp
 rw [h0]
 simp only [hall,if_true]
 exact wpAny_pure h
end
section
variable {X:Cx} {k:Nat}
theorem gA {α:Type} (d:α):∀ (xs:List α),(List.range xs.length).map (fun i=>xs.getD i d)=xs
 | []=>rfl
 | x::xs=>by
  rw [List.length_cons,List.range_succ_eq_map,List.map_cons,List.map_map]
  have:=gA d xs
  simp only [List.getD_cons_zero,List.cons.injEq,true_and]
  conv=>rhs;rw [<- this]
  exact List.map_congr_left fun i _=>by simp
theorem xM {vs:List V} {us:List Value} (r:Vals vs us) (i:Nat) (hi:i < vs.length):RelV (vs.getD i .non) (us.getD i .none):=by
 obtain ⟨u,h1,h2⟩:=r.get (i:=i) (x:=vs[i]) (by simp [hi])
 have e1:vs.getD i .non=vs[i]:=by simp [hi]
 have e2:us.getD i .none=u:=by simp [List.getD,h1]
 rw [e1,e2]
 exact h2
theorem pY {vs:List V} {us:List Value} (r:Vals vs us):∀ (l:List Nat),(∀ i∈l,i < vs.length)->Vals (l.map fun i=>vs.getD i .non) (l.map fun i=>us.getD i .none)
 | [],_=>.nil
 | i::l,h=>.cons (xM r i (h i (.head _))) (pY r l fun j hj=>h j (.tail _ hj))
theorem pZ {ds:List PyData} {vs:List V} (r:aJ H ds vs) (dd:PyData):∀ (l:List Nat),(∀ i∈l,i < vs.length)->aJ H (l.map fun i=>ds.getD i dd) (l.map fun i=>vs.getD i .non)
 | [],_=>aJ.nil
 | i::l,h=>by
  refine aJ.cons ?_ (pZ r dd l fun j hj=>h j (.tail _ hj))
  have hi:=h i (.head _)
  obtain ⟨d,h1,h2⟩:=r.get (i:=i) (v:=vs[i]) (by simp [hi])
  have e1:vs.getD i .non=vs[i]:=by simp [hi]
  have e2:ds.getD i dd=d:=by simp [List.getD,h1]
  show Rep H (ds.getD i dd) (vs.getD i .non)
  rw [e1,e2]
  exact h2
end
end L2
namespace Ml
open PySem
structure Xc where
 cls:Str
 args:List PyData
inductive D where
 | dat (d:PyData)
 | ref (i:Nat)
 | mD (t:Bool) (kvs:List (PyData×PyData))
 | set (xs:List PyData)
 | fn (n:Str)
 | exc (x:Xc)
 | scr (ns:List Int)
 | ktup (xs:List PyData)
 | rpr (x:Str)
inductive MO where
 | lst (xs:List D)
 | mD (t:Bool) (kvs:List (PyData×PyData))
 | ins (C:Str) (fs:List (Str×D))
 | tab (P:Addr) (q:Str)
abbrev Hm:=List MO
abbrev Fm:=List (Option D)
inductive R (α:Type) where
 | ok (a:α) (h:Hm)
 | exc (x:Xc) (h:Hm)
 | bad
def R.bind {α β:Type}:R α->(α->Hm->R β)->R β
 | .ok a h,f=>f a h
 | .exc x h,_=>.exc x h
 | .bad,_=>.bad
def R.yV {α:Type}:R α->R α
 | .exc _ _=>.bad
 | r=>r
@[simp] theorem R.b0 {α:Type} {a:α} {h:Hm}:(R.ok a h).yV=.ok a h:=rfl
@[simp] theorem R.GK {α:Type}:(R.bad:R α).yV=.bad:=rfl
@[simp] theorem R.GL {α:Type} {x:Xc} {h:Hm}:(R.exc x h:R α).yV=.bad:=rfl
@[simp] theorem R.aD {α β:Type} {a:α} {h:Hm} {f:α->Hm->R β}:(R.ok a h).bind f=f a h:=rfl
@[simp] theorem R.yW {α β:Type} {x:Xc} {h:Hm} {f:α->Hm->R β}:(R.exc x h).bind f=.exc x h:=rfl
@[simp] theorem R.F1 {α β:Type} {f:α->Hm->R β}:R.bad.bind f=.bad:=rfl
theorem R.bind_assoc {α β γ:Type} (r:R α) (f:α->Hm->R β) (g:β->Hm->R γ):(r.bind f).bind g=r.bind fun a h=>(f a h).bind g:=by cases r<;>rfl
abbrev ME:=Fm->Hm->R D
abbrev MT:=Fm->Hm->R Bool
abbrev MA:=Fm->Hm->R (List D)
inductive Fl where
 | nx (ρ:Fm)
 | rt (d:D)
 | bk (ρ:Fm)
 | ct (ρ:Fm)
abbrev MS:=Fm->Hm->R Fl
abbrev Fn:=List D->Hm->R D
abbrev D.none:D:=.dat .none
abbrev D.bool (b:Bool):D:=.dat (.bool b)
abbrev D.int (i:Int):D:=.dat (.int i)
abbrev D.str (s:Str):D:=.dat (.str s)
def ae (i:Nat):ME:=fun ρ h=>match ρ[i]? with
 | some (some d)=>.ok d h
 | _=>.bad
def aj (d:PyData):ME:=fun _ h=>.ok (.dat d) h
def JE (n:Str):ME:=fun _ h=>.ok (.fn n) h
def ao:MA:=fun _ h=>.ok [] h
def aa (e:ME) (a:MA):MA:=fun ρ h=>(e ρ h).bind fun x h1=>(a ρ h1).bind fun xs h2=>.ok (x::xs) h2
def ax (f:D->D->Hm->R D) (a b:ME):ME:=fun ρ h=>(a ρ h).bind fun x h1=>(b ρ h1).bind fun y h2=>f x y h2
def CO (f:D->Hm->R D) (a:ME):ME:=fun ρ h=>(a ρ h).bind fun x h1=>f x h1
def ag (f:Fn) (a:MA):ME:=fun ρ h=>(a ρ h).bind fun xs h1=>f xs h1
def aO (e:ME):MT:=fun ρ h=>(e ρ h).bind fun x h1=>match x with
 | .dat (.bool b)=>.ok b h1
 | _=>.bad
def ji (t:MT):MT:=fun ρ h=>(t ρ h).bind fun b h1=>.ok (!b) h1
def yj (t u:MT):MT:=fun ρ h=>(t ρ h).bind fun b h1=>if b then u ρ h1 else .ok false h1
def uG (t u:MT):MT:=fun ρ h=>(t ρ h).bind fun b h1=>if b then .ok true h1 else u ρ h1
def HY (a b:ME):ME:=fun ρ h=>(aO a ρ h).bind fun c h1=>if c then b ρ h1 else .ok (.bool false) h1
def JF (a b:ME):ME:=fun ρ h=>(aO a ρ h).bind fun c h1=>if c then .ok (.bool true) h1 else b ρ h1
def HZ (a:ME):ME:=fun ρ h=>(aO a ρ h).bind fun c h1=>.ok (.bool !c) h1
def GN (t:MT) (a b:ME):ME:=fun ρ h=>(t ρ h).bind fun c h1=>if c then a ρ h1 else b ρ h1
def D.data:D->Option PyData
 | .dat d=>some d
 | _=>Option.none
def fx:List D->Option (List PyData)
 | []=>some []
 | x::xs=>match x.data,fx xs with
  | some d,some ds=>some (d::ds)
  | _,_=>Option.none
theorem kC (ds:List PyData):fx (ds.map D.dat)=some ds:=by
 induction ds with
 | nil=>rfl
 | cons d ds ih=>simp [fx,D.data,ih]
def jS (n:Nat):Bool:=decide (n<=16777216)
def jT (xs:List D) (h:Hm):R D:=match fx xs with
 | some ds=>if jS ds.length then .ok (.dat (.tuple ds)) h else .bad
 | Option.none=>.bad
def gj (xs:List D) (h:Hm):R D:=match fx xs with
 | some ds=>if jS ds.length then .ok (.dat (.list ds)) h else .bad
 | Option.none=>.bad
def p7 (xs:List D) (h:Hm):R D:=if jS xs.length then .ok (.ref h.length) (h++[.lst xs]) else .bad
def jo (a:MA):ME:=ag jT a
def pF (a:MA):ME:=ag gj a
def xN (a:MA):ME:=ag p7 a
def cu:MS:=fun ρ h=>.ok (.nx ρ) h
def bQ (a b:MS):MS:=fun ρ h=>(a ρ h).bind fun f h1=>match f with
 | .nx ρ1=>b ρ1 h1
 | f=>.ok f h1
def df (i:Nat) (e:ME):MS:=fun ρ h=>(e ρ h).bind fun x h1=>.ok (.nx (ρ.set i (some x))) h1
def lj (e:ME):MS:=fun ρ h=>(e ρ h).bind fun _ h1=>.ok (.nx ρ) h1
def b8 (e:ME):MS:=fun ρ h=>(e ρ h).bind fun x h1=>.ok (.rt x) h1
def lq (t:MT) (a b:MS):MS:=fun ρ h=>(t ρ h).bind fun c h1=>if c then a ρ h1 else b ρ h1
def Ek:MS:=fun ρ h=>.ok (.bk ρ) h
def F2:MS:=fun ρ h=>.ok (.ct ρ) h
abbrev MG:=D->Fm->Hm->R Fm
def au (i:Nat):MG:=fun x ρ h=>.ok (ρ.set i (some x)) h
abbrev we:=List D->Fm->Hm->R Fm
def jj:we:=fun xs ρ h=>match xs with
 | []=>.ok ρ h
 | _=>.bad
def cq (g:MG) (gs:we):we:=fun xs ρ h=>match xs with
 | []=>.bad
 | x::xs=>(g x ρ h).bind fun ρ1 h1=>gs xs ρ1 h1
def jk (gs:we):MG:=fun x ρ h=>match x with
 | .dat (.tuple ds)=>gs (ds.map D.dat) ρ h
 | _=>.bad
def uY (g:MG) (e:ME):MS:=fun ρ h=>(e ρ h).bind fun x h1=>(g x ρ h1).bind fun ρ1 h2=>.ok (.nx ρ1) h2
def hG:List Nat->List D->Fm->Option Fm
 | [],[],ρ=>some ρ
 | i::is,x::xs,ρ=>hG is xs (ρ.set i (some x))
 | _,_,_=>Option.none
def yX (is:List Nat) (a:MA):MS:=fun ρ h=>(a ρ h).bind fun xs h1=>match hG is xs ρ with
 | some ρ1=>.ok (.nx ρ1) h1
 | Option.none=>.bad
def wg (e:ME):MA:=fun ρ h=>(e ρ h).bind fun x h1=>match x with
 | .dat (.tuple ds)=>.ok (ds.map D.dat) h1
 | _=>.bad
def yY (e:ME):MA:=fun ρ h=>(e ρ h).bind fun x h1=>match x with
 | .dat (.list ds)=>.ok (ds.map D.dat) h1
 | _=>.bad
def signs (x:Str):List D:=(List.range x.cps.size).map fun (i:Nat)=>D.str ⟨#[x.cps.getD i 0]⟩
def yZ (e:ME):MA:=fun ρ h=>(e ρ h).bind fun x h1=>match x with
 | .dat (.str s)=>.ok (signs s) h1
 | _=>.bad
def nums (lo:Int) (n:Nat):List D:=(List.range n).map fun (i:Nat)=>D.int (lo+(i:Int))
def fz (a:MA):MA:=fun ρ h=>(a ρ h).bind fun xs h1=>match xs with
 | [.dat (.int j)]=>if -(2 ^ 62)<=j/\j < 2 ^ 62 then .ok (nums 0 j.toNat) h1 else .bad
 | _=>.bad
def Em (a:MA):MA:=fun ρ h=>(a ρ h).bind fun xs h1=>match xs with
 | [.dat (.int i),.dat (.int j)]=>if -(2 ^ 62)<=i/\i < 2 ^ 62/\-(2 ^ 62)<=j/\j < 2 ^ 62 then .ok (nums i (j - i).toNat) h1 else .bad
 | _=>.bad
def iW:List PyData->List PyData->List D
 | x::xs,y::ys=>.dat (.tuple [x,y])::iW xs ys
 | _,_=>[]
def wj (a:MA):MA:=fun ρ h=>(a ρ h).bind fun xs h1=>match xs with
 | [.dat (.tuple ds),.dat (.tuple es)]=>.ok (iW ds es) h1
 | _=>.bad
def dw (g:MG) (b:MS):List D->Fm->Hm->R Fl
 | [],ρ,h=>.ok (.nx ρ) h
 | x::xs,ρ,h=>(g x ρ h).yV.bind fun ρ1 h1=>(b ρ1 h1).yV.bind fun f h2=>match f with
  | .nx ρ2=>dw g b xs ρ2 h2
  | .ct ρ2=>dw g b xs ρ2 h2
  | .bk ρ2=>.ok (.nx ρ2) h2
  | .rt d=>.ok (.rt d) h2
def gB (it:MA) (g:MG) (b:MS):MS:=fun ρ h=>(it ρ h).yV.bind fun xs h1=>dw g b xs ρ h1
def cR (n:Nat) (ρ:Fm) (g:MG) (t:MT) (e:ME):List D->Hm->R (List D)
 | [],h=>.ok [] h
 | x::xs,h=>(g x (List.replicate n none++ρ) h).yV.bind fun ρ1 h1=>(t ρ1 h1).yV.bind fun c h2=>
  if c then (e ρ1 h2).yV.bind fun y h3=>(cR n ρ g t e xs h3).bind fun ys h4=>.ok (y::ys) h4
  else cR n ρ g t e xs h2
def dC:MT:=fun _ h=>.ok true h
def jU (n:Nat) (it:MA) (g:MG) (t:MT) (e:ME):MA:=fun ρ h=>(it ρ h).bind fun xs h1=>if jS xs.length then cR n ρ g t e xs h1 else .bad
def b9 (n:Nat) (it:MA) (g:MG) (t:MT) (e:ME):ME:=ag gj (jU n it g t e)
def nv:Fl->Hm->R D
 | .rt d,h=>.ok d h
 | .nx _,h=>.ok D.none h
 | _,_=>.bad
def bW (p n:Nat) (b:MS):Fn:=fun xs h=>if xs.length=p then (b (xs.map some++List.replicate (n - p) none) h).bind nv else .bad
def D.below (n:Nat):D->Bool
 | .ref i=>decide (i < n)
 | _=>true
def MO.below (n:Nat):MO->Bool
 | .lst xs=>xs.all (D.below n)
 | .mD _ _=>true
 | .ins _ fs=>fs.all fun p=>p.2.below n
 | .tab _ _=>true
def hU (f:Fn):Fn:=fun xs h=>match f xs h with
 | .ok d h'=>if d.below h.length && (h'.take h.length).all (MO.below h.length) && decide (h.length<=h'.length) then .ok d (h'.take h.length) else .bad
 | .exc x h'=>if (h'.take h.length).all (MO.below h.length) && decide (h.length<=h'.length) then .exc x (h'.take h.length) else .bad
 | .bad=>.bad
end Ml
namespace Ml
open PySem
def hE (f:D->Option PyData):List D->Option (List PyData)
 | []=>some []
 | x::xs=>match f x,hE f xs with
  | some d,some ds=>some (d::ds)
  | _,_=>Option.none
def uZ (h:Hm):Nat->D->Option PyData
 | _,.dat d=>some d
 | _,.ktup xs=>some (.tuple xs)
 | n+1,.ref i=>match h[i]? with
  | some (.lst xs)=>(hE (uZ h n) xs).map .list
  | _=>Option.none
 | _,_=>Option.none
abbrev sI (h:Hm) (x:D):Option PyData:=uZ h 3 x
@[simp] theorem wk (h:Hm) (n:Nat) (d:PyData):uZ h n (.dat d)=some d:=by cases n<;>rfl
def listOf (x:D) (h:Hm):Option (List PyData):=match x with
 | .dat (.list ds)=>some ds
 | .ref i=>match h[i]? with
  | some (.lst ys)=>fx ys
  | _=>Option.none
 | _=>Option.none
def eY (x y:D) (h:Hm):R D:=match x,y with
 | .dat (.int i),.dat (.int j)=>.ok (.int (i+j)) h
 | .dat (.str s),.dat (.str t)=>if jS (s.length+t.length) then .ok (.str (s++t)) h else .bad
 | .dat (.tuple xs),.dat (.tuple ys)=>if jS (xs.length+ys.length) then .ok (.dat (.tuple (xs++ys))) h else .bad
 | .dat (.list xs),.dat (.list ys)=>if jS (xs.length+ys.length) then .ok (.dat (.list (xs++ys))) h else .bad
 | _,_=>.bad
def H0 (x y:D) (h:Hm):R D:=match x,y with
 | .dat (.int i),.dat (.int j)=>.ok (.int (i - j)) h
 | _,_=>.bad
def ny (i j:Int):Bool:=(decide (-(2 ^ 64) < i) && decide (i < 2 ^ 64)) || (decide (-(2 ^ 64) < j) && decide (j < 2 ^ 64))
def kD (x y:D) (h:Hm):R D:=match x,y with
 | .dat (.int i),.dat (.int j)=>if ny i j then .ok (.int (i * j)) h else .bad
 | .dat (.list xs),.dat (.int k)=>if jS (xs.length * k.toNat) && decide (-(2 ^ 63)<=k) && decide (k < 2 ^ 63) then .ok (.dat (.list (List.replicate k.toNat xs).flatten)) h else .bad
 | _,_=>.bad
def oMod (x y:D) (h:Hm):R D:=match x,y with
 | .dat (.int i),.dat (.int j)=>if 0 < j then .ok (.int (i % j)) h else .bad
 | _,_=>.bad
def nA (x y:D) (h:Hm):R D:=match x,y with
 | .dat (.int i),.dat (.int j)=>if 0 < j/\j < 1073741824 then .ok (.int (i / j)) h else .bad
 | _,_=>.bad
def H9 (x:D) (h:Hm):R D:=match x with
 | .dat (.int i)=>.ok (.int (-i)) h
 | _=>.bad
def noDict (d:PyData):Bool:=!d.hasDict
def eqQ (d e:PyData):Option Bool:=if noDict d && noDict e && decide (min d.depth e.depth<=40) then some (PyData.eqv d e) else Option.none
def Av (d e:PyData):Option Bool:=match d,e with
 | .str _,.dict _=>some false
 | .tuple ds,.dict _=>if noDict (.tuple ds) then some false else Option.none
 | d,e=>eqQ d e
def oEq (x y:D) (h:Hm):R D:=match x,y with
 | .rpr s,.rpr t=>.ok (.bool (decide (s=t))) h
 | x,y=>match sI h x,sI h y with
  | some d,some e=>match eqQ d e with
   | some b=>.ok (.bool b) h
   | Option.none=>.bad
  | _,_=>.bad
def mE (x y:D) (h:Hm):R D:=match x,y with
 | .rpr s,.rpr t=>.ok (.bool (!decide (s=t))) h
 | x,y=>match sI h x,sI h y with
  | some d,some e=>match eqQ d e with
   | some b=>.ok (.bool !b) h
   | Option.none=>.bad
  | _,_=>.bad
def jn (x y:Str):Bool:=decide (x.cps.toList < y.cps.toList)
mutual
def bf:PyData->PyData->Option Bool
 | .int i,.int j=>some (decide (i < j))
 | .str x,.str y=>some (jn x y)
 | .tuple xs,.tuple ys=>bV xs ys
 | _,_=>Option.none
def bV:List PyData->List PyData->Option Bool
 | [],[]=>some false
 | [],_::_=>some true
 | _::_,[]=>some false
 | x::xs,y::ys=>if PyData.eqv x y then bV xs ys else bf x y
end
def oLt (x y:D) (h:Hm):R D:=match x,y with
 | .dat d,.dat e=>if noDict d && noDict e && decide (min d.depth e.depth<=40) then match bf d e with
  | some b=>.ok (.bool b) h
  | Option.none=>.bad
  else .bad
 | _,_=>.bad
def oLe (x y:D) (h:Hm):R D:=match x,y with
 | .dat (.int i),.dat (.int j)=>.ok (.bool (decide (i<=j))) h
 | .dat (.str s),.dat (.str t)=>.ok (.bool (!jn t s)) h
 | _,_=>.bad
def F3 (x y:D) (h:Hm):R D:=match x,y with
 | .dat (.int i),.dat (.int j)=>.ok (.bool (decide (j < i))) h
 | _,_=>.bad
def JG (x y:D) (h:Hm):R D:=match x,y with
 | .dat (.int i),.dat (.int j)=>.ok (.bool (decide (j<=i))) h
 | _,_=>.bad
def Bj (x:PyData):List PyData->Option Bool
 | []=>some false
 | y::ys=>match Av y x,Bj x ys with
  | some a,some b=>some (a || b)
  | _,_=>Option.none
def dU:PyData->Bool
 | .tuple _=>true
 | _=>false
def hV:PyData->Bool
 | .str _=>true
 | _=>false
def p8 (k:PyData) (kvs:List (PyData×PyData)):Bool:=kvs.any fun p=>PyData.eqv p.1 k
def hX (y:D) (h:Hm):Option (Bool×List (PyData×PyData)):=match y with
 | .mD t kvs=>some (t,kvs)
 | .ref i=>match h[i]? with
  | some (.mD t kvs)=>some (t,kvs)
  | _=>Option.none
 | _=>Option.none
mutual
def ai:PyData->Bool
 | .str _=>true
 | .tuple ds=>aK ds
 | _=>false
def aK:List PyData->Bool
 | []=>true
 | d::ds=>ai d && aK ds
end
def keyOk (t:Bool) (k:PyData):Bool:=if t then dU k && ai k && decide (k.depth<=8) else hV k
def u0 (x:D) (kvs:List (PyData×PyData)) (t:Bool):Option Bool:=match x with
 | .dat d=>if keyOk t d then some (p8 d kvs) else Option.none
 | _=>Option.none
def iF (x y:D) (h:Hm):Option Bool:=match y with
 | .dat (.str s)=>match x with
  | .dat (.str t)=>some (!(Builtin.Str.occurrences s t 0 s.length 1).isEmpty)
  | _=>Option.none
 | y=>match sI h x,sI h y with
  | some d,some (.tuple ds)=>Bj d ds
  | some d,some (.list ds)=>Bj d ds
  | _,_=>Option.none
def findIn (x y:D) (h:Hm):Option Bool:=match hX y h with
 | some p=>u0 x p.2 p.1
 | Option.none=>iF x y h
def CP (x y:D) (h:Hm):R D:=match findIn x y h with
 | some b=>.ok (.bool b) h
 | Option.none=>.bad
def nB (x y:D) (h:Hm):R D:=match findIn x y h with
 | some b=>.ok (.bool !b) h
 | Option.none=>.bad
def wm:PyData->Bool
 | .none | .bool _ | .int _ | .str _=>true
 | _=>false
def dput (kvs:List (PyData×PyData)) (k v:PyData):List (PyData×PyData):=
 if p8 k kvs then kvs.map (fun p=>if PyData.eqv p.1 k then (p.1,v) else p) else kvs++[(k,v)]
def xO (kvs:List (PyData×PyData)) (k:PyData):Option PyData:=(kvs.find? fun p=>PyData.eqv p.1 k).map (·.2)
def sG (n:Nat) (i:Int):Option Nat:=if 0<=i then (if i < n then some i.toNat else Option.none) else if -(n:Int)<=i then some (i+n).toNat else Option.none
def jF {α:Type} (xs:List α) (i:Int):Option α:=(sG xs.length i).bind fun j=>xs[j]?
def y0 (x y:D) (h:Hm):R D:=match y with
 | .dat (.int i)=>match x with
  | .dat (.tuple ds)=>match jF ds i with | some d=>.ok (.dat d) h | Option.none=>.bad
  | .dat (.list ds)=>match jF ds i with | some d=>.ok (.dat d) h | Option.none=>.bad
  | .ref j=>match h[j]? with
   | some (.lst xs)=>match jF xs i with | some d=>.ok d h | Option.none=>.bad
   | _=>.bad
  | .scr ns=>match jF ns i with | some n=>.ok (.int n) h | Option.none=>.bad
  | _=>.bad
 | _=>.bad
def gv (x y:D) (h:Hm):R D:=match hX x h with
 | some p=>match y with
  | .dat (.str k)=>if p.1 then .bad else match xO p.2 (.str k) with
   | some v=>.ok (.dat v) h
   | Option.none=>.bad
  | _=>.bad
 | Option.none=>y0 x y h
def cU (n d:Nat):Option Int->Nat
 | Option.none=>d
 | some v=>if v < 0 then (v+(n:Int)).toNat else min v.toNat n
def cut {α:Type} (ds:List α) (lo hi:Option Int):List α:=(ds.drop (cU ds.length 0 lo)).take (cU ds.length ds.length hi - cU ds.length 0 lo)
abbrev CQ:=Fm->Hm->R (Option Int)
def wo:CQ:=fun _ h=>.ok Option.none h
def wq (e:ME):CQ:=fun ρ h=>(e ρ h).bind fun x h1=>match x with
 | .dat (.int i)=>.ok (some i) h1
 | _=>.bad
def F4 (x:D) (lo hi:Option Int) (h:Hm):R D:=match x with
 | .dat (.tuple ds)=>.ok (.dat (.tuple (cut ds lo hi))) h
 | .dat (.list ds)=>.ok (.dat (.list (cut ds lo hi))) h
 | _=>.bad
def GO (e:ME) (lo hi:CQ):ME:=fun ρ h=>(e ρ h).bind fun x h1=>(lo ρ h1).bind fun l h2=>(hi ρ h2).bind fun u h3=>F4 x l u h3
def fX:Fn:=fun xs h=>match xs with
 | [.dat (.str s)]=>if jS s.length then .ok (.int s.length) h else .bad
 | [.dat (.tuple ds)]=>.ok (.int ds.length) h
 | [.dat (.list ds)]=>.ok (.int ds.length) h
 | [.ref i]=>match h[i]? with
  | some (.lst ys)=>.ok (.int ys.length) h
  | _=>.bad
 | [.scr ns]=>.ok (.int ns.length) h
 | _=>.bad
def bools:List PyData->Option (List Bool)
 | []=>some []
 | .bool b::ds=>(bools ds).map (b::·)
 | _=>Option.none
theorem xP (bs:List Bool):bools (bs.map .bool)=some bs:=by
 induction bs with
 | nil=>rfl
 | cons b bs ih=>simp [bools,ih]
def qY:Fn:=fun xs h=>match xs with
 | [.dat (.list ds)]=>match bools ds with
  | some bs=>.ok (.bool (bs.all id)) h
  | Option.none=>.bad
 | _=>.bad
def isTup:PyData->Bool | .tuple _=>true | _=>false
def isStr:PyData->Bool | .str _=>true | _=>false
def isInt:PyData->Bool | .int _ | .bool _=>true | _=>false
def nC:PyData->Bool | .bool _=>true | _=>false
def tj (f:PyData->Bool):D->Hm->R D:=fun x h=>match x with
 | .dat d=>.ok (.bool (f d)) h
 | _=>.bad
def fA (x:Str):List PyData:=(List.range x.cps.size).map fun (i:Nat)=>.str ⟨#[x.cps.getD i 0]⟩
def fY:Fn:=fun xs h=>match xs with
 | [.dat (.tuple ds)]=>.ok (.dat (.tuple ds)) h
 | [.dat (.str s)]=>if jS s.cps.size then .ok (.dat (.tuple (fA s))) h else .bad
 | [x]=>match listOf x h with
  | some ds=>.ok (.dat (.tuple ds)) h
  | Option.none=>.bad
 | _=>.bad
def qZ:Fn:=fun xs h=>match xs with
 | [.dat (.tuple ds)]=>.ok (.dat (.list ds)) h
 | [x]=>match listOf x h with
  | some ds=>.ok (.dat (.list ds)) h
  | Option.none=>.bad
 | _=>.bad
def p9:Fn:=fun xs h=>match xs with
 | [x]=>match hX x h with
  | some p=>.ok (.dat (.list (p.2.map (·.1)))) h
  | Option.none=>qZ [x] h
 | _=>.bad
def u5 (lt:PyData->PyData->Bool) (x:PyData):List PyData->List PyData
 | []=>[x]
 | y::ys=>if lt y x then y::u5 lt x ys else x::y::ys
def bG (lt:PyData->PyData->Bool):List PyData->List PyData
 | []=>[]
 | x::xs=>u5 lt x (bG lt xs)
def ltB (d e:PyData):Bool:=(bf d e).getD false
def mF:Fn:=fun xs h=>match xs with
 | [.dat (.int i),.dat (.int j)]=>if 0 < j/\j < 1073741824 then .ok (.dat (.tuple [.int (i / j),.int (i % j)])) h else .bad
 | _=>.bad
def Bk:Fn:=fun xs h=>match xs with
 | [.dat (.int i)]=>.ok (.int (if i < 0 then -i else i)) h
 | _=>.bad
def y6:Fn:=fun xs h=>match xs with
 | [.dat (.int i),.dat (.int j)]=>.ok (.int (if j > i then j else i)) h
 | _=>.bad
def y7:Fn:=fun xs h=>match xs with
 | [.dat (.int i),.dat (.int j)]=>.ok (.int (if j < i then j else i)) h
 | _=>.bad
def kE (x y:D) (h:Hm):R D:=match x,y with
 | .ref i,.dat (.int k)=>match h[i]? with
  | some (.lst xs)=>if 0<=k/\k < xs.length/\k < 1000000 then match xs[k.toNat]? with
    | some d=>.ok d (h.set i (.lst (xs.eraseIdx k.toNat)))
    | Option.none=>.bad
   else .bad
  | _=>.bad
 | _,_=>.bad
def wt (x y v:D) (h:Hm):R Unit:=match x,y with
 | .ref i,.dat (.int k)=>match h[i]? with
  | some (.lst xs)=>match sG xs.length k with
   | some j=>.ok () (h.set i (.lst (xs.set j v)))
   | Option.none=>.bad
  | _=>.bad
 | _,_=>.bad
def CT (i:Nat) (t:Bool) (kvs:List (PyData×PyData)) (y v:D) (h:Hm):R Unit:=match y,v with
 | .dat k,.dat d=>if keyOk t k && (t || wm d) && decide (kvs.length < 16777216) then .ok () (h.set i (.mD t (dput kvs k d))) else .bad
 | _,_=>.bad
def q9 (x y v:D) (h:Hm):R Unit:=match x with
 | .ref i=>match h[i]? with
  | some (.mD t kvs)=>CT i t kvs y v h
  | _=>wt x y v h
 | _=>.bad
def yo (eo ei:ME):MG:=fun v ρ h=>(eo ρ h).bind fun o h1=>(ei ρ h1).bind fun i h2=>(q9 o i v h2).bind fun _ h3=>.ok ρ h3
def truth (x:D) (h:Hm):Option Bool:=match x with
 | .dat .none=>some false
 | .dat (.bool b)=>some b
 | .dat (.int i)=>some (i != 0)
 | .dat (.str s)=>if jS s.length then some ((s.length:Int) != 0) else Option.none
 | .dat (.tuple ds)=>some !ds.isEmpty
 | .dat (.list ds)=>some !ds.isEmpty
 | .ref i=>match h[i]? with
  | some (.lst xs)=>some !xs.isEmpty
  | _=>Option.none
 | _=>Option.none
def eS (e:ME):MT:=fun ρ h=>(e ρ h).bind fun x h1=>match truth x h1 with
 | some b=>.ok b h1
 | Option.none=>.bad
end Ml
namespace Ml
open PySem
mutual
def cg:PyData->Bool
 | .str x=>PyData.strOk x
 | .list xs | .tuple xs=>bM xs
 | _=>true
def bM:List PyData->Bool
 | []=>true
 | x::xs=>cg x && bM xs
end
mutual
theorem fZ:∀ {d:PyData},cg d=true->d.hasDict=false->d.canLay0=true
 | .none,_,_=>by simp [PyData.canLay0]
 | .bool _,_,_=>by simp [PyData.canLay0]
 | .int _,_,_=>by simp [PyData.canLay0]
 | .str x,h,_=>by simp only [cg] at h;simpa [PyData.canLay0] using h
 | .tuple ds,h,k=>by simp only [cg] at h;simp only [PyData.hasDict] at k;simp only [PyData.canLay0];exact jV h k
 | .list ds,h,k=>by simp only [cg] at h;simp only [PyData.hasDict] at k;simp only [PyData.canLay0];exact jV h k
 | .dict _,_,k=>by simp [PyData.hasDict] at k
theorem jV:∀ {ds:List PyData},bM ds=true->PyData.hasDictAll ds=false->PyData.canLayAll0 ds=true
 | [],_,_=>by simp [PyData.canLayAll0]
 | d::ds,h,k=>by
  simp only [bM,Bool.and_eq_true] at h
  simp only [PyData.hasDictAll,Bool.or_eq_false_iff] at k
  simp only [PyData.canLayAll0,Bool.and_eq_true]
  exact ⟨fZ h.1 k.1,jV h.2 k.2⟩
end
mutual
def af:PyData->Bool
 | .int _ | .str _=>true
 | .tuple ds=>ah ds
 | _=>false
def ah:List PyData->Bool
 | []=>true
 | d::ds=>af d && ah ds
end
theorem aF:∀ {ds:List PyData} {d:PyData},ah ds=true->d∈ds->af d=true
 | _::_,d,h,m=>by
  simp only [ah,Bool.and_eq_true] at h
  rcases List.mem_cons.mp m with rfl | m
  ·exact h.1
  ·exact aF h.2 m
theorem fN:∀ {ds:List PyData},(∀ d∈ds,af d=true)->ah ds=true
 | [],_=>by simp [ah]
 | d::ds,h=>by simp only [ah,Bool.and_eq_true];exact ⟨h d (by simp),fN fun e m=>h e (by simp [m])⟩
mutual
theorem eG:∀ {d e:PyData},af d=true->af e=true->(PyData.eqv d e=true<->d=e)
 | .int i,.int j,_,_=>by simp [PyData.eqv]
 | .str x,.str y,_,_=>by simp [PyData.eqv]
 | .tuple xs,.tuple ys,h,k=>by
  simp only [af] at h k
  simp only [PyData.eqv,PyData.tuple.injEq]
  exact kF h k
 | .int _,.str _,_,_=>by simp [PyData.eqv]
 | .int _,.tuple _,_,_=>by simp [PyData.eqv]
 | .str _,.int _,_,_=>by simp [PyData.eqv]
 | .str _,.tuple _,_,_=>by simp [PyData.eqv]
 | .tuple _,.int _,_,_=>by simp [PyData.eqv]
 | .tuple _,.str _,_,_=>by simp [PyData.eqv]
 | .none,_,h,_=>by simp [af] at h
 | .bool _,_,h,_=>by simp [af] at h
 | .list _,_,h,_=>by simp [af] at h
 | .dict _,_,h,_=>by simp [af] at h
 | .int _,.none,_,h=>by simp [af] at h
 | .int _,.bool _,_,h=>by simp [af] at h
 | .int _,.list _,_,h=>by simp [af] at h
 | .int _,.dict _,_,h=>by simp [af] at h
 | .str _,.none,_,h=>by simp [af] at h
 | .str _,.bool _,_,h=>by simp [af] at h
 | .str _,.list _,_,h=>by simp [af] at h
 | .str _,.dict _,_,h=>by simp [af] at h
 | .tuple _,.none,_,h=>by simp [af] at h
 | .tuple _,.bool _,_,h=>by simp [af] at h
 | .tuple _,.list _,_,h=>by simp [af] at h
 | .tuple _,.dict _,_,h=>by simp [af] at h
theorem kF:∀ {xs ys:List PyData},ah xs=true->ah ys=true->(PyData.eqvAll xs ys=true<->xs=ys)
 | [],[],_,_=>by simp [PyData.eqvAll]
 | [],_::_,_,_=>by simp [PyData.eqvAll]
 | _::_,[],_,_=>by simp [PyData.eqvAll]
 | x::xs,y::ys,h,k=>by
  simp only [ah,Bool.and_eq_true] at h k
  simp only [PyData.eqvAll,Bool.and_eq_true,List.cons.injEq]
  rw [eG h.1 k.1,kF h.2 k.2]
end
mutual
theorem dy:∀ {d:PyData},af d=true->d.hasDict=false
 | .int _,_=>rfl
 | .str _,_=>rfl
 | .tuple ds,h=>by simp only [af] at h;simp only [PyData.hasDict];exact dD h
 | .none,h=>by simp [af] at h
 | .bool _,h=>by simp [af] at h
 | .list _,h=>by simp [af] at h
 | .dict _,h=>by simp [af] at h
theorem dD:∀ {ds:List PyData},ah ds=true->PyData.hasDictAll ds=false
 | [],_=>rfl
 | d::ds,h=>by
  simp only [ah,Bool.and_eq_true] at h
  simp only [PyData.hasDictAll,Bool.or_eq_false_iff]
  exact ⟨dy h.1,dD h.2⟩
end
theorem aH {d:PyData} (h:af d=true):PyData.eqv d d=true:=(eG h h).mpr rfl
theorem aR {d e:PyData} (h:af d=true) (k:af e=true) (ne:d≠e):PyData.eqv d e=false:=by
 cases q:PyData.eqv d e with
 | false=>rfl
 | true=>exact absurd ((eG h k).mp q) ne
theorem Ia {x y:Str} (h:x.cps.toList=y.cps.toList):x=y:=by
 obtain ⟨⟨a⟩⟩:=x
 obtain ⟨⟨b⟩⟩:=y
 simp at h
 subst h
 rfl
theorem qX (x:Str):jn x x=false:=decide_eq_false (List.lt_irrefl _)
theorem uX {x y z:Str} (h:jn x y=true) (h':jn y z=true):jn x z=true:=decide_eq_true (List.lt_trans (of_decide_eq_true h) (of_decide_eq_true h'))
theorem yU {x y:Str} (h:jn x y=true):jn y x=false:=decide_eq_false fun z=>List.lt_irrefl _ (List.lt_trans (of_decide_eq_true h) z)
theorem wc {x y:Str} (h:jn x y=false) (h':jn y x=false):x=y:=
 Ia (List.le_antisymm (List.not_lt.mp (of_decide_eq_false h')) (List.not_lt.mp (of_decide_eq_false h)))
mutual
theorem y8:∀ {d e:PyData},af d=true->af e=true->bf d e=some true->bf e d=some false
 | .int i,.int j,_,_,h=>by simp [bf] at h ⊢;omega
 | .str x,.str y,_,_,h=>by simp only [bf,Option.some.injEq] at h ⊢;exact yU h
 | .tuple xs,.tuple ys,h,k,q=>by simp only [af] at h k;simp only [bf] at q ⊢;exact wx h k q
 | .int _,.str _,_,_,h=>by simp [bf] at h
 | .int _,.tuple _,_,_,h=>by simp [bf] at h
 | .str _,.int _,_,_,h=>by simp [bf] at h
 | .str _,.tuple _,_,_,h=>by simp [bf] at h
 | .tuple _,.int _,_,_,h=>by simp [bf] at h
 | .tuple _,.str _,_,_,h=>by simp [bf] at h
 | .none,_,h,_,_=>by simp [af] at h
 | .bool _,_,h,_,_=>by simp [af] at h
 | .list _,_,h,_,_=>by simp [af] at h
 | .dict _,_,h,_,_=>by simp [af] at h
 | _,.none,_,h,_=>by simp [af] at h
 | _,.bool _,_,h,_=>by simp [af] at h
 | _,.list _,_,h,_=>by simp [af] at h
 | _,.dict _,_,h,_=>by simp [af] at h
theorem wx:∀ {xs ys:List PyData},ah xs=true->ah ys=true->bV xs ys=some true->bV ys xs=some false
 | [],[],_,_,h=>by simp [bV] at h
 | [],_::_,_,_,_=>by simp [bV]
 | _::_,[],_,_,h=>by simp [bV] at h
 | x::xs,y::ys,h,k,q=>by
  simp only [ah,Bool.and_eq_true] at h k
  simp only [bV] at q ⊢
  by_cases e:x=y
  ·subst e
   rw [aH h.1,if_pos rfl] at q ⊢
   exact wx h.2 k.2 q
  ·rw [aR h.1 k.1 e,if_neg (by simp)] at q
   rw [aR k.1 h.1 (fun z=>e z.symm),if_neg (by simp)]
   exact y8 h.1 k.1 q
end
mutual
theorem wy:∀ {d e:PyData},af d=true->af e=true->bf d e=some false->bf e d=some false->d=e
 | .int i,.int j,_,_,h,h'=>by simp [bf] at h h';congr 1;omega
 | .str x,.str y,_,_,h,h'=>by simp only [bf,Option.some.injEq] at h h';rw [wc h h']
 | .tuple xs,.tuple ys,h,k,q,q'=>by simp only [af] at h k;simp only [bf] at q q';rw [tm h k q q']
 | .int _,.str _,_,_,h,_=>by simp [bf] at h
 | .int _,.tuple _,_,_,h,_=>by simp [bf] at h
 | .str _,.int _,_,_,h,_=>by simp [bf] at h
 | .str _,.tuple _,_,_,h,_=>by simp [bf] at h
 | .tuple _,.int _,_,_,h,_=>by simp [bf] at h
 | .tuple _,.str _,_,_,h,_=>by simp [bf] at h
 | .none,_,h,_,_,_=>by simp [af] at h
 | .bool _,_,h,_,_,_=>by simp [af] at h
 | .list _,_,h,_,_,_=>by simp [af] at h
 | .dict _,_,h,_,_,_=>by simp [af] at h
 | _,.none,_,h,_,_=>by simp [af] at h
 | _,.bool _,_,h,_,_=>by simp [af] at h
 | _,.list _,_,h,_,_=>by simp [af] at h
 | _,.dict _,_,h,_,_=>by simp [af] at h
theorem tm:∀ {xs ys:List PyData},ah xs=true->ah ys=true->bV xs ys=some false->bV ys xs=some false->xs=ys
 | [],[],_,_,_,_=>rfl
 | [],_::_,_,_,h,_=>by simp [bV] at h
 | _::_,[],_,_,_,h=>by simp [bV] at h
 | x::xs,y::ys,h,k,q,q'=>by
  simp only [ah,Bool.and_eq_true] at h k
  simp only [bV] at q q'
  by_cases e:x=y
  ·subst e
   rw [aH h.1,if_pos rfl] at q q'
   rw [tm h.2 k.2 q q']
  ·rw [aR h.1 k.1 e,if_neg (by simp)] at q
   rw [aR k.1 h.1 (fun z=>e z.symm),if_neg (by simp)] at q'
   exact absurd (wy h.1 k.1 q q') e
end
mutual
theorem rf:∀ {d:PyData},af d=true->bf d d=some false
 | .int i,_=>by simp [bf]
 | .str x,_=>by simp [bf,qX]
 | .tuple xs,h=>by simp only [af] at h;simp only [bf];exact tp h
 | .none,h=>by simp [af] at h
 | .bool _,h=>by simp [af] at h
 | .list _,h=>by simp [af] at h
 | .dict _,h=>by simp [af] at h
theorem tp:∀ {xs:List PyData},ah xs=true->bV xs xs=some false
 | [],_=>by simp [bV]
 | x::xs,h=>by
  simp only [ah,Bool.and_eq_true] at h
  simp only [bV]
  rw [aH h.1,if_pos rfl]
  exact tp h.2
end
mutual
theorem y9:∀ {d e f:PyData},af d=true->af e=true->af f=true->bf d e=some true->bf e f=some true->bf d f=some true
 | .int i,.int j,.int k,_,_,_,h,h'=>by simp [bf] at h h' ⊢;omega
 | .str x,.str y,.str z,_,_,_,h,h'=>by simp only [bf,Option.some.injEq] at h h' ⊢;exact uX h h'
 | .tuple xs,.tuple ys,.tuple zs,h,k,l,q,q'=>by simp only [af] at h k l;simp only [bf] at q q' ⊢;exact wz h k l q q'
 | .none,_,_,h,_,_,_,_=>by simp [af] at h
 | .bool _,_,_,h,_,_,_,_=>by simp [af] at h
 | .list _,_,_,h,_,_,_,_=>by simp [af] at h
 | .dict _,_,_,h,_,_,_,_=>by simp [af] at h
 | .int _,.none,_,_,_,_,h,_=>by simp [bf] at h
 | .int _,.bool _,_,_,_,_,h,_=>by simp [bf] at h
 | .int _,.str _,_,_,_,_,h,_=>by simp [bf] at h
 | .int _,.list _,_,_,_,_,h,_=>by simp [bf] at h
 | .int _,.tuple _,_,_,_,_,h,_=>by simp [bf] at h
 | .int _,.dict _,_,_,_,_,h,_=>by simp [bf] at h
 | .str _,.none,_,_,_,_,h,_=>by simp [bf] at h
 | .str _,.bool _,_,_,_,_,h,_=>by simp [bf] at h
 | .str _,.int _,_,_,_,_,h,_=>by simp [bf] at h
 | .str _,.list _,_,_,_,_,h,_=>by simp [bf] at h
 | .str _,.tuple _,_,_,_,_,h,_=>by simp [bf] at h
 | .str _,.dict _,_,_,_,_,h,_=>by simp [bf] at h
 | .tuple _,.none,_,_,_,_,h,_=>by simp [bf] at h
 | .tuple _,.bool _,_,_,_,_,h,_=>by simp [bf] at h
 | .tuple _,.int _,_,_,_,_,h,_=>by simp [bf] at h
 | .tuple _,.list _,_,_,_,_,h,_=>by simp [bf] at h
 | .tuple _,.str _,_,_,_,_,h,_=>by simp [bf] at h
 | .tuple _,.dict _,_,_,_,_,h,_=>by simp [bf] at h
 | .int _,.int _,.none,_,_,_,_,h=>by simp [bf] at h
 | .int _,.int _,.bool _,_,_,_,_,h=>by simp [bf] at h
 | .int _,.int _,.str _,_,_,_,_,h=>by simp [bf] at h
 | .int _,.int _,.list _,_,_,_,_,h=>by simp [bf] at h
 | .int _,.int _,.tuple _,_,_,_,_,h=>by simp [bf] at h
 | .int _,.int _,.dict _,_,_,_,_,h=>by simp [bf] at h
 | .str _,.str _,.none,_,_,_,_,h=>by simp [bf] at h
 | .str _,.str _,.bool _,_,_,_,_,h=>by simp [bf] at h
 | .str _,.str _,.int _,_,_,_,_,h=>by simp [bf] at h
 | .str _,.str _,.list _,_,_,_,_,h=>by simp [bf] at h
 | .str _,.str _,.tuple _,_,_,_,_,h=>by simp [bf] at h
 | .str _,.str _,.dict _,_,_,_,_,h=>by simp [bf] at h
 | .tuple _,.tuple _,.none,_,_,_,_,h=>by simp [bf] at h
 | .tuple _,.tuple _,.bool _,_,_,_,_,h=>by simp [bf] at h
 | .tuple _,.tuple _,.int _,_,_,_,_,h=>by simp [bf] at h
 | .tuple _,.tuple _,.list _,_,_,_,_,h=>by simp [bf] at h
 | .tuple _,.tuple _,.str _,_,_,_,_,h=>by simp [bf] at h
 | .tuple _,.tuple _,.dict _,_,_,_,_,h=>by simp [bf] at h
theorem wz:∀ {xs ys zs:List PyData},ah xs=true->ah ys=true->ah zs=true->bV xs ys=some true->bV ys zs=some true->bV xs zs=some true
 | [],[],_,_,_,_,h,_=>by simp [bV] at h
 | [],_::_,[],_,_,_,_,h=>by simp [bV] at h
 | [],_::_,_::_,_,_,_,_,_=>by simp [bV]
 | _::_,[],_,_,_,_,h,_=>by simp [bV] at h
 | _::_,_::_,[],_,_,_,_,h=>by simp [bV] at h
 | x::xs,y::ys,z::zs,h,k,l,q,q'=>by
  simp only [ah,Bool.and_eq_true] at h k l
  simp only [bV] at q q' ⊢
  by_cases e1:x=y
  ·subst e1
   rw [aH h.1,if_pos rfl] at q
   by_cases e2:x=z
   ·subst e2
    rw [aH h.1,if_pos rfl] at q' ⊢
    exact wz h.2 k.2 l.2 q q'
   ·rw [aR h.1 l.1 e2,if_neg (by simp)] at q' ⊢
    exact q'
  ·rw [aR h.1 k.1 e1,if_neg (by simp)] at q
   by_cases e2:y=z
   ·subst e2
    rw [aR h.1 k.1 e1,if_neg (by simp)]
    exact q
   ·rw [aR k.1 l.1 e2,if_neg (by simp)] at q'
    have q3:=y9 h.1 k.1 l.1 q q'
    by_cases e3:x=z
    ·subst e3
     rw [rf h.1] at q3
     cases q3
    ·rw [aR h.1 l.1 e3,if_neg (by simp)]
     exact q3
end
def bD (ds:List PyData):Bool:=ds.all fun a=>ds.all fun b=>(bf a b).isSome
theorem dh {ds:List PyData} (h:bD ds=true) {a b:PyData} (ha:a∈ds) (hb:b∈ds):bf a b=some (ltB a b):=by
 have:=List.all_eq_true.mp (List.all_eq_true.mp h a ha) b hb
 unfold ltB
 cases q:bf a b with
 | none=>rw [q] at this;cases this
 | some k=>rfl
def eT:PyData->Bool | .tuple _=>true | _=>false
def nE:PyData->Bool | .str _=>true | _=>false
def cw (ds:List PyData):Bool:=(ds.all nE || ds.all eT) && ah ds && bD ds && decide (PyData.depthAll ds<=20) && decide (ds.length < 64)
def eZ:Fn:=fun xs h=>match xs with
 | [x]=>match listOf x h with
  | some ds=>if cw ds then .ok (.dat (.list (bG ltB ds))) h else .bad
  | Option.none=>.bad
 | _=>.bad
theorem kG {ds:List PyData} (c:bD ds=true) (t:ah ds=true) {a b:PyData} (ha:a∈ds) (hb:b∈ds) (h:ltB a b=true):ltB b a=false:=by
 have h1:=dh c ha hb
 rw [h] at h1
 unfold ltB
 rw [y8 (aF t ha) (aF t hb) h1]
 rfl
theorem jW {ds:List PyData} (c:bD ds=true) (t:ah ds=true) {a b:PyData} (ha:a∈ds) (hb:b∈ds) (h:ltB b a=false):ltB a b=true\/a=b:=by
 cases q:ltB a b with
 | true=>exact .inl rfl
 | false=>
  have h1:=dh c ha hb
  have h2:=dh c hb ha
  rw [q] at h1
  rw [h] at h2
  exact .inr (wy (aF t ha) (aF t hb) h1 h2)
theorem wA {ds:List PyData} (c:bD ds=true) (t:ah ds=true) {a b d:PyData} (ha:a∈ds) (hb:b∈ds) (hd:d∈ds) (h:ltB b a=false) (h':ltB d b=false):ltB d a=false:=by
 rcases jW c t ha hb h with h1 | rfl
 ·rcases jW c t hb hd h' with h2 | rfl
  ·have q1:=dh c ha hb
   have q2:=dh c hb hd
   rw [h1] at q1
   rw [h2] at q2
   have q3:=y9 (aF t ha) (aF t hb) (aF t hd) q1 q2
   exact kG c t ha hd (by unfold ltB;rw [q3];rfl)
  ·exact kG c t ha hb h1
 ·exact h'
end Ml
namespace Ml
open PySem
theorem kH (lt:PyData->PyData->Bool) (x:PyData):∀ ys:List PyData,(u5 lt x ys).Perm (x::ys)
 | []=>.refl _
 | y::ys=>by
  unfold u5
  split
  ·exact ((kH lt x ys).cons y).trans (.swap x y ys)
  ·exact .refl _
theorem bw (lt:PyData->PyData->Bool):∀ xs:List PyData,(bG lt xs).Perm xs
 | []=>.refl _
 | x::xs=>(kH lt x _).trans ((bw lt xs).cons x)
def Up (lt:PyData->PyData->Bool) (xs:List PyData):Prop:=xs.Pairwise fun a b=>lt b a=false
structure Ord (lt:PyData->PyData->Bool) (ds:List PyData):Prop where
 as:∀ {a b},a∈ds->b∈ds->lt a b=true->lt b a=false
 ntr:∀ {a b d},a∈ds->b∈ds->d∈ds->lt b a=false->lt d b=false->lt d a=false
 tot:∀ {a b},a∈ds->b∈ds->lt a b=false->lt b a=false->a=b
theorem Ord.sub {lt:PyData->PyData->Bool} {ds es:List PyData} (o:Ord lt ds) (h:∀ e∈es,e∈ds):Ord lt es:=
 ⟨fun a b=>o.as (h _ a) (h _ b),fun a b d=>o.ntr (h _ a) (h _ b) (h _ d),fun a b=>o.tot (h _ a) (h _ b)⟩
theorem wB {lt:PyData->PyData->Bool} {x:PyData}:∀ {ys:List PyData},Ord lt (x::ys)->Up lt ys->Up lt (u5 lt x ys)
 | [],_,_=>by simp [u5,Up]
 | y::ys,o,u=>by
  unfold u5
  unfold Up at u
  rw [List.pairwise_cons] at u
  split
  ·rename_i h
   refine List.pairwise_cons.mpr ⟨fun b hb=>?_,wB (o.sub fun e m=>by simp at m ⊢;rcases m with rfl | m<;>simp [*]) u.2⟩
   rcases List.mem_cons.mp ((kH lt x ys).mem_iff.mp hb) with rfl | hb
   ·exact o.as (by simp) (by simp) h
   ·exact u.1 b hb
  ·rename_i h
   have h':lt y x=false:=by simpa using h
   refine List.pairwise_cons.mpr ⟨fun b hb=>?_,List.pairwise_cons.mpr u⟩
   rcases List.mem_cons.mp hb with rfl | hb
   ·exact h'
   ·exact o.ntr (by simp) (by simp) (by simp [hb]) h' (u.1 b hb)
theorem nF {lt:PyData->PyData->Bool}:∀ {xs:List PyData},Ord lt xs->Up lt (bG lt xs)
 | [],_=>by simp [bG,Up]
 | x::xs,o=>wB (o.sub fun e m=>by
     rcases List.mem_cons.mp m with rfl | m
     ·simp
     ·simp [(bw lt xs).mem_iff.mp m]) (nF (o.sub fun e m=>by simp [m]))
theorem kI {lt:PyData->PyData->Bool}:∀ {xs ys:List PyData},Ord lt xs->xs.Perm ys->Up lt xs->Up lt ys->xs=ys
 | [],ys,_,p,_,_=>by rw [List.nil_perm.mp p]
 | x::xs,ys,o,p,u,v=>by
  cases ys with
  | nil=>exact absurd p (by simp)
  | cons y ys=>
   have hx:x∈y::ys:=p.mem_iff.mp (by simp)
   have hy:y∈x::xs:=p.mem_iff.mpr (by simp)
   have e:x=y:=by
    rcases List.mem_cons.mp hx with e | hx
    ·exact e
    rcases List.mem_cons.mp hy with e | hy
    ·exact e.symm
    exact o.tot (by simp) (by simp [hy]) ((List.pairwise_cons.mp v).1 x hx) ((List.pairwise_cons.mp u).1 y hy)
   subst e
   rw [kI (o.sub fun e m=>by simp [m]) (List.perm_cons x |>.mp p) (List.pairwise_cons.mp u).2 (List.pairwise_cons.mp v).2]
theorem fe {ds:List PyData} (c:bD ds=true) (t:ah ds=true):Ord ltB ds where
 as:=fun a b=>kG c t a b
 ntr:=fun a b d=>wA c t a b d
 tot:=fun {a b} ha hb h h'=>by
  rcases jW c t ha hb h' with q | q
  ·rw [q] at h;cases h
  ·exact q
theorem tu {ds es:List PyData} (c:bD ds=true) (t:ah ds=true) (p:es.Perm ds) (u:Up ltB es):es=bG ltB ds:=
 kI ((fe c t).sub fun e m=>p.mem_iff.mp m) (p.trans (bw ltB ds).symm) u (nF (fe c t))
end Ml
namespace Ml
open PySem PySem.Spec L2
open Sem (wp)
mutual
theorem aL:∀ {d:PyData},ai d=true->af d=true
 | .str _,_=>by simp [af]
 | .tuple ds,h=>by simp only [ai] at h;simp only [af];exact jX h
 | .none,h=>by simp [ai] at h
 | .bool _,h=>by simp [ai] at h
 | .int _,h=>by simp [ai] at h
 | .list _,h=>by simp [ai] at h
 | .dict _,h=>by simp [ai] at h
theorem jX:∀ {ds:List PyData},aK ds=true->ah ds=true
 | [],_=>by simp [ah]
 | d::ds,h=>by simp only [aK,Bool.and_eq_true] at h;simp only [ah,Bool.and_eq_true];exact ⟨aL h.1,jX h.2⟩
end
mutual
def lr (w:World):PyData->Int
 | .str x=>hashStr w x
 | .tuple ds=>reduceHash (Builtin.Tuple.tupleHashOf (eU w ds))
 | _=>0
def eU (w:World):List PyData->List Int
 | []=>[]
 | d::ds=>lr w d::eU w ds
end
mutual
def jq:PyData->Nat
 | .str _=>1
 | .tuple ds=>jY ds+1
 | _=>0
def jY:List PyData->Nat
 | []=>0
 | d::ds=>jq d+jY ds
end
mutual
theorem gk {h h':Heap} (k:∀ b o vs n,h.get? b=some o->o.cls=.type "tuple" -> o.data=.seq vs n->h'.get? b=some o):∀ {d:PyData} {v:Value} {as:List Addr},ai d=true->Reads h v d as->Reads h' v d as
 | .str _,_,_,_,.str x t=>.str x t
 | .tuple ds,_,_,t,.tuple h1 h2 h3 h4=>by simp only [ai] at t;exact .tuple (k _ _ _ _ h1 h2 h3) h2 h3 (jZ k t h4)
 | .none,_,_,t,_=>by simp [ai] at t
 | .bool _,_,_,t,_=>by simp [ai] at t
 | .int _,_,_,t,_=>by simp [ai] at t
 | .list _,_,_,t,_=>by simp [ai] at t
 | .dict _,_,_,t,_=>by simp [ai] at t
theorem jZ {h h':Heap} (k:∀ b o vs n,h.get? b=some o->o.cls=.type "tuple" -> o.data=.seq vs n->h'.get? b=some o):∀ {ds:List PyData} {vs:List Value} {as:List Addr},aK ds=true->ReadsAll h vs ds as->ReadsAll h' vs ds as
 | [],_,_,_,.nil=>.nil
 | d::ds,_,_,t,.cons r1 r2=>by simp only [aK,Bool.and_eq_true] at t;exact .cons (gk k t.1 r1) (jZ k t.2 r2)
end
section
variable {P:Program} {w:World}
mutual
theorem jr:∀ (d:PyData) (A:Around) (s:Shared) (v:Value) (as:List Addr) (Q:Int->Shared->Prop) (E:Value->Shared->Prop),ai d=true->Reads s.heap v d as->A.units+d.depth < cLine->Q (lr w d) {s with toks:=s.toks+jq d}->wpAny (model P w) A (pyHash v) Q E s
 | .str x,A,s,v,as,Q,E,_,r,hu,h=>by
  cases r
  simp only [lr,jq] at h
  exact wpAny_pyHash_str h
 | .tuple ds,A,s,v,as,Q,E,t,r,hu,h=>by
  cases r with
  | tuple ho hc hd hi=>
   rename_i a o items n
   have hT:s.TypeIs (.ref a) "tuple" := ⟨o,ho,hc⟩
   simp only [ai] at t
   simp only [PyData.depth] at hu
   simp only [lr,jq] at h
   unfold pyHash
   first | unfold pyHashByItsType | skip
   first | refine wpAny_bind (wpAny_cRoomFor_or (.inr (by omega)) ?_) | skip
   refine wpAny_bind (wpAny_specialOf hT F.slot_tuple_hash.lookup ?_)
   show wpAny _ _ (if (some (Value.builtin "tuple.__hash__") == some Value.none)=true then _ else _) Q E s
   rw [if_neg (by rw [beq_builtin_none];exact Bool.false_ne_true)]
   refine wpAny_bind (wpAny_specialOf hT F.slot_tuple_hash.lookup ?_)
   show wpAny _ _ (callSpecialIfBoundUnlessNone? (.ref a) "__hash__" _ >>= _) Q E s
   refine wpAny_bind (wpAny_callSpecialIfBoundUnlessNone?_slot hT F.slot_tuple_hash (wpAny_call_entry F.slot_tuple_hash hT F.entry_tuple_hash ?_ (F.args_tuple_hash_1 _)))
   show wpAny _ _ (Builtin.Tuple.tupleItemsOf (.ref a) >>= _) _ _ s
   refine wpAny_bind (wpAny_tupleItemsOf ho hd ?_)
   refine wpAny_bind ?_
   rw [<- Array.forIn_toList]
   refine j0 ds A.in1 s items.toList _ #[] _ _ _ t hi (by show A.units+1+_ < _;omega) ?_ ?_
   ·intro x b s' R k
    first
     | exact wpAny_bind (wpAny_mono k (fun c s2 q=>wpAny_pure q) fun _ _ z=>z)
     | exact wpAny_bind (wpAny_mono k (fun c s2 q=>wpAny_bind (wpAny_pure (wpAny_pure q))) fun _ _ z=>z)
   ·show wpAny _ _ (retInt (Builtin.Tuple.tupleHashOf (#[]++(eU w ds).toArray).toList)) _ _ _
    have e1:(#[]++(eU w ds).toArray).toList=eU w ds:=by simp
    rw [e1]
    refine wpAny_ret_mkInt ?_
    show wpAny _ _ (if (decide (-(2:Int) ^ 63<=Builtin.Tuple.tupleHashOf (eU w ds)) && decide (Builtin.Tuple.tupleHashOf (eU w ds) < 2 ^ 63))=true then _ else _) Q E _
    unfold reduceHash at h
    by_cases hr:(decide (-(2:Int) ^ 63<=Builtin.Tuple.tupleHashOf (eU w ds)) && decide (Builtin.Tuple.tupleHashOf (eU w ds) < 2 ^ 63))=true
    ·rw [if_pos hr]
     rw [if_pos hr] at h
     exact wpAny_pure (by simpa [Nat.add_assoc] using h)
    ·rw [if_neg hr]
     rw [if_neg hr] at h
     exact wpAny_bind (wpAny_rule (wpAny_pure (by simpa [Nat.add_assoc] using h)))
 | .none,_,_,_,_,_,_,t,_,_,_=>by simp [ai] at t
 | .bool _,_,_,_,_,_,_,t,_,_,_=>by simp [ai] at t
 | .int _,_,_,_,_,_,_,t,_,_,_=>by simp [ai] at t
 | .list _,_,_,_,_,_,_,t,_,_,_=>by simp [ai] at t
 | .dict _,_,_,_,_,_,_,t,_,_,_=>by simp [ai] at t
theorem j0:∀ (ds:List PyData) (A:Around) (s:Shared) (vs:List Value) (as:List Addr) (acc:Array Int) (R:Array Int->Shared->Prop) (E':Value->Shared->Prop) (body:Value->Array Int->Sem (ForInStep (Array Int))),aK ds=true->ReadsAll s.heap vs ds as->A.units+PyData.depthAll ds < cLine ->
  (∀ (x:Value) (b:Array Int) (s':Shared) (R':ForInStep (Array Int)->Shared->Prop),wpAny (model P w) A (pyHash x) (fun c s2=>R' (.yield (b.push c)) s2) E' s'->wpAny (model P w) A (body x b) R' E' s') ->
  R (acc++(eU w ds).toArray) {s with toks:=s.toks+jY ds}->wpAny (model P w) A (forIn vs acc body) R E' s
 | [],A,s,_,_,acc,R,E',body,_,.nil,_,hb,h=>by
  rw [List.forIn_nil]
  simp only [eU,jY] at h
  exact wpAny_pure (by simpa using h)
 | d::ds,A,s,_,_,acc,R,E',body,t,.cons r1 r2,hu,hb,h=>by
  simp only [aK,Bool.and_eq_true] at t
  simp only [PyData.depthAll] at hu
  rw [List.forIn_cons]
  refine wpAny_bind (hb _ _ _ _ ?_)
  refine jr d A s _ _ _ E' t.1 r1 (by omega) ?_
  refine j0 ds A _ _ _ (acc.push (lr w d)) R E' body t.2 r2 (by omega) hb ?_
  simp only [eU,jY] at h
  simpa [Nat.add_assoc] using h
end
mutual
theorem fO:∀ (d:PyData) (n:Nat) (A:Around) (s:Shared) (v:Value) (as:List Addr) (Q:Bool->Shared->Prop) (E:Value->Shared->Prop),ai d=true->d.depth<=n->Reads s.heap v d as->Q true s->wpAny (model P w) A (eqIsQuiet n v) Q E s
 | .str x,n,A,s,v,as,Q,E,_,_,r,h=>by
  cases r
  rw [eqIsQuiet_byValue n rfl]
  exact wpAny_pure h
 | .tuple ds,n,A,s,v,as,Q,E,t,hn,r,h=>by
  cases r with
  | tuple ho hc hd hi=>
   rename_i a o items k
   have hT:s.TypeIs (.ref a) "tuple" := ⟨o,ho,hc⟩
   simp only [ai] at t
   simp only [PyData.depth] at hn
   obtain ⟨m,rfl⟩:∃ m,n=m+1:=⟨n - 1,by omega⟩
   unfold eqIsQuiet
   refine wpAny_bind (wpAny_specialOf hT F.slot_tuple_eq.lookup ?_)
   show wpAny _ _ (isInstance (.ref a) (.type "tuple") >>= _) _ _ s
   refine wpAny_bind (wpAny_isInstance hT isSubtype_tuple_tuple ?_)
   simp only [Bool.not_true,Bool.false_eq_true,if_false]
   refine wpAny_bind (wpAny_seqItems ho hd ?_)
   refine wpAny_bind ?_
   show wpAny _ _ (forIn items _ _) _ _ s
   rw [<- Array.forIn_toList]
   refine j3 ds m A s items.toList _ _ E _ t (by omega) hi ?_ ?_
   ·intro x s' R k
    refine wpAny_bind (wpAny_mono k (fun c s2 q=>?_) fun _ _ z=>z)
    obtain ⟨rfl,q⟩:=q
    simp only [Bool.not_true,Bool.false_eq_true,if_false]
    exact wpAny_pure q
   ·exact wpAny_pure h
 | .none,_,_,_,_,_,_,_,t,_,_,_=>by simp [ai] at t
 | .bool _,_,_,_,_,_,_,_,t,_,_,_=>by simp [ai] at t
 | .int _,_,_,_,_,_,_,_,t,_,_,_=>by simp [ai] at t
 | .list _,_,_,_,_,_,_,_,t,_,_,_=>by simp [ai] at t
 | .dict _,_,_,_,_,_,_,_,t,_,_,_=>by simp [ai] at t
theorem j3:∀ (ds:List PyData) (n:Nat) (A:Around) (s:Shared) (vs:List Value) (as:List Addr) (R:Option Bool×Unit->Shared->Prop) (E:Value->Shared->Prop) (body:Value->Option Bool×Unit->Sem (ForInStep (Option Bool×Unit))),aK ds=true->PyData.depthAll ds<=n->ReadsAll s.heap vs ds as ->
  (∀ (x:Value) (s':Shared) (R':ForInStep (Option Bool×Unit)->Shared->Prop),wpAny (model P w) A (eqIsQuiet n x) (fun c s2=>c=true/\R' (.yield (none,())) s2) E s'->wpAny (model P w) A (body x (none,())) R' E s') ->
  R (none,()) s->wpAny (model P w) A (forIn vs (none,()) body) R E s
 | [],n,A,s,_,_,R,E,body,_,_,.nil,hb,h=>by
  rw [List.forIn_nil]
  exact wpAny_pure h
 | d::ds,n,A,s,_,_,R,E,body,t,hn,.cons r1 r2,hb,h=>by
  simp only [aK,Bool.and_eq_true] at t
  simp only [PyData.depthAll] at hn
  rw [List.forIn_cons]
  refine wpAny_bind (hb _ _ _ (fO d n A s _ _ _ E t.1 (by omega) r1 ⟨rfl,?_⟩))
  exact j3 ds n A s _ _ R E body t.2 (by omega) r2 hb h
end
end
def En (h:Heap) (d:PyData) (a:Addr):Prop:=ai d=true/\d.depth<=8/\cg d=true/\∃ as,Reads h (.ref a) d as
noncomputable instance Jb:DecidableEq PyData:=fun a b=>Classical.propDecidable (a=b)
noncomputable def fB (P:Program) (w:World):HeapKind P w PyData where
 is:=En
 hash:=lr w
 draws:=jq
 room:=fun A=>A.units+20 < cLine
 inj:=fun {h a x y} ⟨_,_,_,as,hx⟩ ⟨_,_,_,bs,hy⟩=>(PySem.Reads.unique hx _ _ hy).1
 keeps:=fun {h h' k a d o es ep} ⟨t,dp,so,as,r⟩ ho hd hs=>⟨t,dp,so,as,gk (fun b ob vs n e c dd=>by
  have ne:b≠d:=fun z=>by
   subst z
   rw [ho] at e
   cases e
   rw [hd] at dd
   cases dd
  exact (hs.2 b ne).trans e) t r⟩
 pyHash:=fun {A E s k a Q} hu ⟨t,dp,_,as,r⟩ h=>jr k A s _ as Q E t r (by omega) h
 eqBool:=fun {A E s x y a b Q} hu ⟨t1,d1,s1,as,r1⟩ ⟨t2,d2,s2,bs,r2⟩ h=>by
  have hq:PyData.eqv x y=decide (x=y):=by
   by_cases e:x=y
   ·subst e;rw [decide_eq_true rfl];exact aH (aL t1)
   ·rw [decide_eq_false e];exact aR (aL t1) (aL t2) e
  have:=SeqAt.eqAt_reads x y A s _ _ _ _ r1 r2 (fZ s1 (dy (aL t1))) (fZ s2 (dy (aL t2))) (by omega) P w E Q
  rw [hq] at this
  exact this h
 quiet:=fun {A E s k a Q} ⟨t,dp,_,as,r⟩ h=>fO k 8 A s _ as Q E t dp r h
def dO (P:Program) (w:World) (xs:List (PyData×Addr×Value)) (a:Addr):HO:=.ext fun h=>xs.length<=sizeLine/\(a == sysModules)=false/\∃ o es ep,h.get? a=some o/\o.ExactDict/\o.data=.dict es ep/\es.toList=xs.map (entryOfKey (fB P w))/\(xs.map (·.1)).Nodup
theorem F5 {P:Program} {w:World} {xs:List (PyData×Addr×Value)} {a:Addr} {H:Hp} {h:Heap} {o:Obj} {es:Array DictEntry} {ep:Nat} (h1:xs.length<=sizeLine) (h2:(a == sysModules)=false) (h3:h.get? a=some o) (h4:o.ExactDict) (h5:o.data=.dict es ep) (h6:es.toList=xs.map (entryOfKey (fB P w))) (h7:(xs.map (·.1)).Nodup):bY P w H h a (dO P w xs a):=
 ⟨⟨h1,h2,o,es,ep,h3,h4,h5,h6,h7⟩,⟨o,h3⟩,fun g1 g2 ⟨k1,k2,o',es',ep',k3,k4⟩ hk=>⟨k1,k2,o',es',ep',hk _ k3,k4⟩⟩
end Ml
namespace Ml
open PySem PySem.Spec L2
def view (θ:List Addr) (H:Hp):Hp:=fun a=>if a∈θ then none else H a
theorem cA {θ:List Addr} {H:Hp} {a:Addr} {o:HO} (h:view θ H a=some o):a∉θ/\H a=some o:=by
 unfold view at h
 split at h
 ·cases h
 ·exact ⟨by assumption,h⟩
theorem cM {θ:List Addr} {H:Hp} {a:Addr} (h:a∉θ):view θ H a=H a:=if_neg h
theorem aq (θ:List Addr) (H:Hp):bg (view θ H) H:=fun a o h=>(cA h).2
def kJ (M:Hp) (p:PyData×PyData) (q:PyData×Addr×Value):Prop:=p.1=q.1/\ai p.1=true/\p.1.depth<=8/\cg p.1=true/\Rep M p.1 (.ref q.2.1)/\∃ v,RelV v q.2.2/\Rep M p.2 v/\cg p.2=true
def eI (P:Program) (w:World) (M G:Hp) (a:Addr) (t:Bool) (kvs:List (PyData×PyData)):Prop:=
 (t=false/\∃ ks,G a=some (.dK ks)/\aY ks=some kvs/\∀ p∈kvs,cg p.1=true/\cg p.2=true)\/(t=true/\∃ xs,G a=some (dO P w xs a)/\Paired (kJ M) kvs xs)
structure Gx where
 P:Program
 w:World
 mg:Str->Option Value
 K:PySem.W.Frag
def Fb:PyData->V
 | .int i=>.int i
 | .str x=>.str x
 | .bool b=>.bl b
 | _=>.non
def F6 (K:PySem.W.Frag) (a:Addr) (xs:List PyData):Prop:=(∃ (o:Obj) (its:Array Value) (n:Nat),K.lookup a=some o/\o.cls=.type "tuple" /\ o.data=.seq its n/\its.size<=sizeLine/\Vals (xs.map Fb) its.toList)/\(∀ x∈xs,(match x with | .int _ | .str _ | .bool _ | .none=>true | _=>false)=true)/\bM xs=true
def F7 (G:Gx) (x:Xc) (cls:Value) (da:Option Addr) (M:Hp):Prop:=G.mg x.cls=some cls/\da=none/\x.args=[]
def bE (G:Gx) (θ:List Addr) (H:Hp):D->V->Prop
 | .dat d,v=>Rep (view θ H) d v/\cg d=true
 | .ref i,v=>∃ a,θ[i]?=some a/\v=.ref a
 | .mD t kvs,v=>∃ a,v=.ref a/\eI G.P G.w (view θ H) (view θ H) a t kvs
 | .set _,_=>False
 | .fn n,v=>∃ f,G.mg n=some (.ref f)/\v=.ref f
 | .scr ns,v=>∃ a,v=.ref a/\gc G.K (view θ H) a (ns.map V.int)
 | .ktup xs,v=>∃ a,v=.ref a/\F6 G.K a xs
 | .rpr x,v=>v=.str x
 | .exc x,v=>∃ a cls,v=.ref a/\view θ H a=some (.ext (Bf a cls))/\F7 G x cls none (view θ H)
abbrev aP (G:Gx) (θ:List Addr) (H:Hp):List D->List V->Prop:=Paired (bE G θ H)
def TabAt (θ:List Addr) (H:Hp) (P:Addr) (q:Str):Prop:=∃ ps:Array Value,H P=some (.tbl ps)/\TriplesOk ps.toList/\∀ (pos:Pos) (c:Value),codeAmong pos ps.toList=some c->∃ b,c=.ref b/\b≠P/\view θ H b=some (.ext (recAt b q))
theorem TabAt.same {θ θ':List Addr} {H H':Hp} {P:Addr} {q:Str} (s:bg (view θ H) (view θ' H')) (e:∀ o,H P=some o->H' P=some o) (x:TabAt θ H P q):TabAt θ' H' P q:=by
 obtain ⟨ps,h1,h2,h3⟩:=x
 exact ⟨ps,e _ h1,h2,fun pos c k=>let ⟨b,k1,k2,k3⟩:=h3 pos c k;⟨b,k1,k2,s _ _ k3⟩⟩
def u6 (G:Gx) (θ:List Addr) (H:Hp) (a:Addr):MO->Prop
 | .lst xs=>∃ vs,H a=some (.lst vs)/\aP G θ H xs vs
 | .mD t kvs=>eI G.P G.w (view θ H) H a t kvs
 | .ins _ _=>False
 | .tab P q=>a=P/\TabAt θ H P q
structure W (G:Gx) (θ:List Addr) (h:Hm) (H:Hp):Prop where
 len:θ.length=h.length
 nd:θ.Nodup
 obj:∀ (i:Nat) (a:Addr) (o:MO),θ[i]?=some a->h[i]?=some o->u6 G θ H a o
def Fr (G:Gx) (θ:List Addr) (H:Hp) (ρ:Fm) (σ:St):Prop:=ρ.length=σ.length/\∀ (i:Nat) (d:D),ρ[i]?=some (some d)->∃ v,σ[i]?=some (some v)/\bE G θ H d v
structure Ev (θ:List Addr) (H:Hp) (θ':List Addr) (H':Hp):Prop where
 pre:∃ ext,θ'=θ++ext
 same:bg (view θ H) (view θ' H')
section
variable {G:Gx} {θ θ' θ'':List Addr} {H H' H'':Hp} {h h':Hm} {d:D} {v:V} {ρ:Fm} {σ:St}
theorem Ev.refl:Ev θ H θ H:=⟨⟨[],by simp⟩,bg.refl _⟩
theorem Ev.trans (a:Ev θ H θ' H') (b:Ev θ' H' θ'' H''):Ev θ H θ'' H'':=by
 obtain ⟨e1,rfl⟩:=a.pre
 obtain ⟨e2,rfl⟩:=b.pre
 exact ⟨⟨e1++e2,by simp⟩,a.same.trans b.same⟩
theorem Ev.get (a:Ev θ H θ' H') {i:Nat} {x:Addr} (e:θ[i]?=some x):θ'[i]?=some x:=by
 obtain ⟨ext,rfl⟩:=a.pre
 rw [List.getElem?_append_left (by have:=List.getElem?_eq_some_iff.mp e;exact this.1)]
 exact e
theorem kJ.same {M M':Hp} (s:bg M M') {p:PyData×PyData} {q:PyData×Addr×Value} (h:kJ M p q):kJ M' p q:=by
 obtain ⟨h1,h2,h3,h4,h5,v,h6,h7,h8⟩:=h
 exact ⟨h1,h2,h3,h4,h5.same s,v,h6,h7.same s,h8⟩
theorem eI.same {P:Program} {w:World} {M M' G G':Hp} (s:bg M M') {a:Addr} {t:Bool} {kvs:List (PyData×PyData)} (h:eI P w M G a t kvs) (e:∀ o,G a=some o->G' a=some o):eI P w M' G' a t kvs:=by
 rcases h with ⟨ht,ks,h1,h2⟩ | ⟨ht,xs,h1,h2⟩
 ·exact .inl ⟨ht,ks,e _ h1,h2⟩
 ·exact .inr ⟨ht,xs,e _ h1,Paired.jh h2 fun _ _=>kJ.same s⟩
theorem eI.some {P:Program} {w:World} {M G:Hp} {a:Addr} {t:Bool} {kvs:List (PyData×PyData)} (h:eI P w M G a t kvs):G a≠none:=by
 rcases h with ⟨_,ks,h1,_⟩ | ⟨_,xs,h1,_⟩
 ·rw [h1];exact fun z=>nomatch z
 ·rw [h1];exact fun z=>nomatch z
theorem bE.ev (e:Ev θ H θ' H') (r:bE G θ H d v):bE G θ' H' d v:=by
 cases d with
 | dat d=>exact ⟨r.1.same e.same,r.2⟩
 | ref i=>obtain ⟨a,h1,h2⟩:=r;exact ⟨a,e.get h1,h2⟩
 | mD t kvs=>obtain ⟨a,h1,h2⟩:=r;exact ⟨a,h1,h2.same e.same fun o=>e.same a o⟩
 | set xs=>exact r
 | fn n=>exact r
 | scr ns=>obtain ⟨a,h1,h2⟩:=r;exact ⟨a,h1,e.same.seq h2⟩
 | ktup xs=>exact r
 | rpr x=>exact r
 | exc x=>obtain ⟨a,c,h1,h2,h3⟩:=r;exact ⟨a,c,h1,e.same _ _ h2,h3⟩
theorem aP.ev (e:Ev θ H θ' H') {ds:List D} {vs:List V} (r:aP G θ H ds vs):aP G θ' H' ds vs:=Paired.jh r fun _ _=>bE.ev e
theorem Fr.ev (e:Ev θ H θ' H') (r:Fr G θ H ρ σ):Fr G θ' H' ρ σ:=⟨r.1,fun i d q=>let ⟨v,h1,h2⟩:=r.2 i d q;⟨v,h1,h2.ev e⟩⟩
theorem Fr.set {i:Nat} (r:Fr G θ H ρ σ) (q:bE G θ H d v):Fr G θ H (ρ.set i (some d)) (σ.set i (some v)):=by
 refine ⟨by simp [r.1],fun j e he=>?_⟩
 by_cases hj:i=j
 ·subst hj
  by_cases hl:i < ρ.length
  ·rw [List.getElem?_set_self hl] at he
   cases he
   exact ⟨v,by rw [List.getElem?_set_self (by rw [<- r.1];exact hl)],q⟩
  ·rw [List.getElem?_eq_none (by simp;omega)] at he
   cases he
 ·rw [List.getElem?_set_ne hj] at he ⊢
  exact r.2 j e he
theorem Fr.replicate (n:Nat) (r:Fr G θ H ρ σ):Fr G θ H (List.replicate n none++ρ) (List.replicate n none++σ):=by
 refine ⟨by simp [r.1],fun i d e=>?_⟩
 by_cases hi:i < n
 ·rw [List.getElem?_append_left (by simp;exact hi),List.getElem?_replicate] at e
  split at e<;>cases e
 ·rw [List.getElem?_append_right (by simp;omega)] at e ⊢
  simp at e ⊢
  exact r.2 _ d e
theorem za {p:Addr} {o:HO} (hp:H p=none) (hn:p∉θ):Ev θ H θ (upd H p o):=⟨⟨[],by simp⟩,fun a u q=>by
 obtain ⟨h1,h2⟩:=cA q
 rw [cM h1,aA (aG h2 hp)]
 exact h2⟩
theorem u6.some (o:MO) {a:Addr} (r:u6 G θ H a o):H a≠none:=by
 cases o with
 | lst xs=>obtain ⟨vs,e,_⟩:=r;rw [e];exact fun z=>nomatch z
 | mD t kvs=>exact eI.some r
 | ins=>exact r.elim
 | tab P q=>obtain ⟨rfl,ps,e,_⟩:=r;rw [e];exact fun z=>nomatch z
theorem W.zb (w:W G θ h H) {p:Addr} (hp:H p=none):p∉θ:=fun m=>by
 obtain ⟨i,hi,e⟩:=List.mem_iff_getElem.mp m
 have hl:i < h.length:=by rw [<- w.len];exact hi
 exact u6.some _ (w.obj i p h[i] (by rw [List.getElem?_eq_getElem hi,e]) (List.getElem?_eq_getElem hl)) hp
theorem W.put (w:W G θ h H) {p:Addr} {o:HO} (hp:H p=none):Ev θ H θ (upd H p o)/\W G θ h (upd H p o)/\view θ (upd H p o) p=some o:=by
 have hn:=w.zb hp
 have e:=za (o:=o) hp hn
 refine ⟨e,⟨w.len,w.nd,fun i a m h1 h2=>?_⟩,by rw [cM hn,aW]⟩
 have r:=w.obj i a m h1 h2
 have ha:a≠p:=fun z=>by subst z;exact hn (List.mem_of_getElem? h1)
 cases m with
 | lst xs=>obtain ⟨vs,q1,q2⟩:=r;exact ⟨vs,by rw [aA ha];exact q1,q2.ev e⟩
 | mD t kvs=>exact eI.same e.same r fun o q=>by rw [aA ha];exact q
 | ins=>exact r.elim
 | tab P q=>obtain ⟨rfl,x⟩:=r;exact ⟨rfl,x.same e.same fun o q=>by rw [aA ha];exact q⟩
theorem W.grow (w:W G θ h H) (s:bg H H'):Ev θ H θ H'/\W G θ h H':=by
 have e:Ev θ H θ H':=⟨⟨[],by simp⟩,fun a u q=>by
  obtain ⟨h1,h2⟩:=cA q
  rw [cM h1]
  exact s _ _ h2⟩
 refine ⟨e,⟨w.len,w.nd,fun i a m h1 h2=>?_⟩⟩
 have r:=w.obj i a m h1 h2
 cases m with
 | lst xs=>obtain ⟨vs,q1,q2⟩:=r;exact ⟨vs,s _ _ q1,q2.ev e⟩
 | mD t kvs=>exact eI.same e.same r fun o q=>s _ _ q
 | ins=>exact r.elim
 | tab P q=>obtain ⟨rfl,x⟩:=r;exact ⟨rfl,x.same e.same fun o q=>s _ _ q⟩
theorem W.alloc (w:W G θ h H) {p:Addr} {o:HO} {m:MO} (hp:H p=none) (ho:u6 G (θ++[p]) (upd H p o) p m):Ev θ H (θ++[p]) (upd H p o)/\W G (θ++[p]) (h++[m]) (upd H p o):=by
 have hn:=w.zb hp
 have e:Ev θ H (θ++[p]) (upd H p o):=⟨⟨[p],rfl⟩,fun a u q=>by
  obtain ⟨h1,h2⟩:=cA q
  have ne:=aG h2 hp
  rw [cM (by simp;exact ⟨h1,ne⟩),aA ne]
  exact h2⟩
 refine ⟨e,⟨by simp [w.len],?_,fun i a m' h1 h2=>?_⟩⟩
 ·rw [List.nodup_append]
  exact ⟨w.nd,by simp,fun x hx y hy z=>by simp at hy;subst hy;subst z;exact hn hx⟩
 ·by_cases hi:i < θ.length
  ·rw [List.getElem?_append_left hi] at h1
   rw [List.getElem?_append_left (by rw [<- w.len];exact hi)] at h2
   have r:=w.obj i a m' h1 h2
   have ha:a≠p:=fun z=>by subst z;exact hn (List.mem_of_getElem? h1)
   cases m' with
   | lst xs=>obtain ⟨vs,q1,q2⟩:=r;exact ⟨vs,by rw [aA ha];exact q1,q2.ev e⟩
   | mD t kvs=>exact eI.same e.same r fun o q=>by rw [aA ha];exact q
   | ins=>exact r.elim
   | tab P q=>obtain ⟨rfl,x⟩:=r;exact ⟨rfl,x.same e.same fun o q=>by rw [aA ha];exact q⟩
  ·rw [List.getElem?_append_right (by omega)] at h1
   rw [List.getElem?_append_right (by rw [<- w.len];omega),<- w.len] at h2
   cases hk:i - θ.length with
   | zero=>
    rw [hk] at h1 h2
    simp at h1 h2
    subst h1
    subst h2
    exact ho
   | succ k=>
    rw [hk] at h1
    simp at h1
theorem W.write (w:W G θ h H) {i:Nat} {p:Addr} {o:HO} {m:MO} (hi:θ[i]?=some p) (hl:i < h.length) (ho:u6 G θ (upd H p o) p m):Ev θ H θ (upd H p o)/\W G θ (h.set i m) (upd H p o):=by
 have hm:p∈θ:=List.mem_of_getElem? hi
 have e:Ev θ H θ (upd H p o):=⟨⟨[],by simp⟩,fun a u q=>by
  obtain ⟨h1,h2⟩:=cA q
  have ne:a≠p:=fun z=>by subst z;exact h1 hm
  rw [cM h1,aA ne]
  exact h2⟩
 refine ⟨e,⟨by simp [w.len],w.nd,fun j a m' h1 h2=>?_⟩⟩
 by_cases hj:i=j
 ·subst hj
  rw [hi] at h1
  cases h1
  rw [List.getElem?_set_self hl] at h2
  cases h2
  exact ho
 ·rw [List.getElem?_set_ne hj] at h2
  have ha:a≠p:=fun z=>by
   subst z
   obtain ⟨l1,e1⟩:=List.getElem?_eq_some_iff.mp hi
   obtain ⟨l2,e2⟩:=List.getElem?_eq_some_iff.mp h1
   have pw:=List.pairwise_iff_getElem.mp w.nd
   rcases Nat.lt_or_gt_of_ne hj with z | z
   ·exact pw i j l1 l2 z (e1.trans e2.symm)
   ·exact pw j i l2 l1 z (e2.trans e1.symm)
  have r:=w.obj j a m' h1 h2
  cases m' with
  | lst xs=>obtain ⟨vs,q1,q2⟩:=r;exact ⟨vs,by rw [aA ha];exact q1,q2.ev e⟩
  | mD t kvs=>exact eI.same e.same r fun o q=>by rw [aA ha];exact q
  | ins=>exact r.elim
  | tab P q=>obtain ⟨rfl,x⟩:=r;exact ⟨rfl,x.same e.same fun o q=>by rw [aA ha];exact q⟩
end
abbrev XP:=Xc->List Addr->Hm->Hp->Prop
def aB {α:Type} (G:Gx) (E:XP) (θ:List Addr) (H:Hp):R α->(α->List Addr->Hm->Hp->Prop)->Prop
 | .ok a h',K=>∀ θ' H',Ev θ H θ' H'->W G θ' h' H'->K a θ' h' H'
 | .exc x h',_=>∀ θ' H',Ev θ H θ' H'->W G θ' h' H'->E x θ' h' H'
 | .bad,_=>False
section
variable {α β:Type} {G:Gx} {E E':XP} {θ θ':List Addr} {H H':Hp} {h:Hm} {r:R α} {f:α->Hm->R β} {K K':α->List Addr->Hm->Hp->Prop}
theorem aB.mono (p:aB G E θ H r K) (k:∀ a θ' h' H',Ev θ H θ' H'->W G θ' h' H'->K a θ' h' H'->K' a θ' h' H'):aB G E θ H r K':=by
 cases r with
 | ok a h'=>exact fun θ' H' e w=>k _ _ _ _ e w (p θ' H' e w)
 | exc x h'=>exact p
 | bad=>exact p
theorem aB.later (p:aB G E θ H r K) (e:Ev θ H θ' H'):aB G E θ' H' r K:=by
 cases r with
 | ok a h'=>exact fun θ2 H2 e2 w=>p θ2 H2 (e.trans e2) w
 | exc x h'=>exact fun θ2 H2 e2 w=>p θ2 H2 (e.trans e2) w
 | bad=>exact p
theorem aB.bind {L:β->List Addr->Hm->Hp->Prop} (p:aB G E θ H (r.bind f) L):aB G E θ H r fun a θ1 h1 H1=>Ev θ H θ1 H1/\W G θ1 h1 H1/\aB G E θ1 H1 (f a h1) L:=by
 cases r with
 | ok a h'=>exact fun θ1 H1 e w=>⟨e,w,aB.later p e⟩
 | exc x h'=>exact p
 | bad=>exact p
end
def lu (G:Gx) (E:XK):XP:=fun x θ _ H=>∀ cls da,F7 G x cls da (view θ H)->E cls da H
def KV (G:Gx) (Q:VK):D->List Addr->Hm->Hp->Prop:=fun d θ _ H=>∀ v,bE G θ H d v->Q v H
def JH (G:Gx) (Q:List V->Hp->Prop):List D->List Addr->Hm->Hp->Prop:=fun ds θ _ H=>∀ vs,aP G θ H ds vs->Q vs H
def KS (G:Gx) (C:Ends):Fl->List Addr->Hm->Hp->Prop:=fun f θ _ H=>match f with
 | .nx ρ=>∀ σ,Fr G θ H ρ σ->C.nx σ H
 | .rt d=>∀ v,bE G θ H d v->C.rt v H
 | .bk ρ=>∀ σ,Fr G θ H ρ σ->C.bk σ H
 | .ct ρ=>∀ σ,Fr G θ H ρ σ->C.ct σ H
def lE (G:Gx) (E:XK) (m:ME):TE:=fun σ H Q=>∃ θ h ρ,W G θ h H/\Fr G θ H ρ σ/\aB G (lu G E) θ H (m ρ h) (KV G Q)
def lT (G:Gx) (E:XK) (m:MT):TT:=fun σ H Q=>∃ θ h ρ,W G θ h H/\Fr G θ H ρ σ/\aB G (lu G E) θ H (m ρ h) (fun b _ _ H'=>Q b H')
def lA (G:Gx) (E:XK) (m:MA):TA:=fun σ H Q=>∃ θ h ρ,W G θ h H/\Fr G θ H ρ σ/\aB G (lu G E) θ H (m ρ h) (JH G Q)
def lS (G:Gx) (E:XK) (m:MS):TS:=fun C σ H=>∃ θ h ρ,W G θ h H/\Fr G θ H ρ σ/\aB G (lu G E) θ H (m ρ h) (KS G C)
def lG (G:Gx) (E:XK) (g:MG):TG:=fun v σ H Q=>∃ θ h ρ d,W G θ h H/\Fr G θ H ρ σ/\bE G θ H d v/\aB G (lu G E) θ H (g d ρ h) (fun ρ' θ' _ H'=>∀ σ',Fr G θ' H' ρ' σ'->Q σ' H')
abbrev _root_.L2.Cx.G (X:Cx):Gx:=⟨X.prog,X.w,X.mg,X.K⟩
@[irreducible] def DE (X:Cx) (E:XK) (m:ME) (e:Expr):Prop:=PE X e (lE X.G E m)
theorem bu (X:Cx) (E:XK) (m:ME) (e:Expr):DE X E m e=(PE X e (lE X.G E m)):=by
 unfold DE
 rfl
@[irreducible] def DT (X:Cx) (E:XK) (m:MT) (e:Expr):Prop:=PT X e (lT X.G E m)
theorem gS (X:Cx) (E:XK) (m:MT) (e:Expr):DT X E m e=(PT X e (lT X.G E m)):=by
 unfold DT
 rfl
@[irreducible] def DA (X:Cx) (E:XK) (m:MA) (es:List Expr):Prop:=PA X es (lA X.G E m)
theorem hZ (X:Cx) (E:XK) (m:MA) (es:List Expr):DA X E m es=(PA X es (lA X.G E m)):=by
 unfold DA
 rfl
@[irreducible] def DS (X:Cx) (E:XK) (m:MS) (s:Stmt):Prop:=PS X s (lS X.G E m)
theorem h9 (X:Cx) (E:XK) (m:MS) (s:Stmt):DS X E m s=(PS X s (lS X.G E m)):=by
 unfold DS
 rfl
@[irreducible] def zc (X:Cx) (E:XK) (m:MS) (s:List Stmt):Prop:=uC X s (lS X.G E m)
theorem kK (X:Cx) (E:XK) (m:MS) (s:List Stmt):zc X E m s=(uC X s (lS X.G E m)):=by
 unfold zc
 rfl
@[irreducible] def DG (X:Cx) (E:XK) (m:MG) (e:Expr):Prop:=PG X e (lG X.G E m)
theorem lx (X:Cx) (E:XK) (m:MG) (e:Expr):DG X E m e=(PG X e (lG X.G E m)):=by
 unfold DG
 rfl
theorem PE.imp {X:Cx} {e:Expr} {t t':TE} (h:PE X e t) (k:∀ σ H Q,t' σ H Q->t σ H Q):PE X e t':=fun pins s σ H Q I q=>h pins s σ H Q I (k _ _ _ q)
theorem PT.imp {X:Cx} {e:Expr} {t t':TT} (h:PT X e t) (k:∀ σ H Q,t' σ H Q->t σ H Q):PT X e t':=fun pins s σ H Q I q=>h pins s σ H Q I (k _ _ _ q)
theorem PA.imp {X:Cx} {e:List Expr} {t t':TA} (h:PA X e t) (k:∀ σ H Q,t' σ H Q->t σ H Q):PA X e t':=fun pos pins s σ H Q I q=>h pos pins s σ H Q I (k _ _ _ q)
theorem PS.imp {X:Cx} {e:Stmt} {t t':TS} (h:PS X e t) (k:∀ C σ H,t' C σ H->t C σ H):PS X e t':=fun pins s σ H C I q=>h pins s σ H C I (k _ _ _ q)
theorem uC.imp {X:Cx} {e:List Stmt} {t t':TS} (h:uC X e t) (k:∀ C σ H,t' C σ H->t C σ H):uC X e t':=fun pins s σ H C I q=>h pins s σ H C I (k _ _ _ q)
end Ml
namespace Ml
open PySem PySem.Spec L2
def Eo (G:Gx) (E:XK) (f:D->D->Hm->R D):R2:=fun x y H Q=>∃ θ h d1 d2,W G θ h H/\bE G θ H d1 x/\bE G θ H d2 y/\aB G (lu G E) θ H (f d1 d2 h) (KV G Q)
def Jc (G:Gx) (E:XK) (f:Fn):List V->Hp->VK->Prop:=fun xs H Q=>∃ θ h ds,W G θ h H/\aP G θ H ds xs/\aB G (lu G E) θ H (f ds h) (KV G Q)
def ko (X:Cx) (E:XK) (op:Value->Value->Sem Value) (f:D->D->Hm->R D):Prop:=fI X op (Eo X.G E f)
def mm (X:Cx) (E:XK) (v:Value) (f:Fn):Prop:=cF X v (Jc X.G E f)
theorem fI.imp {X:Cx} {op:Value->Value->Sem Value} {r r':R2} (h:fI X op r) (k:∀ x y H Q,r' x y H Q->r x y H Q):fI X op r':=fun pins s σ H x y v u Q I rx ry q=>h pins s σ H x y v u Q I rx ry (k _ _ _ _ q)
theorem cF.imp {X:Cx} {f:Value} {r r':List V->Hp->VK->Prop} (h:cF X f r) (k:∀ xs H Q,r' xs H Q->r xs H Q):cF X f r':=fun pins s σ H xs us Q I r q=>h pins s σ H xs us Q I r (k _ _ _ q)
theorem ko.of {X:Cx} {E:XK} {op:Value->Value->Sem Value} {r:R2} {f:D->D->Hm->R D} (h:fI X op r)
  (k:∀ θ hm H d1 d2 x y Q,W X.G θ hm H->bE X.G θ H d1 x->bE X.G θ H d2 y->aB X.G (lu X.G E) θ H (f d1 d2 hm) (KV X.G Q)->r x y H Q):ko X E op f:=
 fI.imp h fun x y H Q ⟨θ,hm,d1,d2,w,r1,r2,p⟩=>k θ hm H d1 d2 x y Q w r1 r2 p
theorem mm.of {X:Cx} {E:XK} {v:Value} {r:List V->Hp->VK->Prop} {f:Fn} (h:cF X v r)
  (k:∀ θ hm H ds xs Q,W X.G θ hm H->aP X.G θ H ds xs->aB X.G (lu X.G E) θ H (f ds hm) (KV X.G Q)->r xs H Q):mm X E v f:=
 cF.imp h fun xs H Q ⟨θ,hm,ds,w,r1,p⟩=>k θ hm H ds xs Q w r1 p
section
variable {X:Cx} {E:XK} {m a b c:ME} {t u:MT} {e e1 e2 e3:Expr} {es:List Expr} {ma:MA} {pos:Pos} {i:Nat} {x:Str}
theorem Ep (hN:X.N[i]?=some x) (hv:Cz X.env.scope x) (hd:(x == ("__debug__" : Str))=false:=by decide) (hcd:(x == ("__classdict__" : Str))=false:=by decide):DE X E (ae i) (.Name x pos):=by
 simp only [bu] at *
 exact PE.imp (Dq hN hv hd hcd) fun σ H Q ⟨θ,h,ρ,w,fr,p⟩=>by
   unfold ae at p
   cases e:ρ[i]? with
   | none=>rw [e] at p;exact p.elim
   | some o=>
    cases o with
    | none=>rw [e] at p;exact p.elim
    | some d=>
     rw [e] at p
     obtain ⟨v,h1,h2⟩:=fr.2 i d e
     exact ⟨v,h1,p θ H Ev.refl w v h2⟩
theorem Bl {v:V} {d:PyData} (h:PE X e (tC v)) (r:∀ G,Rep G d v) (s:cg d=true):DE X E (aj d) e:=by
 simp only [bu] at *
 exact PE.imp h fun σ H Q ⟨θ,hm,ρ,w,fr,p⟩=>p θ H Ev.refl w v ⟨r _,s⟩
theorem aE {k:Int} {j:Nat}:DE X E (aj (.int k)) (.Constant (.int k) j pos):=Bl ky (fun _=>rfl) (by simp [cg])
theorem cG {k:Bool} {j:Nat}:DE X E (aj (.bool k)) (.Constant (.bool k) j pos):=Bl CB (fun _=>rfl) (by simp [cg])
theorem dE {k:Str} {j:Nat} (h:PyData.strOk k=true:=by decide +kernel):DE X E (aj (.str k)) (.Constant (.str k) j pos):=Bl uF (fun _=>rfl) (by simp [cg,h])
theorem rg {G:Gx} {f:D->D->Hm->R D} {σ:St} {H:Hp} {Q:VK} (h:lE G E (ax f a b) σ H Q):Fy (Eo G E f) (lE G E a) (lE G E b) σ H Q:=by
 obtain ⟨θ,h,ρ,w,fr,p⟩:=h
 refine ⟨θ,h,ρ,w,fr,(aB.bind p).mono fun x θ1 h1 H1 _ _ ⟨e1,w1,p1⟩ v r1=>?_⟩
 exact ⟨θ1,h1,ρ,w1,fr.ev e1,(aB.bind p1).mono fun y θ2 h2 H2 _ _ ⟨e2,w2,p2⟩ u r2=>⟨θ2,h2,x,y,w2,r1.ev e2,r2,p2⟩⟩
theorem wC {G:Gx} {f:Fn} {σ:St} {H:Hp} {Q:VK} (h:lE G E (ag f ma) σ H Q):HF (Jc G E f) (lA G E ma) σ H Q:=by
 obtain ⟨θ,h,ρ,w,fr,p⟩:=h
 exact ⟨θ,h,ρ,w,fr,(aB.bind p).mono fun xs θ1 h1 H1 _ _ ⟨e1,w1,p1⟩ vs r1=>⟨θ1,h1,xs,w1,r1,p1⟩⟩
theorem bH {op:Operator} {f:D->D->Hm->R D} (h:ko X E (binaryOp op) f) (ha:DE X E a e1) (hb:DE X E b e2):DE X E (ax f a b) (.BinOp e1 op e2 pos):=by
 simp only [bu] at *
 exact PE.imp (CD h ha hb) fun _ _ _=>rg
theorem u7 {op:CmpOp} {f:D->D->Hm->R D} (h:ko X E (compareOp op) f) (ha:DE X E a e1) (hb:DE X E b e2) (hm:behindInMarks op e2=false):DE X E (ax f a b) (.Compare e1 [op] [e2] pos):=by
 simp only [bu] at *
 exact PE.imp (AO h ha hb hm) fun _ _ _=>rg
theorem dF {f:D->D->Hm->R D} (h:E9 X (Eo X.G E f)) (ha:DE X E a e1) (hb:DE X E b e2) (hs:vZ e2):DE X E (ax f a b) (.Subscript e1 e2 pos):=by
 simp only [bu] at *
 exact PE.imp (FP h ha hb hs) fun _ _ _=>rg
theorem wD {G:Gx} {σ:St} {H:Hp} {Q:Bool->Hp->Prop} (h:lT G E (aO m) σ H Q):lE G E m σ H fun x H'=>∃ k,x=.bl k/\Q k H':=by
 obtain ⟨θ,h,ρ,w,fr,p⟩:=h
 refine ⟨θ,h,ρ,w,fr,(aB.bind p).mono fun x θ1 h1 H1 _ _ ⟨e1,w1,p1⟩ v r1=>?_⟩
 cases x with
 | dat d=>
  cases d with
  | bool k=>exact ⟨k,r1.1,p1 θ1 H1 Ev.refl w1⟩
  | _=>exact p1.elim
 | _=>exact p1.elim
theorem bX {op:CmpOp} {f:D->D->Hm->R D} (h:ko X E (compareOp op) f) (ha:DE X E a e1) (hb:DE X E b e2) (hm:behindInMarks op e2=false):DT X E (aO (ax f a b)) (.Compare e1 [op] [e2] pos):=by
 simp only [bu,gS] at *
 exact PT.imp (AQ h ha hb hm) fun _ _ _ q=>rg (wD q)
@[irreducible] def DW (X:Cx) (E:XK) (t:MT) (e:Expr):Prop:=PW X e (lT X.G E t)
theorem tw (X:Cx) (E:XK) (t:MT) (e:Expr):DW X E t e=(PW X e (lT X.G E t)):=by
 unfold DW
 rfl
theorem DW.dt (h:DW X E t e):DT X E t e:=by
 simp only [gS,tw] at *
 exact PW.pt h
theorem PW.imp {X:Cx} {e:Expr} {t t':TT} (h:PW X e t) (k:∀ σ H Q,t' σ H Q->t σ H Q):PW X e t':=fun wh pins s σ H Q I q=>h wh pins s σ H Q I (k _ _ _ q)
theorem Bm (ha:DT X E t e):DW X E t (.BoolOp .And [e] pos):=by
 simp only [gS,tw] at *
 exact AF ha
theorem jt (ha:DT X E t e):DW X E t (.BoolOp .Or [e] pos):=by
 simp only [gS,tw] at *
 exact Dt ha
theorem Er (ha:DT X E t e1) (hb:DW X E u (.BoolOp .And (e2::es) pos)):DW X E (yj t u) (.BoolOp .And (e1::e2::es) pos):=by
 simp only [gS,tw] at *
 exact PW.imp (Du ha hb) fun σ H Q ⟨θ,h,ρ,w,fr,p⟩=>⟨θ,h,ρ,w,fr,(aB.bind p).mono fun c θ1 h1 H1 _ _ ⟨ev,w1,p1⟩=>by
   cases c with
   | true=>exact ⟨θ1,h1,ρ,w1,fr.ev ev,p1⟩
   | false=>exact p1 θ1 H1 Ev.refl w1⟩
theorem ly (ha:DT X E t e1) (hb:DW X E u (.BoolOp .Or (e2::es) pos)):DW X E (uG t u) (.BoolOp .Or (e1::e2::es) pos):=by
 simp only [gS,tw] at *
 exact PW.imp (Fp ha hb) fun σ H Q ⟨θ,h,ρ,w,fr,p⟩=>⟨θ,h,ρ,w,fr,(aB.bind p).mono fun c θ1 h1 H1 _ _ ⟨ev,w1,p1⟩=>by
   cases c with
   | true=>exact p1 θ1 H1 Ev.refl w1
   | false=>exact ⟨θ1,h1,ρ,w1,fr.ev ev,p1⟩⟩
theorem ia (ha:DT X E t e):DT X E (ji t) (.UnaryOp .Not e pos):=by
 simp only [gS] at *
 exact PT.imp (Dv ha) fun σ H Q ⟨θ,h,ρ,w,fr,p⟩=>⟨θ,h,ρ,w,fr,(aB.bind p).mono fun c θ1 h1 H1 _ _ ⟨ev,w1,p1⟩=>p1 θ1 H1 Ev.refl w1⟩
theorem rh {op} (h:DE X E m e):DE X E m (.BoolOp op [e] pos):=by
 simp only [bu] at *
 exact Dw h
theorem F8 (hc:DT X E t e1) (ha:DE X E a e2) (hb:DE X E b e3):DE X E (GN t a b) (.IfExp e1 e2 e3 pos):=by
 simp only [bu,gS] at *
 exact PE.imp (yk hc ha hb) fun σ H Q ⟨θ,h,ρ,w,fr,p⟩=>⟨θ,h,ρ,w,fr,(aB.bind p).mono fun c θ1 h1 H1 _ _ ⟨ev,w1,p1⟩=>by
   cases c with
   | true=>exact ⟨θ1,h1,ρ,w1,fr.ev ev,p1⟩
   | false=>exact ⟨θ1,h1,ρ,w1,fr.ev ev,p1⟩⟩
theorem ak:DA X E ao []:=by
 simp only [hZ] at *
 exact PA.imp qL fun σ H Q ⟨θ,h,ρ,w,fr,p⟩=>p θ H Ev.refl w _ .nil
theorem ab (ha:DE X E m e) (hr:DA X E ma es) (hs:starEach (e::es) X.env=(false,eval e X.env)::starEach es X.env:=by rfl):DA X E (aa m ma) (e::es):=by
 simp only [bu,hZ] at *
 exact PA.imp (jK ha hr hs) fun σ H Q ⟨θ,h,ρ,w,fr,p⟩=>⟨θ,h,ρ,w,fr,(aB.bind p).mono fun x θ1 h1 H1 _ _ ⟨ev,w1,p1⟩ v r1=>
   ⟨θ1,h1,ρ,w1,fr.ev ev,(aB.bind p1).mono fun xs θ2 h2 H2 _ _ ⟨ev2,w2,p2⟩ vs r2=>p2 θ2 H2 Ev.refl w2 _ (.cons (r1.ev ev2) r2)⟩⟩
theorem iG {G:Gx} {θ:List Addr} {H:Hp}:∀ {xs:List D} {vs:List V} {ds:List PyData},aP G θ H xs vs->fx xs=some ds->aJ (view θ H) ds vs/\bM ds=true
 | [],_,ds,.nil,e=>by cases e;exact ⟨rfl,by simp [bM]⟩
 | x::xs,_,ds,.cons r rs,e=>by
  unfold fx at e
  cases x with
  | dat d=>
   cases e2:fx xs with
   | none=>simp [D.data,e2] at e
   | some ds'=>
    simp [D.data,e2] at e
    subst e
    obtain ⟨h1,h2⟩:=iG rs e2
    exact ⟨.cons r.1 h1,by simp [bM,r.2,h2]⟩
  | _=>simp [D.data] at e
theorem rj {G:Gx} {θ:List Addr} {H:Hp}:∀ {ds:List PyData} {vs:List V},aJ (view θ H) ds vs->bM ds=true->aP G θ H (ds.map D.dat) vs
 | [],_,h,_=>by cases h;exact .nil
 | d::ds,_,⟨v,vs,e,r,rs⟩,s=>by
  subst e
  simp only [bM,Bool.and_eq_true] at s
  exact .cons ⟨r,s.1⟩ (rj rs s.2)
theorem cY {n:Nat} (h:jS n=true):n<=sizeLine:=by
 have:=of_decide_eq_true h
 rw [PySem.sizeLine_eq]
 exact this
theorem kL:∀ {xs:List D} {ds:List PyData},fx xs=some ds->ds.length=xs.length
 | [],ds,e=>by cases e;rfl
 | x::xs,ds,e=>by
  unfold fx at e
  cases e1:x.data with
  | none=>rw [e1] at e;cases e
  | some d=>
   cases e2:fx xs with
   | none=>rw [e1,e2] at e;cases e
   | some ds'=>rw [e1,e2] at e;cases e;simp [kL e2]
theorem nG {x1} (h:DA X E ma es):DE X E (jo ma) (.Tuple es x1 pos):=by
 simp only [bu,hZ] at *
 exact PE.imp (yA h) fun σ H Q ⟨θ,h,ρ,w,fr,p⟩=>⟨θ,h,ρ,w,fr,(aB.bind p).mono fun xs θ1 h1 H1 _ _ ⟨ev,w1,p1⟩ vs r1=>by
   unfold jT at p1
   cases e:fx xs with
   | none=>rw [e] at p1;exact p1.elim
   | some ds=>
    rw [e] at p1
    simp only at p1
    split at p1
    ·rename_i hz
     have hl:vs.length=xs.length:=(Paired.length r1).symm
     refine ⟨by rw [hl,<- kL e];exact cY hz,fun q hq=>?_⟩
     obtain ⟨e1,w2,g⟩:=w1.put (o:=.tup vs) hq
     obtain ⟨h1,h2⟩:=iG r1 e
     exact p1 _ _ e1 w2 _ ⟨⟨q,vs,rfl,g,h1.same e1.same⟩,by simp [cg,h2]⟩
    ·exact p1.elim⟩
theorem zd (h:DA X E ma es):DE X E (pF ma) (.List es pos):=by
 simp only [bu,hZ] at *
 exact PE.imp (uM h) fun σ H Q ⟨θ,h,ρ,w,fr,p⟩=>⟨θ,h,ρ,w,fr,(aB.bind p).mono fun xs θ1 h1 H1 _ _ ⟨ev,w1,p1⟩ vs r1=>by
   unfold gj at p1
   cases e:fx xs with
   | none=>rw [e] at p1;exact p1.elim
   | some ds=>
    rw [e] at p1
    simp only at p1
    split at p1
    ·rename_i hz
     have hl:vs.length=xs.length:=(Paired.length r1).symm
     refine ⟨by rw [hl,<- kL e];exact cY hz,fun q hq=>?_⟩
     obtain ⟨e1,w2,g⟩:=w1.put (o:=.lst vs) hq
     obtain ⟨h1,h2⟩:=iG r1 e
     exact p1 _ _ e1 w2 _ ⟨⟨q,vs,rfl,g,h1.same e1.same⟩,by simp [cg,h2]⟩
    ·exact p1.elim⟩
theorem W.Es {G:Gx} {θ:List Addr} {h:Hm} {H:Hp} {xs:List D} {vs:List V} (w:W G θ h H) (r:aP G θ H xs vs) {p:Addr} (hp:H p=none) :
  Ev θ H (θ++[p]) (upd H p (.lst vs))/\W G (θ++[p]) (h++[.lst xs]) (upd H p (.lst vs))/\bE G (θ++[p]) (upd H p (.lst vs)) (.ref h.length) (.ref p):=by
 have e:Ev θ H (θ++[p]) (upd H p (.lst vs)):=⟨⟨[p],rfl⟩,fun a u q=>by
  obtain ⟨h1,h2⟩:=cA q
  have ne:=aG h2 hp
  rw [cM (by simp;exact ⟨h1,ne⟩),aA ne]
  exact h2⟩
 obtain ⟨e1,w1⟩:=w.alloc (o:=.lst vs) (m:=.lst xs) hp ⟨vs,aW,r.ev e⟩
 exact ⟨e1,w1,p,by rw [<- w.len];simp,rfl⟩
theorem u9 (h:DA X E ma es):DE X E (xN ma) (.List es pos):=by
 simp only [bu,hZ] at *
 exact PE.imp (uM h) fun σ H Q ⟨θ,h,ρ,w,fr,p⟩=>⟨θ,h,ρ,w,fr,(aB.bind p).mono fun xs θ1 h1 H1 _ _ ⟨ev,w1,p1⟩ vs r1=>by
   unfold p7 at p1
   split at p1
   ·rename_i hz
    have hl:vs.length=xs.length:=(Paired.length r1).symm
    refine ⟨by rw [hl];exact cY hz,fun q hq=>?_⟩
    obtain ⟨e1,w2,g⟩:=w1.Es r1 hq
    exact p1 _ _ e1 w2 _ g
   ·exact p1.elim⟩
theorem ze {id:String} {f:Fn} (hc:mm X E (.builtin id) f) (hg:Gl X x) (hm:X.mg x=none) (hv:bootBuiltins x=some (.builtin id)) {p:Pos} (ha:DA X E ma (e::es)) (hn:x ≠ "__name__" := by decide) (hdb:(x == ("__debug__" : Str))=false:=by decide)
  (he:starEach (e::es) X.env=(false,eval e X.env)::starEach es X.env:=by rfl) (hpl:(backTo pos (starEach es X.env)).any (·.1)=false:=by rfl):DE X E (ag f ma) (.Call (.Name x p) (e::es) [] pos):=by
 simp only [bu,hZ] at *
 exact PE.imp (sQ hc hg hm hv ha hn hdb he hpl) fun _ _ _=>wC
theorem xQ {T:String} {f:Fn} (hc:mm X E (.type T) f) (hg:Gl X x) (hm:X.mg x=none) (hv:bootBuiltins x=some (.type T)) {p:Pos} (ha:DA X E ma (e::es)) (hn:x ≠ "__name__" := by decide) (hdb:(x == ("__debug__" : Str))=false:=by decide)
  (he:starEach (e::es) X.env=(false,eval e X.env)::starEach es X.env:=by rfl) (hpl:(backTo pos (starEach es X.env)).any (·.1)=false:=by rfl):DE X E (ag f ma) (.Call (.Name x p) (e::es) [] pos):=by
 simp only [bu,hZ] at *
 exact PE.imp (xB hc hg hm hv ha hn hdb he hpl) fun _ _ _=>wC
end
end Ml
namespace Ml
open PySem PySem.Spec L2
section
variable {X:Cx} {E:XK} {m:ME} {a b:MS} {t:MT} {e e1:Expr} {st:Stmt} {sts:List Stmt} {ss ss':List Stmt} {ma:MA} {pos:Pos} {i:Nat} {x:Str} {g:MG}
theorem cj:zc X E cu []:=by
 simp only [kK] at *
 exact uC.imp AG fun C σ H ⟨θ,h,ρ,w,fr,p⟩=>p θ H Ev.refl w σ fr
theorem aC (h:DS X E a st):zc X E a [st]:=by
 simp only [h9,kK] at *
 exact AH h
theorem av (h1:DS X E a st) (h2:zc X E b ss):zc X E (bQ a b) (st::ss):=by
 simp only [h9,kK] at *
 exact uC.imp (ym h1 h2) fun C σ H ⟨θ,h,ρ,w,fr,p⟩=>⟨θ,h,ρ,w,fr,(aB.bind p).mono fun f θ1 h1 H1 _ _ ⟨ev,w1,p1⟩=>by
   cases f with
   | nx ρ1=>exact fun σ1 fr1=>⟨θ1,h1,ρ1,w1,fr1,p1⟩
   | rt d=>exact p1 θ1 H1 Ev.refl w1
   | bk ρ1=>exact p1 θ1 H1 Ev.refl w1
   | ct ρ1=>exact p1 θ1 H1 Ev.refl w1⟩
theorem iH (he:DE X E m e) (hs:swapsWith e none pos.line X.env=pure false:=by rfl):DS X E (lj m) (.Expr e pos):=by
 simp only [bu,h9] at *
 exact PS.imp (AI he hs) fun C σ H ⟨θ,h,ρ,w,fr,p⟩=>⟨θ,h,ρ,w,fr,(aB.bind p).mono fun d θ1 h1 H1 _ _ ⟨ev,w1,p1⟩ v _=>p1 θ1 H1 Ev.refl w1 σ (fr.ev ev)⟩
theorem bc (he:DE X E m e):DS X E (b8 m) (.Return (some e) pos):=by
 simp only [bu,h9] at *
 exact PS.imp (Dx he) fun C σ H ⟨θ,h,ρ,w,fr,p⟩=>⟨θ,h,ρ,w,fr,(aB.bind p).mono fun d θ1 h1 H1 _ _ ⟨ev,w1,p1⟩ v r=>p1 θ1 H1 Ev.refl w1 v r⟩
theorem eW (hc:DT X E t e) (ha:zc X E a ss) (hb:zc X E b ss'):DS X E (lq t a b) (.If e ss ss' pos):=by
 simp only [gS,h9,kK] at *
 exact PS.imp (Ft hc ha hb) fun C σ H ⟨θ,h,ρ,w,fr,p⟩=>⟨θ,h,ρ,w,fr,(aB.bind p).mono fun c θ1 h1 H1 _ _ ⟨ev,w1,p1⟩=>by
   cases c with
   | true=>exact ⟨θ1,h1,ρ,w1,fr.ev ev,p1⟩
   | false=>exact ⟨θ1,h1,ρ,w1,fr.ev ev,p1⟩⟩
theorem Bn (hN:X.N.Nodup) (hi:X.N[i]?=some x) (hx:Loc X.env.scope x) (hf:X.fn x=true\/X.env.scope.names.lookup x=some .local:=by first | exact .inl rfl | exact .inr rfl | assumption):DG X E (au i) (.Name x pos):=by
 simp only [lx] at *
 exact fun pins s σ H v u Q I r ⟨θ,h,ρ,d,w,fr,rd,p⟩=>AJ hN hi hx hf pins s σ H v u Q I r (p θ H Ev.refl w _ (fr.set rd))
def Jd (G:Gx) (E:XK) (g:we):CC:=fun vs σ H Q=>∃ θ h ρ ds,W G θ h H/\Fr G θ H ρ σ/\aP G θ H ds vs/\aB G (lu G E) θ H (g ds ρ h) (fun ρ' θ' _ H'=>∀ σ',Fr G θ' H' ρ' σ'->Q σ' H')
@[irreducible] def Fc (X:Cx) (E:XK) (m:we) (es:List Expr):Prop:=E7 X es (Jd X.G E m)
theorem va (X:Cx) (E:XK) (m:we) (es:List Expr):Fc X E m es=(E7 X es (Jd X.G E m)):=by
 unfold Fc
 rfl
theorem iI:Fc X E jj []:=by
 simp only [va] at *
 exact fun pins s σ H vs us Q I r ⟨θ,h,ρ,ds,w,fr,rd,p⟩=>by
  cases rd with
  | nil=>exact AK pins s σ H [] us Q I r ⟨rfl,p θ H Ev.refl w σ fr⟩
  | cons=>exact p.elim
theorem cB {gs:we} {es:List Expr} (h1:DG X E g e) (h2:Fc X E gs es) (hs:(assignEach (e::es) X.env).map (·.2)=assign e X.env::(assignEach es X.env).map (·.2):=by rfl):Fc X E (cq g gs) (e::es):=by
 simp only [lx,va] at *
 exact fun pins s σ H vs us Q I r ⟨θ,h,ρ,ds,w,fr,rd,p⟩=>by
   cases rd with
   | nil=>exact p.elim
   | cons r1 rr=>exact yn h1 h2 hs pins s σ H _ us Q I r ⟨_,_,rfl,θ,h,ρ,_,w,fr,r1,(aB.bind p).mono fun ρ1 θ1 h1 H1 _ _ ⟨ev,w1,p1⟩ σ1 fr1=>⟨θ1,h1,ρ1,_,w1,fr1,aP.ev ev rr,p1⟩⟩
theorem e9 {G:Gx} {θ:List Addr} {H:Hp} {ds:List PyData} {v:V} (r:bE G θ H (.dat (.tuple ds)) v):∃ a xs,v=.ref a/\view θ H a=some (.tup xs)/\aJ (view θ H) ds xs/\aP G θ H (ds.map D.dat) xs:=by
 obtain ⟨⟨a,xs,e,ha,rr⟩,s⟩:=r
 exact ⟨a,xs,e,ha,rr,rj rr (by simpa [cg] using s)⟩
theorem fb {G:Gx} {θ:List Addr} {H:Hp} {ds:List PyData} {v:V} (r:bE G θ H (.dat (.list ds)) v):∃ a xs,v=.ref a/\view θ H a=some (.lst xs)/\aJ (view θ H) ds xs/\aP G θ H (ds.map D.dat) xs:=by
 obtain ⟨⟨a,xs,e,ha,rr⟩,s⟩:=r
 exact ⟨a,xs,e,ha,rr,rj rr (by simpa [cg] using s)⟩
@[irreducible] def qa (gs:we) (n:Nat):Prop:=∀ xs ρ h,xs.length≠n->gs xs ρ h=.bad
theorem nH (gs:we) (n:Nat):qa gs n=(∀ xs ρ h,xs.length≠n->gs xs ρ h=.bad):=by
 unfold qa
 rfl
theorem ff:qa jj 0:=by
 simp only [nH] at *
 exact fun xs ρ h ne=>by
  cases xs with
  | nil=>exact absurd rfl ne
  | cons=>rfl
theorem bI {g:Nat} {gs:we} {n:Nat} (t:qa gs n):qa (cq (au g) gs) (n+1):=by
 simp only [nH] at *
 exact fun xs ρ h ne=>by
  cases xs with
  | nil=>rfl
  | cons x xs=>simp only [cq,au,R.aD];exact t xs _ h (by simpa using ne)
theorem kM {es:List Expr} {k n:Nat} {gs:we} (hc:X.calm=true) (h:Fc X E gs es) (tk:qa gs n) (hn:(assignEach es X.env).length=n:=by rfl) (hst:(assignEach es X.env).findIdx? (·.1)=none:=by rfl):DG X E (jk gs) (.Tuple es k pos):=by
 simp only [lx,va,nH] at *
 exact fun pins s σ H v u Q I r ⟨θ,hm,ρ,d,w,fr,rd,p⟩=>by
   cases d with
   | dat d=>
    cases d with
    | tuple ds=>
     obtain ⟨a,xs,e,ha,rr,rr2⟩:=e9 rd
     have hl:xs.length=n:=by
      have h1:xs.length=ds.length:=rr.length
      by_cases z:ds.length=n
      ·rw [h1,z]
      ·have p':=p
       simp only [jk] at p'
       rw [tk (ds.map D.dat) ρ hm (by simpa using z)] at p'
       exact p'.elim
     exact DB (n:=n) hc h hn hst pins s σ H v u Q I r ⟨a,xs,e,eR.of (aq _ _ _ _ ha),hl,θ,hm,ρ,_,w,fr,rr2,p⟩
    | _=>exact p.elim
   | _=>exact p.elim
theorem Et (hN:X.N.Nodup) (hi:X.N[i]?=some x) (hx:Loc X.env.scope x) (he:DE X E m e) {pos':Pos} (hs:swapsWith e (some (.Name x pos')) pos.line X.env=pure false:=by rfl) (hf:X.fn x=true\/X.env.scope.names.lookup x=some .local:=by first | exact .inl rfl | exact .inr rfl | assumption) :
  DS X E (df i m) (.Assign [.Name x pos'] e pos):=by
 simp only [bu,h9] at *
 exact PS.imp (DF hN hi hx he hs hf) fun C σ H ⟨θ,h,ρ,w,fr,p⟩=>⟨θ,h,ρ,w,fr,(aB.bind p).mono fun d θ1 h1 H1 _ _ ⟨ev,w1,p1⟩ v r=>p1 θ1 H1 Ev.refl w1 _ ((fr.ev ev).set r)⟩
theorem rl {tg:Expr} (he:DE X E m e) (hg:DG X E g tg) (hs:swapsWithSole [tg] e pos.line X.env=pure false:=by rfl) (hw:swappedStores [tg] e X.env=pure none:=by rfl)
  (h1:(assignEach [tg] X.env).map (·.2)=[assign tg X.env]:=by rfl):DS X E (uY g m) (.Assign [tg] e pos):=by
 simp only [bu,h9,lx] at *
 exact PS.imp (DD he hg hs hw h1) fun C σ H ⟨θ,h,ρ,w,fr,p⟩=>⟨θ,h,ρ,w,fr,(aB.bind p).mono fun d θ1 h1 H1 _ _ ⟨ev,w1,p1⟩ v r=>
   ⟨θ1,h1,ρ,d,w1,fr.ev ev,r,(aB.bind p1).mono fun ρ1 θ2 h2 H2 _ _ ⟨ev2,w2,p2⟩ σ2 fr2=>p2 θ2 H2 Ev.refl w2 σ2 fr2⟩⟩
def nI (G:Gx) (θ:List Addr) (H:Hp) (xs:List D) (J:It):Prop:=∀ θ' h' H',Ev θ H θ' H'->W G θ' h' H' ->
 (∀ (i:Nat) (d:D),xs[i]?=some d->J.go i H'/\∀ x H2,J.yld i H' x H2->Ev θ' H' θ' H2/\W G θ' h' H2/\bE G θ' H2 d x)/\J.stop xs.length H'
def lI (G:Gx) (E:XK) (m:MA):TI:=fun σ H R=>∃ θ h ρ,W G θ h H/\Fr G θ H ρ σ/\aB G (lu G E) θ H (m ρ h) (fun xs θ' _ H'=>∀ J,nI G θ' H' xs J->R J H')
@[irreducible] def DI (X:Cx) (E:XK) (m:MA) (tg e:Expr):Prop:=PI X tg e (lI X.G E m)
theorem i6 (X:Cx) (E:XK) (m:MA) (tg e:Expr):DI X E m tg e=(PI X tg e (lI X.G E m)):=by
 unfold DI
 rfl
theorem PI.imp {tg e:Expr} {t t':TI} (h:PI X tg e t) (k:∀ σ H Q,t' σ H Q->t σ H Q):PI X tg e t':=fun pins s σ H Q I q=>h pins s σ H Q I (k _ _ _ q)
theorem aP.get {G:Gx} {θ:List Addr} {H:Hp}:∀ {ds:List D} {vs:List V} {i:Nat} {d:D} {v:V},aP G θ H ds vs->ds[i]?=some d->vs[i]?=some v->bE G θ H d v
 | _,_,i,_,_,.nil,e,_=>by simp at e
 | _,_,0,_,_,.cons r _,e,e'=>by simp at e e';subst e;subst e';exact r
 | _,_,i+1,d,v,.cons _ t,e,e'=>aP.get (i:=i) t (by simpa using e) (by simpa using e')
theorem aP.some {G:Gx} {θ:List Addr} {H:Hp} {ds:List D} {vs:List V} {i:Nat} {d:D} (r:aP G θ H ds vs) (e:ds[i]?=some d):∃ v,vs[i]?=some v/\bE G θ H d v:=by
 have hl:ds.length=vs.length:=Paired.length r
 have hi:i < vs.length:=by rw [<- hl];exact (List.getElem?_eq_some_iff.mp e).1
 exact ⟨vs[i],List.getElem?_eq_getElem hi,r.get e (List.getElem?_eq_getElem hi)⟩
theorem Eu {G:Gx} {K:PySem.W.Frag} {θ:List Addr} {H:Hp} {ds:List D} {a:Addr} {xs:List V} (ha:view θ H a=some (.tup xs)) (r:aP G θ H ds xs):nI G θ H ds (GF K a):=fun θ' h' H' ev w=>by
 have ha':=aq _ _ _ _ (ev.same _ _ ha)
 have q:eR K H' a xs:=eR.of ha'
 refine ⟨fun i d e=>?_,⟨xs,q,by rw [<- show ds.length=xs.length from Paired.length r];exact Nat.le_refl _⟩⟩
 obtain ⟨v,ev',rv⟩:=r.some e
 refine ⟨⟨xs,v,q,ev'⟩,fun x H2 ⟨e2,y⟩=>?_⟩
 subst e2
 have:=y xs q
 rw [ev'] at this
 cases this
 exact ⟨Ev.refl,w,rv.ev ev⟩
theorem Ew {G:Gx} {K:PySem.W.Frag} {θ:List Addr} {H:Hp} {ds:List D} {a:Addr} {xs:List V} (ha:view θ H a=some (.lst xs)) (r:aP G θ H ds xs):nI G θ H ds (Ht K a):=fun θ' h' H' ev w=>by
 have ha':=aq _ _ _ _ (ev.same _ _ ha)
 have q:gc K H' a xs:=gc.of ha'
 refine ⟨fun i d e=>?_,⟨xs,q,by rw [<- show ds.length=xs.length from Paired.length r];exact Nat.le_refl _⟩⟩
 obtain ⟨v,ev',rv⟩:=r.some e
 refine ⟨⟨xs,v,q,ev'⟩,fun x H2 ⟨e2,y⟩=>?_⟩
 subst e2
 have:=y xs q
 rw [ev'] at this
 cases this
 exact ⟨Ev.refl,w,rv.ev ev⟩
theorem Ex {tg:Expr} (h:DE X E m e):DI X E (wg m) tg e:=by
 simp only [bu,i6] at *
 exact PI.imp (yp h) fun σ H R ⟨θ,h,ρ,w,fr,p⟩=>⟨θ,h,ρ,w,fr,(aB.bind p).mono fun d θ1 h1 H1 _ _ ⟨ev,w1,p1⟩ v r=>by
   cases d with
   | dat d=>
    cases d with
    | tuple ds=>
     obtain ⟨a,xs,e,ha,_,rr⟩:=e9 r
     exact ⟨a,e,⟨xs,eR.of (aq _ _ _ _ ha)⟩,p1 θ1 H1 Ev.refl w1 _ (Eu ha rr)⟩
    | _=>exact p1.elim
   | _=>exact p1.elim⟩
theorem Ey {tg:Expr} (h:DE X E m e):DI X E (yY m) tg e:=by
 simp only [bu,i6] at *
 exact PI.imp (AM h) fun σ H R ⟨θ,h,ρ,w,fr,p⟩=>⟨θ,h,ρ,w,fr,(aB.bind p).mono fun d θ1 h1 H1 _ _ ⟨ev,w1,p1⟩ v r=>by
   cases d with
   | dat d=>
    cases d with
    | list ds=>
     obtain ⟨a,xs,e,ha,_,rr⟩:=fb r
     exact ⟨a,e,⟨xs,gc.of (aq _ _ _ _ ha)⟩,p1 θ1 H1 Ev.refl w1 _ (Ew ha rr)⟩
    | _=>exact p1.elim
   | _=>exact p1.elim⟩
theorem wF {x:Str} {i:Nat} (s:PyData.strOk x=true):PyData.strOk ⟨#[x.cps.getD i 0]⟩=true:=by
 have q:=Array.all_eq_true.mp s
 simp only [PyData.strOk]
 apply Array.all_eq_true.mpr
 intro j hj
 simp only [List.size_toArray,List.length_cons,List.length_nil] at hj
 have:j=0:=by omega
 subst this
 simp only [List.getElem_toArray,List.getElem_cons_zero]
 by_cases hi:i < x.cps.size
 ·have:=q i hi
  simpa [Array.getD,hi] using this
 ·simp [Array.getD,hi]
theorem Ez {tg:Expr} (h:DE X E m e):DI X E (yZ m) tg e:=by
 simp only [bu,i6] at *
 exact PI.imp (Ea h) fun σ H R ⟨θ,h,ρ,w,fr,p⟩=>⟨θ,h,ρ,w,fr,(aB.bind p).mono fun d θ1 h1 H1 _ _ ⟨ev,w1,p1⟩ v r=>by
   cases d with
   | dat d=>
    cases d with
    | str s=>
     obtain ⟨r1,r2⟩:=r
     refine ⟨s,r1,p1 θ1 H1 Ev.refl w1 _ fun θ' h' H' ev w=>⟨fun i d e=>?_,by show (signs s).length=_;simp [signs]⟩⟩
     simp only [signs,List.getElem?_map,Option.map_eq_some_iff] at e
     obtain ⟨j,e1,e2⟩:=e
     obtain ⟨hj,e3⟩:=List.getElem?_eq_some_iff.mp e1
     simp at hj e3
     subst e3
     subst e2
     refine ⟨hj,fun x H2 ⟨z1,z2⟩=>?_⟩
     subst z1
     subst z2
     exact ⟨Ev.refl,w,rfl,by simp only [cg];exact wF (by simpa [cg] using r2)⟩
    | _=>exact p1.elim
   | _=>exact p1.elim⟩
theorem Bo {G:Gx} {θ:List Addr} {H:Hp} {lo:Int} {n:Nat}:nI G θ H (nums lo n) (GG lo n):=fun θ' h' H' ev w=>by
 refine ⟨fun i d e=>?_,by show n<=(nums lo n).length;simp [nums]⟩
 simp only [nums,List.getElem?_map,Option.map_eq_some_iff] at e
 obtain ⟨j,e1,e2⟩:=e
 obtain ⟨hj,e3⟩:=List.getElem?_eq_some_iff.mp e1
 simp at hj e3
 subst e3
 subst e2
 refine ⟨hj,fun x H2 ⟨z1,z2⟩=>?_⟩
 subst z1
 subst z2
 exact ⟨Ev.refl,w,rfl,by simp [cg]⟩
theorem bj {G:Gx} {θ:List Addr} {H:Hp} {j:Int} {v:V} (r:bE G θ H (.int j) v):v=.int j:=r.1
theorem mG {tg a:Expr} {p' pos':Pos} (hg:Gl X "range") (hm:X.mg "range" = none) (ha:DA X E ma [a]) (hs:starEach [a] X.env=[(false,eval a X.env)]:=by rfl):DI X E (fz ma) tg (.Call (.Name "range" p') [a] [] pos'):=by
 simp only [hZ,i6] at *
 exact PI.imp (xp hg hm ha hs) fun σ H R ⟨θ,h,ρ,w,fr,p⟩=>⟨θ,h,ρ,w,fr,(aB.bind p).mono fun ds θ1 h1 H1 _ _ ⟨ev,w1,p1⟩ vs r=>by
   split at p1
   ·split at p1
    ·rename_i j _ hj
     cases r with
     | cons r1 rr=>
      cases rr
      cases bj r1
      exact ⟨j,rfl,hj.1,hj.2,p1 θ1 H1 Ev.refl w1 _ Bo⟩
    ·exact p1.elim
   ·exact p1.elim⟩
theorem tB:∀ (xs ys:List PyData),(iW xs ys).length=min xs.length ys.length
 | [],_=>by simp [iW]
 | _::_,[]=>by simp [iW]
 | x::xs,y::ys=>by simp [iW,tB xs ys]
theorem tD:∀ (xs ys:List PyData) (i:Nat) (d:D),(iW xs ys)[i]?=some d->∃ x y,xs[i]?=some x/\ys[i]?=some y/\d=.dat (.tuple [x,y])
 | [],_,i,d,e=>by simp [iW] at e
 | _::_,[],i,d,e=>by simp [iW] at e
 | x::xs,y::ys,0,d,e=>by simp [iW] at e;exact ⟨x,y,rfl,rfl,e.symm⟩
 | x::xs,y::ys,i+1,d,e=>by simpa using tD xs ys i d (by simpa [iW] using e)
theorem j4:∀ {ds:List PyData} {i:Nat} {d:PyData},bM ds=true->ds[i]?=some d->cg d=true
 | [],i,d,_,e=>by simp at e
 | x::xs,0,d,s,e=>by simp [bM] at s e;subst e;exact s.1
 | x::xs,i+1,d,s,e=>by simp [bM] at s;exact j4 (i:=i) s.2 (by simpa using e)
theorem EA {kk:Nat} {es:List Expr} {tpos:Pos} {e1 e2:Expr} {p' pos':Pos} (hg:Gl X "zip") (hm:X.mg "zip" = none) (ha:DA X E ma [e1,e2]) (hs:starEach [e1,e2] X.env=[(false,eval e1 X.env),(false,eval e2 X.env)]:=by rfl) (hs2:starEach [e2] X.env=[(false,eval e2 X.env)]:=by rfl) :
  DI X E (wj ma) (.Tuple es kk tpos) (.Call (.Name "zip" p') [e1,e2] [] pos'):=by
 simp only [hZ,i6] at *
 exact PI.imp (D7 hg hm ha hs hs2) fun σ H R ⟨θ,h,ρ,w,fr,p⟩=>⟨θ,h,ρ,w,fr,(aB.bind p).mono fun ds θ1 h1 H1 _ _ ⟨ev,w1,p1⟩ vs r=>by
   split at p1
   ·rename_i xs ys _
    cases r with
    | cons r1 rr=>
     cases rr with
     | cons r2 rr=>
      cases rr
      have s1:bM xs=true:=by simpa [cg] using r1.2
      have s2:bM ys=true:=by simpa [cg] using r2.2
      obtain ⟨a1,us,rfl,ha1,q1,_⟩:=e9 r1
      obtain ⟨a2,ws,rfl,ha2,q2,_⟩:=e9 r2
      refine ⟨a1,a2,us,ws,rfl,eR.of (aq _ _ _ _ ha1),eR.of (aq _ _ _ _ ha2),p1 θ1 H1 Ev.refl w1 _ fun θ' h' H' ev' w'=>?_⟩
      have k1:eR X.K H' a1 us:=eR.of (aq _ _ _ _ (ev'.same _ _ ha1))
      have k2:eR X.K H' a2 ws:=eR.of (aq _ _ _ _ (ev'.same _ _ ha2))
      have l1:=q1.length
      have l2:=q2.length
      refine ⟨fun i d e=>?_,⟨us,ws,k1,k2,by rw [tB,l1,l2];omega⟩⟩
      obtain ⟨x,y,ex,ey,rfl⟩:=tD _ _ _ _ e
      obtain ⟨u,eu,ru⟩:=aJ.get' q1 ex
      obtain ⟨z,ez,rz⟩:=aJ.get' q2 ey
      refine ⟨⟨us,ws,u,z,k1,k2,eu,ez⟩,fun v H2 ⟨pp,x',y',e1,hp,e2,c1,c2⟩=>?_⟩
      have:=c1 us k1
      rw [eu] at this
      cases this
      have:=c2 ws k2
      rw [ez] at this
      cases this
      subst e1
      subst e2
      obtain ⟨e3,w3,g3⟩:=w'.put (o:=.tup [u,z]) hp
      exact ⟨e3,w3,⟨pp,[u,z],rfl,g3,.cons (ru.same (ev'.same.trans e3.same)) (.one (rz.same (ev'.same.trans e3.same)))⟩,by simp [cg,bM,j4 s1 ex,j4 s2 ey]⟩
   ·exact p1.elim⟩
abbrev kN:XK:=fun _ _ _=>False
theorem aB.iJ {α β:Type} {G:Gx} {F:XP} {θ:List Addr} {H:Hp} {r:R α} {f:α->Hm->R β} {L:β->List Addr->Hm->Hp->Prop} (p:aB G F θ H (r.yV.bind f) L) {F':XP} :
  aB G F' θ H r fun a θ1 h1 H1=>Ev θ H θ1 H1/\W G θ1 h1 H1/\aB G F θ1 H1 (f a h1) L:=by
 cases r with
 | ok a h'=>exact fun θ1 H1 e w=>⟨e,w,aB.later p e⟩
 | exc x h'=>exact p.elim
 | bad=>exact p.elim
theorem PS.E6 {X:Cx} {st:Stmt} {t:TS} (h:PS X.E6 st t):PS X st t:=fun pins s σ H D I hw=>
 wpAny_mono (h pins s σ H D (I.pe _) hw) (fun _ _ q=>q.gY) fun _ _ z=>False.elim z
end
end Ml
namespace L2
open PySem PySem.Spec PyProof.Rows
theorem CJ.JI {P:Program} {w:World} {K:PySem.W.Frag} {mg:Str->Option Value} {base:Heap} {x qual:Str} {st:Stmt} {f:Addr} {fd:FuncData} {N ps:List Str} {k:Nat} {sp:Sp} (F:CJ K x qual st f fd) (S:aZ N ps (ay st)) (len:∀ vs H Q E,sp vs H Q E->vs.length=ps.length)
  (hbody:∀ (cdv:Value) (A:Around) (outer:List Env) (s:Shared) (H:Hp) (vs:List V) (Q:VK) (E:XK),cb k (A.deeper (envOfC qual (ay st) s.heap.objs.size f cdv))->sp vs H Q E ->
   ∃ t,uC (pf (sH P w) P w K mg base N qual (ay st) f cdv A outer s H E) (dB st) t/\t {nx:=fun _ H'=>Q .non H',rt:=Q} (start N vs) H):iU P w K mg base (sH P w) (k+1) f fd ps sp:=by
 obtain ⟨oc,od,kV,doc,pm,an,cdv,ct,osl,rfl,lk,hcd⟩:=F.ex
 exact FJ lk hcd S len fun A outer s H vs Q E hr hsp=>hbody cdv A outer s H vs Q E hr hsp
structure zf (P:Program) (w:World) (K:PySem.W.Frag) (mg:Str->Option Value) (base:Heap) (x:Str) (ps:List Str) (k:Nat) (sp:Sp):Prop where
 ex:∃ (f:Addr) (fd:FuncData),mg x=some (.ref f)/\PySem.W.keepIn K (.ref f)=true/\Binds K fd ps []/\iU P w K mg base (sH P w) k f fd ps sp
section
variable {X:Cx} {x:Str} {ps:List Str} {k:Nat} {sp:Sp} {e:Expr} {es:List Expr} {t:TA} {p pos:Pos}
theorem EB {E:XK} (F:zf X.prog X.w X.K X.mg X.base x ps k sp) (hx:Passes (sH X.prog X.w) X E) (hr:cb k X.A) (hg:Gl X x) (ha:PA X (e::es) t) (hdb:(x == ("__debug__" : Str))=false:=by decide) (he:starEach (e::es) X.env=(false,eval e X.env)::starEach es X.env:=by rfl)
  (hpl:(backTo pos (starEach es X.env)).any (·.1)=false:=by rfl):PE X (.Call (.Name x p) (e::es) [] pos) (CH sp [] E t):=by
 obtain ⟨f,fd,h1,h2,h3,h4⟩:=F.ex
 exact AU h4 hr hg h1 h2 h3 .nil hx ha hdb he hpl
end
end L2
namespace Ml
open PySem PySem.Spec L2
section
variable {X:Cx} {E:XK} {m:ME} {a b:MS} {t:MT} {e e1 tg:Expr} {st:Stmt} {ss ss':List Stmt} {ma it:MA} {pos:Pos} {i:Nat} {x:Str} {g:MG}
theorem zg {G:Gx} {F:XP} {θ1:List Addr} {H1:Hp} {h1:Hm} {xs:List D} {J:It} {C:Ends} {σ:St} {ρ:Fm} (hJ:nI G θ1 H1 xs J) (w1:W G θ1 h1 H1) (fr:Fr G θ1 H1 ρ σ) (p1:aB G F θ1 H1 (dw g b xs ρ h1) (KS G C)) :
  ∃ W':Nat->Nat->St->Hp->Prop,(∃ m,W' 0 m σ H1)/\∀ i m σ H,W' i m σ H ->
   (J.stop i H/\C.nx σ H)\/(J.go i H/\∃ N:St->Hp->Prop,(∀ σ' H',N σ' H'->∃ m',m' < m/\W' (i+1) m' σ' H')/\∀ x H',J.yld i H x H'->lG G kN g x σ H' fun σ2 H2=>lS G kN b {C with nx:=N,ct:=N,bk:=C.nx} σ2 H2):=by
 refine ⟨fun i m σ H=>m=xs.length - i/\i<=xs.length/\∃ θ' h' ρ',Ev θ1 H1 θ' H/\W G θ' h' H/\Fr G θ' H ρ' σ/\aB G F θ' H (dw g b (xs.drop i) ρ' h') (KS G C),⟨xs.length,by simp,Nat.zero_le _,θ1,h1,ρ,Ev.refl,w1,fr,p1⟩,?_⟩
 rintro i m σ H ⟨rfl,hi,θ',h',ρ',ev,w,fr',p⟩
 obtain ⟨j1,j2⟩:=hJ θ' h' H ev w
 by_cases hlt:i < xs.length
 ·have ed:xs.drop i=xs[i]::xs.drop (i+1):=List.drop_eq_getElem_cons hlt
  rw [ed] at p
  obtain ⟨g1,g2⟩:=j1 i xs[i] (List.getElem?_eq_getElem hlt)
  refine .inr ⟨g1,fun σ2 H2=>i+1<=xs.length/\∃ θ' h' ρ',Ev θ1 H1 θ' H2/\W G θ' h' H2/\Fr G θ' H2 ρ' σ2/\aB G F θ' H2 (dw g b (xs.drop (i+1)) ρ' h') (KS G C),fun σ' H' q=>⟨xs.length - (i+1),by omega,rfl,q⟩,fun x H2 y=>?_⟩
  obtain ⟨e2,w2,r2⟩:=g2 x H2 y
  refine ⟨θ',h',ρ',xs[i],w2,fr'.ev e2,r2,(aB.iJ (p.later e2)).mono fun ρ3 θ3 h3 H3 _ _ ⟨e3,w3,p3⟩ σ3 fr3=>⟨θ3,h3,ρ3,w3,fr3,(aB.iJ p3).mono fun f θ4 h4 H4 _ _ ⟨e4,w4,p4⟩=>?_⟩⟩
  have ev4:=(ev.trans e2).trans (e3.trans e4)
  cases f with
  | nx ρ5=>exact fun σ5 fr5=>⟨hlt,θ4,h4,ρ5,ev4,w4,fr5,p4⟩
  | ct ρ5=>exact fun σ5 fr5=>⟨hlt,θ4,h4,ρ5,ev4,w4,fr5,p4⟩
  | bk ρ5=>exact p4 θ4 H4 Ev.refl w4
  | rt d=>exact p4 θ4 H4 Ev.refl w4
 ·have hx:i=xs.length:=by omega
  subst hx
  rw [List.drop_of_length_le (Nat.le_refl _)] at p
  exact .inl ⟨j2,p θ' H Ev.refl w σ fr'⟩
theorem ju {body:List Stmt} (hc:X.calm=true) (hi:DI X.E6 kN it tg e) (hg:DG X.E6 kN g tg) (hb:zc X.E6 kN b body) (hs:∀ x,foldedSetIterable e X.env x=pure x:=by intro _;rfl):DS X E (gB it g b) (.For tg e body [] pos):=by
 simp only [h9,kK,lx,i6] at *
 exact PS.E6 (PS.imp (DH PassesOwn.never hc hi hg hb hs) fun C σ H ⟨θ,h,ρ,w,fr,p⟩=>⟨θ,h,ρ,w,fr,(aB.iJ p).mono fun xs θ1 h1 H1 _ _ ⟨ev,w1,p1⟩ J hJ=>zg hJ w1 (fr.ev ev) p1⟩)
theorem f6 {α β:Type} {G:α->β->Prop}:∀ {xs ys:List α} {us ws:List β},Paired G xs us->Paired G ys ws->Paired G (xs++ys) (us++ws)
 | _,_,_,_,.nil,s=>s
 | _,_,_,_,.cons r t,s=>.cons r (f6 t s)
theorem xR {G:Gx} {F:XP} {n:Nat} {θ1:List Addr} {H1:Hp} {h1:Hm} {xs:List D} {J:It} {σ:St} {ρ:Fm} {Q:VK} {mk:List D->Hm->R D} (hJ:nI G θ1 H1 xs J) (w1:W G θ1 h1 H1) (fr:Fr G θ1 H1 ρ σ) (p1:aB G F θ1 H1 ((cR n ρ g t m xs h1).bind mk) (KV G Q))
  (hmk:∀ ys vs θ h H,ys.length<=xs.length->W G θ h H->aP G θ H ys vs->aB G F θ H (mk ys h) (KV G Q)->∀ p,H p=none->Q (.ref p) (upd H p (.lst vs))) (hz:xs.length<=sizeLine) :
  yG n J (lG G kN g) (lT G kN t) (lE G kN m) σ H1 Q:=by
 refine ⟨fun i m' ys H=>m'=xs.length - i/\i<=xs.length/\∃ θ' h' acc,acc.length<=i/\Ev θ1 H1 θ' H/\W G θ' h' H/\aP G θ' H acc ys/\aB G F θ' H ((cR n ρ g t m (xs.drop i) h').bind fun zs h2=>mk (acc++zs) h2) (KV G Q),
  ⟨xs.length,by simp,Nat.zero_le _,θ1,h1,[],Nat.le_refl _,Ev.refl,w1,.nil,p1⟩,?_⟩
 rintro i m' ys H ⟨rfl,hi,θ',h',acc,hacc,ev,w,ra,p⟩
 obtain ⟨j1,j2⟩:=hJ θ' h' H ev w
 have hly:ys.length<=sizeLine:=by rw [<- show acc.length=ys.length from Paired.length ra];omega
 by_cases hlt:i < xs.length
 ·have ed:xs.drop i=xs[i]::xs.drop (i+1):=List.drop_eq_getElem_cons hlt
  rw [ed] at p
  obtain ⟨g1,g2⟩:=j1 i xs[i] (List.getElem?_eq_getElem hlt)
  refine .inr ⟨g1,hly,fun ys2 H2=>i+1<=xs.length/\∃ θ' h' acc,acc.length<=i+1/\Ev θ1 H1 θ' H2/\W G θ' h' H2/\aP G θ' H2 acc ys2/\aB G F θ' H2 ((cR n ρ g t m (xs.drop (i+1)) h').bind fun zs h2=>mk (acc++zs) h2) (KV G Q),fun ys' H' q=>⟨xs.length - (i+1),by omega,rfl,q⟩,fun x H2 y=>?_⟩
  obtain ⟨e2,w2,r2⟩:=g2 x H2 y
  have p2:=p.later e2
  unfold cR at p2
  simp only [R.bind_assoc] at p2
  refine ⟨θ',h',_,xs[i],w2,((fr.ev ev).ev e2).replicate n,r2,(aB.iJ p2).mono fun ρ3 θ3 h3 H3 _ _ ⟨e3,w3,p3⟩ σ3 fr3=>⟨θ3,h3,ρ3,w3,fr3,(aB.iJ p3).mono fun c θ4 h4 H4 _ _ ⟨e4,w4,p4⟩=>?_⟩⟩
  have ev4:=(ev.trans e2).trans (e3.trans e4)
  have ra4:=aP.ev (e2.trans (e3.trans e4)) ra
  cases c with
  | false=>exact ⟨hlt,θ4,h4,acc,by omega,ev4,w4,ra4,p4⟩
  | true=>
   simp only [if_true,R.bind_assoc] at p4
   refine ⟨θ4,h4,ρ3,w4,fr3.ev e4,(aB.iJ p4).mono fun y θ5 h5 H5 _ _ ⟨e5,w5,p5⟩ v5 r5=>⟨hlt,θ5,h5,acc++[y],by simp;omega,ev4.trans e5,w5,?_,?_⟩⟩
   ·exact f6 (aP.ev e5 ra4) (.cons r5 .nil)
   ·simp only [R.bind_assoc,R.aD] at p5
    simpa using p5
 ·have hx:i=xs.length:=by omega
  subst hx
  rw [List.drop_of_length_le (Nat.le_refl _)] at p
  simp only [cR,R.aD,List.append_nil] at p
  exact .inl ⟨j2,hly,hmk acc ys θ' h' H hacc w ra p⟩
variable {own:List Str} {scope:Scope} {elt:Expr} {ifs:List Expr}
@[irreducible] def Fd (X:Cx) (E:XK) (t:MT) (es:List Expr):Prop:=D6 X es (lT X.G E t)
theorem rm (X:Cx) (E:XK) (t:MT) (es:List Expr):Fd X E t es=(D6 X es (lT X.G E t)):=by
 unfold Fd
 rfl
theorem gC:Fd X E dC []:=by
 simp only [rm] at *
 exact fun pins s σ H Q I ⟨θ,h,ρ,w,fr,p⟩=>A5 pins s σ H Q I (p θ H Ev.refl w)
theorem mH (h:DT X E t e):Fd X E t [e]:=by
 simp only [gS,rm] at *
 exact A6 h
theorem wG {G:Gx} {n:Nat} {mk:List D->Hm->R D} {σ:St} {H:Hp} {Q:VK} (h:lE G E (ag mk (jU n it g t m)) σ H Q)
  (hmk:∀ ys vs θ h H,ys.length<=sizeLine->W G θ h H->aP G θ H ys vs->aB G (lu G E) θ H (mk ys h) (KV G Q)->∀ p,H p=none->Q (.ref p) (upd H p (.lst vs))) :
  v7 n (lI G E it) (lG G kN g) (lT G kN t) (lE G kN m) σ H Q:=by
 obtain ⟨θ,h,ρ,w,fr,p⟩:=h
 simp only [ag,jU,R.bind_assoc] at p
 refine ⟨θ,h,ρ,w,fr,(aB.bind p).mono fun xs θ1 h1 H1 _ _ ⟨ev,w1,p1⟩ J hJ=>?_⟩
 split at p1
 ·rename_i hz
  exact xR hJ w1 (fr.ev ev) p1 (fun ys vs θ h H hl=>hmk ys vs θ h H (Nat.le_trans hl (cY hz))) (cY hz)
 ·exact p1.elim
theorem nJ {G:Gx} {F:XP} {Q:VK} (ys:List D) (vs:List V) (θ:List Addr) (h:Hm) (H:Hp) (w1:W G θ h H) (r1:aP G θ H ys vs) (p1:aB G F θ H (gj ys h) (KV G Q)) (q:Addr) (hq:H q=none):Q (.ref q) (upd H q (.lst vs)):=by
 unfold gj at p1
 cases e:fx ys with
 | none=>rw [e] at p1;exact p1.elim
 | some ds=>
  rw [e] at p1
  simp only at p1
  split at p1
  ·obtain ⟨e1,w2,g⟩:=w1.put (o:=.lst vs) hq
   obtain ⟨h1,h2⟩:=iG r1 e
   exact p1 _ _ e1 w2 _ ⟨⟨q,vs,rfl,g,h1.same e1.same⟩,by simp [cg,h2]⟩
  ·exact p1.elim
theorem et (own:List Str) (CS:gg X.env.scope X.N own scope=true) (hc:X.calm=true) (hi:DI X E it tg e) (hg:∀ C s2 H2 fp pins,DG (br X own scope C s2 H2 fp pins) kN g tg)
  (ht:∀ C s2 H2 fp pins,Fd (br X own scope C s2 H2 fp pins) kN t ifs) (he:∀ C s2 H2 fp pins,DE (br X own scope C s2 H2 fp pins) kN m elt) (hs:∀ x,foldedSetIterable e X.env x=pure x:=by intro _;rfl) :
  DE X E (b9 own.length it g t m) (.ListComp elt [⟨tg,e,ifs,0⟩] scope pos):=by
 simp only [bu,lx,i6,rm] at *
 exact PE.imp (A7 (g:=lG X.G kN g) (tc:=lT X.G kN t) (te:=lE X.G kN m) own CS hc hi hg ht he hs) fun σ H Q q=>wG q fun ys vs θ h H _=>nJ ys vs θ h H
theorem Bp {G:Gx} {n:Nat} {mk:List D->Hm->R D} {C:Ends} {σ:St} {H:Hp} (h:lS G E (df i (ag mk (jU n it g t m))) C σ H)
  (hmk:∀ Q ys vs θ h H,ys.length<=sizeLine->W G θ h H->aP G θ H ys vs->aB G (lu G E) θ H (mk ys h) (KV G Q)->∀ p,H p=none->Q (.ref p) (upd H p (.lst vs))) :
  AL (v7 n (lI G E it) (lG G kN g) (lT G kN t) (lE G kN m)) (L2.au i) C σ H:=by
 obtain ⟨θ,h,ρ,w,fr,p⟩:=h
 refine wG (Q:=fun x H1=>L2.au i x σ H1 C.nx) ⟨θ,h,ρ,w,fr,(aB.bind p).mono fun d θ1 h1 H1 _ _ ⟨ev,w1,p1⟩ v r=>p1 θ1 H1 Ev.refl w1 _ ((fr.ev ev).set r)⟩ (hmk _)
theorem zh (own N':List Str) {pos' spos:Pos} (hN:X.N.Nodup) (hxi:X.N[i]?=some x) (hx:X.env.scope.names.lookup x=some .local) (HL:mB X.env.scope X.N N'=true) (CS:gg X.env.scope N' own scope=true) (hc:X.calm=true) (hi:DI X E it tg e) (hg:∀ C s2 H2 fp pins,DG (br (X.xE N') own scope C s2 H2 fp pins) kN g tg)
  (ht:∀ C s2 H2 fp pins,Fd (br (X.xE N') own scope C s2 H2 fp pins) kN t ifs) (he:∀ C s2 H2 fp pins,DE (br (X.xE N') own scope C s2 H2 fp pins) kN m elt) (hs:∀ x,foldedSetIterable e X.env x=pure x:=by intro _;rfl)
  (hsw:swapsWith (.ListComp elt [⟨tg,e,ifs,0⟩] scope pos) (some (.Name x pos')) spos.line X.env=pure true:=by rfl):DS X E (df i (b9 own.length it g t m)) (.Assign [.Name x pos'] (.ListComp elt [⟨tg,e,ifs,0⟩] scope pos) spos):=by
 simp only [bu,h9,lx,i6,rm] at *
 exact PS.imp (yH (g:=lG X.G kN g) (tc:=lT X.G kN t) (te:=lE X.G kN m) own N' hN hxi hx HL CS hc hi hg ht he hs hsw) fun C σ H q=>Bp q fun Q ys vs θ h H _=>nJ ys vs θ h H
end
def Bq (G:Gx) (F:Fn):Sp:=fun vs H Q E=>∃ θ h ds,W G θ h H/\aP G θ H ds vs/\aB G (lu G E) θ H (F ds h) (KV G Q)
def zi (F:Fn) (n:Nat):Prop:=∀ ds h,ds.length≠n->F ds h=.bad
theorem Br {G:Gx} {F:Fn} {n:Nat} (ar:zi F n):∀ vs H Q E,Bq G F vs H Q E->vs.length=n:=fun vs H Q E ⟨θ,h,ds,w,r,p⟩=>by
 by_cases e:ds.length=n
 ·rw [<- e];exact (Paired.length r).symm
 ·rw [ar ds h e] at p;exact p.elim
theorem qb {p n:Nat} {b:MS}:zi (bW p n b) p:=fun ds h e=>by unfold bW;rw [if_neg e]
structure aT (P:Program) (w:World) (K:PySem.W.Frag) (mg:Str->Option Value) (base:Heap) (x:Str) (ps:List Str) (k:Nat) (F:Fn):Prop where
 has:zf P w K mg base x ps k (Bq ⟨P,w,mg,K⟩ F)
 ar:zi F ps.length
section
variable {P:Program} {w:World} {K:PySem.W.Frag} {mg:Str->Option Value} {base:Heap} {x qual:Str} {st:Stmt} {f:Addr} {fd:FuncData} {N ps:List Str} {k:Nat} {b:MS} {F:Fn}
theorem Fr.start {G:Gx} {θ:List Addr} {H:Hp} {ds:List D} {vs:List V} {n:Nat} (r:aP G θ H ds vs) (hl:ds.length=ps.length):Fr G θ H (ds.map some++List.replicate (N.length - ps.length) none) (start N vs):=by
 have hv:ds.length=vs.length:=Paired.length r
 unfold L2.start
 rw [<- hv,hl]
 refine ⟨by simp [<- hv,hl],fun i d e=>?_⟩
 by_cases hi:i < ds.length
 ·rw [List.getElem?_append_left (by simpa using hi)] at e
  rw [List.getElem?_append_left (by simpa [<- hv] using hi)]
  simp only [List.getElem?_map] at e ⊢
  cases e1:ds[i]? with
  | none=>rw [e1] at e;cases e
  | some d'=>
   rw [e1] at e
   simp at e
   subst e
   obtain ⟨v,e2,rv⟩:=r.some e1
   exact ⟨v,by rw [e2];rfl,rv⟩
 ·rw [List.getElem?_append_right (by simpa using hi),List.getElem?_replicate] at e
  split at e<;>cases e
theorem Je (Fu:CJ K x qual st f fd) (S:aZ N ps (ay st)) (hbody:∀ (cdv:Value) (A:Around) (outer:List Env) (s:Shared) (H:Hp) (E:XK),cb k (A.deeper (PyProof.Rows.envOfC qual (ay st) s.heap.objs.size f cdv)) ->
   zc (pf (sH P w) P w K mg base N qual (ay st) f cdv A outer s H E) E b (dB st)):iU P w K mg base (sH P w) (k+1) f fd ps (Bq ⟨P,w,mg,K⟩ (bW ps.length N.length b)):=by
 simp only [kK] at *
 refine Fu.JI S (Br qb) fun cdv A outer s H vs Q E hr ⟨θ,h,ds,w,r,p⟩=>⟨_,hbody cdv A outer s H E hr,?_⟩
 unfold bW at p
 split at p
 ·rename_i hl
  refine ⟨θ,h,_,w,Fr.start (N:=N) (n:=0) r hl,(aB.bind p).mono fun fl θ1 h1 H1 _ _ ⟨ev,w1,p1⟩=>?_⟩
  cases fl with
  | nx ρ=>exact fun σ fr=>p1 θ1 H1 Ev.refl w1 _ ⟨rfl,by simp [cg]⟩
  | rt d=>exact p1 θ1 H1 Ev.refl w1
  | bk ρ=>exact p1.elim
  | ct ρ=>exact p1.elim
 ·exact p.elim
theorem aT.eq {F':Fn} (h:aT P w K mg base x ps k F) (e:F=F'):aT P w K mg base x ps k F':=e▸h
end
section
variable {X:Cx} {E:XK} {x:Str} {ps:List Str} {k:Nat} {F:Fn} {e:Expr} {es:List Expr} {ma:MA} {p pos:Pos}
theorem dG:Passes (sH X.prog X.w) X kN:=fun _ _ _ _ _ _ _ ⟨_,_,_,_,_,_,_,_,_,_,_,_,_,h⟩=>h.elim
theorem bh (F':aT X.prog X.w X.K X.mg X.base x ps k F) (hx:Passes (sH X.prog X.w) X E) (hr:cb k X.A) (hg:Gl X x) (ha:DA X E ma (e::es)) (hdb:(x == ("__debug__" : Str))=false:=by decide) (he:starEach (e::es) X.env=(false,eval e X.env)::starEach es X.env:=by rfl)
  (hpl:(backTo pos (starEach es X.env)).any (·.1)=false:=by rfl):DE X E (ag F ma) (.Call (.Name x p) (e::es) [] pos):=by
 simp only [bu,hZ] at *
 exact PE.imp (EB F'.has hx hr hg ha hdb he hpl) fun σ H Q ⟨θ,h,ρ,w,fr,p⟩=>⟨θ,h,ρ,w,fr,(aB.bind p).mono fun xs θ1 h1 H1 _ _ ⟨ev,w1,p1⟩ vs r=>⟨θ1,h1,xs,w1,by simpa using r,p1⟩⟩
end
end Ml
namespace Ml
open PySem PySem.Spec L2
theorem xS {h:Heap} {x:PyData} {u:Value} (hx:(match x with | .int _ | .str _ | .bool _ | .none=>true | _=>false)=true) (r:RelV (Fb x) u):Reads h u x []:=by
 cases x with
 | none=>cases r;exact .none
 | bool b=>cases r;exact .bool b
 | int i=>obtain ⟨t,rfl⟩:=r;exact .int i t
 | str s=>obtain ⟨t,rfl⟩:=r;exact .str s t
 | _=>cases hx
theorem gD {h:Heap}:∀ {xs:List PyData} {us:List Value},(∀ x∈xs,(match x with | .int _ | .str _ | .bool _ | .none=>true | _=>false)=true)->Vals (xs.map Fb) us->ReadsAll h us xs []
 | [],us,_,r=>by cases r;exact .nil
 | x::xs,us,hx,r=>by
  cases r with
  | cons r1 r2=>exact .cons (as:=[]) (bs:=[]) (xS (hx x (by simp)) r1) (gD (fun y m=>hx y (by simp [m])) r2)
section
variable {X:Cx} {pins:List (Addr×Obj)} {σ:L2.St} {H:Hp} {s:Shared} {θ:List Addr} {hm:Hm}
theorem eA (I:Inv X pins σ H s) (w:W X.G θ hm H):∀ (n:Nat) {x:D} {v:V} {u:Value} {d:PyData},bE X.G θ H x v->RelV v u->uZ hm n x=some d->(∃ as,Reads s.heap u d as)/\cg d=true:=by
 intro n
 induction n with
 | zero=>
  intro x v u d r rv e
  cases x with
  | dat d'=>simp only [uZ] at e;cases e;exact ⟨Rep.reads I (r.1.same (aq _ _)) rv,r.2⟩
  | ktup xs=>
   simp only [uZ] at e
   cases e
   obtain ⟨a,rfl,⟨o,its,k,hl,hc,hd,_,vs⟩,hx,hs⟩:=r
   cases rv
   exact ⟨⟨_,.tuple (I.qJ _ _ hl) hc hd (gD hx vs)⟩,by simpa [cg] using hs⟩
  | _=>simp [uZ] at e
 | succ n ih=>
  intro x v u d r rv e
  cases x with
  | dat d'=>simp only [uZ] at e;cases e;exact ⟨Rep.reads I (r.1.same (aq _ _)) rv,r.2⟩
  | ktup xs=>
   simp only [uZ] at e
   cases e
   obtain ⟨a,rfl,⟨o,its,k,hl,hc,hd,_,vs⟩,hx,hs⟩:=r
   cases rv
   exact ⟨⟨_,.tuple (I.qJ _ _ hl) hc hd (gD hx vs)⟩,by simpa [cg] using hs⟩
  | ref i=>
   simp only [uZ] at e
   obtain ⟨a,ha,rfl⟩:=r
   cases rv
   cases e1:hm[i]? with
   | none=>rw [e1] at e;cases e
   | some o=>
    rw [e1] at e
    cases o with
    | lst xs=>
     simp only at e
     obtain ⟨vs,hv,rs⟩:=w.obj i a _ ha e1
     obtain ⟨_,its,k,rvs,ho⟩:=I.hok a _ hv
     have all:∀ {xs:List D} {vs:List V} {us:List Value} {ds:List PyData},aP X.G θ H xs vs->Vals vs us->hE (uZ hm n) xs=some ds->(∃ as,ReadsAll s.heap us ds as)/\bM ds=true:=by
      intro xs
      induction xs with
      | nil=>
       intro vs us ds r1 r2 e
       cases r1
       cases r2
       cases e
       exact ⟨⟨_,.nil⟩,by simp [bM]⟩
      | cons x xs ihx=>
       intro vs us ds r1 r2 e
       cases r1 with
       | cons p1 p2=>
        cases r2 with
        | cons q1 q2=>
         unfold hE at e
         cases e2:uZ hm n x with
         | none=>rw [e2] at e;cases e
         | some d=>
          cases e3:hE (uZ hm n) xs with
          | none=>rw [e2,e3] at e;cases e
          | some ds'=>
           rw [e2,e3] at e
           cases e
           obtain ⟨⟨as,z1⟩,s1⟩:=ih p1 q1 e2
           obtain ⟨⟨bs,z2⟩,s2⟩:=ihx p2 q2 e3
           exact ⟨⟨_,.cons z1 z2⟩,by simp [bM,s1,s2]⟩
     cases e2:hE (uZ hm n) xs with
     | none=>rw [e2] at e;cases e
     | some ds=>
      rw [e2] at e
      cases e
      obtain ⟨⟨as,z⟩,s1⟩:=all rs rvs e2
      exact ⟨⟨_,.list ho rfl rfl (by simpa using z)⟩,by simpa [cg] using s1⟩
    | _=>cases e
  | _=>simp [uZ] at e
end
end Ml
namespace PySem.SeqAt
open PySem PySem.MeetsSeq PySem.AutoSeq1
theorem nK (t:Addr) (its:Array Value) (m:Nat) (d2:Option Addr) (sl2:Array (Option Value)) (l:Addr) (es:Array DictEntry) (n:Nat) (dd:Option Addr) (sl:Array (Option Value)) :
  Meets (Builtin.«tuple.__eq__» ⟨[.ref t,.ref l],[]⟩) (fun _ R s=>s.heap.get? t=some {cls:=.type "tuple",dict:=d2,data:=.seq its m,slots:=sl2}/\s.heap.get? l=some {cls:=.type "dict",dict:=dd,data:=.dict es n,slots:=sl}/\R (.ok (.ret .notImplemented)) s):=
 .of_wp fun prog w A R s h=>by
  obtain ⟨hp,g,d,tk,os⟩:=s
  obtain ⟨ht,hl,h⟩:=h
  have f1:=F.sub_dict_tuple
  wp_walk using wpAny_loadPart' hl,wpAny_load hl,wpAny_loadPart' ht,wpAny_load ht
  exact ⟨_,rfl,h⟩
theorem nL (t:Addr) (its:Array Value) (m:Nat) (d2:Option Addr) (sl2:Array (Option Value)) (l:Addr) (es:Array DictEntry) (n:Nat) (dd:Option Addr) (sl:Array (Option Value)) :
  Meets (Builtin.«dict.__eq__» ⟨[.ref l,.ref t],[]⟩) (fun _ R s=>s.heap.get? t=some {cls:=.type "tuple",dict:=d2,data:=.seq its m,slots:=sl2}/\s.heap.get? l=some {cls:=.type "dict",dict:=dd,data:=.dict es n,slots:=sl}/\R (.ok (.ret .notImplemented)) s):=
 .of_wp fun prog w A R s h=>by
  obtain ⟨hp,g,d,tk,os⟩:=s
  obtain ⟨ht,hl,h⟩:=h
  have f1:=F.sub_tuple_dict
  wp_walk using wpAny_loadPart' hl,wpAny_load hl,wpAny_loadPart' ht,wpAny_load ht
  exact ⟨_,rfl,h⟩
end PySem.SeqAt
namespace PySem.SeqAt
open PySem PySem.MeetsSeq PySem.AutoSeq1
theorem nM {t:Addr} {h:Heap} {its:Array Value} {m:Nat} {d2:Option Addr} {sl2:Array (Option Value)} {l:Addr} {es:Array DictEntry} {n:Nat} {dd:Option Addr} {sl:Array (Option Value)} (ht:h.get? t=some {cls:=.type "tuple",dict:=d2,data:=.seq its m,slots:=sl2})
  (hl:h.get? l=some {cls:=.type "dict",dict:=dd,data:=.dict es n,slots:=sl}):t≠l:=fun e=>by
 subst e
 rw [ht] at hl
 have:=congrArg Obj.cls (Option.some.inj hl)
 exact absurd (show Value.type "tuple" = Value.type "dict" from this) (by decide)
theorem RcAt.rA {A:Around} {s:Shared} {t:Addr} {its:Array Value} {m:Nat} {d2:Option Addr} {sl2:Array (Option Value)} {l:Addr} {es:Array DictEntry} {n:Nat} {dd:Option Addr} {sl:Array (Option Value)} (ht:s.heap.get? t=some {cls:=.type "tuple",dict:=d2,data:=.seq its m,slots:=sl2})
  (hl:s.heap.get? l=some {cls:=.type "dict",dict:=dd,data:=.dict es n,slots:=sl}) (hu:A.units < cLine):RcAt A s (.ref t) (.ref l) false:=fun prog w E Q h=>
 have ne:t≠l:=nM ht hl
 rc_eq_decline_or (k:=false) ⟨_,ht,rfl⟩ ⟨_,hl,rfl⟩ (by decide) F.sub_dict_tuple F.slot_tuple_eq F.slot_dict_eq_refl
  (fun _ hq=>call_meets F.slot_tuple_eq ⟨_,ht,rfl⟩ F.entry_tuple_eq (F.args_tuple_eq_2 _ _) (nK t its m d2 sl2 l es n dd sl) ⟨ht,hl,hq⟩)
  (fun _ hq=>call_meets F.slot_dict_eq_refl ⟨_,hl,rfl⟩ F.entry_dict_eq (F.args_dict_eq_2 _ _) (nL t its m d2 sl2 l es n dd sl) ⟨ht,hl,hq⟩)
  (fun _ hq=>wpAny_isSame_ref_other' ne ht hl (show Value.type "dict" ≠ Value.type "tuple" by decide) hq) (.inr hu) h
theorem EqAt.rA {A:Around} {s:Shared} {t:Addr} {its:Array Value} {m:Nat} {d2:Option Addr} {sl2:Array (Option Value)} {l:Addr} {es:Array DictEntry} {n:Nat} {dd:Option Addr} {sl:Array (Option Value)} (ht:s.heap.get? t=some {cls:=.type "tuple",dict:=d2,data:=.seq its m,slots:=sl2})
  (hl:s.heap.get? l=some {cls:=.type "dict",dict:=dd,data:=.dict es n,slots:=sl}) (hu:A.units < cLine):EqAt A s (.ref t) (.ref l) false:=
 .of_refs (nM ht hl) (.rA ht hl hu)
end PySem.SeqAt
namespace Ml
open PySem PySem.Spec L2
theorem vb {d e:PyData} {k:Bool} (sa:cg d=true) (sb:cg e=true) (h:eqQ d e=some k):d.canLay0=true/\e.canLay0=true/\min d.depth e.depth<=40/\k=PyData.eqv d e:=by
 unfold eqQ at h
 split at h
 ·rename_i hn
  simp only [Bool.and_eq_true,noDict,Bool.not_eq_true',decide_eq_true_eq] at hn
  cases h
  exact ⟨fZ sa hn.1.1,fZ sb hn.1.2,hn.2,rfl⟩
 ·cases h
theorem EC {A:Around} {s:Shared} {a b:Value} {d e:PyData} {as bs:List Addr} {k:Bool} (ra:Reads s.heap a d as) (rb:Reads s.heap b e bs) (sa:cg d=true) (sb:cg e=true) (hu:A.units+41 < cLine) (h:Av d e=some k):SeqAt.EqAt A s a b k/\d.canLay0=true:=by
 unfold Av at h
 split at h
 ·cases h
  cases ra
  cases rb with
  | @dict a' o' es n kvs as1 bs1 h1 h2 h3 h4 h5=>
   obtain ⟨oc,od,dat,osl⟩:=o'
   cases h2
   cases h3
   exact ⟨SeqAt.EqAt.Bi _ _ h1 (by omega),by simpa [PyData.canLay0,cg] using sa⟩
 ·split at h
  ·rename_i hn
   simp only [noDict,Bool.not_eq_true'] at hn
   cases h
   have hl:=fZ sa hn
   cases ra with
   | @tuple l o vs m xs as1 g1 g2 g3 g4=>
    obtain ⟨oc2,od2,dat2,osl2⟩:=o
    cases g2
    cases g3
    cases rb with
    | @dict a' o' es n kvs as1 bs1 h1 h2 h3 h4 h5=>
     obtain ⟨oc,od,dat,osl⟩:=o'
     cases h2
     cases h3
     exact ⟨SeqAt.EqAt.rA g1 h1 (by omega),hl⟩
  ·cases h
 ·obtain ⟨l1,l2,l3,rfl⟩:=vb sa sb h
  exact ⟨SeqAt.eqAt_reads _ _ A s a b as bs ra rb l1 l2 (by omega),l1⟩
theorem aB.i7 {G:Gx} {E:XP} {θ:List Addr} {H:Hp} {h:Hm} {d:D} {Q:VK} (p:aB G E θ H (.ok d h) (KV G Q)) (w:W G θ h H) {v:V} (r:bE G θ H d v):Q v H:=p θ H Ev.refl w v r
theorem bP {G:Gx} {θ:List Addr} {H:Hp} (b:Bool):bE G θ H (.bool b) (.bl b):=⟨rfl,by simp [cg]⟩
theorem ck {G:Gx} {θ:List Addr} {H:Hp} (i:Int):bE G θ H (.int i) (.int i):=⟨rfl,by simp [cg]⟩
section
variable {X:Cx} {E:XK} {k:Nat}
theorem Bt (hr:cb k X.A):ko X E (compareOp .Eq) oEq:=by
 intro pins s σ H x y v u Q I rx ry ⟨θ,h,d1,d2,w,r1,r2,p⟩
 unfold oEq at p
 split at p
 ·exact FE pins s σ H x y v u Q I rx ry (by cases r1;cases r2;exact ⟨rfl,by simpa using p.i7 w (bP _)⟩)
 ·cases e1:sI h d1 with
  | none=>rw [e1] at p;exact p.elim
  | some d=>
   cases e2:sI h d2 with
   | none=>rw [e1,e2] at p;exact p.elim
   | some e=>
    rw [e1,e2] at p
    simp only at p
    cases e3:eqQ d e with
    | none=>rw [e3] at p;exact p.elim
    | some b=>
     rw [e3] at p
     obtain ⟨⟨as,z1⟩,s1⟩:=eA I w 3 r1 rx e1
     obtain ⟨⟨bs,z2⟩,s2⟩:=eA I w 3 r2 ry e2
     obtain ⟨l1,l2,l3,rfl⟩:=vb s1 s2 e3
     exact SeqAt.compareEq_reads z1 z2 l1 l2 (by have:=hr.units;omega) ⟨.bl _,H,I,rfl,p.i7 w (bP _)⟩
theorem pG (hr:cb k X.A):ko X E (compareOp .NotEq) mE:=by
 intro pins s σ H x y v u Q I rx ry ⟨θ,h,d1,d2,w,r1,r2,p⟩
 unfold mE at p
 split at p
 ·exact FF pins s σ H x y v u Q I rx ry (by cases r1;cases r2;exact ⟨rfl,by simpa using p.i7 w (bP _)⟩)
 ·cases e1:sI h d1 with
  | none=>rw [e1] at p;exact p.elim
  | some d=>
   cases e2:sI h d2 with
   | none=>rw [e1,e2] at p;exact p.elim
   | some e=>
    rw [e1,e2] at p
    simp only at p
    cases e3:eqQ d e with
    | none=>rw [e3] at p;exact p.elim
    | some b=>
     rw [e3] at p
     obtain ⟨⟨as,z1⟩,s1⟩:=eA I w 3 r1 rx e1
     obtain ⟨⟨bs,z2⟩,s2⟩:=eA I w 3 r2 ry e2
     obtain ⟨l1,l2,l3,rfl⟩:=vb s1 s2 e3
     exact SeqAt.compareNe_reads z1 z2 l1 l2 (by have:=hr.units;omega) ⟨.bl _,H,I,rfl,p.i7 w (bP _)⟩
theorem rB {A:Around} {s:Shared} {x:Value} {d:PyData} {bs:List Addr} (rx:Reads s.heap x d bs) (sx:cg d=true) (hu:A.units+41 < cLine):∀ {vs:List Value} {ds:List PyData} {as:List Addr} {b:Bool},ReadsAll s.heap vs ds as->bM ds=true->Bj d ds=some b ->
  (∀ y∈vs,SeqAt.EqAt A s y x ((Av (SeqAt.readOf s.heap y) d).getD false))/\(vs.any fun y=>(Av (SeqAt.readOf s.heap y) d).getD false)=b
 | [],_,_,b,.nil,_,e=>by cases e;exact ⟨fun y m=>by simp at m,rfl⟩
 | v::vs,_,_,b,.cons (d:=d1) (ds:=ds) r1 r2,so,e=>by
  simp only [bM,Bool.and_eq_true] at so
  unfold Bj at e
  cases e1:Av d1 d with
  | none=>rw [e1] at e;cases e
  | some b1=>
   cases e2:Bj d ds with
   | none=>rw [e1,e2] at e;cases e
   | some b2=>
    rw [e1,e2] at e
    cases e
    obtain ⟨h1,h2⟩:=rB rx sx hu r2 so.2 e2
    obtain ⟨q1,q2⟩:=EC r1 rx so.1 sx hu e1
    have er:SeqAt.readOf s.heap v=d1:=SeqAt.readOf_eq q2 r1
    refine ⟨fun y m=>?_,?_⟩
    ·rcases List.mem_cons.mp m with z | z
     ·subst z;rw [er,e1];exact q1
     ·exact h1 y z
    ·rw [List.any_cons,h2,er,e1];rfl
theorem zj (hr:cb k X.A) {pins:List (Addr×Obj)} {s:Shared} {σ:L2.St} {H:Hp} {v u:Value} {Q:VK} {d:PyData} {ds:List PyData} {as bs:List Addr} {b:Bool} {sq:PyData} (hsq:sq=.tuple ds\/sq=.list ds) (I:Inv X pins σ H s) (z1:Reads s.heap v d as) (z2:Reads s.heap u sq bs) (s1:cg d=true) (s2:bM ds=true) (e:Bj d ds=some b) :
  (Q (.bl b) H->wpAny (model X.prog X.w) X.A (compareOp .In v u) (EP X pins σ Q) X.xe s)/\(Q (.bl !b) H->wpAny (model X.prog X.w) X.A (compareOp .NotIn v u) (EP X pins σ Q) X.xe s):=by
 have hu:X.A.in1.units+41 < cLine:=by have:=hr.units;show X.A.units+1+41 < cLine;omega
 rcases hsq with rfl | rfl
 ·cases z2 with
  | tuple h1 h2 h3 h4=>
   obtain ⟨q1,q2⟩:=rB (A:=X.A.in1) z1 s1 hu h4 s2 e
   rename_i vs n
   have q3:(vs.any fun y=>(Av (SeqAt.readOf s.heap y) d).getD false)=b:=by rw [<- q2,<- Array.any_toList]
   exact ⟨fun q=>SeqAt.in_tupleAt _ ⟨_,h1,h2,_,h3⟩ (fun y m=>q1 y (Array.mem_toList_iff.mpr m)) (by rw [q3];exact ⟨.bl b,H,I,rfl,q⟩),fun q=>SeqAt.notIn_tupleAt _ ⟨_,h1,h2,_,h3⟩ (fun y m=>q1 y (Array.mem_toList_iff.mpr m)) (by rw [q3];exact ⟨.bl (!b),H,I,rfl,q⟩)⟩
 ·cases z2 with
  | list h1 h2 h3 h4=>
   obtain ⟨q1,q2⟩:=rB (A:=X.A.in1) z1 s1 hu h4 s2 e
   rename_i vs n _
   have q3:(vs.any fun y=>(Av (SeqAt.readOf s.heap y) d).getD false)=b:=by rw [<- q2,<- Array.any_toList]
   exact ⟨fun q=>SeqAt.in_listAt _ ⟨_,h1,h2,_,h3⟩ (fun y m=>q1 y (Array.mem_toList_iff.mpr m)) (by rw [q3];exact ⟨.bl b,H,I,rfl,q⟩),fun q=>SeqAt.notIn_listAt _ ⟨_,h1,h2,_,h3⟩ (fun y m=>q1 y (Array.mem_toList_iff.mpr m)) (by rw [q3];exact ⟨.bl (!b),H,I,rfl,q⟩)⟩
end
end Ml
namespace PySem.SeqAt
open PySem.AutoSeq1 (wpAny_loadPart')
open PySem.MeetsSeq PySem.MeetsSeq2 PySem.MeetsSeq3
def zk (A:Around) (s:Shared) (y x:Value) (b:Bool):Prop:=
 ∀ (prog:Program) (w:World) (E:Value->Shared->Prop) (Q:Value->Shared->Prop),Q (.bool b) s->wpAny (model prog w) A (richCompare .Lt y x) Q E s
inductive i8 (A:Around) (s:Shared):List Value->List Value->Bool->Prop
 | nil:i8 A s [] [] false
 | left {w ws}:i8 A s [] (w::ws) true
 | right {v vs}:i8 A s (v::vs) [] false
 | eq {v vs w ws k}:EqAt A s v w true->i8 A s vs ws k->i8 A s (v::vs) (w::ws) k
 | ne {v vs w ws k}:EqAt A s v w false->zk A s v w k->i8 A s (v::vs) (w::ws) k
theorem j5 (l b:Addr) (its1 its2:Array Value) (n n2:Nat) (dd dd2:Option Addr) (sl sl2:Array (Option Value)) (k:Bool) :
  Meets (Builtin.«tuple.__lt__» ⟨[.ref l,.ref b],[]⟩) (fun A R s=>s.heap.get? l=some {cls:=.type "tuple",dict:=dd,data:=.seq its1 n,slots:=sl}/\s.heap.get? b=some {cls:=.type "tuple",dict:=dd2,data:=.seq its2 n2,slots:=sl2}/\i8 A.in1 s its1.toList its2.toList k/\R (.ok (.ret (.bool k))) s):=
 .of_wp fun prog w A R s h=>by
  obtain ⟨hp,g,d,tk,os⟩:=s
  obtain ⟨hl,hb,hx,h⟩:=h
  have f2:=AutoSeq1.sub_tuple_tuple
  wp_walk using wpAny_loadPart' hl,wpAny_loadPart' hb,wpAny_forIn_list _ (fun rest b s'=>b.1=none/\s'=⟨hp,g,d,tk,os⟩/\∃ (vs ws:List Value),rest=vs.zip ws/\i8 A.in1 ⟨hp,g,d,tk,os⟩ vs ws k/\vs.length+its2.size=ws.length+its1.size/\R (.ok (.ret (.bool k))) ⟨hp,g,d,tk,os⟩) _
  case turn=>
   rintro ⟨y,x⟩ rest b s' ⟨hb',rfl,vs,ws,hz,hx,hlen,hR⟩
   cases hx with
   | nil=>rw [List.zip_nil_left] at hz;cases hz
   | left=>rw [List.zip_nil_left] at hz;cases hz
   | right=>rw [List.zip_nil_right] at hz;cases hz
   | @eq v vs w' ws k he hx'=>
    rw [List.zip_cons_cons] at hz
    injection hz with hyx hrest
    injection hyx with hy hx
    subst hy hx
    simp only [List.length_cons] at hlen
    refine wpAny_bind (he prog w _ _ ?_)
    wp_walk
    exact ⟨rfl,rfl,_,_,hrest,hx',by omega,hR⟩
   | @ne v vs w' ws k he hlt=>
    rw [List.zip_cons_cons] at hz
    injection hz with hyx hrest
    injection hyx with hy hx
    subst hy hx
    refine wpAny_bind (he prog w _ _ ?_)
    have hri:=hlt prog w
    wp_walk using hri
    exact ⟨_,rfl,by simpa using hR⟩
  case fin=>
   rintro ⟨b1,b2⟩ s' ⟨hb',rfl,vs,ws,hz,hx,hlen,hR⟩
   simp only at hb'
   subst hb'
   have hv:k=decide (its1.size < its2.size):=by
    cases hx with
    | nil=>simp only [List.length_nil] at hlen;exact (decide_eq_false (by omega)).symm
    | left=>simp only [List.length_nil,List.length_cons] at hlen;exact (decide_eq_true (by omega)).symm
    | right=>simp only [List.length_nil,List.length_cons] at hlen;exact (decide_eq_false (by omega)).symm
    | eq=>rw [List.zip_cons_cons] at hz;cases hz
    | ne=>rw [List.zip_cons_cons] at hz;cases hz
   rw [hv] at hR
   wp_walk
   exact ⟨_,rfl,by simpa [Builtin.Tuple.tupleCompareSizes] using hR⟩
  case h=>exact ⟨rfl,rfl,its1.toList,its2.toList,rfl,hx,by simp;omega,h⟩
theorem zk.tuples {A:Around} {s:Shared} {l b:Addr} {its1 its2:Array Value} {k:Bool} (h1:s.heap.IsTuple l its1) (h2:s.heap.IsTuple b its2) (hu:A.units < cLine) (hx:i8 A.in1 s its1.toList its2.toList k):zk A s (.ref l) (.ref b) k:=fun prog w E Q h=>by
 obtain ⟨⟨c1,d1,e1,l1⟩,p1,g1,n1,z1⟩:=h1
 obtain ⟨⟨c2,d2,e2,l2⟩,p2,g2,n2,z2⟩:=h2
 simp only at g1 z1 g2 z2
 subst g1 z1 g2 z2
 exact richCompare_meets_room (op:=.Lt) ⟨_,p1,rfl⟩ ⟨_,p2,rfl⟩ PySem.F.slot_tuple_lt PySem.F.entry_tuple_lt (PySem.F.args_tuple_lt_2 _ _) (j5 l b _ _ n1 n2 d1 d2 l1 l2 k)
  ⟨p1,p2,hx,show Value.bool k≠Value.notImplemented/\Q (.bool k) s from ⟨(fun x=>nomatch x),h⟩⟩ hu
end PySem.SeqAt
namespace Ml
open PySem PySem.Spec L2
open PySem.SeqAt
mutual
theorem j6:∀ (d e:PyData) (A:Around) (s:Shared) (a b:Value) (as bs:List Addr) (k:Bool),Reads s.heap a d as->Reads s.heap b e bs->d.canLay0=true->e.canLay0=true->A.units+min d.depth e.depth < cLine->bf d e=some k->zk A s a b k
 | .int i,.int j,A,s,a,b,as,bs,k,ra,rb,_,_,_,h=>by
  cases ra
  cases rb
  simp only [bf] at h
  cases h
  exact fun prog w E Q q=>(PyProof.Rows.lt_int q:wpAny (model prog w) A (compareOp .Lt _ _) Q E s)
 | .str x,.str y,A,s,a,b,as,bs,k,ra,rb,_,_,_,h=>by
  cases ra
  cases rb
  simp only [bf,jn] at h
  cases h
  exact fun prog w E Q q=>(PySem.P.lt_str q:wpAny (model prog w) A (compareOp .Lt _ _) Q E s)
 | .tuple xs,.tuple ys,A,s,a,b,as,bs,k,ra,rb,ha,hb,hu,h=>by
  cases ra with
  | tuple g1 g2 g3 g4=>
   cases rb with
   | tuple k1 k2 k3 k4=>
    simp only [bf] at h
    simp only [PyData.canLay0] at ha hb
    simp only [PyData.depth] at hu
    exact zk.tuples ⟨_,g1,g2,_,g3⟩ ⟨_,k1,k2,_,k3⟩ (by omega) (kO xs ys A.in1 s _ _ _ _ k g4 k4 ha hb (by show A.units+1+_ < _;omega) h)
 | .none,_,_,_,_,_,_,_,_,_,_,_,_,_,h=>by simp [bf] at h
 | .bool _,_,_,_,_,_,_,_,_,_,_,_,_,_,h=>by simp [bf] at h
 | .list _,_,_,_,_,_,_,_,_,_,_,_,_,_,h=>by simp [bf] at h
 | .dict _,_,_,_,_,_,_,_,_,_,_,_,_,_,h=>by simp [bf] at h
 | .int _,.none,_,_,_,_,_,_,_,_,_,_,_,_,h=>by simp [bf] at h
 | .int _,.bool _,_,_,_,_,_,_,_,_,_,_,_,_,h=>by simp [bf] at h
 | .int _,.str _,_,_,_,_,_,_,_,_,_,_,_,_,h=>by simp [bf] at h
 | .int _,.list _,_,_,_,_,_,_,_,_,_,_,_,_,h=>by simp [bf] at h
 | .int _,.tuple _,_,_,_,_,_,_,_,_,_,_,_,_,h=>by simp [bf] at h
 | .int _,.dict _,_,_,_,_,_,_,_,_,_,_,_,_,h=>by simp [bf] at h
 | .str _,.none,_,_,_,_,_,_,_,_,_,_,_,_,h=>by simp [bf] at h
 | .str _,.bool _,_,_,_,_,_,_,_,_,_,_,_,_,h=>by simp [bf] at h
 | .str _,.int _,_,_,_,_,_,_,_,_,_,_,_,_,h=>by simp [bf] at h
 | .str _,.list _,_,_,_,_,_,_,_,_,_,_,_,_,h=>by simp [bf] at h
 | .str _,.tuple _,_,_,_,_,_,_,_,_,_,_,_,_,h=>by simp [bf] at h
 | .str _,.dict _,_,_,_,_,_,_,_,_,_,_,_,_,h=>by simp [bf] at h
 | .tuple _,.none,_,_,_,_,_,_,_,_,_,_,_,_,h=>by simp [bf] at h
 | .tuple _,.bool _,_,_,_,_,_,_,_,_,_,_,_,_,h=>by simp [bf] at h
 | .tuple _,.int _,_,_,_,_,_,_,_,_,_,_,_,_,h=>by simp [bf] at h
 | .tuple _,.str _,_,_,_,_,_,_,_,_,_,_,_,_,h=>by simp [bf] at h
 | .tuple _,.list _,_,_,_,_,_,_,_,_,_,_,_,_,h=>by simp [bf] at h
 | .tuple _,.dict _,_,_,_,_,_,_,_,_,_,_,_,_,h=>by simp [bf] at h
theorem kO:∀ (xs ys:List PyData) (A:Around) (s:Shared) (vs ws:List Value) (as bs:List Addr) (k:Bool),ReadsAll s.heap vs xs as->ReadsAll s.heap ws ys bs->PyData.canLayAll0 xs=true->PyData.canLayAll0 ys=true->A.units+min (PyData.depthAll xs) (PyData.depthAll ys) < cLine->bV xs ys=some k->i8 A s vs ws k
 | [],[],A,s,vs,ws,as,bs,k,ra,rb,_,_,_,h=>by cases ra;cases rb;simp only [bV] at h;cases h;exact .nil
 | [],_::_,A,s,vs,ws,as,bs,k,ra,rb,_,_,_,h=>by cases ra;cases rb;simp only [bV] at h;cases h;exact .left
 | _::_,[],A,s,vs,ws,as,bs,k,ra,rb,_,_,_,h=>by cases ra;cases rb;simp only [bV] at h;cases h;exact .right
 | x::xs,y::ys,A,s,vs,ws,as,bs,k,ra,rb,ha,hb,hu,h=>by
  cases ra with
  | cons r1 r2=>
   cases rb with
   | cons q1 q2=>
    simp only [PyData.canLayAll0,Bool.and_eq_true] at ha hb
    simp only [PyData.depthAll] at hu
    have he:=eqAt_reads x y A s _ _ _ _ r1 q1 ha.1 hb.1 (by omega)
    simp only [bV] at h
    cases hq:PyData.eqv x y with
    | true=>
     rw [hq] at he h
     exact .eq he (kO xs ys A s _ _ _ _ k r2 q2 ha.2 hb.2 (by omega) (by simpa using h))
    | false=>
     rw [hq] at he h
     exact .ne he (j6 x y A s _ _ _ _ k r1 q1 ha.1 hb.1 (by omega) (by simpa using h))
end
section
variable {X:Cx} {E:XK} {k:Nat}
theorem ED (hr:cb k X.A):ko X E (compareOp .Lt) oLt:=by
 intro pins s σ H x y v u Q I rx ry ⟨θ,h,d1,d2,w,r1,r2,p⟩
 unfold oLt at p
 cases d1 with
 | dat d=>
  cases d2 with
  | dat e=>
   simp only at p
   split at p
   ·rename_i hn
    simp only [Bool.and_eq_true,noDict,Bool.not_eq_true',decide_eq_true_eq] at hn
    cases e3:bf d e with
    | none=>rw [e3] at p;exact p.elim
    | some b=>
     rw [e3] at p
     obtain ⟨⟨as,z1⟩,s1⟩:=eA I w 3 r1 rx (wk h 3 d)
     obtain ⟨⟨bs,z2⟩,s2⟩:=eA I w 3 r2 ry (wk h 3 e)
     exact j6 d e X.A s v u as bs b z1 z2 (fZ s1 hn.1.1) (fZ s2 hn.1.2) (by have:=hr.units;omega) e3 X.prog X.w X.xe _ ⟨.bl b,H,I,rfl,p.i7 w (bP b)⟩
   ·exact p.elim
  | _=>exact p.elim
 | _=>exact p.elim
theorem CU {op:Value->Value->Sem Value} {f:D->D->Hm->R D} {C:Int->Int->Prop} {g:Int->Int->V} (h:fI X op (rI C g)) (k:∀ θ hm H d1 d2 Q,W X.G θ hm H->aB X.G (lu X.G E) θ H (f d1 d2 hm) (KV X.G Q)->∃ i j,d1=.int i/\d2=.int j/\C i j/\Q (g i j) H):ko X E op f:=
 ko.of h fun θ hm H d1 d2 x y Q w r1 r2 p=>by
  obtain ⟨i,j,rfl,rfl,c,q⟩:=k θ hm H d1 d2 Q w p
  exact ⟨i,j,bj r1,bj r2,c,q⟩
theorem EE {op:Value->Value->Sem Value} {f:D->D->Hm->R D} {g:Int->Int->V} (h:fI X op (E8 g)) (k:∀ θ hm H d1 d2 Q,W X.G θ hm H->aB X.G (lu X.G E) θ H (f d1 d2 hm) (KV X.G Q)->∃ i j,d1=.int i/\d2=.int j/\Q (g i j) H):ko X E op f:=
 ko.of h fun θ hm H d1 d2 x y Q w r1 r2 p=>by
  obtain ⟨i,j,rfl,rfl,q⟩:=k θ hm H d1 d2 Q w p
  exact ⟨i,j,bj r1,bj r2,q⟩
theorem tE:ko X E (binaryOp .Mod) oMod:=CU DN fun θ hm H d1 d2 Q w p=>by
 unfold oMod at p
 split at p
 ·split at p
  ·rename_i hj;exact ⟨_,_,rfl,rfl,hj,p.i7 w (ck _)⟩
  ·exact p.elim
 ·exact p.elim
theorem vc:ko X E (binaryOp .FloorDiv) nA:=CU AN fun θ hm H d1 d2 Q w p=>by
 unfold nA at p
 split at p
 ·split at p
  ·rename_i hj;exact ⟨_,_,rfl,rfl,hj,p.i7 w (ck _)⟩
  ·exact p.elim
 ·exact p.elim
theorem F9:ko X E (compareOp .Gt) F3:=EE FH fun θ hm H d1 d2 Q w p=>by
 unfold F3 at p
 split at p
 ·exact ⟨_,_,rfl,rfl,p.i7 w (bP _)⟩
 ·exact p.elim
theorem Bu:ko X E (compareOp .LtE) oLe:=ko.of (fI.or FG xH) fun θ hm H d1 d2 x y Q w r1 r2 p=>by
 unfold oLe at p
 split at p
 ·exact .inl ⟨_,_,bj r1,bj r2,p.i7 w (bP _)⟩
 ·exact .inr ⟨_,_,r1.1,r2.1,p.i7 w (bP _)⟩
 ·exact p.elim
end
end Ml
set_option maxHeartbeats 1000000
namespace Ml
open PySem PySem.Spec L2 PyProof.Rows PySem.W
def lz:PyData->Nat
 | .int _=>0
 | .str _=>1
 | _=>2
def zl:Nat->String
 | 0 => "int"
 | 1 => "str"
 | _ => "tuple"
theorem nN {M:Model} {h:Heap} {a:Addr} {o:Obj} (h1:h.get? a=some o) (h2:o.cls=.type "tuple"):Looks M h (typeOf (.ref a)) (.type "tuple"):=by
 obtain ⟨oc,od,dat,osl⟩:=o
 cases h2
 exact (Looks.ld h1).andThen .now
theorem xT {M:Model} {h:Heap} {v:Value} {d:PyData} {as:List Addr} (r:Reads h v d as) (t:af d=true):Looks M h (typeOf v) (.type (zl (lz d))):=by
 cases r with
 | int i t=>exact .now
 | str x t=>exact .now
 | tuple h1 h2 h3 h4=>exact nN h1 h2
 | _=>simp [af] at t
def Ga (h:Heap) (f:Option Value) (d:PyData):Prop:=match d with
 | .tuple []=>f=none
 | .tuple (x::_)=>∃ u bs,f=some u/\Reads h u x bs
 | _=>False
section
variable {P:Program} {w:World} {A:Around} {E:Value->Shared->Prop} {s:Shared}
theorem lB {M:Model}:∀ {vs:List Value} {ds:List PyData} {as:List Addr} {Q:List (Option Value)->Shared->Prop},ReadsAll s.heap vs ds as->ds.all eT=true->(∀ fs,Paired (Ga s.heap) fs ds->Q fs s)->wpAny M A (vs.mapM firstOfTuple') Q E s
 | _,_,_,Q,.nil,_,h=>by rw [List.mapM_nil];exact wpAny_pure (h [] .nil)
 | _,_,_,Q,.cons r t,al,h=>by
  simp only [List.all_cons,Bool.and_eq_true] at al
  rw [List.mapM_cons]
  refine wpAny_bind ?_
  cases r with
  | tuple h1 h2 h3 h4=>
   rename_i o its n xs
   rw [kas_first_eq]
   refine wpAny_bind (Looks.here (nN h1 h2) ?_)
   rw [if_neg (by first | decide | simp)]
   refine wpAny_bind (PyProof.Rows.listItems_at h1 h3 (wpAny_pure ?_))
   refine wpAny_bind (lB t al.2 fun fs hf=>wpAny_pure (h _ (.cons ?_ hf)))
   have e0:its[0]?=its.toList[0]?:=by simp
   rw [e0]
   generalize its.toList=l at h4
   cases h4 with
   | nil=>rfl
   | cons r1 r2=>exact ⟨_,_,rfl,r1⟩
  | _=>simp [eT] at al
theorem lC {ds:List PyData} (t:ah ds=true) (c:bD ds=true) {x y:PyData} {xs ys:List PyData} (h1:.tuple (x::xs)∈ds) (h2:.tuple (y::ys)∈ds):lz x=lz y:=by
 have t1:=aF t h1
 have t2:=aF t h2
 simp only [af,ah,Bool.and_eq_true] at t1 t2
 have q:=dh c h1 h2
 simp only [bf,bV] at q
 by_cases e:x=y
 ·rw [e]
 ·rw [aR t1.1 t2.1 e,if_neg (by simp)] at q
  cases x<;>cases y<;>first | rfl | (simp [bf] at q) | (simp [af] at t1) | (simp [af] at t2)
theorem iK {h:Heap}:∀ {fs:List (Option Value)} {ds:List PyData},Paired (Ga h) fs ds->∀ v∈fs.filterMap id,∃ x xs bs,.tuple (x::xs)∈ds/\Reads h v x bs
 | _,_,.nil,v,hv=>by simp at hv
 | _,_,.cons (a:=f) (l₁:=fs) (b:=d) r p,v,hv=>by
  cases d with
  | tuple ys=>
   cases ys with
   | nil=>
    obtain rfl:f=none:=r
    obtain ⟨x,xs,bs,m,q⟩:=iK p v (by simpa using hv)
    exact ⟨x,xs,bs,by simp [m],q⟩
   | cons y ys=>
    obtain ⟨u,bs,rfl,q⟩:=r
    rcases (show v=u\/some v∈fs by simpa using hv) with rfl | hv
    ·exact ⟨y,ys,bs,by simp,q⟩
    ·obtain ⟨x,xs,bs,m,q⟩:=iK p v (by simpa using hv)
     exact ⟨x,xs,bs,by simp [m],q⟩
  | _=>exact (show False from r).elim
theorem readsAll_len {h:Heap}:∀ {vs:List Value} {ds:List PyData} {as:List Addr},ReadsAll h vs ds as->vs.length=ds.length
 | _,_,_,.nil=>rfl
 | _,_,_,.cons _ t=>by simp [readsAll_len t]
theorem nO {M:Model} {h:Heap}:∀ {vs:List Value} {ds:List PyData} {as:List Addr},ReadsAll h vs ds as->ds.all eT=true->∀ v∈vs,Looks M h (typeOf v) (.type "tuple")
 | _,_,_,.nil,_,v,hv=>by cases hv
 | _,_,_,.cons r1 r2,al,v,hv=>by
  simp only [List.all_cons,Bool.and_eq_true] at al
  rcases List.mem_cons.mp hv with rfl | hv
  ·cases r1 with
   | tuple g1 g2 g3 g4=>exact nN g1 g2
   | _=>simp [eT] at al
  ·exact nO r2 al.2 v hv
theorem xU {M:Model} {vs:List Value} {ds:List PyData} {as:List Addr} {Q:SortKind->Shared->Prop} (r:ReadsAll s.heap vs ds as) (al:ds.all eT=true) (t:ah ds=true) (c:bD ds=true) (h2:1<=vs.length)
  (h1:∀ b,(b=true->∀ x xs,.tuple (x::xs)∈ds->lz x≠2)->Q (tuples' b) s) (h3:Q general' s) (h4:Q oneType' s):wpAny M A (keyKind' vs.toArray) Q E s:=by
 rw [PyProof.Rows.kat_kind_eq,List.mapM_toArray,map_eq_pure_bind]
 refine wpAny_bind (wpAny_bind (lB r al fun fs hf=>wpAny_pure ?_))
 have hl:fs.length=ds.length:=Paired.length hf
 have hl2:vs.length=ds.length:=readsAll_len r
 split
 ·rename_i hall
  refine wpAny_bind (wpAny_rule ?_)
  have e:(fs.toArray.filterMap id)=(fs.filterMap id).toArray:=by simp
  rw [e]
  have hall':∀ f∈fs,f.isSome=true:=by simpa using hall
  obtain ⟨u,us,eu⟩:∃ u us,fs.filterMap id=u::us:=by
   match fs,hl,hall' with
   | [],hl,_=>simp at hl;omega
   | none::_,_,ha=>have:=ha none (.head _);cases this
   | some x::r,_,_=>exact ⟨x,r.filterMap id,by simp⟩
  obtain ⟨x,xs,bs,mx,rx⟩:=iK hf u (by rw [eu];simp)
  have tx:af x=true:=by have:=aF t mx;simp only [af,ah,Bool.and_eq_true] at this;exact this.1
  refine wpAny_bind (s9 (T:=.type (zl (lz x))) (by rw [eu];simp) (fun v hv=>?_) (by simp) ?_)
  ·obtain ⟨y,ys,bs,my,ry⟩:=iK hf v hv
   have ty:af y=true:=by have:=aF t my;simp only [af,ah,Bool.and_eq_true] at this;exact this.1
   rw [lC t c mx my]
   exact xT ry ty
  ·refine wpAny_pure (h1 _ fun hb y ys my=>?_)
   rw [<- lC t c mx my]
   intro z
   rw [z] at hb
   exact absurd hb (by decide)
 ·split
  ·exact wpAny_pure h3
  ·refine wpAny_bind (s9 (T:=.type "tuple") h2 (fun v hv=>?_) (by rfl) ?_)
   ·exact nO r al v hv
   ·exact wpAny_pure h4
theorem lD {b:Bool} {Q:Bool->Shared->Prop}:∀ {us vs:List Value} {xs ys:List PyData} {as bs:List Addr} (i:Nat) (fin k:Bool),ReadsAll s.heap us xs as->ReadsAll s.heap vs ys bs->ah xs=true->ah ys=true->PyData.canLayAll0 xs=true->PyData.canLayAll0 ys=true ->
  A.units+min (PyData.depthAll xs) (PyData.depthAll ys) < cLine->fin=decide (xs.length < ys.length)->(b=true->i=0->∀ x∈xs.head?,lz x≠2)->bV xs ys=some k->Q k s->KatLex P w A b fin Q (us.zip vs) i s
 | _,_,_,_,_,_,i,fin,k,.nil,.nil,_,_,_,_,_,e,_,h,q=>by subst e;simp [bV] at h;subst h;exact PySem.W.kat_nil q
 | _,_,_,_,_,_,i,fin,k,.nil,.cons _ _,_,_,_,_,_,e,_,h,q=>by subst e;simp [bV] at h;subst h;exact PySem.W.kat_nil (by simpa using q)
 | _,_,_,_,_,_,i,fin,k,.cons _ _,.nil,_,_,_,_,_,e,_,h,q=>by subst e;simp [bV] at h;subst h;exact PySem.W.kat_nil (by simpa using q)
 | _,_,_,_,_,_,i,fin,k,.cons (d:=x) (ds:=xs) r1 r2,.cons (d:=y) (ds:=ys) q1 q2,t1,t2,l1,l2,hu,e,hb,h,q=>by
  rw [List.zip_cons_cons]
  refine PySem.W.kat_cons ?_
  simp only [ah,PyData.canLayAll0,Bool.and_eq_true] at t1 t2 l1 l2
  simp only [PyData.depthAll] at hu
  refine SeqAt.eqAt_reads x y A s _ _ _ _ r1 q1 l1.1 l2.1 (by omega) P w _ _ ?_
  simp only [bV] at h
  cases hq:PyData.eqv x y with
  | true=>
   rw [hq,if_pos rfl] at h
   exact PySem.W.kat_yes (lD (i+1) fin k r2 q2 t1.2 t2.2 l1.2 l2.2 (by omega) (by rw [e];simp) (fun _ z=>by omega) h q)
  | false=>
   rw [hq,if_neg (by simp)] at h
   refine PySem.W.kat_no ?_
   have fin2:wpAny (model P w) A (oneLt' false _ _) Q (fun _ _=>False) s:=kat_one _ _ (j6 x y A s _ _ _ _ k r1 q1 l1.1 l2.1 (by omega) h P w (fun _ _=>False) _ q)
   cases hbi:(b && i == 0) with
   | false=>exact fin2
   | true=>
    simp only [Bool.and_eq_true,beq_iff_eq] at hbi
    have kx:=hb hbi.1 hbi.2 x (by simp)
    cases x with
    | int i1=>
     cases y with
     | int j1=>cases r1;cases q1;simp only [bf] at h;cases h;exact oneLt_int q
     | _=>simp [bf] at h
    | str i1=>
     cases y with
     | str j1=>cases r1;cases q1;simp only [bf,jn] at h;cases h;exact oneLt_str q
     | _=>simp [bf] at h
    | _=>exact absurd rfl kx
theorem vd (hu:A.units+41 < cLine) {x y:Value} {xs ys:List PyData} {as bs:List Addr} {k:Bool} {Q:Bool->Shared->Prop} (rx:Reads s.heap x (.tuple xs) as) (ry:Reads s.heap y (.tuple ys) bs) (t1:ah xs=true) (t2:ah ys=true) (l1:PyData.canLayAll0 xs=true) (l2:PyData.canLayAll0 ys=true)
  (hd:PyData.depthAll xs<=20) (h:bV xs ys=some k) (κ:SortKind) (hκ:(∃ b,κ=tuples' b/\(b=true->∀ x∈xs.head?,lz x≠2))\/κ=general'\/κ=oneType') (q:Q k s):wpAny (model P w) A (keyLt' κ x y) Q (fun _ _=>False) s:=by
 have ex:=rx
 have ey:=ry
 cases rx with
 | tuple g1 g2 g3 g4=>
  rename_i o1 i1 n1
  cases ry with
  | tuple k1 k2 k3 k4=>
   rename_i o2 i2 n2
   rcases hκ with ⟨b,rfl,hb⟩ | rfl | rfl
   ·refine kat_lt g1 g3 k1 k3 (lD 0 _ k g4 k4 t1 t2 l1 l2 (by omega) ?_ (fun hb' _=>hb hb') h q)
    have z1:=readsAll_len g4
    have z2:=readsAll_len k4
    simp at z1 z2
    rw [z1,z2]
   ·show wpAny (model P w) A (oneLt' false _ _) Q _ s
    exact kat_one _ _ (j6 (.tuple xs) (.tuple ys) A s _ _ _ _ k ex ey (by simpa [PyData.canLay0] using l1) (by simpa [PyData.canLay0] using l2) (by simp only [PyData.depth];omega) (by simpa [bf] using h) P w (fun _ _=>False) _ q)
   ·rw [keyLt'_oneType,oneLt'_eq]
    simp only [if_true]
    refine wpAny_bind (wpAny_cRoomFor (by omega) ?_)
    obtain ⟨c1,d1,e1,sl1⟩:=o1
    obtain ⟨c2,d2,e2,sl2⟩:=o2
    cases g2
    cases g3
    cases k2
    cases k3
    refine wpAny_bind (wpAny_callSpecialIfBound?_slot ⟨_,g1,rfl⟩ PySem.F.slot_tuple_lt (call_meets PySem.F.slot_tuple_lt ⟨_,g1,rfl⟩ PySem.F.entry_tuple_lt (PySem.F.args_tuple_lt_2 _ _) (SeqAt.j5 _ _ _ _ n1 n2 d1 d2 sl1 sl2 k) ⟨g1,k1,kO xs ys _ s _ _ _ _ k g4 k4 l1 l2 (by show A.units+1+_ < _;omega) h,?_⟩))
    exact wpAny_truthy_bool q
theorem kP {h:Heap}:∀ {vs:List Value} {ds:List PyData} {as:List Addr} (i:Nat),ReadsAll h vs ds as->i < vs.length->∃ bs,Reads h (vs.getD i .none) (ds.getD i .none) bs
 | _,_,_,i,.nil,hi=>by simp at hi
 | _,_,_,0,.cons r1 _,_=>⟨_,r1⟩
 | _,_,_,i+1,.cons _ r2,hi=>by simpa using kP i r2 (by simpa using hi)
theorem getD_mem {α:Type} {xs:List α} {i:Nat} {d:α} (h:i < xs.length):xs.getD i d∈xs:=by simp [h]
theorem nP:∀ {ds:List PyData} {d:PyData},PyData.canLayAll0 ds=true->d∈ds->d.canLay0=true
 | _::_,d,h,m=>by
  simp only [PyData.canLayAll0,Bool.and_eq_true] at h
  rcases List.mem_cons.mp m with rfl | m
  ·exact h.1
  ·exact nP h.2 m
theorem nQ:∀ {ds:List PyData} {d:PyData},d∈ds->d.depth<=PyData.depthAll ds
 | _::_,d,m=>by
  simp only [PyData.depthAll]
  rcases List.mem_cons.mp m with rfl | m
  ·exact Nat.le_max_left _ _
  ·exact Nat.le_trans (nQ m) (Nat.le_max_right _ _)
theorem qc (hu:A.units+41 < cLine) {vs:List Value} {ds:List PyData} {as:List Addr} (r:ReadsAll s.heap vs ds as) (al:ds.all eT=true) (t:ah ds=true) (c:bD ds=true) (l:PyData.canLayAll0 ds=true) (hd:PyData.depthAll ds<=20) (h2:1<=vs.length) :
  yT P w A vs (fun i j=>ltB (ds.getD i .none) (ds.getD j .none)) s:=by
 have hlen:=readsAll_len r
 have tup:∀ {i:Nat},i < vs.length->∃ xs bs,ds.getD i .none=.tuple xs/\.tuple xs∈ds/\Reads s.heap (vs.getD i .none) (.tuple xs) bs:=fun {i} hi=>by
  obtain ⟨bs,q⟩:=kP i r hi
  have m:ds.getD i .none∈ds:=getD_mem (by omega)
  have a:=List.all_eq_true.mp al _ m
  cases e:ds.getD i .none with
  | tuple xs=>exact ⟨xs,bs,rfl,e▸m,e▸q⟩
  | _=>rw [e] at a;simp [eT] at a
 have key:∀ κ,((∃ b,κ=tuples' b/\(b=true->∀ x xs,.tuple (x::xs)∈ds->lz x≠2))\/κ=general'\/κ=oneType')->s=s/\∀ i j C,i < vs.length->j < vs.length->C (ltB (ds.getD i .none) (ds.getD j .none)) s ->
   wpAny (model P w) A (keyLt' κ (vs.getD i Value.none) (vs.getD j Value.none)) C (fun _ _=>False) s:=fun κ hκ=>⟨rfl,fun i j C hi hj hC=>by
  obtain ⟨xs,b1,e1,m1,q1⟩:=tup hi
  obtain ⟨ys,b2,e2,m2,q2⟩:=tup hj
  have cc:=dh c m1 m2
  have d1:=nQ m1
  have l1:=nP l m1
  have l2:=nP l m2
  have t1:=aF t m1
  have t2:=aF t m2
  simp only [PyData.depth] at d1
  simp only [PyData.canLay0] at l1 l2
  simp only [af] at t1 t2
  rw [e1,e2] at hC
  refine vd hu q1 q2 t1 t2 l1 l2 (by omega) (by simpa [bf] using cc) κ ?_ hC
  rcases hκ with ⟨b,rfl,hb⟩ | h | h
  ·refine .inl ⟨b,rfl,fun hb' x hx=>?_⟩
   cases xs with
   | nil=>simp at hx
   | cons z zs=>simp at hx;subst hx;exact hb hb' z zs m1
  ·exact .inr (.inl h)
  ·exact .inr (.inr h)⟩
 exact xU r al t c h2 (fun b hb=>key _ (.inl ⟨b,rfl,hb⟩)) (key _ (.inr (.inl rfl))) (key _ (.inr (.inr rfl)))
end
end Ml
namespace Ml
open PySem PySem.Spec L2
section
variable {X:Cx} {E:XK} {k:Nat} {θ:List Addr} {hm:Hm} {H:Hp}
theorem mI {G:Gx} (w:W G θ hm H) {x:D} {v:V} {ds:List PyData} (r:bE G θ H x v) (e:listOf x hm=some ds):∃ a vs,v=.ref a/\H a=some (.lst vs)/\aJ (view θ H) ds vs/\bM ds=true:=by
 unfold listOf at e
 split at e
 ·cases e
  obtain ⟨⟨a,vs,rfl,ha,rr⟩,so⟩:=r
  exact ⟨a,vs,rfl,aq _ _ _ _ ha,rr,by simpa [cg] using so⟩
 ·obtain ⟨a,ha,rfl⟩:=r
  split at e
  ·rename_i ys hy
   obtain ⟨vs,hv,rs⟩:=w.obj _ _ _ ha hy
   obtain ⟨h1,h2⟩:=iG rs e
   exact ⟨a,vs,rfl,hv,h1,h2⟩
  ·cases e
 ·cases e
theorem qd {P:Program} {w:World} {A:Around} {s:Shared} {vs:List Value} {ds:List PyData} {as:List Addr} (r:ReadsAll s.heap vs ds as) (al:ds.all nE=true) (h2:2<=vs.length):PySem.W.yT P w A vs (fun i j=>ltB (ds.getD i .none) (ds.getD j .none)) s:=by
 have hlen:=readsAll_len r
 have tup:∀ {i:Nat},i < vs.length->∃ x tk,ds.getD i .none=.str x/\vs.getD i .none=.str x tk:=fun {i} hi=>by
  obtain ⟨bs,q⟩:=kP i r hi
  have m:ds.getD i .none∈ds:=getD_mem (by omega)
  have a:=List.all_eq_true.mp al _ m
  cases e:ds.getD i .none with
  | str x=>rw [e] at q;generalize vs.getD i .none=z at q;cases q;exact ⟨x,_,rfl,rfl⟩
  | _=>rw [e] at a;simp [nE] at a
 refine PySem.W.kas_kind h2 (T:=.type "str") (fun v hv=>?_) (by decide) (by decide) ⟨rfl,fun i j C hi hj hC=>?_⟩
 ·obtain ⟨i,hi,e⟩:=List.mem_iff_getElem.mp hv
  obtain ⟨x,tk,_,e2⟩:=tup hi
  have:vs.getD i .none=v:=by simp [hi,e]
  rw [this] at e2
  subst e2
  exact .now
 ·obtain ⟨x,t1,e1,f1⟩:=tup hi
  obtain ⟨y,t2,e2,f2⟩:=tup hj
  rw [f1,f2,PyProof.Rows.keyLt'_oneType]
  simp only [e1,e2] at hC
  exact PyProof.Rows.oneLt_str (by simpa [ltB,bf,jn] using hC)
theorem Gb {ds:List PyData} (o:Ord ltB ds):PySem.W.iV (fun i j=>ltB (ds.getD i .none) (ds.getD j .none)) ds.length:=
 ⟨fun a b ha hb h=>o.as (getD_mem ha) (getD_mem hb) h,fun a b c ha hb hc h h'=>o.ntr (getD_mem ha) (getD_mem hb) (getD_mem hc) h h'⟩
theorem aQ:∀ {ds:List PyData},bM ds=true<->∀ d∈ds,cg d=true
 | []=>by simp [bM]
 | d::ds=>by simp [bM,aQ (ds:=ds)]
theorem qe {ds es:List PyData} (p:ds.Perm es) (h:bM ds=true):bM es=true:=aQ.mpr fun d m=>aQ.mp h d (p.mem_iff.mpr m)
def EF:List V->Hp->VK->Prop:=fun xs H Q=>∃ (a:Addr) (vs:List V) (M:Hp) (ds:List PyData),xs=[.ref a]/\H a=some (.lst vs)/\bg M H/\aJ M ds vs/\bM ds=true/\cw ds=true /\
 ∀ (p:Addr) (us:List V),H p=none->aJ M (bG ltB ds) us->us.length<=sizeLine->Q (.ref p) (upd H p (.lst us))
theorem rC (hr:cb k X.A):cF X (.builtin "sorted") EF:=by
 intro pins s σ H xs us Q I r h
 obtain ⟨a,vs,M,ds,rfl,ha,sm,rp,so,ok,q⟩:=h
 simp only [cw,Bool.and_eq_true,decide_eq_true_eq,Bool.or_eq_true] at ok
 obtain ⟨⟨⟨⟨kd,tr⟩,cm⟩,dp⟩,h64⟩:=ok
 cases r with
 | cons r rr=>
  cases rr
  cases r
  obtain ⟨its,rv,pl,_⟩:=I.list (gc.of (K:=X.K) ha)
  have hlen:vs.length=ds.length:=rp.length
  have hlen2:its.length=ds.length:=by rw [<- rv.length];exact hlen
  obtain ⟨as,ra⟩:=aJ.reads I (rp.same sm) rv
  have nd:PyData.hasDictAll ds=false:=dD tr
  have la:=jV so nd
  have O:=Gb (fe cm tr)
  rw [<- hlen2] at O
  refine PySem.W.nu pl.isList O (by omega) (fun h' kp h2=>?_) fun p hp hs=>?_
  ·have ra':ReadsAll h' its ds as:=PyProof.Rows.ReadsAll.keeps kp ra
   rcases kd with kd | kd
   ·exact qd (s:={s with heap:=h'}) ra' kd h2
   ·exact qc (s:={s with heap:=h'}) (by have:=hr.un;show X.A.units+1+1+41 < cLine;omega) ra' kd tr cm la dp (by omega)
  ·have ge:s.heap.objs.size<=s.heap.objs.size+1:=Nat.le_succ _
   have nn:H (s.heap.objs.size+1)=none:=I.hok.fresh ge
   obtain ⟨e,he⟩:=PyProof.Rows.sortedAll_at s.heap its (p.toList.map fun i=>its.getD i Value.none).toArray
   have hin:∀ i∈p.toList,i < vs.length:=fun i hi=>by
    have:=List.mem_range.mp (hp.perm.mem_iff.mp hi)
    omega
   have hlp:p.toList.length=ds.length:=by rw [hp.perm.length_eq,List.length_range,hlen2]
   have hz:(p.toList.map fun i=>vs.getD i .non).length<=sizeLine:=by
    rw [List.length_map,hlp]
    exact Nat.le_trans (Nat.le_of_lt h64) (by decide)
   refine ⟨.ref _,_,I.laid (t':=s.toks) (o:=.lst (p.toList.map fun i=>vs.getD i .non)) (fun b o k=>PyProof.Rows.sortedAll_old k) ge ⟨hz,_,e,pY rv p.toList hin,by simpa [PyProof.Rows.seqObj] using he⟩,rfl,q _ _ nn ?_ hz⟩
   have e1:(p.toList.map fun i=>ds.getD i .none)=bG ltB ds:=by
    refine tu cm tr ?_ ?_
    ·have:=hp.perm.map (fun i=>ds.getD i .none)
     rw [hlen2,gA] at this
     exact this
    ·unfold Up
     rw [List.pairwise_map,List.pairwise_iff_getElem]
     intro i j hi hj hij
     have e1:PySem.W.pat p i=p.toList[i]:=by simp only [Array.length_toList] at hi;rw [PySem.W.fW,getElem?_pos p i hi];simp
     have e2:PySem.W.pat p j=p.toList[j]:=by simp only [Array.length_toList] at hj;rw [PySem.W.fW,getElem?_pos p j hj];simp
     have:=hs i j hij (by rw [hlen2];omega)
     rw [e1,e2] at this
     exact this
   rw [<- e1]
   exact pZ rp .none p.toList hin
theorem tF (hr:cb k X.A):mm X E (.builtin "sorted") eZ:=mm.of (rC hr) fun θ hm H ds xs Q w r p=>by
 unfold eZ at p
 split at p
 ·rename_i x
  cases r with
  | cons r rr=>
   cases rr
   split at p
   ·rename_i ys hy
    split at p
    ·rename_i ok
     obtain ⟨a,vs,rfl,ha,rp,so⟩:=mI w r hy
     refine ⟨a,vs,view θ H,ys,rfl,ha,aq _ _,rp,so,ok,fun q us hq ru hz=>?_⟩
     obtain ⟨e1,w1,g⟩:=w.put (o:=.lst us) hq
     refine p _ _ e1 w1 _ ⟨⟨q,us,rfl,g,ru.same e1.same⟩,?_⟩
     simp only [cg]
     exact qe (bw _ _).symm so
    ·exact p.elim
   ·exact p.elim
 ·exact p.elim
end
end Ml
namespace Ml
open PySem PySem.Spec L2
section
variable {X:Cx} {E:XK} {k:Nat} {θ:List Addr} {hm:Hm} {H:Hp} {m:ME} {t:MT} {e e1 e2:Expr} {pos:Pos}
theorem dH {G:Gx} {x:Str} {v:V} (r:bE G θ H (.str x) v):v=.str x/\PyData.strOk x=true:=⟨r.1,by simpa [cg] using r.2⟩
theorem rD {x y:Str} (h:PyData.strOk x=true) (h':PyData.strOk y=true):PyData.strOk (x++y)=true:=by
 have e:(x++y).cps=x.cps++y.cps:=rfl
 unfold PyData.strOk at h h' ⊢
 rw [e,Array.all_append,h,h']
 rfl
theorem tG {G:Gx} {H' M':Hp} (w:W G θ hm H) (x:Ext H (view θ H) H' M'):Ev θ H θ H'/\W G θ hm H'/\bg M' (view θ H'):=by
 obtain ⟨e1,w1⟩:=w.grow x.sh
 refine ⟨e1,w1,fun c o q=>?_⟩
 have nb:c∉θ:=fun z=>by
  obtain ⟨i,hi,ei⟩:=List.mem_iff_getElem.mp z
  have hl:i < hm.length:=by rw [<- w.len];exact hi
  have hn:H c≠none:=u6.some _ (w.obj i c hm[i] (by rw [List.getElem?_eq_getElem hi,ei]) (List.getElem?_eq_getElem hl))
  rw [x.old c hn] at q
  exact (cA q).1 z
 rw [cM nb]
 exact x.gs c o q
theorem i9:ko X E (binaryOp .Add) eY:=ko.of (fI.or DL (fI.or uL (fI.or Bg D3))) fun θ hm H d1 d2 x y Q w r1 r2 p=>by
 unfold eY at p
 split at p
 ·exact .inl ⟨_,_,bj r1,bj r2,p.i7 w (ck _)⟩
 ·split at p
  ·rename_i hz
   obtain ⟨e1,s1⟩:=dH r1
   obtain ⟨e2,s2⟩:=dH r2
   exact .inr (.inl ⟨_,_,e1,e2,cY hz,p.i7 w ⟨rfl,by simp only [cg];exact rD s1 s2⟩⟩)
  ·exact p.elim
 ·split at p
  ·rename_i xs ys hz
   refine .inr (.inr (.inl ⟨view θ H,xs,ys,aq _ _,r1.1,r2.1,cY hz,fun r H' M' ex rr=>?_⟩))
   obtain ⟨e1,w1,sm⟩:=tG w ex
   have s1:bM xs=true:=by simpa [cg] using r1.2
   have s2:bM ys=true:=by simpa [cg] using r2.2
   refine p _ _ e1 w1 _ ⟨rr.same sm,?_⟩
   simp only [cg]
   exact aQ.mpr fun d m=>by
    rcases List.mem_append.mp m with m | m
    ·exact aQ.mp s1 d m
    ·exact aQ.mp s2 d m
  ·exact p.elim
 ·split at p
  ·rename_i xs ys hz
   have s1:bM xs=true:=by simpa [cg] using r1.2
   have s2:bM ys=true:=by simpa [cg] using r2.2
   obtain ⟨a,us,rfl,ha,q1,_⟩:=fb r1
   obtain ⟨b,ws,rfl,hb,q2,_⟩:=fb r2
   refine .inr (.inr (.inr ⟨a,b,us,ws,rfl,rfl,aq _ _ _ _ ha,aq _ _ _ _ hb,by rw [q1.length,q2.length];exact cY hz,fun q hq=>?_⟩))
   obtain ⟨e1,w1,g⟩:=w.put (o:=.lst (us++ws)) hq
   refine p _ _ e1 w1 _ ⟨⟨q,_,rfl,g,(q1.append q2).same e1.same⟩,?_⟩
   simp only [cg]
   exact aQ.mpr fun d m=>by
    rcases List.mem_append.mp m with m | m
    ·exact aQ.mp s1 d m
    ·exact aQ.mp s2 d m
  ·exact p.elim
 ·exact p.elim
theorem qf {M:Hp} {ds:List PyData} {vs:List V} (r:aJ M ds vs):∀ n:Nat,aJ M (List.replicate n ds).flatten (List.replicate n vs).flatten
 | 0=>rfl
 | n+1=>by rw [List.replicate_succ,List.replicate_succ,List.flatten_cons,List.flatten_cons];exact r.append (qf r n)
theorem nR:ko X E (binaryOp .Mult) kD:=ko.of (fI.or DM D4) fun θ hm H d1 d2 x y Q w r1 r2 p=>by
 unfold kD at p
 split at p
 ·split at p
  ·rename_i hc
   refine .inl ⟨_,_,bj r1,bj r2,?_,p.i7 w (ck _)⟩
   simp only [ny,Bool.or_eq_true,Bool.and_eq_true,decide_eq_true_eq] at hc
   exact hc
  ·exact p.elim
 ·split at p
  ·rename_i xs j hc
   simp only [Bool.and_eq_true,decide_eq_true_eq] at hc
   have s1:bM xs=true:=by simpa [cg] using r1.2
   obtain ⟨a,us,rfl,ha,q1,_⟩:=fb r1
   refine .inr ⟨a,j,us,rfl,bj r2,aq _ _ _ _ ha,hc.1.2,hc.2,by rw [q1.length];exact cY hc.1.1,fun q hq=>?_⟩
   obtain ⟨e1,w1,g⟩:=w.put (o:=.lst (List.replicate j.toNat us).flatten) hq
   refine p _ _ e1 w1 _ ⟨⟨q,_,rfl,g,(qf q1 _).same e1.same⟩,?_⟩
   simp only [cg]
   exact aQ.mpr fun d m=>by
    obtain ⟨l,hl,hd⟩:=List.mem_flatten.mp m
    rw [(List.mem_replicate.mp hl).2] at hd
    exact aQ.mp s1 d hd
  ·exact p.elim
 ·exact p.elim
theorem rE {α β:Type} (f:α->β) (xs:List α) (i:Int):jF (xs.map f) i=(jF xs i).map f:=by
 unfold jF
 rw [List.length_map]
 cases sG xs.length i with
 | none=>rfl
 | some j=>simp
theorem rF {G:Gx} {ds:List D} {vs:List V} {i:Int} {d:D} (r:aP G θ H ds vs) (e:jF ds i=some d):∃ v,L2.jF vs i=some v/\bE G θ H d v:=by
 have hl:ds.length=vs.length:=Paired.length r
 unfold jF at e
 unfold L2.jF
 rw [<- hl]
 change (sG ds.length i).bind _=_ at e
 show ∃ v,(sG ds.length i).bind (fun j=>vs[j]?)=some v/\_
 cases hj:sG ds.length i with
 | none=>rw [hj] at e;cases e
 | some j=>
  rw [hj] at e
  exact aP.some r e
theorem zm:E9 X (Eo X.G E y0):=by
 intro value slice pins s σ H x y v u Q I rx ry ⟨θ,h,d1,d2,w,r1,r2,p⟩ hs
 unfold y0 at p
 split at p
 ·rename_i i
  have ey:=bj r2
  split at p
  ·rename_i ds
   split at p
   ·rename_i d he
    obtain ⟨a,us,rfl,ha,q1,q2⟩:=e9 r1
    obtain ⟨z,e1,rz⟩:=rF (i:=i) (d:=.dat d) q2 (by rw [rE,he];rfl)
    exact DZ value slice pins s σ H _ y v u Q I rx ry ⟨a,us,i,z,rfl,ey,eR.of (aq _ _ _ _ ha),e1,p.i7 w rz⟩ hs
   ·exact p.elim
  ·rename_i ds
   split at p
   ·rename_i d he
    obtain ⟨a,us,rfl,ha,q1,q2⟩:=fb r1
    obtain ⟨z,e1,rz⟩:=rF (i:=i) (d:=.dat d) q2 (by rw [rE,he];rfl)
    exact qN value slice pins s σ H _ y v u Q I rx ry ⟨a,us,i,z,rfl,ey,gc.of (aq _ _ _ _ ha),e1,p.i7 w rz⟩ hs
   ·exact p.elim
  ·rename_i j
   split at p
   ·rename_i xs hx
    split at p
    ·rename_i d he
     obtain ⟨a,ha,rfl⟩:=r1
     obtain ⟨vs,hv,rs⟩:=w.obj _ _ _ ha hx
     obtain ⟨z,e1,rz⟩:=rF rs he
     exact qN value slice pins s σ H _ y v u Q I rx ry ⟨a,vs,i,z,rfl,ey,gc.of hv,e1,p.i7 w rz⟩ hs
    ·exact p.elim
   ·exact p.elim
  ·rename_i ns
   split at p
   ·rename_i n he
    obtain ⟨a,rfl,hq⟩:=r1
    have e1:L2.jF (ns.map V.int) i=some (.int n):=by
     have:=rE V.int ns i
     rw [he] at this
     exact this
    exact qN value slice pins s σ H _ y v u Q I rx ry ⟨a,_,i,_,rfl,ey,(aq _ _).seq hq,e1,p.i7 w (ck _)⟩ hs
   ·exact p.elim
  ·exact p.elim
 ·exact p.elim
def lO (G:Gx) (E:XK) (m:CQ):TO:=fun σ H Q=>∃ θ h ρ,W G θ h H/\Fr G θ H ρ σ/\aB G (lu G E) θ H (m ρ h) (fun o _ _ H'=>Q o H')
@[irreducible] def DO (X:Cx) (E:XK) (m:CQ) (e:Option Expr):Prop:=PO X e (lO X.G E m)
theorem zo (X:Cx) (E:XK) (m:CQ) (e:Option Expr):DO X E m e=(PO X e (lO X.G E m)):=by
 unfold DO
 rfl
theorem PO.imp {X:Cx} {e:Option Expr} {t t':TO} (h:PO X e t) (k:∀ σ H Q,t' σ H Q->t σ H Q):PO X e t':=fun pins s σ H Q I q=>h pins s σ H Q I (k _ _ _ q)
theorem Bv:DO X E wo none:=by
 simp only [zo] at *
 exact PO.imp AX fun σ H Q ⟨θ,h,ρ,w,fr,p⟩=>p θ H Ev.refl w
theorem Bw (h:DE X E m e):DO X E (wq m) (some e):=by
 simp only [bu,zo] at *
 exact PO.imp (AY h) fun σ H Q ⟨θ,h,ρ,w,fr,p⟩=>⟨θ,h,ρ,w,fr,(aB.bind p).mono fun d θ1 h1 H1 _ _ ⟨ev,w1,p1⟩ v r=>by
  split at p1
  ·exact ⟨_,bj r,p1 θ1 H1 Ev.refl w1⟩
  ·exact p1.elim⟩
theorem By {M:Hp} {ds:List PyData} {vs:List V} (r:aJ M ds vs) (lo hi:Option Int):aJ M (cut ds lo hi) (ph vs lo hi):=by
 unfold cut ph
 have e:vs.length=ds.length:=r.length
 rw [e]
 exact (r.drop _).take _
theorem Bz {α:Type} {xs:List α} {lo hi:Option Int} {x:α} (h:x∈cut xs lo hi):x∈xs:=List.mem_of_mem_drop (List.mem_of_mem_take h)
theorem tH {ds:List PyData} (h:bM ds=true) (lo hi:Option Int):bM (cut ds lo hi)=true:=aQ.mpr fun d m=>aQ.mp h d (Bz m)
def Ib (G:Gx) (E:XK):V->Option Int->Option Int->Hp->VK->Prop:=fun x lo hi H Q=>∃ θ h d,W G θ h H/\bE G θ H d x/\aB G (lu G E) θ H (F4 d lo hi h) (KV G Q)
theorem BA:FN X (Ib X.G E):=by
 intro pins s σ H x v vl vu lo hi sl Q I rx hs pl pu ⟨θ,h,d,w,r,p⟩
 unfold F4 at p
 split at p
 ·rename_i ds
  refine Bh pins s σ H x v vl vu lo hi sl Q I rx hs pl pu ⟨view θ H,ds,aq _ _,r.1,fun r' H' M' ex rr=>?_⟩
  obtain ⟨e1,w1,sm⟩:=tG w ex
  exact p _ _ e1 w1 _ ⟨rr.same sm,by simp only [cg];exact tH (by simpa [cg] using r.2) lo hi⟩
 ·rename_i ds
  have so:bM ds=true:=by simpa [cg] using r.2
  obtain ⟨a,us,rfl,ha,q1,q2⟩:=fb r
  refine A0 pins s σ H _ v vl vu lo hi sl Q I rx hs pl pu ⟨a,us,rfl,gc.of (aq _ _ _ _ ha),fun q hq=>?_⟩
  obtain ⟨e1,w1,g⟩:=w.put (o:=.lst (ph us lo hi)) hq
  exact p _ _ e1 w1 _ ⟨⟨q,_,rfl,g,(By q1 lo hi).same e1.same⟩,by simp only [cg];exact tH so lo hi⟩
 ·exact p.elim
theorem zp {lo hi:Option Expr} {ml mh:CQ} {p2:Pos} (he:DE X E m e) (hl:DO X E ml lo) (hu:DO X E mh hi):DE X E (GO m ml mh) (.Subscript e (.Slice lo hi none p2) pos):=by
 simp only [bu,zo] at *
 exact PE.imp (yC BA he hl hu) fun σ H Q ⟨θ,h,ρ,w,fr,p⟩=>⟨θ,h,ρ,w,fr,(aB.bind p).mono fun d θ1 h1 H1 _ _ ⟨ev,w1,p1⟩ v r=>
   ⟨θ1,h1,ρ,w1,fr.ev ev,(aB.bind p1).mono fun l θ2 h2 H2 _ _ ⟨ev2,w2,p2⟩=>⟨θ2,h2,ρ,w2,(fr.ev ev).ev ev2,(aB.bind p2).mono fun u θ3 h3 H3 _ _ ⟨ev3,w3,p3⟩=>⟨θ3,h3,d,w3,(r.ev ev2).ev ev3,p3⟩⟩⟩⟩
theorem lF:mm X E (.builtin "len") fX:=mm.of yz fun θ hm H ds xs Q w r p=>by
 unfold fX at p
 split at p
 ·split at p
  ·rename_i hz
   cases r with
   | cons r rr=>
    cases rr
    exact ⟨_,_,rfl,by rw [(dH r).1];exact ⟨cY hz,rfl⟩,p.i7 w (ck _)⟩
  ·exact p.elim
 ·cases r with
  | cons r rr=>
   cases rr
   obtain ⟨a,us,rfl,ha,q1,_⟩:=e9 r
   exact ⟨_,_,rfl,.inr ⟨us,eR.of (aq _ _ _ _ ha),q1.length.symm⟩,p.i7 w (ck _)⟩
 ·cases r with
  | cons r rr=>
   cases rr
   obtain ⟨a,us,rfl,ha,q1,_⟩:=fb r
   exact ⟨_,_,rfl,.inl ⟨us,gc.of (aq _ _ _ _ ha),q1.length.symm⟩,p.i7 w (ck _)⟩
 ·rename_i i
  split at p
  ·rename_i ys hy
   cases r with
   | cons r rr=>
    cases rr
    obtain ⟨a,ha,rfl⟩:=r
    obtain ⟨vs,hv,rs⟩:=w.obj _ _ _ ha hy
    exact ⟨_,_,rfl,.inl ⟨vs,gc.of hv,Paired.length rs⟩,p.i7 w (ck _)⟩
  ·exact p.elim
 ·rename_i ns
  cases r with
  | cons r rr=>
   cases rr
   obtain ⟨a,rfl,hq⟩:=r
   exact ⟨_,_,rfl,.inl ⟨_,(aq _ _).seq hq,by simp⟩,p.i7 w (ck _)⟩
 ·exact p.elim
theorem nS {M:Hp}:∀ {ds:List PyData} {vs:List V} {bs:List Bool},aJ M ds vs->bools ds=some bs->vs=bs.map V.bl
 | [],_,bs,h,e=>by cases h;cases e;rfl
 | d::ds,_,bs,⟨v,vs,rfl,r,rs⟩,e=>by
  cases d with
  | bool b=>
   simp only [bools,Option.map_eq_some_iff] at e
   obtain ⟨bs',e1,e2⟩:=e
   subst e2
   rw [nS rs e1,show v=V.bl b from r]
   rfl
  | _=>simp [bools] at e
theorem wH (hc:X.calm=true):mm X E (.builtin "all") qY:=mm.of (yO hc) fun θ hm H ds xs Q w r p=>by
 unfold qY at p
 split at p
 ·split at p
  ·rename_i bs hb
   cases r with
   | cons r rr=>
    cases rr
    obtain ⟨a,us,rfl,ha,q1,_⟩:=fb r
    rw [nS q1 hb] at ha
    exact ⟨a,bs,rfl,gc.of (aq _ _ _ _ ha),p.i7 w (bP _)⟩
  ·exact p.elim
 ·exact p.elim
end
end Ml
namespace L2
open PySem PySem.Spec PyProof.Rows
section
variable {X:Cx}
end
end L2
namespace Ml
open PySem PySem.Spec L2
section
variable {X:Cx} {E:XK} {k:Nat} {θ:List Addr} {hm:Hm} {H:Hp} {m:ME} {t:MT} {e e1 e2:Expr} {pos:Pos} {ma:MA}
theorem EG {T:Str} {n:String} {f:PyData->Bool} (kit:∀ d,PySem.W.kitOne X.K (.type (FY d)) (.type n)=some (f d)) (bt:bootBuiltins T=some (.type n)) (m1:X.mg "isinstance" = none) (m2:X.mg T=none) (h:DE X E m e) {p p2:Pos} (g1:Gl X "isinstance" := by rfl) (g2:Gl X T:=by rfl) (hT:T ≠ "__name__" := by decide) (hT2:(T == ("__debug__" : Str))=false:=by decide)
  (hs:starEach [e,.Name T p2] X.env=(false,eval e X.env)::starEach [.Name T p2] X.env:=by rfl) (hs2:starEach [.Name T p2] X.env=[(false,eval (.Name T p2) X.env)]:=by rfl) (hpl:(backTo pos (starEach [.Name T p2] X.env)).any (·.1)=false:=by rfl):DE X E (CO (tj f) m) (.Call (.Name "isinstance" p) [e,.Name T p2] [] pos):=by
 simp only [bu] at *
 exact PE.imp (sQ yP g1 m1 pB (jK h (jK (AE (v:=.ty n) g2 m2 bt rfl hT hT2) qL hs2) hs) (by decide) (by decide) hs hpl) fun σ H Q ⟨θ,h,ρ,w,fr,p⟩=>⟨θ,h,ρ,w,fr,(aB.bind p).mono fun d θ1 h1 H1 _ _ ⟨ev,w1,p1⟩ v r=>by
   cases d with
   | dat d=>exact ⟨v,n,_,f d,rfl,(r.1.same (aq _ _)).ty,kit d,p1.i7 w1 (bP _)⟩
   | _=>exact p1.elim⟩
theorem nU {M:Hp} (x:Str):∀ (l:List Nat),aJ M (l.map fun i=>.str ⟨#[x.cps.getD i 0]⟩) (l.map (sgn x))
 | []=>rfl
 | i::l=>.cons rfl (nU x l)
theorem zq {x:Str} (h:PyData.strOk x=true):bM (fA x)=true:=aQ.mpr fun d m=>by
 obtain ⟨i,_,rfl⟩:=List.mem_map.mp m
 simp only [cg]
 exact wF h
theorem mJ (hc:X.calm=true):mm X E (.type "tuple") fY:=mm.of (cF.or pq (sY hc)) fun θ hm H ds xs Q w r p=>by
 unfold fY at p
 split at p
 ·cases r with
  | cons r rr=>
   cases rr
   obtain ⟨a,us,e,ha,q1,_⟩:=e9 r
   subst e
   exact .inl ⟨a,us,rfl,.inr ⟨eR.of (aq _ _ _ _ ha),p.i7 w r⟩⟩
 ·split at p
  ·rename_i s hz
   cases r with
   | cons r rr=>
    cases rr
    obtain ⟨e1,s1⟩:=dH r
    subst e1
    refine .inr ⟨s,rfl,cY hz,fun q hq=>?_⟩
    obtain ⟨e1,w1,g⟩:=w.put (o:=.tup ((List.range s.cps.size).map (sgn s))) hq
    exact p _ _ e1 w1 _ ⟨⟨q,_,rfl,g,nU s _⟩,by simp only [cg];exact zq s1⟩
  ·exact p.elim
 ·split at p
  ·rename_i ds hy
   cases r with
   | cons r rr=>
    cases rr
    obtain ⟨a,vs,rfl,ha,rp,so⟩:=mI w r hy
    refine .inl ⟨a,vs,rfl,.inl ⟨gc.of ha,fun q hq=>?_⟩⟩
    obtain ⟨e1,w1,g⟩:=w.put (o:=.tup vs) hq
    exact p _ _ e1 w1 _ ⟨⟨q,_,rfl,g,rp.same e1.same⟩,by simpa [cg] using so⟩
  ·exact p.elim
 ·exact p.elim
theorem BB:mm X E (.type "list") qZ:=mm.of qP fun θ hm H ds xs Q w r p=>by
 unfold qZ at p
 split at p
 ·cases r with
  | cons r rr=>
   cases rr
   have so:=r.2
   obtain ⟨a,us,e,ha,q1,_⟩:=e9 r
   subst e
   refine ⟨a,us,rfl,.inr (eR.of (aq _ _ _ _ ha)),fun q hq=>?_⟩
   obtain ⟨e1,w1,g⟩:=w.put (o:=.lst us) hq
   exact p _ _ e1 w1 _ ⟨⟨q,_,rfl,g,q1.same e1.same⟩,by simpa [cg] using so⟩
 ·split at p
  ·rename_i ds hy
   cases r with
   | cons r rr=>
    cases rr
    obtain ⟨a,vs,rfl,ha,rp,so⟩:=mI w r hy
    refine ⟨a,vs,rfl,.inl (gc.of ha),fun q hq=>?_⟩
    obtain ⟨e1,w1,g⟩:=w.put (o:=.lst vs) hq
    exact p _ _ e1 w1 _ ⟨⟨q,_,rfl,g,rp.same e1.same⟩,by simpa [cg] using so⟩
  ·exact p.elim
 ·exact p.elim
theorem zr:mm X E (.builtin "divmod") mF:=mm.of sO fun θ hm H ds xs Q w r p=>by
 unfold mF at p
 split at p
 ·split at p
  ·rename_i i j hj
   cases r with
   | cons r1 rr=>
    cases rr with
    | cons r2 rr=>
     cases rr
     cases bj r1
     cases bj r2
     refine ⟨i,j,rfl,hj,fun q hq=>?_⟩
     obtain ⟨e1,w1,g⟩:=w.put (o:=.tup [.int (i / j),.int (i % j)]) hq
     exact p _ _ e1 w1 _ ⟨⟨q,_,rfl,g,.cons rfl (.one rfl)⟩,by simp [cg,bM]⟩
  ·exact p.elim
 ·exact p.elim
theorem Gd:mm X E (.builtin "abs") Bk:=mm.of yy fun θ hm H ds xs Q w r p=>by
 unfold Bk at p
 split at p
 ·cases r with
  | cons r1 rr=>
   cases rr
   cases bj r1
   exact ⟨_,rfl,p.i7 w (ck _)⟩
 ·exact p.elim
theorem Ge (hc:X.calm=true):mm X E (.builtin "max") y6:=mm.of (xt hc) fun θ hm H ds xs Q w r p=>by
 unfold y6 at p
 split at p
 ·cases r with
  | cons r1 rr=>
   cases rr with
   | cons r2 rr=>
    cases rr
    cases bj r1
    cases bj r2
    exact ⟨_,_,rfl,p.i7 w (ck _)⟩
 ·exact p.elim
theorem Gf (hc:X.calm=true):mm X E (.builtin "min") y7:=mm.of (xu hc) fun θ hm H ds xs Q w r p=>by
 unfold y7 at p
 split at p
 ·cases r with
  | cons r1 rr=>
   cases rr with
   | cons r2 rr=>
    cases rr
    cases bj r1
    cases bj r2
    exact ⟨_,_,rfl,p.i7 w (ck _)⟩
 ·exact p.elim
end
end Ml
namespace Ml
open PySem PySem.Spec L2
section
variable {X:Cx} {E:XK} {k:Nat} {θ:List Addr} {hm:Hm} {H:Hp} {m ma' mb:ME} {t:MT} {e e1 e2 o i:Expr} {es:List Expr} {pos:Pos} {ma:MA} {x:Str}
theorem jv (n:Nat) {d:PyData} (h:Lit n e d) (s:cg d=true):DE X E (aj d) e:=by
 simp only [bu] at *
 exact PE.imp (Ei n h) fun σ H Q ⟨θ,hm,ρ,w,fr,p⟩ r H' N s1 nw rp=>by
   obtain ⟨e1,w1⟩:=w.grow s1
   refine p _ _ e1 w1 _ ⟨rp.same fun c o q=>?_,s⟩
   have nb:c∉θ:=w.zb (nw c o q).1
   rw [cM nb]
   exact (nw c o q).2
theorem rG {n:Int} {p:Pos} (hm:∃ t,X.mg x=some (.int n t)) (hg:Gl X x:=by rfl) (hd:(x == ("__debug__" : Str))=false:=by decide):DE X E (aj (.int n)) (.Name x p):=by
 obtain ⟨t,hm⟩:=hm
 exact Bl (AD (v:=.int n) hg hm ⟨t,rfl⟩ hd) (fun _=>rfl) (by simp [cg])
theorem BC {G:Gx} {xs:List PyData} {a:Addr} (kt:F6 G.K a xs):nI G θ H (xs.map D.dat) (GF G.K a):=fun θ' h' H' ev w=>by
 obtain ⟨⟨o,its,n,hl,hc,hd,hz,rv⟩,fl,so⟩:=kt
 have q:eR G.K H' a (xs.map Fb):=.inr ⟨o,its,n,hl,hc,hd,hz,rv⟩
 refine ⟨fun i d e=>?_,⟨_,q,by simp⟩⟩
 rw [List.getElem?_map,Option.map_eq_some_iff] at e
 obtain ⟨y,ey,rfl⟩:=e
 refine ⟨⟨_,Fb y,q,by simp [ey]⟩,fun x H2 ⟨e2,z⟩=>?_⟩
 subst e2
 have:=z _ q
 rw [List.getElem?_map,ey] at this
 cases this
 have hy:=fl y (List.mem_of_getElem? ey)
 refine ⟨Ev.refl,w,?_,j4 so ey⟩
 cases y with
 | none=>rfl
 | bool b=>rfl
 | int i=>rfl
 | str x=>rfl
 | _=>simp at hy
def Gg (e:ME):MA:=fun ρ h=>(e ρ h).bind fun x h1=>match x with
 | .ktup xs=>.ok (xs.map D.dat) h1
 | _=>.bad
theorem BD {tg:Expr} (h:DE X E m e):DI X E (Gg m) tg e:=by
 simp only [bu,i6] at *
 exact PI.imp (yp h) fun σ H R ⟨θ,h,ρ,w,fr,p⟩=>⟨θ,h,ρ,w,fr,(aB.bind p).mono fun d θ1 h1 H1 _ _ ⟨ev,w1,p1⟩ v r=>by
   cases d with
   | ktup xs=>
    obtain ⟨a,e,kt⟩:=r
    exact ⟨a,e,⟨_,.inr kt.1⟩,p1 θ1 H1 Ev.refl w1 _ (BC kt)⟩
   | _=>exact p1.elim⟩
def Gh (x:D) (h:Hm):Bool:=match x with
 | .ref j=>match h[j]? with
  | some (.lst _)=>true
  | _=>false
 | _=>false
def zt (f:D->D->Hm->R D) (a b:ME):ME:=fun ρ h=>(a ρ h).bind fun x h1=>if Gh x h1 then (b ρ h1).bind fun y h2=>f x y h2 else .bad
theorem BE {x:D} {h:Hm} (e:Gh x h=true):∃ j xs,x=.ref j/\h[j]?=some (.lst xs):=by
 unfold Gh at e
 split at e
 ·rename_i j
  split at e
  ·rename_i xs hx
   exact ⟨j,xs,rfl,hx⟩
  ·cases e
 ·cases e
theorem mK {G:Gx} {j:Nat} {xs:List D} {v:V} (w:W G θ hm H) (r:bE G θ H (.ref j) v) (e:hm[j]?=some (.lst xs)):∃ a vs,v=.ref a/\θ[j]?=some a/\H a=some (.lst vs)/\aP G θ H xs vs:=by
 obtain ⟨a,ha,rfl⟩:=r
 obtain ⟨vs,hv,rs⟩:=w.obj _ _ _ ha e
 exact ⟨a,vs,rfl,ha,hv,rs⟩
theorem aP.erase {G:Gx}:∀ {xs:List D} {vs:List V} (n:Nat),aP G θ H xs vs->aP G θ H (xs.eraseIdx n) (vs.eraseIdx n)
 | _,_,_,.nil=>.nil
 | _,_,0,.cons _ t=>t
 | _,_,n+1,.cons r t=>.cons r (aP.erase n t)
theorem aP.Gi {G:Gx} {d:D} {v:V} (q:bE G θ H d v):∀ {xs:List D} {vs:List V} (n:Nat),aP G θ H xs vs->aP G θ H (xs.set n d) (vs.set n v)
 | _,_,_,.nil=>.nil
 | _,_,0,.cons _ t=>.cons q t
 | _,_,n+1,.cons r t=>.cons r (aP.Gi q n t)
theorem W.zu {G:Gx} {j:Nat} {a:Addr} {xs:List D} {vs:List V} (w:W G θ hm H) (ha:θ[j]?=some a) (hl:j < hm.length) (r:aP G θ H xs vs):Ev θ H θ (upd H a (.lst vs))/\W G θ (hm.set j (.lst xs)) (upd H a (.lst vs)):=by
 have hmm:a∈θ:=List.mem_of_getElem? ha
 have e:Ev θ H θ (upd H a (.lst vs)):=⟨⟨[],by simp⟩,fun b u q=>by
  obtain ⟨h1,h2⟩:=cA q
  have ne:b≠a:=fun z=>by subst z;exact h1 hmm
  rw [cM h1,aA ne]
  exact h2⟩
 exact w.write ha hl ⟨vs,aW,r.ev e⟩
theorem gm {α:Type} {xs:List α} {i:Nat} {x:α} (h:xs[i]?=some x):i < xs.length:=(List.getElem?_eq_some_iff.mp h).1
theorem EH {G:Gx} {K:PySem.W.Frag} {f:D->D->Hm->R D} {r:V->List V->Hp->VK->Prop} {σ:L2.St} {H:Hp} {Q:VK} (h:lE G E (zt f ma' mb) σ H Q) (k:∀ θ h H d1 d2 x y,W G θ h H->bE G θ H d1 x->bE G θ H d2 y->aB G (lu G E) θ H (f d1 d2 h) (KV G Q)->r x [y] H Q) :
  I9 K "list" r (lE G E ma') (CG (lE G E mb) FI) σ H Q:=by
 obtain ⟨θ,h,ρ,w,fr,p⟩:=h
 refine ⟨θ,h,ρ,w,fr,(aB.bind p).mono fun d θ1 h1 H1 _ _ ⟨ev,w1,p1⟩ v r1=>?_⟩
 split at p1
 ·rename_i hl
  obtain ⟨j,xs,rfl,hx⟩:=BE hl
  obtain ⟨a,vs,rfl,ha,hv,rs⟩:=mK w1 r1 hx
  exact ⟨.inl ⟨rfl,_,gc.of hv⟩,θ1,h1,ρ,w1,fr.ev ev,(aB.bind p1).mono fun d2 θ2 h2 H2 _ _ ⟨ev2,w2,p2⟩ y r2=>k θ2 h2 H2 _ d2 _ y w2 (r1.ev ev2) r2 p2⟩
 ·exact p1.elim
theorem zv {apos cpos:Pos} (ho:DE X E ma' o) (ha:DE X E mb e) (hbase:attributeBase o "pop" X.env (eval o X.env)=eval o X.env:=by rfl)
  (hfew:((backTo cpos (starEach [e] X.env)).all (fun x=>!x.1) && (backToKw cpos (keywordEach [] X.env)).all (fun x=>x.1.isSome) && decide ([e].length+([]:List Keyword).length+(if ([]:List Keyword).isEmpty then 0 else 1) < 30))=true:=by rfl)
  (hline:(apos.endLine == cpos.line)=true:=by rfl) (hs:starEach [e] X.env=(false,eval e X.env)::starEach [] X.env:=by rfl) (hplain:(backTo cpos (starEach [] X.env)).any (·.1)=false:=by rfl):DE X E (zt kE ma' mb) (.Call (.Attribute o "pop" apos) [e] [] cpos):=by
 simp only [bu] at *
 exact PE.imp (FQ PySem.F.plainAttrs_list PySem.F.slot_list_pop PySem.F.type_list_pop yE ho (jK ha qL hs) hbase hfew hline hs hplain) fun σ H Q q=>EH q fun θ h H d1 d2 x y w r1 r2 p=>by
   unfold kE at p
   split at p
   ·rename_i j kk
    split at p
    ·rename_i xs hx
     split at p
     ·rename_i hz
      split at p
      ·rename_i d hd
       obtain ⟨a,vs,rfl,ha,hv,rs⟩:=mK w r1 hx
       have hl:xs.length=vs.length:=Paired.length rs
       obtain ⟨z,ez,rz⟩:=rs.some hd
       obtain ⟨e1,w1⟩:=w.zu ha (gm hx) (aP.erase kk.toNat rs)
       refine ⟨a,vs,kk,kk.toNat,z,rfl,by rw [bj r2],hv,by omega,by omega,?_,ez,p _ _ e1 w1 _ (rz.ev e1)⟩
       exact PySem.seqIndex_of hz.1 (by omega)
      ·exact p.elim
     ·exact p.elim
    ·exact p.elim
   ·exact p.elim
theorem xV {G:Gx} {F:XP} {d1 d2 d:D} {x y v:V} {Q:Hp->Prop} (w:W G θ hm H) (r1:bE G θ H d1 x) (r2:bE G θ H d2 y) (rd:bE G θ H d v) (p:aB G F θ H (wt d1 d2 d hm) (fun _ _ _ H'=>Q H')):CI x y v H Q:=by
 cases d1 with
 | ref j=>
  cases d2 with
  | dat dd=>
   cases dd with
   | int kk=>
    simp only [wt] at p
    cases hx:hm[j]? with
    | none=>rw [hx] at p;exact p.elim
    | some oo=>
     rw [hx] at p
     cases oo with
     | lst xs=>
      simp only at p
      cases hn:sG xs.length kk with
      | none=>rw [hn] at p;exact p.elim
      | some n=>
       rw [hn] at p
       obtain ⟨a,vs,rfl,ha,hv,rs⟩:=mK w r1 hx
       have hl:xs.length=vs.length:=Paired.length rs
       obtain ⟨e1,w3⟩:=w.zu ha (gm hx) (aP.Gi rd n rs)
       exact ⟨a,vs,kk,n,rfl,bj r2,hv,by rw [<- hl];exact hn,p _ _ e1 w3⟩
     | _=>exact p.elim
   | _=>exact p.elim
  | _=>exact p.elim
 | _=>exact p.elim
theorem wI {α β:Type} {xs:List α} {ys:List β} (h:xs.length=ys.length):(!xs.isEmpty)=!ys.isEmpty:=by
 cases xs<;>cases ys<;>simp_all
theorem tI {G:Gx} {d:D} {v:V} {b:Bool} (w:W G θ hm H) (r:bE G θ H d v) (e:truth d hm=some b):DR G.K v H b:=by
 unfold truth at e
 split at e
 ·cases e;cases r.1;rfl
 ·cases e;cases r.1;rfl
 ·cases e;cases r.1;rfl
 ·split at e
  ·rename_i hz;cases e;cases r.1;exact ⟨cY hz,rfl⟩
  ·cases e
 ·cases e
  obtain ⟨a,us,rfl,ha,q1,_⟩:=e9 r
  exact .inr (.inl ⟨us,eR.of (aq _ _ _ _ ha),wI q1.length.symm⟩)
 ·cases e
  obtain ⟨a,us,rfl,ha,q1,_⟩:=fb r
  exact .inl ⟨us,gc.of (aq _ _ _ _ ha),wI q1.length.symm⟩
 ·split at e
  ·rename_i xs hx
   cases e
   obtain ⟨a,vs,rfl,ha,hv,rs⟩:=mK w r hx
   refine .inl ⟨vs,gc.of hv,?_⟩
   cases rs<;>rfl
  ·cases e
 ·cases e
theorem fD (h:DE X E m e) (he:∀ whole,isTrue e X.env whole=(do let v <- whole;standAt e.pos;holding [v] (truthy v)):=by intro _;rfl):DT X E (eS m) e:=by
 simp only [bu,gS] at *
 exact PT.imp (yx h he) fun σ H Q ⟨θ,h,ρ,w,fr,p⟩=>⟨θ,h,ρ,w,fr,(aB.bind p).mono fun d θ1 h1 H1 _ _ ⟨ev,w1,p1⟩ v r=>by
   split at p1
   ·rename_i b hb
    exact ⟨b,tI w1 r hb,p1 θ1 H1 Ev.refl w1⟩
   ·exact p1.elim⟩
def nV:D->Option PyData
 | .dat .none=>some .none
 | .dat (.bool b)=>some (.bool b)
 | _=>none
def Ic:PyData->PyData->Bool
 | .none,.none=>true
 | .bool a,.bool b=>a == b
 | _,_=>false
def nW (x y:D) (h:Hm):R D:=match nV y with
 | some e=>match x with
  | .dat d=>.ok (.bool !(Ic d e)) h
  | _=>.bad
 | none=>.bad
theorem EI {d e:PyData} {v u:V} {a b:Value} {M:Hp} (re:nV (.dat e)=some e) (r1:Rep M d v) (r2:Rep M e u) (ra:RelV v a) (rb:RelV u b):(a == b)=Ic d e/\PySem.plainIs a b=true:=by
 cases e with
 | none=>
  cases r2
  cases rb
  cases d with
  | none=>cases r1;cases ra;exact ⟨by decide,by decide⟩
  | bool c=>cases r1;cases ra;cases c<;>exact ⟨by decide,by decide⟩
  | int c=>cases r1;obtain ⟨t,rfl⟩:=ra;exact ⟨rfl,rfl⟩
  | str c=>cases r1;obtain ⟨t,rfl⟩:=ra;exact ⟨rfl,rfl⟩
  | list c=>obtain ⟨x,_,rfl,_⟩:=r1;cases ra;exact ⟨rfl,rfl⟩
  | tuple c=>obtain ⟨x,_,rfl,_⟩:=r1;cases ra;exact ⟨rfl,rfl⟩
  | dict c=>obtain ⟨x,_,rfl,_⟩:=r1;cases ra;exact ⟨rfl,rfl⟩
 | bool f=>
  cases r2
  cases rb
  cases d with
  | none=>cases r1;cases ra;cases f<;>exact ⟨by decide,by decide⟩
  | bool c=>cases r1;cases ra;cases c<;>cases f<;>exact ⟨by decide,by decide⟩
  | int c=>cases r1;obtain ⟨t,rfl⟩:=ra;exact ⟨rfl,rfl⟩
  | str c=>cases r1;obtain ⟨t,rfl⟩:=ra;exact ⟨rfl,rfl⟩
  | list c=>obtain ⟨x,_,rfl,_⟩:=r1;cases ra;exact ⟨rfl,rfl⟩
  | tuple c=>obtain ⟨x,_,rfl,_⟩:=r1;cases ra;exact ⟨rfl,rfl⟩
  | dict c=>obtain ⟨x,_,rfl,_⟩:=r1;cases ra;exact ⟨rfl,rfl⟩
 | _=>simp [nV] at re
theorem BF:ko X E (compareOp .IsNot) nW:=by
 intro pins s σ H x y v u Q I rx ry ⟨θ,h,d1,d2,w,r1,r2,p⟩
 unfold nW at p
 split at p
 ·rename_i e he
  split at p
  ·rename_i d
   have:d2=.dat e:=by unfold nV at he;split at he<;>cases he<;>rfl
   subst this
   obtain ⟨q1,q2⟩:=EI he r1.1 r2.1 rx ry
   exact PySem.wpAny_isNot_plain q2 (by rw [q1];exact ⟨.bl _,H,I,rfl,p.i7 w (bP _)⟩)
  ·exact p.elim
 ·exact p.elim
theorem zw (hr:cb k X.A) {pins:List (Addr×Obj)} {s:Shared} {σ:L2.St} {H:Hp} {x y:V} {v u:Value} {Q:VK} {θ:List Addr} {h:Hm} {d1 d2:D} {b:Bool} (I:Inv X pins σ H s) (rx:RelV x v) (ry:RelV y u) (w:W X.G θ h H) (r1:bE X.G θ H d1 x) (r2:bE X.G θ H d2 y) (hb:iF d1 d2 h=some b) :
  (Q (.bl b) H->wpAny (model X.prog X.w) X.A (compareOp .In v u) (EP X pins σ Q) X.xe s)/\(Q (.bl !b) H->wpAny (model X.prog X.w) X.A (compareOp .NotIn v u) (EP X pins σ Q) X.xe s):=by
 unfold iF at hb
 split at hb
 ·split at hb
  ·cases hb
   exact ⟨fun q=>xq pins s σ H x y v u Q I rx ry ⟨_,_,(dH r1).1,(dH r2).1,q⟩,fun q=>qK pins s σ H x y v u Q I rx ry ⟨_,_,(dH r1).1,(dH r2).1,q⟩⟩
  ·cases hb
 ·split at hb
  ·rename_i d ds e1 e2
   obtain ⟨⟨as,z1⟩,s1⟩:=eA I w 3 r1 rx e1
   obtain ⟨⟨bs,z2⟩,s2⟩:=eA I w 3 r2 ry e2
   exact zj hr (.inl rfl) I z1 z2 s1 (by simpa [cg] using s2) hb
  ·rename_i d ds e1 e2
   obtain ⟨⟨as,z1⟩,s1⟩:=eA I w 3 r1 rx e1
   obtain ⟨⟨bs,z2⟩,s2⟩:=eA I w 3 r2 ry e2
   exact zj hr (.inr rfl) I z1 z2 s1 (by simpa [cg] using s2) hb
  ·cases hb
end
end Ml
namespace PySem
open Sem (wp)
def Heap.cZ (h:Heap) (d:Addr) (es:Array DictEntry) (ep:Nat):Prop:=∃ o,h.get? d=some o/\o.ExactDict/\o.data=.dict es ep
theorem Heap.cZ.typeIs {s:Shared} {d:Addr} {es:Array DictEntry} {ep:Nat} (x:s.heap.cZ d es ep):s.TypeIs (.ref d) "dict" := let ⟨o,ho,hc,_⟩:=x;⟨o,ho,hc.1⟩
theorem Heap.cZ.at {h h':Heap} {d:Addr} {es:Array DictEntry} {ep:Nat} (x:h.cZ d es ep) (e:∀ o,h.get? d=some o->h'.get? d=some o):h'.cZ d es ep:=let ⟨o,ho,r⟩:=x;⟨o,e _ ho,r⟩
section
variable {prog:Program} {w:World} {A:Around} {E:Value->Shared->Prop} {s:Shared} {d it:Addr} {es:Array DictEntry} {ep i:Nat}
theorem zx {Q:Value->Shared->Prop} (hd:(d == sysModules)=false) (hm:s.heap.cZ d es ep)
  (hQ:Q (.ref s.heap.objs.size) {s with heap:=s.heap.push {cls:=.type "dict_keyiterator",data:=.fields #[.ref d,.int 0 0,.int es.size 0,.int ep 0]}}):wpAny (model prog w) A (pyIter (.ref d)) Q E s:=by
 have hT:=hm.typeIs
 obtain ⟨o,ho,hc,hdat⟩:=hm
 refine wpAny_pyIter_slot hT F.slot_dict_iter (wpAny_call_entry F.slot_dict_iter hT F.entry_dict_iter ?_ (F.args_dict_iter_1 _))
 unfold Builtin.«dict.__iter__»
 refine wpAny_bind ?_
 unfold Builtin.Dict.dictSlotNone
 refine wpAny_bind (wpAny_notOrdered_dict hT ?_)
 show wpAny _ _ (pure (Value.ref d)) _ _ s
 refine wpAny_pure ?_
 show wpAny _ _ (Builtin.Dict.showsAll d >>= _) _ _ s
 unfold Builtin.Dict.showsAll
 rw [if_neg (by rw [hd];exact Bool.false_ne_true)]
 refine wpAny_bind (wpAny_pure ?_)
 refine wpAny_bind (wpAny_dictEntries ho hdat ?_)
 refine wpAny_bind (wpAny_dictEpoch ho hdat ?_)
 refine wpAny_bind (wpAny_newObj_type (wpAny_pure ⟨_,rfl, "dict_keyiterator",_,⟨_,Heap.get?_push_size _ rfl,rfl⟩,F.slot_dict_keyiterator_next.lookup,?_⟩))
 simpa [rawInt] using hQ
theorem zy {Q:Option Value->Shared->Prop} (hit:s.heap.IsKeyIter it d i es.size ep) (hm:s.heap.cZ d es ep) (hlt:i < es.size)
  (hQ:∀ h',h'.IsKeyIter it d (i+1) es.size ep->Heap.SameBut it s.heap h'->Q (some es[i].key) {s with heap:=h'}):wpAny (model prog w) A (pyNext (.ref it)) Q E s:=by
 obtain ⟨o,ho,hc,hd⟩:=id hit
 obtain ⟨od,hod,hcd,hdd⟩:=id hm
 unfold pyNext
 refine wpAny_bind (wpAny_attempt (wpAny_callSpecial?_slot (name:=Str.ofString "__next__") hit.typeIs F.slot_dict_keyiterator_next
  (wpAny_call_entry F.slot_dict_keyiterator_next hit.typeIs F.entry_dict_keyiterator_next ?_ (F.args_dict_keyiterator_next_1 _))))
 refine wpAny_bind (wpAny_pure ?_)
 refine wpAny_bind ?_
 refine wpAny_bind ?_
 first | refine wpAny_bind (wpAny_typeNameOfWhole_keyiter hit.typeIs (wpAny_pure ?_)) | refine wpAny_bind (wpAny_typeNameOf_keyiter hit.typeIs (wpAny_pure ?_))
 refine wpAny_bind (wpAny_fieldsOf ho hd ?_)
 have hown:Builtin.Dict_items.ownsTuple "dict_keyiterator" = false:=by decide
 simp only [hown,Bool.false_eq_true,if_false]
 show wpAny _ _ (if (Value.ref d == Value.none)=true then _ else _) _ _ s
 rw [if_neg (show ¬ ((Value.ref d == Value.none)=true) from Bool.false_ne_true)]
 refine wpAny_bind (wpAny_pure ?_)
 refine wpAny_bind (wpAny_dictEntries hod hdd ?_)
 rw [if_neg (by simp)]
 refine wpAny_bind (wpAny_pure ?_)
 refine wpAny_bind (wpAny_dictEpoch hod hdd ?_)
 rw [if_neg (by simp)]
 refine wpAny_pure ?_
 simp only [show ¬ ((i:Int) < 0) from by omega,if_false,Int.toNat_natCast,Array.getElem?_eq_getElem hlt]
 refine wpAny_bind ?_
 first | refine wpAny_bind (wpAny_typeNameOfWhole_keyiter hit.typeIs (wpAny_pure ?_)) | refine wpAny_bind (wpAny_typeNameOf_keyiter hit.typeIs (wpAny_pure ?_))
 refine wpAny_bind (wpAny_isOneOf_keyiter hit.typeIs ?_)
 show wpAny _ _ (setField (.ref it) 1 (rawInt ((i:Int)+1)) >>= _) _ _ s
 refine wpAny_bind (wpAny_setField ho hd (by simp) ?_)
 have hit':(s.heap.update it (Obj.mapFields (·.setIfInBounds 1 (rawInt ((i:Int)+1))))).IsKeyIter it d (i+1) es.size ep:=
  ⟨_,Heap.get?_update_self _ ho (Obj.isFreed_of_fields (Obj.data_mapFields hd _)),(Obj.cls_mapFields ..).trans hc,by rw [Obj.data_mapFields hd];simp [rawInt]⟩
 refine wpAny_bind (wpAny_holding ?_)
 refine wpAny_bind (wpAny_isOneOf_keyiter (s:={s with heap:=s.heap.update it (Obj.mapFields (·.setIfInBounds 1 (rawInt ((i:Int)+1))))}) hit'.typeIs ?_)
 show wpAny _ _ (pure es[i].key) _ _ _
 exact wpAny_pure (wpAny_pure ⟨_,rfl,wpAny_pure (hQ _ hit' (Heap.SameBut.update ..))⟩)
theorem BG {Q:Option Value->Shared->Prop} (hh:A.handled=none) (hit:s.heap.IsKeyIter it d i es.size ep) (hm:s.heap.cZ d es ep) (hge:es.size<=i)
  (hQ:∀ h',Heap.ExtBut it s.heap h'->Q none {s with heap:=h'}):wpAny (model prog w) A (pyNext (.ref it)) Q E s:=by
 obtain ⟨o,ho,hc,hd⟩:=id hit
 obtain ⟨od,hod,hcd,hdd⟩:=id hm
 unfold pyNext
 refine wpAny_bind (wpAny_attempt (wpAny_callSpecial?_slot (name:=Str.ofString "__next__") hit.typeIs F.slot_dict_keyiterator_next
  (wpAny_call_entry F.slot_dict_keyiterator_next hit.typeIs F.entry_dict_keyiterator_next ?_ (F.args_dict_keyiterator_next_1 _))))
 refine wpAny_bind (wpAny_pure ?_)
 refine wpAny_bind ?_
 refine wpAny_bind ?_
 first | refine wpAny_bind (wpAny_typeNameOfWhole_keyiter hit.typeIs (wpAny_pure ?_)) | refine wpAny_bind (wpAny_typeNameOf_keyiter hit.typeIs (wpAny_pure ?_))
 refine wpAny_bind (wpAny_fieldsOf ho hd ?_)
 have hown:Builtin.Dict_items.ownsTuple "dict_keyiterator" = false:=by decide
 simp only [hown,Bool.false_eq_true,if_false]
 show wpAny _ _ (if (Value.ref d == Value.none)=true then _ else _) _ _ s
 rw [if_neg (show ¬ ((Value.ref d == Value.none)=true) from Bool.false_ne_true)]
 refine wpAny_bind (wpAny_pure ?_)
 refine wpAny_bind (wpAny_dictEntries hod hdd ?_)
 rw [if_neg (by simp)]
 refine wpAny_bind (wpAny_pure ?_)
 refine wpAny_bind (wpAny_dictEpoch hod hdd ?_)
 rw [if_neg (by simp)]
 refine wpAny_pure ?_
 simp only [show ¬ ((i:Int) < 0) from by omega,if_false,Int.toNat_natCast,Array.getElem?_eq_none hge]
 refine wpAny_bind ?_
 first | refine wpAny_bind (wpAny_typeNameOfWhole_keyiter hit.typeIs (wpAny_pure ?_)) | refine wpAny_bind (wpAny_typeNameOf_keyiter hit.typeIs (wpAny_pure ?_))
 show wpAny _ _ (setField (.ref it) 0 .none >>= _) _ _ s
 refine wpAny_bind (wpAny_setField ho hd (by simp) ?_)
 show wpAny _ _ (newExc (.type "StopIteration") [] >>= _) _ _ _
 refine wpAny_bind ?_
 simp only [newExc,newTuple]
 refine wpAny_bind (wpAny_newObj_type ?_ (by size_fits))
 refine wpAny_bind (m:=firstArgMember _ _) (wpAny_of_eq (a:=Value.none) (by first | rfl | (simp only [firstArgMember];rfl)) ?_)
 refine wpAny_newObj_type ?_ (by size_fits)
 simp only [raiseNew]
 refine wpAny_bind (wpAny_handled ?_)
 rw [show A.in1.handled=none from hh]
 refine wpAny_bind (wpAny_pure (wpAny_throw ?_))
 refine wpAny_bind (wpAny_isInstance (T := "StopIteration") (b:=true) ⟨_,Heap.get?_push_size _ rfl,rfl⟩ isSubtype_stop ?_)
 exact wpAny_pure (hQ _ (((Heap.SameBut.update ..).extBut.push _).push _))
theorem Walks.BH (hh:A.handled=none) (I d:Addr) (hne:d≠I) (es:Array DictEntry) (ep:Nat) :
  Walks prog w A I [I,d] [I] es.size (fun i v=>∃ e,es[i]?=some e/\v=e.key) (fun i h=>h.IsKeyIter I d i es.size ep/\h.cZ d es ep) where
 sub:=fun b hb=>by simp at hb;simp [hb]
 frame:=fun _ _ _ st hk=>⟨st.1.at fun o e=>hk I (by simp) o e,st.2.at fun o e=>hk d (by simp) o e⟩
 item:=fun i s Q E hi st hQ=>zy st.1 st.2 hi fun h' hit' hs'=>
  hQ _ h' s.toks ⟨es[i],Array.getElem?_eq_getElem hi,rfl⟩ ⟨hit',st.2.at fun o e=>hs'.extBut d o hne e⟩ fun b o hb e=>hs'.extBut b o (fun h=>hb (by simp [h])) e
 done:=fun s Q E st hQ=>BG hh st.1 st.2 (Nat.le_refl _) fun h' he'=>hQ h' s.toks fun b o hb e=>he' b o (fun h=>hb (by simp [h])) e
 self:=fun _ _ _ _ st hQ=>wpAny_pyIter_keyiter st.1 hQ
theorem BI (lo:(d == sysModules)=false):PySem.W.KdlSrc prog w "dict" d d es.size (fun i v=>∃ e,es[i]?=some e/\v=e.key) (fun h=>h.cZ d es ep) where
 type:=fun _ hm=>hm.typeIs
 there:=fun _ hm=>let ⟨_,ho,_⟩:=hm;⟨Heap.lt_size ho,Heap.lt_size ho⟩
 keep:=fun _ _ hm hk=>hm.at fun o e=>hk d (.inl rfl) o e
 notList:=by decide
 notTuple:=by decide
 hint:=fun _ _ _ _ hm hq=>PySem.W.kdl_hint_dict hm.typeIs hq
 iter:=fun _ _ hh hm=>⟨_,_,(fun _ _ hq=>zx lo hm hq),Walks.BH hh _ d (let ⟨_,ho,_⟩:=hm;Nat.ne_of_lt (Heap.lt_size ho)) es ep,⟨⟨_,Heap.get?_push_size _ rfl,rfl,rfl⟩,hm.at fun o e=>Heap.get?_push_of_some _ e⟩⟩
theorem zz {Q:Value->Shared->Prop} (lo:(d == sysModules)=false) (hh:A.handled=none) (hm:s.heap.cZ d es ep) (hn:es.size<=sizeLine)
  (hQ:∀ h' tk c',(∀ b o,s.heap.get? b=some o->h'.get? b=some o)->h'.get? s.heap.objs.size=some {cls:=.type "list",dict:=none,data:=.seq (es.map (·.key)) c',slots:=#[]}->Q (.ref s.heap.objs.size) {s with heap:=h',toks:=tk}) :
  wpAny (model prog w) A (call (.type "list") [.ref d]) Q E s:=
 PySem.W.kdl_call (BI lo) hh hm hn fun h' tk acc' c' hk hS hacc=>by
  have e:acc'=es.map (·.key):=by
   apply Array.ext
   ·simp [hacc.1]
   ·intro j h1 h2
    obtain ⟨e,he,hv⟩:=hacc.2 j acc'[j] (Array.getElem?_eq_getElem h1)
    have hj:j < es.size:=by simpa using h2
    rw [Array.getElem?_eq_getElem hj] at he
    cases he
    rw [hv]
    simp
  rw [e] at hS
  exact hQ h' tk c' hk hS
end
end PySem
namespace Ml
open PySem PySem.Spec L2
section
variable {X:Cx} {E:XK} {k:Nat} {θ:List Addr} {hm:Hm} {H M:Hp} {pins:List (Addr×Obj)} {σ:L2.St} {s:Shared}
theorem gE {x:Str}:∀ {ks:List (Key×V)} {kvs:List (PyData×PyData)},aY ks=some kvs->p8 (.str x) kvs=(ks.any fun kv=>decide (kv.1=Sum.inr x))
 | [],kvs,e=>by cases e;rfl
 | (q,v)::ks,kvs,e=>by
  unfold aY at e
  cases e1:fw v with
  | none=>rw [e1] at e;cases e
  | some d=>
   cases e2:aY ks with
   | none=>rw [e1,e2] at e;cases e
   | some ds=>
    rw [e1,e2] at e
    cases e
    have ih:=gE (x:=x) e2
    unfold p8 at ih ⊢
    rw [List.any_cons,List.any_cons,ih]
    congr 1
    cases q with
    | inl i=>rw [key_lr'];simp [sX,PyData.eqv]
    | inr y=>
     simp only [sX,PyData.eqv]
     by_cases e:y=x
     ·subst e;simp
     ·have:¬ (Sum.inr y:Key)=Sum.inr x:=fun z=>e (Sum.inr.inj z)
      rw [decide_eq_false this]
      simpa using e
where
 key_lr' {a:Int} {b:Str}:decide ((Sum.inl a:Key)=Sum.inr b)=false:=decide_eq_false (fun q=>nomatch q)
theorem wJ (q:Key) (x:Str):PyData.eqv (sX q) (.str x)=decide (q=Sum.inr x):=by
 cases q with
 | inl i=>rw [decide_eq_false (fun z=>nomatch z)];simp [sX,PyData.eqv]
 | inr y=>
  simp only [sX,PyData.eqv]
  by_cases e:y=x
  ·subst e;simp
  ·rw [decide_eq_false (fun z=>e (Sum.inr.inj z))];simpa using e
theorem nX {x:Str} {u:V} {dv:PyData} (hv:fw u=some dv):∀ {ks:List (Key×V)} {kvs:List (PyData×PyData)},aY ks=some kvs ->
  aY (ks.map fun kv=>if kv.1=Sum.inr x then (kv.1,u) else kv)=some (kvs.map fun p=>if PyData.eqv p.1 (.str x) then (p.1,dv) else p)
 | [],kvs,e=>by cases e;rfl
 | (q,v)::ks,kvs,e=>by
  unfold aY at e
  cases e1:fw v with
  | none=>rw [e1] at e;cases e
  | some d=>
   cases e2:aY ks with
   | none=>rw [e1,e2] at e;cases e
   | some ds=>
    rw [e1,e2] at e
    cases e
    have ih:=nX (x:=x) hv e2
    rw [List.map_cons,List.map_cons,wJ]
    by_cases hq:q=Sum.inr x
    ·simp only [hq,decide_true,if_true]
     unfold aY
     rw [hv,ih]
    ·simp only [hq,decide_false,if_false,Bool.false_eq_true]
     unfold aY
     rw [e1,ih]
theorem lH {x:Str} {u:V} {dv:PyData} (hv:fw u=some dv):∀ {ks:List (Key×V)} {kvs:List (PyData×PyData)},aY ks=some kvs->aY (ks++[(Sum.inr x,u)])=some (kvs++[(.str x,dv)])
 | [],kvs,e=>by cases e;simp [aY,hv,sX]
 | (q,v)::ks,kvs,e=>by
  unfold aY at e
  cases e1:fw v with
  | none=>rw [e1] at e;cases e
  | some d=>
   cases e2:aY ks with
   | none=>rw [e1,e2] at e;cases e
   | some ds=>
    rw [e1,e2] at e
    cases e
    have ih:=lH (x:=x) hv e2
    rw [List.cons_append]
    unfold aY
    rw [e1,ih]
    rfl
theorem ve {x:Str} {u:V} {dv:PyData} (hv:fw u=some dv) {ks:List (Key×V)} {kvs:List (PyData×PyData)} (e:aY ks=some kvs):aY (putK ks (Sum.inr x) u)=some (dput kvs (.str x) dv):=by
 unfold putK dput
 rw [gE e]
 split
 ·exact nX hv e
 ·exact lH hv e
theorem jw:∀ {ks:List (Key×V)} {kvs:List (PyData×PyData)},aY ks=some kvs->ks.length=kvs.length
 | [],kvs,e=>by cases e;rfl
 | (q,v)::ks,kvs,e=>by
  unfold aY at e
  cases e1:fw v with
  | none=>rw [e1] at e;cases e
  | some d=>
   cases e2:aY ks with
   | none=>rw [e1,e2] at e;cases e
   | some ds=>rw [e1,e2] at e;cases e;simp [jw e2]
theorem nY {x:Str}:∀ {ks:List (Key×V)} {kvs:List (PyData×PyData)} {d:PyData},aY ks=some kvs->xO kvs (.str x)=some d->∃ u,mi ks (Sum.inr x)=some u/\fw u=some d
 | [],kvs,d,e,g=>by cases e;simp [xO] at g
 | (q,v)::ks,kvs,d,e,g=>by
  unfold aY at e
  cases e1:fw v with
  | none=>rw [e1] at e;cases e
  | some d'=>
   cases e2:aY ks with
   | none=>rw [e1,e2] at e;cases e
   | some ds=>
    rw [e1,e2] at e
    cases e
    unfold xO at g
    rw [List.find?_cons,wJ] at g
    by_cases hq:q=Sum.inr x
    ·simp only [hq,decide_true] at g
     simp at g
     subst g
     exact ⟨v,jN (p:=(q,v)) hq,e1⟩
    ·simp only [hq,decide_false] at g
     obtain ⟨u,h1,h2⟩:=nY (x:=x) e2 g
     exact ⟨u,by rw [jO (p:=(q,v)) hq];exact h1,h2⟩
theorem zA {u:V} {d:PyData} (h:fw u=some d):Rep M d u:=by
 cases u with
 | non=>cases h;rfl
 | bl b=>cases h;rfl
 | int i=>cases h;rfl
 | str x=>cases h;rfl
 | _=>cases h
theorem zB {u:V} {d:PyData} (f:wm d=true) (h:Rep M d u):fw u=some d:=by
 cases d with
 | none=>cases h;rfl
 | bool b=>cases h;rfl
 | int i=>cases h;rfl
 | str x=>cases h;rfl
 | _=>simp [wm] at f
theorem gF {q:PyData} (tq:ai q=true):∀ {kvs:List (PyData×PyData)} {xs:List (PyData×Addr×Value)},Paired (kJ M) kvs xs->p8 q kvs=(atKey xs q).isSome
 | _,_,.nil=>rfl
 | _,_,.cons (a:=p) (b:=x) h t=>by
  have ih:=gF tq t
  unfold p8 at ih ⊢
  unfold atKey at ih ⊢
  rw [List.any_cons,List.find?_cons,ih]
  by_cases e:x.1=q
  ·rw [decide_eq_true e,h.1,e,aH (aL tq)];rfl
  ·have:PyData.eqv p.1 q=false:=aR (aL h.2.1) (aL tq) (by rw [h.1];exact e)
   rw [this,decide_eq_false e]
   simp
theorem zC (I:Inv X pins σ H s) {d:PyData} {a:Addr} (sm:bg M H) (t:ai d=true) (dp:d.depth<=8) (so:cg d=true) (r:Rep M d (.ref a)):En s.heap d a:=by
 obtain ⟨as,z⟩:=Rep.reads I (r.same sm) rfl
 exact ⟨t,dp,so,as,z⟩
theorem wK (I:Inv X pins σ H s) (sm:bg M H):∀ {kvs:List (PyData×PyData)} {xs:List (PyData×Addr×Value)},Paired (kJ M) kvs xs->∀ x∈xs,En s.heap x.1 x.2.1
 | _,_,.nil,x,hx=>by cases hx
 | _,_,.cons h t,x,hx=>by
  rcases List.mem_cons.mp hx with rfl | hx
  ·obtain ⟨e,t1,t2,t3,t4,_⟩:=h
   rw [<- e]
   exact zC I sm t1 t2 t3 t4
  ·exact wK I sm t x hx
theorem vf (I:Inv X pins σ H s) {xs:List (PyData×Addr×Value)} {kvs:List (PyData×PyData)} {a:Addr} (sm:bg M H) (ha:H a=some (dO X.prog X.w xs a)) (r:Paired (kJ M) kvs xs) :
  kvs.length<=sizeLine/\(a == sysModules)=false/\s.heap.DictOfH (fB X.prog X.w) a xs:=by
 obtain ⟨⟨h1,h2,o,es,ep,h3,h4,h5,h6,h7⟩,_⟩:=I.hok a _ ha
 exact ⟨by rw [show kvs.length=xs.length from Paired.length r];exact h1,h2,o,es,ep,h3,h4,h5,h6,wK I sm r,h7⟩
theorem EJ {xs:List (PyData×Addr×Value)} {a:Addr} (ha:H a=some (dO X.prog X.w xs a)):E5 (H a):=by rw [ha];exact True.intro
theorem tJ {q dv:PyData} {u:Value} {v:V} (tq:ai q=true) (rv:RelV v u) (rd:Rep M dv v) (sd:cg dv=true):∀ {kvs:List (PyData×PyData)} {xs:List (PyData×Addr×Value)},Paired (kJ M) kvs xs ->
  Paired (kJ M) (kvs.map fun p=>if PyData.eqv p.1 q then (p.1,dv) else p) (xs.map (putAt q u))
 | _,_,.nil=>.nil
 | _,_,.cons (a:=p) (b:=x) h t=>by
  rw [List.map_cons,List.map_cons]
  refine .cons ?_ (tJ tq rv rd sd t)
  unfold putAt
  by_cases e:x.1=q
  ·have e2:PyData.eqv p.1 q=true:=by rw [h.1,e];exact aH (aL tq)
   rw [if_pos e,if_pos e2]
   exact ⟨h.1,h.2.1,h.2.2.1,h.2.2.2.1,h.2.2.2.2.1,v,rv,rd,sd⟩
  ·have e2:PyData.eqv p.1 q=false:=aR (aL h.2.1) (aL tq) (by rw [h.1];exact e)
   rw [if_neg e,e2,if_neg (by simp)]
   exact h
theorem zD {q dv:PyData} {b:Addr} {u:Value} {v:V} (tq:ai q=true) (dq:q.depth<=8) (sq:cg q=true) (rq:Rep M q (.ref b)) (rv:RelV v u) (rd:Rep M dv v) (sd:cg dv=true) {kvs:List (PyData×PyData)} {xs:List (PyData×Addr×Value)} (r:Paired (kJ M) kvs xs) :
  Paired (kJ M) (dput kvs q dv) (storedH xs q b u):=by
 unfold dput storedH
 rw [gF tq r]
 split
 ·exact tJ tq rv rd sd r
 ·exact f6 r (.cons ⟨rfl,tq,dq,sq,rq,v,rv,rd,sd⟩ .nil)
theorem zE (kvs:List (PyData×PyData)) (q v:PyData):(dput kvs q v).length<=kvs.length+1:=by
 unfold dput
 split
 ·simp
 ·simp
theorem W.zF {G:Gx} {j:Nat} {a:Addr} {o:HO} {t:Bool} {kvs:List (PyData×PyData)} (w:W G θ hm H) (ha:θ[j]?=some a) (hl:j < hm.length) (r:eI G.P G.w (view θ H) (upd H a o) a t kvs):Ev θ H θ (upd H a o)/\W G θ (hm.set j (.mD t kvs)) (upd H a o):=by
 have hmm:a∈θ:=List.mem_of_getElem? ha
 have e:Ev θ H θ (upd H a o):=⟨⟨[],by simp⟩,fun b u q=>by
  obtain ⟨h1,h2⟩:=cA q
  have ne:b≠a:=fun z=>by subst z;exact h1 hmm
  rw [cM h1,aA ne]
  exact h2⟩
 exact w.write ha hl (eI.same e.same r fun _ q=>q)
def Gj (G:Gx) (E:XK):V->V->V->Hp->(Hp->Prop)->Prop:=fun x y v H Q=>∃ θ h d1 d2 d,W G θ h H/\bE G θ H d1 x/\bE G θ H d2 y/\bE G θ H d v/\aB G (lu G E) θ H (q9 d1 d2 d h) (fun _ _ _ H'=>Q H')
theorem BJ (hr:cb k X.A):Dz X (Gj X.G E):=by
 intro pins s σ H x y v xv yv u Q I rx ry rv ⟨θ,h,d1,d2,d,w,r1,r2,rd,p⟩
 unfold q9 at p
 split at p
 ·rename_i j
  split at p
  ·rename_i t kvs hx
   unfold CT at p
   split at p
   ·rename_i q dv
    split at p
    ·rename_i hc
     simp only [Bool.and_eq_true,decide_eq_true_eq,Bool.or_eq_true] at hc
     obtain ⟨a,ha,rfl⟩:=r1
     cases rx
     rcases w.obj _ _ _ ha hx with ⟨rfl,ks,h1,h2,h3⟩ | ⟨rfl,xs,h1,h2⟩
     ·have hk:∃ z,q=.str z:=by
       have:=hc.1.1
       simp only [keyOk,Bool.false_eq_true,if_false] at this
       cases q<;>first | exact ⟨_,rfl⟩ | simp [hV] at this
      obtain ⟨z,rfl⟩:=hk
      have fd:wm dv=true:=by rcases hc.1.2 with z | z;cases z;exact z
      have hv:=zB fd rd.1
      obtain ⟨e2,s2⟩:=dH r2
      subst e2
      have so:∀ p∈dput kvs (.str z) dv,cg p.1=true/\cg p.2=true:=fun p hp=>by
       unfold dput at hp
       split at hp
       ·obtain ⟨p0,hp0,e0⟩:=List.mem_map.mp hp
        split at e0
        ·subst e0;exact ⟨(h3 p0 hp0).1,rd.2⟩
        ·subst e0;exact h3 p0 hp0
       ·rcases List.mem_append.mp hp with hp | hp
        ·exact h3 p hp
        ·simp at hp;subst hp;exact ⟨by simpa [cg] using s2,rd.2⟩
      obtain ⟨e1,w1⟩:=w.zF (o:=.dK (putK ks (Sum.inr z) v)) (t:=false) (kvs:=dput kvs (.str z) dv) ha (gm hx) (.inl ⟨rfl,_,aW,ve hv h2,so⟩)
      exact xG (by have:=hr.units;omega) I (A9.k (k:=Sum.inr z) h1 (by rw [jw h2,PySem.sizeLine_eq];exact hc.2)) ry rv fun s' I'=>⟨_,I',p _ _ e1 w1⟩
     ·have hk:=hc.1.1
      simp only [keyOk,if_true,Bool.and_eq_true,decide_eq_true_eq] at hk
      obtain ⟨b,vs,rfl,hb⟩:∃ b vs,y=.ref b/\view θ H b=some (.tup vs):=by
       cases q with
       | tuple ds=>obtain ⟨b,vs,e,hb,_⟩:=r2.1;exact ⟨b,vs,e,hb⟩
       | _=>simp [dU] at hk
      cases ry
      obtain ⟨hz,hsys,dd⟩:=vf I (aq θ H) h1 h2
      have hz2:xs.length<=sizeLine:=by rw [<- show kvs.length=xs.length from Paired.length h2];exact hz
      have kr:=zD (b:=b) (u:=u) hk.1.2 hk.2 r2.2 r2.1 rv rd.1 rd.2 h2
      refine wpAny_setItem_heap (knd:=fB X.prog X.w) (hsz:=hz2) (by show X.A.units+1+20 < cLine;have:=hr.units;omega) (zC I (aq θ H) hk.1.2 hk.2 r2.2 r2.1) dd fun h' dd' hs=>?_
      obtain ⟨o,es,ep,g1,g2,g3,g4,_,g5⟩:=dd'
      have hl2:(storedH xs q b u).length<=sizeLine:=by
       rw [<- show (dput kvs q dv).length=_ from Paired.length kr]
       have:=zE kvs q dv
       rw [PySem.sizeLine_eq]
       omega
      refine ⟨_,mC (t':=_) I (EJ h1) hs ⟨o,g1⟩ (F5 (xs:=storedH xs q b u) hl2 hsys g1 g2 g3 g4 g5),?_⟩
      obtain ⟨e1,w1⟩:=w.zF (o:=dO X.prog X.w (storedH xs q b u) a) (t:=true) (kvs:=dput kvs q dv) ha (gm hx) (.inr ⟨rfl,_,aW,kr⟩)
      exact p _ _ e1 w1
    ·exact p.elim
   ·exact p.elim
  ·exact set_list pins s σ H x y v xv yv u Q I rx ry rv (xV w r1 r2 rd p)
 ·exact p.elim
theorem EK {ma' mb:ME} {o i:Expr} {pos:Pos} (hr:cb k X.A) (ho:DE X E ma' o) (hi:DE X E mb i) (ha:∀ v,assign (.Subscript o i pos) X.env v=(do
   let ov <- holding [v] (eval o X.env)
   let iv <- holding [v,ov] (eval i X.env)
   standAt pos
   holding [v,ov,iv] (setItem ov iv v)
   release [v,ov,iv] []):=by intro _;rfl):DG X E (yo ma' mb) (.Subscript o i pos):=by
 simp only [bu,lx] at *
 exact fun pins s σ H v u Q I r ⟨θ,h,ρ,d,w,fr,rd,p⟩=>DC ho hi (BJ (E:=E) hr) ha pins s σ H v u Q I r ⟨θ,h,ρ,w,fr,(aB.bind p).mono fun d1 θ1 h1 H1 _ _ ⟨ev,w1,p1⟩ x r1=>
   ⟨θ1,h1,ρ,w1,fr.ev ev,(aB.bind p1).mono fun d2 θ2 h2 H2 _ _ ⟨ev2,w2,p2⟩ y r2=>
    ⟨θ2,h2,d1,d2,d,w2,r1.ev ev2,r2,rd.ev (ev.trans ev2),(aB.bind p2).mono fun _ θ3 h3 H3 _ _ ⟨ev3,w3,p3⟩=>p3 θ3 H3 Ev.refl w3 σ (((fr.ev ev).ev ev2).ev ev3)⟩⟩⟩
end
end Ml
namespace Ml
open PySem PySem.Spec L2
section
variable {X:Cx} {E:XK} {k:Nat} {θ:List Addr} {hm:Hm} {H M:Hp} {pins:List (Addr×Obj)} {σ:L2.St} {s:Shared} {pos:Pos} {e:Expr}
theorem nZ {G:Gx} {d:D} {v:V} {t:Bool} {kvs:List (PyData×PyData)} (w:W G θ hm H) (r:bE G θ H d v) (e:hX d hm=some (t,kvs)):∃ a,v=.ref a/\eI G.P G.w (view θ H) H a t kvs:=by
 unfold hX at e
 split at e
 ·cases e
  obtain ⟨a,h1,h2⟩:=r
  exact ⟨a,h1,h2.same (bg.refl _) fun o q=>aq _ _ _ _ q⟩
 ·split at e
  ·rename_i hx
   cases e
   obtain ⟨a,ha,h1⟩:=r
   exact ⟨a,h1,w.obj _ _ _ ha hx⟩
  ·cases e
 ·cases e
theorem BK (hr:cb k X.A) {x:V} {v:Value} {Q:VK} {h:Hm} {d1:D} {b t:Bool} {kvs:List (PyData×PyData)} {a:Addr} (I:Inv X pins σ H s) (rx:RelV x v) (w:W X.G θ h H) (r1:bE X.G θ H d1 x) (dc:eI X.prog X.w (view θ H) H a t kvs) (hb:u0 d1 kvs t=some b) :
  (Q (.bl b) H->wpAny (model X.prog X.w) X.A (compareOp .In v (.ref a)) (EP X pins σ Q) X.xe s)/\(Q (.bl !b) H->wpAny (model X.prog X.w) X.A (compareOp .NotIn v (.ref a)) (EP X pins σ Q) X.xe s):=by
 unfold u0 at hb
 split at hb
 ·rename_i d
  split at hb
  ·rename_i ok
   cases hb
   rcases dc with ⟨rfl,ks,h1,h2,h3⟩ | ⟨rfl,xs,h1,h2⟩
   ·simp only [keyOk,Bool.false_eq_true,if_false] at ok
    cases d with
    | str z=>
     cases (dH r1).1
     exact ⟨fun q=>HS (by have:=hr.units;omega) I (sV.k (k:=Sum.inr z) h1) rx fun s' I'=>⟨.bl _,H,I',rfl,by rw [<- jP,<- gE h2];exact q⟩,
      fun q=>Ba (by have:=hr.units;omega) I (sV.k (k:=Sum.inr z) h1) rx fun s' I'=>⟨.bl _,H,I',rfl,by rw [<- jP,<- gE h2];exact q⟩⟩
    | _=>simp [hV] at ok
   ·simp only [keyOk,if_true,Bool.and_eq_true,decide_eq_true_eq] at ok
    cases d with
    | tuple ds=>
     obtain ⟨c,vs,rfl,hc,_⟩:=id r1.1
     cases rx
     obtain ⟨hz,hsys,dd⟩:=vf I (aq θ H) h1 h2
     have room:(fB X.prog X.w).room X.A.in1:=by show X.A.units+1+20 < cLine;have:=hr.units;omega
     have tk:=zC I (aq θ H) ok.1.2 ok.2 r1.2 r1.1
     exact ⟨fun q=>wpAny_in_heap (knd:=fB X.prog X.w) room tk hsys dd ⟨.bl _,H,I.tok _,rfl,by rw [<- gF ok.1.2 h2];exact q⟩,
      fun q=>PyProof.Rows.wpAny_notIn_heap (knd:=fB X.prog X.w) room tk hsys dd ⟨.bl _,H,I.tok _,rfl,by rw [<- gF ok.1.2 h2];exact q⟩⟩
    | _=>simp [dU] at ok
  ·cases hb
 ·cases hb
theorem wL (hr:cb k X.A) {x y:V} {v u:Value} {Q:VK} {h:Hm} {d1 d2:D} {b:Bool} (I:Inv X pins σ H s) (rx:RelV x v) (ry:RelV y u) (w:W X.G θ h H) (r1:bE X.G θ H d1 x) (r2:bE X.G θ H d2 y) (hb:findIn d1 d2 h=some b) :
  (Q (.bl b) H->wpAny (model X.prog X.w) X.A (compareOp .In v u) (EP X pins σ Q) X.xe s)/\(Q (.bl !b) H->wpAny (model X.prog X.w) X.A (compareOp .NotIn v u) (EP X pins σ Q) X.xe s):=by
 unfold findIn at hb
 split at hb
 ·rename_i p hp
  obtain ⟨t,kvs⟩:=p
  obtain ⟨a,rfl,dc⟩:=nZ w r2 hp
  cases ry
  exact BK hr I rx w r1 dc hb
 ·exact zw hr I rx ry w r1 r2 hb
theorem EL (hr:cb k X.A):ko X E (compareOp .In) CP:=by
 intro pins s σ H x y v u Q I rx ry ⟨θ,h,d1,d2,w,r1,r2,p⟩
 unfold CP at p
 split at p
 ·rename_i b hb
  exact (wL hr I rx ry w r1 r2 hb).1 (p.i7 w (bP _))
 ·exact p.elim
theorem CV (hr:cb k X.A):ko X E (compareOp .NotIn) nB:=by
 intro pins s σ H x y v u Q I rx ry ⟨θ,h,d1,d2,w,r1,r2,p⟩
 unfold nB at p
 split at p
 ·rename_i b hb
  exact (wL hr I rx ry w r1 r2 hb).2 (p.i7 w (bP _))
 ·exact p.elim
theorem zG {kvs:List (PyData×PyData)} {q d:PyData} (h:∀ p∈kvs,cg p.1=true/\cg p.2=true) (e:xO kvs q=some d):cg d=true:=by
 unfold xO at e
 obtain ⟨p,hp,rfl⟩:=Option.map_eq_some_iff.mp e
 exact (h p (List.mem_of_find?_eq_some hp)).2
theorem bN (hr:cb k X.A):E9 X (Eo X.G E gv):=by
 intro value slice pins s σ H x y v u Q I rx ry ⟨θ,h,d1,d2,w,r1,r2,p⟩ hs
 unfold gv at p
 split at p
 ·rename_i pp hp
  obtain ⟨t,kvs⟩:=pp
  split at p
  ·rename_i z
   split at p
   ·exact p.elim
   ·rename_i ht
    split at p
    ·rename_i d hd
     obtain ⟨a,rfl,dc⟩:=nZ w r1 hp
     cases rx
     rcases dc with ⟨_,ks,h1,h2,h3⟩ | ⟨z1,_⟩
     ·obtain ⟨e2,s2⟩:=dH r2
      subst e2
      obtain ⟨uu,g1,g2⟩:=nY h2 hd
      have T:s.TypeIs (.ref a) "dict" := by
       obtain ⟨_,_,vs,_,o,_,_,e,ex,_⟩:=I.hok a _ h1
       exact ⟨o,e,ex.1⟩
      exact PyProof.Rows.tail_any (ops:=[.ref a,u]) T PySem.F.slot_dict_getitem.lookup (xF (by have:=hr.units;omega) I (by have:=sV.k (k:=Sum.inr z) h1;rw [g1] at this;exact this) ry fun w' s' I' rw'=>⟨uu,H,I',rw',p.i7 w ⟨zA g2,zG h3 hd⟩⟩) hs
     ·exact absurd z1 ht
    ·exact p.elim
  ·exact p.elim
 ·exact zm value slice pins s σ H x y v u Q I rx ry ⟨θ,h,d1,d2,w,r1,r2,p⟩ hs
end
end Ml
namespace Ml
open PySem PySem.Spec L2
section
variable {X:Cx} {E:XK} {k:Nat} {θ:List Addr} {hm:Hm} {H M:Hp} {pins:List (Addr×Obj)} {σ:L2.St} {s:Shared} {pos:Pos} {e:Expr}
theorem qg:∀ {kvs:List (PyData×PyData)} {xs:List (PyData×Addr×Value)},Paired (kJ M) kvs xs->aJ M (kvs.map (·.1)) (xs.map fun x=>V.ref x.2.1)/\bM (kvs.map (·.1))=true
 | _,_,.nil=>⟨rfl,rfl⟩
 | _,_,.cons h t=>by
  obtain ⟨h1,h2⟩:=qg t
  exact ⟨.cons h.2.2.2.2.1 h1,by simp [bM,h.2.2.2.1,h2]⟩
theorem qh:∀ (xs:List (PyData×Addr×Value)),Vals (xs.map fun x=>V.ref x.2.1) (xs.map fun x=>Value.ref x.2.1)
 | []=>.nil
 | _::xs=>.cons rfl (qh xs)
theorem wM {P:Program} {w:World}:∀ {ks:List (Key×V)} {vs:List (Key×Value)} {es:List DictEntry} {kvs:List (PyData×PyData)},aY ks=some kvs->L2.KV ks vs->Pairs (bU P w) es vs->∃ us:List V,Vals us (es.map (·.key))/\aJ M (kvs.map (·.1)) us
 | [],_,es,kvs,e,r,p=>by
  cases e
  cases r
  cases es with
  | nil=>exact ⟨[],.nil,rfl⟩
  | cons _ _=>exact (by cases p)
 | (q,v)::ks,_,es,kvs,e,r,p=>by
  cases r with
  | cons r1 r2=>
   rename_i q' vs'
   obtain ⟨k',u⟩:=q'
   obtain ⟨e1,e2⟩:=r1
   simp only at e1 e2
   subst e1
   cases p with
   | cons hk hv hr=>
    unfold aY at e
    cases e1:fw v with
    | none=>rw [e1] at e;cases e
    | some d=>
     cases e3:aY ks with
     | none=>rw [e1,e3] at e;cases e
     | some ds=>
      rw [e1,e3] at e
      cases e
      obtain ⟨us,z1,z2⟩:=wM e3 r2 hr
      rcases bC hk with ⟨i,t,rfl,hk'⟩ | ⟨x,t,rfl,hk'⟩
      ·exact ⟨.int i::us,.cons ⟨t,hk'⟩ z1,.cons rfl z2⟩
      ·exact ⟨.str x::us,.cons ⟨t,hk'⟩ z1,.cons rfl z2⟩
theorem EM (hc:X.calm=true):mm X E (.type "list") p9:=by
 intro pins s σ H xs us Q I r ⟨θ,h,ds,w,rs,p⟩
 unfold p9 at p
 split at p
 ·rename_i x
  split at p
  ·rename_i pp hp
   obtain ⟨t,kvs⟩:=pp
   cases rs with
   | cons r1 rr=>
    cases rr
    obtain ⟨a,rfl,dc⟩:=nZ w r1 hp
    cases r with
    | cons rv rr=>
     cases rr
     cases rv
     have fin:∀ (es:Array DictEntry) (ep:Nat) (vs:List V),s.heap.cZ a es ep->(a == sysModules)=false->kvs.length<=sizeLine->es.size=kvs.length->Vals vs (es.toList.map (·.key))->aJ (view θ H) (kvs.map (·.1)) vs->bM (kvs.map (·.1))=true ->
       wpAny (model X.prog X.w) X.A (call (.type "list") [.ref a]) (EP X pins σ Q) X.xe s:=fun es ep vs raw hsys hz hsz hv hrp hso=>by
      refine zz hsys (I.ok.hd hc) raw (by rw [hsz];exact hz) fun h' tk c' hk hl=>?_
      have hn:H s.heap.objs.size=none:=I.hok.fresh (Nat.le_refl _)
      obtain ⟨e1,w1,g⟩:=w.put (o:=.lst vs) hn
      have hlen:vs.length=kvs.length:=by have:=hrp.length;simpa using this
      refine ⟨.ref s.heap.objs.size,upd H s.heap.objs.size (.lst vs),I.laid (fun b o q=>hk b o q) (Nat.le_refl _) ⟨by rw [hlen];exact hz,es.toList.map (·.key),c',hv,?_⟩,rfl,p _ _ e1 w1 _ ⟨⟨_,vs,rfl,g,hrp.same e1.same⟩,by simpa [cg] using hso⟩⟩
      rw [hl]
      have ee:es.map (·.key)=(es.toList.map (·.key)).toArray:=by apply Array.ext' ;simp
      rw [ee]
     rcases dc with ⟨rfl,ks,h1,h2,h3⟩ | ⟨rfl,xs,h1,h2⟩
     ·obtain ⟨z,ne,vs,rk,o,es,ep,ho,hx,hd,_,hpp,_⟩:=I.hok a _ h1
      obtain ⟨us,v1,v2⟩:=wM (M:=view θ H) h2 rk hpp
      have hl1:ks.length=kvs.length:=jw h2
      have hl2:es.size=kvs.length:=by
       have a1:=v1.length
       have a2:=v2.length
       simp at a1 a2
       omega
      exact fin es ep us ⟨o,ho,hx,hd⟩ ne (by omega) hl2 v1 v2 (aQ.mpr fun d m=>by obtain ⟨p0,hp0,rfl⟩:=List.mem_map.mp m;exact (h3 p0 hp0).1)
     ·obtain ⟨hz,hsys,dd⟩:=vf I (aq θ H) h1 h2
      obtain ⟨o,es,ep,g1,g2,g3,g4,_,_⟩:=dd
      obtain ⟨k1,k2⟩:=qg h2
      have hes:es.toList.map (·.key)=xs.map fun x=>Value.ref x.2.1:=by
       rw [g4,List.map_map]
       rfl
      have hl2:es.size=kvs.length:=by
       have:=congrArg List.length g4
       rw [List.length_map,<- show kvs.length=xs.length from Paired.length h2] at this
       simpa using this
      exact fin es ep _ ⟨o,g1,g2,g3⟩ hsys hz hl2 (by rw [hes];exact qh xs) k1 k2
  ·exact BB (E:=E) pins s σ H xs us Q I r ⟨θ,h,_,w,rs,p⟩
 ·exact p.elim
end
theorem bE.take {G:Gx} {θ:List Addr} {H:Hp} {n:Nat} {d:D} {v:V} (r:bE G θ H d v) (hb:d.below n=true):bE G (θ.take n) H d v:=by
 have sm:bg (view θ H) (view (θ.take n) H):=fun a o q=>by
  obtain ⟨h1,h2⟩:=cA q
  rw [cM (fun z=>h1 (List.mem_of_mem_take z))]
  exact h2
 cases d with
 | dat d=>exact ⟨r.1.same sm,r.2⟩
 | ref i=>
  obtain ⟨a,h1,h2⟩:=r
  simp only [D.below,decide_eq_true_eq] at hb
  exact ⟨a,by rw [List.getElem?_take_of_lt hb];exact h1,h2⟩
 | mD t kvs=>obtain ⟨a,h1,h2⟩:=r;exact ⟨a,h1,h2.same sm fun o q=>sm _ _ q⟩
 | set xs=>exact r
 | fn n=>exact r
 | scr ns=>obtain ⟨a,h1,h2⟩:=r;exact ⟨a,h1,sm.seq h2⟩
 | ktup xs=>exact r
 | rpr x=>exact r
 | exc x=>obtain ⟨a,c,h1,h2,h3⟩:=r;exact ⟨a,c,h1,sm _ _ h2,h3⟩
theorem aP.take {G:Gx} {θ:List Addr} {H:Hp} {n:Nat}:∀ {ds:List D} {vs:List V},aP G θ H ds vs->ds.all (D.below n)=true->aP G (θ.take n) H ds vs
 | _,_,.nil,_=>.nil
 | _,_,.cons r t,h=>by simp only [List.all_cons,Bool.and_eq_true] at h;exact .cons (r.take h.1) (aP.take t h.2)
theorem W.take {G:Gx} {θ:List Addr} {H:Hp} {h:Hm} {n:Nat} (w:W G θ h H) (hb:(h.take n).all (MO.below n)=true):W G (θ.take n) (h.take n) H:=by
 have sm:bg (view θ H) (view (θ.take n) H):=fun a o q=>by
  obtain ⟨h1,h2⟩:=cA q
  rw [cM (fun z=>h1 (List.mem_of_mem_take z))]
  exact h2
 refine ⟨by simp [w.len],w.nd.sublist (List.take_sublist _ _),fun i a o h1 h2=>?_⟩
 have hi:i < n:=by
  have:=gm h1
  simp at this
  omega
 have mo:=List.all_eq_true.mp hb o (List.mem_of_getElem? h2)
 rw [List.getElem?_take_of_lt hi] at h1 h2
 have r:=w.obj i a o h1 h2
 cases o with
 | lst xs=>obtain ⟨vs,q1,q2⟩:=r;exact ⟨vs,q1,q2.take mo⟩
 | mD t kvs=>exact eI.same sm r fun _ q=>q
 | ins=>exact r.elim
 | tab P q=>obtain ⟨rfl,x⟩:=r;exact ⟨rfl,x.same sm fun _ q=>q⟩
theorem Ev.take {θ θ':List Addr} {H H':Hp} (e:Ev θ H θ' H') {n:Nat} (hn:n=θ.length):Ev θ H (θ'.take n) H':=by
 obtain ⟨ext,rfl⟩:=e.pre
 have:(θ++ext).take n=θ:=by rw [hn];simp
 rw [this]
 refine ⟨⟨[],by simp⟩,fun a o q=>?_⟩
 obtain ⟨h1,h2⟩:=cA (e.same a o q)
 rw [cM (fun z=>h1 (List.mem_append_left _ z))]
 exact h2
theorem aB.hU {G:Gx} {E:XK} {θ:List Addr} {H:Hp} {h:Hm} {F:Fn} {ds:List D} {Q:VK} (w:W G θ h H) (p:aB G (lu G E) θ H (hU F ds h) (KV G Q)):aB G (lu G E) θ H (F ds h) (KV G Q):=by
 unfold Ml.hU at p
 cases e:F ds h with
 | bad=>rw [e] at p;exact p
 | ok d h'=>
  rw [e] at p
  simp only at p
  split at p
  ·rename_i hc
   simp only [Bool.and_eq_true,decide_eq_true_eq] at hc
   intro θ' H' ev w' v r
   have w2:=w'.take hc.1.2
   have ev2:=ev.take (n:=h.length) w.len.symm
   exact p _ _ ev2 w2 v (r.take hc.1.1)
  ·exact p.elim
 | exc x h'=>
  rw [e] at p
  simp only at p
  split at p
  ·rename_i hc
   simp only [Bool.and_eq_true,decide_eq_true_eq] at hc
   intro θ' H' ev w' cls da xr
   have w2:=w'.take hc.1
   have ev2:=ev.take (n:=h.length) w.len.symm
   exact p _ _ ev2 w2 cls da xr
  ·exact p.elim
theorem aT.hU {P:Program} {w:World} {K:PySem.W.Frag} {mg:Str->Option Value} {base:Heap} {x:Str} {ps:List Str} {k:Nat} {F:Fn} (h:aT P w K mg base x ps k F):aT P w K mg base x ps k (Ml.hU F):=by
 obtain ⟨⟨f,fd,h1,h2,h3,h4⟩,ar⟩:=h
 refine ⟨⟨f,fd,h1,h2,h3,h4.imp fun vs H Q E ⟨θ,hm,ds,w,r,p⟩=>⟨θ,hm,ds,w,r,p.hU w⟩⟩,fun ds hm l=>?_⟩
 unfold Ml.hU
 rw [ar ds hm l]
end Ml
namespace L2
open PySem PySem.Spec
section
variable {X:Cx} {a b:Expr} {rest:List Expr} {ta tb:TE} {pos:Pos}
theorem BL {r:V->Hp->(Bool->Hp->Prop)->Prop} (ht:Fx X r) (ha:PE X a ta) (hb:PE X (.BoolOp .And (b::rest) pos) tb):PE X (.BoolOp .And (a::b::rest) pos) (fun σ H Q=>ta σ H fun x H1=>r x H1 fun c H2=>H2=H1/\if c=true then tb σ H1 Q else Q x H1):=by
 intro pins s σ H Q I h
 refine PyProof.Rows.BoolOp_and (cf (ha pins s σ H _ I h) fun v s1 ⟨x,H1,I1,r1,q1⟩=>?_)
 refine cf (ht pins s1 σ H1 x v _ I1 r1 q1) fun c s2 ⟨H2,I2,e,q2⟩=>?_
 subst e
 cases c with
 | true=>exact hb pins s2 σ H2 Q I2 q2
 | false=>exact ⟨x,H2,I2,r1,q2⟩
end
end L2
namespace Ml
open PySem PySem.Spec L2
section
variable {X:Cx} {E:XK} {m a b c:ME} {t u:MT} {e e1 e2 e3:Expr} {es:List Expr} {ma:MA} {pos:Pos} {i:Nat} {x:Str}
def Ie (a b:ME):ME:=fun ρ h=>(a ρ h).bind fun x h1=>match truth x h1 with
 | some c=>if c then .ok x h1 else b ρ h1
 | none=>.bad
def qi (a b:ME):ME:=fun ρ h=>(a ρ h).bind fun x h1=>match truth x h1 with
 | some c=>if c then b ρ h1 else .ok x h1
 | none=>.bad
theorem mL (ha:DE X E a e1) (hb:DE X E b (.BoolOp .And (e2::es) pos)):DE X E (qi a b) (.BoolOp .And (e1::e2::es) pos):=by
 simp only [bu] at *
 exact PE.imp (BL yw ha hb) fun σ H Q ⟨θ,h,ρ,w,fr,p⟩=>⟨θ,h,ρ,w,fr,(aB.bind p).mono fun d θ1 h1 H1 _ _ ⟨ev,w1,p1⟩ v r=>by
   split at p1
   ·rename_i b hb
    refine ⟨b,tI w1 r hb,rfl,?_⟩
    cases b with
    | false=>exact p1 θ1 H1 Ev.refl w1 v r
    | true=>exact ⟨θ1,h1,ρ,w1,fr.ev ev,p1⟩
   ·exact p1.elim⟩
def jx (f g:D->D->Hm->R D) (a b c:ME):ME:=fun ρ h=>(a ρ h).bind fun x h1=>(b ρ h1).bind fun y h2=>(f x y h2).bind fun z h3=>match z with
 | .dat (.bool k)=>if k then (c ρ h3).bind fun w h4=>g y w h4 else .ok (.bool false) h3
 | _=>.bad
theorem tK {G:Gx} {f g:D->D->Hm->R D} {σ:St} {H:Hp} {Q:VK} (h:lE G E (jx f g a b c) σ H Q):uJ (Eo G E f) (Eo G E g) (lE G E a) (lE G E b) (lE G E c) σ H Q:=by
 obtain ⟨θ,h,ρ,w,fr,p⟩:=h
 refine ⟨θ,h,ρ,w,fr,(aB.bind p).mono fun x θ1 h1 H1 _ _ ⟨e1,w1,p1⟩ v r1=>?_⟩
 refine ⟨θ1,h1,ρ,w1,fr.ev e1,(aB.bind p1).mono fun y θ2 h2 H2 _ _ ⟨e2,w2,p2⟩ u r2=>⟨θ2,h2,x,y,w2,r1.ev e2,r2,(aB.bind p2).mono fun z θ3 h3 H3 _ _ ⟨e3,w3,p3⟩ z' r3=>?_⟩⟩
 cases z with
 | dat z=>
  cases z with
  | bool k=>
   refine ⟨k,r3.1,?_⟩
   cases k with
   | true=>exact ⟨θ3,h3,ρ,w3,(fr.ev e1).ev (e2.trans e3),(aB.bind p3).mono fun w' θ4 h4 H4 _ _ ⟨e4,w4,p4⟩ q r4=>⟨θ4,h4,y,w',w4,(r2.ev e3).ev e4,r4,p4⟩⟩
   | false=>exact p3 θ3 H3 Ev.refl w3 _ ⟨rfl,by simp [cg]⟩
  | _=>exact p3.elim
 | _=>exact p3.elim
theorem zH {op op':CmpOp} {f g:D->D->Hm->R D} (ho:ko X E (compareOp op) f) (ho':ko X E (compareOp op') g) (ha:DE X E a e1) (hb:DE X E b e2) (hc:DE X E c e3)
  (hm:lastMarks [op,op'] [e2,e3]=false:=by with_unfolding_all rfl):DE X E (jx f g a b c) (.Compare e1 [op,op'] [e2,e3] pos):=by
 simp only [bu] at *
 exact PE.imp (yt ho ho' ha hb hc hm) fun _ _ _=>tK
theorem zI {op op':CmpOp} {f g:D->D->Hm->R D} (ho:ko X E (compareOp op) f) (ho':ko X E (compareOp op') g) (ha:DE X E a e1) (hb:DE X E b e2) (hc:DE X E c e3)
  (hm:lastMarks [op,op'] [e2,e3]=false:=by with_unfolding_all rfl):DT X E (aO (jx f g a b c)) (.Compare e1 [op,op'] [e2,e3] pos):=by
 simp only [bu,gS] at *
 exact PT.imp (yu ho ho' ha hb hc hm) fun _ _ _ q=>tK (wD q)
end
end Ml
namespace Ml
open PySem PySem.Spec L2
section
variable {X:Cx} {E:XK} {m a b c:ME} {t u:MT} {e e1 e2 e3 tg:Expr} {es:List Expr} {ma:MA} {pos:Pos} {i:Nat} {x:Str} {ss:List Stmt} {st:Stmt}
theorem dv (i:Nat) (hN:X.N[i]?=some x:=by rfl) (hv:Cz X.env.scope x:=by first | exact Or.inl rfl | exact Or.inr (Or.inl rfl) | exact Or.inr (Or.inr rfl)) (hd:(x == ("__debug__" : Str))=false:=by decide) (hcd:(x == ("__classdict__" : Str))=false:=by decide):DE X E (ae i) (.Name x pos):=Ep hN hv hd hcd
theorem dg (i:Nat) (hN:X.N.Nodup) (hi:X.N[i]?=some x:=by rfl) (hx:Loc X.env.scope x:=by first | exact Or.inl rfl | exact Or.inr rfl) (hf:X.fn x=true\/X.env.scope.names.lookup x=some .local:=by first | exact .inl rfl | exact .inr rfl | assumption):DG X E (au i) (.Name x pos):=Bn hN hi hx hf
def aS (e:ME):MA:=fun ρ h=>match e ρ h with
 | .ok (.dat (.tuple ds)) h1=>.ok (ds.map D.dat) h1
 | .ok (.dat (.list ds)) h1=>.ok (ds.map D.dat) h1
 | .ok (.dat (.str s)) h1=>.ok (signs s) h1
 | .ok (.ktup ds) h1=>.ok (ds.map D.dat) h1
 | .exc x h1=>.exc x h1
 | _=>.bad
theorem dW (h:DE X E m e):DI X E (aS m) tg e:=by
 have at':=Ex (tg:=tg) h
 have al':=Ey (tg:=tg) h
 have as':=Ez (tg:=tg) h
 have ak':=BD (tg:=tg) h
 simp only [i6] at *
 intro pins s σ H QI I ⟨θ,hm,ρ,w,fr,p⟩
 cases em:m ρ hm with
 | bad=>simp only [aS,em] at p;exact p.elim
 | exc x h1=>
  simp only [aS,em] at p
  refine at' pins s σ H QI I ⟨θ,hm,ρ,w,fr,?_⟩
  simp only [wg,em,R.yW]
  exact p
 | ok d h1=>
  cases d with
  | dat d=>
   cases d with
   | tuple ds=>
    simp only [aS,em] at p
    refine at' pins s σ H QI I ⟨θ,hm,ρ,w,fr,?_⟩
    simp only [wg,em,R.aD]
    exact p
   | list ds=>
    simp only [aS,em] at p
    refine al' pins s σ H QI I ⟨θ,hm,ρ,w,fr,?_⟩
    simp only [yY,em,R.aD]
    exact p
   | str ds=>
    simp only [aS,em] at p
    refine as' pins s σ H QI I ⟨θ,hm,ρ,w,fr,?_⟩
    simp only [yZ,em,R.aD]
    exact p
   | _=>simp only [aS,em] at p;exact p.elim
  | ktup ds=>
   simp only [aS,em] at p
   refine ak' pins s σ H QI I ⟨θ,hm,ρ,w,fr,?_⟩
   simp only [Gg,em,R.aD]
   exact p
  | _=>simp only [aS,em] at p;exact p.elim
end
section
variable {X:Cx} {E:XK} {m:ME} {e:Expr} {es:List Expr} {ma:MA} {pos pos' p p2:Pos} {i:Nat} {x T:Str} {f:Fn} {id n:String} {g:PyData->Bool}
theorem jy (i:Nat) (hN:X.N.Nodup) (he:DE X E m e) (hi:X.N[i]?=some x:=by rfl) (hx:Loc X.env.scope x:=by first | exact Or.inl rfl | exact Or.inr rfl) (hs:swapsWith e (some (.Name x pos')) pos.line X.env=pure false:=by kernel_rfl) (hf:X.fn x=true\/X.env.scope.names.lookup x=some .local:=by first | exact .inl rfl | exact .inr rfl | assumption) :
  DS X E (df i m) (.Assign [.Name x pos'] e pos):=Et hN hi hx he hs hf
theorem sJ (hc:mm X E (.builtin id) f) (hm:X.mg x=none) (hv:bootBuiltins x=some (.builtin id)) (ha:DA X E ma (e::es)) (hg:Gl X x:=by rfl) (hn:x ≠ "__name__" := by decide) (hdb:(x == ("__debug__" : Str))=false:=by decide)
  (he:starEach (e::es) X.env=(false,eval e X.env)::starEach es X.env:=by rfl) (hpl:(backTo pos (starEach es X.env)).any (·.1)=false:=by rfl):DE X E (ag f ma) (.Call (.Name x p) (e::es) [] pos):=ze hc hg hm hv ha hn hdb he hpl
theorem mD (hc:mm X E (.type id) f) (hm:X.mg x=none) (hv:bootBuiltins x=some (.type id)) (ha:DA X E ma (e::es)) (hg:Gl X x:=by rfl) (hn:x ≠ "__name__" := by decide) (hdb:(x == ("__debug__" : Str))=false:=by decide)
  (he:starEach (e::es) X.env=(false,eval e X.env)::starEach es X.env:=by rfl) (hpl:(backTo pos (starEach es X.env)).any (·.1)=false:=by rfl):DE X E (ag f ma) (.Call (.Name x p) (e::es) [] pos):=xQ hc hg hm hv ha hn hdb he hpl
theorem zJ (kit:∀ d,PySem.W.kitOne X.K (.type (FY d)) (.type n)=some (g d)) (bt:bootBuiltins T=some (.type n)) (m1:X.mg "isinstance" = none) (m2:X.mg T=none) (h:DE X E m e) (g1:Gl X "isinstance" := by rfl) (g2:Gl X T:=by rfl) (hT:T ≠ "__name__" := by decide) (hT2:(T == ("__debug__" : Str))=false:=by decide)
  (hs:starEach [e,.Name T p2] X.env=(false,eval e X.env)::starEach [.Name T p2] X.env:=by rfl) (hs2:starEach [.Name T p2] X.env=[(false,eval (.Name T p2) X.env)]:=by rfl) (hpl:(backTo pos (starEach [.Name T p2] X.env)).any (·.1)=false:=by rfl):DE X E (CO (tj g) m) (.Call (.Name "isinstance" p) [e,.Name T p2] [] pos):=EG kit bt m1 m2 h g1 g2 hT hT2 hs hs2 hpl
end
def Df (K:PySem.W.Frag) (mg:Str->Option Value) (x:Str) (ps:List Str) (st:Stmt):Prop:=∃ f fd,mg x=some (.ref f)/\CJ K x x st f fd/\Binds K fd ps []
theorem dI {K:PySem.W.Frag} {h:Heap} {mg:Str->Option Value} {x:Str} {ps:List Str} {st:Stmt} {f:Addr} {od an:Option Addr} {sl:Array (Option Value)} {oc kV dc pm cd ct:Value} (X:K.In h) (G:h.Ns mainGlobals mg)
  (a:PySem.W.nsIn K mainGlobals x=some (some (.ref f))) (l:K.lookup f=some ⟨oc,od,.func (PySem.W.fnOf x x (fJ st) (dB st) (ay st) .none kV dc pm an cd ct),sl⟩) (c:PySem.W.codeIn K cd x=true) (k:PySem.W.keepIn K (.ref f)=true)
  (hb:∀ (kV doc pm:Value) (an:Option Addr) (cdv ct:Value) (us:List Value),us.length=ps.length->bindArgs (PySem.W.fnOf x x (fJ st) (dB st) (ay st) .none kV doc pm an cdv ct) ⟨us,[]⟩=pure (ps.zip us)):Df K mg x ps st:=
 ⟨f,_,PySem.W.mg_of X G a,uQ l c k,(uQ l c k).binds hb⟩
section
variable {P:Program} {w:World} {K:PySem.W.Frag} {mg:Str->Option Value} {base:Heap} {x:Str} {st:Stmt} {ps N:List Str} {k:Nat} {b:MS} {F:Fn}
theorem Df.has (d:Df K mg x ps st) (S:aZ N ps (ay st)) (hbody:∀ (f:Addr) (cdv:Value) (A:Around) (outer:List Env) (s:Shared) (H:Hp) (E:XK),cb k (A.deeper (PyProof.Rows.envOfC x (ay st) s.heap.objs.size f cdv)) ->
   zc (pf (sH P w) P w K mg base N x (ay st) f cdv A outer s H E) E b (dB st)):aT P w K mg base x ps (k+1) (bW ps.length N.length b):=by
 obtain ⟨f,fd,h1,Fu,bd⟩:=d
 exact ⟨⟨f,fd,h1,Fu.kp,bd,Je Fu S (hbody f)⟩,qb⟩
end
theorem EN {P:Program} {w:World} {K:PySem.W.Frag} {mg:Str->Option Value} {base:Heap} {k:Nat} {f:Addr} {fd:FuncData} {ps:List Str} {F F':Fn} (h:iU P w K mg base (sH P w) k f fd ps (Bq ⟨P,w,mg,K⟩ F)) (e:F=F'):iU P w K mg base (sH P w) k f fd ps (Bq ⟨P,w,mg,K⟩ F'):=e▸h
theorem zK (H:Hp):view [] H=H:=by funext a;simp [view]
def CW (K:PySem.W.Frag):Sp:=fun vs H Q _=>∃ (a:Addr) (ns:List Int),vs=[.ref a]/\gc K H a (ns.map V.int)/\ns.length<=63/\∀ H',Q (.bl true) H'
theorem zL {G:Gx} {F:Fn} (hp:∀ ns:List Int,ns.length<=63->∃ h,F [.scr ns] []=.ok (.bool true) h) {vs:List V} {H:Hp} {Q:VK} {E:XK} (z:CW G.K vs H Q E):Bq G F vs H Q E:=by
 obtain ⟨a,ns,rfl,hs,hl,q⟩:=z
 obtain ⟨h',e⟩:=hp ns hl
 refine ⟨[],[],[.scr ns],⟨rfl,.nil,fun i a o e=>by simp at e⟩,.cons ⟨a,rfl,by rw [zK];exact hs⟩ .nil,?_⟩
 rw [e]
 intro θ' H' _ _ v r
 cases r.1
 exact q H'
end Ml
namespace Ml
open PySem
def qj:MS:=bQ (lq (uG (ji (eS (CO (tj isStr) (ae 0)))) (ji (aO (jx oLe oLe (aj (.int 1)) (ag fX (aa (ae 0) (ao))) (aj (.int 6)))))) (b8 (aj (.bool false))) (cu))
    (b8 (ag qY (aa (b9 1 (aS (ae 0)) (au 0) (dC) (jx oLe oLe (aj (.str "a")) (ae 0) (aj (.str "z")))) (ao))))
def fg:Fn:=bW 1 1 qj
end Ml
namespace Ml
open PySem
def lJ:MS:=b8 (ag qY (aa (b9 2 (wj (aa (ae 0) (aa (GO (ae 0) (wq (aj (.int 1))) (wo)) (ao)))) (jk (cq (au 0) (cq (au 1) (jj)))) (dC) (ax oLt (ae 0) (ae 1))) (ao)))
def cJ:Fn:=bW 1 1 lJ
end Ml
namespace Ml
open PySem
def lK:MS:=bQ (lq (uG (ji (eS (CO (tj isTup) (ae 0)))) (aO (ax F3 (ag fX (aa (ae 0) (ao))) (aj (.int 12))))) (b8 (aj (.bool false))) (cu))
    (b8 (qi (ag qY (aa (b9 1 (aS (ae 0)) (au 0) (dC) (ag fg (aa (ae 0) (ao)))) (ao))) (ag cJ (aa (ae 0) (ao)))))
def eJ:Fn:=bW 1 1 lK
end Ml
namespace Ml
open PySem
def lL:MS:=bQ (lq (uG (ji (eS (CO (tj isTup) (ae 0)))) (aO (ax mE (ag fX (aa (ae 0) (ao))) (aj (.int 2))))) (b8 (aj (.bool false))) (cu))
    (b8 (qi (ax CP (ax gv (ae 0) (aj (.int 0))) (ae 1)) (ax CP (ax gv (ae 0) (aj (.int 1))) (ae 1))))
def dz:Fn:=bW 2 2 lL
end Ml
namespace Ml
open PySem
def ja:MS:=bQ (lq (ji (eS (CO (tj isTup) (ae 0)))) (b8 (aj (.bool false))) (cu))
    (b8 (qi (ag qY (aa (b9 1 (aS (ae 0)) (au 0) (dC) (ag dz (aa (ae 0) (aa (ae 2) (ao))))) (ao))) (ag cJ (aa (ae 0) (ao)))))
def cW:Fn:=bW 2 2 ja
end Ml
namespace Ml
open PySem
def tL:MS:=bQ (lq (uG (ji (eS (CO (tj isTup) (ae 0)))) (aO (ax mE (ag fX (aa (ae 0) (ao))) (aj (.int 2))))) (b8 (aj (.bool false))) (cu))
    (bQ (uY (jk (cq (au 1) (cq (au 2) (jj)))) (ae 0))
    (b8 (qi (ag eJ (aa (ae 1) (ao))) (ag cW (aa (ae 2) (aa (ae 1) (ao)))))))
def eK:Fn:=bW 1 3 tL
end Ml
namespace L2
open PySem PySem.Spec
end L2
namespace Ml
open PySem PySem.Spec L2 PyProof.Rows
section
variable {P:Program} {w:World} {K:PySem.W.Frag} {mg:Str->Option Value} {base:Heap} {N:List Str} {qual:Str} {scope:Scope} {f:Addr} {cd:Value} {A:Around} {outer:List Env} {s:Shared} {H:Hp} {E:XK}
end
end Ml
namespace Ml
open PySem PySem.Spec L2 PyProof.Rows
section
variable {X:Cx} {E:XK}
end
end Ml
namespace L2
open PySem PySem.Spec PyProof.Rows
end L2
namespace Ml
open PySem PySem.Spec L2
section
variable {P:Program} {w:World} {K:PySem.W.Frag} {mg:Str->Option Value} {base:Heap} {x:Str} {st:Stmt} {ps N:List Str} {k:Nat} {b:MS} {F:Fn} {Pt:Addr}
end
end Ml
namespace Wh
open PySem L2
end Wh
namespace Ml
open PySem PySem.Spec L2
section
variable {X:Cx} {E:XK} {st:Stmt}
def BM:MS:=fun _ _=>.bad
theorem vg:DS X E BM st:=by
 simp only [h9] at *
 exact fun pins s σ H C I ⟨θ,hm,ρ,w,fr,p⟩=>p.elim
end
end Ml
namespace Ml
open PySem
def lM:MS:=lq (ji (eS (ag eK (aa (ae 0) (ao))))) (BM) (cu)
def bO:Fn:=bW 1 1 lM
end Ml
namespace Ml
open PySem
def j7:MS:=lq (aO (ax nB (ae 1) (ax gv (ae 0) (aj (.int 0))))) (BM) (cu)
def cx:Fn:=bW 2 2 j7
end Ml
namespace Ml
open PySem
def n5:MS:=bQ (lj (ag bO (aa (ae 0) (ao))))
    (bQ (lj (ag cx (aa (ae 0) (aa (ae 1) (ao)))))
    (b8 (b9 2 (aS (ax gv (ae 0) (aj (.int 1)))) (jk (cq (au 0) (cq (au 1) (jj)))) (aO (ax oEq (ae 1) (ae 3))) (ae 0))))
def aU:Fn:=bW 2 2 n5
end Ml
namespace Ml
open PySem
def tM:MS:=bQ (lj (ag bO (aa (ae 0) (ao))))
    (bQ (lj (ag cx (aa (ae 0) (aa (ae 1) (ao)))))
    (b8 (b9 2 (aS (ax gv (ae 0) (aj (.int 1)))) (jk (cq (au 0) (cq (au 1) (jj)))) (aO (ax oEq (ae 0) (ae 3))) (ae 1))))
def eL:Fn:=bW 2 2 tM
end Ml
namespace L2
open PySem PySem.Spec PyProof.Rows
section
variable {X:Cx} {e:Expr} {es:List Expr} {p:Pos} {te:TE} {t:TA}
end
end L2
namespace Ml
open PySem PySem.Spec L2
def gn (x:D) (h:Hm):Option (List PyData):=match x with
 | .dat (.tuple ds)=>some ds
 | .ktup ds=>some ds
 | x=>listOf x h
section
variable {X:Cx} {E:XK} {m:ME} {a:MA} {e:Expr} {es:List Expr} {p:Pos}
theorem tN {G:Gx} {θ:List Addr} {H:Hp}:∀ {xs:List PyData},(∀ x∈xs,(match x with | .int _ | .str _ | .bool _ | .none=>true | _=>false)=true)->bM xs=true->aP G θ H (xs.map D.dat) (xs.map Fb)
 | [],_,_=>.nil
 | d::ds,h,s=>by
  simp only [bM,Bool.and_eq_true] at s
  refine .cons ⟨?_,s.1⟩ (tN (fun x m=>h x (List.mem_cons_of_mem _ m)) s.2)
  have:=h d (List.mem_cons_self ..)
  cases d<;>first | rfl | simp at this
end
end Ml
namespace L2
open PySem PySem.Spec PyProof.Rows
section
variable {prog:Program} {w:World} {A:Around} {R:Result->Shared->Prop} {s:Shared} {elt target iter target2 iter2:Expr} {ifs ifs2:List Expr} {scope:Scope} {pos:Pos} {it acc:Value} {env:Env}
end
end L2
namespace L2
open PySem PySem.Spec PyProof.Rows
section
variable {X:Cx} {own:List Str} {scope:Scope} {elt tg iter tg2 iter2:Expr} {ifs ifs2:List Expr} {pos:Pos} {wi wi2:TI} {g g2:TG} {tc tc2:TT} {te:TE}
end
end L2
namespace Ml
open PySem PySem.Spec L2
section
variable {X:Cx} {E:XK} {it it2:MA} {g g2:MG} {t t2:MT} {m:ME}
end
end Ml
namespace Ml
open PySem PySem.Spec L2
section
variable {X:Cx} {E:XK} {it it2:MA} {g g2:MG} {t t2:MT} {m:ME} {own:List Str} {scope:Scope} {elt tg e tg2 e2:Expr} {ifs ifs2:List Expr} {pos:Pos} {i:Nat} {x:Str}
end
end Ml
namespace PySem
open Sem (wp)
open Builtin
section
variable (l:Addr) (items:Array Value) (n:Nat) (dd:Option Addr) (sl:Array (Option Value)) (k:Int) (t:Tok)
end
end PySem
namespace L2
open PySem PySem.Spec PyProof.Rows
section
variable {X:Cx}
end
end L2
namespace Ml
open PySem PySem.Spec L2
section
variable {X:Cx} {E:XK}
end
end Ml
namespace Ml
open PySem PySem.Spec L2
end Ml
namespace Ml
open PySem
end Ml
namespace Ml
open PySem
def dX:List PyData->List PyData
 | []=>[]
 | x::xs=>if xs.any (PyData.eqv x) then dX xs else x::dX xs
def setOk (ds:List PyData):Bool:=(ds.all dU || ds.all hV) && aK ds && decide (PyData.depthAll ds<=8) && decide (ds.length<=120)
def dJ:Fn:=fun xs h=>match xs with
 | [x]=>match gn x h with
  | some ds=>if setOk ds && cw (dX ds) then .ok (.dat (.list (bG ltB (dX ds)))) h else .bad
  | Option.none=>.bad
 | _=>.bad
def uE (ds es:List PyData):List PyData:=dX (ds++es)
def iL (f:List PyData->List PyData->List PyData) (a b:ME):ME:=fun ρ h=>(a ρ h).bind fun x h1=>match gn x h1 with
 | some ds=>if setOk ds then (b ρ h1).bind fun y h2=>match gn y h2 with
   | some es=>if setOk (ds++es) && cw (f ds es) then .ok (.dat (.list (bG ltB (f ds es)))) h2 else .bad
   | Option.none=>.bad
  else .bad
 | Option.none=>.bad
theorem qk:∀ {ds:List PyData},aK ds=true<->∀ d∈ds,ai d=true
 | []=>by simp [aK]
 | d::ds=>by simp [aK,qk (ds:=ds)]
theorem wN {ds:List PyData} {x:PyData} (hd:∀ d∈ds,ai d=true) (hx:ai x=true):ds.any (PyData.eqv x)=true<->x∈ds:=by
 rw [List.any_eq_true]
 constructor
 ·rintro ⟨y,hy,e⟩
  rw [(eG (aL hx) (aL (hd y hy))).mp e]
  exact hy
 ·exact fun h=>⟨x,h,aH (aL hx)⟩
theorem fh:∀ {ds:List PyData},(∀ d∈ds,ai d=true)->∀ d,d∈dX ds<->d∈ds
 | [],_,d=>by simp [dX]
 | x::xs,h,d=>by
  have hx:=h x (List.mem_cons_self ..)
  have hxs:∀ d∈xs,ai d=true:=fun d m=>h d (List.mem_cons_of_mem _ m)
  have ih:=fh hxs d
  unfold dX
  split
  ·rename_i z
   rw [wN hxs hx] at z
   rw [ih,List.mem_cons]
   constructor
   ·exact .inr
   ·rintro (rfl | q)
    ·exact z
    ·exact q
  ·rw [List.mem_cons,ih,List.mem_cons]
theorem eM:∀ {ds:List PyData},(∀ d∈ds,ai d=true)->(dX ds).Nodup
 | [],_=>by simp [dX]
 | x::xs,h=>by
  have hx:=h x (List.mem_cons_self ..)
  have hxs:∀ d∈xs,ai d=true:=fun d m=>h d (List.mem_cons_of_mem _ m)
  unfold dX
  split
  ·exact eM hxs
  ·rename_i z
   refine List.nodup_cons.mpr ⟨fun q=>z ?_,eM hxs⟩
   rw [wN hxs hx]
   exact (fh hxs x).mp q
end Ml
namespace Ml
open PySem
def gU:MS:=b8 (iL uE (ax gv (ae 0) (aj (.int 0))) (ax gv (ae 1) (aj (.int 0))))
def cC:Fn:=bW 2 2 gU
end Ml
namespace Ml
open PySem
def n6:MS:=bQ (lj (ag bO (aa (ae 0) (ao))))
    (bQ (lj (ag bO (aa (ae 1) (ao))))
    (bQ (df 2 (ag cC (aa (ae 0) (aa (ae 1) (ao)))))
    (bQ (lq (aO (ax F3 (ag fX (aa (ae 2) (ao))) (aj (.int 12)))) (BM) (cu))
    (bQ (df 3 (iL uE (ax gv (ae 0) (aj (.int 1))) (ax gv (ae 1) (aj (.int 1)))))
    (b8 (jo (aa (ag fY (aa (ae 2) (ao))) (aa (ag fY (aa (ae 3) (ao))) (ao)))))))))
def bz:Fn:=bW 2 4 n6
end Ml
namespace Ml
open PySem
def lN:MS:=bQ (lq (aO (ax oLt (ae 1) (ag fX (aa (ae 0) (ao))))) (b8 (ax gv (ae 0) (ae 1))) (cu))
    (b8 (aj (.int 0)))
def eN:Fn:=bW 2 2 lN
end Ml
namespace Ml
open PySem
def n8:MS:=bQ (df 2 (aj (.list [.int 48271,.int 69621,.int 16807,.int 39373,.int 30269,.int 40014,.int 40692,.int 50021,.int 61687,.int 71993,.int 83869,.int 95561,.int 30307])))
    (bQ (df 3 (ax kD (ax eY (ax oMod (ae 0) (aj (.int 2147483647))) (aj (.int 12345))) (ax gv (ae 2) (ax oMod (ae 1) (aj (.int 13))))))
    (bQ (df 3 (ax eY (ax eY (ae 3) (ax kD (aj (.int 977)) (ae 1))) (ax kD (aj (.int 7919)) (ax nA (ae 1) (aj (.int 13))))))
    (bQ (df 3 (ax oMod (ae 3) (aj (.int 1000000007))))
    (b8 (ax nA (ax oMod (ax eY (ax kD (ae 3) (ae 3)) (ax kD (aj (.int 48271)) (ae 1))) (aj (.int 1000000007))) (aj (.int 7)))))))
def dk:Fn:=bW 2 4 n8
end Ml
namespace Ml
open PySem
def n9:MS:=bQ (df 3 (ag eN (aa (ae 0) (aa (ae 1) (ao)))))
    (bQ (lq (yj (aO (ax oEq (ax oMod (ae 3) (aj (.int 2))) (aj (.int 0)))) (aO (ax oEq (ae 2) (aj (.int 0))))) (b8 (xN (aa (ax nA (ag Bk (aa (ae 3) (ao))) (aj (.int 2))) (ao)))) (cu))
    (bQ (df 4 (aj (.int 0)))
    (bQ (gB (fz (aa (aj (.int 90)) (ao))) (au 5) (df 4 (ax eY (ax kD (ae 4) (aj (.int 142857143))) (ag dk (aa (ae 3) (aa (ax eY (ax kD (aj (.int 90)) (ae 2)) (ae 5)) (ao)))))))
    (b8 (xN (aa (ae 4) (ao)))))))
def cK:Fn:=bW 3 6 n9
end Ml
namespace Ml
open PySem
def lP:MS:=bQ (uY (jk (cq (au 2) (cq (au 3) (jj)))) (ag mF (aa (ax gv (ae 0) (aj (.int 0))) (aa (ae 1) (ao)))))
    (bQ (uY (yo (ae 0) (aj (.int 0))) (ae 2))
    (b8 (ae 3)))
def aI:Fn:=bW 2 4 lP
end Ml
namespace Ml
open PySem
def lQ:MS:=bQ (df 2 (xN (aa (aj (.str "a")) (aa (aj (.str "aa")) (aa (aj (.str "ab")) (aa (aj (.str "abcdef")) (aa (aj (.str "b")) (aa (aj (.str "c")) (aa (aj (.str "d")) (aa (aj (.str "e")) (aa (aj (.str "m")) (aa (aj (.str "x")) (aa (aj (.str "zz")) (aa (aj (.str "zzzzzz")) (ao)))))))))))))))
    (bQ (df 3 (ag eZ (aa (b9 1 (fz (aa (ag aI (aa (ae 0) (aa (ax eY (ae 1) (aj (.int 1))) (ao)))) (ao))) (au 0) (dC) (zt kE (ae 3) (ag aI (aa (ae 1) (aa (ag fX (aa (ae 3) (ao))) (ao)))))) (ao))))
    (bQ (uY (jk (cq (au 4) (cq (au 5) (jj)))) (jo (aa (ax gv (aj (.list [.int 1,.int 2,.int 3,.int 5])) (ag aI (aa (ae 0) (aa (aj (.int 4)) (ao))))) (aa (aj (.list [])) (ao)))))
    (bQ (gB (aS (ae 3)) (au 6) (df 5 (ax eY (ae 5) (b9 1 (aS (ae 3)) (au 0) (aO (ax oLt (ag aI (aa (ae 1) (aa (aj (.int 8)) (ao)))) (ae 5))) (jo (aa (ae 7) (aa (ae 0) (ao))))))))
    (b8 (jo (aa (ag fY (aa (ae 3) (ao))) (aa (ag fY (aa (ae 5) (ao))) (ao))))))))
def ib:Fn:=bW 2 7 lQ
def bq:Fn:=hU ib
end Ml
namespace Ml
open PySem
def j8:MS:=bQ (df 1 (aj (.list [])))
    (bQ (gB (aS (ax gv (ae 0) (aj (.int 0)))) (au 2) (df 1 (ax eY (ae 1) (b9 1 (aS (ag aU (aa (ae 0) (aa (ae 2) (ao))))) (au 0) (dC) (jo (aa (ae 0) (aa (ae 3) (ao))))))))
    (b8 (ag eZ (aa (ae 1) (ao)))))
def cN:Fn:=bW 1 3 j8
end Ml
namespace Ml
open PySem
def j9:MS:=bQ (yX [1,2,3] (aa (ag bq (aa (ae 0) (aa (aj (.int 4)) (ao)))) (aa (ag bq (aa (ae 0) (aa (aj (.int 4)) (ao)))) (aa (ag bq (aa (ae 0) (aa (aj (.int 4)) (ao)))) (ao)))))
    (bQ (df 4 (ag bz (aa (ae 1) (aa (ae 2) (ao)))))
    (bQ (lq (uG (aO (ax mE (ae 4) (ag bz (aa (ae 2) (aa (ae 1) (ao)))))) (aO (ax mE (ag bz (aa (ae 4) (aa (ae 3) (ao)))) (ag bz (aa (ae 1) (aa (ag bz (aa (ae 2) (aa (ae 3) (ao)))) (ao))))))) (b8 (aj (.bool false))) (cu))
    (bQ (lq (uG (aO (ax mE (ag bz (aa (ae 1) (aa (ae 1) (ao)))) (ae 1))) (uG (aO (ax mE (ag bz (aa (ae 4) (aa (ae 1) (ao)))) (ae 4))) (aO (ax mE (ag bz (aa (aj (.tuple [.tuple [],.tuple []])) (aa (ae 1) (ao)))) (ae 1))))) (b8 (aj (.bool false))) (cu))
    (bQ (gB (aS (pF (aa (ae 1) (aa (ae 2) (aa (ae 4) (ao)))))) (au 5) (lq (uG (aO (ax nW (ag eK (aa (ae 5) (ao))) (aj (.bool true)))) (aO (ax mE (ag cN (aa (ae 5) (ao))) (ag p9 (aa (ax gv (ae 5) (aj (.int 1))) (ao)))))) (b8 (aj (.bool false))) (cu)))
    (bQ (gB (aS (ax gv (ae 4) (aj (.int 0)))) (au 6) (bQ (df 7 (b9 1 (aS (pF (aa (ae 1) (aa (ae 2) (ao))))) (au 0) (dC) (GN (aO (ax CP (ae 7) (ax gv (ae 0) (aj (.int 0))))) (ag aU (aa (ae 0) (aa (ae 7) (ao)))) (aj (.list [])))))
    (bQ (lq (aO (ax mE (ag aU (aa (ae 4) (aa (ae 6) (ao)))) (ag dJ (aa (ax eY (ax gv (ae 7) (aj (.int 0))) (ax gv (ae 7) (aj (.int 1)))) (ao))))) (b8 (aj (.bool false))) (cu))
    (lq (aO (ax mE (b9 1 (aS (ag eL (aa (ae 4) (aa (ae 6) (ao))))) (au 0) (aO (ax nB (ae 7) (ag aU (aa (ae 5) (aa (ae 0) (ao)))))) (ae 0)) (aj (.list [])))) (b8 (aj (.bool false))) (cu)))))
    (b8 (aj (.bool true))))))))
def cO:Fn:=bW 1 8 j9
end Ml
namespace Ml
open PySem
def CY:MS:=bQ (gB (fz (aa (ag y6 (aa (aj (.int 1)) (aa (ag y7 (aa (ag fX (aa (ae 0) (ao))) (aa (aj (.int 4)) (ao)))) (ao)))) (ao))) (au 1) (gB (fz (aa (aj (.int 3)) (ao))) (au 2) (lq (ji (eS (ag cO (aa (ag cK (aa (ae 0) (aa (ae 1) (aa (ae 2) (ao))))) (ao))))) (b8 (aj (.bool false))) (cu))))
    (b8 (aj (.bool true)))
def tO:Fn:=bW 1 3 CY
end Ml
namespace gp
open PySem
abbrev ka (xs:Array Nat):Prop:=xs.toList.Pairwise (· < ·)
theorem mM {xs:Array Nat} (r:ka xs) {i k:Nat} (hi:i < k) (hk:k < xs.size):xs[i]'(by omega) < xs[k]:=by
 have:=List.pairwise_iff_getElem.mp r i k (by simpa using (by omega:i < xs.size)) (by simpa using hk) hi
 simpa using this
theorem og {xs:Array Nat} (r:ka xs) (j:Nat):∀ (fuel lo hi:Nat),lo<=hi->hi<=xs.size->hi - lo<=fuel->(∀ i (h:i < xs.size),i < lo->xs[i] < j)->(∀ i (h:i < xs.size),hi<=i->j<=xs[i]) ->
  (∀ i (h:i < xs.size),i < SetTable.below.go xs j fuel lo hi->xs[i] < j)/\(∀ i (h:i < xs.size),SetTable.below.go xs j fuel lo hi<=i->j<=xs[i])/\SetTable.below.go xs j fuel lo hi<=xs.size
 | 0,lo,hi,h1,h2,h3,a,b=>by
  have:lo=hi:=by omega
  subst this
  simp only [SetTable.below.go]
  exact ⟨a,b,h2⟩
 | fuel+1,lo,hi,h1,h2,h3,a,b=>by
  simp only [SetTable.below.go]
  split
  ·rename_i hlt
   have hm:(lo+hi) / 2 < xs.size:=by omega
   simp only [Array.getD,hm,dif_pos]
   split
   ·rename_i hx
    refine og r j fuel _ hi (by omega) h2 (by omega) (fun i h hi'=>?_) b
    by_cases e:i=(lo+hi) / 2
    ·subst e;exact hx
    ·have:=mM r (i:=i) (k:=(lo+hi) / 2) (by omega) hm
     have hx':xs[(lo+hi) / 2] < j:=hx
     omega
   ·rename_i hx
    refine og r j fuel lo _ (by omega) (by omega) (by omega) a fun i h hi'=>?_
    have hx':¬ xs[(lo+hi) / 2] < j:=hx
    by_cases e:i=(lo+hi) / 2
    ·subst e;omega
    ·have:=mM r (i:=(lo+hi) / 2) (k:=i) (by omega) h
     omega
  ·have:lo=hi:=by omega
   subst this
   exact ⟨a,b,h2⟩
theorem fE {xs:Array Nat} (r:ka xs) (j:Nat):(∀ i (h:i < xs.size),i < SetTable.below xs j->xs[i] < j)/\(∀ i (h:i < xs.size),SetTable.below xs j<=i->j<=xs[i])/\SetTable.below xs j<=xs.size:=
 og r j xs.size 0 xs.size (by omega) (by omega) (by omega) (fun _ _ h=>by omega) fun _ _ h=>by omega
theorem below_at {xs:Array Nat} (r:ka xs) {i j:Nat} (h:xs[i]?=some j):SetTable.below xs j=i:=by
 obtain ⟨hi,e⟩:=Array.getElem?_eq_some_iff.mp h
 obtain ⟨a,b,c⟩:=fE r j
 by_cases h1:i < SetTable.below xs j
 ·have:=a i hi h1;omega
 ·by_cases h2:SetTable.below xs j=i
  ·exact h2
  ·have hb:SetTable.below xs j < xs.size:=by omega
   have:=b _ hb (Nat.le_refl _)
   have:=mM r (i:=SetTable.below xs j) (k:=i) (by omega) hi
   omega
theorem fF {xs:Array Nat} (r:ka xs) {j:Nat}:j∈xs.toList<->xs[SetTable.below xs j]?=some j:=by
 constructor
 ·intro h
  obtain ⟨i,hi,e⟩:=List.getElem_of_mem h
  have:xs[i]?=some j:=by rw [<- Array.getElem?_toList,List.getElem?_eq_getElem hi,e]
  rw [below_at r this];exact this
 ·intro h
  rw [<- Array.getElem?_toList] at h
  exact List.mem_of_getElem? h
theorem gG {xs:Array Nat} (r:ka xs) {j:Nat}:SetTable.has xs j=true<->j∈xs.toList:=by
 unfold SetTable.has
 rw [fF r,beq_iff_eq]
theorem iM {t:SetTable} (r:ka t.place) {j i:Nat}:t.slot j=.live i<->t.place[i]?=some j:=by
 unfold SetTable.slot
 constructor
 ·intro h
  dsimp only at h
  split at h
  ·rename_i e
   have:=eq_of_beq e
   cases h
   exact this
  ·split at h<;>cases h
 ·intro h
  have e:=below_at r h
  dsimp only
  rw [e,h]
  simp
theorem gH {t:SetTable} (r:ka t.place) (rd:ka t.dummies) {j:Nat}:t.slot j=.empty<->j∉t.place.toList/\j∉t.dummies.toList:=by
 rw [fF r,<- gG rd]
 unfold SetTable.slot
 dsimp only
 by_cases h:t.place[SetTable.below t.place j]?=some j
 ·simp [h]
 ·have:(t.place[SetTable.below t.place j]? == some j)=false:=by rw [beq_eq_false_iff_ne];exact h
  rw [this]
  simp only [Bool.false_eq_true,if_false]
  by_cases h2:SetTable.has t.dummies j=true
  ·simp [h2]
  ·simp [h2,h]
theorem vh {t:SetTable} (r:ka t.place) (rd:ka t.dummies) {j:Nat}:t.slot j=.dummy->j∈t.dummies.toList:=by
 rw [<- gG rd]
 unfold SetTable.slot
 dsimp only
 split
 ·intro h;cases h
 ·split
  ·intro _;assumption
  ·intro h;cases h
theorem oh {xs:Array Nat} (r:ka xs) {j:Nat} (h:j∉xs.toList):ka (SetTable.insertAt xs (SetTable.below xs j) j):=by
 obtain ⟨a,b,c⟩:=fE r j
 unfold ka
 rw [SetTable.toList_insertAt]
 have r':xs.toList.Pairwise (· < ·):=r
 rw [<- List.take_append_drop (SetTable.below xs j) xs.toList,List.pairwise_append] at r'
 obtain ⟨r1,r2,r3⟩:=r'
 rw [List.pairwise_append]
 refine ⟨r1,List.pairwise_cons.mpr ⟨fun x hx=>?_,r2⟩,fun x hx y hy=>?_⟩
 ·obtain ⟨i,hi,e⟩:=List.getElem_of_mem hx
  simp at hi e
  have:=b (SetTable.below xs j+i) (by omega) (by omega)
  have hne:xs[SetTable.below xs j+i]'(by omega)≠j:=fun z=>h (by rw [<- z];simp)
  omega
 ·have hxj:x < j:=by
   obtain ⟨i,hi,e⟩:=List.getElem_of_mem hx
   simp at hi e
   have:=a i (by omega) (by omega)
   omega
  rcases List.mem_cons.mp hy with rfl | hy
  ·exact hxj
  ·exact r3 x hx y hy
theorem ql {xs:Array Nat} (r:ka xs) (p:Nat):ka (SetTable.eraseAt xs p):=by
 unfold ka SetTable.eraseAt
 simp only [Array.toList_append,Array.toList_extract,List.extract_eq_take_drop,List.drop_zero,Nat.sub_zero]
 have r':xs.toList.Pairwise (· < ·):=r
 rw [<- List.take_append_drop p xs.toList,List.pairwise_append] at r'
 rw [List.pairwise_append]
 refine ⟨r'.1,?_,fun x hx y hy=>?_⟩
 ·refine List.Pairwise.sublist ?_ r
  exact (List.take_sublist _ _).trans (List.drop_sublist _ _)
 ·refine r'.2.2 x hx y ?_
  have:=List.mem_of_mem_take hy
  rw [<- List.drop_drop] at this
  exact List.mem_of_mem_drop this
structure Pc where
 j:Nat
 more:Nat
 i:Nat
 pt:Nat
def pc (p:SetTable.Probe):Pc:=⟨p.j,p.more,p.i,p.perturb⟩
def cH (mask i pt:Nat):Pc:=⟨i,SetTable.runEnd mask i - i,i,pt⟩
def tP (mask:Nat) (c:Pc):Pc:=cH mask (SetTable.leap mask c.i c.pt).1 (SetTable.leap mask c.i c.pt).2
def step (mask:Nat) (c:Pc):Pc:=if c.more > 0 then ⟨c.j+1,c.more - 1,c.i,c.pt⟩ else tP mask c
theorem vi (t:SetTable) (p:SetTable.Probe):pc (t.advance p)=step t.mask (pc p):=by
 unfold SetTable.advance step pc
 dsimp only
 split<;>rfl
theorem f7 (t:SetTable) (p:SetTable.Probe):(t.advance p).dummy=p.dummy:=by
 unfold SetTable.advance
 dsimp only
 split<;>rfl
def steps (mask:Nat):Nat->Pc->Pc
 | 0,c=>c
 | n+1,c=>steps mask n (step mask c)
theorem iN (mask:Nat):∀ (m n:Nat) (c:Pc),steps mask (m+n) c=steps mask n (steps mask m c)
 | 0,n,c=>by simp [steps]
 | m+1,n,c=>by rw [show m+1+n=(m+n)+1 by omega];simp only [steps];exact iN mask m n _
theorem rH (mask:Nat):∀ (k:Nat) (c:Pc),c.more=k->steps mask (k+1) c=tP mask c
 | 0,c,h=>by simp [steps,step,h]
 | k+1,c,h=>by
  have e:step mask c=⟨c.j+1,c.more - 1,c.i,c.pt⟩:=by unfold step;rw [if_pos (by omega)]
  simp only [steps]
  have:=rH mask k (step mask c) (by rw [e];simp [h])
  simp only [steps] at this
  rw [this,e]
  rfl
theorem qm (mask i:Nat):SetTable.runEnd mask i - i<=9:=by unfold SetTable.runEnd;split<;>omega
def dA (mask:Nat):Nat->Pc->Pc
 | 0,c=>c
 | n+1,c=>dA mask n (tP mask c)
theorem lR (mask:Nat):∀ (n:Nat) (c:Pc),c.more<=9->∃ m,m<=10 * n/\steps mask m c=dA mask n c
 | 0,c,_=>⟨0,by omega,rfl⟩
 | n+1,c,h=>by
  obtain ⟨m,hm,e⟩:=lR mask n (tP mask c) (qm _ _)
  refine ⟨c.more+1+m,by omega,?_⟩
  rw [iN,rH mask c.more c rfl,e]
  rfl
theorem iO (mask:Nat):∀ (m n:Nat) (c:Pc),dA mask (m+n) c=dA mask n (dA mask m c)
 | 0,n,c=>by simp [dA]
 | m+1,n,c=>by rw [show m+1+n=(m+n)+1 by omega];simp only [dA];exact iO mask m n _
theorem tQ (mask:Nat):∀ (n:Nat) (c:Pc),(dA mask n c).pt=c.pt / 32 ^ n
 | 0,c=>by simp [dA]
 | n+1,c=>by
  simp only [dA]
  rw [tQ mask n]
  show c.pt / 32 / 32 ^ n=_
  rw [Nat.div_div_eq_div_mul,Nat.pow_succ,Nat.mul_comm]
def wO (m:Nat):Nat->Nat->Nat
 | 0,i=>i
 | n+1,i=>wO m n ((i * 5+1) % m)
theorem mN (m:Nat):∀ (a b i:Nat),wO m (a+b) i=wO m b (wO m a i)
 | 0,b,i=>by simp [wO]
 | a+1,b,i=>by rw [show a+1+b=(a+b)+1 by omega];simp only [wO];exact mN m a b _
def cover (m:Nat):Nat->Nat->Nat->Nat
 | 0,_,acc=>acc
 | n+1,i,acc=>cover m n ((i * 5+1) % m) (acc ||| 1 <<< i)
theorem qo (m:Nat):∀ (n i acc e:Nat),(cover m n i acc).testBit e=true->acc.testBit e=true\/∃ a,a < n/\wO m a i=e
 | 0,i,acc,e,h=>.inl h
 | n+1,i,acc,e,h=>by
  rcases qo m n _ _ e h with h | ⟨a,ha,h⟩
  ·rw [Nat.testBit_or,Bool.or_eq_true] at h
   rcases h with h | h
   ·exact .inl h
   ·refine .inr ⟨0,by omega,?_⟩
    rw [Nat.shiftLeft_eq,Nat.one_mul,Nat.testBit_two_pow] at h
    simpa [wO] using h
  ·exact .inr ⟨a+1,by omega,h⟩
def sizeOk (m:Nat):Bool:=cover m m 0 0 == 2 ^ m - 1 && wO m m 0 == 0 && decide (8<=m/\m<=1024) && decide (m % 2=0)
theorem zM {m:Nat} (h:sizeOk m=true) {i e:Nat} (hi:i < m) (he:e < m):∃ n,n < m/\wO m n i=e:=by
 unfold sizeOk at h
 simp only [Bool.and_eq_true,beq_iff_eq,decide_eq_true_eq] at h
 obtain ⟨⟨⟨h1,h2⟩,h3⟩,_⟩:=h
 have key:∀ x,x < m->∃ a,a < m/\wO m a 0=x:=fun x hx=>by
  rcases qo m m 0 0 x (by rw [h1];simp [Nat.testBit_two_pow_sub_one,hx]) with z | z
  ·simp at z
  ·exact z
 obtain ⟨a,ha,ea⟩:=key i hi
 obtain ⟨b,hb,eb⟩:=key e he
 by_cases hab:a<=b
 ·exact ⟨b - a,by omega,by rw [<- ea,<- mN,show a+(b - a)=b by omega,eb]⟩
 ·exact ⟨(m - a)+b,by omega,by rw [<- ea,<- mN,show a+((m - a)+b)=m+b by omega,mN,h2,eb]⟩
theorem CZ:sizeOk 8=true/\sizeOk 16=true/\sizeOk 32=true/\sizeOk 64=true/\sizeOk 128=true/\sizeOk 256=true/\sizeOk 512=true/\sizeOk 1024=true:=by decide +kernel
theorem qp {mask:Nat}:∀ (n:Nat) (c:Pc),c.pt=0->(dA mask n c).i=wO (mask+1) n c.i
 | 0,c,_=>rfl
 | n+1,c,h=>by
  simp only [dA,wO]
  rw [qp n (tP mask c) (by show c.pt / 32=0;rw [h])]
  show wO _ n ((c.i * 5+1+c.pt / 32) % (mask+1))=_
  rw [h]
theorem BN (mask n:Nat) (c:Pc):(dA mask (n+1) c).j=(dA mask (n+1) c).i:=by
 rw [iO]
 rfl
theorem qq {mask:Nat} (h:sizeOk (mask+1)=true) {c:Pc} (hp:c.pt < 2 ^ 64) {e:Nat} (he:e<=mask):∃ n,n<=mask+12/\(dA mask (n+1) c).j=e:=by
 have h0:(dA mask 13 c).pt=0:=by
  rw [tQ]
  exact Nat.div_eq_of_lt (Nat.lt_trans hp (by decide))
 have hi:(dA mask 13 c).i < mask+1:=by
  show (dA mask (12+1) c).i < mask+1
  rw [iO]
  exact Nat.mod_lt _ (by omega)
 obtain ⟨n,hn,en⟩:=zM h hi (Nat.lt_succ_of_le he)
 refine ⟨12+n,by omega,?_⟩
 rw [show 12+n+1=(12+n)+1 from rfl,BN,show 12+n+1=13+n by omega,iO,qp n _ h0,en]
theorem wQ (h:Int):SetTable.bits h < 2 ^ 64:=by
 unfold SetTable.bits
 have h1:=Int.emod_nonneg h (b:=(2 ^ 64:Int)) (by decide)
 have h2:=Int.emod_lt_of_pos h (b:=(2 ^ 64:Int)) (by decide)
 omega
def c0 (mask:Nat) (h:Int):Pc:=cH mask (SetTable.bits h % (mask+1)) (SetTable.bits h)
def sq (mask:Nat) (h:Int) (n:Nat):Nat:=(steps mask n (c0 mask h)).j
theorem xW {mask:Nat} (hs:sizeOk (mask+1)=true) (h:Int) {e:Nat} (he:e<=mask):∃ n,n<=10 * (mask+13)/\sq mask h n=e:=by
 obtain ⟨n,hn,en⟩:=qq hs (c:=c0 mask h) (wQ h) he
 obtain ⟨m,hm,em⟩:=lR mask (n+1) (c0 mask h) (qm _ _)
 exact ⟨m,by omega,by unfold sq;rw [em,en]⟩
theorem least {P:Nat->Prop}:∀ (N:Nat),P N->∃ n,n<=N/\P n/\∀ m,m < n->¬ P m:=by
 intro N
 induction N using Nat.strongRecOn with
 | _ N ih=>
  intro h
  by_cases z:∃ m,m < N/\P m
  ·obtain ⟨m,hm,pm⟩:=z
   obtain ⟨n,h1,h2,h3⟩:=ih m hm pm
   exact ⟨n,by omega,h2,h3⟩
  ·exact ⟨N,Nat.le_refl _,h,fun m hm pm=>z ⟨m,hm,pm⟩⟩
theorem vj:∀ (n:Nat) (l:List Nat),(∀ e,e < n->e∈l)->n<=l.length
 | 0,_,_=>Nat.zero_le _
 | n+1,l,h=>by
  have hm:=h n (by omega)
  have:=vj n (l.erase n) fun e he=>(List.mem_erase_of_ne (by omega)).mpr (h e (by omega))
  rw [List.length_erase_of_mem hm] at this
  have:=List.length_pos_of_mem hm
  omega
end gp
namespace gp
open PySem
theorem vk (mask n:Nat) (c:Pc):steps mask (n+1) c=step mask (steps mask n c):=by
 rw [iN]
 rfl
structure Tab (es:Array (Int×Value)) (t:SetTable):Prop where
 rp:ka t.place
 rd:ka t.dummies
 sz:t.place.size=es.size
 tf:t.fill * 5 < t.mask * 3
 bp:∀ j∈t.place.toList,j<=t.mask
 bd:∀ j∈t.dummies.toList,j<=t.mask
 dj:∀ j∈t.dummies.toList,j∉t.place.toList
 sm:sizeOk (t.mask+1)=true
 rc:∀ (i:Nat) (e:Int×Value) (j:Nat),es[i]?=some e->t.place[i]?=some j->∃ n,sq t.mask e.1 n=j/\∀ m,m < n->t.slot (sq t.mask e.1 m)≠.empty
theorem Tab.fits {es:Array (Int×Value)} {t:SetTable} (T:Tab es t):t.fits es.size=true:=by
 have:=T.tf
 simp only [SetTable.fits,Bool.and_eq_true,beq_iff_eq,decide_eq_true_eq]
 exact ⟨T.sz,by omega⟩
theorem Tab.odd {es:Array (Int×Value)} {t:SetTable} (T:Tab es t):t.gaveWay=false:=by
 have h:=T.sm
 unfold SetTable.gaveWay
 rw [beq_eq_false_iff_ne]
 intro z
 unfold sizeOk at h
 simp only [Bool.and_eq_true,beq_iff_eq,decide_eq_true_eq] at h
 obtain ⟨⟨⟨h1,h2⟩,h3⟩,h4⟩:=h
 omega
theorem Tab.le {es:Array (Int×Value)} {t:SetTable} (T:Tab es t):t.mask<=1023:=by
 have h:=T.sm
 unfold sizeOk at h
 simp only [Bool.and_eq_true,beq_iff_eq,decide_eq_true_eq] at h
 omega
theorem Tab.free {es:Array (Int×Value)} {t:SetTable} (T:Tab es t) (h:Int):∃ N,N<=10 * (t.mask+13)/\t.slot (sq t.mask h N)=.empty/\∀ m,m < N->t.slot (sq t.mask h m)≠.empty:=by
 have:∃ e,e<=t.mask/\t.slot e=.empty:=by
  apply Classical.byContradiction
  intro z
  have:=vj (t.mask+1) (t.place.toList++t.dummies.toList) fun e he=>by
   apply Classical.byContradiction
   intro hn
   rw [List.mem_append,not_or] at hn
   exact z ⟨e,by omega,(gH T.rp T.rd).mpr hn⟩
  have tf:=T.tf
  unfold SetTable.fill at tf
  simp only [List.length_append,Array.length_toList] at this
  omega
 obtain ⟨e,he,hs⟩:=this
 obtain ⟨n,hn,en⟩:=xW T.sm h he
 obtain ⟨N,h1,h2,h3⟩:=least (P:=fun n=>t.slot (sq t.mask h n)=.empty) n (by rw [en];exact hs)
 exact ⟨N,by omega,h2,h3⟩
def Dm (t:SetTable) (h:Int) (n:Nat) (d:Option Nat):Prop:=d=none\/∃ m,m < n/\d=some (sq t.mask h m)/\t.slot (sq t.mask h m)=.dummy
theorem Dm.mono {t:SetTable} {h:Int} {n n':Nat} {d:Option Nat} (x:Dm t h n d) (hn:n<=n'):Dm t h n' d:=by
 rcases x with x | ⟨m,a,b,c⟩
 ·exact .inl x
 ·exact .inr ⟨m,by omega,b,c⟩
theorem mO {t:SetTable} {hashAt:Nat->Int} {h:Int} {N:Nat} (hN:t.slot (sq t.mask h N)=.empty) (hne:∀ m,m < N->t.slot (sq t.mask h m)≠.empty) :
  ∀ (fuel n:Nat) (p:SetTable.Probe),n<=N->N - n < fuel->pc p=steps t.mask n (c0 t.mask h)->Dm t h n p.dummy ->
   (∃ d,SetTable.probe.go t hashAt h fuel p=some (.empty (sq t.mask h N) d)/\Dm t h N d/\∀ m,n<=m->m < N->∀ i,t.slot (sq t.mask h m)=.live i->hashAt i≠h) \/
   (∃ k i q,SetTable.probe.go t hashAt h fuel p=some (.candidate (sq t.mask h k) i q)/\n<=k/\k < N/\t.slot (sq t.mask h k)=.live i/\hashAt i=h/\pc q=steps t.mask (k+1) (c0 t.mask h)/\Dm t h (k+1) q.dummy /\
    ∀ m,n<=m->m < k->∀ i,t.slot (sq t.mask h m)=.live i->hashAt i≠h)
 | 0,n,p,h1,h2,h3,h4=>by omega
 | fuel+1,n,p,h1,h2,h3,h4=>by
  have ej:p.j=sq t.mask h n:=by
   have:=congrArg Pc.j h3
   exact this
  have nx:∀ (p':SetTable.Probe),pc p'=pc p->n < N->pc (t.advance p')=steps t.mask (n+1) (c0 t.mask h):=fun p' e _=>by
   rw [vi,e,h3,vk]
  simp only [SetTable.probe.go]
  rw [ej]
  by_cases e:n=N
  ·subst e
   rw [hN]
   exact .inl ⟨p.dummy,rfl,h4,fun m a b=>by omega⟩
  ·have hlt:n < N:=by omega
   cases hs:t.slot (sq t.mask h n) with
   | empty=>exact absurd hs (hne n hlt)
   | dummy=>
    dsimp only
    rcases mO hN hne fuel (n+1) (t.advance {p with j:=sq t.mask h n,dummy:=some (sq t.mask h n)}) hlt (by omega) (nx _ (by unfold pc;rw [ej]) hlt) (by rw [f7];exact .inr ⟨n,by omega,rfl,hs⟩) with ⟨d,a,b,c⟩ | ⟨k,i,q,a,b,c,d,e',f,g,r⟩
    ·refine .inl ⟨d,a,b,fun m h5 h6 i h7=>?_⟩
     by_cases z:m=n
     ·subst z;rw [hs] at h7;cases h7
     ·exact c m (by omega) h6 i h7
    ·refine .inr ⟨k,i,q,a,by omega,c,d,e',f,g,fun m h5 h6 i h7=>?_⟩
     by_cases z:m=n
     ·subst z;rw [hs] at h7;cases h7
     ·exact r m (by omega) h6 i h7
   | live i=>
    dsimp only
    by_cases hh:hashAt i=h
    ·rw [if_pos (by simpa using hh)]
     refine .inr ⟨n,i,t.advance p,rfl,by omega,hlt,hs,hh,nx p rfl hlt,?_,fun m a b=>by omega⟩
     rw [f7]
     exact h4.mono (by omega)
    ·rw [if_neg (by simpa using hh)]
     rcases mO hN hne fuel (n+1) (t.advance p) hlt (by omega) (nx _ rfl hlt) (by rw [f7];exact h4.mono (by omega)) with ⟨d,a,b,c⟩ | ⟨k,i',q,a,b,c,d,e',f,g,r⟩
     ·refine .inl ⟨d,a,b,fun m h5 h6 i' h7=>?_⟩
      by_cases z:m=n
      ·subst z;rw [hs] at h7;cases h7;exact hh
      ·exact c m (by omega) h6 i' h7
     ·refine .inr ⟨k,i',q,a,by omega,c,d,e',f,g,fun m h5 h6 i' h7=>?_⟩
      by_cases z:m=n
      ·subst z;rw [hs] at h7;cases h7;exact hh
      ·exact r m (by omega) h6 i' h7
theorem qr {xs:Array Nat} (r:ka xs) {j x:Nat} (hj:j∈xs.toList):x∈(SetTable.eraseAt xs (SetTable.below xs j)).toList<->x∈xs.toList/\x≠j:=by
 have hb:=(fF r).mp hj
 obtain ⟨hl,e⟩:=Array.getElem?_eq_some_iff.mp hb
 have sp:xs.toList=xs.toList.take (SetTable.below xs j)++j::xs.toList.drop (SetTable.below xs j+1):=by
  have e1:=(List.take_append_drop (SetTable.below xs j) xs.toList).symm
  rw [List.drop_eq_getElem_cons (by simpa using hl)] at e1
  rw [Array.getElem_toList,e] at e1
  exact e1
 have se:(SetTable.eraseAt xs (SetTable.below xs j)).toList=xs.toList.take (SetTable.below xs j)++xs.toList.drop (SetTable.below xs j+1):=by
  unfold SetTable.eraseAt
  simp only [Array.toList_append,Array.toList_extract,List.extract_eq_take_drop,List.drop_zero,Nat.sub_zero]
  congr 1
  rw [List.take_of_length_le]
  simp
 have nd:xs.toList.Nodup:=List.Pairwise.imp (fun h=>Nat.ne_of_lt h) r
 rw [sp] at nd
 rw [se]
 have nd2:=(List.nodup_append.mp nd)
 have nd3:=List.nodup_cons.mp nd2.2.1
 constructor
 ·intro h
  refine ⟨by rw [sp];rcases List.mem_append.mp h with h | h;exact List.mem_append_left _ h;exact List.mem_append_right _ (List.mem_cons_of_mem _ h),fun z=>?_⟩
  subst z
  rcases List.mem_append.mp h with h | h
  ·exact nd2.2.2 x h x (List.mem_cons_self ..) rfl
  ·exact nd3.1 h
 ·rintro ⟨h,ne⟩
  rw [sp] at h
  rcases List.mem_append.mp h with h | h
  ·exact List.mem_append_left _ h
  ·rcases List.mem_cons.mp h with h | h
   ·exact absurd h ne
   ·exact List.mem_append_right _ h
theorem oj {α:Type} {xs:Array α} {p:Nat} (hp:p < xs.size):(SetTable.eraseAt xs p).size=xs.size - 1:=by
 unfold SetTable.eraseAt
 simp
 omega
theorem fP {α:Type} {xs:Array α} {p:Nat} {x:α}:(SetTable.insertAt xs p x).size=xs.size+1:=by
 have:=(SetTable.insertAt_perm xs p x).length_eq
 simpa using this
theorem om {α:Type} {xs:Array α} {p:Nat} {x y:α}:y∈(SetTable.insertAt xs p x).toList<->y=x\/y∈xs.toList:=by
 rw [(SetTable.insertAt_perm xs p x).mem_iff]
 simp [or_comm]
theorem oq {α:Type} {xs:Array α} {p:Nat} {x:α} (hp:p<=xs.size) (i:Nat):(SetTable.insertAt xs p x)[i]?=if i < p then xs[i]? else if i=p then some x else xs[i - 1]?:=by
 rw [<- Array.getElem?_toList,SetTable.toList_insertAt]
 have hl:(xs.toList.take p).length=p:=by simp;omega
 by_cases h1:i < p
 ·rw [if_pos h1,List.getElem?_append_left (by omega),List.getElem?_take_of_lt h1,Array.getElem?_toList]
 ·rw [if_neg h1,List.getElem?_append_right (by omega),hl]
  by_cases h2:i=p
  ·subst h2;simp
  ·rw [if_neg h2,show i - p=(i - p - 1)+1 by omega,List.getElem?_cons_succ,List.getElem?_drop,<- Array.getElem?_toList]
   congr 1
   omega
theorem qt {es:Array (Int×Value)} {t:SetTable} (T:Tab es t) {s:Nat} (hs:∀ i,t.slot s≠.live i) (x:Nat) (h:(t.put s).1.slot x=.empty):t.slot x=.empty:=by
 have hp:s∉t.place.toList:=fun z=>by
  have:=(fF T.rp).mp z
  exact hs _ ((iM T.rp).mpr this)
 have rp':ka (t.put s).1.place:=oh T.rp hp
 have rd':ka (t.put s).1.dummies:=by
  show ka (if SetTable.has t.dummies s=true then _ else _)
  split
  ·exact ql T.rd _
  ·exact T.rd
 rw [gH rp' rd'] at h
 rw [gH T.rp T.rd]
 obtain ⟨h1,h2⟩:=h
 have h1':x≠s/\x∉t.place.toList:=by
  have:x∉(SetTable.insertAt t.place (SetTable.below t.place s) s).toList:=h1
  rw [om,not_or] at this
  exact this
 refine ⟨h1'.2,fun z=>h2 ?_⟩
 show x∈(if SetTable.has t.dummies s=true then _ else _:Array Nat).toList
 split
 ·rename_i hd
  exact (qr T.rd ((gG T.rd).mp hd)).mpr ⟨z,h1'.1⟩
 ·exact z
structure pH (es:Array (Int×Value)) (t:SetTable):Prop where
 rp:ka t.place
 rd:ka t.dummies
 sz:t.place.size=es.size
 fl:t.fill<=t.mask
 bp:∀ j∈t.place.toList,j<=t.mask
 bd:∀ j∈t.dummies.toList,j<=t.mask
 dj:∀ j∈t.dummies.toList,j∉t.place.toList
 sm:sizeOk (t.mask+1)=true
 rc:∀ (i:Nat) (e:Int×Value) (j:Nat),es[i]?=some e->t.place[i]?=some j->∃ n,sq t.mask e.1 n=j/\∀ m,m < n->t.slot (sq t.mask e.1 m)≠.empty
theorem pH.fits {es:Array (Int×Value)} {t:SetTable} (T:pH es t):t.fits es.size=true:=by
 simp only [SetTable.fits,Bool.and_eq_true,beq_iff_eq,decide_eq_true_eq]
 exact ⟨T.sz,T.fl⟩
theorem pH.tab {es:Array (Int×Value)} {t:SetTable} (T:pH es t) (h:t.fill * 5 < t.mask * 3):Tab es t:=⟨T.rp,T.rd,T.sz,h,T.bp,T.bd,T.dj,T.sm,T.rc⟩
theorem pH.flags {es:Array (Int×Value)} {t t':SetTable} (T:pH es t) (h1:t'.mask=t.mask) (h2:t'.place=t.place) (h3:t'.dummies=t.dummies):pH es t':=by
 obtain ⟨a,b,c,d,e,f,l⟩:=t
 obtain ⟨a',b',c',d',e',f',l'⟩:=t'
 dsimp only at h1 h2 h3
 subst h1 h2 h3
 exact ⟨T.rp,T.rd,T.sz,T.fl,T.bp,T.bd,T.dj,T.sm,T.rc⟩
theorem Tab.EO {es:Array (Int×Value)} {t:SetTable} (T:Tab es t):pH es t:=⟨T.rp,T.rd,T.sz,by have:=T.tf;omega,T.bp,T.bd,T.dj,T.sm,T.rc⟩
theorem BO {es:Array (Int×Value)} {t:SetTable} (T:Tab es t) {s n:Nat} {h:Int} {x:Value} (hs:∀ i,t.slot s≠.live i) (hm:s<=t.mask) (hn:sq t.mask h n=s) (hp:∀ m,m < n->t.slot (sq t.mask h m)≠.empty) :
  pH (SetTable.insertAt es (t.put s).2 (h,x)) (t.put s).1/\(t.slot s=.dummy->(t.put s).1.fill=t.fill):=by
 have nip:s∉t.place.toList:=fun z=>by
  have:=(fF T.rp).mp z
  exact hs _ ((iM T.rp).mpr this)
 have rp':ka (t.put s).1.place:=oh T.rp nip
 have rd':ka (t.put s).1.dummies:=by
  show ka (if SetTable.has t.dummies s=true then _ else _)
  split
  ·exact ql T.rd _
  ·exact T.rd
 have mp:∀ y,y∈(t.put s).1.place.toList<->y=s\/y∈t.place.toList:=fun y=>om
 have md:∀ y,y∈(t.put s).1.dummies.toList->y∈t.dummies.toList/\y≠s:=fun y hy=>by
  have hy:y∈(if SetTable.has t.dummies s=true then SetTable.eraseAt t.dummies (SetTable.below t.dummies s) else t.dummies).toList:=hy
  split at hy
  ·rename_i hd
   exact (qr T.rd ((gG T.rd).mp hd)).mp hy
  ·rename_i hd
   exact ⟨hy,fun z=>hd ((gG T.rd).mpr (z▸hy))⟩
 have ple:SetTable.below t.place s<=t.place.size:=(fE T.rp s).2.2
 have psz:(t.put s).1.place.size=t.place.size+1:=fP
 have tf:=T.tf
 unfold SetTable.fill at tf
 have hmask:7<=t.mask:=by
  have h:=T.sm
  unfold sizeOk at h
  simp only [Bool.and_eq_true,beq_iff_eq,decide_eq_true_eq] at h
  omega
 have dsz:(t.put s).1.dummies.size<=t.dummies.size:=by
  show (if SetTable.has t.dummies s=true then SetTable.eraseAt t.dummies (SetTable.below t.dummies s) else t.dummies).size<=_
  split
  ·rename_i hd
   have hb:=(fF T.rd).mp ((gG T.rd).mp hd)
   rw [oj (Array.getElem?_eq_some_iff.mp hb).1]
   omega
  ·exact Nat.le_refl _
 refine ⟨⟨rp',rd',?_,?_,fun j hj=>?_,fun j hj=>T.bd j (md j hj).1,fun j hj hj'=>?_,T.sm,fun i e j hi hj=>?_⟩,fun hd=>?_⟩
 ·rw [psz,fP,T.sz]
 ·unfold SetTable.fill
  rw [psz]
  show t.place.size+1+(t.put s).1.dummies.size<=t.mask
  omega
 ·rcases (mp j).mp hj with rfl | hj
  ·exact hm
  ·exact T.bp j hj
 ·obtain ⟨d1,d2⟩:=md j hj
  rcases (mp j).mp hj' with z | z
  ·exact d2 z
  ·exact T.dj j d1 z
 ·have hj':(SetTable.insertAt t.place (SetTable.below t.place s) s)[i]?=some j:=hj
  have hi':(SetTable.insertAt es (SetTable.below t.place s) (h,x))[i]?=some e:=hi
  rw [oq ple] at hj'
  rw [oq (by rw [<- T.sz];exact ple)] at hi'
  have old:∀ i',es[i']?=some e->t.place[i']?=some j->∃ n,sq t.mask e.1 n=j/\∀ m,m < n->(t.put s).1.slot (sq t.mask e.1 m)≠.empty:=fun i' a b=>by
   obtain ⟨n',n1,n2⟩:=T.rc i' e j a b
   exact ⟨n',n1,fun m hm' z=>n2 m hm' (qt T hs _ z)⟩
  show ∃ n,sq t.mask e.1 n=j/\∀ m,m < n->(t.put s).1.slot (sq t.mask e.1 m)≠.empty
  by_cases h1:i < SetTable.below t.place s
  ·rw [if_pos h1] at hi' hj'
   exact old i hi' hj'
  ·rw [if_neg h1] at hi' hj'
   by_cases h2:i=SetTable.below t.place s
   ·rw [if_pos h2] at hi' hj'
    cases hi'
    cases hj'
    exact ⟨n,hn,fun m hm' z=>hp m hm' (qt T hs _ z)⟩
   ·rw [if_neg h2] at hi' hj'
    exact old _ hi' hj'
 ·have hd':=vh T.rp T.rd hd
  have hh:=(gG T.rd).mpr hd'
  unfold SetTable.fill
  rw [psz]
  have:(t.put s).1.dummies.size=t.dummies.size - 1:=by
   show (if SetTable.has t.dummies s=true then SetTable.eraseAt t.dummies (SetTable.below t.dummies s) else t.dummies).size=_
   rw [if_pos hh]
   exact oj (Array.getElem?_eq_some_iff.mp ((fF T.rd).mp hd')).1
  rw [this]
  have:0 < t.dummies.size:=by
   have:=List.length_pos_of_mem hd'
   simpa using this
  omega
end gp
namespace gp
open PySem
def tR (owner:Array (Option Nat)) (j:Nat):Prop:=(owner.getD j (some 0)).isNone=false
theorem kQ (mask:Nat):∀ (k:Nat) (c:Pc),k<=c.more->steps mask k c=⟨c.j+k,c.more - k,c.i,c.pt⟩
 | 0,c,_=>by simp [steps]
 | k+1,c,h=>by
  have e:step mask c=⟨c.j+1,c.more - 1,c.i,c.pt⟩:=by unfold step;rw [if_pos (by omega)]
  simp only [steps]
  rw [e,kQ mask k _ (by show k<=c.more - 1;omega)]
  simp only [Pc.mk.injEq,and_true]
  omega
theorem qu {mask:Nat} {owner:Array (Option Nat)}:∀ (fuel i pt:Nat),(∃ n,n < fuel/\¬ tR owner (dA mask n (cH mask i pt)).j) ->
  ∃ n,SetTable.layClean.free mask owner fuel i pt=some (steps mask n (cH mask i pt)).j/\¬ tR owner (steps mask n (cH mask i pt)).j/\∀ m,m < n->tR owner (steps mask m (cH mask i pt)).j
 | 0,i,pt,⟨n,hn,_⟩=>by omega
 | fuel+1,i,pt,⟨n,hn,hf⟩=>by
  have hre:SetTable.runEnd mask i+1 - i=(cH mask i pt).more+1:=by
   show _=SetTable.runEnd mask i - i+1
   have:i<=SetTable.runEnd mask i:=by unfold SetTable.runEnd;split<;>omega
   omega
  simp only [SetTable.layClean.free]
  rw [hre]
  cases hfi:(List.range ((cH mask i pt).more+1)).find? fun k=>(owner.getD (i+k) (some 0)).isNone with
  | some k=>
   dsimp only
   obtain ⟨h1,h2,h3⟩:=List.find?_range_eq_some.mp hfi
   have hk:k<=(cH mask i pt).more:=by have:=List.mem_range.mp h2;omega
   have es:∀ m,m<=k->(steps mask m (cH mask i pt)).j=i+m:=fun m hm=>by rw [kQ mask m _ (by omega)];rfl
   refine ⟨k,by rw [es k (Nat.le_refl _)],?_,fun m hm=>?_⟩
   ·rw [es k (Nat.le_refl _)];unfold tR;rw [h1];simp
   ·rw [es m (by omega)]
    have:=h3 m hm
    simpa [tR] using this
  | none=>
   dsimp only
   have h1:=List.find?_range_eq_none.mp hfi
   have occ:∀ m,m < (cH mask i pt).more+1->tR owner (steps mask m (cH mask i pt)).j:=fun m hm=>by
    rw [kQ mask m _ (by omega)]
    have:=h1 m hm
    show tR owner (i+m)
    simpa [tR] using this
   have hn0:n≠0:=fun z=>by
    subst z
    have:=occ 0 (by omega)
    exact hf this
   obtain ⟨n',rfl⟩:∃ n',n=n'+1:=⟨n - 1,by omega⟩
   have tl:=rH mask (cH mask i pt).more (cH mask i pt) rfl
   obtain ⟨q,q1,q2,q3⟩:=qu (mask:=mask) (owner:=owner) fuel (SetTable.leap mask i pt).1 (SetTable.leap mask i pt).2 ⟨n',by omega,hf⟩
   have es:∀ m,steps mask ((cH mask i pt).more+1+m) (cH mask i pt)=steps mask m (cH mask (SetTable.leap mask i pt).1 (SetTable.leap mask i pt).2):=fun m=>by
    rw [iN,tl]
    rfl
   refine ⟨(cH mask i pt).more+1+q,by rw [es];exact q1,by rw [es];exact q2,fun m hm=>?_⟩
   by_cases hmm:m < (cH mask i pt).more+1
   ·exact occ m hmm
   ·have:=q3 (m - ((cH mask i pt).more+1)) (by omega)
    rw [<- es] at this
    rw [show m=(cH mask i pt).more+1+(m - ((cH mask i pt).more+1)) by omega]
    exact this
def bR (mask:Nat) (owner:Array (Option Nat)):List (Nat×Nat):=(List.range (mask+1)).filterMap fun j=>(owner.getD j none).map (j,·)
theorem tS {α β:Type} {f g:α->Option β}:∀ {l:List α},(∀ x∈l,g x=f x)->l.filterMap g=l.filterMap f
 | [],_=>rfl
 | a::l,h=>by
  have ih:=tS (l:=l) fun x hx=>h x (List.mem_cons_of_mem _ hx)
  rw [List.filterMap_cons,List.filterMap_cons,h a (List.mem_cons_self ..),ih]
theorem zN {α β:Type} {f g:α->Option β} {j:α} {v:β} (hf:f j=none) (hg:g j=some v):∀ {l:List α},l.Nodup->j∈l->(∀ x∈l,x≠j->f x=g x)->List.Perm (l.filterMap g) (v::l.filterMap f)
 | [],_,h,_=>by simp at h
 | a::l,nd,h,e=>by
  obtain ⟨n1,n2⟩:=List.nodup_cons.mp nd
  by_cases z:a=j
  ·subst z
   rw [List.filterMap_cons_some hg,List.filterMap_cons_none hf]
   have:l.filterMap g=l.filterMap f:=tS fun x hx=>(e x (List.mem_cons_of_mem _ hx) (fun q=>n1 (q▸hx))).symm
   rw [this]
  ·have hj:j∈l:=by
    rcases List.mem_cons.mp h with q | q
    ·exact absurd q.symm z
    ·exact q
   have ih:=zN hf hg n2 hj fun x hx=>e x (List.mem_cons_of_mem _ hx)
   have ea:=e a (List.mem_cons_self ..) z
   cases hfa:f a with
   | none=>rw [List.filterMap_cons_none (by rw [<- ea];exact hfa),List.filterMap_cons_none hfa];exact ih
   | some b=>
    rw [List.filterMap_cons_some (by rw [<- ea];exact hfa),List.filterMap_cons_some hfa]
    exact (ih.cons b).trans (.swap _ _ _)
structure Own (mask:Nat) (hs:List Int) (js:List Nat) (owner:Array (Option Nat)):Prop where
 sz:owner.size=mask+1
 ln:js.length=hs.length
 lv:List.Perm (bR mask owner) (js.zip (List.range hs.length))
 rc:∀ (k:Nat) (h:Int) (j:Nat),hs[k]?=some h->js[k]?=some j->∃ n,sq mask h n=j/\∀ m,m < n->tR owner (sq mask h m)
def BP (mask:Nat) (acc:Option (Array (Option Nat)×Nat)) (h:Int):Option (Array (Option Nat)×Nat):=do
    let (owner,k) <- acc
    let j <- SetTable.layClean.free mask owner (SetTable.turns mask) (SetTable.bits h % (mask+1)) (SetTable.bits h)
    pure (owner.setIfInBounds j (some k),k+1)
theorem zO {mask:Nat} (hm:sizeOk (mask+1)=true) {hs:List Int} {js:List Nat} {owner:Array (Option Nat)} (O:Own mask hs js owner) (hl:hs.length<=mask) (h:Int) :
  ∃ j owner',BP mask (some (owner,hs.length)) h=some (owner',hs.length+1)/\Own mask (hs++[h]) (js++[j]) owner':=by
 have occ_iff:∀ j,tR owner j<->owner[j]?≠some none:=fun j=>by
  unfold tR
  rw [Array.getD_eq_getD_getElem?]
  cases owner[j]? with
  | none=>simp
  | some o=>cases o<;>simp
 have hfree:∃ e,e<=mask/\¬ tR owner e:=by
  apply Classical.byContradiction
  intro z
  have hp:=vj (mask+1) ((bR mask owner).map (·.1)) fun e he=>by
   have ho:tR owner e:=Classical.byContradiction fun q=>z ⟨e,by omega,q⟩
   rw [occ_iff] at ho
   have hlt:e < owner.size:=by rw [O.sz];exact he
   rw [Array.getElem?_eq_getElem hlt] at ho
   cases hv:owner[e] with
   | none=>rw [hv] at ho;exact absurd rfl ho
   | some k=>
    refine List.mem_map.mpr ⟨(e,k),List.mem_filterMap.mpr ⟨e,List.mem_range.mpr he,?_⟩,rfl⟩
    simp [Array.getD,hlt,hv]
  rw [List.length_map,O.lv.length_eq,List.length_zip,O.ln] at hp
  simp at hp
  omega
 obtain ⟨e,he,hne⟩:=hfree
 obtain ⟨n,hn,en⟩:=qq hm (c:=c0 mask h) (wQ h) he
 obtain ⟨q,q1,q2,q3⟩:=qu (mask:=mask) (owner:=owner) (SetTable.turns mask) (SetTable.bits h % (mask+1)) (SetTable.bits h) ⟨n+1,by unfold SetTable.turns;omega,by
  have:(dA mask (n+1) (cH mask (SetTable.bits h % (mask+1)) (SetTable.bits h))).j=e:=en
  rw [this];exact hne⟩
 generalize hj:(steps mask q (cH mask (SetTable.bits h % (mask+1)) (SetTable.bits h))).j=j at q1 q2
 have hjn:owner[j]?=some none:=Classical.byContradiction fun z=>q2 ((occ_iff j).mpr z)
 have hjl:j < owner.size:=(Array.getElem?_eq_some_iff.mp hjn).1
 have get':∀ x,(owner.setIfInBounds j (some hs.length))[x]?=if x=j then some (some hs.length) else owner[x]?:=fun x=>by
  rw [Array.getElem?_setIfInBounds]
  by_cases z:j=x
  ·subst z;simp [hjl]
  ·rw [if_neg z,if_neg (fun q=>z q.symm)]
 have occ':∀ x,tR owner x->tR (owner.setIfInBounds j (some hs.length)) x:=fun x hx=>by
  unfold tR at hx ⊢
  rw [Array.getD_eq_getD_getElem?] at hx ⊢
  rw [get']
  by_cases z:x=j
  ·rw [if_pos z];rfl
  ·rw [if_neg z];exact hx
 refine ⟨j,owner.setIfInBounds j (some hs.length),?_,⟨by simp [O.sz],by simp [O.ln],?_,fun k h' j' a b=>?_⟩⟩
 ·unfold BP
  simp only [Option.bind_eq_bind,Option.bind_some]
  rw [q1]
  rfl
 ·have hp:List.Perm (bR mask (owner.setIfInBounds j (some hs.length))) ((j,hs.length)::bR mask owner):=by
   refine zN (j:=j) ?_ ?_ List.nodup_range (List.mem_range.mpr (by rw [<- O.sz];exact hjl)) fun x _ hx=>?_
   ·rw [Array.getD_eq_getD_getElem?,hjn];rfl
   ·rw [Array.getD_eq_getD_getElem?,get',if_pos rfl];rfl
   ·rw [Array.getD_eq_getD_getElem?,Array.getD_eq_getD_getElem?,get',if_neg hx]
  refine hp.trans ((O.lv.cons _).trans ?_)
  rw [List.length_append,List.length_singleton,List.range_succ,List.zip_append (by simp [O.ln])]
  exact (List.perm_append_singleton _ _).symm
 ·by_cases z:k < hs.length
  ·rw [List.getElem?_append_left z] at a
   rw [List.getElem?_append_left (by rw [O.ln];exact z)] at b
   obtain ⟨n',n1,n2⟩:=O.rc k h' j' a b
   exact ⟨n',n1,fun m hm'=>occ' _ (n2 m hm')⟩
  ·have hk:k=hs.length:=by
    have:=(List.getElem?_eq_some_iff.mp a).1
    simp at this
    omega
   subst hk
   rw [List.getElem?_append_right (Nat.le_refl _)] at a
   rw [<- O.ln,List.getElem?_append_right (Nat.le_refl _)] at b
   simp at a b
   subst a
   subst b
   exact ⟨q,hj,fun m hm'=>occ' _ (q3 m hm')⟩
theorem wR {mask:Nat} (hm:sizeOk (mask+1)=true):∀ (hs2 hs:List Int) (js:List Nat) (owner:Array (Option Nat)),Own mask hs js owner->(hs++hs2).length<=mask+1 ->
  ∃ js' owner',hs2.foldl (BP mask) (some (owner,hs.length))=some (owner',(hs++hs2).length)/\Own mask (hs++hs2) js' owner'
 | [],hs,js,owner,O,_=>⟨js,owner,by simp,by simpa using O⟩
 | h::hs2,hs,js,owner,O,hl=>by
  obtain ⟨j,owner',e,O'⟩:=zO hm O (by simp at hl;omega) h
  obtain ⟨js',owner2,e2,O2⟩:=wR hm hs2 (hs++[h]) _ _ O' (by simpa using hl)
  refine ⟨js',owner2,?_,by simpa using O2⟩
  rw [List.foldl_cons,e]
  simpa using e2
end gp
namespace gp
open PySem
theorem tT (mask:Nat) (hashes:Array Int):SetTable.layClean mask hashes=(hashes.toList.foldl (BP mask) (some (Array.replicate (mask+1) none,0))).map (·.1):=by
 unfold SetTable.layClean
 rw [<- Array.foldl_toList]
 rfl
theorem BQ (mask:Nat):Own mask [] [] (Array.replicate (mask+1) none):=by
 refine ⟨by simp,rfl,?_,fun k h j a=>by simp at a⟩
 have:bR mask (Array.replicate (mask+1) none)=[]:=by
  unfold bR
  rw [List.filterMap_eq_nil_iff]
  intro j _
  rw [Array.getD_eq_getD_getElem?,Array.getElem?_replicate]
  split<;>rfl
 rw [this]
 exact .nil
theorem vm {α:Type} {es:Array α}:∀ {l:List (Nat×Nat)},(∀ p∈l,p.2 < es.size)->((l.map (·.2)).filterMap (fun k=>es[k]?)).length=l.length/\∀ (i:Nat) (p:Nat×Nat),l[i]?=some p->((l.map (·.2)).filterMap (fun k=>es[k]?))[i]?=es[p.2]?
 | [],_=>⟨rfl,fun i p h=>by simp at h⟩
 | a::l,h=>by
  obtain ⟨h1,h2⟩:=vm (l:=l) fun p hp=>h p (List.mem_cons_of_mem _ hp)
  have ha:=h a (List.mem_cons_self ..)
  rw [List.map_cons,List.filterMap_cons_some (Array.getElem?_eq_getElem ha)]
  refine ⟨by rw [List.length_cons,h1,List.length_cons],fun i p hi=>?_⟩
  cases i with
  | zero=>simp at hi;subst hi;simp
  | succ i=>simpa using h2 i p (by simpa using hi)
theorem wU {es:Array (Int×Value)} {mask:Nat} (hm:sizeOk (mask+1)=true) (hn:es.size * 5 < mask * 3) (finger moves:Nat) (led plain:Bool) :
  ∃ t' order,SetTable.laid mask finger moves led plain (es.map (·.1))=some (t',order)/\Tab (order.filterMap (es[·]?)) t'/\List.Perm (order.filterMap (es[·]?)).toList es.toList/\t'.mask=mask/\t'.led=led/\List.Perm order.toList (List.range es.size):=by
 obtain ⟨js,owner,e,O⟩:=wR hm (es.map (·.1)).toList [] [] _ (BQ mask) (by simp;omega)
 simp only [List.nil_append,List.length_nil] at e O
 have hlen:(es.map (·.1)).toList.length=es.size:=by simp
 have hsnd:List.Perm ((bR mask owner).map (·.2)) (List.range es.size):=by
  have:=O.lv.map (·.2)
  rw [hlen] at this
  refine this.trans ?_
  rw [List.map_snd_zip (by rw [O.ln,hlen];simp)]
 have hbelow:∀ p∈bR mask owner,p.2 < es.size:=fun p hp=>by
  have:=hsnd.mem_iff.mp (List.mem_map.mpr ⟨p,hp,rfl⟩)
  exact List.mem_range.mp this
 obtain ⟨g1,g2⟩:=vm (es:=es) hbelow
 have hfst:((bR mask owner).map (·.1)).Pairwise (· < ·):=by
  rw [List.pairwise_map]
  unfold bR
  rw [List.pairwise_filterMap]
  refine List.Pairwise.imp ?_ List.pairwise_lt_range
  intro a b hab x hx y hy
  rw [Option.map_eq_some_iff] at hx hy
  obtain ⟨_,_,rfl⟩:=hx
  obtain ⟨_,_,rfl⟩:=hy
  exact hab
 have hmem:∀ p∈bR mask owner,p.1<=mask/\owner.getD p.1 none=some p.2:=fun p hp=>by
  obtain ⟨j,hj,ej⟩:=List.mem_filterMap.mp hp
  rw [Option.map_eq_some_iff] at ej
  obtain ⟨k,hk,rfl⟩:=ej
  exact ⟨by have:=List.mem_range.mp hj;omega,hk⟩
 refine ⟨{mask,place:=((bR mask owner).map (·.1)).toArray,dummies:=#[],finger,led,moves,plain},((bR mask owner).map (·.2)).toArray,?_,?_,?_,rfl,rfl,by simpa using hsnd⟩
 ·unfold SetTable.laid
  rw [tT,e]
  rfl
 ·have efm:((((bR mask owner).map (·.2)).toArray.filterMap (es[·]?)):Array _)=(((bR mask owner).map (·.2)).filterMap (fun k=>es[k]?)).toArray:=by simp
  have llen:(bR mask owner).length=es.size:=by
   have:=hsnd.length_eq
   simpa using this
  refine ⟨hfst,List.Pairwise.nil,?_,?_,fun j hj=>?_,fun j hj=>by simp at hj,fun j hj=>by simp at hj,hm,fun i e' j h1 h2=>?_⟩
  ·rw [efm,List.size_toArray,List.size_toArray,g1,List.length_map]
  ·show (((bR mask owner).map (·.1)).toArray.size+0) * 5 < mask * 3
   simp only [List.size_toArray,List.length_map,llen,Nat.add_zero]
   exact hn
  ·obtain ⟨p,hp,rfl⟩:=List.mem_map.mp (by simpa using hj:j∈(bR mask owner).map (·.1))
   exact (hmem p hp).1
  ·rw [efm] at h1
   have h2':((bR mask owner).map (·.1))[i]?=some j:=by simpa using h2
   rw [List.getElem?_map,Option.map_eq_some_iff] at h2'
   obtain ⟨p,hp,rfl⟩:=h2'
   have h1':(((bR mask owner).map (·.2)).filterMap (fun k=>es[k]?))[i]?=some e':=by simpa using h1
   rw [g2 i p hp] at h1'
   have pm:=List.mem_of_getElem? hp
   have pz:=O.lv.mem_iff.mp pm
   rw [hlen] at pz
   obtain ⟨k,hk,ek⟩:=List.getElem_of_mem pz
   rw [List.getElem_zip] at ek
   simp only [List.getElem_range] at ek
   have ek1:js[k]?=some p.1:=by
    rw [<- congrArg Prod.fst ek]
    exact List.getElem?_eq_getElem _
   have ek2:p.2=k:=(congrArg Prod.snd ek).symm
   obtain ⟨n,n1,n2⟩:=O.rc k e'.1 p.1 (by simp only [Array.toList_map,List.getElem?_map,Array.getElem?_toList];rw [<- ek2,h1'];rfl) ek1
   refine ⟨n,n1,fun m hm' z=>?_⟩
   have oc:=n2 m hm'
   have z':SetTable.slot {mask,place:=((bR mask owner).map (·.1)).toArray,dummies:=#[],finger,led,moves,plain} (sq mask e'.1 m)=.empty:=z
   rw [gH (t:={mask,place:=((bR mask owner).map (·.1)).toArray,dummies:=#[],finger,led,moves,plain}) hfst List.Pairwise.nil] at z'
   by_cases hin:sq mask e'.1 m < owner.size
   ·unfold tR at oc
    rw [Array.getD_eq_getD_getElem?,Array.getElem?_eq_getElem hin] at oc
    simp only [Option.getD_some] at oc
    cases hv:owner[sq mask e'.1 m] with
    | none=>rw [hv] at oc;simp at oc
    | some k'=>
     refine z'.1 ?_
     have:sq mask e'.1 m∈(bR mask owner).map (·.1):=List.mem_map.mpr ⟨(sq mask e'.1 m,k'),List.mem_filterMap.mpr ⟨_,List.mem_range.mpr (by rw [<- O.sz];exact hin),by simp [Array.getD,hin,hv]⟩,rfl⟩
     simpa using this
   ·exfalso
    have bound:∀ q (c:Pc),c.j+c.more<=mask->(steps mask q c).j+(steps mask q c).more<=mask:=by
     intro q
     induction q with
     | zero=>intro c hc;exact hc
     | succ q ih=>
      intro c hc
      simp only [steps]
      refine ih _ ?_
      unfold step
      split
      ·show c.j+1+(c.more - 1)<=mask
       omega
      ·show (SetTable.leap mask c.i c.pt).1+(SetTable.runEnd mask (SetTable.leap mask c.i c.pt).1 - (SetTable.leap mask c.i c.pt).1)<=mask
       have:(SetTable.leap mask c.i c.pt).1 < mask+1:=Nat.mod_lt _ (by omega)
       unfold SetTable.runEnd
       split<;>omega
    have hb:=bound m (c0 mask e'.1) (by
     show SetTable.bits e'.1 % (mask+1)+(SetTable.runEnd mask (SetTable.bits e'.1 % (mask+1)) - SetTable.bits e'.1 % (mask+1))<=mask
     have:SetTable.bits e'.1 % (mask+1) < mask+1:=Nat.mod_lt _ (by omega)
     unfold SetTable.runEnd
     split<;>omega)
    have:sq mask e'.1 m<=mask:=by unfold sq;omega
    rw [O.sz] at hin
    omega
 ·rw [Array.toList_filterMap]
  refine (hsnd.filterMap _).trans ?_
  rw [filterMap_getElem?_range]
theorem gI:∀ n,n < 1024->(n < SetTable.sizeAbove n/\SetTable.sizeAbove n∈[8,16,32,64,128,256,512,1024]):=by decide +kernel
theorem xX {m:Nat} (h:m∈[8,16,32,64,128,256,512,1024]):sizeOk m=true:=by
 obtain ⟨a,b,c,d,e,f,g,i⟩:=CZ
 simp only [List.mem_cons,List.not_mem_nil,or_false] at h
 rcases h with h | h | h | h | h | h | h | h<;>(rw [h];assumption)
theorem xY {es:Array (Int×Value)} {t:SetTable} {wanted:Nat} (hw:wanted < 1024) (hn:es.size * 5 < wanted * 3\/es.size<=4) :
  ∃ t' order,t.relaid (es.map (·.1)) wanted=some (t',order)/\Tab (order.filterMap (es[·]?)) t'/\List.Perm (order.filterMap (es[·]?)).toList es.toList/\t'.led=t.led/\List.Perm order.toList (List.range es.size)/\t'.mask+1=SetTable.sizeAbove wanted/\SetTable.sizeAbove wanted<=1024:=by
 obtain ⟨h1,h2⟩:=gI wanted hw
 have h8:8<=SetTable.sizeAbove wanted:=by
  simp only [List.mem_cons,List.not_mem_nil,or_false] at h2
  omega
 have e:SetTable.sizeAbove wanted - 1+1=SetTable.sizeAbove wanted:=by omega
 obtain ⟨t',order,a,b,c,d,f,g⟩:=wU (es:=es) (mask:=SetTable.sizeAbove wanted - 1) (by rw [e];exact xX h2) (by omega) t.finger (t.movedTo (SetTable.sizeAbove wanted - 1)) t.led t.plain
 exact ⟨t',order,a,b,c,f,g,by rw [d,e],by simp only [List.mem_cons,List.not_mem_nil,or_false] at h2;omega⟩
end gp
namespace gp
open PySem PySem.Spec L2 Ml
structure El (vp:Value->Prop) (w:World) (h:Heap) (md:Bool) (e:Int×Value) (d:PyData):Prop where
 tr:ai d=true
 dp:d.depth<=8
 so:cg d=true
 hs:e.1=lr w d
 kd:dU d=md
 rd:∃ as,Reads h e.2 d as
 vl:vp e.2
abbrev aV (es:Array (Int×Value)) (ep:Nat) (t:SetTable):Obj:={cls:=.type "set",dict:=none,data:=.set es ep t,slots:=#[]}
abbrev bS (w:World):Bool:=w.params.followText "set-order"
structure bT (vp:Value->Prop) (w:World) (h:Heap) (a:Addr) (md:Bool) (ds:List PyData) (es:Array (Int×Value)) (ep:Nat) (t:SetTable):Prop where
 ob:h.get? a=some (aV es ep t)
 tb:Tab es t
 ld:t.led=true\/bS w=true
 nd:ds.Nodup
 ln:ds.length<=120
 el:Paired (El vp w h md) es.toList ds
def bB (vp:Value->Prop) (w:World) (h:Heap) (a:Addr) (md:Bool) (ds:List PyData):Prop:=∃ es ep t,bT vp w h a md ds es ep t
theorem El.keep {vp:Value->Prop} {w:World} {h h':Heap} {md:Bool} {e:Int×Value} {d:PyData} (x:El vp w h md e d) (k:∀ b o vs n,h.get? b=some o->o.cls=.type "tuple" -> o.data=.seq vs n->h'.get? b=some o):El vp w h' md e d:=
 ⟨x.tr,x.dp,x.so,x.hs,x.kd,let ⟨as,r⟩:=x.rd;⟨as,gk k x.tr r⟩,x.vl⟩
theorem bT.size {vp:Value->Prop} {w:World} {h:Heap} {a:Addr} {md:Bool} {ds:List PyData} {es:Array (Int×Value)} {ep:Nat} {t:SetTable} (S:bT vp w h a md ds es ep t):es.size=ds.length:=by
 have:=Paired.length S.el
 simpa using this
theorem du {α β:Type} {R:α->β->Prop}:∀ {xs:List α} {ys:List β},Paired R xs ys->∀ {i:Nat} {x:α},xs[i]?=some x->∃ y,ys[i]?=some y/\R x y
 | _,_,.nil,i,x,h=>by simp at h
 | _,_,.cons r _,0,x,h=>by simp at h;subst h;exact ⟨_,rfl,r⟩
 | _,_,.cons _ t,i+1,x,h=>by simpa using du t (i:=i) (by simpa using h)
theorem fQ {α β:Type} {R:α->β->Prop}:∀ {xs:List α} {ys:List β},Paired R xs ys->∀ {i:Nat} {y:β},ys[i]?=some y->∃ x,xs[i]?=some x/\R x y
 | _,_,.nil,i,x,h=>by simp at h
 | _,_,.cons r _,0,x,h=>by simp at h;subst h;exact ⟨_,rfl,r⟩
 | _,_,.cons _ t,i+1,x,h=>by simpa using fQ t (i:=i) (by simpa using h)
theorem bT.get {vp:Value->Prop} {w:World} {h:Heap} {a:Addr} {md:Bool} {ds:List PyData} {es:Array (Int×Value)} {ep:Nat} {t:SetTable} (S:bT vp w h a md ds es ep t) {i:Nat} {e:Int×Value} (he:es[i]?=some e):∃ d,ds[i]?=some d/\El vp w h md e d:=by
 rw [<- Array.getElem?_toList] at he
 exact du S.el he
section
variable {P:Program} {w:World} {A:Around} {E:Value->Shared->Prop} {s:Shared} {vp:Value->Prop}
theorem Gk {md md':Bool} {e e':Int×Value} {d d':PyData} (x:El vp w s.heap md e d) (y:El vp w s.heap md' e' d') (hu:A.units+20 < cLine) {Q:Bool->Shared->Prop} (h:Q (decide (d=d')) s):wpAny (model P w) A (eqBool e.2 e'.2) Q E s:=by
 obtain ⟨as,r1⟩:=x.rd
 obtain ⟨bs,r2⟩:=y.rd
 have hq:PyData.eqv d d'=decide (d=d'):=by
  by_cases z:d=d'
  ·subst z;rw [decide_eq_true rfl];exact aH (aL x.tr)
  ·rw [decide_eq_false z];exact aR (aL x.tr) (aL y.tr) z
 have:=SeqAt.eqAt_reads d d' A s _ _ _ _ r1 r2 (fZ x.so (dy (aL x.tr))) (fZ y.so (dy (aL y.tr))) (by have:=x.dp;omega) P w E Q
 rw [hq] at this
 exact this h
mutual
theorem ic:∀ (d:PyData) (n:Nat) (A:Around) (s:Shared) (v:Value) (as:List Addr) (Q:Bool->Shared->Prop) (E:Value->Shared->Prop),ai d=true->d.depth<=n->Reads s.heap v d as->Q false s->wpAny (model P w) A (ofAClassStatement n v) Q E s
 | .str x,n,A,s,v,as,Q,E,_,_,r,h=>by
  cases r
  unfold ofAClassStatement
  exact wpAny_pure h
 | .tuple ds,n,A,s,v,as,Q,E,t,hn,r,h=>by
  cases r with
  | tuple ho hc hd hi=>
   rename_i a o items k
   have hT:s.TypeIs (.ref a) "tuple" := ⟨o,ho,hc⟩
   simp only [ai] at t
   simp only [PyData.depth] at hn
   obtain ⟨m,rfl⟩:∃ m,n=m+1:=⟨n - 1,by omega⟩
   unfold ofAClassStatement
   refine wpAny_bind (wpAny_typeOf hT ?_)
   show wpAny _ _ (if ("tuple" == "tuple")=true then _ else _) _ _ s
   rw [if_pos (by decide)]
   refine wpAny_bind (wpAny_pure ?_)
   simp only [Bool.not_true,Bool.false_eq_true,if_false]
   refine wpAny_bind (wpAny_seqItems ho hd ?_)
   refine wpAny_bind ?_
   show wpAny _ _ (forIn items _ _) _ _ s
   rw [<- Array.forIn_toList]
   refine jb ds m A s items.toList _ _ E _ t (by omega) hi ?_ ?_
   ·intro x s' R k
    refine wpAny_bind (wpAny_mono k (fun c s2 q=>?_) fun _ _ z=>z)
    obtain ⟨rfl,q⟩:=q
    simp only [Bool.false_eq_true,if_false]
    exact wpAny_pure q
   ·exact wpAny_pure h
 | .none,_,_,_,_,_,_,_,t,_,_,_=>by simp [ai] at t
 | .bool _,_,_,_,_,_,_,_,t,_,_,_=>by simp [ai] at t
 | .int _,_,_,_,_,_,_,_,t,_,_,_=>by simp [ai] at t
 | .list _,_,_,_,_,_,_,_,t,_,_,_=>by simp [ai] at t
 | .dict _,_,_,_,_,_,_,_,t,_,_,_=>by simp [ai] at t
theorem jb:∀ (ds:List PyData) (n:Nat) (A:Around) (s:Shared) (vs:List Value) (as:List Addr) (R:Option Bool×Unit->Shared->Prop) (E:Value->Shared->Prop) (body:Value->Option Bool×Unit->Sem (ForInStep (Option Bool×Unit))),aK ds=true->PyData.depthAll ds<=n->ReadsAll s.heap vs ds as ->
  (∀ (x:Value) (s':Shared) (R':ForInStep (Option Bool×Unit)->Shared->Prop),wpAny (model P w) A (ofAClassStatement n x) (fun c s2=>c=false/\R' (.yield (none,())) s2) E s'->wpAny (model P w) A (body x (none,())) R' E s') ->
  R (none,()) s->wpAny (model P w) A (forIn vs (none,()) body) R E s
 | [],n,A,s,_,_,R,E,body,_,_,.nil,hb,h=>by
  rw [List.forIn_nil]
  exact wpAny_pure h
 | d::ds,n,A,s,_,_,R,E,body,t,hn,.cons r1 r2,hb,h=>by
  simp only [aK,Bool.and_eq_true] at t
  simp only [PyData.depthAll] at hn
  rw [List.forIn_cons]
  refine wpAny_bind (hb _ _ _ (ic d n A s _ _ _ E t.1 (by omega) r1 ⟨rfl,?_⟩))
  exact jb ds n A s _ _ R E body t.2 (by omega) r2 hb h
end
theorem qv {body:Value->Option Bool×Unit->Sem (ForInStep (Option Bool×Unit))} {G:Value->Prop} {R:Option Bool×Unit->Shared->Prop} (hb:∀ y,G y->∀ R':ForInStep (Option Bool×Unit)->Shared->Prop,R' (.yield (none,())) s->wpAny (model P w) A (body y (none,())) R' E s) :
  ∀ ys:List Value,(∀ y∈ys,G y)->R (none,()) s->wpAny (model P w) A (forIn ys (none,()) body) R E s
 | [],_,h=>by
  rw [List.forIn_nil]
  exact wpAny_pure h
 | y::ys,g,h=>by
  rw [List.forIn_cons]
  refine wpAny_bind (hb y (g y (List.mem_cons_self ..)) _ ?_)
  exact qv hb ys (fun z hz=>g z (List.mem_cons_of_mem _ hz)) h
theorem zP {md:Bool} {x:Value} {h0:Int} {d:PyData} (hx:El vp w s.heap md (h0,x) d) {Q:Bool->Shared->Prop} (hq:Q false s) (ys:List Value) (hys:∀ y∈ys,∃ h1 d1,El vp w s.heap md (h1,y) d1):wpAny (model P w) A (searchCouldBeSeen x ys) Q E s:=by
 unfold searchCouldBeSeen
 refine wpAny_bind (qv (G:=fun y=>∃ h1 d1,El vp w s.heap md (h1,y) d1) (fun y gy R' hR=>?_) ys hys (wpAny_pure hq))
 obtain ⟨h1,d1,hy⟩:=gy
 obtain ⟨as,r1⟩:=hx.rd
 obtain ⟨bs,r2⟩:=hy.rd
 dsimp only
 refine wpAny_ite_split (fun _=>wpAny_pure hR) fun _=>?_
 ·skip
  refine wpAny_bind (fO d 8 A s x as _ E hx.tr hx.dp r1 ?_)
  simp only [Bool.not_true,Bool.false_eq_true,if_false]
  refine wpAny_bind (fO d1 8 A s y bs _ E hy.tr hy.dp r2 ?_)
  simp only [Bool.not_true,Bool.false_eq_true,if_false]
  refine wpAny_bind (ic d 8 A s x as _ E hx.tr hx.dp r1 ?_)
  simp only [Bool.false_eq_true,if_false]
  refine wpAny_bind (ic d1 8 A s y bs _ E hy.tr hy.dp r2 ?_)
  simp only [Bool.false_eq_true,if_false]
  exact wpAny_pure hR
theorem tU {h:Heap} {e:Int×Value} {d:PyData} (x:El vp w h true e d):isSame e.2 e.2=pure true:=by
 obtain ⟨as,r⟩:=x.rd
 have k:=x.kd
 obtain ⟨e1,v⟩:=e
 dsimp only at r ⊢
 cases r with
 | tuple=>simp [isSame]
 | _=>simp [dU] at k
def Fe (es:Array (Int×Value)) (i:Nat):Int:=(es[i]?.map (·.1)).getD 0
theorem bF {a:Addr} {es:Array (Int×Value)} {ep:Nat} {t:SetTable} {Q:(Array (Int×Value)×Nat×SetTable)->Shared->Prop} (ho:s.heap.get? a=some (aV es ep t)) (hf:t.fits es.size=true) (h:Q (es,ep,t) s):wpAny (model P w) A (setState a) Q E s:=wpAny_setState_of ho rfl hf h
def cb (t:SetTable) (h:Int) (slot:Nat) (wd:Bool):Prop:=(t.slot slot=if wd=true then .dummy else .empty)/\∃ n,sq t.mask h n=slot/\∀ m,m < n->t.slot (sq t.mask h m)≠.empty
theorem tV {a:Addr} {ds:List PyData} {es:Array (Int×Value)} {ep:Nat} {t:SetTable} {x:Value} {h0:Int} {d:PyData} {adding:Bool} (S:bT vp w s.heap a true ds es ep t) (hx:El vp w s.heap true (h0,x) d) (hu:A.units+20 < cLine)
  {N:Nat} (hN:t.slot (sq t.mask h0 N)=.empty) (hne:∀ m,m < N->t.slot (sq t.mask h0 m)≠.empty) (hNl:N < 10 * SetTable.turns t.mask) {Q:SetFound->Shared->Prop}
  (q1:d∉ds->∀ slot wd,cb t h0 slot wd->Q (.free slot wd) s) (q2:d∈ds->∀ i,ds[i]?=some d->Q (.there (if adding=true then none else some i)) s) :
  ∀ (fuel n:Nat) (st:Option SetTable.Probe),n<=N->N - n < fuel->pc (st.getD (t.probeStart h0))=steps t.mask n (c0 t.mask h0)->Dm t h0 n (st.getD (t.probeStart h0)).dummy ->
   (∀ m,m < n->∀ i,t.slot (sq t.mask h0 m)=.live i->ds[i]?≠some d)->wpAny (model P w) A (setSearchFrom a x h0 adding fuel st) Q E s
 | 0,n,st,h1,h2,h3,h4,h5=>by omega
 | fuel+1,n,st,h1,h2,h3,h4,h5=>by
  have T:=S.tb
  have hsh:∀ (i:Nat) (e:Int×Value),es[i]?=some e->Fe es i=e.1:=fun i e he=>by unfold Fe;rw [he];rfl
  have hlive:∀ (j i:Nat),t.slot j=.live i->∃ e d',es[i]?=some e/\ds[i]?=some d'/\El vp w s.heap true e d':=fun j i hl=>by
   have hp:=(iM T.rp).mp hl
   have hi:i < es.size:=by rw [<- T.sz];exact (Array.getElem?_eq_some_iff.mp hp).1
   obtain ⟨d',h1,h2⟩:=S.get (Array.getElem?_eq_getElem hi)
   exact ⟨es[i],d',Array.getElem?_eq_getElem hi,h1,h2⟩
  have hdiff:∀ (m i:Nat),t.slot (sq t.mask h0 m)=.live i->Fe es i≠h0->ds[i]?≠some d:=fun m i hl hh z=>by
   obtain ⟨e,d',e1,e2,e3⟩:=hlive _ i hl
   rw [e2] at z
   cases z
   rw [hsh i e e1,e3.hs] at hh
   exact hh hx.hs.symm
  unfold setSearchFrom
  refine wpAny_bind (bF S.ob T.fits ?_)
  dsimp only
  rw [T.odd]
  simp only [Bool.false_eq_true,if_false]
  have hg:=mO (hashAt:=Fe es) hN hne (10 * SetTable.turns t.mask) n (st.getD (t.probeStart h0)) h1 (by omega) h3 h4
  have hpr:∀ met,SetTable.probe.go t (Fe es) h0 (10 * SetTable.turns t.mask) (st.getD (t.probeStart h0))=some met->t.probe (Fe es) h0 (st.getD (t.probeStart h0))=some met:=fun _ e=>e
  rcases hg with ⟨dm,e1,e2,e3⟩ | ⟨k,i,q,e1,e2,e3,e4,e5,e6,e7,e8⟩
  ·
   have hnd:d∉ds:=fun hm=>by
    obtain ⟨i,hi⟩:=List.getElem?_of_mem hm
    obtain ⟨e,he,hel⟩:=fQ S.el hi
    rw [Array.getElem?_toList] at he
    have hil:i < t.place.size:=by rw [T.sz];exact (Array.getElem?_eq_some_iff.mp he).1
    obtain ⟨n',n1,n2⟩:=T.rc i e t.place[i] he (Array.getElem?_eq_getElem hil)
    have hh:e.1=h0:=hel.hs.trans hx.hs.symm
    rw [hh] at n1 n2
    have hsl:t.slot (sq t.mask h0 n')=.live i:=(iM T.rp).mpr (by rw [n1];exact Array.getElem?_eq_getElem hil)
    have hnN:n' < N:=by
     apply Classical.byContradiction
     intro z
     by_cases z2:n'=N
     ·rw [z2,hN] at hsl;cases hsl
     ·exact n2 N (by omega) hN
    by_cases z:n' < n
    ·exact h5 n' z i hsl hi
    ·exact e3 n' (by omega) hnN i hsl (by rw [hsh i e he];exact hh)
   split
   case h_2 hno=>exact absurd (hpr _ e1) (hno _)
   rename_i met hmet
   have hme:=hmet.symm.trans (hpr _ e1)
   cases hme
   dsimp only
   rcases e2 with rfl | ⟨m,m1,rfl,m3⟩
   ·exact wpAny_pure (q1 hnd _ false ⟨by simpa using hN,N,rfl,hne⟩)
   ·dsimp only
    rw [m3]
    have:(adding && (SetTable.Slot.dummy != SetTable.Slot.dummy))=false:=by cases adding<;>rfl
    rw [this]
    simp only [Bool.false_eq_true,if_false]
    exact wpAny_pure (q1 hnd _ true ⟨by simpa using m3,m,rfl,fun m' hm'=>hne m' (by omega)⟩)
  ·
   split
   case h_2 hno=>exact absurd (hpr _ e1) (hno _)
   rename_i met hmet
   have hme:=hmet.symm.trans (hpr _ e1)
   cases hme
   dsimp only
   obtain ⟨e,d',f1,f2,f3⟩:=hlive _ i e4
   have go:wpAny (model P w) A (do
     let some (_,y):=es[i]? | unsupported "internal:set-entry"
     let equal <- holding [y] (eqBool y x)
     let (es',_,t') <- setState a
     if adding && equal then return SetFound.there none
     let some same:=t'.sameMemory t.moves t.mask | unsupported "set.changed-during-lookup:is-the-new-block-at-the-old-address"
     let still <- match (if same then t'.slot (sq t.mask h0 k) else .empty) with
      | .live i'=>match es'[i']? with
       | some (_,y')=>do pure (if <- isSame y' y then some i' else none)
       | none=>pure none
      | _=>pure none
     match still with
     | none=>rule "set.search.anew";setSearchFrom a x h0 adding fuel none
     | some i'=>if equal then return .there (some i') else setSearchFrom a x h0 adding fuel (some q)) Q E s:=by
    rw [f1]
    obtain ⟨he,y⟩:=e
    dsimp only
    refine wpAny_bind (wpAny_holding (Gk f3 hx hu ?_))
    refine wpAny_bind (bF S.ob T.fits ?_)
    dsimp only
    have hsm:t.sameMemory t.moves t.mask=some true:=by unfold SetTable.sameMemory;simp
    by_cases z:d'=d
    ·subst z
     have hm:d'∈ds:=List.mem_of_getElem? f2
     have Q2:=q2 hm i f2
     cases adding with
     | true=>
      simp only [decide_true,Bool.and_self,if_true] at Q2 ⊢
      exact wpAny_pure Q2
     | false=>
      simp only [Bool.false_and,Bool.false_eq_true,if_false] at Q2 ⊢
      rw [hsm]
      dsimp only
      rw [if_pos rfl,e4]
      dsimp only
      rw [f1]
      dsimp only
      refine wpAny_bind (wpAny_of_eq (a:=true) (tU f3) ?_)
      refine wpAny_bind (wpAny_pure ?_)
      simp only [decide_true,if_true]
      exact wpAny_pure Q2
    ·simp only [decide_eq_false z,Bool.and_false,Bool.false_eq_true,if_false]
     rw [hsm]
     dsimp only
     rw [if_pos rfl,e4]
     dsimp only
     rw [f1]
     dsimp only
     refine wpAny_bind (wpAny_of_eq (a:=true) (tU f3) ?_)
     refine wpAny_bind (wpAny_pure ?_)
     simp only [if_true]
     refine tV S hx hu hN hne hNl q1 q2 fuel (k+1) (some q) (by omega) (by omega) e6 e7 fun m hm i' hi'=>?_
     by_cases z1:m < n
     ·exact h5 m z1 i' hi'
     ·by_cases z2:m=k
      ·subst z2
       rw [e4] at hi'
       cases hi'
       rw [f2]
       exact fun q=>z (Option.some.inj q)
      ·exact hdiff m i' hi' (e8 m (by omega) (by omega) i' hi')
   by_cases hl:t.led=true
   ·rw [hl]
    simp only [Bool.not_true,Bool.false_eq_true,if_false]
    exact go
   ·have hl':t.led=false:=by simpa using hl
    rw [hl']
    simp only [Bool.not_false,if_true]
    refine wpAny_bind (zP hx ?_ _ fun y hy=>?_)
    ·simp only [Bool.false_eq_true,if_false]
     exact go
    ·obtain ⟨e',he',rfl⟩:=List.mem_map.mp hy
     have hm:e'∈es.toList:=by
      have:=he'
      simp at this
      simpa using this.1
     obtain ⟨i',hi'⟩:=List.getElem?_of_mem hm
     obtain ⟨d2,_,hd2⟩:=du S.el hi'
     exact ⟨e'.1,d2,hd2⟩
end
end gp
namespace gp
open PySem PySem.Spec L2 Ml
theorem lU {α β:Type} {R:α->β->Prop}:∀ {xs:List α} {ys:List β} (p:Nat),Paired R xs ys->Paired R (xs.take p) (ys.take p)/\Paired R (xs.drop p) (ys.drop p)
 | _,_,0,h=>⟨by simp;exact .nil,by simpa using h⟩
 | _,_,p+1,.nil=>⟨by simp;exact .nil,by simp;exact .nil⟩
 | _,_,p+1,.cons r t=>by
  obtain ⟨a,b⟩:=lU p t
  exact ⟨by simp only [List.take_succ_cons];exact .cons r a,by simpa using b⟩
theorem ou {α β:Type} {R:α->β->Prop}:∀ {xs us:List α} {ys vs:List β},Paired R xs ys->Paired R us vs->Paired R (xs++us) (ys++vs)
 | _,_,_,_,.nil,h=>h
 | _,_,_,_,.cons r t,h=>.cons r (ou t h)
theorem pI {α β:Type} {R:α->β->Prop} {xs:Array α} {ys:List β} (p:Nat) {x:α} {y:β} (h:Paired R xs.toList ys) (r:R x y):Paired R (SetTable.insertAt xs p x).toList (ys.take p++y::ys.drop p):=by
 rw [SetTable.toList_insertAt]
 obtain ⟨a,b⟩:=lU p h
 exact ou a (.cons r b)
theorem fR {α β:Type} {R:α->β->Prop} {xs xs':List α} (p:List.Perm xs xs'):∀ {ys:List β},Paired R xs ys->∃ ys',List.Perm ys ys'/\Paired R xs' ys':=by
 induction p with
 | nil=>exact fun h=>⟨_,.refl _,h⟩
 | cons x _ ih=>
  intro ys h
  cases h with
  | cons r t=>obtain ⟨ys',a,b⟩:=ih t;exact ⟨_,a.cons _,.cons r b⟩
 | swap x y l=>
  intro ys h
  cases h with
  | cons r t=>
   cases t with
   | cons r' t=>exact ⟨_,.swap _ _ _,.cons r' (.cons r t)⟩
 | trans _ _ ih1 ih2=>
  intro ys h
  obtain ⟨y1,a,b⟩:=ih1 h
  obtain ⟨y2,c,d⟩:=ih2 b
  exact ⟨y2,a.trans c,d⟩
theorem ow (ds:List PyData) (p:Nat) (d:PyData):List.Perm (ds.take p++d::ds.drop p) (d::ds):=by
 have:=List.take_append_drop p ds
 exact List.perm_middle.trans (by rw [this])
theorem rJ {ds ds':List PyData} (p:List.Perm ds ds') (h:ds.Nodup):ds'.Nodup:=p.nodup_iff.mp h
section
variable {P:Program} {w:World} {A:Around} {E:Value->Shared->Prop} {s:Shared} {vp:Value->Prop}
theorem El.text {h:Heap} {e:Int×Value} {d:PyData} (x:El vp w h false e d):∃ y t,d=.str y/\e.2=.str y t/\e.1=hashStr w y:=by
 obtain ⟨as,r⟩:=x.rd
 have k:=x.kd
 have t:=x.tr
 have hs:=x.hs
 obtain ⟨e1,v⟩:=e
 dsimp only at r hs ⊢
 cases r with
 | str y u=>exact ⟨y,u,rfl,rfl,hs⟩
 | tuple=>simp [dU] at k
 | _=>simp [ai] at t
theorem El.refs {h:Heap} {e:Int×Value} {d:PyData} (x:El vp w h true e d):∃ a,e.2=.ref a:=by
 obtain ⟨as,r⟩:=x.rd
 have k:=x.kd
 obtain ⟨e1,v⟩:=e
 dsimp only at r ⊢
 cases r with
 | tuple=>exact ⟨_,rfl⟩
 | _=>simp [dU] at k
theorem tW {h:Heap} {es:List (Int×Value)} {ds:List PyData} (p:Paired (El vp w h false) es ds):ElemsOf (strKind P w) es:=by
 intro e he
 obtain ⟨i,hi⟩:=List.getElem?_of_mem he
 obtain ⟨d,_,x⟩:=du p hi
 obtain ⟨y,t,e1,e2,e3⟩:=x.text
 exact ⟨⟨y,by rw [e2];show Value.isStrOf y (.str y t)=true;simp [Value.isStrOf],e3⟩,by rw [e2];rfl⟩
theorem zQ {h:Heap} {es:List (Int×Value)} {ds:List PyData} (p:Paired (El vp w h false) es ds) (y:Str) :
  match es.findIdx? (fun e=>(strKind P w).is y e.2) with
  | some j=>ds[j]?=some (.str y)
  | none=>PyData.str y∉ds:=by
 have hk:∀ {e:Int×Value} {d:PyData},El vp w h false e d->((strKind P w).is y e.2=true<->d=.str y):=fun {e d} x=>by
  obtain ⟨z,t,rfl,e2,_⟩:=x.text
  rw [e2]
  show Value.isStrOf y (.str z t)=true<->_
  constructor
  ·intro q
   obtain ⟨u,hu⟩:=Value.isStrOf_shape q
   injection hu with hu
   rw [hu]
  ·intro q
   cases q
   simp [Value.isStrOf]
 cases hr:es.findIdx? (fun e=>(strKind P w).is y e.2) with
 | some j=>
  obtain ⟨hj,hp,_⟩:=List.findIdx?_eq_some_iff_getElem.mp hr
  obtain ⟨d,h1,h2⟩:=du p (List.getElem?_eq_getElem hj)
  show ds[j]?=_
  rw [h1,(hk h2).mp hp]
 | none=>
  show PyData.str y∉ds
  intro hm
  obtain ⟨i,hi⟩:=List.getElem?_of_mem hm
  obtain ⟨e,h1,h2⟩:=fQ p hi
  have:=List.findIdx?_eq_none_iff.mp hr e (List.mem_of_getElem? h1)
  rw [(hk h2).mpr rfl] at this
  cases this
theorem bT.scan {h:Heap} {a:Addr} {ds:List PyData} {es:Array (Int×Value)} {ep:Nat} {t:SetTable} (S:bT vp w h a false ds es ep t) {x:Value} {y:Str} {u:Tok} (hx:x=.str y u):byScan x es=true:=
 byScan_of (prog:=default) (w:=w) (knd:=strKind default w) (by rw [hx];rfl) (by rw [S.size];have:=S.ln;show _ < 4096;omega) (tW S.el)
theorem ER {b:Addr} {es:Array (Int×Value)}:byScan (.ref b) es=false:=rfl
end
end gp
namespace gp
open PySem PySem.Spec L2 Ml
section
variable {P:Program} {w:World} {A:Around} {E:Value->Shared->Prop} {s:Shared} {vp:Value->Prop}
theorem kb {α:Type} {body:α->Option Bool×Unit->Sem (ForInStep (Option Bool×Unit))} {G:α->Prop} {R:Option Bool×Unit->Shared->Prop} (hb:∀ y,G y->∀ R':ForInStep (Option Bool×Unit)->Shared->Prop,R' (.yield (none,())) s->R' (.done (some false,())) s->wpAny (model P w) A (body y (none,())) R' E s) :
  ∀ ys:List α,(∀ y∈ys,G y)->R (none,()) s->R (some false,()) s->wpAny (model P w) A (forIn ys (none,()) body) R E s
 | [],_,h,_=>by
  rw [List.forIn_nil]
  exact wpAny_pure h
 | y::ys,g,h,h'=>by
  rw [List.forIn_cons]
  refine wpAny_bind (hb y (g y (List.mem_cons_self ..)) _ ?_ ?_)
  ·exact kb hb ys (fun z hz=>g z (List.mem_cons_of_mem _ hz)) h h'
  ·exact wpAny_pure h'
mutual
theorem qw:∀ (d:PyData) (n:Nat) (v:Value) (as:List Addr) (Q:Bool->Shared->Prop),ai d=true->d.depth<=n->Reads s.heap v d as->(∀ b,Q b s)->wpAny (model P w) A (hashByValue n v) Q E s
 | .str x,n,v,as,Q,_,_,r,h=>by
  cases r
  have:hashByValue n (.str x ‹_›)=pure false:=by cases n<;>rfl
  rw [this]
  exact wpAny_pure (h _)
 | .tuple ds,n,v,as,Q,t,hn,r,h=>by
  cases r with
  | tuple ho hc hd hi=>
   rename_i a o items k
   have hT:s.TypeIs (.ref a) "tuple" := ⟨o,ho,hc⟩
   simp only [ai] at t
   simp only [PyData.depth] at hn
   obtain ⟨m,rfl⟩:∃ m,n=m+1:=⟨n - 1,by omega⟩
   unfold hashByValue
   refine wpAny_bind (wpAny_specialOf hT F.slot_tuple_hash.lookup ?_)
   dsimp only
   refine wpAny_bind (wpAny_seqItems ho hd ?_)
   simp only [Option.getD_some]
   refine wpAny_bind ?_
   rw [<- Array.forIn_toList]
   refine kb (G:=fun y=>∃ d' as',ai d'=true/\d'.depth<=m/\Reads s.heap y d' as'/\∀ Q':Bool->Shared->Prop,(∀ b,Q' b s)->wpAny (model P w) A (hashByValue m y) Q' E s) (fun y ⟨d',as',g1,g2,g3,g4⟩ R' r1 r2=>?_) items.toList ?_ (wpAny_pure (h _)) (wpAny_pure (h _))
   ·refine wpAny_bind (g4 _ fun b=>?_)
    cases b
    ·exact wpAny_pure r2
    ·exact wpAny_pure r1
   ·exact ox ds m items.toList _ t (by omega) hi
 | .none,_,_,_,_,t,_,_,_=>by simp [ai] at t
 | .bool _,_,_,_,_,t,_,_,_=>by simp [ai] at t
 | .int _,_,_,_,_,t,_,_,_=>by simp [ai] at t
 | .list _,_,_,_,_,t,_,_,_=>by simp [ai] at t
 | .dict _,_,_,_,_,t,_,_,_=>by simp [ai] at t
theorem ox:∀ (ds:List PyData) (m:Nat) (vs:List Value) (as:List Addr),aK ds=true->PyData.depthAll ds<=m->ReadsAll s.heap vs ds as->∀ y∈vs,∃ d' as',ai d'=true/\d'.depth<=m/\Reads s.heap y d' as'/\∀ Q':Bool->Shared->Prop,(∀ b,Q' b s)->wpAny (model P w) A (hashByValue m y) Q' E s
 | [],m,_,_,_,_,.nil,y,hy=>by simp at hy
 | d::ds,m,_,_,t,hn,.cons r1 r2,y,hy=>by
  simp only [aK,Bool.and_eq_true] at t
  simp only [PyData.depthAll] at hn
  rcases List.mem_cons.mp hy with rfl | hy
  ·exact ⟨d,_,t.1,by omega,r1,fun Q' h=>qw d m _ _ Q' t.1 (by omega) r1 h⟩
  ·exact ox ds m _ _ t.2 (by omega) r2 y hy
end
theorem Jf {md:Bool} {e:Int×Value} {d:PyData} (x:El vp w s.heap md e d) {Q:Bool->Shared->Prop} (h:∀ b,Q b s):wpAny (model P w) A (hashByValue 8 e.2) Q E s:=by
 obtain ⟨as,r⟩:=x.rd
 exact qw d 8 _ as Q x.tr x.dp r h
theorem dM {h h':Heap} {a:Addr} {es:Array (Int×Value)} {ep:Nat} {t:SetTable} (ho:h.get? a=some (aV es ep t)) (sb:Heap.SameBut a h h'):∀ b o vs n,h.get? b=some o->o.cls=.type "tuple" -> o.data=.seq vs n->h'.get? b=some o:=fun b o vs n e c _=>by
 refine (sb.2 b fun z=>?_).trans e
 rw [z,ho] at e
 cases e
 exact absurd (Value.type.inj c) (by decide)
theorem fG {a:Addr} {es es':Array (Int×Value)} {ep:Nat} {t t':SetTable} {Q:Unit->Shared->Prop} (ho:s.heap.get? a=some (aV es ep t)) (hz:es'.size<=1000)
  (h:∀ h',h'.get? a=some (aV es' (ep+1) t')->Heap.SameBut a s.heap h'->Q () {s with heap:=h'}):wpAny (model P w) A (storeSet a es' t') Q E s:=by
 refine wpAny_storeSet_of ho rfl (h _ ?_ (Heap.SameBut.update ..)) (by rw [sizeLine_eq];omega)
 have:=Heap.get?_update_self (Obj.putSet es' t') ho (by rw [putSet_of es' t' rfl];rfl)
 rw [putSet_of es' t' rfl] at this
 exact this
structure kc (vp:Value->Prop) (w:World) (h:Heap) (md:Bool) (ds:List PyData) (es:Array (Int×Value)) (t:SetTable):Prop where
 tb:pH es t
 ld:t.led=true\/bS w=true
 nd:ds.Nodup
 ln:ds.length<=120
 el:Paired (El vp w h md) es.toList ds
theorem kc.size {h:Heap} {md:Bool} {ds:List PyData} {es:Array (Int×Value)} {t:SetTable} (S:kc vp w h md ds es t):es.size=ds.length:=by
 have:=Paired.length S.el
 simpa using this
theorem kc.keep {h h':Heap} {md:Bool} {ds:List PyData} {es:Array (Int×Value)} {t:SetTable} (S:kc vp w h md ds es t) (k:∀ b o vs n,h.get? b=some o->o.cls=.type "tuple" -> o.data=.seq vs n->h'.get? b=some o):kc vp w h' md ds es t:=
 ⟨S.tb,S.ld,S.nd,S.ln,Paired.jh S.el fun _ _ x=>El.keep x k⟩
theorem oy {md:Bool} {h:Heap} {a:Addr} {ds:List PyData} {es:Array (Int×Value)} {ep:Nat} {t:SetTable} {x:Value} {h0:Int} {d:PyData} {slot:Nat} {wd:Bool} (S:bT vp w h a md ds es ep t) (hx:El vp w h md (h0,x) d) (hn:d∉ds) (hl:ds.length < 120) (R:cb t h0 slot wd) (pl:Bool) :
  ∃ ds',List.Perm ds' (d::ds)/\kc vp w h md ds' (SetTable.insertAt es (t.put slot).2 (h0,x)) {(t.put slot).1 with plain:=pl}/\((!wd && ({(t.put slot).1 with plain:=pl}:SetTable).tooFull)=false->({(t.put slot).1 with plain:=pl}:SetTable).fill * 5 < ({(t.put slot).1 with plain:=pl}:SetTable).mask * 3):=by
 obtain ⟨r1,n,r2,r3⟩:=R
 have hs:∀ i,t.slot slot≠.live i:=fun i z=>by rw [r1] at z;split at z<;>cases z
 have hm:slot<=t.mask:=by
  rw [<- r2]
  unfold sq
  have bound:∀ q (c:Pc),c.j+c.more<=t.mask->(steps t.mask q c).j+(steps t.mask q c).more<=t.mask:=by
   intro q
   induction q with
   | zero=>intro c hc;exact hc
   | succ q ih=>
    intro c hc
    simp only [steps]
    refine ih _ ?_
    unfold step
    split
    ·show c.j+1+(c.more - 1)<=t.mask
     omega
    ·show (SetTable.leap t.mask c.i c.pt).1+(SetTable.runEnd t.mask (SetTable.leap t.mask c.i c.pt).1 - (SetTable.leap t.mask c.i c.pt).1)<=t.mask
     have:(SetTable.leap t.mask c.i c.pt).1 < t.mask+1:=Nat.mod_lt _ (by omega)
     unfold SetTable.runEnd
     split<;>omega
  have hb:=bound n (c0 t.mask h0) (by
   show SetTable.bits h0 % (t.mask+1)+(SetTable.runEnd t.mask (SetTable.bits h0 % (t.mask+1)) - SetTable.bits h0 % (t.mask+1))<=t.mask
   have:SetTable.bits h0 % (t.mask+1) < t.mask+1:=Nat.mod_lt _ (by omega)
   unfold SetTable.runEnd
   split<;>omega)
  omega
 obtain ⟨T1,T2⟩:=BO (x:=x) S.tb hs hm r2 r3
 refine ⟨_,ow ds (t.put slot).2 d,⟨T1.flags rfl rfl rfl,S.ld,?_,?_,pI _ S.el hx⟩,fun hq=>?_⟩
 ·exact rJ (ow ds _ d).symm (List.nodup_cons.mpr ⟨hn,S.nd⟩)
 ·rw [(ow ds _ d).length_eq]
  simp
  omega
 ·cases wd with
  | true=>
   have:=T2 (by simpa using r1)
   show (t.put slot).1.fill * 5 < t.mask * 3
   rw [this]
   exact S.tb.tf
  | false=>
   simp only [Bool.not_false,Bool.true_and] at hq
   unfold SetTable.tooFull at hq
   simp only [decide_eq_false_iff_not] at hq
   exact Nat.lt_of_not_le hq
theorem lV {md:Bool} {h:Heap} {ds:List PyData} {es:Array (Int×Value)} {t:SetTable} (S:kc vp w h md ds es t) {wanted:Nat} (hw:wanted < 1024) (hn:es.size * 5 < wanted * 3\/es.size<=4) :
  ∃ t' order ds',t.relaid (es.map (·.1)) wanted=some (t',order)/\List.Perm ds' ds/\kc vp w h md ds' (order.filterMap (es[·]?)) t'/\Tab (order.filterMap (es[·]?)) t'/\List.Perm order.toList (List.range es.size)/\t'.mask+1=SetTable.sizeAbove wanted:=by
 obtain ⟨t',order,e1,e2,e3,e4,e5,e6,_⟩:=xY (es:=es) (t:=t) hw hn
 obtain ⟨ds',p1,p2⟩:=fR e3.symm S.el
 exact ⟨t',order,ds',e1,p1.symm,⟨e2.EO,by rw [e4];exact S.ld,rJ p1 S.nd,by rw [<- p1.length_eq];exact S.ln,p2⟩,e2,e5,e6⟩
theorem tX {n:Nat} (h:n<=121):SetTable.grown n < 1024/\(n * 5 < SetTable.grown n * 3\/n<=4):=by
 unfold SetTable.grown
 rw [if_neg (by omega)]
 omega
theorem kc.at {md:Bool} {h:Heap} {a:Addr} {ds:List PyData} {es:Array (Int×Value)} {ep:Nat} {t:SetTable} (S:kc vp w h md ds es t) (T:Tab es t) (ho:h.get? a=some (aV es ep t)):bT vp w h a md ds es ep t:=⟨ho,T,S.ld,S.nd,S.ln,S.el⟩
theorem tY {md:Bool} {a:Addr} {ds:List PyData} {es:Array (Int×Value)} {ep:Nat} {t:SetTable} {wanted:Nat} {Q:Unit->Shared->Prop} (ho:s.heap.get? a=some (aV es ep t)) (S:kc vp w s.heap md ds es t) (hw:wanted < 1024) (hn:es.size * 5 < wanted * 3\/es.size<=4)
  (h:∀ h' ds' es' ep' t',Heap.SameBut a s.heap h'->bT vp w h' a md ds' es' ep' t'->List.Perm ds' ds->t'.mask+1=SetTable.sizeAbove wanted->Q () {s with heap:=h'}):wpAny (model P w) A (setRelay a wanted) Q E s:=by
 unfold setRelay
 refine wpAny_bind (bF ho S.tb.fits ?_)
 dsimp only
 have hsz:=(gI wanted hw).2
 have hsl:¬ SetTable.sizeAbove wanted > sizeLine:=by
  rw [sizeLine_eq]
  simp only [List.mem_cons,List.not_mem_nil,or_false] at hsz
  omega
 rw [if_neg hsl]
 obtain ⟨t',order,ds',e1,e2,e3,e4,_,e5⟩:=lV S hw hn
 refine wpAny_bind ?_
 rw [e1]
 show wpAny _ _ (if ((order.filterMap (es[·]?)).size != es.size)=true then _ else pure (order.filterMap (es[·]?),t')) _ _ _
 have hse:(order.filterMap (es[·]?)).size=es.size:=by rw [e3.size,S.size,e2.length_eq]
 rw [if_neg (by simp [hse])]
 refine wpAny_pure ?_
 dsimp only
 refine fG ho (by rw [hse,S.size];have:=S.ln;omega) fun h' g1 g2=>?_
 exact h h' ds' _ _ t' g2 ((e3.keep (dM ho g2)).at e4 g1) e2 e5
end
end gp
namespace gp
open PySem PySem.Spec L2 Ml
section
variable {P:Program} {w:World} {A:Around} {E:Value->Shared->Prop} {s:Shared} {vp:Value->Prop}
theorem zR {md:Bool} {a:Addr} {ds:List PyData} {es:Array (Int×Value)} {ep:Nat} {t:SetTable} {x:Value} {h0:Int} {d:PyData} {slot:Nat} {wd:Bool} (S:bT vp w s.heap a md ds es ep t) (hx:El vp w s.heap md (h0,x) d) (hn:d∉ds) (hl:ds.length < 120) (R:cb t h0 slot wd) (pl:Bool) {R':Bool->Shared->Prop}
  (q:∀ h' ds',Heap.SameBut a s.heap h'->bB vp w h' a md ds'->List.Perm ds' (d::ds)->R' true {s with heap:=h'}) :
  wpAny (model P w) A (do
   storeSet a (SetTable.insertAt es (t.put slot).2 (h0,x)) {(t.put slot).1 with plain:=pl}
   if (!wd && ({(t.put slot).1 with plain:=pl}:SetTable).tooFull)=true then do
    setRelay a (SetTable.grown (es.size+1))
    pure true
   else pure true) R' E s:=by
 obtain ⟨ds',p1,H,p3⟩:=oy S hx hn hl R pl
 have hsz:(SetTable.insertAt es (t.put slot).2 (h0,x)).size=es.size+1:=fP
 have hle:=S.ln
 have hes:=S.size
 refine wpAny_bind (fG S.ob (by rw [hsz];omega) fun h' g1 g2=>?_)
 have H':=H.keep (dM S.ob g2)
 by_cases hf:(!wd && ({(t.put slot).1 with plain:=pl}:SetTable).tooFull)=true
 ·rw [if_pos hf]
  obtain ⟨k1,k2⟩:=tX (n:=es.size+1) (by omega)
  refine wpAny_bind (tY g1 H' k1 (by rw [hsz];exact k2) fun h2 ds2 es2 ep2 t2 f1 f2 f3 _=>wpAny_pure ?_)
  exact q h2 ds2 (g2.trans f1) ⟨_,_,_,f2⟩ (f3.trans p1)
 ·rw [if_neg hf]
  exact wpAny_pure (q h' ds' g2 ⟨_,_,_,H'.at (H'.tb.tab (p3 (by simpa using hf))) g1⟩ p1)
theorem xZ {es:Array (Int×Value)} {t:SetTable} (T:Tab es t) (h0:Int):∃ slot wd,t.freeSlot h0=some (slot,wd)/\cb t h0 slot wd:=by
 obtain ⟨N,n1,n2,n3⟩:=T.free h0
 have hg:=mO (hashAt:=fun _=>h0+1) n2 n3 (10 * SetTable.turns t.mask) 0 (t.probeStart h0) (by omega) (by unfold SetTable.turns;omega) rfl (.inl rfl)
 rcases hg with ⟨dm,e1,e2,_⟩ | ⟨k,i,q,_,_,_,_,e5,_⟩
 ·have hp:t.probe (fun _=>h0+1) h0 (t.probeStart h0)=some (.empty (sq t.mask h0 N) dm):=e1
  unfold SetTable.freeSlot
  rw [hp]
  rcases e2 with rfl | ⟨m,m1,rfl,m3⟩
  ·exact ⟨_,_,rfl,by simpa using n2,N,rfl,n3⟩
  ·exact ⟨_,_,rfl,by simpa using m3,m,rfl,fun m' hm'=>n3 m' (by omega)⟩
 ·omega
theorem tZ {md:Bool} {h:Heap} {ds:List PyData} {es:Array (Int×Value)} {t:SetTable} (S:kc vp w h md ds es t) {wanted:Nat} (hw:wanted < 1024) (hn:es.size * 5 < wanted * 3\/es.size<=4) :
  ∃ es' t' ds',relayAll t es wanted=(es',t',false)/\List.Perm ds' ds/\kc vp w h md ds' es' t'/\Tab es' t'/\es'.size=es.size:=by
 obtain ⟨t',order,ds',e1,e2,e3,e4,e5,_⟩:=lV S hw hn
 have hse:(order.filterMap (es[·]?)).size=es.size:=by rw [e3.size,S.size,e2.length_eq]
 refine ⟨_,_,ds',?_,e2,e3,e4,hse⟩
 unfold relayAll
 rw [e1]
 dsimp only
 rw [if_pos]
 simp only [coversAll,Bool.and_eq_true]
 exact ⟨List.isPerm_iff.mpr e5,e4.fits⟩
theorem zS {md:Bool} {a:Addr} {ds:List PyData} {x:Value} {h0:Int} {d:PyData} {Q:Bool->Shared->Prop} (S:bB vp w s.heap a md ds) (hx:El vp w s.heap md (h0,x) d) (hu:A.units+20 < cLine) (hl:ds.length < 120)
  (q1:d∈ds->Q false s) (q2:d∉ds->∀ h' ds',Heap.SameBut a s.heap h'->bB vp w h' a md ds'->List.Perm ds' (d::ds)->Q true {s with heap:=h'}) :
  wpAny (model P w) A (setAddHashed a x h0) Q E s:=by
 obtain ⟨es,ep,t,S⟩:=S
 unfold setAddHashed setAddHashedIn
 refine wpAny_holding (wpAny_bind (bF S.ob S.tb.fits ?_))
 dsimp only
 cases md with
 | true=>
  obtain ⟨b,hb⟩:=hx.refs
  dsimp only at hb
  subst hb
  rw [ER]
  simp only [Bool.false_eq_true,if_false]
  obtain ⟨N,n1,n2,n3⟩:=S.tb.free h0
  have hle:=S.tb.le
  unfold setSearch
  refine wpAny_bind (tV (N:=N) (adding:=true) S hx hu n2 n3 (by unfold SetTable.turns;omega) (fun hn slot wd R=>?_) (fun hm i hi=>?_) 100000 0 none (by omega) (by omega) rfl (.inl rfl) fun m hm=>by omega)
  ·dsimp only
   refine wpAny_bind (bF S.ob S.tb.fits ?_)
   dsimp only
   have fin:∀ pl,wpAny (model P w) A (do
     storeSet a (SetTable.insertAt es (t.put slot).2 (h0,.ref b)) {(t.put slot).1 with plain:=pl}
     if (!wd && ({(t.put slot).1 with plain:=pl}:SetTable).tooFull)=true then do
      setRelay a (SetTable.grown (es.size+1))
      pure true
     else pure true) Q E s:=fun pl=>zR S hx hn hl R pl (q2 hn)
   refine wpAny_ite_split (fun _=>wpAny_bind (Jf hx fun bv=>?_)) fun _=>wpAny_bind (wpAny_pure (fin (t.put slot).1.plain))
   cases bv with
   | true=>exact fin (t.put slot).1.plain
   | false=>exact fin false
  ·simp only [if_true]
   exact wpAny_pure (q1 hm)
 | false=>
  obtain ⟨y,u,rfl,e2,e3⟩:=hx.text
  dsimp only at e2 e3
  rw [S.scan e2]
  simp only [if_true]
  unfold setAddByScan
  refine wpAny_bind ?_
  refine wpAny_bind (wpAny_rule ?_)
  have hk:(strKind P w).is y x=true:=by rw [e2];show Value.isStrOf y (.str y u)=true;simp [Value.isStrOf]
  have ti:=zQ (P:=P) S.el y
  rw [show h0=(strKind P w).hash y from e3]
  refine wpAny_bind (wpAny_setScan_of (knd:=strKind P w) hk S.ob rfl S.tb.fits (tW S.el) ?_)
  rw [<- show h0=(strKind P w).hash y from e3]
  cases hr:es.toList.findIdx? (fun e=>(strKind P w).is y e.2) with
  | some j=>
   rw [hr] at ti
   dsimp only at ti ⊢
   exact wpAny_pure (wpAny_pure (q1 (List.mem_of_getElem? ti)))
  | none=>
   rw [hr] at ti
   dsimp only at ti ⊢
   obtain ⟨slot,wd,f1,R⟩:=xZ S.tb h0
   obtain ⟨ds1,_,H1,_⟩:=oy S hx ti hl R (t.put slot).1.plain
   have hfit:(t.put slot).1.fits (SetTable.insertAt es (t.put slot).2 (h0,x)).size=true:=H1.tb.fits
   have hlay:layNew t es h0 x=(SetTable.insertAt es (t.put slot).2 (h0,x),(t.put slot).1,wd,false):=by
    unfold layNew
    rw [f1]
    dsimp only
    unfold SetTable.orStandIn
    rw [if_pos hfit,hfit]
    rfl
   rw [hlay]
   dsimp only
   refine wpAny_bind (wpAny_pure ?_)
   have hsz:(SetTable.insertAt es (t.put slot).2 (h0,x)).size=es.size+1:=fP
   have hle:=S.ln
   have hes:=S.size
   have fin:∀ pl,wpAny (model P w) A (do
     storeSet a (SetTable.insertAt es (t.put slot).2 (h0,x)) {(t.put slot).1 with plain:=pl}
     if (!wd && ({(t.put slot).1 with plain:=pl}:SetTable).tooFull)=true then do
      (match (relayAll {(t.put slot).1 with plain:=pl} (SetTable.insertAt es (t.put slot).2 (h0,x)) (SetTable.grown (SetTable.insertAt es (t.put slot).2 (h0,x)).size)).2.2 with | true=>rule "set.scan.the-table-gave-way" | false=>pure ())
      storeSet a (relayAll {(t.put slot).1 with plain:=pl} (SetTable.insertAt es (t.put slot).2 (h0,x)) (SetTable.grown (SetTable.insertAt es (t.put slot).2 (h0,x)).size)).1 (relayAll {(t.put slot).1 with plain:=pl} (SetTable.insertAt es (t.put slot).2 (h0,x)) (SetTable.grown (SetTable.insertAt es (t.put slot).2 (h0,x)).size)).2.1
      pure (some true)
     else pure (some true)) (fun r s'=>wpAny (model P w) A (match r with | some added=>pure added | none=>setAddHashedIn a x h0 99999) Q E s') E s:=fun pl=>by
    obtain ⟨ds',p1,H,p3⟩:=oy S hx ti hl R pl
    refine wpAny_bind (fG S.ob (by rw [hsz];omega) fun h' g1 g2=>?_)
    have H':=H.keep (dM S.ob g2)
    by_cases hf:(!wd && ({(t.put slot).1 with plain:=pl}:SetTable).tooFull)=true
    ·rw [if_pos hf]
     obtain ⟨k1,k2⟩:=tX (n:=es.size+1) (by omega)
     obtain ⟨es2,t2,ds2,m1,m2,m3,m4,m5⟩:=tZ (wanted:=SetTable.grown (SetTable.insertAt es (t.put slot).2 (h0,x)).size) H' (by rw [hsz];exact k1) (by rw [hsz];exact k2)
     rw [m1]
     dsimp only
     refine wpAny_bind (wpAny_pure ?_)
     refine wpAny_bind (fG (s:={s with heap:=h'}) g1 (by rw [m5,hsz];omega) fun h2 g3 g4=>wpAny_pure (wpAny_pure ?_))
     exact q2 ti h2 ds2 (g2.trans g4) ⟨_,_,_,(m3.keep (dM g1 g4)).at m4 g3⟩ (m2.trans p1)
    ·rw [if_neg hf]
     exact wpAny_pure (wpAny_pure (q2 ti h' ds' g2 ⟨_,_,_,H'.at (H'.tb.tab (p3 (by simpa using hf))) g1⟩ p1))
   refine wpAny_ite_split (fun _=>wpAny_bind (Jf hx fun bv=>?_)) fun _=>wpAny_bind (wpAny_pure (fin (t.put slot).1.plain))
   cases bv with
   | true=>exact fin (t.put slot).1.plain
   | false=>exact fin false
end
end gp
namespace gp
open PySem PySem.Spec L2 Ml
theorem dN {α:Type} {l:List α} {i:Nat} (h:i < l.length):List.Perm (l[i]::l.eraseIdx i) l:=by
 rw [List.eraseIdx_eq_take_drop_succ]
 have e:=List.take_append_drop i l
 rw [List.drop_eq_getElem_cons h] at e
 conv=>rhs;rw [<- e]
 exact List.perm_middle.symm
theorem wV {α:Type} (next:Nat->Nat):∀ (fuel k:Nat) (left:List α) (out:Array α),fuel=left.length->List.Perm (pickOrder.go next fuel k left out).toList (out.toList++left)
 | 0,k,left,out,h=>by
  have:left=[]:=List.length_eq_zero_iff.mp h.symm
  subst this
  simp [pickOrder.go]
 | fuel+1,k,left,out,h=>by
  have hpos:0 < left.length:=by omega
  have hlt:next k % left.length < left.length:=Nat.mod_lt _ hpos
  simp only [pickOrder.go]
  rw [List.getElem?_eq_getElem hlt]
  dsimp only
  refine (wV next fuel (k+1) _ _ (by rw [List.length_eraseIdx_of_lt hlt];omega)).trans ?_
  rw [Array.toList_push,List.append_assoc,List.singleton_append]
  refine List.Perm.append_left _ ?_
  exact dN hlt
theorem qx {α:Type} (next:Nat->Nat) (xs:Array α):List.Perm (pickOrder next xs).toList xs.toList:=by
 unfold pickOrder
 simpa using wV next xs.size 0 xs.toList #[] (by simp)
section
variable {P:Program} {w:World} {A:Around} {E:Value->Shared->Prop} {s:Shared} {vp:Value->Prop}
theorem rK {src:Source} {n:Nat} {Q:Nat->Shared->Prop} (hn:n≠0) (h:∀ i,i < n->Q i {s with drawn:=s.drawn.bump src}):wpAny (model P w) A (choose src n) Q E s:=fun Γ p hΓ=>by
 unfold choose
 rw [Sem.wp_choose]
 exact ⟨hn,h _ (Nat.mod_lt _ (Nat.pos_of_ne_zero hn))⟩
theorem rL {α:Type}:∀ (n:Nat) (xs:List α) (s:Shared) (Q:List α->Shared->Prop),n=xs.length->(∀ L dr,List.Perm L xs->Q L {s with drawn:=dr})->wpAny (model P w) A (drawOrder n xs) Q E s
 | 0,xs,s,Q,h,q=>by
  have:xs=[]:=List.length_eq_zero_iff.mp h.symm
  subst this
  exact wpAny_pure (q [] s.drawn (.refl _))
 | n+1,[],s,Q,h,q=>by simp at h
 | n+1,x::xs,s,Q,h,q=>by
  unfold drawOrder
  refine wpAny_bind (rK (by simp) fun i hi=>?_)
  rw [List.getElem?_eq_getElem hi]
  dsimp only
  refine wpAny_bind (rL n _ _ _ (by rw [List.length_eraseIdx_of_lt hi];omega) fun L dr p=>wpAny_pure ?_)
  exact q _ dr ((p.cons _).trans (dN hi))
theorem dY {Q:Bool->Shared->Prop} (h:Q (bS w) s):wpAny (model P w) A setsByText Q E s:=by
 unfold setsByText
 exact wpAny_bind (wpAny_askSetting (wpAny_pure h))
theorem wW {md:Bool} {a:Addr} {ds:List PyData} {es:Array (Int×Value)} {ep:Nat} {t:SetTable} (S:bT vp w s.heap a md ds es ep t) {Q:Array (Int×Value)->Shared->Prop} (q:∀ L dr,List.Perm (L:Array (Int×Value)).toList es.toList->Q L {s with drawn:=dr}):wpAny (model P w) A (setWalk a) Q E s:=by
 unfold setWalk
 refine wpAny_bind (bF S.ob S.tb.fits ?_)
 dsimp only
 refine wpAny_bind (dY ?_)
 refine wpAny_ite_split (fun _=>?_) fun hb=>?_
 ·refine wpAny_bind (wpAny_askSetting (wpAny_pure ?_))
  exact q _ s.drawn (qx _ _)
 ·refine wpAny_ite_split (fun _=>?_) fun _=>?_
  ·refine wpAny_bind (rL es.size es.toList s _ (by simp) fun L dr p=>wpAny_pure (q _ dr (by simpa using p)))
  ·have hl:t.led=true:=by
    rcases S.ld with h | h
    ·exact h
    ·exact absurd h hb
   refine wpAny_bind (m:=(if (!t.led && decide (es.size > 1))=true then unsupported "set:maker-not-led" else pure ())) ?_
   rw [hl]
   simp only [Bool.not_true,Bool.false_and,Bool.false_eq_true,if_false]
   exact wpAny_pure (wpAny_pure (q es s.drawn (.refl _)))
theorem zT:∀ (sets:List Addr) {Q:Bool->Shared->Prop},(∀ a∈sets,∃ md ds,bB vp w s.heap a md ds)->(∀ b,Q b s)->wpAny (model P w) A (setsQuiet sets) Q E s:=by
 intro sets Q hs hQ
 unfold setsQuiet
 refine wpAny_bind ?_
 refine kb (G:=fun a=>∃ md ds,bB vp w s.heap a md ds) (fun a ⟨md,ds,es,ep,t,S⟩ R' r1 r2=>?_) sets hs (wpAny_pure (hQ true)) (wpAny_pure (hQ false))
 refine wpAny_bind (wpAny_setEntries_of S.ob rfl S.tb.fits ?_)
 refine wpAny_bind ?_
 rw [<- Array.forIn_toList]
 refine kb (G:=fun e=>e∈es.toList) (fun e he R2 q1 q2=>?_) es.toList (fun _ h=>h) (wpAny_pure r1) (wpAny_pure r2)
 obtain ⟨i,hi⟩:=List.getElem?_of_mem he
 obtain ⟨d,_,x⟩:=du S.el hi
 obtain ⟨h1,v⟩:=e
 dsimp only
 cases md with
 | true=>
  obtain ⟨as,r⟩:=x.rd
  have k:=x.kd
  dsimp only at r
  cases r with
  | tuple ho hc hd hi=>
   have hT:s.TypeIs (.ref _) "tuple" := ⟨_,ho,hc⟩
   refine wpAny_bind (wpAny_specialOf hT F.slot_tuple_eq.lookup ?_)
   exact wpAny_ite_split (fun _=>wpAny_pure q2) fun _=>wpAny_pure q1
  | _=>simp [dU] at k
 | false=>
  obtain ⟨y,u,_,e2,_⟩:=x.text
  dsimp only at e2
  subst e2
  exact wpAny_pure q1
end
end gp
namespace gp
open PySem PySem.Spec L2 Ml
section
variable {P:Program} {w:World} {A:Around} {E:Value->Shared->Prop} {s:Shared} {vp:Value->Prop}
theorem Tab.flags {es:Array (Int×Value)} {t t':SetTable} (T:Tab es t) (h1:t'.mask=t.mask) (h2:t'.place=t.place) (h3:t'.dummies=t.dummies):Tab es t':=
 (T.EO.flags h1 h2 h3).tab (by have:=T.tf;unfold SetTable.fill at this ⊢;rw [h1,h2,h3];exact this)
theorem bT.other {h h':Heap} {a b:Addr} {md:Bool} {ds:List PyData} {es es':Array (Int×Value)} {ep ep':Nat} {t t':SetTable} (S:bT vp w h a md ds es ep t) (ob:h.get? b=some (aV es' ep' t')) (sb:Heap.SameBut b h h') (ne:a≠b):bT vp w h' a md ds es ep t:=
 ⟨(sb.2 a ne).trans S.ob,S.tb,S.ld,S.nd,S.ln,Paired.jh S.el fun _ _ x=>El.keep x (dM ob sb)⟩
theorem bT.keep {h h':Heap} {a:Addr} {md:Bool} {ds:List PyData} {es:Array (Int×Value)} {ep:Nat} {t:SetTable} (S:bT vp w h a md ds es ep t) (k:∀ b o,h.get? b=some o->h'.get? b=some o):bT vp w h' a md ds es ep t:=
 ⟨k _ _ S.ob,S.tb,S.ld,S.nd,S.ln,Paired.jh S.el fun _ _ x=>El.keep x fun b o _ _ e _ _=>k b o e⟩
theorem x5 {md md':Bool} {o f:Addr} {eds fds:List PyData} {es:Array (Int×Value)} {ep:Nat} {t:SetTable} (S:bT vp w s.heap o md eds es ep t) (F:bB vp w s.heap f md' fds) (ne:o≠f) {Q:Array (Int×Value)->Shared->Prop}
  (q:∀ (L:Array (Int×Value)) h' dr,List.Perm L.toList es.toList->Heap.SameBut f s.heap h'->bB vp w h' f md' fds->Q L {s with heap:=h',drawn:=dr}):wpAny (model P w) A (setWalkUnseen o [f] (some f)) Q E s:=by
 have q0:∀ (L:Array (Int×Value)) dr,List.Perm L.toList es.toList->Q L {s with drawn:=dr}:=fun L dr p=>q L s.heap dr p (Heap.SameBut.refl _ _) F
 unfold setWalkUnseen
 refine wpAny_bind (bF S.ob S.tb.fits ?_)
 dsimp only
 refine wpAny_bind (dY ?_)
 refine wpAny_ite_split (fun _=>wW S q0) fun hb=>?_
 refine wpAny_bind (zT (vp:=vp) _ (fun a ha=>?_) fun b=>?_)
 ·simp only [List.mem_cons,List.not_mem_nil,or_false] at ha
  rcases ha with rfl | rfl
  ·exact ⟨md,eds,_,_,_,S⟩
  ·exact ⟨md',fds,F⟩
 ·refine wpAny_ite_split (fun _=>wW S q0) fun _=>?_
  refine wpAny_bind (wpAny_rule ?_)
  obtain ⟨ef,epf,tf,F⟩:=F
  refine wpAny_bind (bF F.ob F.tb.fits ?_)
  dsimp only
  refine wpAny_ite_split (fun _=>?_) fun _=>wpAny_pure (q0 es s.drawn (.refl _))
  refine wpAny_bind (fG F.ob (by rw [F.size];have:=F.ln;omega) fun h' g1 g2=>wpAny_pure ?_)
  refine q es h' s.drawn (.refl _) g2 ⟨_,_,_,g1,F.tb.flags rfl rfl rfl,?_,F.nd,F.ln,Paired.jh F.el fun _ _ x=>El.keep x (dM F.ob g2)⟩
  rcases S.ld with h1 | h1
  ·rcases F.ld with h2 | h2
   ·exact .inl (by show (tf.led && t.led)=true;rw [h1,h2];rfl)
   ·exact .inr h2
  ·exact .inr h1
theorem BR {md:Bool} {a:Addr} {ds:List PyData} {more:Nat} {Q:Unit->Shared->Prop} (S:bB vp w s.heap a md ds) (hm:ds.length+more<=240)
  (q:∀ h' ds' es' ep' t',Heap.SameBut a s.heap h'->bT vp w h' a md ds' es' ep' t'->List.Perm ds' ds->(more=0\/more * 5 < t'.mask * 3)->Q () {s with heap:=h'}):wpAny (model P w) A (setRoomFor a more) Q E s:=by
 obtain ⟨es,ep,t,S⟩:=S
 unfold setRoomFor
 refine wpAny_bind (bF S.ob S.tb.fits ?_)
 dsimp only
 have hsz:t.place.size=ds.length:=by rw [S.tb.sz,S.size]
 unfold SetTable.roomFor
 by_cases hc:(t.fill+more) * 5>=t.mask * 3
 ·rw [if_pos hc]
  dsimp only
  have H:kc vp w s.heap md ds es t:=⟨S.tb.EO,S.ld,S.nd,S.ln,S.el⟩
  have hes:=S.size
  have hln:=S.ln
  refine tY S.ob H (by rw [hsz];omega) ?_ fun h' ds' es' ep' t' g1 g2 g3 g4=>q h' ds' es' ep' t' g1 g2 g3 ?_
  ·rw [hsz,hes]
   omega
  ·have:=(gI ((t.place.size+more) * 2) (by rw [hsz];omega)).1
   omega
 ·rw [if_neg hc]
  dsimp only
  refine wpAny_pure (q s.heap ds es ep t (Heap.SameBut.refl _ _) S (.refl _) ?_)
  omega
theorem oz {md:Bool} {a o:Addr} {oo:Obj} {body:Int×Value->PUnit->Sem (ForInStep PUnit)} {h0:Heap} {R:PUnit->Shared->Prop} (hu:A.units+20 < cLine) (hao:a≠o) (ho:h0.get? o=some oo)
  (hb:∀ (e:Int×Value) (s1:Shared) (R':ForInStep PUnit->Shared->Prop),wpAny (model P w) A (setAddHashed a e.2 e.1) (fun _ s2=>s2.heap.get? o=some oo/\R' (.yield ⟨⟩) s2) E s1->wpAny (model P w) A (body e ⟨⟩) R' E s1) :
  ∀ (l:List (Int×Value)) (ys ds:List PyData) (s:Shared),Paired (El vp w s.heap md) l ys->bB vp w s.heap a md ds->ds.length+ys.length<=120->s.heap.get? o=some oo ->
   (∀ h' ds',Heap.SameBut a s.heap h'->bB vp w h' a md ds'->(∀ d,d∈ds'<->d∈ds\/d∈ys)->R ⟨⟩ {s with heap:=h'})->wpAny (model P w) A (forIn l PUnit.unit body) R E s
 | [],_,ds,s,.nil,S,hl,hoo,q=>by
  rw [List.forIn_nil]
  exact wpAny_pure (q s.heap ds (Heap.SameBut.refl _ _) S fun d=>by simp)
 | e::l,_,ds,s,.cons (b:=y) (l₂:=ys) x xs,S,hl,hoo,q=>by
  rw [List.forIn_cons]
  simp only [List.length_cons] at hl
  refine wpAny_bind (hb e s _ (zS (d:=y) S x hu (by omega) (fun hm=>⟨hoo,?_⟩) fun hn h' ds' sb S' p=>⟨(sb.2 o hao.symm).trans hoo,?_⟩))
  ·exact oz hu hao ho hb l ys ds s xs S (by omega) hoo fun h' ds' g1 g2 g3=>q h' ds' g1 g2 fun d=>by
    rw [g3]
    simp only [List.mem_cons]
    constructor
    ·rintro (h | h)
     ·exact .inl h
     ·exact .inr (.inr h)
    ·rintro (h | rfl | h)
     ·exact .inl h
     ·exact .inl hm
     ·exact .inr h
  ·obtain ⟨es1,ep1,t1,S1⟩:=S
   refine oz hu hao ho hb l ys ds' {s with heap:=h'} (Paired.jh xs fun _ _ z=>El.keep z (dM S1.ob sb)) S' (by rw [p.length_eq];simp;omega) ((sb.2 o hao.symm).trans hoo) fun h2 ds2 g1 g2 g3=>q h2 ds2 (sb.trans g1) g2 fun d=>?_
   rw [g3,p.mem_iff]
   simp only [List.mem_cons]
   constructor
   ·rintro ((h | h) | h)
    ·exact .inr (.inl h)
    ·exact .inl h
    ·exact .inr (.inr h)
   ·rintro (h | h | h)
    ·exact .inl (.inr h)
    ·exact .inl (.inl h)
    ·exact .inr h
theorem t7 {md:Bool} {a o:Addr} {ds eds:List PyData} {each:Sem Unit} {eo:Array (Int×Value)} {epo:Nat} {to:SetTable} {Q:Unit->Shared->Prop} (hu:A.units+20 < cLine) (hao:a≠o) (S:bB vp w s.heap a md ds) (O:bT vp w s.heap o md eds eo epo to) (hl:ds.length+eds.length<=120)
  (he:∀ (s':Shared) (R:Unit->Shared->Prop),s'.heap.get? o=some (aV eo epo to)->R () s'->wpAny (model P w) A each R E s')
  (q:∀ h' ds' dr,Heap.SameBut a s.heap h'->bB vp w h' a md ds'->(∀ d,d∈ds'<->d∈ds\/d∈eds)->Q () {s with heap:=h',drawn:=dr}):wpAny (model P w) A (setMerge a o each) Q E s:=by
 unfold setMerge
 rw [if_neg (by simpa using hao)]
 refine wpAny_bind (bF O.ob O.tb.fits ?_)
 dsimp only
 have hosz:=O.size
 refine wpAny_ite_split (fun hz=>wpAny_pure ?_) fun hnz=>?_
 ·have e0:eds=[]:=by
   have:eo.size=0:=by simpa using hz
   exact List.length_eq_zero_iff.mp (by omega)
  subst e0
  exact q s.heap ds s.drawn (Heap.SameBut.refl _ _) S fun d=>by simp
 ·have hpos:0 < eo.size:=by
   apply Nat.pos_of_ne_zero
   intro z
   exact hnz (by simpa using z)
  have S0:=S
  obtain ⟨es0,ep0,t0,SA0⟩:=S
  refine wpAny_bind (BR (more:=eo.size) S0 (by omega) fun h1 ds1 es1 ep1 t1 sb1 S1 p1 r1=>?_)
  have O1:bT vp w h1 o md eds eo epo to:=O.other SA0.ob sb1 hao.symm
  have hm1:eo.size * 5 < t1.mask * 3:=by omega
  refine wpAny_bind (bF (s:={s with heap:=h1}) S1.ob S1.tb.fits ?_)
  dsimp only
  have ld':(t1.led && to.led)=true\/bS w=true:=by
   rcases S1.ld with z | z
   ·rcases O.ld with z2 | z2
    ·exact .inl (by rw [z,z2];rfl)
    ·exact .inr z2
   ·exact .inr z
  have emp:t1.fill=0->ds=[]:=fun z=>by
   have:=S1.size
   have:=S1.tb.sz
   unfold SetTable.fill at z
   have:ds1.length=0:=by omega
   rw [p1.length_eq] at this
   exact List.length_eq_zero_iff.mp this
  cases hr:t1.road to with
  | slotForSlot=>
   unfold SetTable.road at hr
   split at hr
   ·cases hr
   ·rename_i hf
    have hf0:t1.fill=0:=by simpa using hf
    split at hr
    ·rename_i hc
     refine fG (s:={s with heap:=h1}) S1.ob (by have:=O.ln;omega) fun h2 g1 g2=>?_
     have e0:=emp hf0
     subst e0
     refine q h2 eds s.drawn (sb1.trans g2) ⟨_,_,_,g1,O.tb.flags rfl rfl rfl,ld',O.nd,O.ln,Paired.jh O1.el fun _ _ x=>El.keep x (dM S1.ob g2)⟩ fun d=>by simp
    ·cases hr
  | clean=>
   unfold SetTable.road at hr
   split at hr
   ·cases hr
   ·rename_i hf
    have hf0:t1.fill=0:=by simpa using hf
    have e0:=emp hf0
    subst e0
    dsimp only
    obtain ⟨t',order,k1,k2,k3,k4,k5,k6⟩:=wU (es:=eo) (mask:=t1.mask) S1.tb.sm hm1 t1.finger t1.moves (t1.led && to.led) (t1.plain && to.plain)
    refine wpAny_bind ?_
    rw [k1]
    have hse:(order.filterMap (eo[·]?)).size=eo.size:=by
     have:=k3.length_eq
     rw [Array.length_toList,Array.length_toList] at this
     exact this
    show wpAny _ _ (if ((order.filterMap (eo[·]?)).size != eo.size)=true then _ else pure (order.filterMap (eo[·]?),t')) _ _ _
    rw [if_neg (by simp [hse])]
    refine wpAny_pure ?_
    dsimp only
    refine fG (s:={s with heap:=h1}) S1.ob (by rw [hse];have:=O.ln;omega) fun h2 g1 g2=>?_
    obtain ⟨ds2,p2,e2⟩:=fR k3.symm O1.el
    refine q h2 ds2 s.drawn (sb1.trans g2) ⟨_,_,_,g1,k2,by rw [k5];exact ld',rJ p2 O.nd,by rw [<- p2.length_eq];exact O.ln,Paired.jh e2 fun _ _ x=>El.keep x (dM S1.ob g2)⟩ fun d=>?_
    rw [<- p2.mem_iff]
    simp
  | oneByOne=>
   dsimp only
   refine wpAny_bind (x5 (s:={s with heap:=h1}) (md':=md) (f:=a) (fds:=ds1) O1 ⟨_,_,_,S1⟩ hao.symm fun L h2 dr pL sb2 S2=>?_)
   have O2:bT vp w h2 o md eds eo epo to:=O1.other S1.ob sb2 hao.symm
   obtain ⟨eds2,p2,e2⟩:=fR pL.symm O2.el
   rw [<- Array.forIn_toList]
   refine wpAny_bind (oz (R:=fun _ s'=>wpAny (model P w) A (pure ()) Q E s') (h0:=h2) hu hao O2.ob (fun e s1 R' hadd=>?_) L.toList eds2 ds1 {s with heap:=h2,drawn:=dr} e2 S2 (by rw [p1.length_eq,<- p2.length_eq];omega) O2.ob fun h3 ds3 sb3 S3 m3=>wpAny_pure ?_)
   ·obtain ⟨hh,xx⟩:=e
    dsimp only
    refine wpAny_bind (wpAny_holding (wpAny_mono hadd (fun _ s2 ⟨z1,z2⟩=>?_) fun _ _ z=>z))
    refine wpAny_bind (he s2 _ z1 ?_)
    refine wpAny_bind (bF z1 O.tb.fits ?_)
    dsimp only
    rw [if_neg (by simp)]
    exact wpAny_pure z2
   ·refine q h3 ds3 dr (sb1.trans (sb2.trans sb3)) S3 fun d=>?_
    rw [m3,p1.mem_iff,<- p2.mem_iff]
end
end gp
namespace gp
open PySem PySem.Spec L2 Ml
section
variable {P:Program} {w:World} {A:Around} {E:Value->Shared->Prop} {s:Shared} {vp:Value->Prop}
theorem t8 {h:Heap} {a:Addr} {led:Bool} {md:Bool} (ho:h.get? a=some (aV #[] 0 (.fresh 0 0 led))) (hl:led=true\/bS w=true):bB vp w h a md []:=
 ⟨#[],0,_,ho,⟨List.Pairwise.nil,List.Pairwise.nil,rfl,(by decide:(0:Nat) * 5 < 7 * 3),fun j hj=>by simp [SetTable.fresh] at hj,fun j hj=>by simp [SetTable.fresh] at hj,fun j hj=>by simp [SetTable.fresh] at hj,CZ.1,fun i e j h1=>by simp at h1⟩,hl,List.nodup_nil,by simp,.nil⟩
theorem x6 {md:Bool} {Q:Value->Shared->Prop} (q:∀ h',h'.objs.size=s.heap.objs.size+1->(∀ b o,s.heap.get? b=some o->h'.get? b=some o)->bB vp w h' s.heap.objs.size md []->Q (.ref s.heap.objs.size) {s with heap:=h'}):wpAny (model P w) A (newSet (.type "set")) Q E s:=by
 unfold newSet
 refine wpAny_bind (dY ?_)
 dsimp only
 simp only [newObj]
 refine wpAny_bind (wpAny_alloc (wpAny_pure ?_))
 refine q _ (Heap.size_push _ _) (fun b o e=>Heap.get?_push_of_some _ e) (t8 (Heap.get?_push_size _ rfl) ?_)
 cases bS w
 ·exact .inl rfl
 ·exact .inr rfl
theorem ie {md:Bool} {a:Addr} {ds:List PyData} (S:bB vp w s.heap a md ds):s.TypeIs (.ref a) "set" := let ⟨_,_,_,S⟩:=S;⟨_,S.ob,rfl⟩
theorem kR {md:Bool} {a:Addr} {ds:List PyData} (S:bB vp w s.heap a md ds) {Q:Bool->Shared->Prop} (q:Q true s):wpAny (model P w) A (Builtin.Frozenset.isAnySet (.ref a)) Q E s:=by
 unfold Builtin.Frozenset.isAnySet
 refine wpAny_bind (wpAny_isInstance (ie S) sub_set_self ?_)
 exact wpAny_pure q
theorem BS {md:Bool} {a:Addr} {ds:List PyData} (S:bB vp w s.heap a md ds) {Q:Value->Shared->Prop} (q:Q (.type "set") s):wpAny (model P w) A (Builtin.Frozenset.baseOf a) Q E s:=by
 unfold Builtin.Frozenset.baseOf
 refine wpAny_bind (wpAny_isInstance (ie S) sub_set_self ?_)
 exact wpAny_pure q
theorem BU {md:Bool} {a o:Addr} {ds eds:List PyData} {id:String} {Q:Unit->Shared->Prop} (hu:A.units+20 < cLine) (hao:a≠o) (S:bB vp w s.heap a md ds) (O:bB vp w s.heap o md eds) (hl:ds.length+eds.length<=120)
  (q:∀ h' ds' dr,Heap.SameBut a s.heap h'->bB vp w h' a md ds'->(∀ d,d∈ds'<->d∈ds\/d∈eds)->Q () {s with heap:=h',drawn:=dr}):wpAny (model P w) A (Builtin.Frozenset.updateFrom id a (.ref o)) Q E s:=by
 unfold Builtin.Frozenset.updateFrom
 refine wpAny_bind (kR O ?_)
 simp only [if_true]
 refine wpAny_bind (m:=Builtin.Frozenset.addrOf (.ref o)) (wpAny_pure ?_)
 obtain ⟨eo,epo,to,O⟩:=O
 unfold Builtin.Frozenset.merge
 refine wpAny_bind (wpAny_setEpoch_of O.ob rfl O.tb.fits ?_)
 refine t7 hu hao S O hl (fun s' R h1 h2=>?_) q
 unfold Builtin.Frozenset.unchanged
 refine wpAny_bind (wpAny_setEpoch_of h1 rfl O.tb.fits ?_)
 rw [if_neg (by simp)]
 exact wpAny_pure h2
def vn (vp:Value->Prop) (w:World) (s:Shared) (md:Bool) (G:PyData->Prop) (Q:Value->Shared->Prop):Prop:=∀ a h' ds dr,s.heap.objs.size<=a->(∀ b o,s.heap.get? b=some o->h'.get? b=some o)->bB vp w h' a md ds->(∀ d,d∈ds<->G d)->Q (.ref a) {s with heap:=h',drawn:=dr}
theorem BV {md:Bool} {o:Addr} {eds:List PyData} {Q:Value->Shared->Prop} (hu:A.units+20 < cLine) (O:bB vp w s.heap o md eds) (q:vn vp w s md (·∈eds) Q):wpAny (model P w) A (Builtin.Frozenset.copyOf o) Q E s:=by
 unfold Builtin.Frozenset.copyOf
 refine wpAny_bind (BS O ?_)
 refine wpAny_bind (x6 (vp:=vp) (md:=md) fun h1 sz k1 S1=>?_)
 obtain ⟨eo,epo,to,O⟩:=O
 have hne:s.heap.objs.size≠o:=Nat.ne_of_gt (Heap.lt_size O.ob)
 refine wpAny_bind (m:=Builtin.Frozenset.addrOf _) (wpAny_pure ?_)
 refine wpAny_bind (t7 (s:={s with heap:=h1}) hu hne S1 (O.keep k1) (by have:=O.ln;simpa using this) (fun s' R _ h2=>wpAny_pure h2) fun h2 ds2 dr sb S2 m2=>wpAny_pure ?_)
 refine q _ h2 ds2 dr (Nat.le_refl _) (fun b ob e=>(sb.2 b (Nat.ne_of_lt (Heap.lt_size e))).trans (k1 b ob e)) S2 fun d=>?_
 rw [m2]
 simp
end
end gp
namespace gp
open PySem PySem.Spec L2 Ml
theorem rM:entryFor table "set.__or__" = some Builtin.«frozenset.__or__» := entryFor_alias (id' := "frozenset.__or__") (by kernel_rfl) rfl (by decide +kernel) (by kernel_rfl)
theorem BW:typeLookup (.type "set") (dunderR "or")=pure (some (.builtin "set.__ror__")):=by rw [typeLookup_type,builtinLookup_eq_fast];kernel_rfl
theorem zU:fillsNumberSlot (.type "set") "or" = pure true:=fillsNumberSlot_of F.slot_set_or.lookup (by decide +kernel) BW
section
variable {P:Program} {w:World} {A:Around} {E:Value->Shared->Prop} {s:Shared} {vp:Value->Prop}
theorem Gm {md:Bool} {l r:Addr} {ds eds:List PyData} {Q:Value->Shared->Prop} (hu:A.units+21 < cLine) (hlr:l≠r) (L:bB vp w s.heap l md ds) (R:bB vp w s.heap r md eds) (hl:ds.length+eds.length<=120) (q:vn vp w s md (fun d=>d∈ds\/d∈eds) Q) :
  wpAny (model P w) A (binaryOp .BitOr (.ref l) (.ref r)) Q E s:=by
 refine wpAny_binaryOp_same (op:=.BitOr) (ie L) (ie R) zU F.slot_set_or (wpAny_call_entry F.slot_set_or (ie L) rM ?_ (F.args_set_or_2 _ _))
 show wpAny _ _ (Builtin.Frozenset.slot1 "__or__" ⟨[.ref l,.ref r],[]⟩ >>= _) _ _ _
 refine wpAny_bind (wpAny_of_eq (a:=(Value.ref l,Value.ref r)) rfl ?_)
 dsimp only
 refine wpAny_bind (m:=(Builtin.Frozenset.isAnySet (.ref l) <&&> Builtin.Frozenset.isAnySet (.ref r))) (wpAny_bind (kR L ?_))
 refine kR R ?_
 simp only [Bool.not_true,Bool.false_eq_true,if_false]
 refine wpAny_bind (m:=Builtin.Frozenset.addrOf (.ref l)) (wpAny_pure ?_)
 refine wpAny_bind ?_
 show wpAny _ _ (Builtin.Frozenset.copyOf l >>= _) _ _ _
 refine wpAny_bind (BV (by show A.units+1+20 < cLine;omega) L fun a h1 ds1 dr1 ha k1 S1 m1=>?_)
 obtain ⟨eo,epo,to,R⟩:=R
 have hr:a≠r:=Nat.ne_of_gt (Nat.lt_of_lt_of_le (Heap.lt_size R.ob) ha)
 have hlen:ds1.length=ds.length:=by
  obtain ⟨_,_,_,L'⟩:=L
  obtain ⟨_,_,_,S1'⟩:=S1
  exact (List.perm_ext_iff_of_nodup S1'.nd L'.nd).mpr m1 |>.length_eq
 have hc:(Value.ref r != Value.ref l)=true:=by
  rw [bne_iff_ne]
  exact fun z=>hlr (Value.ref.inj z).symm
 rw [if_pos hc]
 refine wpAny_bind (m:=Builtin.Frozenset.addrOf _) (wpAny_pure (wpAny_bind (wpAny_holding ?_)))
 refine BU (s:={s with heap:=h1,drawn:=dr1}) (by show A.units+1+20 < cLine;omega) hr S1 ⟨_,_,_,R.keep k1⟩ (by omega) fun h2 ds2 dr2 sb S2 m2=>?_
 refine wpAny_pure (wpAny_pure ⟨_,rfl,(fun z=>nomatch z),q a h2 ds2 dr2 ha (fun b ob e=>(sb.2 b fun z=>?_).trans (k1 b ob e)) S2 fun d=>?_⟩)
 ·have:=Heap.lt_size e
  rw [z] at this
  exact absurd this (Nat.not_lt.mpr ha)
 ·rw [m2,m1]
end
end gp
namespace gp
open PySem PySem.Spec L2 Ml
theorem sub_tuple_set:isSubtype (.type "tuple") (.type "set")=pure false:=by rw [isSubtype_type];kernel_rfl
theorem sub_tuple_frozenset:isSubtype (.type "tuple") (.type "frozenset")=pure false:=by rw [isSubtype_type];kernel_rfl
def ES (md:Bool) (d:PyData):Prop:=ai d=true/\d.depth<=8/\cg d=true/\dU d=md
section
variable {P:Program} {w:World} {A:Around} {E:Value->Shared->Prop} {s:Shared} {vp:Value->Prop}
theorem zV {R:Result->Shared->Prop} {I:Addr} {fp wr:List Addr} {n:Nat} {Pv:Nat->Value->Prop} {St:Nat->Heap->Prop} {md:Bool} {ys:List PyData} {h0:Heap} (W:Walks P w A.in1 I fp wr n Pv St) (S:Addr) (hSf:S∉fp) (hn:n=ys.length) (hl:n<=120) (hu:A.in1.units+20 < cLine)
  (hv:∀ i v,Pv i v->∃ y,ys[i]?=some y/\ES md y/\vp v/\∃ as,Reads h0 v y as) (hw:∀ b o,h0.get? b=some o->b∉wr) (hS0:h0.get? S=none) (hit:∀ i h,St i h->∀ b∈wr,∀ o,h.get? b=some o->o.cls≠.type "tuple") :
  ∀ (k i:Nat) (s:Shared) (ds:List PyData),n - i=k->i<=n->St i s.heap->bB vp w s.heap S md ds->(∀ d,d∈ds<->d∈ys.take i)->ds.length<=i->(∀ b o,h0.get? b=some o->s.heap.get? b=some o) ->
   (∀ h' tk ds',bB vp w h' S md ds'->(∀ d,d∈ds'<->d∈ys)->(∀ b o,h0.get? b=some o->h'.get? b=some o)->R (.ok (.ret .none)) {s with heap:=h',toks:=tk}) ->
   codeAny (model P w) A (.builtin "set.update.loop" ⟨[.ref S,.ref I],[]⟩) R s:=by
 have hSw:S∉wr:=fun h=>hSf (W.sub _ h)
 intro k
 induction k with
 | zero=>
  intro i s ds hk hi hst hS hm hd h0k hR
  have hin:i=n:=by omega
  subst hin
  refine codeAny_builtin PyProof.Rows.F.entry_set_update_loop ?_
  rw [Around.under_plainId PyProof.Rows.F.plain_set_update_loop _]
  show wpAny _ A.in1 (pyNext (.ref I) >>= _) _ _ s
  refine wpAny_bind (W.done s _ _ hst fun h' tk kp=>?_)
  show wpAny _ A.in1 (ret Value.none) _ _ _
  obtain ⟨es,ep,t,S'⟩:=hS
  have kt:∀ b o vs n,s.heap.get? b=some o->o.cls=.type "tuple" -> o.data=.seq vs n->h'.get? b=some o:=fun b o vs n e c _=>kp b o (fun z=>hit _ _ hst b z o e c) e
  exact wpAny_pure (hR h' tk ds ⟨es,ep,t,kp _ _ hSw S'.ob,S'.tb,S'.ld,S'.nd,S'.ln,Paired.jh S'.el fun _ _ x=>El.keep x kt⟩ (fun d=>by rw [hm,hn,List.take_length]) fun b o e=>kp b o (hw b o e) (h0k b o e))
 | succ k ih=>
  intro i s ds hk hi hst hS hm hd h0k hR
  have hlt:i < n:=by omega
  refine codeAny_builtin PyProof.Rows.F.entry_set_update_loop ?_
  rw [Around.under_plainId PyProof.Rows.F.plain_set_update_loop _]
  show wpAny _ A.in1 (pyNext (.ref I) >>= _) _ _ s
  refine wpAny_bind (W.item i s _ _ hlt hst fun v h1 tk1 hP hst' kp=>?_)
  obtain ⟨y,hy,⟨y1,y2,y3,y4⟩,vy,as,ry⟩:=hv i v hP
  obtain ⟨es,ep,t,S'⟩:=hS
  have kt:∀ b o vs n,s.heap.get? b=some o->o.cls=.type "tuple" -> o.data=.seq vs n->h1.get? b=some o:=fun b o vs n e c _=>kp b o (fun z=>hit _ _ hst b z o e c) e
  have h0k1:∀ b o,h0.get? b=some o->h1.get? b=some o:=fun b o e=>kp b o (hw b o e) (h0k b o e)
  have S1:bB vp w h1 S md ds:=⟨es,ep,t,kp _ _ hSw S'.ob,S'.tb,S'.ld,S'.nd,S'.ln,Paired.jh S'.el fun _ _ x=>El.keep x kt⟩
  have r1:Reads h1 v y as:=gk (fun b o vs n e _ _=>h0k1 b o e) y1 ry
  have ey:El vp w h1 md (lr w y,v) y:=⟨y1,y2,y3,rfl,y4,⟨as,r1⟩,vy⟩
  show wpAny _ A.in1 (holding [v] (setAdd S v) >>= _) _ _ _
  refine wpAny_bind (wpAny_holding ?_)
  unfold setAdd
  refine wpAny_holding ?_
  refine wpAny_bind (jr y A.in1 {s with heap:=h1,toks:=tk1} v as _ _ y1 r1 (by omega) ?_)
  have htk:ys.take (i+1)=ys.take i++[y]:=by rw [List.take_add_one,hy];rfl
  refine zS (s:={s with heap:=h1,toks:=tk1+jq y}) S1 ey hu (by omega) (fun hmem=>?_) fun hnm h2 ds2 sb S2 p2=>?_
  ·refine wpAny_pure ⟨plainId_quiet PyProof.Rows.F.plain_set_update_loop _,ih (i+1) _ ds (by omega) hlt hst' S1 (fun d=>?_) (by omega) h0k1 fun h' tk ds' a b c=>hR h' tk ds' a b c⟩
   rw [htk,List.mem_append,<- hm]
   constructor
   ·exact .inl
   ·rintro (z | z)
    ·exact z
    ·rw [List.mem_singleton.mp z];exact hmem
  ·obtain ⟨es1,ep1,t1,S1'⟩:=S1
   refine wpAny_pure ⟨plainId_quiet PyProof.Rows.F.plain_set_update_loop _,ih (i+1) {s with heap:=h2,toks:=tk1+jq y} ds2 (by omega) hlt (W.frame _ _ _ hst' fun b hb o e=>(sb.2 b fun z=>hSf (z▸hb)).trans e) S2 (fun d=>?_) (by rw [p2.length_eq];simp;omega) (fun b o e=>(sb.2 b fun z=>?_).trans (h0k1 b o e)) fun h' tk ds' a b c=>hR h' tk ds' a b c⟩
   ·rw [p2.mem_iff,htk,List.mem_append,<- hm,List.mem_cons,List.mem_singleton]
    exact Or.comm
   ·rw [z,hS0] at e
    cases e
theorem oA (a:Value) {Q₁:Value->Shared->Prop} (h:Q₁ (.ref s.heap.objs.size) {s with heap:=s.heap.push (aV #[] 0 (.fresh 0 0 (!bS w)))}) :
  codeAny (model P w) A (.call (.builtin "set.__new__") ⟨[.type "set",a],[]⟩) (wants Q₁ E) s:=by
 refine codeAny_of_tree ?_
 show wpAny _ A.in1 (do checkBuiltinCall "set.__new__" ⟨[.type "set",a],[]⟩;again (.builtin "set.__new__" ⟨[.type "set",a],[]⟩)) _ _ s
 refine wpAny_bind (wpAny_of_eq (F.newCall_set_1 a) (wpAny_pure ⟨plainId_quiet F.plain_set_new _,codeAny_builtin F.entry_set_new ?_⟩))
 rw [Around.under_plainId F.plain_set_new _]
 unfold Builtin.«set.__new__» Builtin.Frozenset.newClass
 have hsub:=sub_set_self
 obtain ⟨hp,g,d,tk,os⟩:=s
 dsimp only
 wp_walk
 refine wpAny_askSetting (wpAny_pure ?_)
 dsimp only
 simp only [newObj]
 refine wpAny_bind (wpAny_alloc (wpAny_pure ?_))
 exact wpAny_pure h
structure Src (P:Program) (w:World) (T:String) (l:Addr) (items:Array Value) (OK:Heap->Prop):Prop where
 ob:∀ h,OK h->∃ od n sl,h.get? l=some {cls:=.type T,dict:=od,data:=.seq items n,slots:=sl}
 kp:∀ h h',OK h->(∀ o,h.get? l=some o->h'.get? l=some o)->OK h'
 s1:isSubtype (.type T) (.type "set")=pure false
 s2:isSubtype (.type T) (.type "frozenset")=pure false
 nd:(Value.type T == Value.type "dict")=false
 it:∀ (A:Around) (E:Value->Shared->Prop) (s:Shared),A.handled=none->OK s.heap->∃ (oI:Obj) (St:Nat->Heap->Prop),oI.cls≠.type "tuple" /\
  (∀ Q:Value->Shared->Prop,Q (.ref s.heap.objs.size) {s with heap:=s.heap.push oI}->wpAny (model P w) A (pyIter (.ref l)) Q E s) /\
  (∀ A':Around,A'.handled=none->Walks P w A' s.heap.objs.size [s.heap.objs.size,l] [s.heap.objs.size] items.size (fun i v=>items[i]?=some v) St)/\St 0 (s.heap.push oI)/\(∀ i h,St i h->∀ o,h.get? s.heap.objs.size=some o->o.cls≠.type "tuple")
theorem src_list (l:Addr) (items:Array Value):Src P w "list" l items (fun h=>h.IsList l items) where
 ob:=fun h ⟨⟨c,d,da,sl⟩,ho,hc,n,hd⟩=>⟨d,n,sl,by cases hc;cases hd;exact ho⟩
 kp:=fun h h' x k=>x.at k
 s1:=F.sub_list_set
 s2:=F.sub_list_frozenset
 nd:=by decide
 it:=fun A E s hh hl=>by
  have hlS:l < s.heap.objs.size:=by obtain ⟨_,e,_⟩:=hl;exact Heap.lt_size e
  exact ⟨{cls:=.type "list_iterator",data:=.fields #[.ref l,.int 0 0]},_,fun z=>absurd (Value.type.inj z) (by decide),fun Q q=>wpAny_pyIter_list hl q,fun A' h'=>Walks.list h' _ l (Nat.ne_of_lt hlS) items,⟨⟨_,Heap.get?_push_size _ rfl,rfl,rfl⟩,hl.push _⟩,fun i h ⟨⟨o',e,c,_⟩,_⟩ o eo=>by
   rw [e] at eo
   cases eo
   rw [c]
   exact fun z=>absurd (Value.type.inj z) (by decide)⟩
theorem src_tuple (l:Addr) (items:Array Value):Src P w "tuple" l items (fun h=>h.IsTuple l items) where
 ob:=fun h ⟨⟨c,d,da,sl⟩,ho,hc,n,hd⟩=>⟨d,n,sl,by cases hc;cases hd;exact ho⟩
 kp:=fun h h' ⟨o,e,r⟩ k=>⟨o,k _ e,r⟩
 s1:=sub_tuple_set
 s2:=sub_tuple_frozenset
 nd:=by decide
 it:=fun A E s hh hl=>by
  have hlS:l < s.heap.objs.size:=by obtain ⟨_,e,_⟩:=hl;exact Heap.lt_size e
  exact ⟨{cls:=.type "tuple_iterator",data:=.fields #[.ref l,.int 0 0]},_,fun z=>absurd (Value.type.inj z) (by decide),fun Q q=>wpAny_pyIter_tuple hl q,fun A' h'=>Walks.tuple h' _ l (Nat.ne_of_lt hlS) items,⟨⟨_,Heap.get?_push_size _ rfl,rfl,rfl⟩,hl.push _⟩,fun i h ⟨⟨o',e,c,_⟩,_⟩ o eo=>by
   rw [e] at eo
   cases eo
   rw [c]
   exact fun z=>absurd (Value.type.inj z) (by decide)⟩
end
end gp
namespace gp
open PySem PySem.Spec L2 Ml
section
variable {P:Program} {w:World} {A:Around} {E:Value->Shared->Prop} {s:Shared} {vp:Value->Prop}
theorem readsAll_get {h:Heap}:∀ {vs:List Value} {ds:List PyData} {as:List Addr},ReadsAll h vs ds as->∀ {i:Nat} {v:Value},vs[i]?=some v->∃ d bs,ds[i]?=some d/\Reads h v d bs
 | _,_,_,.nil,i,v,e=>by simp at e
 | _,_,_,.cons r _,0,v,e=>by simp at e;subst e;exact ⟨_,_,rfl,r⟩
 | _,_,_,.cons _ t,i+1,v,e=>by simpa using readsAll_get t (i:=i) (by simpa using e)
set_option maxHeartbeats 3200000 in
theorem oB {T:String} {l:Addr} {items:Array Value} {OK:Heap->Prop} {md:Bool} {ys:List PyData} {as:List Addr} {Q:Value->Shared->Prop} (K:Src P w T l items OK) (hh:A.handled=none) (hl:OK s.heap) (hr:ReadsAll s.heap items.toList ys as) (he:∀ y∈ys,ES md y) (hvp:∀ v∈items.toList,vp v) (hn:ys.length<=120) (hu:A.units+25 < cLine)
  (h:∀ h' tk ds,bB vp w h' s.heap.objs.size md ds->(∀ d,d∈ds<->d∈ys)->(∀ b o,s.heap.get? b=some o->h'.get? b=some o)->Q (.ref s.heap.objs.size) {s with heap:=h',toks:=tk}) :
  wpAny (model P w) A (call (.type "set") [.ref l]) Q E s:=by
 have hr0:=hr
 have hlen:items.size=ys.length:=by
  have:=readsAll_len hr
  simpa using this
 obtain ⟨c,tl,hmro⟩:=F.called_set.mro
 have hmade:=F.called_set.made
 have hsub:=F.called_set.sub
 refine wpAny_call (codeAny_of_tree ?_)
 show wpAny _ _ (callAny (.type "set") _) _ _ _
 refine wpAny_pure ⟨Code.quiet_builtin _ (by decide +kernel),codeAny_builtin F.entry_type_call ?_⟩
 rw [Around.under_plain (weight_type_call_type "set" [.ref l] []) rfl]
 have h1:=F.called_set.notType
 have h2:=F.called_set.canCreate
 have hct:=F.typeCall_set_1 (.ref l)
 repeat (any_goals (first | assumption | wp_step))
 refine codeAny_mono (oA (.ref l) (E:=E) (Q₁:=fun obj s₁=>obj=.ref s.heap.objs.size/\s₁={s with heap:=s.heap.push (aV #[] 0 (.fresh 0 0 (!bS w)))}) ⟨rfl,rfl⟩) fun r s₁ hr=>?_
 cases r with
 | error e=>exact hr
 | ok fl=>
  cases fl with
  | ret obj=>
   obtain ⟨rfl,rfl⟩:=hr
   have hS:(s.heap.push (aV #[] 0 (.fresh 0 0 (!bS w)))).get? s.heap.objs.size=some (aV #[] 0 (.fresh 0 0 (!bS w))):=Heap.get?_push_size _ rfl
   have hT:Shared.TypeIs {s with heap:=s.heap.push (aV #[] 0 (.fresh 0 0 (!bS w)))} (.ref s.heap.objs.size) "set" := ⟨_,hS,rfl⟩
   have hli:=F.called_set.init.lookup
   have hbi:=F.called_set.init.bind (.ref s.heap.objs.size)
   repeat (any_goals (first | assumption | wp_step))
   refine codeAny_mono (codeAny_call_builtin (R:=wants (fun r s₂=>r=.none/\∃ h' tk ds,s₂={s with heap:=h',toks:=tk}/\bB vp w h' s.heap.objs.size md ds/\(∀ d,d∈ds<->d∈ys)/\(∀ b o,s.heap.get? b=some o->h'.get? b=some o)) E) F.called_set.init.plain F.entry_set_init (check_set_init_1 hT ?_)) fun r₂ s₂ hr₂=>?_
   ·obtain ⟨odict,nl,oslots,hol⟩:=K.ob _ hl
    have hol':(s.heap.push (aV #[] 0 (.fresh 0 0 (!bS w)))).get? l=some {cls:=.type T,dict:=odict,data:=.seq items nl,slots:=oslots}:=Heap.get?_push_of_some _ hol
    have hsls:=K.s1
    have hslf:=K.s2
    have hne:=K.nd
    have hl1:OK (s.heap.push (aV #[] 0 (.fresh 0 0 (!bS w)))):=K.kp _ _ hl fun o e=>Heap.get?_push_of_some _ e
    have hh3:A.in1.in1.in1.handled=none:=by simp [hh]
    obtain ⟨oI,St,i1,i2,i3,i4,i5⟩:=K.it A.in1.in1 (fun e s'=>wants (fun r s₂=>r=.none/\∃ h' tk ds,s₂={s with heap:=h',toks:=tk}/\bB vp w h' s.heap.objs.size md ds/\(∀ d,d∈ds<->d∈ys)/\(∀ b o,s.heap.get? b=some o->h'.get? b=some o)) E (.error e) s') {s with heap:=s.heap.push (aV #[] 0 (.fresh 0 0 (!bS w)))} (by simp [hh]) hl1
    unfold Builtin.«set.__init__» noKeywords Builtin.Frozenset.updateFrom
    generalize hPI:pyIter=PI
    wp_walk
    subst hPI
    refine i2 _ ?_
    refine wpAny_bind (wpAny_runValue ?_)
    have hlS:l < s.heap.objs.size:=Heap.lt_size hol
    have hsz:(s.heap.push (aV #[] 0 (.fresh 0 0 (!bS w)))).objs.size=s.heap.objs.size+1:=Heap.size_push _ _
    have hSf:s.heap.objs.size∉[(s.heap.push (aV #[] 0 (.fresh 0 0 (!bS w)))).objs.size,l]:=by
     rw [hsz];simp only [List.mem_cons,List.mem_singleton,List.not_mem_nil,or_false,not_or]
     exact ⟨Nat.ne_of_lt (Nat.lt_succ_self _),Nat.ne_of_gt hlS⟩
    have hS0:s.heap.get? s.heap.objs.size=none:=by
     cases e:s.heap.get? s.heap.objs.size with
     | none=>rfl
     | some o=>exact absurd (Heap.lt_size e) (Nat.lt_irrefl _)
    refine zV (vp:=vp) (A:=A.in1.in1) (h0:=s.heap) (ys:=ys) (md:=md) (i3 A.in1.in1.in1 hh3) s.heap.objs.size hSf hlen (by omega) (by show A.units+1+1+1+20 < cLine;omega) (fun i v hv=>?_) (fun b o e hb=>?_) hS0 (fun i h st b hb o e=>?_) (items.size - 0) 0 _ [] rfl (Nat.zero_le _) i4 (t8 (Heap.get?_push_of_some _ hS) ?_) (fun d=>by simp) (Nat.zero_le _) (fun b o e=>Heap.get?_push_of_some _ (Heap.get?_push_of_some _ e)) fun h' tk ds g1 g2 g3=>?_
    ·obtain ⟨d,bs,e1,e2⟩:=readsAll_get hr0 (i:=i) (by rw [Array.getElem?_toList];exact hv)
     exact ⟨d,e1,he d (List.mem_of_getElem? e1),hvp v (List.mem_of_getElem? (by rw [Array.getElem?_toList];exact hv)),bs,e2⟩
    ·have:=Heap.lt_size e
     rw [List.mem_singleton.mp hb] at this
     have e2:(s.heap.push (aV #[] 0 (.fresh 0 0 (!bS w)))).objs.size < s.heap.objs.size:=this
     rw [hsz] at e2
     exact absurd e2 (Nat.not_lt.mpr (Nat.le_succ _))
    ·exact i5 i h st o (by rw [List.mem_singleton.mp hb] at e;exact e)
    ·cases bS w
     ·exact .inl rfl
     ·exact .inr rfl
    ·refine wpAny_pure ?_
     show wpAny _ _ (ret Value.none) _ _ _
     exact wpAny_pure ⟨rfl,h',tk,ds,rfl,g1,g2,g3⟩
   ·cases r₂ with
    | error e=>exact hr₂
    | ok fl₂=>
     cases fl₂ with
     | ret r=>
      obtain ⟨rfl,h',tk,ds,rfl,hS',hm',hk'⟩:=hr₂
      repeat (any_goals (first | assumption | wp_step))
      exact h _ _ _ hS' hm' hk'
     | _=>exact hr₂.elim
  | _=>exact hr.elim
end
end gp
namespace gp
open PySem PySem.Spec L2 Ml
abbrev fS (v:Value) (i:Nat) (o:Value) (n ep:Nat):Obj:={cls:=.type "set_iterator",dict:=none,data:=.fields #[v,.int i 0,o,.int n 0,.int ep 0],slots:=#[]}
theorem oC:entryFor table "set.__iter__" = some Builtin.«frozenset.__iter__» := entryFor_alias (id' := "frozenset.__iter__") (by kernel_rfl) rfl (by decide +kernel) (by kernel_rfl)
theorem eB:entryFor table "set_iterator.__next__" = some Builtin.«set_iterator.__next__» := entryFor_of_tree (by kernel_rfl)
theorem bo:Slot "set_iterator" "__next__" "set_iterator.__next__" :=
 .of (owner := "set_iterator") (n := "__next__") (by rw [typeLookup_type,builtinLookup_eq_fast];kernel_rfl) (by decide +kernel) (by decide +kernel) (by decide +kernel)
  (by first | exact .inl (by decide +kernel) | exact .inr (by decide +kernel)) (by rw [isSubtype_type];kernel_rfl)
theorem t9:Manifest.owners.lookup (String.ofList ['r', 'o', 't', 'a', 'r', 'e', 't', 'i', '_', 't', 'e', 's'].reverse)=some Manifest.sig_set_iterator:=by kernel_rfl
theorem fc (a:Value):argsOk "set_iterator.__next__" ⟨[a],[]⟩:=by
 unfold argsOk;rw [signature?_of (id := "set_iterator.__next__") (n:=['_', '_', 't', 'x', 'e', 'n', '_', '_']) (o:=['r', 'o', 't', 'a', 'r', 'e', 't', 'i', '_', 't', 'e', 's']) (by kernel_rfl) t9];kernel_rfl
section
variable {P:Program} {w:World} {A:Around} {E:Value->Shared->Prop} {s:Shared} {vp:Value->Prop}
theorem kS {I:Addr} {v:Value} {i:Nat} {o:Value} {n ep:Nat} {k:Nat} {x:Value} {Q:Unit->Shared->Prop} (hit:s.heap.get? I=some (fS v i o n ep)) (hk:k < 5)
  (q:∀ h',h'.get? I=some {cls:=.type "set_iterator",dict:=none,data:=.fields ((#[v,.int i 0,o,.int n 0,.int ep 0]:Array Value).setIfInBounds k x),slots:=#[]}->Heap.SameBut I s.heap h'->Q () {s with heap:=h'}):wpAny (model P w) A (setField (.ref I) k x) Q E s:=by
 refine wpAny_setField hit rfl (by simpa using hk) (q _ ?_ (Heap.SameBut.update ..))
 have:=Heap.get?_update_self (Obj.mapFields (·.setIfInBounds k x)) hit (Obj.isFreed_of_fields (Obj.data_mapFields rfl _))
 rw [this]
 rfl
theorem dP {I:Addr} {v:Value} {i:Nat} {o:Value} {n ep:Nat} (hit:s.heap.get? I=some (fS v i o n ep)):s.TypeIs (.ref I) "set_iterator" := ⟨_,hit,rfl⟩
theorem wX {I:Addr} {h0:Heap} {B:Builtin->Prop} {Q:Option Value->Shared->Prop} (hh:A.handled=none) (hQ:∀ h',Heap.ExtBut I h0 h'->Q none {s with heap:=h'}) (he:Heap.ExtBut I h0 s.heap) :
  wpAny (model P w) A.in1 (newExc (.type "StopIteration") [] >>= fun e=>(raiseNew e:Sem PySem.Fin)) (fun fin s'=>∃ r,fin=.done (.ret r)/\wpAny (model P w) A (pure (some r)) Q E s') (fun e s'=>wpAny (model P w) A (do if <- isInstance e (.type "StopIteration") then pure none else throw e) Q E s') s:=by
 refine wpAny_bind ?_
 simp only [newExc,newTuple]
 refine wpAny_bind (wpAny_newObj_type ?_ (by size_fits))
 refine wpAny_bind (m:=firstArgMember _ _) (wpAny_of_eq (a:=Value.none) (by first | rfl | (simp only [firstArgMember];rfl)) ?_)
 refine wpAny_newObj_type ?_ (by size_fits)
 simp only [raiseNew]
 refine wpAny_bind (wpAny_handled ?_)
 rw [show A.in1.handled=none from hh]
 refine wpAny_bind (wpAny_pure (wpAny_throw ?_))
 refine wpAny_bind (wpAny_isInstance (T := "StopIteration") (b:=true) ⟨_,Heap.get?_push_size _ rfl,rfl⟩ isSubtype_stop ?_)
 exact wpAny_pure (hQ _ ((he.push _).push _))
end
end gp
namespace gp
open PySem PySem.Spec L2 Ml
section
variable {P:Program} {w:World} {A:Around} {E:Value->Shared->Prop} {s:Shared} {vp:Value->Prop}
variable {I a T:Addr} {i n ep sl:Nat} {es:Array (Int×Value)} {t:SetTable}
theorem mP {v:Value} {Q:PySem.Fin->Shared->Prop} {E':Value->Shared->Prop} (hit:s.heap.get? I=some (fS v i (.ref a) n ep)) (ob:s.heap.get? a=some (aV es ep t)) (ft:t.fits es.size=true) (hn:es.size=n)
  (q:wpAny (model P w) A (match v with
   | .int slot _=>do
    match <- setNext a slot.toNat i ep with
    | some (x,next)=>
     setField (.ref I) 0 (rawInt next)
     setField (.ref I) 1 (rawInt ((i:Int)+1))
     ret x
    | none=>setField (.ref I) 2 .none;raiseNew (<- newExc (.type "StopIteration") [])
   | first=>do
    let some places <- seqItems? first | unsupported "internal:set_iterator"
    match places[i]? with
    | some (.int place _)=>
     let x <- setNextDrawn a place.toNat ep
     setField (.ref I) 1 (rawInt ((i:Int)+1))
     ret x
    | some _=>unsupported "internal:set_iterator"
    | none=>setField (.ref I) 0 (rawInt 0);setField (.ref I) 2 .none;raiseNew (<- newExc (.type "StopIteration") [])) Q E' s) :
  wpAny (model P w) A (Builtin.«set_iterator.__next__» ⟨[.ref I],[]⟩) Q E' s:=by
 unfold Builtin.«set_iterator.__next__»
 refine wpAny_bind (wpAny_of_eq (a:=(Value.ref I,[])) rfl ?_)
 dsimp only
 refine wpAny_bind (wpAny_fieldsOf hit rfl ?_)
 dsimp only
 refine wpAny_bind (wpAny_setEntries_of ob rfl ft ?_)
 rw [if_neg (by simp [hn])]
 simp only [Int.toNat_natCast]
 cases v<;>exact q
theorem ua {x:Value} {nx:Nat} {Q:Option Value->Shared->Prop} (hit:s.heap.get? I=some (fS (.int sl 0) i (.ref a) n ep)) (ob:s.heap.get? a=some (aV es ep t)) (ft:t.fits es.size=true) (hn:es.size=n)
  (hs:∀ (A':Around) (Q':Option (Value×Nat)->Shared->Prop) (E':Value->Shared->Prop),Q' (some (x,nx)) s->wpAny (model P w) A' (setNext a sl i ep) Q' E' s)
  (q:∀ h',h'.get? I=some (fS (.int nx 0) (i+1) (.ref a) n ep)->Heap.SameBut I s.heap h'->Q (some x) {s with heap:=h'}):wpAny (model P w) A (pyNext (.ref I)) Q E s:=by
 unfold pyNext
 refine wpAny_bind (wpAny_attempt (wpAny_callSpecial?_slot (name:=Str.ofString "__next__") (dP hit) bo (wpAny_call_entry bo (dP hit) eB ?_ (fc _))))
 refine mP hit ob ft hn ?_
 dsimp only
 simp only [Int.toNat_natCast]
 refine wpAny_bind (hs _ _ _ ?_)
 dsimp only
 refine wpAny_bind (kS hit (by omega) fun h1 g1 b1=>?_)
 have g1':h1.get? I=some (fS (.int nx 0) i (.ref a) n ep):=g1
 refine wpAny_bind (kS (s:={s with heap:=h1}) g1' (by omega) fun h2 g2 b2=>?_)
 exact wpAny_pure ⟨_,rfl,wpAny_pure (q h2 g2 (b1.trans b2))⟩
theorem wY {Q:Option Value->Shared->Prop} (hh:A.handled=none) (hit:s.heap.get? I=some (fS (.int sl 0) i (.ref a) n ep)) (ob:s.heap.get? a=some (aV es ep t)) (ft:t.fits es.size=true) (hn:es.size=n)
  (hs:∀ (A':Around) (Q':Option (Value×Nat)->Shared->Prop) (E':Value->Shared->Prop),Q' none s->wpAny (model P w) A' (setNext a sl i ep) Q' E' s)
  (q:∀ h',Heap.ExtBut I s.heap h'->Q none {s with heap:=h'}):wpAny (model P w) A (pyNext (.ref I)) Q E s:=by
 unfold pyNext
 refine wpAny_bind (wpAny_attempt (wpAny_callSpecial?_slot (name:=Str.ofString "__next__") (dP hit) bo (wpAny_call_entry bo (dP hit) eB ?_ (fc _))))
 refine mP hit ob ft hn ?_
 dsimp only
 simp only [Int.toNat_natCast]
 refine wpAny_bind (hs _ _ _ ?_)
 dsimp only
 refine wpAny_bind (kS hit (by omega) fun h1 g1 b1=>?_)
 exact wX (s:={s with heap:=h1}) (h0:=s.heap) (B:=fun _=>True) hh q b1.extBut
theorem zW {pl:Array Value} {place:Nat} {x:Int×Value} {Q:Option Value->Shared->Prop} (hit:s.heap.get? I=some (fS (.ref T) i (.ref a) n ep)) (ob:s.heap.get? a=some (aV es ep t)) (ft:t.fits es.size=true) (hn:es.size=n) (hT:s.heap.IsTuple T pl) (hp:pl[i]?=some (rawInt place)) (hx:es[place]?=some x)
  (q:∀ h',h'.get? I=some (fS (.ref T) (i+1) (.ref a) n ep)->Heap.SameBut I s.heap h'->Q (some x.2) {s with heap:=h'}):wpAny (model P w) A (pyNext (.ref I)) Q E s:=by
 unfold pyNext
 refine wpAny_bind (wpAny_attempt (wpAny_callSpecial?_slot (name:=Str.ofString "__next__") (dP hit) bo (wpAny_call_entry bo (dP hit) eB ?_ (fc _))))
 refine mP hit ob ft hn ?_
 dsimp only
 obtain ⟨oT,gT,cT,nT,dT⟩:=hT
 refine wpAny_bind (wpAny_seqItems gT dT ?_)
 dsimp only
 rw [hp]
 show wpAny _ _ (setNextDrawn a (Int.toNat (place:Nat)) ep >>= _) _ _ _
 rw [Int.toNat_natCast]
 unfold setNextDrawn
 refine wpAny_bind (wpAny_bind (bF ob ft ?_))
 dsimp only
 rw [if_neg (by simp),hx]
 refine wpAny_pure ?_
 refine wpAny_bind (kS hit (by omega) fun h1 g1 b1=>?_)
 exact wpAny_pure ⟨_,rfl,wpAny_pure (q h1 g1 b1)⟩
theorem BX {pl:Array Value} {Q:Option Value->Shared->Prop} (hh:A.handled=none) (hit:s.heap.get? I=some (fS (.ref T) i (.ref a) n ep)) (ob:s.heap.get? a=some (aV es ep t)) (ft:t.fits es.size=true) (hn:es.size=n) (hT:s.heap.IsTuple T pl) (hp:pl[i]?=none)
  (q:∀ h',Heap.ExtBut I s.heap h'->Q none {s with heap:=h'}):wpAny (model P w) A (pyNext (.ref I)) Q E s:=by
 unfold pyNext
 refine wpAny_bind (wpAny_attempt (wpAny_callSpecial?_slot (name:=Str.ofString "__next__") (dP hit) bo (wpAny_call_entry bo (dP hit) eB ?_ (fc _))))
 refine mP hit ob ft hn ?_
 dsimp only
 obtain ⟨oT,gT,cT,nT,dT⟩:=hT
 refine wpAny_bind (wpAny_seqItems gT dT ?_)
 dsimp only
 rw [hp]
 dsimp only
 refine wpAny_bind (kS hit (by omega) fun h1 g1 b1=>?_)
 have g1':h1.get? I=some (fS (rawInt 0) i (.ref a) n ep):=g1
 refine wpAny_bind (kS (s:={s with heap:=h1}) g1' (by omega) fun h2 g2 b2=>?_)
 exact wX (s:={s with heap:=h2}) (h0:=s.heap) (B:=fun _=>True) hh q (b1.trans b2).extBut
theorem qy {L:Array (Int×Value)} {Q:Option (Value×Nat)->Shared->Prop} (ob:s.heap.get? a=some (aV es ep t)) (ft:t.fits es.size=true) (hb:bS w=true) (hL:L=pickOrder (w.params.setOrder a ep) es) (h:Q ((L[i]?).map fun e=>(e.2,sl)) s):wpAny (model P w) A (setNext a sl i ep) Q E s:=by
 unfold setNext
 refine wpAny_bind (bF ob ft ?_)
 dsimp only
 refine wpAny_bind (dY ?_)
 rw [if_pos hb,if_neg (by simp)]
 unfold setWalk
 refine wpAny_bind (wpAny_bind (bF ob ft ?_))
 dsimp only
 refine wpAny_bind (dY ?_)
 rw [if_pos hb]
 refine wpAny_bind (wpAny_askSetting (wpAny_pure (wpAny_pure ?_)))
 rw [hL] at h
 exact h
theorem oD {Q:Option (Value×Nat)->Shared->Prop} (ob:s.heap.get? a=some (aV es ep t)) (ft:t.fits es.size=true) (hb:bS w=false) (hd:(!t.plain && decide (es.size > 1))=false) (hl:t.led=true)
  (h:Q (match es[SetTable.below t.place sl]?,t.place[SetTable.below t.place sl]? with | some (_,x),some j=>some (x,j+1) | _,_=>none) s):wpAny (model P w) A (setNext a sl i ep) Q E s:=by
 unfold setNext
 refine wpAny_bind (bF ob ft ?_)
 dsimp only
 refine wpAny_bind (dY ?_)
 rw [if_neg (by rw [hb];simp)]
 refine wpAny_ite_split (fun z=>absurd z (by show ¬ (!t.plain && decide (es.size > 1))=true;rw [hd];simp)) fun _=>?_
 refine wpAny_bind (m:=(if (!t.led && !es.isEmpty)=true then unsupported "set:maker-not-led" else pure ())) ?_
 rw [hl]
 simp only [Bool.not_true,Bool.false_and,Bool.false_eq_true,if_false]
 exact wpAny_pure (wpAny_pure h)
end
end gp
namespace gp
open PySem PySem.Spec L2 Ml
theorem cP:Slot "set_iterator" "__iter__" "set_iterator.__iter__" :=
 .of (owner := "set_iterator") (n := "__iter__") (by rw [typeLookup_type,builtinLookup_eq_fast];kernel_rfl) (by decide +kernel) (by decide +kernel) (by decide +kernel)
  (by first | exact .inl (by decide +kernel) | exact .inr (by decide +kernel)) (by rw [isSubtype_type];kernel_rfl)
theorem f9:entryFor table "set_iterator.__iter__" = some Builtin.«dict_keyiterator.__iter__» := entryFor_alias (id' := "dict_keyiterator.__iter__") (by kernel_rfl) rfl (by decide +kernel) (by kernel_rfl)
theorem gJ (a:Value):argsOk "set_iterator.__iter__" ⟨[a],[]⟩:=by
 unfold argsOk;rw [signature?_of (id := "set_iterator.__iter__") (n:=['_', '_', 'r', 'e', 't', 'i', '_', '_']) (o:=['r', 'o', 't', 'a', 'r', 'e', 't', 'i', '_', 't', 'e', 's']) (by kernel_rfl) t9];kernel_rfl
def slotAt (place:Array Nat):Nat->Nat
 | 0=>0
 | i+1=>place.getD i 0+1
theorem oE {xs:Array Nat} (r:ka xs):∀ i,i<=xs.size->SetTable.below xs (slotAt xs i)=i
 | 0,_=>by
  obtain ⟨a,_,c⟩:=fE r (slotAt xs 0)
  apply Classical.byContradiction
  intro z
  have h0:0 < SetTable.below xs (slotAt xs 0):=by omega
  have:=a 0 (by omega) h0
  simp [slotAt] at this
 | i+1,h=>by
  have hi:i < xs.size:=by omega
  have e:slotAt xs (i+1)=xs[i]+1:=by simp [slotAt,Array.getD,hi]
  rw [e]
  obtain ⟨a,b,c⟩:=fE r (xs[i]+1)
  apply Classical.byContradiction
  intro z
  by_cases h1:SetTable.below xs (xs[i]+1)<=i
  ·have:=b i hi h1;omega
  ·have h2:i+1 < SetTable.below xs (xs[i]+1):=by omega
   have h3:i+1 < xs.size:=by omega
   have:=a (i+1) h3 h2
   have:=mM r (i:=i) (k:=i+1) (by omega) h3
   omega
section
variable {P:Program} {w:World} {A:Around} {E:Value->Shared->Prop} {s:Shared} {vp:Value->Prop}
theorem rN {I:Addr} {Q:Value->Shared->Prop} (hT:s.TypeIs (.ref I) "set_iterator") (h:Q (.ref I) s):wpAny (model P w) A (Builtin.«dict_keyiterator.__iter__» ⟨[.ref I],[]⟩) (fun fin s'=>∃ v,fin=.done (.ret v)/\∃ T' r,s'.TypeIs v T'/\typeLookup (.type T') (Str.ofString "__next__")=pure (some r)/\Q v s') E s:=by
 show wpAny _ _ (ret (.ref I)) _ _ s
 exact wpAny_pure ⟨_,rfl, "set_iterator",_,hT,bo.lookup,h⟩
def BY (P:Program) (w:World) (s:Shared) (a:Addr) (es:Array (Int×Value)) (Q:Value->Shared->Prop):Prop:=
 ∀ (L:List (Int×Value)) (I:Addr) (h':Heap) (dr:Drawn) (fp:List Addr) (St:Nat->Heap->Prop),List.Perm L es.toList->(∀ b∈fp,b < h'.objs.size)->I∈fp->(∀ b∈fp,b=a\/s.heap.objs.size<=b)->s.heap.objs.size<=I->(∀ b o,s.heap.get? b=some o->h'.get? b=some o) ->
  (∀ A':Around,A'.handled=none->Walks P w A' I fp [I] L.length (fun i v=>∃ e,L[i]?=some e/\v=e.2) St)->St 0 h'->Q (.ref I) {s with heap:=h',drawn:=dr}
theorem zX {md:Bool} {a:Addr} {ds:List PyData} {es:Array (Int×Value)} {ep:Nat} {t:SetTable} {Q:Value->Shared->Prop} (S:bT vp w s.heap a md ds es ep t) (q:BY P w s a es Q):wpAny (model P w) A (pyIter (.ref a)) Q E s:=by
 have hT:s.TypeIs (.ref a) "set" := ⟨_,S.ob,rfl⟩
 have hes:=S.size
 have hln:=S.ln
 have la:a < s.heap.objs.size:=Heap.lt_size S.ob
 refine wpAny_pyIter_slot hT F.slot_set_iter (wpAny_call_entry F.slot_set_iter hT oC ?_ (F.args_set_iter_1 _))
 unfold Builtin.«frozenset.__iter__»
 refine wpAny_bind (wpAny_of_eq (a:=a) rfl ?_)
 unfold Builtin.Frozenset.sizeOf
 refine wpAny_bind (wpAny_bind (wpAny_setEntries_of S.ob rfl S.tb.fits (wpAny_pure ?_)))
 unfold setDrawn
 refine wpAny_bind (wpAny_bind (bF S.ob S.tb.fits ?_))
 dsimp only
 refine wpAny_bind (dY (wpAny_pure ?_))
 have fits:=S.tb.fits
 by_cases hd:(!bS w && (!t.plain && decide (es.size > 1)))=true
 ·
  refine wpAny_ite_split (fun _=>?_) fun z=>absurd hd z
  refine wpAny_bind (rL es.size (List.range es.size) s _ (by simp) fun idx dr p=>?_)
  have hil:idx.length=es.size:=by have:=p.length_eq;simpa using this
  refine wpAny_bind (wpAny_newTuple (hsz:=by rw [List.length_map,hil,sizeLine_eq];omega) ?_)
  refine wpAny_bind (wpAny_setEpoch_of (s:={s with heap:=s.heap.push _,drawn:=dr}) (Heap.get?_push_of_some _ S.ob) rfl fits ?_)
  refine wpAny_bind (wpAny_newObj_type (wpAny_pure ⟨_,rfl, "set_iterator",_,⟨_,Heap.get?_push_size _ rfl,rfl⟩,bo.lookup,?_⟩))
  generalize hob:({cls:=.type "tuple",data:=.seq (idx.map fun (i:Nat)=>rawInt i).toArray}:Obj)=oT
  have hsz:(s.heap.push oT).objs.size=s.heap.objs.size+1:=Heap.size_push _ _
  have hin:∀ k∈idx,k < es.size:=fun k hk=>List.mem_range.mp (p.mem_iff.mp hk)
  have hget:∀ i k,idx[i]?=some k->∃ e,es[k]?=some e:=fun i k e=>⟨_,Array.getElem?_eq_getElem (hin k (List.mem_of_getElem? e))⟩
  obtain ⟨g1,g2⟩:=vm (es:=es) (l:=idx.map fun k=>(0,k)) (fun p hp=>by obtain ⟨k,hk,rfl⟩:=List.mem_map.mp hp;exact hin k hk)
  have em:(idx.map fun k=>((0:Nat),k)).map (·.2)=idx:=by rw [List.map_map];exact List.map_id idx
  rw [em] at g1 g2
  have hLp:List.Perm (idx.filterMap fun k=>es[k]?) es.toList:=(p.filterMap _).trans (by rw [filterMap_getElem?_range])
  have hLn:(idx.filterMap fun k=>es[k]?).length=es.size:=by rw [hLp.length_eq];simp
  refine q (idx.filterMap fun k=>es[k]?) (s.heap.push oT).objs.size _ dr [(s.heap.push oT).objs.size,s.heap.objs.size,a] (fun i h=>h.get? (s.heap.push oT).objs.size=some (fS (.ref s.heap.objs.size) i (.ref a) es.size ep)/\h.IsTuple s.heap.objs.size (idx.map fun (i:Nat)=>rawInt i).toArray/\h.get? a=some (aV es ep t)) hLp (fun b hb=>?_) (List.mem_cons_self ..) (fun b hb=>by simp only [List.mem_cons,List.not_mem_nil,or_false] at hb;rcases hb with rfl | rfl | rfl;exact .inr (by rw [hsz];exact Nat.le_succ _);exact .inr (Nat.le_refl _);exact .inl rfl) (by rw [hsz];exact Nat.le_succ _) (fun b o e=>Heap.get?_push_of_some _ (Heap.get?_push_of_some _ e)) (fun A' hh=>?_) ⟨?_,?_,?_⟩
  ·rw [Heap.size_push,hsz]
   simp only [List.mem_cons,List.not_mem_nil,or_false] at hb
   rcases hb with rfl | rfl | rfl
   ·rw [hsz];exact Nat.lt_succ_self _
   ·exact Nat.lt_of_lt_of_le (Nat.lt_succ_self _) (Nat.le_succ _)
   ·exact Nat.lt_of_lt_of_le la (by omega)
  ·have n1:s.heap.objs.size≠(s.heap.push oT).objs.size:=by rw [hsz];exact Nat.ne_of_lt (Nat.lt_succ_self _)
   have n2:a≠(s.heap.push oT).objs.size:=by rw [hsz];exact Nat.ne_of_lt (Nat.lt_succ_of_lt la)
   refine ⟨fun b hb=>by simp at hb;simp [hb],fun i h h' ⟨x1,⟨o,x2,x3⟩,x4⟩ k=>⟨k _ (by simp) _ x1,⟨o,k _ (by simp) _ x2,x3⟩,k _ (by simp) _ x4⟩,fun i s' Q' E' hi ⟨x1,x2,x3⟩ hQ=>?_,fun s' Q' E' ⟨x1,x2,x3⟩ hQ=>?_,fun i s' Q' E' ⟨x1,_,_⟩ hQ=>?_⟩
   ·rw [hLn] at hi
    have hi2:i < idx.length:=by omega
    have ek:=List.getElem?_eq_getElem hi2
    obtain ⟨e,he⟩:=hget i _ ek
    refine zW (x:=e) x1 x3 fits rfl x2 (place:=idx[i]) (by simp [ek]) he fun h' y1 sb=>hQ e.2 h' s'.toks ⟨e,?_,rfl⟩ ⟨y1,?_,(sb.2 a n2).trans x3⟩ fun b o hb eo=>(sb.2 b fun z=>hb (by simp [z])).trans eo
    ·rw [g2 i (0,idx[i]) (by simp [ek])]
     exact he
    ·obtain ⟨o,x2,x4⟩:=x2
     exact ⟨o,(sb.2 _ n1).trans x2,x4⟩
   ·rw [hLn] at x1
    refine BX hh x1 x3 fits rfl x2 (by simp;omega) fun h' eb=>hQ h' s'.toks fun b o hb eo=>eb b o (fun z=>hb (by simp [z])) eo
   ·have hT':s'.TypeIs (.ref (s.heap.push oT).objs.size) "set_iterator" := dP x1
    exact wpAny_pyIter_slot hT' cP (wpAny_call_entry cP hT' f9 (rN hT' hQ) (gJ _))
  ·exact Heap.get?_push_size _ rfl
  ·subst hob
   exact ⟨_,Heap.get?_push_of_some _ (Heap.get?_push_size _ rfl),rfl,_,rfl⟩
  ·exact Heap.get?_push_of_some _ (Heap.get?_push_of_some _ S.ob)
 ·refine wpAny_ite_split (fun z=>absurd z hd) fun _=>?_
  refine wpAny_bind (wpAny_pure ?_)
  refine wpAny_bind (wpAny_setEpoch_of S.ob rfl fits ?_)
  refine wpAny_bind (wpAny_newObj_type (wpAny_pure ⟨_,rfl, "set_iterator",_,⟨_,Heap.get?_push_size _ rfl,rfl⟩,bo.lookup,?_⟩))
  have na:a≠s.heap.objs.size:=Nat.ne_of_lt la
  by_cases hb:bS w=true
  ·
   have pk:=qx (w.params.setOrder a ep) es
   have pkn:(pickOrder (w.params.setOrder a ep) es).toList.length=es.size:=by rw [pk.length_eq];simp
   refine q (pickOrder (w.params.setOrder a ep) es).toList s.heap.objs.size _ s.drawn [s.heap.objs.size,a] (fun i h=>h.get? s.heap.objs.size=some (fS (.int ((0:Nat):Int) 0) i (.ref a) es.size ep)/\h.get? a=some (aV es ep t)) pk (fun b hb=>?_) (List.mem_cons_self ..) (fun b hb=>by simp only [List.mem_cons,List.not_mem_nil,or_false] at hb;rcases hb with rfl | rfl;exact .inr (Nat.le_refl _);exact .inl rfl) (Nat.le_refl _) (fun b o e=>Heap.get?_push_of_some _ e) (fun A' hh=>?_) ⟨Heap.get?_push_size _ rfl,Heap.get?_push_of_some _ S.ob⟩
   ·rw [Heap.size_push]
    simp only [List.mem_cons,List.not_mem_nil,or_false] at hb
    rcases hb with rfl | rfl
    ·exact Nat.lt_succ_self _
    ·exact Nat.lt_succ_of_lt la
   ·refine ⟨fun b hb=>by simp at hb;simp [hb],fun i h h' ⟨x1,x4⟩ k=>⟨k _ (by simp) _ x1,k _ (by simp) _ x4⟩,fun i s' Q' E' hi ⟨x1,x3⟩ hQ=>?_,fun s' Q' E' ⟨x1,x3⟩ hQ=>?_,fun i s' Q' E' ⟨x1,_⟩ hQ=>?_⟩
    ·have ek:=List.getElem?_eq_getElem hi
     generalize (pickOrder (w.params.setOrder a ep) es).toList[i]=e at ek
     refine ua (x:=e.2) (nx:=0) x1 x3 fits rfl (fun A2 Q2 E2 h2=>qy x3 fits hb rfl ?_) fun h' y1 sb=>hQ e.2 h' s'.toks ⟨e,ek,rfl⟩ ⟨y1,(sb.2 a na).trans x3⟩ fun b o hb eo=>(sb.2 b fun z=>hb (by simp [z])).trans eo
     rw [<- Array.getElem?_toList,ek]
     exact h2
    ·refine wY hh x1 x3 fits rfl (fun A2 Q2 E2 h2=>qy x3 fits hb rfl ?_) fun h' eb=>hQ h' s'.toks fun b o hb eo=>eb b o (fun z=>hb (by simp [z])) eo
     rw [<- Array.getElem?_toList,List.getElem?_eq_none (Nat.le_refl _)]
     exact h2
    ·have hT':s'.TypeIs (.ref s.heap.objs.size) "set_iterator" := dP x1
     exact wpAny_pyIter_slot hT' cP (wpAny_call_entry cP hT' f9 (rN hT' hQ) (gJ _))
  ·
   have hb':bS w=false:=by simpa using hb
   have hd':(!t.plain && decide (es.size > 1))=false:=by rw [hb'] at hd;simpa using hd
   have hled:t.led=true:=by
    rcases S.ld with z | z
    ·exact z
    ·exact absurd z hb
   have hps:t.place.size=es.size:=S.tb.sz
   refine q es.toList s.heap.objs.size _ s.drawn [s.heap.objs.size,a] (fun i h=>h.get? s.heap.objs.size=some (fS (.int ((slotAt t.place i:Nat):Int) 0) i (.ref a) es.size ep)/\h.get? a=some (aV es ep t)) (.refl _) (fun b hb=>?_) (List.mem_cons_self ..) (fun b hb=>by simp only [List.mem_cons,List.not_mem_nil,or_false] at hb;rcases hb with rfl | rfl;exact .inr (Nat.le_refl _);exact .inl rfl) (Nat.le_refl _) (fun b o e=>Heap.get?_push_of_some _ e) (fun A' hh=>?_) ⟨Heap.get?_push_size _ rfl,Heap.get?_push_of_some _ S.ob⟩
   ·rw [Heap.size_push]
    simp only [List.mem_cons,List.not_mem_nil,or_false] at hb
    rcases hb with rfl | rfl
    ·exact Nat.lt_succ_self _
    ·exact Nat.lt_succ_of_lt la
   ·refine ⟨fun b hb=>by simp at hb;simp [hb],fun i h h' ⟨x1,x4⟩ k=>⟨k _ (by simp) _ x1,k _ (by simp) _ x4⟩,fun i s' Q' E' hi ⟨x1,x3⟩ hQ=>?_,fun s' Q' E' ⟨x1,x3⟩ hQ=>?_,fun i s' Q' E' ⟨x1,_⟩ hQ=>?_⟩
    ·have hi':i < es.size:=by simpa using hi
     have ek:=Array.getElem?_eq_getElem hi'
     have ep':=Array.getElem?_eq_getElem (show i < t.place.size by omega)
     refine ua (x:=es[i].2) (nx:=slotAt t.place (i+1)) x1 x3 fits rfl (fun A2 Q2 E2 h2=>oD x3 fits hb' hd' hled ?_) fun h' y1 sb=>hQ es[i].2 h' s'.toks ⟨es[i],by rw [Array.getElem?_toList];exact ek,rfl⟩ ⟨y1,(sb.2 a na).trans x3⟩ fun b o hb eo=>(sb.2 b fun z=>hb (by simp [z])).trans eo
     rw [oE S.tb.rp i (by omega),ek,ep']
     have:slotAt t.place (i+1)=t.place[i]'(by omega)+1:=by simp [slotAt,Array.getD,show i < t.place.size by omega]
     rw [this] at h2
     exact h2
    ·have hl:es.toList.length=es.size:=by simp
     rw [hl] at x1
     refine wY hh x1 x3 fits rfl (fun A2 Q2 E2 h2=>oD x3 fits hb' hd' hled ?_) fun h' eb=>hQ h' s'.toks fun b o hb eo=>eb b o (fun z=>hb (by simp [z])) eo
     rw [oE S.tb.rp es.size (by omega),Array.getElem?_eq_none (Nat.le_refl _)]
     exact h2
    ·have hT':s'.TypeIs (.ref s.heap.objs.size) "set_iterator" := dP x1
     exact wpAny_pyIter_slot hT' cP (wpAny_call_entry cP hT' f9 (rN hT' hQ) (gJ _))
end
end gp
namespace gp
open PySem PySem.Spec L2 Ml
section
variable {P:Program} {w:World} {A:Around} {E:Value->Shared->Prop} {s:Shared} {vp:Value->Prop}
theorem zY {r:Addr} {Q:Bool->Shared->Prop} (hT:s.TypeIs (.ref r) "set") (h:Q false s):wpAny (model P w) A (Builtin.List.listLengthHint (.ref r)) Q E s:=by
 unfold Builtin.List.listLengthHint
 refine wpAny_bind (wpAny_specialOf hT PySem.F.slot_set_len.lookup ?_)
 generalize xE:("set.__len__" : String)=id0
 wp_delta
 rw [show splitId id0=some ("set", "__len__") from by subst xE;decide +kernel]
 subst xE
 refine wpAny_bind (wpAny_isInstance (T := "set") (b:=true) hT sub_set_self ?_)
 refine wpAny_ite_split (fun hab=>absurd hab (by decide)) (fun _=>?_)
 refine wpAny_ite_split (fun _=>?_) (fun hab=>absurd (by decide +kernel) hab)
 refine wpAny_bind (wpAny_typeOf hT ?_)
 exact wpAny_pure h
theorem ub {md:Bool} {a:Addr} {ds:List PyData} {es:Array (Int×Value)} {ep:Nat} {t:SetTable} {Q:List Value->Shared->Prop} (S:bT vp w s.heap a md ds es ep t) (hh:A.handled=none)
  (q:∀ (L:List (Int×Value)) h' dr tk,s.heap.objs.size < h'.objs.size->List.Perm L es.toList->(∀ b o,s.heap.get? b=some o->h'.get? b=some o)->Q (L.map (·.2)) {s with heap:=h',drawn:=dr,toks:=tk}):wpAny (model P w) A (collect (.ref a)) Q E s:=by
 have hes:=S.size
 have hln:=S.ln
 unfold collect
 refine wpAny_bind (wpAny_runValue (codeAny_builtin F.entry_proto_collect ?_))
 rw [Around.under_plainId F.plain_proto_collect _]
 show wpAny _ A.in1 (newList [] >>= fun l=>again (.builtin "list.__iadd__" ⟨[l,.ref a],[]⟩)) _ _ s
 refine wpAny_bind (wpAny_newObj_type ?_)
 refine wpAny_pure ⟨plainId_quiet F.plain_list_iadd _,codeAny_builtin F.entry_list_iadd ?_⟩
 rw [Around.under_plainId F.plain_list_iadd _]
 have hS₁:(s.heap.push {cls:=.type "list",data:=.seq ([]:List Value).toArray}).get? s.heap.objs.size=some {cls:=.type "list",data:=.seq ([]:List Value).toArray}:=Heap.get?_push_size _ rfl
 have la:=Heap.lt_size S.ob
 have h1:Builtin.List.listSameRef (.ref s.heap.objs.size) (.ref a)=false:=by simp [Builtin.List.listSameRef,Nat.ne_of_gt la]
 have S1:bT vp w (s.heap.push {cls:=.type "list",data:=.seq ([]:List Value).toArray}) a md ds es ep t:=S.keep fun b o e=>Heap.get?_push_of_some _ e
 show wpAny _ A.in1 (Builtin.List.listExtendWith (.ref s.heap.objs.size) (.ref a) (.ref s.heap.objs.size)) _ _ _
 unfold Builtin.List.listExtendWith
 refine wpAny_bind (wpAny_typeOf (T := "set") ⟨_,S1.ob,rfl⟩ ?_)
 rw [if_neg (by rw [h1];decide)]
 refine wpAny_bind (zX (s:={s with heap:=s.heap.push {cls:=.type "list",data:=.seq ([]:List Value).toArray}}) S1 fun L I h' dr fp St p f1 f2 f5 f3 f4 W st=>?_)
 have hS2:=f4 _ _ hS₁
 refine wpAny_bind (wpAny_holding (zY (s:={s with heap:=h',drawn:=dr}) ⟨_,f4 _ _ S1.ob,rfl⟩ ?_))
 rw [if_pos (by decide)]
 have hLn:L.length=es.size:=by rw [p.length_eq];simp
 have hSf:s.heap.objs.size∉fp:=fun hm=>by
  rcases f5 _ hm with z | z
  ·exact absurd la (by rw [<- z];exact Nat.lt_irrefl _)
  ·have z':(s.heap.push {cls:=.type "list",data:=.seq ([]:List Value).toArray}).objs.size<=s.heap.objs.size:=z
   rw [Heap.size_push] at z'
   exact absurd z' (Nat.not_le.mpr (Nat.lt_succ_self _))
 refine wpAny_bind (wpAny_rule ?_)
 refine wpAny_bind ?_
 show wpAny _ _ (updateSeq s.heap.objs.size (·.push .none) >>= fun _=>updateSeq s.heap.objs.size (·.pop)) _ _ _
 refine wpAny_bind (wpAny_updateSeq hS2 rfl ?_)
 have hS3:=Heap.get?_update_self (Obj.mapSeq (·.push Value.none)) hS2 rfl
 refine wpAny_updateSeq (hz:=by seq_fits) hS3 rfl ?_
 have hS4:=Heap.get?_update_self (Obj.mapSeq (·.pop)) hS3 rfl
 have oth:∀ b o,b≠s.heap.objs.size->h'.get? b=some o->((h'.update s.heap.objs.size (Obj.mapSeq (·.push Value.none))).update s.heap.objs.size (Obj.mapSeq (·.pop))).get? b=some o:=fun b o hb e=>(Heap.get?_update_other _ _ (Ne.symm hb)).trans ((Heap.get?_update_other _ _ (Ne.symm hb)).trans e)
 have st2:=(W A.in1 hh).frame 0 _ _ st fun b hb o e=>oth b o (fun z=>hSf (z▸hb)) e
 refine wpAny_pure ⟨plainId_quiet F.plain_extend_loop _,codeAny_extend_loopS (W A.in1 hh).toS (by rw [hLn,sizeLine_eq];omega) _ hSf _ L.length 0 _ _ _ rfl (Nat.zero_le _) st2 hS4 (ItemsOf.nil _) fun s' acc' c' hm hS' hacc=>?_⟩
 show wpAny _ A (load s.heap.objs.size >>= _) _ _ s'
 refine wpAny_bind (wpAny_load hS' ?_)
 refine wpAny_pure ?_
 have e1:acc'.toList=L.map (·.2):=by
  apply List.ext_getElem?
  intro j
  rw [Array.getElem?_toList,List.getElem?_map]
  by_cases hj:j < acc'.size
  ·obtain ⟨e,he,hv⟩:=hacc.2 j acc'[j] (Array.getElem?_eq_getElem hj)
   rw [Array.getElem?_eq_getElem hj,he,hv]
   rfl
  ·rw [Array.getElem?_eq_none (by omega),List.getElem?_eq_none (by rw [<- hacc.1];omega)]
   rfl
 rw [e1]
 obtain ⟨hp2,g2,d2,tk2,os2⟩:=s'
 have eg:g2=s.gens:=hm.gens
 have ed:d2=dr:=hm.drawn
 have eo:os2=s.os:=hm.os
 subst eg;subst ed;subst eo
 refine q L hp2 d2 tk2 (Heap.lt_size hS') p fun b o e=>hm.heap b o (fun z=>?_) (oth b o (Nat.ne_of_lt (Heap.lt_size e)) (f4 _ _ (Heap.get?_push_of_some _ e)))
 have lb:=Heap.lt_size e
 rcases List.mem_cons.mp z with z | z
 ·rw [z] at lb;exact Nat.lt_irrefl _ lb
 ·rw [List.mem_singleton.mp z] at lb
  have f3':(s.heap.push {cls:=.type "list",data:=.seq ([]:List Value).toArray}).objs.size<=I:=f3
  rw [Heap.size_push] at f3'
  exact absurd (Nat.lt_of_lt_of_le lb (Nat.le_of_succ_le f3')) (Nat.lt_irrefl _)
end
end gp
namespace gp
open PySem PySem.Spec L2 Ml
theorem lW {h:Heap}:∀ {vs:List Value} {ds:List PyData},Paired (fun v d=>∃ as,Reads h v d as) vs ds->∃ as,ReadsAll h vs ds as
 | _,_,.nil=>⟨_,.nil⟩
 | _,_,.cons ⟨_,r⟩ t=>let ⟨_,q⟩:=lW t;⟨_,.cons r q⟩
theorem jc {h:Heap} {vs:List Value} {ds:List PyData} {as:List Addr} (r:ReadsAll h vs ds as):∀ (p:List Nat),(∀ i∈p,i < vs.length)->∃ bs,ReadsAll h (p.map fun i=>vs.getD i .none) (p.map fun i=>ds.getD i .none) bs
 | [],_=>⟨_,.nil⟩
 | i::p,hp=>by
  have hi:=hp i (List.mem_cons_self ..)
  obtain ⟨bs,q⟩:=jc r p fun j hj=>hp j (List.mem_cons_of_mem _ hj)
  obtain ⟨d,cs,e1,e2⟩:=readsAll_get r (List.getElem?_eq_getElem hi)
  refine ⟨_,.cons (as:=cs) ?_ q⟩
  have x1:vs.getD i .none=vs[i]:=by simp [hi]
  have x2:ds.getD i .none=d:=by rw [List.getD_eq_getElem?_getD,e1];rfl
  show Reads h (vs.getD i .none) (ds.getD i .none) cs
  rw [x1,x2]
  exact e2
section
variable {P:Program} {w:World} {A:Around} {E:Value->Shared->Prop} {s:Shared} {vp:Value->Prop}
theorem uc {ds es:List PyData} (p:List.Perm ds es) (h:bD ds=true):bD es=true:=by
 unfold bD at h ⊢
 rw [List.all_eq_true] at h ⊢
 intro a ha
 have:=h a (p.mem_iff.mpr ha)
 rw [List.all_eq_true] at this ⊢
 exact fun b hb=>this b (p.mem_iff.mpr hb)
theorem ud {ds es:List PyData} {f:PyData->Bool} (p:List.Perm ds es) (h:ds.all f=true):es.all f=true:=by
 rw [List.all_eq_true] at h ⊢
 exact fun a ha=>h a (p.mem_iff.mpr ha)
theorem dQ:∀ {ds:List PyData} {n:Nat},PyData.depthAll ds<=n<->∀ d∈ds,d.depth<=n
 | [],n=>by simp [PyData.depthAll]
 | d::ds,n=>by
  simp only [PyData.depthAll,List.mem_cons,forall_eq_or_imp]
  rw [<- dQ (ds:=ds)]
  omega
theorem qz {ds:List PyData}:ah ds=true<->∀ d∈ds,af d=true:=⟨fun h d m=>aF h m,fN⟩
theorem vo {md:Bool} {a:Addr} {ds zs:List PyData} {Q:Value->Shared->Prop} (S:bB vp w s.heap a md ds) (hh:A.handled=none) (pz:List.Perm ds zs) (ok:cw zs=true) (hu:A.units+60 < cLine)
  (q:∀ h' dr tk p us e,s.heap.objs.size<=p->(∀ b o,s.heap.get? b=some o->h'.get? b=some o)->h'.get? p=some (PyProof.Rows.seqObj "list" (us:List Value).toArray e)->(∃ as,ReadsAll h' us (bG ltB zs) as)->(∀ u∈us,vp u)->Q (.ref p) {s with heap:=h',drawn:=dr,toks:=tk}):wpAny (model P w) A (call (.builtin "sorted") [.ref a]) Q E s:=by
 obtain ⟨es,ep,t,S⟩:=S
 simp only [cw,Bool.and_eq_true,decide_eq_true_eq,Bool.or_eq_true] at ok
 obtain ⟨⟨⟨⟨kd,tr⟩,cm⟩,dp⟩,h64⟩:=ok
 refine Calls.call_function_entry PyProof.Rows.kind_sorted PyProof.Rows.plain_sorted PyProof.Rows.entry_sorted (PyProof.Rows.args_sorted1 _) ?_
 unfold Builtin.«sorted»
 refine wpAny_bind (m:=checkCount "sorted" 1 1 _) (wpAny_pure ?_)
 refine wpAny_bind (ub S (by simp [hh]) fun L h1 dr tk sz1 pL k1=>?_)
 obtain ⟨ds1,p1,e1⟩:=fR pL.symm S.el
 have pd:List.Perm ds1 zs:=p1.symm.trans pz
 have hLd:L.length=ds1.length:=Paired.length e1
 have hdz:ds1.length=zs.length:=pd.length_eq
 generalize hvs:L.map (·.2)=vs
 have hvl:vs.length=zs.length:=by rw [<- hvs,List.length_map,hLd,hdz]
 obtain ⟨as,ra⟩:∃ as,ReadsAll h1 vs ds1 as:=by
  refine lW ?_
  rw [<- hvs]
  have:∀ {l:List (Int×Value)} {ys:List PyData},Paired (El vp w s.heap md) l ys->Paired (fun v d=>∃ as,Reads h1 v d as) (l.map (·.2)) ys:=by
   intro l ys h
   induction h with
   | nil=>exact .nil
   | cons r _ ih=>exact .cons (let ⟨as,x⟩:=r.rd;⟨as,gk (fun b o _ _ e _ _=>k1 b o e) r.tr x⟩) ih
  exact this e1
 refine wpAny_bind (wpAny_newList (hsz:=by rw [hvl,sizeLine_eq];omega) ?_)
 have hoL:(h1.push (PyProof.Rows.seqObj "list" vs.toArray 0)).get? h1.objs.size=some (PyProof.Rows.seqObj "list" vs.toArray 0):=Heap.get?_push_size _ rfl
 have tr1:ah ds1=true:=qz.mpr fun d m=>qz.mp tr d (pd.mem_iff.mp m)
 have cm1:=uc pd.symm cm
 have O:=Gb (fe cm1 tr1)
 rw [hdz,<- hvl] at O
 refine wpAny_bind (wpAny_holding (wpAny_call_entry PyProof.Rows.slot_list_sort ⟨_,hoL,rfl⟩ PyProof.Rows.entry_list_sort (PySem.W.i0 hoL O (by omega) (fun h' k h2=>?_) fun p a1 a2=>⟨_,rfl,?_⟩) (PyProof.Rows.args_list_sort _)))
 ·have ra':ReadsAll h' vs ds1 as:=PyProof.Rows.ReadsAll.keeps (fun b o e=>k b o (Nat.ne_of_lt (Heap.lt_size e)) (Heap.get?_push_of_some _ e)) ra
  have la:PyData.canLayAll0 ds1=true:=jV (aQ.mpr fun d m=>by
   obtain ⟨i,hi⟩:=List.getElem?_of_mem m
   obtain ⟨e,_,x⟩:=fQ e1 hi
   exact x.so) (dD tr1)
  rcases kd with kd | kd
  ·exact qd (s:={s with heap:=h',drawn:=dr,toks:=tk}) ra' (ud pd.symm kd) h2
  ·exact qc (s:={s with heap:=h',drawn:=dr,toks:=tk}) (by show A.units+1+1+41 < cLine;omega) ra' (ud pd.symm kd) tr1 cm1 la (dQ.mpr fun d m=>dQ.mp dp d (pd.mem_iff.mp m)) (by omega)
 ·obtain ⟨e,he⟩:=PyProof.Rows.sortedHeap_at (out:=(p.toList.map fun i=>vs.getD i Value.none).toArray) hoL
  have kp:∀ b o,h1.get? b=some o->(PyProof.Rows.sortedHeap (h1.push (PyProof.Rows.seqObj "list" vs.toArray 0)) h1.objs.size vs (p.toList.map fun i=>vs.getD i Value.none).toArray).get? b=some o:=fun b o eb=>by
   rw [PyProof.Rows.sortedHeap_old (Nat.ne_of_lt (Heap.lt_size eb)) (by rw [Heap.size_push];exact Nat.lt_succ_of_lt (Heap.lt_size eb))]
   exact Heap.get?_push_of_some _ eb
  have hin:∀ i∈p.toList,i < vs.length:=fun i hi=>List.mem_range.mp (a1.perm.mem_iff.mp hi)
  obtain ⟨bs,rb⟩:=jc ra p.toList hin
  have e1':(p.toList.map fun i=>ds1.getD i .none)=bG ltB zs:=by
   refine tu cm tr ?_ ?_
   ·have:=a1.perm.map (fun i=>ds1.getD i .none)
    rw [hvl,<- hdz,gA] at this
    exact this.trans pd
   ·have hlp:p.toList.length=vs.length:=by rw [a1.perm.length_eq,List.length_range]
    unfold Up
    rw [List.pairwise_map,List.pairwise_iff_getElem]
    intro i j hi hj hij
    have x1:PySem.W.pat p i=p.toList[i]:=by simp only [Array.length_toList] at hi;rw [PySem.W.fW,getElem?_pos p i hi];simp
    have x2:PySem.W.pat p j=p.toList[j]:=by simp only [Array.length_toList] at hj;rw [PySem.W.fW,getElem?_pos p j hj];simp
    have:=a2 i j hij (by omega)
    rw [x1,x2] at this
    exact this
  rw [e1'] at rb
  refine wpAny_pure ⟨_,rfl,q _ dr tk h1.objs.size (p.toList.map fun i=>vs.getD i Value.none) e (Nat.le_of_lt sz1) (fun b o eb=>kp b o (k1 b o eb)) he ⟨bs,PyProof.Rows.ReadsAll.keeps kp rb⟩ fun u hu=>?_⟩
  obtain ⟨i,hi,rfl⟩:=List.mem_map.mp hu
  have hil:=hin i hi
  have eu:vs.getD i Value.none=vs[i]:=by simp [hil]
  have hmem:vs[i]∈L.map (·.2):=by rw [hvs];exact List.getElem_mem hil
  obtain ⟨e',he',e2⟩:=List.mem_map.mp hmem
  obtain ⟨j,hj⟩:=List.getElem?_of_mem he'
  obtain ⟨d',_,x⟩:=du e1 hj
  rw [eu,<- e2]
  exact x.vl
end
end gp
namespace Ml
open PySem PySem.Spec L2 gp
theorem _root_.L2.Inv.dr {X:Cx} {pins:List (Addr×Obj)} {σ:St} {H:Hp} {s:Shared} (I:L2.Inv X pins σ H s) (dr:Drawn):L2.Inv X pins σ H {s with drawn:=dr}:=⟨I.ok,I.os,I.bare,I.base,I.loc,I.cell,I.free,I.freeC,I.pin,I.hok,I.len⟩
structure zZ (X:Cx) (M:Hp) (s:Shared) (b:Addr) (ds:List PyData) (vs:List V) (its:List Value):Prop where
 src:∃ T OK,Src X.prog X.w T b its.toArray OK/\OK s.heap
 rep:aJ M ds vs
 val:Vals vs its
 so:bM ds=true
theorem rO {X:Cx} {θ:List Addr} {hm:Hm} {H:Hp} {pins:List (Addr×Obj)} {σ:St} {s:Shared} {d:D} {v:V} {ds:List PyData} (I:L2.Inv X pins σ H s) (w:W X.G θ hm H) (r:bE X.G θ H d v) (e:gn d hm=some ds) :
  ∃ b vs its,v=.ref b/\zZ X (view θ H) s b ds vs its:=by
 have tup:∀ (b:Addr) (vs:List V),v=.ref b->eR X.K H b vs->aJ (view θ H) ds vs->bM ds=true->∃ b vs its,v=.ref b/\zZ X (view θ H) s b ds vs its:=fun b vs e1 e2 e3 e4=>by
  obtain ⟨its,rv,pl,_⟩:=I.tuple e2
  exact ⟨b,vs,its,e1,⟨"tuple",_,src_tuple b its.toArray,pl⟩,e3,rv,e4⟩
 have hs:=e
 unfold gn at hs
 split at hs
 ·cases hs
  obtain ⟨⟨b,vs,rfl,hb,rr⟩,so⟩:=r
  exact tup b vs rfl (.inl (.inl (aq _ _ _ _ hb))) rr (by simpa [cg] using so)
 ·cases hs
  obtain ⟨b,rfl,⟨o,its,n,k1,k2,k3,k4,k5⟩,k6,k7⟩:=r
  refine tup b _ rfl (.inr ⟨o,its,n,k1,k2,k3,k4,k5⟩) (iG (tN (G:=X.G) (θ:=θ) (H:=H) k6 k7) (kC _)).1 k7
 ·obtain ⟨b,vs,rfl,hb,rr,so⟩:=mI w r hs
  obtain ⟨its,n,rv,eo,hz⟩:=I.lst hb
  exact ⟨b,vs,its,rfl,⟨"list",_,src_list b its.toArray,⟨_,eo,rfl,n,rfl⟩⟩,rr,rv,so⟩
theorem oF {M:Hp} {h:Heap} {ds:List PyData} {vs:List V} {its:List Value} (rp:aJ M ds vs) (rv:Vals vs its) {as:List Addr} (ra:ReadsAll h its ds as):∀ {us:List Value} {zs:List PyData} {bs:List Addr},ReadsAll h us zs bs->(∀ u∈us,u∈its)->∃ ws,Vals ws us/\aJ M zs ws
 | _,_,_,.nil,_=>⟨[],.nil,rfl⟩
 | _,_,_,.cons r t,hu=>by
  obtain ⟨ws,q1,q2⟩:=oF rp rv ra t fun u m=>hu u (List.mem_cons_of_mem _ m)
  obtain ⟨i,hi⟩:=List.getElem?_of_mem (hu _ (List.mem_cons_self ..))
  obtain ⟨d,cs,e1,e2⟩:=readsAll_get ra hi
  obtain ⟨x,e3,e4⟩:=aJ.get' rp e1
  obtain ⟨u',e5,e6⟩:=rv.get e3
  rw [hi] at e5
  cases e5
  have:=(PySem.Reads.unique r _ _ e2).1
  subst this
  exact ⟨x::ws,.cons e6 q1,.cons e4 q2⟩
theorem oG {ds:List PyData} (h:setOk ds=true) (so:bM ds=true):∃ md,ds.length<=120/\(∀ d∈ds,ai d=true)/\∀ d∈ds,ES md d:=by
 simp only [setOk,Bool.and_eq_true,decide_eq_true_eq,Bool.or_eq_true] at h
 obtain ⟨⟨⟨h1,h2⟩,h3⟩,h4⟩:=h
 have t:=qk.mp h2
 rcases h1 with h1 | h1
 ·exact ⟨true,h4,t,fun d m=>⟨t d m,dQ.mp h3 d m,aQ.mp so d m,List.all_eq_true.mp h1 d m⟩⟩
 ·refine ⟨false,h4,t,fun d m=>⟨t d m,dQ.mp h3 d m,aQ.mp so d m,?_⟩⟩
  have:=List.all_eq_true.mp h1 d m
  cases d<;>simp [hV] at this<;>rfl
section
variable {X:Cx} {E:XK} {m m2:ME} {e e2:Expr} {k:Nat} {pins:List (Addr×Obj)} {σ:St} {H:Hp} {s:Shared} {θ:List Addr} {hm:Hm} {Q:VK} {p1 p2 p3 p4 p5 p6 pos:Pos}
theorem oH {M:Hp} {vp:Value->Prop} {md:Bool} {a:Addr} {dsS zs ds:List PyData} {vs:List V} {its:List Value} {s':Shared} {as:List Addr} (I:L2.Inv X pins σ H s) (w:W X.G θ hm H) (sm:M=view θ H) (hk:∀ b o,s.heap.get? b=some o->s'.heap.get? b=some o) (hs:∃ h tk dr,s'={s with heap:=h,toks:=tk,drawn:=dr}) (hsz:s.heap.objs.size<=s'.heap.objs.size)
  (S:bB vp X.w s'.heap a md dsS) (hh:X.A.handled=none) (pz:List.Perm dsS zs) (ok:cw zs=true) (so:bM zs=true) (hu:X.A.units+60 < cLine) (rp:aJ M ds vs) (rv:Vals vs its) (ra:ReadsAll s'.heap its ds as) (hvp:∀ v,vp v->v∈its)
  (q:aB X.G (lu X.G E) θ H (.ok (.dat (.list (bG ltB zs))) hm) (KV X.G Q)):wpAny (model X.prog X.w) X.A (call (.builtin "sorted") [.ref a]) (EP X pins σ Q) X.xe s':=by
 obtain ⟨h1,tk1,dr1,rfl⟩:=hs
 refine vo S hh pz ok hu fun h' dr tk p us e' hp kp he ⟨bs,rb⟩ vu=>?_
 have ra':ReadsAll h' its ds as:=PyProof.Rows.ReadsAll.keeps kp ra
 obtain ⟨ws,q1,q2⟩:=oF rp rv ra' rb fun u m=>hvp u (vu u m)
 have hpp:s.heap.objs.size<=p:=Nat.le_trans hsz hp
 have hn:H p=none:=I.hok.fresh hpp
 obtain ⟨ev,w1,g⟩:=w.put (o:=.lst ws) hn
 have hlen:ws.length<=sizeLine:=by
  have x1:=q2.length
  have x2:(bG ltB zs).length=zs.length:=(bw _ _).length_eq
  simp only [cw,Bool.and_eq_true,decide_eq_true_eq] at ok
  rw [sizeLine_eq]
  omega
 have I2:L2.Inv X pins σ (upd H p (.lst ws)) {s with heap:=h',toks:=tk}:=I.laid (t':=tk) (fun b o eb=>kp b o (hk b o eb)) hpp ⟨hlen,us,e',q1,he⟩
 subst sm
 exact ⟨.ref p,_,I2.dr dr,rfl,q _ _ ev w1 _ ⟨⟨p,ws,rfl,g,q2.same ev.same⟩,by simp only [cg];exact qe (bw _ _).symm so⟩⟩
theorem vq (hc:X.calm=true) (hr:L2.cb k X.A) (hm1:X.mg "sorted" = none) (hm2:X.mg "set" = none) (ha:DE X E m e) (hg:Gl X "sorted" := by rfl) (hg2:Gl X "set" := by rfl) (hs:starEach [e] X.env=[(false,eval e X.env)]:=by rfl)
  (hs3:starEach [.Call (.Name "set" p2) [e] [] p3] X.env=[(false,eval (.Call (.Name "set" p2) [e] [] p3) X.env)]:=by rfl) :
  DE X E (ag dJ (aa m ao)) (.Call (.Name "sorted" p1) [.Call (.Name "set" p2) [e] [] p3] [] pos):=by
 simp only [bu] at *
 intro pins s σ H Q I ⟨θ,h,ρ,w,fr,p⟩
 refine wpAny_Call_Name_kw (gw I hg hm1 (by decide +kernel:bootBuiltins "sorted" = some (.builtin "sorted")) ?_)
 refine PyProof.Rows.callWith_builtin1 ?_ (by rw [hs3];rfl) (by rfl)
 rw [hs3]
 show wpAny _ _ (spliced ((false,eval (.Call (.Name "set" p2) [e] [] p3) X.env)::[])) _ _ s
 refine Calls.spliced_cons ?_
 refine wpAny_Call_Name_kw (gw I hg2 hm2 (by decide +kernel:bootBuiltins "set" = some (.type "set")) ?_)
 refine PyProof.Rows.callWith_type1 ?_ (by rw [hs];rfl) (by rfl)
 rw [hs]
 show wpAny _ _ (spliced ((false,eval e X.env)::[])) _ _ s
 simp only [ag,aa,ao,R.bind_assoc,R.aD] at p
 refine Calls.spliced_cons (cf (ha pins s σ H (fun v H1=>∃ θ1 h1 d,W X.G θ1 h1 H1/\bE X.G θ1 H1 d v/\aB X.G (lu X.G E) θ1 H1 (dJ [d] h1) (Ml.KV X.G Q)) I ⟨θ,h,ρ,w,fr,(aB.bind p).mono fun d θ1 h1 H1 _ _ ⟨ev,w1,q1⟩ v r1=>⟨θ1,h1,d,w1,r1,q1⟩⟩) fun u s1 ⟨v,H1,I1,rv1,θ1,h1,d,w1,r1,q1⟩=>?_)
 refine Calls.spliced_nil ?_
 cases hsq:gn d h1 with
 | none=>simp only [dJ,hsq] at q1;exact q1.elim
 | some ds=>
  have hds:=hsq
  simp only [dJ,hsq] at q1
  by_cases hc2:(setOk ds && cw (dX ds))=true
  ·rw [if_pos hc2] at q1
   ·skip
    simp only [Bool.and_eq_true] at hc2
    obtain ⟨b,vs,its,rfl,SS⟩:=rO I1 w1 r1 hds
    cases rv1
    obtain ⟨T,OK,src,hok⟩:=SS.src
    obtain ⟨as,ra⟩:=aJ.reads I1 (SS.rep.same (aq _ _)) SS.val
    obtain ⟨md,hl,ht,hel⟩:=oG hc2.1 SS.so
    have hun:=hr.un
    refine oB (vp:=fun v=>v∈its) (md:=md) (ys:=ds) (as:=as) src (I1.ok.hd hc) hok (by simpa using ra) hel (fun v m=>by simpa using m) hl (by omega) fun h' tk dsS S md' kp=>?_
    refine Calls.spliced_nil ?_
    have S0:=S
    obtain ⟨_,_,_,SA⟩:=S0
    refine oH (s:=s1) (s':={s1 with heap:=h',toks:=tk}) I1 w1 rfl kp ⟨h',tk,s1.drawn,rfl⟩ (Nat.le_of_lt (Heap.lt_size SA.ob)) S (I1.ok.hd hc) ?_ hc2.2 ?_ (by omega) SS.rep SS.val (PyProof.Rows.ReadsAll.keeps kp ra) (fun v hv=>hv) q1
    ·refine (List.perm_ext_iff_of_nodup SA.nd (eM ht)).mpr fun d=>?_
     rw [md',fh ht]
    ·exact aQ.mpr fun d m=>aQ.mp SS.so d ((fh ht d).mp m)
  ·rw [if_neg hc2] at q1;exact q1.elim
end
end Ml
namespace Ml
open PySem PySem.Spec L2 gp
theorem ke {h:Heap}:∀ {us vs:List Value} {ds es:List PyData} {as bs:List Addr},ReadsAll h us ds as->ReadsAll h vs es bs->∃ cs,ReadsAll h (us++vs) (ds++es) cs
 | _,_,_,_,_,_,.nil,q=>⟨_,q⟩
 | _,_,_,_,_,_,.cons r t,q=>let ⟨_,x⟩:=ke t q;⟨_,.cons r x⟩
theorem ue {M:Hp}:∀ {ds es:List PyData} {vs us:List V},aJ M ds vs->aJ M es us->aJ M (ds++es) (vs++us)
 | [],_,_,_,h,q=>by cases h;exact q
 | _::_,_,_,_,⟨x,xs,rfl,r1,r2⟩,q=>⟨x,_,rfl,r1,ue r2 q⟩
theorem fi:∀ {xs ys:List PyData},xs.Nodup->(∀ x∈xs,x∈ys)->xs.length<=ys.length
 | [],_,_,_=>Nat.zero_le _
 | x::xs,ys,nd,h=>by
  classical
  obtain ⟨n1,n2⟩:=List.nodup_cons.mp nd
  have hx:=h x (List.mem_cons_self ..)
  obtain ⟨i,hi,e⟩:=List.getElem_of_mem hx
  have p:=dN hi
  rw [e] at p
  have:=fi (xs:=xs) (ys:=ys.eraseIdx i) n2 fun y hy=>by
   have:=p.mem_iff.mpr (h y (List.mem_cons_of_mem _ hy))
   rcases List.mem_cons.mp this with z | z
   ·exact absurd hy (z▸n1)
   ·exact z
  have pl:=p.length_eq
  simp only [List.length_cons] at pl ⊢
  omega
theorem _root_.gp.bT.move {vp vp':Value->Prop} {w:World} {h h':Heap} {a:Addr} {md:Bool} {ds:List PyData} {es:Array (Int×Value)} {ep:Nat} {t:SetTable} (S:bT vp w h a md ds es ep t) (ob:h'.get? a=some (aV es ep t)) (hv:∀ v,vp v->vp' v) (hr:∀ v d as,vp v->Reads h v d as->∃ bs,Reads h' v d bs):bT vp' w h' a md ds es ep t:=
 ⟨ob,S.tb,S.ld,S.nd,S.ln,Paired.jh S.el fun _ _ x=>⟨x.tr,x.dp,x.so,x.hs,x.kd,let ⟨as,r⟩:=x.rd;hr _ _ as x.vl r,hv _ x.vl⟩⟩
section
variable {X:Cx} {E:XK} {m m2:ME} {e e2:Expr} {k:Nat} {p1 p2 p3 p4 p5 p6 pos:Pos}
theorem uf {Q:Value->Shared->Prop} {pins:List (Addr×Obj)} {σ:St} {H:Hp} {s:Shared} {Qa:V->Hp->Prop} {te:TE} (hg2:Gl X "set") (hm2:X.mg "set" = none) (I:L2.Inv X pins σ H s) (ha:PE X e te) (ht:te σ H Qa)
  (hs:starEach [e] X.env=[(false,eval e X.env)])
  (q:∀ u s1 v H1,L2.Inv X pins σ H1 s1->RelV v u->Qa v H1->wpAny (model X.prog X.w) X.A (call (.type "set") [u]) Q X.xe s1):wpAny (model X.prog X.w) X.A (eval (.Call (.Name "set" p2) [e] [] p3) X.env) Q X.xe s:=by
 refine wpAny_Call_Name_kw (gw I hg2 hm2 (by decide +kernel:bootBuiltins "set" = some (.type "set")) ?_)
 refine PyProof.Rows.callWith_type1 ?_ (by rw [hs];rfl) (by rfl)
 rw [hs]
 show wpAny _ _ (spliced ((false,eval e X.env)::[])) _ _ s
 refine Calls.spliced_cons (cf (ha pins s σ H Qa I ht) fun u s1 ⟨v,H1,I1,rv1,q1⟩=>?_)
 exact Calls.spliced_nil (q u s1 v H1 I1 rv1 q1)
structure Jg (X:Cx) (op:Operator) (f:List PyData->List PyData->List PyData) (G:List PyData->List PyData->PyData->Prop):Prop where
 run:∀ {vp:Value->Prop} {md:Bool} {l r:Addr} {ds eds:List PyData} {Q:Value->Shared->Prop} {s:Shared},X.A.units+21 < cLine->l≠r->bB vp X.w s.heap l md ds->bB vp X.w s.heap r md eds->ds.length+eds.length<=120->vn vp X.w s md (G ds eds) Q->wpAny (model X.prog X.w) X.A (binaryOp op (.ref l) (.ref r)) Q X.xe s
 mem:∀ {ds es:List PyData},(∀ d∈ds++es,ai d=true)->(f ds es).Nodup/\∀ d,d∈f ds es<->G ds es d
 congr:∀ {ds es ds' es':List PyData},(∀ d,d∈ds<->d∈ds')->(∀ d,d∈es<->d∈es')->∀ d,G ds es d<->G ds' es' d
 sub:∀ {ds es:List PyData} {d},G ds es d->d∈ds++es
theorem Aa:Jg X .BitOr uE (fun ds es d=>d∈ds\/d∈es) where
 run:=fun h1 h2 h3 h4 h5 h6=>Gm h1 h2 h3 h4 h5 h6
 mem:=fun h=>⟨eM h,fun d=>by unfold uE;rw [fh h,List.mem_append]⟩
 congr:=fun h1 h2 d=>by rw [h1,h2]
 sub:=fun h=>List.mem_append.mpr h
theorem qA {op:Operator} {f:List PyData->List PyData->List PyData} {G:List PyData->List PyData->PyData->Prop} (O:Jg X op f G) (hc:X.calm=true) (hr:L2.cb k X.A) (hm1:X.mg "sorted" = none) (hm2:X.mg "set" = none) (ha:DE X E m e) (hb:DE X E m2 e2) (hg:Gl X "sorted" := by rfl) (hg2:Gl X "set" := by rfl) (hs:starEach [e] X.env=[(false,eval e X.env)]:=by rfl) (hs2:starEach [e2] X.env=[(false,eval e2 X.env)]:=by rfl)
  (hs3:starEach [.BinOp (.Call (.Name "set" p2) [e] [] p3) op (.Call (.Name "set" p4) [e2] [] p5) p6] X.env=[(false,eval (.BinOp (.Call (.Name "set" p2) [e] [] p3) op (.Call (.Name "set" p4) [e2] [] p5) p6) X.env)]:=by rfl) :
  DE X E (iL f m m2) (.Call (.Name "sorted" p1) [.BinOp (.Call (.Name "set" p2) [e] [] p3) op (.Call (.Name "set" p4) [e2] [] p5) p6] [] pos):=by
 simp only [bu] at *
 intro pins s σ H Q I ⟨θ,h,ρ,w,fr,p⟩
 refine wpAny_Call_Name_kw (gw I hg hm1 (by decide +kernel:bootBuiltins "sorted" = some (.builtin "sorted")) ?_)
 refine PyProof.Rows.callWith_builtin1 ?_ (by rw [hs3];rfl) (by rfl)
 rw [hs3]
 show wpAny _ _ (spliced ((false,eval (.BinOp (.Call (.Name "set" p2) [e] [] p3) op (.Call (.Name "set" p4) [e2] [] p5) p6) X.env)::[])) _ _ s
 refine Calls.spliced_cons ?_
 have hun:=hr.un
 have hA:=I.ok.hd hc
 refine wpAny_BinOp (uf (Qa:=fun v H1=>∃ θ1 h1 d,W X.G θ1 h1 H1/\Fr X.G θ1 H1 ρ σ/\bE X.G θ1 H1 d v/\aB X.G (lu X.G E) θ1 H1 (match gn d h1 with
   | some ds=>if setOk ds then (m2 ρ h1).bind fun y h2=>match gn y h2 with
     | some es=>if setOk (ds++es) && cw (f ds es) then .ok (.dat (.list (bG ltB (f ds es)))) h2 else .bad
     | Option.none=>.bad
    else .bad
   | Option.none=>.bad) (Ml.KV X.G Q)) hg2 hm2 I ha ⟨θ,h,ρ,w,fr,(aB.bind p).mono fun d θ1 h1 H1 _ _ ⟨ev,w1,q1⟩ v r1=>⟨θ1,h1,d,w1,fr.ev ev,r1,q1⟩⟩ hs fun u s1 v H1 I1 rv1 ⟨θ1,h1,d,w1,fr1,r1,q1⟩=>?_)
 cases hsq:gn d h1 with
 | none=>rw [hsq] at q1;exact q1.elim
 | some ds=>
  rw [hsq] at q1
  dsimp only at q1
  by_cases hc1:setOk ds=true
  case neg=>rw [if_neg hc1] at q1;exact q1.elim
  rw [if_pos hc1] at q1
  obtain ⟨b,vs,its,rfl,SS⟩:=rO I1 w1 r1 hsq
  cases rv1
  obtain ⟨T,OK,src,hok⟩:=SS.src
  obtain ⟨as,ra⟩:=aJ.reads I1 (SS.rep.same (aq _ _)) SS.val
  obtain ⟨md,hl,ht,hel⟩:=oG hc1 SS.so
  refine oB (vp:=fun v=>v∈its) (md:=md) (ys:=ds) (as:=as) src hA hok (by simpa using ra) hel (fun v m=>by simpa using m) hl (by omega) fun g1 tk1 dsS S md1 kp1=>?_
  obtain ⟨es1,ep1,t1,SA⟩:=S
  have I1':L2.Inv X pins σ H1 {s1 with heap:=g1,toks:=tk1}:=I1.kept (t':=tk1) kp1
  have hna:H1 s1.heap.objs.size=none:=I1.hok.fresh (Nat.le_refl _)
  have hfp:jI X pins H1 s1.heap.objs.size:=I1.xn (Nat.le_refl _) hna
  have I1p:L2.Inv X (pins++[(s1.heap.objs.size,aV es1 ep1 t1)]) σ H1 {s1 with heap:=g1,toks:=tk1}:=I1'.jH fun p hp=>by
   rcases List.mem_append.mp hp with z | z
   ·exact I1'.pin p (List.mem_append_right _ z)
   ·rw [List.mem_singleton.mp z]
    obtain ⟨f0,f1,f2,_⟩:=hfp
    exact ⟨SA.ob,f0,f1,f2,fun v z=>by cases z⟩
  refine uf (Qa:=fun v H2=>∃ θ2 h2 d2,Ev θ1 H1 θ2 H2/\W X.G θ2 h2 H2/\bE X.G θ2 H2 d2 v/\aB X.G (lu X.G E) θ2 H2 (match gn d2 h2 with
     | some es=>if setOk (ds++es) && cw (f ds es) then .ok (.dat (.list (bG ltB (f ds es)))) h2 else .bad
     | Option.none=>.bad) (Ml.KV X.G Q)) hg2 hm2 I1p hb ⟨θ1,h1,ρ,w1,fr1,(aB.bind q1).mono fun d2 θ2 h2 H2 _ _ ⟨ev2,w2,q2⟩ v2 r2=>⟨θ2,h2,d2,ev2,w2,r2,q2⟩⟩ hs2 fun u2 s2 v2 H2 I2 rv2 ⟨θ2,h2,d2,ev2,w2,r2,q2⟩=>?_
  cases hsq2:gn d2 h2 with
  | none=>rw [hsq2] at q2;exact q2.elim
  | some es=>
   rw [hsq2] at q2
   dsimp only at q2
   by_cases hc2:(setOk (ds++es) && cw (f ds es))=true
   case neg=>rw [if_neg hc2] at q2;exact q2.elim
   rw [if_pos hc2] at q2
   simp only [Bool.and_eq_true] at hc2
   obtain ⟨b2,vs2,its2,rfl,SS2⟩:=rO I2 w2 r2 hsq2
   cases rv2
   obtain ⟨T2,OK2,src2,hok2⟩:=SS2.src
   obtain ⟨as2,ra2⟩:=aJ.reads I2 (SS2.rep.same (aq _ _)) SS2.val
   have rp1:aJ (view θ2 H2) ds vs:=SS.rep.same ev2.same
   obtain ⟨as1,ra1⟩:=aJ.reads I2 (rp1.same (aq _ _)) SS.val
   have so12:bM (ds++es)=true:=aQ.mpr fun x hx=>by
    rcases List.mem_append.mp hx with z | z
    ·exact aQ.mp SS.so x z
    ·exact aQ.mp SS2.so x z
   obtain ⟨md2,hl2,ht2,hel2⟩:=oG hc2.1 so12
   have obA:s2.heap.get? s1.heap.objs.size=some (aV es1 ep1 t1):=(I2.pin (s1.heap.objs.size,aV es1 ep1 t1) (by simp)).1
   have ra1':ReadsAll g1 its ds as:=PyProof.Rows.ReadsAll.keeps kp1 ra
   have SA2:bT (fun v=>v∈its++its2) X.w s2.heap s1.heap.objs.size md dsS es1 ep1 t1:=SA.move obA (fun v hv=>List.mem_append_left _ hv) fun v d' as' hv rd'=>by
    obtain ⟨i,hi⟩:=List.getElem?_of_mem hv
    obtain ⟨x,bs,e1,e2⟩:=readsAll_get ra1' hi
    obtain ⟨y,cs,e3,e4⟩:=readsAll_get ra1 hi
    rw [e1] at e3
    cases e3
    have:=(PySem.Reads.unique rd' _ _ e2).1
    subst this
    exact ⟨cs,e4⟩
   have hmd:md=md2\/dsS=[]:=by
    cases hd:dsS with
    | nil=>exact .inr rfl
    | cons x xs=>
     have hx:x∈ds:=(md1 x).mp (by rw [hd];exact List.mem_cons_self ..)
     exact .inl ((hel x hx).2.2.2.symm.trans (hel2 x (List.mem_append_left _ hx)).2.2.2)
   have SB2:bB (fun v=>v∈its++its2) X.w s2.heap s1.heap.objs.size md2 dsS:=by
    rcases hmd with rfl | rfl
    ·exact ⟨_,_,_,SA2⟩
    ·have:es1.toList=[]:=by
      have hh:=SA2.el
      generalize es1.toList=l at hh
      cases hh
      rfl
     exact ⟨es1,ep1,t1,SA2.ob,SA2.tb,SA2.ld,SA2.nd,SA2.ln,by rw [this];exact .nil⟩
   have hlen1:ds.length+es.length<=120:=by simpa using hl2
   refine oB (vp:=fun v=>v∈its++its2) (md:=md2) (ys:=es) (as:=as2) src2 hA hok2 (by simpa using ra2) (fun y hy=>hel2 y (List.mem_append_right _ hy)) (fun v m=>List.mem_append_right _ (by simpa using m)) (by omega) (by omega) fun g3 tk3 dsS2 S3 md3 kp3=>?_
   have SB3:bB (fun v=>v∈its++its2) X.w g3 s1.heap.objs.size md2 dsS:=by
    obtain ⟨a1,a2,a3,a4⟩:=SB2
    exact ⟨a1,a2,a3,a4.keep kp3⟩
   have lt2:s1.heap.objs.size < s2.heap.objs.size:=Heap.lt_size obA
   have nd1:dsS.length<=ds.length:=by
    obtain ⟨_,_,_,z⟩:=SB2
    exact fi z.nd fun x hx=>(md1 x).mp hx
   have nd3:dsS2.length<=es.length:=by
    obtain ⟨_,_,_,z⟩:=S3
    exact fi z.nd fun x hx=>(md3 x).mp hx
   refine O.run (s:={s2 with heap:=g3,toks:=tk3}) (by omega) (Nat.ne_of_lt lt2) SB3 S3 (by omega) fun a4 g4 ds4 dr4 ge4 kp4 S4 md4=>?_
   refine Calls.spliced_nil ?_
   obtain ⟨cs,rc⟩:=ke (PyProof.Rows.ReadsAll.keeps (fun b o eb=>kp4 b o (kp3 b o eb)) ra1) (PyProof.Rows.ReadsAll.keeps (fun b o eb=>kp4 b o (kp3 b o eb)) ra2)
   obtain ⟨fn,fm⟩:=O.mem ht2
   have I2p:L2.Inv X pins σ H2 s2:=I2.jH fun p hp=>I2.pin p (by simp [hp])
   have S40:=S4
   obtain ⟨_,_,_,SA4⟩:=S40
   refine oH (s:=s2) (s':={s2 with heap:=g4,toks:=tk3,drawn:=dr4}) I2p w2 rfl (fun b o eb=>kp4 b o (kp3 b o eb)) ⟨g4,tk3,dr4,rfl⟩ ?_ S4 hA ?_ hc2.2 ?_ (by omega) (ue rp1 SS2.rep) (SS.val.append SS2.val) rc (fun v hv=>hv) q2
   ·have:=Heap.lt_size SA4.ob
    obtain ⟨_,_,_,z⟩:=S3
    have z2:=Heap.lt_size z.ob
    have:g3.objs.size<=a4:=ge4
    exact Nat.le_of_lt (Nat.lt_trans z2 (Nat.lt_of_le_of_lt this (Heap.lt_size SA4.ob)))
   ·refine (List.perm_ext_iff_of_nodup SA4.nd fn).mpr fun x=>?_
    rw [md4,fm,O.congr md1 md3]
   ·exact aQ.mpr fun x hx=>aQ.mp so12 x (O.sub ((fm x).mp hx))
end
end Ml
namespace L2
open PySem PySem.Spec PyProof.Rows
section
variable {X:Cx} {pos:Pos}
def Gn (i j l:Nat) (ta:TA):TS:=fun D σ H=>ta σ H fun vs H1=>∃ v w z,vs=[v,w,z]/\D.nx (((σ.set i (some v)).set j (some w)).set l (some z)) H1
theorem BZ {i j l:Nat} {x y z:Str} {a b c:Expr} {ta:TA} {px py pz pt:Pos} {kt k2 pt2} (hc:X.calm=true) (hN:X.N.Nodup) (hi:X.N[i]?=some x) (hj:X.N[j]?=some y) (hl:X.N[l]?=some z) (hij:i≠j) (hil:i≠l) (hjl:j≠l)
  (hx:X.env.scope.names.lookup x=some .local) (hy:X.env.scope.names.lookup y=some .local) (hz:X.env.scope.names.lookup z=some .local) (ha:PA X [a,b,c] ta)
  (hw:swappedStores [.Tuple [.Name x px,.Name y py,.Name z pz] kt pt] (.Tuple [a,b,c] k2 pt2) X.env=pure (some [x,y,z]))
  (hs:swapsWithSole [.Tuple [.Name x px,.Name y py,.Name z pz] kt pt] (.Tuple [a,b,c] k2 pt2) pos.line X.env=pure false:=by rfl) :
  PS X (.Assign [.Tuple [.Name x px,.Name y py,.Name z pz] kt pt] (.Tuple [a,b,c] k2 pt2) pos) (Gn i j l ta):=by
 intro pins s σ H D I h
 rw [exec_Assign_arm]
 refine wpAny_bind (wpAny_standAt ?_)
 rw [hs]
 refine wpAny_bind (wpAny_pure ?_)
 rw [if_neg (by decide)]
 refine wpAny_bind (Tuple_ (cf (ha _ pins s σ H _ I h) fun us s1 ⟨vs,H1,I1,r1,q1⟩=>?_))
 obtain ⟨v,w,t,e1,q1⟩:=q1
 subst e1
 obtain ⟨u1,u2,u3,rfl,rv,rw',rt⟩:∃ u1 u2 u3,us=[u1,u2,u3]/\RelV v u1/\RelV w u2/\RelV t u3:=by
  cases r1 with
  | cons p q=>
   cases q with
   | cons p' q'=>
    cases q' with
    | cons p2 q2=>
     cases q2
     exact ⟨_,_,_,rfl,p,p',p2⟩
 refine wpAny_newObj_type ?_ (by show 3<=sizeLine;decide)
 have I2:Inv X pins σ H1 {s1 with heap:=s1.heap.push {cls:=.type "tuple",data:=.seq [u1,u2,u3].toArray}}:=I1.kept (t':=s1.toks) fun b o e=>Heap.get?_push_of_some _ e
 rw [hw]
 refine wpAny_bind (wpAny_pure ?_)
 show wpAny (model X.prog X.w) X.A (do rule "assign.swapped-stores";let items <- unpackItems (.ref s1.heap.objs.size) 3 none;assignInOrder [fun v=>bindName X.env z v,fun v=>bindName X.env y v,fun v=>bindName X.env x v] items.reverse;pure Flow.next) _ _ _
 refine wpAny_bind (wpAny_rule (wpAny_bind (unpackItems_tuple (items:=#[u1,u2,u3]) (I.ok.hd hc) (IsTup.new s1.heap _) fun h' hx'=>?_)))
 have I3:=I2.kept (h':=h') (t':=s1.toks) fun b o e=>hx' b o (Nat.ne_of_lt (Heap.lt_size e)) e
 show wpAny _ _ (assignInOrder [fun v=>bindName X.env z v,fun v=>bindName X.env y v,fun v=>bindName X.env x v] [u3,u2,u1] >>= fun _=>pure Flow.next) _ _ _
 refine wpAny_bind (assignInOrder_cons (wpAny_bindName (gX I3 hN hl (.inl hz) rt (fun s2 I4=>?_) (.inr hz))))
 refine assignInOrder_cons (wpAny_bindName (gX I4 hN hj (.inl hy) rw' (fun s3 I5=>?_) (.inr hy)))
 refine assignInOrder_cons (wpAny_bindName (gX I5 hN hi (.inl hx) rv (fun s4 I6=>assignInOrder_nil (wpAny_pure ?_)) (.inr hx)))
 have e:((σ.set l (some t)).set j (some w)).set i (some v)=((σ.set i (some v)).set j (some w)).set l (some t):=by
  rw [List.set_comm _ _ hjl.symm,List.set_comm _ _ (Ne.symm hil),List.set_comm _ _ (Ne.symm hij)]
 rw [e] at I6
 exact ⟨_,H1,I6,q1⟩
end
end L2
namespace Ml
open PySem PySem.Spec L2
section
variable {X:Cx} {E:XK} {ma:MA} {pos:Pos} {x:Str}
theorem Gp {a b c:Expr} {y z:Str} {px py pz pt:Pos} {kt k2 pt2} (i j l:Nat) (hN:X.N.Nodup) (ha:DA X E ma [a,b,c]) (hc:X.calm=true:=by rfl) (hi:X.N[i]?=some x:=by rfl) (hj:X.N[j]?=some y:=by rfl) (hl:X.N[l]?=some z:=by rfl) (hij:i≠j:=by decide) (hil:i≠l:=by decide) (hjl:j≠l:=by decide)
  (hx:X.env.scope.names.lookup x=some .local:=by rfl) (hy:X.env.scope.names.lookup y=some .local:=by rfl) (hz:X.env.scope.names.lookup z=some .local:=by rfl)
  (hw:swappedStores [.Tuple [.Name x px,.Name y py,.Name z pz] kt pt] (.Tuple [a,b,c] k2 pt2) X.env=pure (some [x,y,z]):=by kernel_rfl)
  (hs:swapsWithSole [.Tuple [.Name x px,.Name y py,.Name z pz] kt pt] (.Tuple [a,b,c] k2 pt2) pos.line X.env=pure false:=by rfl) :
  DS X E (yX [i,j,l] ma) (.Assign [.Tuple [.Name x px,.Name y py,.Name z pz] kt pt] (.Tuple [a,b,c] k2 pt2) pos):=by
 rw [hZ] at ha
 rw [h9]
 exact PS.imp (BZ hc hN hi hj hl hij hil hjl hx hy hz ha hw hs) fun C σ H ⟨θ,h,ρ,w,fr,p⟩=>⟨θ,h,ρ,w,fr,(aB.bind p).mono fun ds θ1 h1 H1 _ _ ⟨ev,w1,p1⟩ vs r=>by
   cases r with
   | nil=>exact p1.elim
   | cons r1 rr=>
    cases rr with
    | nil=>exact p1.elim
    | cons r2 rr=>
     cases rr with
     | nil=>exact p1.elim
     | cons r3 rr=>
      cases rr with
      | nil=>exact ⟨_,_,_,rfl,p1 θ1 H1 Ev.refl w1 _ ((((fr.ev ev).set r1).set r2).set r3)⟩
      | cons=>exact p1.elim⟩
end
end Ml
namespace K04
open PySem L2 Ml
def top (i:Nat):Stmt:=PySem.Challenge.pw_everalike_k04_whole_webs_put_together.main.body.getD i (.Pass ⟨0,0,0,0⟩)
structure Txt (K:PySem.W.Frag) (mg:Str->Option Value):Prop where
 n_all:mg "all" = none
 n_len:mg "len" = none
 n_isinstance:mg "isinstance" = none
 n_str:mg "str" = none
 n_zip:mg "zip" = none
 n_tuple:mg "tuple" = none
 n_sorted:mg "sorted" = none
 n_set:mg "set" = none
 n_range:mg "range" = none
 n_abs:mg "abs" = none
 n_divmod:mg "divmod" = none
 n_list:mg "list" = none
 n_max:mg "max" = none
 n_min:mg "min" = none
 i_LONGEST_NAME:∃ t,mg "LONGEST_NAME" = some (.int 6 t)
 i_MOST_NAMES:∃ t,mg "MOST_NAMES" = some (.int 12 t)
section
variable {P:Program} {w:World} {K:PySem.W.Frag} {mg:Str->Option Value} {base:Heap} {XE:VK->XK} {bm:Addr}
abbrev kT:Stmt:=top 8
theorem vt:aZ ["thing"] ["thing"] (ay kT):=⟨rfl,rfl,rfl,by decide +kernel,rfl,by decide +kernel,by decide +kernel⟩
theorem rP:(["letter", "thing"]:List Str).Nodup:=by decide +kernel
theorem x8 (D:Df K mg "is_name" ["thing"] kT) (T:Txt K mg):aT P w K mg base "is_name" ["thing"] 1 fg:=
 aT.eq (Df.has (k:=0) D vt (fun f cdv A outer s H E hr=>
  av (eW (DW.dt (ly (ia (fD (zJ (Bd _) Ee T.n_isinstance T.n_str (dv 0)))) (jt (ia (zI Bu Bu (aE) (sJ lF T.n_len g9 (ab (dv 0) (ak))) (rG T.i_LONGEST_NAME)))))) (aC (bc (cG))) (cj))
  (aC (bc (sJ (wH rfl) T.n_all qU (ab (et ["letter"] (by rfl) rfl (dW (dv 0)) (fun _ _ _ _ _=>dg 0 rP) (fun _ _ _ _ _=>gC) (fun _ _ _ _ _=>zH Bu Bu (dE) (dv 0) (dE))) (ak))))))) (by kernel_rfl)
abbrev ig:Stmt:=top 9
theorem rQ:aZ ["things"] ["things"] (ay ig):=⟨rfl,rfl,rfl,by decide +kernel,rfl,by decide +kernel,by decide +kernel⟩
theorem ij:(["low", "high", "things"]:List Str).Nodup:=by decide +kernel
theorem ug (D:Df K mg "is_rising" ["things"] ig) (T:Txt K mg):aT P w K mg base "is_rising" ["things"] 1 cJ:=
 aT.eq (Df.has (k:=0) D rQ (fun f cdv A outer s H E hr=>
  aC (bc (sJ (wH rfl) T.n_all qU (ab (et ["low", "high"] (by rfl) rfl (EA (by rfl) T.n_zip (ab (dv 0) (ab (zp (dv 0) (Bw (aE)) (Bv)) (ak)))) (fun _ _ _ _ _=>kM rfl (cB (dg 0 ij) (cB (dg 1 ij) (iI))) (bI (bI (ff)))) (fun _ _ _ _ _=>gC) (fun _ _ _ _ _=>u7 (ED hr) (dv 0) (dv 1) (by rfl))) (ak)))))) (by kernel_rfl)
abbrev ik:Stmt:=top 10
theorem rR:aZ ["thing"] ["thing"] (ay ik):=⟨rfl,rfl,rfl,by decide +kernel,rfl,by decide +kernel,by decide +kernel⟩
theorem oJ:(["part", "thing"]:List Str).Nodup:=by decide +kernel
theorem uh (D:Df K mg "are_names" ["thing"] ik) (T:Txt K mg) (H_is_rising:aT P w K mg base "is_rising" ["things"] 1 cJ) (H_is_name:aT P w K mg base "is_name" ["thing"] 1 fg):aT P w K mg base "are_names" ["thing"] 2 eJ:=
 aT.eq (Df.has (k:=1) D rR (fun f cdv A outer s H E hr=>
  av (eW (DW.dt (ly (ia (fD (zJ (kit_tuple _) eF T.n_isinstance T.n_tuple (dv 0)))) (jt (bX F9 (sJ lF T.n_len g9 (ab (dv 0) (ak))) (rG T.i_MOST_NAMES) (by rfl))))) (aC (bc (cG))) (cj))
  (aC (bc (mL (sJ (wH rfl) T.n_all qU (ab (et ["part"] (by rfl) rfl (dW (dv 0)) (fun _ _ _ _ _=>dg 0 oJ) (fun _ _ _ _ _=>gC) (fun _ _ _ _ _=>bh H_is_name dG (hr.mono (by omega)) (by rfl) (ab (dv 0) (ak)))) (ak))) (rh (bh H_is_rising aM (hr.mono (by omega)) (by rfl) (ab (dv 0) (ak))))))))) (by kernel_rfl)
abbrev ip:Stmt:=top 11
theorem rS:aZ ["thing", "names"] ["thing", "names"] (ay ip):=⟨rfl,rfl,rfl,by decide +kernel,rfl,by decide +kernel,by decide +kernel⟩
theorem ui (D:Df K mg "is_strike" ["thing", "names"] ip) (T:Txt K mg):aT P w K mg base "is_strike" ["thing", "names"] 1 dz:=
 aT.eq (Df.has (k:=0) D rS (fun f cdv A outer s H E hr=>
  av (eW (DW.dt (ly (ia (fD (zJ (kit_tuple _) eF T.n_isinstance T.n_tuple (dv 0)))) (jt (bX (pG hr) (sJ lF T.n_len g9 (ab (dv 0) (ak))) (aE) (by rfl))))) (aC (bc (cG))) (cj))
  (aC (bc (mL (u7 (EL hr) (dF (bN hr) (dv 0) (aE) (fun _ _=>rfl)) (dv 1) (by rfl)) (rh (u7 (EL hr) (dF (bN hr) (dv 0) (aE) (fun _ _=>rfl)) (dv 1) (by rfl)))))))) (by kernel_rfl)
abbrev gb:Stmt:=top 12
theorem oK:aZ ["thing", "names"] ["thing", "names"] (ay gb):=⟨rfl,rfl,rfl,by decide +kernel,rfl,by decide +kernel,by decide +kernel⟩
theorem kU:(["part", "thing", "names"]:List Str).Nodup:=by decide +kernel
theorem pJ (D:Df K mg "are_strikes" ["thing", "names"] gb) (T:Txt K mg) (H_is_rising:aT P w K mg base "is_rising" ["things"] 1 cJ) (H_is_strike:aT P w K mg base "is_strike" ["thing", "names"] 1 dz):aT P w K mg base "are_strikes" ["thing", "names"] 2 cW:=
 aT.eq (Df.has (k:=1) D oK (fun f cdv A outer s H E hr=>
  av (eW (ia (fD (zJ (kit_tuple _) eF T.n_isinstance T.n_tuple (dv 0)))) (aC (bc (cG))) (cj))
  (aC (bc (mL (sJ (wH rfl) T.n_all qU (ab (et ["part"] (by rfl) rfl (dW (dv 0)) (fun _ _ _ _ _=>dg 0 kU) (fun _ _ _ _ _=>gC) (fun _ _ _ _ _=>bh H_is_strike dG (hr.mono (by omega)) (by rfl) (ab (dv 0) (ab (dv 2) (ak))))) (ak))) (rh (bh H_is_rising aM (hr.mono (by omega)) (by rfl) (ab (dv 0) (ak))))))))) (by kernel_rfl)
abbrev oM:Stmt:=top 13
theorem kW:aZ ["thing", "names", "strikes"] ["thing"] (ay oM):=⟨rfl,rfl,rfl,by decide +kernel,rfl,by decide +kernel,by decide +kernel⟩
theorem Ab (D:Df K mg "is_web" ["thing"] oM) (T:Txt K mg) (H_are_strikes:aT P w K mg base "are_strikes" ["thing", "names"] 2 cW) (H_are_names:aT P w K mg base "are_names" ["thing"] 2 eJ):aT P w K mg base "is_web" ["thing"] 3 eK:=
 aT.eq (Df.has (k:=2) D kW (fun f cdv A outer s H E hr=>
  av (eW (DW.dt (ly (ia (fD (zJ (kit_tuple _) eF T.n_isinstance T.n_tuple (dv 0)))) (jt (bX (pG hr) (sJ lF T.n_len g9 (ab (dv 0) (ak))) (aE) (by rfl))))) (aC (bc (cG))) (cj))
  (av (rl (dv 0) (kM rfl (cB (dg 1 kW.nd) (cB (dg 2 kW.nd) (iI))) (bI (bI (ff)))))
  (aC (bc (mL (bh H_are_names aM (hr.mono (by omega)) (by rfl) (ab (dv 1) (ak))) (rh (bh H_are_strikes aM (hr.mono (by omega)) (by rfl) (ab (dv 2) (ab (dv 1) (ak))))))))))) (by kernel_rfl)
abbrev iq:Stmt:=top 14
theorem rT:aZ ["thing"] ["thing"] (ay iq):=⟨rfl,rfl,rfl,by decide +kernel,rfl,by decide +kernel,by decide +kernel⟩
theorem uj (D:Df K mg "check_web" ["thing"] iq) (T:Txt K mg) (H_is_web:aT P w K mg base "is_web" ["thing"] 3 eK):aT P w K mg base "check_web" ["thing"] 4 bO:=
 aT.eq (Df.has (k:=3) D rT (fun f cdv A outer s H E hr=>
  aC (eW (ia (fD (bh H_is_web aM (hr.mono (by omega)) (by rfl) (ab (dv 0) (ak))))) (aC (vg)) (cj)))) (by kernel_rfl)
abbrev gK:Stmt:=top 15
theorem pK:aZ ["web", "thing"] ["web", "thing"] (ay gK):=⟨rfl,rfl,rfl,by decide +kernel,rfl,by decide +kernel,by decide +kernel⟩
theorem rV (D:Df K mg "check_name" ["web", "thing"] gK) (T:Txt K mg):aT P w K mg base "check_name" ["web", "thing"] 1 cx:=
 aT.eq (Df.has (k:=0) D pK (fun f cdv A outer s H E hr=>
  aC (eW (bX (CV hr) (dv 1) (dF (bN hr) (dv 0) (aE) (fun _ _=>rfl)) (by rfl)) (aC (vg)) (cj)))) (by kernel_rfl)
abbrev jz:Stmt:=top 16
theorem uk:aZ ["web", "name"] ["web", "name"] (ay jz):=⟨rfl,rfl,rfl,by decide +kernel,rfl,by decide +kernel,by decide +kernel⟩
theorem jd:(["one", "other", "web", "name"]:List Str).Nodup:=by decide +kernel
theorem vv (D:Df K mg "strikers" ["web", "name"] jz) (T:Txt K mg) (H_check_name:aT P w K mg base "check_name" ["web", "thing"] 1 cx) (H_check_web:aT P w K mg base "check_web" ["thing"] 4 bO):aT P w K mg base "strikers" ["web", "name"] 5 aU:=
 aT.eq (Df.has (k:=4) D uk (fun f cdv A outer s H E hr=>
  av (iH (bh H_check_web aM (hr.mono (by omega)) (by rfl) (ab (dv 0) (ak))))
  (av (iH (bh H_check_name aM (hr.mono (by omega)) (by rfl) (ab (dv 0) (ab (dv 1) (ak)))))
  (aC (bc (et ["one", "other"] (by rfl) rfl (dW (dF (bN hr) (dv 0) (aE) (fun _ _=>rfl))) (fun _ _ _ _ _=>kM rfl (cB (dg 0 jd) (cB (dg 1 jd) (iI))) (bI (bI (ff)))) (fun _ _ _ _ _=>mH (bX (Bt hr) (dv 1) (dv 3) (by rfl))) (fun _ _ _ _ _=>dv 0))))))) (by kernel_rfl)
abbrev oN:Stmt:=top 17
theorem x9:aZ ["web", "name"] ["web", "name"] (ay oN):=⟨rfl,rfl,rfl,by decide +kernel,rfl,by decide +kernel,by decide +kernel⟩
theorem lX:(["one", "other", "web", "name"]:List Str).Nodup:=by decide +kernel
theorem Ac (D:Df K mg "struck" ["web", "name"] oN) (T:Txt K mg) (H_check_name:aT P w K mg base "check_name" ["web", "thing"] 1 cx) (H_check_web:aT P w K mg base "check_web" ["thing"] 4 bO):aT P w K mg base "struck" ["web", "name"] 5 eL:=
 aT.eq (Df.has (k:=4) D x9 (fun f cdv A outer s H E hr=>
  av (iH (bh H_check_web aM (hr.mono (by omega)) (by rfl) (ab (dv 0) (ak))))
  (av (iH (bh H_check_name aM (hr.mono (by omega)) (by rfl) (ab (dv 0) (ab (dv 1) (ak)))))
  (aC (bc (et ["one", "other"] (by rfl) rfl (dW (dF (bN hr) (dv 0) (aE) (fun _ _=>rfl))) (fun _ _ _ _ _=>kM rfl (cB (dg 0 lX) (cB (dg 1 lX) (iI))) (bI (bI (ff)))) (fun _ _ _ _ _=>mH (bX (Bt hr) (dv 0) (dv 3) (by rfl))) (fun _ _ _ _ _=>dv 1))))))) (by kernel_rfl)
abbrev eV:Stmt:=top 18
theorem kX:aZ ["one", "other"] ["one", "other"] (ay eV):=⟨rfl,rfl,rfl,by decide +kernel,rfl,by decide +kernel,by decide +kernel⟩
theorem mn (D:Df K mg "names_of_both" ["one", "other"] eV) (T:Txt K mg):aT P w K mg base "names_of_both" ["one", "other"] 1 cC:=
 aT.eq (Df.has (k:=0) D kX (fun f cdv A outer s H E hr=>
  aC (bc (qA Aa rfl hr T.n_sorted T.n_set (dF (bN hr) (dv 0) (aE) (fun _ _=>rfl)) (dF (bN hr) (dv 1) (aE) (fun _ _=>rfl)))))) (by kernel_rfl)
abbrev jA:Stmt:=top 19
theorem iu:aZ ["one", "other", "names", "strikes"] ["one", "other"] (ay jA):=⟨rfl,rfl,rfl,by decide +kernel,rfl,by decide +kernel,by decide +kernel⟩
theorem vw (D:Df K mg "together" ["one", "other"] jA) (T:Txt K mg) (H_names_of_both:aT P w K mg base "names_of_both" ["one", "other"] 1 cC) (H_check_web:aT P w K mg base "check_web" ["thing"] 4 bO):aT P w K mg base "together" ["one", "other"] 5 bz:=
 aT.eq (Df.has (k:=4) D iu (fun f cdv A outer s H E hr=>
  av (iH (bh H_check_web aM (hr.mono (by omega)) (by rfl) (ab (dv 0) (ak))))
  (av (iH (bh H_check_web aM (hr.mono (by omega)) (by rfl) (ab (dv 1) (ak))))
  (av (jy 2 iu.nd (bh H_names_of_both aM (hr.mono (by omega)) (by rfl) (ab (dv 0) (ab (dv 1) (ak)))))
  (av (eW (bX F9 (sJ lF T.n_len g9 (ab (dv 2) (ak))) (rG T.i_MOST_NAMES) (by rfl)) (aC (vg)) (cj))
  (av (jy 3 iu.nd (qA Aa rfl hr T.n_sorted T.n_set (dF (bN hr) (dv 0) (aE) (fun _ _=>rfl)) (dF (bN hr) (dv 1) (aE) (fun _ _=>rfl))))
  (aC (bc (nG (ab (mD (mJ rfl) T.n_tuple eF (ab (dv 2) (ak))) (ab (mD (mJ rfl) T.n_tuple eF (ab (dv 3) (ak))) (ak)))))))))))) (by kernel_rfl)
abbrev iw:Stmt:=top 21
theorem rW:aZ ["_law_script", "_law_k"] ["_law_script", "_law_k"] (ay iw):=⟨rfl,rfl,rfl,by decide +kernel,rfl,by decide +kernel,by decide +kernel⟩
theorem um (D:Df K mg "_law_cell" ["_law_script", "_law_k"] iw) (T:Txt K mg):aT P w K mg base "_law_cell" ["_law_script", "_law_k"] 1 eN:=
 aT.eq (Df.has (k:=0) D rW (fun f cdv A outer s H E hr=>
  av (eW (bX (ED hr) (dv 1) (sJ lF T.n_len g9 (ab (dv 0) (ak))) (by rfl)) (aC (bc (dF (bN hr) (dv 0) (dv 1) (fun _ _=>rfl)))) (cj))
  (aC (bc (aE))))) (by kernel_rfl)
abbrev jB:Stmt:=top 22
theorem eO:aZ ["_law_cell_here", "_law_k", "_law_some", "_law_stir"] ["_law_cell_here", "_law_k"] (ay jB):=⟨rfl,rfl,rfl,by decide +kernel,rfl,by decide +kernel,by decide +kernel⟩
theorem vx (D:Df K mg "_law_mix" ["_law_cell_here", "_law_k"] jB) (T:Txt K mg):aT P w K mg base "_law_mix" ["_law_cell_here", "_law_k"] 1 dk:=
 aT.eq (Df.has (k:=0) D eO (fun f cdv A outer s H E hr=>
  av (jy 2 eO.nd (jv 8 (d:=.list [.int 48271,.int 69621,.int 16807,.int 39373,.int 30269,.int 40014,.int 40692,.int 50021,.int 61687,.int 71993,.int 83869,.int 95561,.int 30307]) (Lit.of (by kernel_rfl)) (by decide +kernel)))
  (av (jy 3 eO.nd (bH nR (bH i9 (bH tE (dv 0) (aE)) (aE)) (dF (bN hr) (dv 2) (bH tE (dv 1) (aE)) (fun _ _=>rfl))))
  (av (jy 3 eO.nd (bH i9 (bH i9 (dv 3) (bH nR (aE) (dv 1))) (bH nR (aE) (bH vc (dv 1) (aE)))))
  (av (jy 3 eO.nd (bH tE (dv 3) (aE)))
  (aC (bc (bH vc (bH tE (bH i9 (bH nR (dv 3) (dv 3)) (bH nR (aE) (dv 1))) (aE)) (aE))))))))) (by kernel_rfl)
abbrev jC:Stmt:=top 23
theorem eP:aZ ["_law_script", "_law_k", "_law_lap", "_law_cell_here", "_law_number", "_law_j"] ["_law_script", "_law_k", "_law_lap"] (ay jC):=⟨rfl,rfl,rfl,by decide +kernel,rfl,by decide +kernel,by decide +kernel⟩
theorem vz (D:Df K mg "_law_box" ["_law_script", "_law_k", "_law_lap"] jC) (T:Txt K mg) (H__law_mix:aT P w K mg base "_law_mix" ["_law_cell_here", "_law_k"] 1 dk) (H__law_cell:aT P w K mg base "_law_cell" ["_law_script", "_law_k"] 1 eN):aT P w K mg base "_law_box" ["_law_script", "_law_k", "_law_lap"] 2 cK:=
 aT.eq (Df.has (k:=1) D eP (fun f cdv A outer s H E hr=>
  av (jy 3 eP.nd (bh H__law_cell aM (hr.mono (by omega)) (by rfl) (ab (dv 0) (ab (dv 1) (ak)))))
  (av (eW (DW.dt (Er (bX (Bt hr) (bH tE (dv 3) (aE)) (aE) (by rfl)) (Bm (bX (Bt hr) (dv 2) (aE) (by rfl))))) (aC (bc (u9 (ab (bH vc (sJ Gd T.n_abs Eb (ab (dv 3) (ak))) (aE)) (ak))))) (cj))
  (av (jy 4 eP.nd (aE))
  (av (ju rfl (mG (by rfl) T.n_range (ab (aE) (ak))) (dg 5 eP.nd) (aC (jy 4 eP.nd (bH i9 (bH nR (dv 4) (aE)) (bh H__law_mix dG (hr.mono (by omega)) (by rfl) (ab (dv 3) (ab (bH i9 (bH nR (aE) (dv 2)) (dv 5)) (ak))))))))
  (aC (bc (u9 (ab (dv 4) (ak)))))))))) (by kernel_rfl)
abbrev ix:Stmt:=top 24
theorem gL:aZ ["_law_box_here", "_law_count", "_law_left", "_law_digit"] ["_law_box_here", "_law_count"] (ay ix):=⟨rfl,rfl,rfl,by decide +kernel,rfl,by decide +kernel,by decide +kernel⟩
theorem uo (D:Df K mg "_law_take" ["_law_box_here", "_law_count"] ix) (T:Txt K mg):aT P w K mg base "_law_take" ["_law_box_here", "_law_count"] 1 aI:=
 aT.eq (Df.has (k:=0) D gL (fun f cdv A outer s H E hr=>
  av (rl (sJ zr T.n_divmod xJ (ab (dF (bN hr) (dv 0) (aE) (fun _ _=>rfl)) (ab (dv 1) (ak)))) (kM rfl (cB (dg 2 gL.nd) (cB (dg 3 gL.nd) (iI))) (bI (bI (ff)))))
  (av (rl (dv 2) (EK hr (dv 0) (aE) (fun _=>rfl)))
  (aC (bc (dv 3)))))) (by kernel_rfl)
abbrev iy:Stmt:=top 25
theorem cy:aZ ["_law_box_here", "_law_most_names", "_law_left", "_law_names", "_law_share", "_law_pairs_here", "_law_one"] ["_law_box_here", "_law_most_names"] (ay iy):=⟨rfl,rfl,rfl,by decide +kernel,rfl,by decide +kernel,by decide +kernel⟩
theorem oO:(["_law_other", "_law_box_here", "_law_most_names", "_law_left", "_law_names", "_law_share", "_law_pairs_here", "_law_one"]:List Str).Nodup:=by decide +kernel
theorem oP:(["_law_nth", "_law_box_here", "_law_most_names", "_law_left", "_law_names", "_law_share", "_law_pairs_here", "_law_one"]:List Str).Nodup:=by decide +kernel
theorem uq (D:Df K mg "_law_wide" ["_law_box_here", "_law_most_names"] iy) (T:Txt K mg) (H__law_take:aT P w K mg base "_law_take" ["_law_box_here", "_law_count"] 1 aI):aT P w K mg base "_law_wide" ["_law_box_here", "_law_most_names"] 2 bq:=
 aT.eq ((Df.has (k:=1) D cy (fun f cdv A outer s H E hr=>
  av (jy 2 cy.nd (u9 (ab (dE) (ab (dE) (ab (dE) (ab (dE) (ab (dE) (ab (dE) (ab (dE) (ab (dE) (ab (dE) (ab (dE) (ab (dE) (ab (dE) (ak)))))))))))))))
  (av (jy 3 cy.nd (sJ (tF hr) T.n_sorted pV (ab (et ["_law_nth"] (by rfl) rfl (mG (by rfl) T.n_range (ab (bh H__law_take aM (hr.mono (by omega)) (by rfl) (ab (dv 0) (ab (bH i9 (dv 1) (aE)) (ak)))) (ak))) (fun _ _ _ _ _=>dg 0 oP) (fun _ _ _ _ _=>gC) (fun _ _ _ _ _=>zv (dv 3) (bh H__law_take dG (hr.mono (by omega)) (by rfl) (ab (dv 1) (ab (sJ lF T.n_len g9 (ab (dv 3) (ak))) (ak)))))) (ak))))
  (av (rl (nG (ab (dF (bN hr) (jv 8 (d:=.list [.int 1,.int 2,.int 3,.int 5]) (Lit.of (by kernel_rfl)) (by decide +kernel)) (bh H__law_take aM (hr.mono (by omega)) (by rfl) (ab (dv 0) (ab (aE) (ak)))) (fun _ _=>rfl)) (ab (jv 8 (d:=.list []) (Lit.of (by kernel_rfl)) (by decide +kernel)) (ak)))) (kM rfl (cB (dg 4 cy.nd) (cB (dg 5 cy.nd) (iI))) (bI (bI (ff)))))
  (av (ju rfl (dW (dv 3)) (dg 6 cy.nd) (aC (jy 5 cy.nd (bH i9 (dv 5) (et ["_law_other"] (by rfl) rfl (dW (dv 3)) (fun _ _ _ _ _=>dg 0 oO) (fun _ _ _ _ _=>mH (bX (ED hr) (bh H__law_take dG (hr.mono (by omega)) (by rfl) (ab (dv 1) (ab (aE) (ak)))) (dv 5) (by rfl))) (fun _ _ _ _ _=>nG (ab (dv 7) (ab (dv 0) (ak)))))))))
  (aC (bc (nG (ab (mD (mJ rfl) T.n_tuple eF (ab (dv 3) (ak))) (ab (mD (mJ rfl) T.n_tuple eF (ab (dv 5) (ak))) (ak))))))))))).hU) (by kernel_rfl)
abbrev gM:Stmt:=top 26
theorem eE:aZ ["_law_web", "_law_rows", "_law_name"] ["_law_web"] (ay gM):=⟨rfl,rfl,rfl,by decide +kernel,rfl,by decide +kernel,by decide +kernel⟩
theorem mq:(["_law_one", "_law_web", "_law_rows", "_law_name"]:List Str).Nodup:=by decide +kernel
theorem rX (D:Df K mg "_law_pairs" ["_law_web"] gM) (T:Txt K mg) (H_strikers:aT P w K mg base "strikers" ["web", "name"] 5 aU):aT P w K mg base "_law_pairs" ["_law_web"] 6 cN:=
 aT.eq (Df.has (k:=5) D eE (fun f cdv A outer s H E hr=>
  av (jy 1 eE.nd (jv 8 (d:=.list []) (Lit.of (by kernel_rfl)) (by decide +kernel)))
  (av (ju rfl (dW (dF (bN hr) (dv 0) (aE) (fun _ _=>rfl))) (dg 2 eE.nd) (aC (jy 1 eE.nd (bH i9 (dv 1) (et ["_law_one"] (by rfl) rfl (dW (bh H_strikers dG (hr.mono (by omega)) (by rfl) (ab (dv 0) (ab (dv 2) (ak))))) (fun _ _ _ _ _=>dg 0 mq) (fun _ _ _ _ _=>gC) (fun _ _ _ _ _=>nG (ab (dv 0) (ab (dv 3) (ak)))))))))
  (aC (bc (sJ (tF hr) T.n_sorted pV (ab (dv 1) (ak)))))))) (by kernel_rfl)
abbrev gN:Stmt:=top 27
theorem cE:aZ ["_law_box_here", "_law_one", "_law_two", "_law_three", "_law_both", "_law_web", "_law_name", "_law_dues"] ["_law_box_here"] (ay gN):=⟨rfl,rfl,rfl,by decide +kernel,rfl,by decide +kernel,by decide +kernel⟩
theorem mv:(["_law_its", "_law_box_here", "_law_one", "_law_two", "_law_three", "_law_both", "_law_web", "_law_name", "_law_dues"]:List Str).Nodup:=by decide +kernel
theorem mw:(["_law_web", "_law_box_here", "_law_one", "_law_two", "_law_three", "_law_both", "!_law_web", "_law_name", "_law_dues"]:List Str).Nodup:=by decide +kernel
theorem rY (D:Df K mg "_law_right" ["_law_box_here"] gN) (T:Txt K mg) (H_struck:aT P w K mg base "struck" ["web", "name"] 5 eL) (H_strikers:aT P w K mg base "strikers" ["web", "name"] 5 aU) (H__law_pairs:aT P w K mg base "_law_pairs" ["_law_web"] 6 cN) (H_is_web:aT P w K mg base "is_web" ["thing"] 3 eK) (H_together:aT P w K mg base "together" ["one", "other"] 5 bz) (H__law_wide:aT P w K mg base "_law_wide" ["_law_box_here", "_law_most_names"] 2 bq):aT P w K mg base "_law_right" ["_law_box_here"] 7 cO:=
 aT.eq (Df.has (k:=6) D cE (fun f cdv A outer s H E hr=>
  av (Gp 1 2 3 cE.nd (ab (bh H__law_wide aM (hr.mono (by omega)) (by rfl) (ab (dv 0) (ab (aE) (ak)))) (ab (bh H__law_wide aM (hr.mono (by omega)) (by rfl) (ab (dv 0) (ab (aE) (ak)))) (ab (bh H__law_wide aM (hr.mono (by omega)) (by rfl) (ab (dv 0) (ab (aE) (ak)))) (ak)))))
  (av (jy 4 cE.nd (bh H_together aM (hr.mono (by omega)) (by rfl) (ab (dv 1) (ab (dv 2) (ak)))))
  (av (eW (DW.dt (ly (bX (pG hr) (dv 4) (bh H_together aM (hr.mono (by omega)) (by rfl) (ab (dv 2) (ab (dv 1) (ak)))) (by rfl)) (jt (bX (pG hr) (bh H_together aM (hr.mono (by omega)) (by rfl) (ab (dv 4) (ab (dv 3) (ak)))) (bh H_together aM (hr.mono (by omega)) (by rfl) (ab (dv 1) (ab (bh H_together aM (hr.mono (by omega)) (by rfl) (ab (dv 2) (ab (dv 3) (ak)))) (ak)))) (by rfl))))) (aC (bc (cG))) (cj))
  (av (eW (DW.dt (ly (bX (pG hr) (bh H_together aM (hr.mono (by omega)) (by rfl) (ab (dv 1) (ab (dv 1) (ak)))) (dv 1) (by rfl)) (ly (bX (pG hr) (bh H_together aM (hr.mono (by omega)) (by rfl) (ab (dv 4) (ab (dv 1) (ak)))) (dv 4) (by rfl)) (jt (bX (pG hr) (bh H_together aM (hr.mono (by omega)) (by rfl) (ab (jv 8 (d:=.tuple [.tuple [],.tuple []]) (Lit.of (by kernel_rfl)) (by decide +kernel)) (ab (dv 1) (ak)))) (dv 1) (by rfl)))))) (aC (bc (cG))) (cj))
  (av (ju rfl (dW (zd (ab (dv 1) (ab (dv 2) (ab (dv 4) (ak)))))) (dg 5 cE.nd) (aC (eW (DW.dt (ly (bX BF (bh H_is_web dG (hr.mono (by omega)) (by rfl) (ab (dv 5) (ak))) (cG) (by rfl)) (jt (bX (pG hr) (bh H__law_pairs dG (hr.mono (by omega)) (by rfl) (ab (dv 5) (ak))) (mD (EM rfl) T.n_list Be (ab (dF (bN hr) (dv 5) (aE) (fun _ _=>rfl)) (ak))) (by rfl))))) (aC (bc (cG))) (cj))))
  (av (ju rfl (dW (dF (bN hr) (dv 4) (aE) (fun _ _=>rfl))) (dg 6 cE.nd) (av (zh (i:=7) ["_law_web"] ["_law_box_here", "_law_one", "_law_two", "_law_three", "_law_both", "!_law_web", "_law_name", "_law_dues"] cE.nd rfl rfl (by rfl) (by rfl) rfl (dW (zd (ab (dv 1) (ab (dv 2) (ak))))) (fun _ _ _ _ _=>dg 0 mw) (fun _ _ _ _ _=>gC) (fun _ _ _ _ _=>F8 (bX (EL hr) (dv 7) (dF (bN hr) (dv 0) (aE) (fun _ _=>rfl)) (by rfl)) (bh H_strikers dG (hr.mono (by omega)) (by rfl) (ab (dv 0) (ab (dv 7) (ak)))) (jv 8 (d:=.list []) (Lit.of (by kernel_rfl)) (by decide +kernel))))
  (av (eW (bX (pG hr) (bh H_strikers dG (hr.mono (by omega)) (by rfl) (ab (dv 4) (ab (dv 6) (ak)))) (vq rfl hr T.n_sorted T.n_set (bH i9 (dF (bN hr) (dv 7) (aE) (fun _ _=>rfl)) (dF (bN hr) (dv 7) (aE) (fun _ _=>rfl)))) (by rfl)) (aC (bc (cG))) (cj))
  (aC (eW (bX (pG hr) (et ["_law_its"] (by rfl) rfl (dW (bh H_struck dG (hr.mono (by omega)) (by rfl) (ab (dv 4) (ab (dv 6) (ak))))) (fun _ _ _ _ _=>dg 0 mv) (fun _ _ _ _ _=>mH (bX (CV hr) (dv 7) (bh H_strikers dG (hr.mono (by omega)) (by rfl) (ab (dv 5) (ab (dv 0) (ak)))) (by rfl))) (fun _ _ _ _ _=>dv 0)) (jv 8 (d:=.list []) (Lit.of (by kernel_rfl)) (by decide +kernel)) (by rfl)) (aC (bc (cG))) (cj))))))
  (aC (bc (cG)))))))))) (by kernel_rfl)
abbrev kf:Stmt:=top 28
theorem vA:aZ ["_law_script", "_law_k", "_law_lap"] ["_law_script"] (ay kf):=⟨rfl,rfl,rfl,by decide +kernel,rfl,by decide +kernel,by decide +kernel⟩
theorem ET {f:Addr} {fd:FuncData} (Fu:CJ K "law" "law" kf f fd) (T:Txt K mg) (H__law_right:aT P w K mg base "_law_right" ["_law_box_here"] 7 cO) (H__law_box:aT P w K mg base "_law_box" ["_law_script", "_law_k", "_law_lap"] 2 cK):iU P w K mg base (sH P w) 8 f fd ["_law_script"] (Bq ⟨P,w,mg,K⟩ tO):=
 EN (Je (k:=7) Fu vA (fun cdv A outer s H E hr=>
  av (ju rfl (mG (by rfl) T.n_range (ab (sJ (Ge rfl) T.n_max Ed (ab (aE) (ab (sJ (Gf rfl) T.n_min Ec (ab (sJ lF T.n_len g9 (ab (dv 0) (ak))) (ab (aE) (ak)))) (ak)))) (ak))) (dg 1 vA.nd) (aC (ju rfl (mG (by rfl) T.n_range (ab (aE) (ak))) (dg 2 vA.nd) (aC (eW (ia (fD (bh H__law_right dG (hr.mono (by omega)) (by rfl) (ab (bh H__law_box dG (hr.mono (by omega)) (by rfl) (ab (dv 0) (ab (dv 1) (ab (dv 2) (ak))))) (ak))))) (aC (bc (cG))) (cj))))))
  (aC (bc (cG))))) (by kernel_rfl)
end
end K04
namespace Ml
open PySem
@[simp] theorem Ig (i:Nat) (ρ:Fm) (h:Hm):ae i ρ h=(match ρ[i]? with
 | some (some d)=>.ok d h
 | _=>.bad):=rfl
@[simp] theorem Ih (d:PyData) (z0:Fm) (h:Hm):aj d z0 h=(.ok (.dat d) h):=rfl
@[simp] theorem Jh (n:Str) (z0:Fm) (h:Hm):JE n z0 h=(.ok (.fn n) h):=rfl
@[simp] theorem Ii  (z0:Fm) (h:Hm):ao  z0 h=(.ok [] h):=rfl
@[simp] theorem GP (e:ME) (a:MA) (ρ:Fm) (h:Hm):aa e a ρ h=((e ρ h).bind fun x h1=>(a ρ h1).bind fun xs h2=>.ok (x::xs) h2):=rfl
@[simp] theorem Ij (f:D->D->Hm->R D) (a b:ME) (ρ:Fm) (h:Hm):ax f a b ρ h=((a ρ h).bind fun x h1=>(b ρ h1).bind fun y h2=>f x y h2):=rfl
@[simp] theorem Ji (f:D->Hm->R D) (a:ME) (ρ:Fm) (h:Hm):CO f a ρ h=((a ρ h).bind fun x h1=>f x h1):=rfl
@[simp] theorem GQ (f:Fn) (a:MA) (ρ:Fm) (h:Hm):ag f a ρ h=((a ρ h).bind fun xs h1=>f xs h1):=rfl
@[simp] theorem GR (e:ME) (ρ:Fm) (h:Hm):aO e ρ h=((e ρ h).bind fun x h1=>match x with
 | .dat (.bool b)=>.ok b h1
 | _=>.bad):=rfl
@[simp] theorem Ik (t:MT) (ρ:Fm) (h:Hm):ji t ρ h=((t ρ h).bind fun b h1=>.ok (!b) h1):=rfl
@[simp] theorem Il (t u:MT) (ρ:Fm) (h:Hm):yj t u ρ h=((t ρ h).bind fun b h1=>if b then u ρ h1 else .ok false h1):=rfl
@[simp] theorem Jj (t u:MT) (ρ:Fm) (h:Hm):uG t u ρ h=((t ρ h).bind fun b h1=>if b then .ok true h1 else u ρ h1):=rfl
@[simp] theorem Im (a b:ME) (ρ:Fm) (h:Hm):HY a b ρ h=((aO a ρ h).bind fun c h1=>if c then b ρ h1 else .ok (.bool false) h1):=rfl
@[simp] theorem Jk (a b:ME) (ρ:Fm) (h:Hm):JF a b ρ h=((aO a ρ h).bind fun c h1=>if c then .ok (.bool true) h1 else b ρ h1):=rfl
@[simp] theorem Io (a:ME) (ρ:Fm) (h:Hm):HZ a ρ h=((aO a ρ h).bind fun c h1=>.ok (.bool !c) h1):=rfl
@[simp] theorem Jl (t:MT) (a b:ME) (ρ:Fm) (h:Hm):GN t a b ρ h=((t ρ h).bind fun c h1=>if c then a ρ h1 else b ρ h1):=rfl
@[simp] theorem Ip (a:MA):jo a=(ag jT a:ME):=rfl
@[simp] theorem Iq (a:MA):pF a=(ag gj a:ME):=rfl
@[simp] theorem Ir (a:MA):xN a=(ag p7 a:ME):=rfl
@[simp] theorem GS  (ρ:Fm) (h:Hm):cu  ρ h=(.ok (.nx ρ) h):=rfl
@[simp] theorem Iu (a b:MS) (ρ:Fm) (h:Hm):bQ a b ρ h=((a ρ h).bind fun f h1=>match f with
 | .nx ρ1=>b ρ1 h1
 | f=>.ok f h1):=rfl
@[simp] theorem Iv (i:Nat) (e:ME) (ρ:Fm) (h:Hm):df i e ρ h=((e ρ h).bind fun x h1=>.ok (.nx (ρ.set i (some x))) h1):=rfl
@[simp] theorem GU (e:ME) (ρ:Fm) (h:Hm):lj e ρ h=((e ρ h).bind fun _ h1=>.ok (.nx ρ) h1):=rfl
@[simp] theorem Iw (e:ME) (ρ:Fm) (h:Hm):b8 e ρ h=((e ρ h).bind fun x h1=>.ok (.rt x) h1):=rfl
@[simp] theorem Jm (t:MT) (a b:MS) (ρ:Fm) (h:Hm):lq t a b ρ h=((t ρ h).bind fun c h1=>if c then a ρ h1 else b ρ h1):=rfl
@[simp] theorem Gq  (ρ:Fm) (h:Hm):Ek  ρ h=(.ok (.bk ρ) h):=rfl
@[simp] theorem GV  (ρ:Fm) (h:Hm):F2  ρ h=(.ok (.ct ρ) h):=rfl
@[simp] theorem GW (i:Nat) (x:D) (ρ:Fm) (h:Hm):au i x ρ h=(.ok (ρ.set i (some x)) h):=rfl
@[simp] theorem Iy  (xs:List D) (ρ:Fm) (h:Hm):jj  xs ρ h=(match xs with
 | []=>.ok ρ h
 | _=>.bad):=rfl
@[simp] theorem GX (g:MG) (gs:we) (xs:List D) (ρ:Fm) (h:Hm):cq g gs xs ρ h=(match xs with
 | []=>.bad
 | x::xs=>(g x ρ h).bind fun ρ1 h1=>gs xs ρ1 h1):=rfl
@[simp] theorem Iz (gs:we) (x:D) (ρ:Fm) (h:Hm):jk gs x ρ h=(match x with
 | .dat (.tuple ds)=>gs (ds.map D.dat) ρ h
 | _=>.bad):=rfl
@[simp] theorem IA (g:MG) (e:ME) (ρ:Fm) (h:Hm):uY g e ρ h=((e ρ h).bind fun x h1=>(g x ρ h1).bind fun ρ1 h2=>.ok (.nx ρ1) h2):=rfl
@[simp] theorem IB (is:List Nat) (a:MA) (ρ:Fm) (h:Hm):yX is a ρ h=((a ρ h).bind fun xs h1=>match hG is xs ρ with
 | some ρ1=>.ok (.nx ρ1) h1
 | Option.none=>.bad):=rfl
@[simp] theorem GY (e:ME) (ρ:Fm) (h:Hm):wg e ρ h=((e ρ h).bind fun x h1=>match x with
 | .dat (.tuple ds)=>.ok (ds.map D.dat) h1
 | _=>.bad):=rfl
@[simp] theorem GZ (e:ME) (ρ:Fm) (h:Hm):yY e ρ h=((e ρ h).bind fun x h1=>match x with
 | .dat (.list ds)=>.ok (ds.map D.dat) h1
 | _=>.bad):=rfl
@[simp] theorem G0 (e:ME) (ρ:Fm) (h:Hm):yZ e ρ h=((e ρ h).bind fun x h1=>match x with
 | .dat (.str s)=>.ok (signs s) h1
 | _=>.bad):=rfl
@[simp] theorem G1 (e:ME) (ρ:Fm) (h:Hm):aS e ρ h=(match e ρ h with
 | .ok (.dat (.tuple ds)) h1=>.ok (ds.map D.dat) h1
 | .ok (.dat (.list ds)) h1=>.ok (ds.map D.dat) h1
 | .ok (.dat (.str s)) h1=>.ok (signs s) h1
 | .ok (.ktup ds) h1=>.ok (ds.map D.dat) h1
 | .exc x h1=>.exc x h1
 | _=>.bad):=rfl
@[simp] theorem G2 (a:MA) (ρ:Fm) (h:Hm):fz a ρ h=((a ρ h).bind fun xs h1=>match xs with
 | [.dat (.int j)]=>if -(2 ^ 62)<=j/\j < 2 ^ 62 then .ok (nums 0 j.toNat) h1 else .bad
 | _=>.bad):=rfl
@[simp] theorem Gr (a:MA) (ρ:Fm) (h:Hm):Em a ρ h=((a ρ h).bind fun xs h1=>match xs with
 | [.dat (.int i),.dat (.int j)]=>if -(2 ^ 62)<=i/\i < 2 ^ 62/\-(2 ^ 62)<=j/\j < 2 ^ 62 then .ok (nums i (j - i).toNat) h1 else .bad
 | _=>.bad):=rfl
@[simp] theorem G3 (a:MA) (ρ:Fm) (h:Hm):wj a ρ h=((a ρ h).bind fun xs h1=>match xs with
 | [.dat (.tuple ds),.dat (.tuple es)]=>.ok (iW ds es) h1
 | _=>.bad):=rfl
@[simp] theorem IC (it:MA) (g:MG) (b:MS) (ρ:Fm) (h:Hm):gB it g b ρ h=((it ρ h).yV.bind fun xs h1=>dw g b xs ρ h1):=rfl
@[simp] theorem G4  (z0:Fm) (h:Hm):dC  z0 h=(.ok true h):=rfl
@[simp] theorem G5 (p n:Nat) (b:MS) (xs:List D) (h:Hm):bW p n b xs h=(if xs.length=p then (b (xs.map some++List.replicate (n - p) none) h).bind nv else .bad):=rfl
@[simp] theorem G6 (x:D) (h:Hm):truth x h=(match x with
 | .dat .none=>some false
 | .dat (.bool b)=>some b
 | .dat (.int i)=>some (i != 0)
 | .dat (.str s)=>if jS s.length then some ((s.length:Int) != 0) else Option.none
 | .dat (.tuple ds)=>some !ds.isEmpty
 | .dat (.list ds)=>some !ds.isEmpty
 | .ref i=>match h[i]? with
  | some (.lst xs)=>some !xs.isEmpty
  | _=>Option.none
 | _=>Option.none:Option Bool):=rfl
@[simp] theorem Gs (e:ME) (ρ:Fm) (h:Hm):eS e ρ h=((e ρ h).bind fun x h1=>match truth x h1 with
 | some b=>.ok b h1
 | Option.none=>.bad):=rfl
@[simp] theorem ID (a b:ME) (ρ:Fm) (h:Hm):Ie a b ρ h=((a ρ h).bind fun x h1=>match truth x h1 with
 | some c=>if c then .ok x h1 else b ρ h1
 | none=>.bad):=rfl
@[simp] theorem G7 (a b:ME) (ρ:Fm) (h:Hm):qi a b ρ h=((a ρ h).bind fun x h1=>match truth x h1 with
 | some c=>if c then b ρ h1 else .ok x h1
 | none=>.bad):=rfl
@[simp] theorem Gu (f g:D->D->Hm->R D) (a b c:ME) (ρ:Fm) (h:Hm):jx f g a b c ρ h=((a ρ h).bind fun x h1=>(b ρ h1).bind fun y h2=>(f x y h2).bind fun z h3=>match z with
 | .dat (.bool k)=>if k then (c ρ h3).bind fun w h4=>g y w h4 else .ok (.bool false) h3
 | _=>.bad):=rfl
@[simp] theorem Jn (e:ME) (lo hi:CQ) (ρ:Fm) (h:Hm):GO e lo hi ρ h=((e ρ h).bind fun x h1=>(lo ρ h1).bind fun l h2=>(hi ρ h2).bind fun u h3=>F4 x l u h3):=rfl
@[simp] theorem G8  (z0:Fm) (h:Hm):wo  z0 h=(.ok Option.none h):=rfl
@[simp] theorem G9 (e:ME) (ρ:Fm) (h:Hm):wq e ρ h=((e ρ h).bind fun x h1=>match x with
 | .dat (.int i)=>.ok (some i) h1
 | _=>.bad):=rfl
@[simp] theorem Jo (x:D) (lo hi:Option Int) (h:Hm):F4 x lo hi h=(match x with
 | .dat (.tuple ds)=>.ok (.dat (.tuple (cut ds lo hi))) h
 | .dat (.list ds)=>.ok (.dat (.list (cut ds lo hi))) h
 | _=>.bad:R D):=rfl
@[simp] theorem IE (f:PyData->Bool) (x:D) (h:Hm):tj f x h=(match x with
 | .dat d=>.ok (.bool (f d)) h
 | _=>.bad):=rfl
@[simp] theorem IF (x y:D) (h:Hm):H0 x y h=(match x,y with
 | .dat (.int i),.dat (.int j)=>.ok (.int (i - j)) h
 | _,_=>.bad:R D):=rfl
@[simp] theorem Jp (x y:D) (h:Hm):F3 x y h=(match x,y with
 | .dat (.int i),.dat (.int j)=>.ok (.bool (decide (j < i))) h
 | _,_=>.bad:R D):=rfl
@[simp] theorem Jq (x y:D) (h:Hm):JG x y h=(match x,y with
 | .dat (.int i),.dat (.int j)=>.ok (.bool (decide (j<=i))) h
 | _,_=>.bad:R D):=rfl
@[simp] theorem IG (x:D) (h:Hm):H9 x h=(match x with
 | .dat (.int i)=>.ok (.int (-i)) h
 | _=>.bad:R D):=rfl
@[simp] theorem Ff (ρ:Fm):hG [] [] ρ=some ρ:=rfl
@[simp] theorem Fg (i:Nat) (is:List Nat) (x:D) (xs:List D) (ρ:Fm):hG (i::is) (x::xs) ρ=hG is xs (ρ.set i (some x)):=rfl
@[simp] theorem Fh (i:Nat) (is:List Nat) (ρ:Fm):hG (i::is) [] ρ=none:=rfl
@[simp] theorem Fi (x:D) (xs:List D) (ρ:Fm):hG [] (x::xs) ρ=none:=rfl
@[simp] theorem Ha (d:D) (h:Hm):nv (.rt d) h=.ok d h:=rfl
@[simp] theorem Hb (ρ:Fm) (h:Hm):nv (.nx ρ) h=.ok D.none h:=rfl
@[simp] theorem Hc (ρ:Fm) (h:Hm):nv (.bk ρ) h=.bad:=rfl
@[simp] theorem Hd (ρ:Fm) (h:Hm):nv (.ct ρ) h=.bad:=rfl
@[simp] theorem B0  : isTup .none=false:=rfl
@[simp] theorem B1 (b:Bool):isTup (.bool b)=false:=rfl
@[simp] theorem C0 (i:Int):isTup (.int i)=false:=rfl
@[simp] theorem C1 (s:Str):isTup (.str s)=false:=rfl
@[simp] theorem Aw (xs:List PyData):isTup (.tuple xs)=true:=rfl
@[simp] theorem B2 (xs:List PyData):isTup (.list xs)=false:=rfl
@[simp] theorem B3 (xs:List (PyData×PyData)):isTup (.dict xs)=false:=rfl
@[simp] theorem B4  : isStr .none=false:=rfl
@[simp] theorem B5 (b:Bool):isStr (.bool b)=false:=rfl
@[simp] theorem C2 (i:Int):isStr (.int i)=false:=rfl
@[simp] theorem C3 (s:Str):isStr (.str s)=true:=rfl
@[simp] theorem Ax (xs:List PyData):isStr (.tuple xs)=false:=rfl
@[simp] theorem B6 (xs:List PyData):isStr (.list xs)=false:=rfl
@[simp] theorem B7 (xs:List (PyData×PyData)):isStr (.dict xs)=false:=rfl
@[simp] theorem B8  : isInt .none=false:=rfl
@[simp] theorem B9 (b:Bool):isInt (.bool b)=true:=rfl
@[simp] theorem C4 (i:Int):isInt (.int i)=true:=rfl
@[simp] theorem C5 (s:Str):isInt (.str s)=false:=rfl
@[simp] theorem Ay (xs:List PyData):isInt (.tuple xs)=false:=rfl
@[simp] theorem Ca (xs:List PyData):isInt (.list xs)=false:=rfl
@[simp] theorem Cb (xs:List (PyData×PyData)):isInt (.dict xs)=false:=rfl
@[simp] theorem Cc  : nC .none=false:=rfl
@[simp] theorem Cd (b:Bool):nC (.bool b)=true:=rfl
@[simp] theorem C6 (i:Int):nC (.int i)=false:=rfl
@[simp] theorem C7 (s:Str):nC (.str s)=false:=rfl
@[simp] theorem Az (xs:List PyData):nC (.tuple xs)=false:=rfl
@[simp] theorem Ce (xs:List PyData):nC (.list xs)=false:=rfl
@[simp] theorem Cf (xs:List (PyData×PyData)):nC (.dict xs)=false:=rfl
@[simp] theorem rep0 {α:Type} (a:α):List.replicate 0 a=[]:=rfl
@[simp] theorem rep1 {α:Type} (a:α):List.replicate 1 a=[a]:=rfl
@[simp] theorem rep2 {α:Type} (a:α):List.replicate 2 a=[a,a]:=rfl
@[simp] theorem rep3 {α:Type} (a:α):List.replicate 3 a=[a,a,a]:=rfl
@[simp] theorem JJ {α:Type} (a:α):List.replicate 4 a=[a,a,a,a]:=rfl
@[simp] theorem JK {α:Type} (a:α):List.replicate 5 a=[a,a,a,a,a]:=rfl
@[simp] theorem JL {α:Type} (a:α):List.replicate 6 a=[a,a,a,a,a,a]:=rfl
@[simp] theorem JM {α:Type} (a:α):List.replicate 7 a=[a,a,a,a,a,a,a]:=rfl
@[simp] theorem JN {α:Type} (a:α):List.replicate 8 a=[a,a,a,a,a,a,a,a]:=rfl
@[simp] theorem JO {α:Type} (a:α):List.replicate 9 a=[a,a,a,a,a,a,a,a,a]:=rfl
theorem sz {n:Nat} (h:n<=16777216):jS n=true:=decide_eq_true h
@[simp] theorem iP (ds:List PyData) (h:Hm) (hz:ds.length<=16777216):jT (ds.map D.dat) h=.ok (.dat (.tuple ds)) h:=by simp [jT,kC,sz hz]
theorem cQ (ds:List PyData) (h:Hm) (hz:ds.length<=16777216):gj (ds.map D.dat) h=.ok (.dat (.list ds)) h:=by simp [gj,kC,sz hz]
@[simp] theorem IH (h:Hm):jT [] h=.ok (.dat (.tuple [])) h:=iP [] h (by decide)
@[simp] theorem II (a:PyData) (h:Hm):jT [.dat a] h=.ok (.dat (.tuple [a])) h:=iP [a] h (by simp)
@[simp] theorem IJ (a b:PyData) (h:Hm):jT [.dat a,.dat b] h=.ok (.dat (.tuple [a,b])) h:=iP [a,b] h (by simp)
@[simp] theorem IK (a b c:PyData) (h:Hm):jT [.dat a,.dat b,.dat c] h=.ok (.dat (.tuple [a,b,c])) h:=iP [a,b,c] h (by simp)
@[simp] theorem IL (h:Hm):gj [] h=.ok (.dat (.list [])) h:=cQ [] h (by decide)
@[simp] theorem IM (a:PyData) (h:Hm):gj [.dat a] h=.ok (.dat (.list [a])) h:=cQ [a] h (by simp)
@[simp] theorem IP (a b:PyData) (h:Hm):gj [.dat a,.dat b] h=.ok (.dat (.list [a,b])) h:=cQ [a,b] h (by simp)
@[simp] theorem IQ (a b c:PyData) (h:Hm):gj [.dat a,.dat b,.dat c] h=.ok (.dat (.list [a,b,c])) h:=cQ [a,b,c] h (by simp)
theorem lY {n:Nat} {ρ:Fm} {g:MG} {t:MT} {e:ME} {h:Hm} (c:D->Bool) (f:D->D):∀ {xs:List D},(∀ x∈xs,∃ ρ1,g x (List.replicate n none++ρ) h=.ok ρ1 h/\t ρ1 h=.ok (c x) h/\(c x=true->e ρ1 h=.ok (f x) h))->cR n ρ g t e xs h=.ok ((xs.filter c).map f) h
 | [],_=>rfl
 | x::xs,H=>by
  obtain ⟨ρ1,h1,h2,h3⟩:=H x (List.mem_cons_self ..)
  have ih:=lY c f (xs:=xs) fun y hy=>H y (List.mem_cons_of_mem _ hy)
  unfold cR
  rw [h1]
  simp only [R.b0,R.aD]
  rw [h2]
  simp only [R.b0,R.aD]
  cases hc:c x with
  | false=>simp only [Bool.false_eq_true,if_false,List.filter_cons,hc];exact ih
  | true=>
   simp only [if_true,List.filter_cons,hc]
   rw [h3 hc]
   simp only [R.b0,R.aD]
   rw [ih]
   rfl
theorem oQ {n:Nat} {it:MA} {g:MG} {t:MT} {e:ME} {ρ:Fm} {h h1:Hm} {xs:List D} (hit:it ρ h=.ok xs h1) (hz:xs.length<=16777216) (c:D->Bool) (f:D->PyData)
  (H:∀ x∈xs,∃ ρ1,g x (List.replicate n none++ρ) h1=.ok ρ1 h1/\t ρ1 h1=.ok (c x) h1/\(c x=true->e ρ1 h1=.ok (.dat (f x)) h1)):b9 n it g t e ρ h=.ok (.dat (.list ((xs.filter c).map f))) h1:=by
 unfold b9 ag jU
 rw [hit]
 simp only [R.aD,sz hz,if_true]
 rw [lY c (fun x=>.dat (f x)) H]
 simp only [R.aD]
 have e1:(List.map (fun x=>D.dat (f x)) (List.filter c xs))=((xs.filter c).map f).map D.dat:=by simp
 rw [e1]
 exact cQ _ _ (by
  rw [List.length_map]
  exact Nat.le_trans (List.length_filter_le _ _) hz)
theorem fj {n:Nat} {it:MA} {g:MG} {e:ME} {ρ:Fm} {h h1:Hm} {ds:List PyData} (hit:it ρ h=.ok (ds.map D.dat) h1) (hz:ds.length<=16777216) (f:PyData->PyData)
  (H:∀ x∈ds,∃ ρ1,g (.dat x) (List.replicate n none++ρ) h1=.ok ρ1 h1/\e ρ1 h1=.ok (.dat (f x)) h1):b9 n it g dC e ρ h=.ok (.dat (.list (ds.map f))) h1:=by
 have:=oQ (n:=n) (t:=dC) (g:=g) (e:=e) hit (by simpa using hz) (fun _=>true) (fun x=>match x with | .dat d=>f d | _=>.none) (fun x hx=>by
  obtain ⟨d,hd,rfl⟩:=List.mem_map.mp hx
  obtain ⟨ρ1,a,b⟩:=H d hd
  exact ⟨ρ1,a,rfl,fun _=>b⟩)
 rw [this,show (fun _:D=>true)=fun _=>true from rfl,List.filter_eq_self.mpr (fun _ _=>rfl),List.map_map]
 rfl
theorem kY {n:Nat} {it:MA} {g:MG} {t:MT} {e:ME} {ρ:Fm} {h h1:Hm} {ds:List PyData} (hit:it ρ h=.ok (ds.map D.dat) h1) (hz:ds.length<=16777216) (c:PyData->Bool) (f:PyData->PyData)
  (H:∀ x∈ds,∃ ρ1,g (.dat x) (List.replicate n none++ρ) h1=.ok ρ1 h1/\t ρ1 h1=.ok (c x) h1/\(c x=true->e ρ1 h1=.ok (.dat (f x)) h1)):b9 n it g t e ρ h=.ok (.dat (.list ((ds.filter c).map f))) h1:=by
 have:=oQ (n:=n) (t:=t) (g:=g) (e:=e) hit (by simpa using hz) (fun x=>match x with | .dat d=>c d | _=>false) (fun x=>match x with | .dat d=>f d | _=>.none) (fun x hx=>by
  obtain ⟨d,hd,rfl⟩:=List.mem_map.mp hx
  obtain ⟨ρ1,a,b,k⟩:=H d hd
  exact ⟨ρ1,a,b,k⟩)
 rw [this]
 simp [List.filter_map,Function.comp_def]
theorem vB (bs:List Bool) (h:Hm):qY [.dat (.list (bs.map .bool))] h=.ok (.bool (bs.all id)) h:=by simp [qY,xP]
theorem iQ {g:MG} {b:MS} (I:Nat->Fm->Hm->Prop):∀ (xs:List D) (i:Nat) (ρ:Fm) (h:Hm),(∀ (j:Nat) (x:D),xs[j]?=some x->∀ ρ h,I (i+j) ρ h->∃ ρ1 h1 ρ2 h2,g x ρ h=.ok ρ1 h1/\(b ρ1 h1=.ok (.nx ρ2) h2\/b ρ1 h1=.ok (.ct ρ2) h2)/\I (i+j+1) ρ2 h2)->I i ρ h ->
  ∃ ρ' h',dw g b xs ρ h=.ok (.nx ρ') h'/\I (i+xs.length) ρ' h'
 | [],i,ρ,h,_,a=>⟨ρ,h,rfl,by simpa using a⟩
 | x::xs,i,ρ,h,H,a=>by
  obtain ⟨ρ1,h1,ρ2,h2,e1,e2,a2⟩:=H 0 x rfl ρ h (by simpa using a)
  obtain ⟨ρ',h',e3,a3⟩:=iQ I xs (i+1) ρ2 h2 (fun j y e ρ h a=>by
   have:=H (j+1) y (by simpa using e) ρ h (by rw [show i+(j+1)=i+1+j by omega];exact a)
   rwa [show i+(j+1)+1=i+1+j+1 by omega] at this) (by simpa using a2)
  refine ⟨ρ',h',?_,by rw [List.length_cons,show i+(xs.length+1)=i+1+xs.length by omega];exact a3⟩
  unfold dw
  rw [e1]
  simp only [R.b0,R.aD]
  rcases e2 with e2 | e2<;>rw [e2]<;>exact e3
theorem jD {n:Nat} {ρ:Fm} {g:MG} {t:MT} {e:ME} (I:Hm->Prop) (f:D->D->Prop):∀ {xs:List D} {h:Hm},(∀ x∈xs,∀ h,I h->∃ ρ1 h1 c h2,g x (List.replicate n none++ρ) h=.ok ρ1 h1/\t ρ1 h1=.ok c h2/\((c=false/\I h2)\/(c=true/\∃ y h3,e ρ1 h2=.ok y h3/\f x y/\I h3)))->I h ->
  ∃ ys zs h',cR n ρ g t e xs h=.ok ys h'/\I h'/\zs.Sublist xs/\PySem.Paired f zs ys
 | [],h,_,a=>⟨[],[],h,rfl,a,.slnil,.nil⟩
 | x::xs,h,H,a=>by
  obtain ⟨ρ1,h1,c,h2,e1,e2,k⟩:=H x (List.mem_cons_self ..) h a
  unfold cR
  rw [e1]
  simp only [R.b0,R.aD]
  rw [e2]
  simp only [R.b0,R.aD]
  rcases k with ⟨rfl,a2⟩ | ⟨rfl,y,h3,e3,fy,a3⟩
  ·obtain ⟨ys,zs,h',q1,q2,q3,q4⟩:=jD I f (xs:=xs) (fun y hy=>H y (List.mem_cons_of_mem _ hy)) a2
   exact ⟨ys,zs,h',by simpa using q1,q2,.cons _ q3,q4⟩
  ·obtain ⟨ys,zs,h',q1,q2,q3,q4⟩:=jD I f (xs:=xs) (fun y hy=>H y (List.mem_cons_of_mem _ hy)) a3
   refine ⟨y::ys,x::zs,h',?_,q2,.cons_cons _ q3,.cons fy q4⟩
   simp only [if_true]
   rw [e3]
   simp only [R.b0,R.aD]
   rw [q1]
   rfl
end Ml
namespace Ml
open PySem
mutual
def mz:PyData->Bool
 | .none | .bool _=>true
 | .int i=>decide (i.natAbs < 10 ^ 30)
 | .str x=>PyData.strOk x
 | .tuple ds=>eX ds
 | .list ds=>eX ds
 | .dict _=>false
def eX:List PyData->Bool
 | []=>true
 | d::ds=>mz d && eX ds
end
mutual
theorem ur:∀ {d:PyData},mz d=true->d.canLay0=true
 | .none,_=>by simp [PyData.canLay0]
 | .bool _,_=>by simp [PyData.canLay0]
 | .int _,h=>by simp [PyData.canLay0]
 | .str x,h=>by simpa [PyData.canLay0,mz] using h
 | .tuple ds,h=>by simp only [mz] at h;simp only [PyData.canLay0];exact kZ h
 | .list ds,h=>by simp only [mz] at h;simp only [PyData.canLay0];exact kZ h
 | .dict _,h=>by simp [mz] at h
theorem kZ:∀ {ds:List PyData},eX ds=true->PyData.canLayAll0 ds=true
 | [],_=>by simp [PyData.canLayAll0]
 | d::ds,h=>by
  simp only [eX,Bool.and_eq_true] at h
  simp only [PyData.canLayAll0,Bool.and_eq_true]
  exact ⟨ur h.1,kZ h.2⟩
end
theorem kg:∀ (a b:List PyData),eX (a++b)=(eX a && eX b)
 | [],b=>by simp [eX]
 | d::a,b=>by simp [eX,kg a b,Bool.and_assoc]
theorem lZ:∀ (a b:List PyData),PyData.weightAll (a++b)=PyData.weightAll a+PyData.weightAll b
 | [],b=>by simp [PyData.weightAll]
 | d::a,b=>by simp [PyData.weightAll,lZ a b];omega
theorem me:∀ (a b:List PyData),PyData.depthAll (a++b)=max (PyData.depthAll a) (PyData.depthAll b)
 | [],b=>by simp [PyData.depthAll]
 | d::a,b=>by simp only [List.cons_append,PyData.depthAll,me a b];omega
theorem uv:∀ (a:List PyData),a.length<=PyData.weightAll a
 | []=>by simp
 | d::a=>by
  have:=uv a
  rw [PyData.weightAll,List.length_cons]
  omega
theorem qB:∀ {ds:List PyData} {d:PyData},eX ds=true->d∈ds->mz d=true
 | e::ds,d,h,m=>by
  simp only [eX,Bool.and_eq_true] at h
  rcases List.mem_cons.mp m with rfl | m
  ·exact h.1
  ·exact qB h.2 m
theorem uw:∀ {ds:List PyData},(∀ d∈ds,mz d=true)->eX ds=true
 | [],_=>rfl
 | d::ds,h=>by simp only [eX,Bool.and_eq_true];exact ⟨h d (List.mem_cons_self ..),uw fun e m=>h e (List.mem_cons_of_mem _ m)⟩
theorem qC:∀ {ds:List PyData} {d:PyData},d∈ds->d.depth<=PyData.depthAll ds
 | e::ds,d,m=>by
  simp only [PyData.depthAll]
  rcases List.mem_cons.mp m with rfl | m
  ·omega
  ·have:=qC m;omega
theorem cv:∀ {ds:List PyData} {m:Nat},(∀ d∈ds,d.depth<=m)->PyData.depthAll ds<=m
 | [],m,_=>by simp [PyData.depthAll]
 | d::ds,m,h=>by
  simp only [PyData.depthAll]
  have h1:=h d (List.mem_cons_self ..)
  have h2:=cv (ds:=ds) (m:=m) fun e q=>h e (List.mem_cons_of_mem _ q)
  omega
theorem oR:∀ {ds:List PyData} {d:PyData},d∈ds->d.weight+1<=PyData.weightAll ds
 | e::ds,d,m=>by
  simp only [PyData.weightAll]
  rcases List.mem_cons.mp m with rfl | m
  ·omega
  ·have:=oR m;omega
theorem kh:∀ {ds:List PyData} {n:Nat},(∀ d∈ds,d.weight<=n)->PyData.weightAll ds<=ds.length * (n+1)
 | [],n,_=>by simp [PyData.weightAll]
 | d::ds,n,h=>by
  simp only [PyData.weightAll,List.length_cons,Nat.succ_mul]
  have h1:=h d (List.mem_cons_self ..)
  have h2:=kh (ds:=ds) (n:=n) fun e q=>h e (List.mem_cons_of_mem _ q)
  omega
structure Ok (n m:Nat) (x:PyData):Prop where
 f:mz x=true
 d:x.depth<=m
 w:x.weight<=n
structure kq (n m:Nat) (ds:List PyData):Prop where
 f:eX ds=true
 d:PyData.depthAll ds<=m
 w:PyData.weightAll ds<=n
section
variable {n m n' m':Nat} {d x:PyData} {ds a b:List PyData}
theorem kq.tup (o:kq n m ds):Ok n (m+1) (.tuple ds):=⟨by simpa only [mz] using o.f,by simp only [PyData.depth];have:=o.d;omega,by simp only [PyData.weight];exact o.w⟩
theorem Ok.items (o:Ok n m (.tuple ds)):kq n (m - 1) ds:=⟨by simpa only [mz] using o.f,by have:=o.d;simp only [PyData.depth] at this;omega,by have:=o.w;simpa only [PyData.weight] using this⟩
theorem kq.append {n1 n2:Nat} (x:kq n1 m a) (y:kq n2 m b):kq (n1+n2) m (a++b):=
 ⟨by rw [kg,x.f,y.f];rfl,by rw [me];exact Nat.max_le.mpr ⟨x.d,y.d⟩,by rw [lZ];exact Nat.add_le_add x.w y.w⟩
theorem kq.one (x:Ok n m d):kq (n+1) m [d]:=⟨by simp [eX,x.f],by simp [PyData.depthAll];exact x.d,by simp [PyData.weightAll];exact x.w⟩
theorem kq.cons (x:Ok n m d) (y:kq n' m ds):kq (n+1+n') m (d::ds):=(kq.one x).append y
theorem kq.mono (x:kq n m a) (h1:n<=n') (h2:m<=m'):kq n' m' a:=⟨x.f,Nat.le_trans x.d h2,Nat.le_trans x.w h1⟩
theorem kq.mem (o:kq n m ds) (h:d∈ds):Ok n m d:=⟨qB o.f h,Nat.le_trans (qC h) o.d,by have:=oR h;have:=o.w;omega⟩
theorem kq.len (o:kq n m ds):ds.length<=n:=Nat.le_trans (uv ds) o.w
theorem kq.of (h:∀ d∈ds,Ok n m d):kq (ds.length * (n+1)) m ds:=⟨uw fun d q=>(h d q).f,cv fun d q=>(h d q).d,kh fun d q=>(h d q).w⟩
theorem Ok.Jr (o:Ok n m d):noDict d=true:=by
 have:=PyData.hasDict_of_canLay d (ur o.f)
 simp [noDict,this]
theorem Ok.str {s:Str} (o:Ok n m (.str s)):s.length<=n:=o.w
end
theorem Ad (ds:List PyData) (z:Nat):cut ds (some (z:Int)) none=ds.drop z:=by
 simp only [cut,cU]
 rw [if_neg (by omega),Int.toNat_natCast]
 by_cases h:z<=ds.length
 ·rw [Nat.min_eq_left h,List.take_of_length_le (by rw [List.length_drop];exact Nat.le_refl _)]
 ·rw [Nat.min_eq_right (by omega),List.drop_of_length_le (Nat.le_refl _),List.drop_of_length_le (by omega)]
  simp
theorem Ae (ds:List PyData):cut ds (some 1) none=ds.drop 1:=Ad ds 1
end Ml
namespace Ml
open PySem
end Ml
namespace Ml
open PySem
end Ml
namespace Ml
open PySem
end Ml
namespace Ml
open PySem
def az (c:Nat):Bool:=decide (97<=c) && decide (c<=122)
def isName:PyData->Bool
 | .str x=>decide (1<=x.length) && decide (x.length<=6) && x.cps.toList.all az
 | _=>false
theorem Js (a c:Nat):decide ([a] < [c])=decide (a < c):=by
 rw [decide_eq_decide]
 constructor
 ·intro h
  cases h with
  | rel h=>exact h
  | cons h=>cases h
 ·intro h
  exact .rel h
theorem IS:("a" : Str).cps.toList=[97]:=by decide +kernel
theorem IT:("z" : Str).cps.toList=[122]:=by decide +kernel
theorem JP (c:Nat):(!jn (⟨#[c]⟩:Str) ("a" : Str))=decide (97<=c):=by
 unfold jn
 rw [IS,show (⟨#[c]⟩:Str).cps.toList=[c] from rfl,Js]
 by_cases h:c < 97
 ·rw [decide_eq_true h,decide_eq_false (by omega)];rfl
 ·rw [decide_eq_false h,decide_eq_true (by omega)];rfl
theorem ltZ (c:Nat):(!jn ("z" : Str) (⟨#[c]⟩:Str))=decide (c<=122):=by
 unfold jn
 rw [IT,show (⟨#[c]⟩:Str).cps.toList=[c] from rfl,Js]
 by_cases h:122 < c
 ·rw [decide_eq_true h,decide_eq_false (by omega)];rfl
 ·rw [decide_eq_false h,decide_eq_true (by omega)];rfl
theorem vC (x:Str):signs x=(fA x).map D.dat:=by simp [signs,fA]
theorem vD (x:Str):(fA x).length=x.length:=by simp [fA];rfl
theorem vE (x:Str) (p:Nat->Bool) (q:PyData->Bool) (h:∀ c,q (.str ⟨#[c]⟩)=p c):(fA x).all q=x.cps.toList.all p:=by
 rw [Bool.eq_iff_iff,List.all_eq_true,List.all_eq_true]
 constructor
 ·intro H c hc
  obtain ⟨i,hi,e⟩:=List.mem_iff_getElem.mp hc
  have:=H (.str ⟨#[c]⟩) (by
   simp only [fA,List.mem_map,List.mem_range]
   refine ⟨i,by simpa using hi,?_⟩
   have hi':i < x.cps.size:=by simpa using hi
   simp [Array.getD,hi']
   simpa using e)
  rw [h] at this
  exact this
 ·intro H d hd
  simp only [fA,List.mem_map,List.mem_range] at hd
  obtain ⟨i,hi,rfl⟩:=hd
  rw [h]
  apply H
  have:x.cps.getD i 0=x.cps[i]:=by simp [Array.getD,hi]
  rw [this]
  simp
theorem rZ (i j:Int) (h:Hm):oLe (.int i) (.int j) h=.ok (.bool (decide (i<=j))) h:=rfl
theorem wZ (x y:Str) (h:Hm):oLe (.str x) (.str y) h=.ok (.bool (!jn y x)) h:=rfl
theorem oS {x:Str} (h:Hm) (hz:x.length<=16777216):fX [.str x] h=.ok (.int x.length) h:=by simp [fX,sz hz]
@[simp] theorem Gv (ds:List PyData) (h:Hm):fX [.dat (.tuple ds)] h=.ok (.int ds.length) h:=rfl
@[simp] theorem Gw (ds:List PyData) (h:Hm):fX [.dat (.list ds)] h=.ok (.int ds.length) h:=rfl
def cX {α:Type} (ds:List α) (f:α->Bool):Bool:=ds.all f
def IU {α:Type} (ds:List α) (f:α->Bool):Bool:=ds.any f
theorem bZ {α:Type} {ds:List α} {f:α->Bool}:cX ds f=true<->∀ x∈ds,f x=true:=List.all_eq_true
theorem fk {α:Type} {a:α} {ds:List α} {f:α->Bool}:cX (a::ds) f=true<->f a=true/\cX ds f=true:=by simp [cX]
@[simp] theorem Gy {α:Type} (f:α->Bool):cX [] f=true:=rfl
@[simp] theorem Gz {α:Type} (f:α->Bool):IU [] f=false:=rfl
theorem iz {α:Type} (ds:List α) (f:α->Bool) (h:Hm):qY [.dat (.list (ds.map fun x=>.bool (f x)))] h=.ok (.bool (cX ds f)) h:=by
 unfold cX
 have e1:ds.map (fun x=>PyData.bool (f x))=(ds.map f).map .bool:=by simp
 rw [e1,vB]
 simp [List.all_map,Function.comp_def]
theorem vF {n m:Nat} {d:PyData} (o:Ok n m d) (hn:n<=10000) (h:Hm):fg [.dat d] h=.ok (.bool (isName d)) h:=by
 unfold fg qj
 cases d with
 | str x=>
  have hx:x.length<=16777216:=Nat.le_trans o.str (by omega)
  have key:b9 1 (aS (ae 0)) (au 0) dC (jx oLe oLe (aj (.str "a")) (ae 0) (aj (.str "z"))) [some (.str x)] h=.ok (.dat (.list ((fA x).map fun d=>.bool (match d with | .str y=>!jn y "a" && !jn "z" y | _=>false)))) h:=by
   refine fj (by simp [vC]) (by rw [vD];exact hx) _ fun y hy=>?_
   simp only [fA,List.mem_map,List.mem_range] at hy
   obtain ⟨i,hi,rfl⟩:=hy
   generalize (⟨#[x.cps.getD i 0]⟩:Str)=y
   refine ⟨_,rfl,?_⟩
   by_cases z:jn y "a" = true
   ·simp [wZ,z]
   ·simp [wZ,z]
  by_cases h1:1<=(x.length:Int)
  ·by_cases h2:(x.length:Int)<=6
   ·simp [oS h hx,rZ,h1,h2,key,iz]
    unfold cX
    rw [vE x az _ (fun c=>by simp only [az,JP,ltZ])]
    simp [isName,show 1<=x.length by omega,show x.length<=6 by omega]
   ·simp [oS h hx,rZ,h1,h2,isName,show ¬ x.length<=6 by omega]
  ·simp [oS h hx,rZ,h1,isName,show ¬ 1<=x.length by omega]
 | _=>simp [isName]
def oU (ds:List PyData):Bool:=cX (ds.zip ds.tail) fun p=>ltB p.1 p.2
structure Fj (ds:List PyData):Prop where
 nd:∀ d∈ds,noDict d=true/\d.depth<=40
 lt:∀ d∈ds,∀ e∈ds,bf d e=some (ltB d e)
theorem EU {d e:PyData} (h1:noDict d=true) (h2:noDict e=true) (h3:d.depth<=40) (h4:bf d e=some (ltB d e)) (h:Hm):oLt (.dat d) (.dat e) h=.ok (.bool (ltB d e)) h:=by
 simp [oLt,h1,h2,h4,show min d.depth e.depth<=40 by omega]
theorem r6 (i j:Int) (h:Hm):oLt (.int i) (.int j) h=.ok (.bool (decide (i < j))) h:=by
 simp [oLt,noDict,PyData.hasDict,PyData.depth,bf]
theorem Af {ds:List PyData} (h:∀ d∈ds,∃ x,d=.str x):Fj ds:=⟨fun d m=>by obtain ⟨x,rfl⟩:=h d m;exact ⟨by simp [noDict,PyData.hasDict],by simp [PyData.depth]⟩,fun d m e m'=>by
 obtain ⟨x,rfl⟩:=h d m
 obtain ⟨y,rfl⟩:=h e m'
 simp [ltB,bf]⟩
theorem w6:∀ (xs ys:List PyData),iW xs ys=((xs.zip ys).map fun p=>PyData.tuple [p.1,p.2]).map D.dat
 | [],_=>by simp [iW]
 | _::_,[]=>by simp [iW]
 | x::xs,y::ys=>by simp [iW,w6 xs ys]
theorem Cg {xs:List PyData} {p:PyData×PyData} (h:p∈xs.zip xs.tail):p.1∈xs/\p.2∈xs:=by
 obtain ⟨a,b⟩:=p
 have:=List.of_mem_zip h
 exact ⟨this.1,List.mem_of_mem_tail this.2⟩
theorem ki {ds:List PyData} (c:Fj ds) (hz:ds.length<=16777216) (h:Hm):cJ [.dat (.tuple ds)] h=.ok (.bool (oU ds)) h:=by
 unfold cJ lJ
 have key:b9 2 (wj (aa (ae 0) (aa (GO (ae 0) (wq (aj (.int 1))) (wo)) (ao)))) (jk (cq (au 0) (cq (au 1) (jj)))) (dC) (ax oLt (ae 0) (ae 1)) [some (.dat (.tuple ds))] h=.ok (.dat (.list ((ds.zip ds.tail).map fun p=>.bool (ltB p.1 p.2)))) h:=by
  rw [fj (h1:=h) (ds:=(ds.zip ds.tail).map fun p=>PyData.tuple [p.1,p.2]) (by simp [Ae,w6]) (by simp;omega) (fun d=>.bool (match d with | .tuple [a,b]=>ltB a b | _=>false)) fun y hy=>?_]
  ·rw [List.map_map];rfl
  ·obtain ⟨p,hp,rfl⟩:=List.mem_map.mp hy
   obtain ⟨m1,m2⟩:=Cg hp
   refine ⟨_,rfl,?_⟩
   simp [EU (c.nd _ m1).1 (c.nd _ m2).1 (c.nd _ m1).2 (c.lt _ m1 _ m2)]
 simp [key,iz,oU]
end Ml
namespace Ml
open PySem
end Ml
namespace Ml
open PySem
mutual
def cm:PyData->PyData->Bool
 | .str _,.str _=>true
 | .int _,.int _=>true
 | .tuple xs,.tuple ys=>C8 xs ys
 | _,_=>false
def C8:List PyData->List PyData->Bool
 | x::xs,y::ys=>cm x y && C8 xs ys
 | _,_=>true
end
mutual
theorem vG:∀ {d e:PyData},cm d e=true->(bf d e).isSome=true
 | .str _,e,h=>by cases e<;>simp_all [cm,bf]
 | .int _,e,h=>by cases e<;>simp_all [cm,bf]
 | .tuple xs,e,h=>by
  cases e with
  | tuple ys=>simp only [cm] at h;simp only [bf];exact w9 h
  | _=>simp [cm] at h
 | .none,_,h=>by simp [cm] at h
 | .bool _,_,h=>by simp [cm] at h
 | .list _,_,h=>by simp [cm] at h
 | .dict _,_,h=>by simp [cm] at h
theorem w9:∀ {xs ys:List PyData},C8 xs ys=true->(bV xs ys).isSome=true
 | [],[],_=>by simp [bV]
 | [],_::_,_=>by simp [bV]
 | _::_,[],_=>by simp [bV]
 | x::xs,y::ys,h=>by
  simp only [C8,Bool.and_eq_true] at h
  unfold bV
  split
  ·exact w9 h.2
  ·exact vG h.1
end
theorem Ci {d e:PyData} (h:cm d e=true):bf d e=some (ltB d e):=by
 have:=vG h
 unfold ltB
 cases q:bf d e with
 | none=>rw [q] at this;cases this
 | some b=>rfl
def eQ:PyData->Bool
 | .str _=>true
 | _=>false
theorem cn {d:PyData} (h:eQ d=true):∃ x,d=.str x:=by cases d<;>simp_all [eQ]
theorem oV:∀ {xs ys:List PyData},cX xs eQ=true->cX ys eQ=true->C8 xs ys=true
 | [],_,_,_=>by simp [C8]
 | _::_,[],_,_=>by simp [C8]
 | x::xs,y::ys,h,k=>by
  have h:=fk.mp h
  have k:=fk.mp k
  obtain ⟨a,rfl⟩:=cn h.1
  obtain ⟨b,rfl⟩:=cn k.1
  simp [C8,cm,oV h.2 k.2]
theorem Fj.of {n m:Nat} {ds:List PyData} (o:kq n m ds) (hm:m<=40) (h:∀ d∈ds,∀ e∈ds,cm d e=true):Fj ds:=⟨fun d q=>⟨(o.mem q).Jr,by have:=(o.mem q).d;omega⟩,fun d q e r=>Ci (h d q e r)⟩
def Cj (ns:List PyData) (d:PyData):Bool:=ns.any fun y=>PyData.eqv y d
theorem r9 {n m:Nat} {d:PyData} (o:Ok n m d):∀ {ns:List PyData},cX ns eQ=true->Bj d ns=some (Cj ns d)
 | [],_=>rfl
 | y::ns,h=>by
  have h:=fk.mp h
  obtain ⟨x,rfl⟩:=cn h.1
  have ih:=r9 o h.2
  have e:Av (.str x) d=some (PyData.eqv (.str x) d):=by
   have hd:noDict d=true:=o.Jr
   unfold Av
   split
   ·simp [noDict,PyData.hasDict] at hd
   ·simp [noDict,PyData.hasDict] at hd
   ·simp [eqQ,noDict,PyData.hasDict,PyData.depth]
    simpa [noDict] using hd
  simp [Bj,e,ih,Cj]
theorem si {n m:Nat} {d:PyData} {ns:List PyData} (o:Ok n m d) (h:cX ns eQ=true) (hm:Hm):CP (.dat d) (.dat (.tuple ns)) hm=.ok (.bool (Cj ns d)) hm:=by
 simp [CP,findIn,hX,iF,sI,r9 o h]
theorem Ck {n m:Nat} {d:PyData} {ns:List PyData} (o:Ok n m d) (h:cX ns eQ=true) (hm:Hm):nB (.dat d) (.dat (.tuple ns)) hm=.ok (.bool (!Cj ns d)) hm:=by
 simp [nB,findIn,hX,iF,sI,r9 o h]
theorem iR {ns:List PyData} (h:cX ns eQ=true) {d:PyData}:Cj ns d=true<->d∈ns:=by
 simp only [Cj,List.any_eq_true]
 constructor
 ·rintro ⟨y,hy,e⟩
  obtain ⟨x,rfl⟩:=cn (bZ.mp h y hy)
  cases d<;>simp [PyData.eqv] at e
  subst e
  exact hy
 ·intro q
  obtain ⟨x,rfl⟩:=cn (bZ.mp h d q)
  exact ⟨_,q,by simp [PyData.eqv]⟩
theorem vH {d:PyData} (h:isName d=true):eQ d=true:=by cases d<;>simp_all [isName,eQ]
theorem vI {ds:List PyData} (h:cX ds isName=true):cX ds eQ=true:=bZ.mpr fun d m=>vH (bZ.mp h d m)
theorem Ag {ds:List PyData} (h:cX ds eQ=true):∀ d∈ds,∃ x,d=.str x:=fun d m=>cn (bZ.mp h d m)
def fH:PyData->Bool
 | .tuple ds=>decide (ds.length<=12) && cX ds isName && oU ds
 | _=>false
theorem sj {n m:Nat} {d:PyData} (o:Ok n m d) (hn:n<=10000) (h:Hm):eJ [.dat d] h=.ok (.bool (fH d)) h:=by
 unfold eJ lK
 cases d with
 | tuple ds=>
  have hl:=o.items.len
  have key:=fj (n:=1) (it:=aS (ae 0)) (g:=au 0) (e:=ag fg (aa (ae 0) (ao))) (ρ:=[some (.dat (.tuple ds))]) (h:=h) (h1:=h) (ds:=ds) (by simp) (by omega) (fun x=>.bool (isName x)) (fun x hx=>⟨_,rfl,by simp [vF (o.items.mem hx) hn]⟩)
  by_cases h1:ds.length<=12
  ·by_cases h2:cX ds isName=true
   ·have:=ki (Af (Ag (vI h2))) (by omega) h
    simp [key,iz,h1,show ¬ (12:Int) < ds.length by omega,h2,this,fH]
   ·simp [key,iz,h1,show ¬ (12:Int) < ds.length by omega,h2,fH]
  ·simp [h1,show (12:Int) < ds.length by omega,fH]
 | _=>simp [fH]
end Ml
namespace Ml
open PySem
end Ml
namespace Ml
open PySem
end Ml
namespace Ml
open PySem
end Ml
namespace Ml
open PySem
end Ml
namespace Ml
open PySem
end Ml
namespace Ml
open PySem
end Ml
namespace Ml
open PySem
theorem sk (i j:Int) (h:Hm):oEq (.int i) (.int j) h=.ok (.bool (i == j)) h:=by
 simp [oEq,sI,eqQ,noDict,PyData.hasDict,PyData.depth,PyData.eqv]
end Ml
namespace Ml
open PySem
@[simp] theorem He (ds:List PyData) (i:Int) (h:Hm):gv (.dat (.tuple ds)) (.int i) h=match jF ds i with | some d=>.ok (.dat d) h | none=>.bad:=rfl
@[simp] theorem Hf (ds:List PyData) (i:Int) (h:Hm):gv (.dat (.list ds)) (.int i) h=match jF ds i with | some d=>.ok (.dat d) h | none=>.bad:=rfl
@[simp] theorem Jt {α:Type} (a:α) (r:List α):jF (a::r) 0=some a:=by simp [jF,sG]
theorem jM {α:Type} {xs:List α} {i:Nat} {a:α} (h:xs[i]?=some a):jF xs (i:Int)=some a:=by
 obtain ⟨hi,e⟩:=List.getElem?_eq_some_iff.mp h
 simp [jF,sG,hi,e]
@[simp] theorem Ju {α:Type} (a b:α) (r:List α):jF (a::b::r) 1=some b:=by
 show jF _ ((1:Nat):Int)=_
 exact jM rfl
end Ml
namespace Ml
open PySem
def Wf (h:Hm):Prop:=∀ o∈h,MO.below h.length o=true
structure Bx (i:Nat) (h:Hm):Prop where
 box:∃ n:Int,h[i]?=some (.lst [.int n])
 wf:Wf h
def Bs (i:Nat) (h h':Hm):Prop:=∃ n:Int,h'=h.set i (.lst [.int n])
theorem Bx.lt {i:Nat} {h:Hm} (b:Bx i h):i < h.length:=by
 obtain ⟨⟨n,e⟩,_⟩:=b
 exact (List.getElem?_eq_some_iff.mp e).1
theorem Bx.refl {i:Nat} {h:Hm} (b:Bx i h):Bs i h h:=by
 obtain ⟨⟨n,e⟩,_⟩:=b
 refine ⟨n,?_⟩
 obtain ⟨l,e⟩:=List.getElem?_eq_some_iff.mp e
 rw [<- e]
 exact (List.set_getElem_self l).symm
theorem Bs.trans {i:Nat} {h h' h'':Hm} (a:Bs i h h') (b:Bs i h' h''):Bs i h h'':=by
 obtain ⟨n,rfl⟩:=a
 obtain ⟨k,rfl⟩:=b
 exact ⟨k,by rw [List.set_set]⟩
theorem Wf.set {h:Hm} (w:Wf h) {i:Nat} {o:MO} (b:MO.below h.length o=true):Wf (h.set i o):=fun x hx=>by
 rw [List.length_set]
 rcases List.mem_or_eq_of_mem_set hx with m | rfl
 ·exact w x m
 ·exact b
theorem D.gO {n m:Nat} (h:n<=m) {d:D} (b:D.below n d=true):D.below m d=true:=by
 cases d<;>simp_all [D.below]
 omega
theorem MO.gO {n m:Nat} (h:n<=m) {o:MO} (b:MO.below n o=true):MO.below m o=true:=by
 cases o with
 | lst xs=>simp only [MO.below,List.all_eq_true] at b ⊢;exact fun d q=>D.gO h (b d q)
 | mD t kvs=>rfl
 | ins C fs=>simp only [MO.below,List.all_eq_true] at b ⊢;exact fun d q=>D.gO h (b d q)
 | tab P q=>rfl
theorem Wf.push {h:Hm} (w:Wf h) {o:MO} (b:MO.below (h.length+1) o=true):Wf (h++[o]):=fun x hx=>by
 rw [List.length_append,List.length_singleton]
 rcases List.mem_append.mp hx with m | m
 ·exact MO.gO (Nat.le_succ _) (w x m)
 ·simp at m;subst m;exact b
theorem Bs.bx {i:Nat} {h h':Hm} (s:Bs i h h') (b:Bx i h):Bx i h':=by
 obtain ⟨n,rfl⟩:=s
 exact ⟨⟨n,by rw [List.getElem?_set_self b.lt]⟩,b.wf.set rfl⟩
theorem Bs.len {i:Nat} {h h':Hm} (s:Bs i h h'):h'.length=h.length:=by
 obtain ⟨n,rfl⟩:=s
 simp
theorem Bx.push {i:Nat} {h:Hm} (b:Bx i h) {o:MO} (q:MO.below (h.length+1) o=true):Bx i (h++[o]):=by
 obtain ⟨n,e⟩:=b.box
 exact ⟨⟨n,by rw [List.getElem?_append_left b.lt];exact e⟩,b.wf.push q⟩
theorem Bs.pop {i:Nat} {h h':Hm} {o:MO} (b:i < h.length) (s:Bs i (h++[o]) h'):∃ h1,h'=h1++[o]/\Bs i h h1:=by
 obtain ⟨n,rfl⟩:=s
 exact ⟨_,by rw [List.set_append_left _ _ b],n,rfl⟩
def Dr {α:Type} (i:Nat) (h:Hm) (r:R α) (P:α->Prop):Prop:=∃ a h',r=.ok a h'/\Bs i h h'/\P a
section
variable {α β:Type} {i:Nat} {h:Hm} {r:R α} {f:α->Hm->R β} {P P':α->Prop} {Q:β->Prop}
theorem Dr.ok {a:α} (b:Bx i h) (p:P a):Dr i h (.ok a h) P:=⟨a,h,rfl,b.refl,p⟩
end
theorem mQ {i:Nat} {h:Hm} (b:Bx i h) {c:Int} (h0:0 < c) (h1:c < 1073741824):Dr i h (aI [.ref i,.int c] h) fun d=>∃ k:Nat,d=.int k/\(k:Int) < c:=by
 obtain ⟨⟨n,e⟩,_⟩:=b
 have hl:=(List.getElem?_eq_some_iff.mp e).1
 refine ⟨.int (n % c),h.set i (.lst [.int (n / c)]),?_,⟨n / c,rfl⟩,(n % c).toNat,?_,?_⟩
 ·unfold aI lP
  simp [gv,hX,y0,e,mF,h0,h1,yo,q9,wt,sG]
 ·rw [Int.toNat_of_nonneg (Int.emod_nonneg _ (by omega))]
 ·rw [Int.toNat_of_nonneg (Int.emod_nonneg _ (by omega))]
  exact Int.emod_lt_of_pos _ h0
theorem Cm (ns:List Int) (k:Nat) (h:Hm):∃ z:Int,eN [.scr ns,.int k] h=.ok (.int z) h:=by
 unfold eN lN
 by_cases hk:k < ns.length
 ·exact ⟨ns[k],by simp [fX,r6,hk,gv,hX,y0,jM (List.getElem?_eq_getElem hk)]⟩
 ·exact ⟨0,by simp [fX,r6,hk]⟩
def oW:List PyData:=[.int 48271,.int 69621,.int 16807,.int 39373,.int 30269,.int 40014,.int 40692,.int 50021,.int 61687,.int 71993,.int 83869,.int 95561,.int 30307]
theorem ux (i:Int) (h0:0<=i) (h1:i < 13):∃ n:Int,jF oW i=some (.int n)/\0<=n/\n < 100000:=by
 obtain ⟨k,rfl⟩:=Int.eq_ofNat_of_zero_le h0
 have hk:k < 13:=by omega
 have all:∀ k < 13,∃ n:Int,oW[k]?=some (.int n)/\0<=n/\n < 100000:=by
  intro k hk
  match k,hk with
  | 0,_=>exact ⟨_,rfl,by decide,by decide⟩
  | 1,_=>exact ⟨_,rfl,by decide,by decide⟩
  | 2,_=>exact ⟨_,rfl,by decide,by decide⟩
  | 3,_=>exact ⟨_,rfl,by decide,by decide⟩
  | 4,_=>exact ⟨_,rfl,by decide,by decide⟩
  | 5,_=>exact ⟨_,rfl,by decide,by decide⟩
  | 6,_=>exact ⟨_,rfl,by decide,by decide⟩
  | 7,_=>exact ⟨_,rfl,by decide,by decide⟩
  | 8,_=>exact ⟨_,rfl,by decide,by decide⟩
  | 9,_=>exact ⟨_,rfl,by decide,by decide⟩
  | 10,_=>exact ⟨_,rfl,by decide,by decide⟩
  | 11,_=>exact ⟨_,rfl,by decide,by decide⟩
  | 12,_=>exact ⟨_,rfl,by decide,by decide⟩
 obtain ⟨n,e,h⟩:=all k hk
 exact ⟨n,jM e,h⟩
theorem kj {i j:Int} (h:Hm) (hj:0 < j):oMod (.int i) (.int j) h=.ok (.int (i % j)) h:=by simp [oMod,hj]
theorem qD {i j:Int} (h:Hm) (hj:0 < j) (h2:j < 1073741824):nA (.int i) (.int j) h=.ok (.int (i / j)) h:=by simp [nA,hj,h2]
theorem uy {i j:Int} (h:Hm) (hj:ny i j=true):kD (.int i) (.int j) h=.ok (.int (i * j)) h:=by simp [kD,hj]
@[simp] theorem GA (i j:Int) (h:Hm):eY (.int i) (.int j) h=.ok (.int (i+j)) h:=rfl
theorem xa {i j:Int} (h0:-18446744073709551616 < j) (h1:j < 18446744073709551616):ny i j=true:=by
 simp only [ny,Bool.or_eq_true,Bool.and_eq_true,decide_eq_true_eq]
 exact .inr ⟨h0,h1⟩
theorem kl {i j:Int} (h0:-18446744073709551616 < i) (h1:i < 18446744073709551616):ny i j=true:=by
 simp only [ny,Bool.or_eq_true,Bool.and_eq_true,decide_eq_true_eq]
 exact .inl ⟨h0,h1⟩
theorem EV (c:Int) (k:Nat) (h:Hm):∃ z:Int,dk [.int c,.int k] h=.ok (.int z) h:=by
 unfold dk n8
 obtain ⟨n,e,n0,n1⟩:=ux ((k:Int) % 13) (Int.emod_nonneg _ (by decide)) (Int.emod_lt_of_pos _ (by decide))
 simp only [oW] at e
 refine ⟨_,by
  simp [kj,e,uy,xa (i:=c % 2147483647+12345) (j:=n) (by omega) (by omega),qD,kl (i:=977) (j:=k) (by decide) (by decide),kl (i:=7919) (by decide) (by decide),kl (i:=48271) (by decide) (by decide),kl (i:=((c % 2147483647+12345) * n+977 * ↑k+7919 * (↑k / 13)) % 1000000007) (by have:=Int.emod_nonneg ((c % 2147483647+12345) * n+977 * ↑k+7919 * (↑k / 13)) (show (1000000007:Int)≠0 by decide);omega) (by have:=Int.emod_lt_of_pos ((c % 2147483647+12345) * n+977 * ↑k+7919 * (↑k / 13)) (show (0:Int) < 1000000007 by decide);omega)]
  rfl⟩
theorem EW (ns:List Int) (k l:Nat) (h:Hm):∃ n:Int,cK [.scr ns,.int k,.int l] h=.ok (.ref h.length) (h++[.lst [.int n]]):=by
 unfold cK n9
 obtain ⟨c,ec⟩:=Cm ns k h
 have hn:nums 0 90=(List.range 90).map fun (i:Nat)=>D.int (0+(i:Int)):=rfl
 obtain ⟨ρ',h',e,z,rfl,j,rfl⟩:=iQ (g:=au 5) (b:=df 4 (ax eY (ax kD (ae 4) (aj (.int 142857143))) (ag dk (aa (ae 3) (aa (ax eY (ax kD (aj (.int 90)) (ae 2)) (ae 5)) (ao))))))
  (fun _ ρ h'=>∃ z:Int,h'=h/\∃ j,ρ=[some (.scr ns),some (.int k),some (.int l),some (.int c),some (.int z),j]) (nums 0 90) 0 [some (.scr ns),some (.int k),some (.int l),some (.int c),some (.int 0),none] h (fun j x hx ρ h' ⟨z,eh,y,er⟩=>by
   subst eh
   subst er
   simp only [nums,List.getElem?_map,Option.map_eq_some_iff] at hx
   obtain ⟨i,_,rfl⟩:=hx
   obtain ⟨q,eq⟩:=EV c (90 * l+i) h'
   refine ⟨_,h',[some (.scr ns),some (.int k),some (.int l),some (.int c),some (.int (z * 142857143+q)),some (.int i)],h',rfl,.inl ?_,_,rfl,_,rfl⟩
   have e2:dk [.int c,.int (90 * (l:Int)+i)] h'=.ok (.int q) h':=by
    rw [show (90:Int) * l+i=((90 * l+i:Nat):Int) by omega]
    exact eq
   simp [uy,xa (i:=z) (j:=142857143) (by decide) (by decide),kl (i:=90) (j:=l) (by decide) (by decide),e2]) ⟨0,rfl,none,rfl⟩
 by_cases h1:c % 2=0/\(l:Int)=0
 ·exact ⟨(if c < 0 then -c else c) / 2,by simp [ec,kj,sk,h1.1,h1.2,Bk,qD,p7,sz]⟩
 ·refine ⟨z,?_⟩
  by_cases h2:c % 2=0
  ·have h3:¬ (l=0):=fun q=>h1 ⟨h2,by omega⟩
   simp [ec,kj,sk,h2,h3,e,p7,sz,show (-(2 ^ 62):Int)<=90/\(90:Int) < 2 ^ 62 by decide]
  ·simp [ec,kj,sk,h2,e,p7,sz,show (-(2 ^ 62):Int)<=90/\(90:Int) < 2 ^ 62 by decide]
end Ml
namespace Ml
open PySem
end Ml
namespace Ml
open PySem
end Ml
namespace Ml
open PySem
def IV (n m:Nat) (x:PyData):Bool:=mz x && decide (x.depth<=m) && decide (x.weight<=n)
theorem oX {n m:Nat} {x:PyData} (h:IV n m x=true):Ok n m x:=by
 simp only [IV,Bool.and_eq_true,decide_eq_true_eq] at h
 exact ⟨h.1.1,h.1.2,h.2⟩
theorem Cn {α:Type} {xs:List α} {k:Nat} (h:k < xs.length):∃ x,jF xs (k:Int)=some x/\x∈xs:=⟨xs[k],jM (List.getElem?_eq_getElem h),List.getElem_mem h⟩
theorem oY {xs ys:List PyData} (h:Hm) (hz:xs.length+ys.length<=16777216):eY (.dat (.list xs)) (.dat (.list ys)) h=.ok (.dat (.list (xs++ys))) h:=by simp [eY,sz hz]
end Ml
namespace Ml
open PySem
end Ml
namespace Ml
open PySem
theorem su:∀ {ds:List PyData},ds.Pairwise (fun a b=>ltB a b=true)->oU ds=true
 | [],_=>rfl
 | [_],_=>rfl
 | a::b::r,h=>by
  rw [List.pairwise_cons] at h
  have ih:=su h.2
  unfold oU at ih ⊢
  simp only [List.tail_cons,List.zip_cons_cons] at ih ⊢
  exact fk.mpr ⟨h.1 b (by simp),ih⟩
theorem ya {ds:List PyData} (c:bD ds=true) (t:ah ds=true) (nd:ds.Nodup):oU (bG ltB ds)=true:=by
 have p:=bw ltB ds
 have u:=nF (fe c t)
 have nd':(bG ltB ds).Nodup:=p.nodup_iff.mpr nd
 refine su ?_
 unfold Up at u
 refine List.pairwise_iff_forall_sublist.mpr fun {a b} s=>?_
 have both:=List.pairwise_iff_forall_sublist.mp u s
 have bn:=List.pairwise_iff_forall_sublist.mp nd' s
 have ha:=p.mem_iff.mp (s.subset (by simp:a∈[a,b]))
 have hb:=p.mem_iff.mp (s.subset (by simp:b∈[a,b]))
 rcases jW c t ha hb both with q | q
 ·exact q
 ·exact absurd q bn
theorem EX {ds:List PyData} (c:bD ds=true) (t:ah ds=true) {x y z:PyData} (hx:x∈ds) (hy:y∈ds) (hz:z∈ds) (h:ltB x y=true) (k:ltB y z=true):ltB x z=true:=by
 have h1:=kG c t hx hy h
 have h2:=kG c t hy hz k
 rcases jW c t hx hz (wA c t hx hy hz h1 h2) with q | q
 ·exact q
 ·subst q;rw [k] at h1;cases h1
theorem vJ {ds:List PyData} (c:bD ds=true) (t:ah ds=true):∀ {es:List PyData},(∀ e∈es,e∈ds)->oU es=true->es.Pairwise fun a b=>ltB a b=true
 | [],_,_=>.nil
 | [_],_,_=>by simp
 | a::b::r,s,h=>by
  unfold oU at h
  simp only [List.tail_cons,List.zip_cons_cons] at h
  have h:=fk.mp h
  have ih:=vJ c t (es:=b::r) (fun e m=>s e (List.mem_cons_of_mem _ m)) (by unfold oU;simpa using h.2)
  refine List.pairwise_cons.mpr ⟨fun d m=>?_,ih⟩
  rcases List.mem_cons.mp m with rfl | m'
  ·exact h.1
  ·exact EX c t (s a (by simp)) (s b (by simp)) (s d (by simp [m'])) h.1 ((List.pairwise_cons.mp ih).1 d m')
end Ml
namespace Ml
open PySem
theorem Ah {f:Fn} {xs:List D} {i:Nat} {h h1 t:Hm} {x:PyData} (b:Bx i h) (e:f xs h=.ok (.dat x) (h1++t)) (s:Bs i h h1):hU f xs h=.ok (.dat x) h1:=by
 have hl:=s.len
 have w:=(s.bx b).wf
 have e1:(h1++t).take h.length=h1:=by rw [<- hl,List.take_left'];rfl
 have e2:h1.all (MO.below h.length)=true:=List.all_eq_true.mpr fun o m=>hl▸w o m
 simp only [hU,e,e1,e2,D.below,List.length_append,Bool.and_self,Bool.true_and]
 rw [if_pos]
 simp only [decide_eq_true_eq]
 omega
namespace Nm
variable {c:Nat} {ns:List PyData}
end Nm
theorem iA {d:PyData} (h:eQ d=true):ai d=true:=by cases d<;>simp_all [eQ,ai]
theorem bA {d:PyData} (h:eQ d=true):af d=true:=by cases d<;>simp_all [eQ,af]
theorem je:∀ {ds:List PyData},cX ds eQ=true->ah ds=true
 | [],_=>by simp [ah]
 | d::ds,h=>by have h:=fk.mp h;simp [ah,bA h.1,je h.2]
theorem qE {ds:List PyData} (h:∀ a∈ds,∀ b∈ds,cm a b=true):bD ds=true:=List.all_eq_true.mpr fun a ha=>List.all_eq_true.mpr fun b hb=>vG (h a ha b hb)
end Ml
namespace Ml
open PySem
theorem uz {ds:List PyData} (h:cX ds eQ=true):bD ds=true:=qE fun a ha b hb=>by
 obtain ⟨x,rfl⟩:=cn (bZ.mp h a ha)
 obtain ⟨y,rfl⟩:=cn (bZ.mp h b hb)
 rfl
theorem Co {ns:List PyData} {zs:List D} (s:zs.Sublist (ns.map D.dat)):∃ ls:List PyData,zs=ls.map D.dat/\ls.Sublist ns:=by
 obtain ⟨ls,h1,h2⟩:=List.sublist_map_iff.mp s
 exact ⟨ls,h2,h1⟩
theorem cz {a b:MS} {ρ ρ1:Fm} {h h1:Hm} (e:a ρ h=.ok (.nx ρ1) h1):bQ a b ρ h=b ρ1 h1:=by simp [bQ,e]
theorem fT {f:D->D->Hm->R D} {a b:ME} {ρ:Fm} {h h1 h2:Hm} {x y:D} {r:R D} (ha:a ρ h=.ok x h1) (hb:b ρ h1=.ok y h2) (e:f x y h2=r):ax f a b ρ h=r:=by
 subst e
 simp only [ax,ha,hb,R.aD]
theorem aN {e:ME} {a:MA} {ρ:Fm} {h h1 h2:Hm} {x:D} {xs:List D} (he:e ρ h=.ok x h1) (ha:a ρ h1=.ok xs h2):aa e a ρ h=.ok (x::xs) h2:=by
 simp only [aa,he,ha,R.aD]
theorem bK {f:Fn} {a:MA} {ρ:Fm} {h h1:Hm} {xs:List D} (ha:a ρ h=.ok xs h1):ag f a ρ h=f xs h1:=by simp only [ag,ha,R.aD]
theorem km {i:Nat} {e:ME} {ρ:Fm} {h h1:Hm} {x:D} (he:e ρ h=.ok x h1):df i e ρ h=.ok (.nx (ρ.set i (some x))) h1:=by simp only [df,he,R.aD]
section
variable {t u:MT} {a b:MS} {m:ME} {ρ:Fm} {h h1 h2:Hm} {x:D} {c d:Bool}
theorem gq (e:m ρ h=.ok (.bool c) h1):aO m ρ h=.ok c h1:=by simp [aO,e]
theorem Ai (e:t ρ h=.ok false h1):uG t u ρ h=u ρ h1:=by simp [uG,e]
theorem xb (e:t ρ h=.ok false h1):lq t a b ρ h=b ρ h1:=by simp [lq,e]
theorem mR {it:MA} {g:MG} {xs:List D} {r:R Fl} (e:it ρ h=.ok xs h1) (k:dw g a xs ρ h1=r):gB it g a ρ h=r:=by subst k;simp only [gB,e,R.b0,R.aD]
theorem mS {ds:List PyData} (e:m ρ h=.ok (.dat (.list ds)) h1):aS m ρ h=.ok (ds.map D.dat) h1:=by simp only [aS,e]
theorem xc {ds:List PyData} (e:m ρ h=.ok (.dat (.tuple ds)) h1):aS m ρ h=.ok (ds.map D.dat) h1:=by simp only [aS,e]
end
theorem yb {a:MA} {ρ:Fm} {h h1:Hm} {j:Int} (e:a ρ h=.ok [.dat (.int j)] h1) (q:(-(2 ^ 62):Int)<=j/\j < 2 ^ 62):fz a ρ h=.ok (nums 0 j.toNat) h1:=by
 unfold fz
 rw [e]
 simp only [R.aD]
 rw [if_pos q]
theorem oZ {a:MA} {ρ:Fm} {h h1:Hm} {n:Nat} (e:a ρ h=.ok [.dat (.int (n:Int))] h1) (hn:n < 1000000):fz a ρ h=.ok (nums 0 n) h1:=by
 have:=yb e (by omega)
 rwa [Int.toNat_natCast] at this
end Ml
namespace Ml
open PySem
def cS:List PyData:=[.str "a",.str "aa",.str "ab",.str "abcdef",.str "b",.str "c",.str "d",.str "e",.str "m",.str "x",.str "zz",.str "zzzzzz"]
def uA:List PyData:=cS.flatMap fun a=>cS.map fun b=>.tuple [a,b]
theorem iS:∀ x∈cS,IV 6 0 x=true/\isName x=true:=by decide +kernel
theorem sv:cX cS eQ=true:=by decide +kernel
theorem Cp:oU cS=true:=by decide +kernel
theorem o3 {p:PyData}:p∈uA<->∃ a b,a∈cS/\b∈cS/\p=.tuple [a,b]:=by
 unfold uA
 rw [List.mem_flatMap]
 constructor
 ·rintro ⟨a,ha,h⟩
  obtain ⟨b,hb,rfl⟩:=List.mem_map.mp h
  exact ⟨a,b,ha,hb,rfl⟩
 ·rintro ⟨a,b,ha,hb,rfl⟩
  exact ⟨a,ha,List.mem_map.mpr ⟨b,hb,rfl⟩⟩
theorem bL {x:PyData} (h:x∈cS):eQ x=true:=bZ.mp sv x h
theorem iB:bD cS=true:=uz sv
theorem de:ah cS=true:=je sv
theorem kn:bD uA=true:=qE fun p hp q hq=>by
 obtain ⟨a,b,ha,hb,rfl⟩:=o3.mp hp
 obtain ⟨c,d,hc,hd,rfl⟩:=o3.mp hq
 simp only [cm]
 exact oV (by simp [cX,bL ha,bL hb]) (by simp [cX,bL hc,bL hd])
theorem fo {p:PyData} (h:p∈uA):ai p=true/\af p=true/\dU p=true/\eT p=true/\p.depth<=1/\Ok 14 1 p:=by
 obtain ⟨a,b,ha,hb,rfl⟩:=o3.mp h
 have oa:=oX (iS a ha).1
 have ob:=oX (iS b hb).1
 have ok:Ok 14 1 (.tuple [a,b]):=((kq.cons oa (kq.one ob)).mono (by omega) (Nat.le_refl _)).tup
 exact ⟨by simp [ai,aK,iA (bL ha),iA (bL hb)],by simp [af,ah,bA (bL ha),bA (bL hb)],rfl,rfl,ok.d,ok⟩
theorem iT:ah uA=true:=fN fun d m=>(fo m).2.1
structure Rw (U xs:List PyData):Prop where
 sub:∀ d∈xs,d∈U
 ris:xs.Pairwise fun a b=>ltB a b=true
theorem gu {U xs:List PyData} (t:ah U=true) (r:Rw U xs):xs.Nodup:=by
 refine (List.pairwise_iff_forall_sublist.mpr fun {a b} s z=>?_)
 subst z
 have h:=List.pairwise_iff_forall_sublist.mp r.ris s
 have ha:=r.sub a (s.subset (by simp))
 have:=rf (aF t ha)
 unfold ltB at h
 rw [this] at h
 cases h
theorem C9 {U xs:List PyData} (c:bD U=true) (t:ah U=true) (r:Rw U xs):Up ltB xs:=by
 unfold Up
 refine List.pairwise_iff_forall_sublist.mpr fun {a b} s=>?_
 have h:=List.pairwise_iff_forall_sublist.mp r.ris s
 exact kG c t (r.sub a (s.subset (by simp))) (r.sub b (s.subset (by simp))) h
theorem xf {U xs:List PyData} (r:Rw U xs):oU xs=true:=su r.ris
theorem xg {U xs ys:List PyData} (c:bD U=true) (t:ah U=true) (r:Rw U xs) (q:Rw U ys) (h:∀ d,d∈xs<->d∈ys):xs=ys:=
 kI ((fe c t).sub r.sub) ((List.perm_ext_iff_of_nodup (gu t r) (gu t q)).mpr h) (C9 c t r) (C9 c t q)
theorem o4 {U xs:List PyData} (c:bD U=true) (h:∀ d∈xs,d∈U):bD xs=true:=by
 refine List.all_eq_true.mpr fun a ha=>List.all_eq_true.mpr fun b hb=>?_
 exact List.all_eq_true.mp (List.all_eq_true.mp c a (h a ha)) b (h b hb)
theorem fq {U xs:List PyData} (t:ah U=true) (h:∀ d∈xs,d∈U):ah xs=true:=fN fun d m=>aF t (h d m)
theorem sy {U xs:List PyData} (c:bD U=true) (t:ah U=true) (h:∀ d∈xs,d∈U) (nd:xs.Nodup):Rw U (bG ltB xs):=by
 refine ⟨fun d m=>h d ((bw _ _).mem_iff.mp m),?_⟩
 have c':=o4 c h
 have t':=fq t h
 exact vJ c' t' (fun d m=>(bw _ _).mem_iff.mp m) (ya c' t' nd)
theorem o5 {xs:List PyData} (r:Rw cS xs):xs.length<=12:=by
 have:=fi (gu de r) r.sub
 simpa [cS] using this
end Ml
namespace Ml
open PySem
structure Wb (k:Nat) (ns ss:List PyData):Prop where
 nr:Rw cS ns
 sr:Rw uA ss
 cl:∀ a b,.tuple [a,b]∈ss->a∈ns/\b∈ns
 le:ss.length<=k
section
variable {k:Nat} {ns ss:List PyData}
theorem Wb.sd (w:Wb k ns ss):cX ns eQ=true:=bZ.mpr fun d m=>bL (w.nr.sub d m)
theorem Wb.Hg (w:Wb k ns ss) {a:PyData} (h:a∈ns):Ok 6 0 a:=oX (iS a (w.nr.sub a h)).1
theorem Wb.JQ (w:Wb k ns ss):Ok 84 1 (.tuple ns):=by
 have:=o5 w.nr
 exact ((kq.of fun d m=>w.Hg m).mono (by omega) (Nat.le_refl _)).tup
theorem Wb.IW (w:Wb k ns ss) (hk:k<=600):kq 9000 1 ss:=by
 have:=w.le
 exact (kq.of fun d m=>(fo (w.sr.sub d m)).2.2.2.2.2).mono (by omega) (Nat.le_refl _)
theorem Wb.names (w:Wb k ns ss):fH (.tuple ns)=true:=by
 have h1:cX ns isName=true:=bZ.mpr fun d m=>(iS d (w.nr.sub d m)).2
 simp [fH,o5 w.nr,xf w.nr,h1]
theorem Wb.get (w:Wb k ns ss) {p:PyData} (h:p∈ss):∃ a b,p=.tuple [a,b]/\a∈ns/\b∈ns:=by
 obtain ⟨a,b,_,_,rfl⟩:=o3.mp (w.sr.sub p h)
 exact ⟨a,b,rfl,w.cl a b h⟩
theorem GB (h:Hm):mE (D.int 2) (D.dat (.int 2)) h=.ok (.bool false) h:=by
 simp [mE,sI,eqQ,noDict,PyData.hasDict,PyData.depth,PyData.eqv]
theorem yc (w:Wb k ns ss) {a b:PyData} (ha:a∈ns) (hb:b∈ns) (h:Hm):dz [.dat (.tuple [a,b]),.dat (.tuple ns)] h=.ok (.bool true) h:=by
 unfold dz lL
 simp [GB,si (w.Hg ha) w.sd,si (w.Hg hb) w.sd,(iR w.sd).mpr ha,(iR w.sd).mpr hb]
theorem vK (w:Wb k ns ss) (hk:k<=600) (h:Hm):cW [.dat (.tuple ss),.dat (.tuple ns)] h=.ok (.bool true) h:=by
 unfold cW ja
 have hl:=w.le
 have key:=fj (n:=1) (it:=aS (ae 0)) (g:=au 0) (e:=ag dz (aa (ae 0) (aa (ae 2) (ao)))) (ρ:=[some (.dat (.tuple ss)),some (.dat (.tuple ns))]) (h:=h) (h1:=h) (ds:=ss) (by simp) (by omega) (fun x=>.bool ((fun _=>true) x)) (fun x hx=>⟨_,rfl,by
  obtain ⟨a,b,rfl,ha,hb⟩:=w.get hx
  simp [yc w ha hb]⟩)
 have al:cX ss (fun _=>true)=true:=bZ.mpr fun _ _=>rfl
 have cp:Fj ss:=Fj.of (w.IW hk) (by decide) fun d hd e he=>by
  obtain ⟨a,b,rfl,ha,hb⟩:=w.get hd
  obtain ⟨a',b',rfl,ha',hb'⟩:=w.get he
  have:=bZ.mp w.sd
  simp only [cm]
  exact oV (by simp [cX,this a ha,this b hb]) (by simp [cX,this a' ha',this b' hb'])
 have ir:=ki cp (by omega) h
 rw [xf w.sr] at ir
 have bm:=iz ss (fun _=>true) h
 rw [al] at bm
 simp only [] at key
 simp [key,bm,ir]
theorem Aj (w:Wb k ns ss) (hk:k<=600) (h:Hm):eK [.dat (.tuple [.tuple ns,.tuple ss])] h=.ok (.bool true) h:=by
 have e1:=sj w.JQ (by decide) h
 rw [w.names] at e1
 unfold eK tL
 simp [GB,e1,vK w hk h]
theorem sA (w:Wb k ns ss) (hk:k<=600) (h:Hm):bO [.dat (.tuple [.tuple ns,.tuple ss])] h=.ok D.none h:=by
 unfold bO lM
 simp [Aj w hk h]
theorem Ak (w:Wb k ns ss) {x:PyData} (hx:x∈ns) (h:Hm):cx [.dat (.tuple [.tuple ns,.tuple ss]),.dat x] h=.ok D.none h:=by
 unfold cx j7
 simp [Ck (w.Hg hx) w.sd,(iR w.sd).mpr hx]
end
end Ml
namespace Ml
open PySem
structure Cq (U:List PyData):Prop where
 c:bD U=true
 t:ah U=true
 st:∀ d∈U,ai d=true
 key:(∀ d∈U,dU d=true)\/(∀ d∈U,hV d=true)
 typ:(∀ d∈U,nE d=true)\/(∀ d∈U,eT d=true)
 dep:∀ d∈U,d.depth<=1
theorem jf:Cq cS:=⟨iB,de,fun d m=>iA (bL m),.inr fun d m=>by obtain ⟨x,rfl⟩:=cn (bL m);rfl,.inl fun d m=>by obtain ⟨x,rfl⟩:=cn (bL m);rfl,fun d m=>by obtain ⟨x,rfl⟩:=cn (bL m);simp [PyData.depth]⟩
theorem qF:Cq uA:=⟨kn,iT,fun d m=>(fo m).1,.inl fun d m=>(fo m).2.2.1,.inr fun d m=>(fo m).2.2.2.1,fun d m=>(fo m).2.2.2.2.1⟩
theorem jg:∀ {ds:List PyData},(∀ d∈ds,ai d=true)->aK ds=true
 | [],_=>by simp [aK]
 | d::ds,h=>by simp [aK,h d (by simp),jg (ds:=ds) fun e m=>h e (by simp [m])]
section
variable {U xs ys:List PyData}
theorem Cq.set (u:Cq U) (h:∀ d∈xs,d∈U) (l:xs.length<=120):setOk xs=true:=by
 have h1:(xs.all dU || xs.all hV)=true:=by
  rcases u.key with k | k
  ·rw [List.all_eq_true.mpr fun d m=>k d (h d m)];rfl
  ·rw [show xs.all hV=true from List.all_eq_true.mpr fun d m=>k d (h d m)];simp
 have h2:aK xs=true:=jg fun d m=>u.st d (h d m)
 have h3:PyData.depthAll xs<=8:=Nat.le_trans (cv fun d m=>u.dep d (h d m)) (by decide)
 simp only [setOk,h1,h2,decide_eq_true h3,decide_eq_true l,Bool.and_self]
theorem Cq.Hh (u:Cq U) (h:∀ d∈xs,d∈U) (l:xs.length < 64):cw xs=true:=by
 have h1:(xs.all nE || xs.all eT)=true:=by
  rcases u.typ with k | k
  ·rw [List.all_eq_true.mpr fun d m=>k d (h d m)];rfl
  ·rw [show xs.all eT=true from List.all_eq_true.mpr fun d m=>k d (h d m)];simp
 have h3:PyData.depthAll xs<=20:=Nat.le_trans (cv fun d m=>u.dep d (h d m)) (by decide)
 simp only [cw,h1,fq u.t h,o4 u.c h,decide_eq_true h3,decide_eq_true l,Bool.and_self]
def un (xs ys:List PyData):List PyData:=bG ltB (uE xs ys)
theorem Al (u:Cq U) (r:∀ d∈xs,d∈U) (q:∀ d∈ys,d∈U):(∀ d,d∈uE xs ys<->d∈xs\/d∈ys)/\(uE xs ys).Nodup/\(uE xs ys).length<=xs.length+ys.length:=by
 have hs:∀ d∈xs++ys,ai d=true:=fun d m=>by
  rcases List.mem_append.mp m with z | z
  ·exact u.st d (r d z)
  ·exact u.st d (q d z)
 have hm:∀ d,d∈uE xs ys<->d∈xs\/d∈ys:=fun d=>by unfold uE;rw [fh hs,List.mem_append]
 have nd:(uE xs ys).Nodup:=eM hs
 refine ⟨hm,nd,?_⟩
 have:=fi nd (ys:=xs++ys) fun d m=>List.mem_append.mpr ((hm d).mp m)
 simpa using this
theorem uB (u:Cq U) (r:∀ d∈xs,d∈U) (q:∀ d∈ys,d∈U):Rw U (un xs ys)/\(∀ d,d∈un xs ys<->d∈xs\/d∈ys)/\(un xs ys).length<=xs.length+ys.length:=by
 obtain ⟨h1,h2,h3⟩:=Al u r q
 refine ⟨sy u.c u.t (fun d m=>((h1 d).mp m).elim (r d) (q d)) h2,fun d=>(bw _ _).mem_iff.trans (h1 d),?_⟩
 unfold un
 rw [(bw _ _).length_eq]
 exact h3
theorem o6 (u:Cq U) (r:∀ d∈xs,d∈U) (q:∀ d∈ys,d∈U) (l:xs.length+ys.length < 64) {a b:ME} {ρ:Fm} {h:Hm} (ea:a ρ h=.ok (.dat (.tuple xs)) h) (eb:b ρ h=.ok (.dat (.tuple ys)) h) :
  iL uE a b ρ h=.ok (.dat (.list (un xs ys))) h:=by
 obtain ⟨h1,h2,h3⟩:=Al u r q
 have s1:setOk xs=true:=u.set r (by omega)
 have s2:setOk (xs++ys)=true:=u.set (fun d m=>(List.mem_append.mp m).elim (r d) (q d)) (by simp;omega)
 have s3:cw (uE xs ys)=true:=u.Hh (fun d m=>((h1 d).mp m).elim (r d) (q d)) (by omega)
 simp only [iL,ea,R.aD,gn,s1,if_true,eb,s2,s3,Bool.and_self,un]
end
section
variable {k1 k2:Nat} {n1 s1 n2 s2:List PyData}
theorem gW (w1:Wb k1 n1 s1) (w2:Wb k2 n2 s2):Wb (k1+k2) (un n1 n2) (un s1 s2):=by
 obtain ⟨a1,a2,a3⟩:=uB jf w1.nr.sub w2.nr.sub
 obtain ⟨b1,b2,b3⟩:=uB qF w1.sr.sub w2.sr.sub
 have:=w1.le
 have:=w2.le
 refine ⟨a1,b1,fun a b m=>?_,by omega⟩
 rw [a2,a2]
 rcases (b2 _).mp m with z | z
 ·exact ⟨.inl (w1.cl a b z).1,.inl (w1.cl a b z).2⟩
 ·exact ⟨.inr (w2.cl a b z).1,.inr (w2.cl a b z).2⟩
theorem iC (w1:Wb k1 n1 s1) (w2:Wb k2 n2 s2) (hk:k1+k2 < 64) (h:Hm):bz [.dat (.tuple [.tuple n1,.tuple s1]),.dat (.tuple [.tuple n2,.tuple s2])] h=.ok (.dat (.tuple [.tuple (un n1 n2),.tuple (un s1 s2)])) h:=by
 have l1:=o5 w1.nr
 have l2:=o5 w2.nr
 have l3:=w1.le
 have l4:=w2.le
 have wu:=gW w1 w2
 have l5:=o5 wu.nr
 have l6:=wu.le
 have nb:cC [.dat (.tuple [.tuple n1,.tuple s1]),.dat (.tuple [.tuple n2,.tuple s2])] h=.ok (.dat (.list (un n1 n2))) h:=by
  unfold cC gU
  have:=o6 jf w1.nr.sub w2.nr.sub (by omega) (a:=ax gv (ae 0) (aj (.int 0))) (b:=ax gv (ae 1) (aj (.int 0))) (ρ:=[some (.dat (.tuple [.tuple n1,.tuple s1])),some (.dat (.tuple [.tuple n2,.tuple s2]))]) (h:=h) (by simp) (by simp)
  simp [this]
 have sb:∀ x,iL uE (ax gv (ae 0) (aj (.int 1))) (ax gv (ae 1) (aj (.int 1))) [some (.dat (.tuple [.tuple n1,.tuple s1])),some (.dat (.tuple [.tuple n2,.tuple s2])),x,none] h=.ok (.dat (.list (un s1 s2))) h:=fun x=>
  o6 qF w1.sr.sub w2.sr.sub (by omega) (by simp) (by simp)
 unfold bz n6
 simp [sA w1 (by omega) h,sA w2 (by omega) h,nb,sb,show ¬ (12:Int) < (un n1 n2).length by omega,fY,listOf]
theorem GC (w1:Wb k1 n1 s1) (w2:Wb k2 n2 s2) (hn:∀ d,d∈n1<->d∈n2) (hs:∀ d,d∈s1<->d∈s2):n1=n2/\s1=s2:=
 ⟨xg iB de w1.nr w2.nr hn,xg kn iT w1.sr w2.sr hs⟩
theorem Cr (w1:Wb k1 n1 s1):af (.tuple [.tuple n1,.tuple s1])=true:=by
 simp [af,ah,fq de w1.nr.sub,fq iT w1.sr.sub]
theorem ne_self {d:PyData} (t:af d=true) (l:d.depth<=40) (h:Hm):mE (.dat d) (.dat d) h=.ok (.bool false) h:=by
 simp [mE,sI,eqQ,noDict,dy t,l,aH t]
theorem EY (w1:Wb k1 n1 s1):(PyData.tuple [.tuple n1,.tuple s1]).depth<=40:=by
 have a:=cv (m:=1) (ds:=n1) fun d m=>jf.dep d (w1.nr.sub d m)
 have b:=cv (m:=1) (ds:=s1) fun d m=>qF.dep d (w1.sr.sub d m)
 simp only [PyData.depth,PyData.depthAll]
 omega
theorem o7 (w1:Wb k1 n1 s1) (w2:Wb k2 n2 s2) (hn:∀ d,d∈n1<->d∈n2) (hs:∀ d,d∈s1<->d∈s2) (h:Hm):mE (.dat (.tuple [.tuple n1,.tuple s1])) (.dat (.tuple [.tuple n2,.tuple s2])) h=.ok (.bool false) h:=by
 obtain ⟨rfl,rfl⟩:=GC w1 w2 hn hs
 exact ne_self (Cr w1) (EY w1) h
theorem gP (w1:Wb k1 n1 s1) (w2:Wb k2 n2 s2):(∀ d,d∈un n1 n2<->d∈n1\/d∈n2)/\∀ d,d∈un s1 s2<->d∈s1\/d∈s2:=
 ⟨(uB jf w1.nr.sub w2.nr.sub).2.1,(uB qF w1.sr.sub w2.sr.sub).2.1⟩
end
end Ml
namespace Ml
open PySem
def yd:PyData->PyData
 | .tuple [a,_]=>a
 | _=>.none
def ye:PyData->PyData
 | .tuple [_,b]=>b
 | _=>.none
def gR (ss:List PyData) (x:PyData):List PyData:=(ss.filter fun s=>PyData.eqv (ye s) x).map yd
def Dc (ss:List PyData) (x:PyData):List PyData:=(ss.filter fun s=>PyData.eqv (yd s) x).map ye
section
variable {k:Nat} {ns ss:List PyData}
theorem Am {a b:PyData} (ha:eQ a=true) (hb:eQ b=true) (h:Hm):oEq (.dat a) (.dat b) h=.ok (.bool (PyData.eqv a b)) h:=by
 obtain ⟨x,rfl⟩:=cn ha
 obtain ⟨y,rfl⟩:=cn hb
 simp [oEq,sI,eqQ,noDict,PyData.hasDict,PyData.depth,PyData.eqv]
theorem Wb.str (w:Wb k ns ss) {a:PyData} (h:a∈ns):eQ a=true:=bZ.mp w.sd a h
theorem fU (w:Wb k ns ss) (hk:k<=600) {x:PyData} (hx:x∈ns) (h:Hm):aU [.dat (.tuple [.tuple ns,.tuple ss]),.dat x] h=.ok (.dat (.list (gR ss x))) h:=by
 have hl:=w.le
 have key:=kY (n:=2) (it:=aS (ax gv (ae 0) (aj (.int 1)))) (g:=jk (cq (au 0) (cq (au 1) (jj)))) (t:=aO (ax oEq (ae 1) (ae 3))) (e:=ae 0) (ρ:=[some (.dat (.tuple [.tuple ns,.tuple ss])),some (.dat x)]) (h:=h) (h1:=h) (ds:=ss) (by simp) (by omega) (fun s=>PyData.eqv (ye s) x) yd (fun s hs=>by
  obtain ⟨a,b,rfl,ha,hb⟩:=w.get hs
  exact ⟨_,rfl,by simp [Am (w.str hb) (w.str hx),ye],fun _=>by simp [yd]⟩)
 unfold aU n5
 simp [sA w hk h,Ak w hx h,key,gR]
theorem yf (w:Wb k ns ss) (hk:k<=600) {x:PyData} (hx:x∈ns) (h:Hm):eL [.dat (.tuple [.tuple ns,.tuple ss]),.dat x] h=.ok (.dat (.list (Dc ss x))) h:=by
 have hl:=w.le
 have key:=kY (n:=2) (it:=aS (ax gv (ae 0) (aj (.int 1)))) (g:=jk (cq (au 0) (cq (au 1) (jj)))) (t:=aO (ax oEq (ae 0) (ae 3))) (e:=ae 1) (ρ:=[some (.dat (.tuple [.tuple ns,.tuple ss])),some (.dat x)]) (h:=h) (h1:=h) (ds:=ss) (by simp) (by omega) (fun s=>PyData.eqv (yd s) x) ye (fun s hs=>by
  obtain ⟨a,b,rfl,ha,hb⟩:=w.get hs
  exact ⟨_,rfl,by simp [Am (w.str ha) (w.str hx),yd],fun _=>by simp [ye]⟩)
 unfold eL tM
 simp [sA w hk h,Ak w hx h,key,Dc]
theorem fV (w:Wb k ns ss) {x a:PyData} (hx:af x=true):a∈gR ss x<->.tuple [a,x]∈ss:=by
 unfold gR
 rw [List.mem_map]
 constructor
 ·rintro ⟨p,hp,rfl⟩
  obtain ⟨m,e⟩:=List.mem_filter.mp hp
  obtain ⟨a,b,rfl,ha,hb⟩:=w.get m
  rw [(eG (bA (w.str hb)) hx).mp e] at m
  exact m
 ·intro m
  exact ⟨_,List.mem_filter.mpr ⟨m,aH hx⟩,rfl⟩
theorem Cs (w:Wb k ns ss) {x a:PyData} (hx:af x=true):a∈Dc ss x<->.tuple [x,a]∈ss:=by
 unfold Dc
 rw [List.mem_map]
 constructor
 ·rintro ⟨p,hp,rfl⟩
  obtain ⟨m,e⟩:=List.mem_filter.mp hp
  obtain ⟨a,b,rfl,ha,hb⟩:=w.get m
  rw [(eG (bA (w.str ha)) hx).mp e] at m
  exact m
 ·intro m
  exact ⟨_,List.mem_filter.mpr ⟨m,aH hx⟩,rfl⟩
theorem EZ {a b x:PyData} (hx:af x=true) (h:ltB (.tuple [a,x]) (.tuple [b,x])=true):ltB a b=true:=by
 by_cases e:PyData.eqv a b=true
 ·simp [ltB,bf,bV,e,aH hx] at h
 ·simpa [ltB,bf,bV,e] using h
theorem gQ (w:Wb k ns ss) {x:PyData} (hx:af x=true):Rw cS (gR ss x):=by
 refine ⟨fun a m=>w.nr.sub a (w.cl a x ((fV w hx).mp m)).1,?_⟩
 unfold gR
 refine List.pairwise_map.mpr (List.Pairwise.imp_of_mem (fun {p q} hp hq l=>?_) (w.sr.ris.filter _))
 obtain ⟨m,e⟩:=List.mem_filter.mp hp
 obtain ⟨m',e'⟩:=List.mem_filter.mp hq
 obtain ⟨a,b,rfl,ha,hb⟩:=w.get m
 obtain ⟨a',b',rfl,ha',hb'⟩:=w.get m'
 have z:=(eG (bA (w.str hb)) hx).mp e
 have z':=(eG (bA (w.str hb')) hx).mp e'
 have z1:b=x:=z
 have z2:b'=x:=z'
 subst z1
 subst z2
 exact EZ hx l
theorem sC (w:Wb k ns ss) (x:PyData):(gR ss x).length<=k:=by
 unfold gR
 rw [List.length_map]
 exact Nat.le_trans (List.length_filter_le _ _) w.le
theorem Ct (w:Wb k ns ss) (x:PyData):(Dc ss x).length<=k:=by
 unfold Dc
 rw [List.length_map]
 exact Nat.le_trans (List.length_filter_le _ _) w.le
def xh (ss:List PyData) (x:PyData):List PyData:=(gR ss x).map fun a=>.tuple [a,x]
abbrev An:MS:=df 1 (ax eY (ae 1) (b9 1 (aS (ag aU (aa (ae 0) (aa (ae 2) (ao))))) (au 0) (dC) (jo (aa (ae 0) (aa (ae 3) (ao))))))
theorem o8 (w:Wb k ns ss) (hk:k<=600) (h:Hm):∀ {xs acc:List PyData},(∀ x∈xs,x∈ns)->acc.length+xs.length * 600<=100000->∀ a2:Option D,∃ b2,dw (au 2) An (xs.map D.dat) [some (.dat (.tuple [.tuple ns,.tuple ss])),some (.dat (.list acc)),a2] h=.ok (.nx [some (.dat (.tuple [.tuple ns,.tuple ss])),some (.dat (.list (acc++xs.flatMap (xh ss)))),b2]) h
 | [],acc,_,_,a2=>⟨a2,by simp [dw]⟩
 | x::xs,acc,hs,hl,a2=>by
  have hx:=hs x (by simp)
  have l1:=sC w x
  have key:=fj (n:=1) (it:=aS (ag aU (aa (ae 0) (aa (ae 2) (ao))))) (g:=au 0) (e:=jo (aa (ae 0) (aa (ae 3) (ao)))) (ρ:=[some (.dat (.tuple [.tuple ns,.tuple ss])),some (.dat (.list acc)),some (.dat x)]) (h:=h) (h1:=h) (ds:=gR ss x) (by simp [fU w hk hx h]) (by omega) (fun a=>.tuple [a,x]) (fun a ha=>⟨_,rfl,by simp⟩)
  have l2:(xh ss x).length<=600:=by unfold xh;rw [List.length_map];omega
  simp only [List.length_cons] at hl
  obtain ⟨b2,q⟩:=o8 w hk h (xs:=xs) (acc:=acc++xh ss x) (fun y m=>hs y (by simp [m])) (by simp only [List.length_append];omega) (some (.dat x))
  refine ⟨b2,?_⟩
  have e:An [some (.dat (.tuple [.tuple ns,.tuple ss])),some (.dat (.list acc)),some (.dat x)] h=.ok (.nx [some (.dat (.tuple [.tuple ns,.tuple ss])),some (.dat (.list (acc++xh ss x))),some (.dat x)]) h:=by
   have ea:ae 1 [some (.dat (.tuple [.tuple ns,.tuple ss])),some (.dat (.list acc)),some (.dat x)] h=.ok (.dat (.list acc)) h:=by simp
   refine (km (fT ea key (oY h ?_))).trans (by simp [xh])
   have:((gR ss x).map fun a=>PyData.tuple [a,x]).length=(gR ss x).length:=List.length_map ..
   omega
  simp only [List.map_cons,dw,au,R.b0,R.aD,List.set_cons_succ,List.set_cons_zero]
  rw [e]
  simp only [R.b0,R.aD]
  rw [q]
  simp
theorem sD (w:Wb k ns ss) {p:PyData}:p∈ns.flatMap (xh ss)<->p∈ss:=by
 rw [List.mem_flatMap]
 constructor
 ·rintro ⟨x,hx,m⟩
  obtain ⟨a,ha,rfl⟩:=List.mem_map.mp m
  exact (fV w (bA (w.str hx))).mp ha
 ·intro m
  obtain ⟨a,b,rfl,ha,hb⟩:=w.get m
  exact ⟨b,hb,List.mem_map.mpr ⟨a,(fV w (bA (w.str hb))).mpr m,rfl⟩⟩
theorem qG (w:Wb k ns ss):(ns.flatMap (xh ss)).Nodup:=by
 refine List.pairwise_flatMap.mpr ⟨fun x hx=>?_,?_⟩
 ·refine List.pairwise_map.mpr (List.Pairwise.imp (fun {a b} n e=>n ?_) (gu de (gQ w (bA (w.str hx)))))
  simpa using e
 ·refine List.Pairwise.imp (fun {x y} n p hp q hq e=>n ?_) (gu de w.nr)
  obtain ⟨a,_,rfl⟩:=List.mem_map.mp hp
  obtain ⟨b,_,rfl⟩:=List.mem_map.mp hq
  simp at e
  exact e.2
theorem Ao (w:Wb k ns ss) (hk:k < 64) (h:Hm):cN [.dat (.tuple [.tuple ns,.tuple ss])] h=.ok (.dat (.list ss)) h:=by
 have l1:=o5 w.nr
 have l2:=w.le
 obtain ⟨b2,q⟩:=o8 w (by omega) h (xs:=ns) (acc:=[]) (fun x m=>m) (by simp;omega) none
 simp only [List.nil_append] at q
 have ln:(ns.flatMap (xh ss)).length<=ss.length:=fi (qG w) fun p m=>(sD w).mp m
 have sb:∀ p∈ns.flatMap (xh ss),p∈uA:=fun p m=>w.sr.sub p ((sD w).mp m)
 have so:cw (ns.flatMap (xh ss))=true:=qF.Hh sb (by omega)
 have e:bG ltB (ns.flatMap (xh ss))=ss:=xg kn iT (sy kn iT sb (qG w)) w.sr fun d=>(bw _ _).mem_iff.trans (sD w)
 have f:gB (aS (ax gv (ae 0) (aj (.int 0)))) (au 2) An [some (.dat (.tuple [.tuple ns,.tuple ss])),some (.dat (.list [])),none] h=.ok (.nx [some (.dat (.tuple [.tuple ns,.tuple ss])),some (.dat (.list (ns.flatMap (xh ss)))),b2]) h:=mR (xc (by simp)) q
 have g:b8 (ag eZ (aa (ae 1) (ao))) [some (.dat (.tuple [.tuple ns,.tuple ss])),some (.dat (.list (ns.flatMap (xh ss)))),b2] h=.ok (.rt (.dat (.list ss))) h:=by
  simp [eZ,listOf,so,e]
 unfold cN j8 bW
 simp only [List.length_cons,List.length_nil,if_true,List.map_cons,List.map_nil,List.cons_append,List.nil_append,show 3 - 1=2 from rfl,List.replicate]
 rw [cz (ρ1:=[some (.dat (.tuple [.tuple ns,.tuple ss])),some (.dat (.list [])),none]) (h1:=h) (by simp),cz f,g]
 rfl
end
end Ml
namespace Ml
open PySem
theorem jE (n:Nat) (ds:List PyData):MO.below n (.lst (ds.map D.dat))=true:=by
 simp [MO.below,D.below]
theorem vL {n:Nat} {ρ ρ1:Fm} {g:MG} {t:MT} {e:ME} {x y:D} {xs ys:List D} {h h1 h2 h3 h4:Hm} (hg:g x (List.replicate n none++ρ) h=.ok ρ1 h1) (ht:t ρ1 h1=.ok true h2) (he:e ρ1 h2=.ok y h3) (hr:cR n ρ g t e xs h3=.ok ys h4):cR n ρ g t e (x::xs) h=.ok (y::ys) h4:=by
 unfold cR
 rw [hg]
 simp only [R.b0,R.aD]
 rw [ht]
 simp only [R.b0,R.aD,if_true]
 rw [he]
 simp only [R.b0,R.aD]
 rw [hr]
 rfl
abbrev Ap:ME:=zt kE (ae 3) (ag aI (aa (ae 1) (aa (ag fX (aa (ae 3) (ao))) (ao))))
theorem Cu {i k L:Nat} {he h3:Hm} {left:List PyData} {x:D} (hL:he.length=L) (l3:h3.length=L) (hk:k < left.length) (h12:left.length<=12)
  (e2:aI [.ref i,.int (left.length:Int)] (he++[.lst (left.map D.dat)])=.ok (.int k) (h3++[.lst (left.map D.dat)])) :
  Ap [some x,some (.ref i),some (.int 4),some (.ref L),none,none,none,none] (he++[.lst (left.map D.dat)])=.ok (.dat left[k]) (h3++[.lst ((left.eraseIdx k).map D.dat)]):=by
 have g1:(he++[MO.lst (left.map D.dat)])[L]?=some (.lst (left.map D.dat)):=by subst hL;simp
 have g2:(h3++[MO.lst (left.map D.dat)])[L]?=some (.lst (left.map D.dat)):=by subst l3;simp
 have bl:fX [.ref L] (he++[.lst (left.map D.dat)])=.ok (.int (left.length:Int)) (he++[.lst (left.map D.dat)]):=by
  simp [fX,g1]
 have il:Gh (.ref L) (he++[.lst (left.map D.dat)])=true:=by simp [Gh,g1]
 have mp:kE (.ref L) (.int (k:Int)) (h3++[.lst (left.map D.dat)])=.ok (.dat left[k]) (h3++[.lst ((left.eraseIdx k).map D.dat)]):=by
  have c:(0:Int)<=k/\(k:Int) < (left.map D.dat).length/\(k:Int) < 1000000:=by simp;omega
  have st:(h3++[MO.lst (left.map D.dat)]).set L (.lst ((left.map D.dat).eraseIdx k))=h3++[.lst ((left.eraseIdx k).map D.dat)]:=by
   subst l3
   rw [List.set_append_right _ _ (Nat.le_refl _)]
   simp [List.eraseIdx_eq_take_drop_succ]
  simp only [kE,g2,if_pos c,Int.toNat_natCast,List.getElem?_map,List.getElem?_eq_getElem hk,Option.map_some,st]
 unfold Ap
 simp only [zt,ag,aa,ao,ae,R.aD,List.getElem?_cons_zero,List.getElem?_cons_succ,il,if_true,bl,e2,mp]
theorem GD {i L:Nat}:∀ {xs:List D} {left:List PyData} {he:Hm},Bx i he->he.length=L->xs.length<=left.length->left.length<=12 ->
  ∃ (he':Hm) (out left':List PyData),cR 1 [some (.ref i),some (.int 4),some (.ref L),none,none,none,none] (au 0) dC Ap xs (he++[.lst (left.map D.dat)])=.ok (out.map D.dat) (he'++[.lst (left'.map D.dat)])/\Bs i he he'/\out.length=xs.length/\(out++left').Perm left
 | [],left,he,b,_,_,_=>⟨he,[],left,rfl,b.refl,rfl,List.Perm.refl _⟩
 | x::xs,left,he,b,hL,hl,h12=>by
  simp only [List.length_cons] at hl
  have bp:Bx i (he++[.lst (left.map D.dat)]):=b.push (jE _ _)
  obtain ⟨_,h2,e2,s2,k,rfl,hk⟩:=mQ bp (c:=(left.length:Int)) (by omega) (by omega)
  obtain ⟨h3,rfl,s3⟩:=s2.pop b.lt
  have b3:=s3.bx b
  have l3:h3.length=L:=by rw [s3.len,hL]
  have hk':k < left.length:=by omega
  have ll:=List.length_eraseIdx_of_lt hk'
  obtain ⟨he',out,left',q1,q2,q3,q4⟩:=GD (i:=i) (L:=L) (xs:=xs) (left:=left.eraseIdx k) (he:=h3) b3 l3 (by omega) (by omega)
  have ep:=Cu (x:=x) hL l3 hk' h12 e2
  refine ⟨he',left[k]::out,left',?_,s3.trans q2,by simp [q3],?_⟩
  ·exact vL (by rfl) (by rfl) ep q1
  ·exact (List.Perm.cons _ q4).trans (gp.dN hk')
theorem o9 {one:PyData}:∀ {ls:List PyData} {ys:List D},PySem.Paired (fun x y=>∃ d,x=.dat d/\y=.dat (.tuple [one,d])) (ls.map D.dat) ys->ys=(ls.map fun y=>PyData.tuple [one,y]).map D.dat
 | [],ys,h=>by
  cases h
  rfl
 | l::ls,ys,h=>by
  cases h with
  | cons a b=>
   obtain ⟨d,e,rfl⟩:=a
   cases e
   rw [o9 b]
   rfl
theorem Aq {i:Nat} {h:Hm} (b:Bx i h) {ns:List PyData} {s:Int} {one:PyData} (hz:ns.length<=16777216) {ρ:Fm} (e3:∀ h,aS (ae 3) ρ h=.ok (ns.map D.dat) h) (e0:ρ[0]?=some (some (.ref i))) (e4:ρ[4]?=some (some (.int s))) (e6:ρ[6]?=some (some (.dat one))) :
  Dr i h (b9 1 (aS (ae 3)) (au 0) (aO (ax oLt (ag aI (aa (ae 1) (aa (aj (.int 8)) (ao)))) (ae 5))) (jo (aa (ae 7) (aa (ae 0) (ao)))) ρ h) fun d=>∃ ls:List PyData,d=.dat (.list (ls.map fun y=>.tuple [one,y]))/\ls.Sublist ns:=by
 unfold b9
 obtain ⟨ys,zs,h',q1,q2,q3,q4⟩:=jD (n:=1) (ρ:=ρ) (g:=au 0) (t:=aO (ax oLt (ag aI (aa (ae 1) (aa (aj (.int 8)) (ao)))) (ae 5))) (e:=jo (aa (ae 7) (aa (ae 0) (ao)))) (Bs i h) (fun x y=>∃ d,x=.dat d/\y=.dat (.tuple [one,d])) (xs:=ns.map D.dat) (h:=h) (fun x hx h1 s1=>by
  obtain ⟨d,hd,rfl⟩:=List.mem_map.mp hx
  obtain ⟨_,h2,e2,s2,k,rfl,hk⟩:=mQ (s1.bx b) (c:=8) (by decide) (by decide)
  refine ⟨some (.dat d)::ρ,h1,decide ((k:Int) < s),h2,rfl,?_,?_⟩
  ·simp [e0,e2,e4,r6]
  ·cases hc:decide ((k:Int) < s) with
   | false=>exact .inl ⟨rfl,s1.trans s2⟩
   | true=>exact .inr ⟨rfl,.dat (.tuple [one,d]),h2,by simp [e6],⟨d,rfl,rfl⟩,s1.trans s2⟩) b.refl
 obtain ⟨ls,rfl,sl⟩:=Co q3
 rw [o9 q4] at q1
 have ea:jU 1 (aS (ae 3)) (au 0) (aO (ax oLt (ag aI (aa (ae 1) (aa (aj (.int 8)) (ao)))) (ae 5))) (jo (aa (ae 7) (aa (ae 0) (ao)))) ρ h=.ok ((ls.map fun y=>PyData.tuple [one,y]).map D.dat) h':=by
  unfold jU
  rw [e3]
  simp only [R.aD,List.length_map,sz hz,if_true]
  exact q1
 refine ⟨.dat (.list (ls.map fun y=>.tuple [one,y])),h',?_,q2,ls,rfl,sl⟩
 rw [bK ea]
 exact cQ _ h' (by rw [List.length_map];exact Nat.le_trans sl.length_le hz)
end Ml
namespace Ml
open PySem
abbrev Ar:MS:=df 5 (ax eY (ae 5) (b9 1 (aS (ae 3)) (au 0) (aO (ax oLt (ag aI (aa (ae 1) (aa (aj (.int 8)) (ao)))) (ae 5))) (jo (aa (ae 7) (aa (ae 0) (ao))))))
structure Pw (pre ns acc:List PyData):Prop where
 ris:acc.Pairwise fun a b=>ltB a b=true
 mem:∀ p∈acc,∃ a b,p=.tuple [a,b]/\a∈pre/\b∈ns
 len:acc.length<=pre.length * ns.length
theorem Dd {a b:PyData} (t:af a=true) (h:ltB a b=true):a≠b:=fun e=>by
 subst e
 have:=rf t
 unfold ltB at h
 rw [this] at h
 cases h
theorem E0 {x a b:PyData} (tx:af x=true) (ta:af a=true) (tb:af b=true) (h:ltB a b=true):ltB (.tuple [x,a]) (.tuple [x,b])=true:=by
 have n:=aR ta tb (Dd ta h)
 simpa [ltB,bf,bV,aH tx,n] using h
theorem Cv {a b x y:PyData} (ta:af a=true) (tb:af b=true) (h:ltB a b=true):ltB (.tuple [a,x]) (.tuple [b,y])=true:=by
 have n:=aR ta tb (Dd ta h)
 simpa [ltB,bf,bV,n] using h
theorem Pw.step {pre ns acc ls xs:List PyData} {one:PyData} (r:Rw cS ns) (e:ns=pre++one::xs) (P:Pw pre ns acc) (sl:ls.Sublist ns):Pw (pre++[one]) ns (acc++ls.map fun y=>.tuple [one,y]):=by
 have tr:∀ d∈ns,af d=true:=fun d m=>aF de (r.sub d m)
 have ho:one∈ns:=by rw [e];simp
 have hp:∀ a∈pre,a∈ns:=fun a m=>by rw [e];simp [m]
 refine ⟨List.pairwise_append.mpr ⟨P.ris,List.pairwise_map.mpr (List.Pairwise.imp_of_mem (fun {a b} ha hb l=>E0 (tr one ho) (tr a (sl.subset ha)) (tr b (sl.subset hb)) l) (r.ris.sublist sl)),fun p hp' q hq=>?_⟩,fun p m=>?_,?_⟩
 ·obtain ⟨a,b,rfl,ha,hb⟩:=P.mem p hp'
  obtain ⟨y,hy,rfl⟩:=List.mem_map.mp hq
  have rr:=r.ris
  rw [e] at rr
  exact Cv (tr a (hp a ha)) (tr one ho) ((List.pairwise_append.mp rr).2.2 a ha one (by simp))
 ·rcases List.mem_append.mp m with z | z
  ·obtain ⟨a,b,rfl,ha,hb⟩:=P.mem p z
   exact ⟨a,b,rfl,by simp [ha],hb⟩
  ·obtain ⟨y,hy,rfl⟩:=List.mem_map.mp z
   exact ⟨one,y,rfl,by simp,sl.subset hy⟩
 ·have l1:=P.len
  have l2:=sl.length_le
  simp only [List.length_append,List.length_map,List.length_cons,List.length_nil,Nat.add_mul]
  omega
theorem De {i L:Nat} {ns:List PyData} {s:Int} (r:Rw cS ns):∀ {xs pre acc:List PyData} {h:Hm},ns=pre++xs->Bx i h->Pw pre ns acc->∀ a6:Option D,Dr i h (dw (au 6) Ar (xs.map D.dat) [some (.ref i),some (.int 4),some (.ref L),some (.dat (.list ns)),some (.int s),some (.dat (.list acc)),a6] h) fun f=>∃ (acc':List PyData) (b6:Option D),f=.nx [some (.ref i),some (.int 4),some (.ref L),some (.dat (.list ns)),some (.int s),some (.dat (.list acc')),b6]/\Pw ns ns acc'
 | [],pre,acc,h,e,b,P,a6=>by
  have e':ns=pre:=by simpa using e
  exact Dr.ok b ⟨acc,a6,rfl,by rw [<- e'] at P;exact P⟩
 | x::xs,pre,acc,h,e,b,P,a6=>by
  have l12:=o5 r
  obtain ⟨_,h2,e2,s2,ls,rfl,sl⟩:=Aq (h:=h) b (ns:=ns) (s:=s) (one:=x) (ρ:=[some (.ref i),some (.int 4),some (.ref L),some (.dat (.list ns)),some (.int s),some (.dat (.list acc)),some (.dat x)]) (by omega) (fun h=>by simp) rfl rfl rfl
  have P2:=P.step r e sl
  obtain ⟨f,h3,e3,s3,k⟩:=De (L:=L) (s:=s) r (xs:=xs) (pre:=pre++[x]) (acc:=acc++ls.map fun y=>.tuple [x,y]) (by simp [e]) (s2.bx b) P2 (some (.dat x))
  refine ⟨f,h3,?_,s2.trans s3,k⟩
  have ea:ae 5 [some (.ref i),some (.int 4),some (.ref L),some (.dat (.list ns)),some (.int s),some (.dat (.list acc)),some (.dat x)] h=.ok (.dat (.list acc)) h:=by simp
  have lp:acc.length+(ls.map fun y=>PyData.tuple [x,y]).length<=16777216:=by
   have l1:=P2.len
   have l3:(pre++[x]).length<=12:=by
    have:(pre++x::xs).length<=12:=e▸l12
    simp only [List.length_append,List.length_cons,List.length_nil] at this ⊢
    omega
   have l4:(pre++[x]).length * ns.length<=12 * 12:=Nat.mul_le_mul l3 l12
   simp only [List.length_append] at l1 l4 ⊢
   omega
  have eb:Ar [some (.ref i),some (.int 4),some (.ref L),some (.dat (.list ns)),some (.int s),some (.dat (.list acc)),some (.dat x)] h=.ok (.nx [some (.ref i),some (.int 4),some (.ref L),some (.dat (.list ns)),some (.int s),some (.dat (.list (acc++ls.map fun y=>.tuple [x,y]))),some (.dat x)]) h2:=
   (km (fT ea e2 (oY h2 lp))).trans rfl
  simp only [List.map_cons,dw,au,R.b0,R.aD,List.set_cons_succ,List.set_cons_zero]
  rw [eb]
  simp only [R.b0,R.aD]
  exact e3
theorem IX:Rw cS cS:=⟨fun _ m=>m,vJ iB de (fun _ m=>m) Cp⟩
theorem sE {i:Nat} {h:Hm} (b:Bx i h):Dr i h (bq [.ref i,.int 4] h) fun d=>∃ ns ss:List PyData,d=.dat (.tuple [.tuple ns,.tuple ss])/\Wb 16 ns ss:=by
 have b1:Bx i (h++[.lst (cS.map D.dat)]):=b.push (jE _ _)
 obtain ⟨_,h2',e2,s2',c,rfl,hc⟩:=mQ b1 (c:=5) (by decide) (by decide)
 obtain ⟨h2,rfl,s2⟩:=s2'.pop b.lt
 have b2:=s2.bx b
 obtain ⟨h3,out,left,q1,q2,q3,q4⟩:=GD (i:=i) (L:=h.length) (xs:=nums 0 c) (left:=cS) (he:=h2) b2 s2.len (by simp [nums,cS];omega) (by decide)
 have on:out.length=c:=by simpa [nums] using q3
 have onm:∀ d∈out,d∈cS:=fun d m=>q4.mem_iff.mp (List.mem_append_left _ m)
 have ond:out.Nodup:=(List.nodup_append.mp (q4.nodup_iff.mpr (gu de IX))).1
 have rn:Rw cS (bG ltB out):=sy iB de onm ond
 have so:cw out=true:=jf.Hh onm (by omega)
 have nl:(bG ltB out).length=c:=by rw [(bw _ _).length_eq,on]
 have b3:Bx i h3:=q2.bx b2
 have b3':Bx i (h3++[.lst (left.map D.dat)]):=b3.push (jE _ _)
 obtain ⟨_,h4,e4,s4,u,rfl,hu⟩:=mQ b3' (c:=4) (by decide) (by decide)
 obtain ⟨sh,esh⟩:∃ s:Int,jF [PyData.int 1,.int 2,.int 3,.int 5] (u:Int)=some (.int s):=by
  obtain ⟨x,ex,mx⟩:=Cn (xs:=[PyData.int 1,.int 2,.int 3,.int 5]) (k:=u) (by simp;omega)
  simp only [List.mem_cons,List.not_mem_nil,or_false] at mx
  rcases mx with rfl | rfl | rfl | rfl<;>exact ⟨_,ex⟩
 obtain ⟨_,h5,e5,s5,ss,b6,rfl,P⟩:=De (i:=i) (L:=h.length) (s:=sh) rn (xs:=bG ltB out) (pre:=[]) (acc:=[]) rfl (s4.bx b3') ⟨.nil,by simp,by simp⟩ none
 have s45:Bs i (h3++[.lst (left.map D.dat)]) h5:=s4.trans s5
 obtain ⟨h6,rfl,s6⟩:=s45.pop b3.lt
 have ra:jU 1 (fz (aa (ag aI (aa (ae 0) (aa (ax eY (ae 1) (aj (.int 1))) (ao)))) (ao))) (au 0) (dC) Ap [some (.ref i),some (.int 4),some (.ref h.length),none,none,none,none] (h++[.lst (cS.map D.dat)])=.ok (out.map D.dat) (h3++[.lst (left.map D.dat)]):=by
  have e1:aa (ag aI (aa (ae 0) (aa (ax eY (ae 1) (aj (.int 1))) (ao)))) (ao) [some (.ref i),some (.int 4),some (.ref h.length),none,none,none,none] (h++[.lst (cS.map D.dat)])=.ok [.dat (.int (c:Int))] (h2++[.lst (cS.map D.dat)]):=by
   have:=e2
   simp [this]
  unfold jU
  rw [oZ e1 (by omega)]
  simp only [R.aD]
  rw [if_pos (by simp [nums,sz (show c<=16777216 by omega)])]
  exact q1
 have t1:df 2 (xN (aa (aj (.str "a")) (aa (aj (.str "aa")) (aa (aj (.str "ab")) (aa (aj (.str "abcdef")) (aa (aj (.str "b")) (aa (aj (.str "c")) (aa (aj (.str "d")) (aa (aj (.str "e")) (aa (aj (.str "m")) (aa (aj (.str "x")) (aa (aj (.str "zz")) (aa (aj (.str "zzzzzz")) (ao)))))))))))))) [some (.ref i),some (.int 4),none,none,none,none,none] h=.ok (.nx [some (.ref i),some (.int 4),some (.ref h.length),none,none,none,none]) (h++[.lst (cS.map D.dat)]):=rfl
 have t2:df 3 (ag eZ (aa (b9 1 (fz (aa (ag aI (aa (ae 0) (aa (ax eY (ae 1) (aj (.int 1))) (ao)))) (ao))) (au 0) (dC) Ap) (ao))) [some (.ref i),some (.int 4),some (.ref h.length),none,none,none,none] (h++[.lst (cS.map D.dat)])=.ok (.nx [some (.ref i),some (.int 4),some (.ref h.length),some (.dat (.list (bG ltB out))),none,none,none]) (h3++[.lst (left.map D.dat)]):=by
  have m1:=(bK (f:=gj) ra).trans (cQ out _ (by omega))
  have m2:eZ [.dat (.list out)] (h3++[.lst (left.map D.dat)])=.ok (.dat (.list (bG ltB out))) (h3++[.lst (left.map D.dat)]):=by simp [eZ,listOf,so]
  exact (km ((bK (aN m1 rfl)).trans m2)).trans rfl
 have t3:uY (jk (cq (au 4) (cq (au 5) (jj)))) (jo (aa (ax gv (aj (.list [.int 1,.int 2,.int 3,.int 5])) (ag aI (aa (ae 0) (aa (aj (.int 4)) (ao))))) (aa (aj (.list [])) (ao)))) [some (.ref i),some (.int 4),some (.ref h.length),some (.dat (.list (bG ltB out))),none,none,none] (h3++[.lst (left.map D.dat)])=.ok (.nx [some (.ref i),some (.int 4),some (.ref h.length),some (.dat (.list (bG ltB out))),some (.int sh),some (.dat (.list [])),none]) h4:=by
  have:=e4
  simp [this,esh]
 have t4:gB (aS (ae 3)) (au 6) Ar [some (.ref i),some (.int 4),some (.ref h.length),some (.dat (.list (bG ltB out))),some (.int sh),some (.dat (.list [])),none] h4=.ok (.nx [some (.ref i),some (.int 4),some (.ref h.length),some (.dat (.list (bG ltB out))),some (.int sh),some (.dat (.list ss)),b6]) (h6++[.lst (left.map D.dat)]):=mR (mS (by simp)) e5
 have t5:b8 (jo (aa (ag fY (aa (ae 3) (ao))) (aa (ag fY (aa (ae 5) (ao))) (ao)))) [some (.ref i),some (.int 4),some (.ref h.length),some (.dat (.list (bG ltB out))),some (.int sh),some (.dat (.list ss)),b6] (h6++[.lst (left.map D.dat)])=.ok (.rt (.dat (.tuple [.tuple (bG ltB out),.tuple ss]))) (h6++[.lst (left.map D.dat)]):=by
  simp [fY,listOf]
 have run:ib [.ref i,.int 4] h=.ok (.dat (.tuple [.tuple (bG ltB out),.tuple ss])) (h6++[.lst (left.map D.dat)]):=by
  unfold ib lQ bW
  simp only [List.length_cons,List.length_nil,if_true,List.map_cons,List.map_nil,List.cons_append,List.nil_append,show 7 - 2=5 from rfl,List.replicate]
  rw [cz t1,cz t2,cz t3,cz t4,t5]
  rfl
 refine ⟨_,h6,Ah b run ((s2.trans q2).trans s6),(s2.trans q2).trans s6,bG ltB out,ss,rfl,rn,⟨fun p m=>?_,P.ris⟩,fun x y m=>?_,?_⟩
 ·obtain ⟨x,y,rfl,hx,hy⟩:=P.mem p m
  exact o3.mpr ⟨x,y,rn.sub x hx,rn.sub y hy,rfl⟩
 ·obtain ⟨x',y',e,hx,hy⟩:=P.mem _ m
  simp only [PyData.tuple.injEq,List.cons.injEq,and_true] at e
  obtain ⟨rfl,rfl⟩:=e
  exact ⟨hx,hy⟩
 ·refine Nat.le_trans P.len ?_
  rw [nl]
  exact Nat.mul_le_mul (show c<=4 by omega) (show c<=4 by omega)
end Ml
namespace Ml
open PySem
theorem pb {ds:List PyData} (t:ah ds=true) (l:PyData.depthAll ds<=20) (h:Hm):mE (.dat (.list ds)) (.dat (.list ds)) h=.ok (.bool false) h:=by
 have e:PyData.eqvAll ds ds=true:=(kF t t).mpr rfl
 have d:PyData.depthAll ds+1<=40:=by omega
 simp [mE,sI,eqQ,noDict,PyData.hasDict,dD t,PyData.depth,d,PyData.eqv,e]
theorem Cw {n m:Nat} {d:PyData} {ns:List PyData} (o:Ok n m d) (h:cX ns eQ=true) (hm:Hm):nB (.dat d) (.dat (.list ns)) hm=.ok (.bool (!Cj ns d)) hm:=by
 simp [nB,findIn,hX,iF,sI,r9 o h]
abbrev Hi:MS:=lq (uG (aO (ax nW (ag eK (aa (ae 5) (ao))) (aj (.bool true)))) (aO (ax mE (ag cN (aa (ae 5) (ao))) (ag p9 (aa (ax gv (ae 5) (aj (.int 1))) (ao)))))) (b8 (aj (.bool false))) (cu)
theorem vM {k:Nat} {ns ss:List PyData} (w:Wb k ns ss) (hk:k < 64) (h:Hm) (a0 a1 a2 a3 a4 a6 a7:Option D):Hi [a0,a1,a2,a3,a4,some (.dat (.tuple [.tuple ns,.tuple ss])),a6,a7] h=.ok (.nx [a0,a1,a2,a3,a4,some (.dat (.tuple [.tuple ns,.tuple ss])),a6,a7]) h:=by
 have e1:=Aj w (by omega) h
 have e2:=Ao w hk h
 have l:=w.le
 have dp:PyData.depthAll ss<=20:=Nat.le_trans (cv fun d m=>qF.dep d (w.sr.sub d m)) (by decide)
 have e3:=pb (fq iT w.sr.sub) dp h
 have e4:p9 [.dat (.tuple ss)] h=.ok (.dat (.list ss)) h:=by simp [p9,hX,qZ,sz (show ss.length<=16777216 by omega)]
 unfold Hi
 simp [e1,e2,e3,e4,nW,nV,Ic]
theorem Dg {b:MS} {h:Hm} {a0 a1 a2 a3 a4 a6 a7:Option D}:∀ {ds:List PyData},(∀ d∈ds,b [a0,a1,a2,a3,a4,some (.dat d),a6,a7] h=.ok (.nx [a0,a1,a2,a3,a4,some (.dat d),a6,a7]) h)->∀ {a5:Option D},∃ b5,dw (au 5) b (ds.map D.dat) [a0,a1,a2,a3,a4,a5,a6,a7] h=.ok (.nx [a0,a1,a2,a3,a4,b5,a6,a7]) h
 | [],_,a5=>⟨a5,rfl⟩
 | d::ds,H,a5=>by
  obtain ⟨b5,q⟩:=Dg (ds:=ds) (fun e m=>H e (by simp [m])) (a5:=some (.dat d))
  refine ⟨b5,?_⟩
  simp only [List.map_cons,dw,au,R.b0,R.aD,List.set_cons_succ,List.set_cons_zero]
  rw [H d (by simp)]
  simp only [R.b0,R.aD]
  exact q
theorem As {b:MS} {h:Hm} {a0 a1 a2 a3 a4 a5:Option D}:∀ {ds:List PyData},(∀ d∈ds,∀ a7,∃ b7,b [a0,a1,a2,a3,a4,a5,some (.dat d),a7] h=.ok (.nx [a0,a1,a2,a3,a4,a5,some (.dat d),b7]) h)->∀ {a6 a7:Option D},∃ b6 b7,dw (au 6) b (ds.map D.dat) [a0,a1,a2,a3,a4,a5,a6,a7] h=.ok (.nx [a0,a1,a2,a3,a4,a5,b6,b7]) h
 | [],_,a6,a7=>⟨a6,a7,rfl⟩
 | d::ds,H,a6,a7=>by
  obtain ⟨c7,e⟩:=H d (by simp) a7
  obtain ⟨b6,b7,q⟩:=As (ds:=ds) (fun e m=>H e (by simp [m])) (a6:=some (.dat d)) (a7:=c7)
  refine ⟨b6,b7,?_⟩
  simp only [List.map_cons,dw,au,R.b0,R.aD,List.set_cons_succ,List.set_cons_zero]
  rw [e]
  simp only [R.b0,R.aD]
  exact q
def IY:PyData->List PyData
 | .tuple [_,.tuple ss]=>ss
 | _=>[]
abbrev yg:ME:=GN (aO (ax CP (ae 7) (ax gv (ae 0) (aj (.int 0))))) (ag aU (aa (ae 0) (aa (ae 7) (ao)))) (aj (.list []))
theorem xi {k:Nat} {ns ss:List PyData} (w:Wb k ns ss) (hk:k < 64) {x:PyData} (hx:x∈cS) (h:Hm) (a0 a1 a2 a3 a4 a5 a7:Option D):yg [some (.dat (.tuple [.tuple ns,.tuple ss])),a0,a1,a2,a3,a4,a5,some (.dat x),a7] h=.ok (.dat (.list (gR ss x))) h:=by
 have o:Ok 6 0 x:=oX (iS x hx).1
 by_cases m:x∈ns
 ·have i:=(iR w.sd).mpr m
  unfold yg
  simp [si o w.sd,i,fU w (by omega) m h]
 ·have i:Cj ns x=false:=by
   cases e:Cj ns x with
   | false=>rfl
   | true=>exact absurd ((iR w.sd).mp e) m
  have n:gR ss x=[]:=List.eq_nil_iff_forall_not_mem.mpr fun a ha=>m (w.cl a x ((fV w (bA (bL hx))).mp ha)).2
  unfold yg
  simp [si o w.sd,i,n]
abbrev Hj:MS:=bQ (df 7 (b9 1 (aS (pF (aa (ae 1) (aa (ae 2) (ao))))) (au 0) (dC) yg))
  (bQ (lq (aO (ax mE (ag aU (aa (ae 4) (aa (ae 6) (ao)))) (ag dJ (aa (ax eY (ax gv (ae 7) (aj (.int 0))) (ax gv (ae 7) (aj (.int 1)))) (ao))))) (b8 (aj (.bool false))) (cu))
  (lq (aO (ax mE (b9 1 (aS (ag eL (aa (ae 4) (aa (ae 6) (ao))))) (au 0) (aO (ax nB (ae 7) (ag aU (aa (ae 5) (aa (ae 0) (ao)))))) (ae 0)) (aj (.list [])))) (b8 (aj (.bool false))) (cu)))
section
variable {k1 k2:Nat} {n1 s1 n2 s2:List PyData}
theorem E1 (w1:Wb k1 n1 s1) (w2:Wb k2 n2 s2) {x:PyData} (hx:af x=true):gR (un s1 s2) x=un (gR s1 x) (gR s2 x):=by
 have r1:=gQ w1 hx
 have r2:=gQ w2 hx
 obtain ⟨u1,u2,_⟩:=uB jf r1.sub r2.sub
 refine xg iB de (gQ (gW w1 w2) hx) u1 fun a=>?_
 rw [fV (gW w1 w2) hx,(gP w1 w2).2,u2,fV w1 hx,fV w2 hx]
theorem vN {xs ys:List PyData} (r:∀ d∈xs,d∈cS) (q:∀ d∈ys,d∈cS) (l:xs.length+ys.length < 64) (h:Hm):dJ [.dat (.list (xs++ys))] h=.ok (.dat (.list (un xs ys))) h:=by
 obtain ⟨h1,h2,h3⟩:=Al jf r q
 have s2:setOk (xs++ys)=true:=jf.set (fun d m=>(List.mem_append.mp m).elim (r d) (q d)) (by simp;omega)
 have s3:cw (dX (xs++ys))=true:=jf.Hh (xs:=uE xs ys) (fun d m=>((h1 d).mp m).elim (r d) (q d)) (by omega)
 simp only [dJ,gn,listOf,s2,s3,Bool.and_self,if_true,un,uE]
theorem E3 (w1:Wb k1 n1 s1) (w2:Wb k2 n2 s2) (hk:k1+k2 < 64) {x:PyData} (hx:x∈un n1 n2) (h:Hm) (a0 a3 a5 a7:Option D):∃ b7,Hj [a0,some (.dat (.tuple [.tuple n1,.tuple s1])),some (.dat (.tuple [.tuple n2,.tuple s2])),a3,some (.dat (.tuple [.tuple (un n1 n2),.tuple (un s1 s2)])),a5,some (.dat x),a7] h=.ok (.nx [a0,some (.dat (.tuple [.tuple n1,.tuple s1])),some (.dat (.tuple [.tuple n2,.tuple s2])),a3,some (.dat (.tuple [.tuple (un n1 n2),.tuple (un s1 s2)])),a5,some (.dat x),b7]) h:=by
 have wu:=gW w1 w2
 have x12:x∈cS:=wu.nr.sub x hx
 have tx:af x=true:=bA (bL x12)
 have o:Ok 6 0 x:=oX (iS x x12).1
 have l1:=sC w1 x
 have l2:=sC w2 x
 have l3:=Ct wu x
 have r1:=gQ w1 tx
 have r2:=gQ w2 tx
 have t1:df 7 (b9 1 (aS (pF (aa (ae 1) (aa (ae 2) (ao))))) (au 0) (dC) yg) [a0,some (.dat (.tuple [.tuple n1,.tuple s1])),some (.dat (.tuple [.tuple n2,.tuple s2])),a3,some (.dat (.tuple [.tuple (un n1 n2),.tuple (un s1 s2)])),a5,some (.dat x),a7] h=.ok (.nx [a0,some (.dat (.tuple [.tuple n1,.tuple s1])),some (.dat (.tuple [.tuple n2,.tuple s2])),a3,some (.dat (.tuple [.tuple (un n1 n2),.tuple (un s1 s2)])),a5,some (.dat x),some (.dat (.list [.list (gR s1 x),.list (gR s2 x)]))]) h:=by
  have key:=fj (n:=1) (it:=aS (pF (aa (ae 1) (aa (ae 2) (ao))))) (g:=au 0) (e:=yg) (ρ:=[a0,some (.dat (.tuple [.tuple n1,.tuple s1])),some (.dat (.tuple [.tuple n2,.tuple s2])),a3,some (.dat (.tuple [.tuple (un n1 n2),.tuple (un s1 s2)])),a5,some (.dat x),a7]) (h:=h) (h1:=h) (ds:=[.tuple [.tuple n1,.tuple s1],.tuple [.tuple n2,.tuple s2]]) (mS (by unfold pF;exact (bK (aN rfl (aN rfl rfl))).trans (cQ [_,_] h (by simp)))) (by simp) (fun W=>.list (gR (IY W) x)) (fun W hW=>by
   simp only [List.mem_cons,List.not_mem_nil,or_false] at hW
   rcases hW with rfl | rfl
   ·exact ⟨_,rfl,xi w1 (by omega) x12 h _ _ _ _ _ _ _⟩
   ·exact ⟨_,rfl,xi w2 (by omega) x12 h _ _ _ _ _ _ _⟩)
  exact (km key).trans rfl
 have dp:PyData.depthAll (gR (un s1 s2) x)<=20:=Nat.le_trans (cv fun d m=>jf.dep d ((gQ wu tx).sub d m)) (by decide)
 have ne:=pb (fq de (gQ wu tx).sub) dp h
 have t2:aO (ax mE (ag aU (aa (ae 4) (aa (ae 6) (ao)))) (ag dJ (aa (ax eY (ax gv (ae 7) (aj (.int 0))) (ax gv (ae 7) (aj (.int 1)))) (ao)))) [a0,some (.dat (.tuple [.tuple n1,.tuple s1])),some (.dat (.tuple [.tuple n2,.tuple s2])),a3,some (.dat (.tuple [.tuple (un n1 n2),.tuple (un s1 s2)])),a5,some (.dat x),some (.dat (.list [.list (gR s1 x),.list (gR s2 x)]))] h=.ok false h:=by
  have e1:=fU wu (by omega) hx h
  have e2:=vN r1.sub r2.sub (by omega) h
  have e3:=oY (xs:=gR s1 x) (ys:=gR s2 x) h (by omega)
  rw [<- E1 w1 w2 tx] at e2
  simp [e1,e2,e3,ne]
 have t3:aO (ax mE (b9 1 (aS (ag eL (aa (ae 4) (aa (ae 6) (ao))))) (au 0) (aO (ax nB (ae 7) (ag aU (aa (ae 5) (aa (ae 0) (ao)))))) (ae 0)) (aj (.list []))) [a0,some (.dat (.tuple [.tuple n1,.tuple s1])),some (.dat (.tuple [.tuple n2,.tuple s2])),a3,some (.dat (.tuple [.tuple (un n1 n2),.tuple (un s1 s2)])),a5,some (.dat x),some (.dat (.list [.list (gR s1 x),.list (gR s2 x)]))] h=.ok false h:=by
  have key:=kY (n:=1) (it:=aS (ag eL (aa (ae 4) (aa (ae 6) (ao))))) (g:=au 0) (t:=aO (ax nB (ae 7) (ag aU (aa (ae 5) (aa (ae 0) (ao)))))) (e:=ae 0) (ρ:=[a0,some (.dat (.tuple [.tuple n1,.tuple s1])),some (.dat (.tuple [.tuple n2,.tuple s2])),a3,some (.dat (.tuple [.tuple (un n1 n2),.tuple (un s1 s2)])),a5,some (.dat x),some (.dat (.list [.list (gR s1 x),.list (gR s2 x)]))]) (h:=h) (h1:=h) (ds:=Dc (un s1 s2) x) (mS (by simp [yf wu (by omega) hx h])) (by omega) (fun _=>false) id (fun y hy=>by
   have my:=(Cs wu tx).mp hy
   have hy':=(wu.cl x y my).2
   have ty:af y=true:=bA (wu.str hy')
   have e1:=fU wu (by omega) hy' h
   have st:cX (gR (un s1 s2) y) eQ=true:=bZ.mpr fun d m=>bL ((gQ wu ty).sub d m)
   have i:=(iR st).mpr ((fV wu ty).mpr my)
   have e2:=Cw o st h
   rw [i] at e2
   exact ⟨_,rfl,by simp [e1,e2],fun z=>by cases z⟩)
  have f0:(Dc (un s1 s2) x).filter (fun _=>false)=[]:=by simp
  rw [f0] at key
  have n0:=pb (ds:=[]) rfl (by simp [PyData.depthAll]) h
  exact gq (fT key rfl n0)
 refine ⟨some (.dat (.list [.list (gR s1 x),.list (gR s2 x)])),?_⟩
 unfold Hj
 rw [cz t1,cz ((xb t2).trans rfl),xb t3]
 rfl
end
end Ml
namespace Ml
open PySem
theorem vO:Wb 0 [] []:=⟨⟨fun _ m=>(by cases m),.nil⟩,⟨fun _ m=>(by cases m),.nil⟩,fun _ _ m=>(by cases m),Nat.le_refl _⟩
theorem Cy {i:Nat} {h:Hm} (b:Bx i h):Dr i h (cO [.ref i] h) fun d=>d=.bool true:=by
 obtain ⟨_,ha,ea,sa,n1,s1,rfl,w1⟩:=sE b
 have ba:=sa.bx b
 obtain ⟨_,hb,eb,sb,n2,s2,rfl,w2⟩:=sE ba
 have bb:=sb.bx ba
 obtain ⟨_,hc,ec,sc,n3,s3,rfl,w3⟩:=sE bb
 have w12:=gW w1 w2
 have w21:=gW w2 w1
 have w23:=gW w2 w3
 have wl:=gW w12 w3
 have wr:=gW w1 w23
 have w11:=gW w1 w1
 have w121:=gW w12 w1
 have w01:=gW vO w1
 have m12:=gP w1 w2
 have m21:=gP w2 w1
 have m23:=gP w2 w3
 have ml:=gP w12 w3
 have mr:=gP w1 w23
 have m11:=gP w1 w1
 have m121:=gP w12 w1
 have m01:=gP vO w1
 have g12:=iC w1 w2 (by decide) hc
 have g21:=iC w2 w1 (by decide) hc
 have g23:=iC w2 w3 (by decide) hc
 have gl:=iC w12 w3 (by decide) hc
 have gr:=iC w1 w23 (by decide) hc
 have g11:=iC w1 w1 (by decide) hc
 have g121:=iC w12 w1 (by decide) hc
 have g01:=iC vO w1 (by decide) hc
 have c1:=o7 w12 w21 (fun d=>by rw [m12.1,m21.1,or_comm]) (fun d=>by rw [m12.2,m21.2,or_comm]) hc
 have c2:=o7 wl wr (fun d=>by rw [ml.1,mr.1,m12.1,m23.1,or_assoc]) (fun d=>by rw [ml.2,mr.2,m12.2,m23.2,or_assoc]) hc
 have c3:=o7 w11 w1 (fun d=>by rw [m11.1,or_self]) (fun d=>by rw [m11.2,or_self]) hc
 have c4:=o7 w121 w12 (fun d=>by rw [m121.1,m12.1];exact ⟨fun z=>z.elim id .inl,.inl⟩) (fun d=>by rw [m121.2,m12.2];exact ⟨fun z=>z.elim id .inl,.inl⟩) hc
 have c5:=o7 w01 w1 (fun d=>by rw [m01.1];simp) (fun d=>by rw [m01.2];simp) hc
 obtain ⟨b5,e5⟩:=Dg (b:=Hi) (h:=hc) (a0:=some (.ref i)) (a1:=some (.dat (.tuple [.tuple n1,.tuple s1]))) (a2:=some (.dat (.tuple [.tuple n2,.tuple s2]))) (a3:=some (.dat (.tuple [.tuple n3,.tuple s3]))) (a4:=some (.dat (.tuple [.tuple (un n1 n2),.tuple (un s1 s2)]))) (a6:=none) (a7:=none)
  (ds:=[.tuple [.tuple n1,.tuple s1],.tuple [.tuple n2,.tuple s2],.tuple [.tuple (un n1 n2),.tuple (un s1 s2)]]) (fun d hd=>by
   simp only [List.mem_cons,List.not_mem_nil,or_false] at hd
   rcases hd with rfl | rfl | rfl
   ·exact vM w1 (by decide) hc _ _ _ _ _ _ _
   ·exact vM w2 (by decide) hc _ _ _ _ _ _ _
   ·exact vM w12 (by decide) hc _ _ _ _ _ _ _) (a5:=none)
 obtain ⟨b6,b7,e6⟩:=As (b:=Hj) (h:=hc) (a0:=some (.ref i)) (a1:=some (.dat (.tuple [.tuple n1,.tuple s1]))) (a2:=some (.dat (.tuple [.tuple n2,.tuple s2]))) (a3:=some (.dat (.tuple [.tuple n3,.tuple s3]))) (a4:=some (.dat (.tuple [.tuple (un n1 n2),.tuple (un s1 s2)]))) (a5:=b5)
  (ds:=un n1 n2) (fun x hx a7=>E3 w1 w2 (by decide) hx hc _ _ _ _) (a6:=none) (a7:=none)
 generalize hX1:PyData.tuple [.tuple n1,.tuple s1]=X1 at *
 generalize hX2:PyData.tuple [.tuple n2,.tuple s2]=X2 at *
 generalize hX3:PyData.tuple [.tuple n3,.tuple s3]=X3 at *
 have t1:yX [1,2,3] (aa (ag bq (aa (ae 0) (aa (aj (.int 4)) (ao)))) (aa (ag bq (aa (ae 0) (aa (aj (.int 4)) (ao)))) (aa (ag bq (aa (ae 0) (aa (aj (.int 4)) (ao)))) (ao)))) [some (.ref i),none,none,none,none,none,none,none] h=.ok (.nx [some (.ref i),some (.dat X1),some (.dat X2),some (.dat X3),none,none,none,none]) hc:=by
  have q1:ag bq (aa (ae 0) (aa (aj (.int 4)) (ao))) [some (.ref i),none,none,none,none,none,none,none] h=.ok (.dat X1) ha:=(bK (by rfl)).trans ea
  have q2:ag bq (aa (ae 0) (aa (aj (.int 4)) (ao))) [some (.ref i),none,none,none,none,none,none,none] ha=.ok (.dat X2) hb:=(bK (by rfl)).trans eb
  have q3:ag bq (aa (ae 0) (aa (aj (.int 4)) (ao))) [some (.ref i),none,none,none,none,none,none,none] hb=.ok (.dat X3) hc:=(bK (by rfl)).trans ec
  unfold yX
  rw [aN q1 (aN q2 (aN q3 rfl))]
  rfl
 have t2:df 4 (ag bz (aa (ae 1) (aa (ae 2) (ao)))) [some (.ref i),some (.dat X1),some (.dat X2),some (.dat X3),none,none,none,none] hc=.ok (.nx [some (.ref i),some (.dat X1),some (.dat X2),some (.dat X3),some (.dat (.tuple [.tuple (un n1 n2),.tuple (un s1 s2)])),none,none,none]) hc:=
  (km ((bK (aN rfl (aN rfl rfl))).trans g12)).trans rfl
 generalize hX4:PyData.tuple [.tuple (un n1 n2),.tuple (un s1 s2)]=X4 at *
 have v:∀ (n:Nat) (d:D),([some (.ref i),some (.dat X1),some (.dat X2),some (.dat X3),some (.dat X4),none,none,none]:Fm)[n]?=some (some d)->ae n [some (.ref i),some (.dat X1),some (.dat X2),some (.dat X3),some (.dat X4),none,none,none] hc=.ok d hc:=fun n d e=>by simp [ae,e]
 have nl:ao [some (.ref i),some (.dat X1),some (.dat X2),some (.dat X3),some (.dat X4),none,none,none] hc=.ok [] hc:=rfl
 have k21:=(bK (aN (v 2 _ rfl) (aN (v 1 _ rfl) nl))).trans g21
 have k43:=(bK (aN (v 4 _ rfl) (aN (v 3 _ rfl) nl))).trans gl
 have k23:=(bK (aN (v 2 _ rfl) (aN (v 3 _ rfl) nl))).trans g23
 have k123:=(bK (aN (v 1 _ rfl) (aN k23 nl))).trans gr
 have k11:=(bK (aN (v 1 _ rfl) (aN (v 1 _ rfl) nl))).trans g11
 have k41:=(bK (aN (v 4 _ rfl) (aN (v 1 _ rfl) nl))).trans g121
 have k01:=(bK (aN (e:=aj (.tuple [.tuple [],.tuple []])) rfl (aN (v 1 _ rfl) nl))).trans g01
 have t3:=xb (a:=b8 (aj (.bool false))) (b:=cu) ((Ai (gq (fT (v 4 _ rfl) k21 c1))).trans (gq (fT k43 k123 c2)))
 have t4:=xb (a:=b8 (aj (.bool false))) (b:=cu) ((Ai (gq (fT k11 (v 1 _ rfl) c3))).trans ((Ai (gq (fT k41 (v 4 _ rfl) c4))).trans (gq (fT k01 (v 1 _ rfl) c5))))
 have t5:gB (aS (pF (aa (ae 1) (aa (ae 2) (aa (ae 4) (ao)))))) (au 5) Hi [some (.ref i),some (.dat X1),some (.dat X2),some (.dat X3),some (.dat X4),none,none,none] hc=.ok (.nx [some (.ref i),some (.dat X1),some (.dat X2),some (.dat X3),some (.dat X4),b5,none,none]) hc:=
  mR (mS (by unfold pF;exact (bK (aN rfl (aN rfl (aN rfl rfl)))).trans (cQ [_,_,_] hc (by simp)))) e5
 have t6:gB (aS (ax gv (ae 4) (aj (.int 0)))) (au 6) Hj [some (.ref i),some (.dat X1),some (.dat X2),some (.dat X3),some (.dat X4),b5,none,none] hc=.ok (.nx [some (.ref i),some (.dat X1),some (.dat X2),some (.dat X3),some (.dat X4),b5,b6,b7]) hc:=
  mR (xc (by rw [<- hX4];simp)) e6
 refine ⟨_,hc,?_,(sa.trans sb).trans sc,rfl⟩
 unfold cO j9 bW
 simp only [List.length_cons,List.length_nil,if_true,List.map_cons,List.map_nil,List.cons_append,List.nil_append,show 8 - 1=7 from rfl,List.replicate]
 rw [cz t1,cz t2,cz (t3.trans rfl),cz (t4.trans rfl),cz t5,cz t6]
 rfl
theorem vP (laps:Nat) (hlp:laps < 1000) {right:Fn} (PL:∀ {i:Nat} {h:Hm},Bx i h->Dr i h (right [.ref i] h) fun d=>d=.bool true) {ns:List Int} {N:Nat} (hN:N<=100) :
  ∀ (h:Hm),Wf h->∃ h' y1 y2,dw (au 1) (gB (fz (aa (aj (.int (laps:Int))) (ao))) (au 2) (lq (ji (eS (ag right (aa (ag cK (aa (ae 0) (aa (ae 1) (aa (ae 2) (ao))))) (ao))))) (b8 (aj (.bool false))) (cu))) (nums 0 N) [some (.scr ns),none,none] h=.ok (.nx [some (.scr ns),y1,y2]) h':=by
 intro h w
 obtain ⟨ρ',h',e,w',y1,y2,rfl⟩:=iQ (g:=au 1) (b:=gB (fz (aa (aj (.int (laps:Int))) (ao))) (au 2) (lq (ji (eS (ag right (aa (ag cK (aa (ae 0) (aa (ae 1) (aa (ae 2) (ao))))) (ao))))) (b8 (aj (.bool false))) (cu)))
  (fun _ ρ hh=>Wf hh/\∃ y1 y2,ρ=[some (.scr ns),y1,y2]) (nums 0 N) 0 [some (.scr ns),none,none] h (fun j x hx ρ hh ⟨w,y1,y2,e2⟩=>by
   subst e2
   simp only [nums,List.getElem?_map,Option.map_eq_some_iff] at hx
   obtain ⟨k,_,rfl⟩:=hx
   obtain ⟨ρ',h',e,w',z2,rfl⟩:=iQ (g:=au 2) (b:=lq (ji (eS (ag right (aa (ag cK (aa (ae 0) (aa (ae 1) (aa (ae 2) (ao))))) (ao))))) (b8 (aj (.bool false))) (cu))
    (fun _ ρ hh=>Wf hh/\∃ y2,ρ=[some (.scr ns),some (.int (0+(k:Int))),y2]) (nums 0 laps) 0 [some (.scr ns),some (.int (0+(k:Int))),y2] hh (fun j x hx ρ hh ⟨w,y2,e2⟩=>by
     subst e2
     simp only [nums,List.getElem?_map,Option.map_eq_some_iff] at hx
     obtain ⟨l,_,rfl⟩:=hx
     obtain ⟨n,eb⟩:=EW ns k l hh
     have bx:Bx hh.length (hh++[.lst [.int n]]):=⟨⟨n,by simp⟩,w.push rfl⟩
     obtain ⟨_,h2,e2,s2,rfl⟩:=PL bx
     exact ⟨_,hh,[some (.scr ns),some (.int (0+(k:Int))),some (.int (0+(l:Int)))],h2,rfl,.inl (by simp [eb,e2]),(s2.bx bx).wf,_,rfl⟩) ⟨w,y2,rfl⟩
   refine ⟨_,hh,[some (.scr ns),some (.int (0+(k:Int))),z2],h',rfl,.inl ?_,w',_,_,rfl⟩
   have it:fz (aa (aj (.int (laps:Int))) ao) [some (.scr ns),some (.int (0+(k:Int))),y2] hh=.ok (nums 0 laps) hh:=oZ (n:=laps) (by simp) (by omega)
   unfold gB
   simp only [List.set_cons_succ,List.set_cons_zero]
   rw [it]
   simp only [R.b0,R.aD]
   exact e) ⟨w,none,none,rfl⟩
 exact ⟨h',y1,y2,e⟩
theorem Au:∀ ns:List Int,ns.length<=63->∃ h,tO [.scr ns] []=.ok (.bool true) h:=by
 intro ns hn
 obtain ⟨h',y1,y2,e⟩:=vP 3 (by decide) (right:=cO) (fun b=>Cy b) (ns:=ns) (N:=max 1 (min ns.length 4)) (by omega) [] (fun o m=>by cases m)
 refine ⟨h',?_⟩
 have it:fz (aa (ag y6 (aa (aj (.int 1)) (aa (ag y7 (aa (ag fX (aa (ae 0) (ao))) (aa (aj (.int 4)) (ao)))) (ao)))) (ao)) [some (.scr ns),none,none] []=.ok (nums 0 (max 1 (min ns.length 4))) []:=oZ (by
   refine aN ?_ rfl
   simp [fX,y7,y6]
   split<;>split<;>omega) (by omega)
 unfold tO CY bW
 simp only [List.length_cons,List.length_nil,if_true,List.map_cons,List.map_nil,List.cons_append,List.nil_append,show 3 - 1=2 from rfl,rep2]
 refine (congrArg (fun r=>R.bind r nv) (?_:_=R.ok (Fl.rt (D.bool true)) h')).trans rfl
 refine (cz (ρ1:=[some (.scr ns),y1,y2]) (h1:=h') ?_).trans rfl
 unfold gB
 rw [it]
 simp only [R.b0,R.aD]
 exact e
end Ml
namespace K04
open PySem L2 Ml
theorem E4 {K:PySem.W.Frag} {h:Heap} {mg:Str->Option Value} {k0:Tok} {k1:Tok} (X:K.In h) (G:h.Ns mainGlobals mg)
  (z0:PySem.W.nsIn K mainGlobals "all" = some none)
  (z1:PySem.W.nsIn K mainGlobals "len" = some none)
  (z2:PySem.W.nsIn K mainGlobals "isinstance" = some none)
  (z3:PySem.W.nsIn K mainGlobals "str" = some none)
  (z4:PySem.W.nsIn K mainGlobals "zip" = some none)
  (z5:PySem.W.nsIn K mainGlobals "tuple" = some none)
  (z6:PySem.W.nsIn K mainGlobals "sorted" = some none)
  (z7:PySem.W.nsIn K mainGlobals "set" = some none)
  (z8:PySem.W.nsIn K mainGlobals "range" = some none)
  (z9:PySem.W.nsIn K mainGlobals "abs" = some none)
  (z10:PySem.W.nsIn K mainGlobals "divmod" = some none)
  (z11:PySem.W.nsIn K mainGlobals "list" = some none)
  (z12:PySem.W.nsIn K mainGlobals "max" = some none)
  (z13:PySem.W.nsIn K mainGlobals "min" = some none)
  (a0:PySem.W.nsIn K mainGlobals "LONGEST_NAME" = some (some (.int 6 k0)))
  (a1:PySem.W.nsIn K mainGlobals "MOST_NAMES" = some (some (.int 12 k1)))
  : Txt K mg:=⟨PySem.W.mg_none_of X G z0,PySem.W.mg_none_of X G z1,PySem.W.mg_none_of X G z2,PySem.W.mg_none_of X G z3,PySem.W.mg_none_of X G z4,PySem.W.mg_none_of X G z5,PySem.W.mg_none_of X G z6,PySem.W.mg_none_of X G z7,PySem.W.mg_none_of X G z8,PySem.W.mg_none_of X G z9,PySem.W.mg_none_of X G z10,PySem.W.mg_none_of X G z11,PySem.W.mg_none_of X G z12,PySem.W.mg_none_of X G z13,⟨_,PySem.W.mg_of X G a0⟩,⟨_,PySem.W.mg_of X G a1⟩⟩
theorem all_mk {l:PySem.W.OpenLaw} {w:World} {K:PySem.W.Frag} {h:Heap} {mg:Str->Option Value} {fa f:Addr} {od an:Option Addr} {sl:Array (Option Value)} {oc kV dc pm cd ct:Value} (X:K.In h) (G:h.Ns mainGlobals mg) (hfa:mg "law" = some (.ref fa)) (T:Txt K mg)
  (d0:Df K mg "is_name" ["thing"] kT)
  (d1:Df K mg "is_rising" ["things"] ig)
  (d2:Df K mg "are_names" ["thing"] ik)
  (d3:Df K mg "is_strike" ["thing", "names"] ip)
  (d4:Df K mg "are_strikes" ["thing", "names"] gb)
  (d5:Df K mg "is_web" ["thing"] oM)
  (d6:Df K mg "check_web" ["thing"] iq)
  (d7:Df K mg "check_name" ["web", "thing"] gK)
  (d8:Df K mg "strikers" ["web", "name"] jz)
  (d9:Df K mg "struck" ["web", "name"] oN)
  (d10:Df K mg "names_of_both" ["one", "other"] eV)
  (d11:Df K mg "together" ["one", "other"] jA)
  (d12:Df K mg "_law_cell" ["_law_script", "_law_k"] iw)
  (d13:Df K mg "_law_mix" ["_law_cell_here", "_law_k"] jB)
  (d14:Df K mg "_law_box" ["_law_script", "_law_k", "_law_lap"] jC)
  (d15:Df K mg "_law_take" ["_law_box_here", "_law_count"] ix)
  (d16:Df K mg "_law_wide" ["_law_box_here", "_law_most_names"] iy)
  (d17:Df K mg "_law_pairs" ["_law_web"] gM)
  (d18:Df K mg "_law_right" ["_law_box_here"] gN)
  (a:PySem.W.nsIn K mainGlobals "law" = some (some (.ref f))) (l0:K.lookup f=some ⟨oc,od,.func (PySem.W.fnOf "law" "law" (fJ kf) (dB kf) (ay kf) .none kV dc pm an cd ct),sl⟩) (c:PySem.W.codeIn K cd "law" = true) (k:PySem.W.keepIn K (.ref f)=true) :
  ∃ fd:FuncData,(∀ (s:Shared) (v:Value),BindsTo s fd ⟨[v],[]⟩ [("_law_script",v)])/\∀ base:Heap,K.In base->base.Ns mainGlobals mg->iU l.prog w K mg base (sH l.prog w) 8 fa fd ["_law_script"] (Bq ⟨l.prog,w,mg,K⟩ tO):=by
 have e:=hfa.symm.trans (PySem.W.mg_of X G a)
 cases e
 have FL:=uQ (st:=kf) l0 c k
 refine ⟨PySem.W.fnOf "law" "law" (fJ kf) (dB kf) (ay kf) .none kV dc pm an cd ct,fun s v=>.of_eq rfl,fun base _ _=>?_⟩
 have H_is_name:=x8 (P:=l.prog) (w:=w) (base:=base) d0 T
 have H_is_rising:=ug (P:=l.prog) (w:=w) (base:=base) d1 T
 have H_are_names:=uh (P:=l.prog) (w:=w) (base:=base) d2 T H_is_rising H_is_name
 have H_is_strike:=ui (P:=l.prog) (w:=w) (base:=base) d3 T
 have H_are_strikes:=pJ (P:=l.prog) (w:=w) (base:=base) d4 T H_is_rising H_is_strike
 have H_is_web:=Ab (P:=l.prog) (w:=w) (base:=base) d5 T H_are_strikes H_are_names
 have H_check_web:=uj (P:=l.prog) (w:=w) (base:=base) d6 T H_is_web
 have H_check_name:=rV (P:=l.prog) (w:=w) (base:=base) d7 T
 have H_strikers:=vv (P:=l.prog) (w:=w) (base:=base) d8 T H_check_name H_check_web
 have H_struck:=Ac (P:=l.prog) (w:=w) (base:=base) d9 T H_check_name H_check_web
 have H_names_of_both:=mn (P:=l.prog) (w:=w) (base:=base) d10 T
 have H_together:=vw (P:=l.prog) (w:=w) (base:=base) d11 T H_names_of_both H_check_web
 have H__law_cell:=um (P:=l.prog) (w:=w) (base:=base) d12 T
 have H__law_mix:=vx (P:=l.prog) (w:=w) (base:=base) d13 T
 have H__law_box:=vz (P:=l.prog) (w:=w) (base:=base) d14 T H__law_mix H__law_cell
 have H__law_take:=uo (P:=l.prog) (w:=w) (base:=base) d15 T
 have H__law_wide:=uq (P:=l.prog) (w:=w) (base:=base) d16 T H__law_take
 have H__law_pairs:=rX (P:=l.prog) (w:=w) (base:=base) d17 T H_strikers
 have H__law_right:=rY (P:=l.prog) (w:=w) (base:=base) d18 T H_struck H_strikers H__law_pairs H_is_web H_together H__law_wide
 exact ET (P:=l.prog) (w:=w) (base:=base) FL T H__law_right H__law_box
theorem walk {l:PySem.W.OpenLaw} {q:Program} {loose:List Str} {XP:(Str->Option Value)->Heap->Prop} {YP:World->Heap->Prop} {d:DefRec} {K:Params->PySem.W.Frag} (hn:l.most=some 63) (hdf:d.params.defaults=[])
  (hY:∀ (w:World) (h:Heap),YP w h->(K w.params).In h)
  (F:∀ (w:World) (mg:Str->Option Value) (fa:Addr) (h:Heap),(K w.params).In h->h.Ns mainGlobals mg->mg d.name=some (.ref fa) ->
   ∃ fd:FuncData,(∀ (s:Shared) (u:Value),BindsTo s fd ⟨[u],[]⟩ [("_law_script",u)])/\∀ base:Heap,(K w.params).In base->base.Ns mainGlobals mg->iU l.prog w (K w.params) mg base (sH l.prog w) 8 fa fd ["_law_script"] (Bq ⟨l.prog,w,mg,K w.params⟩ tO)) :
  PySem.W.WalkO q loose XP YP l.row.toRowW d [] (fun f vs=>PySem.call f vs):=
 L2.A3 (n:=63) (k:=8) (x := "_law_script") (CX:=fun w=>sH l.prog w) (sp:=fun w=>CW (K w.params)) hn (by decide) hdf ⟨rfl,by decide,by decide,rfl⟩ hY
  (fun w mg fa h KX G hm=>let ⟨fd,b,o⟩:=F w mg fa h KX G hm;⟨fd,b,fun base k g=>(o base k g).imp fun vs H Q E z=>zL Au z⟩)
  (fun w H a ns hl _ hS=>⟨a,ns,rfl,hS,hl,fun _=>rfl⟩) fun w H s e s' ⟨_,_,_,_,_,_,_,_,_,_,_,_,_,z⟩=>z
end K04
open PySem PySem.W PyProof.Rows
def PySem.W.Fast.tw1219790717952804072:Unit:=()
def PySem.W.Fast.tw11888993901951081038:Unit:=()
def PySem.W.Fast.tw3330439493948252015:Unit:=()
def PySem.W.Fast.tw4458139377258858349:Unit:=()
def PySem.W.Fast.tw16876948038044688775:Unit:=()
def PySem.W.Fast.tw13814594397931655651:Unit:=()
def PySem.W.Fast.tw11672123735400198347:Unit:=()
def PySem.W.Fast.tw11104911804458907733:Unit:=()
def PySem.W.Fast.tw2541057347026902027:Unit:=()
def PySem.W.Fast.tw16550603162414674873:Unit:=()
def PySem.W.Fast.tw500057965542546534:Unit:=()
def PySem.W.Fast.tw3526867655585927452:Unit:=()
set_option maxRecDepth 100000 in
set_option maxHeartbeats 0 in
theorem PySem.Challenge.cw_everalike_k04_whole_webs_put_together_holds : PySem.Challenge.rw_everalike_k04_whole_webs_put_together.Holds := by
 w_on;o_law;k_head;(case hw=>w_witness2)
 k_fill
 refine K04.walk (l:=PySem.Challenge.rw_everalike_k04_whole_webs_put_together) rfl rfl (fun w h Y=>PySem.W.kIn_of Y) ?F
 case F=>
  intro w mg fa h KX G hmg
  refine' K04.all_mk KX G hmg ?T ?d0 ?d1 ?d2 ?d3 ?d4 ?d5 ?d6 ?d7 ?d8 ?d9 ?d10 ?d11 ?d12 ?d13 ?d14 ?d15 ?d16 ?d17 ?d18 ?a ?l ?c ?k
  case T=>
   refine' K04.E4 KX G ?zz0 ?zz1 ?zz2 ?zz3 ?zz4 ?zz5 ?zz6 ?zz7 ?zz8 ?zz9 ?zz10 ?zz11 ?zz12 ?zz13 ?aa0 ?aa1
   (case zz0=>k_is)
   (case zz1=>k_is)
   (case zz2=>k_is)
   (case zz3=>k_is)
   (case zz4=>k_is)
   (case zz5=>k_is)
   (case zz6=>k_is)
   (case zz7=>k_is)
   (case zz8=>k_is)
   (case zz9=>k_is)
   (case zz10=>k_is)
   (case zz11=>k_is)
   (case zz12=>k_is)
   (case zz13=>k_is)
   (case aa0=>k_is)
   (case aa1=>k_is)
  case d0=>
   refine' Ml.dI KX G ?a0 ?l0 ?c0 ?k0 (fun _ _ _ _ _ _ us hl=>match us,hl with | [_],_=>rfl)
   (case a0=>k_is);(case l0=>k_is);(case c0=>k_is);(case k0=>k_is)
  case d1=>
   refine' Ml.dI KX G ?a1 ?l1 ?c1 ?k1 (fun _ _ _ _ _ _ us hl=>match us,hl with | [_],_=>rfl)
   (case a1=>k_is);(case l1=>k_is);(case c1=>k_is);(case k1=>k_is)
  case d2=>
   refine' Ml.dI KX G ?a2 ?l2 ?c2 ?k2 (fun _ _ _ _ _ _ us hl=>match us,hl with | [_],_=>rfl)
   (case a2=>k_is);(case l2=>k_is);(case c2=>k_is);(case k2=>k_is)
  case d3=>
   refine' Ml.dI KX G ?a3 ?l3 ?c3 ?k3 (fun _ _ _ _ _ _ us hl=>match us,hl with | [_,_],_=>rfl)
   (case a3=>k_is);(case l3=>k_is);(case c3=>k_is);(case k3=>k_is)
  case d4=>
   refine' Ml.dI KX G ?a4 ?l4 ?c4 ?k4 (fun _ _ _ _ _ _ us hl=>match us,hl with | [_,_],_=>rfl)
   (case a4=>k_is);(case l4=>k_is);(case c4=>k_is);(case k4=>k_is)
  case d5=>
   refine' Ml.dI KX G ?a5 ?l5 ?c5 ?k5 (fun _ _ _ _ _ _ us hl=>match us,hl with | [_],_=>rfl)
   (case a5=>k_is);(case l5=>k_is);(case c5=>k_is);(case k5=>k_is)
  case d6=>
   refine' Ml.dI KX G ?a6 ?l6 ?c6 ?k6 (fun _ _ _ _ _ _ us hl=>match us,hl with | [_],_=>rfl)
   (case a6=>k_is);(case l6=>k_is);(case c6=>k_is);(case k6=>k_is)
  case d7=>
   refine' Ml.dI KX G ?a7 ?l7 ?c7 ?k7 (fun _ _ _ _ _ _ us hl=>match us,hl with | [_,_],_=>rfl)
   (case a7=>k_is);(case l7=>k_is);(case c7=>k_is);(case k7=>k_is)
  case d8=>
   refine' Ml.dI KX G ?a8 ?l8 ?c8 ?k8 (fun _ _ _ _ _ _ us hl=>match us,hl with | [_,_],_=>rfl)
   (case a8=>k_is);(case l8=>k_is);(case c8=>k_is);(case k8=>k_is)
  case d9=>
   refine' Ml.dI KX G ?a9 ?l9 ?c9 ?k9 (fun _ _ _ _ _ _ us hl=>match us,hl with | [_,_],_=>rfl)
   (case a9=>k_is);(case l9=>k_is);(case c9=>k_is);(case k9=>k_is)
  case d10=>
   refine' Ml.dI KX G ?a10 ?l10 ?c10 ?k10 (fun _ _ _ _ _ _ us hl=>match us,hl with | [_,_],_=>rfl)
   (case a10=>k_is);(case l10=>k_is);(case c10=>k_is);(case k10=>k_is)
  case d11=>
   refine' Ml.dI KX G ?a11 ?l11 ?c11 ?k11 (fun _ _ _ _ _ _ us hl=>match us,hl with | [_,_],_=>rfl)
   (case a11=>k_is);(case l11=>k_is);(case c11=>k_is);(case k11=>k_is)
  case d12=>
   refine' Ml.dI KX G ?a12 ?l12 ?c12 ?k12 (fun _ _ _ _ _ _ us hl=>match us,hl with | [_,_],_=>rfl)
   (case a12=>k_is);(case l12=>k_is);(case c12=>k_is);(case k12=>k_is)
  case d13=>
   refine' Ml.dI KX G ?a13 ?l13 ?c13 ?k13 (fun _ _ _ _ _ _ us hl=>match us,hl with | [_,_],_=>rfl)
   (case a13=>k_is);(case l13=>k_is);(case c13=>k_is);(case k13=>k_is)
  case d14=>
   refine' Ml.dI KX G ?a14 ?l14 ?c14 ?k14 (fun _ _ _ _ _ _ us hl=>match us,hl with | [_,_,_],_=>rfl)
   (case a14=>k_is);(case l14=>k_is);(case c14=>k_is);(case k14=>k_is)
  case d15=>
   refine' Ml.dI KX G ?a15 ?l15 ?c15 ?k15 (fun _ _ _ _ _ _ us hl=>match us,hl with | [_,_],_=>rfl)
   (case a15=>k_is);(case l15=>k_is);(case c15=>k_is);(case k15=>k_is)
  case d16=>
   refine' Ml.dI KX G ?a16 ?l16 ?c16 ?k16 (fun _ _ _ _ _ _ us hl=>match us,hl with | [_,_],_=>rfl)
   (case a16=>k_is);(case l16=>k_is);(case c16=>k_is);(case k16=>k_is)
  case d17=>
   refine' Ml.dI KX G ?a17 ?l17 ?c17 ?k17 (fun _ _ _ _ _ _ us hl=>match us,hl with | [_],_=>rfl)
   (case a17=>k_is);(case l17=>k_is);(case c17=>k_is);(case k17=>k_is)
  case d18=>
   refine' Ml.dI KX G ?a18 ?l18 ?c18 ?k18 (fun _ _ _ _ _ _ us hl=>match us,hl with | [_],_=>rfl)
   (case a18=>k_is);(case l18=>k_is);(case c18=>k_is);(case k18=>k_is)
  (case a=>k_is);(case l=>k_is);(case c=>k_is);(case k=>k_is)
