import PyProof.Rows.All
import Wide.All
import OpenK.AllK
import Wide.FinOn
import Lean
import PyProof.EqAt
import PyProof.EqKinds
import PyProof.TupleCall
import KE.KSortTup
import PyProof.Rows.SortShellK
import PyProof.Rows.SortWalk
import KE.KDictList
import KE.KStar
import PyProof.ListMulRoad
import PyProof.FactsAll.tuple
import PyProof.AttrMissSeq
import PyProof.FactsAll.zip
import PyProof.DictList
import PyProof.Rows.DictSet
import KE.KDictOf
import PySem.Challenge.RW_everalike_k66_joint_marks_right
set_option Elab.async false
set_option linter.all false
set_option maxRecDepth 100000
namespace L2
open PySem PySem.Spec PyProof.Rows
abbrev Key:=Sum Int Str
def nH:Key->Value->Bool
 | .inl k,v=>Value.isInt k v
 | .inr x,v=>Value.isStrOf x v
def HS (w:World):Key->Int
 | .inl k=>hashInt k
 | .inr x=>hashStr w x
theorem bU:∀ {k:Key} {v:Value},nH k v=true->(∃ i t,k=Sum.inl i/\v=Value.int i t)\/(∃ x t,k=Sum.inr x/\v=Value.str x t)
 | .inl i,v,h=>by
  obtain ⟨t,e⟩:=Value.isInt_shape (k:=i) (v:=v) h
  exact .inl ⟨i,t,rfl,e⟩
 | .inr x,v,h=>by
  obtain ⟨t,e⟩:=Value.isStrOf_shape (x:=x) (v:=v) h
  exact .inr ⟨x,t,rfl,e⟩
theorem xI (i:Int) (t:Tok):nH (.inl i) (.int i t)=true:=by simp [nH,Value.isInt]
theorem xJ (x:Str) (t:Tok):nH (.inr x) (.str x t)=true:=by simp [nH,Value.isStrOf]
theorem DY (a b:Int):decide ((Sum.inl a:Key)=Sum.inl b)=(a == b):=by
 by_cases e:a=b
 ·subst e;simp
 ·have h:¬ (Sum.inl a:Key)=Sum.inl b:=fun q=>e (Sum.inl.inj q)
  rw [decide_eq_false h]
  exact (beq_eq_false_iff_ne.mpr e).symm
theorem DZ (a b:Str):decide ((Sum.inr a:Key)=Sum.inr b)=decide (a=b):=by
 by_cases e:a=b
 ·subst e;simp
 ·have h:¬ (Sum.inr a:Key)=Sum.inr b:=fun q=>e (Sum.inr.inj q)
  rw [decide_eq_false h,decide_eq_false e]
theorem D0 (a:Int) (b:Str):decide ((Sum.inl a:Key)=Sum.inr b)=false:=decide_eq_false (fun q=>nomatch q)
theorem D1 (a:Str) (b:Int):decide ((Sum.inr a:Key)=Sum.inl b)=false:=decide_eq_false (fun q=>nomatch q)
def bX (prog:Program) (w:World):PySem.KeyKind prog w Key where
 is:=nH
 hash:=HS w
 inj:=fun v a b ha hb=>by
  rcases bU ha with ⟨i,t,rfl,rfl⟩ | ⟨x,t,rfl,rfl⟩
  ·rcases bU hb with ⟨j,u,rfl,e⟩ | ⟨y,u,rfl,e⟩
   ·injection e with e1 _;rw [e1]
   ·exact nomatch e
  ·rcases bU hb with ⟨j,u,rfl,e⟩ | ⟨y,u,rfl,e⟩
   ·exact nomatch e
   ·injection e with e1 _;rw [e1]
 byValue:=fun k v h=>by
  rcases bU h with ⟨i,t,rfl,rfl⟩ | ⟨x,t,rfl,rfl⟩<;>rfl
 pyHash:=fun hv h=>by
  rcases bU hv with ⟨i,t,rfl,rfl⟩ | ⟨x,t,rfl,rfl⟩
  ·exact wpAny_pyHash_int h
  ·exact wpAny_pyHash_str h
 eqBool:=fun hu hv h=>by
  rcases bU hu with ⟨i,t,rfl,rfl⟩ | ⟨x,t,rfl,rfl⟩
  ·rcases bU hv with ⟨j,u,rfl,rfl⟩ | ⟨y,u,rfl,rfl⟩
   ·rw [DY] at h;exact wpAny_eqBool_int h
   ·rw [D0] at h;exact SeqAt.EqAt.int_str i t y u _ _ _ _ h
  ·rcases bU hv with ⟨j,u,rfl,rfl⟩ | ⟨y,u,rfl,rfl⟩
   ·rw [D1] at h;exact SeqAt.EqAt.str_int x t j u _ _ _ _ h
   ·rw [DZ] at h;exact wpAny_eqBool_str h
 «strs» := fun k x t v h=>by
  rcases bU h with ⟨i,u,rfl,e⟩ | ⟨y,u,rfl,e⟩
  ·exact nomatch e
  ·injection e with e1 _
   subst e1
   cases v<;>rfl
theorem sS (prog:Program) (w:World) (i:Int) (t:Tok):(bX prog w).is (.inl i) (.int i t)=true:=xI i t
theorem sT (prog:Program) (w:World) (x:Str) (t:Tok):(bX prog w).is (.inr x) (.str x t)=true:=xJ x t
end L2
namespace L2
open PySem PySem.Spec PyProof.Rows
inductive V where
 | non | bl (b:Bool) | int (i:Int) | str (x:Str) | byt (b:Array UInt8) | flt (b:UInt64) | ref (a:Addr) | ty (n:String)
 deriving DecidableEq
def RelV:V->Value->Prop
 | .non,u=>u=Value.none
 | .bl b,u=>u=Value.bool b
 | .int i,u=>∃ t,u=Value.int i t
 | .str x,u=>∃ t,u=Value.str x t
 | .byt b,u=>∃ t,u=Value.bytes b t
 | .flt b,u=>∃ t,u=Value.float b t
 | .ref a,u=>u=Value.ref a
 | .ty n,u=>u=Value.type n
abbrev Vals:List V->List Value->Prop:=Paired RelV
theorem Vals.length {xs:List V} {us:List Value} (r:Vals xs us):xs.length=us.length:=Paired.length r
theorem Vals.get:∀ {xs:List V} {us:List Value} {i:Nat} {x:V},Vals xs us->xs[i]?=some x->∃ u,us[i]?=some u/\RelV x u
 | _,_,_,_,.nil,e=>by simp at e
 | _,_,0,_,.cons r _,e=>by simp at e;subst e;exact ⟨_,rfl,r⟩
 | _,_,i+1,x,.cons _ t,e=>by
  obtain ⟨u,h1,h2⟩:=Vals.get (i:=i) (x:=x) t (by simpa using e)
  exact ⟨u,by simpa using h1,h2⟩
theorem Vals.set {x:V} {u:Value} (r:RelV x u):∀ {xs:List V} {us:List Value} (i:Nat),Vals xs us->Vals (xs.set i x) (us.set i u)
 | _,_,_,.nil=>.nil
 | _,_,0,.cons _ t=>.cons r t
 | _,_,i+1,.cons q t=>.cons q (Vals.set r i t)
theorem Vals.append:∀ {xs ys:List V} {us ws:List Value},Vals xs us->Vals ys ws->Vals (xs++ys) (us++ws)
 | _,_,_,_,.nil,s=>s
 | _,_,_,_,.cons r t,s=>.cons r (Vals.append t s)
theorem Vals.take:∀ {xs:List V} {us:List Value} (n:Nat),Vals xs us->Vals (xs.take n) (us.take n)
 | _,_,0,_=>.nil
 | _,_,_+1,.nil=>.nil
 | _,_,n+1,.cons r t=>.cons r (Vals.take n t)
theorem Vals.drop:∀ {xs:List V} {us:List Value} (n:Nat),Vals xs us->Vals (xs.drop n) (us.drop n)
 | _,_,0,r=>r
 | _,_,_+1,.nil=>.nil
 | _,_,n+1,.cons _ t=>Vals.drop n t
def nI:Option V->Option Value->Prop
 | some v,some u=>RelV v u
 | none,none=>True
 | _,_=>False
def KV {κ:Type}:List (κ×V)->List (κ×Value)->Prop:=Paired fun (p:κ×V) (q:κ×Value)=>p.1=q.1/\RelV p.2 q.2
def kV:Key->V
 | .inl i=>.int i
 | .inr x=>.str x
inductive HO where
 | lst (xs:List V)
 | tup (xs:List V)
 | dK (kvs:List (Key×V)) | dT (kvs:List (List Key×V))
 | set (S:Int->Bool) (n:Nat)
 | ins (C dx:Addr) (fs:List (Str×V))
 | own (x:Addr)
 | xd (fs:List (Str×V))
 | met (f x:Addr)
 | rng (lo hi:Int)
 | frz (o:Obj) (u:HO)
 | tbl (ps:Array Value)
 | ext (φ:Heap->Prop)
abbrev Hp:=Addr->Option HO
def upd (H:Hp) (a:Addr) (o:HO):Hp:=fun b=>if b=a then some o else H b
theorem bo {H:Hp} {a:Addr} {o:HO}:upd H a o a=some o:=by unfold upd;rw [if_pos rfl]
theorem aC {H:Hp} {a b:Addr} {o:HO} (h:b≠a):upd H a o b=H b:=by unfold upd;rw [if_neg h]
theorem F5 {H:Hp} {a b:Addr} {o u:HO} (h:H a=some o) (h':H b=some u) (d:o≠u):a≠b:=by
 intro e;subst e;rw [h] at h';exact d (Option.some.inj h')
theorem aG {H:Hp} {a b:Addr} {o:HO} (h:H a=some o) (h':H b=none):a≠b:=by
 intro e;subst e;rw [h] at h';cases h'
section
variable (P:Program) (w:World)
def cA (H:Hp) (h:Heap) (a:Addr):HO->Prop
 | .lst xs=>xs.length<=sizeLine/\∃ (its:List Value) (n:Nat),Vals xs its/\h.get? a=some {cls:=.type "list",data:=.seq its.toArray n}
 | .tup xs=>xs.length<=sizeLine/\∃ its:List Value,Vals xs its/\IsTup h a its.toArray
 | .dK kvs=>kvs.length<=sizeLine/\(a == sysModules)=false/\∃ vs,KV kvs vs/\h.DictOf (bX P w) a vs
 | .dT kvs=>kvs.length<=sizeLine/\(a == sysModules)=false/\∃ xs:List (List Key×Addr×Value),
   Paired (fun (p:List Key×V) (q:List Key×Addr×Value)=>p.1=q.1/\H q.2.1=some (.tup (p.1.map kV))/\RelV p.2 q.2.2) kvs xs /\
   ∃ o es ep,h.get? a=some o/\o.ExactDict/\o.data=.dict es ep/\es.toList=xs.map (entryOfKey (tupleKind (bX P w)))/\(xs.map (·.1)).Nodup
 | .set S n=>h.SetOf (intKind P w) a S n
 | .ins C dx fs=>H dx=some (.own a)/\fs.length<=1000/\dx≠a/\h.get? a=some (PySem.W.instObj C dx) /\
   ∃ mA,h.Ns1 dx mA/\(∀ f,nI (fs.lookup f) (mA f))/\PySem.Within mA (fs.map (·.1))
 | .own _=>∃ o,h.get? a=some o
 | .xd fs=>∃ mA,h.Ns1 a mA/\∀ f,nI (fs.lookup f) (mA f)
 | .rng lo hi=>∃ t u v,h.get? a=some {cls:=.type "range",data:=.fields #[.int lo t,.int hi u,.int 1 v]}
 | .frz o u=>h.get? a=some o/\cA H h a u
 | .tbl ps=>h.get? a=some {cls:=.none,data:=.fields ps}
 | .met f x=>h.get? a=some (PySem.W.methodObj (.ref f) (.ref x))
 | .ext φ=>φ h/\(∃ o,h.get? a=some o)/\∀ h1 h2:Heap,φ h1->(∀ o,h1.get? a=some o->h2.get? a=some o)->φ h2
def iP (H:Hp) (h:Heap):Prop:=∀ a o,H a=some o->cA P w H h a o
end
section
variable {P:Program} {w:World} {H H':Hp} {h h':Heap} {a:Addr} {o:HO}
theorem cA.lt (x:cA P w H h a o):a < h.objs.size:=by
 cases o with
 | lst xs=>obtain ⟨_,_,_,_,e⟩:=x;exact Heap.lt_size e
 | tup xs=>obtain ⟨_,_,_,p⟩:=x;exact p.lt
 | dK kvs=>obtain ⟨_,_,_,_,o,_,_,e,_⟩:=x;exact Heap.lt_size e
 | dT kvs=>obtain ⟨_,_,_,_,o,_,_,e,_⟩:=x;exact Heap.lt_size e
 | set S n=>obtain ⟨o,_,_,_,e,_⟩:=x;exact Heap.lt_size e
 | ins C dx fs=>obtain ⟨_,_,_,e,_⟩:=x;exact Heap.lt_size e
 | own y=>obtain ⟨_,e⟩:=x;exact Heap.lt_size e
 | xd fs=>obtain ⟨_,⟨_,_,_,e,_⟩,_⟩:=x;exact Heap.lt_size e
 | rng lo hi=>obtain ⟨_,_,_,e⟩:=x;exact Heap.lt_size e
 | frz ob u=>obtain ⟨e,_⟩:=x;exact Heap.lt_size e
 | tbl ps=>exact Heap.lt_size (show h.get? a=some _ from x)
 | met f y=>exact Heap.lt_size (show h.get? a=some _ from x)
 | ext φ=>obtain ⟨_,⟨_,e⟩,_⟩:=x;exact Heap.lt_size e
theorem Paired.yG {α β:Type} {F G:α->β->Prop}:∀ {l₁:List α} {l₂:List β},Paired F l₁ l₂->(∀ a b,F a b->G a b)->Paired G l₁ l₂
 | _,_,.nil,_=>.nil
 | _,_,.cons r t,f=>.cons (f _ _ r) (Paired.yG t f)
theorem cA.pN (x:cA P w H h a o) (k:∀ b u,(b=a\/H b=some (.own a))->h.get? b=some u->h'.get? b=some u)
  (ho:∀ b,H b=some (.own a)->H' b=some (.own a)) (ht:∀ b xs,H b=some (.tup xs)->H' b=some (.tup xs)):cA P w H' h' a o:=by
 induction o with
 | lst xs=>obtain ⟨z,its,n,r,e⟩:=x;exact ⟨z,its,n,r,k _ _ (.inl rfl) e⟩
 | tup xs=>obtain ⟨z,its,r,ob,e,c⟩:=x;exact ⟨z,its,r,ob,k _ _ (.inl rfl) e,c⟩
 | dK kvs=>obtain ⟨z,y,vs,r,ob,es,ep,e,c⟩:=x;exact ⟨z,y,vs,r,ob,es,ep,k _ _ (.inl rfl) e,c⟩
 | dT kvs=>
  obtain ⟨z,y,xs,r,ob,es,ep,e,c⟩:=x
  exact ⟨z,y,xs,Paired.yG r fun p q z=>⟨z.1,ht _ _ z.2.1,z.2.2⟩,ob,es,ep,k _ _ (.inl rfl) e,c⟩
 | set S n=>obtain ⟨ob,es,ep,t,e,c⟩:=x;exact ⟨ob,es,ep,t,k _ _ (.inl rfl) e,c⟩
 | ins C dx fs=>
  obtain ⟨d,z,ne,e,mA,⟨od,es,ep,e2,c⟩,r⟩:=x
  exact ⟨ho _ d,z,ne,k _ _ (.inl rfl) e,mA,⟨od,es,ep,k _ _ (.inr d) e2,c⟩,r⟩
 | own y=>obtain ⟨ob,e⟩:=x;exact ⟨ob,k _ _ (.inl rfl) e⟩
 | xd fs=>obtain ⟨mA,⟨od,es,ep,e,c⟩,r⟩:=x;exact ⟨mA,⟨od,es,ep,k _ _ (.inl rfl) e,c⟩,r⟩
 | rng lo hi=>obtain ⟨t,u,v,e⟩:=x;exact ⟨t,u,v,k _ _ (.inl rfl) e⟩
 | frz ob u ih=>obtain ⟨e,q⟩:=x;exact ⟨k _ _ (.inl rfl) e,ih q⟩
 | tbl ps=>
  have e:h.get? a=some {cls:=.none,data:=.fields ps}:=x
  show h'.get? a=some {cls:=.none,data:=.fields ps}
  exact k a _ (.inl rfl) e
 | met f y=>
  have e:h.get? a=some (PySem.W.methodObj (.ref f) (.ref y)):=x
  show h'.get? a=some (PySem.W.methodObj (.ref f) (.ref y))
  exact k a _ (.inl rfl) e
 | ext φ=>obtain ⟨p,⟨o,e⟩,st⟩:=x;exact ⟨st _ _ p fun o q=>k _ _ (.inl rfl) q,⟨o,k _ _ (.inl rfl) e⟩,st⟩
theorem iP.lt (x:iP P w H h) (e:H a=some o):a < h.objs.size:=(x a o e).lt
theorem iP.fresh (x:iP P w H h) (e:h.objs.size<=a):H a=none:=by
 cases q:H a with
 | none=>rfl
 | some u=>exact absurd (Nat.lt_of_lt_of_le (x.lt q) e) (Nat.lt_irrefl _)
theorem iP.kept (x:iP P w H h) (k:∀ b u,h.get? b=some u->h'.get? b=some u):iP P w H h':=fun a o e=>
 (x a o e).pN (fun b u _ q=>k b u q) (fun _ q=>q) fun _ _ q=>q
theorem iP.laid (x:iP P w H h) (k:∀ b u,h.get? b=some u->h'.get? b=some u) (hp:h.objs.size<=a) (new:cA P w (upd H a o) h' a o):iP P w (upd H a o) h':=fun b u e=>by
 have hn:=x.fresh hp
 by_cases hb:b=a
 ·subst hb;rw [bo] at e;cases e;exact new
 ·rw [aC hb] at e
  exact (x b u e).pN (fun c v _ q=>k c v q) (fun c q=>by rw [aC (aG q hn)];exact q) fun c xs q=>by rw [aC (aG q hn)];exact q
end
def Rd (H:Hp) (a:Addr) (u:HO):Prop:=H a=some u\/∃ o,H a=some (.frz o u)
theorem Rd.ok {P:Program} {w:World} {H:Hp} {h:Heap} {a:Addr} {u:HO} (r:Rd H a u) (x:iP P w H h):cA P w H h a u:=by
 rcases r with r | ⟨o,r⟩
 ·exact x a u r
 ·obtain ⟨_,q⟩:=x a _ r
  exact q
def FR:Option HO->Prop
 | some (.lst _)=>True
 | some (.dK _)=>True
 | some (.dT _)=>True
 | some (.set _ _)=>True
 | some (.ins _ _ _)=>True
 | some (.ext _)=>True
 | _=>False
section
variable {P:Program} {w:World} {H:Hp} {h h':Heap} {x e:Addr} {o':HO}
theorem iP.write (ok:iP P w H h) (mu:FR (H x)) (he:e=x\/H e=some (.own x)) (k:∀ b u,b≠e->h.get? b=some u->h'.get? b=some u) (heo:∃ u,h'.get? e=some u)
  (new:cA P w (upd H x o') h' x o'):iP P w (upd H x o') h':=fun b u q=>by
 have nown:∀ c y,H c=some (.own y)->c≠x:=fun c y r z=>by subst z;rw [r] at mu;exact mu
 have ntup:∀ c xs,H c=some (.tup xs)->c≠x:=fun c xs r z=>by subst z;rw [r] at mu;exact mu
 by_cases hb:b=x
 ·subst hb;rw [bo] at q;cases q;exact new
 ·rw [aC hb] at q
  by_cases hbe:b=e
  ·have q':H b=some (.own x):=by
    rcases he with z | z
    ·exact absurd (hbe.trans z) hb
    ·rw [hbe];exact z
   rw [q] at q';cases q'
   obtain ⟨v,hv⟩:=heo
   exact ⟨v,by rw [hbe];exact hv⟩
  ·refine (ok b u q).pN (fun c v hc r=>k c v ?_ r) (fun c r=>by rw [aC (nown c b r)];exact r) fun c xs r=>by rw [aC (ntup c xs r)];exact r
   rcases hc with rfl | hc
   ·exact hbe
   ·rintro rfl
    rcases he with z | z
    ·exact nown c b hc z
    ·rw [hc] at z;cases z;exact hb rfl
end
structure Un (fs ex:List Addr) (H H':Hp) (h h':Heap):Prop where
 keep:∀ b o,h.get? b=some o->H b=none->b∉fs->b∉ex->h'.get? b=some o
 slot:∀ b o,h.get? b=some o->H b=none->b∈fs->b∉ex->∃ sl,h'.get? b=some {o with slots:=sl}
 free:∀ b o,h.get? b=some o->H b=none->b∉ex->H' b=none
 there:∀ b o,h.get? b=some o->b∉ex->∃ o',h'.get? b=some o'
 tups:∀ b xs,H b=some (.tup xs)->H' b=some (.tup xs)
 frzs:∀ b o u,H b=some (.frz o u)->H' b=some (.frz o u)
 tbls:∀ b ps,H b=some (.tbl ps)->∃ more,H' b=some (.tbl (ps++more))
section
variable {fs fs' ex ex':List Addr} {H H1 H2:Hp} {h h1 h2 h':Heap} {a x e:Addr} {o:HO}
theorem Un.any (u:Un fs ex H H1 h h1) {b:Addr} {ob:Obj} (q:h.get? b=some ob) (n:H b=none) (hx:b∉ex):∃ sl,h1.get? b=some {ob with slots:=sl}:=by
 by_cases hb:b∈fs
 ·exact u.slot b ob q n hb hx
 ·exact ⟨ob.slots,u.keep b ob q n hb hx⟩
theorem Un.kept (k:∀ b u,h.get? b=some u->h'.get? b=some u):Un fs ex H H h h':=
 ⟨fun b ob q _ _ _=>k b ob q,fun b ob q _ _ _=>⟨ob.slots,k b ob q⟩,fun _ _ _ n _=>n,fun b ob q _=>⟨ob,k b ob q⟩,fun _ _ q=>q,fun _ _ _ q=>q,fun _ ps q=>⟨#[],by rw [q];simp⟩⟩
theorem Un.refl:Un fs ex H H h h:=Un.kept fun _ _ q=>q
theorem Un.laid (k:∀ b u,h.get? b=some u->h'.get? b=some u) (hp:h.objs.size<=a) (hn:H a=none):Un fs ex H (upd H a o) h h' where
 keep:=fun b u q _ _ _=>k b u q
 slot:=fun b u q _ _ _=>⟨u.slots,k b u q⟩
 free:=fun b u q n _=>by rw [aC (Nat.ne_of_lt (Nat.lt_of_lt_of_le (Heap.lt_size q) hp))];exact n
 there:=fun b u q _=>⟨u,k b u q⟩
 tups:=fun b xs q=>by rw [aC (aG q hn)];exact q
 frzs:=fun b u xs q=>by rw [aC (aG q hn)];exact q
 tbls:=fun b ps q=>⟨#[],by rw [aC (aG q hn),q];simp⟩
theorem Un.write (mu:FR (H x)) (he:e=x\/H e=some (.own x)) (k:∀ b u,b≠e->h.get? b=some u->h'.get? b=some u) (heo:∃ u,h'.get? e=some u):Un fs ex H (upd H x o) h h':=by
 have hx:∀ b,H b=none->b≠x:=fun b n z=>by subst z;rw [n] at mu;exact mu
 have hb:∀ b,H b=none->b≠e:=fun b n z=>by
  subst z
  rcases he with r | r
  ·exact hx b n r
  ·rw [n] at r;cases r
 have hm:∀ b u,H b=some u->¬ FR (some u)->b≠x:=fun b u q nm z=>by subst z;rw [q] at mu;exact nm mu
 refine ⟨fun b u q n _ _=>k b u (hb b n) q,fun b u q n _ _=>⟨u.slots,k b u (hb b n) q⟩,fun b u q n _=>by rw [aC (hx b n)];exact n,fun b u q _=>?_,
  fun b xs q=>by rw [aC (hm b _ q fun z=>z)];exact q,fun b u xs q=>by rw [aC (hm b _ q fun z=>z)];exact q,fun b ps q=>⟨#[],by rw [aC (hm b _ q fun z=>z),q];simp⟩⟩
 by_cases hbe:b=e
 ·subst hbe;exact heo
 ·exact ⟨u,k b u hbe q⟩
end
def xK (h:Heap) (H:Hp):List Addr:=(List.range h.objs.size).filter fun a=>(H a).isSome
def rh (h:Heap) (H:Hp):Heap:=PySem.W.hideAll h (xK h H)
theorem xM (h:Heap) (H:Hp):(rh h H).objs.size=h.objs.size:=PySem.W.hideAll_size _ _
theorem yH {h:Heap} {H:Hp} {b:Addr} {o:Obj} (e:h.get? b=some o) (n:H b=none):(rh h H).get? b=some o:=
 PySem.W.hideAll_get _ e fun hm=>by
  have q:(H b).isSome=true:=(List.mem_filter.mp hm).2
  rw [n] at q;simp at q
theorem Bk {h:Heap} {H:Hp} {b:Addr} {o:Obj} (e:(rh h H).get? b=some o):h.get? b=some o/\H b=none:=by
 have e':h.get? b=some o:=PySem.W.of_hideAll (xK h H) e
 refine ⟨e',?_⟩
 cases q:H b with
 | none=>rfl
 | some x=>
  have hm:b∈xK h H:=List.mem_filter.mpr ⟨List.mem_range.mpr (Heap.lt_size e'),by simp [q]⟩
  have z:(rh h H).get? b=none:=PySem.W.hideAll_none (xK h H) hm
  rw [z] at e;cases e
def Bl (g h:Heap) (L:Addr):List (Addr×Obj):=(List.range h.objs.size).filterMap fun a=>if a=L\/(g.get? a).isSome=true then none else (h.get? a).map fun o=>(a,o)
def rest (g h:Heap) (L d:Addr):List (Addr×Obj):=(Bl g h L).filter fun p=>decide (p.1≠d)
end L2
namespace L2
open PySem PySem.Spec PyProof.Rows
structure Mod (K:PySem.W.Frag) (mg:Str->Option Value) (base:Heap):Prop where
 kin:K.In base
 glob:base.Ns mainGlobals mg
 blt:∃ mb,base.Ns builtinsNs mb/\∀ x:Str,x ≠ "__name__" -> mb x=bootBuiltins x
 nolimit:base.NoLimit
structure Cx where
 prog:Program
 w:World
 K:PySem.W.Frag
 mg:Str->Option Value
 base:Heap
 A:Around
 N:List Str
 s₀:Shared
 H₀:Hp
 env:Env
 outer:List Env
 stack:List Env
 ex:List Addr
 fn:Str->Bool
 calm:Bool
 pn:List (Addr×Obj)
 xe:Value->Shared->Prop
def qo (l:List Env):List Addr:=l.filterMap (·.frame)
abbrev Cx.fs (X:Cx):List Addr:=qo X.outer
def Dc (sc:Scope) (x:Str):Prop:=sc.names.lookup x=some .local\/sc.names.lookup x=some .cell\/sc.names.lookup x=some .free
def Loc (sc:Scope) (x:Str):Prop:=sc.names.lookup x=some .local\/sc.names.lookup x=some .cell
def Look (env:Env) (h:Heap) (m:Str->Option Value) (x:Str) (u:Value):Prop:=
 (env.kindOf x=some .local/\m x=some u)\/((env.kindOf x=some .cell\/env.kindOf x=some .free)/\∃ c,env.cells.lookup x=some c/\h.IsCell c (some u))
structure Cx.Ok (X:Cx):Prop where
 mod:Mod X.K X.mg X.base
 kind:X.env.scope.kind=.function
 glob:X.env.globals=mainGlobals
 blt:X.env.builtins=builtinsNs
 above:X.s₀.heap.objs.size<=X.env.locals
 inj:∀ x y c,X.env.cells.lookup x=some c->X.env.cells.lookup y=some c->x=y
 has:∀ x,(X.env.kindOf x=some .cell\/X.env.kindOf x=some .free)->∃ c,X.env.cells.lookup x=some c
 cab:∀ x c,X.fn x=true->X.env.cells.lookup x=some c->X.s₀.heap.objs.size<=c
 hd:X.calm=true->X.A.handled=none
 frames:X.A.frames=some X.stack
 stk:X.stack=X.outer\/(X.stack=X.env::X.outer/\X.env.frame=some X.env.locals)
 exf:∀ b∈X.ex,b≠X.env.locals/\∀ x c,X.env.cells.lookup x=some c->c≠b
 bs:∀ b o,X.base.get? b=some o->X.s₀.heap.get? b=some o/\X.H₀ b=none
 bsz:X.base.objs.size<=X.s₀.heap.objs.size
 noex:∀ b o,X.base.get? b=some o->b∉X.ex
 exfs:∀ b∈X.ex,b∉X.fs
 ky:X.s₀.heap.FunFrames X.base X.outer
 frf:∀ b∈X.fs,X.H₀ b=none
structure Inv (X:Cx) (pins:List (Addr×Obj)) (σ:List (Option V)) (H:Hp) (s:Shared):Prop where
 ok:X.Ok
 os:s.os=X.s₀.os
 bare:AllBare s.gens
 base:Un X.fs X.ex X.H₀ H X.s₀.heap s.heap
 loc:∃ m,s.heap.Ns X.env.locals m/\∀ (i:Nat) (x:Str) (v:V),X.N[i]?=some x->σ[i]?=some (some v)->Dc X.env.scope x->∃ u,RelV v u/\Look X.env s.heap m x u
 cell:∀ x c,X.env.cells.lookup x=some c->∃ v,s.heap.IsCell c v
 free:H X.env.locals=none
 freeC:∀ x c,X.env.cells.lookup x=some c->H c=none
 pin:∀ p∈X.pn++pins,s.heap.get? p.1=some p.2/\H p.1=none/\p.1≠X.env.locals/\p.1∉X.fs/\∀ v,p.2.data≠.cell v
 hok:iP X.prog X.w H s.heap
 len:σ.length=X.N.length
section
variable {X:Cx} {pins:List (Addr×Obj)} {σ:List (Option V)} {H H':Hp} {s:Shared} {h':Heap}
theorem Cx.Ok.HU (ok:X.Ok) {b:Addr} {o:Obj} (e:X.base.get? b=some o):b∉X.fs:=fun hb=>by
 have:=(ok.ky.mem hb).1
 rw [e] at this;cases this
theorem Inv.bs (I:Inv X pins σ H s):∀ b o,X.base.get? b=some o->s.heap.get? b=some o/\H b=none:=fun b o e=>
 ⟨I.base.keep b o (I.ok.bs b o e).1 (I.ok.bs b o e).2 (I.ok.HU e) (I.ok.noex b o e),I.base.free b o (I.ok.bs b o e).1 (I.ok.bs b o e).2 (I.ok.noex b o e)⟩
theorem Inv.bk (I:Inv X pins σ H s):∀ b o,X.base.get? b=some o->s.heap.get? b=some o:=fun b o e=>(I.bs b o e).1
theorem Inv.mod (I:Inv X pins σ H s):Mod X.K X.mg X.base:=I.ok.mod
theorem Inv.rj (I:Inv X pins σ H s):X.K.In s.heap:=I.ok.mod.kin.keeps I.bk
theorem Inv.lt (I:Inv X pins σ H s):X.env.locals < s.heap.objs.size:=let ⟨_,hn,_⟩:=I.loc;hn.lt
theorem Inv.sz (I:Inv X pins σ H s):X.s₀.heap.objs.size<=s.heap.objs.size:=Nat.le_trans I.ok.above (Nat.le_of_lt I.lt)
theorem Inv.yI (I:Inv X pins σ H s) {a:Addr} (h:s.heap.objs.size<=a):a∉X.fs:=fun hb=>by
 obtain ⟨_,o,ho,_⟩:=I.ok.ky.mem hb
 exact absurd (Nat.lt_of_lt_of_le (Heap.lt_size ho) (Nat.le_trans I.sz h)) (Nat.lt_irrefl _)
theorem Inv.D2 (I:Inv X pins σ H s):∀ x c,X.env.cells.lookup x=some c->c≠X.env.locals:=fun x c e z=>by
 obtain ⟨v,o,ho,hd⟩:=I.cell x c e
 obtain ⟨m,⟨o',es,ep,ho',hd',_⟩,_⟩:=I.loc
 rw [z,ho'] at ho;cases ho;rw [hd'] at hd;cases hd
theorem Inv.ky (I:Inv X pins σ H s):s.heap.FunFrames X.base X.outer:=by
 have all:∀ (l:List Env),(∀ b∈qo l,b∈X.fs)->X.s₀.heap.FunFrames X.base l->s.heap.FunFrames X.base l:=by
  intro l
  induction l with
  | nil=>intro _ _;trivial
  | cons env r ih=>
   intro hs hl
   obtain ⟨hk,⟨L,o,hf,hn,ho,hd⟩,hr⟩:=hl
   have hL:L∈X.fs:=hs L (by unfold qo;rw [List.filterMap_cons,hf];exact List.mem_cons_self)
   obtain ⟨sl,e⟩:=I.base.slot L o ho (I.ok.frf L hL) hL fun z=>I.ok.exfs L z hL
   exact ⟨hk,⟨L,_,hf,hn,e,hd⟩,ih (fun b hb=>hs b (by unfold qo;rw [List.filterMap_cons,hf];exact List.mem_cons_of_mem _ hb)) hr⟩
 exact all X.outer (fun _ hb=>hb) I.ok.ky
theorem Inv.stack (I:Inv X pins σ H s):s.heap.FunFrames X.base X.stack:=by
 rcases I.ok.stk with e | ⟨e,hf⟩
 ·rw [e];exact I.ky
 ·rw [e]
  obtain ⟨m,hn,_⟩:=I.loc
  refine .cons (by rw [I.ok.kind];decide) hf hn ?_ I.ky
  exact Heap.get?_none_of_le (Nat.le_trans I.ok.bsz I.ok.above)
theorem Inv.iQ (I:Inv X pins σ H s):∀ b∈qo X.stack,b∈X.env.locals::X.fs:=fun b hb=>by
 rcases I.ok.stk with e | ⟨e,hf⟩
 ·rw [e] at hb;exact List.mem_cons_of_mem _ hb
 ·rw [e] at hb
  unfold qo at hb
  rw [List.filterMap_cons,hf] at hb
  exact hb
theorem Inv.wb (I:Inv X pins σ H s):∀ b∈qo X.stack,H b=none:=fun b hb=>by
 rcases List.mem_cons.mp (I.iQ b hb) with e | hb
 ·rw [e];exact I.free
 ·obtain ⟨_,o,ho,_⟩:=I.ok.ky.mem hb
  exact I.base.free b o ho (I.ok.frf b hb) fun z=>I.ok.exfs b z hb
theorem Inv.step {g':Array GenState} {t':Nat} {d':Drawn} {ch:List Addr} (I:Inv X pins σ H s)
  (hch:∀ b∈ch,(b∈X.ex\/X.s₀.heap.objs.size<=b)/\b≠X.env.locals/\(∀ x c,X.env.cells.lookup x=some c->c≠b)/\∀ p∈X.pn++pins,p.1≠b)
  (keep:∀ b o,b≠X.env.locals->b∉X.fs->b∉ch->s.heap.get? b=some o->H b=none->h'.get? b=some o)
  (slot:∀ b o,b≠X.env.locals->b∈X.fs->b∉ch->s.heap.get? b=some o->H b=none->∃ sl,h'.get? b=some {o with slots:=sl}) (free:∀ b o,b∉ch->s.heap.get? b=some o->H b=none->H' b=none)
  (there:∀ b o,b∉ch->s.heap.get? b=some o->∃ o',h'.get? b=some o')
  (tups:∀ b xs,H b=some (.tup xs)->H' b=some (.tup xs)) (frzs:∀ b o u,H b=some (.frz o u)->H' b=some (.frz o u)) (tbls:∀ b ps,H b=some (.tbl ps)->∃ more,H' b=some (.tbl (ps++more)))
  (ns:∀ m,s.heap.Ns X.env.locals m->h'.Ns X.env.locals m) (hok:iP X.prog X.w H' h') (hg:AllBare g') :
  Inv X pins σ H' {s with heap:=h',gens:=g',drawn:=d',toks:=t'}:=by
 have neL:∀ b o,X.s₀.heap.get? b=some o->b≠X.env.locals:=fun b o e=>Nat.ne_of_lt (Nat.lt_of_lt_of_le (Heap.lt_size e) I.ok.above)
 have neC:∀ b o,X.s₀.heap.get? b=some o->b∉X.ex->b∉ch:=fun b o e hx hb=>by
  rcases (hch b hb).1 with z | z
  ·exact hx z
  ·exact absurd (Nat.lt_of_lt_of_le (Heap.lt_size e) z) (Nat.lt_irrefl _)
 have cellK:∀ x c,X.env.cells.lookup x=some c->∀ v,s.heap.IsCell c v->h'.IsCell c v:=fun x c e v ⟨o,ho,hd⟩=>by
  have nch:c∉ch:=fun z=>(hch c z).2.2.1 x c e rfl
  by_cases hc:c∈X.fs
  ·obtain ⟨sl,q⟩:=slot c o (I.D2 x c e) hc nch ho (I.freeC x c e)
   exact ⟨_,q,hd⟩
  ·exact ⟨o,keep c o (I.D2 x c e) hc nch ho (I.freeC x c e),hd⟩
 refine ⟨I.ok,I.os,hg,⟨fun b o e n hb hx=>?_,fun b o e n hb hx=>?_,fun b o e n hx=>?_,fun b o e hx=>?_,fun b xs e=>tups b xs (I.base.tups b xs e),fun b o xs e=>frzs b o xs (I.base.frzs b o xs e),fun b ps e=>?_⟩,?_,fun x c e=>?_,?_,fun x c e=>?_,fun p hp=>?_,hok,I.len⟩
 ·exact keep b o (neL b o e) hb (neC b o e hx) (I.base.keep b o e n hb hx) (I.base.free b o e n hx)
 ·obtain ⟨sl,e1⟩:=I.base.slot b o e n hb hx
  obtain ⟨sl',e2⟩:=slot b _ (neL b o e) hb (neC b o e hx) e1 (I.base.free b o e n hx)
  exact ⟨sl',e2⟩
 ·obtain ⟨o',e1⟩:=I.base.there b o e hx
  exact free b o' (neC b o e hx) e1 (I.base.free b o e n hx)
 ·obtain ⟨o',e1⟩:=I.base.there b o e hx
  exact there b o' (neC b o e hx) e1
 ·obtain ⟨m1,e1⟩:=I.base.tbls b ps e
  obtain ⟨m2,e2⟩:=tbls b _ e1
  exact ⟨m1++m2,by rw [e2,Array.append_assoc]⟩
 ·obtain ⟨m,hn,hl⟩:=I.loc
  refine ⟨m,ns m hn,fun i x v e1 e2 e3=>?_⟩
  obtain ⟨u,r,l⟩:=hl i x v e1 e2 e3
  refine ⟨u,r,?_⟩
  rcases l with l | ⟨k,c,e,z⟩
  ·exact .inl l
  ·exact .inr ⟨k,c,e,cellK x c e _ z⟩
 ·obtain ⟨v,z⟩:=I.cell x c e
  exact ⟨v,cellK x c e v z⟩
 ·obtain ⟨m,⟨o,_,_,ho,_⟩,_⟩:=I.loc
  exact free _ o (fun z=>(hch _ z).2.1 rfl) ho I.free
 ·obtain ⟨v,o,ho,hd⟩:=I.cell x c e
  exact free c o (fun z=>(hch c z).2.2.1 x c e rfl) ho (I.freeC x c e)
 ·obtain ⟨e,n,ne,nf,d⟩:=I.pin p hp
  have nch:p.1∉ch:=fun z=>(hch p.1 z).2.2.2 p hp rfl
  exact ⟨keep p.1 p.2 ne nf nch e n,free p.1 p.2 nch e n,ne,nf,d⟩
theorem Inv.un {t':Nat} (I:Inv X pins σ H s) (u:Un X.fs [] H H' s.heap h') (hok:iP X.prog X.w H' h'):Inv X pins σ H' {s with heap:=h',toks:=t'}:=by
 obtain ⟨m,⟨o,es,ep,ho,r⟩,_⟩:=id I.loc
 obtain ⟨sl,hL⟩:=u.any ho I.free (by simp)
 exact I.step (g':=s.gens) (d':=s.drawn) (ch:=[]) (fun _ z=>nomatch z) (fun b o _ hb _ e n=>u.keep b o e n hb (by simp)) (fun b o _ hb _ e n=>u.slot b o e n hb (by simp)) (fun b o _ e n=>u.free b o e n (by simp)) (fun b o _ e=>u.there b o e (by simp)) u.tups u.frzs u.tbls (fun m' hm=>by
  obtain ⟨o',es',ep',ho',r'⟩:=hm
  rw [ho] at ho';cases ho'
  exact ⟨_,es',ep',hL,r'⟩) hok I.bare
theorem Inv.call {g':Array GenState} {t':Nat} {d':Drawn} {ch:List Addr} (I:Inv X pins σ H s) (u:Un (qo X.stack) ch H H' s.heap h') (hok:iP X.prog X.w H' h') (hg:AllBare g')
  (hch:∀ b∈ch,(b∈X.ex\/X.s₀.heap.objs.size<=b)/\b≠X.env.locals/\(∀ x c,X.env.cells.lookup x=some c->c≠b)/\∀ p∈X.pn++pins,p.1≠b) :
  Inv X pins σ H' {s with heap:=h',gens:=g',drawn:=d',toks:=t'}:=by
 obtain ⟨m,⟨o,es,ep,ho,r⟩,_⟩:=id I.loc
 obtain ⟨sl,hL⟩:=u.any ho I.free fun z=>(hch _ z).2.1 rfl
 exact I.step (ch:=ch) hch (fun b o hL hb hc e n=>u.keep b o e n (fun z=>(List.mem_cons.mp (I.iQ b z)).elim hL hb) hc) (fun b o _ _ hc e n=>u.any e n hc) (fun b o hc e n=>u.free b o e n hc) (fun b o hc e=>u.there b o e hc) u.tups u.frzs u.tbls (fun m' hm=>by
  obtain ⟨o',es',ep',ho',r'⟩:=hm
  rw [ho] at ho';cases ho'
  exact ⟨_,es',ep',hL,r'⟩) hok hg
theorem Inv.turned {t':Nat} {it:Addr} (I:Inv X pins σ H s) (k:∀ b o,b≠it->s.heap.get? b=some o->h'.get? b=some o) (hn:H it=none) (hL:it≠X.env.locals)
  (h1:it∈X.ex\/X.s₀.heap.objs.size<=it) (h2:∀ x c,X.env.cells.lookup x=some c->c≠it) (h3:∀ p∈X.pn++pins,p.1≠it):Inv X pins σ H {s with heap:=h',toks:=t'}:=by
 have nit:∀ b u,H b=some u->b≠it:=fun b u e z=>by rw [z,hn] at e;cases e
 refine I.step (g':=s.gens) (d':=s.drawn) (ch:=[it]) (fun b hb=>?_) (fun b o _ _ hc e _=>k b o (fun z=>hc (by simp [z])) e) (fun b o _ _ hc e _=>⟨o.slots,k b o (fun z=>hc (by simp [z])) e⟩) (fun _ _ _ _ n=>n)
  (fun b o hc e=>⟨o,k b o (fun z=>hc (by simp [z])) e⟩) (fun _ _ e=>e) (fun _ _ _ e=>e) (fun b ps e=>⟨#[],by rw [e];simp⟩) (fun m hm=>?_) (fun b u e=>?_) I.bare
 ·have e:b=it:=by simpa using hb
  subst e
  exact ⟨h1,hL,h2,h3⟩
 ·obtain ⟨o,es,ep,ho,r⟩:=hm
  exact ⟨o,es,ep,k _ o (Ne.symm hL) ho,r⟩
 ·refine (I.hok b u e).pN (fun c v hc q=>k c v ?_ q) (fun _ q=>q) fun _ _ q=>q
  rcases hc with z | z
  ·rw [z];exact nit b u e
  ·exact nit c _ z
theorem Inv.tok (I:Inv X pins σ H s) (t:Nat):Inv X pins σ H {s with toks:=t}:=I.un (h':=s.heap) (t':=t) Un.refl I.hok
theorem Inv.kept {t':Nat} (I:Inv X pins σ H s) (k:∀ b u,s.heap.get? b=some u->h'.get? b=some u):Inv X pins σ H {s with heap:=h',toks:=t'}:=I.un (Un.kept k) (I.hok.kept k)
theorem Inv.laid {a:Addr} {o:HO} {t':Nat} (I:Inv X pins σ H s) (k:∀ b u,s.heap.get? b=some u->h'.get? b=some u) (hp:s.heap.objs.size<=a) (new:cA X.prog X.w (upd H a o) h' a o) :
  Inv X pins σ (upd H a o) {s with heap:=h',toks:=t'}:=I.un (Un.laid k hp (I.hok.fresh hp)) (I.hok.laid k hp new)
theorem Inv.write {x e:Addr} {o:HO} {t':Nat} (I:Inv X pins σ H s) (mu:FR (H x)) (he:e=x\/H e=some (.own x)) (k:∀ b u,b≠e->s.heap.get? b=some u->h'.get? b=some u) (heo:∃ u,h'.get? e=some u)
  (new:cA X.prog X.w (upd H x o) h' x o):Inv X pins σ (upd H x o) {s with heap:=h',toks:=t'}:=I.un (Un.write mu he k heo) (I.hok.write mu he k heo new)
theorem Inv.jt {pins':List (Addr×Obj)} (I:Inv X pins σ H s) (h:∀ p∈pins',s.heap.get? p.1=some p.2/\H p.1=none/\p.1≠X.env.locals/\p.1∉X.fs/\∀ v,p.2.data≠.cell v):Inv X pins' σ H s:=
 ⟨I.ok,I.os,I.bare,I.base,I.loc,I.cell,I.free,I.freeC,fun p hp=>(List.mem_append.mp hp).elim (fun z=>I.pin p (List.mem_append_left _ z)) (h p),I.hok,I.len⟩
theorem sU {N:List Str} (hN:N.Nodup) {i j:Nat} {x:Str} (a:N[i]?=some x) (b:N[j]?=some x):i=j:=by
 obtain ⟨h1,e1⟩:=List.getElem?_eq_some_iff.mp a
 obtain ⟨h2,e2⟩:=List.getElem?_eq_some_iff.mp b
 exact (List.getElem_inj hN).mp (e1.trans e2.symm)
theorem ju {M:Model} {A:Around} {E:Value->Shared->Prop} {i:Nat} {x:Str} {v:V} {u:Value} {Q:Unit->Shared->Prop} (I:Inv X pins σ H s) (hN:X.N.Nodup) (hi:X.N[i]?=some x) (hx:Loc X.env.scope x) (r:RelV v u)
  (h:∀ s',Inv X pins (σ.set i (some v)) H s'->(∃ a,Heap.SameBut a s.heap s'.heap/\(a=X.env.locals\/X.env.cells.lookup x=some a))->Q () s') (hf:X.fn x=true\/X.env.scope.names.lookup x=some .local:=by first | exact .inl rfl | exact .inr rfl | assumption):wpAny M A (storeName X.env x u) Q E s:=by
 obtain ⟨m,hn,hl⟩:=id I.loc
 have hcls:(X.env.scope.kind == .class || (X.env.scope.kind == .module && X.env.locals != X.env.globals))=false:=by rw [I.ok.kind];rfl
 have hiσ:i < σ.length:=by rw [I.len];exact (List.getElem?_eq_some_iff.mp hi).1
 have D2:=I.D2
 have tracked:∀ {a:Addr} {h':Heap},(∃ o,s.heap.get? a=some o/\H a=none)->Heap.SameBut a s.heap h'->iP X.prog X.w H h':=fun {a h'} ha hs b ob e=>by
  obtain ⟨_,_,hfree⟩:=ha
  refine (I.hok b ob e).pN (fun c w' hc q=>(hs.2 c ?_).trans q) (fun _ q=>q) fun _ _ q=>q
  rintro rfl
  rcases hc with rfl | hc
  ·rw [hfree] at e;cases e
  ·rw [hfree] at hc;cases hc
 rcases hx with hk | hk
 ·refine wpAny_storeName_local hk hn (fun h' hn' hs=>?_) hcls
  obtain ⟨oL,_,_,hoL,_⟩:=id hn
  refine h _ ⟨I.ok,I.os,I.bare,⟨fun b o e n hb hx=>?_,fun b o e n hb hx=>?_,I.base.free,fun b o e hx=>?_,I.base.tups,I.base.frzs,I.base.tbls⟩,⟨_,hn',fun j y v' e1 e2 e3=>?_⟩,fun y c e=>?_,I.free,I.freeC,fun p hp=>?_,tracked ⟨oL,hoL,I.free⟩ hs,by simpa using I.len⟩ ⟨_,hs,.inl rfl⟩
  ·exact (hs.2 b (Nat.ne_of_lt (Nat.lt_of_lt_of_le (Heap.lt_size e) I.ok.above))).trans (I.base.keep b o e n hb hx)
  ·obtain ⟨sl,e1⟩:=I.base.slot b o e n hb hx
   exact ⟨sl,(hs.2 b (Nat.ne_of_lt (Nat.lt_of_lt_of_le (Heap.lt_size e) I.ok.above))).trans e1⟩
  ·obtain ⟨o',e1⟩:=I.base.there b o e hx
   exact ⟨o',(hs.2 b (Nat.ne_of_lt (Nat.lt_of_lt_of_le (Heap.lt_size e) I.ok.above))).trans e1⟩
  ·by_cases hj:j=i
   ·subst hj
    rw [hi] at e1;cases e1
    rw [List.getElem?_set_self hiσ] at e2
    cases e2
    exact ⟨u,r,.inl ⟨hk,by simp⟩⟩
   ·rw [List.getElem?_set_ne (Ne.symm hj)] at e2
    obtain ⟨u',r',q⟩:=hl j y v' e1 e2 e3
    refine ⟨u',r',?_⟩
    rcases q with ⟨k,e⟩ | ⟨k,c,e,z⟩
    ·refine .inl ⟨k,?_⟩
     have:y≠x:=fun e=>hj (sU hN e1 (e▸hi))
     simp [this,e]
    ·exact .inr ⟨k,c,e,z.sameBut hs (D2 y c e)⟩
  ·obtain ⟨w',z⟩:=I.cell y c e
   exact ⟨w',z.sameBut hs (D2 y c e)⟩
  ·obtain ⟨e,n,ne,nf,d⟩:=I.pin p hp
   exact ⟨(hs.2 p.1 ne).trans e,n,ne,nf,d⟩
 ·have hfn:X.fn x=true:=by
   rcases hf with z | z
   ·exact z
   ·rw [z] at hk;cases hk
  obtain ⟨c,hc⟩:=I.ok.has x (.inl hk)
  obtain ⟨w',z⟩:=I.cell x c hc
  refine wpAny_storeName_cell I.ok.kind hk hc z (fun h' hc' hs=>?_)
  obtain ⟨oc,hoc,hocd⟩:=id z
  refine h {s with heap:=h'} ⟨I.ok,I.os,I.bare,⟨fun b o e n hb hx=>?_,fun b o e n hb hx=>?_,I.base.free,fun b o e hx=>?_,I.base.tups,I.base.frzs,I.base.tbls⟩,⟨m,hn.sameBut hs (Ne.symm (D2 x c hc)),fun j y v' e1 e2 e3=>?_⟩,fun y c' e=>?_,I.free,I.freeC,fun p hp=>?_,tracked ⟨oc,hoc,I.freeC x c hc⟩ hs,by simpa using I.len⟩ ⟨c,hs,.inr hc⟩
  ·exact (hs.2 b (Nat.ne_of_lt (Nat.lt_of_lt_of_le (Heap.lt_size e) (I.ok.cab x c hfn hc)))).trans (I.base.keep b o e n hb hx)
  ·obtain ⟨sl,e1⟩:=I.base.slot b o e n hb hx
   exact ⟨sl,(hs.2 b (Nat.ne_of_lt (Nat.lt_of_lt_of_le (Heap.lt_size e) (I.ok.cab x c hfn hc)))).trans e1⟩
  ·obtain ⟨o',e1⟩:=I.base.there b o e hx
   exact ⟨o',(hs.2 b (Nat.ne_of_lt (Nat.lt_of_lt_of_le (Heap.lt_size e) (I.ok.cab x c hfn hc)))).trans e1⟩
  ·by_cases hj:j=i
   ·subst hj
    rw [hi] at e1;cases e1
    rw [List.getElem?_set_self hiσ] at e2
    cases e2
    exact ⟨u,r,.inr ⟨.inl hk,c,hc,hc'⟩⟩
   ·rw [List.getElem?_set_ne (Ne.symm hj)] at e2
    obtain ⟨u',r',q⟩:=hl j y v' e1 e2 e3
    refine ⟨u',r',?_⟩
    rcases q with q | ⟨k,c',e,z'⟩
    ·exact .inl q
    ·refine .inr ⟨k,c',e,z'.sameBut hs ?_⟩
     rintro rfl
     exact hj (sU hN e1 (I.ok.inj _ _ _ e hc▸hi))
  ·by_cases hcc:c'=c
   ·subst hcc;exact ⟨_,hc'⟩
   ·obtain ⟨w2,z2⟩:=I.cell y c' e
    exact ⟨w2,z2.sameBut hs hcc⟩
  ·obtain ⟨e,n,ne,nf,d⟩:=I.pin p hp
   refine ⟨(hs.2 p.1 ?_).trans e,n,ne,nf,d⟩
   intro q
   rw [q,hoc] at e
   have q':oc=p.2:=Option.some.inj e
   exact d w' (by rw [<- q'];exact hocd)
theorem kz {M:Model} {A:Around} {E:Value->Shared->Prop} {i:Nat} {x:Str} {v:V} {u:Value} {Q:Unit->Shared->Prop} (I:Inv X pins σ H s) (hN:X.N.Nodup) (hi:X.N[i]?=some x) (hx:Loc X.env.scope x) (r:RelV v u)
  (h:∀ s',Inv X pins (σ.set i (some v)) H s'->Q () s') (hf:X.fn x=true\/X.env.scope.names.lookup x=some .local:=by first | exact .inl rfl | exact .inr rfl | assumption):wpAny M A (storeName X.env x u) Q E s:=
 ju I hN hi hx r (fun s' I' _=>h s' I') hf
theorem Inv.Dd {s':Shared} {ch:List Addr} (I:Inv X pins σ H s) (ho:s'.os=s.os) (u:Un (qo X.stack) ch H H' s.heap s'.heap) (hok:iP X.prog X.w H' s'.heap) (hg:AllBare s'.gens)
  (hch:∀ b∈ch,(b∈X.ex\/X.s₀.heap.objs.size<=b)/\b≠X.env.locals/\(∀ x c,X.env.cells.lookup x=some c->c≠b)/\∀ p∈X.pn++pins,p.1≠b):Inv X pins σ H' s':=by
 obtain ⟨h',g',d',t',o'⟩:=s'
 have e:o'=s.os:=ho
 subst e
 exact I.call (g':=g') (t':=t') (d':=d') u hok hg hch
end
abbrev XK:=Value->Option Addr->Hp->Prop
abbrev St:=List (Option V)
abbrev VK:=V->Hp->Prop
abbrev TE:=St->Hp->VK->Prop
abbrev TT:=St->Hp->(Bool->Hp->Prop)->Prop
abbrev TA:=St->Hp->(List V->Hp->Prop)->Prop
structure Ends where
 nx:St->Hp->Prop
 rt:VK
 bk:St->Hp->Prop:=fun _ _=>False
 ct:St->Hp->Prop:=fun _ _=>False
abbrev TS:=Ends->St->Hp->Prop
def EP (X:Cx) (pins:List (Addr×Obj)) (σ:St) (Q:VK) (u:Value) (s':Shared):Prop:=∃ v H',Inv X pins σ H' s'/\RelV v u/\Q v H'
def TP (X:Cx) (pins:List (Addr×Obj)) (σ:St) (Q:Bool->Hp->Prop) (b:Bool) (s':Shared):Prop:=∃ H',Inv X pins σ H' s'/\Q b H'
def AP (X:Cx) (pins:List (Addr×Obj)) (σ:St) (Q:List V->Hp->Prop) (us:List Value) (s':Shared):Prop:=∃ vs H',Inv X pins σ H' s'/\Vals vs us/\Q vs H'
def SP (X:Cx) (pins:List (Addr×Obj)) (D:Ends) (f:Flow) (s':Shared):Prop:=
 match f with
 | .next=>∃ σ' H',Inv X pins σ' H' s'/\D.nx σ' H'
 | .brk=>∃ σ' H',Inv X pins σ' H' s'/\D.bk σ' H'
 | .cont=>∃ σ' H',Inv X pins σ' H' s'/\D.ct σ' H'
 | .ret u=>∃ v σ' H',Inv X pins σ' H' s'/\RelV v u/\D.rt v H'
def PE (X:Cx) (e:Expr) (t:TE):Prop:=
 ∀ (pins:List (Addr×Obj)) (s:Shared) (σ:St) (H:Hp) (Q:VK),Inv X pins σ H s->t σ H Q->wpAny (model X.prog X.w) X.A (eval e X.env) (EP X pins σ Q) X.xe s
def PT (X:Cx) (e:Expr) (t:TT):Prop:=
 ∀ (pins:List (Addr×Obj)) (s:Shared) (σ:St) (H:Hp) (Q:Bool->Hp->Prop),Inv X pins σ H s->t σ H Q->wpAny (model X.prog X.w) X.A (isTrue e X.env (eval e X.env)) (TP X pins σ Q) X.xe s
def PW (X:Cx) (e:Expr) (t:TT):Prop:=
 ∀ (whole:Sem Value) (pins:List (Addr×Obj)) (s:Shared) (σ:St) (H:Hp) (Q:Bool->Hp->Prop),Inv X pins σ H s->t σ H Q->wpAny (model X.prog X.w) X.A (isTrue e X.env whole) (TP X pins σ Q) X.xe s
theorem PW.pt {X:Cx} {e:Expr} {t:TT} (h:PW X e t):PT X e t:=h _
def PA (X:Cx) (es:List Expr) (t:TA):Prop:=
 ∀ (pos:Pos) (pins:List (Addr×Obj)) (s:Shared) (σ:St) (H:Hp) (Q:List V->Hp->Prop),Inv X pins σ H s->t σ H Q->wpAny (model X.prog X.w) X.A (spliced (backTo pos (starEach es X.env))) (AP X pins σ Q) X.xe s
def PS (X:Cx) (st:Stmt) (t:TS):Prop:=
 ∀ (pins:List (Addr×Obj)) (s:Shared) (σ:St) (H:Hp) (D:Ends),Inv X pins σ H s->t D σ H->wpAny (model X.prog X.w) X.A (exec st X.env) (SP X pins D) X.xe s
def uW (X:Cx) (st:List Stmt) (t:TS):Prop:=
 ∀ (pins:List (Addr×Obj)) (s:Shared) (σ:St) (H:Hp) (D:Ends),Inv X pins σ H s->t D σ H->wpAny (model X.prog X.w) X.A (execs st X.env) (SP X pins D) X.xe s
theorem bJ {α:Type} {t:Sem α} {Q Q':α->Shared->Prop} {M:Model} {A:Around} {E:Value->Shared->Prop} {s:Shared} (h:wpAny M A t Q E s) (hQ:∀ a s,Q a s->Q' a s):wpAny M A t Q' E s:=wpAny_mono h hQ fun _ _ x=>x
end L2
namespace L2
open PySem PySem.Spec PyProof.Rows
section
variable {X:Cx}
def HV (i:Nat):TE:=fun σ H Q=>∃ v,σ[i]?=some (some v)/\Q v H
def tC (v:V):TE:=fun _ H Q=>Q v H
theorem D3 {i:Nat} {x:Str} {pos:Pos} (hN:X.N[i]?=some x) (hv:Dc X.env.scope x) (hd:(x == ("__debug__" : Str))=false:=by decide) (hcd:(x == ("__classdict__" : Str))=false:=by decide):PE X (.Name x pos) (HV i):=by
 intro pins s σ H Q I h
 obtain ⟨v,e,h⟩:=h
 obtain ⟨m,hn,hl⟩:=I.loc
 obtain ⟨u,r,l⟩:=hl i x v hN e hv
 have fin:EP X pins σ Q u s:=⟨v,H,I,r,h⟩
 rcases l with ⟨hk,hm⟩ | ⟨hk,c,hc,hcell⟩
 ·exact wpAny_Name (wpAny_loadName_local I.ok.kind hk hn hm fin) hd
 ·rcases hk with hk | hk
  ·exact wpAny_Name (wpAny_loadName_cell I.ok.kind hk hc hcell fin) hd
  ·exact wpAny_Name (wpAny_loadName_free I.ok.kind hk hc hcell fin hcd) hd
theorem lU {i j pos}:PE X (.Constant (.int i) j pos) (tC (.int i)):=fun _ _ _ H _ I h=>wpAny_Constant_int ⟨.int i,H,I.tok _,⟨_,rfl⟩,h⟩
theorem De {b j pos}:PE X (.Constant (.bool b) j pos) (tC (.bl b)):=fun _ _ _ H _ I h=>Constant_bool ⟨.bl b,H,I,rfl,h⟩
theorem yJ {j pos}:PE X (.Constant .none j pos) (tC .non):=fun _ _ _ H _ I h=>Constant_none ⟨.non,H,I,rfl,h⟩
theorem uX {x j pos}:PE X (.Constant (.str x) j pos) (tC (.str x)):=fun _ _ _ H _ I h=>Calls.Constant_str ⟨.str x,H,I.tok _,⟨_,rfl⟩,h⟩
def Gl (X:Cx) (x:Str):Prop:=X.env.kindOf x=some .globalImplicit
theorem wc {E:Value->Shared->Prop} {pins:List (Addr×Obj)} {s:Shared} {σ:St} {H:Hp} {x:Str} {u:Value} {pos:Pos} {Q:Value->Shared->Prop} (I:Inv X pins σ H s) (hg:Gl X x) (hm:X.mg x=some u) (h:Q u s)
  (hd:(x == ("__debug__" : Str))=false:=by decide):wpAny (model X.prog X.w) X.A (eval (.Name x pos) X.env) Q E s:=
 Calls.Name_function_global I.ok.kind hg (Calls.loadGlobal_global (by rw [I.ok.glob];exact I.mod.glob.keeps I.bk) hm h) hd
theorem gC {E:Value->Shared->Prop} {pins:List (Addr×Obj)} {s:Shared} {σ:St} {H:Hp} {x:Str} {u:Value} {pos:Pos} {Q:Value->Shared->Prop} (I:Inv X pins σ H s) (hg:Gl X x) (hm:X.mg x=none) (hv:bootBuiltins x=some u) (h:Q u s)
  (hn:x ≠ "__name__" := by decide) (hd:(x == ("__debug__" : Str))=false:=by decide):wpAny (model X.prog X.w) X.A (eval (.Name x pos) X.env) Q E s:=by
 obtain ⟨mb,h1,h2⟩:=I.mod.blt
 exact Calls.Name_function_global I.ok.kind hg (Calls.loadGlobal_builtin (by rw [I.ok.glob];exact I.mod.glob.keeps I.bk) hm (by rw [I.ok.blt];exact h1.keeps I.bk) ((h2 x hn).trans hv) h) hd
theorem wd {x:Str} {v:V} {u:Value} {pos:Pos} (hg:Gl X x) (hm:X.mg x=some u) (r:RelV v u) (hd:(x == ("__debug__" : Str))=false:=by decide):PE X (.Name x pos) (tC v):=
 fun _ _ _ H _ I h=>wc I hg hm ⟨v,H,I,r,h⟩ hd
theorem Bm {x:Str} {v:V} {u:Value} {pos:Pos} (hg:Gl X x) (hm:X.mg x=none) (hv:bootBuiltins x=some u) (r:RelV v u) (hn:x ≠ "__name__" := by decide) (hd:(x == ("__debug__" : Str))=false:=by decide):PE X (.Name x pos) (tC v):=
 fun _ _ _ H _ I h=>gC I hg hm hv ⟨v,H,I,r,h⟩ hn hd
variable {a b:Expr} {ta tb:TE} {pos:Pos}
variable {tA tB':TT} {rest:List Expr}
def nJ (t u:TT):TT:=fun σ H Q=>t σ H fun c H1=>if c=true then u σ H1 Q else Q false H1
def Ba (t u:TT):TT:=fun σ H Q=>t σ H fun c H1=>if c=true then Q true H1 else u σ H1 Q
def iR (t:TT):TT:=fun σ H Q=>t σ H fun c H1=>Q (!c) H1
theorem Bn (ha:PT X a tA):PW X (.BoolOp .And [a] pos) tA:=by
 intro wh pins s σ H Q I h
 refine isTrue_and (bJ (ha pins s σ H Q I h) fun c s1 e=>?_)
 cases c with
 | true=>exact isTrue_and_nil e
 | false=>exact e
theorem D4 (ha:PT X a tA):PW X (.BoolOp .Or [a] pos) tA:=by
 intro wh pins s σ H Q I h
 refine isTrue_or (bJ (ha pins s σ H Q I h) fun c s1 e=>?_)
 cases c with
 | false=>exact isTrue_or_nil e
 | true=>exact e
theorem D5 (ha:PT X a tA) (hb:PW X (.BoolOp .And (b::rest) pos) tB'):PW X (.BoolOp .And (a::b::rest) pos) (nJ tA tB'):=by
 intro wh pins s σ H Q I h
 refine isTrue_and (bJ (ha pins s σ H _ I h) fun c s1 ⟨H1,I1,q1⟩=>?_)
 cases c with
 | true=>exact hb wh pins s1 σ H1 Q I1 q1
 | false=>exact ⟨H1,I1,q1⟩
theorem F6 (ha:PT X a tA) (hb:PW X (.BoolOp .Or (b::rest) pos) tB'):PW X (.BoolOp .Or (a::b::rest) pos) (Ba tA tB'):=by
 intro wh pins s σ H Q I h
 refine isTrue_or (bJ (ha pins s σ H _ I h) fun c s1 ⟨H1,I1,q1⟩=>?_)
 cases c with
 | true=>exact ⟨H1,I1,q1⟩
 | false=>exact hb wh pins s1 σ H1 Q I1 q1
theorem D6 (ha:PT X a tA):PT X (.UnaryOp .Not a pos) (iR tA):=by
 intro pins s σ H Q I h
 exact isTrue_not (ha pins s σ H (fun c H1=>Q (!c) H1) I h)
theorem D7 {op} {t:TE} (h:PE X a t):PE X (.BoolOp op [a] pos) t:=fun pins s σ H Q I hw=>BoolOp_one (h pins s σ H Q I hw)
def J1 (t:TT) (ta tb:TE):TE:=fun σ H Q=>t σ H fun c H1=>if c=true then ta σ H1 Q else tb σ H1 Q
theorem yK {c:Expr} (hc:PT X c tA) (ha:PE X a ta) (hb:PE X b tb):PE X (.IfExp c a b pos) (J1 tA ta tb):=by
 intro pins s σ H Q I h
 refine wpAny_IfExp (bJ (hc pins s σ H _ I h) fun d s1 ⟨H1,I1,q1⟩=>?_)
 cases d with
 | true=>exact ha pins s1 σ H1 Q I1 q1
 | false=>exact hb pins s1 σ H1 Q I1 q1
end
end L2
namespace L2
open PySem PySem.Spec PyProof.Rows
def gD (K:PySem.W.Frag) (H:Hp) (a:Addr) (xs:List V):Prop:=
 Rd H a (.lst xs) \/
  ∃ (o:Obj) (its:Array Value) (n:Nat),K.lookup a=some o/\o.cls=.type "list" /\ o.dict=none/\o.data=.seq its n/\its.size<=sizeLine/\Vals xs its.toList
def eZ (K:PySem.W.Frag) (H:Hp) (a:Addr) (xs:List V):Prop:=
 Rd H a (.tup xs) \/
  ∃ (o:Obj) (its:Array Value) (n:Nat),K.lookup a=some o/\o.cls=.type "tuple" /\ o.data=.seq its n/\its.size<=sizeLine/\Vals xs its.toList
def HW:Value->Option V
 | .none=>some .non
 | .bool b=>some (.bl b)
 | .int i _=>some (.int i)
 | .str x _=>some (.str x)
 | .bytes b _=>some (.byt b)
 | .float b _=>some (.flt b)
 | .ref a=>some (.ref a)
 | .type n=>some (.ty n)
 | _=>none
theorem RelV.abs {x:V} {u:Value} (r:RelV x u):HW u=some x:=by
 cases x with
 | non=>cases r;rfl
 | bl _=>cases r;rfl
 | int _=>obtain ⟨t,rfl⟩:=r;rfl
 | str _=>obtain ⟨t,rfl⟩:=r;rfl
 | byt _=>obtain ⟨t,rfl⟩:=r;rfl
 | flt _=>obtain ⟨t,rfl⟩:=r;rfl
 | ref _=>cases r;rfl
 | ty _=>cases r;rfl
theorem RelV.inj {x y:V} {u:Value} (r:RelV x u) (q:RelV y u):x=y:=Option.some.inj (r.abs.symm.trans q.abs)
theorem Vals.inj:∀ {xs ys:List V} {us:List Value},Vals xs us->Vals ys us->xs=ys
 | _,_,_,.nil,.nil=>rfl
 | _,_,_,.cons r t,.cons r' t'=>by rw [r.inj r',Vals.inj t t']
section
variable {X:Cx} {pins:List (Addr×Obj)} {σ:St} {H:Hp} {s:Shared} {a:Addr} {xs ys:List V}
theorem gD.of {K:PySem.W.Frag} (h:H a=some (.lst xs)):gD K H a xs:=.inl (.inl h)
theorem eZ.of {K:PySem.W.Frag} (h:H a=some (.tup xs)):eZ K H a xs:=.inl (.inl h)
theorem Inv.list (I:Inv X pins σ H s) (h:gD X.K H a xs):∃ its:List Value,Vals xs its/\PlainL s.heap a its.toArray/\xs.length<=sizeLine:=by
 rcases h with h | ⟨o,its,n,hk,hc,hd,hs,hz,r⟩
 ·obtain ⟨z,its,n,r,e⟩:=h.ok I.hok
  exact ⟨its,r,⟨_,n,e,rfl,rfl,rfl⟩,z⟩
 ·refine ⟨its.toList,r,⟨o,n,I.rj a o hk,hc,hd,by simpa using hs⟩,?_⟩
  have e:=r.length
  simp only [Array.length_toList] at e
  omega
theorem Inv.tuple (I:Inv X pins σ H s) (h:eZ X.K H a xs):∃ its:List Value,Vals xs its/\IsTup s.heap a its.toArray/\xs.length<=sizeLine:=by
 rcases h with h | ⟨o,its,n,hk,hc,hs,hz,r⟩
 ·obtain ⟨z,its,r,p⟩:=h.ok I.hok
  exact ⟨its,r,p,z⟩
 ·refine ⟨its.toList,r,⟨o,I.rj a o hk,hc,n,by simpa using hs⟩,?_⟩
  have e:=r.length
  simp only [Array.length_toList] at e
  omega
theorem Inv.yL (I:Inv X pins σ H s) (h:gD X.K H a xs) (h':gD X.K H a ys):xs=ys:=by
 obtain ⟨its,r,⟨o,n,e,_,_,d⟩,_⟩:=I.list h
 obtain ⟨its',r',⟨o',n',e',_,_,d'⟩,_⟩:=I.list h'
 rw [e] at e';cases e'
 rw [d] at d'
 injection d' with d1 _
 have:its=its':=by simpa using congrArg Array.toList d1
 subst this
 exact r.inj r'
theorem Inv.lV (I:Inv X pins σ H s) (h:eZ X.K H a xs) (h':eZ X.K H a ys):xs=ys:=by
 obtain ⟨its,r,⟨o,e,_,n,d⟩,_⟩:=I.tuple h
 obtain ⟨its',r',⟨o',e',_,n',d'⟩,_⟩:=I.tuple h'
 rw [e] at e';cases e'
 rw [d] at d'
 injection d' with d1 _
 have:its=its':=by simpa using congrArg Array.toList d1
 subst this
 exact r.inj r'
end
abbrev Cx.pO (X:Cx) (E:Value->Shared->Prop):Cx:={X with xe:=E}
abbrev Cx.FT (X:Cx):Cx:=X.pO fun _ _=>False
theorem Cx.Ok.pO {X:Cx} (ok:X.Ok) (E:Value->Shared->Prop):(X.pO E).Ok:=
 ⟨ok.mod,ok.kind,ok.glob,ok.blt,ok.above,ok.inj,ok.has,ok.cab,ok.hd,ok.frames,ok.stk,ok.exf,ok.bs,ok.bsz,ok.noex,ok.exfs,ok.ky,ok.frf⟩
theorem Cx.Ok.iS {X:Cx} {E:Value->Shared->Prop} (ok:(X.pO E).Ok):X.Ok:=
 ⟨ok.mod,ok.kind,ok.glob,ok.blt,ok.above,ok.inj,ok.has,ok.cab,ok.hd,ok.frames,ok.stk,ok.exf,ok.bs,ok.bsz,ok.noex,ok.exfs,ok.ky,ok.frf⟩
section
variable {X:Cx} {pins:List (Addr×Obj)} {σ:St} {H:Hp} {s:Shared} {E:Value->Shared->Prop}
theorem Inv.pO (I:Inv X pins σ H s) (E:Value->Shared->Prop):Inv (X.pO E) pins σ H s:=⟨I.ok.pO E,I.os,I.bare,I.base,I.loc,I.cell,I.free,I.freeC,I.pin,I.hok,I.len⟩
theorem Inv.iS (I:Inv (X.pO E) pins σ H s):Inv X pins σ H s:=⟨I.ok.iS,I.os,I.bare,I.base,I.loc,I.cell,I.free,I.freeC,I.pin,I.hok,I.len⟩
theorem SP.iS {D:Ends} {f:Flow} {s':Shared} (h:SP (X.pO E) pins D f s'):SP X pins D f s':=by
 cases f with
 | next=>obtain ⟨σ',H',I,q⟩:=h;exact ⟨σ',H',I.iS,q⟩
 | brk=>obtain ⟨σ',H',I,q⟩:=h;exact ⟨σ',H',I.iS,q⟩
 | cont=>obtain ⟨σ',H',I,q⟩:=h;exact ⟨σ',H',I.iS,q⟩
 | ret u=>obtain ⟨v,σ',H',I,r,q⟩:=h;exact ⟨v,σ',H',I.iS,r,q⟩
end
section
variable {X:Cx} {st:Stmt} {rest:List Stmt} {t u:TS} {e:Expr} {te:TE} {pos:Pos}
def F7:TS:=fun D σ H=>D.nx σ H
def HX (t u:TS):TS:=fun D σ H=>t {D with nx:=u D} σ H
theorem Bo:uW X [] F7:=fun _ _ σ H _ I h=>wpAny_execs_nil ⟨σ,H,I,h⟩
theorem yM (h1:PS X st t) (h2:uW X rest u):uW X (st::rest) (HX t u):=by
 intro pins s σ H D I h
 refine wpAny_execs_cons (bJ (h1 pins s σ H {D with nx:=u D} I h) fun f s1 q=>?_)
 cases f with
 | next=>
  obtain ⟨σ',H',I',q⟩:=q
  exact h2 pins s1 σ' H' D I' q
 | ret v=>exact q
 | brk=>exact q
 | cont=>exact q
theorem Bp (h1:PS X st t):uW X [st] t:=by
 intro pins s σ H D I h
 refine wpAny_execs_cons (bJ (h1 pins s σ H D I h) fun f s1 q=>?_)
 cases f with
 | next=>exact wpAny_execs_nil q
 | ret v=>exact q
 | brk=>exact q
 | cont=>exact q
theorem Inv.quiet {pins:List (Addr×Obj)} {σ:St} {H:Hp} {s:Shared} (I:Inv X pins σ H s):interactive X.env=false:=by simp [interactive,I.ok.kind]
def F8 (te:TE):TS:=fun D σ H=>te σ H fun _ H1=>D.nx σ H1
theorem Bq (he:PE X e te) (hs:swapsWith e none pos.line X.env=pure false:=by rfl):PS X (.Expr e pos) (F8 te):=by
 intro pins s σ H D I h
 exact wpAny_Expr_any (bJ (he pins s σ H _ I h) fun v s1 ⟨x,H1,I1,r1,q1⟩=>⟨σ,H1,I1,q1⟩) I.quiet hs
def HY (te:TE):TS:=fun D σ H=>te σ H D.rt
theorem D8 (he:PE X e te):PS X (.Return (some e) pos) (HY te):=by
 intro pins s σ H D I h
 exact wpAny_Return_some (bJ (he pins s σ H _ I h) fun v s1 ⟨x,H1,I1,r1,q1⟩=>⟨x,σ,H1,I1,r1,q1⟩)
def HZ (c:TT) (t u:TS):TS:=fun D σ H=>c σ H fun b H1=>if b=true then t D σ H1 else u D σ H1
theorem F9 {c:Expr} {a b:List Stmt} {tc:TT} (hc:PT X c tc) (ha:uW X a t) (hb:uW X b u):PS X (.If c a b pos) (HZ tc t u):=by
 intro pins s σ H D I h
 refine wpAny_If (bJ (hc pins s σ H _ I h) fun d s1 ⟨H1,I1,q1⟩=>?_)
 cases d with
 | true=>exact ha pins s1 σ H1 D I1 q1
 | false=>exact hb pins s1 σ H1 D I1 q1
end
abbrev TG:=V->St->Hp->(St->Hp->Prop)->Prop
abbrev Dg:=List V->St->Hp->(St->Hp->Prop)->Prop
def PG (X:Cx) (target:Expr) (t:TG):Prop:=
 ∀ (pins:List (Addr×Obj)) (s:Shared) (σ:St) (H:Hp) (v:V) (u:Value) (Q:St->Hp->Prop),Inv X pins σ H s->RelV v u->t v σ H Q ->
  wpAny (model X.prog X.w) X.A (assign target X.env u) (fun _ s'=>∃ σ' H',Inv X pins σ' H' s'/\Q σ' H') X.xe s
def FU (X:Cx) (ts:List Expr) (t:Dg):Prop:=
 ∀ (pins:List (Addr×Obj)) (s:Shared) (σ:St) (H:Hp) (vs:List V) (us:List Value) (Q:St->Hp->Prop),Inv X pins σ H s->Vals vs us->t vs σ H Q ->
  wpAny (model X.prog X.w) X.A (assignInOrder ((assignEach ts X.env).map (·.2)) us) (fun _ s'=>∃ σ' H',Inv X pins σ' H' s'/\Q σ' H') X.xe s
abbrev D9:=V->V->V->Hp->(Hp->Prop)->Prop
def Ea (X:Cx) (t:D9):Prop:=
 ∀ (pins:List (Addr×Obj)) (s:Shared) (σ:St) (H:Hp) (o i v:V) (ov iv u:Value) (Q:Hp->Prop),Inv X pins σ H s->RelV o ov->RelV i iv->RelV v u->t o i v H Q ->
  wpAny (model X.prog X.w) X.A (setItem ov iv u) (fun _ s'=>∃ H',Inv X pins σ H' s'/\Q H') X.xe s
section
variable {X:Cx} {pos:Pos}
def ah (i:Nat):TG:=fun v σ H Q=>Q (σ.set i (some v)) H
theorem Br {i:Nat} {x:Str} (hN:X.N.Nodup) (hi:X.N[i]?=some x) (hx:Loc X.env.scope x) (hf:X.fn x=true\/X.env.scope.names.lookup x=some .local:=by first | exact .inl rfl | exact .inr rfl | assumption):PG X (.Name x pos) (ah i):=by
 intro pins s σ H v u Q I r h
 exact wpAny_assign_Name (kz I hN hi hx r (fun s' I'=>⟨_,H,I',h⟩) hf)
def jD:Dg:=fun vs σ H Q=>vs=[]/\Q σ H
def cM (t:TG) (u:Dg):Dg:=fun vs σ H Q=>∃ v r,vs=v::r/\t v σ H fun σ' H'=>u r σ' H' Q
theorem Bt:FU X [] jD:=by
 intro pins s σ H vs us Q I r h
 obtain ⟨e,h⟩:=h
 subst e
 cases r
 exact assignInOrder_nil ⟨σ,H,I,h⟩
theorem yN {e:Expr} {es:List Expr} {t:TG} {u:Dg} (h1:PG X e t) (h2:FU X es u)
  (hs:(assignEach (e::es) X.env).map (·.2)=assign e X.env::(assignEach es X.env).map (·.2):=by rfl):FU X (e::es) (cM t u):=by
 intro pins s σ H vs us Q I r h
 obtain ⟨v,vr,e1,h⟩:=h
 subst e1
 cases r with
 | cons r rr=>
  rw [hs]
  refine assignInOrder_cons (bJ (h1 pins s σ H _ _ _ I r h) fun _ s1 ⟨σ1,H1,I1,q1⟩=>?_)
  exact h2 pins s1 σ1 H1 _ _ Q I1 rr q1
def jE (K:PySem.W.Frag) (n:Nat) (t:Dg):TG:=fun v σ H Q=>∃ a xs,v=.ref a/\eZ K H a xs/\xs.length=n/\t xs σ H Q
theorem Eb {es:List Expr} {k:Nat} {t:Dg} {n:Nat} (hc:X.calm=true) (h:FU X es t)
  (hn:(assignEach es X.env).length=n:=by rfl) (hst:(assignEach es X.env).findIdx? (·.1)=none:=by rfl):PG X (.Tuple es k pos) (jE X.K n t):=by
 intro pins s σ H v u Q I r hw
 obtain ⟨a,xs,e1,hq,hl,hw⟩:=hw
 subst e1
 cases r
 obtain ⟨its,rv,ht,hz⟩:=I.tuple hq
 refine assign_Tuple_tuple (I.ok.hd hc) ht (by simp [hn,<- hl,rv.length]) hst fun h' hx=>?_
 have I1:Inv X pins σ H {s with heap:=h'}:=I.kept (t':=s.toks) fun b o e=>hx b o (Nat.ne_of_lt (Heap.lt_size e)) e
 exact h pins _ σ H xs _ Q I1 (by simpa using rv) hw
def pP (to ti:TE) (t:D9):TG:=fun v σ H Q=>to σ H fun o H1=>ti σ H1 fun i H2=>t o i v H2 fun H3=>Q σ H3
theorem Ec {o i:Expr} {to ti:TE} {t:D9} (ho:PE X o to) (hi:PE X i ti) (hs:Ea X t)
  (ha:∀ v,assign (.Subscript o i pos) X.env v=(do
   let ov <- holding [v] (eval o X.env)
   let iv <- holding [v,ov] (eval i X.env)
   standAt pos
   holding [v,ov,iv] (setItem ov iv v)
   release [v,ov,iv] []):=by intro _;rfl):PG X (.Subscript o i pos) (pP to ti t):=by
 intro pins s σ H v u Q I r h
 rw [ha]
 refine wpAny_bind (wpAny_holding (bJ (ho pins s σ H _ I h) fun ov s1 ⟨x,H1,I1,r1,q1⟩=>?_))
 refine wpAny_bind (wpAny_holding (bJ (hi pins s1 σ H1 _ I1 q1) fun iv s2 ⟨y,H2,I2,r2,q2⟩=>?_))
 refine wpAny_bind (wpAny_standAt (wpAny_bind (wpAny_holding (bJ (hs pins s2 σ H2 x y v ov iv u _ I2 r1 r2 r q2) fun _ s3 ⟨H3,I3,q3⟩=>?_))))
 exact wpAny_release ⟨σ,H3,I3,q3⟩
def uY (te:TE) (g:TG):TS:=fun D σ H=>te σ H fun x H1=>g x σ H1 D.nx
theorem Ed {tg e:Expr} {te:TE} {g:TG} (he:PE X e te) (hg:PG X tg g) (hs:swapsWithSole [tg] e pos.line X.env=pure false:=by rfl) (hw:swappedStores [tg] e X.env=pure none:=by rfl)
  (h1:(assignEach [tg] X.env).map (·.2)=[assign tg X.env]:=by rfl):PS X (.Assign [tg] e pos) (uY te g):=by
 intro pins s σ H D I h
 refine wpAny_Assign_stores (bJ (he pins s σ H _ I h) fun v s1 ⟨x,H1,I1,r1,q1⟩=>?_) hs hw
 rw [h1]
 exact bJ (hg pins s1 σ H1 x v _ I1 r1 q1) fun _ s2 q=>q
theorem Ee {i:Nat} {x:Str} {e:Expr} {te:TE} {pos':Pos} (hN:X.N.Nodup) (hi:X.N[i]?=some x) (hx:Loc X.env.scope x) (he:PE X e te) (hs:swapsWith e (some (.Name x pos')) pos.line X.env=pure false:=by rfl) (hf:X.fn x=true\/X.env.scope.names.lookup x=some .local:=by first | exact .inl rfl | exact .inr rfl | assumption) :
  PS X (.Assign [.Name x pos'] e pos) (uY te (ah i)):=by
 intro pins s σ H D I h
 refine wpAny_Assign_Name (bJ (he pins s σ H _ I h) fun v s1 ⟨y,H1,I1,r1,q1⟩=>?_) hs
 exact kz I1 hN hi hx r1 (fun s2 I2=>⟨_,H1,I2,q1⟩) hf
def Ga (i j:Nat) (ta:TA):TS:=fun D σ H=>ta σ H fun vs H1=>∃ v w,vs=[v,w]/\D.nx ((σ.set i (some v)).set j (some w)) H1
theorem Ef {i j:Nat} {x y:Str} {a b:Expr} {ta:TA} {px py pt:Pos} {kt k2 pt2} (hc:X.calm=true) (hN:X.N.Nodup) (hi:X.N[i]?=some x) (hj:X.N[j]?=some y) (hij:i≠j)
  (hx:X.env.scope.names.lookup x=some .local) (hy:X.env.scope.names.lookup y=some .local) (ha:PA X [a,b] ta)
  (hw:swappedStores [.Tuple [.Name x px,.Name y py] kt pt] (.Tuple [a,b] k2 pt2) X.env=pure (some [x,y]))
  (hs:swapsWithSole [.Tuple [.Name x px,.Name y py] kt pt] (.Tuple [a,b] k2 pt2) pos.line X.env=pure false:=by rfl) :
  PS X (.Assign [.Tuple [.Name x px,.Name y py] kt pt] (.Tuple [a,b] k2 pt2) pos) (Ga i j ta):=by
 intro pins s σ H D I h
 rw [exec_Assign_arm]
 refine wpAny_bind (wpAny_standAt ?_)
 rw [hs]
 refine wpAny_bind (wpAny_pure ?_)
 rw [if_neg (by decide)]
 refine wpAny_bind (Tuple_ (bJ (ha _ pins s σ H _ I h) fun us s1 ⟨vs,H1,I1,r1,q1⟩=>?_))
 obtain ⟨v,w,e1,q1⟩:=q1
 subst e1
 obtain ⟨u1,u2,rfl,rv,rw'⟩:∃ u1 u2,us=[u1,u2]/\RelV v u1/\RelV w u2:=by
  cases r1 with
  | cons p q=>
   cases q with
   | cons p' q'=>
    cases q'
    exact ⟨_,_,rfl,p,p'⟩
 refine wpAny_newObj_type ?_ (by show 2<=sizeLine;decide)
 have I2:Inv X pins σ H1 {s1 with heap:=s1.heap.push {cls:=.type "tuple",data:=.seq [u1,u2].toArray}}:=I1.kept (t':=s1.toks) fun b o e=>Heap.get?_push_of_some _ e
 rw [hw]
 refine wpAny_bind (wpAny_pure ?_)
 show wpAny (model X.prog X.w) X.A (do rule "assign.swapped-stores";let items <- unpackItems (.ref s1.heap.objs.size) 2 none;assignInOrder [fun v=>bindName X.env y v,fun v=>bindName X.env x v] items.reverse;pure Flow.next) _ _ _
 refine wpAny_bind (wpAny_rule (wpAny_bind (unpackItems_tuple (items:=#[u1,u2]) (I.ok.hd hc) (IsTup.new s1.heap _) fun h' hx'=>?_)))
 have I3:=I2.kept (h':=h') (t':=s1.toks) fun b o e=>hx' b o (Nat.ne_of_lt (Heap.lt_size e)) e
 show wpAny _ _ (assignInOrder [fun v=>bindName X.env y v,fun v=>bindName X.env x v] [u2,u1] >>= fun _=>pure Flow.next) _ _ _
 refine wpAny_bind (assignInOrder_cons (wpAny_bindName (kz I3 hN hj (.inl hy) rw' (fun s2 I4=>?_) (.inr hy))))
 refine assignInOrder_cons (wpAny_bindName (kz I4 hN hi (.inl hx) rv (fun s3 I5=>assignInOrder_nil (wpAny_pure ?_)) (.inr hx)))
 rw [List.set_comm _ _ (Ne.symm hij)] at I5
 exact ⟨_,H1,I5,q1⟩
end
section
variable {X:Cx} {pos:Pos}
end
structure It where
 go:Nat->Hp->Prop
 yld:Nat->Hp->V->Hp->Prop
 stop:Nat->Hp->Prop
def g9 (X:Cx) (pins:List (Addr×Obj)) (H:Hp) (b:Addr):Prop:=
 H b=none/\b≠X.env.locals/\b∉X.fs/\(b∈X.ex\/X.s₀.heap.objs.size<=b)/\(∀ x c,X.env.cells.lookup x=some c->c≠b)/\∀ p∈X.pn++pins,p.1≠b
theorem Inv.yO {X:Cx} {pins:List (Addr×Obj)} {σ:St} {H H':Hp} {s:Shared} {b:Addr} (I:Inv X pins σ H s) (hb:s.heap.objs.size<=b) (hn:H' b=none):g9 X pins H' b:=by
 refine ⟨hn,Nat.ne_of_gt (Nat.lt_of_lt_of_le I.lt hb),I.yI hb,.inr (Nat.le_trans I.sz hb),fun x c e z=>?_,fun p hp z=>?_⟩
 ·obtain ⟨v,q⟩:=I.cell x c e
  exact absurd (Nat.lt_of_lt_of_le q.lt (by rw [z];exact hb)) (Nat.lt_irrefl _)
 ·exact absurd (Nat.lt_of_lt_of_le (Heap.lt_size (I.pin p hp).1) (by rw [z];exact hb)) (Nat.lt_irrefl _)
structure Turn (P:Program) (w:World) (K:PySem.W.Frag) (tg:Expr) (J:It) (fp:List Addr) (it:Addr) (tn:Nat->Heap->Prop):Prop where
 mem:it∈fp
 obj:∀ i h,tn i h->∀ b∈fp,∃ o,h.get? b=some o/\∀ v,o.data≠.cell v
 keep:∀ i h h',tn i h->(∀ b∈fp,∀ o,h.get? b=some o->h'.get? b=some o)->tn i h'
 item:∀ (X:Cx),X.prog=P->X.w=w->X.K=K->X.calm=true->∀ (i:Nat) (pins:List (Addr×Obj)) (s:Shared) (σ:St) (H:Hp) (E:Value->Shared->Prop),Inv X pins σ H s->(∀ b∈fp,g9 X pins H b)->tn i s.heap->J.go i H ->
  wpAny (model P w) X.A (pyNext (.ref it)) (fun r s1=>∃ u,r=some u /\
   wpAny (model P w) X.A (letOwnedTupleGo tg (.ref it) u) (fun _ s2=>∃ x H',Inv X pins σ H' s2/\RelV x u/\J.yld i H x H'/\tn (i+1) s2.heap/\∀ b∈fp,H' b=none) E s1) E s
 done:∀ (X:Cx),X.prog=P->X.w=w->X.K=K->X.calm=true->∀ (i:Nat) (pins:List (Addr×Obj)) (s:Shared) (σ:St) (H:Hp) (E:Value->Shared->Prop),Inv X pins σ H s->(∀ b∈fp,g9 X pins H b)->tn i s.heap->J.stop i H ->
  wpAny (model P w) X.A (pyNext (.ref it)) (fun r s1=>r=none/\Inv X pins σ H s1) E s
 self:∀ (A:Around) (i:Nat) (s:Shared) (Q:Value->Shared->Prop) (E:Value->Shared->Prop),tn i s.heap->Q (.ref it) s->wpAny (model P w) A (pyIter (.ref it)) Q E s
abbrev TI:=St->Hp->(It->Hp->Prop)->Prop
def JF (X:Cx) (pins:List (Addr×Obj)) (σ:St) (tg:Expr) (R:It->Hp->Prop) (itv:Value) (s2:Shared):Prop:=
 ∃ (it:Addr) (fp:List Addr) (tn:Nat->Heap->Prop) (J:It) (H':Hp),itv=.ref it/\Inv X pins σ H' s2/\Turn X.prog X.w X.K tg J fp it tn/\tn 0 s2.heap/\(∀ b∈fp,g9 X pins H' b)/\R J H'
def PI (X:Cx) (tg iter:Expr) (wi:TI):Prop:=
 ∀ (pins:List (Addr×Obj)) (s:Shared) (σ:St) (H:Hp) (R:It->Hp->Prop),Inv X pins σ H s->wi σ H R ->
  wpAny (model X.prog X.w) X.A (eval iter X.env) (fun v s1=>wpAny (model X.prog X.w) X.A (pyIter v) (JF X pins σ tg R) X.xe s1) X.xe s
theorem we {M:Model} {A:Around} {E:Value->Shared->Prop} {s:Shared} {tg:Expr} {it:Addr} {u:Value} {o:Obj} {n:String} {vs:Array Value} {Q:Unit->Shared->Prop} (ho:s.heap.get? it=some o) (hc:o.cls=.type n) (hd:o.data=.fields vs)
  (hn:["enumerate", "zip", "dict_itemiterator", "dict_reverseitemiterator", "odict_iterator", "itertools.zip_longest", "itertools.pairwise"].contains n=false) (hQ:Q () s):wpAny M A (letOwnedTupleGo tg (.ref it) u) Q E s:=by
 unfold letOwnedTupleGo
 cases tg<;>first
  | exact wpAny_pure hQ
  | (cases u<;>first
    | exact wpAny_pure hQ
    | (refine wpAny_bind (wpAny_load ho ?_)
       rw [hc,hd]
       show wpAny M A (if (["enumerate", "zip", "dict_itemiterator", "dict_reverseitemiterator", "odict_iterator", "itertools.zip_longest", "itertools.pairwise"].contains n && vs[0]? == some (rawInt _))=true then _ else _) Q E s
       rw [if_neg (by intro h;rw [hn,Bool.false_and] at h;cases h)]
       exact wpAny_pure hQ))
def H0 (K:PySem.W.Frag) (a:Addr):It:=
 ⟨fun i H=>∃ xs x,gD K H a xs/\xs[i]?=some x,fun i H x H'=>H'=H/\∀ xs,gD K H a xs->xs[i]?=some x,fun i H=>∃ xs,gD K H a xs/\xs.length<=i⟩
def Hg (K:PySem.W.Frag) (a:Addr):It:=
 ⟨fun i H=>∃ xs x,eZ K H a xs/\xs[i]?=some x,fun i H x H'=>H'=H/\∀ xs,eZ K H a xs->xs[i]?=some x,fun i H=>∃ xs,eZ K H a xs/\xs.length<=i⟩
def Hh (lo:Int) (n:Nat):It:=⟨fun i _=>i < n,fun i H x H'=>H'=H/\x=.int (lo+i),fun i _=>n<=i⟩
theorem xN {P:Program} {w:World} {K:PySem.W.Frag} {tg:Expr} (a it:Addr):Turn P w K tg (H0 K a) [it] it (fun i h=>h.IsListIter it a i) where
 mem:=by simp
 obj:=fun i h st b hb=>by
  have e:b=it:=by simpa using hb
  subst e
  obtain ⟨o,e,c,d⟩:=st
  exact ⟨o,e,fun v z=>by rw [d] at z;cases z⟩
 keep:=fun i h h' st k=>st.at fun o e=>k it (by simp) o e
 item:=by
  intro X hP hw hK hc i pins s σ H E I hf st hg
  subst hP hw hK
  obtain ⟨xs,x,hq,hx⟩:=hg
  obtain ⟨its,rv,p,hz⟩:=I.list hq
  obtain ⟨u,hu,ru⟩:=rv.get hx
  obtain ⟨f0,f1,f2,f3,f4,f5⟩:=hf it (by simp)
  refine wpAny_pyNext_list_item st p.isList (x:=u) (by simpa using hu) fun h' st' sb=>?_
  have I1:Inv X pins σ H {s with heap:=h'}:=I.turned (t':=s.toks) (fun b o hb e=>(sb.2 b hb).trans e) f0 f1 f3 f4 f5
  obtain ⟨o,e,c,d⟩:=id st'
  exact ⟨u,rfl,we (s:={s with heap:=h'}) e c d (by decide) ⟨x,H,I1,ru,⟨rfl,fun ys hy=>by rw [I.yL hy hq];exact hx⟩,st',fun b hb=>(hf b hb).1⟩⟩
 done:=by
  intro X hP hw hK hc i pins s σ H E I hf st hg
  subst hP hw hK
  obtain ⟨xs,hq,hx⟩:=hg
  obtain ⟨its,rv,p,hz⟩:=I.list hq
  obtain ⟨f0,f1,f2,f3,f4,f5⟩:=hf it (by simp)
  have hl:=rv.length
  exact wpAny_pyNext_list_end (I.ok.hd hc) st p.isList (by simp;omega) fun h' eb=>⟨rfl,I.turned (t':=s.toks) (fun b o hb e=>eb b o hb e) f0 f1 f3 f4 f5⟩
 self:=fun _ _ _ _ _ st h=>wpAny_pyIter_listiter st h
theorem uZ {P:Program} {w:World} {K:PySem.W.Frag} {tg:Expr} (a it:Addr):Turn P w K tg (Hg K a) [it] it (fun i h=>h.IsTupleIter it a i) where
 mem:=by simp
 obj:=fun i h st b hb=>by
  have e:b=it:=by simpa using hb
  subst e
  obtain ⟨o,e,c,d⟩:=st
  exact ⟨o,e,fun v z=>by rw [d] at z;cases z⟩
 keep:=fun i h h' st k=>st.at fun o e=>k it (by simp) o e
 item:=by
  intro X hP hw hK hc i pins s σ H E I hf st hg
  subst hP hw hK
  obtain ⟨xs,x,hq,hx⟩:=hg
  obtain ⟨its,rv,p,hz⟩:=I.tuple hq
  obtain ⟨u,hu,ru⟩:=rv.get hx
  obtain ⟨f0,f1,f2,f3,f4,f5⟩:=hf it (by simp)
  refine wpAny_pyNext_tuple_item st (show s.heap.IsTuple a its.toArray from p) (x:=u) (by simpa using hu) fun h' st' sb=>?_
  have I1:Inv X pins σ H {s with heap:=h'}:=I.turned (t':=s.toks) (fun b o hb e=>(sb.2 b hb).trans e) f0 f1 f3 f4 f5
  obtain ⟨o,e,c,d⟩:=id st'
  exact ⟨u,rfl,we (s:={s with heap:=h'}) e c d (by decide) ⟨x,H,I1,ru,⟨rfl,fun ys hy=>by rw [I.lV hy hq];exact hx⟩,st',fun b hb=>(hf b hb).1⟩⟩
 done:=by
  intro X hP hw hK hc i pins s σ H E I hf st hg
  subst hP hw hK
  obtain ⟨xs,hq,hx⟩:=hg
  obtain ⟨its,rv,p,hz⟩:=I.tuple hq
  obtain ⟨f0,f1,f2,f3,f4,f5⟩:=hf it (by simp)
  have hl:=rv.length
  exact wpAny_pyNext_tuple_end (I.ok.hd hc) st (show s.heap.IsTuple a its.toArray from p) (by simp;omega) fun h' eb=>⟨rfl,I.turned (t':=s.toks) (fun b o hb e=>eb b o hb e) f0 f1 f3 f4 f5⟩
 self:=fun _ _ _ _ _ st h=>wpAny_pyIter_tupleiter st h
theorem u0 {P:Program} {w:World} {K:PySem.W.Frag} {tg:Expr} (it:Addr) (lo:Int) (n:Nat):Turn P w K tg (Hh lo n) [it] it (fun i h=>IsRangeIter h it (lo+(i:Nat) * 1) ((n:Int) - (i:Nat)) 1) where
 mem:=by simp
 obj:=fun i h st b hb=>by
  have e:b=it:=by simpa using hb
  subst e
  exact ⟨_,st,fun v z=>by
   have z':Data.fields _=Data.cell v:=z
   cases z'⟩
 keep:=fun i h h' st k=>k it (by simp) _ st
 item:=by
  intro X hP hw hK hc i pins s σ H E I hf st hg
  subst hP hw hK
  obtain ⟨f0,f1,f2,f3,f4,f5⟩:=hf it (by simp)
  have W:=Walks.range (prog:=X.prog) (w:=X.w) (I.ok.hd hc) it lo 1 n
  refine W.item i s _ _ hg st fun v h' tk hv st' kk=>?_
  obtain ⟨t,rfl⟩:=hv
  have I1:Inv X pins σ H {s with heap:=h',toks:=tk}:=I.turned (fun b o hb e=>kk b o (by simpa using hb) e) f0 f1 f3 f4 f5
  refine ⟨_,rfl,we (s:={s with heap:=h',toks:=tk}) (n := "range_iterator") st' rfl rfl (by decide) ⟨.int (lo+i),H,I1,⟨t,?_⟩,⟨rfl,rfl⟩,st',fun b hb=>(hf b hb).1⟩⟩
  rw [Int.mul_one]
 done:=by
  intro X hP hw hK hc i pins s σ H E I hf st hg
  subst hP hw hK
  obtain ⟨f0,f1,f2,f3,f4,f5⟩:=hf it (by simp)
  exact wpAny_pyNext_range_end (I.ok.hd hc) st (by have:n<=i:=hg;omega) fun h' eb=>⟨rfl,I.turned (t':=s.toks) (fun b o hb e=>eb b o hb e) f0 f1 f3 f4 f5⟩
 self:=fun _ _ _ _ _ st h=>wpAny_pyIter_rangeiter st h
end L2
namespace L2
open PySem PySem.Spec PyProof.Rows
section
variable {X:Cx} {tg:Expr}
def Gb (K:PySem.W.Frag) (tl:TE):TI:=fun σ H R=>tl σ H fun x H1=>∃ a,x=.ref a/\(∃ xs,gD K H1 a xs)/\R (H0 K a) H1
def Ia (K:PySem.W.Frag) (tl:TE):TI:=fun σ H R=>tl σ H fun x H1=>∃ a,x=.ref a/\(∃ xs,eZ K H1 a xs)/\R (Hg K a) H1
theorem Bu {l:Expr} {tl:TE} (hl:PE X l tl):PI X tg l (Gb X.K tl):=by
 intro pins s σ H R I h
 refine bJ (hl pins s σ H _ I h) fun v s1 ⟨x,H1,I1,r1,q1⟩=>?_
 obtain ⟨a,e,⟨xs,hq⟩,q⟩:=q1
 subst e
 cases r1
 obtain ⟨its,rv,p,hz⟩:=I1.list hq
 refine wpAny_pyIter_list p.isList ?_
 refine ⟨s1.heap.objs.size,[s1.heap.objs.size],_,_,H1,rfl,I1.kept (t':=s1.toks) fun b o e=>Heap.get?_push_of_some _ e,xN a _,⟨_,Heap.get?_push_size _ rfl,rfl,rfl⟩,fun b hb=>?_,q⟩
 have e:b=s1.heap.objs.size:=by simpa using hb
 subst e
 exact I1.yO (Nat.le_refl _) (I1.hok.fresh (Nat.le_refl _))
theorem yP {l:Expr} {tl:TE} (hl:PE X l tl):PI X tg l (Ia X.K tl):=by
 intro pins s σ H R I h
 refine bJ (hl pins s σ H _ I h) fun v s1 ⟨x,H1,I1,r1,q1⟩=>?_
 obtain ⟨a,e,⟨xs,hq⟩,q⟩:=q1
 subst e
 cases r1
 obtain ⟨its,rv,p,hz⟩:=I1.tuple hq
 refine wpAny_pyIter_tuple (show s1.heap.IsTuple a its.toArray from p) ?_
 refine ⟨s1.heap.objs.size,[s1.heap.objs.size],_,_,H1,rfl,I1.kept (t':=s1.toks) fun b o e=>Heap.get?_push_of_some _ e,uZ a _,⟨_,Heap.get?_push_size _ rfl,rfl,rfl⟩,fun b hb=>?_,q⟩
 have e:b=s1.heap.objs.size:=by simpa using hb
 subst e
 exact I1.yO (Nat.le_refl _) (I1.hok.fresh (Nat.le_refl _))
theorem yQ {pins:List (Addr×Obj)} {σ:St} {H:Hp} {s:Shared} {R:It->Hp->Prop} {E:Value->Shared->Prop} {lo hi:Int} {t u v:Tok} {tk:Nat} (I:Inv X pins σ H s) (h1:-(2 ^ 62)<=lo) (h2:lo < 2 ^ 62) (h3:-(2 ^ 62)<=hi) (h4:hi < 2 ^ 62)
  (q:R (Hh lo (hi - lo).toNat) H):wpAny (model X.prog X.w) X.A (pyIter (.ref s.heap.objs.size)) (JF X pins σ tg R) E {s with heap:=s.heap.push {cls:=.type "range",data:=.fields #[.int lo t,.int hi u,.int 1 v]},toks:=tk}:=by
 refine wpAny_pyIter_range (IsRange.new ..) (small_one h1 h2 h3 h4) ?_
 have I1:Inv X pins σ H {s with heap:=s.heap.push {cls:=.type "range",data:=.fields #[.int lo t,.int hi u,.int 1 v]},toks:=tk}:=I.kept fun b o e=>Heap.get?_push_of_some _ e
 refine ⟨(s.heap.push {cls:=.type "range",data:=.fields #[.int lo t,.int hi u,.int 1 v]}).objs.size,[(s.heap.push {cls:=.type "range",data:=.fields #[.int lo t,.int hi u,.int 1 v]}).objs.size],_,_,H,rfl,
  I1.kept (t':=tk) fun b o e=>Heap.get?_push_of_some _ e,u0 _ lo (hi - lo).toNat,?_,fun b hb=>?_,q⟩
 ·have e1:lo+((0:Nat):Int) * 1=lo:=by simp
  have e2:(((hi - lo).toNat:Nat):Int) - ((0:Nat):Int)=Builtin.Range.rangeSize lo hi 1:=by rw [rangeSize_one];split<;>omega
  show IsRangeIter _ _ (lo+((0:Nat):Int) * 1) ((((hi - lo).toNat:Nat):Int) - ((0:Nat):Int)) 1
  rw [e1,e2]
  exact Heap.get?_push_size _ rfl
 ·have e:b=(s.heap.push {cls:=.type "range",data:=.fields #[.int lo t,.int hi u,.int 1 v]}).objs.size:=by simpa using hb
  subst e
  exact I1.yO (Nat.le_refl _) (I1.hok.fresh (Nat.le_refl _))
def Gd (ta:TA):TI:=fun σ H R=>ta σ H fun vs H1=>∃ j:Int,vs=[.int j]/\-(2 ^ 62)<=j/\j < 2 ^ 62/\R (Hh 0 j.toNat) H1
theorem xO {a:Expr} {ta:TA} {p pos:Pos} (hg:Gl X "range") (hm:X.mg "range" = none) (ha:PA X [a] ta) (hs:starEach [a] X.env=[(false,eval a X.env)]:=by rfl):PI X tg (.Call (.Name "range" p) [a] [] pos) (Gd ta):=by
 intro pins s σ H R I h
 refine Call_ (gC I hg hm boot_range (PyProof.Rows.callWith_type1 (bJ (ha pos pins s σ H _ I h) fun us s1 ⟨vs,H1,I1,r1,q1⟩=>?_) hs rfl))
 obtain ⟨j,e,q1,q2,q⟩:=q1
 subst e
 cases r1 with
 | cons r rr=>
  cases rr
  obtain ⟨t,rfl⟩:=r
  exact call_range_1 (yQ I1 (by omega) (by omega) q1 q2 (by simpa using q))
def Ib (wi:TI) (g:TG) (tb:TS):TS:=fun D σ H=>wi σ H fun J H1=>∃ W:Nat->Nat->St->Hp->Prop,(∃ m,W 0 m σ H1)/\∀ i m σ H,W i m σ H ->
 (J.stop i H/\D.nx σ H)\/(J.go i H/\∃ N:St->Hp->Prop,(∀ σ' H',N σ' H'->∃ m',m' < m/\W (i+1) m' σ' H')/\∀ x H',J.yld i H x H'->g x σ H' fun σ2 H2=>tb {D with nx:=N,ct:=N,bk:=D.nx} σ2 H2)
def cf (fp:List Addr) (h:Heap):List (Addr×Obj):=fp.filterMap fun b=>(h.get? b).map fun o=>(b,o)
theorem bp {fp:List Addr} {h:Heap} {b:Addr} {o:Obj} (hb:b∈fp) (e:h.get? b=some o):(b,o)∈cf fp h:=List.mem_filterMap.mpr ⟨b,hb,by rw [e];rfl⟩
theorem ff {fp:List Addr} {h:Heap} {p:Addr×Obj} (hp:p∈cf fp h):p.1∈fp/\h.get? p.1=some p.2:=by
 obtain ⟨b,hb,e⟩:=List.mem_filterMap.mp hp
 cases q:h.get? b with
 | none=>rw [q] at e;cases e
 | some o=>
  rw [q] at e
  have e':(b,o)=p:=Option.some.inj e
  subst e'
  exact ⟨hb,q⟩
theorem Inv.pinned {pins:List (Addr×Obj)} {σ:St} {H:Hp} {s:Shared} {fp:List Addr} (I:Inv X pins σ H s) (hf:∀ b∈fp,g9 X pins H b) (ho:∀ b∈fp,∃ o,s.heap.get? b=some o/\∀ v,o.data≠.cell v):Inv X (pins++cf fp s.heap) σ H s:=
 I.jt fun p hp=>(List.mem_append.mp hp).elim (fun z=>I.pin p (List.mem_append_right _ z)) fun z=>by
  obtain ⟨hb,e⟩:=ff z
  obtain ⟨f0,f1,f2,_⟩:=hf p.1 hb
  obtain ⟨o,e',d⟩:=ho p.1 hb
  rw [e] at e';cases e'
  exact ⟨e,f0,f1,f2,d⟩
theorem Inv.gL {pins pl:List (Addr×Obj)} {σ:St} {H:Hp} {s:Shared} (I:Inv X (pins++pl) σ H s):Inv X pins σ H s:=I.jt fun p hp=>I.pin p (List.mem_append_right _ (List.mem_append_left _ hp))
theorem Eg {iter:Expr} {body:List Stmt} {wi:TI} {g:TG} {tb:TS} {pos:Pos} (hp:PassesOwn (model X.prog X.w) X.A X.env X.xe) (hc:X.calm=true) (hi:PI X tg iter wi) (hg:PG X tg g) (hb:uW X body tb)
  (hs:∀ x,foldedSetIterable iter X.env x=pure x:=by intro _;rfl):PS X (.For tg iter body [] pos) (Ib wi g tb):=by
 intro pins s σ H D I h
 refine wpAny_For (bJ (hi pins s σ H _ I h) fun v s1 h1=>bJ h1 fun itv s2 h2=>?_) hs
 obtain ⟨it,fp,tn,J,H2,e,I2,T,st2,f2,W,⟨m0,w0⟩,turn⟩:=h2
 subst e
 have stat:∀ {H':Hp},(∀ b∈fp,H' b=none)->∀ b∈fp,g9 X pins H' b:=fun hn b hb=>⟨hn b hb,(f2 b hb).2⟩
 refine codeAny_forLoop_any (fun n s'=>∃ i σ' H',Inv X pins σ' H' s'/\tn i s'.heap/\(∀ b∈fp,H' b=none)/\W i n σ' H') ?_ m0 ⟨0,σ,H2,I2,st2,fun b hb=>(f2 b hb).1,w0⟩
 rintro n s3 ⟨i,σ3,H3,I3,st3,fr3,w3⟩
 rcases turn i n σ3 H3 w3 with ⟨stop,qn⟩ | ⟨go,N,hN,step⟩
 ·refine wpAny_passesOwn hp (bJ (T.done X rfl rfl rfl hc i pins s3 σ3 H3 X.xe I3 (stat fr3) st3 stop) fun r s4 ⟨hr,I4⟩=>?_)
  subst hr
  exact wpAny_execs_nil ⟨σ3,H3,I4,qn⟩
 ·refine wpAny_passesOwn hp (bJ (T.item X rfl rfl rfl hc i pins s3 σ3 H3 X.xe I3 (stat fr3) st3 go) fun r s4 ⟨u,hr,h4⟩=>?_)
  subst hr
  refine wpAny_passesOwn hp (bJ h4 fun _ s5 ⟨x,H5,I5,r5,y5,st5,fr5⟩=>?_)
  have I5':=I5.pinned (stat fr5) (T.obj _ _ st5)
  refine wpAny_passesOwn hp (bJ (hg _ s5 σ3 H5 x u _ I5' r5 (step x H5 y5)) fun _ s6 ⟨σ6,H6,I6,q6⟩=>?_)
  refine wpAny_passesOwn hp (bJ (hb _ s6 σ6 H6 _ I6 q6) fun f s7 q7=>?_)
  have again:∀ {σ7:St} {H7:Hp},Inv X (pins++cf fp s5.heap) σ7 H7 s7->N σ7 H7->∃ m,m < n/\∃ i σ' H',Inv X pins σ' H' s7/\tn i s7.heap/\(∀ b∈fp,H' b=none)/\W i m σ' H':=fun {σ7 H7} I7 n7=>by
   obtain ⟨m',hm,w7⟩:=hN σ7 H7 n7
   refine ⟨m',hm,i+1,σ7,H7,I7.gL,T.keep _ _ _ st5 fun b hb o e=>(I7.pin (b,o) (List.mem_append_right _ (List.mem_append_right _ (bp hb e)))).1,fun b hb=>?_,w7⟩
   obtain ⟨o,e,d⟩:=T.obj _ _ st5 b hb
   exact (I7.pin (b,o) (List.mem_append_right _ (List.mem_append_right _ (bp hb e)))).2.1
  cases f with
  | next=>obtain ⟨σ7,H7,I7,n7⟩:=q7;exact again I7 n7
  | cont=>obtain ⟨σ7,H7,I7,n7⟩:=q7;exact again I7 n7
  | brk=>obtain ⟨σ7,H7,I7,q7⟩:=q7;exact ⟨σ7,H7,I7.gL,q7⟩
  | ret v=>obtain ⟨x7,σ7,H7,I7,r7,q7⟩:=q7;exact ⟨x7,σ7,H7,I7.gL,r7,q7⟩
end
end L2
namespace L2
open PySem PySem.Spec PyProof.Rows
abbrev R2:=V->V->Hp->VK->Prop
def gg (X:Cx) (f:Value->Value->Sem Value) (r:R2):Prop:=
 ∀ (pins:List (Addr×Obj)) (s:Shared) (σ:St) (H:Hp) (x y:V) (v u:Value) (Q:VK),Inv X pins σ H s->RelV x v->RelV y u->r x y H Q ->
  wpAny (model X.prog X.w) X.A (f v u) (EP X pins σ Q) X.xe s
def Ic (X:Cx) (f:Value->Sem Value) (r:V->Hp->VK->Prop):Prop:=
 ∀ (pins:List (Addr×Obj)) (s:Shared) (σ:St) (H:Hp) (x:V) (v:Value) (Q:VK),Inv X pins σ H s->RelV x v->r x H Q ->
  wpAny (model X.prog X.w) X.A (f v) (EP X pins σ Q) X.xe s
def cR (X:Cx) (f:Value) (r:List V->Hp->VK->Prop):Prop:=
 ∀ (pins:List (Addr×Obj)) (s:Shared) (σ:St) (H:Hp) (xs:List V) (us:List Value) (Q:VK),Inv X pins σ H s->Vals xs us->r xs H Q ->
  wpAny (model X.prog X.w) X.A (call f us) (EP X pins σ Q) X.xe s
def Eh (X:Cx) (r:V->Hp->(Bool->Hp->Prop)->Prop):Prop:=
 ∀ (pins:List (Addr×Obj)) (s:Shared) (σ:St) (H:Hp) (x:V) (v:Value) (Q:Bool->Hp->Prop),Inv X pins σ H s->RelV x v->r x H Q ->
  wpAny (model X.prog X.w) X.A (truthy v) (TP X pins σ Q) X.xe s
def Ge (r:R2) (ta tb:TE):TE:=fun σ H Q=>ta σ H fun x H1=>tb σ H1 fun y H2=>r x y H2 Q
def J9 (r:V->Hp->VK->Prop) (ta:TE):TE:=fun σ H Q=>ta σ H fun x H1=>r x H1 Q
def rI (C:Int->Int->Prop) (g:Int->Int->V):R2:=fun x y H Q=>∃ i j,x=.int i/\y=.int j/\C i j/\Q (g i j) H
def FV (g:Int->Int->V):R2:=fun x y H Q=>∃ i j,x=.int i/\y=.int j/\Q (g i j) H
def rU (g:Int->V):V->Hp->VK->Prop:=fun x H Q=>∃ i,x=.int i/\Q (g i) H
section
variable {X:Cx} {a b c:Expr} {ta tb tc:TE} {pos:Pos}
theorem Ei (ha:PE X a ta) (hb:PE X b tb) {pins:List (Addr×Obj)} {s:Shared} {σ:St} {H:Hp} {R:V->V->Hp->Prop} (I:Inv X pins σ H s)
  (h:ta σ H fun x H1=>tb σ H1 fun y H2=>R x y H2) {Q:Value->Shared->Prop} {f:Value->Value->Sem Value}
  (hf:∀ v u s2 x y H2,Inv X pins σ H2 s2->RelV x v->RelV y u->R x y H2->wpAny (model X.prog X.w) X.A (f v u) Q X.xe s2) :
  wpAny (model X.prog X.w) X.A (eval a X.env) (fun v s₁=>wpAny (model X.prog X.w) X.A (eval b X.env) (fun u s₂=>wpAny (model X.prog X.w) X.A (f v u) Q X.xe s₂) X.xe s₁) X.xe s:=by
 refine bJ (ha pins s σ H _ I h) fun v s1 ⟨x,H1,I1,r1,q1⟩=>?_
 refine bJ (hb pins s1 σ H1 _ I1 q1) fun u s2 ⟨y,H2,I2,r2,q2⟩=>?_
 exact hf v u s2 x y H2 I2 r1 r2 q2
theorem Dh {op:Operator} {r:R2} (ho:gg X (binaryOp op) r) (ha:PE X a ta) (hb:PE X b tb):PE X (.BinOp a op b pos) (Ge r ta tb):=by
 intro pins s σ H Q I h
 exact wpAny_BinOp (Ei ha hb I h fun v u s2 x y H2 I2 rx ry q=>ho pins s2 σ H2 x y v u Q I2 rx ry q)
theorem Gf {op:UnaryOp} {r:V->Hp->VK->Prop} (ho:Ic X (unaryOp op) r) (ha:PE X a ta):PE X (.UnaryOp op a pos) (J9 r ta):=by
 intro pins s σ H Q I h
 exact UnaryOp_ (bJ (ha pins s σ H _ I h) fun v s1 ⟨x,H1,I1,r1,q1⟩=>ho pins s1 σ H1 x v Q I1 r1 q1)
theorem Hi {f:Value->Value->Sem Value} {C:Int->Int->Prop} {g:Int->Int->Int}
  (rule:∀ (i j:Int) (t u:Tok) (s:Shared) (Q:Value->Shared->Prop) (E:Value->Shared->Prop),C i j->Q (.int (g i j) s.toks) {s with toks:=s.toks+1}->wpAny (model X.prog X.w) X.A (f (.int i t) (.int j u)) Q E s) :
  gg X f (rI C fun i j=>.int (g i j)):=by
 intro pins s σ H x y v u Q I rx ry h
 obtain ⟨i,j,rfl,rfl,hc,q⟩:=h
 obtain ⟨t,rfl⟩:=rx
 obtain ⟨t',rfl⟩:=ry
 exact rule i j t t' s _ _ hc ⟨.int (g i j),H,I.tok _,⟨_,rfl⟩,q⟩
theorem Ie {f:Value->Value->Sem Value} {g:Int->Int->Int}
  (rule:∀ (i j:Int) (t u:Tok) (s:Shared) (Q:Value->Shared->Prop) (E:Value->Shared->Prop),Q (.int (g i j) s.toks) {s with toks:=s.toks+1}->wpAny (model X.prog X.w) X.A (f (.int i t) (.int j u)) Q E s) :
  gg X f (FV fun i j=>.int (g i j)):=by
 intro pins s σ H x y v u Q I rx ry h
 obtain ⟨i,j,rfl,rfl,q⟩:=h
 obtain ⟨t,rfl⟩:=rx
 obtain ⟨t',rfl⟩:=ry
 exact rule i j t t' s _ _ ⟨.int (g i j),H,I.tok _,⟨_,rfl⟩,q⟩
theorem Gg {f:Value->Value->Sem Value} {g:Int->Int->Bool}
  (rule:∀ (i j:Int) (t u:Tok) (s:Shared) (Q:Value->Shared->Prop) (E:Value->Shared->Prop),Q (.bool (g i j)) s->wpAny (model X.prog X.w) X.A (f (.int i t) (.int j u)) Q E s) :
  gg X f (FV fun i j=>.bl (g i j)):=by
 intro pins s σ H x y v u Q I rx ry h
 obtain ⟨i,j,rfl,rfl,q⟩:=h
 obtain ⟨t,rfl⟩:=rx
 obtain ⟨t',rfl⟩:=ry
 exact rule i j t t' s _ _ ⟨.bl (g i j),H,I,rfl,q⟩
def Gh (i j:Int):Prop:=0 < j/\j < 1073741824
def Ig (i j:Int):Prop:=0<=j/\j<=1000000/\i.natAbs < 2 ^ 64
def Ej (i j:Int):Prop:=(-(2 ^ 64) < i/\i < 2 ^ 64)\/(-(2 ^ 64) < j/\j < 2 ^ 64)
theorem Ej.ok {i j:Int} (h:Ej i j):IntMulOk i j:=by
 rcases h with ⟨h1,h2⟩ | ⟨h1,h2⟩
 ·exact .of_left (intBits_le_64 h1 h2)
 ·exact .of_right (intBits_le_64 h1 h2)
theorem Ek:gg X (binaryOp .Add) (FV fun i j=>.int (i+j)):=Ie fun _ _ _ _ _ _ _ q=>add_int q
theorem El:gg X (binaryOp .Mult) (rI Ej fun i j=>.int (i * j)):=Hi fun _ _ _ _ _ _ _ hc q=>mul_int q hc.ok
theorem Bv:gg X (binaryOp .FloorDiv) (rI Gh fun i j=>.int (i / j)):=Hi fun i j _ _ _ _ _ hc q=>by
 have h1:(0:Int) < j:=hc.1
 have h2:j < 1073741824:=hc.2
 exact floordiv_int (by omega) (by rw [Int.fdiv_eq_ediv_of_nonneg i (by omega)];exact q) (.inl (PyProof.noPylong_small (by omega)))
theorem Em:gg X (binaryOp .Mod) (rI (fun _ j=>0 < j) fun i j=>.int (i % j)):=Hi fun i j _ _ _ _ _ hc q=>by
 have h1:(0:Int) < j:=hc
 exact mod_int' (by omega) (by rw [Int.fmod_eq_emod_of_nonneg i (by omega)];exact q)
theorem En:gg X (binaryOp .Pow) (rI Ig fun i j=>.int (i ^ j.toNat)):=Hi fun _ _ _ _ _ _ _ hc q=>pow_int_small hc.1 hc.2.1 hc.2.2 q
theorem Ka {f:Value->Sem Value} {g:Int->Int}
  (rule:∀ (i:Int) (t:Tok) (s:Shared) (Q:Value->Shared->Prop) (E:Value->Shared->Prop),Q (.int (g i) s.toks) {s with toks:=s.toks+1}->wpAny (model X.prog X.w) X.A (f (.int i t)) Q E s) :
  Ic X f (rU fun i=>.int (g i)):=by
 intro pins s σ H x v Q I rx h
 obtain ⟨i,rfl,q⟩:=h
 obtain ⟨t,rfl⟩:=rx
 exact rule i t s _ _ ⟨.int (g i),H,I.tok _,⟨_,rfl⟩,q⟩
theorem Eo:Ic X (unaryOp .USub) (rU fun i=>.int (-i)):=Ka fun _ _ _ _ _ q=>neg_int q
end
def Gi:V->V->Bool
 | .non,.non=>true | .non,.int _=>true | .int _,.non=>true | .non,.bl _=>true | .bl _,.non=>true | .non,.str _=>true | .str _,.non=>true
 | .int _,.int _=>true | .bl _,.bl _=>true | .str _,.str _=>true | .byt _,.byt _=>true
 | .int _,.str _=>true | .str _,.int _=>true | .bl _,.str _=>true | .str _,.bl _=>true
 | _,_=>false
def Kb:R2:=fun x y H Q=>Gi x y=true/\Q (.bl (decide (x=y))) H
def Kc:R2:=fun x y H Q=>Gi x y=true/\Q (.bl (!decide (x=y))) H
theorem wg {i j:Int}:decide (V.int i=V.int j)=(i == j):=by
 rw [Bool.eq_iff_iff]
 simp
theorem yR {i j:Bool}:decide (V.bl i=V.bl j)=(i == j):=by
 rw [Bool.eq_iff_iff]
 simp
theorem wj {i j:Str}:decide (V.str i=V.str j)=(i == j):=by
 rw [Bool.eq_iff_iff]
 simp
theorem wk {i j:Array UInt8}:decide (V.byt i=V.byt j)=(i.toList == j.toList):=by
 rw [Bool.eq_iff_iff]
 cases i
 cases j
 simp
section
variable {X:Cx} {a b c:Expr} {ta tb tc:TE} {pos:Pos}
theorem bw {pins:List (Addr×Obj)} {σ:St} {H:Hp} {s:Shared} {Q:VK} {k k':Bool} (I:Inv X pins σ H s) (q:Q (.bl k) H) (e:k=k'):EP X pins σ Q (.bool k') s:=by
 subst e
 exact ⟨.bl k,H,I,rfl,q⟩
theorem Gj:gg X (compareOp .Eq) Kb:=by
 intro pins s σ H x y v u Q I rx ry h
 obtain ⟨hs,q⟩:=h
 cases x with
 | non=>
  cases rx
  cases y with
  | non=>cases ry;exact PySem.EqNone.eq_none_none (bw I q (by simp))
  | bl j=>cases ry;exact PySem.EqNone.eq_none_bool (bw I q (by simp))
  | int j=>obtain ⟨t',rfl⟩:=ry;exact PySem.EqNone.eq_none_int (bw I q (by simp))
  | str j=>obtain ⟨t',rfl⟩:=ry;exact PySem.EqNone.eq_none_str (bw I q (by simp))
  | _=>exact absurd (show false=true from hs) Bool.false_ne_true
 | bl i=>
  cases rx
  cases y with
  | non=>cases ry;exact PySem.EqNone.eq_bool_none (bw I q (by simp))
  | bl j=>cases ry;exact eq_bool (bw I q yR)
  | str j=>obtain ⟨t',rfl⟩:=ry;exact PySem.EqMixed.eq_bool_str (bw I q (by simp))
  | _=>exact absurd (show false=true from hs) Bool.false_ne_true
 | int i=>
  obtain ⟨t,rfl⟩:=rx
  cases y with
  | non=>cases ry;exact PySem.EqNone.eq_int_none (bw I q (by simp))
  | int j=>obtain ⟨t',rfl⟩:=ry;exact eq_int (bw I q wg)
  | str j=>obtain ⟨t',rfl⟩:=ry;exact PySem.EqMixed.eq_int_str (bw I q (by simp))
  | _=>exact absurd (show false=true from hs) Bool.false_ne_true
 | str i=>
  obtain ⟨t,rfl⟩:=rx
  cases y with
  | non=>cases ry;exact PySem.EqNone.eq_str_none (bw I q (by simp))
  | bl j=>cases ry;exact PySem.EqMixed.eq_str_bool (bw I q (by simp))
  | int j=>obtain ⟨t',rfl⟩:=ry;exact PySem.EqMixed.eq_str_int (bw I q (by simp))
  | str j=>obtain ⟨t',rfl⟩:=ry;exact eq_str (bw I q wj)
  | _=>exact absurd (show false=true from hs) Bool.false_ne_true
 | byt i=>
  obtain ⟨t,rfl⟩:=rx
  cases y with
  | byt j=>obtain ⟨t',rfl⟩:=ry;exact PySem.W.eq_bytes (bw I q wk)
  | _=>exact absurd (show false=true from hs) Bool.false_ne_true
 | _=>cases y<;>exact absurd (show false=true from hs) Bool.false_ne_true
theorem Gk:gg X (compareOp .NotEq) Kc:=by
 intro pins s σ H x y v u Q I rx ry h
 obtain ⟨hs,q⟩:=h
 cases x with
 | non=>
  cases rx
  cases y with
  | non=>cases ry;exact PySem.EqNone.ne_none_none (bw I q (by simp))
  | bl j=>cases ry;exact PySem.EqNone.ne_none_bool (bw I q (by simp))
  | int j=>obtain ⟨t',rfl⟩:=ry;exact PySem.EqNone.ne_none_int (bw I q (by simp))
  | str j=>obtain ⟨t',rfl⟩:=ry;exact PySem.EqNone.ne_none_str (bw I q (by simp))
  | _=>exact absurd (show false=true from hs) Bool.false_ne_true
 | bl i=>
  cases rx
  cases y with
  | non=>cases ry;exact PySem.EqNone.ne_bool_none (bw I q (by simp))
  | bl j=>cases ry;exact ne_bool (bw I q (congrArg not yR))
  | str j=>obtain ⟨t',rfl⟩:=ry;exact PySem.EqMixed.ne_bool_str (bw I q (by simp))
  | _=>exact absurd (show false=true from hs) Bool.false_ne_true
 | int i=>
  obtain ⟨t,rfl⟩:=rx
  cases y with
  | non=>cases ry;exact PySem.EqNone.ne_int_none (bw I q (by simp))
  | int j=>obtain ⟨t',rfl⟩:=ry;exact ne_int (bw I q (congrArg not wg))
  | str j=>obtain ⟨t',rfl⟩:=ry;exact PySem.EqMixed.ne_int_str (bw I q (by simp))
  | _=>exact absurd (show false=true from hs) Bool.false_ne_true
 | str i=>
  obtain ⟨t,rfl⟩:=rx
  cases y with
  | non=>cases ry;exact PySem.EqNone.ne_str_none (bw I q (by simp))
  | bl j=>cases ry;exact PySem.EqMixed.ne_str_bool (bw I q (by simp))
  | int j=>obtain ⟨t',rfl⟩:=ry;exact PySem.EqMixed.ne_str_int (bw I q (by simp))
  | str j=>obtain ⟨t',rfl⟩:=ry;exact ne_str (bw I q (congrArg not wj))
  | _=>exact absurd (show false=true from hs) Bool.false_ne_true
 | byt i=>
  obtain ⟨t,rfl⟩:=rx
  cases y with
  | byt j=>obtain ⟨t',rfl⟩:=ry;exact PySem.W.ne_bytes (bw I q (congrArg not wk))
  | _=>exact absurd (show false=true from hs) Bool.false_ne_true
 | _=>cases y<;>exact absurd (show false=true from hs) Bool.false_ne_true
theorem Gm:gg X (compareOp .LtE) (FV fun i j=>.bl (decide (i<=j))):=Gg fun _ _ _ _ _ _ _ q=>le_int q
theorem Gn:gg X (compareOp .Gt) (FV fun i j=>.bl (decide (j < i))):=Gg fun _ _ _ _ _ _ _ q=>gt_int q
theorem xP:gg X (compareOp .In) (fun x y H Q=>∃ i j,x=.str i/\y=.str j/\Q (.bl (!(Builtin.Str.occurrences j i 0 j.length 1).isEmpty)) H):=by
 intro pins s σ H x y v u Q I rx ry h
 obtain ⟨i,j,rfl,rfl,q⟩:=h
 obtain ⟨t,rfl⟩:=rx
 obtain ⟨t',rfl⟩:=ry
 exact in_str (bw I q rfl)
theorem rn:gg X (compareOp .NotIn) (fun x y H Q=>∃ i j,x=.str i/\y=.str j/\Q (.bl (!(!(Builtin.Str.occurrences j i 0 j.length 1).isEmpty))) H):=by
 intro pins s σ H x y v u Q I rx ry h
 obtain ⟨i,j,rfl,rfl,q⟩:=h
 obtain ⟨t,rfl⟩:=rx
 obtain ⟨t',rfl⟩:=ry
 exact notIn_str (bw I q rfl)
theorem gg.or {f:Value->Value->Sem Value} {r r':R2} (h:gg X f r) (h':gg X f r'):gg X f (fun x y H Q=>r x y H Q\/r' x y H Q):=by
 intro pins s σ H x y v u Q I rx ry q
 rcases q with q | q
 ·exact h pins s σ H x y v u Q I rx ry q
 ·exact h' pins s σ H x y v u Q I rx ry q
theorem Ih (b:Expr) {op:CmpOp} (h:op≠.In:=by decide) (h2:op≠.NotIn:=by decide):behindInMarks op b=false:=by
 have e1:(op == CmpOp.In)=false:=by cases op<;>first | rfl | exact absurd rfl h
 have e2:(op == CmpOp.NotIn)=false:=by cases op<;>first | rfl | exact absurd rfl h2
 cases b<;>simp [behindInMarks,e1,e2]
theorem Bw {op:CmpOp} {r:R2} (ho:gg X (compareOp op) r) (ha:PE X a ta) (hb:PE X b tb) (hm:behindInMarks op b=false):PE X (.Compare a [op] [b] pos) (Ge r ta tb):=by
 intro pins s σ H Q I h
 exact wpAny_Compare1 (Ei ha hb I h fun v u s2 x y H2 I2 rx ry q=>ho pins s2 σ H2 x y v u Q I2 rx ry q) hm
def Di (t:TE):TT:=fun σ H Q=>t σ H fun x H'=>∃ k,x=.bl k/\Q k H'
theorem By {op:CmpOp} {r:R2} (ho:gg X (compareOp op) r) (ha:PE X a ta) (hb:PE X b tb) (hm:behindInMarks op b=false):PT X (.Compare a [op] [b] pos) (Di (Ge r ta tb)):=by
 intro pins s σ H Q I h
 refine wpAny_isTrue_Compare1 (bJ (ha pins s σ H _ I h) fun v s1 ⟨x,H1,I1,r1,q1⟩=>bJ (hb pins s1 σ H1 _ I1 q1) fun u s2 ⟨y,H2,I2,r2,q2⟩=>
  bJ (ho pins s2 σ H2 x y v u _ I2 r1 r2 q2) fun c s3 ⟨z,H3,I3,r3,k,e,q3⟩=>?_) hm
 subst e
 cases r3
 exact wpAny_truthy_bool ⟨H3,I3,q3⟩
def u3 (r r':R2) (ta tb tc:TE):TE:=fun σ H Q=>ta σ H fun x H1=>tb σ H1 fun y H2=>r x y H2 fun z H3=>∃ k,z=.bl k /\
 (if k=true then tc σ H3 fun w' H4=>r' y w' H4 Q else Q (.bl false) H3)
theorem yS {op op':CmpOp} {r r':R2} (ho:gg X (compareOp op) r) (ho':gg X (compareOp op') r') (ha:PE X a ta) (hb:PE X b tb) (hc:PE X c tc)
  (hm:lastMarks [op,op'] [b,c]=false:=by with_unfolding_all rfl):PE X (.Compare a [op,op'] [b,c] pos) (u3 r r' ta tb tc):=by
 intro pins s σ H Q I h
 refine Compare_chain (bJ (ha pins s σ H _ I h) fun v s1 ⟨x,H1,I1,r1,q1⟩=>chain_link (bJ (hb pins s1 σ H1 _ I1 q1) fun u s2 ⟨y,H2,I2,r2,q2⟩=>
  bJ (ho pins s2 σ H2 x y v u _ I2 r1 r2 q2) fun d s3 ⟨z,H3,I3,r3,k,e,q3⟩=>?_)) hm
 subst e
 cases r3
 refine wpAny_truthy_bool ?_
 cases k with
 | false=>exact ite_ff ⟨.bl false,H3,I3,rfl,q3⟩
 | true=>exact ite_tt (chain_last (bJ (hc pins s3 σ H3 _ I3 q3) fun w' s4 ⟨z',H4,I4,r4,q4⟩=>ho' pins s4 σ H4 y z' u w' Q I4 r2 r4 q4))
theorem yT {op op':CmpOp} {r r':R2} (ho:gg X (compareOp op) r) (ho':gg X (compareOp op') r') (ha:PE X a ta) (hb:PE X b tb) (hc:PE X c tc)
  (hm:lastMarks [op,op'] [b,c]=false:=by with_unfolding_all rfl):PT X (.Compare a [op,op'] [b,c] pos) (Di (u3 r r' ta tb tc)):=by
 intro pins s σ H Q I h
 refine isTrue_chain (bJ (ha pins s σ H _ I h) fun v s1 ⟨x,H1,I1,r1,q1⟩=>test_link (bJ (hb pins s1 σ H1 _ I1 q1) fun u s2 ⟨y,H2,I2,r2,q2⟩=>
  bJ (ho pins s2 σ H2 x y v u _ I2 r1 r2 q2) fun d s3 ⟨z,H3,I3,r3,k,e,q3⟩=>?_)) hm
 subst e
 cases r3
 refine wpAny_truthy_bool ?_
 cases k with
 | false=>
  obtain ⟨k',e',q'⟩:=q3
  cases e'
  exact ite_ff ⟨H3,I3,q'⟩
 | true=>
  refine ite_tt (test_last (bJ (hc pins s3 σ H3 _ I3 q3) fun w' s4 ⟨z',H4,I4,r4,q4⟩=>bJ (ho' pins s4 σ H4 y z' u w' _ I4 r2 r4 q4) fun d' s5 ⟨z2,H5,I5,r5,k2,e2,q5⟩=>?_))
  subst e2
  cases r5
  exact wpAny_truthy_bool ⟨H5,I5,q5⟩
def Ep (K:PySem.W.Frag) (x:V) (H:Hp) (k:Bool):Prop:=
 match x with
 | .non=>k=false
 | .bl b=>k=b
 | .int i=>k=(i != 0)
 | .str y=>y.length<=sizeLine/\k=((y.length:Int) != 0)
 | .byt y=>y.size<=sizeLine/\k=((y.size:Int) != 0)
 | .ref p=>(∃ xs,gD K H p xs/\k=!xs.isEmpty)\/(∃ xs,eZ K H p xs/\k=!xs.isEmpty)\/∃ kvs,H p=some (.dK kvs)/\k=!kvs.isEmpty
 | _=>False
theorem u5 {κ:Type} {kvs:List (κ×V)} {vs:List (κ×Value)} (r:KV kvs vs):(!vs.isEmpty)=!kvs.isEmpty:=by
 cases r<;>rfl
theorem nK {xs:List V} {its:List Value} (r:Vals xs its):(!its.toArray.isEmpty)=!xs.isEmpty:=by
 cases r<;>simp
theorem nL:(sizeLine:Nat) < 2 ^ 63:=by rw [sizeLine_eq];decide
theorem u6:Eh X (fun x H Q=>∃ k,Ep X.K x H k/\Q k H):=by
 intro pins s σ H x v Q I rx h
 obtain ⟨k,e,q⟩:=h
 have hl:=nL
 have hs:sizeLine=16777216:=sizeLine_eq
 cases x with
 | non=>
  cases rx
  have e':k=false:=e
  subst e'
  exact truthy_none ⟨H,I,q⟩
 | bl b=>
  cases rx
  have e':k=b:=e
  subst e'
  exact wpAny_truthy_bool ⟨H,I,q⟩
 | int i=>
  obtain ⟨t,rfl⟩:=rx
  have e':k=(i != 0):=e
  subst e'
  exact PySem.P.truthy_int ⟨H,I,q⟩
 | str y=>
  obtain ⟨t,rfl⟩:=rx
  obtain ⟨hy,e'⟩:y.length<=sizeLine/\k=((y.length:Int) != 0):=e
  subst e'
  exact PySem.P.truthy_str (by omega) ⟨H,I.tok _,q⟩
 | byt y=>
  obtain ⟨t,rfl⟩:=rx
  obtain ⟨hy,e'⟩:y.size<=sizeLine/\k=((y.size:Int) != 0):=e
  subst e'
  exact PySem.W.truthy_bytes (by omega) ⟨H,I.tok _,q⟩
 | ref p=>
  cases rx
  have e':(∃ xs,gD X.K H p xs/\k=!xs.isEmpty)\/(∃ xs,eZ X.K H p xs/\k=!xs.isEmpty)\/∃ kvs,H p=some (.dK kvs)/\k=!kvs.isEmpty:=e
  rcases e' with ⟨xs,hx,e'⟩ | ⟨xs,hx,e'⟩ | ⟨kvs,hx,e'⟩
  ·subst e'
   obtain ⟨its,r,pl,hz⟩:=I.list hx
   have hlen:=r.length
   exact wpAny_truthy_list pl.isList (by simp only [List.size_toArray];omega) ⟨H,I.tok _,by rw [nK r];exact q⟩
  ·subst e'
   obtain ⟨its,r,pl,hz⟩:=I.tuple hx
   have hlen:=r.length
   exact truthy_tuple pl (by simp only [List.size_toArray];omega) ⟨H,I.tok _,by rw [nK r];exact q⟩
  ·subst e'
   obtain ⟨hz,hS,vs,r,m⟩:kvs.length<=sizeLine/\(p == sysModules)=false/\∃ vs,KV kvs vs/\s.heap.DictOf (bX X.prog X.w) p vs:=I.hok p _ hx
   have hlen:kvs.length=vs.length:=Paired.length r
   exact wpAny_truthy_dict hS m (by omega) ⟨H,I.tok _,by rw [u5 r];exact q⟩
 | _=>exact (show False from e).elim
theorem yU (ha:PE X a ta) (he:∀ whole,isTrue a X.env whole=(do let v <- whole;standAt a.pos;holding [v] (truthy v))) :
  PT X a (fun σ H Q=>ta σ H fun x H'=>∃ k,Ep X.K x H' k/\Q k H'):=by
 intro pins s σ H Q I h
 exact isTrue_plain (bJ (ha pins s σ H _ I h) fun v s1 ⟨x,H1,I1,r1,q1⟩=>u6 pins s1 σ H1 x v Q I1 r1 q1) (he _)
theorem u7:gg X (binaryOp .Add) (fun x y H Q=>∃ i j,x=.str i/\y=.str j/\i.length+j.length<=sizeLine/\Q (.str (i++j)) H):=by
 intro pins s σ H x y v u Q I rx ry h
 obtain ⟨i,j,rfl,rfl,hz,q⟩:=h
 obtain ⟨t,rfl⟩:=rx
 obtain ⟨t',rfl⟩:=ry
 exact add_str (fun t' tk=>⟨.str (i++j),H,I.tok _,⟨_,rfl⟩,q⟩) hz
theorem vals1 {x:V} {us:List Value} (r:Vals [x] us):∃ u,us=[u]/\RelV x u:=by
 cases r with
 | cons r1 r2=>cases r2;exact ⟨_,rfl,r1⟩
theorem vals2 {x y:V} {us:List Value} (r:Vals [x,y] us):∃ u w',us=[u,w']/\RelV x u/\RelV y w':=by
 cases r with
 | cons r1 r2=>
  cases r2 with
  | cons r3 r4=>cases r4;exact ⟨_,_,rfl,r1,r3⟩
theorem yV:cR X (.builtin "abs") (fun xs H Q=>∃ i,xs=[.int i]/\Q (.int (if i < 0 then -i else i)) H):=by
 intro pins s σ H xs us Q I r h
 obtain ⟨i,rfl,q⟩:=h
 obtain ⟨u,rfl,t,rfl⟩:=vals1 r
 exact call_abs_int fun u tk=>⟨.int (if i < 0 then -i else i),H,I.tok _,⟨_,rfl⟩,q⟩
theorem xQ (hc:X.calm=true):cR X (.builtin "max") (fun xs H Q=>∃ i j,xs=[.int i,.int j]/\Q (.int (if j > i then j else i)) H):=by
 intro pins s σ H xs us Q I r h
 obtain ⟨i,j,rfl,q⟩:=h
 obtain ⟨u,w',rfl,⟨t,rfl⟩,⟨t',rfl⟩⟩:=vals2 r
 refine max_two_ints (I.ok.hd hc) fun h' tk k=>⟨_,H,I.kept k,?_,q⟩
 by_cases hj:j > i
 ·rw [if_pos hj,if_pos hj];exact ⟨_,rfl⟩
 ·rw [if_neg hj,if_neg hj];exact ⟨_,rfl⟩
theorem xR (hc:X.calm=true):cR X (.builtin "min") (fun xs H Q=>∃ i j,xs=[.int i,.int j]/\Q (.int (if j < i then j else i)) H):=by
 intro pins s σ H xs us Q I r h
 obtain ⟨i,j,rfl,q⟩:=h
 obtain ⟨u,w',rfl,⟨t,rfl⟩,⟨t',rfl⟩⟩:=vals2 r
 refine min_two_ints (I.ok.hd hc) fun h' tk k=>⟨_,H,I.kept k,?_,q⟩
 by_cases hj:j < i
 ·rw [if_pos hj,if_pos hj];exact ⟨_,rfl⟩
 ·rw [if_neg hj,if_neg hj];exact ⟨_,rfl⟩
theorem xS:cR X (.type "int") (fun xs H Q=>(∃ i,xs=[.int i]/\Q (.int i) H)\/∃ k,xs=[.bl k]/\Q (.int (if k then 1 else 0)) H):=by
 intro pins s σ H xs us Q I r h
 rcases h with ⟨i,rfl,q⟩ | ⟨k,rfl,q⟩
 ·obtain ⟨u,rfl,t,rfl⟩:=vals1 r
  exact call_int_int ⟨.int i,H,I,⟨_,rfl⟩,q⟩
 ·obtain ⟨u,rfl,r1⟩:=vals1 r
  cases r1
  exact call_int_bool ⟨.int (if k then 1 else 0),H,I.tok _,⟨_,rfl⟩,q⟩
def Ii (K:PySem.W.Frag) (x:V) (H:Hp) (n:Nat):Prop:=
 match x with
 | .str y=>y.length<=sizeLine/\n=y.length
 | .byt y=>y.size<=sizeLine/\n=y.size
 | .ref p=>(∃ xs,gD K H p xs/\n=xs.length)\/∃ xs,eZ K H p xs/\n=xs.length
 | _=>False
theorem yW:cR X (.builtin "len") (fun xs H Q=>∃ x n,xs=[x]/\Ii X.K x H n/\Q (.int n) H):=by
 intro pins s σ H xs us Q I r h
 obtain ⟨x,n,rfl,e,q⟩:=h
 obtain ⟨u,rfl,rx⟩:=vals1 r
 have hl:=nL
 have hs:sizeLine=16777216:=sizeLine_eq
 cases x with
 | str y=>
  obtain ⟨t,rfl⟩:=rx
  obtain ⟨hy,e'⟩:y.length<=sizeLine/\n=y.length:=e
  subst e'
  exact len_str (by omega) ⟨.int _,H,I.tok _,⟨_,rfl⟩,q⟩
 | byt y=>
  obtain ⟨t,rfl⟩:=rx
  obtain ⟨hy,e'⟩:y.size<=sizeLine/\n=y.size:=e
  subst e'
  exact PySem.W.len_bytes (by omega) ⟨.int _,H,I.tok _,⟨_,rfl⟩,q⟩
 | ref p=>
  cases rx
  have e':(∃ xs,gD X.K H p xs/\n=xs.length)\/∃ xs,eZ X.K H p xs/\n=xs.length:=e
  rcases e' with ⟨xs,hx,e'⟩ | ⟨xs,hx,e'⟩
  ·subst e'
   obtain ⟨its,r',pl,hz⟩:=I.list hx
   have hlen:=r'.length
   exact Calls.call_len_list pl.isList (by simp only [List.size_toArray];omega) ⟨.int xs.length,H,I.tok _,⟨_,by simp only [List.size_toArray];rw [hlen]⟩,q⟩
  ·subst e'
   obtain ⟨its,r',pl,hz⟩:=I.tuple hx
   have hlen:=r'.length
   exact len_tuple pl (by simp only [List.size_toArray];omega) ⟨.int xs.length,H,I.tok _,⟨_,by simp only [List.size_toArray];rw [hlen]⟩,q⟩
 | _=>exact (show False from e).elim
theorem sV:cR X (.builtin "divmod") (fun xs H Q=>∃ i j,xs=[.int i,.int j]/\Gh i j/\∀ p,H p=none->Q (.ref p) (upd H p (.tup [.int (i / j),.int (i % j)]))):=by
 intro pins s σ H xs us Q I r h
 obtain ⟨i,j,rfl,⟨h1,h2⟩,q⟩:=h
 obtain ⟨u,w',rfl,⟨t,rfl⟩,⟨t',rfl⟩⟩:=vals2 r
 refine divmod_int (by omega) ?_ (.inl (PyProof.noPylong_small (by omega)))
 rw [Int.fdiv_eq_ediv_of_nonneg i (by omega),Int.fmod_eq_emod_of_nonneg i (by omega)]
 have hn:H s.heap.objs.size=none:=I.hok.fresh (Nat.le_refl _)
 refine ⟨.ref s.heap.objs.size,_,?_,rfl,q _ hn⟩
 refine I.laid (fun b o e=>Heap.get?_push_of_some _ e) (Nat.le_refl _) ⟨by simp only [List.length_cons,List.length_nil];rw [sizeLine_eq];decide,[.int (i / j) s.toks,.int (i % j) (s.toks+1)],.cons ⟨_,rfl⟩ (.cons ⟨_,rfl⟩ .nil),?_⟩
 exact ⟨_,Heap.get?_push_size s.heap rfl,rfl,0,rfl⟩
end
end L2
namespace L2
open PySem PySem.Spec PyProof.Rows
structure Er (h:Heap) (x dx C:Addr) (mA:Str->Option Value):Prop where
 obj:h.get? x=some (PySem.W.instObj C dx)
 ns:h.Ns1 dx mA
 ne:dx≠x
theorem xT {h:Heap} {dx:Addr} {mA:Str->Option Value} (n:h.Ns1 dx mA):∃ od,h.get? dx=some od/\∀ name,PySem.W.lookIn name od=some (mA name):=by
 obtain ⟨o,es,ep,ho,hd,hk,_,hm⟩:=n
 refine ⟨o,ho,fun name=>?_⟩
 have e:=hm name
 unfold nsFind findBy at e
 rw [<- Array.find?_toList] at e
 unfold PySem.W.lookIn
 rw [hd]
 dsimp only
 split
 ·rename_i y q
  rw [q] at e
  exact congrArg some e
 ·rename_i q
  rw [q] at e
  have a:es.toList.any (·.refKey)=false:=by
   rw [List.any_eq_false]
   intro y hy
   obtain ⟨z,t,hkey⟩:=hk y (Array.mem_toList_iff.mp hy)
   simp [DictEntry.refKey,hkey]
  have a':¬ es.toList.any (·.refKey)=true:=by rw [a];exact Bool.false_ne_true
  rw [if_neg a']
  exact congrArg some e
theorem Er.look {h:Heap} {x dx C:Addr} {mA:Str->Option Value} (I:Er h x dx C mA):∃ od,PySem.W.InstAt h x (PySem.W.instObj C dx) C (some od)/\∀ name,PySem.W.lookIn name od=some (mA name):=
 let ⟨od,ho,hl⟩:=xT I.ns
 ⟨od,⟨I.obj,rfl,rfl,ho⟩,hl⟩
section
variable {prog:Program} {w:World} {A:Around} {E:Value->Shared->Prop} {s:Shared} {K:PySem.W.Frag} {x dx C f:Addr} {mA:Str->Option Value} {name:Str} {v:Value}
end
theorem nI.some_of {v:V} {o:Option Value} (r:nI (some v) o):∃ u,o=some u/\RelV v u:=by
 cases o with
 | none=>exact (show False from r).elim
 | some u=>exact ⟨u,rfl,r⟩
section
variable {P:Program} {w:World} {H H':Hp} {h h':Heap} {a C dx:Addr} {fs fs':List (Str×V)}
theorem Bz (hok:iP P w H h) (e:H a=some (.ins C dx fs)):∃ mA,Er h a dx C mA/\(∀ f,nI (fs.lookup f) (mA f))/\PySem.Within mA (fs.map (·.1))/\fs.length<=1000/\H dx=some (.own a):=by
 obtain ⟨d,z,ne,ob,mA,n,r,q⟩:=(show cA P w H h a (.ins C dx fs) from hok a _ e)
 exact ⟨mA,⟨ob,n,ne⟩,r,q,z,d⟩
end
structure Ij (K:PySem.W.Frag) (C:Addr):Prop where
 pg:PySem.W.plainGet K C Str.empty=true
 hd:PySem.W.hasDictIn K C=true
 po:PySem.W.plainOver K C=true
 sa:PySem.W.findIn K (.ref C) "__setattr__" = some (some (.builtin "object.__setattr__"))
theorem Ij.get {K:PySem.W.Frag} {C:Addr} (c:Ij K C) (f:Str):PySem.W.plainGet K C f=true:=c.pg
section
variable {X:Cx} {pins:List (Addr×Obj)} {σ:St} {H:Hp} {s:Shared} {a C dx:Addr} {fs:List (Str×V)} {f:Str} {v:V} {A:Around} {E:Value->Shared->Prop}
end
section
variable {X:Cx} {o e value:Expr} {f:Str} {pos pos' tpos:Pos} {ta tv:TE}
end
section
variable {X:Cx} {pins:List (Addr×Obj)} {σ:St} {H:Hp} {s:Shared} {A:Around} {E:Value->Shared->Prop} {Q:Value->Shared->Prop} {c:Value} {b:Bool}
inductive kA (K:PySem.W.Frag) (H:Hp):V->Value->Prop where
 | non:kA K H .non (.type "NoneType")
 | bl (x:Bool):kA K H (.bl x) (.type "bool")
 | int (i:Int):kA K H (.int i) (.type "int")
 | str (x:Str):kA K H (.str x) (.type "str")
 | flt (x:UInt64):kA K H (.flt x) (.type "float")
 | lst {a:Addr} {xs:List V} (e:H a=some (.lst xs)):kA K H (.ref a) (.type "list")
 | frz {a:Addr} {o:Obj} {xs:List V} (e:H a=some (.frz o (.lst xs))):kA K H (.ref a) (.type "list")
 | tup {a:Addr} {xs:List V} (e:H a=some (.tup xs)):kA K H (.ref a) (.type "tuple")
 | dK {a:Addr} {kvs:List (Key×V)} (e:H a=some (.dK kvs)):kA K H (.ref a) (.type "dict")
 | dT {a:Addr} {kvs:List (List Key×V)} (e:H a=some (.dT kvs)):kA K H (.ref a) (.type "dict")
 | ins {a C dx:Addr} {fs:List (Str×V)} (e:H a=some (.ins C dx fs)) (cl:Ij K C) (ha:PySem.W.findIn K (.ref C) "__class__" = some (some (.builtin "object.__class__")))
   (hn:PySem.W.specialIn K (.builtin "object.__class__") "__get__" = some (some (.builtin "getset_descriptor.__get__"))) (htk:PySem.W.takesIn K (.builtin "object.__class__")=some true)
   (hm:PySem.W.mroIn K C (.type "object")=some true):kA K H (.ref a) (.ref C)
theorem xU {x:V} {u t:Value} (I:Inv X pins σ H s) (rx:RelV x u) (ty:kA X.K H x t) (e:PySem.W.kitOne X.K t c=some b) (h:∀ tk,Q (.bool b) {s with toks:=tk}) :
  wpAny (model X.prog X.w) A (call (.builtin "isinstance") [u,c]) Q E s:=by
 cases ty with
 | non=>cases (show u=Value.none from rx);exact PySem.W.kia_one PySem.W.kitx_none I.rj True.intro e (fun z=>nomatch z) h
 | bl y=>cases (show u=Value.bool y from rx);exact PySem.W.kia_one PySem.W.kitx_bool I.rj True.intro e (fun z=>nomatch z) h
 | int i=>obtain ⟨t,q⟩:=(show ∃ t,u=Value.int i t from rx);cases q;exact PySem.W.kia_one PySem.W.kitx_int I.rj True.intro e (fun z=>nomatch z) h
 | str y=>obtain ⟨t,q⟩:=(show ∃ t,u=Value.str y t from rx);cases q;exact PySem.W.kia_one PySem.W.kitx_str I.rj True.intro e (fun z=>nomatch z) h
 | flt y=>obtain ⟨t,q⟩:=(show ∃ t,u=Value.float y t from rx);cases q;exact PySem.W.kia_one PySem.W.kitx_float I.rj True.intro e (fun z=>nomatch z) h
 | @lst a xs ea=>
  cases (show u=Value.ref a from rx)
  obtain ⟨_,_,n,_,h1⟩:=(show cA X.prog X.w H s.heap a (.lst xs) from I.hok a _ ea)
  exact PySem.W.kia_one PySem.W.kitx_list I.rj ⟨_,h1,rfl⟩ e (fun z=>nomatch z) h
 | @frz a ob xs ea=>
  cases (show u=Value.ref a from rx)
  obtain ⟨_,_,_,n,_,h1⟩:=(show cA X.prog X.w H s.heap a (.frz ob (.lst xs)) from I.hok a _ ea)
  exact PySem.W.kia_one PySem.W.kitx_list I.rj ⟨_,h1,rfl⟩ e (fun z=>nomatch z) h
 | @tup a xs ea=>
  cases (show u=Value.ref a from rx)
  obtain ⟨_,_,_,p⟩:=(show cA X.prog X.w H s.heap a (.tup xs) from I.hok a _ ea)
  obtain ⟨o,h1,h2,_⟩:=p
  exact PySem.W.kia_one PySem.W.kitx_tuple I.rj ⟨o,h1,h2⟩ e (fun z=>nomatch z) h
 | @dK a kvs ea=>
  cases (show u=Value.ref a from rx)
  obtain ⟨_,_,vs,_,p⟩:=(show cA X.prog X.w H s.heap a (.dK kvs) from I.hok a _ ea)
  obtain ⟨o,es,ep,h1,h2,_⟩:=p
  exact PySem.W.kia_one PySem.W.kitx_dict I.rj ⟨o,h1,h2.1⟩ e (fun z=>nomatch z) h
 | @dT a kvs ea=>
  cases (show u=Value.ref a from rx)
  obtain ⟨_,_,xs,_,o,es,ep,h1,h2,_⟩:=(show cA X.prog X.w H s.heap a (.dT kvs) from I.hok a _ ea)
  exact PySem.W.kia_one PySem.W.kitx_dict I.rj ⟨o,h1,h2.1⟩ e (fun z=>nomatch z) h
 | @ins a C dx fs ea cl ha hn htk hm=>
  cases (show u=Value.ref a from rx)
  obtain ⟨mA,O,_⟩:=Bz I.hok ea
  obtain ⟨od,J,_⟩:=O.look
  exact PySem.W.kia_one (PySem.W.kitx_own (cl.get _) cl.hd ha hn htk hm) I.rj J e (fun z=>nomatch z) h
end
end L2
namespace L2
open PySem PySem.Spec PyProof.Rows
structure df (k:Nat) (A:Around):Prop where
 hd:A.handled=none
 dp:A.depth+3 * k+5 < recursionLimit
 un:A.units+16 * k+200 < cLine
 gd:A.guards=some []
theorem df.mono {j k:Nat} {A:Around} (r:df k A) (h:j<=k):df j A:=⟨r.hd,by have:=r.dp;omega,by have:=r.un;omega,r.gd⟩
theorem df.deeper {k:Nat} {A:Around} (r:df (k+1) A) (env:Env):df k (A.deeper env):=
 ⟨r.hd,by have:=r.dp;show A.depth+1+3 * k+5 < _;omega,by have:=r.un;show A.units+3+16 * k+200 < _;omega,r.gd⟩
theorem df.depth {k:Nat} {A:Around} (r:df k A):A.depth < recursionLimit:=by have:=r.dp;omega
theorem df.units {k:Nat} {A:Around} (r:df k A):A.units+64 < cLine:=by have:=r.un;omega
def Gp:TA:=fun _ H Q=>Q [] H
def Dj (ta:TE) (tr:TA):TA:=fun σ H Q=>ta σ H fun x H1=>tr σ H1 fun xs H2=>Q (x::xs) H2
section
variable {X:Cx} {e:Expr} {es:List Expr} {te:TE} {t:TA} {pos:Pos}
theorem rA:PA X [] Gp:=fun _ _ _ _ H Q I h=>Calls.spliced_nil ⟨[],H,I,.nil,h⟩
theorem kB (ha:PE X e te) (hr:PA X es t) (hs:starEach (e::es) X.env=(false,eval e X.env)::starEach es X.env:=by rfl):PA X (e::es) (Dj te t):=by
 intro pos pins s σ H Q I h
 rw [hs]
 show wpAny _ _ (spliced ((false,eval e X.env)::backTo pos (starEach es X.env))) _ _ s
 refine Calls.spliced_cons (bJ (ha pins s σ H _ I h) fun u s1 ⟨x,H1,I1,r1,q1⟩=>?_)
 exact bJ (hr pos pins s1 σ H1 _ I1 q1) fun us s2 ⟨xs,H2,I2,r2,q2⟩=>⟨x::xs,H2,I2,.cons r1 r2,q2⟩
def Ik (t:TA):TE:=fun σ H Q=>t σ H fun xs H1=>xs.length<=sizeLine/\∀ p,H1 p=none->Q (.ref p) (upd H1 p (.tup xs))
def Il (t:TA):TE:=fun σ H Q=>t σ H fun xs H1=>xs.length<=sizeLine/\∀ p,H1 p=none->Q (.ref p) (upd H1 p (.lst xs))
theorem yX {x1} (h:PA X es t):PE X (.Tuple es x1 pos) (Ik t):=by
 intro pins s σ H Q I hq
 refine wpAny_Tuple_spliced (bJ (h pos pins s σ H _ I hq) fun us s1 ⟨xs,H1,I1,r,z,q⟩=>⟨by rw [<- r.length];exact z,?_⟩)
 have hf:H1 s1.heap.objs.size=none:=I1.hok.fresh (Nat.le_refl _)
 refine ⟨.ref s1.heap.objs.size,upd H1 s1.heap.objs.size (.tup xs),I1.laid (t':=s1.toks) (fun b u e=>Heap.get?_push_of_some _ e) (Nat.le_refl _) ?_,rfl,q _ hf⟩
 exact ⟨z,us,r,⟨_,Heap.get?_push_size _ rfl,rfl,_,rfl⟩⟩
theorem u9 (h:PA X es t):PE X (.List es pos) (Il t):=by
 intro pins s σ H Q I hq
 refine wpAny_List_spliced (bJ (h pos pins s σ H _ I hq) fun us s1 ⟨xs,H1,I1,r,z,q⟩=>⟨by rw [<- r.length];exact z,?_⟩)
 have hf:H1 s1.heap.objs.size=none:=I1.hok.fresh (Nat.le_refl _)
 refine ⟨.ref s1.heap.objs.size,upd H1 s1.heap.objs.size (.lst xs),I1.laid (t':=s1.toks) (fun b u e=>Heap.get?_push_of_some _ e) (Nat.le_refl _) ?_,rfl,q _ hf⟩
 exact ⟨z,us,0,r,Heap.get?_push_size _ rfl⟩
end
abbrev Sp:=List V->Hp->VK->XK->Prop
abbrev yE:=List Env->Hp->Shared->XK->Value->Shared->Prop
structure BA (P:Program) (w:World) (K:PySem.W.Frag) (mg:Str->Option Value) (base:Heap) (A:Around) (outer:List Env) (s:Shared) (H:Hp):Prop where
 frames:A.frames=some outer
 mod:Mod K mg base
 bs:∀ b o,base.get? b=some o->s.heap.get? b=some o/\H b=none
 bsz:base.objs.size<=s.heap.objs.size
 ky:s.heap.FunFrames base outer
 frf:∀ b∈qo outer,H b=none
 hok:iP P w H s.heap
 bare:AllBare s.gens
def CE (outer:List Env) (P:Program) (w:World) (H:Hp) (s:Shared) (Q:VK) (u:Value) (s':Shared):Prop:=
 ∃ v H',s'.os=s.os/\AllBare s'.gens/\Un (qo outer) [] H H' s.heap s'.heap/\iP P w H' s'.heap/\RelV v u/\Q v H'
def CR (CX:yE) (outer:List Env) (P:Program) (w:World) (H:Hp) (s:Shared) (Q:VK) (E:XK) (r:Result) (s':Shared):Prop:=
 match r with
 | .ok (.ret u)=>CE outer P w H s Q u s'
 | .ok _=>False
 | .error e=>CX outer H s E e s'
structure jF (P:Program) (w:World) (K:PySem.W.Frag) (mg:Str->Option Value) (base:Heap) (CX:yE) (k:Nat) (f:Addr) (fd:FuncData) (ps:List Str) (sp:Sp):Prop where
 len:∀ vs H Q E,sp vs H Q E->vs.length=ps.length
 run:∀ (A:Around) (outer:List Env) (s:Shared) (H:Hp) (args:Args) (us:List Value) (vs:List V) (Q:VK) (E:XK),df k A->BA P w K mg base A outer s H->BindsTo s fd args (ps.zip us)->Vals vs us->sp vs H Q E ->
  codeAny (model P w) A (.call (.ref f) args) (CR CX outer P w H s Q E) s
theorem jF.imp {P:Program} {w:World} {K:PySem.W.Frag} {mg:Str->Option Value} {base:Heap} {CX:yE} {k:Nat} {f:Addr} {fd:FuncData} {ps:List Str} {sp sp':Sp} (F:jF P w K mg base CX k f fd ps sp)
  (h:∀ vs H Q E,sp' vs H Q E->sp vs H Q E):jF P w K mg base CX k f fd ps sp':=
 ⟨fun vs H Q E q=>F.len vs H Q E (h _ _ _ _ q),fun A outer s H args us vs Q E hr he hb hv hs=>F.run A outer s H args us vs Q E hr he hb hv (h _ _ _ _ hs)⟩
section
variable {X:Cx} {pins:List (Addr×Obj)} {σ:St} {H:Hp} {s s':Shared}
theorem Inv.Im (I:Inv X pins σ H s):BA X.prog X.w X.K X.mg X.base X.A X.stack s H:=
 ⟨I.ok.frames,I.ok.mod,I.bs,Nat.le_trans I.ok.bsz I.sz,I.stack,I.wb,I.hok,I.bare⟩
theorem Inv.after {Q:VK} {u:Value} (I:Inv X pins σ H s) (h:CE X.stack X.prog X.w H s Q u s'):EP X pins σ Q u s':=by
 obtain ⟨v,H',os,bare,un,hok,r,q⟩:=h
 obtain ⟨hh,g,d,t,os'⟩:=s'
 obtain rfl:os'=s.os:=os
 exact ⟨v,H',I.call (h':=hh) (g':=g) (d':=d) (t':=t) (ch:=[]) un hok bare (fun b z=>absurd z (by simp)),r,q⟩
end
def Dk (sp:Sp) (dvs:List V) (E:XK) (t:TA):TE:=fun σ H Q=>t σ H fun vs H1=>sp (vs++dvs) H1 Q E
def Binds (K:PySem.W.Frag) (fd:FuncData) (ps:List Str) (ds:List Value):Prop:=
 ∀ (s:Shared) (us:List Value),K.In s.heap->(us++ds).length=ps.length->BindsTo s fd ⟨us,[]⟩ (ps.zip (us++ds))
theorem Binds.all {K:PySem.W.Frag} {fd:FuncData} {ps:List Str} (h:∀ us:List Value,us.length=ps.length->bindArgs fd ⟨us,[]⟩=pure (ps.zip us)):Binds K fd ps []:=fun s us _ hl=>by
 rw [List.append_nil] at hl ⊢
 exact .of_eq (h us hl)
def Passes (CX:yE) (X:Cx) (E:XK):Prop:=∀ (pins:List (Addr×Obj)) (σ:St) (H:Hp) (s:Shared) (e:Value) (s':Shared),Inv X pins σ H s->CX X.stack H s E e s'->X.xe e s'
section
variable {X:Cx} {CX:yE} {k:Nat} {f C:Addr} {fd:FuncData} {ps:List Str} {sp:Sp} {dvs:List V} {ds:List Value} {E:XK} {x m:Str} {p pos apos:Pos} {e o:Expr} {es:List Expr} {ta:TE} {t:TA}
theorem Es {pins:List (Addr×Obj)} {σ:St} {H:Hp} {s:Shared} {Q:VK} {us:List Value} {vs:List V} (F:jF X.prog X.w X.K X.mg X.base CX k f fd ps sp) (hr:df k X.A) (hb:Binds X.K fd ps ds) (hd:Vals dvs ds) (hx:Passes CX X E)
  (I:Inv X pins σ H s) (r:Vals vs us) (h:sp (vs++dvs) H Q E):wpAny (model X.prog X.w) X.A (call (.ref f) us) (EP X pins σ Q) X.xe s:=by
 have r2:Vals (vs++dvs) (us++ds):=r.append hd
 have hl:(us++ds).length=ps.length:=by rw [<- r2.length];exact F.len _ _ _ _ h
 refine wpAny_call (codeAny_mono (F.run X.A X.stack s H ⟨us,[]⟩ (us++ds) (vs++dvs) Q E hr I.Im (hb s us I.rj hl) r2 h) fun r s' hq=>?_)
 cases r with
 | error e=>exact hx pins σ H s e s' I hq
 | ok fl=>
  cases fl with
  | ret u=>exact I.after hq
  | next=>exact False.elim hq
  | brk=>exact False.elim hq
  | cont=>exact False.elim hq
theorem BB (F:jF X.prog X.w X.K X.mg X.base CX k f fd ps sp) (hr:df k X.A) (hg:Gl X x) (hm:X.mg x=some (.ref f)) (hk:PySem.W.keepIn X.K (.ref f)=true) (hb:Binds X.K fd ps ds) (hd:Vals dvs ds) (hx:Passes CX X E)
  (ha:PA X (e::es) t) (hdb:(x == ("__debug__" : Str))=false:=by decide) (he:starEach (e::es) X.env=(false,eval e X.env)::starEach es X.env:=by rfl) (hpl:(backTo pos (starEach es X.env)).any (·.1)=false:=by rfl) :
  PE X (.Call (.Name x p) (e::es) [] pos) (Dk sp dvs E t):=by
 intro pins s σ H Q I h
 refine wpAny_Call_Name_kw (wc I hg hm ?_ hdb)
 refine PySem.W.callWith_K (h₀:=X.base) I.ok.mod.kin hk (bJ (ha pos pins s σ H _ I h) fun us s1 ⟨vs,H1,I1,r,q⟩=>⟨I1.rj,?_⟩) he hpl
 exact Es F hr hb hd hx I1 r q
end
section
variable {X:Cx} {CX:yE} {k:Nat} {f C:Addr} {fd:FuncData} {ps ks:List Str} {sp:Sp} {E:XK} {x m:Str} {p pos apos kpos:Pos} {e o:Expr} {es:List Expr} {kws:List Keyword} {te ta:TE} {t tk:TA} {nm:Option Str}
variable {g:List Value->List Value->List Value} {gV:List V->List V->List V}
end
structure aV (N P:List Str) (sc:Scope):Prop where
 kind:sc.kind=.function
 co:sc.isCoroutine=false
 gen:sc.isGenerator=false
 nd:N.Nodup
 pre:N.take P.length=P
 par:∀ x∈P,sc.names.lookup x=some .local\/sc.names.lookup x=some .cell
 nofree:∀ y∈sc.names,y.2≠.free
theorem qp {kindOf:Str->Option NameKind} {x:Str}:∀ {binds:List (Str×Value)} {m:Str->Option Value},(∀ v,(x,v)∉binds)->bindL kindOf binds m x=m x
 | [],_,_=>rfl
 | (n,v)::r,m,h=>by
  unfold bindL
  rw [qp fun w hw=>h w (List.mem_cons_of_mem _ hw)]
  split
  ·have:x≠n:=by rintro rfl;exact h v List.mem_cons_self
   simp [this]
  ·rfl
theorem qq {kindOf:Str->Option NameKind} {x:Str}:∀ {binds:List (Str×Value)} {m:Str->Option Value},(∀ v,(x,v)∉binds)->bindC kindOf binds m x=m x
 | [],_,_=>rfl
 | (n,v)::r,m,h=>by
  unfold bindC
  rw [qq fun w hw=>h w (List.mem_cons_of_mem _ hw)]
  split
  ·rfl
  ·have:x≠n:=by rintro rfl;exact h v List.mem_cons_self
   simp [this]
theorem qr {kindOf:Str->Option NameKind} {x:Str} {v:Value}:∀ {P:List Str} {vs:List Value} {i:Nat} {m:Str->Option Value},P.Nodup->P[i]?=some x->vs[i]?=some v->kindOf x=some .local ->
  bindL kindOf (P.zip vs) m x=some v
 | [],_,_,_,_,h,_,_=>by simp at h
 | _::_,[],_,_,_,_,h,_=>by simp at h
 | p::P,w::vs,0,m,nd,h1,h2,hk=>by
  simp at h1 h2;subst h1;subst h2
  show bindL kindOf ((p,w)::P.zip vs) m p=_
  unfold bindL
  rw [qp fun v hv=>(List.nodup_cons.mp nd).1 (List.of_mem_zip hv).1,if_pos hk]
  simp
 | p::P,w::vs,i+1,m,nd,h1,h2,hk=>by
  show bindL kindOf ((p,w)::P.zip vs) m x=_
  unfold bindL
  exact qr (i:=i) (List.nodup_cons.mp nd).2 (by simpa using h1) (by simpa using h2) hk
theorem qt {kindOf:Str->Option NameKind} {x:Str} {v:Value}:∀ {P:List Str} {vs:List Value} {i:Nat} {m:Str->Option Value},P.Nodup->P[i]?=some x->vs[i]?=some v->kindOf x≠some .local ->
  bindC kindOf (P.zip vs) m x=some v
 | [],_,_,_,_,h,_,_=>by simp at h
 | _::_,[],_,_,_,_,h,_=>by simp at h
 | p::P,w::vs,0,m,nd,h1,h2,hk=>by
  simp at h1 h2;subst h1;subst h2
  show bindC kindOf ((p,w)::P.zip vs) m p=_
  unfold bindC
  rw [qq fun v hv=>(List.nodup_cons.mp nd).1 (List.of_mem_zip hv).1,if_neg hk]
  simp
 | p::P,w::vs,i+1,m,nd,h1,h2,hk=>by
  show bindC kindOf ((p,w)::P.zip vs) m x=_
  unfold bindC
  exact qt (i:=i) (List.nodup_cons.mp nd).2 (by simpa using h1) (by simpa using h2) hk
def start (N:List Str) (vs:List V):St:=vs.map some++List.replicate (N.length - vs.length) none
def pQ (CX:yE) (P:Program) (w:World) (K:PySem.W.Frag) (mg:Str->Option Value) (base:Heap) (N:List Str) (qual:Str) (scope:Scope) (f:Addr) (cd:Value) (A:Around) (outer:List Env) (s:Shared) (H:Hp) (E:XK):Cx where
 prog:=P
 w:=w
 K:=K
 mg:=mg
 base:=base
 A:=A.deeper (envOfC qual scope s.heap.objs.size f cd)
 N:=N
 s₀:=s
 H₀:=H
 env:=envOfC qual scope s.heap.objs.size f cd
 outer:=outer
 stack:=envOfC qual scope s.heap.objs.size f cd::outer
 ex:=[]
 calm:=true
 fn:=fun _=>true
 pn:=[]
 xe:=fun e s'=>wpAny (model P w) (A.deeper (envOfC qual scope s.heap.objs.size f cd)) (leaving (envOfC qual scope s.heap.objs.size f cd) e) (fun _ s''=>CX outer H s E e s'') (fun e' s''=>CX outer H s E e' s'') s'
theorem sW {sc:Scope} {n:Nat} {x:Str} (h:sc.names.lookup x=some .cell):∃ c,(cellsFrom n sc.names []).lookup x=some c:=by
 have q:=PySem.W.cellsFrom_some sc.names n [] (.inl h)
 exact Option.isSome_iff_exists.mp q
theorem xV {CX:yE} {P:Program} {w:World} {K:PySem.W.Frag} {mg:Str->Option Value} {base:Heap} {N ps:List Str} {qual:Str} {scope:Scope} {f:Addr} {cd:Value} {A:Around} {outer:List Env} {s s1:Shared} {H:Hp} {E:XK} {us:List Value} {vs:List V}
  (S:aV N ps scope) (hd:A.handled=none) (e0:BA P w K mg base A outer s H) (hl:vs.length=ps.length) (r:Vals vs us)
  (x:InCallC s s.heap.objs.size (bindL (envOfC qual scope s.heap.objs.size f cd).kindOf (ps.zip us) fun _=>none) (cellsFrom (s.heap.objs.size+1) scope.names []) (bindC (envOfC qual scope s.heap.objs.size f cd).kindOf (ps.zip us) fun _=>none) s1) :
  Inv (pQ CX P w K mg base N qual scope f cd A outer s H E) [] (start N vs) H s1:=by
 have hpl:ps.length<=N.length:=by have:=congrArg List.length S.pre;rw [List.length_take] at this;omega
 obtain ⟨h1,tk,rfl,hk⟩:=x.done
 have noA:∀ b:Addr,b∉(pQ CX P w K mg base N qual scope f cd A outer s H E).ex:=fun b z=>absurd (show b∈([]:List Addr) from z) (by simp)
 refine ⟨⟨e0.mod,S.kind,rfl,rfl,Nat.le_refl _,fun y z c h1 h2=>?_,fun y hy=>?_,fun y c _ h=>?_,fun _=>hd,Around.frames_deeper e0.frames,.inr ⟨rfl,rfl⟩,fun b z=>absurd z (noA b),e0.bs,e0.bsz,fun b _ _=>noA b,fun b z=>absurd z (noA b),e0.ky,e0.frf⟩,
  rfl,e0.bare,Un.kept hk,⟨_,x.toInCall.ns,fun i y v h1 h2 h3=>?_⟩,fun y c h=>⟨_,x.cell y c h⟩,e0.hok.fresh (Nat.le_refl _),fun y c h=>?_,fun p hp=>absurd (show p∈([]:List (Addr×Obj)) from hp) (by simp),e0.hok.kept hk,?_⟩
 ·exact name_of_addr x.apart (PySem.mem_of_lookup h1) (PySem.mem_of_lookup h2)
 ·have hy:scope.names.lookup y=some .cell\/scope.names.lookup y=some .free:=hy
  rcases hy with hy | hy
  ·exact sW hy
  ·exact absurd rfl (S.nofree _ (PySem.mem_of_lookup hy))
 ·exact Nat.le_of_lt (x.above y c (PySem.mem_of_lookup h))
 ·have hi:i < vs.length:=by
   unfold start at h2
   by_cases hi:i < vs.length
   ·exact hi
   ·rw [List.getElem?_append_right (by simpa using hi)] at h2
    rw [List.getElem?_replicate] at h2
    split at h2<;>cases h2
  have ha:vs[i]?=some v:=by
   unfold start at h2
   rw [List.getElem?_append_left (by simpa using hi),List.getElem?_map] at h2
   cases e:vs[i]? with
   | none=>rw [e] at h2;cases h2
   | some a=>rw [e] at h2;cases h2;rfl
  obtain ⟨u,hu,rv⟩:=r.get ha
  have hp:ps[i]?=some y:=by
   rw [<- S.pre,List.getElem?_take_of_lt (by omega)];exact h1
  have ndP:ps.Nodup:=by rw [<- S.pre];exact S.nd.sublist (List.take_sublist _ _)
  refine ⟨u,rv,?_⟩
  rcases S.par y (List.mem_of_getElem? hp) with k | k
  ·exact .inl ⟨k,qr ndP hp hu k⟩
  ·obtain ⟨c,e⟩:=sW (n:=s.heap.objs.size+1) k
   refine .inr ⟨.inl k,c,e,?_⟩
   have q:=x.cell y c e
   rw [qt ndP hp hu (by show scope.names.lookup y≠_;rw [k];decide)] at q
   exact q
 ·exact e0.hok.fresh (Nat.le_of_lt (x.above y c (PySem.mem_of_lookup h)))
 ·unfold start
  show _=N.length
  rw [List.length_append,List.length_map,List.length_replicate]
  omega
theorem Gq {CX:yE} {P:Program} {w:World} {K:PySem.W.Frag} {mg:Str->Option Value} {base:Heap} {k:Nat} {f:Addr} {name qual:Str} {params:Arguments} {body:List Stmt} {scope:Scope} {dV kV doc pm cdv ct oc:Value} {an od:Option Addr}
  {osl:Array (Option Value)} {N ps:List Str} {sp:Sp} (lk:K.lookup f=some ⟨oc,od,.func (PySem.W.fnOf name qual params body scope dV kV doc pm an cdv ct),osl⟩) (hcd:PySem.W.codeIn K cdv qual=true) (S:aV N ps scope)
  (len:∀ vs H Q E,sp vs H Q E->vs.length=ps.length)
  (hbody:∀ (A:Around) (outer:List Env) (s:Shared) (H:Hp) (vs:List V) (Q:VK) (E:XK),df k (A.deeper (envOfC qual scope s.heap.objs.size f cdv))->sp vs H Q E ->
   ∃ t,uW (pQ CX P w K mg base N qual scope f cdv A outer s H E) body t/\t {nx:=fun _ H'=>Q .non H',rt:=Q} (start N vs) H) :
  jF P w K mg base CX (k+1) f (PySem.W.fnOf name qual params body scope dV kV doc pm an cdv ct) ps sp:=by
 refine ⟨len,fun A outer s H args us vs Q E hr e0 hb r hsp=>?_⟩
 have hl:=len _ _ _ _ hsp
 have KX:K.In s.heap:=e0.mod.kin.keeps fun b o e=>(e0.bs b o e).1
 have lim:s.heap.NoLimit:=e0.mod.nolimit.keeps fun b o e=>(e0.bs b o e).1
 have hkind:∀ y∈ps.zip us,scope.names.lookup y.1=some .local\/(scope.names.lookup y.1=some .cell/\((cellsFrom (s.heap.objs.size+1) scope.names []).lookup y.1).isSome=true):=fun ⟨n,v⟩ hy=>by
  rcases S.par n (List.of_mem_zip hy).1 with q | q
  ·exact .inl q
  ·exact .inr ⟨q,PySem.W.cellsFrom_some _ _ _ (.inl q)⟩
 refine codeAny_call_function hr.depth (KX _ _ lk) rfl S.co S.gen rfl (PySem.W.codeRec_of KX hcd) (hb _ _ _ _ ?_)
 refine wpAny_newFunctionEnv_cells S.kind hkind fun env he s1 x=>?_
 subst he
 refine ⟨lim.keeps x.toInCall.keep,codeAny_func ?_⟩
 obtain ⟨t,ht,hq⟩:=hbody A outer s H vs Q E (hr.deeper _) hsp
 have I:Inv (pQ CX P w K mg base N qual scope f cdv A outer s H E) [] (start N vs) H s1:=xV S hr.hd e0 hl r x
 refine wpAny_mono (ht [] s1 (start N vs) H _ I hq) (fun fl s' hs=>?_) fun e s' hs=>hs
 have fin:∀ {σ':St} {H':Hp} {v:V} {u:Value},Inv (pQ CX P w K mg base N qual scope f cdv A outer s H E) [] σ' H' s'->RelV v u->Q v H'->CE outer P w H s Q u s':=
  fun {σ' H' v u} J rv q=>⟨v,H',J.os,J.bare,J.base,J.hok,rv,q⟩
 cases fl with
 | ret u=>
  obtain ⟨v,σ',H',J,rv,q⟩:=hs
  exact fin J rv q
 | next=>
  obtain ⟨σ',H',J,q⟩:=hs
  exact fin (v:=V.non) (u:=Value.none) J rfl q
 | brk=>
  obtain ⟨_,_,_,q⟩:=hs
  exact False.elim q
 | cont=>
  obtain ⟨_,_,_,q⟩:=hs
  exact False.elim q
end L2
namespace L2
open PySem PySem.Spec PyProof.Rows
section
variable {X:Cx} {x:Str} {p pos:Pos} {e:Expr} {es:List Expr} {t:TA} {id T:String} {r:List V->Hp->VK->Prop}
def Io (r:List V->Hp->VK->Prop) (t:TA):TE:=fun σ H Q=>t σ H fun vs H1=>r vs H1 Q
theorem sX (hc:cR X (.builtin id) r) (hg:Gl X x) (hm:X.mg x=none) (hv:bootBuiltins x=some (.builtin id)) (ha:PA X (e::es) t) (hn:x ≠ "__name__" := by decide) (hdb:(x == ("__debug__" : Str))=false:=by decide)
  (he:starEach (e::es) X.env=(false,eval e X.env)::starEach es X.env:=by rfl) (hpl:(backTo pos (starEach es X.env)).any (·.1)=false:=by rfl):PE X (.Call (.Name x p) (e::es) [] pos) (Io r t):=by
 intro pins s σ H Q I h
 refine wpAny_Call_Name_kw (gC I hg hm hv ?_ hn hdb)
 exact PyProof.Rows.callWith_builtin1 (bJ (ha pos pins s σ H _ I h) fun us s1 ⟨vs,H1,I1,r1,q1⟩=>hc pins s1 σ H1 vs us Q I1 r1 q1) he hpl
theorem xW (hc:cR X (.type T) r) (hg:Gl X x) (hm:X.mg x=none) (hv:bootBuiltins x=some (.type T)) (ha:PA X (e::es) t) (hn:x ≠ "__name__" := by decide) (hdb:(x == ("__debug__" : Str))=false:=by decide)
  (he:starEach (e::es) X.env=(false,eval e X.env)::starEach es X.env:=by rfl) (hpl:(backTo pos (starEach es X.env)).any (·.1)=false:=by rfl):PE X (.Call (.Name x p) (e::es) [] pos) (Io r t):=by
 intro pins s σ H Q I h
 refine wpAny_Call_Name_kw (gC I hg hm hv ?_ hn hdb)
 exact PyProof.Rows.callWith_type1 (bJ (ha pos pins s σ H _ I h) fun us s1 ⟨vs,H1,I1,r1,q1⟩=>hc pins s1 σ H1 vs us Q I1 r1 q1) he hpl
end
end L2
namespace HT
open PySem PyProof.Rows
section
open PySem.SeqAt
open PySem.AutoSeq1 (wpAny_loadPart')
open PySem.MeetsSeq PySem.MeetsSeq2 PySem.MeetsSeq3
end
section
variable {prog:Program} {w:World} {A:Around} {E:Value->Shared->Prop} {s:Shared}
theorem BC {t b:Addr} {vs ws:List Value} {Q:Value->Shared->Prop} (ht:IsTup s.heap t vs.toArray) (hb:IsTup s.heap b ws.toArray) (hv:vs≠[])
  (h1:ws=[]->Q (.ref t) s) (h2:ws≠[]->Q (.ref s.heap.objs.size) {s with heap:=s.heap.push {cls:=.type "tuple",data:=.seq (vs++ws).toArray}})
  (hsz:vs.length+ws.length<=sizeLine):wpAny (model prog w) A (binaryOp .Add (.ref t) (.ref b)) Q E s:=by
 obtain ⟨⟨cls,dd,data,sl⟩,ho,hc,n,hd⟩:=id ht
 obtain ⟨⟨cls2,dd2,data2,sl2⟩,ho2,hc2,n2,hd2⟩:=id hb
 simp only at hc hd hc2 hd2
 subst hc hd hc2 hd2
 have e:vs.toArray++ws.toArray=(vs++ws).toArray:=by simp
 by_cases hw:ws=[]
 ·exact concat_meets ⟨_,ho,rfl⟩ ⟨_,ho2,rfl⟩ noFill_tuple_add seq_tuple_add PySem.F.slot_tuple_add PySem.F.entry_tuple_add (PySem.F.args_tuple_add_2 _ _)
   (tuple_addW1 t b vs.toArray ws.toArray n n2 dd dd2 sl sl2 (by simpa using hv) (by simp [hw])) ⟨ho,ho2,h1 hw⟩
 ·refine concat_meets ⟨_,ho,rfl⟩ ⟨_,ho2,rfl⟩ noFill_tuple_add seq_tuple_add PySem.F.slot_tuple_add PySem.F.entry_tuple_add (PySem.F.args_tuple_add_2 _ _)
   (tuple_addW2 t b vs.toArray ws.toArray n n2 dd dd2 sl sl2 (by simpa using hv) (by simpa using hw) (by rw [List.size_toArray,List.size_toArray];exact hsz)) ⟨ho,ho2,?_⟩
  rw [e]
  exact h2 hw
def dH (n d:Nat):Option Int->Nat
 | none=>d
 | some v=>if v < 0 then (v+(n:Int)).toNat else min v.toNat n
theorem Et (n d:Nat) (hd:d<=n) (o:Option Int):dH n d o<=n:=by
 cases o with
 | none=>exact hd
 | some v=>
  show (if v < 0 then (v+(n:Int)).toNat else min v.toNat n)<=n
  by_cases hv:v < 0
  ·rw [if_pos hv];omega
  ·rw [if_neg hv];exact Nat.min_le_right _ _
theorem wm (v:Int) (n d:Nat):(if v < 0 then max (v+(n:Int)) 0 else min v (n:Int))=((dH n d (some v):Nat):Int):=by
 show (if v < 0 then max (v+(n:Int)) 0 else min v (n:Int))=(((if v < 0 then (v+(n:Int)).toNat else min v.toNat n):Nat):Int)
 by_cases hv:v < 0
 ·simp only [if_pos hv];omega
 ·simp only [if_neg hv];omega
theorem va (lo hi:Option Int) (n:Nat):Builtin.Slice.sliceAdjust lo hi 1 (n:Int)=(((dH n 0 lo:Nat):Int),((dH n n hi:Nat):Int)):=by
 have h1:¬ ((1:Int) < 0):=by omega
 unfold Builtin.Slice.sliceAdjust
 simp only [h1,if_false]
 refine Prod.ext ?_ ?_
 ·cases lo with
  | none=>rfl
  | some v=>exact wm v n 0
 ·cases hi with
  | none=>rfl
  | some v=>exact wm v n n
theorem vb (i j:Nat):Builtin.Slice.slicePlaces (i:Int) (j:Int) 1=j - i:=by
 unfold Builtin.Slice.slicePlaces
 have h1:(1:Int) > 0:=by omega
 simp only [h1,if_true,Int.ediv_one]
 split<;>omega
theorem nM {v:Value} {o:Option Int} {Q:Option Int->Shared->Prop} (p:IsPart v o) (h:Q o s):wpAny (model prog w) A (Builtin.Slice.slicePartIndex v) Q E s:=by
 cases p with
 | none=>exact slicePart_none h
 | int i t=>exact slicePart_int h
theorem gM {sl:Addr} {vl vu:Value} {lo hi:Option Int} {n:Nat} {Q:Int×Int×Nat->Shared->Prop} (hs:s.heap.IsSliceOf sl vl vu .none) (pl:IsPart vl lo) (pu:IsPart vu hi)
  (h:Q (((dH n 0 lo:Nat):Int),1,dH n n hi - dH n 0 lo) s):wpAny (model prog w) A (Builtin.Slice.sliceApplied (.ref sl) (pure (n:Int))) Q E s:=by
 obtain ⟨os,hos,hcs,hds⟩:=id hs
 unfold Builtin.Slice.sliceApplied Builtin.Slice.sliceFields
 refine wpAny_bind (wpAny_bind (wpAny_field hos hds (x:=vl) rfl (wpAny_bind (wpAny_field hos hds (x:=vu) rfl (wpAny_bind (wpAny_field hos hds (x:=.none) rfl (wpAny_pure ?_)))))))
 refine wpAny_bind (slicePart_none ?_)
 show wpAny _ _ (if ((1:Int) == 0)=true then _ else _) _ _ s
 rw [if_neg (by decide)]
 refine wpAny_bind (nM pl (wpAny_bind (nM pu (wpAny_bind (wpAny_pure ?_)))))
 show wpAny _ _ (match Builtin.Slice.sliceAdjust lo hi 1 (n:Int) with | (lo,hi)=>pure (lo,(1:Int),Builtin.Slice.slicePlaces lo hi 1)) _ _ s
 rw [va lo hi n]
 show wpAny _ _ (pure (((dH n 0 lo:Nat):Int),(1:Int),Builtin.Slice.slicePlaces ((dH n 0 lo:Nat):Int) ((dH n n hi:Nat):Int) 1)) _ _ s
 rw [vb]
 exact wpAny_pure h
theorem yY (xs:Array Value) (i k:Nat):((List.range k).filterMap fun (m:Nat)=>xs[((i:Int)+(m:Int) * 1).toNat]?).toArray=((xs.toList.drop i).take k).toArray:=by
 have e:(fun (m:Nat)=>xs[((i:Int)+(m:Int) * 1).toNat]?)=fun m=>xs[i+m]?:=by
  funext m
  have:((i:Int)+(m:Int) * 1).toNat=i+m:=by omega
  rw [this]
 rw [e]
 have:=pick_run xs i k
 rw [List.filterMap_map] at this
 have e2:((fun x=>xs[x]?)∘fun x=>i+x)=fun m=>xs[i+m]?:=rfl
 rw [e2] at this
 rw [this]
theorem kC {t sl:Addr} {items:Array Value} {vl vu:Value} {lo hi:Option Int} {Q:Value->Shared->Prop} (ht:IsTup s.heap t items) (hs:s.heap.IsSliceOf sl vl vu .none) (pl:IsPart vl lo) (pu:IsPart vu hi)
  (hw:¬ (dH items.size 0 lo=0/\dH items.size items.size hi=items.size))
  (h:Q (.ref s.heap.objs.size) {s with heap:=s.heap.push {cls:=.type "tuple",data:=.seq ((items.toList.drop (dH items.size 0 lo)).take (dH items.size items.size hi - dH items.size 0 lo)).toArray}})
  (hsz:items.size<=sizeLine):wpAny (model prog w) A (getItem (.ref t) (.ref sl)) Q E s:=by
 have htake:sizeOk (.seq ((items.toList.drop (dH items.size 0 lo)).take (dH items.size items.size hi - dH items.size 0 lo)).toArray):=by
  show ((items.toList.drop (dH items.size 0 lo)).take (dH items.size items.size hi - dH items.size 0 lo)).toArray.size<=sizeLine
  rw [List.size_toArray,List.length_take,List.length_drop,Array.length_toList]
  omega
 have hj:dH items.size items.size hi<=items.size:=Et _ _ (Nat.le_refl _) hi
 obtain ⟨os,hos,hcs,hds⟩:=id hs
 have hTs:s.TypeIs (.ref sl) "slice" := ⟨os,hos,hcs⟩
 unfold getItem
 try with_reducible refine wpAny_holding ?_
 first | refine wpAny_bind (wpAny_pure ?_) | skip
 refine wpAny_bind (wpAny_sequenceKey ht.typeIs (by decide) ?_)
 refine wpAny_bind (wpAny_callSpecial?_slot (name:=Str.ofString "__getitem__") ht.typeIs PyProof.Rows.slot_tuple_getitem
  (wpAny_call_entry PyProof.Rows.slot_tuple_getitem ht.typeIs entry_tuple_getitem ?_ (args_tuple_getitem _ _)))
 show wpAny _ _ (Builtin.Tuple.tupleItemsOf (.ref t) >>= _) _ _ s
 refine wpAny_bind (tupleItemsOf_ ht ?_)
 refine wpAny_bind (wpAny_typeOf hTs ?_)
 rw [if_pos (by decide)]
 refine wpAny_bind (gM hs pl pu ?_)
 have hno:¬ ((((dH items.size 0 lo:Nat):Int) == 0 && (1:Int) == 1 && (dH items.size items.size hi - dH items.size 0 lo) == items.size)=true):=by
  intro q
  rw [Bool.and_eq_true,Bool.and_eq_true] at q
  have q1:((dH items.size 0 lo:Nat):Int)=0:=eq_of_beq q.1.1
  have q2:dH items.size items.size hi - dH items.size 0 lo=items.size:=eq_of_beq q.2
  exact hw ⟨by omega,by omega⟩
 show wpAny _ _ (if (((dH items.size 0 lo:Nat):Int) == 0 && (1:Int) == 1 && (dH items.size items.size hi - dH items.size 0 lo) == items.size)=true then _ else _) _ _ s
 rw [if_neg hno,yY]
 first
  | exact wpAny_bind (m:=Builtin.Tuple.tupleExact _) (wpAny_newObj_type (wpAny_pure ⟨_,rfl,wpAny_pure h⟩) htake)
  | exact wpAny_bind (m:=Builtin.Tuple.tupleExact _) (wpAny_newObj_type (wpAny_bind (wpAny_pure (wpAny_pure ⟨_,rfl,wpAny_pure h⟩))) htake)
  | exact wpAny_bind (wpAny_bind (m:=Builtin.Tuple.tupleExact _) (wpAny_newObj_type (wpAny_pure (wpAny_pure ⟨_,rfl,wpAny_pure h⟩)) htake))
  | exact wpAny_bind (wpAny_bind (m:=Builtin.Tuple.tupleExact _) (wpAny_newObj_type (wpAny_pure ⟨_,rfl,wpAny_pure h⟩) htake))
end
end HT
namespace L2
open PySem PySem.Spec PyProof.Rows
abbrev TO:=St->Hp->(Option Int->Hp->Prop)->Prop
def PO (X:Cx) (e:Option Expr) (t:TO):Prop:=
 ∀ (pins:List (Addr×Obj)) (s:Shared) (σ:St) (H:Hp) (Q:Option Int->Hp->Prop),Inv X pins σ H s->t σ H Q ->
  wpAny (model X.prog X.w) X.A (evalPart e X.env) (fun u s'=>∃ o H',Inv X pins σ H' s'/\IsPart u o/\Q o H') X.xe s
def BD:TO:=fun _ H Q=>Q none H
def Gr (t:TE):TO:=fun σ H Q=>t σ H fun x H1=>∃ i,x=.int i/\Q (some i) H1
section
variable {X:Cx} {e:Expr} {te:TE} {lo hi:Option Expr} {tl th:TO} {pos p2:Pos}
theorem BE:PO X none BD:=by
 intro pins s σ H Q I h
 rw [evalPart_none]
 exact wpAny_pure ⟨none,H,I,.none,h⟩
theorem BF (h:PE X e te):PO X (some e) (Gr te):=by
 intro pins s σ H Q I hw
 rw [evalPart_some]
 refine bJ (h pins s σ H _ I hw) fun u s1 ⟨x,H1,I1,r1,q1⟩=>?_
 obtain ⟨i,rfl,q⟩:=q1
 obtain ⟨t,rfl⟩:=r1
 exact ⟨some i,H1,I1,.int i t,q⟩
def Gs (X:Cx) (r:V->Option Int->Option Int->Hp->VK->Prop):Prop:=
 ∀ (pins:List (Addr×Obj)) (s:Shared) (σ:St) (H:Hp) (x:V) (v vl vu:Value) (lo hi:Option Int) (sl:Addr) (Q:VK),Inv X pins σ H s->RelV x v->s.heap.IsSliceOf sl vl vu .none->IsPart vl lo->IsPart vu hi->r x lo hi H Q ->
  ∃ T id,typeLookup (.type T) "__getitem__" = pure (some (.builtin id))/\s.TypeIs v T/\wpAny (model X.prog X.w) X.A (getItem v (.ref sl)) (EP X pins σ Q) X.xe s
def Kd (r:V->Option Int->Option Int->Hp->VK->Prop) (te:TE) (tl th:TO):TE:=fun σ H Q=>te σ H fun x H1=>tl σ H1 fun l H2=>th σ H2 fun u H3=>r x l u H3 Q
theorem yZ {r:V->Option Int->Option Int->Hp->VK->Prop} (hr:Gs X r) (he:PE X e te) (hl:PO X lo tl) (hu:PO X hi th):PE X (.Subscript e (.Slice lo hi none p2) pos) (Kd r te tl th):=by
 intro pins s σ H Q I h
 refine Subscript_ (bJ (he pins s σ H _ I h) fun v s1 ⟨x,H1,I1,r1,q1⟩=>?_)
 refine wpAny_Slice (bJ (hl pins s1 σ H1 _ I1 q1) fun vl s2 ⟨l,H2,I2,pl,q2⟩=>bJ (hu pins s2 σ H2 _ I2 q2) fun vu s3 ⟨u,H3,I3,pu,q3⟩=>?_)
 rw [evalPart_none]
 refine wpAny_pure ?_
 have I4:Inv X pins σ H3 {s3 with heap:=s3.heap.push {cls:=.type "slice",data:=.fields #[vl,vu,.none]}}:=I3.kept (t':=s3.toks) fun b ob q=>Heap.get?_push_of_some _ q
 obtain ⟨T,id,hT,ht,hg⟩:=hr pins {s3 with heap:=s3.heap.push {cls:=.type "slice",data:=.fields #[vl,vu,.none]}} σ H3 x v vl vu l u s3.heap.objs.size Q I4 r1 (Heap.IsSliceOf.new ..) pl pu q3
 show wpAny (model X.prog X.w) X.A (subscriptTail e (.Slice lo hi none p2) v (.ref s3.heap.objs.size)) (EP X pins σ Q) X.xe {s3 with heap:=s3.heap.push {cls:=.type "slice",data:=.fields #[vl,vu,.none]}}
 exact tail_any (ops:=[.ref s3.heap.objs.size,v]) ht hT hg (by with_unfolding_all rfl)
def pR (xs:List V) (lo hi:Option Int):List V:=(xs.drop (HT.dH xs.length 0 lo)).take (HT.dH xs.length xs.length hi - HT.dH xs.length 0 lo)
theorem mI (xs:List V) (lo hi:Option Int):(pR xs lo hi).length<=xs.length:=by
 unfold pR
 rw [List.length_take,List.length_drop]
 omega
def Ip (K:PySem.W.Frag):V->Option Int->Option Int->Hp->VK->Prop:=fun x lo hi H Q=>∃ a xs,x=.ref a/\eZ K H a xs /\
 ¬ (HT.dH xs.length 0 lo=0/\HT.dH xs.length xs.length hi=xs.length)/\∀ p,H p=none->Q (.ref p) (upd H p (.tup (pR xs lo hi)))
theorem Eu:Gs X (Ip X.K):=by
 intro pins s σ H x v vl vu lo hi sl Q I rx hs pl pu h
 obtain ⟨a,xs,rfl,hx,hw,q⟩:=h
 cases rx
 obtain ⟨its,r,ht,hz⟩:=I.tuple hx
 have hlen:its.toArray.size=xs.length:=by rw [List.size_toArray];exact r.length.symm
 refine ⟨"tuple",_,PyProof.Rows.slot_tuple_getitem.lookup,ht.typeIs,?_⟩
 refine HT.kC ht hs pl pu (by rw [hlen];exact hw) ?_ (by rw [hlen];exact hz)
 rw [hlen]
 refine ⟨.ref s.heap.objs.size,_,I.laid (t':=s.toks) (o:=.tup (pR xs lo hi)) (fun b ob q=>Heap.get?_push_of_some _ q) (Nat.le_refl _) ?_,rfl,q _ (I.hok.fresh (Nat.le_refl _))⟩
 exact ⟨Nat.le_trans (mI xs lo hi) hz,_,(r.drop (HT.dH xs.length 0 lo)).take (HT.dH xs.length xs.length hi - HT.dH xs.length 0 lo),IsTup.new _ _⟩
def Gu (K:PySem.W.Frag):R2:=fun x y H Q=>∃ a b xs ys,x=.ref a/\y=.ref b/\eZ K H a xs/\eZ K H b ys/\xs≠[]/\xs.length+ys.length<=sizeLine /\
 (ys=[]->Q (.ref a) H)/\(ys≠[]->∀ p,H p=none->Q (.ref p) (upd H p (.tup (xs++ys))))
theorem Vals.rB {xs:List V} {us:List Value} (r:Vals xs us):us=[]<->xs=[]:=by
 cases r with
 | nil=>simp
 | cons _ _=>simp
theorem BG:gg X (binaryOp .Add) (Gu X.K):=by
 intro pins s σ H x y v u Q I rx ry h
 obtain ⟨a,b,xs,ys,rfl,rfl,ha,hb,hx,hz,q1,q2⟩:=h
 cases rx
 cases ry
 obtain ⟨its,r1,p1,_⟩:=I.tuple ha
 obtain ⟨its2,r2,p2,_⟩:=I.tuple hb
 refine HT.BC p1 p2 (fun z=>hx (r1.rB.mp z)) (fun z=>⟨.ref a,H,I,rfl,q1 (r2.rB.mp z)⟩) (fun z=>?_) (by rw [<- r1.length,<- r2.length];exact hz)
 refine ⟨.ref s.heap.objs.size,_,I.laid (t':=s.toks) (o:=.tup (xs++ys)) (fun b ob q=>Heap.get?_push_of_some _ q) (Nat.le_refl _) ?_,rfl,q2 (fun w=>z (r2.rB.mpr w)) _ (I.hok.fresh (Nat.le_refl _))⟩
 exact ⟨by rw [List.length_append];exact hz,_,r1.append r2,IsTup.new _ _⟩
end
end L2
namespace L2
open PySem PySem.Spec PyProof.Rows
def rC (n:Nat) (i:Int):Option Nat:=if 0<=i then (if i < n then some i.toNat else none) else if -(n:Int)<=i then some (i+n).toNat else none
def jG {α:Type} (xs:List α) (i:Int):Option α:=(rC xs.length i).bind fun j=>xs[j]?
theorem wo {n:Nat} {i:Int} {j:Nat} (h:rC n i=some j):seqIndex? i n=some j/\j < n/\-(n:Int)<=i/\i < n:=by
 unfold rC at h
 by_cases h0:0<=i
 ·rw [if_pos h0] at h
  by_cases h1:i < n
  ·rw [if_pos h1] at h
   have e:i.toNat=j:=Option.some.inj h
   exact ⟨by rw [seqIndex_of h0 h1,e],by omega,by omega,h1⟩
  ·rw [if_neg h1] at h;cases h
 ·rw [if_neg h0] at h
  by_cases h1:-(n:Int)<=i
  ·rw [if_pos h1] at h
   have e:(i+n).toNat=j:=Option.some.inj h
   exact ⟨by rw [seqIndex_neg (by omega) h1,e],by omega,h1,by omega⟩
  ·rw [if_neg h1] at h;cases h
theorem wq {α:Type} {xs:List α} {i:Int} {v:α} (h:jG xs i=some v):∃ j,seqIndex? i xs.length=some j/\xs[j]?=some v/\j < xs.length/\-(xs.length:Int)<=i/\i < xs.length:=by
 unfold jG at h
 cases e:rC xs.length i with
 | none=>rw [e] at h;cases h
 | some j=>
  rw [e] at h
  obtain ⟨h1,h2,h3,h4⟩:=wo e
  exact ⟨j,h1,h,h2,h3,h4⟩
theorem kD {α:Type} {xs:List α} {j:Nat} {v:α} (h:xs[j]?=some v):jG xs (j:Int)=some v:=by
 have hj:j < xs.length:=(List.getElem?_eq_some_iff.mp h).1
 have e:rC xs.length (j:Int)=some j:=by
  unfold rC
  rw [if_pos (by omega),if_pos (by omega)];simp
 unfold jG;rw [e];exact h
def wt (b:Expr):Prop:=∀ o i,subscripted b false o i=operate [o,i] (getItem o i)
def FW (X:Cx) (r:R2):Prop:=
 ∀ (value slice:Expr) (pins:List (Addr×Obj)) (s:Shared) (σ:St) (H:Hp) (x y:V) (v u:Value) (Q:VK),Inv X pins σ H s->RelV x v->RelV y u->r x y H Q ->
  subscripted slice false v u=operate [v,u] (getItem v u)->wpAny (model X.prog X.w) X.A (subscriptTail value slice v u) (EP X pins σ Q) X.xe s
def Ke (X:Cx) (id:String) (r:V->List V->Hp->VK->Prop):Prop:=
 ∀ (pins:List (Addr×Obj)) (s:Shared) (σ:St) (H:Hp) (x:V) (xs:List V) (v:Value) (us:List Value) (Q:VK),Inv X pins σ H s->RelV x v->Vals xs us->r x xs H Q ->
  wpAny (model X.prog X.w) X.A (call (.builtin id) (v::us)) (EP X pins σ Q) X.xe s
section
variable {X:Cx} {a b:Expr} {ta tb:TE} {pos:Pos}
theorem Gv {r:R2} (hr:FW X r) (ha:PE X a ta) (hb:PE X b tb) (hs:wt b):PE X (.Subscript a b pos) (Ge r ta tb):=by
 intro pins s σ H Q I h
 exact Subscript_ (Ei ha hb I h fun v u s2 x y H2 I2 rx ry q=>hr a b pins s2 σ H2 x y v u Q I2 rx ry q (hs _ _))
def Iq (K:PySem.W.Frag):R2:=fun x y H Q=>∃ p xs i v,x=.ref p/\y=.int i/\gD K H p xs/\jG xs i=some v/\Q v H
def Ir (K:PySem.W.Frag):R2:=fun x y H Q=>∃ p xs i v,x=.ref p/\y=.int i/\eZ K H p xs/\jG xs i=some v/\Q v H
theorem rD:FW X (Iq X.K):=by
 intro value slice pins s σ H x y v u Q I rx ry h hs
 obtain ⟨p,xs,i,z,rfl,rfl,hq,he,q⟩:=h
 cases rx
 obtain ⟨t,rfl⟩:=ry
 obtain ⟨its,r,pl,hz⟩:=I.list hq
 obtain ⟨j,h1,h2,h3,h4,h5⟩:=wq he
 obtain ⟨w,ew,rw'⟩:=r.get h2
 have hl:=r.length
 have hn:=nL
 have fin:EP X pins σ Q w s:=⟨z,H,I,rw',q⟩
 by_cases h0:0<=i
 ·have hj:i.toNat=j:=by
   rw [seqIndex_of h0 h5] at h1
   exact Option.some.inj h1
  exact item_listR pl.isList h0 (by omega) (by rw [hj];simpa using ew) fin hs
 ·have hj:(i+(its.toArray.size:Int)).toNat=j:=by
   rw [seqIndex_neg (by omega) h4] at h1
   rw [List.size_toArray,<- hl]
   exact Option.some.inj h1
  exact subscriptTail_builtinR (x:=w) pl.isList.typeIs slot_list_getitem.lookup
   (wpAny_getItem_list_neg (Q:=fun r s'=>r=w/\EP X pins σ Q r s') pl.isList (by omega) (by rw [List.size_toArray]<;>omega) (by omega) (by rw [hj];simpa using ew) ⟨rfl,fin⟩) hs
theorem Ew:FW X (Ir X.K):=by
 intro value slice pins s σ H x y v u Q I rx ry h hs
 obtain ⟨p,xs,i,z,rfl,rfl,hq,he,q⟩:=h
 cases rx
 obtain ⟨t,rfl⟩:=ry
 obtain ⟨its,r,pl,hz⟩:=I.tuple hq
 obtain ⟨j,h1,h2,h3,h4,h5⟩:=wq he
 obtain ⟨w,ew,rw'⟩:=r.get h2
 have hl:=r.length
 have hn:=nL
 have fin:EP X pins σ Q w s:=⟨z,H,I,rw',q⟩
 exact subscriptTail_builtinR (x:=w) pl.typeIs slot_tuple_getitem.lookup
  (getItem_tuple (j:=j) (Q:=fun r s'=>r=w/\EP X pins σ Q r s') pl (by omega) (by omega) (by rw [List.size_toArray,<- hl];exact h1) (by simpa using ew) ⟨rfl,fin⟩) hs
theorem vc (its:List Value) (n j:Nat) (u:Value):Obj.mapSeq (·.setIfInBounds j u) {cls:=.type "list",data:=.seq its.toArray n}={cls:=.type "list",data:=.seq (its.set j u).toArray n}:=by
 simp [Obj.mapSeq]
theorem Inv.lst {pins:List (Addr×Obj)} {σ:St} {H:Hp} {s:Shared} {p:Addr} {xs:List V} (I:Inv X pins σ H s) (h:H p=some (.lst xs)) :
  ∃ (its:List Value) (n:Nat),Vals xs its/\s.heap.get? p=some {cls:=.type "list",data:=.seq its.toArray n}/\xs.length<=sizeLine:=by
 obtain ⟨z,its,n,r,e⟩:=I.hok p _ h
 exact ⟨its,n,r,e,z⟩
theorem Inv.Ex {pins:List (Addr×Obj)} {σ:St} {H:Hp} {s:Shared} {p:Addr} {xs ys:List V} {its its':List Value} {n n':Nat} {f:Obj->Obj} (I:Inv X pins σ H s) (h:H p=some (.lst xs))
  (ho:s.heap.get? p=some {cls:=.type "list",data:=.seq its.toArray n}) (hf:f {cls:=.type "list",data:=.seq its.toArray n}={cls:=.type "list",data:=.seq its'.toArray n'}) (r:Vals ys its') (hz:ys.length<=sizeLine) (t:Nat) :
  Inv X pins σ (upd H p (.lst ys)) {s with heap:=s.heap.update p f,toks:=t}:=by
 have e:(s.heap.update p f).get? p=some {cls:=.type "list",data:=.seq its'.toArray n'}:=by
  rw [Heap.get?_update_self f ho (by rw [hf]<;>rfl),hf]
 refine I.write (x:=p) (e:=p) (by rw [h];trivial) (.inl rfl) (fun b u hb q=>(Heap.get?_update_other _ _ (Ne.symm hb)).trans q) ⟨_,e⟩ ?_
 exact ⟨hz,its',n',r,e⟩
def Dm:V->V->V->Hp->(Hp->Prop)->Prop:=fun o i v H Q=>∃ p xs k j,o=.ref p/\i=.int k/\H p=some (.lst xs)/\rC xs.length k=some j/\Q (upd H p (.lst (xs.set j v)))
theorem set_list:Ea X Dm:=by
 intro pins s σ H o i v ov iv u Q I ro ri rv h
 obtain ⟨p,xs,k,j,rfl,rfl,hp,hj,q⟩:=h
 cases ro
 obtain ⟨t,rfl⟩:=ri
 obtain ⟨its,n,r,ho,hz⟩:=I.lst hp
 obtain ⟨h1,h2,h3,h4⟩:=wo hj
 have hl:=r.length
 have hn:=nL
 have I':Inv X pins σ (upd H p (.lst (xs.set j v))) {s with heap:=s.heap.update p (Obj.mapSeq (·.setIfInBounds j u))}:=
  I.Ex hp ho (vc its n j u) (r.set rv j) (by rw [List.length_set];exact hz) s.toks
 by_cases h0:0<=k
 ·have hk:k.toNat=j:=by
   rw [seqIndex_of h0 h4] at h1
   exact Option.some.inj h1
  exact PySem.W.ki_setAt ho h0 (by omega) (by rw [List.size_toArray,<- hl];exact h4) (by rw [hk];exact ⟨_,I',q⟩)
 ·have hk:(k+(its.toArray.size:Int)).toNat=j:=by
   rw [seqIndex_neg (by omega) h3] at h1
   rw [List.size_toArray,<- hl]
   exact Option.some.inj h1
  exact PySem.W.ki_setBack ho (by omega) (by rw [List.size_toArray,<- hl];exact h3) (by omega) (by rw [hk];exact ⟨_,I',q⟩)
theorem rE (lo hi:Option Int) (n:Nat):(sliceBounds lo hi none n).1=((HT.dH n 0 lo:Nat):Int)/\(sliceBounds lo hi none n).2.1=((HT.dH n n hi:Nat):Int)/\(sliceBounds lo hi none n).2.2=1:=by
 refine ⟨?_,?_,rfl⟩
 ·cases lo with
  | none=>simp [sliceBounds,HT.dH]
  | some i=>
   simp only [sliceBounds,HT.dH,Option.getD_none,show (1:Int) > 0 by decide,if_true]
   by_cases h:i < 0
   ·simp only [h,if_true]<;>omega
   ·simp only [h,if_false]<;>omega
 ·cases hi with
  | none=>simp [sliceBounds,HT.dH]
  | some i=>
   simp only [sliceBounds,HT.dH,Option.getD_none,show (1:Int) > 0 by decide,if_true]
   by_cases h:i < 0
   ·simp only [h,if_true]<;>omega
   ·simp only [h,if_false]<;>omega
theorem pS (its:List Value) (lo hi:Option Int):slicePick its.toArray lo hi none=((its.drop (HT.dH its.length 0 lo)).take (HT.dH its.length its.length hi - HT.dH its.length 0 lo)).toArray:=by
 obtain ⟨h1,h2,h3⟩:=rE lo hi its.toArray.size
 unfold slicePick
 rw [h1,h2,h3]
 simp only [sliceRange_one,pick_run,List.size_toArray]<;>rfl
def Iu (K:PySem.W.Frag):V->Option Int->Option Int->Hp->VK->Prop:=fun x lo hi H Q=>∃ a xs,x=.ref a/\gD K H a xs/\∀ p,H p=none->Q (.ref p) (upd H p (.lst (pR xs lo hi)))
theorem BH:Gs X (Iu X.K):=by
 intro pins s σ H x v vl vu lo hi sl Q I rx hs pl pu h
 obtain ⟨a,xs,rfl,hx,q⟩:=h
 cases rx
 obtain ⟨its,r,ht,hz⟩:=I.list hx
 have hlen:=r.length
 refine ⟨"list",_,slot_list_getitem.lookup,ht.isList.typeIs,?_⟩
 refine wpAny_getItem_list_slice ht.isList hs pl pu .none (by simp) ?_ (by rw [List.size_toArray]<;>omega)
 rw [pS,<- hlen]
 refine ⟨.ref s.heap.objs.size,_,I.laid (t':=s.toks) (o:=.lst (pR xs lo hi)) (fun b ob q=>Heap.get?_push_of_some _ q) (Nat.le_refl _) ?_,rfl,q _ (I.hok.fresh (Nat.le_refl _))⟩
 exact ⟨Nat.le_trans (mI xs lo hi) hz,_,0,(r.drop (HT.dH xs.length 0 lo)).take (HT.dH xs.length xs.length hi - HT.dH xs.length 0 lo),Heap.get?_push_size _ rfl⟩
theorem cR.or {f:Value} {r r':List V->Hp->VK->Prop} (h:cR X f r) (h':cR X f r'):cR X f (fun xs H Q=>r xs H Q\/r' xs H Q):=by
 intro pins s σ H xs us Q I rs q
 rcases q with q | q
 ·exact h pins s σ H xs us Q I rs q
 ·exact h' pins s σ H xs us Q I rs q
theorem rF:cR X (.type "list") (fun xs H Q=>∃ p ys,xs=[.ref p]/\(gD X.K H p ys\/eZ X.K H p ys)/\∀ l,H l=none->Q (.ref l) (upd H l (.lst ys))):=by
 intro pins s σ H xs us Q I r h
 obtain ⟨p,ys,rfl,hq,q⟩:=h
 obtain ⟨u,rfl,rx⟩:=vals1 r
 cases rx
 have fin:∀ (its:List Value),Vals ys its->ys.length<=sizeLine->∀ (h':Heap) (c':Nat),(∀ b o',s.heap.get? b=some o'->h'.get? b=some o') ->
   h'.get? s.heap.objs.size=some {cls:=.type "list",dict:=none,data:=.seq its.toArray c',slots:=#[]}->EP X pins σ Q (.ref s.heap.objs.size) {s with heap:=h'}:=fun its r' hz h' c' kp e=>
  ⟨.ref s.heap.objs.size,_,I.laid (t':=s.toks) kp (Nat.le_refl _) (show cA X.prog X.w _ h' _ (.lst ys) from ⟨hz,its,c',r',e⟩),rfl,q _ (I.hok.fresh (Nat.le_refl _))⟩
 rcases hq with hq | hq
 ·obtain ⟨its,r',pl,hz⟩:=I.list hq
  have hlen:=r'.length
  obtain ⟨o,ho,hc,n,hd⟩:=pl.isList
  exact call_list_seq p (.inl rfl) ho hc hd (fun h' c' kp e=>fin its r' hz h' c' kp e) (by simp only [List.size_toArray]<;>omega)
 ·obtain ⟨its,r',pl,hz⟩:=I.tuple hq
  have hlen:=r'.length
  obtain ⟨o,ho,hc,n,hd⟩:=pl
  exact call_list_seq p (.inr rfl) ho hc hd (fun h' c' kp e=>fin its r' hz h' c' kp e) (by simp only [List.size_toArray]<;>omega)
theorem pT:cR X (.type "tuple") (fun xs H Q=>∃ p ys,xs=[.ref p]/\((gD X.K H p ys/\∀ l,H l=none->Q (.ref l) (upd H l (.tup ys)))\/(eZ X.K H p ys/\Q (.ref p) H))):=by
 intro pins s σ H xs us Q I r h
 obtain ⟨p,ys,rfl,h⟩:=h
 obtain ⟨u,rfl,rx⟩:=vals1 r
 cases rx
 rcases h with ⟨hq,q⟩ | ⟨hq,q⟩
 ·obtain ⟨its,r',pl,hz⟩:=I.list hq
  have hlen:=r'.length
  refine call_tuple_list pl.isList (fun h' kp=>?_) (by simp only [List.size_toArray]<;>omega)
  have I1:Inv X pins σ H {s with heap:=h'}:=I.kept (t':=s.toks) kp
  have I2:Inv X pins σ (upd H h'.objs.size (.tup ys)) {s with heap:=h'.push {cls:=.type "tuple",data:=.seq its.toArray}}:=
   I1.laid (t':=s.toks) (fun b o e=>Heap.get?_push_of_some _ e) (Nat.le_refl _) (show cA X.prog X.w _ _ _ (.tup ys) from ⟨hz,its,r',IsTup.new _ _⟩)
  exact ⟨.ref h'.objs.size,_,I2,rfl,q _ (I1.hok.fresh (Nat.le_refl _))⟩
 ·obtain ⟨its,r',pl,hz⟩:=I.tuple hq
  exact call_tuple_same pl ⟨.ref p,H,I,rfl,q⟩
def JG (K:PySem.W.Frag) (T:String) (x:V) (H:Hp):Prop:=match x with
 | .str _=>T = "str"
 | .int _=>T = "int"
 | .ref p=>(T = "list" /\ ∃ xs,gD K H p xs)\/(T = "tuple" /\ ∃ o,K.lookup p=some o/\o.cls=.type "tuple" /\ o.dict=none) \/
   (T = "dict" /\ ((∃ kvs,H p=some (.dK kvs))\/∃ kvs,H p=some (.dT kvs)))\/(T = "set" /\ ∃ S n,H p=some (.set S n))
 | _=>False
theorem Ey {pins:List (Addr×Obj)} {σ:St} {H:Hp} {s:Shared} {T:String} {x:V} {v:Value} (I:Inv X pins σ H s) (r:RelV x v) (ty:JG X.K T x H) :
  s.TypeIs v T/\∀ a,v=.ref a->∃ ob,s.heap.get? a=some ob/\ob.dict=none:=by
 cases x with
 | str z=>
  obtain ⟨t,rfl⟩:=r
  cases (show T = "str" from ty)
  exact ⟨typeIs_str s z t,fun _ e=>nomatch e⟩
 | int i=>
  obtain ⟨t,rfl⟩:=r
  cases (show T = "int" from ty)
  exact ⟨typeIs_int s i t,fun _ e=>nomatch e⟩
 | ref p=>
  cases r
  rcases ty with ⟨rfl,xs,hq⟩ | ⟨rfl,o,hk,hc,hd⟩ | ⟨rfl,hk⟩ | ⟨rfl,S,n,hk⟩
  ·obtain ⟨its,_,pl,_⟩:=I.list hq
   refine ⟨pl.isList.typeIs,fun a e=>?_⟩
   cases e
   obtain ⟨o,n,e,c,hd,_⟩:=pl
   exact ⟨o,e,hd⟩
  ·refine ⟨⟨o,I.rj p o hk,hc⟩,fun a e=>?_⟩
   cases e
   exact ⟨o,I.rj _ o hk,hd⟩
  ·have z:∃ o,s.heap.get? p=some o/\o.ExactDict:=by
    rcases hk with ⟨kvs,hk⟩ | ⟨kvs,hk⟩
    ·obtain ⟨_,_,_,_,o,_,_,e,ex,_⟩:=I.hok p _ hk
     exact ⟨o,e,ex⟩
    ·obtain ⟨_,_,_,_,o,_,_,e,ex,_⟩:=I.hok p _ hk
     exact ⟨o,e,ex⟩
   obtain ⟨o,e,ex⟩:=z
   refine ⟨⟨o,e,ex.1⟩,fun a e2=>?_⟩
   cases e2
   exact ⟨o,e,ex.2.1⟩
  ·obtain ⟨o,_,_,_,e,ex,_⟩:=I.hok p _ hk
   refine ⟨⟨o,e,ex.1⟩,fun a e2=>?_⟩
   cases e2
   exact ⟨o,e,ex.2.1⟩
 | _=>exact False.elim ty
def JH (K:PySem.W.Frag) (T:String) (r:V->List V->Hp->VK->Prop) (to:TE) (t:TA):TE:=fun σ H Q=>to σ H fun x H1=>JG K T x H1/\t σ H1 fun xs H2=>r x xs H2 Q
variable {o e:Expr} {es:List Expr} {to:TE} {t:TA} {name:Str} {apos cpos:Pos} {T id:String} {r:V->List V->Hp->VK->Prop}
theorem Gw (pa:PlainAttrs T) (slot:Slot T name id) (hty:typeOf (.builtin id)=pure (.type "method_descriptor")) (hm:Ke X id r) (ho:PE X o to) (ha:PA X (e::es) t)
  (hbase:attributeBase o name X.env (eval o X.env)=eval o X.env:=by rfl)
  (hfew:((backTo cpos (starEach (e::es) X.env)).all (fun x=>!x.1) && (backToKw cpos (keywordEach [] X.env)).all (fun x=>x.1.isSome)
   && decide ((e::es).length+([]:List Keyword).length+(if ([]:List Keyword).isEmpty then 0 else 1) < 30))=true:=by rfl)
  (hline:(apos.endLine == cpos.line)=true:=by rfl) (hs:starEach (e::es) X.env=(false,eval e X.env)::starEach es X.env:=by rfl) (hplain:(backTo cpos (starEach es X.env)).any (·.1)=false:=by rfl) :
  PE X (.Call (.Attribute o name apos) (e::es) [] cpos) (JH X.K T r to t):=by
 intro pins s σ H Q I h
 refine wpAny_Call_method_late hbase hfew hline rfl (bJ (ho pins s σ H _ I h) fun v s1 ⟨x,H1,I1,r1,ty,q1⟩=>?_)
 obtain ⟨h1,h2⟩:=Ey I1 r1 ty
 refine ⟨T,id,pa,slot,hty,h1,h2,?_⟩
 have hA:=ha cpos pins s1 σ H1 _ I1 q1
 rw [hs] at hA ⊢
 refine Calls.callWith_builtin (by show (false || (backTo cpos (starEach es X.env)).any (·.1))=false;rw [hplain]<;>rfl) (Calls.evalArgs_plain ?_)
 exact bJ hA fun us s2 ⟨vs,H2,I2,r2,q2⟩=>hm pins s2 σ H2 x vs v us Q I2 r1 r2 q2
end
end L2
namespace L2
open PySem PySem.Spec PyProof.Rows
def Kf (X:Cx) (id:String) (r:V->List V->Hp->VK->Prop):Prop:=
 ∀ (pins:List (Addr×Obj)) (s:Shared) (σ:St) (H:Hp) (x:V) (xs:List V) (v:Value) (us:List Value) (Q:VK),Inv X pins σ H s->RelV x v->Vals xs us->r x xs H Q ->
  wpAny (model X.prog X.w) X.A (call (.builtin id) (v::us)) (EP X pins σ Q) X.xe s
theorem Vals.one:∀ {x:V} {us:List Value},Vals [x] us->∃ u,us=[u]/\RelV x u
 | _,_,.cons r .nil=>⟨_,rfl,r⟩
theorem Vals.rep {xs:List V} {us:List Value} (h:Vals xs us):∀ k:Nat,Vals (List.replicate k xs).flatten (List.replicate k us).flatten
 | 0=>.nil
 | k+1=>by
  rw [List.replicate_succ,List.replicate_succ,List.flatten_cons,List.flatten_cons]
  exact Vals.append h (Vals.rep h k)
theorem foldl_rep (its:List Value):∀ (k:Nat) (acc:List Value),
  List.foldl (fun x1 x2=>x1++x2) acc.toArray (List.replicate k its.toArray)=(acc++(List.replicate k its).flatten).toArray
 | 0,acc=>by simp
 | k+1,acc=>by
  have e:acc.toArray++its.toArray=(acc++its).toArray:=by simp
  have e2:(acc++its)++(List.replicate k its).flatten=acc++(List.replicate (k+1) its).flatten:=by
   rw [List.replicate_succ,List.flatten_cons,List.append_assoc]
  rw [<- e2,<- foldl_rep its k (acc++its),<- e,List.replicate_succ,List.foldl_cons]
section
variable {X:Cx} {pins:List (Addr×Obj)} {σ:St} {H:Hp} {s:Shared} {l b:Addr} {xs ys zs:List V}
theorem Inv.Iv {its its':List Value} {n:Nat} {f:Array Value->Array Value} {t':Nat} (I:Inv X pins σ H s) (hH:H l=some (.lst xs))
  (e:s.heap.get? l=some {cls:=.type "list",data:=.seq its.toArray n}) (hf:f its.toArray=its'.toArray) (hv:Vals ys its') (hz:ys.length<=sizeLine) :
  Inv X pins σ (upd H l (.lst ys)) {s with heap:=s.heap.update l (Obj.mapSeq f),toks:=t'}:=by
 have q:=PySem.IsL.update e f
 rw [hf] at q
 refine I.write (x:=l) (e:=l) (by rw [hH];exact trivial) (.inl rfl) (fun b' u hb hu=>(Heap.get?_update_other s.heap (Obj.mapSeq f) (Ne.symm hb)).trans hu) ⟨_,q⟩ ?_
 exact ⟨hz,its',_,hv,q⟩
theorem Inv.Gy {its:List Value} {t':Nat} (I:Inv X pins σ H s) (hv:Vals ys its) (hz:ys.length<=sizeLine) :
  Inv X pins σ (upd H s.heap.objs.size (.lst ys)) {s with heap:=s.heap.push {cls:=.type "list",data:=.seq its.toArray},toks:=t'}:=
 I.laid (fun _ _ q=>Heap.get?_push_of_some _ q) (Nat.le_refl _) ⟨hz,its,0,hv,Heap.get?_push_size _ rfl⟩
theorem Inv.fresh (I:Inv X pins σ H s):H s.heap.objs.size=none:=I.hok.fresh (Nat.le_refl _)
theorem Inv.BI (I:Inv X pins σ H s) (hH:H l=some (.lst xs)):xs.length<=sizeLine/\∃ (its:List Value) (n:Nat),Vals xs its/\xs.length=its.length/\s.heap.get? l=some {cls:=.type "list",data:=.seq its.toArray n}:=by
 obtain ⟨z,its,n,r,e⟩:=I.hok l _ hH
 exact ⟨z,its,n,r,r.length,e⟩
theorem y0 {n:Nat} (h:n<=sizeLine):Builtin.List.listTooLong n=false:=by
 unfold Builtin.List.listTooLong
 exact decide_eq_false (by omega)
end
section
variable {X:Cx}
def BJ:V->List V->Hp->VK->Prop:=fun x vs H Q=>∃ l xs y,x=.ref l/\vs=[y]/\H l=some (.lst xs)/\xs.length < sizeLine/\Q .non (upd H l (.lst (xs++[y])))
theorem xX:Kf X "list.append" BJ:=by
 intro pins s σ H x vs v us Q I rx rv h
 obtain ⟨l,xs,y,rfl,rfl,hH,hz,q⟩:=h
 cases rx
 obtain ⟨u,rfl,ru⟩:=rv.one
 obtain ⟨z,its,n,r,hl,e⟩:=I.BI hH
 refine call_meets F.slot_list_append ⟨_,e,rfl⟩ F.entry_list_append (F.args_list_append_2 _ _) (PySem.list_append l its.toArray n u (by rw [List.size_toArray];omega)) ⟨e,?_⟩
 refine ⟨.non,_,I.Iv (its':=its++[u]) hH e (by simp) (r.append (.cons ru .nil)) ?_,rfl,q⟩
 rw [List.length_append,List.length_singleton]
 omega
def Iw:R2:=fun x y H Q=>∃ l b xs zs,x=.ref l/\y=.ref b/\H l=some (.lst xs)/\H b=some (.lst zs)/\xs.length+zs.length<=sizeLine/\∀ p,H p=none->Q (.ref p) (upd H p (.lst (xs++zs)))
theorem Ez:gg X (binaryOp .Add) Iw:=by
 intro pins s σ H x y v u Q I rx ry h
 obtain ⟨l,b,xs,zs,rfl,rfl,hH,hB,hz,q⟩:=h
 cases rx
 cases ry
 obtain ⟨z,its,n,r,hl,e⟩:=I.BI hH
 obtain ⟨z2,its2,n2,r2,hl2,e2⟩:=I.BI hB
 refine PySem.P.add_list e e2 ?_ (by rw [List.size_toArray,List.size_toArray];omega)
 have ea:its.toArray++its2.toArray=(its++its2).toArray:=by simp
 rw [ea]
 exact ⟨.ref _,_,I.Gy (t':=s.toks) (r.append r2) (by rw [List.length_append];omega),rfl,q _ I.fresh⟩
def Iy:R2:=fun x y H Q=>∃ l k xs,x=.ref l/\y=.int k/\H l=some (.lst xs)/\-(2 ^ 63)<=k/\k < 2 ^ 63/\xs.length * k.toNat<=sizeLine /\
 ∀ p,H p=none->Q (.ref p) (upd H p (.lst (List.replicate k.toNat xs).flatten))
theorem len_rep {α:Type} (xs:List α) (k:Nat):(List.replicate k xs).flatten.length=k * xs.length:=by
 induction k with
 | zero=>simp
 | succ k ih=>rw [List.replicate_succ,List.flatten_cons,List.length_append,ih,Nat.succ_mul,Nat.add_comm]
theorem EA:gg X (binaryOp .Mult) Iy:=by
 intro pins s σ H x y v u Q I rx ry h
 obtain ⟨l,k,xs,rfl,rfl,hH,h1,h2,hz,q⟩:=h
 cases rx
 obtain ⟨t,rfl⟩:=ry
 obtain ⟨z,its,n,r,hl,e⟩:=I.BI hH
 have hlen:its.toArray.size * k.toNat<=sizeLine:=by rw [List.size_toArray,<- hl];exact hz
 have hcap:¬ its.toArray.size * k.toNat > (2 ^ 63 - 1) / 8:=by
  have:(sizeLine:Nat)<=(2 ^ 63 - 1) / 8:=by decide
  omega
 have hfit:¬ (!Builtin.List.listFitsIndex k)=true:=by
  rw [fitsIndex_both h1 h2]
  exact Bool.false_ne_true
 have hlong:¬ Builtin.List.listTooLong (its.toArray.size * k.toNat)=true:=by
  rw [y0 hlen]
  exact Bool.false_ne_true
 have hnew:List.foldl (fun x1 x2=>x1++x2) #[] (List.replicate (if its.toArray.isEmpty=true then 0 else k.toNat) its.toArray)=(List.replicate k.toNat its).flatten.toArray:=by
  have f0:∀ m:Nat,List.foldl (fun x1 x2=>x1++x2) #[] (List.replicate m its.toArray)=(List.replicate m its).flatten.toArray:=fun m=>by
   have:=foldl_rep its m []
   rw [List.nil_append] at this
   exact this
  rw [f0]
  cases its with
  | nil=>simp
  | cons a r'=>rw [if_neg (by simp)]
 refine wpAny_binaryOp_repeat_ref (T := "list") (U := "int") (by decide) ⟨_,e,rfl⟩ (fun s'=>typeIs_int s' k t) noFill_list_mul F.fills_int_mul F.slot_int_rmul repeat_list F.slot_int_index.lookup
  (call_meets F.slot_int_rmul (typeIs_int s k t) F.entry_int_rmul (F.args_int_rmul_2 _ _) (int___rmul___int_list k t l its.toArray n)
   ⟨e,rfl,⟨_,e,rfl⟩,call_meets F.slot_list_mul ⟨_,e,rfl⟩ F.entry_list_mul (F.args_list_mul_2 _ _) (AutoListH.list___mul___list_int_3 l its.toArray n k t hfit hcap hlong) ⟨e,?_⟩⟩)
 rw [hnew]
 exact ⟨.ref _,_,I.Gy (t':=s.toks) (r.rep k.toNat) (by rw [len_rep,Nat.mul_comm];exact hz),rfl,q _ I.fresh⟩
end
section
variable {prog:Program} {w:World} {A:Around} {E:Value->Shared->Prop} {s:Shared}
end
section
variable {X:Cx}
end
end L2
namespace Att
open PySem PySem.W PySem.Calls PyProof.Rows
theorem m6 {P:Params} {h:Heap}:∀ (ns:List Int) (vs:List Value),WellAll P h vs (ns.map WData.int)->IntsAre vs ns:=by
 intro ns
 induction ns with
 | nil=>
  intro vs w
  rw [List.map_nil] at w
  cases w
  exact .nil
 | cons n ns ih=>
  intro vs w
  rw [List.map_cons] at w
  cases w with
  | cons a b=>
   cases a
   exact .cons _ _ (ih _ b)
theorem xY {l:OpenLaw} {n:Nat} (hn:l.most=some n) {P:Params} {h:Heap} {args:List WData} {vals:List Value}
  (hpre:l.row.toRowW.claim.pre args=true) (hwl:WellAll P h vals args) :
  ∃ a vs ns,vals=[Value.ref a]/\args=[WData.list (ns.map WData.int)]/\h.get? a=some {cls:=.type "list",data:=.seq vs.toArray}/\IntsAre vs ns/\ns.length<=n:=by
 have hsh:WShape.hasAll [] args [.list .int]=true:=(pre_splitW hpre).1
 have hc:l.pre.holds [] {args:=args}=true:=(pre_splitW hpre).2
 obtain ⟨d,r,rfl,h1,h2⟩:=hasAllW_cons hsh
 obtain rfl:=hasAllW_nil h2
 obtain ⟨xs,rfl,h3⟩:=hasW_list h1
 obtain ⟨ns,rfl⟩:=items_int h3
 have hlen:ns.length<=n:=by
  unfold OpenLaw.pre at hc
  have h4:(WTm.not (.lt (.lit (.int (n:Int))) (.len (.arg 0)))).holds [] {args:=[.list (ns.map .int)]}=true:=by
   have h4:=(holds_andW hc).1
   rw [hn] at h4
   exact h4
  have h5:=condW_of h4 (w_not (w_lt w_lit (w_len_list (w_arg rfl))))
  rw [List.length_map] at h5
  refine Nat.le_of_not_lt fun q=>?_
  have q':(n:Int) < ((ns.length:Nat):Int):=by omega
  first
   | (rw [decide_eq_true q'] at h5;exact absurd h5 (by decide))
   | (simp at h5;omega)
 cases hwl with
 | cons w1 w2=>
  cases w2
  cases w1 with
  | list ho hall=>exact ⟨_,_,ns,rfl,rfl,ho,m6 ns _ hall,hlen⟩
theorem xZ (l:OpenLaw) (args:List WData):l.row.toRowW.claim.post args (.bool true) args=true:=
 postW_of (r:=l.row.toRowW) (X:=(true == true))
  (show WShape.has [] (.bool true) .bool=true by first | rfl | decide | simp [WShape.has,WShape.arms,WShape.armsAll])
  (show (WTm.eq .res (.lit (.bool true))).value [] {args:=args,res:=some (.bool true),after:=args}=some (.bool (true == true)) from w_eq_bool (w_res rfl) w_lit) rfl
theorem sY {l:OpenLaw} {n:Nat} {q:Program} {loose:List Str} {XP:(Str->Option Value)->Heap->Prop} {YP:World->Heap->Prop} {d:DefRec}
  (hn:l.most=some n) (hdf:d.params.defaults=[])
  (call:∀ (w:World) (s₀ s₁:Shared) (mg mb:Str->Option Value) (fa:Addr) (o:Obj) (pm cd doc:Value) (a:Addr) (vs:List Value) (ns:List Int),
   Ground q loose [] XP w s₀ mg mb s₁.heap->YP w s₁.heap ->
   s₁.heap.get? fa=some o->o.data=.func (docDef d.name d.params d.body d.scope pm cd doc)->s₁.heap.CodeRec cd d.name->mg d.name=some (.ref fa) ->
   s₁.heap.get? a=some {cls:=.type "list",data:=.seq vs.toArray}->IntsAre vs ns->ns.length<=n->s₁.gens=#[] ->
   codeAny (model l.prog w) callerA (.call (.ref fa) ⟨[.ref a],[]⟩) (fun r s'=>r=.ok (.ret (.bool true))/\OldK s₁.heap s'.heap/\s'.os=s₁.os/\AllBare s'.gens) s₁) :
  WalkO q loose XP YP l.row.toRowW d [] (fun f vs=>PySem.call f vs):=by
 intro w s₀ s₁ mg mb G Y fa o pm cd doc dV kV ho hd hcd hD hmg hg args vals as hpre hlay hrd hwl hlo
 obtain rfl:dV=.none:=Dflts.none hD hdf
 obtain rfl:kV=.none:=Dflts.noKw hD
 obtain ⟨a,vs,ns,rfl,rfl,hobj,hints,hlen⟩:=xY hn hpre hwl
 refine enter_call (codeAny_mono (call w s₀ s₁ mg mb fa o pm cd doc a vs ns G Y ho (fd_plain hd) hcd hmg hobj hints hlen hg) fun r s' hq=>?_)
 obtain ⟨rfl,h2,h3,h4⟩:=hq
 exact ⟨.inl ⟨.bool true,.bool true,[],rfl,fun _=>rfl,.bool true,xZ l _,fun _=>⟨List.Pairwise.nil,fun _ hm=>(nomatch hm)⟩⟩,h2,h3,h4⟩
section
variable {prog:Program} {w:World} {A:Around} {E:Value->Shared->Prop} {s:Shared} {K:Frag}
end
end Att
namespace L2
open PySem PySem.Spec PyProof.Rows
theorem qu:∀ {vs:List Value} {ns:List Int},IntsAre vs ns->Vals (ns.map V.int) vs
 | _,_,.nil=>.nil
 | _,_,.cons n t h=>.cons ⟨t,rfl⟩ (qu h)
def EB (H:Hp):Prop:=∀ b,H b=none\/∃ o xs,H b=some (.frz o (.lst xs))
theorem y8 {P:Program} {w:World} {K:PySem.W.Frag} {mg mb:Str->Option Value} {CX:yE} {k:Nat} {fa a:Addr} {fd:FuncData} {x:Str} {sp:Sp} {s₁:Shared} {vs:List Value} {ns:List Int}
  (KX:K.In s₁.heap) (hns:s₁.heap.Ns mainGlobals mg) (hb:s₁.heap.Ns builtinsNs mb) (hbb:∀ x:Str,x ≠ "__name__" -> mb x=bootBuiltins x) (hlim:s₁.heap.NoLimit) (hg:s₁.gens=#[])
  (ha:s₁.heap.get? a=some {cls:=.type "list",data:=.seq vs.toArray}) (hi:IntsAre vs ns) (hl:ns.length<=sizeLine) (hr:df k callerA)
  (F:∀ base:Heap,K.In base->base.Ns mainGlobals mg->jF P w K mg base CX k fa fd [x] sp) (hbind:∀ (s:Shared) (u:Value),BindsTo s fd ⟨[u],[]⟩ [(x,u)])
  (hsp:∀ H:Hp,EB H->gD K H a (ns.map V.int)->sp [.ref a] H (fun v _=>v=.bl true) fun _ _ _=>False)
  (hCX:∀ H e s',CX [] H s₁ (fun _ _ _=>False) e s'->False) :
  codeAny (model P w) callerA (.call (.ref fa) ⟨[.ref a],[]⟩) (fun r s'=>r=.ok (.ret (.bool true))/\OldK s₁.heap s'.heap/\s'.os=s₁.os/\AllBare s'.gens) s₁:=by
 have rv:=qu hi
 have lenV:=hi.length
 have core:∀ H:Hp,EB H->gD K H a (ns.map V.int)->iP P w H s₁.heap->(∀ b,H b≠none->b=a)->(H a≠none->K.lookup a=none) ->
   codeAny (model P w) callerA (.call (.ref fa) ⟨[.ref a],[]⟩) (fun r s'=>r=.ok (.ret (.bool true))/\OldK s₁.heap s'.heap/\s'.os=s₁.os/\AllBare s'.gens) s₁:=by
  intro H hO hS hok hA hK
  have base_of:∀ {b:Addr} {o:Obj},s₁.heap.get? b=some o->H b=none->(rh s₁.heap H).get? b=some o:=fun e n=>yH e n
  have noA:∀ {b:Addr} {o:Obj} {es:Array DictEntry} {ep:Nat},s₁.heap.get? b=some o->o.data=.dict es ep->H b=none:=fun {b o es ep} e d=>by
   cases q:H b with
   | none=>rfl
   | some u=>
    have e':b=a:=hA b (by rw [q];simp)
    subst e'
    rw [ha] at e;cases e
    have d':Data.seq vs.toArray _=Data.dict es ep:=d
    cases d'
  have nsK:∀ {b:Addr} {m:Str->Option Value},s₁.heap.Ns b m->(rh s₁.heap H).Ns b m:=fun {b m} ⟨o,es,ep,e,d,r⟩=>⟨o,es,ep,base_of e (noA e d),d,r⟩
  have hKb:K.In (rh s₁.heap H):=fun b o e=>base_of (KX b o e) (by
   cases q:H b with
   | none=>rfl
   | some u=>
    have e':b=a:=hA b (by rw [q];simp)
    subst e'
    rw [hK (by rw [q];simp)] at e;cases e)
  have hM:Mod K mg (rh s₁.heap H):=⟨hKb,nsK hns,⟨mb,nsK hb,hbb⟩,let ⟨mc,h1,h2⟩:=hlim;⟨mc,nsK h1,h2⟩⟩
  have e0:BA P w K mg (rh s₁.heap H) callerA [] s₁ H:=⟨rfl,hM,fun b o e=>Bk e,Nat.le_of_eq (xM _ _),trivial,fun b hb=>absurd (show b∈([]:List Addr) from hb) (by simp),hok,.of_eq hg⟩
  refine codeAny_mono ((F _ hKb (nsK hns)).run callerA [] s₁ H ⟨[.ref a],[]⟩ [.ref a] [.ref a] _ _ hr e0 (hbind s₁ (.ref a)) (.cons rfl .nil) (hsp H hO hS)) fun r s' h=>?_
  cases r with
  | error e=>exact (hCX H e s' h).elim
  | ok fl=>
   cases fl with
   | next=>exact False.elim h
   | brk=>exact False.elim h
   | cont=>exact False.elim h
   | ret u=>
    obtain ⟨v,H',os,bare,un,hok',r',q⟩:=h
    have q':v=.bl true:=q
    subst q'
    obtain rfl:u=Value.bool true:=r'
    refine ⟨rfl,OldK.of_keep fun b o e=>?_,os,bare⟩
    cases q:H b with
    | none=>exact un.keep b o e q (by intro z;exact absurd (show b∈([]:List Addr) from z) (by simp)) (by simp)
    | some u=>
     rcases hO b with z | ⟨ob,xs,z⟩
     ·rw [q] at z;cases z
     ·have z2:=un.frzs b ob _ z
      obtain ⟨e1,_⟩:=hok b _ z
      obtain ⟨e2,_⟩:=hok' b _ z2
      rw [e] at e1;cases e1
      exact e2
 cases hk:K.lookup a with
 | some o=>
  have e:=KX a o hk
  rw [ha] at e
  cases e
  refine core (fun _=>none) (fun _=>.inl rfl) (.inr ⟨_,vs.toArray,_,hk,rfl,rfl,rfl,by rw [List.size_toArray,lenV];exact hl,by simpa using rv⟩) (fun b u z=>by have z':(none:Option HO)=some u:=z;cases z') (fun b z=>absurd rfl z) fun z=>absurd rfl z
 | none=>
  refine core (fun b=>if b=a then some (.frz {cls:=.type "list",data:=.seq vs.toArray} (.lst (ns.map V.int))) else none) (fun b=>?_) (.inl (.inr ⟨{cls:=.type "list",data:=.seq vs.toArray},if_pos rfl⟩)) (fun b u z=>?_) (fun b z=>?_) fun _=>hk
  ·by_cases hb:b=a
   ·exact .inr ⟨_,_,if_pos hb⟩
   ·exact .inl (if_neg hb)
  ·by_cases hb:b=a
   ·have z':=(if_pos hb).symm.trans z
    cases z'
    subst hb
    exact ⟨ha,by rw [List.length_map];exact hl,vs,_,rv,ha⟩
   ·have z':=(if_neg hb).symm.trans z
    cases z'
  ·by_cases hb:b=a
   ·exact hb
   ·exact absurd (if_neg hb) z
end L2
namespace L2
open PySem PySem.Spec PyProof.Rows
theorem BK {l:PySem.W.OpenLaw} {n k:Nat} {q:Program} {loose:List Str} {XP:(Str->Option Value)->Heap->Prop} {YP:World->Heap->Prop} {d:DefRec} {K:Params->PySem.W.Frag} {CX:World->yE} {sp:World->Sp} {x:Str}
  (hn:l.most=some n) (hn2:n<=sizeLine) (hdf:d.params.defaults=[]) (hr:df k callerA)
  (hY:∀ (w:World) (h:Heap),YP w h->(K w.params).In h)
  (F:∀ (w:World) (mg:Str->Option Value) (fa:Addr) (h:Heap),(K w.params).In h->h.Ns mainGlobals mg->mg d.name=some (.ref fa) ->
   ∃ fd:FuncData,(∀ (s:Shared) (u:Value),BindsTo s fd ⟨[u],[]⟩ [(x,u)]) /\
    ∀ base:Heap,(K w.params).In base->base.Ns mainGlobals mg->jF l.prog w (K w.params) mg base (CX w) k fa fd [x] (sp w))
  (hsp:∀ (w:World) (H:Hp) (a:Addr) (ns:List Int),ns.length<=n->EB H->gD (K w.params) H a (ns.map V.int)->sp w [.ref a] H (fun v _=>v=.bl true) fun _ _ _=>False)
  (hCX:∀ (w:World) (H:Hp) (s:Shared) (e:Value) (s':Shared),CX w [] H s (fun _ _ _=>False) e s'->False) :
  PySem.W.WalkO q loose XP YP l.row.toRowW d [] (fun f vs=>PySem.call f vs):=by
 refine Att.sY hn hdf fun w s₀ s₁ mg mb fa o pm cd doc a vs ns G Y ho hd hcd hmg hobj hints hlen hg=>?_
 have KX:=hY w _ Y
 obtain ⟨fd,hb,hF⟩:=F w mg fa _ KX G.T.g hmg
 exact y8 KX G.T.g G.T.b G.T.builtins G.T.nolimit hg hobj hints (Nat.le_trans hlen hn2) hr hF hb (fun H hO hS=>hsp w H a ns hlen hO hS) fun H e s'=>hCX w H s₁ e s'
end L2
namespace L2
open PySem PySem.Spec PyProof.Rows
def gj (s:Stmt):Arguments:=match s with
 | .FunctionDef _ a _ _ _ _ _ _ _ _=>a
 | _=>{posonlyargs:=[],args:=[],vararg:=none,kwonlyargs:=[],kw_defaults:=[],kwarg:=none,defaults:=[]}
def eJ (s:Stmt):List Stmt:=match s with
 | .FunctionDef _ _ b _ _ _ _ _ _ _=>b
 | _=>[]
def aF (s:Stmt):Scope:=match s with
 | .FunctionDef _ _ _ _ _ _ sc _ _ _=>sc
 | _=>{kind:=.function,names:=[],isGenerator:=false,isCoroutine:=false}
structure Dn (K:PySem.W.Frag) (x qual:Str) (st:Stmt) (f:Addr) (fd:FuncData):Prop where
 ex:∃ (oc:Value) (od:Option Addr) (kV doc pm:Value) (an:Option Addr) (cdv ct:Value) (osl:Array (Option Value)),
  fd=PySem.W.fnOf x qual (gj st) (eJ st) (aF st) .none kV doc pm an cdv ct/\K.lookup f=some ⟨oc,od,.func fd,osl⟩/\PySem.W.codeIn K cdv qual=true
 kp:PySem.W.keepIn K (.ref f)=true
section
variable {P:Program} {w:World} {K:PySem.W.Frag} {mg:Str->Option Value} {base:Heap}
theorem Dn.binds {x qual:Str} {st:Stmt} {f:Addr} {fd:FuncData} {ps:List Str} (F:Dn K x qual st f fd)
  (h:∀ (kV doc pm:Value) (an:Option Addr) (cdv ct:Value) (us:List Value),us.length=ps.length->bindArgs (PySem.W.fnOf x qual (gj st) (eJ st) (aF st) .none kV doc pm an cdv ct) ⟨us,[]⟩=pure (ps.zip us)):Binds K fd ps []:=by
 obtain ⟨oc,od,kV,doc,pm,an,cdv,ct,osl,rfl,lk,hcd⟩:=F.ex
 exact .all (h kV doc pm an cdv ct)
theorem vd {x qual:Str} {st:Stmt} {f:Addr} {oc:Value} {od an:Option Addr} {osl:Array (Option Value)} {kV doc pm cdv ct:Value} (l:K.lookup f=some ⟨oc,od,.func (PySem.W.fnOf x qual (gj st) (eJ st) (aF st) .none kV doc pm an cdv ct),osl⟩)
  (c:PySem.W.codeIn K cdv qual=true) (k:PySem.W.keepIn K (.ref f)=true):Dn K x qual st f (PySem.W.fnOf x qual (gj st) (eJ st) (aF st) .none kV doc pm an cdv ct):=⟨⟨oc,od,kV,doc,pm,an,cdv,ct,osl,rfl,l,c⟩,k⟩
end
section
variable {X:Cx}
end
def bE (H H':Hp):Prop:=∀ b o,H b=some o->H' b=some o
theorem bE.refl (H:Hp):bE H H:=fun _ _ h=>h
theorem bE.trans {H H1 H2:Hp} (a:bE H H1) (b:bE H1 H2):bE H H2:=fun c o h=>b c o (a c o h)
theorem bE.free {H H':Hp} (e:bE H H') {l:Addr} (h:H' l=Option.none):H l=Option.none:=by
 cases q:H l with
 | none=>rfl
 | some o=>
  rw [e l o q] at h
  cases h
theorem bE.seq {K:PySem.W.Frag} {H H':Hp} {a:Addr} {xs:List V} (e:bE H H') (h:gD K H a xs):gD K H' a xs:=by
 rcases h with (h | ⟨o,h⟩) | h
 ·exact .inl (.inl (e _ _ h))
 ·exact .inl (.inr ⟨o,e _ _ h⟩)
 ·exact .inr h
end L2
namespace L2
open PySem PySem.Spec PyProof.Rows
def eA (cells:List (Str×Addr)):List (Str×NameKind)->List (Str×Addr)->List (Str×Addr)
 | [],acc=>acc
 | (n,k)::r,acc=>if k == .free then eA cells r ((n,(cells.lookup n).getD 0)::acc) else eA cells r acc
theorem jU {env:Env}:∀ (names:List (Str×NameKind)) (acc:List (Str×Addr)),(∀ n,(n,NameKind.free)∈names->∃ c,env.cells.lookup n=some c) ->
  (forIn (m:=Sem) names acc fun (x:Str×NameKind) (cs:List (Str×Addr))=>match x with
   | (name,kind)=>if (kind == NameKind.free)=true then (do let a <- cellOf env name;pure (ForInStep.yield ((name,a)::cs))) else pure (ForInStep.yield cs))=pure (eA env.cells names acc)
 | [],acc,_=>by rw [List.forIn_nil];rfl
 | (n,k)::r,acc,h=>by
  rw [List.forIn_cons]
  unfold eA
  by_cases hk:(k == NameKind.free)=true
  ·obtain ⟨c,hc⟩:=h n (by have:=eq_of_beq hk;subst this;exact List.mem_cons_self)
   have e:cellOf env n=pure c:=by unfold cellOf;rw [hc]
   simp only [hk,if_true]
   rw [e,hc]
   exact jU r _ fun m hm=>h m (List.mem_cons_of_mem _ hm)
  ·simp only [hk]
   exact jU r _ fun m hm=>h m (List.mem_cons_of_mem _ hm)
theorem fm {scope:Scope} {env:Env} (h:∀ n,(n,NameKind.free)∈scope.names->∃ c,env.cells.lookup n=some c):closureFor scope env=pure (eA env.cells scope.names []):=by
 have q:=jU (env:=env) scope.names [] h
 unfold closureFor
 exact (congrArg (fun m=>m >>= fun cs=>pure cs) q)
theorem jv {cells:List (Str×Addr)} {x:Str}:∀ {names:List (Str×NameKind)} {acc:List (Str×Addr)},(x,NameKind.free)∉names->(eA cells names acc).lookup x=acc.lookup x
 | [],_,_=>rfl
 | (n,k)::r,acc,h=>by
  unfold eA
  by_cases hk:(k == NameKind.free)=true
  ·rw [if_pos hk,jv fun z=>h (List.mem_cons_of_mem _ z),List.lookup_cons]
   have:(x == n)=false:=by
    cases e:x == n with
    | false=>rfl
    | true=>
     have e1:=eq_of_beq e
     have e2:=eq_of_beq hk
     subst e1;subst e2
     exact absurd List.mem_cons_self h
   rw [this]
  ·rw [if_neg hk,jv fun z=>h (List.mem_cons_of_mem _ z)]
theorem fS {cells:List (Str×Addr)} {x:Str}:∀ {names:List (Str×NameKind)} {acc:List (Str×Addr)},(x,NameKind.free)∈names->(eA cells names acc).lookup x=some ((cells.lookup x).getD 0)
 | (n,k)::r,acc,h=>by
  unfold eA
  by_cases hr:(x,NameKind.free)∈r
  ·by_cases hk:(k == NameKind.free)=true
   ·rw [if_pos hk];exact fS hr
   ·rw [if_neg hk];exact fS hr
  ·rcases List.mem_cons.mp h with e | e
   ·cases e
    rw [if_pos (show (NameKind.free == NameKind.free)=true from rfl),jv hr,List.lookup_cons]
    simp
   ·exact absurd e hr
theorem cZ:∀ (names:List (Str×NameKind)) (n:Nat) (acc:List (Str×Addr)),cellsFrom n names acc=cellsFrom n names []++acc
 | [],_,_=>rfl
 | (x,k)::r,n,acc=>by
  unfold cellsFrom
  by_cases hk:(k == NameKind.cell)=true
  ·rw [if_pos hk,if_pos hk,cZ r (n+1) ((x,n)::acc),cZ r (n+1) [(x,n)],List.append_assoc];rfl
  ·rw [if_neg hk,if_neg hk];exact cZ r n acc
theorem fo {x:Str} {c:Addr}:∀ {names:List (Str×NameKind)} {n:Nat},(x,c)∈cellsFrom n names []->(x,NameKind.cell)∈names/\n<=c
 | [],_,h=>nomatch h
 | (y,k)::r,n,h=>by
  unfold cellsFrom at h
  by_cases hk:(k == NameKind.cell)=true
  ·rw [if_pos hk,cZ] at h
   rcases List.mem_append.mp h with h | h
   ·obtain ⟨h1,h2⟩:=fo h
    exact ⟨List.mem_cons_of_mem _ h1,by omega⟩
   ·have e:(x,c)=(y,n):=by simpa using h
    cases e
    have:=eq_of_beq hk
    subst this
    exact ⟨List.mem_cons_self,Nat.le_refl _⟩
  ·rw [if_neg hk] at h
   obtain ⟨h1,h2⟩:=fo h
   exact ⟨List.mem_cons_of_mem _ h1,h2⟩
structure cC (sc:Scope) (N own:List Str) (scope:Scope):Prop where
 kind:scope.kind=.function
 frees:∀ n,(n,NameKind.free)∈scope.names->sc.names.lookup n=some .cell\/sc.names.lookup n=some .free
 own:∀ x∈own,(x,NameKind.free)∉scope.names
 out:∀ x∈N,scope.names.lookup x≠some .local/\scope.names.lookup x≠some .cell
 uniq:∀ p∈scope.names,scope.names.lookup p.1=some p.2
def dm (sc:Scope) (N own:List Str) (scope:Scope):Bool:=
 (scope.kind == .function) && scope.names.all (fun p=>p.2 != .free || (sc.names.lookup p.1 == some .cell) || (sc.names.lookup p.1 == some .free)) &&
 own.all (fun x=>scope.names.all fun p=>!(p.1 == x && p.2 == .free)) && N.all (fun x=>scope.names.lookup x != some .local && scope.names.lookup x != some .cell) &&
 scope.names.all (fun p=>scope.names.lookup p.1 == some p.2)
theorem cC.of {sc:Scope} {N own:List Str} {scope:Scope} (h:dm sc N own scope=true):cC sc N own scope:=by
 unfold dm at h
 simp only [Bool.and_eq_true] at h
 obtain ⟨⟨⟨⟨h1,h2⟩,h3⟩,h4⟩,h5⟩:=h
 refine ⟨eq_of_beq h1,fun n hn=>?_,fun x hx hn=>?_,fun x hx=>?_,fun p hp=>?_⟩
 ·have:=List.all_eq_true.mp h2 _ hn
  simp only [Bool.or_eq_true,bne_self_eq_false,Bool.false_eq_true,false_or] at this
  rcases this with q | q
  ·exact .inl (eq_of_beq q)
  ·exact .inr (eq_of_beq q)
 ·have:=List.all_eq_true.mp (List.all_eq_true.mp h3 x hx) _ hn
  simp at this
 ·have:=List.all_eq_true.mp h4 x hx
  simp only [Bool.and_eq_true,bne_iff_ne] at this
  exact this
 ·exact eq_of_beq (List.all_eq_true.mp h5 p hp)
theorem iT {env:Env} {x:Str}:∀ (names:List (Str×NameKind)),
  (names.map fun (n,k)=>if (k == NameKind.free && env.scope.kind == .function && env.kindOf n == some .cell) then (n,NameKind.cell) else (n,k)).lookup x
   = (names.lookup x).map fun k=>if (k == NameKind.free && env.scope.kind == .function && env.kindOf x == some .cell) then NameKind.cell else k
 | []=>rfl
 | (n,k)::r=>by
  have ih:=iT (env:=env) (x:=x) r
  rw [List.map_cons]
  show List.lookup x ((if (k == NameKind.free && env.scope.kind == .function && env.kindOf n == some .cell)=true then (n,NameKind.cell) else (n,k))::_)=_
  by_cases hc:(k == NameKind.free && env.scope.kind == .function && env.kindOf n == some .cell)=true
  ·rw [if_pos hc,List.lookup_cons,List.lookup_cons]
   cases hx:x == n with
   | true=>have:=eq_of_beq hx;subst this;exact congrArg some (if_pos hc).symm
   | false=>exact ih
  ·rw [if_neg hc,List.lookup_cons,List.lookup_cons]
   cases hx:x == n with
   | true=>have:=eq_of_beq hx;subst this;exact congrArg some (if_neg hc).symm
   | false=>exact ih
theorem mem_of_lookupK {names:List (Str×NameKind)} {x:Str} {k:NameKind} (h:names.lookup x=some k):(x,k)∈names:=PySem.mem_of_lookup h
def iU (scope:Scope) (C:Addr) (env:Env):Env:=
 {scope:=relabel scope env,locals:=C,globals:=env.globals,cells:=cellsFrom (C+1) scope.names (eA env.cells scope.names []),qual:=env.qual,func:=none,code:=env.code,frame:=env.frame,builtins:=env.builtins}
theorem jK {M:Model} {A:Around} {E:Value->Shared->Prop} {s:Shared} {scope:Scope} {env:Env} {cl:List (Str×Addr)} {Q:Env->Shared->Prop}
  (hQ:Q {scope:=scope,locals:=s.heap.objs.size,globals:=env.globals,cells:=cellsFrom (s.heap.objs.size+1) scope.names cl,qual:=env.qual,func:=none,code:=env.code,frame:=env.frame,builtins:=env.builtins}
   {s with heap:=pushCells (s.heap.push {cls:=.type "dict",data:=.dict #[]}) scope.names}) :
  wpAny M A (newFunctionEnv scope env.globals cl [] env.qual none .none (some env)) Q E s:=by
 simp only [newFunctionEnv,Option.isSome_some,if_true]
 refine wpAny_bind (wpAny_alloc ?_)
 refine wpAny_bind (wpAny_layCells _ (fun name kind cells=>by cases hkc:kind == NameKind.cell<;>simp [hkc]) _ _ _ _ ?_)
 rw [show ({s with heap:=s.heap.push {cls:=.type "dict",data:=.dict #[]}}:Shared).heap.objs.size=s.heap.objs.size+1 from Heap.size_push ..]
 exact wpAny_pure hQ
def ax (X:Cx) (own:List Str) (scope:Scope) (C:Addr) (s2:Shared) (H2:Hp) (fp:List Addr) (pins:List (Addr×Obj)):Cx where
 prog:=X.prog
 w:=X.w
 K:=X.K
 mg:=X.mg
 base:=X.base
 A:=X.A
 N:=own++X.N
 s₀:=s2
 H₀:=H2
 env:=iU scope C X.env
 outer:=X.stack
 stack:=X.stack
 ex:=fp
 fn:=fun x=>own.any (· == x)
 calm:=X.calm
 pn:=X.pn++pins
 xe:=fun _ _=>False
abbrev Cx.Bb (X:Cx) (N':List Str):Cx:={X with N:=N'}
def nr (sc:Scope) (N N':List Str):Bool:=decide (N'.length=N.length) && (N'.zip N).all fun p=>p.1 == p.2 || (sc.names.lookup p.1).isNone
theorem Inv.Bb {X:Cx} {N':List Str} {pins:List (Addr×Obj)} {σ:St} {H:Hp} {s:Shared} (I:Inv X pins σ H s) (h:nr X.env.scope X.N N'=true):Inv (X.Bb N') pins σ H s:=by
 unfold nr at h
 simp only [Bool.and_eq_true,decide_eq_true_eq] at h
 obtain ⟨hl,ha⟩:=h
 obtain ⟨m,hn,hv⟩:=I.loc
 have o:=I.ok
 refine ⟨⟨o.mod,o.kind,o.glob,o.blt,o.above,o.inj,o.has,o.cab,o.hd,o.frames,o.stk,o.exf,o.bs,o.bsz,o.noex,o.exfs,o.ky,o.frf⟩,I.os,I.bare,I.base,⟨m,hn,fun i x v h1 h2 h3=>?_⟩,I.cell,I.free,I.freeC,I.pin,I.hok,by rw [I.len];exact hl.symm⟩
 have h1':N'[i]?=some x:=h1
 obtain ⟨li,ei⟩:=List.getElem?_eq_some_iff.mp h1'
 have li2:i < X.N.length:=by rw [<- hl];exact li
 have hm:(x,X.N[i])∈N'.zip X.N:=by
  rw [List.mem_iff_getElem]
  exact ⟨i,by simp;omega,by simp [ei]⟩
 have q:=List.all_eq_true.mp ha _ hm
 simp only [Bool.or_eq_true] at q
 rcases q with q | q
 ·have e:=eq_of_beq q
  exact hv i x v (by rw [List.getElem?_eq_getElem li2,<- e]) h2 h3
 ·exfalso
  have h3':Dc X.env.scope x:=h3
  unfold Dc at h3'
  rw [Option.isNone_iff_eq_none.mp q] at h3'
  rcases h3' with z | z | z<;>cases z
def Kept (X:Cx) (fp:List Addr) (H H':Hp) (s s':Shared):Prop:=s'.os=s.os/\Un (qo X.stack) fp H H' s.heap s'.heap/\iP X.prog X.w H' s'.heap/\AllBare s'.gens
theorem Kept.inv {X:Cx} {pins:List (Addr×Obj)} {σ:St} {H H':Hp} {s s':Shared} {fp:List Addr} (k:Kept X fp H H' s s') (I:Inv X pins σ H s) (hf:∀ b∈fp,g9 X pins H b):Inv X pins σ H' s':=
 I.Dd k.1 k.2.1 k.2.2.1 k.2.2.2 fun b hb=>⟨(hf b hb).2.2.2.1,(hf b hb).2.1,(hf b hb).2.2.2.2.1,(hf b hb).2.2.2.2.2⟩
section
variable {X:Cx} {own:List Str} {scope:Scope} {pins:List (Addr×Obj)} {σ:St} {H2:Hp} {s2:Shared} {fp:List Addr}
theorem fT (x:Str):(relabel scope X.env).names.lookup x=(scope.names.lookup x).map fun k=>if (k == NameKind.free && X.env.scope.kind == .function && X.env.kindOf x == some .cell) then NameKind.cell else k:=
 iT _
theorem cw {C:Addr} {x:Str} {c:Addr} (h:(iU scope C X.env).cells.lookup x=some c):((x,c)∈cellsFrom (C+1) scope.names []/\(x,NameKind.cell)∈scope.names/\C+1<=c)\/(eA X.env.cells scope.names []).lookup x=some c:=by
 have h':(cellsFrom (C+1) scope.names (eA X.env.cells scope.names [])).lookup x=some c:=h
 rw [cZ,List.lookup_append] at h'
 cases e:(cellsFrom (C+1) scope.names []).lookup x with
 | some d=>
  rw [e] at h'
  cases h'
  have m:=PySem.mem_of_lookup e
  exact .inl ⟨m,fo m⟩
 | none=>
  rw [e] at h'
  exact .inr h'
theorem fu (I:Inv X pins σ H2 s2) (CS:cC X.env.scope X.N own scope) {x:Str} {c:Addr} (h:(eA X.env.cells scope.names []).lookup x=some c):(x,NameKind.free)∈scope.names/\X.env.cells.lookup x=some c:=by
 by_cases hf:(x,NameKind.free)∈scope.names
 ·refine ⟨hf,?_⟩
  rw [fS hf] at h
  obtain ⟨d,hd⟩:=I.ok.has x (CS.frees x hf)
  rw [hd] at h
  cases h
  exact hd
 ·rw [jv hf] at h
  cases h
theorem wu (I:Inv X pins σ H2 s2) (CS:cC X.env.scope X.N own scope) {C:Addr} (hC:s2.heap.objs.size<=C) (hf:∀ b∈fp,g9 X pins H2 b) (hl:∀ b∈fp,b < s2.heap.objs.size):(ax X own scope C s2 H2 fp pins).Ok:=by
 have old:∀ x c,(eA X.env.cells scope.names []).lookup x=some c->X.env.cells.lookup x=some c/\c < s2.heap.objs.size:=fun x c h=>by
  obtain ⟨_,q⟩:=fu I CS h
  obtain ⟨v,z⟩:=I.cell x c q
  exact ⟨q,z.lt⟩
 refine ⟨I.ok.mod,CS.kind,I.ok.glob,I.ok.blt,hC,fun x y c h1 h2=>?_,fun x hx=>?_,fun x c hx h=>?_,I.ok.hd,I.ok.frames,.inl rfl,fun b hb=>⟨?_,fun x c h=>?_⟩,I.bs,Nat.le_trans I.ok.bsz I.sz,fun b o e hb=>?_,fun b hb z=>?_,I.stack,I.wb⟩
 ·rcases cw h1 with ⟨a1,_,a2⟩ | a1<;>rcases cw h2 with ⟨b1,_,b2⟩ | b1
  ·have ap:=(cellsFrom_ok scope.names {(default:Heap) with objs:=Array.replicate (C+1) default} (C+1) [] ⟨fun _ _ hm=>(nomatch hm),List.Pairwise.nil⟩ (by simp)).apart
   simp only [Array.size_replicate] at ap
   exact name_of_addr ap a1 b1
  ·exact absurd (Nat.lt_of_lt_of_le (old y c b1).2 (Nat.le_trans hC (Nat.le_trans (Nat.le_succ _) a2))) (Nat.lt_irrefl _)
  ·exact absurd (Nat.lt_of_lt_of_le (old x c a1).2 (Nat.le_trans hC (Nat.le_trans (Nat.le_succ _) b2))) (Nat.lt_irrefl _)
  ·exact I.ok.inj x y c (old x c a1).1 (old y c b1).1
 ·have hx':(relabel scope X.env).names.lookup x=some .cell\/(relabel scope X.env).names.lookup x=some .free:=hx
  rw [fT] at hx'
  show ∃ c,(cellsFrom (C+1) scope.names (eA X.env.cells scope.names [])).lookup x=some c
  refine Option.isSome_iff_exists.mp (PySem.W.cellsFrom_some _ _ _ ?_)
  cases e:scope.names.lookup x with
  | none=>rw [e] at hx';simp at hx'
  | some k=>
   rw [e] at hx'
   by_cases hk:k=.free
   ·subst hk
    exact .inr (by rw [fS (mem_of_lookupK e)];rfl)
   ·have hb:(k == NameKind.free)=false:=by simpa using hk
    simp only [Option.map_some,hb,Bool.false_and,Bool.false_eq_true,if_false,Option.some.injEq] at hx'
    rcases hx' with q | q
    ·exact .inl (by rw [q])
    ·exact absurd q hk
 ·obtain ⟨y,hy,e⟩:=List.any_eq_true.mp hx
  have:=eq_of_beq e
  subst this
  rcases cw h with ⟨_,_,a⟩ | a
  ·exact Nat.le_trans hC (Nat.le_trans (Nat.le_succ _) a)
  ·exact absurd (fu I CS a).1 (CS.own _ hy)
 ·exact Nat.ne_of_lt (Nat.lt_of_lt_of_le (hl b hb) hC)
 ·rcases cw h with ⟨_,_,a⟩ | a
  ·exact Ne.symm (Nat.ne_of_lt (Nat.lt_of_lt_of_le (hl b hb) (Nat.le_trans hC (Nat.le_trans (Nat.le_succ _) a))))
  ·exact (hf b hb).2.2.2.2.1 x c (old x c a).1
 ·rcases (hf b hb).2.2.2.1 with z | z
  ·exact I.ok.noex b o e z
  ·exact absurd (Nat.lt_of_lt_of_le (Heap.lt_size e) (Nat.le_trans I.ok.bsz z)) (Nat.lt_irrefl _)
 ·rcases List.mem_cons.mp (I.iQ b z) with e | e
  ·exact (hf b hb).2.1 e
  ·exact (hf b hb).2.2.1 e
theorem kE (I:Inv X pins σ H2 s2) (CS:cC X.env.scope X.N own scope) {C:Addr} {h:Heap} (hc:∀ c v,s2.heap.IsCell c v->(∃ x,X.env.cells.lookup x=some c)->h.IsCell c v) {m:Str->Option Value} :
  ∀ (i:Nat) (x:Str) (v:V),(own++X.N)[i]?=some x->(List.replicate own.length (none:Option V)++σ)[i]?=some (some v)->Dc (relabel scope X.env) x->∃ u,RelV v u/\Look (iU scope C X.env) h m x u:=by
 intro i x v h1 h2 h3
 have hi:own.length<=i:=by
  by_cases hi:own.length<=i
  ·exact hi
  ·rw [List.getElem?_append_left (by simpa using hi),List.getElem?_replicate] at h2
   split at h2<;>cases h2
 rw [List.getElem?_append_right hi] at h1
 rw [List.getElem?_append_right (by simpa using hi),List.length_replicate] at h2
 have hN:=CS.out x (List.mem_of_getElem? h1)
 have hfr:scope.names.lookup x=some .free:=by
  unfold Dc at h3
  rw [fT] at h3
  cases e:scope.names.lookup x with
  | none=>rw [e] at h3;simp at h3
  | some k=>
   rw [e] at h3 hN
   by_cases hk:k=.free
   ·rw [hk]
   ·have hb:(k == NameKind.free)=false:=by simpa using hk
    simp only [Option.map_some,hb,Bool.false_and,Bool.false_eq_true,if_false,Option.some.injEq] at h3
    rcases h3 with q | q | q
    ·exact absurd (by rw [q]) hN.1
    ·exact absurd (by rw [q]) hN.2
    ·exact absurd q hk
 have hm:=mem_of_lookupK hfr
 have hk:=CS.frees x hm
 obtain ⟨mX,hn,hl⟩:=I.loc
 obtain ⟨u,r,l⟩:=hl _ x v h1 h2 (hk.elim (fun z=>.inr (.inl z)) fun z=>.inr (.inr z))
 refine ⟨u,r,?_⟩
 rcases l with ⟨z,_⟩ | ⟨_,c,hcx,z⟩
 ·have z':X.env.scope.names.lookup x=some .local:=z
  rcases hk with q | q<;>rw [q] at z'<;>cases z'
 ·refine .inr ⟨?_,c,?_,hc c _ z ⟨x,hcx⟩⟩
  ·show (relabel scope X.env).names.lookup x=some .cell\/(relabel scope X.env).names.lookup x=some .free
   rw [fT,hfr]
   simp only [Option.map_some]
   split
   ·exact .inl rfl
   ·exact .inr rfl
  ·show (cellsFrom (C+1) scope.names (eA X.env.cells scope.names [])).lookup x=some c
   rw [cZ,List.lookup_append]
   have no:(cellsFrom (C+1) scope.names []).lookup x=none:=by
    cases e:(cellsFrom (C+1) scope.names []).lookup x with
    | none=>rfl
    | some d=>
     have:=CS.uniq _ (fo (PySem.mem_of_lookup e)).1
     simp only [] at this
     rw [hfr] at this
     cases this
   rw [no,fS hm,hcx]
   rfl
end
end L2
namespace L2
open PySem PySem.Spec PyProof.Rows
theorem ve {prog:Program} {w:World} {A:Around} {R:Result->Shared->Prop} {s:Shared} {elt target iter:Expr} {ifs:List Expr} {scope:Scope} {pos:Pos} {it acc:Value} {env:Env} (I:Nat->Shared->Prop)
  (turn:∀ n s,I n s->wpAny (model prog w) A (pyNext it) (fun r s1=>match r with
   | none=>R (.ok .next) s1
   | some v=>wpAny (model prog w) A (letOwnedTupleGo target it v) (fun _ s2=>wpAny (model prog w) A (assign target env v) (fun _ s3=>
     wpAny (model prog w) A (forIn ifs true fun c r=>if r=true then do let ok <- isTrue c env (eval c env);pure (ForInStep.yield ok) else pure (ForInStep.yield r)) (fun ok s4=>
      if ok=true then wpAny (model prog w) A (eval elt env) (fun x s5=>
       wpAny (model prog w) A (call (.builtin "list.append") [acc,x]) (fun _ s6=>∃ m,m < n/\I m s6) (fun _ _=>False) s5) (fun _ _=>False) s4
      else ∃ m,m < n/\I m s4) (fun _ _=>False) s3) (fun _ _=>False) s2) (fun _ _=>False) s1) (fun _ _=>False) s)
  (n:Nat) (h:I n s) :
  codeAny (model prog w) A (.compLoop (.ListComp elt [⟨target,iter,ifs,0⟩] scope pos) 0 it acc env) R s:=by
 refine codeAny_loop rfl I (fun n s hI=>?_) n h
 show wpAny _ A ((compTurn (.ListComp elt [⟨target,iter,ifs,0⟩] scope pos) 0 it acc env).onRaise (fun x=>do noteFrame x env;theTreesLotGoes x)) _ _ s
 refine wpAny_noted ?_
 rw [compTurn_list]
 refine wpAny_mono (E:=fun _ _=>False) (E':=_) (Q':=_) ?_ (fun _ _ q=>q) fun _ _ z=>z.elim
 refine wpAny_bind (wpAny_standAt (wpAny_bind (bJ (turn n s hI) (fun r s1 h1=>?_))))
 cases r with
 | none=>exact wpAny_pure h1
 | some v=>
  refine wpAny_bind (bJ h1 fun _ s2 h2=>?_)
  refine wpAny_bind (bJ h2 fun _ s3 h3=>wpAny_bind (bJ h3 fun ok s4 h4=>?_))
  cases ok with
  | false=>exact wpAny_pure ⟨rfl,h4⟩
  | true=>exact wpAny_bind (wpAny_bind (bJ h4 fun x s5 h5=>wpAny_bind (bJ h5 fun _ s6 h6=>wpAny_pure (wpAny_pure ⟨rfl,h6⟩))))
def yF (X:Cx) (ifs:List Expr) (t:TT):Prop:=
 ∀ (pins:List (Addr×Obj)) (s:Shared) (σ:St) (H:Hp) (Q:Bool->Hp->Prop),Inv X pins σ H s->t σ H Q ->
  wpAny (model X.prog X.w) X.A (forIn ifs true fun c r=>if r=true then do let ok <- isTrue c X.env (eval c X.env);pure (ForInStep.yield ok) else pure (ForInStep.yield r)) (TP X pins σ Q) X.xe s
def Iz:TT:=fun _ H Q=>Q true H
theorem BL {X:Cx}:yF X [] Iz:=fun _ _ _ H _ I h=>wpAny_tests_nil ⟨H,I,h⟩
theorem BM {X:Cx} {c:Expr} {t:TT} (h:PT X c t):yF X [c] t:=fun pins s σ H Q I q=>wpAny_tests_one (h pins s σ H Q I q)
def y9 (n:Nat) (J:It) (g:TG) (tc:TT) (te:TE) (σ:St) (H:Hp) (Q:VK):Prop:=
 ∃ W:Nat->Nat->List V->Hp->Prop,(∃ m,W 0 m [] H)/\∀ i m ys H,W i m ys H ->
  (J.stop i H/\ys.length<=sizeLine/\∀ p,H p=none->Q (.ref p) (upd H p (.lst ys))) \/
  (J.go i H/\ys.length<=sizeLine/\∃ N:List V->Hp->Prop,(∀ ys' H',N ys' H'->∃ m',m' < m/\W (i+1) m' ys' H')/\∀ x H',J.yld i H x H'->g x (List.replicate n none++σ) H' fun σ2 H2=>tc σ2 H2 fun b H3=>
   if b=true then te σ2 H3 fun y H4=>N (ys++[y]) H4 else N ys H3)
theorem jV {X:Cx} {own:List Str} {scope:Scope} {pins:List (Addr×Obj)} {σ:St} {H2:Hp} {s2:Shared} {fp:List Addr} {it:Addr} {tn:Nat->Heap->Prop} {J:It} {elt tg iter:Expr} {ifs:List Expr} {pos:Pos} {g:TG} {tc:TT} {te:TE} {Q:VK}
  {RR:Value->Addr->Result->Shared->Prop} {E:Value->Shared->Prop} (I:Inv X pins σ H2 s2) (CS:cC X.env.scope X.N own scope) (hc:X.calm=true) (T:Turn X.prog X.w X.K tg J fp it tn) (st:tn 0 s2.heap) (hf:∀ b∈fp,g9 X pins H2 b)
  (hg:∀ C s2 H2 fp pins,PG (ax X own scope C s2 H2 fp pins) tg g) (ht:∀ C s2 H2 fp pins,yF (ax X own scope C s2 H2 fp pins) ifs tc) (he:∀ C s2 H2 fp pins,PE (ax X own scope C s2 H2 fp pins) elt te)
  (hW:y9 own.length J g tc te σ H2 Q)
  (hR:∀ D C H' s',Inv X pins σ H' s'->g9 X pins H' C->(∃ m,s'.heap.Ns C m)->Q (.ref D) H'->Kept X fp H2 H' s2 s'->RR (.ref D) C (.ok .next) s') :
  wpAny (model X.prog X.w) X.A (newList []) (fun acc s3=>wpAny (model X.prog X.w) X.A (newFunctionEnv scope X.env.globals (eA X.env.cells scope.names []) [] X.env.qual none .none (some X.env)) (fun cenv s4=>
   codeAny (model X.prog X.w) X.A (.compStart (.ListComp elt [⟨tg,iter,ifs,0⟩] scope pos) 0 (.ref it) acc {cenv with scope:=relabel scope X.env}) (RR acc cenv.locals) s4) E s3) E s2:=by
 refine wpAny_newObj_type (jK ?_)
 dsimp only
 generalize hH:s2.heap.push {cls:=.type "list",dict:=none,data:=.seq ([]:List Value).toArray}=h3
 have hDC:h3.objs.size=s2.heap.objs.size+1:=by rw [<- hH,Heap.size_push]
 have eC:({scope:=relabel scope X.env,locals:=h3.objs.size,globals:=X.env.globals,cells:=cellsFrom (h3.objs.size+1) scope.names (eA X.env.cells scope.names []),qual:=X.env.qual,func:=none,code:=X.env.code,frame:=X.env.frame,builtins:=X.env.builtins}:Env)=iU scope h3.objs.size X.env:=rfl
 rw [eC]
 generalize eD:s2.heap.objs.size=D at *
 generalize eCC:h3.objs.size=C at *
 have hl:∀ b∈fp,b < s2.heap.objs.size:=fun b hb=>by
  obtain ⟨o,e,_⟩:=T.obj 0 _ st b hb
  exact Heap.lt_size e
 have hC:s2.heap.objs.size<=C:=by omega
 generalize hH4:pushCells (h3.push {cls:=.type "dict",data:=.dict #[]}) scope.names=h4
 have k34:∀ b o,(h3.push {cls:=.type "dict",data:=.dict #[]}).get? b=some o->h4.get? b=some o:=fun b o e=>by rw [<- hH4];exact pushCells_keeps _ _ b o e
 have k24:∀ b o,s2.heap.get? b=some o->h4.get? b=some o:=fun b o e=>k34 b o (Heap.get?_push_of_some _ (by rw [<- hH];exact Heap.get?_push_of_some _ e))
 have nsC:h4.Ns C fun _=>none:=by
  have:=Heap.Ns.new h3 (.type "dict")
  rw [eCC] at this
  exact this.keeps k34
 have accD:h4.get? D=some {cls:=.type "list",data:=.seq (([]:List Value).toArray)}:=k34 _ _ (Heap.get?_push_of_some _ (by rw [<- hH,<- eD];exact Heap.get?_push_size _ rfl))
 have cellN:∀ x c,(x,c)∈cellsFrom (C+1) scope.names []->h4.IsCell c none/\C+1<=c:=fun x c hm=>by
  have ok:=cellsFrom_ok scope.names (h3.push {cls:=.type "dict",data:=.dict #[]}) (C+1) [] ⟨fun _ _ hm=>(nomatch hm),List.Pairwise.nil⟩ (by rw [Heap.size_push];omega)
  rw [Heap.size_push,eCC,hH4] at ok
  exact ok.empty x c hm
 have hne:H2 D=none:=by rw [<- eD];exact I.hok.fresh (Nat.le_refl _)
 have ok':(ax X own scope C s2 H2 fp pins).Ok:=wu I CS hC hf hl
 have rebase:∀ {σ':St} {H':Hp} {ps:List (Addr×Obj)} {s':Shared},Inv (ax X own scope C s2 H2 fp pins) ps σ' H' s'->Inv (ax X own scope C s2 H2 fp pins) ps (List.replicate own.length none++σ) H' s':=fun {σ' H' ps s'} J'=>by
  obtain ⟨m,hn,_⟩:=J'.loc
  refine ⟨J'.ok,J'.os,J'.bare,J'.base,⟨m,hn,kE I CS fun c v z ⟨x,hx⟩=>?_⟩,J'.cell,J'.free,J'.freeC,J'.pin,J'.hok,?_⟩
  ·obtain ⟨o,ho,hd⟩:=z
   obtain ⟨sl,e⟩:=J'.base.any ho (I.freeC x c hx) fun hb=>(hf c hb).2.2.2.2.1 x c hx rfl
   exact ⟨_,e,hd⟩
  ·show (List.replicate own.length none++σ).length=(own++X.N).length
   rw [List.length_append,List.length_append,List.length_replicate,I.len]
 have start:Inv (ax X own scope C s2 H2 fp pins) [] (List.replicate own.length none++σ) H2 {s2 with heap:=h4}:=by
  have I4:Inv X pins σ H2 {s2 with heap:=h4}:=I.kept (t':=s2.toks) k24
  refine ⟨ok',rfl,I.bare,Un.kept k24,⟨_,nsC,kE I CS fun c v z _=>z.keeps k24⟩,fun x c h=>?_,I.hok.fresh hC,fun x c h=>?_,fun p hp=>?_,I4.hok,?_⟩
  ·rcases cw h with ⟨a,_,_⟩ | a
   ·exact ⟨_,(cellN x c a).1⟩
   ·obtain ⟨v,z⟩:=I.cell x c (fu I CS a).2
    exact ⟨v,z.keeps k24⟩
  ·rcases cw h with ⟨_,_,a⟩ | a
   ·exact I.hok.fresh (Nat.le_trans hC (Nat.le_trans (Nat.le_succ _) a))
   ·exact I.freeC x c (fu I CS a).2
  ·have hp':p∈X.pn++pins:=by
    rcases List.mem_append.mp hp with z | z
    ·exact z
    ·exact nomatch z
   obtain ⟨e,n,ne,nf,d⟩:=I.pin p hp'
   refine ⟨k24 _ _ e,n,Nat.ne_of_lt (Nat.lt_of_lt_of_le (Heap.lt_size e) hC),fun z=>?_,d⟩
   rcases List.mem_cons.mp (I.iQ _ z) with q | q
   ·exact ne q
   ·exact nf q
  ·show (List.replicate own.length none++σ).length=(own++X.N).length
   rw [List.length_append,List.length_append,List.length_replicate,I.len]
 obtain ⟨W,⟨m0,w0⟩,turn⟩:=hW
 have nfs:∀ b,s2.heap.objs.size<=b->b∉(ax X own scope C s2 H2 fp pins).fs:=fun b hb z=>by
  rcases List.mem_cons.mp (I.iQ b z) with q | q
  ·rw [q] at hb;exact absurd (Nat.lt_of_lt_of_le I.lt hb) (Nat.lt_irrefl _)
  ·exact I.yI hb q
 have fpD:∀ {H':Hp},H' D=none->g9 (ax X own scope C s2 H2 fp pins) [] H' D:=fun {H'} hn=>by
  refine ⟨hn,Nat.ne_of_lt (by show D < C;omega),nfs D (by omega),.inr (by show s2.heap.objs.size<=D;omega),fun x c h z=>?_,fun p hp z=>?_⟩
  ·rcases cw h with ⟨_,_,a⟩ | a
   ·rw [z] at a;exact absurd (Nat.lt_of_lt_of_le (show D < C+1 by omega) a) (Nat.lt_irrefl _)
   ·obtain ⟨v,q⟩:=I.cell x c (fu I CS a).2
    have:=q.lt
    rw [z,eD] at this
    exact Nat.lt_irrefl _ this
  ·have hp':p∈X.pn++pins:=by
    rcases List.mem_append.mp hp with z | z
    ·exact z
    ·exact nomatch z
   have:=Heap.lt_size (I.pin p hp').1
   rw [z,eD] at this
   exact Nat.lt_irrefl _ this
 have nD:D∉fp:=fun z=>by have:=hl D z;rw [eD] at this;exact Nat.lt_irrefl _ this
 have stat:∀ {H':Hp} {ps:List (Addr×Obj)},(∀ p∈ps,p.1=D)->(∀ b∈fp,H' b=none)->∀ b∈fp,g9 (ax X own scope C s2 H2 fp pins) ps H' b:=fun {H' ps} hps hn b hb=>by
  obtain ⟨f0,f1,f2,f3,f4,f5⟩:=hf b hb
  refine ⟨hn b hb,(ok'.exf b hb).1,ok'.exfs b hb,.inl hb,(ok'.exf b hb).2,fun p hp=>?_⟩
  rcases List.mem_append.mp hp with z | z
  ·exact f5 p z
  ·rw [hps p z]
   exact fun q=>nD (q▸hb)
 let LI:Nat->Shared->Prop:=fun n s'=>∃ i ys its k H',Inv (ax X own scope C s2 H2 fp pins) [] (List.replicate own.length none++σ) H' s'/\tn i s'.heap/\(∀ b∈fp,H' b=none)/\H' D=none /\
  s'.heap.get? D=some {cls:=.type "list",data:=.seq (List.toArray its) k}/\Vals ys its/\W i n ys H'
 have l0:LI m0 {s2 with heap:=h4}:=⟨0,[],[],0,H2,start,T.keep _ _ _ st fun b _ o e=>k24 b o e,fun b hb=>(hf b hb).1,hne,accD,.nil,w0⟩
 have loop:codeAny (model X.prog X.w) X.A (.compLoop (.ListComp elt [⟨tg,iter,ifs,0⟩] scope pos) 0 (.ref it) (.ref D) (iU scope C X.env)) (RR (.ref D) C) {s2 with heap:=h4}:=by
  refine ve LI ?_ m0 l0
  rintro n s3 ⟨i,ys,its,k,H3,I3,st3,fr3,d3,a3,v3,w3⟩
  rcases turn i n ys H3 w3 with ⟨stop,hz,qn⟩ | ⟨go,hz,NN,hNN,step⟩
  ·have I3p:=I3.pinned (fp:=[D]) (fun b hb=>(List.mem_singleton.mp hb)▸fpD d3) fun b hb=>⟨_,(List.mem_singleton.mp hb)▸a3,fun v z=>(by cases z)⟩
   refine bJ (T.done (ax X own scope C s2 H2 fp pins) rfl rfl rfl hc i _ s3 _ H3 _ I3p (stat (fun p hp=>by have q:p∈cf [D] s3.heap:=hp;have:=(ff q).1;simpa using this) fr3) st3 stop) fun r s4 ⟨hr,I4⟩=>?_
   subst hr
   have a4:s4.heap.get? D=_:=(I4.pin (D,_) (List.mem_append_right _ (List.mem_append_right _ (bp (by simp) a3)))).1
   have u4:Un (qo X.stack) fp H2 H3 s2.heap s4.heap:=I4.base
   have okD:iP X.prog X.w (upd H3 D (.lst ys)) s4.heap:=fun b o e=>by
    by_cases hb:b=D
    ·subst hb
     rw [bo] at e
     cases e
     exact ⟨hz,its,k,v3,a4⟩
    ·rw [aC hb] at e
     exact (I4.hok b o e).pN (fun _ _ _ q=>q) (fun c q=>by rw [aC (aG q d3)];exact q) fun c xs q=>by rw [aC (aG q d3)];exact q
   have nDo:∀ b o,s2.heap.get? b=some o->b≠D:=fun b o e=>by rw [<- eD];exact Nat.ne_of_lt (Heap.lt_size e)
   have uD:Un (qo X.stack) fp H2 (upd H3 D (.lst ys)) s2.heap s4.heap:=⟨u4.keep,u4.slot,fun b o e n hx=>by rw [aC (nDo b o e)];exact u4.free b o e n hx,u4.there,
    fun b xs e=>by rw [aC (aG e hne)];exact u4.tups b xs e,fun b o xs e=>by rw [aC (aG e hne)];exact u4.frzs b o xs e,fun b ps e=>by rw [aC (aG e hne)];exact u4.tbls b ps e⟩
   have kp:Kept X fp H2 (upd H3 D (.lst ys)) s2 s4:=⟨I4.os,uD,okD,I4.bare⟩
   have I5:Inv X pins σ (upd H3 D (.lst ys)) s4:=kp.inv I hf
   obtain ⟨m,hn,_⟩:=I4.loc
   refine hR D C _ s4 I5 ⟨by rw [aC (show C≠D by omega)];exact I4.free,Nat.ne_of_gt (Nat.lt_of_lt_of_le I.lt hC),I.yI hC,.inr (Nat.le_trans I.sz hC),fun x c e z=>?_,fun p hp z=>?_⟩ ⟨m,hn⟩ (qn D d3) kp
   ·obtain ⟨v,q⟩:=I.cell x c e
    exact absurd (Nat.lt_of_lt_of_le q.lt (by rw [z];exact hC)) (Nat.lt_irrefl _)
   ·exact absurd (Nat.lt_of_lt_of_le (Heap.lt_size (I.pin p hp).1) (by rw [z];exact hC)) (Nat.lt_irrefl _)
  ·have I3p:=I3.pinned (fp:=[D]) (fun b hb=>(List.mem_singleton.mp hb)▸fpD d3) fun b hb=>⟨_,(List.mem_singleton.mp hb)▸a3,fun v z=>(by cases z)⟩
   have onlyD:∀ p∈([]++cf [D] s3.heap),p.1=D:=fun p hp=>by have q:p∈cf [D] s3.heap:=hp;have:=(ff q).1;simpa using this
   refine bJ (T.item (ax X own scope C s2 H2 fp pins) rfl rfl rfl hc i _ s3 _ H3 _ I3p (stat onlyD fr3) st3 go) fun r s4 ⟨u,hr,h4'⟩=>?_
   subst hr
   refine bJ h4' fun _ s5 ⟨x,H5,I5,r5,y5,st5,fr5⟩=>?_
   have I5p:=I5.pinned (fp:=fp) (stat onlyD fr5) (T.obj _ _ st5)
   have cont:∀ {s6:Shared} {σ6:St} {H6:Hp},Inv (ax X own scope C s2 H2 fp pins) (([]++cf [D] s3.heap)++cf fp s5.heap) σ6 H6 s6 ->
     Inv (ax X own scope C s2 H2 fp pins) [] (List.replicate own.length none++σ) H6 s6/\tn (i+1) s6.heap/\(∀ b∈fp,H6 b=none)/\H6 D=none/\s6.heap.get? D=some {cls:=.type "list",data:=.seq (List.toArray its) k}:=fun {s6 σ6 H6} I6=>by
    have pD:=I6.pin (D,_) (List.mem_append_right _ (List.mem_append_left _ (List.mem_append_right _ (bp (by simp) a3))))
    refine ⟨rebase (I6.jt fun p hp=>nomatch hp),T.keep _ _ _ st5 fun b hb o e=>(I6.pin (b,o) (List.mem_append_right _ (List.mem_append_right _ (bp hb e)))).1,fun b hb=>?_,pD.2.1,pD.1⟩
    obtain ⟨o,e,_⟩:=T.obj _ _ st5 b hb
    exact (I6.pin (b,o) (List.mem_append_right _ (List.mem_append_right _ (bp hb e)))).2.1
   refine bJ (hg C s2 H2 fp pins _ s5 _ H5 x u _ I5p r5 (step x H5 y5)) fun _ s6 ⟨σ6,H6,I6,q6⟩=>?_
   refine bJ (ht C s2 H2 fp pins _ s6 σ6 H6 _ I6 q6) fun b s7 ⟨H7,I7,q7⟩=>?_
   cases b with
   | false=>
    have q7':NN ys H7:=q7
    obtain ⟨m',hm,w7⟩:=hNN _ _ q7'
    obtain ⟨c1,c2,c3,c4,c5⟩:=cont I7
    exact ⟨m',hm,i+1,ys,its,k,H7,c1,c2,c3,c4,c5,v3,w7⟩
   | true=>
    refine bJ (he C s2 H2 fp pins _ s7 σ6 H7 _ I7 q7) fun v s8 ⟨y,H8,I8,r8,q8⟩=>?_
    obtain ⟨m',hm,w8⟩:=hNN _ _ q8
    obtain ⟨c1,c2,c3,c4,c5⟩:=cont I8
    refine wpAny_list_append_plain ⟨k,c5⟩ (fun h' hp hs=>?_) (by rw [List.size_toArray,<- v3.length];exact hz)
    obtain ⟨k',e'⟩:=hp
    obtain ⟨f0,f1,f2,f3,f4,f5⟩:=fpD c4
    refine ⟨m',hm,i+1,ys++[y],its++[v],k',H8,c1.turned (t':=s8.toks) (fun b o hb e=>(hs.2 b hb).trans e) f0 f1 f3 f4 f5,T.keep _ _ _ c2 fun b hb o e=>(hs.2 b fun z=>nD (z▸hb)).trans e,c3,c4,?_,v3.append (.cons r8 .nil),w8⟩
    show h'.get? D=_
    rw [e']
    simp
 exact codeAny_compStart_list loop (T.self X.A 0 {s2 with heap:=h4} _ _ (T.keep _ _ _ st fun b _ o e=>k24 b o e) loop)
end L2
namespace L2
open PySem PySem.Spec PyProof.Rows
section
variable {X:Cx} {own:List Str} {scope:Scope} {elt tg iter:Expr} {ifs:List Expr} {pos:Pos} {wi:TI} {g:TG} {tc:TT} {te:TE}
def sZ (n:Nat) (wi:TI) (g:TG) (tc:TT) (te:TE):TE:=fun σ H Q=>wi σ H fun J H1=>y9 n J g tc te σ H1 Q
theorem hE {sc:Scope} {N:List Str} (CS:cC sc N own scope):∀ x∈scope.names,x.2=.local->scope.names.lookup x.1=some .local:=fun x hx e=>by rw [CS.uniq x hx,e]
theorem wx (own:List Str) (CS:dm X.env.scope X.N own scope=true) (hc:X.calm=true) (hi:PI X tg iter wi) (hg:∀ C s2 H2 fp pins,PG (ax X own scope C s2 H2 fp pins) tg g)
  (ht:∀ C s2 H2 fp pins,yF (ax X own scope C s2 H2 fp pins) ifs tc) (he:∀ C s2 H2 fp pins,PE (ax X own scope C s2 H2 fp pins) elt te) (hs:∀ x,foldedSetIterable iter X.env x=pure x:=by intro _;rfl) :
  PE X (.ListComp elt [⟨tg,iter,ifs,0⟩] scope pos) (sZ own.length wi g tc te):=by
 intro pins s σ H Q I h
 have CS:=cC.of CS
 rw [eval_ListComp]
 refine wpAny_comprehension_free (use:=none) (g:=⟨tg,iter,ifs,0⟩) rfl hs (fm fun n hn=>I.ok.has n (CS.frees n hn)) CS.kind (hE CS) (bJ (hi pins s σ H _ I h) fun v s1 h1=>bJ h1 fun itv s2 h2=>?_)
 obtain ⟨it,fp,tn,J,H2,e,I2,T,st2,f2,hW⟩:=h2
 subst e
 refine jV (RR:=fun acc C=>compPost (model X.prog X.w) X.A X.xe none (EP X pins σ Q) acc C) I2 CS hc T st2 f2 hg ht he hW fun D C H' s' I' fC ⟨m,hn⟩ q _=>?_
 refine ⟨m,hn,fun h' hs'=>⟨.ref D,H',?_,rfl,q⟩⟩
 obtain ⟨f0,f1,_,f3,f4,f5⟩:=fC
 exact I'.turned (t':=s'.toks) (fun b o hb e=>(hs'.2 b hb).trans e) f0 f1 f3 f4 f5
theorem BN (own:List Str) {i:Nat} {x:Str} {pos' spos:Pos} (hN:X.N.Nodup) (hxi:X.N[i]?=some x) (hx:X.env.scope.names.lookup x=some .local) (CS:dm X.env.scope X.N own scope=true) (hc:X.calm=true) (hi:PI X tg iter wi) (hg:∀ C s2 H2 fp pins,PG (ax X own scope C s2 H2 fp pins) tg g)
  (ht:∀ C s2 H2 fp pins,yF (ax X own scope C s2 H2 fp pins) ifs tc) (he:∀ C s2 H2 fp pins,PE (ax X own scope C s2 H2 fp pins) elt te) (hs:∀ x,foldedSetIterable iter X.env x=pure x:=by intro _;rfl)
  (hsw:swapsWith (.ListComp elt [⟨tg,iter,ifs,0⟩] scope pos) (some (.Name x pos')) spos.line X.env=pure true:=by rfl) :
  PS X (.Assign [.Name x pos'] (.ListComp elt [⟨tg,iter,ifs,0⟩] scope pos) spos) (uY (sZ own.length wi g tc te) (ah i)):=by
 intro pins s σ H D I h
 have CS:=cC.of CS
 rw [exec_Assign_Name_used _ _ _ _ hsw]
 refine wpAny_bind (wpAny_standAt (wpAny_bind ?_))
 show wpAny _ X.A (do let _ <- comprehension (.ListComp elt [⟨tg,iter,ifs,0⟩] scope pos) scope X.env _ (newList []) false (eval iter X.env) (some (assign (.Name x pos') X.env))) _ _ s
 refine wpAny_bind (bJ (wpAny_comprehension_free (use:=some (assign (.Name x pos') X.env)) (Q:=fun _ s'=>SP X pins D .next s') (g:=⟨tg,iter,ifs,0⟩) rfl hs (fm fun n hn=>I.ok.has n (CS.frees n hn)) CS.kind (hE CS)
  (bJ (hi pins s σ H _ I h) fun v s1 h1=>bJ h1 fun itv s2 h2=>?_)) fun _ s' hq=>wpAny_pure (wpAny_pure hq))
 obtain ⟨it,fp,tn,J,H2,e,I2,T,st2,f2,hW⟩:=h2
 subst e
 refine jV (Q:=fun x H1=>ah i x σ H1 D.nx) (RR:=fun acc C=>compPost (model X.prog X.w) X.A X.xe (some (assign (.Name x pos') X.env)) (fun _ s'=>SP X pins D .next s') acc C) I2 CS hc T st2 f2 hg ht he hW fun Dl C H' s' I' fC ⟨m,hn⟩ q _=>?_
 show wpAny _ _ (assign (.Name x pos') X.env (.ref Dl)) _ _ s'
 refine wpAny_assign_Name (ju (v:=.ref Dl) I' hN hxi (.inl hx) rfl (fun s'' I'' hsb=>?_) (.inr hx))
 obtain ⟨f0,f1,f2',f3,f4,f5⟩:=fC
 obtain ⟨a,sb,ha⟩:=hsb
 have hCa:C≠a:=by
  rcases ha with e | e
  ·rw [e];exact f1
  ·exact (f4 x a e).symm
 refine ⟨m,hn.sameBut sb hCa,fun h' hs'=>⟨_,H',?_,q⟩⟩
 exact I''.turned (t':=s''.toks) (fun b o hb e=>(hs'.2 b hb).trans e) f0 f1 f3 f4 f5
theorem za (own N':List Str) {i:Nat} {x:Str} {pos' spos:Pos} (hN:X.N.Nodup) (hxi:X.N[i]?=some x) (hx:X.env.scope.names.lookup x=some .local) (HL:nr X.env.scope X.N N'=true) (CS:dm X.env.scope N' own scope=true) (hc:X.calm=true) (hi:PI X tg iter wi) (hg:∀ C s2 H2 fp pins,PG (ax (X.Bb N') own scope C s2 H2 fp pins) tg g)
  (ht:∀ C s2 H2 fp pins,yF (ax (X.Bb N') own scope C s2 H2 fp pins) ifs tc) (he:∀ C s2 H2 fp pins,PE (ax (X.Bb N') own scope C s2 H2 fp pins) elt te) (hs:∀ x,foldedSetIterable iter X.env x=pure x:=by intro _;rfl)
  (hsw:swapsWith (.ListComp elt [⟨tg,iter,ifs,0⟩] scope pos) (some (.Name x pos')) spos.line X.env=pure true:=by rfl) :
  PS X (.Assign [.Name x pos'] (.ListComp elt [⟨tg,iter,ifs,0⟩] scope pos) spos) (uY (sZ own.length wi g tc te) (ah i)):=by
 intro pins s σ H D I h
 have CS:=cC.of CS
 rw [exec_Assign_Name_used _ _ _ _ hsw]
 refine wpAny_bind (wpAny_standAt (wpAny_bind ?_))
 show wpAny _ X.A (do let _ <- comprehension (.ListComp elt [⟨tg,iter,ifs,0⟩] scope pos) scope X.env _ (newList []) false (eval iter X.env) (some (assign (.Name x pos') X.env))) _ _ s
 refine wpAny_bind (bJ (wpAny_comprehension_free (use:=some (assign (.Name x pos') X.env)) (Q:=fun _ s'=>SP X pins D .next s') (g:=⟨tg,iter,ifs,0⟩) rfl hs (fm fun n hn=>I.ok.has n (CS.frees n hn)) CS.kind (hE CS)
  (bJ (hi pins s σ H _ I h) fun v s1 h1=>bJ h1 fun itv s2 h2=>?_)) fun _ s' hq=>wpAny_pure (wpAny_pure hq))
 obtain ⟨it,fp,tn,J,H2,e,I2,T,st2,f2,hW⟩:=h2
 subst e
 refine jV (X:=X.Bb N') (Q:=fun x H1=>ah i x σ H1 D.nx) (RR:=fun acc C=>compPost (model X.prog X.w) X.A X.xe (some (assign (.Name x pos') X.env)) (fun _ s'=>SP X pins D .next s') acc C) (I2.Bb HL) CS hc T st2 f2 hg ht he hW fun Dl C H' s' _ fC ⟨m,hn⟩ q kp=>?_
 have I':Inv X pins σ H' s':=Kept.inv kp I2 f2
 show wpAny _ _ (assign (.Name x pos') X.env (.ref Dl)) _ _ s'
 refine wpAny_assign_Name (ju (v:=.ref Dl) I' hN hxi (.inl hx) rfl (fun s'' I'' hsb=>?_) (.inr hx))
 obtain ⟨f0,f1,f2',f3,f4,f5⟩:=fC
 obtain ⟨a,sb,ha⟩:=hsb
 have hCa:C≠a:=by
  rcases ha with e | e
  ·rw [e];exact f1
  ·exact (f4 x a e).symm
 refine ⟨m,hn.sameBut sb hCa,fun h' hs'=>⟨_,H',?_,q⟩⟩
 exact I''.turned (t':=s''.toks) (fun b o hb e=>(hs'.2 b hb).trans e) f0 f1 f3 f4 f5
end
section
variable {g:TG} {tc:TT} {te:TE} {σ:St} {H:Hp} {Q:VK} {n:Nat}
end
end L2
namespace L2
open PySem PySem.Spec PyProof.Rows
structure Nx (P:Program) (w:World) (i l:Addr) (st:Nat->Heap->Prop) (xs:List Value):Prop where
 obj:∀ k h,st k h->∃ o vs,h.get? i=some o/\o.data=.fields vs
 keep:∀ k h h',st k h->(∀ o,h.get? i=some o->h'.get? i=some o)->(∀ o,h.get? l=some o->h'.get? l=some o)->st k h'
 item:∀ (A:Around) k (s:Shared) x (Q:Value->Shared->Prop) (E:Value->Shared->Prop),st k s.heap->xs[k]?=some x->(∀ h',st (k+1) h'->Heap.SameBut i s.heap h'->Q x {s with heap:=h'}) ->
  wpAny (model P w) A (Builtin.SmallTypes.nextOf (.ref i)) Q E s
 done:∀ (A:Around) k (s:Shared) (Q:Value->Shared->Prop) (E:Value->Shared->Prop),A.handled=none->st k s.heap->xs[k]?=none ->
  (∀ h' e,Heap.ExtBut i s.heap h'->(∃ o,h'.get? e=some o/\o.cls=.type "StopIteration")->E (.ref e) {s with heap:=h'})->wpAny (model P w) A (Builtin.SmallTypes.nextOf (.ref i)) Q E s
section
variable {P:Program} {w:World} {A:Around} {E:Value->Shared->Prop} {s:Shared}
theorem tf {h:Heap} {i l:Addr} {k:Nat} {its:Array Value} (a:h.IsTupleIter i l k) (b:h.IsTuple l its):i≠l:=fun e=>by
 obtain ⟨o,h1,c1,_⟩:=a
 obtain ⟨o',h2,c2,_⟩:=b
 rw [e,h2] at h1;cases h1
 rw [c2] at c1
 exact absurd c1 (by decide)
theorem vf {it t:Addr} {k:Nat} {its:Array Value} {x:Value} {Q:Value->Shared->Prop} (a:s.heap.IsTupleIter it t k) (b:s.heap.IsTuple t its) (hx:its[k]?=some x)
  (q:∀ h',h'.IsTupleIter it t (k+1)->Heap.SameBut it s.heap h'->Q x {s with heap:=h'}):wpAny (model P w) A (Builtin.SmallTypes.nextOf (.ref it)) Q E s:=by
 obtain ⟨oi,gi,ci,di⟩:=id a
 obtain ⟨ot,gt,_,nt,dt⟩:=b
 unfold Builtin.SmallTypes.nextOf
 refine wpAny_bind (wpAny_callSpecial?_slot (name:=Str.ofString "__next__") a.typeIs F.slot_tuple_iterator_next (wpAny_call_entry F.slot_tuple_iterator_next a.typeIs F.entry_tuple_iterator_next ?_ (F.args_tuple_iterator_next_1 _)))
 show wpAny _ _ (field (Value.ref it) 0 >>= _) _ _ s
 refine wpAny_bind (wpAny_field (x:=Value.ref t) gi di rfl ?_)
 rw [if_neg (show ¬ (Value.ref t == Value.none)=true from Bool.false_ne_true)]
 show wpAny _ _ (field (Value.ref it) 1 >>= _) _ _ s
 refine wpAny_bind (wpAny_field (x:=Value.int k 0) gi di rfl ?_)
 show wpAny _ _ (seqItems? (Value.ref t) >>= _) _ _ s
 refine wpAny_bind (wpAny_seqItems gt dt ?_)
 simp only [hx,Int.toNat_natCast]
 refine wpAny_bind (wpAny_setField gi di (by simp) (wpAny_pure ⟨x,rfl,wpAny_pure (q _ ⟨_,Heap.get?_update_self _ gi (Obj.isFreed_of_fields (Obj.data_mapFields di _)),(Obj.cls_mapFields ..).trans ci,?_⟩ (Heap.SameBut.update ..))⟩))
 rw [Obj.data_mapFields di]
 simp [rawInt]
theorem nN {it t:Addr} {k:Nat} {its:Array Value} {Q:Value->Shared->Prop} (hh:A.handled=none) (a:s.heap.IsTupleIter it t k) (b:s.heap.IsTuple t its) (hx:its[k]?=none)
  (q:∀ h' e,Heap.ExtBut it s.heap h'->(∃ o,h'.get? e=some o/\o.cls=.type "StopIteration")->E (.ref e) {s with heap:=h'}):wpAny (model P w) A (Builtin.SmallTypes.nextOf (.ref it)) Q E s:=by
 obtain ⟨oi,gi,ci,di⟩:=id a
 obtain ⟨ot,gt,_,nt,dt⟩:=b
 unfold Builtin.SmallTypes.nextOf
 refine wpAny_bind (wpAny_callSpecial?_slot (name:=Str.ofString "__next__") a.typeIs F.slot_tuple_iterator_next (wpAny_call_entry F.slot_tuple_iterator_next a.typeIs F.entry_tuple_iterator_next ?_ (F.args_tuple_iterator_next_1 _)))
 show wpAny _ _ (field (Value.ref it) 0 >>= _) _ _ s
 refine wpAny_bind (wpAny_field (x:=Value.ref t) gi di rfl ?_)
 rw [if_neg (show ¬ (Value.ref t == Value.none)=true from Bool.false_ne_true)]
 show wpAny _ _ (field (Value.ref it) 1 >>= _) _ _ s
 refine wpAny_bind (wpAny_field (x:=Value.int k 0) gi di rfl ?_)
 show wpAny _ _ (seqItems? (Value.ref t) >>= _) _ _ s
 refine wpAny_bind (wpAny_seqItems gt dt ?_)
 simp only [hx,Int.toNat_natCast]
 refine wpAny_bind (wpAny_rule (wpAny_bind (wpAny_setField gi di (by simp) ?_)))
 show wpAny _ _ (newExc (Value.type "StopIteration") [] >>= _) _ _ _
 refine wpAny_bind ?_
 simp only [newTuple,newExc]
 refine wpAny_bind (wpAny_newObj_type ?_ (by size_fits))
 refine wpAny_bind (m:=firstArgMember _ _) (wpAny_of_eq (a:=Value.none) (by first | rfl | (unfold firstArgMember;rfl)) ?_)
 refine wpAny_newObj_type ?_ (by size_fits)
 unfold raiseNew
 refine wpAny_bind (wpAny_handled ?_)
 rw [show A.in1.handled=none from hh]
 exact wpAny_bind (wpAny_pure (wpAny_throw (q _ _ (((Heap.SameBut.update ..).extBut.push _).push _) ⟨_,Heap.get?_push_size _ rfl,rfl⟩)))
theorem eK (i l:Addr) (xs:List Value):Nx P w i l (fun k h=>h.IsTupleIter i l k/\h.IsTuple l xs.toArray) xs where
 obj:=fun k h ⟨⟨o,a,_,c⟩,_⟩=>⟨o,_,a,c⟩
 keep:=fun k h h' ⟨a,b⟩ k1 k2=>⟨a.at k1,let ⟨o,e,r⟩:=b;⟨o,k2 o e,r⟩⟩
 item:=fun A k s x Q E ⟨a,b⟩ hx q=>vf a b (by simpa using hx) fun h' a' sb=>q h' ⟨a',let ⟨o,e,r⟩:=b;⟨o,(sb.2 l (tf a b).symm).trans e,r⟩⟩ sb
 done:=fun A k s Q E hh ⟨a,b⟩ hx q=>nN hh a b (by simpa using hx) q
structure ZA (z TI TO i1 i2 l1 l2:Addr):Prop where
 a1:TI≠z
 a2:TO≠z
 a3:i1≠z
 a4:i2≠z
 a5:TI≠TO
 a6:TI≠i1
 a7:TI≠i2
 a8:TO≠i1
 a9:TO≠i2
 b1:i1≠i2
 b2:l1≠z
 b3:l1≠TO
 b4:l1≠i2
 b5:l2≠z
 b6:l2≠TO
 b7:l2≠i1
variable {st1 st2:Nat->Heap->Prop} {xs ys:List Value} {z TI TO i1 i2 l1 l2:Addr} {k:Nat} {a b:Value}
theorem ak {h h':Heap} {c d:Addr} {o:Obj} (sb:Heap.SameBut c h h') (ne:d≠c) (e:h.get? d=some o):h'.get? d=some o:=(sb.2 d ne).trans e
theorem tm (D:ZA z TI TO i1 i2 l1 l2) (N1:Nx P w i1 l1 st1 xs) (N2:Nx P w i2 l2 st2 ys) {x y:Value} {Q:Value->Shared->Prop} (hz:IsZip s.heap z TI TO .none) (hI:IsPair s.heap TI (.ref i1) (.ref i2)) (hO:IsPair s.heap TO a b)
  (s1:st1 k s.heap) (s2:st2 k s.heap) (hx:xs[k]?=some x) (hy:ys[k]?=some y)
  (q:∀ h',IsZip h' z TI TO (rawInt s.heap.objs.size)->IsPair h' TO x y->st1 (k+1) h'->st2 (k+1) h'->IsPair h' s.heap.objs.size x y ->
   (∀ c o,c≠z->c≠TO->c≠i1->c≠i2->s.heap.get? c=some o->h'.get? c=some o)->Q (.ref s.heap.objs.size) {s with heap:=h'}) :
  wpAny (model P w) A (Builtin.«zip.__next__» ⟨[.ref z],[]⟩) (fun fin s'=>∃ v,fin=.done (.ret v)/\Q v s') E s:=by
 show wpAny _ _ (field (Value.ref z) 2 >>= _) _ _ _
 refine wpAny_bind (wpAny_field (x:=Value.bool false) hz rfl rfl ?_)
 show wpAny _ _ (field (Value.ref z) 3 >>= _) _ _ _
 refine wpAny_bind (wpAny_field (x:=Value.ref TI) hz rfl rfl ?_)
 refine wpAny_bind (wpAny_seqItems hI rfl ?_)
 show wpAny _ _ (Builtin.SmallTypes.ownedTupleIsFree (Value.ref z) >>= _) _ _ _
 refine wpAny_bind ?_
 unfold Builtin.SmallTypes.ownedTupleIsFree
 refine wpAny_bind (wpAny_field (x:=Value.none) hz rfl rfl (wpAny_pure ?_))
 simp only [if_true]
 refine wpAny_bind (wpAny_rule (wpAny_bind (wpAny_field (x:=Value.ref TO) hz rfl rfl ?_)))
 refine wpAny_bind (wpAny_setField_rec hz (by simp) fun g1 z1 e1=>?_)
 have z1:IsZip g1 z TI TO .ellipsis:=z1
 refine wpAny_bind ?_
 simp only [List.zipIdx_nil,List.zipIdx_cons,List.forIn_nil,List.forIn_cons]
 refine wpAny_bind (wpAny_bind (wpAny_onRaise ?_))
 show wpAny _ _ (Builtin.SmallTypes.nextOf (Value.ref i1) >>= _) _ _ _
 refine wpAny_bind (N1.item _ k _ x _ _ (N1.keep _ _ _ s1 (fun o=>ak e1 D.a3) fun o=>ak e1 D.b2) hx fun g2 t1 e2=>wpAny_pure ?_)
 have O2:IsPair g2 TO a b:=ak e2 D.a8 (ak e1 D.a2 hO)
 refine wpAny_bind (wpAny_seqItems O2 rfl (wpAny_bind (wpAny_updateSeq_pair O2 fun g3 O3 e3=>?_)))
 have O3:IsPair g3 TO x b:=O3
 refine wpAny_bind (wpAny_letGo (wpAny_pure (wpAny_bind (wpAny_bind (wpAny_onRaise ?_)))))
 show wpAny _ _ (Builtin.SmallTypes.nextOf (Value.ref i2) >>= _) _ _ _
 refine wpAny_bind (N2.item _ k _ y _ _ (N2.keep _ _ _ s2 (fun o e=>ak e3 D.a9.symm (ak e2 D.b1.symm (ak e1 D.a4 e))) fun o e=>ak e3 D.b6 (ak e2 D.b7 (ak e1 D.b5 e))) hy fun g4 t2 e4=>wpAny_pure ?_)
 have O4:IsPair g4 TO x b:=ak e4 D.a9 O3
 refine wpAny_bind (wpAny_seqItems O4 rfl (wpAny_bind (wpAny_updateSeq_pair O4 fun g5 O5 e5=>?_)))
 have O5:IsPair g5 TO x y:=O5
 refine wpAny_bind (wpAny_letGo (wpAny_pure (wpAny_pure (wpAny_bind (wpAny_seqItems O5 rfl (wpAny_bind (wpAny_newTuple ?_)))))))
 have sz:g5.objs.size=s.heap.objs.size:=by rw [e5.1,e4.1,e3.1,e2.1,e1.1]
 have z5:IsZip g5 z TI TO .ellipsis:=ak e5 D.a2.symm (ak e4 D.a4.symm (ak e3 D.a2.symm (ak e2 D.a3.symm z1)))
 have zlt:z < g5.objs.size:=Heap.lt_size z5
 have u1:st1 (k+1) g5:=N1.keep _ _ _ t1 (fun o e=>ak e5 D.a8.symm (ak e4 D.b1 (ak e3 D.a8.symm e))) fun o e=>ak e5 D.b3 (ak e4 D.b4 (ak e3 D.b3 e))
 have u2:st2 (k+1) g5:=N2.keep _ _ _ t2 (fun o e=>ak e5 D.a9.symm e) fun o e=>ak e5 D.b6 e
 show wpAny _ _ (Builtin.SmallTypes.ownedTupleHandOut (Value.ref z) (.ref g5.objs.size) >>= _) _ _ _
 refine wpAny_bind ?_
 unfold Builtin.SmallTypes.ownedTupleHandOut
 have z6:IsZip (g5.push {cls:=.type "tuple",data:=.seq #[x,y]}) z TI TO .ellipsis:=Heap.get?_push_of_some _ z5
 refine wpAny_bind (wpAny_setField_rec z6 (by simp) fun g7 z7 e7=>?_)
 have z7:IsZip g7 z TI TO (rawInt g5.objs.size):=z7
 refine wpAny_setField_rec z7 (by simp) fun g8 z8 e8=>?_
 have z8:IsZip g8 z TI TO (rawInt g5.objs.size):=z8
 have up:∀ c o,c≠z->g5.get? c=some o->g8.get? c=some o:=fun c o n e=>ak e8 n (ak e7 n (Heap.get?_push_of_some _ e))
 have nw:IsPair g8 g5.objs.size x y:=ak e8 (Nat.ne_of_gt zlt) (ak e7 (Nat.ne_of_gt zlt) (Heap.get?_push_size _ rfl))
 rw [sz] at z8 nw
 refine wpAny_pure ⟨_,rfl,?_⟩
 show Q (.ref g5.objs.size) _
 rw [sz]
 exact q g8 z8 (up _ _ D.a2 O5) (N1.keep _ _ _ u1 (fun o=>up _ o D.a3) fun o=>up _ o D.b2) (N2.keep _ _ _ u2 (fun o=>up _ o D.a4) fun o=>up _ o D.b5) nw fun c o n1 n2 n3 n4 e=>
  up c o n1 (ak e5 n2 (ak e4 n4 (ak e3 n2 (ak e2 n3 (ak e1 n1 e)))))
theorem wy (hh:A.handled=none) (D:ZA z TI TO i1 i2 l1 l2) (N1:Nx P w i1 l1 st1 xs) (N2:Nx P w i2 l2 st2 ys) {Q:PySem.Fin->Shared->Prop} (hz:IsZip s.heap z TI TO .none) (hI:IsPair s.heap TI (.ref i1) (.ref i2)) (hO:IsPair s.heap TO a b)
  (s1:st1 k s.heap) (s2:st2 k s.heap) (hend:xs[k]?=none\/ys[k]?=none)
  (q:∀ h' e,(∀ c o,c≠z->c≠TO->c≠i1->c≠i2->s.heap.get? c=some o->h'.get? c=some o)->(∃ o,h'.get? e=some o/\o.cls=.type "StopIteration")->E (.ref e) {s with heap:=h'}) :
  wpAny (model P w) A (Builtin.«zip.__next__» ⟨[.ref z],[]⟩) Q E s:=by
 show wpAny _ _ (field (Value.ref z) 2 >>= _) _ _ _
 refine wpAny_bind (wpAny_field (x:=Value.bool false) hz rfl rfl ?_)
 show wpAny _ _ (field (Value.ref z) 3 >>= _) _ _ _
 refine wpAny_bind (wpAny_field (x:=Value.ref TI) hz rfl rfl ?_)
 refine wpAny_bind (wpAny_seqItems hI rfl ?_)
 show wpAny _ _ (Builtin.SmallTypes.ownedTupleIsFree (Value.ref z) >>= _) _ _ _
 refine wpAny_bind ?_
 unfold Builtin.SmallTypes.ownedTupleIsFree
 refine wpAny_bind (wpAny_field (x:=Value.none) hz rfl rfl (wpAny_pure ?_))
 simp only [if_true]
 refine wpAny_bind (wpAny_rule (wpAny_bind (wpAny_field (x:=Value.ref TO) hz rfl rfl ?_)))
 refine wpAny_bind (wpAny_setField_rec hz (by simp) fun g1 z1 e1=>?_)
 have z1:IsZip g1 z TI TO .ellipsis:=z1
 refine wpAny_bind ?_
 simp only [List.zipIdx_nil,List.zipIdx_cons,List.forIn_nil,List.forIn_cons]
 refine wpAny_bind (wpAny_bind (wpAny_onRaise ?_))
 show wpAny _ _ (Builtin.SmallTypes.nextOf (Value.ref i1) >>= _) _ _ _
 have t1:st1 k g1:=N1.keep _ _ _ s1 (fun o=>ak e1 D.a3) fun o=>ak e1 D.b2
 cases hx:xs[k]? with
 | none=>
  refine wpAny_bind (N1.done _ k _ _ _ hh t1 hx fun g2 e e2 ⟨oe,he,ce⟩=>?_)
  have z2:IsZip g2 z TI TO .ellipsis:=e2 _ _ D.a3.symm z1
  have ne:e≠z:=fun r=>by
   rw [r,z2] at he
   cases he
   exact absurd (show Value.type "zip" = Value.type "StopIteration" from ce) (by decide)
  exact wpAny_setField_rec z2 (by simp) fun g3 _ e3=>q g3 e (fun c o n1 _ n3 _ r=>ak e3 n1 (e2 _ _ n3 (ak e1 n1 r))) ⟨oe,ak e3 ne he,ce⟩
 | some x=>
  have hy:ys[k]?=none:=by
   rcases hend with r | r
   ·rw [hx] at r;cases r
   ·exact r
  refine wpAny_bind (N1.item _ k _ x _ _ t1 hx fun g2 t1 e2=>wpAny_pure ?_)
  have O2:IsPair g2 TO a b:=ak e2 D.a8 (ak e1 D.a2 hO)
  refine wpAny_bind (wpAny_seqItems O2 rfl (wpAny_bind (wpAny_updateSeq_pair O2 fun g3 O3 e3=>?_)))
  refine wpAny_bind (wpAny_letGo (wpAny_pure (wpAny_bind (wpAny_bind (wpAny_onRaise ?_)))))
  show wpAny _ _ (Builtin.SmallTypes.nextOf (Value.ref i2) >>= _) _ _ _
  refine wpAny_bind (N2.done _ k _ _ _ hh (N2.keep _ _ _ s2 (fun o e=>ak e3 D.a9.symm (ak e2 D.b1.symm (ak e1 D.a4 e))) fun o e=>ak e3 D.b6 (ak e2 D.b7 (ak e1 D.b5 e))) hy fun g4 e e4 ⟨oe,he,ce⟩=>?_)
  have z4:IsZip g4 z TI TO .ellipsis:=e4 _ _ D.a4.symm (ak e3 D.a2.symm (ak e2 D.a3.symm z1))
  have ne:e≠z:=fun r=>by
   rw [r,z4] at he
   cases he
   exact absurd (show Value.type "zip" = Value.type "StopIteration" from ce) (by decide)
  exact wpAny_setField_rec z4 (by simp) fun g5 _ e5=>q g5 e (fun c o n1 n2 n3 n4 r=>ak e5 n1 (e4 _ _ n4 (ak e3 n2 (ak e2 n3 (ak e1 n1 r))))) ⟨oe,ak e5 ne he,ce⟩
end
end L2
namespace L2
open PySem PySem.Spec PyProof.Rows
section
variable {P:Program} {w:World} {A:Around} {E:Value->Shared->Prop} {s:Shared}
structure EC (h h':Heap) (l1 l2:Addr):Prop where
 z:IsZip h' (h.objs.size+4) (h.objs.size+2) (h.objs.size+3) .none
 ti:IsPair h' (h.objs.size+2) (.ref h.objs.size) (.ref (h.objs.size+1))
 to:IsPair h' (h.objs.size+3) .none .none
 i1:h'.IsTupleIter h.objs.size l1 0
 i2:h'.IsTupleIter (h.objs.size+1) l2 0
 sz:h'.objs.size=h.objs.size+5
 keep:∀ c o,h.get? c=some o->h'.get? c=some o
abbrev jL (h:Heap) (u:Addr):Heap:=h.push {cls:=.type "tuple_iterator",data:=.fields #[.ref u,.int 0 0]}
abbrev Dp (h:Heap) (a b:Addr):Heap:=h.push {cls:=.type "tuple",data:=.seq #[.ref a,.ref b]}
abbrev Gz (h:Heap):Heap:=h.push {cls:=.type "tuple",data:=.seq #[.none,.none]}
abbrev Kg (h:Heap) (a b:Addr):Heap:=h.push {cls:=.type "zip",data:=.fields #[.none,.bool false,.bool false,.ref a,.ref b]}
abbrev vg (h:Heap) (l1 l2:Addr):Heap:=Kg (Gz (Dp (jL (jL h l1) l2) h.objs.size (jL h l1).objs.size)) (jL (jL h l1) l2).objs.size (Dp (jL (jL h l1) l2) h.objs.size (jL h l1).objs.size).objs.size
theorem zb (h:Heap) (l1 l2:Addr):EC h (vg h l1 l2) l1 l2:=by
 have e1:(jL h l1).objs.size=h.objs.size+1:=Heap.size_push ..
 have e2:(jL (jL h l1) l2).objs.size=h.objs.size+2:=by rw [Heap.size_push,e1]
 have e3:(Dp (jL (jL h l1) l2) h.objs.size (jL h l1).objs.size).objs.size=h.objs.size+3:=by rw [Heap.size_push,e2]
 have e4:(Gz (Dp (jL (jL h l1) l2) h.objs.size (jL h l1).objs.size)).objs.size=h.objs.size+4:=by rw [Heap.size_push,e3]
 have p5:(vg h l1 l2).get? (Gz (Dp (jL (jL h l1) l2) h.objs.size (jL h l1).objs.size)).objs.size=some _:=Heap.get?_push_size _ rfl
 have p4:(vg h l1 l2).get? (Dp (jL (jL h l1) l2) h.objs.size (jL h l1).objs.size).objs.size=some _:=Heap.get?_push_of_some _ (Heap.get?_push_size _ rfl)
 have p3:(vg h l1 l2).get? (jL (jL h l1) l2).objs.size=some _:=Heap.get?_push_of_some _ (Heap.get?_push_of_some _ (Heap.get?_push_size _ rfl))
 have p2:(vg h l1 l2).get? (jL h l1).objs.size=some _:=Heap.get?_push_of_some _ (Heap.get?_push_of_some _ (Heap.get?_push_of_some _ (Heap.get?_push_size _ rfl)))
 have p1:(vg h l1 l2).get? h.objs.size=some _:=Heap.get?_push_of_some _ (Heap.get?_push_of_some _ (Heap.get?_push_of_some _ (Heap.get?_push_of_some _ (Heap.get?_push_size _ rfl))))
 rw [e2,e3,e4] at p5
 rw [e3] at p4
 rw [e2,e1] at p3
 rw [e1] at p2
 exact ⟨p5,p3,p4,⟨_,p1,rfl,rfl⟩,⟨_,p2,rfl,rfl⟩,by rw [Heap.size_push,e4],fun c o e=>Heap.get?_push_of_some _ (Heap.get?_push_of_some _ (Heap.get?_push_of_some _ (Heap.get?_push_of_some _ (Heap.get?_push_of_some _ e))))⟩
theorem tp (l1 l2:Addr) (xs ys:Array Value) :
  Meets (Builtin.«zip.__new__» ⟨[.type "zip",.ref l1,.ref l2],[]⟩) (fun _ R s=>s.heap.IsTuple l1 xs/\s.heap.IsTuple l2 ys/\R (.ok (.ret (.ref (Gz (Dp (jL (jL s.heap l1) l2) s.heap.objs.size (jL s.heap l1).objs.size)).objs.size))) {s with heap:=vg s.heap l1 l2}):=
 .of_wp fun prog w A R s h=>by
  obtain ⟨hp,g,d,tk,os⟩:=s
  obtain ⟨t1,t2,h⟩:=h
  have hsub:=sub_zip
  have T1:Heap.IsTuple (Shared.heap ⟨hp,g,d,tk,os⟩) l1 xs:=t1
  have T2:Heap.IsTuple (Shared.heap ⟨hp.push {cls:=.type "tuple_iterator",data:=.fields #[.ref l1,.int 0 0]},g,d,tk,os⟩) l2 ys:=Heap.IsTuple.push t2 _
  wp_walk using wpAny_pyIter_tuple T1,wpAny_pyIter_tuple T2
  exact ⟨_,rfl,h⟩
theorem kF {l1 l2:Addr} {xs ys:Array Value} {Q:Value->Shared->Prop} (t1:s.heap.IsTuple l1 xs) (t2:s.heap.IsTuple l2 ys) (q:∀ h',EC s.heap h' l1 l2->Q (.ref (s.heap.objs.size+4)) {s with heap:=h'}) :
  wpAny (model P w) A (call (.type "zip") [.ref l1,.ref l2]) Q E s:=by
 refine callType_new F.called_zip (by decide) (F.typeCall_zip_2 _ _) (F.newCall_zip_2 _ _) (fun obj=>F.args_object_init_3 obj _ _) F.entry_zip_new (tp l1 l2 xs ys) ⟨t1,t2,?_⟩
 have n:=zb s.heap l1 l2
 have e4:(Gz (Dp (jL (jL s.heap l1) l2) s.heap.objs.size (jL s.heap l1).objs.size)).objs.size=s.heap.objs.size+4:=by
  have:=n.sz
  rw [Heap.size_push] at this
  omega
 show _/\_
 rw [e4]
 exact ⟨⟨_,n.z,rfl⟩,q _ n⟩
theorem pU {z TI TO i1 i2 l1 l2:Addr} {k:Nat} {xs ys:List Value} {x y a b:Value} {Q:Option Value->Shared->Prop} (D:ZA z TI TO i1 i2 l1 l2) (hz:IsZip s.heap z TI TO .none) (hI:IsPair s.heap TI (.ref i1) (.ref i2)) (hO:IsPair s.heap TO a b)
  (t1:s.heap.IsTupleIter i1 l1 k) (t2:s.heap.IsTupleIter i2 l2 k) (h1:s.heap.IsTuple l1 xs.toArray) (h2:s.heap.IsTuple l2 ys.toArray) (hx:xs[k]?=some x) (hy:ys[k]?=some y)
  (q:∀ h',IsZip h' z TI TO (rawInt s.heap.objs.size)->IsPair h' TO x y->h'.IsTupleIter i1 l1 (k+1)->h'.IsTupleIter i2 l2 (k+1)->IsPair h' s.heap.objs.size x y ->
   (∀ c o,c≠z->c≠TO->c≠i1->c≠i2->s.heap.get? c=some o->h'.get? c=some o)->Q (some (.ref s.heap.objs.size)) {s with heap:=h'}):wpAny (model P w) A (pyNext (.ref z)) Q E s:=by
 have hT:s.TypeIs (.ref z) "zip" := ⟨_,hz,rfl⟩
 unfold pyNext
 refine wpAny_bind (wpAny_attempt (wpAny_callSpecial?_slot (name:=Str.ofString "__next__") hT F.slot_zip_next (wpAny_call_entry F.slot_zip_next hT F.entry_zip_next ?_ (F.args_zip_next_1 _))))
 exact tm D (eK i1 l1 xs) (eK i2 l2 ys) hz hI hO ⟨t1,h1⟩ ⟨t2,h2⟩ hx hy fun h' a1 a2 a3 a4 a5 a6=>wpAny_pure (q h' a1 a2 a3.1 a4.1 a5 a6)
theorem rG {z TI TO i1 i2 l1 l2:Addr} {k:Nat} {xs ys:List Value} {a b:Value} {Q:Option Value->Shared->Prop} (hh:A.handled=none) (D:ZA z TI TO i1 i2 l1 l2) (hz:IsZip s.heap z TI TO .none) (hI:IsPair s.heap TI (.ref i1) (.ref i2)) (hO:IsPair s.heap TO a b)
  (t1:s.heap.IsTupleIter i1 l1 k) (t2:s.heap.IsTupleIter i2 l2 k) (h1:s.heap.IsTuple l1 xs.toArray) (h2:s.heap.IsTuple l2 ys.toArray) (hend:xs[k]?=none\/ys[k]?=none)
  (q:∀ h',(∀ c o,c≠z->c≠TO->c≠i1->c≠i2->s.heap.get? c=some o->h'.get? c=some o)->Q none {s with heap:=h'}):wpAny (model P w) A (pyNext (.ref z)) Q E s:=by
 have hT:s.TypeIs (.ref z) "zip" := ⟨_,hz,rfl⟩
 unfold pyNext
 refine wpAny_bind (wpAny_attempt (wpAny_callSpecial?_slot (name:=Str.ofString "__next__") hT F.slot_zip_next (wpAny_call_entry F.slot_zip_next hT F.entry_zip_next ?_ (F.args_zip_next_1 _))))
 refine wy (A:=A.in1) hh D (eK i1 l1 xs) (eK i2 l2 ys) hz hI hO ⟨t1,h1⟩ ⟨t2,h2⟩ hend fun h' e hk ⟨o,ho,hc⟩=>?_
 exact wpAny_bind (wpAny_isInstance (T := "StopIteration") (b:=true) ⟨o,ho,hc⟩ isSubtype_stop (wpAny_pure (q _ hk)))
end
def JI (K:PySem.W.Frag) (a1 a2:Addr):It:=
 ⟨fun i H=>∃ xs ys x y,eZ K H a1 xs/\eZ K H a2 ys/\xs[i]?=some x/\ys[i]?=some y,
  fun i H v H'=>∃ p x y,v=.ref p/\H p=none/\H'=upd H p (.tup [x,y])/\(∀ xs,eZ K H a1 xs->xs[i]?=some x)/\∀ ys,eZ K H a2 ys->ys[i]?=some y,
  fun i H=>∃ xs ys,eZ K H a1 xs/\eZ K H a2 ys/\(xs.length<=i\/ys.length<=i)⟩
theorem zc {P:Program} {w:World} {K:PySem.W.Frag} {es:List Expr} {kk:_} {tpos:Pos} (a1 a2 z TI TO i1 i2:Addr) (D:ZA z TI TO i1 i2 a1 a2):Turn P w K (.Tuple es kk tpos) (JI K a1 a2) [z,TI,TO,i1,i2] z
  (fun k h=>IsZip h z TI TO .none/\IsPair h TI (.ref i1) (.ref i2)/\(∃ a b,IsPair h TO a b)/\h.IsTupleIter i1 a1 k/\h.IsTupleIter i2 a2 k) where
 mem:=List.mem_cons_self
 obj:=fun k h st b hb=>by
  obtain ⟨hz,hI,⟨a,c,hO⟩,⟨o1,e1,_,d1⟩,⟨o2,e2,_,d2⟩⟩:=st
  simp only [List.mem_cons,List.not_mem_nil,or_false] at hb
  rcases hb with rfl | rfl | rfl | rfl | rfl
  ·exact ⟨_,hz,fun v r=>by cases r⟩
  ·exact ⟨_,hI,fun v r=>by cases r⟩
  ·exact ⟨_,hO,fun v r=>by cases r⟩
  ·exact ⟨_,e1,fun v r=>by rw [d1] at r;cases r⟩
  ·exact ⟨_,e2,fun v r=>by rw [d2] at r;cases r⟩
 keep:=fun k h h' st kp=>by
  obtain ⟨hz,hI,⟨a,c,hO⟩,t1,t2⟩:=st
  exact ⟨kp z (by simp) _ hz,kp TI (by simp) _ hI,⟨a,c,kp TO (by simp) _ hO⟩,t1.at (kp i1 (by simp)),t2.at (kp i2 (by simp))⟩
 item:=by
  intro X hP hw hK hc i pins s σ H E I hf st hg
  subst hP hw hK
  obtain ⟨xs,ys,x,y,q1,q2,hx,hy⟩:=hg
  obtain ⟨its1,r1,p1,_⟩:=I.tuple q1
  obtain ⟨its2,r2,p2,_⟩:=I.tuple q2
  obtain ⟨u1,hu1,ru1⟩:=r1.get hx
  obtain ⟨u2,hu2,ru2⟩:=r2.get hy
  obtain ⟨hz,hI,⟨a,c,hO⟩,t1,t2⟩:=st
  refine pU D hz hI hO t1 t2 (show s.heap.IsTuple a1 its1.toArray from p1) (show s.heap.IsTuple a2 its2.toArray from p2) hu1 hu2 fun h' z' o' t1' t2' nw kp=>?_
  refine ⟨_,rfl,wpAny_letOwnedTupleGo_zip z' fun h2 z2 sb=>?_⟩
  have lt:∀ {b:Addr} {o:Obj},s.heap.get? b=some o->b≠s.heap.objs.size:=fun e=>Nat.ne_of_lt (Heap.lt_size e)
  have nz:s.heap.objs.size≠z:=(lt hz).symm
  have hf0:H s.heap.objs.size=none:=I.hok.fresh (Nat.le_refl _)
  have hI2:IsPair h2 TI (.ref i1) (.ref i2):=ak sb D.a1 (kp _ _ D.a1 D.a5 D.a6 D.a7 hI)
  have kall:∀ b o,b∉[z,TI,TO,i1,i2]->s.heap.get? b=some o->h2.get? b=some o:=fun b o hb e=>by
   simp only [List.mem_cons,List.not_mem_nil,or_false,not_or] at hb
   exact ak sb hb.1 (kp b o hb.1 hb.2.2.1 hb.2.2.2.1 hb.2.2.2.2 e)
  have xK:∀ {b:Addr} {u:HO},H b=some u->b∉[z,TI,TO,i1,i2]:=fun {b u} e hb=>by
   rw [(hf b hb).1] at e;cases e
  have there:∀ b o,s.heap.get? b=some o->∃ o',h2.get? b=some o':=fun b o e=>by
   by_cases hb:b∈[z,TI,TO,i1,i2]
   ·simp only [List.mem_cons,List.not_mem_nil,or_false] at hb
    rcases hb with rfl | rfl | rfl | rfl | rfl
    ·exact ⟨_,z2⟩
    ·exact ⟨_,hI2⟩
    ·exact ⟨_,ak sb D.a2 o'⟩
    ·obtain ⟨_,e1,_⟩:=t1'
     exact ⟨_,ak sb D.a3 e1⟩
    ·obtain ⟨_,e1,_⟩:=t2'
     exact ⟨_,ak sb D.a4 e1⟩
   ·exact ⟨o,kall b o hb e⟩
  have hokN:iP X.prog X.w (upd H s.heap.objs.size (.tup [x,y])) h2:=fun b u e=>by
   by_cases hb:b=s.heap.objs.size
   ·subst hb
    rw [bo] at e
    cases e
    exact ⟨by show 2<=sizeLine;decide,[u1,u2],.cons ru1 (.cons ru2 .nil),⟨_,ak sb nz nw,rfl,_,rfl⟩⟩
   ·rw [aC hb] at e
    refine (I.hok b u e).pN (fun d v hd r=>kall d v ?_ r) (fun d r=>by rw [aC (aG r hf0)];exact r) fun d vs r=>by rw [aC (aG r hf0)];exact r
    rcases hd with rfl | hd
    ·exact xK e
    ·exact xK hd
  have I2:Inv X pins σ (upd H s.heap.objs.size (.tup [x,y])) {s with heap:=h2}:=by
   refine I.step (g':=s.gens) (d':=s.drawn) (t':=s.toks) (ch:=[z,TI,TO,i1,i2]) (fun b hb=>⟨(hf b hb).2.2.2.1,(hf b hb).2.1,(hf b hb).2.2.2.2.1,(hf b hb).2.2.2.2.2⟩) (fun b o _ _ hb e _=>kall b o hb e) (fun b o _ _ hb e _=>⟨o.slots,kall b o hb e⟩)
    (fun b o _ e n=>by rw [aC (lt e)];exact n) (fun b o _ e=>there b o e) (fun b vs e=>by rw [aC (aG e hf0)];exact e) (fun b o v e=>by rw [aC (aG e hf0)];exact e) (fun b ps e=>⟨#[],by rw [aC (aG e hf0),e];simp⟩) (fun m hm=>?_) hokN I.bare
   obtain ⟨o,es',ep,e,r⟩:=hm
   exact ⟨o,es',ep,kall _ o (fun hb=>(hf _ hb).2.1 rfl) e,r⟩
  refine ⟨.ref s.heap.objs.size,_,I2,rfl,⟨_,x,y,rfl,hf0,rfl,fun vs h=>by rw [I.lV h q1];exact hx,fun vs h=>by rw [I.lV h q2];exact hy⟩,⟨z2,hI2,⟨_,_,ak sb D.a2 o'⟩,t1'.at fun o e=>ak sb D.a3 e,t2'.at fun o e=>ak sb D.a4 e⟩,fun b hb=>?_⟩
  have hb':=(hf b hb).1
  by_cases e:b=s.heap.objs.size
  ·exfalso
   simp only [List.mem_cons,List.not_mem_nil,or_false] at hb
   rcases hb with r | r | r | r | r
   ·exact lt hz (r▸e)
   ·exact lt hI (r▸e)
   ·exact lt hO (r▸e)
   ·obtain ⟨_,e1,_⟩:=t1;exact lt e1 (r▸e)
   ·obtain ⟨_,e1,_⟩:=t2;exact lt e1 (r▸e)
  ·rw [aC e];exact hb'
 done:=by
  intro X hP hw hK hc i pins s σ H E I hf st hg
  subst hP hw hK
  obtain ⟨xs,ys,q1,q2,hl⟩:=hg
  obtain ⟨its1,r1,p1,_⟩:=I.tuple q1
  obtain ⟨its2,r2,p2,_⟩:=I.tuple q2
  obtain ⟨hz,hI,⟨a,c,hO⟩,t1,t2⟩:=st
  refine rG (I.ok.hd hc) D hz hI hO t1 t2 (show s.heap.IsTuple a1 its1.toArray from p1) (show s.heap.IsTuple a2 its2.toArray from p2) ?_ fun h' kp=>⟨rfl,?_⟩
  ·have e1:=r1.length
   have e2:=r2.length
   rcases hl with r | r
   ·exact .inl (List.getElem?_eq_none_iff.mpr (by omega))
   ·exact .inr (List.getElem?_eq_none_iff.mpr (by omega))
  ·have kall:∀ b o,b∉[z,TI,TO,i1,i2]->s.heap.get? b=some o->h'.get? b=some o:=fun b o hb e=>by
    simp only [List.mem_cons,List.not_mem_nil,or_false,not_or] at hb
    exact kp b o hb.1 hb.2.2.1 hb.2.2.2.1 hb.2.2.2.2 e
   have xK:∀ {b:Addr} {u:HO},H b=some u->b∉[z,TI,TO,i1,i2]:=fun {b u} e hb=>by
    rw [(hf b hb).1] at e;cases e
   refine I.step (g':=s.gens) (d':=s.drawn) (t':=s.toks) (ch:=[z,TI,TO,i1,i2]) (fun b hb=>⟨(hf b hb).2.2.2.1,(hf b hb).2.1,(hf b hb).2.2.2.2.1,(hf b hb).2.2.2.2.2⟩) (fun b o _ _ hb e _=>kall b o hb e) (fun b o _ _ hb e _=>⟨o.slots,kall b o hb e⟩)
    (fun b o _ e n=>n) (fun b o hb e=>⟨o,kall b o hb e⟩) (fun b vs e=>e) (fun b o v e=>e) (fun b ps e=>⟨#[],by rw [e];simp⟩) (fun m hm=>?_) (fun b u e=>(I.hok b u e).pN (fun d v hd r=>kall d v ?_ r) (fun _ r=>r) fun _ _ r=>r) I.bare
   ·obtain ⟨o,es',ep,e,r⟩:=hm
    exact ⟨o,es',ep,kall _ o (fun hb=>(hf _ hb).2.1 rfl) e,r⟩
   ·rcases hd with rfl | hd
    ·exact xK e
    ·exact xK hd
 self:=fun _ _ _ _ _ st h=>wpAny_pyIter_zip st.1 h
section
variable {X:Cx} {es:List Expr} {kk:Nat} {tpos:Pos}
theorem IA (a b:Nat) (h:a≠b):@Ne Addr a b:=h
theorem Dq (n a b:Nat) (h1:a < n) (h2:b < n):ZA (n+4) (n+2) (n+3) n (n+1) a b:=by
 constructor<;>refine IA _ _ ?_<;>omega
def IB (K:PySem.W.Frag) (ta:TA):TI:=fun σ H R=>ta σ H fun vs H1=>∃ a1 a2 xs ys,vs=[.ref a1,.ref a2]/\eZ K H1 a1 xs/\eZ K H1 a2 ys/\R (JI K a1 a2) H1
theorem ED {e1 e2:Expr} {ta:TA} {p pos:Pos} (hg:Gl X "zip") (hm:X.mg "zip" = none) (ha:PA X [e1,e2] ta) (hs:starEach [e1,e2] X.env=[(false,eval e1 X.env),(false,eval e2 X.env)]:=by rfl) (hs2:starEach [e2] X.env=[(false,eval e2 X.env)]:=by rfl) :
  PI X (.Tuple es kk tpos) (.Call (.Name "zip" p) [e1,e2] [] pos) (IB X.K ta):=by
 intro pins s σ H R I h
 refine Call_ (gC I hg hm (by decide +kernel:bootBuiltins "zip" = some (.type "zip")) (PyProof.Rows.callWith_type1 (bJ (ha pos pins s σ H _ I h) fun us s1 ⟨vs,H1,I1,r1,q1⟩=>?_) (by rw [hs,hs2]) (by rw [hs2];rfl)))
 obtain ⟨a1,a2,xs,ys,e,t1,t2,q⟩:=q1
 subst e
 cases r1 with
 | cons r rr=>
  cases rr with
  | cons r' rr=>
   cases rr
   cases r
   cases r'
   obtain ⟨its1,v1,p1,_⟩:=I1.tuple t1
   obtain ⟨its2,v2,p2,_⟩:=I1.tuple t2
   have L1:a1 < s1.heap.objs.size:=by obtain ⟨_,e,_⟩:=p1;exact Heap.lt_size e
   have L2:a2 < s1.heap.objs.size:=by obtain ⟨_,e,_⟩:=p2;exact Heap.lt_size e
   refine kF (show s1.heap.IsTuple a1 its1.toArray from p1) (show s1.heap.IsTuple a2 its2.toArray from p2) fun h' N=>?_
   refine wpAny_pyIter_zip (s:={s1 with heap:=h'}) N.z ?_
   have I2:Inv X pins σ H1 {s1 with heap:=h'}:=I1.kept (t':=s1.toks) N.keep
   refine ⟨s1.heap.objs.size+4,[s1.heap.objs.size+4,s1.heap.objs.size+2,s1.heap.objs.size+3,s1.heap.objs.size,s1.heap.objs.size+1],_,_,H1,rfl,I2,zc a1 a2 _ _ _ _ _ (Dq _ _ _ L1 L2),⟨N.z,N.ti,⟨_,_,N.to⟩,N.i1,N.i2⟩,fun b hb=>?_,q⟩
   have ge:s1.heap.objs.size<=b:=by
    simp only [List.mem_cons,List.not_mem_nil,or_false] at hb
    rcases hb with rfl | rfl | rfl | rfl | rfl
    ·exact Nat.le_add_right _ _
    ·exact Nat.le_add_right _ _
    ·exact Nat.le_add_right _ _
    ·exact Nat.le_refl _
    ·exact Nat.le_add_right _ _
   exact I1.yO ge (I1.hok.fresh ge)
end
end L2
namespace L2
open PySem PySem.Spec PyProof.Rows
section
variable {κ:Type} [DecidableEq κ]
def m7 (kvs:List (κ×V)) (k:κ):Option V:=(kvs.find? fun kv=>decide (kv.1=k)).map (·.2)
def putK (kvs:List (κ×V)) (k:κ) (v:V):List (κ×V):=
 if (kvs.any fun kv=>decide (kv.1=k))=true then kvs.map (fun kv=>if kv.1=k then (kv.1,v) else kv) else kvs++[(k,v)]
theorem kG {p:κ×V} {r:List (κ×V)} {k:κ} (e:p.1=k):m7 (p::r) k=some p.2:=by simp [m7,List.find?_cons,e]
theorem kH {p:κ×V} {r:List (κ×V)} {k:κ} (e:¬ p.1=k):m7 (p::r) k=m7 r k:=by simp [m7,List.find?_cons,e]
theorem kI (k:κ):∀ kvs:List (κ×V),(kvs.any fun kv=>decide (kv.1=k))=(m7 kvs k).isSome
 | []=>rfl
 | p::r=>by
  rw [List.any_cons]
  by_cases e:p.1=k
  ·simp only [kG e,decide_eq_true e,Bool.true_or,Option.isSome_some]
  ·rw [kH e,decide_eq_false e,Bool.false_or];exact kI k r
theorem iV (kvs:List (κ×V)) (k:κ) (v:V):(putK kvs k v).length<=kvs.length+1:=by
 unfold putK
 split
 ·rw [List.length_map];omega
 ·rw [List.length_append,List.length_cons,List.length_nil];omega
theorem nI.gN {o:Option V} {u:Option Value} (r:nI o u):o.isSome=u.isSome:=by
 cases o with
 | none=>cases u with
  | none=>rfl
  | some _=>exact (show False from r).elim
 | some _=>cases u with
  | none=>exact (show False from r).elim
  | some _=>rfl
theorem KV.val {kvs:List (κ×V)} {vs:List (κ×Value)} (r:KV kvs vs) (k:κ):nI (m7 kvs k) (valueAt vs k):=by
 unfold KV at r
 induction r with
 | nil=>exact True.intro
 | @cons p q ps qs h t ih=>
  obtain ⟨h1,h2⟩:=h
  by_cases e:p.1=k
  ·have e':q.1=k:=h1.symm.trans e
   have b:valueAt (q::qs) k=some q.2:=by simp [valueAt,List.find?_cons,e']
   rw [kG e,b];exact h2
  ·have e':¬ q.1=k:=fun z=>e (h1.trans z)
   have b:valueAt (q::qs) k=valueAt qs k:=by simp [valueAt,List.find?_cons,e']
   rw [kH e,b];exact ih
theorem KV.any {kvs:List (κ×V)} {vs:List (κ×Value)} (r:KV kvs vs) (k:κ):(kvs.any fun kv=>decide (kv.1=k))=vs.any fun kv=>decide (kv.1=k):=by
 unfold KV at r
 induction r with
 | nil=>rfl
 | cons h t ih=>rw [List.any_cons,List.any_cons,ih,h.1]
theorem KV.EE {kvs:List (κ×V)} {vs:List (κ×Value)} (r:KV kvs vs) (k:κ) {y:V} {u:Value} (ry:RelV y u) :
  KV (kvs.map fun kv=>if kv.1=k then (kv.1,y) else kv) (vs.map fun kv=>if kv.1=k then (kv.1,u) else kv):=by
 unfold KV at r ⊢
 induction r with
 | nil=>exact .nil
 | @cons p q ps qs h t ih=>
  rw [List.map_cons,List.map_cons]
  refine .cons ?_ ih
  obtain ⟨h1,h2⟩:=h
  by_cases e:p.1=k
  ·rw [if_pos e,if_pos (h1.symm.trans e)];exact ⟨h1,ry⟩
  ·rw [if_neg e,if_neg (fun z=>e (h1.trans z))];exact ⟨h1,h2⟩
theorem KV.put {kvs:List (κ×V)} {vs:List (κ×Value)} (r:KV kvs vs) (k:κ) {y:V} {u:Value} (ry:RelV y u):KV (putK kvs k y) (stored vs k u):=by
 unfold putK stored
 rw [r.any k]
 by_cases e:(vs.any fun kv=>decide (kv.1=k))=true
 ·rw [if_pos e,if_pos e];exact r.EE k ry
 ·rw [if_neg e,if_neg e];exact Paired.snoc r ⟨rfl,ry⟩
theorem KV.length {kvs:List (κ×V)} {vs:List (κ×Value)} (r:KV kvs vs):kvs.length=vs.length:=Paired.length r
end
theorem qv {P:Program} {w:World} {k:Key} {u:Value} (r:RelV (kV k) u):(bX P w).is k u=true:=by
 cases k with
 | inl i=>obtain ⟨t,e⟩:=(show ∃ t,u=Value.int i t from r);subst e;exact sS P w i t
 | inr x=>obtain ⟨t,e⟩:=(show ∃ t,u=Value.str x t from r);subst e;exact sT P w x t
theorem qw {P:Program} {w:World}:∀ {ks:List Key} {us:List Value},Vals (ks.map kV) us->ItemsAre (bX P w) ks us
 | [],_,r=>by rw [List.map_nil] at r;cases r;exact .nil
 | k::ks,_,r=>by
  rw [List.map_cons] at r
  cases r with
  | cons h t=>exact .cons (qv h) (qw t)
abbrev KT (H:Hp):List (List Key×V)->List (List Key×Addr×Value)->Prop:=Paired fun p q=>p.1=q.1/\H q.2.1=some (.tup (p.1.map kV))/\RelV p.2 q.2.2
theorem KT.val {H:Hp} {kvs:List (List Key×V)} {xs:List (List Key×Addr×Value)} (r:KT H kvs xs) (k:List Key):nI (m7 kvs k) ((atKey xs k).map (·.2)):=by
 induction r with
 | nil=>exact True.intro
 | @cons p q ps qs h t ih=>
  obtain ⟨h1,_,h2⟩:=h
  by_cases e:p.1=k
  ·have e':q.1=k:=h1.symm.trans e
   have b:atKey (q::qs) k=some q.2:=by simp [atKey,List.find?_cons,e']
   rw [kG e,b];exact h2
  ·have e':¬ q.1=k:=fun z=>e (h1.trans z)
   have b:atKey (q::qs) k=atKey qs k:=by simp [atKey,List.find?_cons,e']
   rw [kH e,b];exact ih
theorem KT.EE {H:Hp} {kvs:List (List Key×V)} {xs:List (List Key×Addr×Value)} (r:KT H kvs xs) (k:List Key) {y:V} {u:Value} (ry:RelV y u) :
  KT H (kvs.map fun kv=>if kv.1=k then (kv.1,y) else kv) (xs.map (putAt k u)):=by
 induction r with
 | nil=>exact .nil
 | @cons p q ps qs h t ih=>
  rw [List.map_cons,List.map_cons]
  refine .cons ?_ ih
  obtain ⟨h1,h2,h3⟩:=h
  unfold putAt
  by_cases e:p.1=k
  ·rw [if_pos e,if_pos (h1.symm.trans e)];exact ⟨h1,h2,ry⟩
  ·rw [if_neg e,if_neg (fun z=>e (h1.trans z))];exact ⟨h1,h2,h3⟩
theorem KT.put {H:Hp} {kvs:List (List Key×V)} {xs:List (List Key×Addr×Value)} (r:KT H kvs xs) (k:List Key) {b:Addr} {y:V} {u:Value} (hb:H b=some (.tup (k.map kV))) (ry:RelV y u) :
  KT H (putK kvs k y) (storedH xs k b u):=by
 have e:(kvs.any fun kv=>decide (kv.1=k))=(atKey xs k).isSome:=by
  rw [kI,(r.val k).gN,Option.isSome_map]
 unfold putK storedH
 rw [e]
 by_cases q:(atKey xs k).isSome=true
 ·rw [if_pos q,if_pos q];exact r.EE k ry
 ·rw [if_neg q,if_neg q];exact Paired.snoc r ⟨rfl,hb,ry⟩
theorem KT.keeps {H H':Hp} {kvs:List (List Key×V)} {xs:List (List Key×Addr×Value)} (r:KT H kvs xs) (ht:∀ b ys,H b=some (.tup ys)->H' b=some (.tup ys)):KT H' kvs xs:=
 Paired.yG r fun _ _ z=>⟨z.1,ht _ _ z.2.1,z.2.2⟩
section
variable {P:Program} {w:World} {H:Hp} {h:Heap} {a:Addr}
theorem Ds {u:HO} (ok:iP P w H h) (e:Rd H a u):cA P w H h a u:=e.ok ok
theorem wz {kvs:List (Key×V)} (ok:iP P w H h) (e:Rd H a (.dK kvs)):kvs.length<=sizeLine/\(a == sysModules)=false/\∃ vs,KV kvs vs/\h.DictOf (bX P w) a vs:=
 show cA P w H h a (.dK kvs) from Ds ok e
theorem Dt {kvs:List (Key×V)} (ok:iP P w H h) (e:H a=some (.dK kvs)):kvs.length<=sizeLine/\(a == sysModules)=false/\∃ vs,KV kvs vs/\h.DictOf (bX P w) a vs:=wz ok (.inl e)
theorem nO {ks:List Key} (ok:iP P w H h) (e:H a=some (.tup (ks.map kV))):(tupleKind (bX P w)).is h ks a:=by
 obtain ⟨_,its,r,o,h1,h2,n,h3⟩:=(show cA P w H h a (.tup (ks.map kV)) from ok a _ e)
 exact ⟨o,its.toArray,n,h1,h2,h3,by simpa using qw r⟩
theorem wA {kvs:List (List Key×V)} (ok:iP P w H h) (e:Rd H a (.dT kvs)):kvs.length<=sizeLine/\(a == sysModules)=false /\
  ∃ xs,KT H kvs xs/\h.DictOfH (tupleKind (bX P w)) a xs:=by
 obtain ⟨z,y,xs,r,o,es,ep,h1,h2,h3,h4,h5⟩:=(show cA P w H h a (.dT kvs) from Ds ok e)
 refine ⟨z,y,xs,r,o,es,ep,h1,h2,h3,h4,fun x hx=>?_,h5⟩
 have all:∀ {l:List (List Key×V)} {m:List (List Key×Addr×Value)},KT H l m->∀ x∈m,(tupleKind (bX P w)).is h x.1 x.2.1:=by
  intro l m q
  induction q with
  | nil=>intro x hx;exact nomatch hx
  | @cons p q ps qs hq t ih=>
   intro x hx
   rcases List.mem_cons.mp hx with e | hx
   ·subst e
    exact nO ok (by rw [<- hq.1];exact hq.2.1)
   ·exact ih x hx
 exact all r x hx
theorem GA {kvs:List (List Key×V)} (ok:iP P w H h) (e:H a=some (.dT kvs)):kvs.length<=sizeLine/\(a == sysModules)=false /\
  ∃ xs,KT H kvs xs/\h.DictOfH (tupleKind (bX P w)) a xs:=wA ok (.inl e)
end
def tu (H:Hp) (a:Addr) (y:V) (r:Option V):Prop:=
 (∃ kvs k,Rd H a (.dK kvs)/\y=kV k/\r=m7 kvs k)\/∃ kvs k b,Rd H a (.dT kvs)/\y=.ref b/\H b=some (.tup (k.map kV))/\r=m7 kvs k
def BO (H:Hp) (a:Addr) (y v:V) (H':Hp):Prop:=
 (∃ kvs k,H a=some (.dK kvs)/\y=kV k/\kvs.length < sizeLine/\H'=upd H a (.dK (putK kvs k v))) \/
 ∃ kvs k b,H a=some (.dT kvs)/\y=.ref b/\H b=some (.tup (k.map kV))/\kvs.length < sizeLine/\H'=upd H a (.dT (putK kvs k v))
theorem tu.k {H:Hp} {a:Addr} {kvs:List (Key×V)} {k:Key} (e:H a=some (.dK kvs)):tu H a (kV k) (m7 kvs k):=.inl ⟨kvs,k,.inl e,rfl,rfl⟩
theorem BO.k {H:Hp} {a:Addr} {kvs:List (Key×V)} {k:Key} {v:V} (e:H a=some (.dK kvs)) (hl:kvs.length < sizeLine):BO H a (kV k) v (upd H a (.dK (putK kvs k v))):=.inl ⟨kvs,k,e,rfl,hl,rfl⟩
section
variable {X:Cx} {pins:List (Addr×Obj)} {σ:St} {H:Hp} {s:Shared} {a:Addr} {y v:V} {u r:Value} {o:Option V} {A:Around} {E:Value->Shared->Prop}
theorem Inv.big (I:Inv X pins σ H s):sysModules < s.heap.objs.size:=by
 have h:mainGlobals < s.heap.objs.size:=(I.mod.glob.keeps I.bk).lt
 exact Nat.lt_trans (by decide) h
theorem x3 {Q:Value->Shared->Prop} (hu:A.units+1 < cLine) (I:Inv X pins σ H s) (g:tu H a y (some v)) (ry:RelV y u) (h:∀ w' s',Inv X pins σ H s'->RelV v w'->Q w' s') :
  wpAny (model X.prog X.w) A (getItem (.ref a) u) Q E s:=by
 rcases g with ⟨kvs,k,e,ey,l⟩ | ⟨kvs,k,b,e,ey,eb,l⟩
 ·subst ey
  obtain ⟨z,hd,vs,rel,dd⟩:=wz I.hok e
  obtain ⟨w',hw,rw'⟩:=nI.some_of (v:=v) (o:=valueAt vs k) (by rw [l];exact rel.val k)
  exact wpAny_getItem_of (qv ry) dd.mapOf hw (h w' _ (I.tok _) rw')
 ·subst ey
  cases (show u=Value.ref b from ry)
  obtain ⟨z,hd,xs,rel,dd⟩:=wA I.hok e
  obtain ⟨w',hw,rw'⟩:=nI.some_of (v:=v) (o:=(atKey xs k).map (·.2)) (by rw [l];exact rel.val k)
  obtain ⟨p,hp,hp2⟩:=Option.map_eq_some_iff.mp hw
  refine wpAny_getItem_heap (tupleKind_room_in1 hu) (nO I.hok eb) dd hp ?_
  rw [hp2]
  exact h w' _ (I.tok _) rw'
theorem IC {Q:Value->Shared->Prop} (hu:A.units+1 < cLine) (I:Inv X pins σ H s) (g:tu H a y o) (ry:RelV y u) (h:∀ s',Inv X pins σ H s'->Q (.bool o.isSome) s') :
  wpAny (model X.prog X.w) A (compareOp .In u (.ref a)) Q E s:=by
 rcases g with ⟨kvs,k,e,ey,l⟩ | ⟨kvs,k,b,e,ey,eb,l⟩
 ·subst ey
  obtain ⟨z,hd,vs,rel,dd⟩:=wz I.hok e
  refine wpAny_in_of (qv ry) hd dd.mapOf ?_
  rw [<- (rel.val k).gN,<- l]
  exact h _ (I.tok _)
 ·subst ey
  cases (show u=Value.ref b from ry)
  obtain ⟨z,hd,xs,rel,dd⟩:=wA I.hok e
  refine wpAny_in_heap (tupleKind_room_in1 hu) (nO I.hok eb) hd dd ?_
  have q:=(rel.val k).gN
  rw [Option.isSome_map] at q
  rw [<- q,<- l]
  exact h _ (I.tok _)
theorem BP {Q:Value->Shared->Prop} (hu:A.units+1 < cLine) (I:Inv X pins σ H s) (g:tu H a y o) (ry:RelV y u) (h:∀ s',Inv X pins σ H s'->Q (.bool (!o.isSome)) s') :
  wpAny (model X.prog X.w) A (compareOp .NotIn u (.ref a)) Q E s:=by
 rcases g with ⟨kvs,k,e,ey,l⟩ | ⟨kvs,k,b,e,ey,eb,l⟩
 ·subst ey
  obtain ⟨z,hd,vs,rel,dd⟩:=wz I.hok e
  refine wpAny_notIn_of (qv ry) hd dd.mapOf ?_
  rw [<- (rel.val k).gN,<- l]
  exact h _ (I.tok _)
 ·subst ey
  cases (show u=Value.ref b from ry)
  obtain ⟨z,hd,xs,rel,dd⟩:=wA I.hok e
  refine wpAny_notIn_heap (tupleKind_room_in1 hu) (nO I.hok eb) hd dd ?_
  have q:=(rel.val k).gN
  rw [Option.isSome_map] at q
  rw [<- q,<- l]
  exact h _ (I.tok _)
theorem nu {h':Heap} {t':Nat} {ob:HO} (I:Inv X pins σ H s) (mu:FR (H a)) (hs:Heap.SameBut a s.heap h') (he:∃ q,h'.get? a=some q) (new:cA X.prog X.w (upd H a ob) h' a ob) :
  Inv X pins σ (upd H a ob) {s with heap:=h',toks:=t'}:=
 I.write (x:=a) (e:=a) mu (.inl rfl) (fun b q hb z=>(hs.2 b hb).trans z) he new
theorem vh {P:Program} {w:World} {H':Hp} {h':Heap} {kvs:List (Key×V)} {vs:List (Key×Value)} (z:kvs.length<=sizeLine) (hd:(a == sysModules)=false) (rel:KV kvs vs) (dd:h'.DictOf (bX P w) a vs) :
  cA P w H' h' a (.dK kvs):=⟨z,hd,vs,rel,dd⟩
theorem x4 {H':Hp} {Q:Unit->Shared->Prop} (hu:A.units+1 < cLine) (I:Inv X pins σ H s) (g:BO H a y v H') (ry:RelV y u) (rv:RelV v r) (h:∀ s',Inv X pins σ H' s'->Q () s') :
  wpAny (model X.prog X.w) A (setItem (.ref a) u r) Q E s:=by
 rcases g with ⟨kvs,k,e,ey,l,eH⟩ | ⟨kvs,k,b,e,ey,eb,l,eH⟩
 ·subst ey eH
  obtain ⟨z,hd,vs,rel,dd⟩:=Dt I.hok e
  have hz:vs.length<=sizeLine:=by rw [<- rel.length];exact z
  have hl:(putK kvs k v).length<=sizeLine:=by have:=iV kvs k v;omega
  refine wpAny_setItem_pairs (hsz:=hz) (qv ry) dd fun h' dd' hs=>h _ ?_
  have he:∃ q,h'.get? a=some q:=let ⟨q,_,_,hq,_⟩:=dd';⟨q,hq⟩
  exact nu I (by rw [e];exact True.intro) hs he (vh hl hd (rel.put k rv) dd')
 ·subst ey eH
  cases (show u=Value.ref b from ry)
  obtain ⟨z,hd,xs,rel,dd⟩:=GA I.hok e
  have hz:xs.length<=sizeLine:=by rw [<- Paired.length rel];exact z
  have hl:(putK kvs k v).length<=sizeLine:=by have:=iV kvs k v;omega
  refine wpAny_setItem_heap (hsz:=hz) (tupleKind_room_in1 hu) (nO I.hok eb) dd fun h' dd' hs=>h _ ?_
  obtain ⟨q,es,ep,hq,h2,h3,h4,_,h5⟩:=dd'
  refine nu I (by rw [e];exact True.intro) hs ⟨q,hq⟩ ⟨hl,hd,_,(rel.put k eb rv).keeps fun c ys ec=>?_,q,es,ep,hq,h2,h3,h4,h5⟩
  rw [aC (F5 ec e (fun z=>nomatch z))]
  exact ec
end
section
variable {X:Cx} {pins:List (Addr×Obj)} {σ:St} {H:Hp} {s:Shared} {a:Addr} {kvs:List (Key×V)} {k:Key} {u:Value} {A:Around} {E:Value->Shared->Prop}
end
section
variable {X:Cx} {o i e value:Expr} {pos pos' tpos:Pos} {td ty tv:TE}
end
theorem tw {P:Program} {w:World} {H:Hp} (h:Heap) (hb:sysModules < h.objs.size):cA P w H (h.push {cls:=.type "dict",data:=.dict #[]}) h.objs.size (.dK []):=
 ⟨Nat.zero_le _,beq_eq_false_iff_ne.mpr (Ne.symm (Nat.ne_of_lt hb)),[],.nil,Heap.DictOf.new h⟩
def EF:TE:=fun _ H Q=>∀ p,H p=none->Q (.ref p) (upd H p (.dK []))
section
variable {X:Cx} {pos:Pos}
theorem zd:PE X (.Dict [] [] pos) EF:=fun pins s σ H Q I h=>
 wpAny_Dict_empty ⟨.ref s.heap.objs.size,_,I.laid (a:=s.heap.objs.size) (o:=.dK []) (t':=s.toks) (fun _ _ q=>Heap.get?_push_of_some _ q) (Nat.le_refl _) (tw s.heap I.big),rfl,h _ (I.hok.fresh (Nat.le_refl _))⟩
end
def vi:List (TE×TE)->St->Hp->(List (V×V)->Hp->Prop)->Prop
 | [],_,H,Q=>Q [] H
 | (tk,tv)::r,σ,H,Q=>tk σ H fun x H1=>tv σ H1 fun y H2=>vi r σ H2 fun ps H3=>Q ((x,y)::ps) H3
abbrev VV:List (V×V)->List (Value×Value)->Prop:=Paired fun p q=>RelV p.1 q.1/\RelV p.2 q.2
def Hj (X:Cx) (pos:Pos) (keys:List (Option Expr)) (values:List Expr) (trs:List (TE×TE)):Prop:=
 ∀ (pins:List (Addr×Obj)) (s:Shared) (σ:St) (H:Hp) (Q:List (V×V)->Hp->Prop),Inv X pins σ H s->vi trs σ H Q ->
  wpAny (model X.prog X.w) X.A (evalPairs (pairTrees keys values X.env pos)) (fun vs s'=>∃ ps H',Inv X pins σ H' s'/\VV ps vs/\Q ps H') X.xe s
theorem BQ {X:Cx} {pos:Pos}:Hj X pos [] [] []:=fun pins s σ H Q I h=>pairTrees_nil_walk ⟨[],H,I,.nil,h⟩
theorem ze {X:Cx} {pos:Pos} {k v:Expr} {ks:List (Option Expr)} {vs:List Expr} {tk tv:TE} {trs:List (TE×TE)} (hk:PE X k tk) (hv:PE X v tv) (hr:Hj X pos ks vs trs) :
  Hj X pos (some k::ks) (v::vs) ((tk,tv)::trs):=fun pins s σ H Q I h=>
 pairTrees_cons_walk (bJ (hk pins s σ H _ I h) fun u s1 ⟨x,H1,I1,rx,q1⟩=>bJ (hv pins s1 σ H1 _ I1 q1) fun w2 s2 ⟨y,H2,I2,ry,q2⟩=>
  bJ (hr pins s2 σ H2 _ I2 q2) fun ws s3 ⟨ps,H3,I3,rel,q3⟩=>⟨(x,y)::ps,H3,I3,.cons ⟨rx,ry⟩ rel,q3⟩)
def nP (kvs more:List (Key×V)):List (Key×V):=more.foldl (fun acc kv=>putK acc kv.1 kv.2) kvs
theorem KV.merge:∀ {more:List (Key×V)} {rs:List (Key×Value)} {kvs:List (Key×V)} {vs:List (Key×Value)},KV more rs->KV kvs vs->KV (nP kvs more) (merged vs rs):=by
 intro more rs kvs vs r
 unfold KV at r
 induction r generalizing kvs vs with
 | nil=>intro q;exact q
 | @cons p q ps qs h t ih=>
  intro r0
  have e:KV (putK kvs p.1 p.2) (stored vs q.1 q.2):=by
   have:=r0.put p.1 h.2
   rw [<- h.1];exact this
  exact ih e
theorem jM:∀ (more kvs:List (Key×V)),(nP kvs more).length<=kvs.length+more.length
 | [],kvs=>by show kvs.length<=kvs.length+0;omega
 | p::r,kvs=>by
  have h1:=jM r (putK kvs p.1 p.2)
  have h2:=iV kvs p.1 p.2
  show (nP (putK kvs p.1 p.2) r).length<=_
  rw [List.length_cons];omega
theorem nQ {P:Program} {w:World}:∀ {kvs:List (Key×V)} {ws:List (Value×Value)},VV (kvs.map fun kv=>(kV kv.1,kv.2)) ws->∃ rs,Carries (bX P w) ws rs/\KV kvs rs
 | [],_,r=>by rw [List.map_nil] at r;cases r;exact ⟨[],True.intro,.nil⟩
 | p::kvs,_,r=>by
  rw [List.map_cons] at r
  cases r with
  | @cons a b as bs h t=>
   obtain ⟨rs,c,q⟩:=nQ (P:=P) (w:=w) t
   obtain ⟨b1,b2⟩:=b
   exact ⟨(p.1,b2)::rs,⟨qv h.1,rfl,c⟩,.cons ⟨rfl,h.2⟩ q⟩
def GB (trs:List (TE×TE)):TE:=fun σ H Q=>∀ p,H p=none->vi trs σ (upd H p (.dK [])) fun ps H2=>H2 p=some (.dK [])/\∃ kvs:List (Key×V),ps=kvs.map (fun kv=>(kV kv.1,kv.2))/\kvs.length<=15/\Q (.ref p) (upd H2 p (.dK (nP [] kvs)))
theorem BR {X:Cx} {pos:Pos} {keys:List (Option Expr)} {values:List Expr} {trs:List (TE×TE)} (h:Hj X pos keys values trs) (hall:keys.all (·.isSome)=true) (hl:keys.length=values.length) (h0:keys≠[])
  (h15:keys.length<=15):PE X (.Dict keys values pos) (GB trs):=by
 intro pins s σ H Q I q
 have hn:=I.hok.fresh (Nat.le_refl s.heap.objs.size)
 have I1:=I.laid (a:=s.heap.objs.size) (o:=.dK []) (h':=s.heap.push {cls:=.type "dict",data:=.dict #[]}) (t':=s.toks) (fun _ _ q=>Heap.get?_push_of_some _ q) (Nat.le_refl _) (tw s.heap I.big)
 refine wpAny_Dict_walk (knd:=bX X.prog X.w) hall hl h0 h15 (bJ (h pins _ σ _ _ I1 (q _ hn)) fun ws s2 ⟨ps,H2,I2,rel,e,kvs,ep,lk,q2⟩=>?_)
 subst ep
 obtain ⟨rs,c,rk⟩:=nQ (P:=X.prog) (w:=X.w) rel
 obtain ⟨z,hd,vs0,r0,dd⟩:=Dt I2.hok e
 cases r0
 refine ⟨rs,c,dd,fun h' dd' hs=>⟨.ref s.heap.objs.size,_,?_,rfl,q2⟩⟩
 have hz:(nP [] kvs).length<=sizeLine:=by
  have h1:=jM kvs []
  rw [List.length_nil] at h1
  rw [sizeLine_eq];omega
 have he:∃ q,h'.get? s.heap.objs.size=some q:=let ⟨q,_,_,hq,_⟩:=dd';⟨q,hq⟩
 exact nu I2 (by rw [e];exact True.intro) hs he (vh hz hd (rk.merge .nil) dd')
section
variable {X:Cx} {pins:List (Addr×Obj)} {σ:St} {H:Hp} {s:Shared} {a:Addr} {y d:V} {u r:Value} {o:Option V} {A:Around} {E:Value->Shared->Prop}
end
section
variable {X:Cx} {o e f:Expr} {apos cpos:Pos} {td ty tx:TE}
end
section
variable {X:Cx} {pins:List (Addr×Obj)} {σ:St} {H:Hp} {s:Shared} {a:Addr} {kvs:List (Key×V)} {A:Around} {E:Value->Shared->Prop}
end
section
variable {X:Cx} {pins:List (Addr×Obj)} {σ:St} {H:Hp} {s:Shared} {a:Addr} {y:V} {u:Value} {A:Around} {E:Value->Shared->Prop}
end
end L2
namespace L2
open PySem PySem.Spec PyProof.Rows
section
variable {κ:Type} [DecidableEq κ]
end
end L2
namespace L2
open PySem PySem.Spec PyProof.Rows
theorem nR {P:Program} {w:World} {K:PySem.W.Frag} {tg:Expr} {it:Addr} {n:Nat} {Pv:Nat->Value->Prop} {St:Nat->Heap->Prop} {f:Nat->V} (W:∀ A:Around,A.handled=none->Walks P w A it [it] [it] n Pv St)
  (ob:∀ i h,St i h->∃ (o:Obj) (m:String) (vs:Array Value),h.get? it=some o/\o.cls=.type m/\o.data=.fields vs/\["enumerate", "zip", "dict_itemiterator", "dict_reverseitemiterator", "odict_iterator", "itertools.zip_longest", "itertools.pairwise"].contains m=false)
  (rel:∀ i v,i < n->Pv i v->RelV (f i) v) (sf:∀ (A:Around) (i:Nat) (s:Shared) (Q:Value->Shared->Prop) (E:Value->Shared->Prop),St i s.heap->Q (.ref it) s->wpAny (model P w) A (pyIter (.ref it)) Q E s):Turn P w K tg ⟨fun i _=>i < n,fun i H x H'=>H'=H/\x=f i,fun i _=>i=n⟩ [it] it St where
 mem:=by simp
 obj:=fun i h st b hb=>by
  have e:b=it:=by simpa using hb
  subst e
  obtain ⟨o,m,vs,e,_,d,_⟩:=ob i h st
  exact ⟨o,e,fun v z=>by rw [d] at z;cases z⟩
 keep:=fun i h h' st k=>(W {handled:=none,depth:=0,frames:=none,guards:=none,units:=0} rfl).frame i h h' st fun b hb o e=>k b hb o e
 item:=by
  intro X hP hw hK hc i pins s σ H E I hf st hg
  subst hP hw hK
  obtain ⟨f0,f1,f2,f3,f4,f5⟩:=hf it (by simp)
  refine (W X.A (I.ok.hd hc)).item i s _ _ hg st fun v h' tk hv st' kk=>?_
  have I1:Inv X pins σ H {s with heap:=h',toks:=tk}:=I.turned (fun b o hb e=>kk b o (by simpa using hb) e) f0 f1 f3 f4 f5
  obtain ⟨o,m,vs,e,c,d,nm⟩:=ob _ _ st'
  exact ⟨v,rfl,we (s:={s with heap:=h',toks:=tk}) e c d nm ⟨f i,H,I1,rel i v hg hv,⟨rfl,rfl⟩,st',fun b hb=>(hf b hb).1⟩⟩
 done:=by
  intro X hP hw hK hc i pins s σ H E I hf st hg
  subst hP hw hK
  obtain ⟨f0,f1,f2,f3,f4,f5⟩:=hf it (by simp)
  have hg':i=n:=hg
  subst hg'
  exact (W X.A (I.ok.hd hc)).done s _ _ st fun h' tk kk=>⟨rfl,I.turned (fun b o hb e=>kk b o (by simpa using hb) e) f0 f1 f3 f4 f5⟩
 self:=sf
def sgn (x:Str) (i:Nat):V:=.str ⟨#[x.cps.getD i 0]⟩
def ID (x:Str):It:=⟨fun i _=>i < x.cps.size,fun i H v H'=>H'=H/\v=sgn x i,fun i _=>i=x.cps.size⟩
theorem rH {x:Str} (i:Nat) (v:Value) (hi:i < x.cps.size) (h:SignAt x i v):RelV (sgn x i) v:=by
 obtain ⟨c,u,e,rfl⟩:=h
 refine ⟨u,?_⟩
 have:x.cps.getD i 0=c:=by rw [Array.getD_eq_getD_getElem?,e];rfl
 rw [this]
section
variable {X:Cx} {tg:Expr}
def IE (tl:TE):TI:=fun σ H R=>tl σ H fun v H1=>∃ x,v=.str x/\R (ID x) H1
theorem EG {l:Expr} {tl:TE} (hl:PE X l tl):PI X tg l (IE tl):=by
 intro pins s σ H R I h
 refine bJ (hl pins s σ H _ I h) fun v s1 ⟨x,H1,I1,r1,q1⟩=>?_
 obtain ⟨x,e,q⟩:=q1
 subst e
 obtain ⟨t,rfl⟩:=r1
 have fp:∀ b∈[s1.heap.objs.size],g9 X pins H1 b:=fun b hb=>by
  have e:b=s1.heap.objs.size:=by simpa using hb
  subst e
  exact I1.yO (Nat.le_refl _) (I1.hok.fresh (Nat.le_refl _))
 cases ha:x.cps.all (· < 128) with
 | false=>
  refine wpAny_pyIter_wide ha ?_
  refine ⟨s1.heap.objs.size,[s1.heap.objs.size],_,ID x,H1,rfl,I1.kept (t':=s1.toks) fun b o e=>Heap.get?_push_of_some _ e,
   nR (fun A hA=>Walks.strWide hA _ x t) (fun i h ⟨o,e,c,d⟩=>⟨o,_,_,e,c,d,by decide⟩) rH fun A i s Q E st h=>wpAny_pyIter_striter_wide st h,⟨_,Heap.get?_push_size _ rfl,rfl,rfl⟩,fp,q⟩
 | true=>
  refine wpAny_pyIter_ascii ha ?_
  refine ⟨s1.heap.objs.size,[s1.heap.objs.size],_,ID x,H1,rfl,I1.kept (t':=s1.toks) fun b o e=>Heap.get?_push_of_some _ e,
   nR (fun A hA=>Walks.strAscii hA _ x t) (fun i h ⟨o,e,c,d⟩=>⟨o,_,_,e,c,d,by decide⟩) rH fun A i s Q E st h=>wpAny_pyIter_striter_ascii st h,⟨_,Heap.get?_push_size _ rfl,rfl,rfl⟩,fp,q⟩
end
section
variable {g:TG} {tc:TT} {te:TE} {σ:St} {H:Hp} {Q:VK} {n:Nat}
end
section
variable {X:Cx}
theorem all_range (bs:List Bool):((List.range bs.length).all fun i=>(bs[i]?).getD true)=bs.all id:=by
 rw [Bool.eq_iff_iff]
 simp only [List.all_eq_true,List.mem_range,id]
 constructor
 ·intro h b hb
  obtain ⟨i,hi,rfl⟩:=List.mem_iff_getElem.mp hb
  simpa [hi] using h i hi
 ·intro h i hi
  simp only [hi,List.getElem?_eq_getElem,Option.getD_some]
  exact h _ (List.getElem_mem hi)
theorem zf (hc:X.calm=true):cR X (.builtin "all") (fun xs H Q=>∃ (l:Addr) (bs:List Bool),xs=[.ref l]/\gD X.K H l (bs.map V.bl)/\Q (.bl (bs.all id)) H):=by
 intro pins s σ H vs us Q I r h
 obtain ⟨l,bs,rfl,hq,q⟩:=h
 cases r with
 | cons r rr=>
  cases rr
  cases r
  obtain ⟨its,rv,p,_⟩:=I.list hq
  have pl:=p.isList
  have hlt:l < s.heap.objs.size:=by obtain ⟨_,e,_⟩:=pl;exact Heap.lt_size e
  refine call_all_walk (wpAny_pyIter_list pl ?_)
  refine ⟨s.heap.objs.size,[s.heap.objs.size,l],[s.heap.objs.size],its.toArray.size,_,_,fun i=>(bs[i]?).getD true,rfl,Walks.list (A:=X.A.in1) (I.ok.hd hc) _ l (Nat.ne_of_lt hlt) its.toArray,⟨⟨_,Heap.get?_push_size _ rfl,rfl,rfl⟩,pl.push _⟩,fun i v s' Q' E' hP hQ=>?_,fun h' tk hk=>?_⟩
  ·have hP':its[i]?=some v:=by simpa using hP
   have hi:i < (bs.map V.bl).length:=by rw [rv.length];exact (List.getElem?_eq_some_iff.mp hP').1
   obtain ⟨u,hu,ru⟩:=rv.get (i:=i) (x:=(bs.map V.bl)[i]) (by simp [hi])
   rw [hP'] at hu
   cases hu
   rw [List.length_map] at hi
   simp only [List.getElem_map] at ru
   obtain rfl:v=Value.bool bs[i]:=ru
   have hQ':=hQ
   simp only [hi,List.getElem?_eq_getElem,Option.getD_some] at hQ'
   exact wpAny_truthy_bool hQ'
  ·have e:((List.range its.toArray.size).all fun i=>(bs[i]?).getD true)=bs.all id:=by
    rw [List.size_toArray,<- rv.length,List.length_map];exact all_range bs
   rw [e]
   exact ⟨.bl _,H,I.kept fun b o e=>hk b o (fun hm=>by rw [List.mem_singleton.mp hm] at e;exact Nat.lt_irrefl _ (Heap.lt_size e)) (Heap.get?_push_of_some _ e),rfl,q⟩
theorem x5:gg X (compareOp .LtE) (fun x y H Q=>∃ i j,x=.str i/\y=.str j/\Q (.bl (!decide (j.cps.toList < i.cps.toList))) H):=by
 intro pins s σ H x y v u Q I rx ry h
 obtain ⟨i,j,rfl,rfl,q⟩:=h
 obtain ⟨t,rfl⟩:=rx
 obtain ⟨t',rfl⟩:=ry
 exact P.le_str ⟨.bl _,H,I,rfl,q⟩
end
end L2
namespace L2
open PySem PySem.Spec PyProof.Rows
def fL:V->Option PyData
 | .non=>some .none
 | .bl b=>some (.bool b)
 | .int i=>some (.int i)
 | .str x=>some (.str x)
 | _=>none
def tB:Key->PyData
 | .inl i=>.int i
 | .inr x=>.str x
def bh:List (Key×V)->Option (List (PyData×PyData))
 | []=>some []
 | (k,v)::r=>match fL v,bh r with
  | some d,some ds=>some ((tB k,d)::ds)
  | _,_=>none
mutual
def Rep (H:Hp):PyData->V->Prop
 | .none,v=>v=.non
 | .bool b,v=>v=.bl b
 | .int i,v=>v=.int i
 | .str x,v=>v=.str x
 | .tuple ds,v=>∃ a vs,v=.ref a/\H a=some (.tup vs)/\aW H ds vs
 | .list ds,v=>∃ a vs,v=.ref a/\H a=some (.lst vs)/\aW H ds vs
 | .dict kvs,v=>∃ a ks,v=.ref a/\H a=some (.dK ks)/\bh ks=some kvs
def aW (H:Hp):List PyData->List V->Prop
 | [],vs=>vs=[]
 | d::ds,vs=>∃ w ws,vs=w::ws/\Rep H d w/\aW H ds ws
end
mutual
theorem Rep.same {H H':Hp} (s:bE H H'):∀ {d:PyData} {v:V},Rep H d v->Rep H' d v
 | .none,_,h=>h
 | .bool _,_,h=>h
 | .int _,_,h=>h
 | .str _,_,h=>h
 | .tuple ds,_,⟨a,vs,e,h,r⟩=>⟨a,vs,e,s _ _ h,aW.same s r⟩
 | .list ds,_,⟨a,vs,e,h,r⟩=>⟨a,vs,e,s _ _ h,aW.same s r⟩
 | .dict _,_,⟨a,ks,e,h,r⟩=>⟨a,ks,e,s _ _ h,r⟩
theorem aW.same {H H':Hp} (s:bE H H'):∀ {ds:List PyData} {vs:List V},aW H ds vs->aW H' ds vs
 | [],_,h=>h
 | _::_,_,⟨w,ws,e,h,r⟩=>⟨w,ws,e,Rep.same s h,aW.same s r⟩
end
theorem aW.length {H:Hp}:∀ {ds:List PyData} {vs:List V},aW H ds vs->vs.length=ds.length
 | [],_,h=>by cases h;rfl
 | _::ds,_,⟨w,ws,e,_,r⟩=>by rw [e,List.length_cons,List.length_cons,aW.length r]
theorem aW.get {H:Hp}:∀ {ds:List PyData} {vs:List V} {i:Nat} {v:V},aW H ds vs->vs[i]?=some v->∃ d,ds[i]?=some d/\Rep H d v
 | [],_,i,v,h,e=>by cases h;simp at e
 | d::ds,_,0,v,⟨w,ws,e0,h,r⟩,e=>by subst e0;simp at e;subst e;exact ⟨d,rfl,h⟩
 | d::ds,_,i+1,v,⟨w,ws,e0,h,r⟩,e=>by
  subst e0
  obtain ⟨u,e1,e2⟩:=aW.get (i:=i) r (by simpa using e)
  exact ⟨u,by simpa using e1,e2⟩
theorem aW.get' {H:Hp}:∀ {ds:List PyData} {vs:List V} {i:Nat} {d:PyData},aW H ds vs->ds[i]?=some d->∃ v,vs[i]?=some v/\Rep H d v
 | [],_,i,v,h,e=>by simp at e
 | d::ds,_,0,v,⟨w,ws,e0,h,r⟩,e=>by subst e0;simp at e;subst e;exact ⟨w,rfl,h⟩
 | d::ds,_,i+1,v,⟨w,ws,e0,h,r⟩,e=>by
  subst e0
  obtain ⟨u,e1,e2⟩:=aW.get' (i:=i) r (by simpa using e)
  exact ⟨u,by simpa using e1,e2⟩
theorem aW.append {H:Hp}:∀ {ds es:List PyData} {vs us:List V},aW H ds vs->aW H es us->aW H (ds++es) (vs++us)
 | [],_,_,_,h,r=>by cases h;exact r
 | d::ds,_,_,_,⟨w,ws,e,h,q⟩,r=>by subst e;exact ⟨w,_,rfl,h,aW.append q r⟩
theorem aW.nil {H:Hp}:aW H [] []:=rfl
theorem aW.cons {H:Hp} {d:PyData} {ds:List PyData} {v:V} {vs:List V} (h:Rep H d v) (r:aW H ds vs):aW H (d::ds) (v::vs):=⟨v,vs,rfl,h,r⟩
theorem aW.one {H:Hp} {d:PyData} {v:V} (h:Rep H d v):aW H [d] [v]:=.cons h .nil
theorem aW.take {H:Hp}:∀ {ds:List PyData} {vs:List V} (n:Nat),aW H ds vs->aW H (ds.take n) (vs.take n)
 | [],_,n,h=>by cases h;simp [aW]
 | d::ds,_,0,⟨w,ws,e,h,r⟩=>by subst e;exact rfl
 | d::ds,_,n+1,⟨w,ws,e,h,r⟩=>by subst e;exact .cons h (aW.take n r)
theorem aW.drop {H:Hp}:∀ {ds:List PyData} {vs:List V} (n:Nat),aW H ds vs->aW H (ds.drop n) (vs.drop n)
 | [],_,n,h=>by cases h;simp [aW]
 | d::ds,_,0,h=>h
 | d::ds,_,n+1,⟨w,ws,e,h,r⟩=>by subst e;exact aW.drop n r
theorem vj {h:Heap} {v:V} {u:Value} {d:PyData} (e:fL v=some d) (r:RelV v u):Reads h u d []:=by
 cases v with
 | non=>cases e;cases r;exact .none
 | bl b=>cases e;cases r;exact .bool b
 | int i=>cases e;obtain ⟨t,rfl⟩:=r;exact .int i t
 | str x=>cases e;obtain ⟨t,rfl⟩:=r;exact .str x t
 | _=>cases e
theorem x6 {h:Heap} {k:Key} {u:Value} (e:nH k u=true):Reads h u (tB k) []:=by
 rcases bU e with ⟨i,t,rfl,rfl⟩ | ⟨x,t,rfl,rfl⟩
 ·exact .int i t
 ·exact .str x t
theorem iW {P:Program} {w:World} {h:Heap}:∀ {ks:List (Key×V)} {vs:List (Key×Value)} {es:List DictEntry} {kvs:List (PyData×PyData)},bh ks=some kvs->KV ks vs->Pairs (bX P w) es vs ->
  ReadsAll h (es.map (·.key)) (kvs.map (·.1)) []/\ReadsAll h (es.map (·.val)) (kvs.map (·.2)) []
 | [],_,es,kvs,e,r,p=>by
  cases e
  cases r
  cases es with
  | nil=>exact ⟨.nil,.nil⟩
  | cons _ _=>exact (by cases p)
 | (k,v)::ks,_,es,kvs,e,r,p=>by
  cases r with
  | cons r1 r2=>
   rename_i q vs'
   obtain ⟨k',u⟩:=q
   obtain ⟨e1,e2⟩:=r1
   simp only at e1 e2
   subst e1
   cases p with
   | cons hk hv hr=>
    unfold bh at e
    cases e1:fL v with
    | none=>rw [e1] at e;cases e
    | some d=>
     cases e3:bh ks with
     | none=>rw [e1,e3] at e;cases e
     | some ds=>
      rw [e1,e3] at e
      cases e
      obtain ⟨z1,z2⟩:=iW e3 r2 hr
      exact ⟨.cons (as:=[]) (bs:=[]) (x6 hk) z1,.cons (as:=[]) (bs:=[]) (by show Reads h (DictEntry.val _) d [];rw [hv];exact vj e1 e2) z2⟩
section
variable {X:Cx} {pins:List (Addr×Obj)} {σ:St} {H:Hp} {s:Shared}
mutual
theorem Rep.reads (I:Inv X pins σ H s):∀ {d:PyData} {v:V} {u:Value},Rep H d v->RelV v u->∃ as,Reads s.heap u d as
 | .none,_,u,h,r=>by cases h;cases r;exact ⟨_,.none⟩
 | .bool b,_,u,h,r=>by cases h;cases r;exact ⟨_,.bool b⟩
 | .int i,_,u,h,r=>by cases h;obtain ⟨t,rfl⟩:=r;exact ⟨_,.int i t⟩
 | .str x,_,u,h,r=>by cases h;obtain ⟨t,rfl⟩:=r;exact ⟨_,.str x t⟩
 | .tuple ds,_,u,⟨a,vs,e,h,q⟩,r=>by
  subst e
  cases r
  obtain ⟨_,its,rv,o,ho,hc,n,hd⟩:=I.hok a _ h
  obtain ⟨as,z⟩:=aW.reads I q rv
  exact ⟨_,.tuple ho hc hd (by simpa using z)⟩
 | .list ds,_,u,⟨a,vs,e,h,q⟩,r=>by
  subst e
  cases r
  obtain ⟨_,its,n,rv,ho⟩:=I.hok a _ h
  obtain ⟨as,z⟩:=aW.reads I q rv
  exact ⟨_,.list ho rfl rfl (by simpa using z)⟩
 | .dict kvs,_,u,⟨a,ks,e,h,q⟩,r=>by
  subst e
  cases r
  obtain ⟨_,_,vs,rk,o,es,ep,ho,hx,hd,_,hp,_⟩:=I.hok a _ h
  obtain ⟨z1,z2⟩:=iW (P:=X.prog) (w:=X.w) (h:=s.heap) q rk hp
  exact ⟨_,.dict ho hx.1 hd z1 z2⟩
theorem aW.reads (I:Inv X pins σ H s):∀ {ds:List PyData} {vs:List V} {us:List Value},aW H ds vs->Vals vs us->∃ as,ReadsAll s.heap us ds as
 | [],_,us,h,r=>by cases h;cases r;exact ⟨_,.nil⟩
 | d::ds,_,us,⟨w,ws,e,h,q⟩,r=>by
  subst e
  cases r with
  | cons r1 r2=>
   obtain ⟨as,z⟩:=Rep.reads I h r1
   obtain ⟨bs,y⟩:=aW.reads I q r2
   exact ⟨_,.cons z y⟩
end
end
section
variable {X:Cx} {k:Nat}
def EH:List V->Hp->VK->Prop:=fun xs H Q=>∃ kvs v,xs=[v]/\Rep H (.dict kvs) v/\(PyData.dict kvs).showable=true/\(PyData.dict kvs).depth<=20/\(PyData.dict kvs).shown.length<=sizeLine/\Q (.str (PyData.dict kvs).shown) H
theorem vk (hr:df k X.A):cR X (.builtin "repr") EH:=by
 intro pins s σ H vs us Q I r h
 obtain ⟨kvs,v,rfl,h1,hs,hd,hz,q⟩:=h
 obtain ⟨a,ks,rfl,ha,e⟩:=h1
 cases r with
 | cons r rr=>
  cases rr
  cases r
  obtain ⟨_,ne,vs,rk,o,es,ep,ho,hx,hdd,_,hp,_⟩:=I.hok a _ ha
  obtain ⟨z1,z2⟩:=iW (P:=X.prog) (w:=X.w) (h:=s.heap) e rk hp
  refine repr_of_reads' (Reads.dict ho hx.1 hdd z1 z2) hs (fun _ hm=>?_) hr.gd (by have:=hr.units;omega) (fun _ _ e=>e) (fun h' t tk hk=>⟨.str _,H,I.kept hk,⟨_,rfl⟩,q⟩) hz
  have:sysModules=a:=by simpa using hm
  rw [<- this] at ne
  simp at ne
def GC:PyData->String
 | .none => "NoneType"
 | .bool _ => "bool"
 | .int _ => "int"
 | .str _ => "str"
 | .tuple _ => "tuple"
 | .list _ => "list"
 | .dict _ => "dict"
theorem Rep.ty {H:Hp} {K:PySem.W.Frag} {d:PyData} {v:V} (h:Rep H d v):kA K H v (.type (GC d)):=by
 cases d with
 | none=>cases h;exact .non
 | bool b=>cases h;exact .bl b
 | int i=>cases h;exact .int i
 | str x=>cases h;exact .str x
 | tuple ds=>obtain ⟨a,vs,rfl,e,_⟩:=h;exact .tup e
 | list ds=>obtain ⟨a,vs,rfl,e,_⟩:=h;exact .lst e
 | dict ds=>obtain ⟨a,ks,rfl,e,_⟩:=h;exact .dK e
theorem zg:cR X (.builtin "isinstance") (fun xs H Q=>∃ x n t b,xs=[x,.ty n]/\kA X.K H x t/\PySem.W.kitOne X.K t (.type n)=some b/\Q (.bl b) H):=by
 intro pins s σ H vs us Q I r h
 obtain ⟨x,n,t,b,rfl,ty,e,q⟩:=h
 cases r with
 | cons r rr=>
  cases rr with
  | cons r' rr=>
   cases rr
   cases r'
   exact xU I r ty e fun tk=>⟨.bl b,H,I.tok _,rfl,q⟩
theorem kit_tuple (K:PySem.W.Frag) (d:PyData):PySem.W.kitOne K (.type (GC d)) (.type "tuple")=some (match d with | .tuple _=>true | _=>false):=by
 cases d<;>first | rfl | decide
theorem BS (K:PySem.W.Frag) (d:PyData):PySem.W.kitOne K (.type (GC d)) (.type "str")=some (match d with | .str _=>true | _=>false):=by
 cases d<;>first | rfl | decide
end
end L2
namespace L2
open PySem PySem.Spec PyProof.Rows
section
variable {X:Cx} {x:Str} {ps:List Str} {k:Nat} {sp:Sp} {e:Expr} {es:List Expr} {t:TA} {p pos:Pos}
end
theorem bE.upd {H H':Hp} {p:Addr} {o:HO} (s:bE H H') (hp:H' p=none):bE H (upd H' p o):=fun b u e=>by rw [aC (aG (s b u e) hp)];exact s b u e
theorem bE.new {H:Hp} {p:Addr} {o:HO} (hp:H p=none):bE H (L2.upd H p o):=(bE.refl H).upd hp
section
variable {g:TG} {te:TE} {σ:St} {H:Hp} {Q:VK} {n:Nat}
end
theorem pV:bootBuiltins "isinstance" = some (.builtin "isinstance"):=by decide +kernel
theorem dW:bootBuiltins "len" = some (.builtin "len"):=by decide +kernel
theorem hG:bootBuiltins "all" = some (.builtin "all"):=by decide +kernel
theorem jw:bootBuiltins "repr" = some (.builtin "repr"):=by decide +kernel
theorem x8:bootBuiltins "sorted" = some (.builtin "sorted"):=by decide +kernel
theorem x9:bootBuiltins "divmod" = some (.builtin "divmod"):=by decide +kernel
theorem EI:bootBuiltins "abs" = some (.builtin "abs"):=by decide +kernel
theorem EJ:bootBuiltins "min" = some (.builtin "min"):=by decide +kernel
theorem EK:bootBuiltins "max" = some (.builtin "max"):=by decide +kernel
theorem EL:bootBuiltins "str" = some (.type "str"):=by decide +kernel
theorem eL:bootBuiltins "tuple" = some (.type "tuple"):=by decide +kernel
theorem wC:bootBuiltins "list" = some (.type "list"):=by decide +kernel
section
variable {X:Cx} {e e2:Expr} {te te2:TE} {t:TA} {p p2 pos:Pos}
def isTup:PyData->Bool | .tuple _=>true | _=>false
def isStr:PyData->Bool | .str _=>true | _=>false
end
def hU (f:Expr->Option PyData):List Expr->Option (List PyData)
 | []=>some []
 | e::es=>match f e,hU f es with
  | some d,some ds=>some (d::ds)
  | _,_=>none
def m9:Nat->Expr->Option PyData
 | 0,_=>none
 | n+1,e=>match e with
  | .Constant .none _ _=>some .none
  | .Constant (.bool b) _ _=>some (.bool b)
  | .Constant (.int i) _ _=>some (.int i)
  | .Constant (.str x) _ _=>some (.str x)
  | .Tuple es _ _=>if es.length<=1000 then (hU (m9 n) es).map .tuple else none
  | .List es _=>if es.length<=1000 then (hU (m9 n) es).map .list else none
  | .UnaryOp .USub (.Constant (.int i) _ _) _=>some (.int (-i))
  | .BinOp (.Constant (.int a) _ _) .Pow (.Constant (.int b) _ _) _=>if 0<=b/\b<=1000000/\a.natAbs < 2 ^ 64 then some (.int (a ^ b.toNat)) else none
  | .Dict [] [] _=>some (.dict [])
  | .Dict [some (.Constant (.str k) _ _)] [.Constant (.int i) _ _] _=>some (.dict [(.str k,.int i)])
  | _=>none
abbrev qx (n:Nat) (es:List Expr):Option (List PyData):=hU (m9 n) es
def gk (H H' N:Hp):Prop:=∀ c o,N c=some o->H c=none/\H' c=some o
def EM (d:PyData):TE:=fun _ H Q=>∀ r H' N,bE H H'->gk H H' N->Rep N d r->Q r H'
def GD (ds:List PyData):TA:=fun _ H Q=>∀ rs H' N,bE H H'->gk H H' N->aW N ds rs->Q rs H'
def pW:Hp:=fun _=>none
theorem gk.no {H H':Hp}:gk H H' pW:=fun _ _ e=>by cases e
def jW (N M:Hp):Hp:=fun c=>match N c with | some o=>some o | none=>M c
theorem EN {N M:Hp}:bE N (jW N M):=fun c o e=>by simp only [jW,e]
theorem EO {H H1 H2 N M:Hp} (n:gk H H1 N) (m:gk H1 H2 M):bE M (jW N M):=fun c o e=>by
 have h1:=(m c o e).1
 cases q:N c with
 | none=>simp only [jW,q,e]
 | some u=>rw [(n c u q).2] at h1;cases h1
theorem gk.plus {H H1 H2 N M:Hp} (s1:bE H H1) (s2:bE H1 H2) (n:gk H H1 N) (m:gk H1 H2 M):gk H H2 (jW N M):=fun c o e=>by
 cases q:N c with
 | some u=>
  simp only [jW,q] at e
  cases e
  exact ⟨(n c _ q).1,s2 _ _ (n c _ q).2⟩
 | none=>
  simp only [jW,q] at e
  exact ⟨s1.free (m c o e).1,(m c o e).2⟩
theorem gk.put {H H1 N:Hp} {p:Addr} {o:HO} (s1:bE H H1) (n:gk H H1 N) (hp:H1 p=none):gk H (upd H1 p o) (upd N p o)/\bE N (upd N p o):=by
 have np:∀ c u,N c=some u->c≠p:=fun c u e z=>by subst z;rw [(n c u e).2] at hp;cases hp
 refine ⟨fun c u e=>?_,fun c u e=>by rw [aC (np c u e)];exact e⟩
 by_cases hc:c=p
 ·subst hc
  rw [bo] at e
  cases e
  exact ⟨s1.free hp,bo⟩
 ·rw [aC hc] at e
  exact ⟨(n c u e).1,by rw [aC hc];exact (n c u e).2⟩
theorem hV:∀ {es:List Expr} {n:Nat} {ds:List PyData},qx n es=some ds->ds.length=es.length
 | [],n,ds,h=>by unfold qx hU at h;cases h;rfl
 | e::es,n,ds,h=>by
  unfold qx hU at h
  split at h
  ·rename_i d ds' h1 h2
   cases h
   rw [List.length_cons,List.length_cons,hV h2]
  ·cases h
section
variable {X:Cx}
theorem rJ {n:Nat} (ih:∀ (e:Expr) (d:PyData),m9 n e=some d->PE X e (EM d)/\∀ es:List Expr,starEach (e::es) X.env=(false,eval e X.env)::starEach es X.env):∀ (es:List Expr) (ds:List PyData),qx n es=some ds->PA X es (GD ds)
 | [],ds,h=>by
  unfold qx hU at h
  cases h
  intro pos pins s σ H Q I q
  exact rA pos pins s σ H Q I (q [] H pW (bE.refl H) .no rfl)
 | e::es,ds,h=>by
  unfold qx hU at h
  split at h
  ·rename_i d ds' h1 h2
   cases h
   obtain ⟨a,b⟩:=ih e d h1
   intro pos pins s σ H Q I q
   refine kB a (rJ ih es ds' h2) (b es) pos pins s σ H Q I fun r H1 N1 s1 n1 hr rs H2 N2 s2 n2 hrs=>q _ H2 _ (s1.trans s2) (n1.plus s1 s2 n2) (.cons (hr.same EN) (hrs.same (EO n1 n2)))
  ·cases h
theorem vm:∀ (n:Nat) (e:Expr) (d:PyData),m9 n e=some d->PE X e (EM d)/\∀ es:List Expr,starEach (e::es) X.env=(false,eval e X.env)::starEach es X.env:=by
 intro n
 induction n with
 | zero=>intro e d h;unfold m9 at h;cases h
 | succ n ih=>
  intro e d h
  unfold m9 at h
  split at h
  ·cases h;exact ⟨fun pins s σ H Q I q=>yJ pins s σ H Q I (q _ H pW (bE.refl H) .no rfl),fun _=>rfl⟩
  ·cases h;exact ⟨fun pins s σ H Q I q=>De pins s σ H Q I (q _ H pW (bE.refl H) .no rfl),fun _=>rfl⟩
  ·cases h;exact ⟨fun pins s σ H Q I q=>lU pins s σ H Q I (q _ H pW (bE.refl H) .no rfl),fun _=>rfl⟩
  ·cases h;exact ⟨fun pins s σ H Q I q=>uX pins s σ H Q I (q _ H pW (bE.refl H) .no rfl),fun _=>rfl⟩
  ·rename_i es k' p'
   split at h
   ·rename_i hl
    cases h1:hU (m9 n) es with
    | none=>rw [h1] at h;cases h
    | some ds=>
     rw [h1] at h
     cases h
     refine ⟨fun pins s σ H Q I q=>yX (rJ ih es ds h1) pins s σ H Q I fun rs H1 N1 s1 n1 hrs=>⟨?_,fun p hp=>q _ _ _ (s1.upd hp) (n1.put s1 hp).1 ⟨p,rs,rfl,bo,hrs.same (n1.put s1 hp).2⟩⟩,fun _=>rfl⟩
     rw [hrs.length,hV h1]
     exact Nat.le_trans hl (by decide)
   ·cases h
  ·rename_i es p'
   split at h
   ·rename_i hl
    cases h1:hU (m9 n) es with
    | none=>rw [h1] at h;cases h
    | some ds=>
     rw [h1] at h
     cases h
     refine ⟨fun pins s σ H Q I q=>u9 (rJ ih es ds h1) pins s σ H Q I fun rs H1 N1 s1 n1 hrs=>⟨?_,fun p hp=>q _ _ _ (s1.upd hp) (n1.put s1 hp).1 ⟨p,rs,rfl,bo,hrs.same (n1.put s1 hp).2⟩⟩,fun _=>rfl⟩
     rw [hrs.length,hV h1]
     exact Nat.le_trans hl (by decide)
   ·cases h
  ·cases h;exact ⟨fun pins s σ H Q I q=>Gf Eo lU pins s σ H Q I ⟨_,rfl,q _ H pW (bE.refl H) .no rfl⟩,fun _=>rfl⟩
  ·split at h
   ·rename_i hl
    cases h
    exact ⟨fun pins s σ H Q I q=>Dh En lU lU pins s σ H Q I ⟨_,_,rfl,rfl,hl,q _ H pW (bE.refl H) .no rfl⟩,fun _=>rfl⟩
   ·cases h
  ·cases h;exact ⟨fun pins s σ H Q I q=>zd pins s σ H Q I fun p hp=>q _ _ (upd pW p (.dK [])) (bE.new hp) (gk.put (bE.refl H) .no hp).1 ⟨p,[],rfl,bo,rfl⟩,fun _=>rfl⟩
  ·rename_i k k1 p1 i i1 p2 p3
   cases h
   refine ⟨fun pins s σ H Q I q=>BR (ze uX lU BQ) rfl rfl (by simp) (by show 1<=15;decide) pins s σ H Q I fun p hp=>⟨bo,[(Sum.inr k,V.int i)],rfl,by show 1<=15;decide,?_⟩,fun _=>rfl⟩
   refine q _ _ (upd pW p (.dK [(Sum.inr k,V.int i)])) (fun b o e=>?_) (fun c o e=>?_) ⟨p,[(Sum.inr k,V.int i)],rfl,bo,rfl⟩
   ·rw [aC (aG e hp),aC (aG e hp)]
    exact e
   ·by_cases hc:c=p
    ·subst hc
     rw [bo] at e
     cases e
     exact ⟨hp,bo⟩
    ·rw [aC hc] at e
     cases e
  ·cases h
@[irreducible] def Lit (n:Nat) (e:Expr) (d:PyData):Prop:=m9 n e=some d
theorem Lit.of {n:Nat} {e:Expr} {d:PyData} (h:m9 n e=some d):Lit n e d:=by unfold Lit;exact h
theorem Lit.eq {n:Nat} {e:Expr} {d:PyData} (h:Lit n e d):m9 n e=some d:=by unfold Lit at h;exact h
theorem ER (n:Nat) {e:Expr} {d:PyData} (h:Lit n e d):PE X e (EM d):=(vm n e d h.eq).1
end
end L2
namespace L2
open PySem PySem.Spec PyProof.Rows
section
open PySem.SeqAt
open PySem.AutoSeq1 (wpAny_loadPart')
open PySem.MeetsSeq PySem.MeetsSeq2 PySem.MeetsSeq3
end
section
variable {X:Cx} {k:Nat}
def cutD (ds:List PyData) (lo hi:Option Int):List PyData:=(ds.drop (HT.dH ds.length 0 lo)).take (HT.dH ds.length ds.length hi - HT.dH ds.length 0 lo)
theorem pX {P:Program} {w:World} {A:Around} {E:Value->Shared->Prop} {s:Shared} {t sl:Addr} {items:Array Value} {vl vu:Value} {lo hi:Option Int} {Q:Value->Shared->Prop} (ht:IsTup s.heap t items) (hs:s.heap.IsSliceOf sl vl vu .none) (pl:IsPart vl lo) (pu:IsPart vu hi)
  (h0:HT.dH items.size 0 lo=0) (h1:HT.dH items.size items.size hi=items.size) (q:Q (.ref t) s):wpAny (model P w) A (getItem (.ref t) (.ref sl)) Q E s:=by
 obtain ⟨os,hos,hcs,hds⟩:=id hs
 have hTs:s.TypeIs (.ref sl) "slice" := ⟨os,hos,hcs⟩
 unfold getItem
 try with_reducible refine wpAny_holding ?_
 first | refine wpAny_bind (wpAny_pure ?_) | skip
 refine wpAny_bind (wpAny_sequenceKey ht.typeIs (by decide) ?_)
 refine wpAny_bind (wpAny_callSpecial?_slot (name:=Str.ofString "__getitem__") ht.typeIs PyProof.Rows.slot_tuple_getitem (wpAny_call_entry PyProof.Rows.slot_tuple_getitem ht.typeIs entry_tuple_getitem ?_ (args_tuple_getitem _ _)))
 show wpAny _ _ (Builtin.Tuple.tupleItemsOf (.ref t) >>= _) _ _ s
 refine wpAny_bind (tupleItemsOf_ ht (wpAny_bind (wpAny_typeOf hTs ?_)))
 rw [if_pos (by decide)]
 refine wpAny_bind (HT.gM hs pl pu ?_)
 rw [h0,h1]
 show wpAny _ _ (if ((((0:Nat):Int) == 0 && (1:Int) == 1 && (items.size - 0) == items.size)=true) then _ else _) _ _ s
 rw [if_pos (by simp)]
 unfold Builtin.Tuple.tupleIsExact
 refine wpAny_bind (wpAny_bind (wpAny_typeOf ht.typeIs (wpAny_pure ?_)))
 first
  | exact wpAny_bind (wpAny_rule (wpAny_bind (wpAny_pure (wpAny_pure ⟨_,rfl,wpAny_pure q⟩))))
  | exact wpAny_bind (wpAny_rule (wpAny_pure ⟨_,rfl,wpAny_pure q⟩))
  | (rw [if_pos (by decide)];exact wpAny_bind (wpAny_rule (wpAny_bind (wpAny_pure (wpAny_pure ⟨_,rfl,wpAny_pure q⟩)))))
  | (rw [if_pos (by decide)];exact wpAny_bind (wpAny_rule (wpAny_pure ⟨_,rfl,wpAny_pure q⟩)))
end
end L2
namespace L2
open PySem PySem.Spec PyProof.Rows
def sQ (P:Program) (w:World):yE:=fun outer H s E e s'=>
 ∃ (a:Addr) (cls:Value) (t:Addr) (B:Heap) (H':Hp),e=.ref a/\s'.os=s.os/\AllBare s'.gens/\Un (qo outer) [] H H' s.heap s'.heap/\iP P w H' s'.heap/\Heap.FlyingW B outer a cls (.ref t) s'.heap /\
  (∀ b o,s.heap.get? b=some o->b∉qo outer->∃ o',s'.heap.get? b=some o'/\B.get? b=some o')/\(∀ b u,H' b=some u->∃ o',s'.heap.get? b=some o'/\B.get? b=some o')/\E cls none H'
section
variable {P:Program} {w:World} {K:PySem.W.Frag} {mg:Str->Option Value} {base:Heap} {N:List Str} {qual:Str} {scope:Scope} {f:Addr} {cd:Value} {A:Around} {outer:List Env} {s:Shared} {H:Hp} {E:XK}
theorem bP:Passes (sQ P w) (pQ (sQ P w) P w K mg base N qual scope f cd A outer s H E) E:=by
 intro pins σ H1 s1 e s' I ⟨a,cls,t,B,H',e1,os,bare,un,hok,fl,old,xK,q⟩
 subst e1
 have J:=I.Dd os un hok bare (fun b z=>nomatch z)
 have hfr:(A.deeper (envOfC qual scope s.heap.objs.size f cd)).frames=some (envOfC qual scope s.heap.objs.size f cd::outer):=I.ok.frames
 have noA:∀ b:Addr,b∉(pQ (sQ P w) P w K mg base N qual scope f cd A outer s H E).ex:=fun b z=>nomatch z
 have inB:∀ b o,s.heap.get? b=some o->b∉qo outer->∃ o',s'.heap.get? b=some o'/\B.get? b=some o':=fun b o e hb=>by
  obtain ⟨o1,e1⟩:=I.base.there b o e (noA b)
  refine old b o1 e1 fun z=>?_
  rcases List.mem_cons.mp (I.iQ b z) with z | z
  ·have z2:b=s.heap.objs.size:=z
   exact absurd (Heap.lt_size e) (by rw [z2];exact Nat.lt_irrefl _)
  ·exact hb z
 refine wpAny_leaves_onW hfr rfl fl fun h' fl' up=>?_
 refine ⟨a,cls,t,B,H',rfl,os.trans I.os,bare,⟨fun b o e n hb _=>?_,fun b o e n hb _=>?_,fun b o e n _=>J.base.free b o e n (noA b),fun b o e _=>?_,J.base.tups,J.base.frzs,J.base.tbls⟩,fun b u e=>?_,fl',fun b o e hb=>?_,fun b u e=>?_,q⟩
 ·have e2:=J.base.keep b o e n hb (noA b)
  obtain ⟨o',e3,e4⟩:=inB b o e hb
  rw [e2] at e3;cases e3
  exact fl'.1 b o e4
 ·obtain ⟨sl,e2⟩:=J.base.slot b o e n hb (noA b)
  obtain ⟨_,o',e3,nf⟩:=J.ky.mem hb
  rw [e2] at e3;cases e3
  obtain ⟨sl',e4⟩:=up b _ e2 nf
  exact ⟨sl',e4⟩
 ·by_cases hb:b∈qo outer
  ·obtain ⟨o2,e2⟩:=J.base.there b o e (noA b)
   obtain ⟨_,o',e3,nf⟩:=J.ky.mem hb
   obtain ⟨sl',e4⟩:=up b _ e3 nf
   exact ⟨_,e4⟩
  ·obtain ⟨o',e3,e4⟩:=inB b o e hb
   exact ⟨o',fl'.1 b o' e4⟩
 ·refine (hok b u e).pN (fun c v hc z=>?_) (fun _ z=>z) fun _ _ z=>z
  have:∃ u',H' c=some u':=by
   rcases hc with hc | hc
   ·exact ⟨u,hc▸e⟩
   ·exact ⟨_,hc⟩
  obtain ⟨u',hu⟩:=this
  obtain ⟨o',e3,e4⟩:=xK c u' hu
  rw [z] at e3;cases e3
  exact fl'.1 c v e4
 ·obtain ⟨o',e3,e4⟩:=inB b o e hb
  exact ⟨o',fl'.1 b o' e4,e4⟩
 ·obtain ⟨o',e3,e4⟩:=xK b u e
  exact ⟨o',fl'.1 b o' e4,e4⟩
end
end L2
namespace L2
open PySem PySem.Spec PyProof.Rows
def BU (a:Addr) (cls:Value):Heap->Prop:=fun h=>∃ o,h.get? a=some o/\o.cls=cls
end L2
namespace PySem.W
open PySem PySem.Spec PySem.Calls PyProof.Rows Builtin Builtin.ObjectAttr Builtin.Getset_descriptor
section
variable {prog:Program} {w:World} {K:Frag} {y D:Addr}
end
end PySem.W
namespace L2
open PySem PySem.Spec PyProof.Rows
section
variable {X:Cx}
end
end L2
namespace L2
open PySem PySem.Spec PyProof.Rows
end L2
namespace L2
open PySem
section
variable {X:Cx} {e:Expr} {te:TE} {p pos:Pos}
end
end L2
namespace L2
open PySem PySem.Spec PyProof.Rows
structure Ext (H G H' G':Hp):Prop where
 sh:bE H H'
 sg:bE G G'
 gs:bE G' H'
 old:∀ c,H c≠none->G' c=G c
theorem Ext.refl {H G:Hp} (s:bE G H):Ext H G H G:=⟨bE.refl H,bE.refl G,s,fun _ _=>rfl⟩
theorem Ext.new {H G:Hp} {p:Addr} {o:HO} (s:bE G H) (hp:H p=none):Ext H G (upd H p o) (upd G p o):=by
 refine ⟨bE.new hp,bE.new (s.free hp),fun c u e=>?_,fun c hc=>aC fun z=>hc (z▸hp)⟩
 by_cases h:c=p
 ·subst h;rw [bo] at e ⊢;exact e
 ·rw [aC h] at e ⊢;exact s c u e
section
variable {X:Cx} {k:Nat}
def GF:R2:=fun x y H Q=>∃ G ds es,bE G H/\Rep G (.tuple ds) x/\Rep G (.tuple es) y/\ds.length+es.length<=sizeLine/\∀ r H' G',Ext H G H' G'->Rep G' (.tuple (ds++es)) r->Q r H'
theorem BV:gg X (binaryOp .Add) GF:=by
 intro pins s σ H x y v u Q I rx ry h
 obtain ⟨G,ds,es,sg,h1,h2,hz,q⟩:=h
 obtain ⟨a,vs,rfl,ha,r1⟩:=id h1
 obtain ⟨b,us,rfl,hb,r2⟩:=id h2
 by_cases hv:vs=[]
 ·subst hv
  have hd:ds=[]:=List.length_eq_zero_iff.mp r1.length.symm
  subst hd
  cases rx
  cases ry
  obtain ⟨its1,v1,⟨⟨c1,d1,e1,l1⟩,p1,g1,n1,z1⟩,_⟩:=I.tuple (eZ.of (K:=X.K) (sg _ _ ha))
  obtain ⟨its2,v2,⟨⟨c2,d2,e2,l2⟩,p2,g2,n2,z2⟩,_⟩:=I.tuple (eZ.of (K:=X.K) (sg _ _ hb))
  simp only at g1 z1 g2 z2
  subst g1 z1 g2 z2
  cases v1
  exact concat_meets ⟨_,p1,rfl⟩ ⟨_,p2,rfl⟩ noFill_tuple_add seq_tuple_add PySem.F.slot_tuple_add PySem.F.entry_tuple_add (PySem.F.args_tuple_add_2 _ _) (tuple_addW0 a b _ _ n1 n2 d1 d2 l1 l2 rfl) ⟨p1,p2,⟨.ref b,H,I,rfl,q _ H G (Ext.refl sg) h2⟩⟩
 ·refine BG pins s σ H _ _ v u Q I rx ry ⟨a,b,vs,us,rfl,rfl,eZ.of (sg _ _ ha),eZ.of (sg _ _ hb),hv,by rw [r1.length,r2.length];exact hz,fun e=>?_,fun e p hp=>?_⟩
  ·subst e
   have he:es=[]:=List.length_eq_zero_iff.mp r2.length.symm
   subst he
   exact q _ H G (Ext.refl sg) (by rw [List.append_nil];exact h1)
  ·have x:=Ext.new (o:=.tup (vs++us)) sg hp
   exact q _ _ _ x ⟨p,_,rfl,bo,aW.append (r1.same x.sg) (r2.same x.sg)⟩
def IF:V->Option Int->Option Int->Hp->VK->Prop:=fun x lo hi H Q=>∃ G ds,bE G H/\Rep G (.tuple ds) x/\∀ r H' G',Ext H G H' G'->Rep G' (.tuple (cutD ds lo hi)) r->Q r H'
theorem BW:Gs X IF:=by
 intro pins s σ H x v vl vu lo hi sl Q I rx hs pl pu h
 obtain ⟨G,ds,sg,h1,q⟩:=h
 obtain ⟨a,xs,rfl,ha,r1⟩:=id h1
 cases rx
 obtain ⟨its,rv,ht,hz⟩:=I.tuple (eZ.of (K:=X.K) (sg _ _ ha))
 have hl:its.toArray.size=xs.length:=by rw [List.size_toArray];exact rv.length.symm
 by_cases hw:HT.dH xs.length 0 lo=0/\HT.dH xs.length xs.length hi=xs.length
 ·refine ⟨"tuple",_,PyProof.Rows.slot_tuple_getitem.lookup,ht.typeIs,pX ht hs pl pu (by rw [hl];exact hw.1) (by rw [hl];exact hw.2) ⟨.ref a,H,I,rfl,q _ H G (Ext.refl sg) ?_⟩⟩
  have e:cutD ds lo hi=ds:=by
   unfold cutD
   rw [<- r1.length,hw.1,hw.2,List.drop_zero,Nat.sub_zero,r1.length,List.take_length]
  rw [e]
  exact h1
 ·refine Eu pins s σ H (.ref a) _ vl vu lo hi sl Q I rfl hs pl pu ⟨a,xs,rfl,eZ.of (sg _ _ ha),hw,fun p hp=>?_⟩
  have x:=Ext.new (o:=.tup (pR xs lo hi)) sg hp
  refine q _ _ _ x ⟨p,_,rfl,bo,?_⟩
  have e:cutD ds lo hi=(ds.drop (HT.dH xs.length 0 lo)).take (HT.dH xs.length xs.length hi - HT.dH xs.length 0 lo):=by
   unfold cutD
   rw [r1.length]
  rw [e]
  exact ((r1.same x.sg).drop _).take _
end
end L2
namespace L2
open PySem PySem.Spec PyProof.Rows
end L2
namespace L2
open PySem PySem.Spec PyProof.Rows
section
variable {X:Cx} {o e:Expr} {es:List Expr} {to te:TE} {t:TA} {name:Str} {apos cpos p pos:Pos} {T id:String} {r:V->List V->Hp->VK->Prop}
end
end L2
namespace L2
open PySem PySem.Spec PyProof.Rows
theorem Vals.Du:∀ (us:List Value) (f:Nat->V),(∀ j v,us[j]?=some v->RelV (f j) v)->Vals ((List.range us.length).map f) us
 | [],_,_=>.nil
 | u::us,f,h=>by
  rw [List.length_cons,List.range_succ_eq_map,List.map_cons,List.map_map]
  exact .cons (h 0 u rfl) (Vals.Du us (f∘Nat.succ) fun j v e=>h (j+1) v e)
section
variable {X:Cx}
theorem tD (hc:X.calm=true):cR X (.type "tuple") (fun xs H Q=>∃ x,xs=[.str x]/\x.cps.size<=sizeLine/\∀ p,H p=none->Q (.ref p) (upd H p (.tup ((List.range x.cps.size).map (sgn x))))):=by
 intro pins s σ H xs us Q I r h
 obtain ⟨x,rfl,hz,q⟩:=h
 obtain ⟨u,rfl,rx⟩:=vals1 r
 obtain ⟨t,rfl⟩:=rx
 refine call_tuple_str (I.ok.hd hc) x t (fun h' tk acc kp hacc=>?_) hz
 have I1:Inv X pins σ H {s with heap:=h',toks:=tk}:=I.kept (t':=tk) kp
 have hv:Vals ((List.range x.cps.size).map (sgn x)) acc.toList:=by
  have e:acc.toList.length=x.cps.size:=by rw [Array.length_toList,hacc.1]
  rw [<- e]
  refine Vals.Du _ _ fun j v ev=>rH j v ?_ (hacc.2 j v (by simpa using ev))
  rw [<- e]
  exact (List.getElem?_eq_some_iff.mp ev).1
 have I2:Inv X pins σ (upd H h'.objs.size (.tup ((List.range x.cps.size).map (sgn x)))) {s with heap:=h'.push {cls:=.type "tuple",data:=.seq acc},toks:=tk}:=by
  refine I1.laid (t':=tk) (fun b o e=>Heap.get?_push_of_some _ e) (Nat.le_refl _) (show cA X.prog X.w _ _ _ (.tup _) from ⟨by rw [List.length_map,List.length_range];exact hz,acc.toList,hv,?_⟩)
  have:=IsTup.new h' acc
  simpa using this
 exact ⟨.ref h'.objs.size,_,I2,rfl,q _ (I1.hok.fresh (Nat.le_refl _))⟩
end
end L2
namespace L2
open PySem
end L2
namespace L2
open PySem PySem.Spec PyProof.Rows
def recAt (c:Addr) (q:Str):Heap->Prop:=fun h=>h.CodeRec (.ref c) q
section
variable {X:Cx} {pins:List (Addr×Obj)} {σ:St} {H:Hp} {s:Shared}
end
end L2
namespace L2
open PySem PySem.Spec PyProof.Rows
section
variable {X:Cx}
end
end L2
namespace PySem.SeqAt
open PySem PySem.MeetsSeq PySem.AutoSeq1
theorem nS (b:Str) (u:Tok) (l:Addr) (es:Array DictEntry) (n:Nat) (dd:Option Addr) (sl:Array (Option Value)) :
  Meets (Builtin.«str.__eq__» ⟨[.str b u,.ref l],[]⟩) (fun _ R s=>s.heap.get? l=some {cls:=.type "dict",dict:=dd,data:=.dict es n,slots:=sl}/\R (.ok (.ret .notImplemented)) s):=
 .of_wp fun prog w A R s h=>by
  obtain ⟨hp,g,d,tk,os⟩:=s
  obtain ⟨hl,h⟩:=h
  wp_walk using wpAny_loadPart' hl,wpAny_load hl
  exact ⟨_,rfl,h⟩
theorem nT (b:Str) (u:Tok) (l:Addr) (es:Array DictEntry) (n:Nat) (dd:Option Addr) (sl:Array (Option Value)) :
  Meets (Builtin.«dict.__eq__» ⟨[.ref l,.str b u],[]⟩) (fun _ R s=>s.heap.get? l=some {cls:=.type "dict",dict:=dd,data:=.dict es n,slots:=sl}/\R (.ok (.ret .notImplemented)) s):=
 .of_wp fun prog w A R s h=>by
  obtain ⟨hp,g,d,tk,os⟩:=s
  obtain ⟨hl,h⟩:=h
  have f1:=F.sub_str_dict
  wp_walk using wpAny_loadPart' hl,wpAny_load hl
  exact ⟨_,rfl,h⟩
theorem EqAt.BX {A:Around} {s:Shared} {l:Addr} {es:Array DictEntry} {n:Nat} {dd:Option Addr} {sl:Array (Option Value)} (b:Str) (u:Tok) (hl:s.heap.get? l=some {cls:=.type "dict",dict:=dd,data:=.dict es n,slots:=sl}) (hu:A.units < cLine):EqAt A s (.str b u) (.ref l) false:=fun prog w E Q h=>by
 unfold eqBool
 refine wpAny_holding (wpAny_ite_split (fun hab=>absurd (eq_of_beq hab) nofun) (fun _=>wpAny_bind ?_))
 refine rc_eq_decline_or (k:=false) (typeIs_str s b u) ⟨_,hl,rfl⟩ (by decide) F.sub_dict_str F.slot_str_eq F.slot_dict_eq_refl
  (fun _ hq=>call_meets F.slot_str_eq (typeIs_str s b u) F.entry_str_eq (F.args_str_eq_2 _ _) (nS b u l es n dd sl) ⟨hl,hq⟩)
  (fun _ hq=>call_meets F.slot_dict_eq_refl ⟨_,hl,rfl⟩ F.entry_dict_eq (F.args_dict_eq_2 _ _) (nT b u l es n dd sl) ⟨hl,hq⟩)
  (fun _ hq=>wpAny_of_eq (rfl:isSame (.str b u) (.ref l)=pure false) hq) (.inr hu) (wpAny_truthy_bool h)
end PySem.SeqAt
set_option maxHeartbeats 4000000
namespace PySem.W
open PySem PySem.Calls PyProof.Rows
def KasT.Run {α:Type} (lt:Nat->Nat->Bool) (n:Nat):KasT α->(α->Prop)->Prop
 | .ret a,P=>P a
 | .ask i j k,P=>i < n/\j < n/\(k (lt i j)).Run lt n P
theorem KasT.run_bind {α β:Type} {lt:Nat->Nat->Bool} {n:Nat} {f:α->KasT β} {P:β->Prop} :
  ∀ (t:KasT α),t.Run lt n (fun a=>(f a).Run lt n P)->(t.bind f).Run lt n P
 | .ret _,h=>h
 | .ask _ _ k,h=>⟨h.1,h.2.1,KasT.run_bind (k _) h.2.2⟩
theorem KasT.dM {α:Type} {lt:Nat->Nat->Bool} {n:Nat} {P Q:α->Prop} (hq:∀ a,P a->Q a) :
  ∀ (t:KasT α),t.Run lt n P->t.Run lt n Q
 | .ret a,h=>hq a h
 | .ask _ _ k,h=>⟨h.1,h.2.1,KasT.dM hq (k _) h.2.2⟩
theorem KasT.zh {α:Type} {lt:Nat->Nat->Bool} {n:Nat} {P:α->Prop} {Q:α->Shared->Prop} {I:Shared->Prop}
  {cmp:Nat->Nat->(Bool->Shared->Prop)->Shared->Prop}
  (hc:∀ i j C s,i < n->j < n->I s->(∀ s',I s'->C (lt i j) s')->cmp i j C s) (hq:∀ a s,P a->I s->Q a s) :
  ∀ (t:KasT α) (s:Shared),t.Run lt n P->I s->t.kasWp cmp Q s
 | .ret a,s,h,hi=>hq a s h hi
 | .ask i j k,s,h,hi=>hc i j _ s h.1 h.2.1 hi (fun s' hs'=>KasT.zh hc hq (k _) s' h.2.2 hs')
structure jH (lt:Nat->Nat->Bool) (n:Nat):Prop where
 as:∀ a b,a < n->b < n->lt a b=true->lt b a=false
 tr:∀ a b c,a < n->b < n->c < n->lt b a=false->lt c b=false->lt c a=false
abbrev pat (p:Array Nat) (k:Nat):Nat:=p.getD k 0
theorem iX (p:Array Nat) (k:Nat):pat p k=p[k]?.getD 0:=by
 show p.getD k 0=_
 simp [Array.getD_eq_getD_getElem?]
structure cn (n:Nat) (p:Array Nat):Prop where
 perm:p.toList.Perm (List.range n)
theorem cn.size {n:Nat} {p:Array Nat} (h:cn n p):p.size=n:=by
 have:=h.perm.length_eq
 simpa using this
theorem cn.lt {n:Nat} {p:Array Nat} (h:cn n p) {k:Nat} (hk:k < n):pat p k < n:=by
 have hs:k < p.size:=by rw [h.size];exact hk
 have e:pat p k=p[k]:=by rw [iX,getElem?_pos p k hs];rfl
 rw [e]
 have:p[k]∈p.toList:=by simp
 exact List.mem_range.mp (h.perm.mem_iff.mp this)
theorem cn.of {n:Nat} {p q:Array Nat} (h:cn n p) (e:q.Perm p):cn n q:=
 ⟨(Array.perm_iff_toList_perm.mp e).trans h.perm⟩
theorem cn.rev {n:Nat} {p:Array Nat} (h:cn n p) (i j:Nat):cn n (kas_rev p i j):=h.of (mirror_perm _ _ _ _)
theorem gm {n:Nat} {p:Array Nat} (h:cn n p) {i j:Nat} (hj:j<=n) (k:Nat) :
  pat (kas_rev p i j) k=if i<=k/\k < j then pat p (i+j - 1 - k) else pat p k:=by
 rw [iX]
 unfold kas_rev
 rw [getElem?_mirror_all (by rw [h.size];exact hj)]
 split<;>rw [iX]
theorem wD {n:Nat} {p:Array Nat} (h:cn n p) {k d:Nat} (hk:k < n) (hd:d<=k) (i:Nat) :
  pat (bubble p k d) i=if i=k - d then pat p k else if k - d < i/\i<=k then pat p (i - 1) else pat p i:=by
 rw [iX,getElem?_bubble (by rw [h.size];exact hk) d hd]
 split
 ·rw [iX]
 ·split<;>rw [iX]
section
variable {lt:Nat->Nat->Bool} {n:Nat}
def tE (lt:Nat->Nat->Bool) (p:Array Nat) (m:Nat):Prop:=∀ i j,i < j->j < m->lt (pat p j) (pat p i)=false
def gn (lt:Nat->Nat->Bool) (p:Array Nat) (m:Nat):Prop:=∀ i j,i < j->j < m->lt (pat p i) (pat p j)=false
theorem jH.IG (O:jH lt n) {x:Nat} (hx:x < n):lt x x=false:=by
 cases hh:lt x x with
 | false=>rfl
 | true=>have:=O.as _ _ hx hx hh;rw [hh] at this;exact this
theorem tE.more (O:jH lt n) {p:Array Nat} (hp:cn n p) {m:Nat} (h1:1<=m) (hm:m < n) (u:tE lt p m) (h:lt (pat p m) (pat p (m - 1))=false):tE lt p (m+1):=by
 intro i j hij hj
 rcases Nat.lt_or_ge j m with h' | h'
 ·exact u i j hij h'
 ·obtain rfl:j=m:=by omega
  rcases Nat.lt_or_ge i (j - 1) with h'' | h''
  ·exact O.tr _ _ _ (hp.lt (by omega)) (hp.lt (by omega)) (hp.lt hm) (u i (j - 1) h'' (by omega)) h
  ·obtain rfl:i=j - 1:=by omega
   exact h
theorem gn.more (O:jH lt n) {p:Array Nat} (hp:cn n p) {m:Nat} (h1:1<=m) (hm:m < n) (u:gn lt p m) (h:lt (pat p (m - 1)) (pat p m)=false):gn lt p (m+1):=by
 intro i j hij hj
 rcases Nat.lt_or_ge j m with h' | h'
 ·exact u i j hij h'
 ·obtain rfl:j=m:=by omega
  rcases Nat.lt_or_ge i (j - 1) with h'' | h''
  ·exact O.tr _ _ _ (hp.lt hm) (hp.lt (by omega)) (hp.lt (by omega)) h (u i (j - 1) h'' (by omega))
  ·obtain rfl:i=j - 1:=by omega
   exact h
theorem rK (O:jH lt n) {p:Array Nat} (hp:cn n p):∀ (f m:Nat),1<=m->m+f<=n->tE lt p m ->
  (kas_asc p f m).Run lt n (fun r=>m<=r/\r<=m+f/\tE lt p r/\(r < m+f->lt (pat p r) (pat p (r - 1))=true))
 | 0,m,h1,hm,u=>⟨Nat.le_refl _,Nat.le_refl _,u,fun h=>absurd h (Nat.lt_irrefl _)⟩
 | f+1,m,h1,hm,u=>by
  refine ⟨hp.lt (by omega),hp.lt (by omega),?_⟩
  cases hc:lt (pat p m) (pat p (m - 1)) with
  | true=>
   simp only [if_true]
   exact ⟨Nat.le_refl _,by omega,u,fun _=>hc⟩
  | false=>
   have hc':=hc
   simp only [Bool.false_eq_true,if_false]
   refine KasT.dM (fun r hr=>?_) _ (rK O hp f (m+1) (by omega) (by omega) (u.more O hp h1 (by omega) hc'))
   exact ⟨by omega,by omega,hr.2.2.1,fun h=>hr.2.2.2 (by omega)⟩
def Hk (lt:Nat->Nat->Bool) (p:Array Nat) (a b:Nat):Prop:=∀ i j,a<=i->i < b->a<=j->j < b->lt (pat p i) (pat p j)=false
theorem nU {p:Array Nat} (hp:cn n p) {a b m:Nat} (hb:b<=m) (hm:m<=n) (d:gn lt p m) (e:Hk lt p a b):gn lt (kas_rev p a b) m:=by
 intro i j hij hj
 rw [gm hp (by omega),gm hp (by omega)]
 split
 ·split
  ·exact e _ _ (by omega) (by omega) (by omega) (by omega)
  ·exact d _ _ (by omega) (by omega)
 ·split
  ·exact d _ _ (by omega) (by omega)
  ·exact d _ _ hij hj
theorem ES {p:Array Nat} (hp:cn n p) {m:Nat} (hm:m<=n) (d:gn lt p m):tE lt (kas_rev p 0 m) m:=by
 intro i j hij hj
 rw [gm hp hm,gm hp hm,if_pos (by omega),if_pos (by omega)]
 exact d _ _ (by omega) (by omega)
theorem gn.zero {p:Array Nat}:gn lt p 1:=fun i j h h'=>by omega
theorem kJ (O:jH lt n):∀ (f:Nat) (p:Array Nat) (m q:Nat),cn n p->q+1<=m->m+f<=n->gn lt p m->Hk lt p (m - (q+1)) m ->
  (kas_desc f p m q).Run lt n (fun r=>cn n r.1/\r.2.2+1<=r.2.1/\r.2.1<=m+f/\gn lt r.1 r.2.1/\Hk lt r.1 (r.2.1 - (r.2.2+1)) r.2.1)
 | 0,p,m,q,hp,hq,hm,d,e=>⟨hp,hq,Nat.le_refl _,d,e⟩
 | f+1,p,m,q,hp,hq,hm,d,e=>by
  refine ⟨hp.lt (by omega),hp.lt (by omega),?_⟩
  cases hc:lt (p.getD m 0) (p.getD (m - 1) 0) with
  | true=>
   simp only [if_true]
   have h1:lt (pat p (m - 1)) (pat p m)=false:=O.as _ _ (hp.lt (by omega)) (hp.lt (by omega)) hc
   split
   ·have hd2:=nU (n:=n) hp (Nat.le_refl m) (by omega) d e
    have hp2:=hp.rev (m - (q+1)) m
    refine KasT.dM (fun r hr=>⟨hr.1,hr.2.1,by have:=hr.2.2.1;omega,hr.2.2.2⟩) _ (kJ O f _ (m+1) 0 hp2 (by omega) (by omega) ?_ ?_)
    ·refine hd2.more O hp2 (by omega) (by omega) ?_
     rw [gm hp (by omega),gm hp (by omega),if_pos (by omega),if_neg (by omega)]
     refine O.tr _ _ _ (hp.lt (by omega)) (hp.lt (by omega)) (hp.lt (by omega)) h1 ?_
     exact e _ _ (by omega) (by omega) (by omega) (by omega)
    ·intro i j h1 h2 h3 h4
     obtain rfl:i=m:=by omega
     obtain rfl:j=i:=by omega
     cases hh:lt (pat (kas_rev p (j - (q+1)) j) j) (pat (kas_rev p (j - (q+1)) j) j) with
     | false=>rfl
     | true=>exact (O.as _ _ (hp2.lt (by omega)) (hp2.lt (by omega)) hh).symm.trans hh▸rfl
   ·refine KasT.dM (fun r hr=>⟨hr.1,hr.2.1,by have:=hr.2.2.1;omega,hr.2.2.2⟩) _ (kJ O f _ (m+1) 0 hp (by omega) (by omega) (d.more O hp (by omega) (by omega) h1) ?_)
    intro i j h1 h2 h3 h4
    obtain rfl:i=m:=by omega
    obtain rfl:j=i:=by omega
    cases hh:lt (pat p j) (pat p j) with
    | false=>rfl
    | true=>exact (O.as _ _ (hp.lt (by omega)) (hp.lt (by omega)) hh).symm.trans hh▸rfl
  | false=>
   simp only [Bool.false_eq_true,if_false]
   refine ⟨hp.lt (by omega),hp.lt (by omega),?_⟩
   cases hc2:lt (p.getD (m - 1) 0) (p.getD m 0) with
   | true=>
    simp only [if_true]
    exact ⟨hp,hq,by show m<=_;omega,d,e⟩
   | false=>
    simp only [Bool.false_eq_true,if_false]
    refine KasT.dM (fun r hr=>⟨hr.1,hr.2.1,by have:=hr.2.2.1;omega,hr.2.2.2⟩) _ (kJ O f _ (m+1) (q+1) hp (by omega) (by omega) (d.more O hp (by omega) (by omega) hc2) ?_)
    have IG:lt (pat p m) (pat p m)=false:=by
     cases hh:lt (pat p m) (pat p m) with
     | false=>rfl
     | true=>exact (O.as _ _ (hp.lt (by omega)) (hp.lt (by omega)) hh).symm.trans hh▸rfl
    intro i j h1 h2 h3 h4
    rcases Nat.lt_or_ge i m with hi | hi
    ·rcases Nat.lt_or_ge j m with hj | hj
     ·exact e _ _ (by omega) hi (by omega) hj
     ·obtain rfl:j=m:=by omega
      exact O.tr _ _ _ (hp.lt (by omega)) (hp.lt (show j - 1 < n by omega)) (hp.lt (by omega)) hc2 (e _ _ (by omega) hi (by omega) (by omega))
    ·obtain rfl:i=m:=by omega
     rcases Nat.lt_or_ge j i with hj | hj
     ·exact O.tr _ _ _ (hp.lt (by omega)) (hp.lt (show i - 1 < n by omega)) (hp.lt (by omega)) (e _ _ (by omega) (by omega) (by omega) hj) hc
     ·obtain rfl:j=i:=by omega
      exact IG
def zi (lt:Nat->Nat->Bool) (n:Nat) (r:Nat×Array Nat):Prop:=cn n r.2/\1<=r.1/\r.1<=n/\tE lt r.2 r.1
theorem qy (O:jH lt n) {p:Array Nat} (hp:cn n p) {m:Nat} (h1:1<=m) (hm:m<=n) (d:gn lt p m):(kas_tail3 m n p).Run lt n (zi lt n):=by
 unfold kas_tail3
 refine KasT.run_bind _ (KasT.dM (fun r hr=>?_) _ (rK O (hp.rev 0 m) (n - m) m h1 (by omega) (ES hp hm d)))
 exact ⟨hp.rev 0 m,by show 1<=r;omega,by show r<=n;omega,hr.2.2.1⟩
theorem kK (O:jH lt n) {p:Array Nat} (hp:cn n p) {m:Nat} (h1:1<=m) (hm:m < n) (d:gn lt p (m+1)):(kas_descPart m n p).Run lt n (zi lt n):=by
 unfold kas_descPart
 refine KasT.run_bind _ (KasT.dM (fun r hr=>?_) _ (kJ O (n - (m+1)) p (m+1) 0 hp (by omega) (by omega) d ?_))
 ·split
  ·exact qy O (hr.1.rev _ _) (by omega) (by omega) (nU hr.1 (Nat.le_refl _) (by omega) hr.2.2.2.1 hr.2.2.2.2)
  ·exact qy O hr.1 (by omega) (by omega) hr.2.2.2.1
 ·intro i j h1 h2 h3 h4
  obtain rfl:i=m:=by omega
  obtain rfl:j=i:=by omega
  cases hh:lt (pat p j) (pat p j) with
  | false=>rfl
  | true=>exact (O.as _ _ (hp.lt (by omega)) (hp.lt (by omega)) hh).symm.trans hh▸rfl
theorem ya (O:jH lt n) {p:Array Nat} (hp:cn n p) (h1:1<=n):(kas_count n p).Run lt n (zi lt n):=by
 unfold kas_count
 refine KasT.run_bind _ (KasT.dM (fun r hr=>?_) _ (rK O hp (n - 1) 1 (Nat.le_refl _) (by omega) fun i j h h'=>by omega))
 obtain ⟨hr1,hr2,up,st⟩:=hr
 split
 ·exact ⟨hp,hr1,by show r<=n;omega,up⟩
 ·rename_i hne
  have hlt:r < n:=by
   have:r≠n:=fun e=>hne (by simp [e])
   omega
  have hs:=st (by omega)
  split
  ·rename_i hgt
   refine ⟨hp.lt (by omega),hp.lt (by omega),?_⟩
   dsimp only
   split
   ·exact ⟨hp,hr1,by show r<=n;omega,up⟩
   ·rename_i hc
    have hc:lt (pat p 0) (pat p (r - 1))=false:=by simpa using hc
    have eqs:Hk lt p 0 r:=by
     have lo:∀ i,i < r->lt (pat p i) (pat p 0)=false:=fun i hi=>by
      rcases Nat.eq_zero_or_pos i with rfl | h
      ·cases hh:lt (pat p 0) (pat p 0) with
       | false=>rfl
       | true=>exact (O.as _ _ (hp.lt (by omega)) (hp.lt (by omega)) hh).symm.trans hh▸rfl
      ·exact up 0 i h hi
     have hi:∀ i,i < r->lt (pat p (r - 1)) (pat p i)=false:=fun i hi=>by
      rcases Nat.lt_or_ge i (r - 1) with h | h
      ·exact up i (r - 1) h (by omega)
      ·obtain rfl:i=r - 1:=by omega
       exact O.IG (hp.lt (by omega))
     intro i j _ h2 _ h4
     have a1:lt (pat p 0) (pat p j)=false:=O.tr _ _ _ (hp.lt (by omega)) (hp.lt (show r - 1 < n by omega)) (hp.lt (by omega)) (hi j h4) hc
     exact O.tr _ _ _ (hp.lt (by omega)) (hp.lt (show 0 < n by omega)) (hp.lt (by omega)) a1 (lo i h2)
    have dn:gn lt (kas_rev p 0 r) r:=nU hp (Nat.le_refl r) (by omega) (fun i j h h'=>eqs _ _ (by omega) (by omega) (by omega) h') eqs
    refine kK O (hp.rev 0 r) (by omega) hlt (dn.more O (hp.rev 0 r) (by omega) hlt ?_)
    rw [gm hp (by omega),gm hp (by omega),if_pos (by omega),if_neg (by omega)]
    refine O.tr _ _ _ (hp.lt (by omega)) (hp.lt (show r - 1 < n by omega)) (hp.lt (by omega)) (O.as _ _ (hp.lt (by omega)) (hp.lt (by omega)) hs) ?_
    exact eqs _ _ (by omega) (by omega) (by omega) (by omega)
  ·obtain rfl:r=1:=by omega
   exact kK O hp (by omega) hlt ((gn.zero).more O hp (by omega) hlt (O.as _ _ (hp.lt (by omega)) (hp.lt (by omega)) hs))
theorem lW (O:jH lt n) {p:Array Nat} (hp:cn n p) {k:Nat} (hk:k < n) (u:tE lt p k):∀ (f l r:Nat),l<=r->r<=k->r - l<=f ->
  (∀ i,i < l->lt (pat p k) (pat p i)=false)->(∀ i,r<=i->i < k->lt (pat p i) (pat p k)=false) ->
  (kas_place p k f l r).Run lt n (fun m=>m<=k/\(∀ i,i < m->lt (pat p k) (pat p i)=false)/\(∀ i,m<=i->i < k->lt (pat p i) (pat p k)=false))
 | 0,l,r,h1,h2,h3,a,b=>⟨by show l<=k;omega,a,fun i hi=>b i (by omega)⟩
 | f+1,l,r,h1,h2,h3,a,b=>by
  unfold kas_place
  split
  ·exact ⟨by show l<=k;omega,a,fun i hi=>b i (by omega)⟩
  ·rename_i hlr
   refine ⟨hp.lt hk,hp.lt (by omega),?_⟩
   dsimp only
   split
   ·rename_i hc
    refine lW O hp hk u f l ((l+r) / 2) (by omega) (by omega) (by omega) a fun i hi hik=>?_
    have hm:lt (pat p ((l+r) / 2)) (pat p k)=false:=O.as _ _ (hp.lt hk) (hp.lt (by omega)) hc
    rcases Nat.lt_or_ge ((l+r) / 2) i with h | h
    ·exact O.tr _ _ _ (hp.lt hk) (hp.lt (show (l+r) / 2 < n by omega)) (hp.lt (by omega)) hm (u _ _ h hik)
    ·obtain rfl:i=(l+r) / 2:=by omega
     exact hm
   ·rename_i hc
    have hc:lt (pat p k) (pat p ((l+r) / 2))=false:=by simpa using hc
    refine lW O hp hk u f ((l+r) / 2+1) r (by omega) h2 (by omega) (fun i hi=>?_) b
    rcases Nat.lt_or_ge i ((l+r) / 2) with h | h
    ·exact O.tr _ _ _ (hp.lt (by omega)) (hp.lt (show (l+r) / 2 < n by omega)) (hp.lt hk) (u _ _ h (by omega)) hc
    ·obtain rfl:i=(l+r) / 2:=by omega
     exact hc
theorem wF (O:jH lt n):∀ (f:Nat) (p:Array Nat) (k:Nat),cn n p->k+f=n->tE lt p k->(kas_bin f p k).Run lt n (fun p=>cn n p/\tE lt p n)
 | 0,p,k,hp,hk,u=>⟨hp,by obtain rfl:k=n:=by omega
                         exact u⟩
 | f+1,p,k,hp,hk,u=>by
  unfold kas_bin
  refine KasT.run_bind _ (KasT.dM (fun m hm=>?_) _ (lW O hp (by omega) u k 0 k (Nat.zero_le _) (Nat.le_refl _) (by omega) (fun i h=>by omega) (fun i h h'=>by omega)))
  obtain ⟨hmk,lo,hi⟩:=hm
  refine wF O f _ (k+1) (hp.of (bubble_perm _ _ _)) (by omega) ?_
  intro i j hij hj
  have hd:k - (k - m)=m:=by omega
  rw [wD hp (by omega) (by omega),wD hp (by omega) (by omega),hd]
  by_cases j1:j=m
  ·rw [if_pos j1,if_neg (show ¬ i=m by omega),if_neg (by omega)]
   exact lo i (by omega)
  ·rw [if_neg j1]
   by_cases i1:i=m
   ·rw [if_pos i1,if_pos (by omega)]
    exact hi _ (by omega) (by omega)
   ·rw [if_neg i1]
    by_cases j2:m < j/\j<=k
    ·rw [if_pos j2]
     by_cases i2:m < i/\i<=k
     ·rw [if_pos i2]
      exact u _ _ (by omega) (by omega)
     ·rw [if_neg i2]
      exact u _ _ (by omega) (by omega)
    ·rw [if_neg j2,if_neg (by omega)]
     exact u _ _ hij (by omega)
theorem zj (O:jH lt n) (h:1<=n):(kas_sort n).Run lt n (fun p=>cn n p/\tE lt p n):=by
 unfold kas_sort
 refine KasT.run_bind _ (KasT.dM (fun r hr=>?_) _ (ya O (p:=List.toArray (List.range n)) ⟨List.Perm.refl _⟩ h))
 obtain ⟨hp,h1,h2,u⟩:=hr
 split
 ·rename_i hlt
  have:max r.1 1=r.1:=by omega
  rw [this]
  exact wF O _ _ _ hp (by omega) u
 ·refine ⟨hp,?_⟩
  have e:r.1=n:=by omega
  rw [e] at u
  exact u
end
end PySem.W
set_option maxHeartbeats 4000000
namespace PySem.W
open PySem PySem.Calls PyProof.Rows
section
variable {prog:Program} {w:World} {A:Around} {E:Value->Shared->Prop} {s:Shared}
def zk (prog:Program) (w:World) (A:Around) (vs:List Value) (lt:Nat->Nat->Bool) (s:Shared):Prop:=
 wpAny (model prog w) A (keyKind' vs.toArray) (fun κ s'=>s'=s/\∀ i j C,i < vs.length->j < vs.length->C (lt i j) s ->
  wpAny (model prog w) A (keyLt' κ (vs.getD i Value.none) (vs.getD j Value.none)) C (fun _ _=>False) s) (fun _ _=>False) s
theorem pY {a:Addr} {vs:List Value} {lt:Nat->Nat->Bool} {n:Nat} {P:PySem.Fin->Shared->Prop} (ho:s.heap.get? a=some (seqObj "list" vs.toArray n))
  (O:jH lt vs.length) (h64:vs.length < 64)
  (hk:∀ h',(∀ b o,b≠a->s.heap.get? b=some o->h'.get? b=some o)->2<=vs.length->zk prog w A vs lt {s with heap:=h'})
  (h:∀ p:Array Nat,cn vs.length p->tE lt p vs.length->P (.done (.ret .none)) {s with heap:=sortedHeap s.heap a vs (p.toList.map fun i=>vs.getD i Value.none).toArray}) :
  wpAny (model prog w) A (Builtin.«list.sort» ⟨[.ref a],[]⟩) P E s:=by
 rw [list_sort_plain]
 have ha:a < s.heap.objs.size:=Heap.lt_size ho
 refine wpAny_bind (listItems_at ho rfl ?_)
 refine wpAny_bind (listUpdate_at ho rfl ?_)
 obtain ⟨e1,ho1⟩:∃ e1,(s.heap.update a (Obj.mapSeq fun _=>#[])).get? a=some (seqObj "list" #[] e1):=⟨_,get?_update_seq ho (fun _=>#[])⟩
 refine wpAny_bind (seqEpoch_at ho1 rfl ?_)
 refine wpAny_bind (wpAny_newTuple ?_)
 refine wpAny_bind (wpAny_newList ?_)
 refine wpAny_holding ?_
 have ho6:(((s.heap.update a (Obj.mapSeq fun _=>#[])).push (seqObj "tuple" vs.toArray 0)).push (seqObj "list" #[] 0)).get? a=some (seqObj "list" #[] e1):=by
  rw [Heap.get?_push_ne _ _ _ (by rw [size_push',Heap.size_update];exact Nat.ne_of_lt (Nat.lt_succ_of_lt ha)),Heap.get?_push_ne _ _ _ (by rw [Heap.size_update];exact Nat.ne_of_lt ha)]
  exact ho1
 show wpAny (model prog w) A _ P E {s with heap:=((s.heap.update a (Obj.mapSeq fun _=>#[])).push (seqObj "tuple" vs.toArray 0)).push (seqObj "list" #[] 0)}
 dsimp only
 by_cases h2:vs.toArray.size < 2
 ·rw [if_pos h2,if_pos h2]
  refine wpAny_bind (wpAny_pure ?_)
  rw [StateT.run_pure]
  refine wpAny_bind (wpAny_pure ?_)
  dsimp only
  refine wpAny_bind (seqEpoch_at ho6 rfl ?_)
  refine wpAny_bind (listUpdate_at ho6 rfl ?_ (hsz2:=by rw [Array.size_map];show (pairsOf vs).size<=_;rw [pairsOf_size,sizeLine_eq];omega))
  simp only [bne_self_eq_false,Bool.false_eq_true,if_false]
  have hl:vs.length < 2:=by simpa using h2
  have e:(arrOf (SortSt.mk' general' (vs.toArray.zip vs.toArray) #[] 7 none)).map (·.2)=(((List.range vs.length).toArray).toList.map fun i=>vs.getD i Value.none).toArray:=by
   show (vs.toArray.zip vs.toArray).map (·.2)=_
   match vs,hl with
   | [],_=>simp
   | [x],_=>simp [List.range_succ]
  rw [e]
  exact wpAny_pure (h _ ⟨List.Perm.refl _⟩ fun i j h1 h2=>by omega)
 ·rw [if_neg h2,if_neg h2]
  have hl:2<=vs.length:=by simp at h2;exact h2
  refine wpAny_bind (wpAny_mono (hk _ (fun b o hb q=>?_) hl) (fun κ s' hκ=>?_) fun _ _ x=>x.elim)
  ·have hbs:b < s.heap.objs.size:=Heap.lt_size q
   rw [Heap.get?_push_ne _ _ _ (by rw [size_push',Heap.size_update];exact Nat.ne_of_lt (Nat.lt_succ_of_lt hbs)),Heap.get?_push_ne _ _ _ (by rw [Heap.size_update];exact Nat.ne_of_lt hbs),Heap.get?_update_ne _ _ _ _ hb]
   exact q
  ·obtain ⟨rfl,hc⟩:=hκ
   refine wpAny_bind (wpAny_mono (kat_run (E:=E) (vs:=vs) (ks:=vs) (κ:=κ) (G:=fun p s'=>s'={s with heap:=((s.heap.update a (Obj.mapSeq fun _=>#[])).push (seqObj "tuple" vs.toArray 0)).push (seqObj "list" #[] 0)}/\cn vs.length p/\tE lt p vs.length)
    (Q:=fun st' s'=>s'={s with heap:=((s.heap.update a (Obj.mapSeq fun _=>#[])).push (seqObj "tuple" vs.toArray 0)).push (seqObj "list" #[] 0)}/\failedOf st'=none/\∃ p,cn vs.length p/\tE lt p vs.length/\(arrOf st').map (·.2)=List.toArray (p.toList.map fun i=>vs.getD i Value.none))
    rfl hl h64 (fun p st' s' a1 a2 a3 a4=>⟨a4.1,a3,p,a4.2.1,a4.2.2,kat_snds rfl a2⟩) ?_) ?_ fun _ _ e=>e)
   ·refine KasT.zh (lt:=lt) (n:=vs.length) (P:=fun p=>cn vs.length p/\tE lt p vs.length) (I:=fun s'=>s'={s with heap:=((s.heap.update a (Obj.mapSeq fun _=>#[])).push (seqObj "tuple" vs.toArray 0)).push (seqObj "list" #[] 0)}) ?_ ?_ _ _ (zj O (by omega)) rfl
    ·rintro i j C s' hi hj rfl q
     exact hc i j C hi hj (q _ rfl)
    ·rintro p s' hp rfl
     exact ⟨rfl,hp⟩
   ·rintro ⟨⟨⟩,st'⟩ s' ⟨rfl,hf,p,hp,hu,e⟩
    dsimp only at hf e ⊢
    rw [e]
    refine wpAny_bind (seqEpoch_at ho6 rfl ?_)
    refine wpAny_bind (listUpdate_at ho6 rfl ?_ (hsz2:=by rw [List.size_toArray,List.length_map,Array.length_toList,hp.size,sizeLine_eq];omega))
    rw [hf]
    simp only [bne_self_eq_false,Bool.false_eq_true,if_false]
    exact wpAny_pure (h p hp hu)
theorem nV {l:Addr} {vs:List Value} {lt:Nat->Nat->Bool} {Q:Value->Shared->Prop} (hl:s.heap.IsList l vs.toArray) (O:jH lt vs.length) (h64:vs.length < 64)
  (hk:∀ h',(∀ b o,s.heap.get? b=some o->h'.get? b=some o)->2<=vs.length->zk prog w A.in1.in1 vs lt {s with heap:=h'})
  (h:∀ p:Array Nat,cn vs.length p->tE lt p vs.length->Q (.ref (s.heap.objs.size+1)) {s with heap:=sortedAll s.heap vs (p.toList.map fun i=>vs.getD i Value.none).toArray}) :
  wpAny (model prog w) A (call (.builtin "sorted") [.ref l]) Q E s:=by
 refine Calls.call_function_entry kind_sorted plain_sorted entry_sorted (args_sorted1 _) ?_
 unfold Builtin.«sorted»
 refine wpAny_bind (m:=checkCount "sorted" 1 1 _) (wpAny_pure ?_)
 refine wpAny_bind (collect_list hl ?_)
 refine wpAny_bind (wpAny_newList ?_)
 have hsz:((s.heap.push (seqObj "list" #[] 0)).update s.heap.objs.size (Obj.mapSeq (·++vs.toArray))).objs.size=s.heap.objs.size+1:=by
  rw [Heap.size_update,size_push']
 have hoL:(((s.heap.push (seqObj "list" #[] 0)).update s.heap.objs.size (Obj.mapSeq (·++vs.toArray))).push (seqObj "list" vs.toArray 0)).get? (s.heap.objs.size+1)=some (seqObj "list" vs.toArray 0):=by
  rw [<- hsz];exact Heap.get?_push_size _ rfl
 show wpAny _ _ _ _ _ {s with heap:=((s.heap.push (seqObj "list" #[] 0)).update s.heap.objs.size (Obj.mapSeq (·++vs.toArray))).push (seqObj "list" vs.toArray 0)}
 rw [hsz]
 refine wpAny_bind (wpAny_holding (wpAny_call_entry slot_list_sort ⟨_,hoL,rfl⟩ entry_list_sort (pY hoL O h64 (fun h' k h2=>hk h' (fun b o q=>?_) h2) fun p a1 a2=>⟨_,rfl,?_⟩) (args_list_sort _)))
 ·have hlt:b < s.heap.objs.size:=Heap.lt_size q
  refine k b o (Nat.ne_of_lt (Nat.lt_succ_of_lt hlt)) ?_
  show (((s.heap.push (seqObj "list" #[] 0)).update s.heap.objs.size (Obj.mapSeq (·++vs.toArray))).push (seqObj "list" vs.toArray 0)).get? b=some o
  rw [Heap.get?_push_ne _ _ _ (by rw [hsz];exact Nat.ne_of_lt (Nat.lt_succ_of_lt hlt)),Heap.get?_update_ne _ _ _ _ (Nat.ne_of_lt hlt),Heap.get?_push_ne _ _ _ (Nat.ne_of_lt hlt)]
  exact q
 ·exact wpAny_pure ⟨_,rfl,h p a1 a2⟩
end
end PySem.W
namespace L2
open PySem PySem.Spec PyProof.Rows
open PySem.W (jH cn tE zk nV KatLex kat_lt kat_one kas_mapM kas_first_eq Looks pat)
def jX (x y:Str):Bool:=decide (x.cps.toList < y.cps.toList)
theorem rL (x:Str):jX x x=false:=strKind.irrefl _
theorem vn {x y z:Str} (h:jX x y=true) (h':jX y z=true):jX x z=true:=strKind.trans _ _ _ h h'
theorem zl {x y:Str} (h:jX x y=true):jX y x=false:=by
 cases e:jX y x with
 | false=>rfl
 | true=>have:=vn h e;rw [rL] at this;exact this.symm
theorem wG {x y:Str} (h:jX x y=false) (h':jX y x=false):x=y:=by
 have e:=strKind.total x.cps.toList y.cps.toList h h'
 cases x;cases y
 simpa using e
section
variable {P:Program} {w:World} {A:Around} {E:Value->Shared->Prop} {s:Shared}
theorem tF {M:Model} {vs:List Value} {T:Value} {Q:Option Value->Shared->Prop} (h2:1<=vs.length) (hT:∀ v∈vs,Looks M s.heap (typeOf v) T) (hT2:(T == T)=true) (h:Q (some T) s) :
  wpAny M A (oneTypeOnly' vs.toArray) Q E s:=by
 obtain ⟨v,rest,rfl⟩:∃ v rest,vs=v::rest:=by
  match vs,h2 with
  | v::r,_=>exact ⟨v,r,rfl⟩
 rw [oneTypeOnly'_eq,List.mapM_toArray,map_eq_pure_bind]
 refine wpAny_bind (wpAny_bind (kas_mapM (r:=T) _ (fun v hv Q' hq=>(hT v hv).here hq) (wpAny_pure ?_)))
 have hall:((List.map (fun _=>T) (v::rest)).toArray.all fun x=>x == T)=true:=by
  simp only [List.all_toArray,List.all_map,List.all_eq_true]
  intro _ _
  exact hT2
 have h0:(List.map (fun _=>T) (v::rest)).toArray[0]?=some T:=by simp
 rw [h0]
 simp only [hall,if_true]
 exact wpAny_pure h
end
section
variable {X:Cx} {k:Nat}
theorem kL {α:Type} (d:α):∀ (xs:List α),(List.range xs.length).map (fun i=>xs.getD i d)=xs
 | []=>rfl
 | x::xs=>by
  rw [List.length_cons,List.range_succ_eq_map,List.map_cons,List.map_map]
  have:=kL d xs
  simp only [List.getD_cons_zero,List.cons.injEq,true_and]
  conv=>rhs;rw [<- this]
  exact List.map_congr_left fun i _=>by simp
theorem yb {vs:List V} {us:List Value} (r:Vals vs us) (i:Nat) (hi:i < vs.length):RelV (vs.getD i .non) (us.getD i .none):=by
 obtain ⟨u,h1,h2⟩:=r.get (i:=i) (x:=vs[i]) (by simp [hi])
 have e1:vs.getD i .non=vs[i]:=by simp [hi]
 have e2:us.getD i .none=u:=by simp [List.getD,h1]
 rw [e1,e2]
 exact h2
theorem qz {vs:List V} {us:List Value} (r:Vals vs us):∀ (l:List Nat),(∀ i∈l,i < vs.length)->Vals (l.map fun i=>vs.getD i .non) (l.map fun i=>us.getD i .none)
 | [],_=>.nil
 | i::l,h=>.cons (yb r i (h i (.head _))) (qz r l fun j hj=>h j (.tail _ hj))
theorem qA {ds:List PyData} {vs:List V} (r:aW H ds vs) (dd:PyData):∀ (l:List Nat),(∀ i∈l,i < vs.length)->aW H (l.map fun i=>ds.getD i dd) (l.map fun i=>vs.getD i .non)
 | [],_=>aW.nil
 | i::l,h=>by
  refine aW.cons ?_ (qA r dd l fun j hj=>h j (.tail _ hj))
  have hi:=h i (.head _)
  obtain ⟨d,h1,h2⟩:=r.get (i:=i) (v:=vs[i]) (by simp [hi])
  have e1:vs.getD i .non=vs[i]:=by simp [hi]
  have e2:ds.getD i dd=d:=by simp [List.getD,h1]
  show Rep H (ds.getD i dd) (vs.getD i .non)
  rw [e1,e2]
  exact h2
end
end L2
namespace Ml
open PySem
structure Xc where
 cls:Str
 args:List PyData
inductive D where
 | dat (d:PyData)
 | ref (i:Nat)
 | cx (t:Bool) (kvs:List (PyData×PyData))
 | set (xs:List PyData)
 | fn (n:Str)
 | exc (x:Xc)
 | scr (ns:List Int)
 | ktup (xs:List PyData)
 | rpr (x:Str)
inductive MO where
 | lst (xs:List D)
 | cx (t:Bool) (kvs:List (PyData×PyData))
 | ins (C:Str) (fs:List (Str×D))
 | tab (P:Addr) (q:Str)
abbrev Hm:=List MO
abbrev Fm:=List (Option D)
inductive R (α:Type) where
 | ok (a:α) (h:Hm)
 | exc (x:Xc) (h:Hm)
 | bad
def R.bind {α β:Type}:R α->(α->Hm->R β)->R β
 | .ok a h,f=>f a h
 | .exc x h,_=>.exc x h
 | .bad,_=>.bad
def R.tG {α:Type}:R α->R α
 | .exc _ _=>.bad
 | r=>r
@[simp] theorem R.bQ {α:Type} {a:α} {h:Hm}:(R.ok a h).tG=.ok a h:=rfl
@[simp] theorem R.Hl {α:Type}:(R.bad:R α).tG=.bad:=rfl
@[simp] theorem R.Hn {α:Type} {x:Xc} {h:Hm}:(R.exc x h:R α).tG=.bad:=rfl
@[simp] theorem R.aA {α β:Type} {a:α} {h:Hm} {f:α->Hm->R β}:(R.ok a h).bind f=f a h:=rfl
@[simp] theorem R.zm {α β:Type} {x:Xc} {h:Hm} {f:α->Hm->R β}:(R.exc x h).bind f=.exc x h:=rfl
@[simp] theorem R.GG {α β:Type} {f:α->Hm->R β}:R.bad.bind f=.bad:=rfl
theorem R.bind_assoc {α β γ:Type} (r:R α) (f:α->Hm->R β) (g:β->Hm->R γ):(r.bind f).bind g=r.bind fun a h=>(f a h).bind g:=by cases r<;>rfl
abbrev ME:=Fm->Hm->R D
abbrev MT:=Fm->Hm->R Bool
abbrev MA:=Fm->Hm->R (List D)
inductive Fl where
 | nx (ρ:Fm)
 | rt (d:D)
 | bk (ρ:Fm)
 | ct (ρ:Fm)
abbrev MS:=Fm->Hm->R Fl
abbrev Fn:=List D->Hm->R D
abbrev D.none:D:=.dat .none
abbrev D.bool (b:Bool):D:=.dat (.bool b)
abbrev D.int (i:Int):D:=.dat (.int i)
abbrev D.str (s:Str):D:=.dat (.str s)
def ab (i:Nat):ME:=fun ρ h=>match ρ[i]? with
 | some (some d)=>.ok d h
 | _=>.bad
def ag (d:PyData):ME:=fun _ h=>.ok (.dat d) h
def Kh (n:Str):ME:=fun _ h=>.ok (.fn n) h
def ai:MA:=fun _ h=>.ok [] h
def aa (e:ME) (a:MA):MA:=fun ρ h=>(e ρ h).bind fun x h1=>(a ρ h1).bind fun xs h2=>.ok (x::xs) h2
def ao (f:D->D->Hm->R D) (a b:ME):ME:=fun ρ h=>(a ρ h).bind fun x h1=>(b ρ h1).bind fun y h2=>f x y h2
def Bc (f:D->Hm->R D) (a:ME):ME:=fun ρ h=>(a ρ h).bind fun x h1=>f x h1
def af (f:Fn) (a:MA):ME:=fun ρ h=>(a ρ h).bind fun xs h1=>f xs h1
def aQ (e:ME):MT:=fun ρ h=>(e ρ h).bind fun x h1=>match x with
 | .dat (.bool b)=>.ok b h1
 | _=>.bad
def iR (t:MT):MT:=fun ρ h=>(t ρ h).bind fun b h1=>.ok (!b) h1
def nJ (t u:MT):MT:=fun ρ h=>(t ρ h).bind fun b h1=>if b then u ρ h1 else .ok false h1
def Ba (t u:MT):MT:=fun ρ h=>(t ρ h).bind fun b h1=>if b then .ok true h1 else u ρ h1
def IH (a b:ME):ME:=fun ρ h=>(aQ a ρ h).bind fun c h1=>if c then b ρ h1 else .ok (.bool false) h1
def Ki (a b:ME):ME:=fun ρ h=>(aQ a ρ h).bind fun c h1=>if c then .ok (.bool true) h1 else b ρ h1
def II (a:ME):ME:=fun ρ h=>(aQ a ρ h).bind fun c h1=>.ok (.bool !c) h1
def FX (t:MT) (a b:ME):ME:=fun ρ h=>(t ρ h).bind fun c h1=>if c then a ρ h1 else b ρ h1
def D.data:D->Option PyData
 | .dat d=>some d
 | _=>Option.none
def fU:List D->Option (List PyData)
 | []=>some []
 | x::xs=>match x.data,fU xs with
  | some d,some ds=>some (d::ds)
  | _,_=>Option.none
theorem qB (ds:List PyData):fU (ds.map D.dat)=some ds:=by
 induction ds with
 | nil=>rfl
 | cons d ds ih=>simp [fU,D.data,ih]
def gE (n:Nat):Bool:=decide (n<=16777216)
def jN (xs:List D) (h:Hm):R D:=match fU xs with
 | some ds=>if gE ds.length then .ok (.dat (.tuple ds)) h else .bad
 | Option.none=>.bad
def gq (xs:List D) (h:Hm):R D:=match fU xs with
 | some ds=>if gE ds.length then .ok (.dat (.list ds)) h else .bad
 | Option.none=>.bad
def jO (xs:List D) (h:Hm):R D:=if gE xs.length then .ok (.ref h.length) (h++[.lst xs]) else .bad
def jY (a:MA):ME:=af jN a
def pZ (a:MA):ME:=af gq a
def BY (a:MA):ME:=af jO a
def cB:MS:=fun ρ h=>.ok (.nx ρ) h
def aU (a b:MS):MS:=fun ρ h=>(a ρ h).bind fun f h1=>match f with
 | .nx ρ1=>b ρ1 h1
 | f=>.ok f h1
def bK (i:Nat) (e:ME):MS:=fun ρ h=>(e ρ h).bind fun x h1=>.ok (.nx (ρ.set i (some x))) h1
def qC (e:ME):MS:=fun ρ h=>(e ρ h).bind fun _ h1=>.ok (.nx ρ) h1
def bR (e:ME):MS:=fun ρ h=>(e ρ h).bind fun x h1=>.ok (.rt x) h1
def ko (t:MT) (a b:MS):MS:=fun ρ h=>(t ρ h).bind fun c h1=>if c then a ρ h1 else b ρ h1
def ET:MS:=fun ρ h=>.ok (.bk ρ) h
def GH:MS:=fun ρ h=>.ok (.ct ρ) h
abbrev MG:=D->Fm->Hm->R Fm
def ah (i:Nat):MG:=fun x ρ h=>.ok (ρ.set i (some x)) h
abbrev wH:=List D->Fm->Hm->R Fm
def jD:wH:=fun xs ρ h=>match xs with
 | []=>.ok ρ h
 | _=>.bad
def cM (g:MG) (gs:wH):wH:=fun xs ρ h=>match xs with
 | []=>.bad
 | x::xs=>(g x ρ h).bind fun ρ1 h1=>gs xs ρ1 h1
def jE (gs:wH):MG:=fun x ρ h=>match x with
 | .dat (.tuple ds)=>gs (ds.map D.dat) ρ h
 | _=>.bad
def nW (g:MG) (e:ME):MS:=fun ρ h=>(e ρ h).bind fun x h1=>(g x ρ h1).bind fun ρ1 h2=>.ok (.nx ρ1) h2
def iY:List Nat->List D->Fm->Option Fm
 | [],[],ρ=>some ρ
 | i::is,x::xs,ρ=>iY is xs (ρ.set i (some x))
 | _,_,_=>Option.none
def zo (is:List Nat) (a:MA):MS:=fun ρ h=>(a ρ h).bind fun xs h1=>match iY is xs ρ with
 | some ρ1=>.ok (.nx ρ1) h1
 | Option.none=>.bad
def wI (e:ME):MA:=fun ρ h=>(e ρ h).bind fun x h1=>match x with
 | .dat (.tuple ds)=>.ok (ds.map D.dat) h1
 | _=>.bad
def zp (e:ME):MA:=fun ρ h=>(e ρ h).bind fun x h1=>match x with
 | .dat (.list ds)=>.ok (ds.map D.dat) h1
 | _=>.bad
def signs (x:Str):List D:=(List.range x.cps.size).map fun (i:Nat)=>D.str ⟨#[x.cps.getD i 0]⟩
def zq (e:ME):MA:=fun ρ h=>(e ρ h).bind fun x h1=>match x with
 | .dat (.str s)=>.ok (signs s) h1
 | _=>.bad
def nums (lo:Int) (n:Nat):List D:=(List.range n).map fun (i:Nat)=>D.int (lo+(i:Int))
def eM (a:MA):MA:=fun ρ h=>(a ρ h).bind fun xs h1=>match xs with
 | [.dat (.int j)]=>if -(2 ^ 62)<=j/\j < 2 ^ 62 then .ok (nums 0 j.toNat) h1 else .bad
 | _=>.bad
def EU (a:MA):MA:=fun ρ h=>(a ρ h).bind fun xs h1=>match xs with
 | [.dat (.int i),.dat (.int j)]=>if -(2 ^ 62)<=i/\i < 2 ^ 62/\-(2 ^ 62)<=j/\j < 2 ^ 62 then .ok (nums i (j - i).toNat) h1 else .bad
 | _=>.bad
def jI:List PyData->List PyData->List D
 | x::xs,y::ys=>.dat (.tuple [x,y])::jI xs ys
 | _,_=>[]
def wJ (a:MA):MA:=fun ρ h=>(a ρ h).bind fun xs h1=>match xs with
 | [.dat (.tuple ds),.dat (.tuple es)]=>.ok (jI ds es) h1
 | _=>.bad
def eB (g:MG) (b:MS):List D->Fm->Hm->R Fl
 | [],ρ,h=>.ok (.nx ρ) h
 | x::xs,ρ,h=>(g x ρ h).tG.bind fun ρ1 h1=>(b ρ1 h1).tG.bind fun f h2=>match f with
  | .nx ρ2=>eB g b xs ρ2 h2
  | .ct ρ2=>eB g b xs ρ2 h2
  | .bk ρ2=>.ok (.nx ρ2) h2
  | .rt d=>.ok (.rt d) h2
def gh (it:MA) (g:MG) (b:MS):MS:=fun ρ h=>(it ρ h).tG.bind fun xs h1=>eB g b xs ρ h1
def fg (n:Nat) (ρ:Fm) (g:MG) (t:MT) (e:ME):List D->Hm->R (List D)
 | [],h=>.ok [] h
 | x::xs,h=>(g x (List.replicate n none++ρ) h).tG.bind fun ρ1 h1=>(t ρ1 h1).tG.bind fun c h2=>
  if c then (e ρ1 h2).tG.bind fun y h3=>(fg n ρ g t e xs h3).bind fun ys h4=>.ok (y::ys) h4
  else fg n ρ g t e xs h2
def bT:MT:=fun _ h=>.ok true h
def mJ (n:Nat) (it:MA) (g:MG) (t:MT) (e:ME):MA:=fun ρ h=>(it ρ h).bind fun xs h1=>if gE xs.length then fg n ρ g t e xs h1 else .bad
def aT (n:Nat) (it:MA) (g:MG) (t:MT) (e:ME):ME:=af gq (mJ n it g t e)
def rM (n:Nat) (it:MA) (g:MG) (t:MT) (e:ME):ME:=af jO (mJ n it g t e)
def gO:Fl->Hm->R D
 | .rt d,h=>.ok d h
 | .nx _,h=>.ok D.none h
 | _,_=>.bad
def bF (p n:Nat) (b:MS):Fn:=fun xs h=>if xs.length=p then (b (xs.map some++List.replicate (n - p) none) h).bind gO else .bad
def D.below (n:Nat):D->Bool
 | .ref i=>decide (i < n)
 | _=>true
def MO.below (n:Nat):MO->Bool
 | .lst xs=>xs.all (D.below n)
 | .cx _ _=>true
 | .ins _ fs=>fs.all fun p=>p.2.below n
 | .tab _ _=>true
def gP (f:Fn):Fn:=fun xs h=>match f xs h with
 | .ok d h'=>if d.below h.length && (h'.take h.length).all (MO.below h.length) && decide (h.length<=h'.length) then .ok d (h'.take h.length) else .bad
 | .exc x h'=>if (h'.take h.length).all (MO.below h.length) && decide (h.length<=h'.length) then .exc x (h'.take h.length) else .bad
 | .bad=>.bad
end Ml
namespace Ml
open PySem
def hU (f:D->Option PyData):List D->Option (List PyData)
 | []=>some []
 | x::xs=>match f x,hU f xs with
  | some d,some ds=>some (d::ds)
  | _,_=>Option.none
def qa (h:Hm):Nat->D->Option PyData
 | _,.dat d=>some d
 | _,.ktup xs=>some (.tuple xs)
 | n+1,.ref i=>match h[i]? with
  | some (.lst xs)=>(hU (qa h n) xs).map .list
  | _=>Option.none
 | _,_=>Option.none
abbrev kM (h:Hm) (x:D):Option PyData:=qa h 3 x
@[simp] theorem kN (h:Hm) (n:Nat) (d:PyData):qa h n (.dat d)=some d:=by cases n<;>rfl
def listOf (x:D) (h:Hm):Option (List PyData):=match x with
 | .dat (.list ds)=>some ds
 | .ref i=>match h[i]? with
  | some (.lst ys)=>fU ys
  | _=>Option.none
 | _=>Option.none
def dr (x y:D) (h:Hm):R D:=match x,y with
 | .dat (.int i),.dat (.int j)=>.ok (.int (i+j)) h
 | .dat (.str s),.dat (.str t)=>if gE (s.length+t.length) then .ok (.str (s++t)) h else .bad
 | .dat (.tuple xs),.dat (.tuple ys)=>if gE (xs.length+ys.length) then .ok (.dat (.tuple (xs++ys))) h else .bad
 | .dat (.list xs),.dat (.list ys)=>if gE (xs.length+ys.length) then .ok (.dat (.list (xs++ys))) h else .bad
 | _,_=>.bad
def IJ (x y:D) (h:Hm):R D:=match x,y with
 | .dat (.int i),.dat (.int j)=>.ok (.int (i - j)) h
 | _,_=>.bad
def nX (i j:Int):Bool:=(decide (-(2 ^ 64) < i) && decide (i < 2 ^ 64)) || (decide (-(2 ^ 64) < j) && decide (j < 2 ^ 64))
def fV (x y:D) (h:Hm):R D:=match x,y with
 | .dat (.int i),.dat (.int j)=>if nX i j then .ok (.int (i * j)) h else .bad
 | .dat (.list xs),.dat (.int k)=>if gE (xs.length * k.toNat) && decide (-(2 ^ 63)<=k) && decide (k < 2 ^ 63) then .ok (.dat (.list (List.replicate k.toNat xs).flatten)) h else .bad
 | _,_=>.bad
def oMod (x y:D) (h:Hm):R D:=match x,y with
 | .dat (.int i),.dat (.int j)=>if 0 < j then .ok (.int (i % j)) h else .bad
 | _,_=>.bad
def nY (x y:D) (h:Hm):R D:=match x,y with
 | .dat (.int i),.dat (.int j)=>if 0 < j/\j < 1073741824 then .ok (.int (i / j)) h else .bad
 | _,_=>.bad
def IK (x:D) (h:Hm):R D:=match x with
 | .dat (.int i)=>.ok (.int (-i)) h
 | _=>.bad
def noDict (d:PyData):Bool:=!d.hasDict
def eqQ (d e:PyData):Option Bool:=if noDict d && noDict e && decide (min d.depth e.depth<=40) then some (PyData.eqv d e) else Option.none
def tH (d e:PyData):Option Bool:=match d,e with
 | .str _,.dict _=>some false
 | .tuple ds,.dict _=>if noDict (.tuple ds) then some false else Option.none
 | d,e=>eqQ d e
def oEq (x y:D) (h:Hm):R D:=match x,y with
 | .rpr s,.rpr t=>.ok (.bool (decide (s=t))) h
 | x,y=>match kM h x,kM h y with
  | some d,some e=>match eqQ d e with
   | some b=>.ok (.bool b) h
   | Option.none=>.bad
  | _,_=>.bad
def nZ (x y:D) (h:Hm):R D:=match x,y with
 | .rpr s,.rpr t=>.ok (.bool (!decide (s=t))) h
 | x,y=>match kM h x,kM h y with
  | some d,some e=>match eqQ d e with
   | some b=>.ok (.bool !b) h
   | Option.none=>.bad
  | _,_=>.bad
def jX (x y:Str):Bool:=decide (x.cps.toList < y.cps.toList)
mutual
def bG:PyData->PyData->Option Bool
 | .int i,.int j=>some (decide (i < j))
 | .str x,.str y=>some (jX x y)
 | .tuple xs,.tuple ys=>cN xs ys
 | _,_=>Option.none
def cN:List PyData->List PyData->Option Bool
 | [],[]=>some false
 | [],_::_=>some true
 | _::_,[]=>some false
 | x::xs,y::ys=>if PyData.eqv x y then cN xs ys else bG x y
end
def oLt (x y:D) (h:Hm):R D:=match x,y with
 | .dat d,.dat e=>if noDict d && noDict e && decide (min d.depth e.depth<=40) then match bG d e with
  | some b=>.ok (.bool b) h
  | Option.none=>.bad
  else .bad
 | _,_=>.bad
def oLe (x y:D) (h:Hm):R D:=match x,y with
 | .dat (.int i),.dat (.int j)=>.ok (.bool (decide (i<=j))) h
 | .dat (.str s),.dat (.str t)=>.ok (.bool (!jX t s)) h
 | _,_=>.bad
def Bd (x y:D) (h:Hm):R D:=match x,y with
 | .dat (.int i),.dat (.int j)=>.ok (.bool (decide (j < i))) h
 | _,_=>.bad
def Kj (x y:D) (h:Hm):R D:=match x,y with
 | .dat (.int i),.dat (.int j)=>.ok (.bool (decide (j<=i))) h
 | _,_=>.bad
def sR (x:PyData):List PyData->Option Bool
 | []=>some false
 | y::ys=>match tH y x,sR x ys with
  | some a,some b=>some (a || b)
  | _,_=>Option.none
def rN:PyData->Bool
 | .tuple _=>true
 | _=>false
def jZ:PyData->Bool
 | .str _=>true
 | _=>false
def kO (k:PyData) (kvs:List (PyData×PyData)):Bool:=kvs.any fun p=>PyData.eqv p.1 k
def fW (y:D) (h:Hm):Option (Bool×List (PyData×PyData)):=match y with
 | .cx t kvs=>some (t,kvs)
 | .ref i=>match h[i]? with
  | some (.cx t kvs)=>some (t,kvs)
  | _=>Option.none
 | _=>Option.none
mutual
def aK:PyData->Bool
 | .str _=>true
 | .tuple ds=>bY ds
 | _=>false
def bY:List PyData->Bool
 | []=>true
 | d::ds=>aK d && bY ds
end
def keyOk (t:Bool) (k:PyData):Bool:=if t then rN k && aK k && decide (k.depth<=8) else jZ k
def vo (x:D) (kvs:List (PyData×PyData)) (t:Bool):Option Bool:=match x with
 | .dat d=>if keyOk t d then some (kO d kvs) else Option.none
 | _=>Option.none
def gr (x y:D) (h:Hm):Option Bool:=match y with
 | .dat (.str s)=>match x with
  | .dat (.str t)=>some (!(Builtin.Str.occurrences s t 0 s.length 1).isEmpty)
  | _=>Option.none
 | y=>match kM h x,kM h y with
  | some d,some (.tuple ds)=>sR d ds
  | some d,some (.list ds)=>sR d ds
  | _,_=>Option.none
def findIn (x y:D) (h:Hm):Option Bool:=match fW y h with
 | some p=>vo x p.2 p.1
 | Option.none=>gr x y h
def vp (x y:D) (h:Hm):R D:=match findIn x y h with
 | some b=>.ok (.bool b) h
 | Option.none=>.bad
def nc (x y:D) (h:Hm):R D:=match findIn x y h with
 | some b=>.ok (.bool !b) h
 | Option.none=>.bad
def gQ:PyData->Bool
 | .none | .bool _ | .int _ | .str _=>true
 | _=>false
def dput (kvs:List (PyData×PyData)) (k v:PyData):List (PyData×PyData):=
 if kO k kvs then kvs.map (fun p=>if PyData.eqv p.1 k then (p.1,v) else p) else kvs++[(k,v)]
def ng (kvs:List (PyData×PyData)) (k:PyData):Option PyData:=(kvs.find? fun p=>PyData.eqv p.1 k).map (·.2)
def rC (n:Nat) (i:Int):Option Nat:=if 0<=i then (if i < n then some i.toNat else Option.none) else if -(n:Int)<=i then some (i+n).toNat else Option.none
def jG {α:Type} (xs:List α) (i:Int):Option α:=(rC xs.length i).bind fun j=>xs[j]?
def zr (x y:D) (h:Hm):R D:=match y with
 | .dat (.int i)=>match x with
  | .dat (.tuple ds)=>match jG ds i with | some d=>.ok (.dat d) h | Option.none=>.bad
  | .dat (.list ds)=>match jG ds i with | some d=>.ok (.dat d) h | Option.none=>.bad
  | .ref j=>match h[j]? with
   | some (.lst xs)=>match jG xs i with | some d=>.ok d h | Option.none=>.bad
   | _=>.bad
  | .scr ns=>match jG ns i with | some n=>.ok (.int n) h | Option.none=>.bad
  | _=>.bad
 | _=>.bad
def fv (x y:D) (h:Hm):R D:=match fW x h with
 | some p=>match y with
  | .dat (.str k)=>if p.1 then .bad else match ng p.2 (.str k) with
   | some v=>.ok (.dat v) h
   | Option.none=>.bad
  | _=>.bad
 | Option.none=>zr x y h
def dH (n d:Nat):Option Int->Nat
 | Option.none=>d
 | some v=>if v < 0 then (v+(n:Int)).toNat else min v.toNat n
def cut {α:Type} (ds:List α) (lo hi:Option Int):List α:=(ds.drop (dH ds.length 0 lo)).take (dH ds.length ds.length hi - dH ds.length 0 lo)
abbrev Dv:=Fm->Hm->R (Option Int)
def n8:Dv:=fun _ h=>.ok Option.none h
def n9 (e:ME):Dv:=fun ρ h=>(e ρ h).bind fun x h1=>match x with
 | .dat (.int i)=>.ok (some i) h1
 | _=>.bad
def BZ (x:D) (lo hi:Option Int) (h:Hm):R D:=match x with
 | .dat (.tuple ds)=>.ok (.dat (.tuple (cut ds lo hi))) h
 | .dat (.list ds)=>.ok (.dat (.list (cut ds lo hi))) h
 | _=>.bad
def EV (e:ME) (lo hi:Dv):ME:=fun ρ h=>(e ρ h).bind fun x h1=>(lo ρ h1).bind fun l h2=>(hi ρ h2).bind fun u h3=>BZ x l u h3
def dX:Fn:=fun xs h=>match xs with
 | [.dat (.str s)]=>if gE s.length then .ok (.int s.length) h else .bad
 | [.dat (.tuple ds)]=>.ok (.int ds.length) h
 | [.dat (.list ds)]=>.ok (.int ds.length) h
 | [.ref i]=>match h[i]? with
  | some (.lst ys)=>.ok (.int ys.length) h
  | _=>.bad
 | [.scr ns]=>.ok (.int ns.length) h
 | _=>.bad
def bools:List PyData->Option (List Bool)
 | []=>some []
 | .bool b::ds=>(bools ds).map (b::·)
 | _=>Option.none
theorem qD (bs:List Bool):bools (bs.map .bool)=some bs:=by
 induction bs with
 | nil=>rfl
 | cons b bs ih=>simp [bools,ih]
def iZ:Fn:=fun xs h=>match xs with
 | [.dat (.list ds)]=>match bools ds with
  | some bs=>.ok (.bool (bs.all id)) h
  | Option.none=>.bad
 | _=>.bad
def qb:Fn:=fun xs h=>match xs with
 | [.dat (.list ds)]=>match bools ds with
  | some bs=>.ok (.bool (bs.any id)) h
  | Option.none=>.bad
 | _=>.bad
def isTup:PyData->Bool | .tuple _=>true | _=>false
def isStr:PyData->Bool | .str _=>true | _=>false
def isInt:PyData->Bool | .int _ | .bool _=>true | _=>false
def og:PyData->Bool | .bool _=>true | _=>false
def qc (f:PyData->Bool):D->Hm->R D:=fun x h=>match x with
 | .dat d=>.ok (.bool (f d)) h
 | _=>.bad
def fX (x:Str):List PyData:=(List.range x.cps.size).map fun (i:Nat)=>.str ⟨#[x.cps.getD i 0]⟩
def fF:Fn:=fun xs h=>match xs with
 | [.dat (.tuple ds)]=>.ok (.dat (.tuple ds)) h
 | [.dat (.str s)]=>if gE s.cps.size then .ok (.dat (.tuple (fX s))) h else .bad
 | [x]=>match listOf x h with
  | some ds=>.ok (.dat (.tuple ds)) h
  | Option.none=>.bad
 | _=>.bad
def rO:Fn:=fun xs h=>match xs with
 | [.dat (.tuple ds)]=>.ok (.dat (.list ds)) h
 | [x]=>match listOf x h with
  | some ds=>.ok (.dat (.list ds)) h
  | Option.none=>.bad
 | _=>.bad
def kP:Fn:=fun xs h=>match xs with
 | [x]=>match fW x h with
  | some p=>.ok (.dat (.list (p.2.map (·.1)))) h
  | Option.none=>rO [x] h
 | _=>.bad
def vq (lt:PyData->PyData->Bool) (x:PyData):List PyData->List PyData
 | []=>[x]
 | y::ys=>if lt y x then y::vq lt x ys else x::y::ys
def gu (lt:PyData->PyData->Bool):List PyData->List PyData
 | []=>[]
 | x::xs=>vq lt x (gu lt xs)
def ltB (d e:PyData):Bool:=(bG d e).getD false
def tI (d:PyData):Bool:=d.showable && noDict d && decide (d.depth<=40) && gE d.shown.length
def zt (d:PyData):Bool:=match d with
 | .dict _=>d.showable && decide (d.depth<=20) && gE d.shown.length
 | _=>false
def fM:Fn:=fun xs h=>match xs with
 | [x]=>match kM h x with
  | some d=>if tI d || zt d then .ok (.rpr d.shown) h else .bad
  | Option.none=>.bad
 | _=>.bad
def nv:Fn:=fun xs h=>match xs with
 | [.dat (.int i),.dat (.int j)]=>if 0 < j/\j < 1073741824 then .ok (.dat (.tuple [.int (i / j),.int (i % j)])) h else .bad
 | _=>.bad
def B0:Fn:=fun xs h=>match xs with
 | [.dat (.int i)]=>.ok (.int (if i < 0 then -i else i)) h
 | _=>.bad
def zu:Fn:=fun xs h=>match xs with
 | [.dat (.int i),.dat (.int j)]=>.ok (.int (if j > i then j else i)) h
 | _=>.bad
def zv:Fn:=fun xs h=>match xs with
 | [.dat (.int i),.dat (.int j)]=>.ok (.int (if j < i then j else i)) h
 | _=>.bad
def tJ:Fn:=fun xs h=>match xs with
 | [.dat (.int i)]=>.ok (.int i) h
 | [.dat (.bool b)]=>.ok (.int (if b then 1 else 0)) h
 | _=>.bad
def kQ (x y:D) (h:Hm):R D:=match x with
 | .ref i=>match h[i]? with
  | some (.lst xs)=>if decide (xs.length < 16777216) then .ok D.none (h.set i (.lst (xs++[y]))) else .bad
  | _=>.bad
 | _=>.bad
def wK (x y v:D) (h:Hm):R Unit:=match x,y with
 | .ref i,.dat (.int k)=>match h[i]? with
  | some (.lst xs)=>match rC xs.length k with
   | some j=>.ok () (h.set i (.lst (xs.set j v)))
   | Option.none=>.bad
  | _=>.bad
 | _,_=>.bad
def zw (i:Nat) (t:Bool) (kvs:List (PyData×PyData)) (y v:D) (h:Hm):R Unit:=match y,v with
 | .dat k,.dat d=>if keyOk t k && (t || gQ d) && decide (kvs.length < 16777216) then .ok () (h.set i (.cx t (dput kvs k d))) else .bad
 | _,_=>.bad
def oh (x y v:D) (h:Hm):R Unit:=match x with
 | .ref i=>match h[i]? with
  | some (.cx t kvs)=>zw i t kvs y v h
  | _=>wK x y v h
 | _=>.bad
def pP (eo ei:ME):MG:=fun v ρ h=>(eo ρ h).bind fun o h1=>(ei ρ h1).bind fun i h2=>(oh o i v h2).bind fun _ h3=>.ok ρ h3
def truth (x:D) (h:Hm):Option Bool:=match x with
 | .dat .none=>some false
 | .dat (.bool b)=>some b
 | .dat (.int i)=>some (i != 0)
 | .dat (.str s)=>if gE s.length then some ((s.length:Int) != 0) else Option.none
 | .dat (.tuple ds)=>some !ds.isEmpty
 | .dat (.list ds)=>some !ds.isEmpty
 | .ref i=>match h[i]? with
  | some (.lst xs)=>some !xs.isEmpty
  | _=>Option.none
 | _=>Option.none
def bL (e:ME):MT:=fun ρ h=>(e ρ h).bind fun x h1=>match truth x h1 with
 | some b=>.ok b h1
 | Option.none=>.bad
end Ml
namespace Ml
open PySem
mutual
def cI:PyData->Bool
 | .str x=>PyData.strOk x
 | .list xs | .tuple xs=>bW xs
 | _=>true
def bW:List PyData->Bool
 | []=>true
 | x::xs=>cI x && bW xs
end
mutual
theorem i3:∀ {d:PyData},cI d=true->d.hasDict=false->d.canLay0=true
 | .none,_,_=>by simp [PyData.canLay0]
 | .bool _,_,_=>by simp [PyData.canLay0]
 | .int _,_,_=>by simp [PyData.canLay0]
 | .str x,h,_=>by simp only [cI] at h;simpa [PyData.canLay0] using h
 | .tuple ds,h,k=>by simp only [cI] at h;simp only [PyData.hasDict] at k;simp only [PyData.canLay0];exact ny h k
 | .list ds,h,k=>by simp only [cI] at h;simp only [PyData.hasDict] at k;simp only [PyData.canLay0];exact ny h k
 | .dict _,_,k=>by simp [PyData.hasDict] at k
theorem ny:∀ {ds:List PyData},bW ds=true->PyData.hasDictAll ds=false->PyData.canLayAll0 ds=true
 | [],_,_=>by simp [PyData.canLayAll0]
 | d::ds,h,k=>by
  simp only [bW,Bool.and_eq_true] at h
  simp only [PyData.hasDictAll,Bool.or_eq_false_iff] at k
  simp only [PyData.canLayAll0,Bool.and_eq_true]
  exact ⟨i3 h.1 k.1,ny h.2 k.2⟩
end
mutual
def aq:PyData->Bool
 | .int _ | .str _=>true
 | .tuple ds=>av ds
 | _=>false
def av:List PyData->Bool
 | []=>true
 | d::ds=>aq d && av ds
end
theorem aX:∀ {ds:List PyData} {d:PyData},av ds=true->d∈ds->aq d=true
 | _::_,d,h,m=>by
  simp only [av,Bool.and_eq_true] at h
  rcases List.mem_cons.mp m with rfl | m
  ·exact h.1
  ·exact aX h.2 m
theorem i4:∀ {ds:List PyData},(∀ d∈ds,aq d=true)->av ds=true
 | [],_=>by simp [av]
 | d::ds,h=>by simp only [av,Bool.and_eq_true];exact ⟨h d (by simp),i4 fun e m=>h e (by simp [m])⟩
mutual
theorem i5:∀ {d e:PyData},aq d=true->aq e=true->(PyData.eqv d e=true<->d=e)
 | .int i,.int j,_,_=>by simp [PyData.eqv]
 | .str x,.str y,_,_=>by simp [PyData.eqv]
 | .tuple xs,.tuple ys,h,k=>by
  simp only [aq] at h k
  simp only [PyData.eqv,PyData.tuple.injEq]
  exact qE h k
 | .int _,.str _,_,_=>by simp [PyData.eqv]
 | .int _,.tuple _,_,_=>by simp [PyData.eqv]
 | .str _,.int _,_,_=>by simp [PyData.eqv]
 | .str _,.tuple _,_,_=>by simp [PyData.eqv]
 | .tuple _,.int _,_,_=>by simp [PyData.eqv]
 | .tuple _,.str _,_,_=>by simp [PyData.eqv]
 | .none,_,h,_=>by simp [aq] at h
 | .bool _,_,h,_=>by simp [aq] at h
 | .list _,_,h,_=>by simp [aq] at h
 | .dict _,_,h,_=>by simp [aq] at h
 | .int _,.none,_,h=>by simp [aq] at h
 | .int _,.bool _,_,h=>by simp [aq] at h
 | .int _,.list _,_,h=>by simp [aq] at h
 | .int _,.dict _,_,h=>by simp [aq] at h
 | .str _,.none,_,h=>by simp [aq] at h
 | .str _,.bool _,_,h=>by simp [aq] at h
 | .str _,.list _,_,h=>by simp [aq] at h
 | .str _,.dict _,_,h=>by simp [aq] at h
 | .tuple _,.none,_,h=>by simp [aq] at h
 | .tuple _,.bool _,_,h=>by simp [aq] at h
 | .tuple _,.list _,_,h=>by simp [aq] at h
 | .tuple _,.dict _,_,h=>by simp [aq] at h
theorem qE:∀ {xs ys:List PyData},av xs=true->av ys=true->(PyData.eqvAll xs ys=true<->xs=ys)
 | [],[],_,_=>by simp [PyData.eqvAll]
 | [],_::_,_,_=>by simp [PyData.eqvAll]
 | _::_,[],_,_=>by simp [PyData.eqvAll]
 | x::xs,y::ys,h,k=>by
  simp only [av,Bool.and_eq_true] at h k
  simp only [PyData.eqvAll,Bool.and_eq_true,List.cons.injEq]
  rw [i5 h.1 k.1,qE h.2 k.2]
end
mutual
theorem i6:∀ {d:PyData},aq d=true->d.hasDict=false
 | .int _,_=>rfl
 | .str _,_=>rfl
 | .tuple ds,h=>by simp only [aq] at h;simp only [PyData.hasDict];exact hX h
 | .none,h=>by simp [aq] at h
 | .bool _,h=>by simp [aq] at h
 | .list _,h=>by simp [aq] at h
 | .dict _,h=>by simp [aq] at h
theorem hX:∀ {ds:List PyData},av ds=true->PyData.hasDictAll ds=false
 | [],_=>rfl
 | d::ds,h=>by
  simp only [av,Bool.and_eq_true] at h
  simp only [PyData.hasDictAll,Bool.or_eq_false_iff]
  exact ⟨i6 h.1,hX h.2⟩
end
theorem bH {d:PyData} (h:aq d=true):PyData.eqv d d=true:=(i5 h h).mpr rfl
theorem bC {d e:PyData} (h:aq d=true) (k:aq e=true) (ne:d≠e):PyData.eqv d e=false:=by
 cases q:PyData.eqv d e with
 | false=>rfl
 | true=>exact absurd ((i5 h k).mp q) ne
theorem IL {x y:Str} (h:x.cps.toList=y.cps.toList):x=y:=by
 obtain ⟨⟨a⟩⟩:=x
 obtain ⟨⟨b⟩⟩:=y
 simp at h
 subst h
 rfl
theorem rL (x:Str):jX x x=false:=decide_eq_false (List.lt_irrefl _)
theorem vn {x y z:Str} (h:jX x y=true) (h':jX y z=true):jX x z=true:=decide_eq_true (List.lt_trans (of_decide_eq_true h) (of_decide_eq_true h'))
theorem zl {x y:Str} (h:jX x y=true):jX y x=false:=decide_eq_false fun z=>List.lt_irrefl _ (List.lt_trans (of_decide_eq_true h) z)
theorem wG {x y:Str} (h:jX x y=false) (h':jX y x=false):x=y:=
 IL (List.le_antisymm (List.not_lt.mp (of_decide_eq_false h')) (List.not_lt.mp (of_decide_eq_false h)))
mutual
theorem zx:∀ {d e:PyData},aq d=true->aq e=true->bG d e=some true->bG e d=some false
 | .int i,.int j,_,_,h=>by simp [bG] at h ⊢;omega
 | .str x,.str y,_,_,h=>by simp only [bG,Option.some.injEq] at h ⊢;exact zl h
 | .tuple xs,.tuple ys,h,k,q=>by simp only [aq] at h k;simp only [bG] at q ⊢;exact wL h k q
 | .int _,.str _,_,_,h=>by simp [bG] at h
 | .int _,.tuple _,_,_,h=>by simp [bG] at h
 | .str _,.int _,_,_,h=>by simp [bG] at h
 | .str _,.tuple _,_,_,h=>by simp [bG] at h
 | .tuple _,.int _,_,_,h=>by simp [bG] at h
 | .tuple _,.str _,_,_,h=>by simp [bG] at h
 | .none,_,h,_,_=>by simp [aq] at h
 | .bool _,_,h,_,_=>by simp [aq] at h
 | .list _,_,h,_,_=>by simp [aq] at h
 | .dict _,_,h,_,_=>by simp [aq] at h
 | _,.none,_,h,_=>by simp [aq] at h
 | _,.bool _,_,h,_=>by simp [aq] at h
 | _,.list _,_,h,_=>by simp [aq] at h
 | _,.dict _,_,h,_=>by simp [aq] at h
theorem wL:∀ {xs ys:List PyData},av xs=true->av ys=true->cN xs ys=some true->cN ys xs=some false
 | [],[],_,_,h=>by simp [cN] at h
 | [],_::_,_,_,_=>by simp [cN]
 | _::_,[],_,_,h=>by simp [cN] at h
 | x::xs,y::ys,h,k,q=>by
  simp only [av,Bool.and_eq_true] at h k
  simp only [cN] at q ⊢
  by_cases e:x=y
  ·subst e
   rw [bH h.1,if_pos rfl] at q ⊢
   exact wL h.2 k.2 q
  ·rw [bC h.1 k.1 e,if_neg (by simp)] at q
   rw [bC k.1 h.1 (fun z=>e z.symm),if_neg (by simp)]
   exact zx h.1 k.1 q
end
mutual
theorem wM:∀ {d e:PyData},aq d=true->aq e=true->bG d e=some false->bG e d=some false->d=e
 | .int i,.int j,_,_,h,h'=>by simp [bG] at h h';congr 1;omega
 | .str x,.str y,_,_,h,h'=>by simp only [bG,Option.some.injEq] at h h';rw [wG h h']
 | .tuple xs,.tuple ys,h,k,q,q'=>by simp only [aq] at h k;simp only [bG] at q q';rw [tK h k q q']
 | .int _,.str _,_,_,h,_=>by simp [bG] at h
 | .int _,.tuple _,_,_,h,_=>by simp [bG] at h
 | .str _,.int _,_,_,h,_=>by simp [bG] at h
 | .str _,.tuple _,_,_,h,_=>by simp [bG] at h
 | .tuple _,.int _,_,_,h,_=>by simp [bG] at h
 | .tuple _,.str _,_,_,h,_=>by simp [bG] at h
 | .none,_,h,_,_,_=>by simp [aq] at h
 | .bool _,_,h,_,_,_=>by simp [aq] at h
 | .list _,_,h,_,_,_=>by simp [aq] at h
 | .dict _,_,h,_,_,_=>by simp [aq] at h
 | _,.none,_,h,_,_=>by simp [aq] at h
 | _,.bool _,_,h,_,_=>by simp [aq] at h
 | _,.list _,_,h,_,_=>by simp [aq] at h
 | _,.dict _,_,h,_,_=>by simp [aq] at h
theorem tK:∀ {xs ys:List PyData},av xs=true->av ys=true->cN xs ys=some false->cN ys xs=some false->xs=ys
 | [],[],_,_,_,_=>rfl
 | [],_::_,_,_,h,_=>by simp [cN] at h
 | _::_,[],_,_,_,h=>by simp [cN] at h
 | x::xs,y::ys,h,k,q,q'=>by
  simp only [av,Bool.and_eq_true] at h k
  simp only [cN] at q q'
  by_cases e:x=y
  ·subst e
   rw [bH h.1,if_pos rfl] at q q'
   rw [tK h.2 k.2 q q']
  ·rw [bC h.1 k.1 e,if_neg (by simp)] at q
   rw [bC k.1 h.1 (fun z=>e z.symm),if_neg (by simp)] at q'
   exact absurd (wM h.1 k.1 q q') e
end
mutual
theorem B1:∀ {d:PyData},aq d=true->bG d d=some false
 | .int i,_=>by simp [bG]
 | .str x,_=>by simp [bG,rL]
 | .tuple xs,h=>by simp only [aq] at h;simp only [bG];exact tL h
 | .none,h=>by simp [aq] at h
 | .bool _,h=>by simp [aq] at h
 | .list _,h=>by simp [aq] at h
 | .dict _,h=>by simp [aq] at h
theorem tL:∀ {xs:List PyData},av xs=true->cN xs xs=some false
 | [],_=>by simp [cN]
 | x::xs,h=>by
  simp only [av,Bool.and_eq_true] at h
  simp only [cN]
  rw [bH h.1,if_pos rfl]
  exact tL h.2
end
mutual
theorem zy:∀ {d e f:PyData},aq d=true->aq e=true->aq f=true->bG d e=some true->bG e f=some true->bG d f=some true
 | .int i,.int j,.int k,_,_,_,h,h'=>by simp [bG] at h h' ⊢;omega
 | .str x,.str y,.str z,_,_,_,h,h'=>by simp only [bG,Option.some.injEq] at h h' ⊢;exact vn h h'
 | .tuple xs,.tuple ys,.tuple zs,h,k,l,q,q'=>by simp only [aq] at h k l;simp only [bG] at q q' ⊢;exact wN h k l q q'
 | .none,_,_,h,_,_,_,_=>by simp [aq] at h
 | .bool _,_,_,h,_,_,_,_=>by simp [aq] at h
 | .list _,_,_,h,_,_,_,_=>by simp [aq] at h
 | .dict _,_,_,h,_,_,_,_=>by simp [aq] at h
 | .int _,.none,_,_,_,_,h,_=>by simp [bG] at h
 | .int _,.bool _,_,_,_,_,h,_=>by simp [bG] at h
 | .int _,.str _,_,_,_,_,h,_=>by simp [bG] at h
 | .int _,.list _,_,_,_,_,h,_=>by simp [bG] at h
 | .int _,.tuple _,_,_,_,_,h,_=>by simp [bG] at h
 | .int _,.dict _,_,_,_,_,h,_=>by simp [bG] at h
 | .str _,.none,_,_,_,_,h,_=>by simp [bG] at h
 | .str _,.bool _,_,_,_,_,h,_=>by simp [bG] at h
 | .str _,.int _,_,_,_,_,h,_=>by simp [bG] at h
 | .str _,.list _,_,_,_,_,h,_=>by simp [bG] at h
 | .str _,.tuple _,_,_,_,_,h,_=>by simp [bG] at h
 | .str _,.dict _,_,_,_,_,h,_=>by simp [bG] at h
 | .tuple _,.none,_,_,_,_,h,_=>by simp [bG] at h
 | .tuple _,.bool _,_,_,_,_,h,_=>by simp [bG] at h
 | .tuple _,.int _,_,_,_,_,h,_=>by simp [bG] at h
 | .tuple _,.list _,_,_,_,_,h,_=>by simp [bG] at h
 | .tuple _,.str _,_,_,_,_,h,_=>by simp [bG] at h
 | .tuple _,.dict _,_,_,_,_,h,_=>by simp [bG] at h
 | .int _,.int _,.none,_,_,_,_,h=>by simp [bG] at h
 | .int _,.int _,.bool _,_,_,_,_,h=>by simp [bG] at h
 | .int _,.int _,.str _,_,_,_,_,h=>by simp [bG] at h
 | .int _,.int _,.list _,_,_,_,_,h=>by simp [bG] at h
 | .int _,.int _,.tuple _,_,_,_,_,h=>by simp [bG] at h
 | .int _,.int _,.dict _,_,_,_,_,h=>by simp [bG] at h
 | .str _,.str _,.none,_,_,_,_,h=>by simp [bG] at h
 | .str _,.str _,.bool _,_,_,_,_,h=>by simp [bG] at h
 | .str _,.str _,.int _,_,_,_,_,h=>by simp [bG] at h
 | .str _,.str _,.list _,_,_,_,_,h=>by simp [bG] at h
 | .str _,.str _,.tuple _,_,_,_,_,h=>by simp [bG] at h
 | .str _,.str _,.dict _,_,_,_,_,h=>by simp [bG] at h
 | .tuple _,.tuple _,.none,_,_,_,_,h=>by simp [bG] at h
 | .tuple _,.tuple _,.bool _,_,_,_,_,h=>by simp [bG] at h
 | .tuple _,.tuple _,.int _,_,_,_,_,h=>by simp [bG] at h
 | .tuple _,.tuple _,.list _,_,_,_,_,h=>by simp [bG] at h
 | .tuple _,.tuple _,.str _,_,_,_,_,h=>by simp [bG] at h
 | .tuple _,.tuple _,.dict _,_,_,_,_,h=>by simp [bG] at h
theorem wN:∀ {xs ys zs:List PyData},av xs=true->av ys=true->av zs=true->cN xs ys=some true->cN ys zs=some true->cN xs zs=some true
 | [],[],_,_,_,_,h,_=>by simp [cN] at h
 | [],_::_,[],_,_,_,_,h=>by simp [cN] at h
 | [],_::_,_::_,_,_,_,_,_=>by simp [cN]
 | _::_,[],_,_,_,_,h,_=>by simp [cN] at h
 | _::_,_::_,[],_,_,_,_,h=>by simp [cN] at h
 | x::xs,y::ys,z::zs,h,k,l,q,q'=>by
  simp only [av,Bool.and_eq_true] at h k l
  simp only [cN] at q q' ⊢
  by_cases e1:x=y
  ·subst e1
   rw [bH h.1,if_pos rfl] at q
   by_cases e2:x=z
   ·subst e2
    rw [bH h.1,if_pos rfl] at q' ⊢
    exact wN h.2 k.2 l.2 q q'
   ·rw [bC h.1 l.1 e2,if_neg (by simp)] at q' ⊢
    exact q'
  ·rw [bC h.1 k.1 e1,if_neg (by simp)] at q
   by_cases e2:y=z
   ·subst e2
    rw [bC h.1 k.1 e1,if_neg (by simp)]
    exact q
   ·rw [bC k.1 l.1 e2,if_neg (by simp)] at q'
    have q3:=zy h.1 k.1 l.1 q q'
    by_cases e3:x=z
    ·subst e3
     rw [B1 h.1] at q3
     cases q3
    ·rw [bC h.1 l.1 e3,if_neg (by simp)]
     exact q3
end
def du (ds:List PyData):Bool:=ds.all fun a=>ds.all fun b=>(bG a b).isSome
theorem dY {ds:List PyData} (h:du ds=true) {a b:PyData} (ha:a∈ds) (hb:b∈ds):bG a b=some (ltB a b):=by
 have:=List.all_eq_true.mp (List.all_eq_true.mp h a ha) b hb
 unfold ltB
 cases q:bG a b with
 | none=>rw [q] at this;cases this
 | some k=>rfl
def gF:PyData->Bool | .tuple _=>true | _=>false
def vt:PyData->Bool | .str _=>true | _=>false
def lX (ds:List PyData):Bool:=(ds.all vt || ds.all gF) && av ds && du ds && decide (PyData.depthAll ds<=20) && decide (ds.length < 64)
def kR:Fn:=fun xs h=>match xs with
 | [x]=>match listOf x h with
  | some ds=>if lX ds then .ok (.dat (.list (gu ltB ds))) h else .bad
  | Option.none=>.bad
 | _=>.bad
theorem ou {ds:List PyData} (c:du ds=true) (t:av ds=true) {a b:PyData} (ha:a∈ds) (hb:b∈ds) (h:ltB a b=true):ltB b a=false:=by
 have h1:=dY c ha hb
 rw [h] at h1
 unfold ltB
 rw [zx (aX t ha) (aX t hb) h1]
 rfl
theorem kS {ds:List PyData} (c:du ds=true) (t:av ds=true) {a b:PyData} (ha:a∈ds) (hb:b∈ds) (h:ltB b a=false):ltB a b=true\/a=b:=by
 cases q:ltB a b with
 | true=>exact .inl rfl
 | false=>
  have h1:=dY c ha hb
  have h2:=dY c hb ha
  rw [q] at h1
  rw [h] at h2
  exact .inr (wM (aX t ha) (aX t hb) h1 h2)
theorem wO {ds:List PyData} (c:du ds=true) (t:av ds=true) {a b d:PyData} (ha:a∈ds) (hb:b∈ds) (hd:d∈ds) (h:ltB b a=false) (h':ltB d b=false):ltB d a=false:=by
 rcases kS c t ha hb h with h1 | rfl
 ·rcases kS c t hb hd h' with h2 | rfl
  ·have q1:=dY c ha hb
   have q2:=dY c hb hd
   rw [h1] at q1
   rw [h2] at q2
   have q3:=zy (aX t ha) (aX t hb) (aX t hd) q1 q2
   exact ou c t ha hd (by unfold ltB;rw [q3];rfl)
  ·exact ou c t ha hb h1
 ·exact h'
end Ml
namespace Ml
open PySem
theorem lY (lt:PyData->PyData->Bool) (x:PyData):∀ ys:List PyData,(vq lt x ys).Perm (x::ys)
 | []=>.refl _
 | y::ys=>by
  unfold vq
  split
  ·exact ((lY lt x ys).cons y).trans (.swap x y ys)
  ·exact .refl _
theorem dw (lt:PyData->PyData->Bool):∀ xs:List PyData,(gu lt xs).Perm xs
 | []=>.refl _
 | x::xs=>(lY lt x _).trans ((dw lt xs).cons x)
def Up (lt:PyData->PyData->Bool) (xs:List PyData):Prop:=xs.Pairwise fun a b=>lt b a=false
structure Ord (lt:PyData->PyData->Bool) (ds:List PyData):Prop where
 as:∀ {a b},a∈ds->b∈ds->lt a b=true->lt b a=false
 ntr:∀ {a b d},a∈ds->b∈ds->d∈ds->lt b a=false->lt d b=false->lt d a=false
 tot:∀ {a b},a∈ds->b∈ds->lt a b=false->lt b a=false->a=b
theorem Ord.sub {lt:PyData->PyData->Bool} {ds es:List PyData} (o:Ord lt ds) (h:∀ e∈es,e∈ds):Ord lt es:=
 ⟨fun a b=>o.as (h _ a) (h _ b),fun a b d=>o.ntr (h _ a) (h _ b) (h _ d),fun a b=>o.tot (h _ a) (h _ b)⟩
theorem wQ {lt:PyData->PyData->Bool} {x:PyData}:∀ {ys:List PyData},Ord lt (x::ys)->Up lt ys->Up lt (vq lt x ys)
 | [],_,_=>by simp [vq,Up]
 | y::ys,o,u=>by
  unfold vq
  unfold Up at u
  rw [List.pairwise_cons] at u
  split
  ·rename_i h
   refine List.pairwise_cons.mpr ⟨fun b hb=>?_,wQ (o.sub fun e m=>by simp at m ⊢;rcases m with rfl | m<;>simp [*]) u.2⟩
   rcases List.mem_cons.mp ((lY lt x ys).mem_iff.mp hb) with rfl | hb
   ·exact o.as (by simp) (by simp) h
   ·exact u.1 b hb
  ·rename_i h
   have h':lt y x=false:=by simpa using h
   refine List.pairwise_cons.mpr ⟨fun b hb=>?_,List.pairwise_cons.mpr u⟩
   rcases List.mem_cons.mp hb with rfl | hb
   ·exact h'
   ·exact o.ntr (by simp) (by simp) (by simp [hb]) h' (u.1 b hb)
theorem ow {lt:PyData->PyData->Bool}:∀ {xs:List PyData},Ord lt xs->Up lt (gu lt xs)
 | [],_=>by simp [gu,Up]
 | x::xs,o=>wQ (o.sub fun e m=>by
     rcases List.mem_cons.mp m with rfl | m
     ·simp
     ·simp [(dw lt xs).mem_iff.mp m]) (ow (o.sub fun e m=>by simp [m]))
theorem qF {lt:PyData->PyData->Bool}:∀ {xs ys:List PyData},Ord lt xs->xs.Perm ys->Up lt xs->Up lt ys->xs=ys
 | [],ys,_,p,_,_=>by rw [List.nil_perm.mp p]
 | x::xs,ys,o,p,u,v=>by
  cases ys with
  | nil=>exact absurd p (by simp)
  | cons y ys=>
   have hx:x∈y::ys:=p.mem_iff.mp (by simp)
   have hy:y∈x::xs:=p.mem_iff.mpr (by simp)
   have e:x=y:=by
    rcases List.mem_cons.mp hx with e | hx
    ·exact e
    rcases List.mem_cons.mp hy with e | hy
    ·exact e.symm
    exact o.tot (by simp) (by simp [hy]) ((List.pairwise_cons.mp v).1 x hx) ((List.pairwise_cons.mp u).1 y hy)
   subst e
   rw [qF (o.sub fun e m=>by simp [m]) (List.perm_cons x |>.mp p) (List.pairwise_cons.mp u).2 (List.pairwise_cons.mp v).2]
theorem jx {ds:List PyData} (c:du ds=true) (t:av ds=true):Ord ltB ds where
 as:=fun a b=>ou c t a b
 ntr:=fun a b d=>wO c t a b d
 tot:=fun {a b} ha hb h h'=>by
  rcases kS c t ha hb h' with q | q
  ·rw [q] at h;cases h
  ·exact q
theorem zz {ds es:List PyData} (c:du ds=true) (t:av ds=true) (p:es.Perm ds) (u:Up ltB es):es=gu ltB ds:=
 qF ((jx c t).sub fun e m=>p.mem_iff.mp m) (p.trans (dw ltB ds).symm) u (ow (jx c t))
end Ml
namespace Ml
open PySem PySem.Spec L2
open Sem (wp)
mutual
theorem cg:∀ {d:PyData},aK d=true->aq d=true
 | .str _,_=>by simp [aq]
 | .tuple ds,h=>by simp only [aK] at h;simp only [aq];exact kT h
 | .none,h=>by simp [aK] at h
 | .bool _,h=>by simp [aK] at h
 | .int _,h=>by simp [aK] at h
 | .list _,h=>by simp [aK] at h
 | .dict _,h=>by simp [aK] at h
theorem kT:∀ {ds:List PyData},bY ds=true->av ds=true
 | [],_=>by simp [av]
 | d::ds,h=>by simp only [bY,Bool.and_eq_true] at h;simp only [av,Bool.and_eq_true];exact ⟨cg h.1,kT h.2⟩
end
mutual
def qG (w:World):PyData->Int
 | .str x=>hashStr w x
 | .tuple ds=>reduceHash (Builtin.Tuple.tupleHashOf (fG w ds))
 | _=>0
def fG (w:World):List PyData->List Int
 | []=>[]
 | d::ds=>qG w d::fG w ds
end
mutual
def oy:PyData->Nat
 | .str _=>1
 | .tuple ds=>kU ds+1
 | _=>0
def kU:List PyData->Nat
 | []=>0
 | d::ds=>oy d+kU ds
end
mutual
theorem qH {h h':Heap} (k:∀ b o vs n,h.get? b=some o->o.cls=.type "tuple" -> o.data=.seq vs n->h'.get? b=some o):∀ {d:PyData} {v:Value} {as:List Addr},aK d=true->Reads h v d as->Reads h' v d as
 | .str _,_,_,_,.str x t=>.str x t
 | .tuple ds,_,_,t,.tuple h1 h2 h3 h4=>by simp only [aK] at t;exact .tuple (k _ _ _ _ h1 h2 h3) h2 h3 (kW k t h4)
 | .none,_,_,t,_=>by simp [aK] at t
 | .bool _,_,_,t,_=>by simp [aK] at t
 | .int _,_,_,t,_=>by simp [aK] at t
 | .list _,_,_,t,_=>by simp [aK] at t
 | .dict _,_,_,t,_=>by simp [aK] at t
theorem kW {h h':Heap} (k:∀ b o vs n,h.get? b=some o->o.cls=.type "tuple" -> o.data=.seq vs n->h'.get? b=some o):∀ {ds:List PyData} {vs:List Value} {as:List Addr},bY ds=true->ReadsAll h vs ds as->ReadsAll h' vs ds as
 | [],_,_,_,.nil=>.nil
 | d::ds,_,_,t,.cons r1 r2=>by simp only [bY,Bool.and_eq_true] at t;exact .cons (qH k t.1 r1) (kW k t.2 r2)
end
section
variable {P:Program} {w:World}
mutual
theorem oz:∀ (d:PyData) (A:Around) (s:Shared) (v:Value) (as:List Addr) (Q:Int->Shared->Prop) (E:Value->Shared->Prop),aK d=true->Reads s.heap v d as->A.units+d.depth < cLine->Q (qG w d) {s with toks:=s.toks+oy d}->wpAny (model P w) A (pyHash v) Q E s
 | .str x,A,s,v,as,Q,E,_,r,hu,h=>by
  cases r
  simp only [qG,oy] at h
  exact wpAny_pyHash_str h
 | .tuple ds,A,s,v,as,Q,E,t,r,hu,h=>by
  cases r with
  | tuple ho hc hd hi=>
   rename_i a o items n
   have hT:s.TypeIs (.ref a) "tuple" := ⟨o,ho,hc⟩
   simp only [aK] at t
   simp only [PyData.depth] at hu
   simp only [qG,oy] at h
   unfold pyHash
   first | unfold pyHashByItsType | skip
   first | refine wpAny_bind (wpAny_cRoomFor_or (.inr (by omega)) ?_) | skip
   refine wpAny_bind (wpAny_specialOf hT F.slot_tuple_hash.lookup ?_)
   show wpAny _ _ (if (some (Value.builtin "tuple.__hash__") == some Value.none)=true then _ else _) Q E s
   rw [if_neg (by rw [beq_builtin_none];exact Bool.false_ne_true)]
   refine wpAny_bind (wpAny_specialOf hT F.slot_tuple_hash.lookup ?_)
   show wpAny _ _ (callSpecialIfBoundUnlessNone? (.ref a) "__hash__" _ >>= _) Q E s
   refine wpAny_bind (wpAny_callSpecialIfBoundUnlessNone?_slot hT F.slot_tuple_hash (wpAny_call_entry F.slot_tuple_hash hT F.entry_tuple_hash ?_ (F.args_tuple_hash_1 _)))
   show wpAny _ _ (Builtin.Tuple.tupleItemsOf (.ref a) >>= _) _ _ s
   refine wpAny_bind (wpAny_tupleItemsOf ho hd ?_)
   refine wpAny_bind ?_
   rw [<- Array.forIn_toList]
   refine kX ds A.in1 s items.toList _ #[] _ _ _ t hi (by show A.units+1+_ < _;omega) ?_ ?_
   ·intro x b s' R k
    first
     | exact wpAny_bind (wpAny_mono k (fun c s2 q=>wpAny_pure q) fun _ _ z=>z)
     | exact wpAny_bind (wpAny_mono k (fun c s2 q=>wpAny_bind (wpAny_pure (wpAny_pure q))) fun _ _ z=>z)
   ·show wpAny _ _ (retInt (Builtin.Tuple.tupleHashOf (#[]++(fG w ds).toArray).toList)) _ _ _
    have e1:(#[]++(fG w ds).toArray).toList=fG w ds:=by simp
    rw [e1]
    refine wpAny_ret_mkInt ?_
    show wpAny _ _ (if (decide (-(2:Int) ^ 63<=Builtin.Tuple.tupleHashOf (fG w ds)) && decide (Builtin.Tuple.tupleHashOf (fG w ds) < 2 ^ 63))=true then _ else _) Q E _
    unfold reduceHash at h
    by_cases hr:(decide (-(2:Int) ^ 63<=Builtin.Tuple.tupleHashOf (fG w ds)) && decide (Builtin.Tuple.tupleHashOf (fG w ds) < 2 ^ 63))=true
    ·rw [if_pos hr]
     rw [if_pos hr] at h
     exact wpAny_pure (by simpa [Nat.add_assoc] using h)
    ·rw [if_neg hr]
     rw [if_neg hr] at h
     exact wpAny_bind (wpAny_rule (wpAny_pure (by simpa [Nat.add_assoc] using h)))
 | .none,_,_,_,_,_,_,t,_,_,_=>by simp [aK] at t
 | .bool _,_,_,_,_,_,_,t,_,_,_=>by simp [aK] at t
 | .int _,_,_,_,_,_,_,t,_,_,_=>by simp [aK] at t
 | .list _,_,_,_,_,_,_,t,_,_,_=>by simp [aK] at t
 | .dict _,_,_,_,_,_,_,t,_,_,_=>by simp [aK] at t
theorem kX:∀ (ds:List PyData) (A:Around) (s:Shared) (vs:List Value) (as:List Addr) (acc:Array Int) (R:Array Int->Shared->Prop) (E':Value->Shared->Prop) (body:Value->Array Int->Sem (ForInStep (Array Int))),bY ds=true->ReadsAll s.heap vs ds as->A.units+PyData.depthAll ds < cLine ->
  (∀ (x:Value) (b:Array Int) (s':Shared) (R':ForInStep (Array Int)->Shared->Prop),wpAny (model P w) A (pyHash x) (fun c s2=>R' (.yield (b.push c)) s2) E' s'->wpAny (model P w) A (body x b) R' E' s') ->
  R (acc++(fG w ds).toArray) {s with toks:=s.toks+kU ds}->wpAny (model P w) A (forIn vs acc body) R E' s
 | [],A,s,_,_,acc,R,E',body,_,.nil,_,hb,h=>by
  rw [List.forIn_nil]
  simp only [fG,kU] at h
  exact wpAny_pure (by simpa using h)
 | d::ds,A,s,_,_,acc,R,E',body,t,.cons r1 r2,hu,hb,h=>by
  simp only [bY,Bool.and_eq_true] at t
  simp only [PyData.depthAll] at hu
  rw [List.forIn_cons]
  refine wpAny_bind (hb _ _ _ _ ?_)
  refine oz d A s _ _ _ E' t.1 r1 (by omega) ?_
  refine kX ds A _ _ _ (acc.push (qG w d)) R E' body t.2 r2 (by omega) hb ?_
  simp only [fG,kU] at h
  simpa [Nat.add_assoc] using h
end
mutual
theorem mK:∀ (d:PyData) (n:Nat) (A:Around) (s:Shared) (v:Value) (as:List Addr) (Q:Bool->Shared->Prop) (E:Value->Shared->Prop),aK d=true->d.depth<=n->Reads s.heap v d as->Q true s->wpAny (model P w) A (eqIsQuiet n v) Q E s
 | .str x,n,A,s,v,as,Q,E,_,_,r,h=>by
  cases r
  rw [eqIsQuiet_byValue n rfl]
  exact wpAny_pure h
 | .tuple ds,n,A,s,v,as,Q,E,t,hn,r,h=>by
  cases r with
  | tuple ho hc hd hi=>
   rename_i a o items k
   have hT:s.TypeIs (.ref a) "tuple" := ⟨o,ho,hc⟩
   simp only [aK] at t
   simp only [PyData.depth] at hn
   obtain ⟨m,rfl⟩:∃ m,n=m+1:=⟨n - 1,by omega⟩
   unfold eqIsQuiet
   refine wpAny_bind (wpAny_specialOf hT F.slot_tuple_eq.lookup ?_)
   show wpAny _ _ (isInstance (.ref a) (.type "tuple") >>= _) _ _ s
   refine wpAny_bind (wpAny_isInstance hT isSubtype_tuple_tuple ?_)
   simp only [Bool.not_true,Bool.false_eq_true,if_false]
   refine wpAny_bind (wpAny_seqItems ho hd ?_)
   refine wpAny_bind ?_
   show wpAny _ _ (forIn items _ _) _ _ s
   rw [<- Array.forIn_toList]
   refine kY ds m A s items.toList _ _ E _ t (by omega) hi ?_ ?_
   ·intro x s' R k
    refine wpAny_bind (wpAny_mono k (fun c s2 q=>?_) fun _ _ z=>z)
    obtain ⟨rfl,q⟩:=q
    simp only [Bool.not_true,Bool.false_eq_true,if_false]
    exact wpAny_pure q
   ·exact wpAny_pure h
 | .none,_,_,_,_,_,_,_,t,_,_,_=>by simp [aK] at t
 | .bool _,_,_,_,_,_,_,_,t,_,_,_=>by simp [aK] at t
 | .int _,_,_,_,_,_,_,_,t,_,_,_=>by simp [aK] at t
 | .list _,_,_,_,_,_,_,_,t,_,_,_=>by simp [aK] at t
 | .dict _,_,_,_,_,_,_,_,t,_,_,_=>by simp [aK] at t
theorem kY:∀ (ds:List PyData) (n:Nat) (A:Around) (s:Shared) (vs:List Value) (as:List Addr) (R:Option Bool×Unit->Shared->Prop) (E:Value->Shared->Prop) (body:Value->Option Bool×Unit->Sem (ForInStep (Option Bool×Unit))),bY ds=true->PyData.depthAll ds<=n->ReadsAll s.heap vs ds as ->
  (∀ (x:Value) (s':Shared) (R':ForInStep (Option Bool×Unit)->Shared->Prop),wpAny (model P w) A (eqIsQuiet n x) (fun c s2=>c=true/\R' (.yield (none,())) s2) E s'->wpAny (model P w) A (body x (none,())) R' E s') ->
  R (none,()) s->wpAny (model P w) A (forIn vs (none,()) body) R E s
 | [],n,A,s,_,_,R,E,body,_,_,.nil,hb,h=>by
  rw [List.forIn_nil]
  exact wpAny_pure h
 | d::ds,n,A,s,_,_,R,E,body,t,hn,.cons r1 r2,hb,h=>by
  simp only [bY,Bool.and_eq_true] at t
  simp only [PyData.depthAll] at hn
  rw [List.forIn_cons]
  refine wpAny_bind (hb _ _ _ (mK d n A s _ _ _ E t.1 (by omega) r1 ⟨rfl,?_⟩))
  exact kY ds n A s _ _ R E body t.2 (by omega) r2 hb h
end
end
def EW (h:Heap) (d:PyData) (a:Addr):Prop:=aK d=true/\d.depth<=8/\cI d=true/\∃ as,Reads h (.ref a) d as
noncomputable instance JJ:DecidableEq PyData:=fun a b=>Classical.propDecidable (a=b)
noncomputable def fY (P:Program) (w:World):HeapKind P w PyData where
 is:=EW
 hash:=qG w
 draws:=oy
 room:=fun A=>A.units+20 < cLine
 inj:=fun {h a x y} ⟨_,_,_,as,hx⟩ ⟨_,_,_,bs,hy⟩=>(PySem.Reads.unique hx _ _ hy).1
 keeps:=fun {h h' k a d o es ep} ⟨t,dp,so,as,r⟩ ho hd hs=>⟨t,dp,so,as,qH (fun b ob vs n e c dd=>by
  have ne:b≠d:=fun z=>by
   subst z
   rw [ho] at e
   cases e
   rw [hd] at dd
   cases dd
  exact (hs.2 b ne).trans e) t r⟩
 pyHash:=fun {A E s k a Q} hu ⟨t,dp,_,as,r⟩ h=>oz k A s _ as Q E t r (by omega) h
 eqBool:=fun {A E s x y a b Q} hu ⟨t1,d1,s1,as,r1⟩ ⟨t2,d2,s2,bs,r2⟩ h=>by
  have hq:PyData.eqv x y=decide (x=y):=by
   by_cases e:x=y
   ·subst e;rw [decide_eq_true rfl];exact bH (cg t1)
   ·rw [decide_eq_false e];exact bC (cg t1) (cg t2) e
  have:=SeqAt.eqAt_reads x y A s _ _ _ _ r1 r2 (i3 s1 (i6 (cg t1))) (i3 s2 (i6 (cg t2))) (by omega) P w E Q
  rw [hq] at this
  exact this h
 quiet:=fun {A E s k a Q} ⟨t,dp,_,as,r⟩ h=>mK k 8 A s _ as Q E t dp r h
def dO (P:Program) (w:World) (xs:List (PyData×Addr×Value)) (a:Addr):HO:=.ext fun h=>xs.length<=sizeLine/\(a == sysModules)=false/\∃ o es ep,h.get? a=some o/\o.ExactDict/\o.data=.dict es ep/\es.toList=xs.map (entryOfKey (fY P w))/\(xs.map (·.1)).Nodup
theorem Dw {P:Program} {w:World} {xs:List (PyData×Addr×Value)} {a:Addr} {H:Hp} {h:Heap} {o:Obj} {es:Array DictEntry} {ep:Nat} (h1:xs.length<=sizeLine) (h2:(a == sysModules)=false) (h3:h.get? a=some o) (h4:o.ExactDict) (h5:o.data=.dict es ep) (h6:es.toList=xs.map (entryOfKey (fY P w))) (h7:(xs.map (·.1)).Nodup):cA P w H h a (dO P w xs a):=
 ⟨⟨h1,h2,o,es,ep,h3,h4,h5,h6,h7⟩,⟨o,h3⟩,fun g1 g2 ⟨k1,k2,o',es',ep',k3,k4⟩ hk=>⟨k1,k2,o',es',ep',hk _ k3,k4⟩⟩
end Ml
namespace Ml
open PySem PySem.Spec L2
def view (θ:List Addr) (H:Hp):Hp:=fun a=>if a∈θ then none else H a
theorem cS {θ:List Addr} {H:Hp} {a:Addr} {o:HO} (h:view θ H a=some o):a∉θ/\H a=some o:=by
 unfold view at h
 split at h
 ·cases h
 ·exact ⟨by assumption,h⟩
theorem dj {θ:List Addr} {H:Hp} {a:Addr} (h:a∉θ):view θ H a=H a:=if_neg h
theorem ay (θ:List Addr) (H:Hp):bE (view θ H) H:=fun a o h=>(cS h).2
def lZ (M:Hp) (p:PyData×PyData) (q:PyData×Addr×Value):Prop:=p.1=q.1/\aK p.1=true/\p.1.depth<=8/\cI p.1=true/\Rep M p.1 (.ref q.2.1)/\∃ v,RelV v q.2.2/\Rep M p.2 v/\cI p.2=true
def eN (P:Program) (w:World) (M G:Hp) (a:Addr) (t:Bool) (kvs:List (PyData×PyData)):Prop:=
 (t=false/\∃ ks,G a=some (.dK ks)/\bh ks=some kvs/\∀ p∈kvs,cI p.1=true/\cI p.2=true)\/(t=true/\∃ xs,G a=some (dO P w xs a)/\Paired (lZ M) kvs xs)
structure Gx where
 P:Program
 w:World
 mg:Str->Option Value
 K:PySem.W.Frag
def Dx:PyData->V
 | .int i=>.int i
 | .str x=>.str x
 | .bool b=>.bl b
 | _=>.non
def zA (K:PySem.W.Frag) (a:Addr) (xs:List PyData):Prop:=(∃ (o:Obj) (its:Array Value) (n:Nat),K.lookup a=some o/\o.cls=.type "tuple" /\ o.data=.seq its n/\its.size<=sizeLine/\Vals (xs.map Dx) its.toList)/\(∀ x∈xs,(match x with | .int _ | .str _ | .bool _ | .none=>true | _=>false)=true)/\bW xs=true
def GI (G:Gx) (x:Xc) (cls:Value) (da:Option Addr) (M:Hp):Prop:=G.mg x.cls=some cls/\da=none/\x.args=[]
def cj (G:Gx) (θ:List Addr) (H:Hp):D->V->Prop
 | .dat d,v=>Rep (view θ H) d v/\cI d=true
 | .ref i,v=>∃ a,θ[i]?=some a/\v=.ref a
 | .cx t kvs,v=>∃ a,v=.ref a/\eN G.P G.w (view θ H) (view θ H) a t kvs
 | .set _,_=>False
 | .fn n,v=>∃ f,G.mg n=some (.ref f)/\v=.ref f
 | .scr ns,v=>∃ a,v=.ref a/\gD G.K (view θ H) a (ns.map V.int)
 | .ktup xs,v=>∃ a,v=.ref a/\zA G.K a xs
 | .rpr x,v=>v=.str x
 | .exc x,v=>∃ a cls,v=.ref a/\view θ H a=some (.ext (BU a cls))/\GI G x cls none (view θ H)
abbrev aJ (G:Gx) (θ:List Addr) (H:Hp):List D->List V->Prop:=Paired (cj G θ H)
def TabAt (θ:List Addr) (H:Hp) (P:Addr) (q:Str):Prop:=∃ ps:Array Value,H P=some (.tbl ps)/\TriplesOk ps.toList/\∀ (pos:Pos) (c:Value),codeAmong pos ps.toList=some c->∃ b,c=.ref b/\b≠P/\view θ H b=some (.ext (recAt b q))
theorem TabAt.same {θ θ':List Addr} {H H':Hp} {P:Addr} {q:Str} (s:bE (view θ H) (view θ' H')) (e:∀ o,H P=some o->H' P=some o) (x:TabAt θ H P q):TabAt θ' H' P q:=by
 obtain ⟨ps,h1,h2,h3⟩:=x
 exact ⟨ps,e _ h1,h2,fun pos c k=>let ⟨b,k1,k2,k3⟩:=h3 pos c k;⟨b,k1,k2,s _ _ k3⟩⟩
def vv (G:Gx) (θ:List Addr) (H:Hp) (a:Addr):MO->Prop
 | .lst xs=>∃ vs,H a=some (.lst vs)/\aJ G θ H xs vs
 | .cx t kvs=>eN G.P G.w (view θ H) H a t kvs
 | .ins _ _=>False
 | .tab P q=>a=P/\TabAt θ H P q
structure W (G:Gx) (θ:List Addr) (h:Hm) (H:Hp):Prop where
 len:θ.length=h.length
 nd:θ.Nodup
 obj:∀ (i:Nat) (a:Addr) (o:MO),θ[i]?=some a->h[i]?=some o->vv G θ H a o
def Fr (G:Gx) (θ:List Addr) (H:Hp) (ρ:Fm) (σ:St):Prop:=ρ.length=σ.length/\∀ (i:Nat) (d:D),ρ[i]?=some (some d)->∃ v,σ[i]?=some (some v)/\cj G θ H d v
structure Ev (θ:List Addr) (H:Hp) (θ':List Addr) (H':Hp):Prop where
 pre:∃ ext,θ'=θ++ext
 same:bE (view θ H) (view θ' H')
section
variable {G:Gx} {θ θ' θ'':List Addr} {H H' H'':Hp} {h h':Hm} {d:D} {v:V} {ρ:Fm} {σ:St}
theorem Ev.refl:Ev θ H θ H:=⟨⟨[],by simp⟩,bE.refl _⟩
theorem Ev.trans (a:Ev θ H θ' H') (b:Ev θ' H' θ'' H''):Ev θ H θ'' H'':=by
 obtain ⟨e1,rfl⟩:=a.pre
 obtain ⟨e2,rfl⟩:=b.pre
 exact ⟨⟨e1++e2,by simp⟩,a.same.trans b.same⟩
theorem Ev.get (a:Ev θ H θ' H') {i:Nat} {x:Addr} (e:θ[i]?=some x):θ'[i]?=some x:=by
 obtain ⟨ext,rfl⟩:=a.pre
 rw [List.getElem?_append_left (by have:=List.getElem?_eq_some_iff.mp e;exact this.1)]
 exact e
theorem lZ.same {M M':Hp} (s:bE M M') {p:PyData×PyData} {q:PyData×Addr×Value} (h:lZ M p q):lZ M' p q:=by
 obtain ⟨h1,h2,h3,h4,h5,v,h6,h7,h8⟩:=h
 exact ⟨h1,h2,h3,h4,h5.same s,v,h6,h7.same s,h8⟩
theorem eN.same {P:Program} {w:World} {M M' G G':Hp} (s:bE M M') {a:Addr} {t:Bool} {kvs:List (PyData×PyData)} (h:eN P w M G a t kvs) (e:∀ o,G a=some o->G' a=some o):eN P w M' G' a t kvs:=by
 rcases h with ⟨ht,ks,h1,h2⟩ | ⟨ht,xs,h1,h2⟩
 ·exact .inl ⟨ht,ks,e _ h1,h2⟩
 ·exact .inr ⟨ht,xs,e _ h1,Paired.yG h2 fun _ _=>lZ.same s⟩
theorem eN.some {P:Program} {w:World} {M G:Hp} {a:Addr} {t:Bool} {kvs:List (PyData×PyData)} (h:eN P w M G a t kvs):G a≠none:=by
 rcases h with ⟨_,ks,h1,_⟩ | ⟨_,xs,h1,_⟩
 ·rw [h1];exact fun z=>nomatch z
 ·rw [h1];exact fun z=>nomatch z
theorem cj.ev (e:Ev θ H θ' H') (r:cj G θ H d v):cj G θ' H' d v:=by
 cases d with
 | dat d=>exact ⟨r.1.same e.same,r.2⟩
 | ref i=>obtain ⟨a,h1,h2⟩:=r;exact ⟨a,e.get h1,h2⟩
 | cx t kvs=>obtain ⟨a,h1,h2⟩:=r;exact ⟨a,h1,h2.same e.same fun o=>e.same a o⟩
 | set xs=>exact r
 | fn n=>exact r
 | scr ns=>obtain ⟨a,h1,h2⟩:=r;exact ⟨a,h1,e.same.seq h2⟩
 | ktup xs=>exact r
 | rpr x=>exact r
 | exc x=>obtain ⟨a,c,h1,h2,h3⟩:=r;exact ⟨a,c,h1,e.same _ _ h2,h3⟩
theorem aJ.ev (e:Ev θ H θ' H') {ds:List D} {vs:List V} (r:aJ G θ H ds vs):aJ G θ' H' ds vs:=Paired.yG r fun _ _=>cj.ev e
theorem Fr.ev (e:Ev θ H θ' H') (r:Fr G θ H ρ σ):Fr G θ' H' ρ σ:=⟨r.1,fun i d q=>let ⟨v,h1,h2⟩:=r.2 i d q;⟨v,h1,h2.ev e⟩⟩
theorem Fr.set {i:Nat} (r:Fr G θ H ρ σ) (q:cj G θ H d v):Fr G θ H (ρ.set i (some d)) (σ.set i (some v)):=by
 refine ⟨by simp [r.1],fun j e he=>?_⟩
 by_cases hj:i=j
 ·subst hj
  by_cases hl:i < ρ.length
  ·rw [List.getElem?_set_self hl] at he
   cases he
   exact ⟨v,by rw [List.getElem?_set_self (by rw [<- r.1];exact hl)],q⟩
  ·rw [List.getElem?_eq_none (by simp;omega)] at he
   cases he
 ·rw [List.getElem?_set_ne hj] at he ⊢
  exact r.2 j e he
theorem Fr.replicate (n:Nat) (r:Fr G θ H ρ σ):Fr G θ H (List.replicate n none++ρ) (List.replicate n none++σ):=by
 refine ⟨by simp [r.1],fun i d e=>?_⟩
 by_cases hi:i < n
 ·rw [List.getElem?_append_left (by simp;exact hi),List.getElem?_replicate] at e
  split at e<;>cases e
 ·rw [List.getElem?_append_right (by simp;omega)] at e ⊢
  simp at e ⊢
  exact r.2 _ d e
theorem zB {p:Addr} {o:HO} (hp:H p=none) (hn:p∉θ):Ev θ H θ (upd H p o):=⟨⟨[],by simp⟩,fun a u q=>by
 obtain ⟨h1,h2⟩:=cS q
 rw [dj h1,aC (aG h2 hp)]
 exact h2⟩
theorem vv.some (o:MO) {a:Addr} (r:vv G θ H a o):H a≠none:=by
 cases o with
 | lst xs=>obtain ⟨vs,e,_⟩:=r;rw [e];exact fun z=>nomatch z
 | cx t kvs=>exact eN.some r
 | ins=>exact r.elim
 | tab P q=>obtain ⟨rfl,ps,e,_⟩:=r;rw [e];exact fun z=>nomatch z
theorem W.zC (w:W G θ h H) {p:Addr} (hp:H p=none):p∉θ:=fun m=>by
 obtain ⟨i,hi,e⟩:=List.mem_iff_getElem.mp m
 have hl:i < h.length:=by rw [<- w.len];exact hi
 exact vv.some _ (w.obj i p h[i] (by rw [List.getElem?_eq_getElem hi,e]) (List.getElem?_eq_getElem hl)) hp
theorem W.put (w:W G θ h H) {p:Addr} {o:HO} (hp:H p=none):Ev θ H θ (upd H p o)/\W G θ h (upd H p o)/\view θ (upd H p o) p=some o:=by
 have hn:=w.zC hp
 have e:=zB (o:=o) hp hn
 refine ⟨e,⟨w.len,w.nd,fun i a m h1 h2=>?_⟩,by rw [dj hn,bo]⟩
 have r:=w.obj i a m h1 h2
 have ha:a≠p:=fun z=>by subst z;exact hn (List.mem_of_getElem? h1)
 cases m with
 | lst xs=>obtain ⟨vs,q1,q2⟩:=r;exact ⟨vs,by rw [aC ha];exact q1,q2.ev e⟩
 | cx t kvs=>exact eN.same e.same r fun o q=>by rw [aC ha];exact q
 | ins=>exact r.elim
 | tab P q=>obtain ⟨rfl,x⟩:=r;exact ⟨rfl,x.same e.same fun o q=>by rw [aC ha];exact q⟩
theorem W.grow (w:W G θ h H) (s:bE H H'):Ev θ H θ H'/\W G θ h H':=by
 have e:Ev θ H θ H':=⟨⟨[],by simp⟩,fun a u q=>by
  obtain ⟨h1,h2⟩:=cS q
  rw [dj h1]
  exact s _ _ h2⟩
 refine ⟨e,⟨w.len,w.nd,fun i a m h1 h2=>?_⟩⟩
 have r:=w.obj i a m h1 h2
 cases m with
 | lst xs=>obtain ⟨vs,q1,q2⟩:=r;exact ⟨vs,s _ _ q1,q2.ev e⟩
 | cx t kvs=>exact eN.same e.same r fun o q=>s _ _ q
 | ins=>exact r.elim
 | tab P q=>obtain ⟨rfl,x⟩:=r;exact ⟨rfl,x.same e.same fun o q=>s _ _ q⟩
theorem W.alloc (w:W G θ h H) {p:Addr} {o:HO} {m:MO} (hp:H p=none) (ho:vv G (θ++[p]) (upd H p o) p m):Ev θ H (θ++[p]) (upd H p o)/\W G (θ++[p]) (h++[m]) (upd H p o):=by
 have hn:=w.zC hp
 have e:Ev θ H (θ++[p]) (upd H p o):=⟨⟨[p],rfl⟩,fun a u q=>by
  obtain ⟨h1,h2⟩:=cS q
  have ne:=aG h2 hp
  rw [dj (by simp;exact ⟨h1,ne⟩),aC ne]
  exact h2⟩
 refine ⟨e,⟨by simp [w.len],?_,fun i a m' h1 h2=>?_⟩⟩
 ·rw [List.nodup_append]
  exact ⟨w.nd,by simp,fun x hx y hy z=>by simp at hy;subst hy;subst z;exact hn hx⟩
 ·by_cases hi:i < θ.length
  ·rw [List.getElem?_append_left hi] at h1
   rw [List.getElem?_append_left (by rw [<- w.len];exact hi)] at h2
   have r:=w.obj i a m' h1 h2
   have ha:a≠p:=fun z=>by subst z;exact hn (List.mem_of_getElem? h1)
   cases m' with
   | lst xs=>obtain ⟨vs,q1,q2⟩:=r;exact ⟨vs,by rw [aC ha];exact q1,q2.ev e⟩
   | cx t kvs=>exact eN.same e.same r fun o q=>by rw [aC ha];exact q
   | ins=>exact r.elim
   | tab P q=>obtain ⟨rfl,x⟩:=r;exact ⟨rfl,x.same e.same fun o q=>by rw [aC ha];exact q⟩
  ·rw [List.getElem?_append_right (by omega)] at h1
   rw [List.getElem?_append_right (by rw [<- w.len];omega),<- w.len] at h2
   cases hk:i - θ.length with
   | zero=>
    rw [hk] at h1 h2
    simp at h1 h2
    subst h1
    subst h2
    exact ho
   | succ k=>
    rw [hk] at h1
    simp at h1
theorem W.write (w:W G θ h H) {i:Nat} {p:Addr} {o:HO} {m:MO} (hi:θ[i]?=some p) (hl:i < h.length) (ho:vv G θ (upd H p o) p m):Ev θ H θ (upd H p o)/\W G θ (h.set i m) (upd H p o):=by
 have hm:p∈θ:=List.mem_of_getElem? hi
 have e:Ev θ H θ (upd H p o):=⟨⟨[],by simp⟩,fun a u q=>by
  obtain ⟨h1,h2⟩:=cS q
  have ne:a≠p:=fun z=>by subst z;exact h1 hm
  rw [dj h1,aC ne]
  exact h2⟩
 refine ⟨e,⟨by simp [w.len],w.nd,fun j a m' h1 h2=>?_⟩⟩
 by_cases hj:i=j
 ·subst hj
  rw [hi] at h1
  cases h1
  rw [List.getElem?_set_self hl] at h2
  cases h2
  exact ho
 ·rw [List.getElem?_set_ne hj] at h2
  have ha:a≠p:=fun z=>by
   subst z
   obtain ⟨l1,e1⟩:=List.getElem?_eq_some_iff.mp hi
   obtain ⟨l2,e2⟩:=List.getElem?_eq_some_iff.mp h1
   have pw:=List.pairwise_iff_getElem.mp w.nd
   rcases Nat.lt_or_gt_of_ne hj with z | z
   ·exact pw i j l1 l2 z (e1.trans e2.symm)
   ·exact pw j i l2 l1 z (e2.trans e1.symm)
  have r:=w.obj j a m' h1 h2
  cases m' with
  | lst xs=>obtain ⟨vs,q1,q2⟩:=r;exact ⟨vs,by rw [aC ha];exact q1,q2.ev e⟩
  | cx t kvs=>exact eN.same e.same r fun o q=>by rw [aC ha];exact q
  | ins=>exact r.elim
  | tab P q=>obtain ⟨rfl,x⟩:=r;exact ⟨rfl,x.same e.same fun o q=>by rw [aC ha];exact q⟩
end
abbrev XP:=Xc->List Addr->Hm->Hp->Prop
def aD {α:Type} (G:Gx) (E:XP) (θ:List Addr) (H:Hp):R α->(α->List Addr->Hm->Hp->Prop)->Prop
 | .ok a h',K=>∀ θ' H',Ev θ H θ' H'->W G θ' h' H'->K a θ' h' H'
 | .exc x h',_=>∀ θ' H',Ev θ H θ' H'->W G θ' h' H'->E x θ' h' H'
 | .bad,_=>False
section
variable {α β:Type} {G:Gx} {E E':XP} {θ θ':List Addr} {H H':Hp} {h:Hm} {r:R α} {f:α->Hm->R β} {K K':α->List Addr->Hm->Hp->Prop}
theorem aD.mono (p:aD G E θ H r K) (k:∀ a θ' h' H',Ev θ H θ' H'->W G θ' h' H'->K a θ' h' H'->K' a θ' h' H'):aD G E θ H r K':=by
 cases r with
 | ok a h'=>exact fun θ' H' e w=>k _ _ _ _ e w (p θ' H' e w)
 | exc x h'=>exact p
 | bad=>exact p
theorem aD.later (p:aD G E θ H r K) (e:Ev θ H θ' H'):aD G E θ' H' r K:=by
 cases r with
 | ok a h'=>exact fun θ2 H2 e2 w=>p θ2 H2 (e.trans e2) w
 | exc x h'=>exact fun θ2 H2 e2 w=>p θ2 H2 (e.trans e2) w
 | bad=>exact p
theorem aD.bind {L:β->List Addr->Hm->Hp->Prop} (p:aD G E θ H (r.bind f) L):aD G E θ H r fun a θ1 h1 H1=>Ev θ H θ1 H1/\W G θ1 h1 H1/\aD G E θ1 H1 (f a h1) L:=by
 cases r with
 | ok a h'=>exact fun θ1 H1 e w=>⟨e,w,aD.later p e⟩
 | exc x h'=>exact p
 | bad=>exact p
end
def md (G:Gx) (E:XK):XP:=fun x θ _ H=>∀ cls da,GI G x cls da (view θ H)->E cls da H
def KV (G:Gx) (Q:VK):D->List Addr->Hm->Hp->Prop:=fun d θ _ H=>∀ v,cj G θ H d v->Q v H
def Kk (G:Gx) (Q:List V->Hp->Prop):List D->List Addr->Hm->Hp->Prop:=fun ds θ _ H=>∀ vs,aJ G θ H ds vs->Q vs H
def KS (G:Gx) (C:Ends):Fl->List Addr->Hm->Hp->Prop:=fun f θ _ H=>match f with
 | .nx ρ=>∀ σ,Fr G θ H ρ σ->C.nx σ H
 | .rt d=>∀ v,cj G θ H d v->C.rt v H
 | .bk ρ=>∀ σ,Fr G θ H ρ σ->C.bk σ H
 | .ct ρ=>∀ σ,Fr G θ H ρ σ->C.ct σ H
def lE (G:Gx) (E:XK) (m:ME):TE:=fun σ H Q=>∃ θ h ρ,W G θ h H/\Fr G θ H ρ σ/\aD G (md G E) θ H (m ρ h) (KV G Q)
def lT (G:Gx) (E:XK) (m:MT):TT:=fun σ H Q=>∃ θ h ρ,W G θ h H/\Fr G θ H ρ σ/\aD G (md G E) θ H (m ρ h) (fun b _ _ H'=>Q b H')
def lA (G:Gx) (E:XK) (m:MA):TA:=fun σ H Q=>∃ θ h ρ,W G θ h H/\Fr G θ H ρ σ/\aD G (md G E) θ H (m ρ h) (Kk G Q)
def lS (G:Gx) (E:XK) (m:MS):TS:=fun C σ H=>∃ θ h ρ,W G θ h H/\Fr G θ H ρ σ/\aD G (md G E) θ H (m ρ h) (KS G C)
def lG (G:Gx) (E:XK) (g:MG):TG:=fun v σ H Q=>∃ θ h ρ d,W G θ h H/\Fr G θ H ρ σ/\cj G θ H d v/\aD G (md G E) θ H (g d ρ h) (fun ρ' θ' _ H'=>∀ σ',Fr G θ' H' ρ' σ'->Q σ' H')
abbrev _root_.L2.Cx.G (X:Cx):Gx:=⟨X.prog,X.w,X.mg,X.K⟩
@[irreducible] def DE (X:Cx) (E:XK) (m:ME) (e:Expr):Prop:=PE X e (lE X.G E m)
theorem bu (X:Cx) (E:XK) (m:ME) (e:Expr):DE X E m e=(PE X e (lE X.G E m)):=by
 unfold DE
 rfl
@[irreducible] def DT (X:Cx) (E:XK) (m:MT) (e:Expr):Prop:=PT X e (lT X.G E m)
theorem iH (X:Cx) (E:XK) (m:MT) (e:Expr):DT X E m e=(PT X e (lT X.G E m)):=by
 unfold DT
 rfl
@[irreducible] def DA (X:Cx) (E:XK) (m:MA) (es:List Expr):Prop:=PA X es (lA X.G E m)
theorem gv (X:Cx) (E:XK) (m:MA) (es:List Expr):DA X E m es=(PA X es (lA X.G E m)):=by
 unfold DA
 rfl
@[irreducible] def DS (X:Cx) (E:XK) (m:MS) (s:Stmt):Prop:=PS X s (lS X.G E m)
theorem gR (X:Cx) (E:XK) (m:MS) (s:Stmt):DS X E m s=(PS X s (lS X.G E m)):=by
 unfold DS
 rfl
@[irreducible] def zD (X:Cx) (E:XK) (m:MS) (s:List Stmt):Prop:=uW X s (lS X.G E m)
theorem me (X:Cx) (E:XK) (m:MS) (s:List Stmt):zD X E m s=(uW X s (lS X.G E m)):=by
 unfold zD
 rfl
@[irreducible] def DG (X:Cx) (E:XK) (m:MG) (e:Expr):Prop:=PG X e (lG X.G E m)
theorem i7 (X:Cx) (E:XK) (m:MG) (e:Expr):DG X E m e=(PG X e (lG X.G E m)):=by
 unfold DG
 rfl
theorem PE.imp {X:Cx} {e:Expr} {t t':TE} (h:PE X e t) (k:∀ σ H Q,t' σ H Q->t σ H Q):PE X e t':=fun pins s σ H Q I q=>h pins s σ H Q I (k _ _ _ q)
theorem PT.imp {X:Cx} {e:Expr} {t t':TT} (h:PT X e t) (k:∀ σ H Q,t' σ H Q->t σ H Q):PT X e t':=fun pins s σ H Q I q=>h pins s σ H Q I (k _ _ _ q)
theorem PA.imp {X:Cx} {e:List Expr} {t t':TA} (h:PA X e t) (k:∀ σ H Q,t' σ H Q->t σ H Q):PA X e t':=fun pos pins s σ H Q I q=>h pos pins s σ H Q I (k _ _ _ q)
theorem PS.imp {X:Cx} {e:Stmt} {t t':TS} (h:PS X e t) (k:∀ C σ H,t' C σ H->t C σ H):PS X e t':=fun pins s σ H C I q=>h pins s σ H C I (k _ _ _ q)
theorem uW.imp {X:Cx} {e:List Stmt} {t t':TS} (h:uW X e t) (k:∀ C σ H,t' C σ H->t C σ H):uW X e t':=fun pins s σ H C I q=>h pins s σ H C I (k _ _ _ q)
end Ml
namespace Ml
open PySem PySem.Spec L2
def EX (G:Gx) (E:XK) (f:D->D->Hm->R D):R2:=fun x y H Q=>∃ θ h d1 d2,W G θ h H/\cj G θ H d1 x/\cj G θ H d2 y/\aD G (md G E) θ H (f d1 d2 h) (KV G Q)
def JK (G:Gx) (E:XK) (f:Fn):List V->Hp->VK->Prop:=fun xs H Q=>∃ θ h ds,W G θ h H/\aJ G θ H ds xs/\aD G (md G E) θ H (f ds h) (KV G Q)
def kq (X:Cx) (E:XK) (op:Value->Value->Sem Value) (f:D->D->Hm->R D):Prop:=gg X op (EX X.G E f)
def ku (X:Cx) (E:XK) (v:Value) (f:Fn):Prop:=cR X v (JK X.G E f)
theorem gg.imp {X:Cx} {op:Value->Value->Sem Value} {r r':R2} (h:gg X op r) (k:∀ x y H Q,r' x y H Q->r x y H Q):gg X op r':=fun pins s σ H x y v u Q I rx ry q=>h pins s σ H x y v u Q I rx ry (k _ _ _ _ q)
theorem cR.imp {X:Cx} {f:Value} {r r':List V->Hp->VK->Prop} (h:cR X f r) (k:∀ xs H Q,r' xs H Q->r xs H Q):cR X f r':=fun pins s σ H xs us Q I r q=>h pins s σ H xs us Q I r (k _ _ _ q)
theorem kq.of {X:Cx} {E:XK} {op:Value->Value->Sem Value} {r:R2} {f:D->D->Hm->R D} (h:gg X op r)
  (k:∀ θ hm H d1 d2 x y Q,W X.G θ hm H->cj X.G θ H d1 x->cj X.G θ H d2 y->aD X.G (md X.G E) θ H (f d1 d2 hm) (KV X.G Q)->r x y H Q):kq X E op f:=
 gg.imp h fun x y H Q ⟨θ,hm,d1,d2,w,r1,r2,p⟩=>k θ hm H d1 d2 x y Q w r1 r2 p
theorem ku.of {X:Cx} {E:XK} {v:Value} {r:List V->Hp->VK->Prop} {f:Fn} (h:cR X v r)
  (k:∀ θ hm H ds xs Q,W X.G θ hm H->aJ X.G θ H ds xs->aD X.G (md X.G E) θ H (f ds hm) (KV X.G Q)->r xs H Q):ku X E v f:=
 cR.imp h fun xs H Q ⟨θ,hm,ds,w,r1,p⟩=>k θ hm H ds xs Q w r1 p
section
variable {X:Cx} {E:XK} {m a b c:ME} {t u:MT} {e e1 e2 e3:Expr} {es:List Expr} {ma:MA} {pos:Pos} {i:Nat} {x:Str}
theorem EY (hN:X.N[i]?=some x) (hv:Dc X.env.scope x) (hd:(x == ("__debug__" : Str))=false:=by decide) (hcd:(x == ("__classdict__" : Str))=false:=by decide):DE X E (ab i) (.Name x pos):=by
 simp only [bu] at *
 exact PE.imp (D3 hN hv hd hcd) fun σ H Q ⟨θ,h,ρ,w,fr,p⟩=>by
   unfold ab at p
   cases e:ρ[i]? with
   | none=>rw [e] at p;exact p.elim
   | some o=>
    cases o with
    | none=>rw [e] at p;exact p.elim
    | some d=>
     rw [e] at p
     obtain ⟨v,h1,h2⟩:=fr.2 i d e
     exact ⟨v,h1,p θ H Ev.refl w v h2⟩
theorem zE {v:V} {d:PyData} (h:PE X e (tC v)) (r:∀ G,Rep G d v) (s:cI d=true):DE X E (ag d) e:=by
 simp only [bu] at *
 exact PE.imp h fun σ H Q ⟨θ,hm,ρ,w,fr,p⟩=>p θ H Ev.refl w v ⟨r _,s⟩
theorem aI {k:Int} {j:Nat}:DE X E (ag (.int k)) (.Constant (.int k) j pos):=zE lU (fun _=>rfl) (by simp [cI])
theorem cO {k:Bool} {j:Nat}:DE X E (ag (.bool k)) (.Constant (.bool k) j pos):=zE De (fun _=>rfl) (by simp [cI])
theorem wR {j:Nat}:DE X E (ag .none) (.Constant .none j pos):=zE yJ (fun _=>rfl) (by simp [cI])
theorem fH {k:Str} {j:Nat} (h:PyData.strOk k=true:=by decide +kernel):DE X E (ag (.str k)) (.Constant (.str k) j pos):=zE uX (fun _=>rfl) (by simp [cI,h])
theorem rP {G:Gx} {f:D->D->Hm->R D} {σ:St} {H:Hp} {Q:VK} (h:lE G E (ao f a b) σ H Q):Ge (EX G E f) (lE G E a) (lE G E b) σ H Q:=by
 obtain ⟨θ,h,ρ,w,fr,p⟩:=h
 refine ⟨θ,h,ρ,w,fr,(aD.bind p).mono fun x θ1 h1 H1 _ _ ⟨e1,w1,p1⟩ v r1=>?_⟩
 exact ⟨θ1,h1,ρ,w1,fr.ev e1,(aD.bind p1).mono fun y θ2 h2 H2 _ _ ⟨e2,w2,p2⟩ u r2=>⟨θ2,h2,x,y,w2,r1.ev e2,r2,p2⟩⟩
theorem wU {G:Gx} {f:Fn} {σ:St} {H:Hp} {Q:VK} (h:lE G E (af f ma) σ H Q):Io (JK G E f) (lA G E ma) σ H Q:=by
 obtain ⟨θ,h,ρ,w,fr,p⟩:=h
 exact ⟨θ,h,ρ,w,fr,(aD.bind p).mono fun xs θ1 h1 H1 _ _ ⟨e1,w1,p1⟩ vs r1=>⟨θ1,h1,xs,w1,r1,p1⟩⟩
theorem bq {op:Operator} {f:D->D->Hm->R D} (h:kq X E (binaryOp op) f) (ha:DE X E a e1) (hb:DE X E b e2):DE X E (ao f a b) (.BinOp e1 op e2 pos):=by
 simp only [bu] at *
 exact PE.imp (Dh h ha hb) fun _ _ _=>rP
theorem eO {op:CmpOp} {f:D->D->Hm->R D} (h:kq X E (compareOp op) f) (ha:DE X E a e1) (hb:DE X E b e2) (hm:behindInMarks op e2=false):DE X E (ao f a b) (.Compare e1 [op] [e2] pos):=by
 simp only [bu] at *
 exact PE.imp (Bw h ha hb hm) fun _ _ _=>rP
theorem eE {f:D->D->Hm->R D} (h:FW X (EX X.G E f)) (ha:DE X E a e1) (hb:DE X E b e2) (hs:wt e2):DE X E (ao f a b) (.Subscript e1 e2 pos):=by
 simp only [bu] at *
 exact PE.imp (Gv h ha hb hs) fun _ _ _=>rP
theorem wV {G:Gx} {σ:St} {H:Hp} {Q:Bool->Hp->Prop} (h:lT G E (aQ m) σ H Q):lE G E m σ H fun x H'=>∃ k,x=.bl k/\Q k H':=by
 obtain ⟨θ,h,ρ,w,fr,p⟩:=h
 refine ⟨θ,h,ρ,w,fr,(aD.bind p).mono fun x θ1 h1 H1 _ _ ⟨e1,w1,p1⟩ v r1=>?_⟩
 cases x with
 | dat d=>
  cases d with
  | bool k=>exact ⟨k,r1.1,p1 θ1 H1 Ev.refl w1⟩
  | _=>exact p1.elim
 | _=>exact p1.elim
theorem dh {op:CmpOp} {f:D->D->Hm->R D} (h:kq X E (compareOp op) f) (ha:DE X E a e1) (hb:DE X E b e2) (hm:behindInMarks op e2=false):DT X E (aQ (ao f a b)) (.Compare e1 [op] [e2] pos):=by
 simp only [bu,iH] at *
 exact PT.imp (By h ha hb hm) fun _ _ _ q=>rP (wV q)
@[irreducible] def DW (X:Cx) (E:XK) (t:MT) (e:Expr):Prop:=PW X e (lT X.G E t)
theorem tM (X:Cx) (E:XK) (t:MT) (e:Expr):DW X E t e=(PW X e (lT X.G E t)):=by
 unfold DW
 rfl
theorem DW.dt (h:DW X E t e):DT X E t e:=by
 simp only [iH,tM] at *
 exact PW.pt h
theorem PW.imp {X:Cx} {e:Expr} {t t':TT} (h:PW X e t) (k:∀ σ H Q,t' σ H Q->t σ H Q):PW X e t':=fun wh pins s σ H Q I q=>h wh pins s σ H Q I (k _ _ _ q)
theorem wW (ha:DT X E t e):DW X E t (.BoolOp .And [e] pos):=by
 simp only [iH,tM] at *
 exact Bn ha
theorem mf (ha:DT X E t e):DW X E t (.BoolOp .Or [e] pos):=by
 simp only [iH,tM] at *
 exact D4 ha
theorem zF (ha:DT X E t e1) (hb:DW X E u (.BoolOp .And (e2::es) pos)):DW X E (nJ t u) (.BoolOp .And (e1::e2::es) pos):=by
 simp only [iH,tM] at *
 exact PW.imp (D5 ha hb) fun σ H Q ⟨θ,h,ρ,w,fr,p⟩=>⟨θ,h,ρ,w,fr,(aD.bind p).mono fun c θ1 h1 H1 _ _ ⟨ev,w1,p1⟩=>by
   cases c with
   | true=>exact ⟨θ1,h1,ρ,w1,fr.ev ev,p1⟩
   | false=>exact p1 θ1 H1 Ev.refl w1⟩
theorem qI (ha:DT X E t e1) (hb:DW X E u (.BoolOp .Or (e2::es) pos)):DW X E (Ba t u) (.BoolOp .Or (e1::e2::es) pos):=by
 simp only [iH,tM] at *
 exact PW.imp (F6 ha hb) fun σ H Q ⟨θ,h,ρ,w,fr,p⟩=>⟨θ,h,ρ,w,fr,(aD.bind p).mono fun c θ1 h1 H1 _ _ ⟨ev,w1,p1⟩=>by
   cases c with
   | true=>exact p1 θ1 H1 Ev.refl w1
   | false=>exact ⟨θ1,h1,ρ,w1,fr.ev ev,p1⟩⟩
theorem gG (ha:DT X E t e):DT X E (iR t) (.UnaryOp .Not e pos):=by
 simp only [iH] at *
 exact PT.imp (D6 ha) fun σ H Q ⟨θ,h,ρ,w,fr,p⟩=>⟨θ,h,ρ,w,fr,(aD.bind p).mono fun c θ1 h1 H1 _ _ ⟨ev,w1,p1⟩=>p1 θ1 H1 Ev.refl w1⟩
theorem j0 {op} (h:DE X E m e):DE X E m (.BoolOp op [e] pos):=by
 simp only [bu] at *
 exact D7 h
theorem Dy (hc:DT X E t e1) (ha:DE X E a e2) (hb:DE X E b e3):DE X E (FX t a b) (.IfExp e1 e2 e3 pos):=by
 simp only [bu,iH] at *
 exact PE.imp (yK hc ha hb) fun σ H Q ⟨θ,h,ρ,w,fr,p⟩=>⟨θ,h,ρ,w,fr,(aD.bind p).mono fun c θ1 h1 H1 _ _ ⟨ev,w1,p1⟩=>by
   cases c with
   | true=>exact ⟨θ1,h1,ρ,w1,fr.ev ev,p1⟩
   | false=>exact ⟨θ1,h1,ρ,w1,fr.ev ev,p1⟩⟩
theorem aj:DA X E ai []:=by
 simp only [gv] at *
 exact PA.imp rA fun σ H Q ⟨θ,h,ρ,w,fr,p⟩=>p θ H Ev.refl w _ .nil
theorem ae (ha:DE X E m e) (hr:DA X E ma es) (hs:starEach (e::es) X.env=(false,eval e X.env)::starEach es X.env:=by rfl):DA X E (aa m ma) (e::es):=by
 simp only [bu,gv] at *
 exact PA.imp (kB ha hr hs) fun σ H Q ⟨θ,h,ρ,w,fr,p⟩=>⟨θ,h,ρ,w,fr,(aD.bind p).mono fun x θ1 h1 H1 _ _ ⟨ev,w1,p1⟩ v r1=>
   ⟨θ1,h1,ρ,w1,fr.ev ev,(aD.bind p1).mono fun xs θ2 h2 H2 _ _ ⟨ev2,w2,p2⟩ vs r2=>p2 θ2 H2 Ev.refl w2 _ (.cons (r1.ev ev2) r2)⟩⟩
theorem kZ {G:Gx} {θ:List Addr} {H:Hp}:∀ {xs:List D} {vs:List V} {ds:List PyData},aJ G θ H xs vs->fU xs=some ds->aW (view θ H) ds vs/\bW ds=true
 | [],_,ds,.nil,e=>by cases e;exact ⟨rfl,by simp [bW]⟩
 | x::xs,_,ds,.cons r rs,e=>by
  unfold fU at e
  cases x with
  | dat d=>
   cases e2:fU xs with
   | none=>simp [D.data,e2] at e
   | some ds'=>
    simp [D.data,e2] at e
    subst e
    obtain ⟨h1,h2⟩:=kZ rs e2
    exact ⟨.cons r.1 h1,by simp [bW,r.2,h2]⟩
  | _=>simp [D.data] at e
theorem rQ {G:Gx} {θ:List Addr} {H:Hp}:∀ {ds:List PyData} {vs:List V},aW (view θ H) ds vs->bW ds=true->aJ G θ H (ds.map D.dat) vs
 | [],_,h,_=>by cases h;exact .nil
 | d::ds,_,⟨v,vs,e,r,rs⟩,s=>by
  subst e
  simp only [bW,Bool.and_eq_true] at s
  exact .cons ⟨r,s.1⟩ (rQ rs s.2)
theorem cP {n:Nat} (h:gE n=true):n<=sizeLine:=by
 have:=of_decide_eq_true h
 rw [PySem.sizeLine_eq]
 exact this
theorem mi:∀ {xs:List D} {ds:List PyData},fU xs=some ds->ds.length=xs.length
 | [],ds,e=>by cases e;rfl
 | x::xs,ds,e=>by
  unfold fU at e
  cases e1:x.data with
  | none=>rw [e1] at e;cases e
  | some d=>
   cases e2:fU xs with
   | none=>rw [e1,e2] at e;cases e
   | some ds'=>rw [e1,e2] at e;cases e;simp [mi e2]
theorem rR {x1} (h:DA X E ma es):DE X E (jY ma) (.Tuple es x1 pos):=by
 simp only [bu,gv] at *
 exact PE.imp (yX h) fun σ H Q ⟨θ,h,ρ,w,fr,p⟩=>⟨θ,h,ρ,w,fr,(aD.bind p).mono fun xs θ1 h1 H1 _ _ ⟨ev,w1,p1⟩ vs r1=>by
   unfold jN at p1
   cases e:fU xs with
   | none=>rw [e] at p1;exact p1.elim
   | some ds=>
    rw [e] at p1
    simp only at p1
    split at p1
    ·rename_i hz
     have hl:vs.length=xs.length:=(Paired.length r1).symm
     refine ⟨by rw [hl,<- mi e];exact cP hz,fun q hq=>?_⟩
     obtain ⟨e1,w2,g⟩:=w1.put (o:=.tup vs) hq
     obtain ⟨h1,h2⟩:=kZ r1 e
     exact p1 _ _ e1 w2 _ ⟨⟨q,vs,rfl,g,h1.same e1.same⟩,by simp [cI,h2]⟩
    ·exact p1.elim⟩
theorem zG (h:DA X E ma es):DE X E (pZ ma) (.List es pos):=by
 simp only [bu,gv] at *
 exact PE.imp (u9 h) fun σ H Q ⟨θ,h,ρ,w,fr,p⟩=>⟨θ,h,ρ,w,fr,(aD.bind p).mono fun xs θ1 h1 H1 _ _ ⟨ev,w1,p1⟩ vs r1=>by
   unfold gq at p1
   cases e:fU xs with
   | none=>rw [e] at p1;exact p1.elim
   | some ds=>
    rw [e] at p1
    simp only at p1
    split at p1
    ·rename_i hz
     have hl:vs.length=xs.length:=(Paired.length r1).symm
     refine ⟨by rw [hl,<- mi e];exact cP hz,fun q hq=>?_⟩
     obtain ⟨e1,w2,g⟩:=w1.put (o:=.lst vs) hq
     obtain ⟨h1,h2⟩:=kZ r1 e
     exact p1 _ _ e1 w2 _ ⟨⟨q,vs,rfl,g,h1.same e1.same⟩,by simp [cI,h2]⟩
    ·exact p1.elim⟩
theorem W.zH {G:Gx} {θ:List Addr} {h:Hm} {H:Hp} {xs:List D} {vs:List V} (w:W G θ h H) (r:aJ G θ H xs vs) {p:Addr} (hp:H p=none) :
  Ev θ H (θ++[p]) (upd H p (.lst vs))/\W G (θ++[p]) (h++[.lst xs]) (upd H p (.lst vs))/\cj G (θ++[p]) (upd H p (.lst vs)) (.ref h.length) (.ref p):=by
 have e:Ev θ H (θ++[p]) (upd H p (.lst vs)):=⟨⟨[p],rfl⟩,fun a u q=>by
  obtain ⟨h1,h2⟩:=cS q
  have ne:=aG h2 hp
  rw [dj (by simp;exact ⟨h1,ne⟩),aC ne]
  exact h2⟩
 obtain ⟨e1,w1⟩:=w.alloc (o:=.lst vs) (m:=.lst xs) hp ⟨vs,bo,r.ev e⟩
 exact ⟨e1,w1,p,by rw [<- w.len];simp,rfl⟩
theorem zI (h:DA X E ma es):DE X E (BY ma) (.List es pos):=by
 simp only [bu,gv] at *
 exact PE.imp (u9 h) fun σ H Q ⟨θ,h,ρ,w,fr,p⟩=>⟨θ,h,ρ,w,fr,(aD.bind p).mono fun xs θ1 h1 H1 _ _ ⟨ev,w1,p1⟩ vs r1=>by
   unfold jO at p1
   split at p1
   ·rename_i hz
    have hl:vs.length=xs.length:=(Paired.length r1).symm
    refine ⟨by rw [hl];exact cP hz,fun q hq=>?_⟩
    obtain ⟨e1,w2,g⟩:=w1.zH r1 hq
    exact p1 _ _ e1 w2 _ g
   ·exact p1.elim⟩
theorem zJ {id:String} {f:Fn} (hc:ku X E (.builtin id) f) (hg:Gl X x) (hm:X.mg x=none) (hv:bootBuiltins x=some (.builtin id)) {p:Pos} (ha:DA X E ma (e::es)) (hn:x ≠ "__name__" := by decide) (hdb:(x == ("__debug__" : Str))=false:=by decide)
  (he:starEach (e::es) X.env=(false,eval e X.env)::starEach es X.env:=by rfl) (hpl:(backTo pos (starEach es X.env)).any (·.1)=false:=by rfl):DE X E (af f ma) (.Call (.Name x p) (e::es) [] pos):=by
 simp only [bu,gv] at *
 exact PE.imp (sX hc hg hm hv ha hn hdb he hpl) fun _ _ _=>wU
theorem yc {T:String} {f:Fn} (hc:ku X E (.type T) f) (hg:Gl X x) (hm:X.mg x=none) (hv:bootBuiltins x=some (.type T)) {p:Pos} (ha:DA X E ma (e::es)) (hn:x ≠ "__name__" := by decide) (hdb:(x == ("__debug__" : Str))=false:=by decide)
  (he:starEach (e::es) X.env=(false,eval e X.env)::starEach es X.env:=by rfl) (hpl:(backTo pos (starEach es X.env)).any (·.1)=false:=by rfl):DE X E (af f ma) (.Call (.Name x p) (e::es) [] pos):=by
 simp only [bu,gv] at *
 exact PE.imp (xW hc hg hm hv ha hn hdb he hpl) fun _ _ _=>wU
end
end Ml
namespace Ml
open PySem PySem.Spec L2
section
variable {X:Cx} {E:XK} {m:ME} {a b:MS} {t:MT} {e e1:Expr} {st:Stmt} {sts:List Stmt} {ss ss':List Stmt} {ma:MA} {pos:Pos} {i:Nat} {x:Str} {g:MG}
theorem cE:zD X E cB []:=by
 simp only [me] at *
 exact uW.imp Bo fun C σ H ⟨θ,h,ρ,w,fr,p⟩=>p θ H Ev.refl w σ fr
theorem aB (h:DS X E a st):zD X E a [st]:=by
 simp only [gR,me] at *
 exact Bp h
theorem au (h1:DS X E a st) (h2:zD X E b ss):zD X E (aU a b) (st::ss):=by
 simp only [gR,me] at *
 exact uW.imp (yM h1 h2) fun C σ H ⟨θ,h,ρ,w,fr,p⟩=>⟨θ,h,ρ,w,fr,(aD.bind p).mono fun f θ1 h1 H1 _ _ ⟨ev,w1,p1⟩=>by
   cases f with
   | nx ρ1=>exact fun σ1 fr1=>⟨θ1,h1,ρ1,w1,fr1,p1⟩
   | rt d=>exact p1 θ1 H1 Ev.refl w1
   | bk ρ1=>exact p1 θ1 H1 Ev.refl w1
   | ct ρ1=>exact p1 θ1 H1 Ev.refl w1⟩
theorem rS (he:DE X E m e) (hs:swapsWith e none pos.line X.env=pure false:=by rfl):DS X E (qC m) (.Expr e pos):=by
 simp only [bu,gR] at *
 exact PS.imp (Bq he hs) fun C σ H ⟨θ,h,ρ,w,fr,p⟩=>⟨θ,h,ρ,w,fr,(aD.bind p).mono fun d θ1 h1 H1 _ _ ⟨ev,w1,p1⟩ v _=>p1 θ1 H1 Ev.refl w1 σ (fr.ev ev)⟩
theorem aS (he:DE X E m e):DS X E (bR m) (.Return (some e) pos):=by
 simp only [bu,gR] at *
 exact PS.imp (D8 he) fun C σ H ⟨θ,h,ρ,w,fr,p⟩=>⟨θ,h,ρ,w,fr,(aD.bind p).mono fun d θ1 h1 H1 _ _ ⟨ev,w1,p1⟩ v r=>p1 θ1 H1 Ev.refl w1 v r⟩
theorem fw (hc:DT X E t e) (ha:zD X E a ss) (hb:zD X E b ss'):DS X E (ko t a b) (.If e ss ss' pos):=by
 simp only [iH,gR,me] at *
 exact PS.imp (F9 hc ha hb) fun C σ H ⟨θ,h,ρ,w,fr,p⟩=>⟨θ,h,ρ,w,fr,(aD.bind p).mono fun c θ1 h1 H1 _ _ ⟨ev,w1,p1⟩=>by
   cases c with
   | true=>exact ⟨θ1,h1,ρ,w1,fr.ev ev,p1⟩
   | false=>exact ⟨θ1,h1,ρ,w1,fr.ev ev,p1⟩⟩
theorem B2 (hN:X.N.Nodup) (hi:X.N[i]?=some x) (hx:Loc X.env.scope x) (hf:X.fn x=true\/X.env.scope.names.lookup x=some .local:=by first | exact .inl rfl | exact .inr rfl | assumption):DG X E (ah i) (.Name x pos):=by
 simp only [i7] at *
 exact fun pins s σ H v u Q I r ⟨θ,h,ρ,d,w,fr,rd,p⟩=>Br hN hi hx hf pins s σ H v u Q I r (p θ H Ev.refl w _ (fr.set rd))
def JL (G:Gx) (E:XK) (g:wH):Dg:=fun vs σ H Q=>∃ θ h ρ ds,W G θ h H/\Fr G θ H ρ σ/\aJ G θ H ds vs/\aD G (md G E) θ H (g ds ρ h) (fun ρ' θ' _ H'=>∀ σ',Fr G θ' H' ρ' σ'->Q σ' H')
@[irreducible] def FY (X:Cx) (E:XK) (m:wH) (es:List Expr):Prop:=FU X es (JL X.G E m)
theorem vw (X:Cx) (E:XK) (m:wH) (es:List Expr):FY X E m es=(FU X es (JL X.G E m)):=by
 unfold FY
 rfl
theorem hZ:FY X E jD []:=by
 simp only [vw] at *
 exact fun pins s σ H vs us Q I r ⟨θ,h,ρ,ds,w,fr,rd,p⟩=>by
  cases rd with
  | nil=>exact Bt pins s σ H [] us Q I r ⟨rfl,p θ H Ev.refl w σ fr⟩
  | cons=>exact p.elim
theorem cF {gs:wH} {es:List Expr} (h1:DG X E g e) (h2:FY X E gs es) (hs:(assignEach (e::es) X.env).map (·.2)=assign e X.env::(assignEach es X.env).map (·.2):=by rfl):FY X E (cM g gs) (e::es):=by
 simp only [i7,vw] at *
 exact fun pins s σ H vs us Q I r ⟨θ,h,ρ,ds,w,fr,rd,p⟩=>by
   cases rd with
   | nil=>exact p.elim
   | cons r1 rr=>exact yN h1 h2 hs pins s σ H _ us Q I r ⟨_,_,rfl,θ,h,ρ,_,w,fr,r1,(aD.bind p).mono fun ρ1 θ1 h1 H1 _ _ ⟨ev,w1,p1⟩ σ1 fr1=>⟨θ1,h1,ρ1,_,w1,fr1,aJ.ev ev rr,p1⟩⟩
theorem eP {G:Gx} {θ:List Addr} {H:Hp} {ds:List PyData} {v:V} (r:cj G θ H (.dat (.tuple ds)) v):∃ a xs,v=.ref a/\view θ H a=some (.tup xs)/\aW (view θ H) ds xs/\aJ G θ H (ds.map D.dat) xs:=by
 obtain ⟨⟨a,xs,e,ha,rr⟩,s⟩:=r
 exact ⟨a,xs,e,ha,rr,rQ rr (by simpa [cI] using s)⟩
theorem fq {G:Gx} {θ:List Addr} {H:Hp} {ds:List PyData} {v:V} (r:cj G θ H (.dat (.list ds)) v):∃ a xs,v=.ref a/\view θ H a=some (.lst xs)/\aW (view θ H) ds xs/\aJ G θ H (ds.map D.dat) xs:=by
 obtain ⟨⟨a,xs,e,ha,rr⟩,s⟩:=r
 exact ⟨a,xs,e,ha,rr,rQ rr (by simpa [cI] using s)⟩
@[irreducible] def qJ (gs:wH) (n:Nat):Prop:=∀ xs ρ h,xs.length≠n->gs xs ρ h=.bad
theorem oA (gs:wH) (n:Nat):qJ gs n=(∀ xs ρ h,xs.length≠n->gs xs ρ h=.bad):=by
 unfold qJ
 rfl
theorem fi:qJ jD 0:=by
 simp only [oA] at *
 exact fun xs ρ h ne=>by
  cases xs with
  | nil=>exact absurd rfl ne
  | cons=>rfl
theorem bM {g:Nat} {gs:wH} {n:Nat} (t:qJ gs n):qJ (cM (ah g) gs) (n+1):=by
 simp only [oA] at *
 exact fun xs ρ h ne=>by
  cases xs with
  | nil=>rfl
  | cons x xs=>simp only [cM,ah,R.aA];exact t xs _ h (by simpa using ne)
theorem j3 {es:List Expr} {k n:Nat} {gs:wH} (hc:X.calm=true) (h:FY X E gs es) (tk:qJ gs n) (hn:(assignEach es X.env).length=n:=by rfl) (hst:(assignEach es X.env).findIdx? (·.1)=none:=by rfl):DG X E (jE gs) (.Tuple es k pos):=by
 simp only [i7,vw,oA] at *
 exact fun pins s σ H v u Q I r ⟨θ,hm,ρ,d,w,fr,rd,p⟩=>by
   cases d with
   | dat d=>
    cases d with
    | tuple ds=>
     obtain ⟨a,xs,e,ha,rr,rr2⟩:=eP rd
     have hl:xs.length=n:=by
      have h1:xs.length=ds.length:=rr.length
      by_cases z:ds.length=n
      ·rw [h1,z]
      ·have p':=p
       simp only [jE] at p'
       rw [tk (ds.map D.dat) ρ hm (by simpa using z)] at p'
       exact p'.elim
     exact Eb (n:=n) hc h hn hst pins s σ H v u Q I r ⟨a,xs,e,eZ.of (ay _ _ _ _ ha),hl,θ,hm,ρ,_,w,fr,rr2,p⟩
    | _=>exact p.elim
   | _=>exact p.elim
theorem EZ (hN:X.N.Nodup) (hi:X.N[i]?=some x) (hx:Loc X.env.scope x) (he:DE X E m e) {pos':Pos} (hs:swapsWith e (some (.Name x pos')) pos.line X.env=pure false:=by rfl) (hf:X.fn x=true\/X.env.scope.names.lookup x=some .local:=by first | exact .inl rfl | exact .inr rfl | assumption) :
  DS X E (bK i m) (.Assign [.Name x pos'] e pos):=by
 simp only [bu,gR] at *
 exact PS.imp (Ee hN hi hx he hs hf) fun C σ H ⟨θ,h,ρ,w,fr,p⟩=>⟨θ,h,ρ,w,fr,(aD.bind p).mono fun d θ1 h1 H1 _ _ ⟨ev,w1,p1⟩ v r=>p1 θ1 H1 Ev.refl w1 _ ((fr.ev ev).set r)⟩
theorem mj {tg:Expr} (he:DE X E m e) (hg:DG X E g tg) (hs:swapsWithSole [tg] e pos.line X.env=pure false:=by rfl) (hw:swappedStores [tg] e X.env=pure none:=by rfl)
  (h1:(assignEach [tg] X.env).map (·.2)=[assign tg X.env]:=by rfl):DS X E (nW g m) (.Assign [tg] e pos):=by
 simp only [bu,gR,i7] at *
 exact PS.imp (Ed he hg hs hw h1) fun C σ H ⟨θ,h,ρ,w,fr,p⟩=>⟨θ,h,ρ,w,fr,(aD.bind p).mono fun d θ1 h1 H1 _ _ ⟨ev,w1,p1⟩ v r=>
   ⟨θ1,h1,ρ,d,w1,fr.ev ev,r,(aD.bind p1).mono fun ρ1 θ2 h2 H2 _ _ ⟨ev2,w2,p2⟩ σ2 fr2=>p2 θ2 H2 Ev.refl w2 σ2 fr2⟩⟩
theorem B3 {j:Nat} (h:PS X st (Ga i j (lA X.G E ma))):DS X E (zo [i,j] ma) st:=by
 simp only [gR] at *
 exact PS.imp h fun C σ H ⟨θ,h,ρ,w,fr,p⟩=>⟨θ,h,ρ,w,fr,(aD.bind p).mono fun ds θ1 h1 H1 _ _ ⟨ev,w1,p1⟩ vs r=>by
   cases r with
   | nil=>exact p1.elim
   | cons r1 rr=>
    cases rr with
    | nil=>exact p1.elim
    | cons r2 rr=>
     cases rr with
     | nil=>exact ⟨_,_,rfl,p1 θ1 H1 Ev.refl w1 _ (((fr.ev ev).set r1).set r2)⟩
     | cons=>exact p1.elim⟩
def mL (G:Gx) (θ:List Addr) (H:Hp) (xs:List D) (J:It):Prop:=∀ θ' h' H',Ev θ H θ' H'->W G θ' h' H' ->
 (∀ (i:Nat) (d:D),xs[i]?=some d->J.go i H'/\∀ x H2,J.yld i H' x H2->Ev θ' H' θ' H2/\W G θ' h' H2/\cj G θ' H2 d x)/\J.stop xs.length H'
def lI (G:Gx) (E:XK) (m:MA):TI:=fun σ H R=>∃ θ h ρ,W G θ h H/\Fr G θ H ρ σ/\aD G (md G E) θ H (m ρ h) (fun xs θ' _ H'=>∀ J,mL G θ' H' xs J->R J H')
@[irreducible] def DI (X:Cx) (E:XK) (m:MA) (tg e:Expr):Prop:=PI X tg e (lI X.G E m)
theorem gS (X:Cx) (E:XK) (m:MA) (tg e:Expr):DI X E m tg e=(PI X tg e (lI X.G E m)):=by
 unfold DI
 rfl
theorem PI.imp {tg e:Expr} {t t':TI} (h:PI X tg e t) (k:∀ σ H Q,t' σ H Q->t σ H Q):PI X tg e t':=fun pins s σ H Q I q=>h pins s σ H Q I (k _ _ _ q)
theorem aJ.get {G:Gx} {θ:List Addr} {H:Hp}:∀ {ds:List D} {vs:List V} {i:Nat} {d:D} {v:V},aJ G θ H ds vs->ds[i]?=some d->vs[i]?=some v->cj G θ H d v
 | _,_,i,_,_,.nil,e,_=>by simp at e
 | _,_,0,_,_,.cons r _,e,e'=>by simp at e e';subst e;subst e';exact r
 | _,_,i+1,d,v,.cons _ t,e,e'=>aJ.get (i:=i) t (by simpa using e) (by simpa using e')
theorem aJ.some {G:Gx} {θ:List Addr} {H:Hp} {ds:List D} {vs:List V} {i:Nat} {d:D} (r:aJ G θ H ds vs) (e:ds[i]?=some d):∃ v,vs[i]?=some v/\cj G θ H d v:=by
 have hl:ds.length=vs.length:=Paired.length r
 have hi:i < vs.length:=by rw [<- hl];exact (List.getElem?_eq_some_iff.mp e).1
 exact ⟨vs[i],List.getElem?_eq_getElem hi,r.get e (List.getElem?_eq_getElem hi)⟩
theorem E0 {G:Gx} {K:PySem.W.Frag} {θ:List Addr} {H:Hp} {ds:List D} {a:Addr} {xs:List V} (ha:view θ H a=some (.tup xs)) (r:aJ G θ H ds xs):mL G θ H ds (Hg K a):=fun θ' h' H' ev w=>by
 have ha':=ay _ _ _ _ (ev.same _ _ ha)
 have q:eZ K H' a xs:=eZ.of ha'
 refine ⟨fun i d e=>?_,⟨xs,q,by rw [<- show ds.length=xs.length from Paired.length r];exact Nat.le_refl _⟩⟩
 obtain ⟨v,ev',rv⟩:=r.some e
 refine ⟨⟨xs,v,q,ev'⟩,fun x H2 ⟨e2,y⟩=>?_⟩
 subst e2
 have:=y xs q
 rw [ev'] at this
 cases this
 exact ⟨Ev.refl,w,rv.ev ev⟩
theorem E1 {G:Gx} {K:PySem.W.Frag} {θ:List Addr} {H:Hp} {ds:List D} {a:Addr} {xs:List V} (ha:view θ H a=some (.lst xs)) (r:aJ G θ H ds xs):mL G θ H ds (H0 K a):=fun θ' h' H' ev w=>by
 have ha':=ay _ _ _ _ (ev.same _ _ ha)
 have q:gD K H' a xs:=gD.of ha'
 refine ⟨fun i d e=>?_,⟨xs,q,by rw [<- show ds.length=xs.length from Paired.length r];exact Nat.le_refl _⟩⟩
 obtain ⟨v,ev',rv⟩:=r.some e
 refine ⟨⟨xs,v,q,ev'⟩,fun x H2 ⟨e2,y⟩=>?_⟩
 subst e2
 have:=y xs q
 rw [ev'] at this
 cases this
 exact ⟨Ev.refl,w,rv.ev ev⟩
theorem E2 {tg:Expr} (h:DE X E m e):DI X E (wI m) tg e:=by
 simp only [bu,gS] at *
 exact PI.imp (yP h) fun σ H R ⟨θ,h,ρ,w,fr,p⟩=>⟨θ,h,ρ,w,fr,(aD.bind p).mono fun d θ1 h1 H1 _ _ ⟨ev,w1,p1⟩ v r=>by
   cases d with
   | dat d=>
    cases d with
    | tuple ds=>
     obtain ⟨a,xs,e,ha,_,rr⟩:=eP r
     exact ⟨a,e,⟨xs,eZ.of (ay _ _ _ _ ha)⟩,p1 θ1 H1 Ev.refl w1 _ (E0 ha rr)⟩
    | _=>exact p1.elim
   | _=>exact p1.elim⟩
theorem E3 {tg:Expr} (h:DE X E m e):DI X E (zp m) tg e:=by
 simp only [bu,gS] at *
 exact PI.imp (Bu h) fun σ H R ⟨θ,h,ρ,w,fr,p⟩=>⟨θ,h,ρ,w,fr,(aD.bind p).mono fun d θ1 h1 H1 _ _ ⟨ev,w1,p1⟩ v r=>by
   cases d with
   | dat d=>
    cases d with
    | list ds=>
     obtain ⟨a,xs,e,ha,_,rr⟩:=fq r
     exact ⟨a,e,⟨xs,gD.of (ay _ _ _ _ ha)⟩,p1 θ1 H1 Ev.refl w1 _ (E1 ha rr)⟩
    | _=>exact p1.elim
   | _=>exact p1.elim⟩
theorem wX {x:Str} {i:Nat} (s:PyData.strOk x=true):PyData.strOk ⟨#[x.cps.getD i 0]⟩=true:=by
 have q:=Array.all_eq_true.mp s
 simp only [PyData.strOk]
 apply Array.all_eq_true.mpr
 intro j hj
 simp only [List.size_toArray,List.length_cons,List.length_nil] at hj
 have:j=0:=by omega
 subst this
 simp only [List.getElem_toArray,List.getElem_cons_zero]
 by_cases hi:i < x.cps.size
 ·have:=q i hi
  simpa [Array.getD,hi] using this
 ·simp [Array.getD,hi]
theorem E4 {tg:Expr} (h:DE X E m e):DI X E (zq m) tg e:=by
 simp only [bu,gS] at *
 exact PI.imp (EG h) fun σ H R ⟨θ,h,ρ,w,fr,p⟩=>⟨θ,h,ρ,w,fr,(aD.bind p).mono fun d θ1 h1 H1 _ _ ⟨ev,w1,p1⟩ v r=>by
   cases d with
   | dat d=>
    cases d with
    | str s=>
     obtain ⟨r1,r2⟩:=r
     refine ⟨s,r1,p1 θ1 H1 Ev.refl w1 _ fun θ' h' H' ev w=>⟨fun i d e=>?_,by show (signs s).length=_;simp [signs]⟩⟩
     simp only [signs,List.getElem?_map,Option.map_eq_some_iff] at e
     obtain ⟨j,e1,e2⟩:=e
     obtain ⟨hj,e3⟩:=List.getElem?_eq_some_iff.mp e1
     simp at hj e3
     subst e3
     subst e2
     refine ⟨hj,fun x H2 ⟨z1,z2⟩=>?_⟩
     subst z1
     subst z2
     exact ⟨Ev.refl,w,rfl,by simp only [cI];exact wX (by simpa [cI] using r2)⟩
    | _=>exact p1.elim
   | _=>exact p1.elim⟩
theorem B4 {G:Gx} {θ:List Addr} {H:Hp} {lo:Int} {n:Nat}:mL G θ H (nums lo n) (Hh lo n):=fun θ' h' H' ev w=>by
 refine ⟨fun i d e=>?_,by show n<=(nums lo n).length;simp [nums]⟩
 simp only [nums,List.getElem?_map,Option.map_eq_some_iff] at e
 obtain ⟨j,e1,e2⟩:=e
 obtain ⟨hj,e3⟩:=List.getElem?_eq_some_iff.mp e1
 simp at hj e3
 subst e3
 subst e2
 refine ⟨hj,fun x H2 ⟨z1,z2⟩=>?_⟩
 subst z1
 subst z2
 exact ⟨Ev.refl,w,rfl,by simp [cI]⟩
theorem bD {G:Gx} {θ:List Addr} {H:Hp} {j:Int} {v:V} (r:cj G θ H (.int j) v):v=.int j:=r.1
theorem ia {tg a:Expr} {p' pos':Pos} (hg:Gl X "range") (hm:X.mg "range" = none) (ha:DA X E ma [a]) (hs:starEach [a] X.env=[(false,eval a X.env)]:=by rfl):DI X E (eM ma) tg (.Call (.Name "range" p') [a] [] pos'):=by
 simp only [gv,gS] at *
 exact PI.imp (xO hg hm ha hs) fun σ H R ⟨θ,h,ρ,w,fr,p⟩=>⟨θ,h,ρ,w,fr,(aD.bind p).mono fun ds θ1 h1 H1 _ _ ⟨ev,w1,p1⟩ vs r=>by
   split at p1
   ·split at p1
    ·rename_i j _ hj
     cases r with
     | cons r1 rr=>
      cases rr
      cases bD r1
      exact ⟨j,rfl,hj.1,hj.2,p1 θ1 H1 Ev.refl w1 _ B4⟩
    ·exact p1.elim
   ·exact p1.elim⟩
theorem tN:∀ (xs ys:List PyData),(jI xs ys).length=min xs.length ys.length
 | [],_=>by simp [jI]
 | _::_,[]=>by simp [jI]
 | x::xs,y::ys=>by simp [jI,tN xs ys]
theorem tO:∀ (xs ys:List PyData) (i:Nat) (d:D),(jI xs ys)[i]?=some d->∃ x y,xs[i]?=some x/\ys[i]?=some y/\d=.dat (.tuple [x,y])
 | [],_,i,d,e=>by simp [jI] at e
 | _::_,[],i,d,e=>by simp [jI] at e
 | x::xs,y::ys,0,d,e=>by simp [jI] at e;exact ⟨x,y,rfl,rfl,e.symm⟩
 | x::xs,y::ys,i+1,d,e=>by simpa using tO xs ys i d (by simpa [jI] using e)
theorem lb:∀ {ds:List PyData} {i:Nat} {d:PyData},bW ds=true->ds[i]?=some d->cI d=true
 | [],i,d,_,e=>by simp at e
 | x::xs,0,d,s,e=>by simp [bW] at s e;subst e;exact s.1
 | x::xs,i+1,d,s,e=>by simp [bW] at s;exact lb (i:=i) s.2 (by simpa using e)
theorem E5 {kk:Nat} {es:List Expr} {tpos:Pos} {e1 e2:Expr} {p' pos':Pos} (hg:Gl X "zip") (hm:X.mg "zip" = none) (ha:DA X E ma [e1,e2]) (hs:starEach [e1,e2] X.env=[(false,eval e1 X.env),(false,eval e2 X.env)]:=by rfl) (hs2:starEach [e2] X.env=[(false,eval e2 X.env)]:=by rfl) :
  DI X E (wJ ma) (.Tuple es kk tpos) (.Call (.Name "zip" p') [e1,e2] [] pos'):=by
 simp only [gv,gS] at *
 exact PI.imp (ED hg hm ha hs hs2) fun σ H R ⟨θ,h,ρ,w,fr,p⟩=>⟨θ,h,ρ,w,fr,(aD.bind p).mono fun ds θ1 h1 H1 _ _ ⟨ev,w1,p1⟩ vs r=>by
   split at p1
   ·rename_i xs ys _
    cases r with
    | cons r1 rr=>
     cases rr with
     | cons r2 rr=>
      cases rr
      have s1:bW xs=true:=by simpa [cI] using r1.2
      have s2:bW ys=true:=by simpa [cI] using r2.2
      obtain ⟨a1,us,rfl,ha1,q1,_⟩:=eP r1
      obtain ⟨a2,ws,rfl,ha2,q2,_⟩:=eP r2
      refine ⟨a1,a2,us,ws,rfl,eZ.of (ay _ _ _ _ ha1),eZ.of (ay _ _ _ _ ha2),p1 θ1 H1 Ev.refl w1 _ fun θ' h' H' ev' w'=>?_⟩
      have k1:eZ X.K H' a1 us:=eZ.of (ay _ _ _ _ (ev'.same _ _ ha1))
      have k2:eZ X.K H' a2 ws:=eZ.of (ay _ _ _ _ (ev'.same _ _ ha2))
      have l1:=q1.length
      have l2:=q2.length
      refine ⟨fun i d e=>?_,⟨us,ws,k1,k2,by rw [tN,l1,l2];omega⟩⟩
      obtain ⟨x,y,ex,ey,rfl⟩:=tO _ _ _ _ e
      obtain ⟨u,eu,ru⟩:=aW.get' q1 ex
      obtain ⟨z,ez,rz⟩:=aW.get' q2 ey
      refine ⟨⟨us,ws,u,z,k1,k2,eu,ez⟩,fun v H2 ⟨pp,x',y',e1,hp,e2,c1,c2⟩=>?_⟩
      have:=c1 us k1
      rw [eu] at this
      cases this
      have:=c2 ws k2
      rw [ez] at this
      cases this
      subst e1
      subst e2
      obtain ⟨e3,w3,g3⟩:=w'.put (o:=.tup [u,z]) hp
      exact ⟨e3,w3,⟨pp,[u,z],rfl,g3,.cons (ru.same (ev'.same.trans e3.same)) (.one (rz.same (ev'.same.trans e3.same)))⟩,by simp [cI,bW,lb s1 ex,lb s2 ey]⟩
   ·exact p1.elim⟩
abbrev dC:XK:=fun _ _ _=>False
theorem aD.dQ {α β:Type} {G:Gx} {F:XP} {θ:List Addr} {H:Hp} {r:R α} {f:α->Hm->R β} {L:β->List Addr->Hm->Hp->Prop} (p:aD G F θ H (r.tG.bind f) L) {F':XP} :
  aD G F' θ H r fun a θ1 h1 H1=>Ev θ H θ1 H1/\W G θ1 h1 H1/\aD G F θ1 H1 (f a h1) L:=by
 cases r with
 | ok a h'=>exact fun θ1 H1 e w=>⟨e,w,aD.later p e⟩
 | exc x h'=>exact p.elim
 | bad=>exact p.elim
theorem PS.FT {X:Cx} {st:Stmt} {t:TS} (h:PS X.FT st t):PS X st t:=fun pins s σ H D I hw=>
 wpAny_mono (h pins s σ H D (I.pO _) hw) (fun _ _ q=>q.iS) fun _ _ z=>False.elim z
end
end Ml
namespace L2
open PySem PySem.Spec PyProof.Rows
theorem Dn.Kl {P:Program} {w:World} {K:PySem.W.Frag} {mg:Str->Option Value} {base:Heap} {x qual:Str} {st:Stmt} {f:Addr} {fd:FuncData} {N ps:List Str} {k:Nat} {sp:Sp} (F:Dn K x qual st f fd) (S:aV N ps (aF st)) (len:∀ vs H Q E,sp vs H Q E->vs.length=ps.length)
  (hbody:∀ (cdv:Value) (A:Around) (outer:List Env) (s:Shared) (H:Hp) (vs:List V) (Q:VK) (E:XK),df k (A.deeper (envOfC qual (aF st) s.heap.objs.size f cdv))->sp vs H Q E ->
   ∃ t,uW (pQ (sQ P w) P w K mg base N qual (aF st) f cdv A outer s H E) (eJ st) t/\t {nx:=fun _ H'=>Q .non H',rt:=Q} (start N vs) H):jF P w K mg base (sQ P w) (k+1) f fd ps sp:=by
 obtain ⟨oc,od,kV,doc,pm,an,cdv,ct,osl,rfl,lk,hcd⟩:=F.ex
 exact Gq lk hcd S len fun A outer s H vs Q E hr hsp=>hbody cdv A outer s H vs Q E hr hsp
structure zK (P:Program) (w:World) (K:PySem.W.Frag) (mg:Str->Option Value) (base:Heap) (x:Str) (ps:List Str) (k:Nat) (sp:Sp):Prop where
 ex:∃ (f:Addr) (fd:FuncData),mg x=some (.ref f)/\PySem.W.keepIn K (.ref f)=true/\Binds K fd ps []/\jF P w K mg base (sQ P w) k f fd ps sp
section
variable {X:Cx} {x:Str} {ps:List Str} {k:Nat} {sp:Sp} {e:Expr} {es:List Expr} {t:TA} {p pos:Pos}
theorem E6 {E:XK} (F:zK X.prog X.w X.K X.mg X.base x ps k sp) (hx:Passes (sQ X.prog X.w) X E) (hr:df k X.A) (hg:Gl X x) (ha:PA X (e::es) t) (hdb:(x == ("__debug__" : Str))=false:=by decide) (he:starEach (e::es) X.env=(false,eval e X.env)::starEach es X.env:=by rfl)
  (hpl:(backTo pos (starEach es X.env)).any (·.1)=false:=by rfl):PE X (.Call (.Name x p) (e::es) [] pos) (Dk sp [] E t):=by
 obtain ⟨f,fd,h1,h2,h3,h4⟩:=F.ex
 exact BB h4 hr hg h1 h2 h3 .nil hx ha hdb he hpl
end
end L2
namespace Ml
open PySem PySem.Spec L2
section
variable {X:Cx} {E:XK} {m:ME} {a b:MS} {t:MT} {e e1 tg:Expr} {st:Stmt} {ss ss':List Stmt} {ma it:MA} {pos:Pos} {i:Nat} {x:Str} {g:MG}
theorem zL {G:Gx} {F:XP} {θ1:List Addr} {H1:Hp} {h1:Hm} {xs:List D} {J:It} {C:Ends} {σ:St} {ρ:Fm} (hJ:mL G θ1 H1 xs J) (w1:W G θ1 h1 H1) (fr:Fr G θ1 H1 ρ σ) (p1:aD G F θ1 H1 (eB g b xs ρ h1) (KS G C)) :
  ∃ W':Nat->Nat->St->Hp->Prop,(∃ m,W' 0 m σ H1)/\∀ i m σ H,W' i m σ H ->
   (J.stop i H/\C.nx σ H)\/(J.go i H/\∃ N:St->Hp->Prop,(∀ σ' H',N σ' H'->∃ m',m' < m/\W' (i+1) m' σ' H')/\∀ x H',J.yld i H x H'->lG G dC g x σ H' fun σ2 H2=>lS G dC b {C with nx:=N,ct:=N,bk:=C.nx} σ2 H2):=by
 refine ⟨fun i m σ H=>m=xs.length - i/\i<=xs.length/\∃ θ' h' ρ',Ev θ1 H1 θ' H/\W G θ' h' H/\Fr G θ' H ρ' σ/\aD G F θ' H (eB g b (xs.drop i) ρ' h') (KS G C),⟨xs.length,by simp,Nat.zero_le _,θ1,h1,ρ,Ev.refl,w1,fr,p1⟩,?_⟩
 rintro i m σ H ⟨rfl,hi,θ',h',ρ',ev,w,fr',p⟩
 obtain ⟨j1,j2⟩:=hJ θ' h' H ev w
 by_cases hlt:i < xs.length
 ·have ed:xs.drop i=xs[i]::xs.drop (i+1):=List.drop_eq_getElem_cons hlt
  rw [ed] at p
  obtain ⟨g1,g2⟩:=j1 i xs[i] (List.getElem?_eq_getElem hlt)
  refine .inr ⟨g1,fun σ2 H2=>i+1<=xs.length/\∃ θ' h' ρ',Ev θ1 H1 θ' H2/\W G θ' h' H2/\Fr G θ' H2 ρ' σ2/\aD G F θ' H2 (eB g b (xs.drop (i+1)) ρ' h') (KS G C),fun σ' H' q=>⟨xs.length - (i+1),by omega,rfl,q⟩,fun x H2 y=>?_⟩
  obtain ⟨e2,w2,r2⟩:=g2 x H2 y
  refine ⟨θ',h',ρ',xs[i],w2,fr'.ev e2,r2,(aD.dQ (p.later e2)).mono fun ρ3 θ3 h3 H3 _ _ ⟨e3,w3,p3⟩ σ3 fr3=>⟨θ3,h3,ρ3,w3,fr3,(aD.dQ p3).mono fun f θ4 h4 H4 _ _ ⟨e4,w4,p4⟩=>?_⟩⟩
  have ev4:=(ev.trans e2).trans (e3.trans e4)
  cases f with
  | nx ρ5=>exact fun σ5 fr5=>⟨hlt,θ4,h4,ρ5,ev4,w4,fr5,p4⟩
  | ct ρ5=>exact fun σ5 fr5=>⟨hlt,θ4,h4,ρ5,ev4,w4,fr5,p4⟩
  | bk ρ5=>exact p4 θ4 H4 Ev.refl w4
  | rt d=>exact p4 θ4 H4 Ev.refl w4
 ·have hx:i=xs.length:=by omega
  subst hx
  rw [List.drop_of_length_le (Nat.le_refl _)] at p
  exact .inl ⟨j2,p θ' H Ev.refl w σ fr'⟩
theorem fZ {body:List Stmt} (hc:X.calm=true) (hi:DI X.FT dC it tg e) (hg:DG X.FT dC g tg) (hb:zD X.FT dC b body) (hs:∀ x,foldedSetIterable e X.env x=pure x:=by intro _;rfl):DS X E (gh it g b) (.For tg e body [] pos):=by
 simp only [gR,me,i7,gS] at *
 exact PS.FT (PS.imp (Eg PassesOwn.never hc hi hg hb hs) fun C σ H ⟨θ,h,ρ,w,fr,p⟩=>⟨θ,h,ρ,w,fr,(aD.dQ p).mono fun xs θ1 h1 H1 _ _ ⟨ev,w1,p1⟩ J hJ=>zL hJ w1 (fr.ev ev) p1⟩)
theorem dN {α β:Type} {G:α->β->Prop}:∀ {xs ys:List α} {us ws:List β},Paired G xs us->Paired G ys ws->Paired G (xs++ys) (us++ws)
 | _,_,_,_,.nil,s=>s
 | _,_,_,_,.cons r t,s=>.cons r (dN t s)
theorem yd {G:Gx} {F:XP} {n:Nat} {θ1:List Addr} {H1:Hp} {h1:Hm} {xs:List D} {J:It} {σ:St} {ρ:Fm} {Q:VK} {mk:List D->Hm->R D} (hJ:mL G θ1 H1 xs J) (w1:W G θ1 h1 H1) (fr:Fr G θ1 H1 ρ σ) (p1:aD G F θ1 H1 ((fg n ρ g t m xs h1).bind mk) (KV G Q))
  (hmk:∀ ys vs θ h H,ys.length<=xs.length->W G θ h H->aJ G θ H ys vs->aD G F θ H (mk ys h) (KV G Q)->∀ p,H p=none->Q (.ref p) (upd H p (.lst vs))) (hz:xs.length<=sizeLine) :
  y9 n J (lG G dC g) (lT G dC t) (lE G dC m) σ H1 Q:=by
 refine ⟨fun i m' ys H=>m'=xs.length - i/\i<=xs.length/\∃ θ' h' acc,acc.length<=i/\Ev θ1 H1 θ' H/\W G θ' h' H/\aJ G θ' H acc ys/\aD G F θ' H ((fg n ρ g t m (xs.drop i) h').bind fun zs h2=>mk (acc++zs) h2) (KV G Q),
  ⟨xs.length,by simp,Nat.zero_le _,θ1,h1,[],Nat.le_refl _,Ev.refl,w1,.nil,p1⟩,?_⟩
 rintro i m' ys H ⟨rfl,hi,θ',h',acc,hacc,ev,w,ra,p⟩
 obtain ⟨j1,j2⟩:=hJ θ' h' H ev w
 have hly:ys.length<=sizeLine:=by rw [<- show acc.length=ys.length from Paired.length ra];omega
 by_cases hlt:i < xs.length
 ·have ed:xs.drop i=xs[i]::xs.drop (i+1):=List.drop_eq_getElem_cons hlt
  rw [ed] at p
  obtain ⟨g1,g2⟩:=j1 i xs[i] (List.getElem?_eq_getElem hlt)
  refine .inr ⟨g1,hly,fun ys2 H2=>i+1<=xs.length/\∃ θ' h' acc,acc.length<=i+1/\Ev θ1 H1 θ' H2/\W G θ' h' H2/\aJ G θ' H2 acc ys2/\aD G F θ' H2 ((fg n ρ g t m (xs.drop (i+1)) h').bind fun zs h2=>mk (acc++zs) h2) (KV G Q),fun ys' H' q=>⟨xs.length - (i+1),by omega,rfl,q⟩,fun x H2 y=>?_⟩
  obtain ⟨e2,w2,r2⟩:=g2 x H2 y
  have p2:=p.later e2
  unfold fg at p2
  simp only [R.bind_assoc] at p2
  refine ⟨θ',h',_,xs[i],w2,((fr.ev ev).ev e2).replicate n,r2,(aD.dQ p2).mono fun ρ3 θ3 h3 H3 _ _ ⟨e3,w3,p3⟩ σ3 fr3=>⟨θ3,h3,ρ3,w3,fr3,(aD.dQ p3).mono fun c θ4 h4 H4 _ _ ⟨e4,w4,p4⟩=>?_⟩⟩
  have ev4:=(ev.trans e2).trans (e3.trans e4)
  have ra4:=aJ.ev (e2.trans (e3.trans e4)) ra
  cases c with
  | false=>exact ⟨hlt,θ4,h4,acc,by omega,ev4,w4,ra4,p4⟩
  | true=>
   simp only [if_true,R.bind_assoc] at p4
   refine ⟨θ4,h4,ρ3,w4,fr3.ev e4,(aD.dQ p4).mono fun y θ5 h5 H5 _ _ ⟨e5,w5,p5⟩ v5 r5=>⟨hlt,θ5,h5,acc++[y],by simp;omega,ev4.trans e5,w5,?_,?_⟩⟩
   ·exact dN (aJ.ev e5 ra4) (.cons r5 .nil)
   ·simp only [R.bind_assoc,R.aA] at p5
    simpa using p5
 ·have hx:i=xs.length:=by omega
  subst hx
  rw [List.drop_of_length_le (Nat.le_refl _)] at p
  simp only [fg,R.aA,List.append_nil] at p
  exact .inl ⟨j2,hly,hmk acc ys θ' h' H hacc w ra p⟩
variable {own:List Str} {scope:Scope} {elt:Expr} {ifs:List Expr}
@[irreducible] def Be (X:Cx) (E:XK) (t:MT) (es:List Expr):Prop:=yF X es (lT X.G E t)
theorem j4 (X:Cx) (E:XK) (t:MT) (es:List Expr):Be X E t es=(yF X es (lT X.G E t)):=by
 unfold Be
 rfl
theorem cV:Be X E bT []:=by
 simp only [j4] at *
 exact fun pins s σ H Q I ⟨θ,h,ρ,w,fr,p⟩=>BL pins s σ H Q I (p θ H Ev.refl w)
theorem ib (h:DT X E t e):Be X E t [e]:=by
 simp only [iH,j4] at *
 exact BM h
theorem rT {G:Gx} {n:Nat} {mk:List D->Hm->R D} {σ:St} {H:Hp} {Q:VK} (h:lE G E (af mk (mJ n it g t m)) σ H Q)
  (hmk:∀ ys vs θ h H,ys.length<=sizeLine->W G θ h H->aJ G θ H ys vs->aD G (md G E) θ H (mk ys h) (KV G Q)->∀ p,H p=none->Q (.ref p) (upd H p (.lst vs))) :
  sZ n (lI G E it) (lG G dC g) (lT G dC t) (lE G dC m) σ H Q:=by
 obtain ⟨θ,h,ρ,w,fr,p⟩:=h
 simp only [af,mJ,R.bind_assoc] at p
 refine ⟨θ,h,ρ,w,fr,(aD.bind p).mono fun xs θ1 h1 H1 _ _ ⟨ev,w1,p1⟩ J hJ=>?_⟩
 split at p1
 ·rename_i hz
  exact yd hJ w1 (fr.ev ev) p1 (fun ys vs θ h H hl=>hmk ys vs θ h H (Nat.le_trans hl (cP hz))) (cP hz)
 ·exact p1.elim
theorem ic {G:Gx} {F:XP} {Q:VK} (ys:List D) (vs:List V) (θ:List Addr) (h:Hm) (H:Hp) (w1:W G θ h H) (r1:aJ G θ H ys vs) (p1:aD G F θ H (gq ys h) (KV G Q)) (q:Addr) (hq:H q=none):Q (.ref q) (upd H q (.lst vs)):=by
 unfold gq at p1
 cases e:fU ys with
 | none=>rw [e] at p1;exact p1.elim
 | some ds=>
  rw [e] at p1
  simp only at p1
  split at p1
  ·obtain ⟨e1,w2,g⟩:=w1.put (o:=.lst vs) hq
   obtain ⟨h1,h2⟩:=kZ r1 e
   exact p1 _ _ e1 w2 _ ⟨⟨q,vs,rfl,g,h1.same e1.same⟩,by simp [cI,h2]⟩
  ·exact p1.elim
theorem vx {G:Gx} {F:XP} {Q:VK} (ys:List D) (vs:List V) (θ:List Addr) (h:Hm) (H:Hp) (w1:W G θ h H) (r1:aJ G θ H ys vs) (p1:aD G F θ H (jO ys h) (KV G Q)) (q:Addr) (hq:H q=none):Q (.ref q) (upd H q (.lst vs)):=by
 unfold jO at p1
 split at p1
 ·obtain ⟨e1,w2,g⟩:=w1.zH r1 hq
  exact p1 _ _ e1 w2 _ g
 ·exact p1.elim
theorem cQ (own:List Str) (CS:dm X.env.scope X.N own scope=true) (hc:X.calm=true) (hi:DI X E it tg e) (hg:∀ C s2 H2 fp pins,DG (ax X own scope C s2 H2 fp pins) dC g tg)
  (ht:∀ C s2 H2 fp pins,Be (ax X own scope C s2 H2 fp pins) dC t ifs) (he:∀ C s2 H2 fp pins,DE (ax X own scope C s2 H2 fp pins) dC m elt) (hs:∀ x,foldedSetIterable e X.env x=pure x:=by intro _;rfl) :
  DE X E (aT own.length it g t m) (.ListComp elt [⟨tg,e,ifs,0⟩] scope pos):=by
 simp only [bu,i7,gS,j4] at *
 exact PE.imp (wx (g:=lG X.G dC g) (tc:=lT X.G dC t) (te:=lE X.G dC m) own CS hc hi hg ht he hs) fun σ H Q q=>rT q fun ys vs θ h H _=>ic ys vs θ h H
theorem zM (own:List Str) (CS:dm X.env.scope X.N own scope=true) (hc:X.calm=true) (hi:DI X E it tg e) (hg:∀ C s2 H2 fp pins,DG (ax X own scope C s2 H2 fp pins) dC g tg)
  (ht:∀ C s2 H2 fp pins,Be (ax X own scope C s2 H2 fp pins) dC t ifs) (he:∀ C s2 H2 fp pins,DE (ax X own scope C s2 H2 fp pins) dC m elt) (hs:∀ x,foldedSetIterable e X.env x=pure x:=by intro _;rfl) :
  DE X E (rM own.length it g t m) (.ListComp elt [⟨tg,e,ifs,0⟩] scope pos):=by
 simp only [bu,i7,gS,j4] at *
 exact PE.imp (wx (g:=lG X.G dC g) (tc:=lT X.G dC t) (te:=lE X.G dC m) own CS hc hi hg ht he hs) fun σ H Q q=>rT q fun ys vs θ h H _=>vx ys vs θ h H
theorem wY {G:Gx} {n:Nat} {mk:List D->Hm->R D} {C:Ends} {σ:St} {H:Hp} (h:lS G E (bK i (af mk (mJ n it g t m))) C σ H)
  (hmk:∀ Q ys vs θ h H,ys.length<=sizeLine->W G θ h H->aJ G θ H ys vs->aD G (md G E) θ H (mk ys h) (KV G Q)->∀ p,H p=none->Q (.ref p) (upd H p (.lst vs))) :
  uY (sZ n (lI G E it) (lG G dC g) (lT G dC t) (lE G dC m)) (L2.ah i) C σ H:=by
 obtain ⟨θ,h,ρ,w,fr,p⟩:=h
 refine rT (Q:=fun x H1=>L2.ah i x σ H1 C.nx) ⟨θ,h,ρ,w,fr,(aD.bind p).mono fun d θ1 h1 H1 _ _ ⟨ev,w1,p1⟩ v r=>p1 θ1 H1 Ev.refl w1 _ ((fr.ev ev).set r)⟩ (hmk _)
theorem wZ (own:List Str) {pos' spos:Pos} (hN:X.N.Nodup) (hxi:X.N[i]?=some x) (hx:X.env.scope.names.lookup x=some .local) (CS:dm X.env.scope X.N own scope=true) (hc:X.calm=true) (hi:DI X E it tg e) (hg:∀ C s2 H2 fp pins,DG (ax X own scope C s2 H2 fp pins) dC g tg)
  (ht:∀ C s2 H2 fp pins,Be (ax X own scope C s2 H2 fp pins) dC t ifs) (he:∀ C s2 H2 fp pins,DE (ax X own scope C s2 H2 fp pins) dC m elt) (hs:∀ x,foldedSetIterable e X.env x=pure x:=by intro _;rfl)
  (hsw:swapsWith (.ListComp elt [⟨tg,e,ifs,0⟩] scope pos) (some (.Name x pos')) spos.line X.env=pure true:=by rfl):DS X E (bK i (aT own.length it g t m)) (.Assign [.Name x pos'] (.ListComp elt [⟨tg,e,ifs,0⟩] scope pos) spos):=by
 simp only [bu,gR,i7,gS,j4] at *
 exact PS.imp (BN (g:=lG X.G dC g) (tc:=lT X.G dC t) (te:=lE X.G dC m) own hN hxi hx CS hc hi hg ht he hs hsw) fun C σ H q=>wY q fun Q ys vs θ h H _=>ic ys vs θ h H
theorem zN (own N':List Str) {pos' spos:Pos} (hN:X.N.Nodup) (hxi:X.N[i]?=some x) (hx:X.env.scope.names.lookup x=some .local) (HL:nr X.env.scope X.N N'=true) (CS:dm X.env.scope N' own scope=true) (hc:X.calm=true) (hi:DI X E it tg e) (hg:∀ C s2 H2 fp pins,DG (ax (X.Bb N') own scope C s2 H2 fp pins) dC g tg)
  (ht:∀ C s2 H2 fp pins,Be (ax (X.Bb N') own scope C s2 H2 fp pins) dC t ifs) (he:∀ C s2 H2 fp pins,DE (ax (X.Bb N') own scope C s2 H2 fp pins) dC m elt) (hs:∀ x,foldedSetIterable e X.env x=pure x:=by intro _;rfl)
  (hsw:swapsWith (.ListComp elt [⟨tg,e,ifs,0⟩] scope pos) (some (.Name x pos')) spos.line X.env=pure true:=by rfl):DS X E (bK i (aT own.length it g t m)) (.Assign [.Name x pos'] (.ListComp elt [⟨tg,e,ifs,0⟩] scope pos) spos):=by
 simp only [bu,gR,i7,gS,j4] at *
 exact PS.imp (za (g:=lG X.G dC g) (tc:=lT X.G dC t) (te:=lE X.G dC m) own N' hN hxi hx HL CS hc hi hg ht he hs hsw) fun C σ H q=>wY q fun Q ys vs θ h H _=>ic ys vs θ h H
end
def B5 (G:Gx) (F:Fn):Sp:=fun vs H Q E=>∃ θ h ds,W G θ h H/\aJ G θ H ds vs/\aD G (md G E) θ H (F ds h) (KV G Q)
def zO (F:Fn) (n:Nat):Prop:=∀ ds h,ds.length≠n->F ds h=.bad
theorem B6 {G:Gx} {F:Fn} {n:Nat} (ar:zO F n):∀ vs H Q E,B5 G F vs H Q E->vs.length=n:=fun vs H Q E ⟨θ,h,ds,w,r,p⟩=>by
 by_cases e:ds.length=n
 ·rw [<- e];exact (Paired.length r).symm
 ·rw [ar ds h e] at p;exact p.elim
theorem qK {p n:Nat} {b:MS}:zO (bF p n b) p:=fun ds h e=>by unfold bF;rw [if_neg e]
structure aO (P:Program) (w:World) (K:PySem.W.Frag) (mg:Str->Option Value) (base:Heap) (x:Str) (ps:List Str) (k:Nat) (F:Fn):Prop where
 has:zK P w K mg base x ps k (B5 ⟨P,w,mg,K⟩ F)
 ar:zO F ps.length
section
variable {P:Program} {w:World} {K:PySem.W.Frag} {mg:Str->Option Value} {base:Heap} {x qual:Str} {st:Stmt} {f:Addr} {fd:FuncData} {N ps:List Str} {k:Nat} {b:MS} {F:Fn}
theorem Fr.start {G:Gx} {θ:List Addr} {H:Hp} {ds:List D} {vs:List V} {n:Nat} (r:aJ G θ H ds vs) (hl:ds.length=ps.length):Fr G θ H (ds.map some++List.replicate (N.length - ps.length) none) (start N vs):=by
 have hv:ds.length=vs.length:=Paired.length r
 unfold L2.start
 rw [<- hv,hl]
 refine ⟨by simp [<- hv,hl],fun i d e=>?_⟩
 by_cases hi:i < ds.length
 ·rw [List.getElem?_append_left (by simpa using hi)] at e
  rw [List.getElem?_append_left (by simpa [<- hv] using hi)]
  simp only [List.getElem?_map] at e ⊢
  cases e1:ds[i]? with
  | none=>rw [e1] at e;cases e
  | some d'=>
   rw [e1] at e
   simp at e
   subst e
   obtain ⟨v,e2,rv⟩:=r.some e1
   exact ⟨v,by rw [e2];rfl,rv⟩
 ·rw [List.getElem?_append_right (by simpa using hi),List.getElem?_replicate] at e
  split at e<;>cases e
theorem JM (Fu:Dn K x qual st f fd) (S:aV N ps (aF st)) (hbody:∀ (cdv:Value) (A:Around) (outer:List Env) (s:Shared) (H:Hp) (E:XK),df k (A.deeper (PyProof.Rows.envOfC qual (aF st) s.heap.objs.size f cdv)) ->
   zD (pQ (sQ P w) P w K mg base N qual (aF st) f cdv A outer s H E) E b (eJ st)):jF P w K mg base (sQ P w) (k+1) f fd ps (B5 ⟨P,w,mg,K⟩ (bF ps.length N.length b)):=by
 simp only [me] at *
 refine Fu.Kl S (B6 qK) fun cdv A outer s H vs Q E hr ⟨θ,h,ds,w,r,p⟩=>⟨_,hbody cdv A outer s H E hr,?_⟩
 unfold bF at p
 split at p
 ·rename_i hl
  refine ⟨θ,h,_,w,Fr.start (N:=N) (n:=0) r hl,(aD.bind p).mono fun fl θ1 h1 H1 _ _ ⟨ev,w1,p1⟩=>?_⟩
  cases fl with
  | nx ρ=>exact fun σ fr=>p1 θ1 H1 Ev.refl w1 _ ⟨rfl,by simp [cI]⟩
  | rt d=>exact p1 θ1 H1 Ev.refl w1
  | bk ρ=>exact p1.elim
  | ct ρ=>exact p1.elim
 ·exact p.elim
theorem aO.eq {F':Fn} (h:aO P w K mg base x ps k F) (e:F=F'):aO P w K mg base x ps k F':=e▸h
end
section
variable {X:Cx} {E:XK} {x:Str} {ps:List Str} {k:Nat} {F:Fn} {e:Expr} {es:List Expr} {ma:MA} {p pos:Pos}
theorem dI:Passes (sQ X.prog X.w) X dC:=fun _ _ _ _ _ _ _ ⟨_,_,_,_,_,_,_,_,_,_,_,_,_,h⟩=>h.elim
theorem bZ (F':aO X.prog X.w X.K X.mg X.base x ps k F) (hx:Passes (sQ X.prog X.w) X E) (hr:df k X.A) (hg:Gl X x) (ha:DA X E ma (e::es)) (hdb:(x == ("__debug__" : Str))=false:=by decide) (he:starEach (e::es) X.env=(false,eval e X.env)::starEach es X.env:=by rfl)
  (hpl:(backTo pos (starEach es X.env)).any (·.1)=false:=by rfl):DE X E (af F ma) (.Call (.Name x p) (e::es) [] pos):=by
 simp only [bu,gv] at *
 exact PE.imp (E6 F'.has hx hr hg ha hdb he hpl) fun σ H Q ⟨θ,h,ρ,w,fr,p⟩=>⟨θ,h,ρ,w,fr,(aD.bind p).mono fun xs θ1 h1 H1 _ _ ⟨ev,w1,p1⟩ vs r=>⟨θ1,h1,xs,w1,by simpa using r,p1⟩⟩
end
end Ml
namespace Ml
open PySem PySem.Spec L2
theorem ye {h:Heap} {x:PyData} {u:Value} (hx:(match x with | .int _ | .str _ | .bool _ | .none=>true | _=>false)=true) (r:RelV (Dx x) u):Reads h u x []:=by
 cases x with
 | none=>cases r;exact .none
 | bool b=>cases r;exact .bool b
 | int i=>obtain ⟨t,rfl⟩:=r;exact .int i t
 | str s=>obtain ⟨t,rfl⟩:=r;exact .str s t
 | _=>cases hx
theorem ie {h:Heap}:∀ {xs:List PyData} {us:List Value},(∀ x∈xs,(match x with | .int _ | .str _ | .bool _ | .none=>true | _=>false)=true)->Vals (xs.map Dx) us->ReadsAll h us xs []
 | [],us,_,r=>by cases r;exact .nil
 | x::xs,us,hx,r=>by
  cases r with
  | cons r1 r2=>exact .cons (as:=[]) (bs:=[]) (ye (hx x (by simp)) r1) (ie (fun y m=>hx y (by simp [m])) r2)
section
variable {X:Cx} {pins:List (Addr×Obj)} {σ:L2.St} {H:Hp} {s:Shared} {θ:List Addr} {hm:Hm}
theorem eQ (I:Inv X pins σ H s) (w:W X.G θ hm H):∀ (n:Nat) {x:D} {v:V} {u:Value} {d:PyData},cj X.G θ H x v->RelV v u->qa hm n x=some d->(∃ as,Reads s.heap u d as)/\cI d=true:=by
 intro n
 induction n with
 | zero=>
  intro x v u d r rv e
  cases x with
  | dat d'=>simp only [qa] at e;cases e;exact ⟨Rep.reads I (r.1.same (ay _ _)) rv,r.2⟩
  | ktup xs=>
   simp only [qa] at e
   cases e
   obtain ⟨a,rfl,⟨o,its,k,hl,hc,hd,_,vs⟩,hx,hs⟩:=r
   cases rv
   exact ⟨⟨_,.tuple (I.rj _ _ hl) hc hd (ie hx vs)⟩,by simpa [cI] using hs⟩
  | _=>simp [qa] at e
 | succ n ih=>
  intro x v u d r rv e
  cases x with
  | dat d'=>simp only [qa] at e;cases e;exact ⟨Rep.reads I (r.1.same (ay _ _)) rv,r.2⟩
  | ktup xs=>
   simp only [qa] at e
   cases e
   obtain ⟨a,rfl,⟨o,its,k,hl,hc,hd,_,vs⟩,hx,hs⟩:=r
   cases rv
   exact ⟨⟨_,.tuple (I.rj _ _ hl) hc hd (ie hx vs)⟩,by simpa [cI] using hs⟩
  | ref i=>
   simp only [qa] at e
   obtain ⟨a,ha,rfl⟩:=r
   cases rv
   cases e1:hm[i]? with
   | none=>rw [e1] at e;cases e
   | some o=>
    rw [e1] at e
    cases o with
    | lst xs=>
     simp only at e
     obtain ⟨vs,hv,rs⟩:=w.obj i a _ ha e1
     obtain ⟨_,its,k,rvs,ho⟩:=I.hok a _ hv
     have all:∀ {xs:List D} {vs:List V} {us:List Value} {ds:List PyData},aJ X.G θ H xs vs->Vals vs us->hU (qa hm n) xs=some ds->(∃ as,ReadsAll s.heap us ds as)/\bW ds=true:=by
      intro xs
      induction xs with
      | nil=>
       intro vs us ds r1 r2 e
       cases r1
       cases r2
       cases e
       exact ⟨⟨_,.nil⟩,by simp [bW]⟩
      | cons x xs ihx=>
       intro vs us ds r1 r2 e
       cases r1 with
       | cons p1 p2=>
        cases r2 with
        | cons q1 q2=>
         unfold hU at e
         cases e2:qa hm n x with
         | none=>rw [e2] at e;cases e
         | some d=>
          cases e3:hU (qa hm n) xs with
          | none=>rw [e2,e3] at e;cases e
          | some ds'=>
           rw [e2,e3] at e
           cases e
           obtain ⟨⟨as,z1⟩,s1⟩:=ih p1 q1 e2
           obtain ⟨⟨bs,z2⟩,s2⟩:=ihx p2 q2 e3
           exact ⟨⟨_,.cons z1 z2⟩,by simp [bW,s1,s2]⟩
     cases e2:hU (qa hm n) xs with
     | none=>rw [e2] at e;cases e
     | some ds=>
      rw [e2] at e
      cases e
      obtain ⟨⟨as,z⟩,s1⟩:=all rs rvs e2
      exact ⟨⟨_,.list ho rfl rfl (by simpa using z)⟩,by simpa [cI] using s1⟩
    | _=>cases e
  | _=>simp [qa] at e
end
end Ml
namespace PySem.SeqAt
open PySem PySem.MeetsSeq PySem.AutoSeq1
theorem oC (t:Addr) (its:Array Value) (m:Nat) (d2:Option Addr) (sl2:Array (Option Value)) (l:Addr) (es:Array DictEntry) (n:Nat) (dd:Option Addr) (sl:Array (Option Value)) :
  Meets (Builtin.«tuple.__eq__» ⟨[.ref t,.ref l],[]⟩) (fun _ R s=>s.heap.get? t=some {cls:=.type "tuple",dict:=d2,data:=.seq its m,slots:=sl2}/\s.heap.get? l=some {cls:=.type "dict",dict:=dd,data:=.dict es n,slots:=sl}/\R (.ok (.ret .notImplemented)) s):=
 .of_wp fun prog w A R s h=>by
  obtain ⟨hp,g,d,tk,os⟩:=s
  obtain ⟨ht,hl,h⟩:=h
  have f1:=F.sub_dict_tuple
  wp_walk using wpAny_loadPart' hl,wpAny_load hl,wpAny_loadPart' ht,wpAny_load ht
  exact ⟨_,rfl,h⟩
theorem oD (t:Addr) (its:Array Value) (m:Nat) (d2:Option Addr) (sl2:Array (Option Value)) (l:Addr) (es:Array DictEntry) (n:Nat) (dd:Option Addr) (sl:Array (Option Value)) :
  Meets (Builtin.«dict.__eq__» ⟨[.ref l,.ref t],[]⟩) (fun _ R s=>s.heap.get? t=some {cls:=.type "tuple",dict:=d2,data:=.seq its m,slots:=sl2}/\s.heap.get? l=some {cls:=.type "dict",dict:=dd,data:=.dict es n,slots:=sl}/\R (.ok (.ret .notImplemented)) s):=
 .of_wp fun prog w A R s h=>by
  obtain ⟨hp,g,d,tk,os⟩:=s
  obtain ⟨ht,hl,h⟩:=h
  have f1:=F.sub_tuple_dict
  wp_walk using wpAny_loadPart' hl,wpAny_load hl,wpAny_loadPart' ht,wpAny_load ht
  exact ⟨_,rfl,h⟩
end PySem.SeqAt
namespace PySem.SeqAt
open PySem PySem.MeetsSeq PySem.AutoSeq1
theorem oE {t:Addr} {h:Heap} {its:Array Value} {m:Nat} {d2:Option Addr} {sl2:Array (Option Value)} {l:Addr} {es:Array DictEntry} {n:Nat} {dd:Option Addr} {sl:Array (Option Value)} (ht:h.get? t=some {cls:=.type "tuple",dict:=d2,data:=.seq its m,slots:=sl2})
  (hl:h.get? l=some {cls:=.type "dict",dict:=dd,data:=.dict es n,slots:=sl}):t≠l:=fun e=>by
 subst e
 rw [ht] at hl
 have:=congrArg Obj.cls (Option.some.inj hl)
 exact absurd (show Value.type "tuple" = Value.type "dict" from this) (by decide)
theorem RcAt.rV {A:Around} {s:Shared} {t:Addr} {its:Array Value} {m:Nat} {d2:Option Addr} {sl2:Array (Option Value)} {l:Addr} {es:Array DictEntry} {n:Nat} {dd:Option Addr} {sl:Array (Option Value)} (ht:s.heap.get? t=some {cls:=.type "tuple",dict:=d2,data:=.seq its m,slots:=sl2})
  (hl:s.heap.get? l=some {cls:=.type "dict",dict:=dd,data:=.dict es n,slots:=sl}) (hu:A.units < cLine):RcAt A s (.ref t) (.ref l) false:=fun prog w E Q h=>
 have ne:t≠l:=oE ht hl
 rc_eq_decline_or (k:=false) ⟨_,ht,rfl⟩ ⟨_,hl,rfl⟩ (by decide) F.sub_dict_tuple F.slot_tuple_eq F.slot_dict_eq_refl
  (fun _ hq=>call_meets F.slot_tuple_eq ⟨_,ht,rfl⟩ F.entry_tuple_eq (F.args_tuple_eq_2 _ _) (oC t its m d2 sl2 l es n dd sl) ⟨ht,hl,hq⟩)
  (fun _ hq=>call_meets F.slot_dict_eq_refl ⟨_,hl,rfl⟩ F.entry_dict_eq (F.args_dict_eq_2 _ _) (oD t its m d2 sl2 l es n dd sl) ⟨ht,hl,hq⟩)
  (fun _ hq=>wpAny_isSame_ref_other' ne ht hl (show Value.type "dict" ≠ Value.type "tuple" by decide) hq) (.inr hu) h
theorem EqAt.rV {A:Around} {s:Shared} {t:Addr} {its:Array Value} {m:Nat} {d2:Option Addr} {sl2:Array (Option Value)} {l:Addr} {es:Array DictEntry} {n:Nat} {dd:Option Addr} {sl:Array (Option Value)} (ht:s.heap.get? t=some {cls:=.type "tuple",dict:=d2,data:=.seq its m,slots:=sl2})
  (hl:s.heap.get? l=some {cls:=.type "dict",dict:=dd,data:=.dict es n,slots:=sl}) (hu:A.units < cLine):EqAt A s (.ref t) (.ref l) false:=
 .of_refs (oE ht hl) (.rV ht hl hu)
end PySem.SeqAt
namespace Ml
open PySem PySem.Spec L2
theorem vy {d e:PyData} {k:Bool} (sa:cI d=true) (sb:cI e=true) (h:eqQ d e=some k):d.canLay0=true/\e.canLay0=true/\min d.depth e.depth<=40/\k=PyData.eqv d e:=by
 unfold eqQ at h
 split at h
 ·rename_i hn
  simp only [Bool.and_eq_true,noDict,Bool.not_eq_true',decide_eq_true_eq] at hn
  cases h
  exact ⟨i3 sa hn.1.1,i3 sb hn.1.2,hn.2,rfl⟩
 ·cases h
theorem E7 {A:Around} {s:Shared} {a b:Value} {d e:PyData} {as bs:List Addr} {k:Bool} (ra:Reads s.heap a d as) (rb:Reads s.heap b e bs) (sa:cI d=true) (sb:cI e=true) (hu:A.units+41 < cLine) (h:tH d e=some k):SeqAt.EqAt A s a b k/\d.canLay0=true:=by
 unfold tH at h
 split at h
 ·cases h
  cases ra
  cases rb with
  | @dict a' o' es n kvs as1 bs1 h1 h2 h3 h4 h5=>
   obtain ⟨oc,od,dat,osl⟩:=o'
   cases h2
   cases h3
   exact ⟨SeqAt.EqAt.BX _ _ h1 (by omega),by simpa [PyData.canLay0,cI] using sa⟩
 ·split at h
  ·rename_i hn
   simp only [noDict,Bool.not_eq_true'] at hn
   cases h
   have hl:=i3 sa hn
   cases ra with
   | @tuple l o vs m xs as1 g1 g2 g3 g4=>
    obtain ⟨oc2,od2,dat2,osl2⟩:=o
    cases g2
    cases g3
    cases rb with
    | @dict a' o' es n kvs as1 bs1 h1 h2 h3 h4 h5=>
     obtain ⟨oc,od,dat,osl⟩:=o'
     cases h2
     cases h3
     exact ⟨SeqAt.EqAt.rV g1 h1 (by omega),hl⟩
  ·cases h
 ·obtain ⟨l1,l2,l3,rfl⟩:=vy sa sb h
  exact ⟨SeqAt.eqAt_reads _ _ A s a b as bs ra rb l1 l2 (by omega),l1⟩
theorem aD.ig {G:Gx} {E:XP} {θ:List Addr} {H:Hp} {h:Hm} {d:D} {Q:VK} (p:aD G E θ H (.ok d h) (KV G Q)) (w:W G θ h H) {v:V} (r:cj G θ H d v):Q v H:=p θ H Ev.refl w v r
theorem b0 {G:Gx} {θ:List Addr} {H:Hp} (b:Bool):cj G θ H (.bool b) (.bl b):=⟨rfl,by simp [cI]⟩
theorem cy {G:Gx} {θ:List Addr} {H:Hp} (i:Int):cj G θ H (.int i) (.int i):=⟨rfl,by simp [cI]⟩
theorem yf {G:Gx} {θ:List Addr} {H:Hp}:cj G θ H D.none .non:=⟨rfl,by simp [cI]⟩
section
variable {X:Cx} {E:XK} {k:Nat}
theorem oF (hr:df k X.A):kq X E (compareOp .Eq) oEq:=by
 intro pins s σ H x y v u Q I rx ry ⟨θ,h,d1,d2,w,r1,r2,p⟩
 unfold oEq at p
 split at p
 ·exact Gj pins s σ H x y v u Q I rx ry (by cases r1;cases r2;exact ⟨rfl,by simpa using p.ig w (b0 _)⟩)
 ·cases e1:kM h d1 with
  | none=>rw [e1] at p;exact p.elim
  | some d=>
   cases e2:kM h d2 with
   | none=>rw [e1,e2] at p;exact p.elim
   | some e=>
    rw [e1,e2] at p
    simp only at p
    cases e3:eqQ d e with
    | none=>rw [e3] at p;exact p.elim
    | some b=>
     rw [e3] at p
     obtain ⟨⟨as,z1⟩,s1⟩:=eQ I w 3 r1 rx e1
     obtain ⟨⟨bs,z2⟩,s2⟩:=eQ I w 3 r2 ry e2
     obtain ⟨l1,l2,l3,rfl⟩:=vy s1 s2 e3
     exact SeqAt.compareEq_reads z1 z2 l1 l2 (by have:=hr.units;omega) ⟨.bl _,H,I,rfl,p.ig w (b0 _)⟩
theorem vz (hr:df k X.A):kq X E (compareOp .NotEq) nZ:=by
 intro pins s σ H x y v u Q I rx ry ⟨θ,h,d1,d2,w,r1,r2,p⟩
 unfold nZ at p
 split at p
 ·exact Gk pins s σ H x y v u Q I rx ry (by cases r1;cases r2;exact ⟨rfl,by simpa using p.ig w (b0 _)⟩)
 ·cases e1:kM h d1 with
  | none=>rw [e1] at p;exact p.elim
  | some d=>
   cases e2:kM h d2 with
   | none=>rw [e1,e2] at p;exact p.elim
   | some e=>
    rw [e1,e2] at p
    simp only at p
    cases e3:eqQ d e with
    | none=>rw [e3] at p;exact p.elim
    | some b=>
     rw [e3] at p
     obtain ⟨⟨as,z1⟩,s1⟩:=eQ I w 3 r1 rx e1
     obtain ⟨⟨bs,z2⟩,s2⟩:=eQ I w 3 r2 ry e2
     obtain ⟨l1,l2,l3,rfl⟩:=vy s1 s2 e3
     exact SeqAt.compareNe_reads z1 z2 l1 l2 (by have:=hr.units;omega) ⟨.bl _,H,I,rfl,p.ig w (b0 _)⟩
theorem rW {A:Around} {s:Shared} {x:Value} {d:PyData} {bs:List Addr} (rx:Reads s.heap x d bs) (sx:cI d=true) (hu:A.units+41 < cLine):∀ {vs:List Value} {ds:List PyData} {as:List Addr} {b:Bool},ReadsAll s.heap vs ds as->bW ds=true->sR d ds=some b ->
  (∀ y∈vs,SeqAt.EqAt A s y x ((tH (SeqAt.readOf s.heap y) d).getD false))/\(vs.any fun y=>(tH (SeqAt.readOf s.heap y) d).getD false)=b
 | [],_,_,b,.nil,_,e=>by cases e;exact ⟨fun y m=>by simp at m,rfl⟩
 | v::vs,_,_,b,.cons (d:=d1) (ds:=ds) r1 r2,so,e=>by
  simp only [bW,Bool.and_eq_true] at so
  unfold sR at e
  cases e1:tH d1 d with
  | none=>rw [e1] at e;cases e
  | some b1=>
   cases e2:sR d ds with
   | none=>rw [e1,e2] at e;cases e
   | some b2=>
    rw [e1,e2] at e
    cases e
    obtain ⟨h1,h2⟩:=rW rx sx hu r2 so.2 e2
    obtain ⟨q1,q2⟩:=E7 r1 rx so.1 sx hu e1
    have er:SeqAt.readOf s.heap v=d1:=SeqAt.readOf_eq q2 r1
    refine ⟨fun y m=>?_,?_⟩
    ·rcases List.mem_cons.mp m with z | z
     ·subst z;rw [er,e1];exact q1
     ·exact h1 y z
    ·rw [List.any_cons,h2,er,e1];rfl
theorem zP (hr:df k X.A) {pins:List (Addr×Obj)} {s:Shared} {σ:L2.St} {H:Hp} {v u:Value} {Q:VK} {d:PyData} {ds:List PyData} {as bs:List Addr} {b:Bool} {sq:PyData} (hsq:sq=.tuple ds\/sq=.list ds) (I:Inv X pins σ H s) (z1:Reads s.heap v d as) (z2:Reads s.heap u sq bs) (s1:cI d=true) (s2:bW ds=true) (e:sR d ds=some b) :
  (Q (.bl b) H->wpAny (model X.prog X.w) X.A (compareOp .In v u) (EP X pins σ Q) X.xe s)/\(Q (.bl !b) H->wpAny (model X.prog X.w) X.A (compareOp .NotIn v u) (EP X pins σ Q) X.xe s):=by
 have hu:X.A.in1.units+41 < cLine:=by have:=hr.units;show X.A.units+1+41 < cLine;omega
 rcases hsq with rfl | rfl
 ·cases z2 with
  | tuple h1 h2 h3 h4=>
   obtain ⟨q1,q2⟩:=rW (A:=X.A.in1) z1 s1 hu h4 s2 e
   rename_i vs n
   have q3:(vs.any fun y=>(tH (SeqAt.readOf s.heap y) d).getD false)=b:=by rw [<- q2,<- Array.any_toList]
   exact ⟨fun q=>SeqAt.in_tupleAt _ ⟨_,h1,h2,_,h3⟩ (fun y m=>q1 y (Array.mem_toList_iff.mpr m)) (by rw [q3];exact ⟨.bl b,H,I,rfl,q⟩),fun q=>SeqAt.notIn_tupleAt _ ⟨_,h1,h2,_,h3⟩ (fun y m=>q1 y (Array.mem_toList_iff.mpr m)) (by rw [q3];exact ⟨.bl (!b),H,I,rfl,q⟩)⟩
 ·cases z2 with
  | list h1 h2 h3 h4=>
   obtain ⟨q1,q2⟩:=rW (A:=X.A.in1) z1 s1 hu h4 s2 e
   rename_i vs n _
   have q3:(vs.any fun y=>(tH (SeqAt.readOf s.heap y) d).getD false)=b:=by rw [<- q2,<- Array.any_toList]
   exact ⟨fun q=>SeqAt.in_listAt _ ⟨_,h1,h2,_,h3⟩ (fun y m=>q1 y (Array.mem_toList_iff.mpr m)) (by rw [q3];exact ⟨.bl b,H,I,rfl,q⟩),fun q=>SeqAt.notIn_listAt _ ⟨_,h1,h2,_,h3⟩ (fun y m=>q1 y (Array.mem_toList_iff.mpr m)) (by rw [q3];exact ⟨.bl (!b),H,I,rfl,q⟩)⟩
end
end Ml
namespace PySem.SeqAt
open PySem.AutoSeq1 (wpAny_loadPart')
open PySem.MeetsSeq PySem.MeetsSeq2 PySem.MeetsSeq3
def zQ (A:Around) (s:Shared) (y x:Value) (b:Bool):Prop:=
 ∀ (prog:Program) (w:World) (E:Value->Shared->Prop) (Q:Value->Shared->Prop),Q (.bool b) s->wpAny (model prog w) A (richCompare .Lt y x) Q E s
inductive jP (A:Around) (s:Shared):List Value->List Value->Bool->Prop
 | nil:jP A s [] [] false
 | left {w ws}:jP A s [] (w::ws) true
 | right {v vs}:jP A s (v::vs) [] false
 | eq {v vs w ws k}:EqAt A s v w true->jP A s vs ws k->jP A s (v::vs) (w::ws) k
 | ne {v vs w ws k}:EqAt A s v w false->zQ A s v w k->jP A s (v::vs) (w::ws) k
theorem lg (l b:Addr) (its1 its2:Array Value) (n n2:Nat) (dd dd2:Option Addr) (sl sl2:Array (Option Value)) (k:Bool) :
  Meets (Builtin.«tuple.__lt__» ⟨[.ref l,.ref b],[]⟩) (fun A R s=>s.heap.get? l=some {cls:=.type "tuple",dict:=dd,data:=.seq its1 n,slots:=sl}/\s.heap.get? b=some {cls:=.type "tuple",dict:=dd2,data:=.seq its2 n2,slots:=sl2}/\jP A.in1 s its1.toList its2.toList k/\R (.ok (.ret (.bool k))) s):=
 .of_wp fun prog w A R s h=>by
  obtain ⟨hp,g,d,tk,os⟩:=s
  obtain ⟨hl,hb,hx,h⟩:=h
  have f2:=AutoSeq1.sub_tuple_tuple
  wp_walk using wpAny_loadPart' hl,wpAny_loadPart' hb,wpAny_forIn_list _ (fun rest b s'=>b.1=none/\s'=⟨hp,g,d,tk,os⟩/\∃ (vs ws:List Value),rest=vs.zip ws/\jP A.in1 ⟨hp,g,d,tk,os⟩ vs ws k/\vs.length+its2.size=ws.length+its1.size/\R (.ok (.ret (.bool k))) ⟨hp,g,d,tk,os⟩) _
  case turn=>
   rintro ⟨y,x⟩ rest b s' ⟨hb',rfl,vs,ws,hz,hx,hlen,hR⟩
   cases hx with
   | nil=>rw [List.zip_nil_left] at hz;cases hz
   | left=>rw [List.zip_nil_left] at hz;cases hz
   | right=>rw [List.zip_nil_right] at hz;cases hz
   | @eq v vs w' ws k he hx'=>
    rw [List.zip_cons_cons] at hz
    injection hz with hyx hrest
    injection hyx with hy hx
    subst hy hx
    simp only [List.length_cons] at hlen
    refine wpAny_bind (he prog w _ _ ?_)
    wp_walk
    exact ⟨rfl,rfl,_,_,hrest,hx',by omega,hR⟩
   | @ne v vs w' ws k he hlt=>
    rw [List.zip_cons_cons] at hz
    injection hz with hyx hrest
    injection hyx with hy hx
    subst hy hx
    refine wpAny_bind (he prog w _ _ ?_)
    have hri:=hlt prog w
    wp_walk using hri
    exact ⟨_,rfl,by simpa using hR⟩
  case fin=>
   rintro ⟨b1,b2⟩ s' ⟨hb',rfl,vs,ws,hz,hx,hlen,hR⟩
   simp only at hb'
   subst hb'
   have hv:k=decide (its1.size < its2.size):=by
    cases hx with
    | nil=>simp only [List.length_nil] at hlen;exact (decide_eq_false (by omega)).symm
    | left=>simp only [List.length_nil,List.length_cons] at hlen;exact (decide_eq_true (by omega)).symm
    | right=>simp only [List.length_nil,List.length_cons] at hlen;exact (decide_eq_false (by omega)).symm
    | eq=>rw [List.zip_cons_cons] at hz;cases hz
    | ne=>rw [List.zip_cons_cons] at hz;cases hz
   rw [hv] at hR
   wp_walk
   exact ⟨_,rfl,by simpa [Builtin.Tuple.tupleCompareSizes] using hR⟩
  case h=>exact ⟨rfl,rfl,its1.toList,its2.toList,rfl,hx,by simp;omega,h⟩
theorem zQ.tuples {A:Around} {s:Shared} {l b:Addr} {its1 its2:Array Value} {k:Bool} (h1:s.heap.IsTuple l its1) (h2:s.heap.IsTuple b its2) (hu:A.units < cLine) (hx:jP A.in1 s its1.toList its2.toList k):zQ A s (.ref l) (.ref b) k:=fun prog w E Q h=>by
 obtain ⟨⟨c1,d1,e1,l1⟩,p1,g1,n1,z1⟩:=h1
 obtain ⟨⟨c2,d2,e2,l2⟩,p2,g2,n2,z2⟩:=h2
 simp only at g1 z1 g2 z2
 subst g1 z1 g2 z2
 exact richCompare_meets_room (op:=.Lt) ⟨_,p1,rfl⟩ ⟨_,p2,rfl⟩ PySem.F.slot_tuple_lt PySem.F.entry_tuple_lt (PySem.F.args_tuple_lt_2 _ _) (lg l b _ _ n1 n2 d1 d2 l1 l2 k)
  ⟨p1,p2,hx,show Value.bool k≠Value.notImplemented/\Q (.bool k) s from ⟨(fun x=>nomatch x),h⟩⟩ hu
end PySem.SeqAt
namespace Ml
open PySem PySem.Spec L2
open PySem.SeqAt
mutual
theorem lh:∀ (d e:PyData) (A:Around) (s:Shared) (a b:Value) (as bs:List Addr) (k:Bool),Reads s.heap a d as->Reads s.heap b e bs->d.canLay0=true->e.canLay0=true->A.units+min d.depth e.depth < cLine->bG d e=some k->zQ A s a b k
 | .int i,.int j,A,s,a,b,as,bs,k,ra,rb,_,_,_,h=>by
  cases ra
  cases rb
  simp only [bG] at h
  cases h
  exact fun prog w E Q q=>(PyProof.Rows.lt_int q:wpAny (model prog w) A (compareOp .Lt _ _) Q E s)
 | .str x,.str y,A,s,a,b,as,bs,k,ra,rb,_,_,_,h=>by
  cases ra
  cases rb
  simp only [bG,jX] at h
  cases h
  exact fun prog w E Q q=>(PySem.P.lt_str q:wpAny (model prog w) A (compareOp .Lt _ _) Q E s)
 | .tuple xs,.tuple ys,A,s,a,b,as,bs,k,ra,rb,ha,hb,hu,h=>by
  cases ra with
  | tuple g1 g2 g3 g4=>
   cases rb with
   | tuple k1 k2 k3 k4=>
    simp only [bG] at h
    simp only [PyData.canLay0] at ha hb
    simp only [PyData.depth] at hu
    exact zQ.tuples ⟨_,g1,g2,_,g3⟩ ⟨_,k1,k2,_,k3⟩ (by omega) (mm xs ys A.in1 s _ _ _ _ k g4 k4 ha hb (by show A.units+1+_ < _;omega) h)
 | .none,_,_,_,_,_,_,_,_,_,_,_,_,_,h=>by simp [bG] at h
 | .bool _,_,_,_,_,_,_,_,_,_,_,_,_,_,h=>by simp [bG] at h
 | .list _,_,_,_,_,_,_,_,_,_,_,_,_,_,h=>by simp [bG] at h
 | .dict _,_,_,_,_,_,_,_,_,_,_,_,_,_,h=>by simp [bG] at h
 | .int _,.none,_,_,_,_,_,_,_,_,_,_,_,_,h=>by simp [bG] at h
 | .int _,.bool _,_,_,_,_,_,_,_,_,_,_,_,_,h=>by simp [bG] at h
 | .int _,.str _,_,_,_,_,_,_,_,_,_,_,_,_,h=>by simp [bG] at h
 | .int _,.list _,_,_,_,_,_,_,_,_,_,_,_,_,h=>by simp [bG] at h
 | .int _,.tuple _,_,_,_,_,_,_,_,_,_,_,_,_,h=>by simp [bG] at h
 | .int _,.dict _,_,_,_,_,_,_,_,_,_,_,_,_,h=>by simp [bG] at h
 | .str _,.none,_,_,_,_,_,_,_,_,_,_,_,_,h=>by simp [bG] at h
 | .str _,.bool _,_,_,_,_,_,_,_,_,_,_,_,_,h=>by simp [bG] at h
 | .str _,.int _,_,_,_,_,_,_,_,_,_,_,_,_,h=>by simp [bG] at h
 | .str _,.list _,_,_,_,_,_,_,_,_,_,_,_,_,h=>by simp [bG] at h
 | .str _,.tuple _,_,_,_,_,_,_,_,_,_,_,_,_,h=>by simp [bG] at h
 | .str _,.dict _,_,_,_,_,_,_,_,_,_,_,_,_,h=>by simp [bG] at h
 | .tuple _,.none,_,_,_,_,_,_,_,_,_,_,_,_,h=>by simp [bG] at h
 | .tuple _,.bool _,_,_,_,_,_,_,_,_,_,_,_,_,h=>by simp [bG] at h
 | .tuple _,.int _,_,_,_,_,_,_,_,_,_,_,_,_,h=>by simp [bG] at h
 | .tuple _,.str _,_,_,_,_,_,_,_,_,_,_,_,_,h=>by simp [bG] at h
 | .tuple _,.list _,_,_,_,_,_,_,_,_,_,_,_,_,h=>by simp [bG] at h
 | .tuple _,.dict _,_,_,_,_,_,_,_,_,_,_,_,_,h=>by simp [bG] at h
theorem mm:∀ (xs ys:List PyData) (A:Around) (s:Shared) (vs ws:List Value) (as bs:List Addr) (k:Bool),ReadsAll s.heap vs xs as->ReadsAll s.heap ws ys bs->PyData.canLayAll0 xs=true->PyData.canLayAll0 ys=true->A.units+min (PyData.depthAll xs) (PyData.depthAll ys) < cLine->cN xs ys=some k->jP A s vs ws k
 | [],[],A,s,vs,ws,as,bs,k,ra,rb,_,_,_,h=>by cases ra;cases rb;simp only [cN] at h;cases h;exact .nil
 | [],_::_,A,s,vs,ws,as,bs,k,ra,rb,_,_,_,h=>by cases ra;cases rb;simp only [cN] at h;cases h;exact .left
 | _::_,[],A,s,vs,ws,as,bs,k,ra,rb,_,_,_,h=>by cases ra;cases rb;simp only [cN] at h;cases h;exact .right
 | x::xs,y::ys,A,s,vs,ws,as,bs,k,ra,rb,ha,hb,hu,h=>by
  cases ra with
  | cons r1 r2=>
   cases rb with
   | cons q1 q2=>
    simp only [PyData.canLayAll0,Bool.and_eq_true] at ha hb
    simp only [PyData.depthAll] at hu
    have he:=eqAt_reads x y A s _ _ _ _ r1 q1 ha.1 hb.1 (by omega)
    simp only [cN] at h
    cases hq:PyData.eqv x y with
    | true=>
     rw [hq] at he h
     exact .eq he (mm xs ys A s _ _ _ _ k r2 q2 ha.2 hb.2 (by omega) (by simpa using h))
    | false=>
     rw [hq] at he h
     exact .ne he (lh x y A s _ _ _ _ k r1 q1 ha.1 hb.1 (by omega) (by simpa using h))
end
section
variable {X:Cx} {E:XK} {k:Nat}
theorem GJ (hr:df k X.A):kq X E (compareOp .Lt) oLt:=by
 intro pins s σ H x y v u Q I rx ry ⟨θ,h,d1,d2,w,r1,r2,p⟩
 unfold oLt at p
 cases d1 with
 | dat d=>
  cases d2 with
  | dat e=>
   simp only at p
   split at p
   ·rename_i hn
    simp only [Bool.and_eq_true,noDict,Bool.not_eq_true',decide_eq_true_eq] at hn
    cases e3:bG d e with
    | none=>rw [e3] at p;exact p.elim
    | some b=>
     rw [e3] at p
     obtain ⟨⟨as,z1⟩,s1⟩:=eQ I w 3 r1 rx (kN h 3 d)
     obtain ⟨⟨bs,z2⟩,s2⟩:=eQ I w 3 r2 ry (kN h 3 e)
     exact lh d e X.A s v u as bs b z1 z2 (i3 s1 hn.1.1) (i3 s2 hn.1.2) (by have:=hr.units;omega) e3 X.prog X.w X.xe _ ⟨.bl b,H,I,rfl,p.ig w (b0 b)⟩
   ·exact p.elim
  | _=>exact p.elim
 | _=>exact p.elim
theorem Dz {op:Value->Value->Sem Value} {f:D->D->Hm->R D} {C:Int->Int->Prop} {g:Int->Int->V} (h:gg X op (rI C g)) (k:∀ θ hm H d1 d2 Q,W X.G θ hm H->aD X.G (md X.G E) θ H (f d1 d2 hm) (KV X.G Q)->∃ i j,d1=.int i/\d2=.int j/\C i j/\Q (g i j) H):kq X E op f:=
 kq.of h fun θ hm H d1 d2 x y Q w r1 r2 p=>by
  obtain ⟨i,j,rfl,rfl,c,q⟩:=k θ hm H d1 d2 Q w p
  exact ⟨i,j,bD r1,bD r2,c,q⟩
theorem E8 {op:Value->Value->Sem Value} {f:D->D->Hm->R D} {g:Int->Int->V} (h:gg X op (FV g)) (k:∀ θ hm H d1 d2 Q,W X.G θ hm H->aD X.G (md X.G E) θ H (f d1 d2 hm) (KV X.G Q)->∃ i j,d1=.int i/\d2=.int j/\Q (g i j) H):kq X E op f:=
 kq.of h fun θ hm H d1 d2 x y Q w r1 r2 p=>by
  obtain ⟨i,j,rfl,rfl,q⟩:=k θ hm H d1 d2 Q w p
  exact ⟨i,j,bD r1,bD r2,q⟩
theorem tP:kq X E (binaryOp .Mod) oMod:=Dz Em fun θ hm H d1 d2 Q w p=>by
 unfold oMod at p
 split at p
 ·split at p
  ·rename_i hj;exact ⟨_,_,rfl,rfl,hj,p.ig w (cy _)⟩
  ·exact p.elim
 ·exact p.elim
theorem vA:kq X E (binaryOp .FloorDiv) nY:=Dz Bv fun θ hm H d1 d2 Q w p=>by
 unfold nY at p
 split at p
 ·split at p
  ·rename_i hj;exact ⟨_,_,rfl,rfl,hj,p.ig w (cy _)⟩
  ·exact p.elim
 ·exact p.elim
theorem B7:kq X E (compareOp .Gt) Bd:=E8 Gn fun θ hm H d1 d2 Q w p=>by
 unfold Bd at p
 split at p
 ·exact ⟨_,_,rfl,rfl,p.ig w (b0 _)⟩
 ·exact p.elim
theorem zR:kq X E (compareOp .LtE) oLe:=kq.of (gg.or Gm x5) fun θ hm H d1 d2 x y Q w r1 r2 p=>by
 unfold oLe at p
 split at p
 ·exact .inl ⟨_,_,bD r1,bD r2,p.ig w (b0 _)⟩
 ·exact .inr ⟨_,_,r1.1,r2.1,p.ig w (b0 _)⟩
 ·exact p.elim
end
end Ml
set_option maxHeartbeats 1000000
namespace Ml
open PySem PySem.Spec L2 PyProof.Rows PySem.W
def mM:PyData->Nat
 | .int _=>0
 | .str _=>1
 | _=>2
def zS:Nat->String
 | 0 => "int"
 | 1 => "str"
 | _ => "tuple"
theorem oG {M:Model} {h:Heap} {a:Addr} {o:Obj} (h1:h.get? a=some o) (h2:o.cls=.type "tuple"):Looks M h (typeOf (.ref a)) (.type "tuple"):=by
 obtain ⟨oc,od,dat,osl⟩:=o
 cases h2
 exact (Looks.ld h1).andThen .now
theorem yg {M:Model} {h:Heap} {v:Value} {d:PyData} {as:List Addr} (r:Reads h v d as) (t:aq d=true):Looks M h (typeOf v) (.type (zS (mM d))):=by
 cases r with
 | int i t=>exact .now
 | str x t=>exact .now
 | tuple h1 h2 h3 h4=>exact oG h1 h2
 | _=>simp [aq] at t
def GK (h:Heap) (f:Option Value) (d:PyData):Prop:=match d with
 | .tuple []=>f=none
 | .tuple (x::_)=>∃ u bs,f=some u/\Reads h u x bs
 | _=>False
section
variable {P:Program} {w:World} {A:Around} {E:Value->Shared->Prop} {s:Shared}
theorem mN {M:Model}:∀ {vs:List Value} {ds:List PyData} {as:List Addr} {Q:List (Option Value)->Shared->Prop},ReadsAll s.heap vs ds as->ds.all gF=true->(∀ fs,Paired (GK s.heap) fs ds->Q fs s)->wpAny M A (vs.mapM firstOfTuple') Q E s
 | _,_,_,Q,.nil,_,h=>by rw [List.mapM_nil];exact wpAny_pure (h [] .nil)
 | _,_,_,Q,.cons r t,al,h=>by
  simp only [List.all_cons,Bool.and_eq_true] at al
  rw [List.mapM_cons]
  refine wpAny_bind ?_
  cases r with
  | tuple h1 h2 h3 h4=>
   rename_i o its n xs
   rw [kas_first_eq]
   refine wpAny_bind (Looks.here (oG h1 h2) ?_)
   rw [if_neg (by first | decide | simp)]
   refine wpAny_bind (PyProof.Rows.listItems_at h1 h3 (wpAny_pure ?_))
   refine wpAny_bind (mN t al.2 fun fs hf=>wpAny_pure (h _ (.cons ?_ hf)))
   have e0:its[0]?=its.toList[0]?:=by simp
   rw [e0]
   generalize its.toList=l at h4
   cases h4 with
   | nil=>rfl
   | cons r1 r2=>exact ⟨_,_,rfl,r1⟩
  | _=>simp [gF] at al
theorem mO {ds:List PyData} (t:av ds=true) (c:du ds=true) {x y:PyData} {xs ys:List PyData} (h1:.tuple (x::xs)∈ds) (h2:.tuple (y::ys)∈ds):mM x=mM y:=by
 have t1:=aX t h1
 have t2:=aX t h2
 simp only [aq,av,Bool.and_eq_true] at t1 t2
 have q:=dY c h1 h2
 simp only [bG,cN] at q
 by_cases e:x=y
 ·rw [e]
 ·rw [bC t1.1 t2.1 e,if_neg (by simp)] at q
  cases x<;>cases y<;>first | rfl | (simp [bG] at q) | (simp [aq] at t1) | (simp [aq] at t2)
theorem jy {h:Heap}:∀ {fs:List (Option Value)} {ds:List PyData},Paired (GK h) fs ds->∀ v∈fs.filterMap id,∃ x xs bs,.tuple (x::xs)∈ds/\Reads h v x bs
 | _,_,.nil,v,hv=>by simp at hv
 | _,_,.cons (a:=f) (l₁:=fs) (b:=d) r p,v,hv=>by
  cases d with
  | tuple ys=>
   cases ys with
   | nil=>
    obtain rfl:f=none:=r
    obtain ⟨x,xs,bs,m,q⟩:=jy p v (by simpa using hv)
    exact ⟨x,xs,bs,by simp [m],q⟩
   | cons y ys=>
    obtain ⟨u,bs,rfl,q⟩:=r
    rcases (show v=u\/some v∈fs by simpa using hv) with rfl | hv
    ·exact ⟨y,ys,bs,by simp,q⟩
    ·obtain ⟨x,xs,bs,m,q⟩:=jy p v (by simpa using hv)
     exact ⟨x,xs,bs,by simp [m],q⟩
  | _=>exact (show False from r).elim
theorem readsAll_len {h:Heap}:∀ {vs:List Value} {ds:List PyData} {as:List Addr},ReadsAll h vs ds as->vs.length=ds.length
 | _,_,_,.nil=>rfl
 | _,_,_,.cons _ t=>by simp [readsAll_len t]
theorem oH {M:Model} {h:Heap}:∀ {vs:List Value} {ds:List PyData} {as:List Addr},ReadsAll h vs ds as->ds.all gF=true->∀ v∈vs,Looks M h (typeOf v) (.type "tuple")
 | _,_,_,.nil,_,v,hv=>by cases hv
 | _,_,_,.cons r1 r2,al,v,hv=>by
  simp only [List.all_cons,Bool.and_eq_true] at al
  rcases List.mem_cons.mp hv with rfl | hv
  ·cases r1 with
   | tuple g1 g2 g3 g4=>exact oG g1 g2
   | _=>simp [gF] at al
  ·exact oH r2 al.2 v hv
theorem yh {M:Model} {vs:List Value} {ds:List PyData} {as:List Addr} {Q:SortKind->Shared->Prop} (r:ReadsAll s.heap vs ds as) (al:ds.all gF=true) (t:av ds=true) (c:du ds=true) (h2:1<=vs.length)
  (h1:∀ b,(b=true->∀ x xs,.tuple (x::xs)∈ds->mM x≠2)->Q (tuples' b) s) (h3:Q general' s) (h4:Q oneType' s):wpAny M A (keyKind' vs.toArray) Q E s:=by
 rw [PyProof.Rows.kat_kind_eq,List.mapM_toArray,map_eq_pure_bind]
 refine wpAny_bind (wpAny_bind (mN r al fun fs hf=>wpAny_pure ?_))
 have hl:fs.length=ds.length:=Paired.length hf
 have hl2:vs.length=ds.length:=readsAll_len r
 split
 ·rename_i hall
  refine wpAny_bind (wpAny_rule ?_)
  have e:(fs.toArray.filterMap id)=(fs.filterMap id).toArray:=by simp
  rw [e]
  have hall':∀ f∈fs,f.isSome=true:=by simpa using hall
  obtain ⟨u,us,eu⟩:∃ u us,fs.filterMap id=u::us:=by
   match fs,hl,hall' with
   | [],hl,_=>simp at hl;omega
   | none::_,_,ha=>have:=ha none (.head _);cases this
   | some x::r,_,_=>exact ⟨x,r.filterMap id,by simp⟩
  obtain ⟨x,xs,bs,mx,rx⟩:=jy hf u (by rw [eu];simp)
  have tx:aq x=true:=by have:=aX t mx;simp only [aq,av,Bool.and_eq_true] at this;exact this.1
  refine wpAny_bind (tF (T:=.type (zS (mM x))) (by rw [eu];simp) (fun v hv=>?_) (by simp) ?_)
  ·obtain ⟨y,ys,bs,my,ry⟩:=jy hf v hv
   have ty:aq y=true:=by have:=aX t my;simp only [aq,av,Bool.and_eq_true] at this;exact this.1
   rw [mO t c mx my]
   exact yg ry ty
  ·refine wpAny_pure (h1 _ fun hb y ys my=>?_)
   rw [<- mO t c mx my]
   intro z
   rw [z] at hb
   exact absurd hb (by decide)
 ·split
  ·exact wpAny_pure h3
  ·refine wpAny_bind (tF (T:=.type "tuple") h2 (fun v hv=>?_) (by rfl) ?_)
   ·exact oH r al v hv
   ·exact wpAny_pure h4
theorem mP {b:Bool} {Q:Bool->Shared->Prop}:∀ {us vs:List Value} {xs ys:List PyData} {as bs:List Addr} (i:Nat) (fin k:Bool),ReadsAll s.heap us xs as->ReadsAll s.heap vs ys bs->av xs=true->av ys=true->PyData.canLayAll0 xs=true->PyData.canLayAll0 ys=true ->
  A.units+min (PyData.depthAll xs) (PyData.depthAll ys) < cLine->fin=decide (xs.length < ys.length)->(b=true->i=0->∀ x∈xs.head?,mM x≠2)->cN xs ys=some k->Q k s->KatLex P w A b fin Q (us.zip vs) i s
 | _,_,_,_,_,_,i,fin,k,.nil,.nil,_,_,_,_,_,e,_,h,q=>by subst e;simp [cN] at h;subst h;exact PySem.W.kat_nil q
 | _,_,_,_,_,_,i,fin,k,.nil,.cons _ _,_,_,_,_,_,e,_,h,q=>by subst e;simp [cN] at h;subst h;exact PySem.W.kat_nil (by simpa using q)
 | _,_,_,_,_,_,i,fin,k,.cons _ _,.nil,_,_,_,_,_,e,_,h,q=>by subst e;simp [cN] at h;subst h;exact PySem.W.kat_nil (by simpa using q)
 | _,_,_,_,_,_,i,fin,k,.cons (d:=x) (ds:=xs) r1 r2,.cons (d:=y) (ds:=ys) q1 q2,t1,t2,l1,l2,hu,e,hb,h,q=>by
  rw [List.zip_cons_cons]
  refine PySem.W.kat_cons ?_
  simp only [av,PyData.canLayAll0,Bool.and_eq_true] at t1 t2 l1 l2
  simp only [PyData.depthAll] at hu
  refine SeqAt.eqAt_reads x y A s _ _ _ _ r1 q1 l1.1 l2.1 (by omega) P w _ _ ?_
  simp only [cN] at h
  cases hq:PyData.eqv x y with
  | true=>
   rw [hq,if_pos rfl] at h
   exact PySem.W.kat_yes (mP (i+1) fin k r2 q2 t1.2 t2.2 l1.2 l2.2 (by omega) (by rw [e];simp) (fun _ z=>by omega) h q)
  | false=>
   rw [hq,if_neg (by simp)] at h
   refine PySem.W.kat_no ?_
   have fin2:wpAny (model P w) A (oneLt' false _ _) Q (fun _ _=>False) s:=kat_one _ _ (lh x y A s _ _ _ _ k r1 q1 l1.1 l2.1 (by omega) h P w (fun _ _=>False) _ q)
   cases hbi:(b && i == 0) with
   | false=>exact fin2
   | true=>
    simp only [Bool.and_eq_true,beq_iff_eq] at hbi
    have kx:=hb hbi.1 hbi.2 x (by simp)
    cases x with
    | int i1=>
     cases y with
     | int j1=>cases r1;cases q1;simp only [bG] at h;cases h;exact oneLt_int q
     | _=>simp [bG] at h
    | str i1=>
     cases y with
     | str j1=>cases r1;cases q1;simp only [bG,jX] at h;cases h;exact oneLt_str q
     | _=>simp [bG] at h
    | _=>exact absurd rfl kx
theorem vB (hu:A.units+41 < cLine) {x y:Value} {xs ys:List PyData} {as bs:List Addr} {k:Bool} {Q:Bool->Shared->Prop} (rx:Reads s.heap x (.tuple xs) as) (ry:Reads s.heap y (.tuple ys) bs) (t1:av xs=true) (t2:av ys=true) (l1:PyData.canLayAll0 xs=true) (l2:PyData.canLayAll0 ys=true)
  (hd:PyData.depthAll xs<=20) (h:cN xs ys=some k) (κ:SortKind) (hκ:(∃ b,κ=tuples' b/\(b=true->∀ x∈xs.head?,mM x≠2))\/κ=general'\/κ=oneType') (q:Q k s):wpAny (model P w) A (keyLt' κ x y) Q (fun _ _=>False) s:=by
 have ex:=rx
 have ey:=ry
 cases rx with
 | tuple g1 g2 g3 g4=>
  rename_i o1 i1 n1
  cases ry with
  | tuple k1 k2 k3 k4=>
   rename_i o2 i2 n2
   rcases hκ with ⟨b,rfl,hb⟩ | rfl | rfl
   ·refine kat_lt g1 g3 k1 k3 (mP 0 _ k g4 k4 t1 t2 l1 l2 (by omega) ?_ (fun hb' _=>hb hb') h q)
    have z1:=readsAll_len g4
    have z2:=readsAll_len k4
    simp at z1 z2
    rw [z1,z2]
   ·show wpAny (model P w) A (oneLt' false _ _) Q _ s
    exact kat_one _ _ (lh (.tuple xs) (.tuple ys) A s _ _ _ _ k ex ey (by simpa [PyData.canLay0] using l1) (by simpa [PyData.canLay0] using l2) (by simp only [PyData.depth];omega) (by simpa [bG] using h) P w (fun _ _=>False) _ q)
   ·rw [keyLt'_oneType,oneLt'_eq]
    simp only [if_true]
    refine wpAny_bind (wpAny_cRoomFor (by omega) ?_)
    obtain ⟨c1,d1,e1,sl1⟩:=o1
    obtain ⟨c2,d2,e2,sl2⟩:=o2
    cases g2
    cases g3
    cases k2
    cases k3
    refine wpAny_bind (wpAny_callSpecialIfBound?_slot ⟨_,g1,rfl⟩ PySem.F.slot_tuple_lt (call_meets PySem.F.slot_tuple_lt ⟨_,g1,rfl⟩ PySem.F.entry_tuple_lt (PySem.F.args_tuple_lt_2 _ _) (SeqAt.lg _ _ _ _ n1 n2 d1 d2 sl1 sl2 k) ⟨g1,k1,mm xs ys _ s _ _ _ _ k g4 k4 l1 l2 (by show A.units+1+_ < _;omega) h,?_⟩))
    exact wpAny_truthy_bool q
theorem mq {h:Heap}:∀ {vs:List Value} {ds:List PyData} {as:List Addr} (i:Nat),ReadsAll h vs ds as->i < vs.length->∃ bs,Reads h (vs.getD i .none) (ds.getD i .none) bs
 | _,_,_,i,.nil,hi=>by simp at hi
 | _,_,_,0,.cons r1 _,_=>⟨_,r1⟩
 | _,_,_,i+1,.cons _ r2,hi=>by simpa using mq i r2 (by simpa using hi)
theorem getD_mem {α:Type} {xs:List α} {i:Nat} {d:α} (h:i < xs.length):xs.getD i d∈xs:=by simp [h]
theorem oI:∀ {ds:List PyData} {d:PyData},PyData.canLayAll0 ds=true->d∈ds->d.canLay0=true
 | _::_,d,h,m=>by
  simp only [PyData.canLayAll0,Bool.and_eq_true] at h
  rcases List.mem_cons.mp m with rfl | m
  ·exact h.1
  ·exact oI h.2 m
theorem oJ:∀ {ds:List PyData} {d:PyData},d∈ds->d.depth<=PyData.depthAll ds
 | _::_,d,m=>by
  simp only [PyData.depthAll]
  rcases List.mem_cons.mp m with rfl | m
  ·exact Nat.le_max_left _ _
  ·exact Nat.le_trans (oJ m) (Nat.le_max_right _ _)
theorem yi (hu:A.units+41 < cLine) {vs:List Value} {ds:List PyData} {as:List Addr} (r:ReadsAll s.heap vs ds as) (al:ds.all gF=true) (t:av ds=true) (c:du ds=true) (l:PyData.canLayAll0 ds=true) (hd:PyData.depthAll ds<=20) (h2:1<=vs.length) :
  zk P w A vs (fun i j=>ltB (ds.getD i .none) (ds.getD j .none)) s:=by
 have hlen:=readsAll_len r
 have tup:∀ {i:Nat},i < vs.length->∃ xs bs,ds.getD i .none=.tuple xs/\.tuple xs∈ds/\Reads s.heap (vs.getD i .none) (.tuple xs) bs:=fun {i} hi=>by
  obtain ⟨bs,q⟩:=mq i r hi
  have m:ds.getD i .none∈ds:=getD_mem (by omega)
  have a:=List.all_eq_true.mp al _ m
  cases e:ds.getD i .none with
  | tuple xs=>exact ⟨xs,bs,rfl,e▸m,e▸q⟩
  | _=>rw [e] at a;simp [gF] at a
 have key:∀ κ,((∃ b,κ=tuples' b/\(b=true->∀ x xs,.tuple (x::xs)∈ds->mM x≠2))\/κ=general'\/κ=oneType')->s=s/\∀ i j C,i < vs.length->j < vs.length->C (ltB (ds.getD i .none) (ds.getD j .none)) s ->
   wpAny (model P w) A (keyLt' κ (vs.getD i Value.none) (vs.getD j Value.none)) C (fun _ _=>False) s:=fun κ hκ=>⟨rfl,fun i j C hi hj hC=>by
  obtain ⟨xs,b1,e1,m1,q1⟩:=tup hi
  obtain ⟨ys,b2,e2,m2,q2⟩:=tup hj
  have cc:=dY c m1 m2
  have d1:=oJ m1
  have l1:=oI l m1
  have l2:=oI l m2
  have t1:=aX t m1
  have t2:=aX t m2
  simp only [PyData.depth] at d1
  simp only [PyData.canLay0] at l1 l2
  simp only [aq] at t1 t2
  rw [e1,e2] at hC
  refine vB hu q1 q2 t1 t2 l1 l2 (by omega) (by simpa [bG] using cc) κ ?_ hC
  rcases hκ with ⟨b,rfl,hb⟩ | h | h
  ·refine .inl ⟨b,rfl,fun hb' x hx=>?_⟩
   cases xs with
   | nil=>simp at hx
   | cons z zs=>simp at hx;subst hx;exact hb hb' z zs m1
  ·exact .inr (.inl h)
  ·exact .inr (.inr h)⟩
 exact yh r al t c h2 (fun b hb=>key _ (.inl ⟨b,rfl,hb⟩)) (key _ (.inr (.inl rfl))) (key _ (.inr (.inr rfl)))
end
end Ml
namespace Ml
open PySem PySem.Spec L2
section
variable {X:Cx} {E:XK} {k:Nat} {θ:List Addr} {hm:Hm} {H:Hp}
theorem nA {G:Gx} (w:W G θ hm H) {x:D} {v:V} {ds:List PyData} (r:cj G θ H x v) (e:listOf x hm=some ds):∃ a vs,v=.ref a/\H a=some (.lst vs)/\aW (view θ H) ds vs/\bW ds=true:=by
 unfold listOf at e
 split at e
 ·cases e
  obtain ⟨⟨a,vs,rfl,ha,rr⟩,so⟩:=r
  exact ⟨a,vs,rfl,ay _ _ _ _ ha,rr,by simpa [cI] using so⟩
 ·obtain ⟨a,ha,rfl⟩:=r
  split at e
  ·rename_i ys hy
   obtain ⟨vs,hv,rs⟩:=w.obj _ _ _ ha hy
   obtain ⟨h1,h2⟩:=kZ rs e
   exact ⟨a,vs,rfl,hv,h1,h2⟩
  ·cases e
 ·cases e
theorem yj {P:Program} {w:World} {A:Around} {s:Shared} {vs:List Value} {ds:List PyData} {as:List Addr} (r:ReadsAll s.heap vs ds as) (al:ds.all vt=true) (h2:2<=vs.length):PySem.W.zk P w A vs (fun i j=>ltB (ds.getD i .none) (ds.getD j .none)) s:=by
 have hlen:=readsAll_len r
 have tup:∀ {i:Nat},i < vs.length->∃ x tk,ds.getD i .none=.str x/\vs.getD i .none=.str x tk:=fun {i} hi=>by
  obtain ⟨bs,q⟩:=mq i r hi
  have m:ds.getD i .none∈ds:=getD_mem (by omega)
  have a:=List.all_eq_true.mp al _ m
  cases e:ds.getD i .none with
  | str x=>rw [e] at q;generalize vs.getD i .none=z at q;cases q;exact ⟨x,_,rfl,rfl⟩
  | _=>rw [e] at a;simp [vt] at a
 refine PySem.W.kas_kind h2 (T:=.type "str") (fun v hv=>?_) (by decide) (by decide) ⟨rfl,fun i j C hi hj hC=>?_⟩
 ·obtain ⟨i,hi,e⟩:=List.mem_iff_getElem.mp hv
  obtain ⟨x,tk,_,e2⟩:=tup hi
  have:vs.getD i .none=v:=by simp [hi,e]
  rw [this] at e2
  subst e2
  exact .now
 ·obtain ⟨x,t1,e1,f1⟩:=tup hi
  obtain ⟨y,t2,e2,f2⟩:=tup hj
  rw [f1,f2,PyProof.Rows.keyLt'_oneType]
  simp only [e1,e2] at hC
  exact PyProof.Rows.oneLt_str (by simpa [ltB,bG,jX] using hC)
theorem IM {ds:List PyData} (o:Ord ltB ds):PySem.W.jH (fun i j=>ltB (ds.getD i .none) (ds.getD j .none)) ds.length:=
 ⟨fun a b ha hb h=>o.as (getD_mem ha) (getD_mem hb) h,fun a b c ha hb hc h h'=>o.ntr (getD_mem ha) (getD_mem hb) (getD_mem hc) h h'⟩
theorem bN:∀ {ds:List PyData},bW ds=true<->∀ d∈ds,cI d=true
 | []=>by simp [bW]
 | d::ds=>by simp [bW,bN (ds:=ds)]
theorem yk {ds es:List PyData} (p:ds.Perm es) (h:bW ds=true):bW es=true:=bN.mpr fun d m=>bN.mp h d (p.mem_iff.mpr m)
def E9:List V->Hp->VK->Prop:=fun xs H Q=>∃ (a:Addr) (vs:List V) (M:Hp) (ds:List PyData),xs=[.ref a]/\H a=some (.lst vs)/\bE M H/\aW M ds vs/\bW ds=true/\lX ds=true /\
 ∀ (p:Addr) (us:List V),H p=none->aW M (gu ltB ds) us->us.length<=sizeLine->Q (.ref p) (upd H p (.lst us))
theorem rX (hr:df k X.A):cR X (.builtin "sorted") E9:=by
 intro pins s σ H xs us Q I r h
 obtain ⟨a,vs,M,ds,rfl,ha,sm,rp,so,ok,q⟩:=h
 simp only [lX,Bool.and_eq_true,decide_eq_true_eq,Bool.or_eq_true] at ok
 obtain ⟨⟨⟨⟨kd,tr⟩,cm⟩,dp⟩,h64⟩:=ok
 cases r with
 | cons r rr=>
  cases rr
  cases r
  obtain ⟨its,rv,pl,_⟩:=I.list (gD.of (K:=X.K) ha)
  have hlen:vs.length=ds.length:=rp.length
  have hlen2:its.length=ds.length:=by rw [<- rv.length];exact hlen
  obtain ⟨as,ra⟩:=aW.reads I (rp.same sm) rv
  have nd:PyData.hasDictAll ds=false:=hX tr
  have la:=ny so nd
  have O:=IM (jx cm tr)
  rw [<- hlen2] at O
  refine PySem.W.nV pl.isList O (by omega) (fun h' kp h2=>?_) fun p hp hs=>?_
  ·have ra':ReadsAll h' its ds as:=PyProof.Rows.ReadsAll.keeps kp ra
   rcases kd with kd | kd
   ·exact yj (s:={s with heap:=h'}) ra' kd h2
   ·exact yi (s:={s with heap:=h'}) (by have:=hr.un;show X.A.units+1+1+41 < cLine;omega) ra' kd tr cm la dp (by omega)
  ·have ge:s.heap.objs.size<=s.heap.objs.size+1:=Nat.le_succ _
   have nn:H (s.heap.objs.size+1)=none:=I.hok.fresh ge
   obtain ⟨e,he⟩:=PyProof.Rows.sortedAll_at s.heap its (p.toList.map fun i=>its.getD i Value.none).toArray
   have hin:∀ i∈p.toList,i < vs.length:=fun i hi=>by
    have:=List.mem_range.mp (hp.perm.mem_iff.mp hi)
    omega
   have hlp:p.toList.length=ds.length:=by rw [hp.perm.length_eq,List.length_range,hlen2]
   have hz:(p.toList.map fun i=>vs.getD i .non).length<=sizeLine:=by
    rw [List.length_map,hlp]
    exact Nat.le_trans (Nat.le_of_lt h64) (by decide)
   refine ⟨.ref _,_,I.laid (t':=s.toks) (o:=.lst (p.toList.map fun i=>vs.getD i .non)) (fun b o k=>PyProof.Rows.sortedAll_old k) ge ⟨hz,_,e,qz rv p.toList hin,by simpa [PyProof.Rows.seqObj] using he⟩,rfl,q _ _ nn ?_ hz⟩
   have e1:(p.toList.map fun i=>ds.getD i .none)=gu ltB ds:=by
    refine zz cm tr ?_ ?_
    ·have:=hp.perm.map (fun i=>ds.getD i .none)
     rw [hlen2,kL] at this
     exact this
    ·unfold Up
     rw [List.pairwise_map,List.pairwise_iff_getElem]
     intro i j hi hj hij
     have e1:PySem.W.pat p i=p.toList[i]:=by simp only [Array.length_toList] at hi;rw [PySem.W.iX,getElem?_pos p i hi];simp
     have e2:PySem.W.pat p j=p.toList[j]:=by simp only [Array.length_toList] at hj;rw [PySem.W.iX,getElem?_pos p j hj];simp
     have:=hs i j hij (by rw [hlen2];omega)
     rw [e1,e2] at this
     exact this
   rw [<- e1]
   exact qA rp .none p.toList hin
theorem zT (hr:df k X.A):ku X E (.builtin "sorted") kR:=ku.of (rX hr) fun θ hm H ds xs Q w r p=>by
 unfold kR at p
 split at p
 ·rename_i x
  cases r with
  | cons r rr=>
   cases rr
   split at p
   ·rename_i ys hy
    split at p
    ·rename_i ok
     obtain ⟨a,vs,rfl,ha,rp,so⟩:=nA w r hy
     refine ⟨a,vs,view θ H,ys,rfl,ha,ay _ _,rp,so,ok,fun q us hq ru hz=>?_⟩
     obtain ⟨e1,w1,g⟩:=w.put (o:=.lst us) hq
     refine p _ _ e1 w1 _ ⟨⟨q,us,rfl,g,ru.same e1.same⟩,?_⟩
     simp only [cI]
     exact yk (dw _ _).symm so
    ·exact p.elim
   ·exact p.elim
 ·exact p.elim
end
end Ml
namespace Ml
open PySem PySem.Spec L2
section
variable {X:Cx} {E:XK} {k:Nat} {θ:List Addr} {hm:Hm} {H:Hp} {m:ME} {t:MT} {e e1 e2:Expr} {pos:Pos}
theorem eR {G:Gx} {x:Str} {v:V} (r:cj G θ H (.str x) v):v=.str x/\PyData.strOk x=true:=⟨r.1,by simpa [cI] using r.2⟩
theorem rY {x y:Str} (h:PyData.strOk x=true) (h':PyData.strOk y=true):PyData.strOk (x++y)=true:=by
 have e:(x++y).cps=x.cps++y.cps:=rfl
 unfold PyData.strOk at h h' ⊢
 rw [e,Array.all_append,h,h']
 rfl
theorem tQ {G:Gx} {H' M':Hp} (w:W G θ hm H) (x:Ext H (view θ H) H' M'):Ev θ H θ H'/\W G θ hm H'/\bE M' (view θ H'):=by
 obtain ⟨e1,w1⟩:=w.grow x.sh
 refine ⟨e1,w1,fun c o q=>?_⟩
 have nb:c∉θ:=fun z=>by
  obtain ⟨i,hi,ei⟩:=List.mem_iff_getElem.mp z
  have hl:i < hm.length:=by rw [<- w.len];exact hi
  have hn:H c≠none:=vv.some _ (w.obj i c hm[i] (by rw [List.getElem?_eq_getElem hi,ei]) (List.getElem?_eq_getElem hl))
  rw [x.old c hn] at q
  exact (cS q).1 z
 rw [dj nb]
 exact x.gs c o q
theorem f6:kq X E (binaryOp .Add) dr:=kq.of (gg.or Ek (gg.or u7 (gg.or BV Ez))) fun θ hm H d1 d2 x y Q w r1 r2 p=>by
 unfold dr at p
 split at p
 ·exact .inl ⟨_,_,bD r1,bD r2,p.ig w (cy _)⟩
 ·split at p
  ·rename_i hz
   obtain ⟨e1,s1⟩:=eR r1
   obtain ⟨e2,s2⟩:=eR r2
   exact .inr (.inl ⟨_,_,e1,e2,cP hz,p.ig w ⟨rfl,by simp only [cI];exact rY s1 s2⟩⟩)
  ·exact p.elim
 ·split at p
  ·rename_i xs ys hz
   refine .inr (.inr (.inl ⟨view θ H,xs,ys,ay _ _,r1.1,r2.1,cP hz,fun r H' M' ex rr=>?_⟩))
   obtain ⟨e1,w1,sm⟩:=tQ w ex
   have s1:bW xs=true:=by simpa [cI] using r1.2
   have s2:bW ys=true:=by simpa [cI] using r2.2
   refine p _ _ e1 w1 _ ⟨rr.same sm,?_⟩
   simp only [cI]
   exact bN.mpr fun d m=>by
    rcases List.mem_append.mp m with m | m
    ·exact bN.mp s1 d m
    ·exact bN.mp s2 d m
  ·exact p.elim
 ·split at p
  ·rename_i xs ys hz
   have s1:bW xs=true:=by simpa [cI] using r1.2
   have s2:bW ys=true:=by simpa [cI] using r2.2
   obtain ⟨a,us,rfl,ha,q1,_⟩:=fq r1
   obtain ⟨b,ws,rfl,hb,q2,_⟩:=fq r2
   refine .inr (.inr (.inr ⟨a,b,us,ws,rfl,rfl,ay _ _ _ _ ha,ay _ _ _ _ hb,by rw [q1.length,q2.length];exact cP hz,fun q hq=>?_⟩))
   obtain ⟨e1,w1,g⟩:=w.put (o:=.lst (us++ws)) hq
   refine p _ _ e1 w1 _ ⟨⟨q,_,rfl,g,(q1.append q2).same e1.same⟩,?_⟩
   simp only [cI]
   exact bN.mpr fun d m=>by
    rcases List.mem_append.mp m with m | m
    ·exact bN.mp s1 d m
    ·exact bN.mp s2 d m
  ·exact p.elim
 ·exact p.elim
theorem mr {M:Hp} {ds:List PyData} {vs:List V} (r:aW M ds vs):∀ n:Nat,aW M (List.replicate n ds).flatten (List.replicate n vs).flatten
 | 0=>rfl
 | n+1=>by rw [List.replicate_succ,List.replicate_succ,List.flatten_cons,List.flatten_cons];exact r.append (mr r n)
theorem lj:kq X E (binaryOp .Mult) fV:=kq.of (gg.or El EA) fun θ hm H d1 d2 x y Q w r1 r2 p=>by
 unfold fV at p
 split at p
 ·split at p
  ·rename_i hc
   refine .inl ⟨_,_,bD r1,bD r2,?_,p.ig w (cy _)⟩
   simp only [nX,Bool.or_eq_true,Bool.and_eq_true,decide_eq_true_eq] at hc
   exact hc
  ·exact p.elim
 ·split at p
  ·rename_i xs j hc
   simp only [Bool.and_eq_true,decide_eq_true_eq] at hc
   have s1:bW xs=true:=by simpa [cI] using r1.2
   obtain ⟨a,us,rfl,ha,q1,_⟩:=fq r1
   refine .inr ⟨a,j,us,rfl,bD r2,ay _ _ _ _ ha,hc.1.2,hc.2,by rw [q1.length];exact cP hc.1.1,fun q hq=>?_⟩
   obtain ⟨e1,w1,g⟩:=w.put (o:=.lst (List.replicate j.toNat us).flatten) hq
   refine p _ _ e1 w1 _ ⟨⟨q,_,rfl,g,(mr q1 _).same e1.same⟩,?_⟩
   simp only [cI]
   exact bN.mpr fun d m=>by
    obtain ⟨l,hl,hd⟩:=List.mem_flatten.mp m
    rw [(List.mem_replicate.mp hl).2] at hd
    exact bN.mp s1 d hd
  ·exact p.elim
 ·exact p.elim
theorem rZ {α β:Type} (f:α->β) (xs:List α) (i:Int):jG (xs.map f) i=(jG xs i).map f:=by
 unfold jG
 rw [List.length_map]
 cases rC xs.length i with
 | none=>rfl
 | some j=>simp
theorem r6 {G:Gx} {ds:List D} {vs:List V} {i:Int} {d:D} (r:aJ G θ H ds vs) (e:jG ds i=some d):∃ v,L2.jG vs i=some v/\cj G θ H d v:=by
 have hl:ds.length=vs.length:=Paired.length r
 unfold jG at e
 unfold L2.jG
 rw [<- hl]
 change (rC ds.length i).bind _=_ at e
 show ∃ v,(rC ds.length i).bind (fun j=>vs[j]?)=some v/\_
 cases hj:rC ds.length i with
 | none=>rw [hj] at e;cases e
 | some j=>
  rw [hj] at e
  exact aJ.some r e
theorem zU:FW X (EX X.G E zr):=by
 intro value slice pins s σ H x y v u Q I rx ry ⟨θ,h,d1,d2,w,r1,r2,p⟩ hs
 unfold zr at p
 split at p
 ·rename_i i
  have ey:=bD r2
  split at p
  ·rename_i ds
   split at p
   ·rename_i d he
    obtain ⟨a,us,rfl,ha,q1,q2⟩:=eP r1
    obtain ⟨z,e1,rz⟩:=r6 (i:=i) (d:=.dat d) q2 (by rw [rZ,he];rfl)
    exact Ew value slice pins s σ H _ y v u Q I rx ry ⟨a,us,i,z,rfl,ey,eZ.of (ay _ _ _ _ ha),e1,p.ig w rz⟩ hs
   ·exact p.elim
  ·rename_i ds
   split at p
   ·rename_i d he
    obtain ⟨a,us,rfl,ha,q1,q2⟩:=fq r1
    obtain ⟨z,e1,rz⟩:=r6 (i:=i) (d:=.dat d) q2 (by rw [rZ,he];rfl)
    exact rD value slice pins s σ H _ y v u Q I rx ry ⟨a,us,i,z,rfl,ey,gD.of (ay _ _ _ _ ha),e1,p.ig w rz⟩ hs
   ·exact p.elim
  ·rename_i j
   split at p
   ·rename_i xs hx
    split at p
    ·rename_i d he
     obtain ⟨a,ha,rfl⟩:=r1
     obtain ⟨vs,hv,rs⟩:=w.obj _ _ _ ha hx
     obtain ⟨z,e1,rz⟩:=r6 rs he
     exact rD value slice pins s σ H _ y v u Q I rx ry ⟨a,vs,i,z,rfl,ey,gD.of hv,e1,p.ig w rz⟩ hs
    ·exact p.elim
   ·exact p.elim
  ·rename_i ns
   split at p
   ·rename_i n he
    obtain ⟨a,rfl,hq⟩:=r1
    have e1:L2.jG (ns.map V.int) i=some (.int n):=by
     have:=rZ V.int ns i
     rw [he] at this
     exact this
    exact rD value slice pins s σ H _ y v u Q I rx ry ⟨a,_,i,_,rfl,ey,(ay _ _).seq hq,e1,p.ig w (cy _)⟩ hs
   ·exact p.elim
  ·exact p.elim
 ·exact p.elim
def lO (G:Gx) (E:XK) (m:Dv):TO:=fun σ H Q=>∃ θ h ρ,W G θ h H/\Fr G θ H ρ σ/\aD G (md G E) θ H (m ρ h) (fun o _ _ H'=>Q o H')
@[irreducible] def DO (X:Cx) (E:XK) (m:Dv) (e:Option Expr):Prop:=PO X e (lO X.G E m)
theorem zV (X:Cx) (E:XK) (m:Dv) (e:Option Expr):DO X E m e=(PO X e (lO X.G E m)):=by
 unfold DO
 rfl
theorem PO.imp {X:Cx} {e:Option Expr} {t t':TO} (h:PO X e t) (k:∀ σ H Q,t' σ H Q->t σ H Q):PO X e t':=fun pins s σ H Q I q=>h pins s σ H Q I (k _ _ _ q)
theorem xa:DO X E n8 none:=by
 simp only [zV] at *
 exact PO.imp BE fun σ H Q ⟨θ,h,ρ,w,fr,p⟩=>p θ H Ev.refl w
theorem xb (h:DE X E m e):DO X E (n9 m) (some e):=by
 simp only [bu,zV] at *
 exact PO.imp (BF h) fun σ H Q ⟨θ,h,ρ,w,fr,p⟩=>⟨θ,h,ρ,w,fr,(aD.bind p).mono fun d θ1 h1 H1 _ _ ⟨ev,w1,p1⟩ v r=>by
  split at p1
  ·exact ⟨_,bD r,p1 θ1 H1 Ev.refl w1⟩
  ·exact p1.elim⟩
theorem B8 {M:Hp} {ds:List PyData} {vs:List V} (r:aW M ds vs) (lo hi:Option Int):aW M (cut ds lo hi) (pR vs lo hi):=by
 unfold cut pR
 have e:vs.length=ds.length:=r.length
 rw [e]
 exact (r.drop _).take _
theorem B9 {α:Type} {xs:List α} {lo hi:Option Int} {x:α} (h:x∈cut xs lo hi):x∈xs:=List.mem_of_mem_drop (List.mem_of_mem_take h)
theorem tR {ds:List PyData} (h:bW ds=true) (lo hi:Option Int):bW (cut ds lo hi)=true:=bN.mpr fun d m=>bN.mp h d (B9 m)
def IP (G:Gx) (E:XK):V->Option Int->Option Int->Hp->VK->Prop:=fun x lo hi H Q=>∃ θ h d,W G θ h H/\cj G θ H d x/\aD G (md G E) θ H (BZ d lo hi h) (KV G Q)
theorem Ca:Gs X (IP X.G E):=by
 intro pins s σ H x v vl vu lo hi sl Q I rx hs pl pu ⟨θ,h,d,w,r,p⟩
 unfold BZ at p
 split at p
 ·rename_i ds
  refine BW pins s σ H x v vl vu lo hi sl Q I rx hs pl pu ⟨view θ H,ds,ay _ _,r.1,fun r' H' M' ex rr=>?_⟩
  obtain ⟨e1,w1,sm⟩:=tQ w ex
  exact p _ _ e1 w1 _ ⟨rr.same sm,by simp only [cI];exact tR (by simpa [cI] using r.2) lo hi⟩
 ·rename_i ds
  have so:bW ds=true:=by simpa [cI] using r.2
  obtain ⟨a,us,rfl,ha,q1,q2⟩:=fq r
  refine BH pins s σ H _ v vl vu lo hi sl Q I rx hs pl pu ⟨a,us,rfl,gD.of (ay _ _ _ _ ha),fun q hq=>?_⟩
  obtain ⟨e1,w1,g⟩:=w.put (o:=.lst (pR us lo hi)) hq
  exact p _ _ e1 w1 _ ⟨⟨q,_,rfl,g,(B8 q1 lo hi).same e1.same⟩,by simp only [cI];exact tR so lo hi⟩
 ·exact p.elim
theorem tS {lo hi:Option Expr} {ml mh:Dv} {p2:Pos} (he:DE X E m e) (hl:DO X E ml lo) (hu:DO X E mh hi):DE X E (EV m ml mh) (.Subscript e (.Slice lo hi none p2) pos):=by
 simp only [bu,zV] at *
 exact PE.imp (yZ Ca he hl hu) fun σ H Q ⟨θ,h,ρ,w,fr,p⟩=>⟨θ,h,ρ,w,fr,(aD.bind p).mono fun d θ1 h1 H1 _ _ ⟨ev,w1,p1⟩ v r=>
   ⟨θ1,h1,ρ,w1,fr.ev ev,(aD.bind p1).mono fun l θ2 h2 H2 _ _ ⟨ev2,w2,p2⟩=>⟨θ2,h2,ρ,w2,(fr.ev ev).ev ev2,(aD.bind p2).mono fun u θ3 h3 H3 _ _ ⟨ev3,w3,p3⟩=>⟨θ3,h3,d,w3,(r.ev ev2).ev ev3,p3⟩⟩⟩⟩
theorem f7:ku X E (.builtin "len") dX:=ku.of yW fun θ hm H ds xs Q w r p=>by
 unfold dX at p
 split at p
 ·split at p
  ·rename_i hz
   cases r with
   | cons r rr=>
    cases rr
    exact ⟨_,_,rfl,by rw [(eR r).1];exact ⟨cP hz,rfl⟩,p.ig w (cy _)⟩
  ·exact p.elim
 ·cases r with
  | cons r rr=>
   cases rr
   obtain ⟨a,us,rfl,ha,q1,_⟩:=eP r
   exact ⟨_,_,rfl,.inr ⟨us,eZ.of (ay _ _ _ _ ha),q1.length.symm⟩,p.ig w (cy _)⟩
 ·cases r with
  | cons r rr=>
   cases rr
   obtain ⟨a,us,rfl,ha,q1,_⟩:=fq r
   exact ⟨_,_,rfl,.inl ⟨us,gD.of (ay _ _ _ _ ha),q1.length.symm⟩,p.ig w (cy _)⟩
 ·rename_i i
  split at p
  ·rename_i ys hy
   cases r with
   | cons r rr=>
    cases rr
    obtain ⟨a,ha,rfl⟩:=r
    obtain ⟨vs,hv,rs⟩:=w.obj _ _ _ ha hy
    exact ⟨_,_,rfl,.inl ⟨vs,gD.of hv,Paired.length rs⟩,p.ig w (cy _)⟩
  ·exact p.elim
 ·rename_i ns
  cases r with
  | cons r rr=>
   cases rr
   obtain ⟨a,rfl,hq⟩:=r
   exact ⟨_,_,rfl,.inl ⟨_,(ay _ _).seq hq,by simp⟩,p.ig w (cy _)⟩
 ·exact p.elim
theorem j5 {M:Hp}:∀ {ds:List PyData} {vs:List V} {bs:List Bool},aW M ds vs->bools ds=some bs->vs=bs.map V.bl
 | [],_,bs,h,e=>by cases h;cases e;rfl
 | d::ds,_,bs,⟨v,vs,rfl,r,rs⟩,e=>by
  cases d with
  | bool b=>
   simp only [bools,Option.map_eq_some_iff] at e
   obtain ⟨bs',e1,e2⟩:=e
   subst e2
   rw [j5 rs e1,show v=V.bl b from r]
   rfl
  | _=>simp [bools] at e
theorem ll (hc:X.calm=true):ku X E (.builtin "all") iZ:=ku.of (zf hc) fun θ hm H ds xs Q w r p=>by
 unfold iZ at p
 split at p
 ·split at p
  ·rename_i bs hb
   cases r with
   | cons r rr=>
    cases rr
    obtain ⟨a,us,rfl,ha,q1,_⟩:=fq r
    rw [j5 q1 hb] at ha
    exact ⟨a,bs,rfl,gD.of (ay _ _ _ _ ha),p.ig w (b0 _)⟩
  ·exact p.elim
 ·exact p.elim
end
end Ml
namespace L2
open PySem PySem.Spec PyProof.Rows
section
variable {X:Cx}
theorem any_range (bs:List Bool):((List.range bs.length).any fun i=>(bs[i]?).getD true)=bs.any id:=by
 rw [Bool.eq_iff_iff,List.any_eq_true,List.any_eq_true]
 constructor
 ·rintro ⟨i,hi,h⟩
  have hi':=List.mem_range.mp hi
  simp only [hi',List.getElem?_eq_getElem,Option.getD_some] at h
  exact ⟨bs[i],List.getElem_mem hi',h⟩
 ·rintro ⟨b,hb,h⟩
  obtain ⟨i,hi,e⟩:=List.mem_iff_getElem.mp hb
  refine ⟨i,List.mem_range.mpr hi,?_⟩
  simp only [hi,List.getElem?_eq_getElem,Option.getD_some,e]
  exact h
theorem zW (hc:X.calm=true):cR X (.builtin "any") (fun xs H Q=>∃ (l:Addr) (bs:List Bool),xs=[.ref l]/\gD X.K H l (bs.map V.bl)/\Q (.bl (bs.any id)) H):=by
 intro pins s σ H vs us Q I r h
 obtain ⟨l,bs,rfl,hq,q⟩:=h
 cases r with
 | cons r rr=>
  cases rr
  cases r
  obtain ⟨its,rv,p,_⟩:=I.list hq
  have pl:=p.isList
  have hlt:l < s.heap.objs.size:=by obtain ⟨_,e,_⟩:=pl;exact Heap.lt_size e
  refine call_any_walk (wpAny_pyIter_list pl ?_)
  refine ⟨s.heap.objs.size,[s.heap.objs.size,l],[s.heap.objs.size],its.toArray.size,_,_,fun i=>(bs[i]?).getD true,rfl,Walks.list (A:=X.A.in1) (I.ok.hd hc) _ l (Nat.ne_of_lt hlt) its.toArray,⟨⟨_,Heap.get?_push_size _ rfl,rfl,rfl⟩,pl.push _⟩,fun i v s' Q' E' hP hQ=>?_,fun h' tk hk=>?_⟩
  ·have hP':its[i]?=some v:=by simpa using hP
   have hi:i < (bs.map V.bl).length:=by rw [rv.length];exact (List.getElem?_eq_some_iff.mp hP').1
   obtain ⟨u,hu,ru⟩:=rv.get (i:=i) (x:=(bs.map V.bl)[i]) (by simp [hi])
   rw [hP'] at hu
   cases hu
   rw [List.length_map] at hi
   simp only [List.getElem_map] at ru
   obtain rfl:v=Value.bool bs[i]:=ru
   have hQ':=hQ
   simp only [hi,List.getElem?_eq_getElem,Option.getD_some] at hQ'
   exact wpAny_truthy_bool hQ'
  ·have e:((List.range its.toArray.size).any fun i=>(bs[i]?).getD true)=bs.any id:=by
    rw [List.size_toArray,<- rv.length,List.length_map];exact any_range bs
   rw [e]
   exact ⟨.bl _,H,I.kept fun b o e=>hk b o (fun hm=>by rw [List.mem_singleton.mp hm] at e;exact Nat.lt_irrefl _ (Heap.lt_size e)) (Heap.get?_push_of_some _ e),rfl,q⟩
end
end L2
namespace Ml
open PySem PySem.Spec L2
section
variable {X:Cx} {E:XK} {k:Nat} {θ:List Addr} {hm:Hm} {H:Hp} {m:ME} {t:MT} {e e1 e2:Expr} {pos:Pos} {ma:MA}
theorem DB (hc:X.calm=true):ku X E (.builtin "any") qb:=ku.of (zW hc) fun θ hm H ds xs Q w r p=>by
 unfold qb at p
 split at p
 ·split at p
  ·rename_i bs hb
   cases r with
   | cons r rr=>
    cases rr
    obtain ⟨a,us,rfl,ha,q1,_⟩:=fq r
    rw [j5 q1 hb] at ha
    exact ⟨a,bs,rfl,gD.of (ay _ _ _ _ ha),p.ig w (b0 _)⟩
  ·exact p.elim
 ·exact p.elim
theorem Fb {T:Str} {n:String} {f:PyData->Bool} (kit:∀ d,PySem.W.kitOne X.K (.type (GC d)) (.type n)=some (f d)) (bt:bootBuiltins T=some (.type n)) (m1:X.mg "isinstance" = none) (m2:X.mg T=none) (h:DE X E m e) {p p2:Pos} (g1:Gl X "isinstance" := by rfl) (g2:Gl X T:=by rfl) (hT:T ≠ "__name__" := by decide) (hT2:(T == ("__debug__" : Str))=false:=by decide)
  (hs:starEach [e,.Name T p2] X.env=(false,eval e X.env)::starEach [.Name T p2] X.env:=by rfl) (hs2:starEach [.Name T p2] X.env=[(false,eval (.Name T p2) X.env)]:=by rfl) (hpl:(backTo pos (starEach [.Name T p2] X.env)).any (·.1)=false:=by rfl):DE X E (Bc (qc f) m) (.Call (.Name "isinstance" p) [e,.Name T p2] [] pos):=by
 simp only [bu] at *
 exact PE.imp (sX zg g1 m1 pV (kB h (kB (Bm (v:=.ty n) g2 m2 bt rfl hT hT2) rA hs2) hs) (by decide) (by decide) hs hpl) fun σ H Q ⟨θ,h,ρ,w,fr,p⟩=>⟨θ,h,ρ,w,fr,(aD.bind p).mono fun d θ1 h1 H1 _ _ ⟨ev,w1,p1⟩ v r=>by
   cases d with
   | dat d=>exact ⟨v,n,_,f d,rfl,(r.1.same (ay _ _)).ty,kit d,p1.ig w1 (b0 _)⟩
   | _=>exact p1.elim⟩
theorem oK {M:Hp} (x:Str):∀ (l:List Nat),aW M (l.map fun i=>.str ⟨#[x.cps.getD i 0]⟩) (l.map (sgn x))
 | []=>rfl
 | i::l=>.cons rfl (oK x l)
theorem zX {x:Str} (h:PyData.strOk x=true):bW (fX x)=true:=bN.mpr fun d m=>by
 obtain ⟨i,_,rfl⟩:=List.mem_map.mp m
 simp only [cI]
 exact wX h
theorem r9 (hc:X.calm=true):ku X E (.type "tuple") fF:=ku.of (cR.or pT (tD hc)) fun θ hm H ds xs Q w r p=>by
 unfold fF at p
 split at p
 ·cases r with
  | cons r rr=>
   cases rr
   obtain ⟨a,us,e,ha,q1,_⟩:=eP r
   subst e
   exact .inl ⟨a,us,rfl,.inr ⟨eZ.of (ay _ _ _ _ ha),p.ig w r⟩⟩
 ·split at p
  ·rename_i s hz
   cases r with
   | cons r rr=>
    cases rr
    obtain ⟨e1,s1⟩:=eR r
    subst e1
    refine .inr ⟨s,rfl,cP hz,fun q hq=>?_⟩
    obtain ⟨e1,w1,g⟩:=w.put (o:=.tup ((List.range s.cps.size).map (sgn s))) hq
    exact p _ _ e1 w1 _ ⟨⟨q,_,rfl,g,oK s _⟩,by simp only [cI];exact zX s1⟩
  ·exact p.elim
 ·split at p
  ·rename_i ds hy
   cases r with
   | cons r rr=>
    cases rr
    obtain ⟨a,vs,rfl,ha,rp,so⟩:=nA w r hy
    refine .inl ⟨a,vs,rfl,.inl ⟨gD.of ha,fun q hq=>?_⟩⟩
    obtain ⟨e1,w1,g⟩:=w.put (o:=.tup vs) hq
    exact p _ _ e1 w1 _ ⟨⟨q,_,rfl,g,rp.same e1.same⟩,by simpa [cI] using so⟩
  ·exact p.elim
 ·exact p.elim
theorem Cb:ku X E (.type "list") rO:=ku.of rF fun θ hm H ds xs Q w r p=>by
 unfold rO at p
 split at p
 ·cases r with
  | cons r rr=>
   cases rr
   have so:=r.2
   obtain ⟨a,us,e,ha,q1,_⟩:=eP r
   subst e
   refine ⟨a,us,rfl,.inr (eZ.of (ay _ _ _ _ ha)),fun q hq=>?_⟩
   obtain ⟨e1,w1,g⟩:=w.put (o:=.lst us) hq
   exact p _ _ e1 w1 _ ⟨⟨q,_,rfl,g,q1.same e1.same⟩,by simpa [cI] using so⟩
 ·split at p
  ·rename_i ds hy
   cases r with
   | cons r rr=>
    cases rr
    obtain ⟨a,vs,rfl,ha,rp,so⟩:=nA w r hy
    refine ⟨a,vs,rfl,.inl (gD.of ha),fun q hq=>?_⟩
    obtain ⟨e1,w1,g⟩:=w.put (o:=.lst vs) hq
    exact p _ _ e1 w1 _ ⟨⟨q,_,rfl,g,rp.same e1.same⟩,by simpa [cI] using so⟩
  ·exact p.elim
 ·exact p.elim
theorem zY:ku X E (.builtin "divmod") nv:=ku.of sV fun θ hm H ds xs Q w r p=>by
 unfold nv at p
 split at p
 ·split at p
  ·rename_i i j hj
   cases r with
   | cons r1 rr=>
    cases rr with
    | cons r2 rr=>
     cases rr
     cases bD r1
     cases bD r2
     refine ⟨i,j,rfl,hj,fun q hq=>?_⟩
     obtain ⟨e1,w1,g⟩:=w.put (o:=.tup [.int (i / j),.int (i % j)]) hq
     exact p _ _ e1 w1 _ ⟨⟨q,_,rfl,g,.cons rfl (.one rfl)⟩,by simp [cI,bW]⟩
  ·exact p.elim
 ·exact p.elim
theorem GL:ku X E (.builtin "abs") B0:=ku.of yV fun θ hm H ds xs Q w r p=>by
 unfold B0 at p
 split at p
 ·cases r with
  | cons r1 rr=>
   cases rr
   cases bD r1
   exact ⟨_,rfl,p.ig w (cy _)⟩
 ·exact p.elim
theorem GN (hc:X.calm=true):ku X E (.builtin "max") zu:=ku.of (xQ hc) fun θ hm H ds xs Q w r p=>by
 unfold zu at p
 split at p
 ·cases r with
  | cons r1 rr=>
   cases rr with
   | cons r2 rr=>
    cases rr
    cases bD r1
    cases bD r2
    exact ⟨_,_,rfl,p.ig w (cy _)⟩
 ·exact p.elim
theorem GO (hc:X.calm=true):ku X E (.builtin "min") zv:=ku.of (xR hc) fun θ hm H ds xs Q w r p=>by
 unfold zv at p
 split at p
 ·cases r with
  | cons r1 rr=>
   cases rr with
   | cons r2 rr=>
    cases rr
    cases bD r1
    cases bD r2
    exact ⟨_,_,rfl,p.ig w (cy _)⟩
 ·exact p.elim
theorem GP:ku X E (.type "int") tJ:=ku.of xS fun θ hm H ds xs Q w r p=>by
 unfold tJ at p
 split at p
 ·cases r with
  | cons r1 rr=>
   cases rr
   cases bD r1
   exact .inl ⟨_,rfl,p.ig w (cy _)⟩
 ·cases r with
  | cons r1 rr=>
   cases rr
   obtain ⟨e1,_⟩:=r1
   cases e1
   exact .inr ⟨_,rfl,p.ig w (cy _)⟩
 ·exact p.elim
theorem mv (hr:df k X.A):ku X E (.builtin "repr") fM:=by
 intro pins s σ H xs us Q I r ⟨θ,h,ds,w,rs,p⟩
 unfold fM at p
 split at p
 ·rename_i x
  cases rs with
  | cons r1 rr=>
   cases rr
   cases r with
   | cons rv rr=>
    cases rr
    rename_i v u
    split at p
    ·rename_i d hd
     obtain ⟨⟨as,z⟩,so⟩:=eQ I w 3 r1 rv hd
     split at p
     ·rename_i ok
      have fin:∀ (h':Heap) (tk:Tok) (t':Nat),(∀ b o,s.heap.get? b=some o->h'.get? b=some o)->EP X pins σ Q (.str d.shown tk) {s with heap:=h',toks:=t'}:=fun h' tk t' hk=>⟨.str d.shown,H,I.kept hk,⟨_,rfl⟩,p.ig w rfl⟩
      have fin0:∀ (tk:Tok) (t':Nat),EP X pins σ Q (.str d.shown tk) {s with toks:=t'}:=fun tk t'=>⟨.str d.shown,H,I.tok _,⟨_,rfl⟩,p.ig w rfl⟩
      simp only [Bool.or_eq_true] at ok
      rcases ok with ok | ok
      rotate_left
      ·unfold zt at ok
       split at ok
       ·rename_i kvs
        simp only [Bool.and_eq_true,decide_eq_true_eq] at ok
        cases x with
        | dat d'=>
         simp only [kM,kN,Option.some.injEq] at hd
         subst hd
         exact vk hr pins s σ H [v] [u] Q I (.cons rv .nil) ⟨kvs,v,rfl,r1.1.same (ay _ _),ok.1.1,ok.1.2,cP ok.2,p.ig w rfl⟩
        | ref i=>
         simp only [kM,qa] at hd
         split at hd
         ·simp only [Option.map_eq_some_iff] at hd
          obtain ⟨_,_,z⟩:=hd
          cases z
         ·cases hd
        | ktup xs=>simp [kM,qa] at hd
        | _=>simp [kM,qa] at hd
       ·cases ok
      have hsz:d.shown.length<=sizeLine/\d.showable=true/\d.depth<=40:=by
       simp only [tI,Bool.and_eq_true,decide_eq_true_eq] at ok
       exact ⟨cP ok.2,ok.1.1.1,ok.1.2⟩
      have hn:∀ {as:List Addr},(d.hasDict=true->sysModules∉as):=fun {as} hd=>by
       simp only [tI,noDict,Bool.and_eq_true,Bool.not_eq_true'] at ok
       rw [ok.1.1.2] at hd
       cases hd
      cases z with
      | none=>exact PySem.P.repr_of_none (by simpa [PyData.shown] using fin0 _ _)
      | bool b=>exact PySem.P.repr_of_bool (by simpa [PyData.shown] using fin0 _ _)
      | int i t=>exact PySem.P.repr_of_int (by simpa [PyData.showable] using hsz.2.1) (by simpa [PyData.shown] using fin0 _ _)
      | str x t=>exact PySem.P.repr_of_str (by simpa [PyData.shown] using fin0 _ _) (by simpa [PyData.shown] using hsz.1)
      | list h1 h2 h3 h4=>exact repr_of_reads' (.list h1 h2 h3 h4) hsz.2.1 hn hr.gd (by have:=hr.units;omega) (fun _ _ e=>e) (fun h' t tk hk=>fin h' t tk hk) hsz.1
      | tuple h1 h2 h3 h4=>exact repr_of_reads' (.tuple h1 h2 h3 h4) hsz.2.1 hn hr.gd (by have:=hr.units;omega) (fun _ _ e=>e) (fun h' t tk hk=>fin h' t tk hk) hsz.1
      | dict h1 h2 h3 h4 h5=>exact repr_of_reads' (.dict h1 h2 h3 h4 h5) hsz.2.1 hn hr.gd (by have:=hr.units;omega) (fun _ _ e=>e) (fun h' t tk hk=>fin h' t tk hk) hsz.1
     ·exact p.elim
    ·exact p.elim
 ·exact p.elim
end
end Ml
namespace Ml
open PySem PySem.Spec L2
section
variable {X:Cx} {E:XK} {k:Nat} {θ:List Addr} {hm:Hm} {H:Hp} {m ma' mb:ME} {t:MT} {e e1 e2 o i:Expr} {es:List Expr} {pos:Pos} {ma:MA} {x:Str}
theorem dy (n:Nat) {d:PyData} (h:Lit n e d) (s:cI d=true):DE X E (ag d) e:=by
 simp only [bu] at *
 exact PE.imp (ER n h) fun σ H Q ⟨θ,hm,ρ,w,fr,p⟩ r H' N s1 nw rp=>by
   obtain ⟨e1,w1⟩:=w.grow s1
   refine p _ _ e1 w1 _ ⟨rp.same fun c o q=>?_,s⟩
   have nb:c∉θ:=w.zC (nw c o q).1
   rw [dj nb]
   exact (nw c o q).2
theorem nB {n:Int} {p:Pos} (hm:∃ t,X.mg x=some (.int n t)) (hg:Gl X x:=by rfl) (hd:(x == ("__debug__" : Str))=false:=by decide):DE X E (ag (.int n)) (.Name x p):=by
 obtain ⟨t,hm⟩:=hm
 exact zE (wd (v:=.int n) hg hm ⟨t,rfl⟩ hd) (fun _=>rfl) (by simp [cI])
def FZ (xs:List PyData):ME:=fun _ h=>.ok (.ktup xs) h
theorem xc {xs:List PyData} {p:Pos} (hm:∃ a,X.mg x=some (.ref a)/\zA X.K a xs) (hg:Gl X x:=by rfl) (hd:(x == ("__debug__" : Str))=false:=by decide):DE X E (FZ xs) (.Name x p):=by
 simp only [bu] at *
 obtain ⟨a,hm,kt⟩:=hm
 exact PE.imp (wd (v:=.ref a) hg hm rfl hd) fun σ H Q ⟨θ,hm,ρ,w,fr,p⟩=>p.ig w ⟨a,rfl,kt⟩
theorem Cc {G:Gx} {xs:List PyData} {a:Addr} (kt:zA G.K a xs):mL G θ H (xs.map D.dat) (Hg G.K a):=fun θ' h' H' ev w=>by
 obtain ⟨⟨o,its,n,hl,hc,hd,hz,rv⟩,fl,so⟩:=kt
 have q:eZ G.K H' a (xs.map Dx):=.inr ⟨o,its,n,hl,hc,hd,hz,rv⟩
 refine ⟨fun i d e=>?_,⟨_,q,by simp⟩⟩
 rw [List.getElem?_map,Option.map_eq_some_iff] at e
 obtain ⟨y,ey,rfl⟩:=e
 refine ⟨⟨_,Dx y,q,by simp [ey]⟩,fun x H2 ⟨e2,z⟩=>?_⟩
 subst e2
 have:=z _ q
 rw [List.getElem?_map,ey] at this
 cases this
 have hy:=fl y (List.mem_of_getElem? ey)
 refine ⟨Ev.refl,w,?_,lb so ey⟩
 cases y with
 | none=>rfl
 | bool b=>rfl
 | int i=>rfl
 | str x=>rfl
 | _=>simp at hy
def GQ (e:ME):MA:=fun ρ h=>(e ρ h).bind fun x h1=>match x with
 | .ktup xs=>.ok (xs.map D.dat) h1
 | _=>.bad
theorem Cd {tg:Expr} (h:DE X E m e):DI X E (GQ m) tg e:=by
 simp only [bu,gS] at *
 exact PI.imp (yP h) fun σ H R ⟨θ,h,ρ,w,fr,p⟩=>⟨θ,h,ρ,w,fr,(aD.bind p).mono fun d θ1 h1 H1 _ _ ⟨ev,w1,p1⟩ v r=>by
   cases d with
   | ktup xs=>
    obtain ⟨a,e,kt⟩:=r
    exact ⟨a,e,⟨_,.inr kt.1⟩,p1 θ1 H1 Ev.refl w1 _ (Cc kt)⟩
   | _=>exact p1.elim⟩
def Ho (x:D) (h:Hm):Bool:=match x with
 | .ref j=>match h[j]? with
  | some (.lst _)=>true
  | _=>false
 | _=>false
def zZ (f:D->D->Hm->R D) (a b:ME):ME:=fun ρ h=>(a ρ h).bind fun x h1=>if Ho x h1 then (b ρ h1).bind fun y h2=>f x y h2 else .bad
theorem Ce {x:D} {h:Hm} (e:Ho x h=true):∃ j xs,x=.ref j/\h[j]?=some (.lst xs):=by
 unfold Ho at e
 split at e
 ·rename_i j
  split at e
  ·rename_i xs hx
   exact ⟨j,xs,rfl,hx⟩
  ·cases e
 ·cases e
theorem nC {G:Gx} {j:Nat} {xs:List D} {v:V} (w:W G θ hm H) (r:cj G θ H (.ref j) v) (e:hm[j]?=some (.lst xs)):∃ a vs,v=.ref a/\θ[j]?=some a/\H a=some (.lst vs)/\aJ G θ H xs vs:=by
 obtain ⟨a,ha,rfl⟩:=r
 obtain ⟨vs,hv,rs⟩:=w.obj _ _ _ ha e
 exact ⟨a,vs,rfl,ha,hv,rs⟩
theorem aJ.GR {G:Gx} {d:D} {v:V} (q:cj G θ H d v):∀ {xs:List D} {vs:List V} (n:Nat),aJ G θ H xs vs->aJ G θ H (xs.set n d) (vs.set n v)
 | _,_,_,.nil=>.nil
 | _,_,0,.cons _ t=>.cons q t
 | _,_,n+1,.cons r t=>.cons r (aJ.GR q n t)
theorem W.Aa {G:Gx} {j:Nat} {a:Addr} {xs:List D} {vs:List V} (w:W G θ hm H) (ha:θ[j]?=some a) (hl:j < hm.length) (r:aJ G θ H xs vs):Ev θ H θ (upd H a (.lst vs))/\W G θ (hm.set j (.lst xs)) (upd H a (.lst vs)):=by
 have hmm:a∈θ:=List.mem_of_getElem? ha
 have e:Ev θ H θ (upd H a (.lst vs)):=⟨⟨[],by simp⟩,fun b u q=>by
  obtain ⟨h1,h2⟩:=cS q
  have ne:b≠a:=fun z=>by subst z;exact h1 hmm
  rw [dj h1,aC ne]
  exact h2⟩
 exact w.write ha hl ⟨vs,bo,r.ev e⟩
theorem gT {α:Type} {xs:List α} {i:Nat} {x:α} (h:xs[i]?=some x):i < xs.length:=(List.getElem?_eq_some_iff.mp h).1
theorem Fc {G:Gx} {K:PySem.W.Frag} {f:D->D->Hm->R D} {r:V->List V->Hp->VK->Prop} {σ:L2.St} {H:Hp} {Q:VK} (h:lE G E (zZ f ma' mb) σ H Q) (k:∀ θ h H d1 d2 x y,W G θ h H->cj G θ H d1 x->cj G θ H d2 y->aD G (md G E) θ H (f d1 d2 h) (KV G Q)->r x [y] H Q) :
  JH K "list" r (lE G E ma') (Dj (lE G E mb) Gp) σ H Q:=by
 obtain ⟨θ,h,ρ,w,fr,p⟩:=h
 refine ⟨θ,h,ρ,w,fr,(aD.bind p).mono fun d θ1 h1 H1 _ _ ⟨ev,w1,p1⟩ v r1=>?_⟩
 split at p1
 ·rename_i hl
  obtain ⟨j,xs,rfl,hx⟩:=Ce hl
  obtain ⟨a,vs,rfl,ha,hv,rs⟩:=nC w1 r1 hx
  exact ⟨.inl ⟨rfl,_,gD.of hv⟩,θ1,h1,ρ,w1,fr.ev ev,(aD.bind p1).mono fun d2 θ2 h2 H2 _ _ ⟨ev2,w2,p2⟩ y r2=>k θ2 h2 H2 _ d2 _ y w2 (r1.ev ev2) r2 p2⟩
 ·exact p1.elim
theorem yl {apos cpos:Pos} (ho:DE X E ma' o) (ha:DE X E mb e) (hbase:attributeBase o "append" X.env (eval o X.env)=eval o X.env:=by rfl)
  (hfew:((backTo cpos (starEach [e] X.env)).all (fun x=>!x.1) && (backToKw cpos (keywordEach [] X.env)).all (fun x=>x.1.isSome) && decide ([e].length+([]:List Keyword).length+(if ([]:List Keyword).isEmpty then 0 else 1) < 30))=true:=by rfl)
  (hline:(apos.endLine == cpos.line)=true:=by rfl) (hs:starEach [e] X.env=(false,eval e X.env)::starEach [] X.env:=by rfl) (hplain:(backTo cpos (starEach [] X.env)).any (·.1)=false:=by rfl):DE X E (zZ kQ ma' mb) (.Call (.Attribute o "append" apos) [e] [] cpos):=by
 simp only [bu] at *
 exact PE.imp (Gw PySem.F.plainAttrs_list PySem.F.slot_list_append PySem.F.type_list_append xX ho (kB ha rA hs) hbase hfew hline hs hplain) fun σ H Q q=>Fc q fun θ h H d1 d2 x y w r1 r2 p=>by
   unfold kQ at p
   split at p
   ·rename_i j
    split at p
    ·rename_i xs hx
     split at p
     ·rename_i hz
      obtain ⟨a,vs,rfl,ha,hv,rs⟩:=nC w r1 hx
      have hl:xs.length=vs.length:=Paired.length rs
      obtain ⟨e1,w1⟩:=w.Aa ha (gT hx) (dN rs (.cons r2 .nil))
      exact ⟨a,vs,y,rfl,rfl,hv,by rw [<- hl,PySem.sizeLine_eq];exact of_decide_eq_true hz,p _ _ e1 w1 _ yf⟩
     ·exact p.elim
    ·exact p.elim
   ·exact p.elim
theorem ym {G:Gx} {F:XP} {d1 d2 d:D} {x y v:V} {Q:Hp->Prop} (w:W G θ hm H) (r1:cj G θ H d1 x) (r2:cj G θ H d2 y) (rd:cj G θ H d v) (p:aD G F θ H (wK d1 d2 d hm) (fun _ _ _ H'=>Q H')):Dm x y v H Q:=by
 cases d1 with
 | ref j=>
  cases d2 with
  | dat dd=>
   cases dd with
   | int kk=>
    simp only [wK] at p
    cases hx:hm[j]? with
    | none=>rw [hx] at p;exact p.elim
    | some oo=>
     rw [hx] at p
     cases oo with
     | lst xs=>
      simp only at p
      cases hn:rC xs.length kk with
      | none=>rw [hn] at p;exact p.elim
      | some n=>
       rw [hn] at p
       obtain ⟨a,vs,rfl,ha,hv,rs⟩:=nC w r1 hx
       have hl:xs.length=vs.length:=Paired.length rs
       obtain ⟨e1,w3⟩:=w.Aa ha (gT hx) (aJ.GR rd n rs)
       exact ⟨a,vs,kk,n,rfl,bD r2,hv,by rw [<- hl];exact hn,p _ _ e1 w3⟩
     | _=>exact p.elim
   | _=>exact p.elim
  | _=>exact p.elim
 | _=>exact p.elim
theorem xf {α β:Type} {xs:List α} {ys:List β} (h:xs.length=ys.length):(!xs.isEmpty)=!ys.isEmpty:=by
 cases xs<;>cases ys<;>simp_all
theorem oM {G:Gx} {d:D} {v:V} {b:Bool} (w:W G θ hm H) (r:cj G θ H d v) (e:truth d hm=some b):Ep G.K v H b:=by
 unfold truth at e
 split at e
 ·cases e;cases r.1;rfl
 ·cases e;cases r.1;rfl
 ·cases e;cases r.1;rfl
 ·split at e
  ·rename_i hz;cases e;cases r.1;exact ⟨cP hz,rfl⟩
  ·cases e
 ·cases e
  obtain ⟨a,us,rfl,ha,q1,_⟩:=eP r
  exact .inr (.inl ⟨us,eZ.of (ay _ _ _ _ ha),xf q1.length.symm⟩)
 ·cases e
  obtain ⟨a,us,rfl,ha,q1,_⟩:=fq r
  exact .inl ⟨us,gD.of (ay _ _ _ _ ha),xf q1.length.symm⟩
 ·split at e
  ·rename_i xs hx
   cases e
   obtain ⟨a,vs,rfl,ha,hv,rs⟩:=nC w r hx
   refine .inl ⟨vs,gD.of hv,?_⟩
   cases rs<;>rfl
  ·cases e
 ·cases e
theorem cz (h:DE X E m e) (he:∀ whole,isTrue e X.env whole=(do let v <- whole;standAt e.pos;holding [v] (truthy v)):=by intro _;rfl):DT X E (bL m) e:=by
 simp only [bu,iH] at *
 exact PT.imp (yU h he) fun σ H Q ⟨θ,h,ρ,w,fr,p⟩=>⟨θ,h,ρ,w,fr,(aD.bind p).mono fun d θ1 h1 H1 _ _ ⟨ev,w1,p1⟩ v r=>by
   split at p1
   ·rename_i b hb
    exact ⟨b,oM w1 r hb,p1 θ1 H1 Ev.refl w1⟩
   ·exact p1.elim⟩
def oN:D->Option PyData
 | .dat .none=>some .none
 | .dat (.bool b)=>some (.bool b)
 | _=>none
def IQ:PyData->PyData->Bool
 | .none,.none=>true
 | .bool a,.bool b=>a == b
 | _,_=>false
def oO (x y:D) (h:Hm):R D:=match oN y with
 | some e=>match x with
  | .dat d=>.ok (.bool !(IQ d e)) h
  | _=>.bad
 | none=>.bad
theorem Fd {d e:PyData} {v u:V} {a b:Value} {M:Hp} (re:oN (.dat e)=some e) (r1:Rep M d v) (r2:Rep M e u) (ra:RelV v a) (rb:RelV u b):(a == b)=IQ d e/\PySem.plainIs a b=true:=by
 cases e with
 | none=>
  cases r2
  cases rb
  cases d with
  | none=>cases r1;cases ra;exact ⟨by decide,by decide⟩
  | bool c=>cases r1;cases ra;cases c<;>exact ⟨by decide,by decide⟩
  | int c=>cases r1;obtain ⟨t,rfl⟩:=ra;exact ⟨rfl,rfl⟩
  | str c=>cases r1;obtain ⟨t,rfl⟩:=ra;exact ⟨rfl,rfl⟩
  | list c=>obtain ⟨x,_,rfl,_⟩:=r1;cases ra;exact ⟨rfl,rfl⟩
  | tuple c=>obtain ⟨x,_,rfl,_⟩:=r1;cases ra;exact ⟨rfl,rfl⟩
  | dict c=>obtain ⟨x,_,rfl,_⟩:=r1;cases ra;exact ⟨rfl,rfl⟩
 | bool f=>
  cases r2
  cases rb
  cases d with
  | none=>cases r1;cases ra;cases f<;>exact ⟨by decide,by decide⟩
  | bool c=>cases r1;cases ra;cases c<;>cases f<;>exact ⟨by decide,by decide⟩
  | int c=>cases r1;obtain ⟨t,rfl⟩:=ra;exact ⟨rfl,rfl⟩
  | str c=>cases r1;obtain ⟨t,rfl⟩:=ra;exact ⟨rfl,rfl⟩
  | list c=>obtain ⟨x,_,rfl,_⟩:=r1;cases ra;exact ⟨rfl,rfl⟩
  | tuple c=>obtain ⟨x,_,rfl,_⟩:=r1;cases ra;exact ⟨rfl,rfl⟩
  | dict c=>obtain ⟨x,_,rfl,_⟩:=r1;cases ra;exact ⟨rfl,rfl⟩
 | _=>simp [oN] at re
theorem Cf:kq X E (compareOp .IsNot) oO:=by
 intro pins s σ H x y v u Q I rx ry ⟨θ,h,d1,d2,w,r1,r2,p⟩
 unfold oO at p
 split at p
 ·rename_i e he
  split at p
  ·rename_i d
   have:d2=.dat e:=by unfold oN at he;split at he<;>cases he<;>rfl
   subst this
   obtain ⟨q1,q2⟩:=Fd he r1.1 r2.1 rx ry
   exact PySem.wpAny_isNot_plain q2 (by rw [q1];exact ⟨.bl _,H,I,rfl,p.ig w (b0 _)⟩)
  ·exact p.elim
 ·exact p.elim
theorem Ab (hr:df k X.A) {pins:List (Addr×Obj)} {s:Shared} {σ:L2.St} {H:Hp} {x y:V} {v u:Value} {Q:VK} {θ:List Addr} {h:Hm} {d1 d2:D} {b:Bool} (I:Inv X pins σ H s) (rx:RelV x v) (ry:RelV y u) (w:W X.G θ h H) (r1:cj X.G θ H d1 x) (r2:cj X.G θ H d2 y) (hb:gr d1 d2 h=some b) :
  (Q (.bl b) H->wpAny (model X.prog X.w) X.A (compareOp .In v u) (EP X pins σ Q) X.xe s)/\(Q (.bl !b) H->wpAny (model X.prog X.w) X.A (compareOp .NotIn v u) (EP X pins σ Q) X.xe s):=by
 unfold gr at hb
 split at hb
 ·split at hb
  ·cases hb
   exact ⟨fun q=>xP pins s σ H x y v u Q I rx ry ⟨_,_,(eR r1).1,(eR r2).1,q⟩,fun q=>rn pins s σ H x y v u Q I rx ry ⟨_,_,(eR r1).1,(eR r2).1,q⟩⟩
  ·cases hb
 ·split at hb
  ·rename_i d ds e1 e2
   obtain ⟨⟨as,z1⟩,s1⟩:=eQ I w 3 r1 rx e1
   obtain ⟨⟨bs,z2⟩,s2⟩:=eQ I w 3 r2 ry e2
   exact zP hr (.inl rfl) I z1 z2 s1 (by simpa [cI] using s2) hb
  ·rename_i d ds e1 e2
   obtain ⟨⟨as,z1⟩,s1⟩:=eQ I w 3 r1 rx e1
   obtain ⟨⟨bs,z2⟩,s2⟩:=eQ I w 3 r2 ry e2
   exact zP hr (.inr rfl) I z1 z2 s1 (by simpa [cI] using s2) hb
  ·cases hb
end
end Ml
namespace PySem
open Sem (wp)
def Heap.dR (h:Heap) (d:Addr) (es:Array DictEntry) (ep:Nat):Prop:=∃ o,h.get? d=some o/\o.ExactDict/\o.data=.dict es ep
theorem Heap.dR.typeIs {s:Shared} {d:Addr} {es:Array DictEntry} {ep:Nat} (x:s.heap.dR d es ep):s.TypeIs (.ref d) "dict" := let ⟨o,ho,hc,_⟩:=x;⟨o,ho,hc.1⟩
theorem Heap.dR.at {h h':Heap} {d:Addr} {es:Array DictEntry} {ep:Nat} (x:h.dR d es ep) (e:∀ o,h.get? d=some o->h'.get? d=some o):h'.dR d es ep:=let ⟨o,ho,r⟩:=x;⟨o,e _ ho,r⟩
section
variable {prog:Program} {w:World} {A:Around} {E:Value->Shared->Prop} {s:Shared} {d it:Addr} {es:Array DictEntry} {ep i:Nat}
theorem Ac {Q:Value->Shared->Prop} (hd:(d == sysModules)=false) (hm:s.heap.dR d es ep)
  (hQ:Q (.ref s.heap.objs.size) {s with heap:=s.heap.push {cls:=.type "dict_keyiterator",data:=.fields #[.ref d,.int 0 0,.int es.size 0,.int ep 0]}}):wpAny (model prog w) A (pyIter (.ref d)) Q E s:=by
 have hT:=hm.typeIs
 obtain ⟨o,ho,hc,hdat⟩:=hm
 refine wpAny_pyIter_slot hT F.slot_dict_iter (wpAny_call_entry F.slot_dict_iter hT F.entry_dict_iter ?_ (F.args_dict_iter_1 _))
 unfold Builtin.«dict.__iter__»
 refine wpAny_bind ?_
 unfold Builtin.Dict.dictSlotNone
 refine wpAny_bind (wpAny_notOrdered_dict hT ?_)
 show wpAny _ _ (pure (Value.ref d)) _ _ s
 refine wpAny_pure ?_
 show wpAny _ _ (Builtin.Dict.showsAll d >>= _) _ _ s
 unfold Builtin.Dict.showsAll
 rw [if_neg (by rw [hd];exact Bool.false_ne_true)]
 refine wpAny_bind (wpAny_pure ?_)
 refine wpAny_bind (wpAny_dictEntries ho hdat ?_)
 refine wpAny_bind (wpAny_dictEpoch ho hdat ?_)
 refine wpAny_bind (wpAny_newObj_type (wpAny_pure ⟨_,rfl, "dict_keyiterator",_,⟨_,Heap.get?_push_size _ rfl,rfl⟩,F.slot_dict_keyiterator_next.lookup,?_⟩))
 simpa [rawInt] using hQ
theorem Ad {Q:Option Value->Shared->Prop} (hit:s.heap.IsKeyIter it d i es.size ep) (hm:s.heap.dR d es ep) (hlt:i < es.size)
  (hQ:∀ h',h'.IsKeyIter it d (i+1) es.size ep->Heap.SameBut it s.heap h'->Q (some es[i].key) {s with heap:=h'}):wpAny (model prog w) A (pyNext (.ref it)) Q E s:=by
 obtain ⟨o,ho,hc,hd⟩:=id hit
 obtain ⟨od,hod,hcd,hdd⟩:=id hm
 unfold pyNext
 refine wpAny_bind (wpAny_attempt (wpAny_callSpecial?_slot (name:=Str.ofString "__next__") hit.typeIs F.slot_dict_keyiterator_next
  (wpAny_call_entry F.slot_dict_keyiterator_next hit.typeIs F.entry_dict_keyiterator_next ?_ (F.args_dict_keyiterator_next_1 _))))
 refine wpAny_bind (wpAny_pure ?_)
 refine wpAny_bind ?_
 refine wpAny_bind ?_
 first | refine wpAny_bind (wpAny_typeNameOfWhole_keyiter hit.typeIs (wpAny_pure ?_)) | refine wpAny_bind (wpAny_typeNameOf_keyiter hit.typeIs (wpAny_pure ?_))
 refine wpAny_bind (wpAny_fieldsOf ho hd ?_)
 have hown:Builtin.Dict_items.ownsTuple "dict_keyiterator" = false:=by decide
 simp only [hown,Bool.false_eq_true,if_false]
 show wpAny _ _ (if (Value.ref d == Value.none)=true then _ else _) _ _ s
 rw [if_neg (show ¬ ((Value.ref d == Value.none)=true) from Bool.false_ne_true)]
 refine wpAny_bind (wpAny_pure ?_)
 refine wpAny_bind (wpAny_dictEntries hod hdd ?_)
 rw [if_neg (by simp)]
 refine wpAny_bind (wpAny_pure ?_)
 refine wpAny_bind (wpAny_dictEpoch hod hdd ?_)
 rw [if_neg (by simp)]
 refine wpAny_pure ?_
 simp only [show ¬ ((i:Int) < 0) from by omega,if_false,Int.toNat_natCast,Array.getElem?_eq_getElem hlt]
 refine wpAny_bind ?_
 first | refine wpAny_bind (wpAny_typeNameOfWhole_keyiter hit.typeIs (wpAny_pure ?_)) | refine wpAny_bind (wpAny_typeNameOf_keyiter hit.typeIs (wpAny_pure ?_))
 refine wpAny_bind (wpAny_isOneOf_keyiter hit.typeIs ?_)
 show wpAny _ _ (setField (.ref it) 1 (rawInt ((i:Int)+1)) >>= _) _ _ s
 refine wpAny_bind (wpAny_setField ho hd (by simp) ?_)
 have hit':(s.heap.update it (Obj.mapFields (·.setIfInBounds 1 (rawInt ((i:Int)+1))))).IsKeyIter it d (i+1) es.size ep:=
  ⟨_,Heap.get?_update_self _ ho (Obj.isFreed_of_fields (Obj.data_mapFields hd _)),(Obj.cls_mapFields ..).trans hc,by rw [Obj.data_mapFields hd];simp [rawInt]⟩
 refine wpAny_bind (wpAny_holding ?_)
 refine wpAny_bind (wpAny_isOneOf_keyiter (s:={s with heap:=s.heap.update it (Obj.mapFields (·.setIfInBounds 1 (rawInt ((i:Int)+1))))}) hit'.typeIs ?_)
 show wpAny _ _ (pure es[i].key) _ _ _
 exact wpAny_pure (wpAny_pure ⟨_,rfl,wpAny_pure (hQ _ hit' (Heap.SameBut.update ..))⟩)
theorem Cg {Q:Option Value->Shared->Prop} (hh:A.handled=none) (hit:s.heap.IsKeyIter it d i es.size ep) (hm:s.heap.dR d es ep) (hge:es.size<=i)
  (hQ:∀ h',Heap.ExtBut it s.heap h'->Q none {s with heap:=h'}):wpAny (model prog w) A (pyNext (.ref it)) Q E s:=by
 obtain ⟨o,ho,hc,hd⟩:=id hit
 obtain ⟨od,hod,hcd,hdd⟩:=id hm
 unfold pyNext
 refine wpAny_bind (wpAny_attempt (wpAny_callSpecial?_slot (name:=Str.ofString "__next__") hit.typeIs F.slot_dict_keyiterator_next
  (wpAny_call_entry F.slot_dict_keyiterator_next hit.typeIs F.entry_dict_keyiterator_next ?_ (F.args_dict_keyiterator_next_1 _))))
 refine wpAny_bind (wpAny_pure ?_)
 refine wpAny_bind ?_
 refine wpAny_bind ?_
 first | refine wpAny_bind (wpAny_typeNameOfWhole_keyiter hit.typeIs (wpAny_pure ?_)) | refine wpAny_bind (wpAny_typeNameOf_keyiter hit.typeIs (wpAny_pure ?_))
 refine wpAny_bind (wpAny_fieldsOf ho hd ?_)
 have hown:Builtin.Dict_items.ownsTuple "dict_keyiterator" = false:=by decide
 simp only [hown,Bool.false_eq_true,if_false]
 show wpAny _ _ (if (Value.ref d == Value.none)=true then _ else _) _ _ s
 rw [if_neg (show ¬ ((Value.ref d == Value.none)=true) from Bool.false_ne_true)]
 refine wpAny_bind (wpAny_pure ?_)
 refine wpAny_bind (wpAny_dictEntries hod hdd ?_)
 rw [if_neg (by simp)]
 refine wpAny_bind (wpAny_pure ?_)
 refine wpAny_bind (wpAny_dictEpoch hod hdd ?_)
 rw [if_neg (by simp)]
 refine wpAny_pure ?_
 simp only [show ¬ ((i:Int) < 0) from by omega,if_false,Int.toNat_natCast,Array.getElem?_eq_none hge]
 refine wpAny_bind ?_
 first | refine wpAny_bind (wpAny_typeNameOfWhole_keyiter hit.typeIs (wpAny_pure ?_)) | refine wpAny_bind (wpAny_typeNameOf_keyiter hit.typeIs (wpAny_pure ?_))
 show wpAny _ _ (setField (.ref it) 0 .none >>= _) _ _ s
 refine wpAny_bind (wpAny_setField ho hd (by simp) ?_)
 show wpAny _ _ (newExc (.type "StopIteration") [] >>= _) _ _ _
 refine wpAny_bind ?_
 simp only [newExc,newTuple]
 refine wpAny_bind (wpAny_newObj_type ?_ (by size_fits))
 refine wpAny_bind (m:=firstArgMember _ _) (wpAny_of_eq (a:=Value.none) (by first | rfl | (simp only [firstArgMember];rfl)) ?_)
 refine wpAny_newObj_type ?_ (by size_fits)
 simp only [raiseNew]
 refine wpAny_bind (wpAny_handled ?_)
 rw [show A.in1.handled=none from hh]
 refine wpAny_bind (wpAny_pure (wpAny_throw ?_))
 refine wpAny_bind (wpAny_isInstance (T := "StopIteration") (b:=true) ⟨_,Heap.get?_push_size _ rfl,rfl⟩ isSubtype_stop ?_)
 exact wpAny_pure (hQ _ (((Heap.SameBut.update ..).extBut.push _).push _))
theorem Walks.Ci (hh:A.handled=none) (I d:Addr) (hne:d≠I) (es:Array DictEntry) (ep:Nat) :
  Walks prog w A I [I,d] [I] es.size (fun i v=>∃ e,es[i]?=some e/\v=e.key) (fun i h=>h.IsKeyIter I d i es.size ep/\h.dR d es ep) where
 sub:=fun b hb=>by simp at hb;simp [hb]
 frame:=fun _ _ _ st hk=>⟨st.1.at fun o e=>hk I (by simp) o e,st.2.at fun o e=>hk d (by simp) o e⟩
 item:=fun i s Q E hi st hQ=>Ad st.1 st.2 hi fun h' hit' hs'=>
  hQ _ h' s.toks ⟨es[i],Array.getElem?_eq_getElem hi,rfl⟩ ⟨hit',st.2.at fun o e=>hs'.extBut d o hne e⟩ fun b o hb e=>hs'.extBut b o (fun h=>hb (by simp [h])) e
 done:=fun s Q E st hQ=>Cg hh st.1 st.2 (Nat.le_refl _) fun h' he'=>hQ h' s.toks fun b o hb e=>he' b o (fun h=>hb (by simp [h])) e
 self:=fun _ _ _ _ st hQ=>wpAny_pyIter_keyiter st.1 hQ
theorem Cj (lo:(d == sysModules)=false):PySem.W.KdlSrc prog w "dict" d d es.size (fun i v=>∃ e,es[i]?=some e/\v=e.key) (fun h=>h.dR d es ep) where
 type:=fun _ hm=>hm.typeIs
 there:=fun _ hm=>let ⟨_,ho,_⟩:=hm;⟨Heap.lt_size ho,Heap.lt_size ho⟩
 keep:=fun _ _ hm hk=>hm.at fun o e=>hk d (.inl rfl) o e
 notList:=by decide
 notTuple:=by decide
 hint:=fun _ _ _ _ hm hq=>PySem.W.kdl_hint_dict hm.typeIs hq
 iter:=fun _ _ hh hm=>⟨_,_,(fun _ _ hq=>Ac lo hm hq),Walks.Ci hh _ d (let ⟨_,ho,_⟩:=hm;Nat.ne_of_lt (Heap.lt_size ho)) es ep,⟨⟨_,Heap.get?_push_size _ rfl,rfl,rfl⟩,hm.at fun o e=>Heap.get?_push_of_some _ e⟩⟩
theorem Ae {Q:Value->Shared->Prop} (lo:(d == sysModules)=false) (hh:A.handled=none) (hm:s.heap.dR d es ep) (hn:es.size<=sizeLine)
  (hQ:∀ h' tk c',(∀ b o,s.heap.get? b=some o->h'.get? b=some o)->h'.get? s.heap.objs.size=some {cls:=.type "list",dict:=none,data:=.seq (es.map (·.key)) c',slots:=#[]}->Q (.ref s.heap.objs.size) {s with heap:=h',toks:=tk}) :
  wpAny (model prog w) A (call (.type "list") [.ref d]) Q E s:=
 PySem.W.kdl_call (Cj lo) hh hm hn fun h' tk acc' c' hk hS hacc=>by
  have e:acc'=es.map (·.key):=by
   apply Array.ext
   ·simp [hacc.1]
   ·intro j h1 h2
    obtain ⟨e,he,hv⟩:=hacc.2 j acc'[j] (Array.getElem?_eq_getElem h1)
    have hj:j < es.size:=by simpa using h2
    rw [Array.getElem?_eq_getElem hj] at he
    cases he
    rw [hv]
    simp
  rw [e] at hS
  exact hQ h' tk c' hk hS
end
end PySem
namespace Ml
open PySem PySem.Spec L2
section
variable {X:Cx} {E:XK} {k:Nat} {θ:List Addr} {hm:Hm} {H M:Hp} {pins:List (Addr×Obj)} {σ:L2.St} {s:Shared}
theorem ij {x:Str}:∀ {ks:List (Key×V)} {kvs:List (PyData×PyData)},bh ks=some kvs->kO (.str x) kvs=(ks.any fun kv=>decide (kv.1=Sum.inr x))
 | [],kvs,e=>by cases e;rfl
 | (q,v)::ks,kvs,e=>by
  unfold bh at e
  cases e1:fL v with
  | none=>rw [e1] at e;cases e
  | some d=>
   cases e2:bh ks with
   | none=>rw [e1,e2] at e;cases e
   | some ds=>
    rw [e1,e2] at e
    cases e
    have ih:=ij (x:=x) e2
    unfold kO at ih ⊢
    rw [List.any_cons,List.any_cons,ih]
    congr 1
    cases q with
    | inl i=>rw [key_lr'];simp [tB,PyData.eqv]
    | inr y=>
     simp only [tB,PyData.eqv]
     by_cases e:y=x
     ·subst e;simp
     ·have:¬ (Sum.inr y:Key)=Sum.inr x:=fun z=>e (Sum.inr.inj z)
      rw [decide_eq_false this]
      simpa using e
where
 key_lr' {a:Int} {b:Str}:decide ((Sum.inl a:Key)=Sum.inr b)=false:=decide_eq_false (fun q=>nomatch q)
theorem xg (q:Key) (x:Str):PyData.eqv (tB q) (.str x)=decide (q=Sum.inr x):=by
 cases q with
 | inl i=>rw [decide_eq_false (fun z=>nomatch z)];simp [tB,PyData.eqv]
 | inr y=>
  simp only [tB,PyData.eqv]
  by_cases e:y=x
  ·subst e;simp
  ·rw [decide_eq_false (fun z=>e (Sum.inr.inj z))];simpa using e
theorem oP {x:Str} {u:V} {dv:PyData} (hv:fL u=some dv):∀ {ks:List (Key×V)} {kvs:List (PyData×PyData)},bh ks=some kvs ->
  bh (ks.map fun kv=>if kv.1=Sum.inr x then (kv.1,u) else kv)=some (kvs.map fun p=>if PyData.eqv p.1 (.str x) then (p.1,dv) else p)
 | [],kvs,e=>by cases e;rfl
 | (q,v)::ks,kvs,e=>by
  unfold bh at e
  cases e1:fL v with
  | none=>rw [e1] at e;cases e
  | some d=>
   cases e2:bh ks with
   | none=>rw [e1,e2] at e;cases e
   | some ds=>
    rw [e1,e2] at e
    cases e
    have ih:=oP (x:=x) hv e2
    rw [List.map_cons,List.map_cons,xg]
    by_cases hq:q=Sum.inr x
    ·simp only [hq,decide_true,if_true]
     unfold bh
     rw [hv,ih]
    ·simp only [hq,decide_false,if_false,Bool.false_eq_true]
     unfold bh
     rw [e1,ih]
theorem mQ {x:Str} {u:V} {dv:PyData} (hv:fL u=some dv):∀ {ks:List (Key×V)} {kvs:List (PyData×PyData)},bh ks=some kvs->bh (ks++[(Sum.inr x,u)])=some (kvs++[(.str x,dv)])
 | [],kvs,e=>by cases e;simp [bh,hv,tB]
 | (q,v)::ks,kvs,e=>by
  unfold bh at e
  cases e1:fL v with
  | none=>rw [e1] at e;cases e
  | some d=>
   cases e2:bh ks with
   | none=>rw [e1,e2] at e;cases e
   | some ds=>
    rw [e1,e2] at e
    cases e
    have ih:=mQ (x:=x) hv e2
    rw [List.cons_append]
    unfold bh
    rw [e1,ih]
    rfl
theorem vC {x:Str} {u:V} {dv:PyData} (hv:fL u=some dv) {ks:List (Key×V)} {kvs:List (PyData×PyData)} (e:bh ks=some kvs):bh (putK ks (Sum.inr x) u)=some (dput kvs (.str x) dv):=by
 unfold putK dput
 rw [ij e]
 split
 ·exact oP hv e
 ·exact mQ hv e
theorem j6:∀ {ks:List (Key×V)} {kvs:List (PyData×PyData)},bh ks=some kvs->ks.length=kvs.length
 | [],kvs,e=>by cases e;rfl
 | (q,v)::ks,kvs,e=>by
  unfold bh at e
  cases e1:fL v with
  | none=>rw [e1] at e;cases e
  | some d=>
   cases e2:bh ks with
   | none=>rw [e1,e2] at e;cases e
   | some ds=>rw [e1,e2] at e;cases e;simp [j6 e2]
theorem oQ {x:Str}:∀ {ks:List (Key×V)} {kvs:List (PyData×PyData)} {d:PyData},bh ks=some kvs->ng kvs (.str x)=some d->∃ u,m7 ks (Sum.inr x)=some u/\fL u=some d
 | [],kvs,d,e,g=>by cases e;simp [ng] at g
 | (q,v)::ks,kvs,d,e,g=>by
  unfold bh at e
  cases e1:fL v with
  | none=>rw [e1] at e;cases e
  | some d'=>
   cases e2:bh ks with
   | none=>rw [e1,e2] at e;cases e
   | some ds=>
    rw [e1,e2] at e
    cases e
    unfold ng at g
    rw [List.find?_cons,xg] at g
    by_cases hq:q=Sum.inr x
    ·simp only [hq,decide_true] at g
     simp at g
     subst g
     exact ⟨v,kG (p:=(q,v)) hq,e1⟩
    ·simp only [hq,decide_false] at g
     obtain ⟨u,h1,h2⟩:=oQ (x:=x) e2 g
     exact ⟨u,by rw [kH (p:=(q,v)) hq];exact h1,h2⟩
theorem Af {u:V} {d:PyData} (h:fL u=some d):Rep M d u:=by
 cases u with
 | non=>cases h;rfl
 | bl b=>cases h;rfl
 | int i=>cases h;rfl
 | str x=>cases h;rfl
 | _=>cases h
theorem Ag {u:V} {d:PyData} (f:gQ d=true) (h:Rep M d u):fL u=some d:=by
 cases d with
 | none=>cases h;rfl
 | bool b=>cases h;rfl
 | int i=>cases h;rfl
 | str x=>cases h;rfl
 | _=>simp [gQ] at f
theorem ik {q:PyData} (tq:aK q=true):∀ {kvs:List (PyData×PyData)} {xs:List (PyData×Addr×Value)},Paired (lZ M) kvs xs->kO q kvs=(atKey xs q).isSome
 | _,_,.nil=>rfl
 | _,_,.cons (a:=p) (b:=x) h t=>by
  have ih:=ik tq t
  unfold kO at ih ⊢
  unfold atKey at ih ⊢
  rw [List.any_cons,List.find?_cons,ih]
  by_cases e:x.1=q
  ·rw [decide_eq_true e,h.1,e,bH (cg tq)];rfl
  ·have:PyData.eqv p.1 q=false:=bC (cg h.2.1) (cg tq) (by rw [h.1];exact e)
   rw [this,decide_eq_false e]
   simp
theorem Ah (I:Inv X pins σ H s) {d:PyData} {a:Addr} (sm:bE M H) (t:aK d=true) (dp:d.depth<=8) (so:cI d=true) (r:Rep M d (.ref a)):EW s.heap d a:=by
 obtain ⟨as,z⟩:=Rep.reads I (r.same sm) rfl
 exact ⟨t,dp,so,as,z⟩
theorem xh (I:Inv X pins σ H s) (sm:bE M H):∀ {kvs:List (PyData×PyData)} {xs:List (PyData×Addr×Value)},Paired (lZ M) kvs xs->∀ x∈xs,EW s.heap x.1 x.2.1
 | _,_,.nil,x,hx=>by cases hx
 | _,_,.cons h t,x,hx=>by
  rcases List.mem_cons.mp hx with rfl | hx
  ·obtain ⟨e,t1,t2,t3,t4,_⟩:=h
   rw [<- e]
   exact Ah I sm t1 t2 t3 t4
  ·exact xh I sm t x hx
theorem vD (I:Inv X pins σ H s) {xs:List (PyData×Addr×Value)} {kvs:List (PyData×PyData)} {a:Addr} (sm:bE M H) (ha:H a=some (dO X.prog X.w xs a)) (r:Paired (lZ M) kvs xs) :
  kvs.length<=sizeLine/\(a == sysModules)=false/\s.heap.DictOfH (fY X.prog X.w) a xs:=by
 obtain ⟨⟨h1,h2,o,es,ep,h3,h4,h5,h6,h7⟩,_⟩:=I.hok a _ ha
 exact ⟨by rw [show kvs.length=xs.length from Paired.length r];exact h1,h2,o,es,ep,h3,h4,h5,h6,xh I sm r,h7⟩
theorem Fe {xs:List (PyData×Addr×Value)} {a:Addr} (ha:H a=some (dO X.prog X.w xs a)):FR (H a):=by rw [ha];exact True.intro
theorem tT {q dv:PyData} {u:Value} {v:V} (tq:aK q=true) (rv:RelV v u) (rd:Rep M dv v) (sd:cI dv=true):∀ {kvs:List (PyData×PyData)} {xs:List (PyData×Addr×Value)},Paired (lZ M) kvs xs ->
  Paired (lZ M) (kvs.map fun p=>if PyData.eqv p.1 q then (p.1,dv) else p) (xs.map (putAt q u))
 | _,_,.nil=>.nil
 | _,_,.cons (a:=p) (b:=x) h t=>by
  rw [List.map_cons,List.map_cons]
  refine .cons ?_ (tT tq rv rd sd t)
  unfold putAt
  by_cases e:x.1=q
  ·have e2:PyData.eqv p.1 q=true:=by rw [h.1,e];exact bH (cg tq)
   rw [if_pos e,if_pos e2]
   exact ⟨h.1,h.2.1,h.2.2.1,h.2.2.2.1,h.2.2.2.2.1,v,rv,rd,sd⟩
  ·have e2:PyData.eqv p.1 q=false:=bC (cg h.2.1) (cg tq) (by rw [h.1];exact e)
   rw [if_neg e,e2,if_neg (by simp)]
   exact h
theorem Ai {q dv:PyData} {b:Addr} {u:Value} {v:V} (tq:aK q=true) (dq:q.depth<=8) (sq:cI q=true) (rq:Rep M q (.ref b)) (rv:RelV v u) (rd:Rep M dv v) (sd:cI dv=true) {kvs:List (PyData×PyData)} {xs:List (PyData×Addr×Value)} (r:Paired (lZ M) kvs xs) :
  Paired (lZ M) (dput kvs q dv) (storedH xs q b u):=by
 unfold dput storedH
 rw [ik tq r]
 split
 ·exact tT tq rv rd sd r
 ·exact dN r (.cons ⟨rfl,tq,dq,sq,rq,v,rv,rd,sd⟩ .nil)
theorem Aj (kvs:List (PyData×PyData)) (q v:PyData):(dput kvs q v).length<=kvs.length+1:=by
 unfold dput
 split
 ·simp
 ·simp
theorem W.Ak {G:Gx} {j:Nat} {a:Addr} {o:HO} {t:Bool} {kvs:List (PyData×PyData)} (w:W G θ hm H) (ha:θ[j]?=some a) (hl:j < hm.length) (r:eN G.P G.w (view θ H) (upd H a o) a t kvs):Ev θ H θ (upd H a o)/\W G θ (hm.set j (.cx t kvs)) (upd H a o):=by
 have hmm:a∈θ:=List.mem_of_getElem? ha
 have e:Ev θ H θ (upd H a o):=⟨⟨[],by simp⟩,fun b u q=>by
  obtain ⟨h1,h2⟩:=cS q
  have ne:b≠a:=fun z=>by subst z;exact h1 hmm
  rw [dj h1,aC ne]
  exact h2⟩
 exact w.write ha hl (eN.same e.same r fun _ q=>q)
def GS (G:Gx) (E:XK):V->V->V->Hp->(Hp->Prop)->Prop:=fun x y v H Q=>∃ θ h d1 d2 d,W G θ h H/\cj G θ H d1 x/\cj G θ H d2 y/\cj G θ H d v/\aD G (md G E) θ H (oh d1 d2 d h) (fun _ _ _ H'=>Q H')
theorem Ck (hr:df k X.A):Ea X (GS X.G E):=by
 intro pins s σ H x y v xv yv u Q I rx ry rv ⟨θ,h,d1,d2,d,w,r1,r2,rd,p⟩
 unfold oh at p
 split at p
 ·rename_i j
  split at p
  ·rename_i t kvs hx
   unfold zw at p
   split at p
   ·rename_i q dv
    split at p
    ·rename_i hc
     simp only [Bool.and_eq_true,decide_eq_true_eq,Bool.or_eq_true] at hc
     obtain ⟨a,ha,rfl⟩:=r1
     cases rx
     rcases w.obj _ _ _ ha hx with ⟨rfl,ks,h1,h2,h3⟩ | ⟨rfl,xs,h1,h2⟩
     ·have hk:∃ z,q=.str z:=by
       have:=hc.1.1
       simp only [keyOk,Bool.false_eq_true,if_false] at this
       cases q<;>first | exact ⟨_,rfl⟩ | simp [jZ] at this
      obtain ⟨z,rfl⟩:=hk
      have fd:gQ dv=true:=by rcases hc.1.2 with z | z;cases z;exact z
      have hv:=Ag fd rd.1
      obtain ⟨e2,s2⟩:=eR r2
      subst e2
      have so:∀ p∈dput kvs (.str z) dv,cI p.1=true/\cI p.2=true:=fun p hp=>by
       unfold dput at hp
       split at hp
       ·obtain ⟨p0,hp0,e0⟩:=List.mem_map.mp hp
        split at e0
        ·subst e0;exact ⟨(h3 p0 hp0).1,rd.2⟩
        ·subst e0;exact h3 p0 hp0
       ·rcases List.mem_append.mp hp with hp | hp
        ·exact h3 p hp
        ·simp at hp;subst hp;exact ⟨by simpa [cI] using s2,rd.2⟩
      obtain ⟨e1,w1⟩:=w.Ak (o:=.dK (putK ks (Sum.inr z) v)) (t:=false) (kvs:=dput kvs (.str z) dv) ha (gT hx) (.inl ⟨rfl,_,bo,vC hv h2,so⟩)
      exact x4 (by have:=hr.units;omega) I (BO.k (k:=Sum.inr z) h1 (by rw [j6 h2,PySem.sizeLine_eq];exact hc.2)) ry rv fun s' I'=>⟨_,I',p _ _ e1 w1⟩
     ·have hk:=hc.1.1
      simp only [keyOk,if_true,Bool.and_eq_true,decide_eq_true_eq] at hk
      obtain ⟨b,vs,rfl,hb⟩:∃ b vs,y=.ref b/\view θ H b=some (.tup vs):=by
       cases q with
       | tuple ds=>obtain ⟨b,vs,e,hb,_⟩:=r2.1;exact ⟨b,vs,e,hb⟩
       | _=>simp [rN] at hk
      cases ry
      obtain ⟨hz,hsys,dd⟩:=vD I (ay θ H) h1 h2
      have hz2:xs.length<=sizeLine:=by rw [<- show kvs.length=xs.length from Paired.length h2];exact hz
      have kr:=Ai (b:=b) (u:=u) hk.1.2 hk.2 r2.2 r2.1 rv rd.1 rd.2 h2
      refine wpAny_setItem_heap (knd:=fY X.prog X.w) (hsz:=hz2) (by show X.A.units+1+20 < cLine;have:=hr.units;omega) (Ah I (ay θ H) hk.1.2 hk.2 r2.2 r2.1) dd fun h' dd' hs=>?_
      obtain ⟨o,es,ep,g1,g2,g3,g4,_,g5⟩:=dd'
      have hl2:(storedH xs q b u).length<=sizeLine:=by
       rw [<- show (dput kvs q dv).length=_ from Paired.length kr]
       have:=Aj kvs q dv
       rw [PySem.sizeLine_eq]
       omega
      refine ⟨_,nu (t':=_) I (Fe h1) hs ⟨o,g1⟩ (Dw (xs:=storedH xs q b u) hl2 hsys g1 g2 g3 g4 g5),?_⟩
      obtain ⟨e1,w1⟩:=w.Ak (o:=dO X.prog X.w (storedH xs q b u) a) (t:=true) (kvs:=dput kvs q dv) ha (gT hx) (.inr ⟨rfl,_,bo,kr⟩)
      exact p _ _ e1 w1
    ·exact p.elim
   ·exact p.elim
  ·exact set_list pins s σ H x y v xv yv u Q I rx ry rv (ym w r1 r2 rd p)
 ·exact p.elim
theorem Al {ma' mb:ME} {o i:Expr} {pos:Pos} (hr:df k X.A) (ho:DE X E ma' o) (hi:DE X E mb i) (ha:∀ v,assign (.Subscript o i pos) X.env v=(do
   let ov <- holding [v] (eval o X.env)
   let iv <- holding [v,ov] (eval i X.env)
   standAt pos
   holding [v,ov,iv] (setItem ov iv v)
   release [v,ov,iv] []):=by intro _;rfl):DG X E (pP ma' mb) (.Subscript o i pos):=by
 simp only [bu,i7] at *
 exact fun pins s σ H v u Q I r ⟨θ,h,ρ,d,w,fr,rd,p⟩=>Ec ho hi (Ck (E:=E) hr) ha pins s σ H v u Q I r ⟨θ,h,ρ,w,fr,(aD.bind p).mono fun d1 θ1 h1 H1 _ _ ⟨ev,w1,p1⟩ x r1=>
   ⟨θ1,h1,ρ,w1,fr.ev ev,(aD.bind p1).mono fun d2 θ2 h2 H2 _ _ ⟨ev2,w2,p2⟩ y r2=>
    ⟨θ2,h2,d1,d2,d,w2,r1.ev ev2,r2,rd.ev (ev.trans ev2),(aD.bind p2).mono fun _ θ3 h3 H3 _ _ ⟨ev3,w3,p3⟩=>p3 θ3 H3 Ev.refl w3 σ (((fr.ev ev).ev ev2).ev ev3)⟩⟩⟩
end
end Ml
namespace Ml
open PySem PySem.Spec L2
section
variable {X:Cx} {E:XK} {k:Nat} {θ:List Addr} {hm:Hm} {H M:Hp} {pins:List (Addr×Obj)} {σ:L2.St} {s:Shared} {pos:Pos} {e:Expr}
theorem oR {G:Gx} {d:D} {v:V} {t:Bool} {kvs:List (PyData×PyData)} (w:W G θ hm H) (r:cj G θ H d v) (e:fW d hm=some (t,kvs)):∃ a,v=.ref a/\eN G.P G.w (view θ H) H a t kvs:=by
 unfold fW at e
 split at e
 ·cases e
  obtain ⟨a,h1,h2⟩:=r
  exact ⟨a,h1,h2.same (bE.refl _) fun o q=>ay _ _ _ _ q⟩
 ·split at e
  ·rename_i hx
   cases e
   obtain ⟨a,ha,h1⟩:=r
   exact ⟨a,h1,w.obj _ _ _ ha hx⟩
  ·cases e
 ·cases e
theorem Cm (hr:df k X.A) {x:V} {v:Value} {Q:VK} {h:Hm} {d1:D} {b t:Bool} {kvs:List (PyData×PyData)} {a:Addr} (I:Inv X pins σ H s) (rx:RelV x v) (w:W X.G θ h H) (r1:cj X.G θ H d1 x) (dc:eN X.prog X.w (view θ H) H a t kvs) (hb:vo d1 kvs t=some b) :
  (Q (.bl b) H->wpAny (model X.prog X.w) X.A (compareOp .In v (.ref a)) (EP X pins σ Q) X.xe s)/\(Q (.bl !b) H->wpAny (model X.prog X.w) X.A (compareOp .NotIn v (.ref a)) (EP X pins σ Q) X.xe s):=by
 unfold vo at hb
 split at hb
 ·rename_i d
  split at hb
  ·rename_i ok
   cases hb
   rcases dc with ⟨rfl,ks,h1,h2,h3⟩ | ⟨rfl,xs,h1,h2⟩
   ·simp only [keyOk,Bool.false_eq_true,if_false] at ok
    cases d with
    | str z=>
     cases (eR r1).1
     exact ⟨fun q=>IC (by have:=hr.units;omega) I (tu.k (k:=Sum.inr z) h1) rx fun s' I'=>⟨.bl _,H,I',rfl,by rw [<- kI,<- ij h2];exact q⟩,
      fun q=>BP (by have:=hr.units;omega) I (tu.k (k:=Sum.inr z) h1) rx fun s' I'=>⟨.bl _,H,I',rfl,by rw [<- kI,<- ij h2];exact q⟩⟩
    | _=>simp [jZ] at ok
   ·simp only [keyOk,if_true,Bool.and_eq_true,decide_eq_true_eq] at ok
    cases d with
    | tuple ds=>
     obtain ⟨c,vs,rfl,hc,_⟩:=id r1.1
     cases rx
     obtain ⟨hz,hsys,dd⟩:=vD I (ay θ H) h1 h2
     have room:(fY X.prog X.w).room X.A.in1:=by show X.A.units+1+20 < cLine;have:=hr.units;omega
     have tk:=Ah I (ay θ H) ok.1.2 ok.2 r1.2 r1.1
     exact ⟨fun q=>wpAny_in_heap (knd:=fY X.prog X.w) room tk hsys dd ⟨.bl _,H,I.tok _,rfl,by rw [<- ik ok.1.2 h2];exact q⟩,
      fun q=>PyProof.Rows.wpAny_notIn_heap (knd:=fY X.prog X.w) room tk hsys dd ⟨.bl _,H,I.tok _,rfl,by rw [<- ik ok.1.2 h2];exact q⟩⟩
    | _=>simp [rN] at ok
  ·cases hb
 ·cases hb
theorem xi (hr:df k X.A) {x y:V} {v u:Value} {Q:VK} {h:Hm} {d1 d2:D} {b:Bool} (I:Inv X pins σ H s) (rx:RelV x v) (ry:RelV y u) (w:W X.G θ h H) (r1:cj X.G θ H d1 x) (r2:cj X.G θ H d2 y) (hb:findIn d1 d2 h=some b) :
  (Q (.bl b) H->wpAny (model X.prog X.w) X.A (compareOp .In v u) (EP X pins σ Q) X.xe s)/\(Q (.bl !b) H->wpAny (model X.prog X.w) X.A (compareOp .NotIn v u) (EP X pins σ Q) X.xe s):=by
 unfold findIn at hb
 split at hb
 ·rename_i p hp
  obtain ⟨t,kvs⟩:=p
  obtain ⟨a,rfl,dc⟩:=oR w r2 hp
  cases ry
  exact Cm hr I rx w r1 dc hb
 ·exact Ab hr I rx ry w r1 r2 hb
theorem Cn (hr:df k X.A):kq X E (compareOp .In) vp:=by
 intro pins s σ H x y v u Q I rx ry ⟨θ,h,d1,d2,w,r1,r2,p⟩
 unfold vp at p
 split at p
 ·rename_i b hb
  exact (xi hr I rx ry w r1 r2 hb).1 (p.ig w (b0 _))
 ·exact p.elim
theorem DC (hr:df k X.A):kq X E (compareOp .NotIn) nc:=by
 intro pins s σ H x y v u Q I rx ry ⟨θ,h,d1,d2,w,r1,r2,p⟩
 unfold nc at p
 split at p
 ·rename_i b hb
  exact (xi hr I rx ry w r1 r2 hb).2 (p.ig w (b0 _))
 ·exact p.elim
theorem Am {kvs:List (PyData×PyData)} {q d:PyData} (h:∀ p∈kvs,cI p.1=true/\cI p.2=true) (e:ng kvs q=some d):cI d=true:=by
 unfold ng at e
 obtain ⟨p,hp,rfl⟩:=Option.map_eq_some_iff.mp e
 exact (h p (List.mem_of_find?_eq_some hp)).2
theorem b8 (hr:df k X.A):FW X (EX X.G E fv):=by
 intro value slice pins s σ H x y v u Q I rx ry ⟨θ,h,d1,d2,w,r1,r2,p⟩ hs
 unfold fv at p
 split at p
 ·rename_i pp hp
  obtain ⟨t,kvs⟩:=pp
  split at p
  ·rename_i z
   split at p
   ·exact p.elim
   ·rename_i ht
    split at p
    ·rename_i d hd
     obtain ⟨a,rfl,dc⟩:=oR w r1 hp
     cases rx
     rcases dc with ⟨_,ks,h1,h2,h3⟩ | ⟨z1,_⟩
     ·obtain ⟨e2,s2⟩:=eR r2
      subst e2
      obtain ⟨uu,g1,g2⟩:=oQ h2 hd
      have T:s.TypeIs (.ref a) "dict" := by
       obtain ⟨_,_,vs,_,o,_,_,e,ex,_⟩:=I.hok a _ h1
       exact ⟨o,e,ex.1⟩
      exact PyProof.Rows.tail_any (ops:=[.ref a,u]) T PySem.F.slot_dict_getitem.lookup (x3 (by have:=hr.units;omega) I (by have:=tu.k (k:=Sum.inr z) h1;rw [g1] at this;exact this) ry fun w' s' I' rw'=>⟨uu,H,I',rw',p.ig w ⟨Af g2,Am h3 hd⟩⟩) hs
     ·exact absurd z1 ht
    ·exact p.elim
  ·exact p.elim
 ·exact zU value slice pins s σ H x y v u Q I rx ry ⟨θ,h,d1,d2,w,r1,r2,p⟩ hs
end
end Ml
namespace Ml
open PySem PySem.Spec L2
section
variable {X:Cx} {E:XK} {k:Nat} {θ:List Addr} {hm:Hm} {H M:Hp} {pins:List (Addr×Obj)} {σ:L2.St} {s:Shared} {pos:Pos} {e:Expr}
theorem qL:∀ {kvs:List (PyData×PyData)} {xs:List (PyData×Addr×Value)},Paired (lZ M) kvs xs->aW M (kvs.map (·.1)) (xs.map fun x=>V.ref x.2.1)/\bW (kvs.map (·.1))=true
 | _,_,.nil=>⟨rfl,rfl⟩
 | _,_,.cons h t=>by
  obtain ⟨h1,h2⟩:=qL t
  exact ⟨.cons h.2.2.2.2.1 h1,by simp [bW,h.2.2.2.1,h2]⟩
theorem qM:∀ (xs:List (PyData×Addr×Value)),Vals (xs.map fun x=>V.ref x.2.1) (xs.map fun x=>Value.ref x.2.1)
 | []=>.nil
 | _::xs=>.cons rfl (qM xs)
theorem xj {P:Program} {w:World}:∀ {ks:List (Key×V)} {vs:List (Key×Value)} {es:List DictEntry} {kvs:List (PyData×PyData)},bh ks=some kvs->L2.KV ks vs->Pairs (bX P w) es vs->∃ us:List V,Vals us (es.map (·.key))/\aW M (kvs.map (·.1)) us
 | [],_,es,kvs,e,r,p=>by
  cases e
  cases r
  cases es with
  | nil=>exact ⟨[],.nil,rfl⟩
  | cons _ _=>exact (by cases p)
 | (q,v)::ks,_,es,kvs,e,r,p=>by
  cases r with
  | cons r1 r2=>
   rename_i q' vs'
   obtain ⟨k',u⟩:=q'
   obtain ⟨e1,e2⟩:=r1
   simp only at e1 e2
   subst e1
   cases p with
   | cons hk hv hr=>
    unfold bh at e
    cases e1:fL v with
    | none=>rw [e1] at e;cases e
    | some d=>
     cases e3:bh ks with
     | none=>rw [e1,e3] at e;cases e
     | some ds=>
      rw [e1,e3] at e
      cases e
      obtain ⟨us,z1,z2⟩:=xj e3 r2 hr
      rcases bU hk with ⟨i,t,rfl,hk'⟩ | ⟨x,t,rfl,hk'⟩
      ·exact ⟨.int i::us,.cons ⟨t,hk'⟩ z1,.cons rfl z2⟩
      ·exact ⟨.str x::us,.cons ⟨t,hk'⟩ z1,.cons rfl z2⟩
theorem An (hc:X.calm=true):ku X E (.type "list") kP:=by
 intro pins s σ H xs us Q I r ⟨θ,h,ds,w,rs,p⟩
 unfold kP at p
 split at p
 ·rename_i x
  split at p
  ·rename_i pp hp
   obtain ⟨t,kvs⟩:=pp
   cases rs with
   | cons r1 rr=>
    cases rr
    obtain ⟨a,rfl,dc⟩:=oR w r1 hp
    cases r with
    | cons rv rr=>
     cases rr
     cases rv
     have fin:∀ (es:Array DictEntry) (ep:Nat) (vs:List V),s.heap.dR a es ep->(a == sysModules)=false->kvs.length<=sizeLine->es.size=kvs.length->Vals vs (es.toList.map (·.key))->aW (view θ H) (kvs.map (·.1)) vs->bW (kvs.map (·.1))=true ->
       wpAny (model X.prog X.w) X.A (call (.type "list") [.ref a]) (EP X pins σ Q) X.xe s:=fun es ep vs raw hsys hz hsz hv hrp hso=>by
      refine Ae hsys (I.ok.hd hc) raw (by rw [hsz];exact hz) fun h' tk c' hk hl=>?_
      have hn:H s.heap.objs.size=none:=I.hok.fresh (Nat.le_refl _)
      obtain ⟨e1,w1,g⟩:=w.put (o:=.lst vs) hn
      have hlen:vs.length=kvs.length:=by have:=hrp.length;simpa using this
      refine ⟨.ref s.heap.objs.size,upd H s.heap.objs.size (.lst vs),I.laid (fun b o q=>hk b o q) (Nat.le_refl _) ⟨by rw [hlen];exact hz,es.toList.map (·.key),c',hv,?_⟩,rfl,p _ _ e1 w1 _ ⟨⟨_,vs,rfl,g,hrp.same e1.same⟩,by simpa [cI] using hso⟩⟩
      rw [hl]
      have ee:es.map (·.key)=(es.toList.map (·.key)).toArray:=by apply Array.ext' ;simp
      rw [ee]
     rcases dc with ⟨rfl,ks,h1,h2,h3⟩ | ⟨rfl,xs,h1,h2⟩
     ·obtain ⟨z,ne,vs,rk,o,es,ep,ho,hx,hd,_,hpp,_⟩:=I.hok a _ h1
      obtain ⟨us,v1,v2⟩:=xj (M:=view θ H) h2 rk hpp
      have hl1:ks.length=kvs.length:=j6 h2
      have hl2:es.size=kvs.length:=by
       have a1:=v1.length
       have a2:=v2.length
       simp at a1 a2
       omega
      exact fin es ep us ⟨o,ho,hx,hd⟩ ne (by omega) hl2 v1 v2 (bN.mpr fun d m=>by obtain ⟨p0,hp0,rfl⟩:=List.mem_map.mp m;exact (h3 p0 hp0).1)
     ·obtain ⟨hz,hsys,dd⟩:=vD I (ay θ H) h1 h2
      obtain ⟨o,es,ep,g1,g2,g3,g4,_,_⟩:=dd
      obtain ⟨k1,k2⟩:=qL h2
      have hes:es.toList.map (·.key)=xs.map fun x=>Value.ref x.2.1:=by
       rw [g4,List.map_map]
       rfl
      have hl2:es.size=kvs.length:=by
       have:=congrArg List.length g4
       rw [List.length_map,<- show kvs.length=xs.length from Paired.length h2] at this
       simpa using this
      exact fin es ep _ ⟨o,g1,g2,g3⟩ hsys hz hl2 (by rw [hes];exact qM xs) k1 k2
  ·exact Cb (E:=E) pins s σ H xs us Q I r ⟨θ,h,_,w,rs,p⟩
 ·exact p.elim
def xk (t:Bool):ME:=fun _ h=>.ok (.ref h.length) (h++[.cx t []])
theorem W.Ff {G:Gx} {t:Bool} {o:HO} (w:W G θ hm H) {p:Addr} (hp:H p=none) (r:eN G.P G.w (view θ H) (upd H p o) p t []) :
  Ev θ H (θ++[p]) (upd H p o)/\W G (θ++[p]) (hm++[.cx t []]) (upd H p o)/\cj G (θ++[p]) (upd H p o) (.ref hm.length) (.ref p):=by
 have e:Ev θ H (θ++[p]) (upd H p o):=⟨⟨[p],rfl⟩,fun a u q=>by
  obtain ⟨h1,h2⟩:=cS q
  have ne:=aG h2 hp
  rw [dj (by simp;exact ⟨h1,ne⟩),aC ne]
  exact h2⟩
 obtain ⟨e1,w1⟩:=w.alloc (m:=.cx t []) hp (eN.same e.same r fun _ q=>q)
 exact ⟨e1,w1,p,by rw [<- w.len];simp,rfl⟩
theorem Ao {P:Program} {w:World} {H:Hp} (h:Heap) (hb:sysModules < h.objs.size):cA P w H (h.push {cls:=.type "dict",data:=.dict #[]}) h.objs.size (dO P w [] h.objs.size):=
 Dw (Nat.zero_le _) (beq_eq_false_iff_ne.mpr (Ne.symm (Nat.ne_of_lt hb))) (Heap.get?_push_size _ rfl) ⟨rfl,rfl,rfl⟩ rfl rfl List.nodup_nil
theorem Co:DE X E (xk true) (.Dict [] [] pos):=by
 simp only [bu] at *
 exact fun pins s σ H Q I ⟨θ,h,ρ,w,fr,p⟩=>by
  have hn:H s.heap.objs.size=none:=I.hok.fresh (Nat.le_refl _)
  obtain ⟨e1,w1,g⟩:=w.Ff (o:=dO X.prog X.w [] s.heap.objs.size) (t:=true) hn (.inr ⟨rfl,[],bo,.nil⟩)
  exact wpAny_Dict_empty ⟨.ref s.heap.objs.size,_,I.laid (a:=s.heap.objs.size) (t':=s.toks) (fun _ _ q=>Heap.get?_push_of_some _ q) (Nat.le_refl _) (Ao s.heap I.big),rfl,p _ _ e1 w1 _ g⟩
end
theorem cj.take {G:Gx} {θ:List Addr} {H:Hp} {n:Nat} {d:D} {v:V} (r:cj G θ H d v) (hb:d.below n=true):cj G (θ.take n) H d v:=by
 have sm:bE (view θ H) (view (θ.take n) H):=fun a o q=>by
  obtain ⟨h1,h2⟩:=cS q
  rw [dj (fun z=>h1 (List.mem_of_mem_take z))]
  exact h2
 cases d with
 | dat d=>exact ⟨r.1.same sm,r.2⟩
 | ref i=>
  obtain ⟨a,h1,h2⟩:=r
  simp only [D.below,decide_eq_true_eq] at hb
  exact ⟨a,by rw [List.getElem?_take_of_lt hb];exact h1,h2⟩
 | cx t kvs=>obtain ⟨a,h1,h2⟩:=r;exact ⟨a,h1,h2.same sm fun o q=>sm _ _ q⟩
 | set xs=>exact r
 | fn n=>exact r
 | scr ns=>obtain ⟨a,h1,h2⟩:=r;exact ⟨a,h1,sm.seq h2⟩
 | ktup xs=>exact r
 | rpr x=>exact r
 | exc x=>obtain ⟨a,c,h1,h2,h3⟩:=r;exact ⟨a,c,h1,sm _ _ h2,h3⟩
theorem aJ.take {G:Gx} {θ:List Addr} {H:Hp} {n:Nat}:∀ {ds:List D} {vs:List V},aJ G θ H ds vs->ds.all (D.below n)=true->aJ G (θ.take n) H ds vs
 | _,_,.nil,_=>.nil
 | _,_,.cons r t,h=>by simp only [List.all_cons,Bool.and_eq_true] at h;exact .cons (r.take h.1) (aJ.take t h.2)
theorem W.take {G:Gx} {θ:List Addr} {H:Hp} {h:Hm} {n:Nat} (w:W G θ h H) (hb:(h.take n).all (MO.below n)=true):W G (θ.take n) (h.take n) H:=by
 have sm:bE (view θ H) (view (θ.take n) H):=fun a o q=>by
  obtain ⟨h1,h2⟩:=cS q
  rw [dj (fun z=>h1 (List.mem_of_mem_take z))]
  exact h2
 refine ⟨by simp [w.len],w.nd.sublist (List.take_sublist _ _),fun i a o h1 h2=>?_⟩
 have hi:i < n:=by
  have:=gT h1
  simp at this
  omega
 have mo:=List.all_eq_true.mp hb o (List.mem_of_getElem? h2)
 rw [List.getElem?_take_of_lt hi] at h1 h2
 have r:=w.obj i a o h1 h2
 cases o with
 | lst xs=>obtain ⟨vs,q1,q2⟩:=r;exact ⟨vs,q1,q2.take mo⟩
 | cx t kvs=>exact eN.same sm r fun _ q=>q
 | ins=>exact r.elim
 | tab P q=>obtain ⟨rfl,x⟩:=r;exact ⟨rfl,x.same sm fun _ q=>q⟩
theorem Ev.take {θ θ':List Addr} {H H':Hp} (e:Ev θ H θ' H') {n:Nat} (hn:n=θ.length):Ev θ H (θ'.take n) H':=by
 obtain ⟨ext,rfl⟩:=e.pre
 have:(θ++ext).take n=θ:=by rw [hn];simp
 rw [this]
 refine ⟨⟨[],by simp⟩,fun a o q=>?_⟩
 obtain ⟨h1,h2⟩:=cS (e.same a o q)
 rw [dj (fun z=>h1 (List.mem_append_left _ z))]
 exact h2
theorem aD.gP {G:Gx} {E:XK} {θ:List Addr} {H:Hp} {h:Hm} {F:Fn} {ds:List D} {Q:VK} (w:W G θ h H) (p:aD G (md G E) θ H (gP F ds h) (KV G Q)):aD G (md G E) θ H (F ds h) (KV G Q):=by
 unfold Ml.gP at p
 cases e:F ds h with
 | bad=>rw [e] at p;exact p
 | ok d h'=>
  rw [e] at p
  simp only at p
  split at p
  ·rename_i hc
   simp only [Bool.and_eq_true,decide_eq_true_eq] at hc
   intro θ' H' ev w' v r
   have w2:=w'.take hc.1.2
   have ev2:=ev.take (n:=h.length) w.len.symm
   exact p _ _ ev2 w2 v (r.take hc.1.1)
  ·exact p.elim
 | exc x h'=>
  rw [e] at p
  simp only at p
  split at p
  ·rename_i hc
   simp only [Bool.and_eq_true,decide_eq_true_eq] at hc
   intro θ' H' ev w' cls da xr
   have w2:=w'.take hc.1
   have ev2:=ev.take (n:=h.length) w.len.symm
   exact p _ _ ev2 w2 cls da xr
  ·exact p.elim
theorem aO.gP {P:Program} {w:World} {K:PySem.W.Frag} {mg:Str->Option Value} {base:Heap} {x:Str} {ps:List Str} {k:Nat} {F:Fn} (h:aO P w K mg base x ps k F):aO P w K mg base x ps k (Ml.gP F):=by
 obtain ⟨⟨f,fd,h1,h2,h3,h4⟩,ar⟩:=h
 refine ⟨⟨f,fd,h1,h2,h3,h4.imp fun vs H Q E ⟨θ,hm,ds,w,r,p⟩=>⟨θ,hm,ds,w,r,p.gP w⟩⟩,fun ds hm l=>?_⟩
 unfold Ml.gP
 rw [ar ds hm l]
end Ml
namespace L2
open PySem PySem.Spec
section
variable {X:Cx} {a b:Expr} {rest:List Expr} {ta tb:TE} {pos:Pos}
theorem Fg {r:V->Hp->(Bool->Hp->Prop)->Prop} (ht:Eh X r) (ha:PE X a ta) (hb:PE X (.BoolOp .Or (b::rest) pos) tb):PE X (.BoolOp .Or (a::b::rest) pos) (fun σ H Q=>ta σ H fun x H1=>r x H1 fun c H2=>H2=H1/\if c=true then Q x H1 else tb σ H1 Q):=by
 intro pins s σ H Q I h
 refine PyProof.Rows.BoolOp_or (bJ (ha pins s σ H _ I h) fun v s1 ⟨x,H1,I1,r1,q1⟩=>?_)
 refine bJ (ht pins s1 σ H1 x v _ I1 r1 q1) fun c s2 ⟨H2,I2,e,q2⟩=>?_
 subst e
 cases c with
 | false=>exact hb pins s2 σ H2 Q I2 q2
 | true=>exact ⟨x,H2,I2,r1,q2⟩
theorem Cp {r:V->Hp->(Bool->Hp->Prop)->Prop} (ht:Eh X r) (ha:PE X a ta) (hb:PE X (.BoolOp .And (b::rest) pos) tb):PE X (.BoolOp .And (a::b::rest) pos) (fun σ H Q=>ta σ H fun x H1=>r x H1 fun c H2=>H2=H1/\if c=true then tb σ H1 Q else Q x H1):=by
 intro pins s σ H Q I h
 refine PyProof.Rows.BoolOp_and (bJ (ha pins s σ H _ I h) fun v s1 ⟨x,H1,I1,r1,q1⟩=>?_)
 refine bJ (ht pins s1 σ H1 x v _ I1 r1 q1) fun c s2 ⟨H2,I2,e,q2⟩=>?_
 subst e
 cases c with
 | true=>exact hb pins s2 σ H2 Q I2 q2
 | false=>exact ⟨x,H2,I2,r1,q2⟩
end
end L2
namespace Ml
open PySem PySem.Spec L2
section
variable {X:Cx} {E:XK} {m a b c:ME} {t u:MT} {e e1 e2 e3:Expr} {es:List Expr} {ma:MA} {pos:Pos} {i:Nat} {x:Str}
def se (a b:ME):ME:=fun ρ h=>(a ρ h).bind fun x h1=>match truth x h1 with
 | some c=>if c then .ok x h1 else b ρ h1
 | none=>.bad
def jQ (a b:ME):ME:=fun ρ h=>(a ρ h).bind fun x h1=>match truth x h1 with
 | some c=>if c then b ρ h1 else .ok x h1
 | none=>.bad
theorem Fh (ha:DE X E a e1) (hb:DE X E b (.BoolOp .Or (e2::es) pos)):DE X E (se a b) (.BoolOp .Or (e1::e2::es) pos):=by
 simp only [bu] at *
 exact PE.imp (Fg u6 ha hb) fun σ H Q ⟨θ,h,ρ,w,fr,p⟩=>⟨θ,h,ρ,w,fr,(aD.bind p).mono fun d θ1 h1 H1 _ _ ⟨ev,w1,p1⟩ v r=>by
   split at p1
   ·rename_i b hb
    refine ⟨b,oM w1 r hb,rfl,?_⟩
    cases b with
    | true=>exact p1 θ1 H1 Ev.refl w1 v r
    | false=>exact ⟨θ1,h1,ρ,w1,fr.ev ev,p1⟩
   ·exact p1.elim⟩
theorem gw (ha:DE X E a e1) (hb:DE X E b (.BoolOp .And (e2::es) pos)):DE X E (jQ a b) (.BoolOp .And (e1::e2::es) pos):=by
 simp only [bu] at *
 exact PE.imp (Cp u6 ha hb) fun σ H Q ⟨θ,h,ρ,w,fr,p⟩=>⟨θ,h,ρ,w,fr,(aD.bind p).mono fun d θ1 h1 H1 _ _ ⟨ev,w1,p1⟩ v r=>by
   split at p1
   ·rename_i b hb
    refine ⟨b,oM w1 r hb,rfl,?_⟩
    cases b with
    | false=>exact p1 θ1 H1 Ev.refl w1 v r
    | true=>exact ⟨θ1,h1,ρ,w1,fr.ev ev,p1⟩
   ·exact p1.elim⟩
def j7 (f g:D->D->Hm->R D) (a b c:ME):ME:=fun ρ h=>(a ρ h).bind fun x h1=>(b ρ h1).bind fun y h2=>(f x y h2).bind fun z h3=>match z with
 | .dat (.bool k)=>if k then (c ρ h3).bind fun w h4=>g y w h4 else .ok (.bool false) h3
 | _=>.bad
theorem tU {G:Gx} {f g:D->D->Hm->R D} {σ:St} {H:Hp} {Q:VK} (h:lE G E (j7 f g a b c) σ H Q):u3 (EX G E f) (EX G E g) (lE G E a) (lE G E b) (lE G E c) σ H Q:=by
 obtain ⟨θ,h,ρ,w,fr,p⟩:=h
 refine ⟨θ,h,ρ,w,fr,(aD.bind p).mono fun x θ1 h1 H1 _ _ ⟨e1,w1,p1⟩ v r1=>?_⟩
 refine ⟨θ1,h1,ρ,w1,fr.ev e1,(aD.bind p1).mono fun y θ2 h2 H2 _ _ ⟨e2,w2,p2⟩ u r2=>⟨θ2,h2,x,y,w2,r1.ev e2,r2,(aD.bind p2).mono fun z θ3 h3 H3 _ _ ⟨e3,w3,p3⟩ z' r3=>?_⟩⟩
 cases z with
 | dat z=>
  cases z with
  | bool k=>
   refine ⟨k,r3.1,?_⟩
   cases k with
   | true=>exact ⟨θ3,h3,ρ,w3,(fr.ev e1).ev (e2.trans e3),(aD.bind p3).mono fun w' θ4 h4 H4 _ _ ⟨e4,w4,p4⟩ q r4=>⟨θ4,h4,y,w',w4,(r2.ev e3).ev e4,r4,p4⟩⟩
   | false=>exact p3 θ3 H3 Ev.refl w3 _ ⟨rfl,by simp [cI]⟩
  | _=>exact p3.elim
 | _=>exact p3.elim
theorem Ap {op op':CmpOp} {f g:D->D->Hm->R D} (ho:kq X E (compareOp op) f) (ho':kq X E (compareOp op') g) (ha:DE X E a e1) (hb:DE X E b e2) (hc:DE X E c e3)
  (hm:lastMarks [op,op'] [e2,e3]=false:=by with_unfolding_all rfl):DE X E (j7 f g a b c) (.Compare e1 [op,op'] [e2,e3] pos):=by
 simp only [bu] at *
 exact PE.imp (yS ho ho' ha hb hc hm) fun _ _ _=>tU
theorem Aq {op op':CmpOp} {f g:D->D->Hm->R D} (ho:kq X E (compareOp op) f) (ho':kq X E (compareOp op') g) (ha:DE X E a e1) (hb:DE X E b e2) (hc:DE X E c e3)
  (hm:lastMarks [op,op'] [e2,e3]=false:=by with_unfolding_all rfl):DT X E (aQ (j7 f g a b c)) (.Compare e1 [op,op'] [e2,e3] pos):=by
 simp only [bu,iH] at *
 exact PT.imp (yT ho ho' ha hb hc hm) fun _ _ _ q=>tU (wV q)
end
end Ml
namespace Ml
open PySem PySem.Spec L2
section
variable {X:Cx} {E:XK} {m a b c:ME} {t u:MT} {e e1 e2 e3 tg:Expr} {es:List Expr} {ma:MA} {pos:Pos} {i:Nat} {x:Str} {ss:List Stmt} {st:Stmt}
theorem dv (i:Nat) (hN:X.N[i]?=some x:=by rfl) (hv:Dc X.env.scope x:=by first | exact Or.inl rfl | exact Or.inr (Or.inl rfl) | exact Or.inr (Or.inr rfl)) (hd:(x == ("__debug__" : Str))=false:=by decide) (hcd:(x == ("__classdict__" : Str))=false:=by decide):DE X E (ab i) (.Name x pos):=EY hN hv hd hcd
theorem dg (i:Nat) (hN:X.N.Nodup) (hi:X.N[i]?=some x:=by rfl) (hx:Loc X.env.scope x:=by first | exact Or.inl rfl | exact Or.inr rfl) (hf:X.fn x=true\/X.env.scope.names.lookup x=some .local:=by first | exact .inl rfl | exact .inr rfl | assumption):DG X E (ah i) (.Name x pos):=B2 hN hi hx hf
def aE (e:ME):MA:=fun ρ h=>match e ρ h with
 | .ok (.dat (.tuple ds)) h1=>.ok (ds.map D.dat) h1
 | .ok (.dat (.list ds)) h1=>.ok (ds.map D.dat) h1
 | .ok (.dat (.str s)) h1=>.ok (signs s) h1
 | .ok (.ktup ds) h1=>.ok (ds.map D.dat) h1
 | .exc x h1=>.exc x h1
 | _=>.bad
theorem ck (h:DE X E m e):DI X E (aE m) tg e:=by
 have at':=E2 (tg:=tg) h
 have al':=E3 (tg:=tg) h
 have as':=E4 (tg:=tg) h
 have ak':=Cd (tg:=tg) h
 simp only [gS] at *
 intro pins s σ H QI I ⟨θ,hm,ρ,w,fr,p⟩
 cases em:m ρ hm with
 | bad=>simp only [aE,em] at p;exact p.elim
 | exc x h1=>
  simp only [aE,em] at p
  refine at' pins s σ H QI I ⟨θ,hm,ρ,w,fr,?_⟩
  simp only [wI,em,R.zm]
  exact p
 | ok d h1=>
  cases d with
  | dat d=>
   cases d with
   | tuple ds=>
    simp only [aE,em] at p
    refine at' pins s σ H QI I ⟨θ,hm,ρ,w,fr,?_⟩
    simp only [wI,em,R.aA]
    exact p
   | list ds=>
    simp only [aE,em] at p
    refine al' pins s σ H QI I ⟨θ,hm,ρ,w,fr,?_⟩
    simp only [zp,em,R.aA]
    exact p
   | str ds=>
    simp only [aE,em] at p
    refine as' pins s σ H QI I ⟨θ,hm,ρ,w,fr,?_⟩
    simp only [zq,em,R.aA]
    exact p
   | _=>simp only [aE,em] at p;exact p.elim
  | ktup ds=>
   simp only [aE,em] at p
   refine ak' pins s σ H QI I ⟨θ,hm,ρ,w,fr,?_⟩
   simp only [GQ,em,R.aA]
   exact p
  | _=>simp only [aE,em] at p;exact p.elim
end
section
variable {X:Cx} {E:XK} {m:ME} {e:Expr} {es:List Expr} {ma:MA} {pos pos' p p2:Pos} {i:Nat} {x T:Str} {f:Fn} {id n:String} {g:PyData->Bool}
theorem fj (i:Nat) (hN:X.N.Nodup) (he:DE X E m e) (hi:X.N[i]?=some x:=by rfl) (hx:Loc X.env.scope x:=by first | exact Or.inl rfl | exact Or.inr rfl) (hs:swapsWith e (some (.Name x pos')) pos.line X.env=pure false:=by kernel_rfl) (hf:X.fn x=true\/X.env.scope.names.lookup x=some .local:=by first | exact .inl rfl | exact .inr rfl | assumption) :
  DS X E (bK i m) (.Assign [.Name x pos'] e pos):=EZ hN hi hx he hs hf
theorem GU {a b:Expr} {y:Str} {px py pt:Pos} {kt k2 pt2} (i j:Nat) (hN:X.N.Nodup) (ha:DA X E ma [a,b]) (hc:X.calm=true:=by rfl) (hi:X.N[i]?=some x:=by rfl) (hj:X.N[j]?=some y:=by rfl) (hij:i≠j:=by decide)
  (hx:X.env.scope.names.lookup x=some .local:=by rfl) (hy:X.env.scope.names.lookup y=some .local:=by rfl)
  (hw:swappedStores [.Tuple [.Name x px,.Name y py] kt pt] (.Tuple [a,b] k2 pt2) X.env=pure (some [x,y]):=by kernel_rfl)
  (hs:swapsWithSole [.Tuple [.Name x px,.Name y py] kt pt] (.Tuple [a,b] k2 pt2) pos.line X.env=pure false:=by rfl) :
  DS X E (zo [i,j] ma) (.Assign [.Tuple [.Name x px,.Name y py] kt pt] (.Tuple [a,b] k2 pt2) pos):=by
 rw [gv] at ha
 exact B3 (Ef hc hN hi hj hij hx hy ha hw hs)
theorem iM (hc:ku X E (.builtin id) f) (hm:X.mg x=none) (hv:bootBuiltins x=some (.builtin id)) (ha:DA X E ma (e::es)) (hg:Gl X x:=by rfl) (hn:x ≠ "__name__" := by decide) (hdb:(x == ("__debug__" : Str))=false:=by decide)
  (he:starEach (e::es) X.env=(false,eval e X.env)::starEach es X.env:=by rfl) (hpl:(backTo pos (starEach es X.env)).any (·.1)=false:=by rfl):DE X E (af f ma) (.Call (.Name x p) (e::es) [] pos):=zJ hc hg hm hv ha hn hdb he hpl
theorem cx (hc:ku X E (.type id) f) (hm:X.mg x=none) (hv:bootBuiltins x=some (.type id)) (ha:DA X E ma (e::es)) (hg:Gl X x:=by rfl) (hn:x ≠ "__name__" := by decide) (hdb:(x == ("__debug__" : Str))=false:=by decide)
  (he:starEach (e::es) X.env=(false,eval e X.env)::starEach es X.env:=by rfl) (hpl:(backTo pos (starEach es X.env)).any (·.1)=false:=by rfl):DE X E (af f ma) (.Call (.Name x p) (e::es) [] pos):=yc hc hg hm hv ha hn hdb he hpl
theorem vE (kit:∀ d,PySem.W.kitOne X.K (.type (GC d)) (.type n)=some (g d)) (bt:bootBuiltins T=some (.type n)) (m1:X.mg "isinstance" = none) (m2:X.mg T=none) (h:DE X E m e) (g1:Gl X "isinstance" := by rfl) (g2:Gl X T:=by rfl) (hT:T ≠ "__name__" := by decide) (hT2:(T == ("__debug__" : Str))=false:=by decide)
  (hs:starEach [e,.Name T p2] X.env=(false,eval e X.env)::starEach [.Name T p2] X.env:=by rfl) (hs2:starEach [.Name T p2] X.env=[(false,eval (.Name T p2) X.env)]:=by rfl) (hpl:(backTo pos (starEach [.Name T p2] X.env)).any (·.1)=false:=by rfl):DE X E (Bc (qc g) m) (.Call (.Name "isinstance" p) [e,.Name T p2] [] pos):=Fb kit bt m1 m2 h g1 g2 hT hT2 hs hs2 hpl
end
def Df (K:PySem.W.Frag) (mg:Str->Option Value) (x:Str) (ps:List Str) (st:Stmt):Prop:=∃ f fd,mg x=some (.ref f)/\Dn K x x st f fd/\Binds K fd ps []
theorem dz {K:PySem.W.Frag} {h:Heap} {mg:Str->Option Value} {x:Str} {ps:List Str} {st:Stmt} {f:Addr} {od an:Option Addr} {sl:Array (Option Value)} {oc kV dc pm cd ct:Value} (X:K.In h) (G:h.Ns mainGlobals mg)
  (a:PySem.W.nsIn K mainGlobals x=some (some (.ref f))) (l:K.lookup f=some ⟨oc,od,.func (PySem.W.fnOf x x (gj st) (eJ st) (aF st) .none kV dc pm an cd ct),sl⟩) (c:PySem.W.codeIn K cd x=true) (k:PySem.W.keepIn K (.ref f)=true)
  (hb:∀ (kV doc pm:Value) (an:Option Addr) (cdv ct:Value) (us:List Value),us.length=ps.length->bindArgs (PySem.W.fnOf x x (gj st) (eJ st) (aF st) .none kV doc pm an cdv ct) ⟨us,[]⟩=pure (ps.zip us)):Df K mg x ps st:=
 ⟨f,_,PySem.W.mg_of X G a,vd l c k,(vd l c k).binds hb⟩
section
variable {P:Program} {w:World} {K:PySem.W.Frag} {mg:Str->Option Value} {base:Heap} {x:Str} {st:Stmt} {ps N:List Str} {k:Nat} {b:MS} {F:Fn}
theorem Df.has (d:Df K mg x ps st) (S:aV N ps (aF st)) (hbody:∀ (f:Addr) (cdv:Value) (A:Around) (outer:List Env) (s:Shared) (H:Hp) (E:XK),df k (A.deeper (PyProof.Rows.envOfC x (aF st) s.heap.objs.size f cdv)) ->
   zD (pQ (sQ P w) P w K mg base N x (aF st) f cdv A outer s H E) E b (eJ st)):aO P w K mg base x ps (k+1) (bF ps.length N.length b):=by
 obtain ⟨f,fd,h1,Fu,bd⟩:=d
 exact ⟨⟨f,fd,h1,Fu.kp,bd,JM Fu S (hbody f)⟩,qK⟩
end
theorem Fi:bootBuiltins "int" = some (.type "int"):=by decide +kernel
theorem Ar:bootBuiltins "any" = some (.builtin "any"):=by decide +kernel
theorem Fj {P:Program} {w:World} {K:PySem.W.Frag} {mg:Str->Option Value} {base:Heap} {k:Nat} {f:Addr} {fd:FuncData} {ps:List Str} {F F':Fn} (h:jF P w K mg base (sQ P w) k f fd ps (B5 ⟨P,w,mg,K⟩ F)) (e:F=F'):jF P w K mg base (sQ P w) k f fd ps (B5 ⟨P,w,mg,K⟩ F'):=e▸h
theorem As (H:Hp):view [] H=H:=by funext a;simp [view]
def DD (K:PySem.W.Frag):Sp:=fun vs H Q _=>∃ (a:Addr) (ns:List Int),vs=[.ref a]/\gD K H a (ns.map V.int)/\ns.length<=63/\∀ H',Q (.bl true) H'
theorem Au {G:Gx} {F:Fn} (hp:∀ ns:List Int,ns.length<=63->∃ h,F [.scr ns] []=.ok (.bool true) h) {vs:List V} {H:Hp} {Q:VK} {E:XK} (z:DD G.K vs H Q E):B5 G F vs H Q E:=by
 obtain ⟨a,ns,rfl,hs,hl,q⟩:=z
 obtain ⟨h',e⟩:=hp ns hl
 refine ⟨[],[],[.scr ns],⟨rfl,.nil,fun i a o e=>by simp at e⟩,.cons ⟨a,rfl,by rw [As];exact hs⟩ .nil,?_⟩
 rw [e]
 intro θ' H' _ _ v r
 cases r.1
 exact q H'
end Ml
namespace Ml
open PySem
def qN:MS:=aU (ko (Ba (iR (bL (Bc (qc isStr) (ab 0)))) (iR (aQ (j7 oLe oLe (ag (.int 1)) (af dX (aa (ab 0) (ai))) (ag (.int 6)))))) (bR (ag (.bool false))) (cB))
    (bR (af iZ (aa (aT 1 (aE (ab 0)) (ah 0) (bT) (j7 oLe oLe (ag (.str "a")) (ab 0) (ag (.str "z")))) (ai))))
def fR:Fn:=bF 1 1 qN
end Ml
namespace Ml
open PySem
def mR:MS:=bR (af iZ (aa (aT 2 (wJ (aa (ab 0) (aa (EV (ab 0) (n9 (ag (.int 1))) (n8)) (ai)))) (jE (cM (ah 0) (cM (ah 1) (jD)))) (bT) (ao oLt (ab 0) (ab 1))) (ai)))
def cG:Fn:=bF 1 1 mR
end Ml
namespace Ml
open PySem
def mS:MS:=aU (ko (Ba (iR (bL (Bc (qc isTup) (ab 0)))) (aQ (ao Bd (af dX (aa (ab 0) (ai))) (ag (.int 12))))) (bR (ag (.bool false))) (cB))
    (bR (jQ (af iZ (aa (aT 1 (aE (ab 0)) (ah 0) (bT) (af fR (aa (ab 0) (ai)))) (ai))) (af cG (aa (ab 0) (ai)))))
def fx:Fn:=bF 1 1 mS
end Ml
namespace Ml
open PySem
def tV:MS:=aU (ko (iR (bL (Bc (qc isTup) (ab 0)))) (bR (ag (.bool false))) (cB))
    (bR (jQ (af iZ (aa (aT 1 (aE (ab 0)) (ah 0) (bT) (ao vp (ab 0) (ab 2))) (ai))) (af cG (aa (ab 0) (ai)))))
def i8:Fn:=bF 2 2 tV
end Ml
namespace Ml
open PySem
def gx:MS:=aU (ko (Ba (iR (bL (Bc (qc isTup) (ab 0)))) (aQ (ao nZ (af dX (aa (ab 0) (ai))) (ag (.int 2))))) (bR (ag (.bool false))) (cB))
    (aU (nW (jE (cM (ah 2) (cM (ah 3) (jD)))) (ab 0))
    (bR (jQ (af i8 (aa (ab 2) (aa (ab 1) (ai)))) (jQ (ao Bd (af dX (aa (ab 2) (ai))) (ag (.int 0))) (ao vp (ab 3) (ab 1))))))
def cb:Fn:=bF 2 4 gx
end Ml
namespace Ml
open PySem
def fN:MS:=aU (ko (Ba (iR (bL (Bc (qc isTup) (ab 0)))) (aQ (ao Bd (af dX (aa (ab 0) (ai))) (ag (.int 4))))) (bR (ag (.bool false))) (cB))
    (bR (jQ (af iZ (aa (aT 1 (aE (ab 0)) (ah 0) (bT) (af cb (aa (ab 0) (aa (ab 2) (ai))))) (ai))) (af cG (aa (ab 0) (ai)))))
def cq:Fn:=bF 2 2 fN
end Ml
namespace Ml
open PySem
def oS:MS:=aU (ko (Ba (iR (bL (Bc (qc isTup) (ab 0)))) (aQ (ao nZ (af dX (aa (ab 0) (ai))) (ag (.int 2))))) (bR (ag (.bool false))) (cB))
    (aU (nW (jE (cM (ah 1) (cM (ah 2) (jD)))) (ab 0))
    (bR (jQ (af fx (aa (ab 1) (ai))) (jQ (ao oLe (af dX (aa (ab 1) (ai))) (ag (.int 4))) (af cq (aa (ab 2) (aa (ab 1) (ai))))))))
def gb:Fn:=bF 1 3 oS
end Ml
namespace L2
open PySem PySem.Spec
end L2
namespace Ml
open PySem PySem.Spec L2 PyProof.Rows
section
variable {P:Program} {w:World} {K:PySem.W.Frag} {mg:Str->Option Value} {base:Heap} {N:List Str} {qual:Str} {scope:Scope} {f:Addr} {cd:Value} {A:Around} {outer:List Env} {s:Shared} {H:Hp} {E:XK}
end
end Ml
namespace Ml
open PySem PySem.Spec L2 PyProof.Rows
section
variable {X:Cx} {E:XK}
end
end Ml
namespace L2
open PySem PySem.Spec PyProof.Rows
end L2
namespace Ml
open PySem PySem.Spec L2
section
variable {P:Program} {w:World} {K:PySem.W.Frag} {mg:Str->Option Value} {base:Heap} {x:Str} {st:Stmt} {ps N:List Str} {k:Nat} {b:MS} {F:Fn} {Pt:Addr}
end
end Ml
namespace Wh
open PySem L2
def marks (j:Nat):List Bool:=[decide (0=j),decide (1=j),decide (2=j),decide (3=j),decide (4=j),decide (5=j),decide (6=j),decide (7=j),decide (8=j),decide (9=j),decide (10=j),decide (11=j),decide (12=j),decide (13=j)]
end Wh
namespace Ml
open PySem PySem.Spec L2
section
variable {X:Cx} {E:XK} {st:Stmt}
def GV:MS:=fun _ _=>.bad
theorem Fo:DS X E GV st:=by
 simp only [gR] at *
 exact fun pins s σ H C I ⟨θ,hm,ρ,w,fr,p⟩=>p.elim
end
end Ml
namespace Ml
open PySem
def jR:MS:=ko (iR (bL (af gb (aa (ab 0) (ai))))) (GV) (cB)
def cJ:Fn:=bF 1 1 jR
end Ml
namespace Ml
open PySem
def fO:List PyData:=[.str "in",.str "open",.str "out"]
end Ml
namespace Ml
open PySem
def mT:MS:=aU (ko (Ba (iR (bL (Bc (qc isTup) (ab 0)))) (aQ (ao nZ (af dX (aa (ab 0) (ai))) (af dX (aa (ab 1) (ai)))))) (bR (ag (.bool false))) (cB))
    (bR (af iZ (aa (aT 1 (aE (ab 0)) (ah 0) (bT) (ao vp (ab 0) (FZ fO))) (ai))))
def fz:Fn:=bF 2 2 mT
end Ml
namespace Ml
open PySem
def lp:MS:=aU (bK 3 (aT 2 (aE (ab 0)) (jE (cM (ah 0) (cM (ah 1) (jD)))) (aQ (ao oEq (ab 1) (ab 4))) (ab 0)))
    (aU (ko (bL (af qb (aa (aT 1 (aE (ab 3)) (ah 0) (bT) (af iZ (aa (aT 1 (aE (ab 0)) (ah 0) (bT) (ao oEq (ao fv (ab 3) (ab 0)) (ag (.str "in")))) (ai)))) (ai)))) (bR (ag (.str "out"))) (cB))
    (aU (ko (bL (af iZ (aa (aT 1 (aE (ab 3)) (ah 0) (bT) (af qb (aa (aT 1 (aE (ab 0)) (ah 0) (bT) (ao oEq (ao fv (ab 3) (ab 0)) (ag (.str "out")))) (ai)))) (ai)))) (bR (ag (.str "in"))) (cB))
    (bR (ag (.str "open")))))
def dD:Fn:=bF 3 4 lp
end Ml
namespace L2
open PySem PySem.Spec PyProof.Rows
section
variable {X:Cx} {e:Expr} {es:List Expr} {p:Pos} {te:TE} {t:TA}
def GW (te:TE) (t:TA) (K:PySem.W.Frag):TA:=fun σ H Q=>te σ H fun x H1=>∃ a vs,x=.ref a/\(H1 a=some (.lst vs)\/eZ K H1 a vs)/\t σ H1 fun us H2=>Q (vs++us) H2
theorem Cq (ha:PE X e te) (hr:PA X es t) (he:starEach (.Starred e p::es) X.env=(true,eval e X.env)::starEach es X.env:=by rfl):PA X (.Starred e p::es) (GW te t X.K):=by
 intro pos pins s σ H Q I h
 refine PySem.W.items_star (bJ (ha pins s σ H _ I h) fun u s1 ⟨x,H1,I1,r1,a,vs,hx,hseq,q1⟩=>?_) he
 subst hx
 cases r1
 have key:∀ (its:List Value),Vals vs its->∀ h',(∀ b o',s1.heap.get? b=some o'->h'.get? b=some o')->wpAny (model X.prog X.w) X.A (spliced (backTo pos (starEach es X.env))) (fun ws s3=>AP X pins σ Q (its++ws) s3) X.xe {s1 with heap:=h'}:=fun its rv h' hk=>by
  have I2:Inv X pins σ H1 {s1 with heap:=h'}:=I1.kept (t':=s1.toks) hk
  exact bJ (hr pos pins _ σ H1 _ I2 q1) fun us s2 ⟨xs,H2,I3,r2,q2⟩=>⟨vs++xs,H2,I3,rv.append r2,q2⟩
 unfold PySem.W.StarOf notIterableAtAll
 rcases hseq with hl | ht
 ·obtain ⟨its,n,rv,eo,hz⟩:=I1.lst hl
  have hT':s1.TypeIs (.ref a) "list" := ⟨_,eo,rfl⟩
  refine wpAny_bind (wpAny_specialOf hT' PySem.F.slot_list_iter.lookup (wpAny_pure ⟨rfl,?_⟩))
  exact wpAny_collect_seq a (.inl rfl) eo rfl rfl (fun h' hk=>by simpa using key its rv h' hk) (by rw [List.size_toArray,<- rv.length];exact hz)
 ·obtain ⟨its,rv,⟨o,eo,hc,n,hd⟩,hz⟩:=I1.tuple ht
  have hT':s1.TypeIs (.ref a) "tuple" := ⟨o,eo,hc⟩
  refine wpAny_bind (wpAny_specialOf hT' PySem.F.slot_tuple_iter.lookup (wpAny_pure ⟨rfl,?_⟩))
  exact wpAny_collect_seq a (.inr rfl) eo hc hd (fun h' hk=>by simpa using key its rv h' hk) (by rw [List.size_toArray,<- rv.length];exact hz)
end
end L2
namespace Ml
open PySem PySem.Spec L2
def tW (x:D) (h:Hm):Option (List PyData):=match x with
 | .dat (.tuple ds)=>some ds
 | .ktup ds=>some ds
 | x=>listOf x h
def tX (m:ME) (a:MA):MA:=fun ρ h=>(m ρ h).bind fun x h1=>match tW x h1 with
 | some ds=>(a ρ h1).bind fun ys h2=>.ok (ds.map D.dat++ys) h2
 | Option.none=>.bad
section
variable {X:Cx} {E:XK} {m:ME} {a:MA} {e:Expr} {es:List Expr} {p:Pos}
theorem j8 {G:Gx} {θ:List Addr} {H:Hp}:∀ {ds:List PyData} {vs:List V},aW (view θ H) ds vs->bW ds=true->aJ G θ H (ds.map D.dat) vs
 | [],_,r,_=>by simp only [aW] at r;subst r;exact .nil
 | d::ds,_,r,s=>by
  simp only [bW,Bool.and_eq_true] at s
  obtain ⟨w,ws,rfl,r1,r2⟩:=r
  exact .cons ⟨r1,s.1⟩ (j8 r2 s.2)
theorem qO {G:Gx} {θ:List Addr} {H:Hp}:∀ {xs ys:List D} {vs us:List V},aJ G θ H xs vs->aJ G θ H ys us->aJ G θ H (xs++ys) (vs++us)
 | _,_,_,_,.nil,r=>r
 | _,_,_,_,.cons a r,q=>.cons a (qO r q)
theorem tY {G:Gx} {θ:List Addr} {H:Hp}:∀ {xs:List PyData},(∀ x∈xs,(match x with | .int _ | .str _ | .bool _ | .none=>true | _=>false)=true)->bW xs=true->aJ G θ H (xs.map D.dat) (xs.map Dx)
 | [],_,_=>.nil
 | d::ds,h,s=>by
  simp only [bW,Bool.and_eq_true] at s
  refine .cons ⟨?_,s.1⟩ (tY (fun x m=>h x (List.mem_cons_of_mem _ m)) s.2)
  have:=h d (List.mem_cons_self ..)
  cases d<;>first | rfl | simp at this
theorem Cr (hm:DE X E m e) (ha:DA X E a es) (he:starEach (.Starred e p::es) X.env=(true,eval e X.env)::starEach es X.env:=by rfl):DA X E (tX m a) (.Starred e p::es):=by
 simp only [bu,gv] at *
 intro pos pins s σ H Q I ⟨θ,h,ρ,w,fr,p⟩
 refine Cq hm ha he pos pins s σ H Q I ⟨θ,h,ρ,w,fr,(aD.bind p).mono fun d θ1 h1 H1 _ _ ⟨ev,w1,p1⟩ v r=>?_⟩
 have fin:∀ (b:Addr) (ds:List PyData) (vs:List V),v=.ref b->(H1 b=some (.lst vs)\/eZ X.K H1 b vs)->aJ X.G θ1 H1 (ds.map D.dat) vs->tW d h1=some ds->∃ a_1 vs,v=.ref a_1/\(H1 a_1=some (.lst vs)\/eZ X.K H1 a_1 vs)/\lA X.G E a σ H1 fun us H2=>Q (vs++us) H2:=fun b ds vs e1 e2 e3 e4=>by
  rw [e4] at p1
  refine ⟨b,vs,e1,e2,θ1,h1,ρ,w1,fr.ev ev,(aD.bind p1).mono fun ys θ2 h2 H2 _ _ ⟨ev2,w2,p2⟩ us ru=>?_⟩
  exact p2 θ2 H2 Ev.refl w2 _ (qO (e3.ev ev2) ru)
 cases hs:tW d h1 with
 | none=>rw [hs] at p1;exact p1.elim
 | some ds=>
  have hs':=hs
  unfold tW at hs
  split at hs
  ·cases hs
   obtain ⟨⟨b,vs,rfl,hb,rr⟩,so⟩:=r
   exact fin b ds vs rfl (.inr (.inl (.inl (ay _ _ _ _ hb)))) (j8 rr (by simpa [cI] using so)) hs'
  ·cases hs
   obtain ⟨b,rfl,⟨o,its,n,k1,k2,k3,k4,k5⟩,k6,k7⟩:=r
   exact fin b ds _ rfl (.inr (.inr ⟨o,its,n,k1,k2,k3,k4,k5⟩)) (tY k6 k7) hs'
  ·obtain ⟨b,vs,rfl,hb,rr,so⟩:=nA w1 r hs
   exact fin b ds vs rfl (.inl hb) (j8 rr so) hs'
end
end Ml
namespace L2
open PySem PySem.Spec PyProof.Rows
section
variable {prog:Program} {w:World} {A:Around} {R:Result->Shared->Prop} {s:Shared} {elt target iter target2 iter2:Expr} {ifs ifs2:List Expr} {scope:Scope} {pos:Pos} {it acc:Value} {env:Env}
theorem tZ:compTurn (.ListComp elt [⟨target,iter,ifs,0⟩,⟨target2,iter2,ifs2,0⟩] scope pos) 0 it acc env=(do
   standAt iter.pos
   match <- pyNext it with
   | none=>pure (.done .next)
   | some v=>
    letOwnedTupleGo target it v
    assign target env v
    let mut ok:=true
    for c in ifs do
     if ok then ok <- isTrue c env (eval c env)
    if ok then
     let x <- eval iter2 env
     standAt iter2.pos
     let x <- foldedSetIterable iter2 env x
     let _ <- runOwn (.compStart (.ListComp elt [⟨target,iter,ifs,0⟩,⟨target2,iter2,ifs2,0⟩] scope pos) 1 (<- holding [x] (pyIter x)) acc env) env
    again (.compLoop (.ListComp elt [⟨target,iter,ifs,0⟩,⟨target2,iter2,ifs2,0⟩] scope pos) 0 it acc env)):=by rfl
theorem ua:compTurn (.ListComp elt [⟨target,iter,ifs,0⟩,⟨target2,iter2,ifs2,0⟩] scope pos) 1 it acc env=(do
   standAt iter2.pos
   match <- pyNext it with
   | none=>pure (.done .next)
   | some v=>
    letOwnedTupleGo target2 it v
    assign target2 env v
    let mut ok:=true
    for c in ifs2 do
     if ok then ok <- isTrue c env (eval c env)
    if ok then
     (do let _ <- call (.builtin "list.append") [acc,<- eval elt env])
    again (.compLoop (.ListComp elt [⟨target,iter,ifs,0⟩,⟨target2,iter2,ifs2,0⟩] scope pos) 1 it acc env)):=by rfl
theorem qd (I:Nat->Shared->Prop)
  (turn:∀ n s,I n s->wpAny (model prog w) A (pyNext it) (fun r s1=>match r with
   | none=>R (.ok .next) s1
   | some v=>wpAny (model prog w) A (letOwnedTupleGo target2 it v) (fun _ s2=>wpAny (model prog w) A (assign target2 env v) (fun _ s3=>
     wpAny (model prog w) A (forIn ifs2 true fun c r=>if r=true then do let ok <- isTrue c env (eval c env);pure (ForInStep.yield ok) else pure (ForInStep.yield r)) (fun ok s4=>
      if ok=true then wpAny (model prog w) A (eval elt env) (fun x s5=>
       wpAny (model prog w) A (call (.builtin "list.append") [acc,x]) (fun _ s6=>∃ m,m < n/\I m s6) (fun _ _=>False) s5) (fun _ _=>False) s4
      else ∃ m,m < n/\I m s4) (fun _ _=>False) s3) (fun _ _=>False) s2) (fun _ _=>False) s1) (fun _ _=>False) s)
  (n:Nat) (h:I n s) :
  codeAny (model prog w) A (.compLoop (.ListComp elt [⟨target,iter,ifs,0⟩,⟨target2,iter2,ifs2,0⟩] scope pos) 1 it acc env) R s:=by
 refine codeAny_loop rfl I (fun n s hI=>?_) n h
 show wpAny _ A ((compTurn (.ListComp elt [⟨target,iter,ifs,0⟩,⟨target2,iter2,ifs2,0⟩] scope pos) 1 it acc env).onRaise (fun x=>do noteFrame x env;theTreesLotGoes x)) _ _ s
 refine wpAny_noted ?_
 rw [ua]
 refine wpAny_mono (E:=fun _ _=>False) (E':=_) (Q':=_) ?_ (fun _ _ q=>q) fun _ _ z=>z.elim
 refine wpAny_bind (wpAny_standAt (wpAny_bind (bJ (turn n s hI) (fun r s1 h1=>?_))))
 cases r with
 | none=>exact wpAny_pure h1
 | some v=>
  refine wpAny_bind (bJ h1 fun _ s2 h2=>?_)
  refine wpAny_bind (bJ h2 fun _ s3 h3=>wpAny_bind (bJ h3 fun ok s4 h4=>?_))
  cases ok with
  | false=>exact wpAny_pure ⟨rfl,h4⟩
  | true=>exact wpAny_bind (wpAny_bind (bJ h4 fun x s5 h5=>wpAny_bind (bJ h5 fun _ s6 h6=>wpAny_pure (wpAny_pure ⟨rfl,h6⟩))))
theorem qe (hs:∀ x,foldedSetIterable iter2 env x=pure x) (I:Nat->Shared->Prop)
  (turn:∀ n s,I n s->wpAny (model prog w) A (pyNext it) (fun r s1=>match r with
   | none=>R (.ok .next) s1
   | some v=>wpAny (model prog w) A (letOwnedTupleGo target it v) (fun _ s2=>wpAny (model prog w) A (assign target env v) (fun _ s3=>
     wpAny (model prog w) A (forIn ifs true fun c r=>if r=true then do let ok <- isTrue c env (eval c env);pure (ForInStep.yield ok) else pure (ForInStep.yield r)) (fun ok s4=>
      if ok=true then wpAny (model prog w) A (eval iter2 env) (fun x s5=>
       wpAny (model prog w) A (pyIter x) (fun it2 s6=>codeAny (model prog w) (A.mark none) (.compStart (.ListComp elt [⟨target,iter,ifs,0⟩,⟨target2,iter2,ifs2,0⟩] scope pos) 1 it2 acc env) (fun r s7=>match r with | .ok _=>∃ m,m < n/\I m s7 | .error _=>False) s6) (fun _ _=>False) s5) (fun _ _=>False) s4
      else ∃ m,m < n/\I m s4) (fun _ _=>False) s3) (fun _ _=>False) s2) (fun _ _=>False) s1) (fun _ _=>False) s)
  (n:Nat) (h:I n s) :
  codeAny (model prog w) A (.compLoop (.ListComp elt [⟨target,iter,ifs,0⟩,⟨target2,iter2,ifs2,0⟩] scope pos) 0 it acc env) R s:=by
 refine codeAny_loop rfl I (fun n s hI=>?_) n h
 show wpAny _ A ((compTurn (.ListComp elt [⟨target,iter,ifs,0⟩,⟨target2,iter2,ifs2,0⟩] scope pos) 0 it acc env).onRaise (fun x=>do noteFrame x env;theTreesLotGoes x)) _ _ s
 refine wpAny_noted ?_
 rw [tZ]
 refine wpAny_mono (E:=fun _ _=>False) (E':=_) (Q':=_) ?_ (fun _ _ q=>q) fun _ _ z=>z.elim
 refine wpAny_bind (wpAny_standAt (wpAny_bind (bJ (turn n s hI) (fun r s1 h1=>?_))))
 cases r with
 | none=>exact wpAny_pure h1
 | some v=>
  refine wpAny_bind (bJ h1 fun _ s2 h2=>?_)
  refine wpAny_bind (bJ h2 fun _ s3 h3=>wpAny_bind (bJ h3 fun ok s4 h4=>?_))
  cases ok with
  | false=>exact wpAny_pure ⟨rfl,h4⟩
  | true=>
   refine wpAny_bind (bJ h4 fun x s5 h5=>wpAny_bind (wpAny_standAt (wpAny_bind (wpAny_of_eq (hs x) (wpAny_bind (wpAny_holding (bJ h5 fun it2 s6 h6=>?_)))))))
   refine wpAny_bind (wpAny_runOwn (codeAny_mono h6 fun r s7 h7=>?_))
   cases r with
   | error e=>exact h7.elim
   | ok f=>exact wpAny_pure ⟨rfl,h7⟩
theorem si {R:Result->Shared->Prop}
  (h0:codeAny (model prog w) A (.compLoop (.ListComp elt [⟨target,iter,ifs,0⟩,⟨target2,iter2,ifs2,0⟩] scope pos) 1 it acc env) R s)
  (h:wpAny (model prog w) A (pyIter it) (fun it' s'=>codeAny (model prog w) A (.compLoop (.ListComp elt [⟨target,iter,ifs,0⟩,⟨target2,iter2,ifs2,0⟩] scope pos) 1 it' acc env) R s')
   (notedBy (model prog w) A env fun x s'=>R (.error x) s') s) :
  codeAny (model prog w) A (.compStart (.ListComp elt [⟨target,iter,ifs,0⟩,⟨target2,iter2,ifs2,0⟩] scope pos) 1 it acc env) R s:=by
 refine codeAny_of_tree ?_
 show wpAny _ _ ((compStart (.ListComp elt [⟨target,iter,ifs,0⟩,⟨target2,iter2,ifs2,0⟩] scope pos) 1 it acc env).onRaise (fun x=>do noteFrame x env;standAt theWindowsPlace)) _ _ s
 refine wpAny_notedAt ?_
 unfold compStart
 show wpAny _ _ (ask >>= _) _ _ s
 refine wpAny_bind (wpAny_askSetting (wpAny_ite ?_))
 split
 ·first
   | exact wpAny_bind (wpAny_pure (wpAny_pure (And.intro rfl h0)))
   | exact wpAny_pure (And.intro rfl h0)
 ·first
   | exact wpAny_bind (wpAny_rule (wpAny_bind (wpAny_standAt (wpAny_bind (wpAny_mono h (fun it' s' h'=>wpAny_pure (And.intro rfl h')) fun _ _ x=>x)))))
   | (refine wpAny_bind (wpAny_rule ?_);show wpAny _ _ (standAt iter2.pos >>= _) _ _ s;exact wpAny_bind (wpAny_standAt (wpAny_bind (wpAny_mono h (fun it' s' h'=>wpAny_pure (And.intro rfl h')) fun _ _ x=>x))))
end
def vF (n:Nat) (J:It) (g:TG) (tc:TT) (wi2:TI) (g2:TG) (tc2:TT) (te:TE) (σ:St) (H:Hp) (Q:VK):Prop:=
 ∃ W:Nat->Nat->List V->Hp->Prop,(∃ m,W 0 m [] H)/\∀ i m ys H,W i m ys H ->
  (J.stop i H/\ys.length<=sizeLine/\∀ p,H p=none->Q (.ref p) (upd H p (.lst ys))) \/
  (J.go i H/\ys.length<=sizeLine/\∃ N:List V->Hp->Prop,(∀ ys' H',N ys' H'->∃ m',m' < m/\W (i+1) m' ys' H')/\∀ x H',J.yld i H x H'->g x (List.replicate n none++σ) H' fun σ2 H2=>tc σ2 H2 fun b H3=>
   if b=true then wi2 σ2 H3 fun J2 H4=>∃ W2:Nat->Nat->St->List V->Hp->Prop,(∃ m2,W2 0 m2 σ2 ys H4)/\∀ i2 m2 σ3 zs H5,W2 i2 m2 σ3 zs H5 ->
    (J2.stop i2 H5/\N zs H5) \/
    (J2.go i2 H5/\zs.length<=sizeLine/\∃ N2:St->List V->Hp->Prop,(∀ σ' zs' H',N2 σ' zs' H'->∃ m',m' < m2/\W2 (i2+1) m' σ' zs' H')/\∀ x2 H6,J2.yld i2 H5 x2 H6->g2 x2 σ3 H6 fun σ4 H7=>tc2 σ4 H7 fun b2 H8=>
     if b2=true then te σ4 H8 fun y H9=>N2 σ4 (zs++[y]) H9 else N2 σ4 zs H8)
   else N ys H3)
theorem ub {X:Cx} {own:List Str} {scope:Scope} {pins:List (Addr×Obj)} {σ:St} {H2:Hp} {s2:Shared} {fp:List Addr} {it:Addr} {tn:Nat->Heap->Prop} {J:It} {elt tg iter tg2 iter2:Expr} {ifs ifs2:List Expr} {pos:Pos} {g g2:TG} {tc tc2:TT} {wi2:TI} {te:TE} {Q:VK}
  {RR:Value->Addr->Result->Shared->Prop} {E:Value->Shared->Prop} (I:Inv X pins σ H2 s2) (CS:cC X.env.scope X.N own scope) (hc:X.calm=true) (T:Turn X.prog X.w X.K tg J fp it tn) (st:tn 0 s2.heap) (hf:∀ b∈fp,g9 X pins H2 b)
  (hg:∀ C s2 H2 fp pins,PG (ax X own scope C s2 H2 fp pins) tg g) (ht:∀ C s2 H2 fp pins,yF (ax X own scope C s2 H2 fp pins) ifs tc) (he:∀ C s2 H2 fp pins,PE (ax X own scope C s2 H2 fp pins) elt te) (hi2:∀ C s2 H2 fp pins,PI (ax X own scope C s2 H2 fp pins) tg2 iter2 wi2) (hg2:∀ C s2 H2 fp pins,PG (ax X own scope C s2 H2 fp pins) tg2 g2) (ht2:∀ C s2 H2 fp pins,yF (ax X own scope C s2 H2 fp pins) ifs2 tc2) (hs2:∀ (env:Env) x,foldedSetIterable iter2 env x=pure x)
  (hW:vF own.length J g tc wi2 g2 tc2 te σ H2 Q)
  (hR:∀ D C H' s',Inv X pins σ H' s'->g9 X pins H' C->(∃ m,s'.heap.Ns C m)->Q (.ref D) H'->Kept X fp H2 H' s2 s'->RR (.ref D) C (.ok .next) s') :
  wpAny (model X.prog X.w) X.A (newList []) (fun acc s3=>wpAny (model X.prog X.w) X.A (newFunctionEnv scope X.env.globals (eA X.env.cells scope.names []) [] X.env.qual none .none (some X.env)) (fun cenv s4=>
   codeAny (model X.prog X.w) X.A (.compStart (.ListComp elt [⟨tg,iter,ifs,0⟩,⟨tg2,iter2,ifs2,0⟩] scope pos) 0 (.ref it) acc {cenv with scope:=relabel scope X.env}) (RR acc cenv.locals) s4) E s3) E s2:=by
 refine wpAny_newObj_type (jK ?_)
 dsimp only
 generalize hH:s2.heap.push {cls:=.type "list",dict:=none,data:=.seq ([]:List Value).toArray}=h3
 have hDC:h3.objs.size=s2.heap.objs.size+1:=by rw [<- hH,Heap.size_push]
 have eC:({scope:=relabel scope X.env,locals:=h3.objs.size,globals:=X.env.globals,cells:=cellsFrom (h3.objs.size+1) scope.names (eA X.env.cells scope.names []),qual:=X.env.qual,func:=none,code:=X.env.code,frame:=X.env.frame,builtins:=X.env.builtins}:Env)=iU scope h3.objs.size X.env:=rfl
 rw [eC]
 generalize eD:s2.heap.objs.size=D at *
 generalize eCC:h3.objs.size=C at *
 have hl:∀ b∈fp,b < s2.heap.objs.size:=fun b hb=>by
  obtain ⟨o,e,_⟩:=T.obj 0 _ st b hb
  exact Heap.lt_size e
 have hC:s2.heap.objs.size<=C:=by omega
 generalize hH4:pushCells (h3.push {cls:=.type "dict",data:=.dict #[]}) scope.names=h4
 have k34:∀ b o,(h3.push {cls:=.type "dict",data:=.dict #[]}).get? b=some o->h4.get? b=some o:=fun b o e=>by rw [<- hH4];exact pushCells_keeps _ _ b o e
 have k24:∀ b o,s2.heap.get? b=some o->h4.get? b=some o:=fun b o e=>k34 b o (Heap.get?_push_of_some _ (by rw [<- hH];exact Heap.get?_push_of_some _ e))
 have nsC:h4.Ns C fun _=>none:=by
  have:=Heap.Ns.new h3 (.type "dict")
  rw [eCC] at this
  exact this.keeps k34
 have accD:h4.get? D=some {cls:=.type "list",data:=.seq (([]:List Value).toArray)}:=k34 _ _ (Heap.get?_push_of_some _ (by rw [<- hH,<- eD];exact Heap.get?_push_size _ rfl))
 have cellN:∀ x c,(x,c)∈cellsFrom (C+1) scope.names []->h4.IsCell c none/\C+1<=c:=fun x c hm=>by
  have ok:=cellsFrom_ok scope.names (h3.push {cls:=.type "dict",data:=.dict #[]}) (C+1) [] ⟨fun _ _ hm=>(nomatch hm),List.Pairwise.nil⟩ (by rw [Heap.size_push];omega)
  rw [Heap.size_push,eCC,hH4] at ok
  exact ok.empty x c hm
 have hne:H2 D=none:=by rw [<- eD];exact I.hok.fresh (Nat.le_refl _)
 have ok':(ax X own scope C s2 H2 fp pins).Ok:=wu I CS hC hf hl
 have rebase:∀ {σ':St} {H':Hp} {ps:List (Addr×Obj)} {s':Shared},Inv (ax X own scope C s2 H2 fp pins) ps σ' H' s'->Inv (ax X own scope C s2 H2 fp pins) ps (List.replicate own.length none++σ) H' s':=fun {σ' H' ps s'} J'=>by
  obtain ⟨m,hn,_⟩:=J'.loc
  refine ⟨J'.ok,J'.os,J'.bare,J'.base,⟨m,hn,kE I CS fun c v z ⟨x,hx⟩=>?_⟩,J'.cell,J'.free,J'.freeC,J'.pin,J'.hok,?_⟩
  ·obtain ⟨o,ho,hd⟩:=z
   obtain ⟨sl,e⟩:=J'.base.any ho (I.freeC x c hx) fun hb=>(hf c hb).2.2.2.2.1 x c hx rfl
   exact ⟨_,e,hd⟩
  ·show (List.replicate own.length none++σ).length=(own++X.N).length
   rw [List.length_append,List.length_append,List.length_replicate,I.len]
 have start:Inv (ax X own scope C s2 H2 fp pins) [] (List.replicate own.length none++σ) H2 {s2 with heap:=h4}:=by
  have I4:Inv X pins σ H2 {s2 with heap:=h4}:=I.kept (t':=s2.toks) k24
  refine ⟨ok',rfl,I.bare,Un.kept k24,⟨_,nsC,kE I CS fun c v z _=>z.keeps k24⟩,fun x c h=>?_,I.hok.fresh hC,fun x c h=>?_,fun p hp=>?_,I4.hok,?_⟩
  ·rcases cw h with ⟨a,_,_⟩ | a
   ·exact ⟨_,(cellN x c a).1⟩
   ·obtain ⟨v,z⟩:=I.cell x c (fu I CS a).2
    exact ⟨v,z.keeps k24⟩
  ·rcases cw h with ⟨_,_,a⟩ | a
   ·exact I.hok.fresh (Nat.le_trans hC (Nat.le_trans (Nat.le_succ _) a))
   ·exact I.freeC x c (fu I CS a).2
  ·have hp':p∈X.pn++pins:=by
    rcases List.mem_append.mp hp with z | z
    ·exact z
    ·exact nomatch z
   obtain ⟨e,n,ne,nf,d⟩:=I.pin p hp'
   refine ⟨k24 _ _ e,n,Nat.ne_of_lt (Nat.lt_of_lt_of_le (Heap.lt_size e) hC),fun z=>?_,d⟩
   rcases List.mem_cons.mp (I.iQ _ z) with q | q
   ·exact ne q
   ·exact nf q
  ·show (List.replicate own.length none++σ).length=(own++X.N).length
   rw [List.length_append,List.length_append,List.length_replicate,I.len]
 obtain ⟨W,⟨m0,w0⟩,turn⟩:=hW
 have nfs:∀ b,s2.heap.objs.size<=b->b∉(ax X own scope C s2 H2 fp pins).fs:=fun b hb z=>by
  rcases List.mem_cons.mp (I.iQ b z) with q | q
  ·rw [q] at hb;exact absurd (Nat.lt_of_lt_of_le I.lt hb) (Nat.lt_irrefl _)
  ·exact I.yI hb q
 have fpD:∀ {H':Hp},H' D=none->g9 (ax X own scope C s2 H2 fp pins) [] H' D:=fun {H'} hn=>by
  refine ⟨hn,Nat.ne_of_lt (by show D < C;omega),nfs D (by omega),.inr (by show s2.heap.objs.size<=D;omega),fun x c h z=>?_,fun p hp z=>?_⟩
  ·rcases cw h with ⟨_,_,a⟩ | a
   ·rw [z] at a;exact absurd (Nat.lt_of_lt_of_le (show D < C+1 by omega) a) (Nat.lt_irrefl _)
   ·obtain ⟨v,q⟩:=I.cell x c (fu I CS a).2
    have:=q.lt
    rw [z,eD] at this
    exact Nat.lt_irrefl _ this
  ·have hp':p∈X.pn++pins:=by
    rcases List.mem_append.mp hp with z | z
    ·exact z
    ·exact nomatch z
   have:=Heap.lt_size (I.pin p hp').1
   rw [z,eD] at this
   exact Nat.lt_irrefl _ this
 have nD:D∉fp:=fun z=>by have:=hl D z;rw [eD] at this;exact Nat.lt_irrefl _ this
 have stat:∀ {H':Hp} {ps:List (Addr×Obj)},(∀ p∈ps,p.1=D)->(∀ b∈fp,H' b=none)->∀ b∈fp,g9 (ax X own scope C s2 H2 fp pins) ps H' b:=fun {H' ps} hps hn b hb=>by
  obtain ⟨f0,f1,f2,f3,f4,f5⟩:=hf b hb
  refine ⟨hn b hb,(ok'.exf b hb).1,ok'.exfs b hb,.inl hb,(ok'.exf b hb).2,fun p hp=>?_⟩
  rcases List.mem_append.mp hp with z | z
  ·exact f5 p z
  ·rw [hps p z]
   exact fun q=>nD (q▸hb)
 let LI:Nat->Shared->Prop:=fun n s'=>∃ i ys its k H',Inv (ax X own scope C s2 H2 fp pins) [] (List.replicate own.length none++σ) H' s'/\tn i s'.heap/\(∀ b∈fp,H' b=none)/\H' D=none /\
  s'.heap.get? D=some {cls:=.type "list",data:=.seq (List.toArray its) k}/\Vals ys its/\W i n ys H'
 have l0:LI m0 {s2 with heap:=h4}:=⟨0,[],[],0,H2,start,T.keep _ _ _ st fun b _ o e=>k24 b o e,fun b hb=>(hf b hb).1,hne,accD,.nil,w0⟩
 have loop:codeAny (model X.prog X.w) X.A (.compLoop (.ListComp elt [⟨tg,iter,ifs,0⟩,⟨tg2,iter2,ifs2,0⟩] scope pos) 0 (.ref it) (.ref D) (iU scope C X.env)) (RR (.ref D) C) {s2 with heap:=h4}:=by
  refine qe (hs2 _) LI ?_ m0 l0
  rintro n s3 ⟨i,ys,its,k,H3,I3,st3,fr3,d3,a3,v3,w3⟩
  rcases turn i n ys H3 w3 with ⟨stop,hz,qn⟩ | ⟨go,hz,NN,hNN,step⟩
  ·have I3p:=I3.pinned (fp:=[D]) (fun b hb=>(List.mem_singleton.mp hb)▸fpD d3) fun b hb=>⟨_,(List.mem_singleton.mp hb)▸a3,fun v z=>(by cases z)⟩
   refine bJ (T.done (ax X own scope C s2 H2 fp pins) rfl rfl rfl hc i _ s3 _ H3 _ I3p (stat (fun p hp=>by have q:p∈cf [D] s3.heap:=hp;have:=(ff q).1;simpa using this) fr3) st3 stop) fun r s4 ⟨hr,I4⟩=>?_
   subst hr
   have a4:s4.heap.get? D=_:=(I4.pin (D,_) (List.mem_append_right _ (List.mem_append_right _ (bp (by simp) a3)))).1
   have u4:Un (qo X.stack) fp H2 H3 s2.heap s4.heap:=I4.base
   have okD:iP X.prog X.w (upd H3 D (.lst ys)) s4.heap:=fun b o e=>by
    by_cases hb:b=D
    ·subst hb
     rw [bo] at e
     cases e
     exact ⟨hz,its,k,v3,a4⟩
    ·rw [aC hb] at e
     exact (I4.hok b o e).pN (fun _ _ _ q=>q) (fun c q=>by rw [aC (aG q d3)];exact q) fun c xs q=>by rw [aC (aG q d3)];exact q
   have nDo:∀ b o,s2.heap.get? b=some o->b≠D:=fun b o e=>by rw [<- eD];exact Nat.ne_of_lt (Heap.lt_size e)
   have uD:Un (qo X.stack) fp H2 (upd H3 D (.lst ys)) s2.heap s4.heap:=⟨u4.keep,u4.slot,fun b o e n hx=>by rw [aC (nDo b o e)];exact u4.free b o e n hx,u4.there,
    fun b xs e=>by rw [aC (aG e hne)];exact u4.tups b xs e,fun b o xs e=>by rw [aC (aG e hne)];exact u4.frzs b o xs e,fun b ps e=>by rw [aC (aG e hne)];exact u4.tbls b ps e⟩
   have kp:Kept X fp H2 (upd H3 D (.lst ys)) s2 s4:=⟨I4.os,uD,okD,I4.bare⟩
   have I5:Inv X pins σ (upd H3 D (.lst ys)) s4:=kp.inv I hf
   obtain ⟨m,hn,_⟩:=I4.loc
   refine hR D C _ s4 I5 ⟨by rw [aC (show C≠D by omega)];exact I4.free,Nat.ne_of_gt (Nat.lt_of_lt_of_le I.lt hC),I.yI hC,.inr (Nat.le_trans I.sz hC),fun x c e z=>?_,fun p hp z=>?_⟩ ⟨m,hn⟩ (qn D d3) kp
   ·obtain ⟨v,q⟩:=I.cell x c e
    exact absurd (Nat.lt_of_lt_of_le q.lt (by rw [z];exact hC)) (Nat.lt_irrefl _)
   ·exact absurd (Nat.lt_of_lt_of_le (Heap.lt_size (I.pin p hp).1) (by rw [z];exact hC)) (Nat.lt_irrefl _)
  ·have I3p:=I3.pinned (fp:=[D]) (fun b hb=>(List.mem_singleton.mp hb)▸fpD d3) fun b hb=>⟨_,(List.mem_singleton.mp hb)▸a3,fun v z=>(by cases z)⟩
   have onlyD:∀ p∈([]++cf [D] s3.heap),p.1=D:=fun p hp=>by have q:p∈cf [D] s3.heap:=hp;have:=(ff q).1;simpa using this
   refine bJ (T.item (ax X own scope C s2 H2 fp pins) rfl rfl rfl hc i _ s3 _ H3 _ I3p (stat onlyD fr3) st3 go) fun r s4 ⟨u,hr,h4'⟩=>?_
   subst hr
   refine bJ h4' fun _ s5 ⟨x,H5,I5,r5,y5,st5,fr5⟩=>?_
   have I5p:=I5.pinned (fp:=fp) (stat onlyD fr5) (T.obj _ _ st5)
   have cont:∀ {s6:Shared} {σ6:St} {H6:Hp},Inv (ax X own scope C s2 H2 fp pins) (([]++cf [D] s3.heap)++cf fp s5.heap) σ6 H6 s6 ->
     Inv (ax X own scope C s2 H2 fp pins) [] (List.replicate own.length none++σ) H6 s6/\tn (i+1) s6.heap/\(∀ b∈fp,H6 b=none)/\H6 D=none/\s6.heap.get? D=some {cls:=.type "list",data:=.seq (List.toArray its) k}:=fun {s6 σ6 H6} I6=>by
    have pD:=I6.pin (D,_) (List.mem_append_right _ (List.mem_append_left _ (List.mem_append_right _ (bp (by simp) a3))))
    refine ⟨rebase (I6.jt fun p hp=>nomatch hp),T.keep _ _ _ st5 fun b hb o e=>(I6.pin (b,o) (List.mem_append_right _ (List.mem_append_right _ (bp hb e)))).1,fun b hb=>?_,pD.2.1,pD.1⟩
    obtain ⟨o,e,_⟩:=T.obj _ _ st5 b hb
    exact (I6.pin (b,o) (List.mem_append_right _ (List.mem_append_right _ (bp hb e)))).2.1
   refine bJ (hg C s2 H2 fp pins _ s5 _ H5 x u _ I5p r5 (step x H5 y5)) fun _ s6 ⟨σ6,H6,I6,q6⟩=>?_
   refine bJ (ht C s2 H2 fp pins _ s6 σ6 H6 _ I6 q6) fun b s7 ⟨H7,I7,q7⟩=>?_
   cases b with
   | false=>
    have q7':NN ys H7:=q7
    obtain ⟨m',hm,w7⟩:=hNN _ _ q7'
    obtain ⟨c1,c2,c3,c4,c5⟩:=cont I7
    exact ⟨m',hm,i+1,ys,its,k,H7,c1,c2,c3,c4,c5,v3,w7⟩
   | true=>
    have pmD:(D,_)∈(([]++cf [D] s3.heap)++cf fp s5.heap):=List.mem_append_left _ (List.mem_append_right _ (bp (by simp) a3))
    have fpD2:∀ {H':Hp},H' D=none->g9 (ax X own scope C s2 H2 fp pins) (cf fp s5.heap) H' D:=fun {H'} hn=>by
     obtain ⟨f0,f1,f2,f3,f4,f5⟩:=fpD hn
     refine ⟨f0,f1,f2,f3,f4,fun p hp=>?_⟩
     rcases List.mem_append.mp hp with z | z
     ·exact f5 p (List.mem_append_left _ z)
     ·exact fun q=>nD (q▸(ff z).1)
    have cont2:∀ {s6:Shared} {σ6:St} {H6:Hp},Inv (ax X own scope C s2 H2 fp pins) (cf fp s5.heap) σ6 H6 s6->Inv (ax X own scope C s2 H2 fp pins) [] (List.replicate own.length none++σ) H6 s6/\tn (i+1) s6.heap/\(∀ b∈fp,H6 b=none):=fun {s6 σ6 H6} I6=>by
     refine ⟨rebase (I6.jt fun p hp=>nomatch hp),T.keep _ _ _ st5 fun b hb o e=>(I6.pin (b,o) (List.mem_append_right _ (bp hb e))).1,fun b hb=>?_⟩
     obtain ⟨o,e,_⟩:=T.obj _ _ st5 b hb
     exact (I6.pin (b,o) (List.mem_append_right _ (bp hb e))).2.1
    refine bJ (hi2 C s2 H2 fp pins _ s7 σ6 H7 _ I7 q7) fun v s8 h8=>bJ h8 fun itv s9 h9=>?_
    obtain ⟨it2,fp2,tn2,J2,H9,e9,I9,T2,st9,f9,W2,⟨m2,w2⟩,turn2⟩:=h9
    subst e9
    have pD9:=I9.pin (D,_) (List.mem_append_right _ pmD)
    have neD:∀ b∈fp2,D≠b:=fun b hb=>(f9 b hb).2.2.2.2.2 (D,_) (List.mem_append_right _ pmD)
    have stat2:∀ {H':Hp} {ps:List (Addr×Obj)},(∀ p∈ps,p.1=D)->(∀ b∈fp2,H' b=none)->∀ b∈fp2,g9 (ax X own scope C s2 H2 fp pins) (cf fp s5.heap++ps) H' b:=fun {H' ps} hps hn b hb=>by
     obtain ⟨g0,g1,g2',g3,g4,g5⟩:=f9 b hb
     refine ⟨hn b hb,g1,g2',g3,g4,fun p hp=>?_⟩
     rcases List.mem_append.mp hp with z | z
     ·exact g5 p (List.mem_append_left _ z)
     ·rcases List.mem_append.mp z with z | z
      ·exact g5 p (List.mem_append_right _ (List.mem_append_right _ z))
      ·rw [hps p z];exact neD b hb
    let LI2:Nat->Shared->Prop:=fun n' s'=>∃ i2 σ3 zs its2 k2 H',Inv (ax X own scope C s2 H2 fp pins) (cf fp s5.heap) σ3 H' s'/\tn2 i2 s'.heap/\(∀ b∈fp2,H' b=none)/\H' D=none /\
     s'.heap.get? D=some {cls:=.type "list",data:=.seq (List.toArray its2) k2}/\Vals zs its2/\W2 i2 n' σ3 zs H'
    have i0:LI2 m2 s9:=⟨0,σ6,ys,its,k,H9,I9.jt (fun p hp=>I9.pin p (List.mem_append_right _ (List.mem_append_right _ hp))),st9,fun b hb=>(f9 b hb).1,pD9.2.1,pD9.1,v3,w2⟩
    have loop2:codeAny (model X.prog X.w) X.A (.compLoop (.ListComp elt [⟨tg,iter,ifs,0⟩,⟨tg2,iter2,ifs2,0⟩] scope pos) 1 (.ref it2) (.ref D) (iU scope C X.env)) (fun r s7=>match r with | .ok _=>∃ m,m < n/\LI m s7 | .error _=>False) s9:=by
     refine qd LI2 ?_ m2 i0
     rintro n2 t3 ⟨i2,σ3,zs,its2,k2,K3,J3,st3',fr3',d3',a3',v3',w3'⟩
     have J3p:=J3.pinned (fp:=[D]) (fun b hb=>(List.mem_singleton.mp hb)▸fpD2 d3') fun b hb=>⟨_,(List.mem_singleton.mp hb)▸a3',fun v z=>(by cases z)⟩
     have onlyD2:∀ p∈cf [D] t3.heap,p.1=D:=fun p hp=>by have:=(ff hp).1;simpa using this
     rcases turn2 i2 n2 σ3 zs K3 w3' with ⟨stop2,qn2⟩ | ⟨go2,hz2,NN2,hNN2,step2⟩
     ·refine bJ (T2.done (ax X own scope C s2 H2 fp pins) rfl rfl rfl hc i2 _ t3 _ K3 _ J3p (stat2 onlyD2 fr3') st3' stop2) fun r t4 ⟨hr,J4⟩=>?_
      subst hr
      have a4':t4.heap.get? D=_:=(J4.pin (D,_) (List.mem_append_right _ (List.mem_append_right _ (bp (by simp) a3')))).1
      obtain ⟨m',hm,w4⟩:=hNN _ _ qn2
      obtain ⟨c1,c2,c3⟩:=cont2 J4.gL
      exact ⟨m',hm,i+1,zs,its2,k2,K3,c1,c2,c3,d3',a4',v3',w4⟩
     ·refine bJ (T2.item (ax X own scope C s2 H2 fp pins) rfl rfl rfl hc i2 _ t3 _ K3 _ J3p (stat2 onlyD2 fr3') st3' go2) fun r t4 ⟨u2,hr,h4''⟩=>?_
      subst hr
      refine bJ h4'' fun _ t5 ⟨x2,K5,J5,r5',y5',st5',fr5'⟩=>?_
      have J5p:=J5.pinned (fp:=fp2) (stat2 onlyD2 fr5') (T2.obj _ _ st5')
      have contI:∀ {t6:Shared} {τ6:St} {K6:Hp},Inv (ax X own scope C s2 H2 fp pins) ((cf fp s5.heap++cf [D] t3.heap)++cf fp2 t5.heap) τ6 K6 t6 ->
        Inv (ax X own scope C s2 H2 fp pins) (cf fp s5.heap) τ6 K6 t6/\tn2 (i2+1) t6.heap/\(∀ b∈fp2,K6 b=none)/\K6 D=none/\t6.heap.get? D=some {cls:=.type "list",data:=.seq (List.toArray its2) k2}:=fun {t6 τ6 K6} J6=>by
       have pD:=J6.pin (D,_) (List.mem_append_right _ (List.mem_append_left _ (List.mem_append_right _ (bp (by simp) a3'))))
       refine ⟨J6.gL.gL,T2.keep _ _ _ st5' fun b hb o e=>(J6.pin (b,o) (List.mem_append_right _ (List.mem_append_right _ (bp hb e)))).1,fun b hb=>?_,pD.2.1,pD.1⟩
       obtain ⟨o,e,_⟩:=T2.obj _ _ st5' b hb
       exact (J6.pin (b,o) (List.mem_append_right _ (List.mem_append_right _ (bp hb e)))).2.1
      refine bJ (hg2 C s2 H2 fp pins _ t5 _ K5 x2 u2 _ J5p r5' (step2 x2 K5 y5')) fun _ t6 ⟨τ6,K6,J6,q6'⟩=>?_
      refine bJ (ht2 C s2 H2 fp pins _ t6 τ6 K6 _ J6 q6') fun b2 t7 ⟨K7,J7,q7'⟩=>?_
      cases b2 with
      | false=>
       have q7'':NN2 τ6 zs K7:=q7'
       obtain ⟨m',hm,w7⟩:=hNN2 _ _ _ q7''
       obtain ⟨c1,c2,c3,c4,c5⟩:=contI J7
       exact ⟨m',hm,i2+1,τ6,zs,its2,k2,K7,c1,c2,c3,c4,c5,v3',w7⟩
      | true=>
       refine bJ (he C s2 H2 fp pins _ t7 τ6 K7 _ J7 q7') fun v t8 ⟨y,K8,J8,r8,q8⟩=>?_
       obtain ⟨m',hm,w8⟩:=hNN2 _ _ _ q8
       obtain ⟨c1,c2,c3,c4,c5⟩:=contI J8
       refine wpAny_list_append_plain ⟨k2,c5⟩ (fun h' hp hs=>?_) (by rw [List.size_toArray,<- v3'.length];exact hz2)
       obtain ⟨k',e'⟩:=hp
       obtain ⟨f0,f1,f2,f3,f4,f5⟩:=fpD2 c4
       refine ⟨m',hm,i2+1,τ6,zs++[y],its2++[v],k',K8,c1.turned (t':=t8.toks) (fun b o hb e=>(hs.2 b hb).trans e) f0 f1 f3 f4 f5,T2.keep _ _ _ c2 fun b hb o e=>(hs.2 b fun z=>neD b hb z.symm).trans e,c3,c4,?_,v3'.append (.cons r8 .nil),w8⟩
       show h'.get? D=_
       rw [e']
       simp
    exact si loop2 (T2.self _ 0 s9 _ _ st9 loop2)
 exact codeAny_compStart_list loop (T.self X.A 0 {s2 with heap:=h4} _ _ (T.keep _ _ _ st fun b _ o e=>k24 b o e) loop)
end L2
namespace L2
open PySem PySem.Spec PyProof.Rows
section
variable {X:Cx} {own:List Str} {scope:Scope} {elt tg iter tg2 iter2:Expr} {ifs ifs2:List Expr} {pos:Pos} {wi wi2:TI} {g g2:TG} {tc tc2:TT} {te:TE}
def vG (n:Nat) (wi:TI) (g:TG) (tc:TT) (wi2:TI) (g2:TG) (tc2:TT) (te:TE):TE:=fun σ H Q=>wi σ H fun J H1=>vF n J g tc wi2 g2 tc2 te σ H1 Q
theorem Av (own:List Str) {i:Nat} {x:Str} {pos' spos:Pos} (hN:X.N.Nodup) (hxi:X.N[i]?=some x) (hx:X.env.scope.names.lookup x=some .local) (CS:dm X.env.scope X.N own scope=true) (hc:X.calm=true) (hi:PI X tg iter wi) (hg:∀ C s2 H2 fp pins,PG (ax X own scope C s2 H2 fp pins) tg g)
  (ht:∀ C s2 H2 fp pins,yF (ax X own scope C s2 H2 fp pins) ifs tc) (he:∀ C s2 H2 fp pins,PE (ax X own scope C s2 H2 fp pins) elt te) (hi2:∀ C s2 H2 fp pins,PI (ax X own scope C s2 H2 fp pins) tg2 iter2 wi2) (hg2:∀ C s2 H2 fp pins,PG (ax X own scope C s2 H2 fp pins) tg2 g2) (ht2:∀ C s2 H2 fp pins,yF (ax X own scope C s2 H2 fp pins) ifs2 tc2) (hs:∀ x,foldedSetIterable iter X.env x=pure x:=by intro _;rfl) (hs2:∀ (env:Env) x,foldedSetIterable iter2 env x=pure x:=by intro _ _;rfl)
  (hsw:swapsWith (.ListComp elt [⟨tg,iter,ifs,0⟩,⟨tg2,iter2,ifs2,0⟩] scope pos) (some (.Name x pos')) spos.line X.env=pure true:=by rfl) :
  PS X (.Assign [.Name x pos'] (.ListComp elt [⟨tg,iter,ifs,0⟩,⟨tg2,iter2,ifs2,0⟩] scope pos) spos) (uY (vG own.length wi g tc wi2 g2 tc2 te) (ah i)):=by
 intro pins s σ H D I h
 have CS:=cC.of CS
 rw [exec_Assign_Name_used _ _ _ _ hsw]
 refine wpAny_bind (wpAny_standAt (wpAny_bind ?_))
 show wpAny _ X.A (do let _ <- comprehension (.ListComp elt [⟨tg,iter,ifs,0⟩,⟨tg2,iter2,ifs2,0⟩] scope pos) scope X.env _ (newList []) false (eval iter X.env) (some (assign (.Name x pos') X.env))) _ _ s
 refine wpAny_bind (bJ (wpAny_comprehension_free (use:=some (assign (.Name x pos') X.env)) (Q:=fun _ s'=>SP X pins D .next s') (g:=⟨tg,iter,ifs,0⟩) rfl hs (fm fun n hn=>I.ok.has n (CS.frees n hn)) CS.kind (hE CS)
  (bJ (hi pins s σ H _ I h) fun v s1 h1=>bJ h1 fun itv s2 h2=>?_)) fun _ s' hq=>wpAny_pure (wpAny_pure hq))
 obtain ⟨it,fp,tn,J,H2,e,I2,T,st2,f2,hW⟩:=h2
 subst e
 refine ub (Q:=fun x H1=>ah i x σ H1 D.nx) (RR:=fun acc C=>compPost (model X.prog X.w) X.A X.xe (some (assign (.Name x pos') X.env)) (fun _ s'=>SP X pins D .next s') acc C) I2 CS hc T st2 f2 hg ht he hi2 hg2 ht2 hs2 hW fun Dl C H' s' I' fC ⟨m,hn⟩ q _=>?_
 show wpAny _ _ (assign (.Name x pos') X.env (.ref Dl)) _ _ s'
 refine wpAny_assign_Name (ju (v:=.ref Dl) I' hN hxi (.inl hx) rfl (fun s'' I'' hsb=>?_) (.inr hx))
 obtain ⟨f0,f1,f2',f3,f4,f5⟩:=fC
 obtain ⟨a,sb,ha⟩:=hsb
 have hCa:C≠a:=by
  rcases ha with e | e
  ·rw [e];exact f1
  ·exact (f4 x a e).symm
 refine ⟨m,hn.sameBut sb hCa,fun h' hs'=>⟨_,H',?_,q⟩⟩
 exact I''.turned (t':=s''.toks) (fun b o hb e=>(hs'.2 b hb).trans e) f0 f1 f3 f4 f5
end
end L2
namespace Ml
open PySem PySem.Spec L2
def gH (g2:MG) (t2:MT) (e:ME):List D->Fm->Hm->R (List D)
 | [],_,h=>.ok [] h
 | y::ys,ρ,h=>(g2 y ρ h).tG.bind fun ρ1 h1=>(t2 ρ1 h1).tG.bind fun c h2=>
  if c then (e ρ1 h2).tG.bind fun z h3=>(gH g2 t2 e ys ρ1 h3).bind fun zs h4=>.ok (z::zs) h4
  else gH g2 t2 e ys ρ1 h2
def dS (n:Nat) (ρ:Fm) (g:MG) (t:MT) (it2:MA) (g2:MG) (t2:MT) (e:ME):List D->Nat->Hm->R (List D)
 | [],_,h=>.ok [] h
 | x::xs,k,h=>(g x (List.replicate n none++ρ) h).tG.bind fun ρ1 h1=>(t ρ1 h1).tG.bind fun c h2=>
  if c then (it2 ρ1 h2).tG.bind fun ys h3=>if gE (k+ys.length) then (gH g2 t2 e ys ρ1 h3).bind fun zs h4=>(dS n ρ g t it2 g2 t2 e xs (k+zs.length) h4).bind fun ws h5=>.ok (zs++ws) h5 else .bad
  else dS n ρ g t it2 g2 t2 e xs k h2
def oT (n:Nat) (it:MA) (g:MG) (t:MT) (it2:MA) (g2:MG) (t2:MT) (e:ME):MA:=fun ρ h=>(it ρ h).bind fun xs h1=>if gE xs.length then dS n ρ g t it2 g2 t2 e xs 0 h1 else .bad
def sj (n:Nat) (it:MA) (g:MG) (t:MT) (it2:MA) (g2:MG) (t2:MT) (e:ME):ME:=af gq (oT n it g t it2 g2 t2 e)
section
variable {X:Cx} {E:XK} {it it2:MA} {g g2:MG} {t t2:MT} {m:ME}
theorem vH {G:Gx} {F:XP} {n:Nat} {θ1:List Addr} {H1:Hp} {h1:Hm} {xs:List D} {J:It} {σ:St} {ρ:Fm} {Q:VK} {mk:List D->Hm->R D} (hJ:mL G θ1 H1 xs J) (w1:W G θ1 h1 H1) (fr:Fr G θ1 H1 ρ σ) (p1:aD G F θ1 H1 ((dS n ρ g t it2 g2 t2 m xs 0 h1).bind mk) (KV G Q))
  (hmk:∀ ys vs θ h H,ys.length<=sizeLine->W G θ h H->aJ G θ H ys vs->aD G F θ H (mk ys h) (KV G Q)->∀ p,H p=none->Q (.ref p) (upd H p (.lst vs))) :
  vF n J (lG G dC g) (lT G dC t) (lI G dC it2) (lG G dC g2) (lT G dC t2) (lE G dC m) σ H1 Q:=by
 refine ⟨fun i m' ys H=>m'=xs.length - i/\i<=xs.length/\∃ θ' h' acc,acc.length<=sizeLine/\Ev θ1 H1 θ' H/\W G θ' h' H/\aJ G θ' H acc ys/\aD G F θ' H ((dS n ρ g t it2 g2 t2 m (xs.drop i) acc.length h').bind fun zs h2=>mk (acc++zs) h2) (KV G Q),
  ⟨xs.length,by simp,Nat.zero_le _,θ1,h1,[],Nat.zero_le _,Ev.refl,w1,.nil,p1⟩,?_⟩
 rintro i m' ys H ⟨rfl,hi,θ',h',acc,hacc,ev,w,ra,p⟩
 obtain ⟨j1,j2⟩:=hJ θ' h' H ev w
 have hly:ys.length<=sizeLine:=by rw [<- show acc.length=ys.length from Paired.length ra];omega
 by_cases hlt:i < xs.length
 ·have ed:xs.drop i=xs[i]::xs.drop (i+1):=List.drop_eq_getElem_cons hlt
  rw [ed] at p
  obtain ⟨g1,g2'⟩:=j1 i xs[i] (List.getElem?_eq_getElem hlt)
  refine .inr ⟨g1,hly,fun ys2 H2=>i+1<=xs.length/\∃ θ' h' acc,acc.length<=sizeLine/\Ev θ1 H1 θ' H2/\W G θ' h' H2/\aJ G θ' H2 acc ys2/\aD G F θ' H2 ((dS n ρ g t it2 g2 t2 m (xs.drop (i+1)) acc.length h').bind fun zs h2=>mk (acc++zs) h2) (KV G Q),fun ys' H' q=>⟨xs.length - (i+1),by omega,rfl,q⟩,fun x H2 y=>?_⟩
  obtain ⟨e2,w2,r2⟩:=g2' x H2 y
  have p2:=p.later e2
  unfold dS at p2
  simp only [R.bind_assoc] at p2
  refine ⟨θ',h',_,xs[i],w2,((fr.ev ev).ev e2).replicate n,r2,(aD.dQ p2).mono fun ρ3 θ3 h3 H3 _ _ ⟨e3,w3,p3⟩ σ3 fr3=>⟨θ3,h3,ρ3,w3,fr3,(aD.dQ p3).mono fun c θ4 h4 H4 _ _ ⟨e4,w4,p4⟩=>?_⟩⟩
  have ev4:=(ev.trans e2).trans (e3.trans e4)
  have ra4:=aJ.ev (e2.trans (e3.trans e4)) ra
  cases c with
  | false=>exact ⟨hlt,θ4,h4,acc,hacc,ev4,w4,ra4,p4⟩
  | true=>
   simp only [if_true,R.bind_assoc] at p4
   refine ⟨θ4,h4,ρ3,w4,fr3.ev e4,(aD.dQ p4).mono fun zs θ5 h5 H5 _ _ ⟨e5,w5,p5⟩ J2 hJ2=>?_⟩
   have fr5:=(fr3.ev e4).ev e5
   have ra5:=aJ.ev e5 ra4
   split at p5
   ·rename_i hz
    have hz':=cP hz
    simp only [R.bind_assoc,R.aA] at p5
    refine ⟨fun i2 m2 τ us K=>m2=zs.length - i2/\i2<=zs.length/\∃ θ6 h6 acc6 ρ6,acc6.length<=acc.length+i2/\Ev θ5 H5 θ6 K/\W G θ6 h6 K/\aJ G θ6 K acc6 us/\Fr G θ6 K ρ6 τ/\aD G F θ6 K ((gH g2 t2 m (zs.drop i2) ρ6 h6).bind fun vs h7=>(dS n ρ g t it2 g2 t2 m (xs.drop (i+1)) (acc6.length+vs.length) h7).bind fun ws h8=>mk (acc6++(vs++ws)) h8) (KV G Q),
     ⟨zs.length,by simp,Nat.zero_le _,θ5,h5,acc,ρ3,by omega,Ev.refl,w5,ra5,fr5,p5⟩,?_⟩
    rintro i2 m2 τ us K ⟨rfl,hi2,θ6,h6,acc6,ρ6,hacc6,ev6,w6,ra6,fr6,p6⟩
    obtain ⟨k1,k2⟩:=hJ2 θ6 h6 K ev6 w6
    have hlu:us.length<=sizeLine:=by rw [<- show acc6.length=us.length from Paired.length ra6];omega
    by_cases hlt2:i2 < zs.length
    ·have ed2:zs.drop i2=zs[i2]::zs.drop (i2+1):=List.drop_eq_getElem_cons hlt2
     rw [ed2] at p6
     obtain ⟨l1,l2⟩:=k1 i2 zs[i2] (List.getElem?_eq_getElem hlt2)
     refine .inr ⟨l1,hlu,fun τ' us' K'=>i2+1<=zs.length/\∃ θ6 h6 acc6 ρ6,acc6.length<=acc.length+(i2+1)/\Ev θ5 H5 θ6 K'/\W G θ6 h6 K'/\aJ G θ6 K' acc6 us'/\Fr G θ6 K' ρ6 τ'/\aD G F θ6 K' ((gH g2 t2 m (zs.drop (i2+1)) ρ6 h6).bind fun vs h7=>(dS n ρ g t it2 g2 t2 m (xs.drop (i+1)) (acc6.length+vs.length) h7).bind fun ws h8=>mk (acc6++(vs++ws)) h8) (KV G Q),fun τ' us' K' q=>⟨zs.length - (i2+1),by omega,rfl,q⟩,fun x2 K2 y2=>?_⟩
     obtain ⟨e7,w7,r7⟩:=l2 x2 K2 y2
     have p7:=p6.later e7
     unfold gH at p7
     simp only [R.bind_assoc] at p7
     refine ⟨θ6,h6,_,zs[i2],w7,fr6.ev e7,r7,(aD.dQ p7).mono fun ρ8 θ8 h8 K8 _ _ ⟨e8,w8,p8⟩ τ8 fr8=>⟨θ8,h8,ρ8,w8,fr8,(aD.dQ p8).mono fun c2 θ9 h9 K9 _ _ ⟨e9,w9,p9⟩=>?_⟩⟩
     have ev9:=(ev6.trans e7).trans (e8.trans e9)
     have ra9:=aJ.ev (e7.trans (e8.trans e9)) ra6
     cases c2 with
     | false=>exact ⟨hlt2,θ9,h9,acc6,ρ8,by omega,ev9,w9,ra9,fr8.ev e9,p9⟩
     | true=>
      simp only [if_true,R.bind_assoc] at p9
      refine ⟨θ9,h9,ρ8,w9,fr8.ev e9,(aD.dQ p9).mono fun y3 θ10 h10 K10 _ _ ⟨e10,w10,p10⟩ v10 r10=>⟨hlt2,θ10,h10,acc6++[y3],ρ8,by simp;omega,ev9.trans e10,w10,?_,(fr8.ev e9).ev e10,?_⟩⟩
      ·exact dN (aJ.ev e10 ra9) (.cons r10 .nil)
      ·simp only [R.bind_assoc,R.aA] at p10
       have e11:∀ vs:List D,(acc6++[y3]).length+vs.length=acc6.length+(y3::vs).length:=fun vs=>by simp;omega
       simp only [e11]
       simpa using p10
    ·have hx:i2=zs.length:=by omega
     subst hx
     rw [List.drop_of_length_le (Nat.le_refl _)] at p6
     simp only [gH,R.aA,List.nil_append,List.length_nil,Nat.add_zero] at p6
     exact .inl ⟨k2,hlt,θ6,h6,acc6,by omega,ev4.trans (e5.trans ev6),w6,ra6,p6⟩
   ·exact p5.elim
 ·have hx:i=xs.length:=by omega
  subst hx
  rw [List.drop_of_length_le (Nat.le_refl _)] at p
  simp only [dS,R.aA,List.append_nil] at p
  exact .inl ⟨j2,hly,hmk acc ys θ' h' H hacc w ra p⟩
end
end Ml
namespace Ml
open PySem PySem.Spec L2
section
variable {X:Cx} {E:XK} {it it2:MA} {g g2:MG} {t t2:MT} {m:ME} {own:List Str} {scope:Scope} {elt tg e tg2 e2:Expr} {ifs ifs2:List Expr} {pos:Pos} {i:Nat} {x:Str}
theorem Aw {G:Gx} {n:Nat} {mk:List D->Hm->R D} {σ:St} {H:Hp} {Q:VK} (h:lE G E (af mk (oT n it g t it2 g2 t2 m)) σ H Q)
  (hmk:∀ ys vs θ h H,ys.length<=sizeLine->W G θ h H->aJ G θ H ys vs->aD G (md G E) θ H (mk ys h) (KV G Q)->∀ p,H p=none->Q (.ref p) (upd H p (.lst vs))) :
  vG n (lI G E it) (lG G dC g) (lT G dC t) (lI G dC it2) (lG G dC g2) (lT G dC t2) (lE G dC m) σ H Q:=by
 obtain ⟨θ,h,ρ,w,fr,p⟩:=h
 simp only [af,oT,R.bind_assoc] at p
 refine ⟨θ,h,ρ,w,fr,(aD.bind p).mono fun xs θ1 h1 H1 _ _ ⟨ev,w1,p1⟩ J hJ=>?_⟩
 split at p1
 ·exact vH hJ w1 (fr.ev ev) p1 hmk
 ·exact p1.elim
theorem Ax {G:Gx} {n:Nat} {mk:List D->Hm->R D} {C:Ends} {σ:St} {H:Hp} (h:lS G E (bK i (af mk (oT n it g t it2 g2 t2 m))) C σ H)
  (hmk:∀ Q ys vs θ h H,ys.length<=sizeLine->W G θ h H->aJ G θ H ys vs->aD G (md G E) θ H (mk ys h) (KV G Q)->∀ p,H p=none->Q (.ref p) (upd H p (.lst vs))) :
  uY (vG n (lI G E it) (lG G dC g) (lT G dC t) (lI G dC it2) (lG G dC g2) (lT G dC t2) (lE G dC m)) (L2.ah i) C σ H:=by
 obtain ⟨θ,h,ρ,w,fr,p⟩:=h
 refine Aw (Q:=fun x H1=>L2.ah i x σ H1 C.nx) ⟨θ,h,ρ,w,fr,(aD.bind p).mono fun d θ1 h1 H1 _ _ ⟨ev,w1,p1⟩ v r=>p1 θ1 H1 Ev.refl w1 _ ((fr.ev ev).set r)⟩ (hmk _)
theorem Ay (own:List Str) {pos' spos:Pos} (hN:X.N.Nodup) (hxi:X.N[i]?=some x) (hx:X.env.scope.names.lookup x=some .local) (CS:dm X.env.scope X.N own scope=true) (hc:X.calm=true) (hi:DI X E it tg e) (hg:∀ C s2 H2 fp pins,DG (ax X own scope C s2 H2 fp pins) dC g tg)
  (ht:∀ C s2 H2 fp pins,Be (ax X own scope C s2 H2 fp pins) dC t ifs) (hi2:∀ C s2 H2 fp pins,DI (ax X own scope C s2 H2 fp pins) dC it2 tg2 e2) (hg2:∀ C s2 H2 fp pins,DG (ax X own scope C s2 H2 fp pins) dC g2 tg2)
  (ht2:∀ C s2 H2 fp pins,Be (ax X own scope C s2 H2 fp pins) dC t2 ifs2) (he:∀ C s2 H2 fp pins,DE (ax X own scope C s2 H2 fp pins) dC m elt) (hs:∀ x,foldedSetIterable e X.env x=pure x:=by intro _;rfl) (hs2:∀ (env:Env) x,foldedSetIterable e2 env x=pure x:=by intro _ _;rfl)
  (hsw:swapsWith (.ListComp elt [⟨tg,e,ifs,0⟩,⟨tg2,e2,ifs2,0⟩] scope pos) (some (.Name x pos')) spos.line X.env=pure true:=by rfl):DS X E (bK i (sj own.length it g t it2 g2 t2 m)) (.Assign [.Name x pos'] (.ListComp elt [⟨tg,e,ifs,0⟩,⟨tg2,e2,ifs2,0⟩] scope pos) spos):=by
 simp only [bu,gR,i7,gS,j4] at *
 exact PS.imp (Av (g:=lG X.G dC g) (tc:=lT X.G dC t) (wi2:=lI X.G dC it2) (g2:=lG X.G dC g2) (tc2:=lT X.G dC t2) (te:=lE X.G dC m) own hN hxi hx CS hc hi hg ht he hi2 hg2 ht2 hs hs2 hsw) fun C σ H q=>Ax q fun Q ys vs θ h H _=>ic ys vs θ h H
end
end Ml
namespace PySem
open Sem (wp)
open Builtin
theorem mw:fillsNumberSlot (.type "tuple") "mul" = pure false:=
 fillsNumberSlot_seq (id := "tuple.__mul__") (r:=some (.builtin "tuple.__rmul__")) F.slot_tuple_mul.lookup (by decide +kernel) F.slot_tuple_rmul.lookup (by decide +kernel)
theorem sr:seqRepeat? (.type "tuple")=pure (some (.builtin "tuple.__mul__")):=by
 unfold seqRepeat?
 rw [seqSlot_of (T := "tuple") (name := "__mul__") (id := "tuple.__mul__") F.slot_tuple_mul.lookup (by decide +kernel),seqSlot_of (T := "tuple") (name := "__rmul__") (id := "tuple.__rmul__") F.slot_tuple_rmul.lookup (by decide +kernel)]
 rfl
theorem il (a:Int) (t:Tok) (l:Addr) (items:Array Value) (n:Nat) (dd:Option Addr) (sl:Array (Option Value)) :
  Meets (Builtin.«int.__rmul__» ⟨[.int a t,.ref l],[]⟩) (fun _ R s=>s.heap.get? l=some {cls:=.type "tuple",dict:=dd,data:=.seq items n,slots:=sl}/\R (.ok (.ret Value.notImplemented)) s):=
 .of_wp fun prog w A R s h=>by obtain ⟨hp,g,d,tk,os⟩:=s;obtain ⟨hl,h⟩:=h;wp_walk;exact ⟨_,rfl,h⟩
section
variable (l:Addr) (items:Array Value) (n:Nat) (dd:Option Addr) (sl:Array (Option Value)) (k:Int) (t:Tok)
theorem oU (hk:items.isEmpty=true\/k=1) (h1:¬ (k < -(2 ^ 63)\/k>=2 ^ 63)) :
  Meets (Builtin.«tuple.__mul__» ⟨[.ref l,.int k t],[]⟩) (fun _ R s=>s.heap.get? l=some {cls:=.type "tuple",dict:=dd,data:=.seq items n,slots:=sl}/\R (.ok (.ret (.ref l))) s):=
 .of_wp fun prog w A R s h=>by
  obtain ⟨hp,g,d,tk,os⟩:=s
  obtain ⟨hl,h⟩:=h
  wp_walk
  rw [if_neg (by simp only [Bool.or_eq_true,decide_eq_true_eq];exact h1)]
  dsimp only
  wp_walk
  rw [if_pos (by rcases hk with z | z<;>simp [z])]
  wp_walk
  exact ⟨_,rfl,h⟩
theorem oV (h0:items.isEmpty=false) (hk:k<=0) (h1:¬ (k < -(2 ^ 63)\/k>=2 ^ 63)) :
  Meets (Builtin.«tuple.__mul__» ⟨[.ref l,.int k t],[]⟩) (fun _ R s=>s.heap.get? l=some {cls:=.type "tuple",dict:=dd,data:=.seq items n,slots:=sl}/\R (.ok (.ret (.ref s.heap.objs.size))) {s with heap:=s.heap.push {cls:=.type "tuple",data:=.seq #[]}}):=
 .of_wp fun prog w A R s h=>by
  obtain ⟨hp,g,d,tk,os⟩:=s
  obtain ⟨hl,h⟩:=h
  wp_walk
  rw [if_neg (by simp only [Bool.or_eq_true,decide_eq_true_eq];exact h1)]
  dsimp only
  wp_walk
  rw [if_neg (by simp only [h0,Bool.false_or,beq_iff_eq];omega)]
  rw [if_pos (by simp [hk])]
  wp_walk
  exact ⟨_,rfl,h⟩
theorem oW (h0:items.isEmpty=false) (hk:1 < k) (h1:¬ (k < -(2 ^ 63)\/k>=2 ^ 63)) (hz:(items.size:Int) * k<=sizeLine) (hf:(List.foldl (fun x1 x2=>x1++x2) #[] (List.replicate k.toNat items)).size<=sizeLine) :
  Meets (Builtin.«tuple.__mul__» ⟨[.ref l,.int k t],[]⟩) (fun _ R s=>s.heap.get? l=some {cls:=.type "tuple",dict:=dd,data:=.seq items n,slots:=sl}/\R (.ok (.ret (.ref s.heap.objs.size))) {s with heap:=s.heap.push {cls:=.type "tuple",data:=.seq (List.foldl (fun x1 x2=>x1++x2) #[] (List.replicate k.toNat items))}}):=
 .of_wp fun prog w A R s h=>by
  obtain ⟨hp,g,d,tk,os⟩:=s
  obtain ⟨hl,h⟩:=h
  wp_walk
  rw [if_neg (by simp only [Bool.or_eq_true,decide_eq_true_eq];exact h1)]
  dsimp only
  wp_walk
  rw [if_neg (by simp only [h0,Bool.false_or,beq_iff_eq];omega)]
  rw [if_neg (by simp [h0];omega)]
  rw [if_neg (by have:(sizeLine:Int)<=(2 ^ 63 - 1) / 8:=by decide
                 omega)]
  rw [if_neg (by unfold Tuple.tupleTooMany;simp only [decide_eq_true_eq];omega)]
  wp_walk
  exact ⟨_,rfl,h⟩
end
end PySem
namespace L2
open PySem PySem.Spec PyProof.Rows
section
variable {X:Cx}
def GX (K:PySem.W.Frag):R2:=fun x y H Q=>∃ l k xs,x=.ref l/\y=.int k/\eZ K H l xs/\-(2 ^ 63)<=k/\k < 2 ^ 63/\xs.length * k.toNat<=sizeLine /\
 ((xs=[]\/k=1)->Q (.ref l) H)/\(¬ (xs=[]\/k=1)->∀ p,H p=none->Q (.ref p) (upd H p (.tup (List.replicate k.toNat xs).flatten)))
theorem Vals.GY {xs:List V} {its:List Value} (r:Vals xs its):∀ k:Nat,Vals (List.replicate k xs).flatten (List.replicate k its).flatten
 | 0=>.nil
 | k+1=>by rw [List.replicate_succ,List.replicate_succ,List.flatten_cons,List.flatten_cons];exact r.append (GY r k)
theorem Cs:gg X (binaryOp .Mult) (GX X.K):=by
 intro pins s σ H x y v u Q I rx ry h
 obtain ⟨l,k,xs,rfl,rfl,hq,h1,h2,hz,q1,q2⟩:=h
 cases rx
 obtain ⟨t,rfl⟩:=ry
 obtain ⟨its,r,⟨o,e,hc,n,hd⟩,hl⟩:=I.tuple hq
 obtain ⟨c,dd,dt,sl⟩:=o
 simp only at hc hd
 subst hc
 subst hd
 have hlen:=r.length
 have nb:¬ (k < -(2 ^ 63)\/k>=2 ^ 63):=by omega
 have fin:∀ {Q':Value->Shared->Prop},wpAny (model X.prog X.w) X.A (call (.builtin "tuple.__mul__") [.ref l,.int k t]) Q' X.xe s->wpAny (model X.prog X.w) X.A (binaryOp .Mult (.ref l) (.int k t)) Q' X.xe s:=fun {Q'} hh=>
  wpAny_binaryOp_repeat_ref (T := "tuple") (U := "int") (by decide) ⟨_,e,rfl⟩ (fun s'=>typeIs_int s' k t) mw F.fills_int_mul F.slot_int_rmul sr F.slot_int_index.lookup
   (call_meets F.slot_int_rmul (typeIs_int s k t) F.entry_int_rmul (F.args_int_rmul_2 _ _) (il k t l its.toArray n dd sl) ⟨e,rfl,⟨_,e,rfl⟩,hh⟩)
 refine fin ?_
 by_cases hs:xs=[]\/k=1
 ·have hs':its.toArray.isEmpty=true\/k=1:=hs.imp (fun z=>by subst z;cases r;rfl) id
  exact call_meets F.slot_tuple_mul ⟨_,e,rfl⟩ F.entry_tuple_mul (F.args_tuple_mul_2 _ _) (oU l its.toArray n dd sl k t hs' nb) ⟨e,.ref l,H,I,rfl,q1 hs⟩
 ·have h0:its.toArray.isEmpty=false:=by
   cases its with
   | nil=>cases r;exact absurd (.inl rfl) hs
   | cons a b=>rfl
  have hk1:k≠1:=fun z=>hs (.inr z)
  by_cases hk:k<=0
  ·have e0:k.toNat=0:=by omega
   have q2':=q2 hs
   rw [e0] at q2'
   refine call_meets F.slot_tuple_mul ⟨_,e,rfl⟩ F.entry_tuple_mul (F.args_tuple_mul_2 _ _) (oV l its.toArray n dd sl k t h0 hk nb) ⟨e,?_⟩
   refine ⟨.ref s.heap.objs.size,upd H s.heap.objs.size (.tup []),I.laid (t':=s.toks) (fun b u e=>Heap.get?_push_of_some _ e) (Nat.le_refl _) ?_,rfl,q2' _ (I.hok.fresh (Nat.le_refl _))⟩
   exact ⟨Nat.zero_le _,[],.nil,⟨_,Heap.get?_push_size _ rfl,rfl,_,rfl⟩⟩
  ·have hnew:List.foldl (fun x1 x2=>x1++x2) #[] (List.replicate k.toNat its.toArray)=(List.replicate k.toNat its).flatten.toArray:=by
    have:=foldl_rep its k.toNat []
    rw [List.nil_append] at this
    exact this
   refine call_meets F.slot_tuple_mul ⟨_,e,rfl⟩ F.entry_tuple_mul (F.args_tuple_mul_2 _ _) (oW l its.toArray n dd sl k t h0 (by omega) nb ?_ (by rw [hnew,List.size_toArray,len_rep,<- hlen,Nat.mul_comm];exact hz)) ⟨e,?_⟩
   ·rw [List.size_toArray,<- hlen]
    have:(xs.length:Int) * k=((xs.length * k.toNat:Nat):Int):=by rw [Int.natCast_mul,Int.toNat_of_nonneg (by omega)]
    rw [this]
    omega
   ·rw [hnew]
    refine ⟨.ref s.heap.objs.size,upd H s.heap.objs.size (.tup (List.replicate k.toNat xs).flatten),I.laid (t':=s.toks) (fun b u e=>Heap.get?_push_of_some _ e) (Nat.le_refl _) ?_,rfl,q2 hs _ (I.hok.fresh (Nat.le_refl _))⟩
    exact ⟨by rw [len_rep,Nat.mul_comm];exact hz,_,Vals.GY r k.toNat,⟨_,Heap.get?_push_size _ rfl,rfl,_,rfl⟩⟩
end
end L2
namespace Ml
open PySem PySem.Spec L2
section
variable {X:Cx} {E:XK}
def lq (x y:D) (h:Hm):R D:=match x,y with
 | .dat (.tuple xs),.dat (.int k)=>if gE (xs.length * k.toNat) && decide (-(2 ^ 63)<=k) && decide (k < 2 ^ 63) then .ok (.dat (.tuple (List.replicate k.toNat xs).flatten)) h else .bad
 | _,_=>.bad
theorem Az {α:Type} {xs:List α} {k:Int} (h:xs=[]\/k=1):(List.replicate k.toNat xs).flatten=xs:=by
 rcases h with rfl | rfl
 ·simp
 ·simp
theorem yn {xs:List PyData} (h:bW xs=true) (k:Nat):bW (List.replicate k xs).flatten=true:=bN.mpr fun d m=>by
 obtain ⟨l,hl,hd⟩:=List.mem_flatten.mp m
 rw [(List.mem_replicate.mp hl).2] at hd
 exact bN.mp h d hd
theorem AA:kq X E (binaryOp .Mult) lq:=kq.of Cs fun θ hm H d1 d2 x y Q w r1 r2 p=>by
 unfold lq at p
 split at p
 ·rename_i xs k
  split at p
  ·rename_i hz
   simp only [Bool.and_eq_true,decide_eq_true_eq] at hz
   obtain ⟨⟨hz,h1⟩,h2⟩:=hz
   obtain ⟨⟨a,vs,rfl,ha,rr⟩,so⟩:=r1
   have e2:=bD r2
   subst e2
   have so':bW xs=true:=by simpa [cI] using so
   refine ⟨a,k,vs,rfl,rfl,.inl (.inl (ay _ _ _ _ ha)),h1,h2,by rw [rr.length];exact cP hz,fun hs=>?_,fun hs q hq=>?_⟩
   ·have hs':xs=[]\/k=1:=hs.imp (fun z=>by have:=rr.length;rw [z] at this;exact List.eq_nil_of_length_eq_zero this.symm) id
    rw [Az hs'] at p
    exact p θ H Ev.refl w _ ⟨⟨a,vs,rfl,ha,rr⟩,so⟩
   ·obtain ⟨e1,w1,g⟩:=w.put (o:=.tup (List.replicate k.toNat vs).flatten) hq
    exact p _ _ e1 w1 _ ⟨⟨q,_,rfl,g,(mr rr k.toNat).same e1.same⟩,by simp only [cI];exact yn so' _⟩
  ·exact p.elim
 ·exact p.elim
end
end Ml
namespace Ml
open PySem PySem.Spec L2
def AB:PyData->Value->Bool
 | .none,.none=>true
 | .bool b,.bool c=>b == c
 | .int i,.int j _=>i == j
 | .str x,.str y _=>x == y
 | _,_=>false
def mB:List PyData->List Value->Bool
 | [],[]=>true
 | d::ds,v::vs=>AB d v && mB ds vs
 | _,_=>false
def IS (K:PySem.W.Frag) (a:Addr) (xs:List PyData):Bool:=match K.lookup a with
 | some o=>(match o.cls,o.data with
  | .type "tuple",.seq its _=>mB xs its.toList && decide (its.size<=sizeLine)
  | _,_=>false) && bW xs
 | Option.none=>false
theorem AD {d:PyData} {v:Value} (h:AB d v=true):RelV (Dx d) v/\gQ d=true:=by
 unfold AB at h
 split at h
 ·exact ⟨rfl,rfl⟩
 ·have:=eq_of_beq h;subst this;exact ⟨rfl,rfl⟩
 ·have:=eq_of_beq h;subst this;exact ⟨⟨_,rfl⟩,rfl⟩
 ·have:=eq_of_beq h;subst this;exact ⟨⟨_,rfl⟩,rfl⟩
 ·cases h
theorem qP:∀ {ds:List PyData} {vs:List Value},mB ds vs=true->Vals (ds.map Dx) vs/\∀ x∈ds,gQ x=true
 | [],[],_=>⟨.nil,by simp⟩
 | [],_::_,h=>by simp [mB] at h
 | _::_,[],h=>by simp [mB] at h
 | d::ds,v::vs,h=>by
  simp only [mB,Bool.and_eq_true] at h
  obtain ⟨h1,h2⟩:=AD h.1
  obtain ⟨k1,k2⟩:=qP h.2
  refine ⟨.cons h1 k1,fun x m=>?_⟩
  rcases List.mem_cons.mp m with rfl | m
  ·exact h2
  ·exact k2 x m
theorem Fp {K:PySem.W.Frag} {a:Addr} {xs:List PyData} (h:IS K a xs=true):zA K a xs:=by
 unfold IS at h
 split at h
 ·rename_i o ho
  simp only [Bool.and_eq_true] at h
  obtain ⟨h,hs⟩:=h
  split at h
  ·rename_i its n hc hd
   simp only [Bool.and_eq_true,decide_eq_true_eq] at h
   obtain ⟨k1,k2⟩:=qP h.1
   exact ⟨⟨o,its,n,ho,hc,hd,h.2,k1⟩,fun x m=>by have:=k2 x m;cases x<;>simp_all [gQ],hs⟩
  ·cases h
 ·cases h
end Ml
namespace Ml
open PySem
def cH:List PyData->List PyData->List (PyData×PyData)
 | k::ks,v::vs=>(k,v)::cH ks vs
 | _,_=>[]
def qf:List PyData->Bool
 | []=>true
 | k::ks=>!(ks.any (PyData.eqv k)) && qf ks
def gc:Fn:=fun xs h=>match xs with
 | [.dat (.tuple ks),.dat (.tuple vs)]=>if ks.all jZ && qf ks && vs.all gQ then .ok (.cx false (cH ks vs)) h else .bad
 | _=>.bad
end Ml
namespace Ml
open PySem
def mU:MS:=aU (nW (jE (cM (ah 2) (cM (ah 3) (jD)))) (ab 0))
    (aU (bK 4 (af gc (aa (ab 2) (aa (ab 1) (ai)))))
    (bR (af iZ (aa (aT 1 (aE (ab 2)) (ah 0) (bT) (ao oEq (ao fv (ab 5) (ab 0)) (af dD (aa (ab 4) (aa (ab 5) (aa (ab 0) (ai))))))) (ai)))))
def cT:Fn:=bF 2 5 mU
end Ml
namespace Ml
open PySem
def eS:MS:=aU (qC (af cJ (aa (ab 0) (ai))))
    (bR (jQ (af fz (aa (ab 1) (aa (ao fv (ab 0) (ag (.int 0))) (ai)))) (af cT (aa (ab 0) (aa (ab 1) (ai))))))
def aN:Fn:=bF 2 2 eS
end Ml
namespace Ml
open PySem
def mV:MS:=aU (bK 1 (ag (.list [.tuple []])))
    (aU (gh (eM (aa (ab 0) (ai))) (ah 2) (bK 1 (sj 2 (aE (ab 1)) (ah 0) (bT) (aE (FZ fO)) (ah 1) (bT) (jY (tX (ab 0) (aa (ab 1) (ai)))))))
    (bR (ab 1)))
def eF:Fn:=bF 1 3 mV
end Ml
namespace Ml
open PySem
def jS:MS:=aU (qC (af cJ (aa (ab 0) (ai))))
    (bR (rM 1 (aE (af eF (aa (af dX (aa (ao fv (ab 0) (ag (.int 0))) (ai))) (ai)))) (ah 0) (bL (af cT (aa (ab 1) (aa (ab 0) (ai))))) (ab 0)))
def de:Fn:=bF 1 1 jS
end Ml
namespace Ml
open PySem
def mW:MS:=aU (ko (aQ (ao oLt (ab 1) (af dX (aa (ab 0) (ai))))) (bR (ao fv (ab 0) (ab 1))) (cB))
    (bR (ag (.int 0)))
def fA:Fn:=bF 2 2 mW
end Ml
namespace Ml
open PySem
def oX:MS:=aU (bK 2 (ag (.list [.int 48271,.int 69621,.int 16807,.int 39373,.int 30269,.int 40014,.int 40692,.int 50021,.int 61687,.int 71993,.int 83869,.int 95561,.int 30307])))
    (aU (bK 3 (ao fV (ao dr (ao oMod (ab 0) (ag (.int 2147483647))) (ag (.int 12345))) (ao fv (ab 2) (ao oMod (ab 1) (ag (.int 13))))))
    (aU (bK 3 (ao dr (ao dr (ab 3) (ao fV (ag (.int 977)) (ab 1))) (ao fV (ag (.int 7919)) (ao nY (ab 1) (ag (.int 13))))))
    (aU (bK 3 (ao oMod (ab 3) (ag (.int 1000000007))))
    (bR (ao nY (ao oMod (ao dr (ao fV (ab 3) (ab 3)) (ao fV (ag (.int 48271)) (ab 1))) (ag (.int 1000000007))) (ag (.int 7)))))))
def dZ:Fn:=bF 2 4 oX
end Ml
namespace Ml
open PySem
def oY:MS:=aU (bK 3 (af fA (aa (ab 0) (aa (ab 1) (ai)))))
    (aU (ko (nJ (aQ (ao oEq (ao oMod (ab 3) (ag (.int 2))) (ag (.int 0)))) (aQ (ao oEq (ab 2) (ag (.int 0))))) (bR (BY (aa (ao nY (af B0 (aa (ab 3) (ai))) (ag (.int 2))) (ai)))) (cB))
    (aU (bK 4 (ag (.int 0)))
    (aU (gh (eM (aa (ag (.int 90)) (ai))) (ah 5) (bK 4 (ao dr (ao fV (ab 4) (ag (.int 142857143))) (af dZ (aa (ab 3) (aa (ao dr (ao fV (ag (.int 90)) (ab 2)) (ab 5)) (ai)))))))
    (bR (BY (aa (ab 4) (ai)))))))
def dA:Fn:=bF 3 6 oY
end Ml
namespace Ml
open PySem
def mY:MS:=aU (nW (jE (cM (ah 2) (cM (ah 3) (jD)))) (af nv (aa (ao fv (ab 0) (ag (.int 0))) (aa (ab 1) (ai)))))
    (aU (nW (pP (ab 0) (ag (.int 0))) (ab 2))
    (bR (ab 3)))
def aw:Fn:=bF 2 4 mY
end Ml
namespace Ml
open PySem
def oZ:MS:=aU (bK 1 (ag (.list [.none,.bool true,.bool false,.int 0,.int 1,.int (-1),.int 7,.int (10 ^ 29),.str "",.str "a",.str "A",.str "a b",.str "abcdefg",.str "in",.tuple [],.list [],.dict []])))
    (aU (bK 1 (ao dr (ab 1) (ag (.list [.tuple [.str "a"],.list [.str "a"]]))))
    (aU (bK 1 (ao dr (ab 1) (ag (.list [.tuple [.str "b",.str "a"],.tuple [.str "a",.str "a"],.tuple [.tuple [],.tuple []],.tuple [.tuple [],.tuple [],.tuple []],.list [.tuple [],.tuple []],.tuple [.tuple [.str "a"],.tuple [.tuple [.str "a",.str "b"]]],.dict [(.str "a",.int 1)]]))))
    (bR (ao fv (ab 1) (af aw (aa (ab 0) (aa (ag (.int 26)) (ai))))))))
def el:Fn:=bF 1 2 oZ
end Ml
namespace Ml
open PySem
def ip:MS:=aU (zo [3,4] (aa (af aw (aa (ab 0) (aa (ao dr (ab 1) (ag (.int 1))) (ai)))) (aa (xk true) (ai))))
    (aU (bK 5 (EV (ao fv (ag (.list [.list [.str "a",.str "b",.str "c",.str "d"],.list [.str "ann",.str "bob",.str "c",.str "dora"]])) (af aw (aa (ab 0) (aa (ag (.int 2)) (ai))))) (n8) (n9 (ab 3))))
    (aU (gh (eM (aa (ao fV (af aw (aa (ab 0) (aa (ao dr (ab 2) (ag (.int 1))) (ai)))) (af tJ (aa (ao Bd (ab 3) (ag (.int 0))) (ai)))) (ai))) (ah 6) (aU (bK 7 (se (aT 1 (aE (ab 5)) (ah 0) (aQ (ao oEq (af aw (aa (ab 1) (aa (ag (.int 2)) (ai)))) (ag (.int 1)))) (ab 0)) (pZ (aa (ao fv (ab 5) (af aw (aa (ab 0) (aa (ab 3) (ai))))) (ai)))))
    (nW (pP (ab 4) (jY (aa (af fF (aa (ab 7) (ai))) (aa (ao fv (ab 5) (af aw (aa (ab 0) (aa (ab 3) (ai))))) (ai))))) (ag (.bool true)))))
    (bR (jY (aa (af fF (aa (ab 5) (ai))) (aa (af fF (aa (af kR (aa (af kP (aa (ab 4) (ai))) (ai))) (ai))) (ai)))))))
def iq:Fn:=bF 3 8 ip
def eU:Fn:=gP iq
end Ml
namespace Ml
open PySem
def gf:MS:=aU (bK 2 (af gc (aa (ao fv (ab 0) (ag (.int 0))) (aa (ab 1) (ai)))))
    (aU (gh (aE (ao fv (ab 0) (ag (.int 0)))) (ah 3) (aU (bK 4 (aT 2 (aE (ao fv (ab 0) (ag (.int 1)))) (jE (cM (ah 0) (cM (ah 1) (jD)))) (aQ (ao oEq (ab 1) (ab 5))) (aT 1 (aE (ab 0)) (ah 0) (bT) (ao fv (ab 5) (ab 0)))))
    (aU (bK 5 (ao nZ (aT 1 (aE (ab 4)) (ah 0) (aQ (ao oEq (ab 0) (ao fV (ag (.list [.str "in"])) (af dX (aa (ab 0) (ai)))))) (ag (.int 1))) (ag (.list []))))
    (aU (bK 6 (ao oEq (aT 1 (aE (ab 4)) (ah 0) (aQ (ao nc (ag (.str "out")) (ab 0))) (ag (.int 1))) (ag (.list []))))
    (aU (bK 7 (FX (bL (ab 6)) (ag (.str "in")) (FX (bL (ab 5)) (ag (.str "out")) (ag (.str "open")))))
    (ko (aQ (ao nZ (ao fv (ab 2) (ab 3)) (ab 7))) (bR (ag (.bool false))) (cB)))))))
    (bR (ag (.bool true))))
def bB:Fn:=bF 2 8 gf
end Ml
namespace Ml
open PySem
def iI:MS:=aU (bK 1 (ag (.list [.tuple []])))
    (aU (gh (eM (aa (ab 0) (ai))) (ah 2) (aU (bK 3 (ag (.list [])))
    (aU (gh (aE (ab 1)) (ah 4) (bK 3 (ao dr (ab 3) (aT 1 (aE (ag (.list [.str "in",.str "open",.str "out"]))) (ah 0) (bT) (ao dr (ab 5) (jY (aa (ab 0) (ai))))))))
    (bK 1 (ab 3)))))
    (bR (ab 1)))
def cW:Fn:=bF 1 5 iI
end Ml
namespace Ml
open PySem
def lr:MS:=aU (bK 1 (af eU (aa (ab 0) (aa (ag (.int 4)) (aa (ag (.int 4)) (ai))))))
    (aU (bK 2 (af fM (aa (ab 1) (ai))))
    (aU (bK 3 (af cW (aa (af dX (aa (ao fv (ab 1) (ag (.int 0))) (ai))) (ai))))
    (aU (bK 4 (aT 1 (aE (ab 3)) (ah 0) (bL (af bB (aa (ab 2) (aa (ab 0) (ai))))) (ab 0)))
    (aU (gh (eM (aa (ag (.int 2)) (ai))) (ah 5) (aU (bK 6 (af de (aa (ab 1) (ai))))
    (aU (ko (aQ (ao nZ (af fM (aa (ab 6) (ai))) (af fM (aa (ab 4) (ai))))) (bR (ag (.bool false))) (cB))
    (qC (zZ kQ (ab 6) (ag .none))))))
    (aU (gh (aE (ab 3)) (ah 7) (ko (aQ (ao nZ (af fM (aa (af aN (aa (ab 1) (aa (ab 7) (ai)))) (ai))) (af fM (aa (ao vp (ab 7) (ab 4)) (ai))))) (bR (ag (.bool false))) (cB)))
    (aU (bK 8 (ao fv (ao dr (ab 4) (ag (.list [.tuple []]))) (ag (.int 0))))
    (aU (gh (aE (pZ (aa (ag .none) (aa (af kP (aa (ab 8) (ai))) (aa (ao dr (ab 8) (ag (.tuple [.str "in"]))) (aa (ao dr (ao lq (ag (.tuple [.str "In"])) (af dX (aa (ao fv (ab 1) (ag (.int 0))) (ai)))) (ag (.tuple [.int 0]))) (aa (ao lq (ag (.tuple [.none])) (ag (.int 5))) (aa (ag (.str "in")) (aa (af el (aa (ab 0) (ai))) (ai)))))))))) (ah 9) (ko (nJ (aQ (ao nc (ab 9) (ab 3))) (aQ (ao oO (af aN (aa (ab 1) (aa (ab 9) (ai)))) (ag (.bool false))))) (bR (ag (.bool false))) (cB)))
    (bR (ao oEq (af fM (aa (ab 1) (ai))) (ab 2))))))))))
def lu:Fn:=bF 1 10 lr
def dE:Fn:=gP lu
end Ml
namespace Ml
open PySem
def DF:MS:=aU (gh (eM (aa (af zu (aa (ag (.int 1)) (aa (af zv (aa (af dX (aa (ab 0) (ai))) (aa (ag (.int 3)) (ai)))) (ai)))) (ai))) (ah 1) (gh (eM (aa (ag (.int 3)) (ai))) (ah 2) (ko (iR (bL (af dE (aa (af dA (aa (ab 0) (aa (ab 1) (aa (ab 2) (ai))))) (ai))))) (bR (ag (.bool false))) (cB))))
    (bR (ag (.bool true)))
def uc:Fn:=bF 1 3 DF
end Ml
namespace L2
open PySem PySem.Spec PyProof.Rows
theorem ud:typeLookup (.type "zip") "keys" = pure none:=am_miss_of_fast (by decide +kernel)
theorem o5:typeLookup (.type "zip") "__getattr__" = pure none:=am_miss_of_fast (by decide +kernel)
theorem ir:entryFor table "zip.__getattribute__" = some Builtin.«object.__getattribute__» :=
 entryFor_alias (id' := "object.__getattribute__") (by kernel_rfl) (by decide +kernel) (by decide +kernel) (by kernel_rfl)
theorem o6 (a:Addr) (vs:Array Value) (u:Tok) :
  Meets (Builtin.«object.__getattribute__» ⟨[.ref a,.str "keys" u],[]⟩) (fun A R s=>s.heap.get? a=some {cls:=.type "zip",data:=.fields vs}/\raisesAttr (.ref a) "keys" A R s):=
 Meets.of_wp fun prog w A R s hs=>by
  obtain ⟨hp,g,d,tk,os⟩:=s
  obtain ⟨hx,hs⟩:=hs
  have hT:(⟨hp,g,d,tk,os⟩:Shared).TypeIs (.ref a) "zip" := ⟨_,hx,rfl⟩
  have hmiss:=ud
  have hname:(["__module__", "__name__", "__qualname__", "__doc__", "__annotations__"]:List Str).contains "keys" = false:=by decide +kernel
  unfold Builtin.«object.__getattribute__»
  repeat (any_goals (first | assumption | wp_step))
  try simp only [hname,Bool.false_eq_true,if_false]
  repeat (any_goals (first | assumption | wp_step))
  exact wpAny_raiseAttrError hs.1 hs.2 (attrMsg_fits (by decide +kernel) (by size_fits))
theorem AE {prog:Program} {w:World} {A:Around} {E:Value->Shared->Prop} {s:Shared} {a:Addr} {vs:Array Value} {Q:Option Value->Shared->Prop}
  (hx:s.heap.get? a=some {cls:=.type "zip",data:=.fields vs}) (hA:A.handled=none)
  (h:∀ h' tk,(∀ b o,s.heap.get? b=some o->h'.get? b=some o)->Q none {s with heap:=h',toks:=tk}) :
  wpAny (model prog w) A (getAttr? (.ref a) "keys") Q E s:=by
 obtain ⟨hp,g,d,tk,os⟩:=s
 have hT:∀ tk',(⟨hp,g,d,tk',os⟩:Shared).TypeIs (.ref a) "zip" := fun _=>⟨_,hx,rfl⟩
 have f1:=sub_AttributeError
 have f3:=F.slot_zip_getattribute.lookup
 have f4:=F.slot_zip_getattribute.bind (.ref a)
 have f5:=o5
 unfold getAttr? getAttrBy? getAttrBy
 repeat (any_goals (first | assumption | exact hT _ | ((with_reducible show wpAny _ _ (call (Value.builtin "zip.__getattribute__") _ _) _ _ _);refine call_meets F.slot_zip_getattribute (hT _) ir (F.args_zip_getattribute_2 _ _) (o6 a vs _) ⟨hx,hA,fun h' tk' e hx'=>?_⟩) | wp_step))
 obtain ⟨t',u',he⟩:=hx'.there
 show wpAny _ _ (getattributeRaised _ _ _ _ _ _ _) _ _ _
 unfold getattributeRaised
 repeat (any_goals (first | assumption | wp_step))
 all_goals exact h _ _ hx'.keeps
end L2
namespace L2
open PySem PySem.Spec PyProof.Rows
theorem eV:entryFor table "dict.update.loop" = some Builtin.«dict.update.loop» := entryFor_of_tree (by kernel_rfl)
theorem bO:plainId "dict.update.loop" = true:=by decide +kernel
theorem ue {kvs:List (Str×Value)} (hn:(kvs.map (·.1)).Nodup) {k:Nat} {x:Str×Value} (hk:kvs[k]?=some x):stored (kvs.take k) x.1 x.2=kvs.take (k+1):=by
 have e:(kvs.take k).any (fun kv=>decide (kv.1=x.1))=false:=by
  rw [List.any_eq_false]
  intro y hy hd
  have hd':y.1=x.1:=of_decide_eq_true hd
  obtain ⟨j,hj,ej⟩:=List.getElem_of_mem hy
  have hjk:j < k:=by rw [List.length_take] at hj;omega
  have hjl:j < kvs.length:=by rw [List.length_take] at hj;omega
  have hkl:k < kvs.length:=(List.getElem?_eq_some_iff.mp hk).1
  have ek:=(List.getElem?_eq_some_iff.mp hk).2
  rw [List.getElem_take] at ej
  have:=(List.getElem_inj (h₀:=by simpa using hjl) (h₁:=by simpa using hkl) hn).mp (by simp only [List.getElem_map];rw [ej,ek];exact hd')
  omega
 unfold stored
 rw [e,if_neg Bool.false_ne_true,List.take_add_one,hk]
 rfl
structure Hq (P:Program) (w:World) (I:Addr) (fp rd:List Addr) (kvs:List (Str×Value)) (St:Nat->Heap->Prop):Prop where
 keep:∀ k h h' d o,d∉fp++rd->h.get? d=some o->o.cls≠.type "tuple" -> Heap.SameBut d h h'->St k h->St k h'
 item:∀ (A:Around) (s:Shared) (k:Nat) (x:Str×Value) (Q:Option Value->Shared->Prop) (E:Value->Shared->Prop),A.handled=none->St k s.heap->kvs[k]?=some x ->
  (∀ h' p u,p∉fp->h'.IsTuple p #[.str x.1 u,x.2]->St (k+1) h'->(∀ c o,c∉fp->s.heap.get? c=some o->h'.get? c=some o)->Q (some (.ref p)) {s with heap:=h'})->wpAny (model P w) A (pyNext (.ref I)) Q E s
 done:∀ (A:Around) (s:Shared) (Q:Option Value->Shared->Prop) (E:Value->Shared->Prop),A.handled=none->St kvs.length s.heap ->
  (∀ h',(∀ c o,c∉fp->s.heap.get? c=some o->h'.get? c=some o)->Q none {s with heap:=h'})->wpAny (model P w) A (pyNext (.ref I)) Q E s
theorem uf {P:Program} {w:World} {A:Around} {R:Result->Shared->Prop} {I d:Addr} {fp rd:List Addr} {kvs:List (Str×Value)} {St:Nat->Heap->Prop} (W:Hq P w I fp rd kvs St) (hd:d∉fp++rd) (hn:(kvs.map (·.1)).Nodup) (hl:kvs.length<=sizeLine) (hA:A.in1.handled=none) :
  ∀ (m k:Nat) (s:Shared),kvs.length - k=m->k<=kvs.length->St k s.heap->s.heap.DictOf (strKind P w) d (kvs.take k) ->
   (∀ h' tk,h'.DictOf (strKind P w) d kvs->(∀ c o,c∉d::fp->s.heap.get? c=some o->h'.get? c=some o)->R (.ok (.ret .none)) {s with heap:=h',toks:=tk}) ->
   codeAny (model P w) A (.builtin "dict.update.loop" ⟨[.ref d,.ref I,rawInt k,.none],[]⟩) R s:=by
 have hdf:d∉fp:=fun h=>hd (List.mem_append_left _ h)
 intro m
 induction m with
 | zero=>
  intro k s hm hk st hD hR
  have e:k=kvs.length:=by omega
  subst e
  rw [List.take_length] at hD
  refine codeAny_builtin eV ?_
  rw [Around.under_plainId bO _]
  show wpAny _ A.in1 (pyNext (.ref I) >>= _) _ _ s
  refine wpAny_bind (W.done A.in1 s _ _ hA st fun h' kp=>?_)
  show wpAny _ A.in1 (Builtin.Dict.addKeywords d [] >>= _) _ _ _
  refine wpAny_bind (wpAny_pure (wpAny_pure ?_))
  obtain ⟨o,es,ep,ho,r⟩:=hD
  exact hR h' s.toks ⟨o,es,ep,kp _ _ hdf ho,r⟩ fun c o hc e=>kp c o (fun h=>hc (List.mem_cons_of_mem _ h)) e
 | succ m ih=>
  intro k s hm hk st hD hR
  have hlt:k < kvs.length:=by omega
  obtain ⟨x,hx⟩:∃ x,kvs[k]?=some x:=⟨_,List.getElem?_eq_getElem hlt⟩
  refine codeAny_builtin eV ?_
  rw [Around.under_plainId bO _]
  show wpAny _ A.in1 (pyNext (.ref I) >>= _) _ _ s
  refine wpAny_bind (W.item A.in1 s k x _ _ hA st hx fun h' p u _ hp st' kp=>?_)
  obtain ⟨o,es,ep,ho,r⟩:=hD
  have hod:o.cls≠.type "tuple" := by rw [r.1.1];exact fun z=>nomatch z
  have hD':h'.DictOf (strKind P w) d (kvs.take k):=⟨o,es,ep,kp _ _ hdf ho,r⟩
  show wpAny _ A.in1 (holding [Value.ref p] _ >>= _) _ _ _
  refine wpAny_bind (wpAny_holding (wpAny_bind ?_))
  refine wpAny_tryCatch ?_
  unfold Builtin.Dict.pairItems
  have hT:({s with heap:=h'}:Shared).TypeIs (.ref p) "tuple" := hp.typeIs
  obtain ⟨op,gp,cp,np,dp⟩:=hp
  refine wpAny_bind (wpAny_typeOf hT ?_)
  rw [if_pos (by decide)]
  refine wpAny_bind (wpAny_seqItems gp dp (wpAny_pure ?_))
  show wpAny _ A.in1 (holding [Value.str x.1 u,x.2] (dictSet d (.str x.1 u) x.2)) _ _ _
  refine wpAny_holding (wpAny_dictSet_pairs (hsz:=by rw [List.length_take];omega) (strKind_is P w x.1 u) hD' fun h2 hD2 sb=>?_)
  rw [ue hn hx] at hD2
  refine wpAny_pure ⟨plainId_quiet bO _,?_⟩
  refine ih (k+1) _ (by omega) hlt (W.keep _ _ _ _ _ hd (kp _ _ hdf ho) hod sb st') hD2 fun h3 tk hD3 kp3=>?_
  exact hR h3 tk hD3 fun c o hc e=>kp3 c o hc ((sb.2 c fun h=>hc (h▸List.mem_cons_self)).trans (kp c o (fun h=>hc (List.mem_cons_of_mem _ h)) e))
end L2
namespace L2
open PySem PySem.Spec PyProof.Rows
section
variable {P:Program} {w:World} {A:Around} {E:Value->Shared->Prop} {s:Shared}
theorem lx {a:Addr} {Q:Option Obj->Shared->Prop} (h:Q (s.heap.get? a) s):wpAny (model P w) A (loadIfAlive a) Q E s:=by
 intro Γ p hΓ
 unfold loadIfAlive
 rw [Sem.wp_loadIfAlive]
 exact wpAny_pure h Γ p hΓ
def fI (h:Heap) (z TI TO:Addr):Prop:=∃ t u v b,IsPair h t u v/\t≠z/\h.get? z=some {cls:=.type "zip",data:=.fields #[rawInt (t:Nat),b,.bool false,.ref TI,.ref TO]}
theorem ug {z TI TO:Addr} {Q:Bool->Shared->Prop} (hz:fI s.heap z TI TO)
  (q:∀ h',fI h' z TI TO->Heap.SameBut z s.heap h'->Q false {s with heap:=h'}):wpAny (model P w) A (Builtin.SmallTypes.ownedTupleIsFree (.ref z)) Q E s:=by
 obtain ⟨t,u,v,b,ht,ne,gz⟩:=hz
 unfold Builtin.SmallTypes.ownedTupleIsFree
 refine wpAny_bind (wpAny_field (x:=rawInt (t:Nat)) gz rfl rfl ?_)
 show wpAny _ _ (loadIfAlive (Int.toNat (t:Nat)) >>= _) _ _ _
 refine wpAny_bind (lx ?_)
 rw [show Int.toNat ((t:Nat):Int)=t from Int.toNat_natCast t,show s.heap.get? t=some _ from ht]
 show wpAny _ _ (field (Value.ref z) 1 >>= _) _ _ _
 refine wpAny_bind (wpAny_field (x:=b) gz rfl rfl ?_)
 by_cases hb:(b != Value.bool true)=true
 ·rw [if_pos hb]
  refine wpAny_bind (wpAny_setField_rec gz (by simp) fun g1 z1 e1=>wpAny_pure (q g1 ⟨t,u,v,.bool true,ak e1 ne ht,ne,z1⟩ e1))
 ·rw [if_neg hb]
  exact wpAny_bind (wpAny_pure (wpAny_pure (q s.heap ⟨t,u,v,b,ht,ne,gz⟩ ⟨rfl,fun _ _=>rfl⟩)))
end
end L2
namespace L2
open PySem PySem.Spec PyProof.Rows
section
variable {P:Program} {w:World} {A:Around} {E:Value->Shared->Prop} {s:Shared}
variable {st1 st2:Nat->Heap->Prop} {xs ys:List Value} {z TI TO i1 i2 l1 l2:Addr} {k:Nat}
theorem fI.keep {h h':Heap} (hz:fI h z TI TO) {i:Addr} {o:Obj} {vs:Array Value} (hi:h.get? i=some o) (ho:o.data=.fields vs) (D:i≠z) (sb:Heap.SameBut i h h'):fI h' z TI TO:=by
 obtain ⟨t,u,v,b,ht,ne,gz⟩:=hz
 have e:t≠i:=fun e=>by
  subst e
  rw [show h.get? t=some _ from ht] at hi
  cases hi
  cases ho
 exact ⟨t,u,v,b,ak sb e ht,ne,ak sb D.symm gz⟩
theorem fI.push {h:Heap} (hz:fI h z TI TO) (o:Obj):fI (h.push o) z TI TO:=by
 obtain ⟨t,u,v,b,ht,ne,gz⟩:=hz
 exact ⟨t,u,v,b,Heap.get?_push_of_some _ ht,ne,Heap.get?_push_of_some _ gz⟩
theorem AF (D:ZA z TI TO i1 i2 l1 l2) (N1:Nx P w i1 l1 st1 xs) (N2:Nx P w i2 l2 st2 ys) {x y:Value} {Q:Value->Shared->Prop} (hz:fI s.heap z TI TO) (hI:IsPair s.heap TI (.ref i1) (.ref i2))
  (s1:st1 k s.heap) (s2:st2 k s.heap) (hx:xs[k]?=some x) (hy:ys[k]?=some y)
  (q:∀ h' p,s.heap.objs.size<=p->st1 (k+1) h'->st2 (k+1) h'->IsPair h' p x y->fI h' z TI TO ->
   (∀ c o,c≠z->c≠i1->c≠i2->s.heap.get? c=some o->h'.get? c=some o)->Q (.ref p) {s with heap:=h'}) :
  wpAny (model P w) A (Builtin.«zip.__next__» ⟨[.ref z],[]⟩) (fun fin s'=>∃ v,fin=.done (.ret v)/\Q v s') E s:=by
 obtain ⟨t,u,v,b,ht,ne,gz⟩:=id hz
 show wpAny _ _ (field (Value.ref z) 2 >>= _) _ _ _
 refine wpAny_bind (wpAny_field (x:=Value.bool false) gz rfl rfl ?_)
 show wpAny _ _ (field (Value.ref z) 3 >>= _) _ _ _
 refine wpAny_bind (wpAny_field (x:=Value.ref TI) gz rfl rfl ?_)
 refine wpAny_bind (wpAny_seqItems hI rfl ?_)
 show wpAny _ _ (Builtin.SmallTypes.ownedTupleIsFree (Value.ref z) >>= _) _ _ _
 refine wpAny_bind (ug hz fun g1 z1 e1=>?_)
 simp only [Bool.false_eq_true,if_false]
 refine wpAny_bind ?_
 rw [<- Array.forIn_toList]
 simp only [List.forIn_nil,List.forIn_cons]
 have t1:st1 k g1:=N1.keep _ _ _ s1 (fun o=>ak e1 D.a3) fun o=>ak e1 D.b2
 obtain ⟨o1,vs1,g1o,d1⟩:=N1.obj _ _ t1
 refine wpAny_bind (wpAny_bind (wpAny_holding ?_))
 show wpAny _ _ (Builtin.SmallTypes.nextOf (Value.ref i1) >>= _) _ _ _
 refine wpAny_bind (N1.item _ k _ x _ _ t1 hx fun g2 t1 e2=>wpAny_pure ?_)
 have z2:=z1.keep g1o d1 D.a3 e2
 refine wpAny_pure (wpAny_bind (wpAny_bind (wpAny_holding ?_)))
 have t2:st2 k g2:=N2.keep _ _ _ s2 (fun o e=>ak e2 D.b1.symm (ak e1 D.a4 e)) fun o e=>ak e2 D.b7 (ak e1 D.b5 e)
 obtain ⟨o2,vs2,g2o,d2⟩:=N2.obj _ _ t2
 show wpAny _ _ (Builtin.SmallTypes.nextOf (Value.ref i2) >>= _) _ _ _
 refine wpAny_bind (N2.item _ k _ y _ _ t2 hy fun g3 t2 e3=>wpAny_pure ?_)
 have z3:=z2.keep g2o d2 D.a4 e3
 have u1:st1 (k+1) g3:=N1.keep _ _ _ t1 (fun o e=>ak e3 D.b1 e) fun o e=>ak e3 D.b4 e
 refine wpAny_pure (wpAny_pure ?_)
 show wpAny _ _ (newTuple [x,y] >>= _) _ _ _
 refine wpAny_bind (wpAny_newTuple ?_)
 refine wpAny_pure ⟨_,rfl,?_⟩
 exact q _ _ (Nat.le_of_eq ((e3.1.trans (e2.1.trans e1.1)).symm)) (N1.keep _ _ _ u1 (fun o e=>Heap.get?_push_of_some _ e) fun o e=>Heap.get?_push_of_some _ e) (N2.keep _ _ _ t2 (fun o e=>Heap.get?_push_of_some _ e) fun o e=>Heap.get?_push_of_some _ e) (Heap.get?_push_size _ rfl) (z3.push _) fun c o n1 n2 n3 e=>
  Heap.get?_push_of_some _ (ak e3 n3 (ak e2 n2 (ak e1 n1 e)))
theorem AG (hh:A.handled=none) (D:ZA z TI TO i1 i2 l1 l2) (N1:Nx P w i1 l1 st1 xs) (N2:Nx P w i2 l2 st2 ys) {Q:PySem.Fin->Shared->Prop} (hz:fI s.heap z TI TO) (hI:IsPair s.heap TI (.ref i1) (.ref i2))
  (s1:st1 k s.heap) (s2:st2 k s.heap) (hend:xs[k]?=none\/ys[k]?=none)
  (q:∀ h' e,(∀ c o,c≠z->c≠i1->c≠i2->s.heap.get? c=some o->h'.get? c=some o)->(∃ o,h'.get? e=some o/\o.cls=.type "StopIteration")->E (.ref e) {s with heap:=h'}) :
  wpAny (model P w) A (Builtin.«zip.__next__» ⟨[.ref z],[]⟩) Q E s:=by
 obtain ⟨t,u,v,b,ht,ne,gz⟩:=id hz
 show wpAny _ _ (field (Value.ref z) 2 >>= _) _ _ _
 refine wpAny_bind (wpAny_field (x:=Value.bool false) gz rfl rfl ?_)
 show wpAny _ _ (field (Value.ref z) 3 >>= _) _ _ _
 refine wpAny_bind (wpAny_field (x:=Value.ref TI) gz rfl rfl ?_)
 refine wpAny_bind (wpAny_seqItems hI rfl ?_)
 show wpAny _ _ (Builtin.SmallTypes.ownedTupleIsFree (Value.ref z) >>= _) _ _ _
 refine wpAny_bind (ug hz fun g1 z1 e1=>?_)
 simp only [Bool.false_eq_true,if_false]
 refine wpAny_bind ?_
 rw [<- Array.forIn_toList]
 simp only [List.forIn_nil,List.forIn_cons]
 have t1:st1 k g1:=N1.keep _ _ _ s1 (fun o=>ak e1 D.a3) fun o=>ak e1 D.b2
 refine wpAny_bind (wpAny_bind (wpAny_holding ?_))
 show wpAny _ _ (Builtin.SmallTypes.nextOf (Value.ref i1) >>= _) _ _ _
 cases hx:xs[k]? with
 | none=>exact wpAny_bind (N1.done _ k _ _ _ hh t1 hx fun g2 e e2 he=>q g2 e (fun c o n1 n2 _ r=>e2 _ _ n2 (ak e1 n1 r)) he)
 | some x=>
  have hy:ys[k]?=none:=by
   rcases hend with r | r
   ·rw [hx] at r;cases r
   ·exact r
  refine wpAny_bind (N1.item _ k _ x _ _ t1 hx fun g2 t1 e2=>wpAny_pure ?_)
  refine wpAny_pure (wpAny_bind (wpAny_bind (wpAny_holding ?_)))
  have t2:st2 k g2:=N2.keep _ _ _ s2 (fun o e=>ak e2 D.b1.symm (ak e1 D.a4 e)) fun o e=>ak e2 D.b7 (ak e1 D.b5 e)
  show wpAny _ _ (Builtin.SmallTypes.nextOf (Value.ref i2) >>= _) _ _ _
  refine wpAny_bind (N2.done _ k _ _ _ hh t2 hy fun g3 e e3 he=>q g3 e (fun c o n1 n2 n3 r=>e3 _ _ n3 (ak e2 n2 (ak e1 n1 r))) he)
end
end L2
namespace L2
open PySem PySem.Spec PyProof.Rows
section
variable {P:Program} {w:World} {A:Around} {E:Value->Shared->Prop} {s:Shared}
def bz:List (Str×Tok)->List Value->List (Str×Value)
 | k::ks,v::vs=>(k.1,v)::bz ks vs
 | _,_=>[]
theorem j9:∀ (ks:List (Str×Tok)) (vs:List Value) (k:Nat) (x:Str×Value),(bz ks vs)[k]?=some x->∃ u,ks[k]?=some (x.1,u)/\vs[k]?=some x.2
 | [],_,k,x,h=>by simp [bz] at h
 | _::_,[],k,x,h=>by simp [bz] at h
 | a::ks,v::vs,0,x,h=>by simp [bz] at h;subst h;exact ⟨a.2,rfl,rfl⟩
 | a::ks,v::vs,k+1,x,h=>by
  simp only [bz,List.getElem?_cons_succ] at h ⊢
  exact j9 ks vs k x h
theorem o7:∀ (ks:List (Str×Tok)) (vs:List Value),ks[(bz ks vs).length]?=none\/vs[(bz ks vs).length]?=none
 | [],_=>.inl rfl
 | _::_,[]=>.inr rfl
 | a::ks,v::vs=>by
  simp only [bz,List.length_cons,List.getElem?_cons_succ]
  exact o7 ks vs
abbrev nh (ks:List (Str×Tok)):List Value:=ks.map fun k=>.str k.1 k.2
def GZ (z TI TO i1 i2 l1 l2:Addr) (xs ys:List Value) (k:Nat) (h:Heap):Prop:=
 (IsZip h z TI TO .none\/fI h z TI TO)/\IsPair h TI (.ref i1) (.ref i2)/\(∃ a b,IsPair h TO a b)/\(h.IsTupleIter i1 l1 k/\h.IsTuple l1 xs.toArray)/\(h.IsTupleIter i2 l2 k/\h.IsTuple l2 ys.toArray)
theorem xm {z TI TO i1 i2 l1 l2:Addr} (D:ZA z TI TO i1 i2 l1 l2) (ks:List (Str×Tok)) (ys:List Value) :
  Hq P w z [z,TO,i1,i2] [TI,l1,l2] (bz ks ys) (GZ z TI TO i1 i2 l1 l2 (nh ks) ys) where
 keep:=fun k h h' d o hd ho hod sb ⟨hz,hI,⟨a,b,hO⟩,s1,s2⟩=>by
  simp only [List.mem_append,List.mem_cons,List.not_mem_nil,or_false,not_or] at hd
  obtain ⟨⟨n1,n2,n3,n4⟩,n5,n6,n7⟩:=hd
  refine ⟨?_,ak sb (Ne.symm n5) hI,⟨a,b,ak sb (Ne.symm n2) hO⟩,(eK (P:=P) (w:=w) i1 l1 _).keep _ _ _ s1 (fun o=>ak sb (Ne.symm n3)) fun o=>ak sb (Ne.symm n6),(eK (P:=P) (w:=w) i2 l2 _).keep _ _ _ s2 (fun o=>ak sb (Ne.symm n4)) fun o=>ak sb (Ne.symm n7)⟩
  rcases hz with hz | ⟨t,u,v,c,ht,ne,gz⟩
  ·exact .inl (ak sb (Ne.symm n1) hz)
  ·refine .inr ⟨t,u,v,c,ak sb (fun e=>?_) ht,ne,ak sb (Ne.symm n1) gz⟩
   rw [e] at ht
   rw [show h.get? d=some _ from ht] at ho
   cases ho
   exact hod rfl
 item:=fun A s k x Q E hh ⟨hz,hI,⟨a,b,hO⟩,s1,s2⟩ hx q=>by
  have old:∀ p,s.heap.objs.size<=p->p∉[z,TO,i1,i2]:=fun p hp hm=>by
   have lt:∀ {c:Addr} {o:Obj},s.heap.get? c=some o->c < s.heap.objs.size:=fun e=>Heap.lt_size e
   obtain ⟨⟨o1,e1,_⟩,_⟩:=id s1
   obtain ⟨⟨o2,e2,_⟩,_⟩:=id s2
   have lz:z < s.heap.objs.size:=by
    rcases hz with hz | ⟨_,_,_,_,_,_,gz⟩
    ·exact lt hz
    ·exact lt gz
   simp only [List.mem_cons,List.not_mem_nil,or_false] at hm
   rcases hm with rfl | rfl | rfl | rfl
   ·exact absurd lz (Nat.not_lt.mpr hp)
   ·exact absurd (lt hO) (Nat.not_lt.mpr hp)
   ·exact absurd (lt e1) (Nat.not_lt.mpr hp)
   ·exact absurd (lt e2) (Nat.not_lt.mpr hp)
  obtain ⟨u,h1,h2⟩:=j9 _ _ _ _ hx
  have h1':(nh ks)[k]?=some (.str x.1 u):=by simp [nh,h1]
  have hT:s.TypeIs (.ref z) "zip" := by
   rcases hz with hz | ⟨_,_,_,_,_,_,gz⟩
   ·exact ⟨_,hz,rfl⟩
   ·exact ⟨_,gz,rfl⟩
  unfold pyNext
  refine wpAny_bind (wpAny_attempt (wpAny_callSpecial?_slot (name:=Str.ofString "__next__") hT F.slot_zip_next (wpAny_call_entry F.slot_zip_next hT F.entry_zip_next ?_ (F.args_zip_next_1 _))))
  rcases hz with hz | hz
  ·refine tm D (eK i1 l1 _) (eK i2 l2 _) hz hI hO s1 s2 h1' h2 fun h' a1 a2 a3 a4 a5 a6=>wpAny_pure (q h' _ u (old _ (Nat.le_refl _)) ⟨_,a5,rfl,_,rfl⟩ ⟨.inr ⟨_,_,_,_,a5,Nat.ne_of_gt (Heap.lt_size hz),a1⟩,a6 _ _ D.a1 D.a5 D.a6 D.a7 hI,⟨_,_,a2⟩,a3,a4⟩ fun c o hc e=>?_)
   simp only [List.mem_cons,List.not_mem_nil,or_false,not_or] at hc
   exact a6 c o hc.1 hc.2.1 hc.2.2.1 hc.2.2.2 e
  ·refine AF D (eK i1 l1 _) (eK i2 l2 _) hz hI s1 s2 h1' h2 fun h' p hp a3 a4 a5 a1 a6=>wpAny_pure (q h' _ u (old _ hp) ⟨_,a5,rfl,_,rfl⟩ ⟨.inr a1,a6 _ _ D.a1 D.a6 D.a7 hI,⟨_,_,a6 _ _ D.a2 D.a8 D.a9 hO⟩,a3,a4⟩ fun c o hc e=>?_)
   simp only [List.mem_cons,List.not_mem_nil,or_false,not_or] at hc
   exact a6 c o hc.1 hc.2.2.1 hc.2.2.2 e
 done:=fun A s Q E hh ⟨hz,hI,⟨a,b,hO⟩,s1,s2⟩ q=>by
  have hend:(nh ks)[(bz ks ys).length]?=none\/ys[(bz ks ys).length]?=none:=by
   rcases o7 ks ys with r | r
   ·exact .inl (by simp [nh,r])
   ·exact .inr r
  have hT:s.TypeIs (.ref z) "zip" := by
   rcases hz with hz | ⟨_,_,_,_,_,_,gz⟩
   ·exact ⟨_,hz,rfl⟩
   ·exact ⟨_,gz,rfl⟩
  unfold pyNext
  refine wpAny_bind (wpAny_attempt (wpAny_callSpecial?_slot (name:=Str.ofString "__next__") hT F.slot_zip_next (wpAny_call_entry F.slot_zip_next hT F.entry_zip_next ?_ (F.args_zip_next_1 _))))
  rcases hz with hz | hz
  ·refine wy (A:=A.in1) hh D (eK i1 l1 _) (eK i2 l2 _) hz hI hO s1 s2 hend fun h' e hk ⟨o,ho,hc⟩=>?_
   refine wpAny_bind (wpAny_isInstance (T := "StopIteration") (b:=true) ⟨o,ho,hc⟩ isSubtype_stop (wpAny_pure (q _ fun c o hc e=>?_)))
   simp only [List.mem_cons,List.not_mem_nil,or_false,not_or] at hc
   exact hk c o hc.1 hc.2.1 hc.2.2.1 hc.2.2.2 e
  ·refine AG (A:=A.in1) hh D (eK i1 l1 _) (eK i2 l2 _) hz hI s1 s2 hend fun h' e hk ⟨o,ho,hc⟩=>?_
   refine wpAny_bind (wpAny_isInstance (T := "StopIteration") (b:=true) ⟨o,ho,hc⟩ isSubtype_stop (wpAny_pure (q _ fun c o hc e=>?_)))
   simp only [List.mem_cons,List.not_mem_nil,or_false,not_or] at hc
   exact hk c o hc.1 hc.2.2.1 hc.2.2.2 e
end
end L2
namespace L2
open PySem PySem.Spec PyProof.Rows
section
variable {P:Program} {w:World} {A:Around} {E:Value->Shared->Prop} {s:Shared}
theorem qg {z TI TO i1 i2 l1 l2:Addr} (D:ZA z TI TO i1 i2 l1 l2) {ks:List (Str×Tok)} {ys:List Value} {Q:Value->Shared->Prop} (hA:A.handled=none) (hz:IsZip s.heap z TI TO .none) (hS:GZ z TI TO i1 i2 l1 l2 (nh ks) ys 0 s.heap)
  (hn:((bz ks ys).map (·.1)).Nodup) (hl:(bz ks ys).length<=sizeLine)
  (q:∀ h' tk,h'.DictOf (strKind P w) s.heap.objs.size (bz ks ys)->(∀ c o,c∉[z,TO,i1,i2]->s.heap.get? c=some o->h'.get? c=some o)->Q (.ref s.heap.objs.size) {s with heap:=h',toks:=tk}) :
  wpAny (model P w) A (call (.type "dict") [.ref z]) Q E s:=by
 refine callType_codes (Q₁:=fun obj s₁=>obj=.ref s.heap.objs.size/\s₁={s with heap:=s.heap.push {cls:=.type "dict",data:=.dict #[]}}) F.kt_called_dict (F.kt_typeCall_dict_1 _) F.entry_dict_init (kt_code_dict_new _ ⟨rfl,rfl⟩) ?_
 rintro obj s₁ ⟨rfl,rfl⟩
 have hnew:(s.heap.push {cls:=.type "dict",data:=.dict #[]}).DictOf (strKind P w) s.heap.objs.size []:=Heap.DictOf.new s.heap
 have up:∀ {c:Addr} {o:Obj},s.heap.get? c=some o->(s.heap.push {cls:=.type "dict",data:=.dict #[]}).get? c=some o:=fun e=>Heap.get?_push_of_some _ e
 have hz':IsZip (s.heap.push {cls:=.type "dict",data:=.dict #[]}) z TI TO .none:=up hz
 obtain ⟨_,hI,⟨a,b,hO⟩,⟨j1,t1⟩,⟨j2,t2⟩⟩:=hS
 have ne:∀ {c:Addr} {o:Obj},s.heap.get? c=some o->s.heap.objs.size≠c:=fun e=>Nat.ne_of_gt (Heap.lt_size e)
 refine ⟨hnew.typeIs,F.args_dict_init_2 _ _,?_⟩
 unfold Builtin.«dict.__init__»
 refine wpAny_bind ?_
 unfold Builtin.Dict.selfAndRest
 refine wpAny_bind (wpAny_notOrdered_dict hnew.typeIs ?_)
 show wpAny _ _ (pure (s.heap.objs.size,[Value.ref z])) _ _ _
 refine wpAny_pure ?_
 show wpAny _ _ (Builtin.Dict.updateFrom "dict.__init__" s.heap.objs.size (.ref z) [] .none) _ _ _
 unfold Builtin.Dict.updateFrom
 refine wpAny_bind (wpAny_typeOf (T := "zip") ⟨_,hz',rfl⟩ ?_)
 rw [if_pos (by decide)]
 refine wpAny_bind (AE hz' hA fun h' tk kp=>?_)
 rw [if_pos (by rfl)]
 refine wpAny_bind (wpAny_rule ?_)
 have kp':∀ {c:Addr} {o:Obj},s.heap.get? c=some o->h'.get? c=some o:=fun e=>kp _ _ (up e)
 refine wpAny_bind (wpAny_pyIter_zip (TI:=TI) (TO:=TO) (f0:=.none) (kp' hz) ?_)
 refine wpAny_pure ⟨plainId_quiet bO _,?_⟩
 obtain ⟨o1,e1,r1⟩:=j1
 obtain ⟨o2,e2,r2⟩:=j2
 obtain ⟨o3,e3,r3⟩:=t1
 obtain ⟨o4,e4,r4⟩:=t2
 have hS':GZ z TI TO i1 i2 l1 l2 (nh ks) ys 0 h':=⟨.inl (kp' hz),kp' hI,⟨a,b,kp' hO⟩,⟨⟨o1,kp' e1,r1⟩,⟨o3,kp' e3,r3⟩⟩,⟨⟨o2,kp' e2,r2⟩,⟨o4,kp' e4,r4⟩⟩⟩
 have hN':h'.DictOf (strKind P w) s.heap.objs.size ((bz ks ys).take 0):=by
  obtain ⟨o,es,ep,ho,r⟩:=hnew
  exact ⟨o,es,ep,kp _ _ ho,r⟩
 refine uf (A:=A.in1) (rd:=[TI,l1,l2]) (fp:=[z,TO,i1,i2]) (xm D ks ys) ?_ hn hl hA _ 0 {s with heap:=h',toks:=tk} rfl (Nat.zero_le _) hS' hN' fun h2 tk2 hD kp2=>?_
 ·simp only [List.mem_append,List.mem_cons,List.not_mem_nil,or_false,not_or]
  exact ⟨⟨ne hz,ne hO,ne e1,ne e2⟩,ne hI,ne e3,ne e4⟩
 ·refine ⟨rfl,q h2 tk2 hD fun c o hc e=>kp2 c o (fun h=>?_) (kp' e)⟩
  rcases List.mem_cons.mp h with r | r
  ·exact ne e r.symm
  ·exact hc r
end
end L2
namespace L2
open PySem PySem.Spec PyProof.Rows
theorem su:typeLookup (.type "list") "keys" = pure none:=am_miss_of_fast (by decide +kernel)
theorem yo {prog:Program} {w:World} {A:Around} {E:Value->Shared->Prop} {s:Shared} {a:Addr} {vs:Array Value} {k:Nat} {Q:Option Value->Shared->Prop}
  (hx:s.heap.get? a=some {cls:=.type "list",dict:=none,data:=.seq vs k,slots:=#[]}) (hA:A.handled=none)
  (h:∀ h' tk,(∀ b o,s.heap.get? b=some o->h'.get? b=some o)->Q none {s with heap:=h',toks:=tk}) :
  wpAny (model prog w) A (getAttr? (.ref a) "keys") Q E s:=by
 obtain ⟨hp,g,d,tk,os⟩:=s
 have hT:∀ tk',(⟨hp,g,d,tk',os⟩:Shared).TypeIs (.ref a) "list" := fun _=>⟨_,hx,rfl⟩
 have f1:=sub_AttributeError
 have f3:=F.slot_list_getattribute.lookup
 have f4:=F.slot_list_getattribute.bind (.ref a)
 have f5:=am_list_getattr_none
 unfold getAttr? getAttrBy? getAttrBy
 repeat (any_goals (first | assumption | exact hT _ | ((with_reducible show wpAny _ _ (call (Value.builtin "list.__getattribute__") _ _) _ _ _);refine call_meets F.slot_list_getattribute (hT _) am_entry_list_getattribute (F.args_list_getattribute_2 _ _) (meets_getattribute_miss_list a vs k #[] "keys" _ su (by decide +kernel) (by size_fits)) ⟨hx,hA,fun h' tk' e hx'=>?_⟩) | wp_step))
 obtain ⟨t',u',he⟩:=hx'.there
 show wpAny _ _ (getattributeRaised _ _ _ _ _ _ _) _ _ _
 unfold getattributeRaised
 repeat (any_goals (first | assumption | wp_step))
 all_goals exact h _ _ hx'.keeps
end L2
namespace L2
open PySem PySem.Spec PyProof.Rows
theorem vI:typeLookup (.type "zip") "__len__" = pure none:=am_miss_of_fast (by decide +kernel)
theorem uh:typeLookup (.type "zip") "__length_hint__" = pure none:=am_miss_of_fast (by decide +kernel)
abbrev ka (acc:Array Value) (c:Nat):Obj:={cls:=.type "list",dict:=none,data:=.seq acc c,slots:=#[]}
def dU (h:Heap) (S:Addr) (fp:List Addr) (acc:Array Value) (kvs:List (Str×Value)):Prop:=
 acc.size=kvs.length/\∀ (j:Nat) (x:Str×Value),kvs[j]?=some x->∃ p u,acc[j]?=some (.ref p)/\p∉S::fp/\h.IsTuple p #[.str x.1 u,x.2]
theorem dU.at {h h':Heap} {S:Addr} {fp:List Addr} {acc:Array Value} {kvs:List (Str×Value)} (x:dU h S fp acc kvs) (k:∀ c o,c∉S::fp->h.get? c=some o->h'.get? c=some o):dU h' S fp acc kvs:=
 ⟨x.1,fun j y hy=>let ⟨p,u,h1,h2,o,e,r⟩:=x.2 j y hy;⟨p,u,h1,h2,o,k _ _ h2 e,r⟩⟩
theorem dU.push {h:Heap} {S:Addr} {fp:List Addr} {acc:Array Value} {kvs:List (Str×Value)} {k:Nat} {x:Str×Value} {p:Addr} {u:Tok} (z:dU h S fp acc (kvs.take k)) (hx:kvs[k]?=some x) (hp:p∉S::fp) (ht:h.IsTuple p #[.str x.1 u,x.2]):dU h S fp (acc.push (.ref p)) (kvs.take (k+1)):=by
 have hk:k < kvs.length:=(List.getElem?_eq_some_iff.mp hx).1
 have hsz:acc.size=k:=by rw [z.1,List.length_take];omega
 refine ⟨by rw [Array.size_push,hsz,List.length_take];omega,fun j y hy=>?_⟩
 by_cases hj:j < k
 ·rw [List.getElem?_take_of_lt (by omega)] at hy
  obtain ⟨q,v,h1,h2⟩:=z.2 j y (by rw [List.getElem?_take_of_lt hj];exact hy)
  exact ⟨q,v,by rw [Array.getElem?_push_lt (by omega)];rw [<- h1];exact (Array.getElem?_eq_getElem (by omega)).symm,h2⟩
 ·have hj2:j < k+1:=by
   have:=(List.getElem?_eq_some_iff.mp hy).1
   rw [List.length_take] at this
   omega
  have e:j=k:=by omega
  subst e
  rw [List.getElem?_take_of_lt hj2,hx] at hy
  cases hy
  exact ⟨p,u,by rw [<- hsz];simp,hp,ht⟩
section
variable {P:Program} {w:World} {A:Around} {E:Value->Shared->Prop} {s:Shared}
theorem AH {R:Result->Shared->Prop} {I S:Addr} {fp rd:List Addr} {kvs:List (Str×Value)} {St:Nat->Heap->Prop} {res:Value} (W:Hq P w I fp rd kvs St) (hS:S∉fp++rd) (hl:kvs.length<=sizeLine) (hA:A.in1.handled=none) :
  ∀ (m k:Nat) (s:Shared) (acc:Array Value) (c:Nat),kvs.length - k=m->k<=kvs.length->St k s.heap->s.heap.get? S=some (ka acc c)->dU s.heap S fp acc (kvs.take k) ->
   (∀ h' acc' c',h'.get? S=some (ka acc' c')->dU h' S fp acc' kvs->(∀ b o,b∉S::fp->s.heap.get? b=some o->h'.get? b=some o)->R (.ok (.ret res)) {s with heap:=h'}) ->
   codeAny (model P w) A (.builtin "list.extend.loop" ⟨[.ref S,.ref I,res],[]⟩) R s:=by
 have hSf:S∉fp:=fun h=>hS (List.mem_append_left _ h)
 intro m
 induction m with
 | zero=>
  intro k s acc c hm hk st hL hP hR
  have e:k=kvs.length:=by omega
  subst e
  rw [List.take_length] at hP
  refine codeAny_builtin PySem.F.entry_extend_loop ?_
  rw [Around.under_plainId PySem.F.plain_extend_loop _]
  show wpAny _ A.in1 (pyNext (.ref I) >>= _) _ _ s
  refine wpAny_bind (W.done A.in1 s _ _ hA st fun h' kp=>wpAny_pure ?_)
  have kp':∀ b o,b∉S::fp->s.heap.get? b=some o->h'.get? b=some o:=fun b o hb e=>kp b o (fun z=>hb (List.mem_cons_of_mem _ z)) e
  exact hR h' acc c (kp _ _ hSf hL) (hP.at kp') kp'
 | succ m ih=>
  intro k s acc c hm hk st hL hP hR
  have hlt:k < kvs.length:=by omega
  obtain ⟨x,hx⟩:∃ x,kvs[k]?=some x:=⟨_,List.getElem?_eq_getElem hlt⟩
  have hsz:acc.size=k:=by rw [hP.1,List.length_take];omega
  refine codeAny_builtin PySem.F.entry_extend_loop ?_
  rw [Around.under_plainId PySem.F.plain_extend_loop _]
  show wpAny _ A.in1 (pyNext (.ref I) >>= _) _ _ s
  refine wpAny_bind (W.item A.in1 s k x _ _ hA st hx fun h' p u hpf hp st' kp=>?_)
  have kp':∀ b o,b∉S::fp->s.heap.get? b=some o->h'.get? b=some o:=fun b o hb e=>kp b o (fun z=>hb (List.mem_cons_of_mem _ z)) e
  have hL':=kp _ _ hSf hL
  have hpS:p∉S::fp:=fun z=>by
   rcases List.mem_cons.mp z with e | e
   ·obtain ⟨o,ho,hc,_⟩:=hp
    rw [e,hL'] at ho
    cases ho
    exact absurd (Value.type.inj hc) (by decide)
   ·exact hpf e
  show wpAny _ A.in1 (updateSeq S (·.push (.ref p)) >>= _) _ _ _
  refine wpAny_bind ?_
  refine wpAny_updateSeq hL' rfl (wpAny_pure ⟨plainId_quiet PySem.F.plain_extend_loop _,?_⟩) (by rw [hsz];omega) (by show (acc.push (.ref p)).size<=sizeLine+1;rw [Array.size_push,hsz];omega)
  have sb:Heap.SameBut S h' (h'.update S (Obj.mapSeq (·.push (.ref p)))):=Heap.SameBut.update ..
  have up:∀ b o,b∉S::fp->h'.get? b=some o->(h'.update S (Obj.mapSeq (·.push (.ref p)))).get? b=some o:=fun b o hb e=>(sb.2 b fun z=>hb (z▸List.mem_cons_self)).trans e
  refine ih (k+1) _ (acc.push (.ref p)) _ (by omega) hlt (W.keep _ _ _ _ _ hS hL' (fun z=>absurd (Value.type.inj z) (by decide)) sb st') (Heap.get?_update_self _ hL' rfl) (dU.push (u:=u) ((hP.at kp').at up) hx hpS ?_) fun h3 acc' c' g1 g2 g3=>?_
  ·obtain ⟨o,ho,r⟩:=hp
   exact ⟨o,up _ _ hpS ho,r⟩
  ·exact hR h3 acc' c' g1 g2 fun b o hb e=>g3 b o hb (up _ _ hb (kp' _ _ hb e))
theorem AI {z:Addr} {Q:Bool->Shared->Prop} (hT:s.TypeIs (.ref z) "zip") (h:Q true s):wpAny (model P w) A (Builtin.List.listLengthHint (.ref z)) Q E s:=by
 unfold Builtin.List.listLengthHint
 refine wpAny_bind (wpAny_specialOf hT vI ?_)
 refine wpAny_ite_split (fun hab=>absurd hab (by decide)) (fun _=>?_)
 refine wpAny_ite_split (fun hab=>absurd hab (by decide)) (fun _=>?_)
 refine wpAny_bind (wpAny_specialOf hT uh ?_)
 exact wpAny_pure h
theorem qh {z TI TO i1 i2 l1 l2:Addr} (D:ZA z TI TO i1 i2 l1 l2) {ks:List (Str×Tok)} {ys:List Value} {Q:Value->Shared->Prop} (hA:A.handled=none) (hz:IsZip s.heap z TI TO .none) (hS:GZ z TI TO i1 i2 l1 l2 (nh ks) ys 0 s.heap)
  (hl:(bz ks ys).length<=sizeLine)
  (q:∀ h' acc c,h'.get? s.heap.objs.size=some (ka acc c)->dU h' s.heap.objs.size [z,TO,i1,i2] acc (bz ks ys)->(∀ c o,c∉[z,TO,i1,i2]->s.heap.get? c=some o->h'.get? c=some o)->Q (.ref s.heap.objs.size) {s with heap:=h'}) :
  wpAny (model P w) A (call (.type "list") [.ref z]) Q E s:=by
 refine callType_codes (Q₁:=fun obj s₁=>obj=.ref s.heap.objs.size/\s₁={s with heap:=s.heap.push {cls:=.type "list",data:=.seq #[]}}) PySem.F.called_list (PySem.F.typeCall_list_1 _) PySem.F.entry_list_init
  (code_list_new _ ⟨rfl,rfl⟩) fun obj s₁ h₁=>?_
 obtain ⟨rfl,rfl⟩:=h₁
 have hL:(s.heap.push {cls:=.type "list",data:=.seq #[]}).get? s.heap.objs.size=some (ka #[] 0):=Heap.get?_push_size _ rfl
 refine ⟨⟨_,hL,rfl⟩,PySem.F.args_list_init_2 _ _,?_⟩
 have ne:∀ {c:Addr} {o:Obj},s.heap.get? c=some o->s.heap.objs.size≠c:=fun e=>Nat.ne_of_gt (Heap.lt_size e)
 obtain ⟨_,hI,⟨a,b,hO⟩,⟨⟨o1,e1,r1⟩,⟨o3,e3,r3⟩⟩,⟨⟨o2,e2,r2⟩,⟨o4,e4,r4⟩⟩⟩:=hS
 generalize hS0:s.heap.objs.size=S at *
 have hSn:S∉[z,TO,i1,i2]++[TI,l1,l2]:=by
  simp only [List.mem_append,List.mem_cons,List.not_mem_nil,or_false,not_or]
  exact ⟨⟨ne hz,ne hO,ne e1,ne e2⟩,ne hI,ne e3,ne e4⟩
 have fin:∀ (h:Heap) (c:Nat),h.get? S=some (ka #[] c)->(∀ b o,b≠S->s.heap.get? b=some o->h.get? b=some o)->codeAny (model P w) A.in1 (.builtin "list.extend.loop" ⟨[.ref S,.ref z,.none],[]⟩) (wants (fun r s₂=>r=Value.none/\Q (Value.ref S) s₂) E) {s with heap:=h}:=fun h c hL' kp=>by
  have kp':∀ {b:Addr} {o:Obj},s.heap.get? b=some o->h.get? b=some o:=fun {b o} e=>kp b o (Ne.symm (ne e)) e
  refine AH (A:=A.in1) (rd:=[TI,l1,l2]) (fp:=[z,TO,i1,i2]) (xm D ks ys) hSn hl hA _ 0 {s with heap:=h} #[] c rfl (Nat.zero_le _) ⟨.inl (kp' hz),kp' hI,⟨a,b,kp' hO⟩,⟨⟨o1,kp' e1,r1⟩,⟨o3,kp' e3,r3⟩⟩,⟨⟨o2,kp' e2,r2⟩,⟨o4,kp' e4,r4⟩⟩⟩ hL' ⟨rfl,fun j x hx=>by simp at hx⟩ fun h2 acc' c' g1 g2 g3=>?_
  exact ⟨rfl,q h2 acc' c' g1 g2 fun b o hb e=>g3 b o (fun z=>by
   rcases List.mem_cons.mp z with e' | e'
   ·exact ne e e'.symm
   ·exact hb e') (kp' e)⟩
 show wpAny _ _ (do let old <- Builtin.List.listItems (.ref S);Builtin.List.listUpdate (.ref S) (fun _=>#[]);letGo old.toList.reverse;Builtin.List.listExtendWith (.ref S) (.ref z) .none) _ _ _
 refine wpAny_bind ?_
 unfold Builtin.List.listItems
 refine wpAny_bind (wpAny_seqItems hL rfl (wpAny_pure ?_))
 show wpAny _ _ (updateSeq S (fun _=>#[]) >>= fun _=>letGo (#[]:Array Value).toList.reverse >>= fun _=>Builtin.List.listExtendWith (.ref S) (.ref z) .none) _ _ _
 refine wpAny_bind (wpAny_updateSeq hL rfl ?_)
 have hL2:=Heap.get?_update_self (Obj.mapSeq (fun _=>(#[]:Array Value))) hL rfl
 have oth:∀ b o,b≠S->s.heap.get? b=some o->((s.heap.push {cls:=.type "list",data:=.seq #[]}).update S (Obj.mapSeq (fun _=>(#[]:Array Value)))).get? b=some o:=
  fun b o hb e=>(Heap.get?_update_other _ _ (Ne.symm hb)).trans (Heap.get?_push_of_some _ e)
 refine wpAny_bind (wpAny_letGo ?_)
 have hz2:=oth z _ (Ne.symm (ne hz)) hz
 unfold Builtin.List.listExtendWith
 refine wpAny_bind (wpAny_typeOf (T := "zip") ⟨_,hz2,rfl⟩ ?_)
 have h1:Builtin.List.listSameRef (.ref S) (.ref z)=false:=by simp [Builtin.List.listSameRef,ne hz]
 simp only [h1,show (Value.type "zip" == Value.type "list")=false from by decide,show (Value.type "zip" == Value.type "tuple")=false from by decide,Bool.or_false,Bool.false_eq_true,if_false]
 refine wpAny_bind (wpAny_pyIter_zip (TI:=TI) (TO:=TO) (f0:=.none) hz2 ?_)
 refine wpAny_bind (wpAny_holding (AI ⟨_,hz2,rfl⟩ ?_))
 refine wpAny_ite_split (fun _=>?_) (fun _=>wpAny_pure ⟨plainId_quiet PySem.F.plain_extend_loop _,fin _ _ hL2 oth⟩)
 refine wpAny_bind (wpAny_rule ?_)
 refine wpAny_bind ?_
 show wpAny _ _ (updateSeq S (·.push .none) >>= fun _=>updateSeq S (·.pop)) _ _ _
 refine wpAny_bind (wpAny_updateSeq hL2 rfl ?_)
 have hL3:=Heap.get?_update_self (Obj.mapSeq (·.push Value.none)) hL2 rfl
 refine wpAny_updateSeq (hz:=by seq_fits) hL3 rfl ?_
 have hL4:=Heap.get?_update_self (Obj.mapSeq (·.pop)) hL3 rfl
 refine wpAny_pure ⟨plainId_quiet PySem.F.plain_extend_loop _,fin _ _ hL4 fun b o hb e=>?_⟩
 exact (Heap.get?_update_other _ _ (Ne.symm hb)).trans ((Heap.get?_update_other _ _ (Ne.symm hb)).trans (oth b o hb e))
theorem AJ {I S:Addr} {fp0:List Addr} {acc:Array Value} {c:Nat} {kvs:List (Str×Value)} (hIS:I≠S) :
  Hq P w I [I] [S] kvs (fun k h=>h.IsListIter I S k/\h.get? S=some (ka acc c)/\dU h S [I] acc kvs) where
 keep:=fun k h h' d o hd ho hod sb ⟨h1,h2,h3⟩=>by
  simp only [List.mem_append,List.mem_cons,List.not_mem_nil,or_false,not_or] at hd
  obtain ⟨o1,e1,r1⟩:=h1
  refine ⟨⟨o1,(sb.2 I (Ne.symm hd.1)).trans e1,r1⟩,(sb.2 S (Ne.symm hd.2)).trans h2,h3.1,fun j x hx=>?_⟩
  obtain ⟨p,u,k1,k2,op,k3,k4,k5⟩:=h3.2 j x hx
  refine ⟨p,u,k1,k2,op,(sb.2 p fun z=>?_).trans k3,k4,k5⟩
  rw [z,ho] at k3
  cases k3
  exact hod k4
 item:=fun A s k x Q E hh ⟨h1,h2,h3⟩ hx q=>by
  obtain ⟨p,u,k1,k2,k3⟩:=h3.2 k x hx
  refine wpAny_pyNext_list_item h1 (items:=acc) ⟨_,h2,rfl,_,rfl⟩ k1 fun h' t1 sb=>?_
  have kp:∀ c o,c∉[I]->s.heap.get? c=some o->h'.get? c=some o:=fun c o hc e=>(sb.2 c fun z=>hc (by simp [z])).trans e
  have hpI:p∉[I]:=fun z=>k2 (List.mem_cons_of_mem _ z)
  obtain ⟨op,g1,g2⟩:=k3
  exact q h' p u hpI ⟨op,kp _ _ hpI g1,g2⟩ ⟨t1,kp _ _ (by simp [Ne.symm hIS]) h2,h3.at fun c o hc e=>kp c o (fun z=>hc (List.mem_cons_of_mem _ z)) e⟩ kp
 done:=fun A s Q E hh ⟨h1,h2,h3⟩ q=>by
  refine wpAny_pyNext_list_end hh h1 (items:=acc) ⟨_,h2,rfl,_,rfl⟩ (by rw [<- h3.1];simp) fun h' eb=>q h' fun c o hc e=>eb c o (by simpa using hc) e
theorem o8 {S:Addr} {acc:Array Value} {c:Nat} {kvs:List (Str×Value)} {fp:List Addr} {Q:Value->Shared->Prop} (hA:A.handled=none) (hL:s.heap.get? S=some (ka acc c)) (hP:dU s.heap S fp acc kvs)
  (hn:(kvs.map (·.1)).Nodup) (hl:kvs.length<=sizeLine)
  (q:∀ h' tk,h'.DictOf (strKind P w) s.heap.objs.size kvs->(∀ c o,s.heap.get? c=some o->h'.get? c=some o)->Q (.ref s.heap.objs.size) {s with heap:=h',toks:=tk}) :
  wpAny (model P w) A (call (.type "dict") [.ref S]) Q E s:=by
 refine callType_codes (Q₁:=fun obj s₁=>obj=.ref s.heap.objs.size/\s₁={s with heap:=s.heap.push {cls:=.type "dict",data:=.dict #[]}}) F.kt_called_dict (F.kt_typeCall_dict_1 _) F.entry_dict_init (kt_code_dict_new _ ⟨rfl,rfl⟩) ?_
 rintro obj s₁ ⟨rfl,rfl⟩
 have hnew:(s.heap.push {cls:=.type "dict",data:=.dict #[]}).DictOf (strKind P w) s.heap.objs.size []:=Heap.DictOf.new s.heap
 have up:∀ {c:Addr} {o:Obj},s.heap.get? c=some o->(s.heap.push {cls:=.type "dict",data:=.dict #[]}).get? c=some o:=fun e=>Heap.get?_push_of_some _ e
 have ne:∀ {c:Addr} {o:Obj},s.heap.get? c=some o->s.heap.objs.size≠c:=fun e=>Nat.ne_of_gt (Heap.lt_size e)
 refine ⟨hnew.typeIs,F.args_dict_init_2 _ _,?_⟩
 unfold Builtin.«dict.__init__»
 refine wpAny_bind ?_
 unfold Builtin.Dict.selfAndRest
 refine wpAny_bind (wpAny_notOrdered_dict hnew.typeIs ?_)
 show wpAny _ _ (pure (s.heap.objs.size,[Value.ref S])) _ _ _
 refine wpAny_pure ?_
 show wpAny _ _ (Builtin.Dict.updateFrom "dict.__init__" s.heap.objs.size (.ref S) [] .none) _ _ _
 unfold Builtin.Dict.updateFrom
 refine wpAny_bind (wpAny_typeOf (T := "list") ⟨_,up hL,rfl⟩ ?_)
 rw [if_pos (by decide)]
 refine wpAny_bind (yo (up hL) hA fun h' tk kp=>?_)
 rw [if_pos (by rfl)]
 refine wpAny_bind (wpAny_rule ?_)
 have kp':∀ {c:Addr} {o:Obj},s.heap.get? c=some o->h'.get? c=some o:=fun e=>kp _ _ (up e)
 refine wpAny_bind (wpAny_pyIter_list (items:=acc) ⟨_,kp' hL,rfl,_,rfl⟩ ?_)
 refine wpAny_pure ⟨plainId_quiet bO _,?_⟩
 have hd':h'.get? s.heap.objs.size=some _:=kp _ _ (Heap.get?_push_size _ rfl)
 have neI:∀ {c:Addr} {o:Obj},h'.get? c=some o->h'.objs.size≠c:=fun e=>Nat.ne_of_gt (Heap.lt_size e)
 have upI:∀ {c:Addr} {o o':Obj},h'.get? c=some o->(h'.push o').get? c=some o:=fun e=>Heap.get?_push_of_some _ e
 have hN':(h'.push {cls:=.type "list_iterator",data:=.fields #[.ref S,.int 0 0]}).DictOf (strKind P w) s.heap.objs.size (kvs.take 0):=by
  obtain ⟨o,es,ep,ho,r⟩:=hnew
  exact ⟨o,es,ep,upI (kp _ _ ho),r⟩
 refine uf (A:=A.in1) (rd:=[S]) (fp:=[h'.objs.size]) (AJ (fp0:=[]) (acc:=acc) (c:=c) (neI (kp' hL))) ?_ hn hl hA _ 0 {s with heap:=h'.push {cls:=.type "list_iterator",data:=.fields #[.ref S,.int 0 0]},toks:=tk} rfl (Nat.zero_le _) ⟨⟨_,Heap.get?_push_size _ rfl,rfl,rfl⟩,upI (kp' hL),hP.1,fun j x hx=>?_⟩ hN' fun h2 tk2 hD kp2=>?_
 ·simp only [List.mem_append,List.mem_cons,List.not_mem_nil,or_false,not_or]
  exact ⟨Ne.symm (neI hd'),ne hL⟩
 ·obtain ⟨p,u,k1,k2,op,k3,k4⟩:=hP.2 j x hx
  refine ⟨p,u,k1,?_,op,upI (kp' k3),k4⟩
  simp only [List.mem_cons,List.not_mem_nil,or_false,not_or]
  exact ⟨fun z=>k2 (z▸List.mem_cons_self),Ne.symm (neI (kp' k3))⟩
 ·refine ⟨rfl,q h2 tk2 hD fun c o e=>kp2 c o (fun h=>?_) (upI (kp' e))⟩
  simp only [List.mem_cons,List.not_mem_nil,or_false] at h
  rcases h with r | r
  ·exact ne e r.symm
  ·exact neI (kp' e) r.symm
end
end L2
namespace Ml
open PySem PySem.Spec L2
section
variable {P:Program} {w:World}
def Ct (p:Str×Value):Key×Value:=(Sum.inr p.1,p.2)
theorem qQ:∀ {es:List DictEntry} {kvs:List (Str×Value)},Pairs (strKind P w) es kvs->Pairs (bX P w) es (kvs.map Ct)
 | _,_,.nil=>.nil
 | _,_,.cons h1 h2 h3=>.cons h1 h2 (qQ h3)
theorem AK {h:Heap} {a:Addr} {kvs:List (Str×Value)} (x:h.DictOf (strKind P w) a kvs):h.DictOf (bX P w) a (kvs.map Ct):=by
 obtain ⟨o,es,ep,h1,h2,h3,h4,h5,h6⟩:=x
 refine ⟨o,es,ep,h1,h2,h3,fun e he=>?_,qQ h5,?_⟩
 ·obtain ⟨k,k1,k2⟩:=h4 e he
  exact ⟨Sum.inr k,k1,k2⟩
 ·rw [List.map_map]
  have e:((fun x:Key×Value=>x.1)∘Ct)=fun p:Str×Value=>(Sum.inr p.1:Key):=rfl
  rw [e,show (fun p:Str×Value=>(Sum.inr p.1:Key))=Sum.inr∘(fun p:Str×Value=>p.1) from rfl,<- List.map_map]
  exact List.Pairwise.map _ (fun a b ne z=>ne (Sum.inr.inj z)) h6
end
theorem ui {M:Hp}:∀ {ks:List PyData} {vs:List V} {us:List Value},ks.all jZ=true->aW M ks vs->Vals vs us->∃ kt:List (Str×Tok),us=nh kt/\ks=kt.map fun p=>PyData.str p.1
 | [],vs,us,_,r,v=>by
  cases r
  cases v
  exact ⟨[],rfl,rfl⟩
 | k::ks,vs,us,a,r,v=>by
  simp only [List.all_cons,Bool.and_eq_true] at a
  obtain ⟨x,xs,rfl,r1,r2⟩:=r
  cases v with
  | cons v1 v2=>
   obtain ⟨kt,e1,e2⟩:=ui a.2 r2 v2
   cases k with
   | str y=>
    simp only [Rep] at r1
    subst r1
    obtain ⟨t,e⟩:=v1
    subst e
    exact ⟨(y,t)::kt,by rw [e1];rfl,by rw [e2];rfl⟩
   | _=>simp [jZ] at a
def xn:List (Str×Tok)->List V->List (Key×V)
 | k::ks,v::vs=>(Sum.inr k.1,v)::xn ks vs
 | _,_=>[]
theorem AL:∀ {kt:List (Str×Tok)} {vs:List V} {us:List Value},Vals vs us->L2.KV (xn kt vs) ((bz kt us).map Ct)
 | [],_,_,_=>by simp [xn,bz];exact .nil
 | _::_,_,_,.nil=>by simp [xn,bz];exact .nil
 | k::kt,_,_,.cons v1 v2=>.cons ⟨rfl,v1⟩ (AL v2)
theorem Cu {M:Hp} {d:PyData} {v:V} (f:gQ d=true) (r:Rep M d v):fL v=some d:=by
 cases d<;>simp [gQ] at f<;>(simp only [Rep] at r;subst r;rfl)
theorem qR {M:Hp}:∀ {kt:List (Str×Tok)} {vs:List PyData} {us:List V},vs.all gQ=true->aW M vs us->bh (xn kt us)=some (cH (kt.map fun p=>PyData.str p.1) vs)
 | [],_,_,_,_=>by simp [xn,bh,cH]
 | _::_,[],_,_,r=>by cases r;simp [xn,bh,cH]
 | k::kt,d::vs,_,a,r=>by
  simp only [List.all_cons,Bool.and_eq_true] at a
  obtain ⟨x,xs,rfl,r1,r2⟩:=r
  simp only [xn,bh,Cu a.1 r1,qR (kt:=kt) a.2 r2,List.map_cons,cH]
  rfl
theorem xo:∀ (kt:List (Str×Tok)) (vs:List V),(xn kt vs).length<=kt.length
 | [],_=>by simp [xn]
 | _::_,[]=>by simp [xn]
 | k::kt,v::vs=>by simp [xn];exact xo kt vs
theorem uj:∀ (kt:List (Str×Tok)) (vs:List Value),(bz kt vs).length<=kt.length
 | [],_=>by simp [bz]
 | _::_,[]=>by simp [bz]
 | k::kt,v::vs=>by simp [bz];exact uj kt vs
theorem qS:∀ {kt:List (Str×Tok)} (us:List Value),qf (kt.map fun p=>PyData.str p.1)=true->((bz kt us).map (·.1)).Nodup
 | [],_,_=>by simp [bz]
 | _::_,[],_=>by simp [bz]
 | k::kt,u::us,h=>by
  simp only [List.map_cons,qf,Bool.and_eq_true,Bool.not_eq_true',List.any_eq_false] at h
  simp only [bz,List.map_cons]
  refine List.nodup_cons.mpr ⟨fun m=>?_,qS us h.2⟩
  obtain ⟨x,hx,e⟩:=List.mem_map.mp m
  obtain ⟨j,hj,ej⟩:=List.getElem_of_mem hx
  obtain ⟨t,e1,_⟩:=j9 kt us j x (by rw [List.getElem?_eq_getElem hj,ej])
  have:=h.1 (PyData.str x.1) (List.mem_map.mpr ⟨(x.1,t),List.mem_of_getElem? e1,rfl⟩)
  rw [e] at this
  simp [PyData.eqv] at this
theorem qT:∀ {ks vs:List PyData} {p:PyData×PyData},p∈cH ks vs->p.1∈ks/\p.2∈vs
 | [],_,_,h=>by simp [cH] at h
 | _::_,[],_,h=>by simp [cH] at h
 | k::ks,v::vs,p,h=>by
  simp only [cH,List.mem_cons] at h
  rcases h with rfl | h
  ·simp
  ·obtain ⟨h1,h2⟩:=qT h
   exact ⟨List.mem_cons_of_mem _ h1,List.mem_cons_of_mem _ h2⟩
section
variable {X:Cx} {E:XK} {ma:MA} {e1 e2:Expr} {p1 p2 p3 p4 p5 pos:Pos}
theorem xp {Q:VK} {pins:List (Addr×Obj)} {σ:St} {H1:Hp} {s1:Shared} {θ1:List Addr} {h1:Hm} {ds:List D} {vs:List V} {us:List Value} (I1:Inv X pins σ H1 s1) (w1:W X.G θ1 h1 H1) (rs:aJ X.G θ1 H1 ds vs) (rv:Vals vs us) (p:aD X.G (md X.G E) θ1 H1 (gc ds h1) (KV X.G Q))
  {W1:Value->Shared->Prop} (fin:∀ (a1 a2:Addr) (kt:List (Str×Tok)) (ys:List Value) (h':Heap),EC s1.heap h' a1 a2->GZ (s1.heap.objs.size+4) (s1.heap.objs.size+2) (s1.heap.objs.size+3) s1.heap.objs.size (s1.heap.objs.size+1) a1 a2 (nh kt) ys 0 h' ->
   ZA (s1.heap.objs.size+4) (s1.heap.objs.size+2) (s1.heap.objs.size+3) s1.heap.objs.size (s1.heap.objs.size+1) a1 a2->((bz kt ys).map (·.1)).Nodup->(bz kt ys).length<=sizeLine ->
   (∀ (h2:Heap) (tk:Nat) (a:Addr),s1.heap.objs.size<=a->h2.DictOf (strKind X.prog X.w) a (bz kt ys)->(∀ c o,s1.heap.get? c=some o->h2.get? c=some o)->EP X pins σ Q (.ref a) {s1 with heap:=h2,toks:=tk}) ->
   W1 (.ref (s1.heap.objs.size+4)) {s1 with heap:=h'}) :
  wpAny (model X.prog X.w) X.A (call (.type "zip") us) W1 X.xe s1:=by
 unfold gc at p
 split at p
 ·rename_i ks xs
  split at p
  ·rename_i hc
   simp only [Bool.and_eq_true] at hc
   obtain ⟨⟨hc1,hc2⟩,hc3⟩:=hc
   cases rs with
   | cons r1 rr=>
    cases rr with
    | cons r2 rr=>
     cases rr
     have so1:bW ks=true:=by simpa [cI] using r1.2
     have so2:bW xs=true:=by simpa [cI] using r2.2
     obtain ⟨a1,ws1,rfl,g1,q1,_⟩:=eP r1
     obtain ⟨a2,ws2,rfl,g2,q2,_⟩:=eP r2
     cases rv with
     | cons z1 rv=>
      cases rv with
      | cons z2 rv=>
       cases rv
       cases z1
       cases z2
       obtain ⟨its1,v1,t1,l1⟩:=I1.tuple (eZ.of (ay _ _ _ _ g1))
       obtain ⟨its2,v2,t2,l2⟩:=I1.tuple (eZ.of (ay _ _ _ _ g2))
       obtain ⟨kt,rfl,rfl⟩:=ui hc1 q1 v1
       have L1:a1 < s1.heap.objs.size:=by obtain ⟨_,e,_⟩:=t1;exact Heap.lt_size e
       have L2:a2 < s1.heap.objs.size:=by obtain ⟨_,e,_⟩:=t2;exact Heap.lt_size e
       have lk:kt.length<=sizeLine:=by
        have a:=v1.length
        simp [nh] at a
        rw [<- a]
        exact l1
       refine kF (show s1.heap.IsTuple a1 (nh kt).toArray from t1) (show s1.heap.IsTuple a2 its2.toArray from t2) fun h' N=>?_
       obtain ⟨o1,f1,f2⟩:=t1
       obtain ⟨o2,f3,f4⟩:=t2
       refine fin a1 a2 kt its2 h' N ⟨.inl N.z,N.ti,⟨_,_,N.to⟩,⟨N.i1,o1,N.keep _ _ f1,f2⟩,⟨N.i2,o2,N.keep _ _ f3,f4⟩⟩ (Dq _ _ _ L1 L2) (qS its2 hc2) (Nat.le_trans (uj _ _) lk) fun h2 tk a ha dd kp=>?_
       have hn:H1 a=none:=I1.hok.fresh ha
       have hsys:(a == sysModules)=false:=beq_eq_false_iff_ne.mpr (Ne.symm (Nat.ne_of_lt (Nat.lt_of_lt_of_le I1.big ha)))
       obtain ⟨e3,w3,g3⟩:=w1.put (o:=.dK (xn kt ws2)) hn
       refine ⟨.ref a,upd H1 a (.dK (xn kt ws2)),I1.laid (t':=tk) kp ha (vh (Nat.le_trans (xo _ _) lk) hsys (AL v2) (AK dd)),rfl,p _ _ e3 w3 _ ⟨a,rfl,.inl ⟨rfl,_,g3,qR hc3 q2,fun x hx=>?_⟩⟩⟩
       obtain ⟨m1,m2⟩:=qT hx
       exact ⟨bN.mp so1 _ m1,bN.mp so2 _ m2⟩
  ·exact p.elim
 ·exact p.elim
theorem AM (hc:X.calm=true) (hm:X.mg "dict" = none) (hm2:X.mg "zip" = none) (ha:DA X E ma [e1,e2]) (hg:Gl X "dict" := by rfl) (hg2:Gl X "zip" := by rfl) (hs:starEach [e1,e2] X.env=[(false,eval e1 X.env),(false,eval e2 X.env)]:=by rfl) (hs2:starEach [e2] X.env=[(false,eval e2 X.env)]:=by rfl)
  (hs3:starEach [.Call (.Name "zip" p2) [e1,e2] [] p3] X.env=[(false,eval (.Call (.Name "zip" p2) [e1,e2] [] p3) X.env)]:=by rfl) :
  DE X E (af gc ma) (.Call (.Name "dict" p1) [.Call (.Name "zip" p2) [e1,e2] [] p3] [] pos):=by
 simp only [bu,gv] at *
 intro pins s σ H Q I ⟨θ,h,ρ,w,fr,p⟩
 refine wpAny_Call_Name_kw (gC I hg hm (by decide +kernel:bootBuiltins "dict" = some (.type "dict")) ?_)
 refine PyProof.Rows.callWith_type1 ?_ (by rw [hs3];rfl) (by rfl)
 rw [hs3]
 show wpAny _ _ (spliced ((false,eval (.Call (.Name "zip" p2) [e1,e2] [] p3) X.env)::[])) _ _ s
 refine Calls.spliced_cons ?_
 refine wpAny_Call_Name_kw (gC I hg2 hm2 (by decide +kernel:bootBuiltins "zip" = some (.type "zip")) ?_)
 refine PyProof.Rows.callWith_type1 (bJ (ha p3 pins s σ H (fun vs H1=>∃ θ1 h1 ds,W X.G θ1 h1 H1/\aJ X.G θ1 H1 ds vs/\aD X.G (md X.G E) θ1 H1 (gc ds h1) (Ml.KV X.G Q)) I ⟨θ,h,ρ,w,fr,(aD.bind p).mono fun ds θ1 h1 H1 _ _ ⟨ev,w1,q1⟩ vs r1=>⟨θ1,h1,ds,w1,r1,q1⟩⟩) fun us s1 ⟨vs,H1,I1,r1,θ1,h1,ds,w1,rs,q1⟩=>?_) (by rw [hs,hs2]) (by rw [hs2];rfl)
 refine xp I1 w1 rs r1 q1 fun a1 a2 kt ys h' N S D nd le fin=>?_
 refine Calls.spliced_nil ?_
 have sz:=N.sz
 refine qg D (I1.ok.hd hc) N.z S nd le fun h2 tk dd kp=>fin h2 tk _ (by show s1.heap.objs.size<=h'.objs.size;omega) dd fun c o e=>kp c o (fun z=>?_) (N.keep _ _ e)
 have lt:=Heap.lt_size e
 simp only [List.mem_cons,List.not_mem_nil,or_false] at z
 rcases z with rfl | rfl | rfl | rfl
 ·exact absurd lt (Nat.not_lt.mpr (Nat.le_add_right _ _))
 ·exact absurd lt (Nat.not_lt.mpr (Nat.le_add_right _ _))
 ·exact absurd lt (Nat.lt_irrefl _)
 ·exact absurd lt (Nat.not_lt.mpr (Nat.le_add_right _ _))
theorem yp (hc:X.calm=true) (hm:X.mg "dict" = none) (hm2:X.mg "zip" = none) (hm3:X.mg "list" = none) (ha:DA X E ma [e1,e2]) (hg:Gl X "dict" := by rfl) (hg2:Gl X "zip" := by rfl) (hg3:Gl X "list" := by rfl) (hs:starEach [e1,e2] X.env=[(false,eval e1 X.env),(false,eval e2 X.env)]:=by rfl) (hs2:starEach [e2] X.env=[(false,eval e2 X.env)]:=by rfl)
  (hs3:starEach [.Call (.Name "zip" p2) [e1,e2] [] p3] X.env=[(false,eval (.Call (.Name "zip" p2) [e1,e2] [] p3) X.env)]:=by rfl)
  (hs4:starEach [.Call (.Name "list" p4) [.Call (.Name "zip" p2) [e1,e2] [] p3] [] p5] X.env=[(false,eval (.Call (.Name "list" p4) [.Call (.Name "zip" p2) [e1,e2] [] p3] [] p5) X.env)]:=by rfl) :
  DE X E (af gc ma) (.Call (.Name "dict" p1) [.Call (.Name "list" p4) [.Call (.Name "zip" p2) [e1,e2] [] p3] [] p5] [] pos):=by
 simp only [bu,gv] at *
 intro pins s σ H Q I ⟨θ,h,ρ,w,fr,p⟩
 refine wpAny_Call_Name_kw (gC I hg hm (by decide +kernel:bootBuiltins "dict" = some (.type "dict")) ?_)
 refine PyProof.Rows.callWith_type1 ?_ (by rw [hs4];rfl) (by rfl)
 rw [hs4]
 show wpAny _ _ (spliced ((false,eval (.Call (.Name "list" p4) [.Call (.Name "zip" p2) [e1,e2] [] p3] [] p5) X.env)::[])) _ _ s
 refine Calls.spliced_cons ?_
 refine wpAny_Call_Name_kw (gC I hg3 hm3 (by decide +kernel:bootBuiltins "list" = some (.type "list")) ?_)
 refine PyProof.Rows.callWith_type1 ?_ (by rw [hs3];rfl) (by rfl)
 rw [hs3]
 show wpAny _ _ (spliced ((false,eval (.Call (.Name "zip" p2) [e1,e2] [] p3) X.env)::[])) _ _ s
 refine Calls.spliced_cons ?_
 refine wpAny_Call_Name_kw (gC I hg2 hm2 (by decide +kernel:bootBuiltins "zip" = some (.type "zip")) ?_)
 refine PyProof.Rows.callWith_type1 (bJ (ha p3 pins s σ H (fun vs H1=>∃ θ1 h1 ds,W X.G θ1 h1 H1/\aJ X.G θ1 H1 ds vs/\aD X.G (md X.G E) θ1 H1 (gc ds h1) (Ml.KV X.G Q)) I ⟨θ,h,ρ,w,fr,(aD.bind p).mono fun ds θ1 h1 H1 _ _ ⟨ev,w1,q1⟩ vs r1=>⟨θ1,h1,ds,w1,r1,q1⟩⟩) fun us s1 ⟨vs,H1,I1,r1,θ1,h1,ds,w1,rs,q1⟩=>?_) (by rw [hs,hs2]) (by rw [hs2];rfl)
 refine xp I1 w1 rs r1 q1 fun a1 a2 kt ys h' N S D nd le fin=>?_
 refine Calls.spliced_nil ?_
 have sz:=N.sz
 refine qh D (I1.ok.hd hc) N.z S le fun h2 acc c gl pp kp=>?_
 refine Calls.spliced_nil ?_
 have szl:h'.objs.size < h2.objs.size:=Heap.lt_size gl
 refine o8 (s:={s1 with heap:=h2}) (I1.ok.hd hc) gl pp nd le fun h3 tk dd kp3=>fin h3 tk _ (by show s1.heap.objs.size<=h2.objs.size;omega) dd fun c o e=>kp3 c o (kp c o (fun z=>?_) (N.keep _ _ e))
 have lt:=Heap.lt_size e
 simp only [List.mem_cons,List.not_mem_nil,or_false] at z
 rcases z with rfl | rfl | rfl | rfl
 ·exact absurd lt (Nat.not_lt.mpr (Nat.le_add_right _ _))
 ·exact absurd lt (Nat.not_lt.mpr (Nat.le_add_right _ _))
 ·exact absurd lt (Nat.lt_irrefl _)
 ·exact absurd lt (Nat.not_lt.mpr (Nat.le_add_right _ _))
end
end Ml
namespace K66
open PySem L2 Ml
def top (i:Nat):Stmt:=PySem.Challenge.pw_everalike_k66_joint_marks_right.main.body.getD i (.Pass ⟨0,0,0,0⟩)
structure Txt (K:PySem.W.Frag) (mg:Str->Option Value):Prop where
 n_all:mg "all" = none
 n_len:mg "len" = none
 n_isinstance:mg "isinstance" = none
 n_str:mg "str" = none
 n_zip:mg "zip" = none
 n_tuple:mg "tuple" = none
 n_any:mg "any" = none
 n_dict:mg "dict" = none
 n_range:mg "range" = none
 n_abs:mg "abs" = none
 n_divmod:mg "divmod" = none
 n_sorted:mg "sorted" = none
 n_list:mg "list" = none
 n_int:mg "int" = none
 n_repr:mg "repr" = none
 n_max:mg "max" = none
 n_min:mg "min" = none
 i_LONGEST_NAME:∃ t,mg "LONGEST_NAME" = some (.int 6 t)
 i_MOST_NAMES:∃ t,mg "MOST_NAMES" = some (.int 12 t)
 i_MOST_JOINT:∃ t,mg "MOST_JOINT" = some (.int 4 t)
 t_MARKS:∃ a,mg "MARKS" = some (.ref a)/\zA K a fO
section
variable {P:Program} {w:World} {K:PySem.W.Frag} {mg:Str->Option Value} {base:Heap} {XE:VK->XK} {bm:Addr}
abbrev mC:Stmt:=top 6
theorem vJ:aV ["thing"] ["thing"] (aF mC):=⟨rfl,rfl,rfl,by decide +kernel,rfl,by decide +kernel,by decide +kernel⟩
theorem sv:(["letter", "thing"]:List Str).Nodup:=by decide +kernel
theorem yq (D:Df K mg "is_name" ["thing"] mC) (T:Txt K mg):aO P w K mg base "is_name" ["thing"] 1 fR:=
 aO.eq (Df.has (k:=0) D vJ (fun f cdv A outer s H E hr=>
  au (fw (DW.dt (qI (gG (cz (vE (BS _) EL T.n_isinstance T.n_str (dv 0)))) (mf (gG (Aq zR zR (aI) (iM f7 T.n_len dW (ae (dv 0) (aj))) (nB T.i_LONGEST_NAME)))))) (aB (aS (cO))) (cE))
  (aB (aS (iM (ll rfl) T.n_all hG (ae (cQ ["letter"] (by rfl) rfl (ck (dv 0)) (fun _ _ _ _ _=>dg 0 sv) (fun _ _ _ _ _=>cV) (fun _ _ _ _ _=>Ap zR zR (fH) (dv 0) (fH))) (aj))))))) (by kernel_rfl)
abbrev i9:Stmt:=top 7
theorem sy:aV ["things"] ["things"] (aF i9):=⟨rfl,rfl,rfl,by decide +kernel,rfl,by decide +kernel,by decide +kernel⟩
theorem ja:(["low", "high", "things"]:List Str).Nodup:=by decide +kernel
theorem uk (D:Df K mg "is_rising" ["things"] i9) (T:Txt K mg):aO P w K mg base "is_rising" ["things"] 1 cG:=
 aO.eq (Df.has (k:=0) D sy (fun f cdv A outer s H E hr=>
  aB (aS (iM (ll rfl) T.n_all hG (ae (cQ ["low", "high"] (by rfl) rfl (E5 (by rfl) T.n_zip (ae (dv 0) (ae (tS (dv 0) (xb (aI)) (xa)) (aj)))) (fun _ _ _ _ _=>j3 rfl (cF (dg 0 ja) (cF (dg 1 ja) (hZ))) (bM (bM (fi)))) (fun _ _ _ _ _=>cV) (fun _ _ _ _ _=>eO (GJ hr) (dv 0) (dv 1) (by rfl))) (aj)))))) (by kernel_rfl)
abbrev jb:Stmt:=top 8
theorem sA:aV ["thing"] ["thing"] (aF jb):=⟨rfl,rfl,rfl,by decide +kernel,rfl,by decide +kernel,by decide +kernel⟩
theorem o9:(["part", "thing"]:List Str).Nodup:=by decide +kernel
theorem um (D:Df K mg "are_names" ["thing"] jb) (T:Txt K mg) (H_is_rising:aO P w K mg base "is_rising" ["things"] 1 cG) (H_is_name:aO P w K mg base "is_name" ["thing"] 1 fR):aO P w K mg base "are_names" ["thing"] 2 fx:=
 aO.eq (Df.has (k:=1) D sA (fun f cdv A outer s H E hr=>
  au (fw (DW.dt (qI (gG (cz (vE (kit_tuple _) eL T.n_isinstance T.n_tuple (dv 0)))) (mf (dh B7 (iM f7 T.n_len dW (ae (dv 0) (aj))) (nB T.i_MOST_NAMES) (by rfl))))) (aB (aS (cO))) (cE))
  (aB (aS (gw (iM (ll rfl) T.n_all hG (ae (cQ ["part"] (by rfl) rfl (ck (dv 0)) (fun _ _ _ _ _=>dg 0 o9) (fun _ _ _ _ _=>cV) (fun _ _ _ _ _=>bZ H_is_name dI (hr.mono (by omega)) (by rfl) (ae (dv 0) (aj)))) (aj))) (j0 (bZ H_is_rising bP (hr.mono (by omega)) (by rfl) (ae (dv 0) (aj))))))))) (by kernel_rfl)
abbrev pb:Stmt:=top 9
theorem yr:aV ["thing", "names"] ["thing", "names"] (aF pb):=⟨rfl,rfl,rfl,by decide +kernel,rfl,by decide +kernel,by decide +kernel⟩
theorem uo:(["part", "thing", "names"]:List Str).Nodup:=by decide +kernel
theorem AN (D:Df K mg "is_lot" ["thing", "names"] pb) (T:Txt K mg) (H_is_rising:aO P w K mg base "is_rising" ["things"] 1 cG):aO P w K mg base "is_lot" ["thing", "names"] 2 i8:=
 aO.eq (Df.has (k:=1) D yr (fun f cdv A outer s H E hr=>
  au (fw (gG (cz (vE (kit_tuple _) eL T.n_isinstance T.n_tuple (dv 0)))) (aB (aS (cO))) (cE))
  (aB (aS (gw (iM (ll rfl) T.n_all hG (ae (cQ ["part"] (by rfl) rfl (ck (dv 0)) (fun _ _ _ _ _=>dg 0 uo) (fun _ _ _ _ _=>cV) (fun _ _ _ _ _=>eO (Cn hr) (dv 0) (dv 2) (by rfl))) (aj))) (j0 (bZ H_is_rising bP (hr.mono (by omega)) (by rfl) (ae (dv 0) (aj))))))))) (by kernel_rfl)
abbrev eW:Stmt:=top 13
theorem en:aV ["thing", "names", "lot", "name"] ["thing", "names"] (aF eW):=⟨rfl,rfl,rfl,by decide +kernel,rfl,by decide +kernel,by decide +kernel⟩
theorem ly (D:Df K mg "is_joint_strike" ["thing", "names"] eW) (T:Txt K mg) (H_is_lot:aO P w K mg base "is_lot" ["thing", "names"] 2 i8):aO P w K mg base "is_joint_strike" ["thing", "names"] 3 cb:=
 aO.eq (Df.has (k:=2) D en (fun f cdv A outer s H E hr=>
  au (fw (DW.dt (qI (gG (cz (vE (kit_tuple _) eL T.n_isinstance T.n_tuple (dv 0)))) (mf (dh (vz hr) (iM f7 T.n_len dW (ae (dv 0) (aj))) (aI) (by rfl))))) (aB (aS (cO))) (cE))
  (au (mj (dv 0) (j3 rfl (cF (dg 2 en.nd) (cF (dg 3 en.nd) (hZ))) (bM (bM (fi)))))
  (aB (aS (gw (bZ H_is_lot bP (hr.mono (by omega)) (by rfl) (ae (dv 2) (ae (dv 1) (aj)))) (gw (eO B7 (iM f7 T.n_len dW (ae (dv 2) (aj))) (aI) (by rfl)) (j0 (eO (Cn hr) (dv 3) (dv 1) (by rfl)))))))))) (by kernel_rfl)
abbrev dJ:Stmt:=top 14
theorem jc:aV ["thing", "names"] ["thing", "names"] (aF dJ):=⟨rfl,rfl,rfl,by decide +kernel,rfl,by decide +kernel,by decide +kernel⟩
theorem iu:(["part", "thing", "names"]:List Str).Nodup:=by decide +kernel
theorem jJ (D:Df K mg "are_joint_strikes" ["thing", "names"] dJ) (T:Txt K mg) (H_is_rising:aO P w K mg base "is_rising" ["things"] 1 cG) (H_is_joint_strike:aO P w K mg base "is_joint_strike" ["thing", "names"] 3 cb):aO P w K mg base "are_joint_strikes" ["thing", "names"] 4 cq:=
 aO.eq (Df.has (k:=3) D jc (fun f cdv A outer s H E hr=>
  au (fw (DW.dt (qI (gG (cz (vE (kit_tuple _) eL T.n_isinstance T.n_tuple (dv 0)))) (mf (dh B7 (iM f7 T.n_len dW (ae (dv 0) (aj))) (nB T.i_MOST_JOINT) (by rfl))))) (aB (aS (cO))) (cE))
  (aB (aS (gw (iM (ll rfl) T.n_all hG (ae (cQ ["part"] (by rfl) rfl (ck (dv 0)) (fun _ _ _ _ _=>dg 0 iu) (fun _ _ _ _ _=>cV) (fun _ _ _ _ _=>bZ H_is_joint_strike dI (hr.mono (by omega)) (by rfl) (ae (dv 0) (ae (dv 2) (aj))))) (aj))) (j0 (bZ H_is_rising bP (hr.mono (by omega)) (by rfl) (ae (dv 0) (aj))))))))) (by kernel_rfl)
abbrev kb:Stmt:=top 15
theorem jd:aV ["thing", "names", "strikes"] ["thing"] (aF kb):=⟨rfl,rfl,rfl,by decide +kernel,rfl,by decide +kernel,by decide +kernel⟩
theorem vK (D:Df K mg "is_joint" ["thing"] kb) (T:Txt K mg) (H_are_joint_strikes:aO P w K mg base "are_joint_strikes" ["thing", "names"] 4 cq) (H_are_names:aO P w K mg base "are_names" ["thing"] 2 fx):aO P w K mg base "is_joint" ["thing"] 5 gb:=
 aO.eq (Df.has (k:=4) D jd (fun f cdv A outer s H E hr=>
  au (fw (DW.dt (qI (gG (cz (vE (kit_tuple _) eL T.n_isinstance T.n_tuple (dv 0)))) (mf (dh (vz hr) (iM f7 T.n_len dW (ae (dv 0) (aj))) (aI) (by rfl))))) (aB (aS (cO))) (cE))
  (au (mj (dv 0) (j3 rfl (cF (dg 1 jd.nd) (cF (dg 2 jd.nd) (hZ))) (bM (bM (fi)))))
  (aB (aS (gw (bZ H_are_names bP (hr.mono (by omega)) (by rfl) (ae (dv 1) (aj))) (gw (eO zR (iM f7 T.n_len dW (ae (dv 1) (aj))) (nB T.i_MOST_JOINT) (by rfl)) (j0 (bZ H_are_joint_strikes bP (hr.mono (by omega)) (by rfl) (ae (dv 2) (ae (dv 1) (aj)))))))))))) (by kernel_rfl)
abbrev gI:Stmt:=top 16
theorem pd:aV ["thing"] ["thing"] (aF gI):=⟨rfl,rfl,rfl,by decide +kernel,rfl,by decide +kernel,by decide +kernel⟩
theorem qi (D:Df K mg "check_joint" ["thing"] gI) (T:Txt K mg) (H_is_joint:aO P w K mg base "is_joint" ["thing"] 5 gb):aO P w K mg base "check_joint" ["thing"] 6 cJ:=
 aO.eq (Df.has (k:=5) D pd (fun f cdv A outer s H E hr=>
  aB (fw (gG (cz (bZ H_is_joint bP (hr.mono (by omega)) (by rfl) (ae (dv 0) (aj))))) (aB (Fo)) (cE)))) (by kernel_rfl)
abbrev je:Stmt:=top 17
theorem sC:aV ["thing", "names"] ["thing", "names"] (aF je):=⟨rfl,rfl,rfl,by decide +kernel,rfl,by decide +kernel,by decide +kernel⟩
theorem pe:(["part", "thing", "names"]:List Str).Nodup:=by decide +kernel
theorem uq (D:Df K mg "are_marks" ["thing", "names"] je) (T:Txt K mg):aO P w K mg base "are_marks" ["thing", "names"] 1 fz:=
 aO.eq (Df.has (k:=0) D sC (fun f cdv A outer s H E hr=>
  au (fw (DW.dt (qI (gG (cz (vE (kit_tuple _) eL T.n_isinstance T.n_tuple (dv 0)))) (mf (dh (vz hr) (iM f7 T.n_len dW (ae (dv 0) (aj))) (iM f7 T.n_len dW (ae (dv 1) (aj))) (by rfl))))) (aB (aS (cO))) (cE))
  (aB (aS (iM (ll rfl) T.n_all hG (ae (cQ ["part"] (by rfl) rfl (ck (dv 0)) (fun _ _ _ _ _=>dg 0 pe) (fun _ _ _ _ _=>cV) (fun _ _ _ _ _=>eO (Cn hr) (dv 0) (xc T.t_MARKS) (by rfl))) (aj))))))) (by kernel_rfl)
abbrev iw:Stmt:=top 18
theorem jT:aV ["strikes", "marked", "name", "against"] ["strikes", "marked", "name"] (aF iw):=⟨rfl,rfl,rfl,by decide +kernel,rfl,by decide +kernel,by decide +kernel⟩
theorem iJ:(["lot", "strikes", "marked", "name", "against"]:List Str).Nodup:=by decide +kernel
theorem iK:(["one", "lot", "strikes", "marked", "name", "against"]:List Str).Nodup:=by decide +kernel
theorem iL:(["lot", "other", "strikes", "marked", "name", "against"]:List Str).Nodup:=by decide +kernel
theorem sD (D:Df K mg "right_mark" ["strikes", "marked", "name"] iw) (T:Txt K mg):aO P w K mg base "right_mark" ["strikes", "marked", "name"] 1 dD:=
 aO.eq (Df.has (k:=0) D jT (fun f cdv A outer s H E hr=>
  au (wZ (i:=3) ["lot", "other"] jT.nd rfl rfl (by rfl) rfl (ck (dv 0)) (fun _ _ _ _ _=>j3 rfl (cF (dg 0 iL) (cF (dg 1 iL) (hZ))) (bM (bM (fi)))) (fun _ _ _ _ _=>ib (dh (oF hr) (dv 1) (dv 4) (by rfl))) (fun _ _ _ _ _=>dv 0))
  (au (fw (cz (iM (DB rfl) T.n_any Ar (ae (cQ ["lot"] (by rfl) rfl (ck (dv 3)) (fun _ _ _ _ _=>dg 0 iJ) (fun _ _ _ _ _=>cV) (fun _ _ _ _ _=>iM (ll rfl) T.n_all hG (ae (cQ ["one"] (by rfl) rfl (ck (dv 0)) (fun _ _ _ _ _=>dg 0 iK) (fun _ _ _ _ _=>cV) (fun _ _ _ _ _=>eO (oF hr) (eE (b8 hr) (dv 3) (dv 0) (fun _ _=>rfl)) (fH) (by rfl))) (aj)))) (aj)))) (aB (aS (fH))) (cE))
  (au (fw (cz (iM (ll rfl) T.n_all hG (ae (cQ ["lot"] (by rfl) rfl (ck (dv 3)) (fun _ _ _ _ _=>dg 0 iJ) (fun _ _ _ _ _=>cV) (fun _ _ _ _ _=>iM (DB rfl) T.n_any Ar (ae (cQ ["one"] (by rfl) rfl (ck (dv 0)) (fun _ _ _ _ _=>dg 0 iK) (fun _ _ _ _ _=>cV) (fun _ _ _ _ _=>eO (oF hr) (eE (b8 hr) (dv 3) (dv 0) (fun _ _=>rfl)) (fH) (by rfl))) (aj)))) (aj)))) (aB (aS (fH))) (cE))
  (aB (aS (fH))))))) (by kernel_rfl)
abbrev jf:Stmt:=top 19
theorem fP:aV ["joint", "marks", "names", "strikes", "marked"] ["joint", "marks"] (aF jf):=⟨rfl,rfl,rfl,by decide +kernel,rfl,by decide +kernel,by decide +kernel⟩
theorem pf:(["name", "joint", "marks", "names", "strikes", "marked"]:List Str).Nodup:=by decide +kernel
theorem ur (D:Df K mg "are_right" ["joint", "marks"] jf) (T:Txt K mg) (H_right_mark:aO P w K mg base "right_mark" ["strikes", "marked", "name"] 1 dD):aO P w K mg base "are_right" ["joint", "marks"] 2 cT:=
 aO.eq (Df.has (k:=1) D fP (fun f cdv A outer s H E hr=>
  au (mj (dv 0) (j3 rfl (cF (dg 2 fP.nd) (cF (dg 3 fP.nd) (hZ))) (bM (bM (fi)))))
  (au (fj 4 fP.nd (AM rfl T.n_dict T.n_zip (ae (dv 2) (ae (dv 1) (aj)))))
  (aB (aS (iM (ll rfl) T.n_all hG (ae (cQ ["name"] (by rfl) rfl (ck (dv 2)) (fun _ _ _ _ _=>dg 0 pf) (fun _ _ _ _ _=>cV) (fun _ _ _ _ _=>eO (oF hr) (eE (b8 hr) (dv 5) (dv 0) (fun _ _=>rfl)) (bZ H_right_mark dI (hr.mono (by omega)) (by rfl) (ae (dv 4) (ae (dv 5) (ae (dv 0) (aj))))) (by rfl))) (aj)))))))) (by kernel_rfl)
abbrev eX:Stmt:=top 20
theorem kc:aV ["joint", "thing"] ["joint", "thing"] (aF eX):=⟨rfl,rfl,rfl,by decide +kernel,rfl,by decide +kernel,by decide +kernel⟩
theorem lB (D:Df K mg "are_joint_right" ["joint", "thing"] eX) (T:Txt K mg) (H_are_right:aO P w K mg base "are_right" ["joint", "marks"] 2 cT) (H_are_marks:aO P w K mg base "are_marks" ["thing", "names"] 1 fz) (H_check_joint:aO P w K mg base "check_joint" ["thing"] 6 cJ):aO P w K mg base "are_joint_right" ["joint", "thing"] 7 aN:=
 aO.eq (Df.has (k:=6) D kc (fun f cdv A outer s H E hr=>
  au (rS (bZ H_check_joint bP (hr.mono (by omega)) (by rfl) (ae (dv 0) (aj))))
  (aB (aS (gw (bZ H_are_marks bP (hr.mono (by omega)) (by rfl) (ae (dv 1) (ae (eE (b8 hr) (dv 0) (aI) (fun _ _=>rfl)) (aj)))) (j0 (bZ H_are_right bP (hr.mono (by omega)) (by rfl) (ae (dv 0) (ae (dv 1) (aj)))))))))) (by kernel_rfl)
abbrev jg:Stmt:=top 21
theorem fQ:aV ["many", "rows", "place"] ["many"] (aF jg):=⟨rfl,rfl,rfl,by decide +kernel,rfl,by decide +kernel,by decide +kernel⟩
theorem jh:(["row", "mark", "many", "rows", "place"]:List Str).Nodup:=by decide +kernel
theorem uv (D:Df K mg "all_marks" ["many"] jg) (T:Txt K mg):aO P w K mg base "all_marks" ["many"] 1 eF:=
 aO.eq (Df.has (k:=0) D fQ (fun f cdv A outer s H E hr=>
  au (fj 1 fQ.nd (dy 8 (d:=.list [.tuple []]) (Lit.of (by kernel_rfl)) (by decide +kernel)))
  (au (fZ rfl (ia (by rfl) T.n_range (ae (dv 0) (aj))) (dg 2 fQ.nd) (aB (Ay (i:=1) ["row", "mark"] fQ.nd rfl rfl (by rfl) rfl (ck (dv 1)) (fun _ _ _ _ _=>dg 0 jh) (fun _ _ _ _ _=>cV) (fun _ _ _ _ _=>ck (xc T.t_MARKS)) (fun _ _ _ _ _=>dg 1 jh) (fun _ _ _ _ _=>cV) (fun _ _ _ _ _=>rR (Cr (dv 0) (ae (dv 1) (aj)))))))
  (aB (aS (dv 1)))))) (by kernel_rfl)
abbrev gJ:Stmt:=top 22
theorem ph:aV ["joint"] ["joint"] (aF gJ):=⟨rfl,rfl,rfl,by decide +kernel,rfl,by decide +kernel,by decide +kernel⟩
theorem mD:(["marks", "joint"]:List Str).Nodup:=by decide +kernel
theorem qj (D:Df K mg "joint_marks" ["joint"] gJ) (T:Txt K mg) (H_all_marks:aO P w K mg base "all_marks" ["many"] 1 eF) (H_are_right:aO P w K mg base "are_right" ["joint", "marks"] 2 cT) (H_check_joint:aO P w K mg base "check_joint" ["thing"] 6 cJ):aO P w K mg base "joint_marks" ["joint"] 7 de:=
 aO.eq (Df.has (k:=6) D ph (fun f cdv A outer s H E hr=>
  au (rS (bZ H_check_joint bP (hr.mono (by omega)) (by rfl) (ae (dv 0) (aj))))
  (aB (aS (zM ["marks"] (by rfl) rfl (ck (bZ H_all_marks bP (hr.mono (by omega)) (by rfl) (ae (iM f7 T.n_len dW (ae (eE (b8 hr) (dv 0) (aI) (fun _ _=>rfl)) (aj))) (aj)))) (fun _ _ _ _ _=>dg 0 mD) (fun _ _ _ _ _=>ib (cz (bZ H_are_right dI (hr.mono (by omega)) (by rfl) (ae (dv 1) (ae (dv 0) (aj)))))) (fun _ _ _ _ _=>dv 0)))))) (by kernel_rfl)
abbrev ji:Stmt:=top 24
theorem sE:aV ["_law_script", "_law_k"] ["_law_script", "_law_k"] (aF ji):=⟨rfl,rfl,rfl,by decide +kernel,rfl,by decide +kernel,by decide +kernel⟩
theorem uw (D:Df K mg "_law_cell" ["_law_script", "_law_k"] ji) (T:Txt K mg):aO P w K mg base "_law_cell" ["_law_script", "_law_k"] 1 fA:=
 aO.eq (Df.has (k:=0) D sE (fun f cdv A outer s H E hr=>
  au (fw (dh (GJ hr) (dv 1) (iM f7 T.n_len dW (ae (dv 0) (aj))) (by rfl)) (aB (aS (eE (b8 hr) (dv 0) (dv 1) (fun _ _=>rfl)))) (cE))
  (aB (aS (aI))))) (by kernel_rfl)
abbrev ke:Stmt:=top 25
theorem fB:aV ["_law_cell_here", "_law_k", "_law_some", "_law_stir"] ["_law_cell_here", "_law_k"] (aF ke):=⟨rfl,rfl,rfl,by decide +kernel,rfl,by decide +kernel,by decide +kernel⟩
theorem vL (D:Df K mg "_law_mix" ["_law_cell_here", "_law_k"] ke) (T:Txt K mg):aO P w K mg base "_law_mix" ["_law_cell_here", "_law_k"] 1 dZ:=
 aO.eq (Df.has (k:=0) D fB (fun f cdv A outer s H E hr=>
  au (fj 2 fB.nd (dy 8 (d:=.list [.int 48271,.int 69621,.int 16807,.int 39373,.int 30269,.int 40014,.int 40692,.int 50021,.int 61687,.int 71993,.int 83869,.int 95561,.int 30307]) (Lit.of (by kernel_rfl)) (by decide +kernel)))
  (au (fj 3 fB.nd (bq lj (bq f6 (bq tP (dv 0) (aI)) (aI)) (eE (b8 hr) (dv 2) (bq tP (dv 1) (aI)) (fun _ _=>rfl))))
  (au (fj 3 fB.nd (bq f6 (bq f6 (dv 3) (bq lj (aI) (dv 1))) (bq lj (aI) (bq vA (dv 1) (aI)))))
  (au (fj 3 fB.nd (bq tP (dv 3) (aI)))
  (aB (aS (bq vA (bq tP (bq f6 (bq lj (dv 3) (dv 3)) (bq lj (aI) (dv 1))) (aI)) (aI))))))))) (by kernel_rfl)
abbrev kf:Stmt:=top 26
theorem fD:aV ["_law_script", "_law_k", "_law_lap", "_law_cell_here", "_law_number", "_law_j"] ["_law_script", "_law_k", "_law_lap"] (aF kf):=⟨rfl,rfl,rfl,by decide +kernel,rfl,by decide +kernel,by decide +kernel⟩
theorem vM (D:Df K mg "_law_box" ["_law_script", "_law_k", "_law_lap"] kf) (T:Txt K mg) (H__law_mix:aO P w K mg base "_law_mix" ["_law_cell_here", "_law_k"] 1 dZ) (H__law_cell:aO P w K mg base "_law_cell" ["_law_script", "_law_k"] 1 fA):aO P w K mg base "_law_box" ["_law_script", "_law_k", "_law_lap"] 2 dA:=
 aO.eq (Df.has (k:=1) D fD (fun f cdv A outer s H E hr=>
  au (fj 3 fD.nd (bZ H__law_cell bP (hr.mono (by omega)) (by rfl) (ae (dv 0) (ae (dv 1) (aj)))))
  (au (fw (DW.dt (zF (dh (oF hr) (bq tP (dv 3) (aI)) (aI) (by rfl)) (wW (dh (oF hr) (dv 2) (aI) (by rfl))))) (aB (aS (zI (ae (bq vA (iM GL T.n_abs EI (ae (dv 3) (aj))) (aI)) (aj))))) (cE))
  (au (fj 4 fD.nd (aI))
  (au (fZ rfl (ia (by rfl) T.n_range (ae (aI) (aj))) (dg 5 fD.nd) (aB (fj 4 fD.nd (bq f6 (bq lj (dv 4) (aI)) (bZ H__law_mix dI (hr.mono (by omega)) (by rfl) (ae (dv 3) (ae (bq f6 (bq lj (aI) (dv 2)) (dv 5)) (aj))))))))
  (aB (aS (zI (ae (dv 4) (aj)))))))))) (by kernel_rfl)
abbrev jj:Stmt:=top 27
theorem ix:aV ["_law_box_here", "_law_count", "_law_left", "_law_digit"] ["_law_box_here", "_law_count"] (aF jj):=⟨rfl,rfl,rfl,by decide +kernel,rfl,by decide +kernel,by decide +kernel⟩
theorem ux (D:Df K mg "_law_take" ["_law_box_here", "_law_count"] jj) (T:Txt K mg):aO P w K mg base "_law_take" ["_law_box_here", "_law_count"] 1 aw:=
 aO.eq (Df.has (k:=0) D ix (fun f cdv A outer s H E hr=>
  au (mj (iM zY T.n_divmod x9 (ae (eE (b8 hr) (dv 0) (aI) (fun _ _=>rfl)) (ae (dv 1) (aj)))) (j3 rfl (cF (dg 2 ix.nd) (cF (dg 3 ix.nd) (hZ))) (bM (bM (fi)))))
  (au (mj (dv 2) (Al hr (dv 0) (aI) (fun _=>rfl)))
  (aB (aS (dv 3)))))) (by kernel_rfl)
abbrev kg:Stmt:=top 28
theorem gy:aV ["_law_box_here", "_law_some"] ["_law_box_here"] (aF kg):=⟨rfl,rfl,rfl,by decide +kernel,rfl,by decide +kernel,by decide +kernel⟩
theorem vN (D:Df K mg "_law_odd" ["_law_box_here"] kg) (T:Txt K mg) (H__law_take:aO P w K mg base "_law_take" ["_law_box_here", "_law_count"] 1 aw):aO P w K mg base "_law_odd" ["_law_box_here"] 2 el:=
 aO.eq (Df.has (k:=1) D gy (fun f cdv A outer s H E hr=>
  au (fj 1 gy.nd (dy 8 (d:=.list [.none,.bool true,.bool false,.int 0,.int 1,.int (-1),.int 7,.int (10 ^ 29),.str "",.str "a",.str "A",.str "a b",.str "abcdefg",.str "in",.tuple [],.list [],.dict []]) (Lit.of (by kernel_rfl)) (by decide +kernel)))
  (au (fj 1 gy.nd (bq f6 (dv 1) (dy 8 (d:=.list [.tuple [.str "a"],.list [.str "a"]]) (Lit.of (by kernel_rfl)) (by decide +kernel))))
  (au (fj 1 gy.nd (bq f6 (dv 1) (dy 8 (d:=.list [.tuple [.str "b",.str "a"],.tuple [.str "a",.str "a"],.tuple [.tuple [],.tuple []],.tuple [.tuple [],.tuple [],.tuple []],.list [.tuple [],.tuple []],.tuple [.tuple [.str "a"],.tuple [.tuple [.str "a",.str "b"]]],.dict [(.str "a",.int 1)]]) (Lit.of (by kernel_rfl)) (by decide +kernel))))
  (aB (aS (eE (b8 hr) (dv 1) (bZ H__law_take bP (hr.mono (by omega)) (by rfl) (ae (dv 0) (ae (aI) (aj)))) (fun _ _=>rfl)))))))) (by kernel_rfl)
abbrev iy:Stmt:=top 29
theorem dP:aV ["_law_box_here", "_law_most_names", "_law_most_strikes", "_law_count", "_law_seen", "_law_names", "_law_turn", "_law_some"] ["_law_box_here", "_law_most_names", "_law_most_strikes"] (aF iy):=⟨rfl,rfl,rfl,by decide +kernel,rfl,by decide +kernel,by decide +kernel⟩
theorem ni:(["_law_name", "_law_box_here", "_law_most_names", "_law_most_strikes", "_law_count", "_law_seen", "_law_names", "_law_turn", "_law_some"]:List Str).Nodup:=by decide +kernel
theorem sF (D:Df K mg "_law_joint" ["_law_box_here", "_law_most_names", "_law_most_strikes"] iy) (T:Txt K mg) (H__law_take:aO P w K mg base "_law_take" ["_law_box_here", "_law_count"] 1 aw):aO P w K mg base "_law_joint" ["_law_box_here", "_law_most_names", "_law_most_strikes"] 2 eU:=
 aO.eq ((Df.has (k:=1) D dP (fun f cdv A outer s H E hr=>
  au (GU 3 4 dP.nd (ae (bZ H__law_take bP (hr.mono (by omega)) (by rfl) (ae (dv 0) (ae (bq f6 (dv 1) (aI)) (aj)))) (ae (Co) (aj))))
  (au (fj 5 dP.nd (tS (eE (b8 hr) (dy 8 (d:=.list [.list [.str "a",.str "b",.str "c",.str "d"],.list [.str "ann",.str "bob",.str "c",.str "dora"]]) (Lit.of (by kernel_rfl)) (by decide +kernel)) (bZ H__law_take bP (hr.mono (by omega)) (by rfl) (ae (dv 0) (ae (aI) (aj)))) (fun _ _=>rfl)) (xa) (xb (dv 3))))
  (au (fZ rfl (ia (by rfl) T.n_range (ae (bq lj (bZ H__law_take dI (hr.mono (by omega)) (by rfl) (ae (dv 0) (ae (bq f6 (dv 2) (aI)) (aj)))) (cx GP T.n_int Fi (ae (eO B7 (dv 3) (aI) (by rfl)) (aj)))) (aj))) (dg 6 dP.nd) (au (fj 7 dP.nd (Fh (cQ ["_law_name"] (by rfl) rfl (ck (dv 5)) (fun _ _ _ _ _=>dg 0 ni) (fun _ _ _ _ _=>ib (dh (oF hr) (bZ H__law_take dI (hr.mono (by omega)) (by rfl) (ae (dv 1) (ae (aI) (aj)))) (aI) (by rfl))) (fun _ _ _ _ _=>dv 0)) (j0 (zG (ae (eE (b8 hr) (dv 5) (bZ H__law_take dI (hr.mono (by omega)) (by rfl) (ae (dv 0) (ae (dv 3) (aj)))) (fun _ _=>rfl)) (aj))))))
  (aB (mj (cO) (Al hr (dv 4) (rR (ae (cx (r9 rfl) T.n_tuple eL (ae (dv 7) (aj))) (ae (eE (b8 hr) (dv 5) (bZ H__law_take dI (hr.mono (by omega)) (by rfl) (ae (dv 0) (ae (dv 3) (aj)))) (fun _ _=>rfl)) (aj)))) (fun _=>rfl))))))
  (aB (aS (rR (ae (cx (r9 rfl) T.n_tuple eL (ae (dv 5) (aj))) (ae (cx (r9 rfl) T.n_tuple eL (ae (iM (zT hr) T.n_sorted x8 (ae (cx (An rfl) T.n_list wC (ae (dv 4) (aj))) (aj))) (aj))) (aj)))))))))).gP) (by kernel_rfl)
abbrev et:Stmt:=top 30
theorem br:aV ["_law_joint_here", "_law_row", "_law_marks", "_law_name", "_law_its", "_law_whole", "_law_safe", "_law_due"] ["_law_joint_here", "_law_row"] (aF et):=⟨rfl,rfl,rfl,by decide +kernel,rfl,by decide +kernel,by decide +kernel⟩
theorem fb:(["_law_some", "_law_joint_here", "_law_row", "_law_marks", "_law_name", "_law_its", "_law_whole", "_law_safe", "_law_due"]:List Str).Nodup:=by decide +kernel
theorem fc:(["_law_lot", "_law_other", "_law_joint_here", "_law_row", "_law_marks", "_law_name", "_law_its", "_law_whole", "_law_safe", "_law_due"]:List Str).Nodup:=by decide +kernel
theorem iN:(["_law_one", "_law_lot", "_law_other", "_law_joint_here", "_law_row", "_law_marks", "_law_name", "_law_its", "_law_whole", "_law_safe", "_law_due"]:List Str).Nodup:=by decide +kernel
theorem kh (D:Df K mg "_law_joint_right" ["_law_joint_here", "_law_row"] et) (T:Txt K mg):aO P w K mg base "_law_joint_right" ["_law_joint_here", "_law_row"] 1 bB:=
 aO.eq (Df.has (k:=0) D br (fun f cdv A outer s H E hr=>
  au (fj 2 br.nd (yp rfl T.n_dict T.n_zip T.n_list (ae (eE (b8 hr) (dv 0) (aI) (fun _ _=>rfl)) (ae (dv 1) (aj)))))
  (au (fZ rfl (ck (eE (b8 hr) (dv 0) (aI) (fun _ _=>rfl))) (dg 3 br.nd) (au (wZ (i:=4) ["_law_lot", "_law_other"] br.nd rfl rfl (by rfl) rfl (ck (eE (b8 hr) (dv 0) (aI) (fun _ _=>rfl))) (fun _ _ _ _ _=>j3 rfl (cF (dg 0 fc) (cF (dg 1 fc) (hZ))) (bM (bM (fi)))) (fun _ _ _ _ _=>ib (dh (oF hr) (dv 1) (dv 5) (by rfl))) (fun _ _ _ _ _=>cQ ["_law_one"] (by rfl) rfl (ck (dv 0)) (fun _ _ _ _ _=>dg 0 iN) (fun _ _ _ _ _=>cV) (fun _ _ _ _ _=>eE (b8 hr) (dv 5) (dv 0) (fun _ _=>rfl))))
  (au (fj 5 br.nd (eO (vz hr) (cQ ["_law_some"] (by rfl) rfl (ck (dv 4)) (fun _ _ _ _ _=>dg 0 fb) (fun _ _ _ _ _=>ib (dh (oF hr) (dv 0) (bq lj (dy 8 (d:=.list [.str "in"]) (Lit.of (by kernel_rfl)) (by decide +kernel)) (iM f7 T.n_len dW (ae (dv 0) (aj)))) (by rfl))) (fun _ _ _ _ _=>aI)) (dy 8 (d:=.list []) (Lit.of (by kernel_rfl)) (by decide +kernel)) (by rfl)))
  (au (fj 6 br.nd (eO (oF hr) (cQ ["_law_some"] (by rfl) rfl (ck (dv 4)) (fun _ _ _ _ _=>dg 0 fb) (fun _ _ _ _ _=>ib (dh (DC hr) (fH) (dv 0) (by rfl))) (fun _ _ _ _ _=>aI)) (dy 8 (d:=.list []) (Lit.of (by kernel_rfl)) (by decide +kernel)) (by rfl)))
  (au (fj 7 br.nd (Dy (cz (dv 6)) (fH) (Dy (cz (dv 5)) (fH) (fH))))
  (aB (fw (dh (vz hr) (eE (b8 hr) (dv 2) (dv 3) (fun _ _=>rfl)) (dv 7) (by rfl)) (aB (aS (cO))) (cE))))))))
  (aB (aS (cO)))))) (by kernel_rfl)
abbrev fJ:Stmt:=top 31
theorem bS:aV ["_law_count", "_law_rows", "_law_nth", "_law_longer", "_law_row"] ["_law_count"] (aF fJ):=⟨rfl,rfl,rfl,by decide +kernel,rfl,by decide +kernel,by decide +kernel⟩
theorem ki:(["_law_mark", "_law_count", "_law_rows", "_law_nth", "_law_longer", "_law_row"]:List Str).Nodup:=by decide +kernel
theorem nj (D:Df K mg "_law_all_rows" ["_law_count"] fJ) (T:Txt K mg):aO P w K mg base "_law_all_rows" ["_law_count"] 1 cW:=
 aO.eq (Df.has (k:=0) D bS (fun f cdv A outer s H E hr=>
  au (fj 1 bS.nd (dy 8 (d:=.list [.tuple []]) (Lit.of (by kernel_rfl)) (by decide +kernel)))
  (au (fZ rfl (ia (by rfl) T.n_range (ae (dv 0) (aj))) (dg 2 bS.nd) (au (fj 3 bS.nd (dy 8 (d:=.list []) (Lit.of (by kernel_rfl)) (by decide +kernel)))
  (au (fZ rfl (ck (dv 1)) (dg 4 bS.nd) (aB (fj 3 bS.nd (bq f6 (dv 3) (cQ ["_law_mark"] (by rfl) rfl (ck (dy 8 (d:=.list [.str "in",.str "open",.str "out"]) (Lit.of (by kernel_rfl)) (by decide +kernel))) (fun _ _ _ _ _=>dg 0 ki) (fun _ _ _ _ _=>cV) (fun _ _ _ _ _=>bq f6 (dv 5) (rR (ae (dv 0) (aj)))))))))
  (aB (fj 1 bS.nd (dv 3))))))
  (aB (aS (dv 1)))))) (by kernel_rfl)
abbrev iz:Stmt:=top 32
theorem bI:aV ["_law_box_here", "_law_joint_here", "_law_ahead", "_law_rows", "_law_due", "_law_nth", "_law_told", "_law_row", "_law_first", "_law_bad"] ["_law_box_here"] (aF iz):=⟨rfl,rfl,rfl,by decide +kernel,rfl,by decide +kernel,by decide +kernel⟩
theorem nk:(["_law_row", "_law_box_here", "_law_joint_here", "_law_ahead", "_law_rows", "_law_due", "_law_nth", "_law_told", "!_law_row", "_law_first", "_law_bad"]:List Str).Nodup:=by decide +kernel
theorem sG (D:Df K mg "_law_right" ["_law_box_here"] iz) (T:Txt K mg) (H__law_odd:aO P w K mg base "_law_odd" ["_law_box_here"] 2 el) (H_are_joint_right:aO P w K mg base "are_joint_right" ["joint", "thing"] 7 aN) (H_joint_marks:aO P w K mg base "joint_marks" ["joint"] 7 de) (H__law_joint_right:aO P w K mg base "_law_joint_right" ["_law_joint_here", "_law_row"] 1 bB) (H__law_all_rows:aO P w K mg base "_law_all_rows" ["_law_count"] 1 cW) (H__law_joint:aO P w K mg base "_law_joint" ["_law_box_here", "_law_most_names", "_law_most_strikes"] 2 eU):aO P w K mg base "_law_right" ["_law_box_here"] 8 dE:=
 aO.eq ((Df.has (k:=7) D bI (fun f cdv A outer s H E hr=>
  au (fj 1 bI.nd (bZ H__law_joint bP (hr.mono (by omega)) (by rfl) (ae (dv 0) (ae (aI) (ae (aI) (aj))))))
  (au (fj 2 bI.nd (iM (mv hr) T.n_repr jw (ae (dv 1) (aj))))
  (au (fj 3 bI.nd (bZ H__law_all_rows bP (hr.mono (by omega)) (by rfl) (ae (iM f7 T.n_len dW (ae (eE (b8 hr) (dv 1) (aI) (fun _ _=>rfl)) (aj))) (aj))))
  (au (zN (i:=4) ["_law_row"] ["_law_box_here", "_law_joint_here", "_law_ahead", "_law_rows", "_law_due", "_law_nth", "_law_told", "!_law_row", "_law_first", "_law_bad"] bI.nd rfl rfl (by rfl) (by rfl) rfl (ck (dv 3)) (fun _ _ _ _ _=>dg 0 nk) (fun _ _ _ _ _=>ib (cz (bZ H__law_joint_right dI (hr.mono (by omega)) (by rfl) (ae (dv 2) (ae (dv 0) (aj)))))) (fun _ _ _ _ _=>dv 0))
  (au (fZ rfl (ia (by rfl) T.n_range (ae (aI) (aj))) (dg 5 bI.nd) (au (fj 6 bI.nd (bZ H_joint_marks dI (hr.mono (by omega)) (by rfl) (ae (dv 1) (aj))))
  (au (fw (dh (vz hr) (iM (mv hr) T.n_repr jw (ae (dv 6) (aj))) (iM (mv hr) T.n_repr jw (ae (dv 4) (aj))) (by rfl)) (aB (aS (cO))) (cE))
  (aB (rS (yl (dv 6) (wR)))))))
  (au (fZ rfl (ck (dv 3)) (dg 7 bI.nd) (aB (fw (dh (vz hr) (iM (mv hr) T.n_repr jw (ae (bZ H_are_joint_right dI (hr.mono (by omega)) (by rfl) (ae (dv 1) (ae (dv 7) (aj)))) (aj))) (iM (mv hr) T.n_repr jw (ae (eO (Cn hr) (dv 7) (dv 4) (by rfl)) (aj))) (by rfl)) (aB (aS (cO))) (cE))))
  (au (fj 8 bI.nd (eE (b8 hr) (bq f6 (dv 4) (dy 8 (d:=.list [.tuple []]) (Lit.of (by kernel_rfl)) (by decide +kernel))) (aI) (fun _ _=>rfl)))
  (au (fZ rfl (ck (zG (ae (wR) (ae (cx (An rfl) T.n_list wC (ae (dv 8) (aj))) (ae (bq f6 (dv 8) (dy 8 (d:=.tuple [.str "in"]) (Lit.of (by kernel_rfl)) (by decide +kernel))) (ae (bq f6 (bq AA (dy 8 (d:=.tuple [.str "In"]) (Lit.of (by kernel_rfl)) (by decide +kernel)) (iM f7 T.n_len dW (ae (eE (b8 hr) (dv 1) (aI) (fun _ _=>rfl)) (aj)))) (dy 8 (d:=.tuple [.int 0]) (Lit.of (by kernel_rfl)) (by decide +kernel))) (ae (bq AA (dy 8 (d:=.tuple [.none]) (Lit.of (by kernel_rfl)) (by decide +kernel)) (aI)) (ae (fH) (ae (bZ H__law_odd dI (hr.mono (by omega)) (by rfl) (ae (dv 0) (aj))) (aj)))))))))) (dg 9 bI.nd) (aB (fw (DW.dt (zF (dh (DC hr) (dv 9) (dv 3) (by rfl)) (wW (dh Cf (bZ H_are_joint_right dI (hr.mono (by omega)) (by rfl) (ae (dv 1) (ae (dv 9) (aj)))) (cO) (by rfl))))) (aB (aS (cO))) (cE))))
  (aB (aS (eO (oF hr) (iM (mv hr) T.n_repr jw (ae (dv 1) (aj))) (dv 2) (by rfl))))))))))))).gP) (by kernel_rfl)
abbrev lC:Stmt:=top 33
theorem vO:aV ["_law_script", "_law_k", "_law_lap"] ["_law_script"] (aF lC):=⟨rfl,rfl,rfl,by decide +kernel,rfl,by decide +kernel,by decide +kernel⟩
theorem Fq {f:Addr} {fd:FuncData} (Fu:Dn K "law" "law" lC f fd) (T:Txt K mg) (H__law_right:aO P w K mg base "_law_right" ["_law_box_here"] 8 dE) (H__law_box:aO P w K mg base "_law_box" ["_law_script", "_law_k", "_law_lap"] 2 dA):jF P w K mg base (sQ P w) 9 f fd ["_law_script"] (B5 ⟨P,w,mg,K⟩ uc):=
 Fj (JM (k:=8) Fu vO (fun cdv A outer s H E hr=>
  au (fZ rfl (ia (by rfl) T.n_range (ae (iM (GN rfl) T.n_max EK (ae (aI) (ae (iM (GO rfl) T.n_min EJ (ae (iM f7 T.n_len dW (ae (dv 0) (aj))) (ae (aI) (aj)))) (aj)))) (aj))) (dg 1 vO.nd) (aB (fZ rfl (ia (by rfl) T.n_range (ae (aI) (aj))) (dg 2 vO.nd) (aB (fw (gG (cz (bZ H__law_right dI (hr.mono (by omega)) (by rfl) (ae (bZ H__law_box dI (hr.mono (by omega)) (by rfl) (ae (dv 0) (ae (dv 1) (ae (dv 2) (aj))))) (aj))))) (aB (aS (cO))) (cE))))))
  (aB (aS (cO))))) (by kernel_rfl)
end
end K66
namespace Ml
open PySem
@[simp] theorem IT (i:Nat) (ρ:Fm) (h:Hm):ab i ρ h=(match ρ[i]? with
 | some (some d)=>.ok d h
 | _=>.bad):=rfl
@[simp] theorem IU (d:PyData) (z0:Fm) (h:Hm):ag d z0 h=(.ok (.dat d) h):=rfl
@[simp] theorem JN (n:Str) (z0:Fm) (h:Hm):Kh n z0 h=(.ok (.fn n) h):=rfl
@[simp] theorem IV  (z0:Fm) (h:Hm):ai  z0 h=(.ok [] h):=rfl
@[simp] theorem Hr (e:ME) (a:MA) (ρ:Fm) (h:Hm):aa e a ρ h=((e ρ h).bind fun x h1=>(a ρ h1).bind fun xs h2=>.ok (x::xs) h2):=rfl
@[simp] theorem IW (f:D->D->Hm->R D) (a b:ME) (ρ:Fm) (h:Hm):ao f a b ρ h=((a ρ h).bind fun x h1=>(b ρ h1).bind fun y h2=>f x y h2):=rfl
@[simp] theorem JO (f:D->Hm->R D) (a:ME) (ρ:Fm) (h:Hm):Bc f a ρ h=((a ρ h).bind fun x h1=>f x h1):=rfl
@[simp] theorem Hs (f:Fn) (a:MA) (ρ:Fm) (h:Hm):af f a ρ h=((a ρ h).bind fun xs h1=>f xs h1):=rfl
@[simp] theorem Ht (e:ME) (ρ:Fm) (h:Hm):aQ e ρ h=((e ρ h).bind fun x h1=>match x with
 | .dat (.bool b)=>.ok b h1
 | _=>.bad):=rfl
@[simp] theorem IX (t:MT) (ρ:Fm) (h:Hm):iR t ρ h=((t ρ h).bind fun b h1=>.ok (!b) h1):=rfl
@[simp] theorem IY (t u:MT) (ρ:Fm) (h:Hm):nJ t u ρ h=((t ρ h).bind fun b h1=>if b then u ρ h1 else .ok false h1):=rfl
@[simp] theorem JP (t u:MT) (ρ:Fm) (h:Hm):Ba t u ρ h=((t ρ h).bind fun b h1=>if b then .ok true h1 else u ρ h1):=rfl
@[simp] theorem IZ (a b:ME) (ρ:Fm) (h:Hm):IH a b ρ h=((aQ a ρ h).bind fun c h1=>if c then b ρ h1 else .ok (.bool false) h1):=rfl
@[simp] theorem JQ (a b:ME) (ρ:Fm) (h:Hm):Ki a b ρ h=((aQ a ρ h).bind fun c h1=>if c then .ok (.bool true) h1 else b ρ h1):=rfl
@[simp] theorem I0 (a:ME) (ρ:Fm) (h:Hm):II a ρ h=((aQ a ρ h).bind fun c h1=>.ok (.bool !c) h1):=rfl
@[simp] theorem JR (t:MT) (a b:ME) (ρ:Fm) (h:Hm):FX t a b ρ h=((t ρ h).bind fun c h1=>if c then a ρ h1 else b ρ h1):=rfl
@[simp] theorem Ja (a:MA):jY a=(af jN a:ME):=rfl
@[simp] theorem Jb (a:MA):pZ a=(af gq a:ME):=rfl
@[simp] theorem Jc (a:MA):BY a=(af jO a:ME):=rfl
@[simp] theorem Hu  (ρ:Fm) (h:Hm):cB  ρ h=(.ok (.nx ρ) h):=rfl
@[simp] theorem Jd (a b:MS) (ρ:Fm) (h:Hm):aU a b ρ h=((a ρ h).bind fun f h1=>match f with
 | .nx ρ1=>b ρ1 h1
 | f=>.ok f h1):=rfl
@[simp] theorem Je (i:Nat) (e:ME) (ρ:Fm) (h:Hm):bK i e ρ h=((e ρ h).bind fun x h1=>.ok (.nx (ρ.set i (some x))) h1):=rfl
@[simp] theorem Hv (e:ME) (ρ:Fm) (h:Hm):qC e ρ h=((e ρ h).bind fun _ h1=>.ok (.nx ρ) h1):=rfl
@[simp] theorem Jf (e:ME) (ρ:Fm) (h:Hm):bR e ρ h=((e ρ h).bind fun x h1=>.ok (.rt x) h1):=rfl
@[simp] theorem JS (t:MT) (a b:MS) (ρ:Fm) (h:Hm):ko t a b ρ h=((t ρ h).bind fun c h1=>if c then a ρ h1 else b ρ h1):=rfl
@[simp] theorem G0  (ρ:Fm) (h:Hm):ET  ρ h=(.ok (.bk ρ) h):=rfl
@[simp] theorem Hw  (ρ:Fm) (h:Hm):GH  ρ h=(.ok (.ct ρ) h):=rfl
@[simp] theorem Hx (i:Nat) (x:D) (ρ:Fm) (h:Hm):ah i x ρ h=(.ok (ρ.set i (some x)) h):=rfl
@[simp] theorem Jg  (xs:List D) (ρ:Fm) (h:Hm):jD  xs ρ h=(match xs with
 | []=>.ok ρ h
 | _=>.bad):=rfl
@[simp] theorem Hy (g:MG) (gs:wH) (xs:List D) (ρ:Fm) (h:Hm):cM g gs xs ρ h=(match xs with
 | []=>.bad
 | x::xs=>(g x ρ h).bind fun ρ1 h1=>gs xs ρ1 h1):=rfl
@[simp] theorem Jh (gs:wH) (x:D) (ρ:Fm) (h:Hm):jE gs x ρ h=(match x with
 | .dat (.tuple ds)=>gs (ds.map D.dat) ρ h
 | _=>.bad):=rfl
@[simp] theorem Ji (g:MG) (e:ME) (ρ:Fm) (h:Hm):nW g e ρ h=((e ρ h).bind fun x h1=>(g x ρ h1).bind fun ρ1 h2=>.ok (.nx ρ1) h2):=rfl
@[simp] theorem Jj (is:List Nat) (a:MA) (ρ:Fm) (h:Hm):zo is a ρ h=((a ρ h).bind fun xs h1=>match iY is xs ρ with
 | some ρ1=>.ok (.nx ρ1) h1
 | Option.none=>.bad):=rfl
@[simp] theorem Hz (e:ME) (ρ:Fm) (h:Hm):wI e ρ h=((e ρ h).bind fun x h1=>match x with
 | .dat (.tuple ds)=>.ok (ds.map D.dat) h1
 | _=>.bad):=rfl
@[simp] theorem HA (e:ME) (ρ:Fm) (h:Hm):zp e ρ h=((e ρ h).bind fun x h1=>match x with
 | .dat (.list ds)=>.ok (ds.map D.dat) h1
 | _=>.bad):=rfl
@[simp] theorem HB (e:ME) (ρ:Fm) (h:Hm):zq e ρ h=((e ρ h).bind fun x h1=>match x with
 | .dat (.str s)=>.ok (signs s) h1
 | _=>.bad):=rfl
@[simp] theorem HC (e:ME) (ρ:Fm) (h:Hm):aE e ρ h=(match e ρ h with
 | .ok (.dat (.tuple ds)) h1=>.ok (ds.map D.dat) h1
 | .ok (.dat (.list ds)) h1=>.ok (ds.map D.dat) h1
 | .ok (.dat (.str s)) h1=>.ok (signs s) h1
 | .ok (.ktup ds) h1=>.ok (ds.map D.dat) h1
 | .exc x h1=>.exc x h1
 | _=>.bad):=rfl
@[simp] theorem HD (a:MA) (ρ:Fm) (h:Hm):eM a ρ h=((a ρ h).bind fun xs h1=>match xs with
 | [.dat (.int j)]=>if -(2 ^ 62)<=j/\j < 2 ^ 62 then .ok (nums 0 j.toNat) h1 else .bad
 | _=>.bad):=rfl
@[simp] theorem G1 (a:MA) (ρ:Fm) (h:Hm):EU a ρ h=((a ρ h).bind fun xs h1=>match xs with
 | [.dat (.int i),.dat (.int j)]=>if -(2 ^ 62)<=i/\i < 2 ^ 62/\-(2 ^ 62)<=j/\j < 2 ^ 62 then .ok (nums i (j - i).toNat) h1 else .bad
 | _=>.bad):=rfl
@[simp] theorem HE (a:MA) (ρ:Fm) (h:Hm):wJ a ρ h=((a ρ h).bind fun xs h1=>match xs with
 | [.dat (.tuple ds),.dat (.tuple es)]=>.ok (jI ds es) h1
 | _=>.bad):=rfl
@[simp] theorem Jk (it:MA) (g:MG) (b:MS) (ρ:Fm) (h:Hm):gh it g b ρ h=((it ρ h).tG.bind fun xs h1=>eB g b xs ρ h1):=rfl
@[simp] theorem HF  (z0:Fm) (h:Hm):bT  z0 h=(.ok true h):=rfl
@[simp] theorem HG (p n:Nat) (b:MS) (xs:List D) (h:Hm):bF p n b xs h=(if xs.length=p then (b (xs.map some++List.replicate (n - p) none) h).bind gO else .bad):=rfl
@[simp] theorem HH (x:D) (h:Hm):truth x h=(match x with
 | .dat .none=>some false
 | .dat (.bool b)=>some b
 | .dat (.int i)=>some (i != 0)
 | .dat (.str s)=>if gE s.length then some ((s.length:Int) != 0) else Option.none
 | .dat (.tuple ds)=>some !ds.isEmpty
 | .dat (.list ds)=>some !ds.isEmpty
 | .ref i=>match h[i]? with
  | some (.lst xs)=>some !xs.isEmpty
  | _=>Option.none
 | _=>Option.none:Option Bool):=rfl
@[simp] theorem G2 (e:ME) (ρ:Fm) (h:Hm):bL e ρ h=((e ρ h).bind fun x h1=>match truth x h1 with
 | some b=>.ok b h1
 | Option.none=>.bad):=rfl
@[simp] theorem Jl (a b:ME) (ρ:Fm) (h:Hm):se a b ρ h=((a ρ h).bind fun x h1=>match truth x h1 with
 | some c=>if c then .ok x h1 else b ρ h1
 | none=>.bad):=rfl
@[simp] theorem HI (a b:ME) (ρ:Fm) (h:Hm):jQ a b ρ h=((a ρ h).bind fun x h1=>match truth x h1 with
 | some c=>if c then b ρ h1 else .ok x h1
 | none=>.bad):=rfl
@[simp] theorem G3 (f g:D->D->Hm->R D) (a b c:ME) (ρ:Fm) (h:Hm):j7 f g a b c ρ h=((a ρ h).bind fun x h1=>(b ρ h1).bind fun y h2=>(f x y h2).bind fun z h3=>match z with
 | .dat (.bool k)=>if k then (c ρ h3).bind fun w h4=>g y w h4 else .ok (.bool false) h3
 | _=>.bad):=rfl
@[simp] theorem JT (e:ME) (lo hi:Dv) (ρ:Fm) (h:Hm):EV e lo hi ρ h=((e ρ h).bind fun x h1=>(lo ρ h1).bind fun l h2=>(hi ρ h2).bind fun u h3=>BZ x l u h3):=rfl
@[simp] theorem HJ  (z0:Fm) (h:Hm):n8  z0 h=(.ok Option.none h):=rfl
@[simp] theorem HK (e:ME) (ρ:Fm) (h:Hm):n9 e ρ h=((e ρ h).bind fun x h1=>match x with
 | .dat (.int i)=>.ok (some i) h1
 | _=>.bad):=rfl
@[simp] theorem JU (x:D) (lo hi:Option Int) (h:Hm):BZ x lo hi h=(match x with
 | .dat (.tuple ds)=>.ok (.dat (.tuple (cut ds lo hi))) h
 | .dat (.list ds)=>.ok (.dat (.list (cut ds lo hi))) h
 | _=>.bad:R D):=rfl
@[simp] theorem Jm (f:PyData->Bool) (x:D) (h:Hm):qc f x h=(match x with
 | .dat d=>.ok (.bool (f d)) h
 | _=>.bad):=rfl
@[simp] theorem Jn (x y:D) (h:Hm):IJ x y h=(match x,y with
 | .dat (.int i),.dat (.int j)=>.ok (.int (i - j)) h
 | _,_=>.bad:R D):=rfl
@[simp] theorem JV (x y:D) (h:Hm):Bd x y h=(match x,y with
 | .dat (.int i),.dat (.int j)=>.ok (.bool (decide (j < i))) h
 | _,_=>.bad:R D):=rfl
@[simp] theorem JW (x y:D) (h:Hm):Kj x y h=(match x,y with
 | .dat (.int i),.dat (.int j)=>.ok (.bool (decide (j<=i))) h
 | _,_=>.bad:R D):=rfl
@[simp] theorem Jo (x:D) (h:Hm):IK x h=(match x with
 | .dat (.int i)=>.ok (.int (-i)) h
 | _=>.bad:R D):=rfl
@[simp] theorem F0 (ρ:Fm):iY [] [] ρ=some ρ:=rfl
@[simp] theorem F1 (i:Nat) (is:List Nat) (x:D) (xs:List D) (ρ:Fm):iY (i::is) (x::xs) ρ=iY is xs (ρ.set i (some x)):=rfl
@[simp] theorem F2 (i:Nat) (is:List Nat) (ρ:Fm):iY (i::is) [] ρ=none:=rfl
@[simp] theorem F3 (x:D) (xs:List D) (ρ:Fm):iY [] (x::xs) ρ=none:=rfl
@[simp] theorem HM (d:D) (h:Hm):gO (.rt d) h=.ok d h:=rfl
@[simp] theorem HN (ρ:Fm) (h:Hm):gO (.nx ρ) h=.ok D.none h:=rfl
@[simp] theorem HP (ρ:Fm) (h:Hm):gO (.bk ρ) h=.bad:=rfl
@[simp] theorem HQ (ρ:Fm) (h:Hm):gO (.ct ρ) h=.bad:=rfl
@[simp] theorem Cv  : isTup .none=false:=rfl
@[simp] theorem Cw (b:Bool):isTup (.bool b)=false:=rfl
@[simp] theorem DH (i:Int):isTup (.int i)=false:=rfl
@[simp] theorem DJ (s:Str):isTup (.str s)=false:=rfl
@[simp] theorem Bf (xs:List PyData):isTup (.tuple xs)=true:=rfl
@[simp] theorem Cy (xs:List PyData):isTup (.list xs)=false:=rfl
@[simp] theorem Cz (xs:List (PyData×PyData)):isTup (.dict xs)=false:=rfl
@[simp] theorem CA  : isStr .none=false:=rfl
@[simp] theorem CB (b:Bool):isStr (.bool b)=false:=rfl
@[simp] theorem DK (i:Int):isStr (.int i)=false:=rfl
@[simp] theorem DL (s:Str):isStr (.str s)=true:=rfl
@[simp] theorem Bg (xs:List PyData):isStr (.tuple xs)=false:=rfl
@[simp] theorem CC (xs:List PyData):isStr (.list xs)=false:=rfl
@[simp] theorem CD (xs:List (PyData×PyData)):isStr (.dict xs)=false:=rfl
@[simp] theorem CF  : isInt .none=false:=rfl
@[simp] theorem CG (b:Bool):isInt (.bool b)=true:=rfl
@[simp] theorem DM (i:Int):isInt (.int i)=true:=rfl
@[simp] theorem DN (s:Str):isInt (.str s)=false:=rfl
@[simp] theorem Bh (xs:List PyData):isInt (.tuple xs)=false:=rfl
@[simp] theorem CH (xs:List PyData):isInt (.list xs)=false:=rfl
@[simp] theorem CI (xs:List (PyData×PyData)):isInt (.dict xs)=false:=rfl
@[simp] theorem CJ  : og .none=false:=rfl
@[simp] theorem CK (b:Bool):og (.bool b)=true:=rfl
@[simp] theorem DP (i:Int):og (.int i)=false:=rfl
@[simp] theorem DQ (s:Str):og (.str s)=false:=rfl
@[simp] theorem Bi (xs:List PyData):og (.tuple xs)=false:=rfl
@[simp] theorem CL (xs:List PyData):og (.list xs)=false:=rfl
@[simp] theorem CM (xs:List (PyData×PyData)):og (.dict xs)=false:=rfl
@[simp] theorem rep0 {α:Type} (a:α):List.replicate 0 a=[]:=rfl
@[simp] theorem rep1 {α:Type} (a:α):List.replicate 1 a=[a]:=rfl
@[simp] theorem rep2 {α:Type} (a:α):List.replicate 2 a=[a,a]:=rfl
@[simp] theorem rep3 {α:Type} (a:α):List.replicate 3 a=[a,a,a]:=rfl
@[simp] theorem Jp {α:Type} (a:α):List.replicate 4 a=[a,a,a,a]:=rfl
@[simp] theorem Jq {α:Type} (a:α):List.replicate 5 a=[a,a,a,a,a]:=rfl
@[simp] theorem Jr {α:Type} (a:α):List.replicate 6 a=[a,a,a,a,a,a]:=rfl
@[simp] theorem Km {α:Type} (a:α):List.replicate 7 a=[a,a,a,a,a,a,a]:=rfl
@[simp] theorem Kn {α:Type} (a:α):List.replicate 8 a=[a,a,a,a,a,a,a,a]:=rfl
@[simp] theorem Js {α:Type} (a:α):List.replicate 9 a=[a,a,a,a,a,a,a,a,a]:=rfl
theorem sz {n:Nat} (h:n<=16777216):gE n=true:=decide_eq_true h
@[simp] theorem gU (ds:List PyData) (h:Hm) (hz:ds.length<=16777216):jN (ds.map D.dat) h=.ok (.dat (.tuple ds)) h:=by simp [jN,qB,sz hz]
theorem eG (ds:List PyData) (h:Hm) (hz:ds.length<=16777216):gq (ds.map D.dat) h=.ok (.dat (.list ds)) h:=by simp [gq,qB,sz hz]
@[simp] theorem Ju (h:Hm):jN [] h=.ok (.dat (.tuple [])) h:=gU [] h (by decide)
@[simp] theorem Jv (a:PyData) (h:Hm):jN [.dat a] h=.ok (.dat (.tuple [a])) h:=gU [a] h (by simp)
@[simp] theorem Jw (a b:PyData) (h:Hm):jN [.dat a,.dat b] h=.ok (.dat (.tuple [a,b])) h:=gU [a,b] h (by simp)
@[simp] theorem Jx (a b c:PyData) (h:Hm):jN [.dat a,.dat b,.dat c] h=.ok (.dat (.tuple [a,b,c])) h:=gU [a,b,c] h (by simp)
@[simp] theorem Jy (h:Hm):gq [] h=.ok (.dat (.list [])) h:=eG [] h (by decide)
@[simp] theorem Jz (a:PyData) (h:Hm):gq [.dat a] h=.ok (.dat (.list [a])) h:=eG [a] h (by simp)
@[simp] theorem JA (a b:PyData) (h:Hm):gq [.dat a,.dat b] h=.ok (.dat (.list [a,b])) h:=eG [a,b] h (by simp)
@[simp] theorem JB (a b c:PyData) (h:Hm):gq [.dat a,.dat b,.dat c] h=.ok (.dat (.list [a,b,c])) h:=eG [a,b,c] h (by simp)
theorem jk {n:Nat} {ρ:Fm} {g:MG} {t:MT} {e:ME} {h:Hm} (c:D->Bool) (f:D->D):∀ {xs:List D},(∀ x∈xs,∃ ρ1,g x (List.replicate n none++ρ) h=.ok ρ1 h/\t ρ1 h=.ok (c x) h/\(c x=true->e ρ1 h=.ok (f x) h))->fg n ρ g t e xs h=.ok ((xs.filter c).map f) h
 | [],_=>rfl
 | x::xs,H=>by
  obtain ⟨ρ1,h1,h2,h3⟩:=H x (List.mem_cons_self ..)
  have ih:=jk c f (xs:=xs) fun y hy=>H y (List.mem_cons_of_mem _ hy)
  unfold fg
  rw [h1]
  simp only [R.bQ,R.aA]
  rw [h2]
  simp only [R.bQ,R.aA]
  cases hc:c x with
  | false=>simp only [Bool.false_eq_true,if_false,List.filter_cons,hc];exact ih
  | true=>
   simp only [if_true,List.filter_cons,hc]
   rw [h3 hc]
   simp only [R.bQ,R.aA]
   rw [ih]
   rfl
theorem pj {n:Nat} {it:MA} {g:MG} {t:MT} {e:ME} {ρ:Fm} {h h1:Hm} {xs:List D} (hit:it ρ h=.ok xs h1) (hz:xs.length<=16777216) (c:D->Bool) (f:D->PyData)
  (H:∀ x∈xs,∃ ρ1,g x (List.replicate n none++ρ) h1=.ok ρ1 h1/\t ρ1 h1=.ok (c x) h1/\(c x=true->e ρ1 h1=.ok (.dat (f x)) h1)):aT n it g t e ρ h=.ok (.dat (.list ((xs.filter c).map f))) h1:=by
 unfold aT af mJ
 rw [hit]
 simp only [R.aA,sz hz,if_true]
 rw [jk c (fun x=>.dat (f x)) H]
 simp only [R.aA]
 have e1:(List.map (fun x=>D.dat (f x)) (List.filter c xs))=((xs.filter c).map f).map D.dat:=by simp
 rw [e1]
 exact eG _ _ (by
  rw [List.length_map]
  exact Nat.le_trans (List.length_filter_le _ _) hz)
theorem cD {n:Nat} {it:MA} {g:MG} {e:ME} {ρ:Fm} {h h1:Hm} {ds:List PyData} (hit:it ρ h=.ok (ds.map D.dat) h1) (hz:ds.length<=16777216) (f:PyData->PyData)
  (H:∀ x∈ds,∃ ρ1,g (.dat x) (List.replicate n none++ρ) h1=.ok ρ1 h1/\e ρ1 h1=.ok (.dat (f x)) h1):aT n it g bT e ρ h=.ok (.dat (.list (ds.map f))) h1:=by
 have:=pj (n:=n) (t:=bT) (g:=g) (e:=e) hit (by simpa using hz) (fun _=>true) (fun x=>match x with | .dat d=>f d | _=>.none) (fun x hx=>by
  obtain ⟨d,hd,rfl⟩:=List.mem_map.mp hx
  obtain ⟨ρ1,a,b⟩:=H d hd
  exact ⟨ρ1,a,rfl,fun _=>b⟩)
 rw [this,show (fun _:D=>true)=fun _=>true from rfl,List.filter_eq_self.mpr (fun _ _=>rfl),List.map_map]
 rfl
theorem gW {n:Nat} {it:MA} {g:MG} {t:MT} {e:ME} {ρ:Fm} {h h1:Hm} {ds:List PyData} (hit:it ρ h=.ok (ds.map D.dat) h1) (hz:ds.length<=16777216) (c:PyData->Bool) (f:PyData->PyData)
  (H:∀ x∈ds,∃ ρ1,g (.dat x) (List.replicate n none++ρ) h1=.ok ρ1 h1/\t ρ1 h1=.ok (c x) h1/\(c x=true->e ρ1 h1=.ok (.dat (f x)) h1)):aT n it g t e ρ h=.ok (.dat (.list ((ds.filter c).map f))) h1:=by
 have:=pj (n:=n) (t:=t) (g:=g) (e:=e) hit (by simpa using hz) (fun x=>match x with | .dat d=>c d | _=>false) (fun x=>match x with | .dat d=>f d | _=>.none) (fun x hx=>by
  obtain ⟨d,hd,rfl⟩:=List.mem_map.mp hx
  obtain ⟨ρ1,a,b,k⟩:=H d hd
  exact ⟨ρ1,a,b,k⟩)
 rw [this]
 simp [List.filter_map,Function.comp_def]
theorem vP (bs:List Bool) (h:Hm):iZ [.dat (.list (bs.map .bool))] h=.ok (.bool (bs.all id)) h:=by simp [iZ,qD]
theorem vQ (bs:List Bool) (h:Hm):qb [.dat (.list (bs.map .bool))] h=.ok (.bool (bs.any id)) h:=by simp [qb,qD]
theorem eI {g:MG} {b:MS} (I:Nat->Fm->Hm->Prop):∀ (xs:List D) (i:Nat) (ρ:Fm) (h:Hm),(∀ (j:Nat) (x:D),xs[j]?=some x->∀ ρ h,I (i+j) ρ h->∃ ρ1 h1 ρ2 h2,g x ρ h=.ok ρ1 h1/\(b ρ1 h1=.ok (.nx ρ2) h2\/b ρ1 h1=.ok (.ct ρ2) h2)/\I (i+j+1) ρ2 h2)->I i ρ h ->
  ∃ ρ' h',eB g b xs ρ h=.ok (.nx ρ') h'/\I (i+xs.length) ρ' h'
 | [],i,ρ,h,_,a=>⟨ρ,h,rfl,by simpa using a⟩
 | x::xs,i,ρ,h,H,a=>by
  obtain ⟨ρ1,h1,ρ2,h2,e1,e2,a2⟩:=H 0 x rfl ρ h (by simpa using a)
  obtain ⟨ρ',h',e3,a3⟩:=eI I xs (i+1) ρ2 h2 (fun j y e ρ h a=>by
   have:=H (j+1) y (by simpa using e) ρ h (by rw [show i+(j+1)=i+1+j by omega];exact a)
   rwa [show i+(j+1)+1=i+1+j+1 by omega] at this) (by simpa using a2)
  refine ⟨ρ',h',?_,by rw [List.length_cons,show i+(xs.length+1)=i+1+xs.length by omega];exact a3⟩
  unfold eB
  rw [e1]
  simp only [R.bQ,R.aA]
  rcases e2 with e2 | e2<;>rw [e2]<;>exact e3
theorem kj {n:Nat} {ρ:Fm} {g:MG} {t:MT} {e:ME} (I:Hm->Prop) (f:D->D->Prop):∀ {xs:List D} {h:Hm},(∀ x∈xs,∀ h,I h->∃ ρ1 h1 c h2,g x (List.replicate n none++ρ) h=.ok ρ1 h1/\t ρ1 h1=.ok c h2/\((c=false/\I h2)\/(c=true/\∃ y h3,e ρ1 h2=.ok y h3/\f x y/\I h3)))->I h ->
  ∃ ys zs h',fg n ρ g t e xs h=.ok ys h'/\I h'/\zs.Sublist xs/\PySem.Paired f zs ys
 | [],h,_,a=>⟨[],[],h,rfl,a,.slnil,.nil⟩
 | x::xs,h,H,a=>by
  obtain ⟨ρ1,h1,c,h2,e1,e2,k⟩:=H x (List.mem_cons_self ..) h a
  unfold fg
  rw [e1]
  simp only [R.bQ,R.aA]
  rw [e2]
  simp only [R.bQ,R.aA]
  rcases k with ⟨rfl,a2⟩ | ⟨rfl,y,h3,e3,fy,a3⟩
  ·obtain ⟨ys,zs,h',q1,q2,q3,q4⟩:=kj I f (xs:=xs) (fun y hy=>H y (List.mem_cons_of_mem _ hy)) a2
   exact ⟨ys,zs,h',by simpa using q1,q2,.cons _ q3,q4⟩
  ·obtain ⟨ys,zs,h',q1,q2,q3,q4⟩:=kj I f (xs:=xs) (fun y hy=>H y (List.mem_cons_of_mem _ hy)) a3
   refine ⟨y::ys,x::zs,h',?_,q2,.cons_cons _ q3,.cons fy q4⟩
   simp only [if_true]
   rw [e3]
   simp only [R.bQ,R.aA]
   rw [q1]
   rfl
end Ml
namespace Ml
open PySem
mutual
def gX:PyData->Bool
 | .none | .bool _=>true
 | .int i=>decide (i.natAbs < 10 ^ 30)
 | .str x=>PyData.strOk x
 | .tuple ds=>fe ds
 | .list ds=>fe ds
 | .dict _=>false
def fe:List PyData->Bool
 | []=>true
 | d::ds=>gX d && fe ds
end
theorem yt {i:Int} (h:gX (.int i)=true):PyData.showable (.int i)=true/\PyData.intsShort 31 (.int i)=true:=by
 simp only [gX,decide_eq_true_eq] at h
 refine ⟨?_,?_⟩
 ·simp only [PyData.showable,decide_eq_true_eq]
  by_cases z:i.natAbs=0
  ·rw [z];decide
  ·rw [Nat.log2_lt z]
   exact Nat.lt_of_lt_of_le h (Nat.le_trans (by decide:10 ^ 30<=2 ^ 100) (Nat.pow_le_pow_right (by decide) (by decide)))
 ·simp only [PyData.intsShort,decide_eq_true_eq]
  have e:=PySem.int_text_length_le10 (k:=30) (by decide) h
  show (Str.ofString (toString i)).length<=31
  rw [ofString_length];exact e
mutual
theorem jz:∀ {d:PyData},gX d=true->d.showable=true/\d.intsShort 31=true
 | .none,_=>by simp [PyData.showable,PyData.intsShort]
 | .bool _,_=>by simp [PyData.showable,PyData.intsShort]
 | .int _,h=>yt h
 | .str x,h=>by simp [PyData.showable,PyData.intsShort]
 | .tuple ds,h=>by simp only [gX] at h;simp only [PyData.showable,PyData.intsShort];exact iA h
 | .list ds,h=>by simp only [gX] at h;simp only [PyData.showable,PyData.intsShort];exact iA h
 | .dict _,h=>by simp [gX] at h
theorem iA:∀ {ds:List PyData},fe ds=true->PyData.showableAll ds=true/\PyData.intsShortAll 31 ds=true
 | [],_=>by simp [PyData.showableAll,PyData.intsShortAll]
 | d::ds,h=>by
  simp only [fe,Bool.and_eq_true] at h
  simp only [PyData.showableAll,PyData.intsShortAll,Bool.and_eq_true]
  exact ⟨⟨(jz h.1).1,(iA h.2).1⟩,(jz h.1).2,(iA h.2).2⟩
end
mutual
theorem pk:∀ {d:PyData},gX d=true->d.canLay0=true
 | .none,_=>by simp [PyData.canLay0]
 | .bool _,_=>by simp [PyData.canLay0]
 | .int _,h=>by simp [PyData.canLay0]
 | .str x,h=>by simpa [PyData.canLay0,gX] using h
 | .tuple ds,h=>by simp only [gX] at h;simp only [PyData.canLay0];exact mE h
 | .list ds,h=>by simp only [gX] at h;simp only [PyData.canLay0];exact mE h
 | .dict _,h=>by simp [gX] at h
theorem mE:∀ {ds:List PyData},fe ds=true->PyData.canLayAll0 ds=true
 | [],_=>by simp [PyData.canLayAll0]
 | d::ds,h=>by
  simp only [fe,Bool.and_eq_true] at h
  simp only [PyData.canLayAll0,Bool.and_eq_true]
  exact ⟨pk h.1,mE h.2⟩
end
theorem lD:∀ (a b:List PyData),fe (a++b)=(fe a && fe b)
 | [],b=>by simp [fe]
 | d::a,b=>by simp [fe,lD a b,Bool.and_assoc]
theorem mZ:∀ (a b:List PyData),PyData.weightAll (a++b)=PyData.weightAll a+PyData.weightAll b
 | [],b=>by simp [PyData.weightAll]
 | d::a,b=>by simp [PyData.weightAll,mZ a b];omega
theorem m3:∀ (a b:List PyData),PyData.depthAll (a++b)=max (PyData.depthAll a) (PyData.depthAll b)
 | [],b=>by simp [PyData.depthAll]
 | d::a,b=>by simp only [List.cons_append,PyData.depthAll,m3 a b];omega
theorem uy:∀ (a:List PyData),a.length<=PyData.weightAll a
 | []=>by simp
 | d::a=>by
  have:=uy a
  rw [PyData.weightAll,List.length_cons]
  omega
theorem qU:∀ {ds:List PyData} {d:PyData},fe ds=true->d∈ds->gX d=true
 | e::ds,d,h,m=>by
  simp only [fe,Bool.and_eq_true] at h
  rcases List.mem_cons.mp m with rfl | m
  ·exact h.1
  ·exact qU h.2 m
theorem uz:∀ {ds:List PyData},(∀ d∈ds,gX d=true)->fe ds=true
 | [],_=>rfl
 | d::ds,h=>by simp only [fe,Bool.and_eq_true];exact ⟨h d (List.mem_cons_self ..),uz fun e m=>h e (List.mem_cons_of_mem _ m)⟩
theorem qV:∀ {ds:List PyData} {d:PyData},d∈ds->d.depth<=PyData.depthAll ds
 | e::ds,d,m=>by
  simp only [PyData.depthAll]
  rcases List.mem_cons.mp m with rfl | m
  ·omega
  ·have:=qV m;omega
theorem gA:∀ {ds:List PyData} {m:Nat},(∀ d∈ds,d.depth<=m)->PyData.depthAll ds<=m
 | [],m,_=>by simp [PyData.depthAll]
 | d::ds,m,h=>by
  simp only [PyData.depthAll]
  have h1:=h d (List.mem_cons_self ..)
  have h2:=gA (ds:=ds) (m:=m) fun e q=>h e (List.mem_cons_of_mem _ q)
  omega
theorem pq:∀ {ds:List PyData} {d:PyData},d∈ds->d.weight+1<=PyData.weightAll ds
 | e::ds,d,m=>by
  simp only [PyData.weightAll]
  rcases List.mem_cons.mp m with rfl | m
  ·omega
  ·have:=pq m;omega
theorem lF:∀ {ds:List PyData} {n:Nat},(∀ d∈ds,d.weight<=n)->PyData.weightAll ds<=ds.length * (n+1)
 | [],n,_=>by simp [PyData.weightAll]
 | d::ds,n,h=>by
  simp only [PyData.weightAll,List.length_cons,Nat.succ_mul]
  have h1:=h d (List.mem_cons_self ..)
  have h2:=lF (ds:=ds) (n:=n) fun e q=>h e (List.mem_cons_of_mem _ q)
  omega
structure Ok (n m:Nat) (x:PyData):Prop where
 f:gX x=true
 d:x.depth<=m
 w:x.weight<=n
structure fK (n m:Nat) (ds:List PyData):Prop where
 f:fe ds=true
 d:PyData.depthAll ds<=m
 w:PyData.weightAll ds<=n
section
variable {n m n' m':Nat} {d x:PyData} {ds a b:List PyData}
theorem fK.tup (o:fK n m ds):Ok n (m+1) (.tuple ds):=⟨by simpa only [gX] using o.f,by simp only [PyData.depth];have:=o.d;omega,by simp only [PyData.weight];exact o.w⟩
theorem fK.lst (o:fK n m ds):Ok n (m+1) (.list ds):=⟨by simpa only [gX] using o.f,by simp only [PyData.depth];have:=o.d;omega,by simp only [PyData.weight];exact o.w⟩
theorem Ok.items (o:Ok n m (.tuple ds)):fK n (m - 1) ds:=⟨by simpa only [gX] using o.f,by have:=o.d;simp only [PyData.depth] at this;omega,by have:=o.w;simpa only [PyData.weight] using this⟩
theorem Ok.Fs (o:Ok n m (.list ds)):fK n (m - 1) ds:=⟨by simpa only [gX] using o.f,by have:=o.d;simp only [PyData.depth] at this;omega,by have:=o.w;simpa only [PyData.weight] using this⟩
theorem fK.append {n1 n2:Nat} (x:fK n1 m a) (y:fK n2 m b):fK (n1+n2) m (a++b):=
 ⟨by rw [lD,x.f,y.f];rfl,by rw [m3];exact Nat.max_le.mpr ⟨x.d,y.d⟩,by rw [mZ];exact Nat.add_le_add x.w y.w⟩
theorem fK.nil:fK 0 0 []:=⟨rfl,Nat.le_refl _,Nat.le_refl _⟩
theorem fK.one (x:Ok n m d):fK (n+1) m [d]:=⟨by simp [fe,x.f],by simp [PyData.depthAll];exact x.d,by simp [PyData.weightAll];exact x.w⟩
theorem fK.cons (x:Ok n m d) (y:fK n' m ds):fK (n+1+n') m (d::ds):=(fK.one x).append y
theorem fK.mono (x:fK n m a) (h1:n<=n') (h2:m<=m'):fK n' m' a:=⟨x.f,Nat.le_trans x.d h2,Nat.le_trans x.w h1⟩
theorem Ok.mono (x:Ok n m d) (h1:n<=n') (h2:m<=m'):Ok n' m' d:=⟨x.f,Nat.le_trans x.d h2,Nat.le_trans x.w h1⟩
theorem fK.mem (o:fK n m ds) (h:d∈ds):Ok n m d:=⟨qU o.f h,Nat.le_trans (qV h) o.d,by have:=pq h;have:=o.w;omega⟩
theorem fK.len (o:fK n m ds):ds.length<=n:=Nat.le_trans (uy ds) o.w
theorem fK.of (h:∀ d∈ds,Ok n m d):fK (ds.length * (n+1)) m ds:=⟨uz fun d q=>(h d q).f,gA fun d q=>(h d q).d,lF fun d q=>(h d q).w⟩
theorem Ok.yu (o:Ok n m d):noDict d=true:=by
 have:=PyData.hasDict_of_canLay d (pk o.f)
 simp [noDict,this]
theorem Ok.shown (o:Ok n m d) (h:n<=10000):d.shown.length<=16777216:=by
 have h1:=PyData.shown_le 31 (by decide) d (PyData.leavesShort_of_canLay0 31 d (pk o.f) (jz o.f).2)
 have h2:=o.w
 exact Nat.le_trans (by omega:_<=400000) (by decide)
theorem Ok.rep (o:Ok n m d) (h:n<=10000) (h2:m<=40):tI d=true:=by
 have:=o.d
 simp only [tI,Bool.and_eq_true,decide_eq_true_eq]
 exact ⟨⟨⟨(jz o.f).1,o.yu⟩,by omega⟩,sz (o.shown h)⟩
theorem Ok.str {s:Str} (o:Ok n m (.str s)):s.length<=n:=o.w
end
theorem pv {n m:Nat} {d:PyData} (o:Ok n m d) (h:Hm) (hn:n<=10000) (hm:m<=40):fM [.dat d] h=.ok (.rpr d.shown) h:=by simp [fM,kM,o.rep hn hm]
theorem AO (ds:List PyData) (z:Nat):cut ds none (some (z:Int))=ds.take z:=by
 simp only [cut,dH,Nat.sub_zero,List.drop_zero]
 rw [if_neg (by omega),Int.toNat_natCast,List.take_eq_take_iff]
 omega
theorem AQ (ds:List PyData) (z:Nat):cut ds (some (z:Int)) none=ds.drop z:=by
 simp only [cut,dH]
 rw [if_neg (by omega),Int.toNat_natCast]
 by_cases h:z<=ds.length
 ·rw [Nat.min_eq_left h,List.take_of_length_le (by rw [List.length_drop];exact Nat.le_refl _)]
 ·rw [Nat.min_eq_right (by omega),List.drop_of_length_le (Nat.le_refl _),List.drop_of_length_le (by omega)]
  simp
theorem AR (ds:List PyData):cut ds (some 1) none=ds.drop 1:=AQ ds 1
theorem xq (xs:List PyData):PyData.eqv (.list xs) (.list [])=xs.isEmpty:=by cases xs<;>simp [PyData.eqv,PyData.eqvAll]
theorem CN {n m:Nat} {xs:List PyData} (o:fK n m xs) (h:Hm):oEq (.dat (.list xs)) (.dat (.list [])) h=.ok (.bool xs.isEmpty) h:=by
 have h1:PyData.hasDictAll xs=false:=by have:=o.lst.yu;simpa [noDict,PyData.hasDict] using this
 simp [oEq,kM,eqQ,h1,xq,noDict,PyData.hasDict,PyData.hasDictAll,PyData.depth,PyData.depthAll]
end Ml
namespace Ml
open PySem
end Ml
namespace Ml
open PySem
end Ml
namespace Ml
open PySem
def az (c:Nat):Bool:=decide (97<=c) && decide (c<=122)
def isName:PyData->Bool
 | .str x=>decide (1<=x.length) && decide (x.length<=6) && x.cps.toList.all az
 | _=>false
theorem JX (a c:Nat):decide ([a] < [c])=decide (a < c):=by
 rw [decide_eq_decide]
 constructor
 ·intro h
  cases h with
  | rel h=>exact h
  | cons h=>cases h
 ·intro h
  exact .rel h
theorem JC:("a" : Str).cps.toList=[97]:=by decide +kernel
theorem JD:("z" : Str).cps.toList=[122]:=by decide +kernel
theorem Ko (c:Nat):(!jX (⟨#[c]⟩:Str) ("a" : Str))=decide (97<=c):=by
 unfold jX
 rw [JC,show (⟨#[c]⟩:Str).cps.toList=[c] from rfl,JX]
 by_cases h:c < 97
 ·rw [decide_eq_true h,decide_eq_false (by omega)];rfl
 ·rw [decide_eq_false h,decide_eq_true (by omega)];rfl
theorem ltZ (c:Nat):(!jX ("z" : Str) (⟨#[c]⟩:Str))=decide (c<=122):=by
 unfold jX
 rw [JD,show (⟨#[c]⟩:Str).cps.toList=[c] from rfl,JX]
 by_cases h:122 < c
 ·rw [decide_eq_true h,decide_eq_false (by omega)];rfl
 ·rw [decide_eq_false h,decide_eq_true (by omega)];rfl
theorem vR (x:Str):signs x=(fX x).map D.dat:=by simp [signs,fX]
theorem vS (x:Str):(fX x).length=x.length:=by simp [fX];rfl
theorem vT (x:Str) (p:Nat->Bool) (q:PyData->Bool) (h:∀ c,q (.str ⟨#[c]⟩)=p c):(fX x).all q=x.cps.toList.all p:=by
 rw [Bool.eq_iff_iff,List.all_eq_true,List.all_eq_true]
 constructor
 ·intro H c hc
  obtain ⟨i,hi,e⟩:=List.mem_iff_getElem.mp hc
  have:=H (.str ⟨#[c]⟩) (by
   simp only [fX,List.mem_map,List.mem_range]
   refine ⟨i,by simpa using hi,?_⟩
   have hi':i < x.cps.size:=by simpa using hi
   simp [Array.getD,hi']
   simpa using e)
  rw [h] at this
  exact this
 ·intro H d hd
  simp only [fX,List.mem_map,List.mem_range] at hd
  obtain ⟨i,hi,rfl⟩:=hd
  rw [h]
  apply H
  have:x.cps.getD i 0=x.cps[i]:=by simp [Array.getD,hi]
  rw [this]
  simp
theorem lH (i j:Int) (h:Hm):oLe (.int i) (.int j) h=.ok (.bool (decide (i<=j))) h:=rfl
theorem xt (x y:Str) (h:Hm):oLe (.str x) (.str y) h=.ok (.bool (!jX y x)) h:=rfl
theorem pz {x:Str} (h:Hm) (hz:x.length<=16777216):dX [.str x] h=.ok (.int x.length) h:=by simp [dX,sz hz]
@[simp] theorem G4 (ds:List PyData) (h:Hm):dX [.dat (.tuple ds)] h=.ok (.int ds.length) h:=rfl
@[simp] theorem G5 (ds:List PyData) (h:Hm):dX [.dat (.list ds)] h=.ok (.int ds.length) h:=rfl
def aL {α:Type} (ds:List α) (f:α->Bool):Bool:=ds.all f
def dF {α:Type} (ds:List α) (f:α->Bool):Bool:=ds.any f
theorem aR {α:Type} {ds:List α} {f:α->Bool}:aL ds f=true<->∀ x∈ds,f x=true:=List.all_eq_true
theorem uA {α:Type} {ds:List α} {f:α->Bool}:dF ds f=true<->∃ x,x∈ds/\f x=true:=List.any_eq_true
theorem dG {α:Type} {a:α} {ds:List α} {f:α->Bool}:aL (a::ds) f=true<->f a=true/\aL ds f=true:=by simp [aL]
@[simp] theorem G6 {α:Type} (f:α->Bool):aL [] f=true:=rfl
@[simp] theorem G7 {α:Type} (f:α->Bool):dF [] f=false:=rfl
theorem cX {α:Type} (ds:List α) (f:α->Bool) (h:Hm):iZ [.dat (.list (ds.map fun x=>.bool (f x)))] h=.ok (.bool (aL ds f)) h:=by
 unfold aL
 have e1:ds.map (fun x=>PyData.bool (f x))=(ds.map f).map .bool:=by simp
 rw [e1,vP]
 simp [List.all_map,Function.comp_def]
theorem uB {α:Type} (ds:List α) (f:α->Bool) (h:Hm):qb [.dat (.list (ds.map fun x=>.bool (f x)))] h=.ok (.bool (dF ds f)) h:=by
 unfold dF
 have e1:ds.map (fun x=>PyData.bool (f x))=(ds.map f).map .bool:=by simp
 rw [e1,vQ]
 simp [List.any_map,Function.comp_def]
theorem vU {n m:Nat} {d:PyData} (o:Ok n m d) (hn:n<=10000) (h:Hm):fR [.dat d] h=.ok (.bool (isName d)) h:=by
 unfold fR qN
 cases d with
 | str x=>
  have hx:x.length<=16777216:=Nat.le_trans o.str (by omega)
  have key:aT 1 (aE (ab 0)) (ah 0) bT (j7 oLe oLe (ag (.str "a")) (ab 0) (ag (.str "z"))) [some (.str x)] h=.ok (.dat (.list ((fX x).map fun d=>.bool (match d with | .str y=>!jX y "a" && !jX "z" y | _=>false)))) h:=by
   refine cD (by simp [vR]) (by rw [vS];exact hx) _ fun y hy=>?_
   simp only [fX,List.mem_map,List.mem_range] at hy
   obtain ⟨i,hi,rfl⟩:=hy
   generalize (⟨#[x.cps.getD i 0]⟩:Str)=y
   refine ⟨_,rfl,?_⟩
   by_cases z:jX y "a" = true
   ·simp [xt,z]
   ·simp [xt,z]
  by_cases h1:1<=(x.length:Int)
  ·by_cases h2:(x.length:Int)<=6
   ·simp [pz h hx,lH,h1,h2,key,cX]
    unfold aL
    rw [vT x az _ (fun c=>by simp only [az,Ko,ltZ])]
    simp [isName,show 1<=x.length by omega,show x.length<=6 by omega]
   ·simp [pz h hx,lH,h1,h2,isName,show ¬ x.length<=6 by omega]
  ·simp [pz h hx,lH,h1,isName,show ¬ 1<=x.length by omega]
 | _=>simp [isName]
def gY (ds:List PyData):Bool:=aL (ds.zip ds.tail) fun p=>ltB p.1 p.2
structure G8 (ds:List PyData):Prop where
 nd:∀ d∈ds,noDict d=true/\d.depth<=40
 lt:∀ d∈ds,∀ e∈ds,bG d e=some (ltB d e)
theorem Ft {d e:PyData} (h1:noDict d=true) (h2:noDict e=true) (h3:d.depth<=40) (h4:bG d e=some (ltB d e)) (h:Hm):oLt (.dat d) (.dat e) h=.ok (.bool (ltB d e)) h:=by
 simp [oLt,h1,h2,h4,show min d.depth e.depth<=40 by omega]
theorem xu (i j:Int) (h:Hm):oLt (.int i) (.int j) h=.ok (.bool (decide (i < j))) h:=by
 simp [oLt,noDict,PyData.hasDict,PyData.depth,bG]
theorem uC {ds:List PyData} (h:∀ d∈ds,∃ x,d=.str x):G8 ds:=⟨fun d m=>by obtain ⟨x,rfl⟩:=h d m;exact ⟨by simp [noDict,PyData.hasDict],by simp [PyData.depth]⟩,fun d m e m'=>by
 obtain ⟨x,rfl⟩:=h d m
 obtain ⟨y,rfl⟩:=h e m'
 simp [ltB,bG]⟩
theorem xw:∀ (xs ys:List PyData),jI xs ys=((xs.zip ys).map fun p=>PyData.tuple [p.1,p.2]).map D.dat
 | [],_=>by simp [jI]
 | _::_,[]=>by simp [jI]
 | x::xs,y::ys=>by simp [jI,xw xs ys]
theorem CO {xs:List PyData} {p:PyData×PyData} (h:p∈xs.zip xs.tail):p.1∈xs/\p.2∈xs:=by
 obtain ⟨a,b⟩:=p
 have:=List.of_mem_zip h
 exact ⟨this.1,List.mem_of_mem_tail this.2⟩
theorem iB {ds:List PyData} (c:G8 ds) (hz:ds.length<=16777216) (h:Hm):cG [.dat (.tuple ds)] h=.ok (.bool (gY ds)) h:=by
 unfold cG mR
 have key:aT 2 (wJ (aa (ab 0) (aa (EV (ab 0) (n9 (ag (.int 1))) (n8)) (ai)))) (jE (cM (ah 0) (cM (ah 1) (jD)))) (bT) (ao oLt (ab 0) (ab 1)) [some (.dat (.tuple ds))] h=.ok (.dat (.list ((ds.zip ds.tail).map fun p=>.bool (ltB p.1 p.2)))) h:=by
  rw [cD (h1:=h) (ds:=(ds.zip ds.tail).map fun p=>PyData.tuple [p.1,p.2]) (by simp [AR,xw]) (by simp;omega) (fun d=>.bool (match d with | .tuple [a,b]=>ltB a b | _=>false)) fun y hy=>?_]
  ·rw [List.map_map];rfl
  ·obtain ⟨p,hp,rfl⟩:=List.mem_map.mp hy
   obtain ⟨m1,m2⟩:=CO hp
   refine ⟨_,rfl,?_⟩
   simp [Ft (c.nd _ m1).1 (c.nd _ m2).1 (c.nd _ m1).2 (c.lt _ m1 _ m2)]
 simp [key,cX,gY]
theorem all_filter {α:Type} (l:List α) (p:α->Bool) (f:α->β):((l.filter fun x=>!p x).map f).isEmpty=aL l p:=by
 unfold aL
 induction l with
 | nil=>rfl
 | cons a l ih=>cases h:p a<;>simp [List.filter_cons,h,<- ih]
theorem xx (l:List α):fK (l.length * 2) 0 (l.map fun _=>PyData.int 1):=by
 have:=fK.of (n:=1) (m:=0) (ds:=l.map fun _=>PyData.int 1) fun d hd=>by
  obtain ⟨_,_,rfl⟩:=List.mem_map.mp hd
  exact ⟨by decide,by decide,by decide +kernel⟩
 simpa using this
end Ml
namespace Ml
open PySem
theorem fK.sub {n m:Nat} {ds es:List PyData} (o:∀ d∈ds,Ok n m d) (h:∀ e∈es,e∈ds):fK (es.length * (n+1)) m es:=fK.of fun d hd=>o d (h d hd)
end Ml
namespace Ml
open PySem
mutual
def cm:PyData->PyData->Bool
 | .str _,.str _=>true
 | .int _,.int _=>true
 | .tuple xs,.tuple ys=>CP xs ys
 | _,_=>false
def CP:List PyData->List PyData->Bool
 | x::xs,y::ys=>cm x y && CP xs ys
 | _,_=>true
end
mutual
theorem vV:∀ {d e:PyData},cm d e=true->(bG d e).isSome=true
 | .str _,e,h=>by cases e<;>simp_all [cm,bG]
 | .int _,e,h=>by cases e<;>simp_all [cm,bG]
 | .tuple xs,e,h=>by
  cases e with
  | tuple ys=>simp only [cm] at h;simp only [bG];exact xy h
  | _=>simp [cm] at h
 | .none,_,h=>by simp [cm] at h
 | .bool _,_,h=>by simp [cm] at h
 | .list _,_,h=>by simp [cm] at h
 | .dict _,_,h=>by simp [cm] at h
theorem xy:∀ {xs ys:List PyData},CP xs ys=true->(cN xs ys).isSome=true
 | [],[],_=>by simp [cN]
 | [],_::_,_=>by simp [cN]
 | _::_,[],_=>by simp [cN]
 | x::xs,y::ys,h=>by
  simp only [CP,Bool.and_eq_true] at h
  unfold cN
  split
  ·exact xy h.2
  ·exact vV h.1
end
theorem CQ {d e:PyData} (h:cm d e=true):bG d e=some (ltB d e):=by
 have:=vV h
 unfold ltB
 cases q:bG d e with
 | none=>rw [q] at this;cases this
 | some b=>rfl
def cK:PyData->Bool
 | .str _=>true
 | _=>false
theorem bV {d:PyData} (h:cK d=true):∃ x,d=.str x:=by cases d<;>simp_all [cK]
theorem uE:∀ {xs ys:List PyData},aL xs cK=true->aL ys cK=true->CP xs ys=true
 | [],_,_,_=>by simp [CP]
 | _::_,[],_,_=>by simp [CP]
 | x::xs,y::ys,h,k=>by
  have h:=dG.mp h
  have k:=dG.mp k
  obtain ⟨a,rfl⟩:=bV h.1
  obtain ⟨b,rfl⟩:=bV k.1
  simp [CP,cm,uE h.2 k.2]
theorem G8.of {n m:Nat} {ds:List PyData} (o:fK n m ds) (hm:m<=40) (h:∀ d∈ds,∀ e∈ds,cm d e=true):G8 ds:=⟨fun d q=>⟨(o.mem q).yu,by have:=(o.mem q).d;omega⟩,fun d q e r=>CQ (h d q e r)⟩
def yw (ns:List PyData) (d:PyData):Bool:=ns.any fun y=>PyData.eqv y d
theorem AS {n m:Nat} {d:PyData} (o:Ok n m d):∀ {ns:List PyData},aL ns cK=true->sR d ns=some (yw ns d)
 | [],_=>rfl
 | y::ns,h=>by
  have h:=dG.mp h
  obtain ⟨x,rfl⟩:=bV h.1
  have ih:=AS o h.2
  have e:tH (.str x) d=some (PyData.eqv (.str x) d):=by
   have hd:noDict d=true:=o.yu
   unfold tH
   split
   ·simp [noDict,PyData.hasDict] at hd
   ·simp [noDict,PyData.hasDict] at hd
   ·simp [eqQ,noDict,PyData.hasDict,PyData.depth]
    simpa [noDict] using hd
  simp [sR,e,ih,yw]
theorem AU {n m:Nat} {d:PyData} {ns:List PyData} (o:Ok n m d) (h:aL ns cK=true) (hm:Hm):vp (.dat d) (.dat (.tuple ns)) hm=.ok (.bool (yw ns d)) hm:=by
 simp [vp,findIn,fW,gr,kM,AS o h]
theorem jA {ns:List PyData} (h:aL ns cK=true) {d:PyData}:yw ns d=true<->d∈ns:=by
 simp only [yw,List.any_eq_true]
 constructor
 ·rintro ⟨y,hy,e⟩
  obtain ⟨x,rfl⟩:=bV (aR.mp h y hy)
  cases d<;>simp [PyData.eqv] at e
  subst e
  exact hy
 ·intro q
  obtain ⟨x,rfl⟩:=bV (aR.mp h d q)
  exact ⟨_,q,by simp [PyData.eqv]⟩
theorem vW {d:PyData} (h:isName d=true):cK d=true:=by cases d<;>simp_all [isName,cK]
theorem kl {ds:List PyData} (h:aL ds isName=true):aL ds cK=true:=aR.mpr fun d m=>vW (aR.mp h d m)
theorem uF {ds:List PyData} (h:aL ds cK=true):∀ d∈ds,∃ x,d=.str x:=fun d m=>bV (aR.mp h d m)
def cY:PyData->Bool
 | .tuple ds=>decide (ds.length<=12) && aL ds isName && gY ds
 | _=>false
theorem iC {n m:Nat} {d:PyData} (o:Ok n m d) (hn:n<=10000) (h:Hm):fx [.dat d] h=.ok (.bool (cY d)) h:=by
 unfold fx mS
 cases d with
 | tuple ds=>
  have hl:=o.items.len
  have key:=cD (n:=1) (it:=aE (ab 0)) (g:=ah 0) (e:=af fR (aa (ab 0) (ai))) (ρ:=[some (.dat (.tuple ds))]) (h:=h) (h1:=h) (ds:=ds) (by simp) (by omega) (fun x=>.bool (isName x)) (fun x hx=>⟨_,rfl,by simp [vU (o.items.mem hx) hn]⟩)
  by_cases h1:ds.length<=12
  ·by_cases h2:aL ds isName=true
   ·have:=iB (uC (uF (kl h2))) (by omega) h
    simp [key,cX,h1,show ¬ (12:Int) < ds.length by omega,h2,this,cY]
   ·simp [key,cX,h1,show ¬ (12:Int) < ds.length by omega,h2,cY]
  ·simp [h1,show (12:Int) < ds.length by omega,cY]
 | _=>simp [cY]
def lJ (ns:List PyData):PyData->Bool
 | .tuple ds=>aL ds (yw ns) && gY ds
 | _=>false
theorem mF {n m:Nat} {d:PyData} {ns:List PyData} (o:Ok n m d) (hn:n<=10000) (hs:aL ns cK=true) (h:Hm):i8 [.dat d,.dat (.tuple ns)] h=.ok (.bool (lJ ns d)) h:=by
 unfold i8 tV
 cases d with
 | tuple ds=>
  have hl:=o.items.len
  have key:=cD (n:=1) (it:=aE (ab 0)) (g:=ah 0) (e:=ao vp (ab 0) (ab 2)) (ρ:=[some (.dat (.tuple ds)),some (.dat (.tuple ns))]) (h:=h) (h1:=h) (ds:=ds) (by simp) (by omega) (fun x=>.bool (yw ns x)) (fun x hx=>⟨_,rfl,by simp [AU (o.items.mem hx) hs]⟩)
  by_cases h2:aL ds (yw ns)=true
  ·have:=iB (uC (fun d m=>uF hs d ((jA hs).mp (aR.mp h2 d m)))) (by omega) h
   simp [key,cX,h2,this,lJ]
  ·simp [key,cX,h2,lJ]
 | _=>simp [lJ]
end Ml
namespace Ml
open PySem
end Ml
namespace Ml
open PySem
end Ml
namespace Ml
open PySem
end Ml
namespace Ml
open PySem
def uG:PyData->Nat
 | .tuple ds=>ds.length
 | _=>0
def isJS (ns:List PyData):PyData->Bool
 | .tuple [l,x]=>lJ ns l && decide (0 < uG l) && yw ns x
 | _=>false
theorem dk (i j:Int) (h:Hm):nZ (.int i) (.int j) h=.ok (.bool (!(i == j))) h:=by
 simp [nZ,kM,eqQ,noDict,PyData.hasDict,PyData.depth,PyData.eqv]
theorem nE (i j:Int) (h:Hm):oEq (.int i) (.int j) h=.ok (.bool (i == j)) h:=by
 simp [oEq,kM,eqQ,noDict,PyData.hasDict,PyData.depth,PyData.eqv]
theorem qW {ns:List PyData} {l:PyData} (h:lJ ns l=true):∃ ds,l=.tuple ds/\aL ds (yw ns)=true/\gY ds=true:=by
 cases l<;>simp [lJ] at h
 exact ⟨_,rfl,by simpa using h.1,h.2⟩
theorem km {n m:Nat} {d:PyData} {ns:List PyData} (o:Ok n m d) (hn:n<=10000) (hs:aL ns cK=true) (h:Hm):cb [.dat d,.dat (.tuple ns)] h=.ok (.bool (isJS ns d)) h:=by
 unfold cb gx
 cases d with
 | tuple ds=>
  match ds,o with
  | [],o=>simp [dk,isJS]
  | [_],o=>simp [dk,isJS]
  | a::b::c::r,o=>simp [dk,isJS,show ¬ ((r.length:Int)+1+1+1=2) by omega]
  | [l,x],o=>
   have ol:=o.items.mem (d:=l) (by simp)
   have ox:=o.items.mem (d:=x) (by simp)
   by_cases h1:lJ ns l=true
   ·obtain ⟨ds,rfl,h2,h3⟩:=qW h1
    by_cases h4:0 < ds.length
    ·simp [dk,mF ol hn hs,h1,isJS,AU ox hs,h4,uG]
    ·simp [dk,mF ol hn hs,h1,isJS,h4,uG]
   ·simp [dk,mF ol hn hs,h1,isJS]
 | _=>simp [isJS]
def pA (ns:List PyData):PyData->Bool
 | .tuple ds=>decide (ds.length<=4) && aL ds (isJS ns) && gY ds
 | _=>false
theorem lK {ns:List PyData} (hs:aL ns cK=true) {d:PyData} (h:isJS ns d=true):∃ ls x,d=.tuple [.tuple ls,x]/\aL ls (yw ns)=true/\gY ls=true/\0 < ls.length/\aL ls cK=true/\cK x=true/\yw ns x=true:=by
 unfold isJS at h
 split at h
 ·rename_i l x
  simp only [Bool.and_eq_true,decide_eq_true_eq] at h
  obtain ⟨ds,rfl,h2,h3⟩:=qW h.1.1
  refine ⟨ds,x,rfl,h2,h3,h.1.2,aR.mpr fun d m=>aR.mp hs _ ((jA hs).mp (aR.mp h2 d m)),aR.mp hs _ ((jA hs).mp h.2),h.2⟩
 ·cases h
theorem DR {ns:List PyData} (hs:aL ns cK=true) {d e:PyData} (h:isJS ns d=true) (k:isJS ns e=true):cm d e=true:=by
 obtain ⟨ls,x,rfl,_,_,_,h1,h2,_⟩:=lK hs h
 obtain ⟨ks,y,rfl,_,_,_,k1,k2,_⟩:=lK hs k
 obtain ⟨x,rfl⟩:=bV h2
 obtain ⟨y,rfl⟩:=bV k2
 simp [cm,CP,uE h1 k1]
theorem jl {n m:Nat} {d:PyData} {ns:List PyData} (o:Ok n m d) (hn:n<=10000) (hm:m<=40) (hs:aL ns cK=true) (h:Hm):cq [.dat d,.dat (.tuple ns)] h=.ok (.bool (pA ns d)) h:=by
 unfold cq fN
 cases d with
 | tuple ds=>
  have hl:=o.items.len
  have key:=cD (n:=1) (it:=aE (ab 0)) (g:=ah 0) (e:=af cb (aa (ab 0) (aa (ab 2) (ai)))) (ρ:=[some (.dat (.tuple ds)),some (.dat (.tuple ns))]) (h:=h) (h1:=h) (ds:=ds) (by simp) (by omega) (fun x=>.bool (isJS ns x)) (fun x hx=>⟨_,rfl,by simp [km (o.items.mem hx) hn hs]⟩)
  by_cases h1:ds.length<=4
  ·by_cases h2:aL ds (isJS ns)=true
   ·have:=iB (G8.of o.items (by omega) fun d q e r=>DR hs (aR.mp h2 d q) (aR.mp h2 e r)) (by omega) h
    simp [key,cX,h1,show ¬ (4:Int) < ds.length by omega,h2,this,pA]
   ·simp [key,cX,h1,show ¬ (4:Int) < ds.length by omega,h2,pA]
  ·simp [h1,show (4:Int) < ds.length by omega,pA]
 | _=>simp [pA]
def sH:PyData->List PyData
 | .tuple ds=>ds
 | _=>[]
def ft:PyData->Bool
 | .tuple [a,b]=>cY a && decide (uG a<=4) && pA (sH a) b
 | _=>false
theorem iD {d:PyData} (h:cY d=true):∃ ds,d=.tuple ds/\ds.length<=12/\aL ds isName=true/\gY ds=true:=by
 cases d<;>simp [cY] at h
 exact ⟨_,rfl,h.1.1,by simpa using h.1.2,h.2⟩
theorem uH {n m:Nat} {d:PyData} (o:Ok n m d) (hn:n<=10000) (hm:m<=40) (h:Hm):gb [.dat d] h=.ok (.bool (ft d)) h:=by
 unfold gb oS
 cases d with
 | tuple ds=>
  match ds,o with
  | [],o=>simp [dk,ft]
  | [_],o=>simp [dk,ft]
  | a::b::c::r,o=>simp [dk,ft,show ¬ ((r.length:Int)+1+1+1=2) by omega]
  | [a,b],o=>
   have oa:=o.items.mem (d:=a) (by simp)
   have ob:=o.items.mem (d:=b) (by simp)
   by_cases h1:cY a=true
   ·obtain ⟨ns,rfl,h2,h3,h4⟩:=iD h1
    have:=jl ob hn (by omega) (kl h3) h
    by_cases h5:ns.length<=4
    ·simp [dk,iC oa hn,h1,lH,h5,show (ns.length:Int)<=4 by omega,this,ft,uG,sH]
    ·simp [dk,iC oa hn,h1,lH,h5,show ¬ (ns.length:Int)<=4 by omega,ft,uG,sH]
   ·simp [dk,iC oa hn,h1,ft]
 | _=>simp [ft]
end Ml
namespace Ml
open PySem
@[simp] theorem HR (ds:List PyData) (i:Int) (h:Hm):fv (.dat (.tuple ds)) (.int i) h=match jG ds i with | some d=>.ok (.dat d) h | none=>.bad:=rfl
@[simp] theorem CT (ds:List PyData) (i:Int) (h:Hm):fv (.dat (.list ds)) (.int i) h=match jG ds i with | some d=>.ok (.dat d) h | none=>.bad:=rfl
@[simp] theorem JY {α:Type} (a:α) (r:List α):jG (a::r) 0=some a:=by simp [jG,rC]
theorem kD {α:Type} {xs:List α} {i:Nat} {a:α} (h:xs[i]?=some a):jG xs (i:Int)=some a:=by
 obtain ⟨hi,e⟩:=List.getElem?_eq_some_iff.mp h
 simp [jG,rC,hi,e]
@[simp] theorem JZ {α:Type} (a b:α) (r:List α):jG (a::b::r) 1=some b:=by
 show jG _ ((1:Nat):Int)=_
 exact kD rfl
end Ml
namespace Ml
open PySem
def Wf (h:Hm):Prop:=∀ o∈h,MO.below h.length o=true
structure Bx (i:Nat) (h:Hm):Prop where
 box:∃ n:Int,h[i]?=some (.lst [.int n])
 wf:Wf h
def Bs (i:Nat) (h h':Hm):Prop:=∃ n:Int,h'=h.set i (.lst [.int n])
theorem Bx.lt {i:Nat} {h:Hm} (b:Bx i h):i < h.length:=by
 obtain ⟨⟨n,e⟩,_⟩:=b
 exact (List.getElem?_eq_some_iff.mp e).1
theorem Bx.refl {i:Nat} {h:Hm} (b:Bx i h):Bs i h h:=by
 obtain ⟨⟨n,e⟩,_⟩:=b
 refine ⟨n,?_⟩
 obtain ⟨l,e⟩:=List.getElem?_eq_some_iff.mp e
 rw [<- e]
 exact (List.set_getElem_self l).symm
theorem Bs.trans {i:Nat} {h h' h'':Hm} (a:Bs i h h') (b:Bs i h' h''):Bs i h h'':=by
 obtain ⟨n,rfl⟩:=a
 obtain ⟨k,rfl⟩:=b
 exact ⟨k,by rw [List.set_set]⟩
theorem Wf.set {h:Hm} (w:Wf h) {i:Nat} {o:MO} (b:MO.below h.length o=true):Wf (h.set i o):=fun x hx=>by
 rw [List.length_set]
 rcases List.mem_or_eq_of_mem_set hx with m | rfl
 ·exact w x m
 ·exact b
theorem D.iE {n m:Nat} (h:n<=m) {d:D} (b:D.below n d=true):D.below m d=true:=by
 cases d<;>simp_all [D.below]
 omega
theorem MO.iE {n m:Nat} (h:n<=m) {o:MO} (b:MO.below n o=true):MO.below m o=true:=by
 cases o with
 | lst xs=>simp only [MO.below,List.all_eq_true] at b ⊢;exact fun d q=>D.iE h (b d q)
 | cx t kvs=>rfl
 | ins C fs=>simp only [MO.below,List.all_eq_true] at b ⊢;exact fun d q=>D.iE h (b d q)
 | tab P q=>rfl
theorem Wf.push {h:Hm} (w:Wf h) {o:MO} (b:MO.below (h.length+1) o=true):Wf (h++[o]):=fun x hx=>by
 rw [List.length_append,List.length_singleton]
 rcases List.mem_append.mp hx with m | m
 ·exact MO.iE (Nat.le_succ _) (w x m)
 ·simp at m;subst m;exact b
theorem Bs.bx {i:Nat} {h h':Hm} (s:Bs i h h') (b:Bx i h):Bx i h':=by
 obtain ⟨n,rfl⟩:=s
 exact ⟨⟨n,by rw [List.getElem?_set_self b.lt]⟩,b.wf.set rfl⟩
theorem Bs.len {i:Nat} {h h':Hm} (s:Bs i h h'):h'.length=h.length:=by
 obtain ⟨n,rfl⟩:=s
 simp
theorem Bx.push {i:Nat} {h:Hm} (b:Bx i h) {o:MO} (q:MO.below (h.length+1) o=true):Bx i (h++[o]):=by
 obtain ⟨n,e⟩:=b.box
 exact ⟨⟨n,by rw [List.getElem?_append_left b.lt];exact e⟩,b.wf.push q⟩
theorem Bs.pop {i:Nat} {h h':Hm} {o:MO} (b:i < h.length) (s:Bs i (h++[o]) h'):∃ h1,h'=h1++[o]/\Bs i h h1:=by
 obtain ⟨n,rfl⟩:=s
 exact ⟨_,by rw [List.set_append_left _ _ b],n,rfl⟩
def Dr {α:Type} (i:Nat) (h:Hm) (r:R α) (P:α->Prop):Prop:=∃ a h',r=.ok a h'/\Bs i h h'/\P a
section
variable {α β:Type} {i:Nat} {h:Hm} {r:R α} {f:α->Hm->R β} {P P':α->Prop} {Q:β->Prop}
end
theorem iF {i:Nat} {h:Hm} (b:Bx i h) {c:Int} (h0:0 < c) (h1:c < 1073741824):Dr i h (aw [.ref i,.int c] h) fun d=>∃ k:Nat,d=.int k/\(k:Int) < c:=by
 obtain ⟨⟨n,e⟩,_⟩:=b
 have hl:=(List.getElem?_eq_some_iff.mp e).1
 refine ⟨.int (n % c),h.set i (.lst [.int (n / c)]),?_,⟨n / c,rfl⟩,(n % c).toNat,?_,?_⟩
 ·unfold aw mY
  simp [fv,fW,zr,e,nv,h0,h1,pP,oh,wK,rC]
 ·rw [Int.toNat_of_nonneg (Int.emod_nonneg _ (by omega))]
 ·rw [Int.toNat_of_nonneg (Int.emod_nonneg _ (by omega))]
  exact Int.emod_lt_of_pos _ h0
theorem CU (ns:List Int) (k:Nat) (h:Hm):∃ z:Int,fA [.scr ns,.int k] h=.ok (.int z) h:=by
 unfold fA mW
 by_cases hk:k < ns.length
 ·exact ⟨ns[k],by simp [dX,xu,hk,fv,fW,zr,kD (List.getElem?_eq_getElem hk)]⟩
 ·exact ⟨0,by simp [dX,xu,hk]⟩
def pB:List PyData:=[.int 48271,.int 69621,.int 16807,.int 39373,.int 30269,.int 40014,.int 40692,.int 50021,.int 61687,.int 71993,.int 83869,.int 95561,.int 30307]
theorem uI (i:Int) (h0:0<=i) (h1:i < 13):∃ n:Int,jG pB i=some (.int n)/\0<=n/\n < 100000:=by
 obtain ⟨k,rfl⟩:=Int.eq_ofNat_of_zero_le h0
 have hk:k < 13:=by omega
 have all:∀ k < 13,∃ n:Int,pB[k]?=some (.int n)/\0<=n/\n < 100000:=by
  intro k hk
  match k,hk with
  | 0,_=>exact ⟨_,rfl,by decide,by decide⟩
  | 1,_=>exact ⟨_,rfl,by decide,by decide⟩
  | 2,_=>exact ⟨_,rfl,by decide,by decide⟩
  | 3,_=>exact ⟨_,rfl,by decide,by decide⟩
  | 4,_=>exact ⟨_,rfl,by decide,by decide⟩
  | 5,_=>exact ⟨_,rfl,by decide,by decide⟩
  | 6,_=>exact ⟨_,rfl,by decide,by decide⟩
  | 7,_=>exact ⟨_,rfl,by decide,by decide⟩
  | 8,_=>exact ⟨_,rfl,by decide,by decide⟩
  | 9,_=>exact ⟨_,rfl,by decide,by decide⟩
  | 10,_=>exact ⟨_,rfl,by decide,by decide⟩
  | 11,_=>exact ⟨_,rfl,by decide,by decide⟩
  | 12,_=>exact ⟨_,rfl,by decide,by decide⟩
 obtain ⟨n,e,h⟩:=all k hk
 exact ⟨n,kD e,h⟩
theorem lL {i j:Int} (h:Hm) (hj:0 < j):oMod (.int i) (.int j) h=.ok (.int (i % j)) h:=by simp [oMod,hj]
theorem qX {i j:Int} (h:Hm) (hj:0 < j) (h2:j < 1073741824):nY (.int i) (.int j) h=.ok (.int (i / j)) h:=by simp [nY,hj,h2]
theorem pC {i j:Int} (h:Hm) (hj:nX i j=true):fV (.int i) (.int j) h=.ok (.int (i * j)) h:=by simp [fV,hj]
@[simp] theorem G9 (i j:Int) (h:Hm):dr (.int i) (.int j) h=.ok (.int (i+j)) h:=rfl
theorem sI {i j:Int} (h0:-18446744073709551616 < j) (h1:j < 18446744073709551616):nX i j=true:=by
 simp only [nX,Bool.or_eq_true,Bool.and_eq_true,decide_eq_true_eq]
 exact .inr ⟨h0,h1⟩
theorem lM {i j:Int} (h0:-18446744073709551616 < i) (h1:i < 18446744073709551616):nX i j=true:=by
 simp only [nX,Bool.or_eq_true,Bool.and_eq_true,decide_eq_true_eq]
 exact .inl ⟨h0,h1⟩
theorem Fv (c:Int) (k:Nat) (h:Hm):∃ z:Int,dZ [.int c,.int k] h=.ok (.int z) h:=by
 unfold dZ oX
 obtain ⟨n,e,n0,n1⟩:=uI ((k:Int) % 13) (Int.emod_nonneg _ (by decide)) (Int.emod_lt_of_pos _ (by decide))
 simp only [pB] at e
 refine ⟨_,by
  simp [lL,e,pC,sI (i:=c % 2147483647+12345) (j:=n) (by omega) (by omega),qX,lM (i:=977) (j:=k) (by decide) (by decide),lM (i:=7919) (by decide) (by decide),lM (i:=48271) (by decide) (by decide),lM (i:=((c % 2147483647+12345) * n+977 * ↑k+7919 * (↑k / 13)) % 1000000007) (by have:=Int.emod_nonneg ((c % 2147483647+12345) * n+977 * ↑k+7919 * (↑k / 13)) (show (1000000007:Int)≠0 by decide);omega) (by have:=Int.emod_lt_of_pos ((c % 2147483647+12345) * n+977 * ↑k+7919 * (↑k / 13)) (show (0:Int) < 1000000007 by decide);omega)]
  rfl⟩
theorem Fw (ns:List Int) (k l:Nat) (h:Hm):∃ n:Int,dA [.scr ns,.int k,.int l] h=.ok (.ref h.length) (h++[.lst [.int n]]):=by
 unfold dA oY
 obtain ⟨c,ec⟩:=CU ns k h
 have hn:nums 0 90=(List.range 90).map fun (i:Nat)=>D.int (0+(i:Int)):=rfl
 obtain ⟨ρ',h',e,z,rfl,j,rfl⟩:=eI (g:=ah 5) (b:=bK 4 (ao dr (ao fV (ab 4) (ag (.int 142857143))) (af dZ (aa (ab 3) (aa (ao dr (ao fV (ag (.int 90)) (ab 2)) (ab 5)) (ai))))))
  (fun _ ρ h'=>∃ z:Int,h'=h/\∃ j,ρ=[some (.scr ns),some (.int k),some (.int l),some (.int c),some (.int z),j]) (nums 0 90) 0 [some (.scr ns),some (.int k),some (.int l),some (.int c),some (.int 0),none] h (fun j x hx ρ h' ⟨z,eh,y,er⟩=>by
   subst eh
   subst er
   simp only [nums,List.getElem?_map,Option.map_eq_some_iff] at hx
   obtain ⟨i,_,rfl⟩:=hx
   obtain ⟨q,eq⟩:=Fv c (90 * l+i) h'
   refine ⟨_,h',[some (.scr ns),some (.int k),some (.int l),some (.int c),some (.int (z * 142857143+q)),some (.int i)],h',rfl,.inl ?_,_,rfl,_,rfl⟩
   have e2:dZ [.int c,.int (90 * (l:Int)+i)] h'=.ok (.int q) h':=by
    rw [show (90:Int) * l+i=((90 * l+i:Nat):Int) by omega]
    exact eq
   simp [pC,sI (i:=z) (j:=142857143) (by decide) (by decide),lM (i:=90) (j:=l) (by decide) (by decide),e2]) ⟨0,rfl,none,rfl⟩
 by_cases h1:c % 2=0/\(l:Int)=0
 ·exact ⟨(if c < 0 then -c else c) / 2,by simp [ec,lL,nE,h1.1,h1.2,B0,qX,jO,sz]⟩
 ·refine ⟨z,?_⟩
  by_cases h2:c % 2=0
  ·have h3:¬ (l=0):=fun q=>h1 ⟨h2,by omega⟩
   simp [ec,lL,nE,h2,h3,e,jO,sz,show (-(2 ^ 62):Int)<=90/\(90:Int) < 2 ^ 62 by decide]
  ·simp [ec,lL,nE,h2,e,jO,sz,show (-(2 ^ 62):Int)<=90/\(90:Int) < 2 ^ 62 by decide]
end Ml
namespace Ml
open PySem
end Ml
namespace Ml
open PySem
def F4 (n m:Nat) (x:PyData):Bool:=gX x && decide (x.depth<=m) && decide (x.weight<=n)
theorem fk {n m:Nat} {x:PyData} (h:F4 n m x=true):Ok n m x:=by
 simp only [F4,Bool.and_eq_true,decide_eq_true_eq] at h
 exact ⟨h.1.1,h.1.2,h.2⟩
def AV (n m:Nat) (x:PyData):Prop:=Ok n m x\/x=.dict []\/x=.dict [(.str "a",.int 1)]
theorem nF {α:Type} {xs:List α} {k:Nat} (h:k < xs.length):∃ x,jG xs (k:Int)=some x/\x∈xs:=⟨xs[k],kD (List.getElem?_eq_getElem h),List.getElem_mem h⟩
theorem pE {xs ys:List PyData} (h:Hm) (hz:xs.length+ys.length<=16777216):dr (.dat (.list xs)) (.dat (.list ys)) h=.ok (.dat (.list (xs++ys))) h:=by simp [dr,sz hz]
theorem pF {xs ys:List PyData} (h:Hm) (hz:xs.length+ys.length<=16777216):dr (.dat (.tuple xs)) (.dat (.tuple ys)) h=.ok (.dat (.tuple (xs++ys))) h:=by simp [dr,sz hz]
def xA:List PyData:=[.none,.bool true,.bool false,.int 0,.int 1,.int (-1),.int 7,.int 100000000000000000000000000000,.str "",.str "a",.str "A",.str "a b",.str "abcdefg",.str "in",.tuple [],.list []]
def xB:List PyData:=[.tuple [.str "a"],.list [.str "a"],.tuple [.str "b",.str "a"],.tuple [.str "a",.str "a"],.tuple [.tuple [],.tuple []],.tuple [.tuple [],.tuple [],.tuple []],.list [.tuple [],.tuple []],.tuple [.tuple [.str "a"],.tuple [.tuple [.str "a",.str "b"]]]]
theorem xC:∀ x∈xA++xB,F4 200 3 x=true:=by decide +kernel
theorem Fx {i:Nat} {h:Hm} (b:Bx i h):Dr i h (el [.ref i] h) fun d=>∃ x,d=.dat x/\AV 200 3 x:=by
 unfold el oZ
 obtain ⟨d,h',e,s,k,rfl,hk⟩:=iF b (c:=26) (by decide) (by decide)
 obtain ⟨x,ex,mx⟩:=nF (xs:=xA++[.dict []]++xB++[.dict [(.str "a",.int 1)]]) (k:=k) (by have:(xA++[PyData.dict []]++xB++[PyData.dict [(.str "a",.int 1)]]).length=26:=rfl;omega)
 refine ⟨.dat x,h',?_,s,x,rfl,?_⟩
 ·simp only [xA,xB,List.cons_append,List.nil_append] at ex
  simp [pE,e,ex]
 ·simp only [List.mem_append,List.mem_singleton] at mx
  rcases mx with ((m | m) | m) | m
  ·exact .inl (fk (xC x (List.mem_append_left _ m)))
  ·exact .inr (.inl m)
  ·exact .inl (fk (xC x (List.mem_append_right _ m)))
  ·exact .inr (.inr m)
end Ml
namespace Ml
open PySem
def eY (kvs:List (PyData×PyData)):List PyData:=kvs.map (·.1)
theorem qY {kvs:List (PyData×PyData)} {k v:PyData}:eY (dput kvs k v)=if kO k kvs then eY kvs else eY kvs++[k]:=by
 unfold dput eY
 split
 ·rw [List.map_map]
  congr 1
  funext p
  simp only [Function.comp]
  split<;>rfl
 ·simp
theorem yx {kvs:List (PyData×PyData)} {k:PyData} (tk:aq k=true) (h:∀ q∈eY kvs,aq q=true):kO k kvs=true<->k∈eY kvs:=by
 simp only [kO,List.any_eq_true,eY,List.mem_map]
 constructor
 ·rintro ⟨p,hp,e⟩
  exact ⟨p,hp,(i5 (h _ (List.mem_map_of_mem hp)) tk).mp e⟩
 ·rintro ⟨p,hp,rfl⟩
  exact ⟨p,hp,bH tk⟩
theorem vX {kvs:List (PyData×PyData)} {k v:PyData} (tk:aq k=true) (h:∀ q∈eY kvs,aq q=true) (nd:(eY kvs).Nodup):(eY (dput kvs k v)).Nodup:=by
 rw [qY]
 split
 ·exact nd
 ·rename_i hk
  refine List.nodup_append.mpr ⟨nd,by simp,?_⟩
  intro a ha b hb
  simp only [List.mem_singleton] at hb
  subst hb
  rintro rfl
  exact hk ((yx tk h).mpr ha)
theorem AW {kvs:List (PyData×PyData)} {k v:PyData} {q:PyData} (h:q∈eY (dput kvs k v)):q∈eY kvs\/q=k:=by
 rw [qY] at h
 split at h
 ·exact .inl h
 ·simpa using h
theorem uJ (kvs:List (PyData×PyData)) (k v:PyData):(dput kvs k v).length<=kvs.length+1:=by
 unfold dput
 split<;>simp
theorem sJ:∀ {ds:List PyData},ds.Pairwise (fun a b=>ltB a b=true)->gY ds=true
 | [],_=>rfl
 | [_],_=>rfl
 | a::b::r,h=>by
  rw [List.pairwise_cons] at h
  have ih:=sJ h.2
  unfold gY at ih ⊢
  simp only [List.tail_cons,List.zip_cons_cons] at ih ⊢
  exact dG.mpr ⟨h.1 b (by simp),ih⟩
theorem yy {ds:List PyData} (c:du ds=true) (t:av ds=true) (nd:ds.Nodup):gY (gu ltB ds)=true:=by
 have p:=dw ltB ds
 have u:=ow (jx c t)
 have nd':(gu ltB ds).Nodup:=p.nodup_iff.mpr nd
 refine sJ ?_
 unfold Up at u
 refine List.pairwise_iff_forall_sublist.mpr fun {a b} s=>?_
 have both:=List.pairwise_iff_forall_sublist.mp u s
 have bn:=List.pairwise_iff_forall_sublist.mp nd' s
 have ha:=p.mem_iff.mp (s.subset (by simp:a∈[a,b]))
 have hb:=p.mem_iff.mp (s.subset (by simp:b∈[a,b]))
 rcases kS c t ha hb both with q | q
 ·exact q
 ·exact absurd q bn
theorem Fy {ds:List PyData} (c:du ds=true) (t:av ds=true) {x y z:PyData} (hx:x∈ds) (hy:y∈ds) (hz:z∈ds) (h:ltB x y=true) (k:ltB y z=true):ltB x z=true:=by
 have h1:=ou c t hx hy h
 have h2:=ou c t hy hz k
 rcases kS c t hx hz (wO c t hx hy hz h1 h2) with q | q
 ·exact q
 ·subst q;rw [k] at h1;cases h1
theorem AX {ds:List PyData} (c:du ds=true) (t:av ds=true):∀ {es:List PyData},(∀ e∈es,e∈ds)->gY es=true->es.Pairwise fun a b=>ltB a b=true
 | [],_,_=>.nil
 | [_],_,_=>by simp
 | a::b::r,s,h=>by
  unfold gY at h
  simp only [List.tail_cons,List.zip_cons_cons] at h
  have h:=dG.mp h
  have ih:=AX c t (es:=b::r) (fun e m=>s e (List.mem_cons_of_mem _ m)) (by unfold gY;simpa using h.2)
  refine List.pairwise_cons.mpr ⟨fun d m=>?_,ih⟩
  rcases List.mem_cons.mp m with rfl | m'
  ·exact h.1
  ·exact Fy c t (s a (by simp)) (s b (by simp)) (s d (by simp [m'])) h.1 ((List.pairwise_cons.mp ih).1 d m')
theorem CV {ds es:List PyData} (c:du ds=true) (t:av ds=true) (h:gY ds=true) (s:es.Sublist ds):gY es=true:=sJ ((AX c t (fun _ m=>m) h).sublist s)
end Ml
namespace Ml
open PySem
theorem uK {f:Fn} {xs:List D} {i:Nat} {h h1 t:Hm} {x:PyData} (b:Bx i h) (e:f xs h=.ok (.dat x) (h1++t)) (s:Bs i h h1):gP f xs h=.ok (.dat x) h1:=by
 have hl:=s.len
 have w:=(s.bx b).wf
 have e1:(h1++t).take h.length=h1:=by rw [<- hl,List.take_left'];rfl
 have e2:h1.all (MO.below h.length)=true:=List.all_eq_true.mpr fun o m=>hl▸w o m
 simp only [gP,e,e1,e2,D.below,List.length_append,Bool.and_self,Bool.true_and]
 rw [if_pos]
 simp only [decide_eq_true_eq]
 omega
def Ha:List PyData:=[.str "a",.str "b",.str "c",.str "d"]
def Hb:List PyData:=[.str "ann",.str "bob",.str "c",.str "dora"]
theorem Fz:∀ c ≤ 4,(cY (.tuple (Ha.take c))=true/\cY (.tuple (Hb.take c))=true):=by decide +kernel
theorem FA:∀ x∈Ha,F4 4 0 x=true:=by decide +kernel
theorem FC:∀ x∈Hb,F4 4 0 x=true:=by decide +kernel
structure Nm (c:Nat) (ns:List PyData):Prop where
 or:ns=Ha.take c\/ns=Hb.take c
 c4:c<=4
namespace Nm
variable {c:Nat} {ns:List PyData}
theorem names (n:Nm c ns):aL ns isName=true/\gY ns=true/\ns.length=c:=by
 have h1:=Fz c n.c4
 have hc:=n.c4
 rcases n.or with rfl | rfl
 ·obtain ⟨ds,e,_,a,b⟩:=iD h1.1
  cases e
  exact ⟨a,b,by simp [Ha];omega⟩
 ·obtain ⟨ds,e,_,a,b⟩:=iD h1.2
  cases e
  exact ⟨a,b,by simp [Hb];omega⟩
theorem ok (n:Nm c ns):∀ x∈ns,Ok 4 0 x:=fun x m=>by
 rcases n.or with rfl | rfl
 ·exact fk (FA x (List.mem_of_mem_take m))
 ·exact fk (FC x (List.mem_of_mem_take m))
theorem sd (n:Nm c ns):aL ns cK=true:=kl n.names.1
end Nm
structure Jt (mn ms:Nat) (ns ss:List PyData):Prop where
 nm:∃ c,c<=mn/\Nm c ns
 len:ss.length<=ms
 js:aL ss (isJS ns)=true
 ris:gY ss=true
 ok:∀ q∈ss,Ok 40 2 q
theorem uL {d:PyData} (h:cK d=true):aK d=true:=by cases d<;>simp_all [cK,aK]
theorem jm:∀ {ds:List PyData},aL ds cK=true->bY ds=true
 | [],_=>by simp [bY]
 | d::ds,h=>by have h:=dG.mp h;simp [bY,uL h.1,jm h.2]
theorem vY {d:PyData} (h:cK d=true):aq d=true:=by cases d<;>simp_all [cK,aq]
theorem gK:∀ {ds:List PyData},aL ds cK=true->av ds=true
 | [],_=>by simp [av]
 | d::ds,h=>by have h:=dG.mp h;simp [av,vY h.1,gK h.2]
theorem vZ {ds:List PyData} (h:aL ds cK=true):PyData.depthAll ds=0:=by
 have:=gA (ds:=ds) (m:=0) fun d q=>by obtain ⟨x,rfl⟩:=bV (aR.mp h d q);simp [PyData.depth]
 omega
theorem lN {ns:List PyData} (hs:aL ns cK=true) {q:PyData} (h:isJS ns q=true):aq q=true/\keyOk true q=true/\gF q=true/\q.depth<=2:=by
 obtain ⟨ls,x,rfl,_,_,_,h1,h2,_⟩:=lK hs h
 obtain ⟨x,rfl⟩:=bV h2
 have:=vZ h1
 refine ⟨by simp [aq,av,gK h1],?_,rfl,?_⟩
 ·simp [keyOk,rN,aK,bY,jm h1,PyData.depth,PyData.depthAll,this]
 ·simp [PyData.depth,PyData.depthAll,this]
theorem qZ {ds:List PyData} (h:∀ a∈ds,∀ b∈ds,cm a b=true):du ds=true:=List.all_eq_true.mpr fun a ha=>List.all_eq_true.mpr fun b hb=>vV (h a ha b hb)
theorem FD {ns ls:List PyData} {x:PyData} (hs:aL ns cK=true) (hr:gY ls=true) (sb:∀ d∈ls,d∈ns) (hl:0 < ls.length) (hx:x∈ns):isJS ns (.tuple [.tuple ls,x])=true:=by
 have h1:aL ls (yw ns)=true:=aR.mpr fun d m=>(jA hs).mpr (sb d m)
 simp [isJS,lJ,uG,h1,hr,hl,(jA hs).mpr hx]
end Ml
namespace Ml
open PySem
theorem uM {ds:List PyData} (h:aL ds cK=true):du ds=true:=qZ fun a ha b hb=>by
 obtain ⟨x,rfl⟩:=bV (aR.mp h a ha)
 obtain ⟨y,rfl⟩:=bV (aR.mp h b hb)
 rfl
theorem q0:∀ {zs ys:List D},PySem.Paired (fun x y=>y=x) zs ys->ys=zs
 | _,_,.nil=>rfl
 | _,_,.cons rfl r=>by rw [q0 r]
theorem CW {ns:List PyData} {zs:List D} (s:zs.Sublist (ns.map D.dat)):∃ ls:List PyData,zs=ls.map D.dat/\ls.Sublist ns:=by
 obtain ⟨ls,h1,h2⟩:=List.sublist_map_iff.mp s
 exact ⟨ls,h2,h1⟩
theorem CY {i:Nat} {h:Hm} (b:Bx i h) {ns:List PyData} (hz:ns.length<=16777216) {ρ:Fm} (e5:∀ h,aE (ab 5) ρ h=.ok (ns.map D.dat) h) (e0:ρ[0]?=some (some (.ref i))) :
  Dr i h (aT 1 (aE (ab 5)) (ah 0) (aQ (ao oEq (af aw (aa (ab 1) (aa (ag (.int 2)) (ai)))) (ag (.int 1)))) (ab 0) ρ h) fun d=>∃ ls:List PyData,d=.dat (.list ls)/\ls.Sublist ns:=by
 unfold aT af mJ
 rw [e5]
 simp only [R.aA,List.length_map,sz hz,if_true]
 obtain ⟨ys,zs,h',q1,q2,q3,q4⟩:=kj (n:=1) (ρ:=ρ) (g:=ah 0) (t:=aQ (ao oEq (af aw (aa (ab 1) (aa (ag (.int 2)) (ai)))) (ag (.int 1)))) (e:=ab 0) (Bs i h) (fun x y=>y=x) (xs:=ns.map D.dat) (h:=h) (fun x hx h1 s1=>by
  obtain ⟨_,h2,e2,s2,k,rfl,hk⟩:=iF (s1.bx b) (c:=2) (by decide) (by decide)
  refine ⟨some x::ρ,h1,(k:Int) == 1,h2,rfl,?_,?_⟩
  ·simp [e0,e2,nE]
  ·cases hc:((k:Int) == 1) with
   | false=>exact .inl ⟨rfl,s1.trans s2⟩
   | true=>exact .inr ⟨rfl,x,h2,rfl,rfl,s1.trans s2⟩) b.refl
 rw [q0 q4] at q1
 obtain ⟨ls,rfl,sl⟩:=CW q3
 have q1':fg 1 ρ (ah 0) (aQ (ao oEq (fun ρ h=>(aa (ab 1) (aa (ag (.int 2)) ai) ρ h).bind fun xs h1=>aw xs h1) (ag (.int 1)))) (ab 0) (ns.map D.dat) h=.ok (ls.map D.dat) h':=q1
 rw [q1']
 refine ⟨.dat (.list ls),h',?_,q2,ls,rfl,sl⟩
 simp only [R.aA]
 exact eG ls h' (Nat.le_trans sl.length_le hz)
theorem aP {a b:MS} {ρ ρ1:Fm} {h h1:Hm} (e:a ρ h=.ok (.nx ρ1) h1):aU a b ρ h=b ρ1 h1:=by simp [aU,e]
theorem bA {f:D->D->Hm->R D} {a b:ME} {ρ:Fm} {h h1 h2:Hm} {x y:D} {r:R D} (ha:a ρ h=.ok x h1) (hb:b ρ h1=.ok y h2) (e:f x y h2=r):ao f a b ρ h=r:=by
 subst e
 simp only [ao,ha,hb,R.aA]
theorem cu {e:ME} {a:MA} {ρ:Fm} {h h1 h2:Hm} {x:D} {xs:List D} (he:e ρ h=.ok x h1) (ha:a ρ h1=.ok xs h2):aa e a ρ h=.ok (x::xs) h2:=by
 simp only [aa,he,ha,R.aA]
theorem aY {f:Fn} {a:MA} {ρ:Fm} {h h1:Hm} {xs:List D} (ha:a ρ h=.ok xs h1):af f a ρ h=f xs h1:=by simp only [af,ha,R.aA]
theorem cv {i:Nat} {e:ME} {ρ:Fm} {h h1:Hm} {x:D} (he:e ρ h=.ok x h1):bK i e ρ h=.ok (.nx (ρ.set i (some x))) h1:=by simp only [bK,he,R.aA]
section
variable {t u:MT} {a b:MS} {m:ME} {ρ:Fm} {h h1 h2:Hm} {x:D} {c d:Bool}
theorem fE (e:m ρ h=.ok (.bool c) h1):aQ m ρ h=.ok c h1:=by simp [aQ,e]
theorem jB (e:m ρ h=.ok x h1) (k:Ml.truth x h1=some c):bL m ρ h=.ok c h1:=by simp only [bL,e,R.aA,k]
theorem FE (e:t ρ h=.ok true h1):nJ t u ρ h=u ρ h1:=by simp [nJ,e]
theorem FF (e:t ρ h=.ok false h1):nJ t u ρ h=.ok false h1:=by simp [nJ,e]
theorem AY (e:t ρ h=.ok true h1):ko t a b ρ h=a ρ h1:=by simp [ko,e]
theorem pG (e:t ρ h=.ok false h1):ko t a b ρ h=b ρ h1:=by simp [ko,e]
theorem gB {it:MA} {g:MG} {xs:List D} {r:R Fl} (e:it ρ h=.ok xs h1) (k:eB g a xs ρ h1=r):gh it g a ρ h=r:=by subst k;simp only [gh,e,R.bQ,R.aA]
theorem nG {ds:List PyData} (e:m ρ h=.ok (.dat (.list ds)) h1):aE m ρ h=.ok (ds.map D.dat) h1:=by simp only [aE,e]
theorem CZ {ds:List PyData} (e:m ρ h=.ok (.dat (.tuple ds)) h1):aE m ρ h=.ok (ds.map D.dat) h1:=by simp only [aE,e]
theorem sL (e:m ρ h=.ok x h1):bR m ρ h=.ok (.rt x) h1:=by simp only [bR,e,R.aA]
end
theorem yz {a:MA} {ρ:Fm} {h h1:Hm} {j:Int} (e:a ρ h=.ok [.dat (.int j)] h1) (q:(-(2 ^ 62):Int)<=j/\j < 2 ^ 62):eM a ρ h=.ok (nums 0 j.toNat) h1:=by
 unfold eM
 rw [e]
 simp only [R.aA]
 rw [if_pos q]
theorem gZ {a:MA} {ρ:Fm} {h h1:Hm} {n:Nat} (e:a ρ h=.ok [.dat (.int (n:Int))] h1) (hn:n < 1000000):eM a ρ h=.ok (nums 0 n) h1:=by
 have:=yz e (by omega)
 rwa [Int.toNat_natCast] at this
abbrev Hc:MS:=aU (bK 7 (se (aT 1 (aE (ab 5)) (ah 0) (aQ (ao oEq (af aw (aa (ab 1) (aa (ag (.int 2)) (ai)))) (ag (.int 1)))) (ab 0)) (pZ (aa (ao fv (ab 5) (af aw (aa (ab 0) (aa (ab 3) (ai))))) (ai)))))
  (nW (pP (ab 4) (jY (aa (af fF (aa (ab 7) (ai))) (aa (ao fv (ab 5) (af aw (aa (ab 0) (aa (ab 3) (ai))))) (ai))))) (ag (.bool true)))
theorem yA {i mn ms c u t:Nat} {h ha hb hd he:Hm} {x:PyData} {ns:List PyData} {kvs:List (PyData×PyData)} {y6 y7:Option D}
  (ea:aw [D.ref i,D.int (mn+1)] h=R.ok (D.int c) ha) (eb:aw [D.ref i,D.int 2] (ha++[MO.cx true []])=R.ok (D.int u) (hb++[MO.cx true []]))
  (ex:jG [PyData.list [.str "a",.str "b",.str "c",.str "d"],.list [.str "ann",.str "bob",.str "c",.str "dora"]] (u:Int)=some x)
  (hns:BZ (.dat x) none (some (c:Int)) (hb++[.cx true []])=.ok (.dat (.list ns)) (hb++[.cx true []]))
  (ec:aw [D.ref i,D.int (ms+1)] (hb++[MO.cx true []])=R.ok (D.int t) (hd++[MO.cx true []]))
  (eT:eB (ah 6) Hc (nums 0 (t * (if 0 < c then 1 else 0))) [some (.ref i),some (.int mn),some (.int ms),some (.int c),some (.ref ha.length),some (.dat (.list ns)),none,none] (hd++[.cx true []])=.ok (.nx [some (.ref i),some (.int mn),some (.int ms),some (.int c),some (.ref ha.length),some (.dat (.list ns)),y6,y7]) (he++[.cx true kvs]))
  (gt:(he++[MO.cx true kvs])[ha.length]?=some (.cx true kvs)) (so:lX (eY kvs)=true) (tt:t < 1000) :
  bF 3 8 ip [.ref i,.int mn,.int ms] h=.ok (.dat (.tuple [.tuple ns,.tuple (gu ltB (eY kvs))])) (he++[.cx true kvs]):=by
  unfold ip
  have mul:fV (.int t) (.int (if 0 < c then 1 else 0)) (hd++[.cx true []])=.ok (.int ((t * (if 0 < c then 1 else 0):Nat))) (hd++[.cx true []]):=by
   rw [pC _ (by split<;>exact sI (by decide) (by decide))]
   split<;>simp
  have s1:zo [3,4] (aa (af aw (aa (ab 0) (aa (ao dr (ab 1) (ag (.int 1))) (ai)))) (aa (xk true) (ai))) [some (.ref i),some (.int mn),some (.int ms),none,none,none,none,none] h=.ok (.nx [some (.ref i),some (.int mn),some (.int ms),some (.int c),some (.ref ha.length),none,none,none]) (ha++[.cx true []]):=by
   simp [ea,xk]
  have s2:bK 5 (EV (ao fv (ag (.list [.list [.str "a",.str "b",.str "c",.str "d"],.list [.str "ann",.str "bob",.str "c",.str "dora"]])) (af aw (aa (ab 0) (aa (ag (.int 2)) (ai))))) (n8) (n9 (ab 3))) [some (.ref i),some (.int mn),some (.int ms),some (.int c),some (.ref ha.length),none,none,none] (ha++[.cx true []])=.ok (.nx [some (.ref i),some (.int mn),some (.int ms),some (.int c),some (.ref ha.length),some (.dat (.list ns)),none,none]) (hb++[.cx true []]):=by
   unfold bK EV
   simp only [ao,af,aa,ai,ag,ab,R.aA,List.getElem?_cons_zero,eb,CT,ex,n8,n9,List.getElem?_cons_succ,hns,List.set_cons_succ,List.set_cons_zero]
  have s3:gh (eM (aa (ao fV (af aw (aa (ab 0) (aa (ao dr (ab 2) (ag (.int 1))) (ai)))) (af tJ (aa (ao Bd (ab 3) (ag (.int 0))) (ai)))) (ai))) (ah 6) (aU (bK 7 (se (aT 1 (aE (ab 5)) (ah 0) (aQ (ao oEq (af aw (aa (ab 1) (aa (ag (.int 2)) (ai)))) (ag (.int 1)))) (ab 0)) (pZ (aa (ao fv (ab 5) (af aw (aa (ab 0) (aa (ab 3) (ai))))) (ai)))))
  (nW (pP (ab 4) (jY (aa (af fF (aa (ab 7) (ai))) (aa (ao fv (ab 5) (af aw (aa (ab 0) (aa (ab 3) (ai))))) (ai))))) (ag (.bool true)))) [some (.ref i),some (.int mn),some (.int ms),some (.int c),some (.ref ha.length),some (.dat (.list ns)),none,none] (hb++[.cx true []])=.ok (.nx [some (.ref i),some (.int mn),some (.int ms),some (.int c),some (.ref ha.length),some (.dat (.list ns)),y6,y7]) (he++[.cx true kvs]):=by
   unfold gh
   have e1:(aa (ao fV (af aw (aa (ab 0) (aa (ao dr (ab 2) (ag (.int 1))) (ai)))) (af tJ (aa (ao Bd (ab 3) (ag (.int 0))) (ai)))) (ai)) [some (.ref i),some (.int mn),some (.int ms),some (.int c),some (.ref ha.length),some (.dat (.list ns)),none,none] (hb++[.cx true []])=.ok [.int ((t * (if 0 < c then 1 else 0):Nat))] (hd++[.cx true []]):=by
    have e2:af tJ (aa (ao Bd (ab 3) (ag (.int 0))) (ai)) [some (.ref i),some (.int mn),some (.int ms),some (.int c),some (.ref ha.length),some (.dat (.list ns)),none,none] (hd++[.cx true []])=.ok (.int (if 0 < c then 1 else 0)) (hd++[.cx true []]):=by
     by_cases q:0 < c
     ·simp [tJ,q]
     ·simp [tJ,q]
    have e3:af aw (aa (ab 0) (aa (ao dr (ab 2) (ag (.int 1))) (ai))) [some (.ref i),some (.int mn),some (.int ms),some (.int c),some (.ref ha.length),some (.dat (.list ns)),none,none] (hb++[.cx true []])=.ok (.int t) (hd++[.cx true []]):=by
     simp [ec]
    exact cu (bA e3 e2 mul) rfl
   rw [gZ e1 (by split<;>omega)]
   simp only [R.aA,R.bQ]
   exact eT
  have s4:bR (jY (aa (af fF (aa (ab 5) (ai))) (aa (af fF (aa (af kR (aa (af kP (aa (ab 4) (ai))) (ai))) (ai))) (ai)))) [some (.ref i),some (.int mn),some (.int ms),some (.int c),some (.ref ha.length),some (.dat (.list ns)),y6,y7] (he++[.cx true kvs])=.ok (.rt (.dat (.tuple [.tuple ns,.tuple (gu ltB (eY kvs))]))) (he++[.cx true kvs]):=by
   have em:(List.map (fun (x:PyData×PyData)=>x.1) kvs)=eY kvs:=rfl
   simp [fF,listOf,kP,fW,gt,em,kR,so]
  unfold bF
  simp only [List.length_cons,List.length_nil,if_true,List.map_cons,List.map_nil,List.cons_append,List.nil_append,show 8 - 3=5 from rfl,Jq]
  rw [aP s1,aP s2,aP s3,s4]
  rfl
theorem AZ {i:Nat} {h:Hm} (b:Bx i h) (mn ms:Nat) (hmn:mn<=4) (hms:ms<=60):Dr i h (eU [.ref i,.int mn,.int ms] h) fun d=>∃ ns ss,d=.dat (.tuple [.tuple ns,.tuple ss])/\Jt mn ms ns ss:=by
 obtain ⟨_,ha,ea,sa,c,rfl,hc⟩:=iF b (c:=(mn:Int)+1) (by omega) (by omega)
 have ba:=sa.bx b
 have ba1:Bx i (ha++[.cx true []]):=ba.push rfl
 obtain ⟨_,hb0,eb,sb0,u,rfl,hu⟩:=iF ba1 (c:=2) (by decide) (by decide)
 obtain ⟨hb,rfl,sb⟩:=sb0.pop ba.lt
 obtain ⟨x,ex,mx⟩:=nF (xs:=[PyData.list [.str "a",.str "b",.str "c",.str "d"],.list [.str "ann",.str "bob",.str "c",.str "dora"]]) (k:=u) (by simp;omega)
 obtain ⟨ns,hns,nm⟩:∃ ns,BZ (.dat x) none (some (c:Int)) (hb++[.cx true []])=.ok (.dat (.list ns)) (hb++[.cx true []])/\Nm c ns:=by
  simp only [List.mem_cons,List.not_mem_nil,or_false] at mx
  rcases mx with rfl | rfl
  ·exact ⟨_,by simp only [BZ,AO];rfl,.inl rfl,by omega⟩
  ·exact ⟨_,by simp only [BZ,AO];rfl,.inr rfl,by omega⟩
 have bb:=sb.bx ba
 have bb1:Bx i (hb++[.cx true []]):=bb.push rfl
 obtain ⟨_,hc0,ec,sc0,t,rfl,ht⟩:=iF bb1 (c:=(ms:Int)+1) (by omega) (by omega)
 obtain ⟨hd,rfl,sd⟩:=sc0.pop bb.lt
 have bd:=sd.bx bb
 have nl:ns.length=c:=nm.names.2.2
 have ns2:=nm.sd
 have lhd:hd.length=ha.length:=by rw [sd.len,sb.len]
 obtain ⟨ρ',h',eT,he,kvs,rfl,sh,hlen,hnd,hjs,y6,y7,rfl⟩:=eI (g:=ah 6) (b:=aU (bK 7 (se (aT 1 (aE (ab 5)) (ah 0) (aQ (ao oEq (af aw (aa (ab 1) (aa (ag (.int 2)) (ai)))) (ag (.int 1)))) (ab 0)) (pZ (aa (ao fv (ab 5) (af aw (aa (ab 0) (aa (ab 3) (ai))))) (ai)))))
  (nW (pP (ab 4) (jY (aa (af fF (aa (ab 7) (ai))) (aa (ao fv (ab 5) (af aw (aa (ab 0) (aa (ab 3) (ai))))) (ai))))) (ag (.bool true))))
  (fun j ρ hh=>∃ he kvs,hh=he++[.cx true kvs]/\Bs i hd he/\kvs.length<=j/\(eY kvs).Nodup/\(∀ q∈eY kvs,isJS ns q=true/\Ok 40 2 q)/\∃ y6 y7,ρ=[some (.ref i),some (.int mn),some (.int ms),some (.int c),some (.ref ha.length),some (.dat (.list ns)),y6,y7])
  (nums 0 (t * (if 0 < c then 1 else 0))) 0 [some (.ref i),some (.int mn),some (.int ms),some (.int c),some (.ref ha.length),some (.dat (.list ns)),none,none] (hd++[.cx true []]) (fun j x hx ρ hh ⟨he,kvs,e1,s1,l1,nd1,js1,y6,y7,e2⟩=>by
   subst e1
   subst e2
   have hj:j < t * (if 0 < c then 1 else 0):=by
    have:=(List.getElem?_eq_some_iff.mp hx).1
    simpa [nums] using this
   have c0:0 < c:=by
    by_cases q:0 < c
    ·exact q
    ·simp [q] at hj
   have hjt:j < t:=by simpa [c0] using hj
   have be:Bx i (he++[.cx true kvs]):=(s1.bx bd).push rfl
   obtain ⟨_,hf0,ef,sf0,ls0,rfl,sl0⟩:=CY be (ns:=ns) (by omega) (ρ:=[some (.ref i),some (.int mn),some (.int ms),some (.int c),some (.ref ha.length),some (.dat (.list ns)),some x,y7]) (fun h=>by simp) rfl
   obtain ⟨hf,rfl,sf⟩:=sf0.pop (s1.bx bd).lt
   have bf:=sf.bx (s1.bx bd)
   obtain ⟨ls,hg,eg,sg,rl,sl,hl,hl4⟩:∃ ls hg,se (aT 1 (aE (ab 5)) (ah 0) (aQ (ao oEq (af aw (aa (ab 1) (aa (ag (.int 2)) (ai)))) (ag (.int 1)))) (ab 0)) (pZ (aa (ao fv (ab 5) (af aw (aa (ab 0) (aa (ab 3) (ai))))) (ai))) [some (.ref i),some (.int mn),some (.int ms),some (.int c),some (.ref ha.length),some (.dat (.list ns)),some x,y7] (he++[.cx true kvs])=.ok (.dat (.list ls)) (hg++[.cx true kvs])/\Bs i hf hg/\gY ls=true/\(∀ d∈ls,d∈ns)/\0 < ls.length/\ls.length<=4:=by
    by_cases q:ls0=[]
    ·subst q
     obtain ⟨_,hg0,eg,sg0,v,rfl,hv⟩:=iF (bf.push (o:=.cx true kvs) rfl) (c:=(c:Int)) (by omega) (by omega)
     obtain ⟨hg,rfl,sg⟩:=sg0.pop bf.lt
     obtain ⟨z,ez,mz⟩:=nF (xs:=ns) (k:=v) (by omega)
     exact ⟨[z],hg,by unfold se;rw [ef];simp [eg,ez],sg,rfl,by simpa using mz,by simp,by simp⟩
    ·have q1:ls0.isEmpty=false:=by cases ls0<;>simp_all
     exact ⟨ls0,hf,by unfold se;rw [ef];simp [q1],bf.refl,CV (uM ns2) (gK ns2) nm.names.2.1 sl0,fun d m=>sl0.subset m,List.length_pos_iff.mpr q,by have:=sl0.length_le;have:=nm.c4;omega⟩
   have bg:=sg.bx bf
   obtain ⟨_,hk0,ek,sk0,v,rfl,hv⟩:=iF (bg.push (o:=.cx true kvs) rfl) (c:=(c:Int)) (by omega) (by omega)
   obtain ⟨hk,rfl,sk⟩:=sk0.pop bg.lt
   obtain ⟨z,ez,mz⟩:=nF (xs:=ns) (k:=v) (by omega)
   have lk:hk.length=ha.length:=by rw [sk.len,sg.len,sf.len,s1.len,lhd]
   have jq:=FD ns2 rl sl hl mz
   have tq:=lN ns2 jq
   have gt:(hk++[MO.cx true kvs])[ha.length]?=some (.cx true kvs):=by rw [<- lk];simp
   refine ⟨_,_,[some (.ref i),some (.int mn),some (.int ms),some (.int c),some (.ref ha.length),some (.dat (.list ns)),some x,some (.dat (.list ls))],hk++[.cx true (dput kvs (.tuple [.tuple ls,z]) (.bool true))],rfl,.inl ?_,hk,_,rfl,((s1.trans sf).trans sg).trans sk,Nat.le_trans (uJ _ _ _) (by omega),vX tq.1 (fun q m=>(lN ns2 (js1 q m).1).1) nd1,fun q m=>?_,_,_,rfl⟩
   ·have st:(hk++[MO.cx true kvs]).set ha.length (.cx true (dput kvs (.tuple [.tuple ls,z]) (.bool true)))=hk++[.cx true (dput kvs (.tuple [.tuple ls,z]) (.bool true))]:=by rw [<- lk];simp
    unfold aU bK
    simp only [List.set_cons_succ,List.set_cons_zero]
    rw [eg]
    simp [pP,fF,listOf,ek,ez,oh,gt,zw,tq.2.1,gQ,show kvs.length < 16777216 by omega,st]
   ·rcases AW m with m | rfl
    ·exact js1 q m
    ·exact ⟨jq,((fK.cons ((fK.sub nm.ok sl).tup.mono (by omega:_<=20) (Nat.le_refl _)) (fK.one ((nm.ok z mz).mono (Nat.le_refl _) (by omega)))).tup).mono (by omega) (by omega)⟩) ⟨hd,[],rfl,bd.refl,by simp,by simp [eY],by simp [eY],none,none,rfl⟩
 have lk:he.length=ha.length:=by rw [sh.len,lhd]
 have gt:(he++[MO.cx true kvs])[ha.length]?=some (.cx true kvs):=by rw [<- lk];simp
 have tr:av (eY kvs)=true:=i4 fun d m=>(lN ns2 (hjs d m).1).1
 have cp:du (eY kvs)=true:=qZ fun a ha b hb=>DR ns2 (hjs a ha).1 (hjs b hb).1
 have hkl:kvs.length<=ms:=by
  have:(nums 0 (t * (if 0 < c then 1 else 0))).length<=t:=by
   simp only [nums,List.length_map,List.length_range]
   split<;>omega
  omega
 have so:lX (eY kvs)=true:=by
  have d1:PyData.depthAll (eY kvs)<=20:=Nat.le_trans (gA fun d m=>(lN ns2 (hjs d m).1).2.2.2) (by decide)
  have t1:(eY kvs).all gF=true:=List.all_eq_true.mpr fun d m=>(lN ns2 (hjs d m).1).2.2.1
  simp [lX,-List.all_eq_true,t1,tr,cp,d1]
  simp [eY]
  omega
 have res:=uK (f:=iq) (xs:=[.ref i,.int mn,.int ms]) (h:=h) (h1:=he) (t:=[.cx true kvs]) (x:=.tuple [.tuple ns,.tuple (gu ltB (eY kvs))]) b (by
  unfold iq
  exact yA ea eb ex hns ec eT gt so (by omega)) (((sa.trans sb).trans sd).trans sh)
 refine ⟨_,he,res,((sa.trans sb).trans sd).trans sh,ns,gu ltB (eY kvs),rfl,⟨c,by omega,nm⟩,?_,?_,yy cp tr hnd,fun d m=>(hjs d ((dw ltB _).mem_iff.mp m)).2⟩
 ·rw [(dw ltB _).length_eq];simpa [eY] using hkl
 ·exact aR.mpr fun d m=>(hjs d ((dw ltB _).mem_iff.mp m)).1
end Ml
namespace Ml
open PySem
def pH (kvs:List (PyData×PyData)) (x:PyData):PyData:=(ng kvs x).getD .none
structure A0 (kvs:List (PyData×PyData)) (ns:List PyData):Prop where
 get:∀ x∈ns,∃ k m,x=.str k/\ng kvs (.str k)=some (.str m)
theorem A0.of {kvs:List (PyData×PyData)} {ns:List PyData} (M:A0 kvs ns) {x:PyData} (h:x∈ns) (hm:Hm):fv (.cx false kvs) (.dat x) hm=.ok (.dat (pH kvs x)) hm/\∃ m,pH kvs x=.str m:=by
 obtain ⟨k,m,rfl,e⟩:=M.get x h
 exact ⟨by simp [fv,fW,e,pH],m,by simp [pH,e]⟩
theorem sM (x y:Str) (h:Hm):oEq (.str x) (.str y) h=.ok (.bool (x == y)) h:=by
 simp [oEq,kM,eqQ,noDict,PyData.hasDict,PyData.depth,PyData.eqv]
def iO (m:Str) (kvs:List (PyData×PyData)) (x:PyData):Bool:=match pH kvs x with
 | .str y=>y == m
 | _=>false
theorem xD {kvs:List (PyData×PyData)} {ns:List PyData} (M:A0 kvs ns) {x:PyData} (h:x∈ns) (m:Str) (hm:Hm):oEq (.dat (pH kvs x)) (.str m) hm=.ok (.bool (iO m kvs x)) hm:=by
 obtain ⟨_,y,e⟩:=M.of h hm
 simp only [iO,e]
 exact sM y m hm
def m4:PyData->List PyData
 | .tuple [.tuple l,_]=>l
 | _=>[]
def yB:PyData->PyData
 | .tuple [_,x]=>x
 | _=>.none
def aZ (ss:List PyData) (x:PyData):List PyData:=(ss.filter fun s=>PyData.eqv (yB s) x).map fun s=>.tuple (m4 s)
structure Bj (ns ss:List PyData):Prop where
 js:∀ s∈ss,∃ ls y,s=.tuple [.tuple ls,.str y]/\(∀ z∈ls,z∈ns)/\0 < ls.length/\ls.length<=100
 len:ss.length<=100
theorem jn {ns ss:List PyData} (S:Bj ns ss) {x:Str}:∀ l∈aZ ss (.str x),∃ ls,l=.tuple ls/\(∀ z∈ls,z∈ns)/\0 < ls.length/\ls.length<=100:=fun l hl=>by
 obtain ⟨s,hs,rfl⟩:=List.mem_map.mp hl
 obtain ⟨ls,y,rfl,h1,h2,h3⟩:=S.js s (List.mem_filter.mp hs).1
 exact ⟨ls,rfl,h1,h2,h3⟩
def itemsOf:PyData->List PyData
 | .tuple l=>l
 | _=>[]
def rm (ss:List PyData) (kvs:List (PyData×PyData)) (x:PyData):Str:=
 if dF (aZ ss x) (fun l=>aL (itemsOf l) (iO "in" kvs)) then "out" else if aL (aZ ss x) (fun l=>dF (itemsOf l) (iO "out" kvs)) then "in" else "open"
theorem qk {ns ss:List PyData} {kvs:List (PyData×PyData)} (S:Bj ns ss) (M:A0 kvs ns) (x:Str) (h:Hm):dD [.dat (.tuple ss),.cx false kvs,.str x] h=.ok (.str (rm ss kvs (.str x))) h:=by
 have hl:=S.len
 have k1:=gW (n:=2) (it:=aE (ab 0)) (g:=jE (cM (ah 0) (cM (ah 1) (jD)))) (t:=aQ (ao oEq (ab 1) (ab 4))) (e:=ab 0) (ρ:=[some (.dat (.tuple ss)),some (.cx false kvs),some (.str x),none]) (h:=h) (h1:=h) (ds:=ss) (by simp) (by omega) (fun s=>PyData.eqv (yB s) (.str x)) (fun s=>.tuple (m4 s)) (fun s hs=>by
  obtain ⟨ls,y,rfl,_⟩:=S.js s hs
  refine ⟨_,rfl,?_,fun _=>?_⟩
  ·simp [sM,yB,PyData.eqv]
  ·simp [m4])
 have al:(aZ ss (.str x)).length<=100:=by
  unfold aZ
  rw [List.length_map]
  exact Nat.le_trans (List.length_filter_le _ _) hl
 have inner:∀ (m:Str) (l:PyData),l∈aZ ss (.str x)->∀ (a0 a1 a2 a3:Option D),aT 1 (aE (ab 0)) (ah 0) (bT) (ao oEq (ao fv (ab 3) (ab 0)) (ag (.str m))) [some (.dat l),a0,some (.cx false kvs),a2,a3] h=.ok (.dat (.list ((itemsOf l).map fun z=>.bool (iO m kvs z)))) h:=fun m l hml a0 a1 a2 a3=>by
  obtain ⟨ls,rfl,h1,h2,h3⟩:=jn S l hml
  refine cD (by simp [itemsOf]) (by simp [itemsOf];omega) _ fun z hz=>⟨_,rfl,?_⟩
  have hz':z∈ns:=h1 z hz
  obtain ⟨e1,_⟩:=M.of hz' h
  simp [e1,xD M hz']
 have k2:=cD (n:=1) (it:=aE (ab 3)) (g:=ah 0) (e:=af iZ (aa (aT 1 (aE (ab 0)) (ah 0) (bT) (ao oEq (ao fv (ab 3) (ab 0)) (ag (.str "in")))) (ai))) (ρ:=[some (.dat (.tuple ss)),some (.cx false kvs),some (.str x),some (.dat (.list (aZ ss (.str x))))]) (h:=h) (h1:=h) (ds:=aZ ss (.str x)) (by simp) (by omega) (fun l=>.bool (aL (itemsOf l) (iO "in" kvs))) (fun l hml=>⟨_,rfl,(aY (cu (inner "in" l hml _ none _ _) rfl)).trans (cX _ _ _)⟩)
 have k3:=cD (n:=1) (it:=aE (ab 3)) (g:=ah 0) (e:=af qb (aa (aT 1 (aE (ab 0)) (ah 0) (bT) (ao oEq (ao fv (ab 3) (ab 0)) (ag (.str "out")))) (ai))) (ρ:=[some (.dat (.tuple ss)),some (.cx false kvs),some (.str x),some (.dat (.list (aZ ss (.str x))))]) (h:=h) (h1:=h) (ds:=aZ ss (.str x)) (by simp) (by omega) (fun l=>.bool (dF (itemsOf l) (iO "out" kvs))) (fun l hml=>⟨_,rfl,(aY (cu (inner "out" l hml _ none _ _) rfl)).trans (uB _ _ _)⟩)
 have b1:bL (af qb (aa (aT 1 (aE (ab 3)) (ah 0) (bT) (af iZ (aa (aT 1 (aE (ab 0)) (ah 0) (bT) (ao oEq (ao fv (ab 3) (ab 0)) (ag (.str "in")))) (ai)))) (ai))) [some (.dat (.tuple ss)),some (.cx false kvs),some (.str x),some (.dat (.list (aZ ss (.str x))))] h=.ok (dF (aZ ss (.str x)) fun l=>aL (itemsOf l) (iO "in" kvs)) h:=jB ((aY (cu k2 rfl)).trans (uB _ _ _)) rfl
 have b2:bL (af iZ (aa (aT 1 (aE (ab 3)) (ah 0) (bT) (af qb (aa (aT 1 (aE (ab 0)) (ah 0) (bT) (ao oEq (ao fv (ab 3) (ab 0)) (ag (.str "out")))) (ai)))) (ai))) [some (.dat (.tuple ss)),some (.cx false kvs),some (.str x),some (.dat (.list (aZ ss (.str x))))] h=.ok (aL (aZ ss (.str x)) fun l=>dF (itemsOf l) (iO "out" kvs)) h:=jB ((aY (cu k3 rfl)).trans (cX _ _ _)) rfl
 unfold dD lp bF
 simp only [List.length_cons,List.length_nil,if_true,List.map_cons,List.map_nil,List.cons_append,List.nil_append,show 4 - 3=1 from rfl,rep1]
 refine (congrArg (fun r=>R.bind r gO) (?_:_=R.ok (Fl.rt (D.str (rm ss kvs (.str x)))) h)).trans rfl
 refine (aP (cv k1)).trans ?_
 simp only [List.set_cons_succ,List.set_cons_zero]
 unfold rm
 cases c1:(dF (aZ ss (.str x)) fun l=>aL (itemsOf l) (iO "in" kvs)) with
 | true=>
  have:=AY (a:=bR (ag (.str "out"))) (b:=cB) (b1.trans (by rw [c1]))
  simp only [aU]
  unfold aZ at this
  rw [this]
  simp
 | false=>
  have e1:=pG (a:=bR (ag (.str "out"))) (b:=cB) (b1.trans (by rw [c1]))
  refine (aP (e1.trans rfl)).trans ?_
  cases c2:(aL (aZ ss (.str x)) fun l=>dF (itemsOf l) (iO "out" kvs)) with
  | true=>
   have:=AY (a:=bR (ag (.str "in"))) (b:=cB) (b2.trans (by rw [c2]))
   simp only [aU]
   rw [this]
   simp
  | false=>
   have e2:=pG (a:=bR (ag (.str "in"))) (b:=cB) (b2.trans (by rw [c2]))
   refine (aP (e2.trans rfl)).trans ?_
   simp
end Ml
namespace Ml
open PySem
theorem q9:∀ {ns row:List PyData},aL ns cK=true->aL row cK=true->ns.length<=row.length->∀ x∈ns,∃ k m,x=.str k/\ng (cH ns row) (.str k)=some (.str m)
 | [],_,_,_,_,_,h=>by cases h
 | n::ns,[],_,_,hl,_,_=>by simp at hl
 | n::ns,r::row,hn,hr,hl,x,h=>by
  have hn:=dG.mp hn
  have hr:=dG.mp hr
  obtain ⟨a,rfl⟩:=bV hn.1
  obtain ⟨b,rfl⟩:=bV hr.1
  rcases List.mem_cons.mp h with rfl | h'
  ·exact ⟨a,b,rfl,by simp [ng,cH,PyData.eqv]⟩
  ·obtain ⟨k,m,rfl,e⟩:=q9 hn.2 hr.2 (by simpa using hl) x h'
   refine ⟨k,?_⟩
   by_cases q:PyData.eqv (.str a) (.str k)=true
   ·exact ⟨b,rfl,by simp [ng,cH,q]⟩
   ·refine ⟨m,rfl,?_⟩
    simp only [ng,cH,List.find?_cons] at e ⊢
    simp only [q]
    exact e
theorem A1 {ns row:List PyData} (hn:aL ns cK=true) (hr:aL row cK=true) (hl:ns.length<=row.length):A0 (cH ns row) ns:=⟨q9 hn hr hl⟩
theorem C0 {ns:List PyData} (h:aL ns cK=true):ns.all jZ=true:=List.all_eq_true.mpr fun d m=>by
 obtain ⟨x,rfl⟩:=bV (aR.mp h d m);rfl
theorem C1 {ns:List PyData} (h:aL ns cK=true):ns.all gQ=true:=List.all_eq_true.mpr fun d m=>by
 obtain ⟨x,rfl⟩:=bV (aR.mp h d m);rfl
theorem rf {ns row:List PyData} (hn:aL ns cK=true) (hd:qf ns=true) (hr:aL row cK=true) (h:Hm):gc [.dat (.tuple ns),.dat (.tuple row)] h=.ok (.cx false (cH ns row)) h:=by
 simp only [gc,C0 hn,hd,C1 hr,Bool.and_self,if_true]
def mG (ns ss row:List PyData):Bool:=aL ns fun x=>iO (rm ss (cH ns row) x) (cH ns row) x
theorem lP {ns ss row:List PyData} (hn:aL ns cK=true) (hd:qf ns=true) (hr:aL row cK=true) (hl:ns.length<=row.length) (nl:ns.length<=100) (S:Bj ns ss) (h:Hm):cT [.dat (.tuple [.tuple ns,.tuple ss]),.dat (.tuple row)] h=.ok (.bool (mG ns ss row)) h:=by
 have M:=A1 hn hr hl
 have key:=cD (n:=1) (it:=aE (ab 2)) (g:=ah 0) (e:=ao oEq (ao fv (ab 5) (ab 0)) (af dD (aa (ab 4) (aa (ab 5) (aa (ab 0) (ai)))))) (ρ:=[some (.dat (.tuple [.tuple ns,.tuple ss])),some (.dat (.tuple row)),some (.dat (.tuple ns)),some (.dat (.tuple ss)),some (.cx false (cH ns row))]) (h:=h) (h1:=h) (ds:=ns) (by simp) (by omega) (fun x=>.bool (iO (rm ss (cH ns row) x) (cH ns row) x)) (fun x hx=>by
  obtain ⟨e1,_⟩:=M.of hx h
  obtain ⟨k,m,rfl,_⟩:=M.get x hx
  refine ⟨_,rfl,?_⟩
  refine bA (h1:=h) (x:=.dat (pH (cH ns row) (.str k))) (by simp [e1]) (y:=.str (rm ss (cH ns row) (.str k))) (h2:=h) ((aY (xs:=[.dat (.tuple ss),.cx false (cH ns row),.str k]) (by simp)).trans (qk S M k h)) (xD M hx _ h))
 unfold cT mU bF
 simp only [List.length_cons,List.length_nil,if_true,List.map_cons,List.map_nil,List.cons_append,List.nil_append,show 5 - 2=3 from rfl,rep3]
 refine (congrArg (fun r=>R.bind r gO) (?_:_=R.ok (Fl.rt (D.bool (mG ns ss row))) h)).trans rfl
 refine (aP (ρ1:=[some (.dat (.tuple [.tuple ns,.tuple ss])),some (.dat (.tuple row)),some (.dat (.tuple ns)),some (.dat (.tuple ss)),none]) (h1:=h) (by simp)).trans ?_
 refine (aP (cv (x:=.cx false (cH ns row)) (h1:=h) ((aY (xs:=[.dat (.tuple ns),.dat (.tuple row)]) (by simp)).trans (rf hn hd hr h)))).trans ?_
 exact sL ((aY (cu key rfl)).trans (cX _ _ _))
end Ml
namespace Ml
open PySem
theorem uN:∀ (ms:List Str),PyData.eqvAll (ms.map .str) (List.replicate ms.length (.str "in"))=aL ms (· == "in")
 | []=>rfl
 | m::ms=>by
  have:=uN ms
  simp only [List.map_cons,List.length_cons,List.replicate_succ,PyData.eqvAll,PyData.eqv,this]
  rfl
theorem jC {α:Type} (a:α):∀ n:Nat,(List.replicate n [a]).flatten=List.replicate n a
 | 0=>rfl
 | n+1=>by rw [List.replicate_succ,List.flatten_cons,jC a n];rfl
theorem mH:∀ ms:List Str,PyData.hasDictAll (ms.map .str)=false
 | []=>rfl
 | m::ms=>by simp [PyData.hasDictAll,PyData.hasDict,mH ms]
theorem A2 (ms:List Str):PyData.depthAll (ms.map .str)=0:=by
 induction ms with
 | nil=>rfl
 | cons m ms ih=>simp [PyData.depthAll,PyData.depth,ih]
theorem A3 (ms:List Str) (hl:ms.length<=100) (h:Hm):oEq (.dat (.list (ms.map .str))) (.dat (.list (List.replicate ms.length (.str "in")))) h=.ok (.bool (aL ms (· == "in"))) h:=by
 have e1:PyData.hasDictAll (List.replicate ms.length (PyData.str "in"))=false:=by
  have:=mH (List.replicate ms.length "in")
  simpa using this
 simp [oEq,kM,eqQ,noDict,PyData.hasDict,mH,e1,PyData.depth,A2,PyData.eqv,uN]
theorem FG (n:Nat) (hn:n<=100) (h:Hm):fV (.dat (.list [.str "in"])) (.int (n:Int)) h=.ok (.dat (.list (List.replicate n (.str "in")))) h:=by
 have z:gE (1 * n)=true:=sz (by omega)
 have b1:decide (-(2 ^ 63)<=(n:Int))=true:=decide_eq_true (by omega)
 have b2:decide ((n:Int) < 2 ^ 63)=true:=decide_eq_true (by omega)
 have e:(n:Int).toNat=n:=Int.toNat_natCast n
 unfold fV
 simp only [List.length_cons,List.length_nil,e,Nat.zero_add,z,b1,b2,Bool.and_self,if_true,jC]
theorem uO (x:Str):∀ ms:List Str,sR (.str x) (ms.map .str)=some (dF ms (· == x))
 | []=>rfl
 | m::ms=>by
  have:=uO x ms
  simp [sR,this,tH,eqQ,noDict,PyData.hasDict,PyData.depth,PyData.eqv,dF]
theorem FH (x:Str) (ms:List Str) (h:Hm):nc (.str x) (.dat (.list (ms.map .str))) h=.ok (.bool (!dF ms (· == x))) h:=by
 simp [nc,findIn,fW,gr,kM,uO]
def lm (ss:List PyData) (kvs:List (PyData×PyData)) (x:PyData):Str:=
 if aL (aZ ss x) (fun l=>dF (itemsOf l) (iO "out" kvs)) then "in" else if dF (aZ ss x) (fun l=>aL (itemsOf l) (iO "in" kvs)) then "out" else "open"
theorem C2 {kvs:List (PyData×PyData)} {x:PyData} (h1:iO "in" kvs x=true) (h2:iO "out" kvs x=true):False:=by
 unfold iO at h1 h2
 split at h1
 ·rename_i y e
  rw [e] at h2
  simp only at h2
  have a:=eq_of_beq h1
  have b:=eq_of_beq h2
  rw [a] at b
  exact absurd b (by decide +kernel)
 ·cases h1
theorem Hd (ss:List PyData) (kvs:List (PyData×PyData)) (x:PyData):lm ss kvs x=rm ss kvs x:=by
 unfold lm rm
 cases a:aL (aZ ss x) (fun l=>dF (itemsOf l) (iO "out" kvs))<;>cases b:dF (aZ ss x) (fun l=>aL (itemsOf l) (iO "in" kvs))<;>simp
 obtain ⟨l,hl,hi⟩:=uA.mp b
 have ho:=aR.mp a l hl
 obtain ⟨z,hz,o⟩:=uA.mp ho
 exact (C2 (aR.mp hi z hz) o).elim
theorem iG {kvs:List (PyData×PyData)} {ns:List PyData} (M:A0 kvs ns):∀ {ls:List PyData},(∀ z∈ls,z∈ns)->∃ ms:List Str,ls.map (pH kvs)=ms.map .str/\ms.length=ls.length/\(∀ m,aL ms (· == m)=aL ls (iO m kvs))/\∀ m,dF ms (· == m)=dF ls (iO m kvs)
 | [],_=>⟨[],rfl,rfl,fun _=>rfl,fun _=>rfl⟩
 | z::ls,h=>by
  obtain ⟨ms,e1,e2,e3,e4⟩:=iG M (ls:=ls) fun y hy=>h y (List.mem_cons_of_mem _ hy)
  obtain ⟨_,m,em⟩:=M.of (h z (List.mem_cons_self ..)) []
  refine ⟨m::ms,by simp [em,e1],by simp [e2],fun q=>?_,fun q=>?_⟩
  ·have:=e3 q
   simp only [aL,List.all_cons] at this ⊢
   rw [this]
   simp [iO,em]
  ·have:=e4 q
   simp only [dF,List.any_cons] at this ⊢
   rw [this]
   simp [iO,em]
theorem v7 {α:Type} {l:List α} {f g:α->Bool} (h:∀ x∈l,f x=g x):l.any f=l.any g:=by
 induction l with
 | nil=>rfl
 | cons a l ih=>rw [List.any_cons,List.any_cons,h a (List.mem_cons_self ..),ih fun x m=>h x (List.mem_cons_of_mem _ m)]
theorem v8 {α:Type} {l:List α} {f g:α->Bool} (h:∀ x∈l,f x=g x):l.all f=l.all g:=by
 induction l with
 | nil=>rfl
 | cons a l ih=>rw [List.all_cons,List.all_cons,h a (List.mem_cons_self ..),ih fun x m=>h x (List.mem_cons_of_mem _ m)]
def g6 (ss:List PyData) (kvs:List (PyData×PyData)) (x:PyData):List PyData:=(ss.filter fun s=>PyData.eqv (yB s) x).map fun s=>.list ((m4 s).map (pH kvs))
theorem uP (ss:List PyData) (kvs:List (PyData×PyData)) (x:PyData):g6 ss kvs x=(aZ ss x).map fun l=>.list ((itemsOf l).map (pH kvs)):=by
 simp [g6,aZ,itemsOf,Function.comp_def]
theorem any_filter {α:Type} (l:List α) (p:α->Bool) (f:α->β):(!((l.filter p).map f).isEmpty)=dF l p:=by
 unfold dF
 induction l with
 | nil=>rfl
 | cons a l ih=>cases h:p a<;>simp [List.filter_cons,h,<- ih]
abbrev J0:MS:=aU (bK 4 (aT 2 (aE (ao fv (ab 0) (ag (.int 1)))) (jE (cM (ah 0) (cM (ah 1) (jD)))) (aQ (ao oEq (ab 1) (ab 5))) (aT 1 (aE (ab 0)) (ah 0) (bT) (ao fv (ab 5) (ab 0)))))
  (aU (bK 5 (ao nZ (aT 1 (aE (ab 4)) (ah 0) (aQ (ao oEq (ab 0) (ao fV (ag (.list [.str "in"])) (af dX (aa (ab 0) (ai)))))) (ag (.int 1))) (ag (.list []))))
  (aU (bK 6 (ao oEq (aT 1 (aE (ab 4)) (ah 0) (aQ (ao nc (ag (.str "out")) (ab 0))) (ag (.int 1))) (ag (.list []))))
  (aU (bK 7 (FX (bL (ab 6)) (ag (.str "in")) (FX (bL (ab 5)) (ag (.str "out")) (ag (.str "open")))))
  (ko (aQ (ao nZ (ao fv (ab 2) (ab 3)) (ab 7))) (bR (ag (.bool false))) (cB)))))
theorem C3 {n m:Nat} {xs:List PyData} (o:fK n m xs) (h:Hm):nZ (.dat (.list xs)) (.dat (.list [])) h=.ok (.bool (!xs.isEmpty)) h:=by
 have h1:PyData.hasDictAll xs=false:=by have:=o.lst.yu;simpa [noDict,PyData.hasDict] using this
 simp [nZ,kM,eqQ,h1,xq,noDict,PyData.hasDict,PyData.hasDictAll,PyData.depth,PyData.depthAll]
theorem C4 (x y:Str) (h:Hm):nZ (.str x) (.str y) h=.ok (.bool (!(x == y))) h:=by
 simp [nZ,kM,eqQ,noDict,PyData.hasDict,PyData.depth,PyData.eqv]
def eqB (m:Str):PyData->Bool
 | .str s=>s == m
 | _=>false
def wB (m:Str):PyData->Bool
 | .list xs=>aL xs (eqB m)
 | _=>false
def oB (m:Str):PyData->Bool
 | .list xs=>dF xs (eqB m)
 | _=>false
theorem xE (m:Str) (ms:List Str):wB m (.list (ms.map .str))=aL ms (· == m):=by
 simp only [wB,aL,List.all_map];rfl
theorem xF (m:Str) (ms:List Str):oB m (.list (ms.map .str))=dF ms (· == m):=by
 simp only [oB,dF,List.any_map];rfl
theorem xG {ns ss:List PyData} {kvs:List (PyData×PyData)} (S:Bj ns ss) (M:A0 kvs ns) {x:PyData} {d:PyData} (hd:d∈g6 ss kvs x):∃ ms:List Str,d=.list (ms.map .str)/\ms.length<=100:=by
 obtain ⟨s,hs,rfl⟩:=List.mem_map.mp hd
 obtain ⟨ls,y,rfl,h1,h2,h3⟩:=S.js s (List.mem_filter.mp hs).1
 obtain ⟨ms,e1,e2,_⟩:=iG M h1
 exact ⟨ms,by simp [m4,e1],by omega⟩
theorem FI {ns ss:List PyData} {kvs:List (PyData×PyData)} (S:Bj ns ss) (M:A0 kvs ns) (k:Str):dF (g6 ss kvs (.str k)) (wB "in")=dF (aZ ss (.str k)) (fun l=>aL (itemsOf l) (iO "in" kvs)):=by
 rw [uP]
 unfold dF
 rw [List.any_map]
 refine v7 fun l hl=>?_
 obtain ⟨ls,rfl,h1,_⟩:=jn S l hl
 obtain ⟨ms,e1,_,e3,_⟩:=iG M h1
 simp only [Function.comp,itemsOf,e1,xE,e3]
theorem FJ {ns ss:List PyData} {kvs:List (PyData×PyData)} (S:Bj ns ss) (M:A0 kvs ns) (k:Str):aL (g6 ss kvs (.str k)) (oB "out")=aL (aZ ss (.str k)) (fun l=>dF (itemsOf l) (iO "out" kvs)):=by
 rw [uP]
 unfold aL
 rw [List.all_map]
 refine v8 fun l hl=>?_
 obtain ⟨ls,rfl,h1,_⟩:=jn S l hl
 obtain ⟨ms,e1,_,_,e4⟩:=iG M h1
 simp only [Function.comp,itemsOf,e1,xF,e4]
theorem FK {ns ss row:List PyData} {kvs:List (PyData×PyData)} (S:Bj ns ss) (M:A0 kvs ns) (k:Str) (hk:.str k∈ns) (h:Hm) (b4 b5 b6 b7:Option D):∃ c4 c5 c6 c7,
  J0 [some (.dat (.tuple [.tuple ns,.tuple ss])),some (.dat (.tuple row)),some (.cx false kvs),some (.str k),b4,b5,b6,b7] h=(if iO (rm ss kvs (.str k)) kvs (.str k) then .ok (.nx [some (.dat (.tuple [.tuple ns,.tuple ss])),some (.dat (.tuple row)),some (.cx false kvs),some (.str k),c4,c5,c6,c7]) h else .ok (.rt (.bool false)) h):=by
 have hl:=S.len
 have at1:jG [PyData.tuple ns,.tuple ss] 1=some (.tuple ss):=by simp [jG,rC]
 have k1:=gW (n:=2) (it:=aE (ao fv (ab 0) (ag (.int 1)))) (g:=jE (cM (ah 0) (cM (ah 1) (jD)))) (t:=aQ (ao oEq (ab 1) (ab 5))) (e:=aT 1 (aE (ab 0)) (ah 0) (bT) (ao fv (ab 5) (ab 0))) (ρ:=[some (.dat (.tuple [.tuple ns,.tuple ss])),some (.dat (.tuple row)),some (.cx false kvs),some (.str k),b4,b5,b6,b7]) (h:=h) (h1:=h) (ds:=ss) (by simp [at1]) (by omega) (fun s=>PyData.eqv (yB s) (.str k)) (fun s=>.list ((m4 s).map (pH kvs))) (fun s hs=>by
  obtain ⟨ls,y,rfl,h1,h2,h3⟩:=S.js s hs
  refine ⟨_,rfl,?_,fun _=>?_⟩
  ·simp [sM,yB,PyData.eqv]
  ·refine cD (by simp [m4]) (by simp [m4];omega) _ fun z hz=>⟨_,rfl,?_⟩
   obtain ⟨e1,_⟩:=M.of (h1 z hz) h
   simp [e1])
 have rl:(g6 ss kvs (.str k)).length<=100:=by
  unfold g6
  rw [List.length_map]
  exact Nat.le_trans (List.length_filter_le _ _) hl
 generalize hρ4:([some (.dat (.tuple [.tuple ns,.tuple ss])),some (.dat (.tuple row)),some (.cx false kvs),some (.str k),some (.dat (.list (g6 ss kvs (.str k)))),b5,b6,b7]:Fm)=ρ4
 have k2:=gW (n:=1) (it:=aE (ab 4)) (g:=ah 0) (t:=aQ (ao oEq (ab 0) (ao fV (ag (.list [.str "in"])) (af dX (aa (ab 0) (ai)))))) (e:=ag (.int 1)) (ρ:=ρ4) (h:=h) (h1:=h) (ds:=g6 ss kvs (.str k)) (by subst hρ4;simp) (by omega) (wB "in") (fun _=>.int 1) (fun d hd=>by
  obtain ⟨ms,rfl,hm⟩:=xG S M hd
  refine ⟨_,rfl,?_,fun _=>rfl⟩
  refine fE (bA (x:=.dat (.list (ms.map .str))) (h1:=h) rfl (bA (y:=.int (ms.length:Int)) (h1:=h) (h2:=h) rfl ?_ (FG ms.length hm h)) ?_)
  ·simp
  ·rw [xE];exact A3 ms hm h)
 have w5:ao nZ (aT 1 (aE (ab 4)) (ah 0) (aQ (ao oEq (ab 0) (ao fV (ag (.list [.str "in"])) (af dX (aa (ab 0) (ai)))))) (ag (.int 1))) (ag (.list [])) ρ4 h=.ok (.bool (dF (aZ ss (.str k)) fun l=>aL (itemsOf l) (iO "in" kvs))) h:=by
  refine bA k2 rfl ?_
  rw [C3 (xx _),any_filter,FI S M]
 subst hρ4
 obtain ⟨v5,hv5⟩:∃ v,v=(dF (aZ ss (.str k)) fun l=>aL (itemsOf l) (iO "in" kvs)):=⟨_,rfl⟩
 generalize hρ5:([some (.dat (.tuple [.tuple ns,.tuple ss])),some (.dat (.tuple row)),some (.cx false kvs),some (.str k),some (.dat (.list (g6 ss kvs (.str k)))),some (.bool v5),b6,b7]:Fm)=ρ5
 have k3:=gW (n:=1) (it:=aE (ab 4)) (g:=ah 0) (t:=aQ (ao nc (ag (.str "out")) (ab 0))) (e:=ag (.int 1)) (ρ:=ρ5) (h:=h) (h1:=h) (ds:=g6 ss kvs (.str k)) (by subst hρ5;simp) (by omega) (fun d=>!oB "out" d) (fun _=>.int 1) (fun d hd=>by
  obtain ⟨ms,rfl,hm⟩:=xG S M hd
  refine ⟨_,rfl,?_,fun _=>rfl⟩
  rw [xF]
  exact fE (bA rfl rfl (FH "out" ms h)))
 have w6:ao oEq (aT 1 (aE (ab 4)) (ah 0) (aQ (ao nc (ag (.str "out")) (ab 0))) (ag (.int 1))) (ag (.list [])) ρ5 h=.ok (.bool (aL (aZ ss (.str k)) fun l=>dF (itemsOf l) (iO "out" kvs))) h:=by
  refine bA k3 rfl ?_
  rw [CN (xx _),all_filter,FJ S M]
 subst hρ5
 obtain ⟨v6,hv6⟩:∃ v,v=(aL (aZ ss (.str k)) fun l=>dF (itemsOf l) (iO "out" kvs)):=⟨_,rfl⟩
 rw [<- hv5] at w5
 rw [<- hv6] at w6
 have d7:lm ss kvs (.str k)=if v6 then ("in" : Str) else if v5 then ("out" : Str) else ("open" : Str):=by rw [hv5,hv6];rfl
 obtain ⟨e8,m8,em8⟩:=M.of hk h
 refine ⟨some (.dat (.list (g6 ss kvs (.str k)))),some (.bool v5),some (.bool v6),some (.str (lm ss kvs (.str k))),?_⟩
 refine (aP (cv k1)).trans ?_
 refine (aP (cv w5)).trans ?_
 refine (aP (cv w6)).trans ?_
 refine (aP (cv (x:=.str (lm ss kvs (.str k))) (h1:=h) (by rw [d7];cases v6<;>cases v5<;>simp))).trans ?_
 have t9:aQ (ao nZ (ao fv (ab 2) (ab 3)) (ab 7)) [some (.dat (.tuple [.tuple ns,.tuple ss])),some (.dat (.tuple row)),some (.cx false kvs),some (.str k),some (.dat (.list (g6 ss kvs (.str k)))),some (.bool v5),some (.bool v6),some (.str (lm ss kvs (.str k)))] h=.ok (!iO (rm ss kvs (.str k)) kvs (.str k)) h:=by
  refine fE (bA (bA rfl rfl e8) rfl ?_)
  rw [em8,Hd,C4]
  simp [iO,em8]
 cases hc:iO (rm ss kvs (.str k)) kvs (.str k) with
 | true=>rw [hc] at t9;exact (pG t9).trans rfl
 | false=>rw [hc] at t9;exact (AY t9).trans rfl
theorem xH {ns ss row:List PyData} {kvs:List (PyData×PyData)} (S:Bj ns ss) (M:A0 kvs ns) (h:Hm):∀ {xs:List PyData},(∀ x∈xs,x∈ns)->∀ (b3 b4 b5 b6 b7:Option D),∃ c3 c4 c5 c6 c7,
  eB (ah 3) J0 (xs.map D.dat) [some (.dat (.tuple [.tuple ns,.tuple ss])),some (.dat (.tuple row)),some (.cx false kvs),b3,b4,b5,b6,b7] h=(if aL xs (fun x=>iO (rm ss kvs x) kvs x) then .ok (.nx [some (.dat (.tuple [.tuple ns,.tuple ss])),some (.dat (.tuple row)),some (.cx false kvs),c3,c4,c5,c6,c7]) h else .ok (.rt (.bool false)) h)
 | [],_,b3,b4,b5,b6,b7=>⟨b3,b4,b5,b6,b7,rfl⟩
 | x::xs,H,b3,b4,b5,b6,b7=>by
  have hx:=H x (List.mem_cons_self ..)
  obtain ⟨k,m,rfl,_⟩:=M.get x hx
  obtain ⟨c4,c5,c6,c7,e⟩:=FK (row:=row) S M k hx h b4 b5 b6 b7
  obtain ⟨d3,d4,d5,d6,d7,f⟩:=xH (row:=row) S M h (xs:=xs) (fun y hy=>H y (List.mem_cons_of_mem _ hy)) (some (.str k)) c4 c5 c6 c7
  refine ⟨d3,d4,d5,d6,d7,?_⟩
  simp only [List.map_cons,eB,ah,R.bQ,R.aA,List.set_cons_succ,List.set_cons_zero]
  rw [e]
  cases hc:iO (rm ss kvs (.str k)) kvs (.str k) with
  | true=>
   simp only [if_true,R.bQ,R.aA]
   rw [f]
   simp [aL,hc]
  | false=>
   simp only [Bool.false_eq_true,if_false,R.bQ,R.aA]
   simp [aL,hc]
theorem kn {ns ss row:List PyData} (hn:aL ns cK=true) (hd:qf ns=true) (hr:aL row cK=true) (hl:ns.length<=row.length) (S:Bj ns ss) (h:Hm):bB [.dat (.tuple [.tuple ns,.tuple ss]),.dat (.tuple row)] h=.ok (.bool (mG ns ss row)) h:=by
 have M:=A1 hn hr hl
 obtain ⟨c3,c4,c5,c6,c7,f⟩:=xH (row:=row) S M h (xs:=ns) (fun x m=>m) none none none none none
 unfold bB gf bF
 simp only [List.length_cons,List.length_nil,if_true,List.map_cons,List.map_nil,List.cons_append,List.nil_append,show 8 - 2=6 from rfl,Jr]
 have s1:bK 2 (af gc (aa (ao fv (ab 0) (ag (.int 0))) (aa (ab 1) (ai)))) [some (.dat (.tuple [.tuple ns,.tuple ss])),some (.dat (.tuple row)),none,none,none,none,none,none] h=.ok (.nx [some (.dat (.tuple [.tuple ns,.tuple ss])),some (.dat (.tuple row)),some (.cx false (cH ns row)),none,none,none,none,none]) h:=
  cv ((aY (xs:=[.dat (.tuple ns),.dat (.tuple row)]) (by simp)).trans (rf hn hd hr h))
 rw [aP s1]
 have it:aE (ao fv (ab 0) (ag (.int 0))) [some (.dat (.tuple [.tuple ns,.tuple ss])),some (.dat (.tuple row)),some (.cx false (cH ns row)),none,none,none,none,none] h=.ok (ns.map D.dat) h:=CZ (by simp)
 unfold mG
 cases hc:aL ns (fun x=>iO (rm ss (cH ns row) x) (cH ns row) x) with
 | true=>
  rw [hc,if_pos rfl] at f
  rw [aP (gB it f)]
  rfl
 | false=>
  rw [hc,if_neg (by simp)] at f
  have:=gB it f
  simp only [aU]
  rw [this]
  rfl
end Ml
namespace Ml
open PySem
theorem m5 {g2:MG} {t2:MT} {e:ME} {h:Hm} (P:Fm->Prop) (f:D->D):∀ {ys:List D} {ρ:Fm},(∀ y∈ys,∀ ρ,P ρ->∃ ρ1,g2 y ρ h=.ok ρ1 h/\P ρ1/\t2 ρ1 h=.ok true h/\e ρ1 h=.ok (f y) h)->P ρ->gH g2 t2 e ys ρ h=.ok (ys.map f) h
 | [],_,_,_=>rfl
 | y::ys,ρ,H,p=>by
  obtain ⟨ρ1,e1,p1,e2,e3⟩:=H y (List.mem_cons_self ..) ρ p
  have ih:=m5 P f (ys:=ys) (fun z hz=>H z (List.mem_cons_of_mem _ hz)) p1
  unfold gH
  rw [e1]
  simp only [R.bQ,R.aA]
  rw [e2]
  simp only [R.bQ,R.aA,if_true]
  rw [e3]
  simp only [R.bQ,R.aA]
  rw [ih]
  rfl
theorem lQ {n:Nat} {ρ:Fm} {g g2:MG} {t t2:MT} {it2:MA} {e:ME} {h:Hm} {ys:List D} (f:D->D->D):∀ {xs:List D} {k:Nat},(∀ x∈xs,∃ ρ1,g x (List.replicate n none++ρ) h=.ok ρ1 h/\t ρ1 h=.ok true h/\it2 ρ1 h=.ok ys h/\gH g2 t2 e ys ρ1 h=.ok (ys.map (f x)) h)->k+xs.length * ys.length<=16777216->dS n ρ g t it2 g2 t2 e xs k h=.ok (xs.flatMap fun x=>ys.map (f x)) h
 | [],_,_,_=>rfl
 | x::xs,k,H,hz=>by
  obtain ⟨ρ1,e1,e2,e3,e4⟩:=H x (List.mem_cons_self ..)
  have hz':k+ys.length+xs.length * ys.length<=16777216:=by
   rw [List.length_cons,Nat.succ_mul] at hz
   omega
  have ih:=lQ f (xs:=xs) (k:=k+ys.length) (fun z hz=>H z (List.mem_cons_of_mem _ hz)) hz'
  unfold dS
  rw [e1]
  simp only [R.bQ,R.aA]
  rw [e2]
  simp only [R.bQ,R.aA,if_true]
  rw [e3]
  simp only [R.bQ,R.aA,sz (show k+ys.length<=16777216 by omega),if_true]
  rw [e4]
  simp only [R.aA,List.length_map]
  rw [ih]
  rfl
def dB:List PyData:=[.str "in",.str "open",.str "out"]
def longer (r:PyData):List PyData:=match r with
 | .tuple xs=>dB.map fun m=>.tuple (xs++[m])
 | _=>[]
def aH:Nat->List PyData
 | 0=>[.tuple []]
 | n+1=>(aH n).flatMap longer
theorem jo {α β:Type} {f g:α->List β}:∀ {l:List α},(∀ x∈l,f x=g x)->l.flatMap f=l.flatMap g
 | [],_=>rfl
 | a::l,h=>by rw [List.flatMap_cons,List.flatMap_cons,h a (List.mem_cons_self ..),jo fun x m=>h x (List.mem_cons_of_mem _ m)]
theorem pI {α β:Type} {f:α->List β} {c:Nat}:∀ {l:List α},(∀ x∈l,(f x).length=c)->(l.flatMap f).length=l.length * c
 | [],_=>by simp
 | a::l,h=>by
  have:=pI (l:=l) fun x m=>h x (List.mem_cons_of_mem _ m)
  rw [List.flatMap_cons,List.length_append,this,h a (List.mem_cons_self ..),List.length_cons,Nat.succ_mul,Nat.add_comm]
theorem bj:∀ {n:Nat} {r:PyData},r∈aH n->∃ xs,r=.tuple xs/\xs.length=n/\∀ x∈xs,x∈dB
 | 0,r,h=>by simp [aH] at h;exact ⟨[],h,rfl,by simp⟩
 | n+1,r,h=>by
  obtain ⟨q,hq,hr⟩:=List.mem_flatMap.mp h
  obtain ⟨xs,rfl,h1,h2⟩:=bj hq
  obtain ⟨m,hm,rfl⟩:=List.mem_map.mp hr
  refine ⟨xs++[m],rfl,by simp [h1],fun x hx=>?_⟩
  rcases List.mem_append.mp hx with z | z
  ·exact h2 x z
  ·simp at z;subst z;exact hm
theorem rg:∀ n:Nat,(aH n).length=3 ^ n
 | 0=>rfl
 | n+1=>by
  have:=pI (f:=longer) (c:=3) (l:=aH n) fun x m=>by
   obtain ⟨xs,rfl,_⟩:=bj m
   rfl
  rw [aH,this,rg n,Nat.pow_succ]
theorem cU {n:Nat} (h:n<=4):(aH n).length<=81:=by
 rw [rg]
 exact Nat.le_trans (Nat.pow_le_pow_right (by decide) h) (by decide)
theorem sN (n:Nat) (hn:n<=4) (h:Hm):eF [.int (n:Int)] h=.ok (.dat (.list (aH n))) h:=by
 have it:eM (aa (ab 0) (ai)) [some (.int (n:Int)),some (.dat (.list [.tuple []])),none] h=.ok (nums 0 n) h:=gZ (by simp) (by omega)
 obtain ⟨ρ',h',e,eh,y,er⟩:=eI (g:=ah 2) (b:=bK 1 (sj 2 (aE (ab 1)) (ah 0) (bT) (aE (FZ fO)) (ah 1) (bT) (jY (tX (ab 0) (aa (ab 1) (ai))))))
  (fun j ρ hh=>hh=h/\∃ y,ρ=[some (.int (n:Int)),some (.dat (.list (aH j))),y]) (nums 0 n) 0 [some (.int (n:Int)),some (.dat (.list [.tuple []])),none] h (fun j x hx ρ hh ⟨e1,y,e2⟩=>by
   subst e1
   subst e2
   have hj:j < n:=by have:=(List.getElem?_eq_some_iff.mp hx).1;simpa [nums] using this
   refine ⟨_,hh,[some (.int (n:Int)),some (.dat (.list (aH (j+1)))),some x],hh,rfl,.inl ?_,rfl,_,by rw [Nat.zero_add]⟩
   simp only [Nat.zero_add,List.set_cons_succ,List.set_cons_zero]
   refine cv (x:=.dat (.list (aH (j+1)))) ?_
   unfold sj af oT
   have sm:=cU (show j<=4 by omega)
   have i1:aE (ab 1) [some (.int (n:Int)),some (.dat (.list (aH j))),some x] hh=.ok ((aH j).map D.dat) hh:=by simp
   rw [i1]
   simp only [R.aA,List.length_map,sz (show (aH j).length<=16777216 by omega),if_true]
   have key:=lQ (n:=2) (ρ:=[some (.int (n:Int)),some (.dat (.list (aH j))),some x]) (g:=ah 0) (g2:=ah 1) (t:=bT) (t2:=bT) (it2:=aE (FZ fO)) (e:=jY (tX (ab 0) (aa (ab 1) (ai)))) (h:=hh) (ys:=dB.map D.dat) (fun a b=>match a,b with | .dat (.tuple xs),.dat m=>.dat (.tuple (xs++[m])) | _,_=>.none) (xs:=(aH j).map D.dat) (k:=0) (fun a ha=>by
    obtain ⟨r,hr,rfl⟩:=List.mem_map.mp ha
    obtain ⟨xs,rfl,hl,_⟩:=bj hr
    refine ⟨_,rfl,rfl,rfl,?_⟩
    refine m5 (fun ρ=>∃ z,ρ=[some (.dat (.tuple xs)),z,some (.int (n:Int)),some (.dat (.list (aH j))),some x]) _ (fun b hb ρ ⟨z,e⟩=>?_) ⟨none,rfl⟩
    subst e
    obtain ⟨m,hm,rfl⟩:=List.mem_map.mp hb
    refine ⟨_,rfl,⟨_,rfl⟩,rfl,?_⟩
    have:jN ((xs++[m]).map D.dat) hh=.ok (.dat (.tuple (xs++[m]))) hh:=gU _ _ (by simp;omega)
    simp [tX,tW]
    simpa using this) (by simp [dB];omega)
   rw [key]
   simp only [R.aA]
   have e3:(((aH j).map D.dat).flatMap fun a=>(dB.map D.dat).map fun b=>(match a,b with | .dat (.tuple xs),.dat m=>.dat (.tuple (xs++[m])) | _,_=>.none:D))=(aH (j+1)).map D.dat:=by
    rw [aH,List.flatMap_map,List.map_flatMap]
    refine jo fun r hr=>?_
    obtain ⟨xs,rfl,_⟩:=bj hr
    simp [longer,Function.comp_def]
   rw [e3]
   exact eG _ _ (by have:=cU (show j+1<=4 by omega);omega)) ⟨rfl,none,rfl⟩
 rw [eh,er] at e
 unfold eF mV bF
 simp only [List.length_cons,List.length_nil,if_true,List.map_cons,List.map_nil,List.cons_append,List.nil_append,show 3 - 1=2 from rfl,rep2]
 have ln:(nums 0 n).length=n:=by simp [nums]
 rw [ln,Nat.zero_add] at e
 refine (congrArg (fun r=>R.bind r gO) (?_:_=R.ok (Fl.rt (D.dat (.list (aH n)))) h)).trans rfl
 refine (aP (cv rfl)).trans ?_
 refine (aP (gB it e)).trans ?_
 rfl
theorem yC (f:PyData->List PyData) (l:List PyData) (i:Nat) (x:PyData) (h:l[i]?=some x):(l.take (i+1)).flatMap f=(l.take i).flatMap f++f x:=by
 rw [List.take_add_one,h]
 simp
theorem qm {n i:Nat}:((aH n).take i).length<=(aH n).length:=by
 rw [List.length_take];omega
theorem nq (n:Nat) (hn:n<=4) (h:Hm):cW [.int (n:Int)] h=.ok (.dat (.list (aH n))) h:=by
 have it:eM (aa (ab 0) (ai)) [some (.int (n:Int)),some (.dat (.list [.tuple []])),none,none,none] h=.ok (nums 0 n) h:=gZ (by simp) (by omega)
 obtain ⟨ρ',h',e,eh,y2,y3,y4,er⟩:=eI (g:=ah 2) (b:=aU (bK 3 (ag (.list [])))
  (aU (gh (aE (ab 1)) (ah 4) (bK 3 (ao dr (ab 3) (aT 1 (aE (ag (.list [.str "in",.str "open",.str "out"]))) (ah 0) (bT) (ao dr (ab 5) (jY (aa (ab 0) (ai))))))))
  (bK 1 (ab 3))))
  (fun j ρ hh=>hh=h/\∃ y2 y3 y4,ρ=[some (.int (n:Int)),some (.dat (.list (aH j))),y2,y3,y4]) (nums 0 n) 0 [some (.int (n:Int)),some (.dat (.list [.tuple []])),none,none,none] h (fun j x hx ρ hh ⟨e1,y2,y3,y4,e2⟩=>by
   subst e1
   subst e2
   have hj:j < n:=by have:=(List.getElem?_eq_some_iff.mp hx).1;simpa [nums] using this
   have sm:=cU (show j<=4 by omega)
   have sm1:=cU (show j+1<=4 by omega)
   obtain ⟨ρ'',h'',f,fh,z4,fr⟩:=eI (g:=ah 4) (b:=bK 3 (ao dr (ab 3) (aT 1 (aE (ag (.list [.str "in",.str "open",.str "out"]))) (ah 0) (bT) (ao dr (ab 5) (jY (aa (ab 0) (ai)))))))
    (fun i ρ h3=>h3=hh/\∃ z4,ρ=[some (.int (n:Int)),some (.dat (.list (aH j))),some x,some (.dat (.list (((aH j).take i).flatMap longer))),z4]) ((aH j).map D.dat) 0 [some (.int (n:Int)),some (.dat (.list (aH j))),some x,some (.dat (.list [])),y4] hh (fun i r hr ρ h3 ⟨g1,z4,g2⟩=>by
     subst g1
     subst g2
     simp only [Nat.zero_add] at *
     rw [List.getElem?_map,Option.map_eq_some_iff] at hr
     obtain ⟨q,hq,rfl⟩:=hr
     obtain ⟨xs,rfl,hl,hm⟩:=bj (List.mem_of_getElem? hq)
     have fl:(((aH j).take i).flatMap longer).length<=300:=by
      have:=pI (f:=longer) (c:=3) (l:=(aH j).take i) fun r m=>by
       obtain ⟨xs,rfl,_⟩:=bj (List.mem_of_mem_take m)
       rfl
      rw [this]
      have:=qm (n:=j) (i:=i)
      omega
     refine ⟨_,h3,[some (.int (n:Int)),some (.dat (.list (aH j))),some x,some (.dat (.list (((aH j).take (i+1)).flatMap longer))),some (.dat (.tuple xs))],h3,rfl,.inl ?_,rfl,_,rfl⟩
     rw [yC longer _ _ _ hq]
     have key:=cD (n:=1) (it:=aE (ag (.list [.str "in",.str "open",.str "out"]))) (g:=ah 0) (e:=ao dr (ab 5) (jY (aa (ab 0) (ai)))) (ρ:=[some (.int (n:Int)),some (.dat (.list (aH j))),some x,some (.dat (.list (((aH j).take i).flatMap longer))),some (.dat (.tuple xs))]) (h:=h3) (h1:=h3) (ds:=dB) rfl (by decide) (fun m=>.tuple (xs++[m])) (fun m _=>⟨_,rfl,bA rfl (y:=.dat (.tuple [m])) (by simp) (pF _ (by simp;omega))⟩)
     exact cv (bA rfl key (pE _ (by rw [List.length_map];have:dB.length=3:=rfl;omega)))) ⟨rfl,y4,by simp⟩
   rw [fh,fr] at f
   simp only [Nat.zero_add,List.length_map,List.take_length] at f
   refine ⟨_,hh,[some (.int (n:Int)),some (.dat (.list (aH (j+1)))),some x,some (.dat (.list (aH (j+1)))),z4],hh,rfl,.inl ?_,rfl,_,_,_,by rw [Nat.zero_add]⟩
   simp only [Nat.zero_add,List.set_cons_succ,List.set_cons_zero]
   refine (aP (cv rfl)).trans ?_
   refine (aP (gB (nG (ds:=aH j) rfl) f)).trans ?_
   exact cv rfl) ⟨rfl,none,none,none,rfl⟩
 rw [eh,er] at e
 unfold cW iI bF
 simp only [List.length_cons,List.length_nil,if_true,List.map_cons,List.map_nil,List.cons_append,List.nil_append,show 5 - 1=4 from rfl,Jp]
 have ln:(nums 0 n).length=n:=by simp [nums]
 rw [ln,Nat.zero_add] at e
 refine (congrArg (fun r=>R.bind r gO) (?_:_=R.ok (Fl.rt (D.dat (.list (aH n)))) h)).trans rfl
 refine (aP (cv rfl)).trans ?_
 refine (aP (gB it e)).trans ?_
 rfl
end Ml
namespace Ml
open PySem
theorem A4:fO=dB:=rfl
def v9 (d:PyData):Bool:=match d with
 | .str x=>(x == "in") || (x == "open") || (x == "out")
 | _=>false
theorem C5 {n m:Nat} (a:Str) {d:PyData} (o:AV n m d):tH (.str a) d=some (match d with | .str x=>a == x | _=>false):=by
 rcases o with o | rfl | rfl
 ·have hd:d.hasDict=false:=by have:=o.yu;simpa [noDict] using this
  cases d<;>simp_all [tH,eqQ,noDict,PyData.hasDict,PyData.depth,PyData.eqv]
 ·rfl
 ·rfl
theorem JE {n m:Nat} {d:PyData} (o:AV n m d) (h:Hm):vp (.dat d) (.ktup fO) h=.ok (.bool (v9 d)) h:=by
 rw [A4]
 have e:sR d dB=some (v9 d):=by
  simp only [sR,dB,C5 _ o]
  cases d<;>simp [v9]
  rename_i x
  rw [Bool.eq_iff_iff]
  simp only [Bool.or_eq_true,beq_iff_eq]
  constructor
  ·rintro (h | h | h)<;>simp [<- h]
  ·rintro ((h | h) | h)<;>simp [h]
 simp [vp,findIn,fW,gr,kM,qa,e]
def aM (n:Nat) (d:PyData):Bool:=match d with
 | .tuple xs=>decide (xs.length=n) && aL xs v9
 | _=>false
theorem lR {n m:Nat} {d:PyData} {ns:List PyData} (o:AV n m d) (hn:n<=10000) (h:Hm):fz [.dat d,.dat (.tuple ns)] h=.ok (.bool (aM ns.length d)) h:=by
 unfold fz mT
 cases d with
 | tuple xs=>
  have ox:∀ x∈xs,AV n (m - 1) x:=fun x hx=>by
   rcases o with o | o | o
   ·exact .inl (o.items.mem hx)
   ·cases o
   ·cases o
  have xl:xs.length<=10000:=by
   rcases o with o | o | o
   ·exact Nat.le_trans o.items.len hn
   ·cases o
   ·cases o
  have key:=cD (n:=1) (it:=aE (ab 0)) (g:=ah 0) (e:=ao vp (ab 0) (FZ fO)) (ρ:=[some (.dat (.tuple xs)),some (.dat (.tuple ns))]) (h:=h) (h1:=h) (ds:=xs) (by simp) (by omega) (fun x=>.bool (v9 x)) (fun x hx=>⟨_,rfl,bA rfl rfl (JE (ox x hx) h)⟩)
  by_cases hl:xs.length=ns.length
  ·simp [dk,hl,key,cX,aM]
  ·simp [dk,hl,aM,show ¬ ((xs.length:Int)=ns.length) by omega]
 | _=>simp [aM]
theorem uQ {d:PyData}:v9 d=true<->d∈dB:=by
 cases d<;>simp [v9,dB,or_assoc]
theorem uR:∀ {n:Nat} {xs:List PyData},xs.length=n->(∀ x∈xs,x∈dB)->.tuple xs∈aH n
 | 0,xs,hl,_=>by rw [List.eq_nil_of_length_eq_zero hl];simp [aH]
 | n+1,xs,hl,hm=>by
  have hne:xs≠[]:=by intro z;subst z;simp at hl
  have e:=List.dropLast_concat_getLast hne
  have ih:=uR (n:=n) (xs:=xs.dropLast) (by rw [List.length_dropLast];omega) fun x hx=>hm x ((List.dropLast_sublist xs).subset hx)
  refine List.mem_flatMap.mpr ⟨_,ih,?_⟩
  refine List.mem_map.mpr ⟨xs.getLast hne,hm _ (List.getLast_mem hne),by rw [e]⟩
theorem A5 {n:Nat} {d:PyData}:aM n d=true<->d∈aH n:=by
 constructor
 ·intro h
  cases d<;>simp [aM] at h
  rename_i xs
  exact uR h.1 fun x hx=>uQ.mp (aR.mp h.2 x hx)
 ·intro h
  obtain ⟨xs,rfl,hl,hm⟩:=bj h
  simp only [aM,hl,decide_true,Bool.true_and]
  exact aR.mpr fun x hx=>uQ.mpr (hm x hx)
theorem A6:∀ c ≤ 4,(qf (Ha.take c)=true/\qf (Hb.take c)=true):=by decide +kernel
theorem Jt.all {ns ss:List PyData} (j:Jt 4 4 ns ss):aL ns cK=true/\qf ns=true/\ns.length<=4/\Bj ns ss/\ft (.tuple [.tuple ns,.tuple ss])=true/\Ok 200 4 (.tuple [.tuple ns,.tuple ss]):=by
 obtain ⟨c,hc,nm⟩:=j.nm
 obtain ⟨n1,n2,l⟩:=nm.names
 have l2:=j.len
 have hs:=nm.sd
 have o1:=fK.of nm.ok
 have o2:=(fK.of j.ok).tup
 refine ⟨hs,?_,by omega,⟨fun s hs'=>?_,by omega⟩,?_,((fK.cons (o1.tup.mono (Nat.le_refl _) (by omega:0+1<=3)) (fK.one o2)).tup).mono (by omega) (by omega)⟩
 ·rcases nm.or with rfl | rfl
  ·exact (A6 c nm.c4).1
  ·exact (A6 c nm.c4).2
 ·have q:=aR.mp j.js s hs'
  obtain ⟨ls,x,rfl,h1,_,h3,_,h5,_⟩:=lK hs q
  obtain ⟨y,rfl⟩:=bV h5
  have ok:=j.ok _ hs'
  have ol:=(ok.items.mem (d:=.tuple ls) (by simp)).items.len
  exact ⟨ls,y,rfl,fun z hz=>(jA hs).mp (aR.mp h1 z hz),h3,by omega⟩
 ·simp [ft,cY,uG,sH,pA,n1,n2,j.js,j.ris,show ns.length<=12 by omega,show ns.length<=4 by omega,show ss.length<=4 by omega]
section
variable {ns ss:List PyData} (j:Jt 4 4 ns ss)
include j
theorem sO (h:Hm):cJ [.dat (.tuple [.tuple ns,.tuple ss])] h=.ok D.none h:=by
 obtain ⟨_,_,_,_,tj,oj⟩:=j.all
 unfold cJ jR
 simp [uH oj (by decide) (by decide),tj]
theorem pJ {n:Nat} {xs:List PyData} (h:.tuple xs∈aH n):aL xs cK=true/\xs.length=n:=by
 obtain ⟨ys,e,hl,hm⟩:=bj h
 cases e
 refine ⟨aR.mpr fun x hx=>?_,hl⟩
 have:=hm x hx
 simp only [dB,List.mem_cons,List.not_mem_nil,or_false] at this
 rcases this with rfl | rfl | rfl<;>rfl
theorem C6 {xs:List PyData} (hx:.tuple xs∈aH ns.length) (h:Hm):aN [.dat (.tuple [.tuple ns,.tuple ss]),.dat (.tuple xs)] h=.ok (.bool (mG ns ss xs)) h:=by
 obtain ⟨hn,hd,nl,S,tj,oj⟩:=j.all
 obtain ⟨hr,hl⟩:=pJ j hx
 have om:AV 40 1 (.tuple xs):=.inl (((fK.of (n:=5) (m:=0) fun x hx'=>by
  obtain ⟨ys,e,_,hm⟩:=bj hx
  cases e
  have:=hm x hx'
  simp only [dB,List.mem_cons,List.not_mem_nil,or_false] at this
  rcases this with rfl | rfl | rfl<;>exact fk (by decide +kernel)).tup).mono (by omega) (Nat.le_refl _))
 have am:=lR (ns:=ns) om (by decide) h
 rw [A5.mpr hx] at am
 have ar:=lP hn hd hr (by omega) (by omega) S h
 unfold aN eS
 simp [sO j,am,ar]
theorem yD {n m:Nat} {d:PyData} (o:AV n m d) (hn:n<=10000) (hx:d∉aH ns.length) (h:Hm):aN [.dat (.tuple [.tuple ns,.tuple ss]),.dat d] h=.ok (.bool false) h:=by
 have am:=lR (ns:=ns) o hn h
 rw [Bool.eq_false_iff.mpr fun z=>hx (A5.mp z)] at am
 unfold aN eS
 simp [sO j,am]
end
end Ml
namespace Ml
open PySem
theorem uS {n:Nat} {it:MA} {g:MG} {t:MT} {e:ME} {ρ:Fm} {h h1:Hm} {ds:List PyData} (hit:it ρ h=.ok (ds.map D.dat) h1) (hz:ds.length<=16777216) (c:PyData->Bool)
  (H:∀ x∈ds,∃ ρ1,g (.dat x) (List.replicate n none++ρ) h1=.ok ρ1 h1/\t ρ1 h1=.ok (c x) h1/\(c x=true->e ρ1 h1=.ok (.dat x) h1)):rM n it g t e ρ h=.ok (.ref h1.length) (h1++[.lst ((ds.filter c).map D.dat)]):=by
 unfold rM af mJ
 rw [hit]
 simp only [R.aA,List.length_map,sz hz,if_true]
 have:=jk (n:=n) (ρ:=ρ) (g:=g) (t:=t) (e:=e) (h:=h1) (fun x=>match x with | .dat d=>c d | _=>false) id (xs:=ds.map D.dat) (fun x hx=>by
  obtain ⟨d,hd,rfl⟩:=List.mem_map.mp hx
  obtain ⟨ρ1,a,b,k⟩:=H d hd
  exact ⟨ρ1,a,b,k⟩)
 rw [this]
 simp only [R.aA,List.map_id]
 have e1:(List.filter (fun x=>match x with | .dat d=>c d | _=>false) (ds.map D.dat))=(ds.filter c).map D.dat:=by
  rw [List.filter_map]
  rfl
 rw [e1]
 have l:((ds.filter c).map D.dat).length<=16777216:=by
  rw [List.length_map]
  exact Nat.le_trans (List.length_filter_le _ _) hz
 simp only [jO,sz l,if_true]
def jr (ns ss:List PyData):PyData->Bool
 | .tuple xs=>mG ns ss xs
 | _=>false
section
variable {ns ss:List PyData} (j:Jt 4 4 ns ss)
def cL (ns ss:List PyData):List PyData:=(aH ns.length).filter (jr ns ss)
include j
theorem pK (h:Hm):de [.dat (.tuple [.tuple ns,.tuple ss])] h=.ok (.ref h.length) (h++[.lst ((cL ns ss).map D.dat)]):=by
 obtain ⟨hn,hd,nl,S,tj,oj⟩:=j.all
 have sm:=cU nl
 have key:=uS (n:=1) (it:=aE (af eF (aa (af dX (aa (ao fv (ab 0) (ag (.int 0))) (ai))) (ai)))) (g:=ah 0) (t:=bL (af cT (aa (ab 1) (aa (ab 0) (ai))))) (e:=ab 0) (ρ:=[some (.dat (.tuple [.tuple ns,.tuple ss]))]) (h:=h) (h1:=h) (ds:=aH ns.length) (nG ((aY (xs:=[.int (ns.length:Int)]) (by simp)).trans (sN _ nl h))) (by omega) (jr ns ss) (fun r hr=>by
  obtain ⟨xs,rfl,hl,hm⟩:=bj hr
  obtain ⟨hr',_⟩:=pJ j hr
  refine ⟨_,rfl,jB ((aY (xs:=[.dat (.tuple [.tuple ns,.tuple ss]),.dat (.tuple xs)]) (by simp)).trans (lP hn hd hr' (by omega) (by omega) S h)) rfl,fun _=>by simp⟩)
 unfold de jS bF
 simp only [List.length_cons,List.length_nil,if_true,List.map_cons,List.map_nil,List.cons_append,List.nil_append,show 1 - 1=0 from rfl,rep0]
 refine (congrArg (fun r=>R.bind r gO) (?_:_=R.ok (Fl.rt (D.ref h.length)) (h++[.lst ((cL ns ss).map D.dat)]))).trans rfl
 refine (aP (ρ1:=[some (.dat (.tuple [.tuple ns,.tuple ss]))]) (h1:=h) ?_).trans (sL key)
 simp [sO j]
theorem sP (h:Hm) {ρ:Fm} (e1:ρ[1]?=some (some (.dat (.tuple [.tuple ns,.tuple ss])))) (e3:aE (ab 3) ρ h=.ok ((aH ns.length).map D.dat) h):aT 1 (aE (ab 3)) (ah 0) (bL (af bB (aa (ab 2) (aa (ab 0) (ai))))) (ab 0) ρ h=.ok (.dat (.list (cL ns ss))) h:=by
 obtain ⟨hn,hd,nl,S,tj,oj⟩:=j.all
 have sm:=cU nl
 have key:=gW (n:=1) (it:=aE (ab 3)) (g:=ah 0) (t:=bL (af bB (aa (ab 2) (aa (ab 0) (ai))))) (e:=ab 0) (ρ:=ρ) (h:=h) (h1:=h) (ds:=aH ns.length) e3 (by omega) (jr ns ss) id (fun r hr=>by
  obtain ⟨xs,rfl,hl,hm⟩:=bj hr
  obtain ⟨hr',_⟩:=pJ j hr
  refine ⟨_,rfl,jB ((aY (xs:=[.dat (.tuple [.tuple ns,.tuple ss]),.dat (.tuple xs)]) (by simp [e1])).trans (kn hn hd hr' (by omega) S h)) rfl,fun _=>by simp⟩)
 rw [key]
 simp [cL]
theorem pL {r:PyData} (hr:r∈aH ns.length):Ok 24 1 r:=by
 obtain ⟨_,_,nl,_⟩:=j.all
 obtain ⟨xs,rfl,hl,hm⟩:=bj hr
 exact ((fK.of (n:=5) (m:=0) fun x hx'=>by
  have:=hm x hx'
  simp only [dB,List.mem_cons,List.not_mem_nil,or_false] at this
  rcases this with rfl | rfl | rfl<;>exact fk (by decide +kernel)).tup).mono (by omega) (Nat.le_refl _)
theorem FN:Ok 3000 2 (.list (cL ns ss)):=by
 obtain ⟨_,_,nl,_⟩:=j.all
 have sm:=cU nl
 have l:(cL ns ss).length<=81:=Nat.le_trans (List.length_filter_le _ _) sm
 exact (fK.of (ds:=cL ns ss) (n:=24) (m:=1) fun r hr=>pL j (List.mem_filter.mp hr).1).lst.mono (by omega) (Nat.le_refl _)
end
theorem uT (s:Str) (h:Hm):nZ (.rpr s) (.rpr s) h=.ok (.bool false) h:=by simp [nZ]
theorem uU (h:Hm) (n:Nat):∀ ds:List PyData,hU (qa h n) (ds.map D.dat)=some ds
 | []=>rfl
 | d::ds=>by simp [hU,uU h n ds]
section
variable {ns ss:List PyData} (j:Jt 4 4 ns ss)
include j
abbrev b1:MS:=aU (bK 6 (af de (aa (ab 1) (ai))))
  (aU (ko (aQ (ao nZ (af fM (aa (ab 6) (ai))) (af fM (aa (ab 4) (ai))))) (bR (ag (.bool false))) (cB))
  (qC (zZ kQ (ab 6) (ag .none))))
theorem DU (h:Hm) (a0 a2 a3 a5 a6 a7 a8 a9:Option D):b1 [a0,some (.dat (.tuple [.tuple ns,.tuple ss])),a2,a3,some (.dat (.list (cL ns ss))),a5,a6,a7,a8,a9] h=.ok (.nx [a0,some (.dat (.tuple [.tuple ns,.tuple ss])),a2,a3,some (.dat (.list (cL ns ss))),a5,some (.ref h.length),a7,a8,a9]) (h++[.lst ((cL ns ss).map D.dat++[.dat .none])]):=by
 have ok:=FN j
 have l:(cL ns ss).length<=3000:=ok.Fs.len
 have g1:(h++[MO.lst ((cL ns ss).map D.dat)])[h.length]?=some (.lst ((cL ns ss).map D.dat)):=by simp
 have r1:fM [.ref h.length] (h++[.lst ((cL ns ss).map D.dat)])=.ok (.rpr (PyData.list (cL ns ss)).shown) (h++[.lst ((cL ns ss).map D.dat)]):=by
  simp [fM,kM,qa,g1,uU,ok.rep (by decide) (by decide)]
 have r2:=pv ok (h++[.lst ((cL ns ss).map D.dat)]) (by decide) (by decide)
 refine (aP (cv ((aY (xs:=[.dat (.tuple [.tuple ns,.tuple ss])]) (by simp)).trans (pK j h)))).trans ?_
 simp only [List.set_cons_succ,List.set_cons_zero]
 refine (aP ((pG (fE (bA ((aY (xs:=[.ref h.length]) (h1:=h++[.lst ((cL ns ss).map D.dat)]) (by simp)).trans r1) ((aY (xs:=[.dat (.list (cL ns ss))]) (h1:=h++[.lst ((cL ns ss).map D.dat)]) (by simp)).trans r2) (uT _ _)))).trans rfl)).trans ?_
 simp [zZ,Ho,g1,kQ,show (cL ns ss).length < 16777216 by omega]
abbrev b2:MS:=ko (aQ (ao nZ (af fM (aa (af aN (aa (ab 1) (aa (ab 7) (ai)))) (ai))) (af fM (aa (ao vp (ab 7) (ab 4)) (ai))))) (bR (ag (.bool false))) (cB)
theorem pM {r:PyData} (hr:r∈aH ns.length):aq r=true:=by
 obtain ⟨xs,rfl,_,hm⟩:=bj hr
 simp only [aq]
 refine i4 fun x hx=>?_
 have:=hm x hx
 simp only [dB,List.mem_cons,List.not_mem_nil,or_false] at this
 rcases this with rfl | rfl | rfl<;>rfl
theorem A7 {r d:PyData} (hr:r∈aH ns.length) (hd:d∈aH ns.length):tH d r=some (decide (d=r)):=by
 have od:=pL j hd
 have or':=pL j hr
 have q:eqQ d r=some (PyData.eqv d r):=by
  have:=od.d
  simp [eqQ,od.yu,or'.yu,show min d.depth r.depth<=40 by omega]
 have v:PyData.eqv d r=decide (d=r):=by
  rw [Bool.eq_iff_iff,decide_eq_true_eq]
  exact i5 (pM j hd) (pM j hr)
 obtain ⟨xs,rfl,_⟩:=bj hd
 obtain ⟨ys,rfl,_⟩:=bj hr
 show eqQ (.tuple xs) (.tuple ys)=_
 rw [q,v]
theorem A8 {r:PyData} (hr:r∈aH ns.length) {ds:List PyData} (H:∀ d∈ds,d∈aH ns.length):sR r ds=some (decide (r∈ds)):=by
 induction ds with
 | nil=>simp [sR]
 | cons d ds ih=>
  have ih':=ih fun x m=>H x (List.mem_cons_of_mem _ m)
  have e:=A7 j hr (H d (List.mem_cons_self ..))
  rw [sR,e,ih']
  simp only
  congr 1
  rw [Bool.eq_iff_iff,Bool.or_eq_true,decide_eq_true_eq,decide_eq_true_eq,decide_eq_true_eq,List.mem_cons]
  constructor
  ·rintro (z | z)
   ·exact .inl z.symm
   ·exact .inr z
  ·rintro (z | z)
   ·exact .inl z.symm
   ·exact .inr z
theorem He {r:PyData} (hr:r∈aH ns.length) (h:Hm) (a0 a2 a3 a5 a6 a8 a9:Option D):b2 [a0,some (.dat (.tuple [.tuple ns,.tuple ss])),a2,a3,some (.dat (.list (cL ns ss))),a5,a6,some (.dat r),a8,a9] h=.ok (.nx [a0,some (.dat (.tuple [.tuple ns,.tuple ss])),a2,a3,some (.dat (.list (cL ns ss))),a5,a6,some (.dat r),a8,a9]) h:=by
 obtain ⟨xs,e,_⟩:=bj hr
 have k1:aN [.dat (.tuple [.tuple ns,.tuple ss]),.dat r] h=.ok (.bool (jr ns ss r)) h:=by
  subst e
  exact C6 j hr h
 have k2:vp (.dat r) (.dat (.list (cL ns ss))) h=.ok (.bool (jr ns ss r)) h:=by
  have:=A8 j hr (ds:=cL ns ss) fun d m=>(List.mem_filter.mp m).1
  simp only [vp,findIn,fW,gr,kM,kN,this]
  congr 2
  have:(r∈cL ns ss)<->jr ns ss r=true:=by
   simp [cL,hr]
  cases hb:jr ns ss r<;>simp [this,hb]
 have ob:∀ b,Ok 10 1 (.bool b):=fun b=>fk (by cases b<;>decide +kernel)
 have r1:=pv (ob (jr ns ss r)) h (by decide) (by decide)
 exact (pG (fE (bA ((aY (cu ((aY (xs:=[.dat (.tuple [.tuple ns,.tuple ss]),.dat r]) (by simp)).trans k1) rfl)).trans r1) ((aY (cu (bA rfl rfl k2) rfl)).trans r1) (uT _ _)))).trans rfl
end
end Ml
namespace Ml
open PySem
section
variable {ns ss:List PyData} (j:Jt 4 4 ns ss)
include j
theorem C7 {n m:Nat} {r d:PyData} (hr:r∈aH ns.length) (o:AV n m d):∃ b,tH r d=some b/\(b=false->d≠r):=by
 have or':=pL j hr
 rcases o with o | rfl | rfl
 ·have q:eqQ r d=some (PyData.eqv r d):=by
   have:=or'.d
   simp [eqQ,o.yu,or'.yu,show min r.depth d.depth<=40 by omega]
  refine ⟨PyData.eqv r d,?_,fun hb z=>?_⟩
  ·obtain ⟨xs,rfl,_⟩:=bj hr
   have nd:=o.yu
   cases d<;>first | exact q | simp [noDict,PyData.hasDict] at nd
  ·subst z
   rw [bH (pM j hr)] at hb
   cases hb
 ·obtain ⟨xs,rfl,_⟩:=bj hr
  exact ⟨false,by have:=or'.yu;simp [tH,this],fun _ z=>by cases z⟩
 ·obtain ⟨xs,rfl,_⟩:=bj hr
  exact ⟨false,by have:=or'.yu;simp [tH,this],fun _ z=>by cases z⟩
theorem C8 {n m:Nat} {d:PyData} (o:AV n m d) {ds:List PyData} (H:∀ r∈ds,r∈aH ns.length):∃ b,sR d ds=some b/\(b=false->d∉ds):=by
 induction ds with
 | nil=>exact ⟨false,rfl,fun _ z=>by cases z⟩
 | cons r ds ih=>
  obtain ⟨b,e1,k1⟩:=ih fun x m=>H x (List.mem_cons_of_mem _ m)
  obtain ⟨c,e2,k2⟩:=C7 j (H r (List.mem_cons_self ..)) o
  refine ⟨c || b,by rw [sR,e2,e1],fun hb=>?_⟩
  rw [Bool.or_eq_false_iff] at hb
  intro z
  rcases List.mem_cons.mp z with z | z
  ·exact k2 hb.1 z
  ·exact k1 hb.2 z
abbrev b3:MS:=ko (nJ (aQ (ao nc (ab 9) (ab 3))) (aQ (ao oO (af aN (aa (ab 1) (aa (ab 9) (ai)))) (ag (.bool false))))) (bR (ag (.bool false))) (cB)
theorem Hf {n m:Nat} {d:PyData} (o:AV n m d) (hn:n<=10000) (h:Hm) (a0 a2 a4 a5 a6 a7 a8:Option D):b3 [a0,some (.dat (.tuple [.tuple ns,.tuple ss])),a2,some (.dat (.list (aH ns.length))),a4,a5,a6,a7,a8,some (.dat d)] h=.ok (.nx [a0,some (.dat (.tuple [.tuple ns,.tuple ss])),a2,some (.dat (.list (aH ns.length))),a4,a5,a6,a7,a8,some (.dat d)]) h:=by
 obtain ⟨b,e,k⟩:=C8 j o (ds:=aH ns.length) fun r m=>m
 have t1:nc (.dat d) (.dat (.list (aH ns.length))) h=.ok (.bool (!b)) h:=by
  simp only [nc,findIn,fW,gr,kM,kN,e]
 cases b with
 | true=>exact (pG (FF (fE (bA rfl rfl t1)))).trans rfl
 | false=>
  have ar:=yD j o hn (k rfl) h
  refine (pG ((FE (fE (bA rfl rfl t1))).trans (fE (bA (h1:=h) (x:=.bool false) ((aY (xs:=[.dat (.tuple [.tuple ns,.tuple ss]),.dat d]) (h1:=h) (by simp)).trans ar) rfl (by simp [oO,oN,IQ]))))).trans rfl
end
end Ml
namespace Ml
open PySem
theorem DV {b:MS} {h:Hm} {a0 a1 a2 a3 a4 a5 a6 a8 a9:Option D}:∀ {ds:List PyData},(∀ d∈ds,b [a0,a1,a2,a3,a4,a5,a6,some (.dat d),a8,a9] h=.ok (.nx [a0,a1,a2,a3,a4,a5,a6,some (.dat d),a8,a9]) h)->∀ {a7:Option D},∃ b7,eB (ah 7) b (ds.map D.dat) [a0,a1,a2,a3,a4,a5,a6,a7,a8,a9] h=.ok (.nx [a0,a1,a2,a3,a4,a5,a6,b7,a8,a9]) h
 | [],_,a7=>⟨a7,rfl⟩
 | d::ds,H,a7=>by
  obtain ⟨b3,e⟩:=DV (a7:=some (.dat d)) (fun x m=>H x (List.mem_cons_of_mem _ m))
  refine ⟨b3,?_⟩
  simp only [List.map_cons,eB,ah,R.bQ,R.aA,List.set_cons_succ,List.set_cons_zero]
  rw [H d (List.mem_cons_self ..)]
  simp only [R.bQ,R.aA]
  exact e
theorem DX {b:MS} {h:Hm} {a0 a1 a2 a3 a4 a5 a6 a7 a8:Option D}:∀ {ds:List PyData},(∀ d∈ds,b [a0,a1,a2,a3,a4,a5,a6,a7,a8,some (.dat d)] h=.ok (.nx [a0,a1,a2,a3,a4,a5,a6,a7,a8,some (.dat d)]) h)->∀ {a9:Option D},∃ b9,eB (ah 9) b (ds.map D.dat) [a0,a1,a2,a3,a4,a5,a6,a7,a8,a9] h=.ok (.nx [a0,a1,a2,a3,a4,a5,a6,a7,a8,b9]) h
 | [],_,a9=>⟨a9,rfl⟩
 | d::ds,H,a9=>by
  obtain ⟨b3,e⟩:=DX (a9:=some (.dat d)) (fun x m=>H x (List.mem_cons_of_mem _ m))
  refine ⟨b3,?_⟩
  simp only [List.map_cons,eB,ah,R.bQ,R.aA,List.set_cons_succ,List.set_cons_zero]
  rw [H d (List.mem_cons_self ..)]
  simp only [R.bQ,R.aA]
  exact e
theorem FO (a b c d e f g:PyData) (h:Hm):gq [.dat a,.dat b,.dat c,.dat d,.dat e,.dat f,.dat g] h=.ok (.dat (.list [a,b,c,d,e,f,g])) h:=eG [a,b,c,d,e,f,g] h (by simp)
theorem uV {xs:List PyData} {n:Nat} (hz:xs.length * n<=1000) (hn:n<=1000) (h:Hm):lq (.dat (.tuple xs)) (.int (n:Int)) h=.ok (.dat (.tuple (List.replicate n xs).flatten)) h:=by
 have z:gE (xs.length * n)=true:=sz (by omega)
 have b1:decide (-(2 ^ 63)<=(n:Int))=true:=decide_eq_true (by omega)
 have b2:decide ((n:Int) < 2 ^ 63)=true:=decide_eq_true (by omega)
 have e:(n:Int).toNat=n:=Int.toNat_natCast n
 unfold lq
 simp only [e,z,b1,b2,Bool.and_self,if_true]
section
variable {ns ss:List PyData} (j:Jt 4 4 ns ss)
include j
theorem FP (h:Hm) (a0 a2 a3 a5 a6 a7 a8 a9:Option D):∃ b5 b6,eB (ah 5) b1 (nums 0 2) [a0,some (.dat (.tuple [.tuple ns,.tuple ss])),a2,a3,some (.dat (.list (cL ns ss))),a5,a6,a7,a8,a9] h=.ok (.nx [a0,some (.dat (.tuple [.tuple ns,.tuple ss])),a2,a3,some (.dat (.list (cL ns ss))),b5,b6,a7,a8,a9]) ((h++[.lst ((cL ns ss).map D.dat++[.dat .none])])++[.lst ((cL ns ss).map D.dat++[.dat .none])]):=by
 refine ⟨some (.int (0+(1:Nat))),some (.ref (h++[MO.lst ((cL ns ss).map D.dat++[.dat .none])]).length),?_⟩
 have e:nums 0 2=[.int (0+((0:Nat):Int)),.int (0+((1:Nat):Int))]:=rfl
 rw [e]
 simp only [eB,ah,R.bQ,R.aA,List.set_cons_succ,List.set_cons_zero]
 rw [DU j h]
 simp only [R.bQ,R.aA,List.set_cons_succ,List.set_cons_zero]
 rw [DU j]
 simp only [R.bQ,R.aA]
end
theorem C9 {i:Nat} {h:Hm} (b:Bx i h):Dr i h (dE [.ref i] h) fun d=>d=.bool true:=by
 obtain ⟨_,ha,ea,sa,ns,ss,rfl,j⟩:=AZ b 4 4 (by decide) (by decide)
 have ba:=sa.bx b
 obtain ⟨hn,hd,nl,S,tj,oj⟩:=j.all
 have sm:=cU nl
 obtain ⟨b5,b6,e5⟩:=FP j ha (some (.ref i)) (some (.rpr (PyData.tuple [.tuple ns,.tuple ss]).shown)) (some (.dat (.list (aH ns.length)))) none none none none none
 generalize hl:MO.lst ((cL ns ss).map D.dat++[.dat .none])=L at e5
 have bl:∀ n,MO.below n L=true:=fun n=>by rw [<- hl];simp [MO.below,D.below]
 have bc:Bx i ((ha++[L])++[L]):=(ba.push (bl _)).push (bl _)
 obtain ⟨b7,e6⟩:=DV (b:=b2) (h:=(ha++[L])++[L]) (a0:=some (.ref i)) (a1:=some (.dat (.tuple [.tuple ns,.tuple ss]))) (a2:=some (.rpr (PyData.tuple [.tuple ns,.tuple ss]).shown)) (a3:=some (.dat (.list (aH ns.length)))) (a4:=some (.dat (.list (cL ns ss)))) (a5:=b5) (a6:=b6) (a8:=none) (a9:=none) (ds:=aH ns.length) (fun r hr=>He j hr _ _ _ _ _ _ _ _) (a7:=none)
 obtain ⟨q,hq,oq⟩:∃ q,jG (cL ns ss++[.tuple []]) 0=some (.tuple q)/\fK 24 0 q:=by
  cases hdue:cL ns ss with
  | nil=>exact ⟨[],by simp,fK.nil.mono (by decide) (Nat.le_refl _)⟩
  | cons r rs=>
   have hr:r∈aH ns.length:=(List.mem_filter.mp (show r∈cL ns ss by rw [hdue];exact List.mem_cons_self ..)).1
   have ok:=pL j hr
   obtain ⟨xs,rfl,_⟩:=bj hr
   exact ⟨xs,by simp,ok.items⟩
 obtain ⟨_,hd0,ed,sd0,x,rfl,ox⟩:=Fx bc
 obtain ⟨hd1,rfl,sd1⟩:=sd0.pop (by simp;have:=ba.lt;omega)
 obtain ⟨hc,rfl,sc⟩:=sd1.pop ba.lt
 have ql:=oq.len
 let bads:List PyData:=[.none,.list q,.tuple (q++[.str "in"]),.tuple ((List.replicate ns.length [PyData.str "In"]).flatten++[.int 0]),.tuple (List.replicate 5 [PyData.none]).flatten,.str "in",x]
 have okIn:Ok 2 0 (.str "In"):=fk (by decide +kernel)
 have allb:∀ d∈bads,AV 200 3 d:=by
  intro d hd'
  simp only [bads,List.mem_cons,List.not_mem_nil,or_false] at hd'
  rcases hd' with rfl | rfl | rfl | rfl | rfl | rfl | rfl
  ·exact .inl (fk (by decide +kernel))
  ·exact .inl (oq.lst.mono (by decide) (by decide))
  ·exact .inl ((oq.append (fK.one (fk (n:=4) (m:=0) (by decide +kernel)))).tup.mono (by decide) (by decide))
  ·rw [jC]
   refine .inl (Ok.mono ((fK.append (fK.of (n:=2) (m:=0) fun x hx=>?_) (fK.one (fk (n:=4) (m:=0) (by decide +kernel:F4 4 0 (.int 0)=true)))).tup) ?_ (by decide:0+1<=3))
   ·rw [(List.mem_replicate.mp hx).2];exact okIn
   ·rw [List.length_replicate];omega
  ·exact .inl (fk (by decide +kernel))
  ·exact .inl (fk (by decide +kernel))
  ·exact ox
 obtain ⟨b9,e8⟩:=DX (b:=b3) (h:=(hc++[L])++[L]) (a0:=some (.ref i)) (a1:=some (.dat (.tuple [.tuple ns,.tuple ss]))) (a2:=some (.rpr (PyData.tuple [.tuple ns,.tuple ss]).shown)) (a3:=some (.dat (.list (aH ns.length)))) (a4:=some (.dat (.list (cL ns ss)))) (a5:=b5) (a6:=b6) (a7:=b7) (a8:=some (.dat (.tuple q))) (ds:=bads) (fun d m=>Hf j (allb d m) (by decide) _ _ _ _ _ _ _ _) (a9:=none)
 have rx:=fun h=>pv oj h (by decide) (by decide)
 refine ⟨.bool true,hc,?_,sa.trans sc,rfl⟩
 unfold dE
 refine uK (t:=[L,L]) b ?_ (sa.trans sc)
 unfold lu lr bF
 simp only [List.length_cons,List.length_nil,if_true,List.map_cons,List.map_nil,List.cons_append,List.nil_append,show 10 - 1=9 from rfl,Js]
 have ea':eU [.ref i,.int 4,.int 4] h=.ok (.dat (.tuple [.tuple ns,.tuple ss])) ha:=ea
 have hh:hc++[L,L]=(hc++[L])++[L]:=by simp
 rw [hh]
 refine (congrArg (fun r=>R.bind r gO) (?_:_=R.ok (Fl.rt (D.bool true)) ((hc++[L])++[L]))).trans rfl
 refine (aP (cv (x:=.dat (.tuple [.tuple ns,.tuple ss])) (h1:=ha) ((aY (xs:=[.ref i,.int 4,.int 4]) (by simp)).trans ea'))).trans ?_
 refine (aP (cv ((aY (xs:=[.dat (.tuple [.tuple ns,.tuple ss])]) (h1:=ha) (by simp)).trans (rx ha)))).trans ?_
 refine (aP (cv ((aY (xs:=[.int (ns.length:Int)]) (h1:=ha) (by simp)).trans (nq _ nl ha)))).trans ?_
 refine (aP (cv (sP j ha rfl (by simp)))).trans ?_
 refine (aP (gB (gZ (n:=2) (by simp) (by decide)) e5)).trans ?_
 refine (aP (gB (nG (ds:=aH ns.length) rfl) e6)).trans ?_
 refine (aP (cv (x:=.dat (.tuple q)) (h1:=(ha++[L])++[L]) (bA (bA rfl rfl (pE _ (by have:(cL ns ss).length<=81:=Nat.le_trans (List.length_filter_le _ _) sm;simp;omega))) rfl (by simp [hq])))).trans ?_
 have s8:aE (pZ (aa (ag .none) (aa (af kP (aa (ab 8) (ai))) (aa (ao dr (ab 8) (ag (.tuple [.str "in"]))) (aa (ao dr (ao lq (ag (.tuple [.str "In"])) (af dX (aa (ao fv (ab 1) (ag (.int 0))) (ai)))) (ag (.tuple [.int 0]))) (aa (ao lq (ag (.tuple [.none])) (ag (.int 5))) (aa (ag (.str "in")) (aa (af el (aa (ab 0) (ai))) (ai)))))))))
   [some (.ref i),some (.dat (.tuple [.tuple ns,.tuple ss])),some (.rpr (PyData.tuple [.tuple ns,.tuple ss]).shown),some (.dat (.list (aH ns.length))),some (.dat (.list (cL ns ss))),b5,b6,b7,some (.dat (.tuple q)),none] ((ha++[L])++[L])=.ok (bads.map D.dat) ((hc++[L])++[L]):=by
  refine nG (ds:=bads) ?_
  unfold pZ
  have k1:af kP (aa (ab 8) (ai)) [some (.ref i),some (.dat (.tuple [.tuple ns,.tuple ss])),some (.rpr (PyData.tuple [.tuple ns,.tuple ss]).shown),some (.dat (.list (aH ns.length))),some (.dat (.list (cL ns ss))),b5,b6,b7,some (.dat (.tuple q)),none] ((ha++[L])++[L])=.ok (.dat (.list q)) ((ha++[L])++[L]):=by simp [kP,fW,rO]
  have k3:ao lq (ag (.tuple [.str "In"])) (af dX (aa (ao fv (ab 1) (ag (.int 0))) (ai))) [some (.ref i),some (.dat (.tuple [.tuple ns,.tuple ss])),some (.rpr (PyData.tuple [.tuple ns,.tuple ss]).shown),some (.dat (.list (aH ns.length))),some (.dat (.list (cL ns ss))),b5,b6,b7,some (.dat (.tuple q)),none] ((ha++[L])++[L])=.ok (.dat (.tuple (List.replicate ns.length [PyData.str "In"]).flatten)) ((ha++[L])++[L]):=bA (y:=.int (ns.length:Int)) (h1:=(ha++[L])++[L]) (h2:=(ha++[L])++[L]) rfl (by simp) (uV (by simp;omega) (by omega) _)
  have k6:af el (aa (ab 0) (ai)) [some (.ref i),some (.dat (.tuple [.tuple ns,.tuple ss])),some (.rpr (PyData.tuple [.tuple ns,.tuple ss]).shown),some (.dat (.list (aH ns.length))),some (.dat (.list (cL ns ss))),b5,b6,b7,some (.dat (.tuple q)),none] ((ha++[L])++[L])=.ok (.dat x) ((hc++[L])++[L]):=(aY (xs:=[.ref i]) (by simp)).trans ed
  refine (aY (cu rfl (cu k1 (cu (bA rfl rfl (pF _ (by simp;omega))) (cu (bA k3 rfl (pF _ (by rw [jC];simp;omega))) (cu (bA rfl rfl (uV (n:=5) (by decide) (by decide) _)) (cu rfl (cu k6 rfl)))))))).trans (FO _ _ _ _ _ _ _ _)
 refine (aP (gB s8 e8)).trans ?_
 exact sL (bA ((aY (xs:=[.dat (.tuple [.tuple ns,.tuple ss])]) (h1:=(hc++[L])++[L]) (by simp)).trans (rx _)) rfl (by simp [oEq]))
end Ml
namespace Ml
open PySem
theorem wa (laps:Nat) (hlp:laps < 1000) {right:Fn} (PL:∀ {i:Nat} {h:Hm},Bx i h->Dr i h (right [.ref i] h) fun d=>d=.bool true) {ns:List Int} {N:Nat} (hN:N<=100) :
  ∀ (h:Hm),Wf h->∃ h' y1 y2,eB (ah 1) (gh (eM (aa (ag (.int (laps:Int))) (ai))) (ah 2) (ko (iR (bL (af right (aa (af dA (aa (ab 0) (aa (ab 1) (aa (ab 2) (ai))))) (ai))))) (bR (ag (.bool false))) (cB))) (nums 0 N) [some (.scr ns),none,none] h=.ok (.nx [some (.scr ns),y1,y2]) h':=by
 intro h w
 obtain ⟨ρ',h',e,w',y1,y2,rfl⟩:=eI (g:=ah 1) (b:=gh (eM (aa (ag (.int (laps:Int))) (ai))) (ah 2) (ko (iR (bL (af right (aa (af dA (aa (ab 0) (aa (ab 1) (aa (ab 2) (ai))))) (ai))))) (bR (ag (.bool false))) (cB)))
  (fun _ ρ hh=>Wf hh/\∃ y1 y2,ρ=[some (.scr ns),y1,y2]) (nums 0 N) 0 [some (.scr ns),none,none] h (fun j x hx ρ hh ⟨w,y1,y2,e2⟩=>by
   subst e2
   simp only [nums,List.getElem?_map,Option.map_eq_some_iff] at hx
   obtain ⟨k,_,rfl⟩:=hx
   obtain ⟨ρ',h',e,w',z2,rfl⟩:=eI (g:=ah 2) (b:=ko (iR (bL (af right (aa (af dA (aa (ab 0) (aa (ab 1) (aa (ab 2) (ai))))) (ai))))) (bR (ag (.bool false))) (cB))
    (fun _ ρ hh=>Wf hh/\∃ y2,ρ=[some (.scr ns),some (.int (0+(k:Int))),y2]) (nums 0 laps) 0 [some (.scr ns),some (.int (0+(k:Int))),y2] hh (fun j x hx ρ hh ⟨w,y2,e2⟩=>by
     subst e2
     simp only [nums,List.getElem?_map,Option.map_eq_some_iff] at hx
     obtain ⟨l,_,rfl⟩:=hx
     obtain ⟨n,eb⟩:=Fw ns k l hh
     have bx:Bx hh.length (hh++[.lst [.int n]]):=⟨⟨n,by simp⟩,w.push rfl⟩
     obtain ⟨_,h2,e2,s2,rfl⟩:=PL bx
     exact ⟨_,hh,[some (.scr ns),some (.int (0+(k:Int))),some (.int (0+(l:Int)))],h2,rfl,.inl (by simp [eb,e2]),(s2.bx bx).wf,_,rfl⟩) ⟨w,y2,rfl⟩
   refine ⟨_,hh,[some (.scr ns),some (.int (0+(k:Int))),z2],h',rfl,.inl ?_,w',_,_,rfl⟩
   have it:eM (aa (ag (.int (laps:Int))) ai) [some (.scr ns),some (.int (0+(k:Int))),y2] hh=.ok (nums 0 laps) hh:=gZ (n:=laps) (by simp) (by omega)
   unfold gh
   simp only [List.set_cons_succ,List.set_cons_zero]
   rw [it]
   simp only [R.bQ,R.aA]
   exact e) ⟨w,none,none,rfl⟩
 exact ⟨h',y1,y2,e⟩
theorem A9:∀ ns:List Int,ns.length<=63->∃ h,uc [.scr ns] []=.ok (.bool true) h:=by
 intro ns hn
 obtain ⟨h',y1,y2,e⟩:=wa 3 (by decide) (right:=dE) (fun b=>C9 b) (ns:=ns) (N:=max 1 (min ns.length 3)) (by omega) [] (fun o m=>by cases m)
 refine ⟨h',?_⟩
 have it:eM (aa (af zu (aa (ag (.int 1)) (aa (af zv (aa (af dX (aa (ab 0) (ai))) (aa (ag (.int 3)) (ai)))) (ai)))) (ai)) [some (.scr ns),none,none] []=.ok (nums 0 (max 1 (min ns.length 3))) []:=gZ (by
   refine cu ?_ rfl
   simp [dX,zv,zu]
   split<;>split<;>omega) (by omega)
 unfold uc DF bF
 simp only [List.length_cons,List.length_nil,if_true,List.map_cons,List.map_nil,List.cons_append,List.nil_append,show 3 - 1=2 from rfl,rep2]
 refine (congrArg (fun r=>R.bind r gO) (?_:_=R.ok (Fl.rt (D.bool true)) h')).trans rfl
 refine (aP (ρ1:=[some (.scr ns),y1,y2]) (h1:=h') ?_).trans rfl
 unfold gh
 rw [it]
 simp only [R.bQ,R.aA]
 exact e
end Ml
namespace K66
open PySem L2 Ml
theorem FQ {K:PySem.W.Frag} {h:Heap} {mg:Str->Option Value} {ta0:Addr} {k0:Tok} {k1:Tok} {k2:Tok} (X:K.In h) (G:h.Ns mainGlobals mg)
  (z0:PySem.W.nsIn K mainGlobals "all" = some none)
  (z1:PySem.W.nsIn K mainGlobals "len" = some none)
  (z2:PySem.W.nsIn K mainGlobals "isinstance" = some none)
  (z3:PySem.W.nsIn K mainGlobals "str" = some none)
  (z4:PySem.W.nsIn K mainGlobals "zip" = some none)
  (z5:PySem.W.nsIn K mainGlobals "tuple" = some none)
  (z6:PySem.W.nsIn K mainGlobals "any" = some none)
  (z7:PySem.W.nsIn K mainGlobals "dict" = some none)
  (z8:PySem.W.nsIn K mainGlobals "range" = some none)
  (z9:PySem.W.nsIn K mainGlobals "abs" = some none)
  (z10:PySem.W.nsIn K mainGlobals "divmod" = some none)
  (z11:PySem.W.nsIn K mainGlobals "sorted" = some none)
  (z12:PySem.W.nsIn K mainGlobals "list" = some none)
  (z13:PySem.W.nsIn K mainGlobals "int" = some none)
  (z14:PySem.W.nsIn K mainGlobals "repr" = some none)
  (z15:PySem.W.nsIn K mainGlobals "max" = some none)
  (z16:PySem.W.nsIn K mainGlobals "min" = some none)
  (a0:PySem.W.nsIn K mainGlobals "LONGEST_NAME" = some (some (.int 6 k0)))
  (a1:PySem.W.nsIn K mainGlobals "MOST_NAMES" = some (some (.int 12 k1)))
  (a2:PySem.W.nsIn K mainGlobals "MOST_JOINT" = some (some (.int 4 k2)))
  (tn0:PySem.W.nsIn K mainGlobals "MARKS" = some (some (.ref ta0))) (tk0:IS K ta0 fO=true)
  : Txt K mg:=⟨PySem.W.mg_none_of X G z0,PySem.W.mg_none_of X G z1,PySem.W.mg_none_of X G z2,PySem.W.mg_none_of X G z3,PySem.W.mg_none_of X G z4,PySem.W.mg_none_of X G z5,PySem.W.mg_none_of X G z6,PySem.W.mg_none_of X G z7,PySem.W.mg_none_of X G z8,PySem.W.mg_none_of X G z9,PySem.W.mg_none_of X G z10,PySem.W.mg_none_of X G z11,PySem.W.mg_none_of X G z12,PySem.W.mg_none_of X G z13,PySem.W.mg_none_of X G z14,PySem.W.mg_none_of X G z15,PySem.W.mg_none_of X G z16,⟨_,PySem.W.mg_of X G a0⟩,⟨_,PySem.W.mg_of X G a1⟩,⟨_,PySem.W.mg_of X G a2⟩,⟨_,PySem.W.mg_of X G tn0,Fp tk0⟩⟩
theorem all_mk {l:PySem.W.OpenLaw} {w:World} {K:PySem.W.Frag} {h:Heap} {mg:Str->Option Value} {fa f:Addr} {od an:Option Addr} {sl:Array (Option Value)} {oc kV dc pm cd ct:Value} (X:K.In h) (G:h.Ns mainGlobals mg) (hfa:mg "law" = some (.ref fa)) (T:Txt K mg)
  (d0:Df K mg "is_name" ["thing"] mC)
  (d1:Df K mg "is_rising" ["things"] i9)
  (d2:Df K mg "are_names" ["thing"] jb)
  (d3:Df K mg "is_lot" ["thing", "names"] pb)
  (d4:Df K mg "is_joint_strike" ["thing", "names"] eW)
  (d5:Df K mg "are_joint_strikes" ["thing", "names"] dJ)
  (d6:Df K mg "is_joint" ["thing"] kb)
  (d7:Df K mg "check_joint" ["thing"] gI)
  (d8:Df K mg "are_marks" ["thing", "names"] je)
  (d9:Df K mg "right_mark" ["strikes", "marked", "name"] iw)
  (d10:Df K mg "are_right" ["joint", "marks"] jf)
  (d11:Df K mg "are_joint_right" ["joint", "thing"] eX)
  (d12:Df K mg "all_marks" ["many"] jg)
  (d13:Df K mg "joint_marks" ["joint"] gJ)
  (d14:Df K mg "_law_cell" ["_law_script", "_law_k"] ji)
  (d15:Df K mg "_law_mix" ["_law_cell_here", "_law_k"] ke)
  (d16:Df K mg "_law_box" ["_law_script", "_law_k", "_law_lap"] kf)
  (d17:Df K mg "_law_take" ["_law_box_here", "_law_count"] jj)
  (d18:Df K mg "_law_odd" ["_law_box_here"] kg)
  (d19:Df K mg "_law_joint" ["_law_box_here", "_law_most_names", "_law_most_strikes"] iy)
  (d20:Df K mg "_law_joint_right" ["_law_joint_here", "_law_row"] et)
  (d21:Df K mg "_law_all_rows" ["_law_count"] fJ)
  (d22:Df K mg "_law_right" ["_law_box_here"] iz)
  (a:PySem.W.nsIn K mainGlobals "law" = some (some (.ref f))) (l0:K.lookup f=some ⟨oc,od,.func (PySem.W.fnOf "law" "law" (gj lC) (eJ lC) (aF lC) .none kV dc pm an cd ct),sl⟩) (c:PySem.W.codeIn K cd "law" = true) (k:PySem.W.keepIn K (.ref f)=true) :
  ∃ fd:FuncData,(∀ (s:Shared) (v:Value),BindsTo s fd ⟨[v],[]⟩ [("_law_script",v)])/\∀ base:Heap,K.In base->base.Ns mainGlobals mg->jF l.prog w K mg base (sQ l.prog w) 9 fa fd ["_law_script"] (B5 ⟨l.prog,w,mg,K⟩ uc):=by
 have e:=hfa.symm.trans (PySem.W.mg_of X G a)
 cases e
 have FL:=vd (st:=lC) l0 c k
 refine ⟨PySem.W.fnOf "law" "law" (gj lC) (eJ lC) (aF lC) .none kV dc pm an cd ct,fun s v=>.of_eq rfl,fun base _ _=>?_⟩
 have H_is_name:=yq (P:=l.prog) (w:=w) (base:=base) d0 T
 have H_is_rising:=uk (P:=l.prog) (w:=w) (base:=base) d1 T
 have H_are_names:=um (P:=l.prog) (w:=w) (base:=base) d2 T H_is_rising H_is_name
 have H_is_lot:=AN (P:=l.prog) (w:=w) (base:=base) d3 T H_is_rising
 have H_is_joint_strike:=ly (P:=l.prog) (w:=w) (base:=base) d4 T H_is_lot
 have H_are_joint_strikes:=jJ (P:=l.prog) (w:=w) (base:=base) d5 T H_is_rising H_is_joint_strike
 have H_is_joint:=vK (P:=l.prog) (w:=w) (base:=base) d6 T H_are_joint_strikes H_are_names
 have H_check_joint:=qi (P:=l.prog) (w:=w) (base:=base) d7 T H_is_joint
 have H_are_marks:=uq (P:=l.prog) (w:=w) (base:=base) d8 T
 have H_right_mark:=sD (P:=l.prog) (w:=w) (base:=base) d9 T
 have H_are_right:=ur (P:=l.prog) (w:=w) (base:=base) d10 T H_right_mark
 have H_are_joint_right:=lB (P:=l.prog) (w:=w) (base:=base) d11 T H_are_right H_are_marks H_check_joint
 have H_all_marks:=uv (P:=l.prog) (w:=w) (base:=base) d12 T
 have H_joint_marks:=qj (P:=l.prog) (w:=w) (base:=base) d13 T H_all_marks H_are_right H_check_joint
 have H__law_cell:=uw (P:=l.prog) (w:=w) (base:=base) d14 T
 have H__law_mix:=vL (P:=l.prog) (w:=w) (base:=base) d15 T
 have H__law_box:=vM (P:=l.prog) (w:=w) (base:=base) d16 T H__law_mix H__law_cell
 have H__law_take:=ux (P:=l.prog) (w:=w) (base:=base) d17 T
 have H__law_odd:=vN (P:=l.prog) (w:=w) (base:=base) d18 T H__law_take
 have H__law_joint:=sF (P:=l.prog) (w:=w) (base:=base) d19 T H__law_take
 have H__law_joint_right:=kh (P:=l.prog) (w:=w) (base:=base) d20 T
 have H__law_all_rows:=nj (P:=l.prog) (w:=w) (base:=base) d21 T
 have H__law_right:=sG (P:=l.prog) (w:=w) (base:=base) d22 T H__law_odd H_are_joint_right H_joint_marks H__law_joint_right H__law_all_rows H__law_joint
 exact Fq (P:=l.prog) (w:=w) (base:=base) FL T H__law_right H__law_box
theorem walk {l:PySem.W.OpenLaw} {q:Program} {loose:List Str} {XP:(Str->Option Value)->Heap->Prop} {YP:World->Heap->Prop} {d:DefRec} {K:Params->PySem.W.Frag} (hn:l.most=some 63) (hdf:d.params.defaults=[])
  (hY:∀ (w:World) (h:Heap),YP w h->(K w.params).In h)
  (F:∀ (w:World) (mg:Str->Option Value) (fa:Addr) (h:Heap),(K w.params).In h->h.Ns mainGlobals mg->mg d.name=some (.ref fa) ->
   ∃ fd:FuncData,(∀ (s:Shared) (u:Value),BindsTo s fd ⟨[u],[]⟩ [("_law_script",u)])/\∀ base:Heap,(K w.params).In base->base.Ns mainGlobals mg->jF l.prog w (K w.params) mg base (sQ l.prog w) 9 fa fd ["_law_script"] (B5 ⟨l.prog,w,mg,K w.params⟩ uc)) :
  PySem.W.WalkO q loose XP YP l.row.toRowW d [] (fun f vs=>PySem.call f vs):=
 L2.BK (n:=63) (k:=9) (x := "_law_script") (CX:=fun w=>sQ l.prog w) (sp:=fun w=>DD (K w.params)) hn (by decide) hdf ⟨rfl,by decide,by decide,rfl⟩ hY
  (fun w mg fa h KX G hm=>let ⟨fd,b,o⟩:=F w mg fa h KX G hm;⟨fd,b,fun base k g=>(o base k g).imp fun vs H Q E z=>Au A9 z⟩)
  (fun w H a ns hl _ hS=>⟨a,ns,rfl,hS,hl,fun _=>rfl⟩) fun w H s e s' ⟨_,_,_,_,_,_,_,_,_,_,_,_,_,z⟩=>z
end K66
open PySem PySem.W PyProof.Rows
def PySem.W.Fast.tw18055022339904823051:Unit:=()
def PySem.W.Fast.tw8954532055575332294:Unit:=()
def PySem.W.Fast.tw128879752238902093:Unit:=()
def PySem.W.Fast.tw14296545753730859077:Unit:=()
def PySem.W.Fast.tw4465549333764632779:Unit:=()
def PySem.W.Fast.tw14113507079149035419:Unit:=()
def PySem.W.Fast.tw6244911243596516266:Unit:=()
def PySem.W.Fast.tw15131804907916706085:Unit:=()
def PySem.W.Fast.tw13063968042444103963:Unit:=()
def PySem.W.Fast.tw5049178027773482401:Unit:=()
def PySem.W.Fast.tw5313112097798342104:Unit:=()
def PySem.W.Fast.tw5319924726852655909:Unit:=()
set_option maxRecDepth 100000 in
set_option maxHeartbeats 0 in
theorem PySem.Challenge.cw_everalike_k66_joint_marks_right_holds : PySem.Challenge.rw_everalike_k66_joint_marks_right.Holds := by
 w_on;o_law;k_head;(case hw=>w_witness2)
 k_fill
 refine K66.walk (l:=PySem.Challenge.rw_everalike_k66_joint_marks_right) rfl rfl (fun w h Y=>PySem.W.kIn_of Y) ?F
 case F=>
  intro w mg fa h KX G hmg
  refine' K66.all_mk KX G hmg ?T ?d0 ?d1 ?d2 ?d3 ?d4 ?d5 ?d6 ?d7 ?d8 ?d9 ?d10 ?d11 ?d12 ?d13 ?d14 ?d15 ?d16 ?d17 ?d18 ?d19 ?d20 ?d21 ?d22 ?a ?l ?c ?k
  case T=>
   refine' K66.FQ KX G ?zz0 ?zz1 ?zz2 ?zz3 ?zz4 ?zz5 ?zz6 ?zz7 ?zz8 ?zz9 ?zz10 ?zz11 ?zz12 ?zz13 ?zz14 ?zz15 ?zz16 ?aa0 ?aa1 ?aa2 ?tn0 ?tk0
   (case zz0=>k_is)
   (case zz1=>k_is)
   (case zz2=>k_is)
   (case zz3=>k_is)
   (case zz4=>k_is)
   (case zz5=>k_is)
   (case zz6=>k_is)
   (case zz7=>k_is)
   (case zz8=>k_is)
   (case zz9=>k_is)
   (case zz10=>k_is)
   (case zz11=>k_is)
   (case zz12=>k_is)
   (case zz13=>k_is)
   (case zz14=>k_is)
   (case zz15=>k_is)
   (case zz16=>k_is)
   (case aa0=>k_is)
   (case aa1=>k_is)
   (case aa2=>k_is)
   (case tn0=>k_is)
   (case tk0=>kernel_rfl)
  case d0=>
   refine' Ml.dz KX G ?a0 ?l0 ?c0 ?k0 (fun _ _ _ _ _ _ us hl=>match us,hl with | [_],_=>rfl)
   (case a0=>k_is);(case l0=>k_is);(case c0=>k_is);(case k0=>k_is)
  case d1=>
   refine' Ml.dz KX G ?a1 ?l1 ?c1 ?k1 (fun _ _ _ _ _ _ us hl=>match us,hl with | [_],_=>rfl)
   (case a1=>k_is);(case l1=>k_is);(case c1=>k_is);(case k1=>k_is)
  case d2=>
   refine' Ml.dz KX G ?a2 ?l2 ?c2 ?k2 (fun _ _ _ _ _ _ us hl=>match us,hl with | [_],_=>rfl)
   (case a2=>k_is);(case l2=>k_is);(case c2=>k_is);(case k2=>k_is)
  case d3=>
   refine' Ml.dz KX G ?a3 ?l3 ?c3 ?k3 (fun _ _ _ _ _ _ us hl=>match us,hl with | [_,_],_=>rfl)
   (case a3=>k_is);(case l3=>k_is);(case c3=>k_is);(case k3=>k_is)
  case d4=>
   refine' Ml.dz KX G ?a4 ?l4 ?c4 ?k4 (fun _ _ _ _ _ _ us hl=>match us,hl with | [_,_],_=>rfl)
   (case a4=>k_is);(case l4=>k_is);(case c4=>k_is);(case k4=>k_is)
  case d5=>
   refine' Ml.dz KX G ?a5 ?l5 ?c5 ?k5 (fun _ _ _ _ _ _ us hl=>match us,hl with | [_,_],_=>rfl)
   (case a5=>k_is);(case l5=>k_is);(case c5=>k_is);(case k5=>k_is)
  case d6=>
   refine' Ml.dz KX G ?a6 ?l6 ?c6 ?k6 (fun _ _ _ _ _ _ us hl=>match us,hl with | [_],_=>rfl)
   (case a6=>k_is);(case l6=>k_is);(case c6=>k_is);(case k6=>k_is)
  case d7=>
   refine' Ml.dz KX G ?a7 ?l7 ?c7 ?k7 (fun _ _ _ _ _ _ us hl=>match us,hl with | [_],_=>rfl)
   (case a7=>k_is);(case l7=>k_is);(case c7=>k_is);(case k7=>k_is)
  case d8=>
   refine' Ml.dz KX G ?a8 ?l8 ?c8 ?k8 (fun _ _ _ _ _ _ us hl=>match us,hl with | [_,_],_=>rfl)
   (case a8=>k_is);(case l8=>k_is);(case c8=>k_is);(case k8=>k_is)
  case d9=>
   refine' Ml.dz KX G ?a9 ?l9 ?c9 ?k9 (fun _ _ _ _ _ _ us hl=>match us,hl with | [_,_,_],_=>rfl)
   (case a9=>k_is);(case l9=>k_is);(case c9=>k_is);(case k9=>k_is)
  case d10=>
   refine' Ml.dz KX G ?a10 ?l10 ?c10 ?k10 (fun _ _ _ _ _ _ us hl=>match us,hl with | [_,_],_=>rfl)
   (case a10=>k_is);(case l10=>k_is);(case c10=>k_is);(case k10=>k_is)
  case d11=>
   refine' Ml.dz KX G ?a11 ?l11 ?c11 ?k11 (fun _ _ _ _ _ _ us hl=>match us,hl with | [_,_],_=>rfl)
   (case a11=>k_is);(case l11=>k_is);(case c11=>k_is);(case k11=>k_is)
  case d12=>
   refine' Ml.dz KX G ?a12 ?l12 ?c12 ?k12 (fun _ _ _ _ _ _ us hl=>match us,hl with | [_],_=>rfl)
   (case a12=>k_is);(case l12=>k_is);(case c12=>k_is);(case k12=>k_is)
  case d13=>
   refine' Ml.dz KX G ?a13 ?l13 ?c13 ?k13 (fun _ _ _ _ _ _ us hl=>match us,hl with | [_],_=>rfl)
   (case a13=>k_is);(case l13=>k_is);(case c13=>k_is);(case k13=>k_is)
  case d14=>
   refine' Ml.dz KX G ?a14 ?l14 ?c14 ?k14 (fun _ _ _ _ _ _ us hl=>match us,hl with | [_,_],_=>rfl)
   (case a14=>k_is);(case l14=>k_is);(case c14=>k_is);(case k14=>k_is)
  case d15=>
   refine' Ml.dz KX G ?a15 ?l15 ?c15 ?k15 (fun _ _ _ _ _ _ us hl=>match us,hl with | [_,_],_=>rfl)
   (case a15=>k_is);(case l15=>k_is);(case c15=>k_is);(case k15=>k_is)
  case d16=>
   refine' Ml.dz KX G ?a16 ?l16 ?c16 ?k16 (fun _ _ _ _ _ _ us hl=>match us,hl with | [_,_,_],_=>rfl)
   (case a16=>k_is);(case l16=>k_is);(case c16=>k_is);(case k16=>k_is)
  case d17=>
   refine' Ml.dz KX G ?a17 ?l17 ?c17 ?k17 (fun _ _ _ _ _ _ us hl=>match us,hl with | [_,_],_=>rfl)
   (case a17=>k_is);(case l17=>k_is);(case c17=>k_is);(case k17=>k_is)
  case d18=>
   refine' Ml.dz KX G ?a18 ?l18 ?c18 ?k18 (fun _ _ _ _ _ _ us hl=>match us,hl with | [_],_=>rfl)
   (case a18=>k_is);(case l18=>k_is);(case c18=>k_is);(case k18=>k_is)
  case d19=>
   refine' Ml.dz KX G ?a19 ?l19 ?c19 ?k19 (fun _ _ _ _ _ _ us hl=>match us,hl with | [_,_,_],_=>rfl)
   (case a19=>k_is);(case l19=>k_is);(case c19=>k_is);(case k19=>k_is)
  case d20=>
   refine' Ml.dz KX G ?a20 ?l20 ?c20 ?k20 (fun _ _ _ _ _ _ us hl=>match us,hl with | [_,_],_=>rfl)
   (case a20=>k_is);(case l20=>k_is);(case c20=>k_is);(case k20=>k_is)
  case d21=>
   refine' Ml.dz KX G ?a21 ?l21 ?c21 ?k21 (fun _ _ _ _ _ _ us hl=>match us,hl with | [_],_=>rfl)
   (case a21=>k_is);(case l21=>k_is);(case c21=>k_is);(case k21=>k_is)
  case d22=>
   refine' Ml.dz KX G ?a22 ?l22 ?c22 ?k22 (fun _ _ _ _ _ _ us hl=>match us,hl with | [_],_=>rfl)
   (case a22=>k_is);(case l22=>k_is);(case c22=>k_is);(case k22=>k_is)
  (case a=>k_is);(case l=>k_is);(case c=>k_is);(case k=>k_is)
