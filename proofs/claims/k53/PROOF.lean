import PyProof.Rows.All
import Wide.All
import OpenK.AllK
import Wide.FinOn
import Lean
import PyProof.EqAt
import PyProof.EqKinds
import PyProof.TupleCall
import PySem.Challenge.RW_closepoints_k53_whole_turned_points
noncomputable section
set_option Elab.async false
set_option linter.all false
set_option maxRecDepth 100000
local macro_rules|`(tactic| walk_at "9")=>`(tactic| first|k_is|kernel_rfl|decide)
set_option compiler.extract_closed false
-- CHANGE: your row's module here,as the last of these rows
namespace L2
open PySem PySem.Spec PyProof.Rows

abbrev eY:=Sum Int Str
def mX:eY->Value->Bool
 | .inl k,v=>Value.isInt k v
 | .inr x,v=>Value.isStrOf x v
def ZK (w:World):eY->Int
 | .inl k=>hashInt k
 | .inr x=>hashStr w x
theorem bK:∀ {k:eY} {v:Value},mX k v=true->(∃ i t,k=Sum.inl i/\v=Value.int i t)\/(∃ x t,k=Sum.inr x/\v=Value.str x t)
 | .inl i,v,h=>by
  obtain⟨t,e⟩:=Value.isInt_shape (k:=i) (v:=v) h;exact .inl ⟨i,t,rfl,e⟩
 | .inr x,v,h=>by
  obtain⟨t,e⟩:=Value.isStrOf_shape (x:=x) (v:=v) h;exact .inr ⟨x,t,rfl,e⟩
theorem wX (i:Int)(t:Tok):mX (.inl i) (.int i t)=true:=by simp [mX,Value.isInt]
theorem wY (x:Str)(t:Tok):mX (.inr x) (.str x t)=true:=by simp [mX,Value.isStrOf]
theorem KJ (a b:Int):decide ((Sum.inl a:eY)=Sum.inl b)=(a==b):=by
 by_cases e:a=b
 ·subst e;simp
 ·have h:¬ (Sum.inl a:eY)=Sum.inl b:=λq=>e (Sum.inl.inj q)
  rw[decide_eq_false h];exact (beq_eq_false_iff_ne.mpr e).symm
theorem KK (a b:Str):decide ((Sum.inr a:eY)=Sum.inr b)=decide (a=b):=by
 by_cases e:a=b
 ·subst e;simp
 ·have h:¬ (Sum.inr a:eY)=Sum.inr b:=λq=>e (Sum.inr.inj q)
  rw[decide_eq_false h,decide_eq_false e]
theorem KL (a:Int)(b:Str):decide ((Sum.inl a:eY)=Sum.inr b)=false:=decide_eq_false (λq=>nomatch q)
theorem KM (a:Str)(b:Int):decide ((Sum.inr a:eY)=Sum.inl b)=false:=decide_eq_false (λq=>nomatch q)

def cD (prog:Program)(w:World):PySem.KeyKind prog w eY where
 is:=mX
 hash:=ZK w
 inj:=λv a b ha hb=>by
  rcases bK ha with ⟨i,t,rfl,rfl⟩|⟨x,t,rfl,rfl⟩
  ·rcases bK hb with ⟨j,u,rfl,e⟩|⟨y,u,rfl,e⟩
   ·injection e with e1 _;rw[e1]
   ·exact nomatch e
  ·rcases bK hb with ⟨j,u,rfl,e⟩|⟨y,u,rfl,e⟩
   ·exact nomatch e
   ·injection e with e1 _;rw[e1]
 byValue:=λk v h=>by
  rcases bK h with ⟨i,t,rfl,rfl⟩|⟨x,t,rfl,rfl⟩<;>rfl
 pyHash:=λhv h=>by
  rcases bK hv with ⟨i,t,rfl,rfl⟩|⟨x,t,rfl,rfl⟩
  ·exact wpAny_pyHash_int h
  ·exact wpAny_pyHash_str h
 eqBool:=λhu hv h=>by
  rcases bK hu with ⟨i,t,rfl,rfl⟩|⟨x,t,rfl,rfl⟩
  ·rcases bK hv with ⟨j,u,rfl,rfl⟩|⟨y,u,rfl,rfl⟩
   ·rw[KJ] at h;exact wpAny_eqBool_int h
   ·rw[KL] at h;exact SeqAt.EqAt.int_str i t y u _ _ _ _ h
  ·rcases bK hv with ⟨j,u,rfl,rfl⟩|⟨y,u,rfl,rfl⟩
   ·rw[KM] at h;exact SeqAt.EqAt.str_int x t j u _ _ _ _ h
   ·rw[KK] at h;exact wpAny_eqBool_str h
 «strs»:=λk x t v h=>by
  rcases bK h with ⟨i,u,rfl,e⟩|⟨y,u,rfl,e⟩
  ·exact nomatch e
  ·injection e with e1 _
   subst e1;cases v<;>rfl

theorem qz (prog:Program)(w:World)(i:Int)(t:Tok):(cD prog w).is (.inl i) (.int i t)=true:=wX i t
theorem qA (prog:Program)(w:World)(x:Str)(t:Tok):(cD prog w).is (.inr x) (.str x t)=true:=wY x t
end L2

namespace L2
open PySem PySem.Spec PyProof.Rows

inductive V where
 | non|bl (b:Bool)|int (i:Int)|str (x:Str)|byt (b:Array UInt8)|flt (b:UInt64)|ref (a:Addr)|ty (n:String)
 deriving DecidableEq

def RelV:V->Value->Prop
 | .non,u=>u=Value.none
 | .bl b,u=>u=Value.bool b
 | .int i,u=>∃ t,u=Value.int i t
 | .str x,u=>∃ t,u=Value.str x t
 | .byt b,u=>∃ t,u=Value.bytes b t
 | .flt b,u=>∃ t,u=Value.float b t
 | .ref a,u=>u=Value.ref a
 | .ty n,u=>u=Value.type n

abbrev Vals:List V->List Value->Prop:=Paired RelV
theorem Vals.length {xs:List V}{us:List Value}(r:Vals xs us):xs.length=us.length:=Paired.length r
theorem Vals.get:∀ {xs:List V} {us:List Value} {i:Nat} {x:V},Vals xs us->xs[i]?=some x->∃ u,us[i]?=some u/\RelV x u
 | _,_,_,_,.nil,e=>by simp at e
 | _,_,0,_,.cons r _,e=>by simp at e;subst e;exact⟨_,rfl,r⟩
 | _,_,i+1,x,.cons _ t,e=>by
  obtain⟨u,h1,h2⟩:=Vals.get (i:=i) (x:=x) t (by simpa using e)
  exact⟨u,by simpa using h1,h2⟩
theorem Vals.set {x:V}{u:Value}(r:RelV x u):∀ {xs:List V} {us:List Value} (i:Nat),Vals xs us->Vals (xs.set i x) (us.set i u)
 | _,_,_,.nil=>.nil
 | _,_,0,.cons _ t=>.cons r t
 | _,_,i+1,.cons q t=>.cons q (Vals.set r i t)
theorem Vals.append:∀ {xs ys:List V} {us ws:List Value},Vals xs us->Vals ys ws->Vals (xs++ys) (us++ws)
 | _,_,_,_,.nil,s=>s
 | _,_,_,_,.cons r t,s=>.cons r (Vals.append t s)
theorem Vals.take:∀ {xs:List V} {us:List Value} (n:Nat),Vals xs us->Vals (xs.take n) (us.take n)
 | _,_,0,_=>.nil
 | _,_,_+1,.nil=>.nil
 | _,_,n+1,.cons r t=>.cons r (Vals.take n t)
theorem Vals.drop:∀ {xs:List V} {us:List Value} (n:Nat),Vals xs us->Vals (xs.drop n) (us.drop n)
 | _,_,0,r=>r
 | _,_,_+1,.nil=>.nil
 | _,_,n+1,.cons _ t=>Vals.drop n t
def KN:Option V->Option Value->Prop
 | some v,some u=>RelV v u
 | none,none=>True
 | _,_=>False
def KV {κ:Type}:List (κ×V)->List (κ×Value)->Prop:=Paired λ(p:κ×V) (q:κ×Value)=>p.1=q.1/\RelV p.2 q.2

def kV:eY->V
 | .inl i=>.int i
 | .inr x=>.str x

inductive HO where
 /-- a list -/
 | lst (xs:List V)
 /-- a tuple (never changes) -/
 | tup (xs:List V)
 /-- a dict whose keys are ints and texts;one whose keys are tuples of ints and texts (the empty one is both) -/
 | dK (kvs:List (eY×V))|dT (kvs:List (List eY×V))
 /-- a set of ints: its members,its size -/
 | set (S:Int->Bool) (n:Nat)
 /-- an instance of the class at C,its dict at dx,its attributes -/
 | ins (C dx:Addr) (fs:List (Str×V))
 /-- the dict of the instance at x -/
 | own (x:Addr)
 /-- the dict of an exception -/
 | xd (fs:List (Str×V))
 /-- a bound method,f of x -/
 | met (f x:Addr)
 /-- a range object lo,lo+1,.. below hi -/
 | rng (lo hi:Int)
 /-- a thing that is known to the object (the script;a dict while a loop walks it): read,never written while it is so -/
 | frz (o:Obj) (u:HO)
 /-- a code object's table -/
 | tbl (ps:Array Value)
 /-- the same,and it may grow by the code of one lambda: as it was,the lambda's place,its name -/
 | lam (ps:Array Value) (pos:Pos) (qual:Str)
 /-- any other thing,by what is true of its one object (a def of one's own: SetO a S n:=HO.ext λh=>..) -/
 | ext (φ:Heap->Prop)

abbrev Hp:=Addr->Option HO
def bG (H:Hp)(a:Addr)(o:HO):Hp:=λb=>if b=a then some o else H b
theorem aH {H:Hp}{a:Addr}{o:HO}:bG H a o a=some o:=by unfold bG;rw[if_pos rfl]
theorem ao {H:Hp}{a b:Addr}{o:HO}(h:b≠a):bG H a o b=H b:=by unfold bG;rw[if_neg h]
theorem bN {H:Hp}{a b:Addr}{o:HO}(h:H a=some o)(h':H b=none):a≠b:=by
 intro e;subst e;rw[h] at h';cases h'

section
variable (P:Program)(w:World)
def ObjOk (H:Hp)(h:Heap)(a:Addr):HO->Prop
 | .lst xs=>xs.length<=sizeLine/\∃ (its:List Value) (n:Nat),Vals xs its/\h.get? a=some { cls:=.type "list",data:=.seq its.toArray n }
 | .tup xs=>xs.length<=sizeLine/\∃ its:List Value,Vals xs its/\IsTup h a its.toArray
 | .dK kvs=>kvs.length<=sizeLine/\(a==sysModules)=false/\∃ vs,KV kvs vs/\h.DictOf (cD P w) a vs
 | .dT kvs=>kvs.length<=sizeLine/\(a==sysModules)=false/\∃ xs:List (List eY×Addr×Value),
   Paired (λ(p:List eY×V) (q:List eY×Addr×Value)=>p.1=q.1/\H q.2.1=some (.tup (p.1.map kV))/\RelV p.2 q.2.2) kvs xs /\
   ∃ o es ep,h.get? a=some o/\o.ExactDict/\o.data=.dict es ep/\es.toList=xs.map (entryOfKey (tupleKind (cD P w)))/\(xs.map (·.1)).Nodup
 | .set S n=>h.SetOf (intKind P w) a S n
 | .ins C dx fs=>H dx=some (.own a)/\fs.length<=1000/\dx≠a/\h.get? a=some (PySem.W.instObj C dx) /\
   ∃ mA,h.Ns1 dx mA/\(∀ f,KN (fs.lookup f) (mA f))/\PySem.Within mA (fs.map (·.1))
 | .own _=>∃ o,h.get? a=some o
 | .xd fs=>∃ mA,h.Ns1 a mA/\∀ f,KN (fs.lookup f) (mA f)
 | .rng lo hi=>∃ t u v,h.get? a=some { cls:=.type "range",data:=.fields #[.int lo t,.int hi u,.int 1 v] }
 | .frz o u=>h.get? a=some o/\ObjOk H h a u
 | .tbl ps=>h.get? a=some { cls:=.none,data:=.fields ps }
 | .lam ps pos qual=>∃ more,h.get? a=some { cls:=.none,data:=.fields (ps++more) }/\TriplesOk (ps++more).toList/\(codeAmong pos (ps++more).toList=none\/∃ c' o vs t,codeAmong pos (ps++more).toList=some (.ref c')/\H c'=some (.frz o (.own a))/\o.data=.fields vs/\vs[1]?=some (.str qual t))
 | .met f x=>h.get? a=some (PySem.W.methodObj (.ref f) (.ref x))
 | .ext φ=>φ h/\(∃ o,h.get? a=some o)/\∀ h1 h2:Heap,φ h1->(∀ o,h1.get? a=some o->h2.get? a=some o)->φ h2
def HOk (H:Hp)(h:Heap):Prop:=∀ a o,H a=some o->ObjOk P w H h a o
end

section
variable {P:Program}{w:World}{H H':Hp}{h h':Heap}{a:Addr}{o:HO}
theorem ObjOk.lt (x:ObjOk P w H h a o):a < h.objs.size:=by
 cases o with
 | lst xs=>obtain⟨_,_,_,_,e⟩:=x;exact Heap.lt_size e
 | tup xs=>obtain⟨_,_,_,p⟩:=x;exact p.lt
 | dK kvs=>obtain⟨_,_,_,_,o,_,_,e,_⟩:=x;exact Heap.lt_size e
 | dT kvs=>obtain⟨_,_,_,_,o,_,_,e,_⟩:=x;exact Heap.lt_size e
 | set S n=>obtain⟨o,_,_,_,e,_⟩:=x;exact Heap.lt_size e
 | ins C dx fs=>obtain⟨_,_,_,e,_⟩:=x;exact Heap.lt_size e
 | own y=>obtain⟨_,e⟩:=x;exact Heap.lt_size e
 | xd fs=>obtain⟨_,⟨_,_,_,e,_⟩,_⟩:=x;exact Heap.lt_size e
 | rng lo hi=>obtain⟨_,_,_,e⟩:=x;exact Heap.lt_size e
 | frz ob u=>obtain⟨e,_⟩:=x;exact Heap.lt_size e
 | tbl ps=>exact Heap.lt_size (show h.get? a=some _ from x)
 | lam ps pos qual=>obtain⟨_,e,_⟩:=x;exact Heap.lt_size e
 | met f y=>exact Heap.lt_size (show h.get? a=some _ from x)
 | ext φ=>obtain⟨_,⟨_,e⟩,_⟩:=x;exact Heap.lt_size e
theorem Paired.mapP {α β:Type}{F G:α->β->Prop}:∀ {l₁:List α} {l₂:List β},Paired F l₁ l₂->(∀ a b,F a b->G a b)->Paired G l₁ l₂
 | _,_,.nil,_=>.nil
 | _,_,.cons r t,f=>.cons (f _ _ r) (Paired.mapP t f)
theorem ObjOk.stay (x:ObjOk P w H h a o)(k:∀ b u,(b=a\/H b=some (.own a))->h.get? b=some u->h'.get? b=some u)
  (ho:∀ b,H b=some (.own a)->H' b=some (.own a)) (ht:∀ b xs,H b=some (.tup xs)->H' b=some (.tup xs)) (hf:∀ b o u,H b=some (.frz o u)->H' b=some (.frz o u):=by exact λ_ _ _ q=>q):ObjOk P w H' h' a o:=by
 induction o with
 | lst xs=>obtain⟨z,its,n,r,e⟩:=x;exact⟨z,its,n,r,k _ _ (.inl rfl) e⟩
 | tup xs=>obtain⟨z,its,r,ob,e,c⟩:=x;exact⟨z,its,r,ob,k _ _ (.inl rfl) e,c⟩
 | dK kvs=>obtain⟨z,y,vs,r,ob,es,ep,e,c⟩:=x;exact⟨z,y,vs,r,ob,es,ep,k _ _ (.inl rfl) e,c⟩
 | dT kvs =>
  obtain⟨z,y,xs,r,ob,es,ep,e,c⟩:=x;exact⟨z,y,xs,Paired.mapP r λp q z=>⟨z.1,ht _ _ z.2.1,z.2.2⟩,ob,es,ep,k _ _ (.inl rfl) e,c⟩
 | set S n=>obtain⟨ob,es,ep,t,e,c⟩:=x;exact⟨ob,es,ep,t,k _ _ (.inl rfl) e,c⟩
 | ins C dx fs =>
  obtain⟨d,z,ne,e,mA,⟨od,es,ep,e2,c⟩,r⟩:=x;exact⟨ho _ d,z,ne,k _ _ (.inl rfl) e,mA,⟨od,es,ep,k _ _ (.inr d) e2,c⟩,r⟩
 | own y=>obtain⟨ob,e⟩:=x;exact⟨ob,k _ _ (.inl rfl) e⟩
 | xd fs=>obtain⟨mA,⟨od,es,ep,e,c⟩,r⟩:=x;exact⟨mA,⟨od,es,ep,k _ _ (.inl rfl) e,c⟩,r⟩
 | rng lo hi=>obtain⟨t,u,v,e⟩:=x;exact⟨t,u,v,k _ _ (.inl rfl) e⟩
 | frz ob u ih=>obtain⟨e,q⟩:=x;exact⟨k _ _ (.inl rfl) e,ih q⟩
 | lam ps pos qual =>
  obtain⟨more,e,tr,c⟩:=x;refine⟨more,k _ _ (.inl rfl) e,tr,?_⟩;rcases c with c|⟨c',o,vs,t,c1,c2,c3⟩
  ·exact .inl c
  ·exact .inr ⟨c',o,vs,t,c1,hf _ _ _ c2,c3⟩
 | tbl ps =>
  have e:h.get? a=some { cls:=.none,data:=.fields ps }:=x;show h'.get? a=some { cls:=.none,data:=.fields ps };exact k a _ (.inl rfl) e
 | met f y =>
  have e:h.get? a=some (PySem.W.methodObj (.ref f) (.ref y)):=x;show h'.get? a=some (PySem.W.methodObj (.ref f) (.ref y));exact k a _ (.inl rfl) e
 | ext φ=>obtain⟨p,⟨o,e⟩,st⟩:=x;exact⟨st _ _ p λo q=>k _ _ (.inl rfl) q,⟨o,k _ _ (.inl rfl) e⟩,st⟩
theorem HOk.lt (x:HOk P w H h)(e:H a=some o):a < h.objs.size:=(x a o e).lt
theorem HOk.fresh (x:HOk P w H h)(e:h.objs.size<=a):H a=none:=by
 cases q:H a with
 | none=>rfl
 | some u=>exact absurd (Nat.lt_of_lt_of_le (x.lt q) e) (Nat.lt_irrefl _)
theorem HOk.kept (x:HOk P w H h)(k:∀ b u,h.get? b=some u->h'.get? b=some u):HOk P w H h':=λa o e =>
 (x a o e).stay (λb u _ q=>k b u q) (λ_ q=>q) λ_ _ q=>q
theorem HOk.laid (x:HOk P w H h)(k:∀ b u,h.get? b=some u->h'.get? b=some u)(hp:h.objs.size<=a)(new:ObjOk P w (bG H a o) h' a o):HOk P w (bG H a o) h':=λb u e=>by
 have hn:=x.fresh hp
 by_cases hb:b=a
 ·subst hb;rw[aH] at e;cases e;exact new
 ·rw[ao hb] at e
  exact (x b u e).stay (λc v _ q=>k c v q) (λc q=>by rw[ao (bN q hn)];exact q) (λc xs q=>by rw[ao (bN q hn)];exact q) λc o u q=>by rw[ao (bN q hn)];exact q
end

def Rd (H:Hp)(a:Addr)(u:HO):Prop:=H a=some u\/∃ o,H a=some (.frz o u)
theorem Rd.ok {P:Program}{w:World}{H:Hp}{h:Heap}{a:Addr}{u:HO}(r:Rd H a u)(x:HOk P w H h):ObjOk P w H h a u:=by
 rcases r with r|⟨o,r⟩
 ·exact x a u r
 ·obtain⟨_,q⟩:=x a _ r
  exact q
def Vh:Option HO->Prop
 | some (.lst _)=>True
 | some (.dK _)=>True
 | some (.dT _)=>True
 | some (.set _ _)=>True
 | some (.ins _ _ _)=>True
 | some (.ext _)=>True
 | some (.lam _ _ _)=>True
 | _=>False
section
variable {P:Program}{w:World}{H:Hp}{h h':Heap}{x e:Addr}{o':HO}
theorem HOk.write (ok:HOk P w H h)(mu:Vh (H x))(he:e=x\/H e=some (.own x))(k:∀ b u,b≠e->h.get? b=some u->h'.get? b=some u)(heo:∃ u,h'.get? e=some u)
  (new:ObjOk P w (bG H x o') h' x o'):HOk P w (bG H x o') h':=λb u q=>by
 have nown:∀ c y,H c=some (.own y)->c≠x:=λc y r z=>by subst z;rw[r] at mu;exact mu
 have ntup:∀ c xs,H c=some (.tup xs)->c≠x:=λc xs r z=>by subst z;rw[r] at mu;exact mu
 by_cases hb:b=x
 ·subst hb;rw[aH] at q;cases q;exact new
 ·rw[ao hb] at q
  by_cases hbe:b=e
  ·have q':H b=some (.own x):=by
    rcases he with z|z
    ·exact absurd (hbe.trans z) hb
    ·rw[hbe];exact z
   rw[q] at q';cases q';obtain⟨v,hv⟩:=heo;exact⟨v,by rw[hbe];exact hv⟩
  ·refine (ok b u q).stay (λc v hc r=>k c v ?_ r) (λc r=>by rw[ao (nown c b r)];exact r) (λc xs r=>by rw[ao (ntup c xs r)];exact r) λc o u r=>by rw[ao (λz=>by subst z;rw[r] at mu;exact mu)];exact r
   rcases hc with rfl|hc
   ·exact hbe
   ·rintro rfl
    rcases he with z|z
    ·exact nown c b hc z
    ·rw[hc] at z;cases z;exact hb rfl
end

structure Un (fs ex:List Addr)(H H':Hp)(h h':Heap):Prop where
 keep:∀ b o,h.get? b=some o->H b=none->b∉fs->b∉ex->h'.get? b=some o
 slot:∀ b o,h.get? b=some o->H b=none->b∈fs->b∉ex->∃ sl,h'.get? b=some { o with slots:=sl }
 free:∀ b o,h.get? b=some o->H b=none->b∉ex->H' b=none
 there:∀ b o,h.get? b=some o->b∉ex->∃ o',h'.get? b=some o'
 tups:∀ b xs,H b=some (.tup xs)->H' b=some (.tup xs)
 frzs:∀ b o u,H b=some (.frz o u)->H' b=some (.frz o u)
 tbls:∀ b ps,H b=some (.tbl ps)->∃ more,H' b=some (.tbl (ps++more))
section
variable {fs fs' ex ex':List Addr}{H H1 H2:Hp}{h h1 h2 h':Heap}{a x e:Addr}{o:HO}
theorem Un.any (u:Un fs ex H H1 h h1){b:Addr}{ob:Obj}(q:h.get? b=some ob)(n:H b=none)(hx:b∉ex):∃ sl,h1.get? b=some { ob with slots:=sl }:=by
 by_cases hb:b∈fs
 ·exact u.slot b ob q n hb hx
 ·exact⟨ob.slots,u.keep b ob q n hb hx⟩
theorem Un.kept (k:∀ b u,h.get? b=some u->h'.get? b=some u):Un fs ex H H h h' :=
 ⟨λb ob q _ _ _=>k b ob q,λb ob q _ _ _=>⟨ob.slots,k b ob q⟩,λ_ _ _ n _=>n,λb ob q _=>⟨ob,k b ob q⟩,λ_ _ q=>q,λ_ _ _ q=>q,λ_ ps q=>⟨#[],by rw[q];simp⟩⟩
theorem Un.refl:Un fs ex H H h h:=Un.kept λ_ _ q=>q
theorem Un.laid (k:∀ b u,h.get? b=some u->h'.get? b=some u)(hp:h.objs.size<=a)(hn:H a=none):Un fs ex H (bG H a o) h h' where
 keep:=λb u q _ _ _=>k b u q
 slot:=λb u q _ _ _=>⟨u.slots,k b u q⟩
 free:=λb u q n _=>by rw[ao (Nat.ne_of_lt (Nat.lt_of_lt_of_le (Heap.lt_size q) hp))];exact n
 there:=λb u q _=>⟨u,k b u q⟩
 tups:=λb xs q=>by rw[ao (bN q hn)];exact q
 frzs:=λb u xs q=>by rw[ao (bN q hn)];exact q
 tbls:=λb ps q=>⟨#[],by rw[ao (bN q hn),q];simp⟩
theorem Un.write (mu:Vh (H x))(he:e=x\/H e=some (.own x))(k:∀ b u,b≠e->h.get? b=some u->h'.get? b=some u)(heo:∃ u,h'.get? e=some u):Un fs ex H (bG H x o) h h':=by
 have hx:∀ b,H b=none->b≠x:=λb n z=>by subst z;rw[n] at mu;exact mu
 have hb:∀ b,H b=none->b≠e:=λb n z=>by
  subst z;rcases he with r|r
  ·exact hx b n r
  ·rw[n] at r;cases r
 have hm:∀ b u,H b=some u->¬ Vh (some u)->b≠x:=λb u q nm z=>by subst z;rw[q] at mu;exact nm mu
 refine⟨λb u q n _ _=>k b u (hb b n) q,λb u q n _ _=>⟨u.slots,k b u (hb b n) q⟩,λb u q n _=>by rw[ao (hx b n)];exact n,λb u q _=>?_,
  λb xs q=>by rw[ao (hm b _ q λz=>z)];exact q,λb u xs q=>by rw[ao (hm b _ q λz=>z)];exact q,λb ps q=>⟨#[],by rw[ao (hm b _ q λz=>z),q];simp⟩⟩
 by_cases hbe:b=e
 ·subst hbe;exact heo
 ·exact⟨u,k b u hbe q⟩
end

def Zw (h:Heap)(H:Hp):List Addr:=(List.range h.objs.size).filter λa=>(H a).isSome
def oj (h:Heap)(H:Hp):Heap:=PySem.W.hideAll h (Zw h H)
theorem wZ (h:Heap)(H:Hp):(oj h H).objs.size=h.objs.size:=PySem.W.hideAll_size _ _
theorem yi {h:Heap}{H:Hp}{b:Addr}{o:Obj}(e:h.get? b=some o)(n:H b=none):(oj h H).get? b=some o :=
 PySem.W.hideAll_get _ e λhm=>by
  have q:(H b).isSome=true:=(List.mem_filter.mp hm).2;rw[n] at q;simp at q
theorem Gn {h:Heap}{H:Hp}{b:Addr}{o:Obj}(e:(oj h H).get? b=some o):h.get? b=some o/\H b=none:=by
 have e':h.get? b=some o:=PySem.W.of_hideAll (Zw h H) e;refine⟨e',?_⟩;cases q:H b with
 | none=>rfl
 | some x =>
  have hm:b∈Zw h H:=List.mem_filter.mpr ⟨List.mem_range.mpr (Heap.lt_size e'),by simp [q]⟩
  have z:(oj h H).get? b=none:=PySem.W.hideAll_none (Zw h H) hm;rw[z] at e;cases e

def Go (g h:Heap)(L:Addr):List (Addr×Obj):=(List.range h.objs.size).filterMap λa=>if a=L\/(g.get? a).isSome=true then none else (h.get? a).map λo=>(a,o)
def rest (g h:Heap)(L d:Addr):List (Addr×Obj):=(Go g h L).filter λp=>decide (p.1≠d)
end L2

namespace L2
open PySem PySem.Spec PyProof.Rows

structure Mod (K:PySem.W.Frag)(mg:Str->Option Value)(base:Heap):Prop where
 kin:K.In base
 glob:base.Ns mainGlobals mg
 blt:∃ mb,base.Ns builtinsNs mb/\∀ x:Str,x≠"__name__"->mb x=bootBuiltins x
 nolimit:base.NoLimit

structure Cx where
 prog:Program
 w:World
 K:PySem.W.Frag
 mg:Str->Option Value
 base:Heap
 A:Around
 N:List Str
 s₀:Shared
 H₀:Hp
 env:Env
 outer:List Env
 stack:List Env
 ex:List Addr
 fn:Str->Bool
 calm:Bool
 pn:List (Addr×Obj)
 xe:Value->Shared->Prop
def yj (l:List Env):List Addr:=l.filterMap (·.frame)
abbrev Cx.fs (X:Cx):List Addr:=yj X.outer

def KO (sc:Scope)(x:Str):Prop:=sc.names.lookup x=some .local\/sc.names.lookup x=some .cell\/sc.names.lookup x=some .free
def Loc (sc:Scope)(x:Str):Prop:=sc.names.lookup x=some .local\/sc.names.lookup x=some .cell
def ZL (env:Env)(h:Heap)(m:Str->Option Value)(x:Str)(u:Value):Prop :=
 (env.kindOf x=some .local/\m x=some u)\/((env.kindOf x=some .cell\/env.kindOf x=some .free)/\∃ c,env.cells.lookup x=some c/\h.IsCell c (some u))

structure Cx.Ok (X:Cx):Prop where
 mod:Mod X.K X.mg X.base
 kind:X.env.scope.kind=.function
 glob:X.env.globals=mainGlobals
 blt:X.env.builtins=builtinsNs
 above:X.s₀.heap.objs.size<=X.env.locals
 inj:∀ x y c,X.env.cells.lookup x=some c->X.env.cells.lookup y=some c->x=y
 has:∀ x,(X.env.kindOf x=some .cell\/X.env.kindOf x=some .free)->∃ c,X.env.cells.lookup x=some c
 cab:∀ x c,X.fn x=true->X.env.cells.lookup x=some c->X.s₀.heap.objs.size<=c
 hd:X.calm=true->X.A.handled=none
 frames:X.A.frames=some X.stack
 stk:X.stack=X.outer\/(X.stack=X.env::X.outer/\X.env.frame=some X.env.locals)
 exf:∀ b∈X.ex,b≠X.env.locals/\∀ x c,X.env.cells.lookup x=some c->c≠b
 bs:∀ b o,X.base.get? b=some o->X.s₀.heap.get? b=some o/\X.H₀ b=none
 bsz:X.base.objs.size<=X.s₀.heap.objs.size
 noex:∀ b o,X.base.get? b=some o->b∉X.ex
 exfs:∀ b∈X.ex,b∉X.fs
 funs:X.s₀.heap.FunFrames X.base X.outer
 frf:∀ b∈X.fs,X.H₀ b=none

structure Inv (X:Cx)(pins:List (Addr×Obj))(σ:List (Option V))(H:Hp)(s:Shared):Prop where
 ok:X.Ok
 os:s.os=X.s₀.os
 bare:AllBare s.gens
 base:Un X.fs X.ex X.H₀ H X.s₀.heap s.heap
 loc:∃ m,s.heap.Ns X.env.locals m/\∀ (i:Nat) (x:Str) (v:V),X.N[i]?=some x->σ[i]?=some (some v)->KO X.env.scope x->∃ u,RelV v u/\ZL X.env s.heap m x u
 cell:∀ x c,X.env.cells.lookup x=some c->∃ v,s.heap.IsCell c v
 free:H X.env.locals=none
 freeC:∀ x c,X.env.cells.lookup x=some c->H c=none
 pin:∀ p∈X.pn++pins,s.heap.get? p.1=some p.2/\H p.1=none/\p.1≠X.env.locals/\p.1∉X.fs/\∀ v,p.2.data≠.cell v
 hok:HOk X.prog X.w H s.heap
 len:σ.length=X.N.length

section
variable {X:Cx}{pins:List (Addr×Obj)}{σ:List (Option V)}{H H':Hp}{s:Shared}{h':Heap}

theorem Cx.Ok.nofr (ok:X.Ok){b:Addr}{o:Obj}(e:X.base.get? b=some o):b∉X.fs:=λhb=>by
 have:=(ok.funs.mem hb).1;rw[e] at this;cases this
theorem Inv.bs (I:Inv X pins σ H s):∀ b o,X.base.get? b=some o->s.heap.get? b=some o/\H b=none:=λb o e =>
 ⟨I.base.keep b o (I.ok.bs b o e).1 (I.ok.bs b o e).2 (I.ok.nofr e) (I.ok.noex b o e),I.base.free b o (I.ok.bs b o e).1 (I.ok.bs b o e).2 (I.ok.noex b o e)⟩
theorem Inv.bk (I:Inv X pins σ H s):∀ b o,X.base.get? b=some o->s.heap.get? b=some o:=λb o e=>(I.bs b o e).1
theorem Inv.mod (I:Inv X pins σ H s):Mod X.K X.mg X.base:=I.ok.mod
theorem Inv.kIn (I:Inv X pins σ H s):X.K.In s.heap:=I.ok.mod.kin.keeps I.bk
theorem Inv.nolimit (I:Inv X pins σ H s):s.heap.NoLimit:=I.ok.mod.nolimit.keeps I.bk
theorem Inv.fr (I:Inv X pins σ H s):∃ m,Fr X.base X.env.locals s.heap m :=
 let ⟨m,hn,_⟩:=I.loc
 ⟨m,hn,I.bk,Nat.le_trans I.ok.bsz I.ok.above⟩
theorem Inv.lt (I:Inv X pins σ H s):X.env.locals < s.heap.objs.size:=let ⟨_,hn,_⟩:=I.loc;hn.lt
theorem Inv.sz (I:Inv X pins σ H s):X.s₀.heap.objs.size<=s.heap.objs.size:=Nat.le_trans I.ok.above (Nat.le_of_lt I.lt)
theorem Inv.nofs (I:Inv X pins σ H s){a:Addr}(h:s.heap.objs.size<=a):a∉X.fs:=λhb=>by
 obtain⟨_,o,ho,_⟩:=I.ok.funs.mem hb;exact absurd (Nat.lt_of_lt_of_le (Heap.lt_size ho) (Nat.le_trans I.sz h)) (Nat.lt_irrefl _)
theorem Inv.cne (I:Inv X pins σ H s):∀ x c,X.env.cells.lookup x=some c->c≠X.env.locals:=λx c e z=>by
 obtain⟨v,o,ho,hd⟩:=I.cell x c e;obtain⟨m,⟨o',es,ep,ho',hd',_⟩,_⟩:=I.loc;rw[z,ho'] at ho;cases ho;rw[hd'] at hd;cases hd
theorem Inv.funs (I:Inv X pins σ H s):s.heap.FunFrames X.base X.outer:=by
 have all:∀ (l:List Env),(∀ b∈yj l,b∈X.fs)->X.s₀.heap.FunFrames X.base l->s.heap.FunFrames X.base l:=by
  intro l
  induction l with
  | nil=>intro _ _;trivial
  | cons env r ih =>
   intro hs hl;obtain⟨hk,⟨L,o,hf,hn,ho,hd⟩,hr⟩:=hl;have hL:L∈X.fs:=hs L (by unfold yj;rw[List.filterMap_cons,hf];exact List.mem_cons_self)
   obtain⟨sl,e⟩:=I.base.slot L o ho (I.ok.frf L hL) hL λz=>I.ok.exfs L z hL;exact⟨hk,⟨L,_,hf,hn,e,hd⟩,ih (λb hb=>hs b (by unfold yj;rw[List.filterMap_cons,hf];exact List.mem_cons_of_mem _ hb)) hr⟩
 exact all X.outer (λ_ hb=>hb) I.ok.funs

theorem Inv.stack (I:Inv X pins σ H s):s.heap.FunFrames X.base X.stack:=by
 rcases I.ok.stk with e|⟨e,hf⟩
 ·rw[e];exact I.funs
 ·rw[e]
  obtain⟨m,hn,_⟩:=I.loc;refine .cons (by rw[I.ok.kind];decide) hf hn ?_ I.funs
  exact Heap.get?_none_of_le (Nat.le_trans I.ok.bsz I.ok.above)
theorem Inv.stkSub (I:Inv X pins σ H s):∀ b∈yj X.stack,b∈X.env.locals::X.fs:=λb hb=>by
 rcases I.ok.stk with e|⟨e,hf⟩
 ·rw[e] at hb;exact List.mem_cons_of_mem _ hb
 ·rw[e] at hb
  unfold yj at hb;rw[List.filterMap_cons,hf] at hb;exact hb
theorem Inv.stkFree (I:Inv X pins σ H s):∀ b∈yj X.stack,H b=none:=λb hb=>by
 rcases List.mem_cons.mp (I.stkSub b hb) with e|hb
 ·rw[e];exact I.free
 ·obtain⟨_,o,ho,_⟩:=I.ok.funs.mem hb
  exact I.base.free b o ho (I.ok.frf b hb) λz=>I.ok.exfs b z hb

theorem Inv.step {g':Array GenState}{t':Nat}{d':Drawn}{ch:List Addr}(I:Inv X pins σ H s)
  (hch:∀ b∈ch,(b∈X.ex\/X.s₀.heap.get? b=none)/\b≠X.env.locals/\(∀ x c,X.env.cells.lookup x=some c->c≠b)/\∀ p∈X.pn++pins,p.1≠b)
  (keep:∀ b o,b≠X.env.locals->b∉X.fs->b∉ch->s.heap.get? b=some o->H b=none->h'.get? b=some o)
  (slot:∀ b o,b≠X.env.locals->b∈X.fs->b∉ch->s.heap.get? b=some o->H b=none->∃ sl,h'.get? b=some { o with slots:=sl }) (free:∀ b o,b∉ch->s.heap.get? b=some o->H b=none->H' b=none)
  (there:∀ b o,b∉ch->s.heap.get? b=some o->∃ o',h'.get? b=some o')
  (tups:∀ b xs,H b=some (.tup xs)->H' b=some (.tup xs)) (frzs:∀ b o u,H b=some (.frz o u)->H' b=some (.frz o u)) (tbls:∀ b ps,H b=some (.tbl ps)->∃ more,H' b=some (.tbl (ps++more)))
  (ns:∀ m,s.heap.Ns X.env.locals m->h'.Ns X.env.locals m) (hok:HOk X.prog X.w H' h') (hg:AllBare g') :
  Inv X pins σ H' { s with heap:=h',gens:=g',drawn:=d',toks:=t' }:=by
 have neL:∀ b o,X.s₀.heap.get? b=some o->b≠X.env.locals:=λb o e=>Nat.ne_of_lt (Nat.lt_of_lt_of_le (Heap.lt_size e) I.ok.above);have neC:∀ b o,X.s₀.heap.get? b=some o->b∉X.ex->b∉ch:=λb o e hx hb=>by
  rcases (hch b hb).1 with z|z
  ·exact hx z
  ·rw[e] at z;cases z
 have cellK:∀ x c,X.env.cells.lookup x=some c->∀ v,s.heap.IsCell c v->h'.IsCell c v:=λx c e v ⟨o,ho,hd⟩=>by
  have nch:c∉ch:=λz=>(hch c z).2.2.1 x c e rfl
  by_cases hc:c∈X.fs
  ·obtain⟨sl,q⟩:=slot c o (I.cne x c e) hc nch ho (I.freeC x c e)
   exact⟨_,q,hd⟩
  ·exact⟨o,keep c o (I.cne x c e) hc nch ho (I.freeC x c e),hd⟩
 refine⟨I.ok,I.os,hg,⟨λb o e n hb hx=>?_,λb o e n hb hx=>?_,λb o e n hx=>?_,λb o e hx=>?_,λb xs e=>tups b xs (I.base.tups b xs e),λb o xs e=>frzs b o xs (I.base.frzs b o xs e),λb ps e=>?_⟩,?_,λx c e=>?_,?_,λx c e=>?_,λp hp=>?_,hok,I.len⟩
 ·exact keep b o (neL b o e) hb (neC b o e hx) (I.base.keep b o e n hb hx) (I.base.free b o e n hx)
 ·obtain⟨sl,e1⟩:=I.base.slot b o e n hb hx
  obtain⟨sl',e2⟩:=slot b _ (neL b o e) hb (neC b o e hx) e1 (I.base.free b o e n hx);exact⟨sl',e2⟩
 ·obtain⟨o',e1⟩:=I.base.there b o e hx
  exact free b o' (neC b o e hx) e1 (I.base.free b o e n hx)
 ·obtain⟨o',e1⟩:=I.base.there b o e hx
  exact there b o' (neC b o e hx) e1
 ·obtain⟨m1,e1⟩:=I.base.tbls b ps e
  obtain⟨m2,e2⟩:=tbls b _ e1;exact⟨m1++m2,by rw[e2,Array.append_assoc]⟩
 ·obtain⟨m,hn,hl⟩:=I.loc
  refine⟨m,ns m hn,λi x v e1 e2 e3=>?_⟩;obtain⟨u,r,l⟩:=hl i x v e1 e2 e3;refine⟨u,r,?_⟩;rcases l with l|⟨k,c,e,z⟩
  ·exact .inl l
  ·exact .inr ⟨k,c,e,cellK x c e _ z⟩
 ·obtain⟨v,z⟩:=I.cell x c e
  exact⟨v,cellK x c e v z⟩
 ·obtain⟨m,⟨o,_,_,ho,_⟩,_⟩:=I.loc
  exact free _ o (λz=>(hch _ z).2.1 rfl) ho I.free
 ·obtain⟨v,o,ho,hd⟩:=I.cell x c e
  exact free c o (λz=>(hch c z).2.2.1 x c e rfl) ho (I.freeC x c e)
 ·obtain⟨e,n,ne,nf,d⟩:=I.pin p hp
  have nch:p.1∉ch:=λz=>(hch p.1 z).2.2.2 p hp rfl;exact⟨keep p.1 p.2 ne nf nch e n,free p.1 p.2 nch e n,ne,nf,d⟩
theorem Inv.un {t':Nat}(I:Inv X pins σ H s)(u:Un X.fs [] H H' s.heap h')(hok:HOk X.prog X.w H' h'):Inv X pins σ H' { s with heap:=h',toks:=t' }:=by
 obtain⟨m,⟨o,es,ep,ho,r⟩,_⟩:=id I.loc;obtain⟨sl,hL⟩:=u.any ho I.free (by simp)
 exact I.step (g':=s.gens) (d':=s.drawn) (ch:=[]) (λ_ z=>nomatch z) (λb o _ hb _ e n=>u.keep b o e n hb (by simp)) (λb o _ hb _ e n=>u.slot b o e n hb (by simp)) (λb o _ e n=>u.free b o e n (by simp)) (λb o _ e=>u.there b o e (by simp)) u.tups u.frzs u.tbls (λm' hm=>by
  obtain⟨o',es',ep',ho',r'⟩:=hm;rw[ho] at ho';cases ho';exact⟨_,es',ep',hL,r'⟩) hok I.bare
theorem Inv.call {g':Array GenState}{t':Nat}{d':Drawn}{ch:List Addr}(I:Inv X pins σ H s)(u:Un (yj X.stack) ch H H' s.heap h')(hok:HOk X.prog X.w H' h')(hg:AllBare g')
  (hch:∀ b∈ch,(b∈X.ex\/X.s₀.heap.get? b=none)/\b≠X.env.locals/\(∀ x c,X.env.cells.lookup x=some c->c≠b)/\∀ p∈X.pn++pins,p.1≠b) :
  Inv X pins σ H' { s with heap:=h',gens:=g',drawn:=d',toks:=t' }:=by
 obtain⟨m,⟨o,es,ep,ho,r⟩,_⟩:=id I.loc;obtain⟨sl,hL⟩:=u.any ho I.free λz=>(hch _ z).2.1 rfl;exact I.step (ch:=ch) hch (λb o hL hb hc e n=>u.keep b o e n (λz=>(List.mem_cons.mp (I.stkSub b z)).elim hL hb) hc) (λb o _ _ hc e n=>u.any e n hc) (λb o hc e n=>u.free b o e n hc) (λb o hc e=>u.there b o e hc) u.tups u.frzs u.tbls (λm' hm=>by
  obtain⟨o',es',ep',ho',r'⟩:=hm;rw[ho] at ho';cases ho';exact⟨_,es',ep',hL,r'⟩) hok hg
theorem Inv.turned {t':Nat}{it:Addr}(I:Inv X pins σ H s)(k:∀ b o,b≠it->s.heap.get? b=some o->h'.get? b=some o)(hn:H it=none)(hL:it≠X.env.locals)
  (h1:it∈X.ex\/X.s₀.heap.objs.size<=it) (h2:∀ x c,X.env.cells.lookup x=some c->c≠it) (h3:∀ p∈X.pn++pins,p.1≠it):Inv X pins σ H { s with heap:=h',toks:=t' }:=by
 have nit:∀ b u,H b=some u->b≠it:=λb u e z=>by rw[z,hn] at e;cases e
 refine I.step (g':=s.gens) (d':=s.drawn) (ch:=[it]) (λb hb=>?_) (λb o _ _ hc e _=>k b o (λz=>hc (by simp [z])) e) (λb o _ _ hc e _=>⟨o.slots,k b o (λz=>hc (by simp [z])) e⟩) (λ_ _ _ _ n=>n)
  (λb o hc e=>⟨o,k b o (λz=>hc (by simp [z])) e⟩) (λ_ _ e=>e) (λ_ _ _ e=>e) (λb ps e=>⟨#[],by rw[e];simp⟩) (λm hm=>?_) (λb u e=>?_) I.bare
 ·have e:b=it:=by simpa using hb
  subst e;exact⟨h1.imp id λz=>Heap.get?_none_of_le z,hL,h2,h3⟩
 ·obtain⟨o,es,ep,ho,r⟩:=hm
  exact⟨o,es,ep,k _ o (Ne.symm hL) ho,r⟩
 ·refine (I.hok b u e).stay (λc v hc q=>k c v ?_ q) (λ_ q=>q) λ_ _ q=>q
  rcases hc with z|z
  ·rw[z];exact nit b u e
  ·exact nit c _ z
theorem Inv.tok (I:Inv X pins σ H s)(t:Nat):Inv X pins σ H { s with toks:=t }:=I.un (h':=s.heap) (t':=t) Un.refl I.hok
theorem Inv.kept {t':Nat}(I:Inv X pins σ H s)(k:∀ b u,s.heap.get? b=some u->h'.get? b=some u):Inv X pins σ H { s with heap:=h',toks:=t' }:=I.un (Un.kept k) (I.hok.kept k)
theorem Inv.laid {a:Addr}{o:HO}{t':Nat}(I:Inv X pins σ H s)(k:∀ b u,s.heap.get? b=some u->h'.get? b=some u)(hp:s.heap.objs.size<=a)(new:ObjOk X.prog X.w (bG H a o) h' a o) :
  Inv X pins σ (bG H a o) { s with heap:=h',toks:=t' }:=I.un (Un.laid k hp (I.hok.fresh hp)) (I.hok.laid k hp new)
theorem Inv.write {x e:Addr}{o:HO}{t':Nat}(I:Inv X pins σ H s)(mu:Vh (H x))(he:e=x\/H e=some (.own x))(k:∀ b u,b≠e->s.heap.get? b=some u->h'.get? b=some u)(heo:∃ u,h'.get? e=some u)
  (new:ObjOk X.prog X.w (bG H x o) h' x o):Inv X pins σ (bG H x o) { s with heap:=h',toks:=t' }:=I.un (Un.write mu he k heo) (I.hok.write mu he k heo new)
theorem Inv.pins_of {pins':List (Addr×Obj)}(I:Inv X pins σ H s)(h:∀ p∈pins',s.heap.get? p.1=some p.2/\H p.1=none/\p.1≠X.env.locals/\p.1∉X.fs/\∀ v,p.2.data≠.cell v):Inv X pins' σ H s :=
 ⟨I.ok,I.os,I.bare,I.base,I.loc,I.cell,I.free,I.freeC,λp hp=>(List.mem_append.mp hp).elim (λz=>I.pin p (List.mem_append_left _ z)) (h p),I.hok,I.len⟩

theorem qB {N:List Str}(hN:N.Nodup){i j:Nat}{x:Str}(a:N[i]?=some x)(b:N[j]?=some x):i=j:=by
 obtain⟨h1,e1⟩:=List.getElem?_eq_some_iff.mp a;obtain⟨h2,e2⟩:=List.getElem?_eq_some_iff.mp b;exact (List.getElem_inj hN).mp (e1.trans e2.symm)

theorem xa {M:Model}{A:Around}{E:Value->Shared->Prop}{i:Nat}{x:Str}{v:V}{u:Value}{Q:Unit->Shared->Prop}(I:Inv X pins σ H s)(hN:X.N.Nodup)(hi:X.N[i]?=some x)(hx:Loc X.env.scope x)(r:RelV v u)
  (h:∀ s',Inv X pins (σ.set i (some v)) H s'->(∃ a,Heap.SameBut a s.heap s'.heap/\(a=X.env.locals\/X.env.cells.lookup x=some a))->Q () s') (hf:X.fn x=true\/X.env.scope.names.lookup x=some .local:=by first|exact .inl rfl|exact .inr rfl|assumption):wpAny M A (storeName X.env x u) Q E s:=by
 obtain⟨m,hn,hl⟩:=id I.loc;have hcls:(X.env.scope.kind==.class||(X.env.scope.kind==.module&&X.env.locals != X.env.globals))=false:=by rw[I.ok.kind];rfl
 have hiσ:i < σ.length:=by rw[I.len];exact (List.getElem?_eq_some_iff.mp hi).1
 have cne:=I.cne;have tracked:∀ {a:Addr} {h':Heap},(∃ o,s.heap.get? a=some o/\H a=none)->Heap.SameBut a s.heap h'->HOk X.prog X.w H h':=λ{a h'} ha hs b ob e=>by
  obtain⟨_,_,hfree⟩:=ha;refine (I.hok b ob e).stay (λc w' hc q=>(hs.2 c ?_).trans q) (λ_ q=>q) λ_ _ q=>q;rintro rfl;rcases hc with rfl|hc
  ·rw[hfree] at e;cases e
  ·rw[hfree] at hc;cases hc
 rcases hx with hk|hk
 ·refine wpAny_storeName_local hk hn (λh' hn' hs=>?_) hcls
  obtain⟨oL,_,_,hoL,_⟩:=id hn;refine h _ ⟨I.ok,I.os,I.bare,⟨λb o e n hb hx=>?_,λb o e n hb hx=>?_,I.base.free,λb o e hx=>?_,I.base.tups,I.base.frzs,I.base.tbls⟩,⟨_,hn',λj y v' e1 e2 e3=>?_⟩,λy c e=>?_,I.free,I.freeC,λp hp=>?_,tracked ⟨oL,hoL,I.free⟩ hs,by simpa using I.len⟩ ⟨_,hs,.inl rfl⟩
  ·exact (hs.2 b (Nat.ne_of_lt (Nat.lt_of_lt_of_le (Heap.lt_size e) I.ok.above))).trans (I.base.keep b o e n hb hx)
  ·obtain⟨sl,e1⟩:=I.base.slot b o e n hb hx
   exact⟨sl,(hs.2 b (Nat.ne_of_lt (Nat.lt_of_lt_of_le (Heap.lt_size e) I.ok.above))).trans e1⟩
  ·obtain⟨o',e1⟩:=I.base.there b o e hx
   exact⟨o',(hs.2 b (Nat.ne_of_lt (Nat.lt_of_lt_of_le (Heap.lt_size e) I.ok.above))).trans e1⟩
  ·by_cases hj:j=i
   ·subst hj
    rw[hi] at e1;cases e1;rw[List.getElem?_set_self hiσ] at e2;cases e2;exact⟨u,r,.inl ⟨hk,by simp⟩⟩
   ·rw[List.getElem?_set_ne (Ne.symm hj)] at e2
    obtain⟨u',r',q⟩:=hl j y v' e1 e2 e3;refine⟨u',r',?_⟩;rcases q with ⟨k,e⟩|⟨k,c,e,z⟩
    ·refine .inl ⟨k,?_⟩
     have:y≠x:=λe=>hj (qB hN e1 (e ▸ hi));simp [this,e]
    ·exact .inr ⟨k,c,e,z.sameBut hs (cne y c e)⟩
  ·obtain⟨w',z⟩:=I.cell y c e
   exact⟨w',z.sameBut hs (cne y c e)⟩
  ·obtain⟨e,n,ne,nf,d⟩:=I.pin p hp
   exact⟨(hs.2 p.1 ne).trans e,n,ne,nf,d⟩
 ·have hfn:X.fn x=true:=by
   rcases hf with z|z
   ·exact z
   ·rw[z] at hk;cases hk
  obtain⟨c,hc⟩:=I.ok.has x (.inl hk);obtain⟨w',z⟩:=I.cell x c hc;refine wpAny_storeName_cell I.ok.kind hk hc z (λh' hc' hs=>?_);obtain⟨oc,hoc,hocd⟩:=id z;refine h { s with heap:=h' } ⟨I.ok,I.os,I.bare,⟨λb o e n hb hx=>?_,λb o e n hb hx=>?_,I.base.free,λb o e hx=>?_,I.base.tups,I.base.frzs,I.base.tbls⟩,⟨m,hn.sameBut hs (Ne.symm (cne x c hc)),λj y v' e1 e2 e3=>?_⟩,λy c' e=>?_,I.free,I.freeC,λp hp=>?_,tracked ⟨oc,hoc,I.freeC x c hc⟩ hs,by simpa using I.len⟩ ⟨c,hs,.inr hc⟩
  ·exact (hs.2 b (Nat.ne_of_lt (Nat.lt_of_lt_of_le (Heap.lt_size e) (I.ok.cab x c hfn hc)))).trans (I.base.keep b o e n hb hx)
  ·obtain⟨sl,e1⟩:=I.base.slot b o e n hb hx
   exact⟨sl,(hs.2 b (Nat.ne_of_lt (Nat.lt_of_lt_of_le (Heap.lt_size e) (I.ok.cab x c hfn hc)))).trans e1⟩
  ·obtain⟨o',e1⟩:=I.base.there b o e hx
   exact⟨o',(hs.2 b (Nat.ne_of_lt (Nat.lt_of_lt_of_le (Heap.lt_size e) (I.ok.cab x c hfn hc)))).trans e1⟩
  ·by_cases hj:j=i
   ·subst hj
    rw[hi] at e1;cases e1;rw[List.getElem?_set_self hiσ] at e2;cases e2;exact⟨u,r,.inr ⟨.inl hk,c,hc,hc'⟩⟩
   ·rw[List.getElem?_set_ne (Ne.symm hj)] at e2
    obtain⟨u',r',q⟩:=hl j y v' e1 e2 e3;refine⟨u',r',?_⟩;rcases q with q|⟨k,c',e,z'⟩
    ·exact .inl q
    ·refine .inr ⟨k,c',e,z'.sameBut hs ?_⟩
     rintro rfl;exact hj (qB hN e1 (I.ok.inj _ _ _ e hc ▸ hi))
  ·by_cases hcc:c'=c
   ·subst hcc;exact⟨_,hc'⟩
   ·obtain⟨w2,z2⟩:=I.cell y c' e
    exact⟨w2,z2.sameBut hs hcc⟩
  ·obtain⟨e,n,ne,nf,d⟩:=I.pin p hp
   refine⟨(hs.2 p.1 ?_).trans e,n,ne,nf,d⟩;intro q;rw[q,hoc] at e;have q':oc=p.2:=Option.some.inj e;exact d w' (by rw[<- q'];exact hocd)
theorem kL {M:Model}{A:Around}{E:Value->Shared->Prop}{i:Nat}{x:Str}{v:V}{u:Value}{Q:Unit->Shared->Prop}(I:Inv X pins σ H s)(hN:X.N.Nodup)(hi:X.N[i]?=some x)(hx:Loc X.env.scope x)(r:RelV v u)
  (h:∀ s',Inv X pins (σ.set i (some v)) H s'->Q () s') (hf:X.fn x=true\/X.env.scope.names.lookup x=some .local:=by first|exact .inl rfl|exact .inr rfl|assumption):wpAny M A (storeName X.env x u) Q E s :=
 xa I hN hi hx r (λs' I' _=>h s' I') hf
theorem Inv.call' {s':Shared}{ch:List Addr}(I:Inv X pins σ H s)(ho:s'.os=s.os)(u:Un (yj X.stack) ch H H' s.heap s'.heap)(hok:HOk X.prog X.w H' s'.heap)(hg:AllBare s'.gens)
  (hch:∀ b∈ch,(b∈X.ex\/X.s₀.heap.get? b=none)/\b≠X.env.locals/\(∀ x c,X.env.cells.lookup x=some c->c≠b)/\∀ p∈X.pn++pins,p.1≠b):Inv X pins σ H' s':=by
 obtain⟨h',g',d',t',o'⟩:=s';have e:o'=s.os:=ho;subst e;exact I.call (g':=g') (t':=t') (d':=d') u hok hg hch
end

abbrev XK:=Value->Option Addr->Hp->Prop
abbrev St:=List (Option V)
abbrev VK:=V->Hp->Prop
abbrev TE:=St->Hp->VK->Prop
abbrev TT:=St->Hp->(Bool->Hp->Prop)->Prop
abbrev TA:=St->Hp->(List V->Hp->Prop)->Prop
structure Ends where
 nx:St->Hp->Prop
 rt:VK
 bk:St->Hp->Prop:=λ_ _=>False
 ct:St->Hp->Prop:=λ_ _=>False
abbrev TS:=Ends->St->Hp->Prop

def EP (X:Cx)(pins:List (Addr×Obj))(σ:St)(Q:VK)(u:Value)(s':Shared):Prop:=∃ v H',Inv X pins σ H' s'/\RelV v u/\Q v H'
def TP (X:Cx)(pins:List (Addr×Obj))(σ:St)(Q:Bool->Hp->Prop)(b:Bool)(s':Shared):Prop:=∃ H',Inv X pins σ H' s'/\Q b H'
def AP (X:Cx)(pins:List (Addr×Obj))(σ:St)(Q:List V->Hp->Prop)(us:List Value)(s':Shared):Prop:=∃ vs H',Inv X pins σ H' s'/\Vals vs us/\Q vs H'
def SP (X:Cx)(pins:List (Addr×Obj))(D:Ends)(f:Flow)(s':Shared):Prop :=
 match f with
 | .next=>∃ σ' H',Inv X pins σ' H' s'/\D.nx σ' H'
 | .brk=>∃ σ' H',Inv X pins σ' H' s'/\D.bk σ' H'
 | .cont=>∃ σ' H',Inv X pins σ' H' s'/\D.ct σ' H'
 | .ret u=>∃ v σ' H',Inv X pins σ' H' s'/\RelV v u/\D.rt v H'

def PE (X:Cx)(e:Expr)(t:TE):Prop :=
 ∀ (pins:List (Addr×Obj)) (s:Shared) (σ:St) (H:Hp) (Q:VK),Inv X pins σ H s->t σ H Q->wpAny (model X.prog X.w) X.A (eval e X.env) (EP X pins σ Q) X.xe s
def PT (X:Cx)(e:Expr)(t:TT):Prop :=
 ∀ (pins:List (Addr×Obj)) (s:Shared) (σ:St) (H:Hp) (Q:Bool->Hp->Prop),Inv X pins σ H s->t σ H Q->wpAny (model X.prog X.w) X.A (isTrue e X.env (eval e X.env)) (TP X pins σ Q) X.xe s
def PW (X:Cx)(e:Expr)(t:TT):Prop :=
 ∀ (whole:Sem Value) (pins:List (Addr×Obj)) (s:Shared) (σ:St) (H:Hp) (Q:Bool->Hp->Prop),Inv X pins σ H s->t σ H Q->wpAny (model X.prog X.w) X.A (isTrue e X.env whole) (TP X pins σ Q) X.xe s
theorem PW.pt {X:Cx}{e:Expr}{t:TT}(h:PW X e t):PT X e t:=h _
def PA (X:Cx)(es:List Expr)(t:TA):Prop :=
 ∀ (pos:Pos) (pins:List (Addr×Obj)) (s:Shared) (σ:St) (H:Hp) (Q:List V->Hp->Prop),Inv X pins σ H s->t σ H Q->wpAny (model X.prog X.w) X.A (spliced (backTo pos (starEach es X.env))) (AP X pins σ Q) X.xe s
def PS (X:Cx)(st:Stmt)(t:TS):Prop :=
 ∀ (pins:List (Addr×Obj)) (s:Shared) (σ:St) (H:Hp) (D:Ends),Inv X pins σ H s->t D σ H->wpAny (model X.prog X.w) X.A (exec st X.env) (SP X pins D) X.xe s
def PSs (X:Cx)(st:List Stmt)(t:TS):Prop :=
 ∀ (pins:List (Addr×Obj)) (s:Shared) (σ:St) (H:Hp) (D:Ends),Inv X pins σ H s->t D σ H->wpAny (model X.prog X.w) X.A (execs st X.env) (SP X pins D) X.xe s
theorem cr {α:Type}{t:Sem α}{Q Q':α->Shared->Prop}{M:Model}{A:Around}{E:Value->Shared->Prop}{s:Shared}(h:wpAny M A t Q E s)(hQ:∀ a s,Q a s->Q' a s):wpAny M A t Q' E s:=wpAny_mono h hQ λ_ _ x=>x
end L2

namespace L2
open PySem PySem.Spec PyProof.Rows
section
variable {X:Cx}

def xb (i:Nat):TE:=λσ H Q=>∃ v,σ[i]?=some (some v)/\Q v H
def tC (v:V):TE:=λ_ H Q=>Q v H
theorem kM {i:Nat}{x:Str}{pos:Pos}(hN:X.N[i]?=some x)(hv:KO X.env.scope x)(hd:(x==("__debug__":Str))=false:=by decide)(hcd:(x==("__classdict__":Str))=false:=by decide):PE X (.Name x pos) (xb i):=by
 intro pins s σ H Q I h;obtain⟨v,e,h⟩:=h;obtain⟨m,hn,hl⟩:=I.loc;obtain⟨u,r,l⟩:=hl i x v hN e hv;have fin:EP X pins σ Q u s:=⟨v,H,I,r,h⟩;rcases l with ⟨hk,hm⟩|⟨hk,c,hc,hcell⟩
 ·exact wpAny_Name (wpAny_loadName_local I.ok.kind hk hn hm fin) hd
 ·rcases hk with hk|hk
  ·exact wpAny_Name (wpAny_loadName_cell I.ok.kind hk hc hcell fin) hd
  ·exact wpAny_Name (wpAny_loadName_free I.ok.kind hk hc hcell fin hcd) hd
theorem KP {i j pos}:PE X (.Constant (.int i) j pos) (tC (.int i)):=λ_ _ _ H _ I h=>wpAny_Constant_int ⟨.int i,H,I.tok _,⟨_,rfl⟩,h⟩
theorem Vi {b j pos}:PE X (.Constant (.bool b) j pos) (tC (.bl b)):=λ_ _ _ H _ I h=>Constant_bool ⟨.bl b,H,I,rfl,h⟩
theorem yk {j pos}:PE X (.Constant .none j pos) (tC .non):=λ_ _ _ H _ I h=>Constant_none ⟨.non,H,I,rfl,h⟩
theorem KQ {x j pos}:PE X (.Constant (.str x) j pos) (tC (.str x)):=λ_ _ _ H _ I h=>Calls.Constant_str ⟨.str x,H,I.tok _,⟨_,rfl⟩,h⟩

def Gl (X:Cx)(x:Str):Prop:=X.env.kindOf x=some .globalImplicit
theorem uQ {E:Value->Shared->Prop}{pins:List (Addr×Obj)}{s:Shared}{σ:St}{H:Hp}{x:Str}{u:Value}{pos:Pos}{Q:Value->Shared->Prop}(I:Inv X pins σ H s)(hg:Gl X x)(hm:X.mg x=some u)(h:Q u s)
  (hd:(x==("__debug__":Str))=false:=by decide):wpAny (model X.prog X.w) X.A (eval (.Name x pos) X.env) Q E s :=
 Calls.Name_function_global I.ok.kind hg (Calls.loadGlobal_global (by rw[I.ok.glob];exact I.mod.glob.keeps I.bk) hm h) hd
theorem ft {E:Value->Shared->Prop}{pins:List (Addr×Obj)}{s:Shared}{σ:St}{H:Hp}{x:Str}{u:Value}{pos:Pos}{Q:Value->Shared->Prop}(I:Inv X pins σ H s)(hg:Gl X x)(hm:X.mg x=none)(hv:bootBuiltins x=some u)(h:Q u s)
  (hn:x≠"__name__":=by decide) (hd:(x==("__debug__":Str))=false:=by decide):wpAny (model X.prog X.w) X.A (eval (.Name x pos) X.env) Q E s:=by
 obtain⟨mb,h1,h2⟩:=I.mod.blt;exact Calls.Name_function_global I.ok.kind hg (Calls.loadGlobal_builtin (by rw[I.ok.glob];exact I.mod.glob.keeps I.bk) hm (by rw[I.ok.blt];exact h1.keeps I.bk) ((h2 x hn).trans hv) h) hd
theorem Gp {x:Str}{v:V}{u:Value}{pos:Pos}(hg:Gl X x)(hm:X.mg x=some u)(r:RelV v u)(hd:(x==("__debug__":Str))=false:=by decide):PE X (.Name x pos) (tC v) :=
 λ_ _ _ H _ I h=>uQ I hg hm ⟨v,H,I,r,h⟩ hd
variable {a b:Expr}{ta tb:TE}{pos:Pos}
variable {tA tB':TT}{rest:List Expr}
def ZM (t u:TT):TT:=λσ H Q=>t σ H λc H1=>if c=true then u σ H1 Q else Q false H1
def tOr (t u:TT):TT:=λσ H Q=>t σ H λc H1=>if c=true then Q true H1 else u σ H1 Q
def ZN (t:TT):TT:=λσ H Q=>t σ H λc H1=>Q (!c) H1
theorem Gq (ha:PT X a tA):PW X (.BoolOp .And [a] pos) tA:=by
 intro wh pins s σ H Q I h;refine isTrue_and (cr (ha pins s σ H Q I h) λc s1 e=>?_);cases c with
 | true=>exact isTrue_and_nil e
 | false=>exact e
theorem KR (ha:PT X a tA):PW X (.BoolOp .Or [a] pos) tA:=by
 intro wh pins s σ H Q I h;refine isTrue_or (cr (ha pins s σ H Q I h) λc s1 e=>?_);cases c with
 | false=>exact isTrue_or_nil e
 | true=>exact e
theorem KS (ha:PT X a tA)(hb:PW X (.BoolOp .And (b::rest) pos) tB'):PW X (.BoolOp .And (a::b::rest) pos) (ZM tA tB'):=by
 intro wh pins s σ H Q I h;refine isTrue_and (cr (ha pins s σ H _ I h) λc s1 ⟨H1,I1,q1⟩=>?_);cases c with
 | true=>exact hb wh pins s1 σ H1 Q I1 q1
 | false=>exact⟨H1,I1,q1⟩
theorem Vj (ha:PT X a tA)(hb:PW X (.BoolOp .Or (b::rest) pos) tB'):PW X (.BoolOp .Or (a::b::rest) pos) (tOr tA tB'):=by
 intro wh pins s σ H Q I h;refine isTrue_or (cr (ha pins s σ H _ I h) λc s1 ⟨H1,I1,q1⟩=>?_);cases c with
 | true=>exact⟨H1,I1,q1⟩
 | false=>exact hb wh pins s1 σ H1 Q I1 q1
theorem KT (ha:PT X a tA):PT X (.UnaryOp .Not a pos) (ZN tA):=by
 intro pins s σ H Q I h;exact isTrue_not (ha pins s σ H (λc H1=>Q (!c) H1) I h)
def Vk (ta tb:TE):TE:=λσ H Q=>ta σ H λx H1=>∃ c,x=.bl c/\if c=true then tb σ H1 Q else Q (.bl false) H1
theorem KU {op}{t:TE}(h:PE X a t):PE X (.BoolOp op [a] pos) t:=λpins s σ H Q I hw=>BoolOp_one (h pins s σ H Q I hw)
theorem KW (ha:PE X a ta)(hb:PE X (.BoolOp .And (b::rest) pos) tb):PE X (.BoolOp .And (a::b::rest) pos) (Vk ta tb):=by
 intro pins s σ H Q I h;refine BoolOp_and (cr (ha pins s σ H _ I h) λv s1 ⟨x,H1,I1,r1,q1⟩=>?_);obtain⟨c,rfl,q1⟩:=q1;cases r1;refine wpAny_truthy_bool ?_;cases c with
 | true=>exact hb pins s1 σ H1 Q I1 q1
 | false=>exact⟨.bl false,H1,I1,rfl,q1⟩
def tIf (t:TT)(ta tb:TE):TE:=λσ H Q=>t σ H λc H1=>if c=true then ta σ H1 Q else tb σ H1 Q
theorem ym {c:Expr}(hc:PT X c tA)(ha:PE X a ta)(hb:PE X b tb):PE X (.IfExp c a b pos) (tIf tA ta tb):=by
 intro pins s σ H Q I h;refine wpAny_IfExp (cr (hc pins s σ H _ I h) λd s1 ⟨H1,I1,q1⟩=>?_);cases d with
 | true=>exact ha pins s1 σ H1 Q I1 q1
 | false=>exact hb pins s1 σ H1 Q I1 q1
end
end L2

namespace L2
open PySem PySem.Spec PyProof.Rows

def SqL (K:PySem.W.Frag)(H:Hp)(a:Addr)(xs:List V):Prop :=
 Rd H a (.lst xs) \/
  ∃ (o:Obj) (its:Array Value) (n:Nat),K.lookup a=some o/\o.cls=.type "list"/\o.dict=none/\o.data=.seq its n/\its.size<=sizeLine/\Vals xs its.toList
def SqT (K:PySem.W.Frag)(H:Hp)(a:Addr)(xs:List V):Prop :=
 Rd H a (.tup xs) \/
  ∃ (o:Obj) (its:Array Value) (n:Nat),K.lookup a=some o/\o.cls=.type "tuple"/\o.data=.seq its n/\its.size<=sizeLine/\Vals xs its.toList
def ZO:Value->Option V
 | .none=>some .non
 | .bool b=>some (.bl b)
 | .int i _=>some (.int i)
 | .str x _=>some (.str x)
 | .bytes b _=>some (.byt b)
 | .float b _=>some (.flt b)
 | .ref a=>some (.ref a)
 | .type n=>some (.ty n)
 | _=>none
theorem RelV.abs {x:V}{u:Value}(r:RelV x u):ZO u=some x:=by
 cases x with
 | non=>cases r;rfl
 | bl _=>cases r;rfl
 | int _=>obtain⟨t,rfl⟩:=r;rfl
 | str _=>obtain⟨t,rfl⟩:=r;rfl
 | byt _=>obtain⟨t,rfl⟩:=r;rfl
 | flt _=>obtain⟨t,rfl⟩:=r;rfl
 | ref _=>cases r;rfl
 | ty _=>cases r;rfl
theorem RelV.inj {x y:V}{u:Value}(r:RelV x u)(q:RelV y u):x=y:=Option.some.inj (r.abs.symm.trans q.abs)
theorem Vals.inj:∀ {xs ys:List V} {us:List Value},Vals xs us->Vals ys us->xs=ys
 | _,_,_,.nil,.nil=>rfl
 | _,_,_,.cons r t,.cons r' t'=>by rw[r.inj r',Vals.inj t t']
section
variable {X:Cx}{pins:List (Addr×Obj)}{σ:St}{H:Hp}{s:Shared}{a:Addr}{xs ys:List V}
theorem SqL.of {K:PySem.W.Frag}(h:H a=some (.lst xs)):SqL K H a xs:=.inl (.inl h)
theorem SqT.of {K:PySem.W.Frag}(h:H a=some (.tup xs)):SqT K H a xs:=.inl (.inl h)
theorem Inv.list (I:Inv X pins σ H s)(h:SqL X.K H a xs):∃ its:List Value,Vals xs its/\PlainL s.heap a its.toArray/\xs.length<=sizeLine:=by
 rcases h with h|⟨o,its,n,hk,hc,hd,hs,hz,r⟩
 ·obtain⟨z,its,n,r,e⟩:=h.ok I.hok
  exact⟨its,r,⟨_,n,e,rfl,rfl,rfl⟩,z⟩
 ·refine⟨its.toList,r,⟨o,n,I.kIn a o hk,hc,hd,by simpa using hs⟩,?_⟩
  have e:=r.length;simp only[Array.length_toList] at e;omega
theorem Inv.tuple (I:Inv X pins σ H s)(h:SqT X.K H a xs):∃ its:List Value,Vals xs its/\IsTup s.heap a its.toArray/\xs.length<=sizeLine:=by
 rcases h with h|⟨o,its,n,hk,hc,hs,hz,r⟩
 ·obtain⟨z,its,r,p⟩:=h.ok I.hok
  exact⟨its,r,p,z⟩
 ·refine⟨its.toList,r,⟨o,I.kIn a o hk,hc,n,by simpa using hs⟩,?_⟩
  have e:=r.length;simp only[Array.length_toList] at e;omega
theorem Inv.list_inj (I:Inv X pins σ H s)(h:SqL X.K H a xs)(h':SqL X.K H a ys):xs=ys:=by
 obtain⟨its,r,⟨o,n,e,_,_,d⟩,_⟩:=I.list h;obtain⟨its',r',⟨o',n',e',_,_,d'⟩,_⟩:=I.list h';rw[e] at e';cases e';rw[d] at d'
 injection d' with d1 _
 have:its=its':=by simpa using congrArg Array.toList d1
 subst this;exact r.inj r'
theorem Inv.tuple_inj (I:Inv X pins σ H s)(h:SqT X.K H a xs)(h':SqT X.K H a ys):xs=ys:=by
 obtain⟨its,r,⟨o,e,_,n,d⟩,_⟩:=I.tuple h;obtain⟨its',r',⟨o',e',_,n',d'⟩,_⟩:=I.tuple h';rw[e] at e';cases e';rw[d] at d'
 injection d' with d1 _
 have:its=its':=by simpa using congrArg Array.toList d1
 subst this;exact r.inj r'
end

abbrev Cx.wish (X:Cx)(E:Value->Shared->Prop):Cx:={ X with xe:=E }
abbrev Cx.nox (X:Cx):Cx:=X.wish λ_ _=>False
theorem Cx.Ok.wish {X:Cx}(ok:X.Ok)(E:Value->Shared->Prop):(X.wish E).Ok :=
 ⟨ok.mod,ok.kind,ok.glob,ok.blt,ok.above,ok.inj,ok.has,ok.cab,ok.hd,ok.frames,ok.stk,ok.exf,ok.bs,ok.bsz,ok.noex,ok.exfs,ok.funs,ok.frf⟩
theorem Cx.Ok.unwish {X:Cx}{E:Value->Shared->Prop}(ok:(X.wish E).Ok):X.Ok :=
 ⟨ok.mod,ok.kind,ok.glob,ok.blt,ok.above,ok.inj,ok.has,ok.cab,ok.hd,ok.frames,ok.stk,ok.exf,ok.bs,ok.bsz,ok.noex,ok.exfs,ok.funs,ok.frf⟩
section
variable {X:Cx}{pins:List (Addr×Obj)}{σ:St}{H:Hp}{s:Shared}{E:Value->Shared->Prop}
theorem Inv.wish (I:Inv X pins σ H s)(E:Value->Shared->Prop):Inv (X.wish E) pins σ H s:=⟨I.ok.wish E,I.os,I.bare,I.base,I.loc,I.cell,I.free,I.freeC,I.pin,I.hok,I.len⟩
theorem Inv.unwish (I:Inv (X.wish E) pins σ H s):Inv X pins σ H s:=⟨I.ok.unwish,I.os,I.bare,I.base,I.loc,I.cell,I.free,I.freeC,I.pin,I.hok,I.len⟩
theorem SP.unwish {D:Ends}{f:Flow}{s':Shared}(h:SP (X.wish E) pins D f s'):SP X pins D f s':=by
 cases f with
 | next=>obtain⟨σ',H',I,q⟩:=h;exact⟨σ',H',I.unwish,q⟩
 | brk=>obtain⟨σ',H',I,q⟩:=h;exact⟨σ',H',I.unwish,q⟩
 | cont=>obtain⟨σ',H',I,q⟩:=h;exact⟨σ',H',I.unwish,q⟩
 | ret u=>obtain⟨v,σ',H',I,r,q⟩:=h;exact⟨v,σ',H',I.unwish,r,q⟩
theorem PSs.nox {st:List Stmt}{t:TS}(h:PSs X.nox st t):PSs X st t:=λpins s σ H D I hw =>
 wpAny_mono (h pins s σ H D (I.wish _) hw) (λ_ _ q=>q.unwish) λ_ _ z=>False.elim z
end

section
variable {X:Cx}{st:Stmt}{rest:List Stmt}{t u:TS}{e:Expr}{te:TE}{pos:Pos}
def Vl:TS:=λD σ H=>D.nx σ H
def ZP (t u:TS):TS:=λD σ H=>t { D with nx:=u D } σ H
theorem uR:PSs X [] Vl:=λ_ _ σ H _ I h=>wpAny_execs_nil ⟨σ,H,I,h⟩
theorem qC (h1:PS X st t)(h2:PSs X rest u):PSs X (st::rest) (ZP t u):=by
 intro pins s σ H D I h;refine wpAny_execs_cons (cr (h1 pins s σ H { D with nx:=u D } I h) λf s1 q=>?_)
 cases f with
 | next =>
  obtain⟨σ',H',I',q⟩:=q;exact h2 pins s1 σ' H' D I' q
 | ret v=>exact q
 | brk=>exact q
 | cont=>exact q
theorem kB (h1:PS X st t):PSs X [st] t:=by
 intro pins s σ H D I h;refine wpAny_execs_cons (cr (h1 pins s σ H D I h) λf s1 q=>?_);cases f with
 | next=>exact wpAny_execs_nil q
 | ret v=>exact q
 | brk=>exact q
 | cont=>exact q
theorem Inv.quiet {pins:List (Addr×Obj)}{σ:St}{H:Hp}{s:Shared}(I:Inv X pins σ H s):interactive X.env=false:=by simp [interactive,I.ok.kind]
def Vm (te:TE):TS:=λD σ H=>te σ H λ_ H1=>D.nx σ H1
theorem uS (he:PE X e te)(hs:swapsWith e none pos.line X.env=pure false:=by rfl):PS X (.Expr e pos) (Vm te):=by
 intro pins s σ H D I h;exact wpAny_Expr_any (cr (he pins s σ H _ I h) λv s1 ⟨x,H1,I1,r1,q1⟩=>⟨σ,H1,I1,q1⟩) I.quiet hs
def ZQ (te:TE):TS:=λD σ H=>te σ H D.rt
theorem ps_ret (he:PE X e te):PS X (.Return (some e) pos) (ZQ te):=by
 intro pins s σ H D I h;exact wpAny_Return_some (cr (he pins s σ H _ I h) λv s1 ⟨x,H1,I1,r1,q1⟩=>⟨x,σ,H1,I1,r1,q1⟩)
def ZR (c:TT)(t u:TS):TS:=λD σ H=>c σ H λb H1=>if b=true then t D σ H1 else u D σ H1
theorem ps_if {c:Expr}{a b:List Stmt}{tc:TT}(hc:PT X c tc)(ha:PSs X a t)(hb:PSs X b u):PS X (.If c a b pos) (ZR tc t u):=by
 intro pins s σ H D I h;refine wpAny_If (cr (hc pins s σ H _ I h) λd s1 ⟨H1,I1,q1⟩=>?_);cases d with
 | true=>exact ha pins s1 σ H1 D I1 q1
 | false=>exact hb pins s1 σ H1 D I1 q1
def KY:TS:=λ_ _ _=>False
theorem yn:PS X st KY:=λ_ _ _ _ _ _ h=>h.elim
end

abbrev TG:=V->St->Hp->(St->Hp->Prop)->Prop
abbrev IA:=List V->St->Hp->(St->Hp->Prop)->Prop
def PG (X:Cx)(target:Expr)(t:TG):Prop :=
 ∀ (pins:List (Addr×Obj)) (s:Shared) (σ:St) (H:Hp) (v:V) (u:Value) (Q:St->Hp->Prop),Inv X pins σ H s->RelV v u->t v σ H Q ->
  wpAny (model X.prog X.w) X.A (assign target X.env u) (λ_ s'=>∃ σ' H',Inv X pins σ' H' s'/\Q σ' H') X.xe s
def Vd (X:Cx)(ts:List Expr)(t:IA):Prop :=
 ∀ (pins:List (Addr×Obj)) (s:Shared) (σ:St) (H:Hp) (vs:List V) (us:List Value) (Q:St->Hp->Prop),Inv X pins σ H s->Vals vs us->t vs σ H Q ->
  wpAny (model X.prog X.w) X.A (assignInOrder ((assignEach ts X.env).map (·.2)) us) (λ_ s'=>∃ σ' H',Inv X pins σ' H' s'/\Q σ' H') X.xe s
abbrev KZ:=V->V->V->Hp->(Hp->Prop)->Prop
def Vn (X:Cx)(t:KZ):Prop :=
 ∀ (pins:List (Addr×Obj)) (s:Shared) (σ:St) (H:Hp) (o i v:V) (ov iv u:Value) (Q:Hp->Prop),Inv X pins σ H s->RelV o ov->RelV i iv->RelV v u->t o i v H Q ->
  wpAny (model X.prog X.w) X.A (setItem ov iv u) (λ_ s'=>∃ H',Inv X pins σ H' s'/\Q H') X.xe s
section
variable {X:Cx}{pos:Pos}
def mY (i:Nat):TG:=λv σ H Q=>Q (σ.set i (some v)) H
theorem pg_name {i:Nat}{x:Str}(hN:X.N.Nodup)(hi:X.N[i]?=some x)(hx:Loc X.env.scope x)(hf:X.fn x=true\/X.env.scope.names.lookup x=some .local:=by first|exact .inl rfl|exact .inr rfl|assumption):PG X (.Name x pos) (mY i):=by
 intro pins s σ H v u Q I r h;exact wpAny_assign_Name (kL I hN hi hx r (λs' I'=>⟨_,H,I',h⟩) hf)
def ZS:IA:=λvs σ H Q=>vs=[]/\Q σ H
def Vo (t:TG)(u:IA):IA:=λvs σ H Q=>∃ v r,vs=v::r/\t v σ H λσ' H'=>u r σ' H' Q
theorem Gr:Vd X [] ZS:=by
 intro pins s σ H vs us Q I r h;obtain⟨e,h⟩:=h;subst e;cases r;exact assignInOrder_nil ⟨σ,H,I,h⟩
theorem yo {e:Expr}{es:List Expr}{t:TG}{u:IA}(h1:PG X e t)(h2:Vd X es u)
  (hs:(assignEach (e::es) X.env).map (·.2)=assign e X.env::(assignEach es X.env).map (·.2):=by rfl):Vd X (e::es) (Vo t u):=by
 intro pins s σ H vs us Q I r h;obtain⟨v,vr,e1,h⟩:=h;subst e1;cases r with
 | cons r rr =>
  rw[hs];refine assignInOrder_cons (cr (h1 pins s σ H _ _ _ I r h) λ_ s1 ⟨σ1,H1,I1,q1⟩=>?_);exact h2 pins s1 σ1 H1 _ _ Q I1 rr q1
def ZT (K:PySem.W.Frag)(n:Nat)(t:IA):TG:=λv σ H Q=>∃ a xs,v=.ref a/\SqT K H a xs/\xs.length=n/\t xs σ H Q
theorem La {es:List Expr}{k:Nat}{t:IA}{n:Nat}(hc:X.calm=true)(h:Vd X es t)
  (hn:(assignEach es X.env).length=n:=by rfl) (hst:(assignEach es X.env).findIdx? (·.1)=none:=by rfl):PG X (.Tuple es k pos) (ZT X.K n t):=by
 intro pins s σ H v u Q I r hw;obtain⟨a,xs,e1,hq,hl,hw⟩:=hw;subst e1;cases r;obtain⟨its,rv,ht,hz⟩:=I.tuple hq;refine assign_Tuple_tuple (I.ok.hd hc) ht (by simp [hn,<- hl,rv.length]) hst λh' hx=>?_
 have I1:Inv X pins σ H { s with heap:=h' }:=I.kept (t':=s.toks) λb o e=>hx b o (Nat.ne_of_lt (Heap.lt_size e)) e
 exact h pins _ σ H xs _ Q I1 (by simpa using rv) hw
def ZU (to ti:TE)(t:KZ):TG:=λv σ H Q=>to σ H λo H1=>ti σ H1 λi H2=>t o i v H2 λH3=>Q σ H3
theorem Lb {o i:Expr}{to ti:TE}{t:KZ}(ho:PE X o to)(hi:PE X i ti)(hs:Vn X t)
  (ha:∀ v,assign (.Subscript o i pos) X.env v=(do
   let ov <- holding [v] (eval o X.env)
   let iv <- holding [v,ov] (eval i X.env)
   standAt pos
   holding [v,ov,iv] (setItem ov iv v)
   release [v,ov,iv] []):=by intro _;rfl):PG X (.Subscript o i pos) (ZU to ti t):=by
 intro pins s σ H v u Q I r h;rw[ha];refine wpAny_bind (wpAny_holding (cr (ho pins s σ H _ I h) λov s1 ⟨x,H1,I1,r1,q1⟩=>?_));refine wpAny_bind (wpAny_holding (cr (hi pins s1 σ H1 _ I1 q1) λiv s2 ⟨y,H2,I2,r2,q2⟩=>?_));refine wpAny_bind (wpAny_standAt (wpAny_bind (wpAny_holding (cr (hs pins s2 σ H2 x y v ov iv u _ I2 r1 r2 r q2) λ_ s3 ⟨H3,I3,q3⟩=>?_))));exact wpAny_release ⟨σ,H3,I3,q3⟩
def Gu (te:TE)(g:TG):TS:=λD σ H=>te σ H λx H1=>g x σ H1 D.nx
theorem Lc {tg e:Expr}{te:TE}{g:TG}(he:PE X e te)(hg:PG X tg g)(hs:swapsWithSole [tg] e pos.line X.env=pure false:=by rfl)(hw:swappedStores [tg] e X.env=pure none:=by rfl)
  (h1:(assignEach [tg] X.env).map (·.2)=[assign tg X.env]:=by rfl):PS X (.Assign [tg] e pos) (Gu te g):=by
 intro pins s σ H D I h;refine wpAny_Assign_stores (cr (he pins s σ H _ I h) λv s1 ⟨x,H1,I1,r1,q1⟩=>?_) hs hw;rw[h1];exact cr (hg pins s1 σ H1 x v _ I1 r1 q1) λ_ s2 q=>q
theorem ps_set {i:Nat}{x:Str}{e:Expr}{te:TE}{pos':Pos}(hN:X.N.Nodup)(hi:X.N[i]?=some x)(hx:Loc X.env.scope x)(he:PE X e te)(hs:swapsWith e (some (.Name x pos')) pos.line X.env=pure false:=by rfl)(hf:X.fn x=true\/X.env.scope.names.lookup x=some .local:=by first|exact .inl rfl|exact .inr rfl|assumption) :
  PS X (.Assign [.Name x pos'] e pos) (Gu te (mY i)):=by
 intro pins s σ H D I h;refine wpAny_Assign_Name (cr (he pins s σ H _ I h) λv s1 ⟨y,H1,I1,r1,q1⟩=>?_) hs;exact kL I1 hN hi hx r1 (λs2 I2=>⟨_,H1,I2,q1⟩) hf
end

section
variable {X:Cx}{pos:Pos}
end

structure It where
 go:Nat->Hp->Prop
 yld:Nat->Hp->V->Hp->Prop
 stop:Nat->Hp->Prop
def fX (X:Cx)(pins:List (Addr×Obj))(H:Hp)(b:Addr):Prop :=
 H b=none/\b≠X.env.locals/\b∉X.fs/\(b∈X.ex\/X.s₀.heap.objs.size<=b)/\(∀ x c,X.env.cells.lookup x=some c->c≠b)/\∀ p∈X.pn++pins,p.1≠b
theorem Inv.fpOk {X:Cx}{pins:List (Addr×Obj)}{σ:St}{H H':Hp}{s:Shared}{b:Addr}(I:Inv X pins σ H s)(hb:s.heap.objs.size<=b)(hn:H' b=none):fX X pins H' b:=by
 refine⟨hn,Nat.ne_of_gt (Nat.lt_of_lt_of_le I.lt hb),I.nofs hb,.inr (Nat.le_trans I.sz hb),λx c e z=>?_,λp hp z=>?_⟩
 ·obtain⟨v,q⟩:=I.cell x c e
  exact absurd (Nat.lt_of_lt_of_le q.lt (by rw[z];exact hb)) (Nat.lt_irrefl _)
 ·exact absurd (Nat.lt_of_lt_of_le (Heap.lt_size (I.pin p hp).1) (by rw[z];exact hb)) (Nat.lt_irrefl _)
structure Turn (P:Program)(w:World)(K:PySem.W.Frag)(tg:Expr)(J:It)(fp:List Addr)(it:Addr)(tn:Nat->Heap->Prop):Prop where
 mem:it∈fp
 obj:∀ i h,tn i h->∀ b∈fp,∃ o,h.get? b=some o/\∀ v,o.data≠.cell v
 keep:∀ i h h',tn i h->(∀ b∈fp,∀ o,h.get? b=some o->h'.get? b=some o)->tn i h'
 item:∀ (X:Cx),X.prog=P->X.w=w->X.K=K->X.calm=true->∀ (i:Nat) (pins:List (Addr×Obj)) (s:Shared) (σ:St) (H:Hp) (E:Value->Shared->Prop),Inv X pins σ H s->(∀ b∈fp,fX X pins H b)->tn i s.heap->J.go i H ->
  wpAny (model P w) X.A (pyNext (.ref it)) (λr s1=>∃ u,r=some u /\
   wpAny (model P w) X.A (letOwnedTupleGo tg (.ref it) u) (λ_ s2=>∃ x H',Inv X pins σ H' s2/\RelV x u/\J.yld i H x H'/\tn (i+1) s2.heap/\∀ b∈fp,H' b=none) E s1) E s
 done:∀ (X:Cx),X.prog=P->X.w=w->X.K=K->X.calm=true->∀ (i:Nat) (pins:List (Addr×Obj)) (s:Shared) (σ:St) (H:Hp) (E:Value->Shared->Prop),Inv X pins σ H s->(∀ b∈fp,fX X pins H b)->tn i s.heap->J.stop i H ->
  wpAny (model P w) X.A (pyNext (.ref it)) (λr s1=>r=none/\Inv X pins σ H s1) E s
 self:∀ (A:Around) (i:Nat) (s:Shared) (Q:Value->Shared->Prop) (E:Value->Shared->Prop),tn i s.heap->Q (.ref it) s->wpAny (model P w) A (pyIter (.ref it)) Q E s
abbrev TI:=St->Hp->(It->Hp->Prop)->Prop
def ZV (X:Cx)(pins:List (Addr×Obj))(σ:St)(tg:Expr)(R:It->Hp->Prop)(itv:Value)(s2:Shared):Prop :=
 ∃ (it:Addr) (fp:List Addr) (tn:Nat->Heap->Prop) (J:It) (H':Hp),itv=.ref it/\Inv X pins σ H' s2/\Turn X.prog X.w X.K tg J fp it tn/\tn 0 s2.heap/\(∀ b∈fp,fX X pins H' b)/\R J H'
def PI (X:Cx)(tg iter:Expr)(wi:TI):Prop :=
 ∀ (pins:List (Addr×Obj)) (s:Shared) (σ:St) (H:Hp) (R:It->Hp->Prop),Inv X pins σ H s->wi σ H R ->
  wpAny (model X.prog X.w) X.A (eval iter X.env) (λv s1=>wpAny (model X.prog X.w) X.A (pyIter v) (ZV X pins σ tg R) X.xe s1) X.xe s

theorem yp {M:Model}{A:Around}{E:Value->Shared->Prop}{s:Shared}{tg:Expr}{it:Addr}{u:Value}{o:Obj}{n:String}{vs:Array Value}{Q:Unit->Shared->Prop}(ho:s.heap.get? it=some o)(hc:o.cls=.type n)(hd:o.data=.fields vs)
    (hn:["enumerate","zip","dict_itemiterator","dict_reverseitemiterator","odict_iterator","itertools.zip_longest","itertools.pairwise"].contains n=false) (hQ:Q () s):wpAny M A (letOwnedTupleGo tg (.ref it) u) Q E s:=by
  unfold letOwnedTupleGo;cases tg<;>first
    | exact wpAny_pure hQ
    | (cases u<;>first
        | exact wpAny_pure hQ
        | (refine wpAny_bind (wpAny_load ho ?_)
           rw[hc,hd];show wpAny M A (if (["enumerate","zip","dict_itemiterator","dict_reverseitemiterator","odict_iterator","itertools.zip_longest","itertools.pairwise"].contains n&&vs[0]?==some (rawInt _))=true then _ else _) Q E s
           rw[if_neg (by intro h;rw[hn,Bool.false_and] at h;cases h)]
           exact wpAny_pure hQ))

def Zx (K:PySem.W.Frag)(a:Addr):It :=
 ⟨λi H=>∃ xs x,SqL K H a xs/\xs[i]?=some x,λi H x H'=>H'=H/\∀ xs,SqL K H a xs->xs[i]?=some x,λi H=>∃ xs,SqL K H a xs/\xs.length<=i⟩
def ZW (K:PySem.W.Frag)(a:Addr):It :=
 ⟨λi H=>∃ xs x,SqT K H a xs/\xs[i]?=some x,λi H x H'=>H'=H/\∀ xs,SqT K H a xs->xs[i]?=some x,λi H=>∃ xs,SqT K H a xs/\xs.length<=i⟩
def Vp (lo:Int)(n:Nat):It:=⟨λi _=>i < n,λi H x H'=>H'=H/\x=.int (lo+i),λi _=>n<=i⟩
theorem xc {P:Program}{w:World}{K:PySem.W.Frag}{tg:Expr}(a it:Addr):Turn P w K tg (Zx K a) [it] it (λi h=>h.IsListIter it a i) where
 mem:=by simp
 obj:=λi h st b hb=>by
  have e:b=it:=by simpa using hb
  subst e;obtain⟨o,e,c,d⟩:=st;exact⟨o,e,λv z=>by rw[d] at z;cases z⟩
 keep:=λi h h' st k=>st.at λo e=>k it (by simp) o e
 item:=by
  intro X hP hw hK hc i pins s σ H E I hf st hg;subst hP hw hK;obtain⟨xs,x,hq,hx⟩:=hg;obtain⟨its,rv,p,hz⟩:=I.list hq;obtain⟨u,hu,ru⟩:=rv.get hx;obtain⟨f0,f1,f2,f3,f4,f5⟩:=hf it (by simp)
  refine wpAny_pyNext_list_item st p.isList (x:=u) (by simpa using hu) λh' st' sb=>?_
  have I1:Inv X pins σ H { s with heap:=h' }:=I.turned (t':=s.toks) (λb o hb e=>(sb.2 b hb).trans e) f0 f1 f3 f4 f5
  obtain⟨o,e,c,d⟩:=id st';exact⟨u,rfl,yp (s:={ s with heap:=h' }) e c d (by decide) ⟨x,H,I1,ru,⟨rfl,λys hy=>by rw[I.list_inj hy hq];exact hx⟩,st',λb hb=>(hf b hb).1⟩⟩
 done:=by
  intro X hP hw hK hc i pins s σ H E I hf st hg;subst hP hw hK;obtain⟨xs,hq,hx⟩:=hg;obtain⟨its,rv,p,hz⟩:=I.list hq;obtain⟨f0,f1,f2,f3,f4,f5⟩:=hf it (by simp)
  have hl:=rv.length;exact wpAny_pyNext_list_end (I.ok.hd hc) st p.isList (by simp;omega) λh' eb=>⟨rfl,I.turned (t':=s.toks) (λb o hb e=>eb b o hb e) f0 f1 f3 f4 f5⟩
 self:=λ_ _ _ _ _ st h=>wpAny_pyIter_listiter st h
theorem tJ {P:Program}{w:World}{K:PySem.W.Frag}{tg:Expr}(a it:Addr):Turn P w K tg (ZW K a) [it] it (λi h=>h.IsTupleIter it a i) where
 mem:=by simp
 obj:=λi h st b hb=>by
  have e:b=it:=by simpa using hb
  subst e;obtain⟨o,e,c,d⟩:=st;exact⟨o,e,λv z=>by rw[d] at z;cases z⟩
 keep:=λi h h' st k=>st.at λo e=>k it (by simp) o e
 item:=by
  intro X hP hw hK hc i pins s σ H E I hf st hg;subst hP hw hK;obtain⟨xs,x,hq,hx⟩:=hg;obtain⟨its,rv,p,hz⟩:=I.tuple hq;obtain⟨u,hu,ru⟩:=rv.get hx;obtain⟨f0,f1,f2,f3,f4,f5⟩:=hf it (by simp)
  refine wpAny_pyNext_tuple_item st (show s.heap.IsTuple a its.toArray from p) (x:=u) (by simpa using hu) λh' st' sb=>?_
  have I1:Inv X pins σ H { s with heap:=h' }:=I.turned (t':=s.toks) (λb o hb e=>(sb.2 b hb).trans e) f0 f1 f3 f4 f5
  obtain⟨o,e,c,d⟩:=id st';exact⟨u,rfl,yp (s:={ s with heap:=h' }) e c d (by decide) ⟨x,H,I1,ru,⟨rfl,λys hy=>by rw[I.tuple_inj hy hq];exact hx⟩,st',λb hb=>(hf b hb).1⟩⟩
 done:=by
  intro X hP hw hK hc i pins s σ H E I hf st hg;subst hP hw hK;obtain⟨xs,hq,hx⟩:=hg;obtain⟨its,rv,p,hz⟩:=I.tuple hq;obtain⟨f0,f1,f2,f3,f4,f5⟩:=hf it (by simp)
  have hl:=rv.length;exact wpAny_pyNext_tuple_end (I.ok.hd hc) st (show s.heap.IsTuple a its.toArray from p) (by simp;omega) λh' eb=>⟨rfl,I.turned (t':=s.toks) (λb o hb e=>eb b o hb e) f0 f1 f3 f4 f5⟩
 self:=λ_ _ _ _ _ st h=>wpAny_pyIter_tupleiter st h
theorem tK {P:Program}{w:World}{K:PySem.W.Frag}{tg:Expr}(it:Addr)(lo:Int)(n:Nat):Turn P w K tg (Vp lo n) [it] it (λi h=>IsRangeIter h it (lo+(i:Nat)*1) ((n:Int) - (i:Nat)) 1) where
 mem:=by simp
 obj:=λi h st b hb=>by
  have e:b=it:=by simpa using hb
  subst e;exact⟨_,st,λv z=>by
   have z':Data.fields _=Data.cell v:=z;cases z'⟩
 keep:=λi h h' st k=>k it (by simp) _ st
 item:=by
  intro X hP hw hK hc i pins s σ H E I hf st hg;subst hP hw hK;obtain⟨f0,f1,f2,f3,f4,f5⟩:=hf it (by simp)
  have W:=Walks.range (prog:=X.prog) (w:=X.w) (I.ok.hd hc) it lo 1 n;refine W.item i s _ _ hg st λv h' tk hv st' kk=>?_;obtain⟨t,rfl⟩:=hv;have I1:Inv X pins σ H { s with heap:=h',toks:=tk }:=I.turned (λb o hb e=>kk b o (by simpa using hb) e) f0 f1 f3 f4 f5
  refine⟨_,rfl,yp (s:={ s with heap:=h',toks:=tk }) (n:="range_iterator") st' rfl rfl (by decide) ⟨.int (lo+i),H,I1,⟨t,?_⟩,⟨rfl,rfl⟩,st',λb hb=>(hf b hb).1⟩⟩
  rw[Int.mul_one]
 done:=by
  intro X hP hw hK hc i pins s σ H E I hf st hg;subst hP hw hK;obtain⟨f0,f1,f2,f3,f4,f5⟩:=hf it (by simp)
  exact wpAny_pyNext_range_end (I.ok.hd hc) st (by have:n<=i:=hg;omega) λh' eb=>⟨rfl,I.turned (t':=s.toks) (λb o hb e=>eb b o hb e) f0 f1 f3 f4 f5⟩
 self:=λ_ _ _ _ _ st h=>wpAny_pyIter_rangeiter st h
end L2

namespace L2
open PySem PySem.Spec PyProof.Rows
section
variable {X:Cx}{tg:Expr}
theorem qD {pins:List (Addr×Obj)}{σ:St}{H:Hp}{s:Shared}{R:It->Hp->Prop}{E:Value->Shared->Prop}{lo hi:Int}{t u v:Tok}{tk:Nat}(I:Inv X pins σ H s)(h1:-(2^62)<=lo)(h2:lo < 2^62)(h3:-(2^62)<=hi)(h4:hi < 2^62)
  (q:R (Vp lo (hi - lo).toNat) H):wpAny (model X.prog X.w) X.A (pyIter (.ref s.heap.objs.size)) (ZV X pins σ tg R) E { s with heap:=s.heap.push { cls:=.type "range",data:=.fields #[.int lo t,.int hi u,.int 1 v] },toks:=tk }:=by
 refine wpAny_pyIter_range (IsRange.new ..) (small_one h1 h2 h3 h4) ?_;have I1:Inv X pins σ H { s with heap:=s.heap.push { cls:=.type "range",data:=.fields #[.int lo t,.int hi u,.int 1 v] },toks:=tk }:=I.kept λb o e=>Heap.get?_push_of_some _ e
 refine⟨(s.heap.push { cls:=.type "range",data:=.fields #[.int lo t,.int hi u,.int 1 v] }).objs.size,[(s.heap.push { cls:=.type "range",data:=.fields #[.int lo t,.int hi u,.int 1 v] }).objs.size],_,_,H,rfl,
  I1.kept (t':=tk) λb o e=>Heap.get?_push_of_some _ e,tK _ lo (hi - lo).toNat,?_,λb hb=>?_,q⟩
 ·have e1:lo+((0:Nat):Int)*1=lo:=by simp
  have e2:(((hi - lo).toNat:Nat):Int) - ((0:Nat):Int)=Builtin.Range.rangeSize lo hi 1:=by rw[rangeSize_one];split<;>omega
  show IsRangeIter _ _ (lo+((0:Nat):Int)*1) ((((hi - lo).toNat:Nat):Int) - ((0:Nat):Int)) 1;rw[e1,e2];exact Heap.get?_push_size _ rfl
 ·have e:b=(s.heap.push { cls:=.type "range",data:=.fields #[.int lo t,.int hi u,.int 1 v] }).objs.size:=by simpa using hb
  subst e;exact I1.fpOk (Nat.le_refl _) (I1.hok.fresh (Nat.le_refl _))
def Vq (ta:TA):TI:=λσ H R=>ta σ H λvs H1=>∃ j:Int,vs=[.int j]/\-(2^62)<=j/\j < 2^62/\R (Vp 0 j.toNat) H1
def Vr (ta:TA):TI:=λσ H R=>ta σ H λvs H1=>∃ i j:Int,vs=[.int i,.int j]/\(-(2^62)<=i/\i < 2^62/\-(2^62)<=j/\j < 2^62)/\R (Vp i (j - i).toNat) H1
theorem xf {a:Expr}{ta:TA}{p pos:Pos}(hg:Gl X "range")(hm:X.mg "range"=none)(ha:PA X [a] ta)(hs:starEach [a] X.env=[(false,eval a X.env)]:=by rfl):PI X tg (.Call (.Name "range" p) [a] [] pos) (Vq ta):=by
 intro pins s σ H R I h;refine Call_ (ft I hg hm boot_range (PyProof.Rows.callWith_type1 (cr (ha pos pins s σ H _ I h) λus s1 ⟨vs,H1,I1,r1,q1⟩=>?_) hs rfl));obtain⟨j,e,q1,q2,q⟩:=q1;subst e;cases r1 with
 | cons r rr =>
  cases rr;obtain⟨t,rfl⟩:=r;exact call_range_1 (qD I1 (by omega) (by omega) q1 q2 (by simpa using q))
theorem xg {a b:Expr}{ta:TA}{p pos:Pos}(hg:Gl X "range")(hm:X.mg "range"=none)(ha:PA X [a,b] ta)(hs:starEach [a,b] X.env=[(false,eval a X.env),(false,eval b X.env)]:=by rfl)(hs2:starEach [b] X.env=[(false,eval b X.env)]:=by rfl) :
  PI X tg (.Call (.Name "range" p) [a,b] [] pos) (Vr ta):=by
 intro pins s σ H R I h;refine Call_ (ft I hg hm boot_range (PyProof.Rows.callWith_type1 (cr (ha pos pins s σ H _ I h) λus s1 ⟨vs,H1,I1,r1,q1⟩=>?_) (by rw[hs,hs2]) (by rw[hs2];rfl)))
 obtain⟨i,j,e,⟨q1,q2,q3,q4⟩,q⟩:=q1;subst e;cases r1 with
 | cons r rr =>
  cases rr with
  | cons r' rr =>
   cases rr;obtain⟨t,rfl⟩:=r;obtain⟨t',rfl⟩:=r';exact call_range_2 (qD I1 q1 q2 q3 q4 q)

def Vt (wi:TI)(g:TG)(tb:TS):TS:=λD σ H=>wi σ H λJ H1=>∃ W:Nat->Nat->St->Hp->Prop,(∃ m,W 0 m σ H1)/\∀ i m σ H,W i m σ H ->
 (J.stop i H/\D.nx σ H)\/(J.go i H/\∃ N:St->Hp->Prop,(∀ σ' H',N σ' H'->∃ m',m' < m/\W (i+1) m' σ' H')/\∀ x H',J.yld i H x H'->g x σ H' λσ2 H2=>tb { D with nx:=N,ct:=N,bk:=D.nx } σ2 H2)
def ji (fp:List Addr)(h:Heap):List (Addr×Obj):=fp.filterMap λb=>(h.get? b).map λo=>(b,o)
theorem dF {fp:List Addr}{h:Heap}{b:Addr}{o:Obj}(hb:b∈fp)(e:h.get? b=some o):(b,o)∈ji fp h:=List.mem_filterMap.mpr ⟨b,hb,by rw[e];rfl⟩
theorem xh {fp:List Addr}{h:Heap}{p:Addr×Obj}(hp:p∈ji fp h):p.1∈fp/\h.get? p.1=some p.2:=by
 obtain⟨b,hb,e⟩:=List.mem_filterMap.mp hp;cases q:h.get? b with
 | none=>rw[q] at e;cases e
 | some o =>
  rw[q] at e;have e':(b,o)=p:=Option.some.inj e;subst e';exact⟨hb,q⟩
theorem Inv.pinned {pins:List (Addr×Obj)}{σ:St}{H:Hp}{s:Shared}{fp:List Addr}(I:Inv X pins σ H s)(hf:∀ b∈fp,fX X pins H b)(ho:∀ b∈fp,∃ o,s.heap.get? b=some o/\∀ v,o.data≠.cell v):Inv X (pins++ji fp s.heap) σ H s :=
 I.pins_of λp hp=>(List.mem_append.mp hp).elim (λz=>I.pin p (List.mem_append_right _ z)) λz=>by
  obtain⟨hb,e⟩:=xh z;obtain⟨f0,f1,f2,_⟩:=hf p.1 hb;obtain⟨o,e',d⟩:=ho p.1 hb;rw[e] at e';cases e';exact⟨e,f0,f1,f2,d⟩
theorem Inv.unpinned {pins pl:List (Addr×Obj)}{σ:St}{H:Hp}{s:Shared}(I:Inv X (pins++pl) σ H s):Inv X pins σ H s:=I.pins_of λp hp=>I.pin p (List.mem_append_right _ (List.mem_append_left _ hp))
theorem yq {iter:Expr}{body:List Stmt}{wi:TI}{g:TG}{tb:TS}{pos:Pos}(hp:PassesOwn (model X.prog X.w) X.A X.env X.xe)(hc:X.calm=true)(hi:PI X tg iter wi)(hg:PG X tg g)(hb:PSs X body tb)
  (hs:∀ x,foldedSetIterable iter X.env x=pure x:=by intro _;rfl):PS X (.For tg iter body [] pos) (Vt wi g tb):=by
 intro pins s σ H D I h;refine wpAny_For (cr (hi pins s σ H _ I h) λv s1 h1=>cr h1 λitv s2 h2=>?_) hs;obtain⟨it,fp,tn,J,H2,e,I2,T,st2,f2,W,⟨m0,w0⟩,turn⟩:=h2;subst e
 -- what stays true of the iterator's objects through the loop
 have stat:∀ {H':Hp},(∀ b∈fp,H' b=none)->∀ b∈fp,fX X pins H' b:=λhn b hb=>⟨hn b hb,(f2 b hb).2⟩;refine codeAny_forLoop_any (λn s'=>∃ i σ' H',Inv X pins σ' H' s'/\tn i s'.heap/\(∀ b∈fp,H' b=none)/\W i n σ' H') ?_ m0 ⟨0,σ,H2,I2,st2,λb hb=>(f2 b hb).1,w0⟩;rintro n s3 ⟨i,σ3,H3,I3,st3,fr3,w3⟩;rcases turn i n σ3 H3 w3 with ⟨stop,qn⟩|⟨go,N,hN,step⟩
 ·refine wpAny_passesOwn hp (cr (T.done X rfl rfl rfl hc i pins s3 σ3 H3 X.xe I3 (stat fr3) st3 stop) λr s4 ⟨hr,I4⟩=>?_)
  subst hr;exact wpAny_execs_nil ⟨σ3,H3,I4,qn⟩
 ·refine wpAny_passesOwn hp (cr (T.item X rfl rfl rfl hc i pins s3 σ3 H3 X.xe I3 (stat fr3) st3 go) λr s4 ⟨u,hr,h4⟩=>?_)
  subst hr;refine wpAny_passesOwn hp (cr h4 λ_ s5 ⟨x,H5,I5,r5,y5,st5,fr5⟩=>?_);have I5':=I5.pinned (stat fr5) (T.obj _ _ st5);refine wpAny_passesOwn hp (cr (hg _ s5 σ3 H5 x u _ I5' r5 (step x H5 y5)) λ_ s6 ⟨σ6,H6,I6,q6⟩=>?_);refine wpAny_passesOwn hp (cr (hb _ s6 σ6 H6 _ I6 q6) λf s7 q7=>?_);have again:∀ {σ7:St} {H7:Hp},Inv X (pins++ji fp s5.heap) σ7 H7 s7->N σ7 H7->∃ m,m < n/\∃ i σ' H',Inv X pins σ' H' s7/\tn i s7.heap/\(∀ b∈fp,H' b=none)/\W i m σ' H':=λ{σ7 H7} I7 n7=>by
   obtain⟨m',hm,w7⟩:=hN σ7 H7 n7;refine⟨m',hm,i+1,σ7,H7,I7.unpinned,T.keep _ _ _ st5 λb hb o e=>(I7.pin (b,o) (List.mem_append_right _ (List.mem_append_right _ (dF hb e)))).1,λb hb=>?_,w7⟩;obtain⟨o,e,d⟩:=T.obj _ _ st5 b hb;exact (I7.pin (b,o) (List.mem_append_right _ (List.mem_append_right _ (dF hb e)))).2.1
  cases f with
  | next=>obtain⟨σ7,H7,I7,n7⟩:=q7;exact again I7 n7
  | cont=>obtain⟨σ7,H7,I7,n7⟩:=q7;exact again I7 n7
  | brk=>obtain⟨σ7,H7,I7,q7⟩:=q7;exact⟨σ7,H7,I7.unpinned,q7⟩
  | ret v=>obtain⟨x7,σ7,H7,I7,r7,q7⟩:=q7;exact⟨x7,σ7,H7,I7.unpinned,r7,q7⟩
end

end L2

namespace L2
open PySem PySem.Spec PyProof.Rows

abbrev R2:=V->V->Hp->VK->Prop
def OpR (X:Cx)(f:Value->Value->Sem Value)(r:R2):Prop :=
 ∀ (pins:List (Addr×Obj)) (s:Shared) (σ:St) (H:Hp) (x y:V) (v u:Value) (Q:VK),Inv X pins σ H s->RelV x v->RelV y u->r x y H Q ->
  wpAny (model X.prog X.w) X.A (f v u) (EP X pins σ Q) X.xe s
def ZX (X:Cx)(f:Value->Sem Value)(r:V->Hp->VK->Prop):Prop :=
 ∀ (pins:List (Addr×Obj)) (s:Shared) (σ:St) (H:Hp) (x:V) (v:Value) (Q:VK),Inv X pins σ H s->RelV x v->r x H Q ->
  wpAny (model X.prog X.w) X.A (f v) (EP X pins σ Q) X.xe s
def CallR (X:Cx)(f:Value)(r:List V->Hp->VK->Prop):Prop :=
 ∀ (pins:List (Addr×Obj)) (s:Shared) (σ:St) (H:Hp) (xs:List V) (us:List Value) (Q:VK),Inv X pins σ H s->Vals xs us->r xs H Q ->
  wpAny (model X.prog X.w) X.A (call f us) (EP X pins σ Q) X.xe s
def ZY (X:Cx)(r:V->Hp->(Bool->Hp->Prop)->Prop):Prop :=
 ∀ (pins:List (Addr×Obj)) (s:Shared) (σ:St) (H:Hp) (x:V) (v:Value) (Q:Bool->Hp->Prop),Inv X pins σ H s->RelV x v->r x H Q ->
  wpAny (model X.prog X.w) X.A (truthy v) (TP X pins σ Q) X.xe s

def Ve (r:R2)(ta tb:TE):TE:=λσ H Q=>ta σ H λx H1=>tb σ H1 λy H2=>r x y H2 Q
def tUn (r:V->Hp->VK->Prop)(ta:TE):TE:=λσ H Q=>ta σ H λx H1=>r x H1 Q
def rI (C:Int->Int->Prop)(g:Int->Int->V):R2:=λx y H Q=>∃ i j,x=.int i/\y=.int j/\C i j/\Q (g i j) H
def Gg (g:Int->Int->V):R2:=λx y H Q=>∃ i j,x=.int i/\y=.int j/\Q (g i j) H
def rU (g:Int->V):V->Hp->VK->Prop:=λx H Q=>∃ i,x=.int i/\Q (g i) H

section
variable {X:Cx}{a b c:Expr}{ta tb tc:TE}{pos:Pos}

theorem Ld (ha:PE X a ta)(hb:PE X b tb){pins:List (Addr×Obj)}{s:Shared}{σ:St}{H:Hp}{R:V->V->Hp->Prop}(I:Inv X pins σ H s)
  (h:ta σ H λx H1=>tb σ H1 λy H2=>R x y H2) {Q:Value->Shared->Prop} {f:Value->Value->Sem Value}
  (hf:∀ v u s2 x y H2,Inv X pins σ H2 s2->RelV x v->RelV y u->R x y H2->wpAny (model X.prog X.w) X.A (f v u) Q X.xe s2) :
  wpAny (model X.prog X.w) X.A (eval a X.env) (λv s₁=>wpAny (model X.prog X.w) X.A (eval b X.env) (λu s₂=>wpAny (model X.prog X.w) X.A (f v u) Q X.xe s₂) X.xe s₁) X.xe s:=by
 refine cr (ha pins s σ H _ I h) λv s1 ⟨x,H1,I1,r1,q1⟩=>?_;refine cr (hb pins s1 σ H1 _ I1 q1) λu s2 ⟨y,H2,I2,r2,q2⟩=>?_;exact hf v u s2 x y H2 I2 r1 r2 q2

theorem Vu {op:Operator}{r:R2}(ho:OpR X (binaryOp op) r)(ha:PE X a ta)(hb:PE X b tb):PE X (.BinOp a op b pos) (Ve r ta tb):=by
 intro pins s σ H Q I h;exact wpAny_BinOp (Ld ha hb I h λv u s2 x y H2 I2 rx ry q=>ho pins s2 σ H2 x y v u Q I2 rx ry q)
theorem Vv {op:UnaryOp}{r:V->Hp->VK->Prop}(ho:ZX X (unaryOp op) r)(ha:PE X a ta):PE X (.UnaryOp op a pos) (tUn r ta):=by
 intro pins s σ H Q I h;exact UnaryOp_ (cr (ha pins s σ H _ I h) λv s1 ⟨x,H1,I1,r1,q1⟩=>ho pins s1 σ H1 x v Q I1 r1 q1)
theorem Zy {f:Value->Value->Sem Value}{C:Int->Int->Prop}{g:Int->Int->Int}
  (rule:∀ (i j:Int) (t u:Tok) (s:Shared) (Q:Value->Shared->Prop) (E:Value->Shared->Prop),C i j->Q (.int (g i j) s.toks) { s with toks:=s.toks+1 }->wpAny (model X.prog X.w) X.A (f (.int i t) (.int j u)) Q E s) :
  OpR X f (rI C λi j=>.int (g i j)):=by
 intro pins s σ H x y v u Q I rx ry h;obtain⟨i,j,rfl,rfl,hc,q⟩:=h;obtain⟨t,rfl⟩:=rx;obtain⟨t',rfl⟩:=ry;exact rule i j t t' s _ _ hc ⟨.int (g i j),H,I.tok _,⟨_,rfl⟩,q⟩
theorem Vw {f:Value->Value->Sem Value}{g:Int->Int->Int}
  (rule:∀ (i j:Int) (t u:Tok) (s:Shared) (Q:Value->Shared->Prop) (E:Value->Shared->Prop),Q (.int (g i j) s.toks) { s with toks:=s.toks+1 }->wpAny (model X.prog X.w) X.A (f (.int i t) (.int j u)) Q E s) :
  OpR X f (Gg λi j=>.int (g i j)):=by
 intro pins s σ H x y v u Q I rx ry h;obtain⟨i,j,rfl,rfl,q⟩:=h;obtain⟨t,rfl⟩:=rx;obtain⟨t',rfl⟩:=ry;exact rule i j t t' s _ _ ⟨.int (g i j),H,I.tok _,⟨_,rfl⟩,q⟩
theorem Gv {f:Value->Value->Sem Value}{g:Int->Int->Bool}
  (rule:∀ (i j:Int) (t u:Tok) (s:Shared) (Q:Value->Shared->Prop) (E:Value->Shared->Prop),Q (.bool (g i j)) s->wpAny (model X.prog X.w) X.A (f (.int i t) (.int j u)) Q E s) :
  OpR X f (Gg λi j=>.bl (g i j)):=by
 intro pins s σ H x y v u Q I rx ry h;obtain⟨i,j,rfl,rfl,q⟩:=h;obtain⟨t,rfl⟩:=rx;obtain⟨t',rfl⟩:=ry;exact rule i j t t' s _ _ ⟨.bl (g i j),H,I,rfl,q⟩

def ZZ (i j:Int):Prop:=0 < j/\j < 1073741824
def ki (i j:Int):Prop:=0<=j/\j<=1000000/\i.natAbs < 2^64
def CMul (i j:Int):Prop:=(-(2^64) < i/\i < 2^64)\/(-(2^64) < j/\j < 2^64)
theorem CMul.ok {i j:Int}(h:CMul i j):IntMulOk i j:=by
 rcases h with ⟨h1,h2⟩|⟨h1,h2⟩
 ·exact .of_left (intBits_le_64 h1 h2)
 ·exact .of_right (intBits_le_64 h1 h2)
theorem op_add:OpR X (binaryOp .Add) (Gg λi j=>.int (i+j)):=Vw λ_ _ _ _ _ _ _ q=>add_int q
theorem Le:OpR X (binaryOp .Sub) (Gg λi j=>.int (i - j)):=Vw λ_ _ _ _ _ _ _ q=>sub_int q
theorem op_mul:OpR X (binaryOp .Mult) (rI CMul λi j=>.int (i*j)):=Zy λ_ _ _ _ _ _ _ hc q=>mul_int q hc.ok
theorem Lf:OpR X (binaryOp .Mod) (rI (λ_ j=>0 < j) λi j=>.int (i%j)):=Zy λi j _ _ _ _ _ hc q=>by
 have h1:(0:Int) < j:=hc;exact mod_int' (by omega) (by rw[Int.fmod_eq_emod_of_nonneg i (by omega)];exact q)
theorem Lg:OpR X (binaryOp .Pow) (rI ki λi j=>.int (i^j.toNat)):=Zy λ_ _ _ _ _ _ _ hc q=>pow_int_small hc.1 hc.2.1 hc.2.2 q
theorem unI {f:Value->Sem Value}{g:Int->Int}
  (rule:∀ (i:Int) (t:Tok) (s:Shared) (Q:Value->Shared->Prop) (E:Value->Shared->Prop),Q (.int (g i) s.toks) { s with toks:=s.toks+1 }->wpAny (model X.prog X.w) X.A (f (.int i t)) Q E s) :
  ZX X f (rU λi=>.int (g i)):=by
 intro pins s σ H x v Q I rx h;obtain⟨i,rfl,q⟩:=h;obtain⟨t,rfl⟩:=rx;exact rule i t s _ _ ⟨.int (g i),H,I.tok _,⟨_,rfl⟩,q⟩
theorem Lh:ZX X (unaryOp .USub) (rU λi=>.int (-i)):=unI λ_ _ _ _ _ q=>neg_int q
end

section
variable {X:Cx}{a b c:Expr}{ta tb tc:TE}{pos:Pos}
theorem yr {pins:List (Addr×Obj)}{σ:St}{H:Hp}{s:Shared}{Q:VK}{k k':Bool}(I:Inv X pins σ H s)(q:Q (.bl k) H)(e:k=k'):EP X pins σ Q (.bool k') s:=by
 subst e;exact⟨.bl k,H,I,rfl,q⟩
theorem Vy:OpR X (compareOp .Lt) (Gg λi j=>.bl (decide (i < j))):=Gv λ_ _ _ _ _ _ _ q=>lt_int q
theorem Vz:OpR X (compareOp .LtE) (Gg λi j=>.bl (decide (i<=j))):=Gv λ_ _ _ _ _ _ _ q=>le_int q
theorem VA:OpR X (compareOp .Gt) (Gg λi j=>.bl (decide (j < i))):=Gv λ_ _ _ _ _ _ _ q=>gt_int q
theorem VB:OpR X (compareOp .GtE) (Gg λi j=>.bl (decide (j<=i))):=Gv λ_ _ _ _ _ _ _ q=>ge_int q
theorem Li:OpR X (compareOp .Is) (λx y H Q=>y=.non/\Q (.bl (decide (x=.non))) H):=by
 intro pins s σ H x y v u Q I rx ry h;obtain⟨rfl,q⟩:=h;cases ry;refine is_none_gen (yr I q ?_);cases x<;>first
  | (cases rx;rfl)
  | (obtain⟨t,rfl⟩:=rx;rfl)
theorem Gw:OpR X (compareOp .IsNot) (λx y H Q=>y=.non/\Q (.bl (!decide (x=.non))) H):=by
 intro pins s σ H x y v u Q I rx ry h;obtain⟨rfl,q⟩:=h;cases ry;refine isnot_none_gen (yr I q ?_);cases x<;>first
  | (cases rx;rfl)
  | (obtain⟨t,rfl⟩:=rx;rfl)

theorem OpR.or {f:Value->Value->Sem Value}{r r':R2}(h:OpR X f r)(h':OpR X f r'):OpR X f (λx y H Q=>r x y H Q\/r' x y H Q):=by
 intro pins s σ H x y v u Q I rx ry q;rcases q with q|q
 ·exact h pins s σ H x y v u Q I rx ry q
 ·exact h' pins s σ H x y v u Q I rx ry q

theorem yt (b:Expr){op:CmpOp}(h:op≠.In:=by decide)(h2:op≠.NotIn:=by decide):behindInMarks op b=false:=by
 have e1:(op==CmpOp.In)=false:=by cases op<;>first|rfl|exact absurd rfl h
 have e2:(op==CmpOp.NotIn)=false:=by cases op<;>first|rfl|exact absurd rfl h2
 cases b<;>simp [behindInMarks,e1,e2]
theorem Gx {op:CmpOp}{r:R2}(ho:OpR X (compareOp op) r)(ha:PE X a ta)(hb:PE X b tb)(hm:behindInMarks op b=false):PE X (.Compare a [op] [b] pos) (Ve r ta tb):=by
 intro pins s σ H Q I h;exact wpAny_Compare1 (Ld ha hb I h λv u s2 x y H2 I2 rx ry q=>ho pins s2 σ H2 x y v u Q I2 rx ry q) hm
def VC (t:TE):TT:=λσ H Q=>t σ H λx H'=>∃ k,x=.bl k/\Q k H'
theorem Gy {op:CmpOp}{r:R2}(ho:OpR X (compareOp op) r)(ha:PE X a ta)(hb:PE X b tb)(hm:behindInMarks op b=false):PT X (.Compare a [op] [b] pos) (VC (Ve r ta tb)):=by
 intro pins s σ H Q I h;refine wpAny_isTrue_Compare1 (cr (ha pins s σ H _ I h) λv s1 ⟨x,H1,I1,r1,q1⟩=>cr (hb pins s1 σ H1 _ I1 q1) λu s2 ⟨y,H2,I2,r2,q2⟩ =>
  cr (ho pins s2 σ H2 x y v u _ I2 r1 r2 q2) λc s3 ⟨z,H3,I3,r3,k,e,q3⟩=>?_) hm
 subst e;cases r3;exact wpAny_truthy_bool ⟨H3,I3,q3⟩
def VD (K:PySem.W.Frag)(x:V)(H:Hp)(k:Bool):Prop :=
 match x with
 | .non=>k=false
 | .bl b=>k=b
 | .int i=>k=(i != 0)
 | .str y=>y.length<=sizeLine/\k=((y.length:Int) != 0)
 | .byt y=>y.size<=sizeLine/\k=((y.size:Int) != 0)
 | .ref p=>(∃ xs,SqL K H p xs/\k=!xs.isEmpty)\/(∃ xs,SqT K H p xs/\k=!xs.isEmpty)\/∃ kvs,H p=some (.dK kvs)/\k=!kvs.isEmpty
 | _=>False
theorem tL {κ:Type}{kvs:List (κ×V)}{vs:List (κ×Value)}(r:KV kvs vs):(!vs.isEmpty)=!kvs.isEmpty:=by
 cases r<;>rfl
theorem kN {xs:List V}{its:List Value}(r:Vals xs its):(!its.toArray.isEmpty)=!xs.isEmpty:=by
 cases r<;>simp
theorem gv:(sizeLine:Nat) < 2^63:=by rw[sizeLine_eq];decide
theorem Lj:ZY X (λx H Q=>∃ k,VD X.K x H k/\Q k H):=by
 intro pins s σ H x v Q I rx h;obtain⟨k,e,q⟩:=h;have hl:=gv;have hs:sizeLine=16777216:=sizeLine_eq;cases x with
 | non =>
  cases rx;have e':k=false:=e;subst e';exact truthy_none ⟨H,I,q⟩
 | bl b =>
  cases rx;have e':k=b:=e;subst e';exact wpAny_truthy_bool ⟨H,I,q⟩
 | int i =>
  obtain⟨t,rfl⟩:=rx;have e':k=(i != 0):=e;subst e';exact PySem.P.truthy_int ⟨H,I,q⟩
 | str y =>
  obtain⟨t,rfl⟩:=rx;obtain⟨hy,e'⟩:y.length<=sizeLine/\k=((y.length:Int) != 0):=e;subst e';exact PySem.P.truthy_str (by omega) ⟨H,I.tok _,q⟩
 | byt y =>
  obtain⟨t,rfl⟩:=rx;obtain⟨hy,e'⟩:y.size<=sizeLine/\k=((y.size:Int) != 0):=e;subst e';exact PySem.W.truthy_bytes (by omega) ⟨H,I.tok _,q⟩
 | ref p =>
  cases rx;have e':(∃ xs,SqL X.K H p xs/\k=!xs.isEmpty)\/(∃ xs,SqT X.K H p xs/\k=!xs.isEmpty)\/∃ kvs,H p=some (.dK kvs)/\k=!kvs.isEmpty:=e;rcases e' with ⟨xs,hx,e'⟩|⟨xs,hx,e'⟩|⟨kvs,hx,e'⟩
  ·subst e'
   obtain⟨its,r,pl,hz⟩:=I.list hx;have hlen:=r.length;exact wpAny_truthy_list pl.isList (by simp only[List.size_toArray];omega) ⟨H,I.tok _,by rw[kN r];exact q⟩
  ·subst e'
   obtain⟨its,r,pl,hz⟩:=I.tuple hx;have hlen:=r.length;exact truthy_tuple pl (by simp only[List.size_toArray];omega) ⟨H,I.tok _,by rw[kN r];exact q⟩
  ·subst e'
   obtain⟨hz,hS,vs,r,m⟩:kvs.length<=sizeLine/\(p==sysModules)=false/\∃ vs,KV kvs vs/\s.heap.DictOf (cD X.prog X.w) p vs:=I.hok p _ hx;have hlen:kvs.length=vs.length:=Paired.length r;exact wpAny_truthy_dict hS m (by omega) ⟨H,I.tok _,by rw[tL r];exact q⟩
 | _=>exact (show False from e).elim
theorem yu (ha:PE X a ta)(he:∀ whole,isTrue a X.env whole=(do let v <- whole;standAt a.pos;holding [v] (truthy v))) :
  PT X a (λσ H Q=>ta σ H λx H'=>∃ k,VD X.K x H' k/\Q k H'):=by
 intro pins s σ H Q I h;exact isTrue_plain (cr (ha pins s σ H _ I h) λv s1 ⟨x,H1,I1,r1,q1⟩=>Lj pins s1 σ H1 x v Q I1 r1 q1) (he _)

theorem op_add_str:OpR X (binaryOp .Add) (λx y H Q=>∃ i j,x=.str i/\y=.str j/\i.length+j.length<=sizeLine/\Q (.str (i++j)) H):=by
 intro pins s σ H x y v u Q I rx ry h;obtain⟨i,j,rfl,rfl,hz,q⟩:=h;obtain⟨t,rfl⟩:=rx;obtain⟨t',rfl⟩:=ry;exact add_str (λt' tk=>⟨.str (i++j),H,I.tok _,⟨_,rfl⟩,q⟩) hz
theorem cV {x:V}{us:List Value}(r:Vals [x] us):∃ u,us=[u]/\RelV x u:=by
 cases r with
 | cons r1 r2=>cases r2;exact⟨_,rfl,r1⟩
theorem yv {x y:V}{us:List Value}(r:Vals [x,y] us):∃ u w',us=[u,w']/\RelV x u/\RelV y w':=by
 cases r with
 | cons r1 r2 =>
  cases r2 with
  | cons r3 r4=>cases r4;exact⟨_,_,rfl,r1,r3⟩
theorem yw:CallR X (.builtin "abs") (λxs H Q=>∃ i,xs=[.int i]/\Q (.int (if i < 0 then -i else i)) H):=by
 intro pins s σ H xs us Q I r h;obtain⟨i,rfl,q⟩:=h;obtain⟨u,rfl,t,rfl⟩:=cV r;exact call_abs_int λu tk=>⟨.int (if i < 0 then -i else i),H,I.tok _,⟨_,rfl⟩,q⟩
theorem xi (hc:X.calm=true):CallR X (.builtin "max") (λxs H Q=>∃ i j,xs=[.int i,.int j]/\Q (.int (if j > i then j else i)) H):=by
 intro pins s σ H xs us Q I r h;obtain⟨i,j,rfl,q⟩:=h;obtain⟨u,w',rfl,⟨t,rfl⟩,⟨t',rfl⟩⟩:=yv r;refine max_two_ints (I.ok.hd hc) λh' tk k=>⟨_,H,I.kept k,?_,q⟩
 by_cases hj:j > i
 ·rw[if_pos hj,if_pos hj];exact⟨_,rfl⟩
 ·rw[if_neg hj,if_neg hj];exact⟨_,rfl⟩
theorem xj (hc:X.calm=true):CallR X (.builtin "min") (λxs H Q=>∃ i j,xs=[.int i,.int j]/\Q (.int (if j < i then j else i)) H):=by
 intro pins s σ H xs us Q I r h;obtain⟨i,j,rfl,q⟩:=h;obtain⟨u,w',rfl,⟨t,rfl⟩,⟨t',rfl⟩⟩:=yv r;refine min_two_ints (I.ok.hd hc) λh' tk k=>⟨_,H,I.kept k,?_,q⟩
 by_cases hj:j < i
 ·rw[if_pos hj,if_pos hj];exact⟨_,rfl⟩
 ·rw[if_neg hj,if_neg hj];exact⟨_,rfl⟩
theorem xk:CallR X (.type "int") (λxs H Q=>(∃ i,xs=[.int i]/\Q (.int i) H)\/∃ k,xs=[.bl k]/\Q (.int (if k then 1 else 0)) H):=by
 intro pins s σ H xs us Q I r h;rcases h with ⟨i,rfl,q⟩|⟨k,rfl,q⟩
 ·obtain⟨u,rfl,t,rfl⟩:=cV r
  exact call_int_int ⟨.int i,H,I,⟨_,rfl⟩,q⟩
 ·obtain⟨u,rfl,r1⟩:=cV r
  cases r1;exact call_int_bool ⟨.int (if k then 1 else 0),H,I.tok _,⟨_,rfl⟩,q⟩
end
end L2

namespace L2
open PySem PySem.Spec PyProof.Rows

structure ObjM (h:Heap)(x dx C:Addr)(mA:Str->Option Value):Prop where
 obj:h.get? x=some (PySem.W.instObj C dx)
 ns:h.Ns1 dx mA
 ne:dx≠x

section
variable {prog:Program}{w:World}{A:Around}{E:Value->Shared->Prop}{s:Shared}{K:PySem.W.Frag}{x dx C f:Addr}{mA:Str->Option Value}{name:Str}{v:Value}

end

section
variable {P:Program}{w:World}{H H':Hp}{h h':Heap}{a C dx:Addr}{fs fs':List (Str×V)}
end

structure Cls (K:PySem.W.Frag)(C:Addr):Prop where
 pg:PySem.W.plainGet K C Str.empty=true
 hd:PySem.W.hasDictIn K C=true
 po:PySem.W.plainOver K C=true
 sa:PySem.W.findIn K (.ref C) "__setattr__"=some (some (.builtin "object.__setattr__"))
structure Con (K:PySem.W.Frag)(C:Addr)(f:Str)(v:V)(u:Value):Prop where
 at_:PySem.W.findIn K (.ref C) f=some (some u)
 rel:RelV v u
 get:PySem.W.specialIn K u "__get__"=some none
 cp:PySem.W.copiedNames.contains f=false
structure Meth (K:PySem.W.Frag)(C:Addr)(m:Str)(f:Addr):Prop where
 at_:PySem.W.findIn K (.ref C) m=some (some (.ref f))
 fn:PySem.W.isFn K (.ref f)=true
 kp:PySem.W.keepIn K (.ref f)=true

section
variable {X:Cx}{pins:List (Addr×Obj)}{σ:St}{H:Hp}{s:Shared}{a C dx:Addr}{fs:List (Str×V)}{f:Str}{v:V}{A:Around}{E:Value->Shared->Prop}

end

section
variable {X:Cx}{o e value:Expr}{f:Str}{pos pos' tpos:Pos}{ta tv:TE}
def Gz:V->V->Hp->VK->Prop:=λx y H Q=>∃ i j,x=.int i/\y=.int j/\Q (.int (i+j)) H
end

section
variable {X:Cx}{pins:List (Addr×Obj)}{σ:St}{H:Hp}{s:Shared}{A:Around}{E:Value->Shared->Prop}{Q:Value->Shared->Prop}{c:Value}{b:Bool}
inductive TyOf (K:PySem.W.Frag)(H:Hp):V->Value->Prop where
 | non:TyOf K H .non (.type "NoneType")
 | bl (x:Bool):TyOf K H (.bl x) (.type "bool")
 | int (i:Int):TyOf K H (.int i) (.type "int")
 | str (x:Str):TyOf K H (.str x) (.type "str")
 | flt (x:UInt64):TyOf K H (.flt x) (.type "float")
 | lst {a:Addr} {xs:List V} (e:H a=some (.lst xs)):TyOf K H (.ref a) (.type "list")
 | frz {a:Addr} {o:Obj} {xs:List V} (e:H a=some (.frz o (.lst xs))):TyOf K H (.ref a) (.type "list")
 | tup {a:Addr} {xs:List V} (e:H a=some (.tup xs)):TyOf K H (.ref a) (.type "tuple")
 | dK {a:Addr} {kvs:List (eY×V)} (e:H a=some (.dK kvs)):TyOf K H (.ref a) (.type "dict")
 | dT {a:Addr} {kvs:List (List eY×V)} (e:H a=some (.dT kvs)):TyOf K H (.ref a) (.type "dict")
 | ins {a C dx:Addr} {fs:List (Str×V)} (e:H a=some (.ins C dx fs)) (cl:Cls K C) (ha:PySem.W.findIn K (.ref C) "__class__"=some (some (.builtin "object.__class__")))
   (hn:PySem.W.specialIn K (.builtin "object.__class__") "__get__"=some (some (.builtin "getset_descriptor.__get__"))) (htk:PySem.W.takesIn K (.builtin "object.__class__")=some true)
   (hm:PySem.W.mroIn K C (.type "object")=some true):TyOf K H (.ref a) (.ref C)
end
end L2

namespace L2
open PySem PySem.Spec PyProof.Rows

structure Room (k:Nat)(A:Around):Prop where
 hd:A.handled=none
 dp:A.depth+3*k+5 < recursionLimit
 un:A.units+16*k+200 < cLine
theorem Room.mono {j k:Nat}{A:Around}(r:Room k A)(h:j<=k):Room j A:=⟨r.hd,by have:=r.dp;omega,by have:=r.un;omega⟩
theorem Room.deeper {k:Nat}{A:Around}(r:Room (k+1) A)(env:Env):Room k (A.deeper env) :=
 ⟨r.hd,by have:=r.dp;show A.depth+1+3*k+5 < _;omega,by have:=r.un;show A.units+3+16*k+200 < _;omega⟩
theorem Room.depth {k:Nat}{A:Around}(r:Room k A):A.depth < recursionLimit:=by have:=r.dp;omega
def om:TA:=λ_ H Q=>Q [] H
def ge (ta:TE)(tr:TA):TA:=λσ H Q=>ta σ H λx H1=>tr σ H1 λxs H2=>Q (x::xs) H2
section
variable {X:Cx}{e:Expr}{es:List Expr}{te:TE}{t:TA}{pos:Pos}
theorem pa_nil:PA X [] om:=λ_ _ _ _ H Q I h=>Calls.spliced_nil ⟨[],H,I,.nil,h⟩
theorem pa_cons (ha:PE X e te)(hr:PA X es t)(hs:starEach (e::es) X.env=(false,eval e X.env)::starEach es X.env:=by rfl):PA X (e::es) (ge te t):=by
 intro pos pins s σ H Q I h;rw[hs];show wpAny _ _ (spliced ((false,eval e X.env)::backTo pos (starEach es X.env))) _ _ s;refine Calls.spliced_cons (cr (ha pins s σ H _ I h) λu s1 ⟨x,H1,I1,r1,q1⟩=>?_);exact cr (hr pos pins s1 σ H1 _ I1 q1) λus s2 ⟨xs,H2,I2,r2,q2⟩=>⟨x::xs,H2,I2,.cons r1 r2,q2⟩

def aaa (t:TA):TE:=λσ H Q=>t σ H λxs H1=>xs.length<=sizeLine/\∀ p,H1 p=none->Q (.ref p) (bG H1 p (.tup xs))
def Lk (t:TA):TE:=λσ H Q=>t σ H λxs H1=>xs.length<=sizeLine/\∀ p,H1 p=none->Q (.ref p) (bG H1 p (.lst xs))
theorem Ll {x1}(h:PA X es t):PE X (.Tuple es x1 pos) (aaa t):=by
 intro pins s σ H Q I hq;refine wpAny_Tuple_spliced (cr (h pos pins s σ H _ I hq) λus s1 ⟨xs,H1,I1,r,z,q⟩=>⟨by rw[<- r.length];exact z,?_⟩)
 have hf:H1 s1.heap.objs.size=none:=I1.hok.fresh (Nat.le_refl _);refine⟨.ref s1.heap.objs.size,bG H1 s1.heap.objs.size (.tup xs),I1.laid (t':=s1.toks) (λb u e=>Heap.get?_push_of_some _ e) (Nat.le_refl _) ?_,rfl,q _ hf⟩;exact⟨z,us,r,⟨_,Heap.get?_push_size _ rfl,rfl,_,rfl⟩⟩
theorem kO (h:PA X es t):PE X (.List es pos) (Lk t):=by
 intro pins s σ H Q I hq;refine wpAny_List_spliced (cr (h pos pins s σ H _ I hq) λus s1 ⟨xs,H1,I1,r,z,q⟩=>⟨by rw[<- r.length];exact z,?_⟩)
 have hf:H1 s1.heap.objs.size=none:=I1.hok.fresh (Nat.le_refl _);refine⟨.ref s1.heap.objs.size,bG H1 s1.heap.objs.size (.lst xs),I1.laid (t':=s1.toks) (λb u e=>Heap.get?_push_of_some _ e) (Nat.le_refl _) ?_,rfl,q _ hf⟩;exact⟨z,us,0,r,Heap.get?_push_size _ rfl⟩
end

abbrev Sp:=List V->Hp->VK->XK->Prop
abbrev yf:=List Env->Hp->Shared->XK->Value->Shared->Prop

structure Env0 (P:Program)(w:World)(K:PySem.W.Frag)(mg:Str->Option Value)(base:Heap)(A:Around)(outer:List Env)(s:Shared)(H:Hp):Prop where
 frames:A.frames=some outer
 mod:Mod K mg base
 bs:∀ b o,base.get? b=some o->s.heap.get? b=some o/\H b=none
 bsz:base.objs.size<=s.heap.objs.size
 funs:s.heap.FunFrames base outer
 frf:∀ b∈yj outer,H b=none
 hok:HOk P w H s.heap
 bare:AllBare s.gens
def CE (outer:List Env)(P:Program)(w:World)(H:Hp)(s:Shared)(Q:VK)(u:Value)(s':Shared):Prop :=
 ∃ v H',s'.os=s.os/\AllBare s'.gens/\Un (yj outer) [] H H' s.heap s'.heap/\HOk P w H' s'.heap/\RelV v u/\Q v H'
def CR (CX:yf)(outer:List Env)(P:Program)(w:World)(H:Hp)(s:Shared)(Q:VK)(E:XK)(r:Result)(s':Shared):Prop :=
 match r with
 | .ok (.ret u)=>CE outer P w H s Q u s'
 | .ok _=>False
 | .error e=>CX outer H s E e s'
structure FnOk (P:Program)(w:World)(K:PySem.W.Frag)(mg:Str->Option Value)(base:Heap)(CX:yf)(k:Nat)(f:Addr)(fd:FuncData)(ps:List Str)(sp:Sp):Prop where
 len:∀ vs H Q E,sp vs H Q E->vs.length=ps.length
 run:∀ (A:Around) (outer:List Env) (s:Shared) (H:Hp) (args:Args) (us:List Value) (vs:List V) (Q:VK) (E:XK),Room k A->Env0 P w K mg base A outer s H->BindsTo s fd args (ps.zip us)->Vals vs us->sp vs H Q E ->
  codeAny (model P w) A (.call (.ref f) args) (CR CX outer P w H s Q E) s
theorem FnOk.mono {P:Program}{w:World}{K:PySem.W.Frag}{mg:Str->Option Value}{base:Heap}{CX:yf}{j k:Nat}{f:Addr}{fd:FuncData}{ps:List Str}{sp:Sp}(F:FnOk P w K mg base CX j f fd ps sp)(h:j<=k) :
  FnOk P w K mg base CX k f fd ps sp:=⟨F.len,λA outer s H args us vs Q E hr=>F.run A outer s H args us vs Q E (hr.mono h)⟩
theorem FnOk.imp {P:Program}{w:World}{K:PySem.W.Frag}{mg:Str->Option Value}{base:Heap}{CX:yf}{k:Nat}{f:Addr}{fd:FuncData}{ps:List Str}{sp sp':Sp}(F:FnOk P w K mg base CX k f fd ps sp)
  (h:∀ vs H Q E,sp' vs H Q E->sp vs H Q E):FnOk P w K mg base CX k f fd ps sp' :=
 ⟨λvs H Q E q=>F.len vs H Q E (h _ _ _ _ q),λA outer s H args us vs Q E hr he hb hv hs=>F.run A outer s H args us vs Q E hr he hb hv (h _ _ _ _ hs)⟩

section
variable {X:Cx}{pins:List (Addr×Obj)}{σ:St}{H:Hp}{s s':Shared}
theorem Inv.env0 (I:Inv X pins σ H s):Env0 X.prog X.w X.K X.mg X.base X.A X.stack s H :=
 ⟨I.ok.frames,I.ok.mod,I.bs,Nat.le_trans I.ok.bsz I.sz,I.stack,I.stkFree,I.hok,I.bare⟩
theorem Inv.after {Q:VK}{u:Value}(I:Inv X pins σ H s)(h:CE X.stack X.prog X.w H s Q u s'):EP X pins σ Q u s':=by
 obtain⟨v,H',os,bare,un,hok,r,q⟩:=h;obtain⟨hh,g,d,t,os'⟩:=s';obtain rfl:os'=s.os:=os;exact⟨v,H',I.call (h':=hh) (g':=g) (d':=d) (t':=t) (ch:=[]) un hok bare (λb z=>absurd z (by simp)),r,q⟩
end

def VE (sp:Sp)(dvs:List V)(E:XK)(t:TA):TE:=λσ H Q=>t σ H λvs H1=>sp (vs++dvs) H1 Q E
def Binds (K:PySem.W.Frag)(fd:FuncData)(ps:List Str)(ds:List Value):Prop :=
 ∀ (s:Shared) (us:List Value),K.In s.heap->(us++ds).length=ps.length->BindsTo s fd ⟨us,[]⟩ (ps.zip (us++ds))
theorem Binds.all {K:PySem.W.Frag}{fd:FuncData}{ps:List Str}(h:∀ us:List Value,us.length=ps.length->bindArgs fd ⟨us,[]⟩=pure (ps.zip us)):Binds K fd ps []:=λs us _ hl=>by
 rw[List.append_nil] at hl ⊢;exact .of_eq (h us hl)

def tM (CX:yf)(X:Cx)(E:XK):Prop:=∀ (pins:List (Addr×Obj)) (σ:St) (H:Hp) (s:Shared) (e:Value) (s':Shared),Inv X pins σ H s->CX X.stack H s E e s'->X.xe e s'

section
variable {X:Cx}{CX:yf}{k:Nat}{f C:Addr}{fd:FuncData}{ps:List Str}{sp:Sp}{dvs:List V}{ds:List Value}{E:XK}{x m:Str}{p pos apos:Pos}{e o:Expr}{es:List Expr}{ta:TE}{t:TA}

theorem Lm {pins:List (Addr×Obj)}{σ:St}{H:Hp}{s:Shared}{Q:VK}{us:List Value}{vs:List V}(F:FnOk X.prog X.w X.K X.mg X.base CX k f fd ps sp)(hr:Room k X.A)(hb:Binds X.K fd ps ds)(hd:Vals dvs ds)(hx:tM CX X E)
  (I:Inv X pins σ H s) (r:Vals vs us) (h:sp (vs++dvs) H Q E):wpAny (model X.prog X.w) X.A (call (.ref f) us) (EP X pins σ Q) X.xe s:=by
 have r2:Vals (vs++dvs) (us++ds):=r.append hd;have hl:(us++ds).length=ps.length:=by rw[<- r2.length];exact F.len _ _ _ _ h
 refine wpAny_call (codeAny_mono (F.run X.A X.stack s H ⟨us,[]⟩ (us++ds) (vs++dvs) Q E hr I.env0 (hb s us I.kIn hl) r2 h) λr s' hq=>?_);cases r with
 | error e=>exact hx pins σ H s e s' I hq
 | ok fl =>
  cases fl with
  | ret u=>exact I.after hq
  | next=>exact False.elim hq
  | brk=>exact False.elim hq
  | cont=>exact False.elim hq

theorem on (F:FnOk X.prog X.w X.K X.mg X.base CX k f fd ps sp)(hr:Room k X.A)(hg:Gl X x)(hm:X.mg x=some (.ref f))(hk:PySem.W.keepIn X.K (.ref f)=true)(hb:Binds X.K fd ps ds)(hd:Vals dvs ds)(hx:tM CX X E)
  (ha:PA X (e::es) t) (hdb:(x==("__debug__":Str))=false:=by decide) (he:starEach (e::es) X.env=(false,eval e X.env)::starEach es X.env:=by rfl) (hpl:(backTo pos (starEach es X.env)).any (·.1)=false:=by rfl) :
  PE X (.Call (.Name x p) (e::es) [] pos) (VE sp dvs E t):=by
 intro pins s σ H Q I h;refine wpAny_Call_Name_kw (uQ I hg hm ?_ hdb);refine PySem.W.callWith_K (h₀:=X.base) I.ok.mod.kin hk (cr (ha pos pins s σ H _ I h) λus s1 ⟨vs,H1,I1,r,q⟩=>⟨I1.kIn,?_⟩) he hpl;exact Lm F hr hb hd hx I1 r q
structure Mk (K:PySem.W.Frag)(C f:Addr):Prop where
 makes:PySem.W.makesIn K C=true
 init:PySem.W.findIn K (.ref C) "__init__"=some (some (.ref f))
 fn:PySem.W.isFn K (.ref f)=true
 kp:PySem.W.keepIn K (.ref C)=true

end

def PK (X:Cx)(kws:List Keyword)(t:TA):Prop :=
 ∀ (pos:Pos) (pins:List (Addr×Obj)) (s:Shared) (σ:St) (H:Hp) (Q:List V->Hp->Prop),Inv X pins σ H s->t σ H Q->wpAny (model X.prog X.w) X.A (evalAll ((backToKw pos (keywordEach kws X.env)).map (·.2))) (AP X pins σ Q) X.xe s
section
variable {X:Cx}{CX:yf}{k:Nat}{f C:Addr}{fd:FuncData}{ps ks:List Str}{sp:Sp}{E:XK}{x m:Str}{p pos apos kpos:Pos}{e o:Expr}{es:List Expr}{kws:List Keyword}{te ta:TE}{t tk:TA}{nm:Option Str}
theorem yx:PK X [] om:=λ_ _ _ _ H Q I h=>wpAny_evalAll_nil ⟨[],H,I,.nil,h⟩
theorem oo (ha:PE X e te)(hr:PK X kws t):PK X (⟨nm,e,kpos⟩::kws) (ge te t):=by
 intro pos pins s σ H Q I h;show wpAny _ _ (evalAll ((do let v <- eval e X.env;standAt pos;pure v)::(backToKw pos (keywordEach kws X.env)).map (·.2))) _ _ s
 refine wpAny_evalAll_cons (wpAny_bind (cr (ha pins s σ H _ I h) λu s1 ⟨x,H1,I1,r1,q1⟩=>wpAny_bind (wpAny_standAt (wpAny_pure ?_))));exact cr (hr pos pins s1 σ H1 _ I1 q1) λus s2 ⟨xs,H2,I2,r2,q2⟩=>⟨x::xs,H2,I2,.cons r1 r2,q2⟩

structure KBinds (K:PySem.W.Frag)(fd:FuncData)(ps ks:List Str)(g:List Value->List Value->List Value)(gV:List V->List V->List V):Prop where
 to:∀ (s:Shared) (us ws:List Value),K.In s.heap->(g us ws).length=ps.length->BindsTo s fd ⟨us,ks.zip ws⟩ (ps.zip (g us ws))
 rel:∀ {vs:List V} {us:List Value} {zs:List V} {ws:List Value},Vals vs us->Vals zs ws->Vals (gV vs zs) (g us ws)
variable {g:List Value->List Value->List Value}{gV:List V->List V->List V}
end

structure FnScope (N P:List Str)(sc:Scope):Prop where
 kind:sc.kind=.function
 co:sc.isCoroutine=false
 gen:sc.isGenerator=false
 nd:N.Nodup
 pre:N.take P.length=P
 par:∀ x∈P,sc.names.lookup x=some .local\/sc.names.lookup x=some .cell
 nofree:∀ y∈sc.names,y.2≠.free

theorem mZ {kindOf:Str->Option NameKind}{x:Str}:∀ {binds:List (Str×Value)} {m:Str->Option Value},(∀ v,(x,v)∉binds)->bindL kindOf binds m x=m x
 | [],_,_=>rfl
 | (n,v)::r,m,h=>by
  unfold bindL;rw[mZ λw hw=>h w (List.mem_cons_of_mem _ hw)]
  split
  ·have:x≠n:=by rintro rfl;exact h v List.mem_cons_self
   simp [this]
  ·rfl
theorem nc {kindOf:Str->Option NameKind}{x:Str}:∀ {binds:List (Str×Value)} {m:Str->Option Value},(∀ v,(x,v)∉binds)->bindC kindOf binds m x=m x
 | [],_,_=>rfl
 | (n,v)::r,m,h=>by
  unfold bindC;rw[nc λw hw=>h w (List.mem_cons_of_mem _ hw)]
  split
  ·rfl
  ·have:x≠n:=by rintro rfl;exact h v List.mem_cons_self
   simp [this]
theorem ng {kindOf:Str->Option NameKind}{x:Str}{v:Value}:∀ {P:List Str} {vs:List Value} {i:Nat} {m:Str->Option Value},P.Nodup->P[i]?=some x->vs[i]?=some v->kindOf x=some .local ->
  bindL kindOf (P.zip vs) m x=some v
 | [],_,_,_,_,h,_,_=>by simp at h
 | _::_,[],_,_,_,_,h,_=>by simp at h
 | p::P,w::vs,0,m,nd,h1,h2,hk=>by
  simp at h1 h2;subst h1;subst h2;show bindL kindOf ((p,w)::P.zip vs) m p=_;unfold bindL;rw[mZ λv hv=>(List.nodup_cons.mp nd).1 (List.of_mem_zip hv).1,if_pos hk];simp
 | p::P,w::vs,i+1,m,nd,h1,h2,hk=>by
  show bindL kindOf ((p,w)::P.zip vs) m x=_;unfold bindL;exact ng (i:=i) (List.nodup_cons.mp nd).2 (by simpa using h1) (by simpa using h2) hk
theorem nh {kindOf:Str->Option NameKind}{x:Str}{v:Value}:∀ {P:List Str} {vs:List Value} {i:Nat} {m:Str->Option Value},P.Nodup->P[i]?=some x->vs[i]?=some v->kindOf x≠some .local ->
  bindC kindOf (P.zip vs) m x=some v
 | [],_,_,_,_,h,_,_=>by simp at h
 | _::_,[],_,_,_,_,h,_=>by simp at h
 | p::P,w::vs,0,m,nd,h1,h2,hk=>by
  simp at h1 h2;subst h1;subst h2;show bindC kindOf ((p,w)::P.zip vs) m p=_;unfold bindC;rw[nc λv hv=>(List.nodup_cons.mp nd).1 (List.of_mem_zip hv).1,if_neg hk];simp
 | p::P,w::vs,i+1,m,nd,h1,h2,hk=>by
  show bindC kindOf ((p,w)::P.zip vs) m x=_;unfold bindC;exact nh (i:=i) (List.nodup_cons.mp nd).2 (by simpa using h1) (by simpa using h2) hk

def start (N:List Str)(vs:List V):St:=vs.map some++List.replicate (N.length - vs.length) none

def jj (CX:yf)(P:Program)(w:World)(K:PySem.W.Frag)(mg:Str->Option Value)(base:Heap)(N:List Str)(qual:Str)(scope:Scope)(f:Addr)(cd:Value)(A:Around)(outer:List Env)(s:Shared)(H:Hp)(E:XK):Cx where
 prog:=P
 w:=w
 K:=K
 mg:=mg
 base:=base
 A:=A.deeper (envOfC qual scope s.heap.objs.size f cd)
 N:=N
 s₀:=s
 H₀:=H
 env:=envOfC qual scope s.heap.objs.size f cd
 outer:=outer
 stack:=envOfC qual scope s.heap.objs.size f cd::outer
 ex:=[]
 calm:=true
 fn:=λ_=>true
 pn:=[]
 xe:=λe s'=>wpAny (model P w) (A.deeper (envOfC qual scope s.heap.objs.size f cd)) (leaving (envOfC qual scope s.heap.objs.size f cd) e) (λ_ s''=>CX outer H s E e s'') (λe' s''=>CX outer H s E e' s'') s'

theorem qE {sc:Scope}{n:Nat}{x:Str}(h:sc.names.lookup x=some .cell):∃ c,(cellsFrom n sc.names []).lookup x=some c:=by
 have q:=PySem.W.cellsFrom_some sc.names n [] (.inl h);exact Option.isSome_iff_exists.mp q

theorem xl {CX:yf}{P:Program}{w:World}{K:PySem.W.Frag}{mg:Str->Option Value}{base:Heap}{N ps:List Str}{qual:Str}{scope:Scope}{f:Addr}{cd:Value}{A:Around}{outer:List Env}{s s1:Shared}{H:Hp}{E:XK}{us:List Value}{vs:List V}
  (S:FnScope N ps scope) (hd:A.handled=none) (e0:Env0 P w K mg base A outer s H) (hl:vs.length=ps.length) (r:Vals vs us)
  (x:InCallC s s.heap.objs.size (bindL (envOfC qual scope s.heap.objs.size f cd).kindOf (ps.zip us) λ_=>none) (cellsFrom (s.heap.objs.size+1) scope.names []) (bindC (envOfC qual scope s.heap.objs.size f cd).kindOf (ps.zip us) λ_=>none) s1) :
  Inv (jj CX P w K mg base N qual scope f cd A outer s H E) [] (start N vs) H s1:=by
 have hpl:ps.length<=N.length:=by have:=congrArg List.length S.pre;rw[List.length_take] at this;omega
 obtain⟨h1,tk,rfl,hk⟩:=x.done;have noA:∀ b:Addr,b∉(jj CX P w K mg base N qual scope f cd A outer s H E).ex:=λb z=>absurd (show b∈([]:List Addr) from z) (by simp)
 refine⟨⟨e0.mod,S.kind,rfl,rfl,Nat.le_refl _,λy z c h1 h2=>?_,λy hy=>?_,λy c _ h=>?_,λ_=>hd,Around.frames_deeper e0.frames,.inr ⟨rfl,rfl⟩,λb z=>absurd z (noA b),e0.bs,e0.bsz,λb _ _=>noA b,λb z=>absurd z (noA b),e0.funs,e0.frf⟩,
  rfl,e0.bare,Un.kept hk,⟨_,x.toInCall.ns,λi y v h1 h2 h3=>?_⟩,λy c h=>⟨_,x.cell y c h⟩,e0.hok.fresh (Nat.le_refl _),λy c h=>?_,λp hp=>absurd (show p∈([]:List (Addr×Obj)) from hp) (by simp),e0.hok.kept hk,?_⟩
 ·exact name_of_addr x.apart (PySem.mem_of_lookup h1) (PySem.mem_of_lookup h2)
 ·have hy:scope.names.lookup y=some .cell\/scope.names.lookup y=some .free:=hy
  rcases hy with hy|hy
  ·exact qE hy
  ·exact absurd rfl (S.nofree _ (PySem.mem_of_lookup hy))
 ·exact Nat.le_of_lt (x.above y c (PySem.mem_of_lookup h))
 ·have hi:i < vs.length:=by
   unfold start at h2
   by_cases hi:i < vs.length
   ·exact hi
   ·rw[List.getElem?_append_right (by simpa using hi)] at h2
    rw[List.getElem?_replicate] at h2
    split at h2<;>cases h2
  have ha:vs[i]?=some v:=by
   unfold start at h2;rw[List.getElem?_append_left (by simpa using hi),List.getElem?_map] at h2
   cases e:vs[i]? with
   | none=>rw[e] at h2;cases h2
   | some a=>rw[e] at h2;cases h2;rfl
  obtain⟨u,hu,rv⟩:=r.get ha;have hp:ps[i]?=some y:=by
   rw[<- S.pre,List.getElem?_take_of_lt (by omega)];exact h1
  have ndP:ps.Nodup:=by rw[<- S.pre];exact S.nd.sublist (List.take_sublist _ _)
  refine⟨u,rv,?_⟩;rcases S.par y (List.mem_of_getElem? hp) with k|k
  ·exact .inl ⟨k,ng ndP hp hu k⟩
  ·obtain⟨c,e⟩:=qE (n:=s.heap.objs.size+1) k
   refine .inr ⟨.inl k,c,e,?_⟩;have q:=x.cell y c e;rw[nh ndP hp hu (by show scope.names.lookup y≠_;rw[k];decide)] at q
   exact q
 ·exact e0.hok.fresh (Nat.le_of_lt (x.above y c (PySem.mem_of_lookup h)))
 ·unfold start
  show _=N.length;rw[List.length_append,List.length_map,List.length_replicate];omega

theorem IB {CX:yf}{P:Program}{w:World}{K:PySem.W.Frag}{mg:Str->Option Value}{base:Heap}{k:Nat}{f:Addr}{name qual:Str}{params:Arguments}{body:List Stmt}{scope:Scope}{dV kV doc pm cdv ct oc:Value}{an od:Option Addr}
  {osl:Array (Option Value)} {N ps:List Str} {sp:Sp} (lk:K.lookup f=some ⟨oc,od,.func (PySem.W.fnOf name qual params body scope dV kV doc pm an cdv ct),osl⟩) (hcd:PySem.W.codeIn K cdv qual=true) (S:FnScope N ps scope)
  (len:∀ vs H Q E,sp vs H Q E->vs.length=ps.length)
  (hbody:∀ (A:Around) (outer:List Env) (s:Shared) (H:Hp) (vs:List V) (Q:VK) (E:XK),Room k (A.deeper (envOfC qual scope s.heap.objs.size f cdv))->sp vs H Q E ->
   ∃ t,PSs (jj CX P w K mg base N qual scope f cdv A outer s H E) body t/\t { nx:=λ_ H'=>Q .non H',rt:=Q } (start N vs) H) :
  FnOk P w K mg base CX (k+1) f (PySem.W.fnOf name qual params body scope dV kV doc pm an cdv ct) ps sp:=by
 refine⟨len,λA outer s H args us vs Q E hr e0 hb r hsp=>?_⟩;have hl:=len _ _ _ _ hsp;have KX:K.In s.heap:=e0.mod.kin.keeps λb o e=>(e0.bs b o e).1;have lim:s.heap.NoLimit:=e0.mod.nolimit.keeps λb o e=>(e0.bs b o e).1;have hkind:∀ y∈ps.zip us,scope.names.lookup y.1=some .local\/(scope.names.lookup y.1=some .cell/\((cellsFrom (s.heap.objs.size+1) scope.names []).lookup y.1).isSome=true):=λ⟨n,v⟩ hy=>by
  rcases S.par n (List.of_mem_zip hy).1 with q|q
  ·exact .inl q
  ·exact .inr ⟨q,PySem.W.cellsFrom_some _ _ _ (.inl q)⟩
 refine codeAny_call_function hr.depth (KX _ _ lk) rfl S.co S.gen rfl (PySem.W.codeRec_of KX hcd) (hb _ _ _ _ ?_);refine wpAny_newFunctionEnv_cells S.kind hkind λenv he s1 x=>?_;subst he;refine⟨lim.keeps x.toInCall.keep,codeAny_func ?_⟩;obtain⟨t,ht,hq⟩:=hbody A outer s H vs Q E (hr.deeper _) hsp;have I:Inv (jj CX P w K mg base N qual scope f cdv A outer s H E) [] (start N vs) H s1:=xl S hr.hd e0 hl r x;refine wpAny_mono (ht [] s1 (start N vs) H _ I hq) (λfl s' hs=>?_) λe s' hs=>hs;have fin:∀ {σ':St} {H':Hp} {v:V} {u:Value},Inv (jj CX P w K mg base N qual scope f cdv A outer s H E) [] σ' H' s'->RelV v u->Q v H'->CE outer P w H s Q u s' :=
  λ{σ' H' v u} J rv q=>⟨v,H',J.os,J.bare,J.base,J.hok,rv,q⟩
 cases fl with
 | ret u =>
  obtain⟨v,σ',H',J,rv,q⟩:=hs;exact fin J rv q
 | next =>
  obtain⟨σ',H',J,q⟩:=hs;exact fin (v:=V.non) (u:=Value.none) J rfl q
 | brk =>
  obtain⟨_,_,_,q⟩:=hs;exact False.elim q
 | cont =>
  obtain⟨_,_,_,q⟩:=hs;exact False.elim q
end L2

namespace L2
open PySem PySem.Spec PyProof.Rows
section
variable {X:Cx}{x:Str}{p pos:Pos}{e:Expr}{es:List Expr}{t:TA}{id T:String}{r:List V->Hp->VK->Prop}

def tCB (r:List V->Hp->VK->Prop)(t:TA):TE:=λσ H Q=>t σ H λvs H1=>r vs H1 Q
theorem yy (hc:CallR X (.builtin id) r)(hg:Gl X x)(hm:X.mg x=none)(hv:bootBuiltins x=some (.builtin id))(ha:PA X (e::es) t)(hn:x≠"__name__":=by decide)(hdb:(x==("__debug__":Str))=false:=by decide)
  (he:starEach (e::es) X.env=(false,eval e X.env)::starEach es X.env:=by rfl) (hpl:(backTo pos (starEach es X.env)).any (·.1)=false:=by rfl):PE X (.Call (.Name x p) (e::es) [] pos) (tCB r t):=by
 intro pins s σ H Q I h;refine wpAny_Call_Name_kw (ft I hg hm hv ?_ hn hdb);exact PyProof.Rows.callWith_builtin1 (cr (ha pos pins s σ H _ I h) λus s1 ⟨vs,H1,I1,r1,q1⟩=>hc pins s1 σ H1 vs us Q I1 r1 q1) he hpl
theorem fK (hc:CallR X (.type T) r)(hg:Gl X x)(hm:X.mg x=none)(hv:bootBuiltins x=some (.type T))(ha:PA X (e::es) t)(hn:x≠"__name__":=by decide)(hdb:(x==("__debug__":Str))=false:=by decide)
  (he:starEach (e::es) X.env=(false,eval e X.env)::starEach es X.env:=by rfl) (hpl:(backTo pos (starEach es X.env)).any (·.1)=false:=by rfl):PE X (.Call (.Name x p) (e::es) [] pos) (tCB r t):=by
 intro pins s σ H Q I h;refine wpAny_Call_Name_kw (ft I hg hm hv ?_ hn hdb);exact PyProof.Rows.callWith_type1 (cr (ha pos pins s σ H _ I h) λus s1 ⟨vs,H1,I1,r1,q1⟩=>hc pins s1 σ H1 vs us Q I1 r1 q1) he hpl
end
end L2

namespace HT
open PySem PyProof.Rows

def lexLt:List Int->List Int->Bool
 | [],[]=>false
 | [],_::_=>true
 | _::_,[]=>false
 | x::xs,y::ys=>if x=y then lexLt xs ys else decide (x < y)
theorem lexLt_cons (x y:Int)(xs ys:List Int):lexLt (x::xs) (y::ys)=if x=y then lexLt xs ys else decide (x < y):=rfl
theorem mH:lexLt [] []=false:=rfl
theorem lexLt_nil_cons (y:Int)(ys:List Int):lexLt [] (y::ys)=true:=rfl
theorem lexLt_cons_nil (x:Int)(xs:List Int):lexLt (x::xs) []=false:=rfl

theorem yz (A:Around)(s:Shared)(a:Int)(t:Tok)(c:Int)(u:Tok):∃ e,SeqAt.EqAt A s (.int a t) (.int c u) e/\(e=true ↔ a=c) :=
 ⟨(a==c),SeqAt.EqAt.int_int a t c u,by simp⟩
theorem yA (A:Around)(s:Shared)(a:Int)(t:Tok)(c:Int)(u:Tok)(prog:Program)(w:World)(E:Value->Shared->Prop)(Q:Value->Shared->Prop)(h:Q (.bool (decide (a < c))) s) :
  wpAny (model prog w) A (richCompare .Lt (.int a t) (.int c u)) Q E s :=
 (PyProof.Rows.lt_int h:wpAny (model prog w) A (compareOp .Lt (.int a t) (.int c u)) Q E s)

section
open PySem.SeqAt
open PySem.AutoSeq1 (wpAny_loadPart')
open PySem.MeetsSeq PySem.MeetsSeq2 PySem.MeetsSeq3

theorem mI (l b:Addr)(items items2:Array Value)(n n2:Nat)(dd dd2:Option Addr)(sl sl2:Array (Option Value))(ns ms:List Int)(hi:IntsAre items.toList ns)(hj:IntsAre items2.toList ms) :
  Meets (Builtin.«tuple.__lt__» ⟨[.ref l,.ref b],[]⟩)
   (λ_ R s=>s.heap.get? l=some { cls:=.type "tuple",dict:=dd,data:=.seq items n,slots:=sl }/\s.heap.get? b=some { cls:=.type "tuple",dict:=dd2,data:=.seq items2 n2,slots:=sl2 } /\
    R (.ok (.ret (.bool (lexLt ns ms)))) s) :=
 .of_wp λprog w A R s h=>by
  obtain⟨hp,g,d,tk,os⟩:=s;obtain⟨hl,hb,h⟩:=h;have f2:=AutoSeq1.sub_tuple_tuple;have z1:items.size=ns.length:=by rw[<- hi.length];simp
  have z2:items2.size=ms.length:=by rw[<- hj.length];simp
  wp_walk using wpAny_loadPart' hl,wpAny_loadPart' hb,wpAny_forIn_list _ (λrest b s'=>b.1=none/\s'=⟨hp,g,d,tk,os⟩/\∃ (vs ws:List Value) (ns' ms':List Int),rest=vs.zip ws /\
   IntsAre vs ns'/\IntsAre ws ms'/\ns'.length+items2.size=ms'.length+items.size/\R (.ok (.ret (.bool (lexLt ns' ms')))) ⟨hp,g,d,tk,os⟩) _
  case turn =>
   rintro ⟨y,x⟩ rest b s' ⟨hb',rfl,vs,ws,ns',ms',hz,hvi,hwi,hlen,hR⟩;cases hvi with
   | nil=>rw[List.zip_nil_left] at hz;cases hz
   | cons a t hvi' =>
    cases hwi with
    | nil=>rw[List.zip_nil_right] at hz;cases hz
    | cons c u hwi' =>
     rw[List.zip_cons_cons] at hz
     injection hz with hyx hrest
     injection hyx with hy hx
     subst hy hx;rw[lexLt_cons] at hR;simp only[List.length_cons] at hlen;obtain⟨e,he,hiff⟩:=yz A.in1 ⟨hp,g,d,tk,os⟩ a t c u;refine wpAny_bind (he prog w _ _ ?_);cases e with
     | true =>
      rw[if_pos (hiff.mp rfl)] at hR
      wp_walk
      exact⟨rfl,rfl,_,_,_,_,hrest,hvi',hwi',by omega,hR⟩
     | false =>
      rw[if_neg (λq=>absurd (hiff.mpr q) Bool.false_ne_true)] at hR;have hri:=yA A.in1 ⟨hp,g,d,tk,os⟩ a t c u prog w
      wp_walk using hri
      exact⟨_,rfl,by simpa using hR⟩
  case fin =>
   rintro ⟨b1,b2⟩ s' ⟨hb',rfl,vs,ws,ns',ms',hz,hvi,hwi,hlen,hR⟩;simp only at hb';subst hb';have hv:lexLt ns' ms'=decide (items.size < items2.size):=by
    cases hvi with
    | nil =>
     cases hwi with
     | nil =>
      simp only[List.length_nil] at hlen;rw[mH];exact (decide_eq_false (by omega)).symm
     | cons c u hw =>
      simp only[List.length_nil,List.length_cons] at hlen;rw[lexLt_nil_cons];exact (decide_eq_true (by omega)).symm
    | cons a t hv =>
     cases hwi with
     | nil =>
      simp only[List.length_nil,List.length_cons] at hlen;rw[lexLt_cons_nil];exact (decide_eq_false (by omega)).symm
     | cons c u hw =>
      rw[List.zip_cons_cons] at hz;cases hz
   rw[hv] at hR
   wp_walk
   exact⟨_,rfl,by simpa [Builtin.Tuple.tupleCompareSizes] using hR⟩
  case h =>
   exact⟨rfl,rfl,items.toList,items2.toList,ns,ms,rfl,hi,hj,by omega,h⟩
end

section
variable {prog:Program}{w:World}{A:Around}{E:Value->Shared->Prop}{s:Shared}

theorem lt_tupInts {l b:Addr}{items items2:Array Value}{ns ms:List Int}{Q:Value->Shared->Prop}(hl:IsTup s.heap l items)(hb:IsTup s.heap b items2)(hi:IntsAre items.toList ns)(hj:IntsAre items2.toList ms)
  (hu:A.units < cLine) (h:Q (.bool (lexLt ns ms)) s):wpAny (model prog w) A (compareOp .Lt (.ref l) (.ref b)) Q E s:=by
 obtain⟨⟨cls,dd,data,sl⟩,ho,hc,n,hd⟩:=id hl;obtain⟨⟨cls2,dd2,data2,sl2⟩,ho2,hc2,n2,hd2⟩:=id hb;simp only at hc hd hc2 hd2;subst hc hd hc2 hd2;exact richCompare_meets_room (op:=.Lt) ⟨_,ho,rfl⟩ ⟨_,ho2,rfl⟩ PySem.F.slot_tuple_lt PySem.F.entry_tuple_lt (PySem.F.args_tuple_lt_2 _ _) (mI l b items items2 n n2 dd dd2 sl sl2 ns ms hi hj)
  ⟨ho,ho2,show Value.bool (lexLt ns ms)≠Value.notImplemented/\Q (.bool (lexLt ns ms)) s from ⟨(λx=>nomatch x),h⟩⟩ hu

theorem cat_tup {t b:Addr}{vs ws:List Value}{Q:Value->Shared->Prop}(ht:IsTup s.heap t vs.toArray)(hb:IsTup s.heap b ws.toArray)(hv:vs≠[])
  (h1:ws=[]->Q (.ref t) s) (h2:ws≠[]->Q (.ref s.heap.objs.size) { s with heap:=s.heap.push { cls:=.type "tuple",data:=.seq (vs++ws).toArray } })
  (hsz:vs.length+ws.length<=sizeLine):wpAny (model prog w) A (binaryOp .Add (.ref t) (.ref b)) Q E s:=by
 obtain⟨⟨cls,dd,data,sl⟩,ho,hc,n,hd⟩:=id ht;obtain⟨⟨cls2,dd2,data2,sl2⟩,ho2,hc2,n2,hd2⟩:=id hb;simp only at hc hd hc2 hd2;subst hc hd hc2 hd2;have e:vs.toArray++ws.toArray=(vs++ws).toArray:=by simp
 by_cases hw:ws=[]
 ·exact concat_meets ⟨_,ho,rfl⟩ ⟨_,ho2,rfl⟩ noFill_tuple_add seq_tuple_add PySem.F.slot_tuple_add PySem.F.entry_tuple_add (PySem.F.args_tuple_add_2 _ _)
   (tuple_addW1 t b vs.toArray ws.toArray n n2 dd dd2 sl sl2 (by simpa using hv) (by simp [hw])) ⟨ho,ho2,h1 hw⟩
 ·refine concat_meets ⟨_,ho,rfl⟩ ⟨_,ho2,rfl⟩ noFill_tuple_add seq_tuple_add PySem.F.slot_tuple_add PySem.F.entry_tuple_add (PySem.F.args_tuple_add_2 _ _)
   (tuple_addW2 t b vs.toArray ws.toArray n n2 dd dd2 sl sl2 (by simpa using hv) (by simpa using hw) (by rw[List.size_toArray,List.size_toArray];exact hsz)) ⟨ho,ho2,?_⟩
  rw[e];exact h2 hw

def sIx (n d:Nat):Option Int->Nat
 | none=>d
 | some v=>if v < 0 then (v+(n:Int)).toNat else min v.toNat n
theorem Ln (n d:Nat)(hd:d<=n)(o:Option Int):sIx n d o<=n:=by
 cases o with
 | none=>exact hd
 | some v =>
  show (if v < 0 then (v+(n:Int)).toNat else min v.toNat n)<=n
  by_cases hv:v < 0
  ·rw[if_pos hv];omega
  ·rw[if_neg hv];exact Nat.min_le_right _ _
theorem uT (v:Int)(n d:Nat):(if v < 0 then max (v+(n:Int)) 0 else min v (n:Int))=((sIx n d (some v):Nat):Int):=by
 show (if v < 0 then max (v+(n:Int)) 0 else min v (n:Int))=(((if v < 0 then (v+(n:Int)).toNat else min v.toNat n):Nat):Int)
 by_cases hv:v < 0
 ·simp only[if_pos hv];omega
 ·simp only[if_neg hv];omega
theorem tO (lo hi:Option Int)(n:Nat):Builtin.Slice.sliceAdjust lo hi 1 (n:Int)=(((sIx n 0 lo:Nat):Int),((sIx n n hi:Nat):Int)):=by
 have h1:¬ ((1:Int) < 0):=by omega
 unfold Builtin.Slice.sliceAdjust;simp only[h1,if_false];refine Prod.ext ?_ ?_
 ·cases lo with
  | none=>rfl
  | some v=>exact uT v n 0
 ·cases hi with
  | none=>rfl
  | some v=>exact uT v n n
theorem tP (i j:Nat):Builtin.Slice.slicePlaces (i:Int) (j:Int) 1=j - i:=by
 unfold Builtin.Slice.slicePlaces;have h1:(1:Int) > 0:=by omega
 simp only[h1,if_true,Int.ediv_one]
 split<;>omega
theorem kP {v:Value}{o:Option Int}{Q:Option Int->Shared->Prop}(p:IsPart v o)(h:Q o s):wpAny (model prog w) A (Builtin.Slice.slicePartIndex v) Q E s:=by
 cases p with
 | none=>exact slicePart_none h
 | int i t=>exact slicePart_int h
theorem jk {sl:Addr}{vl vu:Value}{lo hi:Option Int}{n:Nat}{Q:Int×Int×Nat->Shared->Prop}(hs:s.heap.IsSliceOf sl vl vu .none)(pl:IsPart vl lo)(pu:IsPart vu hi)
  (h:Q (((sIx n 0 lo:Nat):Int),1,sIx n n hi - sIx n 0 lo) s):wpAny (model prog w) A (Builtin.Slice.sliceApplied (.ref sl) (pure (n:Int))) Q E s:=by
 obtain⟨os,hos,hcs,hds⟩:=id hs;unfold Builtin.Slice.sliceApplied Builtin.Slice.sliceFields;refine wpAny_bind (wpAny_bind (wpAny_field hos hds (x:=vl) rfl (wpAny_bind (wpAny_field hos hds (x:=vu) rfl (wpAny_bind (wpAny_field hos hds (x:=.none) rfl (wpAny_pure ?_)))))));refine wpAny_bind (slicePart_none ?_);show wpAny _ _ (if ((1:Int)==0)=true then _ else _) _ _ s
 rw[if_neg (by decide)]
 refine wpAny_bind (kP pl (wpAny_bind (kP pu (wpAny_bind (wpAny_pure ?_)))));show wpAny _ _ (match Builtin.Slice.sliceAdjust lo hi 1 (n:Int) with | (lo,hi)=>pure (lo,(1:Int),Builtin.Slice.slicePlaces lo hi 1)) _ _ s
 rw[tO lo hi n];show wpAny _ _ (pure (((sIx n 0 lo:Nat):Int),(1:Int),Builtin.Slice.slicePlaces ((sIx n 0 lo:Nat):Int) ((sIx n n hi:Nat):Int) 1)) _ _ s;rw[tP];exact wpAny_pure h
theorem yB (xs:Array Value)(i k:Nat):((List.range k).filterMap λ(m:Nat)=>xs[((i:Int)+(m:Int)*1).toNat]?).toArray=((xs.toList.drop i).take k).toArray:=by
 have e:(λ(m:Nat)=>xs[((i:Int)+(m:Int)*1).toNat]?)=λm=>xs[i+m]?:=by
  funext m;have:((i:Int)+(m:Int)*1).toNat=i+m:=by omega
  rw[this]
 rw[e];have:=pick_run xs i k;rw[List.filterMap_map] at this;have e2:((λx=>xs[x]?) ∘ λx=>i+x)=λm=>xs[i+m]?:=rfl;rw[e2] at this;rw[this]

theorem getItem_tuple_cut {t sl:Addr}{items:Array Value}{vl vu:Value}{lo hi:Option Int}{Q:Value->Shared->Prop}(ht:IsTup s.heap t items)(hs:s.heap.IsSliceOf sl vl vu .none)(pl:IsPart vl lo)(pu:IsPart vu hi)
  (hw:¬ (sIx items.size 0 lo=0/\sIx items.size items.size hi=items.size))
  (h:Q (.ref s.heap.objs.size) { s with heap:=s.heap.push { cls:=.type "tuple",data:=.seq ((items.toList.drop (sIx items.size 0 lo)).take (sIx items.size items.size hi - sIx items.size 0 lo)).toArray } })
  (hsz:items.size<=sizeLine):wpAny (model prog w) A (getItem (.ref t) (.ref sl)) Q E s:=by
 have htake:sizeOk (.seq ((items.toList.drop (sIx items.size 0 lo)).take (sIx items.size items.size hi - sIx items.size 0 lo)).toArray):=by
  show ((items.toList.drop (sIx items.size 0 lo)).take (sIx items.size items.size hi - sIx items.size 0 lo)).toArray.size<=sizeLine;rw[List.size_toArray,List.length_take,List.length_drop,Array.length_toList];omega
 have hj:sIx items.size items.size hi<=items.size:=Ln _ _ (Nat.le_refl _) hi;obtain⟨os,hos,hcs,hds⟩:=id hs;have hTs:s.TypeIs (.ref sl) "slice":=⟨os,hos,hcs⟩;unfold getItem
 try with_reducible refine wpAny_holding ?_
 first|refine wpAny_bind (wpAny_pure ?_)|skip
 refine wpAny_bind (wpAny_sequenceKey ht.typeIs (by decide) ?_)
 refine wpAny_bind (wpAny_callSpecial?_slot (name:=Str.ofString "__getitem__") ht.typeIs PyProof.Rows.slot_tuple_getitem
  (wpAny_call_entry PyProof.Rows.slot_tuple_getitem ht.typeIs entry_tuple_getitem ?_ (args_tuple_getitem _ _)))
 show wpAny _ _ (Builtin.Tuple.tupleItemsOf (.ref t) >>= _) _ _ s;refine wpAny_bind (tupleItemsOf_ ht ?_);refine wpAny_bind (wpAny_typeOf hTs ?_);rw[if_pos (by decide)]
 refine wpAny_bind (jk hs pl pu ?_);have hno:¬ ((((sIx items.size 0 lo:Nat):Int)==0&&(1:Int)==1&&(sIx items.size items.size hi - sIx items.size 0 lo)==items.size)=true):=by
  intro q;rw[Bool.and_eq_true,Bool.and_eq_true] at q;have q1:((sIx items.size 0 lo:Nat):Int)=0:=eq_of_beq q.1.1;have q2:sIx items.size items.size hi - sIx items.size 0 lo=items.size:=eq_of_beq q.2;exact hw ⟨by omega,by omega⟩
 show wpAny _ _ (if (((sIx items.size 0 lo:Nat):Int)==0&&(1:Int)==1&&(sIx items.size items.size hi - sIx items.size 0 lo)==items.size)=true then _ else _) _ _ s
 rw[if_neg hno,yB]
 first
  | exact wpAny_bind (m:=Builtin.Tuple.tupleExact _) (wpAny_newObj_type (wpAny_pure ⟨_,rfl,wpAny_pure h⟩) htake)
  | exact wpAny_bind (m:=Builtin.Tuple.tupleExact _) (wpAny_newObj_type (wpAny_bind (wpAny_pure (wpAny_pure ⟨_,rfl,wpAny_pure h⟩))) htake)
  | exact wpAny_bind (wpAny_bind (m:=Builtin.Tuple.tupleExact _) (wpAny_newObj_type (wpAny_pure (wpAny_pure ⟨_,rfl,wpAny_pure h⟩)) htake))
  | exact wpAny_bind (wpAny_bind (m:=Builtin.Tuple.tupleExact _) (wpAny_newObj_type (wpAny_pure ⟨_,rfl,wpAny_pure h⟩) htake))
end
end HT

namespace L2
open PySem PySem.Spec PyProof.Rows

abbrev TO:=St->Hp->(Option Int->Hp->Prop)->Prop
def PO (X:Cx)(e:Option Expr)(t:TO):Prop :=
 ∀ (pins:List (Addr×Obj)) (s:Shared) (σ:St) (H:Hp) (Q:Option Int->Hp->Prop),Inv X pins σ H s->t σ H Q ->
  wpAny (model X.prog X.w) X.A (evalPart e X.env) (λu s'=>∃ o H',Inv X pins σ H' s'/\IsPart u o/\Q o H') X.xe s
def GA:TO:=λ_ H Q=>Q none H
def VF (t:TE):TO:=λσ H Q=>t σ H λx H1=>∃ i,x=.int i/\Q (some i) H1

theorem intsAre_of {ns:List Int}:∀ {us:List Value},Vals (ns.map V.int) us->IntsAre us ns:=by
 induction ns with
 | nil=>intro us r;rw[List.map_nil] at r;cases r;exact .nil
 | cons n ns ih =>
  intro us r;rw[List.map_cons] at r;cases r with
  | cons r1 r2 =>
   obtain⟨t,e⟩:=r1;subst e;exact .cons n t (ih r2)

section
variable {X:Cx}{e:Expr}{te:TE}{lo hi:Option Expr}{tl th:TO}{pos p2:Pos}

theorem GB:PO X none GA:=by
 intro pins s σ H Q I h;rw[evalPart_none];exact wpAny_pure ⟨none,H,I,.none,h⟩
theorem GC (h:PE X e te):PO X (some e) (VF te):=by
 intro pins s σ H Q I hw;rw[evalPart_some];refine cr (h pins s σ H _ I hw) λu s1 ⟨x,H1,I1,r1,q1⟩=>?_;obtain⟨i,rfl,q⟩:=q1;obtain⟨t,rfl⟩:=r1;exact⟨some i,H1,I1,.int i t,q⟩

def SlR (X:Cx)(r:V->Option Int->Option Int->Hp->VK->Prop):Prop :=
 ∀ (pins:List (Addr×Obj)) (s:Shared) (σ:St) (H:Hp) (x:V) (v vl vu:Value) (lo hi:Option Int) (sl:Addr) (Q:VK),Inv X pins σ H s->RelV x v->s.heap.IsSliceOf sl vl vu .none->IsPart vl lo->IsPart vu hi->r x lo hi H Q ->
  ∃ T id,typeLookup (.type T) "__getitem__"=pure (some (.builtin id))/\s.TypeIs v T/\wpAny (model X.prog X.w) X.A (getItem v (.ref sl)) (EP X pins σ Q) X.xe s
theorem SlR.or {r r':V->Option Int->Option Int->Hp->VK->Prop}(h:SlR X r)(h':SlR X r'):SlR X (λx lo hi H Q=>r x lo hi H Q\/r' x lo hi H Q):=by
 intro pins s σ H x v vl vu lo hi sl Q I rx hs pl pu q;rcases q with q|q
 ·exact h pins s σ H x v vl vu lo hi sl Q I rx hs pl pu q
 ·exact h' pins s σ H x v vl vu lo hi sl Q I rx hs pl pu q
def tSl (r:V->Option Int->Option Int->Hp->VK->Prop)(te:TE)(tl th:TO):TE:=λσ H Q=>te σ H λx H1=>tl σ H1 λl H2=>th σ H2 λu H3=>r x l u H3 Q
theorem yC {r:V->Option Int->Option Int->Hp->VK->Prop}(hr:SlR X r)(he:PE X e te)(hl:PO X lo tl)(hu:PO X hi th):PE X (.Subscript e (.Slice lo hi none p2) pos) (tSl r te tl th):=by
 intro pins s σ H Q I h;refine Subscript_ (cr (he pins s σ H _ I h) λv s1 ⟨x,H1,I1,r1,q1⟩=>?_);refine wpAny_Slice (cr (hl pins s1 σ H1 _ I1 q1) λvl s2 ⟨l,H2,I2,pl,q2⟩=>cr (hu pins s2 σ H2 _ I2 q2) λvu s3 ⟨u,H3,I3,pu,q3⟩=>?_);rw[evalPart_none];refine wpAny_pure ?_;have I4:Inv X pins σ H3 { s3 with heap:=s3.heap.push { cls:=.type "slice",data:=.fields #[vl,vu,.none] } }:=I3.kept (t':=s3.toks) λb ob q=>Heap.get?_push_of_some _ q
 obtain⟨T,id,hT,ht,hg⟩:=hr pins { s3 with heap:=s3.heap.push { cls:=.type "slice",data:=.fields #[vl,vu,.none] } } σ H3 x v vl vu l u s3.heap.objs.size Q I4 r1 (Heap.IsSliceOf.new ..) pl pu q3
 show wpAny (model X.prog X.w) X.A (subscriptTail e (.Slice lo hi none p2) v (.ref s3.heap.objs.size)) (EP X pins σ Q) X.xe { s3 with heap:=s3.heap.push { cls:=.type "slice",data:=.fields #[vl,vu,.none] } }
 exact tail_any (ops:=[.ref s3.heap.objs.size,v]) ht hT hg (by with_unfolding_all rfl)

def qF (xs:List V)(lo hi:Option Int):List V:=(xs.drop (HT.sIx xs.length 0 lo)).take (HT.sIx xs.length xs.length hi - HT.sIx xs.length 0 lo)
theorem jL (xs:List V)(lo hi:Option Int):(qF xs lo hi).length<=xs.length:=by
 unfold qF;rw[List.length_take,List.length_drop];omega
def rSlT (K:PySem.W.Frag):V->Option Int->Option Int->Hp->VK->Prop:=λx lo hi H Q=>∃ a xs,x=.ref a/\SqT K H a xs /\
 ¬ (HT.sIx xs.length 0 lo=0/\HT.sIx xs.length xs.length hi=xs.length)/\∀ p,H p=none->Q (.ref p) (bG H p (.tup (qF xs lo hi)))
theorem Lo:SlR X (rSlT X.K):=by
 intro pins s σ H x v vl vu lo hi sl Q I rx hs pl pu h;obtain⟨a,xs,rfl,hx,hw,q⟩:=h;cases rx;obtain⟨its,r,ht,hz⟩:=I.tuple hx;have hlen:its.toArray.size=xs.length:=by rw[List.size_toArray];exact r.length.symm
 refine⟨"tuple",_,PyProof.Rows.slot_tuple_getitem.lookup,ht.typeIs,?_⟩;refine HT.getItem_tuple_cut ht hs pl pu (by rw[hlen];exact hw) ?_ (by rw[hlen];exact hz)
 rw[hlen];refine⟨.ref s.heap.objs.size,_,I.laid (t':=s.toks) (o:=.tup (qF xs lo hi)) (λb ob q=>Heap.get?_push_of_some _ q) (Nat.le_refl _) ?_,rfl,q _ (I.hok.fresh (Nat.le_refl _))⟩;exact⟨Nat.le_trans (jL xs lo hi) hz,_,(r.drop (HT.sIx xs.length 0 lo)).take (HT.sIx xs.length xs.length hi - HT.sIx xs.length 0 lo),IsTup.new _ _⟩

def IC (K:PySem.W.Frag):R2:=λx y H Q=>∃ a b xs ys,x=.ref a/\y=.ref b/\SqT K H a xs/\SqT K H b ys/\xs≠[]/\xs.length+ys.length<=sizeLine /\
 (ys=[]->Q (.ref a) H)/\(ys≠[]->∀ p,H p=none->Q (.ref p) (bG H p (.tup (xs++ys))))
theorem Vals.nil_iff {xs:List V}{us:List Value}(r:Vals xs us):us=[] ↔ xs=[]:=by
 cases r with
 | nil=>simp
 | cons _ _=>simp
theorem GD:OpR X (binaryOp .Add) (IC X.K):=by
 intro pins s σ H x y v u Q I rx ry h;obtain⟨a,b,xs,ys,rfl,rfl,ha,hb,hx,hz,q1,q2⟩:=h;cases rx;cases ry;obtain⟨its,r1,p1,_⟩:=I.tuple ha;obtain⟨its2,r2,p2,_⟩:=I.tuple hb;refine HT.cat_tup p1 p2 (λz=>hx (r1.nil_iff.mp z)) (λz=>⟨.ref a,H,I,rfl,q1 (r2.nil_iff.mp z)⟩) (λz=>?_) (by rw[<- r1.length,<- r2.length];exact hz)
 refine⟨.ref s.heap.objs.size,_,I.laid (t':=s.toks) (o:=.tup (xs++ys)) (λb ob q=>Heap.get?_push_of_some _ q) (Nat.le_refl _) ?_,rfl,q2 (λw=>z (r2.nil_iff.mpr w)) _ (I.hok.fresh (Nat.le_refl _))⟩;exact⟨by rw[List.length_append];exact hz,_,r1.append r2,IsTup.new _ _⟩
end
end L2

namespace L2
open PySem PySem.Spec PyProof.Rows

def ixN (n:Nat)(i:Int):Option Nat:=if 0<=i then (if i < n then some i.toNat else none) else if -(n:Int)<=i then some (i+n).toNat else none
def atI {α:Type}(xs:List α)(i:Int):Option α:=(ixN xs.length i).bind λj=>xs[j]?
theorem uU {n:Nat}{i:Int}{j:Nat}(h:ixN n i=some j):seqIndex? i n=some j/\j < n/\-(n:Int)<=i/\i < n:=by
 unfold ixN at h
 by_cases h0:0<=i
 ·rw[if_pos h0] at h
  by_cases h1:i < n
  ·rw[if_pos h1] at h
   have e:i.toNat=j:=Option.some.inj h;exact⟨by rw[seqIndex_of h0 h1,e],by omega,by omega,h1⟩
  ·rw[if_neg h1] at h;cases h
 ·rw[if_neg h0] at h
  by_cases h1:-(n:Int)<=i
  ·rw[if_pos h1] at h
   have e:(i+n).toNat=j:=Option.some.inj h;exact⟨by rw[seqIndex_neg (by omega) h1,e],by omega,h1,by omega⟩
  ·rw[if_neg h1] at h;cases h
theorem oq {α:Type}{xs:List α}{i:Int}{v:α}(h:atI xs i=some v):∃ j,seqIndex? i xs.length=some j/\xs[j]?=some v/\j < xs.length/\-(xs.length:Int)<=i/\i < xs.length:=by
 unfold atI at h;cases e:ixN xs.length i with
 | none=>rw[e] at h;cases h
 | some j =>
  rw[e] at h;obtain⟨h1,h2,h3,h4⟩:=uU e;exact⟨j,h1,h,h2,h3,h4⟩
def uV (b:Expr):Prop:=∀ o i,subscripted b false o i=operate [o,i] (getItem o i)
def IxR (X:Cx)(r:R2):Prop :=
 ∀ (value slice:Expr) (pins:List (Addr×Obj)) (s:Shared) (σ:St) (H:Hp) (x y:V) (v u:Value) (Q:VK),Inv X pins σ H s->RelV x v->RelV y u->r x y H Q ->
  subscripted slice false v u=operate [v,u] (getItem v u)->wpAny (model X.prog X.w) X.A (subscriptTail value slice v u) (EP X pins σ Q) X.xe s
def MtR (X:Cx)(id:String)(r:V->List V->Hp->VK->Prop):Prop :=
 ∀ (pins:List (Addr×Obj)) (s:Shared) (σ:St) (H:Hp) (x:V) (xs:List V) (v:Value) (us:List Value) (Q:VK),Inv X pins σ H s->RelV x v->Vals xs us->r x xs H Q ->
  wpAny (model X.prog X.w) X.A (call (.builtin id) (v::us)) (EP X pins σ Q) X.xe s
section
variable {X:Cx}{a b:Expr}{ta tb:TE}{pos:Pos}
theorem IxR.or {r r':R2}(h:IxR X r)(h':IxR X r'):IxR X (λx y H Q=>r x y H Q\/r' x y H Q):=by
 intro value slice pins s σ H x y v u Q I rx ry q hs;rcases q with q|q
 ·exact h value slice pins s σ H x y v u Q I rx ry q hs
 ·exact h' value slice pins s σ H x y v u Q I rx ry q hs
theorem VG {r:R2}(hr:IxR X r)(ha:PE X a ta)(hb:PE X b tb)(hs:uV b):PE X (.Subscript a b pos) (Ve r ta tb):=by
 intro pins s σ H Q I h;exact Subscript_ (Ld ha hb I h λv u s2 x y H2 I2 rx ry q=>hr a b pins s2 σ H2 x y v u Q I2 rx ry q (hs _ _))

def VH (K:PySem.W.Frag):R2:=λx y H Q=>∃ p xs i v,x=.ref p/\y=.int i/\SqL K H p xs/\atI xs i=some v/\Q v H
def VI (K:PySem.W.Frag):R2:=λx y H Q=>∃ p xs i v,x=.ref p/\y=.int i/\SqT K H p xs/\atI xs i=some v/\Q v H
def VJ:R2:=λx y H Q=>∃ z i c,x=.str z/\y=.int i/\z.length<=sizeLine/\atI z.cps.toList i=some c/\Q (.str ⟨#[c]⟩) H
theorem ix_list:IxR X (VH X.K):=by
 intro value slice pins s σ H x y v u Q I rx ry h hs;obtain⟨p,xs,i,z,rfl,rfl,hq,he,q⟩:=h;cases rx;obtain⟨t,rfl⟩:=ry;obtain⟨its,r,pl,hz⟩:=I.list hq;obtain⟨j,h1,h2,h3,h4,h5⟩:=oq he;obtain⟨w,ew,rw'⟩:=r.get h2;have hl:=r.length;have hn:=gv;have fin:EP X pins σ Q w s:=⟨z,H,I,rw',q⟩
 by_cases h0:0<=i
 ·have hj:i.toNat=j:=by
   rw[seqIndex_of h0 h5] at h1;exact Option.some.inj h1
  exact item_listR pl.isList h0 (by omega) (by rw[hj];simpa using ew) fin hs
 ·have hj:(i+(its.toArray.size:Int)).toNat=j:=by
   rw[seqIndex_neg (by omega) h4] at h1
   rw[List.size_toArray,<- hl];exact Option.some.inj h1
  exact subscriptTail_builtinR (x:=w) pl.isList.typeIs slot_list_getitem.lookup
   (wpAny_getItem_list_neg (Q:=λr s'=>r=w/\EP X pins σ Q r s') pl.isList (by omega) (by rw[List.size_toArray]<;>omega) (by omega) (by rw[hj];simpa using ew) ⟨rfl,fin⟩) hs
theorem ix_tup:IxR X (VI X.K):=by
 intro value slice pins s σ H x y v u Q I rx ry h hs;obtain⟨p,xs,i,z,rfl,rfl,hq,he,q⟩:=h;cases rx;obtain⟨t,rfl⟩:=ry;obtain⟨its,r,pl,hz⟩:=I.tuple hq;obtain⟨j,h1,h2,h3,h4,h5⟩:=oq he;obtain⟨w,ew,rw'⟩:=r.get h2;have hl:=r.length;have hn:=gv;have fin:EP X pins σ Q w s:=⟨z,H,I,rw',q⟩;exact subscriptTail_builtinR (x:=w) pl.typeIs slot_tuple_getitem.lookup
  (getItem_tuple (j:=j) (Q:=λr s'=>r=w/\EP X pins σ Q r s') pl (by omega) (by omega) (by rw[List.size_toArray,<- hl];exact h1) (by simpa using ew) ⟨rfl,fin⟩) hs
theorem Lp:IxR X VJ:=by
 intro value slice pins s σ H x y v u Q I rx ry h hs;obtain⟨z,i,c,rfl,rfl,hz,he,q⟩:=h;obtain⟨t,rfl⟩:=rx;obtain⟨t',rfl⟩:=ry;obtain⟨j,h1,h2,h3,h4,h5⟩:=oq he;have hl:z.cps.toList.length=z.length:=by simp [Str.length]
 rw[hl] at h1 h4 h5;have hn:=gv;exact tail_any (typeIs_str s z t) slot_str_getitem.lookup (getItem_str (c:=c) (by
  have e1:decide (i < -(2^63:Int))=false:=decide_eq_false (by omega)
  have e2:decide (i>=2^63)=false:=decide_eq_false (by omega)
  rw[e1,e2,Bool.or_false]) (by rw[h1];simpa using h2) ⟨.str ⟨#[c]⟩,H,I.tok _,⟨_,rfl⟩,q⟩) hs
def rIx (K:PySem.W.Frag):R2:=λx y H Q=>VH K x y H Q\/VI K x y H Q\/VJ x y H Q
theorem Lq:IxR X (rIx X.K):=ix_list.or (ix_tup.or Lp)

theorem tQ (its:List Value)(n j:Nat)(u:Value):Obj.mapSeq (·.setIfInBounds j u) { cls:=.type "list",data:=.seq its.toArray n }={ cls:=.type "list",data:=.seq (its.set j u).toArray n }:=by
 simp [Obj.mapSeq]
theorem Inv.lst {pins:List (Addr×Obj)}{σ:St}{H:Hp}{s:Shared}{p:Addr}{xs:List V}(I:Inv X pins σ H s)(h:H p=some (.lst xs)) :
  ∃ (its:List Value) (n:Nat),Vals xs its/\s.heap.get? p=some { cls:=.type "list",data:=.seq its.toArray n }/\xs.length<=sizeLine:=by
 obtain⟨z,its,n,r,e⟩:=I.hok p _ h;exact⟨its,n,r,e,z⟩
theorem Inv.lstUpd {pins:List (Addr×Obj)}{σ:St}{H:Hp}{s:Shared}{p:Addr}{xs ys:List V}{its its':List Value}{n n':Nat}{f:Obj->Obj}(I:Inv X pins σ H s)(h:H p=some (.lst xs))
  (ho:s.heap.get? p=some { cls:=.type "list",data:=.seq its.toArray n }) (hf:f { cls:=.type "list",data:=.seq its.toArray n }={ cls:=.type "list",data:=.seq its'.toArray n' }) (r:Vals ys its') (hz:ys.length<=sizeLine) (t:Nat) :
  Inv X pins σ (bG H p (.lst ys)) { s with heap:=s.heap.update p f,toks:=t }:=by
 have e:(s.heap.update p f).get? p=some { cls:=.type "list",data:=.seq its'.toArray n' }:=by
  rw[Heap.get?_update_self f ho (by rw[hf]<;>rfl),hf]
 refine I.write (x:=p) (e:=p) (by rw[h];trivial) (.inl rfl) (λb u hb q=>(Heap.get?_update_other _ _ (Ne.symm hb)).trans q) ⟨_,e⟩ ?_
 exact⟨hz,its',n',r,e⟩
def VL:V->V->V->Hp->(Hp->Prop)->Prop:=λo i v H Q=>∃ p xs k j,o=.ref p/\i=.int k/\H p=some (.lst xs)/\ixN xs.length k=some j/\Q (bG H p (.lst (xs.set j v)))
theorem yD:Vn X VL:=by
 intro pins s σ H o i v ov iv u Q I ro ri rv h;obtain⟨p,xs,k,j,rfl,rfl,hp,hj,q⟩:=h;cases ro;obtain⟨t,rfl⟩:=ri;obtain⟨its,n,r,ho,hz⟩:=I.lst hp;obtain⟨h1,h2,h3,h4⟩:=uU hj;have hl:=r.length;have hn:=gv;have I':Inv X pins σ (bG H p (.lst (xs.set j v))) { s with heap:=s.heap.update p (Obj.mapSeq (·.setIfInBounds j u)) } :=
  I.lstUpd hp ho (tQ its n j u) (r.set rv j) (by rw[List.length_set];exact hz) s.toks
 by_cases h0:0<=k
 ·have hk:k.toNat=j:=by
   rw[seqIndex_of h0 h4] at h1;exact Option.some.inj h1
  exact PySem.W.ki_setAt ho h0 (by omega) (by rw[List.size_toArray,<- hl];exact h4) (by rw[hk];exact⟨_,I',q⟩)
 ·have hk:(k+(its.toArray.size:Int)).toNat=j:=by
   rw[seqIndex_neg (by omega) h3] at h1
   rw[List.size_toArray,<- hl];exact Option.some.inj h1
  exact PySem.W.ki_setBack ho (by omega) (by rw[List.size_toArray,<- hl];exact h3) (by omega) (by rw[hk];exact⟨_,I',q⟩)

theorem ou (lo hi:Option Int)(n:Nat):(sliceBounds lo hi none n).1=((HT.sIx n 0 lo:Nat):Int)/\(sliceBounds lo hi none n).2.1=((HT.sIx n n hi:Nat):Int)/\(sliceBounds lo hi none n).2.2=1:=by
 refine⟨?_,?_,rfl⟩
 ·cases lo with
  | none=>simp [sliceBounds,HT.sIx]
  | some i =>
   simp only[sliceBounds,HT.sIx,Option.getD_none,show (1:Int) > 0 by decide,if_true]
   by_cases h:i < 0
   ·simp only[h,if_true]<;>omega
   ·simp only[h,if_false]<;>omega
 ·cases hi with
  | none=>simp [sliceBounds,HT.sIx]
  | some i =>
   simp only[sliceBounds,HT.sIx,Option.getD_none,show (1:Int) > 0 by decide,if_true]
   by_cases h:i < 0
   ·simp only[h,if_true]<;>omega
   ·simp only[h,if_false]<;>omega
theorem mJ (its:List Value)(lo hi:Option Int):slicePick its.toArray lo hi none=((its.drop (HT.sIx its.length 0 lo)).take (HT.sIx its.length its.length hi - HT.sIx its.length 0 lo)).toArray:=by
 obtain⟨h1,h2,h3⟩:=ou lo hi its.toArray.size;unfold slicePick;rw[h1,h2,h3];simp only[sliceRange_one,pick_run,List.size_toArray]<;>rfl
def rSlL (K:PySem.W.Frag):V->Option Int->Option Int->Hp->VK->Prop:=λx lo hi H Q=>∃ a xs,x=.ref a/\SqL K H a xs/\∀ p,H p=none->Q (.ref p) (bG H p (.lst (qF xs lo hi)))
theorem GF:SlR X (rSlL X.K):=by
 intro pins s σ H x v vl vu lo hi sl Q I rx hs pl pu h;obtain⟨a,xs,rfl,hx,q⟩:=h;cases rx;obtain⟨its,r,ht,hz⟩:=I.list hx;have hlen:=r.length;refine⟨"list",_,slot_list_getitem.lookup,ht.isList.typeIs,?_⟩;refine wpAny_getItem_list_slice ht.isList hs pl pu .none (by simp) ?_ (by rw[List.size_toArray]<;>omega)
 rw[mJ,<- hlen];refine⟨.ref s.heap.objs.size,_,I.laid (t':=s.toks) (o:=.lst (qF xs lo hi)) (λb ob q=>Heap.get?_push_of_some _ q) (Nat.le_refl _) ?_,rfl,q _ (I.hok.fresh (Nat.le_refl _))⟩;exact⟨Nat.le_trans (jL xs lo hi) hz,_,0,(r.drop (HT.sIx xs.length 0 lo)).take (HT.sIx xs.length xs.length hi - HT.sIx xs.length 0 lo),Heap.get?_push_size _ rfl⟩

theorem call_len_seq:CallR X (.builtin "len") (λxs H Q=>∃ p ys,xs=[.ref p]/\(SqL X.K H p ys\/SqT X.K H p ys)/\Q (.int ys.length) H):=by
 intro pins s σ H xs us Q I r h;obtain⟨p,ys,rfl,hq,q⟩:=h;obtain⟨u,rfl,rx⟩:=cV r;cases rx;have hn:=gv;rcases hq with hq|hq
 ·obtain⟨its,r',pl,hz⟩:=I.list hq
  have hlen:=r'.length;exact Calls.call_len_list pl.isList (by simp only[List.size_toArray]<;>omega) ⟨.int ys.length,H,I.tok _,⟨s.toks+1,by rw[List.size_toArray,hlen]⟩,q⟩
 ·obtain⟨its,r',pl,hz⟩:=I.tuple hq
  have hlen:=r'.length;exact len_tuple pl (by simp only[List.size_toArray]<;>omega) ⟨.int ys.length,H,I.tok _,⟨s.toks+1,by rw[List.size_toArray,hlen]⟩,q⟩
theorem oz:CallR X (.builtin "len") (λxs H Q=>∃ z,xs=[.str z]/\z.length<=sizeLine/\Q (.int z.length) H):=by
 intro pins s σ H xs us Q I r h;obtain⟨z,rfl,hz,q⟩:=h;obtain⟨u,rfl,t,rfl⟩:=cV r;have hn:=gv;exact len_str (by omega) ⟨.int z.length,H,I.tok _,⟨_,rfl⟩,q⟩
theorem CallR.or {f:Value}{r r':List V->Hp->VK->Prop}(h:CallR X f r)(h':CallR X f r'):CallR X f (λxs H Q=>r xs H Q\/r' xs H Q):=by
 intro pins s σ H xs us Q I rs q;rcases q with q|q
 ·exact h pins s σ H xs us Q I rs q
 ·exact h' pins s σ H xs us Q I rs q
theorem oA:CallR X (.type "list") (λxs H Q=>∃ p ys,xs=[.ref p]/\(SqL X.K H p ys\/SqT X.K H p ys)/\∀ l,H l=none->Q (.ref l) (bG H l (.lst ys))):=by
 intro pins s σ H xs us Q I r h;obtain⟨p,ys,rfl,hq,q⟩:=h;obtain⟨u,rfl,rx⟩:=cV r;cases rx;have fin:∀ (its:List Value),Vals ys its->ys.length<=sizeLine->∀ (h':Heap) (c':Nat),(∀ b o',s.heap.get? b=some o'->h'.get? b=some o') ->
   h'.get? s.heap.objs.size=some { cls:=.type "list",dict:=none,data:=.seq its.toArray c',slots:=#[] }->EP X pins σ Q (.ref s.heap.objs.size) { s with heap:=h' }:=λits r' hz h' c' kp e =>
  ⟨.ref s.heap.objs.size,_,I.laid (t':=s.toks) kp (Nat.le_refl _) (show ObjOk X.prog X.w _ h' _ (.lst ys) from ⟨hz,its,c',r',e⟩),rfl,q _ (I.hok.fresh (Nat.le_refl _))⟩
 rcases hq with hq|hq
 ·obtain⟨its,r',pl,hz⟩:=I.list hq
  have hlen:=r'.length;obtain⟨o,ho,hc,n,hd⟩:=pl.isList;exact call_list_seq p (.inl rfl) ho hc hd (λh' c' kp e=>fin its r' hz h' c' kp e) (by simp only[List.size_toArray]<;>omega)
 ·obtain⟨its,r',pl,hz⟩:=I.tuple hq
  have hlen:=r'.length;obtain⟨o,ho,hc,n,hd⟩:=pl;exact call_list_seq p (.inr rfl) ho hc hd (λh' c' kp e=>fin its r' hz h' c' kp e) (by simp only[List.size_toArray]<;>omega)
theorem mK:CallR X (.type "tuple") (λxs H Q=>∃ p ys,xs=[.ref p]/\((SqL X.K H p ys/\∀ l,H l=none->Q (.ref l) (bG H l (.tup ys)))\/(SqT X.K H p ys/\Q (.ref p) H))):=by
 intro pins s σ H xs us Q I r h;obtain⟨p,ys,rfl,h⟩:=h;obtain⟨u,rfl,rx⟩:=cV r;cases rx;rcases h with ⟨hq,q⟩|⟨hq,q⟩
 ·obtain⟨its,r',pl,hz⟩:=I.list hq
  have hlen:=r'.length;refine call_tuple_list pl.isList (λh' kp=>?_) (by simp only[List.size_toArray]<;>omega)
  have I1:Inv X pins σ H { s with heap:=h' }:=I.kept (t':=s.toks) kp
  have I2:Inv X pins σ (bG H h'.objs.size (.tup ys)) { s with heap:=h'.push { cls:=.type "tuple",data:=.seq its.toArray } } :=
   I1.laid (t':=s.toks) (λb o e=>Heap.get?_push_of_some _ e) (Nat.le_refl _) (show ObjOk X.prog X.w _ _ _ (.tup ys) from ⟨hz,its,r',IsTup.new _ _⟩)
  exact⟨.ref h'.objs.size,_,I2,rfl,q _ (I1.hok.fresh (Nat.le_refl _))⟩
 ·obtain⟨its,r',pl,hz⟩:=I.tuple hq
  exact call_tuple_same pl ⟨.ref p,H,I,rfl,q⟩

def tyV (K:PySem.W.Frag)(T:String)(x:V)(H:Hp):Prop:=match x with
 | .str _=>T="str"
 | .int _=>T="int"
 | .ref p=>(T="list"/\∃ xs,SqL K H p xs)\/(T="tuple"/\∃ o,K.lookup p=some o/\o.cls=.type "tuple"/\o.dict=none) \/
   (T="dict"/\((∃ kvs,H p=some (.dK kvs))\/∃ kvs,H p=some (.dT kvs)))\/(T="set"/\∃ S n,H p=some (.set S n))
 | _=>False
theorem yE {pins:List (Addr×Obj)}{σ:St}{H:Hp}{s:Shared}{T:String}{x:V}{v:Value}(I:Inv X pins σ H s)(r:RelV x v)(ty:tyV X.K T x H) :
  s.TypeIs v T/\∀ a,v=.ref a->∃ ob,s.heap.get? a=some ob/\ob.dict=none:=by
 cases x with
 | str z =>
  obtain⟨t,rfl⟩:=r;cases (show T="str" from ty)
  exact⟨typeIs_str s z t,λ_ e=>nomatch e⟩
 | int i =>
  obtain⟨t,rfl⟩:=r;cases (show T="int" from ty)
  exact⟨typeIs_int s i t,λ_ e=>nomatch e⟩
 | ref p =>
  cases r;rcases ty with ⟨rfl,xs,hq⟩|⟨rfl,o,hk,hc,hd⟩|⟨rfl,hk⟩|⟨rfl,S,n,hk⟩
  ·obtain⟨its,_,pl,_⟩:=I.list hq
   refine⟨pl.isList.typeIs,λa e=>?_⟩;cases e;obtain⟨o,n,e,c,hd,_⟩:=pl;exact⟨o,e,hd⟩
  ·refine⟨⟨o,I.kIn p o hk,hc⟩,λa e=>?_⟩
   cases e;exact⟨o,I.kIn _ o hk,hd⟩
  ·have z:∃ o,s.heap.get? p=some o/\o.ExactDict:=by
    rcases hk with ⟨kvs,hk⟩|⟨kvs,hk⟩
    ·obtain⟨_,_,_,_,o,_,_,e,ex,_⟩:=I.hok p _ hk
     exact⟨o,e,ex⟩
    ·obtain⟨_,_,_,_,o,_,_,e,ex,_⟩:=I.hok p _ hk
     exact⟨o,e,ex⟩
   obtain⟨o,e,ex⟩:=z;refine⟨⟨o,e,ex.1⟩,λa e2=>?_⟩;cases e2;exact⟨o,e,ex.2.1⟩
  ·obtain⟨o,_,_,_,e,ex,_⟩:=I.hok p _ hk
   refine⟨⟨o,e,ex.1⟩,λa e2=>?_⟩;cases e2;exact⟨o,e,ex.2.1⟩
 | _=>exact False.elim ty
def tBM0 (K:PySem.W.Frag)(T:String)(r:V->List V->Hp->VK->Prop)(to:TE):TE:=λσ H Q=>to σ H λx H1=>tyV K T x H1/\r x [] H1 Q
def tBM (K:PySem.W.Frag)(T:String)(r:V->List V->Hp->VK->Prop)(to:TE)(t:TA):TE:=λσ H Q=>to σ H λx H1=>tyV K T x H1/\t σ H1 λxs H2=>r x xs H2 Q
variable {o e:Expr}{es:List Expr}{to:TE}{t:TA}{name:Str}{apos cpos:Pos}{T id:String}{r:V->List V->Hp->VK->Prop}
theorem Lr (pa:PlainAttrs T)(slot:Slot T name id)(hty:typeOf (.builtin id)=pure (.type "method_descriptor"))(hm:MtR X id r)(ho:PE X o to)
  (hbase:attributeBase o name X.env (eval o X.env)=eval o X.env:=by rfl) (hline:(apos.endLine==cpos.line)=true:=by rfl):PE X (.Call (.Attribute o name apos) [] [] cpos) (tBM0 X.K T r to):=by
 intro pins s σ H Q I h;refine wpAny_Call_method0_late hbase hline (cr (ho pins s σ H _ I h) λv s1 ⟨x,H1,I1,r1,ty,q1⟩=>?_);obtain⟨h1,h2⟩:=yE I1 r1 ty;exact⟨T,id,pa,slot,hty,h1,h2,Calls.callWith_builtin rfl (PySem.evalArgs_none (hm pins s1 σ H1 x [] v [] Q I1 r1 .nil q1))⟩
theorem yF (pa:PlainAttrs T)(slot:Slot T name id)(hty:typeOf (.builtin id)=pure (.type "method_descriptor"))(hm:MtR X id r)(ho:PE X o to)(ha:PA X (e::es) t)
  (hbase:attributeBase o name X.env (eval o X.env)=eval o X.env:=by rfl)
  (hfew:((backTo cpos (starEach (e::es) X.env)).all (λx=>!x.1)&&(backToKw cpos (keywordEach [] X.env)).all (λx=>x.1.isSome)
  &&decide ((e::es).length+([]:List Keyword).length+(if ([]:List Keyword).isEmpty then 0 else 1) < 30))=true:=by rfl)
  (hline:(apos.endLine==cpos.line)=true:=by rfl) (hs:starEach (e::es) X.env=(false,eval e X.env)::starEach es X.env:=by rfl) (hplain:(backTo cpos (starEach es X.env)).any (·.1)=false:=by rfl) :
  PE X (.Call (.Attribute o name apos) (e::es) [] cpos) (tBM X.K T r to t):=by
 intro pins s σ H Q I h;refine wpAny_Call_method_late hbase hfew hline rfl (cr (ho pins s σ H _ I h) λv s1 ⟨x,H1,I1,r1,ty,q1⟩=>?_);obtain⟨h1,h2⟩:=yE I1 r1 ty;refine⟨T,id,pa,slot,hty,h1,h2,?_⟩;have hA:=ha cpos pins s1 σ H1 _ I1 q1;rw[hs] at hA ⊢;refine Calls.callWith_builtin (by show (false||(backTo cpos (starEach es X.env)).any (·.1))=false;rw[hplain]<;>rfl) (Calls.evalArgs_plain ?_)
 exact cr hA λus s2 ⟨vs,H2,I2,r2,q2⟩=>hm pins s2 σ H2 x vs v us Q I2 r1 r2 q2
end
end L2

namespace L2
open PySem PySem.Spec PyProof.Rows

def MtM (X:Cx)(id:String)(r:V->List V->Hp->VK->Prop):Prop :=
 ∀ (pins:List (Addr×Obj)) (s:Shared) (σ:St) (H:Hp) (x:V) (xs:List V) (v:Value) (us:List Value) (Q:VK),Inv X pins σ H s->RelV x v->Vals xs us->r x xs H Q ->
  wpAny (model X.prog X.w) X.A (call (.builtin id) (v::us)) (EP X pins σ Q) X.xe s

theorem Vals.one:∀ {x:V} {us:List Value},Vals [x] us->∃ u,us=[u]/\RelV x u
 | _,_,.cons r .nil=>⟨_,rfl,r⟩
theorem Vals.reverse {xs:List V}{us:List Value}(h:Vals xs us):Vals xs.reverse us.reverse:=by
 induction h with
 | nil=>exact .nil
 | cons r t ih=>rw[List.reverse_cons,List.reverse_cons];exact Vals.append ih (.cons r .nil)
theorem Vals.rep {xs:List V}{us:List Value}(h:Vals xs us):∀ k:Nat,Vals (List.replicate k xs).flatten (List.replicate k us).flatten
 | 0=>.nil
 | k+1=>by
  rw[List.replicate_succ,List.replicate_succ,List.flatten_cons,List.flatten_cons];exact Vals.append h (Vals.rep h k)
theorem foldl_rep (its:List Value):∀ (k:Nat) (acc:List Value),
  List.foldl (λx1 x2=>x1++x2) acc.toArray (List.replicate k its.toArray)=(acc++(List.replicate k its).flatten).toArray
 | 0,acc=>by simp
 | k+1,acc=>by
  have e:acc.toArray++its.toArray=(acc++its).toArray:=by simp
  have e2:(acc++its)++(List.replicate k its).flatten=acc++(List.replicate (k+1) its).flatten:=by
   rw[List.replicate_succ,List.flatten_cons,List.append_assoc]
  rw[<- e2,<- foldl_rep its k (acc++its),<- e,List.replicate_succ,List.foldl_cons]

section
variable {X:Cx}{pins:List (Addr×Obj)}{σ:St}{H:Hp}{s:Shared}{l b:Addr}{xs ys zs:List V}

theorem Inv.lset {its its':List Value}{n:Nat}{f:Array Value->Array Value}{t':Nat}(I:Inv X pins σ H s)(hH:H l=some (.lst xs))
  (e:s.heap.get? l=some { cls:=.type "list",data:=.seq its.toArray n }) (hf:f its.toArray=its'.toArray) (hv:Vals ys its') (hz:ys.length<=sizeLine) :
  Inv X pins σ (bG H l (.lst ys)) { s with heap:=s.heap.update l (Obj.mapSeq f),toks:=t' }:=by
 have q:=PySem.IsL.update e f;rw[hf] at q;refine I.write (x:=l) (e:=l) (by rw[hH];exact trivial) (.inl rfl) (λb' u hb hu=>(Heap.get?_update_other s.heap (Obj.mapSeq f) (Ne.symm hb)).trans hu) ⟨_,q⟩ ?_
 exact⟨hz,its',_,hv,q⟩
theorem Inv.lnew {its:List Value}{t':Nat}(I:Inv X pins σ H s)(hv:Vals ys its)(hz:ys.length<=sizeLine) :
  Inv X pins σ (bG H s.heap.objs.size (.lst ys)) { s with heap:=s.heap.push { cls:=.type "list",data:=.seq its.toArray },toks:=t' } :=
 I.laid (λ_ _ q=>Heap.get?_push_of_some _ q) (Nat.le_refl _) ⟨hz,its,0,hv,Heap.get?_push_size _ rfl⟩
theorem Inv.fresh (I:Inv X pins σ H s):H s.heap.objs.size=none:=I.hok.fresh (Nat.le_refl _)
theorem Inv.lstM (I:Inv X pins σ H s)(hH:H l=some (.lst xs)):xs.length<=sizeLine/\∃ (its:List Value) (n:Nat),Vals xs its/\xs.length=its.length/\s.heap.get? l=some { cls:=.type "list",data:=.seq its.toArray n }:=by
 obtain⟨z,its,n,r,e⟩:=I.hok l _ hH;exact⟨z,its,n,r,r.length,e⟩

theorem yG {n:Nat}(h:n<=sizeLine):Builtin.List.listTooLong n=false:=by
 unfold Builtin.List.listTooLong;exact decide_eq_false (by omega)
end

section
variable {X:Cx}

def GG:V->List V->Hp->VK->Prop:=λx vs H Q=>∃ l xs y,x=.ref l/\vs=[y]/\H l=some (.lst xs)/\xs.length < sizeLine/\Q .non (bG H l (.lst (xs++[y])))
theorem jl:MtM X "list.append" GG:=by
 intro pins s σ H x vs v us Q I rx rv h;obtain⟨l,xs,y,rfl,rfl,hH,hz,q⟩:=h;cases rx;obtain⟨u,rfl,ru⟩:=rv.one;obtain⟨z,its,n,r,hl,e⟩:=I.lstM hH;refine call_meets F.slot_list_append ⟨_,e,rfl⟩ F.entry_list_append (F.args_list_append_2 _ _) (PySem.list_append l its.toArray n u (by rw[List.size_toArray];omega)) ⟨e,?_⟩
 refine⟨.non,_,I.lset (its':=its++[u]) hH e (by simp) (r.append (.cons ru .nil)) ?_,rfl,q⟩
 rw[List.length_append,List.length_singleton];omega

theorem len_rep {α:Type}(xs:List α)(k:Nat):(List.replicate k xs).flatten.length=k*xs.length:=by
 induction k with
 | zero=>simp
 | succ k ih=>rw[List.replicate_succ,List.flatten_cons,List.length_append,ih,Nat.succ_mul,Nat.add_comm]
end

section
variable {prog:Program}{w:World}{A:Around}{E:Value->Shared->Prop}{s:Shared}
set_option maxRecDepth 100000 in
end

section
variable {X:Cx}
end
end L2

namespace Att
open PySem PySem.W PySem.Calls PyProof.Rows

theorem kj {P:Params}{h:Heap}:∀ (ns:List Int) (vs:List Value),WellAll P h vs (ns.map WData.int)->IntsAre vs ns:=by
 intro ns
 induction ns with
 | nil =>
  intro vs w;rw[List.map_nil] at w;cases w;exact .nil
 | cons n ns ih =>
  intro vs w;rw[List.map_cons] at w;cases w with
  | cons a b =>
   cases a;exact .cons _ _ (ih _ b)

theorem xm {l:OpenLaw}{n:Nat}(hn:l.most=some n){P:Params}{h:Heap}{args:List WData}{vals:List Value}
  (hpre:l.row.toRowW.claim.pre args=true) (hwl:WellAll P h vals args) :
  ∃ a vs ns,vals=[Value.ref a]/\args=[WData.list (ns.map WData.int)]/\h.get? a=some { cls:=.type "list",data:=.seq vs.toArray }/\IntsAre vs ns/\ns.length<=n:=by
 have hsh:WShape.hasAll [] args [.list .int]=true:=(pre_splitW hpre).1;have hc:l.pre.holds [] { args:=args }=true:=(pre_splitW hpre).2;obtain⟨d,r,rfl,h1,h2⟩:=hasAllW_cons hsh;obtain rfl:=hasAllW_nil h2;obtain⟨xs,rfl,h3⟩:=hasW_list h1;obtain⟨ns,rfl⟩:=items_int h3;have hlen:ns.length<=n:=by
  unfold OpenLaw.pre at hc;have h4:(WTm.not (.lt (.lit (.int (n:Int))) (.len (.arg 0)))).holds [] { args:=[.list (ns.map .int)] }=true:=by
   have h4:=(holds_andW hc).1;rw[hn] at h4;exact h4
  have h5:=condW_of h4 (w_not (w_lt w_lit (w_len_list (w_arg rfl))));rw[List.length_map] at h5;refine Nat.le_of_not_lt λq=>?_;have q':(n:Int) < ((ns.length:Nat):Int):=by omega
  first
   | (rw[decide_eq_true q'] at h5;exact absurd h5 (by decide))
   | (simp at h5;omega)
 cases hwl with
 | cons w1 w2 =>
  cases w2;cases w1 with
  | list ho hall=>exact⟨_,_,ns,rfl,rfl,ho,kj ns _ hall,hlen⟩

theorem xn (l:OpenLaw)(args:List WData):l.row.toRowW.claim.post args (.bool true) args=true :=
 postW_of (r:=l.row.toRowW) (X:=(true==true))
  (show WShape.has [] (.bool true) .bool=true by first|rfl|decide|simp [WShape.has,WShape.arms,WShape.armsAll])
  (show (WTm.eq .res (.lit (.bool true))).value [] { args:=args,res:=some (.bool true),after:=args }=some (.bool (true==true)) from w_eq_bool (w_res rfl) w_lit) rfl

theorem attach_call {l:OpenLaw}{n:Nat}{q:Program}{loose:List Str}{XP:(Str->Option Value)->Heap->Prop}{YP:World->Heap->Prop}{d:DefRec}
  (hn:l.most=some n) (hdf:d.params.defaults=[])
  (call:∀ (w:World) (s₀ s₁:Shared) (mg mb:Str->Option Value) (fa:Addr) (o:Obj) (pm cd doc:Value) (a:Addr) (vs:List Value) (ns:List Int),
   Ground q loose [] XP w s₀ mg mb s₁.heap->YP w s₁.heap ->
   s₁.heap.get? fa=some o->o.data=.func (docDef d.name d.params d.body d.scope pm cd doc)->s₁.heap.CodeRec cd d.name->mg d.name=some (.ref fa) ->
   s₁.heap.get? a=some { cls:=.type "list",data:=.seq vs.toArray }->IntsAre vs ns->ns.length<=n->s₁.gens=#[] ->
   codeAny (model l.prog w) callerA (.call (.ref fa) ⟨[.ref a],[]⟩) (λr s'=>r=.ok (.ret (.bool true))/\OldK s₁.heap s'.heap/\s'.os=s₁.os/\AllBare s'.gens) s₁) :
  WalkO q loose XP YP l.row.toRowW d [] (λf vs=>PySem.call f vs):=by
 intro w s₀ s₁ mg mb G Y fa o pm cd doc dV kV ho hd hcd hD hmg hg args vals as hpre hlay hrd hwl hlo;obtain rfl:dV=.none:=Dflts.none hD hdf;obtain rfl:kV=.none:=Dflts.noKw hD;obtain⟨a,vs,ns,rfl,rfl,hobj,hints,hlen⟩:=xm hn hpre hwl;refine enter_call (codeAny_mono (call w s₀ s₁ mg mb fa o pm cd doc a vs ns G Y ho (fd_plain hd) hcd hmg hobj hints hlen hg) λr s' hq=>?_);obtain⟨rfl,h2,h3,h4⟩:=hq;exact⟨.inl ⟨.bool true,.bool true,[],rfl,λ_=>rfl,.bool true,xn l _,λ_=>⟨List.Pairwise.nil,λ_ hm=>(nomatch hm)⟩⟩,h2,h3,h4⟩

section
variable {prog:Program}{w:World}{A:Around}{E:Value->Shared->Prop}{s:Shared}{K:Frag}

end
end Att

namespace L2
open PySem PySem.Spec PyProof.Rows

theorem ni:∀ {vs:List Value} {ns:List Int},IntsAre vs ns->Vals (ns.map V.int) vs
 | _,_,.nil=>.nil
 | _,_,.cons n t h=>.cons ⟨t,rfl⟩ (ni h)

end L2

namespace L2
open PySem PySem.Spec PyProof.Rows

end L2

namespace L2
open PySem PySem.Spec PyProof.Rows

def aE (s:Stmt):Arguments:=match s with
 | .FunctionDef _ a _ _ _ _ _ _ _ _=>a
 | _=>{ posonlyargs:=[],args:=[],vararg:=none,kwonlyargs:=[],kw_defaults:=[],kwarg:=none,defaults:=[] }
def ak (s:Stmt):List Stmt:=match s with
 | .FunctionDef _ _ b _ _ _ _ _ _ _=>b
 | _=>[]
def af (s:Stmt):Scope:=match s with
 | .FunctionDef _ _ _ _ _ _ sc _ _ _=>sc
 | _=>{ kind:=.function,names:=[],isGenerator:=false,isCoroutine:=false }

abbrev km:yf:=λ_ _ _ _ _ _=>False
abbrev E0:XK:=λ_ _ _=>False
theorem yH {X:Cx}:tM km X E0:=λ_ _ _ _ _ _ _ h=>h.elim

structure Fun (K:PySem.W.Frag)(x qual:Str)(st:Stmt)(f:Addr)(fd:FuncData):Prop where
 ex:∃ (oc:Value) (od:Option Addr) (kV doc pm:Value) (an:Option Addr) (cdv ct:Value) (osl:Array (Option Value)),
  fd=PySem.W.fnOf x qual (aE st) (ak st) (af st) .none kV doc pm an cdv ct/\K.lookup f=some ⟨oc,od,.func fd,osl⟩/\PySem.W.codeIn K cdv qual=true
 kp:PySem.W.keepIn K (.ref f)=true
section
variable {P:Program}{w:World}{K:PySem.W.Frag}{mg:Str->Option Value}{base:Heap}
theorem Fun.ok {x qual:Str}{st:Stmt}{f:Addr}{fd:FuncData}{N ps:List Str}{k:Nat}{sp:Sp}(F:Fun K x qual st f fd)(S:FnScope N ps (af st))(len:∀ vs H Q E,sp vs H Q E->vs.length=ps.length)
  (hbody:∀ (cdv:Value) (A:Around) (outer:List Env) (s:Shared) (H:Hp) (vs:List V) (Q:VK) (E:XK),Room k (A.deeper (envOfC qual (af st) s.heap.objs.size f cdv))->sp vs H Q E ->
   ∃ t,PSs (jj km P w K mg base N qual (af st) f cdv A outer s H E).nox (ak st) t/\t { nx:=λ_ H'=>Q .non H',rt:=Q } (start N vs) H):FnOk P w K mg base km (k+1) f fd ps sp:=by
 obtain⟨oc,od,kV,doc,pm,an,cdv,ct,osl,rfl,lk,hcd⟩:=F.ex;refine IB lk hcd S len λA outer s H vs Q E hr hsp=>?_;obtain⟨t,h,q⟩:=hbody cdv A outer s H vs Q E hr hsp;exact⟨t,h.nox,q⟩
theorem Fun.binds {x qual:Str}{st:Stmt}{f:Addr}{fd:FuncData}{ps:List Str}(F:Fun K x qual st f fd)
  (h:∀ (kV doc pm:Value) (an:Option Addr) (cdv ct:Value) (us:List Value),us.length=ps.length->bindArgs (PySem.W.fnOf x qual (aE st) (ak st) (af st) .none kV doc pm an cdv ct) ⟨us,[]⟩=pure (ps.zip us)):Binds K fd ps []:=by
 obtain⟨oc,od,kV,doc,pm,an,cdv,ct,osl,rfl,lk,hcd⟩:=F.ex;exact .all (h kV doc pm an cdv ct)
theorem aR {x qual:Str}{st:Stmt}{f:Addr}{oc:Value}{od an:Option Addr}{osl:Array (Option Value)}{kV doc pm cdv ct:Value}(l:K.lookup f=some ⟨oc,od,.func (PySem.W.fnOf x qual (aE st) (ak st) (af st) .none kV doc pm an cdv ct),osl⟩)
  (c:PySem.W.codeIn K cdv qual=true) (k:PySem.W.keepIn K (.ref f)=true):Fun K x qual st f (PySem.W.fnOf x qual (aE st) (ak st) (af st) .none kV doc pm an cdv ct):=⟨⟨oc,od,kV,doc,pm,an,cdv,ct,osl,rfl,l,c⟩,k⟩
end
section
variable {X:Cx}
end

def Same (H H':Hp):Prop:=∀ b o,H b=some o->H' b=some o
theorem Same.refl (H:Hp):Same H H:=λ_ _ h=>h
theorem Same.trans {H H1 H2:Hp}(a:Same H H1)(b:Same H1 H2):Same H H2:=λc o h=>b c o (a c o h)
theorem Same.free {H H':Hp}(e:Same H H'){l:Addr}(h:H' l=Option.none):H l=Option.none:=by
 cases q:H l with
 | none=>rfl
 | some o =>
  rw[e l o q] at h;cases h
theorem Same.seq {K:PySem.W.Frag}{H H':Hp}{a:Addr}{xs:List V}(e:Same H H')(h:SqL K H a xs):SqL K H' a xs:=by
 rcases h with (h|⟨o,h⟩)|h
 ·exact .inl (.inl (e _ _ h))
 ·exact .inl (.inr ⟨o,e _ _ h⟩)
 ·exact .inr h

end L2

namespace L2
open PySem PySem.Spec PyProof.Rows

section
variable {κ:Type}[DecidableEq κ]
def fu (kvs:List (κ×V))(k:κ):Option V:=(kvs.find? λkv=>decide (kv.1=k)).map (·.2)
def mL (kvs:List (κ×V))(k:κ)(v:V):List (κ×V) :=
 if (kvs.any λkv=>decide (kv.1=k))=true then kvs.map (λkv=>if kv.1=k then (kv.1,v) else kv) else kvs++[(k,v)]
theorem kQ {p:κ×V}{r:List (κ×V)}{k:κ}(e:p.1=k):fu (p::r) k=some p.2:=by simp [fu,List.find?_cons,e]
theorem kR {p:κ×V}{r:List (κ×V)}{k:κ}(e:¬ p.1=k):fu (p::r) k=fu r k:=by simp [fu,List.find?_cons,e]
theorem qG (k:κ):∀ kvs:List (κ×V),(kvs.any λkv=>decide (kv.1=k))=(fu kvs k).isSome
 | []=>rfl
 | p::r=>by
  rw[List.any_cons]
  by_cases e:p.1=k
  ·simp only[kQ e,decide_eq_true e,Bool.true_or,Option.isSome_some]
  ·rw[kR e,decide_eq_false e,Bool.false_or];exact qG k r
theorem qH (kvs:List (κ×V))(k:κ)(v:V):(mL kvs k v).length<=kvs.length+1:=by
 unfold mL
 split
 ·rw[List.length_map];omega
 ·rw[List.length_append,List.length_cons,List.length_nil];omega
theorem yI {kvs:List (κ×V)}{k:κ}(v:V)(h:fu kvs k=none):mL kvs k v=kvs++[(k,v)]:=by
 unfold mL;rw[qG,h];exact if_neg (by decide)

theorem KV.val {kvs:List (κ×V)}{vs:List (κ×Value)}(r:KV kvs vs)(k:κ):KN (fu kvs k) (valueAt vs k):=by
 unfold KV at r
 induction r with
 | nil=>exact True.intro
 | @cons p q ps qs h t ih =>
  obtain⟨h1,h2⟩:=h
  by_cases e:p.1=k
  ·have e':q.1=k:=h1.symm.trans e
   have b:valueAt (q::qs) k=some q.2:=by simp [valueAt,List.find?_cons,e']
   rw[kQ e,b];exact h2
  ·have e':¬ q.1=k:=λz=>e (h1.trans z)
   have b:valueAt (q::qs) k=valueAt qs k:=by simp [valueAt,List.find?_cons,e']
   rw[kR e,b];exact ih
theorem KV.any {kvs:List (κ×V)}{vs:List (κ×Value)}(r:KV kvs vs)(k:κ):(kvs.any λkv=>decide (kv.1=k))=vs.any λkv=>decide (kv.1=k):=by
 unfold KV at r
 induction r with
 | nil=>rfl
 | cons h t ih=>rw[List.any_cons,List.any_cons,ih,h.1]
theorem KV.repl {kvs:List (κ×V)}{vs:List (κ×Value)}(r:KV kvs vs)(k:κ){y:V}{u:Value}(ry:RelV y u) :
  KV (kvs.map λkv=>if kv.1=k then (kv.1,y) else kv) (vs.map λkv=>if kv.1=k then (kv.1,u) else kv):=by
 unfold KV at r ⊢
 induction r with
 | nil=>exact .nil
 | @cons p q ps qs h t ih =>
  rw[List.map_cons,List.map_cons];refine .cons ?_ ih;obtain⟨h1,h2⟩:=h
  by_cases e:p.1=k
  ·rw[if_pos e,if_pos (h1.symm.trans e)];exact⟨h1,ry⟩
  ·rw[if_neg e,if_neg (λz=>e (h1.trans z))];exact⟨h1,h2⟩
theorem KV.put {kvs:List (κ×V)}{vs:List (κ×Value)}(r:KV kvs vs)(k:κ){y:V}{u:Value}(ry:RelV y u):KV (mL kvs k y) (stored vs k u):=by
 unfold mL stored;rw[r.any k]
 by_cases e:(vs.any λkv=>decide (kv.1=k))=true
 ·rw[if_pos e,if_pos e];exact r.repl k ry
 ·rw[if_neg e,if_neg e];exact Paired.snoc r ⟨rfl,ry⟩
theorem KV.length {kvs:List (κ×V)}{vs:List (κ×Value)}(r:KV kvs vs):kvs.length=vs.length:=Paired.length r
end


theorem VM {P:Program}{w:World}{k:eY}{u:Value}(r:RelV (kV k) u):(cD P w).is k u=true:=by
 cases k with
 | inl i=>obtain⟨t,e⟩:=(show ∃ t,u=Value.int i t from r);subst e;exact qz P w i t
 | inr x=>obtain⟨t,e⟩:=(show ∃ t,u=Value.str x t from r);subst e;exact qA P w x t
section
variable {P:Program}{w:World}{H:Hp}{h:Heap}{a:Addr}
theorem VN {u:HO}(ok:HOk P w H h)(e:Rd H a u):ObjOk P w H h a u:=e.ok ok
theorem VO {kvs:List (eY×V)}(ok:HOk P w H h)(e:Rd H a (.dK kvs)):kvs.length<=sizeLine/\(a==sysModules)=false/\∃ vs,KV kvs vs/\h.DictOf (cD P w) a vs :=
 show ObjOk P w H h a (.dK kvs) from VN ok e
theorem yJ {kvs:List (eY×V)}(ok:HOk P w H h)(e:H a=some (.dK kvs)):kvs.length<=sizeLine/\(a==sysModules)=false/\∃ vs,KV kvs vs/\h.DictOf (cD P w) a vs:=VO ok (.inl e)
end

section
variable {X:Cx}{pins:List (Addr×Obj)}{σ:St}{H:Hp}{s:Shared}{a:Addr}{y v:V}{u r:Value}{o:Option V}{A:Around}{E:Value->Shared->Prop}

theorem Inv.big (I:Inv X pins σ H s):sysModules < s.heap.objs.size:=by
 have h:mainGlobals < s.heap.objs.size:=(I.mod.glob.keeps I.bk).lt;exact Nat.lt_trans (by decide) h

theorem GH {h':Heap}{t':Nat}{ob:HO}(I:Inv X pins σ H s)(mu:Vh (H a))(hs:Heap.SameBut a s.heap h')(he:∃ q,h'.get? a=some q)(new:ObjOk X.prog X.w (bG H a ob) h' a ob) :
  Inv X pins σ (bG H a ob) { s with heap:=h',toks:=t' } :=
 I.write (x:=a) (e:=a) mu (.inl rfl) (λb q hb z=>(hs.2 b hb).trans z) he new
theorem Ls {P:Program}{w:World}{H':Hp}{h':Heap}{kvs:List (eY×V)}{vs:List (eY×Value)}(z:kvs.length<=sizeLine)(hd:(a==sysModules)=false)(rel:KV kvs vs)(dd:h'.DictOf (cD P w) a vs) :
  ObjOk P w H' h' a (.dK kvs):=⟨z,hd,vs,rel,dd⟩
end

section
variable {X:Cx}{pins:List (Addr×Obj)}{σ:St}{H:Hp}{s:Shared}{a:Addr}{kvs:List (eY×V)}{k:eY}{u:Value}{A:Around}{E:Value->Shared->Prop}
end


section
variable {X:Cx}{o i e value:Expr}{pos pos' tpos:Pos}{td ty tv:TE}
end


theorem yK {P:Program}{w:World}{H:Hp}(h:Heap)(hb:sysModules < h.objs.size):ObjOk P w H (h.push { cls:=.type "dict",data:=.dict #[] }) h.objs.size (.dK []) :=
 ⟨Nat.zero_le _,beq_eq_false_iff_ne.mpr (Ne.symm (Nat.ne_of_lt hb)),[],.nil,Heap.DictOf.new h⟩
def Lu:TE:=λ_ H Q=>∀ p,H p=none->Q (.ref p) (bG H p (.dK []))
section
variable {X:Cx}{pos:Pos}
theorem yL:PE X (.Dict [] [] pos) Lu:=λpins s σ H Q I h =>
 wpAny_Dict_empty ⟨.ref s.heap.objs.size,_,I.laid (a:=s.heap.objs.size) (o:=.dK []) (t':=s.toks) (λ_ _ q=>Heap.get?_push_of_some _ q) (Nat.le_refl _) (yK s.heap I.big),rfl,h _ (I.hok.fresh (Nat.le_refl _))⟩
end

def oB:List (TE×TE)->St->Hp->(List (V×V)->Hp->Prop)->Prop
 | [],_,H,Q=>Q [] H
 | (tk,tv)::r,σ,H,Q=>tk σ H λx H1=>tv σ H1 λy H2=>oB r σ H2 λps H3=>Q ((x,y)::ps) H3
structure M1 (X:Cx)(o:Expr)(m:Str)(apos:Pos)(e:Expr)(cpos:Pos):Prop where
 base:attributeBase o m X.env (eval o X.env)=eval o X.env
 few:((backTo cpos (starEach [e] X.env)).all (λx=>!x.1)&&(backToKw cpos (keywordEach [] X.env)).all (λx=>x.1.isSome)
 &&decide (([e]:List Expr).length+([]:List Keyword).length+(if ([]:List Keyword).isEmpty then 0 else 1) < 30))=true
 line:(apos.endLine==cpos.line)=true
 trees:backTo cpos (starEach [e] X.env)=[(false,eval e X.env)]
structure M2 (X:Cx)(o:Expr)(m:Str)(apos:Pos)(e f:Expr)(cpos:Pos):Prop where
 base:attributeBase o m X.env (eval o X.env)=eval o X.env
 few:((backTo cpos (starEach [e,f] X.env)).all (λx=>!x.1)&&(backToKw cpos (keywordEach [] X.env)).all (λx=>x.1.isSome)
 &&decide (([e,f]:List Expr).length+([]:List Keyword).length+(if ([]:List Keyword).isEmpty then 0 else 1) < 30))=true
 line:(apos.endLine==cpos.line)=true
 trees:backTo cpos (starEach [e,f] X.env)=[(false,eval e X.env),(false,eval f X.env)]

section
variable {X:Cx}{pins:List (Addr×Obj)}{σ:St}{H:Hp}{s:Shared}{a:Addr}{y d:V}{u r:Value}{o:Option V}{A:Around}{E:Value->Shared->Prop}
end

section
variable {X:Cx}{o e f:Expr}{apos cpos:Pos}{td ty tx:TE}
end

section
variable {X:Cx}{pins:List (Addr×Obj)}{σ:St}{H:Hp}{s:Shared}{a:Addr}{kvs:List (eY×V)}{A:Around}{E:Value->Shared->Prop}
end


section
variable {X:Cx}{pins:List (Addr×Obj)}{σ:St}{H:Hp}{s:Shared}{a:Addr}{y:V}{u:Value}{A:Around}{E:Value->Shared->Prop}
end
end L2


namespace Vc
open PySem L2

class KF where
 K:PySem.W.Frag
 /-- where the classes of exceptions stand -/
 cls:Str->Addr:=λ_=>0
 /-- the code tables that a lambda fills: where,as they were,the lambda's place,its name -/
 tabs:List (Addr×Array Value×Pos×Str):=[]
variable [KF]
inductive D where
 | non|bl (b:Bool)|int (i:Int)|str (x:Str)|tup (xs:List D)|lst (xs:List D)|dct (kvs:List (D×D))|exc (c:Str)
 /-- the law's own list: read,never changed -/
 | scr (ns:List Int)

def excO (a:Addr)(c:Str):HO:=.ext λh=>∃ o,h.get? a=some o/\o.cls=.ref (KF.cls c)
def kD:eY->D
 | .inl i=>.int i
 | .inr x=>.str x
mutual
inductive Rep (F:Hp):V->D->Prop where
 | non:Rep F .non .non
 | bl (b:Bool):Rep F (.bl b) (.bl b)
 | int (i:Int):Rep F (.int i) (.int i)
 | str (x:Str):Rep F (.str x) (.str x)
 | tup {a:Addr} {vs:List V} {ds:List D}:F a=some (.tup vs)->RepL F vs ds->Rep F (.ref a) (.tup ds)
 | lst {a:Addr} {vs:List V} {ds:List D}:Rd F a (.lst vs)->RepL F vs ds->Rep F (.ref a) (.lst ds)
 | scr {a:Addr} {ns:List Int}:SqL KF.K F a (ns.map V.int)->Rep F (.ref a) (.scr ns)
 | exc {a:Addr} {c:Str}:F a=some (excO a c)->Rep F (.ref a) (.exc c)
 | dctT {a:Addr} {ks:List (List eY×V)} {kvs:List (D×D)}:F a=some (.dT ks)->RepT F ks kvs->Rep F (.ref a) (.dct kvs)
inductive RepK (F:Hp):List (eY×V)->List (D×D)->Prop where
 | nil:RepK F [] []
 | cons {k:eY} {v:V} {d:D} {ks:List (eY×V)} {kvs:List (D×D)}:Rep F v d->RepK F ks kvs->RepK F ((k,v)::ks) ((kD k,d)::kvs)
inductive RepT (F:Hp):List (List eY×V)->List (D×D)->Prop where
 | nil:RepT F [] []
 | cons {k:List eY} {v:V} {d:D} {ks:List (List eY×V)} {kvs:List (D×D)}:Rep F v d->RepT F ks kvs->RepT F ((k,v)::ks) ((.tup (k.map kD),d)::kvs)
inductive RepL (F:Hp):List V->List D->Prop where
 | nil:RepL F [] []
 | cons {v:V} {d:D} {vs:List V} {ds:List D}:Rep F v d->RepL F vs ds->RepL F (v::vs) (d::ds)
end

theorem Rd.mono {F F':Hp}(s:Same F F'){a:Addr}{u:HO}(h:Rd F a u):Rd F' a u:=by
 rcases h with h|⟨o,h⟩
 ·exact .inl (s a _ h)
 ·exact .inr ⟨o,s a _ h⟩
mutual
theorem Rep.mono {F F':Hp}(s:Same F F'){v:V}{d:D}:Rep F v d->Rep F' v d
 | .non=>.non
 | .bl b=>.bl b
 | .int i=>.int i
 | .str x=>.str x
 | .tup h r=>.tup (s _ _ h) (RepL.mono s r)
 | .lst h r=>.lst (Rd.mono s h) (RepL.mono s r)
 | .scr h=>.scr (s.seq h)
 | .exc h=>.exc (s _ _ h)
 | .dctT h r=>.dctT (s _ _ h) (RepT.mono s r)
theorem RepK.mono {F F':Hp}(s:Same F F'){ks:List (eY×V)}{kvs:List (D×D)}:RepK F ks kvs->RepK F' ks kvs
 | .nil=>.nil
 | .cons h r=>.cons (Rep.mono s h) (RepK.mono s r)
theorem RepT.mono {F F':Hp}(s:Same F F'){ks:List (List eY×V)}{kvs:List (D×D)}:RepT F ks kvs->RepT F' ks kvs
 | .nil=>.nil
 | .cons h r=>.cons (Rep.mono s h) (RepT.mono s r)
theorem RepL.mono {F F':Hp}(s:Same F F'){vs:List V}{ds:List D}:RepL F vs ds->RepL F' vs ds
 | .nil=>.nil
 | .cons h r=>.cons (Rep.mono s h) (RepL.mono s r)
end
theorem RepL.length {F:Hp}:∀ {vs:List V} {ds:List D},RepL F vs ds->vs.length=ds.length
 | _,_,.nil=>rfl
 | _,_,.cons _ r=>by simp [RepL.length r]
theorem RepL.append {F:Hp}:∀ {vs ws:List V} {ds es:List D},RepL F vs ds->RepL F ws es->RepL F (vs++ws) (ds++es)
 | _,_,_,_,.nil,s=>s
 | _,_,_,_,.cons h r,s=>.cons h (RepL.append r s)
theorem RepL.get {F:Hp}:∀ {vs:List V} {ds:List D} {i:Nat} {d:D},RepL F vs ds->ds[i]?=some d->∃ v,vs[i]?=some v/\Rep F v d
 | _,_,_,_,.nil,e=>by simp at e
 | _,_,0,_,.cons h _,e=>by simp at e;subst e;exact⟨_,by simp,h⟩
 | _,_,i+1,_,.cons _ r,e=>by
  obtain⟨v,h1,h2⟩:=RepL.get (i:=i) r (by simpa using e)
  exact⟨v,by simpa using h1,h2⟩
theorem RepL.get' {F:Hp}:∀ {vs:List V} {ds:List D} {i:Nat} {v:V},RepL F vs ds->vs[i]?=some v->∃ d,ds[i]?=some d/\Rep F v d
 | _,_,_,_,.nil,e=>by simp at e
 | _,_,0,_,.cons h _,e=>by simp at e;subst e;exact⟨_,by simp,h⟩
 | _,_,i+1,_,.cons _ r,e=>by
  obtain⟨v,h1,h2⟩:=RepL.get' (i:=i) r (by simpa using e)
  exact⟨v,by simpa using h1,h2⟩
theorem RepL.set {F:Hp}{v:V}{d:D}(h:Rep F v d):∀ {vs:List V} {ds:List D} (i:Nat),RepL F vs ds->RepL F (vs.set i v) (ds.set i d)
 | _,_,_,.nil=>.nil
 | _,_,0,.cons _ t=>.cons h t
 | _,_,i+1,.cons q t=>.cons q (RepL.set h i t)
theorem RepL.take {F:Hp}:∀ {vs:List V} {ds:List D} (n:Nat),RepL F vs ds->RepL F (vs.take n) (ds.take n)
 | _,_,0,_=>.nil
 | _,_,_+1,.nil=>.nil
 | _,_,n+1,.cons h r=>.cons h (RepL.take n r)
theorem RepL.drop {F:Hp}:∀ {vs:List V} {ds:List D} (n:Nat),RepL F vs ds->RepL F (vs.drop n) (ds.drop n)
 | _,_,0,r=>r
 | _,_,_+1,.nil=>.nil
 | _,_,n+1,.cons _ r=>RepL.drop n r
theorem RepL.reverse {F:Hp}:∀ {vs:List V} {ds:List D},RepL F vs ds->RepL F vs.reverse ds.reverse
 | _,_,.nil=>.nil
 | _,_,.cons h r=>by
  rw[List.reverse_cons,List.reverse_cons];exact (RepL.reverse r).append (.cons h .nil)
theorem RepL.rep {F:Hp}{vs:List V}{ds:List D}(r:RepL F vs ds):∀ n:Nat,RepL F (List.replicate n vs).flatten (List.replicate n ds).flatten
 | 0=>.nil
 | n+1=>by
  rw[List.replicate_succ,List.replicate_succ,List.flatten_cons,List.flatten_cons];exact r.append (RepL.rep r n)

structure O where
 fp:Addr->List Addr
 rep:Hp->Hp->Addr->Prop
 self:∀ a,a∈fp a
 solid:∀ {F H:Hp} {a b:Addr} {φ:Heap->Prop},rep F H a->b∈fp a->H b≠some (.ext φ)
 mono:∀ {F F' H H':Hp} {a:Addr},Same F F'->(∀ b∈fp a,H' b=H b)->rep F H a->rep F' H' a
inductive B where
 | sh (d:D)
 | own (xs:List D)
 | obj (o:O)
abbrev Sd:=List (Option B)
structure Dyn where
 H0:Hp
 F0:Hp
 io:List (Nat×Addr)
 /-- the addresses of things that were handed in to be changed -/
 ob:List Addr
def Dyn.ioL (Y:Dyn):List Addr:=Y.io.map (·.2)
def Dyn.ioA (Y:Dyn):List Addr:=Y.io.map (·.2)++Y.ob
theorem Dyn.ioL_sub {Y:Dyn}{a:Addr}(h:a∉Y.ioA):a∉Y.ioL:=λz=>h (List.mem_append_left _ z)
def gK (σd:Sd)(σ:St)(b:Addr):Prop:=∃ (i:Nat) (o:O) (a:Addr),σd[i]?=some (some (.obj o))/\σ[i]?=some (some (.ref a))/\b∈o.fp a
def TabsIn (F:Hp):Prop:=∀ q∈KF.tabs,F q.1=some (.lam q.2.1 q.2.2.1 q.2.2.2)
theorem TabsIn.mono {F F':Hp}(h:TabsIn F)(s:Same F F'):TabsIn F':=λq hq=>s _ _ (h q hq)
def qI (F H:Hp):Prop:=Same F H/\TabsIn F
structure Obs (Y:Dyn)(F:Hp)(σd:Sd)(σ:St)(H:Hp):Prop where
 obj:∀ (i:Nat) (o:O),σd[i]?=some (some (.obj o))->∃ a,σ[i]?=some (some (.ref a))/\o.rep F H a/\∀ b∈o.fp a,F b=none/\H b≠none/\(Y.H0 b=none\/b∈Y.ob)
 dso:∀ (i j:Nat) (o p:O) (a b:Addr),σd[i]?=some (some (.obj o))->σd[j]?=some (some (.obj p))->σ[i]?=some (some (.ref a))->σ[j]?=some (some (.ref b))->i≠j->∀ c∈o.fp a,c∉p.fp b
 dsx:∀ (j:Nat) (xs:List D) (b:Addr),σd[j]?=some (some (.own xs))->σ[j]?=some (some (.ref b))->¬ gK σd σ b
 there:∀ b∈Y.ob,H b≠none
 thz:∀ b∈Y.ob,Y.H0 b≠none
 tab:TabsIn F
theorem Obs.owned {Y:Dyn}{F:Hp}{σd:Sd}{σ:St}{H:Hp}(X:Obs Y F σd σ H){b:Addr}(h:gK σd σ b):F b=none/\H b≠none/\(Y.H0 b=none\/b∈Y.ob):=by
 obtain⟨i,o,a,e1,e2,hb⟩:=h;obtain⟨a',e3,_,h3⟩:=X.obj i o e1;rw[e2] at e3;cases e3;exact h3 b hb
theorem Obs.step {Y Y':Dyn}{F F':Hp}{σd σd':Sd}{σ σ':St}{H H':Hp}(X:Obs Y F σd σ H)(hs:Same F F')
  (hσ:∀ (i:Nat) (o:O),σd'[i]?=some (some (.obj o))->σd[i]?=some (some (.obj o))/\σ'[i]?=σ[i]?)
  (hb:∀ b,gK σd σ b->H' b=H b/\F' b=none/\(Y'.H0 b=none\/b∈Y'.ob))
  (hown:∀ (j:Nat) (ys:List D) (b:Addr),σd'[j]?=some (some (.own ys))->σ'[j]?=some (some (.ref b))->¬ gK σd σ b)
  (hth:∀ b∈Y'.ob,H' b≠none) (hz:∀ b∈Y'.ob,b∈Y.ob/\(Y.H0 b≠none->Y'.H0 b≠none):=by exact λb hb=>⟨hb,id⟩):Obs Y' F' σd' σ' H' where
 obj:=λi o e=>by
  obtain⟨e1,e2⟩:=hσ i o e;obtain⟨a,h1,h2,h3⟩:=X.obj i o e1;have ow:∀ b∈o.fp a,gK σd σ b:=λb z=>⟨i,o,a,e1,h1,z⟩;refine⟨a,by rw[e2];exact h1,o.mono hs (λb z=>(hb b (ow b z)).1) h2,λb z=>⟨(hb b (ow b z)).2.1,?_,(hb b (ow b z)).2.2⟩⟩
  rw[(hb b (ow b z)).1];exact (h3 b z).2.1
 dso:=λi j o p a b e1 e2 e3 e4=>by
  obtain⟨q1,q2⟩:=hσ i o e1;obtain⟨q3,q4⟩:=hσ j p e2;rw[q2] at e3;rw[q4] at e4;exact X.dso i j o p a b q1 q3 e3 e4
 dsx:=λj xs b e1 e2 ⟨i,o,a,e3,e4,hm⟩=>by
  obtain⟨q1,q2⟩:=hσ i o e3;rw[q2] at e4;exact hown j xs b e1 e2 ⟨i,o,a,q1,e4,hm⟩
 there:=hth
 thz:=λb hb=>(hz b hb).2 (X.thz b (hz b hb).1)
 tab:=X.tab.mono hs
theorem Obs.put {Y:Dyn}{F:Hp}{σd:Sd}{σ σ':St}{H:Hp}{i:Nat}{b':Option B}(X:Obs Y F σd σ H)(h1:∀ j,j≠i->σ'[j]?=σ[j]?)(hn:∀ o,b'≠some (.obj o))
  (hw:∀ ys a,b'=some (.own ys)->σ'[i]?=some (some (.ref a))->¬ gK σd σ a):Obs Y F (σd.set i b') σ' H:=by
 have gs:∀ {j:Nat} {y:Option B},(σd.set i b')[j]?=some y->(j=i/\y=b')\/(j≠i/\σd[j]?=some y):=λ{j y} h=>by
  by_cases hj:j=i
  ·subst hj
   by_cases hl:j < σd.length
   ·rw[List.getElem?_set_self hl] at h;exact .inl ⟨rfl,(Option.some.inj h).symm⟩
   ·have:(σd.set j b')[j]?=none:=by rw[List.getElem?_eq_none_iff];simp;omega
    rw[this] at h;cases h
  ·rw[List.getElem?_set_ne (Ne.symm hj)] at h;exact .inr ⟨hj,h⟩
 refine X.step (Same.refl _) (λj o e=>?_) (λb hb=>⟨rfl,(X.owned hb).1,(X.owned hb).2.2⟩) (λj ys b e1 e2=>?_) X.there
 ·rcases gs e with ⟨_,z⟩|⟨hj,z⟩
  ·exact absurd z.symm (hn o)
  ·exact⟨z,h1 j hj⟩
 ·rcases gs e1 with ⟨rfl,z⟩|⟨hj,z⟩
  ·exact hw ys b z.symm e2
  ·rw[h1 j hj] at e2;exact X.dsx j ys b z e2
theorem Obs.none {Y:Dyn}{F:Hp}{σd:Sd}{σ:St}{H:Hp}(h:∀ (i:Nat) (o:O),σd[i]?≠some (some (.obj o)))(htab:TabsIn F)(hth:∀ b∈Y.ob,H b≠none)(hz:∀ b∈Y.ob,Y.H0 b≠none:=by intro b hb;cases hb):Obs Y F σd σ H where
 thz:=hz
 tab:=htab
 obj:=λi o e=>absurd e (h i o)
 dso:=λi _ o _ _ _ e=>absurd e (h i o)
 dsx:=λ_ _ _ _ _ ⟨i,o,_,e,_⟩=>h i o e
 there:=hth
structure RS (Y:Dyn)(F:Hp)(σd:Sd)(σ:St)(H:Hp):Prop where
 len:σd.length=σ.length
 lo:Same Y.F0 F
 fr:Same F H
 fro:∀ b o,F b=some o->Y.F0 b=some o\/Y.H0 b=none
 old:∀ b o,Y.H0 b=some o->b∉Y.ioA->H b=some o
 sh:∀ (i:Nat) (d:D),σd[i]?=some (some (.sh d))->∃ v,σ[i]?=some (some v)/\Rep F v d
 own:∀ (i:Nat) (xs:List D),σd[i]?=some (some (.own xs))->∃ a vs,σ[i]?=some (some (.ref a))/\H a=some (.lst vs)/\RepL F vs xs/\F a=none/\(Y.H0 a=none\/a∈Y.ioL)
 dis:∀ (i j:Nat) (xs ys:List D) (a:Addr),σd[i]?=some (some (.own xs))->σd[j]?=some (some (.own ys))->σ[i]?=some (some (.ref a))->σ[j]?=some (some (.ref a))->i=j
 io:∀ p∈Y.io,σ[p.1]?=some (some (.ref p.2))/\∃ xs,σd[p.1]?=some (some (.own xs))
 ob:Obs Y F σd σ H

theorem aM {H:Hp}{p:Addr}{o:HO}(h:H p=none):Same H (bG H p o):=λb u e=>by
 rw[ao (bN e h)];exact e
theorem yM {F H:Hp}{p:Addr}{o:HO}(s:Same F H):Same (bG F p o) (bG H p o):=λb u e=>by
 by_cases hb:b=p
 ·subst hb;rw[aH] at e ⊢;exact e
 ·rw[ao hb] at e ⊢;exact s b u e
theorem bq {F H:Hp}(s:Same F H){p:Addr}(h:H p=none):F p=none:=s.free h

theorem RS.fresh0 {Y:Dyn}{F:Hp}{σd:Sd}{σ:St}{H:Hp}{p:Addr}(R:RS Y F σd σ H)(h:H p=none):Y.H0 p=none/\p∉Y.ioA:=by
 have hio:p∉Y.ioA:=λhm=>by
  rcases List.mem_append.mp hm with hm|hm
  case inr=>exact R.ob.there p hm h
  obtain⟨q,hq,e⟩:=List.mem_map.mp hm;obtain⟨h1,xs,h2⟩:=R.io q hq;obtain⟨a,vs,h3,h4,_⟩:=R.own _ _ h2;rw[h1] at h3;cases h3;rw[e,h] at h4;cases h4
 refine⟨?_,hio⟩;cases e:Y.H0 p with
 | none=>rfl
 | some o=>rw[R.old p o e hio] at h;cases h

theorem RS.alloc {Y:Dyn}{F:Hp}{σd:Sd}{σ:St}{H:Hp}{p:Addr}{o:HO}(R:RS Y F σd σ H)(h:H p=none):RS Y (bG F p o) σd σ (bG H p o) where
 len:=R.len
 lo:=R.lo.trans (aM (bq R.fr h))
 fr:=yM R.fr
 fro:=λb u e=>by
  by_cases hb:b=p
  ·subst hb;exact .inr (R.fresh0 h).1
  ·rw[ao hb] at e;exact R.fro b u e
 old:=λb u e n=>by
  have:=R.old b u e n;rw[ao (bN this h)];exact this
 sh:=λi d e=>by
  obtain⟨v,h1,h2⟩:=R.sh i d e;exact⟨v,h1,h2.mono (aM (bq R.fr h))⟩
 own:=λi xs e=>by
  obtain⟨a,vs,h1,h2,h3,h4,h5⟩:=R.own i xs e;have hne:=bN h2 h;exact⟨a,vs,h1,by rw[ao hne];exact h2,h3.mono (aM (bq R.fr h)),by rw[ao hne];exact h4,h5⟩
 dis:=R.dis
 io:=R.io
 ob:=R.ob.step (aM (bq R.fr h)) (λi o e=>⟨e,rfl⟩) (λb hb=>by
  obtain⟨w1,w2,w3⟩:=R.ob.owned hb;have hne:b≠p:=λz=>w2 (z ▸ h);exact⟨ao hne,by rw[ao hne];exact w1,w3⟩) (λj ys b e1 e2=>R.ob.dsx j ys b e1 e2) λb hb=>by
  have hne:b≠p:=λz=>R.ob.there b hb (z ▸ h);rw[ao hne];exact R.ob.there b hb
theorem RS.alloc0 {Y:Dyn}{F:Hp}{σd:Sd}{σ:St}{H:Hp}{p:Addr}{o:HO}(R:RS Y F σd σ H)(h:H p=none):RS Y F σd σ (bG H p o) where
 len:=R.len
 lo:=R.lo
 fr:=R.fr.trans (aM h)
 fro:=R.fro
 old:=λb u e n=>aM h b u (R.old b u e n)
 sh:=R.sh
 own:=λi xs e=>by
  obtain⟨a,vs,h1,h2,h3,h4,h5⟩:=R.own i xs e;exact⟨a,vs,h1,aM h a _ h2,h3,h4,h5⟩
 dis:=R.dis
 io:=R.io
 ob:=R.ob.step (Same.refl _) (λi o e=>⟨e,rfl⟩) (λb hb=>by
  obtain⟨w1,w2,w3⟩:=R.ob.owned hb;have hne:b≠p:=λz=>w2 (z ▸ h);exact⟨ao hne,w1,w3⟩) (λj ys b e1 e2=>R.ob.dsx j ys b e1 e2) λb hb=>by
  have hne:b≠p:=λz=>R.ob.there b hb (z ▸ h);rw[ao hne];exact R.ob.there b hb
inductive EV where
 | val (d:D)|var (i:Nat)|own (xs:List D)|obj (o:O)|any
inductive OV where
 | val (d:D)|var (i:Nat)|any
abbrev TX:=Sd->(EV->Sd->Prop)->Prop
abbrev TV:=Sd->(OV->Sd->Prop)->Prop
abbrev TD:=Sd->(D->Sd->Prop)->Prop
abbrev TB:=Sd->(Bool->Sd->Prop)->Prop
abbrev eB:=Sd->(List D->Sd->Prop)->Prop

structure NoOwn (σd:Sd)(σ:St)(a:Addr):Prop where
 own:∀ (j:Nat) (ys:List D),σd[j]?=some (some (.own ys))->σ[j]?≠some (some (.ref a))
 nob:¬ gK σd σ a
instance {σd:Sd} {σ:St} {a:Addr}:CoeFun (NoOwn σd σ a) λ_=>∀ (j:Nat) (ys:List D),σd[j]?=some (some (.own ys))->σ[j]?≠some (some (.ref a)):=⟨NoOwn.own⟩
theorem RS.noFresh {Y:Dyn}{F:Hp}{σd:Sd}{σ:St}{H:Hp}(R:RS Y F σd σ H){a:Addr}(h:H a=none):NoOwn σd σ a:=by
 refine⟨λj ys e z=>?_,λz=>(R.ob.owned z).2.1 h⟩;obtain⟨b,us,e1,e2,_⟩:=R.own j ys e;rw[e1] at z;cases z;rw[h] at e2;cases e2
def RepO (F:Hp)(σ:St)(v:V):OV->Prop
 | .val d=>Rep F v d
 | .var i=>σ[i]?=some (some v)
 | .any=>True
def Lv (Y:Dyn)(F H:Hp)(σd:Sd)(σ:St)(v:V):EV->Prop
 | .val d=>Rep F v d
 | .var i=>σ[i]?=some (some v)
 | .own xs=>∃ a vs,v=.ref a/\H a=some (.lst vs)/\RepL F vs xs/\F a=none/\Y.H0 a=none/\NoOwn σd σ a
 | .obj o=>∃ a,v=.ref a/\o.rep F H a/\∀ b∈o.fp a,F b=none/\H b≠none/\Y.H0 b=none/\NoOwn σd σ b
 | .any=>True

def lX (Y:Dyn)(t:TX):TE:=λσ H Q=>∃ F σd Qd,RS Y F σd σ H/\t σd Qd/\∀ v H' F' x σd',Same F F'->RS Y F' σd' σ H'->Lv Y F' H' σd' σ v x->Qd x σd'->Q v H'
def lO (Y:Dyn)(t:TV):TE:=λσ H Q=>∃ F σd Qd,RS Y F σd σ H/\t σd Qd/\∀ v H' F' x σd',Same F F'->RS Y F' σd' σ H'->RepO F' σ v x->Qd x σd'->Q v H'
def lD (Y:Dyn)(t:TD):TE:=λσ H Q=>∃ F σd Qd,RS Y F σd σ H/\t σd Qd/\∀ v H' F' x σd',Same F F'->RS Y F' σd' σ H'->Rep F' v x->Qd x σd'->Q v H'
def lB (Y:Dyn)(t:TB):TT:=λσ H Q=>∃ F σd Qd,RS Y F σd σ H/\t σd Qd/\∀ b H' F' σd',Same F F'->RS Y F' σd' σ H'->Qd b σd'->Q b H'
def lDs (Y:Dyn)(t:eB):TA:=λσ H Q=>∃ F σd Qd,RS Y F σd σ H/\t σd Qd/\∀ vs H' F' xs σd',Same F F'->RS Y F' σd' σ H'->RepL F' vs xs->Qd xs σd'->Q vs H'

structure GE where
 P:Program
 w:World
 K:PySem.W.Frag
 mg:Str->Option Value
 base:Heap
structure Stat where
 N:List Str
 sc:List (Str×NameKind)
 ios:List Nat:=[]
 blk:Bool:=false
 /-- within an except suite -/
 hot:Bool:=false
 /-- a raise may stand here -/
 rs:Bool:=false
 /-- what is wanted where an exception of a class leaves -/
 ex:Str->Sd->Prop:=λ_ _=>False
def flyO (a T:Addr)(c:Str):HO:=.ext λh=>∃ o vs a0,h.get? a=some o/\o.cls=.ref (KF.cls c)/\o.data=.fields vs/\vs[0]?=some a0/\vs[1]?=some (.ref T)
def tbO (T:Addr):HO:=.ext λh=>∃ o ts,h.get? T=some o/\o.data=.fields ts/\ts[3]?=some .none
structure Flies (X:Cx)(Y:Dyn)(F H:Hp)(a T:Addr)(c:Str):Prop where
 fa:F a=none
 fT:F T=none
 ha:H a=some (flyO a T c)
 hT:H T=some (tbO T)
 ne:a≠T
 na:Y.H0 a=none
 nT:Y.H0 T=none
 la:X.s₀.heap.get? a=none
 lT:X.s₀.heap.get? T=none
def newO (a:Addr)(c:Str):HO:=.ext λh=>∃ o vs a0,h.get? a=some o/\o.cls=.ref (KF.cls c)/\o.data=.fields vs/\vs[0]?=some a0/\vs[1]?=some .none
structure XOk (X:Cx)(G:GE)(k:Nat)(S:Stat)(Y:Dyn):Prop where
 P:X.prog=G.P
 w:X.w=G.w
 K:X.K=G.K
 kf:X.K=KF.K
 mg:X.mg=G.mg
 base:X.base=G.base
 N:X.N=S.N
 sc:X.env.scope.names=S.sc
 nd:S.N.Nodup
 ios:∀ p∈Y.io,p.1∈S.ios
 obs:S.blk=false->S.ios=[]->Y.ob=[]
 calm:S.hot=false->X.calm=true
 kind:X.env.scope.kind=.function
 fn:S.blk=false->∀ x,S.sc.lookup x=some .cell->X.fn x=true
 hd:S.hot=false->X.A.handled=none
 dp:X.A.depth+3*k+5 < recursionLimit
 un:X.A.units+16*k+200 < cLine
 po:S.hot=false->PassesOwn (model X.prog X.w) X.A X.env X.xe
 nx:S.blk=false->X.ex=[]/\X.stack=X.env::X.outer/\X.env.frame=some X.env.locals
 exc:∀ c σd,S.ex c σd->∀ pins σ H F s a T,L2.Inv X pins σ H s->RS Y F σd σ H->Flies X Y F H a T c->X.xe (.ref a) s
 made:S.rs=true->∀ c σd,S.ex c σd->∀ pins σ H F s a,L2.Inv X pins σ H s->RS Y F σd σ H->H a=some (newO a c)->Y.H0 a=none->X.s₀.heap.get? a=none->X.xe (.ref a) s
theorem XOk.room {X:Cx}{G:GE}{k:Nat}{S:Stat}{Y:Dyn}(ok:XOk X G k S Y)(h:S.hot=false):Room k X.A:=⟨ok.hd h,ok.dp,ok.un⟩
theorem XOk.units {X:Cx}{G:GE}{k:Nat}{S:Stat}{Y:Dyn}(ok:XOk X G k S Y):X.A.units+64 < cLine:=by have:=ok.un;omega

variable {G:GE}{k:Nat}{S:Stat}
structure EX (G:GE)(k:Nat)(S:Stat)(e:Expr)(t:TX) :Prop where
 run:∀ X Y,XOk X G k S Y->PE X e (lX Y t)
instance {G:GE} {k:Nat} {S:Stat} {e:Expr} {t:TX} :CoeFun (EX G k S e t) λ_=>∀ X Y,XOk X G k S Y->PE X e (lX Y t):=⟨EX.run⟩
structure EO (G:GE)(k:Nat)(S:Stat)(e:Expr)(t:TV) :Prop where
 run:∀ X Y,XOk X G k S Y->PE X e (lO Y t)
instance {G:GE} {k:Nat} {S:Stat} {e:Expr} {t:TV} :CoeFun (EO G k S e t) λ_=>∀ X Y,XOk X G k S Y->PE X e (lO Y t):=⟨EO.run⟩
structure ED (G:GE)(k:Nat)(S:Stat)(e:Expr)(t:TD) :Prop where
 run:∀ X Y,XOk X G k S Y->PE X e (lD Y t)
instance {G:GE} {k:Nat} {S:Stat} {e:Expr} {t:TD} :CoeFun (ED G k S e t) λ_=>∀ X Y,XOk X G k S Y->PE X e (lD Y t):=⟨ED.run⟩
structure EB (G:GE)(k:Nat)(S:Stat)(e:Expr)(t:TB) :Prop where
 run:∀ X Y,XOk X G k S Y->PT X e (lB Y t)
instance {G:GE} {k:Nat} {S:Stat} {e:Expr} {t:TB} :CoeFun (EB G k S e t) λ_=>∀ X Y,XOk X G k S Y->PT X e (lB Y t):=⟨EB.run⟩
structure EDs (G:GE)(k:Nat)(S:Stat)(es:List Expr)(t:eB) :Prop where
 run:∀ X Y,XOk X G k S Y->PA X es (lDs Y t)
instance {G:GE} {k:Nat} {S:Stat} {es:List Expr} {t:eB} :CoeFun (EDs G k S es t) λ_=>∀ X Y,XOk X G k S Y->PA X es (lDs Y t):=⟨EDs.run⟩

def Lw:Expr->Bool
 | .Starred _ _=>false
 | _=>true
theorem se_cons {e:Expr}{es:List Expr}{env:Env}(h:Lw e=true):starEach (e::es) env=(false,eval e env)::starEach es env:=by
 cases e<;>first|rfl|cases h
theorem br {X:Cx}{e:Expr}{t t':TE}(h:PE X e t)(i:∀ σ H Q,t' σ H Q->t σ H Q):PE X e t':=λpins s σ H Q I q=>h pins s σ H Q I (i σ H Q q)
theorem tR {X:Cx}{e:Expr}{t t':TT}(h:PT X e t)(i:∀ σ H Q,t' σ H Q->t σ H Q):PT X e t':=λpins s σ H Q I q=>h pins s σ H Q I (i σ H Q q)
theorem oC {X:Cx}{e:List Expr}{t t':TA}(h:PA X e t)(i:∀ σ H Q,t' σ H Q->t σ H Q):PA X e t':=λpos pins s σ H Q I q=>h pos pins s σ H Q I (i σ H Q q)
theorem ef {X:Cx}{e:Stmt}{t t':TS}(h:PS X e t)(i:∀ D σ H,t' D σ H->t D σ H):PS X e t':=λpins s σ H D I q=>h pins s σ H D I (i D σ H q)
theorem oD {X:Cx}{e:List Stmt}{t t':TS}(h:PSs X e t)(i:∀ D σ H,t' D σ H->t D σ H):PSs X e t':=λpins s σ H D I q=>h pins s σ H D I (i D σ H q)

theorem RS.freezeNew {Y:Dyn}{F:Hp}{σd:Sd}{σ:St}{H:Hp}{a:Addr}{vs:List V}(R:RS Y F σd σ H)(h1:H a=some (.lst vs))(h2:F a=none)(h3:NoOwn σd σ a)(h4:Y.H0 a=none):RS Y (bG F a (.lst vs)) σd σ H where
 len:=R.len
 lo:=R.lo.trans (aM h2)
 fr:=λb o e=>by
  by_cases hb:b=a
  ·subst hb;rw[aH] at e;cases e;exact h1
  ·rw[ao hb] at e;exact R.fr b o e
 fro:=λb u e=>by
  by_cases hb:b=a
  ·subst hb;exact .inr h4
  ·rw[ao hb] at e;exact R.fro b u e
 old:=R.old
 sh:=λi d e=>by
  obtain⟨v,q1,q2⟩:=R.sh i d e;exact⟨v,q1,q2.mono (aM h2)⟩
 own:=λi xs e=>by
  obtain⟨b,us,q1,q2,q3,q4,q5⟩:=R.own i xs e;have hne:b≠a:=λz=>h3 i xs e (by rw[q1,z])
  exact⟨b,us,q1,q2,q3.mono (aM h2),by rw[ao hne];exact q4,q5⟩
 dis:=R.dis
 io:=R.io
 ob:=R.ob.step (aM h2) (λi o e=>⟨e,rfl⟩) (λb hb=>by
  obtain⟨w1,w2,w3⟩:=R.ob.owned hb;have hne:b≠a:=λz=>h3.nob (z ▸ hb);exact⟨rfl,by rw[ao hne];exact w1,w3⟩) (λj ys b e1 e2=>R.ob.dsx j ys b e1 e2) R.ob.there

def Zz:EV->OV
 | .val d=>.val d
 | .var i=>.var i
 | .own xs=>.val (.lst xs)
 | .obj _=>.any
 | .any=>.any
def aL (t:TX):TV:=λσ Q=>t σ λx σ1=>Q (Zz x) σ1
theorem aO {e:Expr}{t:TX}(h:EX G k S e t):EO G k S e (aL t):=.mk λX Y ok=>br (h X Y ok) λσ H Q q=>by
 obtain⟨F,σd,Qd,R,q,K⟩:=q;refine⟨F,σd,_,R,q,λv H' F' x σd' s R' r q'=>?_⟩;cases x with
 | val d=>exact K v H' F' (.val d) σd' s R' r q'
 | var i=>exact K v H' F' (.var i) σd' s R' r q'
 | own xs =>
  obtain⟨a,vs,rfl,h1,h2,h3,h4,h5⟩:=r;exact K _ H' _ (.val (.lst xs)) σd' (s.trans (aM h3)) (R'.freezeNew h1 h3 h5 h4) (.lst (.inl aH) (h2.mono (aM h3))) q'
 | obj o=>exact K v H' F' .any σd' s R' trivial q'
 | any=>exact K v H' F' .any σd' s R' trivial q'
def oxV:OV->EV
 | .val d=>.val d
 | .var i=>.var i
 | .any=>.any
def oX (t:TV):TX:=λσ Q=>t σ λx σ1=>Q (oxV x) σ1
theorem fY {e:Expr}{t:TV}(h:EO G k S e t):EX G k S e (oX t):=.mk λX Y ok=>br (h X Y ok) λσ H Q q=>by
 obtain⟨F,σd,Qd,R,q,K⟩:=q;refine⟨F,σd,_,R,q,λv H' F' x σd' s R' r q'=>?_⟩;cases x with
 | val d=>exact K v H' F' (.val d) σd' s R' r q'
 | var i=>exact K v H' F' (.var i) σd' s R' r q'
 | any=>exact K v H' F' .any σd' s R' trivial q'

theorem aZ {α:Type}{l:List (Option α)}{i:Nat}{x:α}{y:Option α}(h:l[i]?=some (some x)):(l.set i y)[i]?=some y:=by
 have:=(List.getElem?_eq_some_iff.mp h).1;rw[List.getElem?_set_self this]
theorem bp {α:Type}{l:List (Option α)}{i j:Nat}{y:Option α}(h:j≠i):(l.set i y)[j]?=l[j]?:=by
 rw[List.getElem?_set_ne (Ne.symm h)]

theorem RS.freezeVar {Y:Dyn}{F:Hp}{σd:Sd}{σ:St}{H:Hp}{i:Nat}{xs:List D}(R:RS Y F σd σ H)(h:σd[i]?=some (some (.own xs)))(hio:∀ p∈Y.io,p.1≠i) :
  ∃ F' v,Same F F'/\RS Y F' (σd.set i (some (.sh (.lst xs)))) σ H/\σ[i]?=some (some v)/\Rep F' v (.lst xs):=by
 obtain⟨a,vs,q1,q2,q3,q4,q5⟩:=R.own i xs h;have sm:=aM (o:=.lst vs) q4;have rep:Rep (bG F a (.lst vs)) (.ref a) (.lst xs):=.lst (.inl aH) (q3.mono sm);have nio:Y.H0 a=none:=by
  rcases q5 with q5|q5
  ·exact q5
  ·obtain⟨p,hp,e⟩:=List.mem_map.mp q5
   obtain⟨w1,ys,w2⟩:=R.io p hp;exact absurd (R.dis p.1 i ys xs a w2 h (by rw[w1,e]) q1) (hio p hp)
 have obF:Obs Y (bG F a (.lst vs)) (σd.set i (some (.sh (.lst xs)))) σ H:=R.ob.step sm (λj o e=>by
  have hj:j≠i:=λz=>by subst z;rw[aZ h] at e;cases e
  rw[bp hj] at e;exact⟨e,rfl⟩) (λb hb=>by
  obtain⟨w1,w2,w3⟩:=R.ob.owned hb;have hne:b≠a:=λz=>R.ob.dsx i xs a h q1 (z ▸ hb);exact⟨rfl,by rw[ao hne];exact w1,w3⟩) (λj ys b e1 e2=>by
  have hj:j≠i:=λz=>by subst z;rw[aZ h] at e1;cases e1
  rw[bp hj] at e1;exact R.ob.dsx j ys b e1 e2) R.ob.there
 refine⟨bG F a (.lst vs),.ref a,sm,⟨by simpa using R.len,R.lo.trans sm,λb o e=>?_,λb o e=>?_,R.old,λj d e=>?_,λj ys e=>?_,λj l ys zs b e1 e2 e3 e4=>?_,λp hp=>?_,obF⟩,q1,rep⟩
 ·by_cases hb:b=a
  ·subst hb;rw[aH] at e;cases e;exact q2
  ·rw[ao hb] at e;exact R.fr b o e
 ·by_cases hb:b=a
  ·subst hb;exact .inr nio
  ·rw[ao hb] at e;exact R.fro b o e
 ·by_cases hj:j=i
  ·subst hj
   rw[aZ h] at e;cases e;exact⟨_,q1,rep⟩
  ·rw[bp hj] at e
   obtain⟨v,w1,w2⟩:=R.sh j d e;exact⟨v,w1,w2.mono sm⟩
 ·have hj:j≠i:=λz=>by subst z;rw[aZ h] at e;cases e
  rw[bp hj] at e;obtain⟨b,us,w1,w2,w3,w4,w5⟩:=R.own j ys e;have hne:b≠a:=λz=>hj (R.dis j i ys xs a e h (z ▸ w1) q1);exact⟨b,us,w1,w2,w3.mono sm,by rw[ao hne];exact w4,w5⟩
 ·have hj:j≠i:=λz=>by subst z;rw[aZ h] at e1;cases e1
  have hl:l≠i:=λz=>by subst z;rw[aZ h] at e2;cases e2
  rw[bp hj] at e1;rw[bp hl] at e2;exact R.dis j l ys zs b e1 e2 e3 e4
 ·obtain⟨w1,ys,w2⟩:=R.io p hp
  exact⟨w1,ys,by rw[bp (hio p hp)];exact w2⟩

def Lx (ios:List Nat)(x:OV)(σ1:Sd)(Q:D->Sd->Prop):Prop:=match x with
 | .val d=>Q d σ1
 | .any=>False
 | .var i=>match σ1[i]? with
  | some (some (.own xs))=>i∉ios/\Q (.lst xs) (σ1.set i (some (.sh (.lst xs))))
  | some (some (.sh d))=>Q d σ1
  | _=>False
theorem gL {ios:List Nat}{d:D}{σ1:Sd}{Q:D->Sd->Prop}:Lx ios (.val d) σ1 Q=Q d σ1:=rfl
theorem gM {ios:List Nat}{i:Nat}{σ1:Sd}{Q:D->Sd->Prop}:Lx ios (.var i) σ1 Q=(match σ1[i]? with
  | some (some (.own xs))=>i∉ios/\Q (.lst xs) (σ1.set i (some (.sh (.lst xs))))
  | some (some (.sh d))=>Q d σ1
  | _=>False):=rfl
def ag (ios:List Nat)(t:TV):TD:=λσ Q=>t σ λx σ1=>Lx ios x σ1 Q
theorem av {e:Expr}{t:TV}(h:EO G k S e t):ED G k S e (ag S.ios t):=.mk λX Y ok=>br (h X Y ok) λσ H Q q=>by
 obtain⟨F,σd,Qd,R,q,K⟩:=q;refine⟨F,σd,_,R,q,λv H' F' x σd' s R' r q'=>?_⟩;cases x with
 | val d=>exact K v H' F' d σd' s R' r q'
 | any=>exact False.elim q'
 | var i =>
  have r:σ[i]?=some (some v):=r;rw[gM] at q'
  split at q'
  ·rename_i xs e
   obtain⟨hi,q'⟩:=q';obtain⟨F2,v2,s2,R2,e2,r2⟩:=R'.freezeVar e λp hp z=>hi (z ▸ ok.ios p hp);rw[r] at e2;cases e2;exact K v H' F2 _ _ (s.trans s2) R2 r2 q'
  ·rename_i d e
   obtain⟨v2,e2,r2⟩:=R'.sh i d e;rw[r] at e2;cases e2;exact K v H' F' d σd' s R' r2 q'
  ·exact q'.elim

def aa (i:Nat):TV:=λσ Q=>match σ[i]? with
 | some (some (.sh d))=>Q (.val d) σ
 | some (some (.own _))=>Q (.var i) σ
 | _=>False
theorem ab (i:Nat){x:Str}{pos:Pos}(hN:S.N[i]?=some x:=by rfl)(hv:S.sc.lookup x=some .local\/S.sc.lookup x=some .cell\/S.sc.lookup x=some .free:=by first|exact Or.inl rfl|exact Or.inr (Or.inl rfl)|exact Or.inr (Or.inr rfl))
  (hd:(x==("__debug__":Str))=false:=by decide) (hcd:(x==("__classdict__":Str))=false:=by decide):EO G k S (.Name x pos) (aa i):=.mk λX Y ok =>
 br (kM (X:=X) (i:=i) (by rw[ok.N];exact hN) (by unfold KO;rw[ok.sc];exact hv) hd hcd) λσ H Q q=>by
  obtain⟨F,σd,Qd,R,q,K⟩:=q;unfold aa at q
  split at q
  ·rename_i d e
   obtain⟨v,e2,r2⟩:=R.sh i d e;exact⟨v,e2,K v H F (.val d) σd (Same.refl _) R r2 q⟩
  ·rename_i xs e
   obtain⟨a,vs,e2,_⟩:=R.own i xs e;exact⟨_,e2,K _ H F (.var i) σd (Same.refl _) R e2 q⟩
  ·exact q.elim
def aY (d:D):TV:=λσ Q=>Q (.val d) σ
theorem kS {Y:Dyn}{v:V}{d:D}(r:∀ F,Rep F v d)(σ:St)(H:Hp)(Q:VK)(q:lO Y (aY d) σ H Q):tC v σ H Q:=by
 obtain⟨F,σd,Qd,R,q,K⟩:=q;exact K v H F (.val d) σd (Same.refl _) R (r F) q
theorem az {i j pos}:EO G k S (.Constant (.int i) j pos) (aY (.int i)):=.mk λ_ _ _=>br KP (kS λ_=>.int i)
theorem kT {b j pos}:EO G k S (.Constant (.bool b) j pos) (aY (.bl b)):=.mk λ_ _ _=>br Vi (kS λ_=>.bl b)
theorem gf {j pos}:EO G k S (.Constant .none j pos) (aY .non):=.mk λ_ _ _=>br yk (kS λ_=>.non)
theorem yN {x j pos}:EO G k S (.Constant (.str x) j pos) (aY (.str x)):=.mk λ_ _ _=>br KQ (kS λ_=>.str x)
def Ly (G:GE)(x:Str)(d:D):Prop:=∃ u v,G.mg x=some u/\RelV v u/\∀ F,Rep F v d
theorem dG {X:Cx}{Y:Dyn}(ok:XOk X G k S Y){x:Str}(h:S.sc.lookup x=some .globalImplicit):Gl X x:=by
 unfold Gl;show X.env.scope.names.lookup x=_;rw[ok.sc];exact h
theorem yO {x:Str}{d:D}{pos:Pos}(h:Ly G x d)(hg:S.sc.lookup x=some .globalImplicit:=by rfl)(hd:(x==("__debug__":Str))=false:=by decide):EO G k S (.Name x pos) (aY d):=.mk λX Y ok=>by
 obtain⟨u,v,h1,h2,h3⟩:=h;exact br (Gp (dG ok hg) (by rw[ok.mg];exact h1) h2 hd) (kS h3)

def RepH (F H:Hp)(v:V)(d:D):Prop:=match d with
 | .lst xs=>∃ a vs,v=.ref a/\Rd H a (.lst vs)/\RepL F vs xs
 | d=>Rep F v d
def drf (σ:Sd):OV->Option D
 | .val d=>some d
 | .any=>none
 | .var i=>match σ[i]? with
  | some (some (.sh d))=>some d
  | some (some (.own xs))=>some (.lst xs)
  | _=>none
theorem Rep.h {F H:Hp}(s:Same F H){v:V}{d:D}(r:Rep F v d):RepH F H v d:=by
 cases d with
 | lst xs =>
  cases r with
  | lst h r=>exact⟨_,_,rfl,Rd.mono s h,r⟩
 | _=>exact r
theorem RS.drf {Y:Dyn}{F:Hp}{σd:Sd}{σ:St}{H:Hp}(R:RS Y F σd σ H){v:V}{x:OV}{d:D}(r:RepO F σ v x)(e:drf σd x=some d):RepH F H v d:=by
 cases x with
 | val d'=>cases e;exact Rep.h R.fr r
 | any=>cases e
 | var i =>
  have r:σ[i]?=some (some v):=r;have e:(match σd[i]? with|some (some (.sh d))=>some d|some (some (.own xs))=>some (.lst xs)|_=>none)=some d:=e
  split at e
  ·rename_i d' q
   cases e;obtain⟨v2,e2,r2⟩:=R.sh i d q;rw[r] at e2;cases e2;exact Rep.h R.fr r2
  ·rename_i xs q
   cases e;obtain⟨a,vs,e2,h2,h3,_⟩:=R.own i xs q;rw[r] at e2;cases e2;exact⟨a,vs,rfl,.inl h2,h3⟩
  ·cases e
theorem RepH.int {F H:Hp}{v:V}{i:Int}(r:RepH F H v (.int i)):v=.int i:=by cases (show Rep F v (.int i) from r);rfl
theorem RepH.bl {F H:Hp}{v:V}{i:Bool}(r:RepH F H v (.bl i)):v=.bl i:=by cases (show Rep F v (.bl i) from r);rfl
theorem RepH.str {F H:Hp}{v:V}{i:Str}(r:RepH F H v (.str i)):v=.str i:=by cases (show Rep F v (.str i) from r);rfl
theorem RepH.non {F H:Hp}{v:V}(r:RepH F H v .non):v=.non:=by cases (show Rep F v .non from r);rfl
theorem RepH.tup {F H:Hp}(s:Same F H){v:V}{xs:List D}(r:RepH F H v (.tup xs)):∃ a vs,v=.ref a/\H a=some (.tup vs)/\RepL F vs xs:=by
 cases (show Rep F v (.tup xs) from r) with
 | tup h r=>exact⟨_,_,rfl,s _ _ h,r⟩
theorem RepH.lst {F H:Hp}{v:V}{xs:List D}(r:RepH F H v (.lst xs)):∃ a vs,v=.ref a/\Rd H a (.lst vs)/\RepL F vs xs:=r

def Goes (Y:Dyn)(F:Hp)(σd:Sd)(σ:St)(Qd:EV->Prop)(Q:VK):Prop:=∀ v H' F' r,Same F F'->RS Y F' σd σ H'->Lv Y F' H' σd σ v r->Qd r->Q v H'
theorem Goes.val {Y:Dyn}{F:Hp}{σd:Sd}{σ:St}{Qd:EV->Prop}{Q:VK}(g:Goes Y F σd σ Qd Q){H:Hp}(R:RS Y F σd σ H){v:V}{d:D}(r:Rep F v d)(q:Qd (.val d)):Q v H:=g v H F (.val d) (Same.refl _) R r q
theorem Goes.own {Y:Dyn}{F:Hp}{σd:Sd}{σ:St}{Qd:EV->Prop}{Q:VK}(g:Goes Y F σd σ Qd Q){H:Hp}(R:RS Y F σd σ H){vs:List V}{xs:List D}(r:RepL F vs xs)(q:Qd (.own xs)):∀ p,H p=none->Q (.ref p) (bG H p (.lst vs)):=λp hp=>by
 refine g (.ref p) _ F (.own xs) (Same.refl _) (R.alloc0 hp) ⟨p,vs,rfl,aH,r,bq R.fr hp,(R.fresh0 hp).1,⟨λj ys e z=>?_,λz=>(R.ob.owned z).2.1 hp⟩⟩ q;obtain⟨a,us,e1,e2,_⟩:=R.own j ys e;rw[e1] at z;cases z;rw[hp] at e2;cases e2
theorem Goes.tup {Y:Dyn}{F:Hp}{σd:Sd}{σ:St}{Qd:EV->Prop}{Q:VK}(g:Goes Y F σd σ Qd Q){H:Hp}(R:RS Y F σd σ H){vs:List V}{xs:List D}(r:RepL F vs xs)(q:Qd (.val (.tup xs))):∀ p,H p=none->Q (.ref p) (bG H p (.tup vs)):=λp hp=>by
 have sm:=aM (o:=.tup vs) (bq R.fr hp);exact g (.ref p) _ _ (.val (.tup xs)) sm (R.alloc hp) (.tup aH (r.mono sm)) q
def eM (r:R2)(f:D->D->(EV->Prop)->Prop):Prop :=
 ∀ Y F H σd σ v u x y Qd Q,RS Y F σd σ H->RepH F H v x->RepH F H u y->f x y Qd->Goes Y F σd σ Qd Q->r v u H Q
def aU (f:D->D->(EV->Prop)->Prop)(ta tb:TV):TX:=λσ Q=>ta σ λx σ1=>tb σ1 λy σ2=>match drf σ2 x,drf σ2 y with
 | some a,some b=>f a b λr=>Q r σ2
 | _,_=>False
theorem RepO.mono {F F':Hp}(s:Same F F'){σ:St}{v:V}{x:OV}(r:RepO F σ v x):RepO F' σ v x:=by
 cases x with
 | val d=>exact Rep.mono s r
 | var i=>exact r
 | any=>trivial
theorem tS {Y:Dyn}{r:R2}{f:D->D->(EV->Prop)->Prop}(hs:eM r f){ta tb:TV}{σ:St}{H:Hp}{Q:VK}(q:lX Y (aU f ta tb) σ H Q):Ve r (lO Y ta) (lO Y tb) σ H Q:=by
 obtain⟨F,σd,Qd,R,q,K⟩:=q;refine⟨F,σd,_,R,q,λv1 H1 F1 x σ1 s1 R1 r1 q1=>?_⟩;refine⟨F1,σ1,_,R1,q1,λv2 H2 F2 y σ2 s2 R2 r2 q2=>?_⟩
 split at q2
 ·rename_i a b ea eb
  exact hs Y F2 H2 σ2 σ v1 v2 a b _ Q R2 (R2.drf (r1.mono s2) ea) (R2.drf r2 eb) q2 λv H' F' r s R' rr qq=>K v H' F' r σ2 ((s1.trans s2).trans s) R' rr qq
 ·exact q2.elim
theorem kU {op:Operator}{f:D->D->(EV->Prop)->Prop}{r:PySem.W.Frag->R2}(ho:∀ X,OpR X (binaryOp op) (r X.K))(hs:∀ K,eM (r K) f){a b:Expr}{ta tb:TV}{pos:Pos}(ha:EO G k S a ta)(hb:EO G k S b tb) :
  EX G k S (.BinOp a op b pos) (aU f ta tb):=.mk λX Y ok=>br (Vu (ho X) (ha X Y ok) (hb X Y ok)) λσ H Q q=>tS (hs X.K) q

def cZ:D->D->(EV->Prop)->Prop
 | .int i,.int j,Q=>Q (.val (.int (i+j)))
 | .str a,.str b,Q=>a.length+b.length<=sizeLine/\Q (.val (.str (a++b)))
 | .lst a,.lst b,Q=>a.length+b.length<=sizeLine/\Q (.own (a++b))
 | .tup a,.tup b,Q=>(a≠[]/\a.length+b.length<=sizeLine)/\Q (.val (.tup (a++b)))
 | _,_,_=>False
def ID:R2:=λx y H Q=>∃ l b xs zs,x=.ref l/\y=.ref b/\Rd H l (.lst xs)/\Rd H b (.lst zs)/\xs.length+zs.length<=sizeLine/\∀ p,H p=none->Q (.ref p) (bG H p (.lst (xs++zs)))
theorem Inv.rdL {X:Cx}{pins:List (Addr×Obj)}{σ:St}{H:Hp}{s:Shared}{l:Addr}{xs:List V}(I:L2.Inv X pins σ H s)(h:Rd H l (.lst xs)) :
  xs.length<=sizeLine/\∃ (its:List Value) (n:Nat),Vals xs its/\xs.length=its.length/\s.heap.get? l=some { cls:=.type "list",data:=.seq its.toArray n }:=by
 obtain⟨z,its,n,r,e⟩:=L2.Rd.ok h I.hok;exact⟨z,its,n,r,r.length,e⟩
theorem op_catS {X:Cx}:OpR X (binaryOp .Add) ID:=by
 intro pins s σ H x y v u Q I rx ry h;obtain⟨l,b,xs,zs,rfl,rfl,hH,hB,hz,q⟩:=h;cases rx;cases ry;obtain⟨z,its,n,r,hl,e⟩:=Inv.rdL I hH;obtain⟨z2,its2,n2,r2,hl2,e2⟩:=Inv.rdL I hB;refine PySem.P.add_list e e2 ?_ (by rw[List.size_toArray,List.size_toArray];omega)
 have ea:its.toArray++its2.toArray=(its++its2).toArray:=by simp
 rw[ea];exact⟨.ref _,_,I.lnew (t':=s.toks) (r.append r2) (by rw[List.length_append];omega),rfl,q _ I.fresh⟩
def Gz (K:PySem.W.Frag):R2:=λx y H Q=>(∃ i j,x=.int i/\y=.int j/\Q (.int (i+j)) H)\/(∃ i j,x=.str i/\y=.str j/\i.length+j.length<=sizeLine/\Q (.str (i++j)) H)\/ID x y H Q\/IC K x y H Q
theorem xo {X:Cx}:OpR X (binaryOp .Add) (Gz X.K):=op_add.or (op_add_str.or (op_catS.or GD))
theorem xp (K:PySem.W.Frag):eM (Gz K) cZ:=by
 intro Y F H σd σ v u x y Qd Q R rx ry q g;unfold cZ at q
 split at q
 ·obtain rfl:=rx.int;obtain rfl:=ry.int
  exact .inl ⟨_,_,rfl,rfl,g.val R (.int _) q⟩
 ·obtain rfl:=rx.str;obtain rfl:=ry.str
  exact .inr (.inl ⟨_,_,rfl,rfl,q.1,g.val R (.str _) q.2⟩)
 ·obtain⟨a,vs,rfl,h1,r1⟩:=rx.lst;obtain⟨b,us,rfl,h2,r2⟩:=ry.lst
  exact .inr (.inr (.inl ⟨a,b,vs,us,rfl,rfl,h1,h2,by rw[r1.length,r2.length];exact q.1,g.own R (r1.append r2) q.2⟩))
 ·have rx':=rx
  obtain⟨a,vs,rfl,h1,r1⟩:=rx.tup R.fr;obtain⟨b,us,rfl,h2,r2⟩:=ry.tup R.fr;refine .inr (.inr (.inr ⟨a,b,vs,us,rfl,rfl,.of h1,.of h2,λz=>?_,by rw[r1.length,r2.length];exact q.1.2,λz=>?_,λ_=>g.tup R (r1.append r2) q.2⟩))
  ·subst z
   cases r1;exact q.1.1 rfl
  ·subst z
   cases r2;rw[List.append_nil] at q;exact g.val R rx' q.2
 ·exact q.elim
theorem cv {a b:Expr}{ta tb:TV}{pos:Pos}(ha:EO G k S a ta)(hb:EO G k S b tb):EX G k S (.BinOp a .Add b pos) (aU cZ ta tb):=kU (r:=Gz) (λ_=>xo) xp ha hb
def Lz (C:Int->Int->Prop)(g:Int->Int->Int):D->D->(EV->Prop)->Prop
 | .int i,.int j,Q=>C i j/\Q (.val (.int (g i j)))
 | _,_,_=>False
theorem kW {C:Int->Int->Prop}{g:Int->Int->Int}:eM (rI C λi j=>.int (g i j)) (Lz C g):=by
 intro Y F H σd σ v u x y Qd Q R rx ry q gg;unfold Lz at q
 split at q
 ·obtain rfl:=rx.int;obtain rfl:=ry.int
  exact⟨_,_,rfl,rfl,q.1,gg.val R (.int _) q.2⟩
 ·exact q.elim
def GI (g:Int->Int->Int):D->D->(EV->Prop)->Prop
 | .int i,.int j,Q=>Q (.val (.int (g i j)))
 | _,_,_=>False
theorem xq {g:Int->Int->Int}:eM (Gg λi j=>.int (g i j)) (GI g):=by
 intro Y F H σd σ v u x y Qd Q R rx ry q gg;unfold GI at q
 split at q
 ·obtain rfl:=rx.int;obtain rfl:=ry.int
  exact⟨_,_,rfl,rfl,gg.val R (.int _) q⟩
 ·exact q.elim
section
variable {a b:Expr}{ta tb:TV}{pos:Pos}
def gN:=GI λi j=>i - j
def tT:=Lz (λ_ j=>0 < j) λi j=>i%j
def kX:=Lz ki λi j=>i^j.toNat
theorem eZ (ha:EO G k S a ta)(hb:EO G k S b tb):EX G k S (.BinOp a .Sub b pos) (aU gN ta tb):=kU (r:=λ_=>_) (λ_=>Le) (λ_=>xq) ha hb
theorem qJ (ha:EO G k S a ta)(hb:EO G k S b tb):EX G k S (.BinOp a .Mod b pos) (aU tT ta tb):=kU (r:=λ_=>_) (λ_=>Lf) (λ_=>kW) ha hb
theorem gO (ha:EO G k S a ta)(hb:EO G k S b tb):EX G k S (.BinOp a .Pow b pos) (aU kX ta tb):=kU (r:=λ_=>_) (λ_=>Lg) (λ_=>kW) ha hb
end
def dB:D->D->(EV->Prop)->Prop
 | .int i,.int j,Q=>CMul i j/\Q (.val (.int (i*j)))
 | .lst xs,.int j,Q=>(-(2^63)<=j/\j < 2^63/\xs.length*j.toNat<=sizeLine)/\Q (.own (List.replicate j.toNat xs).flatten)
 | _,_,_=>False
def IE:R2:=λx y H Q=>∃ l k xs,x=.ref l/\y=.int k/\Rd H l (.lst xs)/\-(2^63)<=k/\k < 2^63/\xs.length*k.toNat<=sizeLine /\
 ∀ p,H p=none->Q (.ref p) (bG H p (.lst (List.replicate k.toNat xs).flatten))
theorem GJ {X:Cx}:OpR X (binaryOp .Mult) IE:=by
 intro pins s σ H x y v u Q I rx ry h;obtain⟨l,k,xs,rfl,rfl,hH,h1,h2,hz,q⟩:=h;cases rx;obtain⟨t,rfl⟩:=ry;obtain⟨z,its,n,r,hl,e⟩:=Inv.rdL I hH;have hlen:its.toArray.size*k.toNat<=sizeLine:=by rw[List.size_toArray,<- hl];exact hz
 have hcap:¬ its.toArray.size*k.toNat > (2^63 - 1) / 8:=by
  have:(sizeLine:Nat)<=(2^63 - 1) / 8:=by decide
  omega
 have hfit:¬ (!Builtin.List.listFitsIndex k)=true:=by
  rw[fitsIndex_both h1 h2];exact Bool.false_ne_true
 have hlong:¬ Builtin.List.listTooLong (its.toArray.size*k.toNat)=true:=by
  rw[yG hlen];exact Bool.false_ne_true
 have hnew:List.foldl (λx1 x2=>x1++x2) #[] (List.replicate (if its.toArray.isEmpty=true then 0 else k.toNat) its.toArray)=(List.replicate k.toNat its).flatten.toArray:=by
  have f0:∀ m:Nat,List.foldl (λx1 x2=>x1++x2) #[] (List.replicate m its.toArray)=(List.replicate m its).flatten.toArray:=λm=>by
   have:=foldl_rep its m [];rw[List.nil_append] at this;exact this
  rw[f0];cases its with
  | nil=>simp
  | cons a r'=>rw[if_neg (by simp)]
 refine wpAny_binaryOp_repeat_ref (T:="list") (U:="int") (by decide) ⟨_,e,rfl⟩ (λs'=>typeIs_int s' k t) noFill_list_mul F.fills_int_mul F.slot_int_rmul repeat_list F.slot_int_index.lookup
  (call_meets F.slot_int_rmul (typeIs_int s k t) F.entry_int_rmul (F.args_int_rmul_2 _ _) (int___rmul___int_list k t l its.toArray n)
   ⟨e,rfl,⟨_,e,rfl⟩,call_meets F.slot_list_mul ⟨_,e,rfl⟩ F.entry_list_mul (F.args_list_mul_2 _ _) (AutoListH.list___mul___list_int_3 l its.toArray n k t hfit hcap hlong) ⟨e,?_⟩⟩)
 rw[hnew];exact⟨.ref _,_,I.lnew (t':=s.toks) (r.rep k.toNat) (by rw[len_rep,Nat.mul_comm];exact hz),rfl,q _ I.fresh⟩
def VP:R2:=λx y H Q=>rI CMul (λi j=>.int (i*j)) x y H Q\/IE x y H Q
theorem xr:eM VP dB:=by
 intro Y F H σd σ v u x y Qd Q R rx ry q g;unfold dB at q
 split at q
 ·obtain rfl:=rx.int;obtain rfl:=ry.int
  exact .inl ⟨_,_,rfl,rfl,q.1,g.val R (.int _) q.2⟩
 ·obtain⟨a,vs,rfl,h1,r1⟩:=rx.lst;obtain rfl:=ry.int
  exact .inr ⟨a,_,vs,rfl,rfl,h1,q.1.1,q.1.2.1,by rw[r1.length];exact q.1.2.2,g.own R (r1.rep _) q.2⟩
 ·exact q.elim
theorem cP {a b:Expr}{ta tb:TV}{pos:Pos}(ha:EO G k S a ta)(hb:EO G k S b tb):EX G k S (.BinOp a .Mult b pos) (aU dB ta tb):=kU (r:=λ_=>VP) (λ_=>op_mul.or GJ) (λ_=>xr) ha hb
def xt (t:TV):TV:=λσ Q=>t σ λx σ1=>match drf σ1 x with
 | some (.int i)=>Q (.val (.int (-i))) σ1
 | _=>False
theorem uW {a:Expr}{ta:TV}{pos:Pos}(ha:EO G k S a ta):EO G k S (.UnaryOp .USub a pos) (xt ta):=.mk λX Y ok=>br (Vv Lh (ha X Y ok)) λσ H Q q=>by
 obtain⟨F,σd,Qd,R,q,K⟩:=q;refine⟨F,σd,_,R,q,λv1 H1 F1 x σ1 s1 R1 r1 q1=>?_⟩
 split at q1
 ·rename_i i e
  obtain rfl:=(R1.drf r1 e).int;exact⟨i,rfl,K _ H1 F1 (.val (.int (-i))) σ1 s1 R1 (.int _) q1⟩
 ·exact q1.elim
end Vc


namespace Vc
open PySem L2
variable [KF]
variable {G:GE}{k:Nat}{S:Stat}

mutual
def jm:D->D->Bool
 | .non,.non=>true
 | .bl a,.bl b=>a==b
 | .bl a,.int j=>(if a then 1 else 0)==j
 | .int i,.bl b=>i==(if b then 1 else 0)
 | .int i,.int j=>i==j
 | .str x,.str y=>x==y
 | .lst xs,.lst ys=>oE xs ys
 | .tup xs,.tup ys=>oE xs ys
 | _,_=>false
def oE:List D->List D->Bool
 | [],[]=>true
 | x::xs,y::ys=>jm x y&&oE xs ys
 | _,_=>false
end
def bP:Nat->D->Bool
 | _,.non=>true
 | _,.bl _=>true
 | _,.int _=>true
 | _,.str x=>x.cps.all (· < 0x110000)
 | n+1,.tup xs=>xs.all (bP n)
 | n+1,.lst xs=>xs.all (bP n)
 | _,_=>false
mutual
def fj:D->PyData
 | .non=>.none
 | .bl b=>.bool b
 | .int i=>.int i
 | .str x=>.str x
 | .tup xs=>.tuple (fc xs)
 | .lst xs=>.list (fc xs)
 | _=>.none
def fc:List D->List PyData
 | []=>[]
 | x::xs=>fj x::fc xs
end

theorem oF {n m:Nat}(ih:∀ x y,bP n x=true->bP m y=true->jm x y=PyData.eqv (fj x) (fj y)):∀ xs ys:List D,xs.all (bP n)=true->ys.all (bP m)=true->oE xs ys=PyData.eqvAll (fc xs) (fc ys)
 | [],[],_,_=>rfl
 | [],_::_,_,_=>rfl
 | _::_,[],_,_=>rfl
 | x::xs,y::ys,h1,h2=>by
  rw[List.all_cons,Bool.and_eq_true] at h1 h2;show (jm x y&&oE xs ys)=(PyData.eqv (fj x) (fj y)&&PyData.eqvAll (fc xs) (fc ys));rw[ih x y h1.1 h2.1,oF ih xs ys h1.2 h2.2]
theorem yP:∀ (n m:Nat) (x y:D),bP n x=true->bP m y=true->jm x y=PyData.eqv (fj x) (fj y):=by
 intro n
 induction n with
 | zero =>
  intro m x y h1 h2;cases x with
  | tup _=>exact absurd h1 (by simp [bP])
  | lst _=>exact absurd h1 (by simp [bP])
  | dct _=>exact absurd h1 (by simp [bP])
  | exc _=>exact absurd h1 (by simp [bP])
  | scr _=>exact absurd h1 (by simp [bP])
  | _=>cases y<;>first|rfl | (cases m<;>exact absurd h2 (by simp [bP]))
 | succ n ih =>
  intro m x y h1 h2;cases x with
  | tup xs =>
   cases y with
   | tup ys =>
    cases m with
    | zero=>exact absurd h2 (by simp [bP])
    | succ m=>exact oF (ih m) xs ys h1 h2
   | _=>first|rfl | (cases m<;>exact absurd h2 (by simp [bP]))
  | lst xs =>
   cases y with
   | lst ys =>
    cases m with
    | zero=>exact absurd h2 (by simp [bP])
    | succ m=>exact oF (ih m) xs ys h1 h2
   | _=>first|rfl | (cases m<;>exact absurd h2 (by simp [bP]))
  | dct _=>exact absurd h1 (by simp [bP])
  | exc _=>exact absurd h1 (by simp [bP])
  | scr _=>exact absurd h1 (by simp [bP])
  | _=>cases y<;>first|rfl | (cases m<;>exact absurd h2 (by simp [bP]))
theorem gw {n:Nat}(ih:∀ x,bP n x=true->(fj x).canLay0=true/\(fj x).depth<=n):∀ xs:List D,xs.all (bP n)=true->PyData.canLayAll0 (fc xs)=true/\PyData.depthAll (fc xs)<=n
 | [],_=>⟨rfl,Nat.zero_le _⟩
 | x::xs,h=>by
  rw[List.all_cons,Bool.and_eq_true] at h;have h1:=ih x h.1;have h2:=gw ih xs h.2;refine⟨?_,?_⟩
  ·show ((fj x).canLay0&&PyData.canLayAll0 (fc xs))=true
   rw[h1.1,h2.1];rfl
  ·show max (fj x).depth (PyData.depthAll (fc xs))<=n
   exact Nat.max_le.mpr ⟨h1.2,h2.2⟩
theorem GK:∀ (n:Nat) (x:D),bP n x=true->(fj x).canLay0=true/\(fj x).depth<=n:=by
 intro n
 induction n with
 | zero =>
  intro x h;cases x with
  | tup _=>exact absurd h (by simp [bP])
  | lst _=>exact absurd h (by simp [bP])
  | dct _=>exact absurd h (by simp [bP])
  | exc _=>exact absurd h (by simp [bP])
  | scr _=>exact absurd h (by simp [bP])
  | _=>first|exact⟨rfl,Nat.zero_le _⟩ | (exact⟨by simpa [bP,fj,PyData.canLay0,PyData.strOk] using h,Nat.zero_le _⟩)
 | succ n ih =>
  intro x h;cases x with
  | tup xs =>
   have:=gw ih xs h;exact⟨this.1,Nat.succ_le_succ this.2⟩
  | lst xs =>
   have:=gw ih xs h;exact⟨this.1,Nat.succ_le_succ this.2⟩
  | dct _=>exact absurd h (by simp [bP])
  | exc _=>exact absurd h (by simp [bP])
  | scr _=>exact absurd h (by simp [bP])
  | _=>first|exact⟨rfl,Nat.zero_le _⟩ | (exact⟨by simpa [bP,fj,PyData.canLay0,PyData.strOk] using h,Nat.zero_le _⟩)
section
variable {P:Program}{w:World}{F H:Hp}{h:Heap}
mutual
theorem Rep.reads (ok:HOk P w H h)(s:Same F H):∀ {v:V} {d:D} {u:Value} (n:Nat),Rep F v d->RelV v u->bP n d=true->∃ as,Reads h u (fj d) as
 | _,_,_,_,.non,e,_=>by cases e;exact⟨_,.none⟩
 | _,_,_,_,.bl b,e,_=>by cases e;exact⟨_,.bool b⟩
 | _,_,_,_,.int i,e,_=>by obtain⟨t,rfl⟩:=e;exact⟨_,.int i t⟩
 | _,_,_,_,.str x,e,_=>by obtain⟨t,rfl⟩:=e;exact⟨_,.str x t⟩
 | _,_,_,0,.tup _ _,_,o=>by exact absurd o (by simp [bP])
 | _,_,_,0,.lst _ _,_,o=>by exact absurd o (by simp [bP])
 | _,_,_,n+1,.tup (a:=a) (vs:=vs) hf r,e,o=>by
  cases e;obtain⟨_,its,rv,ob,ho,hc,m,hd⟩:=ok a _ (s a _ hf);obtain⟨as,q⟩:=RepL.reads ok s n r rv o;exact⟨as,.tuple ho hc hd q⟩
 | _,_,_,n+1,.lst (a:=a) (vs:=vs) hf r,e,o=>by
  cases e;obtain⟨_,its,m,rv,ho⟩:=L2.Rd.ok (Rd.mono s hf) ok;obtain⟨as,q⟩:=RepL.reads ok s n r rv o;exact⟨_,.list ho rfl rfl q⟩
 | _,_,_,n,.scr _,_,o=>by cases n<;>exact absurd o (by simp [bP])
 | _,_,_,n,.exc _,_,o=>by cases n<;>exact absurd o (by simp [bP])
 | _,_,_,n,.dctT _ _,_,o=>by cases n<;>exact absurd o (by simp [bP])
theorem RepL.reads (ok:HOk P w H h)(s:Same F H):∀ {vs:List V} {ds:List D} {us:List Value} (n:Nat),RepL F vs ds->Vals vs us->ds.all (bP n)=true->∃ as,ReadsAll h us (fc ds) as
 | _,_,_,_,.nil,.nil,_=>⟨_,.nil⟩
 | _,_,_,n,.cons r t,.cons e f,o=>by
  rw[List.all_cons,Bool.and_eq_true] at o;obtain⟨as,h1⟩:=Rep.reads ok s n r e o.1;obtain⟨bs,h2⟩:=RepL.reads ok s n t f o.2;exact⟨_,.cons h1 h2⟩
end
theorem RepH.reads (ok:HOk P w H h)(s:Same F H){v:V}{d:D}{u:Value}(r:RepH F H v d)(e:RelV v u)(o:bP 8 d=true):∃ as,Reads h u (fj d) as:=by
 cases d with
 | lst xs =>
  obtain⟨a,vs,rfl,hf,r⟩:=r;cases e;obtain⟨_,its,n,rv,ho⟩:=L2.Rd.ok hf ok;obtain⟨as,q⟩:=RepL.reads ok s 7 r rv o;exact⟨_,.list ho rfl rfl q⟩
 | _=>exact Rep.reads ok s 8 r e o
end
theorem fL {x:D}(h:bP 8 x=true):PySem.SeqAt.shaped (fj x)=true:=by
 obtain⟨h1,h2⟩:=GK 8 x h;unfold PySem.SeqAt.shaped;rw[h1,decide_eq_true (by omega)];rfl

def GL (neg:Bool):R2:=λv u H Q=>∃ F x y,Same F H/\RepH F H v x/\RepH F H u y/\bP 8 x=true/\bP 8 y=true/\Q (.bl (if neg then !jm x y else jm x y)) H
theorem LA {X:Cx}(hu:X.A.units+64 < cLine):OpR X (compareOp .Eq) (GL false):=by
 intro pins s σ H v u v' u' Q I rv ru h;obtain⟨F,x,y,sm,rx,ry,ox,oy,q⟩:=h;obtain⟨as,r1⟩:=rx.reads I.hok sm rv ox;obtain⟨bs,r2⟩:=ry.reads I.hok sm ru oy;refine PyProof.Rows.eq_dataH r1 r2 (fL ox) (fL oy) hu ⟨.bl (jm x y),H,I,?_,q⟩;rw[yP 8 8 x y ox oy];rfl
theorem LB {X:Cx}(hu:X.A.units+64 < cLine):OpR X (compareOp .NotEq) (GL true):=by
 intro pins s σ H v u v' u' Q I rv ru h;obtain⟨F,x,y,sm,rx,ry,ox,oy,q⟩:=h;obtain⟨as,r1⟩:=rx.reads I.hok sm rv ox;obtain⟨bs,r2⟩:=ry.reads I.hok sm ru oy;refine PyProof.Rows.ne_dataH r1 r2 (fL ox) (fL oy) hu ⟨.bl (!jm x y),H,I,?_,q⟩;rw[yP 8 8 x y ox oy];rfl
end Vc


namespace Vc
open PySem L2
variable [KF]
variable {G:GE}{k:Nat}{S:Stat}

def kY (r:R2)(f:D->D->(Bool->Prop)->Prop):Prop :=
 ∀ Y F H σd σ v u x y (Qd:Bool->Prop) (Q:VK),RS Y F σd σ H->RepH F H v x->RepH F H u y->f x y Qd->(∀ b,Qd b->Q (.bl b) H)->r v u H Q
def aW (f:D->D->(Bool->Prop)->Prop)(ta tb:TV):TB:=λσ Q=>ta σ λx σ1=>tb σ1 λy σ2=>match drf σ2 x,drf σ2 y with
 | some a,some b=>f a b λr=>Q r σ2
 | _,_=>False
def bV (t:TB):TV:=λσ Q=>t σ λb σ1=>Q (.val (.bl b)) σ1
theorem nj {Y:Dyn}{r:R2}{f:D->D->(Bool->Prop)->Prop}(hs:kY r f){ta tb:TV}{σ:St}{H:Hp}{Q:VK}{F:Hp}{σd:Sd}{Qd:Bool->Sd->Prop}(R:RS Y F σd σ H)(q:aW f ta tb σd Qd)
  (K:∀ b H' F' σd',Same F F'->RS Y F' σd' σ H'->Qd b σd'->Q (.bl b) H'):Ve r (lO Y ta) (lO Y tb) σ H Q:=by
 refine⟨F,σd,_,R,q,λv1 H1 F1 x σ1 s1 R1 r1 q1=>?_⟩;refine⟨F1,σ1,_,R1,q1,λv2 H2 F2 y σ2 s2 R2 r2 q2=>?_⟩
 split at q2
 ·rename_i a b ea eb
  exact hs Y F2 H2 σ2 σ v1 v2 a b _ Q R2 (R2.drf (r1.mono s2) ea) (R2.drf r2 eb) q2 λc qc=>K c H2 F2 σ2 (s1.trans s2) R2 qc
 ·exact q2.elim
def mM (G:GE)(k:Nat)(S:Stat)(op:CmpOp)(f:D->D->(Bool->Prop)->Prop):Prop:=∃ r:R2,(∀ X Y,XOk X G k S Y->OpR X (compareOp op) r)/\kY r f
theorem aX {op:CmpOp}{f:D->D->(Bool->Prop)->Prop}(h:mM G k S op f){a b:Expr}{ta tb:TV}{pos:Pos}(ha:EO G k S a ta)(hb:EO G k S b tb)(hm:behindInMarks op b=false:=by first|exact yt _|with_unfolding_all rfl) :
  EB G k S (.Compare a [op] [b] pos) (aW f ta tb):=.mk λX Y ok=>by
 obtain⟨r,ho,hs⟩:=h;refine tR (Gy (ho X Y ok) (ha X Y ok) (hb X Y ok) hm) λσ H Q q=>?_;obtain⟨F,σd,Qd,R,q,K⟩:=q;exact nj hs R q λb H' F' σd' s R' qq=>⟨b,rfl,K b H' F' σd' s R' qq⟩
theorem kZ {op:CmpOp}{f:D->D->(Bool->Prop)->Prop}(h:mM G k S op f){a b:Expr}{ta tb:TV}{pos:Pos}(ha:EO G k S a ta)(hb:EO G k S b tb)(hm:behindInMarks op b=false:=by first|exact yt _|with_unfolding_all rfl) :
  EO G k S (.Compare a [op] [b] pos) (bV (aW f ta tb)):=.mk λX Y ok=>by
 obtain⟨r,ho,hs⟩:=h;refine br (Gx (ho X Y ok) (ha X Y ok) (hb X Y ok) hm) λσ H Q q=>?_;obtain⟨F,σd,Qd,R,q,K⟩:=q;exact nj hs R q λb H' F' σd' s R' qq=>K _ H' F' (.val (.bl b)) σd' s R' (.bl b) qq
def qK (x y:D)(Q:Bool->Prop):Prop:=(bP 8 x=true/\bP 8 y=true)/\Q (jm x y)
def mN (x y:D)(Q:Bool->Prop):Prop:=(bP 8 x=true/\bP 8 y=true)/\Q (!jm x y)
theorem jn:mM G k S .Eq qK:=⟨GL false,λX Y ok=>LA ok.units,λY F H σd σ v u x y Qd Q R rx ry q K=>⟨F,x,y,R.fr,rx,ry,q.1.1,q.1.2,K _ q.2⟩⟩
theorem eN:mM G k S .NotEq mN:=⟨GL true,λX Y ok=>LB ok.units,λY F H σd σ v u x y Qd Q R rx ry q K=>⟨F,x,y,R.fr,rx,ry,q.1.1,q.1.2,K _ q.2⟩⟩
def LC (p:Int->Int->Bool):D->D->(Bool->Prop)->Prop
 | .int i,.int j,Q=>Q (p i j)
 | _,_,_=>False
theorem fM {p:Int->Int->Bool}:kY (Gg λi j=>.bl (p i j)) (LC p):=λY F H σd σ v u x y Qd Q R rx ry q K=>by
 unfold LC at q
 split at q
 ·obtain rfl:=rx.int;obtain rfl:=ry.int
  exact⟨_,_,rfl,rfl,K _ q⟩
 ·exact q.elim
def Gh:=LC λi j=>decide (i < j)
def leT:=LC λi j=>decide (i<=j)
def ZA:=LC λi j=>decide (j < i)
def ZB:=LC λi j=>decide (j<=i)
theorem yQ:mM G k S .Lt Gh:=⟨_,λ_ _ _=>Vy,fM⟩
theorem c_le:mM G k S .LtE leT:=⟨_,λ_ _ _=>Vz,fM⟩
theorem VQ:mM G k S .Gt ZA:=⟨_,λ_ _ _=>VA,fM⟩
theorem VR:mM G k S .GtE ZB:=⟨_,λ_ _ _=>VB,fM⟩
def isNone:D->Bool
 | .non=>true
 | _=>false
def isT (x y:D)(Q:Bool->Prop):Prop:=isNone y=true/\Q (isNone x)
def yR (x y:D)(Q:Bool->Prop):Prop:=isNone y=true/\Q (!isNone x)
theorem RepH.isNone {F H:Hp}{v:V}{x:D}(r:RepH F H v x):decide (v=.non)=isNone x:=by
 cases x with
 | lst xs=>obtain⟨a,vs,rfl,_⟩:=r;rfl
 | dct _=>cases (show Rep F v (.dct _) from r);rfl
 | exc _=>cases (show Rep F v (.exc _) from r);rfl
 | scr _=>cases (show Rep F v (.scr _) from r);rfl
 | non=>obtain rfl:=r.non;rfl
 | bl _=>obtain rfl:=r.bl;rfl
 | int _=>obtain rfl:=r.int;rfl
 | str _=>obtain rfl:=r.str;rfl
 | tup _=>cases (show Rep F v (.tup _) from r);rfl
theorem RepH.noneEq {F H:Hp}{v:V}{x:D}(r:RepH F H v x)(h:Vc.isNone x=true):v=.non:=by
 cases x<;>first|exact r.non|cases h
theorem c_is:mM G k S .Is isT:=⟨_,λ_ _ _=>Li,λY F H σd σ v u x y Qd Q R rx ry q K=>⟨ry.noneEq q.1,by rw[rx.isNone];exact K _ q.2⟩⟩
theorem IG:mM G k S .IsNot yR:=⟨_,λ_ _ _=>Gw,λY F H σd σ v u x y Qd Q R rx ry q K=>⟨ry.noneEq q.1,by rw[rx.isNone];exact K _ q.2⟩⟩

def LD:D->(Bool->Prop)->Prop
 | .non,Q=>Q false
 | .bl b,Q=>Q b
 | .int i,Q=>Q (i != 0)
 | .lst xs,Q=>Q (!xs.isEmpty)
 | .tup xs,Q=>Q (!xs.isEmpty)
 | _,_=>False
def tU (t:TV):TB:=λσ Q=>t σ λx σ1=>match drf σ1 x with
 | some d=>LD d λb=>Q b σ1
 | none=>False
theorem gQ {F:Hp}{vs:List V}{xs:List D}(r:RepL F vs xs):(!xs.isEmpty)=!vs.isEmpty:=by cases r<;>rfl
theorem lc {e:Expr}{t:TV}(h:EO G k S e t)(he:∀ env whole,isTrue e env whole=(do let v <- whole;standAt e.pos;holding [v] (truthy v)):=by intro _ _;rfl):EB G k S e (tU t):=.mk λX Y ok=>by
 refine tR (yu (h X Y ok) (he _)) λσ H Q q=>?_;obtain⟨F,σd,Qd,R,q,K⟩:=q;refine⟨F,σd,_,R,q,λv1 H1 F1 x σ1 s1 R1 r1 q1=>?_⟩
 split at q1
 ·rename_i d ed
  have r:=R1.drf r1 ed;unfold LD at q1
  split at q1
  ·obtain rfl:=r.non;exact⟨false,rfl,K _ H1 F1 σ1 s1 R1 q1⟩
  ·rename_i b;obtain rfl:=r.bl;exact⟨b,rfl,K _ H1 F1 σ1 s1 R1 q1⟩
  ·rename_i i;obtain rfl:=r.int;exact⟨_,rfl,K _ H1 F1 σ1 s1 R1 q1⟩
  ·rename_i xs;obtain⟨a,vs,rfl,h1,h2⟩:=r.lst
   exact⟨!xs.isEmpty,.inl ⟨vs,.inl h1,gQ h2⟩,K _ H1 F1 σ1 s1 R1 q1⟩
  ·rename_i xs;obtain⟨a,vs,rfl,h1,h2⟩:=r.tup R1.fr
   exact⟨!xs.isEmpty,.inr (.inl ⟨vs,.inl (.inl h1),gQ h2⟩),K _ H1 F1 σ1 s1 R1 q1⟩
  ·exact q1.elim
 ·exact q1.elim
def gh (t u:TB):TB:=λσ Q=>t σ λc σ1=>if c=true then u σ1 Q else Q false σ1
def oG (t u:TB):TB:=λσ Q=>t σ λc σ1=>if c=true then Q true σ1 else u σ1 Q
def nk (t:TB):TB:=λσ Q=>t σ λc σ1=>Q (!c) σ1
structure EW (G:GE)(k:Nat)(S:Stat)(e:Expr)(t:TB) :Prop where
 run:∀ X Y,XOk X G k S Y->PW X e (lB Y t)
instance {G:GE} {k:Nat} {S:Stat} {e:Expr} {t:TB} :CoeFun (EW G k S e t) λ_=>∀ X Y,XOk X G k S Y->PW X e (lB Y t):=⟨EW.run⟩
theorem yS {X:Cx}{e:Expr}{t t':TT}(h:PW X e t)(i:∀ σ H Q,t' σ H Q->t σ H Q):PW X e t':=λwh pins s σ H Q I q=>h wh pins s σ H Q I (i σ H Q q)
section
variable {a b:Expr}{rest:List Expr}{ta tb:TB}{pos:Pos}
theorem GM (h:EW G k S a ta):EB G k S a ta:=.mk λX Y ok=>(h X Y ok).pt
theorem yT (ha:EB G k S a ta):EW G k S (.BoolOp .And [a] pos) ta:=.mk λX Y ok=>Gq (ha X Y ok)
theorem ld (ha:EB G k S a ta):EW G k S (.BoolOp .Or [a] pos) ta:=.mk λX Y ok=>KR (ha X Y ok)
theorem yU (ha:EB G k S a ta)(hb:EW G k S (.BoolOp .And (b::rest) pos) tb):EW G k S (.BoolOp .And (a::b::rest) pos) (gh ta tb):=.mk λX Y ok=>yS (KS (ha X Y ok) (hb X Y ok)) λσ H Q q=>by
 obtain⟨F,σd,Qd,R,q,K⟩:=q;refine⟨F,σd,_,R,q,λc H1 F1 σ1 s1 R1 q1=>?_⟩;cases c with
 | true=>exact⟨F1,σ1,Qd,R1,q1,λb H' F' σd' s R' qq=>K b H' F' σd' (s1.trans s) R' qq⟩
 | false=>exact K false H1 F1 σ1 s1 R1 q1
theorem tV (ha:EB G k S a ta)(hb:EW G k S (.BoolOp .Or (b::rest) pos) tb):EW G k S (.BoolOp .Or (a::b::rest) pos) (oG ta tb):=.mk λX Y ok=>yS (Vj (ha X Y ok) (hb X Y ok)) λσ H Q q=>by
 obtain⟨F,σd,Qd,R,q,K⟩:=q;refine⟨F,σd,_,R,q,λc H1 F1 σ1 s1 R1 q1=>?_⟩;cases c with
 | false=>exact⟨F1,σ1,Qd,R1,q1,λb H' F' σd' s R' qq=>K b H' F' σd' (s1.trans s) R' qq⟩
 | true=>exact K true H1 F1 σ1 s1 R1 q1
theorem oH (ha:EB G k S a ta):EB G k S (.UnaryOp .Not a pos) (nk ta):=.mk λX Y ok=>tR (KT (ha X Y ok)) λσ H Q q=>by
 obtain⟨F,σd,Qd,R,q,K⟩:=q;exact⟨F,σd,_,R,q,λc H1 F1 σ1 s1 R1 q1=>K _ H1 F1 σ1 s1 R1 q1⟩
end
structure EV' (G:GE)(k:Nat)(S:Stat)(e:Expr)(t:TB) :Prop where
 run:∀ X Y,XOk X G k S Y->PE X e (λσ H Q=>lB Y t σ H λb H'=>Q (.bl b) H')
instance {G:GE} {k:Nat} {S:Stat} {e:Expr} {t:TB} :CoeFun (EV' G k S e t) λ_=>∀ X Y,XOk X G k S Y->PE X e (λσ H Q=>lB Y t σ H λb H'=>Q (.bl b) H'):=⟨EV'.run⟩
section
variable {a b:Expr}{rest:List Expr}{ta tb:TB}{pos:Pos}
def nl (t:TV):TB:=λσ Q=>t σ λx σ1=>match drf σ1 x with
 | some (.bl b)=>Q b σ1
 | _=>False
theorem GN {t:TV}(h:EO G k S a t):EV' G k S a (nl t):=.mk λX Y ok=>br (h X Y ok) λσ H Q q=>by
 obtain⟨F,σd,Qd,R,q,K⟩:=q;refine⟨F,σd,_,R,q,λv1 H1 F1 x σ1 s1 R1 r1 q1=>?_⟩
 split at q1
 ·rename_i b eb
  obtain rfl:=(R1.drf r1 eb).bl;exact K b H1 F1 σ1 s1 R1 q1
 ·exact q1.elim
theorem IH {op:BoolOp}(h:EV' G k S a ta):EV' G k S (.BoolOp op [a] pos) ta:=.mk λX Y ok=>KU (h X Y ok)
theorem II (ha:EV' G k S a ta)(hb:EV' G k S (.BoolOp .And (b::rest) pos) tb):EV' G k S (.BoolOp .And (a::b::rest) pos) (gh ta tb):=.mk λX Y ok=>br (KW (ha X Y ok) (hb X Y ok)) λσ H Q q=>by
 obtain⟨F,σd,Qd,R,q,K⟩:=q;refine⟨F,σd,_,R,q,λc H1 F1 σ1 s1 R1 q1=>⟨c,rfl,?_⟩⟩;cases c with
 | true=>exact⟨F1,σ1,Qd,R1,q1,λb H' F' σd' s R' qq=>K b H' F' σd' (s1.trans s) R' qq⟩
 | false=>exact K false H1 F1 σ1 s1 R1 q1
theorem VS (h:EV' G k S a ta):EO G k S a (bV ta):=.mk λX Y ok=>br (h X Y ok) λσ H Q q=>by
 obtain⟨F,σd,Qd,R,q,K⟩:=q;exact⟨F,σd,_,R,q,λb H1 F1 σ1 s1 R1 q1=>K _ H1 F1 (.val (.bl b)) σ1 s1 R1 (.bl b) q1⟩
end
end Vc


namespace Vc
open PySem L2
variable [KF]
variable {G:GE}{k:Nat}{S:Stat}

theorem RepL.atI {F:Hp}{vs:List V}{xs:List D}{i:Int}{d:D}(r:RepL F vs xs)(h:L2.atI xs i=some d):∃ v,L2.atI vs i=some v/\Rep F v d:=by
 unfold L2.atI at h ⊢;rw[r.length];cases e:ixN xs.length i with
 | none=>rw[e] at h;cases h
 | some j =>
  rw[e] at h;exact r.get (i:=j) h
def GO:D->D->(D->Prop)->Prop
 | .lst xs,.int i,Q=>match atI xs i with
  | some d=>Q d
  | none=>False
 | .tup xs,.int i,Q=>match atI xs i with
  | some d=>Q d
  | none=>False
 | .str z,.int i,Q=>z.length<=sizeLine/\match atI z.cps.toList i with
  | some c=>Q (.str ⟨#[c]⟩)
  | none=>False
 | .scr ns,.int i,Q=>match atI ns i with
  | some n=>Q (.int n)
  | none=>False
 | _,_,_=>False
theorem GP {α β:Type}(f:α->β){xs:List α}{i:Int}{a:α}(h:L2.atI xs i=some a):L2.atI (xs.map f) i=some (f a):=by
 unfold L2.atI at h ⊢;rw[List.length_map];cases e:ixN xs.length i with
 | none=>rw[e] at h;cases h
 | some j =>
  rw[e] at h;have h:xs[j]?=some a:=h;show (xs.map f)[j]?=_;rw[List.getElem?_map,h];rfl
def dP (ta tb:TV):TV:=λσ Q=>ta σ λx σ1=>tb σ1 λy σ2=>match drf σ2 x,drf σ2 y with
 | some a,some b=>GO a b λr=>Q (.val r) σ2
 | _,_=>False
theorem ck {a b:Expr}{ta tb:TV}{pos:Pos}(ha:EO G k S a ta)(hb:EO G k S b tb)(hs:uV b:=by intro _ _;rfl):EO G k S (.Subscript a b pos) (dP ta tb):=.mk λX Y ok =>
 br (VG Lq (ha X Y ok) (hb X Y ok) hs) λσ H Q q=>by
  obtain⟨F,σd,Qd,R,q,K⟩:=q;refine⟨F,σd,_,R,q,λv1 H1 F1 x σ1 s1 R1 r1 q1=>?_⟩;refine⟨F1,σ1,_,R1,q1,λv2 H2 F2 y σ2 s2 R2 r2 q2=>?_⟩
  split at q2
  ·rename_i a b ea eb
   have rx:=R2.drf (r1.mono s2) ea;have ry:=R2.drf r2 eb;have fin:∀ {v d},Rep F2 v d->Qd (.val d) σ2->Q v H2:=λr qq=>K _ H2 F2 (.val _) σ2 (s1.trans s2) R2 r qq;unfold GO at q2
   split at q2
   ·obtain⟨p,vs,rfl,h1,r1⟩:=rx.lst;obtain rfl:=ry.int
    split at q2
    ·rename_i d e
     obtain⟨v,ev,rv⟩:=r1.atI e;exact .inl ⟨p,vs,_,v,rfl,rfl,.inl h1,ev,fin rv q2⟩
    ·exact q2.elim
   ·obtain⟨p,vs,rfl,h1,r1⟩:=rx.tup R2.fr;obtain rfl:=ry.int
    split at q2
    ·rename_i d e
     obtain⟨v,ev,rv⟩:=r1.atI e;exact .inr (.inl ⟨p,vs,_,v,rfl,rfl,.of h1,ev,fin rv q2⟩)
    ·exact q2.elim
   ·obtain rfl:=rx.str;obtain rfl:=ry.int
    obtain⟨hz,q2⟩:=q2
    split at q2
    ·rename_i c e
     exact .inr (.inr ⟨_,_,c,rfl,rfl,hz,e,fin (.str _) q2⟩)
    ·exact q2.elim
   ·rename_i ns i
    have rx:Rep F2 v1 (.scr ns):=rx;obtain rfl:=ry.int;cases rx with
    | scr h =>
     split at q2
     ·rename_i n e
      exact .inl ⟨_,ns.map V.int,_,.int n,rfl,rfl,by rw[ok.kf];exact R2.fr.seq h,GP V.int e,fin (.int _) q2⟩
     ·exact q2.elim
   ·exact q2.elim
  ·exact q2.elim

theorem jo {F:Hp}:∀ ns:List Int,RepL F (ns.map V.int) (ns.map D.int)
 | []=>.nil
 | n::ns=>.cons (.int n) (jo ns)
theorem RepH.scr {F H:Hp}(s:Same F H){v:V}{ns:List Int}(r:RepH F H v (.scr ns)):∃ a,v=.ref a/\SqL KF.K H a (ns.map V.int):=by
 cases (show Rep F v (.scr ns) from r) with
 | scr h=>exact⟨_,rfl,s.seq h⟩
abbrev GQ:=Sd->(Option Int->Sd->Prop)->Prop
def lP (Y:Dyn)(t:GQ):TO:=λσ H Q=>∃ F σd Qd,RS Y F σd σ H/\t σd Qd/\∀ o H' F' σd',Same F F'->RS Y F' σd' σ H'->Qd o σd'->Q o H'
structure EPt (G:GE)(k:Nat)(S:Stat)(e:Option Expr)(t:GQ) :Prop where
 run:∀ X Y,XOk X G k S Y->PO X e (lP Y t)
instance {G:GE} {k:Nat} {S:Stat} {e:Option Expr} {t:GQ} :CoeFun (EPt G k S e t) λ_=>∀ X Y,XOk X G k S Y->PO X e (lP Y t):=⟨EPt.run⟩
theorem yV {X:Cx}{e:Option Expr}{t t':TO}(h:PO X e t)(i:∀ σ H Q,t' σ H Q->t σ H Q):PO X e t':=λpins s σ H Q I q=>h pins s σ H Q I (i σ H Q q)
def VT:GQ:=λσ Q=>Q none σ
def Vf (t:TV):GQ:=λσ Q=>t σ λx σ1=>match drf σ1 x with
 | some (.int i)=>Q (some i) σ1
 | _=>False
theorem yW:EPt G k S none VT:=.mk λX Y ok=>yV GB λσ H Q q=>by
 obtain⟨F,σd,Qd,R,q,K⟩:=q;exact K none H F σd (Same.refl _) R q
theorem tW {e:Expr}{t:TV}(h:EO G k S e t):EPt G k S (some e) (Vf t):=.mk λX Y ok=>yV (GC (h X Y ok)) λσ H Q q=>by
 obtain⟨F,σd,Qd,R,q,K⟩:=q;refine⟨F,σd,_,R,q,λv1 H1 F1 x σ1 s1 R1 r1 q1=>?_⟩
 split at q1
 ·rename_i i e
  obtain rfl:=(R1.drf r1 e).int;exact⟨i,rfl,K _ H1 F1 σ1 s1 R1 q1⟩
 ·exact q1.elim
def cut {α:Type}(xs:List α)(lo hi:Option Int):List α:=(xs.drop (HT.sIx xs.length 0 lo)).take (HT.sIx xs.length xs.length hi - HT.sIx xs.length 0 lo)
theorem RepL.cut {F:Hp}{vs:List V}{xs:List D}(r:RepL F vs xs)(lo hi:Option Int):RepL F (qF vs lo hi) (cut xs lo hi):=by
 unfold qF Vc.cut;rw[r.length];exact (r.drop _).take _
def ZC:D->Option Int->Option Int->(EV->Prop)->Prop
 | .lst xs,lo,hi,Q=>Q (.own (cut xs lo hi))
 | .scr ns,lo,hi,Q=>Q (.own (cut (ns.map D.int) lo hi))
 | .tup xs,lo,hi,Q=>¬ (HT.sIx xs.length 0 lo=0/\HT.sIx xs.length xs.length hi=xs.length)/\Q (.val (.tup (cut xs lo hi)))
 | _,_,_,_=>False
def yX (t:TV)(tl th:GQ):TX:=λσ Q=>t σ λx σ1=>tl σ1 λl σ2=>th σ2 λu σ3=>match drf σ3 x with
 | some d=>ZC d l u λr=>Q r σ3
 | none=>False
theorem VU {e:Expr}{lo hi:Option Expr}{t:TV}{tl th:GQ}{p2 pos:Pos}(h:EO G k S e t)(hl:EPt G k S lo tl)(hh:EPt G k S hi th):EX G k S (.Subscript e (.Slice lo hi none p2) pos) (yX t tl th):=.mk λX Y ok =>
 br (yC (SlR.or GF Lo) (h X Y ok) (hl X Y ok) (hh X Y ok)) λσ H Q q=>by
  obtain⟨F,σd,Qd,R,q,K⟩:=q;refine⟨F,σd,_,R,q,λv1 H1 F1 x σ1 s1 R1 r1 q1=>?_⟩;refine⟨F1,σ1,_,R1,q1,λl H2 F2 σ2 s2 R2 q2=>?_⟩;refine⟨F2,σ2,_,R2,q2,λu H3 F3 σ3 s3 R3 q3=>?_⟩
  split at q3
  ·rename_i d e
   have rx:=R3.drf (r1.mono (s2.trans s3)) e;have g:Goes Y F3 σ3 σ (λr=>Qd r σ3) Q:=λv H' F' r s R' rr qq=>K v H' F' r σ3 (((s1.trans s2).trans s3).trans s) R' rr qq;unfold ZC at q3
   split at q3
   ·obtain⟨p,vs,rfl,h1,r1⟩:=rx.lst
    exact .inl ⟨p,vs,rfl,.inl h1,g.own R3 (r1.cut _ _) q3⟩
   ·obtain⟨p,rfl,h1⟩:=rx.scr R3.fr
    exact .inl ⟨p,_,rfl,by rw[ok.kf];exact h1,g.own R3 ((jo _).cut _ _) q3⟩
   ·obtain⟨p,vs,rfl,h1,r1⟩:=rx.tup R3.fr
    exact .inr ⟨p,vs,rfl,.of h1,by rw[r1.length];exact q3.1,g.tup R3 (r1.cut _ _) q3.2⟩
   ·exact q3.elim
  ·exact q3.elim

def tN:eB:=λσ Q=>Q [] σ
def aA (t:TD)(u:eB):eB:=λσ Q=>t σ λx σ1=>u σ1 λxs σ2=>Q (x::xs) σ2
theorem am:EDs G k S [] tN:=.mk λX Y ok=>oC pa_nil λσ H Q q=>by
 obtain⟨F,σd,Qd,R,q,K⟩:=q;exact K [] H F [] σd (Same.refl _) R .nil q
theorem ad {e:Expr}{es:List Expr}{t:TD}{u:eB}(h:ED G k S e t)(hs:EDs G k S es u)(he:∀ env,starEach (e::es) env=(false,eval e env)::starEach es env:=by exact λ_=>Vc.se_cons rfl):EDs G k S (e::es) (aA t u):=.mk λX Y ok =>
 oC (pa_cons (h X Y ok) (hs X Y ok) (he _)) λσ H Q q=>by
  obtain⟨F,σd,Qd,R,q,K⟩:=q;refine⟨F,σd,_,R,q,λv1 H1 F1 x σ1 s1 R1 r1 q1=>?_⟩;exact⟨F1,σ1,_,R1,q1,λvs H2 F2 xs σ2 s2 R2 r2 q2=>K _ H2 F2 (x::xs) σ2 (s1.trans s2) R2 (.cons (r1.mono s2) r2) q2⟩
def kn (t:eB):TX:=λσ Q=>t σ λxs σ1=>xs.length<=sizeLine/\Q (.own xs) σ1
def qL (t:eB):TV:=λσ Q=>t σ λxs σ1=>xs.length<=sizeLine/\Q (.val (.tup xs)) σ1
theorem cA {es:List Expr}{t:eB}{pos:Pos}(h:EDs G k S es t):EX G k S (.List es pos) (kn t):=.mk λX Y ok=>br (kO (h X Y ok)) λσ H Q q=>by
 obtain⟨F,σd,Qd,R,q,K⟩:=q;refine⟨F,σd,_,R,q,λvs H1 F1 xs σ1 s1 R1 r1 q1=>⟨by rw[r1.length];exact q1.1,?_⟩⟩
 have g:Goes Y F1 σ1 σ (λr=>Qd r σ1) Q:=λv H' F' r s R' rr qq=>K v H' F' r σ1 (s1.trans s) R' rr qq;exact g.own R1 r1 q1.2
theorem fe {es:List Expr}{t:eB}{x1}{pos:Pos}(h:EDs G k S es t):EO G k S (.Tuple es x1 pos) (qL t):=.mk λX Y ok=>br (Ll (h X Y ok)) λσ H Q q=>by
 obtain⟨F,σd,Qd,R,q,K⟩:=q;refine⟨F,σd,_,R,q,λvs H1 F1 xs σ1 s1 R1 r1 q1=>⟨by rw[r1.length];exact q1.1,λp hp=>?_⟩⟩
 have sm:=aM (o:=.tup vs) (bq R1.fr hp);exact K _ _ _ (.val (.tup xs)) σ1 (s1.trans sm) (R1.alloc hp) (.tup aH (r1.mono sm)) q1.2

abbrev tH:=Sd->(List OV->Sd->Prop)->Prop
inductive RepOs (F:Hp)(σ:St):List V->List OV->Prop where
 | nil:RepOs F σ [] []
 | cons {v:V} {x:OV} {vs:List V} {xs:List OV}:RepO F σ v x->RepOs F σ vs xs->RepOs F σ (v::vs) (x::xs)
def lOs (Y:Dyn)(t:tH):TA:=λσ H Q=>∃ F σd Qd,RS Y F σd σ H/\t σd Qd/\∀ vs H' F' xs σd',Same F F'->RS Y F' σd' σ H'->RepOs F' σ vs xs->Qd xs σd'->Q vs H'
structure EOs (G:GE)(k:Nat)(S:Stat)(es:List Expr)(t:tH) :Prop where
 run:∀ X Y,XOk X G k S Y->PA X es (lOs Y t)
instance {G:GE} {k:Nat} {S:Stat} {es:List Expr} {t:tH} :CoeFun (EOs G k S es t) λ_=>∀ X Y,XOk X G k S Y->PA X es (lOs Y t):=⟨EOs.run⟩
def cB:tH:=λσ Q=>Q [] σ
def bh (t:TV)(u:tH):tH:=λσ Q=>t σ λx σ1=>u σ1 λxs σ2=>Q (x::xs) σ2
theorem aS:EOs G k S [] cB:=.mk λX Y ok=>oC pa_nil λσ H Q q=>by
 obtain⟨F,σd,Qd,R,q,K⟩:=q;exact K [] H F [] σd (Same.refl _) R .nil q
theorem aG {e:Expr}{es:List Expr}{t:TV}{u:tH}(h:EO G k S e t)(hs:EOs G k S es u)(he:∀ env,starEach (e::es) env=(false,eval e env)::starEach es env:=by exact λ_=>Vc.se_cons rfl):EOs G k S (e::es) (bh t u):=.mk λX Y ok =>
 oC (pa_cons (h X Y ok) (hs X Y ok) (he _)) λσ H Q q=>by
  obtain⟨F,σd,Qd,R,q,K⟩:=q;refine⟨F,σd,_,R,q,λv1 H1 F1 x σ1 s1 R1 r1 q1=>?_⟩;exact⟨F1,σ1,_,R1,q1,λvs H2 F2 xs σ2 s2 R2 r2 q2=>K _ H2 F2 (x::xs) σ2 (s1.trans s2) R2 (.cons (r1.mono s2) r2) q2⟩
def drfs (σ:Sd):List OV->Option (List D)
 | []=>some []
 | x::xs=>match drf σ x,drfs σ xs with
  | some d,some ds=>some (d::ds)
  | _,_=>none
inductive RepHs (F H:Hp):List V->List D->Prop where
 | nil:RepHs F H [] []
 | cons {v:V} {x:D} {vs:List V} {xs:List D}:RepH F H v x->RepHs F H vs xs->RepHs F H (v::vs) (x::xs)
theorem RS.drfs {Y:Dyn}{F:Hp}{σd:Sd}{σ:St}{H:Hp}(R:RS Y F σd σ H):∀ {vs:List V} {xs:List OV} {ds:List D},RepOs F σ vs xs->Vc.drfs σd xs=some ds->RepHs F H vs ds
 | _,_,_,.nil,e=>by cases e;exact .nil
 | _,_,_,.cons (x:=x) (xs:=xs) r t,e=>by
  have e:(match Vc.drf σd x,Vc.drfs σd xs with|some d,some ds=>some (d::ds)|_,_=>none)=some _:=e
  split at e
  ·rename_i d ds e1 e2
   cases e;exact .cons (R.drf r e1) (RS.drfs R t e2)
  ·cases e
theorem RepHs.one {F H:Hp}{vs:List V}{d:D}(r:RepHs F H vs [d]):∃ v,vs=[v]/\RepH F H v d:=by
 cases r with
 | cons r t=>cases t;exact⟨_,rfl,r⟩
theorem RepHs.two {F H:Hp}{vs:List V}{d e:D}(r:RepHs F H vs [d,e]):∃ v u,vs=[v,u]/\RepH F H v d/\RepH F H u e:=by
 cases r with
 | cons r t =>
  obtain⟨u,rfl,q⟩:=t.one;exact⟨_,u,rfl,r,q⟩
def nq (r:List V->Hp->VK->Prop)(f:List D->(EV->Prop)->Prop):Prop :=
 ∀ Y F H σd σ vs ds (Qd:EV->Prop) (Q:VK),RS Y F σd σ H->RepHs F H vs ds->f ds Qd->Goes Y F σd σ Qd Q->r vs H Q
def dh (f:List D->(EV->Prop)->Prop)(t:tH):TX:=λσ Q=>t σ λxs σ1=>match drfs σ1 xs with
 | some ds=>f ds λr=>Q r σ1
 | none=>False
theorem nu {Y:Dyn}{r:List V->Hp->VK->Prop}{f:List D->(EV->Prop)->Prop}(hs:nq r f){t:tH}{σ:St}{H:Hp}{Q:VK}(q:lX Y (dh f t) σ H Q):tCB r (lOs Y t) σ H Q:=by
 obtain⟨F,σd,Qd,R,q,K⟩:=q;refine⟨F,σd,_,R,q,λvs H1 F1 xs σ1 s1 R1 r1 q1=>?_⟩
 split at q1
 ·rename_i ds e
  exact hs Y F1 H1 σ1 σ vs ds _ Q R1 (R1.drfs r1 e) q1 λv H' F' r s R' rr qq=>K v H' F' r σ1 (s1.trans s) R' rr qq
 ·exact q1.elim
def xu (G:GE)(k:Nat)(S:Stat)(f:Value)(g:List D->(EV->Prop)->Prop):Prop:=∃ r:PySem.W.Frag->List V->Hp->VK->Prop,(∀ X Y,XOk X G k S Y->CallR X f (r X.K))/\nq (r KF.K) g
section
variable {x:Str}{p pos:Pos}{e:Expr}{es:List Expr}{t:tH}{id T:String}{g:List D->(EV->Prop)->Prop}
theorem cM (h:xu G k S (.builtin id) g)(hm:G.mg x=none)(ha:EOs G k S (e::es) t)(hv:bootBuiltins x=some (.builtin id))(hg:S.sc.lookup x=some .globalImplicit:=by rfl)(hn:x≠"__name__":=by decide)(hdb:(x==("__debug__":Str))=false:=by decide)
  (he:∀ env,starEach (e::es) env=(false,eval e env)::starEach es env:=by exact λ_=>Vc.se_cons rfl) (hpl:∀ env,(backTo pos (starEach es env)).any (·.1)=false:=by intro _;rfl):EX G k S (.Call (.Name x p) (e::es) [] pos) (dh g t):=.mk λX Y ok=>by
 obtain⟨r,hc,hs⟩:=h;exact br (yy (hc X Y ok) (dG ok hg) (by rw[ok.mg];exact hm) hv (ha X Y ok) hn hdb (he _) (hpl _)) λσ H Q q=>nu (by rw[ok.kf];exact hs) q
theorem fZ (h:xu G k S (.type T) g)(hm:G.mg x=none)(ha:EOs G k S (e::es) t)(hv:bootBuiltins x=some (.type T))(hg:S.sc.lookup x=some .globalImplicit:=by rfl)(hn:x≠"__name__":=by decide)(hdb:(x==("__debug__":Str))=false:=by decide)
  (he:∀ env,starEach (e::es) env=(false,eval e env)::starEach es env:=by exact λ_=>Vc.se_cons rfl) (hpl:∀ env,(backTo pos (starEach es env)).any (·.1)=false:=by intro _;rfl):EX G k S (.Call (.Name x p) (e::es) [] pos) (dh g t):=.mk λX Y ok=>by
 obtain⟨r,hc,hs⟩:=h;exact br (fK (hc X Y ok) (dG ok hg) (by rw[ok.mg];exact hm) hv (ha X Y ok) hn hdb (he _) (hpl _)) λσ H Q q=>nu (by rw[ok.kf];exact hs) q
end
def eg:List D->(EV->Prop)->Prop
 | [.lst xs],Q=>Q (.val (.int xs.length))
 | [.tup xs],Q=>Q (.val (.int xs.length))
 | [.scr ns],Q=>Q (.val (.int ns.length))
 | [.str z],Q=>z.length<=sizeLine/\Q (.val (.int z.length))
 | _,_=>False
theorem dH:xu G k S (.builtin "len") eg:=⟨λK xs H Q=>(∃ p ys,xs=[V.ref p]/\(SqL K H p ys\/SqT K H p ys)/\Q (V.int ys.length) H)\/∃ z,xs=[V.str z]/\z.length<=sizeLine/\Q (V.int z.length) H,λ_ _ _=>call_len_seq.or oz,λY F H σd σ vs ds Qd Q R r q g=>by
 unfold eg at q
 split at q
 ·obtain⟨v,rfl,rv⟩:=r.one
  obtain⟨p,us,rfl,h1,h2⟩:=rv.lst;exact .inl ⟨p,us,rfl,.inl (.inl h1),by rw[h2.length];exact g.val R (.int _) q⟩
 ·obtain⟨v,rfl,rv⟩:=r.one
  obtain⟨p,us,rfl,h1,h2⟩:=rv.tup R.fr;exact .inl ⟨p,us,rfl,.inr (.of h1),by rw[h2.length];exact g.val R (.int _) q⟩
 ·obtain⟨v,rfl,rv⟩:=r.one
  obtain⟨p,rfl,h1⟩:=rv.scr R.fr;exact .inl ⟨p,_,rfl,.inl h1,by rw[List.length_map];exact g.val R (.int _) q⟩
 ·obtain⟨v,rfl,rv⟩:=r.one
  obtain rfl:=rv.str;exact .inr ⟨_,rfl,q.1,g.val R (.int _) q.2⟩
 ·exact q.elim⟩
def GR:List D->(EV->Prop)->Prop
 | [.int i],Q=>Q (.val (.int (if i < 0 then -i else i)))
 | _,_=>False
theorem VV:xu G k S (.builtin "abs") GR:=⟨λ_=>_,λ_ _ _=>yw,λY F H σd σ vs ds Qd Q R r q g=>by
 unfold GR at q
 split at q
 ·obtain⟨v,rfl,rv⟩:=r.one
  obtain rfl:=rv.int;exact⟨_,rfl,g.val R (.int _) q⟩
 ·exact q.elim⟩
def uX:List D->(EV->Prop)->Prop
 | [.int i,.int j],Q=>Q (.val (.int (if j > i then j else i)))
 | _,_=>False
def lh:List D->(EV->Prop)->Prop
 | [.int i,.int j],Q=>Q (.val (.int (if j < i then j else i)))
 | _,_=>False
theorem LE (hh:S.hot=false:=by rfl):xu G k S (.builtin "max") uX:=⟨λ_=>_,λ_ _ ok=>xi (ok.calm hh),λY F H σd σ vs ds Qd Q R r q g=>by
 unfold uX at q
 split at q
 ·obtain⟨v,u,rfl,rv,ru⟩:=r.two
  obtain rfl:=rv.int;obtain rfl:=ru.int;exact⟨_,_,rfl,g.val R (.int _) q⟩
 ·exact q.elim⟩
theorem oI (hh:S.hot=false:=by rfl):xu G k S (.builtin "min") lh:=⟨λ_=>_,λ_ _ ok=>xj (ok.calm hh),λY F H σd σ vs ds Qd Q R r q g=>by
 unfold lh at q
 split at q
 ·obtain⟨v,u,rfl,rv,ru⟩:=r.two
  obtain rfl:=rv.int;obtain rfl:=ru.int;exact⟨_,_,rfl,g.val R (.int _) q⟩
 ·exact q.elim⟩
def yY:List D->(EV->Prop)->Prop
 | [.int i],Q=>Q (.val (.int i))
 | [.bl b],Q=>Q (.val (.int (if b then 1 else 0)))
 | _,_=>False
theorem IJ:xu G k S (.type "int") yY:=⟨λ_=>_,λ_ _ ok=>xk,λY F H σd σ vs ds Qd Q R r q g=>by
 unfold yY at q
 split at q
 ·obtain⟨v,rfl,rv⟩:=r.one
  obtain rfl:=rv.int;exact .inl ⟨_,rfl,g.val R (.int _) q⟩
 ·obtain⟨v,rfl,rv⟩:=r.one
  obtain rfl:=rv.bl;exact .inr ⟨_,rfl,g.val R (.int _) q⟩
 ·exact q.elim⟩
def qM:List D->(EV->Prop)->Prop
 | [.lst xs],Q=>Q (.own xs)
 | [.tup xs],Q=>Q (.own xs)
 | _,_=>False
theorem yZ:xu G k S (.type "list") qM:=⟨λK xs H Q=>∃ p ys,xs=[V.ref p]/\(SqL K H p ys\/SqT K H p ys)/\∀ l,H l=none->Q (.ref l) (bG H l (.lst ys)),λ_ _ ok=>oA,λY F H σd σ vs ds Qd Q R r q g=>by
 unfold qM at q
 split at q
 ·obtain⟨v,rfl,rv⟩:=r.one
  obtain⟨p,us,rfl,h1,h2⟩:=rv.lst;exact⟨p,us,rfl,.inl (.inl h1),g.own R h2 q⟩
 ·obtain⟨v,rfl,rv⟩:=r.one
  obtain⟨p,us,rfl,h1,h2⟩:=rv.tup R.fr;exact⟨p,us,rfl,.inr (.of h1),g.own R h2 q⟩
 ·exact q.elim⟩
def cF:List D->(EV->Prop)->Prop
 | [.lst xs],Q=>Q (.val (.tup xs))
 | [.tup xs],Q=>Q (.val (.tup xs))
 | _,_=>False
theorem cE:xu G k S (.type "tuple") cF:=⟨λK xs H Q=>∃ p ys,xs=[V.ref p]/\((SqL K H p ys/\∀ l,H l=none->Q (.ref l) (bG H l (.tup ys)))\/(SqT K H p ys/\Q (.ref p) H)),λ_ _ ok=>mK,λY F H σd σ vs ds Qd Q R r q g=>by
 unfold cF at q
 split at q
 ·obtain⟨v,rfl,rv⟩:=r.one
  obtain⟨p,us,rfl,h1,h2⟩:=rv.lst;exact⟨p,us,rfl,.inl ⟨.inl h1,g.tup R h2 q⟩⟩
 ·obtain⟨v,rfl,rv⟩:=r.one
  have rv':=rv;obtain⟨p,us,rfl,h1,h2⟩:=rv.tup R.fr;exact⟨p,us,rfl,.inr ⟨.of h1,g.val R rv' q⟩⟩
 ·exact q.elim⟩
end Vc


namespace Vc
open PySem L2
variable [KF]
variable {G:GE}{k:Nat}{S:Stat}

structure EndsD where
 nx:Sd->Prop
 rt:B->Sd->Prop
 bk:Sd->Prop:=λ_=>False
 ct:Sd->Prop:=λ_=>False
abbrev bQ:=EndsD->Sd->Prop
def RepB (Y:Dyn)(F H:Hp)(σd:Sd)(σ:St)(v:V):B->Prop
 | .sh d=>Rep F v d
 | .own xs=>∃ a vs,v=.ref a/\H a=some (.lst vs)/\RepL F vs xs/\F a=none/\Y.H0 a=none/\NoOwn σd σ a
 | .obj o=>∃ a,v=.ref a/\o.rep F H a/\∀ b∈o.fp a,F b=none/\H b≠none/\Y.H0 b=none/\NoOwn σd σ b
structure EndOk (Y:Dyn)(F:Hp)(De:EndsD)(Dn:Ends):Prop where
 nx:∀ σ H F' σd,Same F F'->RS Y F' σd σ H->De.nx σd->Dn.nx σ H
 rt:∀ v σ H F' σd b,Same F F'->RS Y F' σd σ H->RepB Y F' H σd σ v b->De.rt b σd->Dn.rt v H
 bk:∀ σ H F' σd,Same F F'->RS Y F' σd σ H->De.bk σd->Dn.bk σ H
 ct:∀ σ H F' σd,Same F F'->RS Y F' σd σ H->De.ct σd->Dn.ct σ H
theorem EndOk.mono {Y:Dyn}{F F':Hp}{De:EndsD}{Dn:Ends}(h:EndOk Y F De Dn)(s:Same F F'):EndOk Y F' De Dn :=
 ⟨λσ H F2 σd s2=>h.nx σ H F2 σd (s.trans s2),λv σ H F2 σd b s2=>h.rt v σ H F2 σd b (s.trans s2),λσ H F2 σd s2=>h.bk σ H F2 σd (s.trans s2),λσ H F2 σd s2=>h.ct σ H F2 σd (s.trans s2)⟩
def lS (Y:Dyn)(t:bQ):TS:=λDn σ H=>∃ F σd De,RS Y F σd σ H/\t De σd/\EndOk Y F De Dn
structure ES (G:GE)(k:Nat)(S:Stat)(st:Stmt)(t:bQ) :Prop where
 run:∀ X Y,XOk X G k S Y->PS X st (lS Y t)
instance {G:GE} {k:Nat} {S:Stat} {st:Stmt} {t:bQ} :CoeFun (ES G k S st t) λ_=>∀ X Y,XOk X G k S Y->PS X st (lS Y t):=⟨ES.run⟩
structure ESs (G:GE)(k:Nat)(S:Stat)(st:List Stmt)(t:bQ) :Prop where
 run:∀ X Y,XOk X G k S Y->PSs X st (lS Y t)
instance {G:GE} {k:Nat} {S:Stat} {st:List Stmt} {t:bQ} :CoeFun (ESs G k S st t) λ_=>∀ X Y,XOk X G k S Y->PSs X st (lS Y t):=⟨ESs.run⟩
section
variable {st:Stmt}{rest:List Stmt}{t u:bQ}{pos:Pos}
def gJ:bQ:=λDe σ=>De.nx σ
def bA (t u:bQ):bQ:=λDe σ=>t { De with nx:=u De } σ
theorem bR:ESs G k S [] gJ:=.mk λX Y ok=>oD uR λDn σ H q=>by
 obtain⟨F,σd,De,R,q,K⟩:=q;exact K.nx σ H F σd (Same.refl _) R q
theorem ar (h1:ES G k S st t)(h2:ESs G k S rest u):ESs G k S (st::rest) (bA t u):=.mk λX Y ok=>oD (qC (h1 X Y ok) (h2 X Y ok)) λDn σ H q=>by
 obtain⟨F,σd,De,R,q,K⟩:=q;refine⟨F,σd,_,R,q,⟨λσ' H' F' σd' s R' q'=>?_,K.rt,K.bk,K.ct⟩⟩;exact⟨F',σd',De,R',q',K.mono s⟩
theorem aI (h1:ES G k S st t):ESs G k S [st] t:=.mk λX Y ok=>kB (h1 X Y ok)
def qN:bQ:=λ_ _=>False
theorem fN:ES G k S st qN:=.mk λX Y ok=>ef yn λDn σ H q=>by
 obtain⟨F,σd,De,R,q,K⟩:=q;exact q
def cC (c:TB)(t u:bQ):bQ:=λDe σ=>c σ λb σ1=>if b=true then t De σ1 else u De σ1
theorem db {c:Expr}{a b:List Stmt}{tc:TB}(hc:EB G k S c tc)(ha:ESs G k S a t)(hb:ESs G k S b u):ES G k S (.If c a b pos) (cC tc t u):=.mk λX Y ok=>ef (ps_if (hc X Y ok) (ha X Y ok) (hb X Y ok)) λDn σ H q=>by
 obtain⟨F,σd,De,R,q,K⟩:=q;refine⟨F,σd,_,R,q,λb H1 F1 σ1 s1 R1 q1=>?_⟩;cases b with
 | true=>exact⟨F1,σ1,De,R1,q1,K.mono s1⟩
 | false=>exact⟨F1,σ1,De,R1,q1,K.mono s1⟩
def gc (t:TX):bQ:=λDe σ=>t σ λ_ σ1=>De.nx σ1
theorem bx {e:Expr}{te:TX}(he:EX G k S e te)(hs:∀ line env,swapsWith e none line env=pure false:=by intro _ _;rfl):ES G k S (.Expr e pos) (gc te):=.mk λX Y ok=>ef (uS (he X Y ok) (hs _ _)) λDn σ H q=>by
 obtain⟨F,σd,De,R,q,K⟩:=q;exact⟨F,σd,_,R,q,λv H1 F1 x σ1 s1 R1 r1 q1=>K.nx σ H1 F1 σ1 s1 R1 q1⟩
def du (ios:List Nat)(t:TX):bQ:=λDe σ=>t σ λx σ1=>match x with
 | .val d=>De.rt (.sh d) σ1
 | .own xs=>De.rt (.own xs) σ1
 | .obj o=>De.rt (.obj o) σ1
 | .any=>False
 | .var i=>match σ1[i]? with
  | some (some (.own xs))=>i∉ios/\De.rt (.own xs) (σ1.set i none)
  | some (some (.sh d))=>De.rt (.sh d) σ1
  | some (some (.obj o))=>ios=[]/\De.rt (.obj o) (σ1.set i none)
  | _=>False
theorem RS.forget {Y:Dyn}{F:Hp}{σd:Sd}{σ:St}{H:Hp}{i:Nat}{b:B}(R:RS Y F σd σ H)(e:σd[i]?=some (some b))(hio:∀ p∈Y.io,p.1≠i):RS Y F (σd.set i none) σ H where
 len:=by simpa using R.len
 lo:=R.lo
 fr:=R.fr
 fro:=R.fro
 old:=R.old
 sh:=λj d q=>by
  by_cases hj:j=i
  ·subst hj;rw[aZ e] at q;cases q
  ·rw[bp hj] at q;exact R.sh j d q
 own:=λj xs q=>by
  by_cases hj:j=i
  ·subst hj;rw[aZ e] at q;cases q
  ·rw[bp hj] at q;exact R.own j xs q
 dis:=λj l xs ys a q1 q2 q3 q4=>by
  have hj:j≠i:=λz=>by subst z;rw[aZ e] at q1;cases q1
  have hl:l≠i:=λz=>by subst z;rw[aZ e] at q2;cases q2
  rw[bp hj] at q1;rw[bp hl] at q2;exact R.dis j l xs ys a q1 q2 q3 q4
 io:=λp hp=>by
  obtain⟨w1,ys,w2⟩:=R.io p hp;exact⟨w1,ys,by rw[bp (hio p hp)];exact w2⟩
 ob:=R.ob.put (λ_ _=>rfl) (λ_ z=>nomatch z) λ_ _ z=>nomatch z
theorem RS.nio {Y:Dyn}{F:Hp}{σd:Sd}{σ:St}{H:Hp}{i:Nat}{xs:List D}(R:RS Y F σd σ H)(h:σd[i]?=some (some (.own xs)))(hio:∀ p∈Y.io,p.1≠i){a:Addr}(q1:σ[i]?=some (some (.ref a))):Y.H0 a=none/\a∉Y.ioL:=by
 obtain⟨b,vs,w1,w2,w3,w4,w5⟩:=R.own i xs h;rw[q1] at w1;cases w1;have nin:a∉Y.ioL:=λq5=>by
  obtain⟨p,hp,e⟩:=List.mem_map.mp q5;obtain⟨z1,ys,z2⟩:=R.io p hp;exact absurd (R.dis p.1 i ys xs a z2 h (by rw[z1,e]) q1) (hio p hp)
 rcases w5 with w5|w5
 ·exact⟨w5,nin⟩
 ·exact absurd w5 nin
theorem be {e:Expr}{te:TX}(he:EX G k S e te)(hblk:S.blk=false:=by rfl):ES G k S (.Return (some e) pos) (du S.ios te):=.mk λX Y ok=>ef (ps_ret (he X Y ok)) λDn σ H q=>by
 obtain⟨F,σd,De,R,q,K⟩:=q;refine⟨F,σd,_,R,q,λv H1 F1 x σ1 s1 R1 r1 q1=>?_⟩;cases x with
 | val d=>exact K.rt v σ H1 F1 σ1 (.sh d) s1 R1 r1 q1
 | own xs=>exact K.rt v σ H1 F1 σ1 (.own xs) s1 R1 r1 q1
 | obj o=>exact K.rt v σ H1 F1 σ1 (.obj o) s1 R1 r1 q1
 | any=>exact False.elim q1
 | var i =>
  have r1:σ[i]?=some (some v):=r1;dsimp only at q1
  split at q1
  ·rename_i xs e
   obtain⟨a,vs,w1,w2,w3,w4,w5⟩:=R1.own i xs e;rw[r1] at w1;cases w1;have hio:∀ p∈Y.io,p.1≠i:=λp hp z=>q1.1 (z ▸ ok.ios p hp);refine K.rt _ σ H1 F1 _ (.own xs) s1 (R1.forget e hio) ⟨a,vs,rfl,w2,w3,w4,(R1.nio e hio r1).1,⟨λj ys e2 z=>?_,λ⟨j,o,c,e2,e3,hm⟩=>?_⟩⟩ q1.2
   ·by_cases hj:j=i
    ·subst hj;rw[aZ e] at e2;cases e2
    ·rw[bp hj] at e2
     exact hj (R1.dis j i ys xs a e2 e z r1)
   ·have hj:j≠i:=λz=>by subst z;rw[aZ e] at e2;cases e2
    rw[bp hj] at e2;exact R1.ob.dsx i xs a e r1 ⟨j,o,c,e2,e3,hm⟩
  ·rename_i d e
   obtain⟨v2,e2,r2⟩:=R1.sh i d e;rw[r1] at e2;cases e2;exact K.rt v σ H1 F1 σ1 (.sh d) s1 R1 r2 q1
  ·rename_i o e
   obtain⟨a,w1,w2,w3⟩:=R1.ob.obj i o e;rw[r1] at w1;cases w1;have hob:=ok.obs hblk q1.1;have hio:∀ p∈Y.io,p.1≠i:=λp hp z=>by
    have:=ok.ios p hp;rw[q1.1] at this;cases this
   refine K.rt _ σ H1 F1 _ (.obj o) s1 (R1.forget e hio) ⟨a,rfl,w2,λb hb=>⟨(w3 b hb).1,(w3 b hb).2.1,?_,⟨λj ys e2 z=>?_,λ⟨j,o2,c,e2,e3,hm⟩=>?_⟩⟩⟩ q1.2
   ·rcases (w3 b hb).2.2 with z|z
    ·exact z
    ·rw[hob] at z;cases z
   ·have hj:j≠i:=λz=>by subst z;rw[aZ e] at e2;cases e2
    rw[bp hj] at e2;exact R1.ob.dsx j ys b e2 z ⟨i,o,a,e,r1,hb⟩
   ·have hj:j≠i:=λz=>by subst z;rw[aZ e] at e2;cases e2
    rw[bp hj] at e2;exact R1.ob.dso j i o2 o c a e2 e e3 r1 hj b hm hb
  ·exact q1.elim
end

theorem gs {α:Type}{l:List α}{i j:Nat}{x y:α}(h:(l.set i x)[j]?=some y):(j=i/\y=x)\/(j≠i/\l[j]?=some y):=by
 by_cases hj:j=i
 ·subst hj
  by_cases hl:j < l.length
  ·rw[List.getElem?_set_self hl] at h;exact .inl ⟨rfl,(Option.some.inj h).symm⟩
  ·have:(l.set j x)[j]?=none:=by rw[List.getElem?_eq_none_iff];simp;omega
   rw[this] at h;cases h
 ·rw[List.getElem?_set_ne (Ne.symm hj)] at h;exact .inr ⟨hj,h⟩
theorem bH {α:Type}{l:List α}{i j:Nat}{x:α}(h:j≠i):(l.set i x)[j]?=l[j]?:=List.getElem?_set_ne (Ne.symm h)
theorem jM {α:Type}{l:List α}{i:Nat}{x:α}(h:i < l.length):(l.set i x)[i]?=some x:=List.getElem?_set_self h
theorem za {α:Type}{l:List α}{i j:Nat}{x y:α}(h:(l.set i x)[j]?=some y):j < l.length:=by
 have:=(List.getElem?_eq_some_iff.mp h).1;simpa using this
theorem RS.setSh {Y:Dyn}{F:Hp}{σd:Sd}{σ:St}{H:Hp}{i:Nat}{d:D}{v:V}(R:RS Y F σd σ H)(r:Rep F v d)(hio:∀ p∈Y.io,p.1≠i):RS Y F (σd.set i (some (.sh d))) (σ.set i (some v)) H where
 len:=by simpa using R.len
 lo:=R.lo
 fr:=R.fr
 fro:=R.fro
 old:=R.old
 sh:=λj e q=>by
  rcases gs q with ⟨rfl,z⟩|⟨hj,q'⟩
  ·cases z
   exact⟨v,jM (by rw[<- R.len];exact za q),r⟩
  ·obtain⟨u,w1,w2⟩:=R.sh j e q'
   exact⟨u,by rw[bH hj];exact w1,w2⟩
 own:=λj xs q=>by
  rcases gs q with ⟨_,z⟩|⟨hj,q'⟩
  ·cases z
  ·obtain⟨a,vs,w1,w2⟩:=R.own j xs q'
   exact⟨a,vs,by rw[bH hj];exact w1,w2⟩
 dis:=λj l xs ys a q1 q2 q3 q4=>by
  rcases gs q1 with ⟨_,z⟩|⟨hj,q1⟩
  ·cases z
  rcases gs q2 with ⟨_,z⟩|⟨hl,q2⟩
  ·cases z
  rw[bH hj] at q3;rw[bH hl] at q4;exact R.dis j l xs ys a q1 q2 q3 q4
 io:=λp hp=>by
  obtain⟨w1,ys,w2⟩:=R.io p hp;exact⟨by rw[bH (hio p hp)];exact w1,ys,by rw[bH (hio p hp)];exact w2⟩
 ob:=R.ob.put (λ_ hj=>bH hj) (λ_ z=>nomatch z) λ_ _ z=>nomatch z
theorem RS.setOwn {Y:Dyn}{F:Hp}{σd:Sd}{σ:St}{H:Hp}{i:Nat}{xs:List D}{a:Addr}{vs:List V}(R:RS Y F σd σ H)(h1:H a=some (.lst vs))(h2:RepL F vs xs)(h3:F a=none)(h4:Y.H0 a=none)(h5:NoOwn σd σ a)
  (hio:∀ p∈Y.io,p.1≠i):RS Y F (σd.set i (some (.own xs))) (σ.set i (some (.ref a))) H where
 len:=by simpa using R.len
 lo:=R.lo
 fr:=R.fr
 fro:=R.fro
 old:=R.old
 sh:=λj e q=>by
  rcases gs q with ⟨_,z⟩|⟨hj,q'⟩
  ·cases z
  ·obtain⟨u,w1,w2⟩:=R.sh j e q'
   exact⟨u,by rw[bH hj];exact w1,w2⟩
 own:=λj ys q=>by
  rcases gs q with ⟨rfl,z⟩|⟨hj,q'⟩
  ·cases z
   exact⟨a,vs,jM (by rw[<- R.len];exact za q),h1,h2,h3,.inl h4⟩
  ·obtain⟨b,us,w1,w2⟩:=R.own j ys q'
   exact⟨b,us,by rw[bH hj];exact w1,w2⟩
 dis:=λj l ys zs b q1 q2 q3 q4=>by
  rcases gs q1 with ⟨rfl,z⟩|⟨hj,q1⟩
  ·rcases gs q2 with ⟨e,z⟩|⟨hl,q2⟩
   ·exact e.symm
   ·rw[bH hl] at q4
    rcases gs q3 with ⟨_,z3⟩|⟨hc,_⟩
    ·cases z3
     exact absurd q4 (h5 l zs q2)
    ·exact absurd rfl hc
  ·rw[bH hj] at q3
   rcases gs q2 with ⟨e2,z⟩|⟨hl,q2⟩
   ·rcases gs q4 with ⟨_,z4⟩|⟨hc,_⟩
    ·cases z4
     exact absurd q3 (h5 j ys (by assumption))
    ·exact absurd e2 hc
   ·rw[bH hl] at q4
    exact R.dis j l ys zs b (by assumption) q2 q3 q4
 io:=λp hp=>by
  obtain⟨w1,ys,w2⟩:=R.io p hp;exact⟨by rw[bH (hio p hp)];exact w1,ys,by rw[bH (hio p hp)];exact w2⟩
 ob:=R.ob.put (λ_ hj=>bH hj) (λ_ z=>nomatch z) λys b _ z=>by
  rcases gs z with ⟨_,z2⟩|⟨hc,_⟩
  ·cases z2;exact h5.nob
  ·exact absurd rfl hc
theorem RS.setObj {Y:Dyn}{F:Hp}{σd:Sd}{σ:St}{H:Hp}{i:Nat}{o:O}{a:Addr}(R:RS Y F σd σ H)(h1:o.rep F H a)(h2:∀ b∈o.fp a,F b=none/\H b≠none/\Y.H0 b=none/\NoOwn σd σ b)
  (hio:∀ p∈Y.io,p.1≠i):RS Y F (σd.set i (some (.obj o))) (σ.set i (some (.ref a))) H where
 len:=by simpa using R.len
 lo:=R.lo
 fr:=R.fr
 fro:=R.fro
 old:=R.old
 sh:=λj e q=>by
  rcases gs q with ⟨_,z⟩|⟨hj,q'⟩
  ·cases z
  ·obtain⟨u,w1,w2⟩:=R.sh j e q'
   exact⟨u,by rw[bH hj];exact w1,w2⟩
 own:=λj ys q=>by
  rcases gs q with ⟨_,z⟩|⟨hj,q'⟩
  ·cases z
  ·obtain⟨b,us,w1,w2⟩:=R.own j ys q'
   exact⟨b,us,by rw[bH hj];exact w1,w2⟩
 dis:=λj l ys zs b q1 q2 q3 q4=>by
  rcases gs q1 with ⟨_,z⟩|⟨hj,q1⟩
  ·cases z
  rcases gs q2 with ⟨_,z⟩|⟨hl,q2⟩
  ·cases z
  rw[bH hj] at q3;rw[bH hl] at q4;exact R.dis j l ys zs b q1 q2 q3 q4
 io:=λp hp=>by
  obtain⟨w1,ys,w2⟩:=R.io p hp;exact⟨by rw[bH (hio p hp)];exact w1,ys,by rw[bH (hio p hp)];exact w2⟩
 ob:=by
  have at':∀ {j:Nat} {c:Addr},j=i->(σ.set i (some (.ref a)))[j]?=some (some (.ref c))->c=a:=λ{j c} e z=>by
   subst e;rcases gs z with ⟨_,z2⟩|⟨hc,_⟩
   ·cases z2;rfl
   ·exact absurd rfl hc
  refine⟨λj p q=>?_,λj l p p2 c d q1 q2 q3 q4 hne x hx hx2=>?_,λj ys b q1 q2 ⟨l,p,c,q3,q4,hm⟩=>?_,R.ob.there,R.ob.thz,R.ob.tab⟩
  ·rcases gs q with ⟨rfl,z⟩|⟨hj,q'⟩
   ·cases z
    exact⟨a,jM (by rw[<- R.len];exact za q),h1,λb hb=>⟨(h2 b hb).1,(h2 b hb).2.1,.inl (h2 b hb).2.2.1⟩⟩
   ·obtain⟨c,w1,w2⟩:=R.ob.obj j p q'
    exact⟨c,by rw[bH hj];exact w1,w2⟩
  ·rcases gs q1 with ⟨e1,z⟩|⟨hj,q1'⟩
   ·cases z
    rcases gs q2 with ⟨e2,z⟩|⟨hl,q2'⟩
    ·exact hne (e1.trans e2.symm)
    ·rw[bH hl] at q4
     have:=at' e1 q3;subst this;exact (h2 x hx).2.2.2.nob ⟨l,p2,d,q2',q4,hx2⟩
   ·rw[bH hj] at q3
    rcases gs q2 with ⟨e2,z⟩|⟨hl,q2'⟩
    ·cases z
     have:=at' e2 q4;subst this;exact (h2 x hx2).2.2.2.nob ⟨j,p,c,q1',q3,hx⟩
    ·rw[bH hl] at q4
     exact R.ob.dso j l p p2 c d q1' q2' q3 q4 hne x hx hx2
  ·rcases gs q1 with ⟨_,z⟩|⟨hj,q1'⟩
   ·cases z
   rw[bH hj] at q2;rcases gs q3 with ⟨e3,z⟩|⟨hl,q3'⟩
   ·cases z
    have:=at' e3 q4;subst this;exact (h2 b hm).2.2.2 j ys q1' q2
   ·rw[bH hl] at q4
    exact R.ob.dsx j ys b q1' q2 ⟨l,p,c,q3',q4,hm⟩
def ZD (ios:List Nat)(i:Nat)(x:EV)(σ:Sd)(Q:Sd->Prop):Prop:=match x with
 | .val d=>Q (σ.set i (some (.sh d)))
 | .own xs=>Q (σ.set i (some (.own xs)))
 | .obj o=>Q (σ.set i (some (.obj o)))
 | .any=>False
 | .var j=>match σ[j]? with
  | some (some (.own xs))=>j∉ios/\Q ((σ.set j (some (.sh (.lst xs)))).set i (some (.sh (.lst xs))))
  | some (some (.sh d))=>Q (σ.set i (some (.sh d)))
  | _=>False
theorem nv {Y:Dyn}{F:Hp}{σd:Sd}{σ:St}{H:Hp}{i:Nat}{v:V}{x:EV}{ios:List Nat}{Q:Sd->Prop}(R:RS Y F σd σ H)(r:Lv Y F H σd σ v x)(hi:i∉ios)(hio:∀ p∈Y.io,p.1∈ios)(q:ZD ios i x σd Q) :
  ∃ F' σd',Same F F'/\RS Y F' σd' (σ.set i (some v)) H/\Q σd':=by
 have h0:∀ p∈Y.io,p.1≠i:=λp hp z=>hi (z ▸ hio p hp);cases x with
 | val d=>exact⟨F,_,Same.refl _,R.setSh r h0,q⟩
 | own xs =>
  obtain⟨a,vs,rfl,h1,h2,h3,h4,h5⟩:=r;exact⟨F,_,Same.refl _,R.setOwn h1 h2 h3 h4 h5 h0,q⟩
 | obj o =>
  obtain⟨a,rfl,h1,h2⟩:=r;exact⟨F,_,Same.refl _,R.setObj h1 h2 h0,q⟩
 | any=>exact False.elim q
 | var j =>
  have r:σ[j]?=some (some v):=r;unfold ZD at q;dsimp only at q
  split at q
  ·rename_i xs e
   obtain⟨F2,v2,s2,R2,e2,r2⟩:=R.freezeVar e λp hp z=>q.1 (z ▸ hio p hp);rw[r] at e2;cases e2;exact⟨F2,_,s2,R2.setSh r2 h0,q.2⟩
  ·rename_i d e
   obtain⟨v2,e2,r2⟩:=R.sh j d e;rw[r] at e2;cases e2;exact⟨F,_,Same.refl _,R.setSh r2 h0,q⟩
  ·exact q.elim
def cN (ios:List Nat)(i:Nat)(t:TX):bQ:=λDe σ=>t σ λx σ1=>ZD ios i x σ1 De.nx
theorem oJ {X:Cx}{Y:Dyn}(ok:XOk X G k S Y){x:Str}(h:S.sc.lookup x=some .local\/(S.sc.lookup x=some .cell/\S.blk=false)):L2.Loc X.env.scope x:=by
 unfold L2.Loc;rw[ok.sc];exact h.imp id (·.1)
theorem oK {X:Cx}{Y:Dyn}(ok:XOk X G k S Y){x:Str}(h:S.sc.lookup x=some .local\/(S.sc.lookup x=some .cell/\S.blk=false)):X.fn x=true\/X.env.scope.names.lookup x=some .local:=by
 rcases h with h|h
 ·right;rw[ok.sc];exact h
 ·left;exact ok.fn h.2 x h.1
theorem bf (i:Nat){x:Str}{e:Expr}{te:TX}{pos pos':Pos}(he:EX G k S e te)(hi:S.N[i]?=some x:=by rfl)(hx:S.sc.lookup x=some .local\/(S.sc.lookup x=some .cell/\S.blk=false):=by first|exact Or.inl rfl|exact Or.inr ⟨rfl,rfl⟩)(hn:i∉S.ios:=by first|decide|exact List.not_mem_nil)
  (hs:∀ line env,swapsWith e (some (.Name x pos')) line env=pure false:=by intro _ _;rfl):ES G k S (.Assign [.Name x pos'] e pos) (cN S.ios i te):=.mk λX Y ok =>
 ef (L2.ps_set (i:=i) (by rw[ok.N];exact ok.nd) (by rw[ok.N];exact hi) (oJ ok hx) (he X Y ok) (hs _ _) (oK ok hx)) λDn σ H q=>by
  obtain⟨F,σd,De,R,q,K⟩:=q;refine⟨F,σd,_,R,q,λv H1 F1 y σ1 s1 R1 r1 q1=>?_⟩;obtain⟨F2,σ2,s2,R2,q2⟩:=nv R1 r1 hn ok.ios q1;exact K.nx _ H1 F2 σ2 (s1.trans s2) R2 q2
theorem RS.write {Y:Dyn}{F:Hp}{σd:Sd}{σ:St}{H:Hp}{i:Nat}{xs ys:List D}{a:Addr}{us:List V}(R:RS Y F σd σ H)(e:σd[i]?=some (some (.own xs)))(h:σ[i]?=some (some (.ref a)))(r:RepL F us ys) :
  RS Y F (σd.set i (some (.own ys))) σ (bG H a (.lst us)):=by
 obtain⟨b,vs,w1,w2,w3,w4,w5⟩:=R.own i xs e;rw[h] at w1;cases w1;have hl:i < σd.length:=(List.getElem?_eq_some_iff.mp e).1;have hob:Obs Y F (σd.set i (some (.own ys))) σ (bG H a (.lst us)):=R.ob.step (Same.refl _) (λj o q=>by
  rcases gs q with ⟨_,z⟩|⟨hj,q⟩
  ·cases z
  ·exact⟨q,rfl⟩) (λb hb=>by
  obtain⟨z1,z2,z3⟩:=R.ob.owned hb;have hne:b≠a:=λz=>R.ob.dsx i xs a e h (z ▸ hb);exact⟨ao hne,z1,z3⟩) (λj zs b q1 q2=>by
  rcases gs q1 with ⟨e1,_⟩|⟨hj,q1⟩
  ·subst e1
   rw[h] at q2;cases q2;exact R.ob.dsx j xs a e h
  ·exact R.ob.dsx j zs b q1 q2) λb hb=>by
  by_cases hne:b=a
  ·rw[hne,aH];exact λz=>nomatch z
  ·rw[ao hne];exact R.ob.there b hb
 refine⟨by simpa using R.len,R.lo,λb o q=>?_,R.fro,λb o q n=>?_,λj d q=>?_,λj zs q=>?_,λj l zs qs b q1 q2 q3 q4=>?_,λp hp=>?_,hob⟩
 ·have:b≠a:=λz=>by rw[z,w4] at q;cases q
  rw[ao this];exact R.fr b o q
 ·have:b≠a:=λz=>by
   subst z;rcases w5 with w5|w5
   ·rw[w5] at q;cases q
   ·exact Dyn.ioL_sub n w5
  rw[ao this];exact R.old b o q n
 ·rcases gs q with ⟨_,z⟩|⟨hj,q⟩
  ·cases z
  ·exact R.sh j d q
 ·rcases gs q with ⟨rfl,z⟩|⟨hj,q⟩
  ·cases z
   exact⟨a,us,h,aH,r,w4,w5⟩
  ·obtain⟨b,ws,z1,z2,z3,z4,z5⟩:=R.own j zs q
   have:b≠a:=λz=>hj (R.dis j i zs xs a q e (z ▸ z1) h);exact⟨b,ws,z1,by rw[ao this];exact z2,z3,z4,z5⟩
 ·have f:∀ {m:Nat} {ms:List D},(σd.set i (some (B.own ys)))[m]?=some (some (B.own ms))->∃ ms',σd[m]?=some (some (B.own ms')):=λ{m ms} q=>by
   rcases gs q with ⟨rfl,z⟩|⟨hj,q⟩
   ·exact⟨xs,e⟩
   ·exact⟨_,q⟩
  obtain⟨_,q1⟩:=f q1;obtain⟨_,q2⟩:=f q2;exact R.dis j l _ _ b q1 q2 q3 q4
 ·obtain⟨z1,zs,z2⟩:=R.io p hp
  refine⟨z1,?_⟩
  by_cases hp':p.1=i
  ·exact⟨ys,by rw[hp',jM hl]⟩
  ·exact⟨zs,by rw[bH hp'];exact z2⟩
def uY (σ:Sd)(i:Nat):Prop:=∃ xs,σ[i]?=some (some (B.own xs))
def LF (i:Nat)(d:D)(σ:Sd)(Q:Sd->Prop):Prop:=match σ[i]? with
 | some (some (.own xs))=>xs.length < sizeLine/\Q (σ.set i (some (.own (xs++[d]))))
 | _=>False
def mO (to:TV)(te:TD):TX:=λσ Q=>to σ λx σ1=>match x with
 | .var i=>uY σ1 i/\te σ1 λd σ2=>LF i d σ2 λσ3=>Q (.val .non) σ3
 | _=>False
theorem eC {o e:Expr}{to:TV}{te:TD}{apos cpos:Pos}(ho:EO G k S o to)(he:ED G k S e te)(hb:∀ env,attributeBase o "append" env (eval o env)=eval o env:=by intro _;rfl)
  (hfew:∀ env,((backTo cpos (starEach [e] env)).all (λx=>!x.1)&&(backToKw cpos (keywordEach [] env)).all (λx=>x.1.isSome)&&decide (([e]:List Expr).length+([]:List Keyword).length+(if ([]:List Keyword).isEmpty then 0 else 1) < 30))=true:=by intro _;rfl)
  (hline:(apos.endLine==cpos.line)=true:=by rfl) (hs:∀ env,starEach [e] env=[(false,eval e env)]:=by intro _;rfl):EX G k S (.Call (.Attribute o "append" apos) [e] [] cpos) (mO to te):=.mk λX Y ok=>by
 have ha:PA X [e] (ge (lD Y te) om):=pa_cons (he X Y ok) pa_nil (by rw[hs];rfl)
 refine br (yF F.plainAttrs_list F.slot_list_append F.type_list_append jl (ho X Y ok) ha (hb _) (hfew _) hline (by rw[hs];rfl) (by rfl)) λσ H Q q=>?_
 obtain⟨F,σd,Qd,R,q,K⟩:=q;refine⟨F,σd,_,R,q,λv1 H1 F1 x σ1 s1 R1 r1 q1=>?_⟩;cases x with
 | val d=>exact q1.elim
 | any=>exact q1.elim
 | var i =>
  obtain⟨⟨ys,e0⟩,q1⟩:=q1;have r1:σ[i]?=some (some v1):=r1;obtain⟨a,vs,w1,w2,w3,w4,w5⟩:=R1.own i ys e0;rw[r1] at w1;cases w1;refine⟨.inl ⟨rfl,vs,.of w2⟩,F1,σ1,_,R1,q1,λv2 H2 F2 d σ2 s2 R2 r2 q2=>?_⟩;unfold LF at q2
  split at q2
  ·rename_i xs e2
   obtain⟨b,us,z1,z2,z3,z4,z5⟩:=R2.own i xs e2;rw[r1] at z1;cases z1;exact⟨a,us,v2,rfl,rfl,z2,by rw[z3.length];exact q2.1,K .non _ F2 (.val .non) _ (s1.trans s2) (R2.write e2 r1 (z3.append (.cons r2 .nil))) .non q2.2⟩
  ·exact q2.elim
end Vc


namespace Vc
open PySem L2
variable [KF]
variable {G:GE}{k:Nat}{S:Stat}

abbrev aQ:=List D->(B->Prop)->Prop
def LG (H F H':Hp)(v:V):B->Prop
 | .sh d=>Rep F v d
 | .own xs=>∃ a vs,v=.ref a/\H' a=some (.lst vs)/\RepL F vs xs/\F a=none/\H a=none
 | .obj o=>∃ a,v=.ref a/\o.rep F H' a/\∀ b∈o.fp a,F b=none/\H' b≠none/\H b=none
def tX (sp:aQ):Sp:=λvs H Q _=>∃ F ds Qd,qI F H/\RepL F vs ds/\sp ds Qd /\
 ∀ v H' F' b,Same F F'->Same F' H'->Same H H'->(∀ c o,F' c=some o->F c=some o\/H c=none)->LG H F' H' v b->Qd b->Q v H'
theorem RS.call {Y:Dyn}{F F':Hp}{σd:Sd}{σ:St}{H H':Hp}(R:RS Y F σd σ H)(s1:Same F F')(s2:Same F' H')(s3:Same H H')(fr:∀ c o,F' c=some o->F c=some o\/H c=none):RS Y F' σd σ H' where
 len:=R.len
 lo:=R.lo.trans s1
 fr:=s2
 fro:=λb o e=>by
  rcases fr b o e with h|h
  ·exact R.fro b o h
  ·exact .inr (R.fresh0 h).1
 old:=λb o e n=>s3 b o (R.old b o e n)
 sh:=λi d e=>by
  obtain⟨v,h1,h2⟩:=R.sh i d e;exact⟨v,h1,h2.mono s1⟩
 own:=λi xs e=>by
  obtain⟨a,vs,h1,h2,h3,h4,h5⟩:=R.own i xs e;refine⟨a,vs,h1,s3 a _ h2,h3.mono s1,?_,h5⟩;cases q:F' a with
  | none=>rfl
  | some o =>
   rcases fr a o q with h|h
   ·rw[h4] at h;cases h
   ·rw[h2] at h;cases h
 dis:=R.dis
 io:=R.io
 ob:=by
  have up:∀ b,H b≠none->H' b=H b:=λb hb=>by
   cases q:H b with
   | none=>exact absurd q hb
   | some o=>exact s3 b o q
  refine R.ob.step s1 (λ_ _ e=>⟨e,rfl⟩) (λb hb=>?_) R.ob.dsx λb hb=>by rw[up b (R.ob.there b hb)];exact R.ob.there b hb
  obtain⟨w1,w2,w3⟩:=R.ob.owned hb;refine⟨up b w2,?_,w3⟩;cases q:F' b with
  | none=>rfl
  | some o =>
   rcases fr b o q with h|h
   ·rw[w1] at h;cases h
   ·exact absurd h w2
def FnG (G:GE)(k:Nat)(x:Str)(sp:aQ):Prop:=∃ f fd ps,FnOk G.P G.w G.K G.mg G.base km k f fd ps (tX sp)/\G.mg x=some (.ref f)/\PySem.W.keepIn G.K (.ref f)=true/\Binds G.K fd ps []
theorem FnG.mono {x:Str}{sp:aQ}{j:Nat}(h:FnG G j x sp)(l:j<=k):FnG G k x sp:=by
 obtain⟨f,fd,ps,h1,h2,h3,h4⟩:=h;exact⟨f,fd,ps,h1.mono l,h2,h3,h4⟩
def bE:B->EV
 | .sh d=>.val d
 | .own xs=>.own xs
 | .obj o=>.obj o
def Cl (sp:aQ)(ds:List D)(Q:B->Prop):Prop:=sp ds Q
def bJ (sp:aQ)(t:eB):TX:=λσ Q=>t σ λds σ1=>Cl sp ds λb=>Q (bE b) σ1
theorem au {x:Str}{sp:aQ}{e:Expr}{es:List Expr}{t:eB}{p pos:Pos}(h:FnG G k x sp)(ha:EDs G k S (e::es) t)(hg:S.sc.lookup x=some .globalImplicit:=by rfl)(hdb:(x==("__debug__":Str))=false:=by decide)
  (he:∀ env,starEach (e::es) env=(false,eval e env)::starEach es env:=by exact λ_=>Vc.se_cons rfl) (hpl:∀ env,(backTo pos (starEach es env)).any (·.1)=false:=by intro _;rfl) (hh:S.hot=false:=by rfl):EX G k S (.Call (.Name x p) (e::es) [] pos) (bJ sp t):=.mk λX Y ok=>by
 obtain⟨f,fd,ps,h1,h2,h3,h4⟩:=h;have h1':FnOk X.prog X.w X.K X.mg X.base km k f fd ps (tX sp):=by rw[ok.P,ok.w,ok.K,ok.mg,ok.base];exact h1
 refine br (on (E:=E0) (dvs:=[]) (ds:=[]) h1' (ok.room hh) (dG ok hg) (by rw[ok.mg];exact h2) (by rw[ok.K];exact h3) (by rw[ok.K];exact h4) .nil yH (ha X Y ok) hdb (he _) (hpl _)) λσ H Q q=>?_
 obtain⟨F,σd,Qd,R,q,K⟩:=q;refine⟨F,σd,_,R,q,λvs H1 F1 ds σ1 s1 R1 r1 q1=>?_⟩;show tX sp (vs++[]) H1 Q E0;rw[List.append_nil];refine⟨F1,ds,_,⟨R1.fr,R1.ob.tab⟩,r1,q1,λv H' F' b s2 s3 s4 fr r2 q2=>?_⟩;have R2:=R1.call s2 s3 s4 fr;cases b with
 | sh d=>exact K v H' F' (.val d) σ1 (s1.trans s2) R2 r2 q2
 | own xs =>
  obtain⟨a,us,rfl,w1,w2,w3,w4⟩:=r2;refine K _ H' F' (.own xs) σ1 (s1.trans s2) R2 ⟨a,us,rfl,w1,w2,w3,(R1.fresh0 w4).1,R1.noFresh w4⟩ q2
 | obj o =>
  obtain⟨a,rfl,w1,w2⟩:=r2;exact K _ H' F' (.obj o) σ1 (s1.trans s2) R2 ⟨a,rfl,w1,λb hb=>⟨(w2 b hb).1,(w2 b hb).2.1,(R1.fresh0 (w2 b hb).2.2).1,R1.noFresh (w2 b hb).2.2⟩⟩ q2

def aJ (n:Nat)(ds:List D):Sd:=ds.map (λd=>some (.sh d))++List.replicate (n - ds.length) none
theorem li {F:Hp}:∀ {vs:List V} {ds:List D} (m:Nat) {i:Nat} {d:D},RepL F vs ds->(ds.map (λd=>some (B.sh d))++List.replicate m none)[i]?=some (some (.sh d))->∃ v,(vs.map some++List.replicate m none)[i]?=some (some v)/\Rep F v d
 | [],[],m,i,d,.nil,e=>by
  simp only[List.map_nil,List.nil_append,List.getElem?_replicate] at e
  split at e<;>cases e
 | v::vs,x::ds,m,0,d,.cons r t,e=>by
  simp at e;subst e;exact⟨v,by simp,r⟩
 | v::vs,x::ds,m,i+1,d,.cons r t,e=>by
  obtain⟨u,h1,h2⟩:=li (i:=i) m t (by simpa using e)
  exact⟨u,by simpa using h1,h2⟩
theorem eD:∀ (ds:List D) (m i:Nat) (xs:List D),(ds.map (λd=>some (B.sh d))++List.replicate m none)[i]?≠some (some (.own xs))
 | [],m,i,xs=>by
  simp only[List.map_nil,List.nil_append,List.getElem?_replicate];intro e
  split at e<;>cases e
 | x::ds,m,0,xs=>by simp
 | x::ds,m,i+1,xs=>by
  have:=eD ds m i xs;simpa using this
theorem jp:∀ (ds:List D) (m i:Nat) (o:O),(ds.map (λd=>some (B.sh d))++List.replicate m none)[i]?≠some (some (.obj o))
 | [],m,i,o=>by
  simp only[List.map_nil,List.nil_append,List.getElem?_replicate];intro e
  split at e<;>cases e
 | x::ds,m,0,o=>by simp
 | x::ds,m,i+1,o=>by
  have:=jp ds m i o;simpa using this
theorem RS.start {F H:Hp}{vs:List V}{ds:List D}(n:Nat)(s:qI F H)(r:RepL F vs ds):RS ⟨H,F,[],[]⟩ F (aJ n ds) (vs.map some++List.replicate (n - vs.length) none) H where
 len:=by unfold aJ;simp [r.length]
 lo:=Same.refl _
 fr:=s.1
 fro:=λb o e=>.inl e
 old:=λb o e _=>e
 sh:=λi d e=>by
  rw[r.length];exact li _ r e
 own:=λi xs e=>absurd e (eD _ _ _ _)
 dis:=λi j xs ys a e=>absurd e (eD _ _ _ _)
 io:=λp hp=>absurd hp (by simp)
 ob:=.none (λi o=>jp _ _ _ _) s.2 λb hb=>by cases hb
theorem IK {x qual:Str}{st:Stmt}{f:Addr}{fd:FuncData}{N ps:List Str}{sp:aQ}{t:bQ}(hK:G.K=KF.K)(Fn:Fun G.K x qual st f fd)(Sc:FnScope N ps (af st))(ht:ESs G k ⟨N,(af st).names,[],false,false,false,λ_ _=>False⟩ (ak st) t)
  (len:∀ ds Q,sp ds Q->ds.length=ps.length)
  (body:∀ ds Q,sp ds Q->t { nx:=λ_=>Q (.sh .non),rt:=λb _=>Q b } (aJ N.length ds)):FnOk G.P G.w G.K G.mg G.base km (k+1) f fd ps (tX sp):=by
 refine Fn.ok Sc (λvs H Q E h=>?_) (λcdv A outer s H vs Q E hr h=>?_)
 ·obtain⟨F,ds,Qd,s,r,q,K⟩:=h
  rw[r.length];exact len _ _ q
 ·obtain⟨F,ds,Qd,sm,r,q,K⟩:=h
  refine⟨_,ht (jj km G.P G.w G.K G.mg G.base N qual (af st) f cdv A outer s H E).nox ⟨H,F,[],[]⟩ ⟨rfl,rfl,rfl,hK,rfl,rfl,rfl,rfl,Sc.nd,λp hp=>absurd hp (by simp),λ_ _=>rfl,λ_=>rfl,Sc.kind,λ_ _ _=>rfl,λ_=>hr.hd,hr.dp,hr.un,λ_=>PassesOwn.never,λ_=>⟨rfl,rfl,rfl⟩,λ_ _ h=>h.elim,λh=>nomatch h⟩,F,aJ N.length ds,_,RS.start _ sm r,body ds Qd q,?_⟩
  have same:∀ {F':Hp} {σd:Sd} {σ:St} {H':Hp},RS ⟨H,F,[],[]⟩ F' σd σ H'->Same H H':=λR b o e=>R.old b o e (by simp [Dyn.ioA])
  refine⟨λσ H' F' σd s' R' q'=>?_,λv σ H' F' σd b s' R' r' q'=>?_,λ_ _ _ _ _ _ h=>h.elim,λ_ _ _ _ _ _ h=>h.elim⟩
  ·exact K .non H' F' (.sh .non) s' R'.fr (same R') R'.fro .non q'
  ·refine K v H' F' b s' R'.fr (same R') R'.fro ?_ q'
   cases b with
   | sh d=>exact r'
   | own xs =>
    obtain⟨a,us,rfl,w1,w2,w3,w4,w5⟩:=r';exact⟨a,us,rfl,w1,w2,w3,w4⟩
   | obj o =>
    obtain⟨a,rfl,w1,w2⟩:=r';exact⟨a,rfl,w1,λb hb=>⟨(w2 b hb).1,(w2 b hb).2.1,(w2 b hb).2.2.1⟩⟩
end Vc


namespace Vc
open PySem L2
variable [KF]
variable {G:GE}{k:Nat}{S:Stat}

abbrev lj:=D->Sd->(Sd->Prop)->Prop
def lG (Y:Dyn)(g:lj):TG:=λv σ H Q=>∃ F σd d Qd,RS Y F σd σ H/\Rep F v d/\g d σd Qd/\∀ σ' H' F' σd',Same F F'->RS Y F' σd' σ' H'->Qd σd'->Q σ' H'
structure EG (G:GE)(k:Nat)(S:Stat)(tg:Expr)(g:lj) :Prop where
 run:∀ X Y,XOk X G k S Y->PG X tg (lG Y g)
instance {G:GE} {k:Nat} {S:Stat} {tg:Expr} {g:lj} :CoeFun (EG G k S tg g) λ_=>∀ X Y,XOk X G k S Y->PG X tg (lG Y g):=⟨EG.run⟩
theorem zb {X:Cx}{e:Expr}{t t':TG}(h:PG X e t)(i:∀ v σ H Q,t' v σ H Q->t v σ H Q):PG X e t':=λpins s σ H v u Q I r q=>h pins s σ H v u Q I r (i v σ H Q q)
def cO (i:Nat):lj:=λd σ Q=>Q (σ.set i (some (.sh d)))
theorem aP (i:Nat){x:Str}{pos:Pos}(hi:S.N[i]?=some x:=by rfl)(hx:S.sc.lookup x=some .local\/(S.sc.lookup x=some .cell/\S.blk=false):=by first|exact Or.inl rfl|exact Or.inr ⟨rfl,rfl⟩)(hn:i∉S.ios:=by first|decide|exact List.not_mem_nil):EG G k S (.Name x pos) (cO i):=.mk λX Y ok =>
 zb (pg_name (i:=i) (by rw[ok.N];exact ok.nd) (by rw[ok.N];exact hi) (oJ ok hx) (oK ok hx)) λv σ H Q q=>by
  obtain⟨F,σd,d,Qd,R,r,q,K⟩:=q;exact K _ H F _ (Same.refl _) (R.setSh r λp hp z=>hn (z ▸ ok.ios p hp)) q
abbrev oM:=List D->Sd->(Sd->Prop)->Prop
def lGs (Y:Dyn)(g:oM):IA:=λvs σ H Q=>∃ F σd ds Qd,RS Y F σd σ H/\RepL F vs ds/\g ds σd Qd/\∀ σ' H' F' σd',Same F F'->RS Y F' σd' σ' H'->Qd σd'->Q σ' H'
structure EGs (G:GE)(k:Nat)(S:Stat)(ts:List Expr)(g:oM) :Prop where
 run:∀ X Y,XOk X G k S Y->Vd X ts (lGs Y g)
instance {G:GE} {k:Nat} {S:Stat} {ts:List Expr} {g:oM} :CoeFun (EGs G k S ts g) λ_=>∀ X Y,XOk X G k S Y->Vd X ts (lGs Y g):=⟨EGs.run⟩
def tY:oM:=λds σ Q=>match ds with
 | []=>Q σ
 | _=>False
def gC (g:lj)(u:oM):oM:=λds σ Q=>match ds with
 | d::r=>g d σ λσ1=>u r σ1 Q
 | []=>False
theorem ei:EGs G k S [] tY:=.mk λX Y ok pins s σ H vs us Q I r q=>Gr pins s σ H vs us Q I r (by
 obtain⟨F,σd,ds,Qd,R,rr,q,K⟩:=q;cases rr with
 | nil=>exact⟨rfl,K σ H F σd (Same.refl _) R q⟩
 | cons _ _=>exact q.elim)
theorem bw {e:Expr}{es:List Expr}{g:lj}{u:oM}(h1:EG G k S e g)(h2:EGs G k S es u)(hs:∀ env,(assignEach (e::es) env).map (·.2)=assign e env::(assignEach es env).map (·.2):=by intro _;rfl):EGs G k S (e::es) (gC g u):=.mk λX Y ok pins s σ H vs us Q I r q =>
 yo (h1 X Y ok) (h2 X Y ok) (hs _) pins s σ H vs us Q I r (by
  obtain⟨F,σd,ds,Qd,R,rr,q,K⟩:=q;cases rr with
  | nil=>exact q.elim
  | cons r1 rs =>
   refine⟨_,_,rfl,F,σd,_,_,R,r1,q,λσ1 H1 F1 σd1 s1 R1 q1=>?_⟩;exact⟨F1,σd1,_,_,R1,rs.mono s1,q1,λσ2 H2 F2 σd2 s2 R2 q2=>K σ2 H2 F2 σd2 (s1.trans s2) R2 q2⟩)
def tZ (n:Nat)(u:oM):lj:=λd σ Q=>match d with
 | .tup xs=>xs.length=n/\u xs σ Q
 | _=>False
theorem gj {es:List Expr}{kk:Nat}{u:oM}{n:Nat}{pos:Pos}(h:EGs G k S es u)(hn:∀ env,(assignEach es env).length=n:=by intro _;rfl)(hst:∀ env,(assignEach es env).findIdx? (·.1)=none:=by intro _;rfl)(hh:S.hot=false:=by rfl):EG G k S (.Tuple es kk pos) (tZ n u):=.mk λX Y ok =>
 zb (La (ok.calm hh) (h X Y ok) (hn _) (hst _)) λv σ H Q q=>by
  obtain⟨F,σd,d,Qd,R,r,q,K⟩:=q;cases d with
  | tup xs =>
   cases r with
   | tup hf rl =>
    exact⟨_,_,rfl,.of (R.fr _ _ hf),by rw[rl.length];exact q.1,F,σd,xs,Qd,R,rl,q.2,K⟩
  | _=>exact q.elim

def Grow (F1 H1 F2 H2:Hp):Prop:=(F2=F1/\H2=H1)\/∃ p o,H1 p=none/\F2=bG F1 p o/\H2=bG H1 p o
theorem Grow.same {F1 H1 F2 H2:Hp}(g:Grow F1 H1 F2 H2)(s:Same F1 H1):Same F1 F2:=by
 rcases g with ⟨rfl,rfl⟩|⟨p,o,h,rfl,rfl⟩
 ·exact Same.refl _
 ·exact aM (bq s h)
theorem Grow.rs {Y:Dyn}{F1 H1 F2 H2:Hp}{σd:Sd}{σ:St}(g:Grow F1 H1 F2 H2)(R:RS Y F1 σd σ H1):RS Y F2 σd σ H2:=by
 rcases g with ⟨rfl,rfl⟩|⟨p,o,h,rfl,rfl⟩
 ·exact R
 ·exact R.alloc h
def ItRep (F:Hp)(J:It)(items:List D):Prop:=∀ F1 H1,Same F F1->Same F1 H1->∀ i:Nat,
 (∀ x,items[i]?=some x->J.go i H1/\∀ v H2,J.yld i H1 v H2->∃ F2,Grow F1 H1 F2 H2/\Rep F2 v x)/\(i=items.length->J.stop i H1)
theorem ItRep.mono {F F':Hp}{J:It}{items:List D}(h:ItRep F J items)(s:Same F F'):ItRep F' J items:=λF1 H1 s1=>h F1 H1 (s.trans s1)
def lI (Y:Dyn)(t:eB):TI:=λσ H R=>∃ F σd Qd,RS Y F σd σ H/\t σd Qd/\∀ H' F' σd' J items,Same F F'->RS Y F' σd' σ H'->ItRep F' J items->Qd items σd'->R J H'
structure EI (G:GE)(k:Nat)(S:Stat)(tg iter:Expr)(t:eB) :Prop where
 run:∀ X Y,XOk X G k S Y->PI X tg iter (lI Y t)
instance {G:GE} {k:Nat} {S:Stat} {tg iter:Expr} {t:eB} :CoeFun (EI G k S tg iter t) λ_=>∀ X Y,XOk X G k S Y->PI X tg iter (lI Y t):=⟨EI.run⟩
theorem lq {X:Cx}{tg e:Expr}{t t':TI}(h:PI X tg e t)(i:∀ σ H Q,t' σ H Q->t σ H Q):PI X tg e t':=λpins s σ H Q I q=>h pins s σ H Q I (i σ H Q q)
theorem zc {X:Cx}{tg l:Expr}{tl:TE}(hl:PE X l tl):PI X tg l (λσ H R=>tl σ H λx H1=>(∃ a,x=.ref a/\(∃ xs,SqL X.K H1 a xs)/\R (Zx X.K a) H1)\/(∃ a,x=.ref a/\(∃ xs,SqT X.K H1 a xs)/\R (ZW X.K a) H1)):=by
 intro pins s σ H R I h;refine cr (hl pins s σ H _ I h) λv s1 ⟨x,H1,I1,r1,q1⟩=>?_;rcases q1 with ⟨a,e,⟨xs,hq⟩,q⟩|⟨a,e,⟨xs,hq⟩,q⟩
 ·subst e
  cases r1;obtain⟨its,rv,p,hz⟩:=I1.list hq;refine wpAny_pyIter_list p.isList ?_;refine⟨s1.heap.objs.size,[s1.heap.objs.size],_,_,H1,rfl,I1.kept (t':=s1.toks) λb o e=>Heap.get?_push_of_some _ e,xc a _,⟨_,Heap.get?_push_size _ rfl,rfl,rfl⟩,λb hb=>?_,q⟩;have e:b=s1.heap.objs.size:=by simpa using hb
  subst e;exact I1.fpOk (Nat.le_refl _) (I1.hok.fresh (Nat.le_refl _))
 ·subst e
  cases r1;obtain⟨its,rv,p,hz⟩:=I1.tuple hq;refine wpAny_pyIter_tuple (show s1.heap.IsTuple a its.toArray from p) ?_
  refine⟨s1.heap.objs.size,[s1.heap.objs.size],_,_,H1,rfl,I1.kept (t':=s1.toks) λb o e=>Heap.get?_push_of_some _ e,tJ a _,⟨_,Heap.get?_push_size _ rfl,rfl,rfl⟩,λb hb=>?_,q⟩;have e:b=s1.heap.objs.size:=by simpa using hb
  subst e;exact I1.fpOk (Nat.le_refl _) (I1.hok.fresh (Nat.le_refl _))
theorem GT {K:PySem.W.Frag}{F:Hp}{a:Addr}{vs:List V}{xs:List D}(h:Rd F a (.lst vs))(r:RepL F vs xs):ItRep F (Zx K a) xs:=λF1 H1 s1 s2 i=>by
 have hs:SqL K H1 a vs:=.inl (Rd.mono (s1.trans s2) h);refine⟨λx e=>?_,λhl=>⟨vs,hs,by rw[r.length,hl];exact Nat.le_refl _⟩⟩
 obtain⟨v,e1,r1⟩:=r.get e;refine⟨⟨vs,v,hs,e1⟩,λv2 H2 y=>?_⟩;obtain⟨rfl,y⟩:=y;have:=y vs hs;rw[e1] at this;cases this;exact⟨F1,.inl ⟨rfl,rfl⟩,r1.mono s1⟩
theorem GU {K:PySem.W.Frag}{F:Hp}{a:Addr}{vs:List V}{xs:List D}(h:F a=some (.tup vs))(r:RepL F vs xs):ItRep F (ZW K a) xs:=λF1 H1 s1 s2 i=>by
 have hs:SqT K H1 a vs:=.of (s2 _ _ (s1 _ _ h));refine⟨λx e=>?_,λhl=>⟨vs,hs,by rw[r.length,hl];exact Nat.le_refl _⟩⟩
 obtain⟨v,e1,r1⟩:=r.get e;refine⟨⟨vs,v,hs,e1⟩,λv2 H2 y=>?_⟩;obtain⟨rfl,y⟩:=y;have:=y vs hs;rw[e1] at this;cases this;exact⟨F1,.inl ⟨rfl,rfl⟩,r1.mono s1⟩
def bI (t:TD):eB:=λσ Q=>t σ λd σ1=>match d with
 | .lst xs=>Q xs σ1
 | .tup xs=>Q xs σ1
 | _=>False
theorem cJ {tg l:Expr}{t:TD}(h:ED G k S l t):EI G k S tg l (bI t):=.mk λX Y ok=>lq (zc (h X Y ok)) λσ H Q q=>by
 obtain⟨F,σd,Qd,R,q,K⟩:=q;refine⟨F,σd,_,R,q,λv H1 F1 d σ1 s1 R1 r1 q1=>?_⟩;cases d with
 | lst xs =>
  cases r1 with
  | lst hf rl=>exact .inl ⟨_,rfl,⟨_,.inl (Rd.mono R1.fr hf)⟩,K H1 F1 σ1 _ xs s1 R1 (GT hf rl) q1⟩
 | tup xs =>
  cases r1 with
  | tup hf rl=>exact .inr ⟨_,rfl,⟨_,.of (R1.fr _ _ hf)⟩,K H1 F1 σ1 _ xs s1 R1 (GU hf rl) q1⟩
 | _=>exact q1.elim
def mP (lo:Int)(n:Nat):List D:=(List.range n).map λi=>.int (lo+(i:Nat))
theorem uZ {F:Hp}(lo:Int)(n:Nat):ItRep F (Vp lo n) (mP lo n):=λF1 H1 s1 s2 i=>by
 refine⟨λx e=>?_,λhl=>?_⟩
 ·unfold mP at e
  rw[List.getElem?_map] at e;have hi:i < n:=by
   by_cases hi:i < n
   ·exact hi
   ·rw[List.getElem?_eq_none_iff.mpr (by simpa using hi)] at e;cases e
  rw[List.getElem?_range hi] at e;cases e;refine⟨hi,λv H2 y=>?_⟩;obtain⟨rfl,rfl⟩:=y;exact⟨F1,.inl ⟨rfl,rfl⟩,.int _⟩
 ·unfold mP at hl
  rw[List.length_map,List.length_range] at hl;exact Nat.le_of_eq hl.symm
def ko (t:tH):eB:=λσ Q=>t σ λxs σ1=>match drfs σ1 xs with
 | some [.int j]=>(-(2^62)<=j/\j < 2^62)/\Q (mP 0 j.toNat) σ1
 | _=>False
def GV (t:tH):eB:=λσ Q=>t σ λxs σ1=>match drfs σ1 xs with
 | some [.int i,.int j]=>(-(2^62)<=i/\i < 2^62/\-(2^62)<=j/\j < 2^62)/\Q (mP i (j - i).toNat) σ1
 | _=>False
theorem eO {tg a:Expr}{t:tH}{p pos:Pos}(h:EOs G k S [a] t)(hm:G.mg "range"=none)(hg:S.sc.lookup ("range":Str)=some .globalImplicit:=by rfl)(hs:∀ env,starEach [a] env=[(false,eval a env)]:=by intro _;rfl):EI G k S tg (.Call (.Name "range" p) [a] [] pos) (ko t):=.mk λX Y ok =>
 lq (xf (dG ok hg) (by rw[ok.mg];exact hm) (h X Y ok) (hs _)) λσ H Q q=>by
  obtain⟨F,σd,Qd,R,q,K⟩:=q;refine⟨F,σd,_,R,q,λvs H1 F1 xs σ1 s1 R1 r1 q1=>?_⟩
  split at q1
  ·rename_i j e
   obtain⟨v,rfl,rv⟩:=(R1.drfs r1 e).one;obtain rfl:=rv.int;exact⟨j,rfl,q1.1.1,q1.1.2,K H1 F1 σ1 _ _ s1 R1 (uZ 0 _) q1.2⟩
  ·exact q1.elim
theorem LH {tg a b:Expr}{t:tH}{p pos:Pos}(h:EOs G k S [a,b] t)(hm:G.mg "range"=none)(hg:S.sc.lookup ("range":Str)=some .globalImplicit:=by rfl)(hs:∀ env,starEach [a,b] env=[(false,eval a env),(false,eval b env)]:=by intro _;rfl)(hs2:∀ env,starEach [b] env=[(false,eval b env)]:=by intro _;rfl):EI G k S tg (.Call (.Name "range" p) [a,b] [] pos) (GV t):=.mk λX Y ok =>
 lq (xg (dG ok hg) (by rw[ok.mg];exact hm) (h X Y ok) (hs _) (hs2 _)) λσ H Q q=>by
  obtain⟨F,σd,Qd,R,q,K⟩:=q;refine⟨F,σd,_,R,q,λvs H1 F1 xs σ1 s1 R1 r1 q1=>?_⟩
  split at q1
  ·rename_i i j e
   obtain⟨v,u,rfl,rv,ru⟩:=(R1.drfs r1 e).two;obtain rfl:=rv.int;obtain rfl:=ru.int;exact⟨i,j,rfl,q1.1,K H1 F1 σ1 _ _ s1 R1 (uZ i _) q1.2⟩
  ·exact q1.elim

def qO (g:lj)(tb:bQ)(De:EndsD):List D->Sd->Prop
 | [],σ=>De.nx σ
 | x::xs,σ=>g x σ λσ1=>tb { De with nx:=qO g tb De xs,ct:=qO g tb De xs,bk:=De.nx } σ1
def di (ti:eB)(g:lj)(tb:bQ):bQ:=λDe σ=>ti σ λitems σ1=>qO g tb De items σ1
theorem jN {tg iter:Expr}{body:List Stmt}{ti:eB}{g:lj}{tb:bQ}{pos:Pos}(hi:EI G k S tg iter ti)(hg:EG G k S tg g)(hb:ESs G k S body tb)(hs:∀ env x,foldedSetIterable iter env x=pure x:=by intro _ _;rfl)(hh:S.hot=false:=by rfl) :
  ES G k S (.For tg iter body [] pos) (di ti g tb):=.mk λX Y ok=>ef (yq (ok.po hh) (ok.calm hh) (hi X Y ok) (hg X Y ok) (hb X Y ok) (hs _)) λDn σ H q=>by
 obtain⟨F,σd,De,R,q,K⟩:=q;refine⟨F,σd,_,R,q,λH1 F1 σd1 J items s1 R1 it q1=>?_⟩;refine⟨λi m σ' H'=>∃ F' σd',Same F1 F'/\RS Y F' σd' σ' H'/\qO g tb De (items.drop i) σd'/\m=items.length - i/\i<=items.length,⟨items.length,F1,σd1,Same.refl _,R1,q1,rfl,Nat.zero_le _⟩,?_⟩;rintro i m σ' H' ⟨F',σd',s',R',q',rfl,hi⟩;have itr:=it F' H' s' R'.fr i
 by_cases hl:i < items.length
 ·right
  have hd:items.drop i=items[i]::items.drop (i+1):=by rw[List.drop_eq_getElem_cons hl]
  rw[hd] at q';obtain⟨go,yl⟩:=itr.1 items[i] (by rw[List.getElem?_eq_getElem hl])
  refine⟨go,λσ2 H2=>∃ F2 σd2,Same F1 F2/\RS Y F2 σd2 σ2 H2/\qO g tb De (items.drop (i+1)) σd2,λσ2 H2 ⟨F2,σd2,s2,R2,q2⟩=>⟨items.length - (i+1),by omega,F2,σd2,s2,R2,q2,rfl,hl⟩,λv H2 y=>?_⟩
  obtain⟨F2,gr,rep⟩:=yl v H2 y;have s2:Same F1 F2:=s'.trans (gr.same R'.fr);refine⟨F2,σd',items[i],_,gr.rs R',rep,q',λσ3 H3 F3 σd3 s3 R3 q3=>⟨F3,σd3,_,R3,q3,?_⟩⟩;refine⟨λσ4 H4 F4 σd4 s4 R4 q4=>⟨F4,σd4,(s2.trans s3).trans s4,R4,q4⟩,λv4 σ4 H4 F4 σd4 b s4 R4 r4 q4=>K.rt v4 σ4 H4 F4 σd4 b (((s1.trans s2).trans s3).trans s4) R4 r4 q4,
   λσ4 H4 F4 σd4 s4 R4 q4=>K.nx σ4 H4 F4 σd4 (((s1.trans s2).trans s3).trans s4) R4 q4,λσ4 H4 F4 σd4 s4 R4 q4=>⟨F4,σd4,(s2.trans s3).trans s4,R4,q4⟩⟩
 ·left
  have e:i=items.length:=by omega
  subst e;rw[List.drop_length] at q';exact⟨itr.2 rfl,K.nx σ' H' F' σd' (s1.trans s') R' q'⟩
end Vc


namespace Vc
open PySem L2
variable [KF]

theorem oN {prog:Program}{w:World}{A:Around}{R:Result->Shared->Prop}{s:Shared}{elt target iter:Expr}{ifs:List Expr}{scope:Scope}{pos:Pos}{it acc:Value}{env:Env}(I:Nat->Shared->Prop)
  (turn:∀ n s,I n s->wpAny (model prog w) A (pyNext it) (λr s₁=>match r with
   | none=>R (.ok .next) s₁
   | some v=>wpAny (model prog w) A (letOwnedTupleGo target it v) (λ_ s₁'=>wpAny (model prog w) A (assign target env v) (λ_ s₂ =>
     wpAny (model prog w) A (forIn ifs true λc r=>if r=true then do let ok <- isTrue c env (eval c env);pure (ForInStep.yield ok) else pure (ForInStep.yield r)) (λok s₃ =>
      if ok=true then wpAny (model prog w) A (eval elt env) (λx s₄ =>
       wpAny (model prog w) A (call (.builtin "list.append") [acc,x]) (λ_ s₅=>∃ m,m < n/\I m s₅) (λ_ _=>False) s₄) (λ_ _=>False) s₃
      else ∃ m,m < n/\I m s₃) (λ_ _=>False) s₂) (λ_ _=>False) s₁') (λ_ _=>False) s₁) (λ_ _=>False) s)
  (n:Nat) (h:I n s):codeAny (model prog w) A (.compLoop (.ListComp elt [⟨target,iter,ifs,0⟩] scope pos) 0 it acc env) R s:=by
 refine codeAny_loop rfl I (λn s hI=>?_) n h;show wpAny _ A ((compTurn (.ListComp elt [⟨target,iter,ifs,0⟩] scope pos) 0 it acc env).onRaise (λx=>do noteFrame x env;theTreesLotGoes x)) _ _ s
 refine wpAny_noted ?_;rw[compTurn_list];refine wpAny_bind (wpAny_standAt (wpAny_bind (wpAny_mono (turn n s hI) (λr s₁ h₁=>?_) λ_ _ h'=>h'.elim)));cases r with
 | none=>exact wpAny_pure h₁
 | some v =>
  refine wpAny_bind (wpAny_mono h₁ (λ_ s₁' h₁'=>?_) λ_ _ h'=>h'.elim);refine wpAny_bind (wpAny_mono h₁' (λ_ s₂ h₂=>wpAny_bind (wpAny_mono h₂ (λok s₃ h₃=>?_) λ_ _ h'=>h'.elim)) λ_ _ h'=>h'.elim);cases ok with
  | false=>exact wpAny_pure ⟨rfl,h₃⟩
  | true =>
   exact wpAny_bind (wpAny_bind (wpAny_mono h₃ (λx s₄ h₄=>wpAny_bind (wpAny_mono h₄ (λ_ s₅ h₅=>wpAny_pure (wpAny_pure ⟨rfl,h₅⟩)) λ_ _ h'=>h'.elim)) λ_ _ h'=>h'.elim))

def gy (env:Env):List (Str×NameKind)->List (Str×Addr)->List (Str×Addr)
 | [],cs=>cs
 | (n,k)::r,cs=>if k==.free then gy env r ((n,(env.cells.lookup n).getD 0)::cs) else gy env r cs
theorem lr {env:Env}{scope:Scope}(h:∀ x∈scope.names,x.2=.free->∃ c,env.cells.lookup x.1=some c):closureFor scope env=pure (gy env scope.names []):=by
 have all:∀ (l:List (Str×NameKind)) (cs:List (Str×Addr)),(∀ x∈l,x.2=.free->∃ c,env.cells.lookup x.1=some c) ->
   (forIn l cs λx cs=>if (x.2==NameKind.free)=true then (do let a <- cellOf env x.1;pure (ForInStep.yield ((x.1,a)::cs))) else pure (ForInStep.yield cs):Sem (List (Str×Addr)))=pure (gy env l cs):=by
  intro l
  induction l with
  | nil=>intro cs _;rfl
  | cons x l ih =>
   intro cs hl;obtain⟨n,k⟩:=x;rw[List.forIn_cons];unfold gy
   by_cases hk:k=.free
   ·subst hk
    obtain⟨c,e⟩:=hl (n,.free) List.mem_cons_self rfl;have e':env.cells.lookup n=some c:=e;simp only[beq_self_eq_true,if_true,cellOf,e',Option.getD_some,pure_bind];exact ih _ λy hy=>hl y (List.mem_cons_of_mem _ hy)
   ·have hb:(k==NameKind.free)=false:=by simpa using hk
    simp only[hb,Bool.false_eq_true,if_false,pure_bind];exact ih _ λy hy=>hl y (List.mem_cons_of_mem _ hy)
 have h1:=all scope.names [] h;have h2:closureFor scope env=((forIn scope.names ([]:List (Str×Addr)) λx cs=>if (x.2==NameKind.free)=true then (do let a <- cellOf env x.1;pure (ForInStep.yield ((x.1,a)::cs))) else pure (ForInStep.yield cs):Sem (List (Str×Addr))) >>= λcs=>pure cs):=rfl
 rw[h2,h1,pure_bind]
theorem bU {env:Env}:∀ (l:List (Str×NameKind)) (cs:List (Str×Addr)) (x:Str) (c:Addr),(∀ y∈l,y.2=.free->∃ c,env.cells.lookup y.1=some c)->(gy env l cs).lookup x=some c->env.cells.lookup x=some c\/cs.lookup x=some c
 | [],cs,x,c,_,h=>.inr h
 | (n,k)::r,cs,x,c,hl,h=>by
  unfold gy at h
  by_cases hk:k=.free
  ·subst hk
   simp only[beq_self_eq_true,if_true] at h;obtain⟨c',e⟩:=hl (n,.free) List.mem_cons_self rfl;have e':env.cells.lookup n=some c':=e;rcases bU r _ x c (λy hy=>hl y (List.mem_cons_of_mem _ hy)) h with q|q
   ·exact .inl q
   ·rw[List.lookup_cons] at q
    cases hx:x==n with
    | true =>
     rw[hx] at q;have:=eq_of_beq hx;subst this;rw[e',Option.getD_some] at q;exact .inl (e'.trans q)
    | false=>rw[hx] at q;exact .inr q
  ·have hb:(k==NameKind.free)=false:=by simpa using hk
   simp only[hb,Bool.false_eq_true,if_false] at h;exact bU r cs x c (λy hy=>hl y (List.mem_cons_of_mem _ hy)) h
theorem jq {env:Env}:∀ (l:List (Str×NameKind)) (cs:List (Str×Addr)) (x:Str),(cs.lookup x).isSome=true->((gy env l cs).lookup x).isSome=true
 | [],cs,x,h=>h
 | (n,k)::r,cs,x,h=>by
  unfold gy
  by_cases hk:k=.free
  ·subst hk
   simp only[beq_self_eq_true,if_true];refine jq r _ x ?_;rw[List.lookup_cons];cases hx:x==n with
   | true=>rfl
   | false=>exact h
  ·have hb:(k==NameKind.free)=false:=by simpa using hk
   simp only[hb,Bool.false_eq_true,if_false];exact jq r cs x h
theorem gR {env:Env}:∀ (l:List (Str×NameKind)) (cs:List (Str×Addr)) (x:Str),(x,NameKind.free)∈l->((gy env l cs).lookup x).isSome=true
 | (n,k)::r,cs,x,h=>by
  unfold gy;rcases List.mem_cons.mp h with e|e
  ·cases e
   simp only[beq_self_eq_true,if_true];refine jq r _ _ ?_;rw[List.lookup_cons,beq_self_eq_true];rfl
  ·split
   ·exact gR r _ x e
   ·exact gR r cs x e
structure CompX (X X':Cx)(scope:Scope)(N':List Str):Prop where
 P:X'.prog=X.prog
 w:X'.w=X.w
 K:X'.K=X.K
 mg:X'.mg=X.mg
 base:X'.base=X.base
 A:X'.A=X.A
 N:X'.N=N'
 sc:X'.env.scope=relabel scope X.env
 calm:X'.calm=true
 xe:X'.xe=λ_ _=>False
def Gi (X:Cx)(ifs:List Expr)(t:TT):Prop:=∀ (pins:List (Addr×Obj)) (s:Shared) (σ:St) (H:Hp) (Q:Bool->Hp->Prop),L2.Inv X pins σ H s->t σ H Q ->
 wpAny (model X.prog X.w) X.A (forIn ifs true λc r=>if r=true then do let ok <- isTrue c X.env (eval c X.env);pure (ForInStep.yield ok) else pure (ForInStep.yield r)) (TP X pins σ Q) X.xe s
theorem GW {X:Cx}:Gi X [] (λ_ H Q=>Q true H):=λpins s σ H Q I h=>wpAny_tests_nil ⟨H,I,h⟩
theorem GX {X:Cx}{c:Expr}{t:TT}(h:PT X c t):Gi X [c] t:=λpins s σ H Q I q=>wpAny_tests_one (h pins s σ H Q I q)
def ff (caps:List (Option Nat))(σ:St):St:=caps.map λc=>match c with
 | some j=>(σ[j]?).join
 | none=>none
def lu (wi:TI)(caps:List (Option Nat))(g:TG)(tc:TT)(te:TE):TE:=λσ H Q=>wi σ H λJ H1=>∀ acc,H1 acc=none->∃ W:Nat->Nat->St->Hp->Prop,(∃ m,W 0 m (ff caps σ) (bG H1 acc (.lst [])))/\∀ i m σ1 H,W i m σ1 H ->
 (J.stop i H/\Q (.ref acc) H)\/(J.go i H/\∀ x H',J.yld i H x H'->g x σ1 H' λσ2 H2=>tc σ2 H2 λb H3=>if b=true then te σ2 H3 λv H4=>∃ ys m',H4 acc=some (.lst ys)/\ys.length < sizeLine/\m' < m/\W (i+1) m' σ2 (bG H4 acc (.lst (ys++[v]))) else ∃ m',m' < m/\W (i+1) m' σ2 H3)

theorem eP {env:Env}:∀ {names:List (Str×NameKind)} {x:Str} {k:NameKind},(names.map λ(n,k)=>if (k==NameKind.free&&env.scope.kind==.function&&env.kindOf n==some .cell) then (n,NameKind.cell) else (n,k)).lookup x=some k ->
  names.lookup x=some k\/(k=.cell/\names.lookup x=some .free)
 | [],_,_,h=>by simp at h
 | (n,k')::r,x,k,h=>by
  have ih:=@eP env r x k;have h:List.lookup x ((if (k'==NameKind.free&&env.scope.kind==.function&&env.kindOf n==some .cell)=true then (n,NameKind.cell) else (n,k'))::_)=some k:=h
  cases hx:x==n with
  | true =>
   by_cases hc:(k'==NameKind.free&&env.scope.kind==.function&&env.kindOf n==some .cell)=true
   ·rw[if_pos hc] at h
    simp only[List.lookup_cons,hx] at h ⊢;cases h;simp only[Bool.and_eq_true,beq_iff_eq] at hc;exact .inr ⟨rfl,by rw[hc.1.1]⟩
   ·rw[if_neg hc] at h
    simp only[List.lookup_cons,hx] at h ⊢;exact .inl h
  | false =>
   by_cases hc:(k'==NameKind.free&&env.scope.kind==.function&&env.kindOf n==some .cell)=true
   ·rw[if_pos hc] at h
    simp only[List.lookup_cons,hx] at h ⊢;exact ih h
   ·rw[if_neg hc] at h
    simp only[List.lookup_cons,hx] at h ⊢;exact ih h
theorem gS {env:Env}:∀ {names:List (Str×NameKind)} {x:Str},names.lookup x=some .free ->
  (names.map λ(n,k)=>if (k==NameKind.free&&env.scope.kind==.function&&env.kindOf n==some .cell) then (n,NameKind.cell) else (n,k)).lookup x=some .cell \/
  (names.map λ(n,k)=>if (k==NameKind.free&&env.scope.kind==.function&&env.kindOf n==some .cell) then (n,NameKind.cell) else (n,k)).lookup x=some .free
 | [],_,h=>by simp at h
 | (n,k')::r,x,h=>by
  have ih:=@gS env r x;show List.lookup x ((if (k'==NameKind.free&&env.scope.kind==.function&&env.kindOf n==some .cell)=true then (n,NameKind.cell) else (n,k'))::_)=some .cell\/List.lookup x ((if (k'==NameKind.free&&env.scope.kind==.function&&env.kindOf n==some .cell)=true then (n,NameKind.cell) else (n,k'))::_)=some .free
  cases hx:x==n with
  | true =>
   simp only[List.lookup_cons,hx] at h
   by_cases hc:(k'==NameKind.free&&env.scope.kind==.function&&env.kindOf n==some .cell)=true
   ·rw[if_pos hc];left;simp only[List.lookup_cons,hx]
   ·rw[if_neg hc];right;simp only[List.lookup_cons,hx];exact h
  | false =>
   simp only[List.lookup_cons,hx] at h
   by_cases hc:(k'==NameKind.free&&env.scope.kind==.function&&env.kindOf n==some .cell)=true
   ·rw[if_pos hc];simp only[List.lookup_cons,hx];exact ih h
   ·rw[if_neg hc];simp only[List.lookup_cons,hx];exact ih h
structure CompSc (X:Cx)(scope:Scope)(N':List Str)(caps:List (Option Nat)):Prop where
 kind:scope.kind=.function
 nocell:∀ y∈scope.names,y.2≠.cell
 names:∀ y∈scope.names,y.2=.local->scope.names.lookup y.1=some .local
 free:∀ y∈scope.names,y.2=.free->X.env.kindOf y.1=some .cell\/X.env.kindOf y.1=some .free
 len:caps.length=N'.length
 cap:∀ (i:Nat) (j:Nat),caps[i]?=some (some j)->∃ x,N'[i]?=some x/\X.N[j]?=some x/\scope.names.lookup x=some .free
section
variable {X:Cx}{pins:List (Addr×Obj)}{σ:St}{H:Hp}{s:Shared}{elt target iter:Expr}{ifs:List Expr}{scope:Scope}{pos:Pos}{N':List Str}{caps:List (Option Nat)}
theorem CompSc.cells (SC:CompSc X scope N' caps)(ok:X.Ok):∀ x∈scope.names,x.2=.free->∃ c,X.env.cells.lookup x.1=some c:=λx hx hf=>ok.has x.1 (SC.free x hx hf)
def Gj (X:Cx)(scope:Scope)(N':List Str)(s₀:Shared)(H₀:Hp)(C:Addr)(fp:List Addr):Cx :=
 { X with N:=N',s₀:=s₀,H₀:=H₀,env:=compEnvC scope (gy X.env scope.names []) C X.env,outer:=X.stack,ex:=fp,fn:=λ_=>false,calm:=true,pn:=[],xe:=λ_ _=>False }
theorem LI (I:L2.Inv X pins σ H s)(SC:CompSc X scope N' caps)(hc:X.calm=true){fp:List Addr}(hf:∀ b∈fp,fX X pins H b)(hlt:∀ b∈fp,b < s.heap.objs.size):(Gj X scope N' s H s.heap.objs.size fp).Ok where
 mod:=I.ok.mod
 kind:=SC.kind
 glob:=I.ok.glob
 blt:=I.ok.blt
 above:=Nat.le_refl _
 inj:=λx y c h1 h2=>by
  have f:∀ z,(gy X.env scope.names []).lookup z=some c->X.env.cells.lookup z=some c:=λz h=>by
   rcases bU scope.names [] z c (SC.cells I.ok) h with q|q
   ·exact q
   ·cases q
  exact I.ok.inj x y c (f x h1) (f y h2)
 has:=λx hx=>by
  have hx:(relabel scope X.env).names.lookup x=some .cell\/(relabel scope X.env).names.lookup x=some .free:=hx;have hfree:scope.names.lookup x=some .free:=by
   rcases hx with hx|hx
   ·rcases eP hx with q|⟨_,q⟩
    ·exact absurd rfl (SC.nocell _ (PySem.mem_of_lookup q))
    ·exact q
   ·rcases eP hx with q|⟨q,_⟩
    ·exact q
    ·cases q
  exact Option.isSome_iff_exists.mp (gR scope.names [] x (PySem.mem_of_lookup hfree))
 cab:=λx c h=>by cases h
 hd:=λ_=>I.ok.hd hc
 frames:=I.ok.frames
 stk:=.inl rfl
 exf:=λb hb=>⟨Nat.ne_of_lt (hlt b hb),λx c h=>by
  rcases bU scope.names [] x c (SC.cells I.ok) h with q|q
  ·exact (hf b hb).2.2.2.2.1 x c q
  ·cases q⟩
 bs:=I.bs
 bsz:=Nat.le_trans I.ok.bsz I.sz
 noex:=λb o e hb=>by
  rcases (hf b hb).2.2.2.1 with q|q
  ·exact I.ok.noex b o e q
  ·exact absurd (Nat.lt_of_lt_of_le (Heap.lt_size e) (Nat.le_trans I.ok.bsz q)) (Nat.lt_irrefl _)
 exfs:=λb hb z=>by
  rcases List.mem_cons.mp (I.stkSub b z) with q|q
  ·exact (hf b hb).2.1 q
  ·exact (hf b hb).2.2.1 q
 funs:=I.stack
 frf:=I.stkFree
theorem GY (I:L2.Inv X pins σ H s)(SC:CompSc X scope N' caps)(hc:X.calm=true){fp:List Addr}(hf:∀ b∈fp,fX X pins H b)(hlt:∀ b∈fp,b < s.heap.objs.size){h1:Heap}{t1:Nat}(hn:h1.Ns s.heap.objs.size (λ_=>none))(hk:∀ b o,s.heap.get? b=some o->h1.get? b=some o) :
  L2.Inv (Gj X scope N' s H s.heap.objs.size fp) [] (ff caps σ) H { s with heap:=h1,toks:=t1 } where
 ok:=LI I SC hc hf hlt
 os:=rfl
 bare:=I.bare
 base:=Un.kept hk
 loc:=by
  refine⟨_,hn,λi x v e1 e2 _=>?_⟩;have e2:(caps.map λc=>match c with|some j=>(σ[j]?).join|none=>none)[i]?=some (some v):=e2
  rw[List.getElem?_map] at e2;cases ec:caps[i]? with
  | none=>rw[ec] at e2;cases e2
  | some c =>
   rw[ec] at e2;cases c with
   | none=>cases e2
   | some j =>
    have e2:(σ[j]?).join=some v:=Option.some.inj e2;have e3:σ[j]?=some (some v):=by
     cases q:σ[j]? with
     | none=>rw[q] at e2;cases e2
     | some w =>
      rw[q] at e2;cases w with
      | none=>cases e2
      | some z=>cases e2;rfl
    obtain⟨y,w1,w2,w3⟩:=SC.cap i j ec;have e1:N'[i]?=some x:=e1;rw[w1] at e1;cases e1;have hk':=SC.free (x,.free) (PySem.mem_of_lookup w3) rfl;obtain⟨m,hm,hl⟩:=I.loc;obtain⟨u,r,l⟩:=hl j x v w2 e3 (.inr hk');refine⟨u,r,?_⟩;rcases l with ⟨k1,_⟩|⟨_,c,hc',hcell⟩
    ·have hk':X.env.kindOf x=some .cell\/X.env.kindOf x=some .free:=hk'
     rw[k1] at hk';rcases hk' with z|z<;>cases z
    ·right
     refine⟨gS w3,c,?_,?_⟩
     ·obtain⟨c',e'⟩:=Option.isSome_iff_exists.mp (gR (env:=X.env) scope.names [] x (PySem.mem_of_lookup w3))
      rcases bU scope.names [] x c' (SC.cells I.ok) e' with q|q
      ·rw[hc'] at q;cases q
       exact e'
      ·cases q
     ·obtain⟨o,ho,hd⟩:=hcell
      exact⟨o,hk _ _ ho,hd⟩
 cell:=λx c h=>by
  rcases bU scope.names [] x c (SC.cells I.ok) h with q|q
  ·obtain⟨v,o,ho,hd⟩:=I.cell x c q
   exact⟨v,o,hk _ _ ho,hd⟩
  ·cases q
 free:=I.hok.fresh (Nat.le_refl _)
 freeC:=λx c h=>by
  rcases bU scope.names [] x c (SC.cells I.ok) h with q|q
  ·exact I.freeC x c q
  ·cases q
 pin:=λp hp=>absurd (show p∈([]:List (Addr×Obj)) from hp) (by simp)
 hok:=I.hok.kept hk
 len:=by
  show (caps.map _).length=N'.length;rw[List.length_map];exact SC.len
theorem qP (I:L2.Inv X pins σ H s)(SC:CompSc X scope N' caps)(hc:X.calm=true){it:Addr}{fp:List Addr}{tn:Nat->Heap->Prop}{J:It}(T:Turn X.prog X.w X.K target J fp it tn)(t0:tn 0 s.heap)(hf:∀ b∈fp,fX X pins H b)
  {g:TG} {tc:TT} {te:TE} (hin:∀ X',CompX X X' scope N'->PG X' target g/\Gi X' ifs tc/\PE X' elt te) {Q:VK}
  (q:∀ acc,H acc=none->∃ W:Nat->Nat->St->Hp->Prop,(∃ m,W 0 m (ff caps σ) (bG H acc (.lst [])))/\∀ i m σ1 H,W i m σ1 H ->
   (J.stop i H/\Q (.ref acc) H)\/(J.go i H/\∀ x H',J.yld i H x H'->g x σ1 H' λσ2 H2=>tc σ2 H2 λb H3=>if b=true then te σ2 H3 λv H4=>∃ ys m',H4 acc=some (.lst ys)/\ys.length < sizeLine/\m' < m/\W (i+1) m' σ2 (bG H4 acc (.lst (ys++[v]))) else ∃ m',m' < m/\W (i+1) m' σ2 H3))
  {E:Value->Shared->Prop} {RR:Value->Addr->Result->Shared->Prop}
  (hRR:∀ acc C H' s',L2.Inv X pins σ H' s'->fX X pins H' C->(∃ m,s'.heap.Ns C m)->Q (.ref acc) H'->RR (.ref acc) C (.ok .next) s') :
  wpAny (model X.prog X.w) X.A (newList []) (λacc s₃=>wpAny (model X.prog X.w) X.A (newFunctionEnv scope X.env.globals (gy X.env scope.names []) [] X.env.qual none .none (some X.env)) (λcenv s₄ =>
   codeAny (model X.prog X.w) X.A (.compStart (.ListComp elt [⟨target,iter,ifs,0⟩] scope pos) 0 (.ref it) acc { cenv with scope:=relabel scope X.env }) (RR acc cenv.locals) s₄) E s₃) E s:=by
 refine wpAny_newObj_type ?_;have hacc:H s.heap.objs.size=none:=I.hok.fresh (Nat.le_refl _);have I3:L2.Inv X pins σ (bG H s.heap.objs.size (.lst [])) { s with heap:=s.heap.push { cls:=.type "list",dict:=none,data:=.seq ([]:List Value).toArray } }:=I.lnew (t':=s.toks) (its:=[]) (ys:=[]) .nil (Nat.zero_le _)
 obtain⟨W,⟨m0,w0⟩,step⟩:=q _ hacc;generalize hs3:({ s with heap:=s.heap.push { cls:=.type "list",dict:=none,data:=.seq ([]:List Value).toArray } }:Shared)=s3 at I3 ⊢
 generalize hH3:bG H s.heap.objs.size (.lst [])=H3 at I3 w0;generalize hacc':s.heap.objs.size=acc at *;have up3:∀ b o,s.heap.get? b=some o->s3.heap.get? b=some o:=λb o e=>by rw[<- hs3];exact Heap.get?_push_of_some _ e
 have fplt:∀ b∈fp,b < s3.heap.objs.size:=λb hb=>by
  obtain⟨o,e,_⟩:=T.obj 0 _ t0 b hb;exact Heap.lt_size (up3 b o e)
 have hf3:∀ b∈fp,fX X pins H3 b:=λb hb=>by
  obtain⟨f0,f⟩:=hf b hb;refine⟨?_,f⟩;obtain⟨o,e,_⟩:=T.obj 0 _ t0 b hb;have:b≠acc:=by rw[<- hacc'];exact Nat.ne_of_lt (Heap.lt_size e)
  rw[<- hH3,ao this];exact f0
 have t3:tn 0 s3.heap:=T.keep 0 _ _ t0 λb _ o e=>up3 b o e;refine wpAny_newFunctionEnv SC.nocell (by intro y hy;simp at hy) (λh1 hn1 sb1=>?_) SC.kind
 have hk1:∀ b o,s3.heap.get? b=some o->h1.get? b=some o:=λb o e=>sb1.extBut b o (Nat.ne_of_lt (Heap.lt_size e)) (Heap.get?_push_of_some _ e);have cx:CompX X (Gj X scope N' s3 H3 s3.heap.objs.size fp) scope N':=⟨rfl,rfl,rfl,rfl,rfl,rfl,rfl,rfl,rfl,rfl⟩;obtain⟨hg,ht,he⟩:=hin _ cx;have hn1':h1.Ns s3.heap.objs.size (λ_=>none):=by simpa using hn1
 have fpB:∀ {H':Hp},(∀ b∈fp,H' b=none)->∀ b∈fp,fX (Gj X scope N' s3 H3 s3.heap.objs.size fp) [] H' b:=λ{H'} hn b hb=>by
  obtain⟨f0,f1,f2,f3,f4,f5⟩:=hf3 b hb;refine⟨hn b hb,Nat.ne_of_lt (fplt b hb),?_,.inl hb,λx c h=>?_,λp hp=>absurd (show p∈([]:List (Addr×Obj)) from hp) (by simp)⟩
  ·intro z
   rcases List.mem_cons.mp (I3.stkSub b z) with q|q
   ·exact f1 q
   ·exact f2 q
  ·rcases bU scope.names [] x c (SC.cells I.ok) h with q|q
   ·exact f4 x c q
   ·cases q
 have loop:∀ s4:Shared,L2.Inv (Gj X scope N' s3 H3 s3.heap.objs.size fp) [] (ff caps σ) H3 s4->tn 0 s4.heap->codeAny (model X.prog X.w) X.A (.compLoop (.ListComp elt [⟨target,iter,ifs,0⟩] scope pos) 0 (.ref it) (.ref acc) (compEnvC scope (gy X.env scope.names []) s3.heap.objs.size X.env)) (RR (.ref acc) s3.heap.objs.size) s4:=by
  intro s4 I4 t4;refine oN (λn s'=>∃ i σ1 H',L2.Inv (Gj X scope N' s3 H3 s3.heap.objs.size fp) [] σ1 H' s'/\tn i s'.heap/\(∀ b∈fp,H' b=none)/\W i n σ1 H') ?_ m0 ⟨0,_,H3,I4,t4,λb hb=>(hf3 b hb).1,w0⟩;rintro n s5 ⟨i,σ1,H5,I5,st5,fr5,w5⟩;rcases step i n σ1 H5 w5 with ⟨stop,qn⟩|⟨go,body⟩
  ·refine cr (T.done (Gj X scope N' s3 H3 s3.heap.objs.size fp) rfl rfl rfl rfl i [] s5 σ1 H5 _ I5 (fpB fr5) st5 stop) λr s6 ⟨hr,I6⟩=>?_
   subst hr;have u:=I6.base;refine hRR acc _ H5 s6 (I3.call' (ch:=fp) I6.os u I6.hok I6.bare λb hb=>?_) (I3.fpOk (Nat.le_refl _) I6.free) ?_ qn
   ·obtain⟨f0,f1,f2,f3,f4,f5⟩:=hf3 b hb
    exact⟨f3.imp id λz=>Heap.get?_none_of_le z,f1,f4,f5⟩
   ·obtain⟨m,hm,_⟩:=I6.loc
    exact⟨m,hm⟩
  ·refine cr (T.item (Gj X scope N' s3 H3 s3.heap.objs.size fp) rfl rfl rfl rfl i [] s5 σ1 H5 _ I5 (fpB fr5) st5 go) λr s6 ⟨u,hr,h6⟩=>?_
   subst hr;refine cr h6 λ_ s7 ⟨x,H7,I7,r7,y7,st7,fr7⟩=>?_;have I7':=I7.pinned (fpB fr7) (T.obj _ _ st7);have back:∀ {σ8:St} {H8:Hp} {s8:Shared},L2.Inv (Gj X scope N' s3 H3 s3.heap.objs.size fp) ([]++ji fp s7.heap) σ8 H8 s8->L2.Inv (Gj X scope N' s3 H3 s3.heap.objs.size fp) [] σ8 H8 s8/\tn (i+1) s8.heap/\∀ b∈fp,H8 b=none:=λ{σ8 H8 s8} I8=>by
    refine⟨I8.unpinned,T.keep _ _ _ st7 λb hb o e=>(I8.pin (b,o) (List.mem_append_right _ (List.mem_append_right _ (dF hb e)))).1,λb hb=>?_⟩;obtain⟨o,e,d⟩:=T.obj _ _ st7 b hb;exact (I8.pin (b,o) (List.mem_append_right _ (List.mem_append_right _ (dF hb e)))).2.1
   refine cr (hg _ s7 σ1 H7 x u _ I7' r7 (body x H7 y7)) λ_ s8 ⟨σ8,H8,I8,q8⟩=>?_;refine cr (ht _ s8 σ8 H8 _ I8 q8) λb s9 ⟨H9,I9,q9⟩=>?_;cases b with
   | false =>
    obtain⟨m',hm,w9⟩:=q9;obtain⟨J1,J2,J3⟩:=back I9;exact⟨m',hm,i+1,σ8,H9,J1,J2,J3,w9⟩
   | true =>
    refine cr (he _ s9 σ8 H9 _ I9 q9) λy s10 ⟨v,H10,I10,r10,ys,m',e10,hz,hm,w10⟩=>?_;refine cr (jl _ s10 σ8 H10 (.ref acc) [v] (.ref acc) [y] (λz H11=>z=.non/\W (i+1) m' σ8 H11) I10 rfl (.cons r10 .nil) ⟨acc,ys,v,rfl,rfl,e10,hz,rfl,w10⟩) λ_ s11 ⟨_,H11,I11,_,_,w11⟩=>?_;obtain⟨J1,J2,J3⟩:=back I11;exact⟨m',hm,i+1,σ8,H11,J1,J2,J3,w11⟩
 have I4:=GY (caps:=caps) (N':=N') I3 SC hc hf3 fplt (t1:=s3.toks+([]:List (Str×Value)).length) hn1' hk1;have t4:tn 0 h1:=T.keep 0 _ _ t3 λb _ o e=>hk1 b o e;exact codeAny_compStart_list (loop _ I4 t4) (T.self X.A 0 _ _ _ t4 (loop _ I4 t4))
end
end Vc


namespace Vc
open PySem L2
variable [KF]
section
variable {X:Cx}{elt target iter:Expr}{ifs:List Expr}{scope:Scope}{pos:Pos}{N':List Str}{caps:List (Option Nat)}{wi:TI}{g:TG}{tc:TT}{te:TE}
theorem vc {pins:List (Addr×Obj)}{σ:St}{H:Hp}{s:Shared}{C:Addr}{h':Heap}(f:fX X pins H C)(I:L2.Inv X pins σ H s)(hs:Heap.SameBut C s.heap h'):L2.Inv X pins σ H { s with heap:=h' }:=by
 obtain⟨f0,f1,f2,f3,f4,f5⟩:=f;exact I.turned (t':=s.toks) (λb o hb e=>hs.extBut b o hb e) f0 f1 f3 f4 f5
theorem kC (hc:X.calm=true)(hi:PI X target iter wi)(SC:CompSc X scope N' caps)(hin:∀ X',CompX X X' scope N'->PG X' target g/\Gi X' ifs tc/\PE X' elt te)(hs:∀ x,foldedSetIterable iter X.env x=pure x) :
  PE X (.ListComp elt [⟨target,iter,ifs,0⟩] scope pos) (lu wi caps g tc te):=by
 intro pins s σ H Q I h;rw[eval_ListComp];refine wpAny_comprehension_free (use:=none) rfl hs (lr (SC.cells I.ok)) SC.kind SC.names (cr (hi pins s σ H _ I h) λv s1 h1=>cr h1 λitv s2 h2=>?_);obtain⟨it,fp,tn,J,H2,rfl,I2,T,t0,f2,q2⟩:=h2;exact qP I2 SC hc T t0 f2 hin q2 (RR:=λacc C=>compPost (model X.prog X.w) X.A X.xe none (EP X pins σ Q) acc C) λacc C H' s' I' f' ⟨m,hm⟩ q'=>⟨m,hm,λh' hs'=>⟨.ref acc,H',vc f' I' hs',rfl,q'⟩⟩
theorem GZ {i:Nat}{y:Str}{py spos:Pos}(hc:X.calm=true)(hi:PI X target iter wi)(SC:CompSc X scope N' caps)(hin:∀ X',CompX X X' scope N'->PG X' target g/\Gi X' ifs tc/\PE X' elt te)(hs:∀ x,foldedSetIterable iter X.env x=pure x)
  (hN:X.N.Nodup) (hy:X.N[i]?=some y) (hx:X.env.scope.names.lookup y=some .local) (hsw:swapsWith (.ListComp elt [⟨target,iter,ifs,0⟩] scope pos) (some (.Name y py)) spos.line X.env=pure true) :
  PS X (.Assign [.Name y py] (.ListComp elt [⟨target,iter,ifs,0⟩] scope pos) spos) (Gu (lu wi caps g tc te) (mY i)):=by
 intro pins s σ H D I h;rw[exec_Assign_Name_used _ _ _ _ hsw];refine wpAny_bind (wpAny_standAt (wpAny_bind ?_));show wpAny _ X.A (do let _ <- comprehension (.ListComp elt [⟨target,iter,ifs,0⟩] scope pos) scope X.env _ (newList []) false (eval iter X.env) (some (assign (.Name y py) X.env))) _ _ s
 refine wpAny_bind (wpAny_mono (wpAny_comprehension_free (use:=some (assign (.Name y py) X.env)) (Q:=λ_ s'=>SP X pins D .next s') rfl hs (lr (SC.cells I.ok)) SC.kind SC.names (cr (hi pins s σ H _ I h) λv s1 h1=>cr h1 λitv s2 h2=>?_))
  (λ_ s' hq=>wpAny_pure (wpAny_pure hq)) λ_ _ e=>e)
 obtain⟨it,fp,tn,J,H2,rfl,I2,T,t0,f2,q2⟩:=h2;refine qP (Q:=λx H1=>mY i x σ H1 D.nx) I2 SC hc T t0 f2 hin q2 (RR:=λacc C=>compPost (model X.prog X.w) X.A X.xe (some (assign (.Name y py) X.env)) (λ_ s'=>SP X pins D .next s') acc C) λacc C H' s' I' f' ⟨m,hm⟩ q'=>?_;show wpAny _ X.A (assign (.Name y py) X.env (.ref acc)) _ _ s';obtain⟨o,es,ep,ho,hd,r⟩:=id hm;have Ip:L2.Inv X (pins++ji [C] s'.heap) σ H' s':=I'.pinned (fp:=[C]) (λb hb=>(show b=C by simpa using hb) ▸ f') (λb hb=>by
  have e:b=C:=by simpa using hb
  subst e;exact⟨o,ho,λv z=>by rw[hd] at z;cases z⟩)
 refine wpAny_assign_Name (kL Ip hN hy (.inl hx) (show RelV (.ref acc) (.ref acc) from rfl) (λs'' I''=>?_) (.inr hx))
 have hC:s''.heap.get? C=some o:=(I''.pin (C,o) (List.mem_append_right _ (List.mem_append_right _ (dF (by simp) ho)))).1
 exact⟨m,⟨o,es,ep,hC,hd,r⟩,λh' hs'=>⟨_,H',vc f' I''.unpinned hs',q'⟩⟩
end

variable {G:GE}{k:Nat}{S:Stat}
def gT (names sc:List (Str×NameKind)):List (Str×NameKind):=names.map λ(n,k)=>if (k==.free&&sc.lookup n==some .cell) then (n,.cell) else (n,k)
def kq (S:Stat)(scope:Scope)(N':List Str):Stat:=⟨N',gT scope.names S.sc,[],true,false,false,λ_ _=>False⟩
structure BlkOk (S:Stat)(scope:Scope)(N':List Str)(caps:List (Option Nat)):Prop where
 kind:scope.kind=.function
 nd:N'.Nodup
 nocell:scope.names.all (λy=>y.2 != .cell)=true
 names:scope.names.all (λy=>y.2 != .local||scope.names.lookup y.1==some .local)=true
 free:scope.names.all (λy=>y.2 != .free||S.sc.lookup y.1==some .cell||S.sc.lookup y.1==some .free)=true
 len:caps.length=N'.length
 cap:(caps.zip N').all (λp=>match p.1 with|some j=>S.N[j]?==some p.2&&scope.names.lookup p.2==some .free|none=>true)=true
theorem BlkOk.sc {scope:Scope}{N':List Str}{caps:List (Option Nat)}(b:BlkOk S scope N' caps){X:Cx}{Y:Dyn}(ok:XOk X G k S Y):CompSc X scope N' caps where
 kind:=b.kind
 nocell:=λy hy z=>by
  have:=List.all_eq_true.mp b.nocell y hy;rw[z] at this;cases this
 names:=λy hy z=>by
  have:=List.all_eq_true.mp b.names y hy;rw[z] at this;simpa using this
 free:=λy hy z=>by
  have:=List.all_eq_true.mp b.free y hy;rw[z] at this;have kd:X.env.kindOf y.1=S.sc.lookup y.1:=by
   show X.env.scope.names.lookup y.1=_;rw[ok.sc]
  rw[kd];simpa using this
 len:=b.len
 cap:=λi j e=>by
  have hl:i < caps.length:=(List.getElem?_eq_some_iff.mp e).1;have hl':i < N'.length:=by rw[<- b.len];exact hl
  have hz:(caps.zip N')[i]?=some (some j,N'[i]):=by
   rw[List.getElem?_zip_eq_some];exact⟨e,by rw[List.getElem?_eq_getElem hl']⟩
  have:=List.all_eq_true.mp b.cap _ (List.mem_of_getElem? hz);simp only[Bool.and_eq_true,beq_iff_eq] at this;exact⟨N'[i],by rw[List.getElem?_eq_getElem hl'],by rw[ok.N];exact this.1,this.2⟩
theorem dI {X X':Cx}{Y:Dyn}{scope:Scope}{N':List Str}{caps:List (Option Nat)}(hh:S.hot=false)(ok:XOk X G k S Y)(b:BlkOk S scope N' caps)(c:CompX X X' scope N')(Y':Dyn)(hio:Y'.io=[]):XOk X' G k (kq S scope N') Y' where
 P:=c.P.trans ok.P
 w:=c.w.trans ok.w
 K:=c.K.trans ok.K
 kf:=c.K.trans ok.kf
 mg:=c.mg.trans ok.mg
 obs:=λh=>nomatch h
 base:=c.base.trans ok.base
 N:=c.N
 sc:=by
  rw[c.sc];show scope.names.map _=gT scope.names S.sc;unfold gT;refine List.map_congr_left λy _=>?_;obtain⟨n,kk⟩:=y;have kd:X.env.kindOf n=S.sc.lookup n:=by
   show X.env.scope.names.lookup n=_;rw[ok.sc]
  simp only[ok.kind,kd,beq_self_eq_true,Bool.and_true]
 nd:=b.nd
 ios:=λp hp=>by rw[hio] at hp;cases hp
 calm:=λ_=>c.calm
 kind:=by rw[c.sc];exact b.kind
 fn:=λh=>by cases h
 hd:=λ_=>by rw[c.A];exact ok.hd hh
 dp:=by rw[c.A];exact ok.dp
 un:=by rw[c.A];exact ok.un
 po:=λ_=>by rw[c.xe];exact PassesOwn.never
 nx:=λh=>nomatch h
 exc:=λ_ _ h=>h.elim
 made:=λh=>nomatch h
def kr:Sd->Sd->Prop
 | [],[]=>True
 | none::r,_::s=>kr r s
 | some b::r,c::s=>c=some b/\kr r s
 | _,_=>False
theorem kE:∀ {a b:Sd} {i:Nat} {x:B},kr a b->a[i]?=some (some x)->b[i]?=some (some x)
 | [],[],_,_,_,e=>by simp at e
 | none::r,c::s,0,_,h,e=>by simp at e
 | none::r,c::s,i+1,x,h,e=>by
  have h:kr r s:=h;simpa using kE (i:=i) h (by simpa using e)
 | some b::r,c::s,0,x,h,e=>by
  obtain⟨h1,h2⟩:c=some b/\kr r s:=h;simp at e;subst e;simp [h1]
 | some b::r,c::s,i+1,x,h,e=>by
  obtain⟨h1,h2⟩:c=some b/\kr r s:=h;simpa using kE (i:=i) h2 (by simpa using e)
 | [],_::_,_,_,h,_=>h.elim
 | none::_,[],_,_,h,_=>h.elim
 | some _::_,[],_,_,h,_=>h.elim
theorem kF:∀ {a b:Sd},kr a b->a.length=b.length
 | [],[],_=>rfl
 | none::r,c::s,h=>by
  have h:kr r s:=h;simp [kF h]
 | some b::r,c::s,h=>by
  obtain⟨_,h2⟩:c=some b/\kr r s:=h;simp [kF h2]
 | [],_::_,h=>h.elim
 | none::_,[],h=>h.elim
 | some _::_,[],h=>h.elim
def qQ (ios:List Nat):List (Option Nat)->Sd->(Sd->Prop)->Prop
 | [],σ,Q=>Q σ
 | none::r,σ,Q=>qQ ios r σ Q
 | some j::r,σ,Q=>match σ[j]? with
  | some (some (.own xs))=>j∉ios/\qQ ios r (σ.set j (some (.sh (.lst xs)))) Q
  | _=>qQ ios r σ Q
def dj (caps:List (Option Nat))(σ:Sd):Sd:=caps.map λc=>match c with
 | some j=>match σ[j]? with
  | some (some (.sh d))=>some (.sh d)
  | _=>none
 | none=>none
def eE (g:lj)(tc:TB)(te:TD)(σ0:Sd):List D->List D->(List D->Prop)->Prop
 | [],acc,Q=>Q acc
 | x::xs,acc,Q=>g x σ0 λσ1=>tc σ1 λb σ2=>if b=true then te σ2 λd σ3=>kr σ0 σ3/\acc.length < sizeLine/\eE g tc te σ0 xs (acc++[d]) Q else kr σ0 σ2/\eE g tc te σ0 xs acc Q
def bL (ios:List Nat)(caps:List (Option Nat))(ti:eB)(g:lj)(tc:TB)(te:TD):TX:=λσ Q=>ti σ λitems σ1=>qQ ios caps σ1 λσ2=>eE g tc te (dj caps σ2) items [] λds=>Q (.own ds) σ2
theorem dJ {ios:List Nat}{Y:Dyn}(hio:∀ p∈Y.io,p.1∈ios):∀ {caps:List (Option Nat)} {F:Hp} {σd:Sd} {σ:St} {H:Hp} {Q:Sd->Prop},RS Y F σd σ H->qQ ios caps σd Q->∃ F' σd',Same F F'/\RS Y F' σd' σ H/\Q σd'
 | [],F,σd,σ,H,Q,R,q=>⟨F,σd,Same.refl _,R,q⟩
 | none::r,F,σd,σ,H,Q,R,q=>dJ hio (caps:=r) R q
 | some j::r,F,σd,σ,H,Q,R,q=>by
  unfold qQ at q
  split at q
  ·rename_i xs e
   obtain⟨F2,v2,s2,R2,e2,r2⟩:=R.freezeVar e λp hp z=>q.1 (z ▸ hio p hp);obtain⟨F3,σ3,s3,R3,q3⟩:=dJ hio (caps:=r) R2 q.2;exact⟨F3,σ3,s2.trans s3,R3,q3⟩
  ·exact dJ hio (caps:=r) R q
theorem bW (caps:List (Option Nat))(σd:Sd):∀ (i:Nat) (o:O),(dj caps σd)[i]?≠some (some (.obj o)):=λi o e=>by
 unfold dj at e;rw[List.getElem?_map] at e;cases ec:caps[i]? with
 | none=>rw[ec] at e;cases e
 | some c =>
  rw[ec] at e;cases c with
  | none=>cases e
  | some j =>
   have e:(match σd[j]? with|some (some (.sh d))=>some (B.sh d)|_=>none)=some (.obj o):=Option.some.inj e
   split at e<;>cases e

theorem oO {Y:Dyn}{F:Hp}{σd:Sd}{σ:St}{H:Hp}(R:RS Y F σd σ H)(caps:List (Option Nat)){F' H':Hp}(s1:Same F F')(s2:Same F' H'):RS ⟨H',F',[],[]⟩ F' (dj caps σd) (ff caps σ) H' where
 len:=by unfold dj ff;simp
 lo:=Same.refl _
 fr:=s2
 fro:=λb o e=>.inl e
 old:=λb o e _=>e
 sh:=λi d e=>by
  unfold dj at e;rw[List.getElem?_map] at e;unfold ff;rw[List.getElem?_map];cases ec:caps[i]? with
  | none=>rw[ec] at e;cases e
  | some c =>
   rw[ec] at e;cases c with
   | none=>cases e
   | some j =>
    have e:(match σd[j]? with|some (some (.sh d))=>some (B.sh d)|_=>none)=some (.sh d):=Option.some.inj e
    split at e
    ·rename_i d' q
     cases e;obtain⟨v,h1,h2⟩:=R.sh j d q;exact⟨v,by show some ((σ[j]?).join)=_;rw[h1];rfl,h2.mono s1⟩
    ·cases e
 own:=λi xs e=>by
  unfold dj at e;rw[List.getElem?_map] at e;cases ec:caps[i]? with
  | none=>rw[ec] at e;cases e
  | some c =>
   rw[ec] at e;cases c with
   | none=>cases e
   | some j =>
    have e:(match σd[j]? with|some (some (.sh d))=>some (B.sh d)|_=>none)=some (.own xs):=Option.some.inj e
    split at e<;>cases e
 dis:=λi j xs ys a e=>by
  exfalso;unfold dj at e;rw[List.getElem?_map] at e;cases ec:caps[i]? with
  | none=>rw[ec] at e;cases e
  | some c =>
   rw[ec] at e;cases c with
   | none=>cases e
   | some j =>
    have e:(match σd[j]? with|some (some (.sh d))=>some (B.sh d)|_=>none)=some (.own xs):=Option.some.inj e
    split at e<;>cases e
 io:=λp hp=>by cases hp
 ob:=.none (bW _ _) (R.ob.tab.mono s1) λb hb=>by cases hb
theorem RS.less {Y:Dyn}{F:Hp}{σ0 σd:Sd}{σ:St}{H:Hp}(R:RS Y F σd σ H)(l:kr σ0 σd)(noown:∀ (i:Nat) (xs:List D),σ0[i]?≠some (some (.own xs)))(noobj:∀ (i:Nat) (o:O),σ0[i]?≠some (some (.obj o))){H':Hp}(s:Same F H'):RS ⟨H',F,[],[]⟩ F σ0 σ H' where
 len:=(kF l).trans R.len
 lo:=Same.refl _
 fr:=s
 fro:=λb o e=>.inl e
 old:=λb o e _=>e
 sh:=λi d e=>R.sh i d (kE l e)
 own:=λi xs e=>absurd e (noown i xs)
 dis:=λi j xs ys a e=>absurd e (noown i xs)
 io:=λp hp=>by cases hp
 ob:=.none noobj R.ob.tab λb hb=>by cases hb
theorem bX (caps:List (Option Nat))(σd:Sd):∀ (i:Nat) (xs:List D),(dj caps σd)[i]?≠some (some (.own xs)):=λi xs e=>by
 unfold dj at e;rw[List.getElem?_map] at e;cases ec:caps[i]? with
 | none=>rw[ec] at e;cases e
 | some c =>
  rw[ec] at e;cases c with
  | none=>cases e
  | some j =>
   have e:(match σd[j]? with|some (some (.sh d))=>some (B.sh d)|_=>none)=some (.own xs):=Option.some.inj e
   split at e<;>cases e

theorem eF:∀ a:Sd,kr a a
 | []=>trivial
 | none::r=>eF r
 | some b::r=>⟨rfl,eF r⟩
theorem RS.other {Y:Dyn}{F:Hp}{σd:Sd}{σ:St}{H:Hp}{a:Addr}{o:HO}(R:RS Y F σd σ H)(h1:F a=none)(h2:Y.H0 a=none)(h3:NoOwn σd σ a):RS Y F σd σ (bG H a o) where
 len:=R.len
 lo:=R.lo
 fr:=λb u e=>by
  have:b≠a:=λz=>by rw[z,h1] at e;cases e
  rw[ao this];exact R.fr b u e
 fro:=R.fro
 old:=λb u e n=>by
  have:b≠a:=λz=>by rw[z,h2] at e;cases e
  rw[ao this];exact R.old b u e n
 sh:=R.sh
 own:=λi xs e=>by
  obtain⟨b,vs,w1,w2,w3⟩:=R.own i xs e;have:b≠a:=λz=>h3 i xs e (by rw[w1,z])
  exact⟨b,vs,w1,by rw[ao this];exact w2,w3⟩
 dis:=R.dis
 io:=R.io
 ob:=R.ob.step (Same.refl _) (λ_ _ e=>⟨e,rfl⟩) (λb hb=>by
  obtain⟨w1,w2,w3⟩:=R.ob.owned hb;have hne:b≠a:=λz=>h3.nob (z ▸ hb);exact⟨ao hne,w1,w3⟩) R.ob.dsx λb hb=>by
  by_cases hne:b=a
  ·rw[hne,aH];exact λz=>nomatch z
  ·rw[ao hne];exact R.ob.there b hb
def ZE (g:lj):TG:=λv σ H Q=>∃ Y:Dyn,Y.io=[]/\lG Y g v σ H Q
def ZF (t:TB):TT:=λσ H Q=>∃ Y:Dyn,Y.io=[]/\lB Y t σ H Q
def lDe (t:TD):TE:=λσ H Q=>∃ Y:Dyn,Y.io=[]/\lD Y t σ H Q
structure EBs (G:GE)(k:Nat)(S:Stat)(ifs:List Expr)(t:TB) :Prop where
 run:∀ X Y,XOk X G k S Y->Gi X ifs (lB Y t)
instance {G:GE} {k:Nat} {S:Stat} {ifs:List Expr} {t:TB} :CoeFun (EBs G k S ifs t) λ_=>∀ X Y,XOk X G k S Y->Gi X ifs (lB Y t):=⟨EBs.run⟩
def bF:TB:=λσ Q=>Q true σ
theorem cf:EBs G k S [] bF:=.mk λX Y ok pins s σ H Q I q=>GW pins s σ H Q I (by
 obtain⟨F,σd,Qd,R,q,K⟩:=q;exact K true H F σd (Same.refl _) R q)
theorem zd {c:Expr}{t:TB}(h:EB G k S c t):EBs G k S [c] t:=.mk λX Y ok=>GX (h X Y ok)
section
variable {elt target iter:Expr}{ifs:List Expr}{scope:Scope}{pos:Pos}{N':List Str}{caps:List (Option Nat)}{ti:eB}{g:lj}{tc:TB}{te:TD}
theorem oP {X:Cx}{Y:Dyn}(hh:S.hot=false)(ok:XOk X G k S Y)(b:BlkOk S scope N' caps)(hg:EG G k (kq S scope N') target g)(ht:EBs G k (kq S scope N') ifs tc)(he:ED G k (kq S scope N') elt te) :
  ∀ X',CompX X X' scope N'->PG X' target (ZE g)/\Gi X' ifs (ZF tc)/\PE X' elt (lDe te):=λX' c =>
 ⟨λpins s σ H v u Q I r ⟨Y',hio,q⟩=>hg X' Y' (dI hh ok b c Y' hio) pins s σ H v u Q I r q,λpins s σ H Q I ⟨Y',hio,q⟩=>ht X' Y' (dI hh ok b c Y' hio) pins s σ H Q I q,λpins s σ H Q I ⟨Y',hio,q⟩=>he X' Y' (dI hh ok b c Y' hio) pins s σ H Q I q⟩
theorem lv {Y:Dyn}{ios:List Nat}(hio:∀ p∈Y.io,p.1∈ios){σ:St}{H:Hp}{Q:VK}(q:lX Y (bL ios caps ti g tc te) σ H Q):lu (lI Y ti) caps (ZE g) (ZF tc) (lDe te) σ H Q:=by
 obtain⟨F,σd,Qd,R,q,K⟩:=q;refine⟨F,σd,_,R,q,λH1 F1 σd1 J items s1 R1 it q1 acc hacc=>?_⟩;obtain⟨F2,σd2,s2,R2,q2⟩:=dJ hio R1 q1;have it2:=it.mono s2;have a0:Y.H0 acc=none:=(R2.fresh0 hacc).1;have aF:F2 acc=none:=bq R2.fr hacc;have aN:NoOwn σd2 σ acc:=R2.noFresh hacc;have sw:∀ {F5 H5:Hp} {o:HO},Same F5 H5->F5 acc=none->Same F5 (bG H5 acc o):=λ{F5 H5 o} s5 h b u e=>by
  have:b≠acc:=λz=>by rw[z,h] at e;cases e
  rw[ao this];exact s5 b u e
 refine⟨λi m σ1 H'=>∃ Fi ds ys,Same F2 Fi/\RS Y Fi σd2 σ H'/\H' acc=some (.lst ys)/\RepL Fi ys ds/\Fi acc=none/\RS ⟨H',Fi,[],[]⟩ Fi (dj caps σd2) σ1 H'/\eE g tc te (dj caps σd2) (items.drop i) ds (λds=>Qd (.own ds) σd2)/\m=items.length - i/\i<=items.length,
  ⟨items.length,F2,[],[],Same.refl _,R2.other aF a0 aN,aH,.nil,aF,oO R2 caps (Same.refl _) (sw R2.fr aF),q2,rfl,Nat.zero_le _⟩,?_⟩
 rintro i m σ1 Hi ⟨Fi,ds,ys,si,Ri,hacci,ri,fi,Rin,qi,rfl,hi⟩;have itr:=it2 Fi Hi si Ri.fr i
 by_cases hl:i < items.length
 ·right
  have hd:items.drop i=items[i]::items.drop (i+1):=by rw[List.drop_eq_getElem_cons hl]
  rw[hd] at qi;obtain⟨go,yl⟩:=itr.1 items[i] (by rw[List.getElem?_eq_getElem hl])
  refine⟨go,λv H' y=>?_⟩;obtain⟨F3,gr,rep⟩:=yl v H' y;have sF:Same Fi F3:=gr.same Ri.fr;have R3:=gr.rs Rin;have R3':RS ⟨H',F3,[],[]⟩ F3 (dj caps σd2) σ1 H':=R3.less (eF _) (bX _ _) (bW _ _) R3.fr;have sH:Same Hi H':=by
   rcases gr with ⟨_,rfl⟩|⟨p,o,hp,_,rfl⟩
   ·exact Same.refl _
   ·exact aM hp
  have fr3:∀ c o,F3 c=some o->Fi c=some o\/Hi c=none:=λc o e=>by
   rcases gr with ⟨rfl,_⟩|⟨p,o',hp,rfl,_⟩
   ·exact .inl e
   ·by_cases hc:c=p
    ·subst hc;exact .inr hp
    ·rw[ao hc] at e;exact .inl e
  -- behind the turn
  have back:∀ {F5 H5:Hp} {σd5:Sd} {σ5:St},Same F3 F5->RS ⟨H',F3,[],[]⟩ F5 σd5 σ5 H5->RS Y F5 σd2 σ H5/\H5 acc=some (.lst ys)/\F5 acc=none/\Same Fi F5:=λ{F5 H5 σd5 σ5} s5 R5=>by
   have s35:Same Hi H5:=sH.trans λb o e=>R5.old b o e (by simp [Dyn.ioA])
   have fr5:∀ c o,F5 c=some o->Fi c=some o\/Hi c=none:=λc o e=>by
    rcases R5.fro c o e with z|z
    ·exact fr3 c o z
    ·exact .inr (sH.free z)
   refine⟨Ri.call (sF.trans s5) R5.fr s35 fr5,s35 _ _ hacci,?_,sF.trans s5⟩;cases e:F5 acc with
   | none=>rfl
   | some o =>
    rcases fr5 acc o e with z|z
    ·rw[fi] at z;cases z
    ·rw[hacci] at z;cases z
  refine⟨⟨H',F3,[],[]⟩,rfl,F3,_,items[i],_,R3',rep,qi,λσ4 H4 F4 σd4 s4 R4 q4=>?_⟩;refine⟨⟨H',F3,[],[]⟩,rfl,F4,σd4,_,R4,q4,λb H5 F5 σd5 s5 R5 q5=>?_⟩;cases b with
  | false =>
   obtain⟨le,q5⟩:=q5;obtain⟨w1,w2,w3,w4⟩:=back (s4.trans s5) R5;exact⟨items.length - (i+1),by omega,F5,ds,ys,si.trans w4,w1,w2,ri.mono w4,w3,R5.less le (bX _ _) (bW _ _) R5.fr,q5,rfl,hl⟩
  | true =>
   refine⟨⟨H',F3,[],[]⟩,rfl,F5,σd5,_,R5,q5,λv6 H6 F6 d σd6 s6 R6 r6 q6=>?_⟩;obtain⟨le,hz,q6⟩:=q6;obtain⟨w1,w2,w3,w4⟩:=back ((s4.trans s5).trans s6) R6;exact⟨ys,items.length - (i+1),w2,by rw[ri.length];exact hz,by omega,F6,ds++[d],ys++[v6],si.trans w4,w1.other w3 a0 aN,aH,(ri.mono w4).append (.cons r6 .nil),w3,R6.less le (bX _ _) (bW _ _) (sw R6.fr w3),q6,rfl,hl⟩
 ·left
  have e:i=items.length:=by omega
  subst e;rw[List.drop_length] at qi;exact⟨itr.2 rfl,K _ Hi Fi (.own ds) σd2 ((s1.trans s2).trans si) Ri ⟨acc,ys,rfl,hacci,ri,fi,a0,aN⟩ qi⟩
theorem bS (hi:EI G k S target iter ti)(b:BlkOk S scope N' caps)(hg:EG G k (kq S scope N') target g)(ht:EBs G k (kq S scope N') ifs tc)(he:ED G k (kq S scope N') elt te)(hs:∀ env x,foldedSetIterable iter env x=pure x:=by intro _ _;rfl)(hh:S.hot=false:=by rfl) :
  EX G k S (.ListComp elt [⟨target,iter,ifs,0⟩] scope pos) (bL S.ios caps ti g tc te):=.mk λX Y ok =>
 br (kC (ok.calm hh) (hi X Y ok) (b.sc ok) (oP hh ok b hg ht he) (hs _)) λσ H Q q=>lv ok.ios q
theorem oQ (i:Nat){y:Str}{py spos:Pos}(hi:EI G k S target iter ti)(b:BlkOk S scope N' caps)(hg:EG G k (kq S scope N') target g)(ht:EBs G k (kq S scope N') ifs tc)(he:ED G k (kq S scope N') elt te)
  (hy:S.N[i]?=some y:=by rfl) (hx:S.sc.lookup y=some .local\/(S.sc.lookup y=some .cell/\S.blk=false):=by first|exact Or.inl rfl|exact Or.inr ⟨rfl,rfl⟩) (hn:i∉S.ios:=by first|decide|exact List.not_mem_nil) (hl:(py.line==pos.line)=true:=by rfl) (hsn:(scope.names.any λ(n,k)=>n==y&&(k==.local||k==.cell))=false:=by decide +kernel)
  (hs:∀ env x,foldedSetIterable iter env x=pure x:=by intro _ _;rfl) (hh:S.hot=false:=by rfl):ES G k S (.Assign [.Name y py] (.ListComp elt [⟨target,iter,ifs,0⟩] scope pos) spos) (cN S.ios i (bL S.ios caps ti g tc te)):=.mk λX Y ok=>by
 have sw:swapsWith (.ListComp elt [⟨target,iter,ifs,0⟩] scope pos) (some (.Name y py)) spos.line X.env=pure (S.sc.lookup y==some .local):=by
  have e:swapsWith (.ListComp elt [⟨target,iter,ifs,0⟩] scope pos) (some (.Name y py)) spos.line X.env=pure (X.env.blockKind==.function&&X.env.kindOf y==some .local&&py.line==pos.line&&!(scope.names.any λ(n,k)=>n==y&&(k==.local||k==.cell))):=rfl
  have kb:X.env.blockKind=.function:=by unfold Env.blockKind;rw[ok.kind];rfl
  have kd:X.env.kindOf y=S.sc.lookup y:=by
   show X.env.scope.names.lookup y=_;rw[ok.sc]
  rw[e,kb,kd,hl,hsn];simp
 have fin:∀ Dn σ H,lS Y (cN S.ios i (bL S.ios caps ti g tc te)) Dn σ H->Gu (lu (lI Y ti) caps (ZE g) (ZF tc) (lDe te)) (mY i) Dn σ H:=λDn σ H q=>by
  obtain⟨F,σd,De,R,q,K⟩:=q;refine lv ok.ios ⟨F,σd,_,R,q,λv H1 F1 y σ1 s1 R1 r1 q1=>?_⟩;obtain⟨F2,σ2,s2,R2,q2⟩:=nv R1 r1 hn ok.ios q1;exact K.nx _ H1 F2 σ2 (s1.trans s2) R2 q2
 rcases hx with hx|hx
 ·refine ef (GZ (i:=i) (ok.calm hh) (hi X Y ok) (b.sc ok) (oP hh ok b hg ht he) (hs _) (by rw[ok.N];exact ok.nd) (by rw[ok.N];exact hy) (by rw[ok.sc];exact hx) (by rw[sw,hx];rfl)) fin
 ·refine ef (L2.ps_set (i:=i) (by rw[ok.N];exact ok.nd) (by rw[ok.N];exact hy) (oJ ok (.inr hx)) (kC (ok.calm hh) (hi X Y ok) (b.sc ok) (oP hh ok b hg ht he) (hs _)) (by rw[sw,hx.1];rfl) (oK ok (.inr hx))) fin
end
end Vc


namespace Vc
open PySem L2
variable [KF]

section
variable {prog:Program}{w:World}{A:Around}{E:Value->Shared->Prop}{s:Shared}
theorem ze {j t:Addr}{i:Nat}{xs:Array Value}{x:Value}{Q:Value->Shared->Prop}(hj:s.heap.IsTupleIter j t i)(ht:s.heap.IsTuple t xs)(hx:xs[i]?=some x)
  (q:∀ g,g.IsTupleIter j t (i+1)->Heap.SameBut j s.heap g->Q x { s with heap:=g }):wpAny (model prog w) A (Builtin.SmallTypes.nextOf (.ref j)) Q E s:=by
 obtain⟨ob,h1,h2,h3⟩:=id hj;obtain⟨ot,h4,_,nt,h5⟩:=ht;unfold Builtin.SmallTypes.nextOf;refine wpAny_bind (wpAny_callSpecial?_slot (name:=Str.ofString "__next__") hj.typeIs F.slot_tuple_iterator_next (wpAny_call_entry F.slot_tuple_iterator_next hj.typeIs F.entry_tuple_iterator_next ?_ (F.args_tuple_iterator_next_1 _)));show wpAny _ _ (field (.ref j) 0 >>= _) _ _ s;refine wpAny_bind (wpAny_field h1 h3 (x:=.ref t) rfl ?_);show wpAny _ _ (if (Value.ref t==Value.none)=true then _ else _) _ _ s
 rw[if_neg (by intro z;exact absurd z Bool.false_ne_true)]
 show wpAny _ _ (field (.ref j) 1 >>= _) _ _ s;refine wpAny_bind (wpAny_field h1 h3 (x:=.int i 0) rfl ?_);show wpAny _ _ (seqItems? (.ref t) >>= _) _ _ s;refine wpAny_bind (wpAny_seqItems h4 h5 ?_);simp only[Int.toNat_natCast,hx];refine wpAny_bind (wpAny_setField h1 h3 (by simp) (wpAny_pure ⟨x,rfl,wpAny_pure (q _ ?_ (Heap.SameBut.update ..))⟩))
 refine⟨_,Heap.get?_update_self _ h1 (Obj.isFreed_of_fields (Obj.data_mapFields h3 _)),(Obj.cls_mapFields ..).trans h2,?_⟩;rw[Obj.data_mapFields h3];simp [rawInt]
theorem oS {j t:Addr}{i:Nat}{xs:Array Value}{Q:Value->Shared->Prop}(hh:A.handled=none)(hj:s.heap.IsTupleIter j t i)(ht:s.heap.IsTuple t xs)(hx:xs[i]?=none)
  (q:∀ g e,Heap.ExtBut j s.heap g->(∃ o,g.get? e=some o/\o.cls=.type "StopIteration")->E (.ref e) { s with heap:=g }):wpAny (model prog w) A (Builtin.SmallTypes.nextOf (.ref j)) Q E s:=by
 obtain⟨ob,h1,h2,h3⟩:=id hj;obtain⟨ot,h4,_,nt,h5⟩:=ht;unfold Builtin.SmallTypes.nextOf;refine wpAny_bind (wpAny_callSpecial?_slot (name:=Str.ofString "__next__") hj.typeIs F.slot_tuple_iterator_next (wpAny_call_entry F.slot_tuple_iterator_next hj.typeIs F.entry_tuple_iterator_next ?_ (F.args_tuple_iterator_next_1 _)));show wpAny _ _ (field (.ref j) 0 >>= _) _ _ s;refine wpAny_bind (wpAny_field h1 h3 (x:=.ref t) rfl ?_);show wpAny _ _ (if (Value.ref t==Value.none)=true then _ else _) _ _ s
 rw[if_neg (by intro z;exact absurd z Bool.false_ne_true)]
 show wpAny _ _ (field (.ref j) 1 >>= _) _ _ s;refine wpAny_bind (wpAny_field h1 h3 (x:=.int i 0) rfl ?_);show wpAny _ _ (seqItems? (.ref t) >>= _) _ _ s;refine wpAny_bind (wpAny_seqItems h4 h5 ?_);simp only[Int.toNat_natCast,hx];refine wpAny_bind (wpAny_rule (wpAny_bind (wpAny_setField h1 h3 (by simp) ?_)))
 show wpAny _ _ (newExc (.type "StopIteration") [] >>= _) _ _ _;refine wpAny_bind ?_;simp only[newExc,newTuple];refine wpAny_bind (wpAny_newObj_type ?_ (by size_fits))
 refine wpAny_bind (m:=firstArgMember _ _) (wpAny_of_eq (a:=Value.none) (by first|rfl | (simp only[firstArgMember];rfl)) ?_)
 refine wpAny_newObj_type ?_ (by size_fits)
 simp only[raiseNew];refine wpAny_bind (wpAny_handled ?_)
 first|rw[show A.in1.handled=none from hh]|rw[hh]
 refine wpAny_bind (wpAny_pure (wpAny_throw ?_));exact q _ _ (((Heap.SameBut.update ..).extBut.push _).push _) ⟨_,Heap.get?_push_size _ rfl,rfl⟩
end
def SqI (tp:Bool)(h:Heap)(j a:Addr)(i:Nat):Prop:=if tp=true then h.IsTupleIter j a i else h.IsListIter j a i
def SqA (tp:Bool)(h:Heap)(a:Addr)(xs:Array Value):Prop:=if tp=true then h.IsTuple a xs else h.IsList a xs
theorem SqI.live {tp:Bool}{h:Heap}{j a:Addr}{i:Nat}(q:SqI tp h j a i):∃ o,h.get? j=some o/\∀ v,o.data≠.cell v:=by
 cases tp with
 | true=>obtain⟨o,e,c,d⟩:=(show h.IsTupleIter j a i from q);exact⟨o,e,λv z=>by rw[d] at z;cases z⟩
 | false=>obtain⟨o,e,c,d⟩:=(show h.IsListIter j a i from q);exact⟨o,e,λv z=>by rw[d] at z;cases z⟩
theorem SqI.at {tp:Bool}{h h':Heap}{j a:Addr}{i:Nat}(q:SqI tp h j a i)(k:∀ o,h.get? j=some o->h'.get? j=some o):SqI tp h' j a i:=by
 cases tp with
 | true=>obtain⟨o,e,r⟩:=(show h.IsTupleIter j a i from q);exact (show h'.IsTupleIter j a i from ⟨o,k o e,r⟩)
 | false=>obtain⟨o,e,r⟩:=(show h.IsListIter j a i from q);exact (show h'.IsListIter j a i from ⟨o,k o e,r⟩)
theorem SqA.at {tp:Bool}{h h':Heap}{a:Addr}{xs:Array Value}(q:SqA tp h a xs)(k:∀ o,h.get? a=some o->h'.get? a=some o):SqA tp h' a xs:=by
 cases tp with
 | true=>obtain⟨o,e,r⟩:=(show h.IsTuple a xs from q);exact (show h'.IsTuple a xs from ⟨o,k o e,r⟩)
 | false=>obtain⟨o,e,r⟩:=(show h.IsList a xs from q);exact (show h'.IsList a xs from ⟨o,k o e,r⟩)
section
variable {prog:Program}{w:World}{A:Around}{E:Value->Shared->Prop}{s:Shared}
theorem Ha {tp:Bool}{j a:Addr}{i:Nat}{xs:Array Value}{x:Value}{Q:Value->Shared->Prop}(hj:SqI tp s.heap j a i)(ha:SqA tp s.heap a xs)(hx:xs[i]?=some x)
  (q:∀ g,SqI tp g j a (i+1)->Heap.SameBut j s.heap g->Q x { s with heap:=g }):wpAny (model prog w) A (Builtin.SmallTypes.nextOf (.ref j)) Q E s:=by
 cases tp with
 | true=>exact ze hj ha hx q
 | false=>exact wpAny_nextOf_list_item hj ha hx q
theorem lw {tp:Bool}{j a:Addr}{i:Nat}{xs:Array Value}{Q:Value->Shared->Prop}(hh:A.handled=none)(hj:SqI tp s.heap j a i)(ha:SqA tp s.heap a xs)(hx:xs[i]?=none)
  (q:∀ g e,Heap.ExtBut j s.heap g->(∃ o,g.get? e=some o/\o.cls=.type "StopIteration")->E (.ref e) { s with heap:=g }):wpAny (model prog w) A (Builtin.SmallTypes.nextOf (.ref j)) Q E s:=by
 cases tp with
 | true=>exact oS hh hj ha hx q
 | false=>exact wpAny_nextOf_list_end hh hj ha hx q
structure ZAp (z U V i j:Addr):Prop where
 uz:U≠z
 vz:V≠z
 iz:i≠z
 jz:j≠z
 uv:U≠V
 ui:U≠i
 uj:U≠j
 vi:V≠i
 vj:V≠j
 ij:i≠j
theorem Hb {tp tq:Bool}{z U V i j l m:Addr}{n:Nat}{xs ys:Array Value}{x y a b:Value}{Q:Option Value->Shared->Prop}(D:ZAp z U V i j)(lz:l≠z/\l≠V/\l≠i/\l≠j)(mz:m≠z/\m≠V/\m≠i/\m≠j)
  (hz:IsZip s.heap z U V .none) (hU:IsPair s.heap U (.ref i) (.ref j)) (hV:IsPair s.heap V a b) (h1:SqI tp s.heap i l n) (h2:SqI tq s.heap j m n) (hl:SqA tp s.heap l xs) (hm:SqA tq s.heap m ys) (hx:xs[n]?=some x) (hy:ys[n]?=some y)
  (q:∀ g,IsZip g z U V (rawInt s.heap.objs.size)->IsPair g V x y->SqI tp g i l (n+1)->SqI tq g j m (n+1)->IsPair g s.heap.objs.size x y->g.objs.size=s.heap.objs.size+1 ->
   (∀ c o,c≠z->c≠V->c≠i->c≠j->s.heap.get? c=some o->g.get? c=some o)->Q (some (.ref s.heap.objs.size)) { s with heap:=g }):wpAny (model prog w) A (pyNext (.ref z)) Q E s:=by
 have hT:s.TypeIs (.ref z) "zip":=⟨_,hz,rfl⟩;unfold pyNext;refine wpAny_bind (wpAny_attempt (wpAny_callSpecial?_slot (name:=Str.ofString "__next__") hT F.slot_zip_next (wpAny_call_entry F.slot_zip_next hT F.entry_zip_next ?_ (F.args_zip_next_1 _))));show wpAny _ _ (field (.ref z) 2 >>= _) _ _ _;refine wpAny_bind (wpAny_field hz rfl (x:=.bool false) rfl ?_);show wpAny _ _ (field (.ref z) 3 >>= _) _ _ _;refine wpAny_bind (wpAny_field hz rfl (x:=.ref U) rfl (wpAny_bind (wpAny_seqItems hU rfl ?_)));show wpAny _ _ (Builtin.SmallTypes.ownedTupleIsFree (.ref z) >>= _) _ _ _;refine wpAny_bind ?_;unfold Builtin.SmallTypes.ownedTupleIsFree;refine wpAny_bind (wpAny_field hz rfl (x:=.none) rfl (wpAny_pure ?_));simp only[if_true];refine wpAny_bind (wpAny_rule (wpAny_bind (wpAny_field hz rfl (x:=.ref V) rfl (wpAny_bind (wpAny_setField_rec hz (by simp) λg1 z1 e1=>?_)))))
 replace z1:IsZip g1 z U V .ellipsis:=z1
 refine wpAny_bind ?_;simp only[List.zipIdx_cons,List.zipIdx_nil,List.forIn_cons,List.forIn_nil];refine wpAny_bind (wpAny_bind (wpAny_onRaise ?_));show wpAny _ _ (Builtin.SmallTypes.nextOf (.ref i) >>= _) _ _ _;refine wpAny_bind (Ha (s:={ s with heap:=g1 }) (h1.at λo e=>e1.extBut _ _ D.iz e) (hl.at λo e=>e1.extBut _ _ lz.1 e) hx λg2 w2 e2=>wpAny_pure ?_)
 have v2:IsPair g2 V a b:=e2.extBut _ _ D.vi (e1.extBut _ _ D.vz hV);refine wpAny_bind (wpAny_seqItems v2 rfl (wpAny_bind (wpAny_updateSeq_pair v2 λg3 v3 e3=>?_)))
 replace v3:IsPair g3 V x b:=v3
 refine wpAny_bind (wpAny_letGo (wpAny_pure (wpAny_bind (wpAny_bind (wpAny_onRaise ?_)))));show wpAny _ _ (Builtin.SmallTypes.nextOf (.ref j) >>= _) _ _ _;have to3:∀ c o,c≠z->c≠i->c≠V->s.heap.get? c=some o->g3.get? c=some o:=λc o c1 c2 c3 e=>e3.extBut _ _ c3 (e2.extBut _ _ c2 (e1.extBut _ _ c1 e));refine wpAny_bind (Ha (s:={ s with heap:=g3 }) (h2.at λo e=>to3 j o D.jz D.ij.symm D.vj.symm e) (hm.at λo e=>to3 m o mz.1 mz.2.2.1 mz.2.1 e) hy λg4 w4 e4=>wpAny_pure ?_)
 have v4:IsPair g4 V x b:=e4.extBut _ _ D.vj v3;refine wpAny_bind (wpAny_seqItems v4 rfl (wpAny_bind (wpAny_updateSeq_pair v4 λg5 v5 e5=>?_)))
 replace v5:IsPair g5 V x y:=v5
 refine wpAny_bind (wpAny_letGo (wpAny_pure (wpAny_pure (wpAny_bind (wpAny_seqItems v5 rfl (wpAny_bind (wpAny_newTuple ?_)))))));have sz:g5.objs.size=s.heap.objs.size:=by rw[e5.1,e4.1,e3.1,e2.1,e1.1]
 have z5:IsZip g5 z U V .ellipsis:=e5.extBut _ _ D.vz.symm (e4.extBut _ _ D.jz.symm (e3.extBut _ _ D.vz.symm (e2.extBut _ _ D.iz.symm z1)));have k5:∀ c o,c≠z->c≠V->c≠i->c≠j->s.heap.get? c=some o->g5.get? c=some o:=λc o c1 c2 c3 c4 e=>e5.extBut _ _ c2 (e4.extBut _ _ c4 (to3 c o c1 c3 c2 e));have i5:SqI tp g5 i l (n+1):=w2.at λo e=>e5.extBut _ _ D.vi.symm (e4.extBut _ _ D.ij (e3.extBut _ _ D.vi.symm e));have j5:SqI tq g5 j m (n+1):=w4.at λo e=>e5.extBut _ _ D.vj.symm e;have zlt:z < g5.objs.size:=Heap.lt_size z5;show wpAny _ _ (Builtin.SmallTypes.ownedTupleHandOut (.ref z) (.ref g5.objs.size) >>= _) _ _ _;refine wpAny_bind ?_;unfold Builtin.SmallTypes.ownedTupleHandOut;have z6:IsZip (g5.push { cls:=.type "tuple",data:=.seq #[x,y] }) z U V .ellipsis:=Heap.get?_push_of_some _ z5;refine wpAny_bind (wpAny_setField_rec z6 (by simp) λg7 z7 e7=>?_)
 replace z7:IsZip g7 z U V (rawInt g5.objs.size):=z7
 refine wpAny_setField_rec z7 (by simp) λg8 z8 e8=>?_
 replace z8:IsZip g8 z U V (rawInt g5.objs.size):=z8
 have up:∀ c o,c≠z->g5.get? c=some o->g8.get? c=some o:=λc o c1 e=>e8.extBut _ _ c1 (e7.extBut _ _ c1 (Heap.get?_push_of_some _ e));have t8:IsPair g8 g5.objs.size x y:=e8.extBut _ _ (Nat.ne_of_gt zlt) (e7.extBut _ _ (Nat.ne_of_gt zlt) (Heap.get?_push_size _ rfl));have s8:g8.objs.size=g5.objs.size+1:=by rw[e8.1,e7.1,Heap.size_push]
 rw[sz] at z8 t8 s8;refine wpAny_pure ⟨_,rfl,wpAny_pure ?_⟩;show Q (some (.ref g5.objs.size)) _;rw[sz];exact q g8 z8 (up _ _ D.vz v5) (i5.at λo e=>up _ o D.iz e) (j5.at λo e=>up _ o D.jz e) t8 s8 λc o c1 c2 c3 c4 e=>up c o c1 (k5 c o c1 c2 c3 c4 e)
end
end Vc


namespace Vc
open PySem L2
variable [KF]
abbrev itN (tp:Bool):String:=if tp=true then "tuple_iterator" else "list_iterator"
abbrev zA (tp:Bool)(h:Heap)(l:Addr):Heap:=h.push { cls:=.type (itN tp),data:=.fields #[.ref l,.int 0 0] }
abbrev zB (tp tq:Bool)(h:Heap)(l m:Addr):Heap:=zA tq (zA tp h l) m
abbrev zC (tp tq:Bool)(h:Heap)(l m:Addr):Heap:=(zB tp tq h l m).push { cls:=.type "tuple",data:=.seq #[.ref h.objs.size,.ref (zA tp h l).objs.size] }
abbrev zD (tp tq:Bool)(h:Heap)(l m:Addr):Heap:=(zC tp tq h l m).push { cls:=.type "tuple",data:=.seq #[.none,.none] }
abbrev zE (tp tq:Bool)(h:Heap)(l m:Addr):Heap:=(zD tp tq h l m).push { cls:=.type "zip",data:=.fields #[.none,.bool false,.bool false,.ref (zB tp tq h l m).objs.size,.ref (zC tp tq h l m).objs.size] }
set_option maxHeartbeats 4000000 in
theorem zf (tp tq:Bool)(l m:Addr)(xs ys:Array Value) :
  Meets (Builtin.«zip.__new__» ⟨[.type "zip",.ref l,.ref m],[]⟩) (λ_ R s=>SqA tp s.heap l xs/\SqA tq s.heap m ys/\R (.ok (.ret (.ref (zD tp tq s.heap l m).objs.size))) { s with heap:=zE tp tq s.heap l m }) :=
 .of_wp λprog w A R s h=>by
  obtain⟨hp,g,d,tk,os⟩:=s;obtain⟨hl,hm,h⟩:=h;have sub:=sub_zip;cases tp with
  | true =>
   have L1:Heap.IsTuple (Shared.heap ⟨hp,g,d,tk,os⟩) l xs:=hl;cases tq with
   | true =>
    have L2:Heap.IsTuple (Shared.heap ⟨hp.push { cls:=.type "tuple_iterator",data:=.fields #[.ref l,.int 0 0] },g,d,tk,os⟩) m ys:=by
     obtain⟨o,e,r⟩:=(show hp.IsTuple m ys from hm);exact⟨o,Heap.get?_push_of_some _ e,r⟩
    wp_walk using wpAny_pyIter_tuple L1,wpAny_pyIter_tuple L2
    exact⟨_,rfl,h⟩
   | false =>
    have L2:Heap.IsList (Shared.heap ⟨hp.push { cls:=.type "tuple_iterator",data:=.fields #[.ref l,.int 0 0] },g,d,tk,os⟩) m ys:=by
     obtain⟨o,e,r⟩:=(show hp.IsList m ys from hm);exact⟨o,Heap.get?_push_of_some _ e,r⟩
    wp_walk using wpAny_pyIter_tuple L1,wpAny_pyIter_list L2
    exact⟨_,rfl,h⟩
  | false =>
   have L1:Heap.IsList (Shared.heap ⟨hp,g,d,tk,os⟩) l xs:=hl;cases tq with
   | true =>
    have L2:Heap.IsTuple (Shared.heap ⟨hp.push { cls:=.type "list_iterator",data:=.fields #[.ref l,.int 0 0] },g,d,tk,os⟩) m ys:=by
     obtain⟨o,e,r⟩:=(show hp.IsTuple m ys from hm);exact⟨o,Heap.get?_push_of_some _ e,r⟩
    wp_walk using wpAny_pyIter_list L1,wpAny_pyIter_tuple L2
    exact⟨_,rfl,h⟩
   | false =>
    have L2:Heap.IsList (Shared.heap ⟨hp.push { cls:=.type "list_iterator",data:=.fields #[.ref l,.int 0 0] },g,d,tk,os⟩) m ys:=by
     obtain⟨o,e,r⟩:=(show hp.IsList m ys from hm);exact⟨o,Heap.get?_push_of_some _ e,r⟩
    wp_walk using wpAny_pyIter_list L1,wpAny_pyIter_list L2
    exact⟨_,rfl,h⟩
theorem vd {tp:Bool}{h:Heap}{j a:Addr}(e:h.get? j=some { cls:=.type (itN tp),data:=.fields #[.ref a,.int 0 0] }):SqI tp h j a 0:=by
 cases tp with
 | true=>exact⟨_,e,rfl,rfl⟩
 | false=>exact⟨_,e,rfl,rfl⟩
section
variable {prog:Program}{w:World}{A:Around}{E:Value->Shared->Prop}{s:Shared}
theorem zg {tp tq:Bool}{l m:Addr}{xs ys:Array Value}{Q:Value->Shared->Prop}(hl:SqA tp s.heap l xs)(hm:SqA tq s.heap m ys)
  (q:∀ g,IsZip g (s.heap.objs.size+4) (s.heap.objs.size+2) (s.heap.objs.size+3) .none->IsPair g (s.heap.objs.size+2) (.ref s.heap.objs.size) (.ref (s.heap.objs.size+1))->IsPair g (s.heap.objs.size+3) .none .none ->
   SqI tp g s.heap.objs.size l 0->SqI tq g (s.heap.objs.size+1) m 0->(∀ c o,s.heap.get? c=some o->g.get? c=some o)->Q (.ref (s.heap.objs.size+4)) { s with heap:=g }) :
  wpAny (model prog w) A (call (.type "zip") [.ref l,.ref m]) Q E s:=by
 refine callType_new F.called_zip (by decide) (F.typeCall_zip_2 _ _) (F.newCall_zip_2 _ _) (λob=>F.args_object_init_3 ob _ _) F.entry_zip_new (zf tp tq l m xs ys) ⟨hl,hm,?_⟩
 have n1:(zA tp s.heap l).objs.size=s.heap.objs.size+1:=Heap.size_push ..;have n2:(zB tp tq s.heap l m).objs.size=s.heap.objs.size+2:=by rw[Heap.size_push,n1]
 have n3:(zC tp tq s.heap l m).objs.size=s.heap.objs.size+3:=by rw[Heap.size_push,n2]
 have n4:(zD tp tq s.heap l m).objs.size=s.heap.objs.size+4:=by rw[Heap.size_push,n3]
 have p5:(zE tp tq s.heap l m).get? (zD tp tq s.heap l m).objs.size=some _:=Heap.get?_push_size _ rfl;have p4:(zE tp tq s.heap l m).get? (zC tp tq s.heap l m).objs.size=some _:=Heap.get?_push_of_some _ (Heap.get?_push_size _ rfl);have p3:(zE tp tq s.heap l m).get? (zB tp tq s.heap l m).objs.size=some _:=Heap.get?_push_of_some _ (Heap.get?_push_of_some _ (Heap.get?_push_size _ rfl));have p2:(zE tp tq s.heap l m).get? (zA tp s.heap l).objs.size=some _:=Heap.get?_push_of_some _ (Heap.get?_push_of_some _ (Heap.get?_push_of_some _ (Heap.get?_push_size _ rfl)));have p1:(zE tp tq s.heap l m).get? s.heap.objs.size=some _:=Heap.get?_push_of_some _ (Heap.get?_push_of_some _ (Heap.get?_push_of_some _ (Heap.get?_push_of_some _ (Heap.get?_push_size _ rfl))));show _/\_;rw[n2,n3,n4] at p5;rw[n1,n2] at p3;rw[n3] at p4;rw[n1] at p2;rw[n4];refine⟨⟨_,p5,rfl⟩,q _ p5 p3 p4 (vd p1) (vd p2) λc o x=>?_⟩;exact Heap.get?_push_of_some _ (Heap.get?_push_of_some _ (Heap.get?_push_of_some _ (Heap.get?_push_of_some _ (Heap.get?_push_of_some _ x))))
theorem zh {tp tq:Bool}{z U V i j l m:Addr}{n:Nat}{xs ys:Array Value}{a b:Value}{Q:Option Value->Shared->Prop}(hh:A.handled=none)(D:ZAp z U V i j)(lz:l≠z/\l≠V/\l≠i/\l≠j)(mz:m≠z/\m≠V/\m≠i/\m≠j)
  (hz:IsZip s.heap z U V .none) (hU:IsPair s.heap U (.ref i) (.ref j)) (hV:IsPair s.heap V a b) (h1:SqI tp s.heap i l n) (h2:SqI tq s.heap j m n) (hl:SqA tp s.heap l xs) (hm:SqA tq s.heap m ys) (hend:xs[n]?=none\/ys[n]?=none)
  (q:∀ g,(∀ c o,c≠z->c≠V->c≠i->c≠j->s.heap.get? c=some o->g.get? c=some o)->Q none { s with heap:=g }):wpAny (model prog w) A (pyNext (.ref z)) Q E s:=by
 have hT:s.TypeIs (.ref z) "zip":=⟨_,hz,rfl⟩;unfold pyNext;refine wpAny_bind (wpAny_attempt (wpAny_callSpecial?_slot (name:=Str.ofString "__next__") hT F.slot_zip_next (wpAny_call_entry F.slot_zip_next hT F.entry_zip_next ?_ (F.args_zip_next_1 _))));show wpAny _ _ (field (.ref z) 2 >>= _) _ _ _;refine wpAny_bind (wpAny_field hz rfl (x:=.bool false) rfl ?_);show wpAny _ _ (field (.ref z) 3 >>= _) _ _ _;refine wpAny_bind (wpAny_field hz rfl (x:=.ref U) rfl (wpAny_bind (wpAny_seqItems hU rfl ?_)));show wpAny _ _ (Builtin.SmallTypes.ownedTupleIsFree (.ref z) >>= _) _ _ _;refine wpAny_bind ?_;unfold Builtin.SmallTypes.ownedTupleIsFree;refine wpAny_bind (wpAny_field hz rfl (x:=.none) rfl (wpAny_pure ?_));simp only[if_true];refine wpAny_bind (wpAny_rule (wpAny_bind (wpAny_field hz rfl (x:=.ref V) rfl (wpAny_bind (wpAny_setField_rec hz (by simp) λg1 z1 e1=>?_)))))
 replace z1:IsZip g1 z U V .ellipsis:=z1
 refine wpAny_bind ?_;simp only[List.zipIdx_cons,List.zipIdx_nil,List.forIn_cons,List.forIn_nil];refine wpAny_bind (wpAny_bind (wpAny_onRaise ?_));show wpAny _ _ (Builtin.SmallTypes.nextOf (.ref i) >>= _) _ _ _;cases hx:xs[n]? with
 | none =>
  refine wpAny_bind (lw (s:={ s with heap:=g1 }) hh (h1.at λo e=>e1.extBut _ _ D.iz e) (hl.at λo e=>e1.extBut _ _ lz.1 e) hx λg2 e x2 he=>?_)
  obtain⟨oe,he1,he2⟩:=he;have z2:IsZip g2 z U V .ellipsis:=x2 _ _ D.iz.symm z1;have ez:e≠z:=λx=>by subst x;rw[z2] at he1;cases he1;simp at he2
  refine wpAny_setField_rec z2 (by simp) λg3 _ e3=>?_
  refine wpAny_bind (wpAny_isInstance (T:="StopIteration") (b:=true) ⟨oe,e3.extBut _ _ ez he1,he2⟩ isSubtype_stop (wpAny_pure (q _ λc o c1 _ c3 _ x=>?_)));exact e3.extBut _ _ c1 (x2 _ _ c3 (e1.extBut _ _ c1 x))
 | some x =>
  have hy:ys[n]?=none:=by
   rcases hend with h|h
   ·rw[hx] at h;cases h
   ·exact h
  refine wpAny_bind (Ha (s:={ s with heap:=g1 }) (h1.at λo e=>e1.extBut _ _ D.iz e) (hl.at λo e=>e1.extBut _ _ lz.1 e) hx λg2 w2 e2=>wpAny_pure ?_)
  have v2:IsPair g2 V a b:=e2.extBut _ _ D.vi (e1.extBut _ _ D.vz hV);refine wpAny_bind (wpAny_seqItems v2 rfl (wpAny_bind (wpAny_updateSeq_pair v2 λg3 v3 e3=>?_)));refine wpAny_bind (wpAny_letGo (wpAny_pure (wpAny_bind (wpAny_bind (wpAny_onRaise ?_)))));show wpAny _ _ (Builtin.SmallTypes.nextOf (.ref j) >>= _) _ _ _;have to3:∀ c o,c≠z->c≠i->c≠V->s.heap.get? c=some o->g3.get? c=some o:=λc o c1 c2 c3 e=>e3.extBut _ _ c3 (e2.extBut _ _ c2 (e1.extBut _ _ c1 e));refine wpAny_bind (lw (s:={ s with heap:=g3 }) hh (h2.at λo e=>to3 j o D.jz D.ij.symm D.vj.symm e) (hm.at λo e=>to3 m o mz.1 mz.2.2.1 mz.2.1 e) hy λg4 e x4 he=>?_)
  obtain⟨oe,he1,he2⟩:=he;have z4:IsZip g4 z U V .ellipsis:=x4 _ _ D.jz.symm (e3.extBut _ _ D.vz.symm (e2.extBut _ _ D.iz.symm z1));have ez:e≠z:=λx=>by subst x;rw[z4] at he1;cases he1;simp at he2
  refine wpAny_setField_rec z4 (by simp) λg5 _ e5=>?_
  refine wpAny_bind (wpAny_isInstance (T:="StopIteration") (b:=true) ⟨oe,e5.extBut _ _ ez he1,he2⟩ isSubtype_stop (wpAny_pure (q _ λc o c1 c2 c3 c4 x=>?_)));exact e5.extBut _ _ c1 (x4 _ _ c4 (to3 c o c1 c3 c2 x))
end
end Vc


namespace Vc
open PySem L2
variable [KF]
section
variable {X:Cx}{pins:List (Addr×Obj)}{σ:St}{H:Hp}{s:Shared}
theorem ve (I:L2.Inv X pins σ H s){ch:List Addr}(hf:∀ b∈ch,fX X pins H b){h':Heap}{t':Nat}(kp:∀ b o,b∉ch->s.heap.get? b=some o->h'.get? b=some o){T:Addr}{o:HO}(hT:s.heap.objs.size<=T)(new:ObjOk X.prog X.w (bG H T o) h' T o) :
  L2.Inv X pins σ (bG H T o) { s with heap:=h',toks:=t' }:=by
 have Gh:∀ {b u},s.heap.get? b=some u->b≠T:=λe=>Nat.ne_of_lt (Nat.lt_of_lt_of_le (Heap.lt_size e) hT);have trT:∀ {b u},H b=some u->b≠T:=λe=>Nat.ne_of_lt (Nat.lt_of_lt_of_le (I.hok.lt e) hT);have nch:∀ {b u},H b=some u->b∉ch:=λ{b u} e z=>by rw[(hf b z).1] at e;cases e
 refine I.step (g':=s.gens) (d':=s.drawn) (ch:=ch) (λb hb=>?_) (λb u _ _ hc e _=>kp b u hc e) (λb u _ _ hc e _=>⟨u.slots,kp b u hc e⟩) (λb u hc e n=>by rw[ao (Gh e)];exact n) (λb u hc e=>⟨u,kp b u hc e⟩)
  (λb xs e=>by rw[ao (trT e)];exact e) (λb u w e=>by rw[ao (trT e)];exact e) (λb ps e=>⟨#[],by rw[ao (trT e),e];simp⟩) (λm hm=>?_) (λb u e=>?_) I.bare
 ·obtain⟨f0,f1,f2,f3,f4,f5⟩:=hf b hb
  exact⟨f3.imp id λz=>Heap.get?_none_of_le z,f1,f4,f5⟩
 ·obtain⟨ob,es,ep,ho,r⟩:=hm
  refine⟨ob,es,ep,kp _ ob (λz=>?_) ho,r⟩;exact (hf _ z).2.1 rfl
 ·by_cases hb:b=T
  ·subst hb;rw[aH] at e;cases e;exact new
  ·rw[ao hb] at e
   refine (I.hok b u e).stay (λc v hc q=>?_) (λc q=>by rw[ao (trT q)];exact q) (λc xs q=>by rw[ao (trT q)];exact q) λc o u q=>by rw[ao (trT q)];exact q
   rcases hc with z|z
   ·subst z;exact kp _ v (nch e) q
   ·exact kp _ v (nch z) q
theorem vf (I:L2.Inv X pins σ H s){ch:List Addr}(hf:∀ b∈ch,fX X pins H b){h':Heap}{t':Nat}(kp:∀ b o,b∉ch->s.heap.get? b=some o->h'.get? b=some o):L2.Inv X pins σ H { s with heap:=h',toks:=t' }:=by
 have nch:∀ {b u},H b=some u->b∉ch:=λ{b u} e z=>by rw[(hf b z).1] at e;cases e
 refine I.step (g':=s.gens) (d':=s.drawn) (ch:=ch) (λb hb=>?_) (λb u _ _ hc e _=>kp b u hc e) (λb u _ _ hc e _=>⟨u.slots,kp b u hc e⟩) (λb u hc e n=>n) (λb u hc e=>⟨u,kp b u hc e⟩)
  (λb xs e=>e) (λb u w e=>e) (λb ps e=>⟨#[],by rw[e];simp⟩) (λm hm=>?_) (λb u e=>?_) I.bare
 ·obtain⟨f0,f1,f2,f3,f4,f5⟩:=hf b hb
  exact⟨f3.imp id λz=>Heap.get?_none_of_le z,f1,f4,f5⟩
 ·obtain⟨ob,es,ep,ho,r⟩:=hm
  refine⟨ob,es,ep,kp _ ob (λz=>?_) ho,r⟩;exact (hf _ z).2.1 rfl
 ·refine (I.hok b u e).stay (λc v hc q=>?_) (λc q=>q) λc xs q=>q
  rcases hc with z|z
  ·subst z;exact kp _ v (nch e) q
  ·exact kp _ v (nch z) q
end
def Sq (tp:Bool)(K:PySem.W.Frag)(H:Hp)(a:Addr)(xs:List V):Prop:=if tp=true then SqT K H a xs else SqL K H a xs
theorem Sq.is {tp:Bool}{X:Cx}{pins:List (Addr×Obj)}{σ:St}{H:Hp}{s:Shared}{a:Addr}{xs:List V}(I:L2.Inv X pins σ H s)(h:Sq tp X.K H a xs):∃ its:List Value,Vals xs its/\SqA tp s.heap a its.toArray/\a < s.heap.objs.size:=by
 cases tp with
 | true =>
  obtain⟨its,r,p,_⟩:=I.tuple (show SqT X.K H a xs from h)
  exact⟨its,r,p,by obtain⟨o,e,_⟩:=p;exact Heap.lt_size e⟩
 | false =>
  obtain⟨its,r,p,_⟩:=I.list (show SqL X.K H a xs from h)
  exact⟨its,r,p.isList,p.lt⟩
theorem Sq.inj {tp:Bool}{X:Cx}{pins:List (Addr×Obj)}{σ:St}{H:Hp}{s:Shared}{a:Addr}{xs ys:List V}(I:L2.Inv X pins σ H s)(h:Sq tp X.K H a xs)(h':Sq tp X.K H a ys):xs=ys:=by
 cases tp with
 | true=>exact I.tuple_inj h h'
 | false=>exact I.list_inj h h'
def Itz (tp tq:Bool)(K:PySem.W.Frag)(l m:Addr):It :=
  ⟨λn H=>∃ xs ys x y,Sq tp K H l xs/\Sq tq K H m ys/\xs[n]?=some x/\ys[n]?=some y,
   λn H v H'=>∃ p x y,H p=none/\v=.ref p/\H'=bG H p (.tup [x,y])/\(∀ xs,Sq tp K H l xs->xs[n]?=some x)/\∀ ys,Sq tq K H m ys->ys[n]?=some y,
   λn H=>∃ xs ys,Sq tp K H l xs/\Sq tq K H m ys/\(xs.length<=n\/ys.length<=n)⟩
theorem zi {P:Program}{w:World}{K:PySem.W.Frag}{elts:List Expr}{kk:Nat}{tpos:Pos}(tp tq:Bool)(z U V i j l m:Addr)(D:ZAp z U V i j)(lz:l≠z/\l≠V/\l≠i/\l≠j)(mz:m≠z/\m≠V/\m≠i/\m≠j) :
  Turn P w K (.Tuple elts kk tpos) (Itz tp tq K l m) [z,U,V,i,j] z (λn h=>IsZip h z U V .none/\IsPair h U (.ref i) (.ref j)/\(∃ a b,IsPair h V a b)/\SqI tp h i l n/\SqI tq h j m n) where
 mem:=by simp
 obj:=λn h st b hb=>by
  obtain⟨h1,h2,⟨a,c,h3⟩,h4,h5⟩:=st;simp only[List.mem_cons,List.not_mem_nil,or_false] at hb;rcases hb with rfl|rfl|rfl|rfl|rfl
  ·exact⟨_,h1,λv q=>by cases q⟩
  ·exact⟨_,h2,λv q=>by cases q⟩
  ·exact⟨_,h3,λv q=>by cases q⟩
  ·exact h4.live
  ·exact h5.live
 keep:=λn h h' st kp=>by
  obtain⟨h1,h2,⟨a,c,h3⟩,h4,h5⟩:=st;exact⟨kp z (by simp) _ h1,kp U (by simp) _ h2,⟨a,c,kp V (by simp) _ h3⟩,h4.at λo e=>kp i (by simp) o e,h5.at λo e=>kp j (by simp) o e⟩
 item:=by
  intro X hP hw hK hc n pins s σ H E I hf st hg;subst hP hw hK;obtain⟨h1,h2,⟨a,c,h3⟩,h4,h5⟩:=st;obtain⟨xs,ys,x,y,q1,q2,e1,e2⟩:=hg;obtain⟨its,r1,p1,_⟩:=q1.is I;obtain⟨jts,r2,p2,_⟩:=q2.is I;obtain⟨u,hu,ru⟩:=r1.get e1;obtain⟨v,hv,rv⟩:=r2.get e2;refine Hb D lz mz h1 h2 h3 h4 h5 p1 p2 (x:=u) (y:=v) (by simpa using hu) (by simpa using hv) λg z1 v1 i1 j1 t1 s1 k1=>⟨_,rfl,?_⟩
  refine wpAny_letOwnedTupleGo_zip z1 λg' z2 e2'=>?_;have kp:∀ b o,b∉[z,V,i,j]->s.heap.get? b=some o->g'.get? b=some o:=λb o hb e=>by
   simp only[List.mem_cons,List.not_mem_nil,or_false,not_or] at hb;exact e2'.extBut _ _ hb.1 (k1 b o hb.1 hb.2.1 hb.2.2.1 hb.2.2.2 e)
  have zT:s.heap.objs.size≠z:=Nat.ne_of_gt (Heap.lt_size h1);have hf':∀ b∈[z,V,i,j],fX X pins H b:=λb hb=>hf b (by
   simp only[List.mem_cons,List.not_mem_nil,or_false] at hb ⊢;rcases hb with e|e|e|e<;>simp [e])
  have t2:IsPair g' s.heap.objs.size u v:=e2'.extBut _ _ zT t1;have I':=ve (t':=s.toks) (o:=.tup [x,y]) I hf' kp (Nat.le_refl _) ⟨by show 2<=sizeLine;decide,[u,v],.cons ru (.cons rv .nil),⟨_,t2,rfl,_,rfl⟩⟩
  have hfr:H s.heap.objs.size=none:=I.hok.fresh (Nat.le_refl _);refine⟨.ref s.heap.objs.size,bG H s.heap.objs.size (.tup [x,y]),I',rfl,⟨_,x,y,hfr,rfl,rfl,λzs hz=>by rw[hz.inj I q1];exact e1,λzs hz=>by rw[hz.inj I q2];exact e2⟩,⟨z2,e2'.extBut _ _ D.uz (k1 _ _ D.uz D.uv D.ui D.uj h2),⟨u,v,e2'.extBut _ _ D.vz v1⟩,i1.at λo e=>e2'.extBut _ _ D.iz e,j1.at λo e=>e2'.extBut _ _ D.jz e⟩,λb hb=>?_⟩
  have hb':=(hf b hb).1;have:b≠s.heap.objs.size:=by
   obtain⟨o,e,_⟩:∃ o,s.heap.get? b=some o/\True:=by
    simp only[List.mem_cons,List.not_mem_nil,or_false] at hb;rcases hb with rfl|rfl|rfl|rfl|rfl
    ·exact⟨_,h1,trivial⟩
    ·exact⟨_,h2,trivial⟩
    ·exact⟨_,h3,trivial⟩
    ·obtain⟨o,e,_⟩:=h4.live;exact⟨o,e,trivial⟩
    ·obtain⟨o,e,_⟩:=h5.live;exact⟨o,e,trivial⟩
   exact Nat.ne_of_lt (Heap.lt_size e)
  rw[ao this];exact hb'
 done:=by
  intro X hP hw hK hc n pins s σ H E I hf st hg;subst hP hw hK;obtain⟨h1,h2,⟨a,c,h3⟩,h4,h5⟩:=st;obtain⟨xs,ys,q1,q2,hl⟩:=hg;obtain⟨its,r1,p1,_⟩:=q1.is I;obtain⟨jts,r2,p2,_⟩:=q2.is I;have n1:=r1.length;have n2:=r2.length;refine zh (I.ok.hd hc) D lz mz h1 h2 h3 h4 h5 p1 p2 (hl.imp (λq=>by simp;omega) λq=>by simp;omega) λg k1=>⟨rfl,?_⟩
  refine vf (t':=s.toks) (ch:=[z,V,i,j]) I (λb hb=>hf b ?_) λb o hb e=>?_
  ·simp only[List.mem_cons,List.not_mem_nil,or_false] at hb ⊢
   rcases hb with e|e|e|e<;>simp [e]
  ·simp only[List.mem_cons,List.not_mem_nil,or_false,not_or] at hb
   exact k1 b o hb.1 hb.2.1 hb.2.2.1 hb.2.2.2 e
 self:=λ_ _ _ _ _ st h=>wpAny_pyIter_zip st.1 h
theorem Hc (n:Nat):ZAp (n+4) (n+2) (n+3) n (n+1) :=
  ⟨show (n+2:Nat)≠n+4 by omega,show (n+3:Nat)≠n+4 by omega,show (n:Nat)≠n+4 by omega,show (n+1:Nat)≠n+4 by omega,show (n+2:Nat)≠n+3 by omega,
   show (n+2:Nat)≠n by omega,show (n+2:Nat)≠n+1 by omega,show (n+3:Nat)≠n by omega,show (n+3:Nat)≠n+1 by omega,show (n:Nat)≠n+1 by omega⟩
theorem nw {l n:Nat}(h:l < n):l≠n+4/\l≠n+3/\l≠n/\l≠n+1:=by omega
def iZip (K:PySem.W.Frag)(ta:TA):TI:=λσ H R=>ta σ H λvs H1=>∃ tp tq l m xs ys,vs=[.ref l,.ref m]/\Sq tp K H1 l xs/\Sq tq K H1 m ys/\R (Itz tp tq K l m) H1
theorem LJ {X:Cx}{elts:List Expr}{kk:Nat}{tpos:Pos}{a b:Expr}{ta:TA}{p pos:Pos}(hg:Gl X "zip")(hm:X.mg "zip"=none)(ha:PA X [a,b] ta)(hs:starEach [a,b] X.env=[(false,eval a X.env),(false,eval b X.env)])(hs2:starEach [b] X.env=[(false,eval b X.env)]) :
  PI X (.Tuple elts kk tpos) (.Call (.Name "zip" p) [a,b] [] pos) (iZip X.K ta):=by
 intro pins s σ H R I h;refine PyProof.Rows.Call_ (ft I hg hm PyProof.Rows.boot_zip (PyProof.Rows.callWith_type1 (cr (ha pos pins s σ H _ I h) λus s1 ⟨vs,H1,I1,r1,q1⟩=>?_) (by rw[hs,hs2]) (by rw[hs2];rfl)))
 obtain⟨tp,tq,l,m,xs,ys,e,q1,q2,q⟩:=q1;subst e;obtain⟨u,v,rfl,ru,rv⟩:=yv r1;cases ru;cases rv;obtain⟨its,_,p1,ll⟩:=q1.is I1;obtain⟨jts,_,p2,lm⟩:=q2.is I1;refine zg p1 p2 λg z1 u1 v1 i1 j1 k1=>?_;refine wpAny_pyIter_zip z1 ?_;have N:∀ n:Nat,s1.heap.objs.size<=s1.heap.objs.size+n:=λn=>Nat.le_add_right _ _;refine⟨s1.heap.objs.size+4,[s1.heap.objs.size+4,s1.heap.objs.size+2,s1.heap.objs.size+3,s1.heap.objs.size,s1.heap.objs.size+1],_,_,H1,rfl,I1.kept (t':=s1.toks) k1,
  zi tp tq _ _ _ _ _ l m (Hc _) (nw ll) (nw lm),⟨z1,u1,⟨_,_,v1⟩,i1,j1⟩,λb hb=>?_,q⟩
 have hb':s1.heap.objs.size<=b:=by
  simp only[List.mem_cons,List.not_mem_nil,or_false] at hb;rcases hb with rfl|rfl|rfl|rfl|rfl
  ·exact N 4
  ·exact N 2
  ·exact N 3
  ·exact N 0
  ·exact N 1
 exact I1.fpOk hb' (I1.hok.fresh hb')
end Vc


namespace Vc
open PySem L2
variable [KF]
theorem qR {prog:Program}{w:World}{A:Around}(hh:A.handled=none)(tp:Bool)(j a:Addr)(hne:a≠j)(xs:Array Value) :
  Draws prog w A j [j,a] xs.size (λi v=>xs[i]?=some v) (λi h=>SqI tp h j a i/\SqA tp h a xs) where
 live:=λ_ _ st=>let ⟨o,e,_⟩:=st.1.live;⟨o,e⟩
 frame:=λ_ _ _ st kp=>⟨st.1.at λo e=>kp j (by simp) o e,st.2.at λo e=>kp a (by simp) o e⟩
 item:=λi s Q E hi st q=>by
  refine Ha st.1 st.2 (x:=xs[i]) (by simp [hi]) λg w1 e1=>?_
  exact q _ g s.toks (by simp [hi]) ⟨w1,st.2.at λo e=>e1.extBut _ _ hne e⟩ e1
 done:=λs Q E st q=>lw hh st.1 st.2 (by simp) q
def ZG (tp:Bool)(K:PySem.W.Frag)(a:Addr):It :=
 ⟨λn H=>∃ xs x,Sq tp K H a xs/\xs[n]?=some x,λn H v H'=>∃ p x,H p=none/\v=.ref p/\H'=bG H p (.tup [.int n,x])/\∀ xs,Sq tp K H a xs->xs[n]?=some x,λn H=>∃ xs,Sq tp K H a xs/\xs.length=n⟩
theorem xv {P:Program}{w:World}{K:PySem.W.Frag}{elts:List Expr}{kk:Nat}{tpos:Pos}(tp:Bool)(e j a:Addr)(ej:e≠j)(ae:a≠e)(aj:a≠j) :
  Turn P w K (.Tuple elts kk tpos) (ZG tp K a) [e,j] e (λn h=>(∃ old,IsEnum h e j n old)/\SqI tp h j a n) where
 mem:=by simp
 obj:=λn h st b hb=>by
  obtain⟨⟨old,h1⟩,h2⟩:=st;simp only[List.mem_cons,List.not_mem_nil,or_false] at hb;rcases hb with rfl|rfl
  ·exact⟨_,h1,λv q=>by cases q⟩
  ·exact h2.live
 keep:=λn h h' st kp=>by
  obtain⟨⟨old,h1⟩,h2⟩:=st;exact⟨⟨old,kp e (by simp) _ h1⟩,h2.at λo q=>kp j (by simp) o q⟩
 item:=by
  intro X hP hw hK hc n pins s σ H E I hf st hg;subst hP hw hK;obtain⟨⟨old,h1⟩,h2⟩:=st;obtain⟨xs,x,q1,e1⟩:=hg;obtain⟨its,r1,p1,_⟩:=q1.is I;obtain⟨u,hu,ru⟩:=r1.get e1;have hn:n < its.toArray.size:=by
   have:=(List.getElem?_eq_some_iff.mp hu).1;simpa using this
  have Dr:=qR (prog:=X.prog) (w:=X.w) (A:=X.A.in1) (show X.A.in1.handled=none from I.ok.hd hc) tp j a aj its.toArray
  refine wpAny_pyNext_enum_itemD Dr h1 ⟨h2,p1⟩ hn ej (by simp only[List.mem_cons,List.not_mem_nil,or_false,not_or];exact⟨ej,ae.symm⟩) λx' g tk hx' ho st' t1 s1 k1=>⟨_,rfl,?_⟩
  have hxu:x'=u:=by
   have:its.toArray[n]?=some u:=by simpa using hu
   rw[this] at hx';exact (Option.some.inj hx').symm
  subst hxu;refine wpAny_letOwnedTupleGo_enum ho λg' he' es'=>?_;have kp:∀ b o,b∉[e,j]->s.heap.get? b=some o->g'.get? b=some o:=λb o hb q=>by
   simp only[List.mem_cons,List.not_mem_nil,or_false,not_or] at hb;exact es'.extBut _ _ hb.1 (k1 b o hb.1 hb.2 q)
  have eT:s.heap.objs.size≠e:=Nat.ne_of_gt (Heap.lt_size h1);have t2:=es'.extBut _ _ eT t1;have I':=ve (t':=tk+1) (o:=.tup [.int n,x]) I hf kp (Nat.le_refl _) ⟨by show 2<=sizeLine;decide,[.int n tk,x'],.cons ⟨tk,rfl⟩ (.cons ru .nil),⟨_,t2,rfl,_,rfl⟩⟩
  have hfr:H s.heap.objs.size=none:=I.hok.fresh (Nat.le_refl _);refine⟨.ref s.heap.objs.size,bG H s.heap.objs.size (.tup [.int n,x]),I',rfl,⟨_,x,hfr,rfl,rfl,λzs hz=>by rw[hz.inj I q1];exact e1⟩,⟨⟨x',by simpa using he'⟩,st'.1.at λo q=>es'.extBut _ _ ej.symm q⟩,λb hb=>?_⟩
  have hb':=(hf b hb).1;have:b≠s.heap.objs.size:=by
   simp only[List.mem_cons,List.not_mem_nil,or_false] at hb;rcases hb with rfl|rfl
   ·exact eT.symm
   ·obtain⟨o,q,_⟩:=h2.live;exact Nat.ne_of_lt (Heap.lt_size q)
  rw[ao this];exact hb'
 done:=by
  intro X hP hw hK hc n pins s σ H E I hf st hg;subst hP hw hK;obtain⟨⟨old,h1⟩,h2⟩:=st;obtain⟨xs,q1,hl⟩:=hg;obtain⟨its,r1,p1,_⟩:=q1.is I;have n1:=r1.length;have Dr:=qR (prog:=X.prog) (w:=X.w) (A:=X.A.in1) (show X.A.in1.handled=none from I.ok.hd hc) tp j a aj its.toArray
  have hn:its.toArray.size=n:=by rw[List.size_toArray,<- n1,hl]
  rw[hn] at Dr;refine wpAny_pyNext_enum_endD Dr h1 ⟨h2,p1⟩ λg x1=>⟨rfl,?_⟩;refine vf (t':=s.toks) (ch:=[e,j]) I hf λb o hb q=>?_;simp only[List.mem_cons,List.not_mem_nil,or_false,not_or] at hb;exact x1 b o hb.2 q
 self:=λ_ _ _ _ _ st h=>by
  obtain⟨⟨old,h1⟩,_⟩:=st;exact wpAny_pyIter_enum h1 h
variable {G:GE}{k:Nat}{S:Stat}
def VW:D->Option (List D)
 | .lst xs=>some xs
 | .tup xs=>some xs
 | _=>none
def oT (xs ys:List D):List D:=(xs.zip ys).map λp=>.tup [p.1,p.2]
def jO (xs:List D):List D:=xs.mapIdx λi x=>.tup [.int i,x]
def xw (t:eB):eB:=λσ Q=>t σ λds σ1=>match ds with
 | [a,b]=>match VW a,VW b with
  | some xs,some ys=>Q (oT xs ys) σ1
  | _,_=>False
 | _=>False
theorem Rep.sq {F:Hp}{v:V}{d:D}{xs:List D}(r:Rep F v d)(e:VW d=some xs)(K:PySem.W.Frag):∃ tp a vs,v=.ref a/\(∀ H,Same F H->Sq tp K H a vs)/\RepL F vs xs:=by
 cases d with
 | lst ys =>
  cases e;cases r with
  | lst h r=>exact⟨false,_,_,rfl,λH s=>(show SqL K H _ _ from .inl (Rd.mono s h)),r⟩
 | tup ys =>
  cases e;cases r with
  | tup h r=>exact⟨true,_,_,rfl,λH s=>(show SqT K H _ _ from .of (s _ _ h)),r⟩
 | _=>cases e
theorem zj {xs ys:List D}{i:Nat}{d:D}(h:(oT xs ys)[i]?=some d):∃ x y,xs[i]?=some x/\ys[i]?=some y/\d=.tup [x,y]:=by
 unfold oT at h;rw[List.getElem?_map] at h;cases e:(xs.zip ys)[i]? with
 | none=>rw[e] at h;cases h
 | some p =>
  rw[e] at h;obtain⟨e1,e2⟩:=List.getElem?_zip_eq_some.mp e;exact⟨p.1,p.2,e1,e2,(Option.some.inj h).symm⟩
theorem Hd {K:PySem.W.Frag}{F:Hp}{tp tq:Bool}{l m:Addr}{vs us:List V}{xs ys:List D}(h1:∀ H,Same F H->Sq tp K H l vs)(h2:∀ H,Same F H->Sq tq K H m us)(r1:RepL F vs xs)(r2:RepL F us ys):ItRep F (Itz tp tq K l m) (oT xs ys):=λF1 H1 s1 s2 i=>by
 have a1:=h1 H1 (s1.trans s2);have a2:=h2 H1 (s1.trans s2);refine⟨λd e=>?_,λhl=>⟨vs,us,a1,a2,?_⟩⟩
 ·obtain⟨x,y,e1,e2,rfl⟩:=zj e
  obtain⟨v,w1,q1⟩:=r1.get e1;obtain⟨u,w2,q2⟩:=r2.get e2;refine⟨⟨vs,us,v,u,a1,a2,w1,w2⟩,λz H2 yl=>?_⟩;obtain⟨p,v',u',hp,rfl,rfl,f1,f2⟩:=yl;have e1':=f1 vs a1;have e2':=f2 us a2;rw[w1] at e1';cases e1';rw[w2] at e2';cases e2';have sm:=aM (o:=.tup [v,u]) (bq s2 hp);exact⟨bG F1 p (.tup [v,u]),.inr ⟨p,_,hp,rfl,rfl⟩,.tup aH (.cons ((q1.mono s1).mono sm) (.cons ((q2.mono s1).mono sm) .nil))⟩
 ·have:(oT xs ys).length=min xs.length ys.length:=by unfold oT;simp
  have n1:=r1.length;have n2:=r2.length;omega
theorem vg {elts:List Expr}{kk:Nat}{tpos:Pos}{a b:Expr}{t:eB}{p pos:Pos}(h:EDs G k S [a,b] t)(hm:G.mg "zip"=none)(hg:S.sc.lookup ("zip":Str)=some .globalImplicit:=by rfl)(hs:∀ env,starEach [a,b] env=[(false,eval a env),(false,eval b env)]:=by intro _;rfl)(hs2:∀ env,starEach [b] env=[(false,eval b env)]:=by intro _;rfl) :
  EI G k S (.Tuple elts kk tpos) (.Call (.Name "zip" p) [a,b] [] pos) (xw t):=.mk λX Y ok=>lq (LJ (dG ok hg) (by rw[ok.mg];exact hm) (h X Y ok) (hs _) (hs2 _)) λσ H Q q=>by
 obtain⟨F,σd,Qd,R,q,K⟩:=q;refine⟨F,σd,_,R,q,λvs H1 F1 ds σ1 s1 R1 r1 q1=>?_⟩
 split at q1
 ·rename_i x y
  split at q1
  ·rename_i xs ys ex ey
   cases r1 with
   | cons rx r1 =>
    cases r1 with
    | cons ry r1 =>
     cases r1;obtain⟨tp,l,us,rfl,a1,b1⟩:=rx.sq ex X.K;obtain⟨tq,m,ws,rfl,a2,b2⟩:=ry.sq ey X.K;exact⟨tp,tq,l,m,us,ws,rfl,a1 H1 R1.fr,a2 H1 R1.fr,K H1 F1 σ1 _ _ s1 R1 (Hd a1 a2 b1 b2) q1⟩
  ·exact q1.elim
 ·exact q1.elim
theorem He {K:PySem.W.Frag}{F:Hp}{tp:Bool}{l:Addr}{vs:List V}{xs:List D}(h1:∀ H,Same F H->Sq tp K H l vs)(r1:RepL F vs xs):ItRep F (ZG tp K l) (jO xs):=λF1 H1 s1 s2 i=>by
 have a1:=h1 H1 (s1.trans s2);refine⟨λd e=>?_,λhl=>⟨vs,a1,?_⟩⟩
 ·unfold jO at e
  rw[List.getElem?_mapIdx] at e;cases ex:xs[i]? with
  | none=>rw[ex] at e;cases e
  | some x =>
   rw[ex] at e;cases e;obtain⟨v,w1,q1⟩:=r1.get ex;refine⟨⟨vs,v,a1,w1⟩,λz H2 yl=>?_⟩;obtain⟨p,v',hp,rfl,rfl,f1⟩:=yl;have e1':=f1 vs a1;rw[w1] at e1';cases e1';have sm:=aM (o:=.tup [.int i,v]) (bq s2 hp);exact⟨bG F1 p (.tup [.int i,v]),.inr ⟨p,_,hp,rfl,rfl⟩,.tup aH (.cons (.int _) (.cons ((q1.mono s1).mono sm) .nil))⟩
 ·rw[r1.length,hl];unfold jO;simp
end Vc


namespace Vc
open PySem L2
variable [KF]
section
variable {prog:Program}{w:World}{A:Around}{R:Result->Shared->Prop}
def bu (bt:Nat->Nat->Bool):Nat->Nat
 | 0=>0
 | n+1=>if bt (n+1) (bu bt n)=true then n+1 else bu bt n
def lx (prog:Program)(w:World)(A:Around)(op:CmpOp)(h0:Heap)(its:Array Value)(bt:Nat->Nat->Bool):Prop :=
 ∀ (i j:Nat) (x y:Value) (s:Shared) (Q:Value->Shared->Prop) (E:Value->Shared->Prop),its[i]?=some x->its[j]?=some y->(∀ b o,h0.get? b=some o->s.heap.get? b=some o)->Q (.bool (bt i j)) s->wpAny (model prog w) A (richCompare op x y) Q E s
theorem zk {h0:Heap}{its:Array Value}{bt:Nat->Nat->Bool}(hh:A.handled=none)(hc:lx prog w A.in1 .Lt h0 its bt){I l S:Addr}(hl0:h0.IsList l its)(IS:I≠S)(n0:h0.get? I=none)(n1:h0.get? S=none)(kw:List (Str×Value)) :
  ∀ (d j:Nat) (s:Shared) (v:Value) (c:Nat),its.size - (j+1)=d->j+1<=its.size->s.heap.IsListIter I l (j+1)->its[bu bt j]?=some v->s.heap.get? S=some { cls:=.type "list",dict:=none,data:=.seq #[v,v] c,slots:=#[] } ->
  (∀ b o,h0.get? b=some o->s.heap.get? b=some o) ->
  (∀ v g tk,its[bu bt (its.size - 1)]?=some v->(∀ b o,h0.get? b=some o->g.get? b=some o)->R (.ok (.ret v)) { s with heap:=g,toks:=tk }) ->
  codeAny (model prog w) A (.builtin "min.loop" ⟨[.ref I,.none,.ref S],kw⟩) R s:=by
 have nm:(toString "min"++toString ".loop":String)="min.loop":=by decide
 have lI:l≠I:=λz=>by obtain⟨o,e,_⟩:=hl0;rw[z,n0] at e;cases e
 have lS:l≠S:=λz=>by obtain⟨o,e,_⟩:=hl0;rw[z,n1] at e;cases e
 have nI:∀ {b o},h0.get? b=some o->b≠I:=λe z=>by rw[z,n0] at e;cases e
 have nS:∀ {b o},h0.get? b=some o->b≠S:=λe z=>by rw[z,n1] at e;cases e
 intro d
 induction d with
 | zero =>
  intro j s v c hd hj hI hv hS k0 hR;have e1:j+1=its.size:=by omega
  have hl:s.heap.IsList l its:=by obtain⟨o,e,r⟩:=hl0;exact⟨o,k0 _ _ e,r⟩
  refine codeAny_builtin F.entry_min_loop ?_;rw[Around.under_plainId F.plain_min_loop _];show wpAny _ A.in1 (seqItems? (.ref S) >>= _) _ _ s;refine wpAny_bind (wpAny_seqItems hS rfl ?_);show wpAny _ A.in1 (tryCatch (pyNext (.ref I)) _ >>= _) _ _ s;refine wpAny_bind (wpAny_tryCatch (wpAny_pyNext_list_end (show A.in1.handled=none from hh) hI hl (by simp;omega) λg x1=>?_))
  have S1:=x1 S _ IS.symm hS;show wpAny _ A.in1 (updateSeq S (λ_=>#[]) >>= _) _ _ _;refine wpAny_bind (wpAny_updateSeq (s:={ s with heap:=g }) S1 rfl (wpAny_bind (wpAny_letGo (wpAny_pure ?_))))
  have e2:its.size - 1=j:=by omega
  refine hR v _ s.toks (by rw[e2];exact hv) λb o e=>?_
  exact (Heap.get?_update_other _ _ (Ne.symm (nS e))).trans (x1 b o (nI e) (k0 b o e))
 | succ d ih =>
  intro j s v c hd hj hI hv hS k0 hR;have hlt:j+1 < its.size:=by omega
  have hl:s.heap.IsList l its:=by obtain⟨o,e,r⟩:=hl0;exact⟨o,k0 _ _ e,r⟩
  refine codeAny_builtin F.entry_min_loop ?_;rw[Around.under_plainId F.plain_min_loop _];show wpAny _ A.in1 (seqItems? (.ref S) >>= _) _ _ s;refine wpAny_bind (wpAny_seqItems hS rfl ?_);show wpAny _ A.in1 (tryCatch (pyNext (.ref I)) _ >>= _) _ _ s;have hx:its[j+1]?=some its[j+1]:=by simp [hlt]
  refine wpAny_bind (wpAny_tryCatch (wpAny_pyNext_list_item hI hl hx λg I1 x1=>?_));have S1:=x1.extBut S _ IS.symm hS;have k1:∀ b o,h0.get? b=some o->g.get? b=some o:=λb o e=>x1.extBut b o (nI e) (k0 b o e);show wpAny _ A.in1 (tryCatch (holding [its[j+1],its[j+1]] (richCompare .Lt its[j+1] v >>= _)) _ >>= _) _ _ _;refine wpAny_bind (wpAny_tryCatch (wpAny_holding (wpAny_bind (hc (j+1) (bu bt j) _ v { s with heap:=g } _ _ hx hv k1 ?_))))
  refine wpAny_bind (wpAny_holding (wpAny_truthy_bool (wpAny_bind (wpAny_letGo (wpAny_pure ?_)))));cases hb:bt (j+1) (bu bt j) with
  | true =>
   simp only[if_true];refine wpAny_bind (wpAny_updateSeq (s:={ s with heap:=g }) S1 rfl (wpAny_bind (wpAny_letGo ?_)))
   rw[nm];refine wpAny_pure ⟨plainId_quiet F.plain_min_loop _,ih (j+1) _ its[j+1] _ (by omega) hlt ?_ (by simp only[bu,hb,if_true];exact hx) (Heap.get?_update_self _ S1 rfl) (λb o e=>(Heap.get?_update_other _ _ (Ne.symm (nS e))).trans (k1 b o e)) λv' g' tk hv' k'=>?_⟩
   ·obtain⟨o,e,r⟩:=I1;exact⟨o,(Heap.get?_update_other _ _ (Ne.symm IS)).trans e,r⟩
   ·exact hR v' g' tk hv' k'
  | false =>
   simp only[Bool.false_eq_true,if_false];refine wpAny_bind (wpAny_letGo ?_);rw[nm];refine wpAny_pure ⟨plainId_quiet F.plain_min_loop _,ih (j+1) _ v c (by omega) hlt I1 (by simp only[bu,hb,Bool.false_eq_true,if_false];exact hv) S1 k1 λv' g' tk hv' k'=>?_⟩
   exact hR v' g' tk hv' k'
theorem ua (a v:Value):argsOk "min" ⟨[a],[(Str.ofString "default",v)]⟩:=by unfold argsOk;kernel_rfl
theorem qS {E:Value->Shared->Prop}{s:Shared}{its:Array Value}{bt:Nat->Nat->Bool}(hh:A.handled=none)(hc:lx prog w A.in1 .Lt s.heap its bt){l:Addr}(hl:s.heap.IsList l its){dv:Value}{Q:Value->Shared->Prop}
  (q0:its.size=0->∀ g tk,(∀ b o,s.heap.get? b=some o->g.get? b=some o)->Q dv { s with heap:=g,toks:=tk })
  (q1:∀ v g tk,its[bu bt (its.size - 1)]?=some v->(∀ b o,s.heap.get? b=some o->g.get? b=some o)->Q v { s with heap:=g,toks:=tk }) :
  wpAny (model prog w) A (call (.builtin "min") [.ref l] [(Str.ofString "default",dv)]) Q E s:=by
 have nm:(toString "min"++toString ".loop":String)="min.loop":=by decide
 refine wpAny_call (codeAny_call_builtin F.plain_min F.entry_min ?_);have run:wpAny (model prog w) A.in1 (Builtin.«min» ⟨[.ref l],[(Str.ofString "default",dv)]⟩) (λfin s'=>match fin with
   | .done f=>(match (Except.ok f:Result) with|.ok (.ret v)=>Q v s'|.ok _=>False|.error e=>E e s')
   | .again c'=>c'.quiet=true/\codeAny (model prog w) A c' (λr s'=>match r with|.ok (.ret v)=>Q v s'|.ok _=>False|.error e=>E e s') s') E s:=by
  show wpAny _ A.in1 (Builtin.Builtins.bindParams "min" ["key","default"] 0 ⟨[],[(Str.ofString "default",dv)]⟩ >>= _) _ _ s;refine wpAny_bind (wpAny_of_eq (show Builtin.Builtins.bindParams "min" ["key","default"] 0 ⟨[],[(Str.ofString "default",dv)]⟩=pure [none,some dv] from rfl) (wpAny_bind (wpAny_pure ?_)))
  refine wpAny_bind (wpAny_pyIter_list hl (wpAny_bind (wpAny_newObj_type ?_)));generalize hg1:s.heap.push { cls:=.type "list_iterator",data:=.fields #[.ref l,.int 0 0] }=g1;have n1:g1.objs.size=s.heap.objs.size+1:=by rw[<- hg1];exact Heap.size_push ..
  have I0:(g1.push { cls:=.type "list",dict:=none,data:=.seq ([]:List Value).toArray }).IsListIter s.heap.objs.size l 0:=⟨_,Heap.get?_push_of_some _ (by rw[<- hg1];exact Heap.get?_push_size _ rfl),rfl,rfl⟩
  have S0:=Heap.get?_push_size g1 (o:={ cls:=.type "list",dict:=none,data:=.seq ([]:List Value).toArray }) rfl;have k0:∀ b o,s.heap.get? b=some o->(g1.push { cls:=.type "list",dict:=none,data:=.seq ([]:List Value).toArray }).get? b=some o:=λb o e=>Heap.get?_push_of_some _ (by rw[<- hg1];exact Heap.get?_push_of_some _ e)
  have fr:∀ a,s.heap.objs.size<=a->s.heap.get? a=none:=λa ha=>by
   cases e:s.heap.get? a with
   | none=>rfl
   | some o=>exact absurd (Heap.lt_size e) (Nat.not_lt.mpr ha)
  have nI:s.heap.get? s.heap.objs.size=none:=fr _ (Nat.le_refl _);have nS:s.heap.get? g1.objs.size=none:=fr _ (by rw[n1];exact Nat.le_succ _)
  have IS:s.heap.objs.size≠g1.objs.size:=by rw[n1];exact Nat.ne_of_lt (Nat.lt_succ_self _)
  rw[nm];refine wpAny_pure ⟨plainId_quiet F.plain_min_loop _,?_⟩;generalize hg2:g1.push { cls:=.type "list",dict:=none,data:=.seq ([]:List Value).toArray }=g2 at I0 S0 k0;have hl2:g2.IsList l its:=by obtain⟨o,e,r⟩:=hl;exact⟨o,k0 _ _ e,r⟩
  refine codeAny_builtin F.entry_min_loop ?_;rw[Around.under_plainId F.plain_min_loop _];show wpAny _ A.in1 (seqItems? (.ref g1.objs.size) >>= _) _ _ _;refine wpAny_bind (wpAny_seqItems (s:={ s with heap:=g2 }) S0 rfl ?_)
  show wpAny _ A.in1 (tryCatch (pyNext (.ref s.heap.objs.size)) _ >>= _) _ _ _
  by_cases hz:its.size=0
  ·refine wpAny_bind (wpAny_tryCatch (wpAny_pyNext_list_end (show A.in1.handled=none from hh) I0 hl2 (by simp [hz]) λg x1=>?_))
   refine wpAny_bind (wpAny_rule (wpAny_pure ?_));exact q0 hz g s.toks λb o e=>x1 b o (λz=>by rw[z,nI] at e;cases e) (k0 b o e)
  ·have hx:its[0]?=some its[0]:=by simp [Nat.pos_of_ne_zero hz]
   refine wpAny_bind (wpAny_tryCatch (wpAny_pyNext_list_item I0 hl2 hx λg I1 x1=>?_));have S1:=x1.extBut _ _ IS.symm S0;have k1:∀ b o,s.heap.get? b=some o->g.get? b=some o:=λb o e=>x1.extBut b o (λz=>by rw[z,nI] at e;cases e) (k0 b o e)
   show wpAny _ A.in1 (updateSeq g1.objs.size (λ_=>#[its[0],its[0]]) >>= _) _ _ _;refine wpAny_bind (wpAny_updateSeq (s:={ s with heap:=g }) S1 rfl ?_)
   rw[nm];refine wpAny_pure ⟨plainId_quiet F.plain_min_loop _,zk hh hc hl IS nI nS _ _ 0 _ its[0] _ rfl (Nat.pos_of_ne_zero hz) ?_ hx (Heap.get?_update_self _ S1 rfl) (λb o e=>(Heap.get?_update_other _ _ (λz=>by rw[<- z,nS] at e;cases e)).trans (k1 b o e)) λv g' tk hv k'=>q1 v g' tk hv k'⟩
   obtain⟨o,e,r⟩:=I1;exact⟨o,(Heap.get?_update_other _ _ (Ne.symm IS)).trans e,r⟩
 simp only[checkBuiltinCall,F.kind_min];cases hsig:Manifest.signature? "min" with
 | none=>exact wpAny_pure run
 | some sig =>
  have ha:argsOk "min" ⟨[.ref l],[(Str.ofString "default",dv)]⟩:=ua _ _;have ha':Bind.checkArgs "min" sig ⟨[.ref l],[(Str.ofString "default",dv)]⟩=pure ():=by simpa only[argsOk,hsig] using ha
  simp only[ha'];exact wpAny_pure run
end
end Vc


namespace Vc
open PySem L2
variable [KF]
variable {G:GE}{k:Nat}{S:Stat}
def isInt:D->Bool
 | .int _=>true
 | _=>false
def ly:D->Int
 | .int i=>i
 | _=>0
theorem RepL.ints {F:Hp}:∀ {vs:List V} {xs:List D},RepL F vs xs->xs.all isInt=true->vs=(xs.map ly).map V.int
 | _,_,.nil,_=>rfl
 | _,_,.cons (d:=d) r t,h=>by
  rw[List.all_cons,Bool.and_eq_true] at h;cases d with
  | int i =>
   cases r;rw[RepL.ints t h.2];rfl
  | _=>exact absurd h.1 (by simp [isInt])
theorem zl {X:Cx}(hc:X.calm=true):CallR X (.builtin "sum") (λxs H Q=>∃ (a:Addr) (ns:List Int),xs=[.ref a]/\SqL X.K H a (ns.map V.int)/\Q (.int ns.sum) H):=by
 intro pins s σ H xs us Q I r h;obtain⟨a,ns,rfl,hq,q⟩:=h;obtain⟨u,rfl,ru⟩:=cV r;cases ru;obtain⟨its,rv,p,_⟩:=I.list hq;obtain⟨m,F⟩:=I.fr;have hi:=L2.intsAre_of rv;obtain⟨ys,e⟩:=(hi.allInts).items;have pl:=p.isList;rw[e] at pl;refine sum_intListG (I.ok.hd hc) pl λg tk t' kp=>⟨.int ns.sum,H,I.kept kp,⟨t',?_⟩,q⟩;have e1:preSum (numAt ys) ys.size=(PySem.numsOf its.toArray.toList).sum:=by
  rw[e,nums_intItems,preSum_eq,List.take_of_length_le (by simp)]
 rw[e1,show its.toArray.toList=its from rfl,hi.numsOf]
def xx:List D->(EV->Prop)->Prop
 | [.lst xs],Q=>xs.all isInt=true/\Q (.val (.int (xs.map ly).sum))
 | _,_=>False
theorem zm (hh:S.hot=false:=by rfl):xu G k S (.builtin "sum") xx:=⟨λK xs H Q=>∃ (a:Addr) (ns:List Int),xs=[V.ref a]/\SqL K H a (ns.map V.int)/\Q (.int ns.sum) H,λ_ _ ok=>zl (ok.calm hh),λY F H σd σ vs ds Qd Q R r q g=>by
 unfold xx at q
 split at q
 ·obtain⟨v,rfl,rv⟩:=r.one
  obtain⟨p,us,rfl,h1,h2⟩:=rv.lst;refine⟨p,_,rfl,?_,g.val R (.int _) q.2⟩;rw[<- h2.ints q.1];exact .inl h1
 ·exact q.elim⟩

end Vc


namespace Vc
open PySem L2
variable [KF]
variable {G:GE}{k:Nat}{S:Stat}
def en:D->Bool
 | .tup xs=>xs.all isInt
 | _=>false
def mQ:D->D->Bool
 | .int i,.int j=>decide (i < j)
 | .tup xs,.tup ys=>HT.lexLt (xs.map ly) (ys.map ly)
 | _,_=>false
def dk:List D->Option D
 | []=>none
 | x::xs=>some (xs.foldl (λb y=>if mQ y b=true then y else b) x)
def ny (xs:List D)(i j:Nat):Bool:=mQ (xs.getD i .non) (xs.getD j .non)
theorem lA (xs:List D)(x:D):∀ n,n < (x::xs).length->(x::xs).getD (bu (ny (x::xs)) n) .non=(xs.take n).foldl (λb y=>if mQ y b=true then y else b) x
 | 0,_=>rfl
 | n+1,h=>by
  have ih:=lA xs x n (by simp at h ⊢;omega)
  have hl:n < xs.length:=by simpa using h
  have gx:(x::xs).getD (n+1) .non=xs[n]:=by
   rw[List.getD_eq_getElem?_getD,List.getElem?_cons_succ,List.getElem?_eq_getElem hl];rfl
  rw[List.take_add_one,List.getElem?_eq_getElem hl,Option.toList_some,List.foldl_append,List.foldl_cons,List.foldl_nil,<- ih];have e:ny (x::xs) (n+1) (bu (ny (x::xs)) n)=mQ xs[n] ((x::xs).getD (bu (ny (x::xs)) n) .non):=by
   unfold ny;rw[gx]
  show (x::xs).getD (if ny (x::xs) (n+1) (bu (ny (x::xs)) n)=true then n+1 else bu (ny (x::xs)) n) .non=_
  rw[e]
  split
  ·exact gx
  ·rfl
theorem vh {xs:List D}(h:xs≠[]):dk xs=some (xs.getD (bu (ny xs) (xs.length - 1)) .non):=by
 cases xs with
 | nil=>exact absurd rfl h
 | cons x xs =>
  have:=lA xs x xs.length (by simp)
  have e:(x::xs).length - 1=xs.length:=by simp
  rw[e,this,List.take_length];rfl
theorem zn {X:Cx}{pins:List (Addr×Obj)}{σ:St}{H F:Hp}{s:Shared}(I:L2.Inv X pins σ H s)(sm:Same F H)(hu:X.A.in1.units < cLine){vs:List V}{xs:List D}{its:List Value}(rl:RepL F vs xs)(rv:Vals vs its)(hc:xs.all isInt=true\/xs.all en=true) :
  lx X.prog X.w X.A.in1 .Lt s.heap its.toArray (ny xs):=by
 intro i j x y s' Q E ex ey kp q;have ex':its[i]?=some x:=by simpa using ex
 have ey':its[j]?=some y:=by simpa using ey
 have back:∀ {n z},its[n]?=some z->∃ v d,vs[n]?=some v/\xs[n]?=some d/\RelV v z/\Rep F v d:=λ{n z} e=>by
  have hl:n < vs.length:=by rw[rv.length];exact (List.getElem?_eq_some_iff.mp e).1
  have ev:vs[n]?=some vs[n]:=List.getElem?_eq_getElem hl;obtain⟨d,e1,e2⟩:=rl.get' ev;obtain⟨u,e3,e4⟩:=rv.get ev;rw[e] at e3;cases e3;exact⟨_,d,ev,e1,e4,e2⟩
 obtain⟨v,d,_,hd,r1,p1⟩:=back ex';obtain⟨u,e,_,he,r2,p2⟩:=back ey';have bt:ny xs i j=mQ d e:=by
  unfold ny;rw[List.getD_eq_getElem?_getD,List.getD_eq_getElem?_getD,hd,he];rfl
 rw[bt] at q;have md:d∈xs:=List.mem_of_getElem? hd;have me:e∈xs:=List.mem_of_getElem? he;show wpAny _ _ (compareOp .Lt x y) _ _ _;rcases hc with hc|hc
 ·have h1:=List.all_eq_true.mp hc d md
  have h2:=List.all_eq_true.mp hc e me;cases d with
  | int a =>
   cases e with
   | int b =>
    cases p1;cases p2;obtain⟨t,rfl⟩:=r1;obtain⟨t',rfl⟩:=r2;exact PyProof.Rows.lt_int q
   | _=>exact absurd h2 (by simp [isInt])
  | _=>exact absurd h1 (by simp [isInt])
 ·have h1:=List.all_eq_true.mp hc d md
  have h2:=List.all_eq_true.mp hc e me;cases d with
  | tup as =>
   cases e with
   | tup bs =>
    cases p1 with
    | tup hf rf =>
     cases p2 with
     | tup hg rg =>
      cases r1;cases r2;rename_i va vas vb vbs;obtain⟨_,ia,wa,oa,ga,ca⟩:=I.hok _ _ (sm _ _ hf);obtain⟨_,ib,wb,ob,gb,cb⟩:=I.hok _ _ (sm _ _ hg);rw[rf.ints h1] at wa;rw[rg.ints h2] at wb;exact HT.lt_tupInts ⟨oa,kp _ _ ga,ca⟩ ⟨ob,kp _ _ gb,cb⟩ (L2.intsAre_of wa) (L2.intsAre_of wb) hu q
   | _=>exact absurd h2 (by simp [en])
  | _=>exact absurd h1 (by simp [en])
def xz (t:TV)(td:TD):TV:=λσ Q=>t σ λx σ1=>td σ1 λdv σ2=>match drf σ2 x with
 | some (.lst xs)=>(xs.all isInt=true\/xs.all en=true)/\Q (.val ((dk xs).getD dv)) σ2
 | _=>False
theorem vk {e d:Expr}{t:TV}{td:TD}{p kp pos:Pos}(h:EO G k S e t)(hd:ED G k S d td)(hm:G.mg "min"=none)(hg:S.sc.lookup ("min":Str)=some .globalImplicit:=by rfl)
  (he:∀ env,starEach [e] env=[(false,eval e env)]:=by intro _;rfl) (hh:S.hot=false:=by rfl):EO G k S (.Call (.Name "min" p) [e] [⟨some "default",d,kp⟩] pos) (xz t td):=.mk λX Y ok=>by
 intro pins s σ H Q I q;obtain⟨F,σd,Qd,R,q,K⟩:=q;refine wpAny_Call_Name_kw (ft (u:=.builtin "min") I (dG ok hg) (by rw[ok.mg];exact hm) (by decide +kernel) ?_ (by decide) (by decide))
 have ha:PA X [e] (ge (lO Y t) om):=pa_cons (h X Y ok) pa_nil (by rw[he];rfl)
 have hk:PK X [⟨some "default",d,kp⟩] (ge (lD Y td) om):=oo (hd X Y ok) yx;have hA:=ha pos pins s σ H (λvs H1=>∃ v1 F1 x σ1,vs=[v1]/\Same F F1/\RS Y F1 σ1 σ H1/\RepO F1 σ v1 x/\td σ1 (λdv σ2=>match drf σ2 x with
   | some (.lst xs)=>(xs.all isInt=true\/xs.all en=true)/\Qd (.val ((dk xs).getD dv)) σ2
   | _=>False)) I ⟨F,σd,_,R,q,λv1 H1 F1 x σ1 s1 R1 r1 q1=>⟨v1,F1,x,σ1,rfl,s1,R1,r1,q1⟩⟩
 refine PyProof.Rows.callWith_kw (env:=X.env) (cr hA λus s1 h1=>?_) (by rw[he];rfl) (by rw[he];rfl) rfl rfl
 obtain⟨vs,H1,I1,rvs,v1,F1,x,σ1,rfl,sm1,R1,r1,q1⟩:=h1;obtain⟨u1,rfl,ru1⟩:=cV rvs;refine cr (hk pos pins s1 σ H1 (λvs H2=>∃ v2 F2 dv σ2,vs=[v2]/\Same F1 F2/\RS Y F2 σ2 σ H2/\Rep F2 v2 dv/\(match drf σ2 x with
   | some (.lst xs)=>(xs.all isInt=true\/xs.all en=true)/\Qd (.val ((dk xs).getD dv)) σ2
   | _=>False)) I1 ⟨F1,σ1,_,R1,q1,λv2 H2 F2 dv σ2 s2 R2 r2 q2=>⟨v2,F2,dv,σ2,rfl,s2,R2,r2,q2⟩⟩) λws s2 h2=>?_
 obtain⟨vs2,H2,I2,rvs2,v2,F2,dv,σ2,rfl,sm2,R2,r2,q2⟩:=h2;obtain⟨u2,rfl,ru2⟩:=cV rvs2
 split at q2
 ·rename_i xs ex
  obtain⟨hc,q2⟩:=q2;obtain⟨a,vs,rfl,hrd,rl⟩:=(R2.drf (r1.mono sm2) ex).lst;cases ru1;obtain⟨its,rv,pl,_⟩:=I2.list (show SqL X.K H2 a vs from .inl hrd)
  have hu:X.A.in1.units < cLine:=by
   have:=ok.units;show X.A.units+1 < cLine;omega
  have hc':=zn I2 R2.fr hu rl rv hc;have len:its.toArray.size=xs.length:=by rw[List.size_toArray,<- rv.length,rl.length]
  refine qS (I2.ok.hd (ok.calm hh)) hc' pl.isList (λhz g tk kp=>?_) λz g tk hz kp=>?_
  ·have:xs=[]:=List.length_eq_zero_iff.mp (by rw[<- len];exact hz)
   subst this;exact⟨v2,H2,I2.kept kp,ru2,K v2 H2 F2 (.val dv) σ2 (sm1.trans sm2) R2 r2 q2⟩
  ·have hz':its[bu (ny xs) (xs.length - 1)]?=some z:=by rw[len] at hz;simpa using hz
   have hne:xs≠[]:=λe=>by
    subst e;have:its=[]:=List.length_eq_zero_iff.mp (by rw[<- rv.length,rl.length];rfl)
    rw[this] at hz';simp at hz'
   have hl:bu (ny xs) (xs.length - 1) < vs.length:=by rw[rv.length];exact (List.getElem?_eq_some_iff.mp hz').1
   have ev:vs[bu (ny xs) (xs.length - 1)]?=some vs[bu (ny xs) (xs.length - 1)]:=List.getElem?_eq_getElem hl;obtain⟨dd,e1,e2⟩:=rl.get' ev;obtain⟨zz,e3,e4⟩:=rv.get ev;rw[hz'] at e3;cases e3;have eb:dk xs=some dd:=by rw[vh hne,List.getD_eq_getElem?_getD,e1];rfl
   rw[eb] at q2;exact⟨_,H2,I2.kept kp,e4,K _ H2 F2 (.val dd) σ2 (sm1.trans sm2) R2 e2 q2⟩
 ·exact q2.elim
end Vc


namespace Vc
open PySem L2
variable [KF]
variable {G:GE}{k:Nat}{S:Stat}
theorem zo {g:lj}{tb:bQ}{De:EndsD}{items:List D}(I:Nat->Sd->Prop)
  (hstep:∀ i x σ (N:Sd->Prop),items[i]?=some x->I i σ->(∀ σ',I (i+1) σ'->N σ')->g x σ λσ1=>tb { nx:=N,rt:=De.rt,bk:=De.nx,ct:=N } σ1)
  (hend:∀ σ,I items.length σ->De.nx σ) {σ:Sd} (h0:I 0 σ):qO g tb De items σ:=by
 have key:∀ (xs:List D) (i:Nat) (σ:Sd),items.drop i=xs->i<=items.length->I i σ->qO g tb De xs σ:=by
  intro xs
  induction xs with
  | nil =>
   intro i σ e l h;have:items.length<=i:=List.drop_eq_nil_iff.mp e;exact hend σ ((Nat.le_antisymm l this) ▸ h)
  | cons x r ih =>
   intro i σ e l h;have hx:items[i]?=some x:=by
    have:=congrArg (·[0]?) e
    simpa using this
   have hr:items.drop (i+1)=r:=by rw[<- List.drop_drop,e];rfl
   have hl:i < items.length:=(List.getElem?_eq_some_iff.mp hx).1;exact hstep i x σ _ hx h λσ' h'=>ih (i+1) σ' hr hl h'
 exact key items 0 σ rfl (Nat.zero_le _) h0
theorem gU {α:Type}{g:lj}{tc:TB}{te:TD}{σ0:Sd}{Q:List D->Prop}(gi:α->D)(f:α->Option D)(l:List α)
  (h:∀ a∈l,∀ (A:D->Prop) (Bn:Prop),(match f a with|some d=>A d|none=>Bn)->g (gi a) σ0 λσ1=>tc σ1 λb σ2=>if b=true then te σ2 λd σ3=>kr σ0 σ3/\A d else kr σ0 σ2/\Bn)
  (hl:l.length<=sizeLine) (q:Q (l.filterMap f)):eE g tc te σ0 (l.map gi) [] Q:=by
 have key:∀ (l:List α) (acc:List D),(∀ a∈l,∀ (A:D->Prop) (Bn:Prop),(match f a with|some d=>A d|none=>Bn)->g (gi a) σ0 λσ1=>tc σ1 λb σ2=>if b=true then te σ2 λd σ3=>kr σ0 σ3/\A d else kr σ0 σ2/\Bn) ->
   acc.length+l.length<=sizeLine->Q (acc++l.filterMap f)->eE g tc te σ0 (l.map gi) acc Q:=by
  intro l
  induction l with
  | nil=>intro acc _ _ q;simpa [eE] using q
  | cons a l ih =>
   intro acc h hl q;rw[List.length_cons] at hl;rw[List.map_cons];refine h a (List.mem_cons_self ..) (λd=>acc.length < sizeLine/\eE g tc te σ0 (l.map gi) (acc++[d]) Q) (eE g tc te σ0 (l.map gi) acc Q) ?_;have hr:=λy hy=>h y (List.mem_cons_of_mem _ hy);cases e:f a with
   | some d =>
    refine⟨by omega,ih _ hr (by rw[List.length_append,List.length_singleton];omega) ?_⟩
    rw[List.filterMap_cons_some e] at q
    rwa [List.append_assoc]
   | none =>
    refine ih acc hr (by omega) ?_
    rwa [List.filterMap_cons_none e] at q
 exact key l [] h (by simpa using hl) q
theorem bn {α:Type}{g:lj}{te:TD}{σ0:Sd}{Q:List D->Prop}(gi f:α->D)(l:List α)
  (h:∀ a∈l,∀ (A:D->Prop),A (f a)->g (gi a) σ0 λσ1=>te σ1 λd σ3=>kr σ0 σ3/\A d)
  (hl:l.length<=sizeLine) (q:Q (l.map f)):eE g bF te σ0 (l.map gi) [] Q :=
 gU gi (λx=>some (f x)) l (λx hx A Bn ha=>h x hx A ha) hl (by simpa using q)
theorem dQ {α:Type}{g:lj}{tb:bQ}{De:EndsD}(gi:α->D)(l:List α)(I:Nat->Sd->Prop)
  (hstep:∀ i a σ (N:Sd->Prop),l[i]?=some a->I i σ->(∀ σ',I (i+1) σ'->N σ')->g (gi a) σ λσ1=>tb { nx:=N,rt:=De.rt,bk:=De.nx,ct:=N } σ1)
  (hend:∀ σ,I l.length σ->De.nx σ) {σ:Sd} (h0:I 0 σ):qO g tb De (l.map gi) σ:=by
 refine zo I (λi x σ N hx hI hN=>?_) (λσ h=>hend σ (by rwa [List.length_map] at h)) h0
 rw[List.getElem?_map] at hx;cases e:l[i]? with
 | none=>rw[e] at hx;cases hx
 | some a=>rw[e] at hx;cases hx;exact hstep i a σ N e hI hN
theorem cn (lo:Int)(n:Nat):mP lo n=(List.range n).map λi=>.int (lo+(i:Nat)):=rfl
theorem gW {α β:Type}(f:α->D)(g:β->D)(xs:List α)(ys:List β):oT (xs.map f) (ys.map g)=(xs.zip ys).map λp=>.tup [f p.1,g p.2]:=by
 unfold oT;rw[List.zip_map,List.map_map];rfl
theorem xA {α:Type}(f:α->D)(xs:List α):jO (xs.map f)=(xs.mapIdx λi x=>(i,x)).map λp=>.tup [.int (p.1:Nat),f p.2]:=by
 unfold jO;apply List.ext_getElem?;intro i;simp only[List.getElem?_mapIdx,List.getElem?_map];cases xs[i]?<;>rfl
theorem vm {α:Type}{xs:List α}{n:Nat}{d:α}(h:xs[n]?=some d):L2.atI xs (n:Int)=some d:=by
 have hn:=(List.getElem?_eq_some_iff.mp h).1;unfold L2.atI L2.ixN;rw[if_pos (Int.natCast_nonneg n),if_pos (by omega)]
 show xs[(n:Int).toNat]?=some d;rw[Int.toNat_natCast];exact h
theorem bg {xs:List D}{n:Nat}{i:Int}{d:D}{Q:D->Prop}(e:i=(n:Int))(h:xs[n]?=some d)(q:Q d):GO (.lst xs) (.int i) Q:=by
 subst e;show (match L2.atI xs (n:Int) with|some d=>Q d|none=>False)
 rw[vm h];exact q
theorem dE {xs:List D}{n:Nat}{i:Int}{d:D}{Q:D->Prop}(e:i=(n:Int))(h:xs[n]?=some d)(q:Q d):GO (.tup xs) (.int i) Q:=by
 subst e;show (match L2.atI xs (n:Int) with|some d=>Q d|none=>False)
 rw[vm h];exact q
theorem dc {xs:List D}{i:Int}{Q:D->Prop}(h0:0<=i)(h1:i < xs.length)(h:∀ d∈xs,Q d):GO (.lst xs) (.int i) Q:=by
 have hn:i.toNat < xs.length:=by omega
 exact bg (n:=i.toNat) (by omega) (List.getElem?_eq_getElem hn) (h _ (List.getElem_mem hn))
structure FnD (G:GE)(x:Str)(st:Stmt)(ps:List Str)(f:Addr)(fd:FuncData):Prop where
 F:Fun G.K x x st f fd
 m:G.mg x=some (.ref f)
 b:Binds G.K fd ps []
theorem FnD.fg {x:Str}{st:Stmt}{ps N:List Str}{f:Addr}{fd:FuncData}{t:bQ}{sp:aQ}(d:FnD G x st ps f fd)(hK:G.K=KF.K)(Sc:FnScope N ps (af st))(ht:ESs G k ⟨N,(af st).names,[],false,false,false,λ_ _=>False⟩ (ak st) t)
  (len:∀ ds Q,sp ds Q->ds.length=ps.length) (body:∀ ds Q,sp ds Q->t { nx:=λ_=>Q (.sh .non),rt:=λb _=>Q b } (aJ N.length ds)):FnG G (k+1) x sp :=
 ⟨f,fd,ps,IK hK d.F Sc ht len body,d.m,d.F.kp,d.b⟩
theorem ah {t u:bQ}{De:EndsD}{σ:Sd}(h:∀ N,N=u De->t { nx:=N,rt:=De.rt,bk:=De.bk,ct:=De.ct } σ):bA t u De σ:=h _ rfl
end Vc


namespace Vc
open PySem L2
variable [KF]
section
open AutoSeq1 (wpAny_loadPart')
theorem qT (l:Addr)(items:Array Value)(n:Nat)(dct:Option Addr)(sl:Array (Option Value)) :
  Meets (Builtin.«enumerate.__new__» ⟨[.type "enumerate",.ref l],[]⟩) (λ_ R s=>s.heap.get? l=some { cls:=.type "tuple",dict:=dct,data:=.seq items n,slots:=sl } /\
   R (.ok (.ret (.ref (s.heap.push { cls:=.type "tuple_iterator",data:=.fields #[.ref l,.int 0 0] }).objs.size)))
    { s with heap:=(s.heap.push { cls:=.type "tuple_iterator",data:=.fields #[.ref l,.int 0 0] }).push { cls:=.type "enumerate",data:=.fields #[.none,.bool false,.ref s.heap.objs.size,rawInt 0,.none,.none] } }) :=
 .of_wp λprog w A R s h=>by
  obtain⟨hp,g,d,tk,os⟩:=s;obtain⟨hl,h⟩:=h;have hsub:=sub_enumerate;have hL:Heap.IsTuple (Shared.heap ⟨hp,g,d,tk,os⟩) l items:=⟨_,hl,rfl,n,rfl⟩
  wp_walk using wpAny_loadPart' hl
  refine wpAny_stack_any λst=>wpAny_pure ?_
  split
  ·rename_i c _ _ _ _ _
   cases (c==Value.type "enumerate")
   ·wp_walk using wpAny_loadPart' hl,wpAny_pyIter_tuple hL
    exact⟨_,rfl,h⟩
   ·wp_walk using wpAny_loadPart' hl,wpAny_pyIter_tuple hL
    exact⟨_,rfl,h⟩
  ·wp_walk using wpAny_loadPart' hl,wpAny_pyIter_tuple hL
   exact⟨_,rfl,h⟩
theorem ub {prog:Program}{w:World}{A:Around}{E:Value->Shared->Prop}{s:Shared}{l:Addr}{items:Array Value}{Q:Value->Shared->Prop}(hL:s.heap.IsTuple l items)
  (h:∀ h',IsEnum h' (s.heap.objs.size+1) s.heap.objs.size 0 .none->SqI true h' s.heap.objs.size l 0->h'.objs.size=s.heap.objs.size+2 ->
   (∀ b o,s.heap.get? b=some o->h'.get? b=some o)->Q (.ref (s.heap.objs.size+1)) { s with heap:=h' }) :
  wpAny (model prog w) A (call (.type "enumerate") [.ref l]) Q E s:=by
 obtain⟨⟨c,dct,dt,sl⟩,hl,hc,n,hd⟩:=hL
 replace hc:c=.type "tuple":=hc
 replace hd:dt=.seq items n:=hd
 subst hc hd;refine callType_new F.called_enumerate (by decide) (F.typeCall_enumerate_1 _) (F.newCall_enumerate_1 _) (λobj=>F.args_object_init_2 obj _) F.entry_enumerate_new
  (qT l items n dct sl) ⟨hl,?_⟩
 have hz:(s.heap.push { cls:=.type "tuple_iterator",data:=.fields #[.ref l,.int 0 0] }).objs.size=s.heap.objs.size+1:=Heap.size_push ..;show _/\_;rw[hz];have he:IsEnum ((s.heap.push { cls:=.type "tuple_iterator",data:=.fields #[.ref l,.int 0 0] }).push
   { cls:=.type "enumerate",data:=.fields #[.none,.bool false,.ref s.heap.objs.size,rawInt 0,.none,.none] }) (s.heap.objs.size+1) s.heap.objs.size 0 .none:=by
  have:=Heap.get?_push_size (s.heap.push { cls:=.type "tuple_iterator",data:=.fields #[.ref l,.int 0 0] })
   (o:={ cls:=.type "enumerate",data:=.fields #[.none,.bool false,.ref s.heap.objs.size,rawInt 0,.none,.none] }) rfl
  rw[hz] at this;exact this
 refine⟨⟨_,he,rfl⟩,h _ he ⟨_,Heap.get?_push_of_some _ (Heap.get?_push_size _ rfl),rfl,rfl⟩ (by rw[Heap.size_push,hz]) λb o x=>Heap.get?_push_of_some _ (Heap.get?_push_of_some _ x)⟩
end
def LK (K:PySem.W.Frag)(ta:TA):TI:=λσ H R=>ta σ H λvs H1=>∃ tp a xs,vs=[.ref a]/\Sq tp K H1 a xs/\R (ZG tp K a) H1
theorem zp {X:Cx}{elts:List Expr}{kk:Nat}{tpos:Pos}{a:Expr}{ta:TA}{p pos:Pos}(hg:Gl X "enumerate")(hm:X.mg "enumerate"=none)(hv:bootBuiltins "enumerate"=some (.type "enumerate"))(ha:PA X [a] ta)(hs:starEach [a] X.env=[(false,eval a X.env)]) :
  PI X (.Tuple elts kk tpos) (.Call (.Name "enumerate" p) [a] [] pos) (LK X.K ta):=by
 intro pins s σ H R I h;refine PyProof.Rows.Call_ (ft I hg hm hv (PyProof.Rows.callWith_type1 (cr (ha pos pins s σ H _ I h) λus s1 ⟨vs,H1,I1,r1,q1⟩=>?_) hs rfl));obtain⟨tp,l,xs,e,q1,q⟩:=q1;subst e;obtain⟨u,rfl,ru⟩:=cV r1;cases ru;obtain⟨its,_,p1,ll⟩:=q1.is I1;have fin:∀ h',IsEnum h' (s1.heap.objs.size+1) s1.heap.objs.size 0 .none->SqI tp h' s1.heap.objs.size l 0->h'.objs.size=s1.heap.objs.size+2 ->
   (∀ b o,s1.heap.get? b=some o->h'.get? b=some o)->wpAny (model X.prog X.w) X.A (pyIter (.ref (s1.heap.objs.size+1))) (ZV X pins σ (.Tuple elts kk tpos) R) X.xe { s1 with heap:=h' }:=λg e1 i1 n1 k1=>by
  refine wpAny_pyIter_enum e1 ?_;refine⟨s1.heap.objs.size+1,[s1.heap.objs.size+1,s1.heap.objs.size],_,_,H1,rfl,I1.kept (t':=s1.toks) k1,
   xv tp _ _ l (show (s1.heap.objs.size+1:Nat)≠s1.heap.objs.size by omega) (Nat.ne_of_lt (Nat.lt_succ_of_lt ll)) (Nat.ne_of_lt ll),⟨⟨_,e1⟩,i1⟩,λb hb=>?_,q⟩
  have hb':s1.heap.objs.size<=b:=by
   simp only[List.mem_cons,List.not_mem_nil,or_false] at hb;rcases hb with rfl|rfl
   ·exact Nat.le_succ _
   ·exact Nat.le_refl _
  exact I1.fpOk hb' (I1.hok.fresh hb')
 cases tp with
 | true=>exact ub p1 fin
 | false=>exact call_enumerate_list p1 fin
variable {G:GE}{k:Nat}{S:Stat}
def oU (t:eB):eB:=λσ Q=>t σ λds σ1=>match ds with
 | [.lst xs]=>Q (jO xs) σ1
 | [.tup xs]=>Q (jO xs) σ1
 | _=>False
theorem Hf {elts:List Expr}{kk:Nat}{tpos:Pos}{a:Expr}{t:eB}{p pos:Pos}(h:EDs G k S [a] t)(hm:G.mg "enumerate"=none)(hg:S.sc.lookup ("enumerate":Str)=some .globalImplicit:=by rfl)(hs:∀ env,starEach [a] env=[(false,eval a env)]:=by intro _;rfl) :
  EI G k S (.Tuple elts kk tpos) (.Call (.Name "enumerate" p) [a] [] pos) (oU t):=.mk λX Y ok=>lq (zp (dG ok hg) (by rw[ok.mg];exact hm) (by decide +kernel) (h X Y ok) (hs _)) λσ H Q q=>by
 obtain⟨F,σd,Qd,R,q,K⟩:=q;refine⟨F,σd,_,R,q,λvs H1 F1 ds σ1 s1 R1 r1 q1=>?_⟩;have go:∀ d xs,VW d=some xs->RepL F1 vs [d]->Qd (jO xs) σ1->∃ tp a us,vs=[.ref a]/\Sq tp X.K H1 a us/\Q (ZG tp X.K a) H1:=λd xs ex r1 q1=>by
  cases r1 with
  | cons rx r1 =>
   cases r1;obtain⟨tp,l,us,rfl,a1,b1⟩:=rx.sq ex X.K;exact⟨tp,l,us,rfl,a1 H1 R1.fr,K H1 F1 σ1 _ _ s1 R1 (He a1 b1) q1⟩
 split at q1
 ·exact go _ _ rfl r1 q1
 ·exact go _ _ rfl r1 q1
 ·exact q1.elim

theorem zq {X:Cx}:CallR X (.type "range") (λxs H Q=>∃ j:Int,xs=[.int j]/\∀ l,H l=none->Q (.ref l) (bG H l (.rng 0 j))):=by
 intro pins s σ H xs us Q I r h;obtain⟨j,rfl,q⟩:=h;obtain⟨u,rfl,rx⟩:=cV r;obtain⟨t,rfl⟩:=rx;refine call_range_1 ?_;exact⟨.ref s.heap.objs.size,_,I.laid (t':=s.toks+1+1) (o:=.rng 0 j) (λb o e=>Heap.get?_push_of_some _ e) (Nat.le_refl _) ⟨_,_,_,Heap.get?_push_size _ rfl⟩,rfl,q _ I.fresh⟩
def oV (n:Nat):List V:=(List.range n).map λi=>.int (i:Nat)
theorem zr {n:Nat}{acc:Array Value}(h:ItemsOf (λi v=>∃ t,v=.int (0+i*1) t) acc n):Vals (oV n) acc.toList:=by
 obtain⟨h1,h2⟩:=h;have:∀ (xs:List V) (us:List Value),xs.length=us.length->(∀ (i:Nat) v,us[i]?=some v->∃ x,xs[i]?=some x/\RelV x v)->Vals xs us:=by
  intro xs
  induction xs with
  | nil=>intro us hl _;cases us with
   | nil=>exact .nil
   | cons _ _=>simp at hl
  | cons x xs ih=>intro us hl hr;cases us with
   | nil=>simp at hl
   | cons u us =>
    obtain⟨y,hy,ry⟩:=hr 0 u rfl;cases hy;exact .cons ry (ih us (by simpa using hl) λi v e=>hr (i+1) v e)
 refine this _ _ (by simp [oV,h1]) λi v e=>?_
 have hi:i < n:=by
  have:=(List.getElem?_eq_some_iff.mp e).1;simpa [h1] using this
 obtain⟨t,rfl⟩:=h2 i v (by simpa using e)
 refine⟨.int (i:Nat),by simp [oV,hi],⟨t,by simp⟩⟩
theorem mR {X:Cx}(hc:X.calm=true):CallR X (.type "list") (λxs H Q=>∃ p j,xs=[.ref p]/\H p=some (.rng 0 j)/\-(2^62)<=j/\j<=2^24/\∀ l,H l=none->Q (.ref l) (bG H l (.lst (oV j.toNat)))):=by
 intro pins s σ H xs us Q I r h;obtain⟨p,j,rfl,hp,h1,h2,q⟩:=h;obtain⟨u,rfl,rx⟩:=cV r;cases rx;obtain⟨t,u,v,e⟩:=I.hok p _ hp;refine call_list_range (n:=j.toNat) (I.ok.hd hc) (show IsRange s.heap p 0 j 1 t u v from e) (small_one (by omega) (by omega) (by omega) (by omega)) (by rw[rangeSize_one];split<;>omega) (by omega) λh' tk acc' c' kp e' it=>?_
 have hz:(oV j.toNat).length<=sizeLine:=by simp [oV,sizeLine];omega
 exact⟨.ref s.heap.objs.size,_,I.laid (t':=tk) kp (Nat.le_refl _) (show ObjOk X.prog X.w _ h' _ (.lst (oV j.toNat)) from ⟨hz,acc'.toList,c',zr it,by simpa using e'⟩),rfl,q _ I.fresh⟩
def ZH (t:tH):TX:=λσ Q=>t σ λxs σ1=>match drfs σ1 xs with
 | some [.int j]=>(-(2^62)<=j/\j<=2^24)/\Q (.own (mP 0 j.toNat)) σ1
 | _=>False
theorem zt {F:Hp}(n:Nat):RepL F (oV n) (mP 0 n):=by
 unfold oV mP
 induction (List.range n) with
 | nil=>exact .nil
 | cons a as ih=>exact .cons (by simpa using Rep.int _) ih
theorem zu {a:Expr}{t:tH}{p p2 pos pos2:Pos}(h:EOs G k S [a] t)(hm:G.mg "list"=none)(hm2:G.mg "range"=none)(hg:S.sc.lookup ("list":Str)=some .globalImplicit:=by rfl)(hg2:S.sc.lookup ("range":Str)=some .globalImplicit:=by rfl)
  (hs:∀ env,starEach [a] env=[(false,eval a env)]:=by intro _;rfl) (hs2:∀ env,starEach [Expr.Call (.Name "range" p2) [a] [] pos2] env=[(false,eval (Expr.Call (.Name "range" p2) [a] [] pos2) env)]:=by intro _;rfl) (hh:S.hot=false:=by rfl) :
  EX G k S (.Call (.Name "list" p) [.Call (.Name "range" p2) [a] [] pos2] [] pos) (ZH t):=.mk λX Y ok =>
 br (fK (mR (ok.calm hh)) (dG ok hg) (by rw[ok.mg];exact hm) (by decide +kernel) (pa_cons (fK zq (dG ok hg2) (by rw[ok.mg];exact hm2) (by decide +kernel) (h X Y ok) (by decide) (by decide) (hs _) (by rfl)) pa_nil (hs2 _)) (by decide) (by decide) (hs2 _) (by rfl)) λσ H Q q=>by
  obtain⟨F,σd,Qd,R,q,K⟩:=q;refine⟨F,σd,_,R,q,λvs H1 F1 xs σ1 s1 R1 r1 q1=>?_⟩
  split at q1
  ·rename_i j e
   obtain⟨v,rfl,rv⟩:=(R1.drfs r1 e).one;obtain rfl:=rv.int;refine⟨j,rfl,λl hl=>⟨l,j,rfl,aH,q1.1.1,q1.1.2,?_⟩⟩;have R2:RS Y F1 σ1 σ (bG H1 l (.rng 0 j)):=R1.alloc0 hl;have g:Goes Y F1 σ1 σ (λr=>Qd r σ1) Q:=λv H' F' r s R' rr qq=>K v H' F' r σ1 (s1.trans s) R' rr qq;exact g.own R2 (zt _) q1.2
  ·exact q1.elim
end Vc

namespace Vs
open PySem PyProof.Rows
def R (ρ:Keyed->Nat)(xs:Array Keyed)(i:Nat):Nat:=match xs[i]? with
 | some p=>ρ p
 | none=>0
theorem fO {ρ:Keyed->Nat}{xs ys:Array Keyed}{i j:Nat}(h:xs[i]?=ys[j]?):R ρ xs i=R ρ ys j:=by unfold R;rw[h]
theorem R_at {ρ:Keyed->Nat}{xs:Array Keyed}{i:Nat}{p:Keyed}(h:xs[i]?=some p):R ρ xs i=ρ p:=by unfold R;rw[h]
theorem qU {ρ:Keyed->Nat}{xs:Array Keyed}{src d:Nat}(hs:src < xs.size)(hd:d<=src)(k:Nat) :
  R ρ (bubble xs src d) k=if k=src - d then R ρ xs src else if src - d < k/\k<=src then R ρ xs (k - 1) else R ρ xs k:=by
 have e:=getElem?_bubble hs d hd k
 repeat' split
 all_goals (rename_i h1;first | (rename_i h2;first|rw[if_neg h2,if_pos h1] at e|rw[if_neg h2,if_neg h1] at e)|rw[if_pos h1] at e)
 all_goals exact fO e
theorem lC {ρ:Keyed->Nat}{xs:Array Keyed}{i j:Nat}(hj:j<=xs.size)(k:Nat) :
  R ρ (mirror xs i j ((j - i) / 2)) k=if i<=k/\k < j then R ρ xs (i+j - 1 - k) else R ρ xs k:=by
 have e:=getElem?_mirror_all (i:=i) hj k
 split
 ·rename_i h1;rw[if_pos h1] at e;exact fO e
 ·rename_i h1;rw[if_neg h1] at e;exact fO e
theorem cq {ρ:Keyed->Nat}{xs:Array Keyed}{i j:Nat}(hj:j<=xs.size)(heq:∀ k,i<=k->k < j->R ρ xs k=R ρ xs (j - 1))(k:Nat) :
  R ρ (mirror xs i j ((j - i) / 2)) k=R ρ xs k:=by
 rw[lC hj]
 split
 ·rw[heq _ (by omega) (by omega),heq k (by omega) (by omega)]
 ·rfl
def fP (M:Model)(A:Around)(E:Value->Shared->Prop)(s:Shared)(ρ:Keyed->Nat)(kd:SortKind)(P:Keyed->Prop):Prop :=
 ∀ (x y:Keyed) (st:SortSt) (Q:Option Bool->SortSt->Prop),P x->P y->kindOf st=kd->Q (some (decide (ρ x < ρ y))) st->wpS M A E s (lt' x y) Q st
structure SI (kd:SortKind)(a₀:Array Keyed)(st:SortSt):Prop where
 perm:(arrOf st).Perm a₀
 kind:kindOf st=kd
 failed:failedOf st=none
theorem SI.size {kd:SortKind}{a₀:Array Keyed}{st:SortSt}(h:SI kd a₀ st):(arrOf st).size=a₀.size:=h.perm.size_eq
theorem SI.setArr {kd:SortKind}{a₀:Array Keyed}{st:SortSt}(h:SI kd a₀ st){xs:Array Keyed}(hp:xs.Perm (arrOf st)):SI kd a₀ (setArr st xs):=⟨hp.trans h.perm,h.kind,h.failed⟩
theorem SI.at {kd:SortKind}{a₀:Array Keyed}{st:SortSt}(h:SI kd a₀ st){P:Keyed->Prop}(h0:∀ p∈a₀.toList,P p){i:Nat}(hi:i < a₀.size):∃ p,(arrOf st)[i]?=some p/\P p:=by
 have hi':i < (arrOf st).size:=by rw[h.size];exact hi
 exact⟨(arrOf st)[i],getElem?_pos _ i hi',h0 _ ((Array.perm_iff_toList_perm.mp h.perm).mem_iff.mp (by simp))⟩
structure Fw (kd:SortKind)(a₀:Array Keyed)(lo:Nat)(st st':SortSt):Prop where
 si:SI kd a₀ st'
 same:∀ k,k < lo->(arrOf st')[k]?=(arrOf st)[k]?
 pend:pendingOf st'=pendingOf st
theorem Fw.refl {kd:SortKind}{a₀:Array Keyed}{lo:Nat}{st:SortSt}(h:SI kd a₀ st):Fw kd a₀ lo st st:=⟨h,λ_ _=>rfl,rfl⟩
theorem Fw.mirror {kd:SortKind}{a₀:Array Keyed}{lo i j:Nat}{st st':SortSt}(h:Fw kd a₀ lo st st')(hi:lo<=i)(hj:j<=a₀.size):Fw kd a₀ lo st (setArr st' (mirror (arrOf st') i j ((j - i) / 2))) :=
 ⟨h.si.setArr (mirror_perm _ _ _ _),λk hk=>by
  show (PyProof.Rows.mirror (arrOf st') i j ((j - i) / 2))[k]?=_;rw[getElem?_mirror_all (by rw[h.si.size];exact hj),if_neg (by omega)];exact h.same k hk,h.pend⟩
theorem Fw.bubble {kd:SortKind}{a₀:Array Keyed}{lo src d:Nat}{st st':SortSt}(h:Fw kd a₀ lo st st')(hs:src < a₀.size)(hd:lo<=src - d)(hd2:d<=src):Fw kd a₀ lo st (setArr st' (bubble (arrOf st') src d)) :=
 ⟨h.si.setArr (bubble_perm _ _ _),λk hk=>by
  show (PyProof.Rows.bubble (arrOf st') src d)[k]?=_;rw[getElem?_bubble (by rw[h.si.size];exact hs) d hd2,if_neg (by omega),if_neg (by omega)];exact h.same k hk,h.pend⟩
section
variable {M:Model}{A:Around}{E:Value->Shared->Prop}{s:Shared}{ρ:Keyed->Nat}{kd:SortKind}{P:Keyed->Prop}{a₀:Array Keyed}
theorem bi {arr:Array Keyed}{i:Nat}{p:Keyed}{st:SortSt}{Q:Keyed->SortSt->Prop}(h:arr[i]?=some p)(q:Q p st):wpS M A E s (elem' arr i) Q st:=by
 rw[elem'_eq,h];exact wpS_pure q
theorem fv {st:SortSt}{i j:Nat}{Q:Option Bool->SortSt->Prop}(hL:fP M A E s ρ kd P)(h0:∀ p∈a₀.toList,P p)(hB:SI kd a₀ st)(hi:i < a₀.size)(hj:j < a₀.size)
  (h:Q (some (decide (R ρ (arrOf st) i < R ρ (arrOf st) j))) st):wpS M A E s (ltAt' i j) Q st:=by
 obtain⟨p,e1,p1⟩:=hB.at h0 hi;obtain⟨q,e2,p2⟩:=hB.at h0 hj;rw[R_at e1,R_at e2] at h;rw[ltAt'_eq];refine wpS_bind (wpS_get ?_);show wpS _ _ _ _ (do let x <- elem' (arrOf st) i;let y <- elem' (arrOf st) j;lt' x y) Q st
 exact wpS_bind (bi e1 (wpS_bind (bi e2 (hL p q st Q p1 p2 hB.kind h))))
theorem dR {st:SortSt}{i j:Nat}{Q:Unit->SortSt->Prop}(h:Q () (setArr st (mirror (arrOf st) i j ((j - i) / 2)))):wpS M A E s (reverseSlice' i j) Q st:=by
 rw[reverseSlice'_eq];exact wpS_modify h
def Seg (ρ:Keyed->Nat)(xs:Array Keyed)(lo hi:Nat):Prop:=∀ i j,lo<=i->i<=j->j < hi->R ρ xs i<=R ρ xs j
def Neg (ρ:Keyed->Nat)(xs:Array Keyed)(lo hi:Nat):Prop:=∀ i j,lo<=i->i<=j->j < hi->R ρ xs j<=R ρ xs i
theorem Seg.one {xs:Array Keyed}{lo:Nat}:Seg ρ xs lo (lo+1):=λi j h1 h2 h3=>by
 have:i=j:=by omega
 subst this;exact Nat.le_refl _
theorem Seg.snoc {xs:Array Keyed}{lo hi:Nat}(h:Seg ρ xs lo hi)(hl:lo < hi)(hr:R ρ xs (hi - 1)<=R ρ xs hi):Seg ρ xs lo (hi+1):=λi j h1 h2 h3=>by
 by_cases hj:j < hi
 ·exact h i j h1 h2 hj
 ·have:j=hi:=by omega
  subst this
  by_cases hi':i=j
  ·subst hi';exact Nat.le_refl _
  ·exact Nat.le_trans (h i (j - 1) h1 (by omega) (by omega)) hr
theorem Neg.snoc {xs:Array Keyed}{lo hi:Nat}(h:Neg ρ xs lo hi)(hl:lo < hi)(hr:R ρ xs hi<=R ρ xs (hi - 1)):Neg ρ xs lo (hi+1):=λi j h1 h2 h3=>by
 by_cases hj:j < hi
 ·exact h i j h1 h2 hj
 ·have:j=hi:=by omega
  subst this
  by_cases hi':i=j
  ·subst hi';exact Nat.le_refl _
  ·exact Nat.le_trans hr (h i (j - 1) h1 (by omega) (by omega))
def zv (lo a nrem:Nat):StateT SortSt Sem (Option (Option Nat)×Nat) :=
 forIn [a:nrem] ((none,a):Option (Option Nat)×Nat) λ_ __s=>do
  let __x <- ltAt' (lo+__s.snd) (lo+__s.snd - 1)
  match __x with
  | some smaller=>if smaller=true then pure (ForInStep.done (none,__s.snd)) else pure (ForInStep.yield (none,__s.snd+1))
  | _=>pure (ForInStep.done (some none,__s.snd))
theorem qV {st:SortSt}{lo a nrem:Nat}{Q:Option (Option Nat)×Nat->SortSt->Prop}(hL:fP M A E s ρ kd P)(h0:∀ p∈a₀.toList,P p)(hn:lo+nrem<=a₀.size)(ha:1<=a)(han:a<=nrem)(hB:SI kd a₀ st)
  (hs:Seg ρ (arrOf st) lo (lo+a))
  (h:∀ n,a<=n->n<=nrem->Seg ρ (arrOf st) lo (lo+n)->(n=nrem\/R ρ (arrOf st) (lo+n) < R ρ (arrOf st) (lo+n - 1))->Q (none,n) st):wpS M A E s (zv lo a nrem) Q st:=by
 unfold zv;refine wpS_forRange (I:=λx c st'=>st'=st/\c=(none,x)/\Seg ρ (arrOf st) lo (lo+x)) ?step ?fin ⟨rfl,rfl,hs⟩
 case fin =>
  rintro c st' ⟨rfl,rfl,hs'⟩;rw[show max a nrem=nrem by omega] at hs' ⊢
  exact h nrem han (Nat.le_refl _) hs' (.inl rfl)
 case step =>
  rintro x c st' hax hxn ⟨rfl,rfl,hs'⟩;dsimp only;refine wpS_bind (fv hL h0 hB (by omega) (by omega) ?_)
  by_cases hl:R ρ (arrOf st') (lo+x) < R ρ (arrOf st') (lo+x - 1)
  ·simp only[hl,decide_true,if_true]
   exact wpS_pure (h x hax (by omega) hs' (.inr hl))
  ·simp only[hl,decide_false,Bool.false_eq_true,if_false]
   refine wpS_pure ⟨rfl,rfl,?_⟩;exact hs'.snoc (by omega) (by omega)
def qW (lo n nrem:Nat):StateT SortSt Sem (Option Nat):=do
 reverseSlice' lo (lo+n)
 let __s <- zv lo n nrem
 match __s.fst with
 | some r=>pure r
 | none=>pure (some __s.snd)
theorem nz {st st0:SortSt}{lo n nrem:Nat}{Q:Option Nat->SortSt->Prop}(hL:fP M A E s ρ kd P)(h0:∀ p∈a₀.toList,P p)(hn:lo+nrem<=a₀.size)(h1:1<=n)(hnn:n<=nrem)(hB:Fw kd a₀ lo st0 st)
  (hs:Neg ρ (arrOf st) lo (lo+n)) (h:∀ m st',Fw kd a₀ lo st0 st'->1<=m->m<=nrem->Seg ρ (arrOf st') lo (lo+m)->Q (some m) st'):wpS M A E s (qW lo n nrem) Q st:=by
 unfold qW;have hsz:lo+n<=(arrOf st).size:=by rw[hB.si.size];omega
 refine wpS_bind (dR ?_);have hB':=hB.mirror (i:=lo) (j:=lo+n) (Nat.le_refl _) (by omega)
 refine wpS_bind (qV hL h0 hn h1 hnn hB'.si ?_ λm hm1 hm2 hsm _=>wpS_pure (h m _ hB' (by omega) hm2 hsm))
 intro i j hi hij hj;show R ρ (mirror (arrOf st) lo (lo+n) ((lo+n - lo) / 2)) i<=R ρ (mirror (arrOf st) lo (lo+n) ((lo+n - lo) / 2)) j;rw[lC hsz,lC hsz,if_pos (by omega),if_pos (by omega)]
 exact hs _ _ (by omega) (by omega) (by omega)
def vn (lo n nrem:Nat):StateT SortSt Sem (Option (Option Nat)×Nat×Nat) :=
 forIn [n:nrem] ((none,n,0):Option (Option Nat)×Nat×Nat) λ_ __s=>do
  let __x <- ltAt' (lo+__s.snd.fst) (lo+__s.snd.fst - 1)
  match __x with
  | some smaller =>
   if smaller=true then
    if __s.snd.snd > 0 then do
     reverseSlice' (lo+__s.snd.fst - (__s.snd.snd+1)) (lo+__s.snd.fst)
     pure (ForInStep.yield (none,__s.snd.fst+1,0))
    else pure (ForInStep.yield (none,__s.snd.fst+1,0))
   else do
    let __x <- ltAt' (lo+__s.snd.fst - 1) (lo+__s.snd.fst)
    match __x with
    | some larger =>
     if larger=true then pure (ForInStep.done (none,__s.snd.fst,__s.snd.snd))
     else pure (ForInStep.yield (none,__s.snd.fst+1,__s.snd.snd+1))
    | _=>pure (ForInStep.done (some none,__s.snd.fst,__s.snd.snd))
  | _=>pure (ForInStep.done (some none,__s.snd.fst,__s.snd.snd))
theorem xB {st st0:SortSt}{lo n nrem:Nat}{Q:Option (Option Nat)×Nat×Nat->SortSt->Prop}(hL:fP M A E s ρ kd P)(h0:∀ p∈a₀.toList,P p)(hn:lo+nrem<=a₀.size)(h1:1<=n)(hnn:n<=nrem)(hB:Fw kd a₀ lo st0 st)
  (hs:Neg ρ (arrOf st) lo (lo+n))
  (h:∀ m neq st',Fw kd a₀ lo st0 st'->n<=m->m<=nrem->Neg ρ (arrOf st') lo (lo+m)->neq+1<=m->(∀ i,lo+m - (neq+1)<=i->i < lo+m->R ρ (arrOf st') i=R ρ (arrOf st') (lo+m - 1))->Q (none,m,neq) st') :
  wpS M A E s (vn lo n nrem) Q st:=by
 unfold vn;refine wpS_forRange (I:=λx c st'=>∃ neq,c=(none,x,neq)/\Fw kd a₀ lo st0 st'/\Neg ρ (arrOf st') lo (lo+x)/\neq+1<=x /\
   (∀ i,lo+x - (neq+1)<=i->i < lo+x->R ρ (arrOf st') i=R ρ (arrOf st') (lo+x - 1))) ?step ?fin ⟨0,rfl,hB,hs,by omega,λi h1 h2=>by congr 1;omega⟩
 case fin =>
  rintro c st' ⟨neq,rfl,hB',hs',hq,he⟩;rw[show max n nrem=nrem by omega] at hs' hq he ⊢
  exact h nrem neq st' hB' hnn (Nat.le_refl _) hs' hq he
 case step =>
  rintro x c st' hax hxn ⟨neq,rfl,hB',hs',hq,he⟩;dsimp only;have hsz:lo+x<=(arrOf st').size:=by rw[hB'.si.size];omega
  refine wpS_bind (fv hL h0 hB'.si (by omega) (by omega) ?_)
  by_cases hl:R ρ (arrOf st') (lo+x) < R ρ (arrOf st') (lo+x - 1)
  ·simp only[hl,decide_true,if_true]
   have step1:∀ xs:Array Keyed,(∀ k,R ρ xs k=R ρ (arrOf st') k)->Neg ρ xs lo (lo+(x+1)):=λxs hk=>by
    have:=hs'.snoc (by omega) (Nat.le_of_lt hl)
    intro i j h1 h2 h3;rw[hk,hk];exact this i j h1 h2 h3
   by_cases hneq:neq > 0
   ·rw[if_pos hneq]
    refine wpS_bind (dR (wpS_pure ⟨0,rfl,hB'.mirror (by omega) (by omega),step1 _ (cq hsz he),by omega,λi h1 h2=>by congr 1;omega⟩))
   ·rw[if_neg hneq]
    exact wpS_pure ⟨0,rfl,hB',step1 _ (λ_=>rfl),by omega,λi h1 h2=>by congr 1;omega⟩
  ·simp only[hl,decide_false,Bool.false_eq_true,if_false]
   refine wpS_bind (fv hL h0 hB'.si (by omega) (by omega) ?_)
   by_cases hg:R ρ (arrOf st') (lo+x - 1) < R ρ (arrOf st') (lo+x)
   ·simp only[hg,decide_true,if_true]
    exact wpS_pure (h x neq st' hB' hax (by omega) hs' hq he)
   ·simp only[hg,decide_false,Bool.false_eq_true,if_false]
    have heq:R ρ (arrOf st') (lo+x)=R ρ (arrOf st') (lo+x - 1):=by omega
    refine wpS_pure ⟨neq+1,rfl,hB',hs'.snoc (by omega) (by omega),by omega,λi h1 h2=>?_⟩
    rw[show lo+(x+1) - 1=lo+x by omega]
    by_cases hix:i=lo+x
    ·rw[hix]
    ·rw[heq];exact he i (by omega) (by omega)
def qX (lo n nrem:Nat):StateT SortSt Sem (Option Nat):=do
 liftM (rule "list.sort.descending-run")
 let __s <- vn lo (n+1) nrem
 match __s.fst with
 | some r=>pure r
 | none =>
  if __s.snd.snd > 0 then do
   reverseSlice' (lo+__s.snd.fst - (__s.snd.snd+1)) (lo+__s.snd.fst)
   qW lo __s.snd.fst nrem
  else qW lo __s.snd.fst nrem
theorem nB {st st0:SortSt}{lo n nrem:Nat}{Q:Option Nat->SortSt->Prop}(hL:fP M A E s ρ kd P)(h0:∀ p∈a₀.toList,P p)(hn:lo+nrem<=a₀.size)(hnn:n+1<=nrem)(hB:Fw kd a₀ lo st0 st)
  (hs:Neg ρ (arrOf st) lo (lo+(n+1))) (h:∀ m st',Fw kd a₀ lo st0 st'->1<=m->m<=nrem->Seg ρ (arrOf st') lo (lo+m)->Q (some m) st'):wpS M A E s (qX lo n nrem) Q st:=by
 unfold qX;refine wpS_bind (wpS_lift (wpAny_rule ⟨rfl,?_⟩));refine wpS_bind (xB hL h0 hn (by omega) hnn hB hs λm neq st' hB' hm1 hm2 hs' hq he=>?_)
 dsimp only;have hsz:lo+m<=(arrOf st').size:=by rw[hB'.si.size];omega
 by_cases hneq:neq > 0
 ·rw[if_pos hneq]
  refine wpS_bind (dR (nz hL h0 hn (by omega) hm2 (hB'.mirror (by omega) (by omega)) ?_ h))
  intro i j h1 h2 h3;show R ρ (mirror (arrOf st') _ _ _) j<=R ρ (mirror (arrOf st') _ _ _) i;rw[cq hsz he,cq hsz he];exact hs' i j h1 h2 h3
 ·rw[if_neg hneq]
  exact nz hL h0 hn (by omega) hm2 hB' hs' h
local macro_rules|`(tactic| walk_at "s_tail")=>`(tactic| (funext s3;obtain⟨r3,n3⟩:=s3;cases r3<;>rfl))
local macro_rules|`(tactic| walk_at "s_t3")=>`(tactic| (congr 1;funext _w;congr 1;walk_at "s_tail"))
local macro_rules|`(tactic| walk_at "s_desc")=>`(tactic| (congr 1;funext _u;congr 1;congr 1;funext s2;obtain⟨r2,n2,q2⟩:=s2;cases r2 with
  | some r2=>rfl
  | none=>(dsimp only;split;(congr 1;funext _v;walk_at "s_t3");walk_at "s_t3")))
theorem oW (lo nrem:Nat):countRun' lo nrem=(do
  let __s <- zv lo 1 nrem
  match __s.fst with
  | some r=>pure r
  | none =>
   if (__s.snd==nrem)=true then pure (some __s.snd)
   else if __s.snd > 1 then do
    let __x <- ltAt' lo (lo+__s.snd - 1)
    match __x with
    | some rose=>if rose=true then pure (some __s.snd) else do
      reverseSlice' lo (lo+__s.snd)
      qX lo __s.snd nrem
    | _=>pure none
   else qX lo __s.snd nrem):=by
 rw[countRun'_eq];dsimp only;unfold qX qW vn zv;congr 1;funext __s;obtain⟨r,n⟩:=__s;cases r with
 | some r=>rfl
 | none =>
  dsimp only
  split
  ·rfl
  ·split
   ·congr 1
    funext x;cases x with
    | none=>rfl
    | some b =>
     dsimp only
     split
     ·rfl
     ·congr 1
      funext _z;walk_at "s_desc"
   ·walk_at "s_desc"
end
end Vs

namespace Vs
open PySem PyProof.Rows
section
variable {M:Model}{A:Around}{E:Value->Shared->Prop}{s:Shared}{ρ:Keyed->Nat}{kd:SortKind}{P:Keyed->Prop}{a₀:Array Keyed}
theorem oY {st:SortSt}{lo nrem:Nat}{Q:Option Nat->SortSt->Prop}(hL:fP M A E s ρ kd P)(h0:∀ p∈a₀.toList,P p)(hn:lo+nrem<=a₀.size)(h1:1<=nrem)(hB:SI kd a₀ st)
  (h:∀ m st',Fw kd a₀ lo st st'->1<=m->m<=nrem->Seg ρ (arrOf st') lo (lo+m)->Q (some m) st'):wpS M A E s (countRun' lo nrem) Q st:=by
 rw[oW];refine wpS_bind (qV hL h0 hn (Nat.le_refl 1) h1 hB Seg.one λn hn1 hn2 hsn hor=>?_);dsimp only
 by_cases hnn:n=nrem
 ·rw[if_pos (by simpa using hnn)]
  exact wpS_pure (h n st (.refl hB) hn1 hn2 hsn)
 ·rw[if_neg (by simpa using hnn)]
  have hlt:=hor.resolve_left hnn
  by_cases hgt:n > 1
  ·rw[if_pos hgt]
   refine wpS_bind (fv hL h0 hB (by omega) (by omega) ?_)
   by_cases hr:R ρ (arrOf st) lo < R ρ (arrOf st) (lo+n - 1)
   ·simp only[hr,decide_true,if_true]
    exact wpS_pure (h n st (.refl hB) hn1 hn2 hsn)
   ·simp only[hr,decide_false,Bool.false_eq_true,if_false]
    have hsz:lo+n<=(arrOf st).size:=by rw[hB.size];omega
    have hall:∀ k,lo<=k->k < lo+n->R ρ (arrOf st) k=R ρ (arrOf st) (lo+n - 1):=λk hk1 hk2=>by
     have a1:=hsn lo k (Nat.le_refl _) hk1 hk2;have a2:=hsn k (lo+n - 1) hk1 (by omega) (by omega)
     omega
    refine wpS_bind (dR (nB hL h0 hn (by omega) ((Fw.refl hB).mirror (Nat.le_refl _) (by omega)) ?_ h))
    intro i j hi hij hj;show R ρ (mirror (arrOf st) _ _ _) j<=R ρ (mirror (arrOf st) _ _ _) i;rw[cq hsz hall,cq hsz hall]
    by_cases hjn:j < lo+n
    ·rw[hall i hi (by omega),hall j (by omega) hjn];exact Nat.le_refl _
    ·have hj':j=lo+n:=by omega
     subst hj'
     by_cases hi':i=lo+n
     ·subst hi';exact Nat.le_refl _
     ·rw[hall i hi (by omega)];exact Nat.le_of_lt hlt
  ·rw[if_neg hgt]
   have hn1':n=1:=by omega
   subst hn1';refine nB hL h0 hn (by omega) (.refl hB) ?_ h
   intro i j hi hij hj
   by_cases hi':i=j
   ·subst hi';exact Nat.le_refl _
   ·have hi0:i=lo:=by omega
    have hj1:j=lo+1:=by omega
    subst hi0;subst hj1;exact Nat.le_of_lt hlt
theorem lE {st:SortSt}{lo n ok:Nat}{Q:Bool->SortSt->Prop}(hL:fP M A E s ρ kd P)(h0:∀ p∈a₀.toList,P p)(hn:lo+n<=a₀.size)(hok:ok<=n)(hB:SI kd a₀ st)(hs:Seg ρ (arrOf st) lo (lo+ok))
  (h:∀ st',Fw kd a₀ lo st st'->Seg ρ (arrOf st') lo (lo+n)->Q true st'):wpS M A E s (binarySort' lo n ok) Q st:=by
 rw[binarySort'_eq];refine wpS_bind (wpS_mono (wpS_forRange (I:=λk c st'=>c=(none,())/\Fw kd a₀ lo st st'/\Seg ρ (arrOf st') lo (lo+min k n))
  (Q:=λc st'=>c=(none,())/\Fw kd a₀ lo st st'/\Seg ρ (arrOf st') lo (lo+n)) ?step ?fin ?init) ?post)
 case post =>
  rintro c st' ⟨rfl,hB',hs'⟩;exact wpS_pure (h st' hB' hs')
 case init =>
  refine⟨rfl,.refl hB,λi j hi hij hj=>?_⟩
  by_cases h1:ok=0
  ·have:i=j:=by omega
   subst this;exact Nat.le_refl _
  ·exact hs i j hi hij (by omega)
 case fin =>
  rintro c st' ⟨hc,hB',hs'⟩;refine⟨hc,hB',?_⟩
  rwa [show min (max (max ok 1) n) n=n by omega] at hs'
 case step =>
  rintro k c st' hak hkn ⟨rfl,hB',hs'⟩;rw[show min k n=k by omega] at hs'
  have hk:lo+k < a₀.size:=by omega
  refine wpS_bind (wpS_mono (wpS_forRange (I:=λx c st''=>st''=st'/\∃ l r,c=(none,l,r)/\l<=r/\r<=k/\r - l<=k - x /\
    (∀ i,i < l->R ρ (arrOf st') (lo+i)<=R ρ (arrOf st') (lo+k))/\(∀ i,r<=i->i < k->R ρ (arrOf st') (lo+k) < R ρ (arrOf st') (lo+i)))
   (Q:=λc st''=>st''=st'/\∃ l r,c=(none,l,r)/\l<=k /\
    (∀ i,i < l->R ρ (arrOf st') (lo+i)<=R ρ (arrOf st') (lo+k))/\(∀ i,l<=i->i < k->R ρ (arrOf st') (lo+k) < R ρ (arrOf st') (lo+i))) ?istep ?ifin ?iinit) ?ipost)
  case iinit=>exact⟨rfl,0,k,rfl,by omega,by omega,by omega,λi hi=>by omega,λi h1 h2=>by omega⟩
  case ifin =>
   rintro c st'' ⟨rfl,l,r,rfl,hlr,hrk,hm,hlo,hhi⟩;have:l=r:=by omega
   subst this;exact⟨rfl,l,l,rfl,hrk,hlo,hhi⟩
  case istep =>
   rintro x c st'' _ hxk ⟨rfl,l,r,rfl,hlr,hrk,hm,hlo,hhi⟩;dsimp only
   by_cases hge:l>=r
   ·rw[if_pos hge]
    have:l=r:=by omega
    subst this;exact wpS_pure ⟨rfl,l,l,rfl,hrk,hlo,hhi⟩
   ·rw[if_neg hge]
    refine wpS_bind (fv hL h0 hB'.si hk (by omega) ?_)
    by_cases hless:R ρ (arrOf st'') (lo+k) < R ρ (arrOf st'') (lo+(l+r) / 2)
    ·simp only[hless,decide_true,if_true]
     refine wpS_pure ⟨rfl,l,(l+r) / 2,rfl,by omega,by omega,by omega,hlo,λi h1 h2=>?_⟩
     exact Nat.lt_of_lt_of_le hless (hs' _ _ (by omega) (by omega) (by omega))
    ·simp only[hless,decide_false,Bool.false_eq_true,if_false]
     refine wpS_pure ⟨rfl,(l+r) / 2+1,r,rfl,by omega,by omega,by omega,λi h1=>?_,hhi⟩
     exact Nat.le_trans (hs' (lo+i) (lo+(l+r) / 2) (by omega) (by omega) (by omega)) (Nat.not_lt.mp hless)
  case ipost =>
   rintro c st'' ⟨rfl,l,r,rfl,hlk,hlo,hhi⟩;show wpS _ _ _ _ (do moveDown' (lo+k) (lo+l);pure (ForInStep.yield (none,()))) _ _
   rw[moveDown'_eq];refine wpS_bind (wpS_modify (wpS_pure ⟨rfl,hB'.bubble hk (by omega) (by omega),?_⟩))
   rw[show min (k+1) n=k+1 by omega]
   have hks:lo+k < (arrOf st'').size:=by rw[hB'.si.size];exact hk
   intro i j hi hij hj;show R ρ (bubble (arrOf st'') (lo+k) (lo+k - (lo+l))) i<=R ρ (bubble (arrOf st'') (lo+k) (lo+k - (lo+l))) j;rw[qU hks (by omega),qU hks (by omega),show lo+k - (lo+k - (lo+l))=lo+l by omega]
   have hlo':∀ i,lo<=i->i < lo+l->R ρ (arrOf st'') i<=R ρ (arrOf st'') (lo+k):=λi h1 h2=>by
    have:=hlo (i - lo) (by omega);rwa [show lo+(i - lo)=i by omega] at this
   have hhi':∀ i,lo+l<=i->i < lo+k->R ρ (arrOf st'') (lo+k) < R ρ (arrOf st'') i:=λi h1 h2=>by
    have:=hhi (i - lo) (by omega) (by omega);rwa [show lo+(i - lo)=i by omega] at this
   repeat' split
   all_goals first
    | (exfalso;omega)
    | exact Nat.le_refl _
    | exact hlo' _ (by omega) (by omega)
    | exact Nat.le_of_lt (hhi' _ (by omega) (by omega))
    | exact hs' _ _ (by omega) (by omega) (by omega)
def cg:Bool->Keyed->Array Keyed->Nat->Nat->Nat->StateT SortSt Sem (Option Nat):=sortPriv% PySem.Builtin.gallop
def eQ (left:Bool)(key:Keyed)(arr:Array Keyed)(base i:Nat):StateT SortSt Sem (Option Bool):=do
 let x <- elem' arr (base+i)
 if left then lt' x key else return (<- lt' key x).map (!·)
theorem uc (left:Bool)(key:Keyed)(arr:Array Keyed)(base n hint:Nat):cg left key arr base n hint=(do
 let mut lastofs:=0
 let mut ofs:=1
 let mut lo:=0
 let mut hi:=0
 let some right <- eQ left key arr base hint|return none
 if right then
  let maxofs:=n - hint
  for _ in [0:n] do
   if ofs>=maxofs then break
   let some more <- eQ left key arr base (hint+ofs)|return none
   if !more then break
   lastofs:=ofs
   ofs:=2*ofs+1
  lo:=hint+lastofs+1
  hi:=hint+min ofs maxofs
 else
  let maxofs:=hint+1
  for _ in [0:n] do
   if ofs>=maxofs then break
   let some found <- eQ left key arr base (hint - ofs)|return none
   if found then break
   lastofs:=ofs
   ofs:=2*ofs+1
  lo:=hint+1 - min ofs maxofs
  hi:=hint - lastofs
 for _ in [0:n] do
  if lo>=hi then break
  let m:=lo+(hi - lo) / 2
  let some more <- eQ left key arr base m|return none
  if more then lo:=m+1 else hi:=m
 return some hi):=rfl
end
end Vs

namespace Vs
open PySem PyProof.Rows
section
variable {M:Model}{A:Around}{E:Value->Shared->Prop}{s:Shared}{ρ:Keyed->Nat}{kd:SortKind}{P:Keyed->Prop}{a₀:Array Keyed}
def VX (left:Bool)(key:Keyed)(arr:Array Keyed)(base n l h:Nat):StateT SortSt Sem (Option Nat):=do
 let mut lo:=l
 let mut hi:=h
 for _ in [0:n] do
  if lo>=hi then break
  let m:=lo+(hi - lo) / 2
  let some more <- eQ left key arr base m|return none
  if more then lo:=m+1 else hi:=m
 return some hi
def zw (M:Model)(A:Around)(E:Value->Shared->Prop)(s:Shared)(left:Bool)(key:Keyed)(arr:Array Keyed)(base n:Nat)(st:SortSt)(p:Nat->Bool):Prop :=
 ∀ i,i < n->∀ Q:Option Bool->SortSt->Prop,Q (some (p i)) st->wpS M A E s (eQ left key arr base i) Q st
theorem qY {left:Bool}{key:Keyed}{arr:Array Keyed}{base n l h:Nat}{st:SortSt}{p:Nat->Bool}{Q:Option Nat->SortSt->Prop}(hT:zw M A E s left key arr base n st p)(hp:∀ i j,i<=j->j < n->p j=true->p i=true)
  (hlh:l<=h) (hh:h<=n) (h1:∀ i,i < l->p i=true) (h2:∀ i,h<=i->i < n->p i=false)
  (q:∀ k,k<=n->(∀ i,i < k->p i=true)->(∀ i,k<=i->i < n->p i=false)->Q (some k) st):wpS M A E s (VX left key arr base n l h) Q st:=by
 unfold VX;dsimp only;refine wpS_bind (wpS_mono (wpS_forRange (I:=λx c st'=>st'=st/\∃ l h,c=(none,l,h)/\l<=h/\h<=n/\h - l<=n - x/\(∀ i,i < l->p i=true)/\(∀ i,h<=i->i < n->p i=false))
  (Q:=λc st'=>st'=st/\∃ k,c=(none,k,k)/\k<=n/\(∀ i,i < k->p i=true)/\(∀ i,k<=i->i < n->p i=false)) ?step ?fin ⟨rfl,l,h,rfl,hlh,hh,by omega,h1,h2⟩) ?post)
 case post =>
  rintro c st' ⟨rfl,k,rfl,hk,q1,q2⟩;exact wpS_pure (q k hk q1 q2)
 case fin =>
  rintro c st' ⟨rfl,l,h,rfl,a1,a2,a3,a4,a5⟩;have:l=h:=by omega
  subst this;exact⟨rfl,l,rfl,a2,a4,a5⟩
 case step =>
  rintro x c st' _ hx ⟨rfl,l,h,rfl,a1,a2,a3,a4,a5⟩;dsimp only
  by_cases hge:l>=h
  ·rw[if_pos hge]
   have:l=h:=by omega
   subst this;exact wpS_pure ⟨rfl,l,rfl,a2,a4,a5⟩
  ·rw[if_neg hge]
   refine wpS_bind (hT _ (by omega) _ ?_)
   cases hm:p (l+(h - l) / 2) with
   | true =>
    simp only[if_true];exact wpS_pure ⟨rfl,_,_,rfl,by omega,a2,by omega,λi hi=>hp i _ (by omega) (by omega) hm,a5⟩
   | false =>
    simp only[Bool.false_eq_true,if_false];refine wpS_pure ⟨rfl,_,_,rfl,by omega,by omega,by omega,a4,λi hi hn=>?_⟩
    cases e:p i with
    | false=>rfl
    | true=>rw[hp _ i hi hn e] at hm;cases hm
theorem de {left:Bool}{key:Keyed}{arr:Array Keyed}{base n hint:Nat}{st:SortSt}{p:Nat->Bool}{Q:Option Nat->SortSt->Prop}(hT:zw M A E s left key arr base n st p)(hp:∀ i j,i<=j->j < n->p j=true->p i=true)(hn:hint < n)
  (q:∀ k,k<=n->(∀ i,i < k->p i=true)->(∀ i,k<=i->i < n->p i=false)->Q (some k) st):wpS M A E s (cg left key arr base n hint) Q st:=by
 rw[uc];dsimp only;refine wpS_bind (hT hint hn _ ?_);have pf:∀ i j,i<=j->j < n->p i=false->p j=false:=λi j h1 h2 h3=>by
  cases e:p j with
  | false=>rfl
  | true=>rw[hp i j h1 h2 e] at h3;cases h3
 cases h0:p hint with
 | true =>
  dsimp only;rw[if_pos rfl];refine wpS_bind (wpS_mono (wpS_forRange (I:=λx c st'=>st'=st/\∃ l o,c=(none,l,o)/\l < o/\x+1<=o/\hint+l < n/\p (hint+l)=true)
   (Q:=λc st'=>st'=st/\∃ l o,c=(none,l,o)/\l < o/\hint+l < n/\p (hint+l)=true/\(n - hint<=o\/(hint+o < n/\p (hint+o)=false))) ?step ?fin ⟨rfl,0,1,rfl,by omega,by omega,hn,h0⟩) ?post)
  case fin =>
   rintro c st' ⟨rfl,l,o,rfl,a1,a2,a3,a4⟩;exact⟨rfl,l,o,rfl,a1,a3,a4,.inl (by omega)⟩
  case step =>
   rintro x c st' _ hx ⟨rfl,l,o,rfl,a1,a2,a3,a4⟩;dsimp only
   by_cases hge:o>=n - hint
   ·rw[if_pos hge]
    exact wpS_pure ⟨rfl,l,o,rfl,a1,a3,a4,.inl hge⟩
   ·rw[if_neg hge]
    refine wpS_bind (hT _ (by omega) _ ?_)
    cases hm:p (hint+o) with
    | true =>
     simp only[Bool.not_true,Bool.false_eq_true,if_false];exact wpS_pure ⟨rfl,_,_,rfl,by omega,by omega,by omega,hm⟩
    | false =>
     simp only[Bool.not_false,if_true];exact wpS_pure ⟨rfl,_,_,rfl,a1,a3,a4,.inr ⟨by omega,hm⟩⟩
  case post =>
   rintro c st' ⟨rfl,l,o,rfl,a1,a3,a4,a5⟩;refine qY (l:=hint+l+1) (h:=hint+min o (n - hint)) hT hp (by omega) (by omega) (λi hi=>hp i _ (by omega) a3 a4) (λi hi hi2=>?_) q
   rcases a5 with a5|⟨a5,a6⟩
   ·omega
   ·exact pf (hint+o) i (by omega) hi2 a6
 | false =>
  dsimp only;rw[if_neg (by decide)]
  refine wpS_bind (wpS_mono (wpS_forRange (I:=λx c st'=>st'=st/\∃ l o,c=(none,l,o)/\l < o/\x+1<=o/\l<=hint/\p (hint - l)=false)
   (Q:=λc st'=>st'=st/\∃ l o,c=(none,l,o)/\l < o/\l<=hint/\p (hint - l)=false/\(hint+1<=o\/(o<=hint/\p (hint - o)=true))) ?step2 ?fin2 ⟨rfl,0,1,rfl,by omega,by omega,by omega,h0⟩) ?post2)
  case fin2 =>
   rintro c st' ⟨rfl,l,o,rfl,a1,a2,a3,a4⟩;exact⟨rfl,l,o,rfl,a1,a3,a4,.inl (by omega)⟩
  case step2 =>
   rintro x c st' _ hx ⟨rfl,l,o,rfl,a1,a2,a3,a4⟩;dsimp only
   by_cases hge:o>=hint+1
   ·rw[if_pos hge]
    exact wpS_pure ⟨rfl,l,o,rfl,a1,a3,a4,.inl hge⟩
   ·rw[if_neg hge]
    refine wpS_bind (hT _ (by omega) _ ?_)
    cases hm:p (hint - o) with
    | true =>
     simp only[if_true];exact wpS_pure ⟨rfl,_,_,rfl,a1,a3,a4,.inr ⟨by omega,hm⟩⟩
    | false =>
     simp only[Bool.false_eq_true,if_false];exact wpS_pure ⟨rfl,_,_,rfl,by omega,by omega,by omega,hm⟩
  case post2 =>
   rintro c st' ⟨rfl,l,o,rfl,a1,a3,a4,a5⟩;refine qY (l:=hint+1 - min o (hint+1)) (h:=hint - l) hT hp (by omega) (by omega) (λi hi=>?_) (λi hi hi2=>pf (hint - l) i hi hi2 a4) q
   rcases a5 with a5|⟨a5,a6⟩
   ·omega
   ·exact hp i (hint - o) (by omega) (by omega) a6
def nC (ρ:Keyed->Nat)(left:Bool)(key:Keyed)(arr:Array Keyed)(base i:Nat):Bool:=if left=true then decide (R ρ arr (base+i) < ρ key) else !decide (ρ key < R ρ arr (base+i))
theorem nD {left:Bool}{key:Keyed}{arr:Array Keyed}{base n:Nat}{st:SortSt}(hL:fP M A E s ρ kd P)(hk:kindOf st=kd)(pk:P key)(pa:∀ i,i < n->∃ x,arr[base+i]?=some x/\P x):zw M A E s left key arr base n st (nC ρ left key arr base):=λi hi Q q=>by
 obtain⟨x,e,px⟩:=pa i hi;unfold eQ;refine wpS_bind (bi e ?_);unfold nC at q;rw[R_at e] at q;cases left with
 | true =>
  simp only[if_true] at q ⊢;exact hL x key st Q px pk hk q
 | false =>
  simp only[Bool.false_eq_true,if_false] at q ⊢;exact wpS_bind (hL key x st _ pk px hk (wpS_pure q))
end
end Vs

namespace Vs
open PySem PyProof.Rows
def lF:Array Keyed->Array Keyed->StateT SortSt Sem (Array Keyed):=sortPriv% PySem.Builtin.mergeLo
def lH:Array Keyed->Array Keyed->StateT SortSt Sem (Array Keyed):=sortPriv% PySem.Builtin.mergeHi
def dS:Nat->StateT SortSt Sem Unit:=sortPriv% PySem.Builtin.setMinGallop
theorem dL (g:Nat):dS g=modify (λst=>SortSt.mk' (kindOf st) (arrOf st) (pendingOf st) g (failedOf st)):=rfl
def So (ρ:Keyed->Nat)(l:List Keyed):Prop:=l.Pairwise λx y=>ρ x<=ρ y
structure J (ρ:Keyed->Nat)(L O A B:List Keyed):Prop where
 o:So ρ O
 a:So ρ A
 b:So ρ B
 oa:∀ x∈O,∀ y∈A,ρ x<=ρ y
 ob:∀ x∈O,∀ y∈B,ρ x<=ρ y
 p:(O++(A++B)).Perm L
def Good (ρ:Keyed->Nat)(L r:List Keyed):Prop:=So ρ r/\r.Perm L
theorem So.app {ρ:Keyed->Nat}{A B:List Keyed}(h1:So ρ A)(h2:So ρ B)(h:∀ x∈A,∀ y∈B,ρ x<=ρ y):So ρ (A++B):=List.pairwise_append.mpr ⟨h1,h2,h⟩
section
variable {ρ:Keyed->Nat}{L O A B X:List Keyed}{x z:Keyed}
theorem J.manyA (j:J ρ L O (X++A) B)(h:∀ x∈X,∀ y∈B,ρ x<=ρ y):J ρ L (O++X) A B:=by
 obtain⟨a1,a2,a3⟩:=List.pairwise_append.mp j.a;refine⟨j.o.app a1 λx hx y hy=>j.oa x hx y (List.mem_append_left _ hy),a2,j.b,λx hx y hy=>?_,λx hx y hy=>?_,?_⟩
 ·rcases List.mem_append.mp hx with hx|hx
  ·exact j.oa x hx y (List.mem_append_right _ hy)
  ·exact a3 x hx y hy
 ·rcases List.mem_append.mp hx with hx|hx
  ·exact j.ob x hx y hy
  ·exact h x hx y hy
 ·have:=j.p
  simpa [List.append_assoc] using this
theorem J.manyB (j:J ρ L O A (X++B))(h:∀ x∈X,∀ y∈A,ρ x<=ρ y):J ρ L (O++X) A B:=by
 obtain⟨a1,a2,a3⟩:=List.pairwise_append.mp j.b;refine⟨j.o.app a1 λx hx y hy=>j.ob x hx y (List.mem_append_left _ hy),j.a,a2,λx hx y hy=>?_,λx hx y hy=>?_,?_⟩
 ·rcases List.mem_append.mp hx with hx|hx
  ·exact j.oa x hx y hy
  ·exact h x hx y hy
 ·rcases List.mem_append.mp hx with hx|hx
  ·exact j.ob x hx y (List.mem_append_right _ hy)
  ·exact a3 x hx y hy
 ·refine List.Perm.trans ?_ j.p
  rw[List.append_assoc];refine List.Perm.append_left O ?_;rw[<- List.append_assoc,<- List.append_assoc];exact List.Perm.append_right B List.perm_append_comm
theorem J.doneB (j:J ρ L O A []):Good ρ L (O++A):=⟨j.o.app j.a j.oa,by simpa using j.p⟩
theorem J.doneA (j:J ρ L O [] B):Good ρ L (O++B):=⟨j.o.app j.b j.ob,by simpa using j.p⟩
theorem J.last (j:J ρ L O [z] B)(h:∀ y∈B,ρ y<=ρ z):Good ρ L (O++B++[z]):=by
 refine⟨(j.o.app j.b j.ob).app (List.pairwise_singleton ..) λx hx y hy=>?_,?_⟩
 ·rw[List.mem_singleton.mp hy]
  rcases List.mem_append.mp hx with hx|hx
  ·exact j.oa x hx z (List.mem_singleton.mpr rfl)
  ·exact h x hx
 ·refine List.Perm.trans ?_ j.p
  rw[List.append_assoc];exact List.Perm.append_left O List.perm_append_comm
end
theorem gX {a:Array Keyed}{i:Nat}{x:Keyed}(h:a[i]?=some x):a.toList.drop i=x::a.toList.drop (i+1):=by
 have hi:i < a.toList.length:=by
  have:=(Array.getElem?_eq_some_iff.mp h).1;simpa using this
 rw[List.drop_eq_getElem_cons hi];have:a.toList[i]=x:=by
  have:=(Array.getElem?_eq_some_iff.mp h).2;simpa using this
 rw[this]
theorem jr (a:Array Keyed)(i:Nat):(a.extract i a.size).toList=a.toList.drop i:=by
 rw[Array.toList_extract];show (a.toList.drop i).take (a.size - i)=_;exact List.take_of_length_le (by rw[List.length_drop];exact Nat.le_refl _)
theorem kG (a:Array Keyed)(i k:Nat):(a.extract i (i+k)).toList=(a.toList.drop i).take k:=by
 rw[Array.toList_extract];show (a.toList.drop i).take (i+k - i)=_;rw[Nat.add_sub_cancel_left]
theorem qZ (a:Array Keyed)(i k:Nat):a.toList.drop i=(a.toList.drop i).take k++a.toList.drop (i+k):=by
 rw[<- List.drop_drop,List.take_append_drop]
theorem lJ {a:Array Keyed}{i:Nat}(h:i=a.size):a.toList.drop i=[]:=by
 subst h;exact List.drop_length
theorem jP {a:Array Keyed}{i k:Nat}{x:Keyed}(h:x∈(a.toList.drop i).take k):∃ m,m < k/\i+m < a.size/\a[i+m]?=some x:=by
 obtain⟨m,hm,e⟩:=List.mem_iff_getElem.mp h;rw[List.length_take,List.length_drop] at hm;rw[List.getElem_take,List.getElem_drop] at e;have hs:i+m < a.size:=by have:a.toList.length=a.size:=rfl;omega
 exact⟨m,by omega,hs,by rw[Array.getElem?_eq_getElem hs];exact congrArg some (by simpa using e)⟩
theorem zF {a:Array Keyed}{i:Nat}{x:Keyed}(h:x∈a.toList.drop i):∃ m,i<=m/\m < a.size/\a[m]?=some x:=by
 obtain⟨m,hm,e⟩:=List.mem_iff_getElem.mp h;rw[List.length_drop] at hm;rw[List.getElem_drop] at e;have hs:i+m < a.size:=by have:a.toList.length=a.size:=rfl;omega
 exact⟨i+m,by omega,hs,by rw[Array.getElem?_eq_getElem hs];exact congrArg some (by simpa using e)⟩
theorem So.seg {ρ:Keyed->Nat}{a:Array Keyed}(h:So ρ a.toList):Seg ρ a 0 a.size:=λi j _ hij hj=>by
 by_cases e:i=j
 ·subst e;exact Nat.le_refl _
 ·have hi:i < a.size:=by omega
  rw[R_at (Array.getElem?_eq_getElem hi),R_at (Array.getElem?_eq_getElem hj)];have:=List.pairwise_iff_getElem.mp h i j (by simpa using hi) (by simpa using hj) (by omega)
  simpa using this
structure Kp (st st':SortSt):Prop where
 a:arrOf st'=arrOf st
 k:kindOf st'=kindOf st
 p:pendingOf st'=pendingOf st
 f:failedOf st'=failedOf st
theorem Kp.refl {st:SortSt}:Kp st st:=⟨rfl,rfl,rfl,rfl⟩
theorem Kp.min {st st':SortSt}(h:Kp st st')(g:Nat):Kp st (SortSt.mk' (kindOf st') (arrOf st') (pendingOf st') g (failedOf st')):=⟨h.a,h.k,h.p,h.f⟩
section
variable {M:Model}{A:Around}{E:Value->Shared->Prop}{s:Shared}{ρ:Keyed->Nat}{kd:SortKind}{P:Keyed->Prop}
theorem cW {a:Array Keyed}(pa:∀ x∈a.toList,P x){i:Nat}(h:i < a.size):∃ x,a[i]?=some x/\P x :=
 ⟨a[i],Array.getElem?_eq_getElem h,pa _ (by simp)⟩
theorem zG {key:Keyed}{arr:Array Keyed}{base:Nat}{st:SortSt}{Q:Option Nat->SortSt->Prop}(hL:fP M A E s ρ kd P)(hk:kindOf st=kd)(pk:P key)(pa:∀ x∈arr.toList,P x)(hs:So ρ arr.toList)(hb:base < arr.size)
  (q:∀ k,base+k<=arr.size->(∀ x∈(arr.toList.drop base).take k,ρ x<=ρ key)->(∀ x∈arr.toList.drop (base+k),ρ key < ρ x)->Q (some k) st):wpS M A E s (cg false key arr base (arr.size - base) 0) Q st:=by
 refine de (nD hL hk pk λi hi=>cW pa (by omega)) (λi j hij hj h=>?_) (by omega) λk hk1 h1 h2=>q k (by omega) (λx hx=>?_) λx hx=>?_
 ·have:=hs.seg (base+i) (base+j) (Nat.zero_le _) (by omega) (by omega)
  simp only[nC,Bool.false_eq_true,if_false,Bool.not_eq_true',decide_eq_false_iff_not] at h ⊢;omega
 ·obtain⟨m,hm,hm2,e⟩:=jP hx
  have:=h1 m hm;simp only[nC,Bool.false_eq_true,if_false,Bool.not_eq_true',decide_eq_false_iff_not,R_at e] at this;omega
 ·obtain⟨m,hm,hm2,e⟩:=zF hx
  have:=h2 (m - base) (by omega) (by omega)
  rw[show base+k=base+k from rfl] at hm
  simp only[nC,Bool.false_eq_true,if_false,show base+(m - base)=m by omega,R_at e,Bool.not_eq_false',decide_eq_true_eq] at this
  exact this
theorem zH {key:Keyed}{arr:Array Keyed}{base:Nat}{st:SortSt}{Q:Option Nat->SortSt->Prop}(hL:fP M A E s ρ kd P)(hk:kindOf st=kd)(pk:P key)(pa:∀ x∈arr.toList,P x)(hs:So ρ arr.toList)(hb:base < arr.size)
  (q:∀ k,base+k<=arr.size->(∀ x∈(arr.toList.drop base).take k,ρ x < ρ key)->(∀ x∈arr.toList.drop (base+k),ρ key<=ρ x)->Q (some k) st):wpS M A E s (cg true key arr base (arr.size - base) 0) Q st:=by
 refine de (nD hL hk pk λi hi=>cW pa (by omega)) (λi j hij hj h=>?_) (by omega) λk hk1 h1 h2=>q k (by omega) (λx hx=>?_) λx hx=>?_
 ·have:=hs.seg (base+i) (base+j) (Nat.zero_le _) (by omega) (by omega)
  simp only[nC,if_true,decide_eq_true_eq] at h ⊢;omega
 ·obtain⟨m,hm,hm2,e⟩:=jP hx
  have:=h1 m hm;simp only[nC,if_true,decide_eq_true_eq,R_at e] at this;omega
 ·obtain⟨m,hm,hm2,e⟩:=zF hx
  have:=h2 (m - base) (by omega) (by omega)
  simp only[nC,if_true,show base+(m - base)=m by omega,R_at e,decide_eq_false_iff_not] at this
  omega
end
end Vs

namespace Vs
open PySem PyProof.Rows
section
variable {M:Model}{Ar:Around}{E:Value->Shared->Prop}{s:Shared}{ρ:Keyed->Nat}{kd:SortKind}{P:Keyed->Prop}{a b out:Array Keyed}{L:List Keyed}{ia ib:Nat}
abbrev GS:=Option (Array Keyed)×Array Keyed×Nat×Nat×Nat×Nat×Nat
def Hg (a b out:Array Keyed)(ia ib g k k1:Nat):StateT SortSt Sem (ForInStep GS):=do
 let y <- elem' a ia
 if (ia+1+1==a.size)=true then pure (ForInStep.done (some (out.push y++b.extract ib b.size++a.extract (ia+1) a.size),out.push y,ia+1,ib,g,k,k1))
 else if (decide (k < 7)&&decide (k1 < 7))=true then pure (ForInStep.done (none,out.push y,ia+1,ib,g,k,k1))
 else pure (ForInStep.yield (none,out.push y,ia+1,ib,g,k,k1))
def Hh (a b out:Array Keyed)(ia ib g k bc:Nat):StateT SortSt Sem (ForInStep GS):=do
 let x <- elem' b ib
 if (ib+1==b.size)=true then pure (ForInStep.done (some (out.push x++a.extract ia a.size++b.extract (ib+1) b.size),out.push x,ia,ib+1,g,k,bc))
 else do
  let y <- elem' a ia
  let r <- cg true y b (ib+1) (b.size - (ib+1)) 0
  match r with
  | some k1 =>
   if k1 > 0 then
    if (ib+1+k1==b.size)=true then pure (ForInStep.done (some (out.push x++b.extract (ib+1) (ib+1+k1)++a.extract ia a.size++b.extract (ib+1+k1) b.size),out.push x++b.extract (ib+1) (ib+1+k1),ia,ib+1+k1,g,k,k1))
    else Hg a b (out.push x++b.extract (ib+1) (ib+1+k1)) ia (ib+1+k1) g k k1
   else Hg a b (out.push x) ia (ib+1) g k k1
  | _=>pure (ForInStep.done (some (out.push x++a.extract ia a.size++b.extract (ib+1) b.size),out.push x,ia,ib+1,g,k,bc))
def Hj (a b out:Array Keyed)(ia ib g ac bc:Nat):StateT SortSt Sem (ForInStep GS):=do
 let x <- elem' b ib
 let r <- cg false x a ia (a.size - ia) 0
 match r with
 | some k =>
  if k > 0 then
   if (ia+k+1==a.size)=true then pure (ForInStep.done (some (out++a.extract ia (ia+k)++b.extract ib b.size++a.extract (ia+k) a.size),out++a.extract ia (ia+k),ia+k,ib,g,k,bc))
   else if (ia+k==a.size)=true then pure (ForInStep.done (some (out++a.extract ia (ia+k)++a.extract (ia+k) a.size++b.extract ib b.size),out++a.extract ia (ia+k),ia+k,ib,g,k,bc))
   else Hh a b (out++a.extract ia (ia+k)) (ia+k) ib g k bc
  else Hh a b out ia ib g k bc
 | _=>pure (ForInStep.done (some (out++a.extract ia a.size++b.extract ib b.size),out,ia,ib,g,ac,bc))
def V (ρ:Keyed->Nat)(L:List Keyed)(a b out:Array Keyed)(ia ib:Nat):Prop:=J ρ L out.toList (a.toList.drop ia) (b.toList.drop ib)
theorem V.lastA (j:V ρ L a b out ia ib)(e:ia+1=a.size)(hz:∀ y∈b.toList,∀ z,a[a.size - 1]?=some z->ρ y<=ρ z):Good ρ L (out++b.extract ib b.size++a.extract ia a.size).toList:=by
 have ha:ia < a.size:=by omega
 have e1:a.toList.drop ia=[a[ia]]:=by rw[gX (Array.getElem?_eq_getElem ha),lJ e]
 have j':J ρ L out.toList (a.toList.drop ia) (b.toList.drop ib):=j;rw[e1] at j';rw[Array.toList_append,Array.toList_append,jr,jr,e1];refine j'.last λy hy=>hz y (List.mem_of_mem_drop hy) _ ?_;rw[show a.size - 1=ia by omega];exact Array.getElem?_eq_getElem ha
theorem V.doneB (j:V ρ L a b out ia ib)(e:ib=b.size):Good ρ L (out++a.extract ia a.size++b.extract ib b.size).toList:=by
 have j':J ρ L out.toList (a.toList.drop ia) (b.toList.drop ib):=j;rw[lJ e] at j';rw[Array.toList_append,Array.toList_append,jr,jr,lJ e,List.append_nil];exact j'.doneB
theorem V.doneA (j:V ρ L a b out ia ib)(e:ia=a.size):Good ρ L (out++a.extract ia a.size++b.extract ib b.size).toList:=by
 have j':J ρ L out.toList (a.toList.drop ia) (b.toList.drop ib):=j;rw[lJ e] at j';rw[Array.toList_append,Array.toList_append,jr,jr,lJ e,List.append_nil];exact j'.doneA
theorem V.pushA {x:Keyed}(j:V ρ L a b out ia ib)(e:a[ia]?=some x)(h:∀ y∈b.toList.drop ib,ρ x<=ρ y):V ρ L a b (out.push x) (ia+1) ib:=by
 have j':J ρ L out.toList (a.toList.drop ia) (b.toList.drop ib):=j;rw[gX e] at j';show J ρ L (out.push x).toList _ _;rw[Array.toList_push];exact J.manyA (X:=[x]) j' λz hz y hy=>by rw[List.mem_singleton.mp hz];exact h y hy
theorem V.pushB {x:Keyed}(j:V ρ L a b out ia ib)(e:b[ib]?=some x)(h:∀ y∈a.toList.drop ia,ρ x<=ρ y):V ρ L a b (out.push x) ia (ib+1):=by
 have j':J ρ L out.toList (a.toList.drop ia) (b.toList.drop ib):=j;rw[gX e] at j';show J ρ L (out.push x).toList _ _;rw[Array.toList_push];exact J.manyB (X:=[x]) j' λz hz y hy=>by rw[List.mem_singleton.mp hz];exact h y hy
theorem V.manyA {k:Nat}(j:V ρ L a b out ia ib)(h:∀ x∈(a.toList.drop ia).take k,∀ y∈b.toList.drop ib,ρ x<=ρ y):V ρ L a b (out++a.extract ia (ia+k)) (ia+k) ib:=by
 have j':J ρ L out.toList (a.toList.drop ia) (b.toList.drop ib):=j;rw[qZ a ia k] at j';show J ρ L (out++a.extract ia (ia+k)).toList _ _;rw[Array.toList_append,kG];exact J.manyA j' h
theorem V.manyB {k:Nat}(j:V ρ L a b out ia ib)(h:∀ x∈(b.toList.drop ib).take k,∀ y∈a.toList.drop ia,ρ x<=ρ y):V ρ L a b (out++b.extract ib (ib+k)) ia (ib+k):=by
 have j':J ρ L out.toList (a.toList.drop ia) (b.toList.drop ib):=j;rw[qZ b ib k] at j';show J ρ L (out++b.extract ib (ib+k)).toList _ _;rw[Array.toList_append,kG];exact J.manyB j' h
theorem V.headA {x:Keyed}(j:V ρ L a b out ia ib)(e:a[ia]?=some x):∀ y∈a.toList.drop ia,ρ x<=ρ y:=λy hy=>by
 have:=j.a;rw[gX e] at this hy;rcases List.mem_cons.mp hy with rfl|hy
 ·exact Nat.le_refl _
 ·exact (List.pairwise_cons.mp this).1 y hy
theorem V.headB {x:Keyed}(j:V ρ L a b out ia ib)(e:b[ib]?=some x):∀ y∈b.toList.drop ib,ρ x<=ρ y:=λy hy=>by
 have:=j.b;rw[gX e] at this hy;rcases List.mem_cons.mp hy with rfl|hy
 ·exact Nat.le_refl _
 ·exact (List.pairwise_cons.mp this).1 y hy
def gz (ρ:Keyed->Nat)(L:List Keyed)(a b:Array Keyed)(t:Nat)(out:Array Keyed)(ia ib:Nat):Prop:=V ρ L a b out ia ib/\ia+1 < a.size/\ib < b.size/\t<=ia+ib
def PG (ρ:Keyed->Nat)(L:List Keyed)(a b:Array Keyed)(t:Nat)(st0:SortSt)(r:ForInStep GS)(st:SortSt):Prop:=Kp st0 st/\match r with
 | .done c=>(∃ arr,c.1=some arr/\Good ρ L arr.toList)\/(c.1=none/\gz ρ L a b t c.2.1 c.2.2.1 c.2.2.2.1)
 | .yield c=>c.1=none/\gz ρ L a b t c.2.1 c.2.2.1 c.2.2.2.1
structure Two (ρ:Keyed->Nat)(P:Keyed->Prop)(a b:Array Keyed):Prop where
 pa:∀ x∈a.toList,P x
 pb:∀ x∈b.toList,P x
 sa:So ρ a.toList
 sb:So ρ b.toList
 a1:1<=a.size
 b1:1<=b.size
 z:∀ y∈b.toList,∀ z,a[a.size - 1]?=some z->ρ y<=ρ z
 y:∀ y∈a.toList,∀ z,b[0]?=some z->ρ z<=ρ y
theorem rb {st st0:SortSt}{g k k1 t:Nat}(T:Two ρ P a b)(hK:Kp st0 st)(j:V ρ L a b out ia ib)(h1:ia+1 < a.size)(h2:ib < b.size)(ht:t<=ia+ib)
  (h:∀ x,a[ia]?=some x->∀ y∈b.toList.drop ib,ρ x<=ρ y):wpS M Ar E s (Hg a b out ia ib g k k1) (PG ρ L a b t st0) st:=by
 unfold Hg;obtain⟨y,ey,py⟩:=cW T.pa (show ia < a.size by omega)
 refine wpS_bind (bi ey ?_);have j':=j.pushA ey (h y ey)
 by_cases e:ia+1+1=a.size
 ·rw[if_pos (by simpa using e)]
  exact wpS_pure ⟨hK,.inl ⟨_,rfl,j'.lastA e T.z⟩⟩
 ·rw[if_neg (by simpa using e)]
  split
  ·exact wpS_pure ⟨hK,.inr ⟨rfl,j',by show ia+1+1 < a.size;omega,h2,by show t<=ia+1+ib;omega⟩⟩
  ·exact wpS_pure ⟨hK,rfl,j',by show ia+1+1 < a.size;omega,h2,by show t<=ia+1+ib;omega⟩
theorem re {st st0:SortSt}{g k bc t:Nat}(hL:fP M Ar E s ρ kd P)(hk:kindOf st0=kd)(T:Two ρ P a b)(hK:Kp st0 st)(j:V ρ L a b out ia ib)(h1:ia+1 < a.size)(h2:ib < b.size)(ht:t<=ia+ib)
  (h:∀ x,b[ib]?=some x->∀ y∈a.toList.drop ia,ρ x<=ρ y):wpS M Ar E s (Hh a b out ia ib g k bc) (PG ρ L a b t st0) st:=by
 unfold Hh;obtain⟨x,ex,px⟩:=cW T.pb h2;obtain⟨y,ey,py⟩:=cW T.pa (show ia < a.size by omega)
 refine wpS_bind (bi ex ?_);have j':=j.pushB ex (h x ex)
 by_cases e:ib+1=b.size
 ·rw[if_pos (by simpa using e)]
  exact wpS_pure ⟨hK,.inl ⟨_,rfl,j'.doneB e⟩⟩
 ·rw[if_neg (by simpa using e)]
  refine wpS_bind (bi ey ?_);refine wpS_bind (zH hL (hK.k.trans hk) py T.pb T.sb (by omega) λk1 hk1 q1 q2=>?_)
  dsimp only;have j2:=j'.manyB (k:=k1) λx hx z hz=>Nat.le_trans (Nat.le_of_lt (q1 x hx)) (j'.headA ey z hz)
  by_cases hk0:k1 > 0
  ·rw[if_pos hk0]
   by_cases e2:ib+1+k1=b.size
   ·rw[if_pos (by simpa using e2)]
    exact wpS_pure ⟨hK,.inl ⟨_,rfl,j2.doneB e2⟩⟩
   ·rw[if_neg (by simpa using e2)]
    exact rb T hK j2 h1 (by omega) (by omega) λx' ex' z hz=>by rw[ey] at ex';cases ex';exact q2 z hz
  ·rw[if_neg hk0]
   have:k1=0:=by omega
   subst this;exact rb T hK j' h1 (by omega) (by omega) λx' ex' z hz=>by rw[ey] at ex';cases ex';exact q2 z hz
theorem rm {st st0:SortSt}{g ac bc t:Nat}(hL:fP M Ar E s ρ kd P)(hk:kindOf st0=kd)(T:Two ρ P a b)(hK:Kp st0 st)(j:gz ρ L a b t out ia ib):wpS M Ar E s (Hj a b out ia ib g ac bc) (PG ρ L a b t st0) st:=by
 obtain⟨j,h1,h2,ht⟩:=j;unfold Hj;obtain⟨x,ex,px⟩:=cW T.pb h2;refine wpS_bind (bi ex ?_);refine wpS_bind (zG hL (hK.k.trans hk) px T.pa T.sa (by omega) λk hk1 q1 q2=>?_)
 dsimp only;have j2:=j.manyA (k:=k) λz hz y hy=>Nat.le_trans (q1 z hz) (j.headB ex y hy)
 by_cases hk0:k > 0
 ·rw[if_pos hk0]
  by_cases e:ia+k+1=a.size
  ·rw[if_pos (by simpa using e)]
   exact wpS_pure ⟨hK,.inl ⟨_,rfl,j2.lastA e T.z⟩⟩
  ·rw[if_neg (by simpa using e)]
   by_cases e2:ia+k=a.size
   ·rw[if_pos (by simpa using e2)]
    exact wpS_pure ⟨hK,.inl ⟨_,rfl,j2.doneA e2⟩⟩
   ·rw[if_neg (by simpa using e2)]
    exact re hL hk T hK j2 (by omega) h2 (by omega) λx' ex' z hz=>by rw[ex] at ex';cases ex';exact Nat.le_of_lt (q2 z hz)
 ·rw[if_neg hk0]
  have:k=0:=by omega
  subst this;exact re hL hk T hK j h1 h2 ht λx' ex' z hz=>by rw[ex] at ex';cases ex';exact Nat.le_of_lt (q2 z hz)
abbrev IS:=Option (Array Keyed)×Array Keyed×Nat×Nat×Nat×Nat
abbrev OS:=Option (Array Keyed)×Array Keyed×Nat×Nat×Nat
def loI (a b:Array Keyed)(g:Nat)(c:IS):StateT SortSt Sem (ForInStep IS):=do
 let x <- elem' b c.2.2.2.1
 let y <- elem' a c.2.2.1
 let r <- lt' x y
 match r with
 | some w =>
  if w=true then do
   let x <- elem' b c.2.2.2.1
   if (c.2.2.2.1+1==b.size)=true then pure (ForInStep.done (some (c.2.1.push x++a.extract c.2.2.1 a.size++b.extract (c.2.2.2.1+1) b.size),c.2.1.push x,c.2.2.1,c.2.2.2.1+1,0,c.2.2.2.2.2+1))
   else if c.2.2.2.2.2+1>=g then pure (ForInStep.done (none,c.2.1.push x,c.2.2.1,c.2.2.2.1+1,0,c.2.2.2.2.2+1))
   else pure (ForInStep.yield (none,c.2.1.push x,c.2.2.1,c.2.2.2.1+1,0,c.2.2.2.2.2+1))
  else do
   let y <- elem' a c.2.2.1
   if (c.2.2.1+1+1==a.size)=true then pure (ForInStep.done (some (c.2.1.push y++b.extract c.2.2.2.1 b.size++a.extract (c.2.2.1+1) a.size),c.2.1.push y,c.2.2.1+1,c.2.2.2.1,c.2.2.2.2.1+1,0))
   else if c.2.2.2.2.1+1>=g then pure (ForInStep.done (none,c.2.1.push y,c.2.2.1+1,c.2.2.2.1,c.2.2.2.2.1+1,0))
   else pure (ForInStep.yield (none,c.2.1.push y,c.2.2.1+1,c.2.2.2.1,c.2.2.2.2.1+1,0))
 | _=>pure (ForInStep.done (some (c.2.1++a.extract c.2.2.1 a.size++b.extract c.2.2.2.1 b.size),c.2.1,c.2.2.1,c.2.2.2.1,c.2.2.2.2.1,c.2.2.2.2.2))
def loG (a b:Array Keyed)(c:GS):StateT SortSt Sem (ForInStep GS) :=
 if c.2.2.2.2.1 > 1 then do
  dS (c.2.2.2.2.1 - 1)
  Hj a b c.2.1 c.2.2.1 c.2.2.2.1 (c.2.2.2.2.1 - 1) c.2.2.2.2.2.1 c.2.2.2.2.2.2
 else do
  dS c.2.2.2.2.1
  Hj a b c.2.1 c.2.2.1 c.2.2.2.1 c.2.2.2.2.1 c.2.2.2.2.2.1 c.2.2.2.2.2.2
def loE (r:GS):StateT SortSt Sem (ForInStep OS) :=
 match r.1 with
 | some arr=>pure (ForInStep.done (some arr,r.2.1,r.2.2.1,r.2.2.2.1,r.2.2.2.2.1))
 | none=>do
  dS (r.2.2.2.2.1+1)
  pure (ForInStep.yield (none,r.2.1,r.2.2.1,r.2.2.2.1,r.2.2.2.2.1+1))
def loN (a b:Array Keyed)(g:Nat)(r:IS):StateT SortSt Sem (ForInStep OS) :=
 match r.1 with
 | some arr=>pure (ForInStep.done (some arr,r.2.1,r.2.2.1,r.2.2.2.1,g))
 | none=>do
  liftM (rule "list.sort.gallop")
  let r2 <- forIn [0:a.size+b.size] ((none,r.2.1,r.2.2.1,r.2.2.2.1,g+1,r.2.2.2.2.1,r.2.2.2.2.2):GS) λ_ t=>loG a b t
  loE r2
def loO (a b:Array Keyed)(c:OS):StateT SortSt Sem (ForInStep OS):=do
 let r <- forIn [0:a.size+b.size] ((none,c.2.1,c.2.2.1,c.2.2.2.1,0,0):IS) λ_ r=>loI a b c.2.2.2.2 r
 loN a b c.2.2.2.2 r
def loZ (r:OS):StateT SortSt Sem (Array Keyed) :=
 match r.1 with
 | some arr=>pure arr
 | none=>unsupported "internal:list.sort.merge-bound"
theorem oZ (a b:Array Keyed):lF a b=(do
 liftM (rule "list.sort.merge-lo")
 let x <- elem' b 0
 if (1==b.size)=true then pure (#[x]++a.extract 0 a.size++b.extract 1 b.size)
 else if (0+1==a.size)=true then pure (#[x]++b.extract 1 b.size++a.extract 0 a.size)
 else do
  let st <- get
  let r <- forIn [0:a.size+b.size] ((none,#[x],0,1,gallopOf st):OS) λ_ r=>loO a b r
  loZ r):=by kernel_rfl
theorem Hk {st0 st:SortSt}{g n m:Nat}{c:IS}(hL:fP M Ar E s ρ kd P)(hk:kindOf st0=kd)(T:Two ρ P a b)(hK:Kp st0 st)(j:gz ρ L a b (n+1+min m 1) c.2.1 c.2.2.1 c.2.2.2.1) :
  wpS M Ar E s (loI a b g c) (λr st'=>Kp st0 st'/\match r with
   | .done c=>(∃ arr,c.1=some arr/\Good ρ L arr.toList)\/(c.1=none/\gz ρ L a b (n+1+1) c.2.1 c.2.2.1 c.2.2.2.1)
   | .yield c=>c.1=none/\gz ρ L a b (n+1+min (m+1) 1) c.2.1 c.2.2.1 c.2.2.2.1) st:=by
 obtain⟨ret,out,ia,ib,ac,bc⟩:=c;obtain⟨j,l1,l2,l3⟩:=j;dsimp only at j l1 l2 l3;unfold loI;dsimp only;obtain⟨x,ex,px⟩:=cW T.pb l2;obtain⟨y,ey,py⟩:=cW T.pa (show ia < a.size by omega)
 refine wpS_bind (bi ex (wpS_bind (bi ey (wpS_bind (hL x y st _ px py (hK.k.trans hk) ?_)))))
 by_cases hlt:ρ x < ρ y
 ·rw[decide_eq_true hlt]
  refine wpS_bind (bi ex ?_);have j':=j.pushB ex λz hz=>Nat.le_trans (Nat.le_of_lt hlt) (j.headA ey z hz)
  by_cases e:ib+1=b.size
  ·rw[if_pos (by simpa using e)]
   exact wpS_pure ⟨hK,.inl ⟨_,rfl,j'.doneB e⟩⟩
  ·rw[if_neg (by simpa using e)]
   split
   ·exact wpS_pure ⟨hK,.inr ⟨rfl,j',by show ia+1 < a.size;omega,by show ib+1 < b.size;omega,by show n+1+1<=ia+(ib+1);omega⟩⟩
   ·exact wpS_pure ⟨hK,rfl,j',by show ia+1 < a.size;omega,by show ib+1 < b.size;omega,by show n+1+min (m+1) 1<=ia+(ib+1);omega⟩
 ·rw[decide_eq_false hlt]
  refine wpS_bind (bi ey ?_);have j':=j.pushA ey λz hz=>Nat.le_trans (Nat.not_lt.mp hlt) (j.headB ex z hz)
  by_cases e:ia+1+1=a.size
  ·rw[if_pos (by simpa using e)]
   exact wpS_pure ⟨hK,.inl ⟨_,rfl,j'.lastA e T.z⟩⟩
  ·rw[if_neg (by simpa using e)]
   split
   ·exact wpS_pure ⟨hK,.inr ⟨rfl,j',by show ia+1+1 < a.size;omega,by show ib < b.size;omega,by show n+1+1<=ia+1+ib;omega⟩⟩
   ·exact wpS_pure ⟨hK,rfl,j',by show ia+1+1 < a.size;omega,by show ib < b.size;omega,by show n+1+min (m+1) 1<=ia+1+ib;omega⟩
theorem Hl {st0 st:SortSt}{t:Nat}{c:GS}(hL:fP M Ar E s ρ kd P)(hk:kindOf st0=kd)(T:Two ρ P a b)(hK:Kp st0 st)(j:gz ρ L a b t c.2.1 c.2.2.1 c.2.2.2.1):wpS M Ar E s (loG a b c) (PG ρ L a b t st0) st:=by
 unfold loG
 split
 ·rw[dL]
  exact wpS_bind (wpS_modify (rm hL hk T (hK.min _) j))
 ·rw[dL]
  exact wpS_bind (wpS_modify (rm hL hk T (hK.min _) j))
def PO (ρ:Keyed->Nat)(L:List Keyed)(a b:Array Keyed)(t:Nat)(st0:SortSt)(r:ForInStep OS)(st:SortSt):Prop:=match r with
 | .done c=>Kp st0 st/\∃ arr,c.1=some arr/\Good ρ L arr.toList
 | .yield c=>Kp st0 st/\c.1=none/\gz ρ L a b t c.2.1 c.2.2.1 c.2.2.2.1
theorem Hm {st0 st:SortSt}{g n:Nat}{r:IS}(hL:fP M Ar E s ρ kd P)(hk:kindOf st0=kd)(T:Two ρ P a b)(hK:Kp st0 st)
  (h:(∃ arr,r.1=some arr/\Good ρ L arr.toList)\/(r.1=none/\gz ρ L a b (n+1+1) r.2.1 r.2.2.1 r.2.2.2.1)):wpS M Ar E s (loN a b g r) (PO ρ L a b (n+1+1) st0) st:=by
 obtain⟨ret,r⟩:=r;unfold loN;rcases h with ⟨arr,h1,h2⟩|⟨h1,hl⟩
 ·dsimp only at h1
  subst h1;exact wpS_pure ⟨hK,arr,rfl,h2⟩
 ·dsimp only at h1 hl
  subst h1;refine wpS_bind (wpS_lift (wpAny_rule ⟨rfl,?_⟩));refine wpS_bind (wpS_mono (wpS_forRange (I:=λx c st'=>Kp st0 st'/\c.1=none/\gz ρ L a b (n+1+1) c.2.1 c.2.2.1 c.2.2.2.1)
   (Q:=λc st'=>Kp st0 st'/\((∃ arr,c.1=some arr/\Good ρ L arr.toList)\/(c.1=none/\gz ρ L a b (n+1+1) c.2.1 c.2.2.1 c.2.2.2.1))) ?gstep ?gfin ⟨hK,rfl,hl⟩) ?gpost)
  case gfin =>
   rintro c st' ⟨hK,h1,hl⟩;exact⟨hK,.inr ⟨h1,hl⟩⟩
  case gstep =>
   rintro m c st' _ hm ⟨hK,h1,hl⟩;refine wpS_mono (Hl hL hk T hK hl) λr st'' hr=>?_;obtain⟨k1,k2⟩:=hr;cases r with
   | done c=>exact⟨k1,k2⟩
   | yield c=>exact⟨k1,k2⟩
  case gpost =>
   rintro ⟨ret,r⟩ st' ⟨hK,⟨arr,h1,h2⟩|⟨h1,hl⟩⟩
   ·dsimp only at h1
    subst h1;exact wpS_pure ⟨hK,arr,rfl,h2⟩
   ·dsimp only at h1 hl
    subst h1;unfold loE;rw[dL];exact wpS_bind (wpS_modify (wpS_pure ⟨hK.min _,rfl,hl⟩))
theorem Hn {st0 st:SortSt}{n:Nat}{c:OS}(hL:fP M Ar E s ρ kd P)(hk:kindOf st0=kd)(T:Two ρ P a b)(hn:0 < a.size+b.size)(hK:Kp st0 st)(hl:gz ρ L a b (n+1) c.2.1 c.2.2.1 c.2.2.2.1):wpS M Ar E s (loO a b c) (PO ρ L a b (n+1+1) st0) st:=by
 unfold loO;refine wpS_bind (wpS_mono (wpS_forRange (I:=λx c st'=>Kp st0 st'/\c.1=none/\gz ρ L a b (n+1+min x 1) c.2.1 c.2.2.1 c.2.2.2.1)
  (Q:=λc st'=>Kp st0 st'/\((∃ arr,c.1=some arr/\Good ρ L arr.toList)\/(c.1=none/\gz ρ L a b (n+1+1) c.2.1 c.2.2.1 c.2.2.2.1))) ?istep ?ifin ⟨hK,rfl,by simpa using hl⟩) ?ipost)
 case ifin =>
  rintro c st' ⟨hK,h1,hl⟩;rw[show min (max 0 (a.size+b.size)) 1=1 by omega] at hl
  exact⟨hK,.inr ⟨h1,hl⟩⟩
 case istep =>
  rintro m c st' _ hm ⟨hK,h1,hl⟩;refine wpS_mono (Hk hL hk T hK hl) λr st'' hr=>?_;obtain⟨k1,k2⟩:=hr;cases r with
  | done c=>exact⟨k1,k2⟩
  | yield c=>exact⟨k1,k2⟩
 case ipost =>
  rintro r st' ⟨hK,h⟩;exact Hm hL hk T hK h
theorem rn {st:SortSt}{Q:Array Keyed->SortSt->Prop}(hL:fP M Ar E s ρ kd P)(hk:kindOf st=kd)(T:Two ρ P a b)
  (q:∀ r st',Kp st st'->Good ρ (a.toList++b.toList) r.toList->Q r st'):wpS M Ar E s (lF a b) Q st:=by
 rw[oZ];refine wpS_bind (wpS_lift (wpAny_rule ⟨rfl,?_⟩));obtain⟨x,ex,px⟩:=cW T.pb (show 0 < b.size from T.b1)
 refine wpS_bind (bi ex ?_);have j0:V ρ (a.toList++b.toList) a b #[] 0 0:=⟨List.Pairwise.nil,by simpa using T.sa,by simpa using T.sb,(λx hx=>by cases hx),(λx hx=>by cases hx),by simp⟩
 have j1:V ρ (a.toList++b.toList) a b #[x] 0 1:=by simpa using j0.pushB ex λy hy=>T.y y (by simpa using hy) x ex
 by_cases e:1=b.size
 ·rw[if_pos (by simpa using e)]
  exact wpS_pure (q _ st .refl (j1.doneB e))
 ·rw[if_neg (by simpa using e)]
  by_cases e2:0+1=a.size
  ·rw[if_pos (by simpa using e2)]
   exact wpS_pure (q _ st .refl (j1.lastA e2 T.z))
  ·rw[if_neg (by simpa using e2)]
   have b1:=T.b1;have a1:=T.a1;refine wpS_bind (wpS_get ?_);refine wpS_bind (wpS_mono (wpS_forRange (I:=λx c st'=>Kp st st'/\c.1=none/\gz ρ (a.toList++b.toList) a b (x+1) c.2.1 c.2.2.1 c.2.2.2.1)
    (Q:=λc st'=>Kp st st'/\∃ arr,c.1=some arr/\Good ρ (a.toList++b.toList) arr.toList) ?step ?fin ⟨.refl,rfl,j1,by show 0+1 < a.size;omega,by show 1 < b.size;omega,by show 0+1<=0+1;omega⟩) ?post)
   case fin =>
    rintro ⟨ret,out,ia,ib,g⟩ st' ⟨hK,h1,j,h2,h3,h4⟩;dsimp only at h2 h3 h4;omega
   case post =>
    rintro ⟨ret,r⟩ st' ⟨hK,arr,h1,h2⟩;dsimp only at h1;subst h1;exact wpS_pure (q arr st' hK h2)
   case step =>
    rintro n c st' _ hn ⟨hK,h1,hl⟩;refine wpS_mono (Hn hL hk T (by omega) hK hl) λr st'' hr=>?_
    cases r with
    | done c=>exact hr
    | yield c=>exact hr
end
end Vs

namespace Vs
open PySem PyProof.Rows
structure H (ρ:Keyed->Nat)(L O A B:List Keyed):Prop where
 o:So ρ O
 a:So ρ A
 b:So ρ B
 oa:∀ x∈A,∀ y∈O,ρ x<=ρ y
 ob:∀ x∈B,∀ y∈O,ρ x<=ρ y
 p:(A++(B++O)).Perm L
section
variable {ρ:Keyed->Nat}{L O A B X:List Keyed}{x z:Keyed}
theorem H.manyB (j:H ρ L O A (B++X))(h:∀ x∈X,∀ y∈A,ρ y<=ρ x):H ρ L (X++O) A B:=by
 obtain⟨a1,a2,a3⟩:=List.pairwise_append.mp j.b;refine⟨So.app a2 j.o λx hx y hy=>j.ob x (List.mem_append_right _ hx) y hy,j.a,a1,λx hx y hy=>?_,λx hx y hy=>?_,?_⟩
 ·rcases List.mem_append.mp hy with hy|hy
  ·exact h y hy x hx
  ·exact j.oa x hx y hy
 ·rcases List.mem_append.mp hy with hy|hy
  ·exact a3 x hx y hy
  ·exact j.ob x (List.mem_append_left _ hx) y hy
 ·have:=j.p
  simpa [List.append_assoc] using this
theorem H.manyA (j:H ρ L O (A++X) B)(h:∀ x∈X,∀ y∈B,ρ y<=ρ x):H ρ L (X++O) A B:=by
 obtain⟨a1,a2,a3⟩:=List.pairwise_append.mp j.a;refine⟨So.app a2 j.o λx hx y hy=>j.oa x (List.mem_append_right _ hx) y hy,a1,j.b,λx hx y hy=>?_,λx hx y hy=>?_,?_⟩
 ·rcases List.mem_append.mp hy with hy|hy
  ·exact a3 x hx y hy
  ·exact j.oa x (List.mem_append_left _ hx) y hy
 ·rcases List.mem_append.mp hy with hy|hy
  ·exact h y hy x hx
  ·exact j.ob x hx y hy
 ·refine List.Perm.trans ?_ j.p
  rw[List.append_assoc];refine List.Perm.append_left A ?_;rw[<- List.append_assoc,<- List.append_assoc];exact List.Perm.append_right O List.perm_append_comm
theorem H.doneB (j:H ρ L O A []):Good ρ L (A++O):=⟨So.app j.a j.o j.oa,by simpa using j.p⟩
theorem H.doneA (j:H ρ L O [] B):Good ρ L (B++O):=⟨So.app j.b j.o j.ob,by simpa using j.p⟩
theorem H.first (j:H ρ L O A [z])(h:∀ y∈A,ρ z<=ρ y):Good ρ L ([z]++A++O):=by
 refine⟨So.app (So.app (List.pairwise_singleton ..) j.a λx hx y hy=>by rw[List.mem_singleton.mp hx];exact h y hy) j.o λx hx y hy=>?_,?_⟩
 ·rcases List.mem_append.mp hx with hx|hx
  ·exact j.ob x hx y hy
  ·exact j.oa x hx y hy
 ·refine List.Perm.trans ?_ j.p
  rw[<- List.append_assoc];exact List.Perm.append_right O List.perm_append_comm
end
theorem gY {a:Array Keyed}{n:Nat}{x:Keyed}(h1:1<=n)(h:a[n - 1]?=some x):a.toList.take n=a.toList.take (n - 1)++[x]:=by
 obtain⟨m,rfl⟩:∃ m,n=m+1:=⟨n - 1,by omega⟩
 rw[Nat.add_sub_cancel] at h ⊢;rw[List.take_add_one];have:a.toList[m]?=some x:=by simpa using h
 rw[this];rfl
theorem jt (a:Array Keyed)(n:Nat):(a.extract 0 n).toList=a.toList.take n:=by
 rw[Array.toList_extract];rfl
theorem kH (a:Array Keyed)(i n:Nat):(a.extract i n).toList=(a.toList.take n).drop i:=by
 rw[Array.toList_extract];show (a.toList.drop i).take (n - i)=_;rw[List.drop_take]
theorem rq (a:Array Keyed){i n:Nat}(h:i<=n):a.toList.take n=a.toList.take i++(a.toList.take n).drop i:=by
 have:=(List.take_append_drop i (a.toList.take n)).symm
 rwa [List.take_take,Nat.min_eq_left h] at this
theorem zI {a:Array Keyed}{n:Nat}{x:Keyed}(h:x∈a.toList.take n):∃ m,m < n/\m < a.size/\a[m]?=some x:=by
 obtain⟨m,hm,e⟩:=List.mem_iff_getElem.mp h;rw[List.length_take] at hm;rw[List.getElem_take] at e;have hs:m < a.size:=by have:a.toList.length=a.size:=rfl;omega
 exact⟨m,by omega,hs,by rw[Array.getElem?_eq_getElem hs];exact congrArg some (by simpa using e)⟩
theorem fw {a:Array Keyed}{i n:Nat}{x:Keyed}(h:x∈(a.toList.take n).drop i):∃ m,i<=m/\m < n/\m < a.size/\a[m]?=some x:=by
 obtain⟨m,hm,e⟩:=List.mem_iff_getElem.mp h;rw[List.length_drop,List.length_take] at hm;rw[List.getElem_drop,List.getElem_take] at e;have hs:i+m < a.size:=by have:a.toList.length=a.size:=rfl;omega
 exact⟨i+m,by omega,by omega,hs,by rw[Array.getElem?_eq_getElem hs];exact congrArg some (by simpa using e)⟩
section
variable {M:Model}{Ar:Around}{E:Value->Shared->Prop}{s:Shared}{ρ:Keyed->Nat}{kd:SortKind}{P:Keyed->Prop}{a b out:Array Keyed}{L:List Keyed}{na nb:Nat}
theorem zJ {key:Keyed}{arr:Array Keyed}{n:Nat}{st:SortSt}{Q:Option Nat->SortSt->Prop}(hL:fP M Ar E s ρ kd P)(hk:kindOf st=kd)(pk:P key)(pa:∀ x∈arr.toList,P x)(hs:So ρ arr.toList)(hn:n<=arr.size)(h1:1<=n)
  (q:∀ k,k<=n->(∀ x∈arr.toList.take k,ρ x<=ρ key)->(∀ x∈(arr.toList.take n).drop k,ρ key < ρ x)->Q (some k) st):wpS M Ar E s (cg false key arr 0 n (n - 1)) Q st:=by
 refine de (nD hL hk pk λi hi=>cW pa (by omega)) (λi j hij hj h=>?_) (by omega) λk hk1 h1 h2=>q k (by omega) (λx hx=>?_) λx hx=>?_
 ·have:=hs.seg (0+i) (0+j) (Nat.zero_le _) (by omega) (by omega)
  simp only[nC,Bool.false_eq_true,if_false,Bool.not_eq_true',decide_eq_false_iff_not] at h ⊢;omega
 ·obtain⟨m,hm,hm2,e⟩:=zI hx
  have:=h1 m hm;simp only[nC,Bool.false_eq_true,if_false,Bool.not_eq_true',decide_eq_false_iff_not,Nat.zero_add,R_at e] at this;omega
 ·obtain⟨m,hm,hm2,hm3,e⟩:=fw hx
  have:=h2 m hm hm2;simp only[nC,Bool.false_eq_true,if_false,Nat.zero_add,R_at e,Bool.not_eq_false',decide_eq_true_eq] at this;exact this
theorem zK {key:Keyed}{arr:Array Keyed}{n:Nat}{st:SortSt}{Q:Option Nat->SortSt->Prop}(hL:fP M Ar E s ρ kd P)(hk:kindOf st=kd)(pk:P key)(pa:∀ x∈arr.toList,P x)(hs:So ρ arr.toList)(hn:n<=arr.size)(h1:1<=n)
  (q:∀ k,k<=n->(∀ x∈arr.toList.take k,ρ x < ρ key)->(∀ x∈(arr.toList.take n).drop k,ρ key<=ρ x)->Q (some k) st):wpS M Ar E s (cg true key arr 0 n (n - 1)) Q st:=by
 refine de (nD hL hk pk λi hi=>cW pa (by omega)) (λi j hij hj h=>?_) (by omega) λk hk1 h1 h2=>q k (by omega) (λx hx=>?_) λx hx=>?_
 ·have:=hs.seg (0+i) (0+j) (Nat.zero_le _) (by omega) (by omega)
  simp only[nC,if_true,decide_eq_true_eq] at h ⊢;omega
 ·obtain⟨m,hm,hm2,e⟩:=zI hx
  have:=h1 m hm;simp only[nC,if_true,decide_eq_true_eq,Nat.zero_add,R_at e] at this;omega
 ·obtain⟨m,hm,hm2,hm3,e⟩:=fw hx
  have:=h2 m hm hm2;simp only[nC,if_true,Nat.zero_add,R_at e,decide_eq_false_iff_not] at this;omega
abbrev HS:=Option (Array Keyed)×Nat×Nat×Array Keyed×Nat×Nat×Nat
def Ho (a b out:Array Keyed)(na nb g k k1:Nat):StateT SortSt Sem (ForInStep HS):=do
 let y <- elem' a (na - 1)
 if (na - 1==0)=true then pure (ForInStep.done (some (a.extract 0 (na - 1)++b.extract 0 nb++(out.push y).reverse),na - 1,nb,out.push y,g,k,k1))
 else if (decide (k < 7)&&decide (k1 < 7))=true then pure (ForInStep.done (none,na - 1,nb,out.push y,g,k,k1))
 else pure (ForInStep.yield (none,na - 1,nb,out.push y,g,k,k1))
def Hq (a b out:Array Keyed)(na nb g k bc:Nat):StateT SortSt Sem (ForInStep HS):=do
 let x <- elem' b (nb - 1)
 if (nb - 1==1)=true then pure (ForInStep.done (some (b.extract 0 (nb - 1)++a.extract 0 na++(out.push x).reverse),na,nb - 1,out.push x,g,k,bc))
 else do
  let y <- elem' a (na - 1)
  let r <- cg true y b 0 (nb - 1) (nb - 1 - 1)
  match r with
  | some at2 =>
   if nb - 1 - at2 > 0 then
    if (at2==1)=true then pure (ForInStep.done (some (b.extract 0 at2++a.extract 0 na++(out.push x++(b.extract at2 (nb - 1)).reverse).reverse),na,at2,out.push x++(b.extract at2 (nb - 1)).reverse,g,k,nb - 1 - at2))
    else if (at2==0)=true then pure (ForInStep.done (some (a.extract 0 na++b.extract 0 at2++(out.push x++(b.extract at2 (nb - 1)).reverse).reverse),na,at2,out.push x++(b.extract at2 (nb - 1)).reverse,g,k,nb - 1 - at2))
    else Ho a b (out.push x++(b.extract at2 (nb - 1)).reverse) na at2 g k (nb - 1 - at2)
   else Ho a b (out.push x) na (nb - 1) g k (nb - 1 - at2)
  | _=>pure (ForInStep.done (some (a.extract 0 na++b.extract 0 (nb - 1)++(out.push x).reverse),na,nb - 1,out.push x,g,k,bc))
def zL (a b out:Array Keyed)(na nb g ac bc:Nat):StateT SortSt Sem (ForInStep HS):=do
 let x <- elem' b (nb - 1)
 let r <- cg false x a 0 na (na - 1)
 match r with
 | some at1 =>
  if na - at1 > 0 then
   if (at1==0)=true then pure (ForInStep.done (some (a.extract 0 at1++b.extract 0 nb++(out++(a.extract at1 na).reverse).reverse),at1,nb,out++(a.extract at1 na).reverse,g,na - at1,bc))
   else Hq a b (out++(a.extract at1 na).reverse) at1 nb g (na - at1) bc
  else Hq a b out na nb g (na - at1) bc
 | _=>pure (ForInStep.done (some (a.extract 0 na++b.extract 0 nb++out.reverse),na,nb,out,g,ac,bc))
def W (ρ:Keyed->Nat)(L:List Keyed)(a b out:Array Keyed)(na nb:Nat):Prop:=H ρ L out.toList.reverse (a.toList.take na) (b.toList.take nb)
theorem W.firstB (j:W ρ L a b out na nb)(e:nb=1)(hb:1<=b.size)(hz:∀ y∈a.toList,∀ z,b[0]?=some z->ρ z<=ρ y):Good ρ L (b.extract 0 nb++a.extract 0 na++out.reverse).toList:=by
 subst e;have eb:b[0]?=some b[0]:=Array.getElem?_eq_getElem hb;have e1:b.toList.take 1=[b[0]]:=by rw[gY (Nat.le_refl 1) eb];rfl
 have j':H ρ L out.toList.reverse (a.toList.take na) (b.toList.take 1):=j;rw[e1] at j';rw[Array.toList_append,Array.toList_append,jt,jt,e1,Array.toList_reverse];exact j'.first λy hy=>hz y (List.mem_of_mem_take hy) _ eb
theorem W.doneA (j:W ρ L a b out na nb)(e:na=0):Good ρ L (a.extract 0 na++b.extract 0 nb++out.reverse).toList:=by
 subst e;have j':H ρ L out.toList.reverse [] (b.toList.take nb):=j;rw[Array.toList_append,Array.toList_append,jt,jt,Array.toList_reverse];exact j'.doneA
theorem W.doneB (j:W ρ L a b out na nb)(e:nb=0):Good ρ L (a.extract 0 na++b.extract 0 nb++out.reverse).toList:=by
 subst e;have j':H ρ L out.toList.reverse (a.toList.take na) []:=j;rw[Array.toList_append,Array.toList_append,jt,jt,Array.toList_reverse,List.take_zero,List.append_nil];exact j'.doneB
theorem W.pushA {x:Keyed}(j:W ρ L a b out na nb)(h1:1<=na)(e:a[na - 1]?=some x)(h:∀ y∈b.toList.take nb,ρ y<=ρ x):W ρ L a b (out.push x) (na - 1) nb:=by
 have j':H ρ L out.toList.reverse (a.toList.take na) (b.toList.take nb):=j;rw[gY h1 e] at j';show H ρ L (out.push x).toList.reverse _ _;rw[Array.toList_push,List.reverse_append];exact H.manyA (X:=[x]) j' λz hz y hy=>by rw[List.mem_singleton.mp hz];exact h y hy
theorem W.pushB {x:Keyed}(j:W ρ L a b out na nb)(h1:1<=nb)(e:b[nb - 1]?=some x)(h:∀ y∈a.toList.take na,ρ y<=ρ x):W ρ L a b (out.push x) na (nb - 1):=by
 have j':H ρ L out.toList.reverse (a.toList.take na) (b.toList.take nb):=j;rw[gY h1 e] at j';show H ρ L (out.push x).toList.reverse _ _;rw[Array.toList_push,List.reverse_append];exact H.manyB (X:=[x]) j' λz hz y hy=>by rw[List.mem_singleton.mp hz];exact h y hy
theorem W.manyA {k:Nat}(j:W ρ L a b out na nb)(hk:k<=na)(h:∀ x∈(a.toList.take na).drop k,∀ y∈b.toList.take nb,ρ y<=ρ x):W ρ L a b (out++(a.extract k na).reverse) k nb:=by
 have j':H ρ L out.toList.reverse (a.toList.take na) (b.toList.take nb):=j;rw[rq a hk] at j';show H ρ L (out++(a.extract k na).reverse).toList.reverse _ _;rw[Array.toList_append,List.reverse_append,Array.toList_reverse,List.reverse_reverse,kH];exact H.manyA j' h
theorem W.manyB {k:Nat}(j:W ρ L a b out na nb)(hk:k<=nb)(h:∀ x∈(b.toList.take nb).drop k,∀ y∈a.toList.take na,ρ y<=ρ x):W ρ L a b (out++(b.extract k nb).reverse) na k:=by
 have j':H ρ L out.toList.reverse (a.toList.take na) (b.toList.take nb):=j;rw[rq b hk] at j';show H ρ L (out++(b.extract k nb).reverse).toList.reverse _ _;rw[Array.toList_append,List.reverse_append,Array.toList_reverse,List.reverse_reverse,kH];exact H.manyB j' h
theorem W.endA {x:Keyed}(j:W ρ L a b out na nb)(h1:1<=na)(e:a[na - 1]?=some x):∀ y∈a.toList.take na,ρ y<=ρ x:=λy hy=>by
 have:=j.a;rw[gY h1 e] at this hy;rcases List.mem_append.mp hy with hy|hy
 ·exact (List.pairwise_append.mp this).2.2 y hy x (List.mem_singleton.mpr rfl)
 ·rw[List.mem_singleton.mp hy];exact Nat.le_refl _
theorem W.endB {x:Keyed}(j:W ρ L a b out na nb)(h1:1<=nb)(e:b[nb - 1]?=some x):∀ y∈b.toList.take nb,ρ y<=ρ x:=λy hy=>by
 have:=j.b;rw[gY h1 e] at this hy;rcases List.mem_append.mp hy with hy|hy
 ·exact (List.pairwise_append.mp this).2.2 y hy x (List.mem_singleton.mpr rfl)
 ·rw[List.mem_singleton.mp hy];exact Nat.le_refl _
def dl (ρ:Keyed->Nat)(L:List Keyed)(a b:Array Keyed)(t:Nat)(out:Array Keyed)(na nb:Nat):Prop:=W ρ L a b out na nb/\1<=na/\2<=nb/\na<=a.size/\nb<=b.size/\na+nb+t<=a.size+b.size
def PH (ρ:Keyed->Nat)(L:List Keyed)(a b:Array Keyed)(t:Nat)(st0:SortSt)(r:ForInStep HS)(st:SortSt):Prop:=Kp st0 st/\match r with
 | .done c=>(∃ arr,c.1=some arr/\Good ρ L arr.toList)\/(c.1=none/\dl ρ L a b t c.2.2.2.1 c.2.1 c.2.2.1)
 | .yield c=>c.1=none/\dl ρ L a b t c.2.2.2.1 c.2.1 c.2.2.1
theorem rA {st st0:SortSt}{g k k1 t:Nat}(T:Two ρ P a b)(hK:Kp st0 st)(j:W ρ L a b out na nb)(h1:1<=na)(h2:2<=nb)(h3:na<=a.size)(h4:nb<=b.size)(ht:na+nb+t<=a.size+b.size)
  (h:∀ x,a[na - 1]?=some x->∀ y∈b.toList.take nb,ρ y<=ρ x):wpS M Ar E s (Ho a b out na nb g k k1) (PH ρ L a b t st0) st:=by
 unfold Ho;obtain⟨y,ey,py⟩:=cW T.pa (show na - 1 < a.size by omega)
 refine wpS_bind (bi ey ?_);have j':=j.pushA h1 ey (h y ey)
 by_cases e:na - 1=0
 ·rw[if_pos (by simpa using e)]
  exact wpS_pure ⟨hK,.inl ⟨_,rfl,j'.doneA e⟩⟩
 ·rw[if_neg (by simpa using e)]
  have lf:dl ρ L a b t (out.push y) (na - 1) nb:=⟨j',by omega,h2,by omega,h4,by omega⟩
  split
  ·exact wpS_pure ⟨hK,.inr ⟨rfl,lf⟩⟩
  ·exact wpS_pure ⟨hK,rfl,lf⟩
theorem rB {st st0:SortSt}{g k bc t:Nat}(hL:fP M Ar E s ρ kd P)(hk:kindOf st0=kd)(T:Two ρ P a b)(hK:Kp st0 st)(j:W ρ L a b out na nb)(h1:1<=na)(h2:2<=nb)(h3:na<=a.size)(h4:nb<=b.size)(ht:na+nb+t<=a.size+b.size)
  (h:∀ x,b[nb - 1]?=some x->∀ y∈a.toList.take na,ρ y<=ρ x):wpS M Ar E s (Hq a b out na nb g k bc) (PH ρ L a b t st0) st:=by
 unfold Hq;obtain⟨x,ex,px⟩:=cW T.pb (show nb - 1 < b.size by omega)
 obtain⟨y,ey,py⟩:=cW T.pa (show na - 1 < a.size by omega)
 refine wpS_bind (bi ex ?_);have j':=j.pushB (by omega) ex (h x ex)
 by_cases e:nb - 1=1
 ·rw[if_pos (by simpa using e)]
  exact wpS_pure ⟨hK,.inl ⟨_,rfl,j'.firstB e T.b1 T.y⟩⟩
 ·rw[if_neg (by simpa using e)]
  refine wpS_bind (bi ey ?_);refine wpS_bind (zK hL (hK.k.trans hk) py T.pb T.sb (by omega) (by omega) λk1 hk1 q1 q2=>?_)
  dsimp only;have j2:=j'.manyB hk1 λx hx z hz=>Nat.le_trans (j'.endA h1 ey z hz) (q2 x hx)
  by_cases hk0:nb - 1 - k1 > 0
  ·rw[if_pos hk0]
   by_cases e2:k1=1
   ·rw[if_pos (by simpa using e2)]
    exact wpS_pure ⟨hK,.inl ⟨_,rfl,j2.firstB e2 T.b1 T.y⟩⟩
   ·rw[if_neg (by simpa using e2)]
    by_cases e3:k1=0
    ·rw[if_pos (by simpa using e3)]
     exact wpS_pure ⟨hK,.inl ⟨_,rfl,j2.doneB e3⟩⟩
    ·rw[if_neg (by simpa using e3)]
     exact rA T hK j2 h1 (by omega) h3 (by omega) (by omega) λx' ex' z hz=>by rw[ey] at ex';cases ex';exact Nat.le_of_lt (q1 z hz)
  ·rw[if_neg hk0]
   have:k1=nb - 1:=by omega
   subst this;exact rA T hK j' h1 (by omega) h3 (by omega) (by omega) λx' ex' z hz=>by rw[ey] at ex';cases ex';exact Nat.le_of_lt (q1 z hz)
theorem zM {st st0:SortSt}{g ac bc t:Nat}(hL:fP M Ar E s ρ kd P)(hk:kindOf st0=kd)(T:Two ρ P a b)(hK:Kp st0 st)(j:dl ρ L a b t out na nb):wpS M Ar E s (zL a b out na nb g ac bc) (PH ρ L a b t st0) st:=by
 obtain⟨j,h1,h2,h3,h4,ht⟩:=j;unfold zL;obtain⟨x,ex,px⟩:=cW T.pb (show nb - 1 < b.size by omega)
 refine wpS_bind (bi ex ?_);refine wpS_bind (zJ hL (hK.k.trans hk) px T.pa T.sa h3 h1 λk hk1 q1 q2=>?_);dsimp only;have j2:=j.manyA hk1 λz hz y hy=>Nat.le_trans (j.endB (by omega) ex y hy) (Nat.le_of_lt (q2 z hz))
 by_cases hk0:na - k > 0
 ·rw[if_pos hk0]
  by_cases e:k=0
  ·rw[if_pos (by simpa using e)]
   exact wpS_pure ⟨hK,.inl ⟨_,rfl,j2.doneA e⟩⟩
  ·rw[if_neg (by simpa using e)]
   exact rB hL hk T hK j2 (by omega) h2 (by omega) h4 (by omega) λx' ex' z hz=>by rw[ex] at ex';cases ex';exact q1 z hz
 ·rw[if_neg hk0]
  have:k=na:=by omega
  subst this;exact rB hL hk T hK j h1 h2 h3 h4 ht λx' ex' z hz=>by rw[ex] at ex';cases ex';exact q1 z hz
abbrev HI:=Option (Array Keyed)×Nat×Nat×Array Keyed×Nat×Nat
abbrev HQ:=Option (Array Keyed)×Nat×Nat×Array Keyed×Nat
def hiI (a b:Array Keyed)(g:Nat)(c:HI):StateT SortSt Sem (ForInStep HI):=do
 let x <- elem' b (c.2.2.1 - 1)
 let y <- elem' a (c.2.1 - 1)
 let r <- lt' x y
 match r with
 | some w =>
  if w=true then do
   let y <- elem' a (c.2.1 - 1)
   if (c.2.1 - 1==0)=true then pure (ForInStep.done (some (a.extract 0 (c.2.1 - 1)++b.extract 0 c.2.2.1++(c.2.2.2.1.push y).reverse),c.2.1 - 1,c.2.2.1,c.2.2.2.1.push y,c.2.2.2.2.1+1,0))
   else if c.2.2.2.2.1+1>=g then pure (ForInStep.done (none,c.2.1 - 1,c.2.2.1,c.2.2.2.1.push y,c.2.2.2.2.1+1,0))
   else pure (ForInStep.yield (none,c.2.1 - 1,c.2.2.1,c.2.2.2.1.push y,c.2.2.2.2.1+1,0))
  else do
   let x <- elem' b (c.2.2.1 - 1)
   if (c.2.2.1 - 1==1)=true then pure (ForInStep.done (some (b.extract 0 (c.2.2.1 - 1)++a.extract 0 c.2.1++(c.2.2.2.1.push x).reverse),c.2.1,c.2.2.1 - 1,c.2.2.2.1.push x,0,c.2.2.2.2.2+1))
   else if c.2.2.2.2.2+1>=g then pure (ForInStep.done (none,c.2.1,c.2.2.1 - 1,c.2.2.2.1.push x,0,c.2.2.2.2.2+1))
   else pure (ForInStep.yield (none,c.2.1,c.2.2.1 - 1,c.2.2.2.1.push x,0,c.2.2.2.2.2+1))
 | _=>pure (ForInStep.done (some (a.extract 0 c.2.1++b.extract 0 c.2.2.1++c.2.2.2.1.reverse),c.2.1,c.2.2.1,c.2.2.2.1,c.2.2.2.2.1,c.2.2.2.2.2))
def hiG (a b:Array Keyed)(c:HS):StateT SortSt Sem (ForInStep HS) :=
 if c.2.2.2.2.1 > 1 then do
  dS (c.2.2.2.2.1 - 1)
  zL a b c.2.2.2.1 c.2.1 c.2.2.1 (c.2.2.2.2.1 - 1) c.2.2.2.2.2.1 c.2.2.2.2.2.2
 else do
  dS c.2.2.2.2.1
  zL a b c.2.2.2.1 c.2.1 c.2.2.1 c.2.2.2.2.1 c.2.2.2.2.2.1 c.2.2.2.2.2.2
def hiE (r:HS):StateT SortSt Sem (ForInStep HQ) :=
 match r.1 with
 | some arr=>pure (ForInStep.done (some arr,r.2.1,r.2.2.1,r.2.2.2.1,r.2.2.2.2.1))
 | none=>do
  dS (r.2.2.2.2.1+1)
  pure (ForInStep.yield (none,r.2.1,r.2.2.1,r.2.2.2.1,r.2.2.2.2.1+1))
def hiN (a b:Array Keyed)(g:Nat)(r:HI):StateT SortSt Sem (ForInStep HQ) :=
 match r.1 with
 | some arr=>pure (ForInStep.done (some arr,r.2.1,r.2.2.1,r.2.2.2.1,g))
 | none=>do
  liftM (rule "list.sort.gallop")
  let r2 <- forIn [0:a.size+b.size] ((none,r.2.1,r.2.2.1,r.2.2.2.1,g+1,r.2.2.2.2.1,r.2.2.2.2.2):HS) λ_ t=>hiG a b t
  hiE r2
def hiO (a b:Array Keyed)(c:HQ):StateT SortSt Sem (ForInStep HQ):=do
 let r <- forIn [0:a.size+b.size] ((none,c.2.1,c.2.2.1,c.2.2.2.1,0,0):HI) λ_ r=>hiI a b c.2.2.2.2 r
 hiN a b c.2.2.2.2 r
def hiZ (r:HQ):StateT SortSt Sem (Array Keyed) :=
 match r.1 with
 | some arr=>pure arr
 | none=>unsupported "internal:list.sort.merge-bound"
theorem pc (a b:Array Keyed):lH a b=(do
 liftM (rule "list.sort.merge-hi")
 let x <- elem' a (a.size - 1)
 if (a.size - 1==0)=true then pure (a.extract 0 (a.size - 1)++b.extract 0 b.size++(#[x]:Array Keyed).reverse)
 else if (b.size==1)=true then pure (b.extract 0 b.size++a.extract 0 (a.size - 1)++(#[x]:Array Keyed).reverse)
 else do
  let st <- get
  let r <- forIn [0:a.size+b.size] ((none,a.size - 1,b.size,#[x],gallopOf st):HQ) λ_ r=>hiO a b r
  hiZ r):=by kernel_rfl
theorem Hr {st0 st:SortSt}{g n m:Nat}{c:HI}(hL:fP M Ar E s ρ kd P)(hk:kindOf st0=kd)(T:Two ρ P a b)(hK:Kp st0 st)(j:dl ρ L a b (n+1+min m 1) c.2.2.2.1 c.2.1 c.2.2.1) :
  wpS M Ar E s (hiI a b g c) (λr st'=>Kp st0 st'/\match r with
   | .done c=>(∃ arr,c.1=some arr/\Good ρ L arr.toList)\/(c.1=none/\dl ρ L a b (n+1+1) c.2.2.2.1 c.2.1 c.2.2.1)
   | .yield c=>c.1=none/\dl ρ L a b (n+1+min (m+1) 1) c.2.2.2.1 c.2.1 c.2.2.1) st:=by
 obtain⟨ret,na,nb,out,ac,bc⟩:=c;obtain⟨j,l1,l2,l3,l4,l5⟩:=j;dsimp only at j l1 l2 l3 l4 l5;unfold hiI;dsimp only;obtain⟨x,ex,px⟩:=cW T.pb (show nb - 1 < b.size by omega)
 obtain⟨y,ey,py⟩:=cW T.pa (show na - 1 < a.size by omega)
 refine wpS_bind (bi ex (wpS_bind (bi ey (wpS_bind (hL x y st _ px py (hK.k.trans hk) ?_)))))
 by_cases hlt:ρ x < ρ y
 ·rw[decide_eq_true hlt]
  refine wpS_bind (bi ey ?_);have j':=j.pushA l1 ey λz hz=>Nat.le_trans (j.endB (by omega) ex z hz) (Nat.le_of_lt hlt)
  by_cases e:na - 1=0
  ·rw[if_pos (by simpa using e)]
   exact wpS_pure ⟨hK,.inl ⟨_,rfl,j'.doneA e⟩⟩
  ·rw[if_neg (by simpa using e)]
   split
   ·exact wpS_pure ⟨hK,.inr ⟨rfl,j',by show 1<=na - 1;omega,l2,by show na - 1<=a.size;omega,l4,by show na - 1+nb+(n+1+1)<=_;omega⟩⟩
   ·exact wpS_pure ⟨hK,rfl,j',by show 1<=na - 1;omega,l2,by show na - 1<=a.size;omega,l4,by show na - 1+nb+(n+1+min (m+1) 1)<=_;omega⟩
 ·rw[decide_eq_false hlt]
  refine wpS_bind (bi ex ?_);have j':=j.pushB (by omega) ex λz hz=>Nat.le_trans (j.endA l1 ey z hz) (Nat.not_lt.mp hlt)
  by_cases e:nb - 1=1
  ·rw[if_pos (by simpa using e)]
   exact wpS_pure ⟨hK,.inl ⟨_,rfl,j'.firstB e T.b1 T.y⟩⟩
  ·rw[if_neg (by simpa using e)]
   split
   ·exact wpS_pure ⟨hK,.inr ⟨rfl,j',l1,by show 2<=nb - 1;omega,l3,by show nb - 1<=b.size;omega,by show na+(nb - 1)+(n+1+1)<=_;omega⟩⟩
   ·exact wpS_pure ⟨hK,rfl,j',l1,by show 2<=nb - 1;omega,l3,by show nb - 1<=b.size;omega,by show na+(nb - 1)+(n+1+min (m+1) 1)<=_;omega⟩
def PGH (ρ:Keyed->Nat)(L:List Keyed)(a b:Array Keyed)(t:Nat)(st0:SortSt)(r:ForInStep HQ)(st:SortSt):Prop:=match r with
 | .done c=>Kp st0 st/\∃ arr,c.1=some arr/\Good ρ L arr.toList
 | .yield c=>Kp st0 st/\c.1=none/\dl ρ L a b t c.2.2.2.1 c.2.1 c.2.2.1
theorem Hs {st0 st:SortSt}{g n:Nat}{r:HI}(hL:fP M Ar E s ρ kd P)(hk:kindOf st0=kd)(T:Two ρ P a b)(hK:Kp st0 st)
  (h:(∃ arr,r.1=some arr/\Good ρ L arr.toList)\/(r.1=none/\dl ρ L a b (n+1+1) r.2.2.2.1 r.2.1 r.2.2.1)):wpS M Ar E s (hiN a b g r) (PGH ρ L a b (n+1+1) st0) st:=by
 obtain⟨ret,r⟩:=r;unfold hiN;rcases h with ⟨arr,h1,h2⟩|⟨h1,hl⟩
 ·dsimp only at h1
  subst h1;exact wpS_pure ⟨hK,arr,rfl,h2⟩
 ·dsimp only at h1 hl
  subst h1;refine wpS_bind (wpS_lift (wpAny_rule ⟨rfl,?_⟩));refine wpS_bind (wpS_mono (wpS_forRange (I:=λx c st'=>Kp st0 st'/\c.1=none/\dl ρ L a b (n+1+1) c.2.2.2.1 c.2.1 c.2.2.1)
   (Q:=λc st'=>Kp st0 st'/\((∃ arr,c.1=some arr/\Good ρ L arr.toList)\/(c.1=none/\dl ρ L a b (n+1+1) c.2.2.2.1 c.2.1 c.2.2.1))) ?gstep ?gfin ⟨hK,rfl,hl⟩) ?gpost)
  case gfin =>
   rintro c st' ⟨hK,h1,hl⟩;exact⟨hK,.inr ⟨h1,hl⟩⟩
  case gstep =>
   rintro m c st' _ hm ⟨hK,h1,hl⟩;have go:∀ g,wpS M Ar E s (do dS g;zL a b c.2.2.2.1 c.2.1 c.2.2.1 g c.2.2.2.2.2.1 c.2.2.2.2.2.2) (λr st''=>match r with
     | .done c=>Kp st0 st''/\((∃ arr,c.1=some arr/\Good ρ L arr.toList)\/(c.1=none/\dl ρ L a b (n+1+1) c.2.2.2.1 c.2.1 c.2.2.1))
     | .yield c=>Kp st0 st''/\c.1=none/\dl ρ L a b (n+1+1) c.2.2.2.1 c.2.1 c.2.2.1) st':=λg=>by
    rw[dL];refine wpS_bind (wpS_modify (wpS_mono (zM hL hk T (hK.min g) hl) λr st'' hr=>?_));obtain⟨k1,k2⟩:=hr;cases r with
    | done c=>exact⟨k1,k2⟩
    | yield c=>exact⟨k1,k2⟩
   unfold hiG
   split
   ·refine wpS_mono (go _) λr st'' hr=>?_
    cases r<;>exact hr
   ·refine wpS_mono (go _) λr st'' hr=>?_
    cases r<;>exact hr
  case gpost =>
   rintro ⟨ret,r⟩ st' ⟨hK,⟨arr,h1,h2⟩|⟨h1,hl⟩⟩
   ·dsimp only at h1
    subst h1;exact wpS_pure ⟨hK,arr,rfl,h2⟩
   ·dsimp only at h1 hl
    subst h1;unfold hiE;rw[dL];exact wpS_bind (wpS_modify (wpS_pure ⟨hK.min _,rfl,hl⟩))
theorem Ht {st0 st:SortSt}{n:Nat}{c:HQ}(hL:fP M Ar E s ρ kd P)(hk:kindOf st0=kd)(T:Two ρ P a b)(hn:0 < a.size+b.size)(hK:Kp st0 st)(hl:dl ρ L a b (n+1) c.2.2.2.1 c.2.1 c.2.2.1):wpS M Ar E s (hiO a b c) (PGH ρ L a b (n+1+1) st0) st:=by
 unfold hiO;refine wpS_bind (wpS_mono (wpS_forRange (I:=λx c st'=>Kp st0 st'/\c.1=none/\dl ρ L a b (n+1+min x 1) c.2.2.2.1 c.2.1 c.2.2.1)
  (Q:=λc st'=>Kp st0 st'/\((∃ arr,c.1=some arr/\Good ρ L arr.toList)\/(c.1=none/\dl ρ L a b (n+1+1) c.2.2.2.1 c.2.1 c.2.2.1))) ?istep ?ifin ⟨hK,rfl,by simpa using hl⟩) ?ipost)
 case ifin =>
  rintro c st' ⟨hK,h1,hl⟩;rw[show min (max 0 (a.size+b.size)) 1=1 by omega] at hl
  exact⟨hK,.inr ⟨h1,hl⟩⟩
 case istep =>
  rintro m c st' _ hm ⟨hK,h1,hl⟩;refine wpS_mono (Hr hL hk T hK hl) λr st'' hr=>?_;obtain⟨k1,k2⟩:=hr;cases r with
  | done c=>exact⟨k1,k2⟩
  | yield c=>exact⟨k1,k2⟩
 case ipost =>
  rintro r st' ⟨hK,h⟩;exact Hs hL hk T hK h
theorem rC {st:SortSt}{Q:Array Keyed->SortSt->Prop}(hL:fP M Ar E s ρ kd P)(hk:kindOf st=kd)(T:Two ρ P a b)
  (q:∀ r st',Kp st st'->Good ρ (a.toList++b.toList) r.toList->Q r st'):wpS M Ar E s (lH a b) Q st:=by
 rw[pc];have b1:=T.b1;have a1:=T.a1;refine wpS_bind (wpS_lift (wpAny_rule ⟨rfl,?_⟩));obtain⟨x,ex,px⟩:=cW T.pa (show a.size - 1 < a.size by omega)
 refine wpS_bind (bi ex ?_);have j0:W ρ (a.toList++b.toList) a b #[] a.size b.size:=by
  have e1:a.toList.take a.size=a.toList:=List.take_of_length_le (Nat.le_refl _);have e2:b.toList.take b.size=b.toList:=List.take_of_length_le (Nat.le_refl _);unfold W;rw[e1,e2];exact⟨List.Pairwise.nil,T.sa,T.sb,(λx hx y hy=>by cases hy),(λx hx y hy=>by cases hy),by simp⟩
 have j1:W ρ (a.toList++b.toList) a b #[x] (a.size - 1) b.size:=by simpa using j0.pushA a1 ex λy hy=>T.z y (List.mem_of_mem_take hy) x ex
 by_cases e:a.size - 1=0
 ·rw[if_pos (by simpa using e)]
  exact wpS_pure (q _ st .refl (by simpa using j1.doneA e))
 ·rw[if_neg (by simpa using e)]
  by_cases e2:b.size=1
  ·rw[if_pos (by simpa using e2)]
   exact wpS_pure (q _ st .refl (by simpa using j1.firstB e2 T.b1 T.y))
  ·rw[if_neg (by simpa using e2)]
   refine wpS_bind (wpS_get ?_);refine wpS_bind (wpS_mono (wpS_forRange (I:=λx c st'=>Kp st st'/\c.1=none/\dl ρ (a.toList++b.toList) a b (x+1) c.2.2.2.1 c.2.1 c.2.2.1)
    (Q:=λc st'=>Kp st st'/\∃ arr,c.1=some arr/\Good ρ (a.toList++b.toList) arr.toList) ?step ?fin ⟨.refl,rfl,j1,by show 1<=a.size - 1;omega,by show 2<=b.size;omega,by show a.size - 1<=a.size;omega,by show b.size<=b.size;omega,by show a.size - 1+b.size+(0+1)<=_;omega⟩) ?post)
   case fin =>
    rintro ⟨ret,na,nb,out,g⟩ st' ⟨hK,h1,j,h2,h3,h4,h5,h6⟩;dsimp only at h2 h3 h4 h5 h6;omega
   case post =>
    rintro ⟨ret,r⟩ st' ⟨hK,arr,h1,h2⟩;dsimp only at h1;subst h1;exact wpS_pure (q arr st' hK h2)
   case step =>
    rintro n c st' _ hn ⟨hK,h1,hl⟩;refine wpS_mono (Ht hL hk T (by omega) hK hl) λr st'' hr=>?_
    cases r with
    | done c=>exact hr
    | yield c=>exact hr
end
end Vs

namespace Vs
open PySem PyProof.Rows
abbrev Hu:=Nat×Nat×Nat
theorem rD (i:Nat):mergeAt' i=(do
 let s <- get
 let (some (sa,na,power),some (sb,nb,_)):=((pendingOf s)[i]?,(pendingOf s)[i+1]?)|unsupported "internal:list.sort.pending"
 set (setPending s (((pendingOf s).setIfInBounds i (sa,na+nb,power)).eraseIdxIfInBounds (i+1)))
 let some k <- cg false (<- elem' (arrOf s) sb) (arrOf s) sa na 0|return false
 let (sa,na):=(sa+k,na - k)
 if na==0 then return true
 let some nb <- cg true (<- elem' (arrOf s) (sa+na - 1)) (arrOf s) sb nb (nb - 1)|return false
 if nb==0 then return true
 let x:=(arrOf s).extract sa sb
 let y:=(arrOf s).extract sb (sb+nb)
 let merged <- if na<=nb then lF x y else lH x y
 modify λs=>setArr s (merged.toList.zipIdx.foldl (λa (p,j)=>a.setIfInBounds (sa+j) p) (arrOf s))
 return (failedOf (<- get)).isNone):=rfl
def Ch (ρ:Keyed->Nat)(xs:Array Keyed):Nat->Nat->List Hu->Prop
 | s,e,[]=>s=e
 | s,e,r::rs=>r.1=s/\1<=r.2.1/\Seg ρ xs s (s+r.2.1)/\Ch ρ xs (s+r.2.1) e rs
theorem Ch.app {ρ:Keyed->Nat}{xs:Array Keyed}:∀ {l m:List Hu} {s e:Nat},Ch ρ xs s e (l++m) ↔ ∃ t,Ch ρ xs s t l/\Ch ρ xs t e m
 | [],m,s,e=>⟨λh=>⟨s,rfl,h⟩,λ⟨t,h1,h2⟩=>by cases h1;exact h2⟩
 | r::l,m,s,e=>by
  constructor
  ·rintro ⟨h1,h2,h3,h4⟩
   obtain⟨t,h5,h6⟩:=Ch.app.mp h4;exact⟨t,⟨h1,h2,h3,h5⟩,h6⟩
  ·rintro ⟨t,⟨h1,h2,h3,h5⟩,h6⟩
   exact⟨h1,h2,h3,Ch.app.mpr ⟨t,h5,h6⟩⟩
theorem Ch.le {ρ:Keyed->Nat}{xs:Array Keyed}:∀ {l:List Hu} {s e:Nat},Ch ρ xs s e l->s+l.length<=e
 | [],s,e,h=>by cases h;exact Nat.le_refl _
 | r::l,s,e,⟨_,h2,_,h4⟩=>by have:=Ch.le h4;simp only[List.length_cons];omega
theorem Seg.congr {ρ:Keyed->Nat}{xs ys:Array Keyed}{lo hi:Nat}(h:Seg ρ xs lo hi)(e:∀ k,lo<=k->k < hi->ys[k]?=xs[k]?):Seg ρ ys lo hi:=λi j h1 h2 h3=>by
 rw[fO (e i h1 (by omega)),fO (e j (by omega) h3)];exact h i j h1 h2 h3
theorem Ch.congr {ρ:Keyed->Nat}{xs ys:Array Keyed}:∀ {l:List Hu} {s e:Nat},Ch ρ xs s e l->(∀ k,s<=k->k < e->ys[k]?=xs[k]?)->Ch ρ ys s e l
 | [],s,e,h,_=>h
 | r::l,s,e,⟨h1,h2,h3,h4⟩,q=>by
  have:=Ch.le h4;exact⟨h1,h2,h3.congr λk a b=>q k a (by omega),Ch.congr h4 λk a b=>q k (by omega) b⟩
theorem pd (off:Nat):∀ (m:List Keyed) (n:Nat) (xs:Array Keyed),off+n+m.length<=xs.size->∀ k:Nat,
  ((m.zipIdx n).foldl (λa (p,j)=>a.setIfInBounds (off+j) p) xs)[k]?=(if off+n<=k/\k < off+n+m.length then m[k - (off+n)]? else xs[k]?)/\((m.zipIdx n).foldl (λa (p,j)=>a.setIfInBounds (off+j) p) xs).size=xs.size
 | [],n,xs,h,k=>⟨by rw[if_neg (by simp only[List.length_nil];omega)];rfl,rfl⟩
 | p::m,n,xs,h,k=>by
  simp only[List.length_cons] at h;rw[List.zipIdx_cons,List.foldl_cons];have ih:=pd off m (n+1) (xs.setIfInBounds (off+n) p) (by rw[Array.size_setIfInBounds];omega) k
  refine⟨?_,by rw[ih.2,Array.size_setIfInBounds]⟩
  rw[ih.1];simp only[List.length_cons]
  by_cases h1:off+(n+1)<=k/\k < off+(n+1)+m.length
  ·rw[if_pos h1,if_pos (by omega),show k - (off+n)=k - (off+(n+1))+1 by omega,List.getElem?_cons_succ]
  ·rw[if_neg h1]
   by_cases h2:k=off+n
   ·subst h2
    rw[if_pos (by omega),Nat.sub_self,List.getElem?_cons_zero,Array.getElem?_setIfInBounds_self_of_lt (by omega)]
   ·rw[if_neg (by omega),Array.getElem?_setIfInBounds_ne (by omega)]
theorem zN {off:Nat}{m:List Keyed}{xs:Array Keyed}(h:off+m.length<=xs.size)(hp:m.Perm ((xs.toList.drop off).take m.length)):(m.zipIdx.foldl (λa (p,j)=>a.setIfInBounds (off+j) p) xs).Perm xs:=by
 rw[Array.perm_iff_toList_perm];have e:(m.zipIdx.foldl (λa (p,j)=>a.setIfInBounds (off+j) p) xs).toList=xs.toList.take off++(m++xs.toList.drop (off+m.length)):=by
  apply List.ext_getElem?;intro k;have:=(pd off m 0 xs (by simpa using h) k).1
  rw[Nat.add_zero] at this;rw[Array.getElem?_toList,this];have hl:(xs.toList.take off).length=off:=by rw[List.length_take];have:xs.toList.length=xs.size:=rfl;omega
  by_cases h1:k < off
  ·rw[if_neg (by omega),List.getElem?_append_left (by omega),List.getElem?_take_of_lt h1,Array.getElem?_toList]
  ·rw[List.getElem?_append_right (by omega),hl]
   by_cases h2:k < off+m.length
   ·rw[if_pos (by omega),List.getElem?_append_left (by omega)]
   ·rw[if_neg (by omega),List.getElem?_append_right (by omega),List.getElem?_drop,show off+m.length+(k - off - m.length)=k by omega,Array.getElem?_toList]
 rw[e];have e2:xs.toList=xs.toList.take off++((xs.toList.drop off).take m.length++xs.toList.drop (off+m.length)):=by
  rw[<- List.drop_drop,List.take_append_drop,List.take_append_drop]
 exact (List.Perm.append_left _ (List.Perm.append_right _ hp)).trans (by rw[<- e2])
theorem lK {ρ:Keyed->Nat}{xs:Array Keyed}{i j:Nat}(h:Seg ρ xs i j)(hj:j<=xs.size):So ρ (xs.extract i j).toList:=by
 refine List.pairwise_iff_getElem.mpr λp q hp hq hpq=>?_;rw[kH,List.length_drop,List.length_take] at hq;have hs:xs.toList.length=xs.size:=rfl;have:=h (i+p) (i+q) (by omega) (by omega) (by omega)
 have e1:xs[i+p]?=some ((xs.extract i j).toList[p]):=by
  rw[Array.getElem?_eq_getElem (by omega)];simp
 have e2:xs[i+q]?=some ((xs.extract i j).toList[q]):=by
  rw[Array.getElem?_eq_getElem (by omega)];simp
 rw[R_at e1,R_at e2] at this;exact this
theorem zO {xs:Array Keyed}{i j m:Nat}(h:i+m < j)(hj:j<=xs.size):(xs.extract i j)[m]?=xs[i+m]?:=by
 rw[Array.getElem?_extract];rw[if_pos (by omega)]
theorem gA {xs:Array Keyed}{i j:Nat}{x:Keyed}(h:x∈(xs.extract i j).toList):∃ m,i<=m/\m < j/\m < xs.size/\xs[m]?=some x:=by
 rw[kH] at h;exact fw h
section
variable {M:Model}{Ar:Around}{E:Value->Shared->Prop}{s:Shared}{ρ:Keyed->Nat}{kd:SortKind}{P:Keyed->Prop}{a₀:Array Keyed}
theorem Hv {key:Keyed}{arr:Array Keyed}{base n hint:Nat}{st:SortSt}{Q:Option Nat->SortSt->Prop}(hL:fP M Ar E s ρ kd P)(hk:kindOf st=kd)(pk:P key)(pa:∀ i,i < n->∃ x,arr[base+i]?=some x/\P x)(hs:Seg ρ arr base (base+n))(hn:hint < n)
  (q:∀ k,k<=n->(∀ i,base<=i->i < base+k->R ρ arr i<=ρ key)->(∀ i,base+k<=i->i < base+n->ρ key < R ρ arr i)->Q (some k) st):wpS M Ar E s (cg false key arr base n hint) Q st:=by
 refine de (nD hL hk pk pa) (λi j hij hj h=>?_) hn λk hk1 h1 h2=>q k hk1 (λi hi hi2=>?_) λi hi hi2=>?_
 ·have:=hs (base+i) (base+j) (by omega) (by omega) (by omega)
  simp only[nC,Bool.false_eq_true,if_false,Bool.not_eq_true',decide_eq_false_iff_not] at h ⊢;omega
 ·have:=h1 (i - base) (by omega)
  simp only[nC,Bool.false_eq_true,if_false,Bool.not_eq_true',decide_eq_false_iff_not,show base+(i - base)=i by omega] at this
  omega
 ·have:=h2 (i - base) (by omega) (by omega)
  simp only[nC,Bool.false_eq_true,if_false,show base+(i - base)=i by omega,Bool.not_eq_false',decide_eq_true_eq] at this
  exact this
theorem Hw {key:Keyed}{arr:Array Keyed}{base n hint:Nat}{st:SortSt}{Q:Option Nat->SortSt->Prop}(hL:fP M Ar E s ρ kd P)(hk:kindOf st=kd)(pk:P key)(pa:∀ i,i < n->∃ x,arr[base+i]?=some x/\P x)(hs:Seg ρ arr base (base+n))(hn:hint < n)
  (q:∀ k,k<=n->(∀ i,base<=i->i < base+k->R ρ arr i < ρ key)->(∀ i,base+k<=i->i < base+n->ρ key<=R ρ arr i)->Q (some k) st):wpS M Ar E s (cg true key arr base n hint) Q st:=by
 refine de (nD hL hk pk pa) (λi j hij hj h=>?_) hn λk hk1 h1 h2=>q k hk1 (λi hi hi2=>?_) λi hi hi2=>?_
 ·have:=hs (base+i) (base+j) (by omega) (by omega) (by omega)
  simp only[nC,if_true,decide_eq_true_eq] at h ⊢;omega
 ·have:=h1 (i - base) (by omega)
  simp only[nC,if_true,decide_eq_true_eq,show base+(i - base)=i by omega] at this
  exact this
 ·have:=h2 (i - base) (by omega) (by omega)
  simp only[nC,if_true,show base+(i - base)=i by omega,decide_eq_false_iff_not] at this
  omega
theorem Hx {st st':SortSt}{Q:PUnit->SortSt->Prop}(h:Q ⟨⟩ st'):wpS M Ar E s (set st':StateT SortSt Sem PUnit) Q st:=by
 unfold wpS;rw[StateT.run_set];exact wpAny_pure ⟨rfl,h⟩
theorem LL {l:List Hu}{i:Nat}(h:i+1 < l.length):∃ pre x y post,l=pre++x::y::post/\pre.length=i:=by
 refine⟨l.take i,l[i],l[i+1],l.drop (i+2),?_,by rw[List.length_take];omega⟩
 have e:=(List.take_append_drop i l).symm;rw[List.drop_eq_getElem_cons (by omega),List.drop_eq_getElem_cons h] at e
 exact e
theorem jQ {st:SortSt}{i lo:Nat}{Q:Bool->SortSt->Prop}(hL:fP M Ar E s ρ kd P)(h0:∀ p∈a₀.toList,P p)(hB:SI kd a₀ st)(hlo:lo<=a₀.size)(hc:Ch ρ (arrOf st) 0 lo (pendingOf st).toList)(hi:i+1 < (pendingOf st).size)
  (q:∀ st',SI kd a₀ st'->Ch ρ (arrOf st') 0 lo (pendingOf st').toList->(pendingOf st').size+1=(pendingOf st).size->(∀ k,lo<=k->(arrOf st')[k]?=(arrOf st)[k]?)->Q true st'):wpS M Ar E s (mergeAt' i) Q st:=by
 rw[rD];refine wpS_bind (wpS_get ?_);obtain⟨pre,⟨sa,na,pw⟩,⟨sb,nb,pw2⟩,post,el,hpl⟩:=LL (l:=(pendingOf st).toList) (i:=i) (by simpa using hi)
 have e1:(pendingOf st)[i]?=some (sa,na,pw):=by
  rw[<- Array.getElem?_toList,el,List.getElem?_append_right (by omega),hpl,Nat.sub_self];rfl
 have e2:(pendingOf st)[i+1]?=some (sb,nb,pw2):=by
  rw[<- Array.getElem?_toList,el,List.getElem?_append_right (by omega),hpl,Nat.add_sub_cancel_left];rfl
 have hnew:(((pendingOf st).setIfInBounds i (sa,na+nb,pw)).eraseIdxIfInBounds (i+1)).toList=pre++(sa,na+nb,pw)::post:=by
  have hs:i+1 < ((pendingOf st).setIfInBounds i (sa,na+nb,pw)).size:=by rw[Array.size_setIfInBounds];exact hi
  rw[Array.eraseIdxIfInBounds,dif_pos hs,Array.toList_eraseIdx,Array.toList_setIfInBounds,el,<- hpl];rw[List.set_append_right _ _ (Nat.le_refl _),Nat.sub_self,List.set_cons_zero,List.eraseIdx_append_of_length_le (Nat.le_succ _),show pre.length.succ - pre.length=1 by omega]
  rfl
 have hsz2:(((pendingOf st).setIfInBounds i (sa,na+nb,pw)).eraseIdxIfInBounds (i+1)).size+1=(pendingOf st).size:=by
  have a1:(((pendingOf st).setIfInBounds i (sa,na+nb,pw)).eraseIdxIfInBounds (i+1)).toList.length=(pre++(sa,na+nb,pw)::post).length:=by rw[hnew]
  have a2:(pendingOf st).toList.length=(pre++(sa,na,pw)::(sb,nb,pw2)::post).length:=by rw[el]
  simp only[List.length_append,List.length_cons,Array.length_toList] at a1 a2;omega
 rw[e1,e2];dsimp only;refine wpS_bind (Hx ?_);rw[el] at hc;obtain⟨t,c1,⟨rfl,c3,c4,rfl,c6,c7,c8⟩⟩:=Ch.app.mp hc;dsimp only at c1 c3 c4 c6 c7 c8 hnew e1 e2 hsz2 ⊢;have hle:=Ch.le c8;have hsz:=hB.size;have atx:∀ k,k < a₀.size->∃ x,(arrOf st)[k]?=some x/\P x:=λk hk=>hB.at h0 hk;obtain⟨b0,eb,pb⟩:=atx (sa+na) (by omega)
 refine wpS_bind (bi eb ?_);refine wpS_bind (Hv hL hB.kind pb (λi hi=>atx _ (by omega)) c4 (by omega) λk hk g1 g2=>?_)
 dsimp only
 -- the whole of both,from what becomes of the array
 have fin:∀ (ys:Array Keyed) (st':SortSt),arrOf st'=ys->pendingOf st'=((pendingOf st).setIfInBounds i (sa,na+nb,pw)).eraseIdxIfInBounds (i+1)->kindOf st'=kd->failedOf st'=none->ys.Perm (arrOf st) ->
   (∀ k,k < sa\/sa+na+nb<=k->ys[k]?=(arrOf st)[k]?)->Seg ρ ys sa (sa+na+nb)->Q true st':=λys st' h1 h2 h3 h4 h5 h6 h7=>by
  refine q st' ⟨by rw[h1];exact h5.trans hB.perm,h3,h4⟩ ?_ (by rw[h2];exact hsz2) (λk hk=>by rw[h1];exact h6 k (.inr (by omega)))
  rw[h1,h2,hnew];refine Ch.app.mpr ⟨sa,c1.congr λk _ hk=>h6 k (.inl hk),rfl,?_,?_,?_⟩
  ·show 1<=na+nb;omega
  ·show Seg ρ ys sa (sa+(na+nb));rw[<- Nat.add_assoc];exact h7
  ·show Ch ρ ys (sa+(na+nb)) lo post
   rw[<- Nat.add_assoc];exact c8.congr λk hk _=>h6 k (.inr hk)
 have rb0:R ρ (arrOf st) (sa+na)=ρ b0:=R_at eb
 by_cases hk0:na - k=0
 ·rw[if_pos (by simpa using hk0)]
  refine wpS_pure (fin (arrOf st) _ rfl rfl hB.kind hB.failed (Array.Perm.refl _) (λ_ _=>rfl) λi j h1 h2 h3=>?_)
  by_cases hj:j < sa+na
  ·exact c4 i j h1 h2 hj
  ·by_cases hi':i < sa+na
   ·have:=g1 i h1 (by omega)
    have:=c7 (sa+na) j (by omega) (by omega) h3
    omega
   ·exact c7 i j (by omega) h2 h3
 ·rw[if_neg (by simpa using hk0)]
  obtain⟨al,ea,pa⟩:=atx (sa+k+(na - k) - 1) (by omega)
  have ral:R ρ (arrOf st) (sa+na - 1)=ρ al:=by rw[show sa+na - 1=sa+k+(na - k) - 1 by omega];exact R_at ea
  refine wpS_bind (bi ea ?_);refine wpS_bind (Hw hL hB.kind pa (λi hi=>atx _ (by omega)) c7 (by omega) λk2 hk2 g3 g4=>?_)
  dsimp only
  by_cases hk20:k2=0
  ·subst hk20
   rw[if_pos (by simp)]
   refine wpS_pure (fin (arrOf st) _ rfl rfl hB.kind hB.failed (Array.Perm.refl _) (λ_ _=>rfl) λi j h1 h2 h3=>?_)
   by_cases hj:j < sa+na
   ·exact c4 i j h1 h2 hj
   ·by_cases hi':i < sa+na
    ·have:=g4 j (by omega) h3
     have:=c4 i (sa+na - 1) h1 (by omega) (by omega)
     omega
    ·exact c7 i j (by omega) h2 h3
  ·rw[if_neg (by simpa using hk20)]
   have hPx:∀ i j,j<=a₀.size->∀ x∈((arrOf st).extract i j).toList,P x:=λi j hj x hx=>by
    obtain⟨m,m1,m2,m3,m4⟩:=gA hx;obtain⟨y,ey,py⟩:=atx m (by omega)
    rw[m4] at ey;cases ey;exact py
   have zx:((arrOf st).extract (sa+k) (sa+na)).size=na - k:=by rw[Array.size_extract];omega
   have zy:((arrOf st).extract (sa+na) (sa+na+k2)).size=k2:=by rw[Array.size_extract];omega
   have T:Two ρ P ((arrOf st).extract (sa+k) (sa+na)) ((arrOf st).extract (sa+na) (sa+na+k2)) :=
    ⟨hPx _ _ (by omega),hPx _ _ (by omega),lK (λi j h1 h2 h3=>c4 i j (by omega) h2 h3) (by omega),lK (λi j h1 h2 h3=>c7 i j h1 h2 (by omega)) (by omega),by omega,by omega,
     λy hy z hz=>by
      obtain⟨m,m1,m2,m3,m4⟩:=gA hy;rw[zx,zO (by omega) (by omega),show sa+k+(na - k - 1)=sa+k+(na - k) - 1 by omega,ea] at hz
      cases hz;have:=g3 m m1 m2;rw[R_at m4] at this;omega,
     λy hy z hz=>by
      obtain⟨m,m1,m2,m3,m4⟩:=gA hy;rw[zO (by omega) (by omega),Nat.add_zero,eb] at hz
      cases hz;have:=g2 m m1 m2;rw[R_at m4] at this;omega⟩
   have done:∀ (r:Array Keyed) (st':SortSt),Kp (setPending st (((pendingOf st).setIfInBounds i (sa,na+nb,pw)).eraseIdxIfInBounds (i+1))) st'->Good ρ (((arrOf st).extract (sa+k) (sa+na)).toList++((arrOf st).extract (sa+na) (sa+na+k2)).toList) r.toList ->
     wpS M Ar E s (do
      modify λs=>setArr s (r.toList.zipIdx.foldl (λa (p,j)=>a.setIfInBounds (sa+k+j) p) (arrOf s))
      let x <- get
      pure (failedOf x).isNone) Q st':=λr st' hK hG=>by
    refine wpS_bind (wpS_modify (wpS_bind (wpS_get (wpS_pure ?_))));have ka:arrOf st'=arrOf st:=hK.a;have kp:pendingOf st'=_:=hK.p;have kf:failedOf st'=none:=hK.f.trans hB.failed;have kk:kindOf st'=kd:=hK.k.trans hB.kind;show Q (failedOf st').isNone _;rw[kf];have hlen:r.toList.length=na - k+k2:=by
     have:=hG.2.length_eq;simp only[List.length_append,Array.length_toList,zx,zy] at this ⊢;exact this
    have hbd:sa+k+r.toList.length<=(arrOf st).size:=by omega
    have get:=λm=>(pd (sa+k) r.toList 0 (arrOf st) (by simpa using hbd) m).1
    simp only[Nat.add_zero] at get;have hX:((arrOf st).extract (sa+k) (sa+na)).toList++((arrOf st).extract (sa+na) (sa+na+k2)).toList=((arrOf st).toList.drop (sa+k)).take r.toList.length:=by
     rw[hlen,List.take_add,List.drop_drop,show sa+k+(na - k)=sa+na by omega]
     rw[show sa+na=sa+k+(na - k) by omega,kG,show sa+k+(na - k)=sa+na by omega,kG]
    refine fin _ _ (by show _=r.toList.zipIdx.foldl _ (arrOf st);rw[ka]) kp kk kf (zN hbd (by rw[<- hX];exact hG.2)) (λm hm=>by rw[get m,if_neg (by omega)]) ?_
    have ry:∀ m,¬ (sa+k<=m/\m < sa+k+r.toList.length)->R ρ (r.toList.zipIdx.foldl (λa (p,j)=>a.setIfInBounds (sa+k+j) p) (arrOf st)) m=R ρ (arrOf st) m:=λm hm=>fO (by rw[get m,if_neg hm])
    have rz:∀ m (h:m - (sa+k) < r.toList.length),sa+k<=m->R ρ (r.toList.zipIdx.foldl (λa (p,j)=>a.setIfInBounds (sa+k+j) p) (arrOf st)) m=ρ (r.toList[m - (sa+k)]):=λm h hm=>by
     refine R_at ?_;rw[get m,if_pos (by omega),List.getElem?_eq_getElem h]
    have low:∀ z∈r.toList,∀ i,sa<=i->i < sa+k->R ρ (arrOf st) i<=ρ z:=λz hz i i1 i2=>by
     rcases List.mem_append.mp (hG.2.mem_iff.mp hz) with hz|hz
     ·obtain⟨m,m1,m2,m3,m4⟩:=gA hz
      rw[<- R_at (ρ:=ρ) m4];exact c4 i m i1 (by omega) m2
     ·obtain⟨m,m1,m2,m3,m4⟩:=gA hz
      have:=g1 i i1 i2;have:=c7 (sa+na) m (by omega) m1 (by omega)
      rw[<- R_at (ρ:=ρ) m4];omega
    have high:∀ z∈r.toList,∀ j,sa+na+k2<=j->j < sa+na+nb->ρ z<=R ρ (arrOf st) j:=λz hz j j1 j2=>by
     rcases List.mem_append.mp (hG.2.mem_iff.mp hz) with hz|hz
     ·obtain⟨m,m1,m2,m3,m4⟩:=gA hz
      have:=g4 j j1 j2;have:=c4 m (sa+na - 1) (by omega) (by omega) (by omega)
      rw[<- R_at (ρ:=ρ) m4];omega
     ·obtain⟨m,m1,m2,m3,m4⟩:=gA hz
      rw[<- R_at (ρ:=ρ) m4];exact c7 m j m1 (by omega) j2
    intro i j h1 h2 h3
    by_cases i1:i < sa+k
    ·rw[ry i (by omega)]
     by_cases j1:j < sa+k
     ·rw[ry j (by omega)];exact c4 i j h1 h2 (by omega)
     ·by_cases j2:j < sa+k+r.toList.length
      ·rw[rz j (by omega) (by omega)];exact low _ (List.getElem_mem _) i h1 i1
      ·rw[ry j (by omega)]
       have:=g1 i h1 i1;have:=c7 (sa+na) j (by omega) (by omega) h3
       omega
    ·by_cases i2:i < sa+k+r.toList.length
     ·rw[rz i (by omega) (by omega)]
      by_cases j2:j < sa+k+r.toList.length
      ·rw[rz j (by omega) (by omega)]
       by_cases e:i=j
       ·subst e;exact Nat.le_refl _
       ·exact List.pairwise_iff_getElem.mp hG.1 _ _ (by omega) (by omega) (by omega)
      ·rw[ry j (by omega)];exact high _ (List.getElem_mem _) j (by omega) h3
     ·rw[ry i (by omega),ry j (by omega)];exact c7 i j (by omega) h2 h3
   by_cases hle2:na - k<=k2
   ·rw[if_pos hle2]
    exact wpS_bind (rn hL hB.kind T done)
   ·rw[if_neg hle2]
    exact wpS_bind (rC hL hB.kind T done)
end
end Vs

namespace Vs
open PySem PyProof.Rows
theorem Ch.modify {ρ:Keyed->Nat}{xs:Array Keyed}{f:Hu->Hu}(hf:∀ r,(f r).1=r.1/\(f r).2.1=r.2.1):∀ (l:List Hu) (i s e:Nat),Ch ρ xs s e l->Ch ρ xs s e (l.modify i f)
 | [],i,s,e,h=>by rw[List.modify_nil];exact h
 | r::l,0,s,e,⟨h1,h2,h3,h4⟩=>by
  rw[List.modify_zero_cons];exact⟨(hf r).1.trans h1,by rw[(hf r).2];exact h2,by rw[(hf r).2];exact h3,by rw[(hf r).2];exact h4⟩
 | r::l,i+1,s,e,⟨h1,h2,h3,h4⟩=>by
  rw[List.modify_succ_cons];exact⟨h1,h2,h3,Ch.modify hf l i _ _ h4⟩
section
variable {M:Model}{Ar:Around}{E:Value->Shared->Prop}{s:Shared}{ρ:Keyed->Nat}{kd:SortKind}{P:Keyed->Prop}{a₀:Array Keyed}
theorem SI.setPend {st:SortSt}(h:SI kd a₀ st)(p:Array Hu):SI kd a₀ (setPending st p):=⟨h.perm,h.kind,h.failed⟩
def gZ (lo n:Nat):StateT SortSt Sem (ForInStep (Option Unit×Nat)):=do
 modify λs=>setPending s ((pendingOf s).push (lo,n,0))
 pure (ForInStep.yield (none,lo+n))
def fQ (size pw:Nat):StateT SortSt Sem (Option Unit×Unit) :=
 forIn [:size] ((none,()):Option Unit×Unit) λ_ _=>do
  let x <- get
  match (if (pendingOf x).size > 1 then (pendingOf x)[(pendingOf x).size - 2]? else none) with
  | some (_,_,older) =>
   if older<=pw then pure (ForInStep.done (none,()))
   else do
    let r <- mergeAt' ((pendingOf x).size - 2)
    if (!r)=true then pure (ForInStep.done (some (),())) else pure (ForInStep.yield (none,()))
  | _=>pure (ForInStep.done (none,()))
def fR (size lo n:Nat):StateT SortSt Sem (ForInStep (Option Unit×Nat)):=do
 let x <- get
 match (pendingOf x).back? with
 | some (s1,n1,_)=>do
  let r <- fQ size (power' size (2*s1+n1) (2*s1+n1+n1+n) size)
  match r.fst with
  | some r=>pure (ForInStep.done (some r,lo))
  | none=>do
   modify λs=>setPending s ((pendingOf s).modify ((pendingOf s).size - 1) λx=>(x.fst,x.2.fst,power' size (2*s1+n1) (2*s1+n1+n1+n) size))
   gZ lo n
 | _=>gZ lo n
theorem jR {st:SortSt}{lo n:Nat}{Q:ForInStep (Option Unit×Nat)->SortSt->Prop}(hB:SI kd a₀ st)(hc:Ch ρ (arrOf st) 0 lo (pendingOf st).toList)(hn:1<=n)(hs:Seg ρ (arrOf st) lo (lo+n))
  (q:∀ st',SI kd a₀ st'->Ch ρ (arrOf st') 0 (lo+n) (pendingOf st').toList->Q (.yield (none,lo+n)) st'):wpS M Ar E s (gZ lo n) Q st:=by
 unfold gZ;refine wpS_bind (wpS_modify (wpS_pure (q _ (hB.setPend _) ?_)));show Ch ρ (arrOf st) 0 (lo+n) ((pendingOf st).push (lo,n,0)).toList;rw[Array.toList_push];exact Ch.app.mpr ⟨lo,hc,rfl,hn,hs,rfl⟩
theorem mS {st:SortSt}{pw lo n:Nat}{Q:Option Unit×Unit->SortSt->Prop}(hL:fP M Ar E s ρ kd P)(h0:∀ p∈a₀.toList,P p)(hB:SI kd a₀ st)(hlo:lo<=a₀.size)(hc:Ch ρ (arrOf st) 0 lo (pendingOf st).toList)(hs:Seg ρ (arrOf st) lo (lo+n))
  (q:∀ st',SI kd a₀ st'->Ch ρ (arrOf st') 0 lo (pendingOf st').toList->Seg ρ (arrOf st') lo (lo+n)->Q (none,()) st'):wpS M Ar E s (fQ a₀.size pw) Q st:=by
 unfold fQ;refine wpS_forRange (I:=λx c st'=>c=(none,())/\SI kd a₀ st'/\Ch ρ (arrOf st') 0 lo (pendingOf st').toList/\Seg ρ (arrOf st') lo (lo+n)) ?step ?fin ⟨rfl,hB,hc,hs⟩
 case fin =>
  rintro c st' ⟨rfl,h1,h2,h3⟩;exact q st' h1 h2 h3
 case step =>
  rintro x c st' _ hx ⟨rfl,h1,h2,h3⟩;refine wpS_bind (wpS_get ?_)
  by_cases hz:(pendingOf st').size > 1
  ·rw[if_pos hz]
   have e:(pendingOf st')[(pendingOf st').size - 2]?=some (pendingOf st')[(pendingOf st').size - 2]:=Array.getElem?_eq_getElem (by omega)
   rw[e];dsimp only
   split
   ·exact wpS_pure (q st' h1 h2 h3)
   ·refine wpS_bind (jQ hL h0 h1 hlo h2 (by omega) λst2 b1 b2 b3 b4=>?_)
    simp only[Bool.not_true,Bool.false_eq_true,if_false];exact wpS_pure ⟨rfl,b1,b2,h3.congr λk hk _=>b4 k hk⟩
  ·rw[if_neg hz]
   exact wpS_pure (q st' h1 h2 h3)
theorem rE {st:SortSt}{lo n:Nat}{Q:ForInStep (Option Unit×Nat)->SortSt->Prop}(hL:fP M Ar E s ρ kd P)(h0:∀ p∈a₀.toList,P p)(hB:SI kd a₀ st)(hlo:lo<=a₀.size)(hc:Ch ρ (arrOf st) 0 lo (pendingOf st).toList)(hn:1<=n)(hs:Seg ρ (arrOf st) lo (lo+n))
  (q:∀ st',SI kd a₀ st'->Ch ρ (arrOf st') 0 (lo+n) (pendingOf st').toList->Q (.yield (none,lo+n)) st'):wpS M Ar E s (fR a₀.size lo n) Q st:=by
 unfold fR;refine wpS_bind (wpS_get ?_)
 split
 ·refine wpS_bind (mS hL h0 hB hlo hc hs λst' b1 b2 b3=>?_)
  dsimp only;refine wpS_bind (wpS_modify (jR (b1.setPend _) ?_ hn b3 q));show Ch ρ (arrOf st') 0 lo ((pendingOf st').modify _ _).toList;rw[Array.toList_modify];refine Ch.modify ?_ _ _ _ _ b2;intro r;exact⟨rfl,rfl⟩
 ·exact jR hB hc hn hs q
theorem LM (c:Prop)[Decidable c]{n:Nat}(h:2<=n):(if c then n - 2 - 1 else n - 2)+1 < n:=by split<;>omega
local macro_rules|`(tactic| walk_at "s_rest")=>`(tactic| (unfold fR fQ gZ;congr 1;funext x;cases e:(pendingOf x).back? with
  | none=>rfl
  | some y=>(obtain⟨s1,n1,p1⟩:=y;dsimp only;congr 1;funext r;obtain⟨r1,r2⟩:=r;cases r1<;>rfl)))
theorem ph {st:SortSt}{Q:Unit->SortSt->Prop}(hL:fP M Ar E s ρ kd P)(h0:∀ p∈a₀.toList,P p)(hB:SI kd a₀ st)(hp:pendingOf st=#[])(h2:2<=a₀.size)
  (h:∀ st',SI kd a₀ st'->Seg ρ (arrOf st') 0 a₀.size->Q () st'):wpS M Ar E s sortRuns' Q st:=by
 rw[sortRuns'_eq];refine wpS_bind (wpS_get ?_);dsimp only;rw[hB.size];generalize minRun' a₀.size a₀.size 0=mr;refine wpS_bind (wpS_mono (wpS_forRange (I:=λx c st'=>SI kd a₀ st'/\∃ lo,c=(none,lo)/\lo<=a₀.size/\(x<=lo\/lo=a₀.size)/\Ch ρ (arrOf st') 0 lo (pendingOf st').toList)
  (Q:=λc st'=>SI kd a₀ st'/\c=(none,a₀.size)/\Ch ρ (arrOf st') 0 a₀.size (pendingOf st').toList) ?step ?fin ⟨hB,0,rfl,Nat.zero_le _,.inl (Nat.le_refl _),by rw[hp];rfl⟩) ?post)
 case fin =>
  rintro c st' ⟨hB',lo,rfl,l1,l2,hc⟩;have:lo=a₀.size:=by omega
  subst this;exact⟨hB',rfl,hc⟩
 case step =>
  rintro x c st' _ hx ⟨hB',lo,rfl,l1,l2,hc⟩;dsimp only
  by_cases hge:lo>=a₀.size
  ·rw[if_pos hge]
   have:lo=a₀.size:=by omega
   subst this;exact wpS_pure ⟨hB',rfl,hc⟩
  ·rw[if_neg hge]
   refine wpS_bind (oY hL h0 (by omega) (by omega) hB' λm st1 f1 m1 m2 s1=>?_)
   dsimp only;have hc1:Ch ρ (arrOf st1) 0 lo (pendingOf st1).toList:=by rw[f1.pend];exact hc.congr λk _ hk=>f1.same k hk
   have go:∀ n st2,1<=n->lo+n<=a₀.size->SI kd a₀ st2->Ch ρ (arrOf st2) 0 lo (pendingOf st2).toList->Seg ρ (arrOf st2) lo (lo+n)->wpS M Ar E s (fR a₀.size lo n) (λr st' =>
     match r with
     | ForInStep.done c'=>SI kd a₀ st'/\c'=(none,a₀.size)/\Ch ρ (arrOf st') 0 a₀.size (pendingOf st').toList
     | ForInStep.yield c'=>SI kd a₀ st'/\∃ lo,c'=(none,lo)/\lo<=a₀.size/\(x+1<=lo\/lo=a₀.size)/\Ch ρ (arrOf st') 0 lo (pendingOf st').toList) st2:=λn st2 n1 n2 b1 b2 b3 =>
    rE hL h0 b1 l1 b2 n1 b3 λst' b1 b2=>⟨b1,lo+n,rfl,n2,by omega,b2⟩
   by_cases hlt:m < mr
   ·rw[if_pos hlt]
    refine wpS_bind (wpS_lift (wpAny_rule ⟨rfl,?_⟩));refine wpS_bind (lE hL h0 (by omega) (by omega) f1.si s1 λst2 f2 s2=>?_)
    simp only[Bool.not_true,Bool.false_eq_true,if_false];have z:=go (min (a₀.size - lo) mr) st2 (by omega) (by omega) f2.si (by rw[f2.pend];exact hc1.congr λk _ hk=>f2.same k hk) s2
    refine wpS_mono (Q:=_) (Eq.mpr (congrArg (λt=>wpS M Ar E s t _ st2) (?_:_=fR a₀.size lo (min (a₀.size - lo) mr))) z) ?_
    ·walk_at "s_rest"
    ·intro r st'' hr
     cases r<;>exact hr
   ·rw[if_neg hlt]
    have z:=go m st1 m1 (by omega) f1.si hc1 s1
    refine wpS_mono (Q:=_) (Eq.mpr (congrArg (λt=>wpS M Ar E s t _ st1) (?_:_=fR a₀.size lo m)) z) ?_
    ·walk_at "s_rest"
    ·intro r st'' hr
     cases r<;>exact hr
 case post =>
  rintro c st' ⟨hB',rfl,hc⟩;dsimp only;have hpl:(pendingOf st').size<=a₀.size:=by have:=Ch.le hc;simp only[Array.length_toList] at this;omega
  refine wpS_bind (wpS_mono (wpS_forRange (I:=λx c st'=>c=(none,())/\SI kd a₀ st'/\Ch ρ (arrOf st') 0 a₀.size (pendingOf st').toList/\((pendingOf st').size+x<=a₀.size\/(pendingOf st').size<=1))
   (Q:=λc st'=>c=(none,())/\SI kd a₀ st'/\Ch ρ (arrOf st') 0 a₀.size (pendingOf st').toList/\(pendingOf st').size<=1) ?fstep ?ffin ⟨rfl,hB',hc,.inl (by omega)⟩) ?fpost)
  case ffin =>
   rintro c st' ⟨rfl,b1,b2,b3⟩;exact⟨rfl,b1,b2,by omega⟩
  case fstep =>
   rintro x c st' _ hx ⟨rfl,b1,b2,b3⟩;refine wpS_bind (wpS_get ?_)
   try dsimp only
   by_cases hz:(pendingOf st').size<=1
   ·rw[if_pos hz]
    exact wpS_pure ⟨rfl,b1,b2,hz⟩
   ·rw[if_neg hz]
    refine wpS_bind (jQ hL h0 b1 (Nat.le_refl _) b2 ?_ λst2 c1 c2 c3 c4=>?_)
    ·exact LM _ (by omega)
    ·simp only[Bool.not_true,Bool.false_eq_true,if_false]
     exact wpS_pure ⟨rfl,c1,c2,by omega⟩
  case fpost =>
   rintro c st' ⟨rfl,b1,b2,b3⟩;refine wpS_pure (h st' b1 ?_);have hl:(pendingOf st').toList.length<=1:=by simpa using b3
   generalize (pendingOf st').toList=l at b2 hl
   match l,b2,hl with
   | [],b2,_=>have:0=a₀.size:=b2;omega
   | [r],⟨_,_,h3,h4⟩,_ =>
    have h4:0+r.2.1=a₀.size:=h4;rw[h4] at h3;exact h3
   | _::_::_,_,hl=>simp at hl
end
end Vs

namespace Vs
open PySem PyProof.Rows PySem.W
theorem lx_irrefl:∀ a:List Int,HT.lexLt a a=false
 | []=>rfl
 | x::a=>by rw[HT.lexLt_cons,if_pos rfl];exact lx_irrefl a
theorem lx_trans:∀ a b c:List Int,HT.lexLt a b=true->HT.lexLt b c=true->HT.lexLt a c=true
 | [],[],_,h,_=>by cases h
 | [],_::_,[],_,h=>by cases h
 | [],_::_,_::_,_,_=>rfl
 | _::_,[],_,h,_=>by cases h
 | _::_,_::_,[],_,h=>by cases h
 | x::a,y::b,z::c,h1,h2=>by
  rw[HT.lexLt_cons] at h1 h2 ⊢
  by_cases e1:x=y
  ·rw[if_pos e1] at h1
   by_cases e2:y=z
   ·rw[if_pos e2] at h2
    rw[if_pos (e1.trans e2)];exact lx_trans a b c h1 h2
   ·rw[if_neg e2] at h2
    have:=of_decide_eq_true h2;rw[if_neg (by omega)];exact decide_eq_true (by omega)
  ·rw[if_neg e1] at h1
   have h1:=of_decide_eq_true h1
   by_cases e2:y=z
   ·rw[if_neg (by omega)];exact decide_eq_true (by omega)
   ·rw[if_neg e2] at h2
    have:=of_decide_eq_true h2;rw[if_neg (by omega)];exact decide_eq_true (by omega)
theorem lx_tri:∀ a b:List Int,HT.lexLt a b=false->HT.lexLt b a=false->a=b
 | [],[],_,_=>rfl
 | [],_::_,h,_=>by cases h
 | _::_,[],_,h=>by cases h
 | x::a,y::b,h1,h2=>by
  rw[HT.lexLt_cons] at h1 h2
  by_cases e1:x=y
  ·rw[if_pos e1] at h1
   rw[if_pos e1.symm] at h2;rw[e1,lx_tri a b h1 h2]
  ·rw[if_neg e1] at h1
   rw[if_neg (Ne.symm e1)] at h2;have:=of_decide_eq_false h1;have:=of_decide_eq_false h2;omega
def rk (d:Keyed->List Int)(l:List Keyed)(x:Keyed):Nat:=l.countP λp=>HT.lexLt (d p) (d x)
theorem nE {α:Type}{p q:α->Bool}:∀ {l:List α} {x:α},(∀ y,p y=true->q y=true)->x∈l->p x=false->q x=true->l.countP p < l.countP q
 | y::l,x,h,hx,h1,h2=>by
  rcases List.mem_cons.mp hx with rfl|hx
  ·rw[List.countP_cons_of_neg (by rw[h1];decide),List.countP_cons_of_pos h2]
   exact Nat.lt_succ_of_le (List.countP_mono_left λy _=>h y)
  ·have ih:=nE h hx h1 h2
   rw[List.countP_cons,List.countP_cons];cases e:p y with
   | true=>rw[h y e];simpa using ih
   | false=>split<;>split<;>first|omega | (exfalso;simp_all)
theorem rk_lt {d:Keyed->List Int}{l:List Keyed}{x y:Keyed}(hx:x∈l):decide (rk d l x < rk d l y)=HT.lexLt (d x) (d y):=by
 cases e:HT.lexLt (d x) (d y) with
 | true =>
  refine decide_eq_true (nE (x:=x) (λp hp=>lx_trans _ _ _ hp e) hx (lx_irrefl _) e)
 | false =>
  refine decide_eq_false (Nat.not_lt.mpr (List.countP_mono_left λp _ hp=>?_));cases e2:HT.lexLt (d p) (d x) with
  | true=>rfl
  | false =>
   cases e3:HT.lexLt (d x) (d p) with
   | true=>rw[lx_trans _ _ _ e3 hp] at e;cases e
   | false =>
    rw[lx_tri _ _ e2 e3] at hp;rw[hp] at e;cases e
section
variable {prog:Program}{w:World}{A:Around}{E:Value->Shared->Prop}{s:Shared}
theorem jS {b:Bool}{Q:Bool->Shared->Prop}:∀ {vs ws:List Value} {ns ms:List Int} (i:Nat) (fin:Bool),IntsAre vs ns->IntsAre ws ms->fin=decide (vs.length < ws.length)->Q (HT.lexLt ns ms) s->KatLex prog w A b fin Q (vs.zip ws) i s
 | _,_,_,_,i,fin,.nil,.nil,e,q=>by subst e;exact kat_nil q
 | _,_,_,_,i,fin,.nil,.cons _ _ _,e,q=>by subst e;rw[HT.lexLt_nil_cons] at q;exact kat_nil (by simpa using q)
 | _,_,_,_,i,fin,.cons _ _ _,.nil,e,q=>by subst e;rw[HT.lexLt_cons_nil] at q;exact kat_nil (by simpa using q)
 | _,_,_,_,i,fin,.cons n t h1,.cons m u h2,e,q=>by
  rw[List.zip_cons_cons];refine kat_cons (wpAny_eqBool_int ?_);rw[HT.lexLt_cons] at q
  by_cases h:n=m
  ·rw[if_pos h] at q
   rw[show (n==m)=true from by simpa using h]
   exact kat_yes (jS (i+1) fin h1 h2 (by rw[e];simp) q)
  ·rw[if_neg h] at q
   rw[show (n==m)=false from by simpa using h]
   refine kat_no ?_;cases (b&&i==0) with
   | true=>exact oneLt_int q
   | false=>exact kat_one _ _ (lt_int q)
def TupI (h:Heap)(v:Value)(ns:List Int):Prop:=∃ a o xs n,v=.ref a/\h.get? a=some o/\o.cls=.type "tuple"/\o.data=.seq xs n/\IntsAre xs.toList ns
theorem TupI.kept {h g:Heap}{v:Value}{ns:List Int}(t:TupI h v ns)(k:∀ b o,h.get? b=some o->g.get? b=some o):TupI g v ns:=by
 obtain⟨a,o,xs,n,e,ho,r⟩:=t;exact⟨a,o,xs,n,e,k _ _ ho,r⟩
theorem xC {b:Bool}{v u:Value}{ns ms:List Int}{Q:Bool->Shared->Prop}(h1:TupI s.heap v ns)(h2:TupI s.heap u ms)(q:Q (HT.lexLt ns ms) s):wpAny (model prog w) A (keyLt' (tuples' b) v u) Q E s:=by
 obtain⟨a,o,xs,n,rfl,ho,hc,hd,hi⟩:=h1;obtain⟨a2,o2,xs2,n2,rfl,ho2,hc2,hd2,hi2⟩:=h2;exact kat_lt ho hd ho2 hd2 (jS 0 _ hi hi2 (by simp) q)
theorem ltH_tup {b:Bool}{l:List Keyed}{d:Keyed->List Int}(h:∀ x∈l,TupI s.heap x.1 (d x)):fP (model prog w) A E s (rk d l) (tuples' b) (λx=>x∈l):=λx y st Q hx hy hk q=>by
 rw[rk_lt hx] at q;rw[lt'_eq];refine wpS_bind (wpS_get ?_);rw[hk];exact wpS_bind (wpS_lift (wpAny_attempt (xC (h x hx) (h y hy) ⟨rfl,wpS_pure q⟩)))
theorem kind_tup {vs:List Value}{Q:SortKind->Shared->Prop}(hl:0 < vs.length)(h:∀ v∈vs,∃ ns,TupI s.heap v ns/\ns≠[])(q:Q (tuples' true) s):wpAny (model prog w) A (keyKind' vs.toArray) Q E s:=by
 have key:∀ vs:List Value,(∀ v∈vs,∃ ns,TupI s.heap v ns/\ns≠[])->∃ fs,KatTups s.heap vs fs/\fs.length=vs.length/\∀ v∈fs,∃ n t,v=Value.int n t:=by
  intro vs
  induction vs with
  | nil=>intro _;exact⟨[],KatTups.nil,rfl,λv hv=>by cases hv⟩
  | cons v vs ih =>
   intro h;obtain⟨ns,⟨a,o,xs,n,rfl,ho,hc,hd,hi⟩,hne⟩:=h v (List.mem_cons_self ..);obtain⟨fs,f1,f2,f3⟩:=ih λu hu=>h u (List.mem_cons_of_mem _ hu);obtain⟨f,hf,hn⟩:∃ f,xs[0]?=some f/\∃ n t,f=Value.int n t:=by
    rw[<- Array.getElem?_toList];generalize xs.toList=ys at hi;cases hi with
    | nil=>exact absurd rfl hne
    | cons n t _=>exact⟨_,rfl,n,t,rfl⟩
   refine⟨f::fs,KatTups.cons ho hc hd hf f1,by simp [f2],λv hv=>?_⟩
   rcases List.mem_cons.mp hv with rfl|hv
   ·exact hn
   ·exact f3 v hv
 obtain⟨fs,f1,f2,f3⟩:=key vs h;refine kat_kind (T:=.type "int") f1 (by omega) (λv hv=>?_) rfl q
 obtain⟨n,t,rfl⟩:=f3 v hv;exact Looks.now
theorem mT {a:Addr}{vs:List Value}{n:Nat}{kd:SortKind}{ρ:Keyed->Nat}{P:Keyed->Prop}{Pf:PySem.Fin->Shared->Prop}(ho:s.heap.get? a=some (seqObj "list" vs.toArray n))(hz:vs.length<=sizeLine)(h0:∀ p∈(pairsOf vs).toList,P p)
  (hk:2<=vs.length->∀ g:Heap,(∀ b o,b≠a->s.heap.get? b=some o->g.get? b=some o)->(∀ Q:SortKind->Shared->Prop,Q kd { s with heap:=g }->wpAny (model prog w) A (keyKind' vs.toArray) Q E { s with heap:=g })/\fP (model prog w) A E { s with heap:=g } ρ kd P)
  (h:∀ (xs:Array Keyed) (g:Heap) (c:Nat),xs.Perm (pairsOf vs)->Seg ρ xs 0 vs.length->(∀ b o,b≠a->s.heap.get? b=some o->g.get? b=some o)->g.get? a=some (seqObj "list" (xs.map (·.2)) c)->Pf (.done (.ret .none)) { s with heap:=g }) :
  wpAny (model prog w) A (Builtin.«list.sort» ⟨[.ref a],[]⟩) Pf E s:=by
 rw[list_sort_plain];have ha:a < s.heap.objs.size:=Heap.lt_size ho;have hsz:vs.toArray.size=vs.length:=by simp
 refine wpAny_bind (listItems_at ho rfl ?_);refine wpAny_bind (listUpdate_at ho rfl ?_ (by rw[hsz];exact hz) (Nat.zero_le _))
 obtain⟨e1,ho1⟩:∃ e1,(s.heap.update a (Obj.mapSeq λ_=>#[])).get? a=some (seqObj "list" #[] e1):=⟨_,get?_update_seq ho (λ_=>#[])⟩;refine wpAny_bind (seqEpoch_at ho1 rfl ?_);refine wpAny_bind (wpAny_newTuple ?_ (by show vs.length<=_;exact hz))
 refine wpAny_bind (wpAny_newList ?_ (Nat.zero_le _));refine wpAny_holding ?_;have keep:∀ b o,b≠a->s.heap.get? b=some o->(((s.heap.update a (Obj.mapSeq λ_=>#[])).push (seqObj "tuple" vs.toArray 0)).push (seqObj "list" #[] 0)).get? b=some o:=λb o hb e =>
  Heap.get?_push_of_some _ (Heap.get?_push_of_some _ ((Heap.get?_update_other _ _ (Ne.symm hb)).trans e))
 have ho6:(((s.heap.update a (Obj.mapSeq λ_=>#[])).push (seqObj "tuple" vs.toArray 0)).push (seqObj "list" #[] 0)).get? a=some (seqObj "list" #[] e1):=Heap.get?_push_of_some _ (Heap.get?_push_of_some _ ho1);show wpAny (model prog w) A _ Pf E { s with heap:=((s.heap.update a (Obj.mapSeq λ_=>#[])).push (seqObj "tuple" vs.toArray 0)).push (seqObj "list" #[] 0) }
 dsimp only;generalize hg6:((s.heap.update a (Obj.mapSeq λ_=>#[])).push (seqObj "tuple" vs.toArray 0)).push (seqObj "list" #[] 0)=g6 at keep ho6;have fin:∀ xs:Array Keyed,xs.Perm (pairsOf vs)->Seg ρ xs 0 vs.length->Pf (.done (.ret .none)) { s with heap:=g6.update a (Obj.mapSeq λ_=>xs.map (·.2)) }:=λxs hp hs =>
  h xs _ _ hp hs (λb o hb e=>(Heap.get?_update_other _ _ (Ne.symm hb)).trans (keep b o hb e)) (get?_update_seq ho6 λ_=>xs.map (·.2))
 by_cases h2:vs.toArray.size < 2
 ·rw[if_pos h2,if_pos h2]
  refine wpAny_bind (wpAny_pure ?_);rw[StateT.run_pure];refine wpAny_bind (wpAny_pure ?_);dsimp only;refine wpAny_bind (seqEpoch_at ho6 rfl ?_);refine wpAny_bind (listUpdate_at ho6 rfl ?_ (Nat.zero_le _) (by rw[Array.size_map];show (pairsOf vs).size<=_;rw[pairsOf_size];exact Nat.le_succ_of_le hz))
  simp only[bne_self_eq_false,Bool.false_eq_true,if_false];refine wpAny_pure (fin _ (Array.Perm.refl _) λi j _ hij hj=>?_);have:i=j:=by omega
  subst this;exact Nat.le_refl _
 ·rw[if_neg h2,if_neg h2]
  obtain⟨k1,k2⟩:=hk (by omega) g6 keep
  refine wpAny_bind (k1 _ ?_);refine wpAny_bind (wpAny_mono (ph (a₀:=pairsOf vs) (kd:=kd) (st:=SortSt.mk' kd (vs.toArray.zip vs.toArray) #[] 7 none)
   (Q:=λ_ st'=>SI kd (pairsOf vs) st'/\Seg ρ (arrOf st') 0 (pairsOf vs).size) k2 h0 ⟨Array.Perm.refl _,rfl,rfl⟩ rfl (by rw[pairsOf_size];omega) λst' a1 a2=>⟨a1,a2⟩) ?_ λ_ _ e=>e)
  rintro ⟨⟨⟩,st'⟩ s' ⟨rfl,hp,hs⟩;dsimp only;refine wpAny_bind (seqEpoch_at ho6 rfl ?_);refine wpAny_bind (listUpdate_at ho6 rfl ?_ (Nat.zero_le _) (by refine Nat.le_trans (Nat.le_of_eq ((Array.size_map ..).trans (hp.size.trans (pairsOf_size _)))) ?_;exact Nat.le_succ_of_le hz))
  rw[hp.failed];simp only[bne_self_eq_false,Bool.false_eq_true,if_false];rw[pairsOf_size] at hs;exact wpAny_pure (fin _ hp.perm hs)
theorem sorted_any {l:Addr}{vs:List Value}{kd:SortKind}{ρ:Keyed->Nat}{P:Keyed->Prop}{Q:Value->Shared->Prop}(hl:s.heap.IsList l vs.toArray)(hz:vs.length<=sizeLine)(h0:∀ p∈(pairsOf vs).toList,P p)
  (hk:2<=vs.length->∀ (A':Around) (E':Value->Shared->Prop) (g:Heap),(∀ b o,s.heap.get? b=some o->g.get? b=some o)->(∀ Q:SortKind->Shared->Prop,Q kd { s with heap:=g }->wpAny (model prog w) A' (keyKind' vs.toArray) Q E' { s with heap:=g })/\fP (model prog w) A' E' { s with heap:=g } ρ kd P)
  (h:∀ (xs:Array Keyed) (g:Heap) (c:Nat),xs.Perm (pairsOf vs)->Seg ρ xs 0 vs.length->(∀ b o,s.heap.get? b=some o->g.get? b=some o)->g.get? (s.heap.objs.size+1)=some (seqObj "list" (xs.map (·.2)) c)->Q (.ref (s.heap.objs.size+1)) { s with heap:=g }) :
  wpAny (model prog w) A (call (.builtin "sorted") [.ref l]) Q E s:=by
 refine Calls.call_function_entry kind_sorted plain_sorted entry_sorted (args_sorted1 _) ?_;unfold Builtin.«sorted»;refine wpAny_bind (m:=checkCount "sorted" 1 1 _) (wpAny_pure ?_);refine wpAny_bind (collect_list hl ?_ hz);refine wpAny_bind (wpAny_newList ?_ hz);have hsz:((s.heap.push (seqObj "list" #[] 0)).update s.heap.objs.size (Obj.mapSeq (·++vs.toArray))).objs.size=s.heap.objs.size+1:=by
  rw[Heap.size_update,size_push']
 have hoL:(((s.heap.push (seqObj "list" #[] 0)).update s.heap.objs.size (Obj.mapSeq (·++vs.toArray))).push (seqObj "list" vs.toArray 0)).get? (s.heap.objs.size+1)=some (seqObj "list" vs.toArray 0):=by
  rw[<- hsz];exact Heap.get?_push_size _ rfl
 have keep:∀ b o,s.heap.get? b=some o->(((s.heap.push (seqObj "list" #[] 0)).update s.heap.objs.size (Obj.mapSeq (·++vs.toArray))).push (seqObj "list" vs.toArray 0)).get? b=some o:=λb o e=>by
  have hlt:b < s.heap.objs.size:=Heap.lt_size e;exact Heap.get?_push_of_some _ ((Heap.get?_update_other _ _ (Ne.symm (Nat.ne_of_lt hlt))).trans (Heap.get?_push_of_some _ e))
 have ne:∀ b o,s.heap.get? b=some o->b≠s.heap.objs.size+1:=λb o e=>Nat.ne_of_lt (Nat.lt_succ_of_lt (Heap.lt_size e));show wpAny _ _ _ _ _ { s with heap:=((s.heap.push (seqObj "list" #[] 0)).update s.heap.objs.size (Obj.mapSeq (·++vs.toArray))).push (seqObj "list" vs.toArray 0) }
 rw[hsz];refine wpAny_bind (wpAny_holding (wpAny_call_entry slot_list_sort ⟨_,hoL,rfl⟩ entry_list_sort (mT (kd:=kd) (ρ:=ρ) (P:=P) hoL hz h0 (λh2 g kg=>hk h2 _ _ g λb o e=>kg b o (ne b o e) (keep b o e)) λxs g c a1 a2 a3 a4=>⟨_,rfl,?_⟩) (args_list_sort _)));exact wpAny_pure ⟨_,rfl,h xs g c a1 a2 (λb o e=>a3 b o (ne b o e) (keep b o e)) a4⟩
end
end Vs

namespace Vc
open PySem L2
def xD:Value->V
 | .ref a=>.ref a
 | _=>.non
theorem zP {us:List V}{its:List Value}(r:Vals us its)(h:∀ u∈us,∃ a,u=.ref a):us=its.map xD:=by
 induction r with
 | nil=>rfl
 | cons r _ ih =>
  obtain⟨a,rfl⟩:=h _ (List.mem_cons_self ..);cases r;rw[List.map_cons,<- ih λu hu=>h u (List.mem_cons_of_mem _ hu)];rfl
theorem Hy {its:List Value}(h:∀ v∈its,∃ a,v=.ref a):Vals (its.map xD) its:=by
 induction its with
 | nil=>exact .nil
 | cons v its ih =>
  obtain⟨a,rfl⟩:=h _ (List.mem_cons_self ..);exact .cons rfl (ih λu hu=>h u (List.mem_cons_of_mem _ hu))
theorem ju {α:Type}:∀ l:List α,l.zip l=l.map λx=>(x,x)
 | []=>rfl
 | x::l=>by rw[List.zip_cons_cons,List.map_cons,ju l]
theorem rF {X:Cx}:CallR X (.builtin "sorted") (λxs H Q=>∃ (p:Addr) (us:List V) (dd:V->List Int),xs=[.ref p]/\SqL X.K H p us/\(∀ u∈us,(∃ a,u=.ref a/\SqT X.K H a ((dd u).map V.int))/\dd u≠[]) /\
  ∀ (us':List V),us'.Perm us->us'.Pairwise (λx y=>HT.lexLt (dd y) (dd x)=false)->∀ l,H l=none->Q (.ref l) (bG H l (.lst us'))):=by
 intro pins s σ H xs us0 Q I r h;obtain⟨p,us,dd,rfl,hq,hu,q⟩:=h;obtain⟨u,rfl,rx⟩:=cV r;cases rx;obtain⟨its,rv,pl,hz⟩:=I.list hq;have hlen:=rv.length;have eus:us=its.map xD:=zP rv λu h=>by obtain⟨⟨a,e,_⟩,_⟩:=hu u h;exact⟨a,e⟩
 have itr:∀ v∈its,∃ a,v=.ref a:=λv hv=>by
  obtain⟨i,hi,e⟩:=List.mem_iff_getElem.mp hv;obtain⟨u,hu1,ru⟩:=rv.get (i:=i) (x:=us[i]'(by omega)) (List.getElem?_eq_getElem _)
  rw[List.getElem?_eq_getElem hi] at hu1;cases hu1;obtain⟨⟨a,e2,_⟩,_⟩:=hu (us[i]'(by omega)) (List.getElem_mem _)
  rw[e2] at ru;exact⟨a,by rw[<- e];exact ru⟩
 have tup:∀ v∈its,Vs.TupI s.heap v (dd (xD v))/\dd (xD v)≠[]:=λv hv=>by
  obtain⟨a,rfl⟩:=itr v hv;have hm:xD (.ref a)∈us:=by rw[eus];exact List.mem_map.mpr ⟨_,hv,rfl⟩
  obtain⟨⟨b,e,hT⟩,hne⟩:=hu _ hm;cases e;obtain⟨ts,r1,⟨o,ho,hc,n,hd⟩,_⟩:=I.tuple hT;exact⟨⟨a,o,ts.toArray,n,rfl,ho,hc,hd,intsAre_of r1⟩,hne⟩
 have mem:∀ x:PyProof.Rows.Keyed,x∈(PyProof.Rows.pairsOf its).toList->x.1∈its/\x.1=x.2:=λx hx=>by
  rw[PyProof.Rows.pairsOf_toList,ju] at hx;obtain⟨v,hv,rfl⟩:=List.mem_map.mp hx;exact⟨hv,rfl⟩
 refine Vs.sorted_any (kd:=PyProof.Rows.tuples' true) (ρ:=Vs.rk (λx=>dd (xD x.1)) (PyProof.Rows.pairsOf its).toList) (P:=λx=>x∈(PyProof.Rows.pairsOf its).toList) pl.isList (by omega) (λ_ h=>h) (λh2 A' E' g kg=>⟨λQ hQ=>?_,?_⟩) λxs g c hp hs kg hg=>?_
 ·exact Vs.kind_tup (s:={ s with heap:=g }) (by omega) (λv hv=>⟨_,(tup v hv).1.kept kg,(tup v hv).2⟩) hQ
 ·exact Vs.ltH_tup (s:={ s with heap:=g }) λx hx=>(tup x.1 (mem x hx).1).1.kept kg
 ·have hpl:xs.toList.Perm (PyProof.Rows.pairsOf its).toList:=Array.perm_iff_toList_perm.mp hp
  have hsz:xs.size=its.length:=by have:=hp.size_eq;rw[PyProof.Rows.pairsOf_size] at this;exact this
  have hm2:∀ x∈xs.toList,x.1∈its/\x.1=x.2:=λx hx=>mem x (hpl.mem_iff.mp hx);have perm:(xs.toList.map λx=>xD x.2).Perm us:=by
   rw[eus];refine (hpl.map λx=>xD x.2).trans ?_;rw[PyProof.Rows.pairsOf_toList,ju,List.map_map];exact List.Perm.refl _
  have eq2:xs.toList.map (λx=>xD x.2)=(xs.map (·.2)).toList.map xD:=by
   rw[Array.toList_map,List.map_map];rfl
  refine⟨.ref (s.heap.objs.size+1),_,I.laid (t':=s.toks) (o:=.lst (xs.toList.map λx=>xD x.2)) kg (Nat.le_succ _) ⟨?_,(xs.map (·.2)).toList,c,?_,hg⟩,rfl,q _ perm ?_ _ (I.hok.fresh (Nat.le_succ _))⟩
  ·rw[perm.length_eq];exact hz
  ·rw[eq2]
   refine Hy λv hv=>?_;rw[Array.toList_map] at hv;obtain⟨x,hx,rfl⟩:=List.mem_map.mp hv;have:=hm2 x hx;exact itr _ (this.2 ▸ this.1)
  ·rw[List.pairwise_map]
   refine List.pairwise_iff_getElem.mpr λi j hi hj hij=>?_;have hi':i < xs.size:=by simpa using hi
   have hj':j < xs.size:=by simpa using hj
   have h1:=hs i j (Nat.zero_le _) (Nat.le_of_lt hij) (by omega)
   rw[Vs.R_at (Array.getElem?_eq_getElem hi'),Vs.R_at (Array.getElem?_eq_getElem hj')] at h1;have e1:xs.toList[i]=xs[i]:=rfl;have e2:xs.toList[j]=xs[j]:=rfl;rw[e1,e2];have m1:=hm2 xs[i] (by simp)
   have m2:=hm2 xs[j] (by simp)
   have:=Vs.rk_lt (d:=λx=>dd (xD x.1)) (l:=(PyProof.Rows.pairsOf its).toList) (x:=xs[j]) (y:=xs[i]) (hpl.mem_iff.mp (by simp))
   rw[decide_eq_false (by omega)] at this
   rw[<- m1.2,<- m2.2];exact this.symm
variable [KF]
variable {G:GE}{k:Nat}{S:Stat}
def dm:D->List Int
 | .tup xs=>xs.map ly
 | .int i=>[i]
 | _=>[]
def jT (x y:D):Bool:=!HT.lexLt (dm y) (dm x)
def cc (xs:List D):List D:=xs.mergeSort jT
def fk:D->Bool
 | .tup xs=>xs.all isInt&&!xs.isEmpty
 | _=>false
theorem jv (a b c:D)(h1:jT a b=true)(h2:jT b c=true):jT a c=true:=by
 unfold jT at *;simp only[Bool.not_eq_true'] at *;cases e:HT.lexLt (dm c) (dm a) with
 | false=>rfl
 | true =>
  cases e2:HT.lexLt (dm c) (dm b) with
  | true=>rw[h2] at e2;cases e2
  | false =>
   cases e3:HT.lexLt (dm b) (dm c) with
   | true=>rw[Vs.lx_trans _ _ _ e3 e] at h1;cases h1
   | false=>rw[Vs.lx_tri _ _ e2 e3] at e;rw[e] at h1;cases h1
theorem xE (a b:D):(jT a b||jT b a)=true:=by
 unfold jT;cases e:HT.lexLt (dm b) (dm a) with
 | false=>rfl
 | true =>
  cases e2:HT.lexLt (dm a) (dm b) with
  | false=>rfl
  | true=>have:=Vs.lx_trans _ _ _ e e2;rw[Vs.lx_irrefl] at this;cases this
theorem bD (xs:List D):(cc xs).Perm xs:=List.mergeSort_perm xs jT
theorem dC (xs:List D):(cc xs).Pairwise λx y=>jT x y=true:=List.pairwise_mergeSort jv xE xs
theorem rG:∀ {xs:List D},xs.all isInt=true->(xs.map ly).map D.int=xs
 | [],_=>rfl
 | x::xs,h=>by
  rw[List.all_cons,Bool.and_eq_true] at h;cases x with
  | int i=>rw[List.map_cons,List.map_cons,rG h.2];rfl
  | _=>exact absurd h.1 (by simp [isInt])
theorem dU {d:D}(h:fk d=true):d=.tup ((dm d).map D.int):=by
 cases d with
 | tup xs =>
  unfold fk at h;rw[Bool.and_eq_true] at h;show D.tup xs=.tup ((xs.map ly).map D.int);rw[rG h.1]
 | _=>exact absurd h (by simp [fk])
theorem fx {α:Type}{r:α->α->Prop}:∀ {l m:List α},l.Perm m->(∀ a∈l,∀ b∈l,r a b->r b a->a=b)->l.Pairwise r->m.Pairwise r->l=m
 | [],m,h,_,_,_=>(List.nil_perm.mp h).symm
 | a::l,[],h,_,_,_=>by have:=h.length_eq;simp at this
 | a::l,b::m,h,anti,h1,h2=>by
  have hb:b∈a::l:=h.symm.mem_iff.mp (List.mem_cons_self ..);have ha:a∈b::m:=h.mem_iff.mp (List.mem_cons_self ..);rw[List.pairwise_cons] at h1 h2;have e:a=b:=by
   rcases List.mem_cons.mp hb with e|hb
   ·exact e.symm
   ·rcases List.mem_cons.mp ha with e|ha
    ·exact e
    ·exact anti a (List.mem_cons_self ..) b (List.mem_cons_of_mem _ hb) (h1.1 b hb) (h2.1 a ha)
  subst e;rw[fx h.cons_inv (λx hx y hy=>anti x (List.mem_cons_of_mem _ hx) y (List.mem_cons_of_mem _ hy)) h1.2 h2.2]
theorem lM {xs ys:List D}(h:xs.all fk=true)(hp:ys.Perm xs)(hs:ys.Pairwise λx y=>jT x y=true):ys=cc xs:=by
 refine fx (hp.trans (bD xs).symm) (λa ha b hb h1 h2=>?_) hs (dC xs);have ia:=dU (List.all_eq_true.mp h a (hp.mem_iff.mp ha));have ib:=dU (List.all_eq_true.mp h b (hp.mem_iff.mp hb));unfold jT at h1 h2;simp only[Bool.not_eq_true'] at h1 h2;rw[ia,ib,Vs.lx_tri _ _ h2 h1]
def fS:List D->(EV->Prop)->Prop
 | [.lst xs],Q=>xs.all fk=true/\Q (.own (cc xs))
 | _,_=>False
def Hz (F:Hp):V->List Int
 | .ref a=>match F a with
  | some (.tup vs)=>vs.map λv=>match v with|.int i=>i|_=>0
  | _=>[]
 | _=>[]
theorem pj {F:Hp}{v:V}{d:D}(r:Rep F v d)(h:fk d=true):Hz F v=dm d/\∃ a,v=.ref a/\F a=some (.tup ((dm d).map V.int)):=by
 cases r with
 | tup hf rl =>
  unfold fk at h;rw[Bool.and_eq_true] at h;have e:=rl.ints h.1;subst e;refine⟨?_,_,rfl,hf⟩;unfold Hz;dsimp only;rw[hf];dsimp only;rw[List.map_map];exact (List.map_congr_left (λx _=>rfl)).trans (List.map_id _)
 | _=>exact absurd h (by simp [fk])
theorem rH {F:Hp}:∀ {vs:List V} {xs:List D},RepL F vs xs->xs.all fk=true->xs=vs.map λv=>.tup ((Hz F v).map D.int)
 | _,_,.nil,_=>rfl
 | _,_,.cons r t,h=>by
  rw[List.all_cons,Bool.and_eq_true] at h;rw[List.map_cons,<- rH t h.2,(pj r h.1).1,<- dU h.1]
theorem RepL.mem {F:Hp}:∀ {vs:List V} {xs:List D},RepL F vs xs->∀ v∈vs,∃ d∈xs,Rep F v d
 | _,_,.cons r t,v,hv=>by
  rcases List.mem_cons.mp hv with rfl|hv
  ·exact⟨_,List.mem_cons_self ..,r⟩
  ·obtain⟨d,hd,rd⟩:=RepL.mem t v hv
   exact⟨d,List.mem_cons_of_mem _ hd,rd⟩
theorem vq {F:Hp}{f:V->D}:∀ {vs:List V},(∀ v∈vs,Rep F v (f v))->RepL F vs (vs.map f)
 | [],_=>.nil
 | v::vs,h=>.cons (h v (List.mem_cons_self ..)) (vq λu hu=>h u (List.mem_cons_of_mem _ hu))
theorem lN:xu G k S (.builtin "sorted") fS:=⟨λK xs H Q=>∃ (p:Addr) (us:List V) (dd:V->List Int),xs=[.ref p]/\SqL K H p us/\(∀ u∈us,(∃ a,u=.ref a/\SqT K H a ((dd u).map V.int))/\dd u≠[]) /\
  ∀ (us':List V),us'.Perm us->us'.Pairwise (λx y=>HT.lexLt (dd y) (dd x)=false)->∀ l,H l=none->Q (.ref l) (bG H l (.lst us')),λ_ _ ok=>rF,λY F H σd σ vs ds Qd Q R r q g=>by
 unfold fS at q
 split at q
 ·rename_i xs
  obtain⟨v,rfl,rv⟩:=r.one;obtain⟨p,us,rfl,h1,h2⟩:=rv.lst;have all:=List.all_eq_true.mp q.1;refine⟨p,us,Hz F,rfl,.inl h1,λu hu=>?_,λus' hp hs=>?_⟩
  ·obtain⟨d,hd,rd⟩:=h2.mem u hu
   obtain⟨e1,a,rfl,e2⟩:=pj rd (all d hd);refine⟨⟨a,rfl,.of (by rw[e1];exact R.fr _ _ e2)⟩,?_⟩
   rw[e1];have hi:=all d hd;cases d with
   | tup ys =>
    unfold fk at hi;rw[Bool.and_eq_true] at hi;intro z;have:ys=[]:=by simpa [dm] using z
    subst this;exact absurd hi.2 (by decide)
   | _=>exact absurd hi (by simp [fk])
  ·have ex:=rH h2 q.1
   have rep:∀ v∈us',Rep F v (.tup ((Hz F v).map D.int)):=λv hv=>by
    obtain⟨d,hd,rd⟩:=h2.mem v (hp.mem_iff.mp hv);rw[(pj rd (all d hd)).1,<- dU (all d hd)];exact rd
   have key:∀ v,dm (.tup ((Hz F v).map D.int))=Hz F v:=λv=>by
    show ((Hz F v).map D.int).map ly=_;rw[List.map_map];exact (List.map_congr_left (λx _=>rfl)).trans (List.map_id _)
   have e:us'.map (λv=>D.tup ((Hz F v).map D.int))=cc xs:=by
    refine lM q.1 (by rw[ex];exact hp.map _) ?_
    rw[List.pairwise_map];refine hs.imp λ{x y} h=>?_;unfold jT;rw[key,key,h];rfl
   have rl:=vq rep;rw[e] at rl;exact g.own R rl q.2
 ·exact q.elim⟩
end Vc

namespace Vc
open PySem L2
variable [KF]
variable {G:GE}{k:Nat}{S:Stat}
def zQ (i:Nat)(j:Int)(d:D)(σ:Sd)(Q:Sd->Prop):Prop:=match σ[i]? with
 | some (some (.own xs))=>match ixN xs.length j with
  | some m=>Q (σ.set i (some (.own (xs.set m d))))
  | none=>False
 | _=>False
def jU (i:Nat)(tx:TV)(te:TD):bQ:=λDe σ=>te σ λd σ1=>uY σ1 i/\tx σ1 λy σ2=>match drf σ2 y with
 | some (.int j)=>zQ i j d σ2 De.nx
 | _=>False
theorem HA {X:Cx}{st:Stmt}{t t':TS}(h:PS X st t)(i:∀ Dn σ H,t' Dn σ H->t Dn σ H):PS X st t':=λpins s σ H Dn I q=>h pins s σ H Dn I (i Dn σ H q)
theorem jw (i:Nat){x:Str}{ix e:Expr}{tx:TV}{te:TD}{pos spos npos:Pos}(he:ED G k S e te)(hx:EO G k S ix tx)(ho:EO G k S (.Name x npos) (aa i))
  (hs:∀ line env,swapsWithSole [.Subscript (.Name x npos) ix spos] e line env=pure false:=by intro _ _;rfl) (hw:∀ env,swappedStores [.Subscript (.Name x npos) ix spos] e env=pure none:=by intro _;rfl)
  (h1:∀ env,(assignEach [.Subscript (.Name x npos) ix spos] env).map (·.2)=[assign (.Subscript (.Name x npos) ix spos) env]:=by intro _;rfl)
  (ha:∀ env v,assign (.Subscript (.Name x npos) ix spos) env v=(do
   let ov <- holding [v] (eval (.Name x npos) env)
   let iv <- holding [v,ov] (eval ix env)
   standAt spos
   holding [v,ov,iv] (setItem ov iv v)
   release [v,ov,iv] []):=by intro _ _;rfl):ES G k S (.Assign [.Subscript (.Name x npos) ix spos] e pos) (jU i tx te):=.mk λX Y ok =>
 HA (Lc (he X Y ok) (Lb (ho X Y ok) (hx X Y ok) yD (ha _)) (hs _ _) (hw _) (h1 _)) λDn σ H q=>by
  obtain⟨F,σd,De,R,q,K⟩:=q;refine⟨F,σd,_,R,q,λv H1 F1 d σ1 s1 R1 r1 q1=>?_⟩;obtain⟨⟨ys,e0⟩,q1⟩:=q1;refine⟨F1,σ1,λov σ2=>ov=.var i/\σ2=σ1,R1,?_,λv2 H2 F2 ov σ2 s2 R2 r2 q2=>?_⟩
  ·unfold aa;rw[e0];exact⟨rfl,rfl⟩
  ·obtain⟨rfl,rfl⟩:=q2
   have r2:σ[i]?=some (some v2):=r2;refine⟨F2,σ2,_,R2,q1,λv3 H3 F3 y σ3 s3 R3 r3 q3=>?_⟩
   split at q3
   ·rename_i j ej
    unfold zQ at q3
    split at q3
    ·rename_i xs ex
     split at q3
     ·rename_i m em
      obtain⟨a,vs,w1,w2,w3,w4,w5⟩:=R3.own i xs ex;rw[r2] at w1;cases w1;have rj:=(R3.drf r3 ej).int;subst rj;refine⟨a,vs,j,m,rfl,rfl,w2,by rw[w3.length];exact em,?_⟩
      exact K.nx _ _ F3 _ ((s1.trans s2).trans s3) (R3.write ex r2 (RepL.set ((r1.mono s2).mono s3) m w3)) q3
     ·exact q3.elim
    ·exact q3.elim
   ·exact q3.elim

abbrev jV:=List D->List D->(B->List D->Prop)->Prop
def pp (sp:jV):Sp:=λvs H Q _=>∃ F xs ds a us rest Qd,vs=.ref a::rest/\qI F H/\H a=some (.lst us)/\RepL F us xs/\F a=none/\RepL F rest ds/\sp xs ds Qd /\
 ∀ v H' F' b ys us',Same F F'->Same F' H'->(∀ c o,c≠a->H c=some o->H' c=some o)->H' a=some (.lst us')->RepL F' us' ys->F' a=none->(∀ c o,F' c=some o->F c=some o\/H c=none)->LG H F' H' v b->Qd b ys->Q v H'
def FnIo (G:GE)(k:Nat)(x:Str)(sp:jV):Prop:=∃ f fd ps,FnOk G.P G.w G.K G.mg G.base km k f fd ps (pp sp)/\G.mg x=some (.ref f)/\PySem.W.keepIn G.K (.ref f)=true/\Binds G.K fd ps []
theorem FnIo.mono {x:Str}{sp:jV}{j:Nat}(h:FnIo G j x sp)(l:j<=k):FnIo G k x sp:=by
 obtain⟨f,fd,ps,h1,h2,h3,h4⟩:=h;exact⟨f,fd,ps,h1.mono l,h2,h3,h4⟩
theorem NoOwn.reown {σd:Sd}{σ:St}{a:Addr}{i:Nat}{xs ys:List D}(h:NoOwn σd σ a)(e:σd[i]?=some (some (.own xs))):NoOwn (σd.set i (some (.own ys))) σ a:=by
 refine⟨λj js e1 z=>?_,λ⟨j,o,c,e1,e2,hm⟩=>?_⟩
 ·rcases gs e1 with ⟨rfl,_⟩|⟨_,e1⟩
  ·exact h j xs e z
  ·exact h j js e1 z
 ·rcases gs e1 with ⟨_,z⟩|⟨_,e1⟩
  ·cases z
  ·exact h.nob ⟨j,o,c,e1,e2,hm⟩
theorem RS.callIo {Y:Dyn}{F F':Hp}{σd:Sd}{σ:St}{H H':Hp}{i:Nat}{xs ys:List D}{a:Addr}{us:List V}(R:RS Y F σd σ H)(e:σd[i]?=some (some (.own xs)))(h:σ[i]?=some (some (.ref a)))(s1:Same F F')(s2:Same F' H')(s3:∀ c o,c≠a->H c=some o->H' c=some o)
  (ha:H' a=some (.lst us)) (r:RepL F' us ys) (fa:F' a=none) (fr:∀ c o,F' c=some o->F c=some o\/H c=none):RS Y F' (σd.set i (some (.own ys))) σ H':=by
 obtain⟨b,vs,w1,w2,w3,w4,w5⟩:=R.own i xs e;rw[h] at w1;cases w1;have hl:i < σd.length:=(List.getElem?_eq_some_iff.mp e).1;have hob:Obs Y F' (σd.set i (some (.own ys))) σ H':=R.ob.step s1 (λj o q=>by
  rcases gs q with ⟨_,z⟩|⟨hj,q⟩
  ·cases z
  ·exact⟨q,rfl⟩) (λb hb=>by
  obtain⟨z1,z2,z3⟩:=R.ob.owned hb;have hne:b≠a:=λz=>R.ob.dsx i xs a e h (z ▸ hb);refine⟨?_,?_,z3⟩
  ·cases q:H b with
   | none=>exact absurd q z2
   | some o=>exact s3 b o hne q
  ·cases q:F' b with
   | none=>rfl
   | some o =>
    rcases fr b o q with w|w
    ·rw[z1] at w;cases w
    ·exact absurd w z2) (λj zs b q1 q2=>by
  rcases gs q1 with ⟨e1,_⟩|⟨hj,q1⟩
  ·subst e1
   rw[h] at q2;cases q2;exact R.ob.dsx j xs a e h
  ·exact R.ob.dsx j zs b q1 q2) λb hb=>by
  by_cases hne:b=a
  ·rw[hne,ha];exact λz=>nomatch z
  ·cases q:H b with
   | none=>exact absurd q (R.ob.there b hb)
   | some o=>rw[s3 b o hne q];exact λz=>nomatch z
 refine⟨by simpa using R.len,R.lo.trans s1,s2,λb o q=>?_,λb o q n=>?_,λj d q=>?_,λj zs q=>?_,λj l zs qs b q1 q2 q3 q4=>?_,λp hp=>?_,hob⟩
 ·rcases fr b o q with h|h
  ·exact R.fro b o h
  ·exact .inr (R.fresh0 h).1
 ·have:b≠a:=λz=>by
   subst z;rcases w5 with w5|w5
   ·rw[w5] at q;cases q
   ·exact Dyn.ioL_sub n w5
  exact s3 b o this (R.old b o q n)
 ·rcases gs q with ⟨_,z⟩|⟨hj,q⟩
  ·cases z
  ·obtain⟨v,h1,h2⟩:=R.sh j d q
   exact⟨v,h1,h2.mono s1⟩
 ·rcases gs q with ⟨rfl,z⟩|⟨hj,q⟩
  ·cases z
   exact⟨a,us,h,ha,r,fa,w5⟩
  ·obtain⟨b,ws,z1,z2,z3,z4,z5⟩:=R.own j zs q
   have:b≠a:=λz=>hj (R.dis j i zs xs a q e (z ▸ z1) h);refine⟨b,ws,z1,s3 b _ this z2,z3.mono s1,?_,z5⟩;cases q':F' b with
   | none=>rfl
   | some o =>
    rcases fr b o q' with h|h
    ·rw[z4] at h;cases h
    ·rw[z2] at h;cases h
 ·have f:∀ {m:Nat} {ms:List D},(σd.set i (some (B.own ys)))[m]?=some (some (B.own ms))->∃ ms',σd[m]?=some (some (B.own ms')):=λ{m ms} q=>by
   rcases gs q with ⟨rfl,z⟩|⟨hj,q⟩
   ·exact⟨xs,e⟩
   ·exact⟨_,q⟩
  obtain⟨_,q1⟩:=f q1;obtain⟨_,q2⟩:=f q2;exact R.dis j l _ _ b q1 q2 q3 q4
 ·obtain⟨z1,zs,z2⟩:=R.io p hp
  refine⟨z1,?_⟩
  by_cases hp':p.1=i
  ·exact⟨ys,by rw[hp',jM hl]⟩
  ·exact⟨zs,by rw[bH hp'];exact z2⟩
def ClIo (sp:jV)(xs ds:List D)(Q:B->List D->Prop):Prop:=sp xs ds Q
def dn (sp:jV)(i:Nat)(t:eB):TX:=λσ Q=>uY σ i/\t σ λds σ1=>match σ1[i]? with
 | some (some (.own xs))=>ClIo sp xs ds λb ys=>Q (bE b) (σ1.set i (some (.own ys)))
 | _=>False
theorem ba {x y:Str}{sp:jV}{i:Nat}{es:List Expr}{t:eB}{p pos npos:Pos}(h:FnIo G k x sp)(ho:EO G k S (.Name y npos) (aa i))(ha:EDs G k S es t)(hg:S.sc.lookup x=some .globalImplicit:=by rfl)(hdb:(x==("__debug__":Str))=false:=by decide)
  (he:∀ env,starEach (.Name y npos::es) env=(false,eval (.Name y npos) env)::starEach es env:=by intro _;rfl) (hpl:∀ env,(backTo pos (starEach es env)).any (·.1)=false:=by intro _;rfl) (hh:S.hot=false:=by rfl):EX G k S (.Call (.Name x p) (.Name y npos::es) [] pos) (dn sp i t):=.mk λX Y ok=>by
 obtain⟨f,fd,ps,h1,h2,h3,h4⟩:=h;have h1':FnOk X.prog X.w X.K X.mg X.base km k f fd ps (pp sp):=by rw[ok.P,ok.w,ok.K,ok.mg,ok.base];exact h1
 refine br (on (E:=E0) (dvs:=[]) (ds:=[]) h1' (ok.room hh) (dG ok hg) (by rw[ok.mg];exact h2) (by rw[ok.K];exact h3) (by rw[ok.K];exact h4) .nil yH (pa_cons (ho X Y ok) (ha X Y ok) (he _)) hdb (he _) (hpl _)) λσ H Q q=>?_
 obtain⟨F,σd,Qd,R,⟨⟨ys,e0⟩,q⟩,K⟩:=q;refine⟨F,σd,λov σ2=>ov=.var i/\σ2=σd,R,?_,λv1 H1 F1 ov σ1 s1 R1 r1 q1=>?_⟩
 ·unfold aa;rw[e0];exact⟨rfl,rfl⟩
 obtain⟨rfl,rfl⟩:=q1;have r1:σ[i]?=some (some v1):=r1;refine⟨F1,σ1,_,R1,q,λvs H2 F2 ds σ2 s2 R2 r2 q2=>?_⟩
 split at q2
 ·rename_i xs ex
  obtain⟨a,us,w1,w2,w3,w4,w5⟩:=R2.own i xs ex;rw[r1] at w1;cases w1;show pp sp ((.ref a::vs)++[]) H2 Q E0;rw[List.append_nil];refine⟨F2,xs,ds,a,us,vs,_,rfl,⟨R2.fr,R2.ob.tab⟩,w2,w3,w4,r2,q2,λv H' F' b zs us' t1 t2 t3 t4 t5 t6 t7 t8 t9=>?_⟩;have R3:=R2.callIo ex r1 t1 t2 t3 t4 t5 t6 t7;cases b with
  | sh d=>exact K v H' F' (.val d) _ ((s1.trans s2).trans t1) R3 t8 t9
  | own ws =>
   obtain⟨c,cs,rfl,z1,z2,z3,z4⟩:=t8;refine K _ H' F' (.own ws) _ ((s1.trans s2).trans t1) R3 ⟨c,cs,rfl,z1,z2,z3,(R2.fresh0 z4).1,(R2.noFresh z4).reown ex⟩ t9
  | obj o =>
   obtain⟨c,rfl,z1,z2⟩:=t8;exact K _ H' F' (.obj o) _ ((s1.trans s2).trans t1) R3 ⟨c,rfl,z1,λb hb=>⟨(z2 b hb).1,(z2 b hb).2.1,(R2.fresh0 (z2 b hb).2.2).1,(R2.noFresh (z2 b hb).2.2).reown ex⟩⟩ t9
 ·exact q2.elim
def startIo (n:Nat)(xs ds:List D):Sd:=some (.own xs)::aJ (n - 1) ds
def ud (Q:B->List D->Prop)(b:B)(σ:Sd):Prop:=match σ[(0:Nat)]? with
 | some (some (.own ys))=>Q b ys
 | _=>False
theorem RS.startIo {F H:Hp}{a:Addr}{us rest:List V}{xs ds:List D}(n:Nat)(hn:1<=n)(s:qI F H)(ha:H a=some (.lst us))(ru:RepL F us xs)(fa:F a=none)(r:RepL F rest ds) :
  RS ⟨H,F,[(0,a)],[]⟩ F (startIo n xs ds) ((V.ref a::rest).map some++List.replicate (n - (V.ref a::rest).length) none) H where
 len:=by unfold Vc.startIo aJ;simp [r.length];omega
 lo:=Same.refl _
 fr:=s.1
 fro:=λb o e=>.inl e
 old:=λb o e _=>e
 sh:=λi d e=>by
  cases i with
  | zero=>unfold Vc.startIo at e;simp at e
  | succ i =>
   have e':(aJ (n - 1) ds)[i]?=some (some (.sh d)):=by unfold Vc.startIo at e;simpa using e
   obtain⟨v,h1,h2⟩:=li (n - 1 - ds.length) r e';refine⟨v,?_,h2⟩;have:n - (V.ref a::rest).length=n - 1 - ds.length:=by rw[List.length_cons,r.length];omega
   rw[this];simpa using h1
 own:=λi zs e=>by
  cases i with
  | zero =>
   unfold Vc.startIo at e;simp at e;subst e;exact⟨a,us,by simp,ha,ru,fa,.inr (by simp [Dyn.ioL])⟩
  | succ i =>
   have e':(aJ (n - 1) ds)[i]?=some (some (.own zs)):=by unfold Vc.startIo at e;simpa using e
   exact absurd e' (eD _ _ _ _)
 dis:=λi j zs ys b e1 e2 _ _=>by
  have z:∀ {i:Nat} {zs:List D},(Vc.startIo n xs ds)[i]?=some (some (.own zs))->i=0:=λ{i zs} e=>by
   cases i with
   | zero=>rfl
   | succ i =>
    have e':(aJ (n - 1) ds)[i]?=some (some (.own zs)):=by unfold Vc.startIo at e;simpa using e
    exact absurd e' (eD _ _ _ _)
  rw[z e1,z e2]
 io:=λp hp=>by
  have:p=(0,a):=by simpa using hp
  subst this;exact⟨by simp,xs,rfl⟩
 ob:=.none (λi o e=>by
  cases i with
  | zero=>unfold Vc.startIo at e;simp at e
  | succ i =>
   have e':(aJ (n - 1) ds)[i]?=some (some (.obj o)):=by unfold Vc.startIo at e;simpa using e
   exact absurd e' (jp _ _ _ _)) s.2 λb hb=>by cases hb
theorem HB {x qual:Str}{st:Stmt}{f:Addr}{fd:FuncData}{N ps:List Str}{sp:jV}{t:bQ}(hK:G.K=KF.K)(Fn:Fun G.K x qual st f fd)(Sc:FnScope N ps (af st))(ht:ESs G k ⟨N,(af st).names,[0],false,false,false,λ_ _=>False⟩ (ak st) t)(hn:1<=N.length)
  (len:∀ xs ds Q,sp xs ds Q->ds.length+1=ps.length)
  (body:∀ xs ds Q,sp xs ds Q->t { nx:=ud Q (.sh .non),rt:=λb σ=>ud Q b σ } (startIo N.length xs ds)):FnOk G.P G.w G.K G.mg G.base km (k+1) f fd ps (pp sp):=by
 refine Fn.ok Sc (λvs H Q E h=>?_) (λcdv A outer s H vs Q E hr h=>?_)
 ·obtain⟨F,xs,ds,a,us,rest,Qd,rfl,s,h1,h2,h3,r,q,K⟩:=h
  rw[List.length_cons,r.length];exact len _ _ _ q
 ·obtain⟨F,xs,ds,a,us,rest,Qd,rfl,sm,h1,h2,h3,r,q,K⟩:=h
  refine⟨_,ht (jj km G.P G.w G.K G.mg G.base N qual (af st) f cdv A outer s H E).nox ⟨H,F,[(0,a)],[]⟩ ⟨rfl,rfl,rfl,hK,rfl,rfl,rfl,rfl,Sc.nd,λp hp=>by
   have:p=(0,a):=by simpa using hp
   subst this;simp,(λ_ h=>nomatch h),λ_=>rfl,Sc.kind,λ_ _ _=>rfl,λ_=>hr.hd,hr.dp,hr.un,λ_=>PassesOwn.never,λ_=>⟨rfl,rfl,rfl⟩,λ_ _ h=>h.elim,λh=>nomatch h⟩,F,startIo N.length xs ds,_,RS.startIo _ hn sm h1 h2 h3 r,body xs ds Qd q,?_⟩
  have same:∀ {F':Hp} {σd:Sd} {σ:St} {H':Hp},RS ⟨H,F,[(0,a)],[]⟩ F' σd σ H'->∀ c o,c≠a->H c=some o->H' c=some o:=λR c o hc e=>R.old c o e (by simpa [Dyn.ioA] using hc)
  have fin:∀ {F':Hp} {σd:Sd} {σ:St} {H':Hp} {v:V} {b:B},Same F F'->RS ⟨H,F,[(0,a)],[]⟩ F' σd σ H'->LG H F' H' v b->ud Qd b σd->Q v H':=λ{F' σd σ H' v b} s' R' r' q'=>by
   unfold ud at q'
   split at q'
   ·rename_i ys ey
    obtain⟨c,us',w1,w2,w3,w4,w5⟩:=R'.own 0 ys ey;have i0:=(R'.io (0,a) (by simp)).1
    rw[i0] at w1;cases w1;exact K v H' F' b ys us' s' R'.fr (same R') w2 w3 w4 R'.fro r' q'
   ·exact q'.elim
  refine⟨λσ H' F' σd s' R' q'=>?_,λv σ H' F' σd b s' R' r' q'=>?_,λ_ _ _ _ _ _ h=>h.elim,λ_ _ _ _ _ _ h=>h.elim⟩
  ·exact fin (b:=.sh .non) s' R' .non q'
  ·refine fin (b:=b) s' R' ?_ q'
   cases b with
   | sh d=>exact r'
   | own xs =>
    obtain⟨a,us,rfl,w1,w2,w3,w4,w5⟩:=r';exact⟨a,us,rfl,w1,w2,w3,w4⟩
   | obj o =>
    obtain⟨a,rfl,w1,w2⟩:=r';exact⟨a,rfl,w1,λb hb=>⟨(w2 b hb).1,(w2 b hb).2.1,(w2 b hb).2.2.1⟩⟩
theorem FnD.fio {x:Str}{st:Stmt}{ps N:List Str}{f:Addr}{fd:FuncData}{t:bQ}{sp:jV}(d:FnD G x st ps f fd)(hK:G.K=KF.K)(Sc:FnScope N ps (af st))(ht:ESs G k ⟨N,(af st).names,[0],false,false,false,λ_ _=>False⟩ (ak st) t)(hn:1<=N.length)
  (len:∀ xs ds Q,sp xs ds Q->ds.length+1=ps.length) (body:∀ xs ds Q,sp xs ds Q->t { nx:=ud Q (.sh .non),rt:=λb σ=>ud Q b σ } (startIo N.length xs ds)):FnIo G (k+1) x sp :=
 ⟨f,fd,ps,HB hK d.F Sc ht hn len body,d.m,d.F.kp,d.b⟩
end Vc

namespace Vc
open PySem L2
variable [KF]
variable {G:GE}{k:Nat}{S:Stat}
def lQ (S:Stat)(scope:Scope)(N':List Str)(m:Nat):Stat:=⟨N',gT scope.names S.sc,[m],true,false,false,λ_ _=>False⟩
theorem gB {X X':Cx}{Y:Dyn}{scope:Scope}{N':List Str}{caps:List (Option Nat)}{m:Nat}(hh:S.hot=false)(ok:XOk X G k S Y)(b:BlkOk S scope N' caps)(c:CompX X X' scope N')(Y':Dyn)(hio:∀ p∈Y'.io,p.1=m):XOk X' G k (lQ S scope N' m) Y' :=
 have z:=dI hh ok b c ⟨Y'.H0,Y'.F0,[],[]⟩ rfl
 ⟨z.P,z.w,z.K,z.kf,z.mg,z.base,z.N,z.sc,z.nd,λp hp=>by rw[hio p hp];exact List.mem_singleton.mpr rfl,(λh=>nomatch h),z.calm,z.kind,(λh=>by cases h),z.hd,z.dp,z.un,z.po,(λh=>nomatch h),(λ_ _ h=>h.elim),λh=>nomatch h⟩
def jW (m:Nat)(σ:Sd)(Q:List D->Prop):Prop:=match σ[m]? with
 | some (some (.own ys))=>Q ys
 | _=>False
def gD (g:lj)(tc:TB)(te:TD)(σc:Sd)(m:Nat):List D->List D->List D->(List D->List D->Prop)->Prop
 | [],acc,xs,Q=>Q acc xs
 | x::r,acc,xs,Q=>g x (σc.set m (some (.own xs))) λσ1=>tc σ1 λb σ2=>if b=true then te σ2 λd σ3=>kr σc σ3/\acc.length < sizeLine/\jW m σ3 λys=>gD g tc te σc m r (acc++[d]) ys Q
  else kr σc σ2/\jW m σ2 λys=>gD g tc te σc m r acc ys Q
def hE (ios:List Nat)(caps:List (Option Nat))(j m:Nat)(ti:eB)(g:lj)(tc:TB)(te:TD):TX:=λσ Q=>ti σ λitems σ1=>qQ ios (caps.set m none) σ1 λσ2=>jW j σ2 λxs=>gD g tc te (dj (caps.set m none) σ2) m items [] xs λds ys=>Q (.own ds) (σ2.set j (some (.own ys)))
theorem zR {Y:Dyn}{F:Hp}{σd:Sd}{σ:St}{H:Hp}(R:RS Y F σd σ H)(caps:List (Option Nat))(m:Nat){F' H':Hp}(s1:Same F F')(s2:Same F' H'):RS ⟨H',F',[],[]⟩ F' (dj (caps.set m none) σd) (ff caps σ) H':=by
 have R0:=oO R (caps.set m none) s1 s2;refine⟨by unfold dj ff;simp,R0.lo,R0.fr,R0.fro,R0.old,λi d e=>?_,λi xs e=>absurd e (bX _ _ _ _),λi j xs ys a e=>absurd e (bX _ _ _ _),λp hp=>(by cases hp),.none (bW _ _) R0.ob.tab λb hb=>by cases hb⟩
 obtain⟨v,h1,h2⟩:=R0.sh i d e;refine⟨v,?_,h2⟩
 by_cases hi:i=m
 ·subst hi
  unfold dj at e;rw[List.getElem?_map] at e
  by_cases hl:i < caps.length
  ·rw[List.getElem?_set_self hl] at e;cases e
  ·rw[List.getElem?_eq_none (by rw[List.length_set];omega)] at e;cases e
 ·unfold ff at h1 ⊢
  rw[List.getElem?_map] at h1 ⊢;rw[List.getElem?_set_ne (Ne.symm hi)] at h1;exact h1
theorem RS.inner {Y:Dyn}{F:Hp}{σc σd:Sd}{σ:St}{H:Hp}{m:Nat}{a:Addr}{us:List V}{xs:List D}(R:RS Y F σd σ H)(l:kr σc σd)(noown:∀ (i:Nat) (xs:List D),σc[i]?≠some (some (.own xs)))(noobj:∀ (i:Nat) (o:O),σc[i]?≠some (some (.obj o)))(hm:m < σc.length)(h:σ[m]?=some (some (.ref a)))(r:RepL F us xs)(fa:F a=none){H':Hp}(s:Same F H')(ha:H' a=some (.lst us)) :
  RS ⟨H',F,[(m,a)],[]⟩ F (σc.set m (some (.own xs))) σ H' where
 len:=by rw[List.length_set];exact (kF l).trans R.len
 lo:=Same.refl _
 fr:=s
 fro:=λb o e=>.inl e
 old:=λb o e _=>e
 sh:=λi d e=>by
  rcases gs e with ⟨_,z⟩|⟨_,e⟩
  ·cases z
  ·exact R.sh i d (kE l e)
 own:=λi zs e=>by
  rcases gs e with ⟨rfl,z⟩|⟨_,e⟩
  ·cases z
   exact⟨a,us,h,ha,r,fa,.inr (by simp [Dyn.ioL])⟩
  ·exact absurd e (noown i zs)
 dis:=λi j zs ys b e1 e2 _ _=>by
  have z:∀ {i:Nat} {zs:List D},(σc.set m (some (B.own xs)))[i]?=some (some (.own zs))->i=m:=λ{i zs} e=>by
   rcases gs e with ⟨rfl,_⟩|⟨_,e⟩
   ·rfl
   ·exact absurd e (noown i zs)
  rw[z e1,z e2]
 io:=λp hp=>by
  have:p=(m,a):=by simpa using hp
  subst this;exact⟨h,xs,by rw[jM hm]⟩
 ob:=.none (λi o e=>by
  rcases gs e with ⟨_,z⟩|⟨_,e⟩
  ·cases z
  ·exact noobj i o e) R.ob.tab λb hb=>by cases hb
def lGm (m:Nat)(g:lj):TG:=λv σ H Q=>∃ Y:Dyn,(∀ p∈Y.io,p.1=m)/\lG Y g v σ H Q
def lBm (m:Nat)(t:TB):TT:=λσ H Q=>∃ Y:Dyn,(∀ p∈Y.io,p.1=m)/\lB Y t σ H Q
def lDm (m:Nat)(t:TD):TE:=λσ H Q=>∃ Y:Dyn,(∀ p∈Y.io,p.1=m)/\lD Y t σ H Q
section
variable {elt target iter:Expr}{ifs:List Expr}{scope:Scope}{pos:Pos}{N':List Str}{caps:List (Option Nat)}{ti:eB}{g:lj}{tc:TB}{te:TD}{j m:Nat}
theorem xF {X:Cx}{Y:Dyn}(hh:S.hot=false)(ok:XOk X G k S Y)(b:BlkOk S scope N' caps)(hg:EG G k (lQ S scope N' m) target g)(ht:EBs G k (lQ S scope N' m) ifs tc)(he:ED G k (lQ S scope N' m) elt te) :
  ∀ X',CompX X X' scope N'->PG X' target (lGm m g)/\Gi X' ifs (lBm m tc)/\PE X' elt (lDm m te):=λX' c =>
 ⟨λpins s σ H v u Q I r ⟨Y',hio,q⟩=>hg X' Y' (gB hh ok b c Y' hio) pins s σ H v u Q I r q,λpins s σ H Q I ⟨Y',hio,q⟩=>ht X' Y' (gB hh ok b c Y' hio) pins s σ H Q I q,λpins s σ H Q I ⟨Y',hio,q⟩=>he X' Y' (gB hh ok b c Y' hio) pins s σ H Q I q⟩
theorem pq {α:Type}(l:List α)(i:Nat)(a b:α):(l.set i a).set i b=l.set i b:=by simp
theorem pr {Y:Dyn}{ios:List Nat}(hio:∀ p∈Y.io,p.1∈ios)(hcap:caps[m]?=some (some j)){σ:St}{H:Hp}{Q:VK}(q:lX Y (hE ios caps j m ti g tc te) σ H Q):lu (lI Y ti) caps (lGm m g) (lBm m tc) (lDm m te) σ H Q:=by
 obtain⟨F,σd,Qd,R,q,K⟩:=q;refine⟨F,σd,_,R,q,λH1 F1 σd1 J items s1 R1 it q1 acc hacc=>?_⟩;obtain⟨F2,σd2,s2,R2,q2⟩:=dJ hio R1 q1;unfold jW at q2
 split at q2
 ·rename_i xs0 e0
  have it2:=it.mono s2;have a0:Y.H0 acc=none:=(R2.fresh0 hacc).1;have aF:F2 acc=none:=bq R2.fr hacc;obtain⟨a,us0,ha1,ha2,ha3,ha4,ha5⟩:=R2.own j xs0 e0;have ane:a≠acc:=λz=>by rw[z,hacc] at ha2;cases ha2
  have hj:j < σd2.length:=(List.getElem?_eq_some_iff.mp e0).1;have aN:∀ (xs:List D),NoOwn (σd2.set j (some (.own xs))) σ acc:=λxs=>(R2.noFresh hacc).reown e0;have sw:∀ {F5 H5:Hp} {o:HO},Same F5 H5->F5 acc=none->Same F5 (bG H5 acc o):=λ{F5 H5 o} s5 h b u e=>by
   have:b≠acc:=λz=>by rw[z,h] at e;cases e
   rw[ao this];exact s5 b u e
  have hm:m < (dj (caps.set m none) σd2).length:=by
   unfold dj;rw[List.length_map,List.length_set];exact (List.getElem?_eq_some_iff.mp hcap).1
  have hcm:(ff caps σ)[m]?=some (some (.ref a)):=by
   unfold ff;rw[List.getElem?_map,hcap];show some ((σ[j]?).join)=_;rw[ha1];rfl
  have e00:σd2.set j (some (.own xs0))=σd2:=by
   apply List.ext_getElem?;intro i
   by_cases hi:i=j
   ·subst hi;rw[jM hj,e0]
   ·rw[bH hi]
  refine⟨λi mm σ1 H'=>∃ Fi ds ys xs us,Same F2 Fi/\RS Y Fi (σd2.set j (some (.own xs))) σ H'/\H' acc=some (.lst ys)/\RepL Fi ys ds/\Fi acc=none/\H' a=some (.lst us)/\RepL Fi us xs/\Fi a=none/\σ1[m]?=some (some (.ref a))/\RS ⟨H',Fi,[(m,a)],[]⟩ Fi ((dj (caps.set m none) σd2).set m (some (.own xs))) σ1 H'/\gD g tc te (dj (caps.set m none) σd2) m (items.drop i) ds xs (λds ys=>Qd (.own ds) (σd2.set j (some (.own ys))))/\mm=items.length - i/\i<=items.length,
   ⟨items.length,F2,[],[],xs0,us0,Same.refl _,by rw[e00];exact R2.other aF a0 (e00 ▸ aN xs0),aH,.nil,aF,by rw[ao ane];exact ha2,ha3,ha4,hcm,?_,q2,rfl,Nat.zero_le _⟩,?_⟩
  ·exact (zR R2 caps m (Same.refl _) (sw (o:=.lst []) R2.fr aF)).inner (eF _) (bX _ _) (bW _ _) hm hcm ha3 ha4 (sw R2.fr aF) (by rw[ao ane];exact ha2)
  rintro i mm σ1 Hi ⟨Fi,ds,ys,xs,us,si,Ri,hacci,ri,fi,hai,rui,fai,hmi,Rin,qi,rfl,hi⟩;have itr:=it2 Fi Hi si Ri.fr i
  by_cases hl:i < items.length
  ·right
   have hd:items.drop i=items[i]::items.drop (i+1):=by rw[List.drop_eq_getElem_cons hl]
   rw[hd] at qi;obtain⟨go,yl⟩:=itr.1 items[i] (by rw[List.getElem?_eq_getElem hl])
   refine⟨go,λv H' y=>?_⟩;obtain⟨F3,gr,rep⟩:=yl v H' y;have sF:Same Fi F3:=gr.same Ri.fr;have R3:=gr.rs Rin;have sH:Same Hi H':=by
    rcases gr with ⟨_,rfl⟩|⟨p,o,hp,_,rfl⟩
    ·exact Same.refl _
    ·exact aM hp
   have fr3:∀ c o,F3 c=some o->Fi c=some o\/Hi c=none:=λc o e=>by
    rcases gr with ⟨rfl,_⟩|⟨p,o',hp,rfl,_⟩
    ·exact .inl e
    ·by_cases hc:c=p
     ·subst hc;exact .inr hp
     ·rw[ao hc] at e;exact .inl e
   have fa3:F3 a=none:=by
    cases e:F3 a with
    | none=>rfl
    | some o =>
     rcases fr3 a o e with z|z
     ·rw[fai] at z;cases z
     ·rw[hai] at z;cases z
   have lec:kr (dj (caps.set m none) σd2) ((dj (caps.set m none) σd2).set m (some (.own xs))):=by
    have:∀ (l:Sd) (n:Nat),l[n]?=some none->∀ b,kr l (l.set n b):=by
     intro l
     induction l with
     | nil=>intro n h;cases h
     | cons c l ih =>
      intro n h b;cases n with
      | zero =>
       simp at h;subst h;exact eF l
      | succ n =>
       have h:l[n]?=some none:=by simpa using h
       cases c with
       | none=>exact ih n h b
       | some c=>exact⟨rfl,ih n h b⟩
    refine this _ m ?_ _;unfold dj;rw[List.getElem?_map,List.getElem?_set_self (List.getElem?_eq_some_iff.mp hcap).1];rfl
   have R3':RS ⟨H',F3,[(m,a)],[]⟩ F3 ((dj (caps.set m none) σd2).set m (some (.own xs))) σ1 H':=R3.inner lec (bX _ _) (bW _ _) hm hmi (rui.mono sF) fa3 R3.fr (sH _ _ hai)
   -- behind the turn
   have back:∀ {F5 H5:Hp} {σd5:Sd} {σ5:St} {zs:List D},Same F3 F5->RS ⟨H',F3,[(m,a)],[]⟩ F5 σd5 σ5 H5->σd5[m]?=some (some (.own zs))->RS Y F5 (σd2.set j (some (.own zs))) σ H5/\H5 acc=some (.lst ys)/\F5 acc=none/\Same Fi F5/\∃ ws,H5 a=some (.lst ws)/\RepL F5 ws zs/\F5 a=none/\σ5[m]?=some (some (.ref a)):=λ{F5 H5 σd5 σ5 zs} s5 R5 ez=>by
    have i5:=(R5.io (m,a) (by simp)).1
    obtain⟨c,ws,w1,w2,w3,w4,_⟩:=R5.own m zs ez;rw[i5] at w1;cases w1;have s35:∀ c o,c≠a->Hi c=some o->H5 c=some o:=λc o hc e=>R5.old c o (sH c o e) (by simpa [Dyn.ioA] using hc)
    have fr5:∀ c o,F5 c=some o->Fi c=some o\/Hi c=none:=λc o e=>by
     rcases R5.fro c o e with z|z
     ·exact fr3 c o z
     ·exact .inr (sH.free z)
    have Ro:=Ri.callIo (i:=j) (xs:=xs) (ys:=zs) (by rw[jM hj]) ha1 (sF.trans s5) R5.fr s35 w2 w3 w4 fr5
    rw[pq] at Ro;refine⟨Ro,s35 acc _ (Ne.symm ane) hacci,?_,sF.trans s5,ws,w2,w3,w4,i5⟩;cases e:F5 acc with
    | none=>rfl
    | some o =>
     rcases fr5 acc o e with z|z
     ·rw[fi] at z;cases z
     ·rw[hacci] at z;cases z
   refine⟨⟨H',F3,[(m,a)],[]⟩,λp hp=>by rw[List.mem_singleton.mp hp],F3,_,items[i],_,R3',rep,qi,λσ4 H4 F4 σd4 s4 R4 q4=>?_⟩
   refine⟨⟨H',F3,[(m,a)],[]⟩,λp hp=>by rw[List.mem_singleton.mp hp],F4,σd4,_,R4,q4,λb H5 F5 σd5 s5 R5 q5=>?_⟩
   cases b with
   | false =>
    obtain⟨le,q5⟩:=q5;unfold jW at q5
    split at q5
    ·rename_i zs ez
     obtain⟨w1,w2,w3,w4,ws,v1,v2,v3,v4⟩:=back (s4.trans s5) R5 ez;exact⟨items.length - (i+1),by omega,F5,ds,ys,zs,ws,si.trans w4,w1,w2,ri.mono w4,w3,v1,v2,v3,v4,R5.inner le (bX _ _) (bW _ _) hm v4 v2 v3 R5.fr v1,q5,rfl,hl⟩
    ·exact q5.elim
   | true =>
    refine⟨⟨H',F3,[(m,a)],[]⟩,λp hp=>by rw[List.mem_singleton.mp hp],F5,σd5,_,R5,q5,λv6 H6 F6 d σd6 s6 R6 r6 q6=>?_⟩
    obtain⟨le,hz,q6⟩:=q6;unfold jW at q6
    split at q6
    ·rename_i zs ez
     obtain⟨w1,w2,w3,w4,ws,v1,v2,v3,v4⟩:=back ((s4.trans s5).trans s6) R6 ez;exact⟨ys,items.length - (i+1),w2,by rw[ri.length];exact hz,by omega,F6,ds++[d],ys++[v6],zs,ws,si.trans w4,w1.other w3 a0 (aN zs),aH,(ri.mono w4).append (.cons r6 .nil),w3,by rw[ao ane];exact v1,v2,v3,v4,
      R6.inner le (bX _ _) (bW _ _) hm v4 v2 v3 (sw R6.fr w3) (by rw[ao ane];exact v1),q6,rfl,hl⟩
    ·exact q6.elim
  ·left
   have e:i=items.length:=by omega
   subst e;rw[List.drop_length] at qi;exact⟨itr.2 rfl,K _ Hi Fi (.own ds) _ ((s1.trans s2).trans si) Ri ⟨acc,ys,rfl,hacci,ri,fi,a0,aN xs⟩ qi⟩
 ·exact q2.elim
theorem rJ (j m:Nat)(hi:EI G k S target iter ti)(b:BlkOk S scope N' caps)(hg:EG G k (lQ S scope N' m) target g)(ht:EBs G k (lQ S scope N' m) ifs tc)(he:ED G k (lQ S scope N' m) elt te)(hcap:caps[m]?=some (some j):=by rfl)(hs:∀ env x,foldedSetIterable iter env x=pure x:=by intro _ _;rfl)(hh:S.hot=false:=by rfl) :
  EX G k S (.ListComp elt [⟨target,iter,ifs,0⟩] scope pos) (hE S.ios caps j m ti g tc te):=.mk λX Y ok =>
 br (kC (ok.calm hh) (hi X Y ok) (b.sc ok) (xF hh ok b hg ht he) (hs _)) λσ H Q q=>pr ok.ios hcap q
end
end Vc

namespace Vc
open PySem L2
variable [KF]
variable {G:GE}{k:Nat}{S:Stat}
def rK (i j:Int):Prop:=0 < j/\j < 2^200
theorem zS {X:Cx}:OpR X (binaryOp .FloorDiv) (rI rK λi j=>.int (i / j)):=Zy λi j _ _ _ _ _ hc q=>by
 have h1:(0:Int) < j:=hc.1;have h2:j < 2^200:=hc.2;refine PyProof.Rows.floordiv_int (by omega) (by rw[Int.fdiv_eq_ediv_of_nonneg i (by omega)];exact q) (.inl (PyProof.noPylong_of_log2 ?_))
 have h3:j.natAbs < 2^200:=by omega
 exact (Nat.log2_lt (by omega)).mpr (Nat.lt_of_lt_of_le h3 (Nat.pow_le_pow_right (by decide) (by decide)))
def lR:=Lz rK λi j=>i / j
theorem hJ {a b:Expr}{ta tb:TV}{pos:Pos}(ha:EO G k S a ta)(hb:EO G k S b tb):EX G k S (.BinOp a .FloorDiv b pos) (aU lR ta tb):=kU (r:=λ_=>_) (λ_=>zS) (λ_=>kW) ha hb
end Vc

namespace Vc
open PySem L2
variable [KF]
variable {G:GE}{k:Nat}{S:Stat}
end Vc


namespace Vc
open PySem L2
variable [KF]
variable {G:GE}{k:Nat}{S:Stat}

def Dyn.prot (Y:Dyn)(F H:Hp)(ps:List Addr):Dyn:=⟨λb=>if b∈ps then H b else Y.H0 b,F,Y.io,Y.ob⟩
structure Apt (Y:Dyn)(F:Hp)(σd:Sd)(σ:St)(H:Hp)(b:Addr)(o:HO):Prop where
 h:H b=some o
 f:F b=none
 no:NoOwn σd σ b
 z:Y.H0 b=none
 nb:b∉Y.ob
theorem RS.protect {Y:Dyn}{F:Hp}{σd:Sd}{σ:St}{H:Hp}(R:RS Y F σd σ H)(ps:List Addr)(hP:∀ b∈ps,∃ o,Apt Y F σd σ H b o):RS (Y.prot F H ps) F σd σ H where
 len:=R.len
 lo:=Same.refl _
 fr:=R.fr
 fro:=λb o e=>.inl e
 old:=λb o e n=>by
  have e:(if b∈ps then H b else Y.H0 b)=some o:=e
  split at e
  ·exact e
  ·exact R.old b o e n
 sh:=R.sh
 own:=λi xs e=>by
  obtain⟨a,vs,h1,h2,h3,h4,h5⟩:=R.own i xs e;refine⟨a,vs,h1,h2,h3,h4,?_⟩;rcases h5 with h5|h5
  ·left
   show (if a∈ps then H a else Y.H0 a)=none
   rw[if_neg λhp=>by obtain⟨o,ap⟩:=hP a hp;exact ap.no i xs e h1]
   exact h5
  ·exact .inr h5
 dis:=R.dis
 io:=R.io
 ob:=R.ob.step (Same.refl _) (λ_ _ e=>⟨e,rfl⟩) (λb hb=>by
  obtain⟨w1,w2,w3⟩:=R.ob.owned hb;refine⟨rfl,w1,w3.imp (λz=>?_) id⟩;show (if b∈ps then H b else Y.H0 b)=none
  rw[if_neg λhp=>by obtain⟨o,ap⟩:=hP b hp;exact ap.no.nob hb]
  exact z) R.ob.dsx R.ob.there λb hb=>⟨hb,λh=>by
  show (if b∈ps then H b else Y.H0 b)≠none
  split
  ·exact R.ob.there b hb
  ·exact h⟩
theorem RS.unprotect {Y:Dyn}{F F':Hp}{σd σd':Sd}{σ σ':St}{H H':Hp}(R0:RS Y F σd σ H){ps:List Addr}(hP:∀ b∈ps,∃ o,Apt Y F σd σ H b o)(R:RS (Y.prot F H ps) F' σd' σ' H') :
  RS Y F' σd' σ' H'/\∀ b o,b∈ps->Apt Y F σd σ H b o->Apt Y F' σd' σ' H' b o:=by
 have at0:∀ b,b∈ps->(Y.prot F H ps).H0 b=H b:=λb hb=>by show (if b∈ps then H b else Y.H0 b)=_;rw[if_pos hb]
 have at1:∀ b,b∉ps->(Y.prot F H ps).H0 b=Y.H0 b:=λb hb=>by show (if b∈ps then H b else Y.H0 b)=_;rw[if_neg hb]
 have nio:∀ b,b∈ps->b∉Y.ioA:=λb hb hm=>by
  obtain⟨o,ap⟩:=hP b hb;rcases List.mem_append.mp hm with hm|hm
  case inr=>exact ap.nb hm
  obtain⟨q,hq,e⟩:=List.mem_map.mp hm;obtain⟨h1,xs,h2⟩:=R0.io q hq;exact ap.no _ _ h2 (by rw[h1,e])
 have none0:∀ b,(Y.prot F H ps).H0 b=none->b∉ps/\Y.H0 b=none:=λb e=>by
  by_cases hb:b∈ps
  ·obtain⟨o,ap⟩:=hP b hb
   rw[at0 b hb,ap.h] at e;cases e
  ·exact⟨hb,by rw[at1 b hb] at e;exact e⟩
 refine⟨⟨R.len,R0.lo.trans R.lo,R.fr,λb o e=>?_,λb o e n=>?_,R.sh,λi xs e=>?_,R.dis,R.io,R.ob.step (Same.refl _) (λ_ _ e=>⟨e,rfl⟩) (λb hb=>⟨rfl,(R.ob.owned hb).1,(R.ob.owned hb).2.2.imp (λz=>(none0 b z).2) id⟩) R.ob.dsx R.ob.there (λb hb=>⟨hb,λh z=>h (by rw[at1 b λhp=>by obtain⟨o',ap⟩:=hP b hp;exact ap.nb hb];exact z)⟩)⟩,λb o hb ap=>⟨?_,?_,⟨λj ys e z=>?_,λz=>?_⟩,ap.z,ap.nb⟩⟩
 ·rcases R.fro b o e with h|h
  ·exact R0.fro b o h
  ·exact .inr (none0 b h).2
 ·refine R.old b o ?_ n
  rw[at1 b λhb=>by obtain⟨o',ap⟩:=hP b hb;rw[ap.z] at e;cases e]
  exact e
 ·obtain⟨a,vs,h1,h2,h3,h4,h5⟩:=R.own i xs e
  exact⟨a,vs,h1,h2,h3,h4,h5.elim (λh=>.inl (none0 a h).2) .inr⟩
 ·exact R.old b o (by rw[at0 b hb];exact ap.h) (nio b hb)
 ·cases q:F' b with
  | none=>rfl
  | some o' =>
   rcases R.fro b o' q with h|h
   ·rw[show (Y.prot F H ps).F0 b=F b from rfl,ap.f] at h;cases h
   ·exact absurd hb (none0 b h).1
 ·obtain⟨a,vs,h1,h2,h3,h4,h5⟩:=R.own j ys e
  rw[z] at h1;cases h1;rcases h5 with h5|h5
  ·exact absurd hb (none0 b h5).1
  ·exact nio b hb (List.mem_append_left _ h5)
 ·rcases (R.ob.owned z).2.2 with w|w
  ·exact absurd hb (none0 b w).1
  ·exact ap.nb w
structure Pots (H H':Hp)(p:Addr)(as:List Addr)(cs:List Int):Prop where
 same:Same H H'
 list:H' p=some (.lst (as.map V.ref))
 fresh:∀ b∈p::as,H b=none
 nd:(p::as).Nodup
 len:as.length=cs.length
 pot:∀ (i:Nat) (a:Addr) (c:Int),as[i]?=some a->cs[i]?=some c->H' a=some (.lst [.int c,.int 0])
def ue:Sp:=λvs H Q _=>∃ F ns,qI F H/\RepL F vs [.lst (List.map D.int ns)]/\ns.length<=63/\∀ p as cs H',Pots H H' p as cs->Q (.ref p) H'
def FnPots (G:GE)(k:Nat)(x:Str):Prop:=∃ f fd ps,FnOk G.P G.w G.K G.mg G.base km k f fd ps ue/\G.mg x=some (.ref f)/\PySem.W.keepIn G.K (.ref f)=true/\Binds G.K fd ps []
theorem FnPots.mono {x:Str}{j:Nat}(h:FnPots G j x)(l:j<=k):FnPots G k x:=by
 obtain⟨f,fd,ps,h1,h2,h3,h4⟩:=h;exact⟨f,fd,ps,h1.mono l,h2,h3,h4⟩
def IL (Y:Dyn)(t:eB):TE:=λσ H Q=>∃ F σd Qd,RS Y F σd σ H/\t σd Qd/\(∀ ds σd',Qd ds σd'->∃ ns:List Int,ds=[.lst (ns.map D.int)]/\ns.length<=63) /\
 ∀ (p:Addr) (as:List Addr) (cs:List Int) H' F' ds σd',Same F F'->RS Y F' σd' σ H'->Apt Y F' σd' σ H' p (.lst (as.map V.ref))->(p::as).Nodup->as.length=cs.length ->
  (∀ (i:Nat) (a:Addr) (c:Int),as[i]?=some a->cs[i]?=some c->Apt Y F' σd' σ H' a (.lst [.int c,.int 0]))->Qd ds σd'->Q (.ref p) H'
theorem HC {x:Str}{e:Expr}{t:eB}{p pos:Pos}(hh:S.hot=false)(h:FnPots G k x)(ha:EDs G k S [e] t)(hg:S.sc.lookup x=some .globalImplicit:=by rfl)(hdb:(x==("__debug__":Str))=false:=by decide)
  (he:∀ env,starEach [e] env=(false,eval e env)::starEach [] env:=by intro _;rfl) (hpl:∀ env,(backTo pos (starEach [] env)).any (·.1)=false:=by intro _;rfl) {X:Cx} {Y:Dyn} (ok:XOk X G k S Y):PE X (.Call (.Name x p) [e] [] pos) (IL Y t):=by
 obtain⟨f,fd,ps,h1,h2,h3,h4⟩:=h;have h1':FnOk X.prog X.w X.K X.mg X.base km k f fd ps ue:=by rw[ok.P,ok.w,ok.K,ok.mg,ok.base];exact h1
 refine br (on (E:=E0) (dvs:=[]) (ds:=[]) h1' (ok.room hh) (dG ok hg) (by rw[ok.mg];exact h2) (by rw[ok.K];exact h3) (by rw[ok.K];exact h4) .nil yH (ha X Y ok) hdb (he _) (hpl _)) λσ H Q q=>?_
 obtain⟨F,σd,Qd,R,q,sh,K⟩:=q;refine⟨F,σd,_,R,q,λvs H1 F1 ds σ1 s1 R1 r1 q1=>?_⟩;show ue (vs++[]) H1 Q E0;rw[List.append_nil];obtain⟨ns,rfl,hl⟩:=sh _ _ q1;refine⟨F1,ns,⟨R1.fr,R1.ob.tab⟩,r1,hl,λp as cs H' P=>?_⟩;have R2:RS Y F1 σ1 σ H':=R1.call (Same.refl _) (R1.fr.trans P.same) P.same λc o e=>.inl e;have apt:∀ b∈p::as,∀ o,H' b=some o->Apt Y F1 σ1 σ H' b o:=λb hb o e=>by
  have hf:=P.fresh b hb;exact⟨e,bq R1.fr hf,R1.noFresh hf,(R1.fresh0 hf).1,λz=>(R1.fresh0 hf).2 (List.mem_append_right _ z)⟩
 exact K p as cs H' F1 _ σ1 s1 R2 (apt p (List.mem_cons_self ..) _ P.list) P.nd P.len (λi a c e1 e2=>apt a (List.mem_cons_of_mem _ (List.mem_of_getElem? e1)) _ (P.pot i a c e1 e2)) q1

def rL (pre:Nat->Int->Sd->Sd)(tb:bQ)(De:EndsD):Nat->Nat->Sd->Prop
 | 0,_,σ=>De.nx σ
 | n+1,i,σ=>∀ c:Int,tb { De with nx:=rL pre tb De n (i+1),ct:=rL pre tb De n (i+1),bk:=De.nx } (pre i c σ)
def vt (t:eB)(pre:Nat->Int->Sd->Sd)(tb:bQ):bQ:=λDe σ=>t σ λds σ1=>(∃ ns:List Int,ds=[.lst (ns.map D.int)]/\ns.length<=63)/\∀ n,rL pre tb De n 0 σ1
def LN (j:Nat):Nat->Int->Sd->Sd:=λ_ c σ=>σ.set j (some (.own [.int c,.int 0]))
def lSP (Y:Dyn)(t:bQ):TS:=λDn σ H=>∃ Y':Dyn,(Y'.io=Y.io/\Y'.ob=Y.ob)/\lS Y' t Dn σ H
theorem LO {X:Cx}{Y:Dyn}{body:List Stmt}{tb:bQ}(hx0:S.ex=λ_ _=>False)(ok:XOk X G k S Y)(hb:ESs G k S body tb):PSs X body (lSP Y tb):=λpins s σ H Dn I ⟨Y',⟨hio,hob⟩,q⟩ =>
 hb X Y' ⟨ok.P,ok.w,ok.K,ok.kf,ok.mg,ok.base,ok.N,ok.sc,ok.nd,λp hp=>ok.ios p (by rw[<- hio];exact hp),(λh1 h2=>hob.trans (ok.obs h1 h2)),ok.calm,ok.kind,ok.fn,ok.hd,ok.dp,ok.un,ok.po,ok.nx,(λc σd h=>by rw[hx0] at h;exact h.elim),λ_ c σd h=>by rw[hx0] at h;exact h.elim⟩ pins s σ H Dn I q
theorem zU {X:Cx}{Y:Dyn}{t:eB}{pre:Nat->Int->Sd->Sd}{tb:bQ}{J:Addr->It}{g:TG}{Dn:Ends}{σ:St}{H:Hp}
  (hgo:∀ (p:Addr) (as:List Addr) (i:Nat) (a:Addr) (H:Hp),H p=some (.lst (as.map V.ref))->as[i]?=some a->(J p).go i H)
  (hst:∀ (p:Addr) (as:List Addr) (H:Hp),H p=some (.lst (as.map V.ref))->(J p).stop as.length H)
  (hy:∀ (p:Addr) (as:List Addr) (i:Nat) (a:Addr) (c:Int) (F H:Hp) (σd:Sd) (σ:St) (x:V) (H':Hp),RS Y F σd σ H->(p::as).Nodup->as[i]?=some a ->
   (∀ b∈p::as.drop (i+1),∃ o,Apt Y F σd σ H b o)->H p=some (.lst (as.map V.ref))->Apt Y F σd σ H a (.lst [.int c,.int 0])->(J p).yld i H x H' ->
   ∃ F',Same F F'/\RS Y F' σd σ H'/\(∀ b o,Apt Y F σd σ H b o->Apt Y F' σd σ H' b o)/\∀ N:St->Hp->Prop,(∀ σ2,RS (Y.prot F' H' (p::as.drop (i+1))) F' (pre i c σd) σ2 H'->N σ2 H')->g x σ H' N)
  (q:lS Y (vt t pre tb) Dn σ H) :
  Vt (λσ H R=>IL Y t σ H λx H1=>∃ p as,x=.ref p/\H1 p=some (.lst (List.map V.ref as))/\R (J p) H1) g (lSP Y tb) Dn σ H:=by
 obtain⟨F,σd,De,R,q,K⟩:=q;refine⟨F,σd,_,R,q,λds σd' h=>h.1,λp as cs H1 F1 ds σd1 s1 R1 ap nd len pots q1=>⟨p,as,rfl,ap.h,?_⟩⟩;have q1:=q1.2 as.length;refine⟨λi m σ' H'=>∃ F' σd',Same F1 F'/\RS Y F' σd' σ' H'/\Apt Y F' σd' σ' H' p (.lst (as.map V.ref))/\(∀ (j:Nat) (a:Addr) (c:Int),i<=j->as[j]?=some a->cs[j]?=some c->Apt Y F' σd' σ' H' a (.lst [.int c,.int 0])) /\
  rL pre tb De (as.length - i) i σd'/\m=as.length - i/\i<=as.length,⟨as.length,F1,σd1,Same.refl _,R1,ap,λj a c _=>pots j a c,q1,rfl,Nat.zero_le _⟩,?_⟩
 rintro i m σ' H' ⟨F',σd',s',R',ap',pots',q',rfl,hi⟩
 by_cases hl:i < as.length
 ·right
  have e1:as[i]?=some as[i]:=List.getElem?_eq_getElem hl;have hl2:i < cs.length:=by rw[<- len];exact hl
  have e2:cs[i]?=some cs[i]:=List.getElem?_eq_getElem hl2;refine⟨hgo p as i _ H' ap'.h e1,λσ2 H2=>∃ F2 σd2,Same F1 F2/\RS Y F2 σd2 σ2 H2/\Apt Y F2 σd2 σ2 H2 p (.lst (as.map V.ref))/\(∀ (j:Nat) (a:Addr) (c:Int),i+1<=j->as[j]?=some a->cs[j]?=some c->Apt Y F2 σd2 σ2 H2 a (.lst [.int c,.int 0])) /\
   rL pre tb De (as.length - (i+1)) (i+1) σd2,λσ2 H2 ⟨F2,σd2,w1,w2,w3,w4,w5⟩=>⟨as.length - (i+1),by omega,F2,σd2,w1,w2,w3,w4,w5,rfl,hl⟩,λx H2 y=>?_⟩
  have inDrop:∀ (j:Nat) (a:Addr),i+1<=j->as[j]?=some a->a∈p::as.drop (i+1):=λj a hj e=>by
   refine List.mem_cons_of_mem _ (List.mem_of_getElem? (i:=j - (i+1)) ?_);rw[List.getElem?_drop,show i+1+(j - (i+1))=j by omega];exact e
  have hP:∀ b∈p::as.drop (i+1),∃ o,Apt Y F' σd' σ' H' b o:=λb hb=>by
   rcases List.mem_cons.mp hb with rfl|hb
   ·exact⟨_,ap'⟩
   ·obtain⟨j,hj,e⟩:=List.mem_iff_getElem.mp hb
    rw[List.getElem_drop] at e;have hj':i+1+j < as.length:=by rw[List.length_drop] at hj;omega
    have hj2:i+1+j < cs.length:=by rw[<- len];exact hj'
    exact⟨_,pots' (i+1+j) b cs[i+1+j] (by omega) (by rw[List.getElem?_eq_getElem hj',e]) (List.getElem?_eq_getElem hj2)⟩
  obtain⟨F2,sF,R2,keep,go⟩:=hy p as i _ cs[i] F' H' σd' σ' x H2 R' nd e1 hP ap'.h (pots' i _ _ (Nat.le_refl _) e1 e2) y;refine go _ λσ2 R3=>?_;have hn:as.length - i=(as.length - (i+1))+1:=by omega
  rw[hn] at q';have q2:=q' cs[i];have hP2:∀ b∈p::as.drop (i+1),∃ o,Apt Y F2 σd' σ' H2 b o:=λb hb=>by
   obtain⟨o,a⟩:=hP b hb;exact⟨o,keep b o a⟩
  have again:∀ {σ4:St} {H4 F4:Hp} {σd4:Sd},Same F2 F4->RS (Y.prot F2 H2 (p::as.drop (i+1))) F4 σd4 σ4 H4->rL pre tb De (as.length - (i+1)) (i+1) σd4->∃ F2 σd2,Same F1 F2/\RS Y F2 σd2 σ4 H4/\Apt Y F2 σd2 σ4 H4 p (.lst (as.map V.ref))/\(∀ (j:Nat) (a:Addr) (c:Int),i+1<=j->as[j]?=some a->cs[j]?=some c->Apt Y F2 σd2 σ4 H4 a (.lst [.int c,.int 0]))/\rL pre tb De (as.length - (i+1)) (i+1) σd2:=λ{σ4 H4 F4 σd4} s4 R4 q4=>by
   obtain⟨R5,k5⟩:=R2.unprotect hP2 R4;exact⟨F4,σd4,(s'.trans sF).trans s4,R5,k5 _ _ (List.mem_cons_self ..) (keep _ _ ap'),λj a c hj ea ec=>k5 _ _ (inDrop j a hj ea) (keep _ _ (pots' j a c (by omega) ea ec)),q4⟩
  refine⟨Y.prot F2 H2 (p::as.drop (i+1)),⟨rfl,rfl⟩,F2,pre i cs[i] σd',_,R3,q2,⟨λσ4 H4 F4 σd4 s4 R4 q4=>again s4 R4 q4,λv4 σ4 H4 F4 σd4 b s4 R4 r4 q4=>?_,λσ4 H4 F4 σd4 s4 R4 q4=>?_,λσ4 H4 F4 σd4 s4 R4 q4=>again s4 R4 q4⟩⟩
  ·obtain⟨R5,k5⟩:=R2.unprotect hP2 R4
   refine K.rt v4 σ4 H4 F4 σd4 b (((s1.trans s').trans sF).trans s4) R5 ?_ q4;cases b with
   | sh d=>exact r4
   | own xs =>
    obtain⟨a,vs,w1,w2,w3,w4,w5,w6⟩:=r4;refine⟨a,vs,w1,w2,w3,w4,?_,w6⟩;have w5:(if a∈p::as.drop (i+1) then H2 a else Y.H0 a)=none:=w5
    split at w5
    ·rename_i hm
     obtain⟨o,ap⟩:=hP2 a hm;exact ap.z
    ·exact w5
   | obj o =>
    obtain⟨a,w1,w2,w3⟩:=r4;refine⟨a,w1,w2,λb hb=>⟨(w3 b hb).1,(w3 b hb).2.1,?_,(w3 b hb).2.2.2⟩⟩;have w5:(if b∈p::as.drop (i+1) then H2 b else Y.H0 b)=none:=(w3 b hb).2.2.1
    split at w5
    ·rename_i hm
     obtain⟨o,ap⟩:=hP2 b hm;exact ap.z
    ·exact w5
  ·obtain⟨R5,k5⟩:=R2.unprotect hP2 R4
   exact K.nx σ4 H4 F4 σd4 (((s1.trans s').trans sF).trans s4) R5 q4
 ·left
  have e:i=as.length:=by omega
  subst e;rw[Nat.sub_self] at q';exact⟨hst p as H' ap'.h,K.nx σ' H' F' σd' (s1.trans s') R' q'⟩
theorem RS.takePot {Y:Dyn}{F:Hp}{σd:Sd}{σ:St}{H:Hp}{j:Nat}{a:Addr}{c:Int}{ps:List Addr}(R:RS Y F σd σ H)(hP:∀ b∈ps,∃ o,Apt Y F σd σ H b o)(ha:Apt Y F σd σ H a (.lst [.int c,.int 0]))(hn:a∉ps)(hio:∀ p∈Y.io,p.1≠j) :
  RS (Y.prot F H ps) F (σd.set j (some (.own [.int c,.int 0]))) (σ.set j (some (.ref a))) H :=
 (R.protect ps hP).setOwn ha.h (.cons (.int _) (.cons (.int _) .nil)) ha.f (by show (if a∈ps then H a else Y.H0 a)=none;rw[if_neg hn];exact ha.z) ha.no hio
theorem HD {p:Addr}{as:List Addr}{i:Nat}{a:Addr}(nd:(p::as).Nodup)(e:as[i]?=some a):a∉p::as.drop (i+1):=by
 have hi:=(List.getElem?_eq_some_iff.mp e).1;have ea:as[i]=a:=(List.getElem?_eq_some_iff.mp e).2;intro h;rcases List.mem_cons.mp h with h|h
 ·exact (List.nodup_cons.mp nd).1 (by rw[<- h];exact List.mem_of_getElem? e)
 ·obtain⟨j,hj,e'⟩:=List.mem_iff_getElem.mp h
  rw[List.getElem_drop] at e';have hj':i+1+j < as.length:=by rw[List.length_drop] at hj;omega
  have:=(List.nodup_cons.mp nd).2;exact List.pairwise_iff_getElem.mp this i (i+1+j) hi hj' (by omega) (by rw[ea,e'])
theorem LP (j:Nat){x y:Str}{e:Expr}{t:eB}{tb:bQ}{body:List Stmt}{p cpos npos pos:Pos}(h:FnPots G k x)(ha:EDs G k S [e] t)(hb:ESs G k S body tb)(hj:S.N[j]?=some y:=by rfl)(hx:S.sc.lookup y=some .local\/(S.sc.lookup y=some .cell/\S.blk=false):=by first|exact Or.inl rfl|exact Or.inr ⟨rfl,rfl⟩)
  (hn:j∉S.ios:=by first|decide|exact List.not_mem_nil) (hg:S.sc.lookup x=some .globalImplicit:=by rfl) (hdb:(x==("__debug__":Str))=false:=by decide)
  (he:∀ env,starEach [e] env=(false,eval e env)::starEach [] env:=by intro _;rfl) (hpl:∀ env,(backTo cpos (starEach [] env)).any (·.1)=false:=by intro _;rfl)
  (hs:∀ env x',foldedSetIterable (.Call (.Name x p) [e] [] cpos) env x'=pure x':=by intro _ _;rfl) (hx0:S.ex=λ_ _=>False:=by rfl) (hh:S.hot=false:=by rfl) :
  ES G k S (.For (.Name y npos) (.Call (.Name x p) [e] [] cpos) body [] pos) (vt t (LN j) tb):=.mk λX Y ok=>by
 have pi:=zc (tg:=.Name y npos) (HC (p:=p) (pos:=cpos) hh h ha hg hdb he hpl ok);refine ef (yq (ok.po hh) (ok.calm hh) pi (L2.pg_name (i:=j) (by rw[ok.N];exact ok.nd) (by rw[ok.N];exact hj) (oJ ok hx) (oK ok hx)) (LO hx0 ok hb) (hs _)) λDn σ H q=>?_
 have r:=zU (X:=X) (J:=λa=>Zx X.K a) (g:=mY j) (λp as i a H h e=>⟨as.map V.ref,.ref a,.of h,by rw[List.getElem?_map,e];rfl⟩) (λp as H h=>⟨as.map V.ref,.of h,by rw[List.length_map];exact Nat.le_refl _⟩)
  (λp as i a c F H σd σ x H' R nd e hP hp hpot y=>by
   obtain⟨rfl,y⟩:=y;have hx:=y _ (.of hp);rw[List.getElem?_map,e] at hx;cases hx;refine⟨F,Same.refl _,R,λ_ _ a=>a,λN hN=>hN _ (R.takePot hP hpot (HD nd e) λq hq z=>hn (by rw[<- z];exact ok.ios q hq))⟩) q
 obtain⟨F,σd,Qd,w1,w2,w3,w4⟩:=r;exact⟨F,σd,Qd,w1,w2,w3,λp as cs H' F' ds σd' a1 a2 a3 a4 a5 a6 a7=>by
  obtain⟨p',as',e,z1,z2⟩:=w4 p as cs H' F' ds σd' a1 a2 a3 a4 a5 a6 a7;exact .inl ⟨p',e,⟨_,.of z1⟩,z2⟩⟩
theorem rM {pre:Nat->Int->Sd->Sd}{tb:bQ}{De:EndsD}(I:Sd->Prop)(hb:∀ i c σ (N:Sd->Prop),I σ->(∀ σ',I σ'->N σ')->tb { De with nx:=N,ct:=N,bk:=De.nx } (pre i c σ))(hn:∀ σ,I σ->De.nx σ):∀ n i σ,I σ->rL pre tb De n i σ
 | 0,_,σ,h=>hn σ h
 | n+1,i,σ,h=>λc=>hb i c σ _ h λσ' h'=>rM I hb hn n (i+1) σ' h'
end Vc


namespace Vc
open PySem L2
variable [KF]
variable {G:GE}{k:Nat}{S:Stat}
def IM (Y:Dyn):TS:=λDn σ H=>∃ F ns,RS Y F [some (.sh (.lst (List.map D.int ns)))] σ H/\Y.H0=H/\(Y.io=[]/\Y.ob=[])/\ns.length<=63/\∀ p as cs H',Pots H H' p as cs->Dn.rt (.ref p) H'
structure EPots (G:GE)(k:Nat)(S:Stat)(b:List Stmt) :Prop where
 run:∀ X Y,XOk X G k S Y->PSs X b (IM Y)
instance {G:GE} {k:Nat} {S:Stat} {b:List Stmt} :CoeFun (EPots G k S b) λ_=>∀ X Y,XOk X G k S Y->PSs X b (IM Y):=⟨EPots.run⟩
def lLe (t:eB):TE:=λσ H Q=>∃ Y:Dyn,Y.io=[]/\Lk (lDs Y t) σ H Q
abbrev zV:TB:=aW qK (aL (dh eg (bh (aa 0) cB))) (aY (.int 0))
abbrev zW:eB:=aA (ag [] (aY (.int 0))) (aA (ag [] (aY (.int 0))) tN)
abbrev zX:eB:=bI (ag [] (aL (yX (aa 0) VT (Vf (aY (.int 63))))))
abbrev uf:eB:=aA (ag [] (aa 0)) (aA (ag [] (aY (.int 0))) tN)
theorem vv {α:Type}(xs:List α)(lo hi:Option Int):(cut xs lo hi).length<=xs.length:=by
 unfold cut;rw[List.length_take,List.length_drop];omega
theorem rN (ns:List Int)(lo hi:Option Int):cut (ns.map D.int) lo hi=(cut ns lo hi).map D.int:=by
 unfold cut;rw[List.length_map,List.map_take,List.map_drop]
theorem RepL.int2 {F:Hp}{vs:List V}{a b:Int}(r:RepL F vs [.int a,.int b]):vs=[.int a,.int b]:=by
 cases r with
 | cons h r =>
  cases h;cases r with
  | cons h r=>cases h;cases r;rfl
section
variable {c:Expr}{zs es:List Expr}{tg iter:Expr}{scope:Scope}{N':List Str}{p1 p2 p3 p4 p5 p6 p7:Pos}
theorem LQ (hios:S.ios=[])(hc:EB G k S c zV)(hz:EDs G k S zs zW)(hi:EI G k S tg iter zX)(b:BlkOk S scope N' [none])(hg:EG G k (kq S scope N') tg (cO 0))(he:EDs G k (kq S scope N') es uf)(hs:∀ env x,foldedSetIterable iter env x=pure x:=by intro _ _;rfl) 
  (h1:∀ env,starEach [.List zs p1] env=(false,eval (.List zs p1) env)::starEach [] env:=by intro _;rfl) (hh:S.hot=false:=by rfl) :
  EPots G k S [.If c [.Return (some (.List [.List zs p1] p2)) p3] [] p4,.Return (some (.ListComp (.List es p5) [⟨tg,iter,[],0⟩] scope p6)) p7]:=.mk λX Y ok=>by
 have hin:∀ X',CompX X X' scope N'->PG X' tg (ZE (cO 0))/\Gi X' [] (ZF bF)/\PE X' (.List es p5) (lLe uf):=λX' cx =>
  ⟨λpins s σ H v u Q I r ⟨Y',hio,q⟩=>hg X' Y' (dI hh ok b cx Y' hio) pins s σ H v u Q I r q,λpins s σ H Q I ⟨Y',hio,q⟩=>cf X' Y' (dI hh ok b cx Y' hio) pins s σ H Q I q,λpins s σ H Q I ⟨Y',hio,q⟩=>kO (he X' Y' (dI hh ok b cx Y' hio)) pins s σ H Q I q⟩
 refine oD (qC (L2.ps_if (hc X Y ok) (kB (L2.ps_ret (kO (pa_cons (kO (hz X Y ok)) pa_nil (h1 _))))) uR) (kB (L2.ps_ret (kC (ok.calm hh) (hi X Y ok) (b.sc ok) hin (hs _))))) λDn σ H q=>?_;obtain⟨F,ns,R,rfl,hY,hl,K⟩:=q;have same:∀ {F':Hp} {σd:Sd} {σ:St} {H':Hp},RS Y F' σd σ H'->Same Y.H0 H':=λR b o e=>R.old b o e (by rw[Dyn.ioA,hY.1,hY.2];simp)
 refine⟨F,_,λ_ σd'=>σd'=[some (.sh (.lst (List.map D.int ns)))],R,?_,λbb H1 F1 σ1 s1 R1 e1=>?_⟩
 ·simp only[zV,aW,aL,Zz,dh,bh,aa,cB,drfs,drf,List.getElem?_cons_zero,eg,aY,qK]
  exact⟨⟨rfl,rfl⟩,trivial⟩
 subst e1;cases bb with
 | true =>
  refine (if_pos rfl).mpr ?_;refine⟨F1,_,λds _=>ds=[.int 0,.int 0],R1,?_,λvs H2 F2 ds σ2 s2 R2 r2 e2=>?_⟩
  ·simp only[zW,aA,ag,gL,aY,tN]
  subst e2;obtain rfl:=r2.int2;refine⟨by show 2<=sizeLine;decide,λa ha=>⟨by show 1<=sizeLine;decide,λp hp=>K p [a] [0] _ ?_⟩⟩
  have hpa:p≠a:=λz=>by rw[z,aH] at hp;cases hp
  have hp2:H2 p=none:=by rw[ao hpa] at hp;exact hp
  have sm:=same R2;refine⟨(sm.trans (aM ha)).trans (aM hp),aH,λb hb=>?_,by simp [hpa],rfl,λi a' c' e1 e2=>?_⟩
  ·rcases List.mem_cons.mp hb with rfl|hb
   ·exact sm.free hp2
   ·rw[List.mem_singleton.mp hb];exact sm.free ha
  ·cases i with
   | zero =>
    cases e1;cases e2;rw[ao hpa.symm,aH]
   | succ i=>simp at e1
 | false =>
  refine (if_neg (by decide)).mpr ?_
  refine⟨F1,_,λitems σd'=>(∃ ms:List Int,items=ms.map D.int/\ms.length<=63)/\σd'=[some (.sh (.lst (List.map D.int ns)))],R1,?_,λH2 F2 σ2 J items s2 R2 it e2 acc hacc=>?_⟩
  ·simp only[zX,bI,ag,gL,gM,aL,Zz,yX,aa,VT,Vf,aY,drf,List.getElem?_cons_zero,ZC]
   exact⟨⟨cut ns none (some 63),rN _ _ _,Nat.le_trans (vv _ _ _) hl⟩,trivial⟩
  obtain⟨⟨ms,rfl,hm⟩,rfl⟩:=e2;have a0:Y.H0 acc=none:=(R2.fresh0 hacc).1;have aF:F2 acc=none:=bq R2.fr hacc;have noOwn:∀ (σ:St) (a:Addr),NoOwn [some (.sh (.lst (List.map D.int ns)))] σ a:=λσ a=>⟨λj ys e=>by
   cases j with
   | zero=>cases e
   | succ j=>simp at e,λ⟨j,o,c,e,_⟩=>by
   cases j with
   | zero=>cases e
   | succ j=>simp at e⟩
  have sw:∀ {F5 H5:Hp} {o:HO},Same F5 H5->F5 acc=none->Same F5 (bG H5 acc o):=λ{F5 H5 o} s5 h b u e=>by
   have:b≠acc:=λz=>by rw[z,h] at e;cases e
   rw[ao this];exact s5 b u e
  have non1:∀ (i:Nat) (xs:List D),([none]:Sd)[i]?≠some (some (.own xs)):=λi xs e=>by
   cases i with
   | zero=>cases e
   | succ i=>simp at e
  have nob1:∀ (i:Nat) (o:O),([none]:Sd)[i]?≠some (some (.obj o)):=λi o e=>by
   cases i with
   | zero=>cases e
   | succ i=>simp at e
  refine⟨λi m σ1 H'=>∃ Fi as cs,Same F2 Fi/\RS Y Fi [some (.sh (.lst (List.map D.int ns)))] σ H'/\H' acc=some (.lst (List.map V.ref as))/\(acc::as).Nodup/\(∀ b∈acc::as,Y.H0 b=none/\Fi b=none) /\
    (∀ (i:Nat) (a:Addr) (c:Int),as[i]?=some a->cs[i]?=some c->H' a=some (.lst [.int c,.int 0]))/\as.length=cs.length/\as.length=i/\RS ⟨H',Fi,[],[]⟩ Fi [none] σ1 H'/\m=ms.length - i/\i<=ms.length,
   ⟨ms.length,F2,[],[],Same.refl _,R2.other aF a0 (noOwn _ _),aH,by simp,λb hb=>by rw[List.mem_singleton.mp hb];exact⟨a0,aF⟩,λi a c e=>by simp at e,rfl,rfl,oO R2 [none] (Same.refl _) (sw R2.fr aF),rfl,Nat.zero_le _⟩,?_⟩
  rintro i m σ1 Hi ⟨Fi,as,cs,si,Ri,hacci,nd,fr,pots,len,leni,Rin,rfl,hi⟩;have itr:=it Fi Hi si Ri.fr i
  by_cases hl2:i < ms.length
  ·right
   obtain⟨go,yl⟩:=itr.1 (.int ms[i]) (by rw[List.getElem?_map,List.getElem?_eq_getElem hl2];rfl)
   refine⟨go,λv H' y=>?_⟩;obtain⟨F3,gr,rep⟩:=yl v H' y;have sF:Same Fi F3:=gr.same Ri.fr;have R3:=gr.rs Rin;have R3':RS ⟨H',F3,[],[]⟩ F3 [none] σ1 H':=R3.less (eF _) non1 nob1 R3.fr;have sH:Same Hi H':=by
    rcases gr with ⟨_,rfl⟩|⟨p,o,hp,_,rfl⟩
    ·exact Same.refl _
    ·exact aM hp
   have fr3:∀ c o,F3 c=some o->Fi c=some o\/Hi c=none:=λc o e=>by
    rcases gr with ⟨rfl,_⟩|⟨p,o',hp,rfl,_⟩
    ·exact .inl e
    ·by_cases hc:c=p
     ·subst hc;exact .inr hp
     ·rw[ao hc] at e;exact .inl e
   refine⟨⟨H',F3,[],[]⟩,rfl,F3,_,.int ms[i],λσd=>σd=[some (.sh (.int ms[i]))],R3',rep,rfl,λσ4 H4 F4 σd4 s4 R4 q4=>?_⟩;subst q4;refine⟨⟨H',F3,[],[]⟩,rfl,F4,_,λbb σd=>bb=true/\σd=[some (.sh (.int ms[i]))],R4,⟨rfl,rfl⟩,λbb H5 F5 σd5 s5 R5 q5=>?_⟩;obtain⟨rfl,rfl⟩:=q5;refine (if_pos rfl).mpr ?_;refine⟨⟨H',F3,[],[]⟩,rfl,F5,_,λds σd=>ds=[.int ms[i],.int 0]/\σd=[some (.sh (.int ms[i]))],R5,?_,λvs H6 F6 ds σd6 s6 R6 r6 q6=>?_⟩
   ·simp only[uf,aA,ag,gL,gM,aa,aY,tN,List.getElem?_cons_zero]
    exact⟨trivial,trivial⟩
   obtain⟨rfl,rfl⟩:=q6;obtain rfl:=r6.int2;refine⟨by show 2<=sizeLine;decide,λa ha=>?_⟩
   have s36:Same F3 F6:=(s4.trans s5).trans s6;have s35:Same Hi H6:=sH.trans λb o e=>R6.old b o e (by simp [Dyn.ioA])
   have fr6:∀ c o,F6 c=some o->Fi c=some o\/Hi c=none:=λc o e=>by
    rcases R6.fro c o e with z|z
    ·exact fr3 c o z
    ·exact .inr (sH.free z)
   have w1:RS Y F6 [some (.sh (.lst (List.map D.int ns)))] σ H6:=Ri.call (sF.trans s36) R6.fr s35 fr6;have live:∀ b∈acc::as,∃ o,Hi b=some o:=λb hb=>by
    rcases List.mem_cons.mp hb with rfl|hb
    ·exact⟨_,hacci⟩
    ·obtain⟨j,hj,e⟩:=List.mem_iff_getElem.mp hb
     have hj2:j < cs.length:=by rw[<- len];exact hj
     exact⟨_,pots j b cs[j] (by rw[List.getElem?_eq_getElem hj,e]) (List.getElem?_eq_getElem hj2)⟩
   have w3:∀ b∈acc::as,F6 b=none:=λb hb=>by
    cases e:F6 b with
    | none=>rfl
    | some o =>
     obtain⟨o',e'⟩:=live b hb;rcases fr6 b o e with z|z
     ·rw[(fr b hb).2] at z;cases z
     ·rw[e'] at z;cases z
   have na:∀ b∈acc::as,b≠a:=λb hb=>by
    obtain⟨o',e'⟩:=live b hb;exact bN (s35 _ _ e') ha
   have hacc6:(bG H6 a (.lst [.int ms[i],.int 0])) acc=some (.lst (List.map V.ref as)):=by rw[ao (na acc (List.mem_cons_self ..))];exact s35 _ _ hacci
   have R7:=w1.alloc0 (o:=.lst [.int ms[i],.int 0]) ha;have aF6:=w3 acc (List.mem_cons_self ..);have nacc:a≠acc:=(na acc (List.mem_cons_self ..)).symm;have aF6':F6 a=none:=bq w1.fr ha;refine⟨List.map V.ref as,ms.length - (i+1),hacc6,by rw[List.length_map,leni];exact Nat.lt_of_lt_of_le hl2 (Nat.le_trans hm (by decide)),by omega,F6,as++[a],cs++[ms[i]],si.trans (sF.trans s36),R7.other aF6 a0 (noOwn _ _),?_,?_,?_,?_,by simp [len],by simp [leni],R6.less (σ0:=[none]) trivial non1 nob1 (sw (λb o e=>?_) aF6),rfl,hl2⟩
   ·rw[aH,List.map_append];rfl
   ·rw[List.nodup_cons] at nd ⊢
    refine⟨λh=>?_,?_⟩
    ·rcases List.mem_append.mp h with h|h
     ·exact nd.1 h
     ·exact nacc (List.mem_singleton.mp h).symm
    ·rw[List.nodup_append]
     refine⟨nd.2,by simp,λx hx y hy z=>?_⟩
     rw[List.mem_singleton.mp hy] at z;exact na x (List.mem_cons_of_mem _ hx) z
   ·intro b hb
    rcases List.mem_cons.mp hb with rfl|hb
    ·exact⟨a0,aF6⟩
    ·rcases List.mem_append.mp hb with hb|hb
     ·exact⟨(fr b (List.mem_cons_of_mem _ hb)).1,w3 b (List.mem_cons_of_mem _ hb)⟩
     ·rw[List.mem_singleton.mp hb]
      exact⟨(w1.fresh0 ha).1,aF6'⟩
   ·intro t a' c' e1 e2
    by_cases ht:t < as.length
    ·rw[List.getElem?_append_left ht] at e1
     rw[List.getElem?_append_left (by rw[<- len];exact ht)] at e2
     have hm':=List.mem_of_getElem? e1;have:a'≠acc:=λz=>(List.nodup_cons.mp nd).1 (by rw[<- z];exact hm')
     rw[ao this,ao (na a' (List.mem_cons_of_mem _ hm'))];exact s35 _ _ (pots t a' c' e1 e2)
    ·have h1:=(List.getElem?_eq_some_iff.mp e1).1
     rw[List.length_append,List.length_singleton] at h1;have h2:t=as.length:=by omega
     subst h2;rw[List.getElem?_append_right (Nat.le_refl _),Nat.sub_self] at e1;rw[List.getElem?_append_right (by rw[len];exact Nat.le_refl _),len,Nat.sub_self] at e2
     cases e1;cases e2;rw[ao nacc,aH]
   ·have:b≠a:=λz=>by rw[z,aF6'] at e;cases e
    rw[ao this];exact R6.fr b o e
  ·left
   have e:i=ms.length:=by omega
   refine⟨itr.2 (by rw[List.length_map];exact e),K acc as cs Hi ⟨same Ri,hacci,λb hb=>(fr b hb).1,nd,len,pots⟩⟩
end
theorem FnD.pots {x:Str}{st:Stmt}{ps N:List Str}{f:Addr}{fd:FuncData}(d:FnD G x st ps f fd)(hK:G.K=KF.K)(Sc:FnScope N ps (af st))(hN:N.length=1)(hps:ps.length=1)(ht:EPots G k ⟨N,(af st).names,[],false,false,false,λ_ _=>False⟩ (ak st)):FnPots G (k+1) x:=by
 refine⟨f,fd,ps,?_,d.m,d.F.kp,d.b⟩;refine d.F.ok Sc (λvs H Q E h=>?_) (λcdv A outer s H vs Q E hr h=>?_)
 ·obtain⟨F,ns,s,r,_⟩:=h
  rw[r.length,hps];rfl
 ·obtain⟨F,ns,sm,r,hl,K⟩:=h
  refine⟨_,ht (jj km G.P G.w G.K G.mg G.base N x (af st) f cdv A outer s H E).nox ⟨H,F,[],[]⟩ ⟨rfl,rfl,rfl,hK,rfl,rfl,rfl,rfl,Sc.nd,λp hp=>absurd hp (by simp),λ_ _=>rfl,λ_=>rfl,Sc.kind,λ_ _ _=>rfl,λ_=>hr.hd,hr.dp,hr.un,λ_=>PassesOwn.never,λ_=>⟨rfl,rfl,rfl⟩,λ_ _ h=>h.elim,λh=>nomatch h⟩,F,ns,?_,rfl,⟨rfl,rfl⟩,hl,λp as cs H' P=>K p as cs H' P⟩
  have:=RS.start N.length sm r;rw[hN] at this;show RS _ F _ (vs.map some++List.replicate (N.length - vs.length) none) H;rw[hN];exact this
end Vc


namespace Vc
open PySem L2
variable [KF]
variable {G:GE}{k:Nat}{S:Stat}
theorem ix2_0 (a b:D)(Q:D->Prop):GO (.lst [a,b]) (.int 0) Q=Q a:=rfl
theorem ix2_1 (a b:D)(Q:D->Prop):GO (.lst [a,b]) (.int 1) Q=Q b:=rfl
theorem ixN2_0:ixN 2 0=some 0:=rfl
theorem ixN2_1:ixN 2 1=some 1:=rfl
theorem zY {n:Nat}(h:0 < n):ixN n (-1)=some (n - 1):=by unfold ixN;rw[if_neg (by omega),if_pos (by omega)];congr 1;omega
theorem nF {α:Type}{g:lj}{te:TD}{σc:Sd}{m:Nat}{Q:List D->List D->Prop}{xs0:List D}(gi:α->D)(P:D->Prop)(Rk:List D->Prop)(l:List α)
  (h:∀ a∈l,∀ xs,Rk xs->∀ (A:D->List D->Prop) (Z:Prop),Z->(∀ d ys,P d->Rk ys->A d ys)->g (gi a) (σc.set m (some (.own xs))) λσ1=>te σ1 λd σ3=>kr σc σ3/\Z/\jW m σ3 λys=>A d ys)
  (hl:l.length<=sizeLine) (h0:Rk xs0) (q:∀ ds ys,ds.length=l.length->(∀ d∈ds,P d)->Rk ys->Q ds ys):gD g bF te σc m (l.map gi) [] xs0 Q:=by
 have key:∀ (l2:List α) (acc xs:List D),(∀ a∈l2,a∈l)->acc.length+l2.length=l.length->(∀ d∈acc,P d)->Rk xs->gD g bF te σc m (l2.map gi) acc xs Q:=by
  intro l2
  induction l2 with
  | nil=>intro acc xs _ hlen hacc hr;exact q acc xs (by simpa using hlen) hacc hr
  | cons a l2 ih =>
   intro acc xs hm hlen hacc hr;have hlen':acc.length+(l2.length+1)=l.length:=by simpa using hlen
   show g (gi a) _ λσ1=>bF σ1 λb σ2=>_;exact h a (hm a (List.mem_cons_self ..)) xs hr (λd ys=>gD g bF te σc m (l2.map gi) (acc++[d]) ys Q) (acc.length < sizeLine) (by omega) λd ys hd hy =>
    ih _ ys (λx hx=>hm x (List.mem_cons_of_mem _ hx)) (by rw[List.length_append,List.length_singleton];omega) (λx hx=>by
     rcases List.mem_append.mp hx with hx|hx
     ·exact hacc x hx
     ·rw[List.mem_singleton.mp hx];exact hd) hy
 exact key l [] xs0 (λ_ h=>h) (by simp) (λd hd=>by cases hd) h0

end Vc


namespace Vc
open PySem L2
variable [KF]
section
variable {prog:Program}{w:World}{A:Around}{R:Result->Shared->Prop}
theorem ug (a:Value):argsOk "min" ⟨[a],[]⟩:=by unfold argsOk;kernel_rfl
theorem xG {E:Value->Shared->Prop}{s:Shared}{its:Array Value}{bt:Nat->Nat->Bool}(hh:A.handled=none)(hc:lx prog w A.in1 .Lt s.heap its bt){l:Addr}(hl:s.heap.IsList l its){Q:Value->Shared->Prop}
  (q0:its.size≠0)
  (q1:∀ v g tk,its[bu bt (its.size - 1)]?=some v->(∀ b o,s.heap.get? b=some o->g.get? b=some o)->Q v { s with heap:=g,toks:=tk }) :
  wpAny (model prog w) A (call (.builtin "min") [.ref l] []) Q E s:=by
 have nm:(toString "min"++toString ".loop":String)="min.loop":=by decide
 refine wpAny_call (codeAny_call_builtin F.plain_min F.entry_min ?_);have run:wpAny (model prog w) A.in1 (Builtin.«min» ⟨[.ref l],[]⟩) (λfin s'=>match fin with
   | .done f=>(match (Except.ok f:Result) with|.ok (.ret v)=>Q v s'|.ok _=>False|.error e=>E e s')
   | .again c'=>c'.quiet=true/\codeAny (model prog w) A c' (λr s'=>match r with|.ok (.ret v)=>Q v s'|.ok _=>False|.error e=>E e s') s') E s:=by
  show wpAny _ A.in1 (Builtin.Builtins.bindParams "min" ["key","default"] 0 ⟨[],[]⟩ >>= _) _ _ s;refine wpAny_bind (wpAny_of_eq (show Builtin.Builtins.bindParams "min" ["key","default"] 0 ⟨[],[]⟩=pure [none,none] from rfl) (wpAny_bind (wpAny_pure ?_)))
  refine wpAny_bind (wpAny_pyIter_list hl (wpAny_bind (wpAny_newObj_type ?_)));generalize hg1:s.heap.push { cls:=.type "list_iterator",data:=.fields #[.ref l,.int 0 0] }=g1;have n1:g1.objs.size=s.heap.objs.size+1:=by rw[<- hg1];exact Heap.size_push ..
  have I0:(g1.push { cls:=.type "list",dict:=none,data:=.seq ([]:List Value).toArray }).IsListIter s.heap.objs.size l 0:=⟨_,Heap.get?_push_of_some _ (by rw[<- hg1];exact Heap.get?_push_size _ rfl),rfl,rfl⟩
  have S0:=Heap.get?_push_size g1 (o:={ cls:=.type "list",dict:=none,data:=.seq ([]:List Value).toArray }) rfl;have k0:∀ b o,s.heap.get? b=some o->(g1.push { cls:=.type "list",dict:=none,data:=.seq ([]:List Value).toArray }).get? b=some o:=λb o e=>Heap.get?_push_of_some _ (by rw[<- hg1];exact Heap.get?_push_of_some _ e)
  have fr:∀ a,s.heap.objs.size<=a->s.heap.get? a=none:=λa ha=>by
   cases e:s.heap.get? a with
   | none=>rfl
   | some o=>exact absurd (Heap.lt_size e) (Nat.not_lt.mpr ha)
  have nI:s.heap.get? s.heap.objs.size=none:=fr _ (Nat.le_refl _);have nS:s.heap.get? g1.objs.size=none:=fr _ (by rw[n1];exact Nat.le_succ _)
  have IS:s.heap.objs.size≠g1.objs.size:=by rw[n1];exact Nat.ne_of_lt (Nat.lt_succ_self _)
  rw[nm];refine wpAny_pure ⟨plainId_quiet F.plain_min_loop _,?_⟩;generalize hg2:g1.push { cls:=.type "list",dict:=none,data:=.seq ([]:List Value).toArray }=g2 at I0 S0 k0;have hl2:g2.IsList l its:=by obtain⟨o,e,r⟩:=hl;exact⟨o,k0 _ _ e,r⟩
  refine codeAny_builtin F.entry_min_loop ?_;rw[Around.under_plainId F.plain_min_loop _];show wpAny _ A.in1 (seqItems? (.ref g1.objs.size) >>= _) _ _ _;refine wpAny_bind (wpAny_seqItems (s:={ s with heap:=g2 }) S0 rfl ?_)
  show wpAny _ A.in1 (tryCatch (pyNext (.ref s.heap.objs.size)) _ >>= _) _ _ _;have hz:=q0
  ·have hx:its[0]?=some its[0]:=by simp [Nat.pos_of_ne_zero hz]
   refine wpAny_bind (wpAny_tryCatch (wpAny_pyNext_list_item I0 hl2 hx λg I1 x1=>?_));have S1:=x1.extBut _ _ IS.symm S0;have k1:∀ b o,s.heap.get? b=some o->g.get? b=some o:=λb o e=>x1.extBut b o (λz=>by rw[z,nI] at e;cases e) (k0 b o e)
   show wpAny _ A.in1 (updateSeq g1.objs.size (λ_=>#[its[0],its[0]]) >>= _) _ _ _;refine wpAny_bind (wpAny_updateSeq (s:={ s with heap:=g }) S1 rfl ?_)
   rw[nm];refine wpAny_pure ⟨plainId_quiet F.plain_min_loop _,zk hh hc hl IS nI nS _ _ 0 _ its[0] _ rfl (Nat.pos_of_ne_zero hz) ?_ hx (Heap.get?_update_self _ S1 rfl) (λb o e=>(Heap.get?_update_other _ _ (λz=>by rw[<- z,nS] at e;cases e)).trans (k1 b o e)) λv g' tk hv k'=>q1 v g' tk hv k'⟩
   obtain⟨o,e,r⟩:=I1;exact⟨o,(Heap.get?_update_other _ _ (Ne.symm IS)).trans e,r⟩
 simp only[checkBuiltinCall,F.kind_min];cases hsig:Manifest.signature? "min" with
 | none=>exact wpAny_pure run
 | some sig =>
  have ha:argsOk "min" ⟨[.ref l],[]⟩:=ug _;have ha':Bind.checkArgs "min" sig ⟨[.ref l],[]⟩=pure ():=by simpa only[argsOk,hsig] using ha
  simp only[ha'];exact wpAny_pure run
theorem LR {h0:Heap}{its:Array Value}{bt:Nat->Nat->Bool}(hh:A.handled=none)(hc:lx prog w A.in1 .Gt h0 its bt){I l S:Addr}(hl0:h0.IsList l its)(IS:I≠S)(n0:h0.get? I=none)(n1:h0.get? S=none)(kw:List (Str×Value)) :
  ∀ (d j:Nat) (s:Shared) (v:Value) (c:Nat),its.size - (j+1)=d->j+1<=its.size->s.heap.IsListIter I l (j+1)->its[bu bt j]?=some v->s.heap.get? S=some { cls:=.type "list",dict:=none,data:=.seq #[v,v] c,slots:=#[] } ->
  (∀ b o,h0.get? b=some o->s.heap.get? b=some o) ->
  (∀ v g tk,its[bu bt (its.size - 1)]?=some v->(∀ b o,h0.get? b=some o->g.get? b=some o)->R (.ok (.ret v)) { s with heap:=g,toks:=tk }) ->
  codeAny (model prog w) A (.builtin "max.loop" ⟨[.ref I,.none,.ref S],kw⟩) R s:=by
 have nm:(toString "max"++toString ".loop":String)="max.loop":=by decide
 have lI:l≠I:=λz=>by obtain⟨o,e,_⟩:=hl0;rw[z,n0] at e;cases e
 have lS:l≠S:=λz=>by obtain⟨o,e,_⟩:=hl0;rw[z,n1] at e;cases e
 have nI:∀ {b o},h0.get? b=some o->b≠I:=λe z=>by rw[z,n0] at e;cases e
 have nS:∀ {b o},h0.get? b=some o->b≠S:=λe z=>by rw[z,n1] at e;cases e
 intro d
 induction d with
 | zero =>
  intro j s v c hd hj hI hv hS k0 hR;have e1:j+1=its.size:=by omega
  have hl:s.heap.IsList l its:=by obtain⟨o,e,r⟩:=hl0;exact⟨o,k0 _ _ e,r⟩
  refine codeAny_builtin F.entry_max_loop ?_;rw[Around.under_plainId F.plain_max_loop _];show wpAny _ A.in1 (seqItems? (.ref S) >>= _) _ _ s;refine wpAny_bind (wpAny_seqItems hS rfl ?_);show wpAny _ A.in1 (tryCatch (pyNext (.ref I)) _ >>= _) _ _ s;refine wpAny_bind (wpAny_tryCatch (wpAny_pyNext_list_end (show A.in1.handled=none from hh) hI hl (by simp;omega) λg x1=>?_))
  have S1:=x1 S _ IS.symm hS;show wpAny _ A.in1 (updateSeq S (λ_=>#[]) >>= _) _ _ _;refine wpAny_bind (wpAny_updateSeq (s:={ s with heap:=g }) S1 rfl (wpAny_bind (wpAny_letGo (wpAny_pure ?_))))
  have e2:its.size - 1=j:=by omega
  refine hR v _ s.toks (by rw[e2];exact hv) λb o e=>?_
  exact (Heap.get?_update_other _ _ (Ne.symm (nS e))).trans (x1 b o (nI e) (k0 b o e))
 | succ d ih =>
  intro j s v c hd hj hI hv hS k0 hR;have hlt:j+1 < its.size:=by omega
  have hl:s.heap.IsList l its:=by obtain⟨o,e,r⟩:=hl0;exact⟨o,k0 _ _ e,r⟩
  refine codeAny_builtin F.entry_max_loop ?_;rw[Around.under_plainId F.plain_max_loop _];show wpAny _ A.in1 (seqItems? (.ref S) >>= _) _ _ s;refine wpAny_bind (wpAny_seqItems hS rfl ?_);show wpAny _ A.in1 (tryCatch (pyNext (.ref I)) _ >>= _) _ _ s;have hx:its[j+1]?=some its[j+1]:=by simp [hlt]
  refine wpAny_bind (wpAny_tryCatch (wpAny_pyNext_list_item hI hl hx λg I1 x1=>?_));have S1:=x1.extBut S _ IS.symm hS;have k1:∀ b o,h0.get? b=some o->g.get? b=some o:=λb o e=>x1.extBut b o (nI e) (k0 b o e);show wpAny _ A.in1 (tryCatch (holding [its[j+1],its[j+1]] (richCompare .Gt its[j+1] v >>= _)) _ >>= _) _ _ _;refine wpAny_bind (wpAny_tryCatch (wpAny_holding (wpAny_bind (hc (j+1) (bu bt j) _ v { s with heap:=g } _ _ hx hv k1 ?_))))
  refine wpAny_bind (wpAny_holding (wpAny_truthy_bool (wpAny_bind (wpAny_letGo (wpAny_pure ?_)))));cases hb:bt (j+1) (bu bt j) with
  | true =>
   simp only[if_true];refine wpAny_bind (wpAny_updateSeq (s:={ s with heap:=g }) S1 rfl (wpAny_bind (wpAny_letGo ?_)))
   rw[nm];refine wpAny_pure ⟨plainId_quiet F.plain_max_loop _,ih (j+1) _ its[j+1] _ (by omega) hlt ?_ (by simp only[bu,hb,if_true];exact hx) (Heap.get?_update_self _ S1 rfl) (λb o e=>(Heap.get?_update_other _ _ (Ne.symm (nS e))).trans (k1 b o e)) λv' g' tk hv' k'=>?_⟩
   ·obtain⟨o,e,r⟩:=I1;exact⟨o,(Heap.get?_update_other _ _ (Ne.symm IS)).trans e,r⟩
   ·exact hR v' g' tk hv' k'
  | false =>
   simp only[Bool.false_eq_true,if_false];refine wpAny_bind (wpAny_letGo ?_);rw[nm];refine wpAny_pure ⟨plainId_quiet F.plain_max_loop _,ih (j+1) _ v c (by omega) hlt I1 (by simp only[bu,hb,Bool.false_eq_true,if_false];exact hv) S1 k1 λv' g' tk hv' k'=>?_⟩
   exact hR v' g' tk hv' k'
theorem uh (a:Value):argsOk "max" ⟨[a],[]⟩:=by unfold argsOk;kernel_rfl
theorem xH {E:Value->Shared->Prop}{s:Shared}{its:Array Value}{bt:Nat->Nat->Bool}(hh:A.handled=none)(hc:lx prog w A.in1 .Gt s.heap its bt){l:Addr}(hl:s.heap.IsList l its){Q:Value->Shared->Prop}
  (q0:its.size≠0)
  (q1:∀ v g tk,its[bu bt (its.size - 1)]?=some v->(∀ b o,s.heap.get? b=some o->g.get? b=some o)->Q v { s with heap:=g,toks:=tk }) :
  wpAny (model prog w) A (call (.builtin "max") [.ref l] []) Q E s:=by
 have nm:(toString "max"++toString ".loop":String)="max.loop":=by decide
 refine wpAny_call (codeAny_call_builtin F.plain_max F.entry_max ?_);have run:wpAny (model prog w) A.in1 (Builtin.«max» ⟨[.ref l],[]⟩) (λfin s'=>match fin with
   | .done f=>(match (Except.ok f:Result) with|.ok (.ret v)=>Q v s'|.ok _=>False|.error e=>E e s')
   | .again c'=>c'.quiet=true/\codeAny (model prog w) A c' (λr s'=>match r with|.ok (.ret v)=>Q v s'|.ok _=>False|.error e=>E e s') s') E s:=by
  show wpAny _ A.in1 (Builtin.Builtins.bindParams "max" ["key","default"] 0 ⟨[],[]⟩ >>= _) _ _ s;refine wpAny_bind (wpAny_of_eq (show Builtin.Builtins.bindParams "max" ["key","default"] 0 ⟨[],[]⟩=pure [none,none] from rfl) (wpAny_bind (wpAny_pure ?_)))
  refine wpAny_bind (wpAny_pyIter_list hl (wpAny_bind (wpAny_newObj_type ?_)));generalize hg1:s.heap.push { cls:=.type "list_iterator",data:=.fields #[.ref l,.int 0 0] }=g1;have n1:g1.objs.size=s.heap.objs.size+1:=by rw[<- hg1];exact Heap.size_push ..
  have I0:(g1.push { cls:=.type "list",dict:=none,data:=.seq ([]:List Value).toArray }).IsListIter s.heap.objs.size l 0:=⟨_,Heap.get?_push_of_some _ (by rw[<- hg1];exact Heap.get?_push_size _ rfl),rfl,rfl⟩
  have S0:=Heap.get?_push_size g1 (o:={ cls:=.type "list",dict:=none,data:=.seq ([]:List Value).toArray }) rfl;have k0:∀ b o,s.heap.get? b=some o->(g1.push { cls:=.type "list",dict:=none,data:=.seq ([]:List Value).toArray }).get? b=some o:=λb o e=>Heap.get?_push_of_some _ (by rw[<- hg1];exact Heap.get?_push_of_some _ e)
  have fr:∀ a,s.heap.objs.size<=a->s.heap.get? a=none:=λa ha=>by
   cases e:s.heap.get? a with
   | none=>rfl
   | some o=>exact absurd (Heap.lt_size e) (Nat.not_lt.mpr ha)
  have nI:s.heap.get? s.heap.objs.size=none:=fr _ (Nat.le_refl _);have nS:s.heap.get? g1.objs.size=none:=fr _ (by rw[n1];exact Nat.le_succ _)
  have IS:s.heap.objs.size≠g1.objs.size:=by rw[n1];exact Nat.ne_of_lt (Nat.lt_succ_self _)
  rw[nm];refine wpAny_pure ⟨plainId_quiet F.plain_max_loop _,?_⟩;generalize hg2:g1.push { cls:=.type "list",dict:=none,data:=.seq ([]:List Value).toArray }=g2 at I0 S0 k0;have hl2:g2.IsList l its:=by obtain⟨o,e,r⟩:=hl;exact⟨o,k0 _ _ e,r⟩
  refine codeAny_builtin F.entry_max_loop ?_;rw[Around.under_plainId F.plain_max_loop _];show wpAny _ A.in1 (seqItems? (.ref g1.objs.size) >>= _) _ _ _;refine wpAny_bind (wpAny_seqItems (s:={ s with heap:=g2 }) S0 rfl ?_)
  show wpAny _ A.in1 (tryCatch (pyNext (.ref s.heap.objs.size)) _ >>= _) _ _ _;have hz:=q0
  ·have hx:its[0]?=some its[0]:=by simp [Nat.pos_of_ne_zero hz]
   refine wpAny_bind (wpAny_tryCatch (wpAny_pyNext_list_item I0 hl2 hx λg I1 x1=>?_));have S1:=x1.extBut _ _ IS.symm S0;have k1:∀ b o,s.heap.get? b=some o->g.get? b=some o:=λb o e=>x1.extBut b o (λz=>by rw[z,nI] at e;cases e) (k0 b o e)
   show wpAny _ A.in1 (updateSeq g1.objs.size (λ_=>#[its[0],its[0]]) >>= _) _ _ _;refine wpAny_bind (wpAny_updateSeq (s:={ s with heap:=g }) S1 rfl ?_)
   rw[nm];refine wpAny_pure ⟨plainId_quiet F.plain_max_loop _,LR hh hc hl IS nI nS _ _ 0 _ its[0] _ rfl (Nat.pos_of_ne_zero hz) ?_ hx (Heap.get?_update_self _ S1 rfl) (λb o e=>(Heap.get?_update_other _ _ (λz=>by rw[<- z,nS] at e;cases e)).trans (k1 b o e)) λv g' tk hv k'=>q1 v g' tk hv k'⟩
   obtain⟨o,e,r⟩:=I1;exact⟨o,(Heap.get?_update_other _ _ (Ne.symm IS)).trans e,r⟩
 simp only[checkBuiltinCall,F.kind_max];cases hsig:Manifest.signature? "max" with
 | none=>exact wpAny_pure run
 | some sig =>
  have ha:argsOk "max" ⟨[.ref l],[]⟩:=uh _;have ha':Bind.checkArgs "max" sig ⟨[.ref l],[]⟩=pure ():=by simpa only[argsOk,hsig] using ha
  simp only[ha'];exact wpAny_pure run
end
end Vc


namespace Vc
open PySem L2
variable [KF]
variable {G:GE}{k:Nat}{S:Stat}
def tIfE (c:TB)(ta tb:TV):TV:=λσ Q=>c σ λb σ1=>if b=true then ta σ1 Q else tb σ1 Q
theorem IO {c a b:Expr}{tc:TB}{ta tb:TV}{pos:Pos}(hc:EB G k S c tc)(ha:EO G k S a ta)(hb:EO G k S b tb):EO G k S (.IfExp c a b pos) (tIfE tc ta tb):=.mk λX Y ok=>br (ym (hc X Y ok) (ha X Y ok) (hb X Y ok)) λσ H Q q=>by
 obtain⟨F,σd,Qd,R,q,K⟩:=q;refine⟨F,σd,_,R,q,λb H1 F1 σ1 s1 R1 q1=>?_⟩;cases b with
 | true=>exact⟨F1,σ1,Qd,R1,q1,λv H' F' x σd' s'=>K v H' F' x σd' (s1.trans s')⟩
 | false=>exact⟨F1,σ1,Qd,R1,q1,λv H' F' x σd' s'=>K v H' F' x σd' (s1.trans s')⟩
def IP (K:PySem.W.Frag):List V->Hp->VK->Prop:=λxs H Q=>∃ F p us ds,xs=[.ref p]/\Same F H/\SqL K H p us/\RepL F us ds/\(ds.all isInt=true\/ds.all en=true)/\ds≠[]/\∀ v d,Rep F v d->dk ds=some d->Q v H
theorem xI {X:Cx}(hc:X.calm=true)(hu:X.A.in1.units < cLine):CallR X (.builtin "min") (IP X.K):=by
 intro pins s σ H xs us0 Q I rv0 h;obtain⟨F,p,us,ds,rfl,sm,hq,rl,hi,hne,q⟩:=h;obtain⟨u,rfl,ru⟩:=cV rv0;cases ru;obtain⟨its,rv,pl,_⟩:=I.list hq;have len:its.toArray.size=ds.length:=by rw[List.size_toArray,<- rv.length,rl.length]
 refine xG (I.ok.hd hc) (zn I sm hu rl rv hi) pl.isList (by rw[len];exact λz=>hne (List.length_eq_zero_iff.mp z)) λz g tk hz kp=>?_
 have hz':its[bu (ny ds) (ds.length - 1)]?=some z:=by rw[len] at hz;simpa using hz
 have hl:bu (ny ds) (ds.length - 1) < us.length:=by rw[rv.length];exact (List.getElem?_eq_some_iff.mp hz').1
 have ev:us[bu (ny ds) (ds.length - 1)]?=some us[bu (ny ds) (ds.length - 1)]:=List.getElem?_eq_getElem hl;obtain⟨dd,e1,e2⟩:=rl.get' ev;obtain⟨zz,e3,e4⟩:=rv.get ev;rw[hz'] at e3;cases e3;have eb:dk ds=some dd:=by rw[vh hne,List.getD_eq_getElem?_getD,e1];rfl
 exact⟨_,H,I.kept kp,e4,q _ dd e2 eb⟩
def rO:List D->(EV->Prop)->Prop
 | [.lst xs],Q=>((xs.all isInt=true\/xs.all en=true)/\xs≠[])/\Q (.val ((dk xs).getD .non))
 | _,_=>False
theorem LS {X:Cx}{Y:Dyn}(ok:XOk X G k S Y):X.A.in1.units < cLine:=by
 have:=ok.units;show X.A.units+1 < cLine;omega
theorem zZ (hh:S.hot=false:=by rfl):xu G k S (.builtin "min") rO:=⟨IP,λX Y ok=>xI (ok.calm hh) (LS ok),λY F H σd σ vs ds Qd Q R r q g=>by
 unfold rO at q
 split at q
 ·obtain⟨v,rfl,rv⟩:=r.one
  obtain⟨a,us,rfl,h1,h2⟩:=rv.lst;refine⟨F,a,us,_,rfl,R.fr,.inl h1,h2,q.1.1,q.1.2,λv d rd e=>?_⟩;have q2:=q.2;rw[e] at q2;exact g.val R rd q2
 ·exact q.elim⟩
def rP:List D->Option D
 | []=>none
 | x::xs=>some (xs.foldl (λb y=>if mQ b y=true then y else b) x)
def tI (xs:List D)(i j:Nat):Bool:=mQ (xs.getD j .non) (xs.getD i .non)
theorem nG (xs:List D)(x:D):∀ n,n < (x::xs).length->(x::xs).getD (bu (tI (x::xs)) n) .non=(xs.take n).foldl (λb y=>if mQ b y=true then y else b) x
 | 0,_=>rfl
 | n+1,h=>by
  have ih:=nG xs x n (by simp at h ⊢;omega)
  have hl:n < xs.length:=by simpa using h
  have gx:(x::xs).getD (n+1) .non=xs[n]:=by
   rw[List.getD_eq_getElem?_getD,List.getElem?_cons_succ,List.getElem?_eq_getElem hl];rfl
  rw[List.take_add_one,List.getElem?_eq_getElem hl,Option.toList_some,List.foldl_append,List.foldl_cons,List.foldl_nil,<- ih];have e:tI (x::xs) (n+1) (bu (tI (x::xs)) n)=mQ ((x::xs).getD (bu (tI (x::xs)) n) .non) xs[n]:=by
   unfold tI;rw[gx]
  show (x::xs).getD (if tI (x::xs) (n+1) (bu (tI (x::xs)) n)=true then n+1 else bu (tI (x::xs)) n) .non=_
  rw[e]
  split
  ·exact gx
  ·rfl
theorem HE {xs:List D}(h:xs≠[]):rP xs=some (xs.getD (bu (tI xs) (xs.length - 1)) .non):=by
 cases xs with
 | nil=>exact absurd rfl h
 | cons x xs =>
  have:=nG xs x xs.length (by simp)
  have e:(x::xs).length - 1=xs.length:=by simp
  rw[e,this,List.take_length];rfl
theorem HF {X:Cx}{pins:List (Addr×Obj)}{σ:St}{H F:Hp}{s:Shared}(I:L2.Inv X pins σ H s){vs:List V}{xs:List D}{its:List Value}(rl:RepL F vs xs)(rv:Vals vs its)(hc:xs.all isInt=true) :
  lx X.prog X.w X.A.in1 .Gt s.heap its.toArray (tI xs):=by
 intro i j x y s' Q E ex ey kp q;have ex':its[i]?=some x:=by simpa using ex
 have ey':its[j]?=some y:=by simpa using ey
 have back:∀ {n z},its[n]?=some z->∃ v d,vs[n]?=some v/\xs[n]?=some d/\RelV v z/\Rep F v d:=λ{n z} e=>by
  have hl:n < vs.length:=by rw[rv.length];exact (List.getElem?_eq_some_iff.mp e).1
  have ev:vs[n]?=some vs[n]:=List.getElem?_eq_getElem hl;obtain⟨d,e1,e2⟩:=rl.get' ev;obtain⟨u,e3,e4⟩:=rv.get ev;rw[e] at e3;cases e3;exact⟨_,d,ev,e1,e4,e2⟩
 obtain⟨v,d,_,hd,r1,p1⟩:=back ex';obtain⟨u,e,_,he,r2,p2⟩:=back ey';have bt:tI xs i j=mQ e d:=by
  unfold tI;rw[List.getD_eq_getElem?_getD,List.getD_eq_getElem?_getD,hd,he];rfl
 rw[bt] at q;have h1:=List.all_eq_true.mp hc d (List.mem_of_getElem? hd);have h2:=List.all_eq_true.mp hc e (List.mem_of_getElem? he);show wpAny _ _ (compareOp .Gt x y) _ _ _;cases d with
 | int a =>
  cases e with
  | int b =>
   cases p1;cases p2;obtain⟨t,rfl⟩:=r1;obtain⟨t',rfl⟩:=r2;exact PyProof.Rows.gt_int q
  | _=>exact absurd h2 (by simp [isInt])
 | _=>exact absurd h1 (by simp [isInt])
def IQ (K:PySem.W.Frag):List V->Hp->VK->Prop:=λxs H Q=>∃ F p us ds,xs=[.ref p]/\Same F H/\SqL K H p us/\RepL F us ds/\ds.all isInt=true/\ds≠[]/\∀ v d,Rep F v d->rP ds=some d->Q v H
theorem xJ {X:Cx}(hc:X.calm=true):CallR X (.builtin "max") (IQ X.K):=by
 intro pins s σ H xs us0 Q I rv0 h;obtain⟨F,p,us,ds,rfl,sm,hq,rl,hi,hne,q⟩:=h;obtain⟨u,rfl,ru⟩:=cV rv0;cases ru;obtain⟨its,rv,pl,_⟩:=I.list hq;have len:its.toArray.size=ds.length:=by rw[List.size_toArray,<- rv.length,rl.length]
 refine xH (I.ok.hd hc) (HF I rl rv hi) pl.isList (by rw[len];exact λz=>hne (List.length_eq_zero_iff.mp z)) λz g tk hz kp=>?_
 have hz':its[bu (tI ds) (ds.length - 1)]?=some z:=by rw[len] at hz;simpa using hz
 have hl:bu (tI ds) (ds.length - 1) < us.length:=by rw[rv.length];exact (List.getElem?_eq_some_iff.mp hz').1
 have ev:us[bu (tI ds) (ds.length - 1)]?=some us[bu (tI ds) (ds.length - 1)]:=List.getElem?_eq_getElem hl;obtain⟨dd,e1,e2⟩:=rl.get' ev;obtain⟨zz,e3,e4⟩:=rv.get ev;rw[hz'] at e3;cases e3;have eb:rP ds=some dd:=by rw[HE hne,List.getD_eq_getElem?_getD,e1];rfl
 exact⟨_,H,I.kept kp,e4,q _ dd e2 eb⟩
def vA:List D->(EV->Prop)->Prop
 | [.lst xs],Q=>(xs.all isInt=true/\xs≠[])/\Q (.val ((rP xs).getD .non))
 | _,_=>False
theorem LT (hh:S.hot=false:=by rfl):xu G k S (.builtin "max") vA:=⟨IQ,λX Y ok=>xJ (ok.calm hh),λY F H σd σ vs ds Qd Q R r q g=>by
 unfold vA at q
 split at q
 ·obtain⟨v,rfl,rv⟩:=r.one
  obtain⟨a,us,rfl,h1,h2⟩:=rv.lst;refine⟨F,a,us,_,rfl,R.fr,.inl h1,h2,q.1.1,q.1.2,λv d rd e=>?_⟩;have q2:=q.2;rw[e] at q2;exact g.val R rd q2
 ·exact q.elim⟩
end Vc


namespace Vc
open PySem L2
variable [KF]
variable {G:GE}{k:Nat}{S:Stat}
end Vc


namespace Vc
open PySem L2 PySem.Spec PyProof.Rows
theorem lU {α β:Type}{f g:α->Option β}:∀ {xs:List α},(∀ x∈xs,f x=g x)->xs.filterMap f=xs.filterMap g
 | [],_=>rfl
 | x::xs,h=>by
  rw[List.filterMap_cons,List.filterMap_cons,h x (List.mem_cons_self ..),lU λy hy=>h y (List.mem_cons_of_mem _ hy)]
theorem rQ {α:Type}(xs:List α):∀ m:Nat,m<=xs.length->(List.range m).filterMap (λk=>xs[xs.length - 1 - k]?)=xs.reverse.take m
 | 0,_=>by simp
 | m+1,h=>by
  rw[List.range_succ,List.filterMap_append,rQ xs m (by omega),List.take_add_one]
  congr 1;rw[List.getElem?_reverse (by omega)]
  cases h2:xs[xs.length - 1 - m]?<;>simp [h2]
theorem rR {α:Type}(xs:List α):(List.range xs.length).filterMap (λk=>xs[xs.length - 1 - k]?)=xs.reverse:=by
 rw[rQ xs xs.length (Nat.le_refl _)];exact List.take_of_length_le (by rw[List.length_reverse];exact Nat.le_refl _)
theorem mU (its:List Value):slicePick its.toArray none none (some (-1))=its.reverse.toArray:=by
 have hb:sliceBounds none none (some (-1)) its.toArray.size=((its.length:Int) - 1,-1,-1):=by rw[List.size_toArray];rfl
 unfold slicePick;rw[hb];show ((sliceRange ((its.length:Int) - 1) (-1) (-1)).filterMap (its.toArray[·]?)).toArray=_
 unfold sliceRange;dsimp only;rw[if_neg (show ¬ ((-1:Int) > 0) by decide)]
 have e:(if (its.length:Int) - 1 > -1 then ((its.length:Int) - 1 - -1 - -1 - 1) / (- -1) else 0).toNat=its.length:=by
  have:(- -1:Int)=1:=by decide
  rw[this,Int.ediv_one]
  split<;>omega
 rw[e,List.filterMap_map];congr 1;refine Eq.trans ?_ (rR its);refine lU λk hk=>?_;show its.toArray[((its.length:Int) - 1+-1*(k:Int)).toNat]?=its[its.length - 1 - k]?;rw[List.getElem?_toArray];congr 1;have:=List.mem_range.mp hk;omega
section
variable {prog:Program}{w:World}{A:Around}{E:Value->Shared->Prop}{s:Shared}
theorem jx {sl:Addr}{u:Tok}{n:Nat}{Q:Int×Int×Nat->Shared->Prop}(hs:s.heap.IsSliceOf sl .none .none (.int (-1) u))
  (h:Q ((n:Int) - 1,-1,n) s):wpAny (model prog w) A (Builtin.Slice.sliceApplied (.ref sl) (pure (n:Int))) Q E s:=by
 obtain⟨os,hos,hcs,hds⟩:=id hs;unfold Builtin.Slice.sliceApplied Builtin.Slice.sliceFields;refine wpAny_bind (wpAny_bind (wpAny_field hos hds (x:=.none) rfl (wpAny_bind (wpAny_field hos hds (x:=.none) rfl (wpAny_bind (wpAny_field hos hds (x:=.int (-1) u) rfl (wpAny_pure ?_)))))));refine wpAny_bind (slicePart_int ?_);show wpAny _ _ (if ((-1:Int)==0)=true then _ else _) _ _ s
 rw[if_neg (by decide)]
 refine wpAny_bind (slicePart_none (wpAny_bind (slicePart_none (wpAny_bind (wpAny_pure ?_)))));have e:Builtin.Slice.slicePlaces ((n:Int) - 1) (-1) (-1)=n:=by
  unfold Builtin.Slice.slicePlaces;rw[if_neg (by decide)]
  have:(- -1:Int)=1:=by decide
  rw[this,Int.ediv_one]
  split<;>omega
 show wpAny _ _ (pure ((n:Int) - 1,(-1:Int),Builtin.Slice.slicePlaces ((n:Int) - 1) (-1) (-1))) _ _ s;rw[e];exact wpAny_pure h
theorem xK (xs:Array Value):((List.range xs.size).filterMap λ(m:Nat)=>xs[((xs.size:Int) - 1+(m:Int)*(-1)).toNat]?).toArray=xs.toList.reverse.toArray:=by
 congr 1;refine Eq.trans ?_ (rR xs.toList);rw[Array.length_toList];refine lU λk hk=>?_;rw[Array.getElem?_toList];congr 1;have:=List.mem_range.mp hk;omega
theorem hW {t sl:Addr}{items:Array Value}{u:Tok}{Q:Value->Shared->Prop}(ht:IsTup s.heap t items)(hs:s.heap.IsSliceOf sl .none .none (.int (-1) u))
  (h:Q (.ref s.heap.objs.size) { s with heap:=s.heap.push { cls:=.type "tuple",data:=.seq items.toList.reverse.toArray } })
  (hsz:items.size<=sizeLine):wpAny (model prog w) A (getItem (.ref t) (.ref sl)) Q E s:=by
 have htake:sizeOk (.seq items.toList.reverse.toArray):=by
  show items.toList.reverse.toArray.size<=sizeLine;rw[List.size_toArray,List.length_reverse,Array.length_toList];omega
 obtain⟨os,hos,hcs,hds⟩:=id hs;have hTs:s.TypeIs (.ref sl) "slice":=⟨os,hos,hcs⟩;unfold getItem
 try with_reducible refine wpAny_holding ?_
 first|refine wpAny_bind (wpAny_pure ?_)|skip
 refine wpAny_bind (wpAny_sequenceKey ht.typeIs (by decide) ?_)
 refine wpAny_bind (wpAny_callSpecial?_slot (name:=Str.ofString "__getitem__") ht.typeIs PyProof.Rows.slot_tuple_getitem
  (wpAny_call_entry PyProof.Rows.slot_tuple_getitem ht.typeIs entry_tuple_getitem ?_ (args_tuple_getitem _ _)))
 show wpAny _ _ (Builtin.Tuple.tupleItemsOf (.ref t) >>= _) _ _ s;refine wpAny_bind (tupleItemsOf_ ht ?_);refine wpAny_bind (wpAny_typeOf hTs ?_);rw[if_pos (by decide)]
 refine wpAny_bind (jx hs ?_);have hno:¬ ((((items.size:Int) - 1)==0&&(-1:Int)==1&&items.size==items.size)=true):=by
  intro q;rw[Bool.and_eq_true,Bool.and_eq_true] at q;exact absurd q.1.2 (by decide)
 show wpAny _ _ (if (((items.size:Int) - 1)==0&&(-1:Int)==1&&items.size==items.size)=true then _ else _) _ _ s
 rw[if_neg hno,xK]
 first
  | exact wpAny_bind (m:=Builtin.Tuple.tupleExact _) (wpAny_newObj_type (wpAny_pure ⟨_,rfl,wpAny_pure h⟩) htake)
  | exact wpAny_bind (m:=Builtin.Tuple.tupleExact _) (wpAny_newObj_type (wpAny_bind (wpAny_pure (wpAny_pure ⟨_,rfl,wpAny_pure h⟩))) htake)
  | exact wpAny_bind (wpAny_bind (m:=Builtin.Tuple.tupleExact _) (wpAny_newObj_type (wpAny_pure (wpAny_pure ⟨_,rfl,wpAny_pure h⟩)) htake))
  | exact wpAny_bind (wpAny_bind (m:=Builtin.Tuple.tupleExact _) (wpAny_newObj_type (wpAny_pure ⟨_,rfl,wpAny_pure h⟩) htake))
end
section
variable {X:Cx}{e:Expr}{te:TE}{st:Expr}{ts:TO}{pos p2:Pos}
def SlS (X:Cx)(r:V->Hp->VK->Prop):Prop :=
 ∀ (pins:List (Addr×Obj)) (s:Shared) (σ:L2.St) (H:Hp) (x:V) (v:Value) (u:Tok) (sl:Addr) (Q:VK),Inv X pins σ H s->RelV x v->s.heap.IsSliceOf sl .none .none (.int (-1) u)->r x H Q ->
  ∃ T id,typeLookup (.type T) "__getitem__"=pure (some (.builtin id))/\s.TypeIs v T/\wpAny (model X.prog X.w) X.A (getItem v (.ref sl)) (EP X pins σ Q) X.xe s
theorem SlS.or {r r':V->Hp->VK->Prop}(h:SlS X r)(h':SlS X r'):SlS X (λx H Q=>r x H Q\/r' x H Q):=by
 intro pins s σ H x v u sl Q I rx hs q;rcases q with q|q
 ·exact h pins s σ H x v u sl Q I rx hs q
 ·exact h' pins s σ H x v u sl Q I rx hs q
def tSlR (r:V->Hp->VK->Prop)(te:TE)(ts:TO):TE:=λσ H Q=>te σ H λx H1=>ts σ H1 λl H2=>l=some (-1)/\r x H2 Q
theorem LU {r:V->Hp->VK->Prop}(hr:SlS X r)(he:PE X e te)(hs:PO X (some st) ts):PE X (.Subscript e (.Slice none none (some st) p2) pos) (tSlR r te ts):=by
 intro pins s σ H Q I h;refine Subscript_ (cr (he pins s σ H _ I h) λv s1 ⟨x,H1,I1,r1,q1⟩=>?_);refine wpAny_Slice ?_;rw[evalPart_none];refine wpAny_pure (wpAny_pure ?_);refine cr (hs pins s1 σ H1 _ I1 q1) λvs s3 ⟨l,H3,I3,pl,el,q3⟩=>?_;subst el;cases pl with
 | int _ u =>
 have I4:Inv X pins σ H3 { s3 with heap:=s3.heap.push { cls:=.type "slice",data:=.fields #[.none,.none,.int (-1) u] } }:=I3.kept (t':=s3.toks) λb ob q=>Heap.get?_push_of_some _ q
 obtain⟨T,id,hT,ht,hg⟩:=hr pins { s3 with heap:=s3.heap.push { cls:=.type "slice",data:=.fields #[.none,.none,.int (-1) u] } } σ H3 x v u s3.heap.objs.size Q I4 r1 (Heap.IsSliceOf.new ..) q3
 show wpAny (model X.prog X.w) X.A (subscriptTail e (.Slice none none (some st) p2) v (.ref s3.heap.objs.size)) (EP X pins σ Q) X.xe { s3 with heap:=s3.heap.push { cls:=.type "slice",data:=.fields #[.none,.none,.int (-1) u] } }
 exact tail_any (ops:=[v,.ref s3.heap.objs.size]) ht hT hg (by with_unfolding_all rfl)
theorem HG:SlS X (λx H Q=>∃ a xs,x=.ref a/\SqT X.K H a xs/\∀ p,H p=none->Q (.ref p) (bG H p (.tup xs.reverse))):=by
 intro pins s σ H x v u sl Q I rx hs h;obtain⟨a,xs,rfl,hx,q⟩:=h;cases rx;obtain⟨its,r,ht,hz⟩:=I.tuple hx;have hlen:its.toArray.size=xs.length:=by rw[List.size_toArray];exact r.length.symm
 refine⟨"tuple",_,PyProof.Rows.slot_tuple_getitem.lookup,ht.typeIs,?_⟩;refine hW ht hs ?_ (by rw[hlen];exact hz)
 refine⟨.ref s.heap.objs.size,_,I.laid (t':=s.toks) (o:=.tup xs.reverse) (λb ob q=>Heap.get?_push_of_some _ q) (Nat.le_refl _) ?_,rfl,q _ (I.hok.fresh (Nat.le_refl _))⟩;exact⟨by rw[List.length_reverse];exact hz,_,r.reverse,IsTup.new _ _⟩
theorem Aa:SlS X (λx H Q=>∃ a xs,x=.ref a/\SqL X.K H a xs/\∀ p,H p=none->Q (.ref p) (bG H p (.lst xs.reverse))):=by
 intro pins s σ H x v u sl Q I rx hs h;obtain⟨a,xs,rfl,hx,q⟩:=h;cases rx;obtain⟨its,r,ht,hz⟩:=I.list hx;have hlen:=r.length;refine⟨"list",_,slot_list_getitem.lookup,ht.isList.typeIs,?_⟩;refine wpAny_getItem_list_slice ht.isList hs .none .none (.int (-1) u) (by decide) ?_ (by rw[List.size_toArray]<;>omega)
 rw[mU];refine⟨.ref s.heap.objs.size,_,I.laid (t':=s.toks) (o:=.lst xs.reverse) (λb ob q=>Heap.get?_push_of_some _ q) (Nat.le_refl _) ?_,rfl,q _ (I.hok.fresh (Nat.le_refl _))⟩;exact⟨by rw[List.length_reverse];exact hz,_,0,r.reverse,Heap.get?_push_size _ rfl⟩
end
variable [KF]
variable {G:GE}{k:Nat}{S:Stat}
def LV:D->(EV->Prop)->Prop
 | .lst xs,Q=>Q (.own xs.reverse)
 | .scr ns,Q=>Q (.own (ns.map D.int).reverse)
 | .tup xs,Q=>Q (.val (.tup xs.reverse))
 | _,_=>False
def LW (t:TV)(ts:GQ):TX:=λσ Q=>t σ λx σ1=>ts σ1 λl σ2=>l=some (-1)/\match drf σ2 x with
 | some d=>LV d λr=>Q r σ2
 | none=>False
theorem VY {e:Expr}{st:Expr}{t:TV}{ts:GQ}{p2 pos:Pos}(h:EO G k S e t)(hl:EPt G k S (some st) ts):EX G k S (.Subscript e (.Slice none none (some st) p2) pos) (LW t ts):=.mk λX Y ok =>
 br (LU (SlS.or Aa HG) (h X Y ok) (hl X Y ok)) λσ H Q q=>by
  obtain⟨F,σd,Qd,R,q,K⟩:=q;refine⟨F,σd,_,R,q,λv1 H1 F1 x σ1 s1 R1 r1 q1=>?_⟩;refine⟨F1,σ1,_,R1,q1,λl H2 F2 σ2 s2 R2 q2=>?_⟩;refine⟨q2.1,?_⟩
  replace q2:=q2.2
  split at q2
  ·rename_i d e
   have rx:=R2.drf (r1.mono s2) e;have g:Goes Y F2 σ2 σ (λr=>Qd r σ2) Q:=λv H' F' r s R' rr qq=>K v H' F' r σ2 ((s1.trans s2).trans s) R' rr qq;unfold LV at q2
   split at q2
   ·obtain⟨p,vs,rfl,h1,r1⟩:=rx.lst
    exact .inl ⟨p,vs,rfl,.inl h1,g.own R2 r1.reverse q2⟩
   ·obtain⟨p,rfl,h1⟩:=rx.scr R2.fr
    exact .inl ⟨p,_,rfl,by rw[ok.kf];exact h1,g.own R2 (jo _).reverse q2⟩
   ·obtain⟨p,vs,rfl,h1,r1⟩:=rx.tup R2.fr
    exact .inr ⟨p,vs,rfl,.of h1,g.tup R2 r1.reverse q2⟩
   ·exact q2.elim
  ·exact q2.elim
end Vc


namespace Vc
open PySem L2 PySem.Spec PyProof.Rows PySem.SeqAt PySem.MeetsSeq PySem.MeetsSeq2 PySem.MeetsSeq3
section
variable {prog:Program}{w:World}{A:Around}{E:Value->Shared->Prop}{s:Shared}
end
section
variable {X:Cx}
end
variable [KF]
variable {G:GE}{k:Nat}{S:Stat}
end Vc


namespace Vc
open PySem L2
variable [KF]

structure Fly (h:Heap)(a T:Addr)(c:Str):Prop where
 ex:∃ o vs a0,h.get? a=some o/\o.cls=.ref (KF.cls c)/\o.data=.fields vs/\vs[0]?=some a0/\vs[1]?=some (.ref T)
 tb:∃ o ts,h.get? T=some o/\o.data=.fields ts/\ts[3]?=some .none
structure Moved (fs:List Addr)(a T:Addr)(h h':Heap)(T':Addr):Prop where
 keep:∀ b o,h.get? b=some o->b≠a->b≠T->b∉fs->h'.get? b=some o
 slot:∀ b o,h.get? b=some o->b∈fs->∃ sl,h'.get? b=some { o with slots:=sl }
 ne:T'≠a
 new:h.get? T'=none\/T'=T
section
variable {M:Model}{A:Around}{E:Value->Shared->Prop}{s:Shared}{base:Heap}{env:Env}{outer:List Env}{L a T:Addr}{c:Str}{Q:Unit->Shared->Prop}
end
theorem rS {P:Program}{w:World}{H:Hp}{h:Heap}{a:Addr}{o:HO}(x:ObjOk P w H h a o):∃ u,h.get? a=some u:=by
 cases o with
 | lst xs=>obtain⟨_,_,_,_,e⟩:=x;exact⟨_,e⟩
 | tup xs=>obtain⟨_,_,_,o,e,_⟩:=x;exact⟨_,e⟩
 | dK kvs=>obtain⟨_,_,_,_,o,_,_,e,_⟩:=x;exact⟨_,e⟩
 | dT kvs=>obtain⟨_,_,_,_,o,_,_,e,_⟩:=x;exact⟨_,e⟩
 | set S n=>obtain⟨o,_,_,_,e,_⟩:=x;exact⟨_,e⟩
 | ins C dx fs=>obtain⟨_,_,_,e,_⟩:=x;exact⟨_,e⟩
 | own y=>exact x
 | xd fs=>obtain⟨mA,⟨o,es,ep,e,_⟩,_⟩:=x;exact⟨_,e⟩
 | rng lo hi=>obtain⟨_,_,_,e⟩:=x;exact⟨_,e⟩
 | frz o u=>exact⟨_,x.1⟩
 | tbl ps=>exact⟨_,x⟩
 | lam ps pos qual=>obtain⟨_,e,_⟩:=x;exact⟨_,e⟩
 | met f y=>exact⟨_,x⟩
 | ext φ=>exact x.2.1
end Vc


namespace Vc
open PySem L2
variable [KF]
variable {G:GE}{k:Nat}{S:Stat}

end Vc


namespace Vc
open PySem L2
variable [KF]
variable {G:GE}{k:Nat}{S:Stat}

def bmV:List Value:=[.type "ValueError",.type "Exception",.type "BaseException",.type "object"]
def mroIn (K:PySem.W.Frag)(C:Addr):List Value:=match K.lookup C with
 | some ⟨_,_,.cls cd,_⟩=>cd.mro
 | _=>[]
structure ClsX (G:GE)(x:Str):Prop where
 mg:G.mg x=some (.ref (KF.cls x))
 exc:PySem.W.excIn G.K (KF.cls x) bmV "ValueError.__new__"=true
end Vc


namespace Vc
open PySem L2
variable [KF]
variable {G:GE}{k:Nat}{S:Stat}

structure XCls (G:GE)(L:List Str):Prop where
 cls:∀ c∈L,ClsX G c
 mro:∀ c∈L,mroIn G.K (KF.cls c)=.ref (KF.cls c)::((if c="NearError" then [] else [.ref (KF.cls "NearError")])++bmV)
 inj:∀ c∈L,∀ d∈L,KF.cls c=KF.cls d->c=d
 near:("NearError":Str)∈L
section
variable {M:Model}{A:Around}{E:Value->Shared->Prop}{h:Heap}{g:Array GenState}{d:Drawn}{t:Nat}{os:OsState}
end
end Vc


namespace Vc
open PySem L2
variable [KF]
variable {G:GE}{k:Nat}{S:Stat}

section
variable {X:Cx}{pins:List (Addr×Obj)}{σ:St}{H:Hp}{s:Shared}{a:Addr}{xe:Value->Shared->Prop}
end
end Vc


namespace Vc
open PySem L2
variable [KF]
variable {G:GE}{k:Nat}{S:Stat}

end Vc


namespace Vx
open PySem PySem.W PySem.Calls PySem.Spec PyProof.Rows Builtin Builtin.ObjectAttr Builtin.Getset_descriptor

def lookX (K:PySem.W.Frag)(C:Addr):Bool :=
 PySem.W.findIn K (.ref C) "__getattribute__"==some (some (.builtin "BaseException.__getattribute__"))&&PySem.W.findIn K (.ref C) "__getattr__"==some none&&PySem.W.findIn K (.ref C) "__class__"==some (some (.builtin "object.__class__")) &&
 PySem.W.mroIn K C (.type "object")==some true&&PySem.W.mroIn K C (.type "BaseException")==some true&&PySem.W.typeIn K (.ref C)==some (.type "type")
section
variable {prog:Program}{w:World}{A:Around}{E:Value->Shared->Prop}{h:Heap}{g:Array GenState}{d:Drawn}{t:Nat}{os:OsState}{K:PySem.W.Frag}{x C:Addr}{o:Obj}
end
end Vx


namespace Vc
open PySem L2
variable [KF]
variable {G:GE}{k:Nat}{S:Stat}

structure XClsI (G:GE)(L:List Str):Prop extends XCls G L where
 look:∀ c∈L,Vx.lookX G.K (KF.cls c)=true
end Vc


namespace Vc
open PySem L2
variable [KF]
variable {G:GE}{k:Nat}{S:Stat}

structure FnOkH (P:Program)(w:World)(K:PySem.W.Frag)(mg:Str->Option Value)(base:Heap)(k:Nat)(f:Addr)(fd:FuncData)(ps:List Str)(sp:Sp):Prop where
 len:∀ vs H Q E,sp vs H Q E->vs.length=ps.length
 run:∀ (A:Around) (outer:List Env) (s:Shared) (H:Hp) (args:Args) (us:List Value) (vs:List V) (Q:VK) (E:XK),A.depth+3*k+5 < recursionLimit->A.units+16*k+200 < cLine->Env0 P w K mg base A outer s H ->
  BindsTo s fd args (ps.zip us)->Vals vs us->sp vs H Q E->codeAny (model P w) A (.call (.ref f) args) (CR km outer P w H s Q E) s
end Vc


namespace Vx
open PySem PySem.Spec PySem.Calls PyProof.Rows Builtin
theorem noFillT:fillsNumberSlot (.type "tuple") "mul"=pure false :=
 PySem.fillsNumberSlot_seq (id:="tuple.__mul__") (r:=some (.builtin "tuple.__rmul__")) F.slot_tuple_mul.lookup (by decide +kernel) F.slot_tuple_rmul.lookup (by decide +kernel)
theorem repT:seqRepeat? (.type "tuple")=pure (some (.builtin "tuple.__mul__")):=by
 unfold seqRepeat?;rw[PySem.seqSlot_of (T:="tuple") (name:="__mul__") (id:="tuple.__mul__") F.slot_tuple_mul.lookup (by decide +kernel),
  PySem.seqSlot_of (T:="tuple") (name:="__rmul__") (id:="tuple.__rmul__") F.slot_tuple_rmul.lookup (by decide +kernel)]
 rfl
theorem rmulT (a:Int)(t:Tok)(l:Addr):Meets (Builtin.«int.__rmul__» ⟨[.int a t,.ref l],[]⟩) (λ_ R s=>(∃ o its n,s.heap.get? l=some o/\o.cls=.type "tuple"/\o.data=.seq its n)/\R (.ok (.ret Value.notImplemented)) s) :=
 .of_wp λprog w A R s h=>by
  obtain⟨hp,g,d,tk,os⟩:=s;obtain⟨⟨o,its,n,ho,hc,hd⟩,h⟩:=h;have hT:(⟨hp,g,d,tk,os⟩:Shared).TypeIs (.ref l) "tuple":=⟨o,ho,hc⟩
  repeat (any_goals (first|assumption | (with_reducible refine wpAny_load ho ?_;rw[hd])|wp_step))
  exact⟨_,rfl,h⟩
theorem mulT (k:Int)(t:Tok)(l:Addr)(its:List Value)(hne:its≠[])(h1:1<=k)(h2:k < 2^63)(hz:its.length*k.toNat<=sizeLine) :
  Meets (Builtin.«tuple.__mul__» ⟨[.ref l,.int k t],[]⟩) (λ_ R s=>IsTup s.heap l its.toArray/\(k=1->R (.ok (.ret (.ref l))) s)/\(k≠1->∀ h' p,h'=s.heap.push { cls:=.type "tuple",data:=.seq (List.replicate k.toNat its).flatten.toArray }->p=s.heap.objs.size->R (.ok (.ret (.ref p))) { s with heap:=h' })) :=
 .of_wp λprog w A R s h=>by
  obtain⟨hp,g,d,tk,os⟩:=s;obtain⟨⟨o,ho,hc,n,hd⟩,hq1,hq2⟩:=h;have hT:(⟨hp,g,d,tk,os⟩:Shared).TypeIs (.ref l) "tuple":=⟨o,ho,hc⟩
  repeat (any_goals (first|assumption | (with_reducible refine wpAny_load ho ?_;rw[hd])|wp_step))
  have c1:¬ ((decide (k < -2^63)||decide (k>=2^63))=true):=by simp;omega
  rw[if_neg c1];dsimp only;refine wpAny_bind ?_;unfold Tuple.tupleItemsOf
  repeat (any_goals (first|assumption | (with_reducible refine wpAny_load ho ?_;rw[hd])|wp_step))
  have hemp:its.toArray.isEmpty=false:=by cases its with|nil=>exact absurd rfl hne|cons x r=>rfl
  have hsz:(its.toArray.size:Int)*k<=(sizeLine:Nat):=by
   have e:((k.toNat:Nat):Int)=k:=by omega
   have z:((its.length*k.toNat:Nat):Int)<=(sizeLine:Nat):=by exact_mod_cast hz
   rw[Int.natCast_mul,e] at z;simpa using z
  by_cases hk:k=1
  ·rw[if_pos (by rw[hk];simp)]
   unfold Tuple.tupleIsExact
   repeat (any_goals (first|assumption|wp_step))
   exact⟨_,rfl,hq1 hk⟩
  ·rw[if_neg (by rw[hemp];simpa using hk),if_neg (by rw[hemp];simp;omega)]
   have hcap:¬ (its.toArray.size:Int)*k > (2^63 - 1) / 8:=by
    have:((sizeLine:Nat):Int)<=(2^63 - 1) / 8:=by decide
    omega
   have hmany:¬ Tuple.tupleTooMany ((its.toArray.size:Int)*k)=true:=by
    unfold Tuple.tupleTooMany;rw[decide_eq_true_eq];omega
   rw[if_neg hcap,if_neg hmany];have hf:List.foldl (λx1 x2=>x1++x2) #[] (List.replicate k.toNat its.toArray)=(List.replicate k.toNat its).flatten.toArray:=by
    have:=L2.foldl_rep its k.toNat [];rw[List.nil_append] at this;exact this
   rw[hf];unfold Tuple.tupleExact;refine wpAny_bind (wpAny_newObj_type ?_ ?_)
   ·exact wpAny_pure ⟨_,rfl,hq2 hk _ _ rfl rfl⟩
   ·show (List.replicate k.toNat its).flatten.toArray.size<=sizeLine
    rw[List.size_toArray,L2.len_rep,Nat.mul_comm];exact hz
end Vx
namespace Vc
open PySem L2
variable [KF]
variable {G:GE}{k:Nat}{S:Stat}
def Ab:R2:=λx y H Q=>∃ p k xs,x=.ref p/\y=.int k/\H p=some (.tup xs)/\xs≠[]/\1<=k/\k < 2^63/\xs.length*k.toNat<=sizeLine/\(k=1->Q (.ref p) H) /\
 (k≠1->∀ l,H l=none->Q (.ref l) (bG H l (.tup (List.replicate k.toNat xs).flatten)))
theorem HH {X:Cx}:OpR X (binaryOp .Mult) Ab:=by
 intro pins s σ H x y v u Q I rx ry h;obtain⟨p,k,xs,rfl,rfl,hH,hne,h1,h2,hz,q1,q2⟩:=h;cases rx;obtain⟨t,rfl⟩:=ry;obtain⟨z,its,r,ht⟩:=I.hok p _ hH;obtain⟨o,ho,hc,n,hd⟩:=id ht;have hl:=r.length;refine wpAny_binaryOp_repeat_ref (T:="tuple") (U:="int") (by decide) ⟨o,ho,hc⟩ (λs'=>typeIs_int s' k t) Vx.noFillT F.fills_int_mul F.slot_int_rmul Vx.repT F.slot_int_index.lookup
  (call_meets F.slot_int_rmul (typeIs_int s k t) F.entry_int_rmul (F.args_int_rmul_2 _ _) (Vx.rmulT k t p) ⟨⟨o,_,n,ho,hc,hd⟩,rfl,⟨o,ho,hc⟩,call_meets F.slot_tuple_mul ⟨o,ho,hc⟩ F.entry_tuple_mul (F.args_tuple_mul_2 _ _)
   (Vx.mulT k t p its (λe=>by subst e;cases xs with|nil=>exact hne rfl|cons a b=>cases r) h1 h2 (by rw[<- hl];exact hz)) ⟨ht,λe=>?_,λe h' l eh el=>?_⟩⟩)
 ·exact⟨.ref p,H,I,rfl,q1 e⟩
 ·subst eh el
  have hf:H s.heap.objs.size=none:=I.hok.fresh (Nat.le_refl _);refine⟨.ref s.heap.objs.size,bG H s.heap.objs.size (.tup (List.replicate k.toNat xs).flatten),I.laid (t':=s.toks) (λb u e=>Heap.get?_push_of_some _ e) (Nat.le_refl _) ?_,rfl,q2 e _ hf⟩;exact⟨by rw[len_rep,Nat.mul_comm];exact hz,_,r.rep k.toNat,⟨_,Heap.get?_push_size _ rfl,rfl,_,rfl⟩⟩
def nH:D->D->(EV->Prop)->Prop
 | .tup xs,.int j,Q=>(xs≠[]/\1<=j/\j < 2^63/\xs.length*j.toNat<=sizeLine)/\Q (.val (.tup (List.replicate j.toNat xs).flatten))
 | _,_,_=>False
theorem uk:eM Ab nH:=by
 intro Y F H σd σ v u x y Qd Q R rx ry q g;unfold nH at q
 split at q
 ·rename_i xs j
  obtain⟨⟨h1,h2,h3,h4⟩,q⟩:=q;have rx':=rx;obtain⟨a,vs,rfl,hv,r1⟩:=rx.tup R.fr;obtain rfl:=ry.int;refine⟨a,j,vs,rfl,rfl,hv,λe=>?_,h2,h3,by rw[r1.length];exact h4,λe=>?_,λ_=>g.tup R (r1.rep _) q⟩
  ·subst e;cases r1;exact h1 rfl
  ·subst e
   refine g.val R rx' ?_;have e:(List.replicate (1:Int).toNat xs).flatten=xs:=by simp
   rw[e] at q;exact q
 ·exact q.elim
theorem Ac {a b:Expr}{ta tb:TV}{pos:Pos}(ha:EO G k S a ta)(hb:EO G k S b tb):EX G k S (.BinOp a .Mult b pos) (aU nH ta tb):=kU (r:=λ_=>Ab) (λ_=>HH) (λ_=>uk) ha hb
end Vc
namespace Vc
end Vc


namespace Vc
open PySem L2
section
variable {X:Cx}
end
variable [KF]
variable {G:GE}{k:Nat}{S:Stat}
end Vc

set_option maxHeartbeats 0
namespace Vc
open PySem PySem.W
@[elab_as_elim] theorem len1 {α:Type} {P:List α->Prop} (h:∀ a,P [a]):∀ us:List α,us.length=1->P us
 | [a],_=>h a
@[elab_as_elim] theorem len2 {α:Type} {P:List α->Prop} (h:∀ a b,P [a,b]):∀ us:List α,us.length=2->P us
 | [a,b],_=>h a b
@[elab_as_elim] theorem len3 {α:Type} {P:List α->Prop} (h:∀ a b c,P [a,b,c]):∀ us:List α,us.length=3->P us
 | [a,b,c],_=>h a b c
@[elab_as_elim] theorem len4 {α:Type} {P:List α->Prop} (h:∀ a b c d,P [a,b,c,d]):∀ us:List α,us.length=4->P us
 | [a,b,c,d],_=>h a b c d
@[elab_as_elim] theorem len5 {α:Type} {P:List α->Prop} (h:∀ a b c d e,P [a,b,c,d,e]):∀ us:List α,us.length=5->P us
 | [a,b,c,d,e],_=>h a b c d e
theorem x_of_o {q:Program}{loose:List Str}{XP:(Str->Option Value)->Heap->Prop}{K:Params->Frag}{as:List Addr}{n t:Nat}{r:RowW}{d:DefRec}{kwd:List (Str×Expr)}{run:Value->List Value->Sem Value}
  (e:∀ P,as=(K P).map (·.1)) (h:WalkO q loose XP (λw h=>(K w.params).In h) r d kwd run):WalkX q loose XP (X.obsZ as) (X.valZ K n t) r d kwd run :=
 λw s₀ s₁ mg mb G y a o pm cd doc dV kV ho hd hcd hD hmg hg args vals as' L hpre hlay hrd hwl hlo =>
  h w s₀ s₁ mg mb G (InK.keeps w _ _ (X.z_facts e y).2.1 L.keeps) a o pm cd doc dV kV ho hd hcd hD hmg hg args vals as' hpre hlay hrd hwl hlo
end Vc


namespace Vc
open PySem L2
variable [KF]
variable {G:GE}{k:Nat}{S:Stat}
end Vc


namespace Vc
open PySem L2
variable [KF]
variable {G:GE}{k:Nat}{S:Stat}
end Vc


namespace Vc
open PySem L2
variable [KF]
variable {G:GE}{k:Nat}{S:Stat}
end Vc


namespace Vc
open PySem L2
variable [KF]
variable {G:GE}{k:Nat}{S:Stat}
end Vc


namespace Vc
open PySem L2
variable [KF]
variable {G:GE}{k:Nat}{S:Stat}
end Vc


namespace Vc
open PySem L2
variable [KF]
variable {G:GE}{k:Nat}{S:Stat}
end Vc

namespace Vx
open PySem PySem.Spec PyProof.Rows PySem.Builtin L2
end Vx
namespace Vc
open PySem L2
variable [KF]
variable {G:GE}{k:Nat}{S:Stat}
end Vc


namespace Vc
open PySem L2
variable [KF]
variable {G:GE}{k:Nat}{S:Stat}
end Vc


namespace Vc
open PySem PyProof.Rows
section
variable {prog:Program}{w:World}{A:Around}{R:Result->Shared->Prop}
def Kp (h g:Heap):Prop:=∀ b o,h.get? b=some o->g.get? b=some o
theorem Kp.trans {a b c:Heap}(x:Kp a b)(y:Kp b c):Kp a c:=λp o e=>y p o (x p o e)
def Ad (prog:Program)(w:World)(A:Around)(h0:Heap)(s0:Shared)(q:Value)(its:Array Value)(kf:Nat->Int):Prop :=
 ∀ (i:Nat) (v:Value) (h:Heap) (tk:Nat),its[i]?=some v->Kp h0 h->∀ (Q:Value->Shared->Prop) (E:Value->Shared->Prop),(∀ t g tk',Kp h g->Q (.int (kf i) t) { s0 with heap:=g,toks:=tk' }) ->
  wpAny (model prog w) A (call q [v]) Q E { s0 with heap:=h,toks:=tk }
def ci (kf:Nat->Int):Nat->Nat:=bu λi j=>decide (kf j < kf i)
theorem HJ {h0:Heap}{s0:Shared}{its:Array Value}{kf:Nat->Int}{q:Addr}(hh:A.handled=none)(hc:Ad prog w A.in1 h0 s0 (.ref q) its kf){I l S:Addr}(hl0:h0.IsList l its)(IS:I≠S)(n0:h0.get? I=none)(n1:h0.get? S=none)(kw:List (Str×Value))
  (hR:∀ v g tk,its[ci kf (its.size - 1)]?=some v->Kp h0 g->R (.ok (.ret v)) { s0 with heap:=g,toks:=tk }) :
  ∀ (d j:Nat) (h:Heap) (tk:Nat) (v:Value) (t:Tok) (c:Nat),its.size - (j+1)=d->j+1<=its.size->h.IsListIter I l (j+1)->its[ci kf j]?=some v->h.get? S=some { cls:=.type "list",dict:=none,data:=.seq #[v,.int (kf (ci kf j)) t] c,slots:=#[] } ->
  Kp h0 h->codeAny (model prog w) A (.builtin "max.loop" ⟨[.ref I,.ref q,.ref S],kw⟩) R { s0 with heap:=h,toks:=tk }:=by
 have nm:(toString "max"++toString ".loop":String)="max.loop":=by decide
 have lI:l≠I:=λz=>by obtain⟨o,e,_⟩:=hl0;rw[z,n0] at e;cases e
 have lS:l≠S:=λz=>by obtain⟨o,e,_⟩:=hl0;rw[z,n1] at e;cases e
 have nI:∀ {b o},h0.get? b=some o->b≠I:=λe z=>by rw[z,n0] at e;cases e
 have nS:∀ {b o},h0.get? b=some o->b≠S:=λe z=>by rw[z,n1] at e;cases e
 intro d
 induction d with
 | zero =>
  intro j h tk v t c hd hj hI hv hS k0;have e1:j+1=its.size:=by omega
  have hl:h.IsList l its:=by obtain⟨o,e,r⟩:=hl0;exact⟨o,k0 _ _ e,r⟩
  refine codeAny_builtin F.entry_max_loop ?_;rw[Around.under_plainId F.plain_max_loop _];show wpAny _ A.in1 (seqItems? (.ref S) >>= _) _ _ _;refine wpAny_bind (wpAny_seqItems (s:={ s0 with heap:=h,toks:=tk }) hS rfl ?_)
  show wpAny _ A.in1 (tryCatch (pyNext (.ref I)) _ >>= _) _ _ _;refine wpAny_bind (wpAny_tryCatch (wpAny_pyNext_list_end (s:={ s0 with heap:=h,toks:=tk }) (show A.in1.handled=none from hh) hI hl (by simp;omega) λg x1=>?_))
  have S1:=x1 S _ IS.symm hS;show wpAny _ A.in1 (updateSeq S (λ_=>#[]) >>= _) _ _ _;refine wpAny_bind (wpAny_updateSeq (s:={ s0 with heap:=g,toks:=tk }) S1 rfl (wpAny_bind (wpAny_letGo (wpAny_pure ?_))))
  have e2:its.size - 1=j:=by omega
  refine hR v _ tk (by rw[e2];exact hv) λb o e=>?_
  exact (Heap.get?_update_other _ _ (Ne.symm (nS e))).trans (x1 b o (nI e) (k0 b o e))
 | succ d ih =>
  intro j h tk v t c hd hj hI hv hS k0;have hlt:j+1 < its.size:=by omega
  have hl:h.IsList l its:=by obtain⟨o,e,r⟩:=hl0;exact⟨o,k0 _ _ e,r⟩
  refine codeAny_builtin F.entry_max_loop ?_;rw[Around.under_plainId F.plain_max_loop _];show wpAny _ A.in1 (seqItems? (.ref S) >>= _) _ _ _;refine wpAny_bind (wpAny_seqItems (s:={ s0 with heap:=h,toks:=tk }) hS rfl ?_)
  show wpAny _ A.in1 (tryCatch (pyNext (.ref I)) _ >>= _) _ _ _;have hx:its[j+1]?=some its[j+1]:=by simp [hlt]
  refine wpAny_bind (wpAny_tryCatch (wpAny_pyNext_list_item (s:={ s0 with heap:=h,toks:=tk }) hI hl hx λg I1 x1=>?_))
  have S1:=x1.extBut S _ IS.symm hS;have k1:Kp h0 g:=λb o e=>x1.extBut b o (nI e) (k0 b o e);show wpAny _ A.in1 (tryCatch (holding [its[j+1]] (call (.ref q) [its[j+1]])) _ >>= _) _ _ _;refine wpAny_bind (wpAny_tryCatch (wpAny_holding (hc (j+1) _ g tk hx k1 _ _ λt2 g2 tk2 k2=>?_)));have S2:=k2 S _ S1;have I2:g2.IsListIter I l (j+1+1):=by obtain⟨o,e,r⟩:=I1;exact⟨o,k2 _ _ e,r⟩
  show wpAny _ A.in1 (tryCatch (holding [its[j+1],.int (kf (j+1)) t2] (richCompare .Gt (.int (kf (j+1)) t2) (.int (kf (ci kf j)) t) >>= _)) _ >>= _) _ _ _;refine wpAny_bind (wpAny_tryCatch (wpAny_holding (wpAny_bind (CmpOf.ints_gt (prog:=prog) (w:=w) (A:=A.in1) (P:=λi v=>∃ t,v=.int (kf i) t) kf (λi v h=>h) (j+1) (ci kf j) _ _ _ _ _ ⟨t2,rfl⟩ ⟨t,rfl⟩ ?_))));refine wpAny_bind (wpAny_holding (wpAny_truthy_bool ?_));refine wpAny_bind (wpAny_letGo (wpAny_pure ?_))
  by_cases hb:kf (j+1) > kf (ci kf j)
  ·have eb:ci kf (j+1)=j+1:=by
    show (if decide (kf (ci kf j) < kf (j+1))=true then j+1 else ci kf j)=_
    rw[if_pos (decide_eq_true hb)]
   simp only[hb,decide_true,if_true];refine wpAny_bind (wpAny_updateSeq (s:={ s0 with heap:=g2,toks:=tk2 }) S2 rfl (wpAny_bind (wpAny_letGo ?_)))
   rw[nm];refine wpAny_pure ⟨plainId_quiet F.plain_max_loop _,ih (j+1) _ _ its[j+1] t2 _ (by omega) hlt ?_ (by rw[eb];exact hx) (by rw[eb];exact Heap.get?_update_self _ S2 rfl) (λb o e=>(Heap.get?_update_other _ _ (Ne.symm (nS e))).trans (k2 b o (k1 b o e)))⟩
   obtain⟨o,e,r⟩:=I2;exact⟨o,(Heap.get?_update_other _ _ (Ne.symm IS)).trans e,r⟩
  ·have eb:ci kf (j+1)=ci kf j:=by
    show (if decide (kf (ci kf j) < kf (j+1))=true then j+1 else ci kf j)=_
    rw[if_neg (by rw[decide_eq_false hb];decide)]
   simp only[hb,decide_false,Bool.false_eq_true,if_false];refine wpAny_bind (wpAny_letGo ?_);rw[nm];exact wpAny_pure ⟨plainId_quiet F.plain_max_loop _,ih (j+1) _ _ v t c (by omega) hlt I2 (by rw[eb];exact hv) (by rw[eb];exact S2) (k1.trans k2)⟩
theorem rT (a k v:Value):argsOk "max" ⟨[a],[(Str.ofString "key",k),(Str.ofString "default",v)]⟩:=by unfold argsOk;kernel_rfl
theorem HK {E:Value->Shared->Prop}{s:Shared}{its:Array Value}{kf:Nat->Int}{q:Addr}(hh:A.handled=none)(hc:Ad prog w A.in1 s.heap s (.ref q) its kf){l:Addr}(hl:s.heap.IsList l its){dv:Value}{Q:Value->Shared->Prop}
  (q0:its.size=0->∀ g tk,Kp s.heap g->Q dv { s with heap:=g,toks:=tk })
  (q1:∀ v g tk,its[ci kf (its.size - 1)]?=some v->Kp s.heap g->Q v { s with heap:=g,toks:=tk }) :
  wpAny (model prog w) A (call (.builtin "max") [.ref l] [(Str.ofString "key",.ref q),(Str.ofString "default",dv)]) Q E s:=by
 have nm:(toString "max"++toString ".loop":String)="max.loop":=by decide
 refine wpAny_call (codeAny_call_builtin F.plain_max F.entry_max ?_);have run:wpAny (model prog w) A.in1 (Builtin.«max» ⟨[.ref l],[(Str.ofString "key",.ref q),(Str.ofString "default",dv)]⟩) (λfin s'=>match fin with
   | .done f=>(match (Except.ok f:Result) with|.ok (.ret v)=>Q v s'|.ok _=>False|.error e=>E e s')
   | .again c'=>c'.quiet=true/\codeAny (model prog w) A c' (λr s'=>match r with|.ok (.ret v)=>Q v s'|.ok _=>False|.error e=>E e s') s') E s:=by
  show wpAny _ A.in1 (Builtin.Builtins.bindParams "max" ["key","default"] 0 ⟨[],[(Str.ofString "key",.ref q),(Str.ofString "default",dv)]⟩ >>= _) _ _ s;refine wpAny_bind (wpAny_of_eq (show Builtin.Builtins.bindParams "max" ["key","default"] 0 ⟨[],[(Str.ofString "key",.ref q),(Str.ofString "default",dv)]⟩=pure [some (.ref q),some dv] from rfl) (wpAny_bind (wpAny_pure ?_)))
  refine wpAny_bind (wpAny_pyIter_list hl (wpAny_bind (wpAny_newObj_type ?_)));generalize hg1:s.heap.push { cls:=.type "list_iterator",data:=.fields #[.ref l,.int 0 0] }=g1;have n1:g1.objs.size=s.heap.objs.size+1:=by rw[<- hg1];exact Heap.size_push ..
  have I0:(g1.push { cls:=.type "list",dict:=none,data:=.seq ([]:List Value).toArray }).IsListIter s.heap.objs.size l 0:=⟨_,Heap.get?_push_of_some _ (by rw[<- hg1];exact Heap.get?_push_size _ rfl),rfl,rfl⟩
  have S0:=Heap.get?_push_size g1 (o:={ cls:=.type "list",dict:=none,data:=.seq ([]:List Value).toArray }) rfl;have k0:∀ b o,s.heap.get? b=some o->(g1.push { cls:=.type "list",dict:=none,data:=.seq ([]:List Value).toArray }).get? b=some o:=λb o e=>Heap.get?_push_of_some _ (by rw[<- hg1];exact Heap.get?_push_of_some _ e)
  have fr:∀ a,s.heap.objs.size<=a->s.heap.get? a=none:=λa ha=>by
   cases e:s.heap.get? a with
   | none=>rfl
   | some o=>exact absurd (Heap.lt_size e) (Nat.not_lt.mpr ha)
  have nI:s.heap.get? s.heap.objs.size=none:=fr _ (Nat.le_refl _);have nS:s.heap.get? g1.objs.size=none:=fr _ (by rw[n1];exact Nat.le_succ _)
  have IS:s.heap.objs.size≠g1.objs.size:=by rw[n1];exact Nat.ne_of_lt (Nat.lt_succ_self _)
  rw[nm];refine wpAny_pure ⟨plainId_quiet F.plain_max_loop _,?_⟩;generalize hg2:g1.push { cls:=.type "list",dict:=none,data:=.seq ([]:List Value).toArray }=g2 at I0 S0 k0;have hl2:g2.IsList l its:=by obtain⟨o,e,r⟩:=hl;exact⟨o,k0 _ _ e,r⟩
  refine codeAny_builtin F.entry_max_loop ?_;rw[Around.under_plainId F.plain_max_loop _];show wpAny _ A.in1 (seqItems? (.ref g1.objs.size) >>= _) _ _ _;refine wpAny_bind (wpAny_seqItems (s:={ s with heap:=g2 }) S0 rfl ?_)
  show wpAny _ A.in1 (tryCatch (pyNext (.ref s.heap.objs.size)) _ >>= _) _ _ _
  by_cases hz:its.size=0
  ·refine wpAny_bind (wpAny_tryCatch (wpAny_pyNext_list_end (show A.in1.handled=none from hh) I0 hl2 (by simp [hz]) λg x1=>?_))
   refine wpAny_bind (wpAny_rule (wpAny_pure ?_));exact q0 hz g s.toks λb o e=>x1 b o (λz=>by rw[z,nI] at e;cases e) (k0 b o e)
  ·have hx:its[0]?=some its[0]:=by simp [Nat.pos_of_ne_zero hz]
   refine wpAny_bind (wpAny_tryCatch (wpAny_pyNext_list_item I0 hl2 hx λg I1 x1=>?_));have S1:=x1.extBut _ _ IS.symm S0;have k1:Kp s.heap g:=λb o e=>x1.extBut b o (λz=>by rw[z,nI] at e;cases e) (k0 b o e)
   show wpAny _ A.in1 (tryCatch (holding [its[0]] (call (.ref q) [its[0]])) _ >>= _) _ _ _;refine wpAny_bind (wpAny_tryCatch (wpAny_holding (hc 0 _ g s.toks hx k1 _ _ λt2 h2 tk2 k2=>?_)));have S2:=k2 _ _ S1;show wpAny _ A.in1 (updateSeq g1.objs.size (λ_=>#[its[0],.int (kf 0) t2]) >>= _) _ _ _;refine wpAny_bind (wpAny_updateSeq (s:={ s with heap:=h2,toks:=tk2 }) S2 rfl ?_)
   rw[nm];refine wpAny_pure ⟨plainId_quiet F.plain_max_loop _,HJ hh hc hl IS nI nS _ (λv g' tk hv k'=>q1 v g' tk hv k') _ 0 _ _ its[0] t2 _ rfl (Nat.pos_of_ne_zero hz) ?_ hx (Heap.get?_update_self _ S2 rfl) (λb o e=>(Heap.get?_update_other _ _ (λz=>by rw[<- z,nS] at e;cases e)).trans (k2 b o (k1 b o e)))⟩
   obtain⟨o,e,r⟩:=I1;exact⟨o,(Heap.get?_update_other _ _ (Ne.symm IS)).trans (k2 _ _ e),r⟩
 simp only[checkBuiltinCall,F.kind_max];cases hsig:Manifest.signature? "max" with
 | none=>exact wpAny_pure run
 | some sig =>
  have ha:argsOk "max" ⟨[.ref l],[(Str.ofString "key",.ref q),(Str.ofString "default",dv)]⟩:=rT _ _ _;have ha':Bind.checkArgs "max" sig ⟨[.ref l],[(Str.ofString "key",.ref q),(Str.ofString "default",dv)]⟩=pure ():=by simpa only[argsOk,hsig] using ha
  simp only[ha'];exact wpAny_pure run
end
end Vc

namespace Vc
open PySem PySem.Spec PyProof.Rows L2
section
variable {prog:Program}{w:World}{A:Around}
def lV (x:Str)(p:Pos):Arguments:={ posonlyargs:=[],args:=[{ arg:=x,annotation:=none,pos:=p }],vararg:=none,kwonlyargs:=[],kw_defaults:=[],kwarg:=none,defaults:=[] }
def kt (x:Str)(n:Nat)(p1 p2 p3:Pos):Expr:=.Subscript (.Name x p1) (.Constant (.int 0) n p2) p3
theorem Ae {s:Shared}{f c':Addr}{x qual:Str}{p p1 p2 p3:Pos}{n:Nat}{scope:Scope}{pm ctv:Value}{a:Addr}{its:Array Value}{k:Int}{t:Tok}{Q:Value->Shared->Prop}{E:Value->Shared->Prop}
  (hroom:A.depth < recursionLimit) (ho:s.heap.get? f=some (PySem.W.kla_obj "<lambda>" qual (lV x p) (kt x n p1 p2 p3) scope [] pm c' ctv)) (hcd:s.heap.CodeRec (.ref c') qual) (hlim:s.heap.NoLimit)
  (hco:scope.isCoroutine=false) (hgen:scope.isGenerator=false) (hk:scope.kind=.function) (hx:scope.names.lookup x=some .local) (hcell:∀ y∈scope.names,y.2≠.cell) (hd:(x==Str.ofString "__debug__")=false)
  (hb:bindArgs (PySem.W.kla_fn "<lambda>" qual (lV x p) (kt x n p1 p2 p3) scope [] pm (.ref c') ctv) ⟨[.ref a],[]⟩=pure [(x,Value.ref a)])
  (htup:IsTup s.heap a its) (h0:its[0]?=some (.int k t)) (q:∀ g tk',Kp s.heap g->Q (.int k t) { s with heap:=g,toks:=tk' }) :
  wpAny (model prog w) A (call (.ref f) [.ref a]) Q E s:=by
 refine wpAny_call (PySem.W.kla_callFunE (fd:=PySem.W.kla_fn "<lambda>" qual (lV x p) (kt x n p1 p2 p3) scope [] pm (.ref c') ctv) hroom ho rfl hco hgen rfl hcd ?_);refine wpAny_of_eq hb (wpAny_newFunctionEnv hcell (λy hy=>?_) (λh₁ hns hsb=>⟨?_,?_⟩) hk)
 ·cases List.mem_singleton.mp hy
  exact hx
 ·exact hlim.fresh _ hsb
 ·have hkp:Kp s.heap h₁:=λb o e=>hsb.extBut b o (Nat.ne_of_lt (Heap.lt_size e)) (Heap.get?_push_of_some _ e)
  refine PySem.W.kla_codeExpr ?_;unfold kt;refine Subscript_ (wpAny_Name (wpAny_loadName_local hk hx hns (v:=.ref a) ?_ (wpAny_Constant_int ?_)) hd)
  ·show List.lookup x [(x,Value.ref a)]=_
   simp [List.lookup]
  ·obtain⟨o,e1,e2,e3⟩:=htup
   refine subscriptTail_builtinR (x:=.int k t) (IsTup.typeIs (s:={ s with heap:=h₁,toks:=_ }) ⟨o,hkp _ _ e1,e2,e3⟩) slot_tuple_getitem.lookup (getItem_tuple (j:=0) ⟨o,hkp _ _ e1,e2,e3⟩ (by decide) (by decide) ?_ h0 ⟨rfl,?_⟩) ?_
   ·have hz:0 < its.size:=(Array.getElem?_eq_some_iff.mp h0).1
    unfold seqIndex?;simp [hz]
   ·exact q _ _ hkp
   ·rfl
example {qual:Str} {p p1 p2 p3:Pos} {n:Nat} {scope:Scope} {pm ctv:Value} {a c':Addr}:bindArgs (PySem.W.kla_fn "<lambda>" qual (lV "one" p) (kt "one" n p1 p2 p3) scope [] pm (.ref c') ctv) ⟨[.ref a],[]⟩=pure [(("one":Str),Value.ref a)]:=rfl
end
end Vc

namespace Vc
open PySem PySem.Spec PyProof.Rows L2
section
variable {M:Model}{A:Around}{E:Value->Shared->Prop}{s:Shared}{params:Arguments}{body:Expr}{scope:Scope}{env:Env}{c P:Addr}{ps more:Array Value}{pos:Pos}{mg:Str->Option Value}{Q:Value->Shared->Prop}
theorem Af (hdef:defaultsOf params env=([],[]))(hcl:closureFor scope env=pure [])(hge0:env.globals=mainGlobals)(hg:s.heap.Ns mainGlobals mg)(hcode:env.code=.ref c)(C:PySem.W.CodeHd s.heap c P)
  (hP:s.heap.get? P=some (PySem.W.tabObj (ps++more))) (ht:TriplesOk (ps++more).toList) (hgP:mainGlobals≠P) (hb:s.heap.BuiltinsAt mg P)
  (hc:codeAmong pos (ps++more).toList=none\/∃ c' o vs t,codeAmong pos (ps++more).toList=some (.ref c')/\s.heap.get? c'=some o/\o.data=.fields vs/\vs[1]?=some (.str (env.qual++"<lambda>") t))
  (h:∀ (f c':Addr) (oc:Obj) (vs:Array Value) (t:Tok) (pm ctv:Value) (more':Array Value) (h':Heap) (tk:Nat),Heap.ExtBut P s.heap h'->h'.get? P=some (PySem.W.tabObj (ps++more'))->TriplesOk (ps++more').toList->codeAmong pos (ps++more').toList=some (.ref c') ->
   h'.get? c'=some oc->oc.data=.fields vs->vs[1]?=some (.str (env.qual++"<lambda>") t)->(s.heap.get? c'=some oc/\codeAmong pos (ps++more).toList=some (.ref c')\/s.heap.get? c'=none) ->
   h'.get? f=some (PySem.W.kla_obj "<lambda>" (env.qual++"<lambda>") params body scope [] pm c' ctv)->s.heap.get? f=none->f≠c'->f≠P->Q (.ref f) { s with heap:=h',toks:=tk }) :
  wpAny M A (eval (.Lambda params body scope pos) env) Q E s:=by
 refine PySem.W.kla_eval hdef ?_;have fr:∀ a,s.heap.objs.size<=a->s.heap.get? a=none:=λa ha=>Heap.get?_none_of_le ha;rcases hc with hn|⟨c',o,vs,t,hf,ho,hd,hv⟩
 ·refine PySem.W.kla_makeFunction hcl hge0 hg hcode C hP ht hn hgP hb λc' ctv h' tk hx hge hlt hrec htb=>?_
  obtain⟨c₂,oc,vs,t,e2,hoc,hd,hv⟩:=hrec;cases e2;have hPs:P < s.heap.objs.size:=Heap.lt_size hP;have hsz:s.heap.objs.size<=h'.objs.size:=Nat.le_of_lt (Nat.lt_of_le_of_lt hge hlt);refine h h'.objs.size c' oc vs t _ ctv (more++#[rawInt pos.line,rawInt pos.col,.ref c']) _ tk (λb o hb e=>Heap.get?_push_of_some _ (hx b o hb e)) ?_ ?_ ?_ (Heap.get?_push_of_some _ hoc) hd hv (.inr (fr _ hge)) (Heap.get?_push_size _ rfl) (fr _ hsz) (Nat.ne_of_gt hlt) (Nat.ne_of_gt (Nat.lt_of_lt_of_le hPs hsz))
  ·rw[<- Array.append_assoc];exact Heap.get?_push_of_some _ htb
  ·rw[<- Array.append_assoc]
   have:=TriplesOk_snoc pos.line pos.col (.ref c') (ps++more).toList ht;rw[Array.toList_append];exact this
  ·rw[<- Array.append_assoc]
   have:=codeAmong_snoc (pos:=pos) (c:=.ref c') (ps++more).toList ht hn;rw[Array.toList_append];exact this
 ·refine PySem.W.kla_makeFunctionHit hcl hge0 hg hcode C hP ht hf hb λctv h' tk hk hsz=>?_
  have hPs:P < s.heap.objs.size:=Heap.lt_size hP;have hcs:c' < s.heap.objs.size:=Heap.lt_size ho;exact h h'.objs.size c' o vs t _ ctv more _ tk (λb o hb e=>Heap.get?_push_of_some _ (hk b o e)) (Heap.get?_push_of_some _ (hk _ _ hP)) ht hf (Heap.get?_push_of_some _ (hk _ _ ho)) hd hv (.inl ⟨ho,hf⟩) (Heap.get?_push_size _ rfl) (fr _ hsz) (Nat.ne_of_gt (Nat.lt_of_lt_of_le hcs hsz)) (Nat.ne_of_gt (Nat.lt_of_lt_of_le hPs hsz))
end
end Vc

namespace Vc
open PySem PySem.Spec PyProof.Rows L2
section
variable [KF]{X:Cx}{pins:List (Addr×Obj)}{σ:L2.St}{H H1:Hp}{s:Shared}{P f c':Addr}{ps more':Array Value}{pos:Pos}{qual:Str}{oc fo:Obj}{vs:Array Value}{t:Tok}{h':Heap}{t':Nat}
theorem vB (I:L2.Inv X pins σ H s)(hPH:H P=some (.lam ps pos qual))(hx:Heap.ExtBut P s.heap h')(hP:h'.get? P=some (PySem.W.tabObj (ps++more')))(ht:TriplesOk (ps++more').toList)(hc:codeAmong pos (ps++more').toList=some (.ref c'))
  (hoc:h'.get? c'=some oc) (hd:oc.data=.fields vs) (hv:vs[1]?=some (.str qual t)) (hH1:(H c'=some (.frz oc (.own P))/\H1=H)\/(s.heap.get? c'=none/\H1=bG H c' (.frz oc (.own P))))
  (hf:h'.get? f=some fo) (hfn:s.heap.get? f=none) (hfc:f≠c') (hfP:f≠P):L2.Inv X pins σ (bG H1 f (.frz fo (.own 0))) { s with heap:=h',toks:=t' }:=by
 have lt:∀ {b u},H b=some u->∃ o,s.heap.get? b=some o:=λ{b u} e=>rS (I.hok b u e);have up:∀ {b u},H b=some u->(bG H1 f (.frz fo (.own 0))) b=some u:=λ{b u} e=>by
  obtain⟨o,ho⟩:=lt e;rw[ao (λz=>by rw[z,hfn] at ho;cases ho)]
  rcases hH1 with ⟨_,rfl⟩|⟨hn,rfl⟩
  ·exact e
  ·rw[ao (λz=>by rw[z,hn] at ho;cases ho)];exact e
 have fr:∀ {b o},s.heap.get? b=some o->H b=none->(bG H1 f (.frz fo (.own 0))) b=none:=λ{b o} ho e=>by
  rw[ao (λz=>by rw[z,hfn] at ho;cases ho)]
  rcases hH1 with ⟨_,rfl⟩|⟨hn,rfl⟩
  ·exact e
  ·rw[ao (λz=>by rw[z,hn] at ho;cases ho)];exact e
 have c1:(bG H1 f (.frz fo (.own 0))) c'=some (.frz oc (.own P)):=by
  rw[ao hfc.symm];rcases hH1 with ⟨e,rfl⟩|⟨_,rfl⟩
  ·exact e
  ·exact aH
 have neP:∀ {b u},H b=some u->u≠.lam ps pos qual->b≠P:=λe n z=>by rw[z,hPH] at e;exact n (Option.some.inj e).symm
 refine I.step (g':=s.gens) (d':=s.drawn) (ch:=[]) (λb hb=>by cases hb) (λb o _ _ _ e n=>hx b o (λz=>by rw[z,hPH] at n;cases n) e) (λb o _ _ _ e n=>⟨o.slots,hx b o (λz=>by rw[z,hPH] at n;cases n) e⟩) (λb o _ e n=>fr e n) (λb o _ e=>?_)
  (λb xs e=>up e) (λb o u e=>up e) (λb qs e=>⟨#[],by rw[up e];simp⟩) (λm hm=>?_) (λb u e=>?_) I.bare
 ·by_cases hb:b=P
  ·exact⟨_,hb ▸ hP⟩
  ·exact⟨o,hx b o hb e⟩
 ·obtain⟨ob,es,ep,ho,hdd,r⟩:=hm
  refine⟨ob,es,ep,hx _ ob (λz=>?_) ho,hdd,r⟩;obtain⟨mo,ez,_⟩:=I.hok P _ hPH;rw[z,ez] at ho;cases ho;cases hdd
 ·by_cases hbf:b=f
  ·subst hbf;rw[aH] at e;cases e
   exact⟨hf,⟨_,hf⟩⟩
  by_cases hbc:b=c'
  ·subst hbc;rw[c1] at e;cases e
   exact⟨hoc,⟨_,hoc⟩⟩
  have e0:H b=some u:=by
   rw[ao hbf] at e;rcases hH1 with ⟨_,rfl⟩|⟨_,rfl⟩
   ·exact e
   ·rw[ao hbc] at e;exact e
  by_cases hbP:b=P
  ·subst hbP
   rw[hPH] at e0;cases e0;exact⟨more',hP,ht,.inr ⟨c',oc,vs,t,hc,c1,hd,hv⟩⟩
  ·refine (I.hok b u e0).stay (λd v hd' q=>hx d v ?_ q) (λ_ q=>up q) (λ_ _ q=>up q) λ_ _ _ q=>up q
   rcases hd' with rfl|hd'
   ·exact hbP
   ·exact neP hd' (λz=>by cases z)
end
end Vc

namespace Vc
open PySem PySem.Spec PyProof.Rows L2
def gE (x:Str):Scope:={ kind:=.function,names:=[(x,.local)],isGenerator:=false,isCoroutine:=false,more:=[] }
structure LamAt (X:Cx)(c P:Addr):Prop where
 code:X.env.code=.ref c
 hd:PySem.W.CodeHd X.base c P
 gP:mainGlobals≠P
 bm:X.base.BuiltinsAt X.mg P
section
variable [KF]{X:Cx}{c P:Addr}{ps:Array Value}{lpos:Pos}{params:Arguments}{body:Expr}{scope:Scope}
def VZ (P:Addr)(ps:Array Value)(lpos:Pos)(qual:Str)(params:Arguments)(body:Expr)(scope:Scope):TE:=λ_ H Q=>H P=some (.lam ps lpos qual) /\
 ∀ (f c':Addr) (oc:Obj) (vs:Array Value) (t:Tok) (pm ctv:Value) (H1:Hp),(H1=H\/H c'=none/\H1=bG H c' (.frz oc (.own P)))->H1 c'=some (.frz oc (.own P))->oc.data=.fields vs->vs[1]?=some (.str qual t)->H1 f=none->f≠c' ->
  Q (.ref f) (bG H1 f (.frz (PySem.W.kla_obj "<lambda>" qual params body scope [] pm c' ctv) (.own 0)))
theorem LX (L:LamAt X c P)(hdef:defaultsOf params X.env=([],[]))(hcl:closureFor scope X.env=pure []):PE X (.Lambda params body scope lpos) (VZ P ps lpos (X.env.qual++"<lambda>") params body scope):=by
 intro pins s σ H Q I q;obtain⟨hPH,q⟩:=q;obtain⟨more,hP,ht,hc⟩:=I.hok P _ hPH;have hc':codeAmong lpos (ps++more).toList=none\/∃ c' o vs t,codeAmong lpos (ps++more).toList=some (.ref c')/\s.heap.get? c'=some o/\o.data=.fields vs/\vs[1]?=some (.str (X.env.qual++"<lambda>") t):=by
  rcases hc with hc|⟨c',o,vs,t,e1,e2,e3,e4⟩
  ·exact .inl hc
  ·exact .inr ⟨c',o,vs,t,e1,(I.hok c' _ e2).1,e3,e4⟩
 have nn:∀ {b},s.heap.get? b=none->H b=none:=λ{b} e=>by
  cases q:H b with
  | none=>rfl
  | some u =>
   obtain⟨o,z⟩:=rS (I.hok b u q);rw[e] at z;cases z
 refine Af (c:=c) (P:=P) (ps:=ps) (more:=more) (mg:=X.mg) hdef hcl I.ok.glob (I.mod.glob.keeps I.bk) L.code (L.hd.keeps I.bk) hP ht L.gP (L.bm.keeps I.bk) hc' λf c' oc vs t pm ctv more' h' tk hx hP' ht' hf' hoc hd hv hor ho hfn hfc hfP=>?_;rcases hor with ⟨h1,h2⟩|h1
 ·have hH:H c'=some (.frz oc (.own P)):=by
   rcases hc with hc|⟨c2,o2,vs2,t2,e1,e2,e3,e4⟩
   ·rw[hc] at h2;cases h2
   ·rw[h2] at e1;cases e1
    have:=(I.hok _ _ e2).1;rw[h1] at this;cases this;exact e2
  exact⟨.ref f,_,vB I hPH hx hP' ht' hf' hoc hd hv (.inl ⟨hH,rfl⟩) ho hfn hfc hfP,rfl,q f c' oc vs t pm ctv H (.inl rfl) hH hd hv (nn hfn) hfc⟩
 ·exact⟨.ref f,_,vB I hPH hx hP' ht' hf' hoc hd hv (.inr ⟨h1,rfl⟩) ho hfn hfc hfP,rfl,q f c' oc vs t pm ctv _ (.inr ⟨nn h1,rfl⟩) aH hd hv (by rw[ao hfc];exact nn hfn) hfc⟩
end
section
variable [KF]{G:GE}{k:Nat}{S:Stat}
def eR:D->Bool
 | .tup (.int _::_)=>true
 | _=>false
def cG:D->Int
 | .tup (.int i::_)=>i
 | _=>0
def jX:List D->D
 | []=>.non
 | x::xs=>xs.foldl (λb y=>if decide (cG b < cG y)=true then y else b) x
def rV (xs:List D)(i:Nat):Int:=cG (xs.getD i .non)
theorem lW (xs:List D)(x:D):∀ n,n < (x::xs).length->(x::xs).getD (ci (rV (x::xs)) n) .non=(xs.take n).foldl (λb y=>if decide (cG b < cG y)=true then y else b) x
 | 0,_=>rfl
 | n+1,h=>by
  have ih:=lW xs x n (by simp at h ⊢;omega)
  have hl:n < xs.length:=by simpa using h
  have gx:(x::xs).getD (n+1) .non=xs[n]:=by
   rw[List.getD_eq_getElem?_getD,List.getElem?_cons_succ,List.getElem?_eq_getElem hl];rfl
  rw[List.take_add_one,List.getElem?_eq_getElem hl,Option.toList_some,List.foldl_append,List.foldl_cons,List.foldl_nil,<- ih];show (x::xs).getD (if decide (rV (x::xs) (ci (rV (x::xs)) n) < rV (x::xs) (n+1))=true then n+1 else ci (rV (x::xs)) n) .non=_
  have e:rV (x::xs) (n+1)=cG xs[n]:=by unfold rV;rw[gx]
  rw[e];show (x::xs).getD (if decide (cG ((x::xs).getD (ci (rV (x::xs)) n) .non) < cG xs[n])=true then n+1 else ci (rV (x::xs)) n) .non=_
  split
  ·exact gx
  ·rfl
theorem Ag {xs:List D}(h:xs≠[]):jX xs=xs.getD (ci (rV xs) (xs.length - 1)) .non:=by
 cases xs with
 | nil=>exact absurd rfl h
 | cons x xs =>
  have:=lW xs x xs.length (by simp)
  have e:(x::xs).length - 1=xs.length:=by simp
  rw[e,this,List.take_length];rfl
def Ah (t:TV):TV:=λσ Q=>t σ λx σ1=>match drf σ1 x with
 | some (.lst xs)=>xs.all eR=true/\Q (.val (jX xs)) σ1
 | _=>False
theorem HL {X:Cx}{Y:Dyn}{c P:Addr}{ps:Array Value}{e:Expr}{t:TV}{p p0 p1 p2 p3 kp dp kp2 lpos pos:Pos}{n j:Nat}{x:Str}(ok:XOk X G k S Y)(h:EO G k S e t)(L:LamAt X c P)(htab:(P,ps,lpos,X.env.qual++"<lambda>")∈KF.tabs)
  (hm:G.mg "max"=none) (hbind:∀ (qual:Str) (pm ctv:Value) (a c':Addr),bindArgs (PySem.W.kla_fn "<lambda>" qual (lV x p0) (kt x n p1 p2 p3) (gE x) [] pm (.ref c') ctv) ⟨[.ref a],[]⟩=pure [(x,Value.ref a)]) (hxd:(x==Str.ofString "__debug__")=false) (hg:S.sc.lookup ("max":Str)=some .globalImplicit:=by rfl)
  (he:∀ env,starEach [e] env=[(false,eval e env)]:=by intro _;rfl) (hh:S.hot=false:=by rfl) :
  PE X (.Call (.Name "max" p) [e] [⟨some "key",.Lambda (lV x p0) (kt x n p1 p2 p3) (gE x) lpos,kp⟩,⟨some "default",.Constant .none j dp,kp2⟩] pos) (lO Y (Ah t)):=by
 intro pins s σ H Q I q;obtain⟨F,σd,Qd,R,q,K⟩:=q;refine wpAny_Call_Name_kw (ft (u:=.builtin "max") I (dG ok hg) (by rw[ok.mg];exact hm) (by decide +kernel) ?_ (by decide) (by decide))
 have ha:PA X [e] (ge (lO Y t) om):=pa_cons (h X Y ok) pa_nil (by rw[he];rfl)
 have hk:PK X [⟨some "key",.Lambda (lV x p0) (kt x n p1 p2 p3) (gE x) lpos,kp⟩,⟨some "default",.Constant .none j dp,kp2⟩] (ge (VZ P ps lpos (X.env.qual++"<lambda>") (lV x p0) (kt x n p1 p2 p3) (gE x)) (ge (tC .non) om)):=oo (LX L rfl rfl) (oo yk yx);have hA:=ha pos pins s σ H (λvs H1=>∃ v1 F1 x σ1,vs=[v1]/\Same F F1/\RS Y F1 σ1 σ H1/\RepO F1 σ v1 x/\(match drf σ1 x with
   | some (.lst xs)=>xs.all eR=true/\Qd (.val (jX xs)) σ1
   | _=>False)) I ⟨F,σd,_,R,q,λv1 H1 F1 x σ1 s1 R1 r1 q1=>⟨v1,F1,x,σ1,rfl,s1,R1,r1,q1⟩⟩
 refine PyProof.Rows.callWith_kw (env:=X.env) (cr hA λus s1 h1=>?_) (by rw[he];rfl) (by rw[he];rfl) rfl rfl
 obtain⟨vs,H1,I1,rvs,v1,F1,y,σ1,rfl,sm1,R1,r1,q1⟩:=h1;obtain⟨u1,rfl,ru1⟩:=cV rvs;refine cr (hk pos pins s1 σ H1 (λvs H2=>∃ f c' oc vo to pm ctv,vs=[.ref f,.non]/\RS Y F1 σ1 σ H2/\H2 f=some (.frz (PySem.W.kla_obj "<lambda>" (X.env.qual++"<lambda>") (lV x p0) (kt x n p1 p2 p3) (gE x) [] pm c' ctv) (.own 0))/\H2 c'=some (.frz oc (.own P))/\oc.data=.fields vo/\vo[1]?=some (.str (X.env.qual++"<lambda>") to))
  I1 ⟨R1.fr _ _ (R1.ob.tab _ htab),λf c' oc vo to pm ctv H3 h3 hc3 hd hv hf hfc=>⟨f,c',oc,vo,to,pm,ctv,rfl,?_,aH,by rw[ao hfc.symm];exact hc3,hd,hv⟩⟩) λws s2 h2=>?_
 ·have R3:RS Y F1 σ1 σ H3:=by
   rcases h3 with rfl|⟨z,rfl⟩
   ·exact R1
   ·exact R1.alloc0 z
  exact R3.alloc0 hf
 obtain⟨vs2,H2,I2,rvs2,f,c',oc,vo,to,pm,ctv,rfl,R2,hf,hc,hd,hv⟩:=h2;cases rvs2 with
 | cons ru2 rr =>
 cases rr with
 | cons ru3 rr =>
 cases rr;cases ru2;cases ru3
 split at q1
 ·rename_i xs ex
  obtain⟨hc0,q2⟩:=q1;obtain⟨a,vs,rfl,hrd,rl⟩:=(R2.drf r1 ex).lst;cases ru1;obtain⟨its,rv,pl,_⟩:=I2.list (show SqL X.K H2 a vs from .inl hrd)
  have len:its.toArray.size=xs.length:=by rw[List.size_toArray,<- rv.length,rl.length]
  have hkey:Ad X.prog X.w X.A.in1 s2.heap s2 (.ref f) its.toArray (rV xs):=by
   intro i v h tk hi kp Q' E' q';have hi':its[i]?=some v:=by simpa using hi
   have hl:i < vs.length:=by rw[rv.length];exact (List.getElem?_eq_some_iff.mp hi').1
   have ev:vs[i]?=some vs[i]:=List.getElem?_eq_getElem hl;obtain⟨d,e1,e2⟩:=rl.get' ev;obtain⟨u,e3,e4⟩:=rv.get ev;rw[hi'] at e3;cases e3;have md:d∈xs:=List.mem_of_getElem? e1;have hd1:=List.all_eq_true.mp hc0 d md;have ek:rV xs i=cG d:=by unfold rV;rw[List.getD_eq_getElem?_getD,e1];rfl
   rw[ek] at q';unfold eR at hd1
   split at hd1
   ·rename_i k0 ds
    generalize vs[i]=vi at *;cases e2 with
    | tup hfa rfa =>
     cases e4;cases rfa with
     | cons w1 w2 =>
     cases w1;obtain⟨_,ia,wa,oa,ga,ca⟩:=I2.hok _ _ (R2.fr _ _ hfa);cases wa with
     | cons ra wa =>
     obtain⟨tt,rfl⟩:=ra;have hcr:(h:Heap).CodeRec (.ref c') (X.env.qual++"<lambda>"):=⟨c',oc,vo,to,rfl,kp _ _ (I2.hok _ _ hc).1,hd,hv⟩;refine Ae (A:=X.A.in1) (s:={ s2 with heap:=h,toks:=tk }) (n:=n) (p:=p0) (p1:=p1) (p2:=p2) (p3:=p3) (x:=x) ?_ (kp _ _ (I2.hok _ _ hf).1) hcr (I2.nolimit.keeps kp) rfl rfl rfl ?_ ?_ hxd (hbind _ _ _ _ _) ⟨oa,kp _ _ ga,ca⟩ ?_ λg tk' kg=>q' tt g tk' kg
     ·have:=ok.dp
      show X.A.depth < _;omega
     ·show List.lookup x [(x,NameKind.local)]=_
      simp [List.lookup]
     ·intro y hy
      cases List.mem_singleton.mp hy;exact λz=>nomatch z
     ·rfl
   ·cases hd1
  refine HK (I2.ok.hd (ok.calm hh)) hkey pl.isList (λhz g tk kp=>?_) λz g tk hz kp=>?_
  ·have:xs=[]:=List.length_eq_zero_iff.mp (by rw[<- len];exact hz)
   subst this;exact⟨.non,H2,I2.kept kp,rfl,K .non H2 F1 (.val .non) σ1 sm1 R2 .non q2⟩
  ·have hz':its[ci (rV xs) (xs.length - 1)]?=some z:=by rw[len] at hz;simpa using hz
   have hne:xs≠[]:=λe=>by
    subst e;have:its=[]:=List.length_eq_zero_iff.mp (by rw[<- rv.length,rl.length];rfl)
    rw[this] at hz';simp at hz'
   have hl:ci (rV xs) (xs.length - 1) < vs.length:=by rw[rv.length];exact (List.getElem?_eq_some_iff.mp hz').1
   have ev:vs[ci (rV xs) (xs.length - 1)]?=some vs[ci (rV xs) (xs.length - 1)]:=List.getElem?_eq_getElem hl;obtain⟨dd,e1,e2⟩:=rl.get' ev;obtain⟨zz,e3,e4⟩:=rv.get ev;rw[hz'] at e3;cases e3;have eb:jX xs=dd:=by rw[Ag hne,List.getD_eq_getElem?_getD,e1];rfl
   rw[eb] at q2;exact⟨_,H2,I2.kept kp,e4,K _ H2 F1 (.val dd) σ1 sm1 R2 e2 q2⟩
 ·exact q1.elim
end
end Vc

namespace Vc
open PySem PySem.W L2
def aw (P:Addr)(K:Frag):Frag:=K.filter λx=>x.1 != P
theorem eG (P:Addr):∀ K:Frag,(aw P K).lookup P=none
 | []=>rfl
 | (b,o)::K=>by
  unfold aw;rw[List.filter_cons]
  by_cases h:b=P
  ·rw[if_neg (by simp [h])];exact eG P K
  ·rw[if_pos (by simp [h]),List.lookup_cons,(by simpa using λz=>h z.symm:(P==b)=false)];exact eG P K
theorem hZ {P b:Addr}(h:b≠P):∀ K:Frag,(aw P K).lookup b=K.lookup b
 | []=>rfl
 | (a,o)::K=>by
  unfold aw;rw[List.filter_cons]
  by_cases ha:a=P
  ·rw[if_neg (by simp [ha]),List.lookup_cons,(by simpa [ha] using h:(b==a)=false)];exact hZ h K
  ·rw[if_pos (by simp [ha]),List.lookup_cons,List.lookup_cons]
   cases b==a with
   | true=>rfl
   | false=>exact hZ h K
theorem HM {P:Addr}{K:Frag}{h:Heap}(X:K.In h):(aw P K).In h:=λb o e=>by
 by_cases hb:b=P
 ·rw[hb,eG] at e;cases e
 ·rw[hZ hb] at e;exact X b o e
section
variable {P:Addr}{K:Frag}(hP:K.lookup P=some (tabObj #[]))
include hP
theorem pv (b:Addr):(aw P K).lookup b=K.lookup b\/((aw P K).lookup b=none/\K.lookup b=some (tabObj #[])):=by
 by_cases hb:b=P
 ·subst hb;exact .inr ⟨eG _ _,hP⟩
 ·exact .inl (hZ hb K)
theorem aC {f:Addr}{oc:Value}{od:Option Addr}{fd:FuncData}{sl:Array (Option Value)}(l:K.lookup f=some ⟨oc,od,.func fd,sl⟩):(aw P K).lookup f=some ⟨oc,od,.func fd,sl⟩:=by
 rcases pv hP f with e|⟨_,e⟩
 ·rw[e];exact l
 ·rw[l] at e;cases e
theorem ax {f:Addr}{oc:Value}{od:Option Addr}{fd:FuncData}{sl:Array (Option Value)}(l:K.lookup f=some ⟨oc,od,.func fd,sl⟩):keepIn (aw P K) (.ref f)=true:=by
 unfold keepIn;dsimp only;rw[aC hP l]
theorem ay {cd:Value}{x:Str}(h:codeIn K cd x=true):codeIn (aw P K) cd x=true:=by
 cases cd with
 | ref c =>
  unfold codeIn at h ⊢;rcases pv hP c with e|⟨_,e⟩
  ·simp only[e];exact h
  ·simp only[e] at h;cases h
 | _=>cases h
theorem HN {c P':Addr}(h:codeHdIn K c P'=true):codeHdIn (aw P K) c P'=true:=by
 unfold codeHdIn at h ⊢;rcases pv hP c with e|⟨_,e⟩
 ·simp only[e];exact h
 ·simp only[e] at h;cases h
end
theorem xL {P:Program}{w:World}{K:PySem.W.Frag}{mg mb:Str->Option Value}{CX:yf}{k:Nat}{fa a T:Addr}{fd:FuncData}{x:Str}{sp:Sp}{s₁:Shared}{vs:List Value}{ns:List Int}{lpos:Pos}{qual:Str}
  (KX:K.In s₁.heap) (hns:s₁.heap.Ns mainGlobals mg) (hb:s₁.heap.Ns builtinsNs mb) (hbb:∀ x:Str,x≠"__name__"->mb x=bootBuiltins x) (hlim:s₁.heap.NoLimit) (hg:s₁.gens=#[])
  (ha:s₁.heap.get? a=some { cls:=.type "list",data:=.seq vs.toArray }) (hi:PyProof.Rows.IntsAre vs ns) (hl:ns.length<=sizeLine) (hr:Room k callerA)
  (hT:s₁.heap.get? T=some (tabObj #[])) (hct:isCodeTable s₁.heap T) (hTK:K.lookup T=none)
  (F:∀ base:Heap,K.In base->base.Ns mainGlobals mg->FnOk P w K mg base CX k fa fd [x] sp) (hbind:∀ (s:Shared) (u:Value),BindsTo s fd ⟨[u],[]⟩ [(x,u)])
  (hsp:∀ H:Hp,H T=some (.lam #[] lpos qual)->SqL K H a (ns.map V.int)->sp [.ref a] H (λv H'=>v=.bl true/\Same H H') λ_ _ _=>False)
  (hCX:∀ H e s',CX [] H s₁ (λ_ _ _=>False) e s'->False) :
  codeAny (model P w) callerA (.call (.ref fa) ⟨[.ref a],[]⟩) (λr s'=>r=.ok (.ret (.bool true))/\OldK s₁.heap s'.heap/\s'.os=s₁.os/\PyProof.Rows.AllBare s'.gens) s₁:=by
 have rv:=ni hi;have lenV:=hi.length;have haT:a≠T:=λz=>by rw[z,hT] at ha;cases ha
 have core:∀ H:Hp,H T=some (.lam #[] lpos qual)->SqL K H a (ns.map V.int)->HOk P w H s₁.heap->(∀ b,H b≠none->b=a\/b=T)->(H a≠none->K.lookup a=none/\∃ o xs,H a=some (.frz o (.lst xs))) ->
   codeAny (model P w) callerA (.call (.ref fa) ⟨[.ref a],[]⟩) (λr s'=>r=.ok (.ret (.bool true))/\OldK s₁.heap s'.heap/\s'.os=s₁.os/\PyProof.Rows.AllBare s'.gens) s₁:=by
  intro H hO hS hok hA hK;have base_of:∀ {b:Addr} {o:Obj},s₁.heap.get? b=some o->H b=none->(oj s₁.heap H).get? b=some o:=λe n=>yi e n;have noA:∀ {b:Addr} {o:Obj} {es:Array DictEntry} {ep:Nat},s₁.heap.get? b=some o->o.data=.dict es ep->H b=none:=λ{b o es ep} e d=>by
   cases q:H b with
   | none=>rfl
   | some u =>
    rcases hA b (by rw[q];simp) with e'|e'
    ·subst e'
     rw[ha] at e;cases e;have d':Data.seq vs.toArray _=Data.dict es ep:=d;cases d'
    ·subst e'
     rw[hT] at e;cases e;have d':Data.fields #[]=Data.dict es ep:=d;cases d'
  have nsK:∀ {b:Addr} {m:Str->Option Value},s₁.heap.Ns b m->(oj s₁.heap H).Ns b m:=λ{b m} ⟨o,es,ep,e,d,r⟩=>⟨o,es,ep,base_of e (noA e d),d,r⟩;have hKb:K.In (oj s₁.heap H):=λb o e=>base_of (KX b o e) (by
   cases q:H b with
   | none=>rfl
   | some u =>
    rcases hA b (by rw[q];simp) with e'|e'
    ·subst e'
     rw[(hK (by rw[q];simp)).1] at e;cases e
    ·subst e'
     rw[hTK] at e;cases e)
  have hM:Mod K mg (oj s₁.heap H):=⟨hKb,nsK hns,⟨mb,nsK hb,hbb⟩,let ⟨mc,h1,h2⟩:=hlim;⟨mc,nsK h1,h2⟩⟩;have e0:Env0 P w K mg (oj s₁.heap H) callerA [] s₁ H:=⟨rfl,hM,λb o e=>Gn e,Nat.le_of_eq (wZ _ _),trivial,λb hb=>absurd (show b∈([]:List Addr) from hb) (by simp),hok,.of_eq hg⟩
  refine codeAny_mono ((F _ hKb (nsK hns)).run callerA [] s₁ H ⟨[.ref a],[]⟩ [.ref a] [.ref a] _ _ hr e0 (hbind s₁ (.ref a)) (.cons rfl .nil) (hsp H hO hS)) λr s' h=>?_;cases r with
  | error e=>exact (hCX H e s' h).elim
  | ok fl =>
   cases fl with
   | next=>exact False.elim h
   | brk=>exact False.elim h
   | cont=>exact False.elim h
   | ret u =>
    obtain⟨v,H',os,bare,un,hok',r',q⟩:=h;have q':v=.bl true/\Same H H':=q;obtain⟨q',sm⟩:=q';subst q';obtain rfl:u=Value.bool true:=r';refine⟨rfl,⟨λb o e=>?_,λb o e=>un.there b o e (by simp)⟩,os,bare⟩
    cases q:H b with
    | none=>exact .inl (un.keep b o e q (by intro z;exact absurd (show b∈([]:List Addr) from z) (by simp)) (by simp))
    | some u =>
     rcases hA b (by rw[q];simp) with z|z
     ·subst z
      obtain⟨_,ob,xs,z⟩:=hK (by rw[q];simp)
      have z2:=sm _ _ z;obtain⟨e1,_⟩:=hok _ _ z;obtain⟨e2,_⟩:=hok' _ _ z2;rw[e] at e1;cases e1;exact .inl e2
     ·subst z
      obtain⟨more,e2,_⟩:=hok' _ _ (sm _ _ hO);rw[hT] at e;cases e;exact .inr (.inl ⟨hct,rfl,#[],more,rfl,e2⟩)
 have okT:∀ H:Hp,ObjOk P w H s₁.heap T (.lam #[] lpos qual):=λH=>⟨#[],hT,trivial,.inl rfl⟩;cases hk:K.lookup a with
 | some o =>
  have e:=KX a o hk;rw[ha] at e;cases e;refine core (λb=>if b=T then some (.lam #[] lpos qual) else none) (if_pos rfl) (.inr ⟨_,vs.toArray,_,hk,rfl,rfl,rfl,by rw[List.size_toArray,lenV];exact hl,by simpa using rv⟩) (λb u z=>?_) (λb z=>?_) λz=>absurd (if_neg haT) z
  ·by_cases hb:b=T
   ·have z':=(if_pos hb).symm.trans z
    cases z';subst hb;exact okT _
   ·have z':=(if_neg hb).symm.trans z
    cases z'
  ·by_cases hb:b=T
   ·exact .inr hb
   ·exact absurd (if_neg hb) z
 | none =>
  refine core (λb=>if b=T then some (.lam #[] lpos qual) else if b=a then some (.frz { cls:=.type "list",data:=.seq vs.toArray } (.lst (ns.map V.int))) else none) (if_pos rfl) (.inl (.inr ⟨{ cls:=.type "list",data:=.seq vs.toArray },(if_neg haT).trans (if_pos rfl)⟩)) (λb u z=>?_) (λb z=>?_) λ_=>⟨hk,_,_,(if_neg haT).trans (if_pos rfl)⟩
  ·by_cases hb:b=T
   ·have z':=(if_pos hb).symm.trans z
    cases z';subst hb;exact okT _
   ·by_cases hba:b=a
    ·have z':=((if_neg hb).trans (if_pos hba)).symm.trans z
     cases z';subst hba;exact⟨ha,by rw[List.length_map];exact hl,vs,_,rv,ha⟩
    ·have z':=((if_neg hb).trans (if_neg hba)).symm.trans z
     cases z'
  ·by_cases hb:b=T
   ·exact .inr hb
   ·by_cases hba:b=a
    ·exact .inl hba
    ·exact absurd ((if_neg hb).trans (if_neg hba)) z
theorem Ai {l:PySem.W.OpenLaw}{n k:Nat}{q:Program}{loose:List Str}{XP:(Str->Option Value)->Heap->Prop}{YP:World->Heap->Prop}{d:DefRec}{K:Params->PySem.W.Frag}{sp:PySem.W.Frag->Addr->Sp}{x:Str}{lpos:Pos}{qual:Str}
  (hn:l.most=some n) (hn2:n<=sizeLine) (hdf:d.params.defaults=[]) (hr:Room k callerA)
  (hY:∀ (w:World) (h:Heap),YP w h->(K w.params).In h)
  (F:∀ (w:World) (mg:Str->Option Value) (fa:Addr) (h:Heap),(K w.params).In h->h.Ns mainGlobals mg->mg d.name=some (.ref fa) ->
   ∃ (c T:Addr) (fd:FuncData),(K w.params).lookup T=some (tabObj #[])/\codeHdIn (K w.params) c T=true/\(∀ (s:Shared) (u:Value),BindsTo s fd ⟨[u],[]⟩ [(x,u)]) /\
    ∀ base:Heap,(aw T (K w.params)).In base->base.Ns mainGlobals mg->FnOk l.prog w (aw T (K w.params)) mg base km k fa fd [x] (sp (aw T (K w.params)) T))
  (hsp:∀ (K:PySem.W.Frag) (T:Addr) (H:Hp) (a:Addr) (ns:List Int),ns.length<=n->H T=some (.lam #[] lpos qual)->SqL K H a (ns.map V.int)->sp K T [.ref a] H (λv H'=>v=.bl true/\Same H H') λ_ _ _=>False) :
  PySem.W.WalkO q loose XP YP l.row.toRowW d [] (λf vs=>PySem.call f vs):=by
 refine Att.attach_call hn hdf λw s₀ s₁ mg mb fa o pm cd doc a vs ns G Y ho hd hcd hmg hobj hints hlen hg=>?_;have KX:=hY w _ Y;obtain⟨c,T,fd,hT,hc,hb,hF⟩:=F w mg fa _ KX G.T.g hmg;have C:=codeHd_of_K KX hc;refine xL (lpos:=lpos) (qual:=qual) (T:=T) (HM KX) G.T.g G.T.b G.T.builtins G.T.nolimit hg hobj hints (Nat.le_trans hlen hn2) hr (KX _ _ hT) ?_ (eG _ _) hF hb (λH hO hS=>hsp _ T H a ns hlen hO hS) λH e s' z=>z;exact (C.tab (KX _ _ hT)).1.elim λo ⟨vs,e1,e2,e3,e4⟩=>⟨c,o,vs,e1,e2,e3,e4⟩
end Vc

namespace Vc
open PySem PySem.Spec PyProof.Rows L2
section
variable [KF]{G:GE}{k:Nat}
structure LamG (G:GE)(fd:FuncData)(lpos:Pos)(x:Str):Prop where
 ex:∃ (c P bm:Addr) (sl:Array (Option Value)),fd.code=.ref c/\PySem.W.codeHdIn G.K c P=true/\(P,#[],lpos,x++".<locals>."++"<lambda>")∈KF.tabs/\mainGlobals≠P/\G.mg "__builtins__"=some (.ref bm)/\bm≠builtinsNs/\bm≠mainGlobals/\bm≠P/\G.K.lookup bm=some ⟨.type "module",some builtinsNs,.plain,sl⟩
abbrev Aj (told y:Str)(p p' p0 p1 p2 p3 kp dp kp2 lpos pos:Pos)(n j:Nat):Expr:=.Call (.Name "max" p) [.Name told p'] [⟨some "key",.Lambda (lV y p0) (kt y n p1 p2 p3) (gE y) lpos,kp⟩,⟨some "default",.Constant .none j dp,kp2⟩] pos
def Wa:aQ:=λds Q=>∃ xs,ds=[.lst xs]/\xs.all eR=true/\Q (.sh (jX xs))
theorem HP {x told y:Str}{st:Stmt}{f:Addr}{fd:FuncData}{p p' p0 p1 p2 p3 kp dp kp2 lpos pos rpos:Pos}{n j:Nat}(hK:G.K=KF.K)(Fn:Fun G.K x x st f fd)(Sc:FnScope [told] [told] (af st))
  (hb:ak st=[.Return (some (Aj told y p p' p0 p1 p2 p3 kp dp kp2 lpos pos n j)) rpos])
  (h1:(af st).names.lookup told=some .local) (h2:(af st).names.lookup ("max":Str)=some .globalImplicit) (hm:G.mg "max"=none) (L:LamG G fd lpos x)
  (hbind:∀ (qual:Str) (pm ctv:Value) (a c':Addr),bindArgs (PySem.W.kla_fn "<lambda>" qual (lV y p0) (kt y n p1 p2 p3) (gE y) [] pm (.ref c') ctv) ⟨[.ref a],[]⟩=pure [(y,Value.ref a)]) (hyd:(y==Str.ofString "__debug__")=false)
  (hd:(told==("__debug__":Str))=false) (hcd:(told==("__classdict__":Str))=false):FnOk G.P G.w G.K G.mg G.base km (k+1) f fd [told] (tX Wa):=by
 obtain⟨c,P,bm,slb,e1,e2,e3,e4,e5,e6,e7,e8,e9⟩:=L.ex;obtain⟨oc,od,kV,doc,pm,an,cdv,ct,osl,rfl,lk,hcode⟩:=Fn.ex;have e1:cdv=.ref c:=e1;subst e1;have len:∀ vs H Q E,tX Wa vs H Q E->vs.length=[told].length:=λvs H Q E h=>by
  obtain⟨F,ds,Qd,s,r,⟨xs,z,_⟩,K⟩:=h;rw[r.length,z];rfl
 refine IB lk hcode Sc len λA outer s H vs Q E hr h=>?_;obtain⟨F,ds,Qd,sm,r,⟨xs,z,hh,q⟩,K⟩:=h;subst z;have ok:XOk (jj km G.P G.w G.K G.mg G.base [told] x (af st) f (.ref c) A outer s H E).nox G k ⟨[told],(af st).names,[],false,false,false,λ_ _=>False⟩ ⟨H,F,[],[]⟩ :=
  ⟨rfl,rfl,rfl,hK,rfl,rfl,rfl,rfl,Sc.nd,λp hp=>absurd hp (by simp),λ_ _=>rfl,λ_=>rfl,Sc.kind,λ_ _ _=>rfl,λ_=>hr.hd,hr.dp,hr.un,λ_=>PassesOwn.never,λ_=>⟨rfl,rfl,rfl⟩,λ_ _ h=>h.elim,λh=>nomatch h⟩
 rw[hb];have same:∀ {F':Hp} {σd:Sd} {σ:L2.St} {H':Hp},RS ⟨H,F,[],[]⟩ F' σd σ H'->Same H H':=λR b o e=>R.old b o e (by simp [Dyn.ioA])
 have pe:PE (jj km G.P G.w G.K G.mg G.base [told] x (af st) f (.ref c) A outer s H E).nox (Aj told y p p' p0 p1 p2 p3 kp dp kp2 lpos pos n j) (λσ H1 Q'=>G.K.In G.base/\lO ⟨H,F,[],[]⟩ (Ah (aa 0)) σ H1 Q'):=λpins s' σ H1 Q' I q=>by
  have L:LamAt (jj km G.P G.w G.K G.mg G.base [told] x (af st) f (.ref c) A outer s H E).nox c P :=
   ⟨rfl,PySem.W.codeHd_of_K q.1 e2,e4,⟨bm,_,e5,e6,e7,e8,q.1 _ _ e9,rfl,rfl,rfl⟩⟩
  exact HL ok (ab 0 rfl (.inl h1) hd hcd) L e3 hm hbind hyd h2 (by intro _;rfl) rfl pins s' σ H1 Q' I q.2
 have pe2:PE (jj km G.P G.w G.K G.mg G.base [told] x (af st) f (.ref c) A outer s H E).nox (Aj told y p p' p0 p1 p2 p3 kp dp kp2 lpos pos n j) (lO ⟨H,F,[],[]⟩ (Ah (aa 0))):=λpins s' σ H1 Q' I q=>pe pins s' σ H1 Q' I ⟨I.mod.kin,q⟩;refine⟨_,(kB (ps_ret pe2)).nox,F,aJ 1 [.lst xs],λd σ1=>d=.val (jX xs),RS.start _ sm r,⟨hh,rfl⟩,λv H1 F1 y σ1 s1 R1 r1 q1=>?_⟩;subst q1;exact K v H1 F1 (.sh (jX xs)) s1 R1.fr (same R1) R1.fro r1 q
end
end Vc

namespace Vc
open PySem L2
variable [KF]
structure CompSc1 (X:Cx)(scope:Scope)(N':List Str)(caps:List (Option Nat))(z:Str):Prop where
 kind:scope.kind=.function
 names:∀ y∈scope.names,y.2=.local->scope.names.lookup y.1=some .local
 free:∀ y∈scope.names,y.2=.free->X.env.kindOf y.1=some .cell\/X.env.kindOf y.1=some .free
 len:caps.length=N'.length
 cap:∀ (i:Nat) (j:Nat),caps[i]?=some (some j)->∃ x,N'[i]?=some x/\X.N[j]?=some x/\scope.names.lookup x=some .free
 cz:scope.names.lookup z=some .cell
 one:∀ y∈scope.names,y.2=.cell->y.1=z
 lay:∀ h:Heap,pushCells h scope.names=h.push { cls:=.type "cell",data:=.cell none }
 frm:∀ n acc,cellsFrom n scope.names acc=(z,n)::acc
section
variable {X:Cx}{pins:List (Addr×Obj)}{σ:St}{H:Hp}{s:Shared}{elt target iter:Expr}{ifs:List Expr}{scope:Scope}{pos:Pos}{N':List Str}{caps:List (Option Nat)}{z:Str}
end
section
variable {X:Cx}{elt iter:Expr}{ifs:List Expr}{scope:Scope}{pos:Pos}{N':List Str}{caps:List (Option Nat)}{wi:TI}{tc:TT}{te:TE}
end
variable {G:GE}{k:Nat}{S:Stat}
structure BlkC (S:Stat)(scope:Scope)(N':List Str)(caps:List (Option Nat))(z:Str):Prop where
 kind:scope.kind=.function
 nd:N'.Nodup
 names:scope.names.all (λy=>y.2 != .local||scope.names.lookup y.1==some .local)=true
 free:scope.names.all (λy=>y.2 != .free||S.sc.lookup y.1==some .cell||S.sc.lookup y.1==some .free)=true
 len:caps.length=N'.length
 cap:(caps.zip N').all (λp=>match p.1 with|some j=>S.N[j]?==some p.2&&scope.names.lookup p.2==some .free|none=>true)=true
 cz:scope.names.lookup z=some .cell
 one:scope.names.all (λy=>y.2 != .cell||y.1==z)=true
 lay:∀ h:Heap,pushCells h scope.names=h.push { cls:=.type "cell",data:=.cell none }
 frm:∀ n acc,cellsFrom n scope.names acc=(z,n)::acc
 idx:N'[0]?=some z
end Vc

namespace Vc
open PySem L2
variable [KF]
section
variable {X:Cx}
def Wb:V->List V->Hp->VK->Prop:=λx vs H Q=>∃ a z kvs k,x=.ref a/\vs=[kV k,z]/\H a=some (.dK kvs)/\kvs.length < sizeLine/\(∀ v,fu kvs k=some v->Q v H)/\(fu kvs k=none->Q z (bG H a (.dK (mL kvs k z))))
theorem HR:MtM X "dict.setdefault" Wb:=by
 intro pins s σ H x vs v us Q I rx rv h;obtain⟨a,z,kvs,k,rfl,rfl,e,hl,h1,h2⟩:=h;cases rx;cases rv with
 | cons ry rr =>
 cases rr with
 | cons rz rr =>
 cases rr;obtain⟨hz,hd,ws,rel,dd⟩:=yJ I.hok e;have hv:=rel.val k;have hlp:(mL kvs k z).length<=sizeLine:=by have:=qH kvs k z;omega
 refine call_meetsIn F.slot_dict_setdefault dd.typeIs F.entry_dict_setdefault (F.args_dict_setdefault_3 _ _ _) (kt_meets_setdefault (cD X.prog X.w) a (VM ry) hd _) ⟨ws,dd,by rw[<- rel.length];exact hz,λw hw=>?_,λhn h' dd' hs=>?_⟩
 ·rw[hw] at hv
  cases l:fu kvs k with
  | none=>rw[l] at hv;exact False.elim hv
  | some v=>rw[l] at hv;exact⟨v,H,I.tok _,hv,h1 v l⟩
 ·rw[hn] at hv
  cases l:fu kvs k with
  | some v=>rw[l] at hv;exact False.elim hv
  | none =>
   have he:∃ q,h'.get? a=some q:=let ⟨q,_,_,hq,_⟩:=dd';⟨q,hq⟩;exact⟨z,_,GH I (by rw[e];exact True.intro) hs he (Ls hlp hd (rel.put k rz) dd'),rz,h2 l⟩
def ZI (p a:Addr):HO:=.ext λh=>h.IsValuesView p a
def Wc:V->List V->Hp->VK->Prop:=λx vs H Q=>∃ a kvs,x=.ref a/\vs=[]/\H a=some (.dK kvs)/\∀ p,H p=none->Q (.ref p) (bG H p (ZI p a))
theorem HU:MtM X "dict.values" Wc:=by
 intro pins s σ H x vs v us Q I rx rv h;obtain⟨a,kvs,rfl,rfl,e,q⟩:=h;cases rx;cases rv;obtain⟨hz,hd,ws,rel,dd⟩:=yJ I.hok e;refine call_meetsIn F.slot_dict_values dd.typeIs F.entry_dict_values (F.args_dict_values_1 _) (meets_dict_values (cD X.prog X.w) a hd) ⟨⟨ws,dd⟩,?_⟩;have hg:=Heap.get?_push_size s.heap (o:={ cls:=.type "dict_values",data:=.fields #[.ref a] }) rfl;refine⟨.ref s.heap.objs.size,_,I.laid (t':=s.toks) (λb o e=>Heap.get?_push_of_some _ e) (Nat.le_refl _) (show ObjOk X.prog X.w _ _ _ (ZI _ a) from ⟨⟨_,hg,rfl,rfl⟩,⟨_,hg⟩,λh1 h2 ⟨o,ho,x⟩ k=>⟨o,k o ho,x⟩⟩),rfl,q _ I.fresh⟩
def LY:List V->Hp->VK->Prop:=λxs H Q=>∃ p a kvs,xs=[.ref p]/\H p=some (ZI p a)/\H a=some (.dK kvs)/\∀ l,H l=none->Q (.ref l) (bG H l (.lst (kvs.map (·.2))))
theorem ul (hc:X.calm=true):CallR X (.type "list") LY:=by
 intro pins s σ H xs us Q I r h;obtain⟨p,a,kvs,rfl,hp,e,q⟩:=h;obtain⟨u,rfl,ru⟩:=cV r;cases ru;obtain⟨hz,hd,ws,rel,dd⟩:=yJ I.hok e;obtain⟨ep,da⟩:=dd.dictAt;obtain⟨hv,_⟩:=I.hok p _ hp;have hv:s.heap.IsValuesView p a:=hv;refine PySem.W.kdl_call (PySem.W.kdl_values (knd:=cD X.prog X.w) (r:=p) (d:=a) (kvs:=ws) (ep:=ep)) (I.ok.hd hc) ⟨hv,da⟩ (by rw[<- rel.length];exact hz) λh' tk acc c kp hl items=>?_
 have ea:acc.toList=ws.map (·.2):=PySem.W.kdl_vals_eq acc.toList (by rw[Array.length_toList];exact items.1) λj v hj=>items.2 j v (by simpa using hj)
 have rv:Vals (kvs.map (·.2)) acc.toList:=by
  rw[ea];clear ea items e da dd hz q
  induction rel with
  | nil=>exact .nil
  | cons hx _ ih=>exact .cons hx.2 ih
 refine⟨.ref _,_,I.laid (t':=tk) kp (Nat.le_refl _) (show ObjOk X.prog X.w _ h' _ (.lst (kvs.map (·.2))) from ⟨by rw[List.length_map];exact hz,acc.toList,c,rv,by simpa using hl⟩),rfl,q _ I.fresh⟩
end
theorem RS.objSet {Y:Dyn}{F:Hp}{σd:Sd}{σ:St}{H H':Hp}{i:Nat}{o o':O}{a:Addr}(R:RS Y F σd σ H)(e:σd[i]?=some (some (.obj o)))(h:σ[i]?=some (some (.ref a)))
  (keep:∀ b,b∉o.fp a->H b≠none->H' b=H b) (live:∀ b,H b≠none->H' b≠none) (hfp:∀ b∈o'.fp a,b∈o.fp a\/H b=none) (hn:∀ b∈o'.fp a,H' b≠none)
  (hr:o'.rep F H' a):RS Y F (σd.set i (some (.obj o'))) σ H':=by
 obtain⟨a',w1,w2,w3⟩:=R.ob.obj i o e;rw[h] at w1;cases w1;have ow:∀ b∈o.fp a,gK σd σ b:=λb hb=>⟨i,o,a,e,h,hb⟩;have hl:i < σd.length:=(List.getElem?_eq_some_iff.mp e).1;refine⟨by simpa using R.len,R.lo,λb q z=>?_,R.fro,λb q z n=>?_,λj d z=>?_,λj xs z=>?_,λj l xs ys b z1 z2 z3 z4=>?_,λp hp=>?_,⟨λj p z=>?_,λj l p p2 b d z1 z2 z3 z4 hne x hx hx2=>?_,λj ys b z1 z2 ⟨l,p,d,z3,z4,hm⟩=>?_,λb hb=>live b (R.ob.there b hb),R.ob.thz,R.ob.tab⟩⟩
 ·have hb:b∉o.fp a:=λy=>by rw[(w3 b y).1] at z;cases z
  have:=R.fr b q z;rw[keep b hb (by rw[this];exact λy=>nomatch y)];exact this
 ·have hb:b∉o.fp a:=λy=>by
   rcases (w3 b y).2.2 with y|y
   ·rw[y] at z;cases z
   ·exact n (List.mem_append_right _ y)
  have:=R.old b q z n;rw[keep b hb (by rw[this];exact λy=>nomatch y)];exact this
 ·rcases gs z with ⟨_,y⟩|⟨_,z⟩
  ·cases y
  ·exact R.sh j d z
 ·rcases gs z with ⟨_,y⟩|⟨_,z⟩
  ·cases y
  ·obtain⟨b,vs,y1,y2,y3⟩:=R.own j xs z
   have hb:b∉o.fp a:=λy=>R.ob.dsx j xs b z y1 (ow b y);exact⟨b,vs,y1,by rw[keep b hb (by rw[y2];exact λy=>nomatch y)];exact y2,y3⟩
 ·rcases gs z1 with ⟨_,y⟩|⟨_,z1⟩
  ·cases y
  rcases gs z2 with ⟨_,y⟩|⟨_,z2⟩
  ·cases y
  exact R.dis j l xs ys b z1 z2 z3 z4
 ·obtain⟨y1,xs,y2⟩:=R.io p hp
  have:p.1≠i:=λy=>by rw[y,e] at y2;cases y2
  exact⟨y1,xs,by rw[bH this];exact y2⟩
 ·rcases gs z with ⟨rfl,y⟩|⟨hj,z⟩
  ·cases y
   refine⟨a,h,hr,λb hb=>?_⟩;rcases hfp b hb with y|y
   ·exact⟨(w3 b y).1,hn b hb,(w3 b y).2.2⟩
   ·exact⟨bq R.fr y,hn b hb,.inl (R.fresh0 y).1⟩
  ·obtain⟨b,y1,y2,y3⟩:=R.ob.obj j p z
   have kp:∀ d∈p.fp b,H' d=H d:=λd hd=>keep d (λy=>R.ob.dso i j o p a b e z h y1 (Ne.symm hj) d y hd) (y3 d hd).2.1;exact⟨b,y1,p.mono (Same.refl _) kp y2,λd hd=>⟨(y3 d hd).1,live d (y3 d hd).2.1,(y3 d hd).2.2⟩⟩
 ·rcases gs z1 with ⟨e1,y⟩|⟨hj,y1⟩
  ·cases y
   subst e1;rw[h] at z3;cases z3;rcases gs z2 with ⟨e2,_⟩|⟨hl2,y2⟩
   ·exact hne e2.symm
   ·rcases hfp x hx with y|y
    ·exact R.ob.dso j l o p2 a d e y2 h z4 hne x y hx2
    ·exact (R.ob.owned ⟨l,p2,d,y2,z4,hx2⟩).2.1 y
  ·rcases gs z2 with ⟨e2,y⟩|⟨hl2,y2⟩
   ·cases y
    subst e2;rw[h] at z4;cases z4;rcases hfp x hx2 with y|y
    ·exact R.ob.dso j l p o b a y1 e z3 h hne x hx y
    ·exact (R.ob.owned ⟨j,p,b,y1,z3,hx⟩).2.1 y
   ·exact R.ob.dso j l p p2 b d y1 y2 z3 z4 hne x hx hx2
 ·rcases gs z1 with ⟨_,y⟩|⟨_,y1⟩
  ·cases y
  rcases gs z3 with ⟨e3,y⟩|⟨_,y3⟩
  ·cases y
   subst e3;rw[h] at z4;cases z4;rcases hfp b hm with y|y
   ·exact R.ob.dsx j ys b y1 z2 (ow b y)
   ·obtain⟨c,vs,u1,u2,_⟩:=R.own j ys y1
    rw[z2] at u1;cases u1;rw[y] at u2;cases u2
  ·exact R.ob.dsx j ys b y1 z2 ⟨l,p,d,y3,z4,hm⟩
theorem RS.objGive {Y:Dyn}{F F':Hp}{σd:Sd}{σ:St}{H:Hp}{i:Nat}{o:O}{a:Addr}(R:RS Y F σd σ H)(e:σd[i]?=some (some (.obj o)))(h:σ[i]?=some (some (.ref a)))(hob:Y.ob=[])(sm:Same F F')
  (hF:∀ b u,F' b=some u->F b=some u\/(b∈o.fp a/\H b=some u)):RS Y F' (σd.set i none) σ H:=by
 obtain⟨a',w1,w2,w3⟩:=R.ob.obj i o e;rw[h] at w1;cases w1;have ow:∀ b∈o.fp a,gK σd σ b:=λb hb=>⟨i,o,a,e,h,hb⟩;have hl:i < σd.length:=(List.getElem?_eq_some_iff.mp e).1;refine⟨by simpa using R.len,R.lo.trans sm,λb q z=>?_,λb q z=>?_,R.old,λj d z=>?_,λj xs z=>?_,λj l xs ys b z1 z2 z3 z4=>?_,λp hp=>?_,⟨λj p z=>?_,λj l p p2 b d z1 z2=>?_,λj ys b z1 z2 ⟨l,p,d,z3,z4,hm⟩=>?_,R.ob.there,R.ob.thz,R.ob.tab.mono sm⟩⟩
 ·rcases hF b q z with y|y
  ·exact R.fr b q y
  ·exact y.2
 ·rcases hF b q z with y|y
  ·exact R.fro b q y
  ·exact .inr ((w3 b y.1).2.2.elim id λx=>by rw[hob] at x;cases x)
 ·rcases gs z with ⟨_,y⟩|⟨_,z⟩
  ·cases y
  ·obtain⟨v,y1,y2⟩:=R.sh j d z
   exact⟨v,y1,y2.mono sm⟩
 ·rcases gs z with ⟨_,y⟩|⟨_,z⟩
  ·cases y
  ·obtain⟨b,vs,y1,y2,y3,y4,y5⟩:=R.own j xs z
   refine⟨b,vs,y1,y2,y3.mono sm,?_,y5⟩;cases q:F' b with
   | none=>rfl
   | some u =>
    rcases hF b u q with y|y
    ·rw[y4] at y;cases y
    ·exact absurd (ow b y.1) (R.ob.dsx j xs b z y1)
 ·rcases gs z1 with ⟨_,y⟩|⟨_,z1⟩
  ·cases y
  rcases gs z2 with ⟨_,y⟩|⟨_,z2⟩
  ·cases y
  exact R.dis j l xs ys b z1 z2 z3 z4
 ·obtain⟨y1,xs,y2⟩:=R.io p hp
  have:p.1≠i:=λy=>by rw[y,e] at y2;cases y2
  exact⟨y1,xs,by rw[bH this];exact y2⟩
 ·rcases gs z with ⟨_,y⟩|⟨hj,z⟩
  ·cases y
  obtain⟨b,y1,y2,y3⟩:=R.ob.obj j p z;refine⟨b,y1,p.mono sm (λ_ _=>rfl) y2,λd hd=>⟨?_,(y3 d hd).2⟩⟩;cases q:F' d with
  | none=>rfl
  | some u =>
   rcases hF d u q with y|y
   ·rw[(y3 d hd).1] at y;cases y
   ·exact absurd hd (R.ob.dso i j o p a b e z h y1 (Ne.symm hj) d y.1)
 ·rcases gs z1 with ⟨_,y⟩|⟨_,z1⟩
  ·cases y
  rcases gs z2 with ⟨_,y⟩|⟨_,z2⟩
  ·cases y
  exact R.ob.dso j l p p2 b d z1 z2
 ·rcases gs z1 with ⟨_,y⟩|⟨_,z1⟩
  ·cases y
  rcases gs z3 with ⟨_,y⟩|⟨_,z3⟩
  ·cases y
  exact R.ob.dsx j ys b z1 z2 ⟨l,p,d,z3,z4,hm⟩
abbrev Gk:=List (Int×Addr×List D)
def rW (ts:Gk):List (eY×V):=ts.map λt=>(.inl t.1,.ref t.2.1)
def yg (ts:Gk):O where
 fp:=λa=>a::ts.map (·.2.1)
 rep:=λF H a=>H a=some (.dK (rW ts))/\(a::ts.map (·.2.1)).Nodup/\(ts.map (·.1)).Nodup/\∀ t∈ts,∃ vs,H t.2.1=some (.lst vs)/\RepL F vs t.2.2
 self:=λa=>List.mem_cons_self ..
 solid:=λ{F H a b φ} ⟨h,_,_,hs⟩ hb z=>by
  rcases List.mem_cons.mp hb with rfl|hb
  ·rw[h] at z;cases z
  ·obtain⟨t,ht,rfl⟩:=List.mem_map.mp hb
   obtain⟨vs,e,_⟩:=hs t ht;rw[e] at z;cases z
 mono:=λ{F F' H H' a} s e ⟨h,n1,n2,hs⟩=>⟨by rw[e a (List.mem_cons_self ..)];exact h,n1,n2,λt ht=>by
  obtain⟨vs,h1,h2⟩:=hs t ht;exact⟨vs,by rw[e _ (List.mem_cons_of_mem _ (List.mem_map_of_mem ht))];exact h1,h2.mono s⟩⟩
def fy (ts:Gk)(k:Int)(p:Addr)(d:D):Gk:=if (ts.any λt=>decide (t.1=k))=true then ts.map (λt=>if t.1=k then (t.1,t.2.1,t.2.2++[d]) else t) else ts++[(k,p,[d])]
theorem pA (k:Int):∀ ts:Gk,(fu (rW ts) (.inl k)=none/\(ts.any λt=>decide (t.1=k))=false)\/∃ t∈ts,t.1=k/\fu (rW ts) (.inl k)=some (.ref t.2.1)/\(ts.any λt=>decide (t.1=k))=true
 | []=>.inl ⟨rfl,rfl⟩
 | t::ts=>by
  by_cases e:t.1=k
  ·refine .inr ⟨t,.head _,e,?_,?_⟩
   ·show fu ((Sum.inl t.1,V.ref t.2.1)::rW ts) (.inl k)=_
    rw[kQ (show (Sum.inl t.1:eY)=.inl k by rw[e])]
   ·rw[List.any_cons,decide_eq_true e];rfl
  ·have hv:fu (rW (t::ts)) (.inl k)=fu (rW ts) (.inl k):=kR (p:=(Sum.inl t.1,V.ref t.2.1)) λz=>e (Sum.inl.inj z)
   rw[hv,List.any_cons,decide_eq_false e,Bool.false_or];rcases pA k ts with h|⟨u,hu,h⟩
   ·exact .inl h
   ·exact .inr ⟨u,.tail _ hu,h⟩
end Vc

namespace Vc
open PySem L2
variable [KF]
variable {G:GE}{k:Nat}{S:Stat}
def LZ:TX:=λσ Q=>Q (.obj (yg [])) σ
theorem HV {pos:Pos}:EX G k S (.Dict [] [] pos) LZ:=.mk λX Y ok=>br yL λσ H Q q=>by
 obtain⟨F,σd,Qd,R,q,K⟩:=q;intro p hp;refine K _ _ F (.obj (yg [])) σd (Same.refl _) (R.alloc0 hp) ⟨p,rfl,⟨aH,(by simp),List.nodup_nil,λt ht=>by cases ht⟩,λb hb=>?_⟩ q
 rw[List.mem_singleton.mp hb];exact⟨bq R.fr hp,(by rw[aH];exact λz=>nomatch z),(R.fresh0 hp).1,R.noFresh hp⟩
def tSA (i l j:Nat):bQ:=λDe σ=>∃ ts k d,σ[i]?=some (some (.obj (yg ts)))/\σ[l]?=some (some (.sh (.int k)))/\σ[j]?=some (some (.sh d))/\ts.length < 1000000/\(∀ t∈ts,t.2.2.length < 1000000)/\∀ p,De.nx (σ.set i (some (.obj (yg (fy ts k p d)))))
theorem jy {α β:Type}(f:α->β):∀ {l:List α},(l.map f).Nodup->∀ {x y:α},x∈l->y∈l->f x=f y->x=y
 | a::l,h,x,y,hx,hy,e=>by
  rw[List.map_cons,List.nodup_cons] at h;rcases List.mem_cons.mp hx with hx|hx
  ·rcases List.mem_cons.mp hy with hy|hy
   ·rw[hx,hy]
   ·exact absurd (by rw[<- hx,e];exact List.mem_map_of_mem hy) h.1
  ·rcases List.mem_cons.mp hy with hy|hy
   ·exact absurd (by rw[<- hy,<- e];exact List.mem_map_of_mem hx) h.1
   ·exact jy f h.2 hx hy e
theorem Ak (i l j:Nat){x y z:Str}{np kp lp vp ap1 cp1 ap2 cp2 pos:Pos}(hx:S.N[i]?=some x:=by rfl)(hy:S.N[l]?=some y:=by rfl)(hz:S.N[j]?=some z:=by rfl)
  (vx:S.sc.lookup x=some .local\/S.sc.lookup x=some .cell\/S.sc.lookup x=some .free:=by first|exact Or.inl rfl|exact Or.inr (Or.inl rfl)|exact Or.inr (Or.inr rfl))
  (vy:S.sc.lookup y=some .local\/S.sc.lookup y=some .cell\/S.sc.lookup y=some .free:=by first|exact Or.inl rfl|exact Or.inr (Or.inl rfl)|exact Or.inr (Or.inr rfl))
  (vz:S.sc.lookup z=some .local\/S.sc.lookup z=some .cell\/S.sc.lookup z=some .free:=by first|exact Or.inl rfl|exact Or.inr (Or.inl rfl)|exact Or.inr (Or.inr rfl))
  (dx:(x==("__debug__":Str))=false:=by decide) (cx:(x==("__classdict__":Str))=false:=by decide) (dy:(y==("__debug__":Str))=false:=by decide) (cy:(y==("__classdict__":Str))=false:=by decide)
  (dz:(z==("__debug__":Str))=false:=by decide) (cz:(z==("__classdict__":Str))=false:=by decide)
  (hl1:(ap1.endLine==cp1.line)=true:=by rfl) (hl2:(ap2.endLine==cp2.line)=true:=by rfl) :
  ES G k S (.Expr (.Call (.Attribute (.Call (.Attribute (.Name x np) "setdefault" ap1) [.Name y kp,.List [] lp] [] cp1) "append" ap2) [.Name z vp] [] cp2) pos) (tSA i l j):=.mk λX Y ok=>by
 have px:PE X (.Name x np) (xb i):=kM (by rw[ok.N];exact hx) (by unfold KO;rw[ok.sc];exact vx) dx cx
 have py:PE X (.Name y kp) (xb l):=kM (by rw[ok.N];exact hy) (by unfold KO;rw[ok.sc];exact vy) dy cy
 have pz:PE X (.Name z vp) (xb j):=kM (by rw[ok.N];exact hz) (by unfold KO;rw[ok.sc];exact vz) dz cz
 have pa1:PA X [.Name y kp,.List [] lp] (ge (xb l) (ge (Lk om) om)):=pa_cons py (pa_cons (kO pa_nil) pa_nil rfl) rfl;have p1:=yF (apos:=ap1) (cpos:=cp1) F.plainAttrs_dict F.slot_dict_setdefault F.type_dict_setdefault HR px pa1 rfl rfl hl1 rfl rfl;have p2:=yF (apos:=ap2) (cpos:=cp2) F.plainAttrs_list F.slot_list_append F.type_list_append jl p1 (pa_cons pz pa_nil rfl:PA X [.Name z vp] _) rfl rfl hl2 rfl rfl;refine ef (uS p2 rfl) λDn σ H q=>?_;obtain⟨F,σd,De,R,⟨ts,k,d,e1,e2,e3,hl,hlt,q⟩,K⟩:=q;obtain⟨a,w1,⟨w2,n1,n2,w3⟩,w4⟩:=R.ob.obj i _ e1;obtain⟨v2,y1,y2⟩:=R.sh l _ e2;cases (show Rep F v2 (.int k) from y2)
 obtain⟨v3,y3,y4⟩:=R.sh j _ e3;have ha:H a≠none:=by rw[w2];exact λz=>nomatch z
 have hin:∀ t∈ts,H t.2.1≠none:=λt ht=>by obtain⟨vs,h1,_⟩:=w3 t ht;rw[h1];exact λz=>nomatch z
 have han:∀ t∈ts,t.2.1≠a:=λt ht z=>(List.nodup_cons.mp n1).1 (z ▸ List.mem_map_of_mem ht);have nA:=(List.nodup_cons.mp n1).2;refine⟨.ref a,w1,.inr (.inr (.inl ⟨rfl,.inl ⟨_,w2⟩⟩)),.int k,y1,Nat.zero_le _,λp hp=>?_⟩;have hap:a≠p:=λz=>ha (z ▸ hp);have hnp:∀ {b:Addr},H b≠none->b≠p:=λ{b} hb z=>hb (z ▸ hp);have kl:(rW ts).length < sizeLine:=by unfold rW;rw[List.length_map,sizeLine_eq];omega
 refine⟨a,.ref p,rW ts,.inl k,rfl,rfl,by rw[ao hap];exact w2,kl,λv hv=>?_,λhv=>?_⟩
 ·rcases pA k ts with ⟨h1,_⟩|⟨t0,ht0,ek,h1,h2⟩
  ·rw[h1] at hv;cases hv
  rw[h1] at hv;cases hv;obtain⟨vs,g1,g2⟩:=w3 t0 ht0;have hb:=hnp (hin t0 ht0);refine⟨.inl ⟨rfl,vs,.inl (.inl (by rw[ao hb];exact g1))⟩,v3,y3,t0.2.1,vs,v3,rfl,rfl,by rw[ao hb];exact g1,by rw[sizeLine_eq,g2.length];have:=hlt t0 ht0;omega,?_⟩
  have ea:fy ts k p d=ts.map (λt=>if t.1=k then (t.1,t.2.1,t.2.2++[d]) else t):=if_pos h2
  have m1:(fy ts k p d).map (·.2.1)=ts.map (·.2.1):=by
   rw[ea,List.map_map];refine List.map_congr_left λt _=>?_;show (if t.1=k then (t.1,t.2.1,t.2.2++[d]) else t).2.1=t.2.1
   split<;>rfl
  have m2:(fy ts k p d).map (·.1)=ts.map (·.1):=by
   rw[ea,List.map_map];refine List.map_congr_left λt _=>?_;show (if t.1=k then (t.1,t.2.1,t.2.2++[d]) else t).1=t.1
   split<;>rfl
  have m3:rW (fy ts k p d)=rW ts:=by
   unfold rW;rw[ea,List.map_map];refine List.map_congr_left λt _=>?_;show (Sum.inl (if t.1=k then (t.1,t.2.1,t.2.2++[d]) else t).1,V.ref (if t.1=k then (t.1,t.2.1,t.2.2++[d]) else t).2.1)=(Sum.inl t.1,V.ref t.2.1)
   split<;>rfl
  have fp':(yg (fy ts k p d)).fp a=(yg ts).fp a:=by show a::_=a::_;rw[m1]
  have live:∀ b,H b≠none->bG (bG H p (.lst [])) t0.2.1 (.lst (vs++[v3])) b≠none:=λb hn=>by
   by_cases z:b=t0.2.1
   ·rw[z,aH];exact λy=>nomatch y
   ·rw[ao z,ao (hnp hn)];exact hn
  refine K.nx σ _ F _ (Same.refl _) (R.objSet (o':=yg (fy ts k p d)) e1 w1 (λb hb' hn=>?_) live (λb hb'=>.inl (by rw[<- fp'];exact hb')) (λb hb'=>?_) ⟨?_,by rw[m1];exact n1,by rw[m2];exact n2,λt' ht'=>?_⟩) (q p)
  ·have z1:b≠t0.2.1:=λz=>hb' (List.mem_cons_of_mem _ (z ▸ List.mem_map_of_mem ht0))
   rw[ao z1,ao (hnp hn)]
  ·rw[fp'] at hb'
   exact live b (w4 b hb').2.1
  ·rw[ao (Ne.symm (han t0 ht0)),ao hap,m3];exact w2
  ·rw[ea] at ht'
   obtain⟨t,ht,rfl⟩:=List.mem_map.mp ht'
   by_cases hk:t.1=k
   ·rw[if_pos hk]
    obtain rfl:t=t0:=jy (·.1) n2 ht ht0 (hk.trans ek.symm)
    exact⟨_,aH,g2.append (.cons y4 .nil)⟩
   ·rw[if_neg hk]
    have hne:t.2.1≠t0.2.1:=λz=>hk (by rw[jy (·.2.1) nA ht ht0 z];exact ek)
    obtain⟨us,h3,h4⟩:=w3 t ht;exact⟨us,by rw[ao hne,ao (hnp (hin t ht))];exact h3,h4⟩
 ·rcases pA k ts with ⟨h1,h2⟩|⟨t0,ht0,ek,h1,h2⟩
  case inr=>rw[h1] at hv;cases hv
  have hpa:p≠a:=Ne.symm hap;have ea:fy ts k p d=ts++[(k,p,[d])]:=if_neg (by rw[h2];decide)
  have g0:bG (bG H p (.lst [])) a (.dK (mL (rW ts) (.inl k) (.ref p))) p=some (.lst []):=by rw[ao hpa,aH]
  refine⟨.inl ⟨rfl,[],.inl (.inl g0)⟩,v3,y3,p,[],v3,rfl,rfl,g0,by rw[sizeLine_eq];exact Nat.succ_pos _,?_⟩
  have hpi:p∉ts.map (·.2.1):=λz=>by obtain⟨t,ht,e⟩:=List.mem_map.mp z;exact hin t ht (e ▸ hp)
  have hki:k∉ts.map (·.1):=λz=>by
   obtain⟨t,ht,e⟩:=List.mem_map.mp z;have:=List.any_eq_false.mp h2 t ht;exact this (decide_eq_true e)
  have live:∀ b,H b≠none->bG (bG (bG H p (.lst [])) a (.dK (mL (rW ts) (.inl k) (.ref p)))) p (.lst ([]++[v3])) b≠none:=λb hn=>by
   rw[ao (hnp hn)]
   by_cases z:b=a
   ·rw[z,aH];exact λy=>nomatch y
   ·rw[ao z,ao (hnp hn)];exact hn
  have m1:(fy ts k p d).map (·.2.1)=ts.map (·.2.1)++[p]:=by rw[ea,List.map_append];rfl
  have fp':∀ b,b∈(yg (fy ts k p d)).fp a->b∈(yg ts).fp a\/b=p:=λb hb=>by
   have hb:b∈a::(fy ts k p d).map (·.2.1):=hb
   rw[m1] at hb;rcases List.mem_cons.mp hb with rfl|hb
   ·exact .inl (List.mem_cons_self ..)
   ·rcases List.mem_append.mp hb with hb|hb
    ·exact .inl (List.mem_cons_of_mem _ hb)
    ·exact .inr (List.mem_singleton.mp hb)
  refine K.nx σ _ F _ (Same.refl _) (R.objSet (o':=yg (fy ts k p d)) e1 w1 (λb hb' hn=>?_) live (λb hb'=>(fp' b hb').imp id λ(z:b=p)=>by rw[z];exact hp) (λb hb'=>?_) ⟨?_,?_,?_,λt ht=>?_⟩) (q p)
  ·have z1:b≠a:=λz=>hb' (z ▸ List.mem_cons_self ..)
   rw[ao (hnp hn),ao z1,ao (hnp hn)]
  ·rcases fp' b hb' with hb|rfl
   ·exact live b (w4 b hb).2.1
   ·rw[aH];exact λy=>nomatch y
  ·rw[ao hap,aH,yI _ hv,ea]
   show _=some (HO.dK ((ts++[(k,p,[d])]).map _));rw[List.map_append];rfl
  ·rw[m1,<- List.cons_append,List.nodup_append]
   refine⟨n1,by simp,λx hx y hy=>?_⟩
   rw[List.mem_singleton.mp hy];intro z;rw[z] at hx;rcases List.mem_cons.mp hx with hx|hx
   ·exact hpa hx
   ·exact hpi hx
  ·rw[ea,List.map_append,List.nodup_append]
   refine⟨n2,by simp,λx hx y hy=>?_⟩
   have hy:y=k:=by simpa using hy
   intro z;rw[z,hy] at hx;exact hki hx
  ·rw[ea] at ht
   rcases List.mem_append.mp ht with ht|ht
   ·obtain⟨us,h3,h4⟩:=w3 t ht
    exact⟨us,by rw[ao (hnp (hin t ht)),ao (han t ht),ao (hnp (hin t ht))];exact h3,h4⟩
   ·rw[List.mem_singleton.mp ht]
    exact⟨_,aH,.cons y4 .nil⟩
def tVl (i:Nat):TX:=λσ Q=>∃ ts,σ[i]?=some (some (.obj (yg ts)))/\Q (.own (ts.map λt=>.lst t.2.2)) (σ.set i none)
theorem Ma (i:Nat){x:Str}{lp np ap cp pos:Pos}(hm:G.mg "list"=none)(hx:S.N[i]?=some x:=by rfl)
  (vx:S.sc.lookup x=some .local\/S.sc.lookup x=some .cell\/S.sc.lookup x=some .free:=by first|exact Or.inl rfl|exact Or.inr (Or.inl rfl)|exact Or.inr (Or.inr rfl))
  (dx:(x==("__debug__":Str))=false:=by decide) (cx:(x==("__classdict__":Str))=false:=by decide) (hl:(ap.endLine==cp.line)=true:=by rfl) (hg:S.sc.lookup ("list":Str)=some .globalImplicit:=by rfl) (hh:S.hot=false:=by rfl) (hbk:S.blk=false:=by rfl) (hio:S.ios=[]:=by rfl) :
  EX G k S (.Call (.Name "list" lp) [.Call (.Attribute (.Name x np) "values" ap) [] [] cp] [] pos) (tVl i):=.mk λX Y ok=>by
 have px:PE X (.Name x np) (xb i):=kM (by rw[ok.N];exact hx) (by unfold KO;rw[ok.sc];exact vx) dx cx
 have p1:=Lr (apos:=ap) (cpos:=cp) F.plainAttrs_dict F.slot_dict_values F.type_dict_values HU px rfl hl;refine br (fK (ul (ok.calm hh)) (dG ok hg) (by rw[ok.mg];exact hm) (by decide +kernel) (pa_cons p1 pa_nil rfl) (by decide) (by decide) rfl rfl) λσ H Q q=>?_
 obtain⟨F,σd,Qd,R,⟨ts,e,q⟩,K⟩:=q;obtain⟨a,w1,⟨w2,n1,n2,w3⟩,w4⟩:=R.ob.obj i _ e;refine⟨.ref a,w1,.inr (.inr (.inl ⟨rfl,.inl ⟨_,w2⟩⟩)),a,_,rfl,rfl,w2,λp hp=>?_⟩;have ha:H a≠none:=by rw[w2];exact λz=>nomatch z
 have hap:a≠p:=λz=>ha (z ▸ hp);refine⟨p,a,_,rfl,aH,by rw[ao hap];exact w2,λl hl=>?_⟩
 have hob:=ok.obs hbk hio;have sF:Same F (λb=>if b∈ts.map (·.2.1) then H b else F b):=λb u z=>by
  have:b∉ts.map (·.2.1):=λy=>by rw[(w4 b (List.mem_cons_of_mem _ y)).1] at z;cases z
  show (if b∈ts.map (·.2.1) then H b else F b)=some u
  rw[if_neg this];exact z
 have R1:=R.objGive e w1 hob sF λb u z=>by
  have z:(if b∈ts.map (·.2.1) then H b else F b)=some u:=z
  split at z
  ·rename_i hb;exact .inr ⟨List.mem_cons_of_mem _ hb,z⟩
  ·exact .inl z
 have R2:=R1.alloc0 (o:=ZI p a) hp;have R3:=R2.alloc0 (o:=.lst ((rW ts).map (·.2))) hl
 have rl:RepL (λb=>if b∈ts.map (·.2.1) then H b else F b) ((rW ts).map (·.2)) (ts.map λt=>.lst t.2.2):=by
  have key:∀ us:Gk,(∀ t∈us,t∈ts)->RepL (λb=>if b∈ts.map (·.2.1) then H b else F b) ((rW us).map (·.2)) (us.map λt=>.lst t.2.2):=by
   intro us
   induction us with
   | nil=>intro _;exact .nil
   | cons t us ih =>
    intro hu;obtain⟨vs,h1,h2⟩:=w3 t (hu t (.head _));refine .cons (.lst (.inl ?_) (h2.mono sF)) (ih λx hx=>hu x (.tail _ hx));show (if t.2.1∈ts.map (·.2.1) then H t.2.1 else F t.2.1)=_
    rw[if_pos (List.mem_map_of_mem (hu t (.head _)))];exact h1
  exact key ts λt ht=>ht
 refine K (.ref l) _ _ (.own (ts.map λt=>.lst t.2.2)) (σd.set i none) sF R3 ⟨l,_,rfl,aH,rl,bq R2.fr hl,(R2.fresh0 hl).1,R2.noFresh hl⟩ q
end Vc

namespace Vc
open PySem L2
variable [KF]
variable {G:GE}{k:Nat}{S:Stat}
end Vc

set_option maxHeartbeats 0
namespace K53
open PySem L2 Vc

section
def dN (i:Nat):Stmt:=PySem.Challenge.pw_closepoints_k53_whole_turned_points.main.body.getD i (.Pass ⟨0,0,0,0⟩)
variable [KF]
structure Gl (G:GE):Prop where
 z_abs:G.mg "abs"=none
 z_enumerate:G.mg "enumerate"=none
 z_int:G.mg "int"=none
 z_len:G.mg "len"=none
 z_list:G.mg "list"=none
 z_max:G.mg "max"=none
 z_min:G.mg "min"=none
 z_range:G.mg "range"=none
 z_sorted:G.mg "sorted"=none
 z_sum:G.mg "sum"=none
 z_tuple:G.mg "tuple"=none
 z_zip:G.mg "zip"=none
 c_SQUARES:Ly G "SQUARES" (.str "squares")
 c_STREETS:Ly G "STREETS" (.str "streets")
variable {G:GE}{k:Nat}
abbrev ic:Stmt:=dN 10
abbrev Al:List Str:=["count"]
theorem Mb:FnScope Al ["count"] (af ic):=⟨rfl,rfl,rfl,by decide +kernel,rfl,by decide +kernel,by decide +kernel⟩
def Am:bQ:=(cC (oG (aW Gh (aa 0) (aY (.int 1))) (aW ZA (aa 0) (aY (.int 3)))) qN gJ)
theorem Wd (E:Gl G):ESs G k ⟨Al,(af ic).names,[],false,false,false,λ_ _=>False⟩ (ak ic) (Am):=(aI (db (GM (tV (aX yQ (ab 0) az) (ld (aX VQ (ab 0) az)))) (aI fN) bR))
abbrev pB:Stmt:=dN 11
abbrev Mc:List Str:=["point","count"]
theorem We:FnScope Mc ["point","count"] (af pB):=⟨rfl,rfl,rfl,by decide +kernel,rfl,by decide +kernel,by decide +kernel⟩
def Md:bQ:=(cC (aW mN (aL (dh eg (bh (aa 0) cB))) (aa 1)) qN gJ)
theorem e_q0 (E:Gl G):ESs G k ⟨Mc,(af pB).names,[],false,false,false,λ_ _=>False⟩ (ak pB) (Md):=(aI (db (aX eN (aO (cM dH E.z_len (aG (ab 0) aS) (by decide +kernel))) (ab 1)) (aI fN) bR))
abbrev ie:Stmt:=dN 12
abbrev An:List Str:=["points","point"]
theorem Me:FnScope An ["points"] (af ie):=⟨rfl,rfl,rfl,by decide +kernel,rfl,by decide +kernel,by decide +kernel⟩
def Ao (pC:aQ)(vC:aQ):bQ:=(di (bI (ag [] (aa 0))) (cO 1) (bA (gc (bJ pC (aA (ag [] (aL (dh eg (bh (aa 1) cB)))) tN))) (gc (bJ vC (aA (ag [] (aa 1)) (aA (ag [] (aL (dh eg (bh (dP (aa 0) (aY (.int 0))) cB)))) tN))))))
theorem Wf (E:Gl G){pC:aQ}(Ap:FnG G k "need_count" pC){vC:aQ}(Mf:FnG G k "need_as_many_numbers" vC):ESs G k ⟨An,(af ie).names,[],false,false,false,λ_ _=>False⟩ (ak ie) (Ao pC vC):=(aI (jN (cJ (av (ab 0))) (aP 1) (ar (bx (au Ap (ad (av (aO (cM dH E.z_len (aG (ab 1) aS) (by decide +kernel)))) am))) (aI (bx (au Mf (ad (av (ab 1)) (ad (av (aO (cM dH E.z_len (aG (ck (ab 0) az) aS) (by decide +kernel)))) am))))))))
abbrev ig:Stmt:=dN 13
abbrev Aq:List Str:=["way"]
theorem Mg:FnScope Aq ["way"] (af ig):=⟨rfl,rfl,rfl,by decide +kernel,rfl,by decide +kernel,by decide +kernel⟩
def As:bQ:=(cC (gh (aW mN (aa 0) (aY (.str "streets"))) (aW mN (aa 0) (aY (.str "squares")))) qN gJ)
theorem Wg (E:Gl G):ESs G k ⟨Aq,(af ig).names,[],false,false,false,λ_ _=>False⟩ (ak ig) (As):=(aI (db (GM (yU (aX eN (ab 0) (yO E.c_STREETS)) (yT (aX eN (ab 0) (yO E.c_SQUARES))))) (aI fN) bR))
abbrev pD:Stmt:=dN 14
abbrev Mh:List Str:=["points","way"]
theorem Wh:FnScope Mh ["points","way"] (af pD):=⟨rfl,rfl,rfl,by decide +kernel,rfl,by decide +kernel,by decide +kernel⟩
def Mi (bz:aQ)(pE:aQ):bQ:=(bA (gc (bJ bz (aA (ag [] (aa 0)) tN))) (gc (bJ pE (aA (ag [] (aa 1)) tN))))
theorem e_q2 (E:Gl G){bz:aQ}(cX:FnG G k "need_points" bz){pE:aQ}(Au:FnG G k "need_way" pE):ESs G k ⟨Mh,(af pD).names,[],false,false,false,λ_ _=>False⟩ (ak pD) (Mi bz pE):=(ar (bx (au cX (ad (av (ab 0)) am))) (aI (bx (au Au (ad (av (ab 1)) am)))))
abbrev pF:Stmt:=dN 15
abbrev Mj:List Str:=["points","others"]
theorem Wi:FnScope Mj ["points","others"] (af pF):=⟨rfl,rfl,rfl,by decide +kernel,rfl,by decide +kernel,by decide +kernel⟩
def Ml (bz:aQ):bQ:=(gc (bJ bz (aA (ag [] (aL (aU cZ (aa 0) (aa 1)))) tN)))
theorem e_q9 (E:Gl G){bz:aQ}(cX:FnG G k "need_points" bz):ESs G k ⟨Mj,(af pF).names,[],false,false,false,λ_ _=>False⟩ (ak pF) (Ml bz):=(aI (bx (au cX (ad (av (aO (cv (ab 0) (ab 1)))) am))))
abbrev ii:Stmt:=dN 16
abbrev Av:List Str:=["points","place"]
theorem Mm:FnScope Av ["points","place"] (af ii):=⟨rfl,rfl,rfl,by decide +kernel,rfl,by decide +kernel,by decide +kernel⟩
def Aw:bQ:=(cC (oG (aW Gh (aa 1) (aY (.int 0))) (aW ZB (aa 1) (aL (dh eg (bh (aa 0) cB))))) qN gJ)
theorem Wj (E:Gl G):ESs G k ⟨Av,(af ii).names,[],false,false,false,λ_ _=>False⟩ (ak ii) (Aw):=(aI (db (GM (tV (aX yQ (ab 1) az) (ld (aX VR (ab 1) (aO (cM dH E.z_len (aG (ab 0) aS) (by decide +kernel))))))) (aI fN) bR))
abbrev ik:Stmt:=dN 17
abbrev Ax:List Str:=["bound"]
theorem Mn:FnScope Ax ["bound"] (af ik):=⟨rfl,rfl,rfl,by decide +kernel,rfl,by decide +kernel,by decide +kernel⟩
def Ay:bQ:=(cC (aW Gh (aa 0) (aY (.int 0))) qN gJ)
theorem Wk (E:Gl G):ESs G k ⟨Ax,(af ik).names,[],false,false,false,λ_ _=>False⟩ (ak ik) (Ay):=(aI (db (aX yQ (ab 0) az) (aI fN) bR))
abbrev il:Stmt:=dN 18
abbrev Az:List Str:=["number"]
theorem Mo:FnScope Az ["number"] (af il):=⟨rfl,rfl,rfl,by decide +kernel,rfl,by decide +kernel,by decide +kernel⟩
def AA:bQ:=(cC (aW Gh (aa 0) (aY (.int 1))) qN gJ)
theorem Wl (E:Gl G):ESs G k ⟨Az,(af il).names,[],false,false,false,λ_ _=>False⟩ (ak il) (AA):=(aI (db (aX yQ (ab 0) az) (aI fN) bR))
abbrev pG:Stmt:=dN 20
abbrev Mp:List Str:=["points","number"]
theorem Wm:FnScope Mp ["points","number"] (af pG):=⟨rfl,rfl,rfl,by decide +kernel,rfl,by decide +kernel,by decide +kernel⟩
def Mq (pH:aQ):bQ:=(gc (bJ pH (aA (ag [] (tIfE (tU (aa 0)) (dP (aa 0) (aY (.int 0))) (qL tN))) (aA (ag [] (aa 1)) tN))))
theorem e_q1 (E:Gl G){pH:aQ}(AB:FnG G k "need_place" pH):ESs G k ⟨Mp,(af pG).names,[],false,false,false,λ_ _=>False⟩ (ak pG) (Mq pH):=(aI (bx (au AB (ad (av (IO (lc (ab 0)) (ck (ab 0) az) (fe am))) (ad (av (ab 1)) am)))))
abbrev im:Stmt:=dN 21
abbrev AC:List Str:=["point","by"]
theorem Mr:FnScope AC ["point","by"] (af im):=⟨rfl,rfl,rfl,by decide +kernel,rfl,by decide +kernel,by decide +kernel⟩
def AD:bQ:=(du [] (dh cF (bh (aL (bL [] [none,none] (xw (aA (ag [] (aa 0)) (aA (ag [] (aa 1)) tN))) (tZ 2 (gC (cO 0) (gC (cO 1) tY))) bF (ag [] (aL (aU cZ (aa 0) (aa 1)))))) cB)))
theorem Wn (E:Gl G):ESs G k ⟨AC,(af im).names,[],false,false,false,λ_ _=>False⟩ (ak im) (AD):=(aI (be (fZ cE E.z_tuple (aG (aO (bS (N':=["number","more"]) (vg (ad (av (ab 0)) (ad (av (ab 1)) am)) E.z_zip) ⟨rfl,by decide +kernel,by decide +kernel,by decide +kernel,by decide +kernel,rfl,by decide +kernel⟩ (gj (bw (aP 0) (bw (aP 1) ei))) cf (av (aO (cv (ab 0) (ab 1)))))) aS) (by decide +kernel))))
abbrev ip:Stmt:=dN 22
abbrev AE:List Str:=["point","number","numbers"]
theorem Ms:FnScope AE ["point","number"] (af ip):=⟨rfl,rfl,rfl,by decide +kernel,rfl,by decide +kernel,by decide +kernel⟩
def AF:bQ:=(bA (cN [] 2 (dh qM (bh (aa 0) cB))) (bA (jU 2 (aa 1) (ag [] (xt (dP (aa 2) (aa 1))))) (du [] (dh cF (bh (aa 2) cB)))))
theorem Wo (E:Gl G):ESs G k ⟨AE,(af ip).names,[],false,false,false,λ_ _=>False⟩ (ak ip) (AF):=(ar (bf 2 (fZ yZ E.z_list (aG (ab 0) aS) (by decide +kernel))) (ar (jw 2 (av (uW (ck (ab 2) (ab 1)))) (ab 1) (ab 2)) (aI (be (fZ cE E.z_tuple (aG (ab 2) aS) (by decide +kernel))))))
abbrev pI:Stmt:=dN 23
abbrev Mt:List Str:=["point","one","other","numbers"]
theorem Wp:FnScope Mt ["point","one","other"] (af pI):=⟨rfl,rfl,rfl,by decide +kernel,rfl,by decide +kernel,by decide +kernel⟩
def Mu:bQ:=(bA (cN [] 3 (dh qM (bh (aa 0) cB))) (bA (jU 3 (aa 1) (ag [] (dP (aa 0) (aa 2)))) (bA (jU 3 (aa 2) (ag [] (dP (aa 0) (aa 1)))) (du [] (dh cF (bh (aa 3) cB))))))
theorem e_q5 (E:Gl G):ESs G k ⟨Mt,(af pI).names,[],false,false,false,λ_ _=>False⟩ (ak pI) (Mu):=(ar (bf 3 (fZ yZ E.z_list (aG (ab 0) aS) (by decide +kernel))) (ar (jw 3 (av (ck (ab 0) (ab 2))) (ab 1) (ab 3)) (ar (jw 3 (av (ck (ab 0) (ab 1))) (ab 2) (ab 3)) (aI (be (fZ cE E.z_tuple (aG (ab 3) aS) (by decide +kernel)))))))
abbrev iq:Stmt:=dN 24
abbrev AG:List Str:=["points","by"]
theorem Mv:FnScope AG ["points","by"] (af iq):=⟨rfl,rfl,rfl,by decide +kernel,rfl,by decide +kernel,by decide +kernel⟩
def AH (bz:aQ)(pJ:aQ):bQ:=(bA (gc (bJ bz (aA (ag [] (aL (aU cZ (aa 0) (aL (kn (aA (ag [] (aa 1)) tN)))))) tN))) (du [] (bL [] [none,some 1] (bI (ag [] (aa 0))) (cO 0) bF (ag [] (aL (bJ pJ (aA (ag [] (aa 0)) (aA (ag [] (aa 1)) tN))))))))
theorem Wq (E:Gl G){bz:aQ}(cX:FnG G k "need_points" bz){pJ:aQ}(AI:FnG G k "point_moved" pJ):ESs G k ⟨AG,(af iq).names,[],false,false,false,λ_ _=>False⟩ (ak iq) (AH bz pJ):=(ar (bx (au cX (ad (av (aO (cv (ab 0) (aO (cA (ad (av (ab 1)) am)))))) am))) (aI (be (bS (N':=["point","by"]) (cJ (av (ab 0))) ⟨rfl,by decide +kernel,by decide +kernel,by decide +kernel,by decide +kernel,rfl,by decide +kernel⟩ (aP 0) cf (av (aO (au AI (ad (av (ab 0)) (ad (av (ab 1)) am)))))))))
abbrev ir:Stmt:=dN 25
abbrev AJ:List Str:=["points","number"]
theorem Mw:FnScope AJ ["points","number"] (af ir):=⟨rfl,rfl,rfl,by decide +kernel,rfl,by decide +kernel,by decide +kernel⟩
def AK (bz:aQ)(gk:aQ)(pK:aQ):bQ:=(bA (gc (bJ bz (aA (ag [] (aa 0)) tN))) (bA (gc (bJ gk (aA (ag [] (aa 0)) (aA (ag [] (aa 1)) tN)))) (du [] (bL [] [none,some 1] (bI (ag [] (aa 0))) (cO 0) bF (ag [] (aL (bJ pK (aA (ag [] (aa 0)) (aA (ag [] (aa 1)) tN)))))))))
theorem Wr (E:Gl G){bz:aQ}(cX:FnG G k "need_points" bz){gk:aQ}(um:FnG G k "need_place_of_number" gk){pK:aQ}(AL:FnG G k "point_mirrored" pK):ESs G k ⟨AJ,(af ir).names,[],false,false,false,λ_ _=>False⟩ (ak ir) (AK bz gk pK):=(ar (bx (au cX (ad (av (ab 0)) am))) (ar (bx (au um (ad (av (ab 0)) (ad (av (ab 1)) am)))) (aI (be (bS (N':=["point","number"]) (cJ (av (ab 0))) ⟨rfl,by decide +kernel,by decide +kernel,by decide +kernel,by decide +kernel,rfl,by decide +kernel⟩ (aP 0) cf (av (aO (au AL (ad (av (ab 0)) (ad (av (ab 1)) am))))))))))
abbrev iu:Stmt:=dN 26
abbrev AM:List Str:=["points","one","other"]
theorem Mx:FnScope AM ["points","one","other"] (af iu):=⟨rfl,rfl,rfl,by decide +kernel,rfl,by decide +kernel,by decide +kernel⟩
def AN (bz:aQ)(gk:aQ)(vD:aQ):bQ:=(bA (gc (bJ bz (aA (ag [] (aa 0)) tN))) (bA (gc (bJ gk (aA (ag [] (aa 0)) (aA (ag [] (aa 1)) tN)))) (bA (gc (bJ gk (aA (ag [] (aa 0)) (aA (ag [] (aa 2)) tN)))) (du [] (bL [] [none,some 1,some 2] (bI (ag [] (aa 0))) (cO 0) bF (ag [] (aL (bJ vD (aA (ag [] (aa 0)) (aA (ag [] (aa 1)) (aA (ag [] (aa 2)) tN)))))))))))
theorem Ws (E:Gl G){bz:aQ}(cX:FnG G k "need_points" bz){gk:aQ}(um:FnG G k "need_place_of_number" gk){vD:aQ}(My:FnG G k "point_exchanged" vD):ESs G k ⟨AM,(af iu).names,[],false,false,false,λ_ _=>False⟩ (ak iu) (AN bz gk vD):=(ar (bx (au cX (ad (av (ab 0)) am))) (ar (bx (au um (ad (av (ab 0)) (ad (av (ab 1)) am)))) (ar (bx (au um (ad (av (ab 0)) (ad (av (ab 2)) am)))) (aI (be (bS (N':=["point","one","other"]) (cJ (av (ab 0))) ⟨rfl,by decide +kernel,by decide +kernel,by decide +kernel,by decide +kernel,rfl,by decide +kernel⟩ (aP 0) cf (av (aO (au My (ad (av (ab 0)) (ad (av (ab 1)) (ad (av (ab 2)) am))))))))))))
abbrev iw:Stmt:=dN 27
abbrev AO:List Str:=["points","many"]
theorem Mz:FnScope AO ["points","many"] (af iw):=⟨rfl,rfl,rfl,by decide +kernel,rfl,by decide +kernel,by decide +kernel⟩
def AQ (bz:aQ)(pL:aQ):bQ:=(bA (gc (bJ bz (aA (ag [] (aa 0)) tN))) (bA (gc (bJ pL (aA (ag [] (aa 1)) tN))) (du [] (bL [] [none,some 1] (bI (ag [] (aa 0))) (cO 0) bF (ag [] (aL (dh cF (bh (aL (bL [] [none,some 1] (bI (ag [] (aa 0))) (cO 0) bF (ag [] (aL (aU dB (aa 0) (aa 1)))))) cB))))))))
theorem Wt (E:Gl G){bz:aQ}(cX:FnG G k "need_points" bz){pL:aQ}(AR:FnG G k "need_number" pL):ESs G k ⟨AO,(af iw).names,[],false,false,false,λ_ _=>False⟩ (ak iw) (AQ bz pL):=(ar (bx (au cX (ad (av (ab 0)) am))) (ar (bx (au AR (ad (av (ab 1)) am))) (aI (be (bS (N':=["point","many"]) (cJ (av (ab 0))) ⟨rfl,by decide +kernel,by decide +kernel,by decide +kernel,by decide +kernel,rfl,by decide +kernel⟩ (aP 0) cf (av (aO (fZ cE E.z_tuple (aG (aO (bS (N':=["number","many"]) (cJ (av (ab 0))) ⟨rfl,by decide +kernel,by decide +kernel,by decide +kernel,by decide +kernel,rfl,by decide +kernel⟩ (aP 0) cf (av (aO (cP (ab 0) (ab 1)))))) aS) (by decide +kernel)))))))))
abbrev iy:Stmt:=dN 28
abbrev AS:List Str:=["points","others","by"]
theorem MA:FnScope AS ["points","others"] (af iy):=⟨rfl,rfl,rfl,by decide +kernel,rfl,by decide +kernel,by decide +kernel⟩
def AU (vE:aQ)(bZ:aQ):bQ:=(bA (gc (bJ vE (aA (ag [] (aa 0)) (aA (ag [] (aa 1)) tN)))) (bA (cC (oG (nk (tU (aa 0))) (aW mN (aL (dh eg (bh (aa 0) cB))) (aL (dh eg (bh (aa 1) cB))))) (du [] (oX (aY .non))) gJ) (bA (cN [] 2 (dh cF (bh (aL (bL [] [none,none] (xw (aA (ag [] (aL (dh rO (bh (aa 0) cB)))) (aA (ag [] (aL (dh rO (bh (aa 1) cB)))) tN))) (tZ 2 (gC (cO 0) (gC (cO 1) tY))) bF (ag [] (aL (aU gN (aa 1) (aa 0)))))) cB))) (bA (cC (aW mN (aL (dh fS (bh (aL (bJ bZ (aA (ag [] (aa 0)) (aA (ag [] (aa 2)) tN)))) cB))) (aL (dh fS (bh (aa 1) cB)))) (du [] (oX (aY .non))) gJ) (du [] (oX (aa 2)))))))
theorem Wu (E:Gl G){vE:aQ}(MB:FnG G k "need_two_lists" vE){bZ:aQ}(dW:FnG G k "moved" bZ):ESs G k ⟨AS,(af iy).names,[],false,false,false,λ_ _=>False⟩ (ak iy) (AU vE bZ):=(ar (bx (au MB (ad (av (ab 0)) (ad (av (ab 1)) am)))) (ar (db (GM (tV (oH (lc (ab 0))) (ld (aX eN (aO (cM dH E.z_len (aG (ab 0) aS) (by decide +kernel))) (aO (cM dH E.z_len (aG (ab 1) aS) (by decide +kernel))))))) (aI (be (fY gf))) bR) (ar (bf 2 (fZ cE E.z_tuple (aG (aO (bS (N':=["here","there"]) (vg (ad (av (aO (cM zZ E.z_min (aG (ab 0) aS) (by decide +kernel)))) (ad (av (aO (cM zZ E.z_min (aG (ab 1) aS) (by decide +kernel)))) am)) E.z_zip) ⟨rfl,by decide +kernel,by decide +kernel,by decide +kernel,by decide +kernel,rfl,by decide +kernel⟩ (gj (bw (aP 0) (bw (aP 1) ei))) cf (av (aO (eZ (ab 1) (ab 0)))))) aS) (by decide +kernel))) (ar (db (aX eN (aO (cM lN E.z_sorted (aG (aO (au dW (ad (av (ab 0)) (ad (av (ab 2)) am)))) aS) (by decide +kernel))) (aO (cM lN E.z_sorted (aG (ab 1) aS) (by decide +kernel)))) (aI (be (fY gf))) bR) (aI (be (fY (ab 2))))))))
abbrev iA:Stmt:=dN 30
abbrev AV:List Str:=["way","point","other","differences"]
theorem MC:FnScope AV ["way","point","other"] (af iA):=⟨rfl,rfl,rfl,by decide +kernel,rfl,by decide +kernel,by decide +kernel⟩
def AW:bQ:=(bA (cN [] 3 (bL [] [none,none] (xw (aA (ag [] (aa 1)) (aA (ag [] (aa 2)) tN))) (tZ 2 (gC (cO 0) (gC (cO 1) tY))) bF (ag [] (aL (dh GR (bh (aL (aU gN (aa 0) (aa 1))) cB)))))) (bA (cC (aW qK (aa 0) (aY (.str "streets"))) (du [] (dh xx (bh (aa 3) cB))) gJ) (du [] (dh xx (bh (aL (bL [] [none] (bI (ag [] (aa 3))) (cO 0) bF (ag [] (aL (aU dB (aa 0) (aa 0)))))) cB)))))
theorem Wv (E:Gl G):ESs G k ⟨AV,(af iA).names,[],false,false,false,λ_ _=>False⟩ (ak iA) (AW):=(ar (oQ 3 (N':=["here","there"]) (vg (ad (av (ab 1)) (ad (av (ab 2)) am)) E.z_zip) ⟨rfl,by decide +kernel,by decide +kernel,by decide +kernel,by decide +kernel,rfl,by decide +kernel⟩ (gj (bw (aP 0) (bw (aP 1) ei))) cf (av (aO (cM VV E.z_abs (aG (aO (eZ (ab 0) (ab 1))) aS) (by decide +kernel))))) (ar (db (aX jn (ab 0) (yO E.c_STREETS)) (aI (be (cM zm E.z_sum (aG (ab 3) aS) (by decide +kernel)))) bR) (aI (be (cM zm E.z_sum (aG (aO (bS (N':=["difference"]) (cJ (av (ab 3))) ⟨rfl,by decide +kernel,by decide +kernel,by decide +kernel,by decide +kernel,rfl,by decide +kernel⟩ (aP 0) cf (av (aO (cP (ab 0) (ab 0)))))) aS) (by decide +kernel))))))
abbrev pM:Stmt:=dN 31
abbrev MD:List Str:=["points","way","pairs","i","j"]
theorem Ww:FnScope MD ["points","way"] (af pM):=⟨rfl,rfl,rfl,by decide +kernel,rfl,by decide +kernel,by decide +kernel⟩
def Wx (cQ:aQ):bQ:=(bA (cN [] 2 (kn tN)) (bA (di (ko (bh (aL (dh eg (bh (aa 0) cB))) cB)) (cO 3) (di (GV (bh (aL (aU cZ (aa 3) (aY (.int 1)))) (bh (aL (dh eg (bh (aa 0) cB))) cB))) (cO 4) (gc (mO (aa 2) (ag [] (qL (aA (ag [] (aL (bJ cQ (aA (ag [] (aa 1)) (aA (ag [] (dP (aa 0) (aa 3))) (aA (ag [] (dP (aa 0) (aa 4))) tN)))))) (aA (ag [] (aa 3)) (aA (ag [] (aa 4)) tN))))))))) (du [] (oX (aa 2)))))
theorem e_q4 (E:Gl G){cQ:aQ}(iB:FnG G k "far_between" cQ):ESs G k ⟨MD,(af pM).names,[],false,false,false,λ_ _=>False⟩ (ak pM) (Wx cQ):=(ar (bf 2 (cA am)) (ar (jN (eO (aG (aO (cM dH E.z_len (aG (ab 0) aS) (by decide +kernel))) aS) E.z_range) (aP 3) (aI (jN (LH (aG (aO (cv (ab 3) az)) (aG (aO (cM dH E.z_len (aG (ab 0) aS) (by decide +kernel))) aS)) E.z_range) (aP 4) (aI (bx (eC (ab 2) (av (fe (ad (av (aO (au iB (ad (av (ab 1)) (ad (av (ck (ab 0) (ab 3))) (ad (av (ck (ab 0) (ab 4))) am)))))) (ad (av (ab 3)) (ad (av (ab 4)) am))))))))))) (aI (be (fY (ab 2))))))
abbrev iC:Stmt:=dN 32
abbrev AX:List Str:=["points","way"]
theorem ME:FnScope AX ["points","way"] (af iC):=⟨rfl,rfl,rfl,by decide +kernel,rfl,by decide +kernel,by decide +kernel⟩
def AY (bC:aQ)(cR:aQ):bQ:=(bA (gc (bJ bC (aA (ag [] (aa 0)) (aA (ag [] (aa 1)) tN)))) (du [] (dh fS (bh (aL (bJ cR (aA (ag [] (aa 0)) (aA (ag [] (aa 1)) tN)))) cB))))
theorem Wy (E:Gl G){bC:aQ}(eo:FnG G k "need_points_and_way" bC){cR:aQ}(ku:FnG G k "pairs_by_places" cR):ESs G k ⟨AX,(af iC).names,[],false,false,false,λ_ _=>False⟩ (ak iC) (AY bC cR):=(ar (bx (au eo (ad (av (ab 0)) (ad (av (ab 1)) am)))) (aI (be (cM lN E.z_sorted (aG (aO (au ku (ad (av (ab 0)) (ad (av (ab 1)) am)))) aS) (by decide +kernel)))))
abbrev iD:Stmt:=dN 34
abbrev AZ:List Str:=["points","way","point","places"]
theorem MF:FnScope AZ ["points","way","point","places"] (af iD):=⟨rfl,rfl,rfl,by decide +kernel,rfl,by decide +kernel,by decide +kernel⟩
def Ba (cQ:aQ):bQ:=(du [] (oX (xz (aL (bL [] [none,some 1,some 2,some 0] (bI (ag [] (aa 3))) (cO 0) bF (ag [] (qL (aA (ag [] (aL (bJ cQ (aA (ag [] (aa 1)) (aA (ag [] (aa 2)) (aA (ag [] (dP (aa 3) (aa 0))) tN)))))) (aA (ag [] (aa 0)) tN)))))) (ag [] (aY .non)))))
theorem Wz (E:Gl G){cQ:aQ}(iB:FnG G k "far_between" cQ):ESs G k ⟨AZ,(af iD).names,[],false,false,false,λ_ _=>False⟩ (ak iD) (Ba cQ):=(aI (be (fY (vk (aO (bS (N':=["place","way","point","points"]) (cJ (av (ab 3))) ⟨rfl,by decide +kernel,by decide +kernel,by decide +kernel,by decide +kernel,rfl,by decide +kernel⟩ (aP 0) cf (av (fe (ad (av (aO (au iB (ad (av (ab 1)) (ad (av (ab 2)) (ad (av (ck (ab 3) (ab 0))) am)))))) (ad (av (ab 0)) am)))))) (av gf) E.z_min))))
abbrev iE:Stmt:=dN 35
abbrev Bb:List Str:=["points","way","place","others"]
theorem MG:FnScope Bb ["points","way","place"] (af iE):=⟨rfl,rfl,rfl,by decide +kernel,rfl,by decide +kernel,by decide +kernel⟩
def Bc (pN:aQ):bQ:=(bA (cN [] 3 (bL [] [none,some 2] (ko (bh (aL (dh eg (bh (aa 0) cB))) cB)) (cO 0) (aW mN (aa 0) (aa 1)) (ag [] (aa 0)))) (du [] (bJ pN (aA (ag [] (aa 0)) (aA (ag [] (aa 1)) (aA (ag [] (dP (aa 0) (aa 2))) (aA (ag [] (aa 3)) tN)))))))
theorem WA (E:Gl G){pN:aQ}(Be:FnG G k "nearest_among" pN):ESs G k ⟨Bb,(af iE).names,[],false,false,false,λ_ _=>False⟩ (ak iE) (Bc pN):=(ar (oQ 3 (N':=["other","place"]) (eO (aG (aO (cM dH E.z_len (aG (ab 0) aS) (by decide +kernel))) aS) E.z_range) ⟨rfl,by decide +kernel,by decide +kernel,by decide +kernel,by decide +kernel,rfl,by decide +kernel⟩ (aP 0) (zd (aX eN (ab 0) (ab 1))) (av (ab 0))) (aI (be (au Be (ad (av (ab 0)) (ad (av (ab 1)) (ad (av (ck (ab 0) (ab 2))) (ad (av (ab 3)) am))))))))
abbrev iG:Stmt:=dN 36
abbrev Bf:List Str:=["points","way"]
theorem MH:FnScope Bf ["points","way"] (af iG):=⟨rfl,rfl,rfl,by decide +kernel,rfl,by decide +kernel,by decide +kernel⟩
def Bg (bC:aQ)(cR:aQ):bQ:=(bA (gc (bJ bC (aA (ag [] (aa 0)) (aA (ag [] (aa 1)) tN)))) (du [] (oX (xz (aL (bJ cR (aA (ag [] (aa 0)) (aA (ag [] (aa 1)) tN)))) (ag [] (aY .non))))))
theorem WB (E:Gl G){bC:aQ}(eo:FnG G k "need_points_and_way" bC){cR:aQ}(ku:FnG G k "pairs_by_places" cR):ESs G k ⟨Bf,(af iG).names,[],false,false,false,λ_ _=>False⟩ (ak iG) (Bg bC cR):=(ar (bx (au eo (ad (av (ab 0)) (ad (av (ab 1)) am)))) (aI (be (fY (vk (aO (au ku (ad (av (ab 0)) (ad (av (ab 1)) am)))) (av gf) E.z_min)))))
abbrev iH:Stmt:=dN 37
abbrev Bh:List Str:=["points","way"]
theorem MI:FnScope Bh ["points","way"] (af iH):=⟨rfl,rfl,rfl,by decide +kernel,rfl,by decide +kernel,by decide +kernel⟩
def Bi (bC:aQ)(pO:aQ):bQ:=(bA (gc (bJ bC (aA (ag [] (aa 0)) (aA (ag [] (aa 1)) tN)))) (du [] (bL [] [none,some 0,some 1] (ko (bh (aL (dh eg (bh (aa 0) cB))) cB)) (cO 0) bF (ag [] (aL (bJ pO (aA (ag [] (aa 1)) (aA (ag [] (aa 2)) (aA (ag [] (aa 0)) tN)))))))))
theorem WC (E:Gl G){bC:aQ}(eo:FnG G k "need_points_and_way" bC){pO:aQ}(Bj:FnG G k "nearest_other" pO):ESs G k ⟨Bh,(af iH).names,[],false,false,false,λ_ _=>False⟩ (ak iH) (Bi bC pO):=(ar (bx (au eo (ad (av (ab 0)) (ad (av (ab 1)) am)))) (aI (be (bS (N':=["place","points","way"]) (eO (aG (aO (cM dH E.z_len (aG (ab 0) aS) (by decide +kernel))) aS) E.z_range) ⟨rfl,by decide +kernel,by decide +kernel,by decide +kernel,by decide +kernel,rfl,by decide +kernel⟩ (aP 0) cf (av (aO (au Bj (ad (av (ab 1)) (ad (av (ab 2)) (ad (av (ab 0)) am))))))))))
abbrev pP:Stmt:=dN 39
abbrev MJ:List Str:=["points","way","found"]
theorem WD:FnScope MJ ["points","way"] (af pP):=⟨rfl,rfl,rfl,by decide +kernel,rfl,by decide +kernel,by decide +kernel⟩
def MK (pQ:aQ):bQ:=(bA (cN [] 2 (bJ pQ (aA (ag [] (aa 0)) (aA (ag [] (aa 1)) tN)))) (bA (cC (oG (aW isT (aa 2) (aY .non)) (aW Gh (dP (aa 2) (aY (.int 0))) (aY (.int 1)))) (du [] (oX (aY .non))) gJ) (du [] (oX (dP (aa 2) (aY (.int 0)))))))
theorem e_q6 (E:Gl G){pQ:aQ}(Bk:FnG G k "nearest_two" pQ):ESs G k ⟨MJ,(af pP).names,[],false,false,false,λ_ _=>False⟩ (ak pP) (MK pQ):=(ar (bf 2 (au Bk (ad (av (ab 0)) (ad (av (ab 1)) am)))) (ar (db (GM (tV (aX c_is (ab 2) gf) (ld (aX yQ (ck (ab 2) az) az)))) (aI (be (fY gf))) bR) (aI (be (fY (ck (ab 2) az))))))
abbrev iI:Stmt:=dN 41
abbrev Bl:List Str:=["points","way","bound"]
theorem ML:FnScope Bl ["points","way","bound"] (af iI):=⟨rfl,rfl,rfl,by decide +kernel,rfl,by decide +kernel,by decide +kernel⟩
def Bm (bC:aQ)(pR:aQ)(cR:aQ):bQ:=(bA (gc (bJ bC (aA (ag [] (aa 0)) (aA (ag [] (aa 1)) tN)))) (bA (gc (bJ pR (aA (ag [] (aa 2)) tN))) (du [] (bL [] [none,none,none,some 2] (bI (ag [] (aL (bJ cR (aA (ag [] (aa 0)) (aA (ag [] (aa 1)) tN)))))) (tZ 3 (gC (cO 0) (gC (cO 1) (gC (cO 2) tY)))) (aW leT (aa 0) (aa 3)) (ag [] (qL (aA (ag [] (aa 1)) (aA (ag [] (aa 2)) tN))))))))
theorem WE (E:Gl G){bC:aQ}(eo:FnG G k "need_points_and_way" bC){pR:aQ}(Bo:FnG G k "need_bound" pR){cR:aQ}(ku:FnG G k "pairs_by_places" cR):ESs G k ⟨Bl,(af iI).names,[],false,false,false,λ_ _=>False⟩ (ak iI) (Bm bC pR cR):=(ar (bx (au eo (ad (av (ab 0)) (ad (av (ab 1)) am)))) (ar (bx (au Bo (ad (av (ab 2)) am))) (aI (be (bS (N':=["far","i","j","bound"]) (cJ (av (aO (au ku (ad (av (ab 0)) (ad (av (ab 1)) am)))))) ⟨rfl,by decide +kernel,by decide +kernel,by decide +kernel,by decide +kernel,rfl,by decide +kernel⟩ (gj (bw (aP 0) (bw (aP 1) (bw (aP 2) ei)))) (zd (aX c_le (ab 0) (ab 3))) (av (fe (ad (av (ab 1)) (ad (av (ab 2)) am)))))))))
abbrev lY:Stmt:=dN 43
abbrev N_q7:List Str:=["told"]
theorem WF:FnScope N_q7 ["told"] (af lY):=⟨rfl,rfl,rfl,by decide +kernel,rfl,by decide +kernel,by decide +kernel⟩
theorem e_q7 (E:Gl G)(hK:G.K=KF.K){f:Addr}{fd:FuncData}(Fn:L2.Fun G.K "greatest_first" "greatest_first" lY f fd)(L:LamG G fd ⟨122,25,122,43⟩ "greatest_first"):FnOk G.P G.w G.K G.mg G.base km (k+1) f fd ["told"] (tX Wa):=HP hK Fn WF rfl rfl rfl E.z_max L (λ_ _ _ _ _=>rfl) (by decide) (by decide) (by decide)
abbrev iJ:Stmt:=dN 44
abbrev Bp:List Str:=["points","way","place"]
theorem MM:FnScope Bp ["points","way","place"] (af iJ):=⟨rfl,rfl,rfl,by decide +kernel,rfl,by decide +kernel,by decide +kernel⟩
def Bq (cQ:aQ):bQ:=(du [] (bL [] [none,some 1,some 0,some 2] (bI (ag [] (aa 0))) (cO 0) bF (ag [] (aL (bJ cQ (aA (ag [] (aa 1)) (aA (ag [] (dP (aa 2) (aa 3))) (aA (ag [] (aa 0)) tN))))))))
theorem WG (E:Gl G){cQ:aQ}(iB:FnG G k "far_between" cQ):ESs G k ⟨Bp,(af iJ).names,[],false,false,false,λ_ _=>False⟩ (ak iJ) (Bq cQ):=(aI (be (bS (N':=["other","way","points","place"]) (cJ (av (ab 0))) ⟨rfl,by decide +kernel,by decide +kernel,by decide +kernel,by decide +kernel,rfl,by decide +kernel⟩ (aP 0) cf (av (aO (au iB (ad (av (ab 1)) (ad (av (ck (ab 2) (ab 3))) (ad (av (ab 0)) am)))))))))
abbrev iK:Stmt:=dN 45
abbrev Br:List Str:=["points","way"]
theorem MN:FnScope Br ["points","way"] (af iK):=⟨rfl,rfl,rfl,by decide +kernel,rfl,by decide +kernel,by decide +kernel⟩
def Bs (bC:aQ)(vF:aQ)(cR:aQ):bQ:=(bA (gc (bJ bC (aA (ag [] (aa 0)) (aA (ag [] (aa 1)) tN)))) (du [] (bJ vF (aA (ag [] (aL (bJ cR (aA (ag [] (aa 0)) (aA (ag [] (aa 1)) tN))))) tN))))
theorem WH (E:Gl G){bC:aQ}(eo:FnG G k "need_points_and_way" bC){vF:aQ}(MO:FnG G k "greatest_first" vF){cR:aQ}(ku:FnG G k "pairs_by_places" cR):ESs G k ⟨Br,(af iK).names,[],false,false,false,λ_ _=>False⟩ (ak iK) (Bs bC vF cR):=(ar (bx (au eo (ad (av (ab 0)) (ad (av (ab 1)) am)))) (aI (be (au MO (ad (av (aO (au ku (ad (av (ab 0)) (ad (av (ab 1)) am))))) am)))))
abbrev iL:Stmt:=dN 46
abbrev Bt:List Str:=["points","way"]
theorem MP:FnScope Bt ["points","way"] (af iL):=⟨rfl,rfl,rfl,by decide +kernel,rfl,by decide +kernel,by decide +kernel⟩
def Bu (bC:aQ)(eS:aQ):bQ:=(bA (gc (bJ bC (aA (ag [] (aa 0)) (aA (ag [] (aa 1)) tN)))) (du [] (oX (xz (aL (bL [] [none,some 0,some 1] (ko (bh (aL (dh eg (bh (aa 0) cB))) cB)) (cO 0) bF (ag [] (qL (aA (ag [] (aL (dh vA (bh (aL (bJ eS (aA (ag [] (aa 1)) (aA (ag [] (aa 2)) (aA (ag [] (aa 0)) tN))))) cB)))) (aA (ag [] (aa 0)) tN)))))) (ag [] (aY .non))))))
theorem WI (E:Gl G){bC:aQ}(eo:FnG G k "need_points_and_way" bC){eS:aQ}(nJ:FnG G k "fars_of" eS):ESs G k ⟨Bt,(af iL).names,[],false,false,false,λ_ _=>False⟩ (ak iL) (Bu bC eS):=(ar (bx (au eo (ad (av (ab 0)) (ad (av (ab 1)) am)))) (aI (be (fY (vk (aO (bS (N':=["place","points","way"]) (eO (aG (aO (cM dH E.z_len (aG (ab 0) aS) (by decide +kernel))) aS) E.z_range) ⟨rfl,by decide +kernel,by decide +kernel,by decide +kernel,by decide +kernel,rfl,by decide +kernel⟩ (aP 0) cf (av (fe (ad (av (aO (cM LT E.z_max (aG (aO (au nJ (ad (av (ab 1)) (ad (av (ab 2)) (ad (av (ab 0)) am))))) aS) (by decide +kernel)))) (ad (av (ab 0)) am)))))) (av gf) E.z_min)))))
abbrev iM:Stmt:=dN 47
abbrev Bv:List Str:=["points","way"]
theorem MQ:FnScope Bv ["points","way"] (af iM):=⟨rfl,rfl,rfl,by decide +kernel,rfl,by decide +kernel,by decide +kernel⟩
def Bw (bC:aQ)(eS:aQ):bQ:=(bA (gc (bJ bC (aA (ag [] (aa 0)) (aA (ag [] (aa 1)) tN)))) (du [] (oX (xz (aL (bL [] [none,some 0,some 1] (ko (bh (aL (dh eg (bh (aa 0) cB))) cB)) (cO 0) bF (ag [] (qL (aA (ag [] (aL (dh xx (bh (aL (bJ eS (aA (ag [] (aa 1)) (aA (ag [] (aa 2)) (aA (ag [] (aa 0)) tN))))) cB)))) (aA (ag [] (aa 0)) tN)))))) (ag [] (aY .non))))))
theorem WJ (E:Gl G){bC:aQ}(eo:FnG G k "need_points_and_way" bC){eS:aQ}(nJ:FnG G k "fars_of" eS):ESs G k ⟨Bv,(af iM).names,[],false,false,false,λ_ _=>False⟩ (ak iM) (Bw bC eS):=(ar (bx (au eo (ad (av (ab 0)) (ad (av (ab 1)) am)))) (aI (be (fY (vk (aO (bS (N':=["place","points","way"]) (eO (aG (aO (cM dH E.z_len (aG (ab 0) aS) (by decide +kernel))) aS) E.z_range) ⟨rfl,by decide +kernel,by decide +kernel,by decide +kernel,by decide +kernel,rfl,by decide +kernel⟩ (aP 0) cf (av (fe (ad (av (aO (cM zm E.z_sum (aG (aO (au nJ (ad (av (ab 1)) (ad (av (ab 2)) (ad (av (ab 0)) am))))) aS) (by decide +kernel)))) (ad (av (ab 0)) am)))))) (av gf) E.z_min)))))
abbrev iO:Stmt:=dN 49
abbrev Bx:List Str:=["leasts","i","j","low","high"]
theorem MR:FnScope Bx ["leasts","i","j"] (af iO):=⟨rfl,rfl,rfl,by decide +kernel,rfl,by decide +kernel,by decide +kernel⟩
def Bz:bQ:=(bA (cN [] 3 (dh lh (bh (dP (aa 0) (aa 1)) (bh (dP (aa 0) (aa 2)) cB)))) (bA (cN [] 4 (dh uX (bh (dP (aa 0) (aa 1)) (bh (dP (aa 0) (aa 2)) cB)))) (du [] (bL [] [none,some 3,some 4] (bI (ag [] (aa 0))) (cO 0) bF (ag [] (tIfE (aW qK (aa 0) (aa 2)) (aa 1) (aa 0)))))))
theorem WK (E:Gl G):ESs G k ⟨Bx,(af iO).names,[],false,false,false,λ_ _=>False⟩ (ak iO) (Bz):=(ar (bf 3 (cM oI E.z_min (aG (ck (ab 0) (ab 1)) (aG (ck (ab 0) (ab 2)) aS)) (by decide +kernel))) (ar (bf 4 (cM LE E.z_max (aG (ck (ab 0) (ab 1)) (aG (ck (ab 0) (ab 2)) aS)) (by decide +kernel))) (aI (be (bS (N':=["least","low","high"]) (cJ (av (ab 0))) ⟨rfl,by decide +kernel,by decide +kernel,by decide +kernel,by decide +kernel,rfl,by decide +kernel⟩ (aP 0) cf (av (IO (aX jn (ab 0) (ab 2)) (ab 1) (ab 0))))))))
abbrev iP:Stmt:=dN 50
abbrev BA:List Str:=["points","way","bound","leasts","i","j","parts","place","least"]
theorem MS:FnScope BA ["points","way","bound"] (af iP):=⟨rfl,rfl,rfl,by decide +kernel,rfl,by decide +kernel,by decide +kernel⟩
def BB (cH:aQ)(cS:aQ):bQ:=(bA (cN [] 3 (ZH (bh (aL (dh eg (bh (aa 0) cB))) cB))) (bA (di (bI (ag [] (aL (bJ cH (aA (ag [] (aa 0)) (aA (ag [] (aa 1)) (aA (ag [] (aa 2)) tN))))))) (tZ 2 (gC (cO 4) (gC (cO 5) tY))) (cC (aW mN (dP (aa 3) (aa 4)) (dP (aa 3) (aa 5))) (cN [] 3 (bJ cS (aA (ag [] (aa 3)) (aA (ag [] (aa 4)) (aA (ag [] (aa 5)) tN))))) gJ)) (bA (cN [] 6 LZ) (bA (di (oU (aA (ag [] (aa 3)) tN)) (tZ 2 (gC (cO 7) (gC (cO 8) tY))) (tSA 6 8 7)) (du [] (tVl 6))))))
theorem WL (E:Gl G){cH:aQ}(gm:FnG G k "near_pairs" cH){cS:aQ}(nK:FnG G k "joined" cS):ESs G k ⟨BA,(af iP).names,[],false,false,false,λ_ _=>False⟩ (ak iP) (BB cH cS):=(ar (bf 3 (zu (aG (aO (cM dH E.z_len (aG (ab 0) aS) (by decide +kernel))) aS) E.z_list E.z_range)) (ar (jN (cJ (av (aO (au gm (ad (av (ab 0)) (ad (av (ab 1)) (ad (av (ab 2)) am))))))) (gj (bw (aP 4) (bw (aP 5) ei))) (aI (db (aX eN (ck (ab 3) (ab 4)) (ck (ab 3) (ab 5))) (aI (bf 3 (au nK (ad (av (ab 3)) (ad (av (ab 4)) (ad (av (ab 5)) am)))))) bR))) (ar (bf 6 HV) (ar (jN (Hf (ad (av (ab 3)) am) E.z_enumerate) (gj (bw (aP 7) (bw (aP 8) ei))) (aI (Ak 6 8 7))) (aI (be (Ma 6 E.z_list)))))))
abbrev iQ:Stmt:=dN 51
abbrev BC:List Str:=["points","way","leasts","tree","far","i","j"]
theorem MT:FnScope BC ["points","way"] (af iQ):=⟨rfl,rfl,rfl,by decide +kernel,rfl,by decide +kernel,by decide +kernel⟩
def BD (cI:aQ)(cS:aQ):bQ:=(bA (cN [] 2 (ZH (bh (aL (dh eg (bh (aa 0) cB))) cB))) (bA (cN [] 3 (kn tN)) (bA (di (bI (ag [] (aL (bJ cI (aA (ag [] (aa 0)) (aA (ag [] (aa 1)) tN)))))) (tZ 3 (gC (cO 4) (gC (cO 5) (gC (cO 6) tY)))) (cC (aW mN (dP (aa 2) (aa 5)) (dP (aa 2) (aa 6))) (bA (cN [] 2 (bJ cS (aA (ag [] (aa 2)) (aA (ag [] (aa 5)) (aA (ag [] (aa 6)) tN))))) (gc (mO (aa 3) (ag [] (qL (aA (ag [] (aa 4)) (aA (ag [] (aa 5)) (aA (ag [] (aa 6)) tN)))))))) gJ)) (du [] (oX (aa 3))))))
theorem WM (E:Gl G){cI:aQ}(gn:FnG G k "all_pairs" cI){cS:aQ}(nK:FnG G k "joined" cS):ESs G k ⟨BC,(af iQ).names,[],false,false,false,λ_ _=>False⟩ (ak iQ) (BD cI cS):=(ar (bf 2 (zu (aG (aO (cM dH E.z_len (aG (ab 0) aS) (by decide +kernel))) aS) E.z_list E.z_range)) (ar (bf 3 (cA am)) (ar (jN (cJ (av (aO (au gn (ad (av (ab 0)) (ad (av (ab 1)) am)))))) (gj (bw (aP 4) (bw (aP 5) (bw (aP 6) ei)))) (aI (db (aX eN (ck (ab 2) (ab 5)) (ck (ab 2) (ab 6))) (ar (bf 2 (au nK (ad (av (ab 2)) (ad (av (ab 5)) (ad (av (ab 6)) am))))) (aI (bx (eC (ab 3) (av (fe (ad (av (ab 4)) (ad (av (ab 5)) (ad (av (ab 6)) am))))))))) bR))) (aI (be (fY (ab 3)))))))
abbrev iR:Stmt:=dN 53
abbrev BE:List Str:=["pot","many","cell","stir"]
theorem MU:FnScope BE ["pot","many"] (af iR):=⟨rfl,rfl,rfl,by decide +kernel,rfl,by decide +kernel,by decide +kernel⟩
def BF:bQ:=(bA (jU 0 (aY (.int 1)) (ag [0] (aL (aU cZ (dP (aa 0) (aY (.int 1))) (aY (.int 1)))))) (bA (cN [0] 2 (oX (dP (aa 0) (aY (.int 0))))) (bA (cC (aW ZB (aa 2) (aL (aU kX (aY (.int 10)) (aY (.int 18))))) (bA (jU 0 (aY (.int 0)) (ag [0] (aL (aU lR (aa 2) (aa 1))))) (du [0] (aU tT (aa 2) (aa 1)))) gJ) (bA (cN [0] 3 (aU tT (aL (aU cZ (aL (aU cZ (aL (aU dB (aa 2) (aY (.int 69621)))) (aL (aU dB (dP (aa 0) (aY (.int 1))) (aY (.int 7919)))))) (aY (.int 13)))) (aY (.int 2147483647)))) (bA (cN [0] 3 (aU tT (aL (aU dB (aa 3) (aa 3))) (aY (.int 2147483629)))) (du [0] (aU tT (aL (aU lR (aL (aU tT (aL (aU cZ (aL (aU dB (aa 3) (aY (.int 48271)))) (aL (aU dB (dP (aa 0) (aY (.int 1))) (aY (.int 40692)))))) (aY (.int 2147483587)))) (aY (.int 8)))) (aa 1))))))))
theorem WN (E:Gl G):ESs G k ⟨BE,(af iR).names,[0],false,false,false,λ_ _=>False⟩ (ak iR) (BF):=(ar (jw 0 (av (aO (cv (ck (ab 0) az) az))) az (ab 0)) (ar (bf 2 (fY (ck (ab 0) az))) (ar (db (aX VR (ab 2) (aO (gO az az))) (ar (jw 0 (av (aO (hJ (ab 2) (ab 1)))) az (ab 0)) (aI (be (qJ (ab 2) (ab 1))))) bR) (ar (bf 3 (qJ (aO (cv (aO (cv (aO (cP (ab 2) az)) (aO (cP (ck (ab 0) az) az)))) az)) az)) (ar (bf 3 (qJ (aO (cP (ab 3) (ab 3))) az)) (aI (be (qJ (aO (hJ (aO (qJ (aO (cv (aO (cP (ab 3) az)) (aO (cP (ck (ab 0) az) az)))) az)) az)) (ab 1)))))))))
abbrev iT:Stmt:=dN 54
abbrev IR:List Str:=["script"]
theorem MV:FnScope IR ["script"] (af iT):=⟨rfl,rfl,rfl,by decide +kernel,rfl,by decide +kernel,by decide +kernel⟩
theorem WO (E:Gl G):EPots G k ⟨IR,(af iT).names,[],false,false,false,λ_ _=>False⟩ (ak iT):=LQ (N':=["cell"]) rfl (aX jn (aO (cM dH E.z_len (aG (ab 0) aS) (by decide +kernel))) az) (ad (av az) (ad (av az) am)) (cJ (av (aO (VU (ab 0) yW (tW az))))) ⟨rfl,by decide +kernel,by decide +kernel,by decide +kernel,by decide +kernel,rfl,by decide +kernel⟩ (aP 0) (ad (av (ab 0)) (ad (av az) am))
abbrev iU:Stmt:=dN 55
abbrev BG:List Str:=["pot","count","most","many","kind","found","place","point","k","some","turned"]
theorem MW:FnScope BG ["pot","count","most"] (af iU):=⟨rfl,rfl,rfl,by decide +kernel,rfl,by decide +kernel,by decide +kernel⟩
def BH (bj:jV):bQ:=(bA (cN [0] 3 (dn bj 0 (aA (ag [0] (dP (aL (kn (aA (ag [0] (aL (dh lh (bh (aY (.int 4)) (bh (aL (aU cZ (aa 2) (aY (.int 1)))) cB))))) (aA (ag [0] (aL (dh lh (bh (aY (.int 9)) (bh (aL (aU cZ (aa 2) (aY (.int 1)))) cB))))) (aA (ag [0] (aL (aU cZ (aa 2) (aY (.int 1))))) tN))))) (aL (dn bj 0 (aA (ag [0] (aY (.int 3))) tN))))) tN))) (bA (cN [0] 4 (dn bj 0 (aA (ag [0] (aY (.int 6))) tN))) (bA (cN [0] 5 (kn tN)) (bA (di (ko (bh (aa 3) cB)) (cO 6) (bA (cN [0] 7 (kn tN)) (bA (di (ko (bh (aa 1) cB)) (cO 8) (bA (cN [0] 9 (kn (aA (ag [0] (aL (dn bj 0 (aA (ag [0] (aY (.int 4))) tN)))) (aA (ag [0] (aL (aU gN (aL (dn bj 0 (aA (ag [0] (aY (.int 41))) tN))) (aY (.int 20))))) (aA (ag [0] (aL (aU dB (aa 6) (aL (aU cZ (aa 8) (aY (.int 1))))))) (aA (ag [0] (aL (aU gN (aL (aU gN (aL (aU kX (aY (.int 10)) (aY (.int 15)))) (aY (.int 1)))) (aL (dn bj 0 (aA (ag [0] (aY (.int 3))) tN)))))) tN)))))) (bA (gc (mO (aa 9) (ag [0] (aL (aU cZ (aL (aU gN (aL (dn bj 0 (aA (ag [0] (aL (aU gN (aL (aU dB (aY (.int 2)) (aL (aU kX (aY (.int 10)) (aY (.int 15)))))) (aY (.int 1))))) tN))) (aL (aU kX (aY (.int 10)) (aY (.int 15)))))) (aY (.int 1))))))) (bA (cN [0] 10 (oX (dP (aL (kn (aA (ag [0] (aY (.int 1))) (aA (ag [0] (xt (aY (.int 1)))) tN)))) (aL (aU dB (aL (dn bj 0 (aA (ag [0] (aY (.int 2))) tN))) (aL (dh yY (bh (bV (aW qK (aa 4) (aY (.int 3)))) cB)))))))) (gc (mO (aa 7) (ag [0] (aL (aU dB (aa 10) (dP (aa 9) (aL (dh lh (bh (aa 4) (bh (aY (.int 4)) cB)))))))))))))) (bA (gc (mO (aa 5) (ag [0] (aL (dh cF (bh (aa 7) cB)))))) (cC (gh (aW qK (aa 4) (aY (.int 5))) (gh (aW ZA (aa 6) (aY (.int 0))) (aW qK (aL (dn bj 0 (aA (ag [0] (aY (.int 2))) tN))) (aY (.int 0))))) (jU 5 (xt (aY (.int 1))) (ag [0] (dP (aa 5) (aL (dn bj 0 (aA (ag [0] (aa 6)) tN)))))) gJ))))) (du [0] (oX (aa 5)))))))
theorem WP (E:Gl G){bj:jV}(bO:FnIo G k "_law_next" bj):ESs G k ⟨BG,(af iU).names,[0],false,false,false,λ_ _=>False⟩ (ak iU) (BH bj):=(ar (bf 3 (ba bO (ab 0) (ad (av (ck (aO (cA (ad (av (aO (cM oI E.z_min (aG az (aG (aO (cv (ab 2) az)) aS)) (by decide +kernel)))) (ad (av (aO (cM oI E.z_min (aG az (aG (aO (cv (ab 2) az)) aS)) (by decide +kernel)))) (ad (av (aO (cv (ab 2) az))) am))))) (aO (ba bO (ab 0) (ad (av az) am))))) am))) (ar (bf 4 (ba bO (ab 0) (ad (av az) am))) (ar (bf 5 (cA am)) (ar (jN (eO (aG (ab 3) aS) E.z_range) (aP 6) (ar (bf 7 (cA am)) (ar (jN (eO (aG (ab 1) aS) E.z_range) (aP 8) (ar (bf 9 (cA (ad (av (aO (ba bO (ab 0) (ad (av az) am)))) (ad (av (aO (eZ (aO (ba bO (ab 0) (ad (av az) am))) az))) (ad (av (aO (cP (ab 6) (aO (cv (ab 8) az))))) (ad (av (aO (eZ (aO (eZ (aO (gO az az)) az)) (aO (ba bO (ab 0) (ad (av az) am)))))) am)))))) (ar (bx (eC (ab 9) (av (aO (cv (aO (eZ (aO (ba bO (ab 0) (ad (av (aO (eZ (aO (cP az (aO (gO az az)))) az))) am))) (aO (gO az az)))) az))))) (ar (bf 10 (fY (ck (aO (cA (ad (av az) (ad (av (uW az)) am)))) (aO (cP (aO (ba bO (ab 0) (ad (av az) am))) (aO (fZ IJ E.z_int (aG (kZ jn (ab 4) az) aS) (by decide +kernel)))))))) (aI (bx (eC (ab 7) (av (aO (cP (ab 10) (ck (ab 9) (aO (cM oI E.z_min (aG (ab 4) (aG az aS)) (by decide +kernel)))))))))))))) (ar (bx (eC (ab 5) (av (aO (fZ cE E.z_tuple (aG (ab 7) aS) (by decide +kernel)))))) (aI (db (GM (yU (aX jn (ab 4) az) (yU (aX VQ (ab 6) az) (yT (aX jn (aO (ba bO (ab 0) (ad (av az) am))) az))))) (aI (jw 5 (av (ck (ab 5) (aO (ba bO (ab 0) (ad (av (ab 6)) am))))) (uW az) (ab 5))) bR)))))) (aI (be (fY (ab 5))))))))
abbrev iV:Stmt:=dN 56
abbrev BI:List Str:=["pot"]
theorem MX:FnScope BI ["pot"] (af iV):=⟨rfl,rfl,rfl,by decide +kernel,rfl,by decide +kernel,by decide +kernel⟩
def BJ (bj:jV):bQ:=(du [0] (oX (dP (aL (kn (aA (ag [0] (aY (.str "streets"))) (aA (ag [0] (aY (.str "squares"))) tN)))) (aL (dn bj 0 (aA (ag [0] (aY (.int 2))) tN))))))
theorem WQ (E:Gl G){bj:jV}(bO:FnIo G k "_law_next" bj):ESs G k ⟨BI,(af iV).names,[0],false,false,false,λ_ _=>False⟩ (ak iV) (BJ bj):=(aI (be (fY (ck (aO (cA (ad (av yN) (ad (av yN) am)))) (aO (ba bO (ab 0) (ad (av az) am)))))))
abbrev iW:Stmt:=dN 57
abbrev BK:List Str:=["pot","count","kind","some"]
theorem MY:FnScope BK ["pot","count"] (af iW):=⟨rfl,rfl,rfl,by decide +kernel,rfl,by decide +kernel,by decide +kernel⟩
def BL (bj:jV):bQ:=(bA (cN [0] 2 (dn bj 0 (aA (ag [0] (aY (.int 4))) tN))) (bA (cN [0] 3 (kn (aA (ag [0] (aL (aU nH (qL (aA (ag [0] (aY (.int 0))) tN)) (aa 1)))) (aA (ag [0] (aL (dh cF (bh (aL (hE [0] [none,some 0] 0 1 (ko (bh (aa 1) cB)) (cO 0) bF (ag [1] (aL (aU gN (aL (dn bj 1 (aA (ag [1] (aY (.int 21))) tN))) (aY (.int 10))))))) cB)))) tN)))) (bA (gc (mO (aa 3) (ag [0] (aL (dh cF (bh (aL (hE [0] [none,some 0] 0 1 (ko (bh (aa 1) cB)) (cO 0) bF (ag [1] (aL (aU cZ (aL (aU gN (aL (dn bj 1 (aA (ag [1] (aL (aU gN (aL (aU dB (aY (.int 2)) (aL (aU kX (aY (.int 10)) (aY (.int 15)))))) (aY (.int 1))))) tN))) (aL (aU kX (aY (.int 10)) (aY (.int 15)))))) (aY (.int 1))))))) cB)))))) (du [0] (oX (dP (aL (aU cZ (aa 3) (aL (kn (aA (ag [0] (aL (aU nH (qL (aA (ag [0] (aL (aU gN (aY (.int 1)) (aL (aU kX (aY (.int 10)) (aY (.int 15))))))) tN)) (aa 1)))) tN))))) (aa 2)))))))
theorem WR (E:Gl G){bj:jV}(bO:FnIo G k "_law_next" bj):ESs G k ⟨BK,(af iW).names,[0],false,false,false,λ_ _=>False⟩ (ak iW) (BL bj):=(ar (bf 2 (ba bO (ab 0) (ad (av az) am))) (ar (bf 3 (cA (ad (av (aO (Ac (fe (ad (av az) am)) (ab 1)))) (ad (av (aO (fZ cE E.z_tuple (aG (aO (rJ 0 1 (N':=["k","pot"]) (eO (aG (ab 1) aS) E.z_range) ⟨rfl,by decide +kernel,by decide +kernel,by decide +kernel,by decide +kernel,rfl,by decide +kernel⟩ (aP 0) cf (av (aO (eZ (aO (ba bO (ab 1) (ad (av az) am))) az))))) aS) (by decide +kernel)))) am)))) (ar (bx (eC (ab 3) (av (aO (fZ cE E.z_tuple (aG (aO (rJ 0 1 (N':=["k","pot"]) (eO (aG (ab 1) aS) E.z_range) ⟨rfl,by decide +kernel,by decide +kernel,by decide +kernel,by decide +kernel,rfl,by decide +kernel⟩ (aP 0) cf (av (aO (cv (aO (eZ (aO (ba bO (ab 1) (ad (av (aO (eZ (aO (cP az (aO (gO az az)))) az))) am))) (aO (gO az az)))) az))))) aS) (by decide +kernel)))))) (aI (be (fY (ck (aO (cv (ab 3) (aO (cA (ad (av (aO (Ac (fe (ad (av (aO (eZ az (aO (gO az az))))) am)) (ab 1)))) am))))) (ab 2))))))))
abbrev iX:Stmt:=dN 58
abbrev BM:List Str:=["points","way","bound","found"]
theorem MZ:FnScope BM ["points","way","bound"] (af iX):=⟨rfl,rfl,rfl,by decide +kernel,rfl,by decide +kernel,by decide +kernel⟩
def BN (cI:aQ)(pS:aQ)(cH:aQ)(pT:aQ)(eu:aQ)(gt:aQ)(eA:aQ)(pU:aQ)(pV:aQ):bQ:=(bA (cN [] 3 (kn (aA (ag [] (aL (bJ cI (aA (ag [] (aa 0)) (aA (ag [] (aa 1)) tN))))) (aA (ag [] (aL (bJ pS (aA (ag [] (aa 0)) (aA (ag [] (aa 1)) tN))))) (aA (ag [] (aL (bJ cH (aA (ag [] (aa 0)) (aA (ag [] (aa 1)) (aA (ag [] (aa 2)) tN)))))) tN))))) (bA (cN [] 3 (aU cZ (aa 3) (aL (kn (aA (ag [] (aL (bJ pT (aA (ag [] (aa 0)) (aA (ag [] (aa 1)) (aA (ag [] (aa 2)) tN)))))) (aA (ag [] (aL (bJ eu (aA (ag [] (aa 0)) (aA (ag [] (aa 1)) tN))))) (aA (ag [] (aL (bJ gt (aA (ag [] (aa 0)) (aA (ag [] (aa 1)) tN))))) tN))))))) (du [] (aU cZ (aa 3) (aL (kn (aA (ag [] (aL (bJ eA (aA (ag [] (aa 0)) (aA (ag [] (aa 1)) tN))))) (aA (ag [] (aL (bJ pU (aA (ag [] (aa 0)) (aA (ag [] (aa 1)) tN))))) (aA (ag [] (aL (bJ pV (aA (ag [] (aa 0)) (aA (ag [] (aa 1)) tN))))) tN)))))))))
theorem WS (E:Gl G){cI:aQ}(gn:FnG G k "all_pairs" cI){pS:aQ}(BO:FnG G k "nearest_all" pS){cH:aQ}(gm:FnG G k "near_pairs" cH){pT:aQ}(BP:FnG G k "parts_within" pT){eu:aQ}(lZ:FnG G k "least_tree" eu){gt:aQ}(uo:FnG G k "greatest_bound" gt){eA:aQ}(ma:FnG G k "farthest_two" eA){pU:aQ}(BQ:FnG G k "middle" pU){pV:aQ}(BR:FnG G k "sums_place" pV):ESs G k ⟨BM,(af iX).names,[],false,false,false,λ_ _=>False⟩ (ak iX) (BN cI pS cH pT eu gt eA pU pV):=(ar (bf 3 (cA (ad (av (aO (au gn (ad (av (ab 0)) (ad (av (ab 1)) am))))) (ad (av (aO (au BO (ad (av (ab 0)) (ad (av (ab 1)) am))))) (ad (av (aO (au gm (ad (av (ab 0)) (ad (av (ab 1)) (ad (av (ab 2)) am)))))) am))))) (ar (bf 3 (cv (ab 3) (aO (cA (ad (av (aO (au BP (ad (av (ab 0)) (ad (av (ab 1)) (ad (av (ab 2)) am)))))) (ad (av (aO (au lZ (ad (av (ab 0)) (ad (av (ab 1)) am))))) (ad (av (aO (au uo (ad (av (ab 0)) (ad (av (ab 1)) am))))) am))))))) (aI (be (cv (ab 3) (aO (cA (ad (av (aO (au ma (ad (av (ab 0)) (ad (av (ab 1)) am))))) (ad (av (aO (au BQ (ad (av (ab 0)) (ad (av (ab 1)) am))))) (ad (av (aO (au BR (ad (av (ab 0)) (ad (av (ab 1)) am))))) am))))))))))
abbrev iY:Stmt:=dN 59
abbrev BS:List Str:=["points","great","way","much","two","wide"]
theorem Na:FnScope BS ["points","great","way","much"] (af iY):=⟨rfl,rfl,rfl,by decide +kernel,rfl,by decide +kernel,by decide +kernel⟩
def BT (eA:aQ)(gt:aQ):bQ:=(bA (cN [] 4 (bJ eA (aA (ag [] (aa 0)) (aA (ag [] (aa 2)) tN)))) (bA (cN [] 5 (bJ gt (aA (ag [] (aa 0)) (aA (ag [] (aa 2)) tN)))) (bA (cC (aW yR (aa 4) (aY .non)) (cN [] 4 (oX (qL (aA (ag [] (aL (aU dB (dP (aa 4) (aY (.int 0))) (aa 3)))) (aA (ag [] (dP (aa 4) (aY (.int 1)))) (aA (ag [] (dP (aa 4) (aY (.int 2)))) tN)))))) gJ) (bA (cC (aW yR (aa 5) (aY .non)) (cN [] 5 (aU dB (aa 5) (aa 3))) gJ) (du [] (oX (bV (gh (nl (bV (aW qK (aL (bJ eA (aA (ag [] (aa 1)) (aA (ag [] (aa 2)) tN)))) (aa 4)))) (nl (bV (aW qK (aL (bJ gt (aA (ag [] (aa 1)) (aA (ag [] (aa 2)) tN)))) (aa 5))))))))))))
theorem WT (E:Gl G){eA:aQ}(ma:FnG G k "farthest_two" eA){gt:aQ}(uo:FnG G k "greatest_bound" gt):ESs G k ⟨BS,(af iY).names,[],false,false,false,λ_ _=>False⟩ (ak iY) (BT eA gt):=(ar (bf 4 (au ma (ad (av (ab 0)) (ad (av (ab 2)) am)))) (ar (bf 5 (au uo (ad (av (ab 0)) (ad (av (ab 2)) am)))) (ar (db (aX IG (ab 4) gf) (aI (bf 4 (fY (fe (ad (av (aO (cP (ck (ab 4) az) (ab 3)))) (ad (av (ck (ab 4) az)) (ad (av (ck (ab 4) az)) am))))))) bR) (ar (db (aX IG (ab 5) gf) (aI (bf 5 (cP (ab 5) (ab 3)))) bR) (aI (be (fY (VS (II (GN (kZ jn (aO (au ma (ad (av (ab 1)) (ad (av (ab 2)) am)))) (ab 4))) (IH (GN (kZ jn (aO (au uo (ad (av (ab 1)) (ad (av (ab 2)) am)))) (ab 5)))))))))))))
abbrev pW:Stmt:=dN 60
abbrev Nb:List Str:=["points","way","bound","many","much","great","pairs","tree","half"]
theorem WU:FnScope Nb ["points","way","bound","many"] (af pW):=⟨rfl,rfl,rfl,by decide +kernel,rfl,by decide +kernel,by decide +kernel⟩
def Nc (gF:aQ)(cI:aQ)(pX:aQ)(cH:aQ)(eu:aQ):bQ:=(bA (cN [] 4 (oX (dP (aL (kn (aA (ag [] (aa 3)) (aA (ag [] (aL (aU dB (aa 3) (aa 3)))) tN)))) (aL (dh yY (bh (bV (aW qK (aa 1) (aY (.str "squares")))) cB)))))) (bA (cN [] 5 (bJ gF (aA (ag [] (aa 0)) (aA (ag [] (aa 3)) tN)))) (bA (cN [] 6 (bL [] [none,none,none,some 4] (bI (ag [] (aL (bJ cI (aA (ag [] (aa 0)) (aA (ag [] (aa 1)) tN)))))) (tZ 3 (gC (cO 0) (gC (cO 1) (gC (cO 2) tY)))) bF (ag [] (qL (aA (ag [] (aL (aU dB (aa 0) (aa 3)))) (aA (ag [] (aa 1)) (aA (ag [] (aa 2)) tN))))))) (bA (cC (oG (aW mN (aL (bJ cI (aA (ag [] (aa 5)) (aA (ag [] (aa 1)) tN)))) (aa 6)) (nk (tU (aL (bJ pX (aA (ag [] (aa 0)) (aA (ag [] (aa 5)) (aA (ag [] (aa 1)) (aA (ag [] (aa 4)) tN))))))))) (du [] (oX (aY (.bl false)))) gJ) (bA (cC (aW mN (aL (bJ cH (aA (ag [] (aa 5)) (aA (ag [] (aa 1)) (aA (ag [] (aL (aU dB (aa 2) (aa 4)))) tN))))) (aL (bJ cH (aA (ag [] (aa 0)) (aA (ag [] (aa 1)) (aA (ag [] (aa 2)) tN)))))) (du [] (oX (aY (.bl false)))) gJ) (bA (cN [] 7 (bL [] [none,none,none,some 4] (bI (ag [] (aL (bJ eu (aA (ag [] (aa 0)) (aA (ag [] (aa 1)) tN)))))) (tZ 3 (gC (cO 0) (gC (cO 1) (gC (cO 2) tY)))) bF (ag [] (qL (aA (ag [] (aL (aU dB (aa 0) (aa 3)))) (aA (ag [] (aa 1)) (aA (ag [] (aa 2)) tN))))))) (bA (cN [] 8 (aU cZ (aY (.int 1)) (aL (aU lR (aa 3) (aY (.int 2)))))) (du [] (oX (bV (gh (nl (bV (aW qK (aL (bJ eu (aA (ag [] (aa 5)) (aA (ag [] (aa 1)) tN)))) (aa 7)))) (nl (bV (aW qK (aL (bJ gF (aA (ag [] (aL (bJ gF (aA (ag [] (aa 0)) (aA (ag [] (aY (.int 2))) tN))))) (aA (ag [] (aa 8)) tN)))) (aL (bJ gF (aA (ag [] (aa 0)) (aA (ag [] (aL (aU dB (aY (.int 2)) (aa 8)))) tN))))))))))))))))))
theorem e_q3 (E:Gl G){gF:aQ}(nL:FnG G k "times" gF){cI:aQ}(gn:FnG G k "all_pairs" cI){pX:aQ}(BU:FnG G k "_law_far_right" pX){cH:aQ}(gm:FnG G k "near_pairs" cH){eu:aQ}(lZ:FnG G k "least_tree" eu):ESs G k ⟨Nb,(af pW).names,[],false,false,false,λ_ _=>False⟩ (ak pW) (Nc gF cI pX cH eu):=(ar (bf 4 (fY (ck (aO (cA (ad (av (ab 3)) (ad (av (aO (cP (ab 3) (ab 3)))) am)))) (aO (fZ IJ E.z_int (aG (kZ jn (ab 1) yN) aS) (by decide +kernel)))))) (ar (bf 5 (au nL (ad (av (ab 0)) (ad (av (ab 3)) am)))) (ar (oQ 6 (N':=["far","one","other","much"]) (cJ (av (aO (au gn (ad (av (ab 0)) (ad (av (ab 1)) am)))))) ⟨rfl,by decide +kernel,by decide +kernel,by decide +kernel,by decide +kernel,rfl,by decide +kernel⟩ (gj (bw (aP 0) (bw (aP 1) (bw (aP 2) ei)))) cf (av (fe (ad (av (aO (cP (ab 0) (ab 3)))) (ad (av (ab 1)) (ad (av (ab 2)) am)))))) (ar (db (GM (tV (aX eN (aO (au gn (ad (av (ab 5)) (ad (av (ab 1)) am)))) (ab 6)) (ld (oH (lc (aO (au BU (ad (av (ab 0)) (ad (av (ab 5)) (ad (av (ab 1)) (ad (av (ab 4)) am))))))))))) (aI (be (fY kT))) bR) (ar (db (aX eN (aO (au gm (ad (av (ab 5)) (ad (av (ab 1)) (ad (av (aO (cP (ab 2) (ab 4)))) am))))) (aO (au gm (ad (av (ab 0)) (ad (av (ab 1)) (ad (av (ab 2)) am)))))) (aI (be (fY kT))) bR) (ar (oQ 7 (N':=["far","one","other","much"]) (cJ (av (aO (au lZ (ad (av (ab 0)) (ad (av (ab 1)) am)))))) ⟨rfl,by decide +kernel,by decide +kernel,by decide +kernel,by decide +kernel,rfl,by decide +kernel⟩ (gj (bw (aP 0) (bw (aP 1) (bw (aP 2) ei)))) cf (av (fe (ad (av (aO (cP (ab 0) (ab 3)))) (ad (av (ab 1)) (ad (av (ab 2)) am)))))) (ar (bf 8 (cv az (aO (hJ (ab 3) az)))) (aI (be (fY (VS (II (GN (kZ jn (aO (au lZ (ad (av (ab 5)) (ad (av (ab 1)) am)))) (ab 7))) (IH (GN (kZ jn (aO (au nL (ad (av (aO (au nL (ad (av (ab 0)) (ad (av az) am))))) (ad (av (ab 8)) am)))) (aO (au nL (ad (av (ab 0)) (ad (av (aO (cP az (ab 8)))) am)))))))))))))))))))
abbrev pY:Stmt:=dN 61
abbrev Nd:List Str:=["points","by","near","one","other","back","both","there","turned"]
theorem WV:FnScope Nd ["points","by","near","one","other"] (af pY):=⟨rfl,rfl,rfl,by decide +kernel,rfl,by decide +kernel,by decide +kernel⟩
def Nf (bZ:aQ)(dw:aQ)(dA:aQ)(mf:aQ):bQ:=(bA (cN [] 5 (dh cF (bh (aL (bL [] [none] (bI (ag [] (aa 1))) (cO 0) bF (ag [] (aL (aU gN (aY (.int 0)) (aa 0)))))) cB))) (bA (cN [] 6 (dh cF (bh (aL (bL [] [none,none] (xw (aA (ag [] (aa 1)) (aA (ag [] (aa 2)) tN))) (tZ 2 (gC (cO 0) (gC (cO 1) tY))) bF (ag [] (aL (aU cZ (aa 0) (aa 1)))))) cB))) (bA (cN [] 7 (bJ bZ (aA (ag [] (aa 0)) (aA (ag [] (aa 1)) tN)))) (bA (cC (oG (aW mN (aL (bJ bZ (aA (ag [] (aa 7)) (aA (ag [] (aa 5)) tN)))) (aa 0)) (aW mN (aL (bJ bZ (aA (ag [] (aa 7)) (aA (ag [] (aa 2)) tN)))) (aL (bJ bZ (aA (ag [] (aa 0)) (aA (ag [] (aa 6)) tN)))))) (du [] (oX (aY (.bl false)))) gJ) (bA (cC (aW qK (aa 0) (aL (kn tN))) (du [] (oX (aY (.bl true)))) gJ) (bA (cC (aW mN (aL (bJ dw (aA (ag [] (aL (bJ dw (aA (ag [] (aa 0)) (aA (ag [] (aa 3)) tN))))) (aA (ag [] (aa 3)) tN)))) (aa 0)) (du [] (oX (aY (.bl false)))) gJ) (bA (cC (aW mN (aL (bJ dA (aA (ag [] (aL (bJ dA (aA (ag [] (aa 0)) (aA (ag [] (aa 3)) (aA (ag [] (aa 4)) tN)))))) (aA (ag [] (aa 4)) (aA (ag [] (aa 3)) tN))))) (aa 0)) (du [] (oX (aY (.bl false)))) gJ) (bA (cC (oG (aW mN (aL (bJ mf (aA (ag [] (aa 0)) (aA (ag [] (aL (bJ bZ (aA (ag [] (aa 0)) (aA (ag [] (aa 1)) tN))))) tN)))) (aa 1)) (aW mN (aL (bJ mf (aA (ag [] (aL (LW (aL (bJ bZ (aA (ag [] (aa 0)) (aA (ag [] (aa 1)) tN)))) (Vf (xt (aY (.int 1))))))) (aA (ag [] (aa 0)) tN)))) (aa 5))) (du [] (oX (aY (.bl false)))) gJ) (bA (cN [] 8 (bJ dA (aA (ag [] (aL (bJ dw (aA (ag [] (aa 0)) (aA (ag [] (aa 3)) tN))))) (aA (ag [] (aa 3)) (aA (ag [] (aa 4)) tN))))) (du [] (oX (bV (aW qK (aa 8) (aL (bJ dw (aA (ag [] (aL (bJ dA (aA (ag [] (aa 0)) (aA (ag [] (aa 3)) (aA (ag [] (aa 4)) tN)))))) (aA (ag [] (aa 4)) tN)))))))))))))))))
theorem e_q8 (E:Gl G){bZ:aQ}(dW:FnG G k "moved" bZ){dw:aQ}(iZ:FnG G k "mirrored" dw){dA:aQ}(ja:FnG G k "exchanged" dA){mf:aQ}(vG:FnG G k "moved_by" mf):ESs G k ⟨Nd,(af pY).names,[],false,false,false,λ_ _=>False⟩ (ak pY) (Nf bZ dw dA mf):=(ar (bf 5 (fZ cE E.z_tuple (aG (aO (bS (N':=["number"]) (cJ (av (ab 1))) ⟨rfl,by decide +kernel,by decide +kernel,by decide +kernel,by decide +kernel,rfl,by decide +kernel⟩ (aP 0) cf (av (aO (eZ az (ab 0)))))) aS) (by decide +kernel))) (ar (bf 6 (fZ cE E.z_tuple (aG (aO (bS (N':=["number","step"]) (vg (ad (av (ab 1)) (ad (av (ab 2)) am)) E.z_zip) ⟨rfl,by decide +kernel,by decide +kernel,by decide +kernel,by decide +kernel,rfl,by decide +kernel⟩ (gj (bw (aP 0) (bw (aP 1) ei))) cf (av (aO (cv (ab 0) (ab 1)))))) aS) (by decide +kernel))) (ar (bf 7 (au dW (ad (av (ab 0)) (ad (av (ab 1)) am)))) (ar (db (GM (tV (aX eN (aO (au dW (ad (av (ab 7)) (ad (av (ab 5)) am)))) (ab 0)) (ld (aX eN (aO (au dW (ad (av (ab 7)) (ad (av (ab 2)) am)))) (aO (au dW (ad (av (ab 0)) (ad (av (ab 6)) am)))))))) (aI (be (fY kT))) bR) (ar (db (aX jn (ab 0) (aO (cA am))) (aI (be (fY kT))) bR) (ar (db (aX eN (aO (au iZ (ad (av (aO (au iZ (ad (av (ab 0)) (ad (av (ab 3)) am))))) (ad (av (ab 3)) am)))) (ab 0)) (aI (be (fY kT))) bR) (ar (db (aX eN (aO (au ja (ad (av (aO (au ja (ad (av (ab 0)) (ad (av (ab 3)) (ad (av (ab 4)) am)))))) (ad (av (ab 4)) (ad (av (ab 3)) am))))) (ab 0)) (aI (be (fY kT))) bR) (ar (db (GM (tV (aX eN (aO (au vG (ad (av (ab 0)) (ad (av (aO (au dW (ad (av (ab 0)) (ad (av (ab 1)) am))))) am)))) (ab 1)) (ld (aX eN (aO (au vG (ad (av (aO (VY (aO (au dW (ad (av (ab 0)) (ad (av (ab 1)) am)))) (tW (uW az))))) (ad (av (ab 0)) am)))) (ab 5))))) (aI (be (fY kT))) bR) (ar (bf 8 (au ja (ad (av (aO (au iZ (ad (av (ab 0)) (ad (av (ab 3)) am))))) (ad (av (ab 3)) (ad (av (ab 4)) am))))) (aI (be (fY (kZ jn (ab 8) (aO (au iZ (ad (av (aO (au ja (ad (av (ab 0)) (ad (av (ab 3)) (ad (av (ab 4)) am)))))) (ad (av (ab 4)) am)))))))))))))))))
abbrev fh:Stmt:=dN 62
abbrev BV:List Str:=["script","pot","count","points","way","by","near","one","other","bound","told","lists"]
theorem Ng:FnScope BV ["script"] (af fh):=⟨rfl,rfl,rfl,by decide +kernel,rfl,by decide +kernel,by decide +kernel⟩
def BW (bj:jV)(pZ:jV)(qa:jV)(mh:jV)(mi:aQ)(bZ:aQ)(dw:aQ)(dA:aQ)(vH:aQ)(vI:aQ):bQ:=(bA (vt (aA (ag [] (aL (yX (aa 0) VT (Vf (aY (.int 2)))))) tN) (LN 1) (bA (cN [] 2 (aU cZ (aY (.int 1)) (aL (dn bj 1 (aA (ag [] (aY (.int 3))) tN))))) (bA (cN [] 3 (dn pZ 1 (aA (ag [] (aa 2)) (aA (ag [] (aY (.int 16))) tN)))) (bA (cN [] 4 (dn qa 1 tN)) (bA (cN [] 5 (dh cF (bh (aL (bL [] [none] (bI (ag [] (aL (dn mh 1 (aA (ag [] (aa 2)) tN))))) (cO 0) bF (ag [] (aL (aU lR (aa 0) (aY (.int 3))))))) cB))) (bA (cN [] 6 (dh cF (bh (aL (bL [] [none] (bI (ag [] (aL (dn mh 1 (aA (ag [] (aa 2)) tN))))) (cO 0) bF (ag [] (aL (aU lR (aa 0) (aY (.int 3))))))) cB))) (bA (cN [] 7 (dn bj 1 (aA (ag [] (aa 2)) tN))) (bA (cN [] 8 (dn bj 1 (aA (ag [] (aa 2)) tN))) (bA (cN [] 9 (oX (dP (aL (kn (aA (ag [] (aY (.int 0))) (aA (ag [] (aL (dn bj 1 (aA (ag [] (aY (.int 50))) tN)))) (aA (ag [] (aL (aU kX (aY (.int 10)) (aY (.int 15))))) (aA (ag [] (aL (aU kX (aY (.int 10)) (aY (.int 28))))) tN)))))) (aL (dn bj 1 (aA (ag [] (aY (.int 4))) tN)))))) (bA (cN [] 10 (bJ mi (aA (ag [] (aa 3)) (aA (ag [] (aa 4)) (aA (ag [] (aa 9)) tN))))) (bA (cN [] 11 (kn (aA (ag [] (aL (bJ bZ (aA (ag [] (aa 3)) (aA (ag [] (aa 5)) tN))))) tN))) (bA (cC (aW mN (aa 3) (aL (kn tN))) (cN [] 11 (aU cZ (aa 11) (aL (kn (aA (ag [] (aL (bJ dw (aA (ag [] (aa 3)) (aA (ag [] (aa 7)) tN))))) (aA (ag [] (aL (bJ dA (aA (ag [] (aa 3)) (aA (ag [] (aa 7)) (aA (ag [] (aa 8)) tN)))))) tN)))))) gJ) (bA (cC (aW mN (aL (bL [] [none,some 10,some 4,some 9] (bI (ag [] (aa 11))) (cO 0) (aW mN (aL (bJ mi (aA (ag [] (aa 0)) (aA (ag [] (aa 2)) (aA (ag [] (aa 3)) tN))))) (aa 1)) (ag [] (aa 0)))) (aL (kn tN))) (du [] (oX (aY (.bl false)))) gJ) (bA (cC (nk (tU (aL (bJ vH (aA (ag [] (aa 3)) (aA (ag [] (aa 5)) (aA (ag [] (aa 6)) (aA (ag [] (aa 7)) (aA (ag [] (aa 8)) tN))))))))) (du [] (oX (aY (.bl false)))) gJ) (cC (nk (tU (aL (bJ vI (aA (ag [] (aa 3)) (aA (ag [] (aa 4)) (aA (ag [] (aa 9)) (aA (ag [] (aL (aU cZ (aY (.int 1)) (aL (dn bj 1 (aA (ag [] (aY (.int 9))) tN)))))) tN)))))))) (du [] (oX (aY (.bl false)))) gJ))))))))))))))) (du [] (oX (aY (.bl true)))))
theorem WW (E:Gl G)(BX:FnPots G k "_law_pots"){bj:jV}(bO:FnIo G k "_law_next" bj){pZ:jV}(BZ:FnIo G k "_law_points" pZ){qa:jV}(Ca:FnIo G k "_law_way" qa){mh:jV}(vJ:FnIo G k "_law_by" mh){mi:aQ}(vK:FnG G k "_law_told" mi){bZ:aQ}(dW:FnG G k "moved" bZ){dw:aQ}(iZ:FnG G k "mirrored" dw){dA:aQ}(ja:FnG G k "exchanged" dA){vH:aQ}(Nh:FnG G k "_law_back_right" vH){vI:aQ}(Ni:FnG G k "_law_times_right" vI):ESs G k ⟨BV,(af fh).names,[],false,false,false,λ_ _=>False⟩ (ak fh) (BW bj pZ qa mh mi bZ dw dA vH vI):=(ar (LP 1 BX (ad (av (aO (VU (ab 0) yW (tW az)))) am) (ar (bf 2 (cv az (aO (ba bO (ab 1) (ad (av az) am))))) (ar (bf 3 (ba BZ (ab 1) (ad (av (ab 2)) (ad (av az) am)))) (ar (bf 4 (ba Ca (ab 1) am)) (ar (bf 5 (fZ cE E.z_tuple (aG (aO (bS (N':=["number"]) (cJ (av (aO (ba vJ (ab 1) (ad (av (ab 2)) am))))) ⟨rfl,by decide +kernel,by decide +kernel,by decide +kernel,by decide +kernel,rfl,by decide +kernel⟩ (aP 0) cf (av (aO (hJ (ab 0) az))))) aS) (by decide +kernel))) (ar (bf 6 (fZ cE E.z_tuple (aG (aO (bS (N':=["number"]) (cJ (av (aO (ba vJ (ab 1) (ad (av (ab 2)) am))))) ⟨rfl,by decide +kernel,by decide +kernel,by decide +kernel,by decide +kernel,rfl,by decide +kernel⟩ (aP 0) cf (av (aO (hJ (ab 0) az))))) aS) (by decide +kernel))) (ar (bf 7 (ba bO (ab 1) (ad (av (ab 2)) am))) (ar (bf 8 (ba bO (ab 1) (ad (av (ab 2)) am))) (ar (bf 9 (fY (ck (aO (cA (ad (av az) (ad (av (aO (ba bO (ab 1) (ad (av az) am)))) (ad (av (aO (gO az az))) (ad (av (aO (gO az az))) am)))))) (aO (ba bO (ab 1) (ad (av az) am)))))) (ar (bf 10 (au vK (ad (av (ab 3)) (ad (av (ab 4)) (ad (av (ab 9)) am))))) (ar (bf 11 (cA (ad (av (aO (au dW (ad (av (ab 3)) (ad (av (ab 5)) am))))) am))) (ar (db (aX eN (ab 3) (aO (cA am))) (aI (bf 11 (cv (ab 11) (aO (cA (ad (av (aO (au iZ (ad (av (ab 3)) (ad (av (ab 7)) am))))) (ad (av (aO (au ja (ad (av (ab 3)) (ad (av (ab 7)) (ad (av (ab 8)) am)))))) am))))))) bR) (ar (db (aX eN (aO (bS (N':=["some","told","way","bound"]) (cJ (av (ab 11))) ⟨rfl,by decide +kernel,by decide +kernel,by decide +kernel,by decide +kernel,rfl,by decide +kernel⟩ (aP 0) (zd (aX eN (aO (au vK (ad (av (ab 0)) (ad (av (ab 2)) (ad (av (ab 3)) am))))) (ab 1))) (av (ab 0)))) (aO (cA am))) (aI (be (fY kT))) bR) (ar (db (oH (lc (aO (au Nh (ad (av (ab 3)) (ad (av (ab 5)) (ad (av (ab 6)) (ad (av (ab 7)) (ad (av (ab 8)) am))))))))) (aI (be (fY kT))) bR) (aI (db (oH (lc (aO (au Ni (ad (av (ab 3)) (ad (av (ab 4)) (ad (av (ab 9)) (ad (av (aO (cv az (aO (ba bO (ab 1) (ad (av az) am)))))) am)))))))) (aI (be (fY kT))) bR)))))))))))))))) (aI (be (fY kT))))

end
section
set_option hygiene false
local macro_rules|`(tactic| walk_at "vx")=>`(tactic| ((try simp only[aJ,startIo,List.map_cons,List.map_nil,List.length_cons,List.length_nil,List.replicate_succ,List.replicate_zero,List.cons_append,List.nil_append,Nat.reduceAdd,Nat.reduceSub]);(try dsimp only[bA,Vc.tIfE,rO,vA,gJ,qN,cC,gc,du,cN,ZD,mO,LF,uY,aL,oX,Zz,oxV,gL,gM,ag,aa,aY,drf,drfs,aU,cZ,gN,dB,tT,kX,Lz,GI,xt,aW,bV,qK,mN,LC,Gh,leT,ZA,ZB,isNone,isT,yR,LD,tU,gh,oG,nk,nl,dP,VT,Vf,ZC,yX,LW,LV,tN,aA,kn,qL,cB,bh,dh,eg,GR,uX,lh,yY,qM,cF,bE,bJ,cO,tY,gC,tZ,bI,ko,GV,di,bF,bL,qQ,dj,kr,nH,VW,xw,oU,ZH,fS,lR,Vc.ix2_0,Vc.ix2_1,Vc.ixN2_0,Vc.ixN2_1,ud,startIo,zQ,jU,dn,hE,jW,xx,xz,aJ,List.getElem?_cons_zero,List.getElem?_cons_succ,List.getElem?_nil,List.set_cons_zero,List.set_cons_succ,List.map_cons,List.map_nil,List.length_cons,List.length_nil,List.replicate_succ,List.replicate_zero,List.cons_append,List.nil_append,Nat.reduceAdd,Nat.reduceSub]);try simp only[List.append_nil,Nat.add_sub_cancel,Nat.zero_add,List.not_mem_nil,not_false_eq_true,true_and,and_true,decide_eq_true_eq,ite_true,ite_false,Bool.not_eq_true',decide_eq_false_iff_not,List.getElem?_cons_zero,List.getElem?_cons_succ]))
local macro_rules|`(tactic| walk_at "vc")=>`(tactic| repeat (refine And.intro (by first|assumption|decide|omega | (unfold CMul;omega) | (unfold ZZ;omega) | (unfold ki;omega)) ?_))
local macro_rules|`(tactic| walk_at "vg")=>`(tactic| simp only[cO,tZ,gC,tY,List.length_cons,List.length_nil,Nat.reduceAdd,Nat.zero_add,true_and,List.set_cons_zero,List.set_cons_succ,Int.zero_add])
local macro_rules|`(tactic| walk_at "vd")=>`(tactic| walk_at "vx")
set_option hygiene true

variable [KF]
def wayS (b:Bool):Str:=if b=true then "squares" else "streets"
def cj (b:Bool):D:=.str (wayS b)
def ptD (p:List Int):D:=.tup (p.map D.int)
def Bd (p:List Int):Prop:=p.length<=3/\∀ x∈p,-(2^60) < x/\x < 2^60
def fm (x:Int):Int:=if x < 0 then -x else x
def nM (b:Bool)(x y:Int):Int:=if b=true then fm (x - y)*fm (x - y) else fm (x - y)
def bT (b:Bool)(p q:List Int):Int:=((p.zip q).map λxy=>nM b xy.1 xy.2).sum
def jA:aQ:=λds Q=>∃ b p q,ds=[cj b,ptD p,ptD q]/\Bd p/\Bd q/\Q (.sh (.int (bT b p q)))
theorem qb (b:Bool):bP 8 (cj b)=true:=by cases b<;>decide +kernel
theorem mj:bP 8 (.str "streets")=true:=by decide +kernel
theorem ml:bP 8 (.str "squares")=true:=by decide +kernel
theorem jY (b:Bool):jm (cj b) (.str "streets")=!b:=by cases b<;>decide +kernel
theorem jZ (b:Bool):jm (cj b) (.str "squares")=b:=by cases b<;>decide +kernel
theorem sz:sizeLine=2^24:=rfl
theorem vL {p q:List Int}(h:Bd p):(p.zip q).length<=3:=by
 rw[List.length_zip];have:=h.1;omega
theorem vM {α:Type}(l:List α)(f:α->Int):(l.map λa=>D.int (f a)).all isInt=true:=by
 rw[List.all_map];exact List.all_eq_true.mpr λ_ _=>rfl
theorem rX {α:Type}(l:List α)(f:α->Int):(l.map λa=>D.int (f a)).map ly=l.map f:=by
 rw[List.map_map];rfl
theorem WX (ds:List D)(Q:B->Prop)(h:jA ds Q):AW { nx:=λ_=>Q (.sh .non),rt:=λb _=>Q b } (aJ AV.length ds):=by
 obtain⟨b,p,q,rfl,hp,hq,h⟩:=h;unfold AW ptD;walk_at "vx";rw[gW];refine bn (λp=>.tup [.int p.1,.int p.2]) (λxy:Int×Int=>D.int (fm (xy.1 - xy.2))) _ (λxy hxy A ha=>?_) (by have:=vL (q:=q) hp;rw[sz];omega) ?_
 ·walk_at "vx"
  exact ha
 ·walk_at "vx"
  rw[jY];refine⟨⟨qb b,mj⟩,?_⟩;cases b with
  | false =>
   refine (if_pos rfl).mpr ?_;refine⟨vM _ _,?_⟩;rw[rX];exact h
  | true =>
   refine (if_neg (by decide)).mpr ?_
   rw[show (List.map (λxy:Int×Int=>D.int (fm (xy.1 - xy.2))) (p.zip q))=(List.map (λxy:Int×Int=>(fm (xy.1 - xy.2))) (p.zip q)).map D.int from by rw[List.map_map];rfl]
   refine bn D.int (λd:Int=>D.int (d*d)) _ (λd hd A ha=>?_) (by have:=vL (q:=q) hp;rw[sz,List.length_map];omega) ?_
   ·walk_at "vx"
    refine⟨?_,ha⟩;obtain⟨xy,hxy,rfl⟩:=List.mem_map.mp hd;have h1:=hp.2 _ (List.of_mem_zip hxy).1;have h2:=hq.2 _ (List.of_mem_zip hxy).2;unfold CMul fm;left
    split<;>omega
   ·walk_at "vx"
    refine⟨vM _ _,?_⟩;rw[rX,List.map_map];exact h
def Good (n:Nat)(pts:List (List Int)):Prop:=(1<=n/\n<=3)/\∀ p∈pts,p.length=n/\∀ x∈p,-(2^59) < x/\x < 2^59
theorem Good.bd {n:Nat}{pts:List (List Int)}(g:Good n pts){p:List Int}(h:p∈pts):Bd p:=⟨by have:=(g.2 p h).1;have:=g.1.2;omega,λx hx=>by have:=(g.2 p h).2 x hx;omega⟩
theorem fU {n i a:Nat}(h:(List.range n)[i]?=some a):a=i/\i < n:=by
 have hi:i < n:=by
  have:=(List.getElem?_eq_some_iff.mp h).1
  rwa [List.length_range] at this
 rw[List.getElem?_range hi] at h;cases h;exact⟨rfl,hi⟩

def bv (pts:List (List Int)):D:=.lst (pts.map ptD)
theorem eU {pts:List (List Int)}{j:Nat}(h:j < pts.length):(pts.map ptD)[j]?=some (ptD (pts.getD j [])):=by
 rw[List.getElem?_map,List.getD_eq_getElem?_getD,List.getElem?_eq_getElem h];rfl
theorem cT {pts:List (List Int)}{j:Nat}(h:j < pts.length):pts.getD j []∈pts:=by
 rw[List.getD_eq_getElem?_getD,List.getElem?_eq_getElem h];exact List.getElem_mem h
theorem Cb {α:Type}{xs:List α}{i:Nat}{q:Nat×α}(h:(xs.mapIdx λi x=>(i,x))[i]?=some q):q.1=i/\xs[i]?=some q.2:=by
 rw[List.getElem?_mapIdx] at h;cases e:xs[i]? with
 | none=>rw[e] at h;cases h
 | some x=>rw[e] at h;cases h;exact⟨rfl,rfl⟩

def dX (n:Nat)(pts:List (List Int)):Prop:=(1<=n/\n<=3)/\∀ p∈pts,p.length=n
theorem Good.shape {n:Nat}{pts:List (List Int)}(g:Good n pts):dX n pts:=⟨g.1,λp hp=>(g.2 p hp).1⟩
def jB:aQ:=λds Q=>∃ c:Int,ds=[.int c]/\1<=c/\c<=3/\Q (.sh .non)
theorem Cc (ds:List D)(Q:B->Prop)(h:jB ds Q):Am { nx:=λ_=>Q (.sh .non),rt:=λb _=>Q b } (aJ Al.length ds):=by
 obtain⟨c,rfl,h1,h2,h⟩:=h;unfold Am;walk_at "vx";rw[if_neg (by omega),if_neg (by omega)]
 exact h
def uq:aQ:=λds Q=>∃ (p:List Int) (c:Int),ds=[ptD p,.int c]/\(p.length:Int)=c/\Q (.sh .non)
theorem WY (ds:List D)(Q:B->Prop)(h:uq ds Q):Md { nx:=λ_=>Q (.sh .non),rt:=λb _=>Q b } (aJ Mc.length ds):=by
 obtain⟨p,c,rfl,rfl,h⟩:=h;unfold Md ptD;walk_at "vx";rw[List.length_map];refine⟨⟨rfl,rfl⟩,?_⟩;have e:jm (.int (p.length:Nat)) (.int (p.length:Nat))=true:=by simp [jm]
 rw[if_neg (by rw[e];decide)]
 exact h
def dY:aQ:=λds Q=>∃ n pts,ds=[bv pts]/\dX n pts/\Q (.sh .non)
theorem Nj (ds:List D)(Q:B->Prop)(h:dY ds Q):Ao jB uq { nx:=λ_=>Q (.sh .non),rt:=λb _=>Q b } (aJ An.length ds):=by
 obtain⟨n,pts,rfl,hg,h⟩:=h;unfold Ao bv;walk_at "vx";refine dQ ptD pts (λi σ=>∃ x,σ=[some (.sh (.lst (pts.map ptD))),x]) (λi p σ N' hx hI hN'=>?_) (λσ hI=>h) ⟨none,rfl⟩;obtain⟨x,rfl⟩:=hI;have hp:=hg.2 p (List.mem_of_getElem? hx);have h1:=hg.1;have h0:0 < pts.length:=Nat.lt_of_le_of_lt (Nat.zero_le _) (List.getElem?_eq_some_iff.mp hx).1;have h00:=hg.2 _ (cT h0);walk_at "vg";refine ah λN2 hN2=>?_;rw[show ptD p=.tup (p.map D.int) from rfl]
 walk_at "vx";rw[List.length_map];refine⟨_,rfl,by omega,by omega,?_⟩
 walk_at "vx";subst hN2;walk_at "vx";refine bg (n:=0) rfl (eU h0) ?_;rw[show ptD (pts.getD 0 [])=.tup ((pts.getD 0 []).map D.int) from rfl]
 walk_at "vx";rw[List.length_map];refine⟨p,_,rfl,by rw[hp,h00],?_⟩
 exact hN' _ ⟨_,rfl⟩
def qd:aQ:=λds Q=>∃ b,ds=[cj b]/\Q (.sh .non)
theorem Nk (ds:List D)(Q:B->Prop)(h:qd ds Q):As { nx:=λ_=>Q (.sh .non),rt:=λb _=>Q b } (aJ Aq.length ds):=by
 obtain⟨b,rfl,h⟩:=h;unfold As;walk_at "vx";refine⟨⟨qb b,mj⟩,?_⟩;rw[jY];cases b with
 | false=>exact h
 | true =>
  refine (if_pos rfl).mpr ⟨⟨qb true,ml⟩,?_⟩;rw[jZ];exact h
def eV:aQ:=λds Q=>∃ n b pts,ds=[bv pts,cj b]/\dX n pts/\Q (.sh .non)
theorem WZ (ds:List D)(Q:B->Prop)(h:eV ds Q):Mi dY qd { nx:=λ_=>Q (.sh .non),rt:=λb _=>Q b } (aJ Mh.length ds):=by
 obtain⟨n,b,pts,rfl,hg,h⟩:=h;unfold Mi;walk_at "vx";refine⟨n,pts,rfl,hg,?_⟩;walk_at "vx";exact⟨b,rfl,h⟩

def okS:Nat->D->Bool
 | _,.non=>true
 | _,.int _=>true
 | n+1,.tup xs=>decide (xs.length<=1000000)&&xs.all (okS n)
 | n+1,.lst xs=>decide (xs.length<=1000000)&&xs.all (okS n)
 | _,_=>false
def cK (b:Bool)(pts:List (List Int))(i j:Nat):D:=.tup [.int (bT b (pts.getD i []) (pts.getD j [])),.int i,.int j]
def fz (b:Bool)(pts:List (List Int))(i m:Nat):List D:=(List.range m).map λt=>cK b pts i (i+1+t)
def cU (b:Bool)(pts:List (List Int)):Nat->List D
 | 0=>[]
 | i+1=>cU b pts i++fz b pts i (pts.length - (i+1))
def aV (b:Bool)(pts:List (List Int)):List D:=cU b pts pts.length
theorem rY (b:Bool)(pts:List (List Int))(i m:Nat):(fz b pts i m).length=m:=by unfold fz;rw[List.length_map,List.length_range]
theorem xM (b:Bool)(pts:List (List Int))(i m:Nat):fz b pts i (m+1)=fz b pts i m++[cK b pts i (i+1+m)]:=by unfold fz;rw[List.range_succ,List.map_append];rfl
theorem nN (b:Bool)(pts:List (List Int)):∀ i,(cU b pts i).length<=i*pts.length
 | 0=>Nat.zero_le _
 | i+1=>by
  have ih:=nN b pts i;show (cU b pts i++fz b pts i (pts.length - (i+1))).length<=_;rw[List.length_append,rY,Nat.succ_mul];omega
theorem vN {b:Bool}{pts:List (List Int)}{i:Nat}(hl:pts.length<=1000)(hi:i<=pts.length):(cU b pts i).length<=1000000 :=
 Nat.le_trans (nN b pts i) (Nat.mul_le_mul (show i<=1000 by omega) hl)
theorem mn {b:Bool}{pts:List (List Int)}(hl:pts.length<=1000):(aV b pts).length<=1000000:=vN hl (Nat.le_refl _)
theorem rZ {b:Bool}{pts:List (List Int)}:∀ {i:Nat} {d:D},d∈cU b pts i->∃ p q,p < i/\p < q/\(i<=pts.length->q < pts.length)/\d=cK b pts p q
 | i+1,d,h=>by
  rcases List.mem_append.mp (show d∈cU b pts i++fz b pts i (pts.length - (i+1)) from h) with h|h
  ·obtain⟨p,q,h1,h2,h3,h4⟩:=rZ h
   exact⟨p,q,by omega,h2,λz=>h3 (by omega),h4⟩
  ·obtain⟨t,ht,rfl⟩:=List.mem_map.mp h
   have ht:=List.mem_range.mp ht;exact⟨i,i+1+t,by omega,by omega,λz=>by omega,rfl⟩
theorem cu {b:Bool}{pts:List (List Int)}{d:D}(h:d∈aV b pts):∃ p q,p < q/\q < pts.length/\d=cK b pts p q:=by
 obtain⟨p,q,h1,h2,h3,h4⟩:=rZ h;exact⟨p,q,h2,h3 (Nat.le_refl _),h4⟩
theorem eW (b:Bool)(pts:List (List Int)):(aV b pts).all fk=true:=List.all_eq_true.mpr λd hd=>by
 obtain⟨p,q,_,_,rfl⟩:=cu hd;rfl
def eH:aQ:=λds Q=>∃ b n pts,ds=[bv pts,cj b]/\Good n pts/\pts.length<=1000/\Q (.own (aV b pts))
def oB (sp:aQ)(rest:bQ):bQ:=(bA (cN [] 2 (kn tN)) (bA (di (ko (bh (aL (dh eg (bh (aa 0) cB))) cB)) (cO 3) (di (GV (bh (aL (aU cZ (aa 3) (aY (.int 1)))) (bh (aL (dh eg (bh (aa 0) cB))) cB))) (cO 4) (gc (mO (aa 2) (ag [] (qL (aA (ag [] (aL (bJ sp (aA (ag [] (aa 1)) (aA (ag [] (dP (aa 0) (aa 3))) (aA (ag [] (dP (aa 0) (aa 4))) tN)))))) (aA (ag [] (aa 3)) (aA (ag [] (aa 4)) tN))))))))) rest))
theorem Cd {b:Bool}{n:Nat}{pts:List (List Int)}{rest:bQ}{De:EndsD}(hg:Good n pts)(hl:pts.length<=1000)(h:∀ x3 x4,rest De [some (.sh (bv pts)),some (.sh (cj b)),some (.own (aV b pts)),x3,x4]) :
  oB jA rest De [some (.sh (bv pts)),some (.sh (cj b)),none,none,none]:=by
 unfold oB;refine ah λN hN=>?_;walk_at "vx";refine⟨by decide,?_⟩
 subst hN;refine ah λN hN=>?_;rw[show bv pts=.lst (pts.map ptD) from rfl]
 walk_at "vx";rw[List.length_map,Int.toNat_natCast,cn];refine⟨by omega,dQ (λi:Nat=>.int (0+(i:Nat))) (List.range pts.length) (λi σ=>∃ x3 x4,σ=[some (.sh (.lst (pts.map ptD))),some (.sh (cj b)),some (.own (cU b pts i)),x3,x4]) (λi a σ N' hx hI hN'=>?_) (λσ hI=>?_) ⟨none,none,rfl⟩⟩
 ·obtain⟨rfl,hi⟩:=fU hx
  obtain⟨x3,x4,rfl⟩:=hI;walk_at "vg";walk_at "vx";rw[List.length_map,cn];refine⟨by omega,?_⟩
  rw[show ((pts.length:Int) - ((a:Int)+1)).toNat=pts.length - (a+1) by omega]
  refine dQ (λt:Nat=>.int ((a:Int)+1+(t:Nat))) (List.range (pts.length - (a+1))) (λm σ=>∃ x4,σ=[some (.sh (.lst (pts.map ptD))),some (.sh (cj b)),some (.own (cU b pts a++fz b pts a m)),some (.sh (.int a)),x4]) (λm t σ N2 hx2 hI2 hN2=>?_) (λσ hI2=>?_) ⟨x4,by rw[show fz b pts a 0=[] from rfl,List.append_nil]⟩
  ·obtain⟨rfl,ht⟩:=fU hx2
   obtain⟨x4,rfl⟩:=hI2;walk_at "vx";have hj:a+1+t < pts.length:=by omega
   refine⟨⟨_,rfl⟩,?_⟩;refine bg (n:=a) rfl (eU hi) ?_;refine bg (n:=a+1+t) (by omega) (eU hj) ?_
   walk_at "vx";refine⟨b,_,_,rfl,hg.bd (cT hi),hg.bd (cT hj),?_⟩;walk_at "vx";have hz:=vN (b:=b) hl (show a<=pts.length by omega)
   refine⟨by decide,by rw[sz,List.length_append,rY];omega,hN2 _ ⟨some (.sh (.int ((a:Int)+1+(t:Int)))),?_⟩⟩
   rw[xM,List.append_assoc];unfold cK;rw[show ((a+1+t:Nat):Int)=(a:Int)+1+(t:Int) by omega]
  ·obtain⟨x4,rfl⟩:=hI2
   rw[List.length_range];exact hN' _ ⟨some (.sh (.int a)),x4,rfl⟩
 ·obtain⟨x3,x4,rfl⟩:=hI
  subst hN;rw[List.length_range];exact h x3 x4
theorem HW (ds:List D)(Q:B->Prop)(h:eH ds Q):Wx jA { nx:=λ_=>Q (.sh .non),rt:=λb _=>Q b } (aJ MD.length ds):=by
 obtain⟨b,n,pts,rfl,hg,hl,h⟩:=h;exact Cd hg hl λx3 x4=>by walk_at "vx";exact h

theorem eI {xs:List D}(h:xs.all fk=true):dk xs=(cc xs).head?:=by
 have key:∀ (l:List D) (b:D),(∀ x∈l,fk x=true)->fk b=true->∃ m,l.foldl (λb y=>if mQ y b=true then y else b) b=m/\(m=b\/m∈l)/\fk m=true/\jT m b=true/\∀ x∈l,jT m x=true:=by
  intro l
  induction l with
  | nil=>intro b _ hb;exact⟨b,rfl,.inl rfl,hb,by unfold jT;rw[Vs.lx_irrefl];rfl,λx hx=>by cases hx⟩
  | cons y l ih =>
   intro b hl hb;have hy:=hl y (List.mem_cons_self ..);have lt:mQ y b=HT.lexLt (dm y) (dm b):=by
    rw[dU hy,dU hb];rfl
   rw[List.foldl_cons]
   by_cases e:mQ y b=true
   ·rw[if_pos e]
    obtain⟨m,m1,m2,m3,m4,m5⟩:=ih y (λx hx=>hl x (List.mem_cons_of_mem _ hx)) hy;refine⟨m,m1,?_,m3,?_,λx hx=>?_⟩
    ·rcases m2 with rfl|m2
     ·exact .inr (List.mem_cons_self ..)
     ·exact .inr (List.mem_cons_of_mem _ m2)
    ·refine jv m y b m4 ?_
     unfold jT;rw[lt] at e;cases e2:HT.lexLt (dm b) (dm y) with
     | false=>rfl
     | true=>have:=Vs.lx_trans _ _ _ e e2;rw[Vs.lx_irrefl] at this;cases this
    ·rcases List.mem_cons.mp hx with rfl|hx
     ·exact m4
     ·exact m5 x hx
   ·rw[if_neg e]
    obtain⟨m,m1,m2,m3,m4,m5⟩:=ih b (λx hx=>hl x (List.mem_cons_of_mem _ hx)) hb;refine⟨m,m1,?_,m3,m4,λx hx=>?_⟩
    ·rcases m2 with rfl|m2
     ·exact .inl rfl
     ·exact .inr (List.mem_cons_of_mem _ m2)
    ·rcases List.mem_cons.mp hx with rfl|hx
     ·refine jv m b x m4 ?_
      unfold jT;rw[lt] at e;simpa using e
     ·exact m5 x hx
 have hp:=bD xs;have hs:=dC xs;cases xs with
 | nil=>rw[List.perm_nil.mp hp];rfl
 | cons x xs =>
  have all:=List.all_eq_true.mp h;obtain⟨m,m1,m2,m3,m4,m5⟩:=key xs x (λy hy=>all y (List.mem_cons_of_mem _ hy)) (all x (List.mem_cons_self ..));have hm:m∈x::xs:=by rcases m2 with rfl|m2;exact List.mem_cons_self ..;exact List.mem_cons_of_mem _ m2
  have hall:∀ y∈x::xs,jT m y=true:=λy hy=>by
   rcases List.mem_cons.mp hy with rfl|hy
   ·exact m4
   ·exact m5 y hy
  show some _=_;rw[m1];cases e:cc (x::xs) with
  | nil=>rw[e] at hp;exact absurd hp.length_eq (by simp)
  | cons a l =>
   rw[e] at hp hs;have ha:a∈x::xs:=hp.mem_iff.mp (List.mem_cons_self ..);have h1:=hall a ha;have h2:jT a m=true:=by
    rcases List.mem_cons.mp (hp.mem_iff.mpr hm) with rfl|hm
    ·unfold jT;rw[Vs.lx_irrefl];rfl
    ·exact (List.pairwise_cons.mp hs).1 m hm
   unfold jT at h1 h2;simp only[Bool.not_eq_true'] at h1 h2;show some m=some a;rw[dU m3,dU (all a ha),Vs.lx_tri _ _ h2 h1]

def dZ (xs:List D):Prop:=∃ c n:Int,xs=[.int c,.int n]
def fV:jV:=λxs ds Q=>dZ xs/\∃ m:Int,ds=[.int m]/\1<=m/\m < 2^200/\∀ r ys,0<=r->r < m->dZ ys->Q (.sh (.int r)) ys
theorem Nl (xs ds:List D)(Q:B->List D->Prop)(h:fV xs ds Q):BF { nx:=ud Q (.sh .non),rt:=λb σ=>ud Q b σ } (startIo BE.length xs ds):=by
 obtain⟨⟨x,y,rfl⟩,m,rfl,hm,hm2,h⟩:=h;unfold BF;refine ah λN hN=>?_;simp only[startIo];walk_at "vx";refine⟨⟨_,rfl⟩,?_⟩;subst hN;refine ah λN hN=>?_;walk_at "vx";subst hN;refine ah λN hN=>?_;walk_at "vx";refine⟨by unfold ki;decide,?_⟩
 split
 ·refine⟨by unfold rK;omega,⟨_,rfl⟩,by omega,?_⟩
  exact h _ _ (Int.emod_nonneg _ (by omega)) (Int.emod_lt_of_pos _ (by omega)) ⟨_,_,rfl⟩
 ·subst hN
  walk_at "vx";refine⟨by unfold CMul;omega,by unfold CMul;omega,by decide,by unfold CMul;omega,by decide,by unfold CMul;omega,by unfold CMul;omega,by decide,by unfold rK;decide,by omega,?_⟩
  exact h _ _ (Int.emod_nonneg _ (by omega)) (Int.emod_lt_of_pos _ (by omega)) ⟨_,_,rfl⟩
def qe:jV:=λxs ds Q=>dZ xs/\ds=[]/\∀ b ys,dZ ys->Q (.sh (cj b)) ys
theorem Nm (xs ds:List D)(Q:B->List D->Prop)(h:qe xs ds Q):BJ fV { nx:=ud Q (.sh .non),rt:=λb σ=>ud Q b σ } (startIo BI.length xs ds):=by
 obtain⟨r0,rfl,h⟩:=h;unfold BJ;simp only[startIo];walk_at "vx";refine⟨by decide,⟨_,rfl⟩,r0,2,rfl,by decide,by decide,λr ys h0 h1 r1=>?_⟩
 walk_at "vx";refine dc h0 (by simp only[List.length_cons,List.length_nil];omega) λd hd=>?_
 simp only[List.mem_cons,List.not_mem_nil,or_false] at hd;rcases hd with rfl|rfl
 ·exact h false ys r1
 ·exact h true ys r1
def kc (v:Int):Prop:=-(10^15)<=v/\v<=10^15
def gG:jV:=λxs ds Q=>dZ xs/\∃ n m:Nat,ds=[.int n,.int m]/\1<=n/\n<=3/\m<=150/\∀ pts ys,Good n pts->(∀ p∈pts,∀ v∈p,kc v)->pts.length<=m->dZ ys->Q (.own (pts.map ptD)) ys
theorem Ce {α:Type}(l:List α)(a b:α):(l++[a]).set l.length b=l++[b]:=by
 induction l with
 | nil=>rfl
 | cons x l ih=>simp
theorem xN (xs ds:List D)(Q:B->List D->Prop)(h:gG xs ds Q):BH fV { nx:=ud Q (.sh .non),rt:=λb σ=>ud Q b σ } (startIo BG.length xs ds):=by
 obtain⟨r0,n,m,rfl,hn1,hn3,hm,h⟩:=h;unfold BH
 -- many
 refine ah λN hN=>?_;simp only[startIo];walk_at "vx";refine⟨⟨_,rfl⟩,by decide,⟨_,rfl⟩,r0,3,rfl,by decide,by decide,λa1 x1 a10 a11 r1=>?_⟩
 walk_at "vx";refine dc a10 (by simp only[List.length_cons,List.length_nil];omega) λd hd=>?_
 obtain⟨dN,rfl,ht1,ht2⟩:∃ v:Int,d=.int v/\1<=v/\v<=m+1:=by
  simp only[List.mem_cons,List.not_mem_nil,or_false] at hd;rcases hd with rfl|rfl|rfl
  ·exact⟨_,rfl,by split<;>omega,by split<;>omega⟩
  ·exact⟨_,rfl,by split<;>omega,by split<;>omega⟩
  ·exact⟨_,rfl,by omega,by omega⟩
 walk_at "vx";refine⟨r1,_,rfl,by omega,by omega,λa2 x2 a20 a21 r2=>?_⟩
 obtain⟨many,hmn,rfl⟩:∃ v:Nat,v<=m/\a2=(v:Int):=⟨a2.toNat,by omega,by omega⟩
 walk_at "vx";subst hN
 -- kind
 refine ah λN hN=>?_;walk_at "vx";refine⟨⟨_,rfl⟩,r2,6,rfl,by decide,by decide,λkind x3 kd0 kd1 r3=>?_⟩
 walk_at "vx";subst hN;refine ah λN hN=>?_;walk_at "vx";refine⟨by decide,?_⟩
 subst hN
 -- the loop
 refine ah λN hN=>?_;show di _ _ _ _ _;generalize ht:bA (cN [0] 7 _) _=tb;walk_at "vx";rw[Int.toNat_natCast,cn];refine⟨by omega,dQ (λi:Nat=>.int (0+(i:Nat))) (List.range many) (λi σ=>∃ x pts a b c d e,σ=[some (.own x),some (.sh (.int n)),some (.sh (.int m)),some (.sh (.int many)),some (.sh (.int kind)),some (.own (pts.map ptD)),a,b,c,d,e]/\dZ x/\pts.length=i/\Good n pts/\∀ p∈pts,∀ v∈p,kc v) (λi place σ N' hx hI hN'=>?_) (λσ hI=>?_) ⟨x3,[],none,none,none,none,none,rfl,r3,rfl,⟨⟨hn1,hn3⟩,λp hp=>by cases hp⟩,λp hp=>by cases hp⟩⟩
 ·obtain⟨rfl,hi⟩:=fU hx
  obtain⟨x,pts,a,b,c,d,e,rfl,rx,hl,hg,hf⟩:=hI;walk_at "vg";subst ht;refine ah λN1 hN1=>?_;walk_at "vx";refine⟨by decide,?_⟩
  subst hN1;refine ah λN1 hN1=>?_;show di _ _ _ _ _;generalize ht:bA (cN [0] 9 _) _=tb;walk_at "vx";rw[Int.toNat_natCast,cn];refine⟨by omega,dQ (λi:Nat=>.int (0+(i:Nat))) (List.range n) (λi σ=>∃ x p c d e,σ=[some (.own x),some (.sh (.int n)),some (.sh (.int m)),some (.sh (.int many)),some (.sh (.int kind)),some (.own (pts.map ptD)),some (.sh (.int (place:Nat))),some (.own (p.map D.int)),c,d,e]/\dZ x/\p.length=i/\∀ v∈p,kc v) (λj kk σ N2 hx2 hI hN2=>?_) (λσ hI=>?_) ⟨x,[],_,_,_,rfl,rx,rfl,λv hv=>by cases hv⟩⟩
  ·obtain⟨rfl,hj⟩:=fU hx2
   obtain⟨x,p,c,d,e,rfl,rx,hpl,hpf⟩:=hI;walk_at "vg";subst ht;refine ah λN3 hN3=>?_;walk_at "vx";refine⟨⟨_,rfl⟩,rx,4,rfl,by decide,by decide,λb1 y1 b10 b11 ry1=>?_⟩
   walk_at "vx";refine⟨⟨_,rfl⟩,ry1,41,rfl,by decide,by decide,λb2 y2 b20 b21 ry2=>?_⟩
   walk_at "vx";refine⟨by unfold CMul;omega,by unfold ki;decide,⟨_,rfl⟩,ry2,3,rfl,by decide,by decide,λb3 y3 b30 b31 ry3=>?_⟩
   walk_at "vx";refine⟨by decide,?_⟩
   subst hN3;refine ah λN3 hN3=>?_;walk_at "vx";refine⟨⟨_,rfl⟩,⟨_,rfl⟩,by unfold ki;decide,by unfold CMul;decide,ry3,_,rfl,by decide,by decide,λb4 y4 b40 b41 ry4=>?_⟩
   walk_at "vx";refine⟨by unfold ki;decide,by decide,?_⟩
   subst hN3;refine ah λN3 hN3=>?_;walk_at "vx";refine⟨by decide,⟨_,rfl⟩,ry4,2,rfl,by decide,by decide,λb5 y5 b50 b51 ry5=>?_⟩
   walk_at "vx";have b41':b4 < 2*10^15 - 1:=b41;have hfl:∀ d∈[D.int b1,D.int (b2 - 20),D.int ((place:Int)*((kk:Int)+1)),D.int ((10:Int)^Int.toNat 15 - 1 - b3),D.int (b4 - (10:Int)^Int.toNat 15+1)],∃ v,d=.int v/\kc v:=by
    intro d hd;have hmul:0<=(place:Int)*((kk:Int)+1)/\(place:Int)*((kk:Int)+1)<=150*3:=⟨Int.mul_nonneg (by omega) (by omega),Int.mul_le_mul (by omega) (by omega) (by omega) (by omega)⟩
    have e10:(10:Int)^Int.toNat 15=10^15:=rfl;rw[e10] at hd;simp only[List.mem_cons,List.not_mem_nil,or_false] at hd;unfold kc;rcases hd with rfl|rfl|rfl|rfl|rfl
    all_goals exact⟨_,rfl,by omega,by omega⟩
   refine⟨⟨rfl,rfl⟩,by unfold CMul;omega,?_⟩
   refine dc (by split<;>omega) (by simp only[List.length_cons,List.length_nil];split<;>omega) λd hd=>?_
   obtain⟨tu,rfl,htu⟩:∃ v:Int,d=.int v/\(v=1\/v=-1):=by
    simp only[List.mem_cons,List.not_mem_nil,or_false] at hd;rcases hd with rfl|rfl
    ·exact⟨_,rfl,.inl rfl⟩
    ·exact⟨_,rfl,.inr rfl⟩
   subst hN3;walk_at "vx";refine⟨⟨_,rfl⟩,?_⟩;refine dc (by split<;>omega) (by simp only[List.length_cons,List.length_nil];split<;>omega) λd hd=>?_
   obtain⟨v,rfl,hv⟩:=hfl d hd;walk_at "vx";refine⟨by unfold CMul;omega,by rw[List.length_map,sz];omega,hN2 _ ⟨y5,p++[tu*v],_,_,_,by rw[List.map_append];rfl,ry5,by simp [hpl],λw hw=>?_⟩⟩
   rcases List.mem_append.mp hw with hw|hw
   ·exact hpf w hw
   ·rw[List.mem_singleton.mp hw]
    unfold kc at hv ⊢;rcases htu with rfl|rfl<;>omega
  ·obtain⟨x,p,c,d,e,rfl,rx,hpl,hpf⟩:=hI
   rw[List.length_range] at hpl;subst hN1;have good:∀ q:List Int,q.length=n->(∀ v∈q,kc v)->Good n (pts++[q])/\∀ p∈pts++[q],∀ v∈p,kc v:=λq hq hv=>⟨⟨hg.1,λp hp=>by
    rcases List.mem_append.mp hp with hp|hp
    ·exact hg.2 p hp
    ·rw[List.mem_singleton.mp hp]
     exact⟨hq,λv hv'=>by have:=hv v hv';unfold kc at this;omega⟩⟩,λp hp=>by
    rcases List.mem_append.mp hp with hp|hp
    ·exact hf p hp
    ·rw[List.mem_singleton.mp hp];exact hv⟩
   have e1:pts.map ptD++[D.tup (p.map D.int)]=(pts++[p]).map ptD:=by rw[List.map_append];rfl
   dsimp only;refine ah λN1 hN1=>?_;walk_at "vx";refine⟨⟨_,rfl⟩,by rw[List.length_map,sz];omega,?_⟩
   rw[e1];subst hN1;walk_at "vx";have done:∀ (x:List D) (q:List Int) (e1 e2 e3 e4 e5:Option B),dZ x->q.length=n->(∀ v∈q,kc v)->N' [some (.own x),some (.sh (.int n)),some (.sh (.int m)),some (.sh (.int many)),some (.sh (.int kind)),some (.own ((pts++[q]).map ptD)),e1,e2,e3,e4,e5]:=λx q e1 e2 e3 e4 e5 rx hq hv =>
    hN' _ ⟨x,pts++[q],e1,e2,e3,e4,e5,rfl,rx,by simp [hl],(good q hq hv).1,(good q hq hv).2⟩
   refine⟨⟨rfl,rfl⟩,?_⟩
   split
   ·split
    ·rename_i hpos
     have hpos:(0:Int) < place:=by simpa using hpos
     refine⟨⟨_,rfl⟩,rx,2,rfl,by decide,by decide,λr1 y1 _ _ ry1=>?_⟩
     walk_at "vx";refine⟨⟨rfl,rfl⟩,?_⟩
     split
     ·refine⟨⟨_,rfl⟩,ry1,_,rfl,by omega,by omega,λr2 y2 c0 c1 ry2=>?_⟩
      walk_at "vx";have hj:r2.toNat < pts.length:=by omega
      refine bg (n:=r2.toNat) (by omega) (by rw[List.map_append,List.getElem?_append_left (by rw[List.length_map];exact hj)];exact eU hj) ?_
      refine⟨⟨_,rfl⟩,?_⟩;rw[List.length_map,zY (by simp),List.length_append,List.length_singleton,Nat.add_sub_cancel,List.map_append]
      dsimp only;rw[<- List.length_map (f:=ptD) (as:=pts),show List.map ptD [p]=[ptD p] from rfl,Ce]
      have:=done y2 (pts.getD r2.toNat []) (some (.sh (.int (place:Nat)))) (some (.own (p.map D.int))) c d e ry2 (hg.2 _ (cT hj)).1 (hf _ (cT hj));rw[List.map_append] at this;exact this
     ·exact done y1 p _ _ _ _ _ ry1 hpl hpf
    ·exact done x p _ _ _ _ _ rx hpl hpf
   ·exact done x p _ _ _ _ _ rx hpl hpf
 ·obtain⟨x,pts,a,b,c,d,e,rfl,rx,hl,hg,hf⟩:=hI
  subst hN;rw[List.length_range] at hl;walk_at "vx";exact⟨by decide,h pts x hg hf (by omega) rx⟩

def kx (b:Bool)(pts:List (List Int)):D:=(dk (aV b pts)).getD .non
def ur:aQ:=λds Q=>∃ b n pts,ds=[bv pts,cj b]/\Good n pts/\pts.length<=1000/\Q (.sh (kx b pts))
theorem Xa (ds:List D)(Q:B->Prop)(h:ur ds Q):Bg eV eH { nx:=λ_=>Q (.sh .non),rt:=λb _=>Q b } (aJ Bf.length ds):=by
 obtain⟨b,n,pts,rfl,hg,hl,h⟩:=h;unfold Bg;refine ah λN hN=>?_;walk_at "vx";refine⟨n,b,pts,rfl,hg.shape,?_⟩;walk_at "vx";subst hN;walk_at "vx";refine⟨b,n,pts,rfl,hg,hl,?_⟩;walk_at "vx";refine⟨.inr (List.all_eq_true.mpr λd hd=>?_),h⟩;obtain⟨p,q,_,_,rfl⟩:=cu hd;rfl
theorem HX (b:Bool)(pts:List (List Int)):kx b pts=.non\/∃ p q,kx b pts=cK b pts p q:=by
 unfold kx;rw[eI (eW b pts)];cases e:cc (aV b pts) with
 | nil=>exact .inl rfl
 | cons a l =>
  have:a∈aV b pts:=(bD _).mem_iff.mp (by rw[e];exact List.mem_cons_self ..)
  obtain⟨p,q,_,_,h⟩:=cu this;exact .inr ⟨p,q,h⟩
def nO (b:Bool)(pts:List (List Int))(p:List Int)(j:Nat):D:=.tup [.int (bT b p (pts.getD j [])),.int j]
def sd (b:Bool)(pts:List (List Int))(p:List Int)(js:List Nat):D:=(dk (js.map (nO b pts p))).getD .non
def mq:aQ:=λds Q=>∃ b n pts p js,ds=[bv pts,cj b,ptD p,.lst (js.map λj:Nat=>.int j)]/\Good n pts/\Bd p/\js.length<=1000/\(∀ j∈js,j < pts.length)/\Q (.sh (sd b pts p js))
theorem HY (ds:List D)(Q:B->Prop)(h:mq ds Q):Ba jA { nx:=λ_=>Q (.sh .non),rt:=λb _=>Q b } (aJ AZ.length ds):=by
 obtain⟨b,n,pts,p,js,rfl,hg,hp,hl,hj,h⟩:=h;unfold Ba bv;walk_at "vx";refine bn (λj:Nat=>.int j) (nO b pts p) js (λj hm A ha=>?_) (by rw[sz];omega) ?_
 ·walk_at "vx"
  refine bg (n:=j) rfl (eU (hj j hm)) ?_;walk_at "vx";refine⟨b,p,_,rfl,hp,hg.bd (cT (hj j hm)),?_⟩;walk_at "vx";exact⟨by decide,ha⟩
 ·walk_at "vx"
  refine⟨.inr ?_,h⟩;rw[List.all_map];exact List.all_eq_true.mpr λ_ _=>rfl
def gH (n:Nat)(j:Int):List Nat:=(List.range n).filter λi=>decide ((i:Int)≠j)
def nP (b:Bool)(pts:List (List Int))(j:Nat):D:=sd b pts (pts.getD j []) (gH pts.length j)
theorem jC {α β:Type}(p:α->Bool)(f:α->β):∀ l:List α,l.filterMap (λa=>if p a=true then some (f a) else none)=(l.filter p).map f
 | []=>rfl
 | a::l=>by
  cases e:p a with
  | true=>rw[List.filterMap_cons_some (by rw[e];rfl),List.filter_cons_of_pos e,List.map_cons,jC p f l]
  | false=>rw[List.filterMap_cons_none (by rw[e];rfl),List.filter_cons_of_neg (by rw[e];decide),jC p f l]
theorem xO {n i:Nat}{j:Int}(h:i∈gH n j):i < n:=List.mem_range.mp (List.mem_filter.mp h).1
theorem ut (n:Nat)(j:Int):(gH n j).length<=n:=by
 have:=List.length_filter_le (λi:Nat=>decide ((i:Int)≠j)) (List.range n);rw[List.length_range] at this;exact this
def mt:aQ:=λds Q=>∃ b n pts j,ds=[bv pts,cj b,.int (j:Nat)]/\Good n pts/\pts.length<=1000/\j < pts.length/\Q (.sh (nP b pts j))
theorem HZ (ds:List D)(Q:B->Prop)(h:mt ds Q):Bc mq { nx:=λ_=>Q (.sh .non),rt:=λb _=>Q b } (aJ Bb.length ds):=by
 obtain⟨b,n,pts,j,rfl,hg,hl,hj,h⟩:=h;unfold Bc bv;refine ah λN hN=>?_;walk_at "vx";rw[List.length_map,Int.toNat_natCast,cn];refine⟨by omega,gU (λi:Nat=>.int (0+(i:Nat))) (λi:Nat=>if decide ((i:Int)≠(j:Int))=true then some (.int (i:Nat)) else none) _ (λi hm A Bn ha=>?_) (by rw[List.length_range,sz];omega) ?_⟩
 ·walk_at "vx"
  refine⟨⟨rfl,rfl⟩,?_⟩;rw[Int.zero_add]
  by_cases e:i=j
  ·subst e
   have e2:jm (.int (i:Nat)) (.int (i:Nat))=true:=by simp [jm]
   rw[if_neg (by rw[e2];decide)]
   rw[if_neg (by simp)] at ha
   exact ha
  ·have e2:jm (.int (i:Nat)) (.int (j:Nat))=false:=by simp [jm];omega
   rw[if_pos (by rw[e2])]
   rw[if_pos (decide_eq_true (by omega))] at ha
   exact ha
 ·rw[jC]
  walk_at "vx";subst hN;walk_at "vx";refine bg (n:=j) rfl (eU hj) ?_;walk_at "vx";exact⟨b,n,pts,_,gH pts.length j,rfl,hg,hg.bd (cT hj),by have:=ut pts.length j;omega,λi hi=>xO hi,h⟩

def jD (b:Bool)(pts:List (List Int)):List D:=(List.range pts.length).map (nP b pts)
def uu:aQ:=λds Q=>∃ b n pts,ds=[bv pts,cj b]/\Good n pts/\pts.length<=1000/\Q (.own (jD b pts))
theorem Xb (ds:List D)(Q:B->Prop)(h:uu ds Q):Bi eV mt { nx:=λ_=>Q (.sh .non),rt:=λb _=>Q b } (aJ Bh.length ds):=by
 obtain⟨b,n,pts,rfl,hg,hl,h⟩:=h;unfold Bi;refine ah λN hN=>?_;walk_at "vx";refine⟨n,b,pts,rfl,hg.shape,?_⟩;walk_at "vx";subst hN;rw[show bv pts=.lst (pts.map ptD) from rfl]
 walk_at "vx";rw[List.length_map,Int.toNat_natCast,cn];refine⟨by omega,bn (λi:Nat=>.int (0+(i:Nat))) (nP b pts) _ (λi hm A ha=>?_) (by rw[List.length_range,sz];omega) ?_⟩
 ·walk_at "vg"
  walk_at "vx";exact⟨b,n,pts,i,rfl,hg,hl,List.mem_range.mp hm,by walk_at "vx";exact ha⟩
 ·exact h
def sp_to:aQ:=λds Q=>∃ b n m pts p,ds=[bv pts,cj b,ptD p]/\Good n pts/\dX m (pts++[p])/\Bd p/\pts.length<=1000/\Q (.sh (sd b pts p (List.range pts.length)))
def NearOk (n:Nat)(nn:Nat->Option (Int×Nat)):Prop:=∀ i f k,i < n->nn i=some (f,k)->k < n/\(nn k).isSome=true
def nnD:Option (Int×Nat)->D
 | none=>.non
 | some p=>.tup [.int p.1,.int (p.2:Nat)]
def Xc (nn:Nat->Option (Int×Nat))(i:Nat):Option (Nat×Nat):=match nn i with
 | none=>none
 | some (_,k)=>if i < k/\(nn k).map (·.2)=some i then some (i,k) else none
def mutL (nn:Nat->Option (Int×Nat))(n:Nat):List D:=((List.range n).filterMap (Xc nn)).map λp=>.tup [.int (p.1:Nat),.int (p.2:Nat)]
def nnOf:D->Option (Int×Nat)
 | .tup [.int f,.int k]=>some (f,k.toNat)
 | _=>none
def nnP (b:Bool)(pts:List (List Int))(i:Nat):Option (Int×Nat):=nnOf (nP b pts i)
def tMut:bQ:=(bA (cN [] 3 (kn tN)) (bA (di (oU (aA (ag [] (aa 2)) tN)) (tZ 2 (gC (cO 4) (gC (cO 5) tY))) (cC (gh (aW yR (aa 5) (aY .non)) (gh (aW Gh (aa 4) (dP (aa 5) (aY (.int 1)))) (aW qK (dP (dP (aa 2) (dP (aa 5) (aY (.int 1)))) (aY (.int 1))) (aa 4)))) (gc (mO (aa 3) (ag [] (qL (aA (ag [] (aa 4)) (aA (ag [] (dP (aa 5) (aY (.int 1)))) tN)))))) gJ)) (du [] (oX (aa 3)))))
def mutD (b:Bool)(pts:List (List Int)):List D:=mutL (nnP b pts) pts.length
def sp_mut:aQ:=λds Q=>∃ b n pts,ds=[bv pts,cj b]/\Good n pts/\pts.length<=1000/\Q (.own (mutD b pts))
def dg (t:Int×Nat×Nat):D:=.tup [.int t.1,.int (t.2.1:Nat),.int (t.2.2:Nat)]
theorem IT {b:Bool}{pts:List (List Int)}:∀ l:List D,(∀ d∈l,∃ i j,d=cK b pts i j)->∃ ts:List (Int×Nat×Nat),l=ts.map dg
 | [],_=>⟨[],rfl⟩
 | d::l,h=>by
  obtain⟨i,j,rfl⟩:=h d (List.mem_cons_self ..);obtain⟨ts,e⟩:=IT l λx hx=>h x (List.mem_cons_of_mem _ hx);exact⟨(_,i,j)::ts,by rw[e];rfl⟩
theorem Cf (b:Bool)(pts:List (List Int)):∃ ts:List (Int×Nat×Nat),aV b pts=ts.map dg:=IT (b:=b) (pts:=pts) _ λd hd=>by
 obtain⟨p,q,_,_,h⟩:=cu hd;exact⟨p,q,h⟩
def jb (bound:Int):D->Option D
 | .tup [.int f,.int i,.int j]=>if f<=bound then some (.tup [.int i,.int j]) else none
 | _=>none
theorem eJ (bound:Int)(t:Int×Nat×Nat):jb bound (dg t)=if decide (t.1<=bound)=true then some (.tup [.int (t.2.1:Nat),.int (t.2.2:Nat)]) else none:=by
 show (if t.1<=bound then _ else _)=_
 by_cases h:t.1<=bound
 ·rw[if_pos h,if_pos (decide_eq_true h)]
 ·rw[if_neg h,if_neg (by rw[decide_eq_false h];decide)]
def eK (b:Bool)(pts:List (List Int))(bound:Int):List D:=(aV b pts).filterMap (jb bound)
def ByPl (b:Bool)(pts:List (List Int))(d d':D):Prop:=∃ i j i' j':Nat,d=cK b pts i j/\d'=cK b pts i' j'/\(i < i'\/(i=i'/\j < j'))
def jE:aQ:=λds Q=>∃ j:Int,ds=[.int j]/\0<=j/\Q (.sh .non)
theorem Cg (ds:List D)(Q:B->Prop)(h:jE ds Q):Ay { nx:=λ_=>Q (.sh .non),rt:=λb _=>Q b } (aJ Ax.length ds):=by
 obtain⟨j,rfl,hj,h⟩:=h;unfold Ay;walk_at "vx";rw[if_neg (by omega)]
 exact h
def jc:aQ:=λds Q=>∃ b n pts j,ds=[bv pts,cj b,.int j]/\Good n pts/\pts.length<=1000/\0<=j/\Q (.own (eK b pts j))
theorem Nn (ds:List D)(Q:B->Prop)(h:jc ds Q):Bm eV jE eH { nx:=λ_=>Q (.sh .non),rt:=λb _=>Q b } (aJ Bl.length ds):=by
 obtain⟨b,n,pts,j,rfl,hg,hl,hj,h⟩:=h;unfold Bm;refine ah λN hN=>?_;walk_at "vx";refine⟨n,b,pts,rfl,hg.shape,?_⟩;walk_at "vx";subst hN;refine ah λN hN=>?_;walk_at "vx";refine⟨j,rfl,hj,?_⟩;walk_at "vx";subst hN;walk_at "vx";refine⟨b,n,pts,rfl,hg,hl,?_⟩;walk_at "vx";have hz:=mn (b:=b) hl;obtain⟨ts,e⟩:=Cf b pts;unfold eK at h;rw[e] at h hz ⊢;rw[List.length_map] at hz;refine gU dg (λt=>jb j (dg t)) ts (λt ht A Bn ha=>?_) (by rw[sz];omega) ?_
 ·rw[eJ] at ha
  unfold dg;walk_at "vx"
  by_cases hb:t.1<=j
  ·rw[if_pos (decide_eq_true hb)] at ha
   refine (if_pos hb).mpr ⟨by decide,ha⟩
  ·rw[if_neg (by rw[decide_eq_false hb];decide)] at ha
   exact (if_neg hb).mpr ha
 ·rw[List.filterMap_map] at h
  exact h

def eL:aQ:=λds Q=>∃ b n pts,ds=[bv pts,cj b]/\Good n pts/\pts.length<=1000/\Q (.own (cc (aV b pts)))

theorem Ci:∀ l:List Int,(∀ x∈l,0<=x)->0<=l.sum
 | [],_=>by simp
 | x::l,h=>by
  rw[List.sum_cons];have:=Ci l λy hy=>h y (List.mem_cons_of_mem _ hy);have:=h x (List.mem_cons_self ..);omega
theorem No (b:Bool)(p q:List Int):0<=bT b p q:=Ci _ λx hx=>by
 obtain⟨xy,_,rfl⟩:=List.mem_map.mp hx;unfold nM fm
 split
 ·exact Int.mul_nonneg (by split<;>omega) (by split<;>omega)
 ·split<;>omega

theorem Np (ds:List D)(Q:B->Prop)(h:eL ds Q):AY eV eH { nx:=λ_=>Q (.sh .non),rt:=λb _=>Q b } (aJ AX.length ds):=by
 obtain⟨b,n,pts,rfl,hg,hl,h⟩:=h;unfold AY;refine ah λN hN=>?_;walk_at "vx";refine⟨n,b,pts,rfl,hg.shape,?_⟩;walk_at "vx";subst hN;walk_at "vx";refine⟨b,n,pts,rfl,hg,hl,?_⟩;walk_at "vx";exact⟨eW b pts,h⟩
def qf (a b:Int):Int:=if b < a then b else a
def jd (a b:Int):Int:=if b > a then b else a
def cY (ls:List Int)(i j:Nat):List Int:=ls.map λx=>if x=jd (ls.getD i 0) (ls.getD j 0) then qf (ls.getD i 0) (ls.getD j 0) else x
theorem ee {ls:List Int}{j:Nat}(h:j < ls.length):(ls.map D.int)[j]?=some (.int (ls.getD j 0)):=by
 rw[List.getElem?_map,List.getD_eq_getElem?_getD,List.getElem?_eq_getElem h];rfl
theorem mv (a b:Int):jm (.int a) (.int b)=decide (a=b):=by
 unfold jm
 by_cases h:a=b
 ·simp [h]
 ·simp [h]
def cS:aQ:=λds Q=>∃ (ls:List Int) (i j:Nat),ds=[.lst (ls.map D.int),.int i,.int j]/\i < ls.length/\j < ls.length/\ls.length<=1000/\Q (.own ((cY ls i j).map D.int))
theorem Xd (ds:List D)(Q:B->Prop)(h:cS ds Q):Bz { nx:=λ_=>Q (.sh .non),rt:=λb _=>Q b } (aJ Bx.length ds):=by
 obtain⟨ls,i,j,rfl,hi,hj,hl,h⟩:=h;unfold Bz;refine ah λN hN=>?_;walk_at "vx";refine bg (n:=i) rfl (ee hi) ?_;refine bg (n:=j) rfl (ee hj) ?_;walk_at "vx";subst hN;refine ah λN hN=>?_;walk_at "vx";refine bg (n:=i) rfl (ee hi) ?_;refine bg (n:=j) rfl (ee hj) ?_;walk_at "vx";subst hN;walk_at "vx";refine bn D.int (λx:Int=>D.int (if x=jd (ls.getD i 0) (ls.getD j 0) then qf (ls.getD i 0) (ls.getD j 0) else x)) ls (λx hx A ha=>?_) (by rw[sz];omega) ?_
 ·walk_at "vx"
  refine⟨⟨rfl,rfl⟩,?_⟩;rw[mv];unfold jd qf at ha
  by_cases e:x=if ls.getD j 0 > ls.getD i 0 then ls.getD j 0 else ls.getD i 0
  ·rw[if_pos e] at ha
   exact (if_pos (decide_eq_true e)).mpr ha
  ·rw[if_neg e] at ha
   exact (if_neg (by rw[decide_eq_false e];decide)).mpr ha
 ·unfold cY at h
  rw[List.map_map] at h;exact h
abbrev Tr:=Int×Nat×Nat
def aK (s:List Int×List Tr)(t:Tr):List Int×List Tr:=if s.1.getD t.2.1 0=s.1.getD t.2.2 0 then s else (cY s.1 t.2.1 t.2.2,s.2++[t])
def ce (n:Nat):List Int:=(List.range n).map λi:Nat=>(i:Int)
def aD (n:Nat)(ts:List Tr):List Int×List Tr:=ts.foldl aK (ce n,[])
theorem nQ {n:Nat}{ts:List Tr}{i:Nat}{t:Tr}(h:ts[i]?=some t):aD n (ts.take (i+1))=aK (aD n (ts.take i)) t:=by
 unfold aD;rw[List.take_add_one,h,Option.toList_some,List.foldl_append];rfl
theorem mw (n:Nat):∀ ts:List Tr,(aD n ts).1.length=n/\(aD n ts).2.length<=ts.length/\∀ t∈(aD n ts).2,t∈ts:=by
 have key:∀ (ts:List Tr) (s:List Int×List Tr),s.1.length=n->(ts.foldl aK s).1.length=n/\(ts.foldl aK s).2.length<=s.2.length+ts.length/\∀ t∈(ts.foldl aK s).2,t∈s.2\/t∈ts:=by
  intro ts
  induction ts with
  | nil=>intro s h;exact⟨h,by simp,λt ht=>.inl ht⟩
  | cons t ts ih =>
   intro s h;have h1:(aK s t).1.length=n/\(aK s t).2.length<=s.2.length+1/\∀ u∈(aK s t).2,u∈s.2\/u=t:=by
    unfold aK
    split
    ·exact⟨h,by omega,λu hu=>.inl hu⟩
    ·refine⟨by unfold cY;rw[List.length_map];exact h,by simp,λu hu=>?_⟩
     rcases List.mem_append.mp hu with hu|hu
     ·exact .inl hu
     ·exact .inr (List.mem_singleton.mp hu)
   obtain⟨i1,i2,i3⟩:=ih (aK s t) h1.1;refine⟨i1,?_,λu hu=>?_⟩
   ·rw[List.foldl_cons,List.length_cons]
    have:=h1.2.1;omega
   ·rw[List.foldl_cons] at hu
    rcases i3 u hu with hu|hu
    ·rcases h1.2.2 u hu with hu|rfl
     ·exact .inl hu
     ·exact .inr (List.mem_cons_self ..)
    ·exact .inr (List.mem_cons_of_mem _ hu)
 intro ts;have:=key ts (ce n,[]) (by unfold ce;rw[List.length_map,List.length_range])
 refine⟨this.1,Nat.le_trans this.2.1 (by simp),λt ht=>?_⟩
 rcases this.2.2 t ht with h|h
 ·cases h
 ·exact h
theorem xP (b:Bool)(pts:List (List Int)):∃ ts:List Tr,cc (aV b pts)=ts.map dg/\∀ t∈ts,t.2.1 < t.2.2/\t.2.2 < pts.length:=by
 have key:∀ l:List D,(∀ d∈l,∃ i j,i < j/\j < pts.length/\d=cK b pts i j)->∃ ts:List Tr,l=ts.map dg/\∀ t∈ts,t.2.1 < t.2.2/\t.2.2 < pts.length:=by
  intro l
  induction l with
  | nil=>intro _;exact⟨[],rfl,λt ht=>by cases ht⟩
  | cons d l ih =>
   intro h;obtain⟨i,j,h1,h2,rfl⟩:=h d (List.mem_cons_self ..);obtain⟨ts,e,h3⟩:=ih λx hx=>h x (List.mem_cons_of_mem _ hx);refine⟨(_,i,j)::ts,by rw[e];rfl,λt ht=>?_⟩
   rcases List.mem_cons.mp ht with rfl|ht
   ·exact⟨h1,h2⟩
   ·exact h3 t ht
 refine key _ λd hd=>?_;obtain⟨p,q,h1,h2,h⟩:=cu ((bD _).mem_iff.mp hd);exact⟨p,q,h1,h2,h⟩
def Cj (b:Bool)(pts:List (List Int))(l:List D):Prop:=∃ ts:List Tr,cc (aV b pts)=ts.map dg/\l=(aD pts.length ts).2.map dg
theorem vO:∀ ts us:List Tr,ts.map dg=us.map dg->ts=us
 | [],[],_=>rfl
 | [],_::_,h=>by simp at h
 | _::_,[],h=>by simp at h
 | t::ts,u::us,h=>by
  rw[List.map_cons,List.map_cons] at h
  injection h with h1 h2
  rw[vO ts us h2];congr 1;obtain⟨a,i,j⟩:=t;obtain⟨a',i',j'⟩:=u
  injection h1 with h1
  injection h1 with h3 h1
  injection h1 with h4 h1
  injection h1 with h5 _
  injection h3 with h3
  injection h4 with h4
  injection h5 with h5
  have h3:a=a':=h3;have h4:(i:Int)=(i':Int):=h4;have h5:(j:Int)=(j':Int):=h5;rw[h3,show i=i' by omega,show j=j' by omega]
theorem se (n:Nat):mP 0 n=(ce n).map D.int:=by
 unfold ce;rw[cn,List.map_map];refine List.map_congr_left λi _=>?_;show D.int (0+(i:Int))=D.int (i:Int);rw[Int.zero_add]
def kI:aQ:=λds Q=>∃ b n pts,ds=[bv pts,cj b]/\Good n pts/\pts.length<=1000/\∀ l,Cj b pts l->l.length<=1000000->(∀ d∈l,∃ t:Tr,d=dg t)->Q (.own l)
theorem uw {b:Bool}{pts:List (List Int)}(hl:pts.length<=1000){ts:List Tr}(e:cc (aV b pts)=ts.map dg):ts.length<=1000000:=by
 have h1:=(bD (aV b pts)).length_eq;have h2:=mn (b:=b) hl;rw[e,List.length_map] at h1;omega
theorem Nq (ds:List D)(Q:B->Prop)(h:kI ds Q):BD eL cS { nx:=λ_=>Q (.sh .non),rt:=λb _=>Q b } (aJ BC.length ds):=by
 obtain⟨b,n,pts,rfl,hg,hl,h⟩:=h;unfold BD;rw[show bv pts=.lst (pts.map ptD) from rfl]
 refine ah λN hN=>?_;walk_at "vx";rw[List.length_map,Int.toNat_natCast,se];refine⟨by omega,?_⟩
 subst hN;refine ah λN hN=>?_;walk_at "vx";refine⟨by decide,?_⟩
 subst hN;refine ah λN hN=>?_;show di _ _ _ _ _;generalize ht:cC _ _ _=tb;walk_at "vx";refine⟨b,n,pts,rfl,hg,hl,?_⟩;walk_at "vx";obtain⟨ts,e,hts⟩:=xP b pts;have hz:=uw hl e;rw[e];refine dQ dg ts (λi σ=>∃ x4 x5 x6,σ=[some (.sh (.lst (pts.map ptD))),some (.sh (cj b)),some (.own ((aD pts.length (ts.take i)).1.map D.int)),some (.own ((aD pts.length (ts.take i)).2.map dg)),x4,x5,x6]) (λi t σ N' hx hI hN'=>?_) (λσ hI=>?_) ⟨_,_,_,rfl⟩
 ·obtain⟨x4,x5,x6,rfl⟩:=hI
  subst ht;obtain⟨hij,hjn⟩:=hts t (List.mem_of_getElem? hx);obtain⟨f1,f2,f3⟩:=mw pts.length (ts.take i);have hti:=List.length_take_le' i ts;unfold dg;walk_at "vg";walk_at "vx";refine bg (n:=t.2.1) rfl (ee (by omega)) ?_
  refine bg (n:=t.2.2) rfl (ee (by omega)) ?_
  refine⟨⟨rfl,rfl⟩,?_⟩;rw[mv];have fs:=nQ (n:=pts.length) hx;unfold aK at fs
  by_cases hq:(aD pts.length (ts.take i)).1.getD t.2.1 0=(aD pts.length (ts.take i)).1.getD t.2.2 0
  ·rw[if_pos hq] at fs
   refine (if_neg (by rw[decide_eq_true hq];decide)).mpr ?_
   exact hN' _ ⟨_,_,_,by rw[fs];rfl⟩
  ·rw[if_neg hq] at fs
   refine (if_pos (by rw[decide_eq_false hq])).mpr ?_
   refine⟨_,t.2.1,t.2.2,rfl,by omega,by omega,by omega,?_⟩
   walk_at "vx";refine⟨⟨_,rfl⟩,by decide,by rw[List.length_map,sz];have:=List.length_take_le' i ts;omega,?_⟩
   exact hN' _ ⟨_,_,_,by rw[fs,List.map_append];rfl⟩
 ·obtain⟨x4,x5,x6,rfl⟩:=hI
  subst hN;rw[List.take_length];walk_at "vx";obtain⟨f1,f2,f3⟩:=mw pts.length ts;exact h _ ⟨ts,e,rfl⟩ (by rw[List.length_map];omega) λd hd=>by
   obtain⟨t,_,rfl⟩:=List.mem_map.mp hd;exact⟨t,rfl⟩
theorem sf {b:Bool}{pts:List (List Int)}{i j:Nat}(hij:i < j)(hj:j < pts.length):∀ m,i < m->cK b pts i j∈cU b pts m
 | m+1,h=>by
  show _∈cU b pts m++fz b pts m (pts.length - (m+1))
  by_cases e:i=m
  ·subst e
   exact List.mem_append_right _ (List.mem_map.mpr ⟨j - (i+1),List.mem_range.mpr (by omega),by rw[show i+1+(j - (i+1))=j by omega]⟩)
  ·exact List.mem_append_left _ (sf hij hj m (by omega))
theorem xQ {b:Bool}{pts:List (List Int)}{i j:Nat}(hij:i < j)(hj:j < pts.length):cK b pts i j∈aV b pts:=sf hij hj _ (by omega)
theorem je {ls:List Int}{i j x:Nat}(hx:x < ls.length):(cY ls i j).getD x 0=if ls.getD x 0=jd (ls.getD i 0) (ls.getD j 0) then qf (ls.getD i 0) (ls.getD j 0) else ls.getD x 0:=by
 unfold cY;rw[List.getD_eq_getElem?_getD,List.getElem?_map,List.getD_eq_getElem?_getD (l:=ls) (i:=x),List.getElem?_eq_getElem hx];rfl
def Gm (ls:List Int):Prop:=∀ x,x < ls.length->∃ r:Nat,ls.getD x 0=(r:Int)/\r<=x/\ls.getD r 0=(r:Int)
def df (ls:List Int):Nat:=(List.range ls.length).countP λx=>decide (ls.getD x 0=(x:Int))
theorem nR (P:Nat->Bool)(t0:Nat):∀ m,(List.range m).countP (λt=>P t&&decide (t=t0))=if t0 < m/\P t0=true then 1 else 0
 | 0=>by simp
 | m+1=>by
  rw[List.range_succ,List.countP_append,nR P t0 m,List.countP_singleton]
  by_cases h:m=t0
  ·subst h
   rw[if_neg (by omega),decide_eq_true rfl,Bool.and_true]
   by_cases hp:P m=true
   ·rw[if_pos hp,if_pos ⟨Nat.lt_succ_self _,hp⟩]
   ·rw[if_neg hp,if_neg (λz=>hp z.2)]
  ·rw[decide_eq_false h,Bool.and_false,if_neg (show ¬ false=true by decide),Nat.add_zero]
   by_cases hc:t0 < m/\P t0=true
   ·rw[if_pos hc,if_pos ⟨by omega,hc.2⟩]
   ·rw[if_neg hc,if_neg (λz=>hc ⟨by omega,z.2⟩)]
theorem mx (P:Nat->Bool)(h:Nat):∀ n,(List.range n).countP P=(List.range n).countP (λx=>P x&&!decide (x=h))+if h < n/\P h=true then 1 else 0
 | 0=>by simp
 | n+1=>by
  rw[List.range_succ,List.countP_append,List.countP_append,mx P h n,List.countP_singleton,List.countP_singleton]
  by_cases e:n=h
  ·subst e
   rw[if_neg (show ¬ (n < n/\P n=true) by omega),decide_eq_true rfl,Bool.not_true,Bool.and_false,if_neg (show ¬ false=true by decide)]
   by_cases hp:P n=true
   ·rw[if_pos hp,if_pos ⟨Nat.lt_succ_self _,hp⟩]
   ·rw[if_neg hp,if_neg (λz=>hp z.2)]
  ·rw[decide_eq_false e,Bool.not_false,Bool.and_true]
   by_cases hc:h < n/\P h=true
   ·rw[if_pos hc,if_pos (show h < n+1/\P h=true from ⟨by omega,hc.2⟩)];omega
   ·rw[if_neg hc,if_neg (show ¬ (h < n+1/\P h=true) from λz=>hc ⟨by omega,z.2⟩)];omega
theorem Ck {ls:List Int}{i j:Nat}(L:Gm ls)(hi:i < ls.length)(hj:j < ls.length)(hne:ls.getD i 0≠ls.getD j 0):Gm (cY ls i j)/\df (cY ls i j)+1=df ls:=by
 obtain⟨a,ea,ha,ra⟩:=L i hi;obtain⟨c,ec,hc,rc⟩:=L j hj;obtain⟨lo,hh,e1,e2,hlt,hlo,hhh,rl,rh⟩:∃ lo hh:Nat,qf (ls.getD i 0) (ls.getD j 0)=(lo:Int)/\jd (ls.getD i 0) (ls.getD j 0)=(hh:Int)/\lo < hh/\lo < ls.length/\hh < ls.length/\ls.getD lo 0=(lo:Int)/\ls.getD hh 0=(hh:Int):=by
  rw[ea,ec] at hne ⊢;unfold qf jd
  by_cases h:c < a
  ·exact⟨c,a,by rw[if_pos (by omega)],by rw[if_neg (by omega)],h,by omega,by omega,rc,ra⟩
  ·exact⟨a,c,by rw[if_neg (by omega)],by rw[if_pos (by omega)],by omega,by omega,by omega,ra,rc⟩
 have len:(cY ls i j).length=ls.length:=by unfold cY;rw[List.length_map]
 have get:∀ x,x < ls.length->(cY ls i j).getD x 0=if ls.getD x 0=(hh:Int) then (lo:Int) else ls.getD x 0:=λx hx=>by rw[je hx,e1,e2]
 refine⟨λx hx=>?_,?_⟩
 ·rw[len] at hx
  obtain⟨r,er,hr,rr⟩:=L x hx;rw[get x hx,er]
  by_cases e:(r:Int)=(hh:Int)
  ·refine⟨lo,if_pos e,by omega,?_⟩
   rw[get lo hlo,rl,if_neg (by omega)]
  ·refine⟨r,if_neg e,hr,?_⟩
   rw[get r (by omega),rr,if_neg e]
 ·unfold df
  rw[len,mx (λx=>decide (ls.getD x 0=(x:Int))) hh ls.length,if_pos ⟨hhh,decide_eq_true rh⟩];congr 1;refine List.countP_congr λx hx=>?_;have hx:=List.mem_range.mp hx;rw[get x hx]
  by_cases e:ls.getD x 0=(hh:Int)
  ·rw[if_pos e,e]
   by_cases z:x=hh
   ·subst z
    simp;omega
   ·simp [z]
    constructor
    ·intro y
     have:x=lo:=by omega
     rw[this,rl] at e;omega
    ·intro y;omega
  ·rw[if_neg e]
   by_cases z:x=hh
   ·rw[z,rh] at e;exact absurd rfl e
   ·simp [z]
theorem nU (n:Nat):Gm (ce n)/\df (ce n)=n/\(ce n).length=n:=by
 have len:(ce n).length=n:=by unfold ce;rw[List.length_map,List.length_range]
 have get:∀ x,x < n->(ce n).getD x 0=(x:Int):=λx hx=>by
  unfold ce;rw[List.getD_eq_getElem?_getD,List.getElem?_map,List.getElem?_range hx];rfl
 refine⟨λx hx=>?_,?_,len⟩
 ·rw[len] at hx
  exact⟨x,get x hx,Nat.le_refl _,get x hx⟩
 ·unfold df
  rw[len,List.countP_eq_length.mpr λx hx=>decide_eq_true (get x (List.mem_range.mp hx)),List.length_range]
theorem jf (n:Nat)(ts:List Tr)(ht:∀ t∈ts,t.2.1 < n/\t.2.2 < n):Gm (aD n ts).1/\(aD n ts).1.length=n/\(aD n ts).2.length+df (aD n ts).1=n/\∀ t∈ts,(aD n ts).1.getD t.2.1 0=(aD n ts).1.getD t.2.2 0:=by
 have key:∀ (us:List Tr) (s:List Int×List Tr) (old:List Tr),(∀ t∈us,t.2.1 < n/\t.2.2 < n)->(∀ t∈old,t.2.1 < n/\t.2.2 < n)->Gm s.1->s.1.length=n->s.2.length+df s.1=n->(∀ t∈old,s.1.getD t.2.1 0=s.1.getD t.2.2 0) ->
   Gm (us.foldl aK s).1/\(us.foldl aK s).1.length=n/\(us.foldl aK s).2.length+df (us.foldl aK s).1=n/\∀ t,t∈old\/t∈us->(us.foldl aK s).1.getD t.2.1 0=(us.foldl aK s).1.getD t.2.2 0:=by
  intro us
  induction us with
  | nil=>intro s old _ _ L l c h;exact⟨L,l,c,λt ht=>ht.elim (h t) λz=>by cases z⟩
  | cons u us ih =>
   intro s old hu ho L l c h;have hun:=hu u (.head _);have ho':∀ t∈old++[u],t.2.1 < n/\t.2.2 < n:=λt ht=>(List.mem_append.mp ht).elim (ho t) λz=>by rw[List.mem_singleton.mp z];exact hun
   rw[List.foldl_cons];have go:Gm (aK s u).1/\(aK s u).1.length=n/\(aK s u).2.length+df (aK s u).1=n/\∀ t∈old++[u],(aK s u).1.getD t.2.1 0=(aK s u).1.getD t.2.2 0:=by
    unfold aK
    split
    ·rename_i e
     refine⟨L,l,c,λt ht=>?_⟩;rcases List.mem_append.mp ht with ht|ht
     ·exact h t ht
     ·rw[List.mem_singleton.mp ht];exact e
    ·rename_i e
     obtain⟨L',r'⟩:=Ck L (by rw[l];exact hun.1) (by rw[l];exact hun.2) e
     refine⟨L',by unfold cY;rw[List.length_map];exact l,?_,λt ht=>?_⟩
     ·show (s.2++[u]).length+df (cY s.1 u.2.1 u.2.2)=n
      rw[List.length_append,List.length_singleton];omega
     ·show (cY s.1 u.2.1 u.2.2).getD t.2.1 0=(cY s.1 u.2.1 u.2.2).getD t.2.2 0
      have hb:=ho' t ht;rw[je (by rw[l];exact hb.1),je (by rw[l];exact hb.2)]
      rcases List.mem_append.mp ht with ht|ht
      ·rw[h t ht]
      ·rw[List.mem_singleton.mp ht]
       unfold jd qf;generalize s.1.getD u.2.1 0=A at e ⊢;generalize s.1.getD u.2.2 0=C at e ⊢
       repeat' split
       all_goals omega
   obtain⟨g1,g2,g3,g4⟩:=go;obtain⟨i1,i2,i3,i4⟩:=ih (aK s u) (old++[u]) (λt ht=>hu t (.tail _ ht)) ho' g1 g2 g3 g4;refine⟨i1,i2,i3,λt ht=>i4 t ?_⟩;rcases ht with ht|ht
   ·exact .inl (List.mem_append_left _ ht)
   ·rcases List.mem_cons.mp ht with rfl|ht
    ·exact .inl (List.mem_append_right _ (List.mem_singleton.mpr rfl))
    ·exact .inr ht
 obtain⟨r1,r2,r3⟩:=nU n;obtain⟨k1,k2,k3,k4⟩:=key ts (ce n,[]) [] ht (λt ht=>by cases ht) r1 r3 (by show 0+df (ce n)=n;omega) λt ht=>by cases ht
 exact⟨k1,k2,k3,λt ht=>k4 t (.inr ht)⟩
theorem xR {b:Bool}{pts:List (List Int)}{ts:List Tr}(e:cc (aV b pts)=ts.map dg)(hts:∀ t∈ts,t.2.1 < t.2.2/\t.2.2 < pts.length)(h0:0 < pts.length):(aD pts.length ts).2.length+1=pts.length:=by
 obtain⟨L,l,c,h⟩:=jf pts.length ts λt ht=>by have:=hts t ht;omega
 have all:∀ x,x < pts.length->(aD pts.length ts).1.getD x 0=0:=λx hx=>by
  obtain⟨r,er,hr,_⟩:=L 0 (by omega)
  have e0:(aD pts.length ts).1.getD 0 0=0:=by rw[er];omega
  by_cases z:x=0
  ·rw[z];exact e0
  have hm:cK b pts 0 x∈cc (aV b pts):=(bD _).mem_iff.mpr (xQ (by omega) hx)
  rw[e] at hm;obtain⟨t,ht,et⟩:=List.mem_map.mp hm;have:=h t ht;unfold dg cK at et
  injection et with et
  injection et with _ et
  injection et with e1 et
  injection et with e2 _
  injection e1 with e1
  injection e2 with e2
  rw[show t.2.1=0 by omega,show t.2.2=x by omega,e0] at this
  exact this.symm
 have hr:df (aD pts.length ts).1=1:=by
  unfold df;rw[l,show (λx=>decide ((aD pts.length ts).1.getD x 0=(x:Int)))=λx=>decide ((aD pts.length ts).1.getD x 0=(x:Int)) from rfl]
  have:(List.range pts.length).countP (λx=>decide ((aD pts.length ts).1.getD x 0=(x:Int)))=(List.range pts.length).countP (λx=>true&&decide (x=0)):=by
   refine List.countP_congr λx hx=>?_;rw[all x (List.mem_range.mp hx),Bool.true_and,decide_eq_true_iff,decide_eq_true_iff];omega
  rw[this,nR (λ_=>true) 0,if_pos ⟨h0,rfl⟩]
 omega

def qg:aQ:=λds Q=>∃ j:Int,ds=[.int j]/\1<=j/\Q (.sh .non)
theorem Nr (ds:List D)(Q:B->Prop)(h:qg ds Q):AA { nx:=λ_=>Q (.sh .non),rt:=λb _=>Q b } (aJ Az.length ds):=by
 obtain⟨j,rfl,hj,h⟩:=h;unfold AA;walk_at "vx"
 split
 ·omega
 ·exact h
theorem xS (n:Nat)(g:Nat->Int)(ts:List Tr)(ht:∀ t∈ts,t.2.1 < n/\t.2.2 < n)(hg:∀ t∈ts,g t.2.1=g t.2.2):∀ x,x < n->g x=g ((aD n ts).1.getD x 0).toNat:=by
 have key:∀ (us:List Tr) (s:List Int×List Tr),(∀ t∈us,t.2.1 < n/\t.2.2 < n)->(∀ t∈us,g t.2.1=g t.2.2)->s.1.length=n->(∀ x,x < n->g x=g (s.1.getD x 0).toNat)->∀ x,x < n->g x=g ((us.foldl aK s).1.getD x 0).toNat:=by
  intro us
  induction us with
  | nil=>intro s _ _ _ h;exact h
  | cons u us ih =>
   intro s hu hgu l h;rw[List.foldl_cons];have hun:=hu u (.head _);have e:=hgu u (.head _);refine ih (aK s u) (λt ht=>hu t (.tail _ ht)) (λt ht=>hgu t (.tail _ ht)) ?_ ?_
   ·unfold aK
    split
    ·exact l
    ·show (cY s.1 u.2.1 u.2.2).length=n
     unfold cY;rw[List.length_map];exact l
   ·intro x hx
    unfold aK
    split
    ·exact h x hx
    ·show g x=g ((cY s.1 u.2.1 u.2.2).getD x 0).toNat
     rw[je (by rw[l];exact hx)]
     have h1:=h u.2.1 hun.1;have h2:=h u.2.2 hun.2;have h3:=h x hx;have both:g (jd (s.1.getD u.2.1 0) (s.1.getD u.2.2 0)).toNat=g (qf (s.1.getD u.2.1 0) (s.1.getD u.2.2 0)).toNat:=by
      unfold jd qf
      by_cases q:s.1.getD u.2.2 0 > s.1.getD u.2.1 0
      ·rw[if_pos q,if_neg (by omega),<- h1,<- h2,e]
      ·rw[if_neg q]
       by_cases q2:s.1.getD u.2.2 0 < s.1.getD u.2.1 0
       ·rw[if_pos q2,<- h1,<- h2,e]
       ·rw[if_neg q2]
     split
     ·rename_i q
      rw[h3,q,both]
     ·exact h3
 exact key ts (ce n,[]) ht hg (nU n).2.2 λx hx=>by
  show g x=g ((ce n).getD x 0).toNat;unfold ce;rw[List.getD_eq_getElem?_getD,List.getElem?_map,List.getElem?_range hx];rfl
theorem ux {n:Nat}{ts us:List Tr}(h1:∀ t∈ts,t.2.1 < n/\t.2.2 < n)(h2:∀ t∈us,t.2.1 < n/\t.2.2 < n)(e:∀ i j,(∃ f,(f,i,j)∈ts) ↔ ∃ f,(f,i,j)∈us):(aD n ts).1=(aD n us).1:=by
 obtain⟨L1,l1,_,a1⟩:=jf n ts h1;obtain⟨L2,l2,_,a2⟩:=jf n us h2;have le:∀ (ts us:List Tr) (h1:∀ t∈ts,t.2.1 < n/\t.2.2 < n) (L1:Gm (aD n ts).1) (l1:(aD n ts).1.length=n) (L2:Gm (aD n us).1) (l2:(aD n us).1.length=n) (a2:∀ t∈us,(aD n us).1.getD t.2.1 0=(aD n us).1.getD t.2.2 0) (e:∀ i j,(∃ f,(f,i,j)∈ts)->∃ f,(f,i,j)∈us),∀ x,x < n->(aD n us).1.getD x 0<=(aD n ts).1.getD x 0:=by
  intro ts us h1 L1 l1 L2 l2 a2 e x hx;obtain⟨r,er,hr,_⟩:=L1 x (by rw[l1];exact hx)
  have:=xS n (λy=>(aD n us).1.getD y 0) ts h1 (λt ht=>by
   obtain⟨f,hf⟩:=e t.2.1 t.2.2 ⟨t.1,ht⟩;exact a2 (f,t.2.1,t.2.2) hf) x hx
  rw[er,Int.toNat_natCast] at this;rw[this,er];obtain⟨r2,er2,hr2,_⟩:=L2 r (by rw[l2];omega)
  rw[er2];omega
 apply List.ext_getElem
 ·rw[l1,l2]
 ·intro x hx1 hx2
  have hx:x < n:=by rw[l1] at hx1;exact hx1
  have p:=le ts us h1 L1 l1 L2 l2 a2 (λi j=>(e i j).mp) x hx;have q:=le us ts h2 L2 l2 L1 l1 a1 (λi j=>(e i j).mpr) x hx;rw[List.getD_eq_getElem?_getD,List.getD_eq_getElem?_getD,List.getElem?_eq_getElem hx1,List.getElem?_eq_getElem hx2] at p q;exact Int.le_antisymm q p
def mV:D->Tr
 | .tup [.int f,.int i,.int j]=>(f,i.toNat,j.toNat)
 | _=>(0,0,0)
def nV (b:Bool)(pts:List (List Int)):List Tr:=(cc (aV b pts)).map mV
def yh (b:Bool)(pts:List (List Int)):List Tr:=(aV b pts).map mV
theorem nW (b:Bool)(pts:List (List Int))(i j:Nat):dg (mV (cK b pts i j))=cK b pts i j:=by
 show D.tup [.int _,.int ((((i:Int)).toNat:Nat):Int),.int ((((j:Int)).toNat:Nat):Int)]=_;rw[Int.toNat_natCast,Int.toNat_natCast];rfl
theorem jF (b:Bool)(pts:List (List Int)):cc (aV b pts)=(nV b pts).map dg:=by
 unfold nV;rw[List.map_map]
 conv=>lhs;rw[<- List.map_id (cc (aV b pts))]
 refine List.map_congr_left λd hd=>?_;obtain⟨p,q,_,_,rfl⟩:=cu ((bD _).mem_iff.mp hd);exact (nW b pts p q).symm
theorem fA (b:Bool)(pts:List (List Int)):aV b pts=(yh b pts).map dg:=by
 unfold yh;rw[List.map_map]
 conv=>lhs;rw[<- List.map_id (aV b pts)]
 refine List.map_congr_left λd hd=>?_;obtain⟨p,q,_,_,rfl⟩:=cu hd;exact (nW b pts p q).symm
theorem qh (b:Bool)(pts:List (List Int)):(nV b pts).Perm (yh b pts):=(bD (aV b pts)).map mV
theorem uy {b:Bool}{pts:List (List Int)}:∀ t∈yh b pts,t.2.1 < t.2.2/\t.2.2 < pts.length/\0<=t.1:=λt ht=>by
 obtain⟨d,hd,rfl⟩:=List.mem_map.mp ht;obtain⟨p,q,h1,h2,rfl⟩:=cu hd;exact⟨h1,h2,No b _ _⟩
theorem qj {b:Bool}{pts:List (List Int)}:∀ t∈nV b pts,t.2.1 < t.2.2/\t.2.2 < pts.length/\0<=t.1:=λt ht=>uy t ((qh b pts).mem_iff.mp ht)
def qk (b:Bool)(pts:List (List Int))(c:Int):List Tr:=(nV b pts).filter λt=>decide (t.1<=c)
def uA (b:Bool)(pts:List (List Int))(c:Int):List Int:=(aD pts.length (qk b pts c)).1
def jg (b:Bool)(pts:List (List Int)):List Tr:=(aD pts.length (nV b pts)).2
theorem vP {b:Bool}{pts:List (List Int)}{c:Int}:∀ t∈qk b pts c,t.2.1 < pts.length/\t.2.2 < pts.length:=λt ht=>by
 have:=qj t (List.mem_filter.mp ht).1;omega
theorem sg (b:Bool)(pts:List (List Int))(c:Int):Gm (uA b pts c)/\(uA b pts c).length=pts.length:=by
 obtain⟨h1,h2,_,_⟩:=jf pts.length (qk b pts c) vP;exact⟨h1,h2⟩
theorem sj (b:Bool)(pts:List (List Int))(c:Int):(aD pts.length ((yh b pts).filter λt=>decide (t.1<=c))).1=uA b pts c:=by
 refine ux (λt ht=>by have:=uy t (List.mem_filter.mp ht).1;omega) vP λi j=>?_
 have hp:=((qh b pts).filter λt=>decide (t.1<=c));exact⟨λ⟨f,h⟩=>⟨f,hp.mem_iff.mpr h⟩,λ⟨f,h⟩=>⟨f,hp.mem_iff.mp h⟩⟩
theorem Cm {b:Bool}{pts:List (List Int)}:(jg b pts).length=pts.length - 1:=by
 unfold jg;rcases Nat.eq_zero_or_pos pts.length with z|z
 ·have:nV b pts=[]:=by
   cases e:nV b pts with
   | nil=>rfl
   | cons t r=>have:=(qj t (by rw[e];exact .head _)).2.1;omega
  rw[this,z];rfl
 ·have:=xR (jF b pts) (λt ht=>⟨(qj t ht).1,(qj t ht).2.1⟩) z
  omega
def ky (f:Nat->Int)(n:Nat)(r:Nat):List D:=((List.range n).filter λk=>decide (f k=(r:Int))).map λk:Nat=>D.int (k:Int)
def fB (f:Nat->Int)(m:Nat):List (Int×List D):=(List.range m).filterMap λr=>if f r=(r:Int) then some ((r:Int),ky f m r) else none
def nX (f:Nat->Int)(n:Nat):List D:=(List.range n).filterMap λr=>if f r=(r:Int) then some (D.lst (ky f n r)) else none
def Cn (vs:List (Int×List D))(k:Int)(d:D):List (Int×List D):=if (vs.any λt=>decide (t.1=k))=true then vs.map (λt=>if t.1=k then (t.1,t.2++[d]) else t) else vs++[(k,[d])]
def vw (ts:Gk):List (Int×List D):=ts.map λt=>(t.1,t.2.2)
theorem Nt (ts:Gk)(k:Int)(p:Addr)(d:D):vw (fy ts k p d)=Cn (vw ts) k d:=by
 unfold fy Cn vw;rw[List.any_map];have e:((λt:Int×List D=>decide (t.1=k)) ∘ λt:Int×Addr×List D=>(t.1,t.2.2))=λt=>decide (t.1=k):=rfl;rw[e]
 split
 ·rw[List.map_map,List.map_map]
  refine List.map_congr_left λt _=>?_;show ((if t.1=k then (t.1,t.2.1,t.2.2++[d]) else t).1,(if t.1=k then (t.1,t.2.1,t.2.2++[d]) else t).2.2)=if t.1=k then (t.1,t.2.2++[d]) else (t.1,t.2.2)
  split<;>rfl
 ·rw[List.map_append];rfl
theorem jG (f:Nat->Int)(m r:Nat):ky f (m+1) r=ky f m r++if f m=(r:Int) then [D.int (m:Int)] else []:=by
 unfold ky;rw[List.range_succ,List.filter_append,List.map_append];congr 1
 by_cases h:f m=(r:Int)
 ·rw[if_pos h,List.filter_cons_of_pos (by simpa using h)];rfl
 ·rw[if_neg h,List.filter_cons_of_neg (by simpa using h)];rfl
theorem dM {α β:Type}{f g:α->Option β}:∀ {l:List α},(∀ x∈l,f x=g x)->l.filterMap f=l.filterMap g
 | [],_=>rfl
 | x::l,h=>by
  rw[List.filterMap_cons,List.filterMap_cons,h x (.head _),dM λy hy=>h y (.tail _ hy)]
theorem xT {f:Nat->Int}{m:Nat}(hf:∀ x,x<=m->∃ r:Nat,f x=(r:Int)/\r<=x/\f r=(r:Int)):Cn (fB f m) (f m) (.int (m:Int))=fB f (m+1):=by
 obtain⟨r0,e0,h0,e1⟩:=hf m (Nat.le_refl _);have rhs:fB f (m+1)=((List.range m).filterMap λr=>if f r=(r:Int) then some ((r:Int),ky f (m+1) r) else none)++if f m=(m:Int) then [((m:Int),ky f (m+1) m)] else []:=by
  unfold fB;rw[List.range_succ,List.filterMap_append];congr 1
  by_cases h:f m=(m:Int)
  ·rw[if_pos h];simp [h]
  ·rw[if_neg h];simp [h]
 rw[rhs]
 by_cases h:r0=m
 ·subst h
  rw[if_pos e0];have any0:((fB f r0).any λt=>decide (t.1=f r0))=false:=List.any_eq_false.mpr λt ht=>by
   obtain⟨r,hr,e⟩:=List.mem_filterMap.mp ht;have hr:=List.mem_range.mp hr
   split at e
   ·cases e
    rw[e0];simp;omega
   ·cases e
  unfold Cn;rw[if_neg (by rw[any0];decide)]
  congr 1
  ·unfold fB
   refine dM λr hr=>?_;have hr:=List.mem_range.mp hr;have hp:ky f (r0+1) r=ky f r0 r:=by rw[jG,if_neg (by rw[e0];omega),List.append_nil]
   rw[hp]
  ·rw[jG,if_pos e0,e0]
   have:ky f r0 r0=[]:=by
    unfold ky;rw[List.map_eq_nil_iff,List.filter_eq_nil_iff];intro k hk;have hk:=List.mem_range.mp hk;obtain⟨r,er,hr,_⟩:=hf k (by omega)
    rw[er];simp;omega
   rw[this];rfl
 ·rw[if_neg (by rw[e0];omega),List.append_nil]
  have any1:((fB f m).any λt=>decide (t.1=f m))=true:=List.any_eq_true.mpr ⟨((r0:Int),ky f m r0),List.mem_filterMap.mpr ⟨r0,List.mem_range.mpr (by omega),by rw[if_pos e1]⟩,by rw[e0];simp⟩
  unfold Cn;rw[if_pos any1];unfold fB;rw[List.map_filterMap];refine dM λr hr=>?_
  by_cases q:f r=(r:Int)
  ·rw[if_pos q,if_pos q,Option.map_some,jG,e0]
   by_cases z:(r:Int)=(r0:Int)
   ·rw[if_pos z,if_pos z.symm]
   ·rw[if_neg z,if_neg (λy=>z y.symm),List.append_nil]
  ·rw[if_neg q,if_neg q];rfl
theorem xU (f:Nat->Int)(n:Nat):(fB f n).map (λv=>D.lst v.2)=nX f n:=by
 unfold fB nX;rw[List.map_filterMap];refine dM λr _=>?_
 split<;>rfl
def kz (b:Bool)(pts:List (List Int))(c:Int)(x:Nat):Int:=(uA b pts c).getD x 0
theorem Ia {b:Bool}{pts:List (List Int)}{c:Int}:∀ x,x < pts.length->∃ r:Nat,kz b pts c x=(r:Int)/\r<=x/\kz b pts c r=(r:Int):=λx hx=>by
 obtain⟨L,l⟩:=sg b pts c;exact L x (by rw[l];exact hx)
theorem ql {b:Bool}{pts:List (List Int)}{l:List D}(h:Cj b pts l):l=(jg b pts).map dg:=by
 obtain⟨ts,e,rfl⟩:=h;rw[jF b pts] at e;rw[<- vO _ _ e];rfl
def Xe (t:Tr):D:=.tup [.int (t.2.1:Nat),.int (t.2.2:Nat)]
theorem Ib (b:Bool)(pts:List (List Int))(c:Int):eK b pts c=((yh b pts).filter λt=>decide (t.1<=c)).map Xe:=by
 unfold eK;rw[fA b pts,List.filterMap_map];have:∀ l:List Tr,l.filterMap (jb c ∘ dg)=(l.filter λt=>decide (t.1<=c)).map Xe:=by
  intro l
  induction l with
  | nil=>rfl
  | cons t l ih =>
   have e:(jb c ∘ dg) t=if decide (t.1<=c)=true then some (Xe t) else none:=eJ c t
   by_cases h:t.1<=c
   ·rw[List.filterMap_cons_some (by rw[e,if_pos (decide_eq_true h)]),ih,List.filter_cons_of_pos (by simpa using h)];rfl
   ·rw[List.filterMap_cons_none (by rw[e,if_neg (by rw[decide_eq_false h];decide)]),ih,List.filter_cons_of_neg (by simpa using h)]
 exact this _
theorem Ic (ts:Gk)(k:Int)(p:Addr)(d:D)(m:Nat)(h1:ts.length<=m)(h2:∀ t∈ts,t.2.2.length<=m):(fy ts k p d).length<=m+1/\∀ t∈fy ts k p d,t.2.2.length<=m+1:=by
 unfold fy
 split
 ·refine⟨by rw[List.length_map];omega,λt ht=>?_⟩
  obtain⟨u,hu,rfl⟩:=List.mem_map.mp ht;have:=h2 u hu
  split
  ·show (u.2.2++[d]).length<=m+1
   rw[List.length_append,List.length_singleton];omega
  ·omega
 ·refine⟨by rw[List.length_append,List.length_singleton];omega,λt ht=>?_⟩
  rcases List.mem_append.mp ht with ht|ht
  ·have:=h2 t ht;omega
  ·rw[List.mem_singleton.mp ht];exact Nat.succ_le_succ (Nat.zero_le _)
def jH:aQ:=λds Q=>∃ b n pts c,ds=[bv pts,cj b,.int c]/\Good n pts/\pts.length<=1000/\0<=c/\Q (.own (nX (kz b pts c) pts.length))
theorem Co (ds:List D)(Q:B->Prop)(h:jH ds Q):BB jc cS { nx:=λ_=>Q (.sh .non),rt:=λb _=>Q b } (aJ BA.length ds):=by
 obtain⟨b,n,pts,c,rfl,hg,hl,hc,h⟩:=h;unfold BB;rw[show bv pts=.lst (pts.map ptD) from rfl]
 refine ah λN hN=>?_;walk_at "vx";rw[List.length_map,Int.toNat_natCast,se];refine⟨by omega,?_⟩
 subst hN;refine ah λN hN=>?_;show di _ _ _ _ _;generalize ht:cC _ _ _=tb;walk_at "vx";refine⟨b,n,pts,c,rfl,hg,hl,hc,?_⟩;rw[Ib];walk_at "vx";have hok:∀ t∈(yh b pts).filter (λt=>decide (t.1<=c)),t.2.1 < pts.length/\t.2.2 < pts.length:=λt ht=>by have:=uy t (List.mem_filter.mp ht).1;omega
 have hlb:=sj b pts c;generalize hes:(yh b pts).filter (λt=>decide (t.1<=c))=es at hok hlb;refine dQ Xe es (λi σ=>∃ x4 x5,σ=[some (.sh (.lst (pts.map ptD))),some (.sh (cj b)),some (.sh (.int c)),some (.own ((aD pts.length (es.take i)).1.map D.int)),x4,x5,none,none,none]) (λi t σ N' hx hI hN'=>?_) (λσ hI=>?_) ⟨none,none,rfl⟩
 ·obtain⟨x4,x5,rfl⟩:=hI
  subst ht;obtain⟨h1,h2⟩:=hok t (List.mem_of_getElem? hx);obtain⟨f1,_,_⟩:=mw pts.length (es.take i);unfold Xe;walk_at "vg";walk_at "vx";refine bg (n:=t.2.1) rfl (ee (by omega)) ?_
  refine bg (n:=t.2.2) rfl (ee (by omega)) ?_
  refine⟨⟨rfl,rfl⟩,?_⟩;rw[mv];have fs:=nQ (n:=pts.length) hx;unfold aK at fs
  by_cases hq:(aD pts.length (es.take i)).1.getD t.2.1 0=(aD pts.length (es.take i)).1.getD t.2.2 0
  ·rw[if_pos hq] at fs
   exact (if_neg (by rw[decide_eq_true hq];decide)).mpr (hN' _ ⟨_,_,by rw[fs]⟩)
  ·rw[if_neg hq] at fs
   refine (if_pos (by rw[decide_eq_false hq])).mpr ?_
   refine⟨_,t.2.1,t.2.2,rfl,by omega,by omega,by omega,?_⟩
   walk_at "vx";exact hN' _ ⟨_,_,by rw[fs]⟩
 ·obtain⟨x4,x5,rfl⟩:=hI
  rw[List.take_length,hlb];subst hN;clear ht;dsimp only;refine ah λN hN=>?_;unfold LZ;walk_at "vx";subst hN;refine ah λN hN=>?_;generalize ht:tSA 6 8 7=tb;walk_at "vx";rw[xA];have ll:=(sg b pts c).2;refine dQ (λq:Nat×Int=>.tup [.int (q.1:Nat),.int q.2]) _ (λi σ=>∃ (ts:Gk) (x7 x8:Option B),σ=[some (.sh (.lst (pts.map ptD))),some (.sh (cj b)),some (.sh (.int c)),some (.sh (.lst ((uA b pts c).map D.int))),x4,x5,some (.obj (yg ts)),x7,x8]/\ts.length<=i/\(∀ t∈ts,t.2.2.length<=i)/\vw ts=fB (kz b pts c) i) (λi q σ N' hx hI hN'=>?_) (λσ hI=>?_) ⟨[],none,none,rfl,Nat.zero_le _,(λt ht=>by cases ht),rfl⟩
  ·obtain⟨ts,x7,x8,rfl,l1,l2,hv⟩:=hI
   obtain⟨hq1,hq2⟩:=Cb hx;have hi:i < pts.length:=by rw[<- ll];exact (List.getElem?_eq_some_iff.mp hq2).1
   obtain⟨q1,q2⟩:=q;have hq1:q1=i:=hq1;subst hq1;have hq2:(uA b pts c)[q1]?=some q2:=hq2;have hq3:kz b pts c q1=q2:=by unfold kz;rw[List.getD_eq_getElem?_getD,hq2];rfl
   walk_at "vg";subst ht;refine⟨ts,q2,.int (q1:Nat),rfl,rfl,rfl,by omega,λt ht=>by have:=l2 t ht;omega,λp=>?_⟩
   obtain⟨a1,a2⟩:=Ic ts q2 p (.int (q1:Nat)) q1 l1 l2;exact hN' _ ⟨_,_,_,rfl,a1,a2,by rw[Nt,hv,<- hq3];exact xT λx hx=>Ia x (by omega)⟩
  ·obtain⟨ts,x7,x8,rfl,l1,l2,hv⟩:=hI
   subst hN;refine⟨ts,rfl,?_⟩;rw[List.length_mapIdx,ll] at hv;have e:(ts.map λt=>D.lst t.2.2)=nX (kz b pts c) pts.length:=by
    rw[<- xU,<- hv];unfold vw;rw[List.map_map];rfl
   rw[e];exact h
theorem uB {b:Bool}{pts:List (List Int)}(hl:pts.length<=1000):(jg b pts).length<=1000:=by rw[Cm];omega
def sp_nb1:aQ:=λds Q=>∃ j:Int,ds=[.int j]/\1<=j/\Q (.sh .non)
def IU (p:List Int)(side:Int):List Int:=p.map λx=>x / side
def sp_cbs:aQ:=λds Q=>∃ (p:List Int) (side:Int),ds=[ptD p,.int side]/\p.length<=1000/\1<=side/\side < 2^200/\Q (.sh (ptD (IU p side)))
def ZJ:aQ:=λds Q=>∃ (p:List Int) (side:Int),ds=[ptD p,.int side]/\(1<=p.length/\p.length<=3)/\1<=side/\side < 2^200/\Q (.sh (ptD (IU p side)))
def fW:D->D
 | .tup [.int f,_,_]=>if f < 1 then .non else .int f
 | _=>.non
def vQ:aQ:=λds Q=>∃ b n pts,ds=[bv pts,cj b]/\Good n pts/\pts.length<=1000/\Q (.sh (fW (kx b pts)))
theorem p_gb (ds:List D)(Q:B->Prop)(h:vQ ds Q):MK ur { nx:=λ_=>Q (.sh .non),rt:=λb _=>Q b } (aJ MJ.length ds):=by
 obtain⟨b,n,pts,rfl,hg,hl,h⟩:=h;unfold MK;refine ah λN hN=>?_;walk_at "vx";refine⟨b,n,pts,rfl,hg,hl,?_⟩;rcases HX b pts with e|⟨p,q,e⟩
 ·rw[e] at h ⊢
  walk_at "vx";subst hN;walk_at "vx";exact h
 ·rw[e] at h ⊢
  unfold cK at h ⊢;walk_at "vx";subst hN;refine ah λN hN=>?_;walk_at "vx";have h:Q (.sh (if bT b (pts.getD p []) (pts.getD q []) < 1 then .non else .int (bT b (pts.getD p []) (pts.getD q [])))):=h
  try simp only[Bool.false_eq_true,if_false]
  have step:∀ P:D->Prop,P (.int (bT b (pts.getD p []) (pts.getD q [])))->GO (D.tup [D.int (bT b (pts.getD p []) (pts.getD q [])),D.int (p:Nat),D.int (q:Nat)]) (D.int 0) P:=λP hP=>dE (n:=0) rfl rfl hP;refine step _ ?_;walk_at "vx"
  by_cases e1:bT b (pts.getD p []) (pts.getD q []) < 1
  ·rw[if_pos e1] at h
   exact (if_pos e1).mpr h
  ·rw[if_neg e1] at h
   refine (if_neg e1).mpr ?_;subst hN;walk_at "vx";refine step _ ?_;exact h

def cw (f:Nat->Int):Nat->Int×Nat
 | 0=>(f 0,0)
 | n+1=>if f (n+1) < (cw f n).1 then (f (n+1),n+1) else cw f n
def fC (f:Nat->Int):Nat->Int×Nat
 | 0=>(f 0,0)
 | n+1=>if (fC f n).1 < f (n+1) then (f (n+1),n+1) else fC f n
theorem nY (f:Nat->Int)(n:Nat):cw f (n+1)=if f (n+1) < (cw f n).1 then (f (n+1),n+1) else cw f n:=rfl
theorem xV (f:Nat->Int)(n:Nat):fC f (n+1)=if (fC f n).1 < f (n+1) then (f (n+1),n+1) else fC f n:=rfl
theorem vR (f:Nat->Int):∀ n,(cw f n).2<=n/\(cw f n).1=f (cw f n).2/\(∀ i,i<=n->(cw f n).1<=f i)/\∀ i,i < (cw f n).2->(cw f n).1 < f i
 | 0=>⟨Nat.le_refl _,rfl,λi hi=>by rw[Nat.le_zero.mp hi];exact Int.le_refl _,λi hi=>absurd hi (Nat.not_lt_zero _)⟩
 | n+1=>by
  obtain⟨h1,h2,h3,h4⟩:=vR f n;rw[nY]
  split
  ·rename_i hlt
   refine⟨Nat.le_refl _,rfl,λi hi=>?_,λi hi=>?_⟩
   ·by_cases e:i=n+1
    ·rw[e];exact Int.le_refl _
    ·have:=h3 i (by omega);show f (n+1)<=f i;omega
   ·have hi:i < n+1:=hi
    have:=h3 i (by omega);show f (n+1) < f i;omega
  ·rename_i hlt
   refine⟨by omega,h2,λi hi=>?_,h4⟩
   by_cases e:i=n+1
   ·rw[e];omega
   ·exact h3 i (by omega)
def gI (f:Nat->Int)(n:Nat):List D:=(List.range n).map λi=>.int (f i)
theorem Cp {f:Nat->Int}{n i:Nat}(h:i < n):(gI f n)[i]?=some (.int (f i)):=by
 unfold gI;rw[List.getElem?_map,List.getElem?_range h];rfl
theorem sk (f:Nat->Int)(n:Nat):(gI f n).length=n:=by unfold gI;rw[List.length_map,List.length_range]
theorem my (f:Nat->Int)(n:Nat):(gI f n).all isInt=true:=by unfold gI;rw[List.all_map];exact List.all_eq_true.mpr λ_ _=>rfl
theorem Id (a b:Int):mQ (.int a) (.int b)=decide (a < b):=rfl
theorem xW (f:Nat->Int)(n:Nat):gI f (n+1)=gI f n++[.int (f n)]:=by unfold gI;rw[List.range_succ,List.map_append];rfl
theorem xX {xs:List D}{y m:D}(h:dk xs=some m):dk (xs++[y])=some (if mQ y m=true then y else m):=by
 cases xs with
 | nil=>cases h
 | cons x xs =>
  have h:some (xs.foldl (λb y=>if mQ y b=true then y else b) x)=some m:=h
  show some ((xs++[y]).foldl (λb y=>if mQ y b=true then y else b) x)=_
  rw[List.foldl_append,Option.some.inj h];rfl
theorem xY {xs:List D}{y m:D}(h:rP xs=some m):rP (xs++[y])=some (if mQ m y=true then y else m):=by
 cases xs with
 | nil=>cases h
 | cons x xs =>
  have h:some (xs.foldl (λb y=>if mQ b y=true then y else b) x)=some m:=h
  show some ((xs++[y]).foldl (λb y=>if mQ b y=true then y else b) x)=_
  rw[List.foldl_append,Option.some.inj h];rfl
theorem vS (f:Nat->Int):∀ n,rP (gI f (n+1))=some (.int (fC f n).1)
 | 0=>rfl
 | n+1=>by
  rw[xW,xY (vS f n),Id,xV]
  by_cases e:(fC f n).1 < f (n+1)
  ·rw[if_pos (decide_eq_true e),if_pos e]
  ·rw[if_neg (by rw[decide_eq_false e];decide),if_neg e]
def sn (f:Nat->Int)(n:Nat):List D:=(List.range n).map λi:Nat=>.tup [.int (f i),.int (i:Nat)]
theorem xZ (f:Nat->Int)(n:Nat):sn f (n+1)=sn f n++[.tup [.int (f n),.int (n:Nat)]]:=by unfold sn;rw[List.range_succ,List.map_append];rfl
theorem nZ (f:Nat->Int):∀ n,dk (sn f (n+1))=some (.tup [.int (cw f n).1,.int ((cw f n).2:Nat)])
 | 0=>rfl
 | n+1=>by
  rw[xZ,xX (nZ f n)];have hj:=(vR f n).1;have e:mQ (.tup [.int (f (n+1)),.int ((n+1:Nat):Int)]) (.tup [.int (cw f n).1,.int ((cw f n).2:Nat)])=decide (f (n+1) < (cw f n).1):=by
   show HT.lexLt [f (n+1),((n+1:Nat):Int)] [(cw f n).1,((cw f n).2:Int)]=_;rw[HT.lexLt_cons,HT.lexLt_cons]
   by_cases e:f (n+1)=(cw f n).1
   ·rw[if_pos e,if_neg (by omega),decide_eq_false (by omega),decide_eq_false (by omega)]
   ·rw[if_neg e]
  rw[e,nY]
  by_cases e:f (n+1) < (cw f n).1
  ·rw[if_pos (decide_eq_true e),if_pos e]
  ·rw[if_neg (by rw[decide_eq_false e];decide),if_neg e]

def moreI (b:Bool)(f:Int):Int:=if b then f*f else f
def mB:D->D->D
 | .non,y=>y
 | b,y=>if decide (cG b < cG y)=true then y else b
def Vg (xs:List D):D:=xs.foldl mB .non
theorem ya {b y:D}(h:eR b=true):mB b y=if decide (cG b < cG y)=true then y else b:=by
 cases b with
 | non=>cases h
 | _=>rfl
theorem Ie {xs:List D}(h:xs.all eR=true):Vg xs=jX xs:=by
 have key:∀ (l:List D) (b:D),eR b=true->l.all eR=true->l.foldl mB b=l.foldl (λb y=>if decide (cG b < cG y)=true then y else b) b:=by
  intro l
  induction l with
  | nil=>intro b _ _;rfl
  | cons y l ih =>
   intro b hb hl;rw[List.all_cons,Bool.and_eq_true] at hl;rw[List.foldl_cons,List.foldl_cons,ya hb];refine ih _ ?_ hl.2
   split
   ·exact hl.1
   ·exact hb
 cases xs with
 | nil=>rfl
 | cons x xs =>
  rw[List.all_cons,Bool.and_eq_true] at h;exact key xs x h.1 h.2
def tupD (q:Nat×Int):D:=.tup [.int q.2,.int (q.1:Nat)]
def vT (b:Bool)(pts:List (List Int))(p:List Int):List Int:=pts.map λq=>bT b p q
def kJ:aQ:=λds Q=>∃ b n pts,∃ i:Nat,ds=[bv pts,cj b,.int (i:Int)]/\Good n pts/\pts.length<=1000/\i < pts.length/\Q (.own ((vT b pts (pts.getD i [])).map D.int))
theorem Nu (ds:List D)(Q:B->Prop)(h:kJ ds Q):Bq jA { nx:=λ_=>Q (.sh .non),rt:=λb _=>Q b } (aJ Bp.length ds):=by
 obtain⟨b,n,pts,i,rfl,hg,hl,hi,h⟩:=h;unfold Bq;rw[show bv pts=.lst (pts.map ptD) from rfl]
 walk_at "vx";refine bn ptD (λp=>.int (bT b (pts.getD i []) p)) pts (λp hp A ha=>?_) (by rw[sz];omega) ?_
 ·walk_at "vx"
  refine bg (n:=i) rfl (eU hi) ?_;walk_at "vx";refine⟨b,_,_,rfl,hg.bd (cT hi),hg.bd hp,?_⟩;walk_at "vx";exact ha
 ·unfold vT at h
  rw[List.map_map] at h;exact h
theorem jh (b:Bool)(pts:List (List Int)):(aV b pts).all eR=true:=List.all_eq_true.mpr λd hd=>by
 obtain⟨p,q,_,_,rfl⟩:=cu hd;rfl
def vU:aQ:=λds Q=>∃ b n pts,ds=[bv pts,cj b]/\Good n pts/\pts.length<=1000/\Q (.sh (Vg (aV b pts)))
theorem p_f2 (ds:List D)(Q:B->Prop)(h:vU ds Q):Bs eV Wa eH { nx:=λ_=>Q (.sh .non),rt:=λb _=>Q b } (aJ Br.length ds):=by
 obtain⟨b,n,pts,rfl,hg,hl,h⟩:=h;unfold Bs;refine ah λN hN=>?_;walk_at "vx";refine⟨n,b,pts,rfl,hg.shape,?_⟩;walk_at "vx";subst hN;walk_at "vx";refine⟨b,n,pts,rfl,hg,hl,?_⟩;walk_at "vx";rw[Ie (jh b pts)] at h;exact⟨_,rfl,jh b pts,h⟩
def fF (b:Bool)(pts:List (List Int))(i j:Nat):Int:=bT b (pts.getD i []) (pts.getD j [])
theorem Ig {α:Type}[Inhabited α](f:α->Int)(d:α)(l:List α):(l.map λx=>D.int (f x))=gI (λi=>f (l.getD i d)) l.length:=by
 apply List.ext_getElem?;intro i
 by_cases h:i < l.length
 ·rw[Cp h,List.getElem?_map,List.getD_eq_getElem?_getD,List.getElem?_eq_getElem h];rfl
 ·rw[List.getElem?_eq_none (by rw[List.length_map];omega),List.getElem?_eq_none (by rw[sk];omega)]
theorem so (b:Bool)(pts:List (List Int))(i:Nat):(vT b pts (pts.getD i [])).map D.int=gI (fF b pts i) pts.length:=by
 unfold vT;rw[List.map_map];exact Ig (λq=>bT b (pts.getD i []) q) [] pts
def fD (b:Bool)(pts:List (List Int))(i:Nat):Int:=(fC (fF b pts i) (pts.length - 1)).1
def fE (b:Bool)(pts:List (List Int))(i:Nat):Int:=((gI (fF b pts i) pts.length).map ly).sum
def fG (f:Nat->Int)(n:Nat):D:=if n=0 then .non else .tup [.int (cw f (n - 1)).1,.int ((cw f (n - 1)).2:Nat)]
def mostD (f:Nat->Int)(n:Nat):D:=if n=0 then .non else .tup [.int (fC f (n - 1)).1,.int ((fC f (n - 1)).2:Nat)]
theorem mC (f:Nat->Int)(n:Nat):(dk (sn f n)).getD .non=fG f n:=by
 unfold fG;cases n with
 | zero=>rfl
 | succ n=>rw[nZ,if_neg (Nat.succ_ne_zero n)];rfl
theorem ke (f:Nat->Int)(n:Nat):(sn f n).all en=true:=List.all_eq_true.mpr λd hd=>by
 obtain⟨i,_,rfl⟩:=List.mem_map.mp hd;rfl
theorem Ih {f:Nat->Int}{n:Nat}(h:0 < n):(rP (gI f n)).getD .non=.int (fC f (n - 1)).1:=by
 obtain⟨m,rfl⟩:∃ m,n=m+1:=⟨n - 1,by omega⟩
 rw[vS];rfl
theorem Nv {f:Nat->Int}{n:Nat}(h:0 < n):gI f n≠[]:=λz=>by
 have:=sk f n;rw[z] at this;exact absurd this (by show ¬ 0=n;omega)
def uC:aQ:=λds Q=>∃ b n pts,ds=[bv pts,cj b]/\Good n pts/\pts.length<=1000/\Q (.sh (fG (fD b pts) pts.length))
theorem Xf (ds:List D)(Q:B->Prop)(h:uC ds Q):Bu eV kJ { nx:=λ_=>Q (.sh .non),rt:=λb _=>Q b } (aJ Bt.length ds):=by
 obtain⟨b,n,pts,rfl,hg,hl,h⟩:=h;unfold Bu;refine ah λN hN=>?_;walk_at "vx";refine⟨n,b,pts,rfl,hg.shape,?_⟩;walk_at "vx";subst hN;rw[show bv pts=.lst (pts.map ptD) from rfl]
 walk_at "vx";rw[List.length_map,Int.toNat_natCast,cn];refine⟨by omega,bn (λi:Nat=>D.int (0+(i:Nat))) (λi:Nat=>.tup [.int (fD b pts i),.int (i:Nat)]) _ (λi hm A ha=>?_) (by rw[List.length_range,sz];omega) ?_⟩
 ·have hi:=List.mem_range.mp hm
  walk_at "vg";walk_at "vx";refine⟨b,n,pts,i,rfl,hg,hl,hi,?_⟩;rw[so];walk_at "vx";rw[Ih (by omega)]
  exact⟨⟨my _ _,Nv (by omega)⟩,by decide,ha⟩
 ·walk_at "vx"
  refine⟨.inr (ke (fD b pts) pts.length),?_⟩;have e:=mC (fD b pts) pts.length;unfold sn at e;rw[e];exact h
def qm:aQ:=λds Q=>∃ b n pts,ds=[bv pts,cj b]/\Good n pts/\pts.length<=1000/\Q (.sh (fG (fE b pts) pts.length))
theorem Nw (ds:List D)(Q:B->Prop)(h:qm ds Q):Bw eV kJ { nx:=λ_=>Q (.sh .non),rt:=λb _=>Q b } (aJ Bv.length ds):=by
 obtain⟨b,n,pts,rfl,hg,hl,h⟩:=h;unfold Bw;refine ah λN hN=>?_;walk_at "vx";refine⟨n,b,pts,rfl,hg.shape,?_⟩;walk_at "vx";subst hN;rw[show bv pts=.lst (pts.map ptD) from rfl]
 walk_at "vx";rw[List.length_map,Int.toNat_natCast,cn];refine⟨by omega,bn (λi:Nat=>D.int (0+(i:Nat))) (λi:Nat=>.tup [.int (fE b pts i),.int (i:Nat)]) _ (λi hm A ha=>?_) (by rw[List.length_range,sz];omega) ?_⟩
 ·have hi:=List.mem_range.mp hm
  walk_at "vg";walk_at "vx";refine⟨b,n,pts,i,rfl,hg,hl,hi,?_⟩;rw[so];walk_at "vx";exact⟨my _ _,by decide,ha⟩
 ·walk_at "vx"
  refine⟨.inr (ke (fE b pts) pts.length),?_⟩;have e:=mC (fE b pts) pts.length;unfold sn at e;rw[e];exact h

def eX (by' p:List Int):List Int:=(p.zip by').map λx=>x.1+x.2
def gu (by':List Int)(pts:List (List Int)):List (List Int):=pts.map (eX by')
def jI (k:Nat)(p:List Int):List Int:=p.set k (-(p.getD k 0))
def kA (i j:Nat)(p:List Int):List Int:=(p.set i (p.getD j 0)).set j (p.getD i 0)
def vV (m:Int)(p:List Int):List Int:=p.map (·*m)
def uD:aQ:=λds Q=>∃ p by',ds=[ptD p,ptD by']/\p.length<=3/\Q (.sh (ptD (eX by' p)))
theorem Xg (ds:List D)(Q:B->Prop)(h:uD ds Q):AD { nx:=λ_=>Q (.sh .non),rt:=λb _=>Q b } (aJ AC.length ds):=by
 obtain⟨p,by',rfl,hp,h⟩:=h
 unfold AD;rw[show ptD p=.tup (p.map D.int) from rfl,show ptD by'=.tup (by'.map D.int) from rfl]
 walk_at "vx";rw[gW];refine bn (λp=>.tup [.int p.1,.int p.2]) (λxy:Int×Int=>D.int (xy.1+xy.2)) _ (λxy hxy A ha=>?_) (by rw[sz,List.length_zip];omega) ?_
 ·walk_at "vx"
  exact ha
 ·walk_at "vx"
  rw[show D.tup ((p.zip by').map λxy:Int×Int=>D.int (xy.1+xy.2))=ptD (eX by' p) by unfold ptD eX;rw[List.map_map];rfl]
  exact h
theorem Cq {p:List Int}{k:Nat}(h:k < p.length):(p.map D.int)[k]?=some (.int (p.getD k 0)):=by
 rw[List.getElem?_map,List.getD_eq_getElem?_getD,List.getElem?_eq_getElem h];rfl
theorem Cr {n k:Nat}(h:k < n):ixN n (k:Int)=some k:=by
 unfold ixN;simp [h]
def uE:aQ:=λds Q=>∃ p k,ds=[ptD p,.int (k:Nat)]/\p.length<=3/\k < p.length/\Q (.sh (ptD (jI k p)))
theorem Xh (ds:List D)(Q:B->Prop)(h:uE ds Q):AF { nx:=λ_=>Q (.sh .non),rt:=λb _=>Q b } (aJ AE.length ds):=by
 obtain⟨p,k,rfl,hp,hk,h⟩:=h;unfold AF;rw[show ptD p=.tup (p.map D.int) from rfl]
 refine ah λN hN=>?_;walk_at "vx";subst hN;refine ah λN hN=>?_;walk_at "vx";refine bg (n:=k) rfl (Cq hk) ?_;walk_at "vx";rw[List.length_map,Cr hk];refine⟨⟨_,rfl⟩,?_⟩;subst hN;walk_at "vx";rw[show D.tup ((p.map D.int).set k (.int (-(p.getD k 0))))=ptD (jI k p) by unfold ptD jI;rw[List.map_set]]
 exact h
def uF:aQ:=λds Q=>∃ p i j,ds=[ptD p,.int (i:Nat),.int (j:Nat)]/\p.length<=3/\i < p.length/\j < p.length/\Q (.sh (ptD (kA i j p)))
theorem Xi (ds:List D)(Q:B->Prop)(h:uF ds Q):Mu { nx:=λ_=>Q (.sh .non),rt:=λb _=>Q b } (aJ Mt.length ds):=by
 obtain⟨p,i,j,rfl,hp,hi,hj,h⟩:=h;unfold Mu;rw[show ptD p=.tup (p.map D.int) from rfl]
 refine ah λN hN=>?_;walk_at "vx";subst hN;refine ah λN hN=>?_;walk_at "vx";refine dE (n:=j) rfl (Cq hj) ?_;rw[List.length_map,Cr hi];refine⟨⟨_,rfl⟩,?_⟩;subst hN;refine ah λN hN=>?_;walk_at "vx";refine dE (n:=i) rfl (Cq hi) ?_;rw[List.length_set,List.length_map,Cr hj];refine⟨⟨_,rfl⟩,?_⟩;subst hN;walk_at "vx";rw[show D.tup (((p.map D.int).set i (.int (p.getD j 0))).set j (.int (p.getD i 0)))=ptD (kA i j p) by unfold ptD kA;rw[List.map_set,List.map_set]]
 exact h
def uG:aQ:=λds Q=>∃ p j,ds=[ptD p,.int (j:Nat)]/\j < p.length/\Q (.sh .non)
theorem Xj (ds:List D)(Q:B->Prop)(h:uG ds Q):Aw { nx:=λ_=>Q (.sh .non),rt:=λb _=>Q b } (aJ Av.length ds):=by
 obtain⟨p,j,rfl,hj,h⟩:=h;unfold Aw;rw[show ptD p=.tup (p.map D.int) from rfl]
 walk_at "vx";rw[List.length_map];refine (if_neg (by omega)).mpr ?_
 refine (if_neg (by omega)).mpr ?_
 exact h
def qo:aQ:=λds Q=>∃ n pts j,ds=[bv pts,.int (j:Nat)]/\dX n pts/\pts≠[]/\j < n/\Q (.sh .non)
theorem Xk (ds:List D)(Q:B->Prop)(h:qo ds Q):Mq uG { nx:=λ_=>Q (.sh .non),rt:=λb _=>Q b } (aJ Mp.length ds):=by
 obtain⟨n,pts,j,rfl,hs,hp,hj,h⟩:=h;unfold Mq;cases pts with
 | nil=>exact absurd rfl hp
 | cons p r =>
  rw[show bv (p::r)=.lst (ptD p::r.map ptD) from rfl]
  walk_at "vx";refine (if_pos rfl).mpr ?_;refine bg (n:=0) rfl rfl ?_;exact⟨p,j,rfl,by rw[hs.2 p (.head _)];exact hj,h⟩
def ptsX (l:List (List Int)):B:=.own (l.map ptD)
def ss:aQ:=λds Q=>∃ n pts by',ds=[bv pts,ptD by']/\Good n pts/\by'.length=n/\pts.length<=1000/\Q (.own ((gu by' pts).map ptD))
theorem p_mv (ds:List D)(Q:B->Prop)(h:ss ds Q):AH dY uD { nx:=λ_=>Q (.sh .non),rt:=λb _=>Q b } (aJ AG.length ds):=by
 obtain⟨n,pts,by',rfl,hg,hb,hl,h⟩:=h
 unfold AH;rw[show bv pts=.lst (pts.map ptD) from rfl]
 refine ah λN hN=>?_;walk_at "vx";rw[List.length_map];refine⟨by decide,by rw[sz];omega,n,pts++[by'],by rw[show bv (pts++[by'])=.lst ((pts++[by']).map ptD) from rfl,List.map_append];rfl,⟨hg.1,λp hp=>?_⟩,?_⟩
 ·rcases List.mem_append.mp hp with hp|hp
  ·exact (hg.2 p hp).1
  ·rw[List.mem_singleton.mp hp];exact hb
 walk_at "vx";subst hN;walk_at "vx";refine bn ptD (λp=>ptD (eX by' p)) _ (λp hp A ha=>?_) (by rw[sz];omega) ?_
 ·walk_at "vx"
  refine⟨p,by',rfl,by rw[(hg.2 p hp).1];exact hg.1.2,?_⟩
  walk_at "vx";exact ha
 ·unfold gu at h
  rw[List.map_map] at h;exact h
def vW:aQ:=λds Q=>∃ n pts k,ds=[bv pts,.int (k:Nat)]/\Good n pts/\pts≠[]/\k < n/\pts.length<=1000/\Q (.own ((pts.map (jI k)).map ptD))
theorem p_mi (ds:List D)(Q:B->Prop)(h:vW ds Q):AK dY qo uE { nx:=λ_=>Q (.sh .non),rt:=λb _=>Q b } (aJ AJ.length ds):=by
 obtain⟨n,pts,k,rfl,hg,hp0,hk,hl,h⟩:=h;unfold AK;rw[show bv pts=.lst (pts.map ptD) from rfl]
 refine ah λN hN=>?_;walk_at "vx";refine⟨n,pts,rfl,hg.shape,?_⟩;walk_at "vx";subst hN;refine ah λN hN=>?_;walk_at "vx";refine⟨n,pts,k,rfl,hg.shape,hp0,hk,?_⟩;walk_at "vx";subst hN;walk_at "vx";refine bn ptD (λp=>ptD (jI k p)) _ (λp hp A ha=>?_) (by rw[sz];omega) ?_
 ·walk_at "vx"
  have:=(hg.2 p hp).1;have:=hg.1.2;refine⟨p,k,rfl,by omega,by omega,?_⟩
  walk_at "vx";exact ha
 ·rw[List.map_map] at h
  exact h
def vX:aQ:=λds Q=>∃ n pts i j,ds=[bv pts,.int (i:Nat),.int (j:Nat)]/\Good n pts/\pts≠[]/\i < n/\j < n/\pts.length<=1000/\Q (.own ((pts.map (kA i j)).map ptD))
theorem p_ex (ds:List D)(Q:B->Prop)(h:vX ds Q):AN dY qo uF { nx:=λ_=>Q (.sh .non),rt:=λb _=>Q b } (aJ AM.length ds):=by
 obtain⟨n,pts,i,j,rfl,hg,hp0,hi,hj,hl,h⟩:=h;unfold AN;rw[show bv pts=.lst (pts.map ptD) from rfl]
 refine ah λN hN=>?_;walk_at "vx";refine⟨n,pts,rfl,hg.shape,?_⟩;walk_at "vx";subst hN;refine ah λN hN=>?_;walk_at "vx";refine⟨n,pts,i,rfl,hg.shape,hp0,hi,?_⟩;walk_at "vx";subst hN;refine ah λN hN=>?_;walk_at "vx";refine⟨n,pts,j,rfl,hg.shape,hp0,hj,?_⟩;walk_at "vx";subst hN;walk_at "vx";refine bn ptD (λp=>ptD (kA i j p)) _ (λp hp A ha=>?_) (by rw[sz];omega) ?_
 ·walk_at "vx"
  have:=(hg.2 p hp).1;have:=hg.1.2;refine⟨p,i,j,rfl,by omega,by omega,by omega,?_⟩
  walk_at "vx";exact ha
 ·rw[List.map_map] at h
  exact h
def Cs:aQ:=λds Q=>∃ n pts,∃ m:Int,ds=[bv pts,.int m]/\Good n pts/\1<=m/\pts.length<=1000/\Q (.own ((pts.map (vV m)).map ptD))
theorem p_tm (ds:List D)(Q:B->Prop)(h:Cs ds Q):AQ dY qg { nx:=λ_=>Q (.sh .non),rt:=λb _=>Q b } (aJ AO.length ds):=by
 obtain⟨n,pts,m,rfl,hg,hm,hl,h⟩:=h;unfold AQ;rw[show bv pts=.lst (pts.map ptD) from rfl]
 refine ah λN hN=>?_;walk_at "vx";refine⟨n,pts,rfl,hg.shape,?_⟩;walk_at "vx";subst hN;refine ah λN hN=>?_;walk_at "vx";refine⟨m,rfl,hm,?_⟩;walk_at "vx";subst hN;walk_at "vx";refine bn ptD (λp=>ptD (vV m p)) _ (λp hp A ha=>?_) (by rw[sz];omega) ?_
 ·have gp:=hg.2 p hp
  have:=hg.1.2;rw[show ptD p=.tup (p.map D.int) from rfl]
  walk_at "vx";refine bn D.int (λx:Int=>D.int (x*m)) _ (λx hx A ha=>?_) (by rw[sz];omega) ?_
  ·walk_at "vx"
   refine⟨?_,ha⟩;have:=gp.2 x hx;unfold CMul;left;omega
  ·walk_at "vx"
   rw[show D.tup (p.map λx:Int=>D.int (x*m))=ptD (vV m p) by unfold ptD vV;rw[List.map_map];rfl]
   exact ha
 ·rw[List.map_map] at h
  exact h

def uH:aQ:=λds Q=>∃ n pts ots,ds=[bv pts,bv ots]/\dX n pts/\dX n ots/\pts.length<=1000/\ots.length<=1000/\Q (.sh .non)
theorem Xl (ds:List D)(Q:B->Prop)(h:uH ds Q):Ml dY { nx:=λ_=>Q (.sh .non),rt:=λb _=>Q b } (aJ Mj.length ds):=by
 obtain⟨n,pts,ots,rfl,hg,hg2,hl,hl2,h⟩:=h;unfold Ml bv;walk_at "vx";rw[List.length_map,List.length_map];refine⟨by rw[sz];omega,n,pts++ots,?_,⟨hg.1,λp hp=>?_⟩,?_⟩
 ·unfold bv;rw[List.map_append]
 ·rcases List.mem_append.mp hp with hp|hp
  ·exact hg.2 p hp
  ·exact hg2.2 p hp
 ·walk_at "vx"
  exact h

theorem bM:∀ (n:Nat) (x:D),bP n x=true->jm x x=true
 | _,.non,_=>rfl
 | _,.bl b,_=>by simp [jm]
 | _,.int i,_=>by simp [jm]
 | _,.str s,_=>by simp [jm]
 | 0,.tup _,h=>by simp [bP] at h
 | 0,.lst _,h=>by simp [bP] at h
 | n+1,.tup xs,h=>by
  have h':xs.all (bP n)=true:=h;show oE xs xs=true
  induction xs with
  | nil=>rfl
  | cons x r ih =>
   rw[List.all_cons,Bool.and_eq_true] at h';show (jm x x&&oE r r)=true;rw[bM n x h'.1,ih (by show r.all (bP n)=true;exact h'.2) h'.2];rfl
 | n+1,.lst xs,h=>by
  have h':xs.all (bP n)=true:=h;show oE xs xs=true
  induction xs with
  | nil=>rfl
  | cons x r ih =>
   rw[List.all_cons,Bool.and_eq_true] at h';show (jm x x&&oE r r)=true;rw[bM n x h'.1,ih (by show r.all (bP n)=true;exact h'.2) h'.2];rfl
 | 0,.dct _,h=>by simp [bP] at h
 | 0,.exc _,h=>by simp [bP] at h
 | 0,.scr _,h=>by simp [bP] at h
 | n+1,.dct _,h=>by simp [bP] at h
 | n+1,.exc _,h=>by simp [bP] at h
 | n+1,.scr _,h=>by simp [bP] at h
theorem jJ (l:List Tr):bP 8 (.lst (l.map dg))=true:=List.all_eq_true.mpr λd hd=>by
 obtain⟨t,_,rfl⟩:=List.mem_map.mp hd;rfl

theorem qp (p:List Int):dm (ptD p)=p:=by
 show (p.map D.int).map ly=p;rw[List.map_map];exact List.map_id p
theorem Ct:∀ (by' p q:List Int),p.length=by'.length->q.length=by'.length->HT.lexLt (eX by' p) (eX by' q)=HT.lexLt p q
 | [],[],[],_,_=>rfl
 | s::r,x::p,y::q,h1,h2=>by
  have ih:=Ct r p q (by simpa using h1) (by simpa using h2)
  show HT.lexLt ((x+s)::eX r p) ((y+s)::eX r q)=_;rw[HT.lexLt_cons,HT.lexLt_cons,ih]
  by_cases e:x=y
  ·rw[if_pos e,if_pos (by omega)]
  ·rw[if_neg e,if_neg (by omega)]
   by_cases l:x < y
   ·rw[decide_eq_true l,decide_eq_true (by omega)]
   ·rw[decide_eq_false l,decide_eq_false (by omega)]
 | _::_,[],_,h,_=>by simp at h
 | _::_,_::_,[],_,h=>by simp at h
 | [],_::_,_,h,_=>by simp at h
 | [],[],_::_,_,h=>by simp at h
theorem fH {n:Nat}{pts:List (List Int)}(h:dX n pts):(pts.map ptD).all fk=true:=List.all_eq_true.mpr λd hd=>by
 obtain⟨p,hp,rfl⟩:=List.mem_map.mp hd;have:=h.2 p hp;have:=h.1.1;cases p with
 | nil=>simp at *;omega
 | cons x r =>
  show ((x::r).map D.int).all isInt&&!((x::r).map D.int).isEmpty=true;rw[List.all_map];have:(x::r).all (isInt ∘ D.int)=true:=List.all_eq_true.mpr λ_ _=>rfl;rw[this];rfl
def uI (pts:List (List Int)):List (List Int):=(cc (pts.map ptD)).map dm
theorem Cu (pts:List (List Int)):cc (pts.map ptD)=(uI pts).map ptD:=by
 unfold uI;rw[List.map_map]
 symm
 refine (List.map_congr_left λd hd=>?_).trans (List.map_id _);obtain⟨p,_,rfl⟩:=List.mem_map.mp ((bD _).mem_iff.mp hd);show ptD (dm (ptD p))=ptD p;rw[qp]
theorem fI (pts:List (List Int)):(uI pts).Perm pts:=by
 have:=(bD (pts.map ptD)).map dm;rw[List.map_map] at this;refine this.trans ?_;rw[show (pts.map (dm ∘ ptD))=pts from (List.map_congr_left λp _=>qp p).trans (List.map_id pts)]
theorem uJ {n:Nat}{by':List Int}{pts ots:List (List Int)}(h:dX n pts)(hb:by'.length=n)(ho:dX n ots)(hp:ots.Perm (gu by' pts)):cc (ots.map ptD)=(gu by' (uI pts)).map ptD:=by
 refine (lM (fH ho) ?_ ?_).symm
 ·exact (((fI pts).map _).trans hp.symm).map _
 ·have:=dC (pts.map ptD)
  rw[Cu] at this;unfold gu;rw[List.pairwise_map,List.pairwise_map];rw[List.pairwise_map] at this;refine this.imp_of_mem λ{x y} hx hy l=>?_;have hx:=h.2 x ((fI pts).mem_iff.mp hx);have hy:=h.2 y ((fI pts).mem_iff.mp hy);unfold jT at l ⊢;rw[qp,qp] at l ⊢;rw[Ct by' y x (by omega) (by omega)]
  exact l
theorem qr:∀ (by' p:List Int),p.length=by'.length->(p.zip (eX by' p)).map (λx=>x.2 - x.1)=by'
 | [],[],_=>rfl
 | s::r,x::p,h=>by
  show (x+s - x)::(p.zip (eX r p)).map (λx=>x.2 - x.1)=s::r;rw[qr r p (by simpa using h),show x+s - x=s by omega]
 | _::_,[],h=>by simp at h
 | [],_::_,h=>by simp at h
theorem uK {by' p:List Int}(h:p.length=by'.length):(eX by' p).length=by'.length:=by
 unfold eX;rw[List.length_map,List.length_zip];omega
theorem su {n:Nat}{by':List Int}{pts:List (List Int)}(h:dX n pts)(hb:by'.length=n):dX n (gu by' pts):=⟨h.1,λp hp=>by
 obtain⟨q,hq,rfl⟩:=List.mem_map.mp hp;rw[uK (by rw[h.2 q hq,hb]),hb]⟩
theorem dD (pts:List (List Int)):bP 8 (.lst (pts.map ptD))=true:=List.all_eq_true.mpr λd hd=>by
 obtain⟨p,_,rfl⟩:=List.mem_map.mp hd;exact List.all_eq_true.mpr λx hx=>by
  obtain⟨k,_,rfl⟩:=List.mem_map.mp hx;rfl
def Cv:aQ:=λds Q=>∃ n pts ots by',ds=[bv pts,bv ots]/\Good n pts/\dX n ots/\by'.length=n/\pts≠[]/\pts.length<=1000/\ots.Perm (gu by' pts)/\Q (.sh (ptD by'))
theorem p_mb (ds:List D)(Q:B->Prop)(h:Cv ds Q):AU uH ss { nx:=λ_=>Q (.sh .non),rt:=λb _=>Q b } (aJ AS.length ds):=by
 obtain⟨n,pts,ots,by',rfl,hg,ho,hb,hp0,hl,hp,h⟩:=h
 have lo:ots.length=pts.length:=by rw[hp.length_eq];unfold gu;rw[List.length_map]
 unfold AU;rw[show bv pts=.lst (pts.map ptD) from rfl,show bv ots=.lst (ots.map ptD) from rfl]
 refine ah λN hN=>?_;walk_at "vx";refine⟨n,pts,ots,rfl,hg.shape,ho,hl,by omega,?_⟩
 walk_at "vx";subst hN;refine ah λN hN=>?_;walk_at "vx";have pz:=List.length_pos_iff.mpr hp0;refine (if_neg (by cases pts with|nil=>exact absurd rfl hp0|cons=>simp)).mpr ⟨⟨rfl,rfl⟩,?_⟩
 rw[List.length_map,List.length_map,lo];refine (if_neg (by rw[bM 8 _ rfl];decide)).mpr ?_
 subst hN;refine ah λN hN=>?_;walk_at "vx";have t1:∀ {n:Nat} {l:List (List Int)},dX n l->(l.map ptD).all en=true:=λ{n l} _=>List.all_eq_true.mpr λd hd=>by
  obtain⟨p,_,rfl⟩:=List.mem_map.mp hd;show (p.map D.int).all isInt=true;rw[List.all_map];exact List.all_eq_true.mpr λ_ _=>rfl
 have lsp:(uI pts).length=pts.length:=(fI pts).length_eq;obtain⟨s0,sr,es⟩:∃ s0 sr,uI pts=s0::sr:=by
  cases e:uI pts with
  | nil=>rw[e] at lsp;simp at lsp;omega
  | cons a l=>exact⟨a,l,rfl⟩
 have hs0:s0.length=n:=(hg.2 s0 ((fI pts).mem_iff.mp (by rw[es];exact .head _))).1
 have b1:(dk (pts.map ptD)).getD .non=ptD s0:=by rw[eI (fH hg.shape),Cu,es];rfl
 have b2:(dk (ots.map ptD)).getD .non=ptD (eX by' s0):=by rw[eI (fH ho),uJ hg.shape hb ho hp,es];rfl
 rw[b1,b2];refine⟨⟨.inr (t1 hg.shape),by simpa using hp0⟩,⟨.inr (t1 ho),λz=>by have:=congrArg List.length z;rw[List.length_map,List.length_nil] at this;omega⟩,?_⟩
 show eE _ _ _ _ (oT (s0.map D.int) ((eX by' s0).map D.int)) [] _
 rw[gW];have n3:=hg.1.2;refine bn (λp=>.tup [.int p.1,.int p.2]) (λxy:Int×Int=>D.int (xy.2 - xy.1)) _ (λxy hxy A ha=>?_) (by rw[sz,List.length_zip];omega) ?_
 ·walk_at "vx"
  exact ha
 rw[show D.tup ((s0.zip (eX by' s0)).map λxy:Int×Int=>D.int (xy.2 - xy.1))=ptD by' by
  show _=D.tup (by'.map D.int)
  rw[<- qr by' s0 (by omega),List.map_map,qr by' s0 (by omega)];rfl]
 subst hN;refine ah λN hN=>?_;walk_at "vx";refine⟨n,pts,by',rfl,hg,hb,hl,?_⟩
 walk_at "vx";rw[uJ hg.shape hb (su hg.shape hb) (List.Perm.refl _),uJ hg.shape hb ho hp];refine⟨fH (su hg.shape hb),fH ho,⟨dD _,dD _⟩,?_⟩;rw[bM 8 _ (dD _)];refine (if_neg (by decide)).mpr ?_
 subst hN;walk_at "vx";exact h

structure Alike (b:Bool)(pts pts':List (List Int)):Prop where
 len:pts.length=pts'.length
 far:∀ i j,fF b pts i j=fF b pts' i j
theorem Alike.pairs {b:Bool}{pts pts':List (List Int)}(h:Alike b pts pts'):aV b pts=aV b pts':=by
 have hp:∀ i j,cK b pts i j=cK b pts' i j:=λi j=>by
  unfold cK;rw[show bT b (pts.getD i []) (pts.getD j [])=bT b (pts'.getD i []) (pts'.getD j []) from h.far i j]
 have hr:∀ i,cU b pts i=cU b pts' i:=λi=>by
  induction i with
  | zero=>rfl
  | succ i ih =>
   show cU b pts i++fz b pts i (pts.length - (i+1))=cU b pts' i++fz b pts' i (pts'.length - (i+1));rw[ih,h.len];unfold fz;congr 1;exact List.map_congr_left λt _=>hp _ _
 unfold aV;rw[hr,h.len]
theorem Alike.nears {b:Bool}{pts pts':List (List Int)}(h:Alike b pts pts'):jD b pts=jD b pts':=by
 unfold jD;rw[h.len];refine List.map_congr_left λj _=>?_;unfold nP sd;rw[h.len];congr 2;refine List.map_congr_left λk _=>?_;unfold nO;rw[show bT b (pts.getD j []) (pts.getD k [])=bT b (pts'.getD j []) (pts'.getD k []) from h.far j k]
def og (b:Bool)(pts:List (List Int))(c:Int):List D:=[.lst (cc (aV b pts)),.lst (jD b pts),.lst (eK b pts c),.lst (nX (kz b pts c) pts.length),.lst ((jg b pts).map dg),fW (kx b pts),Vg (aV b pts),fG (fD b pts) pts.length,fG (fE b pts) pts.length]
theorem Alike.told {b:Bool}{pts pts':List (List Int)}(h:Alike b pts pts')(c:Int):og b pts c=og b pts' c:=by
 have hf:∀ i,fF b pts i=fF b pts' i:=λi=>funext (h.far i);have h1:fD b pts=fD b pts':=funext λi=>by unfold fD;rw[hf,h.len]
 have h2:fE b pts=fE b pts':=funext λi=>by unfold fE;rw[hf,h.len]
 have h3:nV b pts=nV b pts':=by unfold nV;rw[h.pairs]
 have h4:kz b pts c=kz b pts' c:=funext λx=>by unfold kz uA qk;rw[h3,h.len]
 unfold og;rw[h1,h2,h4,h.pairs,h.nears,h.len];unfold eK kx jg;rw[h3,h.pairs,h.len]
theorem vY (b:Bool)(q:List Int):bT b [] q=0:=rfl
theorem dq (b:Bool)(p:List Int):bT b p []=0:=by unfold bT;rw[List.zip_nil_right];rfl
theorem dr (b:Bool)(x y:Int)(p q:List Int):bT b (x::p) (y::q)=nM b x y+bT b p q:=rfl
theorem Cw (b:Bool):∀ (by' p q:List Int),p.length<=by'.length->q.length<=by'.length->bT b (eX by' p) (eX by' q)=bT b p q
 | _,[],q,_,_=>by rw[vY];rfl
 | _,p,[],_,_=>by rw[dq,show ∀ by',eX by' []=[] from λ_=>rfl,dq]
 | [],_::_,_::_,h,_=>by simp at h
 | s::r,x::p,y::q,h1,h2=>by
  show bT b ((x+s)::eX r p) ((y+s)::eX r q)=_;rw[dr,dr,Cw b r p q (by simpa using h1) (by simpa using h2)]
  unfold nM;rw[show x+s - (y+s)=x - y by omega]
theorem Cy (b:Bool):∀ (k:Nat) (p q:List Int),bT b (jI k p) (jI k q)=bT b p q
 | _,[],q=>rfl
 | k,x::p,[]=>by rw[dq,show jI k []=[] from rfl,dq]
 | 0,x::p,y::q=>by
  show bT b (-x::p) (-y::q)=_;rw[dr,dr];have:fm (-x - -y)=fm (x - y):=by unfold fm;split<;>split<;>omega
  unfold nM;rw[this]
 | k+1,x::p,y::q=>by
  show bT b (x::jI k p) (y::jI k q)=_;rw[dr,dr,Cy b k p q]
theorem Cz {n:Nat}(p:List Int)(h1:p.length=n)(h:n<=3):p=[]\/(∃ x,p=[x])\/(∃ x y,p=[x,y])\/∃ x y z,p=[x,y,z]:=by
 match p,h1 with
 | [],_=>exact .inl rfl
 | [x],_=>exact .inr (.inl ⟨x,rfl⟩)
 | [x,y],_=>exact .inr (.inr (.inl ⟨x,y,rfl⟩))
 | [x,y,z],_=>exact .inr (.inr (.inr ⟨x,y,z,rfl⟩))
 | _::_::_::_::_,h1=>simp at h1;omega
theorem Nx (b:Bool){i j:Nat}{p q:List Int}{n:Nat}(hp:p.length=n)(hq:q.length=n)(hn:n<=3)(hi:i < n)(hj:j < n):bT b (kA i j p) (kA i j q)=bT b p q:=by
 subst hp;rcases Cz p rfl hn with rfl|⟨x,rfl⟩|⟨x,y,rfl⟩|⟨x,y,z,rfl⟩
 ·rfl
 ·obtain⟨u,rfl⟩:∃ u,q=[u]:=by match q,hq with|[u],_=>exact⟨u,rfl⟩
  have:i=0:=by simp at hi;omega
  have:j=0:=by simp at hj;omega
  subst_vars;rfl
 ·obtain⟨u,v,rfl⟩:∃ u v,q=[u,v]:=by match q,hq with|[u,v],_=>exact⟨u,v,rfl⟩
  have i2:i=0\/i=1:=by simp at hi;omega
  have j2:j=0\/j=1:=by simp at hj;omega
  rcases i2 with rfl|rfl<;>rcases j2 with rfl|rfl<;>simp [kA,bT]<;>omega
 ·obtain⟨u,v,w,rfl⟩:∃ u v w,q=[u,v,w]:=by match q,hq with|[u,v,w],_=>exact⟨u,v,w,rfl⟩
  have i2:i=0\/i=1\/i=2:=by simp at hi;omega
  have j2:j=0\/j=1\/j=2:=by simp at hj;omega
  rcases i2 with rfl|rfl|rfl<;>rcases j2 with rfl|rfl|rfl<;>simp [kA,bT]<;>omega
theorem cL {f:List Int->List Int}(h0:f []=[])(pts:List (List Int))(i:Nat):(pts.map f).getD i []=f (pts.getD i []):=by
 rw[List.getD_eq_getElem?_getD,List.getElem?_map,List.getD_eq_getElem?_getD];cases pts[i]? with
 | none=>exact h0.symm
 | some p=>rfl
theorem kK {n:Nat}{pts:List (List Int)}(g:Good n pts)(i:Nat):pts.getD i []=[]\/(pts.getD i []).length=n:=by
 by_cases h:i < pts.length
 ·exact .inr (g.2 _ (cT h)).1
 ·left
  rw[List.getD_eq_getElem?_getD,List.getElem?_eq_none (by omega)];rfl
theorem sv {b:Bool}{n:Nat}{pts:List (List Int)}{by':List Int}(g:Good n pts)(hb:by'.length=n):Alike b (gu by' pts) pts:=⟨by unfold gu;rw[List.length_map],λi j=>by
 unfold fF gu;rw[cL rfl,cL rfl];have h1:=kK g i;have h2:=kK g j;exact Cw b by' _ _ (by rcases h1 with h|h<;>rw[h]<;>simp [hb]) (by rcases h2 with h|h<;>rw[h]<;>simp [hb])⟩
theorem CA {b:Bool}{pts:List (List Int)}(k:Nat):Alike b (pts.map (jI k)) pts:=⟨List.length_map ..,λi j=>by
 unfold fF;rw[cL rfl,cL rfl];exact Cy b k _ _⟩
theorem CB {b:Bool}{n:Nat}{pts:List (List Int)}{k l:Nat}(g:Good n pts)(hk:k < n)(hl:l < n):Alike b (pts.map (kA k l)) pts:=⟨List.length_map ..,λi j=>by
 unfold fF;rw[cL rfl,cL rfl];rcases kK g i with h1|h1
 ·rw[h1];rfl
 ·rcases kK g j with h2|h2
  ·rw[h2,show kA k l []=[] from rfl,dq,dq]
  ·exact Nx b h1 h2 g.1.2 hk hl⟩

def bB (b:Bool)(m:Int):Int:=if b=true then m*m else m
theorem Ny {m:Int}(h:0<=m)(x y:Int):fm (x*m - y*m)=fm (x - y)*m:=by
 rw[<- Int.sub_mul];unfold fm
 by_cases z:x - y < 0
 ·rw[if_pos z]
  by_cases e:m=0
  ·subst e;simp
  ·rw[if_pos (Int.mul_neg_of_neg_of_pos z (by omega)),Int.neg_mul]
 ·rw[if_neg z,if_neg (by have:=Int.mul_nonneg (show 0<=x - y by omega) h;omega)]
theorem CC (b:Bool){m:Int}(h:0<=m):∀ p q:List Int,bT b (vV m p) (vV m q)=bT b p q*bB b m
 | [],q=>by rw[vY,Int.zero_mul];rfl
 | p,[]=>by rw[dq,Int.zero_mul,show vV m []=[] from rfl,dq]
 | x::p,y::q=>by
  show bT b (x*m::vV m p) (y*m::vV m q)=_;rw[dr,dr,CC b h p q,Int.add_mul];congr 1;unfold nM bB;rw[Ny h];cases b with
  | false=>rfl
  | true =>
   show fm (x - y)*m*(fm (x - y)*m)=fm (x - y)*fm (x - y)*(m*m);simp only[Int.mul_assoc,Int.mul_left_comm]
def kh (c:Int)(t:Tr):Tr:=(t.1*c,t.2)
theorem Ii (t:Tr):mV (dg t)=t:=by
 obtain⟨f,i,j⟩:=t;rfl
def fq (m:Int)(pts:List (List Int)):List (List Int):=pts.map (vV m)
theorem jK (m:Int)(pts:List (List Int)):(fq m pts).length=pts.length:=List.length_map ..
theorem Nz (b:Bool){m:Int}(h:0<=m)(pts:List (List Int))(i j:Nat):bT b ((fq m pts).getD i []) ((fq m pts).getD j [])=bT b (pts.getD i []) (pts.getD j [])*bB b m:=by
 unfold fq;rw[cL rfl,cL rfl,CC b h]
theorem uL (b:Bool){m:Int}(h:0<=m)(pts:List (List Int)):yh b (fq m pts)=(yh b pts).map (kh (bB b m)):=by
 unfold yh aV;rw[jK];have:∀ i,(cU b (fq m pts) i).map mV=((cU b pts i).map mV).map (kh (bB b m)):=λi=>by
  induction i with
  | zero=>rfl
  | succ i ih =>
   show (cU b (fq m pts) i++fz b (fq m pts) i ((fq m pts).length - (i+1))).map mV=((cU b pts i++fz b pts i (pts.length - (i+1))).map mV).map _;rw[List.map_append,List.map_append,List.map_append,ih,jK];congr 1;unfold fz;rw[List.map_map,List.map_map,List.map_map];refine List.map_congr_left λt _=>?_;show (bT b ((fq m pts).getD i []) ((fq m pts).getD (i+1+t) []),_,_)=(bT b (pts.getD i []) (pts.getD (i+1+t) [])*bB b m,_,_);rw[Nz b h]
 exact this _
theorem fJ {b:Bool}{m:Int}(h:1<=m):0 < bB b m:=by
 unfold bB
 split
 ·exact Int.mul_pos (by omega) (by omega)
 ·omega
theorem qt {c x y:Int}(h:0 < c):x*c < y*c ↔ x < y:=⟨λz=>Int.lt_of_mul_lt_mul_right z (by omega),λz=>Int.mul_lt_mul_of_pos_right z h⟩
theorem uM {c x y:Int}(h:0 < c):x*c<=y*c ↔ x<=y:=⟨λz=>Int.le_of_mul_le_mul_right z h,λz=>Int.mul_le_mul_of_nonneg_right z (by omega)⟩
theorem NA {c:Int}(h:0 < c)(t u:Tr):jT (dg (kh c t)) (dg (kh c u))=jT (dg t) (dg u):=by
 unfold jT;congr 1;show HT.lexLt [u.1*c,(u.2.1:Int),(u.2.2:Int)] [t.1*c,(t.2.1:Int),(t.2.2:Int)]=HT.lexLt [u.1,(u.2.1:Int),(u.2.2:Int)] [t.1,(t.2.1:Int),(t.2.2:Int)];rw[HT.lexLt_cons (u.1*c),HT.lexLt_cons u.1];have e:=qt (x:=u.1) (y:=t.1) h;have e':=qt (x:=t.1) (y:=u.1) h
 by_cases q:u.1=t.1
 ·rw[if_pos q,if_pos (by rw[q])]
 ·rw[if_neg q,if_neg (by omega)]
  by_cases l:u.1 < t.1
  ·rw[decide_eq_true l,decide_eq_true (e.mpr l)]
  ·rw[decide_eq_false l,decide_eq_false (λz=>l (e.mp z))]
theorem vZ (b:Bool){m:Int}(h:1<=m)(pts:List (List Int)):cc (aV b (fq m pts))=((nV b pts).map (kh (bB b m))).map dg:=by
 refine (lM (eW b _) ?_ ?_).symm
 ·rw[fA,uL b (by omega)]
  exact ((qh b pts).map _).map _
 ·have:=dC (aV b pts)
  rw[jF,List.pairwise_map] at this;rw[List.pairwise_map,List.pairwise_map];exact this.imp λ{x y} l=>by rw[NA (fJ h)];exact l
theorem CD (b:Bool){m:Int}(h:1<=m)(pts:List (List Int)):nV b (fq m pts)=(nV b pts).map (kh (bB b m)):=by
 show (cc (aV b (fq m pts))).map mV=_;rw[vZ b h,List.map_map];exact (List.map_congr_left λt _=>Ii t).trans (List.map_id _)
theorem wc (c:Int):∀ (ts:List Tr) (s:List Int×List Tr),(ts.map (kh c)).foldl aK (s.1,s.2.map (kh c))=((ts.foldl aK s).1,(ts.foldl aK s).2.map (kh c))
 | [],s=>rfl
 | t::ts,s=>by
  rw[List.map_cons,List.foldl_cons,List.foldl_cons,<- wc c ts (aK s t)];congr 1;unfold aK;show (if s.1.getD t.2.1 0=s.1.getD t.2.2 0 then _ else _)=_
  split
  ·rfl
  ·rw[List.map_append];rfl
theorem Ij (b:Bool){m:Int}(h:1<=m)(pts:List (List Int)):jg b (fq m pts)=(jg b pts).map (kh (bB b m)):=by
 unfold jg aD;rw[CD b h,jK];exact congrArg Prod.snd (wc _ _ (ce pts.length,[]))
theorem Ik (b:Bool){m:Int}(h:1<=m)(pts:List (List Int))(c:Int):eK b (fq m pts) (c*bB b m)=eK b pts c:=by
 unfold eK;rw[fA,uL b (by omega),fA,List.filterMap_map,List.filterMap_map,List.filterMap_map]
 refine dM λt _=>?_;show jb _ (dg (kh _ t))=jb _ (dg t);rw[eJ,eJ];have:=uM (x:=t.1) (y:=c) (fJ (b:=b) h);show (if decide (t.1*bB b m<=c*bB b m)=true then some (D.tup [.int (t.2.1:Nat),.int (t.2.2:Nat)]) else none)=_
 by_cases l:t.1<=c
 ·rw[if_pos (decide_eq_true (this.mpr l)),if_pos (decide_eq_true l)]
 ·rw[if_neg (by rw[decide_eq_false λz=>l (this.mp z)];decide),if_neg (by rw[decide_eq_false l];decide)]
def gd (o:Option Tr):D:=(o.map dg).getD .non
theorem CF {c:Int}(h:0 < c):∀ (ts:List Tr) (o:Option Tr),∃ o':Option Tr,(ts.map dg).foldl mB (gd o)=gd o'/\((ts.map (kh c)).map dg).foldl mB (gd (o.map (kh c)))=gd (o'.map (kh c))
 | [],o=>⟨o,rfl,rfl⟩
 | t::ts,o=>by
  rw[List.map_cons,List.map_cons,List.map_cons,List.foldl_cons,List.foldl_cons];cases o with
  | none=>exact CF h ts (some t)
  | some u =>
   have e1:mB (gd (some u)) (dg t)=gd (some (if u.1 < t.1 then t else u)):=by
    show (if decide (u.1 < t.1)=true then dg t else dg u)=dg _
    by_cases l:u.1 < t.1
    ·rw[if_pos (decide_eq_true l),if_pos l]
    ·rw[if_neg (by rw[decide_eq_false l];decide),if_neg l]
   have e2:mB (gd ((some u).map (kh c))) (dg (kh c t))=gd ((some (if u.1 < t.1 then t else u)).map (kh c)):=by
    show (if decide (u.1*c < t.1*c)=true then dg (kh c t) else dg (kh c u))=dg (kh c _)
    by_cases l:u.1 < t.1
    ·rw[if_pos (decide_eq_true ((qt h).mpr l)),if_pos l]
    ·rw[if_neg (by rw[decide_eq_false λz=>l ((qt h).mp z)];decide),if_neg l]
   rw[e1,e2];exact CF h ts _
theorem IV (b:Bool){m:Int}(h:1<=m)(pts:List (List Int)):∃ o:Option Tr,Vg (aV b pts)=gd o/\Vg (aV b (fq m pts))=gd (o.map (kh (bB b m))):=by
 obtain⟨o,e1,e2⟩:=CF (fJ (b:=b) h) (yh b pts) none;refine⟨o,?_,?_⟩
 ·rw[fA];exact e1
 ·rw[fA,uL b (by omega)];exact e2
theorem CG (b:Bool)(pts:List (List Int)):kx b pts=gd (nV b pts).head?:=by
 unfold kx;rw[eI (eW b pts),jF];cases nV b pts<;>rfl
def Xm (o:Option Tr):Option Int:=match o with
 | some t=>if t.1 < 1 then none else some t.1
 | none=>none
def mW (o:Option Int):D:=(o.map D.int).getD .non
theorem wd (o:Option Tr):fW (gd o)=mW (Xm o):=by
 cases o with
 | none=>rfl
 | some t =>
  show (if t.1 < 1 then D.non else D.int t.1)=mW (if t.1 < 1 then none else some t.1)
  split<;>rfl
theorem sx (b:Bool){m:Int}(h:1<=m)(pts:List (List Int)):∃ o:Option Int,fW (kx b pts)=mW o/\fW (kx b (fq m pts))=mW (o.map (·*bB b m)):=by
 refine⟨Xm (nV b pts).head?,by rw[CG,wd],?_⟩
 rw[CG,wd,CD b h];cases nV b pts with
 | nil=>rfl
 | cons t r =>
  show mW (if t.1*bB b m < 1 then none else some (t.1*bB b m))=mW ((if t.1 < 1 then none else some t.1).map _)
  have hc:=fJ (b:=b) h
  by_cases l:t.1 < 1
  ·have:=(uM (x:=t.1) (y:=0) hc).mpr (by omega)
   rw[if_pos l,if_pos (by omega)];rfl
  ·have:=(uM (x:=1) (y:=t.1) hc).mpr (by omega)
   rw[if_neg l,if_neg (by omega)];rfl

def CH:jV:=λxs ds Q=>dZ xs/\∃ n:Nat,ds=[.int n]/\1<=n/\n<=3/\∀ (by':List Int) ys,by'.length=n->(∀ v∈by',kc v)->dZ ys->Q (.sh (ptD by')) ys
theorem qu {n:Nat}:∀ (ds:List D),ds.length=n->(∀ d∈ds,∃ v,d=.int v/\kc v)->∃ l:List Int,.tup ds=ptD l/\l.length=n/\∀ v∈l,kc v
 | [],h,_=>⟨[],rfl,h,λ_ h=>by cases h⟩
 | d::ds,h,hd=>by
  obtain⟨v,rfl,hv⟩:=hd _ (.head _);obtain⟨l,e,hl,hf⟩:=qu (n:=n - 1) ds (by rw[List.length_cons] at h;omega) λx hx=>hd x (.tail _ hx)
  rw[List.length_cons] at h;refine⟨v::l,?_,by rw[List.length_cons];omega,λw hw=>?_⟩
  ·have e:D.tup ds=D.tup (l.map D.int):=e
   show D.tup (.int v::ds)=D.tup (.int v::l.map D.int);cases e;rfl
  ·rcases List.mem_cons.mp hw with rfl|hw
   ·exact hv
   ·exact hf w hw
theorem we (n:Nat)(v:Int):D.tup (List.replicate n [D.int v]).flatten=ptD (List.replicate n v):=by
 show _=D.tup ((List.replicate n v).map D.int);congr 1
 induction n with
 | zero=>rfl
 | succ n ih=>rw[List.replicate_succ,List.replicate_succ,List.flatten_cons,List.map_cons,ih];rfl
theorem p_by (xs ds:List D)(Q:B->List D->Prop)(h:CH xs ds Q):BL fV { nx:=ud Q (.sh .non),rt:=λb σ=>ud Q b σ } (startIo BK.length xs ds):=by
 obtain⟨r0,n,rfl,h1,h3,h⟩:=h;unfold BL;simp only[startIo];refine ah λN hN=>?_;walk_at "vx";refine⟨⟨_,rfl⟩,r0,4,rfl,by decide,by decide,λkind ys k0 k1 r1=>?_⟩
 walk_at "vx";subst hN;refine ah λN hN=>?_;walk_at "vx";rw[Int.toNat_natCast,cn,we];refine⟨by decide,⟨by simp,by omega,by omega,by rw[sz];omega⟩,by omega,nF (λi:Nat=>.int (0+(i:Nat))) (λd=>∃ v,d=.int v/\kc v) dZ _ (λv hv z rz A Z hz ha=>?_) (by rw[List.length_range,sz];omega) r1 (λds ys2 hl1 hd1 r2=>?_)⟩
 ·walk_at "vg"
  walk_at "vx";refine⟨⟨_,rfl⟩,rz,21,rfl,by decide,by decide,λr ys r0 r1 ry=>?_⟩
  walk_at "vx";refine⟨hz,ha _ _ ⟨_,rfl,?_⟩ ry⟩;unfold kc;omega
 rw[List.length_range] at hl1;obtain⟨l1,e1,hl1,hf1⟩:=qu ds hl1 hd1;rw[e1];refine⟨by decide,?_⟩
 subst hN;refine ah λN hN=>?_;walk_at "vx";rw[Int.toNat_natCast,cn];refine⟨⟨_,rfl⟩,by omega,nF (λi:Nat=>.int (0+(i:Nat))) (λd=>∃ v,d=.int v/\kc v) dZ _ (λv hv z rz A Z hz ha=>?_) (by rw[List.length_range,sz];omega) r2 (λds ys3 hl2 hd2 r3=>?_)⟩
 ·walk_at "vg"
  walk_at "vx";have e1:(10:Int)^(15:Int).toNat=1000000000000000:=by decide
  rw[e1];refine⟨⟨_,rfl⟩,by unfold ki;decide,by unfold CMul;decide,rz,_,rfl,by decide,by decide,λr ys r0 r1 ry=>?_⟩
  walk_at "vx";refine⟨by unfold ki;decide,hz,ha _ _ ⟨_,rfl,?_⟩ ry⟩
  unfold kc;omega
 rw[List.length_range] at hl2;obtain⟨l2,e2,hl2,hf2⟩:=qu ds hl2 hd2;rw[e2];refine⟨by decide,?_⟩
 subst hN;walk_at "vx";rw[Int.toNat_natCast,we];refine⟨by unfold ki;decide,by decide,⟨by simp,by omega,by omega,by rw[sz];omega⟩,by decide,by decide,dc k0 (by simp only[List.length_cons,List.length_nil];omega) λd hd=>?_⟩
 have e1:(10:Int)^(15:Int).toNat=1000000000000000:=by decide
 rw[e1] at hd;have rp:∀ w:Int,kc w->Q (.sh (ptD (List.replicate n w))) ys3:=λw hw=>h _ ys3 List.length_replicate (λv hv=>by rw[List.eq_of_mem_replicate hv];exact hw) r3
 simp only[List.mem_cons,List.not_mem_nil,or_false] at hd;rcases hd with rfl|rfl|rfl|rfl
 ·exact rp 0 (by unfold kc;omega)
 ·exact h l1 ys3 hl1 hf1 r3
 ·exact h l2 ys3 hl2 hf2 r3
 ·exact rp _ (by unfold kc;omega)
def qv:aQ:=λds Q=>∃ b n pts c,ds=[bv pts,cj b,.int c]/\Good n pts/\pts.length<=900/\0<=c/\Q (.own (og b pts c))
theorem NB (ds:List D)(Q:B->Prop)(h:qv ds Q):BN eL uu jc jH kI vQ vU uC qm { nx:=λ_=>Q (.sh .non),rt:=λb _=>Q b } (aJ BM.length ds):=by
 obtain⟨b,n,pts,c,rfl,hg,hl,hc,h⟩:=h;have hl':pts.length<=1000:=by omega
 unfold BN;refine ah λN hN=>?_;walk_at "vx";refine⟨b,n,pts,rfl,hg,hl',?_⟩;walk_at "vx";refine⟨b,n,pts,rfl,hg,hl',?_⟩;walk_at "vx";refine⟨b,n,pts,c,rfl,hg,hl',hc,?_⟩;walk_at "vx";refine⟨by decide,?_⟩
 subst hN;refine ah λN hN=>?_;walk_at "vx";refine⟨b,n,pts,c,rfl,hg,hl',hc,?_⟩;walk_at "vx";refine⟨b,n,pts,rfl,hg,hl',λl hi _ _=>?_⟩;obtain rfl:=ql hi;walk_at "vx";refine⟨b,n,pts,rfl,hg,hl',?_⟩;walk_at "vx";refine⟨by decide,by decide,?_⟩
 subst hN;walk_at "vx";refine⟨b,n,pts,rfl,hg,hl',?_⟩;walk_at "vx";refine⟨b,n,pts,rfl,hg,hl',?_⟩;walk_at "vx";refine⟨b,n,pts,rfl,hg,hl',?_⟩;walk_at "vx";refine⟨by decide,by decide,?_⟩
 exact h
def uN:aQ:=λds Q=>∃ b n pts m,ds=[bv pts,bv (fq m pts),cj b,.int (bB b m)]/\Good n pts/\Good n (fq m pts)/\pts.length<=900/\1<=m/\m<=1000/\Q (.sh (.bl true))
theorem Xn (ds:List D)(Q:B->Prop)(h:uN ds Q):BT vU vQ { nx:=λ_=>Q (.sh .non),rt:=λb _=>Q b } (aJ BS.length ds):=by
 obtain⟨b,n,pts,m,rfl,hg,hg2,hl,m1,m2,h⟩:=h;have hl':pts.length<=1000:=by omega
 have hl2:(fq m pts).length<=1000:=by rw[jK];omega
 obtain⟨o,e1,e2⟩:=IV b m1 pts;obtain⟨o',e3,e4⟩:=sx b m1 pts;unfold BT;refine ah λN hN=>?_;walk_at "vx";refine⟨b,n,pts,rfl,hg,hl',?_⟩;rw[e1];walk_at "vx";subst hN;refine ah λN hN=>?_;walk_at "vx";refine⟨b,n,pts,rfl,hg,hl',?_⟩;rw[e3];walk_at "vx";subst hN;refine ah λN hN=>?_;have cm:∀ f:Int,CMul f (bB b m):=λf=>by
  unfold CMul bB;right
  split
  ·have:=Int.mul_le_mul m2 m2 (by omega) (by decide)
   have:=Int.mul_pos (show 0 < m by omega) (show 0 < m by omega)
   omega
  ·omega
 have go:N [some (.sh (bv pts)),some (.sh (bv (fq m pts))),some (.sh (cj b)),some (.sh (.int (bB b m))),some (.sh (gd (o.map (kh (bB b m))))),some (.sh (mW o'))]:=by
  subst hN;refine ah λN hN=>?_;have go2:N [some (.sh (bv pts)),some (.sh (bv (fq m pts))),some (.sh (cj b)),some (.sh (.int (bB b m))),some (.sh (gd (o.map (kh (bB b m))))),some (.sh (mW (o'.map (·*bB b m))))]:=by
   subst hN;have ok1:bP 8 (gd (o.map (kh (bB b m))))=true:=by cases o<;>rfl
   have ok2:bP 8 (mW (o'.map (·*bB b m)))=true:=by cases o'<;>rfl
   walk_at "vx";refine⟨b,n,fq m pts,rfl,hg2,hl2,?_⟩;rw[e2];walk_at "vx";refine⟨⟨ok1,ok1⟩,?_⟩;rw[bM 8 _ ok1];refine (if_pos rfl).mpr ?_;refine⟨b,n,fq m pts,rfl,hg2,hl2,?_⟩;rw[e4];walk_at "vx";refine⟨⟨ok2,ok2⟩,?_⟩;rw[bM 8 _ ok2];exact h
  cases o' with
  | none =>
   walk_at "vx";exact (if_neg (by decide)).mpr go2
  | some f =>
   rw[show mW (some f)=.int f from rfl]
   walk_at "vx";exact⟨cm f,go2⟩
 cases o with
 | none =>
  walk_at "vx";exact (if_neg (by decide)).mpr go
 | some t =>
  rw[show gd (some t)=.tup [.int t.1,.int (t.2.1:Nat),.int (t.2.2:Nat)] from rfl]
  walk_at "vx";refine dE (n:=0) rfl rfl ?_;walk_at "vx";refine⟨cm _,?_⟩;refine dE (n:=1) rfl rfl ?_;refine dE (n:=2) rfl rfl ?_;exact⟨by decide,go⟩
def uO:aQ:=λds Q=>∃ b n pts m c,ds=[bv pts,cj b,.int c,.int m]/\Good n pts/\(∀ p∈pts,∀ v∈p,kc v)/\pts.length<=900/\1<=m/\m<=100/\0<=c/\Q (.sh (.bl true))
theorem wf {n:Nat}{pts:List (List Int)}{m:Int}(g:Good n pts)(hf:∀ p∈pts,∀ v∈p,kc v)(m1:1<=m)(m2:m<=100):Good n (fq m pts):=⟨g.1,λp hp=>by
 obtain⟨q,hq,rfl⟩:=List.mem_map.mp hp;refine⟨by unfold vV;rw[List.length_map];exact (g.2 q hq).1,λx hx=>?_⟩
 obtain⟨v,hv,rfl⟩:=List.mem_map.mp hx;have f:=hf q hq v hv;unfold kc at f;have a1:=Int.mul_le_mul_of_nonneg_right f.1 (show 0<=m by omega)
 have a2:=Int.mul_le_mul_of_nonneg_right f.2 (show 0<=m by omega)
 show -(2^59) < v*m/\v*m < 2^59;omega⟩
theorem Xo (k m:Int)(pts:List (List Int)):fq k (fq m pts)=fq (m*k) pts:=by
 unfold fq;rw[List.map_map];refine List.map_congr_left λp _=>?_;unfold vV;show (p.map _).map _=_;rw[List.map_map];exact List.map_congr_left λx _=>Int.mul_assoc x m k
theorem Xp (ds:List D)(Q:B->Prop)(h:uO ds Q):Nc Cs eL uN jc kI { nx:=λ_=>Q (.sh .non),rt:=λb _=>Q b } (aJ Nb.length ds):=by
 obtain⟨b,n,pts,m,c,rfl,hg,hf,hl,m1,m2,hc,h⟩:=h;have hl':pts.length<=1000:=by omega
 have hg2:=wf hg hf m1 m2;have hl2:(fq m pts).length<=1000:=by rw[jK];omega
 have mp:=fJ (b:=b) m1;unfold Nc;rw[show bv pts=.lst (pts.map ptD) from rfl]
 refine ah λN hN=>?_;walk_at "vx";rw[show (Str.ofString "squares")="squares" from rfl,jZ]
 have cm:∀ f:Int,CMul f (bB b m):=λf=>by
  unfold CMul bB;right
  split
  ·have:=Int.mul_le_mul m2 m2 (by omega) (by decide)
   have:=Int.mul_pos (show 0 < m by omega) (show 0 < m by omega)
   omega
  ·omega
 refine⟨by unfold CMul;left;omega,by decide,⟨qb b,ml⟩,?_⟩
 have hix:∀ P:D->Prop,P (.int (bB b m))->GO (D.lst [D.int m,D.int (m*m)]) (D.int (if b=true then 1 else 0)) P:=λP hP=>by
  cases b with
  | false=>exact bg (n:=0) rfl rfl hP
  | true=>exact bg (n:=1) rfl rfl hP
 refine hix _ ?_;subst hN
 -- great
 refine ah λN hN=>?_;walk_at "vx";refine⟨n,pts,m,rfl,hg,m1,hl',?_⟩;walk_at "vx";subst hN
 -- pairs
 refine ah λN hN=>?_;walk_at "vx";refine⟨b,n,pts,rfl,hg,hl',?_⟩;walk_at "vx";rw[jF];have scc:∀ (l:List Tr) (R:List D->Prop),l.length<=1000000->R ((l.map (kh (bB b m))).map dg)->eE (tZ 3 (gC (cO 0) (gC (cO 1) (gC (cO 2) tY)))) bF (ag [] (qL (aA (ag [] (aL (aU dB (aa 0) (aa 3)))) (aA (ag [] (aa 1)) (aA (ag [] (aa 2)) tN))))) [none,none,none,some (.sh (.int (bB b m)))] (l.map dg) [] R:=λl R hl hR=>by
  refine bn dg (λt=>dg (kh (bB b m) t)) _ (λt _ A ha=>?_) (by rw[sz];omega) ?_
  ·unfold dg
   walk_at "vg";walk_at "vx";exact⟨cm _,by decide,ha⟩
  ·rw[List.map_map] at hR
   exact hR
 have lS:(nV b pts).length<=1000000:=by unfold nV;rw[List.length_map,(bD _).length_eq];exact mn hl'
 refine scc _ _ lS ?_;subst hN
 -- all pairs,the farthest
 refine ah λN hN=>?_;walk_at "vx";refine⟨b,n,fq m pts,rfl,hg2,hl2,?_⟩;walk_at "vx";rw[vZ b m1];refine⟨⟨jJ _,jJ _⟩,?_⟩;rw[bM 8 _ (jJ _)];refine (if_neg (by decide)).mpr ?_
 refine⟨b,n,pts,m,rfl,hg,hg2,hl,m1,by omega,?_⟩
 walk_at "vx";refine (if_neg (by decide)).mpr ?_
 subst hN
 -- near pairs
 refine ah λN hN=>?_;walk_at "vx";refine⟨cm c,b,n,fq m pts,c*bB b m,rfl,hg2,hl2,Int.mul_nonneg hc (by omega),?_⟩
 walk_at "vx";refine⟨b,n,pts,c,rfl,hg,hl',hc,?_⟩;walk_at "vx";rw[Ik b m1];have okn:bP 8 (.lst (eK b pts c))=true:=List.all_eq_true.mpr λd hd=>by
  unfold eK at hd;rw[fA,List.filterMap_map] at hd;obtain⟨t,_,e⟩:=List.mem_filterMap.mp hd;have e:jb c (dg t)=some d:=e;rw[eJ] at e
  split at e
  ·cases e;rfl
  ·cases e
 refine⟨⟨okn,okn⟩,?_⟩;rw[bM 8 _ okn];refine (if_neg (by decide)).mpr ?_
 subst hN
 -- tree
 refine ah λN hN=>?_;walk_at "vx";refine⟨b,n,pts,rfl,hg,hl',λl hi _ _=>?_⟩;obtain rfl:=ql hi;walk_at "vx";refine scc _ _ (by have:=uB (b:=b) hl';omega) ?_
 subst hN
 -- half
 refine ah λN hN=>?_;walk_at "vx";refine⟨⟨by decide,by decide⟩,?_⟩
 subst hN;walk_at "vx";refine⟨b,n,fq m pts,rfl,hg2,hl2,λl hi _ _=>?_⟩;obtain rfl:=ql hi;walk_at "vx";rw[Ij b m1];refine⟨⟨jJ _,jJ _⟩,?_⟩;rw[bM 8 _ (jJ _)];refine (if_pos rfl).mpr ?_;refine⟨n,pts,2,rfl,hg,by decide,hl',?_⟩
 walk_at "vx";have h1:1<=1+m / 2:=by omega
 have h2:2*(1+m / 2)<=102:=by omega
 refine⟨n,fq 2 pts,1+m / 2,rfl,wf hg hf (by decide) (by decide),h1,by rw[jK];omega,?_⟩
 walk_at "vx";refine⟨by unfold CMul;left;decide,n,pts,2*(1+m / 2),rfl,hg,by omega,hl',?_⟩
 walk_at "vx";rw[show (fq 2 pts).map (vV (1+m / 2))=pts.map (vV (2*(1+m / 2))) from Xo _ _ _]
 refine⟨⟨dD _,dD _⟩,?_⟩;rw[bM 8 _ (dD _)];exact h

def yb (p:List Int):List Int:=p.map λx=>0 - x
theorem IW:∀ by' p:List Int,p.length<=by'.length->eX (yb by') (eX by' p)=p
 | _,[],_=>rfl
 | [],_::_,h=>by simp at h
 | s::r,x::p,h=>by
  show (x+s+(0 - s))::eX (yb r) (eX r p)=x::p;rw[IW r p (by simpa using h),show x+s+(0 - s)=x by omega]
theorem IX:∀ nr by' p:List Int,p.length<=by'.length->by'.length=nr.length->eX nr (eX by' p)=eX (eX nr by') p
 | _,_,[],_,_=>rfl
 | _,[],_::_,h,_=>by simp at h
 | [],_::_,_::_,_,h=>by simp at h
 | t::q,s::r,x::p,h,h2=>by
  show (x+s+t)::eX q (eX r p)=(x+(s+t))::eX (eX q r) p;rw[IX q r p (by simpa using h) (by simpa using h2),Int.add_assoc]
theorem IY:∀ (k:Nat) (p:List Int),jI k (jI k p)=p
 | _,[]=>rfl
 | 0,x::p=>by
  show (- -x)::p=x::p;rw[Int.neg_neg]
 | k+1,x::p=>by
  show x::jI k (jI k p)=x::p;rw[IY k p]
theorem Xq {i j n:Nat}{p:List Int}(hp:p.length=n)(hn:n<=3)(hi:i < n)(hj:j < n):kA j i (kA i j p)=p:=by
 subst hp;rcases Cz p rfl hn with rfl|⟨x,rfl⟩|⟨x,y,rfl⟩|⟨x,y,z,rfl⟩
 ·rfl
 ·have:i=0:=by simp at hi;omega
  have:j=0:=by simp at hj;omega
  subst_vars;rfl
 ·have i2:i=0\/i=1:=by simp at hi;omega
  have j2:j=0\/j=1:=by simp at hj;omega
  rcases i2 with rfl|rfl<;>rcases j2 with rfl|rfl<;>rfl
 ·have i2:i=0\/i=1\/i=2:=by simp at hi;omega
  have j2:j=0\/j=1\/j=2:=by simp at hj;omega
  rcases i2 with rfl|rfl|rfl<;>rcases j2 with rfl|rfl|rfl<;>rfl
theorem Xr {i j n:Nat}{p:List Int}(hp:p.length=n)(hn:n<=3)(hi:i < n)(hj:j < n):kA i j (jI i p)=jI j (kA i j p):=by
 subst hp;rcases Cz p rfl hn with rfl|⟨x,rfl⟩|⟨x,y,rfl⟩|⟨x,y,z,rfl⟩
 ·rfl
 ·have:i=0:=by simp at hi;omega
  have:j=0:=by simp at hj;omega
  subst_vars;rfl
 ·have i2:i=0\/i=1:=by simp at hi;omega
  have j2:j=0\/j=1:=by simp at hj;omega
  rcases i2 with rfl|rfl<;>rcases j2 with rfl|rfl<;>rfl
 ·have i2:i=0\/i=1\/i=2:=by simp at hi;omega
  have j2:j=0\/j=1\/j=2:=by simp at hj;omega
  rcases i2 with rfl|rfl|rfl<;>rcases j2 with rfl|rfl|rfl<;>rfl
def yc (l:List Int):Prop:=∀ v∈l,kc v
theorem NC {by' p:List Int}{v:Int}(h:v∈eX by' p):∃ x∈p,∃ y∈by',v=x+y:=by
 obtain⟨⟨x,y⟩,hxy,rfl⟩:=List.mem_map.mp h;exact⟨x,(List.of_mem_zip hxy).1,y,(List.of_mem_zip hxy).2,rfl⟩
theorem wg {n:Nat}{pts:List (List Int)}{by':List Int}(g:Good n pts)(hf:∀ p∈pts,yc p)(hb:by'.length=n)(hb2:yc by'):Good n (gu by' pts):=⟨g.1,λp hp=>by
 obtain⟨q,hq,rfl⟩:=List.mem_map.mp hp;refine⟨by rw[uK (by rw[(g.2 q hq).1,hb]),hb],λv hv=>?_⟩
 obtain⟨x,hx,y,hy,rfl⟩:=NC hv;have:=hf q hq x hx;have:=hb2 y hy;unfold kc at *;omega⟩
theorem qw {n:Nat}{pts:List (List Int)}(g:Good n pts)(k:Nat):Good n (pts.map (jI k)):=⟨g.1,λp hp=>by
 obtain⟨q,hq,rfl⟩:=List.mem_map.mp hp;have gq:=g.2 q hq;refine⟨by unfold jI;rw[List.length_set];exact gq.1,λv hv=>?_⟩
 unfold jI at hv;rcases List.mem_or_eq_of_mem_set hv with hv|rfl
 ·exact gq.2 v hv
 ·rw[List.getD_eq_getElem?_getD]
  cases e:q[k]? with
  | none=>simp
  | some w=>have:=gq.2 w (List.mem_of_getElem? e);simp;omega⟩
theorem wj {q:List Int}{k:Nat}(h:k < q.length):q.getD k 0∈q:=by
 rw[List.getD_eq_getElem?_getD,List.getElem?_eq_getElem h];exact List.getElem_mem h
theorem qx {n:Nat}{pts:List (List Int)}(g:Good n pts){i j:Nat}(hi:i < n)(hj:j < n):Good n (pts.map (kA i j)):=⟨g.1,λp hp=>by
 obtain⟨q,hq,rfl⟩:=List.mem_map.mp hp;have gq:=g.2 q hq;refine⟨by unfold kA;rw[List.length_set,List.length_set];exact gq.1,λv hv=>?_⟩
 unfold kA at hv;rcases List.mem_or_eq_of_mem_set hv with hv|rfl
 ·rcases List.mem_or_eq_of_mem_set hv with hv|rfl
  ·exact gq.2 v hv
  ·exact gq.2 _ (wj (by omega))
 ·exact gq.2 _ (wj (by omega))⟩
theorem mD {f:List Int->List Int}{pts:List (List Int)}(h:∀ p∈pts,f p=p):pts.map f=pts:=(List.map_congr_left h).trans (List.map_id pts)
def mE:aQ:=λds Q=>∃ n pts by' nr i j,ds=[bv pts,ptD by',ptD nr,.int (i:Nat),.int (j:Nat)]/\Good n pts/\(∀ p∈pts,yc p)/\pts.length<=900/\by'.length=n/\yc by'/\nr.length=n/\i < n/\j < n/\Q (.sh (.bl true))
theorem Il (ds:List D)(Q:B->Prop)(h:mE ds Q):Nf ss vW vX Cv { nx:=λ_=>Q (.sh .non),rt:=λb _=>Q b } (aJ Nd.length ds):=by
 obtain⟨n,pts,by',nr,i,j,rfl,hg,hf,hl,hb,hb2,hn,hi,hj,h⟩:=h
 have hl':pts.length<=1000:=by omega
 have n3:=hg.1.2;have ln:∀ p∈pts,p.length=n:=λp hp=>(hg.2 p hp).1;have hgm:=wg hg hf hb hb2;have lm:(gu by' pts).length<=1000:=by unfold gu;rw[List.length_map];exact hl'
 have lng:(yb by').length=n:=by unfold yb;rw[List.length_map,hb]
 have bk:gu (yb by') (gu by' pts)=pts:=by
  unfold gu;rw[List.map_map];exact mD λp hp=>IW by' p (by rw[ln p hp,hb];exact Nat.le_refl _)
 have bo:gu nr (gu by' pts)=gu (eX nr by') pts:=by
  unfold gu;rw[List.map_map];exact List.map_congr_left λp hp=>IX nr by' p (by rw[ln p hp,hb];exact Nat.le_refl _) (by omega)
 unfold Nf;rw[show bv pts=.lst (pts.map ptD) from rfl,show ptD by'=.tup (by'.map D.int) from rfl,show ptD nr=.tup (nr.map D.int) from rfl]
 refine ah λN hN=>?_;walk_at "vx";refine bn D.int (λx:Int=>D.int (0 - x)) _ (λx hx A ha=>?_) (by rw[sz];omega) ?_
 ·walk_at "vx"
  exact ha
 rw[show D.tup (by'.map λx:Int=>D.int (0 - x))=ptD (yb by') by show _=D.tup ((yb by').map D.int);unfold yb;rw[List.map_map];rfl]
 walk_at "vx";subst hN;refine ah λN hN=>?_;walk_at "vx";rw[gW];refine bn (λp=>.tup [.int p.1,.int p.2]) (λxy:Int×Int=>D.int (xy.1+xy.2)) _ (λxy hxy A ha=>?_) (by rw[sz,List.length_zip];omega) ?_
 ·walk_at "vx"
  exact ha
 rw[show D.tup ((by'.zip nr).map λxy:Int×Int=>D.int (xy.1+xy.2))=ptD (eX nr by') by show _=D.tup ((eX nr by').map D.int);unfold eX;rw[List.map_map];rfl]
 rw[show D.tup (by'.map D.int)=ptD by' from rfl,show D.tup (nr.map D.int)=ptD nr from rfl]
 subst hN
 -- there
 refine ah λN hN=>?_;walk_at "vx";refine⟨n,pts,by',rfl,hg,hb,hl',?_⟩
 walk_at "vx";subst hN;refine ah λN hN=>?_;walk_at "vx";have okp:∀ l:List (List Int),bP 8 (.lst (l.map ptD))=true:=dD;have same:∀ l:List (List Int),jm (.lst (l.map ptD)) (.lst (l.map ptD))=true:=λl=>bM 8 _ (dD l);have okq:∀ p:List Int,bP 8 (ptD p)=true:=λp=>List.all_eq_true.mpr λx hx=>by
  obtain⟨k,_,rfl⟩:=List.mem_map.mp hx;rfl
 refine⟨n,gu by' pts,yb by',rfl,hgm,lng,lm,?_⟩
 walk_at "vx";rw[bk,same];refine⟨⟨okp _,okp _⟩,(if_neg (by decide)).mpr ?_⟩
 refine⟨n,gu by' pts,nr,rfl,hgm,hn,lm,?_⟩
 walk_at "vx";refine⟨n,pts,eX nr by',rfl,hg,by rw[uK (by omega),hn],hl',?_⟩
 walk_at "vx";rw[bo,same];refine⟨⟨okp _,okp _⟩,(if_neg (by decide)).mpr ?_⟩
 subst hN;refine ah λN hN=>?_;walk_at "vx";refine⟨by decide,⟨okp _,rfl⟩,?_⟩
 by_cases hp:pts=[]
 ·subst hp
  exact (if_pos rfl).mpr h
 refine (if_neg (by cases pts with|nil=>exact absurd rfl hp|cons=>exact λz=>by cases z)).mpr ?_
 subst hN;have ne1:∀ f:List Int->List Int,pts.map f≠[]:=λf=>by simpa using hp
 -- mirrored twice
 refine ah λN hN=>?_;walk_at "vx";refine⟨n,pts,i,rfl,hg,hp,hi,hl',?_⟩;walk_at "vx";refine⟨n,pts.map (jI i),i,rfl,qw hg i,ne1 _,hi,by rw[List.length_map];exact hl',?_⟩
 walk_at "vx";rw[show (pts.map (jI i)).map (jI i)=pts by rw[List.map_map];exact mD λp _=>IY i p,same]
 refine⟨⟨okp _,okp _⟩,(if_neg (by decide)).mpr ?_⟩
 subst hN
 -- exchanged twice
 refine ah λN hN=>?_;walk_at "vx";refine⟨n,pts,i,j,rfl,hg,hp,hi,hj,hl',?_⟩;walk_at "vx";refine⟨n,pts.map (kA i j),j,i,rfl,qx hg hi hj,ne1 _,hj,hi,by rw[List.length_map];exact hl',?_⟩
 walk_at "vx";rw[show (pts.map (kA i j)).map (kA j i)=pts by rw[List.map_map];exact mD λp hp=>Xq (ln p hp) n3 hi hj,same]
 refine⟨⟨okp _,okp _⟩,(if_neg (by decide)).mpr ?_⟩
 subst hN
 -- moved by
 refine ah λN hN=>?_;walk_at "vx";refine⟨n,pts,by',rfl,hg,hb,hl',?_⟩
 walk_at "vx";refine⟨n,pts,gu by' pts,by',rfl,hg,hgm.shape,hb,hp,hl',List.Perm.refl _,?_⟩
 walk_at "vx";rw[bM 8 _ (okq by')]
 refine⟨⟨okq _,okq _⟩,(if_neg (by decide)).mpr ?_⟩
 refine⟨n,pts,by',rfl,hg,hb,hl',?_⟩
 walk_at "vx";rw[<- List.map_reverse];have gr:Good n (gu by' pts).reverse:=⟨hgm.1,λp hp=>hgm.2 p (List.mem_reverse.mp hp)⟩
 refine⟨n,(gu by' pts).reverse,pts,yb by',rfl,gr,hg.shape,lng,λz=>ne1 _ (List.reverse_eq_nil_iff.mp z),by rw[List.length_reverse];exact lm,?_,?_⟩
 ·have:(gu (yb by') (gu by' pts).reverse).Perm (gu (yb by') (gu by' pts)):=(List.reverse_perm _).map _
  rw[bk] at this;exact this.symm
 walk_at "vx";rw[bM 8 _ (okq (yb by'))]
 refine⟨⟨okq _,okq _⟩,(if_neg (by decide)).mpr ?_⟩
 subst hN
 -- turned
 refine ah λN hN=>?_;walk_at "vx";refine⟨n,pts,i,rfl,hg,hp,hi,hl',?_⟩;walk_at "vx";refine⟨n,pts.map (jI i),i,j,rfl,qw hg i,ne1 _,hi,hj,by rw[List.length_map];exact hl',?_⟩
 walk_at "vx";subst hN;walk_at "vx";refine⟨n,pts,i,j,rfl,hg,hp,hi,hj,hl',?_⟩;walk_at "vx";refine⟨n,pts.map (kA i j),j,rfl,qx hg hi hj,ne1 _,hj,by rw[List.length_map];exact hl',?_⟩
 walk_at "vx";rw[show (pts.map (jI i)).map (kA i j)=(pts.map (kA i j)).map (jI j) by rw[List.map_map,List.map_map];exact List.map_congr_left λp hp=>Xr (ln p hp) n3 hi hj,same]
 exact⟨⟨okp _,okp _⟩,h⟩

def CI:aQ:=λds Q=>∃ (ns:List Int),ds=[.scr ns]/\ns.length<=63/\Q (.sh (.bl true))
theorem qy (b:Bool)(pts:List (List Int))(c:Int):bP 8 (.lst (og b pts c))=true:=by
 have ot:∀ l:List Tr,bP 7 (.lst (l.map dg))=true:=λl=>List.all_eq_true.mpr λd hd=>by
  obtain⟨t,_,rfl⟩:=List.mem_map.mp hd;rfl
 have o1:bP 7 (.lst (cc (aV b pts)))=true:=by rw[jF];exact ot _
 have o2:bP 7 (.lst (jD b pts))=true:=List.all_eq_true.mpr λd hd=>by
  obtain⟨j,_,rfl⟩:=List.mem_map.mp hd;unfold nP sd;have ai:((gH pts.length j).map (nO b pts (pts.getD j []))).all fk=true:=List.all_eq_true.mpr λd hd=>by
   obtain⟨k,_,rfl⟩:=List.mem_map.mp hd;rfl
  rw[eI ai];cases e:cc ((gH pts.length j).map (nO b pts (pts.getD j []))) with
  | nil=>rfl
  | cons a l =>
   have:a∈(gH pts.length j).map (nO b pts (pts.getD j [])):=(bD _).mem_iff.mp (by rw[e];exact .head _)
   obtain⟨k,_,rfl⟩:=List.mem_map.mp this;rfl
 have o3:bP 7 (.lst (eK b pts c))=true:=List.all_eq_true.mpr λd hd=>by
  unfold eK at hd;rw[fA,List.filterMap_map] at hd;obtain⟨t,_,e⟩:=List.mem_filterMap.mp hd;have e:jb c (dg t)=some d:=e;rw[eJ] at e
  split at e
  ·cases e;rfl
  ·cases e
 have o4:bP 7 (.lst (nX (kz b pts c) pts.length))=true:=List.all_eq_true.mpr λd hd=>by
  obtain⟨r,_,e⟩:=List.mem_filterMap.mp hd
  split at e
  ·cases e
   exact List.all_eq_true.mpr λx hx=>by
    obtain⟨k,_,rfl⟩:=List.mem_map.mp hx;rfl
  ·cases e
 obtain⟨o,e1,_⟩:=IV b (m:=1) (by decide) pts
 obtain⟨o',e3,_⟩:=sx b (m:=1) (by decide) pts
 have o6:bP 7 (fW (kx b pts))=true:=by rw[e3];cases o'<;>rfl
 have o7:bP 7 (Vg (aV b pts))=true:=by rw[e1];cases o<;>rfl
 have ol:∀ (f:Nat->Int) n,bP 7 (fG f n)=true:=λf n=>by unfold fG;split<;>rfl
 show ([_,_,_,_,_,_,_,_,_]:List D).all (bP 7)=true;simp only[List.all_cons,List.all_nil,o1,o2,o3,o4,o6,o7,ol,ot,Bool.and_true]
theorem sy {α β:Type}:∀ l:List α,l.filterMap (λ_=>(none:Option β))=[]
 | []=>rfl
 | x::l=>by rw[List.filterMap_cons_none rfl,sy l]
theorem ND {l:List Int}(h:yc l):yc (l.map (· / 3)):=λv hv=>by
 obtain⟨x,hx,rfl⟩:=List.mem_map.mp hv;have:=h x hx;unfold kc at *;show -(10^15)<=x / 3/\x / 3<=10^15;omega
theorem Xs (ds:List D)(Q:B->Prop)(h:CI ds Q):BW fV gG qe CH qv ss vW vX mE uO { nx:=λ_=>Q (.sh .non),rt:=λb _=>Q b } (aJ BV.length ds):=by
 obtain⟨ns,rfl,hns,h⟩:=h;unfold BW;refine ah λN hN=>?_;unfold vt;generalize ht:bA (cN [] 2 _) _=tb;walk_at "vx";refine⟨⟨cut ns none (some 2),by rw[rN],Nat.le_trans (vv _ _ _) hns⟩,λm=>rM (λσ=>∃ x1 x2 x3 x4 x5 x6 x7 x8 x9 x10 x11,σ=[some (.sh (.scr ns)),x1,x2,x3,x4,x5,x6,x7,x8,x9,x10,x11]) (λi c σ N' hI hN'=>?_) (λσ hI=>?_) m 0 _ ⟨_,_,_,_,_,_,_,_,_,_,_,rfl⟩⟩
 ·obtain⟨x1,x2,x3,x4,x5,x6,x7,x8,x9,x10,x11,rfl⟩:=hI
  subst ht;have r0:dZ [.int c,.int 0]:=⟨_,_,rfl⟩;unfold LN;simp only[List.set_cons_zero,List.set_cons_succ];refine ah λN1 hN1=>?_;walk_at "vx";refine⟨⟨_,rfl⟩,r0,3,rfl,by decide,by decide,λa1 y1 a10 a11 r1=>?_⟩
  walk_at "vx";obtain⟨n,hn1,hn3,rfl⟩:∃ n:Nat,1<=n/\n<=3/\a1=(n:Int) - 1:=⟨(1+a1).toNat,by omega,by omega,by omega⟩
  rw[show 1+((n:Int) - 1)=(n:Int) by omega]
  subst hN1
  -- points
  refine ah λN1 hN1=>?_;walk_at "vx";refine⟨⟨_,rfl⟩,r1,n,16,rfl,hn1,hn3,by decide,λpts y2 hg hf hl r2=>?_⟩
  walk_at "vx";subst hN1
  -- way
  refine ah λN1 hN1=>?_;walk_at "vx";refine⟨⟨_,rfl⟩,r2,rfl,λb y3 r3=>?_⟩;walk_at "vx";subst hN1
  -- by
  refine ah λN1 hN1=>?_;walk_at "vx";refine⟨⟨_,rfl⟩,r3,n,rfl,hn1,hn3,λby0 y4 lb fb r4=>?_⟩;rw[show ptD by0=.tup (by0.map D.int) from rfl]
  walk_at "vx";have third:∀ (l:List Int) (R:List D->Prop),l.length=n->R ((l.map (· / 3)).map D.int)->eE (cO 0) bF (ag [] (aL (aU (Lz rK λi j=>i / j) (aa 0) (aY (D.int 3))))) [none] (l.map D.int) [] R:=λl R hl hR=>by
   refine bn D.int (λx:Int=>D.int (x / 3)) _ (λx _ A ha=>?_) (by rw[sz];omega) ?_
   ·walk_at "vg"
    walk_at "vx";exact⟨⟨by decide,by decide⟩,ha⟩
   ·rw[List.map_map] at hR
    exact hR
  refine third _ _ lb ?_;rw[show D.tup ((by0.map (· / 3)).map D.int)=ptD (by0.map (· / 3)) from rfl]
  have hby:=ND fb;have lby:(by0.map (· / 3)).length=n:=by rw[List.length_map,lb]
  generalize by0.map (· / 3)=by' at hby lby
  subst hN1
  -- near
  refine ah λN1 hN1=>?_;walk_at "vx";refine⟨⟨_,rfl⟩,r4,n,rfl,hn1,hn3,λnr0 y5 ln fn r5=>?_⟩;rw[show ptD nr0=.tup (nr0.map D.int) from rfl]
  walk_at "vx";refine third _ _ ln ?_;rw[show D.tup ((nr0.map (· / 3)).map D.int)=ptD (nr0.map (· / 3)) from rfl]
  have lnr:(nr0.map (· / 3)).length=n:=by rw[List.length_map,ln]
  generalize nr0.map (· / 3)=nr at lnr
  subst hN1
  -- one,other
  refine ah λN1 hN1=>?_;walk_at "vx";refine⟨⟨_,rfl⟩,r5,n,rfl,by omega,by omega,λa2 y6 a20 a21 r6=>?_⟩
  walk_at "vx";obtain⟨i1,rfl⟩:=Int.eq_ofNat_of_zero_le a20;have hi1:i1 < n:=by omega
  subst hN1;refine ah λN1 hN1=>?_;walk_at "vx";refine⟨⟨_,rfl⟩,r6,n,rfl,by omega,by omega,λa3 y7 a30 a31 r7=>?_⟩
  walk_at "vx";obtain⟨i2,rfl⟩:=Int.eq_ofNat_of_zero_le a30;have hi2:i2 < n:=by omega
  subst hN1
  -- bound
  refine ah λN1 hN1=>?_;walk_at "vx";refine⟨⟨_,rfl⟩,r7,50,rfl,by decide,by decide,λa4 y8 a40 a41 r8=>?_⟩
  walk_at "vx";refine⟨by unfold ki;decide,by unfold ki;decide,by decide,⟨_,rfl⟩,r8,4,rfl,by decide,by decide,λa5 y9 a50 a51 r9=>?_⟩
  walk_at "vx";refine dc a50 (by simp only[List.length_cons,List.length_nil];omega) λd hd=>?_
  obtain⟨c,rfl,hc⟩:∃ c:Int,d=.int c/\0<=c:=by
   simp only[List.mem_cons,List.not_mem_nil,or_false] at hd;rcases hd with rfl|rfl|rfl|rfl
   ·exact⟨_,rfl,by decide⟩
   ·exact⟨_,rfl,a40⟩
   ·exact⟨_,rfl,by decide⟩
   ·exact⟨_,rfl,by decide⟩
  clear hd;subst hN1
  -- told
  refine ah λN1 hN1=>?_;walk_at "vx";refine⟨b,n,pts,c,rfl,hg,by omega,hc,?_⟩
  walk_at "vx";subst hN1
  -- lists
  refine ah λN1 hN1=>?_;walk_at "vx";refine⟨n,pts,by',rfl,hg,lby,by omega,?_⟩
  walk_at "vx";refine⟨by decide,?_⟩
  subst hN1;refine ah λN1 hN1=>?_;have key:∀ L:List (List (List Int)),L.length<=3->(∀ l∈L,Good n l/\Alike b l pts)->N1 [some (.sh (.scr ns)),some (.own y9),some (.sh (.int (n:Nat))),some (.sh (.lst (pts.map ptD))),some (.sh (cj b)),some (.sh (ptD by')),some (.sh (ptD nr)),some (.sh (.int (i1:Nat))),some (.sh (.int (i2:Nat))),some (.sh (.int c)),some (.own (og b pts c)),some (.own (L.map bv))]:=by
   intro L lL hL;subst hN1;refine ah λN1 hN1=>?_;walk_at "vx";refine gU bv (λ_=>none) L (λl hml A Bn ha=>?_) (by rw[sz];omega) ?_
   ·obtain⟨gl,al⟩:=hL l hml
    walk_at "vg";walk_at "vx";refine⟨b,n,l,c,rfl,gl,by rw[al.len];omega,hc,?_⟩
    rw[al.told c];walk_at "vx";refine⟨⟨qy b pts c,qy b pts c⟩,?_⟩;rw[bM 8 _ (qy b pts c)];exact (if_neg (by decide)).mpr ha
   rw[sy];refine⟨by decide,⟨rfl,rfl⟩,(if_neg (by decide)).mpr ?_⟩
   subst hN1
   -- back
   refine ah λN1 hN1=>?_;walk_at "vx";refine⟨n,pts,by',nr,i1,i2,rfl,hg,hf,by omega,lby,hby,lnr,hi1,hi2,?_⟩
   walk_at "vx";refine (if_neg (by decide)).mpr ?_
   subst hN1;walk_at "vx";refine⟨⟨_,rfl⟩,r9,9,rfl,by decide,by decide,λa6 y10 a60 a61 r10=>?_⟩
   walk_at "vx";refine⟨b,n,pts,1+a6,c,rfl,hg,hf,by omega,by omega,by omega,hc,?_⟩
   walk_at "vx";refine (if_neg (by decide)).mpr ?_
   exact hN' _ ⟨_,_,_,_,_,_,_,_,_,_,_,rfl⟩
  walk_at "vx";have g0:=wg hg hf lby hby;refine⟨by decide,⟨dD _,rfl⟩,?_⟩
  by_cases hp:pts=[]
  ·refine (if_neg (by subst hp;decide)).mpr ?_
   exact key [gu by' pts] (by simp) λl hl=>by rw[List.mem_singleton.mp hl];exact⟨g0,sv hg lby⟩
  ·refine (if_pos (by cases pts with|nil=>exact absurd rfl hp|cons=>rfl)).mpr ?_
   refine⟨n,pts,i1,rfl,hg,hp,hi1,by omega,?_⟩
   walk_at "vx";refine⟨n,pts,i1,i2,rfl,hg,hp,hi1,hi2,by omega,?_⟩
   walk_at "vx";refine⟨by decide,by decide,?_⟩
   exact key [gu by' pts,pts.map (jI i1),pts.map (kA i1 i2)] (by simp) λl hl=>by
    simp only[List.mem_cons,List.not_mem_nil,or_false] at hl;rcases hl with rfl|rfl|rfl
    ·exact⟨g0,sv hg lby⟩
    ·exact⟨qw hg i1,CA i1⟩
    ·exact⟨qx hg hi1 hi2,CB hg hi1 hi2⟩
 ·obtain⟨x1,x2,x3,x4,x5,x6,x7,x8,x9,x10,x11,rfl⟩:=hI
  subst hN;walk_at "vx";exact h

end
def wk (K:PySem.W.Frag)(T:Addr):Sp:=λvs H Q _=>∃ (a:Addr) (ns:List Int),vs=[.ref a]/\SqL K H a (ns.map V.int)/\ns.length<=63/\H T=some (.lam #[] ⟨122,25,122,43⟩ (("greatest_first":Str)++".<locals>."++"<lambda>"))/\∀ H',Same H H'->Q (.bl true) H'
-- level 7
section
variable [KF]{G:GE}{k:Nat}
local macro_rules|`(tactic| walk_at "8")=>`(tactic| (intro xs ds Q h;first|(obtain⟨e,_⟩:=h;rw[e];rfl) | (obtain⟨_,e,_⟩:=h;rw[e];rfl) | (obtain⟨_,_,e,_⟩:=h;rw[e];rfl) | (obtain⟨_,_,_,e,_⟩:=h;rw[e];rfl) | (obtain⟨_,_,_,_,e,_⟩:=h;rw[e];rfl) | (obtain⟨_,_,_,_,_,e,_⟩:=h;rw[e];rfl) | (obtain⟨_,_,_,_,_,_,e,_⟩:=h;rw[e];rfl) | (obtain⟨_,_,_,_,_,_,_,e,_⟩:=h;rw[e];rfl)))
local macro_rules|`(tactic| walk_at "7")=>`(tactic| (intro ds Q h;first|(obtain⟨e,_⟩:=h;rw[e];rfl) | (obtain⟨_,e,_⟩:=h;rw[e];rfl) | (obtain⟨_,_,e,_⟩:=h;rw[e];rfl) | (obtain⟨_,_,_,e,_⟩:=h;rw[e];rfl) | (obtain⟨_,_,_,_,e,_⟩:=h;rw[e];rfl) | (obtain⟨_,_,_,_,_,e,_⟩:=h;rw[e];rfl) | (obtain⟨_,_,_,_,_,_,e,_⟩:=h;rw[e];rfl) | (obtain⟨_,_,_,_,_,_,_,e,_⟩:=h;rw[e];rfl)))
theorem NE (hK:G.K=KF.K){T:Addr}(hT:KF.tabs=[(T,#[],⟨122,25,122,43⟩,(("greatest_first":Str)++".<locals>."++"<lambda>"))])(E:Gl G)
    {sA:Addr} {NF:FuncData} (CJ:FnD G "need_count" ic ["count"] sA NF)
    {CK:Addr} {Xt:FuncData} (NG:FnD G "need_as_many_numbers" pB ["point","count"] CK Xt)
    {sB:Addr} {NH:FuncData} (CL:FnD G "need_points" ie ["points"] sB NH)
    {sC:Addr} {NI:FuncData} (CM:FnD G "need_way" ig ["way"] sC NI)
    {CN:Addr} {Xu:FuncData} (NJ:FnD G "need_points_and_way" pD ["points","way"] CN Xu)
    {CO:Addr} {Xv:FuncData} (NK:FnD G "need_two_lists" pF ["points","others"] CO Xv)
    {sD:Addr} {NL:FuncData} (CP:FnD G "need_place" ii ["points","place"] sD NL)
    {sE:Addr} {NM:FuncData} (CQ:FnD G "need_bound" ik ["bound"] sE NM)
    {sG:Addr} {NN:FuncData} (CS:FnD G "need_number" il ["number"] sG NN)
    {CT:Addr} {Xw:FuncData} (NO:FnD G "need_place_of_number" pG ["points","number"] CT Xw)
    {sI:Addr} {NP:FuncData} (CU:FnD G "point_moved" im ["point","by"] sI NP)
    {sJ:Addr} {NQ:FuncData} (CV:FnD G "point_mirrored" ip ["point","number"] sJ NQ)
    {CW:Addr} {Xx:FuncData} (NR:FnD G "point_exchanged" pI ["point","one","other"] CW Xx)
    {sK:Addr} {NS:FuncData} (CY:FnD G "moved" iq ["points","by"] sK NS)
    {sL:Addr} {NT:FuncData} (CZ:FnD G "mirrored" ir ["points","number"] sL NT)
    {sM:Addr} {NU:FuncData} (Da:FnD G "exchanged" iu ["points","one","other"] sM NU)
    {sN:Addr} {NV:FuncData} (Db:FnD G "times" iw ["points","many"] sN NV)
    {sO:Addr} {NW:FuncData} (Dc:FnD G "moved_by" iy ["points","others"] sO NW)
    {sP:Addr} {NX:FuncData} (Dd:FnD G "far_between" iA ["way","point","other"] sP NX)
    {Df:Addr} {Xy:FuncData} (NY:FnD G "pairs_by_places" pM ["points","way"] Df Xy)
    {sQ:Addr} {NZ:FuncData} (Dg:FnD G "all_pairs" iC ["points","way"] sQ NZ)
    {sR:Addr} {Oa:FuncData} (Dh:FnD G "nearest_among" iD ["points","way","point","places"] sR Oa)
    {sS:Addr} {Ob:FuncData} (Di:FnD G "nearest_other" iE ["points","way","place"] sS Ob)
    {sT:Addr} {Oc:FuncData} (Dj:FnD G "nearest_two" iG ["points","way"] sT Oc)
    {sU:Addr} {Od:FuncData} (Dk:FnD G "nearest_all" iH ["points","way"] sU Od)
    {Dl:Addr} {Xz:FuncData} (Oe:FnD G "greatest_bound" pP ["points","way"] Dl Xz)
    {sV:Addr} {Of:FuncData} (Dm:FnD G "near_pairs" iI ["points","way","bound"] sV Of)
    {yd:Addr} {Dp:FuncData} (ye:FnD G "greatest_first" lY ["told"] yd Dp)
    {sW:Addr} {Og:FuncData} (Dq:FnD G "fars_of" iJ ["points","way","place"] sW Og)
    {sX:Addr} {Oh:FuncData} (Ds:FnD G "farthest_two" iK ["points","way"] sX Oh)
    {sY:Addr} {Oi:FuncData} (Dt:FnD G "middle" iL ["points","way"] sY Oi)
    {sZ:Addr} {Oj:FuncData} (Du:FnD G "sums_place" iM ["points","way"] sZ Oj)
    {tf:Addr} {Ol:FuncData} (Dv:FnD G "joined" iO ["leasts","i","j"] tf Ol)
    {tj:Addr} {Om:FuncData} (Dw:FnD G "parts_within" iP ["points","way","bound"] tj Om)
    {tm:Addr} {On:FuncData} (Dx:FnD G "least_tree" iQ ["points","way"] tm On)
    {tw:Addr} {Oo:FuncData} (Dy:FnD G "_law_next" iR ["pot","many"] tw Oo)
    {tz:Addr} {Op:FuncData} (Dz:FnD G "_law_pots" iT ["script"] tz Op)
    {tB:Addr} {Oq:FuncData} (DA:FnD G "_law_points" iU ["pot","count","most"] tB Oq)
    {tD:Addr} {Os:FuncData} (DB:FnD G "_law_way" iV ["pot"] tD Os)
    {tE:Addr} {Ot:FuncData} (DC:FnD G "_law_by" iW ["pot","count"] tE Ot)
    {tF:Addr} {Ou:FuncData} (DD:FnD G "_law_told" iX ["points","way","bound"] tF Ou)
    {tG:Addr} {Ov:FuncData} (DE:FnD G "_law_far_right" iY ["points","great","way","much"] tG Ov)
    {DF:Addr} {XA:FuncData} (Ow:FnD G "_law_times_right" pW ["points","way","bound","many"] DF XA)
    {DG:Addr} {XB:FuncData} (Ox:FnD G "_law_back_right" pY ["points","by","near","one","other"] DG XB)
    {oh:Addr} {DH:FuncData} (DI:FnD G "law" fh ["script"] oh DH)
    (lg:LamG G Dp ⟨122,25,122,43⟩ "greatest_first")
   :FnOk G.P G.w G.K G.mg G.base km 8 oh DH ["script"] (wk G.K T):=by
  have BX:FnPots G 1 "_law_pots":=Dz.pots (k:=0) hK MV rfl rfl (WO E);have bO:FnIo G 1 "_law_next" fV:=Dy.fio (k:=0) hK MU (WN E) (by decide) (by walk_at "8") Nl
  have BZ:FnIo G 2 "_law_points" gG:=DA.fio (k:=1) hK MW (WP E (bO.mono (by decide))) (by decide) (by walk_at "8") xN
  have Ca:FnIo G 2 "_law_way" qe:=DB.fio (k:=1) hK MX (WQ E (bO.mono (by decide))) (by decide) (by walk_at "8") Nm
  have vJ:FnIo G 2 "_law_by" CH:=DC.fio (k:=1) hK MY (WR E (bO.mono (by decide))) (by decide) (by walk_at "8") p_by
  have Ap:FnG G 1 "need_count" jB:=CJ.fg (k:=0) hK Mb (Wd E) (by walk_at "7") Cc
  have Mf:FnG G 1 "need_as_many_numbers" uq:=NG.fg (k:=0) hK We (e_q0 E) (by walk_at "7") WY
  have cX:FnG G 2 "need_points" dY:=CL.fg (k:=1) hK Me (Wf E (Ap.mono (by decide)) (Mf.mono (by decide))) (by walk_at "7") Nj
  have Au:FnG G 1 "need_way" qd:=CM.fg (k:=0) hK Mg (Wg E) (by walk_at "7") Nk
  have eo:FnG G 3 "need_points_and_way" eV:=NJ.fg (k:=2) hK Wh (e_q2 E (cX.mono (by decide)) (Au.mono (by decide))) (by walk_at "7") WZ
  have iB:FnG G 1 "far_between" jA:=Dd.fg (k:=0) hK MC (Wv E) (by walk_at "7") WX
  have ku:FnG G 2 "pairs_by_places" eH:=NY.fg (k:=1) hK Ww (e_q4 E (iB.mono (by decide))) (by walk_at "7") HW
  have gn:FnG G 4 "all_pairs" eL:=Dg.fg (k:=3) hK ME (Wy E (eo.mono (by decide)) (ku.mono (by decide))) (by walk_at "7") Np
  have Be:FnG G 2 "nearest_among" mq:=Dh.fg (k:=1) hK MF (Wz E (iB.mono (by decide))) (by walk_at "7") HY
  have Bj:FnG G 3 "nearest_other" mt:=Di.fg (k:=2) hK MG (WA E (Be.mono (by decide))) (by walk_at "7") HZ
  have BO:FnG G 4 "nearest_all" uu:=Dk.fg (k:=3) hK MI (WC E (eo.mono (by decide)) (Bj.mono (by decide))) (by walk_at "7") Xb
  have Bo:FnG G 1 "need_bound" jE:=CQ.fg (k:=0) hK Mn (Wk E) (by walk_at "7") Cg
  have gm:FnG G 4 "near_pairs" jc:=Dm.fg (k:=3) hK ML (WE E (eo.mono (by decide)) (Bo.mono (by decide)) (ku.mono (by decide))) (by walk_at "7") Nn
  have nK:FnG G 1 "joined" cS:=Dv.fg (k:=0) hK MR (WK E) (by walk_at "7") Xd
  have BP:FnG G 5 "parts_within" jH:=Dw.fg (k:=4) hK MS (WL E (gm.mono (by decide)) (nK.mono (by decide))) (by walk_at "7") Co
  have lZ:FnG G 5 "least_tree" kI:=Dx.fg (k:=4) hK MT (WM E (gn.mono (by decide)) (nK.mono (by decide))) (by walk_at "7") Nq
  have Bk:FnG G 4 "nearest_two" ur:=Dj.fg (k:=3) hK MH (WB E (eo.mono (by decide)) (ku.mono (by decide))) (by walk_at "7") Xa
  have uo:FnG G 5 "greatest_bound" vQ:=Oe.fg (k:=4) hK WD (e_q6 E (Bk.mono (by decide))) (by walk_at "7") p_gb
  have MO:FnG G 1 "greatest_first" Wa:=⟨yd,Dp,_,e_q7 (k:=0) E hK ye.F lg,ye.m,ye.F.kp,ye.b⟩;have ma:FnG G 4 "farthest_two" vU:=Ds.fg (k:=3) hK MN (WH E (eo.mono (by decide)) (MO.mono (by decide)) (ku.mono (by decide))) (by walk_at "7") p_f2
  have nJ:FnG G 2 "fars_of" kJ:=Dq.fg (k:=1) hK MM (WG E (iB.mono (by decide))) (by walk_at "7") Nu
  have BQ:FnG G 4 "middle" uC:=Dt.fg (k:=3) hK MP (WI E (eo.mono (by decide)) (nJ.mono (by decide))) (by walk_at "7") Xf
  have BR:FnG G 4 "sums_place" qm:=Du.fg (k:=3) hK MQ (WJ E (eo.mono (by decide)) (nJ.mono (by decide))) (by walk_at "7") Nw
  have vK:FnG G 6 "_law_told" qv:=DD.fg (k:=5) hK MZ (WS E (gn.mono (by decide)) (BO.mono (by decide)) (gm.mono (by decide)) (BP.mono (by decide)) (lZ.mono (by decide)) (uo.mono (by decide)) (ma.mono (by decide)) (BQ.mono (by decide)) (BR.mono (by decide))) (by walk_at "7") NB
  have AI:FnG G 1 "point_moved" uD:=CU.fg (k:=0) hK Mr (Wn E) (by walk_at "7") Xg
  have dW:FnG G 3 "moved" ss:=CY.fg (k:=2) hK Mv (Wq E (cX.mono (by decide)) (AI.mono (by decide))) (by walk_at "7") p_mv
  have AB:FnG G 1 "need_place" uG:=CP.fg (k:=0) hK Mm (Wj E) (by walk_at "7") Xj
  have um:FnG G 2 "need_place_of_number" qo:=NO.fg (k:=1) hK Wm (e_q1 E (AB.mono (by decide))) (by walk_at "7") Xk
  have AL:FnG G 1 "point_mirrored" uE:=CV.fg (k:=0) hK Ms (Wo E) (by walk_at "7") Xh
  have iZ:FnG G 3 "mirrored" vW:=CZ.fg (k:=2) hK Mw (Wr E (cX.mono (by decide)) (um.mono (by decide)) (AL.mono (by decide))) (by walk_at "7") p_mi
  have My:FnG G 1 "point_exchanged" uF:=NR.fg (k:=0) hK Wp (e_q5 E) (by walk_at "7") Xi
  have ja:FnG G 3 "exchanged" vX:=Da.fg (k:=2) hK Mx (Ws E (cX.mono (by decide)) (um.mono (by decide)) (My.mono (by decide))) (by walk_at "7") p_ex
  have MB:FnG G 3 "need_two_lists" uH:=NK.fg (k:=2) hK Wi (e_q9 E (cX.mono (by decide))) (by walk_at "7") Xl
  have vG:FnG G 4 "moved_by" Cv:=Dc.fg (k:=3) hK MA (Wu E (MB.mono (by decide)) (dW.mono (by decide))) (by walk_at "7") p_mb
  have Nh:FnG G 5 "_law_back_right" mE:=Ox.fg (k:=4) hK WV (e_q8 E (dW.mono (by decide)) (iZ.mono (by decide)) (ja.mono (by decide)) (vG.mono (by decide))) (by walk_at "7") Il
  have AR:FnG G 1 "need_number" qg:=CS.fg (k:=0) hK Mo (Wl E) (by walk_at "7") Nr
  have nL:FnG G 3 "times" Cs:=Db.fg (k:=2) hK Mz (Wt E (cX.mono (by decide)) (AR.mono (by decide))) (by walk_at "7") p_tm
  have BU:FnG G 6 "_law_far_right" uN:=DE.fg (k:=5) hK Na (WT E (ma.mono (by decide)) (uo.mono (by decide))) (by walk_at "7") Xn
  have Ni:FnG G 7 "_law_times_right" uO:=Ow.fg (k:=6) hK WU (e_q3 E (nL.mono (by decide)) (gn.mono (by decide)) (BU.mono (by decide)) (gm.mono (by decide)) (lZ.mono (by decide))) (by walk_at "7") Xp
  refine (IK (k:=7) (sp:=CI) hK DI.F Ng (WW E (BX.mono (by decide)) (bO.mono (by decide)) (BZ.mono (by decide)) (Ca.mono (by decide)) (vJ.mono (by decide)) (vK.mono (by decide)) (dW.mono (by decide)) (iZ.mono (by decide)) (ja.mono (by decide)) (Nh.mono (by decide)) (Ni.mono (by decide))) (by walk_at "7") Xs).imp λvs H Q E' h=>?_
  obtain⟨a,ns,rfl,hS,hl,hTH,q⟩:=h;refine⟨H,[.scr ns],λb=>b=.sh (.bl true),⟨Same.refl _,λq hq=>by rw[hT] at hq;cases List.mem_singleton.mp hq;exact hTH⟩,.cons (.scr (by rw[<- hK];exact hS)) .nil,⟨ns,rfl,hl,rfl⟩,λv H' F' b _ _ sm _ r e=>?_⟩
  subst e;have r:Rep F' v (.bl true):=r;cases r;exact q H' sm
end

theorem all_mk {l:PySem.W.OpenLaw}{w:World}{K:PySem.W.Frag}{h:Heap}{mg:Str->Option Value}{fa:Addr}(X:K.In h)(Gs:h.Ns mainGlobals mg)(hfa:mg "law"=some (.ref fa))
 {sA CK sB sC CN CO sD sE sG CT sI sJ CW sK sL sM sN sO sP Df sQ sR sS sT sU Dl sV yd mF aB oi sW sX sY sZ tf tj tm tw tz tB tD tE tF tG DF DG oh:Addr}
 {Oy Oz XC XD OA OB OC OD XE XF XG XH OE OF OG OH OI OJ XI XJ OK OL OM ON XL XM OO OP OQ OT OU OW OX OY OZ Pa Pb Pc XN XO Pd Pe Pg Ph Pi Pj Pk Pl Pm Pn XQ XR Po Pp XS IZ Pq Pr Ps Pt Pu Pv Pw Px Py Pz PB PC PD PF PJ PL PM PN PP PQ PR PU PV PX PY PZ Qa Qb Qc XT XU XV XW Qe DJ:Option Addr}
 {Qf XX Qg Qh XY XZ Qi Qj Qk Ya Ql Qm Yb Qn Qo Qp Qq Qr Qs Yc Qt Qu Qv Qw Qx Yd Qy Ye Qz DK QA QB QC QD QE QF QG QH QI QJ QK QL QM QN Yf Yg QO:Array (Option Value)}
 {QP QQ QR QS DL QT Yh Yi Yj Yk Ja Yl QU QV QW QX DM QY QZ Ra Rb Rc DN Re Ym Yn Yo Yp Jb Yq Yr Ys Yt Yu Jc Yv Rf Rg Rh Rj DP Rl Rm Rn Rp Rq DQ Rr Rs Rt Ru Rv DR Rw Yw Yx Yy Yz Jd YA Rx Ry Rz RA DS RB RC RD RE RF DT RG YB YC YD YE Je YF RH RI RJ RK DU RL RM RN RO RP DV RQ RT RU RV RW DW RX RY RZ Sa Sb DX Se Sf Sg Sh Si DY Sj Sk Sl Sm Sn DZ Sr YG YH YI YJ Jf YK Ss Su Sv Sw Ea Sx Sy Sz SA SB Eb SD SE SF SG SH Ec SJ SK SL SM SN Ed SO SQ SR SS ST Ee SU YL YM YN YO Jg YQ SV SW SX SY Ef SZ YR Jh Ji Jj Jk Ta Tb Tc Td Te Eg Tf Tg Th Ti Tj Eh Tk Tl Tm Tn To Ei Tp Tq Ts Tt Tu Ej Tv Tw Tx Ty Tz Ek TC TF TH TJ TK El TL TM TN TQ TR Em TU TW TY TZ Ua En Ub Uc Ud Ue Uf Eo Ug Uh Ui Uj Uk Ep Ul Um Uo Up Uq Er Ur Us Ut Uu Uv Es Uw Ux Uy Uz UA Et UB UC UD UE UF Eu UG YS YT YU YV Jl YW YX YY YZ Za Jm Zb UH Ev Ew Ex uP Ey:Value}
 {Ez:Array Value}
  {tk_SQUARES:Tok}
  {tk_STREETS:Tok}
  (EA:PySem.W.nsIn K mainGlobals "need_count"=some (some (.ref sA)))
  (wl:K.lookup sA=some ⟨QP,Oy,.func (PySem.W.fnOf "need_count" "need_count" (aE ic) (ak ic) (af ic) .none QQ QR QS Oz DL QT),Qf⟩)
  (EC:PySem.W.codeIn K DL "need_count"=true) (Jn:PySem.W.keepIn K (.ref sA)=true)
  (UI:PySem.W.nsIn K mainGlobals "need_as_many_numbers"=some (some (.ref CK)))
  (Im:K.lookup CK=some ⟨Yh,XC,.func (PySem.W.fnOf "need_as_many_numbers" "need_as_many_numbers" (aE pB) (ak pB) (af pB) .none Yi Yj Yk XD Ja Yl),XX⟩)
  (UJ:PySem.W.codeIn K Ja "need_as_many_numbers"=true) (Zc:PySem.W.keepIn K (.ref CK)=true)
  (EE:PySem.W.nsIn K mainGlobals "need_points"=some (some (.ref sB)))
  (wm:K.lookup sB=some ⟨QU,OA,.func (PySem.W.fnOf "need_points" "need_points" (aE ie) (ak ie) (af ie) .none QV QW QX OB DM QY),Qg⟩)
  (EF:PySem.W.codeIn K DM "need_points"=true) (Jo:PySem.W.keepIn K (.ref sB)=true)
  (EH:PySem.W.nsIn K mainGlobals "need_way"=some (some (.ref sC)))
  (wn:K.lookup sC=some ⟨QZ,OC,.func (PySem.W.fnOf "need_way" "need_way" (aE ig) (ak ig) (af ig) .none Ra Rb Rc OD DN Re),Qh⟩)
  (EJ:PySem.W.codeIn K DN "need_way"=true) (Jp:PySem.W.keepIn K (.ref sC)=true)
  (UK:PySem.W.nsIn K mainGlobals "need_points_and_way"=some (some (.ref CN)))
  (Io:K.lookup CN=some ⟨Ym,XE,.func (PySem.W.fnOf "need_points_and_way" "need_points_and_way" (aE pD) (ak pD) (af pD) .none Yn Yo Yp XF Jb Yq),XY⟩)
  (UL:PySem.W.codeIn K Jb "need_points_and_way"=true) (Zd:PySem.W.keepIn K (.ref CN)=true)
  (UM:PySem.W.nsIn K mainGlobals "need_two_lists"=some (some (.ref CO)))
  (Iq:K.lookup CO=some ⟨Yr,XG,.func (PySem.W.fnOf "need_two_lists" "need_two_lists" (aE pF) (ak pF) (af pF) .none Ys Yt Yu XH Jc Yv),XZ⟩)
  (UN:PySem.W.codeIn K Jc "need_two_lists"=true) (Ze:PySem.W.keepIn K (.ref CO)=true)
  (EK:PySem.W.nsIn K mainGlobals "need_place"=some (some (.ref sD)))
  (wo:K.lookup sD=some ⟨Rf,OE,.func (PySem.W.fnOf "need_place" "need_place" (aE ii) (ak ii) (af ii) .none Rg Rh Rj OF DP Rl),Qi⟩)
  (EL:PySem.W.codeIn K DP "need_place"=true) (Jq:PySem.W.keepIn K (.ref sD)=true)
  (EM:PySem.W.nsIn K mainGlobals "need_bound"=some (some (.ref sE)))
  (wp:K.lookup sE=some ⟨Rm,OG,.func (PySem.W.fnOf "need_bound" "need_bound" (aE ik) (ak ik) (af ik) .none Rn Rp Rq OH DQ Rr),Qj⟩)
  (EN:PySem.W.codeIn K DQ "need_bound"=true) (Jr:PySem.W.keepIn K (.ref sE)=true)
  (EQ:PySem.W.nsIn K mainGlobals "need_number"=some (some (.ref sG)))
  (wq:K.lookup sG=some ⟨Rs,OI,.func (PySem.W.fnOf "need_number" "need_number" (aE il) (ak il) (af il) .none Rt Ru Rv OJ DR Rw),Qk⟩)
  (ER:PySem.W.codeIn K DR "need_number"=true) (Js:PySem.W.keepIn K (.ref sG)=true)
  (UO:PySem.W.nsIn K mainGlobals "need_place_of_number"=some (some (.ref CT)))
  (Ir:K.lookup CT=some ⟨Yw,XI,.func (PySem.W.fnOf "need_place_of_number" "need_place_of_number" (aE pG) (ak pG) (af pG) .none Yx Yy Yz XJ Jd YA),Ya⟩)
  (UP:PySem.W.codeIn K Jd "need_place_of_number"=true) (Zf:PySem.W.keepIn K (.ref CT)=true)
  (ET:PySem.W.nsIn K mainGlobals "point_moved"=some (some (.ref sI)))
  (wr:K.lookup sI=some ⟨Rx,OK,.func (PySem.W.fnOf "point_moved" "point_moved" (aE im) (ak im) (af im) .none Ry Rz RA OL DS RB),Ql⟩)
  (EU:PySem.W.codeIn K DS "point_moved"=true) (Jt:PySem.W.keepIn K (.ref sI)=true)
  (EY:PySem.W.nsIn K mainGlobals "point_mirrored"=some (some (.ref sJ)))
  (wt:K.lookup sJ=some ⟨RC,OM,.func (PySem.W.fnOf "point_mirrored" "point_mirrored" (aE ip) (ak ip) (af ip) .none RD RE RF ON DT RG),Qm⟩)
  (EZ:PySem.W.codeIn K DT "point_mirrored"=true) (Ju:PySem.W.keepIn K (.ref sJ)=true)
  (UQ:PySem.W.nsIn K mainGlobals "point_exchanged"=some (some (.ref CW)))
  (Iu:K.lookup CW=some ⟨YB,XL,.func (PySem.W.fnOf "point_exchanged" "point_exchanged" (aE pI) (ak pI) (af pI) .none YC YD YE XM Je YF),Yb⟩)
  (UR:PySem.W.codeIn K Je "point_exchanged"=true) (Zg:PySem.W.keepIn K (.ref CW)=true)
  (Fa:PySem.W.nsIn K mainGlobals "moved"=some (some (.ref sK)))
  (wu:K.lookup sK=some ⟨RH,OO,.func (PySem.W.fnOf "moved" "moved" (aE iq) (ak iq) (af iq) .none RI RJ RK OP DU RL),Qn⟩)
  (Fb:PySem.W.codeIn K DU "moved"=true) (Jv:PySem.W.keepIn K (.ref sK)=true)
  (Fc:PySem.W.nsIn K mainGlobals "mirrored"=some (some (.ref sL)))
  (wv:K.lookup sL=some ⟨RM,OQ,.func (PySem.W.fnOf "mirrored" "mirrored" (aE ir) (ak ir) (af ir) .none RN RO RP OT DV RQ),Qo⟩)
  (Fd:PySem.W.codeIn K DV "mirrored"=true) (Jw:PySem.W.keepIn K (.ref sL)=true)
  (Fe:PySem.W.nsIn K mainGlobals "exchanged"=some (some (.ref sM)))
  (ww:K.lookup sM=some ⟨RT,OU,.func (PySem.W.fnOf "exchanged" "exchanged" (aE iu) (ak iu) (af iu) .none RU RV RW OW DW RX),Qp⟩)
  (Ff:PySem.W.codeIn K DW "exchanged"=true) (Jx:PySem.W.keepIn K (.ref sM)=true)
  (Fg:PySem.W.nsIn K mainGlobals "times"=some (some (.ref sN)))
  (wx:K.lookup sN=some ⟨RY,OX,.func (PySem.W.fnOf "times" "times" (aE iw) (ak iw) (af iw) .none RZ Sa Sb OY DX Se),Qq⟩)
  (Fh:PySem.W.codeIn K DX "times"=true) (Jy:PySem.W.keepIn K (.ref sN)=true)
  (Fj:PySem.W.nsIn K mainGlobals "moved_by"=some (some (.ref sO)))
  (wy:K.lookup sO=some ⟨Sf,OZ,.func (PySem.W.fnOf "moved_by" "moved_by" (aE iy) (ak iy) (af iy) .none Sg Sh Si Pa DY Sj),Qr⟩)
  (Fk:PySem.W.codeIn K DY "moved_by"=true) (Jz:PySem.W.keepIn K (.ref sO)=true)
  (Fl:PySem.W.nsIn K mainGlobals "far_between"=some (some (.ref sP)))
  (wz:K.lookup sP=some ⟨Sk,Pb,.func (PySem.W.fnOf "far_between" "far_between" (aE iA) (ak iA) (af iA) .none Sl Sm Sn Pc DZ Sr),Qs⟩)
  (Fm:PySem.W.codeIn K DZ "far_between"=true) (JA:PySem.W.keepIn K (.ref sP)=true)
  (US:PySem.W.nsIn K mainGlobals "pairs_by_places"=some (some (.ref Df)))
  (Iv:K.lookup Df=some ⟨YG,XN,.func (PySem.W.fnOf "pairs_by_places" "pairs_by_places" (aE pM) (ak pM) (af pM) .none YH YI YJ XO Jf YK),Yc⟩)
  (UT:PySem.W.codeIn K Jf "pairs_by_places"=true) (Zh:PySem.W.keepIn K (.ref Df)=true)
  (Fo:PySem.W.nsIn K mainGlobals "all_pairs"=some (some (.ref sQ)))
  (wA:K.lookup sQ=some ⟨Ss,Pd,.func (PySem.W.fnOf "all_pairs" "all_pairs" (aE iC) (ak iC) (af iC) .none Su Sv Sw Pe Ea Sx),Qt⟩)
  (Fp:PySem.W.codeIn K Ea "all_pairs"=true) (JB:PySem.W.keepIn K (.ref sQ)=true)
  (Fq:PySem.W.nsIn K mainGlobals "nearest_among"=some (some (.ref sR)))
  (wB:K.lookup sR=some ⟨Sy,Pg,.func (PySem.W.fnOf "nearest_among" "nearest_among" (aE iD) (ak iD) (af iD) .none Sz SA SB Ph Eb SD),Qu⟩)
  (Fs:PySem.W.codeIn K Eb "nearest_among"=true) (JC:PySem.W.keepIn K (.ref sR)=true)
  (Ft:PySem.W.nsIn K mainGlobals "nearest_other"=some (some (.ref sS)))
  (wC:K.lookup sS=some ⟨SE,Pi,.func (PySem.W.fnOf "nearest_other" "nearest_other" (aE iE) (ak iE) (af iE) .none SF SG SH Pj Ec SJ),Qv⟩)
  (Fu:PySem.W.codeIn K Ec "nearest_other"=true) (JD:PySem.W.keepIn K (.ref sS)=true)
  (Fv:PySem.W.nsIn K mainGlobals "nearest_two"=some (some (.ref sT)))
  (wD:K.lookup sT=some ⟨SK,Pk,.func (PySem.W.fnOf "nearest_two" "nearest_two" (aE iG) (ak iG) (af iG) .none SL SM SN Pl Ed SO),Qw⟩)
  (Fx:PySem.W.codeIn K Ed "nearest_two"=true) (JE:PySem.W.keepIn K (.ref sT)=true)
  (Fy:PySem.W.nsIn K mainGlobals "nearest_all"=some (some (.ref sU)))
  (wE:K.lookup sU=some ⟨SQ,Pm,.func (PySem.W.fnOf "nearest_all" "nearest_all" (aE iH) (ak iH) (af iH) .none SR SS ST Pn Ee SU),Qx⟩)
  (Fz:PySem.W.codeIn K Ee "nearest_all"=true) (JF:PySem.W.keepIn K (.ref sU)=true)
  (UU:PySem.W.nsIn K mainGlobals "greatest_bound"=some (some (.ref Dl)))
  (Iw:K.lookup Dl=some ⟨YL,XQ,.func (PySem.W.fnOf "greatest_bound" "greatest_bound" (aE pP) (ak pP) (af pP) .none YM YN YO XR Jg YQ),Yd⟩)
  (UV:PySem.W.codeIn K Jg "greatest_bound"=true) (Zi:PySem.W.keepIn K (.ref Dl)=true)
  (FA:PySem.W.nsIn K mainGlobals "near_pairs"=some (some (.ref sV)))
  (wF:K.lookup sV=some ⟨SV,Po,.func (PySem.W.fnOf "near_pairs" "near_pairs" (aE iI) (ak iI) (af iI) .none SW SX SY Pp Ef SZ),Qy⟩)
  (FB:PySem.W.codeIn K Ef "near_pairs"=true) (JG:PySem.W.keepIn K (.ref sV)=true)
  (UW:PySem.W.nsIn K mainGlobals "greatest_first"=some (some (.ref yd)))
  (Ix:K.lookup yd=some ⟨YR,XS,.func (PySem.W.fnOf "greatest_first" "greatest_first" (aE lY) (ak lY) (af lY) .none Jh Ji Jj IZ (.ref mF) Jk),Ye⟩)
  (UX:PySem.W.codeIn K (.ref mF) "greatest_first"=true) (Zj:PySem.W.keepIn K (.ref yd)=true)
  (JH:K.lookup mF=some ⟨Ta,Pq,.fields Ez,Qz⟩) (JI:(Ez[11]?:Option Value)=some (.ref aB)) (aq:K.lookup aB=some (PySem.W.tabObj #[])) (wG:PySem.W.codeHdIn K mF aB=true)
  (b_lam':PySem.W.nsIn K mainGlobals "__builtins__"=some (some (.ref oi))) (FC:K.lookup oi=some ⟨.type "module",some builtinsNs,.plain,DK⟩) (mG:mainGlobals≠aB/\oi≠builtinsNs/\oi≠mainGlobals/\oi≠aB)
  (FD:PySem.W.nsIn K mainGlobals "fars_of"=some (some (.ref sW)))
  (wH:K.lookup sW=some ⟨Tb,Pr,.func (PySem.W.fnOf "fars_of" "fars_of" (aE iJ) (ak iJ) (af iJ) .none Tc Td Te Ps Eg Tf),QA⟩)
  (FE:PySem.W.codeIn K Eg "fars_of"=true) (JJ:PySem.W.keepIn K (.ref sW)=true)
  (FF:PySem.W.nsIn K mainGlobals "farthest_two"=some (some (.ref sX)))
  (wI:K.lookup sX=some ⟨Tg,Pt,.func (PySem.W.fnOf "farthest_two" "farthest_two" (aE iK) (ak iK) (af iK) .none Th Ti Tj Pu Eh Tk),QB⟩)
  (FG:PySem.W.codeIn K Eh "farthest_two"=true) (JK:PySem.W.keepIn K (.ref sX)=true)
  (FH:PySem.W.nsIn K mainGlobals "middle"=some (some (.ref sY)))
  (wJ:K.lookup sY=some ⟨Tl,Pv,.func (PySem.W.fnOf "middle" "middle" (aE iL) (ak iL) (af iL) .none Tm Tn To Pw Ei Tp),QC⟩)
  (FI:PySem.W.codeIn K Ei "middle"=true) (JL:PySem.W.keepIn K (.ref sY)=true)
  (FJ:PySem.W.nsIn K mainGlobals "sums_place"=some (some (.ref sZ)))
  (wK:K.lookup sZ=some ⟨Tq,Px,.func (PySem.W.fnOf "sums_place" "sums_place" (aE iM) (ak iM) (af iM) .none Ts Tt Tu Py Ej Tv),QD⟩)
  (FK:PySem.W.codeIn K Ej "sums_place"=true) (JM:PySem.W.keepIn K (.ref sZ)=true)
  (FL:PySem.W.nsIn K mainGlobals "joined"=some (some (.ref tf)))
  (wL:K.lookup tf=some ⟨Tw,Pz,.func (PySem.W.fnOf "joined" "joined" (aE iO) (ak iO) (af iO) .none Tx Ty Tz PB Ek TC),QE⟩)
  (FM:PySem.W.codeIn K Ek "joined"=true) (JN:PySem.W.keepIn K (.ref tf)=true)
  (FN:PySem.W.nsIn K mainGlobals "parts_within"=some (some (.ref tj)))
  (wM:K.lookup tj=some ⟨TF,PC,.func (PySem.W.fnOf "parts_within" "parts_within" (aE iP) (ak iP) (af iP) .none TH TJ TK PD El TL),QF⟩)
  (FO:PySem.W.codeIn K El "parts_within"=true) (JO:PySem.W.keepIn K (.ref tj)=true)
  (FP:PySem.W.nsIn K mainGlobals "least_tree"=some (some (.ref tm)))
  (wN:K.lookup tm=some ⟨TM,PF,.func (PySem.W.fnOf "least_tree" "least_tree" (aE iQ) (ak iQ) (af iQ) .none TN TQ TR PJ Em TU),QG⟩)
  (FQ:PySem.W.codeIn K Em "least_tree"=true) (JP:PySem.W.keepIn K (.ref tm)=true)
  (FR:PySem.W.nsIn K mainGlobals "_law_next"=some (some (.ref tw)))
  (wO:K.lookup tw=some ⟨TW,PL,.func (PySem.W.fnOf "_law_next" "_law_next" (aE iR) (ak iR) (af iR) .none TY TZ Ua PM En Ub),QH⟩)
  (FS:PySem.W.codeIn K En "_law_next"=true) (JQ:PySem.W.keepIn K (.ref tw)=true)
  (FT:PySem.W.nsIn K mainGlobals "_law_pots"=some (some (.ref tz)))
  (wP:K.lookup tz=some ⟨Uc,PN,.func (PySem.W.fnOf "_law_pots" "_law_pots" (aE iT) (ak iT) (af iT) .none Ud Ue Uf PP Eo Ug),QI⟩)
  (FU:PySem.W.codeIn K Eo "_law_pots"=true) (JR:PySem.W.keepIn K (.ref tz)=true)
  (FV:PySem.W.nsIn K mainGlobals "_law_points"=some (some (.ref tB)))
  (wQ:K.lookup tB=some ⟨Uh,PQ,.func (PySem.W.fnOf "_law_points" "_law_points" (aE iU) (ak iU) (af iU) .none Ui Uj Uk PR Ep Ul),QJ⟩)
  (FW:PySem.W.codeIn K Ep "_law_points"=true) (JS:PySem.W.keepIn K (.ref tB)=true)
  (FX:PySem.W.nsIn K mainGlobals "_law_way"=some (some (.ref tD)))
  (wR:K.lookup tD=some ⟨Um,PU,.func (PySem.W.fnOf "_law_way" "_law_way" (aE iV) (ak iV) (af iV) .none Uo Up Uq PV Er Ur),QK⟩)
  (FY:PySem.W.codeIn K Er "_law_way"=true) (JT:PySem.W.keepIn K (.ref tD)=true)
  (FZ:PySem.W.nsIn K mainGlobals "_law_by"=some (some (.ref tE)))
  (wS:K.lookup tE=some ⟨Us,PX,.func (PySem.W.fnOf "_law_by" "_law_by" (aE iW) (ak iW) (af iW) .none Ut Uu Uv PY Es Uw),QL⟩)
  (Ga:PySem.W.codeIn K Es "_law_by"=true) (JU:PySem.W.keepIn K (.ref tE)=true)
  (Gb:PySem.W.nsIn K mainGlobals "_law_told"=some (some (.ref tF)))
  (wT:K.lookup tF=some ⟨Ux,PZ,.func (PySem.W.fnOf "_law_told" "_law_told" (aE iX) (ak iX) (af iX) .none Uy Uz UA Qa Et UB),QM⟩)
  (Gc:PySem.W.codeIn K Et "_law_told"=true) (JV:PySem.W.keepIn K (.ref tF)=true)
  (Gd:PySem.W.nsIn K mainGlobals "_law_far_right"=some (some (.ref tG)))
  (wU:K.lookup tG=some ⟨UC,Qb,.func (PySem.W.fnOf "_law_far_right" "_law_far_right" (aE iY) (ak iY) (af iY) .none UD UE UF Qc Eu UG),QN⟩)
  (Ge:PySem.W.codeIn K Eu "_law_far_right"=true) (JW:PySem.W.keepIn K (.ref tG)=true)
  (UY:PySem.W.nsIn K mainGlobals "_law_times_right"=some (some (.ref DF)))
  (Iy:K.lookup DF=some ⟨YS,XT,.func (PySem.W.fnOf "_law_times_right" "_law_times_right" (aE pW) (ak pW) (af pW) .none YT YU YV XU Jl YW),Yf⟩)
  (UZ:PySem.W.codeIn K Jl "_law_times_right"=true) (Zk:PySem.W.keepIn K (.ref DF)=true)
  (Va:PySem.W.nsIn K mainGlobals "_law_back_right"=some (some (.ref DG)))
  (Iz:K.lookup DG=some ⟨YX,XV,.func (PySem.W.fnOf "_law_back_right" "_law_back_right" (aE pY) (ak pY) (af pY) .none YY YZ Za XW Jm Zb),Yg⟩)
  (Vb:PySem.W.codeIn K Jm "_law_back_right"=true) (Zl:PySem.W.keepIn K (.ref DG)=true)
  (wV:PySem.W.nsIn K mainGlobals "law"=some (some (.ref oh)))
  (wW:K.lookup oh=some ⟨UH,Qe,.func (PySem.W.fnOf "law" "law" (aE fh) (ak fh) (af fh) .none Ev Ew Ex DJ uP Ey),QO⟩)
  (Gf:PySem.W.codeIn K uP "law"=true) (JX:PySem.W.keepIn K (.ref oh)=true)
  (z_abs:PySem.W.nsIn K mainGlobals "abs"=some none)
  (z_enumerate:PySem.W.nsIn K mainGlobals "enumerate"=some none)
  (z_int:PySem.W.nsIn K mainGlobals "int"=some none)
  (z_len:PySem.W.nsIn K mainGlobals "len"=some none)
  (z_list:PySem.W.nsIn K mainGlobals "list"=some none)
  (z_max:PySem.W.nsIn K mainGlobals "max"=some none)
  (z_min:PySem.W.nsIn K mainGlobals "min"=some none)
  (z_range:PySem.W.nsIn K mainGlobals "range"=some none)
  (z_sorted:PySem.W.nsIn K mainGlobals "sorted"=some none)
  (z_sum:PySem.W.nsIn K mainGlobals "sum"=some none)
  (z_tuple:PySem.W.nsIn K mainGlobals "tuple"=some none)
  (z_zip:PySem.W.nsIn K mainGlobals "zip"=some none)
  (u_SQUARES:PySem.W.nsIn K mainGlobals "SQUARES"=some (some (.str "squares" tk_SQUARES)))
  (u_STREETS:PySem.W.nsIn K mainGlobals "STREETS"=some (some (.str "streets" tk_STREETS))) :
  ∃ (c T:Addr) (fd:FuncData),K.lookup T=some (PySem.W.tabObj #[])/\PySem.W.codeHdIn K c T=true/\(∀ (s:Shared) (v:Value),BindsTo s fd ⟨[v],[]⟩ [("script",v)])/\∀ base:Heap,(aw T K).In base->base.Ns mainGlobals mg->FnOk l.prog w (aw T K) mg base km 8 fa fd ["script"] (wk (aw T K) T):=by
 have e:=hfa.symm.trans (PySem.W.mg_of X Gs wV);cases e;refine⟨mF,aB,PySem.W.fnOf "law" "law" (aE fh) (ak fh) (af fh) .none Ev Ew Ex DJ uP Ey,aq,wG,λs v=>.of_eq rfl,λbase _ _=>?_⟩
 letI:KF:=⟨(aw aB K),λ_=>0,[(aB,#[],⟨122,25,122,43⟩,("greatest_first":Str)++".<locals>."++"<lambda>")]⟩
 have E:Gl ⟨l.prog,w,(aw aB K),mg,base⟩:=⟨PySem.W.mg_none_of X Gs z_abs,PySem.W.mg_none_of X Gs z_enumerate,PySem.W.mg_none_of X Gs z_int,PySem.W.mg_none_of X Gs z_len,PySem.W.mg_none_of X Gs z_list,PySem.W.mg_none_of X Gs z_max,PySem.W.mg_none_of X Gs z_min,PySem.W.mg_none_of X Gs z_range,PySem.W.mg_none_of X Gs z_sorted,PySem.W.mg_none_of X Gs z_sum,PySem.W.mg_none_of X Gs z_tuple,PySem.W.mg_none_of X Gs z_zip,⟨_,.str "squares",PySem.W.mg_of X Gs u_SQUARES,⟨_,rfl⟩,λF=>.str _⟩,⟨_,.str "streets",PySem.W.mg_of X Gs u_STREETS,⟨_,rfl⟩,λF=>.str _⟩⟩;have JY:=aR (K:=(aw aB K)) (st:=ic) (aC aq wl) (ay aq EC) (ax aq wl);have CJ:FnD ⟨l.prog,w,(aw aB K),mg,base⟩ "need_count" ic ["count"] _ _:=⟨JY,PySem.W.mg_of X Gs EA,JY.binds λ_ _ _ _ _ _ us hl=>len1 (λ_=>rfl) us hl⟩;have Zm:=aR (K:=(aw aB K)) (st:=pB) (aC aq Im) (ay aq UJ) (ax aq Im);have NG:FnD ⟨l.prog,w,(aw aB K),mg,base⟩ "need_as_many_numbers" pB ["point","count"] _ _:=⟨Zm,PySem.W.mg_of X Gs UI,Zm.binds λ_ _ _ _ _ _ us hl=>len2 (λ_ _=>rfl) us hl⟩;have JZ:=aR (K:=(aw aB K)) (st:=ie) (aC aq wm) (ay aq EF) (ax aq wm);have CL:FnD ⟨l.prog,w,(aw aB K),mg,base⟩ "need_points" ie ["points"] _ _:=⟨JZ,PySem.W.mg_of X Gs EE,JZ.binds λ_ _ _ _ _ _ us hl=>len1 (λ_=>rfl) us hl⟩;have Ka:=aR (K:=(aw aB K)) (st:=ig) (aC aq wn) (ay aq EJ) (ax aq wn);have CM:FnD ⟨l.prog,w,(aw aB K),mg,base⟩ "need_way" ig ["way"] _ _:=⟨Ka,PySem.W.mg_of X Gs EH,Ka.binds λ_ _ _ _ _ _ us hl=>len1 (λ_=>rfl) us hl⟩;have Zn:=aR (K:=(aw aB K)) (st:=pD) (aC aq Io) (ay aq UL) (ax aq Io);have NJ:FnD ⟨l.prog,w,(aw aB K),mg,base⟩ "need_points_and_way" pD ["points","way"] _ _:=⟨Zn,PySem.W.mg_of X Gs UK,Zn.binds λ_ _ _ _ _ _ us hl=>len2 (λ_ _=>rfl) us hl⟩;have Zo:=aR (K:=(aw aB K)) (st:=pF) (aC aq Iq) (ay aq UN) (ax aq Iq);have NK:FnD ⟨l.prog,w,(aw aB K),mg,base⟩ "need_two_lists" pF ["points","others"] _ _:=⟨Zo,PySem.W.mg_of X Gs UM,Zo.binds λ_ _ _ _ _ _ us hl=>len2 (λ_ _=>rfl) us hl⟩;have Kb:=aR (K:=(aw aB K)) (st:=ii) (aC aq wo) (ay aq EL) (ax aq wo);have CP:FnD ⟨l.prog,w,(aw aB K),mg,base⟩ "need_place" ii ["points","place"] _ _:=⟨Kb,PySem.W.mg_of X Gs EK,Kb.binds λ_ _ _ _ _ _ us hl=>len2 (λ_ _=>rfl) us hl⟩;have Kc:=aR (K:=(aw aB K)) (st:=ik) (aC aq wp) (ay aq EN) (ax aq wp);have CQ:FnD ⟨l.prog,w,(aw aB K),mg,base⟩ "need_bound" ik ["bound"] _ _:=⟨Kc,PySem.W.mg_of X Gs EM,Kc.binds λ_ _ _ _ _ _ us hl=>len1 (λ_=>rfl) us hl⟩;have Kd:=aR (K:=(aw aB K)) (st:=il) (aC aq wq) (ay aq ER) (ax aq wq)
 have CS:FnD ⟨l.prog,w,(aw aB K),mg,base⟩ "need_number" il ["number"] _ _:=⟨Kd,PySem.W.mg_of X Gs EQ,Kd.binds λ_ _ _ _ _ _ us hl=>len1 (λ_=>rfl) us hl⟩;have Zp:=aR (K:=(aw aB K)) (st:=pG) (aC aq Ir) (ay aq UP) (ax aq Ir);have NO:FnD ⟨l.prog,w,(aw aB K),mg,base⟩ "need_place_of_number" pG ["points","number"] _ _:=⟨Zp,PySem.W.mg_of X Gs UO,Zp.binds λ_ _ _ _ _ _ us hl=>len2 (λ_ _=>rfl) us hl⟩;have Ke:=aR (K:=(aw aB K)) (st:=im) (aC aq wr) (ay aq EU) (ax aq wr);have CU:FnD ⟨l.prog,w,(aw aB K),mg,base⟩ "point_moved" im ["point","by"] _ _:=⟨Ke,PySem.W.mg_of X Gs ET,Ke.binds λ_ _ _ _ _ _ us hl=>len2 (λ_ _=>rfl) us hl⟩
 have Kf:=aR (K:=(aw aB K)) (st:=ip) (aC aq wt) (ay aq EZ) (ax aq wt);have CV:FnD ⟨l.prog,w,(aw aB K),mg,base⟩ "point_mirrored" ip ["point","number"] _ _:=⟨Kf,PySem.W.mg_of X Gs EY,Kf.binds λ_ _ _ _ _ _ us hl=>len2 (λ_ _=>rfl) us hl⟩;have Zq:=aR (K:=(aw aB K)) (st:=pI) (aC aq Iu) (ay aq UR) (ax aq Iu);have NR:FnD ⟨l.prog,w,(aw aB K),mg,base⟩ "point_exchanged" pI ["point","one","other"] _ _:=⟨Zq,PySem.W.mg_of X Gs UQ,Zq.binds λ_ _ _ _ _ _ us hl=>len3 (λ_ _ _=>rfl) us hl⟩;have Kg:=aR (K:=(aw aB K)) (st:=iq) (aC aq wu) (ay aq Fb) (ax aq wu);have CY:FnD ⟨l.prog,w,(aw aB K),mg,base⟩ "moved" iq ["points","by"] _ _:=⟨Kg,PySem.W.mg_of X Gs Fa,Kg.binds λ_ _ _ _ _ _ us hl=>len2 (λ_ _=>rfl) us hl⟩
 have Kh:=aR (K:=(aw aB K)) (st:=ir) (aC aq wv) (ay aq Fd) (ax aq wv);have CZ:FnD ⟨l.prog,w,(aw aB K),mg,base⟩ "mirrored" ir ["points","number"] _ _:=⟨Kh,PySem.W.mg_of X Gs Fc,Kh.binds λ_ _ _ _ _ _ us hl=>len2 (λ_ _=>rfl) us hl⟩;have Ki:=aR (K:=(aw aB K)) (st:=iu) (aC aq ww) (ay aq Ff) (ax aq ww);have Da:FnD ⟨l.prog,w,(aw aB K),mg,base⟩ "exchanged" iu ["points","one","other"] _ _:=⟨Ki,PySem.W.mg_of X Gs Fe,Ki.binds λ_ _ _ _ _ _ us hl=>len3 (λ_ _ _=>rfl) us hl⟩;have Kj:=aR (K:=(aw aB K)) (st:=iw) (aC aq wx) (ay aq Fh) (ax aq wx);have Db:FnD ⟨l.prog,w,(aw aB K),mg,base⟩ "times" iw ["points","many"] _ _:=⟨Kj,PySem.W.mg_of X Gs Fg,Kj.binds λ_ _ _ _ _ _ us hl=>len2 (λ_ _=>rfl) us hl⟩;have Kk:=aR (K:=(aw aB K)) (st:=iy) (aC aq wy) (ay aq Fk) (ax aq wy);have Dc:FnD ⟨l.prog,w,(aw aB K),mg,base⟩ "moved_by" iy ["points","others"] _ _:=⟨Kk,PySem.W.mg_of X Gs Fj,Kk.binds λ_ _ _ _ _ _ us hl=>len2 (λ_ _=>rfl) us hl⟩;have Kl:=aR (K:=(aw aB K)) (st:=iA) (aC aq wz) (ay aq Fm) (ax aq wz);have Dd:FnD ⟨l.prog,w,(aw aB K),mg,base⟩ "far_between" iA ["way","point","other"] _ _:=⟨Kl,PySem.W.mg_of X Gs Fl,Kl.binds λ_ _ _ _ _ _ us hl=>len3 (λ_ _ _=>rfl) us hl⟩;have Zr:=aR (K:=(aw aB K)) (st:=pM) (aC aq Iv) (ay aq UT) (ax aq Iv);have NY:FnD ⟨l.prog,w,(aw aB K),mg,base⟩ "pairs_by_places" pM ["points","way"] _ _:=⟨Zr,PySem.W.mg_of X Gs US,Zr.binds λ_ _ _ _ _ _ us hl=>len2 (λ_ _=>rfl) us hl⟩;have Km:=aR (K:=(aw aB K)) (st:=iC) (aC aq wA) (ay aq Fp) (ax aq wA);have Dg:FnD ⟨l.prog,w,(aw aB K),mg,base⟩ "all_pairs" iC ["points","way"] _ _:=⟨Km,PySem.W.mg_of X Gs Fo,Km.binds λ_ _ _ _ _ _ us hl=>len2 (λ_ _=>rfl) us hl⟩;have Kn:=aR (K:=(aw aB K)) (st:=iD) (aC aq wB) (ay aq Fs) (ax aq wB);have Dh:FnD ⟨l.prog,w,(aw aB K),mg,base⟩ "nearest_among" iD ["points","way","point","places"] _ _:=⟨Kn,PySem.W.mg_of X Gs Fq,Kn.binds λ_ _ _ _ _ _ us hl=>len4 (λ_ _ _ _=>rfl) us hl⟩;have Ko:=aR (K:=(aw aB K)) (st:=iE) (aC aq wC) (ay aq Fu) (ax aq wC);have Di:FnD ⟨l.prog,w,(aw aB K),mg,base⟩ "nearest_other" iE ["points","way","place"] _ _:=⟨Ko,PySem.W.mg_of X Gs Ft,Ko.binds λ_ _ _ _ _ _ us hl=>len3 (λ_ _ _=>rfl) us hl⟩;have Kq:=aR (K:=(aw aB K)) (st:=iG) (aC aq wD) (ay aq Fx) (ax aq wD);have Dj:FnD ⟨l.prog,w,(aw aB K),mg,base⟩ "nearest_two" iG ["points","way"] _ _:=⟨Kq,PySem.W.mg_of X Gs Fv,Kq.binds λ_ _ _ _ _ _ us hl=>len2 (λ_ _=>rfl) us hl⟩
 have Kr:=aR (K:=(aw aB K)) (st:=iH) (aC aq wE) (ay aq Fz) (ax aq wE);have Dk:FnD ⟨l.prog,w,(aw aB K),mg,base⟩ "nearest_all" iH ["points","way"] _ _:=⟨Kr,PySem.W.mg_of X Gs Fy,Kr.binds λ_ _ _ _ _ _ us hl=>len2 (λ_ _=>rfl) us hl⟩;have Zs:=aR (K:=(aw aB K)) (st:=pP) (aC aq Iw) (ay aq UV) (ax aq Iw);have Oe:FnD ⟨l.prog,w,(aw aB K),mg,base⟩ "greatest_bound" pP ["points","way"] _ _:=⟨Zs,PySem.W.mg_of X Gs UU,Zs.binds λ_ _ _ _ _ _ us hl=>len2 (λ_ _=>rfl) us hl⟩;have Ks:=aR (K:=(aw aB K)) (st:=iI) (aC aq wF) (ay aq FB) (ax aq wF);have Dm:FnD ⟨l.prog,w,(aw aB K),mg,base⟩ "near_pairs" iI ["points","way","bound"] _ _:=⟨Ks,PySem.W.mg_of X Gs FA,Ks.binds λ_ _ _ _ _ _ us hl=>len3 (λ_ _ _=>rfl) us hl⟩;have Zt:=aR (K:=(aw aB K)) (st:=lY) (aC aq Ix) (ay aq UX) (ax aq Ix);have ye:FnD ⟨l.prog,w,(aw aB K),mg,base⟩ "greatest_first" lY ["told"] _ _:=⟨Zt,PySem.W.mg_of X Gs UW,Zt.binds λ_ _ _ _ _ _ us hl=>len1 (λ_=>rfl) us hl⟩;have Kt:=aR (K:=(aw aB K)) (st:=iJ) (aC aq wH) (ay aq FE) (ax aq wH);have Dq:FnD ⟨l.prog,w,(aw aB K),mg,base⟩ "fars_of" iJ ["points","way","place"] _ _:=⟨Kt,PySem.W.mg_of X Gs FD,Kt.binds λ_ _ _ _ _ _ us hl=>len3 (λ_ _ _=>rfl) us hl⟩;have Ku:=aR (K:=(aw aB K)) (st:=iK) (aC aq wI) (ay aq FG) (ax aq wI);have Ds:FnD ⟨l.prog,w,(aw aB K),mg,base⟩ "farthest_two" iK ["points","way"] _ _:=⟨Ku,PySem.W.mg_of X Gs FF,Ku.binds λ_ _ _ _ _ _ us hl=>len2 (λ_ _=>rfl) us hl⟩;have Kv:=aR (K:=(aw aB K)) (st:=iL) (aC aq wJ) (ay aq FI) (ax aq wJ);have Dt:FnD ⟨l.prog,w,(aw aB K),mg,base⟩ "middle" iL ["points","way"] _ _:=⟨Kv,PySem.W.mg_of X Gs FH,Kv.binds λ_ _ _ _ _ _ us hl=>len2 (λ_ _=>rfl) us hl⟩;have Kw:=aR (K:=(aw aB K)) (st:=iM) (aC aq wK) (ay aq FK) (ax aq wK);have Du:FnD ⟨l.prog,w,(aw aB K),mg,base⟩ "sums_place" iM ["points","way"] _ _:=⟨Kw,PySem.W.mg_of X Gs FJ,Kw.binds λ_ _ _ _ _ _ us hl=>len2 (λ_ _=>rfl) us hl⟩;have Kx:=aR (K:=(aw aB K)) (st:=iO) (aC aq wL) (ay aq FM) (ax aq wL);have Dv:FnD ⟨l.prog,w,(aw aB K),mg,base⟩ "joined" iO ["leasts","i","j"] _ _:=⟨Kx,PySem.W.mg_of X Gs FL,Kx.binds λ_ _ _ _ _ _ us hl=>len3 (λ_ _ _=>rfl) us hl⟩;have Ky:=aR (K:=(aw aB K)) (st:=iP) (aC aq wM) (ay aq FO) (ax aq wM);have Dw:FnD ⟨l.prog,w,(aw aB K),mg,base⟩ "parts_within" iP ["points","way","bound"] _ _:=⟨Ky,PySem.W.mg_of X Gs FN,Ky.binds λ_ _ _ _ _ _ us hl=>len3 (λ_ _ _=>rfl) us hl⟩
 have Kz:=aR (K:=(aw aB K)) (st:=iQ) (aC aq wN) (ay aq FQ) (ax aq wN);have Dx:FnD ⟨l.prog,w,(aw aB K),mg,base⟩ "least_tree" iQ ["points","way"] _ _:=⟨Kz,PySem.W.mg_of X Gs FP,Kz.binds λ_ _ _ _ _ _ us hl=>len2 (λ_ _=>rfl) us hl⟩;have KA:=aR (K:=(aw aB K)) (st:=iR) (aC aq wO) (ay aq FS) (ax aq wO);have Dy:FnD ⟨l.prog,w,(aw aB K),mg,base⟩ "_law_next" iR ["pot","many"] _ _:=⟨KA,PySem.W.mg_of X Gs FR,KA.binds λ_ _ _ _ _ _ us hl=>len2 (λ_ _=>rfl) us hl⟩;have KB:=aR (K:=(aw aB K)) (st:=iT) (aC aq wP) (ay aq FU) (ax aq wP);have Dz:FnD ⟨l.prog,w,(aw aB K),mg,base⟩ "_law_pots" iT ["script"] _ _:=⟨KB,PySem.W.mg_of X Gs FT,KB.binds λ_ _ _ _ _ _ us hl=>len1 (λ_=>rfl) us hl⟩;have KC:=aR (K:=(aw aB K)) (st:=iU) (aC aq wQ) (ay aq FW) (ax aq wQ);have DA:FnD ⟨l.prog,w,(aw aB K),mg,base⟩ "_law_points" iU ["pot","count","most"] _ _:=⟨KC,PySem.W.mg_of X Gs FV,KC.binds λ_ _ _ _ _ _ us hl=>len3 (λ_ _ _=>rfl) us hl⟩;have KD:=aR (K:=(aw aB K)) (st:=iV) (aC aq wR) (ay aq FY) (ax aq wR);have DB:FnD ⟨l.prog,w,(aw aB K),mg,base⟩ "_law_way" iV ["pot"] _ _:=⟨KD,PySem.W.mg_of X Gs FX,KD.binds λ_ _ _ _ _ _ us hl=>len1 (λ_=>rfl) us hl⟩;have KE:=aR (K:=(aw aB K)) (st:=iW) (aC aq wS) (ay aq Ga) (ax aq wS);have DC:FnD ⟨l.prog,w,(aw aB K),mg,base⟩ "_law_by" iW ["pot","count"] _ _:=⟨KE,PySem.W.mg_of X Gs FZ,KE.binds λ_ _ _ _ _ _ us hl=>len2 (λ_ _=>rfl) us hl⟩;have KG:=aR (K:=(aw aB K)) (st:=iX) (aC aq wT) (ay aq Gc) (ax aq wT);have DD:FnD ⟨l.prog,w,(aw aB K),mg,base⟩ "_law_told" iX ["points","way","bound"] _ _:=⟨KG,PySem.W.mg_of X Gs Gb,KG.binds λ_ _ _ _ _ _ us hl=>len3 (λ_ _ _=>rfl) us hl⟩;have KH:=aR (K:=(aw aB K)) (st:=iY) (aC aq wU) (ay aq Ge) (ax aq wU);have DE:FnD ⟨l.prog,w,(aw aB K),mg,base⟩ "_law_far_right" iY ["points","great","way","much"] _ _:=⟨KH,PySem.W.mg_of X Gs Gd,KH.binds λ_ _ _ _ _ _ us hl=>len4 (λ_ _ _ _=>rfl) us hl⟩;have Zu:=aR (K:=(aw aB K)) (st:=pW) (aC aq Iy) (ay aq UZ) (ax aq Iy);have Ow:FnD ⟨l.prog,w,(aw aB K),mg,base⟩ "_law_times_right" pW ["points","way","bound","many"] _ _:=⟨Zu,PySem.W.mg_of X Gs UY,Zu.binds λ_ _ _ _ _ _ us hl=>len4 (λ_ _ _ _=>rfl) us hl⟩;have Zv:=aR (K:=(aw aB K)) (st:=pY) (aC aq Iz) (ay aq Vb) (ax aq Iz);have Ox:FnD ⟨l.prog,w,(aw aB K),mg,base⟩ "_law_back_right" pY ["points","by","near","one","other"] _ _:=⟨Zv,PySem.W.mg_of X Gs Va,Zv.binds λ_ _ _ _ _ _ us hl=>len5 (λ_ _ _ _ _=>rfl) us hl⟩
 have KI:=aR (K:=(aw aB K)) (st:=fh) (aC aq wW) (ay aq Gf) (ax aq wW);have DI:FnD ⟨l.prog,w,(aw aB K),mg,base⟩ "law" fh ["script"] _ _:=⟨KI,PySem.W.mg_of X Gs wV,KI.binds λ_ _ _ _ _ _ us hl=>len1 (λ_=>rfl) us hl⟩;have lg:LamG ⟨l.prog,w,(aw aB K),mg,base⟩ (PySem.W.fnOf "greatest_first" "greatest_first" (aE lY) (ak lY) (af lY) .none Jh Ji Jj IZ (.ref mF) Jk) ⟨122,25,122,43⟩ "greatest_first":=⟨mF,aB,oi,DK,rfl,HN aq wG,List.mem_singleton.mpr rfl,mG.1,PySem.W.mg_of X Gs b_lam',mG.2.1,mG.2.2.1,mG.2.2.2,by rw[hZ mG.2.2.2];exact FC⟩
 exact NE rfl rfl E CJ NG CL CM NJ NK CP CQ CS NO CU CV NR CY CZ Da Db Dc Dd NY Dg Dh Di Dj Dk Oe Dm ye Dq Ds Dt Du Dv Dw Dx Dy Dz DA DB DC DD DE Ow Ox DI lg
theorem walk {l:PySem.W.OpenLaw}{q:Program}{loose:List Str}{XP:(Str->Option Value)->Heap->Prop}{YP:World->Heap->Prop}{d:DefRec}{K:Params->PySem.W.Frag}(hn:l.most=some 63)(hdf:d.params.defaults=[])
  (hY:∀ (w:World) (h:Heap),YP w h->(K w.params).In h)
  (F:∀ (w:World) (mg:Str->Option Value) (fa:Addr) (h:Heap),(K w.params).In h->h.Ns mainGlobals mg->mg d.name=some (.ref fa) ->
   ∃ (c T:Addr) (fd:FuncData),(K w.params).lookup T=some (PySem.W.tabObj #[])/\PySem.W.codeHdIn (K w.params) c T=true/\(∀ (s:Shared) (u:Value),BindsTo s fd ⟨[u],[]⟩ [("script",u)])/\∀ base:Heap,(aw T (K w.params)).In base->base.Ns mainGlobals mg->FnOk l.prog w (aw T (K w.params)) mg base km 8 fa fd ["script"] (wk (aw T (K w.params)) T)) :
  PySem.W.WalkO q loose XP YP l.row.toRowW d [] (λf vs=>PySem.call f vs) :=
 Ai (n:=63) (k:=8) (x:="script") (lpos:=⟨122,25,122,43⟩) (qual:=("greatest_first":Str)++".<locals>."++"<lambda>") (sp:=wk) hn (by decide) hdf ⟨rfl,by decide,by decide⟩ hY F (λ_ _ _ a ns hl hT hS=>⟨a,ns,rfl,hS,hl,hT,λ_ sm=>⟨rfl,sm⟩⟩)

end K53
theorem PySem.W.Fast.tw4642278519921114141:True:=trivial
theorem PySem.W.Fast.tw13737907843458885830:True:=trivial
theorem PySem.W.Fast.tw5802478779035148272:True:=trivial
theorem PySem.W.Fast.tw12615066172201091948:True:=trivial
theorem PySem.W.Fast.tw8108275623899245361:True:=trivial
theorem PySem.W.Fast.tw4461263548874691863:True:=trivial
theorem PySem.W.Fast.tw18199850751100598791:True:=trivial
theorem PySem.W.Fast.tw15560255352547308043:True:=trivial
theorem PySem.W.Fast.tw15281697770880385224:True:=trivial
theorem PySem.W.Fast.tw13989753734678774868:True:=trivial
theorem PySem.W.Fast.tw692160412507004578:True:=trivial
theorem PySem.W.Fast.tw1505763736681862952:True:=trivial
theorem PySem.W.Fast.tw11388860184458221763:True:=trivial
theorem PySem.W.Fast.tw3716570099536215332:True:=trivial
theorem PySem.W.Fast.tw8293263616867137806:True:=trivial
theorem PySem.W.Fast.tw10239070298345675905:True:=trivial
theorem PySem.W.Fast.tw1855420082203351963:True:=trivial
theorem PySem.W.Fast.tw5865153927186393265:True:=trivial
theorem PySem.W.Fast.tw4800481176645567013:True:=trivial
theorem PySem.W.Fast.tw8913770845643394597:True:=trivial
theorem PySem.W.Fast.tw5566999717732777266:True:=trivial
theorem PySem.W.Fast.tw18044458787209535491:True:=trivial
theorem PySem.W.Fast.tw4246447827692828037:True:=trivial
theorem PySem.W.Fast.tw10071414092513804039:True:=trivial
theorem PySem.W.Fast.tw2821348423190844631:True:=trivial
theorem PySem.W.Fast.tw7440105501496772543:True:=trivial
theorem PySem.W.Fast.tw2208125963956327643:True:=trivial
theorem PySem.W.Fast.tw3829060637257436158:True:=trivial
theorem PySem.W.Fast.tw11650195362478588965:True:=trivial
theorem PySem.W.Fast.tw16589918174031439003:True:=trivial
theorem PySem.W.Fast.tw17275983945805041452:True:=trivial
theorem PySem.W.Fast.tw3385684047840658476:True:=trivial
theorem PySem.W.Fast.tw14616100603116967301:True:=trivial
theorem PySem.W.Fast.tw10073747024891216706:True:=trivial
theorem PySem.W.Fast.tw7996866505485926497:True:=trivial
theorem PySem.W.Fast.tw6806567606063660905:True:=trivial
theorem PySem.W.Fast.tw5997631096991224892:True:=trivial
theorem PySem.W.Fast.tw8471685693813865028:True:=trivial
theorem PySem.W.Fast.tw9151426513131159384:True:=trivial
theorem PySem.W.Fast.tw2377857887201449866:True:=trivial
theorem PySem.W.Fast.tw18061975579054840207:True:=trivial
theorem PySem.W.Fast.tw10702412264041811819:True:=trivial
theorem PySem.W.Fast.tw11280532121186209038:True:=trivial
theorem PySem.W.Fast.tw1517902581285207172:True:=trivial
theorem PySem.W.Fast.tw14381022855200696344:True:=trivial
theorem PySem.W.Fast.tw11939435405786134431:True:=trivial
theorem PySem.W.Fast.tw12539249386733361826:True:=trivial
theorem PySem.W.Fast.tw14179940884442255923:True:=trivial
theorem PySem.W.Fast.tw9040667804919947751:True:=trivial
theorem PySem.W.Fast.tw7856552728806160519:True:=trivial
theorem PySem.W.Fast.tw10933436471138670669:True:=trivial
open PySem PySem.W PyProof.Rows
set_option maxRecDepth 100000 in
set_option maxHeartbeats 0 in
theorem PySem.Challenge.cw_closepoints_k53_whole_turned_points_holds : PySem.Challenge.rw_closepoints_k53_whole_turned_points.Holds := by
 w_on;o_law;z_head;(case hw=>w_witness2)
 k_fill
 refine Vc.x_of_o (λ_=>by kernel_rfl) (K53.walk (l:=PySem.Challenge.rw_closepoints_k53_whole_turned_points) rfl rfl (λw h Y=>Y) ?F)
 case F =>
  intro w mg fa h KX G hmg;refine' K53.all_mk KX G hmg ?EA ?wl ?EC ?Jn ?UI ?Im ?UJ ?Zc ?EE ?wm ?EF ?Jo ?EH ?wn ?EJ ?Jp ?UK ?Io ?UL ?Zd ?UM ?Iq ?UN ?Ze ?EK ?wo ?EL ?Jq ?EM ?wp ?EN ?Jr ?EQ ?wq ?ER ?Js ?UO ?Ir ?UP ?Zf ?ET ?wr ?EU ?Jt ?EY ?wt ?EZ ?Ju ?UQ ?Iu ?UR ?Zg ?Fa ?wu ?Fb ?Jv ?Fc ?wv ?Fd ?Jw ?Fe ?ww ?Ff ?Jx ?Fg ?wx ?Fh ?Jy ?Fj ?wy ?Fk ?Jz ?Fl ?wz ?Fm ?JA ?US ?Iv ?UT ?Zh ?Fo ?wA ?Fp ?JB ?Fq ?wB ?Fs ?JC ?Ft ?wC ?Fu ?JD ?Fv ?wD ?Fx ?JE ?Fy ?wE ?Fz ?JF ?UU ?Iw ?UV ?Zi ?FA ?wF ?FB ?JG ?UW ?Ix ?UX ?Zj ?JH ?JI ?aq ?wG ?b_lam' ?FC ?mG ?FD ?wH ?FE ?JJ ?FF ?wI ?FG ?JK ?FH ?wJ ?FI ?JL ?FJ ?wK ?FK ?JM ?FL ?wL ?FM ?JN ?FN ?wM ?FO ?JO ?FP ?wN ?FQ ?JP ?FR ?wO ?FS ?JQ ?FT ?wP ?FU ?JR ?FV ?wQ ?FW ?JS ?FX ?wR ?FY ?JT ?FZ ?wS ?Ga ?JU ?Gb ?wT ?Gc ?JV ?Gd ?wU ?Ge ?JW ?UY ?Iy ?UZ ?Zk ?Va ?Iz ?Vb ?Zl ?wV ?wW ?Gf ?JX ?z_abs ?z_enumerate ?z_int ?z_len ?z_list ?z_max ?z_min ?z_range ?z_sorted ?z_sum ?z_tuple ?z_zip ?u_SQUARES ?u_STREETS
  (case EA=>k_is)
  (case wl=>k_is)
  (case EC=>k_is)
  (case Jn=>k_is)
  (case UI=>k_is)
  (case Im=>k_is)
  (case UJ=>k_is)
  (case Zc=>k_is)
  (case EE=>k_is)
  (case wm=>k_is)
  (case EF=>k_is)
  (case Jo=>k_is)
  (case EH=>k_is)
  (case wn=>k_is)
  (case EJ=>k_is)
  (case Jp=>k_is)
  (case UK=>k_is)
  (case Io=>k_is)
  (case UL=>k_is)
  (case Zd=>k_is)
  (case UM=>k_is)
  (case Iq=>k_is)
  (case UN=>k_is)
  (case Ze=>k_is)
  (case EK=>k_is)
  (case wo=>k_is)
  (case EL=>k_is)
  (case Jq=>k_is)
  (case EM=>k_is)
  (case wp=>k_is)
  (case EN=>k_is)
  (case Jr=>k_is)
  (case EQ=>k_is)
  (case wq=>k_is)
  (case ER=>k_is)
  (case Js=>k_is)
  (case UO=>k_is)
  (case Ir=>k_is)
  (case UP=>k_is)
  (case Zf=>k_is)
  (case ET=>k_is)
  (case wr=>k_is)
  (case EU=>k_is)
  (case Jt=>k_is)
  (case EY=>k_is)
  (case wt=>k_is)
  (case EZ=>k_is)
  (case Ju=>k_is)
  (case UQ=>k_is)
  (case Iu=>k_is)
  (case UR=>k_is)
  (case Zg=>k_is)
  (case Fa=>k_is)
  (case wu=>k_is)
  (case Fb=>k_is)
  (case Jv=>k_is)
  (case Fc=>k_is)
  (case wv=>k_is)
  (case Fd=>k_is)
  (case Jw=>k_is)
  (case Fe=>k_is)
  (case ww=>k_is)
  (case Ff=>k_is)
  (case Jx=>k_is)
  (case Fg=>k_is)
  (case wx=>k_is)
  (case Fh=>k_is)
  (case Jy=>k_is)
  (case Fj=>k_is)
  (case wy=>k_is)
  (case Fk=>k_is)
  (case Jz=>k_is)
  (case Fl=>k_is)
  (case wz=>k_is)
  (case Fm=>k_is)
  (case JA=>k_is)
  (case US=>k_is)
  (case Iv=>k_is)
  (case UT=>k_is)
  (case Zh=>k_is)
  (case Fo=>k_is)
  (case wA=>k_is)
  (case Fp=>k_is)
  (case JB=>k_is)
  (case Fq=>k_is)
  (case wB=>k_is)
  (case Fs=>k_is)
  (case JC=>k_is)
  (case Ft=>k_is)
  (case wC=>k_is)
  (case Fu=>k_is)
  (case JD=>k_is)
  (case Fv=>k_is)
  (case wD=>k_is)
  (case Fx=>k_is)
  (case JE=>k_is)
  (case Fy=>k_is)
  (case wE=>k_is)
  (case Fz=>k_is)
  (case JF=>k_is)
  (case UU=>k_is)
  (case Iw=>k_is)
  (case UV=>k_is)
  (case Zi=>k_is)
  (case FA=>k_is)
  (case wF=>k_is)
  (case FB=>k_is)
  (case JG=>k_is)
  (case UW=>k_is)
  (case Ix=>k_is)
  (case UX=>k_is)
  (case Zj=>k_is)
  (case JH=>k_is)
  (case JI=>exact rfl)
  (case aq=>k_is)
  (case wG=>kernel_rfl)
  (case b_lam'=>k_is)
  (case FC=>k_is)
  (case mG=>decide)
  (case FD=>k_is)
  (case wH=>k_is)
  (case FE=>k_is)
  (case JJ=>k_is)
  (case FF=>k_is)
  (case wI=>k_is)
  (case FG=>k_is)
  (case JK=>k_is)
  (case FH=>k_is)
  (case wJ=>k_is)
  (case FI=>k_is)
  (case JL=>k_is)
  (case FJ=>k_is)
  (case wK=>k_is)
  (case FK=>k_is)
  (case JM=>k_is)
  (case FL=>k_is)
  (case wL=>k_is)
  (case FM=>k_is)
  (case JN=>k_is)
  (case FN=>k_is)
  (case wM=>k_is)
  (case FO=>k_is)
  (case JO=>k_is)
  (case FP=>k_is)
  (case wN=>k_is)
  (case FQ=>k_is)
  (case JP=>k_is)
  (case FR=>k_is)
  (case wO=>k_is)
  (case FS=>k_is)
  (case JQ=>k_is)
  (case FT=>k_is)
  (case wP=>k_is)
  (case FU=>k_is)
  (case JR=>k_is)
  (case FV=>k_is)
  (case wQ=>k_is)
  (case FW=>k_is)
  (case JS=>k_is)
  (case FX=>k_is)
  (case wR=>k_is)
  (case FY=>k_is)
  (case JT=>k_is)
  (case FZ=>k_is)
  (case wS=>k_is)
  (case Ga=>k_is)
  (case JU=>k_is)
  (case Gb=>k_is)
  (case wT=>k_is)
  (case Gc=>k_is)
  (case JV=>k_is)
  (case Gd=>k_is)
  (case wU=>k_is)
  (case Ge=>k_is)
  (case JW=>k_is)
  (case UY=>k_is)
  (case Iy=>k_is)
  (case UZ=>k_is)
  (case Zk=>k_is)
  (case Va=>k_is)
  (case Iz=>k_is)
  (case Vb=>k_is)
  (case Zl=>k_is)
  (case wV=>k_is)
  (case wW=>k_is)
  (case Gf=>k_is)
  (case JX=>k_is)
  (case z_abs=>k_is)
  (case z_enumerate=>k_is)
  (case z_int=>k_is)
  (case z_len=>k_is)
  (case z_list=>k_is)
  (case z_max=>k_is)
  (case z_min=>k_is)
  (case z_range=>k_is)
  (case z_sorted=>k_is)
  (case z_sum=>k_is)
  (case z_tuple=>k_is)
  (case z_zip=>k_is)
  (case u_SQUARES=>k_is)
  (case u_STREETS=>k_is)

