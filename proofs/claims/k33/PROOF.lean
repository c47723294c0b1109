import PyProof.Rows.All
import Wide.All
import OpenK.AllK
import Wide.FinOn
import Lean
import PyProof.EqAt
import PyProof.EqKinds
import PyProof.TupleCall
import PySem.Challenge.RW_closepoints_k33_whole_kept_as_plain
noncomputable section
set_option Elab.async false
set_option linter.all false
set_option maxRecDepth 100000
local macro_rules|`(tactic| walk_at "9")=>`(tactic| first|k_is|kernel_rfl|decide)
set_option compiler.extract_closed false
-- CHANGE: your row's module here,as the last of these rows
namespace L2
open PySem PySem.Spec PyProof.Rows

abbrev bx:=Sum Int Str
def jI:bx->Value->Bool
 | .inl k,v=>Value.isInt k v
 | .inr x,v=>Value.isStrOf x v
def Ul (w:World):bx->Int
 | .inl k=>hashInt k
 | .inr x=>hashStr w x
theorem bg:∀ {k:bx} {v:Value},jI k v=true->(∃ i t,k=Sum.inl i/\v=Value.int i t)\/(∃ x t,k=Sum.inr x/\v=Value.str x t)
 | .inl i,v,h=>by
  obtain⟨t,e⟩:=Value.isInt_shape (k:=i) (v:=v) h;exact .inl ⟨i,t,rfl,e⟩
 | .inr x,v,h=>by
  obtain⟨t,e⟩:=Value.isStrOf_shape (x:=x) (v:=v) h;exact .inr ⟨x,t,rfl,e⟩
theorem uM (i:Int)(t:Tok):jI (.inl i) (.int i t)=true:=by simp [jI,Value.isInt]
theorem uN (x:Str)(t:Tok):jI (.inr x) (.str x t)=true:=by simp [jI,Value.isStrOf]
theorem GF (a b:Int):decide ((Sum.inl a:bx)=Sum.inl b)=(a==b):=by
 by_cases e:a=b
 ·subst e;simp
 ·have h:¬ (Sum.inl a:bx)=Sum.inl b:=λq=>e (Sum.inl.inj q)
  rw[decide_eq_false h];exact (beq_eq_false_iff_ne.mpr e).symm
theorem GG (a b:Str):decide ((Sum.inr a:bx)=Sum.inr b)=decide (a=b):=by
 by_cases e:a=b
 ·subst e;simp
 ·have h:¬ (Sum.inr a:bx)=Sum.inr b:=λq=>e (Sum.inr.inj q)
  rw[decide_eq_false h,decide_eq_false e]
theorem GH (a:Int)(b:Str):decide ((Sum.inl a:bx)=Sum.inr b)=false:=decide_eq_false (λq=>nomatch q)
theorem GI (a:Str)(b:Int):decide ((Sum.inr a:bx)=Sum.inl b)=false:=decide_eq_false (λq=>nomatch q)

def bu (prog:Program)(w:World):PySem.KeyKind prog w bx where
 is:=jI
 hash:=Ul w
 inj:=λv a b ha hb=>by
  rcases bg ha with ⟨i,t,rfl,rfl⟩|⟨x,t,rfl,rfl⟩
  ·rcases bg hb with ⟨j,u,rfl,e⟩|⟨y,u,rfl,e⟩
   ·injection e with e1 _;rw[e1]
   ·exact nomatch e
  ·rcases bg hb with ⟨j,u,rfl,e⟩|⟨y,u,rfl,e⟩
   ·exact nomatch e
   ·injection e with e1 _;rw[e1]
 byValue:=λk v h=>by
  rcases bg h with ⟨i,t,rfl,rfl⟩|⟨x,t,rfl,rfl⟩<;>rfl
 pyHash:=λhv h=>by
  rcases bg hv with ⟨i,t,rfl,rfl⟩|⟨x,t,rfl,rfl⟩
  ·exact wpAny_pyHash_int h
  ·exact wpAny_pyHash_str h
 eqBool:=λhu hv h=>by
  rcases bg hu with ⟨i,t,rfl,rfl⟩|⟨x,t,rfl,rfl⟩
  ·rcases bg hv with ⟨j,u,rfl,rfl⟩|⟨y,u,rfl,rfl⟩
   ·rw[GF] at h;exact wpAny_eqBool_int h
   ·rw[GH] at h;exact SeqAt.EqAt.int_str i t y u _ _ _ _ h
  ·rcases bg hv with ⟨j,u,rfl,rfl⟩|⟨y,u,rfl,rfl⟩
   ·rw[GI] at h;exact SeqAt.EqAt.str_int x t j u _ _ _ _ h
   ·rw[GG] at h;exact wpAny_eqBool_str h
 «strs»:=λk x t v h=>by
  rcases bg h with ⟨i,u,rfl,e⟩|⟨y,u,rfl,e⟩
  ·exact nomatch e
  ·injection e with e1 _
   subst e1;cases v<;>rfl

theorem pD (prog:Program)(w:World)(i:Int)(t:Tok):(bu prog w).is (.inl i) (.int i t)=true:=uM i t
theorem pE (prog:Program)(w:World)(x:Str)(t:Tok):(bu prog w).is (.inr x) (.str x t)=true:=uN x t
end L2

namespace L2
open PySem PySem.Spec PyProof.Rows

inductive V where
 | non|bl (b:Bool)|int (i:Int)|str (x:Str)|byt (b:Array UInt8)|flt (b:UInt64)|ref (a:Addr)|ty (n:String)
 deriving DecidableEq

def RelV:V->Value->Prop
 | .non,u=>u=Value.none
 | .bl b,u=>u=Value.bool b
 | .int i,u=>∃ t,u=Value.int i t
 | .str x,u=>∃ t,u=Value.str x t
 | .byt b,u=>∃ t,u=Value.bytes b t
 | .flt b,u=>∃ t,u=Value.float b t
 | .ref a,u=>u=Value.ref a
 | .ty n,u=>u=Value.type n

abbrev Vals:List V->List Value->Prop:=Paired RelV
theorem Vals.length {xs:List V}{us:List Value}(r:Vals xs us):xs.length=us.length:=Paired.length r
theorem Vals.get:∀ {xs:List V} {us:List Value} {i:Nat} {x:V},Vals xs us->xs[i]?=some x->∃ u,us[i]?=some u/\RelV x u
 | _,_,_,_,.nil,e=>by simp at e
 | _,_,0,_,.cons r _,e=>by simp at e;subst e;exact⟨_,rfl,r⟩
 | _,_,i+1,x,.cons _ t,e=>by
  obtain⟨u,h1,h2⟩:=Vals.get (i:=i) (x:=x) t (by simpa using e)
  exact⟨u,by simpa using h1,h2⟩
theorem Vals.set {x:V}{u:Value}(r:RelV x u):∀ {xs:List V} {us:List Value} (i:Nat),Vals xs us->Vals (xs.set i x) (us.set i u)
 | _,_,_,.nil=>.nil
 | _,_,0,.cons _ t=>.cons r t
 | _,_,i+1,.cons q t=>.cons q (Vals.set r i t)
theorem Vals.append:∀ {xs ys:List V} {us ws:List Value},Vals xs us->Vals ys ws->Vals (xs++ys) (us++ws)
 | _,_,_,_,.nil,s=>s
 | _,_,_,_,.cons r t,s=>.cons r (Vals.append t s)
theorem Vals.take:∀ {xs:List V} {us:List Value} (n:Nat),Vals xs us->Vals (xs.take n) (us.take n)
 | _,_,0,_=>.nil
 | _,_,_+1,.nil=>.nil
 | _,_,n+1,.cons r t=>.cons r (Vals.take n t)
theorem Vals.drop:∀ {xs:List V} {us:List Value} (n:Nat),Vals xs us->Vals (xs.drop n) (us.drop n)
 | _,_,0,r=>r
 | _,_,_+1,.nil=>.nil
 | _,_,n+1,.cons _ t=>Vals.drop n t
def RelO:Option V->Option Value->Prop
 | some v,some u=>RelV v u
 | none,none=>True
 | _,_=>False
def KV {κ:Type}:List (κ×V)->List (κ×Value)->Prop:=Paired λ(p:κ×V) (q:κ×Value)=>p.1=q.1/\RelV p.2 q.2

def kV:bx->V
 | .inl i=>.int i
 | .inr x=>.str x

inductive HO where
 /-- a list -/
 | lst (xs:List V)
 /-- a tuple (never changes) -/
 | tup (xs:List V)
 /-- a dict whose keys are ints and texts;one whose keys are tuples of ints and texts (the empty one is both) -/
 | dK (kvs:List (bx×V))|dT (kvs:List (List bx×V))
 /-- a set of ints: its members,its size -/
 | set (S:Int->Bool) (n:Nat)
 /-- an instance of the class at C,its dict at dx,its attributes -/
 | ins (C dx:Addr) (fs:List (Str×V))
 /-- the dict of the instance at x -/
 | own (x:Addr)
 /-- the dict of an exception -/
 | xd (fs:List (Str×V))
 /-- a bound method,f of x -/
 | met (f x:Addr)
 /-- a range object lo,lo+1,.. below hi -/
 | rng (lo hi:Int)
 /-- a thing that is known to the object (the script;a dict while a loop walks it): read,never written while it is so -/
 | frz (o:Obj) (u:HO)
 /-- a code object's table -/
 | tbl (ps:Array Value)
 /-- the same,and it may grow by the code of one lambda: as it was,the lambda's place,its name -/
 | lam (ps:Array Value) (pos:Pos) (qual:Str)
 /-- any other thing,by what is true of its one object (a def of one's own: SetO a S n:=HO.ext λh=>..) -/
 | ext (φ:Heap->Prop)

abbrev Hp:=Addr->Option HO
def bj (H:Hp)(a:Addr)(o:HO):Hp:=λb=>if b=a then some o else H b
theorem ao {H:Hp}{a:Addr}{o:HO}:bj H a o a=some o:=by unfold bj;rw[if_pos rfl]
theorem ah {H:Hp}{a b:Addr}{o:HO}(h:b≠a):bj H a o b=H b:=by unfold bj;rw[if_neg h]
theorem dr {H:Hp}{a b:Addr}{o u:HO}(h:H a=some o)(h':H b=some u)(d:o≠u):a≠b:=by
 intro e;subst e;rw[h] at h';exact d (Option.some.inj h')
theorem aG {H:Hp}{a b:Addr}{o:HO}(h:H a=some o)(h':H b=none):a≠b:=by
 intro e;subst e;rw[h] at h';cases h'

section
variable (P:Program)(w:World)
def ObjOk (H:Hp)(h:Heap)(a:Addr):HO->Prop
 | .lst xs=>xs.length<=sizeLine/\∃ (its:List Value) (n:Nat),Vals xs its/\h.get? a=some { cls:=.type "list",data:=.seq its.toArray n }
 | .tup xs=>xs.length<=sizeLine/\∃ its:List Value,Vals xs its/\IsTup h a its.toArray
 | .dK kvs=>kvs.length<=sizeLine/\(a==sysModules)=false/\∃ vs,KV kvs vs/\h.DictOf (bu P w) a vs
 | .dT kvs=>kvs.length<=sizeLine/\(a==sysModules)=false/\∃ xs:List (List bx×Addr×Value),
   Paired (λ(p:List bx×V) (q:List bx×Addr×Value)=>p.1=q.1/\H q.2.1=some (.tup (p.1.map kV))/\RelV p.2 q.2.2) kvs xs /\
   ∃ o es ep,h.get? a=some o/\o.ExactDict/\o.data=.dict es ep/\es.toList=xs.map (entryOfKey (tupleKind (bu P w)))/\(xs.map (·.1)).Nodup
 | .set S n=>h.SetOf (intKind P w) a S n
 | .ins C dx fs=>H dx=some (.own a)/\fs.length<=1000/\dx≠a/\h.get? a=some (PySem.W.instObj C dx) /\
   ∃ mA,h.Ns1 dx mA/\(∀ f,RelO (fs.lookup f) (mA f))/\PySem.Within mA (fs.map (·.1))
 | .own _=>∃ o,h.get? a=some o
 | .xd fs=>∃ mA,h.Ns1 a mA/\∀ f,RelO (fs.lookup f) (mA f)
 | .rng lo hi=>∃ t u v,h.get? a=some { cls:=.type "range",data:=.fields #[.int lo t,.int hi u,.int 1 v] }
 | .frz o u=>h.get? a=some o/\ObjOk H h a u
 | .tbl ps=>h.get? a=some { cls:=.none,data:=.fields ps }
 | .lam ps pos qual=>∃ more,h.get? a=some { cls:=.none,data:=.fields (ps++more) }/\TriplesOk (ps++more).toList/\(codeAmong pos (ps++more).toList=none\/∃ c' o vs t,codeAmong pos (ps++more).toList=some (.ref c')/\H c'=some (.frz o (.own a))/\o.data=.fields vs/\vs[1]?=some (.str qual t))
 | .met f x=>h.get? a=some (PySem.W.methodObj (.ref f) (.ref x))
 | .ext φ=>φ h/\(∃ o,h.get? a=some o)/\∀ h1 h2:Heap,φ h1->(∀ o,h1.get? a=some o->h2.get? a=some o)->φ h2
def HOk (H:Hp)(h:Heap):Prop:=∀ a o,H a=some o->ObjOk P w H h a o
end

section
variable {P:Program}{w:World}{H H':Hp}{h h':Heap}{a:Addr}{o:HO}
theorem ObjOk.lt (x:ObjOk P w H h a o):a < h.objs.size:=by
 cases o with
 | lst xs=>obtain⟨_,_,_,_,e⟩:=x;exact Heap.lt_size e
 | tup xs=>obtain⟨_,_,_,p⟩:=x;exact p.lt
 | dK kvs=>obtain⟨_,_,_,_,o,_,_,e,_⟩:=x;exact Heap.lt_size e
 | dT kvs=>obtain⟨_,_,_,_,o,_,_,e,_⟩:=x;exact Heap.lt_size e
 | set S n=>obtain⟨o,_,_,_,e,_⟩:=x;exact Heap.lt_size e
 | ins C dx fs=>obtain⟨_,_,_,e,_⟩:=x;exact Heap.lt_size e
 | own y=>obtain⟨_,e⟩:=x;exact Heap.lt_size e
 | xd fs=>obtain⟨_,⟨_,_,_,e,_⟩,_⟩:=x;exact Heap.lt_size e
 | rng lo hi=>obtain⟨_,_,_,e⟩:=x;exact Heap.lt_size e
 | frz ob u=>obtain⟨e,_⟩:=x;exact Heap.lt_size e
 | tbl ps=>exact Heap.lt_size (show h.get? a=some _ from x)
 | lam ps pos qual=>obtain⟨_,e,_⟩:=x;exact Heap.lt_size e
 | met f y=>exact Heap.lt_size (show h.get? a=some _ from x)
 | ext φ=>obtain⟨_,⟨_,e⟩,_⟩:=x;exact Heap.lt_size e
theorem Paired.mapP {α β:Type}{F G:α->β->Prop}:∀ {l₁:List α} {l₂:List β},Paired F l₁ l₂->(∀ a b,F a b->G a b)->Paired G l₁ l₂
 | _,_,.nil,_=>.nil
 | _,_,.cons r t,f=>.cons (f _ _ r) (Paired.mapP t f)
theorem ObjOk.stay (x:ObjOk P w H h a o)(k:∀ b u,(b=a\/H b=some (.own a))->h.get? b=some u->h'.get? b=some u)
  (ho:∀ b,H b=some (.own a)->H' b=some (.own a)) (ht:∀ b xs,H b=some (.tup xs)->H' b=some (.tup xs)) (hf:∀ b o u,H b=some (.frz o u)->H' b=some (.frz o u):=by exact λ_ _ _ q=>q):ObjOk P w H' h' a o:=by
 induction o with
 | lst xs=>obtain⟨z,its,n,r,e⟩:=x;exact⟨z,its,n,r,k _ _ (.inl rfl) e⟩
 | tup xs=>obtain⟨z,its,r,ob,e,c⟩:=x;exact⟨z,its,r,ob,k _ _ (.inl rfl) e,c⟩
 | dK kvs=>obtain⟨z,y,vs,r,ob,es,ep,e,c⟩:=x;exact⟨z,y,vs,r,ob,es,ep,k _ _ (.inl rfl) e,c⟩
 | dT kvs =>
  obtain⟨z,y,xs,r,ob,es,ep,e,c⟩:=x;exact⟨z,y,xs,Paired.mapP r λp q z=>⟨z.1,ht _ _ z.2.1,z.2.2⟩,ob,es,ep,k _ _ (.inl rfl) e,c⟩
 | set S n=>obtain⟨ob,es,ep,t,e,c⟩:=x;exact⟨ob,es,ep,t,k _ _ (.inl rfl) e,c⟩
 | ins C dx fs =>
  obtain⟨d,z,ne,e,mA,⟨od,es,ep,e2,c⟩,r⟩:=x;exact⟨ho _ d,z,ne,k _ _ (.inl rfl) e,mA,⟨od,es,ep,k _ _ (.inr d) e2,c⟩,r⟩
 | own y=>obtain⟨ob,e⟩:=x;exact⟨ob,k _ _ (.inl rfl) e⟩
 | xd fs=>obtain⟨mA,⟨od,es,ep,e,c⟩,r⟩:=x;exact⟨mA,⟨od,es,ep,k _ _ (.inl rfl) e,c⟩,r⟩
 | rng lo hi=>obtain⟨t,u,v,e⟩:=x;exact⟨t,u,v,k _ _ (.inl rfl) e⟩
 | frz ob u ih=>obtain⟨e,q⟩:=x;exact⟨k _ _ (.inl rfl) e,ih q⟩
 | lam ps pos qual =>
  obtain⟨more,e,tr,c⟩:=x;refine⟨more,k _ _ (.inl rfl) e,tr,?_⟩;rcases c with c|⟨c',o,vs,t,c1,c2,c3⟩
  ·exact .inl c
  ·exact .inr ⟨c',o,vs,t,c1,hf _ _ _ c2,c3⟩
 | tbl ps =>
  have e:h.get? a=some { cls:=.none,data:=.fields ps }:=x;show h'.get? a=some { cls:=.none,data:=.fields ps };exact k a _ (.inl rfl) e
 | met f y =>
  have e:h.get? a=some (PySem.W.methodObj (.ref f) (.ref y)):=x;show h'.get? a=some (PySem.W.methodObj (.ref f) (.ref y));exact k a _ (.inl rfl) e
 | ext φ=>obtain⟨p,⟨o,e⟩,st⟩:=x;exact⟨st _ _ p λo q=>k _ _ (.inl rfl) q,⟨o,k _ _ (.inl rfl) e⟩,st⟩
theorem HOk.lt (x:HOk P w H h)(e:H a=some o):a < h.objs.size:=(x a o e).lt
theorem HOk.fresh (x:HOk P w H h)(e:h.objs.size<=a):H a=none:=by
 cases q:H a with
 | none=>rfl
 | some u=>exact absurd (Nat.lt_of_lt_of_le (x.lt q) e) (Nat.lt_irrefl _)
theorem HOk.kept (x:HOk P w H h)(k:∀ b u,h.get? b=some u->h'.get? b=some u):HOk P w H h':=λa o e =>
 (x a o e).stay (λb u _ q=>k b u q) (λ_ q=>q) λ_ _ q=>q
theorem HOk.laid (x:HOk P w H h)(k:∀ b u,h.get? b=some u->h'.get? b=some u)(hp:h.objs.size<=a)(new:ObjOk P w (bj H a o) h' a o):HOk P w (bj H a o) h':=λb u e=>by
 have hn:=x.fresh hp
 by_cases hb:b=a
 ·subst hb;rw[ao] at e;cases e;exact new
 ·rw[ah hb] at e
  exact (x b u e).stay (λc v _ q=>k c v q) (λc q=>by rw[ah (aG q hn)];exact q) (λc xs q=>by rw[ah (aG q hn)];exact q) λc o u q=>by rw[ah (aG q hn)];exact q
end

def Rd (H:Hp)(a:Addr)(u:HO):Prop:=H a=some u\/∃ o,H a=some (.frz o u)
theorem Rd.ok {P:Program}{w:World}{H:Hp}{h:Heap}{a:Addr}{u:HO}(r:Rd H a u)(x:HOk P w H h):ObjOk P w H h a u:=by
 rcases r with r|⟨o,r⟩
 ·exact x a u r
 ·obtain⟨_,q⟩:=x a _ r
  exact q
def Pr:Option HO->Prop
 | some (.lst _)=>True
 | some (.dK _)=>True
 | some (.dT _)=>True
 | some (.set _ _)=>True
 | some (.ins _ _ _)=>True
 | some (.ext _)=>True
 | some (.lam _ _ _)=>True
 | _=>False
section
variable {P:Program}{w:World}{H:Hp}{h h':Heap}{x e:Addr}{o':HO}
theorem HOk.write (ok:HOk P w H h)(mu:Pr (H x))(he:e=x\/H e=some (.own x))(k:∀ b u,b≠e->h.get? b=some u->h'.get? b=some u)(heo:∃ u,h'.get? e=some u)
  (new:ObjOk P w (bj H x o') h' x o'):HOk P w (bj H x o') h':=λb u q=>by
 have nown:∀ c y,H c=some (.own y)->c≠x:=λc y r z=>by subst z;rw[r] at mu;exact mu
 have ntup:∀ c xs,H c=some (.tup xs)->c≠x:=λc xs r z=>by subst z;rw[r] at mu;exact mu
 by_cases hb:b=x
 ·subst hb;rw[ao] at q;cases q;exact new
 ·rw[ah hb] at q
  by_cases hbe:b=e
  ·have q':H b=some (.own x):=by
    rcases he with z|z
    ·exact absurd (hbe.trans z) hb
    ·rw[hbe];exact z
   rw[q] at q';cases q';obtain⟨v,hv⟩:=heo;exact⟨v,by rw[hbe];exact hv⟩
  ·refine (ok b u q).stay (λc v hc r=>k c v ?_ r) (λc r=>by rw[ah (nown c b r)];exact r) (λc xs r=>by rw[ah (ntup c xs r)];exact r) λc o u r=>by rw[ah (λz=>by subst z;rw[r] at mu;exact mu)];exact r
   rcases hc with rfl|hc
   ·exact hbe
   ·rintro rfl
    rcases he with z|z
    ·exact nown c b hc z
    ·rw[hc] at z;cases z;exact hb rfl
end

structure Un (fs ex:List Addr)(H H':Hp)(h h':Heap):Prop where
 keep:∀ b o,h.get? b=some o->H b=none->b∉fs->b∉ex->h'.get? b=some o
 slot:∀ b o,h.get? b=some o->H b=none->b∈fs->b∉ex->∃ sl,h'.get? b=some { o with slots:=sl }
 free:∀ b o,h.get? b=some o->H b=none->b∉ex->H' b=none
 there:∀ b o,h.get? b=some o->b∉ex->∃ o',h'.get? b=some o'
 tups:∀ b xs,H b=some (.tup xs)->H' b=some (.tup xs)
 frzs:∀ b o u,H b=some (.frz o u)->H' b=some (.frz o u)
 tbls:∀ b ps,H b=some (.tbl ps)->∃ more,H' b=some (.tbl (ps++more))
section
variable {fs fs' ex ex':List Addr}{H H1 H2:Hp}{h h1 h2 h':Heap}{a x e:Addr}{o:HO}
theorem Un.any (u:Un fs ex H H1 h h1){b:Addr}{ob:Obj}(q:h.get? b=some ob)(n:H b=none)(hx:b∉ex):∃ sl,h1.get? b=some { ob with slots:=sl }:=by
 by_cases hb:b∈fs
 ·exact u.slot b ob q n hb hx
 ·exact⟨ob.slots,u.keep b ob q n hb hx⟩
theorem Un.kept (k:∀ b u,h.get? b=some u->h'.get? b=some u):Un fs ex H H h h' :=
 ⟨λb ob q _ _ _=>k b ob q,λb ob q _ _ _=>⟨ob.slots,k b ob q⟩,λ_ _ _ n _=>n,λb ob q _=>⟨ob,k b ob q⟩,λ_ _ q=>q,λ_ _ _ q=>q,λ_ ps q=>⟨#[],by rw[q];simp⟩⟩
theorem Un.refl:Un fs ex H H h h:=Un.kept λ_ _ q=>q
theorem Un.laid (k:∀ b u,h.get? b=some u->h'.get? b=some u)(hp:h.objs.size<=a)(hn:H a=none):Un fs ex H (bj H a o) h h' where
 keep:=λb u q _ _ _=>k b u q
 slot:=λb u q _ _ _=>⟨u.slots,k b u q⟩
 free:=λb u q n _=>by rw[ah (Nat.ne_of_lt (Nat.lt_of_lt_of_le (Heap.lt_size q) hp))];exact n
 there:=λb u q _=>⟨u,k b u q⟩
 tups:=λb xs q=>by rw[ah (aG q hn)];exact q
 frzs:=λb u xs q=>by rw[ah (aG q hn)];exact q
 tbls:=λb ps q=>⟨#[],by rw[ah (aG q hn),q];simp⟩
theorem Un.write (mu:Pr (H x))(he:e=x\/H e=some (.own x))(k:∀ b u,b≠e->h.get? b=some u->h'.get? b=some u)(heo:∃ u,h'.get? e=some u):Un fs ex H (bj H x o) h h':=by
 have hx:∀ b,H b=none->b≠x:=λb n z=>by subst z;rw[n] at mu;exact mu
 have hb:∀ b,H b=none->b≠e:=λb n z=>by
  subst z;rcases he with r|r
  ·exact hx b n r
  ·rw[n] at r;cases r
 have hm:∀ b u,H b=some u->¬ Pr (some u)->b≠x:=λb u q nm z=>by subst z;rw[q] at mu;exact nm mu
 refine⟨λb u q n _ _=>k b u (hb b n) q,λb u q n _ _=>⟨u.slots,k b u (hb b n) q⟩,λb u q n _=>by rw[ah (hx b n)];exact n,λb u q _=>?_,
  λb xs q=>by rw[ah (hm b _ q λz=>z)];exact q,λb u xs q=>by rw[ah (hm b _ q λz=>z)];exact q,λb ps q=>⟨#[],by rw[ah (hm b _ q λz=>z),q];simp⟩⟩
 by_cases hbe:b=e
 ·subst hbe;exact heo
 ·exact⟨u,k b u hbe q⟩
end

def TU (h:Heap)(H:Hp):List Addr:=(List.range h.objs.size).filter λa=>(H a).isSome
def mS (h:Heap)(H:Hp):Heap:=PySem.W.hideAll h (TU h H)
theorem uO (h:Heap)(H:Hp):(mS h H).objs.size=h.objs.size:=PySem.W.hideAll_size _ _
theorem vQ {h:Heap}{H:Hp}{b:Addr}{o:Obj}(e:h.get? b=some o)(n:H b=none):(mS h H).get? b=some o :=
 PySem.W.hideAll_get _ e λhm=>by
  have q:(H b).isSome=true:=(List.mem_filter.mp hm).2;rw[n] at q;simp at q
theorem Dm {h:Heap}{H:Hp}{b:Addr}{o:Obj}(e:(mS h H).get? b=some o):h.get? b=some o/\H b=none:=by
 have e':h.get? b=some o:=PySem.W.of_hideAll (TU h H) e;refine⟨e',?_⟩;cases q:H b with
 | none=>rfl
 | some x =>
  have hm:b∈TU h H:=List.mem_filter.mpr ⟨List.mem_range.mpr (Heap.lt_size e'),by simp [q]⟩
  have z:(mS h H).get? b=none:=PySem.W.hideAll_none (TU h H) hm;rw[z] at e;cases e

def Dp (g h:Heap)(L:Addr):List (Addr×Obj):=(List.range h.objs.size).filterMap λa=>if a=L\/(g.get? a).isSome=true then none else (h.get? a).map λo=>(a,o)
def rest (g h:Heap)(L d:Addr):List (Addr×Obj):=(Dp g h L).filter λp=>decide (p.1≠d)
end L2

namespace L2
open PySem PySem.Spec PyProof.Rows

structure Mod (K:PySem.W.Frag)(mg:Str->Option Value)(base:Heap):Prop where
 kin:K.In base
 glob:base.Ns mainGlobals mg
 blt:∃ mb,base.Ns builtinsNs mb/\∀ x:Str,x≠"__name__"->mb x=bootBuiltins x
 nolimit:base.NoLimit

structure Cx where
 prog:Program
 w:World
 K:PySem.W.Frag
 mg:Str->Option Value
 base:Heap
 A:Around
 N:List Str
 s₀:Shared
 H₀:Hp
 env:Env
 outer:List Env
 stack:List Env
 ex:List Addr
 fn:Str->Bool
 calm:Bool
 pn:List (Addr×Obj)
 xe:Value->Shared->Prop
def vR (l:List Env):List Addr:=l.filterMap (·.frame)
abbrev Cx.fs (X:Cx):List Addr:=vR X.outer

def Dq (sc:Scope)(x:Str):Prop:=sc.names.lookup x=some .local\/sc.names.lookup x=some .cell\/sc.names.lookup x=some .free
def Loc (sc:Scope)(x:Str):Prop:=sc.names.lookup x=some .local\/sc.names.lookup x=some .cell
def Um (env:Env)(h:Heap)(m:Str->Option Value)(x:Str)(u:Value):Prop :=
 (env.kindOf x=some .local/\m x=some u)\/((env.kindOf x=some .cell\/env.kindOf x=some .free)/\∃ c,env.cells.lookup x=some c/\h.IsCell c (some u))

structure Cx.Ok (X:Cx):Prop where
 mod:Mod X.K X.mg X.base
 kind:X.env.scope.kind=.function
 glob:X.env.globals=mainGlobals
 blt:X.env.builtins=builtinsNs
 above:X.s₀.heap.objs.size<=X.env.locals
 inj:∀ x y c,X.env.cells.lookup x=some c->X.env.cells.lookup y=some c->x=y
 has:∀ x,(X.env.kindOf x=some .cell\/X.env.kindOf x=some .free)->∃ c,X.env.cells.lookup x=some c
 cab:∀ x c,X.fn x=true->X.env.cells.lookup x=some c->X.s₀.heap.objs.size<=c
 hd:X.calm=true->X.A.handled=none
 frames:X.A.frames=some X.stack
 stk:X.stack=X.outer\/(X.stack=X.env::X.outer/\X.env.frame=some X.env.locals)
 exf:∀ b∈X.ex,b≠X.env.locals/\∀ x c,X.env.cells.lookup x=some c->c≠b
 bs:∀ b o,X.base.get? b=some o->X.s₀.heap.get? b=some o/\X.H₀ b=none
 bsz:X.base.objs.size<=X.s₀.heap.objs.size
 noex:∀ b o,X.base.get? b=some o->b∉X.ex
 exfs:∀ b∈X.ex,b∉X.fs
 funs:X.s₀.heap.FunFrames X.base X.outer
 frf:∀ b∈X.fs,X.H₀ b=none

structure Inv (X:Cx)(pins:List (Addr×Obj))(σ:List (Option V))(H:Hp)(s:Shared):Prop where
 ok:X.Ok
 os:s.os=X.s₀.os
 bare:AllBare s.gens
 base:Un X.fs X.ex X.H₀ H X.s₀.heap s.heap
 loc:∃ m,s.heap.Ns X.env.locals m/\∀ (i:Nat) (x:Str) (v:V),X.N[i]?=some x->σ[i]?=some (some v)->Dq X.env.scope x->∃ u,RelV v u/\Um X.env s.heap m x u
 cell:∀ x c,X.env.cells.lookup x=some c->∃ v,s.heap.IsCell c v
 free:H X.env.locals=none
 freeC:∀ x c,X.env.cells.lookup x=some c->H c=none
 pin:∀ p∈X.pn++pins,s.heap.get? p.1=some p.2/\H p.1=none/\p.1≠X.env.locals/\p.1∉X.fs/\∀ v,p.2.data≠.cell v
 hok:HOk X.prog X.w H s.heap
 len:σ.length=X.N.length

section
variable {X:Cx}{pins:List (Addr×Obj)}{σ:List (Option V)}{H H':Hp}{s:Shared}{h':Heap}

theorem Cx.Ok.nofr (ok:X.Ok){b:Addr}{o:Obj}(e:X.base.get? b=some o):b∉X.fs:=λhb=>by
 have:=(ok.funs.mem hb).1;rw[e] at this;cases this
theorem Inv.bs (I:Inv X pins σ H s):∀ b o,X.base.get? b=some o->s.heap.get? b=some o/\H b=none:=λb o e =>
 ⟨I.base.keep b o (I.ok.bs b o e).1 (I.ok.bs b o e).2 (I.ok.nofr e) (I.ok.noex b o e),I.base.free b o (I.ok.bs b o e).1 (I.ok.bs b o e).2 (I.ok.noex b o e)⟩
theorem Inv.bk (I:Inv X pins σ H s):∀ b o,X.base.get? b=some o->s.heap.get? b=some o:=λb o e=>(I.bs b o e).1
theorem Inv.mod (I:Inv X pins σ H s):Mod X.K X.mg X.base:=I.ok.mod
theorem Inv.kIn (I:Inv X pins σ H s):X.K.In s.heap:=I.ok.mod.kin.keeps I.bk
theorem Inv.fr (I:Inv X pins σ H s):∃ m,Fr X.base X.env.locals s.heap m :=
 let ⟨m,hn,_⟩:=I.loc
 ⟨m,hn,I.bk,Nat.le_trans I.ok.bsz I.ok.above⟩
theorem Inv.lt (I:Inv X pins σ H s):X.env.locals < s.heap.objs.size:=let ⟨_,hn,_⟩:=I.loc;hn.lt
theorem Inv.sz (I:Inv X pins σ H s):X.s₀.heap.objs.size<=s.heap.objs.size:=Nat.le_trans I.ok.above (Nat.le_of_lt I.lt)
theorem Inv.nofs (I:Inv X pins σ H s){a:Addr}(h:s.heap.objs.size<=a):a∉X.fs:=λhb=>by
 obtain⟨_,o,ho,_⟩:=I.ok.funs.mem hb;exact absurd (Nat.lt_of_lt_of_le (Heap.lt_size ho) (Nat.le_trans I.sz h)) (Nat.lt_irrefl _)
theorem Inv.cne (I:Inv X pins σ H s):∀ x c,X.env.cells.lookup x=some c->c≠X.env.locals:=λx c e z=>by
 obtain⟨v,o,ho,hd⟩:=I.cell x c e;obtain⟨m,⟨o',es,ep,ho',hd',_⟩,_⟩:=I.loc;rw[z,ho'] at ho;cases ho;rw[hd'] at hd;cases hd
theorem Inv.funs (I:Inv X pins σ H s):s.heap.FunFrames X.base X.outer:=by
 have all:∀ (l:List Env),(∀ b∈vR l,b∈X.fs)->X.s₀.heap.FunFrames X.base l->s.heap.FunFrames X.base l:=by
  intro l
  induction l with
  | nil=>intro _ _;trivial
  | cons env r ih =>
   intro hs hl;obtain⟨hk,⟨L,o,hf,hn,ho,hd⟩,hr⟩:=hl;have hL:L∈X.fs:=hs L (by unfold vR;rw[List.filterMap_cons,hf];exact List.mem_cons_self)
   obtain⟨sl,e⟩:=I.base.slot L o ho (I.ok.frf L hL) hL λz=>I.ok.exfs L z hL;exact⟨hk,⟨L,_,hf,hn,e,hd⟩,ih (λb hb=>hs b (by unfold vR;rw[List.filterMap_cons,hf];exact List.mem_cons_of_mem _ hb)) hr⟩
 exact all X.outer (λ_ hb=>hb) I.ok.funs

theorem Inv.stack (I:Inv X pins σ H s):s.heap.FunFrames X.base X.stack:=by
 rcases I.ok.stk with e|⟨e,hf⟩
 ·rw[e];exact I.funs
 ·rw[e]
  obtain⟨m,hn,_⟩:=I.loc;refine .cons (by rw[I.ok.kind];decide) hf hn ?_ I.funs
  exact Heap.get?_none_of_le (Nat.le_trans I.ok.bsz I.ok.above)
theorem Inv.stkSub (I:Inv X pins σ H s):∀ b∈vR X.stack,b∈X.env.locals::X.fs:=λb hb=>by
 rcases I.ok.stk with e|⟨e,hf⟩
 ·rw[e] at hb;exact List.mem_cons_of_mem _ hb
 ·rw[e] at hb
  unfold vR at hb;rw[List.filterMap_cons,hf] at hb;exact hb
theorem Inv.stkFree (I:Inv X pins σ H s):∀ b∈vR X.stack,H b=none:=λb hb=>by
 rcases List.mem_cons.mp (I.stkSub b hb) with e|hb
 ·rw[e];exact I.free
 ·obtain⟨_,o,ho,_⟩:=I.ok.funs.mem hb
  exact I.base.free b o ho (I.ok.frf b hb) λz=>I.ok.exfs b z hb

theorem Inv.step {g':Array GenState}{t':Nat}{d':Drawn}{ch:List Addr}(I:Inv X pins σ H s)
  (hch:∀ b∈ch,(b∈X.ex\/X.s₀.heap.get? b=none)/\b≠X.env.locals/\(∀ x c,X.env.cells.lookup x=some c->c≠b)/\∀ p∈X.pn++pins,p.1≠b)
  (keep:∀ b o,b≠X.env.locals->b∉X.fs->b∉ch->s.heap.get? b=some o->H b=none->h'.get? b=some o)
  (slot:∀ b o,b≠X.env.locals->b∈X.fs->b∉ch->s.heap.get? b=some o->H b=none->∃ sl,h'.get? b=some { o with slots:=sl }) (free:∀ b o,b∉ch->s.heap.get? b=some o->H b=none->H' b=none)
  (there:∀ b o,b∉ch->s.heap.get? b=some o->∃ o',h'.get? b=some o')
  (tups:∀ b xs,H b=some (.tup xs)->H' b=some (.tup xs)) (frzs:∀ b o u,H b=some (.frz o u)->H' b=some (.frz o u)) (tbls:∀ b ps,H b=some (.tbl ps)->∃ more,H' b=some (.tbl (ps++more)))
  (ns:∀ m,s.heap.Ns X.env.locals m->h'.Ns X.env.locals m) (hok:HOk X.prog X.w H' h') (hg:AllBare g') :
  Inv X pins σ H' { s with heap:=h',gens:=g',drawn:=d',toks:=t' }:=by
 have neL:∀ b o,X.s₀.heap.get? b=some o->b≠X.env.locals:=λb o e=>Nat.ne_of_lt (Nat.lt_of_lt_of_le (Heap.lt_size e) I.ok.above);have neC:∀ b o,X.s₀.heap.get? b=some o->b∉X.ex->b∉ch:=λb o e hx hb=>by
  rcases (hch b hb).1 with z|z
  ·exact hx z
  ·rw[e] at z;cases z
 have cellK:∀ x c,X.env.cells.lookup x=some c->∀ v,s.heap.IsCell c v->h'.IsCell c v:=λx c e v ⟨o,ho,hd⟩=>by
  have nch:c∉ch:=λz=>(hch c z).2.2.1 x c e rfl
  by_cases hc:c∈X.fs
  ·obtain⟨sl,q⟩:=slot c o (I.cne x c e) hc nch ho (I.freeC x c e)
   exact⟨_,q,hd⟩
  ·exact⟨o,keep c o (I.cne x c e) hc nch ho (I.freeC x c e),hd⟩
 refine⟨I.ok,I.os,hg,⟨λb o e n hb hx=>?_,λb o e n hb hx=>?_,λb o e n hx=>?_,λb o e hx=>?_,λb xs e=>tups b xs (I.base.tups b xs e),λb o xs e=>frzs b o xs (I.base.frzs b o xs e),λb ps e=>?_⟩,?_,λx c e=>?_,?_,λx c e=>?_,λp hp=>?_,hok,I.len⟩
 ·exact keep b o (neL b o e) hb (neC b o e hx) (I.base.keep b o e n hb hx) (I.base.free b o e n hx)
 ·obtain⟨sl,e1⟩:=I.base.slot b o e n hb hx
  obtain⟨sl',e2⟩:=slot b _ (neL b o e) hb (neC b o e hx) e1 (I.base.free b o e n hx);exact⟨sl',e2⟩
 ·obtain⟨o',e1⟩:=I.base.there b o e hx
  exact free b o' (neC b o e hx) e1 (I.base.free b o e n hx)
 ·obtain⟨o',e1⟩:=I.base.there b o e hx
  exact there b o' (neC b o e hx) e1
 ·obtain⟨m1,e1⟩:=I.base.tbls b ps e
  obtain⟨m2,e2⟩:=tbls b _ e1;exact⟨m1++m2,by rw[e2,Array.append_assoc]⟩
 ·obtain⟨m,hn,hl⟩:=I.loc
  refine⟨m,ns m hn,λi x v e1 e2 e3=>?_⟩;obtain⟨u,r,l⟩:=hl i x v e1 e2 e3;refine⟨u,r,?_⟩;rcases l with l|⟨k,c,e,z⟩
  ·exact .inl l
  ·exact .inr ⟨k,c,e,cellK x c e _ z⟩
 ·obtain⟨v,z⟩:=I.cell x c e
  exact⟨v,cellK x c e v z⟩
 ·obtain⟨m,⟨o,_,_,ho,_⟩,_⟩:=I.loc
  exact free _ o (λz=>(hch _ z).2.1 rfl) ho I.free
 ·obtain⟨v,o,ho,hd⟩:=I.cell x c e
  exact free c o (λz=>(hch c z).2.2.1 x c e rfl) ho (I.freeC x c e)
 ·obtain⟨e,n,ne,nf,d⟩:=I.pin p hp
  have nch:p.1∉ch:=λz=>(hch p.1 z).2.2.2 p hp rfl;exact⟨keep p.1 p.2 ne nf nch e n,free p.1 p.2 nch e n,ne,nf,d⟩
theorem Inv.un {t':Nat}(I:Inv X pins σ H s)(u:Un X.fs [] H H' s.heap h')(hok:HOk X.prog X.w H' h'):Inv X pins σ H' { s with heap:=h',toks:=t' }:=by
 obtain⟨m,⟨o,es,ep,ho,r⟩,_⟩:=id I.loc;obtain⟨sl,hL⟩:=u.any ho I.free (by simp)
 exact I.step (g':=s.gens) (d':=s.drawn) (ch:=[]) (λ_ z=>nomatch z) (λb o _ hb _ e n=>u.keep b o e n hb (by simp)) (λb o _ hb _ e n=>u.slot b o e n hb (by simp)) (λb o _ e n=>u.free b o e n (by simp)) (λb o _ e=>u.there b o e (by simp)) u.tups u.frzs u.tbls (λm' hm=>by
  obtain⟨o',es',ep',ho',r'⟩:=hm;rw[ho] at ho';cases ho';exact⟨_,es',ep',hL,r'⟩) hok I.bare
theorem Inv.call {g':Array GenState}{t':Nat}{d':Drawn}{ch:List Addr}(I:Inv X pins σ H s)(u:Un (vR X.stack) ch H H' s.heap h')(hok:HOk X.prog X.w H' h')(hg:AllBare g')
  (hch:∀ b∈ch,(b∈X.ex\/X.s₀.heap.get? b=none)/\b≠X.env.locals/\(∀ x c,X.env.cells.lookup x=some c->c≠b)/\∀ p∈X.pn++pins,p.1≠b) :
  Inv X pins σ H' { s with heap:=h',gens:=g',drawn:=d',toks:=t' }:=by
 obtain⟨m,⟨o,es,ep,ho,r⟩,_⟩:=id I.loc;obtain⟨sl,hL⟩:=u.any ho I.free λz=>(hch _ z).2.1 rfl;exact I.step (ch:=ch) hch (λb o hL hb hc e n=>u.keep b o e n (λz=>(List.mem_cons.mp (I.stkSub b z)).elim hL hb) hc) (λb o _ _ hc e n=>u.any e n hc) (λb o hc e n=>u.free b o e n hc) (λb o hc e=>u.there b o e hc) u.tups u.frzs u.tbls (λm' hm=>by
  obtain⟨o',es',ep',ho',r'⟩:=hm;rw[ho] at ho';cases ho';exact⟨_,es',ep',hL,r'⟩) hok hg
theorem Inv.turned {t':Nat}{it:Addr}(I:Inv X pins σ H s)(k:∀ b o,b≠it->s.heap.get? b=some o->h'.get? b=some o)(hn:H it=none)(hL:it≠X.env.locals)
  (h1:it∈X.ex\/X.s₀.heap.objs.size<=it) (h2:∀ x c,X.env.cells.lookup x=some c->c≠it) (h3:∀ p∈X.pn++pins,p.1≠it):Inv X pins σ H { s with heap:=h',toks:=t' }:=by
 have nit:∀ b u,H b=some u->b≠it:=λb u e z=>by rw[z,hn] at e;cases e
 refine I.step (g':=s.gens) (d':=s.drawn) (ch:=[it]) (λb hb=>?_) (λb o _ _ hc e _=>k b o (λz=>hc (by simp [z])) e) (λb o _ _ hc e _=>⟨o.slots,k b o (λz=>hc (by simp [z])) e⟩) (λ_ _ _ _ n=>n)
  (λb o hc e=>⟨o,k b o (λz=>hc (by simp [z])) e⟩) (λ_ _ e=>e) (λ_ _ _ e=>e) (λb ps e=>⟨#[],by rw[e];simp⟩) (λm hm=>?_) (λb u e=>?_) I.bare
 ·have e:b=it:=by simpa using hb
  subst e;exact⟨h1.imp id λz=>Heap.get?_none_of_le z,hL,h2,h3⟩
 ·obtain⟨o,es,ep,ho,r⟩:=hm
  exact⟨o,es,ep,k _ o (Ne.symm hL) ho,r⟩
 ·refine (I.hok b u e).stay (λc v hc q=>k c v ?_ q) (λ_ q=>q) λ_ _ q=>q
  rcases hc with z|z
  ·rw[z];exact nit b u e
  ·exact nit c _ z
theorem Inv.tok (I:Inv X pins σ H s)(t:Nat):Inv X pins σ H { s with toks:=t }:=I.un (h':=s.heap) (t':=t) Un.refl I.hok
theorem Inv.kept {t':Nat}(I:Inv X pins σ H s)(k:∀ b u,s.heap.get? b=some u->h'.get? b=some u):Inv X pins σ H { s with heap:=h',toks:=t' }:=I.un (Un.kept k) (I.hok.kept k)
theorem Inv.laid {a:Addr}{o:HO}{t':Nat}(I:Inv X pins σ H s)(k:∀ b u,s.heap.get? b=some u->h'.get? b=some u)(hp:s.heap.objs.size<=a)(new:ObjOk X.prog X.w (bj H a o) h' a o) :
  Inv X pins σ (bj H a o) { s with heap:=h',toks:=t' }:=I.un (Un.laid k hp (I.hok.fresh hp)) (I.hok.laid k hp new)
theorem Inv.write {x e:Addr}{o:HO}{t':Nat}(I:Inv X pins σ H s)(mu:Pr (H x))(he:e=x\/H e=some (.own x))(k:∀ b u,b≠e->s.heap.get? b=some u->h'.get? b=some u)(heo:∃ u,h'.get? e=some u)
  (new:ObjOk X.prog X.w (bj H x o) h' x o):Inv X pins σ (bj H x o) { s with heap:=h',toks:=t' }:=I.un (Un.write mu he k heo) (I.hok.write mu he k heo new)
theorem Inv.pins_of {pins':List (Addr×Obj)}(I:Inv X pins σ H s)(h:∀ p∈pins',s.heap.get? p.1=some p.2/\H p.1=none/\p.1≠X.env.locals/\p.1∉X.fs/\∀ v,p.2.data≠.cell v):Inv X pins' σ H s :=
 ⟨I.ok,I.os,I.bare,I.base,I.loc,I.cell,I.free,I.freeC,λp hp=>(List.mem_append.mp hp).elim (λz=>I.pin p (List.mem_append_left _ z)) (h p),I.hok,I.len⟩

theorem pF {N:List Str}(hN:N.Nodup){i j:Nat}{x:Str}(a:N[i]?=some x)(b:N[j]?=some x):i=j:=by
 obtain⟨h1,e1⟩:=List.getElem?_eq_some_iff.mp a;obtain⟨h2,e2⟩:=List.getElem?_eq_some_iff.mp b;exact (List.getElem_inj hN).mp (e1.trans e2.symm)

theorem uP {M:Model}{A:Around}{E:Value->Shared->Prop}{i:Nat}{x:Str}{v:V}{u:Value}{Q:Unit->Shared->Prop}(I:Inv X pins σ H s)(hN:X.N.Nodup)(hi:X.N[i]?=some x)(hx:Loc X.env.scope x)(r:RelV v u)
  (h:∀ s',Inv X pins (σ.set i (some v)) H s'->(∃ a,Heap.SameBut a s.heap s'.heap/\(a=X.env.locals\/X.env.cells.lookup x=some a))->Q () s') (hf:X.fn x=true\/X.env.scope.names.lookup x=some .local:=by first|exact .inl rfl|exact .inr rfl|assumption):wpAny M A (storeName X.env x u) Q E s:=by
 obtain⟨m,hn,hl⟩:=id I.loc;have hcls:(X.env.scope.kind==.class||(X.env.scope.kind==.module&&X.env.locals != X.env.globals))=false:=by rw[I.ok.kind];rfl
 have hiσ:i < σ.length:=by rw[I.len];exact (List.getElem?_eq_some_iff.mp hi).1
 have cne:=I.cne;have tracked:∀ {a:Addr} {h':Heap},(∃ o,s.heap.get? a=some o/\H a=none)->Heap.SameBut a s.heap h'->HOk X.prog X.w H h':=λ{a h'} ha hs b ob e=>by
  obtain⟨_,_,hfree⟩:=ha;refine (I.hok b ob e).stay (λc w' hc q=>(hs.2 c ?_).trans q) (λ_ q=>q) λ_ _ q=>q;rintro rfl;rcases hc with rfl|hc
  ·rw[hfree] at e;cases e
  ·rw[hfree] at hc;cases hc
 rcases hx with hk|hk
 ·refine wpAny_storeName_local hk hn (λh' hn' hs=>?_) hcls
  obtain⟨oL,_,_,hoL,_⟩:=id hn;refine h _ ⟨I.ok,I.os,I.bare,⟨λb o e n hb hx=>?_,λb o e n hb hx=>?_,I.base.free,λb o e hx=>?_,I.base.tups,I.base.frzs,I.base.tbls⟩,⟨_,hn',λj y v' e1 e2 e3=>?_⟩,λy c e=>?_,I.free,I.freeC,λp hp=>?_,tracked ⟨oL,hoL,I.free⟩ hs,by simpa using I.len⟩ ⟨_,hs,.inl rfl⟩
  ·exact (hs.2 b (Nat.ne_of_lt (Nat.lt_of_lt_of_le (Heap.lt_size e) I.ok.above))).trans (I.base.keep b o e n hb hx)
  ·obtain⟨sl,e1⟩:=I.base.slot b o e n hb hx
   exact⟨sl,(hs.2 b (Nat.ne_of_lt (Nat.lt_of_lt_of_le (Heap.lt_size e) I.ok.above))).trans e1⟩
  ·obtain⟨o',e1⟩:=I.base.there b o e hx
   exact⟨o',(hs.2 b (Nat.ne_of_lt (Nat.lt_of_lt_of_le (Heap.lt_size e) I.ok.above))).trans e1⟩
  ·by_cases hj:j=i
   ·subst hj
    rw[hi] at e1;cases e1;rw[List.getElem?_set_self hiσ] at e2;cases e2;exact⟨u,r,.inl ⟨hk,by simp⟩⟩
   ·rw[List.getElem?_set_ne (Ne.symm hj)] at e2
    obtain⟨u',r',q⟩:=hl j y v' e1 e2 e3;refine⟨u',r',?_⟩;rcases q with ⟨k,e⟩|⟨k,c,e,z⟩
    ·refine .inl ⟨k,?_⟩
     have:y≠x:=λe=>hj (pF hN e1 (e ▸ hi));simp [this,e]
    ·exact .inr ⟨k,c,e,z.sameBut hs (cne y c e)⟩
  ·obtain⟨w',z⟩:=I.cell y c e
   exact⟨w',z.sameBut hs (cne y c e)⟩
  ·obtain⟨e,n,ne,nf,d⟩:=I.pin p hp
   exact⟨(hs.2 p.1 ne).trans e,n,ne,nf,d⟩
 ·have hfn:X.fn x=true:=by
   rcases hf with z|z
   ·exact z
   ·rw[z] at hk;cases hk
  obtain⟨c,hc⟩:=I.ok.has x (.inl hk);obtain⟨w',z⟩:=I.cell x c hc;refine wpAny_storeName_cell I.ok.kind hk hc z (λh' hc' hs=>?_);obtain⟨oc,hoc,hocd⟩:=id z;refine h { s with heap:=h' } ⟨I.ok,I.os,I.bare,⟨λb o e n hb hx=>?_,λb o e n hb hx=>?_,I.base.free,λb o e hx=>?_,I.base.tups,I.base.frzs,I.base.tbls⟩,⟨m,hn.sameBut hs (Ne.symm (cne x c hc)),λj y v' e1 e2 e3=>?_⟩,λy c' e=>?_,I.free,I.freeC,λp hp=>?_,tracked ⟨oc,hoc,I.freeC x c hc⟩ hs,by simpa using I.len⟩ ⟨c,hs,.inr hc⟩
  ·exact (hs.2 b (Nat.ne_of_lt (Nat.lt_of_lt_of_le (Heap.lt_size e) (I.ok.cab x c hfn hc)))).trans (I.base.keep b o e n hb hx)
  ·obtain⟨sl,e1⟩:=I.base.slot b o e n hb hx
   exact⟨sl,(hs.2 b (Nat.ne_of_lt (Nat.lt_of_lt_of_le (Heap.lt_size e) (I.ok.cab x c hfn hc)))).trans e1⟩
  ·obtain⟨o',e1⟩:=I.base.there b o e hx
   exact⟨o',(hs.2 b (Nat.ne_of_lt (Nat.lt_of_lt_of_le (Heap.lt_size e) (I.ok.cab x c hfn hc)))).trans e1⟩
  ·by_cases hj:j=i
   ·subst hj
    rw[hi] at e1;cases e1;rw[List.getElem?_set_self hiσ] at e2;cases e2;exact⟨u,r,.inr ⟨.inl hk,c,hc,hc'⟩⟩
   ·rw[List.getElem?_set_ne (Ne.symm hj)] at e2
    obtain⟨u',r',q⟩:=hl j y v' e1 e2 e3;refine⟨u',r',?_⟩;rcases q with q|⟨k,c',e,z'⟩
    ·exact .inl q
    ·refine .inr ⟨k,c',e,z'.sameBut hs ?_⟩
     rintro rfl;exact hj (pF hN e1 (I.ok.inj _ _ _ e hc ▸ hi))
  ·by_cases hcc:c'=c
   ·subst hcc;exact⟨_,hc'⟩
   ·obtain⟨w2,z2⟩:=I.cell y c' e
    exact⟨w2,z2.sameBut hs hcc⟩
  ·obtain⟨e,n,ne,nf,d⟩:=I.pin p hp
   refine⟨(hs.2 p.1 ?_).trans e,n,ne,nf,d⟩;intro q;rw[q,hoc] at e;have q':oc=p.2:=Option.some.inj e;exact d w' (by rw[<- q'];exact hocd)
theorem jJ {M:Model}{A:Around}{E:Value->Shared->Prop}{i:Nat}{x:Str}{v:V}{u:Value}{Q:Unit->Shared->Prop}(I:Inv X pins σ H s)(hN:X.N.Nodup)(hi:X.N[i]?=some x)(hx:Loc X.env.scope x)(r:RelV v u)
  (h:∀ s',Inv X pins (σ.set i (some v)) H s'->Q () s') (hf:X.fn x=true\/X.env.scope.names.lookup x=some .local:=by first|exact .inl rfl|exact .inr rfl|assumption):wpAny M A (storeName X.env x u) Q E s :=
 uP I hN hi hx r (λs' I' _=>h s' I') hf
theorem Inv.call' {s':Shared}{ch:List Addr}(I:Inv X pins σ H s)(ho:s'.os=s.os)(u:Un (vR X.stack) ch H H' s.heap s'.heap)(hok:HOk X.prog X.w H' s'.heap)(hg:AllBare s'.gens)
  (hch:∀ b∈ch,(b∈X.ex\/X.s₀.heap.get? b=none)/\b≠X.env.locals/\(∀ x c,X.env.cells.lookup x=some c->c≠b)/\∀ p∈X.pn++pins,p.1≠b):Inv X pins σ H' s':=by
 obtain⟨h',g',d',t',o'⟩:=s';have e:o'=s.os:=ho;subst e;exact I.call (g':=g') (t':=t') (d':=d') u hok hg hch
end

abbrev XK:=Value->Option Addr->Hp->Prop
abbrev St:=List (Option V)
abbrev VK:=V->Hp->Prop
abbrev TE:=St->Hp->VK->Prop
abbrev TT:=St->Hp->(Bool->Hp->Prop)->Prop
abbrev TA:=St->Hp->(List V->Hp->Prop)->Prop
structure Ends where
 nx:St->Hp->Prop
 rt:VK
 bk:St->Hp->Prop:=λ_ _=>False
 ct:St->Hp->Prop:=λ_ _=>False
abbrev TS:=Ends->St->Hp->Prop

def EP (X:Cx)(pins:List (Addr×Obj))(σ:St)(Q:VK)(u:Value)(s':Shared):Prop:=∃ v H',Inv X pins σ H' s'/\RelV v u/\Q v H'
def TP (X:Cx)(pins:List (Addr×Obj))(σ:St)(Q:Bool->Hp->Prop)(b:Bool)(s':Shared):Prop:=∃ H',Inv X pins σ H' s'/\Q b H'
def AP (X:Cx)(pins:List (Addr×Obj))(σ:St)(Q:List V->Hp->Prop)(us:List Value)(s':Shared):Prop:=∃ vs H',Inv X pins σ H' s'/\Vals vs us/\Q vs H'
def SP (X:Cx)(pins:List (Addr×Obj))(D:Ends)(f:Flow)(s':Shared):Prop :=
 match f with
 | .next=>∃ σ' H',Inv X pins σ' H' s'/\D.nx σ' H'
 | .brk=>∃ σ' H',Inv X pins σ' H' s'/\D.bk σ' H'
 | .cont=>∃ σ' H',Inv X pins σ' H' s'/\D.ct σ' H'
 | .ret u=>∃ v σ' H',Inv X pins σ' H' s'/\RelV v u/\D.rt v H'

def PE (X:Cx)(e:Expr)(t:TE):Prop :=
 ∀ (pins:List (Addr×Obj)) (s:Shared) (σ:St) (H:Hp) (Q:VK),Inv X pins σ H s->t σ H Q->wpAny (model X.prog X.w) X.A (eval e X.env) (EP X pins σ Q) X.xe s
def PT (X:Cx)(e:Expr)(t:TT):Prop :=
 ∀ (pins:List (Addr×Obj)) (s:Shared) (σ:St) (H:Hp) (Q:Bool->Hp->Prop),Inv X pins σ H s->t σ H Q->wpAny (model X.prog X.w) X.A (isTrue e X.env (eval e X.env)) (TP X pins σ Q) X.xe s
def PW (X:Cx)(e:Expr)(t:TT):Prop :=
 ∀ (whole:Sem Value) (pins:List (Addr×Obj)) (s:Shared) (σ:St) (H:Hp) (Q:Bool->Hp->Prop),Inv X pins σ H s->t σ H Q->wpAny (model X.prog X.w) X.A (isTrue e X.env whole) (TP X pins σ Q) X.xe s
theorem PW.pt {X:Cx}{e:Expr}{t:TT}(h:PW X e t):PT X e t:=h _
def PA (X:Cx)(es:List Expr)(t:TA):Prop :=
 ∀ (pos:Pos) (pins:List (Addr×Obj)) (s:Shared) (σ:St) (H:Hp) (Q:List V->Hp->Prop),Inv X pins σ H s->t σ H Q->wpAny (model X.prog X.w) X.A (spliced (backTo pos (starEach es X.env))) (AP X pins σ Q) X.xe s
def PS (X:Cx)(st:Stmt)(t:TS):Prop :=
 ∀ (pins:List (Addr×Obj)) (s:Shared) (σ:St) (H:Hp) (D:Ends),Inv X pins σ H s->t D σ H->wpAny (model X.prog X.w) X.A (exec st X.env) (SP X pins D) X.xe s
def PSs (X:Cx)(st:List Stmt)(t:TS):Prop :=
 ∀ (pins:List (Addr×Obj)) (s:Shared) (σ:St) (H:Hp) (D:Ends),Inv X pins σ H s->t D σ H->wpAny (model X.prog X.w) X.A (execs st X.env) (SP X pins D) X.xe s
theorem bG {α:Type}{t:Sem α}{Q Q':α->Shared->Prop}{M:Model}{A:Around}{E:Value->Shared->Prop}{s:Shared}(h:wpAny M A t Q E s)(hQ:∀ a s,Q a s->Q' a s):wpAny M A t Q' E s:=wpAny_mono h hQ λ_ _ x=>x
end L2

namespace L2
open PySem PySem.Spec PyProof.Rows
section
variable {X:Cx}

def Ps (i:Nat):TE:=λσ H Q=>∃ v,σ[i]?=some (some v)/\Q v H
def tC (v:V):TE:=λ_ H Q=>Q v H
theorem fB {i:Nat}{x:Str}{pos:Pos}(hN:X.N[i]?=some x)(hv:Dq X.env.scope x)(hd:(x==("__debug__":Str))=false:=by decide)(hcd:(x==("__classdict__":Str))=false:=by decide):PE X (.Name x pos) (Ps i):=by
 intro pins s σ H Q I h;obtain⟨v,e,h⟩:=h;obtain⟨m,hn,hl⟩:=I.loc;obtain⟨u,r,l⟩:=hl i x v hN e hv;have fin:EP X pins σ Q u s:=⟨v,H,I,r,h⟩;rcases l with ⟨hk,hm⟩|⟨hk,c,hc,hcell⟩
 ·exact wpAny_Name (wpAny_loadName_local I.ok.kind hk hn hm fin) hd
 ·rcases hk with hk|hk
  ·exact wpAny_Name (wpAny_loadName_cell I.ok.kind hk hc hcell fin) hd
  ·exact wpAny_Name (wpAny_loadName_free I.ok.kind hk hc hcell fin hcd) hd
theorem GJ {i j pos}:PE X (.Constant (.int i) j pos) (tC (.int i)):=λ_ _ _ H _ I h=>wpAny_Constant_int ⟨.int i,H,I.tok _,⟨_,rfl⟩,h⟩
theorem Pt {b j pos}:PE X (.Constant (.bool b) j pos) (tC (.bl b)):=λ_ _ _ H _ I h=>Constant_bool ⟨.bl b,H,I,rfl,h⟩
theorem GK {j pos}:PE X (.Constant .none j pos) (tC .non):=λ_ _ _ H _ I h=>Constant_none ⟨.non,H,I,rfl,h⟩
theorem GL {x j pos}:PE X (.Constant (.str x) j pos) (tC (.str x)):=λ_ _ _ H _ I h=>Calls.Constant_str ⟨.str x,H,I.tok _,⟨_,rfl⟩,h⟩

def Gl (X:Cx)(x:Str):Prop:=X.env.kindOf x=some .globalImplicit
theorem mT {E:Value->Shared->Prop}{pins:List (Addr×Obj)}{s:Shared}{σ:St}{H:Hp}{x:Str}{u:Value}{pos:Pos}{Q:Value->Shared->Prop}(I:Inv X pins σ H s)(hg:Gl X x)(hm:X.mg x=some u)(h:Q u s)
  (hd:(x==("__debug__":Str))=false:=by decide):wpAny (model X.prog X.w) X.A (eval (.Name x pos) X.env) Q E s :=
 Calls.Name_function_global I.ok.kind hg (Calls.loadGlobal_global (by rw[I.ok.glob];exact I.mod.glob.keeps I.bk) hm h) hd
theorem ic {E:Value->Shared->Prop}{pins:List (Addr×Obj)}{s:Shared}{σ:St}{H:Hp}{x:Str}{u:Value}{pos:Pos}{Q:Value->Shared->Prop}(I:Inv X pins σ H s)(hg:Gl X x)(hm:X.mg x=none)(hv:bootBuiltins x=some u)(h:Q u s)
  (hn:x≠"__name__":=by decide) (hd:(x==("__debug__":Str))=false:=by decide):wpAny (model X.prog X.w) X.A (eval (.Name x pos) X.env) Q E s:=by
 obtain⟨mb,h1,h2⟩:=I.mod.blt;exact Calls.Name_function_global I.ok.kind hg (Calls.loadGlobal_builtin (by rw[I.ok.glob];exact I.mod.glob.keeps I.bk) hm (by rw[I.ok.blt];exact h1.keeps I.bk) ((h2 x hn).trans hv) h) hd
theorem Dr {x:Str}{v:V}{u:Value}{pos:Pos}(hg:Gl X x)(hm:X.mg x=some u)(r:RelV v u)(hd:(x==("__debug__":Str))=false:=by decide):PE X (.Name x pos) (tC v) :=
 λ_ _ _ H _ I h=>mT I hg hm ⟨v,H,I,r,h⟩ hd
variable {a b:Expr}{ta tb:TE}{pos:Pos}
variable {tA tB':TT}{rest:List Expr}
def Uo (t u:TT):TT:=λσ H Q=>t σ H λc H1=>if c=true then u σ H1 Q else Q false H1
def VT (t u:TT):TT:=λσ H Q=>t σ H λc H1=>if c=true then Q true H1 else u σ H1 Q
def Up (t:TT):TT:=λσ H Q=>t σ H λc H1=>Q (!c) H1
theorem Ds (ha:PT X a tA):PW X (.BoolOp .And [a] pos) tA:=by
 intro wh pins s σ H Q I h;refine isTrue_and (bG (ha pins s σ H Q I h) λc s1 e=>?_);cases c with
 | true=>exact isTrue_and_nil e
 | false=>exact e
theorem GM (ha:PT X a tA):PW X (.BoolOp .Or [a] pos) tA:=by
 intro wh pins s σ H Q I h;refine isTrue_or (bG (ha pins s σ H Q I h) λc s1 e=>?_);cases c with
 | false=>exact isTrue_or_nil e
 | true=>exact e
theorem GN (ha:PT X a tA)(hb:PW X (.BoolOp .And (b::rest) pos) tB'):PW X (.BoolOp .And (a::b::rest) pos) (Uo tA tB'):=by
 intro wh pins s σ H Q I h;refine isTrue_and (bG (ha pins s σ H _ I h) λc s1 ⟨H1,I1,q1⟩=>?_);cases c with
 | true=>exact hb wh pins s1 σ H1 Q I1 q1
 | false=>exact⟨H1,I1,q1⟩
theorem Pu (ha:PT X a tA)(hb:PW X (.BoolOp .Or (b::rest) pos) tB'):PW X (.BoolOp .Or (a::b::rest) pos) (VT tA tB'):=by
 intro wh pins s σ H Q I h;refine isTrue_or (bG (ha pins s σ H _ I h) λc s1 ⟨H1,I1,q1⟩=>?_);cases c with
 | true=>exact⟨H1,I1,q1⟩
 | false=>exact hb wh pins s1 σ H1 Q I1 q1
theorem GO (ha:PT X a tA):PT X (.UnaryOp .Not a pos) (Up tA):=by
 intro pins s σ H Q I h;exact isTrue_not (ha pins s σ H (λc H1=>Q (!c) H1) I h)
def VU (t:TT)(ta tb:TE):TE:=λσ H Q=>t σ H λc H1=>if c=true then ta σ H1 Q else tb σ H1 Q
theorem vS {c:Expr}(hc:PT X c tA)(ha:PE X a ta)(hb:PE X b tb):PE X (.IfExp c a b pos) (VU tA ta tb):=by
 intro pins s σ H Q I h;refine wpAny_IfExp (bG (hc pins s σ H _ I h) λd s1 ⟨H1,I1,q1⟩=>?_);cases d with
 | true=>exact ha pins s1 σ H1 Q I1 q1
 | false=>exact hb pins s1 σ H1 Q I1 q1
end
end L2

namespace L2
open PySem PySem.Spec PyProof.Rows

def SqL (K:PySem.W.Frag)(H:Hp)(a:Addr)(xs:List V):Prop :=
 Rd H a (.lst xs) \/
  ∃ (o:Obj) (its:Array Value) (n:Nat),K.lookup a=some o/\o.cls=.type "list"/\o.dict=none/\o.data=.seq its n/\its.size<=sizeLine/\Vals xs its.toList
def SqT (K:PySem.W.Frag)(H:Hp)(a:Addr)(xs:List V):Prop :=
 Rd H a (.tup xs) \/
  ∃ (o:Obj) (its:Array Value) (n:Nat),K.lookup a=some o/\o.cls=.type "tuple"/\o.data=.seq its n/\its.size<=sizeLine/\Vals xs its.toList
def Uq:Value->Option V
 | .none=>some .non
 | .bool b=>some (.bl b)
 | .int i _=>some (.int i)
 | .str x _=>some (.str x)
 | .bytes b _=>some (.byt b)
 | .float b _=>some (.flt b)
 | .ref a=>some (.ref a)
 | .type n=>some (.ty n)
 | _=>none
theorem RelV.abs {x:V}{u:Value}(r:RelV x u):Uq u=some x:=by
 cases x with
 | non=>cases r;rfl
 | bl _=>cases r;rfl
 | int _=>obtain⟨t,rfl⟩:=r;rfl
 | str _=>obtain⟨t,rfl⟩:=r;rfl
 | byt _=>obtain⟨t,rfl⟩:=r;rfl
 | flt _=>obtain⟨t,rfl⟩:=r;rfl
 | ref _=>cases r;rfl
 | ty _=>cases r;rfl
theorem RelV.inj {x y:V}{u:Value}(r:RelV x u)(q:RelV y u):x=y:=Option.some.inj (r.abs.symm.trans q.abs)
theorem Vals.inj:∀ {xs ys:List V} {us:List Value},Vals xs us->Vals ys us->xs=ys
 | _,_,_,.nil,.nil=>rfl
 | _,_,_,.cons r t,.cons r' t'=>by rw[r.inj r',Vals.inj t t']
section
variable {X:Cx}{pins:List (Addr×Obj)}{σ:St}{H:Hp}{s:Shared}{a:Addr}{xs ys:List V}
theorem SqL.of {K:PySem.W.Frag}(h:H a=some (.lst xs)):SqL K H a xs:=.inl (.inl h)
theorem SqT.of {K:PySem.W.Frag}(h:H a=some (.tup xs)):SqT K H a xs:=.inl (.inl h)
theorem Inv.list (I:Inv X pins σ H s)(h:SqL X.K H a xs):∃ its:List Value,Vals xs its/\PlainL s.heap a its.toArray/\xs.length<=sizeLine:=by
 rcases h with h|⟨o,its,n,hk,hc,hd,hs,hz,r⟩
 ·obtain⟨z,its,n,r,e⟩:=h.ok I.hok
  exact⟨its,r,⟨_,n,e,rfl,rfl,rfl⟩,z⟩
 ·refine⟨its.toList,r,⟨o,n,I.kIn a o hk,hc,hd,by simpa using hs⟩,?_⟩
  have e:=r.length;simp only[Array.length_toList] at e;omega
theorem Inv.tuple (I:Inv X pins σ H s)(h:SqT X.K H a xs):∃ its:List Value,Vals xs its/\IsTup s.heap a its.toArray/\xs.length<=sizeLine:=by
 rcases h with h|⟨o,its,n,hk,hc,hs,hz,r⟩
 ·obtain⟨z,its,r,p⟩:=h.ok I.hok
  exact⟨its,r,p,z⟩
 ·refine⟨its.toList,r,⟨o,I.kIn a o hk,hc,n,by simpa using hs⟩,?_⟩
  have e:=r.length;simp only[Array.length_toList] at e;omega
theorem Inv.list_inj (I:Inv X pins σ H s)(h:SqL X.K H a xs)(h':SqL X.K H a ys):xs=ys:=by
 obtain⟨its,r,⟨o,n,e,_,_,d⟩,_⟩:=I.list h;obtain⟨its',r',⟨o',n',e',_,_,d'⟩,_⟩:=I.list h';rw[e] at e';cases e';rw[d] at d'
 injection d' with d1 _
 have:its=its':=by simpa using congrArg Array.toList d1
 subst this;exact r.inj r'
theorem Inv.tuple_inj (I:Inv X pins σ H s)(h:SqT X.K H a xs)(h':SqT X.K H a ys):xs=ys:=by
 obtain⟨its,r,⟨o,e,_,n,d⟩,_⟩:=I.tuple h;obtain⟨its',r',⟨o',e',_,n',d'⟩,_⟩:=I.tuple h';rw[e] at e';cases e';rw[d] at d'
 injection d' with d1 _
 have:its=its':=by simpa using congrArg Array.toList d1
 subst this;exact r.inj r'
end

abbrev Cx.wish (X:Cx)(E:Value->Shared->Prop):Cx:={ X with xe:=E }
abbrev Cx.nox (X:Cx):Cx:=X.wish λ_ _=>False
theorem Cx.Ok.wish {X:Cx}(ok:X.Ok)(E:Value->Shared->Prop):(X.wish E).Ok :=
 ⟨ok.mod,ok.kind,ok.glob,ok.blt,ok.above,ok.inj,ok.has,ok.cab,ok.hd,ok.frames,ok.stk,ok.exf,ok.bs,ok.bsz,ok.noex,ok.exfs,ok.funs,ok.frf⟩
theorem Cx.Ok.unwish {X:Cx}{E:Value->Shared->Prop}(ok:(X.wish E).Ok):X.Ok :=
 ⟨ok.mod,ok.kind,ok.glob,ok.blt,ok.above,ok.inj,ok.has,ok.cab,ok.hd,ok.frames,ok.stk,ok.exf,ok.bs,ok.bsz,ok.noex,ok.exfs,ok.funs,ok.frf⟩
section
variable {X:Cx}{pins:List (Addr×Obj)}{σ:St}{H:Hp}{s:Shared}{E:Value->Shared->Prop}
theorem Inv.wish (I:Inv X pins σ H s)(E:Value->Shared->Prop):Inv (X.wish E) pins σ H s:=⟨I.ok.wish E,I.os,I.bare,I.base,I.loc,I.cell,I.free,I.freeC,I.pin,I.hok,I.len⟩
theorem Inv.unwish (I:Inv (X.wish E) pins σ H s):Inv X pins σ H s:=⟨I.ok.unwish,I.os,I.bare,I.base,I.loc,I.cell,I.free,I.freeC,I.pin,I.hok,I.len⟩
theorem SP.unwish {D:Ends}{f:Flow}{s':Shared}(h:SP (X.wish E) pins D f s'):SP X pins D f s':=by
 cases f with
 | next=>obtain⟨σ',H',I,q⟩:=h;exact⟨σ',H',I.unwish,q⟩
 | brk=>obtain⟨σ',H',I,q⟩:=h;exact⟨σ',H',I.unwish,q⟩
 | cont=>obtain⟨σ',H',I,q⟩:=h;exact⟨σ',H',I.unwish,q⟩
 | ret u=>obtain⟨v,σ',H',I,r,q⟩:=h;exact⟨v,σ',H',I.unwish,r,q⟩
theorem PSs.nox {st:List Stmt}{t:TS}(h:PSs X.nox st t):PSs X st t:=λpins s σ H D I hw =>
 wpAny_mono (h pins s σ H D (I.wish _) hw) (λ_ _ q=>q.unwish) λ_ _ z=>False.elim z
end

section
variable {X:Cx}{st:Stmt}{rest:List Stmt}{t u:TS}{e:Expr}{te:TE}{pos:Pos}
def Pv:TS:=λD σ H=>D.nx σ H
def Ur (t u:TS):TS:=λD σ H=>t { D with nx:=u D } σ H
theorem tB:PSs X [] Pv:=λ_ _ σ H _ I h=>wpAny_execs_nil ⟨σ,H,I,h⟩
theorem pG (h1:PS X st t)(h2:PSs X rest u):PSs X (st::rest) (Ur t u):=by
 intro pins s σ H D I h;refine wpAny_execs_cons (bG (h1 pins s σ H { D with nx:=u D } I h) λf s1 q=>?_)
 cases f with
 | next =>
  obtain⟨σ',H',I',q⟩:=q;exact h2 pins s1 σ' H' D I' q
 | ret v=>exact q
 | brk=>exact q
 | cont=>exact q
theorem mU (h1:PS X st t):PSs X [st] t:=by
 intro pins s σ H D I h;refine wpAny_execs_cons (bG (h1 pins s σ H D I h) λf s1 q=>?_);cases f with
 | next=>exact wpAny_execs_nil q
 | ret v=>exact q
 | brk=>exact q
 | cont=>exact q
theorem Inv.quiet {pins:List (Addr×Obj)}{σ:St}{H:Hp}{s:Shared}(I:Inv X pins σ H s):interactive X.env=false:=by simp [interactive,I.ok.kind]
def Pw (te:TE):TS:=λD σ H=>te σ H λ_ H1=>D.nx σ H1
theorem mV (he:PE X e te)(hs:swapsWith e none pos.line X.env=pure false:=by rfl):PS X (.Expr e pos) (Pw te):=by
 intro pins s σ H D I h;exact wpAny_Expr_any (bG (he pins s σ H _ I h) λv s1 ⟨x,H1,I1,r1,q1⟩=>⟨σ,H1,I1,q1⟩) I.quiet hs
def Us (te:TE):TS:=λD σ H=>te σ H D.rt
theorem ps_ret (he:PE X e te):PS X (.Return (some e) pos) (Us te):=by
 intro pins s σ H D I h;exact wpAny_Return_some (bG (he pins s σ H _ I h) λv s1 ⟨x,H1,I1,r1,q1⟩=>⟨x,σ,H1,I1,r1,q1⟩)
def Ut (c:TT)(t u:TS):TS:=λD σ H=>c σ H λb H1=>if b=true then t D σ H1 else u D σ H1
theorem ps_if {c:Expr}{a b:List Stmt}{tc:TT}(hc:PT X c tc)(ha:PSs X a t)(hb:PSs X b u):PS X (.If c a b pos) (Ut tc t u):=by
 intro pins s σ H D I h;refine wpAny_If (bG (hc pins s σ H _ I h) λd s1 ⟨H1,I1,q1⟩=>?_);cases d with
 | true=>exact ha pins s1 σ H1 D I1 q1
 | false=>exact hb pins s1 σ H1 D I1 q1
def GP:TS:=λ_ _ _=>False
theorem vT:PS X st GP:=λ_ _ _ _ _ _ h=>h.elim
end

abbrev TG:=V->St->Hp->(St->Hp->Prop)->Prop
abbrev FA:=List V->St->Hp->(St->Hp->Prop)->Prop
def PG (X:Cx)(target:Expr)(t:TG):Prop :=
 ∀ (pins:List (Addr×Obj)) (s:Shared) (σ:St) (H:Hp) (v:V) (u:Value) (Q:St->Hp->Prop),Inv X pins σ H s->RelV v u->t v σ H Q ->
  wpAny (model X.prog X.w) X.A (assign target X.env u) (λ_ s'=>∃ σ' H',Inv X pins σ' H' s'/\Q σ' H') X.xe s
def Pl (X:Cx)(ts:List Expr)(t:FA):Prop :=
 ∀ (pins:List (Addr×Obj)) (s:Shared) (σ:St) (H:Hp) (vs:List V) (us:List Value) (Q:St->Hp->Prop),Inv X pins σ H s->Vals vs us->t vs σ H Q ->
  wpAny (model X.prog X.w) X.A (assignInOrder ((assignEach ts X.env).map (·.2)) us) (λ_ s'=>∃ σ' H',Inv X pins σ' H' s'/\Q σ' H') X.xe s
abbrev GQ:=V->V->V->Hp->(Hp->Prop)->Prop
def Px (X:Cx)(t:GQ):Prop :=
 ∀ (pins:List (Addr×Obj)) (s:Shared) (σ:St) (H:Hp) (o i v:V) (ov iv u:Value) (Q:Hp->Prop),Inv X pins σ H s->RelV o ov->RelV i iv->RelV v u->t o i v H Q ->
  wpAny (model X.prog X.w) X.A (setItem ov iv u) (λ_ s'=>∃ H',Inv X pins σ H' s'/\Q H') X.xe s
section
variable {X:Cx}{pos:Pos}
def jK (i:Nat):TG:=λv σ H Q=>Q (σ.set i (some v)) H
theorem pg_name {i:Nat}{x:Str}(hN:X.N.Nodup)(hi:X.N[i]?=some x)(hx:Loc X.env.scope x)(hf:X.fn x=true\/X.env.scope.names.lookup x=some .local:=by first|exact .inl rfl|exact .inr rfl|assumption):PG X (.Name x pos) (jK i):=by
 intro pins s σ H v u Q I r h;exact wpAny_assign_Name (jJ I hN hi hx r (λs' I'=>⟨_,H,I',h⟩) hf)
def Uu:FA:=λvs σ H Q=>vs=[]/\Q σ H
def Py (t:TG)(u:FA):FA:=λvs σ H Q=>∃ v r,vs=v::r/\t v σ H λσ' H'=>u r σ' H' Q
theorem Dt:Pl X [] Uu:=by
 intro pins s σ H vs us Q I r h;obtain⟨e,h⟩:=h;subst e;cases r;exact assignInOrder_nil ⟨σ,H,I,h⟩
theorem vU {e:Expr}{es:List Expr}{t:TG}{u:FA}(h1:PG X e t)(h2:Pl X es u)
  (hs:(assignEach (e::es) X.env).map (·.2)=assign e X.env::(assignEach es X.env).map (·.2):=by rfl):Pl X (e::es) (Py t u):=by
 intro pins s σ H vs us Q I r h;obtain⟨v,vr,e1,h⟩:=h;subst e1;cases r with
 | cons r rr =>
  rw[hs];refine assignInOrder_cons (bG (h1 pins s σ H _ _ _ I r h) λ_ s1 ⟨σ1,H1,I1,q1⟩=>?_);exact h2 pins s1 σ1 H1 _ _ Q I1 rr q1
def Uv (K:PySem.W.Frag)(n:Nat)(t:FA):TG:=λv σ H Q=>∃ a xs,v=.ref a/\SqT K H a xs/\xs.length=n/\t xs σ H Q
theorem GR {es:List Expr}{k:Nat}{t:FA}{n:Nat}(hc:X.calm=true)(h:Pl X es t)
  (hn:(assignEach es X.env).length=n:=by rfl) (hst:(assignEach es X.env).findIdx? (·.1)=none:=by rfl):PG X (.Tuple es k pos) (Uv X.K n t):=by
 intro pins s σ H v u Q I r hw;obtain⟨a,xs,e1,hq,hl,hw⟩:=hw;subst e1;cases r;obtain⟨its,rv,ht,hz⟩:=I.tuple hq;refine assign_Tuple_tuple (I.ok.hd hc) ht (by simp [hn,<- hl,rv.length]) hst λh' hx=>?_
 have I1:Inv X pins σ H { s with heap:=h' }:=I.kept (t':=s.toks) λb o e=>hx b o (Nat.ne_of_lt (Heap.lt_size e)) e
 exact h pins _ σ H xs _ Q I1 (by simpa using rv) hw
def Uw (to ti:TE)(t:GQ):TG:=λv σ H Q=>to σ H λo H1=>ti σ H1 λi H2=>t o i v H2 λH3=>Q σ H3
theorem GT {o i:Expr}{to ti:TE}{t:GQ}(ho:PE X o to)(hi:PE X i ti)(hs:Px X t)
  (ha:∀ v,assign (.Subscript o i pos) X.env v=(do
   let ov <- holding [v] (eval o X.env)
   let iv <- holding [v,ov] (eval i X.env)
   standAt pos
   holding [v,ov,iv] (setItem ov iv v)
   release [v,ov,iv] []):=by intro _;rfl):PG X (.Subscript o i pos) (Uw to ti t):=by
 intro pins s σ H v u Q I r h;rw[ha];refine wpAny_bind (wpAny_holding (bG (ho pins s σ H _ I h) λov s1 ⟨x,H1,I1,r1,q1⟩=>?_));refine wpAny_bind (wpAny_holding (bG (hi pins s1 σ H1 _ I1 q1) λiv s2 ⟨y,H2,I2,r2,q2⟩=>?_));refine wpAny_bind (wpAny_standAt (wpAny_bind (wpAny_holding (bG (hs pins s2 σ H2 x y v ov iv u _ I2 r1 r2 r q2) λ_ s3 ⟨H3,I3,q3⟩=>?_))));exact wpAny_release ⟨σ,H3,I3,q3⟩
def vV (te:TE)(g:TG):TS:=λD σ H=>te σ H λx H1=>g x σ H1 D.nx
theorem GU {tg e:Expr}{te:TE}{g:TG}(he:PE X e te)(hg:PG X tg g)(hs:swapsWithSole [tg] e pos.line X.env=pure false:=by rfl)(hw:swappedStores [tg] e X.env=pure none:=by rfl)
  (h1:(assignEach [tg] X.env).map (·.2)=[assign tg X.env]:=by rfl):PS X (.Assign [tg] e pos) (vV te g):=by
 intro pins s σ H D I h;refine wpAny_Assign_stores (bG (he pins s σ H _ I h) λv s1 ⟨x,H1,I1,r1,q1⟩=>?_) hs hw;rw[h1];exact bG (hg pins s1 σ H1 x v _ I1 r1 q1) λ_ s2 q=>q
theorem ps_set {i:Nat}{x:Str}{e:Expr}{te:TE}{pos':Pos}(hN:X.N.Nodup)(hi:X.N[i]?=some x)(hx:Loc X.env.scope x)(he:PE X e te)(hs:swapsWith e (some (.Name x pos')) pos.line X.env=pure false:=by rfl)(hf:X.fn x=true\/X.env.scope.names.lookup x=some .local:=by first|exact .inl rfl|exact .inr rfl|assumption) :
  PS X (.Assign [.Name x pos'] e pos) (vV te (jK i)):=by
 intro pins s σ H D I h;refine wpAny_Assign_Name (bG (he pins s σ H _ I h) λv s1 ⟨y,H1,I1,r1,q1⟩=>?_) hs;exact jJ I1 hN hi hx r1 (λs2 I2=>⟨_,H1,I2,q1⟩) hf
end

section
variable {X:Cx}{pos:Pos}
end

structure It where
 go:Nat->Hp->Prop
 yld:Nat->Hp->V->Hp->Prop
 stop:Nat->Hp->Prop
def fh (X:Cx)(pins:List (Addr×Obj))(H:Hp)(b:Addr):Prop :=
 H b=none/\b≠X.env.locals/\b∉X.fs/\(b∈X.ex\/X.s₀.heap.objs.size<=b)/\(∀ x c,X.env.cells.lookup x=some c->c≠b)/\∀ p∈X.pn++pins,p.1≠b
theorem Inv.fpOk {X:Cx}{pins:List (Addr×Obj)}{σ:St}{H H':Hp}{s:Shared}{b:Addr}(I:Inv X pins σ H s)(hb:s.heap.objs.size<=b)(hn:H' b=none):fh X pins H' b:=by
 refine⟨hn,Nat.ne_of_gt (Nat.lt_of_lt_of_le I.lt hb),I.nofs hb,.inr (Nat.le_trans I.sz hb),λx c e z=>?_,λp hp z=>?_⟩
 ·obtain⟨v,q⟩:=I.cell x c e
  exact absurd (Nat.lt_of_lt_of_le q.lt (by rw[z];exact hb)) (Nat.lt_irrefl _)
 ·exact absurd (Nat.lt_of_lt_of_le (Heap.lt_size (I.pin p hp).1) (by rw[z];exact hb)) (Nat.lt_irrefl _)
structure Turn (P:Program)(w:World)(K:PySem.W.Frag)(tg:Expr)(J:It)(fp:List Addr)(it:Addr)(tn:Nat->Heap->Prop):Prop where
 mem:it∈fp
 obj:∀ i h,tn i h->∀ b∈fp,∃ o,h.get? b=some o/\∀ v,o.data≠.cell v
 keep:∀ i h h',tn i h->(∀ b∈fp,∀ o,h.get? b=some o->h'.get? b=some o)->tn i h'
 item:∀ (X:Cx),X.prog=P->X.w=w->X.K=K->X.calm=true->∀ (i:Nat) (pins:List (Addr×Obj)) (s:Shared) (σ:St) (H:Hp) (E:Value->Shared->Prop),Inv X pins σ H s->(∀ b∈fp,fh X pins H b)->tn i s.heap->J.go i H ->
  wpAny (model P w) X.A (pyNext (.ref it)) (λr s1=>∃ u,r=some u /\
   wpAny (model P w) X.A (letOwnedTupleGo tg (.ref it) u) (λ_ s2=>∃ x H',Inv X pins σ H' s2/\RelV x u/\J.yld i H x H'/\tn (i+1) s2.heap/\∀ b∈fp,H' b=none) E s1) E s
 done:∀ (X:Cx),X.prog=P->X.w=w->X.K=K->X.calm=true->∀ (i:Nat) (pins:List (Addr×Obj)) (s:Shared) (σ:St) (H:Hp) (E:Value->Shared->Prop),Inv X pins σ H s->(∀ b∈fp,fh X pins H b)->tn i s.heap->J.stop i H ->
  wpAny (model P w) X.A (pyNext (.ref it)) (λr s1=>r=none/\Inv X pins σ H s1) E s
 self:∀ (A:Around) (i:Nat) (s:Shared) (Q:Value->Shared->Prop) (E:Value->Shared->Prop),tn i s.heap->Q (.ref it) s->wpAny (model P w) A (pyIter (.ref it)) Q E s
abbrev TI:=St->Hp->(It->Hp->Prop)->Prop
def VD (X:Cx)(pins:List (Addr×Obj))(σ:St)(tg:Expr)(R:It->Hp->Prop)(itv:Value)(s2:Shared):Prop :=
 ∃ (it:Addr) (fp:List Addr) (tn:Nat->Heap->Prop) (J:It) (H':Hp),itv=.ref it/\Inv X pins σ H' s2/\Turn X.prog X.w X.K tg J fp it tn/\tn 0 s2.heap/\(∀ b∈fp,fh X pins H' b)/\R J H'
def PI (X:Cx)(tg iter:Expr)(wi:TI):Prop :=
 ∀ (pins:List (Addr×Obj)) (s:Shared) (σ:St) (H:Hp) (R:It->Hp->Prop),Inv X pins σ H s->wi σ H R ->
  wpAny (model X.prog X.w) X.A (eval iter X.env) (λv s1=>wpAny (model X.prog X.w) X.A (pyIter v) (VD X pins σ tg R) X.xe s1) X.xe s

theorem vW {M:Model}{A:Around}{E:Value->Shared->Prop}{s:Shared}{tg:Expr}{it:Addr}{u:Value}{o:Obj}{n:String}{vs:Array Value}{Q:Unit->Shared->Prop}(ho:s.heap.get? it=some o)(hc:o.cls=.type n)(hd:o.data=.fields vs)
    (hn:["enumerate","zip","dict_itemiterator","dict_reverseitemiterator","odict_iterator","itertools.zip_longest","itertools.pairwise"].contains n=false) (hQ:Q () s):wpAny M A (letOwnedTupleGo tg (.ref it) u) Q E s:=by
  unfold letOwnedTupleGo;cases tg<;>first
    | exact wpAny_pure hQ
    | (cases u<;>first
        | exact wpAny_pure hQ
        | (refine wpAny_bind (wpAny_load ho ?_)
           rw[hc,hd];show wpAny M A (if (["enumerate","zip","dict_itemiterator","dict_reverseitemiterator","odict_iterator","itertools.zip_longest","itertools.pairwise"].contains n&&vs[0]?==some (rawInt _))=true then _ else _) Q E s
           rw[if_neg (by intro h;rw[hn,Bool.false_and] at h;cases h)]
           exact wpAny_pure hQ))

def TW (K:PySem.W.Frag)(a:Addr):It :=
 ⟨λi H=>∃ xs x,SqL K H a xs/\xs[i]?=some x,λi H x H'=>H'=H/\∀ xs,SqL K H a xs->xs[i]?=some x,λi H=>∃ xs,SqL K H a xs/\xs.length<=i⟩
def Ux (K:PySem.W.Frag)(a:Addr):It :=
 ⟨λi H=>∃ xs x,SqT K H a xs/\xs[i]?=some x,λi H x H'=>H'=H/\∀ xs,SqT K H a xs->xs[i]?=some x,λi H=>∃ xs,SqT K H a xs/\xs.length<=i⟩
def Pz (lo:Int)(n:Nat):It:=⟨λi _=>i < n,λi H x H'=>H'=H/\x=.int (lo+i),λi _=>n<=i⟩
theorem uQ {P:Program}{w:World}{K:PySem.W.Frag}{tg:Expr}(a it:Addr):Turn P w K tg (TW K a) [it] it (λi h=>h.IsListIter it a i) where
 mem:=by simp
 obj:=λi h st b hb=>by
  have e:b=it:=by simpa using hb
  subst e;obtain⟨o,e,c,d⟩:=st;exact⟨o,e,λv z=>by rw[d] at z;cases z⟩
 keep:=λi h h' st k=>st.at λo e=>k it (by simp) o e
 item:=by
  intro X hP hw hK hc i pins s σ H E I hf st hg;subst hP hw hK;obtain⟨xs,x,hq,hx⟩:=hg;obtain⟨its,rv,p,hz⟩:=I.list hq;obtain⟨u,hu,ru⟩:=rv.get hx;obtain⟨f0,f1,f2,f3,f4,f5⟩:=hf it (by simp)
  refine wpAny_pyNext_list_item st p.isList (x:=u) (by simpa using hu) λh' st' sb=>?_
  have I1:Inv X pins σ H { s with heap:=h' }:=I.turned (t':=s.toks) (λb o hb e=>(sb.2 b hb).trans e) f0 f1 f3 f4 f5
  obtain⟨o,e,c,d⟩:=id st';exact⟨u,rfl,vW (s:={ s with heap:=h' }) e c d (by decide) ⟨x,H,I1,ru,⟨rfl,λys hy=>by rw[I.list_inj hy hq];exact hx⟩,st',λb hb=>(hf b hb).1⟩⟩
 done:=by
  intro X hP hw hK hc i pins s σ H E I hf st hg;subst hP hw hK;obtain⟨xs,hq,hx⟩:=hg;obtain⟨its,rv,p,hz⟩:=I.list hq;obtain⟨f0,f1,f2,f3,f4,f5⟩:=hf it (by simp)
  have hl:=rv.length;exact wpAny_pyNext_list_end (I.ok.hd hc) st p.isList (by simp;omega) λh' eb=>⟨rfl,I.turned (t':=s.toks) (λb o hb e=>eb b o hb e) f0 f1 f3 f4 f5⟩
 self:=λ_ _ _ _ _ st h=>wpAny_pyIter_listiter st h
theorem sf {P:Program}{w:World}{K:PySem.W.Frag}{tg:Expr}(a it:Addr):Turn P w K tg (Ux K a) [it] it (λi h=>h.IsTupleIter it a i) where
 mem:=by simp
 obj:=λi h st b hb=>by
  have e:b=it:=by simpa using hb
  subst e;obtain⟨o,e,c,d⟩:=st;exact⟨o,e,λv z=>by rw[d] at z;cases z⟩
 keep:=λi h h' st k=>st.at λo e=>k it (by simp) o e
 item:=by
  intro X hP hw hK hc i pins s σ H E I hf st hg;subst hP hw hK;obtain⟨xs,x,hq,hx⟩:=hg;obtain⟨its,rv,p,hz⟩:=I.tuple hq;obtain⟨u,hu,ru⟩:=rv.get hx;obtain⟨f0,f1,f2,f3,f4,f5⟩:=hf it (by simp)
  refine wpAny_pyNext_tuple_item st (show s.heap.IsTuple a its.toArray from p) (x:=u) (by simpa using hu) λh' st' sb=>?_
  have I1:Inv X pins σ H { s with heap:=h' }:=I.turned (t':=s.toks) (λb o hb e=>(sb.2 b hb).trans e) f0 f1 f3 f4 f5
  obtain⟨o,e,c,d⟩:=id st';exact⟨u,rfl,vW (s:={ s with heap:=h' }) e c d (by decide) ⟨x,H,I1,ru,⟨rfl,λys hy=>by rw[I.tuple_inj hy hq];exact hx⟩,st',λb hb=>(hf b hb).1⟩⟩
 done:=by
  intro X hP hw hK hc i pins s σ H E I hf st hg;subst hP hw hK;obtain⟨xs,hq,hx⟩:=hg;obtain⟨its,rv,p,hz⟩:=I.tuple hq;obtain⟨f0,f1,f2,f3,f4,f5⟩:=hf it (by simp)
  have hl:=rv.length;exact wpAny_pyNext_tuple_end (I.ok.hd hc) st (show s.heap.IsTuple a its.toArray from p) (by simp;omega) λh' eb=>⟨rfl,I.turned (t':=s.toks) (λb o hb e=>eb b o hb e) f0 f1 f3 f4 f5⟩
 self:=λ_ _ _ _ _ st h=>wpAny_pyIter_tupleiter st h
theorem sg {P:Program}{w:World}{K:PySem.W.Frag}{tg:Expr}(it:Addr)(lo:Int)(n:Nat):Turn P w K tg (Pz lo n) [it] it (λi h=>IsRangeIter h it (lo+(i:Nat)*1) ((n:Int) - (i:Nat)) 1) where
 mem:=by simp
 obj:=λi h st b hb=>by
  have e:b=it:=by simpa using hb
  subst e;exact⟨_,st,λv z=>by
   have z':Data.fields _=Data.cell v:=z;cases z'⟩
 keep:=λi h h' st k=>k it (by simp) _ st
 item:=by
  intro X hP hw hK hc i pins s σ H E I hf st hg;subst hP hw hK;obtain⟨f0,f1,f2,f3,f4,f5⟩:=hf it (by simp)
  have W:=Walks.range (prog:=X.prog) (w:=X.w) (I.ok.hd hc) it lo 1 n;refine W.item i s _ _ hg st λv h' tk hv st' kk=>?_;obtain⟨t,rfl⟩:=hv;have I1:Inv X pins σ H { s with heap:=h',toks:=tk }:=I.turned (λb o hb e=>kk b o (by simpa using hb) e) f0 f1 f3 f4 f5
  refine⟨_,rfl,vW (s:={ s with heap:=h',toks:=tk }) (n:="range_iterator") st' rfl rfl (by decide) ⟨.int (lo+i),H,I1,⟨t,?_⟩,⟨rfl,rfl⟩,st',λb hb=>(hf b hb).1⟩⟩
  rw[Int.mul_one]
 done:=by
  intro X hP hw hK hc i pins s σ H E I hf st hg;subst hP hw hK;obtain⟨f0,f1,f2,f3,f4,f5⟩:=hf it (by simp)
  exact wpAny_pyNext_range_end (I.ok.hd hc) st (by have:n<=i:=hg;omega) λh' eb=>⟨rfl,I.turned (t':=s.toks) (λb o hb e=>eb b o hb e) f0 f1 f3 f4 f5⟩
 self:=λ_ _ _ _ _ st h=>wpAny_pyIter_rangeiter st h
end L2

namespace L2
open PySem PySem.Spec PyProof.Rows
section
variable {X:Cx}{tg:Expr}
theorem pH {pins:List (Addr×Obj)}{σ:St}{H:Hp}{s:Shared}{R:It->Hp->Prop}{E:Value->Shared->Prop}{lo hi:Int}{t u v:Tok}{tk:Nat}(I:Inv X pins σ H s)(h1:-(2^62)<=lo)(h2:lo < 2^62)(h3:-(2^62)<=hi)(h4:hi < 2^62)
  (q:R (Pz lo (hi - lo).toNat) H):wpAny (model X.prog X.w) X.A (pyIter (.ref s.heap.objs.size)) (VD X pins σ tg R) E { s with heap:=s.heap.push { cls:=.type "range",data:=.fields #[.int lo t,.int hi u,.int 1 v] },toks:=tk }:=by
 refine wpAny_pyIter_range (IsRange.new ..) (small_one h1 h2 h3 h4) ?_;have I1:Inv X pins σ H { s with heap:=s.heap.push { cls:=.type "range",data:=.fields #[.int lo t,.int hi u,.int 1 v] },toks:=tk }:=I.kept λb o e=>Heap.get?_push_of_some _ e
 refine⟨(s.heap.push { cls:=.type "range",data:=.fields #[.int lo t,.int hi u,.int 1 v] }).objs.size,[(s.heap.push { cls:=.type "range",data:=.fields #[.int lo t,.int hi u,.int 1 v] }).objs.size],_,_,H,rfl,
  I1.kept (t':=tk) λb o e=>Heap.get?_push_of_some _ e,sg _ lo (hi - lo).toNat,?_,λb hb=>?_,q⟩
 ·have e1:lo+((0:Nat):Int)*1=lo:=by simp
  have e2:(((hi - lo).toNat:Nat):Int) - ((0:Nat):Int)=Builtin.Range.rangeSize lo hi 1:=by rw[rangeSize_one];split<;>omega
  show IsRangeIter _ _ (lo+((0:Nat):Int)*1) ((((hi - lo).toNat:Nat):Int) - ((0:Nat):Int)) 1;rw[e1,e2];exact Heap.get?_push_size _ rfl
 ·have e:b=(s.heap.push { cls:=.type "range",data:=.fields #[.int lo t,.int hi u,.int 1 v] }).objs.size:=by simpa using hb
  subst e;exact I1.fpOk (Nat.le_refl _) (I1.hok.fresh (Nat.le_refl _))
def PB (ta:TA):TI:=λσ H R=>ta σ H λvs H1=>∃ j:Int,vs=[.int j]/\-(2^62)<=j/\j < 2^62/\R (Pz 0 j.toNat) H1
def PC (ta:TA):TI:=λσ H R=>ta σ H λvs H1=>∃ i j:Int,vs=[.int i,.int j]/\(-(2^62)<=i/\i < 2^62/\-(2^62)<=j/\j < 2^62)/\R (Pz i (j - i).toNat) H1
theorem uR {a:Expr}{ta:TA}{p pos:Pos}(hg:Gl X "range")(hm:X.mg "range"=none)(ha:PA X [a] ta)(hs:starEach [a] X.env=[(false,eval a X.env)]:=by rfl):PI X tg (.Call (.Name "range" p) [a] [] pos) (PB ta):=by
 intro pins s σ H R I h;refine Call_ (ic I hg hm boot_range (PyProof.Rows.callWith_type1 (bG (ha pos pins s σ H _ I h) λus s1 ⟨vs,H1,I1,r1,q1⟩=>?_) hs rfl));obtain⟨j,e,q1,q2,q⟩:=q1;subst e;cases r1 with
 | cons r rr =>
  cases rr;obtain⟨t,rfl⟩:=r;exact call_range_1 (pH I1 (by omega) (by omega) q1 q2 (by simpa using q))
theorem uS {a b:Expr}{ta:TA}{p pos:Pos}(hg:Gl X "range")(hm:X.mg "range"=none)(ha:PA X [a,b] ta)(hs:starEach [a,b] X.env=[(false,eval a X.env),(false,eval b X.env)]:=by rfl)(hs2:starEach [b] X.env=[(false,eval b X.env)]:=by rfl) :
  PI X tg (.Call (.Name "range" p) [a,b] [] pos) (PC ta):=by
 intro pins s σ H R I h;refine Call_ (ic I hg hm boot_range (PyProof.Rows.callWith_type1 (bG (ha pos pins s σ H _ I h) λus s1 ⟨vs,H1,I1,r1,q1⟩=>?_) (by rw[hs,hs2]) (by rw[hs2];rfl)))
 obtain⟨i,j,e,⟨q1,q2,q3,q4⟩,q⟩:=q1;subst e;cases r1 with
 | cons r rr =>
  cases rr with
  | cons r' rr =>
   cases rr;obtain⟨t,rfl⟩:=r;obtain⟨t',rfl⟩:=r';exact call_range_2 (pH I1 q1 q2 q3 q4 q)

def PD (wi:TI)(g:TG)(tb:TS):TS:=λD σ H=>wi σ H λJ H1=>∃ W:Nat->Nat->St->Hp->Prop,(∃ m,W 0 m σ H1)/\∀ i m σ H,W i m σ H ->
 (J.stop i H/\D.nx σ H)\/(J.go i H/\∃ N:St->Hp->Prop,(∀ σ' H',N σ' H'->∃ m',m' < m/\W (i+1) m' σ' H')/\∀ x H',J.yld i H x H'->g x σ H' λσ2 H2=>tb { D with nx:=N,ct:=N,bk:=D.nx } σ2 H2)
def ie (fp:List Addr)(h:Heap):List (Addr×Obj):=fp.filterMap λb=>(h.get? b).map λo=>(b,o)
theorem cI {fp:List Addr}{h:Heap}{b:Addr}{o:Obj}(hb:b∈fp)(e:h.get? b=some o):(b,o)∈ie fp h:=List.mem_filterMap.mpr ⟨b,hb,by rw[e];rfl⟩
theorem uT {fp:List Addr}{h:Heap}{p:Addr×Obj}(hp:p∈ie fp h):p.1∈fp/\h.get? p.1=some p.2:=by
 obtain⟨b,hb,e⟩:=List.mem_filterMap.mp hp;cases q:h.get? b with
 | none=>rw[q] at e;cases e
 | some o =>
  rw[q] at e;have e':(b,o)=p:=Option.some.inj e;subst e';exact⟨hb,q⟩
theorem Inv.pinned {pins:List (Addr×Obj)}{σ:St}{H:Hp}{s:Shared}{fp:List Addr}(I:Inv X pins σ H s)(hf:∀ b∈fp,fh X pins H b)(ho:∀ b∈fp,∃ o,s.heap.get? b=some o/\∀ v,o.data≠.cell v):Inv X (pins++ie fp s.heap) σ H s :=
 I.pins_of λp hp=>(List.mem_append.mp hp).elim (λz=>I.pin p (List.mem_append_right _ z)) λz=>by
  obtain⟨hb,e⟩:=uT z;obtain⟨f0,f1,f2,_⟩:=hf p.1 hb;obtain⟨o,e',d⟩:=ho p.1 hb;rw[e] at e';cases e';exact⟨e,f0,f1,f2,d⟩
theorem Inv.unpinned {pins pl:List (Addr×Obj)}{σ:St}{H:Hp}{s:Shared}(I:Inv X (pins++pl) σ H s):Inv X pins σ H s:=I.pins_of λp hp=>I.pin p (List.mem_append_right _ (List.mem_append_left _ hp))
theorem vX {iter:Expr}{body:List Stmt}{wi:TI}{g:TG}{tb:TS}{pos:Pos}(hp:PassesOwn (model X.prog X.w) X.A X.env X.xe)(hc:X.calm=true)(hi:PI X tg iter wi)(hg:PG X tg g)(hb:PSs X body tb)
  (hs:∀ x,foldedSetIterable iter X.env x=pure x:=by intro _;rfl):PS X (.For tg iter body [] pos) (PD wi g tb):=by
 intro pins s σ H D I h;refine wpAny_For (bG (hi pins s σ H _ I h) λv s1 h1=>bG h1 λitv s2 h2=>?_) hs;obtain⟨it,fp,tn,J,H2,e,I2,T,st2,f2,W,⟨m0,w0⟩,turn⟩:=h2;subst e
 -- what stays true of the iterator's objects through the loop
 have stat:∀ {H':Hp},(∀ b∈fp,H' b=none)->∀ b∈fp,fh X pins H' b:=λhn b hb=>⟨hn b hb,(f2 b hb).2⟩;refine codeAny_forLoop_any (λn s'=>∃ i σ' H',Inv X pins σ' H' s'/\tn i s'.heap/\(∀ b∈fp,H' b=none)/\W i n σ' H') ?_ m0 ⟨0,σ,H2,I2,st2,λb hb=>(f2 b hb).1,w0⟩;rintro n s3 ⟨i,σ3,H3,I3,st3,fr3,w3⟩;rcases turn i n σ3 H3 w3 with ⟨stop,qn⟩|⟨go,N,hN,step⟩
 ·refine wpAny_passesOwn hp (bG (T.done X rfl rfl rfl hc i pins s3 σ3 H3 X.xe I3 (stat fr3) st3 stop) λr s4 ⟨hr,I4⟩=>?_)
  subst hr;exact wpAny_execs_nil ⟨σ3,H3,I4,qn⟩
 ·refine wpAny_passesOwn hp (bG (T.item X rfl rfl rfl hc i pins s3 σ3 H3 X.xe I3 (stat fr3) st3 go) λr s4 ⟨u,hr,h4⟩=>?_)
  subst hr;refine wpAny_passesOwn hp (bG h4 λ_ s5 ⟨x,H5,I5,r5,y5,st5,fr5⟩=>?_);have I5':=I5.pinned (stat fr5) (T.obj _ _ st5);refine wpAny_passesOwn hp (bG (hg _ s5 σ3 H5 x u _ I5' r5 (step x H5 y5)) λ_ s6 ⟨σ6,H6,I6,q6⟩=>?_);refine wpAny_passesOwn hp (bG (hb _ s6 σ6 H6 _ I6 q6) λf s7 q7=>?_);have again:∀ {σ7:St} {H7:Hp},Inv X (pins++ie fp s5.heap) σ7 H7 s7->N σ7 H7->∃ m,m < n/\∃ i σ' H',Inv X pins σ' H' s7/\tn i s7.heap/\(∀ b∈fp,H' b=none)/\W i m σ' H':=λ{σ7 H7} I7 n7=>by
   obtain⟨m',hm,w7⟩:=hN σ7 H7 n7;refine⟨m',hm,i+1,σ7,H7,I7.unpinned,T.keep _ _ _ st5 λb hb o e=>(I7.pin (b,o) (List.mem_append_right _ (List.mem_append_right _ (cI hb e)))).1,λb hb=>?_,w7⟩;obtain⟨o,e,d⟩:=T.obj _ _ st5 b hb;exact (I7.pin (b,o) (List.mem_append_right _ (List.mem_append_right _ (cI hb e)))).2.1
  cases f with
  | next=>obtain⟨σ7,H7,I7,n7⟩:=q7;exact again I7 n7
  | cont=>obtain⟨σ7,H7,I7,n7⟩:=q7;exact again I7 n7
  | brk=>obtain⟨σ7,H7,I7,q7⟩:=q7;exact⟨σ7,H7,I7.unpinned,q7⟩
  | ret v=>obtain⟨x7,σ7,H7,I7,r7,q7⟩:=q7;exact⟨x7,σ7,H7,I7.unpinned,r7,q7⟩
end

end L2

namespace L2
open PySem PySem.Spec PyProof.Rows

abbrev R2:=V->V->Hp->VK->Prop
def OpR (X:Cx)(f:Value->Value->Sem Value)(r:R2):Prop :=
 ∀ (pins:List (Addr×Obj)) (s:Shared) (σ:St) (H:Hp) (x y:V) (v u:Value) (Q:VK),Inv X pins σ H s->RelV x v->RelV y u->r x y H Q ->
  wpAny (model X.prog X.w) X.A (f v u) (EP X pins σ Q) X.xe s
def CallR (X:Cx)(f:Value)(r:List V->Hp->VK->Prop):Prop :=
 ∀ (pins:List (Addr×Obj)) (s:Shared) (σ:St) (H:Hp) (xs:List V) (us:List Value) (Q:VK),Inv X pins σ H s->Vals xs us->r xs H Q ->
  wpAny (model X.prog X.w) X.A (call f us) (EP X pins σ Q) X.xe s
def Uy (X:Cx)(r:V->Hp->(Bool->Hp->Prop)->Prop):Prop :=
 ∀ (pins:List (Addr×Obj)) (s:Shared) (σ:St) (H:Hp) (x:V) (v:Value) (Q:Bool->Hp->Prop),Inv X pins σ H s->RelV x v->r x H Q ->
  wpAny (model X.prog X.w) X.A (truthy v) (TP X pins σ Q) X.xe s

def GV (r:R2)(ta tb:TE):TE:=λσ H Q=>ta σ H λx H1=>tb σ H1 λy H2=>r x y H2 Q
def rI (C:Int->Int->Prop)(g:Int->Int->V):R2:=λx y H Q=>∃ i j,x=.int i/\y=.int j/\C i j/\Q (g i j) H
def Df (g:Int->Int->V):R2:=λx y H Q=>∃ i j,x=.int i/\y=.int j/\Q (g i j) H
section
variable {X:Cx}{a b c:Expr}{ta tb tc:TE}{pos:Pos}

theorem GW (ha:PE X a ta)(hb:PE X b tb){pins:List (Addr×Obj)}{s:Shared}{σ:St}{H:Hp}{R:V->V->Hp->Prop}(I:Inv X pins σ H s)
  (h:ta σ H λx H1=>tb σ H1 λy H2=>R x y H2) {Q:Value->Shared->Prop} {f:Value->Value->Sem Value}
  (hf:∀ v u s2 x y H2,Inv X pins σ H2 s2->RelV x v->RelV y u->R x y H2->wpAny (model X.prog X.w) X.A (f v u) Q X.xe s2) :
  wpAny (model X.prog X.w) X.A (eval a X.env) (λv s₁=>wpAny (model X.prog X.w) X.A (eval b X.env) (λu s₂=>wpAny (model X.prog X.w) X.A (f v u) Q X.xe s₂) X.xe s₁) X.xe s:=by
 refine bG (ha pins s σ H _ I h) λv s1 ⟨x,H1,I1,r1,q1⟩=>?_;refine bG (hb pins s1 σ H1 _ I1 q1) λu s2 ⟨y,H2,I2,r2,q2⟩=>?_;exact hf v u s2 x y H2 I2 r1 r2 q2

theorem PF {op:Operator}{r:R2}(ho:OpR X (binaryOp op) r)(ha:PE X a ta)(hb:PE X b tb):PE X (.BinOp a op b pos) (GV r ta tb):=by
 intro pins s σ H Q I h;exact wpAny_BinOp (GW ha hb I h λv u s2 x y H2 I2 rx ry q=>ho pins s2 σ H2 x y v u Q I2 rx ry q)
theorem TY {f:Value->Value->Sem Value}{C:Int->Int->Prop}{g:Int->Int->Int}
  (rule:∀ (i j:Int) (t u:Tok) (s:Shared) (Q:Value->Shared->Prop) (E:Value->Shared->Prop),C i j->Q (.int (g i j) s.toks) { s with toks:=s.toks+1 }->wpAny (model X.prog X.w) X.A (f (.int i t) (.int j u)) Q E s) :
  OpR X f (rI C λi j=>.int (g i j)):=by
 intro pins s σ H x y v u Q I rx ry h;obtain⟨i,j,rfl,rfl,hc,q⟩:=h;obtain⟨t,rfl⟩:=rx;obtain⟨t',rfl⟩:=ry;exact rule i j t t' s _ _ hc ⟨.int (g i j),H,I.tok _,⟨_,rfl⟩,q⟩
theorem PJ {f:Value->Value->Sem Value}{g:Int->Int->Int}
  (rule:∀ (i j:Int) (t u:Tok) (s:Shared) (Q:Value->Shared->Prop) (E:Value->Shared->Prop),Q (.int (g i j) s.toks) { s with toks:=s.toks+1 }->wpAny (model X.prog X.w) X.A (f (.int i t) (.int j u)) Q E s) :
  OpR X f (Df λi j=>.int (g i j)):=by
 intro pins s σ H x y v u Q I rx ry h;obtain⟨i,j,rfl,rfl,q⟩:=h;obtain⟨t,rfl⟩:=rx;obtain⟨t',rfl⟩:=ry;exact rule i j t t' s _ _ ⟨.int (g i j),H,I.tok _,⟨_,rfl⟩,q⟩
theorem Du {f:Value->Value->Sem Value}{g:Int->Int->Bool}
  (rule:∀ (i j:Int) (t u:Tok) (s:Shared) (Q:Value->Shared->Prop) (E:Value->Shared->Prop),Q (.bool (g i j)) s->wpAny (model X.prog X.w) X.A (f (.int i t) (.int j u)) Q E s) :
  OpR X f (Df λi j=>.bl (g i j)):=by
 intro pins s σ H x y v u Q I rx ry h;obtain⟨i,j,rfl,rfl,q⟩:=h;obtain⟨t,rfl⟩:=rx;obtain⟨t',rfl⟩:=ry;exact rule i j t t' s _ _ ⟨.bl (g i j),H,I,rfl,q⟩

def Uz (i j:Int):Prop:=0 < j/\j < 1073741824
def mW (i j:Int):Prop:=0<=j/\j<=1000000/\i.natAbs < 2^64
def CMul (i j:Int):Prop:=(-(2^64) < i/\i < 2^64)\/(-(2^64) < j/\j < 2^64)
theorem CMul.ok {i j:Int}(h:CMul i j):IntMulOk i j:=by
 rcases h with ⟨h1,h2⟩|⟨h1,h2⟩
 ·exact .of_left (intBits_le_64 h1 h2)
 ·exact .of_right (intBits_le_64 h1 h2)
theorem op_add:OpR X (binaryOp .Add) (Df λi j=>.int (i+j)):=PJ λ_ _ _ _ _ _ _ q=>add_int q
theorem GX:OpR X (binaryOp .Sub) (Df λi j=>.int (i - j)):=PJ λ_ _ _ _ _ _ _ q=>sub_int q
theorem op_mul:OpR X (binaryOp .Mult) (rI CMul λi j=>.int (i*j)):=TY λ_ _ _ _ _ _ _ hc q=>mul_int q hc.ok
theorem GY:OpR X (binaryOp .Mod) (rI (λ_ j=>0 < j) λi j=>.int (i%j)):=TY λi j _ _ _ _ _ hc q=>by
 have h1:(0:Int) < j:=hc;exact mod_int' (by omega) (by rw[Int.fmod_eq_emod_of_nonneg i (by omega)];exact q)
theorem GZ:OpR X (binaryOp .Pow) (rI mW λi j=>.int (i^j.toNat)):=TY λ_ _ _ _ _ _ _ hc q=>pow_int_small hc.1 hc.2.1 hc.2.2 q
end

section
variable {X:Cx}{a b c:Expr}{ta tb tc:TE}{pos:Pos}
theorem Ha {pins:List (Addr×Obj)}{σ:St}{H:Hp}{s:Shared}{Q:VK}{k k':Bool}(I:Inv X pins σ H s)(q:Q (.bl k) H)(e:k=k'):EP X pins σ Q (.bool k') s:=by
 subst e;exact⟨.bl k,H,I,rfl,q⟩
theorem PL:OpR X (compareOp .Lt) (Df λi j=>.bl (decide (i < j))):=Du λ_ _ _ _ _ _ _ q=>lt_int q
theorem PM:OpR X (compareOp .LtE) (Df λi j=>.bl (decide (i<=j))):=Du λ_ _ _ _ _ _ _ q=>le_int q
theorem PN:OpR X (compareOp .Gt) (Df λi j=>.bl (decide (j < i))):=Du λ_ _ _ _ _ _ _ q=>gt_int q
theorem PP:OpR X (compareOp .GtE) (Df λi j=>.bl (decide (j<=i))):=Du λ_ _ _ _ _ _ _ q=>ge_int q
theorem Hb:OpR X (compareOp .Is) (λx y H Q=>y=.non/\Q (.bl (decide (x=.non))) H):=by
 intro pins s σ H x y v u Q I rx ry h;obtain⟨rfl,q⟩:=h;cases ry;refine is_none_gen (Ha I q ?_);cases x<;>first
  | (cases rx;rfl)
  | (obtain⟨t,rfl⟩:=rx;rfl)
theorem OpR.or {f:Value->Value->Sem Value}{r r':R2}(h:OpR X f r)(h':OpR X f r'):OpR X f (λx y H Q=>r x y H Q\/r' x y H Q):=by
 intro pins s σ H x y v u Q I rx ry q;rcases q with q|q
 ·exact h pins s σ H x y v u Q I rx ry q
 ·exact h' pins s σ H x y v u Q I rx ry q

theorem mX (b:Expr){op:CmpOp}(h:op≠.In:=by decide)(h2:op≠.NotIn:=by decide):behindInMarks op b=false:=by
 have e1:(op==CmpOp.In)=false:=by cases op<;>first|rfl|exact absurd rfl h
 have e2:(op==CmpOp.NotIn)=false:=by cases op<;>first|rfl|exact absurd rfl h2
 cases b<;>simp [behindInMarks,e1,e2]
theorem Dv {op:CmpOp}{r:R2}(ho:OpR X (compareOp op) r)(ha:PE X a ta)(hb:PE X b tb)(hm:behindInMarks op b=false):PE X (.Compare a [op] [b] pos) (GV r ta tb):=by
 intro pins s σ H Q I h;exact wpAny_Compare1 (GW ha hb I h λv u s2 x y H2 I2 rx ry q=>ho pins s2 σ H2 x y v u Q I2 rx ry q) hm
def PQ (t:TE):TT:=λσ H Q=>t σ H λx H'=>∃ k,x=.bl k/\Q k H'
theorem mY {op:CmpOp}{r:R2}(ho:OpR X (compareOp op) r)(ha:PE X a ta)(hb:PE X b tb)(hm:behindInMarks op b=false):PT X (.Compare a [op] [b] pos) (PQ (GV r ta tb)):=by
 intro pins s σ H Q I h;refine wpAny_isTrue_Compare1 (bG (ha pins s σ H _ I h) λv s1 ⟨x,H1,I1,r1,q1⟩=>bG (hb pins s1 σ H1 _ I1 q1) λu s2 ⟨y,H2,I2,r2,q2⟩ =>
  bG (ho pins s2 σ H2 x y v u _ I2 r1 r2 q2) λc s3 ⟨z,H3,I3,r3,k,e,q3⟩=>?_) hm
 subst e;cases r3;exact wpAny_truthy_bool ⟨H3,I3,q3⟩
def PR (K:PySem.W.Frag)(x:V)(H:Hp)(k:Bool):Prop :=
 match x with
 | .non=>k=false
 | .bl b=>k=b
 | .int i=>k=(i != 0)
 | .str y=>y.length<=sizeLine/\k=((y.length:Int) != 0)
 | .byt y=>y.size<=sizeLine/\k=((y.size:Int) != 0)
 | .ref p=>(∃ xs,SqL K H p xs/\k=!xs.isEmpty)\/(∃ xs,SqT K H p xs/\k=!xs.isEmpty)\/∃ kvs,H p=some (.dK kvs)/\k=!kvs.isEmpty
 | _=>False
theorem sj {κ:Type}{kvs:List (κ×V)}{vs:List (κ×Value)}(r:KV kvs vs):(!vs.isEmpty)=!kvs.isEmpty:=by
 cases r<;>rfl
theorem jL {xs:List V}{its:List Value}(r:Vals xs its):(!its.toArray.isEmpty)=!xs.isEmpty:=by
 cases r<;>simp
theorem fC:(sizeLine:Nat) < 2^63:=by rw[sizeLine_eq];decide
theorem Hc:Uy X (λx H Q=>∃ k,PR X.K x H k/\Q k H):=by
 intro pins s σ H x v Q I rx h;obtain⟨k,e,q⟩:=h;have hl:=fC;have hs:sizeLine=16777216:=sizeLine_eq;cases x with
 | non =>
  cases rx;have e':k=false:=e;subst e';exact truthy_none ⟨H,I,q⟩
 | bl b =>
  cases rx;have e':k=b:=e;subst e';exact wpAny_truthy_bool ⟨H,I,q⟩
 | int i =>
  obtain⟨t,rfl⟩:=rx;have e':k=(i != 0):=e;subst e';exact PySem.P.truthy_int ⟨H,I,q⟩
 | str y =>
  obtain⟨t,rfl⟩:=rx;obtain⟨hy,e'⟩:y.length<=sizeLine/\k=((y.length:Int) != 0):=e;subst e';exact PySem.P.truthy_str (by omega) ⟨H,I.tok _,q⟩
 | byt y =>
  obtain⟨t,rfl⟩:=rx;obtain⟨hy,e'⟩:y.size<=sizeLine/\k=((y.size:Int) != 0):=e;subst e';exact PySem.W.truthy_bytes (by omega) ⟨H,I.tok _,q⟩
 | ref p =>
  cases rx;have e':(∃ xs,SqL X.K H p xs/\k=!xs.isEmpty)\/(∃ xs,SqT X.K H p xs/\k=!xs.isEmpty)\/∃ kvs,H p=some (.dK kvs)/\k=!kvs.isEmpty:=e;rcases e' with ⟨xs,hx,e'⟩|⟨xs,hx,e'⟩|⟨kvs,hx,e'⟩
  ·subst e'
   obtain⟨its,r,pl,hz⟩:=I.list hx;have hlen:=r.length;exact wpAny_truthy_list pl.isList (by simp only[List.size_toArray];omega) ⟨H,I.tok _,by rw[jL r];exact q⟩
  ·subst e'
   obtain⟨its,r,pl,hz⟩:=I.tuple hx;have hlen:=r.length;exact truthy_tuple pl (by simp only[List.size_toArray];omega) ⟨H,I.tok _,by rw[jL r];exact q⟩
  ·subst e'
   obtain⟨hz,hS,vs,r,m⟩:kvs.length<=sizeLine/\(p==sysModules)=false/\∃ vs,KV kvs vs/\s.heap.DictOf (bu X.prog X.w) p vs:=I.hok p _ hx;have hlen:kvs.length=vs.length:=Paired.length r;exact wpAny_truthy_dict hS m (by omega) ⟨H,I.tok _,by rw[sj r];exact q⟩
 | _=>exact (show False from e).elim
theorem vY (ha:PE X a ta)(he:∀ whole,isTrue a X.env whole=(do let v <- whole;standAt a.pos;holding [v] (truthy v))) :
  PT X a (λσ H Q=>ta σ H λx H'=>∃ k,PR X.K x H' k/\Q k H'):=by
 intro pins s σ H Q I h;exact isTrue_plain (bG (ha pins s σ H _ I h) λv s1 ⟨x,H1,I1,r1,q1⟩=>Hc pins s1 σ H1 x v Q I1 r1 q1) (he _)

theorem op_add_str:OpR X (binaryOp .Add) (λx y H Q=>∃ i j,x=.str i/\y=.str j/\i.length+j.length<=sizeLine/\Q (.str (i++j)) H):=by
 intro pins s σ H x y v u Q I rx ry h;obtain⟨i,j,rfl,rfl,hz,q⟩:=h;obtain⟨t,rfl⟩:=rx;obtain⟨t',rfl⟩:=ry;exact add_str (λt' tk=>⟨.str (i++j),H,I.tok _,⟨_,rfl⟩,q⟩) hz
theorem dt {x:V}{us:List Value}(r:Vals [x] us):∃ u,us=[u]/\RelV x u:=by
 cases r with
 | cons r1 r2=>cases r2;exact⟨_,rfl,r1⟩
theorem vZ {x y:V}{us:List Value}(r:Vals [x,y] us):∃ u w',us=[u,w']/\RelV x u/\RelV y w':=by
 cases r with
 | cons r1 r2 =>
  cases r2 with
  | cons r3 r4=>cases r4;exact⟨_,_,rfl,r1,r3⟩
theorem wc:CallR X (.builtin "abs") (λxs H Q=>∃ i,xs=[.int i]/\Q (.int (if i < 0 then -i else i)) H):=by
 intro pins s σ H xs us Q I r h;obtain⟨i,rfl,q⟩:=h;obtain⟨u,rfl,t,rfl⟩:=dt r;exact call_abs_int λu tk=>⟨.int (if i < 0 then -i else i),H,I.tok _,⟨_,rfl⟩,q⟩
theorem uU (hc:X.calm=true):CallR X (.builtin "max") (λxs H Q=>∃ i j,xs=[.int i,.int j]/\Q (.int (if j > i then j else i)) H):=by
 intro pins s σ H xs us Q I r h;obtain⟨i,j,rfl,q⟩:=h;obtain⟨u,w',rfl,⟨t,rfl⟩,⟨t',rfl⟩⟩:=vZ r;refine max_two_ints (I.ok.hd hc) λh' tk k=>⟨_,H,I.kept k,?_,q⟩
 by_cases hj:j > i
 ·rw[if_pos hj,if_pos hj];exact⟨_,rfl⟩
 ·rw[if_neg hj,if_neg hj];exact⟨_,rfl⟩
theorem uV (hc:X.calm=true):CallR X (.builtin "min") (λxs H Q=>∃ i j,xs=[.int i,.int j]/\Q (.int (if j < i then j else i)) H):=by
 intro pins s σ H xs us Q I r h;obtain⟨i,j,rfl,q⟩:=h;obtain⟨u,w',rfl,⟨t,rfl⟩,⟨t',rfl⟩⟩:=vZ r;refine min_two_ints (I.ok.hd hc) λh' tk k=>⟨_,H,I.kept k,?_,q⟩
 by_cases hj:j < i
 ·rw[if_pos hj,if_pos hj];exact⟨_,rfl⟩
 ·rw[if_neg hj,if_neg hj];exact⟨_,rfl⟩
end
end L2

namespace L2
open PySem PySem.Spec PyProof.Rows

structure ObjM (h:Heap)(x dx C:Addr)(mA:Str->Option Value):Prop where
 obj:h.get? x=some (PySem.W.instObj C dx)
 ns:h.Ns1 dx mA
 ne:dx≠x

theorem uW {h:Heap}{dx:Addr}{mA:Str->Option Value}(n:h.Ns1 dx mA):∃ od,h.get? dx=some od/\∀ name,PySem.W.lookIn name od=some (mA name):=by
 obtain⟨o,es,ep,ho,hd,hk,_,hm⟩:=n;refine⟨o,ho,λname=>?_⟩;have e:=hm name;unfold nsFind findBy at e;rw[<- Array.find?_toList] at e;unfold PySem.W.lookIn;rw[hd];dsimp only
 split
 ·rename_i y q
  rw[q] at e;exact congrArg some e
 ·rename_i q
  rw[q] at e;have a:es.toList.any (·.refKey)=false:=by
   rw[List.any_eq_false];intro y hy;obtain⟨z,t,hkey⟩:=hk y (Array.mem_toList_iff.mp hy);simp [DictEntry.refKey,hkey]
  have a':¬ es.toList.any (·.refKey)=true:=by rw[a];exact Bool.false_ne_true
  rw[if_neg a'];exact congrArg some e

theorem ObjM.look {h:Heap}{x dx C:Addr}{mA:Str->Option Value}(I:ObjM h x dx C mA):∃ od,PySem.W.InstAt h x (PySem.W.instObj C dx) C (some od)/\∀ name,PySem.W.lookIn name od=some (mA name) :=
 let ⟨od,ho,hl⟩:=uW I.ns
 ⟨od,⟨I.obj,rfl,rfl,ho⟩,hl⟩

section
variable {prog:Program}{w:World}{A:Around}{E:Value->Shared->Prop}{s:Shared}{K:PySem.W.Frag}{x dx C f:Addr}{mA:Str->Option Value}{name:Str}{v:Value}

theorem Dw {expr:Bool}{Q:Value->Shared->Prop}(X:K.In s.heap)(I:ObjM s.heap x dx C mA)(hg:PySem.W.plainGet K C name=true)(hh:PySem.W.hasDictIn K C=true)
  (ha:PySem.W.findIn K (.ref C) name=some none) (hv:mA name=some v) (hv':PySem.W.handedIn v=true) (h:Q v { s with toks:=s.toks+1 }) :
  wpAny (model prog w) A (getAttr (.ref x) name expr) Q E s:=by
 obtain⟨od,J,hl⟩:=I.look;exact PySem.W.get_value X J (PySem.W.plainGet_of hg).1 (PySem.W.findObj_own hh ha rfl (by rw[hl,hv])) hv' h

theorem wd {pl:Sem Bool}{Q:Value×List Value->Shared->Prop}(X:K.In s.heap)(I:ObjM s.heap x dx C mA)(hg:PySem.W.plainGet K C name=true)
  (hf:PySem.W.findIn K (.ref C) name=some (some (.ref f))) (ht:PySem.W.isFn K (.ref f)=true) (hv:mA name=none) (h:Q (.ref f,[.ref x]) s) :
  wpAny (model prog w) A (getMethod (.ref x) name pl) Q E s:=by
 obtain⟨od,J,hl⟩:=I.look;exact PySem.W.method_fn X J (PySem.W.plainGet_of hg).1 (PySem.W.plainGet_of hg).2 hf (beq_iff_eq.mp ht) (by show (PySem.W.lookIn name od).map (·.isSome)=some false;rw[hl,hv];rfl) h

theorem Dx {ns:List Str}{Q:Unit->Shared->Prop}(X:K.In s.heap)(I:ObjM s.heap x dx C mA)
  (hs:PySem.W.findIn K (.ref C) "__setattr__"=some (some (.builtin "object.__setattr__"))) (hp:PySem.W.plainOver K C=true) (ht:PySem.W.takerIn K C name=some none) (hh:PySem.W.hasDictIn K C=true)
  (hw:PySem.Within mA ns) (hsz:ns.length<=sizeLine)
  (h:∀ h',ObjM h' x dx C (λy=>if y=name then some v else mA y)->Heap.SameBut dx s.heap h'->Q () { s with heap:=h',toks:=s.toks+2 }) :
  wpAny (model prog w) A (setAttr (.ref x) name v) Q E s:=by
 obtain⟨od,J,hl⟩:=I.look;refine PySem.W.set_plain X J hs (PySem.W.osa_open (s:={ s with toks:=s.toks+1 }) (r:=none) X J hp ht λb=>?_)
 obtain⟨cd,hc,hd'⟩:=PySem.W.any_some hh;have hx:s.heap.get? x=some ⟨.ref C,some dx,.plain,#[]⟩:=I.obj;refine wpAny_bind (wpAny_pure (wpAny_bind (wpAny_bind (wpAny_loadPart hx (wpAny_bind (PySem.W.Looks.here (s:={ s with toks:=s.toks+1 }) (PySem.W.looks_clsIn X hc) ?_))))))
 rw[hd'];refine wpAny_pure (a:=some dx) (wpAny_bind (wpAny_pure (wpAny_bind ?_)));refine wpAny_nsSet1 (s:={ s with toks:=s.toks+1 }) I.ns λh' hn2 hs2=>?_
 obtain⟨oD,esD,epD,hoD,hdD,hcD⟩:=hn2.count (PySem.Within.cons name v hw);refine wpAny_bind (wpAny_lookBehind hoD (by rw[hdD];exact pastItsLine_dict (Nat.le_trans hcD (by rw[List.length_cons];omega))) ?_)
 exact wpAny_pure (h _ ⟨(hs2.2 _ (Ne.symm I.ne)).trans I.obj,hn2,I.ne⟩ hs2)

theorem we {R:Result->Shared->Prop}{vs:List Value}{kw:List (Str×Value)}(X:K.In s.heap)(hm:PySem.W.makesIn K C=true)
  (hi:PySem.W.findIn K (.ref C) "__init__"=some (some (.ref f))) (hf:PySem.W.typeIn K (.ref f)=some (.type "function"))
  (h:codeAny (model prog w) (A.under (.builtin "type.__call__" ⟨.ref C::vs,kw⟩)) (.call (.ref f) ⟨.ref (s.heap.objs.size+1)::vs,kw⟩) (PySem.W.InitBack (s.heap.objs.size+1) R)
   { s with heap:=(s.heap.push PySem.W.emptyDict).push (PySem.W.instObj C s.heap.objs.size) }) :
  codeAny (model prog w) A (.call (.ref C) ⟨vs,kw⟩) R s:=by
 obtain⟨hh,g,d,t,os⟩:=s;exact PySem.W.make_core (PySem.W.makes_of X hm) (PySem.W.looks_findIn X hi) (λself=>PySem.W.bind_fn X self hf) (.inl rfl) h
end

def bR (f:Str)(v:V):List (Str×V)->List (Str×V)
 | []=>[(f,v)]
 | (g,x)::r=>if g=f then (g,v)::r else (g,x)::bR f v r
theorem iP (f g:Str)(v:V):∀ fs:List (Str×V),(bR f v fs).lookup g=if g=f then some v else fs.lookup g
 | []=>by
  show List.lookup g [(f,v)]=_
  by_cases h:g=f
  ·have hb:(g==f)=true:=beq_iff_eq.mpr h
   simp only[List.lookup,hb,if_pos h]
  ·have hb:(g==f)=false:=beq_eq_false_iff_ne.mpr h
   simp only[List.lookup,hb,if_neg h]
 | (k,x)::r=>by
  have ih:=iP f g v r;rw[show bR f v ((k,x)::r)=(if k=f then (k,v)::r else (k,x)::bR f v r) from rfl]
  by_cases hk:k=f
  ·rw[if_pos hk]
   by_cases h:g=k
   ·have hb:(g==k)=true:=beq_iff_eq.mpr h
    simp only[List.lookup,hb,if_pos (h.trans hk)]
   ·have hb:(g==k)=false:=beq_eq_false_iff_ne.mpr h
    simp only[List.lookup,hb,if_neg (λe:g=f=>h (e.trans hk.symm))]
  ·rw[if_neg hk]
   by_cases h:g=k
   ·have hb:(g==k)=true:=beq_iff_eq.mpr h
    simp only[List.lookup,hb,if_neg (λe:g=f=>hk (h.symm.trans e))]
   ·have hb:(g==k)=false:=beq_eq_false_iff_ne.mpr h
    simp only[List.lookup,hb];exact ih
theorem ig (f:Str)(v:V):∀ fs:List (Str×V),f∈(bR f v fs).map (·.1)/\∀ g,g∈fs.map (·.1)->g∈(bR f v fs).map (·.1)
 | []=>⟨by simp [bR],λg h=>by simp at h⟩
 | (k,x)::r=>by
  obtain⟨i1,i2⟩:=ig f v r;rw[show bR f v ((k,x)::r)=(if k=f then (k,v)::r else (k,x)::bR f v r) from rfl]
  by_cases hk:k=f
  ·rw[if_pos hk]
   subst hk;exact⟨by simp,λg h=>by simpa using h⟩
  ·rw[if_neg hk]
   refine⟨?_,λg h=>?_⟩
   ·rw[List.map_cons]
    exact List.mem_cons_of_mem _ i1
   ·rw[List.map_cons] at h ⊢
    rcases List.mem_cons.mp h with e|e
    ·exact List.mem_cons.mpr (.inl e)
    ·exact List.mem_cons_of_mem _ (i2 g e)
theorem iQ (f:Str)(v:V):∀ fs:List (Str×V),(bR f v fs).length<=fs.length+1
 | []=>by simp [bR]
 | (k,x)::r=>by
  have ih:=iQ f v r;rw[show bR f v ((k,x)::r)=(if k=f then (k,v)::r else (k,x)::bR f v r) from rfl]
  by_cases hk:k=f
  ·rw[if_pos hk,List.length_cons,List.length_cons];omega
  ·rw[if_neg hk,List.length_cons,List.length_cons];omega

theorem RelO.some_of {v:V}{o:Option Value}(r:RelO (some v) o):∃ u,o=some u/\RelV v u:=by
 cases o with
 | none=>exact (show False from r).elim
 | some u=>exact⟨u,rfl,r⟩
theorem RelO.none_of {o:Option Value}(r:RelO none o):o=none:=by
 cases o with
 | none=>rfl
 | some u=>exact (show False from r).elim
theorem uX {v:V}{u:Value}(r:RelV v u):PySem.W.handedIn u=true:=by
 cases v with
 | non=>cases (show u=Value.none from r);rfl
 | bl b=>cases (show u=Value.bool b from r);rfl
 | int i=>obtain⟨t,e⟩:=(show ∃ t,u=Value.int i t from r);cases e;rfl
 | str x=>obtain⟨t,e⟩:=(show ∃ t,u=Value.str x t from r);cases e;rfl
 | byt b=>obtain⟨t,e⟩:=(show ∃ t,u=Value.bytes b t from r);cases e;rfl
 | flt b=>obtain⟨t,e⟩:=(show ∃ t,u=Value.float b t from r);cases e;rfl
 | ref a=>cases (show u=Value.ref a from r);rfl
 | ty n=>cases (show u=Value.type n from r);rfl

section
variable {P:Program}{w:World}{H H':Hp}{h h':Heap}{a C dx:Addr}{fs fs':List (Str×V)}
theorem mZ (hok:HOk P w H h)(e:H a=some (.ins C dx fs)):∃ mA,ObjM h a dx C mA/\(∀ f,RelO (fs.lookup f) (mA f))/\PySem.Within mA (fs.map (·.1))/\fs.length<=1000/\H dx=some (.own a):=by
 obtain⟨d,z,ne,ob,mA,n,r,q⟩:=(show ObjOk P w H h a (.ins C dx fs) from hok a _ e)
 exact⟨mA,⟨ob,n,ne⟩,r,q,z,d⟩
end

structure Cls (K:PySem.W.Frag)(C:Addr):Prop where
 pg:PySem.W.plainGet K C Str.empty=true
 hd:PySem.W.hasDictIn K C=true
 po:PySem.W.plainOver K C=true
 sa:PySem.W.findIn K (.ref C) "__setattr__"=some (some (.builtin "object.__setattr__"))
theorem Cls.get {K:PySem.W.Frag}{C:Addr}(c:Cls K C)(f:Str):PySem.W.plainGet K C f=true:=c.pg
def NoAttr (K:PySem.W.Frag)(C:Addr)(f:Str):Prop:=PySem.W.findIn K (.ref C) f=some none
theorem NoAttr.taker {K:PySem.W.Frag}{C:Addr}{f:Str}(n:NoAttr K C f):PySem.W.takerIn K C f=some none:=by
 unfold PySem.W.takerIn;rw[show PySem.W.findIn K (.ref C) f=some none from n]
 rfl
structure Meth (K:PySem.W.Frag)(C:Addr)(m:Str)(f:Addr):Prop where
 at_:PySem.W.findIn K (.ref C) m=some (some (.ref f))
 fn:PySem.W.isFn K (.ref f)=true
 kp:PySem.W.keepIn K (.ref f)=true

section
variable {X:Cx}{pins:List (Addr×Obj)}{σ:St}{H:Hp}{s:Shared}{a C dx:Addr}{fs:List (Str×V)}{f:Str}{v:V}{A:Around}{E:Value->Shared->Prop}

theorem sk {b:Bool}{Q:Value->Shared->Prop}(I:Inv X pins σ H s)(e:H a=some (.ins C dx fs))(c:Cls X.K C)(n:NoAttr X.K C f)(l:fs.lookup f=some v)
  (h:∀ u s',Inv X pins σ H s'->RelV v u->Q u s'):wpAny (model X.prog X.w) A (getAttr (.ref a) f b) Q E s:=by
 obtain⟨mA,O,r,_,_,_⟩:=mZ I.hok e;obtain⟨u,hu,ru⟩:=RelO.some_of (v:=v) (o:=mA f) (by rw[<- l];exact r f)
 exact Dw I.kIn O (c.get f) c.hd n hu (uX ru) (h u _ (I.tok _) ru)

theorem jM {m:Str}{g:Addr}{pl:Sem Bool}{Q:Value×List Value->Shared->Prop}(I:Inv X pins σ H s)(e:H a=some (.ins C dx fs))(c:Cls X.K C)(k:Meth X.K C m g)(l:fs.lookup m=none)
  (h:Q (.ref g,[.ref a]) s):wpAny (model X.prog X.w) A (getMethod (.ref a) m pl) Q E s:=by
 obtain⟨mA,O,r,_,_,_⟩:=mZ I.hok e;have hn:mA m=none:=RelO.none_of (by rw[<- l];exact r m)
 exact wd I.kIn O (c.get m) k.at_ k.fn hn h

theorem sn {y:V}{u:Value}{Q:Unit->Shared->Prop}(I:Inv X pins σ H s)(e:H a=some (.ins C dx fs))(c:Cls X.K C)(n:NoAttr X.K C f)(hl:fs.length < 1000)(ry:RelV y u)
  (h:∀ s',Inv X pins σ (bj H a (.ins C dx (bR f y fs))) s'->Q () s'):wpAny (model X.prog X.w) A (setAttr (.ref a) f u) Q E s:=by
 obtain⟨mA,O,r,wi,_,ho⟩:=mZ I.hok e;have hz:(fs.map (·.1)).length<=sizeLine:=by rw[List.length_map,sizeLine_eq];omega
 refine Dx I.kIn O c.sa c.po n.taker c.hd wi hz λh' O' sb=>h _ ?_;have hd:∃ o,h'.get? dx=some o:=let ⟨o,_,_,e',_⟩:=O'.ns;⟨o,e'⟩;refine I.write (x:=a) (e:=dx) (by rw[e];exact True.intro) (.inr ho) (λb q hb z=>(sb.2 b hb).trans z) hd ?_
 refine⟨by rw[ah O.ne];exact ho,?_,O.ne,O'.obj,_,O'.ns,λg=>?_,λg hg=>?_⟩
 ·have:=iQ f y fs;omega
 ·show RelO ((bR f y fs).lookup g) (if g=f then some u else mA g)
  rw[iP]
  by_cases q:g=f
  ·rw[if_pos q,if_pos q];exact ry
  ·rw[if_neg q,if_neg q];exact r g
 ·by_cases q:g=f
  ·rw[q];exact (ig f y fs).1
  ·refine (ig f y fs).2 g (wi g λz=>hg ?_)
   show (if g=f then some u else mA g)=none
   rw[if_neg q];exact z

theorem Inv.made (I:Inv X pins σ H s):Inv X pins σ (bj (bj H s.heap.objs.size (.own (s.heap.objs.size+1))) (s.heap.objs.size+1) (.ins C s.heap.objs.size []))
  { s with heap:=(s.heap.push PySem.W.emptyDict).push (PySem.W.instObj C s.heap.objs.size) }:=by
 have e1:(s.heap.push PySem.W.emptyDict).get? s.heap.objs.size=some PySem.W.emptyDict:=Heap.get?_push_size s.heap rfl;have e2:((s.heap.push PySem.W.emptyDict).push (PySem.W.instObj C s.heap.objs.size)).get? (s.heap.objs.size+1)=some (PySem.W.instObj C s.heap.objs.size):=by
  have:=Heap.get?_push_size (s.heap.push PySem.W.emptyDict) (o:=PySem.W.instObj C s.heap.objs.size) rfl
  rwa [Heap.size_push] at this
 have e3:(s.heap.push PySem.W.emptyDict).Ns s.heap.objs.size (λ_=>none):=⟨PySem.W.emptyDict,#[],_,e1,rfl,(λe he=>absurd he (by simp)),λ_=>rfl⟩
 have I1:=I.laid (a:=s.heap.objs.size) (o:=.own (s.heap.objs.size+1)) (h':=s.heap.push PySem.W.emptyDict) (t':=s.toks) (λb u q=>Heap.get?_push_of_some _ q) (Nat.le_refl _) ⟨_,e1⟩;refine I1.laid (a:=s.heap.objs.size+1) (o:=.ins C s.heap.objs.size []) (t':=s.toks) (λb u q=>Heap.get?_push_of_some _ q) (Nat.le_of_eq (Heap.size_push _ _)) ?_;have ne:s.heap.objs.size≠s.heap.objs.size+1:=Nat.ne_of_lt (Nat.lt_succ_self _);refine⟨by rw[ah ne,ao],Nat.zero_le _,ne,e2,λ_=>none,(Heap.Ns1.of_empty e3).at λo q=>Heap.get?_push_of_some _ q,λ_=>True.intro,λy hy=>absurd rfl hy⟩

theorem Dy {prog:Program}{w:World}{env:Env}{e:Expr}{f:Str}{pos:Pos}{s:Shared}{Q:Value->Shared->Prop}(hb:attributeBase e f env (eval e env)=eval e env)
  (h:wpAny (model prog w) A (eval e env) (λo s₁=>wpAny (model prog w) A (getAttr o f true) Q E s₁) E s):wpAny (model prog w) A (eval (.Attribute e f pos) env) Q E s :=
 Attribute_any_ h (by rw[arm_eval_Attribute,hb])
end

def UA (K:PySem.W.Frag)(ta:TE)(f:Str):TE:=λσ H Q=>ta σ H λx H1=>∃ a C dx fs v,x=.ref a/\H1 a=some (.ins C dx fs)/\Cls K C/\NoAttr K C f/\fs.lookup f=some v/\Q v H1
def UB (K:PySem.W.Frag)(ta tv:TE)(f:Str):TS:=λD σ H=>tv σ H λy H1=>ta σ H1 λx H2=>∃ a C dx fs,x=.ref a/\H2 a=some (.ins C dx fs)/\Cls K C/\NoAttr K C f/\fs.length < 1000 /\
 D.nx σ (bj H2 a (.ins C dx (bR f y fs)))
section
variable {X:Cx}{o e value:Expr}{f:Str}{pos pos' tpos:Pos}{ta tv:TE}
theorem nc (he:PE X e ta)(hb:attributeBase e f X.env (eval e X.env)=eval e X.env):PE X (.Attribute e f pos) (UA X.K ta f):=by
 intro pins s σ H Q I h;refine Dy hb (bG (he pins s σ H _ I h) λu s1 ⟨x,H1,I1,rx,a,C,dx,fs,v,ex,ea,c,n,l,q⟩=>?_);subst ex;obtain rfl:u=Value.ref a:=rx;exact sk I1 ea c n l λu' s2 I2 ru=>⟨v,H1,I2,ru,q⟩
theorem ng (ha:PE X o ta)(hv:PE X value tv)(hs:swapsWith value (some (.Attribute o f pos')) pos.line X.env=pure false):PS X (.Assign [.Attribute o f pos'] value pos) (UB X.K ta tv f):=by
 intro pins s σ H D I h;refine plainObj_wpAny_Assign_Attribute (bG (hv pins s σ H _ I h) λu s1 ⟨y,H1,I1,ry,q⟩=>bG (ha pins s1 σ H1 _ I1 q) λov s2 ⟨x,H2,I2,rx,a,C,dx,fs,ex,ea,c,n,l,q2⟩=>?_) hs;subst ex;obtain rfl:ov=Value.ref a:=rx;exact sn I2 ea c n l ry λs3 I3=>⟨σ,_,I3,q2⟩
def Dz:V->V->Hp->VK->Prop:=λx y H Q=>∃ i j,x=.int i/\y=.int j/\Q (.int (i+j)) H
end

section
variable {X:Cx}{pins:List (Addr×Obj)}{σ:St}{H:Hp}{s:Shared}{A:Around}{E:Value->Shared->Prop}{Q:Value->Shared->Prop}{c:Value}{b:Bool}
end
end L2

namespace L2
open PySem PySem.Spec PyProof.Rows

structure Room (k:Nat)(A:Around):Prop where
 hd:A.handled=none
 dp:A.depth+3*k+5 < recursionLimit
 un:A.units+16*k+200 < cLine
theorem Room.mono {j k:Nat}{A:Around}(r:Room k A)(h:j<=k):Room j A:=⟨r.hd,by have:=r.dp;omega,by have:=r.un;omega⟩
theorem Room.deeper {k:Nat}{A:Around}(r:Room (k+1) A)(env:Env):Room k (A.deeper env) :=
 ⟨r.hd,by have:=r.dp;show A.depth+1+3*k+5 < _;omega,by have:=r.un;show A.units+3+16*k+200 < _;omega⟩
theorem so {A:Around}{C:Addr}{us:List Value}{kw:List (Str×Value)}:(A.under (.builtin "type.__call__" ⟨.ref C::us,kw⟩)).depth=A.depth+1:=by
 first|rfl|simp [Around.under,Code.weight,Code.isCreation,Code.isGuard,Code.isCaller,Code.frames,Code.isFrame,guardIds]
theorem sr {A:Around}{C:Addr}{us:List Value}{kw:List (Str×Value)}:(A.under (.builtin "type.__call__" ⟨.ref C::us,kw⟩)).units=A.units+1:=by
 first|rfl|simp [Around.under,Code.cUnits,Code.frames,Code.isFrame]
theorem Room.make {k:Nat}{A:Around}(r:Room (k+1) A)(C:Addr)(us:List Value)(kw:List (Str×Value)):Room k (A.under (.builtin "type.__call__" ⟨.ref C::us,kw⟩)) :=
 ⟨r.hd,by have:=r.dp;rw[so];omega,by have:=r.un;rw[sr];omega⟩
theorem Room.depth {k:Nat}{A:Around}(r:Room k A):A.depth < recursionLimit:=by have:=r.dp;omega
def pI:TA:=λ_ H Q=>Q [] H
def lr (ta:TE)(tr:TA):TA:=λσ H Q=>ta σ H λx H1=>tr σ H1 λxs H2=>Q (x::xs) H2
section
variable {X:Cx}{e:Expr}{es:List Expr}{te:TE}{t:TA}{pos:Pos}
theorem eA:PA X [] pI:=λ_ _ _ _ H Q I h=>Calls.spliced_nil ⟨[],H,I,.nil,h⟩
theorem cc (ha:PE X e te)(hr:PA X es t)(hs:starEach (e::es) X.env=(false,eval e X.env)::starEach es X.env:=by rfl):PA X (e::es) (lr te t):=by
 intro pos pins s σ H Q I h;rw[hs];show wpAny _ _ (spliced ((false,eval e X.env)::backTo pos (starEach es X.env))) _ _ s;refine Calls.spliced_cons (bG (ha pins s σ H _ I h) λu s1 ⟨x,H1,I1,r1,q1⟩=>?_);exact bG (hr pos pins s1 σ H1 _ I1 q1) λus s2 ⟨xs,H2,I2,r2,q2⟩=>⟨x::xs,H2,I2,.cons r1 r2,q2⟩

def UC (t:TA):TE:=λσ H Q=>t σ H λxs H1=>xs.length<=sizeLine/\∀ p,H1 p=none->Q (.ref p) (bj H1 p (.tup xs))
def PU (t:TA):TE:=λσ H Q=>t σ H λxs H1=>xs.length<=sizeLine/\∀ p,H1 p=none->Q (.ref p) (bj H1 p (.lst xs))
theorem Hd {x1}(h:PA X es t):PE X (.Tuple es x1 pos) (UC t):=by
 intro pins s σ H Q I hq;refine wpAny_Tuple_spliced (bG (h pos pins s σ H _ I hq) λus s1 ⟨xs,H1,I1,r,z,q⟩=>⟨by rw[<- r.length];exact z,?_⟩)
 have hf:H1 s1.heap.objs.size=none:=I1.hok.fresh (Nat.le_refl _);refine⟨.ref s1.heap.objs.size,bj H1 s1.heap.objs.size (.tup xs),I1.laid (t':=s1.toks) (λb u e=>Heap.get?_push_of_some _ e) (Nat.le_refl _) ?_,rfl,q _ hf⟩;exact⟨z,us,r,⟨_,Heap.get?_push_size _ rfl,rfl,_,rfl⟩⟩
theorem nh (h:PA X es t):PE X (.List es pos) (PU t):=by
 intro pins s σ H Q I hq;refine wpAny_List_spliced (bG (h pos pins s σ H _ I hq) λus s1 ⟨xs,H1,I1,r,z,q⟩=>⟨by rw[<- r.length];exact z,?_⟩)
 have hf:H1 s1.heap.objs.size=none:=I1.hok.fresh (Nat.le_refl _);refine⟨.ref s1.heap.objs.size,bj H1 s1.heap.objs.size (.lst xs),I1.laid (t':=s1.toks) (λb u e=>Heap.get?_push_of_some _ e) (Nat.le_refl _) ?_,rfl,q _ hf⟩;exact⟨z,us,0,r,Heap.get?_push_size _ rfl⟩
end

abbrev Sp:=List V->Hp->VK->XK->Prop
abbrev uY:=List Env->Hp->Shared->XK->Value->Shared->Prop

structure Env0 (P:Program)(w:World)(K:PySem.W.Frag)(mg:Str->Option Value)(base:Heap)(A:Around)(outer:List Env)(s:Shared)(H:Hp):Prop where
 frames:A.frames=some outer
 mod:Mod K mg base
 bs:∀ b o,base.get? b=some o->s.heap.get? b=some o/\H b=none
 bsz:base.objs.size<=s.heap.objs.size
 funs:s.heap.FunFrames base outer
 frf:∀ b∈vR outer,H b=none
 hok:HOk P w H s.heap
 bare:AllBare s.gens
def CE (outer:List Env)(P:Program)(w:World)(H:Hp)(s:Shared)(Q:VK)(u:Value)(s':Shared):Prop :=
 ∃ v H',s'.os=s.os/\AllBare s'.gens/\Un (vR outer) [] H H' s.heap s'.heap/\HOk P w H' s'.heap/\RelV v u/\Q v H'
def CR (CX:uY)(outer:List Env)(P:Program)(w:World)(H:Hp)(s:Shared)(Q:VK)(E:XK)(r:Result)(s':Shared):Prop :=
 match r with
 | .ok (.ret u)=>CE outer P w H s Q u s'
 | .ok _=>False
 | .error e=>CX outer H s E e s'
structure FnOk (P:Program)(w:World)(K:PySem.W.Frag)(mg:Str->Option Value)(base:Heap)(CX:uY)(k:Nat)(f:Addr)(fd:FuncData)(ps:List Str)(sp:Sp):Prop where
 len:∀ vs H Q E,sp vs H Q E->vs.length=ps.length
 run:∀ (A:Around) (outer:List Env) (s:Shared) (H:Hp) (args:Args) (us:List Value) (vs:List V) (Q:VK) (E:XK),Room k A->Env0 P w K mg base A outer s H->BindsTo s fd args (ps.zip us)->Vals vs us->sp vs H Q E ->
  codeAny (model P w) A (.call (.ref f) args) (CR CX outer P w H s Q E) s
theorem FnOk.mono {P:Program}{w:World}{K:PySem.W.Frag}{mg:Str->Option Value}{base:Heap}{CX:uY}{j k:Nat}{f:Addr}{fd:FuncData}{ps:List Str}{sp:Sp}(F:FnOk P w K mg base CX j f fd ps sp)(h:j<=k) :
  FnOk P w K mg base CX k f fd ps sp:=⟨F.len,λA outer s H args us vs Q E hr=>F.run A outer s H args us vs Q E (hr.mono h)⟩
theorem FnOk.imp {P:Program}{w:World}{K:PySem.W.Frag}{mg:Str->Option Value}{base:Heap}{CX:uY}{k:Nat}{f:Addr}{fd:FuncData}{ps:List Str}{sp sp':Sp}(F:FnOk P w K mg base CX k f fd ps sp)
  (h:∀ vs H Q E,sp' vs H Q E->sp vs H Q E):FnOk P w K mg base CX k f fd ps sp' :=
 ⟨λvs H Q E q=>F.len vs H Q E (h _ _ _ _ q),λA outer s H args us vs Q E hr he hb hv hs=>F.run A outer s H args us vs Q E hr he hb hv (h _ _ _ _ hs)⟩

theorem Env0.make {P:Program}{w:World}{K:PySem.W.Frag}{mg:Str->Option Value}{base:Heap}{A:Around}{outer:List Env}{s:Shared}{H:Hp}(e:Env0 P w K mg base A outer s H)(C:Addr)(us:List Value)(kw:List (Str×Value)) :
  Env0 P w K mg base (A.under (.builtin "type.__call__" ⟨.ref C::us,kw⟩)) outer s H:=⟨by first|exact e.frames | (simpa [Around.under,Code.envs,Code.isFrame,pushEnvs] using e.frames),e.mod,e.bs,e.bsz,e.funs,e.frf,e.hok,e.bare⟩
section
variable {X:Cx}{pins:List (Addr×Obj)}{σ:St}{H:Hp}{s s':Shared}
theorem Inv.env0 (I:Inv X pins σ H s):Env0 X.prog X.w X.K X.mg X.base X.A X.stack s H :=
 ⟨I.ok.frames,I.ok.mod,I.bs,Nat.le_trans I.ok.bsz I.sz,I.stack,I.stkFree,I.hok,I.bare⟩
theorem Inv.after {Q:VK}{u:Value}(I:Inv X pins σ H s)(h:CE X.stack X.prog X.w H s Q u s'):EP X pins σ Q u s':=by
 obtain⟨v,H',os,bare,un,hok,r,q⟩:=h;obtain⟨hh,g,d,t,os'⟩:=s';obtain rfl:os'=s.os:=os;exact⟨v,H',I.call (h':=hh) (g':=g) (d':=d) (t':=t) (ch:=[]) un hok bare (λb z=>absurd z (by simp)),r,q⟩
end

def PV (sp:Sp)(dvs:List V)(E:XK)(t:TA):TE:=λσ H Q=>t σ H λvs H1=>sp (vs++dvs) H1 Q E
def lu (C:Addr)(m:Str)(sp:Sp)(dvs:List V)(E:XK)(ta:TE)(t:TA):TE:=λσ H Q=>ta σ H λx H1=>∃ a dx fs,x=.ref a/\H1 a=some (.ins C dx fs)/\fs.lookup m=none /\
 t σ H1 λvs H2=>sp (x::(vs++dvs)) H2 Q E
def PX (C:Addr)(sp:Sp)(dvs:List V)(E:XK)(t:TA):TE:=λσ H Q=>t σ H λvs H1=>∀ x dx,H1 x=none->H1 dx=none->dx≠x ->
 sp (.ref x::(vs++dvs)) (bj (bj H1 dx (.own x)) x (.ins C dx [])) (λv H2=>v=.non/\Q (.ref x) H2) E

def Binds (K:PySem.W.Frag)(fd:FuncData)(ps:List Str)(ds:List Value):Prop :=
 ∀ (s:Shared) (us:List Value),K.In s.heap->(us++ds).length=ps.length->BindsTo s fd ⟨us,[]⟩ (ps.zip (us++ds))
theorem Binds.all {K:PySem.W.Frag}{fd:FuncData}{ps:List Str}(h:∀ us:List Value,us.length=ps.length->bindArgs fd ⟨us,[]⟩=pure (ps.zip us)):Binds K fd ps []:=λs us _ hl=>by
 rw[List.append_nil] at hl ⊢;exact .of_eq (h us hl)

def fD (CX:uY)(X:Cx)(E:XK):Prop:=∀ (pins:List (Addr×Obj)) (σ:St) (H:Hp) (s:Shared) (e:Value) (s':Shared),Inv X pins σ H s->CX X.stack H s E e s'->X.xe e s'

section
variable {X:Cx}{CX:uY}{k:Nat}{f C:Addr}{fd:FuncData}{ps:List Str}{sp:Sp}{dvs:List V}{ds:List Value}{E:XK}{x m:Str}{p pos apos:Pos}{e o:Expr}{es:List Expr}{ta:TE}{t:TA}

theorem ss {pins:List (Addr×Obj)}{σ:St}{H:Hp}{s:Shared}{Q:VK}{us:List Value}{vs:List V}(F:FnOk X.prog X.w X.K X.mg X.base CX k f fd ps sp)(hr:Room k X.A)(hb:Binds X.K fd ps ds)(hd:Vals dvs ds)(hx:fD CX X E)
  (I:Inv X pins σ H s) (r:Vals vs us) (h:sp (vs++dvs) H Q E):wpAny (model X.prog X.w) X.A (call (.ref f) us) (EP X pins σ Q) X.xe s:=by
 have r2:Vals (vs++dvs) (us++ds):=r.append hd;have hl:(us++ds).length=ps.length:=by rw[<- r2.length];exact F.len _ _ _ _ h
 refine wpAny_call (codeAny_mono (F.run X.A X.stack s H ⟨us,[]⟩ (us++ds) (vs++dvs) Q E hr I.env0 (hb s us I.kIn hl) r2 h) λr s' hq=>?_);cases r with
 | error e=>exact hx pins σ H s e s' I hq
 | ok fl =>
  cases fl with
  | ret u=>exact I.after hq
  | next=>exact False.elim hq
  | brk=>exact False.elim hq
  | cont=>exact False.elim hq

theorem jp (F:FnOk X.prog X.w X.K X.mg X.base CX k f fd ps sp)(hr:Room k X.A)(hg:Gl X x)(hm:X.mg x=some (.ref f))(hk:PySem.W.keepIn X.K (.ref f)=true)(hb:Binds X.K fd ps ds)(hd:Vals dvs ds)(hx:fD CX X E)
  (ha:PA X (e::es) t) (hdb:(x==("__debug__":Str))=false:=by decide) (he:starEach (e::es) X.env=(false,eval e X.env)::starEach es X.env:=by rfl) (hpl:(backTo pos (starEach es X.env)).any (·.1)=false:=by rfl) :
  PE X (.Call (.Name x p) (e::es) [] pos) (PV sp dvs E t):=by
 intro pins s σ H Q I h;refine wpAny_Call_Name_kw (mT I hg hm ?_ hdb);refine PySem.W.callWith_K (h₀:=X.base) I.ok.mod.kin hk (bG (ha pos pins s σ H _ I h) λus s1 ⟨vs,H1,I1,r,q⟩=>⟨I1.kIn,?_⟩) he hpl;exact ss F hr hb hd hx I1 r q
theorem tD {pl:Sem Bool}(he:PE X o ta)(c:Cls X.K C)(hm:Meth X.K C m f)(F:FnOk X.prog X.w X.K X.mg X.base CX k f fd ps sp)(hr:Room k X.A)(hb:Binds X.K fd ps ds)(hd:Vals dvs ds)(hx:fD CX X E)(ha:PA X (e::es) t)
  (hst:starEach (e::es) X.env=(false,eval e X.env)::starEach es X.env:=by rfl) (hpl:(backTo pos (starEach es X.env)).any (·.1)=false:=by rfl)
  (ht:eval (.Call (.Attribute o m apos) (e::es) [] pos) X.env=(do
   let ov <- eval o X.env
   standAt apos.atName
   let (f,first) <- holding [ov] (getMethod ov m pl)
   callWith pos f first (backTo pos (starEach (e::es) X.env)) (backToKw pos (keywordEach [] X.env))):=by rfl) :
  PE X (.Call (.Attribute o m apos) (e::es) [] pos) (lu C m sp dvs E ta t):=by
 intro pins s σ H Q I h;refine PySem.W.methodCall_KW (pl:=pl) (bG (he pins s σ H _ I h) λu s1 ⟨x,H1,I1,rx,a,dx,fs,ex,ea,l,q⟩=>?_) ht;subst ex;obtain rfl:u=Value.ref a:=rx;refine jM I1 ea c hm l ?_;refine PySem.W.callWith_K (first:=[.ref a]) (h₀:=X.base) I.ok.mod.kin hm.kp (bG (ha pos pins s1 σ H1 _ I1 q) λus s2 ⟨vs,H2,I2,r,q2⟩=>⟨I2.kIn,?_⟩) hst hpl
 exact ss (us:=.ref a::us) (vs:=.ref a::vs) F hr hb hd hx I2 (.cons rfl r) q2
theorem wf {pl:Sem Bool}(he:PE X o ta)(c:Cls X.K C)(hm:Meth X.K C m f)(F:FnOk X.prog X.w X.K X.mg X.base CX k f fd ps sp)(hr:Room k X.A)(hb:Binds X.K fd ps ds)(hd:Vals dvs ds)(hx:fD CX X E)
  (ht:eval (.Call (.Attribute o m apos) [] [] pos) X.env=(do
   let ov <- eval o X.env
   standAt apos.atName
   let (f,first) <- holding [ov] (getMethod ov m pl)
   callWith pos f first (backTo pos (starEach [] X.env)) (backToKw pos (keywordEach [] X.env))):=by rfl) :
  PE X (.Call (.Attribute o m apos) [] [] pos) (lu C m sp dvs E ta pI):=by
 intro pins s σ H Q I h;refine PySem.W.methodCall_KW (pl:=pl) (bG (he pins s σ H _ I h) λu s1 ⟨x,H1,I1,rx,a,dx,fs,ex,ea,l,q⟩=>?_) ht;subst ex;obtain rfl:u=Value.ref a:=rx;refine jM I1 ea c hm l ?_;exact PySem.W.callWith_K0 (first:=[.ref a]) I1.kIn hm.kp (ss (us:=[.ref a]) (vs:=[.ref a]) F hr hb hd hx I1 (.cons rfl .nil) q)

structure Mk (K:PySem.W.Frag)(C f:Addr):Prop where
 makes:PySem.W.makesIn K C=true
 init:PySem.W.findIn K (.ref C) "__init__"=some (some (.ref f))
 fn:PySem.W.isFn K (.ref f)=true
 kp:PySem.W.keepIn K (.ref C)=true

theorem wg {pins:List (Addr×Obj)}{σ:St}{H:Hp}{s:Shared}{Q:VK}{us:List Value}{vs:List V}(M:Mk X.K C f)(F:FnOk X.prog X.w X.K X.mg X.base CX k f fd ps sp)(hr:Room (k+1) X.A)(hb:Binds X.K fd ps ds)(hd:Vals dvs ds)
  (hx:fD CX X E) (I:Inv X pins σ H s) (r:Vals vs us)
  (h:∀ x dx,H x=none->H dx=none->dx≠x->sp (.ref x::(vs++dvs)) (bj (bj H dx (.own x)) x (.ins C dx [])) (λv H2=>v=.non/\Q (.ref x) H2) E) :
  wpAny (model X.prog X.w) X.A (call (.ref C) us) (EP X pins σ Q) X.xe s:=by
 have hq:=h (s.heap.objs.size+1) s.heap.objs.size (I.hok.fresh (Nat.le_succ _)) (I.hok.fresh (Nat.le_refl _)) (Nat.ne_of_lt (Nat.lt_succ_self _));have I2:=Inv.made (C:=C) I;have r2:Vals (V.ref (s.heap.objs.size+1)::(vs++dvs)) (Value.ref (s.heap.objs.size+1)::(us++ds)):=.cons rfl (r.append hd);have hl:(Value.ref (s.heap.objs.size+1)::us++ds).length=ps.length:=by
  have e:=r2.length;rw[F.len _ _ _ _ hq] at e;exact e.symm
 refine wpAny_call (we (f:=f) I.kIn M.makes M.init (beq_iff_eq.mp M.fn) (codeAny_mono (F.run _ X.stack _ _ ⟨Value.ref (s.heap.objs.size+1)::us,[]⟩ (Value.ref (s.heap.objs.size+1)::(us++ds)) _ _ E (hr.make C us [])
  (I2.env0.make C us []) (hb _ (Value.ref (s.heap.objs.size+1)::us) I2.kIn hl) r2 hq) λr s' hq'=>?_))
 cases r with
 | error e=>exact hx pins σ _ _ e s' I2 hq'
 | ok fl =>
  cases fl with
  | ret u =>
   obtain⟨v,H',I3,rv,ev,q3⟩:=I2.after hq';subst ev;exact⟨rv,⟨V.ref (s.heap.objs.size+1),H',I3,rfl,q3⟩⟩
  | next=>exact False.elim hq'
  | brk=>exact False.elim hq'
  | cont=>exact False.elim hq'
theorem DA (M:Mk X.K C f)(F:FnOk X.prog X.w X.K X.mg X.base CX k f fd ps sp)(hr:Room (k+1) X.A)(hg:Gl X x)(hm:X.mg x=some (.ref C))(hb:Binds X.K fd ps ds)(hd:Vals dvs ds)(hx:fD CX X E)
  (ha:PA X (e::es) t) (hdb:(x==("__debug__":Str))=false:=by decide) (he:starEach (e::es) X.env=(false,eval e X.env)::starEach es X.env:=by rfl) (hpl:(backTo pos (starEach es X.env)).any (·.1)=false:=by rfl) :
  PE X (.Call (.Name x p) (e::es) [] pos) (PX C sp dvs E t):=by
 intro pins s σ H Q I h;refine wpAny_Call_Name_kw (mT I hg hm ?_ hdb);refine PySem.W.callWith_K (h₀:=X.base) I.ok.mod.kin M.kp (bG (ha pos pins s σ H _ I h) λus s1 ⟨vs,H1,I1,r,q⟩=>⟨I1.kIn,?_⟩) he hpl;exact wg M F hr hb hd hx I1 r q
end

def PK (X:Cx)(kws:List Keyword)(t:TA):Prop :=
 ∀ (pos:Pos) (pins:List (Addr×Obj)) (s:Shared) (σ:St) (H:Hp) (Q:List V->Hp->Prop),Inv X pins σ H s->t σ H Q->wpAny (model X.prog X.w) X.A (evalAll ((backToKw pos (keywordEach kws X.env)).map (·.2))) (AP X pins σ Q) X.xe s
section
variable {X:Cx}{CX:uY}{k:Nat}{f C:Addr}{fd:FuncData}{ps ks:List Str}{sp:Sp}{E:XK}{x m:Str}{p pos apos kpos:Pos}{e o:Expr}{es:List Expr}{kws:List Keyword}{te ta:TE}{t tk:TA}{nm:Option Str}
theorem He:PK X [] pI:=λ_ _ _ _ H Q I h=>wpAny_evalAll_nil ⟨[],H,I,.nil,h⟩
theorem DB (ha:PE X e te)(hr:PK X kws t):PK X (⟨nm,e,kpos⟩::kws) (lr te t):=by
 intro pos pins s σ H Q I h;show wpAny _ _ (evalAll ((do let v <- eval e X.env;standAt pos;pure v)::(backToKw pos (keywordEach kws X.env)).map (·.2))) _ _ s
 refine wpAny_evalAll_cons (wpAny_bind (bG (ha pins s σ H _ I h) λu s1 ⟨x,H1,I1,r1,q1⟩=>wpAny_bind (wpAny_standAt (wpAny_pure ?_))));exact bG (hr pos pins s1 σ H1 _ I1 q1) λus s2 ⟨xs,H2,I2,r2,q2⟩=>⟨x::xs,H2,I2,.cons r1 r2,q2⟩

variable {g:List Value->List Value->List Value}{gV:List V->List V->List V}
end

structure FnScope (N P:List Str)(sc:Scope):Prop where
 kind:sc.kind=.function
 co:sc.isCoroutine=false
 gen:sc.isGenerator=false
 nd:N.Nodup
 pre:N.take P.length=P
 par:∀ x∈P,sc.names.lookup x=some .local\/sc.names.lookup x=some .cell
 nofree:∀ y∈sc.names,y.2≠.free

theorem lv {kindOf:Str->Option NameKind}{x:Str}:∀ {binds:List (Str×Value)} {m:Str->Option Value},(∀ v,(x,v)∉binds)->bindL kindOf binds m x=m x
 | [],_,_=>rfl
 | (n,v)::r,m,h=>by
  unfold bindL;rw[lv λw hw=>h w (List.mem_cons_of_mem _ hw)]
  split
  ·have:x≠n:=by rintro rfl;exact h v List.mem_cons_self
   simp [this]
  ·rfl
theorem lw {kindOf:Str->Option NameKind}{x:Str}:∀ {binds:List (Str×Value)} {m:Str->Option Value},(∀ v,(x,v)∉binds)->bindC kindOf binds m x=m x
 | [],_,_=>rfl
 | (n,v)::r,m,h=>by
  unfold bindC;rw[lw λw hw=>h w (List.mem_cons_of_mem _ hw)]
  split
  ·rfl
  ·have:x≠n:=by rintro rfl;exact h v List.mem_cons_self
   simp [this]
theorem lx {kindOf:Str->Option NameKind}{x:Str}{v:Value}:∀ {P:List Str} {vs:List Value} {i:Nat} {m:Str->Option Value},P.Nodup->P[i]?=some x->vs[i]?=some v->kindOf x=some .local ->
  bindL kindOf (P.zip vs) m x=some v
 | [],_,_,_,_,h,_,_=>by simp at h
 | _::_,[],_,_,_,_,h,_=>by simp at h
 | p::P,w::vs,0,m,nd,h1,h2,hk=>by
  simp at h1 h2;subst h1;subst h2;show bindL kindOf ((p,w)::P.zip vs) m p=_;unfold bindL;rw[lv λv hv=>(List.nodup_cons.mp nd).1 (List.of_mem_zip hv).1,if_pos hk];simp
 | p::P,w::vs,i+1,m,nd,h1,h2,hk=>by
  show bindL kindOf ((p,w)::P.zip vs) m x=_;unfold bindL;exact lx (i:=i) (List.nodup_cons.mp nd).2 (by simpa using h1) (by simpa using h2) hk
theorem ly {kindOf:Str->Option NameKind}{x:Str}{v:Value}:∀ {P:List Str} {vs:List Value} {i:Nat} {m:Str->Option Value},P.Nodup->P[i]?=some x->vs[i]?=some v->kindOf x≠some .local ->
  bindC kindOf (P.zip vs) m x=some v
 | [],_,_,_,_,h,_,_=>by simp at h
 | _::_,[],_,_,_,_,h,_=>by simp at h
 | p::P,w::vs,0,m,nd,h1,h2,hk=>by
  simp at h1 h2;subst h1;subst h2;show bindC kindOf ((p,w)::P.zip vs) m p=_;unfold bindC;rw[lw λv hv=>(List.nodup_cons.mp nd).1 (List.of_mem_zip hv).1,if_neg hk];simp
 | p::P,w::vs,i+1,m,nd,h1,h2,hk=>by
  show bindC kindOf ((p,w)::P.zip vs) m x=_;unfold bindC;exact ly (i:=i) (List.nodup_cons.mp nd).2 (by simpa using h1) (by simpa using h2) hk

def start (N:List Str)(vs:List V):St:=vs.map some++List.replicate (N.length - vs.length) none

def jN (CX:uY)(P:Program)(w:World)(K:PySem.W.Frag)(mg:Str->Option Value)(base:Heap)(N:List Str)(qual:Str)(scope:Scope)(f:Addr)(cd:Value)(A:Around)(outer:List Env)(s:Shared)(H:Hp)(E:XK):Cx where
 prog:=P
 w:=w
 K:=K
 mg:=mg
 base:=base
 A:=A.deeper (envOfC qual scope s.heap.objs.size f cd)
 N:=N
 s₀:=s
 H₀:=H
 env:=envOfC qual scope s.heap.objs.size f cd
 outer:=outer
 stack:=envOfC qual scope s.heap.objs.size f cd::outer
 ex:=[]
 calm:=true
 fn:=λ_=>true
 pn:=[]
 xe:=λe s'=>wpAny (model P w) (A.deeper (envOfC qual scope s.heap.objs.size f cd)) (leaving (envOfC qual scope s.heap.objs.size f cd) e) (λ_ s''=>CX outer H s E e s'') (λe' s''=>CX outer H s E e' s'') s'

theorem pJ {sc:Scope}{n:Nat}{x:Str}(h:sc.names.lookup x=some .cell):∃ c,(cellsFrom n sc.names []).lookup x=some c:=by
 have q:=PySem.W.cellsFrom_some sc.names n [] (.inl h);exact Option.isSome_iff_exists.mp q

theorem uZ {CX:uY}{P:Program}{w:World}{K:PySem.W.Frag}{mg:Str->Option Value}{base:Heap}{N ps:List Str}{qual:Str}{scope:Scope}{f:Addr}{cd:Value}{A:Around}{outer:List Env}{s s1:Shared}{H:Hp}{E:XK}{us:List Value}{vs:List V}
  (S:FnScope N ps scope) (hd:A.handled=none) (e0:Env0 P w K mg base A outer s H) (hl:vs.length=ps.length) (r:Vals vs us)
  (x:InCallC s s.heap.objs.size (bindL (envOfC qual scope s.heap.objs.size f cd).kindOf (ps.zip us) λ_=>none) (cellsFrom (s.heap.objs.size+1) scope.names []) (bindC (envOfC qual scope s.heap.objs.size f cd).kindOf (ps.zip us) λ_=>none) s1) :
  Inv (jN CX P w K mg base N qual scope f cd A outer s H E) [] (start N vs) H s1:=by
 have hpl:ps.length<=N.length:=by have:=congrArg List.length S.pre;rw[List.length_take] at this;omega
 obtain⟨h1,tk,rfl,hk⟩:=x.done;have noA:∀ b:Addr,b∉(jN CX P w K mg base N qual scope f cd A outer s H E).ex:=λb z=>absurd (show b∈([]:List Addr) from z) (by simp)
 refine⟨⟨e0.mod,S.kind,rfl,rfl,Nat.le_refl _,λy z c h1 h2=>?_,λy hy=>?_,λy c _ h=>?_,λ_=>hd,Around.frames_deeper e0.frames,.inr ⟨rfl,rfl⟩,λb z=>absurd z (noA b),e0.bs,e0.bsz,λb _ _=>noA b,λb z=>absurd z (noA b),e0.funs,e0.frf⟩,
  rfl,e0.bare,Un.kept hk,⟨_,x.toInCall.ns,λi y v h1 h2 h3=>?_⟩,λy c h=>⟨_,x.cell y c h⟩,e0.hok.fresh (Nat.le_refl _),λy c h=>?_,λp hp=>absurd (show p∈([]:List (Addr×Obj)) from hp) (by simp),e0.hok.kept hk,?_⟩
 ·exact name_of_addr x.apart (PySem.mem_of_lookup h1) (PySem.mem_of_lookup h2)
 ·have hy:scope.names.lookup y=some .cell\/scope.names.lookup y=some .free:=hy
  rcases hy with hy|hy
  ·exact pJ hy
  ·exact absurd rfl (S.nofree _ (PySem.mem_of_lookup hy))
 ·exact Nat.le_of_lt (x.above y c (PySem.mem_of_lookup h))
 ·have hi:i < vs.length:=by
   unfold start at h2
   by_cases hi:i < vs.length
   ·exact hi
   ·rw[List.getElem?_append_right (by simpa using hi)] at h2
    rw[List.getElem?_replicate] at h2
    split at h2<;>cases h2
  have ha:vs[i]?=some v:=by
   unfold start at h2;rw[List.getElem?_append_left (by simpa using hi),List.getElem?_map] at h2
   cases e:vs[i]? with
   | none=>rw[e] at h2;cases h2
   | some a=>rw[e] at h2;cases h2;rfl
  obtain⟨u,hu,rv⟩:=r.get ha;have hp:ps[i]?=some y:=by
   rw[<- S.pre,List.getElem?_take_of_lt (by omega)];exact h1
  have ndP:ps.Nodup:=by rw[<- S.pre];exact S.nd.sublist (List.take_sublist _ _)
  refine⟨u,rv,?_⟩;rcases S.par y (List.mem_of_getElem? hp) with k|k
  ·exact .inl ⟨k,lx ndP hp hu k⟩
  ·obtain⟨c,e⟩:=pJ (n:=s.heap.objs.size+1) k
   refine .inr ⟨.inl k,c,e,?_⟩;have q:=x.cell y c e;rw[ly ndP hp hu (by show scope.names.lookup y≠_;rw[k];decide)] at q
   exact q
 ·exact e0.hok.fresh (Nat.le_of_lt (x.above y c (PySem.mem_of_lookup h)))
 ·unfold start
  show _=N.length;rw[List.length_append,List.length_map,List.length_replicate];omega

theorem PY {CX:uY}{P:Program}{w:World}{K:PySem.W.Frag}{mg:Str->Option Value}{base:Heap}{k:Nat}{f:Addr}{name qual:Str}{params:Arguments}{body:List Stmt}{scope:Scope}{dV kV doc pm cdv ct oc:Value}{an od:Option Addr}
  {osl:Array (Option Value)} {N ps:List Str} {sp:Sp} (lk:K.lookup f=some ⟨oc,od,.func (PySem.W.fnOf name qual params body scope dV kV doc pm an cdv ct),osl⟩) (hcd:PySem.W.codeIn K cdv qual=true) (S:FnScope N ps scope)
  (len:∀ vs H Q E,sp vs H Q E->vs.length=ps.length)
  (hbody:∀ (A:Around) (outer:List Env) (s:Shared) (H:Hp) (vs:List V) (Q:VK) (E:XK),Room k (A.deeper (envOfC qual scope s.heap.objs.size f cdv))->sp vs H Q E ->
   ∃ t,PSs (jN CX P w K mg base N qual scope f cdv A outer s H E) body t/\t { nx:=λ_ H'=>Q .non H',rt:=Q } (start N vs) H) :
  FnOk P w K mg base CX (k+1) f (PySem.W.fnOf name qual params body scope dV kV doc pm an cdv ct) ps sp:=by
 refine⟨len,λA outer s H args us vs Q E hr e0 hb r hsp=>?_⟩;have hl:=len _ _ _ _ hsp;have KX:K.In s.heap:=e0.mod.kin.keeps λb o e=>(e0.bs b o e).1;have lim:s.heap.NoLimit:=e0.mod.nolimit.keeps λb o e=>(e0.bs b o e).1;have hkind:∀ y∈ps.zip us,scope.names.lookup y.1=some .local\/(scope.names.lookup y.1=some .cell/\((cellsFrom (s.heap.objs.size+1) scope.names []).lookup y.1).isSome=true):=λ⟨n,v⟩ hy=>by
  rcases S.par n (List.of_mem_zip hy).1 with q|q
  ·exact .inl q
  ·exact .inr ⟨q,PySem.W.cellsFrom_some _ _ _ (.inl q)⟩
 refine codeAny_call_function hr.depth (KX _ _ lk) rfl S.co S.gen rfl (PySem.W.codeRec_of KX hcd) (hb _ _ _ _ ?_);refine wpAny_newFunctionEnv_cells S.kind hkind λenv he s1 x=>?_;subst he;refine⟨lim.keeps x.toInCall.keep,codeAny_func ?_⟩;obtain⟨t,ht,hq⟩:=hbody A outer s H vs Q E (hr.deeper _) hsp;have I:Inv (jN CX P w K mg base N qual scope f cdv A outer s H E) [] (start N vs) H s1:=uZ S hr.hd e0 hl r x;refine wpAny_mono (ht [] s1 (start N vs) H _ I hq) (λfl s' hs=>?_) λe s' hs=>hs;have fin:∀ {σ':St} {H':Hp} {v:V} {u:Value},Inv (jN CX P w K mg base N qual scope f cdv A outer s H E) [] σ' H' s'->RelV v u->Q v H'->CE outer P w H s Q u s' :=
  λ{σ' H' v u} J rv q=>⟨v,H',J.os,J.bare,J.base,J.hok,rv,q⟩
 cases fl with
 | ret u =>
  obtain⟨v,σ',H',J,rv,q⟩:=hs;exact fin J rv q
 | next =>
  obtain⟨σ',H',J,q⟩:=hs;exact fin (v:=V.non) (u:=Value.none) J rfl q
 | brk =>
  obtain⟨_,_,_,q⟩:=hs;exact False.elim q
 | cont =>
  obtain⟨_,_,_,q⟩:=hs;exact False.elim q
end L2

namespace L2
open PySem PySem.Spec PyProof.Rows
section
variable {X:Cx}{x:Str}{p pos:Pos}{e:Expr}{es:List Expr}{t:TA}{id T:String}{r:List V->Hp->VK->Prop}

def UD (r:List V->Hp->VK->Prop)(t:TA):TE:=λσ H Q=>t σ H λvs H1=>r vs H1 Q
theorem wj (hc:CallR X (.builtin id) r)(hg:Gl X x)(hm:X.mg x=none)(hv:bootBuiltins x=some (.builtin id))(ha:PA X (e::es) t)(hn:x≠"__name__":=by decide)(hdb:(x==("__debug__":Str))=false:=by decide)
  (he:starEach (e::es) X.env=(false,eval e X.env)::starEach es X.env:=by rfl) (hpl:(backTo pos (starEach es X.env)).any (·.1)=false:=by rfl):PE X (.Call (.Name x p) (e::es) [] pos) (UD r t):=by
 intro pins s σ H Q I h;refine wpAny_Call_Name_kw (ic I hg hm hv ?_ hn hdb);exact PyProof.Rows.callWith_builtin1 (bG (ha pos pins s σ H _ I h) λus s1 ⟨vs,H1,I1,r1,q1⟩=>hc pins s1 σ H1 vs us Q I1 r1 q1) he hpl
theorem ik (hc:CallR X (.type T) r)(hg:Gl X x)(hm:X.mg x=none)(hv:bootBuiltins x=some (.type T))(ha:PA X (e::es) t)(hn:x≠"__name__":=by decide)(hdb:(x==("__debug__":Str))=false:=by decide)
  (he:starEach (e::es) X.env=(false,eval e X.env)::starEach es X.env:=by rfl) (hpl:(backTo pos (starEach es X.env)).any (·.1)=false:=by rfl):PE X (.Call (.Name x p) (e::es) [] pos) (UD r t):=by
 intro pins s σ H Q I h;refine wpAny_Call_Name_kw (ic I hg hm hv ?_ hn hdb);exact PyProof.Rows.callWith_type1 (bG (ha pos pins s σ H _ I h) λus s1 ⟨vs,H1,I1,r1,q1⟩=>hc pins s1 σ H1 vs us Q I1 r1 q1) he hpl
end
end L2

namespace HT
open PySem PyProof.Rows

def lexLt:List Int->List Int->Bool
 | [],[]=>false
 | [],_::_=>true
 | _::_,[]=>false
 | x::xs,y::ys=>if x=y then lexLt xs ys else decide (x < y)
theorem lexLt_cons (x y:Int)(xs ys:List Int):lexLt (x::xs) (y::ys)=if x=y then lexLt xs ys else decide (x < y):=rfl
theorem lb:lexLt [] []=false:=rfl
theorem lexLt_nil_cons (y:Int)(ys:List Int):lexLt [] (y::ys)=true:=rfl
theorem lexLt_cons_nil (x:Int)(xs:List Int):lexLt (x::xs) []=false:=rfl

theorem wk (A:Around)(s:Shared)(a:Int)(t:Tok)(c:Int)(u:Tok):∃ e,SeqAt.EqAt A s (.int a t) (.int c u) e/\(e=true ↔ a=c) :=
 ⟨(a==c),SeqAt.EqAt.int_int a t c u,by simp⟩
theorem wl (A:Around)(s:Shared)(a:Int)(t:Tok)(c:Int)(u:Tok)(prog:Program)(w:World)(E:Value->Shared->Prop)(Q:Value->Shared->Prop)(h:Q (.bool (decide (a < c))) s) :
  wpAny (model prog w) A (richCompare .Lt (.int a t) (.int c u)) Q E s :=
 (PyProof.Rows.lt_int h:wpAny (model prog w) A (compareOp .Lt (.int a t) (.int c u)) Q E s)

section
open PySem.SeqAt
open PySem.AutoSeq1 (wpAny_loadPart')
open PySem.MeetsSeq PySem.MeetsSeq2 PySem.MeetsSeq3

theorem lc (l b:Addr)(items items2:Array Value)(n n2:Nat)(dd dd2:Option Addr)(sl sl2:Array (Option Value))(ns ms:List Int)(hi:IntsAre items.toList ns)(hj:IntsAre items2.toList ms) :
  Meets (Builtin.«tuple.__lt__» ⟨[.ref l,.ref b],[]⟩)
   (λ_ R s=>s.heap.get? l=some { cls:=.type "tuple",dict:=dd,data:=.seq items n,slots:=sl }/\s.heap.get? b=some { cls:=.type "tuple",dict:=dd2,data:=.seq items2 n2,slots:=sl2 } /\
    R (.ok (.ret (.bool (lexLt ns ms)))) s) :=
 .of_wp λprog w A R s h=>by
  obtain⟨hp,g,d,tk,os⟩:=s;obtain⟨hl,hb,h⟩:=h;have f2:=AutoSeq1.sub_tuple_tuple;have z1:items.size=ns.length:=by rw[<- hi.length];simp
  have z2:items2.size=ms.length:=by rw[<- hj.length];simp
  wp_walk using wpAny_loadPart' hl,wpAny_loadPart' hb,wpAny_forIn_list _ (λrest b s'=>b.1=none/\s'=⟨hp,g,d,tk,os⟩/\∃ (vs ws:List Value) (ns' ms':List Int),rest=vs.zip ws /\
   IntsAre vs ns'/\IntsAre ws ms'/\ns'.length+items2.size=ms'.length+items.size/\R (.ok (.ret (.bool (lexLt ns' ms')))) ⟨hp,g,d,tk,os⟩) _
  case turn =>
   rintro ⟨y,x⟩ rest b s' ⟨hb',rfl,vs,ws,ns',ms',hz,hvi,hwi,hlen,hR⟩;cases hvi with
   | nil=>rw[List.zip_nil_left] at hz;cases hz
   | cons a t hvi' =>
    cases hwi with
    | nil=>rw[List.zip_nil_right] at hz;cases hz
    | cons c u hwi' =>
     rw[List.zip_cons_cons] at hz
     injection hz with hyx hrest
     injection hyx with hy hx
     subst hy hx;rw[lexLt_cons] at hR;simp only[List.length_cons] at hlen;obtain⟨e,he,hiff⟩:=wk A.in1 ⟨hp,g,d,tk,os⟩ a t c u;refine wpAny_bind (he prog w _ _ ?_);cases e with
     | true =>
      rw[if_pos (hiff.mp rfl)] at hR
      wp_walk
      exact⟨rfl,rfl,_,_,_,_,hrest,hvi',hwi',by omega,hR⟩
     | false =>
      rw[if_neg (λq=>absurd (hiff.mpr q) Bool.false_ne_true)] at hR;have hri:=wl A.in1 ⟨hp,g,d,tk,os⟩ a t c u prog w
      wp_walk using hri
      exact⟨_,rfl,by simpa using hR⟩
  case fin =>
   rintro ⟨b1,b2⟩ s' ⟨hb',rfl,vs,ws,ns',ms',hz,hvi,hwi,hlen,hR⟩;simp only at hb';subst hb';have hv:lexLt ns' ms'=decide (items.size < items2.size):=by
    cases hvi with
    | nil =>
     cases hwi with
     | nil =>
      simp only[List.length_nil] at hlen;rw[lb];exact (decide_eq_false (by omega)).symm
     | cons c u hw =>
      simp only[List.length_nil,List.length_cons] at hlen;rw[lexLt_nil_cons];exact (decide_eq_true (by omega)).symm
    | cons a t hv =>
     cases hwi with
     | nil =>
      simp only[List.length_nil,List.length_cons] at hlen;rw[lexLt_cons_nil];exact (decide_eq_false (by omega)).symm
     | cons c u hw =>
      rw[List.zip_cons_cons] at hz;cases hz
   rw[hv] at hR
   wp_walk
   exact⟨_,rfl,by simpa [Builtin.Tuple.tupleCompareSizes] using hR⟩
  case h =>
   exact⟨rfl,rfl,items.toList,items2.toList,ns,ms,rfl,hi,hj,by omega,h⟩
end

section
variable {prog:Program}{w:World}{A:Around}{E:Value->Shared->Prop}{s:Shared}

theorem lt_tupInts {l b:Addr}{items items2:Array Value}{ns ms:List Int}{Q:Value->Shared->Prop}(hl:IsTup s.heap l items)(hb:IsTup s.heap b items2)(hi:IntsAre items.toList ns)(hj:IntsAre items2.toList ms)
  (hu:A.units < cLine) (h:Q (.bool (lexLt ns ms)) s):wpAny (model prog w) A (compareOp .Lt (.ref l) (.ref b)) Q E s:=by
 obtain⟨⟨cls,dd,data,sl⟩,ho,hc,n,hd⟩:=id hl;obtain⟨⟨cls2,dd2,data2,sl2⟩,ho2,hc2,n2,hd2⟩:=id hb;simp only at hc hd hc2 hd2;subst hc hd hc2 hd2;exact richCompare_meets_room (op:=.Lt) ⟨_,ho,rfl⟩ ⟨_,ho2,rfl⟩ PySem.F.slot_tuple_lt PySem.F.entry_tuple_lt (PySem.F.args_tuple_lt_2 _ _) (lc l b items items2 n n2 dd dd2 sl sl2 ns ms hi hj)
  ⟨ho,ho2,show Value.bool (lexLt ns ms)≠Value.notImplemented/\Q (.bool (lexLt ns ms)) s from ⟨(λx=>nomatch x),h⟩⟩ hu

theorem cat_tup {t b:Addr}{vs ws:List Value}{Q:Value->Shared->Prop}(ht:IsTup s.heap t vs.toArray)(hb:IsTup s.heap b ws.toArray)(hv:vs≠[])
  (h1:ws=[]->Q (.ref t) s) (h2:ws≠[]->Q (.ref s.heap.objs.size) { s with heap:=s.heap.push { cls:=.type "tuple",data:=.seq (vs++ws).toArray } })
  (hsz:vs.length+ws.length<=sizeLine):wpAny (model prog w) A (binaryOp .Add (.ref t) (.ref b)) Q E s:=by
 obtain⟨⟨cls,dd,data,sl⟩,ho,hc,n,hd⟩:=id ht;obtain⟨⟨cls2,dd2,data2,sl2⟩,ho2,hc2,n2,hd2⟩:=id hb;simp only at hc hd hc2 hd2;subst hc hd hc2 hd2;have e:vs.toArray++ws.toArray=(vs++ws).toArray:=by simp
 by_cases hw:ws=[]
 ·exact concat_meets ⟨_,ho,rfl⟩ ⟨_,ho2,rfl⟩ noFill_tuple_add seq_tuple_add PySem.F.slot_tuple_add PySem.F.entry_tuple_add (PySem.F.args_tuple_add_2 _ _)
   (tuple_addW1 t b vs.toArray ws.toArray n n2 dd dd2 sl sl2 (by simpa using hv) (by simp [hw])) ⟨ho,ho2,h1 hw⟩
 ·refine concat_meets ⟨_,ho,rfl⟩ ⟨_,ho2,rfl⟩ noFill_tuple_add seq_tuple_add PySem.F.slot_tuple_add PySem.F.entry_tuple_add (PySem.F.args_tuple_add_2 _ _)
   (tuple_addW2 t b vs.toArray ws.toArray n n2 dd dd2 sl sl2 (by simpa using hv) (by simpa using hw) (by rw[List.size_toArray,List.size_toArray];exact hsz)) ⟨ho,ho2,?_⟩
  rw[e];exact h2 hw

def sIx (n d:Nat):Option Int->Nat
 | none=>d
 | some v=>if v < 0 then (v+(n:Int)).toNat else min v.toNat n
theorem sIx_none (n d:Nat):sIx n d none=d:=rfl
theorem sIx_nat (n d k:Nat):sIx n d (some (k:Int))=min k n:=by
 show (if (k:Int) < 0 then ((k:Int)+(n:Int)).toNat else min (k:Int).toNat n)=min k n
 rw[if_neg (by omega),Int.toNat_natCast]
theorem Hf (n d:Nat)(hd:d<=n)(o:Option Int):sIx n d o<=n:=by
 cases o with
 | none=>exact hd
 | some v =>
  show (if v < 0 then (v+(n:Int)).toNat else min v.toNat n)<=n
  by_cases hv:v < 0
  ·rw[if_pos hv];omega
  ·rw[if_neg hv];exact Nat.min_le_right _ _
theorem tE (v:Int)(n d:Nat):(if v < 0 then max (v+(n:Int)) 0 else min v (n:Int))=((sIx n d (some v):Nat):Int):=by
 show (if v < 0 then max (v+(n:Int)) 0 else min v (n:Int))=(((if v < 0 then (v+(n:Int)).toNat else min v.toNat n):Nat):Int)
 by_cases hv:v < 0
 ·simp only[if_pos hv];omega
 ·simp only[if_neg hv];omega
theorem su (lo hi:Option Int)(n:Nat):Builtin.Slice.sliceAdjust lo hi 1 (n:Int)=(((sIx n 0 lo:Nat):Int),((sIx n n hi:Nat):Int)):=by
 have h1:¬ ((1:Int) < 0):=by omega
 unfold Builtin.Slice.sliceAdjust;simp only[h1,if_false];refine Prod.ext ?_ ?_
 ·cases lo with
  | none=>rfl
  | some v=>exact tE v n 0
 ·cases hi with
  | none=>rfl
  | some v=>exact tE v n n
theorem sv (i j:Nat):Builtin.Slice.slicePlaces (i:Int) (j:Int) 1=j - i:=by
 unfold Builtin.Slice.slicePlaces;have h1:(1:Int) > 0:=by omega
 simp only[h1,if_true,Int.ediv_one]
 split<;>omega
theorem jO {v:Value}{o:Option Int}{Q:Option Int->Shared->Prop}(p:IsPart v o)(h:Q o s):wpAny (model prog w) A (Builtin.Slice.slicePartIndex v) Q E s:=by
 cases p with
 | none=>exact slicePart_none h
 | int i t=>exact slicePart_int h
theorem il {sl:Addr}{vl vu:Value}{lo hi:Option Int}{n:Nat}{Q:Int×Int×Nat->Shared->Prop}(hs:s.heap.IsSliceOf sl vl vu .none)(pl:IsPart vl lo)(pu:IsPart vu hi)
  (h:Q (((sIx n 0 lo:Nat):Int),1,sIx n n hi - sIx n 0 lo) s):wpAny (model prog w) A (Builtin.Slice.sliceApplied (.ref sl) (pure (n:Int))) Q E s:=by
 obtain⟨os,hos,hcs,hds⟩:=id hs;unfold Builtin.Slice.sliceApplied Builtin.Slice.sliceFields;refine wpAny_bind (wpAny_bind (wpAny_field hos hds (x:=vl) rfl (wpAny_bind (wpAny_field hos hds (x:=vu) rfl (wpAny_bind (wpAny_field hos hds (x:=.none) rfl (wpAny_pure ?_)))))));refine wpAny_bind (slicePart_none ?_);show wpAny _ _ (if ((1:Int)==0)=true then _ else _) _ _ s
 rw[if_neg (by decide)]
 refine wpAny_bind (jO pl (wpAny_bind (jO pu (wpAny_bind (wpAny_pure ?_)))));show wpAny _ _ (match Builtin.Slice.sliceAdjust lo hi 1 (n:Int) with | (lo,hi)=>pure (lo,(1:Int),Builtin.Slice.slicePlaces lo hi 1)) _ _ s
 rw[su lo hi n];show wpAny _ _ (pure (((sIx n 0 lo:Nat):Int),(1:Int),Builtin.Slice.slicePlaces ((sIx n 0 lo:Nat):Int) ((sIx n n hi:Nat):Int) 1)) _ _ s;rw[sv];exact wpAny_pure h
theorem wm (xs:Array Value)(i k:Nat):((List.range k).filterMap λ(m:Nat)=>xs[((i:Int)+(m:Int)*1).toNat]?).toArray=((xs.toList.drop i).take k).toArray:=by
 have e:(λ(m:Nat)=>xs[((i:Int)+(m:Int)*1).toNat]?)=λm=>xs[i+m]?:=by
  funext m;have:((i:Int)+(m:Int)*1).toNat=i+m:=by omega
  rw[this]
 rw[e];have:=pick_run xs i k;rw[List.filterMap_map] at this;have e2:((λx=>xs[x]?) ∘ λx=>i+x)=λm=>xs[i+m]?:=rfl;rw[e2] at this;rw[this]

theorem getItem_tuple_cut {t sl:Addr}{items:Array Value}{vl vu:Value}{lo hi:Option Int}{Q:Value->Shared->Prop}(ht:IsTup s.heap t items)(hs:s.heap.IsSliceOf sl vl vu .none)(pl:IsPart vl lo)(pu:IsPart vu hi)
  (hw:¬ (sIx items.size 0 lo=0/\sIx items.size items.size hi=items.size))
  (h:Q (.ref s.heap.objs.size) { s with heap:=s.heap.push { cls:=.type "tuple",data:=.seq ((items.toList.drop (sIx items.size 0 lo)).take (sIx items.size items.size hi - sIx items.size 0 lo)).toArray } })
  (hsz:items.size<=sizeLine):wpAny (model prog w) A (getItem (.ref t) (.ref sl)) Q E s:=by
 have htake:sizeOk (.seq ((items.toList.drop (sIx items.size 0 lo)).take (sIx items.size items.size hi - sIx items.size 0 lo)).toArray):=by
  show ((items.toList.drop (sIx items.size 0 lo)).take (sIx items.size items.size hi - sIx items.size 0 lo)).toArray.size<=sizeLine;rw[List.size_toArray,List.length_take,List.length_drop,Array.length_toList];omega
 have hj:sIx items.size items.size hi<=items.size:=Hf _ _ (Nat.le_refl _) hi;obtain⟨os,hos,hcs,hds⟩:=id hs;have hTs:s.TypeIs (.ref sl) "slice":=⟨os,hos,hcs⟩;unfold getItem
 try with_reducible refine wpAny_holding ?_
 first|refine wpAny_bind (wpAny_pure ?_)|skip
 refine wpAny_bind (wpAny_sequenceKey ht.typeIs (by decide) ?_)
 refine wpAny_bind (wpAny_callSpecial?_slot (name:=Str.ofString "__getitem__") ht.typeIs PyProof.Rows.slot_tuple_getitem
  (wpAny_call_entry PyProof.Rows.slot_tuple_getitem ht.typeIs entry_tuple_getitem ?_ (args_tuple_getitem _ _)))
 show wpAny _ _ (Builtin.Tuple.tupleItemsOf (.ref t) >>= _) _ _ s;refine wpAny_bind (tupleItemsOf_ ht ?_);refine wpAny_bind (wpAny_typeOf hTs ?_);rw[if_pos (by decide)]
 refine wpAny_bind (il hs pl pu ?_);have hno:¬ ((((sIx items.size 0 lo:Nat):Int)==0&&(1:Int)==1&&(sIx items.size items.size hi - sIx items.size 0 lo)==items.size)=true):=by
  intro q;rw[Bool.and_eq_true,Bool.and_eq_true] at q;have q1:((sIx items.size 0 lo:Nat):Int)=0:=eq_of_beq q.1.1;have q2:sIx items.size items.size hi - sIx items.size 0 lo=items.size:=eq_of_beq q.2;exact hw ⟨by omega,by omega⟩
 show wpAny _ _ (if (((sIx items.size 0 lo:Nat):Int)==0&&(1:Int)==1&&(sIx items.size items.size hi - sIx items.size 0 lo)==items.size)=true then _ else _) _ _ s
 rw[if_neg hno,wm]
 first
  | exact wpAny_bind (m:=Builtin.Tuple.tupleExact _) (wpAny_newObj_type (wpAny_pure ⟨_,rfl,wpAny_pure h⟩) htake)
  | exact wpAny_bind (m:=Builtin.Tuple.tupleExact _) (wpAny_newObj_type (wpAny_bind (wpAny_pure (wpAny_pure ⟨_,rfl,wpAny_pure h⟩))) htake)
  | exact wpAny_bind (wpAny_bind (m:=Builtin.Tuple.tupleExact _) (wpAny_newObj_type (wpAny_pure (wpAny_pure ⟨_,rfl,wpAny_pure h⟩)) htake))
  | exact wpAny_bind (wpAny_bind (m:=Builtin.Tuple.tupleExact _) (wpAny_newObj_type (wpAny_pure ⟨_,rfl,wpAny_pure h⟩) htake))
end
end HT

namespace L2
open PySem PySem.Spec PyProof.Rows

abbrev TO:=St->Hp->(Option Int->Hp->Prop)->Prop
def PO (X:Cx)(e:Option Expr)(t:TO):Prop :=
 ∀ (pins:List (Addr×Obj)) (s:Shared) (σ:St) (H:Hp) (Q:Option Int->Hp->Prop),Inv X pins σ H s->t σ H Q ->
  wpAny (model X.prog X.w) X.A (evalPart e X.env) (λu s'=>∃ o H',Inv X pins σ H' s'/\IsPart u o/\Q o H') X.xe s
def DC:TO:=λ_ H Q=>Q none H
def PZ (t:TE):TO:=λσ H Q=>t σ H λx H1=>∃ i,x=.int i/\Q (some i) H1

theorem intsAre_of {ns:List Int}:∀ {us:List Value},Vals (ns.map V.int) us->IntsAre us ns:=by
 induction ns with
 | nil=>intro us r;rw[List.map_nil] at r;cases r;exact .nil
 | cons n ns ih =>
  intro us r;rw[List.map_cons] at r;cases r with
  | cons r1 r2 =>
   obtain⟨t,e⟩:=r1;subst e;exact .cons n t (ih r2)

section
variable {X:Cx}{e:Expr}{te:TE}{lo hi:Option Expr}{tl th:TO}{pos p2:Pos}

theorem DD:PO X none DC:=by
 intro pins s σ H Q I h;rw[evalPart_none];exact wpAny_pure ⟨none,H,I,.none,h⟩
theorem DE (h:PE X e te):PO X (some e) (PZ te):=by
 intro pins s σ H Q I hw;rw[evalPart_some];refine bG (h pins s σ H _ I hw) λu s1 ⟨x,H1,I1,r1,q1⟩=>?_;obtain⟨i,rfl,q⟩:=q1;obtain⟨t,rfl⟩:=r1;exact⟨some i,H1,I1,.int i t,q⟩

def SlR (X:Cx)(r:V->Option Int->Option Int->Hp->VK->Prop):Prop :=
 ∀ (pins:List (Addr×Obj)) (s:Shared) (σ:St) (H:Hp) (x:V) (v vl vu:Value) (lo hi:Option Int) (sl:Addr) (Q:VK),Inv X pins σ H s->RelV x v->s.heap.IsSliceOf sl vl vu .none->IsPart vl lo->IsPart vu hi->r x lo hi H Q ->
  ∃ T id,typeLookup (.type T) "__getitem__"=pure (some (.builtin id))/\s.TypeIs v T/\wpAny (model X.prog X.w) X.A (getItem v (.ref sl)) (EP X pins σ Q) X.xe s
theorem SlR.or {r r':V->Option Int->Option Int->Hp->VK->Prop}(h:SlR X r)(h':SlR X r'):SlR X (λx lo hi H Q=>r x lo hi H Q\/r' x lo hi H Q):=by
 intro pins s σ H x v vl vu lo hi sl Q I rx hs pl pu q;rcases q with q|q
 ·exact h pins s σ H x v vl vu lo hi sl Q I rx hs pl pu q
 ·exact h' pins s σ H x v vl vu lo hi sl Q I rx hs pl pu q
def VV (r:V->Option Int->Option Int->Hp->VK->Prop)(te:TE)(tl th:TO):TE:=λσ H Q=>te σ H λx H1=>tl σ H1 λl H2=>th σ H2 λu H3=>r x l u H3 Q
theorem wn {r:V->Option Int->Option Int->Hp->VK->Prop}(hr:SlR X r)(he:PE X e te)(hl:PO X lo tl)(hu:PO X hi th):PE X (.Subscript e (.Slice lo hi none p2) pos) (VV r te tl th):=by
 intro pins s σ H Q I h;refine Subscript_ (bG (he pins s σ H _ I h) λv s1 ⟨x,H1,I1,r1,q1⟩=>?_);refine wpAny_Slice (bG (hl pins s1 σ H1 _ I1 q1) λvl s2 ⟨l,H2,I2,pl,q2⟩=>bG (hu pins s2 σ H2 _ I2 q2) λvu s3 ⟨u,H3,I3,pu,q3⟩=>?_);rw[evalPart_none];refine wpAny_pure ?_;have I4:Inv X pins σ H3 { s3 with heap:=s3.heap.push { cls:=.type "slice",data:=.fields #[vl,vu,.none] } }:=I3.kept (t':=s3.toks) λb ob q=>Heap.get?_push_of_some _ q
 obtain⟨T,id,hT,ht,hg⟩:=hr pins { s3 with heap:=s3.heap.push { cls:=.type "slice",data:=.fields #[vl,vu,.none] } } σ H3 x v vl vu l u s3.heap.objs.size Q I4 r1 (Heap.IsSliceOf.new ..) pl pu q3
 show wpAny (model X.prog X.w) X.A (subscriptTail e (.Slice lo hi none p2) v (.ref s3.heap.objs.size)) (EP X pins σ Q) X.xe { s3 with heap:=s3.heap.push { cls:=.type "slice",data:=.fields #[vl,vu,.none] } }
 exact tail_any (ops:=[.ref s3.heap.objs.size,v]) ht hT hg (by with_unfolding_all rfl)

def pK (xs:List V)(lo hi:Option Int):List V:=(xs.drop (HT.sIx xs.length 0 lo)).take (HT.sIx xs.length xs.length hi - HT.sIx xs.length 0 lo)
theorem iR (xs:List V)(lo hi:Option Int):(pK xs lo hi).length<=xs.length:=by
 unfold pK;rw[List.length_take,List.length_drop];omega
def UE (K:PySem.W.Frag):V->Option Int->Option Int->Hp->VK->Prop:=λx lo hi H Q=>∃ a xs,x=.ref a/\SqT K H a xs /\
 ¬ (HT.sIx xs.length 0 lo=0/\HT.sIx xs.length xs.length hi=xs.length)/\∀ p,H p=none->Q (.ref p) (bj H p (.tup (pK xs lo hi)))
theorem Hg:SlR X (UE X.K):=by
 intro pins s σ H x v vl vu lo hi sl Q I rx hs pl pu h;obtain⟨a,xs,rfl,hx,hw,q⟩:=h;cases rx;obtain⟨its,r,ht,hz⟩:=I.tuple hx;have hlen:its.toArray.size=xs.length:=by rw[List.size_toArray];exact r.length.symm
 refine⟨"tuple",_,PyProof.Rows.slot_tuple_getitem.lookup,ht.typeIs,?_⟩;refine HT.getItem_tuple_cut ht hs pl pu (by rw[hlen];exact hw) ?_ (by rw[hlen];exact hz)
 rw[hlen];refine⟨.ref s.heap.objs.size,_,I.laid (t':=s.toks) (o:=.tup (pK xs lo hi)) (λb ob q=>Heap.get?_push_of_some _ q) (Nat.le_refl _) ?_,rfl,q _ (I.hok.fresh (Nat.le_refl _))⟩;exact⟨Nat.le_trans (iR xs lo hi) hz,_,(r.drop (HT.sIx xs.length 0 lo)).take (HT.sIx xs.length xs.length hi - HT.sIx xs.length 0 lo),IsTup.new _ _⟩

def FB (K:PySem.W.Frag):R2:=λx y H Q=>∃ a b xs ys,x=.ref a/\y=.ref b/\SqT K H a xs/\SqT K H b ys/\xs≠[]/\xs.length+ys.length<=sizeLine /\
 (ys=[]->Q (.ref a) H)/\(ys≠[]->∀ p,H p=none->Q (.ref p) (bj H p (.tup (xs++ys))))
theorem Vals.nil_iff {xs:List V}{us:List Value}(r:Vals xs us):us=[] ↔ xs=[]:=by
 cases r with
 | nil=>simp
 | cons _ _=>simp
theorem DF:OpR X (binaryOp .Add) (FB X.K):=by
 intro pins s σ H x y v u Q I rx ry h;obtain⟨a,b,xs,ys,rfl,rfl,ha,hb,hx,hz,q1,q2⟩:=h;cases rx;cases ry;obtain⟨its,r1,p1,_⟩:=I.tuple ha;obtain⟨its2,r2,p2,_⟩:=I.tuple hb;refine HT.cat_tup p1 p2 (λz=>hx (r1.nil_iff.mp z)) (λz=>⟨.ref a,H,I,rfl,q1 (r2.nil_iff.mp z)⟩) (λz=>?_) (by rw[<- r1.length,<- r2.length];exact hz)
 refine⟨.ref s.heap.objs.size,_,I.laid (t':=s.toks) (o:=.tup (xs++ys)) (λb ob q=>Heap.get?_push_of_some _ q) (Nat.le_refl _) ?_,rfl,q2 (λw=>z (r2.nil_iff.mpr w)) _ (I.hok.fresh (Nat.le_refl _))⟩;exact⟨by rw[List.length_append];exact hz,_,r1.append r2,IsTup.new _ _⟩
end
end L2

namespace L2
open PySem PySem.Spec PyProof.Rows

def ixN (n:Nat)(i:Int):Option Nat:=if 0<=i then (if i < n then some i.toNat else none) else if -(n:Int)<=i then some (i+n).toNat else none
def atI {α:Type}(xs:List α)(i:Int):Option α:=(ixN xs.length i).bind λj=>xs[j]?
theorem tF {n:Nat}{i:Int}{j:Nat}(h:ixN n i=some j):seqIndex? i n=some j/\j < n/\-(n:Int)<=i/\i < n:=by
 unfold ixN at h
 by_cases h0:0<=i
 ·rw[if_pos h0] at h
  by_cases h1:i < n
  ·rw[if_pos h1] at h
   have e:i.toNat=j:=Option.some.inj h;exact⟨by rw[seqIndex_of h0 h1,e],by omega,by omega,h1⟩
  ·rw[if_neg h1] at h;cases h
 ·rw[if_neg h0] at h
  by_cases h1:-(n:Int)<=i
  ·rw[if_pos h1] at h
   have e:(i+n).toNat=j:=Option.some.inj h;exact⟨by rw[seqIndex_neg (by omega) h1,e],by omega,h1,by omega⟩
  ·rw[if_neg h1] at h;cases h
theorem ni {α:Type}{xs:List α}{i:Int}{v:α}(h:atI xs i=some v):∃ j,seqIndex? i xs.length=some j/\xs[j]?=some v/\j < xs.length/\-(xs.length:Int)<=i/\i < xs.length:=by
 unfold atI at h;cases e:ixN xs.length i with
 | none=>rw[e] at h;cases h
 | some j =>
  rw[e] at h;obtain⟨h1,h2,h3,h4⟩:=tF e;exact⟨j,h1,h,h2,h3,h4⟩
def tG (b:Expr):Prop:=∀ o i,subscripted b false o i=operate [o,i] (getItem o i)
def IxR (X:Cx)(r:R2):Prop :=
 ∀ (value slice:Expr) (pins:List (Addr×Obj)) (s:Shared) (σ:St) (H:Hp) (x y:V) (v u:Value) (Q:VK),Inv X pins σ H s->RelV x v->RelV y u->r x y H Q ->
  subscripted slice false v u=operate [v,u] (getItem v u)->wpAny (model X.prog X.w) X.A (subscriptTail value slice v u) (EP X pins σ Q) X.xe s
def VW (X:Cx)(id:String)(r:V->List V->Hp->VK->Prop):Prop :=
 ∀ (pins:List (Addr×Obj)) (s:Shared) (σ:St) (H:Hp) (x:V) (xs:List V) (v:Value) (us:List Value) (Q:VK),Inv X pins σ H s->RelV x v->Vals xs us->r x xs H Q ->
  wpAny (model X.prog X.w) X.A (call (.builtin id) (v::us)) (EP X pins σ Q) X.xe s
section
variable {X:Cx}{a b:Expr}{ta tb:TE}{pos:Pos}
theorem IxR.or {r r':R2}(h:IxR X r)(h':IxR X r'):IxR X (λx y H Q=>r x y H Q\/r' x y H Q):=by
 intro value slice pins s σ H x y v u Q I rx ry q hs;rcases q with q|q
 ·exact h value slice pins s σ H x y v u Q I rx ry q hs
 ·exact h' value slice pins s σ H x y v u Q I rx ry q hs
theorem Qa {r:R2}(hr:IxR X r)(ha:PE X a ta)(hb:PE X b tb)(hs:tG b):PE X (.Subscript a b pos) (GV r ta tb):=by
 intro pins s σ H Q I h;exact Subscript_ (GW ha hb I h λv u s2 x y H2 I2 rx ry q=>hr a b pins s2 σ H2 x y v u Q I2 rx ry q (hs _ _))

def Qb (K:PySem.W.Frag):R2:=λx y H Q=>∃ p xs i v,x=.ref p/\y=.int i/\SqL K H p xs/\atI xs i=some v/\Q v H
def Qc (K:PySem.W.Frag):R2:=λx y H Q=>∃ p xs i v,x=.ref p/\y=.int i/\SqT K H p xs/\atI xs i=some v/\Q v H
def Qe:R2:=λx y H Q=>∃ z i c,x=.str z/\y=.int i/\z.length<=sizeLine/\atI z.cps.toList i=some c/\Q (.str ⟨#[c]⟩) H
theorem ix_list:IxR X (Qb X.K):=by
 intro value slice pins s σ H x y v u Q I rx ry h hs;obtain⟨p,xs,i,z,rfl,rfl,hq,he,q⟩:=h;cases rx;obtain⟨t,rfl⟩:=ry;obtain⟨its,r,pl,hz⟩:=I.list hq;obtain⟨j,h1,h2,h3,h4,h5⟩:=ni he;obtain⟨w,ew,rw'⟩:=r.get h2;have hl:=r.length;have hn:=fC;have fin:EP X pins σ Q w s:=⟨z,H,I,rw',q⟩
 by_cases h0:0<=i
 ·have hj:i.toNat=j:=by
   rw[seqIndex_of h0 h5] at h1;exact Option.some.inj h1
  exact item_listR pl.isList h0 (by omega) (by rw[hj];simpa using ew) fin hs
 ·have hj:(i+(its.toArray.size:Int)).toNat=j:=by
   rw[seqIndex_neg (by omega) h4] at h1
   rw[List.size_toArray,<- hl];exact Option.some.inj h1
  exact subscriptTail_builtinR (x:=w) pl.isList.typeIs slot_list_getitem.lookup
   (wpAny_getItem_list_neg (Q:=λr s'=>r=w/\EP X pins σ Q r s') pl.isList (by omega) (by rw[List.size_toArray]<;>omega) (by omega) (by rw[hj];simpa using ew) ⟨rfl,fin⟩) hs
theorem ix_tup:IxR X (Qc X.K):=by
 intro value slice pins s σ H x y v u Q I rx ry h hs;obtain⟨p,xs,i,z,rfl,rfl,hq,he,q⟩:=h;cases rx;obtain⟨t,rfl⟩:=ry;obtain⟨its,r,pl,hz⟩:=I.tuple hq;obtain⟨j,h1,h2,h3,h4,h5⟩:=ni he;obtain⟨w,ew,rw'⟩:=r.get h2;have hl:=r.length;have hn:=fC;have fin:EP X pins σ Q w s:=⟨z,H,I,rw',q⟩;exact subscriptTail_builtinR (x:=w) pl.typeIs slot_tuple_getitem.lookup
  (getItem_tuple (j:=j) (Q:=λr s'=>r=w/\EP X pins σ Q r s') pl (by omega) (by omega) (by rw[List.size_toArray,<- hl];exact h1) (by simpa using ew) ⟨rfl,fin⟩) hs
theorem Hh:IxR X Qe:=by
 intro value slice pins s σ H x y v u Q I rx ry h hs;obtain⟨z,i,c,rfl,rfl,hz,he,q⟩:=h;obtain⟨t,rfl⟩:=rx;obtain⟨t',rfl⟩:=ry;obtain⟨j,h1,h2,h3,h4,h5⟩:=ni he;have hl:z.cps.toList.length=z.length:=by simp [Str.length]
 rw[hl] at h1 h4 h5;have hn:=fC;exact tail_any (typeIs_str s z t) slot_str_getitem.lookup (getItem_str (c:=c) (by
  have e1:decide (i < -(2^63:Int))=false:=decide_eq_false (by omega)
  have e2:decide (i>=2^63)=false:=decide_eq_false (by omega)
  rw[e1,e2,Bool.or_false]) (by rw[h1];simpa using h2) ⟨.str ⟨#[c]⟩,H,I.tok _,⟨_,rfl⟩,q⟩) hs
def VX (K:PySem.W.Frag):R2:=λx y H Q=>Qb K x y H Q\/Qc K x y H Q\/Qe x y H Q
theorem Hj:IxR X (VX X.K):=ix_list.or (ix_tup.or Hh)

theorem sx (its:List Value)(n j:Nat)(u:Value):Obj.mapSeq (·.setIfInBounds j u) { cls:=.type "list",data:=.seq its.toArray n }={ cls:=.type "list",data:=.seq (its.set j u).toArray n }:=by
 simp [Obj.mapSeq]
theorem Inv.lst {pins:List (Addr×Obj)}{σ:St}{H:Hp}{s:Shared}{p:Addr}{xs:List V}(I:Inv X pins σ H s)(h:H p=some (.lst xs)) :
  ∃ (its:List Value) (n:Nat),Vals xs its/\s.heap.get? p=some { cls:=.type "list",data:=.seq its.toArray n }/\xs.length<=sizeLine:=by
 obtain⟨z,its,n,r,e⟩:=I.hok p _ h;exact⟨its,n,r,e,z⟩
theorem Inv.lstUpd {pins:List (Addr×Obj)}{σ:St}{H:Hp}{s:Shared}{p:Addr}{xs ys:List V}{its its':List Value}{n n':Nat}{f:Obj->Obj}(I:Inv X pins σ H s)(h:H p=some (.lst xs))
  (ho:s.heap.get? p=some { cls:=.type "list",data:=.seq its.toArray n }) (hf:f { cls:=.type "list",data:=.seq its.toArray n }={ cls:=.type "list",data:=.seq its'.toArray n' }) (r:Vals ys its') (hz:ys.length<=sizeLine) (t:Nat) :
  Inv X pins σ (bj H p (.lst ys)) { s with heap:=s.heap.update p f,toks:=t }:=by
 have e:(s.heap.update p f).get? p=some { cls:=.type "list",data:=.seq its'.toArray n' }:=by
  rw[Heap.get?_update_self f ho (by rw[hf]<;>rfl),hf]
 refine I.write (x:=p) (e:=p) (by rw[h];trivial) (.inl rfl) (λb u hb q=>(Heap.get?_update_other _ _ (Ne.symm hb)).trans q) ⟨_,e⟩ ?_
 exact⟨hz,its',n',r,e⟩
def Qf:V->V->V->Hp->(Hp->Prop)->Prop:=λo i v H Q=>∃ p xs k j,o=.ref p/\i=.int k/\H p=some (.lst xs)/\ixN xs.length k=some j/\Q (bj H p (.lst (xs.set j v)))
theorem wo:Px X Qf:=by
 intro pins s σ H o i v ov iv u Q I ro ri rv h;obtain⟨p,xs,k,j,rfl,rfl,hp,hj,q⟩:=h;cases ro;obtain⟨t,rfl⟩:=ri;obtain⟨its,n,r,ho,hz⟩:=I.lst hp;obtain⟨h1,h2,h3,h4⟩:=tF hj;have hl:=r.length;have hn:=fC;have I':Inv X pins σ (bj H p (.lst (xs.set j v))) { s with heap:=s.heap.update p (Obj.mapSeq (·.setIfInBounds j u)) } :=
  I.lstUpd hp ho (sx its n j u) (r.set rv j) (by rw[List.length_set];exact hz) s.toks
 by_cases h0:0<=k
 ·have hk:k.toNat=j:=by
   rw[seqIndex_of h0 h4] at h1;exact Option.some.inj h1
  exact PySem.W.ki_setAt ho h0 (by omega) (by rw[List.size_toArray,<- hl];exact h4) (by rw[hk];exact⟨_,I',q⟩)
 ·have hk:(k+(its.toArray.size:Int)).toNat=j:=by
   rw[seqIndex_neg (by omega) h3] at h1
   rw[List.size_toArray,<- hl];exact Option.some.inj h1
  exact PySem.W.ki_setBack ho (by omega) (by rw[List.size_toArray,<- hl];exact h3) (by omega) (by rw[hk];exact⟨_,I',q⟩)

theorem nj (lo hi:Option Int)(n:Nat):(sliceBounds lo hi none n).1=((HT.sIx n 0 lo:Nat):Int)/\(sliceBounds lo hi none n).2.1=((HT.sIx n n hi:Nat):Int)/\(sliceBounds lo hi none n).2.2=1:=by
 refine⟨?_,?_,rfl⟩
 ·cases lo with
  | none=>simp [sliceBounds,HT.sIx]
  | some i =>
   simp only[sliceBounds,HT.sIx,Option.getD_none,show (1:Int) > 0 by decide,if_true]
   by_cases h:i < 0
   ·simp only[h,if_true]<;>omega
   ·simp only[h,if_false]<;>omega
 ·cases hi with
  | none=>simp [sliceBounds,HT.sIx]
  | some i =>
   simp only[sliceBounds,HT.sIx,Option.getD_none,show (1:Int) > 0 by decide,if_true]
   by_cases h:i < 0
   ·simp only[h,if_true]<;>omega
   ·simp only[h,if_false]<;>omega
theorem ld (its:List Value)(lo hi:Option Int):slicePick its.toArray lo hi none=((its.drop (HT.sIx its.length 0 lo)).take (HT.sIx its.length its.length hi - HT.sIx its.length 0 lo)).toArray:=by
 obtain⟨h1,h2,h3⟩:=nj lo hi its.toArray.size;unfold slicePick;rw[h1,h2,h3];simp only[sliceRange_one,pick_run,List.size_toArray]<;>rfl
def UF (K:PySem.W.Frag):V->Option Int->Option Int->Hp->VK->Prop:=λx lo hi H Q=>∃ a xs,x=.ref a/\SqL K H a xs/\∀ p,H p=none->Q (.ref p) (bj H p (.lst (pK xs lo hi)))
theorem DG:SlR X (UF X.K):=by
 intro pins s σ H x v vl vu lo hi sl Q I rx hs pl pu h;obtain⟨a,xs,rfl,hx,q⟩:=h;cases rx;obtain⟨its,r,ht,hz⟩:=I.list hx;have hlen:=r.length;refine⟨"list",_,slot_list_getitem.lookup,ht.isList.typeIs,?_⟩;refine wpAny_getItem_list_slice ht.isList hs pl pu .none (by simp) ?_ (by rw[List.size_toArray]<;>omega)
 rw[ld,<- hlen];refine⟨.ref s.heap.objs.size,_,I.laid (t':=s.toks) (o:=.lst (pK xs lo hi)) (λb ob q=>Heap.get?_push_of_some _ q) (Nat.le_refl _) ?_,rfl,q _ (I.hok.fresh (Nat.le_refl _))⟩;exact⟨Nat.le_trans (iR xs lo hi) hz,_,0,(r.drop (HT.sIx xs.length 0 lo)).take (HT.sIx xs.length xs.length hi - HT.sIx xs.length 0 lo),Heap.get?_push_size _ rfl⟩

theorem call_len_seq:CallR X (.builtin "len") (λxs H Q=>∃ p ys,xs=[.ref p]/\(SqL X.K H p ys\/SqT X.K H p ys)/\Q (.int ys.length) H):=by
 intro pins s σ H xs us Q I r h;obtain⟨p,ys,rfl,hq,q⟩:=h;obtain⟨u,rfl,rx⟩:=dt r;cases rx;have hn:=fC;rcases hq with hq|hq
 ·obtain⟨its,r',pl,hz⟩:=I.list hq
  have hlen:=r'.length;exact Calls.call_len_list pl.isList (by simp only[List.size_toArray]<;>omega) ⟨.int ys.length,H,I.tok _,⟨s.toks+1,by rw[List.size_toArray,hlen]⟩,q⟩
 ·obtain⟨its,r',pl,hz⟩:=I.tuple hq
  have hlen:=r'.length;exact len_tuple pl (by simp only[List.size_toArray]<;>omega) ⟨.int ys.length,H,I.tok _,⟨s.toks+1,by rw[List.size_toArray,hlen]⟩,q⟩
theorem nk:CallR X (.builtin "len") (λxs H Q=>∃ z,xs=[.str z]/\z.length<=sizeLine/\Q (.int z.length) H):=by
 intro pins s σ H xs us Q I r h;obtain⟨z,rfl,hz,q⟩:=h;obtain⟨u,rfl,t,rfl⟩:=dt r;have hn:=fC;exact len_str (by omega) ⟨.int z.length,H,I.tok _,⟨_,rfl⟩,q⟩
theorem CallR.or {f:Value}{r r':List V->Hp->VK->Prop}(h:CallR X f r)(h':CallR X f r'):CallR X f (λxs H Q=>r xs H Q\/r' xs H Q):=by
 intro pins s σ H xs us Q I rs q;rcases q with q|q
 ·exact h pins s σ H xs us Q I rs q
 ·exact h' pins s σ H xs us Q I rs q
theorem nl:CallR X (.type "list") (λxs H Q=>∃ p ys,xs=[.ref p]/\(SqL X.K H p ys\/SqT X.K H p ys)/\∀ l,H l=none->Q (.ref l) (bj H l (.lst ys))):=by
 intro pins s σ H xs us Q I r h;obtain⟨p,ys,rfl,hq,q⟩:=h;obtain⟨u,rfl,rx⟩:=dt r;cases rx;have fin:∀ (its:List Value),Vals ys its->ys.length<=sizeLine->∀ (h':Heap) (c':Nat),(∀ b o',s.heap.get? b=some o'->h'.get? b=some o') ->
   h'.get? s.heap.objs.size=some { cls:=.type "list",dict:=none,data:=.seq its.toArray c',slots:=#[] }->EP X pins σ Q (.ref s.heap.objs.size) { s with heap:=h' }:=λits r' hz h' c' kp e =>
  ⟨.ref s.heap.objs.size,_,I.laid (t':=s.toks) kp (Nat.le_refl _) (show ObjOk X.prog X.w _ h' _ (.lst ys) from ⟨hz,its,c',r',e⟩),rfl,q _ (I.hok.fresh (Nat.le_refl _))⟩
 rcases hq with hq|hq
 ·obtain⟨its,r',pl,hz⟩:=I.list hq
  have hlen:=r'.length;obtain⟨o,ho,hc,n,hd⟩:=pl.isList;exact call_list_seq p (.inl rfl) ho hc hd (λh' c' kp e=>fin its r' hz h' c' kp e) (by simp only[List.size_toArray]<;>omega)
 ·obtain⟨its,r',pl,hz⟩:=I.tuple hq
  have hlen:=r'.length;obtain⟨o,ho,hc,n,hd⟩:=pl;exact call_list_seq p (.inr rfl) ho hc hd (λh' c' kp e=>fin its r' hz h' c' kp e) (by simp only[List.size_toArray]<;>omega)
theorem lg:CallR X (.type "tuple") (λxs H Q=>∃ p ys,xs=[.ref p]/\((SqL X.K H p ys/\∀ l,H l=none->Q (.ref l) (bj H l (.tup ys)))\/(SqT X.K H p ys/\Q (.ref p) H))):=by
 intro pins s σ H xs us Q I r h;obtain⟨p,ys,rfl,h⟩:=h;obtain⟨u,rfl,rx⟩:=dt r;cases rx;rcases h with ⟨hq,q⟩|⟨hq,q⟩
 ·obtain⟨its,r',pl,hz⟩:=I.list hq
  have hlen:=r'.length;refine call_tuple_list pl.isList (λh' kp=>?_) (by simp only[List.size_toArray]<;>omega)
  have I1:Inv X pins σ H { s with heap:=h' }:=I.kept (t':=s.toks) kp
  have I2:Inv X pins σ (bj H h'.objs.size (.tup ys)) { s with heap:=h'.push { cls:=.type "tuple",data:=.seq its.toArray } } :=
   I1.laid (t':=s.toks) (λb o e=>Heap.get?_push_of_some _ e) (Nat.le_refl _) (show ObjOk X.prog X.w _ _ _ (.tup ys) from ⟨hz,its,r',IsTup.new _ _⟩)
  exact⟨.ref h'.objs.size,_,I2,rfl,q _ (I1.hok.fresh (Nat.le_refl _))⟩
 ·obtain⟨its,r',pl,hz⟩:=I.tuple hq
  exact call_tuple_same pl ⟨.ref p,H,I,rfl,q⟩

def VE (K:PySem.W.Frag)(T:String)(x:V)(H:Hp):Prop:=match x with
 | .str _=>T="str"
 | .int _=>T="int"
 | .ref p=>(T="list"/\∃ xs,SqL K H p xs)\/(T="tuple"/\∃ o,K.lookup p=some o/\o.cls=.type "tuple"/\o.dict=none) \/
   (T="dict"/\((∃ kvs,H p=some (.dK kvs))\/∃ kvs,H p=some (.dT kvs)))\/(T="set"/\∃ S n,H p=some (.set S n))
 | _=>False
theorem Hk {pins:List (Addr×Obj)}{σ:St}{H:Hp}{s:Shared}{T:String}{x:V}{v:Value}(I:Inv X pins σ H s)(r:RelV x v)(ty:VE X.K T x H) :
  s.TypeIs v T/\∀ a,v=.ref a->∃ ob,s.heap.get? a=some ob/\ob.dict=none:=by
 cases x with
 | str z =>
  obtain⟨t,rfl⟩:=r;cases (show T="str" from ty)
  exact⟨typeIs_str s z t,λ_ e=>nomatch e⟩
 | int i =>
  obtain⟨t,rfl⟩:=r;cases (show T="int" from ty)
  exact⟨typeIs_int s i t,λ_ e=>nomatch e⟩
 | ref p =>
  cases r;rcases ty with ⟨rfl,xs,hq⟩|⟨rfl,o,hk,hc,hd⟩|⟨rfl,hk⟩|⟨rfl,S,n,hk⟩
  ·obtain⟨its,_,pl,_⟩:=I.list hq
   refine⟨pl.isList.typeIs,λa e=>?_⟩;cases e;obtain⟨o,n,e,c,hd,_⟩:=pl;exact⟨o,e,hd⟩
  ·refine⟨⟨o,I.kIn p o hk,hc⟩,λa e=>?_⟩
   cases e;exact⟨o,I.kIn _ o hk,hd⟩
  ·have z:∃ o,s.heap.get? p=some o/\o.ExactDict:=by
    rcases hk with ⟨kvs,hk⟩|⟨kvs,hk⟩
    ·obtain⟨_,_,_,_,o,_,_,e,ex,_⟩:=I.hok p _ hk
     exact⟨o,e,ex⟩
    ·obtain⟨_,_,_,_,o,_,_,e,ex,_⟩:=I.hok p _ hk
     exact⟨o,e,ex⟩
   obtain⟨o,e,ex⟩:=z;refine⟨⟨o,e,ex.1⟩,λa e2=>?_⟩;cases e2;exact⟨o,e,ex.2.1⟩
  ·obtain⟨o,_,_,_,e,ex,_⟩:=I.hok p _ hk
   refine⟨⟨o,e,ex.1⟩,λa e2=>?_⟩;cases e2;exact⟨o,e,ex.2.1⟩
 | _=>exact False.elim ty
def VY (K:PySem.W.Frag)(T:String)(r:V->List V->Hp->VK->Prop)(to:TE)(t:TA):TE:=λσ H Q=>to σ H λx H1=>VE K T x H1/\t σ H1 λxs H2=>r x xs H2 Q
variable {o e:Expr}{es:List Expr}{to:TE}{t:TA}{name:Str}{apos cpos:Pos}{T id:String}{r:V->List V->Hp->VK->Prop}
theorem FC (pa:PlainAttrs T)(slot:Slot T name id)(hty:typeOf (.builtin id)=pure (.type "method_descriptor"))(hm:VW X id r)(ho:PE X o to)(ha:PA X (e::es) t)
  (hbase:attributeBase o name X.env (eval o X.env)=eval o X.env:=by rfl)
  (hfew:((backTo cpos (starEach (e::es) X.env)).all (λx=>!x.1)&&(backToKw cpos (keywordEach [] X.env)).all (λx=>x.1.isSome)
  &&decide ((e::es).length+([]:List Keyword).length+(if ([]:List Keyword).isEmpty then 0 else 1) < 30))=true:=by rfl)
  (hline:(apos.endLine==cpos.line)=true:=by rfl) (hs:starEach (e::es) X.env=(false,eval e X.env)::starEach es X.env:=by rfl) (hplain:(backTo cpos (starEach es X.env)).any (·.1)=false:=by rfl) :
  PE X (.Call (.Attribute o name apos) (e::es) [] cpos) (VY X.K T r to t):=by
 intro pins s σ H Q I h;refine wpAny_Call_method_late hbase hfew hline rfl (bG (ho pins s σ H _ I h) λv s1 ⟨x,H1,I1,r1,ty,q1⟩=>?_);obtain⟨h1,h2⟩:=Hk I1 r1 ty;refine⟨T,id,pa,slot,hty,h1,h2,?_⟩;have hA:=ha cpos pins s1 σ H1 _ I1 q1;rw[hs] at hA ⊢;refine Calls.callWith_builtin (by show (false||(backTo cpos (starEach es X.env)).any (·.1))=false;rw[hplain]<;>rfl) (Calls.evalArgs_plain ?_)
 exact bG hA λus s2 ⟨vs,H2,I2,r2,q2⟩=>hm pins s2 σ H2 x vs v us Q I2 r1 r2 q2
end
end L2

namespace L2
open PySem PySem.Spec PyProof.Rows

def VF (X:Cx)(id:String)(r:V->List V->Hp->VK->Prop):Prop :=
 ∀ (pins:List (Addr×Obj)) (s:Shared) (σ:St) (H:Hp) (x:V) (xs:List V) (v:Value) (us:List Value) (Q:VK),Inv X pins σ H s->RelV x v->Vals xs us->r x xs H Q ->
  wpAny (model X.prog X.w) X.A (call (.builtin id) (v::us)) (EP X pins σ Q) X.xe s

theorem Vals.one:∀ {x:V} {us:List Value},Vals [x] us->∃ u,us=[u]/\RelV x u
 | _,_,.cons r .nil=>⟨_,rfl,r⟩
theorem Vals.rep {xs:List V}{us:List Value}(h:Vals xs us):∀ k:Nat,Vals (List.replicate k xs).flatten (List.replicate k us).flatten
 | 0=>.nil
 | k+1=>by
  rw[List.replicate_succ,List.replicate_succ,List.flatten_cons,List.flatten_cons];exact Vals.append h (Vals.rep h k)
theorem lA (its:List Value):∀ (k:Nat) (acc:List Value),
  List.foldl (λx1 x2=>x1++x2) acc.toArray (List.replicate k its.toArray)=(acc++(List.replicate k its).flatten).toArray
 | 0,acc=>by simp
 | k+1,acc=>by
  have e:acc.toArray++its.toArray=(acc++its).toArray:=by simp
  have e2:(acc++its)++(List.replicate k its).flatten=acc++(List.replicate (k+1) its).flatten:=by
   rw[List.replicate_succ,List.flatten_cons,List.append_assoc]
  rw[<- e2,<- lA its k (acc++its),<- e,List.replicate_succ,List.foldl_cons]

section
variable {X:Cx}{pins:List (Addr×Obj)}{σ:St}{H:Hp}{s:Shared}{l b:Addr}{xs ys zs:List V}

theorem Inv.lset {its its':List Value}{n:Nat}{f:Array Value->Array Value}{t':Nat}(I:Inv X pins σ H s)(hH:H l=some (.lst xs))
  (e:s.heap.get? l=some { cls:=.type "list",data:=.seq its.toArray n }) (hf:f its.toArray=its'.toArray) (hv:Vals ys its') (hz:ys.length<=sizeLine) :
  Inv X pins σ (bj H l (.lst ys)) { s with heap:=s.heap.update l (Obj.mapSeq f),toks:=t' }:=by
 have q:=PySem.IsL.update e f;rw[hf] at q;refine I.write (x:=l) (e:=l) (by rw[hH];exact trivial) (.inl rfl) (λb' u hb hu=>(Heap.get?_update_other s.heap (Obj.mapSeq f) (Ne.symm hb)).trans hu) ⟨_,q⟩ ?_
 exact⟨hz,its',_,hv,q⟩
theorem Inv.lnew {its:List Value}{t':Nat}(I:Inv X pins σ H s)(hv:Vals ys its)(hz:ys.length<=sizeLine) :
  Inv X pins σ (bj H s.heap.objs.size (.lst ys)) { s with heap:=s.heap.push { cls:=.type "list",data:=.seq its.toArray },toks:=t' } :=
 I.laid (λ_ _ q=>Heap.get?_push_of_some _ q) (Nat.le_refl _) ⟨hz,its,0,hv,Heap.get?_push_size _ rfl⟩
theorem Inv.fresh (I:Inv X pins σ H s):H s.heap.objs.size=none:=I.hok.fresh (Nat.le_refl _)
theorem Inv.lstM (I:Inv X pins σ H s)(hH:H l=some (.lst xs)):xs.length<=sizeLine/\∃ (its:List Value) (n:Nat),Vals xs its/\xs.length=its.length/\s.heap.get? l=some { cls:=.type "list",data:=.seq its.toArray n }:=by
 obtain⟨z,its,n,r,e⟩:=I.hok l _ hH;exact⟨z,its,n,r,r.length,e⟩

theorem wp {n:Nat}(h:n<=sizeLine):Builtin.List.listTooLong n=false:=by
 unfold Builtin.List.listTooLong;exact decide_eq_false (by omega)
end

section
variable {X:Cx}

def DH:V->List V->Hp->VK->Prop:=λx vs H Q=>∃ l xs y,x=.ref l/\vs=[y]/\H l=some (.lst xs)/\xs.length < sizeLine/\Q .non (bj H l (.lst (xs++[y])))
theorem lC:VF X "list.append" DH:=by
 intro pins s σ H x vs v us Q I rx rv h;obtain⟨l,xs,y,rfl,rfl,hH,hz,q⟩:=h;cases rx;obtain⟨u,rfl,ru⟩:=rv.one;obtain⟨z,its,n,r,hl,e⟩:=I.lstM hH;refine call_meets F.slot_list_append ⟨_,e,rfl⟩ F.entry_list_append (F.args_list_append_2 _ _) (PySem.list_append l its.toArray n u (by rw[List.size_toArray];omega)) ⟨e,?_⟩
 refine⟨.non,_,I.lset (its':=its++[u]) hH e (by simp) (r.append (.cons ru .nil)) ?_,rfl,q⟩
 rw[List.length_append,List.length_singleton];omega

theorem DI {α:Type}(xs:List α)(k:Nat):(List.replicate k xs).flatten.length=k*xs.length:=by
 induction k with
 | zero=>simp
 | succ k ih=>rw[List.replicate_succ,List.flatten_cons,List.length_append,ih,Nat.succ_mul,Nat.add_comm]
end

section
variable {prog:Program}{w:World}{A:Around}{E:Value->Shared->Prop}{s:Shared}
set_option maxRecDepth 100000 in
end

section
variable {X:Cx}
end
end L2

namespace Att
open PySem PySem.W PySem.Calls PyProof.Rows

theorem jl {P:Params}{h:Heap}:∀ (ns:List Int) (vs:List Value),WellAll P h vs (ns.map WData.int)->IntsAre vs ns:=by
 intro ns
 induction ns with
 | nil =>
  intro vs w;rw[List.map_nil] at w;cases w;exact .nil
 | cons n ns ih =>
  intro vs w;rw[List.map_cons] at w;cases w with
  | cons a b =>
   cases a;exact .cons _ _ (ih _ b)

theorem vc {l:OpenLaw}{n:Nat}(hn:l.most=some n){P:Params}{h:Heap}{args:List WData}{vals:List Value}
  (hpre:l.row.toRowW.claim.pre args=true) (hwl:WellAll P h vals args) :
  ∃ a vs ns,vals=[Value.ref a]/\args=[WData.list (ns.map WData.int)]/\h.get? a=some { cls:=.type "list",data:=.seq vs.toArray }/\IntsAre vs ns/\ns.length<=n:=by
 have hsh:WShape.hasAll [] args [.list .int]=true:=(pre_splitW hpre).1;have hc:l.pre.holds [] { args:=args }=true:=(pre_splitW hpre).2;obtain⟨d,r,rfl,h1,h2⟩:=hasAllW_cons hsh;obtain rfl:=hasAllW_nil h2;obtain⟨xs,rfl,h3⟩:=hasW_list h1;obtain⟨ns,rfl⟩:=items_int h3;have hlen:ns.length<=n:=by
  unfold OpenLaw.pre at hc;have h4:(WTm.not (.lt (.lit (.int (n:Int))) (.len (.arg 0)))).holds [] { args:=[.list (ns.map .int)] }=true:=by
   have h4:=(holds_andW hc).1;rw[hn] at h4;exact h4
  have h5:=condW_of h4 (w_not (w_lt w_lit (w_len_list (w_arg rfl))));rw[List.length_map] at h5;refine Nat.le_of_not_lt λq=>?_;have q':(n:Int) < ((ns.length:Nat):Int):=by omega
  first
   | (rw[decide_eq_true q'] at h5;exact absurd h5 (by decide))
   | (simp at h5;omega)
 cases hwl with
 | cons w1 w2 =>
  cases w2;cases w1 with
  | list ho hall=>exact⟨_,_,ns,rfl,rfl,ho,jl ns _ hall,hlen⟩

theorem vd (l:OpenLaw)(args:List WData):l.row.toRowW.claim.post args (.bool true) args=true :=
 postW_of (r:=l.row.toRowW) (X:=(true==true))
  (show WShape.has [] (.bool true) .bool=true by first|rfl|decide|simp [WShape.has,WShape.arms,WShape.armsAll])
  (show (WTm.eq .res (.lit (.bool true))).value [] { args:=args,res:=some (.bool true),after:=args }=some (.bool (true==true)) from w_eq_bool (w_res rfl) w_lit) rfl

theorem attach_call {l:OpenLaw}{n:Nat}{q:Program}{loose:List Str}{XP:(Str->Option Value)->Heap->Prop}{YP:World->Heap->Prop}{d:DefRec}
  (hn:l.most=some n) (hdf:d.params.defaults=[])
  (call:∀ (w:World) (s₀ s₁:Shared) (mg mb:Str->Option Value) (fa:Addr) (o:Obj) (pm cd doc:Value) (a:Addr) (vs:List Value) (ns:List Int),
   Ground q loose [] XP w s₀ mg mb s₁.heap->YP w s₁.heap ->
   s₁.heap.get? fa=some o->o.data=.func (docDef d.name d.params d.body d.scope pm cd doc)->s₁.heap.CodeRec cd d.name->mg d.name=some (.ref fa) ->
   s₁.heap.get? a=some { cls:=.type "list",data:=.seq vs.toArray }->IntsAre vs ns->ns.length<=n->s₁.gens=#[] ->
   codeAny (model l.prog w) callerA (.call (.ref fa) ⟨[.ref a],[]⟩) (λr s'=>r=.ok (.ret (.bool true))/\OldK s₁.heap s'.heap/\s'.os=s₁.os/\AllBare s'.gens) s₁) :
  WalkO q loose XP YP l.row.toRowW d [] (λf vs=>PySem.call f vs):=by
 intro w s₀ s₁ mg mb G Y fa o pm cd doc dV kV ho hd hcd hD hmg hg args vals as hpre hlay hrd hwl hlo;obtain rfl:dV=.none:=Dflts.none hD hdf;obtain rfl:kV=.none:=Dflts.noKw hD;obtain⟨a,vs,ns,rfl,rfl,hobj,hints,hlen⟩:=vc hn hpre hwl;refine enter_call (codeAny_mono (call w s₀ s₁ mg mb fa o pm cd doc a vs ns G Y ho (fd_plain hd) hcd hmg hobj hints hlen hg) λr s' hq=>?_);obtain⟨rfl,h2,h3,h4⟩:=hq;exact⟨.inl ⟨.bool true,.bool true,[],rfl,λ_=>rfl,.bool true,vd l _,λ_=>⟨List.Pairwise.nil,λ_ hm=>(nomatch hm)⟩⟩,h2,h3,h4⟩

section
variable {prog:Program}{w:World}{A:Around}{E:Value->Shared->Prop}{s:Shared}{K:Frag}

end
end Att

namespace L2
open PySem PySem.Spec PyProof.Rows

theorem du:∀ {vs:List Value} {ns:List Int},IntsAre vs ns->Vals (ns.map V.int) vs
 | _,_,.nil=>.nil
 | _,_,.cons n t h=>.cons ⟨t,rfl⟩ (du h)

def Hl (H:Hp):Prop:=∀ b,H b=none\/∃ o xs,H b=some (.frz o (.lst xs))

theorem wq {P:Program}{w:World}{K:PySem.W.Frag}{mg mb:Str->Option Value}{CX:uY}{k:Nat}{fa a:Addr}{fd:FuncData}{x:Str}{sp:Sp}{s₁:Shared}{vs:List Value}{ns:List Int}
  (KX:K.In s₁.heap) (hns:s₁.heap.Ns mainGlobals mg) (hb:s₁.heap.Ns builtinsNs mb) (hbb:∀ x:Str,x≠"__name__"->mb x=bootBuiltins x) (hlim:s₁.heap.NoLimit) (hg:s₁.gens=#[])
  (ha:s₁.heap.get? a=some { cls:=.type "list",data:=.seq vs.toArray }) (hi:IntsAre vs ns) (hl:ns.length<=sizeLine) (hr:Room k callerA)
  (F:∀ base:Heap,K.In base->base.Ns mainGlobals mg->FnOk P w K mg base CX k fa fd [x] sp) (hbind:∀ (s:Shared) (u:Value),BindsTo s fd ⟨[u],[]⟩ [(x,u)])
  (hsp:∀ H:Hp,Hl H->SqL K H a (ns.map V.int)->sp [.ref a] H (λv _=>v=.bl true) λ_ _ _=>False)
  (hCX:∀ H e s',CX [] H s₁ (λ_ _ _=>False) e s'->False) :
  codeAny (model P w) callerA (.call (.ref fa) ⟨[.ref a],[]⟩) (λr s'=>r=.ok (.ret (.bool true))/\OldK s₁.heap s'.heap/\s'.os=s₁.os/\AllBare s'.gens) s₁:=by
 have rv:=du hi;have lenV:=hi.length
 -- from an abstract heap in which nothing but the script may be tracked
 have core:∀ H:Hp,Hl H->SqL K H a (ns.map V.int)->HOk P w H s₁.heap->(∀ b,H b≠none->b=a)->(H a≠none->K.lookup a=none) ->
   codeAny (model P w) callerA (.call (.ref fa) ⟨[.ref a],[]⟩) (λr s'=>r=.ok (.ret (.bool true))/\OldK s₁.heap s'.heap/\s'.os=s₁.os/\AllBare s'.gens) s₁:=by
  intro H hO hS hok hA hK;have base_of:∀ {b:Addr} {o:Obj},s₁.heap.get? b=some o->H b=none->(mS s₁.heap H).get? b=some o:=λe n=>vQ e n;have noA:∀ {b:Addr} {o:Obj} {es:Array DictEntry} {ep:Nat},s₁.heap.get? b=some o->o.data=.dict es ep->H b=none:=λ{b o es ep} e d=>by
   cases q:H b with
   | none=>rfl
   | some u =>
    have e':b=a:=hA b (by rw[q];simp)
    subst e';rw[ha] at e;cases e;have d':Data.seq vs.toArray _=Data.dict es ep:=d;cases d'
  have nsK:∀ {b:Addr} {m:Str->Option Value},s₁.heap.Ns b m->(mS s₁.heap H).Ns b m:=λ{b m} ⟨o,es,ep,e,d,r⟩=>⟨o,es,ep,base_of e (noA e d),d,r⟩;have hKb:K.In (mS s₁.heap H):=λb o e=>base_of (KX b o e) (by
   cases q:H b with
   | none=>rfl
   | some u =>
    have e':b=a:=hA b (by rw[q];simp)
    subst e';rw[hK (by rw[q];simp)] at e;cases e)
  have hM:Mod K mg (mS s₁.heap H):=⟨hKb,nsK hns,⟨mb,nsK hb,hbb⟩,let ⟨mc,h1,h2⟩:=hlim;⟨mc,nsK h1,h2⟩⟩;have e0:Env0 P w K mg (mS s₁.heap H) callerA [] s₁ H:=⟨rfl,hM,λb o e=>Dm e,Nat.le_of_eq (uO _ _),trivial,λb hb=>absurd (show b∈([]:List Addr) from hb) (by simp),hok,.of_eq hg⟩
  refine codeAny_mono ((F _ hKb (nsK hns)).run callerA [] s₁ H ⟨[.ref a],[]⟩ [.ref a] [.ref a] _ _ hr e0 (hbind s₁ (.ref a)) (.cons rfl .nil) (hsp H hO hS)) λr s' h=>?_;cases r with
  | error e=>exact (hCX H e s' h).elim
  | ok fl =>
   cases fl with
   | next=>exact False.elim h
   | brk=>exact False.elim h
   | cont=>exact False.elim h
   | ret u =>
    obtain⟨v,H',os,bare,un,hok',r',q⟩:=h;have q':v=.bl true:=q;subst q';obtain rfl:u=Value.bool true:=r';refine⟨rfl,OldK.of_keep λb o e=>?_,os,bare⟩;cases q:H b with
    | none=>exact un.keep b o e q (by intro z;exact absurd (show b∈([]:List Addr) from z) (by simp)) (by simp)
    | some u =>
     rcases hO b with z|⟨ob,xs,z⟩
     ·rw[q] at z;cases z
     ·have z2:=un.frzs b ob _ z
      obtain⟨e1,_⟩:=hok b _ z;obtain⟨e2,_⟩:=hok' b _ z2;rw[e] at e1;cases e1;exact e2
 cases hk:K.lookup a with
 | some o =>
  -- the script is one of the module's own objects
  have e:=KX a o hk;rw[ha] at e;cases e;refine core (λ_=>none) (λ_=>.inl rfl) (.inr ⟨_,vs.toArray,_,hk,rfl,rfl,rfl,by rw[List.size_toArray,lenV];exact hl,by simpa using rv⟩) (λb u z=>by have z':(none:Option HO)=some u:=z;cases z') (λb z=>absurd rfl z) λz=>absurd rfl z
 | none =>
  refine core (λb=>if b=a then some (.frz { cls:=.type "list",data:=.seq vs.toArray } (.lst (ns.map V.int))) else none) (λb=>?_) (.inl (.inr ⟨{ cls:=.type "list",data:=.seq vs.toArray },if_pos rfl⟩)) (λb u z=>?_) (λb z=>?_) λ_=>hk
  ·by_cases hb:b=a
   ·exact .inr ⟨_,_,if_pos hb⟩
   ·exact .inl (if_neg hb)
  ·by_cases hb:b=a
   ·have z':=(if_pos hb).symm.trans z
    cases z';subst hb;exact⟨ha,by rw[List.length_map];exact hl,vs,_,rv,ha⟩
   ·have z':=(if_neg hb).symm.trans z
    cases z'
  ·by_cases hb:b=a
   ·exact hb
   ·exact absurd (if_neg hb) z
end L2

namespace L2
open PySem PySem.Spec PyProof.Rows

theorem walk_of {l:PySem.W.OpenLaw}{n k:Nat}{q:Program}{loose:List Str}{XP:(Str->Option Value)->Heap->Prop}{YP:World->Heap->Prop}{d:DefRec}{K:Params->PySem.W.Frag}{CX:World->uY}{sp:World->Sp}{x:Str}
  (hn:l.most=some n) (hn2:n<=sizeLine) (hdf:d.params.defaults=[]) (hr:Room k callerA)
  (hY:∀ (w:World) (h:Heap),YP w h->(K w.params).In h)
  (F:∀ (w:World) (mg:Str->Option Value) (fa:Addr) (h:Heap),(K w.params).In h->h.Ns mainGlobals mg->mg d.name=some (.ref fa) ->
   ∃ fd:FuncData,(∀ (s:Shared) (u:Value),BindsTo s fd ⟨[u],[]⟩ [(x,u)]) /\
    ∀ base:Heap,(K w.params).In base->base.Ns mainGlobals mg->FnOk l.prog w (K w.params) mg base (CX w) k fa fd [x] (sp w))
  (hsp:∀ (w:World) (H:Hp) (a:Addr) (ns:List Int),ns.length<=n->Hl H->SqL (K w.params) H a (ns.map V.int)->sp w [.ref a] H (λv _=>v=.bl true) λ_ _ _=>False)
  (hCX:∀ (w:World) (H:Hp) (s:Shared) (e:Value) (s':Shared),CX w [] H s (λ_ _ _=>False) e s'->False) :
  PySem.W.WalkO q loose XP YP l.row.toRowW d [] (λf vs=>PySem.call f vs):=by
 refine Att.attach_call hn hdf λw s₀ s₁ mg mb fa o pm cd doc a vs ns G Y ho hd hcd hmg hobj hints hlen hg=>?_;have KX:=hY w _ Y;obtain⟨fd,hb,hF⟩:=F w mg fa _ KX G.T.g hmg;exact wq KX G.T.g G.T.b G.T.builtins G.T.nolimit hg hobj hints (Nat.le_trans hlen hn2) hr hF hb (λH hO hS=>hsp w H a ns hlen hO hS) λH e s'=>hCX w H s₁ e s'
end L2

namespace L2
open PySem PySem.Spec PyProof.Rows

def cu (s:Stmt)(j:Nat):Stmt:=match s with
 | .ClassDef _ _ _ body _ _ _ _ _ _ _=>body.getD j (.Pass ⟨0,0,0,0⟩)
 | _=>.Pass ⟨0,0,0,0⟩
def av (s:Stmt):Arguments:=match s with
 | .FunctionDef _ a _ _ _ _ _ _ _ _=>a
 | _=>{ posonlyargs:=[],args:=[],vararg:=none,kwonlyargs:=[],kw_defaults:=[],kwarg:=none,defaults:=[] }
def ag (s:Stmt):List Stmt:=match s with
 | .FunctionDef _ _ b _ _ _ _ _ _ _=>b
 | _=>[]
def aa (s:Stmt):Scope:=match s with
 | .FunctionDef _ _ _ _ _ _ sc _ _ _=>sc
 | _=>{ kind:=.function,names:=[],isGenerator:=false,isCoroutine:=false }

abbrev fv:uY:=λ_ _ _ _ _ _=>False
abbrev E0:XK:=λ_ _ _=>False
theorem iT {X:Cx}:fD fv X E0:=λ_ _ _ _ _ _ _ h=>h.elim

structure Fun (K:PySem.W.Frag)(x qual:Str)(st:Stmt)(f:Addr)(fd:FuncData):Prop where
 ex:∃ (oc:Value) (od:Option Addr) (kV doc pm:Value) (an:Option Addr) (cdv ct:Value) (osl:Array (Option Value)),
  fd=PySem.W.fnOf x qual (av st) (ag st) (aa st) .none kV doc pm an cdv ct/\K.lookup f=some ⟨oc,od,.func fd,osl⟩/\PySem.W.codeIn K cdv qual=true
 kp:PySem.W.keepIn K (.ref f)=true
section
variable {P:Program}{w:World}{K:PySem.W.Frag}{mg:Str->Option Value}{base:Heap}
theorem Fun.ok {x qual:Str}{st:Stmt}{f:Addr}{fd:FuncData}{N ps:List Str}{k:Nat}{sp:Sp}(F:Fun K x qual st f fd)(S:FnScope N ps (aa st))(len:∀ vs H Q E,sp vs H Q E->vs.length=ps.length)
  (hbody:∀ (cdv:Value) (A:Around) (outer:List Env) (s:Shared) (H:Hp) (vs:List V) (Q:VK) (E:XK),Room k (A.deeper (envOfC qual (aa st) s.heap.objs.size f cdv))->sp vs H Q E ->
   ∃ t,PSs (jN fv P w K mg base N qual (aa st) f cdv A outer s H E).nox (ag st) t/\t { nx:=λ_ H'=>Q .non H',rt:=Q } (start N vs) H):FnOk P w K mg base fv (k+1) f fd ps sp:=by
 obtain⟨oc,od,kV,doc,pm,an,cdv,ct,osl,rfl,lk,hcd⟩:=F.ex;refine PY lk hcd S len λA outer s H vs Q E hr hsp=>?_;obtain⟨t,h,q⟩:=hbody cdv A outer s H vs Q E hr hsp;exact⟨t,h.nox,q⟩
theorem Fun.binds {x qual:Str}{st:Stmt}{f:Addr}{fd:FuncData}{ps:List Str}(F:Fun K x qual st f fd)
  (h:∀ (kV doc pm:Value) (an:Option Addr) (cdv ct:Value) (us:List Value),us.length=ps.length->bindArgs (PySem.W.fnOf x qual (av st) (ag st) (aa st) .none kV doc pm an cdv ct) ⟨us,[]⟩=pure (ps.zip us)):Binds K fd ps []:=by
 obtain⟨oc,od,kV,doc,pm,an,cdv,ct,osl,rfl,lk,hcd⟩:=F.ex;exact .all (h kV doc pm an cdv ct)
theorem aH {x qual:Str}{st:Stmt}{f:Addr}{oc:Value}{od an:Option Addr}{osl:Array (Option Value)}{kV doc pm cdv ct:Value}(l:K.lookup f=some ⟨oc,od,.func (PySem.W.fnOf x qual (av st) (ag st) (aa st) .none kV doc pm an cdv ct),osl⟩)
  (c:PySem.W.codeIn K cdv qual=true) (k:PySem.W.keepIn K (.ref f)=true):Fun K x qual st f (PySem.W.fnOf x qual (av st) (ag st) (aa st) .none kV doc pm an cdv ct):=⟨⟨oc,od,kV,doc,pm,an,cdv,ct,osl,rfl,l,c⟩,k⟩
end
section
variable {X:Cx}
end

def Same (H H':Hp):Prop:=∀ b o,H b=some o->H' b=some o
theorem Same.refl (H:Hp):Same H H:=λ_ _ h=>h
theorem Same.trans {H H1 H2:Hp}(a:Same H H1)(b:Same H1 H2):Same H H2:=λc o h=>b c o (a c o h)
theorem Same.free {H H':Hp}(e:Same H H'){l:Addr}(h:H' l=Option.none):H l=Option.none:=by
 cases q:H l with
 | none=>rfl
 | some o =>
  rw[e l o q] at h;cases h
theorem Same.seq {K:PySem.W.Frag}{H H':Hp}{a:Addr}{xs:List V}(e:Same H H')(h:SqL K H a xs):SqL K H' a xs:=by
 rcases h with (h|⟨o,h⟩)|h
 ·exact .inl (.inl (e _ _ h))
 ·exact .inl (.inr ⟨o,e _ _ h⟩)
 ·exact .inr h

end L2

namespace L2
open PySem PySem.Spec PyProof.Rows

section
variable {κ:Type}[DecidableEq κ]
def eB (kvs:List (κ×V))(k:κ):Option V:=(kvs.find? λkv=>decide (kv.1=k)).map (·.2)
def im (kvs:List (κ×V))(k:κ)(v:V):List (κ×V) :=
 if (kvs.any λkv=>decide (kv.1=k))=true then kvs.map (λkv=>if kv.1=k then (kv.1,v) else kv) else kvs++[(k,v)]
def iU (kvs:List (κ×V))(k:κ):List (κ×V):=kvs.filter λkv=>decide (kv.1≠k)

theorem fP {p:κ×V}{r:List (κ×V)}{k:κ}(e:p.1=k):eB (p::r) k=some p.2:=by simp [eB,List.find?_cons,e]
theorem fR {p:κ×V}{r:List (κ×V)}{k:κ}(e:¬ p.1=k):eB (p::r) k=eB r k:=by simp [eB,List.find?_cons,e]
theorem pL (k:κ):∀ kvs:List (κ×V),(kvs.any λkv=>decide (kv.1=k))=(eB kvs k).isSome
 | []=>rfl
 | p::r=>by
  rw[List.any_cons]
  by_cases e:p.1=k
  ·simp only[fP e,decide_eq_true e,Bool.true_or,Option.isSome_some]
  ·rw[fR e,decide_eq_false e,Bool.false_or];exact pL k r
theorem iV (kvs:List (κ×V))(k:κ)(v:V):(im kvs k v).length<=kvs.length+1:=by
 unfold im
 split
 ·rw[List.length_map];omega
 ·rw[List.length_append,List.length_cons,List.length_nil];omega
theorem RelO.isSome_eq {o:Option V}{u:Option Value}(r:RelO o u):o.isSome=u.isSome:=by
 cases o with
 | none=>cases u with
  | none=>rfl
  | some _=>exact (show False from r).elim
 | some _=>cases u with
  | none=>exact (show False from r).elim
  | some _=>rfl
theorem KV.val {kvs:List (κ×V)}{vs:List (κ×Value)}(r:KV kvs vs)(k:κ):RelO (eB kvs k) (valueAt vs k):=by
 unfold KV at r
 induction r with
 | nil=>exact True.intro
 | @cons p q ps qs h t ih =>
  obtain⟨h1,h2⟩:=h
  by_cases e:p.1=k
  ·have e':q.1=k:=h1.symm.trans e
   have b:valueAt (q::qs) k=some q.2:=by simp [valueAt,List.find?_cons,e']
   rw[fP e,b];exact h2
  ·have e':¬ q.1=k:=λz=>e (h1.trans z)
   have b:valueAt (q::qs) k=valueAt qs k:=by simp [valueAt,List.find?_cons,e']
   rw[fR e,b];exact ih
theorem KV.any {kvs:List (κ×V)}{vs:List (κ×Value)}(r:KV kvs vs)(k:κ):(kvs.any λkv=>decide (kv.1=k))=vs.any λkv=>decide (kv.1=k):=by
 unfold KV at r
 induction r with
 | nil=>rfl
 | cons h t ih=>rw[List.any_cons,List.any_cons,ih,h.1]
theorem KV.repl {kvs:List (κ×V)}{vs:List (κ×Value)}(r:KV kvs vs)(k:κ){y:V}{u:Value}(ry:RelV y u) :
  KV (kvs.map λkv=>if kv.1=k then (kv.1,y) else kv) (vs.map λkv=>if kv.1=k then (kv.1,u) else kv):=by
 unfold KV at r ⊢
 induction r with
 | nil=>exact .nil
 | @cons p q ps qs h t ih =>
  rw[List.map_cons,List.map_cons];refine .cons ?_ ih;obtain⟨h1,h2⟩:=h
  by_cases e:p.1=k
  ·rw[if_pos e,if_pos (h1.symm.trans e)];exact⟨h1,ry⟩
  ·rw[if_neg e,if_neg (λz=>e (h1.trans z))];exact⟨h1,h2⟩
theorem KV.put {kvs:List (κ×V)}{vs:List (κ×Value)}(r:KV kvs vs)(k:κ){y:V}{u:Value}(ry:RelV y u):KV (im kvs k y) (stored vs k u):=by
 unfold im stored;rw[r.any k]
 by_cases e:(vs.any λkv=>decide (kv.1=k))=true
 ·rw[if_pos e,if_pos e];exact r.repl k ry
 ·rw[if_neg e,if_neg e];exact Paired.snoc r ⟨rfl,ry⟩
theorem KV.drop {kvs:List (κ×V)}{vs:List (κ×Value)}(r:KV kvs vs)(k:κ):KV (iU kvs k) (without vs k):=by
 unfold KV at r ⊢;unfold iU without
 induction r with
 | nil=>exact .nil
 | @cons p q ps qs h t ih =>
  obtain⟨h1,h2⟩:=h;rw[List.filter_cons,List.filter_cons]
  by_cases e:p.1=k
  ·have a:¬ decide (p.1≠k)=true:=by simp [e]
   have b:¬ decide (q.1≠k)=true:=by simp [h1.symm.trans e]
   rw[if_neg a,if_neg b];exact ih
  ·have e':¬ q.1=k:=λz=>e (h1.trans z)
   have a:decide (p.1≠k)=true:=by simp [e]
   have b:decide (q.1≠k)=true:=by simp [e']
   rw[if_pos a,if_pos b];exact .cons ⟨h1,h2⟩ ih
theorem KV.length {kvs:List (κ×V)}{vs:List (κ×Value)}(r:KV kvs vs):kvs.length=vs.length:=Paired.length r
theorem wr (kvs:List (κ×V))(k:κ):(iU kvs k).length<=kvs.length:=List.length_filter_le _ _
end


theorem pM {P:Program}{w:World}{k:bx}{u:Value}(r:RelV (kV k) u):(bu P w).is k u=true:=by
 cases k with
 | inl i=>obtain⟨t,e⟩:=(show ∃ t,u=Value.int i t from r);subst e;exact pD P w i t
 | inr x=>obtain⟨t,e⟩:=(show ∃ t,u=Value.str x t from r);subst e;exact pE P w x t
theorem lE {P:Program}{w:World}:∀ {ks:List bx} {us:List Value},Vals (ks.map kV) us->ItemsAre (bu P w) ks us
 | [],_,r=>by rw[List.map_nil] at r;cases r;exact .nil
 | k::ks,_,r=>by
  rw[List.map_cons] at r;cases r with
  | cons h t=>exact .cons (pM h) (lE t)

abbrev KT (H:Hp):List (List bx×V)->List (List bx×Addr×Value)->Prop:=Paired λp q=>p.1=q.1/\H q.2.1=some (.tup (p.1.map kV))/\RelV p.2 q.2.2
theorem KT.val {H:Hp}{kvs:List (List bx×V)}{xs:List (List bx×Addr×Value)}(r:KT H kvs xs)(k:List bx):RelO (eB kvs k) ((atKey xs k).map (·.2)):=by
 induction r with
 | nil=>exact True.intro
 | @cons p q ps qs h t ih =>
  obtain⟨h1,_,h2⟩:=h
  by_cases e:p.1=k
  ·have e':q.1=k:=h1.symm.trans e
   have b:atKey (q::qs) k=some q.2:=by simp [atKey,List.find?_cons,e']
   rw[fP e,b];exact h2
  ·have e':¬ q.1=k:=λz=>e (h1.trans z)
   have b:atKey (q::qs) k=atKey qs k:=by simp [atKey,List.find?_cons,e']
   rw[fR e,b];exact ih
theorem KT.repl {H:Hp}{kvs:List (List bx×V)}{xs:List (List bx×Addr×Value)}(r:KT H kvs xs)(k:List bx){y:V}{u:Value}(ry:RelV y u) :
  KT H (kvs.map λkv=>if kv.1=k then (kv.1,y) else kv) (xs.map (putAt k u)):=by
 induction r with
 | nil=>exact .nil
 | @cons p q ps qs h t ih =>
  rw[List.map_cons,List.map_cons];refine .cons ?_ ih;obtain⟨h1,h2,h3⟩:=h;unfold putAt
  by_cases e:p.1=k
  ·rw[if_pos e,if_pos (h1.symm.trans e)];exact⟨h1,h2,ry⟩
  ·rw[if_neg e,if_neg (λz=>e (h1.trans z))];exact⟨h1,h2,h3⟩
theorem KT.put {H:Hp}{kvs:List (List bx×V)}{xs:List (List bx×Addr×Value)}(r:KT H kvs xs)(k:List bx){b:Addr}{y:V}{u:Value}(hb:H b=some (.tup (k.map kV)))(ry:RelV y u) :
  KT H (im kvs k y) (storedH xs k b u):=by
 have e:(kvs.any λkv=>decide (kv.1=k))=(atKey xs k).isSome:=by
  rw[pL,(r.val k).isSome_eq,Option.isSome_map]
 unfold im storedH;rw[e]
 by_cases q:(atKey xs k).isSome=true
 ·rw[if_pos q,if_pos q];exact r.repl k ry
 ·rw[if_neg q,if_neg q];exact Paired.snoc r ⟨rfl,hb,ry⟩
theorem KT.keeps {H H':Hp}{kvs:List (List bx×V)}{xs:List (List bx×Addr×Value)}(r:KT H kvs xs)(ht:∀ b ys,H b=some (.tup ys)->H' b=some (.tup ys)):KT H' kvs xs :=
 Paired.mapP r λ_ _ z=>⟨z.1,ht _ _ z.2.1,z.2.2⟩

section
variable {P:Program}{w:World}{H:Hp}{h:Heap}{a:Addr}
theorem FD {u:HO}(ok:HOk P w H h)(e:Rd H a u):ObjOk P w H h a u:=e.ok ok
theorem lF {kvs:List (bx×V)}(ok:HOk P w H h)(e:Rd H a (.dK kvs)):kvs.length<=sizeLine/\(a==sysModules)=false/\∃ vs,KV kvs vs/\h.DictOf (bu P w) a vs :=
 show ObjOk P w H h a (.dK kvs) from FD ok e
theorem jP {kvs:List (bx×V)}(ok:HOk P w H h)(e:H a=some (.dK kvs)):kvs.length<=sizeLine/\(a==sysModules)=false/\∃ vs,KV kvs vs/\h.DictOf (bu P w) a vs:=lF ok (.inl e)
theorem nq {ks:List bx}(ok:HOk P w H h)(e:H a=some (.tup (ks.map kV))):(tupleKind (bu P w)).is h ks a:=by
 obtain⟨_,its,r,o,h1,h2,n,h3⟩:=(show ObjOk P w H h a (.tup (ks.map kV)) from ok a _ e)
 exact⟨o,its.toArray,n,h1,h2,h3,by simpa using lE r⟩
theorem pN {kvs:List (List bx×V)}(ok:HOk P w H h)(e:Rd H a (.dT kvs)):kvs.length<=sizeLine/\(a==sysModules)=false /\
  ∃ xs,KT H kvs xs/\h.DictOfH (tupleKind (bu P w)) a xs:=by
 obtain⟨z,y,xs,r,o,es,ep,h1,h2,h3,h4,h5⟩:=(show ObjOk P w H h a (.dT kvs) from FD ok e)
 refine⟨z,y,xs,r,o,es,ep,h1,h2,h3,h4,λx hx=>?_,h5⟩;have all:∀ {l:List (List bx×V)} {m:List (List bx×Addr×Value)},KT H l m->∀ x∈m,(tupleKind (bu P w)).is h x.1 x.2.1:=by
  intro l m q
  induction q with
  | nil=>intro x hx;exact nomatch hx
  | @cons p q ps qs hq t ih =>
   intro x hx;rcases List.mem_cons.mp hx with e|hx
   ·subst e
    exact nq ok (by rw[<- hq.1];exact hq.2.1)
   ·exact ih x hx
 exact all r x hx
theorem Qg {kvs:List (List bx×V)}(ok:HOk P w H h)(e:H a=some (.dT kvs)):kvs.length<=sizeLine/\(a==sysModules)=false /\
  ∃ xs,KT H kvs xs/\h.DictOfH (tupleKind (bu P w)) a xs:=pN ok (.inl e)
end

def DGet (H:Hp)(a:Addr)(y:V)(r:Option V):Prop :=
 (∃ kvs k,Rd H a (.dK kvs)/\y=kV k/\r=eB kvs k)\/∃ kvs k b,Rd H a (.dT kvs)/\y=.ref b/\H b=some (.tup (k.map kV))/\r=eB kvs k
def DPut (H:Hp)(a:Addr)(y v:V)(H':Hp):Prop :=
 (∃ kvs k,H a=some (.dK kvs)/\y=kV k/\kvs.length < sizeLine/\H'=bj H a (.dK (im kvs k v))) \/
 ∃ kvs k b,H a=some (.dT kvs)/\y=.ref b/\H b=some (.tup (k.map kV))/\kvs.length < sizeLine/\H'=bj H a (.dT (im kvs k v))
theorem DGet.k {H:Hp}{a:Addr}{kvs:List (bx×V)}{k:bx}(e:H a=some (.dK kvs)):DGet H a (kV k) (eB kvs k):=.inl ⟨kvs,k,.inl e,rfl,rfl⟩
theorem DPut.k {H:Hp}{a:Addr}{kvs:List (bx×V)}{k:bx}{v:V}(e:H a=some (.dK kvs))(hl:kvs.length < sizeLine):DPut H a (kV k) v (bj H a (.dK (im kvs k v))):=.inl ⟨kvs,k,e,rfl,hl,rfl⟩
section
variable {X:Cx}{pins:List (Addr×Obj)}{σ:St}{H:Hp}{s:Shared}{a:Addr}{y v:V}{u r:Value}{o:Option V}{A:Around}{E:Value->Shared->Prop}

theorem Inv.big (I:Inv X pins σ H s):sysModules < s.heap.objs.size:=by
 have h:mainGlobals < s.heap.objs.size:=(I.mod.glob.keeps I.bk).lt;exact Nat.lt_trans (by decide) h

theorem vf {Q:Value->Shared->Prop}(hu:A.units+1 < cLine)(I:Inv X pins σ H s)(g:DGet H a y (some v))(ry:RelV y u)(h:∀ w' s',Inv X pins σ H s'->RelV v w'->Q w' s') :
  wpAny (model X.prog X.w) A (getItem (.ref a) u) Q E s:=by
 rcases g with ⟨kvs,k,e,ey,l⟩|⟨kvs,k,b,e,ey,eb,l⟩
 ·subst ey
  obtain⟨z,hd,vs,rel,dd⟩:=lF I.hok e;obtain⟨w',hw,rw'⟩:=RelO.some_of (v:=v) (o:=valueAt vs k) (by rw[l];exact rel.val k)
  exact wpAny_getItem_of (pM ry) dd.mapOf hw (h w' _ (I.tok _) rw')
 ·subst ey
  cases (show u=Value.ref b from ry)
  obtain⟨z,hd,xs,rel,dd⟩:=pN I.hok e;obtain⟨w',hw,rw'⟩:=RelO.some_of (v:=v) (o:=(atKey xs k).map (·.2)) (by rw[l];exact rel.val k)
  obtain⟨p,hp,hp2⟩:=Option.map_eq_some_iff.mp hw;refine wpAny_getItem_heap (tupleKind_room_in1 hu) (nq I.hok eb) dd hp ?_;rw[hp2];exact h w' _ (I.tok _) rw'
theorem DJ {Q:Value->Shared->Prop}(hu:A.units+1 < cLine)(I:Inv X pins σ H s)(g:DGet H a y o)(ry:RelV y u)(h:∀ s',Inv X pins σ H s'->Q (.bool (!o.isSome)) s') :
  wpAny (model X.prog X.w) A (compareOp .NotIn u (.ref a)) Q E s:=by
 rcases g with ⟨kvs,k,e,ey,l⟩|⟨kvs,k,b,e,ey,eb,l⟩
 ·subst ey
  obtain⟨z,hd,vs,rel,dd⟩:=lF I.hok e;refine wpAny_notIn_of (pM ry) hd dd.mapOf ?_;rw[<- (rel.val k).isSome_eq,<- l];exact h _ (I.tok _)
 ·subst ey
  cases (show u=Value.ref b from ry)
  obtain⟨z,hd,xs,rel,dd⟩:=pN I.hok e;refine wpAny_notIn_heap (tupleKind_room_in1 hu) (nq I.hok eb) hd dd ?_;have q:=(rel.val k).isSome_eq;rw[Option.isSome_map] at q;rw[<- q,<- l];exact h _ (I.tok _)
theorem nr {h':Heap}{t':Nat}{ob:HO}(I:Inv X pins σ H s)(mu:Pr (H a))(hs:Heap.SameBut a s.heap h')(he:∃ q,h'.get? a=some q)(new:ObjOk X.prog X.w (bj H a ob) h' a ob) :
  Inv X pins σ (bj H a ob) { s with heap:=h',toks:=t' } :=
 I.write (x:=a) (e:=a) mu (.inl rfl) (λb q hb z=>(hs.2 b hb).trans z) he new
theorem wt {P:Program}{w:World}{H':Hp}{h':Heap}{kvs:List (bx×V)}{vs:List (bx×Value)}(z:kvs.length<=sizeLine)(hd:(a==sysModules)=false)(rel:KV kvs vs)(dd:h'.DictOf (bu P w) a vs) :
  ObjOk P w H' h' a (.dK kvs):=⟨z,hd,vs,rel,dd⟩
theorem vg {H':Hp}{Q:Unit->Shared->Prop}(hu:A.units+1 < cLine)(I:Inv X pins σ H s)(g:DPut H a y v H')(ry:RelV y u)(rv:RelV v r)(h:∀ s',Inv X pins σ H' s'->Q () s') :
  wpAny (model X.prog X.w) A (setItem (.ref a) u r) Q E s:=by
 rcases g with ⟨kvs,k,e,ey,l,eH⟩|⟨kvs,k,b,e,ey,eb,l,eH⟩
 ·subst ey eH
  obtain⟨z,hd,vs,rel,dd⟩:=jP I.hok e;have hz:vs.length<=sizeLine:=by rw[<- rel.length];exact z
  have hl:(im kvs k v).length<=sizeLine:=by have:=iV kvs k v;omega
  refine wpAny_setItem_pairs (hsz:=hz) (pM ry) dd λh' dd' hs=>h _ ?_;have he:∃ q,h'.get? a=some q:=let ⟨q,_,_,hq,_⟩:=dd';⟨q,hq⟩;exact nr I (by rw[e];exact True.intro) hs he (wt hl hd (rel.put k rv) dd')
 ·subst ey eH
  cases (show u=Value.ref b from ry)
  obtain⟨z,hd,xs,rel,dd⟩:=Qg I.hok e;have hz:xs.length<=sizeLine:=by rw[<- Paired.length rel];exact z
  have hl:(im kvs k v).length<=sizeLine:=by have:=iV kvs k v;omega
  refine wpAny_setItem_heap (hsz:=hz) (tupleKind_room_in1 hu) (nq I.hok eb) dd λh' dd' hs=>h _ ?_;obtain⟨q,es,ep,hq,h2,h3,h4,_,h5⟩:=dd';refine nr I (by rw[e];exact True.intro) hs ⟨q,hq⟩ ⟨hl,hd,_,(rel.put k eb rv).keeps λc ys ec=>?_,q,es,ep,hq,h2,h3,h4,h5⟩
  rw[ah (dr ec e (λz=>nomatch z))];exact ec
end

section
variable {X:Cx}{pins:List (Addr×Obj)}{σ:St}{H:Hp}{s:Shared}{a:Addr}{kvs:List (bx×V)}{k:bx}{u:Value}{A:Around}{E:Value->Shared->Prop}
theorem Qh {v:V}{more:List Value}{Q:Value->Shared->Prop}(I:Inv X pins σ H s)(e:H a=some (.dK kvs))(ry:RelV (kV k) u)(l:eB kvs k=some v)(hm:more=[]\/∃ x,more=[x])
  (h:∀ w' s',Inv X pins σ (bj H a (.dK (iU kvs k))) s'->RelV v w'->Q w' s'):wpAny (model X.prog X.w) A (call (.builtin "dict.pop") (.ref a::u::more)) Q E s:=by
 obtain⟨z,hd,vs,rel,dd⟩:=jP I.hok e;obtain⟨w',hw,rw'⟩:=RelO.some_of (v:=v) (o:=valueAt vs k) (by rw[<- l];exact rel.val k)
 have hp:(keyPart u).isSome=true:=by
  cases k with
  | inl i=>obtain⟨t,q⟩:=(show ∃ t,u=Value.int i t from ry);subst q;rfl
  | inr x=>obtain⟨t,q⟩:=(show ∃ t,u=Value.str x t from ry);subst q;rfl
 have ha:argsOk "dict.pop" ⟨.ref a::u::more,[]⟩:=by
  rcases hm with q|⟨x,q⟩
  ·subst q;exact PySem.F.args_dict_pop_2 _ _
  ·subst q;exact PySem.F.args_dict_pop_3 _ _ _
 refine call_meetsIn PySem.F.slot_dict_pop dd.typeIs PySem.F.entry_dict_pop ha (meets_dict_pop_there (bu X.prog X.w) a (pM ry) more hm hp)
  ⟨vs,w',dd,by rw[<- rel.length];exact z,hw,λh' dd' hs=>h w' _ ?_ rw'⟩
 have he:∃ q,h'.get? a=some q:=let ⟨q,_,_,hq,_⟩:=dd';⟨q,hq⟩;exact nr I (by rw[e];exact True.intro) hs he (wt (Nat.le_trans (wr kvs k) z) hd (rel.drop k) dd')
theorem Qi {Q:Value->Shared->Prop}(I:Inv X pins σ H s)(e:Rd H a (.dK kvs))(h:∀ t s',Inv X pins σ H s'->Q (.int kvs.length t) s'):wpAny (model X.prog X.w) A (call (.builtin "len") [.ref a]) Q E s:=by
 obtain⟨z,hd,vs,rel,dd⟩:=lF I.hok e;refine call_len_dict hd dd (by rw[<- rel.length];rw[sizeLine_eq] at z;omega) ?_
 rw[<- rel.length];exact h _ _ (I.tok _)
end


def Hm (i:Expr):Prop:=∀ ov iv,subscripted i false ov iv=operate [ov,iv] (getItem ov iv)
theorem DK {prog:Program}{w:World}{A:Around}{E:Value->Shared->Prop}{s:Shared}{env:Env}{value slice:Expr}{pos:Pos}{T id:String}{Q:Value->Shared->Prop}
  (hl:typeLookup (.type T) "__getitem__"=pure (some (.builtin id))) (hs:Hm slice)
  (h:wpAny (model prog w) A (eval value env) (λo s₁=>wpAny (model prog w) A (eval slice env) (λi s₂=>s₂.TypeIs o T/\wpAny (model prog w) A (getItem o i) Q E s₂) E s₁) E s) :
  wpAny (model prog w) A (eval (.Subscript value slice pos) env) Q E s:=by
 refine Subscript_ (wpAny_mono h (λo s₁ h₁=>wpAny_mono h₁ (λi s₂ h₂=>?_) λ_ _ x=>x) λ_ _ x=>x);obtain⟨hT,h₂⟩:=h₂;unfold subscriptTail;refine wpAny_bind ?_;rw[getitemInPython_of_ne hT.not_modules];refine wpAny_bind (wpAny_specialOf hT hl ?_);have fin:wpAny (model prog w) A (subscripted slice false o i) (λr s₃=>wpAny (model prog w) A (letTemporaryGo value o r >>= λ_=>pure r) Q E s₃) E s₂:=by
  rw[hs o i];exact wpAny_operating (wpAny_mono h₂ (λr s₃ h₃=>wpAny_bind (wpAny_letTemporaryGo (wpAny_pure h₃))) λ_ _ x=>x)
 first
  | exact wpAny_pure (wpAny_bind fin)
  | exact wpAny_bind (wpAny_pure (wpAny_bind fin))
  | exact wpAny_bind fin

theorem pO {X:Cx}{pins:List (Addr×Obj)}{σ:St}{H:Hp}{s:Shared}{a:Addr}{y:V}{o:Option V}(I:Inv X pins σ H s)(g:DGet H a y o):s.TypeIs (.ref a) "dict":=by
 rcases g with ⟨kvs,k,e,_,_⟩|⟨kvs,k,b,e,_,_,_⟩
 ·obtain⟨_,_,vs,_,dd⟩:=lF I.hok e
  exact dd.typeIs
 ·obtain⟨_,_,xs,_,dd⟩:=pN I.hok e
  exact dd.typeIs
def Qj (td ty:TE):TE:=λσ H Q=>td σ H λx H1=>ty σ H1 λy H2=>∃ a v,x=.ref a/\DGet H2 a y (some v)/\Q v H2
def Qk (td ty tv:TE):TS:=λD σ H=>tv σ H λv H1=>td σ H1 λx H2=>ty σ H2 λy H3=>∃ a H4,x=.ref a/\DPut H3 a y v H4/\D.nx σ H4
section
variable {X:Cx}{o i e value:Expr}{pos pos' tpos:Pos}{td ty tv:TE}
theorem DL (hu:X.A.units+1 < cLine)(ho:PE X o td)(hi:PE X i ty)(hs:Hm i):PE X (.Subscript o i pos) (Qj td ty):=by
 intro pins s σ H Q I h;refine DK PySem.F.slot_dict_getitem.lookup hs (bG (ho pins s σ H _ I h) λu s1 ⟨x,H1,I1,rx,q1⟩=>bG (hi pins s1 σ H1 _ I1 q1) λiv s2 ⟨y,H2,I2,ry,a,v,ex,g,q2⟩=>?_);subst ex;obtain rfl:u=Value.ref a:=rx;exact⟨pO I2 g,vf hu I2 g ry λw' s3 I3 rw'=>⟨v,H2,I3,rw',q2⟩⟩
theorem tH (hu:X.A.units+1 < cLine)(ho:PE X o td)(hi:PE X i ty)(hv:PE X value tv)(hs:swapsWith value (some (.Subscript o i pos')) pos.line X.env=pure false) :
  PS X (.Assign [.Subscript o i pos'] value pos) (Qk td ty tv):=by
 intro pins s σ H D I h;refine wpAny_Assign_Subscript (bG (hv pins s σ H _ I h) λr s1 ⟨v,H1,I1,rv,q1⟩=>bG (ho pins s1 σ H1 _ I1 q1) λu s2 ⟨x,H2,I2,rx,q2⟩=>bG (hi pins s2 σ H2 _ I2 q2) λiv s3 ⟨y,H3,I3,ry,a,H4,ex,g,q3⟩=>?_) hs;subst ex;obtain rfl:u=Value.ref a:=rx;exact vg hu I3 g ry rv λs4 I4=>⟨σ,H4,I4,q3⟩
end


theorem wu {P:Program}{w:World}{H:Hp}(h:Heap)(hb:sysModules < h.objs.size):ObjOk P w H (h.push { cls:=.type "dict",data:=.dict #[] }) h.objs.size (.dK []) :=
 ⟨Nat.zero_le _,beq_eq_false_iff_ne.mpr (Ne.symm (Nat.ne_of_lt hb)),[],.nil,Heap.DictOf.new h⟩
def wv:TE:=λ_ H Q=>∀ p,H p=none->Q (.ref p) (bj H p (.dK []))
section
variable {X:Cx}{pos:Pos}
theorem fS:PE X (.Dict [] [] pos) wv:=λpins s σ H Q I h =>
 wpAny_Dict_empty ⟨.ref s.heap.objs.size,_,I.laid (a:=s.heap.objs.size) (o:=.dK []) (t':=s.toks) (λ_ _ q=>Heap.get?_push_of_some _ q) (Nat.le_refl _) (wu s.heap I.big),rfl,h _ (I.hok.fresh (Nat.le_refl _))⟩
end

def nu:List (TE×TE)->St->Hp->(List (V×V)->Hp->Prop)->Prop
 | [],_,H,Q=>Q [] H
 | (tk,tv)::r,σ,H,Q=>tk σ H λx H1=>tv σ H1 λy H2=>nu r σ H2 λps H3=>Q ((x,y)::ps) H3
structure M1 (X:Cx)(o:Expr)(m:Str)(apos:Pos)(e:Expr)(cpos:Pos):Prop where
 base:attributeBase o m X.env (eval o X.env)=eval o X.env
 few:((backTo cpos (starEach [e] X.env)).all (λx=>!x.1)&&(backToKw cpos (keywordEach [] X.env)).all (λx=>x.1.isSome)
 &&decide (([e]:List Expr).length+([]:List Keyword).length+(if ([]:List Keyword).isEmpty then 0 else 1) < 30))=true
 line:(apos.endLine==cpos.line)=true
 trees:backTo cpos (starEach [e] X.env)=[(false,eval e X.env)]
def VG (H:Hp)(a:Addr):Prop:=(∃ kvs,Rd H a (.dK kvs))\/∃ kvs,Rd H a (.dT kvs)
theorem Hn {X:Cx}{pins:List (Addr×Obj)}{σ:St}{H:Hp}{s:Shared}{a:Addr}(I:Inv X pins σ H s)(d:VG H a) :
  s.TypeIs (.ref a) "dict"/\(∀ b,Value.ref a=.ref b->∃ ob,s.heap.get? b=some ob/\ob.dict=none)/\(a==sysModules)=false:=by
 rcases d with ⟨kvs,e⟩|⟨kvs,e⟩
 ·obtain⟨_,hd,vs,_,dd⟩:=lF I.hok e
  refine⟨dd.typeIs,λb q=>?_,hd⟩;cases q;obtain⟨ob,_,_,h1,h2,_⟩:=dd;exact⟨ob,h1,h2.2.1⟩
 ·obtain⟨_,hd,xs,_,dd⟩:=pN I.hok e
  refine⟨dd.typeIs,λb q=>?_,hd⟩;cases q;obtain⟨ob,_,_,h1,h2,_⟩:=dd;exact⟨ob,h1,h2.2.1⟩

section
variable {X:Cx}{pins:List (Addr×Obj)}{σ:St}{H:Hp}{s:Shared}{a:Addr}{y d:V}{u r:Value}{o:Option V}{A:Around}{E:Value->Shared->Prop}
end

def Ho (td ty:TE):TE:=λσ H Q=>td σ H λx H1=>∃ a,x=.ref a/\VG H1 a/\ty σ H1 λy H2=>∃ kvs k v,H2 a=some (.dK kvs)/\y=kV k/\eB kvs k=some v/\Q v (bj H2 a (.dK (iU kvs k)))
section
variable {X:Cx}{o e f:Expr}{apos cpos:Pos}{td ty tx:TE}
theorem pP (ho:PE X o td)(he:PE X e ty)(m:M1 X o "pop" apos e cpos):PE X (.Call (.Attribute o "pop" apos) [e] [] cpos) (Ho td ty):=by
 intro pins s σ H Q I h;refine wpAny_Call_method m.base m.few m.line PySem.F.plainAttrs_dict PySem.F.slot_dict_pop PySem.F.type_dict_pop (bG (ho pins s σ H _ I h) λu s1 ⟨x,H1,I1,rx,a,ex,d,q1⟩=>?_);subst ex;obtain rfl:u=Value.ref a:=rx;obtain⟨t1,t2,_⟩:=Hn I1 d;refine⟨t1,t2,?_⟩;rw[m.trees];refine Calls.callWith_builtin rfl (Calls.evalArgs_plain (Calls.spliced_cons (bG (he pins s1 σ H1 _ I1 q1) λiv s2 ⟨y,H2,I2,ry,kvs,k,v,ea,ey,l,q2⟩=>Calls.spliced_nil ?_)));subst ey;exact Qh I2 ea ry l (.inl rfl) λw' s3 I3 rw'=>⟨v,_,I3,rw',q2⟩
end

section
variable {X:Cx}{pins:List (Addr×Obj)}{σ:St}{H:Hp}{s:Shared}{a:Addr}{kvs:List (bx×V)}{A:Around}{E:Value->Shared->Prop}
end


section
variable {X:Cx}{pins:List (Addr×Obj)}{σ:St}{H:Hp}{s:Shared}{a:Addr}{y:V}{u:Value}{A:Around}{E:Value->Shared->Prop}
end
end L2


namespace Vc
open PySem L2

class KF where
 K:PySem.W.Frag
 /-- where the classes of exceptions stand -/
 cls:Str->Addr:=λ_=>0
 /-- the code tables that a lambda fills: where,as they were,the lambda's place,its name -/
 tabs:List (Addr×Array Value×Pos×Str):=[]
variable [KF]
inductive D where
 | non|bl (b:Bool)|int (i:Int)|str (x:Str)|tup (xs:List D)|lst (xs:List D)|dct (kvs:List (D×D))|exc (c:Str)
 /-- the law's own list: read,never changed -/
 | scr (ns:List Int)
 /-- a dict with whole numbers for keys -/
 | dci (kvs:List (Int×D))
 /-- kept points: the word,the count,the next name,the points by their names -/
 | kp (w:Str) (c e:Int) (kvs:List (Int×D))

def UG (a:Addr)(c:Str):HO:=.ext λh=>∃ o,h.get? a=some o/\o.cls=.ref (KF.cls c)
def kD:bx->D
 | .inl i=>.int i
 | .inr x=>.str x
def Dg (w:Str)(c e:Int)(ad:Addr):List (Str×V):=[("way",.str w),("count",.int c),("points_by_name",.ref ad),("ever_put",.int e)]
mutual
inductive Rep (F:Hp):V->D->Prop where
 | non:Rep F .non .non
 | bl (b:Bool):Rep F (.bl b) (.bl b)
 | int (i:Int):Rep F (.int i) (.int i)
 | str (x:Str):Rep F (.str x) (.str x)
 | tup {a:Addr} {vs:List V} {ds:List D}:F a=some (.tup vs)->RepL F vs ds->Rep F (.ref a) (.tup ds)
 | lst {a:Addr} {vs:List V} {ds:List D}:Rd F a (.lst vs)->RepL F vs ds->Rep F (.ref a) (.lst ds)
 | scr {a:Addr} {ns:List Int}:SqL KF.K F a (ns.map V.int)->Rep F (.ref a) (.scr ns)
 | exc {a:Addr} {c:Str}:F a=some (UG a c)->Rep F (.ref a) (.exc c)
 | dctT {a:Addr} {ks:List (List bx×V)} {kvs:List (D×D)}:F a=some (.dT ks)->RepT F ks kvs->Rep F (.ref a) (.dct kvs)
 | dci {a:Addr} {ks:List (bx×V)} {kvs:List (Int×D)}:F a=some (.dK ks)->RepI F ks kvs->Rep F (.ref a) (.dci kvs)
 | kp {a dx ad:Addr} {w:Str} {c e:Int} {ks:List (bx×V)} {kvs:List (Int×D)}:F a=some (.ins (KF.cls "Kept") dx (Dg w c e ad))->F ad=some (.dK ks)->RepI F ks kvs->Rep F (.ref a) (.kp w c e kvs)
inductive RepI (F:Hp):List (bx×V)->List (Int×D)->Prop where
 | nil:RepI F [] []
 | cons {i:Int} {v:V} {d:D} {ks:List (bx×V)} {kvs:List (Int×D)}:Rep F v d->RepI F ks kvs->RepI F ((.inl i,v)::ks) ((i,d)::kvs)
inductive RepK (F:Hp):List (bx×V)->List (D×D)->Prop where
 | nil:RepK F [] []
 | cons {k:bx} {v:V} {d:D} {ks:List (bx×V)} {kvs:List (D×D)}:Rep F v d->RepK F ks kvs->RepK F ((k,v)::ks) ((kD k,d)::kvs)
inductive RepT (F:Hp):List (List bx×V)->List (D×D)->Prop where
 | nil:RepT F [] []
 | cons {k:List bx} {v:V} {d:D} {ks:List (List bx×V)} {kvs:List (D×D)}:Rep F v d->RepT F ks kvs->RepT F ((k,v)::ks) ((.tup (k.map kD),d)::kvs)
inductive RepL (F:Hp):List V->List D->Prop where
 | nil:RepL F [] []
 | cons {v:V} {d:D} {vs:List V} {ds:List D}:Rep F v d->RepL F vs ds->RepL F (v::vs) (d::ds)
end

theorem Rd.mono {F F':Hp}(s:Same F F'){a:Addr}{u:HO}(h:Rd F a u):Rd F' a u:=by
 rcases h with h|⟨o,h⟩
 ·exact .inl (s a _ h)
 ·exact .inr ⟨o,s a _ h⟩
mutual
theorem Rep.mono {F F':Hp}(s:Same F F'){v:V}{d:D}:Rep F v d->Rep F' v d
 | .non=>.non
 | .bl b=>.bl b
 | .int i=>.int i
 | .str x=>.str x
 | .tup h r=>.tup (s _ _ h) (RepL.mono s r)
 | .lst h r=>.lst (Rd.mono s h) (RepL.mono s r)
 | .scr h=>.scr (s.seq h)
 | .exc h=>.exc (s _ _ h)
 | .dctT h r=>.dctT (s _ _ h) (RepT.mono s r)
 | .dci h r=>.dci (s _ _ h) (RepI.mono s r)
 | .kp h1 h2 r=>.kp (s _ _ h1) (s _ _ h2) (RepI.mono s r)
theorem RepI.mono {F F':Hp}(s:Same F F'){ks:List (bx×V)}{kvs:List (Int×D)}:RepI F ks kvs->RepI F' ks kvs
 | .nil=>.nil
 | .cons h r=>.cons (Rep.mono s h) (RepI.mono s r)
theorem RepK.mono {F F':Hp}(s:Same F F'){ks:List (bx×V)}{kvs:List (D×D)}:RepK F ks kvs->RepK F' ks kvs
 | .nil=>.nil
 | .cons h r=>.cons (Rep.mono s h) (RepK.mono s r)
theorem RepT.mono {F F':Hp}(s:Same F F'){ks:List (List bx×V)}{kvs:List (D×D)}:RepT F ks kvs->RepT F' ks kvs
 | .nil=>.nil
 | .cons h r=>.cons (Rep.mono s h) (RepT.mono s r)
theorem RepL.mono {F F':Hp}(s:Same F F'){vs:List V}{ds:List D}:RepL F vs ds->RepL F' vs ds
 | .nil=>.nil
 | .cons h r=>.cons (Rep.mono s h) (RepL.mono s r)
end
theorem RepL.length {F:Hp}:∀ {vs:List V} {ds:List D},RepL F vs ds->vs.length=ds.length
 | _,_,.nil=>rfl
 | _,_,.cons _ r=>by simp [RepL.length r]
theorem RepL.append {F:Hp}:∀ {vs ws:List V} {ds es:List D},RepL F vs ds->RepL F ws es->RepL F (vs++ws) (ds++es)
 | _,_,_,_,.nil,s=>s
 | _,_,_,_,.cons h r,s=>.cons h (RepL.append r s)
theorem RepL.get {F:Hp}:∀ {vs:List V} {ds:List D} {i:Nat} {d:D},RepL F vs ds->ds[i]?=some d->∃ v,vs[i]?=some v/\Rep F v d
 | _,_,_,_,.nil,e=>by simp at e
 | _,_,0,_,.cons h _,e=>by simp at e;subst e;exact⟨_,by simp,h⟩
 | _,_,i+1,_,.cons _ r,e=>by
  obtain⟨v,h1,h2⟩:=RepL.get (i:=i) r (by simpa using e)
  exact⟨v,by simpa using h1,h2⟩
theorem RepL.get' {F:Hp}:∀ {vs:List V} {ds:List D} {i:Nat} {v:V},RepL F vs ds->vs[i]?=some v->∃ d,ds[i]?=some d/\Rep F v d
 | _,_,_,_,.nil,e=>by simp at e
 | _,_,0,_,.cons h _,e=>by simp at e;subst e;exact⟨_,by simp,h⟩
 | _,_,i+1,_,.cons _ r,e=>by
  obtain⟨v,h1,h2⟩:=RepL.get' (i:=i) r (by simpa using e)
  exact⟨v,by simpa using h1,h2⟩
theorem RepL.set {F:Hp}{v:V}{d:D}(h:Rep F v d):∀ {vs:List V} {ds:List D} (i:Nat),RepL F vs ds->RepL F (vs.set i v) (ds.set i d)
 | _,_,_,.nil=>.nil
 | _,_,0,.cons _ t=>.cons h t
 | _,_,i+1,.cons q t=>.cons q (RepL.set h i t)
theorem RepL.take {F:Hp}:∀ {vs:List V} {ds:List D} (n:Nat),RepL F vs ds->RepL F (vs.take n) (ds.take n)
 | _,_,0,_=>.nil
 | _,_,_+1,.nil=>.nil
 | _,_,n+1,.cons h r=>.cons h (RepL.take n r)
theorem RepL.drop {F:Hp}:∀ {vs:List V} {ds:List D} (n:Nat),RepL F vs ds->RepL F (vs.drop n) (ds.drop n)
 | _,_,0,r=>r
 | _,_,_+1,.nil=>.nil
 | _,_,n+1,.cons _ r=>RepL.drop n r
theorem RepL.rep {F:Hp}{vs:List V}{ds:List D}(r:RepL F vs ds):∀ n:Nat,RepL F (List.replicate n vs).flatten (List.replicate n ds).flatten
 | 0=>.nil
 | n+1=>by
  rw[List.replicate_succ,List.replicate_succ,List.flatten_cons,List.flatten_cons];exact r.append (RepL.rep r n)

def RepH (F H:Hp)(v:V)(d:D):Prop:=match d with
 | .lst xs=>∃ a vs,v=.ref a/\Rd H a (.lst vs)/\RepL F vs xs
 | .dci kvs=>∃ a ks,v=.ref a/\H a=some (.dK ks)/\RepI F ks kvs
 | .kp w c e kvs=>∃ a dx ad ks,v=.ref a/\H a=some (.ins (KF.cls "Kept") dx (Dg w c e ad))/\H ad=some (.dK ks)/\RepI F ks kvs
 | d=>Rep F v d
theorem ay {H:Hp}{p:Addr}{o:HO}(h:H p=none):Same H (bj H p o):=λb u e=>by
 rw[ah (aG e h)];exact e
theorem fE {F H:Hp}(s:Same F H){a:Addr}{o:HO}(e:H a=some o):∃ F',Same F F'/\Same F' H/\F' a=some o/\∀ c u,F' c=some u->F c=some u\/(c=a/\u=o):=by
 cases ef:F a with
 | none =>
  refine⟨bj F a o,ay ef,λb u q=>?_,ao,λc u q=>?_⟩
  ·by_cases hb:b=a
   ·subst hb;rw[ao] at q;cases q;exact e
   ·rw[ah hb] at q;exact s b u q
  ·by_cases hb:c=a
   ·subst hb;rw[ao] at q;cases q;exact .inr ⟨rfl,rfl⟩
   ·rw[ah hb] at q;exact .inl q
 | some u =>
  have:=s a u ef;rw[e] at this;cases this;exact⟨F,Same.refl _,s,ef,λ_ _ z=>.inl z⟩
def dl:HO->Bool
 | .dK _=>true
 | .ins _ _ _=>true
 | _=>false
structure O where
 fp:Addr->List Addr
 rep:Hp->Hp->Addr->Prop
 self:∀ a,a∈fp a
 solid:∀ {F H:Hp} {a b:Addr} {φ:Heap->Prop},rep F H a->b∈fp a->H b≠some (.ext φ)
 nt:∀ {F H:Hp} {a b:Addr} {vs:List V},rep F H a->b∈fp a->H b≠some (.tup vs)
 mono:∀ {F F' H H':Hp} {a:Addr},Same F F'->(∀ b∈fp a,H' b=H b)->rep F H a->rep F' H' a
 /-- what it is as data,where it is that -/
 view:Option D:=none
 sees:∀ {F H:Hp} {a:Addr} {d:D},rep F H a->view=some d->RepH F H (.ref a) d:=by intro _ _ _ _ _ e;cases e
 lend:∀ {F H:Hp} {a:Addr} {d:D},Same F H->rep F H a->view=some d->∃ F',Same F F'/\Same F' H/\Rep F' (.ref a) d/\∀ c u,F' c=some u->F c=some u\/(dl u=true/\c∈fp a):=by intro _ _ _ _ _ _ e;cases e
 /-- where it stands -/
 loc:Option Addr:=none
 locd:∀ {F H:Hp} {a b:Addr},rep F H a->loc=some b->a=b:=by intro _ _ _ _ _ e;cases e
inductive B where
 | sh (d:D)
 | own (xs:List D)
 | obj (o:O)
abbrev Sd:=List (Option B)
structure Dyn where
 H0:Hp
 F0:Hp
 io:List (Nat×Addr)
 /-- the addresses of things that were handed in to be changed -/
 ob:List Addr
def Dyn.ioL (Y:Dyn):List Addr:=Y.io.map (·.2)
def Dyn.ioA (Y:Dyn):List Addr:=Y.io.map (·.2)++Y.ob
theorem Dyn.ioL_sub {Y:Dyn}{a:Addr}(h:a∉Y.ioA):a∉Y.ioL:=λz=>h (List.mem_append_left _ z)
def fw (σd:Sd)(σ:St)(b:Addr):Prop:=∃ (i:Nat) (o:O) (a:Addr),σd[i]?=some (some (.obj o))/\σ[i]?=some (some (.ref a))/\b∈o.fp a
def TabsIn (F:Hp):Prop:=∀ q∈KF.tabs,F q.1=some (.lam q.2.1 q.2.2.1 q.2.2.2)
theorem TabsIn.mono {F F':Hp}(h:TabsIn F)(s:Same F F'):TabsIn F':=λq hq=>s _ _ (h q hq)
def iW (F H:Hp):Prop:=Same F H/\TabsIn F
structure Obs (Y:Dyn)(F:Hp)(σd:Sd)(σ:St)(H:Hp):Prop where
 obj:∀ (i:Nat) (o:O),σd[i]?=some (some (.obj o))->∃ a,σ[i]?=some (some (.ref a))/\o.rep F H a/\∀ b∈o.fp a,F b=none/\H b≠none/\(Y.H0 b=none\/b∈Y.ob)
 dso:∀ (i j:Nat) (o p:O) (a b:Addr),σd[i]?=some (some (.obj o))->σd[j]?=some (some (.obj p))->σ[i]?=some (some (.ref a))->σ[j]?=some (some (.ref b))->i≠j->∀ c∈o.fp a,c∉p.fp b
 dsx:∀ (j:Nat) (xs:List D) (b:Addr),σd[j]?=some (some (.own xs))->σ[j]?=some (some (.ref b))->¬ fw σd σ b
 there:∀ b∈Y.ob,H b≠none
 thz:∀ b∈Y.ob,Y.H0 b≠none
 tab:TabsIn F
theorem Obs.owned {Y:Dyn}{F:Hp}{σd:Sd}{σ:St}{H:Hp}(X:Obs Y F σd σ H){b:Addr}(h:fw σd σ b):F b=none/\H b≠none/\(Y.H0 b=none\/b∈Y.ob):=by
 obtain⟨i,o,a,e1,e2,hb⟩:=h;obtain⟨a',e3,_,h3⟩:=X.obj i o e1;rw[e2] at e3;cases e3;exact h3 b hb
theorem Obs.notup {Y:Dyn}{F:Hp}{σd:Sd}{σ:St}{H:Hp}(X:Obs Y F σd σ H){b:Addr}(h:fw σd σ b){vs:List V}:H b≠some (.tup vs):=by
 obtain⟨i,o,a,e1,e2,hb⟩:=h;obtain⟨a',e3,h2,_⟩:=X.obj i o e1;rw[e2] at e3;cases e3;exact o.nt h2 hb
theorem Obs.step {Y Y':Dyn}{F F':Hp}{σd σd':Sd}{σ σ':St}{H H':Hp}(X:Obs Y F σd σ H)(hs:Same F F')
  (hσ:∀ (i:Nat) (o:O),σd'[i]?=some (some (.obj o))->σd[i]?=some (some (.obj o))/\σ'[i]?=σ[i]?)
  (hb:∀ b,fw σd σ b->H' b=H b/\F' b=none/\(Y'.H0 b=none\/b∈Y'.ob))
  (hown:∀ (j:Nat) (ys:List D) (b:Addr),σd'[j]?=some (some (.own ys))->σ'[j]?=some (some (.ref b))->¬ fw σd σ b)
  (hth:∀ b∈Y'.ob,H' b≠none) (hz:∀ b∈Y'.ob,b∈Y.ob/\(Y.H0 b≠none->Y'.H0 b≠none):=by exact λb hb=>⟨hb,id⟩):Obs Y' F' σd' σ' H' where
 obj:=λi o e=>by
  obtain⟨e1,e2⟩:=hσ i o e;obtain⟨a,h1,h2,h3⟩:=X.obj i o e1;have ow:∀ b∈o.fp a,fw σd σ b:=λb z=>⟨i,o,a,e1,h1,z⟩;refine⟨a,by rw[e2];exact h1,o.mono hs (λb z=>(hb b (ow b z)).1) h2,λb z=>⟨(hb b (ow b z)).2.1,?_,(hb b (ow b z)).2.2⟩⟩
  rw[(hb b (ow b z)).1];exact (h3 b z).2.1
 dso:=λi j o p a b e1 e2 e3 e4=>by
  obtain⟨q1,q2⟩:=hσ i o e1;obtain⟨q3,q4⟩:=hσ j p e2;rw[q2] at e3;rw[q4] at e4;exact X.dso i j o p a b q1 q3 e3 e4
 dsx:=λj xs b e1 e2 ⟨i,o,a,e3,e4,hm⟩=>by
  obtain⟨q1,q2⟩:=hσ i o e3;rw[q2] at e4;exact hown j xs b e1 e2 ⟨i,o,a,q1,e4,hm⟩
 there:=hth
 thz:=λb hb=>(hz b hb).2 (X.thz b (hz b hb).1)
 tab:=X.tab.mono hs
theorem Obs.put {Y:Dyn}{F:Hp}{σd:Sd}{σ σ':St}{H:Hp}{i:Nat}{b':Option B}(X:Obs Y F σd σ H)(h1:∀ j,j≠i->σ'[j]?=σ[j]?)(hn:∀ o,b'≠some (.obj o))
  (hw:∀ ys a,b'=some (.own ys)->σ'[i]?=some (some (.ref a))->¬ fw σd σ a):Obs Y F (σd.set i b') σ' H:=by
 have gs:∀ {j:Nat} {y:Option B},(σd.set i b')[j]?=some y->(j=i/\y=b')\/(j≠i/\σd[j]?=some y):=λ{j y} h=>by
  by_cases hj:j=i
  ·subst hj
   by_cases hl:j < σd.length
   ·rw[List.getElem?_set_self hl] at h;exact .inl ⟨rfl,(Option.some.inj h).symm⟩
   ·have:(σd.set j b')[j]?=none:=by rw[List.getElem?_eq_none_iff];simp;omega
    rw[this] at h;cases h
  ·rw[List.getElem?_set_ne (Ne.symm hj)] at h;exact .inr ⟨hj,h⟩
 refine X.step (Same.refl _) (λj o e=>?_) (λb hb=>⟨rfl,(X.owned hb).1,(X.owned hb).2.2⟩) (λj ys b e1 e2=>?_) X.there
 ·rcases gs e with ⟨_,z⟩|⟨hj,z⟩
  ·exact absurd z.symm (hn o)
  ·exact⟨z,h1 j hj⟩
 ·rcases gs e1 with ⟨rfl,z⟩|⟨hj,z⟩
  ·exact hw ys b z.symm e2
  ·rw[h1 j hj] at e2;exact X.dsx j ys b z e2
theorem Obs.none {Y:Dyn}{F:Hp}{σd:Sd}{σ:St}{H:Hp}(h:∀ (i:Nat) (o:O),σd[i]?≠some (some (.obj o)))(htab:TabsIn F)(hth:∀ b∈Y.ob,H b≠none)(hz:∀ b∈Y.ob,Y.H0 b≠none:=by intro b hb;cases hb):Obs Y F σd σ H where
 thz:=hz
 tab:=htab
 obj:=λi o e=>absurd e (h i o)
 dso:=λi _ o _ _ _ e=>absurd e (h i o)
 dsx:=λ_ _ _ _ _ ⟨i,o,_,e,_⟩=>h i o e
 there:=hth
def Nw (H:Hp)(b:Addr)(o:HO):Prop:=H b=none\/∃ vs,o=.tup vs
structure RS (Y:Dyn)(F:Hp)(σd:Sd)(σ:St)(H:Hp):Prop where
 len:σd.length=σ.length
 lo:Same Y.F0 F
 fr:Same F H
 fro:∀ b o,F b=some o->Y.F0 b=some o\/Nw Y.H0 b o
 old:∀ b o,Y.H0 b=some o->b∉Y.ioA->H b=some o
 sh:∀ (i:Nat) (d:D),σd[i]?=some (some (.sh d))->∃ v,σ[i]?=some (some v)/\Rep F v d
 own:∀ (i:Nat) (xs:List D),σd[i]?=some (some (.own xs))->∃ a vs,σ[i]?=some (some (.ref a))/\H a=some (.lst vs)/\RepL F vs xs/\F a=none/\(Y.H0 a=none\/a∈Y.ioL)
 dis:∀ (i j:Nat) (xs ys:List D) (a:Addr),σd[i]?=some (some (.own xs))->σd[j]?=some (some (.own ys))->σ[i]?=some (some (.ref a))->σ[j]?=some (some (.ref a))->i=j
 io:∀ p∈Y.io,σ[p.1]?=some (some (.ref p.2))/\∃ xs,σd[p.1]?=some (some (.own xs))
 ob:Obs Y F σd σ H

theorem ww {F H:Hp}{p:Addr}{o:HO}(s:Same F H):Same (bj F p o) (bj H p o):=λb u e=>by
 by_cases hb:b=p
 ·subst hb;rw[ao] at e ⊢;exact e
 ·rw[ah hb] at e ⊢;exact s b u e
theorem aM {F H:Hp}(s:Same F H){p:Addr}(h:H p=none):F p=none:=s.free h

theorem RS.fresh0 {Y:Dyn}{F:Hp}{σd:Sd}{σ:St}{H:Hp}{p:Addr}(R:RS Y F σd σ H)(h:H p=none):Y.H0 p=none/\p∉Y.ioA:=by
 have hio:p∉Y.ioA:=λhm=>by
  rcases List.mem_append.mp hm with hm|hm
  case inr=>exact R.ob.there p hm h
  obtain⟨q,hq,e⟩:=List.mem_map.mp hm;obtain⟨h1,xs,h2⟩:=R.io q hq;obtain⟨a,vs,h3,h4,_⟩:=R.own _ _ h2;rw[h1] at h3;cases h3;rw[e,h] at h4;cases h4
 refine⟨?_,hio⟩;cases e:Y.H0 p with
 | none=>rfl
 | some o=>rw[R.old p o e hio] at h;cases h

theorem RS.alloc {Y:Dyn}{F:Hp}{σd:Sd}{σ:St}{H:Hp}{p:Addr}{o:HO}(R:RS Y F σd σ H)(h:H p=none):RS Y (bj F p o) σd σ (bj H p o) where
 len:=R.len
 lo:=R.lo.trans (ay (aM R.fr h))
 fr:=ww R.fr
 fro:=λb u e=>by
  by_cases hb:b=p
  ·subst hb;exact .inr (.inl (R.fresh0 h).1)
  ·rw[ah hb] at e;exact R.fro b u e
 old:=λb u e n=>by
  have:=R.old b u e n;rw[ah (aG this h)];exact this
 sh:=λi d e=>by
  obtain⟨v,h1,h2⟩:=R.sh i d e;exact⟨v,h1,h2.mono (ay (aM R.fr h))⟩
 own:=λi xs e=>by
  obtain⟨a,vs,h1,h2,h3,h4,h5⟩:=R.own i xs e;have hne:=aG h2 h;exact⟨a,vs,h1,by rw[ah hne];exact h2,h3.mono (ay (aM R.fr h)),by rw[ah hne];exact h4,h5⟩
 dis:=R.dis
 io:=R.io
 ob:=R.ob.step (ay (aM R.fr h)) (λi o e=>⟨e,rfl⟩) (λb hb=>by
  obtain⟨w1,w2,w3⟩:=R.ob.owned hb;have hne:b≠p:=λz=>w2 (z ▸ h);exact⟨ah hne,by rw[ah hne];exact w1,w3⟩) (λj ys b e1 e2=>R.ob.dsx j ys b e1 e2) λb hb=>by
  have hne:b≠p:=λz=>R.ob.there b hb (z ▸ h);rw[ah hne];exact R.ob.there b hb
theorem RS.alloc0 {Y:Dyn}{F:Hp}{σd:Sd}{σ:St}{H:Hp}{p:Addr}{o:HO}(R:RS Y F σd σ H)(h:H p=none):RS Y F σd σ (bj H p o) where
 len:=R.len
 lo:=R.lo
 fr:=R.fr.trans (ay h)
 fro:=R.fro
 old:=λb u e n=>ay h b u (R.old b u e n)
 sh:=R.sh
 own:=λi xs e=>by
  obtain⟨a,vs,h1,h2,h3,h4,h5⟩:=R.own i xs e;exact⟨a,vs,h1,ay h a _ h2,h3,h4,h5⟩
 dis:=R.dis
 io:=R.io
 ob:=R.ob.step (Same.refl _) (λi o e=>⟨e,rfl⟩) (λb hb=>by
  obtain⟨w1,w2,w3⟩:=R.ob.owned hb;have hne:b≠p:=λz=>w2 (z ▸ h);exact⟨ah hne,w1,w3⟩) (λj ys b e1 e2=>R.ob.dsx j ys b e1 e2) λb hb=>by
  have hne:b≠p:=λz=>R.ob.there b hb (z ▸ h);rw[ah hne];exact R.ob.there b hb
inductive EV where
 | val (d:D)|var (i:Nat)|own (xs:List D)|obj (o:O)|any
inductive OV where
 | val (d:D)|var (i:Nat)|any
abbrev TX:=Sd->(EV->Sd->Prop)->Prop
abbrev TV:=Sd->(OV->Sd->Prop)->Prop
abbrev TD:=Sd->(D->Sd->Prop)->Prop
abbrev TB:=Sd->(Bool->Sd->Prop)->Prop
abbrev dq:=Sd->(List D->Sd->Prop)->Prop

structure NoOwn (σd:Sd)(σ:St)(a:Addr):Prop where
 own:∀ (j:Nat) (ys:List D),σd[j]?=some (some (.own ys))->σ[j]?≠some (some (.ref a))
 nob:¬ fw σd σ a
instance {σd:Sd} {σ:St} {a:Addr}:CoeFun (NoOwn σd σ a) λ_=>∀ (j:Nat) (ys:List D),σd[j]?=some (some (.own ys))->σ[j]?≠some (some (.ref a)):=⟨NoOwn.own⟩
theorem RS.noFresh {Y:Dyn}{F:Hp}{σd:Sd}{σ:St}{H:Hp}(R:RS Y F σd σ H){a:Addr}(h:H a=none):NoOwn σd σ a:=by
 refine⟨λj ys e z=>?_,λz=>(R.ob.owned z).2.1 h⟩;obtain⟨b,us,e1,e2,_⟩:=R.own j ys e;rw[e1] at z;cases z;rw[h] at e2;cases e2
def RepO (F:Hp)(σ:St)(v:V):OV->Prop
 | .val d=>Rep F v d
 | .var i=>σ[i]?=some (some v)
 | .any=>True
def DM (Y:Dyn)(F H:Hp)(σd:Sd)(σ:St)(v:V):EV->Prop
 | .val d=>Rep F v d
 | .var i=>σ[i]?=some (some v)
 | .own xs=>∃ a vs,v=.ref a/\H a=some (.lst vs)/\RepL F vs xs/\F a=none/\Y.H0 a=none/\NoOwn σd σ a
 | .obj o=>∃ a,v=.ref a/\o.rep F H a/\∀ b∈o.fp a,F b=none/\H b≠none/\Y.H0 b=none/\NoOwn σd σ b
 | .any=>True

def lX (Y:Dyn)(t:TX):TE:=λσ H Q=>∃ F σd Qd,RS Y F σd σ H/\t σd Qd/\∀ v H' F' x σd',Same F F'->RS Y F' σd' σ H'->DM Y F' H' σd' σ v x->Qd x σd'->Q v H'
def lO (Y:Dyn)(t:TV):TE:=λσ H Q=>∃ F σd Qd,RS Y F σd σ H/\t σd Qd/\∀ v H' F' x σd',Same F F'->RS Y F' σd' σ H'->RepO F' σ v x->Qd x σd'->Q v H'
def lD (Y:Dyn)(t:TD):TE:=λσ H Q=>∃ F σd Qd,RS Y F σd σ H/\t σd Qd/\∀ v H' F' x σd',Same F F'->RS Y F' σd' σ H'->Rep F' v x->Qd x σd'->Q v H'
def lB (Y:Dyn)(t:TB):TT:=λσ H Q=>∃ F σd Qd,RS Y F σd σ H/\t σd Qd/\∀ b H' F' σd',Same F F'->RS Y F' σd' σ H'->Qd b σd'->Q b H'
def UH (Y:Dyn)(t:dq):TA:=λσ H Q=>∃ F σd Qd,RS Y F σd σ H/\t σd Qd/\∀ vs H' F' xs σd',Same F F'->RS Y F' σd' σ H'->RepL F' vs xs->Qd xs σd'->Q vs H'

structure GE where
 P:Program
 w:World
 K:PySem.W.Frag
 mg:Str->Option Value
 base:Heap
structure Stat where
 N:List Str
 sc:List (Str×NameKind)
 ios:List Nat:=[]
 blk:Bool:=false
 /-- within an except suite -/
 hot:Bool:=false
 /-- a raise may stand here -/
 rs:Bool:=false
 /-- what is wanted where an exception of a class leaves -/
 ex:Str->Sd->Prop:=λ_ _=>False
def UI (a T:Addr)(c:Str):HO:=.ext λh=>∃ o vs a0,h.get? a=some o/\o.cls=.ref (KF.cls c)/\o.data=.fields vs/\vs[0]?=some a0/\vs[1]?=some (.ref T)
def VZ (T:Addr):HO:=.ext λh=>∃ o ts,h.get? T=some o/\o.data=.fields ts/\ts[3]?=some .none
structure Flies (X:Cx)(Y:Dyn)(F H:Hp)(a T:Addr)(c:Str):Prop where
 fa:F a=none
 fT:F T=none
 ha:H a=some (UI a T c)
 hT:H T=some (VZ T)
 ne:a≠T
 na:Y.H0 a=none
 nT:Y.H0 T=none
 la:X.s₀.heap.get? a=none
 lT:X.s₀.heap.get? T=none
def UJ (a:Addr)(c:Str):HO:=.ext λh=>∃ o vs a0,h.get? a=some o/\o.cls=.ref (KF.cls c)/\o.data=.fields vs/\vs[0]?=some a0/\vs[1]?=some .none
structure XOk (X:Cx)(G:GE)(k:Nat)(S:Stat)(Y:Dyn):Prop where
 P:X.prog=G.P
 w:X.w=G.w
 K:X.K=G.K
 kf:X.K=KF.K
 mg:X.mg=G.mg
 base:X.base=G.base
 N:X.N=S.N
 sc:X.env.scope.names=S.sc
 nd:S.N.Nodup
 ios:∀ p∈Y.io,p.1∈S.ios
 obs:S.blk=false->S.ios=[]->Y.ob=[]
 calm:S.hot=false->X.calm=true
 kind:X.env.scope.kind=.function
 fn:S.blk=false->∀ x,S.sc.lookup x=some .cell->X.fn x=true
 hd:S.hot=false->X.A.handled=none
 dp:X.A.depth+3*k+5 < recursionLimit
 un:X.A.units+16*k+200 < cLine
 po:S.hot=false->PassesOwn (model X.prog X.w) X.A X.env X.xe
 nx:S.blk=false->X.ex=[]/\X.stack=X.env::X.outer/\X.env.frame=some X.env.locals
 exc:∀ c σd,S.ex c σd->∀ pins σ H F s a T,L2.Inv X pins σ H s->RS Y F σd σ H->Flies X Y F H a T c->X.xe (.ref a) s
 made:S.rs=true->∀ c σd,S.ex c σd->∀ pins σ H F s a,L2.Inv X pins σ H s->RS Y F σd σ H->H a=some (UJ a c)->Y.H0 a=none->X.s₀.heap.get? a=none->X.xe (.ref a) s
theorem XOk.room {X:Cx}{G:GE}{k:Nat}{S:Stat}{Y:Dyn}(ok:XOk X G k S Y)(h:S.hot=false):Room k X.A:=⟨ok.hd h,ok.dp,ok.un⟩
theorem XOk.units {X:Cx}{G:GE}{k:Nat}{S:Stat}{Y:Dyn}(ok:XOk X G k S Y):X.A.units+64 < cLine:=by have:=ok.un;omega

variable {G:GE}{k:Nat}{S:Stat}
structure EX (G:GE)(k:Nat)(S:Stat)(e:Expr)(t:TX) :Prop where
 run:∀ X Y,XOk X G k S Y->PE X e (lX Y t)
instance {G:GE} {k:Nat} {S:Stat} {e:Expr} {t:TX} :CoeFun (EX G k S e t) λ_=>∀ X Y,XOk X G k S Y->PE X e (lX Y t):=⟨EX.run⟩
structure EO (G:GE)(k:Nat)(S:Stat)(e:Expr)(t:TV) :Prop where
 run:∀ X Y,XOk X G k S Y->PE X e (lO Y t)
instance {G:GE} {k:Nat} {S:Stat} {e:Expr} {t:TV} :CoeFun (EO G k S e t) λ_=>∀ X Y,XOk X G k S Y->PE X e (lO Y t):=⟨EO.run⟩
structure ED (G:GE)(k:Nat)(S:Stat)(e:Expr)(t:TD) :Prop where
 run:∀ X Y,XOk X G k S Y->PE X e (lD Y t)
instance {G:GE} {k:Nat} {S:Stat} {e:Expr} {t:TD} :CoeFun (ED G k S e t) λ_=>∀ X Y,XOk X G k S Y->PE X e (lD Y t):=⟨ED.run⟩
structure EB (G:GE)(k:Nat)(S:Stat)(e:Expr)(t:TB) :Prop where
 run:∀ X Y,XOk X G k S Y->PT X e (lB Y t)
instance {G:GE} {k:Nat} {S:Stat} {e:Expr} {t:TB} :CoeFun (EB G k S e t) λ_=>∀ X Y,XOk X G k S Y->PT X e (lB Y t):=⟨EB.run⟩
structure EDs (G:GE)(k:Nat)(S:Stat)(es:List Expr)(t:dq) :Prop where
 run:∀ X Y,XOk X G k S Y->PA X es (UH Y t)
instance {G:GE} {k:Nat} {S:Stat} {es:List Expr} {t:dq} :CoeFun (EDs G k S es t) λ_=>∀ X Y,XOk X G k S Y->PA X es (UH Y t):=⟨EDs.run⟩

def Hq:Expr->Bool
 | .Starred _ _=>false
 | _=>true
theorem se_cons {e:Expr}{es:List Expr}{env:Env}(h:Hq e=true):starEach (e::es) env=(false,eval e env)::starEach es env:=by
 cases e<;>first|rfl|cases h
theorem aE {X:Cx}{e:Expr}{t t':TE}(h:PE X e t)(i:∀ σ H Q,t' σ H Q->t σ H Q):PE X e t':=λpins s σ H Q I q=>h pins s σ H Q I (i σ H Q q)
theorem jQ {X:Cx}{e:Expr}{t t':TT}(h:PT X e t)(i:∀ σ H Q,t' σ H Q->t σ H Q):PT X e t':=λpins s σ H Q I q=>h pins s σ H Q I (i σ H Q q)
theorem eC {X:Cx}{e:List Expr}{t t':TA}(h:PA X e t)(i:∀ σ H Q,t' σ H Q->t σ H Q):PA X e t':=λpos pins s σ H Q I q=>h pos pins s σ H Q I (i σ H Q q)
theorem bA {X:Cx}{e:Stmt}{t t':TS}(h:PS X e t)(i:∀ D σ H,t' D σ H->t D σ H):PS X e t':=λpins s σ H D I q=>h pins s σ H D I (i D σ H q)
theorem nv {X:Cx}{e:List Stmt}{t t':TS}(h:PSs X e t)(i:∀ D σ H,t' D σ H->t D σ H):PSs X e t':=λpins s σ H D I q=>h pins s σ H D I (i D σ H q)

theorem RS.freezeNew {Y:Dyn}{F:Hp}{σd:Sd}{σ:St}{H:Hp}{a:Addr}{vs:List V}(R:RS Y F σd σ H)(h1:H a=some (.lst vs))(h2:F a=none)(h3:NoOwn σd σ a)(h4:Y.H0 a=none):RS Y (bj F a (.lst vs)) σd σ H where
 len:=R.len
 lo:=R.lo.trans (ay h2)
 fr:=λb o e=>by
  by_cases hb:b=a
  ·subst hb;rw[ao] at e;cases e;exact h1
  ·rw[ah hb] at e;exact R.fr b o e
 fro:=λb u e=>by
  by_cases hb:b=a
  ·subst hb;exact .inr (.inl h4)
  ·rw[ah hb] at e;exact R.fro b u e
 old:=R.old
 sh:=λi d e=>by
  obtain⟨v,q1,q2⟩:=R.sh i d e;exact⟨v,q1,q2.mono (ay h2)⟩
 own:=λi xs e=>by
  obtain⟨b,us,q1,q2,q3,q4,q5⟩:=R.own i xs e;have hne:b≠a:=λz=>h3 i xs e (by rw[q1,z])
  exact⟨b,us,q1,q2,q3.mono (ay h2),by rw[ah hne];exact q4,q5⟩
 dis:=R.dis
 io:=R.io
 ob:=R.ob.step (ay h2) (λi o e=>⟨e,rfl⟩) (λb hb=>by
  obtain⟨w1,w2,w3⟩:=R.ob.owned hb;have hne:b≠a:=λz=>h3.nob (z ▸ hb);exact⟨rfl,by rw[ah hne];exact w1,w3⟩) (λj ys b e1 e2=>R.ob.dsx j ys b e1 e2) R.ob.there

def TZ:EV->OV
 | .val d=>.val d
 | .var i=>.var i
 | .own xs=>.val (.lst xs)
 | .obj _=>.any
 | .any=>.any
def aS (t:TX):TV:=λσ Q=>t σ λx σ1=>Q (TZ x) σ1
theorem ba {e:Expr}{t:TX}(h:EX G k S e t):EO G k S e (aS t):=.mk λX Y ok=>aE (h X Y ok) λσ H Q q=>by
 obtain⟨F,σd,Qd,R,q,K⟩:=q;refine⟨F,σd,_,R,q,λv H' F' x σd' s R' r q'=>?_⟩;cases x with
 | val d=>exact K v H' F' (.val d) σd' s R' r q'
 | var i=>exact K v H' F' (.var i) σd' s R' r q'
 | own xs =>
  obtain⟨a,vs,rfl,h1,h2,h3,h4,h5⟩:=r;exact K _ H' _ (.val (.lst xs)) σd' (s.trans (ay h3)) (R'.freezeNew h1 h3 h5 h4) (.lst (.inl ao) (h2.mono (ay h3))) q'
 | obj o=>exact K v H' F' .any σd' s R' trivial q'
 | any=>exact K v H' F' .any σd' s R' trivial q'
def VH:OV->EV
 | .val d=>.val d
 | .var i=>.var i
 | .any=>.any
def oX (t:TV):TX:=λσ Q=>t σ λx σ1=>Q (VH x) σ1
theorem iX {e:Expr}{t:TV}(h:EO G k S e t):EX G k S e (oX t):=.mk λX Y ok=>aE (h X Y ok) λσ H Q q=>by
 obtain⟨F,σd,Qd,R,q,K⟩:=q;refine⟨F,σd,_,R,q,λv H' F' x σd' s R' r q'=>?_⟩;cases x with
 | val d=>exact K v H' F' (.val d) σd' s R' r q'
 | var i=>exact K v H' F' (.var i) σd' s R' r q'
 | any=>exact K v H' F' .any σd' s R' trivial q'

theorem aD {α:Type}{l:List (Option α)}{i:Nat}{x:α}{y:Option α}(h:l[i]?=some (some x)):(l.set i y)[i]?=some y:=by
 have:=(List.getElem?_eq_some_iff.mp h).1;rw[List.getElem?_set_self this]
theorem aL {α:Type}{l:List (Option α)}{i j:Nat}{y:Option α}(h:j≠i):(l.set i y)[j]?=l[j]?:=by
 rw[List.getElem?_set_ne (Ne.symm h)]

theorem RS.freezeVar {Y:Dyn}{F:Hp}{σd:Sd}{σ:St}{H:Hp}{i:Nat}{xs:List D}(R:RS Y F σd σ H)(h:σd[i]?=some (some (.own xs)))(hio:∀ p∈Y.io,p.1≠i) :
  ∃ F' v,Same F F'/\RS Y F' (σd.set i (some (.sh (.lst xs)))) σ H/\σ[i]?=some (some v)/\Rep F' v (.lst xs):=by
 obtain⟨a,vs,q1,q2,q3,q4,q5⟩:=R.own i xs h;have sm:=ay (o:=.lst vs) q4;have rep:Rep (bj F a (.lst vs)) (.ref a) (.lst xs):=.lst (.inl ao) (q3.mono sm);have nio:Y.H0 a=none:=by
  rcases q5 with q5|q5
  ·exact q5
  ·obtain⟨p,hp,e⟩:=List.mem_map.mp q5
   obtain⟨w1,ys,w2⟩:=R.io p hp;exact absurd (R.dis p.1 i ys xs a w2 h (by rw[w1,e]) q1) (hio p hp)
 have obF:Obs Y (bj F a (.lst vs)) (σd.set i (some (.sh (.lst xs)))) σ H:=R.ob.step sm (λj o e=>by
  have hj:j≠i:=λz=>by subst z;rw[aD h] at e;cases e
  rw[aL hj] at e;exact⟨e,rfl⟩) (λb hb=>by
  obtain⟨w1,w2,w3⟩:=R.ob.owned hb;have hne:b≠a:=λz=>R.ob.dsx i xs a h q1 (z ▸ hb);exact⟨rfl,by rw[ah hne];exact w1,w3⟩) (λj ys b e1 e2=>by
  have hj:j≠i:=λz=>by subst z;rw[aD h] at e1;cases e1
  rw[aL hj] at e1;exact R.ob.dsx j ys b e1 e2) R.ob.there
 refine⟨bj F a (.lst vs),.ref a,sm,⟨by simpa using R.len,R.lo.trans sm,λb o e=>?_,λb o e=>?_,R.old,λj d e=>?_,λj ys e=>?_,λj l ys zs b e1 e2 e3 e4=>?_,λp hp=>?_,obF⟩,q1,rep⟩
 ·by_cases hb:b=a
  ·subst hb;rw[ao] at e;cases e;exact q2
  ·rw[ah hb] at e;exact R.fr b o e
 ·by_cases hb:b=a
  ·subst hb;exact .inr (.inl nio)
  ·rw[ah hb] at e;exact R.fro b o e
 ·by_cases hj:j=i
  ·subst hj
   rw[aD h] at e;cases e;exact⟨_,q1,rep⟩
  ·rw[aL hj] at e
   obtain⟨v,w1,w2⟩:=R.sh j d e;exact⟨v,w1,w2.mono sm⟩
 ·have hj:j≠i:=λz=>by subst z;rw[aD h] at e;cases e
  rw[aL hj] at e;obtain⟨b,us,w1,w2,w3,w4,w5⟩:=R.own j ys e;have hne:b≠a:=λz=>hj (R.dis j i ys xs a e h (z ▸ w1) q1);exact⟨b,us,w1,w2,w3.mono sm,by rw[ah hne];exact w4,w5⟩
 ·have hj:j≠i:=λz=>by subst z;rw[aD h] at e1;cases e1
  have hl:l≠i:=λz=>by subst z;rw[aD h] at e2;cases e2
  rw[aL hj] at e1;rw[aL hl] at e2;exact R.dis j l ys zs b e1 e2 e3 e4
 ·obtain⟨w1,ys,w2⟩:=R.io p hp
  exact⟨w1,ys,by rw[aL (hio p hp)];exact w2⟩

def Hr (ios:List Nat)(x:OV)(σ1:Sd)(Q:D->Sd->Prop):Prop:=match x with
 | .val d=>Q d σ1
 | .any=>False
 | .var i=>match σ1[i]? with
  | some (some (.own xs))=>i∉ios/\Q (.lst xs) (σ1.set i (some (.sh (.lst xs))))
  | some (some (.sh d))=>Q d σ1
  | _=>False
theorem fU {ios:List Nat}{d:D}{σ1:Sd}{Q:D->Sd->Prop}:Hr ios (.val d) σ1 Q=Q d σ1:=rfl
theorem fV {ios:List Nat}{i:Nat}{σ1:Sd}{Q:D->Sd->Prop}:Hr ios (.var i) σ1 Q=(match σ1[i]? with
  | some (some (.own xs))=>i∉ios/\Q (.lst xs) (σ1.set i (some (.sh (.lst xs))))
  | some (some (.sh d))=>Q d σ1
  | _=>False):=rfl
def ai (ios:List Nat)(t:TV):TD:=λσ Q=>t σ λx σ1=>Hr ios x σ1 Q
theorem aw {e:Expr}{t:TV}(h:EO G k S e t):ED G k S e (ai S.ios t):=.mk λX Y ok=>aE (h X Y ok) λσ H Q q=>by
 obtain⟨F,σd,Qd,R,q,K⟩:=q;refine⟨F,σd,_,R,q,λv H' F' x σd' s R' r q'=>?_⟩;cases x with
 | val d=>exact K v H' F' d σd' s R' r q'
 | any=>exact False.elim q'
 | var i =>
  have r:σ[i]?=some (some v):=r;rw[fV] at q'
  split at q'
  ·rename_i xs e
   obtain⟨hi,q'⟩:=q';obtain⟨F2,v2,s2,R2,e2,r2⟩:=R'.freezeVar e λp hp z=>hi (z ▸ ok.ios p hp);rw[r] at e2;cases e2;exact K v H' F2 _ _ (s.trans s2) R2 r2 q'
  ·rename_i d e
   obtain⟨v2,e2,r2⟩:=R'.sh i d e;rw[r] at e2;cases e2;exact K v H' F' d σd' s R' r2 q'
  ·exact q'.elim

def ab (i:Nat):TV:=λσ Q=>match σ[i]? with
 | some (some (.sh d))=>Q (.val d) σ
 | some (some (.own _))=>Q (.var i) σ
 | _=>False
theorem ae (i:Nat){x:Str}{pos:Pos}(hN:S.N[i]?=some x:=by rfl)(hv:S.sc.lookup x=some .local\/S.sc.lookup x=some .cell\/S.sc.lookup x=some .free:=by first|exact Or.inl rfl|exact Or.inr (Or.inl rfl)|exact Or.inr (Or.inr rfl))
  (hd:(x==("__debug__":Str))=false:=by decide) (hcd:(x==("__classdict__":Str))=false:=by decide):EO G k S (.Name x pos) (ab i):=.mk λX Y ok =>
 aE (fB (X:=X) (i:=i) (by rw[ok.N];exact hN) (by unfold Dq;rw[ok.sc];exact hv) hd hcd) λσ H Q q=>by
  obtain⟨F,σd,Qd,R,q,K⟩:=q;unfold ab at q
  split at q
  ·rename_i d e
   obtain⟨v,e2,r2⟩:=R.sh i d e;exact⟨v,e2,K v H F (.val d) σd (Same.refl _) R r2 q⟩
  ·rename_i xs e
   obtain⟨a,vs,e2,_⟩:=R.own i xs e;exact⟨_,e2,K _ H F (.var i) σd (Same.refl _) R e2 q⟩
  ·exact q.elim
def aY (d:D):TV:=λσ Q=>Q (.val d) σ
theorem jR {Y:Dyn}{v:V}{d:D}(r:∀ F,Rep F v d)(σ:St)(H:Hp)(Q:VK)(q:lO Y (aY d) σ H Q):tC v σ H Q:=by
 obtain⟨F,σd,Qd,R,q,K⟩:=q;exact K v H F (.val d) σd (Same.refl _) R (r F) q
theorem aq {i j pos}:EO G k S (.Constant (.int i) j pos) (aY (.int i)):=.mk λ_ _ _=>aE GJ (jR λ_=>.int i)
theorem nw {b j pos}:EO G k S (.Constant (.bool b) j pos) (aY (.bl b)):=.mk λ_ _ _=>aE Pt (jR λ_=>.bl b)
theorem iY {j pos}:EO G k S (.Constant .none j pos) (aY .non):=.mk λ_ _ _=>aE GK (jR λ_=>.non)
theorem tI {x j pos}:EO G k S (.Constant (.str x) j pos) (aY (.str x)):=.mk λ_ _ _=>aE GL (jR λ_=>.str x)
def Hs (G:GE)(x:Str)(d:D):Prop:=∃ u v,G.mg x=some u/\RelV v u/\∀ F,Rep F v d
theorem dc {X:Cx}{Y:Dyn}(ok:XOk X G k S Y){x:Str}(h:S.sc.lookup x=some .globalImplicit):Gl X x:=by
 unfold Gl;show X.env.scope.names.lookup x=_;rw[ok.sc];exact h
theorem wx {x:Str}{d:D}{pos:Pos}(h:Hs G x d)(hg:S.sc.lookup x=some .globalImplicit:=by rfl)(hd:(x==("__debug__":Str))=false:=by decide):EO G k S (.Name x pos) (aY d):=.mk λX Y ok=>by
 obtain⟨u,v,h1,h2,h3⟩:=h;exact aE (Dr (dc ok hg) (by rw[ok.mg];exact h1) h2 hd) (jR h3)

def drf (σ:Sd):OV->Option D
 | .val d=>some d
 | .any=>none
 | .var i=>match σ[i]? with
  | some (some (.sh d))=>some d
  | some (some (.own xs))=>some (.lst xs)
  | some (some (.obj o))=>o.view
  | _=>none
theorem Rep.h {F H:Hp}(s:Same F H){v:V}{d:D}(r:Rep F v d):RepH F H v d:=by
 cases d with
 | lst xs =>
  cases r with
  | lst h r=>exact⟨_,_,rfl,Rd.mono s h,r⟩
 | dci kvs =>
  cases r with
  | dci h r=>exact⟨_,_,rfl,s _ _ h,r⟩
 | kp w c e kvs =>
  cases r with
  | kp h1 h2 r=>exact⟨_,_,_,_,rfl,s _ _ h1,s _ _ h2,r⟩
 | _=>exact r
theorem RS.drf {Y:Dyn}{F:Hp}{σd:Sd}{σ:St}{H:Hp}(R:RS Y F σd σ H){v:V}{x:OV}{d:D}(r:RepO F σ v x)(e:drf σd x=some d):RepH F H v d:=by
 cases x with
 | val d'=>cases e;exact Rep.h R.fr r
 | any=>cases e
 | var i =>
  have r:σ[i]?=some (some v):=r;have e:(match σd[i]? with|some (some (.sh d))=>some d|some (some (.own xs))=>some (.lst xs)|some (some (.obj o))=>o.view|_=>none)=some d:=e
  split at e
  ·rename_i d' q
   cases e;obtain⟨v2,e2,r2⟩:=R.sh i d q;rw[r] at e2;cases e2;exact Rep.h R.fr r2
  ·rename_i xs q
   cases e;obtain⟨a,vs,e2,h2,h3,_⟩:=R.own i xs q;rw[r] at e2;cases e2;exact⟨a,vs,rfl,.inl h2,h3⟩
  ·rename_i o q
   obtain⟨a,e2,h2,_⟩:=R.ob.obj i o q;rw[r] at e2;cases e2;exact o.sees h2 e
  ·cases e
theorem RepH.int {F H:Hp}{v:V}{i:Int}(r:RepH F H v (.int i)):v=.int i:=by cases (show Rep F v (.int i) from r);rfl
theorem RepH.bl {F H:Hp}{v:V}{i:Bool}(r:RepH F H v (.bl i)):v=.bl i:=by cases (show Rep F v (.bl i) from r);rfl
theorem RepH.str {F H:Hp}{v:V}{i:Str}(r:RepH F H v (.str i)):v=.str i:=by cases (show Rep F v (.str i) from r);rfl
theorem RepH.non {F H:Hp}{v:V}(r:RepH F H v .non):v=.non:=by cases (show Rep F v .non from r);rfl
theorem RepH.tup {F H:Hp}(s:Same F H){v:V}{xs:List D}(r:RepH F H v (.tup xs)):∃ a vs,v=.ref a/\H a=some (.tup vs)/\RepL F vs xs:=by
 cases (show Rep F v (.tup xs) from r) with
 | tup h r=>exact⟨_,_,rfl,s _ _ h,r⟩
theorem RepH.lst {F H:Hp}{v:V}{xs:List D}(r:RepH F H v (.lst xs)):∃ a vs,v=.ref a/\Rd H a (.lst vs)/\RepL F vs xs:=r

def Goes (Y:Dyn)(F:Hp)(σd:Sd)(σ:St)(Qd:EV->Prop)(Q:VK):Prop:=∀ v H' F' r,Same F F'->RS Y F' σd σ H'->DM Y F' H' σd σ v r->Qd r->Q v H'
theorem Goes.val {Y:Dyn}{F:Hp}{σd:Sd}{σ:St}{Qd:EV->Prop}{Q:VK}(g:Goes Y F σd σ Qd Q){H:Hp}(R:RS Y F σd σ H){v:V}{d:D}(r:Rep F v d)(q:Qd (.val d)):Q v H:=g v H F (.val d) (Same.refl _) R r q
theorem Goes.own {Y:Dyn}{F:Hp}{σd:Sd}{σ:St}{Qd:EV->Prop}{Q:VK}(g:Goes Y F σd σ Qd Q){H:Hp}(R:RS Y F σd σ H){vs:List V}{xs:List D}(r:RepL F vs xs)(q:Qd (.own xs)):∀ p,H p=none->Q (.ref p) (bj H p (.lst vs)):=λp hp=>by
 refine g (.ref p) _ F (.own xs) (Same.refl _) (R.alloc0 hp) ⟨p,vs,rfl,ao,r,aM R.fr hp,(R.fresh0 hp).1,⟨λj ys e z=>?_,λz=>(R.ob.owned z).2.1 hp⟩⟩ q;obtain⟨a,us,e1,e2,_⟩:=R.own j ys e;rw[e1] at z;cases z;rw[hp] at e2;cases e2
theorem Goes.tup {Y:Dyn}{F:Hp}{σd:Sd}{σ:St}{Qd:EV->Prop}{Q:VK}(g:Goes Y F σd σ Qd Q){H:Hp}(R:RS Y F σd σ H){vs:List V}{xs:List D}(r:RepL F vs xs)(q:Qd (.val (.tup xs))):∀ p,H p=none->Q (.ref p) (bj H p (.tup vs)):=λp hp=>by
 have sm:=ay (o:=.tup vs) (aM R.fr hp);exact g (.ref p) _ _ (.val (.tup xs)) sm (R.alloc hp) (.tup ao (r.mono sm)) q
def eU (r:R2)(f:D->D->(EV->Prop)->Prop):Prop :=
 ∀ Y F H σd σ v u x y Qd Q,RS Y F σd σ H->RepH F H v x->RepH F H u y->f x y Qd->Goes Y F σd σ Qd Q->r v u H Q
def bi (f:D->D->(EV->Prop)->Prop)(ta tb:TV):TX:=λσ Q=>ta σ λx σ1=>tb σ1 λy σ2=>match drf σ2 x,drf σ2 y with
 | some a,some b=>f a b λr=>Q r σ2
 | _,_=>False
theorem RepO.mono {F F':Hp}(s:Same F F'){σ:St}{v:V}{x:OV}(r:RepO F σ v x):RepO F' σ v x:=by
 cases x with
 | val d=>exact Rep.mono s r
 | var i=>exact r
 | any=>trivial
theorem sy {Y:Dyn}{r:R2}{f:D->D->(EV->Prop)->Prop}(hs:eU r f){ta tb:TV}{σ:St}{H:Hp}{Q:VK}(q:lX Y (bi f ta tb) σ H Q):GV r (lO Y ta) (lO Y tb) σ H Q:=by
 obtain⟨F,σd,Qd,R,q,K⟩:=q;refine⟨F,σd,_,R,q,λv1 H1 F1 x σ1 s1 R1 r1 q1=>?_⟩;refine⟨F1,σ1,_,R1,q1,λv2 H2 F2 y σ2 s2 R2 r2 q2=>?_⟩
 split at q2
 ·rename_i a b ea eb
  exact hs Y F2 H2 σ2 σ v1 v2 a b _ Q R2 (R2.drf (r1.mono s2) ea) (R2.drf r2 eb) q2 λv H' F' r s R' rr qq=>K v H' F' r σ2 ((s1.trans s2).trans s) R' rr qq
 ·exact q2.elim
theorem lH {op:Operator}{f:D->D->(EV->Prop)->Prop}{r:PySem.W.Frag->R2}(ho:∀ X,OpR X (binaryOp op) (r X.K))(hs:∀ K,eU (r K) f){a b:Expr}{ta tb:TV}{pos:Pos}(ha:EO G k S a ta)(hb:EO G k S b tb) :
  EX G k S (.BinOp a op b pos) (bi f ta tb):=.mk λX Y ok=>aE (PF (ho X) (ha X Y ok) (hb X Y ok)) λσ H Q q=>sy (hs X.K) q

def fj:D->D->(EV->Prop)->Prop
 | .int i,.int j,Q=>Q (.val (.int (i+j)))
 | .str a,.str b,Q=>a.length+b.length<=sizeLine/\Q (.val (.str (a++b)))
 | .lst a,.lst b,Q=>a.length+b.length<=sizeLine/\Q (.own (a++b))
 | .tup a,.tup b,Q=>(a≠[]/\a.length+b.length<=sizeLine)/\Q (.val (.tup (a++b)))
 | _,_,_=>False
def FE:R2:=λx y H Q=>∃ l b xs zs,x=.ref l/\y=.ref b/\Rd H l (.lst xs)/\Rd H b (.lst zs)/\xs.length+zs.length<=sizeLine/\∀ p,H p=none->Q (.ref p) (bj H p (.lst (xs++zs)))
theorem Inv.rdL {X:Cx}{pins:List (Addr×Obj)}{σ:St}{H:Hp}{s:Shared}{l:Addr}{xs:List V}(I:L2.Inv X pins σ H s)(h:Rd H l (.lst xs)) :
  xs.length<=sizeLine/\∃ (its:List Value) (n:Nat),Vals xs its/\xs.length=its.length/\s.heap.get? l=some { cls:=.type "list",data:=.seq its.toArray n }:=by
 obtain⟨z,its,n,r,e⟩:=L2.Rd.ok h I.hok;exact⟨z,its,n,r,r.length,e⟩
theorem op_catS {X:Cx}:OpR X (binaryOp .Add) FE:=by
 intro pins s σ H x y v u Q I rx ry h;obtain⟨l,b,xs,zs,rfl,rfl,hH,hB,hz,q⟩:=h;cases rx;cases ry;obtain⟨z,its,n,r,hl,e⟩:=Inv.rdL I hH;obtain⟨z2,its2,n2,r2,hl2,e2⟩:=Inv.rdL I hB;refine PySem.P.add_list e e2 ?_ (by rw[List.size_toArray,List.size_toArray];omega)
 have ea:its.toArray++its2.toArray=(its++its2).toArray:=by simp
 rw[ea];exact⟨.ref _,_,I.lnew (t':=s.toks) (r.append r2) (by rw[List.length_append];omega),rfl,q _ I.fresh⟩
def Dz (K:PySem.W.Frag):R2:=λx y H Q=>(∃ i j,x=.int i/\y=.int j/\Q (.int (i+j)) H)\/(∃ i j,x=.str i/\y=.str j/\i.length+j.length<=sizeLine/\Q (.str (i++j)) H)\/FE x y H Q\/FB K x y H Q
theorem vh {X:Cx}:OpR X (binaryOp .Add) (Dz X.K):=op_add.or (op_add_str.or (op_catS.or DF))
theorem vk (K:PySem.W.Frag):eU (Dz K) fj:=by
 intro Y F H σd σ v u x y Qd Q R rx ry q g;unfold fj at q
 split at q
 ·obtain rfl:=rx.int;obtain rfl:=ry.int
  exact .inl ⟨_,_,rfl,rfl,g.val R (.int _) q⟩
 ·obtain rfl:=rx.str;obtain rfl:=ry.str
  exact .inr (.inl ⟨_,_,rfl,rfl,q.1,g.val R (.str _) q.2⟩)
 ·obtain⟨a,vs,rfl,h1,r1⟩:=rx.lst;obtain⟨b,us,rfl,h2,r2⟩:=ry.lst
  exact .inr (.inr (.inl ⟨a,b,vs,us,rfl,rfl,h1,h2,by rw[r1.length,r2.length];exact q.1,g.own R (r1.append r2) q.2⟩))
 ·have rx':=rx
  obtain⟨a,vs,rfl,h1,r1⟩:=rx.tup R.fr;obtain⟨b,us,rfl,h2,r2⟩:=ry.tup R.fr;refine .inr (.inr (.inr ⟨a,b,vs,us,rfl,rfl,.of h1,.of h2,λz=>?_,by rw[r1.length,r2.length];exact q.1.2,λz=>?_,λ_=>g.tup R (r1.append r2) q.2⟩))
  ·subst z
   cases r1;exact q.1.1 rfl
  ·subst z
   cases r2;rw[List.append_nil] at q;exact g.val R rx' q.2
 ·exact q.elim
theorem eD {a b:Expr}{ta tb:TV}{pos:Pos}(ha:EO G k S a ta)(hb:EO G k S b tb):EX G k S (.BinOp a .Add b pos) (bi fj ta tb):=lH (r:=Dz) (λ_=>vh) vk ha hb
def Pm (C:Int->Int->Prop)(g:Int->Int->Int):D->D->(EV->Prop)->Prop
 | .int i,.int j,Q=>C i j/\Q (.val (.int (g i j)))
 | _,_,_=>False
theorem jS {C:Int->Int->Prop}{g:Int->Int->Int}:eU (rI C λi j=>.int (g i j)) (Pm C g):=by
 intro Y F H σd σ v u x y Qd Q R rx ry q gg;unfold Pm at q
 split at q
 ·obtain rfl:=rx.int;obtain rfl:=ry.int
  exact⟨_,_,rfl,rfl,q.1,gg.val R (.int _) q.2⟩
 ·exact q.elim
def DN (g:Int->Int->Int):D->D->(EV->Prop)->Prop
 | .int i,.int j,Q=>Q (.val (.int (g i j)))
 | _,_,_=>False
theorem vm {g:Int->Int->Int}:eU (Df λi j=>.int (g i j)) (DN g):=by
 intro Y F H σd σ v u x y Qd Q R rx ry q gg;unfold DN at q
 split at q
 ·obtain rfl:=rx.int;obtain rfl:=ry.int
  exact⟨_,_,rfl,rfl,gg.val R (.int _) q⟩
 ·exact q.elim
section
variable {a b:Expr}{ta tb:TV}{pos:Pos}
def pQ:=DN λi j=>i - j
def pR:=Pm (λ_ j=>0 < j) λi j=>i%j
def pS:=Pm mW λi j=>i^j.toNat
theorem lJ (ha:EO G k S a ta)(hb:EO G k S b tb):EX G k S (.BinOp a .Sub b pos) (bi pQ ta tb):=lH (r:=λ_=>_) (λ_=>GX) (λ_=>vm) ha hb
theorem lK (ha:EO G k S a ta)(hb:EO G k S b tb):EX G k S (.BinOp a .Mod b pos) (bi pR ta tb):=lH (r:=λ_=>_) (λ_=>GY) (λ_=>jS) ha hb
theorem lL (ha:EO G k S a ta)(hb:EO G k S b tb):EX G k S (.BinOp a .Pow b pos) (bi pS ta tb):=lH (r:=λ_=>_) (λ_=>GZ) (λ_=>jS) ha hb
end
def jT:D->D->(EV->Prop)->Prop
 | .int i,.int j,Q=>CMul i j/\Q (.val (.int (i*j)))
 | .lst xs,.int j,Q=>(-(2^63)<=j/\j < 2^63/\xs.length*j.toNat<=sizeLine)/\Q (.own (List.replicate j.toNat xs).flatten)
 | _,_,_=>False
def FF:R2:=λx y H Q=>∃ l k xs,x=.ref l/\y=.int k/\Rd H l (.lst xs)/\-(2^63)<=k/\k < 2^63/\xs.length*k.toNat<=sizeLine /\
 ∀ p,H p=none->Q (.ref p) (bj H p (.lst (List.replicate k.toNat xs).flatten))
theorem DP {X:Cx}:OpR X (binaryOp .Mult) FF:=by
 intro pins s σ H x y v u Q I rx ry h;obtain⟨l,k,xs,rfl,rfl,hH,h1,h2,hz,q⟩:=h;cases rx;obtain⟨t,rfl⟩:=ry;obtain⟨z,its,n,r,hl,e⟩:=Inv.rdL I hH;have hlen:its.toArray.size*k.toNat<=sizeLine:=by rw[List.size_toArray,<- hl];exact hz
 have hcap:¬ its.toArray.size*k.toNat > (2^63 - 1) / 8:=by
  have:(sizeLine:Nat)<=(2^63 - 1) / 8:=by decide
  omega
 have hfit:¬ (!Builtin.List.listFitsIndex k)=true:=by
  rw[fitsIndex_both h1 h2];exact Bool.false_ne_true
 have hlong:¬ Builtin.List.listTooLong (its.toArray.size*k.toNat)=true:=by
  rw[wp hlen];exact Bool.false_ne_true
 have hnew:List.foldl (λx1 x2=>x1++x2) #[] (List.replicate (if its.toArray.isEmpty=true then 0 else k.toNat) its.toArray)=(List.replicate k.toNat its).flatten.toArray:=by
  have f0:∀ m:Nat,List.foldl (λx1 x2=>x1++x2) #[] (List.replicate m its.toArray)=(List.replicate m its).flatten.toArray:=λm=>by
   have:=lA its m [];rw[List.nil_append] at this;exact this
  rw[f0];cases its with
  | nil=>simp
  | cons a r'=>rw[if_neg (by simp)]
 refine wpAny_binaryOp_repeat_ref (T:="list") (U:="int") (by decide) ⟨_,e,rfl⟩ (λs'=>typeIs_int s' k t) noFill_list_mul F.fills_int_mul F.slot_int_rmul repeat_list F.slot_int_index.lookup
  (call_meets F.slot_int_rmul (typeIs_int s k t) F.entry_int_rmul (F.args_int_rmul_2 _ _) (int___rmul___int_list k t l its.toArray n)
   ⟨e,rfl,⟨_,e,rfl⟩,call_meets F.slot_list_mul ⟨_,e,rfl⟩ F.entry_list_mul (F.args_list_mul_2 _ _) (AutoListH.list___mul___list_int_3 l its.toArray n k t hfit hcap hlong) ⟨e,?_⟩⟩)
 rw[hnew];exact⟨.ref _,_,I.lnew (t':=s.toks) (r.rep k.toNat) (by rw[DI,Nat.mul_comm];exact hz),rfl,q _ I.fresh⟩
def Ql:R2:=λx y H Q=>rI CMul (λi j=>.int (i*j)) x y H Q\/FF x y H Q
theorem vn:eU Ql jT:=by
 intro Y F H σd σ v u x y Qd Q R rx ry q g;unfold jT at q
 split at q
 ·obtain rfl:=rx.int;obtain rfl:=ry.int
  exact .inl ⟨_,_,rfl,rfl,q.1,g.val R (.int _) q.2⟩
 ·obtain⟨a,vs,rfl,h1,r1⟩:=rx.lst;obtain rfl:=ry.int
  exact .inr ⟨a,_,vs,rfl,rfl,h1,q.1.1,q.1.2.1,by rw[r1.length];exact q.1.2.2,g.own R (r1.rep _) q.2⟩
 ·exact q.elim
theorem jU {a b:Expr}{ta tb:TV}{pos:Pos}(ha:EO G k S a ta)(hb:EO G k S b tb):EX G k S (.BinOp a .Mult b pos) (bi jT ta tb):=lH (r:=λ_=>Ql) (λ_=>op_mul.or DP) (λ_=>vn) ha hb
end Vc


namespace Vc
open PySem L2
variable [KF]
variable {G:GE}{k:Nat}{S:Stat}

mutual
def fk:D->D->Bool
 | .non,.non=>true
 | .bl a,.bl b=>a==b
 | .bl a,.int j=>(if a then 1 else 0)==j
 | .int i,.bl b=>i==(if b then 1 else 0)
 | .int i,.int j=>i==j
 | .str x,.str y=>x==y
 | .lst xs,.lst ys=>jm xs ys
 | .tup xs,.tup ys=>jm xs ys
 | _,_=>false
def jm:List D->List D->Bool
 | [],[]=>true
 | x::xs,y::ys=>fk x y&&jm xs ys
 | _,_=>false
end
def bv:Nat->D->Bool
 | _,.non=>true
 | _,.bl _=>true
 | _,.int _=>true
 | _,.str x=>x.cps.all (· < 0x110000)
 | n+1,.tup xs=>xs.all (bv n)
 | n+1,.lst xs=>xs.all (bv n)
 | _,_=>false
mutual
def cV:D->PyData
 | .non=>.none
 | .bl b=>.bool b
 | .int i=>.int i
 | .str x=>.str x
 | .tup xs=>.tuple (cJ xs)
 | .lst xs=>.list (cJ xs)
 | _=>.none
def cJ:List D->List PyData
 | []=>[]
 | x::xs=>cV x::cJ xs
end

theorem ny {n m:Nat}(ih:∀ x y,bv n x=true->bv m y=true->fk x y=PyData.eqv (cV x) (cV y)):∀ xs ys:List D,xs.all (bv n)=true->ys.all (bv m)=true->jm xs ys=PyData.eqvAll (cJ xs) (cJ ys)
 | [],[],_,_=>rfl
 | [],_::_,_,_=>rfl
 | _::_,[],_,_=>rfl
 | x::xs,y::ys,h1,h2=>by
  rw[List.all_cons,Bool.and_eq_true] at h1 h2;show (fk x y&&jm xs ys)=(PyData.eqv (cV x) (cV y)&&PyData.eqvAll (cJ xs) (cJ ys));rw[ih x y h1.1 h2.1,ny ih xs ys h1.2 h2.2]
theorem sA:∀ (n m:Nat) (x y:D),bv n x=true->bv m y=true->fk x y=PyData.eqv (cV x) (cV y):=by
 intro n
 induction n with
 | zero =>
  intro m x y h1 h2;cases x with
  | tup _=>exact absurd h1 (by simp [bv])
  | lst _=>exact absurd h1 (by simp [bv])
  | dct _=>exact absurd h1 (by simp [bv])
  | exc _=>exact absurd h1 (by simp [bv])
  | scr _=>exact absurd h1 (by simp [bv])
  | dci _=>exact absurd h1 (by simp [bv])
  | kp _ _ _ _=>exact absurd h1 (by simp [bv])
  | _=>cases y<;>first|rfl | (cases m<;>exact absurd h2 (by simp [bv]))
 | succ n ih =>
  intro m x y h1 h2;cases x with
  | tup xs =>
   cases y with
   | tup ys =>
    cases m with
    | zero=>exact absurd h2 (by simp [bv])
    | succ m=>exact ny (ih m) xs ys h1 h2
   | _=>first|rfl | (cases m<;>exact absurd h2 (by simp [bv]))
  | lst xs =>
   cases y with
   | lst ys =>
    cases m with
    | zero=>exact absurd h2 (by simp [bv])
    | succ m=>exact ny (ih m) xs ys h1 h2
   | _=>first|rfl | (cases m<;>exact absurd h2 (by simp [bv]))
  | dct _=>exact absurd h1 (by simp [bv])
  | exc _=>exact absurd h1 (by simp [bv])
  | scr _=>exact absurd h1 (by simp [bv])
  | dci _=>exact absurd h1 (by simp [bv])
  | kp _ _ _ _=>exact absurd h1 (by simp [bv])
  | _=>cases y<;>first|rfl | (cases m<;>exact absurd h2 (by simp [bv]))
theorem dG {n:Nat}(ih:∀ x,bv n x=true->(cV x).canLay0=true/\(cV x).depth<=n):∀ xs:List D,xs.all (bv n)=true->PyData.canLayAll0 (cJ xs)=true/\PyData.depthAll (cJ xs)<=n
 | [],_=>⟨rfl,Nat.zero_le _⟩
 | x::xs,h=>by
  rw[List.all_cons,Bool.and_eq_true] at h;have h1:=ih x h.1;have h2:=dG ih xs h.2;refine⟨?_,?_⟩
  ·show ((cV x).canLay0&&PyData.canLayAll0 (cJ xs))=true
   rw[h1.1,h2.1];rfl
  ·show max (cV x).depth (PyData.depthAll (cJ xs))<=n
   exact Nat.max_le.mpr ⟨h1.2,h2.2⟩
theorem jq:∀ (n:Nat) (x:D),bv n x=true->(cV x).canLay0=true/\(cV x).depth<=n:=by
 intro n
 induction n with
 | zero =>
  intro x h;cases x with
  | tup _=>exact absurd h (by simp [bv])
  | lst _=>exact absurd h (by simp [bv])
  | dct _=>exact absurd h (by simp [bv])
  | exc _=>exact absurd h (by simp [bv])
  | scr _=>exact absurd h (by simp [bv])
  | dci _=>exact absurd h (by simp [bv])
  | kp _ _ _ _=>exact absurd h (by simp [bv])
  | _=>first|exact⟨rfl,Nat.zero_le _⟩ | (exact⟨by simpa [bv,cV,PyData.canLay0,PyData.strOk] using h,Nat.zero_le _⟩)
 | succ n ih =>
  intro x h;cases x with
  | tup xs =>
   have:=dG ih xs h;exact⟨this.1,Nat.succ_le_succ this.2⟩
  | lst xs =>
   have:=dG ih xs h;exact⟨this.1,Nat.succ_le_succ this.2⟩
  | dct _=>exact absurd h (by simp [bv])
  | exc _=>exact absurd h (by simp [bv])
  | scr _=>exact absurd h (by simp [bv])
  | dci _=>exact absurd h (by simp [bv])
  | kp _ _ _ _=>exact absurd h (by simp [bv])
  | _=>first|exact⟨rfl,Nat.zero_le _⟩ | (exact⟨by simpa [bv,cV,PyData.canLay0,PyData.strOk] using h,Nat.zero_le _⟩)
section
variable {P:Program}{w:World}{F H:Hp}{h:Heap}
mutual
theorem Rep.reads (ok:HOk P w H h)(s:Same F H):∀ {v:V} {d:D} {u:Value} (n:Nat),Rep F v d->RelV v u->bv n d=true->∃ as,Reads h u (cV d) as
 | _,_,_,_,.non,e,_=>by cases e;exact⟨_,.none⟩
 | _,_,_,_,.bl b,e,_=>by cases e;exact⟨_,.bool b⟩
 | _,_,_,_,.int i,e,_=>by obtain⟨t,rfl⟩:=e;exact⟨_,.int i t⟩
 | _,_,_,_,.str x,e,_=>by obtain⟨t,rfl⟩:=e;exact⟨_,.str x t⟩
 | _,_,_,0,.tup _ _,_,o=>by exact absurd o (by simp [bv])
 | _,_,_,0,.lst _ _,_,o=>by exact absurd o (by simp [bv])
 | _,_,_,n+1,.tup (a:=a) (vs:=vs) hf r,e,o=>by
  cases e;obtain⟨_,its,rv,ob,ho,hc,m,hd⟩:=ok a _ (s a _ hf);obtain⟨as,q⟩:=RepL.reads ok s n r rv o;exact⟨as,.tuple ho hc hd q⟩
 | _,_,_,n+1,.lst (a:=a) (vs:=vs) hf r,e,o=>by
  cases e;obtain⟨_,its,m,rv,ho⟩:=L2.Rd.ok (Rd.mono s hf) ok;obtain⟨as,q⟩:=RepL.reads ok s n r rv o;exact⟨_,.list ho rfl rfl q⟩
 | _,_,_,n,.scr _,_,o=>by cases n<;>exact absurd o (by simp [bv])
 | _,_,_,n,.exc _,_,o=>by cases n<;>exact absurd o (by simp [bv])
 | _,_,_,n,.dctT _ _,_,o=>by cases n<;>exact absurd o (by simp [bv])
 | _,_,_,n,.dci _ _,_,o=>by cases n<;>exact absurd o (by simp [bv])
 | _,_,_,n,.kp _ _ _,_,o=>by cases n<;>exact absurd o (by simp [bv])
theorem RepL.reads (ok:HOk P w H h)(s:Same F H):∀ {vs:List V} {ds:List D} {us:List Value} (n:Nat),RepL F vs ds->Vals vs us->ds.all (bv n)=true->∃ as,ReadsAll h us (cJ ds) as
 | _,_,_,_,.nil,.nil,_=>⟨_,.nil⟩
 | _,_,_,n,.cons r t,.cons e f,o=>by
  rw[List.all_cons,Bool.and_eq_true] at o;obtain⟨as,h1⟩:=Rep.reads ok s n r e o.1;obtain⟨bs,h2⟩:=RepL.reads ok s n t f o.2;exact⟨_,.cons h1 h2⟩
end
theorem RepH.reads (ok:HOk P w H h)(s:Same F H){v:V}{d:D}{u:Value}(r:RepH F H v d)(e:RelV v u)(o:bv 8 d=true):∃ as,Reads h u (cV d) as:=by
 cases d with
 | lst xs =>
  obtain⟨a,vs,rfl,hf,r⟩:=r;cases e;obtain⟨_,its,n,rv,ho⟩:=L2.Rd.ok hf ok;obtain⟨as,q⟩:=RepL.reads ok s 7 r rv o;exact⟨_,.list ho rfl rfl q⟩
 | dci _=>exact absurd o (by simp [bv])
 | kp _ _ _ _=>exact absurd o (by simp [bv])
 | _=>exact Rep.reads ok s 8 r e o
end
theorem eV {x:D}(h:bv 8 x=true):PySem.SeqAt.shaped (cV x)=true:=by
 obtain⟨h1,h2⟩:=jq 8 x h;unfold PySem.SeqAt.shaped;rw[h1,decide_eq_true (by omega)];rfl

def DQ (neg:Bool):R2:=λv u H Q=>∃ F x y,Same F H/\RepH F H v x/\RepH F H u y/\bv 8 x=true/\bv 8 y=true/\Q (.bl (if neg then !fk x y else fk x y)) H
theorem Ht {X:Cx}(hu:X.A.units+64 < cLine):OpR X (compareOp .Eq) (DQ false):=by
 intro pins s σ H v u v' u' Q I rv ru h;obtain⟨F,x,y,sm,rx,ry,ox,oy,q⟩:=h;obtain⟨as,r1⟩:=rx.reads I.hok sm rv ox;obtain⟨bs,r2⟩:=ry.reads I.hok sm ru oy;refine PyProof.Rows.eq_dataH r1 r2 (eV ox) (eV oy) hu ⟨.bl (fk x y),H,I,?_,q⟩;rw[sA 8 8 x y ox oy];rfl
theorem Hu {X:Cx}(hu:X.A.units+64 < cLine):OpR X (compareOp .NotEq) (DQ true):=by
 intro pins s σ H v u v' u' Q I rv ru h;obtain⟨F,x,y,sm,rx,ry,ox,oy,q⟩:=h;obtain⟨as,r1⟩:=rx.reads I.hok sm rv ox;obtain⟨bs,r2⟩:=ry.reads I.hok sm ru oy;refine PyProof.Rows.ne_dataH r1 r2 (eV ox) (eV oy) hu ⟨.bl (!fk x y),H,I,?_,q⟩;rw[sA 8 8 x y ox oy];rfl
end Vc


namespace Vc
open PySem L2
variable [KF]
variable {G:GE}{k:Nat}{S:Stat}

def jV (r:R2)(f:D->D->(Bool->Prop)->Prop):Prop :=
 ∀ Y F H σd σ v u x y (Qd:Bool->Prop) (Q:VK),RS Y F σd σ H->RepH F H v x->RepH F H u y->f x y Qd->(∀ b,Qd b->Q (.bl b) H)->r v u H Q
def aZ (f:D->D->(Bool->Prop)->Prop)(ta tb:TV):TB:=λσ Q=>ta σ λx σ1=>tb σ1 λy σ2=>match drf σ2 x,drf σ2 y with
 | some a,some b=>f a b λr=>Q r σ2
 | _,_=>False
def bV (t:TB):TV:=λσ Q=>t σ λb σ1=>Q (.val (.bl b)) σ1
theorem lM {Y:Dyn}{r:R2}{f:D->D->(Bool->Prop)->Prop}(hs:jV r f){ta tb:TV}{σ:St}{H:Hp}{Q:VK}{F:Hp}{σd:Sd}{Qd:Bool->Sd->Prop}(R:RS Y F σd σ H)(q:aZ f ta tb σd Qd)
  (K:∀ b H' F' σd',Same F F'->RS Y F' σd' σ H'->Qd b σd'->Q (.bl b) H'):GV r (lO Y ta) (lO Y tb) σ H Q:=by
 refine⟨F,σd,_,R,q,λv1 H1 F1 x σ1 s1 R1 r1 q1=>?_⟩;refine⟨F1,σ1,_,R1,q1,λv2 H2 F2 y σ2 s2 R2 r2 q2=>?_⟩
 split at q2
 ·rename_i a b ea eb
  exact hs Y F2 H2 σ2 σ v1 v2 a b _ Q R2 (R2.drf (r1.mono s2) ea) (R2.drf r2 eb) q2 λc qc=>K c H2 F2 σ2 (s1.trans s2) R2 qc
 ·exact q2.elim
def lh (G:GE)(k:Nat)(S:Stat)(op:CmpOp)(f:D->D->(Bool->Prop)->Prop):Prop:=∃ r:R2,(∀ X Y,XOk X G k S Y->OpR X (compareOp op) r)/\jV r f
theorem aQ {op:CmpOp}{f:D->D->(Bool->Prop)->Prop}(h:lh G k S op f){a b:Expr}{ta tb:TV}{pos:Pos}(ha:EO G k S a ta)(hb:EO G k S b tb)(hm:behindInMarks op b=false:=by first|exact mX _|with_unfolding_all rfl) :
  EB G k S (.Compare a [op] [b] pos) (aZ f ta tb):=.mk λX Y ok=>by
 obtain⟨r,ho,hs⟩:=h;refine jQ (mY (ho X Y ok) (ha X Y ok) (hb X Y ok) hm) λσ H Q q=>?_;obtain⟨F,σd,Qd,R,q,K⟩:=q;exact lM hs R q λb H' F' σd' s R' qq=>⟨b,rfl,K b H' F' σd' s R' qq⟩
theorem Qm {op:CmpOp}{f:D->D->(Bool->Prop)->Prop}(h:lh G k S op f){a b:Expr}{ta tb:TV}{pos:Pos}(ha:EO G k S a ta)(hb:EO G k S b tb)(hm:behindInMarks op b=false:=by first|exact mX _|with_unfolding_all rfl) :
  EO G k S (.Compare a [op] [b] pos) (bV (aZ f ta tb)):=.mk λX Y ok=>by
 obtain⟨r,ho,hs⟩:=h;refine aE (Dv (ho X Y ok) (ha X Y ok) (hb X Y ok) hm) λσ H Q q=>?_;obtain⟨F,σd,Qd,R,q,K⟩:=q;exact lM hs R q λb H' F' σd' s R' qq=>K _ H' F' (.val (.bl b)) σd' s R' (.bl b) qq
def DR (x y:D)(Q:Bool->Prop):Prop:=(bv 8 x=true/\bv 8 y=true)/\Q (fk x y)
def vo (x y:D)(Q:Bool->Prop):Prop:=(bv 8 x=true/\bv 8 y=true)/\Q (!fk x y)
theorem vp:lh G k S .Eq DR:=⟨DQ false,λX Y ok=>Ht ok.units,λY F H σd σ v u x y Qd Q R rx ry q K=>⟨F,x,y,R.fr,rx,ry,q.1.1,q.1.2,K _ q.2⟩⟩
theorem jW:lh G k S .NotEq vo:=⟨DQ true,λX Y ok=>Hu ok.units,λY F H σd σ v u x y Qd Q R rx ry q K=>⟨F,x,y,R.fr,rx,ry,q.1.1,q.1.2,K _ q.2⟩⟩
def Hv (p:Int->Int->Bool):D->D->(Bool->Prop)->Prop
 | .int i,.int j,Q=>Q (p i j)
 | _,_,_=>False
theorem eW {p:Int->Int->Bool}:jV (Df λi j=>.bl (p i j)) (Hv p):=λY F H σd σ v u x y Qd Q R rx ry q K=>by
 unfold Hv at q
 split at q
 ·obtain rfl:=rx.int;obtain rfl:=ry.int
  exact⟨_,_,rfl,rfl,K _ q⟩
 ·exact q.elim
def Hw:=Hv λi j=>decide (i < j)
def UK:=Hv λi j=>decide (i<=j)
def Qn:=Hv λi j=>decide (j < i)
def Ua:=Hv λi j=>decide (j<=i)
theorem Hx:lh G k S .Lt Hw:=⟨_,λ_ _ _=>PL,eW⟩
theorem UL:lh G k S .LtE UK:=⟨_,λ_ _ _=>PM,eW⟩
theorem Hy:lh G k S .Gt Qn:=⟨_,λ_ _ _=>PN,eW⟩
theorem Qo:lh G k S .GtE Ua:=⟨_,λ_ _ _=>PP,eW⟩
def isNone:D->Bool
 | .non=>true
 | _=>false
def Qp (x y:D)(Q:Bool->Prop):Prop:=isNone y=true/\Q (isNone x)
theorem RepH.isNone {F H:Hp}{v:V}{x:D}(r:RepH F H v x):decide (v=.non)=isNone x:=by
 cases x with
 | lst xs=>obtain⟨a,vs,rfl,_⟩:=r;rfl
 | dct _=>cases (show Rep F v (.dct _) from r);rfl
 | exc _=>cases (show Rep F v (.exc _) from r);rfl
 | scr _=>cases (show Rep F v (.scr _) from r);rfl
 | dci _=>obtain⟨a,ks,rfl,_⟩:=r;rfl
 | kp _ _ _ _=>obtain⟨a,dx,ad,ks,rfl,_⟩:=r;rfl
 | non=>obtain rfl:=r.non;rfl
 | bl _=>obtain rfl:=r.bl;rfl
 | int _=>obtain rfl:=r.int;rfl
 | str _=>obtain rfl:=r.str;rfl
 | tup _=>cases (show Rep F v (.tup _) from r);rfl
theorem RepH.noneEq {F H:Hp}{v:V}{x:D}(r:RepH F H v x)(h:Vc.isNone x=true):v=.non:=by
 cases x<;>first|exact r.non|cases h
theorem Hz:lh G k S .Is Qp:=⟨_,λ_ _ _=>Hb,λY F H σd σ v u x y Qd Q R rx ry q K=>⟨ry.noneEq q.1,by rw[rx.isNone];exact K _ q.2⟩⟩
def HA:D->(Bool->Prop)->Prop
 | .non,Q=>Q false
 | .bl b,Q=>Q b
 | .int i,Q=>Q (i != 0)
 | .lst xs,Q=>Q (!xs.isEmpty)
 | .tup xs,Q=>Q (!xs.isEmpty)
 | _,_=>False
def vq (t:TV):TB:=λσ Q=>t σ λx σ1=>match drf σ1 x with
 | some d=>HA d λb=>Q b σ1
 | none=>False
theorem fW {F:Hp}{vs:List V}{xs:List D}(r:RepL F vs xs):(!xs.isEmpty)=!vs.isEmpty:=by cases r<;>rfl
theorem nz {e:Expr}{t:TV}(h:EO G k S e t)(he:∀ env whole,isTrue e env whole=(do let v <- whole;standAt e.pos;holding [v] (truthy v)):=by intro _ _;rfl):EB G k S e (vq t):=.mk λX Y ok=>by
 refine jQ (vY (h X Y ok) (he _)) λσ H Q q=>?_;obtain⟨F,σd,Qd,R,q,K⟩:=q;refine⟨F,σd,_,R,q,λv1 H1 F1 x σ1 s1 R1 r1 q1=>?_⟩
 split at q1
 ·rename_i d ed
  have r:=R1.drf r1 ed;unfold HA at q1
  split at q1
  ·obtain rfl:=r.non;exact⟨false,rfl,K _ H1 F1 σ1 s1 R1 q1⟩
  ·rename_i b;obtain rfl:=r.bl;exact⟨b,rfl,K _ H1 F1 σ1 s1 R1 q1⟩
  ·rename_i i;obtain rfl:=r.int;exact⟨_,rfl,K _ H1 F1 σ1 s1 R1 q1⟩
  ·rename_i xs;obtain⟨a,vs,rfl,h1,h2⟩:=r.lst
   exact⟨!xs.isEmpty,.inl ⟨vs,.inl h1,fW h2⟩,K _ H1 F1 σ1 s1 R1 q1⟩
  ·rename_i xs;obtain⟨a,vs,rfl,h1,h2⟩:=r.tup R1.fr
   exact⟨!xs.isEmpty,.inr (.inl ⟨vs,.inl (.inl h1),fW h2⟩),K _ H1 F1 σ1 s1 R1 q1⟩
  ·exact q1.elim
 ·exact q1.elim
def pT (t u:TB):TB:=λσ Q=>t σ λc σ1=>if c=true then u σ1 Q else Q false σ1
def pU (t u:TB):TB:=λσ Q=>t σ λc σ1=>if c=true then Q true σ1 else u σ1 Q
def lN (t:TB):TB:=λσ Q=>t σ λc σ1=>Q (!c) σ1
structure EW (G:GE)(k:Nat)(S:Stat)(e:Expr)(t:TB) :Prop where
 run:∀ X Y,XOk X G k S Y->PW X e (lB Y t)
instance {G:GE} {k:Nat} {S:Stat} {e:Expr} {t:TB} :CoeFun (EW G k S e t) λ_=>∀ X Y,XOk X G k S Y->PW X e (lB Y t):=⟨EW.run⟩
theorem wy {X:Cx}{e:Expr}{t t':TT}(h:PW X e t)(i:∀ σ H Q,t' σ H Q->t σ H Q):PW X e t':=λwh pins s σ H Q I q=>h wh pins s σ H Q I (i σ H Q q)
section
variable {a b:Expr}{rest:List Expr}{ta tb:TB}{pos:Pos}
theorem FG (h:EW G k S a ta):EB G k S a ta:=.mk λX Y ok=>(h X Y ok).pt
theorem sB (ha:EB G k S a ta):EW G k S (.BoolOp .And [a] pos) ta:=.mk λX Y ok=>Ds (ha X Y ok)
theorem pV (ha:EB G k S a ta):EW G k S (.BoolOp .Or [a] pos) ta:=.mk λX Y ok=>GM (ha X Y ok)
theorem wz (ha:EB G k S a ta)(hb:EW G k S (.BoolOp .And (b::rest) pos) tb):EW G k S (.BoolOp .And (a::b::rest) pos) (pT ta tb):=.mk λX Y ok=>wy (GN (ha X Y ok) (hb X Y ok)) λσ H Q q=>by
 obtain⟨F,σd,Qd,R,q,K⟩:=q;refine⟨F,σd,_,R,q,λc H1 F1 σ1 s1 R1 q1=>?_⟩;cases c with
 | true=>exact⟨F1,σ1,Qd,R1,q1,λb H' F' σd' s R' qq=>K b H' F' σd' (s1.trans s) R' qq⟩
 | false=>exact K false H1 F1 σ1 s1 R1 q1
theorem wA (ha:EB G k S a ta)(hb:EW G k S (.BoolOp .Or (b::rest) pos) tb):EW G k S (.BoolOp .Or (a::b::rest) pos) (pU ta tb):=.mk λX Y ok=>wy (Pu (ha X Y ok) (hb X Y ok)) λσ H Q q=>by
 obtain⟨F,σd,Qd,R,q,K⟩:=q;refine⟨F,σd,_,R,q,λc H1 F1 σ1 s1 R1 q1=>?_⟩;cases c with
 | false=>exact⟨F1,σ1,Qd,R1,q1,λb H' F' σd' s R' qq=>K b H' F' σd' (s1.trans s) R' qq⟩
 | true=>exact K true H1 F1 σ1 s1 R1 q1
theorem nA (ha:EB G k S a ta):EB G k S (.UnaryOp .Not a pos) (lN ta):=.mk λX Y ok=>jQ (GO (ha X Y ok)) λσ H Q q=>by
 obtain⟨F,σd,Qd,R,q,K⟩:=q;exact⟨F,σd,_,R,q,λc H1 F1 σ1 s1 R1 q1=>K _ H1 F1 σ1 s1 R1 q1⟩
end
structure EV' (G:GE)(k:Nat)(S:Stat)(e:Expr)(t:TB) :Prop where
 run:∀ X Y,XOk X G k S Y->PE X e (λσ H Q=>lB Y t σ H λb H'=>Q (.bl b) H')
instance {G:GE} {k:Nat} {S:Stat} {e:Expr} {t:TB} :CoeFun (EV' G k S e t) λ_=>∀ X Y,XOk X G k S Y->PE X e (λσ H Q=>lB Y t σ H λb H'=>Q (.bl b) H'):=⟨EV'.run⟩
section
variable {a b:Expr}{rest:List Expr}{ta tb:TB}{pos:Pos}
end
end Vc


namespace Vc
open PySem L2
variable [KF]
variable {G:GE}{k:Nat}{S:Stat}

theorem RepL.atI {F:Hp}{vs:List V}{xs:List D}{i:Int}{d:D}(r:RepL F vs xs)(h:L2.atI xs i=some d):∃ v,L2.atI vs i=some v/\Rep F v d:=by
 unfold L2.atI at h ⊢;rw[r.length];cases e:ixN xs.length i with
 | none=>rw[e] at h;cases h
 | some j =>
  rw[e] at h;exact r.get (i:=j) h
def HB:D->D->(D->Prop)->Prop
 | .lst xs,.int i,Q=>match atI xs i with
  | some d=>Q d
  | none=>False
 | .tup xs,.int i,Q=>match atI xs i with
  | some d=>Q d
  | none=>False
 | .str z,.int i,Q=>z.length<=sizeLine/\match atI z.cps.toList i with
  | some c=>Q (.str ⟨#[c]⟩)
  | none=>False
 | .scr ns,.int i,Q=>match atI ns i with
  | some n=>Q (.int n)
  | none=>False
 | _,_,_=>False
theorem DS {α β:Type}(f:α->β){xs:List α}{i:Int}{a:α}(h:L2.atI xs i=some a):L2.atI (xs.map f) i=some (f a):=by
 unfold L2.atI at h ⊢;rw[List.length_map];cases e:ixN xs.length i with
 | none=>rw[e] at h;cases h
 | some j =>
  rw[e] at h;have h:xs[j]?=some a:=h;show (xs.map f)[j]?=_;rw[List.getElem?_map,h];rfl
def dZ (ta tb:TV):TV:=λσ Q=>ta σ λx σ1=>tb σ1 λy σ2=>match drf σ2 x,drf σ2 y with
 | some a,some b=>HB a b λr=>Q (.val r) σ2
 | _,_=>False
theorem bS {a b:Expr}{ta tb:TV}{pos:Pos}(ha:EO G k S a ta)(hb:EO G k S b tb)(hs:tG b:=by intro _ _;rfl):EO G k S (.Subscript a b pos) (dZ ta tb):=.mk λX Y ok =>
 aE (Qa Hj (ha X Y ok) (hb X Y ok) hs) λσ H Q q=>by
  obtain⟨F,σd,Qd,R,q,K⟩:=q;refine⟨F,σd,_,R,q,λv1 H1 F1 x σ1 s1 R1 r1 q1=>?_⟩;refine⟨F1,σ1,_,R1,q1,λv2 H2 F2 y σ2 s2 R2 r2 q2=>?_⟩
  split at q2
  ·rename_i a b ea eb
   have rx:=R2.drf (r1.mono s2) ea;have ry:=R2.drf r2 eb;have fin:∀ {v d},Rep F2 v d->Qd (.val d) σ2->Q v H2:=λr qq=>K _ H2 F2 (.val _) σ2 (s1.trans s2) R2 r qq;unfold HB at q2
   split at q2
   ·obtain⟨p,vs,rfl,h1,r1⟩:=rx.lst;obtain rfl:=ry.int
    split at q2
    ·rename_i d e
     obtain⟨v,ev,rv⟩:=r1.atI e;exact .inl ⟨p,vs,_,v,rfl,rfl,.inl h1,ev,fin rv q2⟩
    ·exact q2.elim
   ·obtain⟨p,vs,rfl,h1,r1⟩:=rx.tup R2.fr;obtain rfl:=ry.int
    split at q2
    ·rename_i d e
     obtain⟨v,ev,rv⟩:=r1.atI e;exact .inr (.inl ⟨p,vs,_,v,rfl,rfl,.of h1,ev,fin rv q2⟩)
    ·exact q2.elim
   ·obtain rfl:=rx.str;obtain rfl:=ry.int
    obtain⟨hz,q2⟩:=q2
    split at q2
    ·rename_i c e
     exact .inr (.inr ⟨_,_,c,rfl,rfl,hz,e,fin (.str _) q2⟩)
    ·exact q2.elim
   ·rename_i ns i
    have rx:Rep F2 v1 (.scr ns):=rx;obtain rfl:=ry.int;cases rx with
    | scr h =>
     split at q2
     ·rename_i n e
      exact .inl ⟨_,ns.map V.int,_,.int n,rfl,rfl,by rw[ok.kf];exact R2.fr.seq h,DS V.int e,fin (.int _) q2⟩
     ·exact q2.elim
   ·exact q2.elim
  ·exact q2.elim

theorem lQ {F:Hp}:∀ ns:List Int,RepL F (ns.map V.int) (ns.map D.int)
 | []=>.nil
 | n::ns=>.cons (.int n) (lQ ns)
theorem RepH.scr {F H:Hp}(s:Same F H){v:V}{ns:List Int}(r:RepH F H v (.scr ns)):∃ a,v=.ref a/\SqL KF.K H a (ns.map V.int):=by
 cases (show Rep F v (.scr ns) from r) with
 | scr h=>exact⟨_,rfl,s.seq h⟩
abbrev HC:=Sd->(Option Int->Sd->Prop)->Prop
def lP (Y:Dyn)(t:HC):TO:=λσ H Q=>∃ F σd Qd,RS Y F σd σ H/\t σd Qd/\∀ o H' F' σd',Same F F'->RS Y F' σd' σ H'->Qd o σd'->Q o H'
structure EPt (G:GE)(k:Nat)(S:Stat)(e:Option Expr)(t:HC) :Prop where
 run:∀ X Y,XOk X G k S Y->PO X e (lP Y t)
instance {G:GE} {k:Nat} {S:Stat} {e:Option Expr} {t:HC} :CoeFun (EPt G k S e t) λ_=>∀ X Y,XOk X G k S Y->PO X e (lP Y t):=⟨EPt.run⟩
theorem wB {X:Cx}{e:Option Expr}{t t':TO}(h:PO X e t)(i:∀ σ H Q,t' σ H Q->t σ H Q):PO X e t':=λpins s σ H Q I q=>h pins s σ H Q I (i σ H Q q)
def FH:HC:=λσ Q=>Q none σ
def FI (t:TV):HC:=λσ Q=>t σ λx σ1=>match drf σ1 x with
 | some (.int i)=>Q (some i) σ1
 | _=>False
theorem jX:EPt G k S none FH:=.mk λX Y ok=>wB DD λσ H Q q=>by
 obtain⟨F,σd,Qd,R,q,K⟩:=q;exact K none H F σd (Same.refl _) R q
theorem jY {e:Expr}{t:TV}(h:EO G k S e t):EPt G k S (some e) (FI t):=.mk λX Y ok=>wB (DE (h X Y ok)) λσ H Q q=>by
 obtain⟨F,σd,Qd,R,q,K⟩:=q;refine⟨F,σd,_,R,q,λv1 H1 F1 x σ1 s1 R1 r1 q1=>?_⟩
 split at q1
 ·rename_i i e
  obtain rfl:=(R1.drf r1 e).int;exact⟨i,rfl,K _ H1 F1 σ1 s1 R1 q1⟩
 ·exact q1.elim
def cut {α:Type}(xs:List α)(lo hi:Option Int):List α:=(xs.drop (HT.sIx xs.length 0 lo)).take (HT.sIx xs.length xs.length hi - HT.sIx xs.length 0 lo)
theorem RepL.cut {F:Hp}{vs:List V}{xs:List D}(r:RepL F vs xs)(lo hi:Option Int):RepL F (pK vs lo hi) (cut xs lo hi):=by
 unfold pK Vc.cut;rw[r.length];exact (r.drop _).take _
def Ub:D->Option Int->Option Int->(EV->Prop)->Prop
 | .lst xs,lo,hi,Q=>Q (.own (cut xs lo hi))
 | .scr ns,lo,hi,Q=>Q (.own (cut (ns.map D.int) lo hi))
 | .tup xs,lo,hi,Q=>¬ (HT.sIx xs.length 0 lo=0/\HT.sIx xs.length xs.length hi=xs.length)/\Q (.val (.tup (cut xs lo hi)))
 | _,_,_,_=>False
def pW (t:TV)(tl th:HC):TX:=λσ Q=>t σ λx σ1=>tl σ1 λl σ2=>th σ2 λu σ3=>match drf σ3 x with
 | some d=>Ub d l u λr=>Q r σ3
 | none=>False
theorem wC {e:Expr}{lo hi:Option Expr}{t:TV}{tl th:HC}{p2 pos:Pos}(h:EO G k S e t)(hl:EPt G k S lo tl)(hh:EPt G k S hi th):EX G k S (.Subscript e (.Slice lo hi none p2) pos) (pW t tl th):=.mk λX Y ok =>
 aE (wn (SlR.or DG Hg) (h X Y ok) (hl X Y ok) (hh X Y ok)) λσ H Q q=>by
  obtain⟨F,σd,Qd,R,q,K⟩:=q;refine⟨F,σd,_,R,q,λv1 H1 F1 x σ1 s1 R1 r1 q1=>?_⟩;refine⟨F1,σ1,_,R1,q1,λl H2 F2 σ2 s2 R2 q2=>?_⟩;refine⟨F2,σ2,_,R2,q2,λu H3 F3 σ3 s3 R3 q3=>?_⟩
  split at q3
  ·rename_i d e
   have rx:=R3.drf (r1.mono (s2.trans s3)) e;have g:Goes Y F3 σ3 σ (λr=>Qd r σ3) Q:=λv H' F' r s R' rr qq=>K v H' F' r σ3 (((s1.trans s2).trans s3).trans s) R' rr qq;unfold Ub at q3
   split at q3
   ·obtain⟨p,vs,rfl,h1,r1⟩:=rx.lst
    exact .inl ⟨p,vs,rfl,.inl h1,g.own R3 (r1.cut _ _) q3⟩
   ·obtain⟨p,rfl,h1⟩:=rx.scr R3.fr
    exact .inl ⟨p,_,rfl,by rw[ok.kf];exact h1,g.own R3 ((lQ _).cut _ _) q3⟩
   ·obtain⟨p,vs,rfl,h1,r1⟩:=rx.tup R3.fr
    exact .inr ⟨p,vs,rfl,.of h1,by rw[r1.length];exact q3.1,g.tup R3 (r1.cut _ _) q3.2⟩
   ·exact q3.elim
  ·exact q3.elim

def tN:dq:=λσ Q=>Q [] σ
def aO (t:TD)(u:dq):dq:=λσ Q=>t σ λx σ1=>u σ1 λxs σ2=>Q (x::xs) σ2
theorem ax:EDs G k S [] tN:=.mk λX Y ok=>eC eA λσ H Q q=>by
 obtain⟨F,σd,Qd,R,q,K⟩:=q;exact K [] H F [] σd (Same.refl _) R .nil q
theorem af {e:Expr}{es:List Expr}{t:TD}{u:dq}(h:ED G k S e t)(hs:EDs G k S es u)(he:∀ env,starEach (e::es) env=(false,eval e env)::starEach es env:=by exact λ_=>Vc.se_cons rfl):EDs G k S (e::es) (aO t u):=.mk λX Y ok =>
 eC (cc (h X Y ok) (hs X Y ok) (he _)) λσ H Q q=>by
  obtain⟨F,σd,Qd,R,q,K⟩:=q;refine⟨F,σd,_,R,q,λv1 H1 F1 x σ1 s1 R1 r1 q1=>?_⟩;exact⟨F1,σ1,_,R1,q1,λvs H2 F2 xs σ2 s2 R2 r2 q2=>K _ H2 F2 (x::xs) σ2 (s1.trans s2) R2 (.cons (r1.mono s2) r2) q2⟩
def HD (t:dq):TX:=λσ Q=>t σ λxs σ1=>xs.length<=sizeLine/\Q (.own xs) σ1
def vN (t:dq):TV:=λσ Q=>t σ λxs σ1=>xs.length<=sizeLine/\Q (.val (.tup xs)) σ1
theorem tJ {es:List Expr}{t:dq}{pos:Pos}(h:EDs G k S es t):EX G k S (.List es pos) (HD t):=.mk λX Y ok=>aE (nh (h X Y ok)) λσ H Q q=>by
 obtain⟨F,σd,Qd,R,q,K⟩:=q;refine⟨F,σd,_,R,q,λvs H1 F1 xs σ1 s1 R1 r1 q1=>⟨by rw[r1.length];exact q1.1,?_⟩⟩
 have g:Goes Y F1 σ1 σ (λr=>Qd r σ1) Q:=λv H' F' r s R' rr qq=>K v H' F' r σ1 (s1.trans s) R' rr qq;exact g.own R1 r1 q1.2
theorem fX {es:List Expr}{t:dq}{x1}{pos:Pos}(h:EDs G k S es t):EO G k S (.Tuple es x1 pos) (vN t):=.mk λX Y ok=>aE (Hd (h X Y ok)) λσ H Q q=>by
 obtain⟨F,σd,Qd,R,q,K⟩:=q;refine⟨F,σd,_,R,q,λvs H1 F1 xs σ1 s1 R1 r1 q1=>⟨by rw[r1.length];exact q1.1,λp hp=>?_⟩⟩
 have sm:=ay (o:=.tup vs) (aM R1.fr hp);exact K _ _ _ (.val (.tup xs)) σ1 (s1.trans sm) (R1.alloc hp) (.tup ao (r1.mono sm)) q1.2

abbrev sd:=Sd->(List OV->Sd->Prop)->Prop
inductive RepOs (F:Hp)(σ:St):List V->List OV->Prop where
 | nil:RepOs F σ [] []
 | cons {v:V} {x:OV} {vs:List V} {xs:List OV}:RepO F σ v x->RepOs F σ vs xs->RepOs F σ (v::vs) (x::xs)
def UM (Y:Dyn)(t:sd):TA:=λσ H Q=>∃ F σd Qd,RS Y F σd σ H/\t σd Qd/\∀ vs H' F' xs σd',Same F F'->RS Y F' σd' σ H'->RepOs F' σ vs xs->Qd xs σd'->Q vs H'
structure EOs (G:GE)(k:Nat)(S:Stat)(es:List Expr)(t:sd) :Prop where
 run:∀ X Y,XOk X G k S Y->PA X es (UM Y t)
instance {G:GE} {k:Nat} {S:Stat} {es:List Expr} {t:sd} :CoeFun (EOs G k S es t) λ_=>∀ X Y,XOk X G k S Y->PA X es (UM Y t):=⟨EOs.run⟩
def cW:sd:=λσ Q=>Q [] σ
def be (t:TV)(u:sd):sd:=λσ Q=>t σ λx σ1=>u σ1 λxs σ2=>Q (x::xs) σ2
theorem aU:EOs G k S [] cW:=.mk λX Y ok=>eC eA λσ H Q q=>by
 obtain⟨F,σd,Qd,R,q,K⟩:=q;exact K [] H F [] σd (Same.refl _) R .nil q
theorem aA {e:Expr}{es:List Expr}{t:TV}{u:sd}(h:EO G k S e t)(hs:EOs G k S es u)(he:∀ env,starEach (e::es) env=(false,eval e env)::starEach es env:=by exact λ_=>Vc.se_cons rfl):EOs G k S (e::es) (be t u):=.mk λX Y ok =>
 eC (cc (h X Y ok) (hs X Y ok) (he _)) λσ H Q q=>by
  obtain⟨F,σd,Qd,R,q,K⟩:=q;refine⟨F,σd,_,R,q,λv1 H1 F1 x σ1 s1 R1 r1 q1=>?_⟩;exact⟨F1,σ1,_,R1,q1,λvs H2 F2 xs σ2 s2 R2 r2 q2=>K _ H2 F2 (x::xs) σ2 (s1.trans s2) R2 (.cons (r1.mono s2) r2) q2⟩
def drfs (σ:Sd):List OV->Option (List D)
 | []=>some []
 | x::xs=>match drf σ x,drfs σ xs with
  | some d,some ds=>some (d::ds)
  | _,_=>none
inductive RepHs (F H:Hp):List V->List D->Prop where
 | nil:RepHs F H [] []
 | cons {v:V} {x:D} {vs:List V} {xs:List D}:RepH F H v x->RepHs F H vs xs->RepHs F H (v::vs) (x::xs)
theorem RS.drfs {Y:Dyn}{F:Hp}{σd:Sd}{σ:St}{H:Hp}(R:RS Y F σd σ H):∀ {vs:List V} {xs:List OV} {ds:List D},RepOs F σ vs xs->Vc.drfs σd xs=some ds->RepHs F H vs ds
 | _,_,_,.nil,e=>by cases e;exact .nil
 | _,_,_,.cons (x:=x) (xs:=xs) r t,e=>by
  have e:(match Vc.drf σd x,Vc.drfs σd xs with|some d,some ds=>some (d::ds)|_,_=>none)=some _:=e
  split at e
  ·rename_i d ds e1 e2
   cases e;exact .cons (R.drf r e1) (RS.drfs R t e2)
  ·cases e
theorem RepHs.one {F H:Hp}{vs:List V}{d:D}(r:RepHs F H vs [d]):∃ v,vs=[v]/\RepH F H v d:=by
 cases r with
 | cons r t=>cases t;exact⟨_,rfl,r⟩
theorem RepHs.two {F H:Hp}{vs:List V}{d e:D}(r:RepHs F H vs [d,e]):∃ v u,vs=[v,u]/\RepH F H v d/\RepH F H u e:=by
 cases r with
 | cons r t =>
  obtain⟨u,rfl,q⟩:=t.one;exact⟨_,u,rfl,r,q⟩
def lR (r:List V->Hp->VK->Prop)(f:List D->(EV->Prop)->Prop):Prop :=
 ∀ Y F H σd σ vs ds (Qd:EV->Prop) (Q:VK),RS Y F σd σ H->RepHs F H vs ds->f ds Qd->Goes Y F σd σ Qd Q->r vs H Q
def dH (f:List D->(EV->Prop)->Prop)(t:sd):TX:=λσ Q=>t σ λxs σ1=>match drfs σ1 xs with
 | some ds=>f ds λr=>Q r σ1
 | none=>False
theorem lU {Y:Dyn}{r:List V->Hp->VK->Prop}{f:List D->(EV->Prop)->Prop}(hs:lR r f){t:sd}{σ:St}{H:Hp}{Q:VK}(q:lX Y (dH f t) σ H Q):UD r (UM Y t) σ H Q:=by
 obtain⟨F,σd,Qd,R,q,K⟩:=q;refine⟨F,σd,_,R,q,λvs H1 F1 xs σ1 s1 R1 r1 q1=>?_⟩
 split at q1
 ·rename_i ds e
  exact hs Y F1 H1 σ1 σ vs ds _ Q R1 (R1.drfs r1 e) q1 λv H' F' r s R' rr qq=>K v H' F' r σ1 (s1.trans s) R' rr qq
 ·exact q1.elim
def vO (G:GE)(k:Nat)(S:Stat)(f:Value)(g:List D->(EV->Prop)->Prop):Prop:=∃ r:PySem.W.Frag->List V->Hp->VK->Prop,(∀ X Y,XOk X G k S Y->CallR X f (r X.K))/\lR (r KF.K) g
section
variable {x:Str}{p pos:Pos}{e:Expr}{es:List Expr}{t:sd}{id T:String}{g:List D->(EV->Prop)->Prop}
theorem cw (h:vO G k S (.builtin id) g)(hm:G.mg x=none)(ha:EOs G k S (e::es) t)(hv:bootBuiltins x=some (.builtin id))(hg:S.sc.lookup x=some .globalImplicit:=by rfl)(hn:x≠"__name__":=by decide)(hdb:(x==("__debug__":Str))=false:=by decide)
  (he:∀ env,starEach (e::es) env=(false,eval e env)::starEach es env:=by exact λ_=>Vc.se_cons rfl) (hpl:∀ env,(backTo pos (starEach es env)).any (·.1)=false:=by intro _;rfl):EX G k S (.Call (.Name x p) (e::es) [] pos) (dH g t):=.mk λX Y ok=>by
 obtain⟨r,hc,hs⟩:=h;exact aE (wj (hc X Y ok) (dc ok hg) (by rw[ok.mg];exact hm) hv (ha X Y ok) hn hdb (he _) (hpl _)) λσ H Q q=>lU (by rw[ok.kf];exact hs) q
theorem HE (h:vO G k S (.type T) g)(hm:G.mg x=none)(ha:EOs G k S (e::es) t)(hv:bootBuiltins x=some (.type T))(hg:S.sc.lookup x=some .globalImplicit:=by rfl)(hn:x≠"__name__":=by decide)(hdb:(x==("__debug__":Str))=false:=by decide)
  (he:∀ env,starEach (e::es) env=(false,eval e env)::starEach es env:=by exact λ_=>Vc.se_cons rfl) (hpl:∀ env,(backTo pos (starEach es env)).any (·.1)=false:=by intro _;rfl):EX G k S (.Call (.Name x p) (e::es) [] pos) (dH g t):=.mk λX Y ok=>by
 obtain⟨r,hc,hs⟩:=h;exact aE (ik (hc X Y ok) (dc ok hg) (by rw[ok.mg];exact hm) hv (ha X Y ok) hn hdb (he _) (hpl _)) λσ H Q q=>lU (by rw[ok.kf];exact hs) q
end
def eE:List D->(EV->Prop)->Prop
 | [.lst xs],Q=>Q (.val (.int xs.length))
 | [.tup xs],Q=>Q (.val (.int xs.length))
 | [.scr ns],Q=>Q (.val (.int ns.length))
 | [.str z],Q=>z.length<=sizeLine/\Q (.val (.int z.length))
 | _,_=>False
theorem eF:vO G k S (.builtin "len") eE:=⟨λK xs H Q=>(∃ p ys,xs=[V.ref p]/\(SqL K H p ys\/SqT K H p ys)/\Q (V.int ys.length) H)\/∃ z,xs=[V.str z]/\z.length<=sizeLine/\Q (V.int z.length) H,λ_ _ _=>call_len_seq.or nk,λY F H σd σ vs ds Qd Q R r q g=>by
 unfold eE at q
 split at q
 ·obtain⟨v,rfl,rv⟩:=r.one
  obtain⟨p,us,rfl,h1,h2⟩:=rv.lst;exact .inl ⟨p,us,rfl,.inl (.inl h1),by rw[h2.length];exact g.val R (.int _) q⟩
 ·obtain⟨v,rfl,rv⟩:=r.one
  obtain⟨p,us,rfl,h1,h2⟩:=rv.tup R.fr;exact .inl ⟨p,us,rfl,.inr (.of h1),by rw[h2.length];exact g.val R (.int _) q⟩
 ·obtain⟨v,rfl,rv⟩:=r.one
  obtain⟨p,rfl,h1⟩:=rv.scr R.fr;exact .inl ⟨p,_,rfl,.inl h1,by rw[List.length_map];exact g.val R (.int _) q⟩
 ·obtain⟨v,rfl,rv⟩:=r.one
  obtain rfl:=rv.str;exact .inr ⟨_,rfl,q.1,g.val R (.int _) q.2⟩
 ·exact q.elim⟩
def DT:List D->(EV->Prop)->Prop
 | [.int i],Q=>Q (.val (.int (if i < 0 then -i else i)))
 | _,_=>False
theorem Qq:vO G k S (.builtin "abs") DT:=⟨λ_=>_,λ_ _ _=>wc,λY F H σd σ vs ds Qd Q R r q g=>by
 unfold DT at q
 split at q
 ·obtain⟨v,rfl,rv⟩:=r.one
  obtain rfl:=rv.int;exact⟨_,rfl,g.val R (.int _) q⟩
 ·exact q.elim⟩
def pX:List D->(EV->Prop)->Prop
 | [.int i,.int j],Q=>Q (.val (.int (if j > i then j else i)))
 | _,_=>False
def pY:List D->(EV->Prop)->Prop
 | [.int i,.int j],Q=>Q (.val (.int (if j < i then j else i)))
 | _,_=>False
theorem wD (hh:S.hot=false:=by rfl):vO G k S (.builtin "max") pX:=⟨λ_=>_,λ_ _ ok=>uU (ok.calm hh),λY F H σd σ vs ds Qd Q R r q g=>by
 unfold pX at q
 split at q
 ·obtain⟨v,u,rfl,rv,ru⟩:=r.two
  obtain rfl:=rv.int;obtain rfl:=ru.int;exact⟨_,_,rfl,g.val R (.int _) q⟩
 ·exact q.elim⟩
theorem wE (hh:S.hot=false:=by rfl):vO G k S (.builtin "min") pY:=⟨λ_=>_,λ_ _ ok=>uV (ok.calm hh),λY F H σd σ vs ds Qd Q R r q g=>by
 unfold pY at q
 split at q
 ·obtain⟨v,u,rfl,rv,ru⟩:=r.two
  obtain rfl:=rv.int;obtain rfl:=ru.int;exact⟨_,_,rfl,g.val R (.int _) q⟩
 ·exact q.elim⟩
def lV:List D->(EV->Prop)->Prop
 | [.lst xs],Q=>Q (.own xs)
 | [.tup xs],Q=>Q (.own xs)
 | _,_=>False
theorem HF:vO G k S (.type "list") lV:=⟨λK xs H Q=>∃ p ys,xs=[V.ref p]/\(SqL K H p ys\/SqT K H p ys)/\∀ l,H l=none->Q (.ref l) (bj H l (.lst ys)),λ_ _ ok=>nl,λY F H σd σ vs ds Qd Q R r q g=>by
 unfold lV at q
 split at q
 ·obtain⟨v,rfl,rv⟩:=r.one
  obtain⟨p,us,rfl,h1,h2⟩:=rv.lst;exact⟨p,us,rfl,.inl (.inl h1),g.own R h2 q⟩
 ·obtain⟨v,rfl,rv⟩:=r.one
  obtain⟨p,us,rfl,h1,h2⟩:=rv.tup R.fr;exact⟨p,us,rfl,.inr (.of h1),g.own R h2 q⟩
 ·exact q.elim⟩
def ip:List D->(EV->Prop)->Prop
 | [.lst xs],Q=>Q (.val (.tup xs))
 | [.tup xs],Q=>Q (.val (.tup xs))
 | _,_=>False
theorem tK:vO G k S (.type "tuple") ip:=⟨λK xs H Q=>∃ p ys,xs=[V.ref p]/\((SqL K H p ys/\∀ l,H l=none->Q (.ref l) (bj H l (.tup ys)))\/(SqT K H p ys/\Q (.ref p) H)),λ_ _ ok=>lg,λY F H σd σ vs ds Qd Q R r q g=>by
 unfold ip at q
 split at q
 ·obtain⟨v,rfl,rv⟩:=r.one
  obtain⟨p,us,rfl,h1,h2⟩:=rv.lst;exact⟨p,us,rfl,.inl ⟨.inl h1,g.tup R h2 q⟩⟩
 ·obtain⟨v,rfl,rv⟩:=r.one
  have rv':=rv;obtain⟨p,us,rfl,h1,h2⟩:=rv.tup R.fr;exact⟨p,us,rfl,.inr ⟨.of h1,g.val R rv' q⟩⟩
 ·exact q.elim⟩
end Vc


namespace Vc
open PySem L2
variable [KF]
variable {G:GE}{k:Nat}{S:Stat}

structure EndsD where
 nx:Sd->Prop
 rt:B->Sd->Prop
 bk:Sd->Prop:=λ_=>False
 ct:Sd->Prop:=λ_=>False
abbrev br:=EndsD->Sd->Prop
def UN (Y:Dyn)(F H:Hp)(σd:Sd)(σ:St)(v:V):B->Prop
 | .sh d=>Rep F v d
 | .own xs=>∃ a vs,v=.ref a/\H a=some (.lst vs)/\RepL F vs xs/\F a=none/\Y.H0 a=none/\NoOwn σd σ a
 | .obj o=>∃ a,v=.ref a/\o.rep F H a/\∀ b∈o.fp a,F b=none/\H b≠none/\Y.H0 b=none/\NoOwn σd σ b
structure EndOk (Y:Dyn)(F:Hp)(De:EndsD)(Dn:Ends):Prop where
 nx:∀ σ H F' σd,Same F F'->RS Y F' σd σ H->De.nx σd->Dn.nx σ H
 rt:∀ v σ H F' σd b,Same F F'->RS Y F' σd σ H->UN Y F' H σd σ v b->De.rt b σd->Dn.rt v H
 bk:∀ σ H F' σd,Same F F'->RS Y F' σd σ H->De.bk σd->Dn.bk σ H
 ct:∀ σ H F' σd,Same F F'->RS Y F' σd σ H->De.ct σd->Dn.ct σ H
theorem EndOk.mono {Y:Dyn}{F F':Hp}{De:EndsD}{Dn:Ends}(h:EndOk Y F De Dn)(s:Same F F'):EndOk Y F' De Dn :=
 ⟨λσ H F2 σd s2=>h.nx σ H F2 σd (s.trans s2),λv σ H F2 σd b s2=>h.rt v σ H F2 σd b (s.trans s2),λσ H F2 σd s2=>h.bk σ H F2 σd (s.trans s2),λσ H F2 σd s2=>h.ct σ H F2 σd (s.trans s2)⟩
def lS (Y:Dyn)(t:br):TS:=λDn σ H=>∃ F σd De,RS Y F σd σ H/\t De σd/\EndOk Y F De Dn
structure ES (G:GE)(k:Nat)(S:Stat)(st:Stmt)(t:br) :Prop where
 run:∀ X Y,XOk X G k S Y->PS X st (lS Y t)
instance {G:GE} {k:Nat} {S:Stat} {st:Stmt} {t:br} :CoeFun (ES G k S st t) λ_=>∀ X Y,XOk X G k S Y->PS X st (lS Y t):=⟨ES.run⟩
structure ESs (G:GE)(k:Nat)(S:Stat)(st:List Stmt)(t:br) :Prop where
 run:∀ X Y,XOk X G k S Y->PSs X st (lS Y t)
instance {G:GE} {k:Nat} {S:Stat} {st:List Stmt} {t:br} :CoeFun (ESs G k S st t) λ_=>∀ X Y,XOk X G k S Y->PSs X st (lS Y t):=⟨ESs.run⟩
section
variable {st:Stmt}{rest:List Stmt}{t u:br}{pos:Pos}
def jr:br:=λDe σ=>De.nx σ
def bn (t u:br):br:=λDe σ=>t { De with nx:=u De } σ
theorem bQ:ESs G k S [] jr:=.mk λX Y ok=>nv tB λDn σ H q=>by
 obtain⟨F,σd,De,R,q,K⟩:=q;exact K.nx σ H F σd (Same.refl _) R q
theorem am (h1:ES G k S st t)(h2:ESs G k S rest u):ESs G k S (st::rest) (bn t u):=.mk λX Y ok=>nv (pG (h1 X Y ok) (h2 X Y ok)) λDn σ H q=>by
 obtain⟨F,σd,De,R,q,K⟩:=q;refine⟨F,σd,_,R,q,⟨λσ' H' F' σd' s R' q'=>?_,K.rt,K.bk,K.ct⟩⟩;exact⟨F',σd',De,R',q',K.mono s⟩
theorem az (h1:ES G k S st t):ESs G k S [st] t:=.mk λX Y ok=>mU (h1 X Y ok)
def pZ:br:=λ_ _=>False
theorem eX:ES G k S st pZ:=.mk λX Y ok=>bA vT λDn σ H q=>by
 obtain⟨F,σd,De,R,q,K⟩:=q;exact q
def ce (c:TB)(t u:br):br:=λDe σ=>c σ λb σ1=>if b=true then t De σ1 else u De σ1
theorem cK {c:Expr}{a b:List Stmt}{tc:TB}(hc:EB G k S c tc)(ha:ESs G k S a t)(hb:ESs G k S b u):ES G k S (.If c a b pos) (ce tc t u):=.mk λX Y ok=>bA (ps_if (hc X Y ok) (ha X Y ok) (hb X Y ok)) λDn σ H q=>by
 obtain⟨F,σd,De,R,q,K⟩:=q;refine⟨F,σd,_,R,q,λb H1 F1 σ1 s1 R1 q1=>?_⟩;cases b with
 | true=>exact⟨F1,σ1,De,R1,q1,K.mono s1⟩
 | false=>exact⟨F1,σ1,De,R1,q1,K.mono s1⟩
def jt (t:TX):br:=λDe σ=>t σ λ_ σ1=>De.nx σ1
theorem bq {e:Expr}{te:TX}(he:EX G k S e te)(hs:∀ line env,swapsWith e none line env=pure false:=by intro _ _;rfl):ES G k S (.Expr e pos) (jt te):=.mk λX Y ok=>bA (mV (he X Y ok) (hs _ _)) λDn σ H q=>by
 obtain⟨F,σd,De,R,q,K⟩:=q;exact⟨F,σd,_,R,q,λv H1 F1 x σ1 s1 R1 r1 q1=>K.nx σ H1 F1 σ1 s1 R1 q1⟩
def dF (ios:List Nat)(t:TX):br:=λDe σ=>t σ λx σ1=>match x with
 | .val d=>De.rt (.sh d) σ1
 | .own xs=>De.rt (.own xs) σ1
 | .obj o=>De.rt (.obj o) σ1
 | .any=>False
 | .var i=>match σ1[i]? with
  | some (some (.own xs))=>i∉ios/\De.rt (.own xs) (σ1.set i none)
  | some (some (.sh d))=>De.rt (.sh d) σ1
  | some (some (.obj o))=>ios=[]/\De.rt (.obj o) (σ1.set i none)
  | _=>False
theorem RS.forget {Y:Dyn}{F:Hp}{σd:Sd}{σ:St}{H:Hp}{i:Nat}{b:B}(R:RS Y F σd σ H)(e:σd[i]?=some (some b))(hio:∀ p∈Y.io,p.1≠i):RS Y F (σd.set i none) σ H where
 len:=by simpa using R.len
 lo:=R.lo
 fr:=R.fr
 fro:=R.fro
 old:=R.old
 sh:=λj d q=>by
  by_cases hj:j=i
  ·subst hj;rw[aD e] at q;cases q
  ·rw[aL hj] at q;exact R.sh j d q
 own:=λj xs q=>by
  by_cases hj:j=i
  ·subst hj;rw[aD e] at q;cases q
  ·rw[aL hj] at q;exact R.own j xs q
 dis:=λj l xs ys a q1 q2 q3 q4=>by
  have hj:j≠i:=λz=>by subst z;rw[aD e] at q1;cases q1
  have hl:l≠i:=λz=>by subst z;rw[aD e] at q2;cases q2
  rw[aL hj] at q1;rw[aL hl] at q2;exact R.dis j l xs ys a q1 q2 q3 q4
 io:=λp hp=>by
  obtain⟨w1,ys,w2⟩:=R.io p hp;exact⟨w1,ys,by rw[aL (hio p hp)];exact w2⟩
 ob:=R.ob.put (λ_ _=>rfl) (λ_ z=>nomatch z) λ_ _ z=>nomatch z
theorem RS.nio {Y:Dyn}{F:Hp}{σd:Sd}{σ:St}{H:Hp}{i:Nat}{xs:List D}(R:RS Y F σd σ H)(h:σd[i]?=some (some (.own xs)))(hio:∀ p∈Y.io,p.1≠i){a:Addr}(q1:σ[i]?=some (some (.ref a))):Y.H0 a=none/\a∉Y.ioL:=by
 obtain⟨b,vs,w1,w2,w3,w4,w5⟩:=R.own i xs h;rw[q1] at w1;cases w1;have nin:a∉Y.ioL:=λq5=>by
  obtain⟨p,hp,e⟩:=List.mem_map.mp q5;obtain⟨z1,ys,z2⟩:=R.io p hp;exact absurd (R.dis p.1 i ys xs a z2 h (by rw[z1,e]) q1) (hio p hp)
 rcases w5 with w5|w5
 ·exact⟨w5,nin⟩
 ·exact absurd w5 nin
theorem aV {e:Expr}{te:TX}(he:EX G k S e te)(hblk:S.blk=false:=by rfl):ES G k S (.Return (some e) pos) (dF S.ios te):=.mk λX Y ok=>bA (ps_ret (he X Y ok)) λDn σ H q=>by
 obtain⟨F,σd,De,R,q,K⟩:=q;refine⟨F,σd,_,R,q,λv H1 F1 x σ1 s1 R1 r1 q1=>?_⟩;cases x with
 | val d=>exact K.rt v σ H1 F1 σ1 (.sh d) s1 R1 r1 q1
 | own xs=>exact K.rt v σ H1 F1 σ1 (.own xs) s1 R1 r1 q1
 | obj o=>exact K.rt v σ H1 F1 σ1 (.obj o) s1 R1 r1 q1
 | any=>exact False.elim q1
 | var i =>
  have r1:σ[i]?=some (some v):=r1;dsimp only at q1
  split at q1
  ·rename_i xs e
   obtain⟨a,vs,w1,w2,w3,w4,w5⟩:=R1.own i xs e;rw[r1] at w1;cases w1;have hio:∀ p∈Y.io,p.1≠i:=λp hp z=>q1.1 (z ▸ ok.ios p hp);refine K.rt _ σ H1 F1 _ (.own xs) s1 (R1.forget e hio) ⟨a,vs,rfl,w2,w3,w4,(R1.nio e hio r1).1,⟨λj ys e2 z=>?_,λ⟨j,o,c,e2,e3,hm⟩=>?_⟩⟩ q1.2
   ·by_cases hj:j=i
    ·subst hj;rw[aD e] at e2;cases e2
    ·rw[aL hj] at e2
     exact hj (R1.dis j i ys xs a e2 e z r1)
   ·have hj:j≠i:=λz=>by subst z;rw[aD e] at e2;cases e2
    rw[aL hj] at e2;exact R1.ob.dsx i xs a e r1 ⟨j,o,c,e2,e3,hm⟩
  ·rename_i d e
   obtain⟨v2,e2,r2⟩:=R1.sh i d e;rw[r1] at e2;cases e2;exact K.rt v σ H1 F1 σ1 (.sh d) s1 R1 r2 q1
  ·rename_i o e
   obtain⟨a,w1,w2,w3⟩:=R1.ob.obj i o e;rw[r1] at w1;cases w1;have hob:=ok.obs hblk q1.1;have hio:∀ p∈Y.io,p.1≠i:=λp hp z=>by
    have:=ok.ios p hp;rw[q1.1] at this;cases this
   refine K.rt _ σ H1 F1 _ (.obj o) s1 (R1.forget e hio) ⟨a,rfl,w2,λb hb=>⟨(w3 b hb).1,(w3 b hb).2.1,?_,⟨λj ys e2 z=>?_,λ⟨j,o2,c,e2,e3,hm⟩=>?_⟩⟩⟩ q1.2
   ·rcases (w3 b hb).2.2 with z|z
    ·exact z
    ·rw[hob] at z;cases z
   ·have hj:j≠i:=λz=>by subst z;rw[aD e] at e2;cases e2
    rw[aL hj] at e2;exact R1.ob.dsx j ys b e2 z ⟨i,o,a,e,r1,hb⟩
   ·have hj:j≠i:=λz=>by subst z;rw[aD e] at e2;cases e2
    rw[aL hj] at e2;exact R1.ob.dso j i o2 o c a e2 e e3 r1 hj b hm hb
  ·exact q1.elim
end

theorem gs {α:Type}{l:List α}{i j:Nat}{x y:α}(h:(l.set i x)[j]?=some y):(j=i/\y=x)\/(j≠i/\l[j]?=some y):=by
 by_cases hj:j=i
 ·subst hj
  by_cases hl:j < l.length
  ·rw[List.getElem?_set_self hl] at h;exact .inl ⟨rfl,(Option.some.inj h).symm⟩
  ·have:(l.set j x)[j]?=none:=by rw[List.getElem?_eq_none_iff];simp;omega
   rw[this] at h;cases h
 ·rw[List.getElem?_set_ne (Ne.symm hj)] at h;exact .inr ⟨hj,h⟩
theorem bh {α:Type}{l:List α}{i j:Nat}{x:α}(h:j≠i):(l.set i x)[j]?=l[j]?:=List.getElem?_set_ne (Ne.symm h)
theorem iZ {α:Type}{l:List α}{i:Nat}{x:α}(h:i < l.length):(l.set i x)[i]?=some x:=List.getElem?_set_self h
theorem wF {α:Type}{l:List α}{i j:Nat}{x y:α}(h:(l.set i x)[j]?=some y):j < l.length:=by
 have:=(List.getElem?_eq_some_iff.mp h).1;simpa using this
theorem RS.setSh {Y:Dyn}{F:Hp}{σd:Sd}{σ:St}{H:Hp}{i:Nat}{d:D}{v:V}(R:RS Y F σd σ H)(r:Rep F v d)(hio:∀ p∈Y.io,p.1≠i):RS Y F (σd.set i (some (.sh d))) (σ.set i (some v)) H where
 len:=by simpa using R.len
 lo:=R.lo
 fr:=R.fr
 fro:=R.fro
 old:=R.old
 sh:=λj e q=>by
  rcases gs q with ⟨rfl,z⟩|⟨hj,q'⟩
  ·cases z
   exact⟨v,iZ (by rw[<- R.len];exact wF q),r⟩
  ·obtain⟨u,w1,w2⟩:=R.sh j e q'
   exact⟨u,by rw[bh hj];exact w1,w2⟩
 own:=λj xs q=>by
  rcases gs q with ⟨_,z⟩|⟨hj,q'⟩
  ·cases z
  ·obtain⟨a,vs,w1,w2⟩:=R.own j xs q'
   exact⟨a,vs,by rw[bh hj];exact w1,w2⟩
 dis:=λj l xs ys a q1 q2 q3 q4=>by
  rcases gs q1 with ⟨_,z⟩|⟨hj,q1⟩
  ·cases z
  rcases gs q2 with ⟨_,z⟩|⟨hl,q2⟩
  ·cases z
  rw[bh hj] at q3;rw[bh hl] at q4;exact R.dis j l xs ys a q1 q2 q3 q4
 io:=λp hp=>by
  obtain⟨w1,ys,w2⟩:=R.io p hp;exact⟨by rw[bh (hio p hp)];exact w1,ys,by rw[bh (hio p hp)];exact w2⟩
 ob:=R.ob.put (λ_ hj=>bh hj) (λ_ z=>nomatch z) λ_ _ z=>nomatch z
theorem RS.setOwn {Y:Dyn}{F:Hp}{σd:Sd}{σ:St}{H:Hp}{i:Nat}{xs:List D}{a:Addr}{vs:List V}(R:RS Y F σd σ H)(h1:H a=some (.lst vs))(h2:RepL F vs xs)(h3:F a=none)(h4:Y.H0 a=none)(h5:NoOwn σd σ a)
  (hio:∀ p∈Y.io,p.1≠i):RS Y F (σd.set i (some (.own xs))) (σ.set i (some (.ref a))) H where
 len:=by simpa using R.len
 lo:=R.lo
 fr:=R.fr
 fro:=R.fro
 old:=R.old
 sh:=λj e q=>by
  rcases gs q with ⟨_,z⟩|⟨hj,q'⟩
  ·cases z
  ·obtain⟨u,w1,w2⟩:=R.sh j e q'
   exact⟨u,by rw[bh hj];exact w1,w2⟩
 own:=λj ys q=>by
  rcases gs q with ⟨rfl,z⟩|⟨hj,q'⟩
  ·cases z
   exact⟨a,vs,iZ (by rw[<- R.len];exact wF q),h1,h2,h3,.inl h4⟩
  ·obtain⟨b,us,w1,w2⟩:=R.own j ys q'
   exact⟨b,us,by rw[bh hj];exact w1,w2⟩
 dis:=λj l ys zs b q1 q2 q3 q4=>by
  rcases gs q1 with ⟨rfl,z⟩|⟨hj,q1⟩
  ·rcases gs q2 with ⟨e,z⟩|⟨hl,q2⟩
   ·exact e.symm
   ·rw[bh hl] at q4
    rcases gs q3 with ⟨_,z3⟩|⟨hc,_⟩
    ·cases z3
     exact absurd q4 (h5 l zs q2)
    ·exact absurd rfl hc
  ·rw[bh hj] at q3
   rcases gs q2 with ⟨e2,z⟩|⟨hl,q2⟩
   ·rcases gs q4 with ⟨_,z4⟩|⟨hc,_⟩
    ·cases z4
     exact absurd q3 (h5 j ys (by assumption))
    ·exact absurd e2 hc
   ·rw[bh hl] at q4
    exact R.dis j l ys zs b (by assumption) q2 q3 q4
 io:=λp hp=>by
  obtain⟨w1,ys,w2⟩:=R.io p hp;exact⟨by rw[bh (hio p hp)];exact w1,ys,by rw[bh (hio p hp)];exact w2⟩
 ob:=R.ob.put (λ_ hj=>bh hj) (λ_ z=>nomatch z) λys b _ z=>by
  rcases gs z with ⟨_,z2⟩|⟨hc,_⟩
  ·cases z2;exact h5.nob
  ·exact absurd rfl hc
theorem RS.setObj {Y:Dyn}{F:Hp}{σd:Sd}{σ:St}{H:Hp}{i:Nat}{o:O}{a:Addr}(R:RS Y F σd σ H)(h1:o.rep F H a)(h2:∀ b∈o.fp a,F b=none/\H b≠none/\Y.H0 b=none/\NoOwn σd σ b)
  (hio:∀ p∈Y.io,p.1≠i):RS Y F (σd.set i (some (.obj o))) (σ.set i (some (.ref a))) H where
 len:=by simpa using R.len
 lo:=R.lo
 fr:=R.fr
 fro:=R.fro
 old:=R.old
 sh:=λj e q=>by
  rcases gs q with ⟨_,z⟩|⟨hj,q'⟩
  ·cases z
  ·obtain⟨u,w1,w2⟩:=R.sh j e q'
   exact⟨u,by rw[bh hj];exact w1,w2⟩
 own:=λj ys q=>by
  rcases gs q with ⟨_,z⟩|⟨hj,q'⟩
  ·cases z
  ·obtain⟨b,us,w1,w2⟩:=R.own j ys q'
   exact⟨b,us,by rw[bh hj];exact w1,w2⟩
 dis:=λj l ys zs b q1 q2 q3 q4=>by
  rcases gs q1 with ⟨_,z⟩|⟨hj,q1⟩
  ·cases z
  rcases gs q2 with ⟨_,z⟩|⟨hl,q2⟩
  ·cases z
  rw[bh hj] at q3;rw[bh hl] at q4;exact R.dis j l ys zs b q1 q2 q3 q4
 io:=λp hp=>by
  obtain⟨w1,ys,w2⟩:=R.io p hp;exact⟨by rw[bh (hio p hp)];exact w1,ys,by rw[bh (hio p hp)];exact w2⟩
 ob:=by
  have at':∀ {j:Nat} {c:Addr},j=i->(σ.set i (some (.ref a)))[j]?=some (some (.ref c))->c=a:=λ{j c} e z=>by
   subst e;rcases gs z with ⟨_,z2⟩|⟨hc,_⟩
   ·cases z2;rfl
   ·exact absurd rfl hc
  refine⟨λj p q=>?_,λj l p p2 c d q1 q2 q3 q4 hne x hx hx2=>?_,λj ys b q1 q2 ⟨l,p,c,q3,q4,hm⟩=>?_,R.ob.there,R.ob.thz,R.ob.tab⟩
  ·rcases gs q with ⟨rfl,z⟩|⟨hj,q'⟩
   ·cases z
    exact⟨a,iZ (by rw[<- R.len];exact wF q),h1,λb hb=>⟨(h2 b hb).1,(h2 b hb).2.1,.inl (h2 b hb).2.2.1⟩⟩
   ·obtain⟨c,w1,w2⟩:=R.ob.obj j p q'
    exact⟨c,by rw[bh hj];exact w1,w2⟩
  ·rcases gs q1 with ⟨e1,z⟩|⟨hj,q1'⟩
   ·cases z
    rcases gs q2 with ⟨e2,z⟩|⟨hl,q2'⟩
    ·exact hne (e1.trans e2.symm)
    ·rw[bh hl] at q4
     have:=at' e1 q3;subst this;exact (h2 x hx).2.2.2.nob ⟨l,p2,d,q2',q4,hx2⟩
   ·rw[bh hj] at q3
    rcases gs q2 with ⟨e2,z⟩|⟨hl,q2'⟩
    ·cases z
     have:=at' e2 q4;subst this;exact (h2 x hx2).2.2.2.nob ⟨j,p,c,q1',q3,hx⟩
    ·rw[bh hl] at q4
     exact R.ob.dso j l p p2 c d q1' q2' q3 q4 hne x hx hx2
  ·rcases gs q1 with ⟨_,z⟩|⟨hj,q1'⟩
   ·cases z
   rw[bh hj] at q2;rcases gs q3 with ⟨e3,z⟩|⟨hl,q3'⟩
   ·cases z
    have:=at' e3 q4;subst this;exact (h2 b hm).2.2.2 j ys q1' q2
   ·rw[bh hl] at q4
    exact R.ob.dsx j ys b q1' q2 ⟨l,p,c,q3',q4,hm⟩
def Uc (ios:List Nat)(i:Nat)(x:EV)(σ:Sd)(Q:Sd->Prop):Prop:=match x with
 | .val d=>Q (σ.set i (some (.sh d)))
 | .own xs=>Q (σ.set i (some (.own xs)))
 | .obj o=>Q (σ.set i (some (.obj o)))
 | .any=>False
 | .var j=>match σ[j]? with
  | some (some (.own xs))=>j∉ios/\Q ((σ.set j (some (.sh (.lst xs)))).set i (some (.sh (.lst xs))))
  | some (some (.sh d))=>Q (σ.set i (some (.sh d)))
  | _=>False
theorem iq {Y:Dyn}{F:Hp}{σd:Sd}{σ:St}{H:Hp}{i:Nat}{v:V}{x:EV}{ios:List Nat}{Q:Sd->Prop}(R:RS Y F σd σ H)(r:DM Y F H σd σ v x)(hi:i∉ios)(hio:∀ p∈Y.io,p.1∈ios)(q:Uc ios i x σd Q) :
  ∃ F' σd',Same F F'/\RS Y F' σd' (σ.set i (some v)) H/\Q σd':=by
 have h0:∀ p∈Y.io,p.1≠i:=λp hp z=>hi (z ▸ hio p hp);cases x with
 | val d=>exact⟨F,_,Same.refl _,R.setSh r h0,q⟩
 | own xs =>
  obtain⟨a,vs,rfl,h1,h2,h3,h4,h5⟩:=r;exact⟨F,_,Same.refl _,R.setOwn h1 h2 h3 h4 h5 h0,q⟩
 | obj o =>
  obtain⟨a,rfl,h1,h2⟩:=r;exact⟨F,_,Same.refl _,R.setObj h1 h2 h0,q⟩
 | any=>exact False.elim q
 | var j =>
  have r:σ[j]?=some (some v):=r;unfold Uc at q;dsimp only at q
  split at q
  ·rename_i xs e
   obtain⟨F2,v2,s2,R2,e2,r2⟩:=R.freezeVar e λp hp z=>q.1 (z ▸ hio p hp);rw[r] at e2;cases e2;exact⟨F2,_,s2,R2.setSh r2 h0,q.2⟩
  ·rename_i d e
   obtain⟨v2,e2,r2⟩:=R.sh j d e;rw[r] at e2;cases e2;exact⟨F,_,Same.refl _,R.setSh r2 h0,q⟩
  ·exact q.elim
def cU (ios:List Nat)(i:Nat)(t:TX):br:=λDe σ=>t σ λx σ1=>Uc ios i x σ1 De.nx
theorem jZ {X:Cx}{Y:Dyn}(ok:XOk X G k S Y){x:Str}(h:S.sc.lookup x=some .local\/(S.sc.lookup x=some .cell/\S.blk=false)):L2.Loc X.env.scope x:=by
 unfold L2.Loc;rw[ok.sc];exact h.imp id (·.1)
theorem kc {X:Cx}{Y:Dyn}(ok:XOk X G k S Y){x:Str}(h:S.sc.lookup x=some .local\/(S.sc.lookup x=some .cell/\S.blk=false)):X.fn x=true\/X.env.scope.names.lookup x=some .local:=by
 rcases h with h|h
 ·right;rw[ok.sc];exact h
 ·left;exact ok.fn h.2 x h.1
theorem bo (i:Nat){x:Str}{e:Expr}{te:TX}{pos pos':Pos}(he:EX G k S e te)(hi:S.N[i]?=some x:=by rfl)(hx:S.sc.lookup x=some .local\/(S.sc.lookup x=some .cell/\S.blk=false):=by first|exact Or.inl rfl|exact Or.inr ⟨rfl,rfl⟩)(hn:i∉S.ios:=by first|decide|exact List.not_mem_nil | (dsimp only;decide))
  (hs:∀ line env,swapsWith e (some (.Name x pos')) line env=pure false:=by intro _ _;rfl):ES G k S (.Assign [.Name x pos'] e pos) (cU S.ios i te):=.mk λX Y ok =>
 bA (L2.ps_set (i:=i) (by rw[ok.N];exact ok.nd) (by rw[ok.N];exact hi) (jZ ok hx) (he X Y ok) (hs _ _) (kc ok hx)) λDn σ H q=>by
  obtain⟨F,σd,De,R,q,K⟩:=q;refine⟨F,σd,_,R,q,λv H1 F1 y σ1 s1 R1 r1 q1=>?_⟩;obtain⟨F2,σ2,s2,R2,q2⟩:=iq R1 r1 hn ok.ios q1;exact K.nx _ H1 F2 σ2 (s1.trans s2) R2 q2
theorem RS.write {Y:Dyn}{F:Hp}{σd:Sd}{σ:St}{H:Hp}{i:Nat}{xs ys:List D}{a:Addr}{us:List V}(R:RS Y F σd σ H)(e:σd[i]?=some (some (.own xs)))(h:σ[i]?=some (some (.ref a)))(r:RepL F us ys) :
  RS Y F (σd.set i (some (.own ys))) σ (bj H a (.lst us)):=by
 obtain⟨b,vs,w1,w2,w3,w4,w5⟩:=R.own i xs e;rw[h] at w1;cases w1;have hl:i < σd.length:=(List.getElem?_eq_some_iff.mp e).1;have hob:Obs Y F (σd.set i (some (.own ys))) σ (bj H a (.lst us)):=R.ob.step (Same.refl _) (λj o q=>by
  rcases gs q with ⟨_,z⟩|⟨hj,q⟩
  ·cases z
  ·exact⟨q,rfl⟩) (λb hb=>by
  obtain⟨z1,z2,z3⟩:=R.ob.owned hb;have hne:b≠a:=λz=>R.ob.dsx i xs a e h (z ▸ hb);exact⟨ah hne,z1,z3⟩) (λj zs b q1 q2=>by
  rcases gs q1 with ⟨e1,_⟩|⟨hj,q1⟩
  ·subst e1
   rw[h] at q2;cases q2;exact R.ob.dsx j xs a e h
  ·exact R.ob.dsx j zs b q1 q2) λb hb=>by
  by_cases hne:b=a
  ·rw[hne,ao];exact λz=>nomatch z
  ·rw[ah hne];exact R.ob.there b hb
 refine⟨by simpa using R.len,R.lo,λb o q=>?_,R.fro,λb o q n=>?_,λj d q=>?_,λj zs q=>?_,λj l zs qs b q1 q2 q3 q4=>?_,λp hp=>?_,hob⟩
 ·have:b≠a:=λz=>by rw[z,w4] at q;cases q
  rw[ah this];exact R.fr b o q
 ·have:b≠a:=λz=>by
   subst z;rcases w5 with w5|w5
   ·rw[w5] at q;cases q
   ·exact Dyn.ioL_sub n w5
  rw[ah this];exact R.old b o q n
 ·rcases gs q with ⟨_,z⟩|⟨hj,q⟩
  ·cases z
  ·exact R.sh j d q
 ·rcases gs q with ⟨rfl,z⟩|⟨hj,q⟩
  ·cases z
   exact⟨a,us,h,ao,r,w4,w5⟩
  ·obtain⟨b,ws,z1,z2,z3,z4,z5⟩:=R.own j zs q
   have:b≠a:=λz=>hj (R.dis j i zs xs a q e (z ▸ z1) h);exact⟨b,ws,z1,by rw[ah this];exact z2,z3,z4,z5⟩
 ·have f:∀ {m:Nat} {ms:List D},(σd.set i (some (B.own ys)))[m]?=some (some (B.own ms))->∃ ms',σd[m]?=some (some (B.own ms')):=λ{m ms} q=>by
   rcases gs q with ⟨rfl,z⟩|⟨hj,q⟩
   ·exact⟨xs,e⟩
   ·exact⟨_,q⟩
  obtain⟨_,q1⟩:=f q1;obtain⟨_,q2⟩:=f q2;exact R.dis j l _ _ b q1 q2 q3 q4
 ·obtain⟨z1,zs,z2⟩:=R.io p hp
  refine⟨z1,?_⟩
  by_cases hp':p.1=i
  ·exact⟨ys,by rw[hp',iZ hl]⟩
  ·exact⟨zs,by rw[bh hp'];exact z2⟩
def tL (σ:Sd)(i:Nat):Prop:=∃ xs,σ[i]?=some (some (B.own xs))
def HG (i:Nat)(d:D)(σ:Sd)(Q:Sd->Prop):Prop:=match σ[i]? with
 | some (some (.own xs))=>xs.length < sizeLine/\Q (σ.set i (some (.own (xs++[d]))))
 | _=>False
def wG (to:TV)(te:TD):TX:=λσ Q=>to σ λx σ1=>match x with
 | .var i=>tL σ1 i/\te σ1 λd σ2=>HG i d σ2 λσ3=>Q (.val .non) σ3
 | _=>False
theorem qa {o e:Expr}{to:TV}{te:TD}{apos cpos:Pos}(ho:EO G k S o to)(he:ED G k S e te)(hb:∀ env,attributeBase o "append" env (eval o env)=eval o env:=by intro _;rfl)
  (hfew:∀ env,((backTo cpos (starEach [e] env)).all (λx=>!x.1)&&(backToKw cpos (keywordEach [] env)).all (λx=>x.1.isSome)&&decide (([e]:List Expr).length+([]:List Keyword).length+(if ([]:List Keyword).isEmpty then 0 else 1) < 30))=true:=by intro _;rfl)
  (hline:(apos.endLine==cpos.line)=true:=by rfl) (hs:∀ env,starEach [e] env=[(false,eval e env)]:=by intro _;rfl):EX G k S (.Call (.Attribute o "append" apos) [e] [] cpos) (wG to te):=.mk λX Y ok=>by
 have ha:PA X [e] (lr (lD Y te) pI):=cc (he X Y ok) eA (by rw[hs];rfl)
 refine aE (FC F.plainAttrs_list F.slot_list_append F.type_list_append lC (ho X Y ok) ha (hb _) (hfew _) hline (by rw[hs];rfl) (by rfl)) λσ H Q q=>?_
 obtain⟨F,σd,Qd,R,q,K⟩:=q;refine⟨F,σd,_,R,q,λv1 H1 F1 x σ1 s1 R1 r1 q1=>?_⟩;cases x with
 | val d=>exact q1.elim
 | any=>exact q1.elim
 | var i =>
  obtain⟨⟨ys,e0⟩,q1⟩:=q1;have r1:σ[i]?=some (some v1):=r1;obtain⟨a,vs,w1,w2,w3,w4,w5⟩:=R1.own i ys e0;rw[r1] at w1;cases w1;refine⟨.inl ⟨rfl,vs,.of w2⟩,F1,σ1,_,R1,q1,λv2 H2 F2 d σ2 s2 R2 r2 q2=>?_⟩;unfold HG at q2
  split at q2
  ·rename_i xs e2
   obtain⟨b,us,z1,z2,z3,z4,z5⟩:=R2.own i xs e2;rw[r1] at z1;cases z1;exact⟨a,us,v2,rfl,rfl,z2,by rw[z3.length];exact q2.1,K .non _ F2 (.val .non) _ (s1.trans s2) (R2.write e2 r1 (z3.append (.cons r2 .nil))) .non q2.2⟩
  ·exact q2.elim
end Vc


namespace Vc
open PySem L2
variable [KF]
variable {G:GE}{k:Nat}{S:Stat}

abbrev aK:=List D->(B->Prop)->Prop
def wH (H F H':Hp)(v:V):B->Prop
 | .sh d=>Rep F v d
 | .own xs=>∃ a vs,v=.ref a/\H' a=some (.lst vs)/\RepL F vs xs/\F a=none/\H a=none
 | .obj o=>∃ a,v=.ref a/\o.rep F H' a/\∀ b∈o.fp a,F b=none/\H' b≠none/\H b=none
def wI (sp:aK):Sp:=λvs H Q _=>∃ F ds Qd,iW F H/\RepL F vs ds/\sp ds Qd /\
 ∀ v H' F' b,Same F F'->Same F' H'->Same H H'->(∀ c o,F' c=some o->F c=some o\/Nw H c o)->wH H F' H' v b->Qd b->Q v H'
theorem RS.call {Y:Dyn}{F F':Hp}{σd:Sd}{σ:St}{H H':Hp}(R:RS Y F σd σ H)(s1:Same F F')(s2:Same F' H')(s3:Same H H')(fr:∀ c o,F' c=some o->F c=some o\/Nw H c o):RS Y F' σd σ H' where
 len:=R.len
 lo:=R.lo.trans s1
 fr:=s2
 fro:=λb o e=>by
  rcases fr b o e with h|h
  ·exact R.fro b o h
  ·exact .inr (h.imp (λh=>(R.fresh0 h).1) id)
 old:=λb o e n=>s3 b o (R.old b o e n)
 sh:=λi d e=>by
  obtain⟨v,h1,h2⟩:=R.sh i d e;exact⟨v,h1,h2.mono s1⟩
 own:=λi xs e=>by
  obtain⟨a,vs,h1,h2,h3,h4,h5⟩:=R.own i xs e;refine⟨a,vs,h1,s3 a _ h2,h3.mono s1,?_,h5⟩;cases q:F' a with
  | none=>rfl
  | some o =>
   rcases fr a o q with h|h
   ·rw[h4] at h;cases h
   ·rcases h with h|⟨ws,rfl⟩
    ·rw[h2] at h;cases h
    ·have z:=s2 a _ q;rw[s3 a _ h2] at z;cases z
 dis:=R.dis
 io:=R.io
 ob:=by
  have up:∀ b,H b≠none->H' b=H b:=λb hb=>by
   cases q:H b with
   | none=>exact absurd q hb
   | some o=>exact s3 b o q
  refine R.ob.step s1 (λ_ _ e=>⟨e,rfl⟩) (λb hb=>?_) R.ob.dsx λb hb=>by rw[up b (R.ob.there b hb)];exact R.ob.there b hb
  obtain⟨w1,w2,w3⟩:=R.ob.owned hb;refine⟨up b w2,?_,w3⟩;cases q:F' b with
  | none=>rfl
  | some o =>
   rcases fr b o q with h|h
   ·rw[w1] at h;cases h
   ·rcases h with h|⟨ws,rfl⟩
    ·exact absurd h w2
    ·exact absurd (by rw[<- up b w2];exact s2 b _ q) (R.ob.notup hb)
def FnG (G:GE)(k:Nat)(x:Str)(sp:aK):Prop:=∃ f fd ps,FnOk G.P G.w G.K G.mg G.base fv k f fd ps (wI sp)/\G.mg x=some (.ref f)/\PySem.W.keepIn G.K (.ref f)=true/\Binds G.K fd ps []
theorem FnG.mono {x:Str}{sp:aK}{j:Nat}(h:FnG G j x sp)(l:j<=k):FnG G k x sp:=by
 obtain⟨f,fd,ps,h1,h2,h3,h4⟩:=h;exact⟨f,fd,ps,h1.mono l,h2,h3,h4⟩
def bE:B->EV
 | .sh d=>.val d
 | .own xs=>.own xs
 | .obj o=>.obj o
def Cl (sp:aK)(ds:List D)(Q:B->Prop):Prop:=sp ds Q
def ei (sp:aK)(t:dq):TX:=λσ Q=>t σ λds σ1=>Cl sp ds λb=>Q (bE b) σ1
theorem aJ {x:Str}{sp:aK}{e:Expr}{es:List Expr}{t:dq}{p pos:Pos}(h:FnG G k x sp)(ha:EDs G k S (e::es) t)(hg:S.sc.lookup x=some .globalImplicit:=by rfl)(hdb:(x==("__debug__":Str))=false:=by decide)
  (he:∀ env,starEach (e::es) env=(false,eval e env)::starEach es env:=by exact λ_=>Vc.se_cons rfl) (hpl:∀ env,(backTo pos (starEach es env)).any (·.1)=false:=by intro _;rfl) (hh:S.hot=false:=by rfl):EX G k S (.Call (.Name x p) (e::es) [] pos) (ei sp t):=.mk λX Y ok=>by
 obtain⟨f,fd,ps,h1,h2,h3,h4⟩:=h;have h1':FnOk X.prog X.w X.K X.mg X.base fv k f fd ps (wI sp):=by rw[ok.P,ok.w,ok.K,ok.mg,ok.base];exact h1
 refine aE (jp (E:=E0) (dvs:=[]) (ds:=[]) h1' (ok.room hh) (dc ok hg) (by rw[ok.mg];exact h2) (by rw[ok.K];exact h3) (by rw[ok.K];exact h4) .nil iT (ha X Y ok) hdb (he _) (hpl _)) λσ H Q q=>?_
 obtain⟨F,σd,Qd,R,q,K⟩:=q;refine⟨F,σd,_,R,q,λvs H1 F1 ds σ1 s1 R1 r1 q1=>?_⟩;show wI sp (vs++[]) H1 Q E0;rw[List.append_nil];refine⟨F1,ds,_,⟨R1.fr,R1.ob.tab⟩,r1,q1,λv H' F' b s2 s3 s4 fr r2 q2=>?_⟩;have R2:=R1.call s2 s3 s4 fr;cases b with
 | sh d=>exact K v H' F' (.val d) σ1 (s1.trans s2) R2 r2 q2
 | own xs =>
  obtain⟨a,us,rfl,w1,w2,w3,w4⟩:=r2;refine K _ H' F' (.own xs) σ1 (s1.trans s2) R2 ⟨a,us,rfl,w1,w2,w3,(R1.fresh0 w4).1,R1.noFresh w4⟩ q2
 | obj o =>
  obtain⟨a,rfl,w1,w2⟩:=r2;exact K _ H' F' (.obj o) σ1 (s1.trans s2) R2 ⟨a,rfl,w1,λb hb=>⟨(w2 b hb).1,(w2 b hb).2.1,(R1.fresh0 (w2 b hb).2.2).1,R1.noFresh (w2 b hb).2.2⟩⟩ q2

def aB (n:Nat)(ds:List D):Sd:=ds.map (λd=>some (.sh d))++List.replicate (n - ds.length) none
theorem kh {F:Hp}:∀ {vs:List V} {ds:List D} (m:Nat) {i:Nat} {d:D},RepL F vs ds->(ds.map (λd=>some (B.sh d))++List.replicate m none)[i]?=some (some (.sh d))->∃ v,(vs.map some++List.replicate m none)[i]?=some (some v)/\Rep F v d
 | [],[],m,i,d,.nil,e=>by
  simp only[List.map_nil,List.nil_append,List.getElem?_replicate] at e
  split at e<;>cases e
 | v::vs,x::ds,m,0,d,.cons r t,e=>by
  simp at e;subst e;exact⟨v,by simp,r⟩
 | v::vs,x::ds,m,i+1,d,.cons r t,e=>by
  obtain⟨u,h1,h2⟩:=kh (i:=i) m t (by simpa using e)
  exact⟨u,by simpa using h1,h2⟩
theorem dw:∀ (ds:List D) (m i:Nat) (xs:List D),(ds.map (λd=>some (B.sh d))++List.replicate m none)[i]?≠some (some (.own xs))
 | [],m,i,xs=>by
  simp only[List.map_nil,List.nil_append,List.getElem?_replicate];intro e
  split at e<;>cases e
 | x::ds,m,0,xs=>by simp
 | x::ds,m,i+1,xs=>by
  have:=dw ds m i xs;simpa using this
theorem ir:∀ (ds:List D) (m i:Nat) (o:O),(ds.map (λd=>some (B.sh d))++List.replicate m none)[i]?≠some (some (.obj o))
 | [],m,i,o=>by
  simp only[List.map_nil,List.nil_append,List.getElem?_replicate];intro e
  split at e<;>cases e
 | x::ds,m,0,o=>by simp
 | x::ds,m,i+1,o=>by
  have:=ir ds m i o;simpa using this
theorem RS.start {F H:Hp}{vs:List V}{ds:List D}(n:Nat)(s:iW F H)(r:RepL F vs ds):RS ⟨H,F,[],[]⟩ F (aB n ds) (vs.map some++List.replicate (n - vs.length) none) H where
 len:=by unfold aB;simp [r.length]
 lo:=Same.refl _
 fr:=s.1
 fro:=λb o e=>.inl e
 old:=λb o e _=>e
 sh:=λi d e=>by
  rw[r.length];exact kh _ r e
 own:=λi xs e=>absurd e (dw _ _ _ _)
 dis:=λi j xs ys a e=>absurd e (dw _ _ _ _)
 io:=λp hp=>absurd hp (by simp)
 ob:=.none (λi o=>ir _ _ _ _) s.2 λb hb=>by cases hb
theorem wJ {x qual:Str}{st:Stmt}{f:Addr}{fd:FuncData}{N ps:List Str}{sp:aK}{t:br}(hK:G.K=KF.K)(Fn:Fun G.K x qual st f fd)(Sc:FnScope N ps (aa st))(ht:ESs G k ⟨N,(aa st).names,[],false,false,false,λ_ _=>False⟩ (ag st) t)
  (len:∀ ds Q,sp ds Q->ds.length=ps.length)
  (body:∀ ds Q,sp ds Q->t { nx:=λ_=>Q (.sh .non),rt:=λb _=>Q b } (aB N.length ds)):FnOk G.P G.w G.K G.mg G.base fv (k+1) f fd ps (wI sp):=by
 refine Fn.ok Sc (λvs H Q E h=>?_) (λcdv A outer s H vs Q E hr h=>?_)
 ·obtain⟨F,ds,Qd,s,r,q,K⟩:=h
  rw[r.length];exact len _ _ q
 ·obtain⟨F,ds,Qd,sm,r,q,K⟩:=h
  refine⟨_,ht (jN fv G.P G.w G.K G.mg G.base N qual (aa st) f cdv A outer s H E).nox ⟨H,F,[],[]⟩ ⟨rfl,rfl,rfl,hK,rfl,rfl,rfl,rfl,Sc.nd,λp hp=>absurd hp (by simp),λ_ _=>rfl,λ_=>rfl,Sc.kind,λ_ _ _=>rfl,λ_=>hr.hd,hr.dp,hr.un,λ_=>PassesOwn.never,λ_=>⟨rfl,rfl,rfl⟩,λ_ _ h=>h.elim,λh=>nomatch h⟩,F,aB N.length ds,_,RS.start _ sm r,body ds Qd q,?_⟩
  have same:∀ {F':Hp} {σd:Sd} {σ:St} {H':Hp},RS ⟨H,F,[],[]⟩ F' σd σ H'->Same H H':=λR b o e=>R.old b o e (by simp [Dyn.ioA])
  refine⟨λσ H' F' σd s' R' q'=>?_,λv σ H' F' σd b s' R' r' q'=>?_,λ_ _ _ _ _ _ h=>h.elim,λ_ _ _ _ _ _ h=>h.elim⟩
  ·exact K .non H' F' (.sh .non) s' R'.fr (same R') R'.fro .non q'
  ·refine K v H' F' b s' R'.fr (same R') R'.fro ?_ q'
   cases b with
   | sh d=>exact r'
   | own xs =>
    obtain⟨a,us,rfl,w1,w2,w3,w4,w5⟩:=r';exact⟨a,us,rfl,w1,w2,w3,w4⟩
   | obj o =>
    obtain⟨a,rfl,w1,w2⟩:=r';exact⟨a,rfl,w1,λb hb=>⟨(w2 b hb).1,(w2 b hb).2.1,(w2 b hb).2.2.1⟩⟩
end Vc


namespace Vc
open PySem L2
variable [KF]
variable {G:GE}{k:Nat}{S:Stat}

abbrev jn:=D->Sd->(Sd->Prop)->Prop
def lG (Y:Dyn)(g:jn):TG:=λv σ H Q=>∃ F σd d Qd,RS Y F σd σ H/\Rep F v d/\g d σd Qd/\∀ σ' H' F' σd',Same F F'->RS Y F' σd' σ' H'->Qd σd'->Q σ' H'
structure EG (G:GE)(k:Nat)(S:Stat)(tg:Expr)(g:jn) :Prop where
 run:∀ X Y,XOk X G k S Y->PG X tg (lG Y g)
instance {G:GE} {k:Nat} {S:Stat} {tg:Expr} {g:jn} :CoeFun (EG G k S tg g) λ_=>∀ X Y,XOk X G k S Y->PG X tg (lG Y g):=⟨EG.run⟩
theorem wK {X:Cx}{e:Expr}{t t':TG}(h:PG X e t)(i:∀ v σ H Q,t' v σ H Q->t v σ H Q):PG X e t':=λpins s σ H v u Q I r q=>h pins s σ H v u Q I r (i v σ H Q q)
def dI (i:Nat):jn:=λd σ Q=>Q (σ.set i (some (.sh d)))
theorem aP (i:Nat){x:Str}{pos:Pos}(hi:S.N[i]?=some x:=by rfl)(hx:S.sc.lookup x=some .local\/(S.sc.lookup x=some .cell/\S.blk=false):=by first|exact Or.inl rfl|exact Or.inr ⟨rfl,rfl⟩)(hn:i∉S.ios:=by first|decide|exact List.not_mem_nil | (dsimp only;decide)):EG G k S (.Name x pos) (dI i):=.mk λX Y ok =>
 wK (pg_name (i:=i) (by rw[ok.N];exact ok.nd) (by rw[ok.N];exact hi) (jZ ok hx) (kc ok hx)) λv σ H Q q=>by
  obtain⟨F,σd,d,Qd,R,r,q,K⟩:=q;exact K _ H F _ (Same.refl _) (R.setSh r λp hp z=>hn (z ▸ ok.ios p hp)) q
abbrev nB:=List D->Sd->(Sd->Prop)->Prop
def VI (Y:Dyn)(g:nB):FA:=λvs σ H Q=>∃ F σd ds Qd,RS Y F σd σ H/\RepL F vs ds/\g ds σd Qd/\∀ σ' H' F' σd',Same F F'->RS Y F' σd' σ' H'->Qd σd'->Q σ' H'
structure EGs (G:GE)(k:Nat)(S:Stat)(ts:List Expr)(g:nB) :Prop where
 run:∀ X Y,XOk X G k S Y->Pl X ts (VI Y g)
instance {G:GE} {k:Nat} {S:Stat} {ts:List Expr} {g:nB} :CoeFun (EGs G k S ts g) λ_=>∀ X Y,XOk X G k S Y->Pl X ts (VI Y g):=⟨EGs.run⟩
def FJ:nB:=λds σ Q=>match ds with
 | []=>Q σ
 | _=>False
def gC (g:jn)(u:nB):nB:=λds σ Q=>match ds with
 | d::r=>g d σ λσ1=>u r σ1 Q
 | []=>False
theorem ki:EGs G k S [] FJ:=.mk λX Y ok pins s σ H vs us Q I r q=>Dt pins s σ H vs us Q I r (by
 obtain⟨F,σd,ds,Qd,R,rr,q,K⟩:=q;cases rr with
 | nil=>exact⟨rfl,K σ H F σd (Same.refl _) R q⟩
 | cons _ _=>exact q.elim)
theorem bW {e:Expr}{es:List Expr}{g:jn}{u:nB}(h1:EG G k S e g)(h2:EGs G k S es u)(hs:∀ env,(assignEach (e::es) env).map (·.2)=assign e env::(assignEach es env).map (·.2):=by intro _;rfl):EGs G k S (e::es) (gC g u):=.mk λX Y ok pins s σ H vs us Q I r q =>
 vU (h1 X Y ok) (h2 X Y ok) (hs _) pins s σ H vs us Q I r (by
  obtain⟨F,σd,ds,Qd,R,rr,q,K⟩:=q;cases rr with
  | nil=>exact q.elim
  | cons r1 rs =>
   refine⟨_,_,rfl,F,σd,_,_,R,r1,q,λσ1 H1 F1 σd1 s1 R1 q1=>?_⟩;exact⟨F1,σd1,_,_,R1,rs.mono s1,q1,λσ2 H2 F2 σd2 s2 R2 q2=>K σ2 H2 F2 σd2 (s1.trans s2) R2 q2⟩)
def FK (n:Nat)(u:nB):jn:=λd σ Q=>match d with
 | .tup xs=>xs.length=n/\u xs σ Q
 | _=>False
theorem qb {es:List Expr}{kk:Nat}{u:nB}{n:Nat}{pos:Pos}(h:EGs G k S es u)(hn:∀ env,(assignEach es env).length=n:=by intro _;rfl)(hst:∀ env,(assignEach es env).findIdx? (·.1)=none:=by intro _;rfl)(hh:S.hot=false:=by rfl):EG G k S (.Tuple es kk pos) (FK n u):=.mk λX Y ok =>
 wK (GR (ok.calm hh) (h X Y ok) (hn _) (hst _)) λv σ H Q q=>by
  obtain⟨F,σd,d,Qd,R,r,q,K⟩:=q;cases d with
  | tup xs =>
   cases r with
   | tup hf rl =>
    exact⟨_,_,rfl,.of (R.fr _ _ hf),by rw[rl.length];exact q.1,F,σd,xs,Qd,R,rl,q.2,K⟩
  | _=>exact q.elim

def Grow (F1 H1 F2 H2:Hp):Prop:=(F2=F1/\H2=H1)\/∃ p o,H1 p=none/\F2=bj F1 p o/\H2=bj H1 p o
theorem Grow.same {F1 H1 F2 H2:Hp}(g:Grow F1 H1 F2 H2)(s:Same F1 H1):Same F1 F2:=by
 rcases g with ⟨rfl,rfl⟩|⟨p,o,h,rfl,rfl⟩
 ·exact Same.refl _
 ·exact ay (aM s h)
theorem Grow.rs {Y:Dyn}{F1 H1 F2 H2:Hp}{σd:Sd}{σ:St}(g:Grow F1 H1 F2 H2)(R:RS Y F1 σd σ H1):RS Y F2 σd σ H2:=by
 rcases g with ⟨rfl,rfl⟩|⟨p,o,h,rfl,rfl⟩
 ·exact R
 ·exact R.alloc h
def ItRep (F:Hp)(J:It)(items:List D):Prop:=∀ F1 H1,Same F F1->Same F1 H1->∀ i:Nat,
 (∀ x,items[i]?=some x->J.go i H1/\∀ v H2,J.yld i H1 v H2->∃ F2,Grow F1 H1 F2 H2/\Rep F2 v x)/\(i=items.length->J.stop i H1)
theorem ItRep.mono {F F':Hp}{J:It}{items:List D}(h:ItRep F J items)(s:Same F F'):ItRep F' J items:=λF1 H1 s1=>h F1 H1 (s.trans s1)
def lI (Y:Dyn)(t:dq):TI:=λσ H R=>∃ F σd Qd,RS Y F σd σ H/\t σd Qd/\∀ H' F' σd' J items,Same F F'->RS Y F' σd' σ H'->ItRep F' J items->Qd items σd'->R J H'
structure EI (G:GE)(k:Nat)(S:Stat)(tg iter:Expr)(t:dq) :Prop where
 run:∀ X Y,XOk X G k S Y->PI X tg iter (lI Y t)
instance {G:GE} {k:Nat} {S:Stat} {tg iter:Expr} {t:dq} :CoeFun (EI G k S tg iter t) λ_=>∀ X Y,XOk X G k S Y->PI X tg iter (lI Y t):=⟨EI.run⟩
theorem nC {X:Cx}{tg e:Expr}{t t':TI}(h:PI X tg e t)(i:∀ σ H Q,t' σ H Q->t σ H Q):PI X tg e t':=λpins s σ H Q I q=>h pins s σ H Q I (i σ H Q q)
theorem wL {X:Cx}{tg l:Expr}{tl:TE}(hl:PE X l tl):PI X tg l (λσ H R=>tl σ H λx H1=>(∃ a,x=.ref a/\(∃ xs,SqL X.K H1 a xs)/\R (TW X.K a) H1)\/(∃ a,x=.ref a/\(∃ xs,SqT X.K H1 a xs)/\R (Ux X.K a) H1)):=by
 intro pins s σ H R I h;refine bG (hl pins s σ H _ I h) λv s1 ⟨x,H1,I1,r1,q1⟩=>?_;rcases q1 with ⟨a,e,⟨xs,hq⟩,q⟩|⟨a,e,⟨xs,hq⟩,q⟩
 ·subst e
  cases r1;obtain⟨its,rv,p,hz⟩:=I1.list hq;refine wpAny_pyIter_list p.isList ?_;refine⟨s1.heap.objs.size,[s1.heap.objs.size],_,_,H1,rfl,I1.kept (t':=s1.toks) λb o e=>Heap.get?_push_of_some _ e,uQ a _,⟨_,Heap.get?_push_size _ rfl,rfl,rfl⟩,λb hb=>?_,q⟩;have e:b=s1.heap.objs.size:=by simpa using hb
  subst e;exact I1.fpOk (Nat.le_refl _) (I1.hok.fresh (Nat.le_refl _))
 ·subst e
  cases r1;obtain⟨its,rv,p,hz⟩:=I1.tuple hq;refine wpAny_pyIter_tuple (show s1.heap.IsTuple a its.toArray from p) ?_
  refine⟨s1.heap.objs.size,[s1.heap.objs.size],_,_,H1,rfl,I1.kept (t':=s1.toks) λb o e=>Heap.get?_push_of_some _ e,sf a _,⟨_,Heap.get?_push_size _ rfl,rfl,rfl⟩,λb hb=>?_,q⟩;have e:b=s1.heap.objs.size:=by simpa using hb
  subst e;exact I1.fpOk (Nat.le_refl _) (I1.hok.fresh (Nat.le_refl _))
theorem DU {K:PySem.W.Frag}{F:Hp}{a:Addr}{vs:List V}{xs:List D}(h:Rd F a (.lst vs))(r:RepL F vs xs):ItRep F (TW K a) xs:=λF1 H1 s1 s2 i=>by
 have hs:SqL K H1 a vs:=.inl (Rd.mono (s1.trans s2) h);refine⟨λx e=>?_,λhl=>⟨vs,hs,by rw[r.length,hl];exact Nat.le_refl _⟩⟩
 obtain⟨v,e1,r1⟩:=r.get e;refine⟨⟨vs,v,hs,e1⟩,λv2 H2 y=>?_⟩;obtain⟨rfl,y⟩:=y;have:=y vs hs;rw[e1] at this;cases this;exact⟨F1,.inl ⟨rfl,rfl⟩,r1.mono s1⟩
theorem DV {K:PySem.W.Frag}{F:Hp}{a:Addr}{vs:List V}{xs:List D}(h:F a=some (.tup vs))(r:RepL F vs xs):ItRep F (Ux K a) xs:=λF1 H1 s1 s2 i=>by
 have hs:SqT K H1 a vs:=.of (s2 _ _ (s1 _ _ h));refine⟨λx e=>?_,λhl=>⟨vs,hs,by rw[r.length,hl];exact Nat.le_refl _⟩⟩
 obtain⟨v,e1,r1⟩:=r.get e;refine⟨⟨vs,v,hs,e1⟩,λv2 H2 y=>?_⟩;obtain⟨rfl,y⟩:=y;have:=y vs hs;rw[e1] at this;cases this;exact⟨F1,.inl ⟨rfl,rfl⟩,r1.mono s1⟩
def bB (t:TD):dq:=λσ Q=>t σ λd σ1=>match d with
 | .lst xs=>Q xs σ1
 | .tup xs=>Q xs σ1
 | _=>False
theorem cD {tg l:Expr}{t:TD}(h:ED G k S l t):EI G k S tg l (bB t):=.mk λX Y ok=>nC (wL (h X Y ok)) λσ H Q q=>by
 obtain⟨F,σd,Qd,R,q,K⟩:=q;refine⟨F,σd,_,R,q,λv H1 F1 d σ1 s1 R1 r1 q1=>?_⟩;cases d with
 | lst xs =>
  cases r1 with
  | lst hf rl=>exact .inl ⟨_,rfl,⟨_,.inl (Rd.mono R1.fr hf)⟩,K H1 F1 σ1 _ xs s1 R1 (DU hf rl) q1⟩
 | tup xs =>
  cases r1 with
  | tup hf rl=>exact .inr ⟨_,rfl,⟨_,.of (R1.fr _ _ hf)⟩,K H1 F1 σ1 _ xs s1 R1 (DV hf rl) q1⟩
 | _=>exact q1.elim
def li (lo:Int)(n:Nat):List D:=(List.range n).map λi=>.int (lo+(i:Nat))
theorem tM {F:Hp}(lo:Int)(n:Nat):ItRep F (Pz lo n) (li lo n):=λF1 H1 s1 s2 i=>by
 refine⟨λx e=>?_,λhl=>?_⟩
 ·unfold li at e
  rw[List.getElem?_map] at e;have hi:i < n:=by
   by_cases hi:i < n
   ·exact hi
   ·rw[List.getElem?_eq_none_iff.mpr (by simpa using hi)] at e;cases e
  rw[List.getElem?_range hi] at e;cases e;refine⟨hi,λv H2 y=>?_⟩;obtain⟨rfl,rfl⟩:=y;exact⟨F1,.inl ⟨rfl,rfl⟩,.int _⟩
 ·unfold li at hl
  rw[List.length_map,List.length_range] at hl;exact Nat.le_of_eq hl.symm
def nD (t:sd):dq:=λσ Q=>t σ λxs σ1=>match drfs σ1 xs with
 | some [.int j]=>(-(2^62)<=j/\j < 2^62)/\Q (li 0 j.toNat) σ1
 | _=>False
def DW (t:sd):dq:=λσ Q=>t σ λxs σ1=>match drfs σ1 xs with
 | some [.int i,.int j]=>(-(2^62)<=i/\i < 2^62/\-(2^62)<=j/\j < 2^62)/\Q (li i (j - i).toNat) σ1
 | _=>False
theorem iu {tg a:Expr}{t:sd}{p pos:Pos}(h:EOs G k S [a] t)(hm:G.mg "range"=none)(hg:S.sc.lookup ("range":Str)=some .globalImplicit:=by rfl)(hs:∀ env,starEach [a] env=[(false,eval a env)]:=by intro _;rfl):EI G k S tg (.Call (.Name "range" p) [a] [] pos) (nD t):=.mk λX Y ok =>
 nC (uR (dc ok hg) (by rw[ok.mg];exact hm) (h X Y ok) (hs _)) λσ H Q q=>by
  obtain⟨F,σd,Qd,R,q,K⟩:=q;refine⟨F,σd,_,R,q,λvs H1 F1 xs σ1 s1 R1 r1 q1=>?_⟩
  split at q1
  ·rename_i j e
   obtain⟨v,rfl,rv⟩:=(R1.drfs r1 e).one;obtain rfl:=rv.int;exact⟨j,rfl,q1.1.1,q1.1.2,K H1 F1 σ1 _ _ s1 R1 (tM 0 _) q1.2⟩
  ·exact q1.elim
theorem HH {tg a b:Expr}{t:sd}{p pos:Pos}(h:EOs G k S [a,b] t)(hm:G.mg "range"=none)(hg:S.sc.lookup ("range":Str)=some .globalImplicit:=by rfl)(hs:∀ env,starEach [a,b] env=[(false,eval a env),(false,eval b env)]:=by intro _;rfl)(hs2:∀ env,starEach [b] env=[(false,eval b env)]:=by intro _;rfl):EI G k S tg (.Call (.Name "range" p) [a,b] [] pos) (DW t):=.mk λX Y ok =>
 nC (uS (dc ok hg) (by rw[ok.mg];exact hm) (h X Y ok) (hs _) (hs2 _)) λσ H Q q=>by
  obtain⟨F,σd,Qd,R,q,K⟩:=q;refine⟨F,σd,_,R,q,λvs H1 F1 xs σ1 s1 R1 r1 q1=>?_⟩
  split at q1
  ·rename_i i j e
   obtain⟨v,u,rfl,rv,ru⟩:=(R1.drfs r1 e).two;obtain rfl:=rv.int;obtain rfl:=ru.int;exact⟨i,j,rfl,q1.1,K H1 F1 σ1 _ _ s1 R1 (tM i _) q1.2⟩
  ·exact q1.elim

def qd (g:jn)(tb:br)(De:EndsD):List D->Sd->Prop
 | [],σ=>De.nx σ
 | x::xs,σ=>g x σ λσ1=>tb { De with nx:=qd g tb De xs,ct:=qd g tb De xs,bk:=De.nx } σ1
def eG (ti:dq)(g:jn)(tb:br):br:=λDe σ=>ti σ λitems σ1=>qd g tb De items σ1
theorem qe {tg iter:Expr}{body:List Stmt}{ti:dq}{g:jn}{tb:br}{pos:Pos}(hi:EI G k S tg iter ti)(hg:EG G k S tg g)(hb:ESs G k S body tb)(hs:∀ env x,foldedSetIterable iter env x=pure x:=by intro _ _;rfl)(hh:S.hot=false:=by rfl) :
  ES G k S (.For tg iter body [] pos) (eG ti g tb):=.mk λX Y ok=>bA (vX (ok.po hh) (ok.calm hh) (hi X Y ok) (hg X Y ok) (hb X Y ok) (hs _)) λDn σ H q=>by
 obtain⟨F,σd,De,R,q,K⟩:=q;refine⟨F,σd,_,R,q,λH1 F1 σd1 J items s1 R1 it q1=>?_⟩;refine⟨λi m σ' H'=>∃ F' σd',Same F1 F'/\RS Y F' σd' σ' H'/\qd g tb De (items.drop i) σd'/\m=items.length - i/\i<=items.length,⟨items.length,F1,σd1,Same.refl _,R1,q1,rfl,Nat.zero_le _⟩,?_⟩;rintro i m σ' H' ⟨F',σd',s',R',q',rfl,hi⟩;have itr:=it F' H' s' R'.fr i
 by_cases hl:i < items.length
 ·right
  have hd:items.drop i=items[i]::items.drop (i+1):=by rw[List.drop_eq_getElem_cons hl]
  rw[hd] at q';obtain⟨go,yl⟩:=itr.1 items[i] (by rw[List.getElem?_eq_getElem hl])
  refine⟨go,λσ2 H2=>∃ F2 σd2,Same F1 F2/\RS Y F2 σd2 σ2 H2/\qd g tb De (items.drop (i+1)) σd2,λσ2 H2 ⟨F2,σd2,s2,R2,q2⟩=>⟨items.length - (i+1),by omega,F2,σd2,s2,R2,q2,rfl,hl⟩,λv H2 y=>?_⟩
  obtain⟨F2,gr,rep⟩:=yl v H2 y;have s2:Same F1 F2:=s'.trans (gr.same R'.fr);refine⟨F2,σd',items[i],_,gr.rs R',rep,q',λσ3 H3 F3 σd3 s3 R3 q3=>⟨F3,σd3,_,R3,q3,?_⟩⟩;refine⟨λσ4 H4 F4 σd4 s4 R4 q4=>⟨F4,σd4,(s2.trans s3).trans s4,R4,q4⟩,λv4 σ4 H4 F4 σd4 b s4 R4 r4 q4=>K.rt v4 σ4 H4 F4 σd4 b (((s1.trans s2).trans s3).trans s4) R4 r4 q4,
   λσ4 H4 F4 σd4 s4 R4 q4=>K.nx σ4 H4 F4 σd4 (((s1.trans s2).trans s3).trans s4) R4 q4,λσ4 H4 F4 σd4 s4 R4 q4=>⟨F4,σd4,(s2.trans s3).trans s4,R4,q4⟩⟩
 ·left
  have e:i=items.length:=by omega
  subst e;rw[List.drop_length] at q';exact⟨itr.2 rfl,K.nx σ' H' F' σd' (s1.trans s') R' q'⟩
end Vc


namespace Vc
open PySem L2
variable [KF]

theorem nE {prog:Program}{w:World}{A:Around}{R:Result->Shared->Prop}{s:Shared}{elt target iter:Expr}{ifs:List Expr}{scope:Scope}{pos:Pos}{it acc:Value}{env:Env}(I:Nat->Shared->Prop)
  (turn:∀ n s,I n s->wpAny (model prog w) A (pyNext it) (λr s₁=>match r with
   | none=>R (.ok .next) s₁
   | some v=>wpAny (model prog w) A (letOwnedTupleGo target it v) (λ_ s₁'=>wpAny (model prog w) A (assign target env v) (λ_ s₂ =>
     wpAny (model prog w) A (forIn ifs true λc r=>if r=true then do let ok <- isTrue c env (eval c env);pure (ForInStep.yield ok) else pure (ForInStep.yield r)) (λok s₃ =>
      if ok=true then wpAny (model prog w) A (eval elt env) (λx s₄ =>
       wpAny (model prog w) A (call (.builtin "list.append") [acc,x]) (λ_ s₅=>∃ m,m < n/\I m s₅) (λ_ _=>False) s₄) (λ_ _=>False) s₃
      else ∃ m,m < n/\I m s₃) (λ_ _=>False) s₂) (λ_ _=>False) s₁') (λ_ _=>False) s₁) (λ_ _=>False) s)
  (n:Nat) (h:I n s):codeAny (model prog w) A (.compLoop (.ListComp elt [⟨target,iter,ifs,0⟩] scope pos) 0 it acc env) R s:=by
 refine codeAny_loop rfl I (λn s hI=>?_) n h;show wpAny _ A ((compTurn (.ListComp elt [⟨target,iter,ifs,0⟩] scope pos) 0 it acc env).onRaise (λx=>do noteFrame x env;theTreesLotGoes x)) _ _ s
 refine wpAny_noted ?_;rw[compTurn_list];refine wpAny_bind (wpAny_standAt (wpAny_bind (wpAny_mono (turn n s hI) (λr s₁ h₁=>?_) λ_ _ h'=>h'.elim)));cases r with
 | none=>exact wpAny_pure h₁
 | some v =>
  refine wpAny_bind (wpAny_mono h₁ (λ_ s₁' h₁'=>?_) λ_ _ h'=>h'.elim);refine wpAny_bind (wpAny_mono h₁' (λ_ s₂ h₂=>wpAny_bind (wpAny_mono h₂ (λok s₃ h₃=>?_) λ_ _ h'=>h'.elim)) λ_ _ h'=>h'.elim);cases ok with
  | false=>exact wpAny_pure ⟨rfl,h₃⟩
  | true =>
   exact wpAny_bind (wpAny_bind (wpAny_mono h₃ (λx s₄ h₄=>wpAny_bind (wpAny_mono h₄ (λ_ s₅ h₅=>wpAny_pure (wpAny_pure ⟨rfl,h₅⟩)) λ_ _ h'=>h'.elim)) λ_ _ h'=>h'.elim))

def fF (env:Env):List (Str×NameKind)->List (Str×Addr)->List (Str×Addr)
 | [],cs=>cs
 | (n,k)::r,cs=>if k==.free then fF env r ((n,(env.cells.lookup n).getD 0)::cs) else fF env r cs
theorem kj {env:Env}{scope:Scope}(h:∀ x∈scope.names,x.2=.free->∃ c,env.cells.lookup x.1=some c):closureFor scope env=pure (fF env scope.names []):=by
 have all:∀ (l:List (Str×NameKind)) (cs:List (Str×Addr)),(∀ x∈l,x.2=.free->∃ c,env.cells.lookup x.1=some c) ->
   (forIn l cs λx cs=>if (x.2==NameKind.free)=true then (do let a <- cellOf env x.1;pure (ForInStep.yield ((x.1,a)::cs))) else pure (ForInStep.yield cs):Sem (List (Str×Addr)))=pure (fF env l cs):=by
  intro l
  induction l with
  | nil=>intro cs _;rfl
  | cons x l ih =>
   intro cs hl;obtain⟨n,k⟩:=x;rw[List.forIn_cons];unfold fF
   by_cases hk:k=.free
   ·subst hk
    obtain⟨c,e⟩:=hl (n,.free) List.mem_cons_self rfl;have e':env.cells.lookup n=some c:=e;simp only[beq_self_eq_true,if_true,cellOf,e',Option.getD_some,pure_bind];exact ih _ λy hy=>hl y (List.mem_cons_of_mem _ hy)
   ·have hb:(k==NameKind.free)=false:=by simpa using hk
    simp only[hb,Bool.false_eq_true,if_false,pure_bind];exact ih _ λy hy=>hl y (List.mem_cons_of_mem _ hy)
 have h1:=all scope.names [] h;have h2:closureFor scope env=((forIn scope.names ([]:List (Str×Addr)) λx cs=>if (x.2==NameKind.free)=true then (do let a <- cellOf env x.1;pure (ForInStep.yield ((x.1,a)::cs))) else pure (ForInStep.yield cs):Sem (List (Str×Addr))) >>= λcs=>pure cs):=rfl
 rw[h2,h1,pure_bind]
theorem bz {env:Env}:∀ (l:List (Str×NameKind)) (cs:List (Str×Addr)) (x:Str) (c:Addr),(∀ y∈l,y.2=.free->∃ c,env.cells.lookup y.1=some c)->(fF env l cs).lookup x=some c->env.cells.lookup x=some c\/cs.lookup x=some c
 | [],cs,x,c,_,h=>.inr h
 | (n,k)::r,cs,x,c,hl,h=>by
  unfold fF at h
  by_cases hk:k=.free
  ·subst hk
   simp only[beq_self_eq_true,if_true] at h;obtain⟨c',e⟩:=hl (n,.free) List.mem_cons_self rfl;have e':env.cells.lookup n=some c':=e;rcases bz r _ x c (λy hy=>hl y (List.mem_cons_of_mem _ hy)) h with q|q
   ·exact .inl q
   ·rw[List.lookup_cons] at q
    cases hx:x==n with
    | true =>
     rw[hx] at q;have:=eq_of_beq hx;subst this;rw[e',Option.getD_some] at q;exact .inl (e'.trans q)
    | false=>rw[hx] at q;exact .inr q
  ·have hb:(k==NameKind.free)=false:=by simpa using hk
   simp only[hb,Bool.false_eq_true,if_false] at h;exact bz r cs x c (λy hy=>hl y (List.mem_cons_of_mem _ hy)) h
theorem iw {env:Env}:∀ (l:List (Str×NameKind)) (cs:List (Str×Addr)) (x:Str),(cs.lookup x).isSome=true->((fF env l cs).lookup x).isSome=true
 | [],cs,x,h=>h
 | (n,k)::r,cs,x,h=>by
  unfold fF
  by_cases hk:k=.free
  ·subst hk
   simp only[beq_self_eq_true,if_true];refine iw r _ x ?_;rw[List.lookup_cons];cases hx:x==n with
   | true=>rfl
   | false=>exact h
  ·have hb:(k==NameKind.free)=false:=by simpa using hk
   simp only[hb,Bool.false_eq_true,if_false];exact iw r cs x h
theorem fY {env:Env}:∀ (l:List (Str×NameKind)) (cs:List (Str×Addr)) (x:Str),(x,NameKind.free)∈l->((fF env l cs).lookup x).isSome=true
 | (n,k)::r,cs,x,h=>by
  unfold fF;rcases List.mem_cons.mp h with e|e
  ·cases e
   simp only[beq_self_eq_true,if_true];refine iw r _ _ ?_;rw[List.lookup_cons,beq_self_eq_true];rfl
  ·split
   ·exact fY r _ x e
   ·exact fY r cs x e
structure CompX (X X':Cx)(scope:Scope)(N':List Str):Prop where
 P:X'.prog=X.prog
 w:X'.w=X.w
 K:X'.K=X.K
 mg:X'.mg=X.mg
 base:X'.base=X.base
 A:X'.A=X.A
 N:X'.N=N'
 sc:X'.env.scope=relabel scope X.env
 calm:X'.calm=true
 xe:X'.xe=λ_ _=>False
def Dh (X:Cx)(ifs:List Expr)(t:TT):Prop:=∀ (pins:List (Addr×Obj)) (s:Shared) (σ:St) (H:Hp) (Q:Bool->Hp->Prop),L2.Inv X pins σ H s->t σ H Q ->
 wpAny (model X.prog X.w) X.A (forIn ifs true λc r=>if r=true then do let ok <- isTrue c X.env (eval c X.env);pure (ForInStep.yield ok) else pure (ForInStep.yield r)) (TP X pins σ Q) X.xe s
theorem DX {X:Cx}:Dh X [] (λ_ H Q=>Q true H):=λpins s σ H Q I h=>wpAny_tests_nil ⟨H,I,h⟩
theorem DY {X:Cx}{c:Expr}{t:TT}(h:PT X c t):Dh X [c] t:=λpins s σ H Q I q=>wpAny_tests_one (h pins s σ H Q I q)
def ee (caps:List (Option Nat))(σ:St):St:=caps.map λc=>match c with
 | some j=>(σ[j]?).join
 | none=>none
def iy (wi:TI)(caps:List (Option Nat))(g:TG)(tc:TT)(te:TE):TE:=λσ H Q=>wi σ H λJ H1=>∀ acc,H1 acc=none->∃ W:Nat->Nat->St->Hp->Prop,(∃ m,W 0 m (ee caps σ) (bj H1 acc (.lst [])))/\∀ i m σ1 H,W i m σ1 H ->
 (J.stop i H/\Q (.ref acc) H)\/(J.go i H/\∀ x H',J.yld i H x H'->g x σ1 H' λσ2 H2=>tc σ2 H2 λb H3=>if b=true then te σ2 H3 λv H4=>∃ ys m',H4 acc=some (.lst ys)/\ys.length < sizeLine/\m' < m/\W (i+1) m' σ2 (bj H4 acc (.lst (ys++[v]))) else ∃ m',m' < m/\W (i+1) m' σ2 H3)

theorem dJ {env:Env}:∀ {names:List (Str×NameKind)} {x:Str} {k:NameKind},(names.map λ(n,k)=>if (k==NameKind.free&&env.scope.kind==.function&&env.kindOf n==some .cell) then (n,NameKind.cell) else (n,k)).lookup x=some k ->
  names.lookup x=some k\/(k=.cell/\names.lookup x=some .free)
 | [],_,_,h=>by simp at h
 | (n,k')::r,x,k,h=>by
  have ih:=@dJ env r x k;have h:List.lookup x ((if (k'==NameKind.free&&env.scope.kind==.function&&env.kindOf n==some .cell)=true then (n,NameKind.cell) else (n,k'))::_)=some k:=h
  cases hx:x==n with
  | true =>
   by_cases hc:(k'==NameKind.free&&env.scope.kind==.function&&env.kindOf n==some .cell)=true
   ·rw[if_pos hc] at h
    simp only[List.lookup_cons,hx] at h ⊢;cases h;simp only[Bool.and_eq_true,beq_iff_eq] at hc;exact .inr ⟨rfl,by rw[hc.1.1]⟩
   ·rw[if_neg hc] at h
    simp only[List.lookup_cons,hx] at h ⊢;exact .inl h
  | false =>
   by_cases hc:(k'==NameKind.free&&env.scope.kind==.function&&env.kindOf n==some .cell)=true
   ·rw[if_pos hc] at h
    simp only[List.lookup_cons,hx] at h ⊢;exact ih h
   ·rw[if_neg hc] at h
    simp only[List.lookup_cons,hx] at h ⊢;exact ih h
theorem fZ {env:Env}:∀ {names:List (Str×NameKind)} {x:Str},names.lookup x=some .free ->
  (names.map λ(n,k)=>if (k==NameKind.free&&env.scope.kind==.function&&env.kindOf n==some .cell) then (n,NameKind.cell) else (n,k)).lookup x=some .cell \/
  (names.map λ(n,k)=>if (k==NameKind.free&&env.scope.kind==.function&&env.kindOf n==some .cell) then (n,NameKind.cell) else (n,k)).lookup x=some .free
 | [],_,h=>by simp at h
 | (n,k')::r,x,h=>by
  have ih:=@fZ env r x;show List.lookup x ((if (k'==NameKind.free&&env.scope.kind==.function&&env.kindOf n==some .cell)=true then (n,NameKind.cell) else (n,k'))::_)=some .cell\/List.lookup x ((if (k'==NameKind.free&&env.scope.kind==.function&&env.kindOf n==some .cell)=true then (n,NameKind.cell) else (n,k'))::_)=some .free
  cases hx:x==n with
  | true =>
   simp only[List.lookup_cons,hx] at h
   by_cases hc:(k'==NameKind.free&&env.scope.kind==.function&&env.kindOf n==some .cell)=true
   ·rw[if_pos hc];left;simp only[List.lookup_cons,hx]
   ·rw[if_neg hc];right;simp only[List.lookup_cons,hx];exact h
  | false =>
   simp only[List.lookup_cons,hx] at h
   by_cases hc:(k'==NameKind.free&&env.scope.kind==.function&&env.kindOf n==some .cell)=true
   ·rw[if_pos hc];simp only[List.lookup_cons,hx];exact ih h
   ·rw[if_neg hc];simp only[List.lookup_cons,hx];exact ih h
structure CompSc (X:Cx)(scope:Scope)(N':List Str)(caps:List (Option Nat)):Prop where
 kind:scope.kind=.function
 nocell:∀ y∈scope.names,y.2≠.cell
 names:∀ y∈scope.names,y.2=.local->scope.names.lookup y.1=some .local
 free:∀ y∈scope.names,y.2=.free->X.env.kindOf y.1=some .cell\/X.env.kindOf y.1=some .free
 len:caps.length=N'.length
 cap:∀ (i:Nat) (j:Nat),caps[i]?=some (some j)->∃ x,N'[i]?=some x/\X.N[j]?=some x/\scope.names.lookup x=some .free
section
variable {X:Cx}{pins:List (Addr×Obj)}{σ:St}{H:Hp}{s:Shared}{elt target iter:Expr}{ifs:List Expr}{scope:Scope}{pos:Pos}{N':List Str}{caps:List (Option Nat)}
theorem CompSc.cells (SC:CompSc X scope N' caps)(ok:X.Ok):∀ x∈scope.names,x.2=.free->∃ c,X.env.cells.lookup x.1=some c:=λx hx hf=>ok.has x.1 (SC.free x hx hf)
def Di (X:Cx)(scope:Scope)(N':List Str)(s₀:Shared)(H₀:Hp)(C:Addr)(fp:List Addr):Cx :=
 { X with N:=N',s₀:=s₀,H₀:=H₀,env:=compEnvC scope (fF X.env scope.names []) C X.env,outer:=X.stack,ex:=fp,fn:=λ_=>false,calm:=true,pn:=[],xe:=λ_ _=>False }
theorem HJ (I:L2.Inv X pins σ H s)(SC:CompSc X scope N' caps)(hc:X.calm=true){fp:List Addr}(hf:∀ b∈fp,fh X pins H b)(hlt:∀ b∈fp,b < s.heap.objs.size):(Di X scope N' s H s.heap.objs.size fp).Ok where
 mod:=I.ok.mod
 kind:=SC.kind
 glob:=I.ok.glob
 blt:=I.ok.blt
 above:=Nat.le_refl _
 inj:=λx y c h1 h2=>by
  have f:∀ z,(fF X.env scope.names []).lookup z=some c->X.env.cells.lookup z=some c:=λz h=>by
   rcases bz scope.names [] z c (SC.cells I.ok) h with q|q
   ·exact q
   ·cases q
  exact I.ok.inj x y c (f x h1) (f y h2)
 has:=λx hx=>by
  have hx:(relabel scope X.env).names.lookup x=some .cell\/(relabel scope X.env).names.lookup x=some .free:=hx;have hfree:scope.names.lookup x=some .free:=by
   rcases hx with hx|hx
   ·rcases dJ hx with q|⟨_,q⟩
    ·exact absurd rfl (SC.nocell _ (PySem.mem_of_lookup q))
    ·exact q
   ·rcases dJ hx with q|⟨q,_⟩
    ·exact q
    ·cases q
  exact Option.isSome_iff_exists.mp (fY scope.names [] x (PySem.mem_of_lookup hfree))
 cab:=λx c h=>by cases h
 hd:=λ_=>I.ok.hd hc
 frames:=I.ok.frames
 stk:=.inl rfl
 exf:=λb hb=>⟨Nat.ne_of_lt (hlt b hb),λx c h=>by
  rcases bz scope.names [] x c (SC.cells I.ok) h with q|q
  ·exact (hf b hb).2.2.2.2.1 x c q
  ·cases q⟩
 bs:=I.bs
 bsz:=Nat.le_trans I.ok.bsz I.sz
 noex:=λb o e hb=>by
  rcases (hf b hb).2.2.2.1 with q|q
  ·exact I.ok.noex b o e q
  ·exact absurd (Nat.lt_of_lt_of_le (Heap.lt_size e) (Nat.le_trans I.ok.bsz q)) (Nat.lt_irrefl _)
 exfs:=λb hb z=>by
  rcases List.mem_cons.mp (I.stkSub b z) with q|q
  ·exact (hf b hb).2.1 q
  ·exact (hf b hb).2.2.1 q
 funs:=I.stack
 frf:=I.stkFree
theorem DZ (I:L2.Inv X pins σ H s)(SC:CompSc X scope N' caps)(hc:X.calm=true){fp:List Addr}(hf:∀ b∈fp,fh X pins H b)(hlt:∀ b∈fp,b < s.heap.objs.size){h1:Heap}{t1:Nat}(hn:h1.Ns s.heap.objs.size (λ_=>none))(hk:∀ b o,s.heap.get? b=some o->h1.get? b=some o) :
  L2.Inv (Di X scope N' s H s.heap.objs.size fp) [] (ee caps σ) H { s with heap:=h1,toks:=t1 } where
 ok:=HJ I SC hc hf hlt
 os:=rfl
 bare:=I.bare
 base:=Un.kept hk
 loc:=by
  refine⟨_,hn,λi x v e1 e2 _=>?_⟩;have e2:(caps.map λc=>match c with|some j=>(σ[j]?).join|none=>none)[i]?=some (some v):=e2
  rw[List.getElem?_map] at e2;cases ec:caps[i]? with
  | none=>rw[ec] at e2;cases e2
  | some c =>
   rw[ec] at e2;cases c with
   | none=>cases e2
   | some j =>
    have e2:(σ[j]?).join=some v:=Option.some.inj e2;have e3:σ[j]?=some (some v):=by
     cases q:σ[j]? with
     | none=>rw[q] at e2;cases e2
     | some w =>
      rw[q] at e2;cases w with
      | none=>cases e2
      | some z=>cases e2;rfl
    obtain⟨y,w1,w2,w3⟩:=SC.cap i j ec;have e1:N'[i]?=some x:=e1;rw[w1] at e1;cases e1;have hk':=SC.free (x,.free) (PySem.mem_of_lookup w3) rfl;obtain⟨m,hm,hl⟩:=I.loc;obtain⟨u,r,l⟩:=hl j x v w2 e3 (.inr hk');refine⟨u,r,?_⟩;rcases l with ⟨k1,_⟩|⟨_,c,hc',hcell⟩
    ·have hk':X.env.kindOf x=some .cell\/X.env.kindOf x=some .free:=hk'
     rw[k1] at hk';rcases hk' with z|z<;>cases z
    ·right
     refine⟨fZ w3,c,?_,?_⟩
     ·obtain⟨c',e'⟩:=Option.isSome_iff_exists.mp (fY (env:=X.env) scope.names [] x (PySem.mem_of_lookup w3))
      rcases bz scope.names [] x c' (SC.cells I.ok) e' with q|q
      ·rw[hc'] at q;cases q
       exact e'
      ·cases q
     ·obtain⟨o,ho,hd⟩:=hcell
      exact⟨o,hk _ _ ho,hd⟩
 cell:=λx c h=>by
  rcases bz scope.names [] x c (SC.cells I.ok) h with q|q
  ·obtain⟨v,o,ho,hd⟩:=I.cell x c q
   exact⟨v,o,hk _ _ ho,hd⟩
  ·cases q
 free:=I.hok.fresh (Nat.le_refl _)
 freeC:=λx c h=>by
  rcases bz scope.names [] x c (SC.cells I.ok) h with q|q
  ·exact I.freeC x c q
  ·cases q
 pin:=λp hp=>absurd (show p∈([]:List (Addr×Obj)) from hp) (by simp)
 hok:=I.hok.kept hk
 len:=by
  show (caps.map _).length=N'.length;rw[List.length_map];exact SC.len
theorem qf (I:L2.Inv X pins σ H s)(SC:CompSc X scope N' caps)(hc:X.calm=true){it:Addr}{fp:List Addr}{tn:Nat->Heap->Prop}{J:It}(T:Turn X.prog X.w X.K target J fp it tn)(t0:tn 0 s.heap)(hf:∀ b∈fp,fh X pins H b)
  {g:TG} {tc:TT} {te:TE} (hin:∀ X',CompX X X' scope N'->PG X' target g/\Dh X' ifs tc/\PE X' elt te) {Q:VK}
  (q:∀ acc,H acc=none->∃ W:Nat->Nat->St->Hp->Prop,(∃ m,W 0 m (ee caps σ) (bj H acc (.lst [])))/\∀ i m σ1 H,W i m σ1 H ->
   (J.stop i H/\Q (.ref acc) H)\/(J.go i H/\∀ x H',J.yld i H x H'->g x σ1 H' λσ2 H2=>tc σ2 H2 λb H3=>if b=true then te σ2 H3 λv H4=>∃ ys m',H4 acc=some (.lst ys)/\ys.length < sizeLine/\m' < m/\W (i+1) m' σ2 (bj H4 acc (.lst (ys++[v]))) else ∃ m',m' < m/\W (i+1) m' σ2 H3))
  {E:Value->Shared->Prop} {RR:Value->Addr->Result->Shared->Prop}
  (hRR:∀ acc C H' s',L2.Inv X pins σ H' s'->fh X pins H' C->(∃ m,s'.heap.Ns C m)->Q (.ref acc) H'->RR (.ref acc) C (.ok .next) s') :
  wpAny (model X.prog X.w) X.A (newList []) (λacc s₃=>wpAny (model X.prog X.w) X.A (newFunctionEnv scope X.env.globals (fF X.env scope.names []) [] X.env.qual none .none (some X.env)) (λcenv s₄ =>
   codeAny (model X.prog X.w) X.A (.compStart (.ListComp elt [⟨target,iter,ifs,0⟩] scope pos) 0 (.ref it) acc { cenv with scope:=relabel scope X.env }) (RR acc cenv.locals) s₄) E s₃) E s:=by
 refine wpAny_newObj_type ?_;have hacc:H s.heap.objs.size=none:=I.hok.fresh (Nat.le_refl _);have I3:L2.Inv X pins σ (bj H s.heap.objs.size (.lst [])) { s with heap:=s.heap.push { cls:=.type "list",dict:=none,data:=.seq ([]:List Value).toArray } }:=I.lnew (t':=s.toks) (its:=[]) (ys:=[]) .nil (Nat.zero_le _)
 obtain⟨W,⟨m0,w0⟩,step⟩:=q _ hacc;generalize hs3:({ s with heap:=s.heap.push { cls:=.type "list",dict:=none,data:=.seq ([]:List Value).toArray } }:Shared)=s3 at I3 ⊢
 generalize hH3:bj H s.heap.objs.size (.lst [])=H3 at I3 w0;generalize hacc':s.heap.objs.size=acc at *;have up3:∀ b o,s.heap.get? b=some o->s3.heap.get? b=some o:=λb o e=>by rw[<- hs3];exact Heap.get?_push_of_some _ e
 have fplt:∀ b∈fp,b < s3.heap.objs.size:=λb hb=>by
  obtain⟨o,e,_⟩:=T.obj 0 _ t0 b hb;exact Heap.lt_size (up3 b o e)
 have hf3:∀ b∈fp,fh X pins H3 b:=λb hb=>by
  obtain⟨f0,f⟩:=hf b hb;refine⟨?_,f⟩;obtain⟨o,e,_⟩:=T.obj 0 _ t0 b hb;have:b≠acc:=by rw[<- hacc'];exact Nat.ne_of_lt (Heap.lt_size e)
  rw[<- hH3,ah this];exact f0
 have t3:tn 0 s3.heap:=T.keep 0 _ _ t0 λb _ o e=>up3 b o e;refine wpAny_newFunctionEnv SC.nocell (by intro y hy;simp at hy) (λh1 hn1 sb1=>?_) SC.kind
 have hk1:∀ b o,s3.heap.get? b=some o->h1.get? b=some o:=λb o e=>sb1.extBut b o (Nat.ne_of_lt (Heap.lt_size e)) (Heap.get?_push_of_some _ e);have cx:CompX X (Di X scope N' s3 H3 s3.heap.objs.size fp) scope N':=⟨rfl,rfl,rfl,rfl,rfl,rfl,rfl,rfl,rfl,rfl⟩;obtain⟨hg,ht,he⟩:=hin _ cx;have hn1':h1.Ns s3.heap.objs.size (λ_=>none):=by simpa using hn1
 have fpB:∀ {H':Hp},(∀ b∈fp,H' b=none)->∀ b∈fp,fh (Di X scope N' s3 H3 s3.heap.objs.size fp) [] H' b:=λ{H'} hn b hb=>by
  obtain⟨f0,f1,f2,f3,f4,f5⟩:=hf3 b hb;refine⟨hn b hb,Nat.ne_of_lt (fplt b hb),?_,.inl hb,λx c h=>?_,λp hp=>absurd (show p∈([]:List (Addr×Obj)) from hp) (by simp)⟩
  ·intro z
   rcases List.mem_cons.mp (I3.stkSub b z) with q|q
   ·exact f1 q
   ·exact f2 q
  ·rcases bz scope.names [] x c (SC.cells I.ok) h with q|q
   ·exact f4 x c q
   ·cases q
 have loop:∀ s4:Shared,L2.Inv (Di X scope N' s3 H3 s3.heap.objs.size fp) [] (ee caps σ) H3 s4->tn 0 s4.heap->codeAny (model X.prog X.w) X.A (.compLoop (.ListComp elt [⟨target,iter,ifs,0⟩] scope pos) 0 (.ref it) (.ref acc) (compEnvC scope (fF X.env scope.names []) s3.heap.objs.size X.env)) (RR (.ref acc) s3.heap.objs.size) s4:=by
  intro s4 I4 t4;refine nE (λn s'=>∃ i σ1 H',L2.Inv (Di X scope N' s3 H3 s3.heap.objs.size fp) [] σ1 H' s'/\tn i s'.heap/\(∀ b∈fp,H' b=none)/\W i n σ1 H') ?_ m0 ⟨0,_,H3,I4,t4,λb hb=>(hf3 b hb).1,w0⟩;rintro n s5 ⟨i,σ1,H5,I5,st5,fr5,w5⟩;rcases step i n σ1 H5 w5 with ⟨stop,qn⟩|⟨go,body⟩
  ·refine bG (T.done (Di X scope N' s3 H3 s3.heap.objs.size fp) rfl rfl rfl rfl i [] s5 σ1 H5 _ I5 (fpB fr5) st5 stop) λr s6 ⟨hr,I6⟩=>?_
   subst hr;have u:=I6.base;refine hRR acc _ H5 s6 (I3.call' (ch:=fp) I6.os u I6.hok I6.bare λb hb=>?_) (I3.fpOk (Nat.le_refl _) I6.free) ?_ qn
   ·obtain⟨f0,f1,f2,f3,f4,f5⟩:=hf3 b hb
    exact⟨f3.imp id λz=>Heap.get?_none_of_le z,f1,f4,f5⟩
   ·obtain⟨m,hm,_⟩:=I6.loc
    exact⟨m,hm⟩
  ·refine bG (T.item (Di X scope N' s3 H3 s3.heap.objs.size fp) rfl rfl rfl rfl i [] s5 σ1 H5 _ I5 (fpB fr5) st5 go) λr s6 ⟨u,hr,h6⟩=>?_
   subst hr;refine bG h6 λ_ s7 ⟨x,H7,I7,r7,y7,st7,fr7⟩=>?_;have I7':=I7.pinned (fpB fr7) (T.obj _ _ st7);have back:∀ {σ8:St} {H8:Hp} {s8:Shared},L2.Inv (Di X scope N' s3 H3 s3.heap.objs.size fp) ([]++ie fp s7.heap) σ8 H8 s8->L2.Inv (Di X scope N' s3 H3 s3.heap.objs.size fp) [] σ8 H8 s8/\tn (i+1) s8.heap/\∀ b∈fp,H8 b=none:=λ{σ8 H8 s8} I8=>by
    refine⟨I8.unpinned,T.keep _ _ _ st7 λb hb o e=>(I8.pin (b,o) (List.mem_append_right _ (List.mem_append_right _ (cI hb e)))).1,λb hb=>?_⟩;obtain⟨o,e,d⟩:=T.obj _ _ st7 b hb;exact (I8.pin (b,o) (List.mem_append_right _ (List.mem_append_right _ (cI hb e)))).2.1
   refine bG (hg _ s7 σ1 H7 x u _ I7' r7 (body x H7 y7)) λ_ s8 ⟨σ8,H8,I8,q8⟩=>?_;refine bG (ht _ s8 σ8 H8 _ I8 q8) λb s9 ⟨H9,I9,q9⟩=>?_;cases b with
   | false =>
    obtain⟨m',hm,w9⟩:=q9;obtain⟨J1,J2,J3⟩:=back I9;exact⟨m',hm,i+1,σ8,H9,J1,J2,J3,w9⟩
   | true =>
    refine bG (he _ s9 σ8 H9 _ I9 q9) λy s10 ⟨v,H10,I10,r10,ys,m',e10,hz,hm,w10⟩=>?_;refine bG (lC _ s10 σ8 H10 (.ref acc) [v] (.ref acc) [y] (λz H11=>z=.non/\W (i+1) m' σ8 H11) I10 rfl (.cons r10 .nil) ⟨acc,ys,v,rfl,rfl,e10,hz,rfl,w10⟩) λ_ s11 ⟨_,H11,I11,_,_,w11⟩=>?_;obtain⟨J1,J2,J3⟩:=back I11;exact⟨m',hm,i+1,σ8,H11,J1,J2,J3,w11⟩
 have I4:=DZ (caps:=caps) (N':=N') I3 SC hc hf3 fplt (t1:=s3.toks+([]:List (Str×Value)).length) hn1' hk1;have t4:tn 0 h1:=T.keep 0 _ _ t3 λb _ o e=>hk1 b o e;exact codeAny_compStart_list (loop _ I4 t4) (T.self X.A 0 _ _ _ t4 (loop _ I4 t4))
end
end Vc


namespace Vc
open PySem L2
variable [KF]
section
variable {X:Cx}{elt target iter:Expr}{ifs:List Expr}{scope:Scope}{pos:Pos}{N':List Str}{caps:List (Option Nat)}{wi:TI}{g:TG}{tc:TT}{te:TE}
theorem tO {pins:List (Addr×Obj)}{σ:St}{H:Hp}{s:Shared}{C:Addr}{h':Heap}(f:fh X pins H C)(I:L2.Inv X pins σ H s)(hs:Heap.SameBut C s.heap h'):L2.Inv X pins σ H { s with heap:=h' }:=by
 obtain⟨f0,f1,f2,f3,f4,f5⟩:=f;exact I.turned (t':=s.toks) (λb o hb e=>hs.extBut b o hb e) f0 f1 f3 f4 f5
theorem ju (hc:X.calm=true)(hi:PI X target iter wi)(SC:CompSc X scope N' caps)(hin:∀ X',CompX X X' scope N'->PG X' target g/\Dh X' ifs tc/\PE X' elt te)(hs:∀ x,foldedSetIterable iter X.env x=pure x) :
  PE X (.ListComp elt [⟨target,iter,ifs,0⟩] scope pos) (iy wi caps g tc te):=by
 intro pins s σ H Q I h;rw[eval_ListComp];refine wpAny_comprehension_free (use:=none) rfl hs (kj (SC.cells I.ok)) SC.kind SC.names (bG (hi pins s σ H _ I h) λv s1 h1=>bG h1 λitv s2 h2=>?_);obtain⟨it,fp,tn,J,H2,rfl,I2,T,t0,f2,q2⟩:=h2;exact qf I2 SC hc T t0 f2 hin q2 (RR:=λacc C=>compPost (model X.prog X.w) X.A X.xe none (EP X pins σ Q) acc C) λacc C H' s' I' f' ⟨m,hm⟩ q'=>⟨m,hm,λh' hs'=>⟨.ref acc,H',tO f' I' hs',rfl,q'⟩⟩
theorem tP {i:Nat}{y:Str}{py spos:Pos}(hc:X.calm=true)(hi:PI X target iter wi)(SC:CompSc X scope N' caps)(hin:∀ X',CompX X X' scope N'->PG X' target g/\Dh X' ifs tc/\PE X' elt te)(hs:∀ x,foldedSetIterable iter X.env x=pure x)
  (hN:X.N.Nodup) (hy:X.N[i]?=some y) (hx:X.env.scope.names.lookup y=some .local) (hsw:swapsWith (.ListComp elt [⟨target,iter,ifs,0⟩] scope pos) (some (.Name y py)) spos.line X.env=pure true) :
  PS X (.Assign [.Name y py] (.ListComp elt [⟨target,iter,ifs,0⟩] scope pos) spos) (vV (iy wi caps g tc te) (jK i)):=by
 intro pins s σ H D I h;rw[exec_Assign_Name_used _ _ _ _ hsw];refine wpAny_bind (wpAny_standAt (wpAny_bind ?_));show wpAny _ X.A (do let _ <- comprehension (.ListComp elt [⟨target,iter,ifs,0⟩] scope pos) scope X.env _ (newList []) false (eval iter X.env) (some (assign (.Name y py) X.env))) _ _ s
 refine wpAny_bind (wpAny_mono (wpAny_comprehension_free (use:=some (assign (.Name y py) X.env)) (Q:=λ_ s'=>SP X pins D .next s') rfl hs (kj (SC.cells I.ok)) SC.kind SC.names (bG (hi pins s σ H _ I h) λv s1 h1=>bG h1 λitv s2 h2=>?_))
  (λ_ s' hq=>wpAny_pure (wpAny_pure hq)) λ_ _ e=>e)
 obtain⟨it,fp,tn,J,H2,rfl,I2,T,t0,f2,q2⟩:=h2;refine qf (Q:=λx H1=>jK i x σ H1 D.nx) I2 SC hc T t0 f2 hin q2 (RR:=λacc C=>compPost (model X.prog X.w) X.A X.xe (some (assign (.Name y py) X.env)) (λ_ s'=>SP X pins D .next s') acc C) λacc C H' s' I' f' ⟨m,hm⟩ q'=>?_;show wpAny _ X.A (assign (.Name y py) X.env (.ref acc)) _ _ s';obtain⟨o,es,ep,ho,hd,r⟩:=id hm;have Ip:L2.Inv X (pins++ie [C] s'.heap) σ H' s':=I'.pinned (fp:=[C]) (λb hb=>(show b=C by simpa using hb) ▸ f') (λb hb=>by
  have e:b=C:=by simpa using hb
  subst e;exact⟨o,ho,λv z=>by rw[hd] at z;cases z⟩)
 refine wpAny_assign_Name (jJ Ip hN hy (.inl hx) (show RelV (.ref acc) (.ref acc) from rfl) (λs'' I''=>?_) (.inr hx))
 have hC:s''.heap.get? C=some o:=(I''.pin (C,o) (List.mem_append_right _ (List.mem_append_right _ (cI (by simp) ho)))).1
 exact⟨m,⟨o,es,ep,hC,hd,r⟩,λh' hs'=>⟨_,H',tO f' I''.unpinned hs',q'⟩⟩
end

variable {G:GE}{k:Nat}{S:Stat}
def gc (names sc:List (Str×NameKind)):List (Str×NameKind):=names.map λ(n,k)=>if (k==.free&&sc.lookup n==some .cell) then (n,.cell) else (n,k)
def au (S:Stat)(scope:Scope)(N':List Str):Stat:=⟨N',gc scope.names S.sc,[],true,false,false,λ_ _=>False⟩
structure BlkOk (S:Stat)(scope:Scope)(N':List Str)(caps:List (Option Nat)):Prop where
 kind:scope.kind=.function
 nd:N'.Nodup
 nocell:scope.names.all (λy=>y.2 != .cell)=true
 names:scope.names.all (λy=>y.2 != .local||scope.names.lookup y.1==some .local)=true
 free:scope.names.all (λy=>y.2 != .free||S.sc.lookup y.1==some .cell||S.sc.lookup y.1==some .free)=true
 len:caps.length=N'.length
 cap:(caps.zip N').all (λp=>match p.1 with|some j=>S.N[j]?==some p.2&&scope.names.lookup p.2==some .free|none=>true)=true
theorem BlkOk.sc {scope:Scope}{N':List Str}{caps:List (Option Nat)}(b:BlkOk S scope N' caps){X:Cx}{Y:Dyn}(ok:XOk X G k S Y):CompSc X scope N' caps where
 kind:=b.kind
 nocell:=λy hy z=>by
  have:=List.all_eq_true.mp b.nocell y hy;rw[z] at this;cases this
 names:=λy hy z=>by
  have:=List.all_eq_true.mp b.names y hy;rw[z] at this;simpa using this
 free:=λy hy z=>by
  have:=List.all_eq_true.mp b.free y hy;rw[z] at this;have kd:X.env.kindOf y.1=S.sc.lookup y.1:=by
   show X.env.scope.names.lookup y.1=_;rw[ok.sc]
  rw[kd];simpa using this
 len:=b.len
 cap:=λi j e=>by
  have hl:i < caps.length:=(List.getElem?_eq_some_iff.mp e).1;have hl':i < N'.length:=by rw[<- b.len];exact hl
  have hz:(caps.zip N')[i]?=some (some j,N'[i]):=by
   rw[List.getElem?_zip_eq_some];exact⟨e,by rw[List.getElem?_eq_getElem hl']⟩
  have:=List.all_eq_true.mp b.cap _ (List.mem_of_getElem? hz);simp only[Bool.and_eq_true,beq_iff_eq] at this;exact⟨N'[i],by rw[List.getElem?_eq_getElem hl'],by rw[ok.N];exact this.1,this.2⟩
theorem cL {X X':Cx}{Y:Dyn}{scope:Scope}{N':List Str}{caps:List (Option Nat)}(hh:S.hot=false)(ok:XOk X G k S Y)(b:BlkOk S scope N' caps)(c:CompX X X' scope N')(Y':Dyn)(hio:Y'.io=[]):XOk X' G k (au S scope N') Y' where
 P:=c.P.trans ok.P
 w:=c.w.trans ok.w
 K:=c.K.trans ok.K
 kf:=c.K.trans ok.kf
 mg:=c.mg.trans ok.mg
 obs:=λh=>nomatch h
 base:=c.base.trans ok.base
 N:=c.N
 sc:=by
  rw[c.sc];show scope.names.map _=gc scope.names S.sc;unfold gc;refine List.map_congr_left λy _=>?_;obtain⟨n,kk⟩:=y;have kd:X.env.kindOf n=S.sc.lookup n:=by
   show X.env.scope.names.lookup n=_;rw[ok.sc]
  simp only[ok.kind,kd,beq_self_eq_true,Bool.and_true]
 nd:=b.nd
 ios:=λp hp=>by rw[hio] at hp;cases hp
 calm:=λ_=>c.calm
 kind:=by rw[c.sc];exact b.kind
 fn:=λh=>by cases h
 hd:=λ_=>by rw[c.A];exact ok.hd hh
 dp:=by rw[c.A];exact ok.dp
 un:=by rw[c.A];exact ok.un
 po:=λ_=>by rw[c.xe];exact PassesOwn.never
 nx:=λh=>nomatch h
 exc:=λ_ _ h=>h.elim
 made:=λh=>nomatch h
def ja:Sd->Sd->Prop
 | [],[]=>True
 | none::r,_::s=>ja r s
 | some b::r,c::s=>c=some b/\ja r s
 | _,_=>False
theorem jv:∀ {a b:Sd} {i:Nat} {x:B},ja a b->a[i]?=some (some x)->b[i]?=some (some x)
 | [],[],_,_,_,e=>by simp at e
 | none::r,c::s,0,_,h,e=>by simp at e
 | none::r,c::s,i+1,x,h,e=>by
  have h:ja r s:=h;simpa using jv (i:=i) h (by simpa using e)
 | some b::r,c::s,0,x,h,e=>by
  obtain⟨h1,h2⟩:c=some b/\ja r s:=h;simp at e;subst e;simp [h1]
 | some b::r,c::s,i+1,x,h,e=>by
  obtain⟨h1,h2⟩:c=some b/\ja r s:=h;simpa using jv (i:=i) h2 (by simpa using e)
 | [],_::_,_,_,h,_=>h.elim
 | none::_,[],_,_,h,_=>h.elim
 | some _::_,[],_,_,h,_=>h.elim
theorem jw:∀ {a b:Sd},ja a b->a.length=b.length
 | [],[],_=>rfl
 | none::r,c::s,h=>by
  have h:ja r s:=h;simp [jw h]
 | some b::r,c::s,h=>by
  obtain⟨_,h2⟩:c=some b/\ja r s:=h;simp [jw h2]
 | [],_::_,h=>h.elim
 | none::_,[],h=>h.elim
 | some _::_,[],h=>h.elim
def qg (ios:List Nat):List (Option Nat)->Sd->(Sd->Prop)->Prop
 | [],σ,Q=>Q σ
 | none::r,σ,Q=>qg ios r σ Q
 | some j::r,σ,Q=>match σ[j]? with
  | some (some (.own xs))=>j∉ios/\qg ios r (σ.set j (some (.sh (.lst xs)))) Q
  | _=>qg ios r σ Q
def cy (caps:List (Option Nat))(σ:Sd):Sd:=caps.map λc=>match c with
 | some j=>match σ[j]? with
  | some (some (.sh d))=>some (.sh d)
  | _=>none
 | none=>none
def eI (g:jn)(tc:TB)(te:TD)(σ0:Sd):List D->List D->(List D->Prop)->Prop
 | [],acc,Q=>Q acc
 | x::xs,acc,Q=>g x σ0 λσ1=>tc σ1 λb σ2=>if b=true then te σ2 λd σ3=>ja σ0 σ3/\acc.length < sizeLine/\eI g tc te σ0 xs (acc++[d]) Q else ja σ0 σ2/\eI g tc te σ0 xs acc Q
def bU (ios:List Nat)(caps:List (Option Nat))(ti:dq)(g:jn)(tc:TB)(te:TD):TX:=λσ Q=>ti σ λitems σ1=>qg ios caps σ1 λσ2=>eI g tc te (cy caps σ2) items [] λds=>Q (.own ds) σ2
theorem cM {ios:List Nat}{Y:Dyn}(hio:∀ p∈Y.io,p.1∈ios):∀ {caps:List (Option Nat)} {F:Hp} {σd:Sd} {σ:St} {H:Hp} {Q:Sd->Prop},RS Y F σd σ H->qg ios caps σd Q->∃ F' σd',Same F F'/\RS Y F' σd' σ H/\Q σd'
 | [],F,σd,σ,H,Q,R,q=>⟨F,σd,Same.refl _,R,q⟩
 | none::r,F,σd,σ,H,Q,R,q=>cM hio (caps:=r) R q
 | some j::r,F,σd,σ,H,Q,R,q=>by
  unfold qg at q
  split at q
  ·rename_i xs e
   obtain⟨F2,v2,s2,R2,e2,r2⟩:=R.freezeVar e λp hp z=>q.1 (z ▸ hio p hp);obtain⟨F3,σ3,s3,R3,q3⟩:=cM hio (caps:=r) R2 q.2;exact⟨F3,σ3,s2.trans s3,R3,q3⟩
  ·exact cM hio (caps:=r) R q
theorem bC (caps:List (Option Nat))(σd:Sd):∀ (i:Nat) (o:O),(cy caps σd)[i]?≠some (some (.obj o)):=λi o e=>by
 unfold cy at e;rw[List.getElem?_map] at e;cases ec:caps[i]? with
 | none=>rw[ec] at e;cases e
 | some c =>
  rw[ec] at e;cases c with
  | none=>cases e
  | some j =>
   have e:(match σd[j]? with|some (some (.sh d))=>some (B.sh d)|_=>none)=some (.obj o):=Option.some.inj e
   split at e<;>cases e

theorem nF {Y:Dyn}{F:Hp}{σd:Sd}{σ:St}{H:Hp}(R:RS Y F σd σ H)(caps:List (Option Nat)){F' H':Hp}(s1:Same F F')(s2:Same F' H'):RS ⟨H',F',[],[]⟩ F' (cy caps σd) (ee caps σ) H' where
 len:=by unfold cy ee;simp
 lo:=Same.refl _
 fr:=s2
 fro:=λb o e=>.inl e
 old:=λb o e _=>e
 sh:=λi d e=>by
  unfold cy at e;rw[List.getElem?_map] at e;unfold ee;rw[List.getElem?_map];cases ec:caps[i]? with
  | none=>rw[ec] at e;cases e
  | some c =>
   rw[ec] at e;cases c with
   | none=>cases e
   | some j =>
    have e:(match σd[j]? with|some (some (.sh d))=>some (B.sh d)|_=>none)=some (.sh d):=Option.some.inj e
    split at e
    ·rename_i d' q
     cases e;obtain⟨v,h1,h2⟩:=R.sh j d q;exact⟨v,by show some ((σ[j]?).join)=_;rw[h1];rfl,h2.mono s1⟩
    ·cases e
 own:=λi xs e=>by
  unfold cy at e;rw[List.getElem?_map] at e;cases ec:caps[i]? with
  | none=>rw[ec] at e;cases e
  | some c =>
   rw[ec] at e;cases c with
   | none=>cases e
   | some j =>
    have e:(match σd[j]? with|some (some (.sh d))=>some (B.sh d)|_=>none)=some (.own xs):=Option.some.inj e
    split at e<;>cases e
 dis:=λi j xs ys a e=>by
  exfalso;unfold cy at e;rw[List.getElem?_map] at e;cases ec:caps[i]? with
  | none=>rw[ec] at e;cases e
  | some c =>
   rw[ec] at e;cases c with
   | none=>cases e
   | some j =>
    have e:(match σd[j]? with|some (some (.sh d))=>some (B.sh d)|_=>none)=some (.own xs):=Option.some.inj e
    split at e<;>cases e
 io:=λp hp=>by cases hp
 ob:=.none (bC _ _) (R.ob.tab.mono s1) λb hb=>by cases hb
theorem RS.less {Y:Dyn}{F:Hp}{σ0 σd:Sd}{σ:St}{H:Hp}(R:RS Y F σd σ H)(l:ja σ0 σd)(noown:∀ (i:Nat) (xs:List D),σ0[i]?≠some (some (.own xs)))(noobj:∀ (i:Nat) (o:O),σ0[i]?≠some (some (.obj o))){H':Hp}(s:Same F H'):RS ⟨H',F,[],[]⟩ F σ0 σ H' where
 len:=(jw l).trans R.len
 lo:=Same.refl _
 fr:=s
 fro:=λb o e=>.inl e
 old:=λb o e _=>e
 sh:=λi d e=>R.sh i d (jv l e)
 own:=λi xs e=>absurd e (noown i xs)
 dis:=λi j xs ys a e=>absurd e (noown i xs)
 io:=λp hp=>by cases hp
 ob:=.none noobj R.ob.tab λb hb=>by cases hb
theorem bD (caps:List (Option Nat))(σd:Sd):∀ (i:Nat) (xs:List D),(cy caps σd)[i]?≠some (some (.own xs)):=λi xs e=>by
 unfold cy at e;rw[List.getElem?_map] at e;cases ec:caps[i]? with
 | none=>rw[ec] at e;cases e
 | some c =>
  rw[ec] at e;cases c with
  | none=>cases e
  | some j =>
   have e:(match σd[j]? with|some (some (.sh d))=>some (B.sh d)|_=>none)=some (.own xs):=Option.some.inj e
   split at e<;>cases e

theorem dy:∀ a:Sd,ja a a
 | []=>trivial
 | none::r=>dy r
 | some b::r=>⟨rfl,dy r⟩
theorem RS.other {Y:Dyn}{F:Hp}{σd:Sd}{σ:St}{H:Hp}{a:Addr}{o:HO}(R:RS Y F σd σ H)(h1:F a=none)(h2:Y.H0 a=none)(h3:NoOwn σd σ a):RS Y F σd σ (bj H a o) where
 len:=R.len
 lo:=R.lo
 fr:=λb u e=>by
  have:b≠a:=λz=>by rw[z,h1] at e;cases e
  rw[ah this];exact R.fr b u e
 fro:=R.fro
 old:=λb u e n=>by
  have:b≠a:=λz=>by rw[z,h2] at e;cases e
  rw[ah this];exact R.old b u e n
 sh:=R.sh
 own:=λi xs e=>by
  obtain⟨b,vs,w1,w2,w3⟩:=R.own i xs e;have:b≠a:=λz=>h3 i xs e (by rw[w1,z])
  exact⟨b,vs,w1,by rw[ah this];exact w2,w3⟩
 dis:=R.dis
 io:=R.io
 ob:=R.ob.step (Same.refl _) (λ_ _ e=>⟨e,rfl⟩) (λb hb=>by
  obtain⟨w1,w2,w3⟩:=R.ob.owned hb;have hne:b≠a:=λz=>h3.nob (z ▸ hb);exact⟨ah hne,w1,w3⟩) R.ob.dsx λb hb=>by
  by_cases hne:b=a
  ·rw[hne,ao];exact λz=>nomatch z
  ·rw[ah hne];exact R.ob.there b hb
def Ud (g:jn):TG:=λv σ H Q=>∃ Y:Dyn,Y.io=[]/\lG Y g v σ H Q
def Ue (t:TB):TT:=λσ H Q=>∃ Y:Dyn,Y.io=[]/\lB Y t σ H Q
def UO (t:TD):TE:=λσ H Q=>∃ Y:Dyn,Y.io=[]/\lD Y t σ H Q
structure EBs (G:GE)(k:Nat)(S:Stat)(ifs:List Expr)(t:TB) :Prop where
 run:∀ X Y,XOk X G k S Y->Dh X ifs (lB Y t)
instance {G:GE} {k:Nat} {S:Stat} {ifs:List Expr} {t:TB} :CoeFun (EBs G k S ifs t) λ_=>∀ X Y,XOk X G k S Y->Dh X ifs (lB Y t):=⟨EBs.run⟩
def bF:TB:=λσ Q=>Q true σ
theorem cz:EBs G k S [] bF:=.mk λX Y ok pins s σ H Q I q=>DX pins s σ H Q I (by
 obtain⟨F,σd,Qd,R,q,K⟩:=q;exact K true H F σd (Same.refl _) R q)
theorem FL {c:Expr}{t:TB}(h:EB G k S c t):EBs G k S [c] t:=.mk λX Y ok=>DY (h X Y ok)
section
variable {elt target iter:Expr}{ifs:List Expr}{scope:Scope}{pos:Pos}{N':List Str}{caps:List (Option Nat)}{ti:dq}{g:jn}{tc:TB}{te:TD}
theorem nG {X:Cx}{Y:Dyn}(hh:S.hot=false)(ok:XOk X G k S Y)(b:BlkOk S scope N' caps)(hg:EG G k (au S scope N') target g)(ht:EBs G k (au S scope N') ifs tc)(he:ED G k (au S scope N') elt te) :
  ∀ X',CompX X X' scope N'->PG X' target (Ud g)/\Dh X' ifs (Ue tc)/\PE X' elt (UO te):=λX' c =>
 ⟨λpins s σ H v u Q I r ⟨Y',hio,q⟩=>hg X' Y' (cL hh ok b c Y' hio) pins s σ H v u Q I r q,λpins s σ H Q I ⟨Y',hio,q⟩=>ht X' Y' (cL hh ok b c Y' hio) pins s σ H Q I q,λpins s σ H Q I ⟨Y',hio,q⟩=>he X' Y' (cL hh ok b c Y' hio) pins s σ H Q I q⟩
theorem kl {Y:Dyn}{ios:List Nat}(hio:∀ p∈Y.io,p.1∈ios){σ:St}{H:Hp}{Q:VK}(q:lX Y (bU ios caps ti g tc te) σ H Q):iy (lI Y ti) caps (Ud g) (Ue tc) (UO te) σ H Q:=by
 obtain⟨F,σd,Qd,R,q,K⟩:=q;refine⟨F,σd,_,R,q,λH1 F1 σd1 J items s1 R1 it q1 acc hacc=>?_⟩;obtain⟨F2,σd2,s2,R2,q2⟩:=cM hio R1 q1;have it2:=it.mono s2;have a0:Y.H0 acc=none:=(R2.fresh0 hacc).1;have aF:F2 acc=none:=aM R2.fr hacc;have aN:NoOwn σd2 σ acc:=R2.noFresh hacc;have sw:∀ {F5 H5:Hp} {o:HO},Same F5 H5->F5 acc=none->Same F5 (bj H5 acc o):=λ{F5 H5 o} s5 h b u e=>by
  have:b≠acc:=λz=>by rw[z,h] at e;cases e
  rw[ah this];exact s5 b u e
 refine⟨λi m σ1 H'=>∃ Fi ds ys,Same F2 Fi/\RS Y Fi σd2 σ H'/\H' acc=some (.lst ys)/\RepL Fi ys ds/\Fi acc=none/\RS ⟨H',Fi,[],[]⟩ Fi (cy caps σd2) σ1 H'/\eI g tc te (cy caps σd2) (items.drop i) ds (λds=>Qd (.own ds) σd2)/\m=items.length - i/\i<=items.length,
  ⟨items.length,F2,[],[],Same.refl _,R2.other aF a0 aN,ao,.nil,aF,nF R2 caps (Same.refl _) (sw R2.fr aF),q2,rfl,Nat.zero_le _⟩,?_⟩
 rintro i m σ1 Hi ⟨Fi,ds,ys,si,Ri,hacci,ri,fi,Rin,qi,rfl,hi⟩;have itr:=it2 Fi Hi si Ri.fr i
 by_cases hl:i < items.length
 ·right
  have hd:items.drop i=items[i]::items.drop (i+1):=by rw[List.drop_eq_getElem_cons hl]
  rw[hd] at qi;obtain⟨go,yl⟩:=itr.1 items[i] (by rw[List.getElem?_eq_getElem hl])
  refine⟨go,λv H' y=>?_⟩;obtain⟨F3,gr,rep⟩:=yl v H' y;have sF:Same Fi F3:=gr.same Ri.fr;have R3:=gr.rs Rin;have R3':RS ⟨H',F3,[],[]⟩ F3 (cy caps σd2) σ1 H':=R3.less (dy _) (bD _ _) (bC _ _) R3.fr;have sH:Same Hi H':=by
   rcases gr with ⟨_,rfl⟩|⟨p,o,hp,_,rfl⟩
   ·exact Same.refl _
   ·exact ay hp
  have fr3:∀ c o,F3 c=some o->Fi c=some o\/Nw Hi c o:=λc o e=>by
   rcases gr with ⟨rfl,_⟩|⟨p,o',hp,rfl,_⟩
   ·exact .inl e
   ·by_cases hc:c=p
    ·subst hc;exact .inr (.inl hp)
    ·rw[ah hc] at e;exact .inl e
  -- behind the turn
  have back:∀ {F5 H5:Hp} {σd5:Sd} {σ5:St},Same F3 F5->RS ⟨H',F3,[],[]⟩ F5 σd5 σ5 H5->RS Y F5 σd2 σ H5/\H5 acc=some (.lst ys)/\F5 acc=none/\Same Fi F5:=λ{F5 H5 σd5 σ5} s5 R5=>by
   have s35:Same Hi H5:=sH.trans λb o e=>R5.old b o e (by simp [Dyn.ioA])
   have fr5:∀ c o,F5 c=some o->Fi c=some o\/Nw Hi c o:=λc o e=>by
    rcases R5.fro c o e with z|z
    ·exact fr3 c o z
    ·exact .inr (z.imp sH.free id)
   refine⟨Ri.call (sF.trans s5) R5.fr s35 fr5,s35 _ _ hacci,?_,sF.trans s5⟩;cases e:F5 acc with
   | none=>rfl
   | some o =>
    rcases fr5 acc o e with z|z
    ·rw[fi] at z;cases z
    ·rcases z with z|⟨ws,rfl⟩
     ·rw[hacci] at z;cases z
     ·have y:=R5.fr acc _ e;rw[s35 _ _ hacci] at y;cases y
  refine⟨⟨H',F3,[],[]⟩,rfl,F3,_,items[i],_,R3',rep,qi,λσ4 H4 F4 σd4 s4 R4 q4=>?_⟩;refine⟨⟨H',F3,[],[]⟩,rfl,F4,σd4,_,R4,q4,λb H5 F5 σd5 s5 R5 q5=>?_⟩;cases b with
  | false =>
   obtain⟨le,q5⟩:=q5;obtain⟨w1,w2,w3,w4⟩:=back (s4.trans s5) R5;exact⟨items.length - (i+1),by omega,F5,ds,ys,si.trans w4,w1,w2,ri.mono w4,w3,R5.less le (bD _ _) (bC _ _) R5.fr,q5,rfl,hl⟩
  | true =>
   refine⟨⟨H',F3,[],[]⟩,rfl,F5,σd5,_,R5,q5,λv6 H6 F6 d σd6 s6 R6 r6 q6=>?_⟩;obtain⟨le,hz,q6⟩:=q6;obtain⟨w1,w2,w3,w4⟩:=back ((s4.trans s5).trans s6) R6;exact⟨ys,items.length - (i+1),w2,by rw[ri.length];exact hz,by omega,F6,ds++[d],ys++[v6],si.trans w4,w1.other w3 a0 aN,ao,(ri.mono w4).append (.cons r6 .nil),w3,R6.less le (bD _ _) (bC _ _) (sw R6.fr w3),q6,rfl,hl⟩
 ·left
  have e:i=items.length:=by omega
  subst e;rw[List.drop_length] at qi;exact⟨itr.2 rfl,K _ Hi Fi (.own ds) σd2 ((s1.trans s2).trans si) Ri ⟨acc,ys,rfl,hacci,ri,fi,a0,aN⟩ qi⟩
theorem cC (hi:EI G k S target iter ti)(b:BlkOk S scope N' caps)(hg:EG G k (au S scope N') target g)(ht:EBs G k (au S scope N') ifs tc)(he:ED G k (au S scope N') elt te)(hs:∀ env x,foldedSetIterable iter env x=pure x:=by intro _ _;rfl)(hh:S.hot=false:=by rfl) :
  EX G k S (.ListComp elt [⟨target,iter,ifs,0⟩] scope pos) (bU S.ios caps ti g tc te):=.mk λX Y ok =>
 aE (ju (ok.calm hh) (hi X Y ok) (b.sc ok) (nG hh ok b hg ht he) (hs _)) λσ H Q q=>kl ok.ios q
theorem nH (i:Nat){y:Str}{py spos:Pos}(hi:EI G k S target iter ti)(b:BlkOk S scope N' caps)(hg:EG G k (au S scope N') target g)(ht:EBs G k (au S scope N') ifs tc)(he:ED G k (au S scope N') elt te)
  (hy:S.N[i]?=some y:=by rfl) (hx:S.sc.lookup y=some .local\/(S.sc.lookup y=some .cell/\S.blk=false):=by first|exact Or.inl rfl|exact Or.inr ⟨rfl,rfl⟩) (hn:i∉S.ios:=by first|decide|exact List.not_mem_nil | (dsimp only;decide)) (hl:(py.line==pos.line)=true:=by rfl) (hsn:(scope.names.any λ(n,k)=>n==y&&(k==.local||k==.cell))=false:=by decide +kernel)
  (hs:∀ env x,foldedSetIterable iter env x=pure x:=by intro _ _;rfl) (hh:S.hot=false:=by rfl):ES G k S (.Assign [.Name y py] (.ListComp elt [⟨target,iter,ifs,0⟩] scope pos) spos) (cU S.ios i (bU S.ios caps ti g tc te)):=.mk λX Y ok=>by
 have sw:swapsWith (.ListComp elt [⟨target,iter,ifs,0⟩] scope pos) (some (.Name y py)) spos.line X.env=pure (S.sc.lookup y==some .local):=by
  have e:swapsWith (.ListComp elt [⟨target,iter,ifs,0⟩] scope pos) (some (.Name y py)) spos.line X.env=pure (X.env.blockKind==.function&&X.env.kindOf y==some .local&&py.line==pos.line&&!(scope.names.any λ(n,k)=>n==y&&(k==.local||k==.cell))):=rfl
  have kb:X.env.blockKind=.function:=by unfold Env.blockKind;rw[ok.kind];rfl
  have kd:X.env.kindOf y=S.sc.lookup y:=by
   show X.env.scope.names.lookup y=_;rw[ok.sc]
  rw[e,kb,kd,hl,hsn];simp
 have fin:∀ Dn σ H,lS Y (cU S.ios i (bU S.ios caps ti g tc te)) Dn σ H->vV (iy (lI Y ti) caps (Ud g) (Ue tc) (UO te)) (jK i) Dn σ H:=λDn σ H q=>by
  obtain⟨F,σd,De,R,q,K⟩:=q;refine kl ok.ios ⟨F,σd,_,R,q,λv H1 F1 y σ1 s1 R1 r1 q1=>?_⟩;obtain⟨F2,σ2,s2,R2,q2⟩:=iq R1 r1 hn ok.ios q1;exact K.nx _ H1 F2 σ2 (s1.trans s2) R2 q2
 rcases hx with hx|hx
 ·refine bA (tP (i:=i) (ok.calm hh) (hi X Y ok) (b.sc ok) (nG hh ok b hg ht he) (hs _) (by rw[ok.N];exact ok.nd) (by rw[ok.N];exact hy) (by rw[ok.sc];exact hx) (by rw[sw,hx];rfl)) fin
 ·refine bA (L2.ps_set (i:=i) (by rw[ok.N];exact ok.nd) (by rw[ok.N];exact hy) (jZ ok (.inr hx)) (ju (ok.calm hh) (hi X Y ok) (b.sc ok) (nG hh ok b hg ht he) (hs _)) (by rw[sw,hx.1];rfl) (kc ok (.inr hx))) fin
end
end Vc


namespace Vc
open PySem L2
variable [KF]

section
variable {prog:Program}{w:World}{A:Around}{E:Value->Shared->Prop}{s:Shared}
theorem wM {j t:Addr}{i:Nat}{xs:Array Value}{x:Value}{Q:Value->Shared->Prop}(hj:s.heap.IsTupleIter j t i)(ht:s.heap.IsTuple t xs)(hx:xs[i]?=some x)
  (q:∀ g,g.IsTupleIter j t (i+1)->Heap.SameBut j s.heap g->Q x { s with heap:=g }):wpAny (model prog w) A (Builtin.SmallTypes.nextOf (.ref j)) Q E s:=by
 obtain⟨ob,h1,h2,h3⟩:=id hj;obtain⟨ot,h4,_,nt,h5⟩:=ht;unfold Builtin.SmallTypes.nextOf;refine wpAny_bind (wpAny_callSpecial?_slot (name:=Str.ofString "__next__") hj.typeIs F.slot_tuple_iterator_next (wpAny_call_entry F.slot_tuple_iterator_next hj.typeIs F.entry_tuple_iterator_next ?_ (F.args_tuple_iterator_next_1 _)));show wpAny _ _ (field (.ref j) 0 >>= _) _ _ s;refine wpAny_bind (wpAny_field h1 h3 (x:=.ref t) rfl ?_);show wpAny _ _ (if (Value.ref t==Value.none)=true then _ else _) _ _ s
 rw[if_neg (by intro z;exact absurd z Bool.false_ne_true)]
 show wpAny _ _ (field (.ref j) 1 >>= _) _ _ s;refine wpAny_bind (wpAny_field h1 h3 (x:=.int i 0) rfl ?_);show wpAny _ _ (seqItems? (.ref t) >>= _) _ _ s;refine wpAny_bind (wpAny_seqItems h4 h5 ?_);simp only[Int.toNat_natCast,hx];refine wpAny_bind (wpAny_setField h1 h3 (by simp) (wpAny_pure ⟨x,rfl,wpAny_pure (q _ ?_ (Heap.SameBut.update ..))⟩))
 refine⟨_,Heap.get?_update_self _ h1 (Obj.isFreed_of_fields (Obj.data_mapFields h3 _)),(Obj.cls_mapFields ..).trans h2,?_⟩;rw[Obj.data_mapFields h3];simp [rawInt]
theorem nJ {j t:Addr}{i:Nat}{xs:Array Value}{Q:Value->Shared->Prop}(hh:A.handled=none)(hj:s.heap.IsTupleIter j t i)(ht:s.heap.IsTuple t xs)(hx:xs[i]?=none)
  (q:∀ g e,Heap.ExtBut j s.heap g->(∃ o,g.get? e=some o/\o.cls=.type "StopIteration")->E (.ref e) { s with heap:=g }):wpAny (model prog w) A (Builtin.SmallTypes.nextOf (.ref j)) Q E s:=by
 obtain⟨ob,h1,h2,h3⟩:=id hj;obtain⟨ot,h4,_,nt,h5⟩:=ht;unfold Builtin.SmallTypes.nextOf;refine wpAny_bind (wpAny_callSpecial?_slot (name:=Str.ofString "__next__") hj.typeIs F.slot_tuple_iterator_next (wpAny_call_entry F.slot_tuple_iterator_next hj.typeIs F.entry_tuple_iterator_next ?_ (F.args_tuple_iterator_next_1 _)));show wpAny _ _ (field (.ref j) 0 >>= _) _ _ s;refine wpAny_bind (wpAny_field h1 h3 (x:=.ref t) rfl ?_);show wpAny _ _ (if (Value.ref t==Value.none)=true then _ else _) _ _ s
 rw[if_neg (by intro z;exact absurd z Bool.false_ne_true)]
 show wpAny _ _ (field (.ref j) 1 >>= _) _ _ s;refine wpAny_bind (wpAny_field h1 h3 (x:=.int i 0) rfl ?_);show wpAny _ _ (seqItems? (.ref t) >>= _) _ _ s;refine wpAny_bind (wpAny_seqItems h4 h5 ?_);simp only[Int.toNat_natCast,hx];refine wpAny_bind (wpAny_rule (wpAny_bind (wpAny_setField h1 h3 (by simp) ?_)))
 show wpAny _ _ (newExc (.type "StopIteration") [] >>= _) _ _ _;refine wpAny_bind ?_;simp only[newExc,newTuple];refine wpAny_bind (wpAny_newObj_type ?_ (by size_fits))
 refine wpAny_bind (m:=firstArgMember _ _) (wpAny_of_eq (a:=Value.none) (by first|rfl | (simp only[firstArgMember];rfl)) ?_)
 refine wpAny_newObj_type ?_ (by size_fits)
 simp only[raiseNew];refine wpAny_bind (wpAny_handled ?_)
 first|rw[show A.in1.handled=none from hh]|rw[hh]
 refine wpAny_bind (wpAny_pure (wpAny_throw ?_));exact q _ _ (((Heap.SameBut.update ..).extBut.push _).push _) ⟨_,Heap.get?_push_size _ rfl,rfl⟩
end
def SqI (tp:Bool)(h:Heap)(j a:Addr)(i:Nat):Prop:=if tp=true then h.IsTupleIter j a i else h.IsListIter j a i
def SqA (tp:Bool)(h:Heap)(a:Addr)(xs:Array Value):Prop:=if tp=true then h.IsTuple a xs else h.IsList a xs
theorem SqI.live {tp:Bool}{h:Heap}{j a:Addr}{i:Nat}(q:SqI tp h j a i):∃ o,h.get? j=some o/\∀ v,o.data≠.cell v:=by
 cases tp with
 | true=>obtain⟨o,e,c,d⟩:=(show h.IsTupleIter j a i from q);exact⟨o,e,λv z=>by rw[d] at z;cases z⟩
 | false=>obtain⟨o,e,c,d⟩:=(show h.IsListIter j a i from q);exact⟨o,e,λv z=>by rw[d] at z;cases z⟩
theorem SqI.at {tp:Bool}{h h':Heap}{j a:Addr}{i:Nat}(q:SqI tp h j a i)(k:∀ o,h.get? j=some o->h'.get? j=some o):SqI tp h' j a i:=by
 cases tp with
 | true=>obtain⟨o,e,r⟩:=(show h.IsTupleIter j a i from q);exact (show h'.IsTupleIter j a i from ⟨o,k o e,r⟩)
 | false=>obtain⟨o,e,r⟩:=(show h.IsListIter j a i from q);exact (show h'.IsListIter j a i from ⟨o,k o e,r⟩)
theorem SqA.at {tp:Bool}{h h':Heap}{a:Addr}{xs:Array Value}(q:SqA tp h a xs)(k:∀ o,h.get? a=some o->h'.get? a=some o):SqA tp h' a xs:=by
 cases tp with
 | true=>obtain⟨o,e,r⟩:=(show h.IsTuple a xs from q);exact (show h'.IsTuple a xs from ⟨o,k o e,r⟩)
 | false=>obtain⟨o,e,r⟩:=(show h.IsList a xs from q);exact (show h'.IsList a xs from ⟨o,k o e,r⟩)
section
variable {prog:Program}{w:World}{A:Around}{E:Value->Shared->Prop}{s:Shared}
theorem HK {tp:Bool}{j a:Addr}{i:Nat}{xs:Array Value}{x:Value}{Q:Value->Shared->Prop}(hj:SqI tp s.heap j a i)(ha:SqA tp s.heap a xs)(hx:xs[i]?=some x)
  (q:∀ g,SqI tp g j a (i+1)->Heap.SameBut j s.heap g->Q x { s with heap:=g }):wpAny (model prog w) A (Builtin.SmallTypes.nextOf (.ref j)) Q E s:=by
 cases tp with
 | true=>exact wM hj ha hx q
 | false=>exact wpAny_nextOf_list_item hj ha hx q
theorem qh {tp:Bool}{j a:Addr}{i:Nat}{xs:Array Value}{Q:Value->Shared->Prop}(hh:A.handled=none)(hj:SqI tp s.heap j a i)(ha:SqA tp s.heap a xs)(hx:xs[i]?=none)
  (q:∀ g e,Heap.ExtBut j s.heap g->(∃ o,g.get? e=some o/\o.cls=.type "StopIteration")->E (.ref e) { s with heap:=g }):wpAny (model prog w) A (Builtin.SmallTypes.nextOf (.ref j)) Q E s:=by
 cases tp with
 | true=>exact nJ hh hj ha hx q
 | false=>exact wpAny_nextOf_list_end hh hj ha hx q
structure ZAp (z U V i j:Addr):Prop where
 uz:U≠z
 vz:V≠z
 iz:i≠z
 jz:j≠z
 uv:U≠V
 ui:U≠i
 uj:U≠j
 vi:V≠i
 vj:V≠j
 ij:i≠j
theorem Ea {tp tq:Bool}{z U V i j l m:Addr}{n:Nat}{xs ys:Array Value}{x y a b:Value}{Q:Option Value->Shared->Prop}(D:ZAp z U V i j)(lz:l≠z/\l≠V/\l≠i/\l≠j)(mz:m≠z/\m≠V/\m≠i/\m≠j)
  (hz:IsZip s.heap z U V .none) (hU:IsPair s.heap U (.ref i) (.ref j)) (hV:IsPair s.heap V a b) (h1:SqI tp s.heap i l n) (h2:SqI tq s.heap j m n) (hl:SqA tp s.heap l xs) (hm:SqA tq s.heap m ys) (hx:xs[n]?=some x) (hy:ys[n]?=some y)
  (q:∀ g,IsZip g z U V (rawInt s.heap.objs.size)->IsPair g V x y->SqI tp g i l (n+1)->SqI tq g j m (n+1)->IsPair g s.heap.objs.size x y->g.objs.size=s.heap.objs.size+1 ->
   (∀ c o,c≠z->c≠V->c≠i->c≠j->s.heap.get? c=some o->g.get? c=some o)->Q (some (.ref s.heap.objs.size)) { s with heap:=g }):wpAny (model prog w) A (pyNext (.ref z)) Q E s:=by
 have hT:s.TypeIs (.ref z) "zip":=⟨_,hz,rfl⟩;unfold pyNext;refine wpAny_bind (wpAny_attempt (wpAny_callSpecial?_slot (name:=Str.ofString "__next__") hT F.slot_zip_next (wpAny_call_entry F.slot_zip_next hT F.entry_zip_next ?_ (F.args_zip_next_1 _))));show wpAny _ _ (field (.ref z) 2 >>= _) _ _ _;refine wpAny_bind (wpAny_field hz rfl (x:=.bool false) rfl ?_);show wpAny _ _ (field (.ref z) 3 >>= _) _ _ _;refine wpAny_bind (wpAny_field hz rfl (x:=.ref U) rfl (wpAny_bind (wpAny_seqItems hU rfl ?_)));show wpAny _ _ (Builtin.SmallTypes.ownedTupleIsFree (.ref z) >>= _) _ _ _;refine wpAny_bind ?_;unfold Builtin.SmallTypes.ownedTupleIsFree;refine wpAny_bind (wpAny_field hz rfl (x:=.none) rfl (wpAny_pure ?_));simp only[if_true];refine wpAny_bind (wpAny_rule (wpAny_bind (wpAny_field hz rfl (x:=.ref V) rfl (wpAny_bind (wpAny_setField_rec hz (by simp) λg1 z1 e1=>?_)))))
 replace z1:IsZip g1 z U V .ellipsis:=z1
 refine wpAny_bind ?_;simp only[List.zipIdx_cons,List.zipIdx_nil,List.forIn_cons,List.forIn_nil];refine wpAny_bind (wpAny_bind (wpAny_onRaise ?_));show wpAny _ _ (Builtin.SmallTypes.nextOf (.ref i) >>= _) _ _ _;refine wpAny_bind (HK (s:={ s with heap:=g1 }) (h1.at λo e=>e1.extBut _ _ D.iz e) (hl.at λo e=>e1.extBut _ _ lz.1 e) hx λg2 w2 e2=>wpAny_pure ?_)
 have v2:IsPair g2 V a b:=e2.extBut _ _ D.vi (e1.extBut _ _ D.vz hV);refine wpAny_bind (wpAny_seqItems v2 rfl (wpAny_bind (wpAny_updateSeq_pair v2 λg3 v3 e3=>?_)))
 replace v3:IsPair g3 V x b:=v3
 refine wpAny_bind (wpAny_letGo (wpAny_pure (wpAny_bind (wpAny_bind (wpAny_onRaise ?_)))));show wpAny _ _ (Builtin.SmallTypes.nextOf (.ref j) >>= _) _ _ _;have to3:∀ c o,c≠z->c≠i->c≠V->s.heap.get? c=some o->g3.get? c=some o:=λc o c1 c2 c3 e=>e3.extBut _ _ c3 (e2.extBut _ _ c2 (e1.extBut _ _ c1 e));refine wpAny_bind (HK (s:={ s with heap:=g3 }) (h2.at λo e=>to3 j o D.jz D.ij.symm D.vj.symm e) (hm.at λo e=>to3 m o mz.1 mz.2.2.1 mz.2.1 e) hy λg4 w4 e4=>wpAny_pure ?_)
 have v4:IsPair g4 V x b:=e4.extBut _ _ D.vj v3;refine wpAny_bind (wpAny_seqItems v4 rfl (wpAny_bind (wpAny_updateSeq_pair v4 λg5 v5 e5=>?_)))
 replace v5:IsPair g5 V x y:=v5
 refine wpAny_bind (wpAny_letGo (wpAny_pure (wpAny_pure (wpAny_bind (wpAny_seqItems v5 rfl (wpAny_bind (wpAny_newTuple ?_)))))));have sz:g5.objs.size=s.heap.objs.size:=by rw[e5.1,e4.1,e3.1,e2.1,e1.1]
 have z5:IsZip g5 z U V .ellipsis:=e5.extBut _ _ D.vz.symm (e4.extBut _ _ D.jz.symm (e3.extBut _ _ D.vz.symm (e2.extBut _ _ D.iz.symm z1)));have k5:∀ c o,c≠z->c≠V->c≠i->c≠j->s.heap.get? c=some o->g5.get? c=some o:=λc o c1 c2 c3 c4 e=>e5.extBut _ _ c2 (e4.extBut _ _ c4 (to3 c o c1 c3 c2 e));have i5:SqI tp g5 i l (n+1):=w2.at λo e=>e5.extBut _ _ D.vi.symm (e4.extBut _ _ D.ij (e3.extBut _ _ D.vi.symm e));have j5:SqI tq g5 j m (n+1):=w4.at λo e=>e5.extBut _ _ D.vj.symm e;have zlt:z < g5.objs.size:=Heap.lt_size z5;show wpAny _ _ (Builtin.SmallTypes.ownedTupleHandOut (.ref z) (.ref g5.objs.size) >>= _) _ _ _;refine wpAny_bind ?_;unfold Builtin.SmallTypes.ownedTupleHandOut;have z6:IsZip (g5.push { cls:=.type "tuple",data:=.seq #[x,y] }) z U V .ellipsis:=Heap.get?_push_of_some _ z5;refine wpAny_bind (wpAny_setField_rec z6 (by simp) λg7 z7 e7=>?_)
 replace z7:IsZip g7 z U V (rawInt g5.objs.size):=z7
 refine wpAny_setField_rec z7 (by simp) λg8 z8 e8=>?_
 replace z8:IsZip g8 z U V (rawInt g5.objs.size):=z8
 have up:∀ c o,c≠z->g5.get? c=some o->g8.get? c=some o:=λc o c1 e=>e8.extBut _ _ c1 (e7.extBut _ _ c1 (Heap.get?_push_of_some _ e));have t8:IsPair g8 g5.objs.size x y:=e8.extBut _ _ (Nat.ne_of_gt zlt) (e7.extBut _ _ (Nat.ne_of_gt zlt) (Heap.get?_push_size _ rfl));have s8:g8.objs.size=g5.objs.size+1:=by rw[e8.1,e7.1,Heap.size_push]
 rw[sz] at z8 t8 s8;refine wpAny_pure ⟨_,rfl,wpAny_pure ?_⟩;show Q (some (.ref g5.objs.size)) _;rw[sz];exact q g8 z8 (up _ _ D.vz v5) (i5.at λo e=>up _ o D.iz e) (j5.at λo e=>up _ o D.jz e) t8 s8 λc o c1 c2 c3 c4 e=>up c o c1 (k5 c o c1 c2 c3 c4 e)
end
end Vc


namespace Vc
open PySem L2
variable [KF]
abbrev VJ (tp:Bool):String:=if tp=true then "tuple_iterator" else "list_iterator"
abbrev zA (tp:Bool)(h:Heap)(l:Addr):Heap:=h.push { cls:=.type (VJ tp),data:=.fields #[.ref l,.int 0 0] }
abbrev zB (tp tq:Bool)(h:Heap)(l m:Addr):Heap:=zA tq (zA tp h l) m
abbrev zC (tp tq:Bool)(h:Heap)(l m:Addr):Heap:=(zB tp tq h l m).push { cls:=.type "tuple",data:=.seq #[.ref h.objs.size,.ref (zA tp h l).objs.size] }
abbrev zD (tp tq:Bool)(h:Heap)(l m:Addr):Heap:=(zC tp tq h l m).push { cls:=.type "tuple",data:=.seq #[.none,.none] }
abbrev zE (tp tq:Bool)(h:Heap)(l m:Addr):Heap:=(zD tp tq h l m).push { cls:=.type "zip",data:=.fields #[.none,.bool false,.bool false,.ref (zB tp tq h l m).objs.size,.ref (zC tp tq h l m).objs.size] }
set_option maxHeartbeats 4000000 in
theorem wN (tp tq:Bool)(l m:Addr)(xs ys:Array Value) :
  Meets (Builtin.«zip.__new__» ⟨[.type "zip",.ref l,.ref m],[]⟩) (λ_ R s=>SqA tp s.heap l xs/\SqA tq s.heap m ys/\R (.ok (.ret (.ref (zD tp tq s.heap l m).objs.size))) { s with heap:=zE tp tq s.heap l m }) :=
 .of_wp λprog w A R s h=>by
  obtain⟨hp,g,d,tk,os⟩:=s;obtain⟨hl,hm,h⟩:=h;have sub:=sub_zip;cases tp with
  | true =>
   have L1:Heap.IsTuple (Shared.heap ⟨hp,g,d,tk,os⟩) l xs:=hl;cases tq with
   | true =>
    have L2:Heap.IsTuple (Shared.heap ⟨hp.push { cls:=.type "tuple_iterator",data:=.fields #[.ref l,.int 0 0] },g,d,tk,os⟩) m ys:=by
     obtain⟨o,e,r⟩:=(show hp.IsTuple m ys from hm);exact⟨o,Heap.get?_push_of_some _ e,r⟩
    wp_walk using wpAny_pyIter_tuple L1,wpAny_pyIter_tuple L2
    exact⟨_,rfl,h⟩
   | false =>
    have L2:Heap.IsList (Shared.heap ⟨hp.push { cls:=.type "tuple_iterator",data:=.fields #[.ref l,.int 0 0] },g,d,tk,os⟩) m ys:=by
     obtain⟨o,e,r⟩:=(show hp.IsList m ys from hm);exact⟨o,Heap.get?_push_of_some _ e,r⟩
    wp_walk using wpAny_pyIter_tuple L1,wpAny_pyIter_list L2
    exact⟨_,rfl,h⟩
  | false =>
   have L1:Heap.IsList (Shared.heap ⟨hp,g,d,tk,os⟩) l xs:=hl;cases tq with
   | true =>
    have L2:Heap.IsTuple (Shared.heap ⟨hp.push { cls:=.type "list_iterator",data:=.fields #[.ref l,.int 0 0] },g,d,tk,os⟩) m ys:=by
     obtain⟨o,e,r⟩:=(show hp.IsTuple m ys from hm);exact⟨o,Heap.get?_push_of_some _ e,r⟩
    wp_walk using wpAny_pyIter_list L1,wpAny_pyIter_tuple L2
    exact⟨_,rfl,h⟩
   | false =>
    have L2:Heap.IsList (Shared.heap ⟨hp.push { cls:=.type "list_iterator",data:=.fields #[.ref l,.int 0 0] },g,d,tk,os⟩) m ys:=by
     obtain⟨o,e,r⟩:=(show hp.IsList m ys from hm);exact⟨o,Heap.get?_push_of_some _ e,r⟩
    wp_walk using wpAny_pyIter_list L1,wpAny_pyIter_list L2
    exact⟨_,rfl,h⟩
theorem tQ {tp:Bool}{h:Heap}{j a:Addr}(e:h.get? j=some { cls:=.type (VJ tp),data:=.fields #[.ref a,.int 0 0] }):SqI tp h j a 0:=by
 cases tp with
 | true=>exact⟨_,e,rfl,rfl⟩
 | false=>exact⟨_,e,rfl,rfl⟩
section
variable {prog:Program}{w:World}{A:Around}{E:Value->Shared->Prop}{s:Shared}
theorem wO {tp tq:Bool}{l m:Addr}{xs ys:Array Value}{Q:Value->Shared->Prop}(hl:SqA tp s.heap l xs)(hm:SqA tq s.heap m ys)
  (q:∀ g,IsZip g (s.heap.objs.size+4) (s.heap.objs.size+2) (s.heap.objs.size+3) .none->IsPair g (s.heap.objs.size+2) (.ref s.heap.objs.size) (.ref (s.heap.objs.size+1))->IsPair g (s.heap.objs.size+3) .none .none ->
   SqI tp g s.heap.objs.size l 0->SqI tq g (s.heap.objs.size+1) m 0->(∀ c o,s.heap.get? c=some o->g.get? c=some o)->Q (.ref (s.heap.objs.size+4)) { s with heap:=g }) :
  wpAny (model prog w) A (call (.type "zip") [.ref l,.ref m]) Q E s:=by
 refine callType_new F.called_zip (by decide) (F.typeCall_zip_2 _ _) (F.newCall_zip_2 _ _) (λob=>F.args_object_init_3 ob _ _) F.entry_zip_new (wN tp tq l m xs ys) ⟨hl,hm,?_⟩
 have n1:(zA tp s.heap l).objs.size=s.heap.objs.size+1:=Heap.size_push ..;have n2:(zB tp tq s.heap l m).objs.size=s.heap.objs.size+2:=by rw[Heap.size_push,n1]
 have n3:(zC tp tq s.heap l m).objs.size=s.heap.objs.size+3:=by rw[Heap.size_push,n2]
 have n4:(zD tp tq s.heap l m).objs.size=s.heap.objs.size+4:=by rw[Heap.size_push,n3]
 have p5:(zE tp tq s.heap l m).get? (zD tp tq s.heap l m).objs.size=some _:=Heap.get?_push_size _ rfl;have p4:(zE tp tq s.heap l m).get? (zC tp tq s.heap l m).objs.size=some _:=Heap.get?_push_of_some _ (Heap.get?_push_size _ rfl);have p3:(zE tp tq s.heap l m).get? (zB tp tq s.heap l m).objs.size=some _:=Heap.get?_push_of_some _ (Heap.get?_push_of_some _ (Heap.get?_push_size _ rfl));have p2:(zE tp tq s.heap l m).get? (zA tp s.heap l).objs.size=some _:=Heap.get?_push_of_some _ (Heap.get?_push_of_some _ (Heap.get?_push_of_some _ (Heap.get?_push_size _ rfl)));have p1:(zE tp tq s.heap l m).get? s.heap.objs.size=some _:=Heap.get?_push_of_some _ (Heap.get?_push_of_some _ (Heap.get?_push_of_some _ (Heap.get?_push_of_some _ (Heap.get?_push_size _ rfl))));show _/\_;rw[n2,n3,n4] at p5;rw[n1,n2] at p3;rw[n3] at p4;rw[n1] at p2;rw[n4];refine⟨⟨_,p5,rfl⟩,q _ p5 p3 p4 (tQ p1) (tQ p2) λc o x=>?_⟩;exact Heap.get?_push_of_some _ (Heap.get?_push_of_some _ (Heap.get?_push_of_some _ (Heap.get?_push_of_some _ (Heap.get?_push_of_some _ x))))
theorem wP {tp tq:Bool}{z U V i j l m:Addr}{n:Nat}{xs ys:Array Value}{a b:Value}{Q:Option Value->Shared->Prop}(hh:A.handled=none)(D:ZAp z U V i j)(lz:l≠z/\l≠V/\l≠i/\l≠j)(mz:m≠z/\m≠V/\m≠i/\m≠j)
  (hz:IsZip s.heap z U V .none) (hU:IsPair s.heap U (.ref i) (.ref j)) (hV:IsPair s.heap V a b) (h1:SqI tp s.heap i l n) (h2:SqI tq s.heap j m n) (hl:SqA tp s.heap l xs) (hm:SqA tq s.heap m ys) (hend:xs[n]?=none\/ys[n]?=none)
  (q:∀ g,(∀ c o,c≠z->c≠V->c≠i->c≠j->s.heap.get? c=some o->g.get? c=some o)->Q none { s with heap:=g }):wpAny (model prog w) A (pyNext (.ref z)) Q E s:=by
 have hT:s.TypeIs (.ref z) "zip":=⟨_,hz,rfl⟩;unfold pyNext;refine wpAny_bind (wpAny_attempt (wpAny_callSpecial?_slot (name:=Str.ofString "__next__") hT F.slot_zip_next (wpAny_call_entry F.slot_zip_next hT F.entry_zip_next ?_ (F.args_zip_next_1 _))));show wpAny _ _ (field (.ref z) 2 >>= _) _ _ _;refine wpAny_bind (wpAny_field hz rfl (x:=.bool false) rfl ?_);show wpAny _ _ (field (.ref z) 3 >>= _) _ _ _;refine wpAny_bind (wpAny_field hz rfl (x:=.ref U) rfl (wpAny_bind (wpAny_seqItems hU rfl ?_)));show wpAny _ _ (Builtin.SmallTypes.ownedTupleIsFree (.ref z) >>= _) _ _ _;refine wpAny_bind ?_;unfold Builtin.SmallTypes.ownedTupleIsFree;refine wpAny_bind (wpAny_field hz rfl (x:=.none) rfl (wpAny_pure ?_));simp only[if_true];refine wpAny_bind (wpAny_rule (wpAny_bind (wpAny_field hz rfl (x:=.ref V) rfl (wpAny_bind (wpAny_setField_rec hz (by simp) λg1 z1 e1=>?_)))))
 replace z1:IsZip g1 z U V .ellipsis:=z1
 refine wpAny_bind ?_;simp only[List.zipIdx_cons,List.zipIdx_nil,List.forIn_cons,List.forIn_nil];refine wpAny_bind (wpAny_bind (wpAny_onRaise ?_));show wpAny _ _ (Builtin.SmallTypes.nextOf (.ref i) >>= _) _ _ _;cases hx:xs[n]? with
 | none =>
  refine wpAny_bind (qh (s:={ s with heap:=g1 }) hh (h1.at λo e=>e1.extBut _ _ D.iz e) (hl.at λo e=>e1.extBut _ _ lz.1 e) hx λg2 e x2 he=>?_)
  obtain⟨oe,he1,he2⟩:=he;have z2:IsZip g2 z U V .ellipsis:=x2 _ _ D.iz.symm z1;have ez:e≠z:=λx=>by subst x;rw[z2] at he1;cases he1;simp at he2
  refine wpAny_setField_rec z2 (by simp) λg3 _ e3=>?_
  refine wpAny_bind (wpAny_isInstance (T:="StopIteration") (b:=true) ⟨oe,e3.extBut _ _ ez he1,he2⟩ isSubtype_stop (wpAny_pure (q _ λc o c1 _ c3 _ x=>?_)));exact e3.extBut _ _ c1 (x2 _ _ c3 (e1.extBut _ _ c1 x))
 | some x =>
  have hy:ys[n]?=none:=by
   rcases hend with h|h
   ·rw[hx] at h;cases h
   ·exact h
  refine wpAny_bind (HK (s:={ s with heap:=g1 }) (h1.at λo e=>e1.extBut _ _ D.iz e) (hl.at λo e=>e1.extBut _ _ lz.1 e) hx λg2 w2 e2=>wpAny_pure ?_)
  have v2:IsPair g2 V a b:=e2.extBut _ _ D.vi (e1.extBut _ _ D.vz hV);refine wpAny_bind (wpAny_seqItems v2 rfl (wpAny_bind (wpAny_updateSeq_pair v2 λg3 v3 e3=>?_)));refine wpAny_bind (wpAny_letGo (wpAny_pure (wpAny_bind (wpAny_bind (wpAny_onRaise ?_)))));show wpAny _ _ (Builtin.SmallTypes.nextOf (.ref j) >>= _) _ _ _;have to3:∀ c o,c≠z->c≠i->c≠V->s.heap.get? c=some o->g3.get? c=some o:=λc o c1 c2 c3 e=>e3.extBut _ _ c3 (e2.extBut _ _ c2 (e1.extBut _ _ c1 e));refine wpAny_bind (qh (s:={ s with heap:=g3 }) hh (h2.at λo e=>to3 j o D.jz D.ij.symm D.vj.symm e) (hm.at λo e=>to3 m o mz.1 mz.2.2.1 mz.2.1 e) hy λg4 e x4 he=>?_)
  obtain⟨oe,he1,he2⟩:=he;have z4:IsZip g4 z U V .ellipsis:=x4 _ _ D.jz.symm (e3.extBut _ _ D.vz.symm (e2.extBut _ _ D.iz.symm z1));have ez:e≠z:=λx=>by subst x;rw[z4] at he1;cases he1;simp at he2
  refine wpAny_setField_rec z4 (by simp) λg5 _ e5=>?_
  refine wpAny_bind (wpAny_isInstance (T:="StopIteration") (b:=true) ⟨oe,e5.extBut _ _ ez he1,he2⟩ isSubtype_stop (wpAny_pure (q _ λc o c1 c2 c3 c4 x=>?_)));exact e5.extBut _ _ c1 (x4 _ _ c4 (to3 c o c1 c3 c2 x))
end
end Vc


namespace Vc
open PySem L2
variable [KF]
section
variable {X:Cx}{pins:List (Addr×Obj)}{σ:St}{H:Hp}{s:Shared}
theorem Eb (I:L2.Inv X pins σ H s){ch:List Addr}(hf:∀ b∈ch,fh X pins H b){h':Heap}{t':Nat}(kp:∀ b o,b∉ch->s.heap.get? b=some o->h'.get? b=some o){T:Addr}{o:HO}(hT:s.heap.objs.size<=T)(new:ObjOk X.prog X.w (bj H T o) h' T o) :
  L2.Inv X pins σ (bj H T o) { s with heap:=h',toks:=t' }:=by
 have Hw:∀ {b u},s.heap.get? b=some u->b≠T:=λe=>Nat.ne_of_lt (Nat.lt_of_lt_of_le (Heap.lt_size e) hT);have trT:∀ {b u},H b=some u->b≠T:=λe=>Nat.ne_of_lt (Nat.lt_of_lt_of_le (I.hok.lt e) hT);have nch:∀ {b u},H b=some u->b∉ch:=λ{b u} e z=>by rw[(hf b z).1] at e;cases e
 refine I.step (g':=s.gens) (d':=s.drawn) (ch:=ch) (λb hb=>?_) (λb u _ _ hc e _=>kp b u hc e) (λb u _ _ hc e _=>⟨u.slots,kp b u hc e⟩) (λb u hc e n=>by rw[ah (Hw e)];exact n) (λb u hc e=>⟨u,kp b u hc e⟩)
  (λb xs e=>by rw[ah (trT e)];exact e) (λb u w e=>by rw[ah (trT e)];exact e) (λb ps e=>⟨#[],by rw[ah (trT e),e];simp⟩) (λm hm=>?_) (λb u e=>?_) I.bare
 ·obtain⟨f0,f1,f2,f3,f4,f5⟩:=hf b hb
  exact⟨f3.imp id λz=>Heap.get?_none_of_le z,f1,f4,f5⟩
 ·obtain⟨ob,es,ep,ho,r⟩:=hm
  refine⟨ob,es,ep,kp _ ob (λz=>?_) ho,r⟩;exact (hf _ z).2.1 rfl
 ·by_cases hb:b=T
  ·subst hb;rw[ao] at e;cases e;exact new
  ·rw[ah hb] at e
   refine (I.hok b u e).stay (λc v hc q=>?_) (λc q=>by rw[ah (trT q)];exact q) (λc xs q=>by rw[ah (trT q)];exact q) λc o u q=>by rw[ah (trT q)];exact q
   rcases hc with z|z
   ·subst z;exact kp _ v (nch e) q
   ·exact kp _ v (nch z) q
theorem Ec (I:L2.Inv X pins σ H s){ch:List Addr}(hf:∀ b∈ch,fh X pins H b){h':Heap}{t':Nat}(kp:∀ b o,b∉ch->s.heap.get? b=some o->h'.get? b=some o):L2.Inv X pins σ H { s with heap:=h',toks:=t' }:=by
 have nch:∀ {b u},H b=some u->b∉ch:=λ{b u} e z=>by rw[(hf b z).1] at e;cases e
 refine I.step (g':=s.gens) (d':=s.drawn) (ch:=ch) (λb hb=>?_) (λb u _ _ hc e _=>kp b u hc e) (λb u _ _ hc e _=>⟨u.slots,kp b u hc e⟩) (λb u hc e n=>n) (λb u hc e=>⟨u,kp b u hc e⟩)
  (λb xs e=>e) (λb u w e=>e) (λb ps e=>⟨#[],by rw[e];simp⟩) (λm hm=>?_) (λb u e=>?_) I.bare
 ·obtain⟨f0,f1,f2,f3,f4,f5⟩:=hf b hb
  exact⟨f3.imp id λz=>Heap.get?_none_of_le z,f1,f4,f5⟩
 ·obtain⟨ob,es,ep,ho,r⟩:=hm
  refine⟨ob,es,ep,kp _ ob (λz=>?_) ho,r⟩;exact (hf _ z).2.1 rfl
 ·refine (I.hok b u e).stay (λc v hc q=>?_) (λc q=>q) λc xs q=>q
  rcases hc with z|z
  ·subst z;exact kp _ v (nch e) q
  ·exact kp _ v (nch z) q
end
def Sq (tp:Bool)(K:PySem.W.Frag)(H:Hp)(a:Addr)(xs:List V):Prop:=if tp=true then SqT K H a xs else SqL K H a xs
theorem Sq.is {tp:Bool}{X:Cx}{pins:List (Addr×Obj)}{σ:St}{H:Hp}{s:Shared}{a:Addr}{xs:List V}(I:L2.Inv X pins σ H s)(h:Sq tp X.K H a xs):∃ its:List Value,Vals xs its/\SqA tp s.heap a its.toArray/\a < s.heap.objs.size:=by
 cases tp with
 | true =>
  obtain⟨its,r,p,_⟩:=I.tuple (show SqT X.K H a xs from h)
  exact⟨its,r,p,by obtain⟨o,e,_⟩:=p;exact Heap.lt_size e⟩
 | false =>
  obtain⟨its,r,p,_⟩:=I.list (show SqL X.K H a xs from h)
  exact⟨its,r,p.isList,p.lt⟩
theorem Sq.inj {tp:Bool}{X:Cx}{pins:List (Addr×Obj)}{σ:St}{H:Hp}{s:Shared}{a:Addr}{xs ys:List V}(I:L2.Inv X pins σ H s)(h:Sq tp X.K H a xs)(h':Sq tp X.K H a ys):xs=ys:=by
 cases tp with
 | true=>exact I.tuple_inj h h'
 | false=>exact I.list_inj h h'
def UP (tp tq:Bool)(K:PySem.W.Frag)(l m:Addr):It :=
  ⟨λn H=>∃ xs ys x y,Sq tp K H l xs/\Sq tq K H m ys/\xs[n]?=some x/\ys[n]?=some y,
   λn H v H'=>∃ p x y,H p=none/\v=.ref p/\H'=bj H p (.tup [x,y])/\(∀ xs,Sq tp K H l xs->xs[n]?=some x)/\∀ ys,Sq tq K H m ys->ys[n]?=some y,
   λn H=>∃ xs ys,Sq tp K H l xs/\Sq tq K H m ys/\(xs.length<=n\/ys.length<=n)⟩
theorem wQ {P:Program}{w:World}{K:PySem.W.Frag}{elts:List Expr}{kk:Nat}{tpos:Pos}(tp tq:Bool)(z U V i j l m:Addr)(D:ZAp z U V i j)(lz:l≠z/\l≠V/\l≠i/\l≠j)(mz:m≠z/\m≠V/\m≠i/\m≠j) :
  Turn P w K (.Tuple elts kk tpos) (UP tp tq K l m) [z,U,V,i,j] z (λn h=>IsZip h z U V .none/\IsPair h U (.ref i) (.ref j)/\(∃ a b,IsPair h V a b)/\SqI tp h i l n/\SqI tq h j m n) where
 mem:=by simp
 obj:=λn h st b hb=>by
  obtain⟨h1,h2,⟨a,c,h3⟩,h4,h5⟩:=st;simp only[List.mem_cons,List.not_mem_nil,or_false] at hb;rcases hb with rfl|rfl|rfl|rfl|rfl
  ·exact⟨_,h1,λv q=>by cases q⟩
  ·exact⟨_,h2,λv q=>by cases q⟩
  ·exact⟨_,h3,λv q=>by cases q⟩
  ·exact h4.live
  ·exact h5.live
 keep:=λn h h' st kp=>by
  obtain⟨h1,h2,⟨a,c,h3⟩,h4,h5⟩:=st;exact⟨kp z (by simp) _ h1,kp U (by simp) _ h2,⟨a,c,kp V (by simp) _ h3⟩,h4.at λo e=>kp i (by simp) o e,h5.at λo e=>kp j (by simp) o e⟩
 item:=by
  intro X hP hw hK hc n pins s σ H E I hf st hg;subst hP hw hK;obtain⟨h1,h2,⟨a,c,h3⟩,h4,h5⟩:=st;obtain⟨xs,ys,x,y,q1,q2,e1,e2⟩:=hg;obtain⟨its,r1,p1,_⟩:=q1.is I;obtain⟨jts,r2,p2,_⟩:=q2.is I;obtain⟨u,hu,ru⟩:=r1.get e1;obtain⟨v,hv,rv⟩:=r2.get e2;refine Ea D lz mz h1 h2 h3 h4 h5 p1 p2 (x:=u) (y:=v) (by simpa using hu) (by simpa using hv) λg z1 v1 i1 j1 t1 s1 k1=>⟨_,rfl,?_⟩
  refine wpAny_letOwnedTupleGo_zip z1 λg' z2 e2'=>?_;have kp:∀ b o,b∉[z,V,i,j]->s.heap.get? b=some o->g'.get? b=some o:=λb o hb e=>by
   simp only[List.mem_cons,List.not_mem_nil,or_false,not_or] at hb;exact e2'.extBut _ _ hb.1 (k1 b o hb.1 hb.2.1 hb.2.2.1 hb.2.2.2 e)
  have zT:s.heap.objs.size≠z:=Nat.ne_of_gt (Heap.lt_size h1);have hf':∀ b∈[z,V,i,j],fh X pins H b:=λb hb=>hf b (by
   simp only[List.mem_cons,List.not_mem_nil,or_false] at hb ⊢;rcases hb with e|e|e|e<;>simp [e])
  have t2:IsPair g' s.heap.objs.size u v:=e2'.extBut _ _ zT t1;have I':=Eb (t':=s.toks) (o:=.tup [x,y]) I hf' kp (Nat.le_refl _) ⟨by show 2<=sizeLine;decide,[u,v],.cons ru (.cons rv .nil),⟨_,t2,rfl,_,rfl⟩⟩
  have hfr:H s.heap.objs.size=none:=I.hok.fresh (Nat.le_refl _);refine⟨.ref s.heap.objs.size,bj H s.heap.objs.size (.tup [x,y]),I',rfl,⟨_,x,y,hfr,rfl,rfl,λzs hz=>by rw[hz.inj I q1];exact e1,λzs hz=>by rw[hz.inj I q2];exact e2⟩,⟨z2,e2'.extBut _ _ D.uz (k1 _ _ D.uz D.uv D.ui D.uj h2),⟨u,v,e2'.extBut _ _ D.vz v1⟩,i1.at λo e=>e2'.extBut _ _ D.iz e,j1.at λo e=>e2'.extBut _ _ D.jz e⟩,λb hb=>?_⟩
  have hb':=(hf b hb).1;have:b≠s.heap.objs.size:=by
   obtain⟨o,e,_⟩:∃ o,s.heap.get? b=some o/\True:=by
    simp only[List.mem_cons,List.not_mem_nil,or_false] at hb;rcases hb with rfl|rfl|rfl|rfl|rfl
    ·exact⟨_,h1,trivial⟩
    ·exact⟨_,h2,trivial⟩
    ·exact⟨_,h3,trivial⟩
    ·obtain⟨o,e,_⟩:=h4.live;exact⟨o,e,trivial⟩
    ·obtain⟨o,e,_⟩:=h5.live;exact⟨o,e,trivial⟩
   exact Nat.ne_of_lt (Heap.lt_size e)
  rw[ah this];exact hb'
 done:=by
  intro X hP hw hK hc n pins s σ H E I hf st hg;subst hP hw hK;obtain⟨h1,h2,⟨a,c,h3⟩,h4,h5⟩:=st;obtain⟨xs,ys,q1,q2,hl⟩:=hg;obtain⟨its,r1,p1,_⟩:=q1.is I;obtain⟨jts,r2,p2,_⟩:=q2.is I;have n1:=r1.length;have n2:=r2.length;refine wP (I.ok.hd hc) D lz mz h1 h2 h3 h4 h5 p1 p2 (hl.imp (λq=>by simp;omega) λq=>by simp;omega) λg k1=>⟨rfl,?_⟩
  refine Ec (t':=s.toks) (ch:=[z,V,i,j]) I (λb hb=>hf b ?_) λb o hb e=>?_
  ·simp only[List.mem_cons,List.not_mem_nil,or_false] at hb ⊢
   rcases hb with e|e|e|e<;>simp [e]
  ·simp only[List.mem_cons,List.not_mem_nil,or_false,not_or] at hb
   exact k1 b o hb.1 hb.2.1 hb.2.2.1 hb.2.2.2 e
 self:=λ_ _ _ _ _ st h=>wpAny_pyIter_zip st.1 h
theorem Ed (n:Nat):ZAp (n+4) (n+2) (n+3) n (n+1) :=
  ⟨show (n+2:Nat)≠n+4 by omega,show (n+3:Nat)≠n+4 by omega,show (n:Nat)≠n+4 by omega,show (n+1:Nat)≠n+4 by omega,show (n+2:Nat)≠n+3 by omega,
   show (n+2:Nat)≠n by omega,show (n+2:Nat)≠n+1 by omega,show (n+3:Nat)≠n by omega,show (n+3:Nat)≠n+1 by omega,show (n:Nat)≠n+1 by omega⟩
theorem lW {l n:Nat}(h:l < n):l≠n+4/\l≠n+3/\l≠n/\l≠n+1:=by omega
def UQ (K:PySem.W.Frag)(ta:TA):TI:=λσ H R=>ta σ H λvs H1=>∃ tp tq l m xs ys,vs=[.ref l,.ref m]/\Sq tp K H1 l xs/\Sq tq K H1 m ys/\R (UP tp tq K l m) H1
theorem HL {X:Cx}{elts:List Expr}{kk:Nat}{tpos:Pos}{a b:Expr}{ta:TA}{p pos:Pos}(hg:Gl X "zip")(hm:X.mg "zip"=none)(ha:PA X [a,b] ta)(hs:starEach [a,b] X.env=[(false,eval a X.env),(false,eval b X.env)])(hs2:starEach [b] X.env=[(false,eval b X.env)]) :
  PI X (.Tuple elts kk tpos) (.Call (.Name "zip" p) [a,b] [] pos) (UQ X.K ta):=by
 intro pins s σ H R I h;refine PyProof.Rows.Call_ (ic I hg hm PyProof.Rows.boot_zip (PyProof.Rows.callWith_type1 (bG (ha pos pins s σ H _ I h) λus s1 ⟨vs,H1,I1,r1,q1⟩=>?_) (by rw[hs,hs2]) (by rw[hs2];rfl)))
 obtain⟨tp,tq,l,m,xs,ys,e,q1,q2,q⟩:=q1;subst e;obtain⟨u,v,rfl,ru,rv⟩:=vZ r1;cases ru;cases rv;obtain⟨its,_,p1,ll⟩:=q1.is I1;obtain⟨jts,_,p2,lm⟩:=q2.is I1;refine wO p1 p2 λg z1 u1 v1 i1 j1 k1=>?_;refine wpAny_pyIter_zip z1 ?_;have N:∀ n:Nat,s1.heap.objs.size<=s1.heap.objs.size+n:=λn=>Nat.le_add_right _ _;refine⟨s1.heap.objs.size+4,[s1.heap.objs.size+4,s1.heap.objs.size+2,s1.heap.objs.size+3,s1.heap.objs.size,s1.heap.objs.size+1],_,_,H1,rfl,I1.kept (t':=s1.toks) k1,
  wQ tp tq _ _ _ _ _ l m (Ed _) (lW ll) (lW lm),⟨z1,u1,⟨_,_,v1⟩,i1,j1⟩,λb hb=>?_,q⟩
 have hb':s1.heap.objs.size<=b:=by
  simp only[List.mem_cons,List.not_mem_nil,or_false] at hb;rcases hb with rfl|rfl|rfl|rfl|rfl
  ·exact N 4
  ·exact N 2
  ·exact N 3
  ·exact N 0
  ·exact N 1
 exact I1.fpOk hb' (I1.hok.fresh hb')
end Vc


namespace Vc
open PySem L2
variable [KF]
variable {G:GE}{k:Nat}{S:Stat}
def Uf:D->Option (List D)
 | .lst xs=>some xs
 | .tup xs=>some xs
 | _=>none
def qj (xs ys:List D):List D:=(xs.zip ys).map λp=>.tup [p.1,p.2]
def HM (t:dq):dq:=λσ Q=>t σ λds σ1=>match ds with
 | [a,b]=>match Uf a,Uf b with
  | some xs,some ys=>Q (qj xs ys) σ1
  | _,_=>False
 | _=>False
theorem Rep.sq {F:Hp}{v:V}{d:D}{xs:List D}(r:Rep F v d)(e:Uf d=some xs)(K:PySem.W.Frag):∃ tp a vs,v=.ref a/\(∀ H,Same F H->Sq tp K H a vs)/\RepL F vs xs:=by
 cases d with
 | lst ys =>
  cases e;cases r with
  | lst h r=>exact⟨false,_,_,rfl,λH s=>(show SqL K H _ _ from .inl (Rd.mono s h)),r⟩
 | tup ys =>
  cases e;cases r with
  | tup h r=>exact⟨true,_,_,rfl,λH s=>(show SqT K H _ _ from .of (s _ _ h)),r⟩
 | _=>cases e
theorem wR {xs ys:List D}{i:Nat}{d:D}(h:(qj xs ys)[i]?=some d):∃ x y,xs[i]?=some x/\ys[i]?=some y/\d=.tup [x,y]:=by
 unfold qj at h;rw[List.getElem?_map] at h;cases e:(xs.zip ys)[i]? with
 | none=>rw[e] at h;cases h
 | some p =>
  rw[e] at h;obtain⟨e1,e2⟩:=List.getElem?_zip_eq_some.mp e;exact⟨p.1,p.2,e1,e2,(Option.some.inj h).symm⟩
theorem Ee {K:PySem.W.Frag}{F:Hp}{tp tq:Bool}{l m:Addr}{vs us:List V}{xs ys:List D}(h1:∀ H,Same F H->Sq tp K H l vs)(h2:∀ H,Same F H->Sq tq K H m us)(r1:RepL F vs xs)(r2:RepL F us ys):ItRep F (UP tp tq K l m) (qj xs ys):=λF1 H1 s1 s2 i=>by
 have a1:=h1 H1 (s1.trans s2);have a2:=h2 H1 (s1.trans s2);refine⟨λd e=>?_,λhl=>⟨vs,us,a1,a2,?_⟩⟩
 ·obtain⟨x,y,e1,e2,rfl⟩:=wR e
  obtain⟨v,w1,q1⟩:=r1.get e1;obtain⟨u,w2,q2⟩:=r2.get e2;refine⟨⟨vs,us,v,u,a1,a2,w1,w2⟩,λz H2 yl=>?_⟩;obtain⟨p,v',u',hp,rfl,rfl,f1,f2⟩:=yl;have e1':=f1 vs a1;have e2':=f2 us a2;rw[w1] at e1';cases e1';rw[w2] at e2';cases e2';have sm:=ay (o:=.tup [v,u]) (aM s2 hp);exact⟨bj F1 p (.tup [v,u]),.inr ⟨p,_,hp,rfl,rfl⟩,.tup ao (.cons ((q1.mono s1).mono sm) (.cons ((q2.mono s1).mono sm) .nil))⟩
 ·have:(qj xs ys).length=min xs.length ys.length:=by unfold qj;simp
  have n1:=r1.length;have n2:=r2.length;omega
theorem Qr {elts:List Expr}{kk:Nat}{tpos:Pos}{a b:Expr}{t:dq}{p pos:Pos}(h:EDs G k S [a,b] t)(hm:G.mg "zip"=none)(hg:S.sc.lookup ("zip":Str)=some .globalImplicit:=by rfl)(hs:∀ env,starEach [a,b] env=[(false,eval a env),(false,eval b env)]:=by intro _;rfl)(hs2:∀ env,starEach [b] env=[(false,eval b env)]:=by intro _;rfl) :
  EI G k S (.Tuple elts kk tpos) (.Call (.Name "zip" p) [a,b] [] pos) (HM t):=.mk λX Y ok=>nC (HL (dc ok hg) (by rw[ok.mg];exact hm) (h X Y ok) (hs _) (hs2 _)) λσ H Q q=>by
 obtain⟨F,σd,Qd,R,q,K⟩:=q;refine⟨F,σd,_,R,q,λvs H1 F1 ds σ1 s1 R1 r1 q1=>?_⟩
 split at q1
 ·rename_i x y
  split at q1
  ·rename_i xs ys ex ey
   cases r1 with
   | cons rx r1 =>
    cases r1 with
    | cons ry r1 =>
     cases r1;obtain⟨tp,l,us,rfl,a1,b1⟩:=rx.sq ex X.K;obtain⟨tq,m,ws,rfl,a2,b2⟩:=ry.sq ey X.K;exact⟨tp,tq,l,m,us,ws,rfl,a1 H1 R1.fr,a2 H1 R1.fr,K H1 F1 σ1 _ _ s1 R1 (Ee a1 a2 b1 b2) q1⟩
  ·exact q1.elim
 ·exact q1.elim
end Vc


namespace Vc
open PySem L2
variable [KF]
section
variable {prog:Program}{w:World}{A:Around}{R:Result->Shared->Prop}
def cf (bt:Nat->Nat->Bool):Nat->Nat
 | 0=>0
 | n+1=>if bt (n+1) (cf bt n)=true then n+1 else cf bt n
def wS (prog:Program)(w:World)(A:Around)(op:CmpOp)(h0:Heap)(its:Array Value)(bt:Nat->Nat->Bool):Prop :=
 ∀ (i j:Nat) (x y:Value) (s:Shared) (Q:Value->Shared->Prop) (E:Value->Shared->Prop),its[i]?=some x->its[j]?=some y->(∀ b o,h0.get? b=some o->s.heap.get? b=some o)->Q (.bool (bt i j)) s->wpAny (model prog w) A (richCompare op x y) Q E s
theorem HN {h0:Heap}{its:Array Value}{bt:Nat->Nat->Bool}(hh:A.handled=none)(hc:wS prog w A.in1 .Lt h0 its bt){I l S:Addr}(hl0:h0.IsList l its)(IS:I≠S)(n0:h0.get? I=none)(n1:h0.get? S=none)(kw:List (Str×Value)) :
  ∀ (d j:Nat) (s:Shared) (v:Value) (c:Nat),its.size - (j+1)=d->j+1<=its.size->s.heap.IsListIter I l (j+1)->its[cf bt j]?=some v->s.heap.get? S=some { cls:=.type "list",dict:=none,data:=.seq #[v,v] c,slots:=#[] } ->
  (∀ b o,h0.get? b=some o->s.heap.get? b=some o) ->
  (∀ v g tk,its[cf bt (its.size - 1)]?=some v->(∀ b o,h0.get? b=some o->g.get? b=some o)->R (.ok (.ret v)) { s with heap:=g,toks:=tk }) ->
  codeAny (model prog w) A (.builtin "min.loop" ⟨[.ref I,.none,.ref S],kw⟩) R s:=by
 have nm:(toString "min"++toString ".loop":String)="min.loop":=by decide
 have lI:l≠I:=λz=>by obtain⟨o,e,_⟩:=hl0;rw[z,n0] at e;cases e
 have lS:l≠S:=λz=>by obtain⟨o,e,_⟩:=hl0;rw[z,n1] at e;cases e
 have nI:∀ {b o},h0.get? b=some o->b≠I:=λe z=>by rw[z,n0] at e;cases e
 have nS:∀ {b o},h0.get? b=some o->b≠S:=λe z=>by rw[z,n1] at e;cases e
 intro d
 induction d with
 | zero =>
  intro j s v c hd hj hI hv hS k0 hR;have e1:j+1=its.size:=by omega
  have hl:s.heap.IsList l its:=by obtain⟨o,e,r⟩:=hl0;exact⟨o,k0 _ _ e,r⟩
  refine codeAny_builtin F.entry_min_loop ?_;rw[Around.under_plainId F.plain_min_loop _];show wpAny _ A.in1 (seqItems? (.ref S) >>= _) _ _ s;refine wpAny_bind (wpAny_seqItems hS rfl ?_);show wpAny _ A.in1 (tryCatch (pyNext (.ref I)) _ >>= _) _ _ s;refine wpAny_bind (wpAny_tryCatch (wpAny_pyNext_list_end (show A.in1.handled=none from hh) hI hl (by simp;omega) λg x1=>?_))
  have S1:=x1 S _ IS.symm hS;show wpAny _ A.in1 (updateSeq S (λ_=>#[]) >>= _) _ _ _;refine wpAny_bind (wpAny_updateSeq (s:={ s with heap:=g }) S1 rfl (wpAny_bind (wpAny_letGo (wpAny_pure ?_))))
  have e2:its.size - 1=j:=by omega
  refine hR v _ s.toks (by rw[e2];exact hv) λb o e=>?_
  exact (Heap.get?_update_other _ _ (Ne.symm (nS e))).trans (x1 b o (nI e) (k0 b o e))
 | succ d ih =>
  intro j s v c hd hj hI hv hS k0 hR;have hlt:j+1 < its.size:=by omega
  have hl:s.heap.IsList l its:=by obtain⟨o,e,r⟩:=hl0;exact⟨o,k0 _ _ e,r⟩
  refine codeAny_builtin F.entry_min_loop ?_;rw[Around.under_plainId F.plain_min_loop _];show wpAny _ A.in1 (seqItems? (.ref S) >>= _) _ _ s;refine wpAny_bind (wpAny_seqItems hS rfl ?_);show wpAny _ A.in1 (tryCatch (pyNext (.ref I)) _ >>= _) _ _ s;have hx:its[j+1]?=some its[j+1]:=by simp [hlt]
  refine wpAny_bind (wpAny_tryCatch (wpAny_pyNext_list_item hI hl hx λg I1 x1=>?_));have S1:=x1.extBut S _ IS.symm hS;have k1:∀ b o,h0.get? b=some o->g.get? b=some o:=λb o e=>x1.extBut b o (nI e) (k0 b o e);show wpAny _ A.in1 (tryCatch (holding [its[j+1],its[j+1]] (richCompare .Lt its[j+1] v >>= _)) _ >>= _) _ _ _;refine wpAny_bind (wpAny_tryCatch (wpAny_holding (wpAny_bind (hc (j+1) (cf bt j) _ v { s with heap:=g } _ _ hx hv k1 ?_))))
  refine wpAny_bind (wpAny_holding (wpAny_truthy_bool (wpAny_bind (wpAny_letGo (wpAny_pure ?_)))));cases hb:bt (j+1) (cf bt j) with
  | true =>
   simp only[if_true];refine wpAny_bind (wpAny_updateSeq (s:={ s with heap:=g }) S1 rfl (wpAny_bind (wpAny_letGo ?_)))
   rw[nm];refine wpAny_pure ⟨plainId_quiet F.plain_min_loop _,ih (j+1) _ its[j+1] _ (by omega) hlt ?_ (by simp only[cf,hb,if_true];exact hx) (Heap.get?_update_self _ S1 rfl) (λb o e=>(Heap.get?_update_other _ _ (Ne.symm (nS e))).trans (k1 b o e)) λv' g' tk hv' k'=>?_⟩
   ·obtain⟨o,e,r⟩:=I1;exact⟨o,(Heap.get?_update_other _ _ (Ne.symm IS)).trans e,r⟩
   ·exact hR v' g' tk hv' k'
  | false =>
   simp only[Bool.false_eq_true,if_false];refine wpAny_bind (wpAny_letGo ?_);rw[nm];refine wpAny_pure ⟨plainId_quiet F.plain_min_loop _,ih (j+1) _ v c (by omega) hlt I1 (by simp only[cf,hb,Bool.false_eq_true,if_false];exact hv) S1 k1 λv' g' tk hv' k'=>?_⟩
   exact hR v' g' tk hv' k'
theorem sC (a v:Value):argsOk "min" ⟨[a],[(Str.ofString "default",v)]⟩:=by unfold argsOk;kernel_rfl
theorem qk {E:Value->Shared->Prop}{s:Shared}{its:Array Value}{bt:Nat->Nat->Bool}(hh:A.handled=none)(hc:wS prog w A.in1 .Lt s.heap its bt){l:Addr}(hl:s.heap.IsList l its){dv:Value}{Q:Value->Shared->Prop}
  (q0:its.size=0->∀ g tk,(∀ b o,s.heap.get? b=some o->g.get? b=some o)->Q dv { s with heap:=g,toks:=tk })
  (q1:∀ v g tk,its[cf bt (its.size - 1)]?=some v->(∀ b o,s.heap.get? b=some o->g.get? b=some o)->Q v { s with heap:=g,toks:=tk }) :
  wpAny (model prog w) A (call (.builtin "min") [.ref l] [(Str.ofString "default",dv)]) Q E s:=by
 have nm:(toString "min"++toString ".loop":String)="min.loop":=by decide
 refine wpAny_call (codeAny_call_builtin F.plain_min F.entry_min ?_);have run:wpAny (model prog w) A.in1 (Builtin.«min» ⟨[.ref l],[(Str.ofString "default",dv)]⟩) (λfin s'=>match fin with
   | .done f=>(match (Except.ok f:Result) with|.ok (.ret v)=>Q v s'|.ok _=>False|.error e=>E e s')
   | .again c'=>c'.quiet=true/\codeAny (model prog w) A c' (λr s'=>match r with|.ok (.ret v)=>Q v s'|.ok _=>False|.error e=>E e s') s') E s:=by
  show wpAny _ A.in1 (Builtin.Builtins.bindParams "min" ["key","default"] 0 ⟨[],[(Str.ofString "default",dv)]⟩ >>= _) _ _ s;refine wpAny_bind (wpAny_of_eq (show Builtin.Builtins.bindParams "min" ["key","default"] 0 ⟨[],[(Str.ofString "default",dv)]⟩=pure [none,some dv] from rfl) (wpAny_bind (wpAny_pure ?_)))
  refine wpAny_bind (wpAny_pyIter_list hl (wpAny_bind (wpAny_newObj_type ?_)));generalize hg1:s.heap.push { cls:=.type "list_iterator",data:=.fields #[.ref l,.int 0 0] }=g1;have n1:g1.objs.size=s.heap.objs.size+1:=by rw[<- hg1];exact Heap.size_push ..
  have I0:(g1.push { cls:=.type "list",dict:=none,data:=.seq ([]:List Value).toArray }).IsListIter s.heap.objs.size l 0:=⟨_,Heap.get?_push_of_some _ (by rw[<- hg1];exact Heap.get?_push_size _ rfl),rfl,rfl⟩
  have S0:=Heap.get?_push_size g1 (o:={ cls:=.type "list",dict:=none,data:=.seq ([]:List Value).toArray }) rfl;have k0:∀ b o,s.heap.get? b=some o->(g1.push { cls:=.type "list",dict:=none,data:=.seq ([]:List Value).toArray }).get? b=some o:=λb o e=>Heap.get?_push_of_some _ (by rw[<- hg1];exact Heap.get?_push_of_some _ e)
  have fr:∀ a,s.heap.objs.size<=a->s.heap.get? a=none:=λa ha=>by
   cases e:s.heap.get? a with
   | none=>rfl
   | some o=>exact absurd (Heap.lt_size e) (Nat.not_lt.mpr ha)
  have nI:s.heap.get? s.heap.objs.size=none:=fr _ (Nat.le_refl _);have nS:s.heap.get? g1.objs.size=none:=fr _ (by rw[n1];exact Nat.le_succ _)
  have IS:s.heap.objs.size≠g1.objs.size:=by rw[n1];exact Nat.ne_of_lt (Nat.lt_succ_self _)
  rw[nm];refine wpAny_pure ⟨plainId_quiet F.plain_min_loop _,?_⟩;generalize hg2:g1.push { cls:=.type "list",dict:=none,data:=.seq ([]:List Value).toArray }=g2 at I0 S0 k0;have hl2:g2.IsList l its:=by obtain⟨o,e,r⟩:=hl;exact⟨o,k0 _ _ e,r⟩
  refine codeAny_builtin F.entry_min_loop ?_;rw[Around.under_plainId F.plain_min_loop _];show wpAny _ A.in1 (seqItems? (.ref g1.objs.size) >>= _) _ _ _;refine wpAny_bind (wpAny_seqItems (s:={ s with heap:=g2 }) S0 rfl ?_)
  show wpAny _ A.in1 (tryCatch (pyNext (.ref s.heap.objs.size)) _ >>= _) _ _ _
  by_cases hz:its.size=0
  ·refine wpAny_bind (wpAny_tryCatch (wpAny_pyNext_list_end (show A.in1.handled=none from hh) I0 hl2 (by simp [hz]) λg x1=>?_))
   refine wpAny_bind (wpAny_rule (wpAny_pure ?_));exact q0 hz g s.toks λb o e=>x1 b o (λz=>by rw[z,nI] at e;cases e) (k0 b o e)
  ·have hx:its[0]?=some its[0]:=by simp [Nat.pos_of_ne_zero hz]
   refine wpAny_bind (wpAny_tryCatch (wpAny_pyNext_list_item I0 hl2 hx λg I1 x1=>?_));have S1:=x1.extBut _ _ IS.symm S0;have k1:∀ b o,s.heap.get? b=some o->g.get? b=some o:=λb o e=>x1.extBut b o (λz=>by rw[z,nI] at e;cases e) (k0 b o e)
   show wpAny _ A.in1 (updateSeq g1.objs.size (λ_=>#[its[0],its[0]]) >>= _) _ _ _;refine wpAny_bind (wpAny_updateSeq (s:={ s with heap:=g }) S1 rfl ?_)
   rw[nm];refine wpAny_pure ⟨plainId_quiet F.plain_min_loop _,HN hh hc hl IS nI nS _ _ 0 _ its[0] _ rfl (Nat.pos_of_ne_zero hz) ?_ hx (Heap.get?_update_self _ S1 rfl) (λb o e=>(Heap.get?_update_other _ _ (λz=>by rw[<- z,nS] at e;cases e)).trans (k1 b o e)) λv g' tk hv k'=>q1 v g' tk hv k'⟩
   obtain⟨o,e,r⟩:=I1;exact⟨o,(Heap.get?_update_other _ _ (Ne.symm IS)).trans e,r⟩
 simp only[checkBuiltinCall,F.kind_min];cases hsig:Manifest.signature? "min" with
 | none=>exact wpAny_pure run
 | some sig =>
  have ha:argsOk "min" ⟨[.ref l],[(Str.ofString "default",dv)]⟩:=sC _ _;have ha':Bind.checkArgs "min" sig ⟨[.ref l],[(Str.ofString "default",dv)]⟩=pure ():=by simpa only[argsOk,hsig] using ha
  simp only[ha'];exact wpAny_pure run
end
end Vc


namespace Vc
open PySem L2
variable [KF]
variable {G:GE}{k:Nat}{S:Stat}
def isInt:D->Bool
 | .int _=>true
 | _=>false
def nK:D->Int
 | .int i=>i
 | _=>0
theorem RepL.ints {F:Hp}:∀ {vs:List V} {xs:List D},RepL F vs xs->xs.all isInt=true->vs=(xs.map nK).map V.int
 | _,_,.nil,_=>rfl
 | _,_,.cons (d:=d) r t,h=>by
  rw[List.all_cons,Bool.and_eq_true] at h;cases d with
  | int i =>
   cases r;rw[RepL.ints t h.2];rfl
  | _=>exact absurd h.1 (by simp [isInt])
theorem wT {X:Cx}(hc:X.calm=true):CallR X (.builtin "sum") (λxs H Q=>∃ (a:Addr) (ns:List Int),xs=[.ref a]/\SqL X.K H a (ns.map V.int)/\Q (.int ns.sum) H):=by
 intro pins s σ H xs us Q I r h;obtain⟨a,ns,rfl,hq,q⟩:=h;obtain⟨u,rfl,ru⟩:=dt r;cases ru;obtain⟨its,rv,p,_⟩:=I.list hq;obtain⟨m,F⟩:=I.fr;have hi:=L2.intsAre_of rv;obtain⟨ys,e⟩:=(hi.allInts).items;have pl:=p.isList;rw[e] at pl;refine sum_intListG (I.ok.hd hc) pl λg tk t' kp=>⟨.int ns.sum,H,I.kept kp,⟨t',?_⟩,q⟩;have e1:preSum (numAt ys) ys.size=(PySem.numsOf its.toArray.toList).sum:=by
  rw[e,nums_intItems,preSum_eq,List.take_of_length_le (by simp)]
 rw[e1,show its.toArray.toList=its from rfl,hi.numsOf]
def wU:List D->(EV->Prop)->Prop
 | [.lst xs],Q=>xs.all isInt=true/\Q (.val (.int (xs.map nK).sum))
 | _,_=>False
theorem FM (hh:S.hot=false:=by rfl):vO G k S (.builtin "sum") wU:=⟨λK xs H Q=>∃ (a:Addr) (ns:List Int),xs=[V.ref a]/\SqL K H a (ns.map V.int)/\Q (.int ns.sum) H,λ_ _ ok=>wT (ok.calm hh),λY F H σd σ vs ds Qd Q R r q g=>by
 unfold wU at q
 split at q
 ·obtain⟨v,rfl,rv⟩:=r.one
  obtain⟨p,us,rfl,h1,h2⟩:=rv.lst;refine⟨p,_,rfl,?_,g.val R (.int _) q.2⟩;rw[<- h2.ints q.1];exact .inl h1
 ·exact q.elim⟩

end Vc


namespace Vc
open PySem L2
variable [KF]
variable {G:GE}{k:Nat}{S:Stat}
def iA:D->Bool
 | .tup xs=>xs.all isInt
 | _=>false
def Dj:D->D->Bool
 | .int i,.int j=>decide (i < j)
 | .tup xs,.tup ys=>HT.lexLt (xs.map nK) (ys.map nK)
 | _,_=>false
def jb:List D->Option D
 | []=>none
 | x::xs=>some (xs.foldl (λb y=>if Dj y b=true then y else b) x)
def se (xs:List D)(i j:Nat):Bool:=Dj (xs.getD i .non) (xs.getD j .non)
theorem km (xs:List D)(x:D):∀ n,n < (x::xs).length->(x::xs).getD (cf (se (x::xs)) n) .non=(xs.take n).foldl (λb y=>if Dj y b=true then y else b) x
 | 0,_=>rfl
 | n+1,h=>by
  have ih:=km xs x n (by simp at h ⊢;omega)
  have hl:n < xs.length:=by simpa using h
  have gx:(x::xs).getD (n+1) .non=xs[n]:=by
   rw[List.getD_eq_getElem?_getD,List.getElem?_cons_succ,List.getElem?_eq_getElem hl];rfl
  rw[List.take_add_one,List.getElem?_eq_getElem hl,Option.toList_some,List.foldl_append,List.foldl_cons,List.foldl_nil,<- ih];have e:se (x::xs) (n+1) (cf (se (x::xs)) n)=Dj xs[n] ((x::xs).getD (cf (se (x::xs)) n) .non):=by
   unfold se;rw[gx]
  show (x::xs).getD (if se (x::xs) (n+1) (cf (se (x::xs)) n)=true then n+1 else cf (se (x::xs)) n) .non=_
  rw[e]
  split
  ·exact gx
  ·rfl
theorem nL {xs:List D}(h:xs≠[]):jb xs=some (xs.getD (cf (se xs) (xs.length - 1)) .non):=by
 cases xs with
 | nil=>exact absurd rfl h
 | cons x xs =>
  have:=km xs x xs.length (by simp)
  have e:(x::xs).length - 1=xs.length:=by simp
  rw[e,this,List.take_length];rfl
theorem HP {X:Cx}{pins:List (Addr×Obj)}{σ:St}{H F:Hp}{s:Shared}(I:L2.Inv X pins σ H s)(sm:Same F H)(hu:X.A.in1.units < cLine){vs:List V}{xs:List D}{its:List Value}(rl:RepL F vs xs)(rv:Vals vs its)(hc:xs.all isInt=true\/xs.all iA=true) :
  wS X.prog X.w X.A.in1 .Lt s.heap its.toArray (se xs):=by
 intro i j x y s' Q E ex ey kp q;have ex':its[i]?=some x:=by simpa using ex
 have ey':its[j]?=some y:=by simpa using ey
 have back:∀ {n z},its[n]?=some z->∃ v d,vs[n]?=some v/\xs[n]?=some d/\RelV v z/\Rep F v d:=λ{n z} e=>by
  have hl:n < vs.length:=by rw[rv.length];exact (List.getElem?_eq_some_iff.mp e).1
  have ev:vs[n]?=some vs[n]:=List.getElem?_eq_getElem hl;obtain⟨d,e1,e2⟩:=rl.get' ev;obtain⟨u,e3,e4⟩:=rv.get ev;rw[e] at e3;cases e3;exact⟨_,d,ev,e1,e4,e2⟩
 obtain⟨v,d,_,hd,r1,p1⟩:=back ex';obtain⟨u,e,_,he,r2,p2⟩:=back ey';have bt:se xs i j=Dj d e:=by
  unfold se;rw[List.getD_eq_getElem?_getD,List.getD_eq_getElem?_getD,hd,he];rfl
 rw[bt] at q;have md:d∈xs:=List.mem_of_getElem? hd;have me:e∈xs:=List.mem_of_getElem? he;show wpAny _ _ (compareOp .Lt x y) _ _ _;rcases hc with hc|hc
 ·have h1:=List.all_eq_true.mp hc d md
  have h2:=List.all_eq_true.mp hc e me;cases d with
  | int a =>
   cases e with
   | int b =>
    cases p1;cases p2;obtain⟨t,rfl⟩:=r1;obtain⟨t',rfl⟩:=r2;exact PyProof.Rows.lt_int q
   | _=>exact absurd h2 (by simp [isInt])
  | _=>exact absurd h1 (by simp [isInt])
 ·have h1:=List.all_eq_true.mp hc d md
  have h2:=List.all_eq_true.mp hc e me;cases d with
  | tup as =>
   cases e with
   | tup bs =>
    cases p1 with
    | tup hf rf =>
     cases p2 with
     | tup hg rg =>
      cases r1;cases r2;rename_i va vas vb vbs;obtain⟨_,ia,wa,oa,ga,ca⟩:=I.hok _ _ (sm _ _ hf);obtain⟨_,ib,wb,ob,gb,cb⟩:=I.hok _ _ (sm _ _ hg);rw[rf.ints h1] at wa;rw[rg.ints h2] at wb;exact HT.lt_tupInts ⟨oa,kp _ _ ga,ca⟩ ⟨ob,kp _ _ gb,cb⟩ (L2.intsAre_of wa) (L2.intsAre_of wb) hu q
   | _=>exact absurd h2 (by simp [iA])
  | _=>exact absurd h1 (by simp [iA])
def Ef (t:TV)(td:TD):TV:=λσ Q=>t σ λx σ1=>td σ1 λdv σ2=>match drf σ2 x with
 | some (.lst xs)=>(xs.all isInt=true\/xs.all iA=true)/\Q (.val ((jb xs).getD dv)) σ2
 | _=>False
theorem FN {e d:Expr}{t:TV}{td:TD}{p kp pos:Pos}(h:EO G k S e t)(hd:ED G k S d td)(hm:G.mg "min"=none)(hg:S.sc.lookup ("min":Str)=some .globalImplicit:=by rfl)
  (he:∀ env,starEach [e] env=[(false,eval e env)]:=by intro _;rfl) (hh:S.hot=false:=by rfl):EO G k S (.Call (.Name "min" p) [e] [⟨some "default",d,kp⟩] pos) (Ef t td):=.mk λX Y ok=>by
 intro pins s σ H Q I q;obtain⟨F,σd,Qd,R,q,K⟩:=q;refine wpAny_Call_Name_kw (ic (u:=.builtin "min") I (dc ok hg) (by rw[ok.mg];exact hm) (by decide +kernel) ?_ (by decide) (by decide))
 have ha:PA X [e] (lr (lO Y t) pI):=cc (h X Y ok) eA (by rw[he];rfl)
 have hk:PK X [⟨some "default",d,kp⟩] (lr (lD Y td) pI):=DB (hd X Y ok) He;have hA:=ha pos pins s σ H (λvs H1=>∃ v1 F1 x σ1,vs=[v1]/\Same F F1/\RS Y F1 σ1 σ H1/\RepO F1 σ v1 x/\td σ1 (λdv σ2=>match drf σ2 x with
   | some (.lst xs)=>(xs.all isInt=true\/xs.all iA=true)/\Qd (.val ((jb xs).getD dv)) σ2
   | _=>False)) I ⟨F,σd,_,R,q,λv1 H1 F1 x σ1 s1 R1 r1 q1=>⟨v1,F1,x,σ1,rfl,s1,R1,r1,q1⟩⟩
 refine PyProof.Rows.callWith_kw (env:=X.env) (bG hA λus s1 h1=>?_) (by rw[he];rfl) (by rw[he];rfl) rfl rfl
 obtain⟨vs,H1,I1,rvs,v1,F1,x,σ1,rfl,sm1,R1,r1,q1⟩:=h1;obtain⟨u1,rfl,ru1⟩:=dt rvs;refine bG (hk pos pins s1 σ H1 (λvs H2=>∃ v2 F2 dv σ2,vs=[v2]/\Same F1 F2/\RS Y F2 σ2 σ H2/\Rep F2 v2 dv/\(match drf σ2 x with
   | some (.lst xs)=>(xs.all isInt=true\/xs.all iA=true)/\Qd (.val ((jb xs).getD dv)) σ2
   | _=>False)) I1 ⟨F1,σ1,_,R1,q1,λv2 H2 F2 dv σ2 s2 R2 r2 q2=>⟨v2,F2,dv,σ2,rfl,s2,R2,r2,q2⟩⟩) λws s2 h2=>?_
 obtain⟨vs2,H2,I2,rvs2,v2,F2,dv,σ2,rfl,sm2,R2,r2,q2⟩:=h2;obtain⟨u2,rfl,ru2⟩:=dt rvs2
 split at q2
 ·rename_i xs ex
  obtain⟨hc,q2⟩:=q2;obtain⟨a,vs,rfl,hrd,rl⟩:=(R2.drf (r1.mono sm2) ex).lst;cases ru1;obtain⟨its,rv,pl,_⟩:=I2.list (show SqL X.K H2 a vs from .inl hrd)
  have hu:X.A.in1.units < cLine:=by
   have:=ok.units;show X.A.units+1 < cLine;omega
  have hc':=HP I2 R2.fr hu rl rv hc;have len:its.toArray.size=xs.length:=by rw[List.size_toArray,<- rv.length,rl.length]
  refine qk (I2.ok.hd (ok.calm hh)) hc' pl.isList (λhz g tk kp=>?_) λz g tk hz kp=>?_
  ·have:xs=[]:=List.length_eq_zero_iff.mp (by rw[<- len];exact hz)
   subst this;exact⟨v2,H2,I2.kept kp,ru2,K v2 H2 F2 (.val dv) σ2 (sm1.trans sm2) R2 r2 q2⟩
  ·have hz':its[cf (se xs) (xs.length - 1)]?=some z:=by rw[len] at hz;simpa using hz
   have hne:xs≠[]:=λe=>by
    subst e;have:its=[]:=List.length_eq_zero_iff.mp (by rw[<- rv.length,rl.length];rfl)
    rw[this] at hz';simp at hz'
   have hl:cf (se xs) (xs.length - 1) < vs.length:=by rw[rv.length];exact (List.getElem?_eq_some_iff.mp hz').1
   have ev:vs[cf (se xs) (xs.length - 1)]?=some vs[cf (se xs) (xs.length - 1)]:=List.getElem?_eq_getElem hl;obtain⟨dd,e1,e2⟩:=rl.get' ev;obtain⟨zz,e3,e4⟩:=rv.get ev;rw[hz'] at e3;cases e3;have eb:jb xs=some dd:=by rw[nL hne,List.getD_eq_getElem?_getD,e1];rfl
   rw[eb] at q2;exact⟨_,H2,I2.kept kp,e4,K _ H2 F2 (.val dd) σ2 (sm1.trans sm2) R2 e2 q2⟩
 ·exact q2.elim
end Vc


namespace Vc
open PySem L2
variable [KF]
variable {G:GE}{k:Nat}{S:Stat}
theorem wV {g:jn}{tb:br}{De:EndsD}{items:List D}(I:Nat->Sd->Prop)
  (hstep:∀ i x σ (N:Sd->Prop),items[i]?=some x->I i σ->(∀ σ',I (i+1) σ'->N σ')->g x σ λσ1=>tb { nx:=N,rt:=De.rt,bk:=De.nx,ct:=N } σ1)
  (hend:∀ σ,I items.length σ->De.nx σ) {σ:Sd} (h0:I 0 σ):qd g tb De items σ:=by
 have key:∀ (xs:List D) (i:Nat) (σ:Sd),items.drop i=xs->i<=items.length->I i σ->qd g tb De xs σ:=by
  intro xs
  induction xs with
  | nil =>
   intro i σ e l h;have:items.length<=i:=List.drop_eq_nil_iff.mp e;exact hend σ ((Nat.le_antisymm l this) ▸ h)
  | cons x r ih =>
   intro i σ e l h;have hx:items[i]?=some x:=by
    have:=congrArg (·[0]?) e
    simpa using this
   have hr:items.drop (i+1)=r:=by rw[<- List.drop_drop,e];rfl
   have hl:i < items.length:=(List.getElem?_eq_some_iff.mp hx).1;exact hstep i x σ _ hx h λσ' h'=>ih (i+1) σ' hr hl h'
 exact key items 0 σ rfl (Nat.zero_le _) h0
theorem ko {α:Type}{g:jn}{tc:TB}{te:TD}{σ0:Sd}{Q:List D->Prop}(gi:α->D)(f:α->Option D)(l:List α)
  (h:∀ a∈l,∀ (A:D->Prop) (Bn:Prop),(match f a with|some d=>A d|none=>Bn)->g (gi a) σ0 λσ1=>tc σ1 λb σ2=>if b=true then te σ2 λd σ3=>ja σ0 σ3/\A d else ja σ0 σ2/\Bn)
  (hl:l.length<=sizeLine) (q:Q (l.filterMap f)):eI g tc te σ0 (l.map gi) [] Q:=by
 have key:∀ (l:List α) (acc:List D),(∀ a∈l,∀ (A:D->Prop) (Bn:Prop),(match f a with|some d=>A d|none=>Bn)->g (gi a) σ0 λσ1=>tc σ1 λb σ2=>if b=true then te σ2 λd σ3=>ja σ0 σ3/\A d else ja σ0 σ2/\Bn) ->
   acc.length+l.length<=sizeLine->Q (acc++l.filterMap f)->eI g tc te σ0 (l.map gi) acc Q:=by
  intro l
  induction l with
  | nil=>intro acc _ _ q;simpa [eI] using q
  | cons a l ih =>
   intro acc h hl q;rw[List.length_cons] at hl;rw[List.map_cons];refine h a (List.mem_cons_self ..) (λd=>acc.length < sizeLine/\eI g tc te σ0 (l.map gi) (acc++[d]) Q) (eI g tc te σ0 (l.map gi) acc Q) ?_;have hr:=λy hy=>h y (List.mem_cons_of_mem _ hy);cases e:f a with
   | some d =>
    refine⟨by omega,ih _ hr (by rw[List.length_append,List.length_singleton];omega) ?_⟩
    rw[List.filterMap_cons_some e] at q
    rwa [List.append_assoc]
   | none =>
    refine ih acc hr (by omega) ?_
    rwa [List.filterMap_cons_none e] at q
 exact key l [] h (by simpa using hl) q
theorem bO {α:Type}{g:jn}{te:TD}{σ0:Sd}{Q:List D->Prop}(gi f:α->D)(l:List α)
  (h:∀ a∈l,∀ (A:D->Prop),A (f a)->g (gi a) σ0 λσ1=>te σ1 λd σ3=>ja σ0 σ3/\A d)
  (hl:l.length<=sizeLine) (q:Q (l.map f)):eI g bF te σ0 (l.map gi) [] Q :=
 ko gi (λx=>some (f x)) l (λx hx A Bn ha=>h x hx A ha) hl (by simpa using q)
theorem ge {α:Type}{g:jn}{tb:br}{De:EndsD}(gi:α->D)(l:List α)(I:Nat->Sd->Prop)
  (hstep:∀ i a σ (N:Sd->Prop),l[i]?=some a->I i σ->(∀ σ',I (i+1) σ'->N σ')->g (gi a) σ λσ1=>tb { nx:=N,rt:=De.rt,bk:=De.nx,ct:=N } σ1)
  (hend:∀ σ,I l.length σ->De.nx σ) {σ:Sd} (h0:I 0 σ):qd g tb De (l.map gi) σ:=by
 refine wV I (λi x σ N hx hI hN=>?_) (λσ h=>hend σ (by rwa [List.length_map] at h)) h0
 rw[List.getElem?_map] at hx;cases e:l[i]? with
 | none=>rw[e] at hx;cases hx
 | some a=>rw[e] at hx;cases hx;exact hstep i a σ N e hI hN
theorem cA (lo:Int)(n:Nat):li lo n=(List.range n).map λi=>.int (lo+(i:Nat)):=rfl
theorem wW {α β:Type}(f:α->D)(g:β->D)(xs:List α)(ys:List β):qj (xs.map f) (ys.map g)=(xs.zip ys).map λp=>.tup [f p.1,g p.2]:=by
 unfold qj;rw[List.zip_map,List.map_map];rfl
theorem tR {α:Type}{xs:List α}{n:Nat}{d:α}(h:xs[n]?=some d):L2.atI xs (n:Int)=some d:=by
 have hn:=(List.getElem?_eq_some_iff.mp h).1;unfold L2.atI L2.ixN;rw[if_pos (Int.natCast_nonneg n),if_pos (by omega)]
 show xs[(n:Int).toNat]?=some d;rw[Int.toNat_natCast];exact h
theorem aC {xs:List D}{n:Nat}{i:Int}{d:D}{Q:D->Prop}(e:i=(n:Int))(h:xs[n]?=some d)(q:Q d):HB (.lst xs) (.int i) Q:=by
 subst e;show (match L2.atI xs (n:Int) with|some d=>Q d|none=>False)
 rw[tR h];exact q
theorem cF {xs:List D}{n:Nat}{i:Int}{d:D}{Q:D->Prop}(e:i=(n:Int))(h:xs[n]?=some d)(q:Q d):HB (.tup xs) (.int i) Q:=by
 subst e;show (match L2.atI xs (n:Int) with|some d=>Q d|none=>False)
 rw[tR h];exact q
theorem sD {xs:List D}{i:Int}{Q:D->Prop}(h0:0<=i)(h1:i < xs.length)(h:∀ d∈xs,Q d):HB (.lst xs) (.int i) Q:=by
 have hn:i.toNat < xs.length:=by omega
 exact aC (n:=i.toNat) (by omega) (List.getElem?_eq_getElem hn) (h _ (List.getElem_mem hn))
structure FnD (G:GE)(x:Str)(st:Stmt)(ps:List Str)(f:Addr)(fd:FuncData):Prop where
 F:Fun G.K x x st f fd
 m:G.mg x=some (.ref f)
 b:Binds G.K fd ps []
theorem FnD.fg {x:Str}{st:Stmt}{ps N:List Str}{f:Addr}{fd:FuncData}{t:br}{sp:aK}(d:FnD G x st ps f fd)(hK:G.K=KF.K)(Sc:FnScope N ps (aa st))(ht:ESs G k ⟨N,(aa st).names,[],false,false,false,λ_ _=>False⟩ (ag st) t)
  (len:∀ ds Q,sp ds Q->ds.length=ps.length) (body:∀ ds Q,sp ds Q->t { nx:=λ_=>Q (.sh .non),rt:=λb _=>Q b } (aB N.length ds)):FnG G (k+1) x sp :=
 ⟨f,fd,ps,wJ hK d.F Sc ht len body,d.m,d.F.kp,d.b⟩
theorem aj {t u:br}{De:EndsD}{σ:Sd}(h:∀ N,N=u De->t { nx:=N,rt:=De.rt,bk:=De.bk,ct:=De.ct } σ):bn t u De σ:=h _ rfl
end Vc


namespace Vc
open PySem L2
variable [KF]
section
open AutoSeq1 (wpAny_loadPart')
end
variable {G:GE}{k:Nat}{S:Stat}
theorem wX {X:Cx}:CallR X (.type "range") (λxs H Q=>∃ j:Int,xs=[.int j]/\∀ l,H l=none->Q (.ref l) (bj H l (.rng 0 j))):=by
 intro pins s σ H xs us Q I r h;obtain⟨j,rfl,q⟩:=h;obtain⟨u,rfl,rx⟩:=dt r;obtain⟨t,rfl⟩:=rx;refine call_range_1 ?_;exact⟨.ref s.heap.objs.size,_,I.laid (t':=s.toks+1+1) (o:=.rng 0 j) (λb o e=>Heap.get?_push_of_some _ e) (Nat.le_refl _) ⟨_,_,_,Heap.get?_push_size _ rfl⟩,rfl,q _ I.fresh⟩
def nM (n:Nat):List V:=(List.range n).map λi=>.int (i:Nat)
theorem wY {n:Nat}{acc:Array Value}(h:ItemsOf (λi v=>∃ t,v=.int (0+i*1) t) acc n):Vals (nM n) acc.toList:=by
 obtain⟨h1,h2⟩:=h;have:∀ (xs:List V) (us:List Value),xs.length=us.length->(∀ (i:Nat) v,us[i]?=some v->∃ x,xs[i]?=some x/\RelV x v)->Vals xs us:=by
  intro xs
  induction xs with
  | nil=>intro us hl _;cases us with
   | nil=>exact .nil
   | cons _ _=>simp at hl
  | cons x xs ih=>intro us hl hr;cases us with
   | nil=>simp at hl
   | cons u us =>
    obtain⟨y,hy,ry⟩:=hr 0 u rfl;cases hy;exact .cons ry (ih us (by simpa using hl) λi v e=>hr (i+1) v e)
 refine this _ _ (by simp [nM,h1]) λi v e=>?_
 have hi:i < n:=by
  have:=(List.getElem?_eq_some_iff.mp e).1;simpa [h1] using this
 obtain⟨t,rfl⟩:=h2 i v (by simpa using e)
 refine⟨.int (i:Nat),by simp [nM,hi],⟨t,by simp⟩⟩
theorem lj {X:Cx}(hc:X.calm=true):CallR X (.type "list") (λxs H Q=>∃ p j,xs=[.ref p]/\H p=some (.rng 0 j)/\-(2^62)<=j/\j<=2^24/\∀ l,H l=none->Q (.ref l) (bj H l (.lst (nM j.toNat)))):=by
 intro pins s σ H xs us Q I r h;obtain⟨p,j,rfl,hp,h1,h2,q⟩:=h;obtain⟨u,rfl,rx⟩:=dt r;cases rx;obtain⟨t,u,v,e⟩:=I.hok p _ hp;refine call_list_range (n:=j.toNat) (I.ok.hd hc) (show IsRange s.heap p 0 j 1 t u v from e) (small_one (by omega) (by omega) (by omega) (by omega)) (by rw[rangeSize_one];split<;>omega) (by omega) λh' tk acc' c' kp e' it=>?_
 have hz:(nM j.toNat).length<=sizeLine:=by simp [nM,sizeLine];omega
 exact⟨.ref s.heap.objs.size,_,I.laid (t':=tk) kp (Nat.le_refl _) (show ObjOk X.prog X.w _ h' _ (.lst (nM j.toNat)) from ⟨hz,acc'.toList,c',wY it,by simpa using e'⟩),rfl,q _ I.fresh⟩
def UR (t:sd):TX:=λσ Q=>t σ λxs σ1=>match drfs σ1 xs with
 | some [.int j]=>(-(2^62)<=j/\j<=2^24)/\Q (.own (li 0 j.toNat)) σ1
 | _=>False
theorem wZ {F:Hp}(n:Nat):RepL F (nM n) (li 0 n):=by
 unfold nM li
 induction (List.range n) with
 | nil=>exact .nil
 | cons a as ih=>exact .cons (by simpa using Rep.int _) ih
theorem HR {a:Expr}{t:sd}{p p2 pos pos2:Pos}(h:EOs G k S [a] t)(hm:G.mg "list"=none)(hm2:G.mg "range"=none)(hg:S.sc.lookup ("list":Str)=some .globalImplicit:=by rfl)(hg2:S.sc.lookup ("range":Str)=some .globalImplicit:=by rfl)
  (hs:∀ env,starEach [a] env=[(false,eval a env)]:=by intro _;rfl) (hs2:∀ env,starEach [Expr.Call (.Name "range" p2) [a] [] pos2] env=[(false,eval (Expr.Call (.Name "range" p2) [a] [] pos2) env)]:=by intro _;rfl) (hh:S.hot=false:=by rfl) :
  EX G k S (.Call (.Name "list" p) [.Call (.Name "range" p2) [a] [] pos2] [] pos) (UR t):=.mk λX Y ok =>
 aE (ik (lj (ok.calm hh)) (dc ok hg) (by rw[ok.mg];exact hm) (by decide +kernel) (cc (ik wX (dc ok hg2) (by rw[ok.mg];exact hm2) (by decide +kernel) (h X Y ok) (by decide) (by decide) (hs _) (by rfl)) eA (hs2 _)) (by decide) (by decide) (hs2 _) (by rfl)) λσ H Q q=>by
  obtain⟨F,σd,Qd,R,q,K⟩:=q;refine⟨F,σd,_,R,q,λvs H1 F1 xs σ1 s1 R1 r1 q1=>?_⟩
  split at q1
  ·rename_i j e
   obtain⟨v,rfl,rv⟩:=(R1.drfs r1 e).one;obtain rfl:=rv.int;refine⟨j,rfl,λl hl=>⟨l,j,rfl,ao,q1.1.1,q1.1.2,?_⟩⟩;have R2:RS Y F1 σ1 σ (bj H1 l (.rng 0 j)):=R1.alloc0 hl;have g:Goes Y F1 σ1 σ (λr=>Qd r σ1) Q:=λv H' F' r s R' rr qq=>K v H' F' r σ1 (s1.trans s) R' rr qq;exact g.own R2 (wZ _) q1.2
  ·exact q1.elim
end Vc

namespace Vs
open PySem PyProof.Rows
def R (ρ:Keyed->Nat)(xs:Array Keyed)(i:Nat):Nat:=match xs[i]? with
 | some p=>ρ p
 | none=>0
theorem eY {ρ:Keyed->Nat}{xs ys:Array Keyed}{i j:Nat}(h:xs[i]?=ys[j]?):R ρ xs i=R ρ ys j:=by unfold R;rw[h]
theorem R_at {ρ:Keyed->Nat}{xs:Array Keyed}{i:Nat}{p:Keyed}(h:xs[i]?=some p):R ρ xs i=ρ p:=by unfold R;rw[h]
theorem ql {ρ:Keyed->Nat}{xs:Array Keyed}{src d:Nat}(hs:src < xs.size)(hd:d<=src)(k:Nat) :
  R ρ (bubble xs src d) k=if k=src - d then R ρ xs src else if src - d < k/\k<=src then R ρ xs (k - 1) else R ρ xs k:=by
 have e:=getElem?_bubble hs d hd k
 repeat' split
 all_goals (rename_i h1;first | (rename_i h2;first|rw[if_neg h2,if_pos h1] at e|rw[if_neg h2,if_neg h1] at e)|rw[if_pos h1] at e)
 all_goals exact eY e
theorem kr {ρ:Keyed->Nat}{xs:Array Keyed}{i j:Nat}(hj:j<=xs.size)(k:Nat) :
  R ρ (mirror xs i j ((j - i) / 2)) k=if i<=k/\k < j then R ρ xs (i+j - 1 - k) else R ρ xs k:=by
 have e:=getElem?_mirror_all (i:=i) hj k
 split
 ·rename_i h1;rw[if_pos h1] at e;exact eY e
 ·rename_i h1;rw[if_neg h1] at e;exact eY e
theorem bK {ρ:Keyed->Nat}{xs:Array Keyed}{i j:Nat}(hj:j<=xs.size)(heq:∀ k,i<=k->k < j->R ρ xs k=R ρ xs (j - 1))(k:Nat) :
  R ρ (mirror xs i j ((j - i) / 2)) k=R ρ xs k:=by
 rw[kr hj]
 split
 ·rw[heq _ (by omega) (by omega),heq k (by omega) (by omega)]
 ·rfl
def et (M:Model)(A:Around)(E:Value->Shared->Prop)(s:Shared)(ρ:Keyed->Nat)(kd:SortKind)(P:Keyed->Prop):Prop :=
 ∀ (x y:Keyed) (st:SortSt) (Q:Option Bool->SortSt->Prop),P x->P y->kindOf st=kd->Q (some (decide (ρ x < ρ y))) st->wpS M A E s (lt' x y) Q st
structure SI (kd:SortKind)(a₀:Array Keyed)(st:SortSt):Prop where
 perm:(arrOf st).Perm a₀
 kind:kindOf st=kd
 failed:failedOf st=none
theorem SI.size {kd:SortKind}{a₀:Array Keyed}{st:SortSt}(h:SI kd a₀ st):(arrOf st).size=a₀.size:=h.perm.size_eq
theorem SI.setArr {kd:SortKind}{a₀:Array Keyed}{st:SortSt}(h:SI kd a₀ st){xs:Array Keyed}(hp:xs.Perm (arrOf st)):SI kd a₀ (setArr st xs):=⟨hp.trans h.perm,h.kind,h.failed⟩
theorem SI.at {kd:SortKind}{a₀:Array Keyed}{st:SortSt}(h:SI kd a₀ st){P:Keyed->Prop}(h0:∀ p∈a₀.toList,P p){i:Nat}(hi:i < a₀.size):∃ p,(arrOf st)[i]?=some p/\P p:=by
 have hi':i < (arrOf st).size:=by rw[h.size];exact hi
 exact⟨(arrOf st)[i],getElem?_pos _ i hi',h0 _ ((Array.perm_iff_toList_perm.mp h.perm).mem_iff.mp (by simp))⟩
structure Fw (kd:SortKind)(a₀:Array Keyed)(lo:Nat)(st st':SortSt):Prop where
 si:SI kd a₀ st'
 same:∀ k,k < lo->(arrOf st')[k]?=(arrOf st)[k]?
 pend:pendingOf st'=pendingOf st
theorem Fw.refl {kd:SortKind}{a₀:Array Keyed}{lo:Nat}{st:SortSt}(h:SI kd a₀ st):Fw kd a₀ lo st st:=⟨h,λ_ _=>rfl,rfl⟩
theorem Fw.mirror {kd:SortKind}{a₀:Array Keyed}{lo i j:Nat}{st st':SortSt}(h:Fw kd a₀ lo st st')(hi:lo<=i)(hj:j<=a₀.size):Fw kd a₀ lo st (setArr st' (mirror (arrOf st') i j ((j - i) / 2))) :=
 ⟨h.si.setArr (mirror_perm _ _ _ _),λk hk=>by
  show (PyProof.Rows.mirror (arrOf st') i j ((j - i) / 2))[k]?=_;rw[getElem?_mirror_all (by rw[h.si.size];exact hj),if_neg (by omega)];exact h.same k hk,h.pend⟩
theorem Fw.bubble {kd:SortKind}{a₀:Array Keyed}{lo src d:Nat}{st st':SortSt}(h:Fw kd a₀ lo st st')(hs:src < a₀.size)(hd:lo<=src - d)(hd2:d<=src):Fw kd a₀ lo st (setArr st' (bubble (arrOf st') src d)) :=
 ⟨h.si.setArr (bubble_perm _ _ _),λk hk=>by
  show (PyProof.Rows.bubble (arrOf st') src d)[k]?=_;rw[getElem?_bubble (by rw[h.si.size];exact hs) d hd2,if_neg (by omega),if_neg (by omega)];exact h.same k hk,h.pend⟩
section
variable {M:Model}{A:Around}{E:Value->Shared->Prop}{s:Shared}{ρ:Keyed->Nat}{kd:SortKind}{P:Keyed->Prop}{a₀:Array Keyed}
theorem aI {arr:Array Keyed}{i:Nat}{p:Keyed}{st:SortSt}{Q:Keyed->SortSt->Prop}(h:arr[i]?=some p)(q:Q p st):wpS M A E s (elem' arr i) Q st:=by
 rw[elem'_eq,h];exact wpS_pure q
theorem eJ {st:SortSt}{i j:Nat}{Q:Option Bool->SortSt->Prop}(hL:et M A E s ρ kd P)(h0:∀ p∈a₀.toList,P p)(hB:SI kd a₀ st)(hi:i < a₀.size)(hj:j < a₀.size)
  (h:Q (some (decide (R ρ (arrOf st) i < R ρ (arrOf st) j))) st):wpS M A E s (ltAt' i j) Q st:=by
 obtain⟨p,e1,p1⟩:=hB.at h0 hi;obtain⟨q,e2,p2⟩:=hB.at h0 hj;rw[R_at e1,R_at e2] at h;rw[ltAt'_eq];refine wpS_bind (wpS_get ?_);show wpS _ _ _ _ (do let x <- elem' (arrOf st) i;let y <- elem' (arrOf st) j;lt' x y) Q st
 exact wpS_bind (aI e1 (wpS_bind (aI e2 (hL p q st Q p1 p2 hB.kind h))))
theorem de {st:SortSt}{i j:Nat}{Q:Unit->SortSt->Prop}(h:Q () (setArr st (mirror (arrOf st) i j ((j - i) / 2)))):wpS M A E s (reverseSlice' i j) Q st:=by
 rw[reverseSlice'_eq];exact wpS_modify h
def Seg (ρ:Keyed->Nat)(xs:Array Keyed)(lo hi:Nat):Prop:=∀ i j,lo<=i->i<=j->j < hi->R ρ xs i<=R ρ xs j
def Neg (ρ:Keyed->Nat)(xs:Array Keyed)(lo hi:Nat):Prop:=∀ i j,lo<=i->i<=j->j < hi->R ρ xs j<=R ρ xs i
theorem Seg.one {xs:Array Keyed}{lo:Nat}:Seg ρ xs lo (lo+1):=λi j h1 h2 h3=>by
 have:i=j:=by omega
 subst this;exact Nat.le_refl _
theorem Seg.snoc {xs:Array Keyed}{lo hi:Nat}(h:Seg ρ xs lo hi)(hl:lo < hi)(hr:R ρ xs (hi - 1)<=R ρ xs hi):Seg ρ xs lo (hi+1):=λi j h1 h2 h3=>by
 by_cases hj:j < hi
 ·exact h i j h1 h2 hj
 ·have:j=hi:=by omega
  subst this
  by_cases hi':i=j
  ·subst hi';exact Nat.le_refl _
  ·exact Nat.le_trans (h i (j - 1) h1 (by omega) (by omega)) hr
theorem Neg.snoc {xs:Array Keyed}{lo hi:Nat}(h:Neg ρ xs lo hi)(hl:lo < hi)(hr:R ρ xs hi<=R ρ xs (hi - 1)):Neg ρ xs lo (hi+1):=λi j h1 h2 h3=>by
 by_cases hj:j < hi
 ·exact h i j h1 h2 hj
 ·have:j=hi:=by omega
  subst this
  by_cases hi':i=j
  ·subst hi';exact Nat.le_refl _
  ·exact Nat.le_trans hr (h i (j - 1) h1 (by omega) (by omega))
def xa (lo a nrem:Nat):StateT SortSt Sem (Option (Option Nat)×Nat) :=
 forIn [a:nrem] ((none,a):Option (Option Nat)×Nat) λ_ __s=>do
  let __x <- ltAt' (lo+__s.snd) (lo+__s.snd - 1)
  match __x with
  | some smaller=>if smaller=true then pure (ForInStep.done (none,__s.snd)) else pure (ForInStep.yield (none,__s.snd+1))
  | _=>pure (ForInStep.done (some none,__s.snd))
theorem qm {st:SortSt}{lo a nrem:Nat}{Q:Option (Option Nat)×Nat->SortSt->Prop}(hL:et M A E s ρ kd P)(h0:∀ p∈a₀.toList,P p)(hn:lo+nrem<=a₀.size)(ha:1<=a)(han:a<=nrem)(hB:SI kd a₀ st)
  (hs:Seg ρ (arrOf st) lo (lo+a))
  (h:∀ n,a<=n->n<=nrem->Seg ρ (arrOf st) lo (lo+n)->(n=nrem\/R ρ (arrOf st) (lo+n) < R ρ (arrOf st) (lo+n - 1))->Q (none,n) st):wpS M A E s (xa lo a nrem) Q st:=by
 unfold xa;refine wpS_forRange (I:=λx c st'=>st'=st/\c=(none,x)/\Seg ρ (arrOf st) lo (lo+x)) ?step ?fin ⟨rfl,rfl,hs⟩
 case fin =>
  rintro c st' ⟨rfl,rfl,hs'⟩;rw[show max a nrem=nrem by omega] at hs' ⊢
  exact h nrem han (Nat.le_refl _) hs' (.inl rfl)
 case step =>
  rintro x c st' hax hxn ⟨rfl,rfl,hs'⟩;dsimp only;refine wpS_bind (eJ hL h0 hB (by omega) (by omega) ?_)
  by_cases hl:R ρ (arrOf st') (lo+x) < R ρ (arrOf st') (lo+x - 1)
  ·simp only[hl,decide_true,if_true]
   exact wpS_pure (h x hax (by omega) hs' (.inr hl))
  ·simp only[hl,decide_false,Bool.false_eq_true,if_false]
   refine wpS_pure ⟨rfl,rfl,?_⟩;exact hs'.snoc (by omega) (by omega)
def qo (lo n nrem:Nat):StateT SortSt Sem (Option Nat):=do
 reverseSlice' lo (lo+n)
 let __s <- xa lo n nrem
 match __s.fst with
 | some r=>pure r
 | none=>pure (some __s.snd)
theorem lY {st st0:SortSt}{lo n nrem:Nat}{Q:Option Nat->SortSt->Prop}(hL:et M A E s ρ kd P)(h0:∀ p∈a₀.toList,P p)(hn:lo+nrem<=a₀.size)(h1:1<=n)(hnn:n<=nrem)(hB:Fw kd a₀ lo st0 st)
  (hs:Neg ρ (arrOf st) lo (lo+n)) (h:∀ m st',Fw kd a₀ lo st0 st'->1<=m->m<=nrem->Seg ρ (arrOf st') lo (lo+m)->Q (some m) st'):wpS M A E s (qo lo n nrem) Q st:=by
 unfold qo;have hsz:lo+n<=(arrOf st).size:=by rw[hB.si.size];omega
 refine wpS_bind (de ?_);have hB':=hB.mirror (i:=lo) (j:=lo+n) (Nat.le_refl _) (by omega)
 refine wpS_bind (qm hL h0 hn h1 hnn hB'.si ?_ λm hm1 hm2 hsm _=>wpS_pure (h m _ hB' (by omega) hm2 hsm))
 intro i j hi hij hj;show R ρ (mirror (arrOf st) lo (lo+n) ((lo+n - lo) / 2)) i<=R ρ (mirror (arrOf st) lo (lo+n) ((lo+n - lo) / 2)) j;rw[kr hsz,kr hsz,if_pos (by omega),if_pos (by omega)]
 exact hs _ _ (by omega) (by omega) (by omega)
def tS (lo n nrem:Nat):StateT SortSt Sem (Option (Option Nat)×Nat×Nat) :=
 forIn [n:nrem] ((none,n,0):Option (Option Nat)×Nat×Nat) λ_ __s=>do
  let __x <- ltAt' (lo+__s.snd.fst) (lo+__s.snd.fst - 1)
  match __x with
  | some smaller =>
   if smaller=true then
    if __s.snd.snd > 0 then do
     reverseSlice' (lo+__s.snd.fst - (__s.snd.snd+1)) (lo+__s.snd.fst)
     pure (ForInStep.yield (none,__s.snd.fst+1,0))
    else pure (ForInStep.yield (none,__s.snd.fst+1,0))
   else do
    let __x <- ltAt' (lo+__s.snd.fst - 1) (lo+__s.snd.fst)
    match __x with
    | some larger =>
     if larger=true then pure (ForInStep.done (none,__s.snd.fst,__s.snd.snd))
     else pure (ForInStep.yield (none,__s.snd.fst+1,__s.snd.snd+1))
    | _=>pure (ForInStep.done (some none,__s.snd.fst,__s.snd.snd))
  | _=>pure (ForInStep.done (some none,__s.snd.fst,__s.snd.snd))
theorem vt {st st0:SortSt}{lo n nrem:Nat}{Q:Option (Option Nat)×Nat×Nat->SortSt->Prop}(hL:et M A E s ρ kd P)(h0:∀ p∈a₀.toList,P p)(hn:lo+nrem<=a₀.size)(h1:1<=n)(hnn:n<=nrem)(hB:Fw kd a₀ lo st0 st)
  (hs:Neg ρ (arrOf st) lo (lo+n))
  (h:∀ m neq st',Fw kd a₀ lo st0 st'->n<=m->m<=nrem->Neg ρ (arrOf st') lo (lo+m)->neq+1<=m->(∀ i,lo+m - (neq+1)<=i->i < lo+m->R ρ (arrOf st') i=R ρ (arrOf st') (lo+m - 1))->Q (none,m,neq) st') :
  wpS M A E s (tS lo n nrem) Q st:=by
 unfold tS;refine wpS_forRange (I:=λx c st'=>∃ neq,c=(none,x,neq)/\Fw kd a₀ lo st0 st'/\Neg ρ (arrOf st') lo (lo+x)/\neq+1<=x /\
   (∀ i,lo+x - (neq+1)<=i->i < lo+x->R ρ (arrOf st') i=R ρ (arrOf st') (lo+x - 1))) ?step ?fin ⟨0,rfl,hB,hs,by omega,λi h1 h2=>by congr 1;omega⟩
 case fin =>
  rintro c st' ⟨neq,rfl,hB',hs',hq,he⟩;rw[show max n nrem=nrem by omega] at hs' hq he ⊢
  exact h nrem neq st' hB' hnn (Nat.le_refl _) hs' hq he
 case step =>
  rintro x c st' hax hxn ⟨neq,rfl,hB',hs',hq,he⟩;dsimp only;have hsz:lo+x<=(arrOf st').size:=by rw[hB'.si.size];omega
  refine wpS_bind (eJ hL h0 hB'.si (by omega) (by omega) ?_)
  by_cases hl:R ρ (arrOf st') (lo+x) < R ρ (arrOf st') (lo+x - 1)
  ·simp only[hl,decide_true,if_true]
   have step1:∀ xs:Array Keyed,(∀ k,R ρ xs k=R ρ (arrOf st') k)->Neg ρ xs lo (lo+(x+1)):=λxs hk=>by
    have:=hs'.snoc (by omega) (Nat.le_of_lt hl)
    intro i j h1 h2 h3;rw[hk,hk];exact this i j h1 h2 h3
   by_cases hneq:neq > 0
   ·rw[if_pos hneq]
    refine wpS_bind (de (wpS_pure ⟨0,rfl,hB'.mirror (by omega) (by omega),step1 _ (bK hsz he),by omega,λi h1 h2=>by congr 1;omega⟩))
   ·rw[if_neg hneq]
    exact wpS_pure ⟨0,rfl,hB',step1 _ (λ_=>rfl),by omega,λi h1 h2=>by congr 1;omega⟩
  ·simp only[hl,decide_false,Bool.false_eq_true,if_false]
   refine wpS_bind (eJ hL h0 hB'.si (by omega) (by omega) ?_)
   by_cases hg:R ρ (arrOf st') (lo+x - 1) < R ρ (arrOf st') (lo+x)
   ·simp only[hg,decide_true,if_true]
    exact wpS_pure (h x neq st' hB' hax (by omega) hs' hq he)
   ·simp only[hg,decide_false,Bool.false_eq_true,if_false]
    have heq:R ρ (arrOf st') (lo+x)=R ρ (arrOf st') (lo+x - 1):=by omega
    refine wpS_pure ⟨neq+1,rfl,hB',hs'.snoc (by omega) (by omega),by omega,λi h1 h2=>?_⟩
    rw[show lo+(x+1) - 1=lo+x by omega]
    by_cases hix:i=lo+x
    ·rw[hix]
    ·rw[heq];exact he i (by omega) (by omega)
def qp (lo n nrem:Nat):StateT SortSt Sem (Option Nat):=do
 liftM (rule "list.sort.descending-run")
 let __s <- tS lo (n+1) nrem
 match __s.fst with
 | some r=>pure r
 | none =>
  if __s.snd.snd > 0 then do
   reverseSlice' (lo+__s.snd.fst - (__s.snd.snd+1)) (lo+__s.snd.fst)
   qo lo __s.snd.fst nrem
  else qo lo __s.snd.fst nrem
theorem lZ {st st0:SortSt}{lo n nrem:Nat}{Q:Option Nat->SortSt->Prop}(hL:et M A E s ρ kd P)(h0:∀ p∈a₀.toList,P p)(hn:lo+nrem<=a₀.size)(hnn:n+1<=nrem)(hB:Fw kd a₀ lo st0 st)
  (hs:Neg ρ (arrOf st) lo (lo+(n+1))) (h:∀ m st',Fw kd a₀ lo st0 st'->1<=m->m<=nrem->Seg ρ (arrOf st') lo (lo+m)->Q (some m) st'):wpS M A E s (qp lo n nrem) Q st:=by
 unfold qp;refine wpS_bind (wpS_lift (wpAny_rule ⟨rfl,?_⟩));refine wpS_bind (vt hL h0 hn (by omega) hnn hB hs λm neq st' hB' hm1 hm2 hs' hq he=>?_)
 dsimp only;have hsz:lo+m<=(arrOf st').size:=by rw[hB'.si.size];omega
 by_cases hneq:neq > 0
 ·rw[if_pos hneq]
  refine wpS_bind (de (lY hL h0 hn (by omega) hm2 (hB'.mirror (by omega) (by omega)) ?_ h))
  intro i j h1 h2 h3;show R ρ (mirror (arrOf st') _ _ _) j<=R ρ (mirror (arrOf st') _ _ _) i;rw[bK hsz he,bK hsz he];exact hs' i j h1 h2 h3
 ·rw[if_neg hneq]
  exact lY hL h0 hn (by omega) hm2 hB' hs' h
local macro_rules|`(tactic| walk_at "s_tail")=>`(tactic| (funext s3;obtain⟨r3,n3⟩:=s3;cases r3<;>rfl))
local macro_rules|`(tactic| walk_at "s_t3")=>`(tactic| (congr 1;funext _w;congr 1;walk_at "s_tail"))
local macro_rules|`(tactic| walk_at "s_desc")=>`(tactic| (congr 1;funext _u;congr 1;congr 1;funext s2;obtain⟨r2,n2,q2⟩:=s2;cases r2 with
  | some r2=>rfl
  | none=>(dsimp only;split;(congr 1;funext _v;walk_at "s_t3");walk_at "s_t3")))
theorem nN (lo nrem:Nat):countRun' lo nrem=(do
  let __s <- xa lo 1 nrem
  match __s.fst with
  | some r=>pure r
  | none =>
   if (__s.snd==nrem)=true then pure (some __s.snd)
   else if __s.snd > 1 then do
    let __x <- ltAt' lo (lo+__s.snd - 1)
    match __x with
    | some rose=>if rose=true then pure (some __s.snd) else do
      reverseSlice' lo (lo+__s.snd)
      qp lo __s.snd nrem
    | _=>pure none
   else qp lo __s.snd nrem):=by
 rw[countRun'_eq];dsimp only;unfold qp qo tS xa;congr 1;funext __s;obtain⟨r,n⟩:=__s;cases r with
 | some r=>rfl
 | none =>
  dsimp only
  split
  ·rfl
  ·split
   ·congr 1
    funext x;cases x with
    | none=>rfl
    | some b =>
     dsimp only
     split
     ·rfl
     ·congr 1
      funext _z;walk_at "s_desc"
   ·walk_at "s_desc"
end
end Vs

namespace Vs
open PySem PyProof.Rows
section
variable {M:Model}{A:Around}{E:Value->Shared->Prop}{s:Shared}{ρ:Keyed->Nat}{kd:SortKind}{P:Keyed->Prop}{a₀:Array Keyed}
theorem nO {st:SortSt}{lo nrem:Nat}{Q:Option Nat->SortSt->Prop}(hL:et M A E s ρ kd P)(h0:∀ p∈a₀.toList,P p)(hn:lo+nrem<=a₀.size)(h1:1<=nrem)(hB:SI kd a₀ st)
  (h:∀ m st',Fw kd a₀ lo st st'->1<=m->m<=nrem->Seg ρ (arrOf st') lo (lo+m)->Q (some m) st'):wpS M A E s (countRun' lo nrem) Q st:=by
 rw[nN];refine wpS_bind (qm hL h0 hn (Nat.le_refl 1) h1 hB Seg.one λn hn1 hn2 hsn hor=>?_);dsimp only
 by_cases hnn:n=nrem
 ·rw[if_pos (by simpa using hnn)]
  exact wpS_pure (h n st (.refl hB) hn1 hn2 hsn)
 ·rw[if_neg (by simpa using hnn)]
  have hlt:=hor.resolve_left hnn
  by_cases hgt:n > 1
  ·rw[if_pos hgt]
   refine wpS_bind (eJ hL h0 hB (by omega) (by omega) ?_)
   by_cases hr:R ρ (arrOf st) lo < R ρ (arrOf st) (lo+n - 1)
   ·simp only[hr,decide_true,if_true]
    exact wpS_pure (h n st (.refl hB) hn1 hn2 hsn)
   ·simp only[hr,decide_false,Bool.false_eq_true,if_false]
    have hsz:lo+n<=(arrOf st).size:=by rw[hB.size];omega
    have hall:∀ k,lo<=k->k < lo+n->R ρ (arrOf st) k=R ρ (arrOf st) (lo+n - 1):=λk hk1 hk2=>by
     have a1:=hsn lo k (Nat.le_refl _) hk1 hk2;have a2:=hsn k (lo+n - 1) hk1 (by omega) (by omega)
     omega
    refine wpS_bind (de (lZ hL h0 hn (by omega) ((Fw.refl hB).mirror (Nat.le_refl _) (by omega)) ?_ h))
    intro i j hi hij hj;show R ρ (mirror (arrOf st) _ _ _) j<=R ρ (mirror (arrOf st) _ _ _) i;rw[bK hsz hall,bK hsz hall]
    by_cases hjn:j < lo+n
    ·rw[hall i hi (by omega),hall j (by omega) hjn];exact Nat.le_refl _
    ·have hj':j=lo+n:=by omega
     subst hj'
     by_cases hi':i=lo+n
     ·subst hi';exact Nat.le_refl _
     ·rw[hall i hi (by omega)];exact Nat.le_of_lt hlt
  ·rw[if_neg hgt]
   have hn1':n=1:=by omega
   subst hn1';refine lZ hL h0 hn (by omega) (.refl hB) ?_ h
   intro i j hi hij hj
   by_cases hi':i=j
   ·subst hi';exact Nat.le_refl _
   ·have hi0:i=lo:=by omega
    have hj1:j=lo+1:=by omega
    subst hi0;subst hj1;exact Nat.le_of_lt hlt
theorem kt {st:SortSt}{lo n ok:Nat}{Q:Bool->SortSt->Prop}(hL:et M A E s ρ kd P)(h0:∀ p∈a₀.toList,P p)(hn:lo+n<=a₀.size)(hok:ok<=n)(hB:SI kd a₀ st)(hs:Seg ρ (arrOf st) lo (lo+ok))
  (h:∀ st',Fw kd a₀ lo st st'->Seg ρ (arrOf st') lo (lo+n)->Q true st'):wpS M A E s (binarySort' lo n ok) Q st:=by
 rw[binarySort'_eq];refine wpS_bind (wpS_mono (wpS_forRange (I:=λk c st'=>c=(none,())/\Fw kd a₀ lo st st'/\Seg ρ (arrOf st') lo (lo+min k n))
  (Q:=λc st'=>c=(none,())/\Fw kd a₀ lo st st'/\Seg ρ (arrOf st') lo (lo+n)) ?step ?fin ?init) ?post)
 case post =>
  rintro c st' ⟨rfl,hB',hs'⟩;exact wpS_pure (h st' hB' hs')
 case init =>
  refine⟨rfl,.refl hB,λi j hi hij hj=>?_⟩
  by_cases h1:ok=0
  ·have:i=j:=by omega
   subst this;exact Nat.le_refl _
  ·exact hs i j hi hij (by omega)
 case fin =>
  rintro c st' ⟨hc,hB',hs'⟩;refine⟨hc,hB',?_⟩
  rwa [show min (max (max ok 1) n) n=n by omega] at hs'
 case step =>
  rintro k c st' hak hkn ⟨rfl,hB',hs'⟩;rw[show min k n=k by omega] at hs'
  have hk:lo+k < a₀.size:=by omega
  refine wpS_bind (wpS_mono (wpS_forRange (I:=λx c st''=>st''=st'/\∃ l r,c=(none,l,r)/\l<=r/\r<=k/\r - l<=k - x /\
    (∀ i,i < l->R ρ (arrOf st') (lo+i)<=R ρ (arrOf st') (lo+k))/\(∀ i,r<=i->i < k->R ρ (arrOf st') (lo+k) < R ρ (arrOf st') (lo+i)))
   (Q:=λc st''=>st''=st'/\∃ l r,c=(none,l,r)/\l<=k /\
    (∀ i,i < l->R ρ (arrOf st') (lo+i)<=R ρ (arrOf st') (lo+k))/\(∀ i,l<=i->i < k->R ρ (arrOf st') (lo+k) < R ρ (arrOf st') (lo+i))) ?istep ?ifin ?iinit) ?ipost)
  case iinit=>exact⟨rfl,0,k,rfl,by omega,by omega,by omega,λi hi=>by omega,λi h1 h2=>by omega⟩
  case ifin =>
   rintro c st'' ⟨rfl,l,r,rfl,hlr,hrk,hm,hlo,hhi⟩;have:l=r:=by omega
   subst this;exact⟨rfl,l,l,rfl,hrk,hlo,hhi⟩
  case istep =>
   rintro x c st'' _ hxk ⟨rfl,l,r,rfl,hlr,hrk,hm,hlo,hhi⟩;dsimp only
   by_cases hge:l>=r
   ·rw[if_pos hge]
    have:l=r:=by omega
    subst this;exact wpS_pure ⟨rfl,l,l,rfl,hrk,hlo,hhi⟩
   ·rw[if_neg hge]
    refine wpS_bind (eJ hL h0 hB'.si hk (by omega) ?_)
    by_cases hless:R ρ (arrOf st'') (lo+k) < R ρ (arrOf st'') (lo+(l+r) / 2)
    ·simp only[hless,decide_true,if_true]
     refine wpS_pure ⟨rfl,l,(l+r) / 2,rfl,by omega,by omega,by omega,hlo,λi h1 h2=>?_⟩
     exact Nat.lt_of_lt_of_le hless (hs' _ _ (by omega) (by omega) (by omega))
    ·simp only[hless,decide_false,Bool.false_eq_true,if_false]
     refine wpS_pure ⟨rfl,(l+r) / 2+1,r,rfl,by omega,by omega,by omega,λi h1=>?_,hhi⟩
     exact Nat.le_trans (hs' (lo+i) (lo+(l+r) / 2) (by omega) (by omega) (by omega)) (Nat.not_lt.mp hless)
  case ipost =>
   rintro c st'' ⟨rfl,l,r,rfl,hlk,hlo,hhi⟩;show wpS _ _ _ _ (do moveDown' (lo+k) (lo+l);pure (ForInStep.yield (none,()))) _ _
   rw[moveDown'_eq];refine wpS_bind (wpS_modify (wpS_pure ⟨rfl,hB'.bubble hk (by omega) (by omega),?_⟩))
   rw[show min (k+1) n=k+1 by omega]
   have hks:lo+k < (arrOf st'').size:=by rw[hB'.si.size];exact hk
   intro i j hi hij hj;show R ρ (bubble (arrOf st'') (lo+k) (lo+k - (lo+l))) i<=R ρ (bubble (arrOf st'') (lo+k) (lo+k - (lo+l))) j;rw[ql hks (by omega),ql hks (by omega),show lo+k - (lo+k - (lo+l))=lo+l by omega]
   have hlo':∀ i,lo<=i->i < lo+l->R ρ (arrOf st'') i<=R ρ (arrOf st'') (lo+k):=λi h1 h2=>by
    have:=hlo (i - lo) (by omega);rwa [show lo+(i - lo)=i by omega] at this
   have hhi':∀ i,lo+l<=i->i < lo+k->R ρ (arrOf st'') (lo+k) < R ρ (arrOf st'') i:=λi h1 h2=>by
    have:=hhi (i - lo) (by omega) (by omega);rwa [show lo+(i - lo)=i by omega] at this
   repeat' split
   all_goals first
    | (exfalso;omega)
    | exact Nat.le_refl _
    | exact hlo' _ (by omega) (by omega)
    | exact Nat.le_of_lt (hhi' _ (by omega) (by omega))
    | exact hs' _ _ (by omega) (by omega) (by omega)
def bI:Bool->Keyed->Array Keyed->Nat->Nat->Nat->StateT SortSt Sem (Option Nat):=sortPriv% PySem.Builtin.gallop
def dL (left:Bool)(key:Keyed)(arr:Array Keyed)(base i:Nat):StateT SortSt Sem (Option Bool):=do
 let x <- elem' arr (base+i)
 if left then lt' x key else return (<- lt' key x).map (!·)
theorem sE (left:Bool)(key:Keyed)(arr:Array Keyed)(base n hint:Nat):bI left key arr base n hint=(do
 let mut lastofs:=0
 let mut ofs:=1
 let mut lo:=0
 let mut hi:=0
 let some right <- dL left key arr base hint|return none
 if right then
  let maxofs:=n - hint
  for _ in [0:n] do
   if ofs>=maxofs then break
   let some more <- dL left key arr base (hint+ofs)|return none
   if !more then break
   lastofs:=ofs
   ofs:=2*ofs+1
  lo:=hint+lastofs+1
  hi:=hint+min ofs maxofs
 else
  let maxofs:=hint+1
  for _ in [0:n] do
   if ofs>=maxofs then break
   let some found <- dL left key arr base (hint - ofs)|return none
   if found then break
   lastofs:=ofs
   ofs:=2*ofs+1
  lo:=hint+1 - min ofs maxofs
  hi:=hint - lastofs
 for _ in [0:n] do
  if lo>=hi then break
  let m:=lo+(hi - lo) / 2
  let some more <- dL left key arr base m|return none
  if more then lo:=m+1 else hi:=m
 return some hi):=rfl
end
end Vs

namespace Vs
open PySem PyProof.Rows
section
variable {M:Model}{A:Around}{E:Value->Shared->Prop}{s:Shared}{ρ:Keyed->Nat}{kd:SortKind}{P:Keyed->Prop}{a₀:Array Keyed}
def Qs (left:Bool)(key:Keyed)(arr:Array Keyed)(base n l h:Nat):StateT SortSt Sem (Option Nat):=do
 let mut lo:=l
 let mut hi:=h
 for _ in [0:n] do
  if lo>=hi then break
  let m:=lo+(hi - lo) / 2
  let some more <- dL left key arr base m|return none
  if more then lo:=m+1 else hi:=m
 return some hi
def xb (M:Model)(A:Around)(E:Value->Shared->Prop)(s:Shared)(left:Bool)(key:Keyed)(arr:Array Keyed)(base n:Nat)(st:SortSt)(p:Nat->Bool):Prop :=
 ∀ i,i < n->∀ Q:Option Bool->SortSt->Prop,Q (some (p i)) st->wpS M A E s (dL left key arr base i) Q st
theorem qr {left:Bool}{key:Keyed}{arr:Array Keyed}{base n l h:Nat}{st:SortSt}{p:Nat->Bool}{Q:Option Nat->SortSt->Prop}(hT:xb M A E s left key arr base n st p)(hp:∀ i j,i<=j->j < n->p j=true->p i=true)
  (hlh:l<=h) (hh:h<=n) (h1:∀ i,i < l->p i=true) (h2:∀ i,h<=i->i < n->p i=false)
  (q:∀ k,k<=n->(∀ i,i < k->p i=true)->(∀ i,k<=i->i < n->p i=false)->Q (some k) st):wpS M A E s (Qs left key arr base n l h) Q st:=by
 unfold Qs;dsimp only;refine wpS_bind (wpS_mono (wpS_forRange (I:=λx c st'=>st'=st/\∃ l h,c=(none,l,h)/\l<=h/\h<=n/\h - l<=n - x/\(∀ i,i < l->p i=true)/\(∀ i,h<=i->i < n->p i=false))
  (Q:=λc st'=>st'=st/\∃ k,c=(none,k,k)/\k<=n/\(∀ i,i < k->p i=true)/\(∀ i,k<=i->i < n->p i=false)) ?step ?fin ⟨rfl,l,h,rfl,hlh,hh,by omega,h1,h2⟩) ?post)
 case post =>
  rintro c st' ⟨rfl,k,rfl,hk,q1,q2⟩;exact wpS_pure (q k hk q1 q2)
 case fin =>
  rintro c st' ⟨rfl,l,h,rfl,a1,a2,a3,a4,a5⟩;have:l=h:=by omega
  subst this;exact⟨rfl,l,rfl,a2,a4,a5⟩
 case step =>
  rintro x c st' _ hx ⟨rfl,l,h,rfl,a1,a2,a3,a4,a5⟩;dsimp only
  by_cases hge:l>=h
  ·rw[if_pos hge]
   have:l=h:=by omega
   subst this;exact wpS_pure ⟨rfl,l,rfl,a2,a4,a5⟩
  ·rw[if_neg hge]
   refine wpS_bind (hT _ (by omega) _ ?_)
   cases hm:p (l+(h - l) / 2) with
   | true =>
    simp only[if_true];exact wpS_pure ⟨rfl,_,_,rfl,by omega,a2,by omega,λi hi=>hp i _ (by omega) (by omega) hm,a5⟩
   | false =>
    simp only[Bool.false_eq_true,if_false];refine wpS_pure ⟨rfl,_,_,rfl,by omega,by omega,by omega,a4,λi hi hn=>?_⟩
    cases e:p i with
    | false=>rfl
    | true=>rw[hp _ i hi hn e] at hm;cases hm
theorem cm {left:Bool}{key:Keyed}{arr:Array Keyed}{base n hint:Nat}{st:SortSt}{p:Nat->Bool}{Q:Option Nat->SortSt->Prop}(hT:xb M A E s left key arr base n st p)(hp:∀ i j,i<=j->j < n->p j=true->p i=true)(hn:hint < n)
  (q:∀ k,k<=n->(∀ i,i < k->p i=true)->(∀ i,k<=i->i < n->p i=false)->Q (some k) st):wpS M A E s (bI left key arr base n hint) Q st:=by
 rw[sE];dsimp only;refine wpS_bind (hT hint hn _ ?_);have pf:∀ i j,i<=j->j < n->p i=false->p j=false:=λi j h1 h2 h3=>by
  cases e:p j with
  | false=>rfl
  | true=>rw[hp i j h1 h2 e] at h3;cases h3
 cases h0:p hint with
 | true =>
  dsimp only;rw[if_pos rfl];refine wpS_bind (wpS_mono (wpS_forRange (I:=λx c st'=>st'=st/\∃ l o,c=(none,l,o)/\l < o/\x+1<=o/\hint+l < n/\p (hint+l)=true)
   (Q:=λc st'=>st'=st/\∃ l o,c=(none,l,o)/\l < o/\hint+l < n/\p (hint+l)=true/\(n - hint<=o\/(hint+o < n/\p (hint+o)=false))) ?step ?fin ⟨rfl,0,1,rfl,by omega,by omega,hn,h0⟩) ?post)
  case fin =>
   rintro c st' ⟨rfl,l,o,rfl,a1,a2,a3,a4⟩;exact⟨rfl,l,o,rfl,a1,a3,a4,.inl (by omega)⟩
  case step =>
   rintro x c st' _ hx ⟨rfl,l,o,rfl,a1,a2,a3,a4⟩;dsimp only
   by_cases hge:o>=n - hint
   ·rw[if_pos hge]
    exact wpS_pure ⟨rfl,l,o,rfl,a1,a3,a4,.inl hge⟩
   ·rw[if_neg hge]
    refine wpS_bind (hT _ (by omega) _ ?_)
    cases hm:p (hint+o) with
    | true =>
     simp only[Bool.not_true,Bool.false_eq_true,if_false];exact wpS_pure ⟨rfl,_,_,rfl,by omega,by omega,by omega,hm⟩
    | false =>
     simp only[Bool.not_false,if_true];exact wpS_pure ⟨rfl,_,_,rfl,a1,a3,a4,.inr ⟨by omega,hm⟩⟩
  case post =>
   rintro c st' ⟨rfl,l,o,rfl,a1,a3,a4,a5⟩;refine qr (l:=hint+l+1) (h:=hint+min o (n - hint)) hT hp (by omega) (by omega) (λi hi=>hp i _ (by omega) a3 a4) (λi hi hi2=>?_) q
   rcases a5 with a5|⟨a5,a6⟩
   ·omega
   ·exact pf (hint+o) i (by omega) hi2 a6
 | false =>
  dsimp only;rw[if_neg (by decide)]
  refine wpS_bind (wpS_mono (wpS_forRange (I:=λx c st'=>st'=st/\∃ l o,c=(none,l,o)/\l < o/\x+1<=o/\l<=hint/\p (hint - l)=false)
   (Q:=λc st'=>st'=st/\∃ l o,c=(none,l,o)/\l < o/\l<=hint/\p (hint - l)=false/\(hint+1<=o\/(o<=hint/\p (hint - o)=true))) ?step2 ?fin2 ⟨rfl,0,1,rfl,by omega,by omega,by omega,h0⟩) ?post2)
  case fin2 =>
   rintro c st' ⟨rfl,l,o,rfl,a1,a2,a3,a4⟩;exact⟨rfl,l,o,rfl,a1,a3,a4,.inl (by omega)⟩
  case step2 =>
   rintro x c st' _ hx ⟨rfl,l,o,rfl,a1,a2,a3,a4⟩;dsimp only
   by_cases hge:o>=hint+1
   ·rw[if_pos hge]
    exact wpS_pure ⟨rfl,l,o,rfl,a1,a3,a4,.inl hge⟩
   ·rw[if_neg hge]
    refine wpS_bind (hT _ (by omega) _ ?_)
    cases hm:p (hint - o) with
    | true =>
     simp only[if_true];exact wpS_pure ⟨rfl,_,_,rfl,a1,a3,a4,.inr ⟨by omega,hm⟩⟩
    | false =>
     simp only[Bool.false_eq_true,if_false];exact wpS_pure ⟨rfl,_,_,rfl,by omega,by omega,by omega,hm⟩
  case post2 =>
   rintro c st' ⟨rfl,l,o,rfl,a1,a3,a4,a5⟩;refine qr (l:=hint+1 - min o (hint+1)) (h:=hint - l) hT hp (by omega) (by omega) (λi hi=>?_) (λi hi hi2=>pf (hint - l) i hi hi2 a4) q
   rcases a5 with a5|⟨a5,a6⟩
   ·omega
   ·exact hp i (hint - o) (by omega) (by omega) a6
def mf (ρ:Keyed->Nat)(left:Bool)(key:Keyed)(arr:Array Keyed)(base i:Nat):Bool:=if left=true then decide (R ρ arr (base+i) < ρ key) else !decide (ρ key < R ρ arr (base+i))
theorem mh {left:Bool}{key:Keyed}{arr:Array Keyed}{base n:Nat}{st:SortSt}(hL:et M A E s ρ kd P)(hk:kindOf st=kd)(pk:P key)(pa:∀ i,i < n->∃ x,arr[base+i]?=some x/\P x):xb M A E s left key arr base n st (mf ρ left key arr base):=λi hi Q q=>by
 obtain⟨x,e,px⟩:=pa i hi;unfold dL;refine wpS_bind (aI e ?_);unfold mf at q;rw[R_at e] at q;cases left with
 | true =>
  simp only[if_true] at q ⊢;exact hL x key st Q px pk hk q
 | false =>
  simp only[Bool.false_eq_true,if_false] at q ⊢;exact wpS_bind (hL key x st _ pk px hk (wpS_pure q))
end
end Vs

namespace Vs
open PySem PyProof.Rows
def ku:Array Keyed->Array Keyed->StateT SortSt Sem (Array Keyed):=sortPriv% PySem.Builtin.mergeLo
def kx:Array Keyed->Array Keyed->StateT SortSt Sem (Array Keyed):=sortPriv% PySem.Builtin.mergeHi
def df:Nat->StateT SortSt Sem Unit:=sortPriv% PySem.Builtin.setMinGallop
theorem cN (g:Nat):df g=modify (λst=>SortSt.mk' (kindOf st) (arrOf st) (pendingOf st) g (failedOf st)):=rfl
def So (ρ:Keyed->Nat)(l:List Keyed):Prop:=l.Pairwise λx y=>ρ x<=ρ y
structure J (ρ:Keyed->Nat)(L O A B:List Keyed):Prop where
 o:So ρ O
 a:So ρ A
 b:So ρ B
 oa:∀ x∈O,∀ y∈A,ρ x<=ρ y
 ob:∀ x∈O,∀ y∈B,ρ x<=ρ y
 p:(O++(A++B)).Perm L
def Good (ρ:Keyed->Nat)(L r:List Keyed):Prop:=So ρ r/\r.Perm L
theorem So.app {ρ:Keyed->Nat}{A B:List Keyed}(h1:So ρ A)(h2:So ρ B)(h:∀ x∈A,∀ y∈B,ρ x<=ρ y):So ρ (A++B):=List.pairwise_append.mpr ⟨h1,h2,h⟩
section
variable {ρ:Keyed->Nat}{L O A B X:List Keyed}{x z:Keyed}
theorem J.manyA (j:J ρ L O (X++A) B)(h:∀ x∈X,∀ y∈B,ρ x<=ρ y):J ρ L (O++X) A B:=by
 obtain⟨a1,a2,a3⟩:=List.pairwise_append.mp j.a;refine⟨j.o.app a1 λx hx y hy=>j.oa x hx y (List.mem_append_left _ hy),a2,j.b,λx hx y hy=>?_,λx hx y hy=>?_,?_⟩
 ·rcases List.mem_append.mp hx with hx|hx
  ·exact j.oa x hx y (List.mem_append_right _ hy)
  ·exact a3 x hx y hy
 ·rcases List.mem_append.mp hx with hx|hx
  ·exact j.ob x hx y hy
  ·exact h x hx y hy
 ·have:=j.p
  simpa [List.append_assoc] using this
theorem J.manyB (j:J ρ L O A (X++B))(h:∀ x∈X,∀ y∈A,ρ x<=ρ y):J ρ L (O++X) A B:=by
 obtain⟨a1,a2,a3⟩:=List.pairwise_append.mp j.b;refine⟨j.o.app a1 λx hx y hy=>j.ob x hx y (List.mem_append_left _ hy),j.a,a2,λx hx y hy=>?_,λx hx y hy=>?_,?_⟩
 ·rcases List.mem_append.mp hx with hx|hx
  ·exact j.oa x hx y hy
  ·exact h x hx y hy
 ·rcases List.mem_append.mp hx with hx|hx
  ·exact j.ob x hx y (List.mem_append_right _ hy)
  ·exact a3 x hx y hy
 ·refine List.Perm.trans ?_ j.p
  rw[List.append_assoc];refine List.Perm.append_left O ?_;rw[<- List.append_assoc,<- List.append_assoc];exact List.Perm.append_right B List.perm_append_comm
theorem J.doneB (j:J ρ L O A []):Good ρ L (O++A):=⟨j.o.app j.a j.oa,by simpa using j.p⟩
theorem J.doneA (j:J ρ L O [] B):Good ρ L (O++B):=⟨j.o.app j.b j.ob,by simpa using j.p⟩
theorem J.last (j:J ρ L O [z] B)(h:∀ y∈B,ρ y<=ρ z):Good ρ L (O++B++[z]):=by
 refine⟨(j.o.app j.b j.ob).app (List.pairwise_singleton ..) λx hx y hy=>?_,?_⟩
 ·rw[List.mem_singleton.mp hy]
  rcases List.mem_append.mp hx with hx|hx
  ·exact j.oa x hx z (List.mem_singleton.mpr rfl)
  ·exact h x hx
 ·refine List.Perm.trans ?_ j.p
  rw[List.append_assoc];exact List.Perm.append_left O List.perm_append_comm
end
theorem gf {a:Array Keyed}{i:Nat}{x:Keyed}(h:a[i]?=some x):a.toList.drop i=x::a.toList.drop (i+1):=by
 have hi:i < a.toList.length:=by
  have:=(Array.getElem?_eq_some_iff.mp h).1;simpa using this
 rw[List.drop_eq_getElem_cons hi];have:a.toList[i]=x:=by
  have:=(Array.getElem?_eq_some_iff.mp h).2;simpa using this
 rw[this]
theorem iB (a:Array Keyed)(i:Nat):(a.extract i a.size).toList=a.toList.drop i:=by
 rw[Array.toList_extract];show (a.toList.drop i).take (a.size - i)=_;exact List.take_of_length_le (by rw[List.length_drop];exact Nat.le_refl _)
theorem jx (a:Array Keyed)(i k:Nat):(a.extract i (i+k)).toList=(a.toList.drop i).take k:=by
 rw[Array.toList_extract];show (a.toList.drop i).take (i+k - i)=_;rw[Nat.add_sub_cancel_left]
theorem qt (a:Array Keyed)(i k:Nat):a.toList.drop i=(a.toList.drop i).take k++a.toList.drop (i+k):=by
 rw[<- List.drop_drop,List.take_append_drop]
theorem ky {a:Array Keyed}{i:Nat}(h:i=a.size):a.toList.drop i=[]:=by
 subst h;exact List.drop_length
theorem jc {a:Array Keyed}{i k:Nat}{x:Keyed}(h:x∈(a.toList.drop i).take k):∃ m,m < k/\i+m < a.size/\a[i+m]?=some x:=by
 obtain⟨m,hm,e⟩:=List.mem_iff_getElem.mp h;rw[List.length_take,List.length_drop] at hm;rw[List.getElem_take,List.getElem_drop] at e;have hs:i+m < a.size:=by have:a.toList.length=a.size:=rfl;omega
 exact⟨m,by omega,hs,by rw[Array.getElem?_eq_getElem hs];exact congrArg some (by simpa using e)⟩
theorem xc {a:Array Keyed}{i:Nat}{x:Keyed}(h:x∈a.toList.drop i):∃ m,i<=m/\m < a.size/\a[m]?=some x:=by
 obtain⟨m,hm,e⟩:=List.mem_iff_getElem.mp h;rw[List.length_drop] at hm;rw[List.getElem_drop] at e;have hs:i+m < a.size:=by have:a.toList.length=a.size:=rfl;omega
 exact⟨i+m,by omega,hs,by rw[Array.getElem?_eq_getElem hs];exact congrArg some (by simpa using e)⟩
theorem So.seg {ρ:Keyed->Nat}{a:Array Keyed}(h:So ρ a.toList):Seg ρ a 0 a.size:=λi j _ hij hj=>by
 by_cases e:i=j
 ·subst e;exact Nat.le_refl _
 ·have hi:i < a.size:=by omega
  rw[R_at (Array.getElem?_eq_getElem hi),R_at (Array.getElem?_eq_getElem hj)];have:=List.pairwise_iff_getElem.mp h i j (by simpa using hi) (by simpa using hj) (by omega)
  simpa using this
structure Kp (st st':SortSt):Prop where
 a:arrOf st'=arrOf st
 k:kindOf st'=kindOf st
 p:pendingOf st'=pendingOf st
 f:failedOf st'=failedOf st
theorem Kp.refl {st:SortSt}:Kp st st:=⟨rfl,rfl,rfl,rfl⟩
theorem Kp.min {st st':SortSt}(h:Kp st st')(g:Nat):Kp st (SortSt.mk' (kindOf st') (arrOf st') (pendingOf st') g (failedOf st')):=⟨h.a,h.k,h.p,h.f⟩
section
variable {M:Model}{A:Around}{E:Value->Shared->Prop}{s:Shared}{ρ:Keyed->Nat}{kd:SortKind}{P:Keyed->Prop}
theorem ck {a:Array Keyed}(pa:∀ x∈a.toList,P x){i:Nat}(h:i < a.size):∃ x,a[i]?=some x/\P x :=
 ⟨a[i],Array.getElem?_eq_getElem h,pa _ (by simp)⟩
theorem xf {key:Keyed}{arr:Array Keyed}{base:Nat}{st:SortSt}{Q:Option Nat->SortSt->Prop}(hL:et M A E s ρ kd P)(hk:kindOf st=kd)(pk:P key)(pa:∀ x∈arr.toList,P x)(hs:So ρ arr.toList)(hb:base < arr.size)
  (q:∀ k,base+k<=arr.size->(∀ x∈(arr.toList.drop base).take k,ρ x<=ρ key)->(∀ x∈arr.toList.drop (base+k),ρ key < ρ x)->Q (some k) st):wpS M A E s (bI false key arr base (arr.size - base) 0) Q st:=by
 refine cm (mh hL hk pk λi hi=>ck pa (by omega)) (λi j hij hj h=>?_) (by omega) λk hk1 h1 h2=>q k (by omega) (λx hx=>?_) λx hx=>?_
 ·have:=hs.seg (base+i) (base+j) (Nat.zero_le _) (by omega) (by omega)
  simp only[mf,Bool.false_eq_true,if_false,Bool.not_eq_true',decide_eq_false_iff_not] at h ⊢;omega
 ·obtain⟨m,hm,hm2,e⟩:=jc hx
  have:=h1 m hm;simp only[mf,Bool.false_eq_true,if_false,Bool.not_eq_true',decide_eq_false_iff_not,R_at e] at this;omega
 ·obtain⟨m,hm,hm2,e⟩:=xc hx
  have:=h2 (m - base) (by omega) (by omega)
  rw[show base+k=base+k from rfl] at hm
  simp only[mf,Bool.false_eq_true,if_false,show base+(m - base)=m by omega,R_at e,Bool.not_eq_false',decide_eq_true_eq] at this
  exact this
theorem xg {key:Keyed}{arr:Array Keyed}{base:Nat}{st:SortSt}{Q:Option Nat->SortSt->Prop}(hL:et M A E s ρ kd P)(hk:kindOf st=kd)(pk:P key)(pa:∀ x∈arr.toList,P x)(hs:So ρ arr.toList)(hb:base < arr.size)
  (q:∀ k,base+k<=arr.size->(∀ x∈(arr.toList.drop base).take k,ρ x < ρ key)->(∀ x∈arr.toList.drop (base+k),ρ key<=ρ x)->Q (some k) st):wpS M A E s (bI true key arr base (arr.size - base) 0) Q st:=by
 refine cm (mh hL hk pk λi hi=>ck pa (by omega)) (λi j hij hj h=>?_) (by omega) λk hk1 h1 h2=>q k (by omega) (λx hx=>?_) λx hx=>?_
 ·have:=hs.seg (base+i) (base+j) (Nat.zero_le _) (by omega) (by omega)
  simp only[mf,if_true,decide_eq_true_eq] at h ⊢;omega
 ·obtain⟨m,hm,hm2,e⟩:=jc hx
  have:=h1 m hm;simp only[mf,if_true,decide_eq_true_eq,R_at e] at this;omega
 ·obtain⟨m,hm,hm2,e⟩:=xc hx
  have:=h2 (m - base) (by omega) (by omega)
  simp only[mf,if_true,show base+(m - base)=m by omega,R_at e,decide_eq_false_iff_not] at this
  omega
end
end Vs

namespace Vs
open PySem PyProof.Rows
section
variable {M:Model}{Ar:Around}{E:Value->Shared->Prop}{s:Shared}{ρ:Keyed->Nat}{kd:SortKind}{P:Keyed->Prop}{a b out:Array Keyed}{L:List Keyed}{ia ib:Nat}
abbrev GS:=Option (Array Keyed)×Array Keyed×Nat×Nat×Nat×Nat×Nat
def Eg (a b out:Array Keyed)(ia ib g k k1:Nat):StateT SortSt Sem (ForInStep GS):=do
 let y <- elem' a ia
 if (ia+1+1==a.size)=true then pure (ForInStep.done (some (out.push y++b.extract ib b.size++a.extract (ia+1) a.size),out.push y,ia+1,ib,g,k,k1))
 else if (decide (k < 7)&&decide (k1 < 7))=true then pure (ForInStep.done (none,out.push y,ia+1,ib,g,k,k1))
 else pure (ForInStep.yield (none,out.push y,ia+1,ib,g,k,k1))
def Eh (a b out:Array Keyed)(ia ib g k bc:Nat):StateT SortSt Sem (ForInStep GS):=do
 let x <- elem' b ib
 if (ib+1==b.size)=true then pure (ForInStep.done (some (out.push x++a.extract ia a.size++b.extract (ib+1) b.size),out.push x,ia,ib+1,g,k,bc))
 else do
  let y <- elem' a ia
  let r <- bI true y b (ib+1) (b.size - (ib+1)) 0
  match r with
  | some k1 =>
   if k1 > 0 then
    if (ib+1+k1==b.size)=true then pure (ForInStep.done (some (out.push x++b.extract (ib+1) (ib+1+k1)++a.extract ia a.size++b.extract (ib+1+k1) b.size),out.push x++b.extract (ib+1) (ib+1+k1),ia,ib+1+k1,g,k,k1))
    else Eg a b (out.push x++b.extract (ib+1) (ib+1+k1)) ia (ib+1+k1) g k k1
   else Eg a b (out.push x) ia (ib+1) g k k1
  | _=>pure (ForInStep.done (some (out.push x++a.extract ia a.size++b.extract (ib+1) b.size),out.push x,ia,ib+1,g,k,bc))
def Ei (a b out:Array Keyed)(ia ib g ac bc:Nat):StateT SortSt Sem (ForInStep GS):=do
 let x <- elem' b ib
 let r <- bI false x a ia (a.size - ia) 0
 match r with
 | some k =>
  if k > 0 then
   if (ia+k+1==a.size)=true then pure (ForInStep.done (some (out++a.extract ia (ia+k)++b.extract ib b.size++a.extract (ia+k) a.size),out++a.extract ia (ia+k),ia+k,ib,g,k,bc))
   else if (ia+k==a.size)=true then pure (ForInStep.done (some (out++a.extract ia (ia+k)++a.extract (ia+k) a.size++b.extract ib b.size),out++a.extract ia (ia+k),ia+k,ib,g,k,bc))
   else Eh a b (out++a.extract ia (ia+k)) (ia+k) ib g k bc
  else Eh a b out ia ib g k bc
 | _=>pure (ForInStep.done (some (out++a.extract ia a.size++b.extract ib b.size),out,ia,ib,g,ac,bc))
def V (ρ:Keyed->Nat)(L:List Keyed)(a b out:Array Keyed)(ia ib:Nat):Prop:=J ρ L out.toList (a.toList.drop ia) (b.toList.drop ib)
theorem V.lastA (j:V ρ L a b out ia ib)(e:ia+1=a.size)(hz:∀ y∈b.toList,∀ z,a[a.size - 1]?=some z->ρ y<=ρ z):Good ρ L (out++b.extract ib b.size++a.extract ia a.size).toList:=by
 have ha:ia < a.size:=by omega
 have e1:a.toList.drop ia=[a[ia]]:=by rw[gf (Array.getElem?_eq_getElem ha),ky e]
 have j':J ρ L out.toList (a.toList.drop ia) (b.toList.drop ib):=j;rw[e1] at j';rw[Array.toList_append,Array.toList_append,iB,iB,e1];refine j'.last λy hy=>hz y (List.mem_of_mem_drop hy) _ ?_;rw[show a.size - 1=ia by omega];exact Array.getElem?_eq_getElem ha
theorem V.doneB (j:V ρ L a b out ia ib)(e:ib=b.size):Good ρ L (out++a.extract ia a.size++b.extract ib b.size).toList:=by
 have j':J ρ L out.toList (a.toList.drop ia) (b.toList.drop ib):=j;rw[ky e] at j';rw[Array.toList_append,Array.toList_append,iB,iB,ky e,List.append_nil];exact j'.doneB
theorem V.doneA (j:V ρ L a b out ia ib)(e:ia=a.size):Good ρ L (out++a.extract ia a.size++b.extract ib b.size).toList:=by
 have j':J ρ L out.toList (a.toList.drop ia) (b.toList.drop ib):=j;rw[ky e] at j';rw[Array.toList_append,Array.toList_append,iB,iB,ky e,List.append_nil];exact j'.doneA
theorem V.pushA {x:Keyed}(j:V ρ L a b out ia ib)(e:a[ia]?=some x)(h:∀ y∈b.toList.drop ib,ρ x<=ρ y):V ρ L a b (out.push x) (ia+1) ib:=by
 have j':J ρ L out.toList (a.toList.drop ia) (b.toList.drop ib):=j;rw[gf e] at j';show J ρ L (out.push x).toList _ _;rw[Array.toList_push];exact J.manyA (X:=[x]) j' λz hz y hy=>by rw[List.mem_singleton.mp hz];exact h y hy
theorem V.pushB {x:Keyed}(j:V ρ L a b out ia ib)(e:b[ib]?=some x)(h:∀ y∈a.toList.drop ia,ρ x<=ρ y):V ρ L a b (out.push x) ia (ib+1):=by
 have j':J ρ L out.toList (a.toList.drop ia) (b.toList.drop ib):=j;rw[gf e] at j';show J ρ L (out.push x).toList _ _;rw[Array.toList_push];exact J.manyB (X:=[x]) j' λz hz y hy=>by rw[List.mem_singleton.mp hz];exact h y hy
theorem V.manyA {k:Nat}(j:V ρ L a b out ia ib)(h:∀ x∈(a.toList.drop ia).take k,∀ y∈b.toList.drop ib,ρ x<=ρ y):V ρ L a b (out++a.extract ia (ia+k)) (ia+k) ib:=by
 have j':J ρ L out.toList (a.toList.drop ia) (b.toList.drop ib):=j;rw[qt a ia k] at j';show J ρ L (out++a.extract ia (ia+k)).toList _ _;rw[Array.toList_append,jx];exact J.manyA j' h
theorem V.manyB {k:Nat}(j:V ρ L a b out ia ib)(h:∀ x∈(b.toList.drop ib).take k,∀ y∈a.toList.drop ia,ρ x<=ρ y):V ρ L a b (out++b.extract ib (ib+k)) ia (ib+k):=by
 have j':J ρ L out.toList (a.toList.drop ia) (b.toList.drop ib):=j;rw[qt b ib k] at j';show J ρ L (out++b.extract ib (ib+k)).toList _ _;rw[Array.toList_append,jx];exact J.manyB j' h
theorem V.headA {x:Keyed}(j:V ρ L a b out ia ib)(e:a[ia]?=some x):∀ y∈a.toList.drop ia,ρ x<=ρ y:=λy hy=>by
 have:=j.a;rw[gf e] at this hy;rcases List.mem_cons.mp hy with rfl|hy
 ·exact Nat.le_refl _
 ·exact (List.pairwise_cons.mp this).1 y hy
theorem V.headB {x:Keyed}(j:V ρ L a b out ia ib)(e:b[ib]?=some x):∀ y∈b.toList.drop ib,ρ x<=ρ y:=λy hy=>by
 have:=j.b;rw[gf e] at this hy;rcases List.mem_cons.mp hy with rfl|hy
 ·exact Nat.le_refl _
 ·exact (List.pairwise_cons.mp this).1 y hy
def fG (ρ:Keyed->Nat)(L:List Keyed)(a b:Array Keyed)(t:Nat)(out:Array Keyed)(ia ib:Nat):Prop:=V ρ L a b out ia ib/\ia+1 < a.size/\ib < b.size/\t<=ia+ib
def PG (ρ:Keyed->Nat)(L:List Keyed)(a b:Array Keyed)(t:Nat)(st0:SortSt)(r:ForInStep GS)(st:SortSt):Prop:=Kp st0 st/\match r with
 | .done c=>(∃ arr,c.1=some arr/\Good ρ L arr.toList)\/(c.1=none/\fG ρ L a b t c.2.1 c.2.2.1 c.2.2.2.1)
 | .yield c=>c.1=none/\fG ρ L a b t c.2.1 c.2.2.1 c.2.2.2.1
structure Two (ρ:Keyed->Nat)(P:Keyed->Prop)(a b:Array Keyed):Prop where
 pa:∀ x∈a.toList,P x
 pb:∀ x∈b.toList,P x
 sa:So ρ a.toList
 sb:So ρ b.toList
 a1:1<=a.size
 b1:1<=b.size
 z:∀ y∈b.toList,∀ z,a[a.size - 1]?=some z->ρ y<=ρ z
 y:∀ y∈a.toList,∀ z,b[0]?=some z->ρ z<=ρ y
theorem qu {st st0:SortSt}{g k k1 t:Nat}(T:Two ρ P a b)(hK:Kp st0 st)(j:V ρ L a b out ia ib)(h1:ia+1 < a.size)(h2:ib < b.size)(ht:t<=ia+ib)
  (h:∀ x,a[ia]?=some x->∀ y∈b.toList.drop ib,ρ x<=ρ y):wpS M Ar E s (Eg a b out ia ib g k k1) (PG ρ L a b t st0) st:=by
 unfold Eg;obtain⟨y,ey,py⟩:=ck T.pa (show ia < a.size by omega)
 refine wpS_bind (aI ey ?_);have j':=j.pushA ey (h y ey)
 by_cases e:ia+1+1=a.size
 ·rw[if_pos (by simpa using e)]
  exact wpS_pure ⟨hK,.inl ⟨_,rfl,j'.lastA e T.z⟩⟩
 ·rw[if_neg (by simpa using e)]
  split
  ·exact wpS_pure ⟨hK,.inr ⟨rfl,j',by show ia+1+1 < a.size;omega,h2,by show t<=ia+1+ib;omega⟩⟩
  ·exact wpS_pure ⟨hK,rfl,j',by show ia+1+1 < a.size;omega,h2,by show t<=ia+1+ib;omega⟩
theorem qv {st st0:SortSt}{g k bc t:Nat}(hL:et M Ar E s ρ kd P)(hk:kindOf st0=kd)(T:Two ρ P a b)(hK:Kp st0 st)(j:V ρ L a b out ia ib)(h1:ia+1 < a.size)(h2:ib < b.size)(ht:t<=ia+ib)
  (h:∀ x,b[ib]?=some x->∀ y∈a.toList.drop ia,ρ x<=ρ y):wpS M Ar E s (Eh a b out ia ib g k bc) (PG ρ L a b t st0) st:=by
 unfold Eh;obtain⟨x,ex,px⟩:=ck T.pb h2;obtain⟨y,ey,py⟩:=ck T.pa (show ia < a.size by omega)
 refine wpS_bind (aI ex ?_);have j':=j.pushB ex (h x ex)
 by_cases e:ib+1=b.size
 ·rw[if_pos (by simpa using e)]
  exact wpS_pure ⟨hK,.inl ⟨_,rfl,j'.doneB e⟩⟩
 ·rw[if_neg (by simpa using e)]
  refine wpS_bind (aI ey ?_);refine wpS_bind (xg hL (hK.k.trans hk) py T.pb T.sb (by omega) λk1 hk1 q1 q2=>?_)
  dsimp only;have j2:=j'.manyB (k:=k1) λx hx z hz=>Nat.le_trans (Nat.le_of_lt (q1 x hx)) (j'.headA ey z hz)
  by_cases hk0:k1 > 0
  ·rw[if_pos hk0]
   by_cases e2:ib+1+k1=b.size
   ·rw[if_pos (by simpa using e2)]
    exact wpS_pure ⟨hK,.inl ⟨_,rfl,j2.doneB e2⟩⟩
   ·rw[if_neg (by simpa using e2)]
    exact qu T hK j2 h1 (by omega) (by omega) λx' ex' z hz=>by rw[ey] at ex';cases ex';exact q2 z hz
  ·rw[if_neg hk0]
   have:k1=0:=by omega
   subst this;exact qu T hK j' h1 (by omega) (by omega) λx' ex' z hz=>by rw[ey] at ex';cases ex';exact q2 z hz
theorem qw {st st0:SortSt}{g ac bc t:Nat}(hL:et M Ar E s ρ kd P)(hk:kindOf st0=kd)(T:Two ρ P a b)(hK:Kp st0 st)(j:fG ρ L a b t out ia ib):wpS M Ar E s (Ei a b out ia ib g ac bc) (PG ρ L a b t st0) st:=by
 obtain⟨j,h1,h2,ht⟩:=j;unfold Ei;obtain⟨x,ex,px⟩:=ck T.pb h2;refine wpS_bind (aI ex ?_);refine wpS_bind (xf hL (hK.k.trans hk) px T.pa T.sa (by omega) λk hk1 q1 q2=>?_)
 dsimp only;have j2:=j.manyA (k:=k) λz hz y hy=>Nat.le_trans (q1 z hz) (j.headB ex y hy)
 by_cases hk0:k > 0
 ·rw[if_pos hk0]
  by_cases e:ia+k+1=a.size
  ·rw[if_pos (by simpa using e)]
   exact wpS_pure ⟨hK,.inl ⟨_,rfl,j2.lastA e T.z⟩⟩
  ·rw[if_neg (by simpa using e)]
   by_cases e2:ia+k=a.size
   ·rw[if_pos (by simpa using e2)]
    exact wpS_pure ⟨hK,.inl ⟨_,rfl,j2.doneA e2⟩⟩
   ·rw[if_neg (by simpa using e2)]
    exact qv hL hk T hK j2 (by omega) h2 (by omega) λx' ex' z hz=>by rw[ex] at ex';cases ex';exact Nat.le_of_lt (q2 z hz)
 ·rw[if_neg hk0]
  have:k=0:=by omega
  subst this;exact qv hL hk T hK j h1 h2 ht λx' ex' z hz=>by rw[ex] at ex';cases ex';exact Nat.le_of_lt (q2 z hz)
abbrev IS:=Option (Array Keyed)×Array Keyed×Nat×Nat×Nat×Nat
abbrev OS:=Option (Array Keyed)×Array Keyed×Nat×Nat×Nat
def US (a b:Array Keyed)(g:Nat)(c:IS):StateT SortSt Sem (ForInStep IS):=do
 let x <- elem' b c.2.2.2.1
 let y <- elem' a c.2.2.1
 let r <- lt' x y
 match r with
 | some w =>
  if w=true then do
   let x <- elem' b c.2.2.2.1
   if (c.2.2.2.1+1==b.size)=true then pure (ForInStep.done (some (c.2.1.push x++a.extract c.2.2.1 a.size++b.extract (c.2.2.2.1+1) b.size),c.2.1.push x,c.2.2.1,c.2.2.2.1+1,0,c.2.2.2.2.2+1))
   else if c.2.2.2.2.2+1>=g then pure (ForInStep.done (none,c.2.1.push x,c.2.2.1,c.2.2.2.1+1,0,c.2.2.2.2.2+1))
   else pure (ForInStep.yield (none,c.2.1.push x,c.2.2.1,c.2.2.2.1+1,0,c.2.2.2.2.2+1))
  else do
   let y <- elem' a c.2.2.1
   if (c.2.2.1+1+1==a.size)=true then pure (ForInStep.done (some (c.2.1.push y++b.extract c.2.2.2.1 b.size++a.extract (c.2.2.1+1) a.size),c.2.1.push y,c.2.2.1+1,c.2.2.2.1,c.2.2.2.2.1+1,0))
   else if c.2.2.2.2.1+1>=g then pure (ForInStep.done (none,c.2.1.push y,c.2.2.1+1,c.2.2.2.1,c.2.2.2.2.1+1,0))
   else pure (ForInStep.yield (none,c.2.1.push y,c.2.2.1+1,c.2.2.2.1,c.2.2.2.2.1+1,0))
 | _=>pure (ForInStep.done (some (c.2.1++a.extract c.2.2.1 a.size++b.extract c.2.2.2.1 b.size),c.2.1,c.2.2.1,c.2.2.2.1,c.2.2.2.2.1,c.2.2.2.2.2))
def UT (a b:Array Keyed)(c:GS):StateT SortSt Sem (ForInStep GS) :=
 if c.2.2.2.2.1 > 1 then do
  df (c.2.2.2.2.1 - 1)
  Ei a b c.2.1 c.2.2.1 c.2.2.2.1 (c.2.2.2.2.1 - 1) c.2.2.2.2.2.1 c.2.2.2.2.2.2
 else do
  df c.2.2.2.2.1
  Ei a b c.2.1 c.2.2.1 c.2.2.2.1 c.2.2.2.2.1 c.2.2.2.2.2.1 c.2.2.2.2.2.2
def VL (r:GS):StateT SortSt Sem (ForInStep OS) :=
 match r.1 with
 | some arr=>pure (ForInStep.done (some arr,r.2.1,r.2.2.1,r.2.2.2.1,r.2.2.2.2.1))
 | none=>do
  df (r.2.2.2.2.1+1)
  pure (ForInStep.yield (none,r.2.1,r.2.2.1,r.2.2.2.1,r.2.2.2.2.1+1))
def UU (a b:Array Keyed)(g:Nat)(r:IS):StateT SortSt Sem (ForInStep OS) :=
 match r.1 with
 | some arr=>pure (ForInStep.done (some arr,r.2.1,r.2.2.1,r.2.2.2.1,g))
 | none=>do
  liftM (rule "list.sort.gallop")
  let r2 <- forIn [0:a.size+b.size] ((none,r.2.1,r.2.2.1,r.2.2.2.1,g+1,r.2.2.2.2.1,r.2.2.2.2.2):GS) λ_ t=>UT a b t
  VL r2
def UV (a b:Array Keyed)(c:OS):StateT SortSt Sem (ForInStep OS):=do
 let r <- forIn [0:a.size+b.size] ((none,c.2.1,c.2.2.1,c.2.2.2.1,0,0):IS) λ_ r=>US a b c.2.2.2.2 r
 UU a b c.2.2.2.2 r
def Wa (r:OS):StateT SortSt Sem (Array Keyed) :=
 match r.1 with
 | some arr=>pure arr
 | none=>unsupported "internal:list.sort.merge-bound"
theorem nP (a b:Array Keyed):ku a b=(do
 liftM (rule "list.sort.merge-lo")
 let x <- elem' b 0
 if (1==b.size)=true then pure (#[x]++a.extract 0 a.size++b.extract 1 b.size)
 else if (0+1==a.size)=true then pure (#[x]++b.extract 1 b.size++a.extract 0 a.size)
 else do
  let st <- get
  let r <- forIn [0:a.size+b.size] ((none,#[x],0,1,gallopOf st):OS) λ_ r=>UV a b r
  Wa r):=by kernel_rfl
theorem Ej {st0 st:SortSt}{g n m:Nat}{c:IS}(hL:et M Ar E s ρ kd P)(hk:kindOf st0=kd)(T:Two ρ P a b)(hK:Kp st0 st)(j:fG ρ L a b (n+1+min m 1) c.2.1 c.2.2.1 c.2.2.2.1) :
  wpS M Ar E s (US a b g c) (λr st'=>Kp st0 st'/\match r with
   | .done c=>(∃ arr,c.1=some arr/\Good ρ L arr.toList)\/(c.1=none/\fG ρ L a b (n+1+1) c.2.1 c.2.2.1 c.2.2.2.1)
   | .yield c=>c.1=none/\fG ρ L a b (n+1+min (m+1) 1) c.2.1 c.2.2.1 c.2.2.2.1) st:=by
 obtain⟨ret,out,ia,ib,ac,bc⟩:=c;obtain⟨j,l1,l2,l3⟩:=j;dsimp only at j l1 l2 l3;unfold US;dsimp only;obtain⟨x,ex,px⟩:=ck T.pb l2;obtain⟨y,ey,py⟩:=ck T.pa (show ia < a.size by omega)
 refine wpS_bind (aI ex (wpS_bind (aI ey (wpS_bind (hL x y st _ px py (hK.k.trans hk) ?_)))))
 by_cases hlt:ρ x < ρ y
 ·rw[decide_eq_true hlt]
  refine wpS_bind (aI ex ?_);have j':=j.pushB ex λz hz=>Nat.le_trans (Nat.le_of_lt hlt) (j.headA ey z hz)
  by_cases e:ib+1=b.size
  ·rw[if_pos (by simpa using e)]
   exact wpS_pure ⟨hK,.inl ⟨_,rfl,j'.doneB e⟩⟩
  ·rw[if_neg (by simpa using e)]
   split
   ·exact wpS_pure ⟨hK,.inr ⟨rfl,j',by show ia+1 < a.size;omega,by show ib+1 < b.size;omega,by show n+1+1<=ia+(ib+1);omega⟩⟩
   ·exact wpS_pure ⟨hK,rfl,j',by show ia+1 < a.size;omega,by show ib+1 < b.size;omega,by show n+1+min (m+1) 1<=ia+(ib+1);omega⟩
 ·rw[decide_eq_false hlt]
  refine wpS_bind (aI ey ?_);have j':=j.pushA ey λz hz=>Nat.le_trans (Nat.not_lt.mp hlt) (j.headB ex z hz)
  by_cases e:ia+1+1=a.size
  ·rw[if_pos (by simpa using e)]
   exact wpS_pure ⟨hK,.inl ⟨_,rfl,j'.lastA e T.z⟩⟩
  ·rw[if_neg (by simpa using e)]
   split
   ·exact wpS_pure ⟨hK,.inr ⟨rfl,j',by show ia+1+1 < a.size;omega,by show ib < b.size;omega,by show n+1+1<=ia+1+ib;omega⟩⟩
   ·exact wpS_pure ⟨hK,rfl,j',by show ia+1+1 < a.size;omega,by show ib < b.size;omega,by show n+1+min (m+1) 1<=ia+1+ib;omega⟩
theorem Ek {st0 st:SortSt}{t:Nat}{c:GS}(hL:et M Ar E s ρ kd P)(hk:kindOf st0=kd)(T:Two ρ P a b)(hK:Kp st0 st)(j:fG ρ L a b t c.2.1 c.2.2.1 c.2.2.2.1):wpS M Ar E s (UT a b c) (PG ρ L a b t st0) st:=by
 unfold UT
 split
 ·rw[cN]
  exact wpS_bind (wpS_modify (qw hL hk T (hK.min _) j))
 ·rw[cN]
  exact wpS_bind (wpS_modify (qw hL hk T (hK.min _) j))
def PO (ρ:Keyed->Nat)(L:List Keyed)(a b:Array Keyed)(t:Nat)(st0:SortSt)(r:ForInStep OS)(st:SortSt):Prop:=match r with
 | .done c=>Kp st0 st/\∃ arr,c.1=some arr/\Good ρ L arr.toList
 | .yield c=>Kp st0 st/\c.1=none/\fG ρ L a b t c.2.1 c.2.2.1 c.2.2.2.1
theorem El {st0 st:SortSt}{g n:Nat}{r:IS}(hL:et M Ar E s ρ kd P)(hk:kindOf st0=kd)(T:Two ρ P a b)(hK:Kp st0 st)
  (h:(∃ arr,r.1=some arr/\Good ρ L arr.toList)\/(r.1=none/\fG ρ L a b (n+1+1) r.2.1 r.2.2.1 r.2.2.2.1)):wpS M Ar E s (UU a b g r) (PO ρ L a b (n+1+1) st0) st:=by
 obtain⟨ret,r⟩:=r;unfold UU;rcases h with ⟨arr,h1,h2⟩|⟨h1,hl⟩
 ·dsimp only at h1
  subst h1;exact wpS_pure ⟨hK,arr,rfl,h2⟩
 ·dsimp only at h1 hl
  subst h1;refine wpS_bind (wpS_lift (wpAny_rule ⟨rfl,?_⟩));refine wpS_bind (wpS_mono (wpS_forRange (I:=λx c st'=>Kp st0 st'/\c.1=none/\fG ρ L a b (n+1+1) c.2.1 c.2.2.1 c.2.2.2.1)
   (Q:=λc st'=>Kp st0 st'/\((∃ arr,c.1=some arr/\Good ρ L arr.toList)\/(c.1=none/\fG ρ L a b (n+1+1) c.2.1 c.2.2.1 c.2.2.2.1))) ?gstep ?gfin ⟨hK,rfl,hl⟩) ?gpost)
  case gfin =>
   rintro c st' ⟨hK,h1,hl⟩;exact⟨hK,.inr ⟨h1,hl⟩⟩
  case gstep =>
   rintro m c st' _ hm ⟨hK,h1,hl⟩;refine wpS_mono (Ek hL hk T hK hl) λr st'' hr=>?_;obtain⟨k1,k2⟩:=hr;cases r with
   | done c=>exact⟨k1,k2⟩
   | yield c=>exact⟨k1,k2⟩
  case gpost =>
   rintro ⟨ret,r⟩ st' ⟨hK,⟨arr,h1,h2⟩|⟨h1,hl⟩⟩
   ·dsimp only at h1
    subst h1;exact wpS_pure ⟨hK,arr,rfl,h2⟩
   ·dsimp only at h1 hl
    subst h1;unfold VL;rw[cN];exact wpS_bind (wpS_modify (wpS_pure ⟨hK.min _,rfl,hl⟩))
theorem Em {st0 st:SortSt}{n:Nat}{c:OS}(hL:et M Ar E s ρ kd P)(hk:kindOf st0=kd)(T:Two ρ P a b)(hn:0 < a.size+b.size)(hK:Kp st0 st)(hl:fG ρ L a b (n+1) c.2.1 c.2.2.1 c.2.2.2.1):wpS M Ar E s (UV a b c) (PO ρ L a b (n+1+1) st0) st:=by
 unfold UV;refine wpS_bind (wpS_mono (wpS_forRange (I:=λx c st'=>Kp st0 st'/\c.1=none/\fG ρ L a b (n+1+min x 1) c.2.1 c.2.2.1 c.2.2.2.1)
  (Q:=λc st'=>Kp st0 st'/\((∃ arr,c.1=some arr/\Good ρ L arr.toList)\/(c.1=none/\fG ρ L a b (n+1+1) c.2.1 c.2.2.1 c.2.2.2.1))) ?istep ?ifin ⟨hK,rfl,by simpa using hl⟩) ?ipost)
 case ifin =>
  rintro c st' ⟨hK,h1,hl⟩;rw[show min (max 0 (a.size+b.size)) 1=1 by omega] at hl
  exact⟨hK,.inr ⟨h1,hl⟩⟩
 case istep =>
  rintro m c st' _ hm ⟨hK,h1,hl⟩;refine wpS_mono (Ej hL hk T hK hl) λr st'' hr=>?_;obtain⟨k1,k2⟩:=hr;cases r with
  | done c=>exact⟨k1,k2⟩
  | yield c=>exact⟨k1,k2⟩
 case ipost =>
  rintro r st' ⟨hK,h⟩;exact El hL hk T hK h
theorem qy {st:SortSt}{Q:Array Keyed->SortSt->Prop}(hL:et M Ar E s ρ kd P)(hk:kindOf st=kd)(T:Two ρ P a b)
  (q:∀ r st',Kp st st'->Good ρ (a.toList++b.toList) r.toList->Q r st'):wpS M Ar E s (ku a b) Q st:=by
 rw[nP];refine wpS_bind (wpS_lift (wpAny_rule ⟨rfl,?_⟩));obtain⟨x,ex,px⟩:=ck T.pb (show 0 < b.size from T.b1)
 refine wpS_bind (aI ex ?_);have j0:V ρ (a.toList++b.toList) a b #[] 0 0:=⟨List.Pairwise.nil,by simpa using T.sa,by simpa using T.sb,(λx hx=>by cases hx),(λx hx=>by cases hx),by simp⟩
 have j1:V ρ (a.toList++b.toList) a b #[x] 0 1:=by simpa using j0.pushB ex λy hy=>T.y y (by simpa using hy) x ex
 by_cases e:1=b.size
 ·rw[if_pos (by simpa using e)]
  exact wpS_pure (q _ st .refl (j1.doneB e))
 ·rw[if_neg (by simpa using e)]
  by_cases e2:0+1=a.size
  ·rw[if_pos (by simpa using e2)]
   exact wpS_pure (q _ st .refl (j1.lastA e2 T.z))
  ·rw[if_neg (by simpa using e2)]
   have b1:=T.b1;have a1:=T.a1;refine wpS_bind (wpS_get ?_);refine wpS_bind (wpS_mono (wpS_forRange (I:=λx c st'=>Kp st st'/\c.1=none/\fG ρ (a.toList++b.toList) a b (x+1) c.2.1 c.2.2.1 c.2.2.2.1)
    (Q:=λc st'=>Kp st st'/\∃ arr,c.1=some arr/\Good ρ (a.toList++b.toList) arr.toList) ?step ?fin ⟨.refl,rfl,j1,by show 0+1 < a.size;omega,by show 1 < b.size;omega,by show 0+1<=0+1;omega⟩) ?post)
   case fin =>
    rintro ⟨ret,out,ia,ib,g⟩ st' ⟨hK,h1,j,h2,h3,h4⟩;dsimp only at h2 h3 h4;omega
   case post =>
    rintro ⟨ret,r⟩ st' ⟨hK,arr,h1,h2⟩;dsimp only at h1;subst h1;exact wpS_pure (q arr st' hK h2)
   case step =>
    rintro n c st' _ hn ⟨hK,h1,hl⟩;refine wpS_mono (Em hL hk T (by omega) hK hl) λr st'' hr=>?_
    cases r with
    | done c=>exact hr
    | yield c=>exact hr
end
end Vs

namespace Vs
open PySem PyProof.Rows
structure H (ρ:Keyed->Nat)(L O A B:List Keyed):Prop where
 o:So ρ O
 a:So ρ A
 b:So ρ B
 oa:∀ x∈A,∀ y∈O,ρ x<=ρ y
 ob:∀ x∈B,∀ y∈O,ρ x<=ρ y
 p:(A++(B++O)).Perm L
section
variable {ρ:Keyed->Nat}{L O A B X:List Keyed}{x z:Keyed}
theorem H.manyB (j:H ρ L O A (B++X))(h:∀ x∈X,∀ y∈A,ρ y<=ρ x):H ρ L (X++O) A B:=by
 obtain⟨a1,a2,a3⟩:=List.pairwise_append.mp j.b;refine⟨So.app a2 j.o λx hx y hy=>j.ob x (List.mem_append_right _ hx) y hy,j.a,a1,λx hx y hy=>?_,λx hx y hy=>?_,?_⟩
 ·rcases List.mem_append.mp hy with hy|hy
  ·exact h y hy x hx
  ·exact j.oa x hx y hy
 ·rcases List.mem_append.mp hy with hy|hy
  ·exact a3 x hx y hy
  ·exact j.ob x (List.mem_append_left _ hx) y hy
 ·have:=j.p
  simpa [List.append_assoc] using this
theorem H.manyA (j:H ρ L O (A++X) B)(h:∀ x∈X,∀ y∈B,ρ y<=ρ x):H ρ L (X++O) A B:=by
 obtain⟨a1,a2,a3⟩:=List.pairwise_append.mp j.a;refine⟨So.app a2 j.o λx hx y hy=>j.oa x (List.mem_append_right _ hx) y hy,a1,j.b,λx hx y hy=>?_,λx hx y hy=>?_,?_⟩
 ·rcases List.mem_append.mp hy with hy|hy
  ·exact a3 x hx y hy
  ·exact j.oa x (List.mem_append_left _ hx) y hy
 ·rcases List.mem_append.mp hy with hy|hy
  ·exact h y hy x hx
  ·exact j.ob x hx y hy
 ·refine List.Perm.trans ?_ j.p
  rw[List.append_assoc];refine List.Perm.append_left A ?_;rw[<- List.append_assoc,<- List.append_assoc];exact List.Perm.append_right O List.perm_append_comm
theorem H.doneB (j:H ρ L O A []):Good ρ L (A++O):=⟨So.app j.a j.o j.oa,by simpa using j.p⟩
theorem H.doneA (j:H ρ L O [] B):Good ρ L (B++O):=⟨So.app j.b j.o j.ob,by simpa using j.p⟩
theorem H.first (j:H ρ L O A [z])(h:∀ y∈A,ρ z<=ρ y):Good ρ L ([z]++A++O):=by
 refine⟨So.app (So.app (List.pairwise_singleton ..) j.a λx hx y hy=>by rw[List.mem_singleton.mp hx];exact h y hy) j.o λx hx y hy=>?_,?_⟩
 ·rcases List.mem_append.mp hx with hx|hx
  ·exact j.ob x hx y hy
  ·exact j.oa x hx y hy
 ·refine List.Perm.trans ?_ j.p
  rw[<- List.append_assoc];exact List.Perm.append_right O List.perm_append_comm
end
theorem gh {a:Array Keyed}{n:Nat}{x:Keyed}(h1:1<=n)(h:a[n - 1]?=some x):a.toList.take n=a.toList.take (n - 1)++[x]:=by
 obtain⟨m,rfl⟩:∃ m,n=m+1:=⟨n - 1,by omega⟩
 rw[Nat.add_sub_cancel] at h ⊢;rw[List.take_add_one];have:a.toList[m]?=some x:=by simpa using h
 rw[this];rfl
theorem iC (a:Array Keyed)(n:Nat):(a.extract 0 n).toList=a.toList.take n:=by
 rw[Array.toList_extract];rfl
theorem jy (a:Array Keyed)(i n:Nat):(a.extract i n).toList=(a.toList.take n).drop i:=by
 rw[Array.toList_extract];show (a.toList.drop i).take (n - i)=_;rw[List.drop_take]
theorem qz (a:Array Keyed){i n:Nat}(h:i<=n):a.toList.take n=a.toList.take i++(a.toList.take n).drop i:=by
 have:=(List.take_append_drop i (a.toList.take n)).symm
 rwa [List.take_take,Nat.min_eq_left h] at this
theorem xh {a:Array Keyed}{n:Nat}{x:Keyed}(h:x∈a.toList.take n):∃ m,m < n/\m < a.size/\a[m]?=some x:=by
 obtain⟨m,hm,e⟩:=List.mem_iff_getElem.mp h;rw[List.length_take] at hm;rw[List.getElem_take] at e;have hs:m < a.size:=by have:a.toList.length=a.size:=rfl;omega
 exact⟨m,by omega,hs,by rw[Array.getElem?_eq_getElem hs];exact congrArg some (by simpa using e)⟩
theorem eK {a:Array Keyed}{i n:Nat}{x:Keyed}(h:x∈(a.toList.take n).drop i):∃ m,i<=m/\m < n/\m < a.size/\a[m]?=some x:=by
 obtain⟨m,hm,e⟩:=List.mem_iff_getElem.mp h;rw[List.length_drop,List.length_take] at hm;rw[List.getElem_drop,List.getElem_take] at e;have hs:i+m < a.size:=by have:a.toList.length=a.size:=rfl;omega
 exact⟨i+m,by omega,by omega,hs,by rw[Array.getElem?_eq_getElem hs];exact congrArg some (by simpa using e)⟩
section
variable {M:Model}{Ar:Around}{E:Value->Shared->Prop}{s:Shared}{ρ:Keyed->Nat}{kd:SortKind}{P:Keyed->Prop}{a b out:Array Keyed}{L:List Keyed}{na nb:Nat}
theorem xi {key:Keyed}{arr:Array Keyed}{n:Nat}{st:SortSt}{Q:Option Nat->SortSt->Prop}(hL:et M Ar E s ρ kd P)(hk:kindOf st=kd)(pk:P key)(pa:∀ x∈arr.toList,P x)(hs:So ρ arr.toList)(hn:n<=arr.size)(h1:1<=n)
  (q:∀ k,k<=n->(∀ x∈arr.toList.take k,ρ x<=ρ key)->(∀ x∈(arr.toList.take n).drop k,ρ key < ρ x)->Q (some k) st):wpS M Ar E s (bI false key arr 0 n (n - 1)) Q st:=by
 refine cm (mh hL hk pk λi hi=>ck pa (by omega)) (λi j hij hj h=>?_) (by omega) λk hk1 h1 h2=>q k (by omega) (λx hx=>?_) λx hx=>?_
 ·have:=hs.seg (0+i) (0+j) (Nat.zero_le _) (by omega) (by omega)
  simp only[mf,Bool.false_eq_true,if_false,Bool.not_eq_true',decide_eq_false_iff_not] at h ⊢;omega
 ·obtain⟨m,hm,hm2,e⟩:=xh hx
  have:=h1 m hm;simp only[mf,Bool.false_eq_true,if_false,Bool.not_eq_true',decide_eq_false_iff_not,Nat.zero_add,R_at e] at this;omega
 ·obtain⟨m,hm,hm2,hm3,e⟩:=eK hx
  have:=h2 m hm hm2;simp only[mf,Bool.false_eq_true,if_false,Nat.zero_add,R_at e,Bool.not_eq_false',decide_eq_true_eq] at this;exact this
theorem xj {key:Keyed}{arr:Array Keyed}{n:Nat}{st:SortSt}{Q:Option Nat->SortSt->Prop}(hL:et M Ar E s ρ kd P)(hk:kindOf st=kd)(pk:P key)(pa:∀ x∈arr.toList,P x)(hs:So ρ arr.toList)(hn:n<=arr.size)(h1:1<=n)
  (q:∀ k,k<=n->(∀ x∈arr.toList.take k,ρ x < ρ key)->(∀ x∈(arr.toList.take n).drop k,ρ key<=ρ x)->Q (some k) st):wpS M Ar E s (bI true key arr 0 n (n - 1)) Q st:=by
 refine cm (mh hL hk pk λi hi=>ck pa (by omega)) (λi j hij hj h=>?_) (by omega) λk hk1 h1 h2=>q k (by omega) (λx hx=>?_) λx hx=>?_
 ·have:=hs.seg (0+i) (0+j) (Nat.zero_le _) (by omega) (by omega)
  simp only[mf,if_true,decide_eq_true_eq] at h ⊢;omega
 ·obtain⟨m,hm,hm2,e⟩:=xh hx
  have:=h1 m hm;simp only[mf,if_true,decide_eq_true_eq,Nat.zero_add,R_at e] at this;omega
 ·obtain⟨m,hm,hm2,hm3,e⟩:=eK hx
  have:=h2 m hm hm2;simp only[mf,if_true,Nat.zero_add,R_at e,decide_eq_false_iff_not] at this;omega
abbrev HS:=Option (Array Keyed)×Nat×Nat×Array Keyed×Nat×Nat×Nat
def En (a b out:Array Keyed)(na nb g k k1:Nat):StateT SortSt Sem (ForInStep HS):=do
 let y <- elem' a (na - 1)
 if (na - 1==0)=true then pure (ForInStep.done (some (a.extract 0 (na - 1)++b.extract 0 nb++(out.push y).reverse),na - 1,nb,out.push y,g,k,k1))
 else if (decide (k < 7)&&decide (k1 < 7))=true then pure (ForInStep.done (none,na - 1,nb,out.push y,g,k,k1))
 else pure (ForInStep.yield (none,na - 1,nb,out.push y,g,k,k1))
def Eo (a b out:Array Keyed)(na nb g k bc:Nat):StateT SortSt Sem (ForInStep HS):=do
 let x <- elem' b (nb - 1)
 if (nb - 1==1)=true then pure (ForInStep.done (some (b.extract 0 (nb - 1)++a.extract 0 na++(out.push x).reverse),na,nb - 1,out.push x,g,k,bc))
 else do
  let y <- elem' a (na - 1)
  let r <- bI true y b 0 (nb - 1) (nb - 1 - 1)
  match r with
  | some at2 =>
   if nb - 1 - at2 > 0 then
    if (at2==1)=true then pure (ForInStep.done (some (b.extract 0 at2++a.extract 0 na++(out.push x++(b.extract at2 (nb - 1)).reverse).reverse),na,at2,out.push x++(b.extract at2 (nb - 1)).reverse,g,k,nb - 1 - at2))
    else if (at2==0)=true then pure (ForInStep.done (some (a.extract 0 na++b.extract 0 at2++(out.push x++(b.extract at2 (nb - 1)).reverse).reverse),na,at2,out.push x++(b.extract at2 (nb - 1)).reverse,g,k,nb - 1 - at2))
    else En a b (out.push x++(b.extract at2 (nb - 1)).reverse) na at2 g k (nb - 1 - at2)
   else En a b (out.push x) na (nb - 1) g k (nb - 1 - at2)
  | _=>pure (ForInStep.done (some (a.extract 0 na++b.extract 0 (nb - 1)++(out.push x).reverse),na,nb - 1,out.push x,g,k,bc))
def xk (a b out:Array Keyed)(na nb g ac bc:Nat):StateT SortSt Sem (ForInStep HS):=do
 let x <- elem' b (nb - 1)
 let r <- bI false x a 0 na (na - 1)
 match r with
 | some at1 =>
  if na - at1 > 0 then
   if (at1==0)=true then pure (ForInStep.done (some (a.extract 0 at1++b.extract 0 nb++(out++(a.extract at1 na).reverse).reverse),at1,nb,out++(a.extract at1 na).reverse,g,na - at1,bc))
   else Eo a b (out++(a.extract at1 na).reverse) at1 nb g (na - at1) bc
  else Eo a b out na nb g (na - at1) bc
 | _=>pure (ForInStep.done (some (a.extract 0 na++b.extract 0 nb++out.reverse),na,nb,out,g,ac,bc))
def W (ρ:Keyed->Nat)(L:List Keyed)(a b out:Array Keyed)(na nb:Nat):Prop:=H ρ L out.toList.reverse (a.toList.take na) (b.toList.take nb)
theorem W.firstB (j:W ρ L a b out na nb)(e:nb=1)(hb:1<=b.size)(hz:∀ y∈a.toList,∀ z,b[0]?=some z->ρ z<=ρ y):Good ρ L (b.extract 0 nb++a.extract 0 na++out.reverse).toList:=by
 subst e;have eb:b[0]?=some b[0]:=Array.getElem?_eq_getElem hb;have e1:b.toList.take 1=[b[0]]:=by rw[gh (Nat.le_refl 1) eb];rfl
 have j':H ρ L out.toList.reverse (a.toList.take na) (b.toList.take 1):=j;rw[e1] at j';rw[Array.toList_append,Array.toList_append,iC,iC,e1,Array.toList_reverse];exact j'.first λy hy=>hz y (List.mem_of_mem_take hy) _ eb
theorem W.doneA (j:W ρ L a b out na nb)(e:na=0):Good ρ L (a.extract 0 na++b.extract 0 nb++out.reverse).toList:=by
 subst e;have j':H ρ L out.toList.reverse [] (b.toList.take nb):=j;rw[Array.toList_append,Array.toList_append,iC,iC,Array.toList_reverse];exact j'.doneA
theorem W.doneB (j:W ρ L a b out na nb)(e:nb=0):Good ρ L (a.extract 0 na++b.extract 0 nb++out.reverse).toList:=by
 subst e;have j':H ρ L out.toList.reverse (a.toList.take na) []:=j;rw[Array.toList_append,Array.toList_append,iC,iC,Array.toList_reverse,List.take_zero,List.append_nil];exact j'.doneB
theorem W.pushA {x:Keyed}(j:W ρ L a b out na nb)(h1:1<=na)(e:a[na - 1]?=some x)(h:∀ y∈b.toList.take nb,ρ y<=ρ x):W ρ L a b (out.push x) (na - 1) nb:=by
 have j':H ρ L out.toList.reverse (a.toList.take na) (b.toList.take nb):=j;rw[gh h1 e] at j';show H ρ L (out.push x).toList.reverse _ _;rw[Array.toList_push,List.reverse_append];exact H.manyA (X:=[x]) j' λz hz y hy=>by rw[List.mem_singleton.mp hz];exact h y hy
theorem W.pushB {x:Keyed}(j:W ρ L a b out na nb)(h1:1<=nb)(e:b[nb - 1]?=some x)(h:∀ y∈a.toList.take na,ρ y<=ρ x):W ρ L a b (out.push x) na (nb - 1):=by
 have j':H ρ L out.toList.reverse (a.toList.take na) (b.toList.take nb):=j;rw[gh h1 e] at j';show H ρ L (out.push x).toList.reverse _ _;rw[Array.toList_push,List.reverse_append];exact H.manyB (X:=[x]) j' λz hz y hy=>by rw[List.mem_singleton.mp hz];exact h y hy
theorem W.manyA {k:Nat}(j:W ρ L a b out na nb)(hk:k<=na)(h:∀ x∈(a.toList.take na).drop k,∀ y∈b.toList.take nb,ρ y<=ρ x):W ρ L a b (out++(a.extract k na).reverse) k nb:=by
 have j':H ρ L out.toList.reverse (a.toList.take na) (b.toList.take nb):=j;rw[qz a hk] at j';show H ρ L (out++(a.extract k na).reverse).toList.reverse _ _;rw[Array.toList_append,List.reverse_append,Array.toList_reverse,List.reverse_reverse,jy];exact H.manyA j' h
theorem W.manyB {k:Nat}(j:W ρ L a b out na nb)(hk:k<=nb)(h:∀ x∈(b.toList.take nb).drop k,∀ y∈a.toList.take na,ρ y<=ρ x):W ρ L a b (out++(b.extract k nb).reverse) na k:=by
 have j':H ρ L out.toList.reverse (a.toList.take na) (b.toList.take nb):=j;rw[qz b hk] at j';show H ρ L (out++(b.extract k nb).reverse).toList.reverse _ _;rw[Array.toList_append,List.reverse_append,Array.toList_reverse,List.reverse_reverse,jy];exact H.manyB j' h
theorem W.endA {x:Keyed}(j:W ρ L a b out na nb)(h1:1<=na)(e:a[na - 1]?=some x):∀ y∈a.toList.take na,ρ y<=ρ x:=λy hy=>by
 have:=j.a;rw[gh h1 e] at this hy;rcases List.mem_append.mp hy with hy|hy
 ·exact (List.pairwise_append.mp this).2.2 y hy x (List.mem_singleton.mpr rfl)
 ·rw[List.mem_singleton.mp hy];exact Nat.le_refl _
theorem W.endB {x:Keyed}(j:W ρ L a b out na nb)(h1:1<=nb)(e:b[nb - 1]?=some x):∀ y∈b.toList.take nb,ρ y<=ρ x:=λy hy=>by
 have:=j.b;rw[gh h1 e] at this hy;rcases List.mem_append.mp hy with hy|hy
 ·exact (List.pairwise_append.mp this).2.2 y hy x (List.mem_singleton.mpr rfl)
 ·rw[List.mem_singleton.mp hy];exact Nat.le_refl _
def cB (ρ:Keyed->Nat)(L:List Keyed)(a b:Array Keyed)(t:Nat)(out:Array Keyed)(na nb:Nat):Prop:=W ρ L a b out na nb/\1<=na/\2<=nb/\na<=a.size/\nb<=b.size/\na+nb+t<=a.size+b.size
def PH (ρ:Keyed->Nat)(L:List Keyed)(a b:Array Keyed)(t:Nat)(st0:SortSt)(r:ForInStep HS)(st:SortSt):Prop:=Kp st0 st/\match r with
 | .done c=>(∃ arr,c.1=some arr/\Good ρ L arr.toList)\/(c.1=none/\cB ρ L a b t c.2.2.2.1 c.2.1 c.2.2.1)
 | .yield c=>c.1=none/\cB ρ L a b t c.2.2.2.1 c.2.1 c.2.2.1
theorem qA {st st0:SortSt}{g k k1 t:Nat}(T:Two ρ P a b)(hK:Kp st0 st)(j:W ρ L a b out na nb)(h1:1<=na)(h2:2<=nb)(h3:na<=a.size)(h4:nb<=b.size)(ht:na+nb+t<=a.size+b.size)
  (h:∀ x,a[na - 1]?=some x->∀ y∈b.toList.take nb,ρ y<=ρ x):wpS M Ar E s (En a b out na nb g k k1) (PH ρ L a b t st0) st:=by
 unfold En;obtain⟨y,ey,py⟩:=ck T.pa (show na - 1 < a.size by omega)
 refine wpS_bind (aI ey ?_);have j':=j.pushA h1 ey (h y ey)
 by_cases e:na - 1=0
 ·rw[if_pos (by simpa using e)]
  exact wpS_pure ⟨hK,.inl ⟨_,rfl,j'.doneA e⟩⟩
 ·rw[if_neg (by simpa using e)]
  have lf:cB ρ L a b t (out.push y) (na - 1) nb:=⟨j',by omega,h2,by omega,h4,by omega⟩
  split
  ·exact wpS_pure ⟨hK,.inr ⟨rfl,lf⟩⟩
  ·exact wpS_pure ⟨hK,rfl,lf⟩
theorem qB {st st0:SortSt}{g k bc t:Nat}(hL:et M Ar E s ρ kd P)(hk:kindOf st0=kd)(T:Two ρ P a b)(hK:Kp st0 st)(j:W ρ L a b out na nb)(h1:1<=na)(h2:2<=nb)(h3:na<=a.size)(h4:nb<=b.size)(ht:na+nb+t<=a.size+b.size)
  (h:∀ x,b[nb - 1]?=some x->∀ y∈a.toList.take na,ρ y<=ρ x):wpS M Ar E s (Eo a b out na nb g k bc) (PH ρ L a b t st0) st:=by
 unfold Eo;obtain⟨x,ex,px⟩:=ck T.pb (show nb - 1 < b.size by omega)
 obtain⟨y,ey,py⟩:=ck T.pa (show na - 1 < a.size by omega)
 refine wpS_bind (aI ex ?_);have j':=j.pushB (by omega) ex (h x ex)
 by_cases e:nb - 1=1
 ·rw[if_pos (by simpa using e)]
  exact wpS_pure ⟨hK,.inl ⟨_,rfl,j'.firstB e T.b1 T.y⟩⟩
 ·rw[if_neg (by simpa using e)]
  refine wpS_bind (aI ey ?_);refine wpS_bind (xj hL (hK.k.trans hk) py T.pb T.sb (by omega) (by omega) λk1 hk1 q1 q2=>?_)
  dsimp only;have j2:=j'.manyB hk1 λx hx z hz=>Nat.le_trans (j'.endA h1 ey z hz) (q2 x hx)
  by_cases hk0:nb - 1 - k1 > 0
  ·rw[if_pos hk0]
   by_cases e2:k1=1
   ·rw[if_pos (by simpa using e2)]
    exact wpS_pure ⟨hK,.inl ⟨_,rfl,j2.firstB e2 T.b1 T.y⟩⟩
   ·rw[if_neg (by simpa using e2)]
    by_cases e3:k1=0
    ·rw[if_pos (by simpa using e3)]
     exact wpS_pure ⟨hK,.inl ⟨_,rfl,j2.doneB e3⟩⟩
    ·rw[if_neg (by simpa using e3)]
     exact qA T hK j2 h1 (by omega) h3 (by omega) (by omega) λx' ex' z hz=>by rw[ey] at ex';cases ex';exact Nat.le_of_lt (q1 z hz)
  ·rw[if_neg hk0]
   have:k1=nb - 1:=by omega
   subst this;exact qA T hK j' h1 (by omega) h3 (by omega) (by omega) λx' ex' z hz=>by rw[ey] at ex';cases ex';exact Nat.le_of_lt (q1 z hz)
theorem xl {st st0:SortSt}{g ac bc t:Nat}(hL:et M Ar E s ρ kd P)(hk:kindOf st0=kd)(T:Two ρ P a b)(hK:Kp st0 st)(j:cB ρ L a b t out na nb):wpS M Ar E s (xk a b out na nb g ac bc) (PH ρ L a b t st0) st:=by
 obtain⟨j,h1,h2,h3,h4,ht⟩:=j;unfold xk;obtain⟨x,ex,px⟩:=ck T.pb (show nb - 1 < b.size by omega)
 refine wpS_bind (aI ex ?_);refine wpS_bind (xi hL (hK.k.trans hk) px T.pa T.sa h3 h1 λk hk1 q1 q2=>?_);dsimp only;have j2:=j.manyA hk1 λz hz y hy=>Nat.le_trans (j.endB (by omega) ex y hy) (Nat.le_of_lt (q2 z hz))
 by_cases hk0:na - k > 0
 ·rw[if_pos hk0]
  by_cases e:k=0
  ·rw[if_pos (by simpa using e)]
   exact wpS_pure ⟨hK,.inl ⟨_,rfl,j2.doneA e⟩⟩
  ·rw[if_neg (by simpa using e)]
   exact qB hL hk T hK j2 (by omega) h2 (by omega) h4 (by omega) λx' ex' z hz=>by rw[ex] at ex';cases ex';exact q1 z hz
 ·rw[if_neg hk0]
  have:k=na:=by omega
  subst this;exact qB hL hk T hK j h1 h2 h3 h4 ht λx' ex' z hz=>by rw[ex] at ex';cases ex';exact q1 z hz
abbrev HI:=Option (Array Keyed)×Nat×Nat×Array Keyed×Nat×Nat
abbrev HQ:=Option (Array Keyed)×Nat×Nat×Array Keyed×Nat
def UW (a b:Array Keyed)(g:Nat)(c:HI):StateT SortSt Sem (ForInStep HI):=do
 let x <- elem' b (c.2.2.1 - 1)
 let y <- elem' a (c.2.1 - 1)
 let r <- lt' x y
 match r with
 | some w =>
  if w=true then do
   let y <- elem' a (c.2.1 - 1)
   if (c.2.1 - 1==0)=true then pure (ForInStep.done (some (a.extract 0 (c.2.1 - 1)++b.extract 0 c.2.2.1++(c.2.2.2.1.push y).reverse),c.2.1 - 1,c.2.2.1,c.2.2.2.1.push y,c.2.2.2.2.1+1,0))
   else if c.2.2.2.2.1+1>=g then pure (ForInStep.done (none,c.2.1 - 1,c.2.2.1,c.2.2.2.1.push y,c.2.2.2.2.1+1,0))
   else pure (ForInStep.yield (none,c.2.1 - 1,c.2.2.1,c.2.2.2.1.push y,c.2.2.2.2.1+1,0))
  else do
   let x <- elem' b (c.2.2.1 - 1)
   if (c.2.2.1 - 1==1)=true then pure (ForInStep.done (some (b.extract 0 (c.2.2.1 - 1)++a.extract 0 c.2.1++(c.2.2.2.1.push x).reverse),c.2.1,c.2.2.1 - 1,c.2.2.2.1.push x,0,c.2.2.2.2.2+1))
   else if c.2.2.2.2.2+1>=g then pure (ForInStep.done (none,c.2.1,c.2.2.1 - 1,c.2.2.2.1.push x,0,c.2.2.2.2.2+1))
   else pure (ForInStep.yield (none,c.2.1,c.2.2.1 - 1,c.2.2.2.1.push x,0,c.2.2.2.2.2+1))
 | _=>pure (ForInStep.done (some (a.extract 0 c.2.1++b.extract 0 c.2.2.1++c.2.2.2.1.reverse),c.2.1,c.2.2.1,c.2.2.2.1,c.2.2.2.2.1,c.2.2.2.2.2))
def VM (a b:Array Keyed)(c:HS):StateT SortSt Sem (ForInStep HS) :=
 if c.2.2.2.2.1 > 1 then do
  df (c.2.2.2.2.1 - 1)
  xk a b c.2.2.2.1 c.2.1 c.2.2.1 (c.2.2.2.2.1 - 1) c.2.2.2.2.2.1 c.2.2.2.2.2.2
 else do
  df c.2.2.2.2.1
  xk a b c.2.2.2.1 c.2.1 c.2.2.1 c.2.2.2.2.1 c.2.2.2.2.2.1 c.2.2.2.2.2.2
def VN (r:HS):StateT SortSt Sem (ForInStep HQ) :=
 match r.1 with
 | some arr=>pure (ForInStep.done (some arr,r.2.1,r.2.2.1,r.2.2.2.1,r.2.2.2.2.1))
 | none=>do
  df (r.2.2.2.2.1+1)
  pure (ForInStep.yield (none,r.2.1,r.2.2.1,r.2.2.2.1,r.2.2.2.2.1+1))
def UX (a b:Array Keyed)(g:Nat)(r:HI):StateT SortSt Sem (ForInStep HQ) :=
 match r.1 with
 | some arr=>pure (ForInStep.done (some arr,r.2.1,r.2.2.1,r.2.2.2.1,g))
 | none=>do
  liftM (rule "list.sort.gallop")
  let r2 <- forIn [0:a.size+b.size] ((none,r.2.1,r.2.2.1,r.2.2.2.1,g+1,r.2.2.2.2.1,r.2.2.2.2.2):HS) λ_ t=>VM a b t
  VN r2
def UY (a b:Array Keyed)(c:HQ):StateT SortSt Sem (ForInStep HQ):=do
 let r <- forIn [0:a.size+b.size] ((none,c.2.1,c.2.2.1,c.2.2.2.1,0,0):HI) λ_ r=>UW a b c.2.2.2.2 r
 UX a b c.2.2.2.2 r
def Wb (r:HQ):StateT SortSt Sem (Array Keyed) :=
 match r.1 with
 | some arr=>pure arr
 | none=>unsupported "internal:list.sort.merge-bound"
theorem nQ (a b:Array Keyed):kx a b=(do
 liftM (rule "list.sort.merge-hi")
 let x <- elem' a (a.size - 1)
 if (a.size - 1==0)=true then pure (a.extract 0 (a.size - 1)++b.extract 0 b.size++(#[x]:Array Keyed).reverse)
 else if (b.size==1)=true then pure (b.extract 0 b.size++a.extract 0 (a.size - 1)++(#[x]:Array Keyed).reverse)
 else do
  let st <- get
  let r <- forIn [0:a.size+b.size] ((none,a.size - 1,b.size,#[x],gallopOf st):HQ) λ_ r=>UY a b r
  Wb r):=by kernel_rfl
theorem Ep {st0 st:SortSt}{g n m:Nat}{c:HI}(hL:et M Ar E s ρ kd P)(hk:kindOf st0=kd)(T:Two ρ P a b)(hK:Kp st0 st)(j:cB ρ L a b (n+1+min m 1) c.2.2.2.1 c.2.1 c.2.2.1) :
  wpS M Ar E s (UW a b g c) (λr st'=>Kp st0 st'/\match r with
   | .done c=>(∃ arr,c.1=some arr/\Good ρ L arr.toList)\/(c.1=none/\cB ρ L a b (n+1+1) c.2.2.2.1 c.2.1 c.2.2.1)
   | .yield c=>c.1=none/\cB ρ L a b (n+1+min (m+1) 1) c.2.2.2.1 c.2.1 c.2.2.1) st:=by
 obtain⟨ret,na,nb,out,ac,bc⟩:=c;obtain⟨j,l1,l2,l3,l4,l5⟩:=j;dsimp only at j l1 l2 l3 l4 l5;unfold UW;dsimp only;obtain⟨x,ex,px⟩:=ck T.pb (show nb - 1 < b.size by omega)
 obtain⟨y,ey,py⟩:=ck T.pa (show na - 1 < a.size by omega)
 refine wpS_bind (aI ex (wpS_bind (aI ey (wpS_bind (hL x y st _ px py (hK.k.trans hk) ?_)))))
 by_cases hlt:ρ x < ρ y
 ·rw[decide_eq_true hlt]
  refine wpS_bind (aI ey ?_);have j':=j.pushA l1 ey λz hz=>Nat.le_trans (j.endB (by omega) ex z hz) (Nat.le_of_lt hlt)
  by_cases e:na - 1=0
  ·rw[if_pos (by simpa using e)]
   exact wpS_pure ⟨hK,.inl ⟨_,rfl,j'.doneA e⟩⟩
  ·rw[if_neg (by simpa using e)]
   split
   ·exact wpS_pure ⟨hK,.inr ⟨rfl,j',by show 1<=na - 1;omega,l2,by show na - 1<=a.size;omega,l4,by show na - 1+nb+(n+1+1)<=_;omega⟩⟩
   ·exact wpS_pure ⟨hK,rfl,j',by show 1<=na - 1;omega,l2,by show na - 1<=a.size;omega,l4,by show na - 1+nb+(n+1+min (m+1) 1)<=_;omega⟩
 ·rw[decide_eq_false hlt]
  refine wpS_bind (aI ex ?_);have j':=j.pushB (by omega) ex λz hz=>Nat.le_trans (j.endA l1 ey z hz) (Nat.not_lt.mp hlt)
  by_cases e:nb - 1=1
  ·rw[if_pos (by simpa using e)]
   exact wpS_pure ⟨hK,.inl ⟨_,rfl,j'.firstB e T.b1 T.y⟩⟩
  ·rw[if_neg (by simpa using e)]
   split
   ·exact wpS_pure ⟨hK,.inr ⟨rfl,j',l1,by show 2<=nb - 1;omega,l3,by show nb - 1<=b.size;omega,by show na+(nb - 1)+(n+1+1)<=_;omega⟩⟩
   ·exact wpS_pure ⟨hK,rfl,j',l1,by show 2<=nb - 1;omega,l3,by show nb - 1<=b.size;omega,by show na+(nb - 1)+(n+1+min (m+1) 1)<=_;omega⟩
def VO (ρ:Keyed->Nat)(L:List Keyed)(a b:Array Keyed)(t:Nat)(st0:SortSt)(r:ForInStep HQ)(st:SortSt):Prop:=match r with
 | .done c=>Kp st0 st/\∃ arr,c.1=some arr/\Good ρ L arr.toList
 | .yield c=>Kp st0 st/\c.1=none/\cB ρ L a b t c.2.2.2.1 c.2.1 c.2.2.1
theorem Er {st0 st:SortSt}{g n:Nat}{r:HI}(hL:et M Ar E s ρ kd P)(hk:kindOf st0=kd)(T:Two ρ P a b)(hK:Kp st0 st)
  (h:(∃ arr,r.1=some arr/\Good ρ L arr.toList)\/(r.1=none/\cB ρ L a b (n+1+1) r.2.2.2.1 r.2.1 r.2.2.1)):wpS M Ar E s (UX a b g r) (VO ρ L a b (n+1+1) st0) st:=by
 obtain⟨ret,r⟩:=r;unfold UX;rcases h with ⟨arr,h1,h2⟩|⟨h1,hl⟩
 ·dsimp only at h1
  subst h1;exact wpS_pure ⟨hK,arr,rfl,h2⟩
 ·dsimp only at h1 hl
  subst h1;refine wpS_bind (wpS_lift (wpAny_rule ⟨rfl,?_⟩));refine wpS_bind (wpS_mono (wpS_forRange (I:=λx c st'=>Kp st0 st'/\c.1=none/\cB ρ L a b (n+1+1) c.2.2.2.1 c.2.1 c.2.2.1)
   (Q:=λc st'=>Kp st0 st'/\((∃ arr,c.1=some arr/\Good ρ L arr.toList)\/(c.1=none/\cB ρ L a b (n+1+1) c.2.2.2.1 c.2.1 c.2.2.1))) ?gstep ?gfin ⟨hK,rfl,hl⟩) ?gpost)
  case gfin =>
   rintro c st' ⟨hK,h1,hl⟩;exact⟨hK,.inr ⟨h1,hl⟩⟩
  case gstep =>
   rintro m c st' _ hm ⟨hK,h1,hl⟩;have go:∀ g,wpS M Ar E s (do df g;xk a b c.2.2.2.1 c.2.1 c.2.2.1 g c.2.2.2.2.2.1 c.2.2.2.2.2.2) (λr st''=>match r with
     | .done c=>Kp st0 st''/\((∃ arr,c.1=some arr/\Good ρ L arr.toList)\/(c.1=none/\cB ρ L a b (n+1+1) c.2.2.2.1 c.2.1 c.2.2.1))
     | .yield c=>Kp st0 st''/\c.1=none/\cB ρ L a b (n+1+1) c.2.2.2.1 c.2.1 c.2.2.1) st':=λg=>by
    rw[cN];refine wpS_bind (wpS_modify (wpS_mono (xl hL hk T (hK.min g) hl) λr st'' hr=>?_));obtain⟨k1,k2⟩:=hr;cases r with
    | done c=>exact⟨k1,k2⟩
    | yield c=>exact⟨k1,k2⟩
   unfold VM
   split
   ·refine wpS_mono (go _) λr st'' hr=>?_
    cases r<;>exact hr
   ·refine wpS_mono (go _) λr st'' hr=>?_
    cases r<;>exact hr
  case gpost =>
   rintro ⟨ret,r⟩ st' ⟨hK,⟨arr,h1,h2⟩|⟨h1,hl⟩⟩
   ·dsimp only at h1
    subst h1;exact wpS_pure ⟨hK,arr,rfl,h2⟩
   ·dsimp only at h1 hl
    subst h1;unfold VN;rw[cN];exact wpS_bind (wpS_modify (wpS_pure ⟨hK.min _,rfl,hl⟩))
theorem Es {st0 st:SortSt}{n:Nat}{c:HQ}(hL:et M Ar E s ρ kd P)(hk:kindOf st0=kd)(T:Two ρ P a b)(hn:0 < a.size+b.size)(hK:Kp st0 st)(hl:cB ρ L a b (n+1) c.2.2.2.1 c.2.1 c.2.2.1):wpS M Ar E s (UY a b c) (VO ρ L a b (n+1+1) st0) st:=by
 unfold UY;refine wpS_bind (wpS_mono (wpS_forRange (I:=λx c st'=>Kp st0 st'/\c.1=none/\cB ρ L a b (n+1+min x 1) c.2.2.2.1 c.2.1 c.2.2.1)
  (Q:=λc st'=>Kp st0 st'/\((∃ arr,c.1=some arr/\Good ρ L arr.toList)\/(c.1=none/\cB ρ L a b (n+1+1) c.2.2.2.1 c.2.1 c.2.2.1))) ?istep ?ifin ⟨hK,rfl,by simpa using hl⟩) ?ipost)
 case ifin =>
  rintro c st' ⟨hK,h1,hl⟩;rw[show min (max 0 (a.size+b.size)) 1=1 by omega] at hl
  exact⟨hK,.inr ⟨h1,hl⟩⟩
 case istep =>
  rintro m c st' _ hm ⟨hK,h1,hl⟩;refine wpS_mono (Ep hL hk T hK hl) λr st'' hr=>?_;obtain⟨k1,k2⟩:=hr;cases r with
  | done c=>exact⟨k1,k2⟩
  | yield c=>exact⟨k1,k2⟩
 case ipost =>
  rintro r st' ⟨hK,h⟩;exact Er hL hk T hK h
theorem qC {st:SortSt}{Q:Array Keyed->SortSt->Prop}(hL:et M Ar E s ρ kd P)(hk:kindOf st=kd)(T:Two ρ P a b)
  (q:∀ r st',Kp st st'->Good ρ (a.toList++b.toList) r.toList->Q r st'):wpS M Ar E s (kx a b) Q st:=by
 rw[nQ];have b1:=T.b1;have a1:=T.a1;refine wpS_bind (wpS_lift (wpAny_rule ⟨rfl,?_⟩));obtain⟨x,ex,px⟩:=ck T.pa (show a.size - 1 < a.size by omega)
 refine wpS_bind (aI ex ?_);have j0:W ρ (a.toList++b.toList) a b #[] a.size b.size:=by
  have e1:a.toList.take a.size=a.toList:=List.take_of_length_le (Nat.le_refl _);have e2:b.toList.take b.size=b.toList:=List.take_of_length_le (Nat.le_refl _);unfold W;rw[e1,e2];exact⟨List.Pairwise.nil,T.sa,T.sb,(λx hx y hy=>by cases hy),(λx hx y hy=>by cases hy),by simp⟩
 have j1:W ρ (a.toList++b.toList) a b #[x] (a.size - 1) b.size:=by simpa using j0.pushA a1 ex λy hy=>T.z y (List.mem_of_mem_take hy) x ex
 by_cases e:a.size - 1=0
 ·rw[if_pos (by simpa using e)]
  exact wpS_pure (q _ st .refl (by simpa using j1.doneA e))
 ·rw[if_neg (by simpa using e)]
  by_cases e2:b.size=1
  ·rw[if_pos (by simpa using e2)]
   exact wpS_pure (q _ st .refl (by simpa using j1.firstB e2 T.b1 T.y))
  ·rw[if_neg (by simpa using e2)]
   refine wpS_bind (wpS_get ?_);refine wpS_bind (wpS_mono (wpS_forRange (I:=λx c st'=>Kp st st'/\c.1=none/\cB ρ (a.toList++b.toList) a b (x+1) c.2.2.2.1 c.2.1 c.2.2.1)
    (Q:=λc st'=>Kp st st'/\∃ arr,c.1=some arr/\Good ρ (a.toList++b.toList) arr.toList) ?step ?fin ⟨.refl,rfl,j1,by show 1<=a.size - 1;omega,by show 2<=b.size;omega,by show a.size - 1<=a.size;omega,by show b.size<=b.size;omega,by show a.size - 1+b.size+(0+1)<=_;omega⟩) ?post)
   case fin =>
    rintro ⟨ret,na,nb,out,g⟩ st' ⟨hK,h1,j,h2,h3,h4,h5,h6⟩;dsimp only at h2 h3 h4 h5 h6;omega
   case post =>
    rintro ⟨ret,r⟩ st' ⟨hK,arr,h1,h2⟩;dsimp only at h1;subst h1;exact wpS_pure (q arr st' hK h2)
   case step =>
    rintro n c st' _ hn ⟨hK,h1,hl⟩;refine wpS_mono (Es hL hk T (by omega) hK hl) λr st'' hr=>?_
    cases r with
    | done c=>exact hr
    | yield c=>exact hr
end
end Vs

namespace Vs
open PySem PyProof.Rows
abbrev Et:=Nat×Nat×Nat
theorem qD (i:Nat):mergeAt' i=(do
 let s <- get
 let (some (sa,na,power),some (sb,nb,_)):=((pendingOf s)[i]?,(pendingOf s)[i+1]?)|unsupported "internal:list.sort.pending"
 set (setPending s (((pendingOf s).setIfInBounds i (sa,na+nb,power)).eraseIdxIfInBounds (i+1)))
 let some k <- bI false (<- elem' (arrOf s) sb) (arrOf s) sa na 0|return false
 let (sa,na):=(sa+k,na - k)
 if na==0 then return true
 let some nb <- bI true (<- elem' (arrOf s) (sa+na - 1)) (arrOf s) sb nb (nb - 1)|return false
 if nb==0 then return true
 let x:=(arrOf s).extract sa sb
 let y:=(arrOf s).extract sb (sb+nb)
 let merged <- if na<=nb then ku x y else kx x y
 modify λs=>setArr s (merged.toList.zipIdx.foldl (λa (p,j)=>a.setIfInBounds (sa+j) p) (arrOf s))
 return (failedOf (<- get)).isNone):=rfl
def Ch (ρ:Keyed->Nat)(xs:Array Keyed):Nat->Nat->List Et->Prop
 | s,e,[]=>s=e
 | s,e,r::rs=>r.1=s/\1<=r.2.1/\Seg ρ xs s (s+r.2.1)/\Ch ρ xs (s+r.2.1) e rs
theorem Ch.app {ρ:Keyed->Nat}{xs:Array Keyed}:∀ {l m:List Et} {s e:Nat},Ch ρ xs s e (l++m) ↔ ∃ t,Ch ρ xs s t l/\Ch ρ xs t e m
 | [],m,s,e=>⟨λh=>⟨s,rfl,h⟩,λ⟨t,h1,h2⟩=>by cases h1;exact h2⟩
 | r::l,m,s,e=>by
  constructor
  ·rintro ⟨h1,h2,h3,h4⟩
   obtain⟨t,h5,h6⟩:=Ch.app.mp h4;exact⟨t,⟨h1,h2,h3,h5⟩,h6⟩
  ·rintro ⟨t,⟨h1,h2,h3,h5⟩,h6⟩
   exact⟨h1,h2,h3,Ch.app.mpr ⟨t,h5,h6⟩⟩
theorem Ch.le {ρ:Keyed->Nat}{xs:Array Keyed}:∀ {l:List Et} {s e:Nat},Ch ρ xs s e l->s+l.length<=e
 | [],s,e,h=>by cases h;exact Nat.le_refl _
 | r::l,s,e,⟨_,h2,_,h4⟩=>by have:=Ch.le h4;simp only[List.length_cons];omega
theorem Seg.congr {ρ:Keyed->Nat}{xs ys:Array Keyed}{lo hi:Nat}(h:Seg ρ xs lo hi)(e:∀ k,lo<=k->k < hi->ys[k]?=xs[k]?):Seg ρ ys lo hi:=λi j h1 h2 h3=>by
 rw[eY (e i h1 (by omega)),eY (e j (by omega) h3)];exact h i j h1 h2 h3
theorem Ch.congr {ρ:Keyed->Nat}{xs ys:Array Keyed}:∀ {l:List Et} {s e:Nat},Ch ρ xs s e l->(∀ k,s<=k->k < e->ys[k]?=xs[k]?)->Ch ρ ys s e l
 | [],s,e,h,_=>h
 | r::l,s,e,⟨h1,h2,h3,h4⟩,q=>by
  have:=Ch.le h4;exact⟨h1,h2,h3.congr λk a b=>q k a (by omega),Ch.congr h4 λk a b=>q k (by omega) b⟩
theorem nR (off:Nat):∀ (m:List Keyed) (n:Nat) (xs:Array Keyed),off+n+m.length<=xs.size->∀ k:Nat,
  ((m.zipIdx n).foldl (λa (p,j)=>a.setIfInBounds (off+j) p) xs)[k]?=(if off+n<=k/\k < off+n+m.length then m[k - (off+n)]? else xs[k]?)/\((m.zipIdx n).foldl (λa (p,j)=>a.setIfInBounds (off+j) p) xs).size=xs.size
 | [],n,xs,h,k=>⟨by rw[if_neg (by simp only[List.length_nil];omega)];rfl,rfl⟩
 | p::m,n,xs,h,k=>by
  simp only[List.length_cons] at h;rw[List.zipIdx_cons,List.foldl_cons];have ih:=nR off m (n+1) (xs.setIfInBounds (off+n) p) (by rw[Array.size_setIfInBounds];omega) k
  refine⟨?_,by rw[ih.2,Array.size_setIfInBounds]⟩
  rw[ih.1];simp only[List.length_cons]
  by_cases h1:off+(n+1)<=k/\k < off+(n+1)+m.length
  ·rw[if_pos h1,if_pos (by omega),show k - (off+n)=k - (off+(n+1))+1 by omega,List.getElem?_cons_succ]
  ·rw[if_neg h1]
   by_cases h2:k=off+n
   ·subst h2
    rw[if_pos (by omega),Nat.sub_self,List.getElem?_cons_zero,Array.getElem?_setIfInBounds_self_of_lt (by omega)]
   ·rw[if_neg (by omega),Array.getElem?_setIfInBounds_ne (by omega)]
theorem xm {off:Nat}{m:List Keyed}{xs:Array Keyed}(h:off+m.length<=xs.size)(hp:m.Perm ((xs.toList.drop off).take m.length)):(m.zipIdx.foldl (λa (p,j)=>a.setIfInBounds (off+j) p) xs).Perm xs:=by
 rw[Array.perm_iff_toList_perm];have e:(m.zipIdx.foldl (λa (p,j)=>a.setIfInBounds (off+j) p) xs).toList=xs.toList.take off++(m++xs.toList.drop (off+m.length)):=by
  apply List.ext_getElem?;intro k;have:=(nR off m 0 xs (by simpa using h) k).1
  rw[Nat.add_zero] at this;rw[Array.getElem?_toList,this];have hl:(xs.toList.take off).length=off:=by rw[List.length_take];have:xs.toList.length=xs.size:=rfl;omega
  by_cases h1:k < off
  ·rw[if_neg (by omega),List.getElem?_append_left (by omega),List.getElem?_take_of_lt h1,Array.getElem?_toList]
  ·rw[List.getElem?_append_right (by omega),hl]
   by_cases h2:k < off+m.length
   ·rw[if_pos (by omega),List.getElem?_append_left (by omega)]
   ·rw[if_neg (by omega),List.getElem?_append_right (by omega),List.getElem?_drop,show off+m.length+(k - off - m.length)=k by omega,Array.getElem?_toList]
 rw[e];have e2:xs.toList=xs.toList.take off++((xs.toList.drop off).take m.length++xs.toList.drop (off+m.length)):=by
  rw[<- List.drop_drop,List.take_append_drop,List.take_append_drop]
 exact (List.Perm.append_left _ (List.Perm.append_right _ hp)).trans (by rw[<- e2])
theorem kz {ρ:Keyed->Nat}{xs:Array Keyed}{i j:Nat}(h:Seg ρ xs i j)(hj:j<=xs.size):So ρ (xs.extract i j).toList:=by
 refine List.pairwise_iff_getElem.mpr λp q hp hq hpq=>?_;rw[jy,List.length_drop,List.length_take] at hq;have hs:xs.toList.length=xs.size:=rfl;have:=h (i+p) (i+q) (by omega) (by omega) (by omega)
 have e1:xs[i+p]?=some ((xs.extract i j).toList[p]):=by
  rw[Array.getElem?_eq_getElem (by omega)];simp
 have e2:xs[i+q]?=some ((xs.extract i j).toList[q]):=by
  rw[Array.getElem?_eq_getElem (by omega)];simp
 rw[R_at e1,R_at e2] at this;exact this
theorem xn {xs:Array Keyed}{i j m:Nat}(h:i+m < j)(hj:j<=xs.size):(xs.extract i j)[m]?=xs[i+m]?:=by
 rw[Array.getElem?_extract];rw[if_pos (by omega)]
theorem fH {xs:Array Keyed}{i j:Nat}{x:Keyed}(h:x∈(xs.extract i j).toList):∃ m,i<=m/\m < j/\m < xs.size/\xs[m]?=some x:=by
 rw[jy] at h;exact eK h
section
variable {M:Model}{Ar:Around}{E:Value->Shared->Prop}{s:Shared}{ρ:Keyed->Nat}{kd:SortKind}{P:Keyed->Prop}{a₀:Array Keyed}
theorem Eu {key:Keyed}{arr:Array Keyed}{base n hint:Nat}{st:SortSt}{Q:Option Nat->SortSt->Prop}(hL:et M Ar E s ρ kd P)(hk:kindOf st=kd)(pk:P key)(pa:∀ i,i < n->∃ x,arr[base+i]?=some x/\P x)(hs:Seg ρ arr base (base+n))(hn:hint < n)
  (q:∀ k,k<=n->(∀ i,base<=i->i < base+k->R ρ arr i<=ρ key)->(∀ i,base+k<=i->i < base+n->ρ key < R ρ arr i)->Q (some k) st):wpS M Ar E s (bI false key arr base n hint) Q st:=by
 refine cm (mh hL hk pk pa) (λi j hij hj h=>?_) hn λk hk1 h1 h2=>q k hk1 (λi hi hi2=>?_) λi hi hi2=>?_
 ·have:=hs (base+i) (base+j) (by omega) (by omega) (by omega)
  simp only[mf,Bool.false_eq_true,if_false,Bool.not_eq_true',decide_eq_false_iff_not] at h ⊢;omega
 ·have:=h1 (i - base) (by omega)
  simp only[mf,Bool.false_eq_true,if_false,Bool.not_eq_true',decide_eq_false_iff_not,show base+(i - base)=i by omega] at this
  omega
 ·have:=h2 (i - base) (by omega) (by omega)
  simp only[mf,Bool.false_eq_true,if_false,show base+(i - base)=i by omega,Bool.not_eq_false',decide_eq_true_eq] at this
  exact this
theorem Ev {key:Keyed}{arr:Array Keyed}{base n hint:Nat}{st:SortSt}{Q:Option Nat->SortSt->Prop}(hL:et M Ar E s ρ kd P)(hk:kindOf st=kd)(pk:P key)(pa:∀ i,i < n->∃ x,arr[base+i]?=some x/\P x)(hs:Seg ρ arr base (base+n))(hn:hint < n)
  (q:∀ k,k<=n->(∀ i,base<=i->i < base+k->R ρ arr i < ρ key)->(∀ i,base+k<=i->i < base+n->ρ key<=R ρ arr i)->Q (some k) st):wpS M Ar E s (bI true key arr base n hint) Q st:=by
 refine cm (mh hL hk pk pa) (λi j hij hj h=>?_) hn λk hk1 h1 h2=>q k hk1 (λi hi hi2=>?_) λi hi hi2=>?_
 ·have:=hs (base+i) (base+j) (by omega) (by omega) (by omega)
  simp only[mf,if_true,decide_eq_true_eq] at h ⊢;omega
 ·have:=h1 (i - base) (by omega)
  simp only[mf,if_true,decide_eq_true_eq,show base+(i - base)=i by omega] at this
  exact this
 ·have:=h2 (i - base) (by omega) (by omega)
  simp only[mf,if_true,show base+(i - base)=i by omega,decide_eq_false_iff_not] at this
  omega
theorem Ew {st st':SortSt}{Q:PUnit->SortSt->Prop}(h:Q ⟨⟩ st'):wpS M Ar E s (set st':StateT SortSt Sem PUnit) Q st:=by
 unfold wpS;rw[StateT.run_set];exact wpAny_pure ⟨rfl,h⟩
theorem HU {l:List Et}{i:Nat}(h:i+1 < l.length):∃ pre x y post,l=pre++x::y::post/\pre.length=i:=by
 refine⟨l.take i,l[i],l[i+1],l.drop (i+2),?_,by rw[List.length_take];omega⟩
 have e:=(List.take_append_drop i l).symm;rw[List.drop_eq_getElem_cons (by omega),List.drop_eq_getElem_cons h] at e
 exact e
theorem jd {st:SortSt}{i lo:Nat}{Q:Bool->SortSt->Prop}(hL:et M Ar E s ρ kd P)(h0:∀ p∈a₀.toList,P p)(hB:SI kd a₀ st)(hlo:lo<=a₀.size)(hc:Ch ρ (arrOf st) 0 lo (pendingOf st).toList)(hi:i+1 < (pendingOf st).size)
  (q:∀ st',SI kd a₀ st'->Ch ρ (arrOf st') 0 lo (pendingOf st').toList->(pendingOf st').size+1=(pendingOf st).size->(∀ k,lo<=k->(arrOf st')[k]?=(arrOf st)[k]?)->Q true st'):wpS M Ar E s (mergeAt' i) Q st:=by
 rw[qD];refine wpS_bind (wpS_get ?_);obtain⟨pre,⟨sa,na,pw⟩,⟨sb,nb,pw2⟩,post,el,hpl⟩:=HU (l:=(pendingOf st).toList) (i:=i) (by simpa using hi)
 have e1:(pendingOf st)[i]?=some (sa,na,pw):=by
  rw[<- Array.getElem?_toList,el,List.getElem?_append_right (by omega),hpl,Nat.sub_self];rfl
 have e2:(pendingOf st)[i+1]?=some (sb,nb,pw2):=by
  rw[<- Array.getElem?_toList,el,List.getElem?_append_right (by omega),hpl,Nat.add_sub_cancel_left];rfl
 have hnew:(((pendingOf st).setIfInBounds i (sa,na+nb,pw)).eraseIdxIfInBounds (i+1)).toList=pre++(sa,na+nb,pw)::post:=by
  have hs:i+1 < ((pendingOf st).setIfInBounds i (sa,na+nb,pw)).size:=by rw[Array.size_setIfInBounds];exact hi
  rw[Array.eraseIdxIfInBounds,dif_pos hs,Array.toList_eraseIdx,Array.toList_setIfInBounds,el,<- hpl];rw[List.set_append_right _ _ (Nat.le_refl _),Nat.sub_self,List.set_cons_zero,List.eraseIdx_append_of_length_le (Nat.le_succ _),show pre.length.succ - pre.length=1 by omega]
  rfl
 have hsz2:(((pendingOf st).setIfInBounds i (sa,na+nb,pw)).eraseIdxIfInBounds (i+1)).size+1=(pendingOf st).size:=by
  have a1:(((pendingOf st).setIfInBounds i (sa,na+nb,pw)).eraseIdxIfInBounds (i+1)).toList.length=(pre++(sa,na+nb,pw)::post).length:=by rw[hnew]
  have a2:(pendingOf st).toList.length=(pre++(sa,na,pw)::(sb,nb,pw2)::post).length:=by rw[el]
  simp only[List.length_append,List.length_cons,Array.length_toList] at a1 a2;omega
 rw[e1,e2];dsimp only;refine wpS_bind (Ew ?_);rw[el] at hc;obtain⟨t,c1,⟨rfl,c3,c4,rfl,c6,c7,c8⟩⟩:=Ch.app.mp hc;dsimp only at c1 c3 c4 c6 c7 c8 hnew e1 e2 hsz2 ⊢;have hle:=Ch.le c8;have hsz:=hB.size;have atx:∀ k,k < a₀.size->∃ x,(arrOf st)[k]?=some x/\P x:=λk hk=>hB.at h0 hk;obtain⟨b0,eb,pb⟩:=atx (sa+na) (by omega)
 refine wpS_bind (aI eb ?_);refine wpS_bind (Eu hL hB.kind pb (λi hi=>atx _ (by omega)) c4 (by omega) λk hk g1 g2=>?_)
 dsimp only
 -- the whole of both,from what becomes of the array
 have fin:∀ (ys:Array Keyed) (st':SortSt),arrOf st'=ys->pendingOf st'=((pendingOf st).setIfInBounds i (sa,na+nb,pw)).eraseIdxIfInBounds (i+1)->kindOf st'=kd->failedOf st'=none->ys.Perm (arrOf st) ->
   (∀ k,k < sa\/sa+na+nb<=k->ys[k]?=(arrOf st)[k]?)->Seg ρ ys sa (sa+na+nb)->Q true st':=λys st' h1 h2 h3 h4 h5 h6 h7=>by
  refine q st' ⟨by rw[h1];exact h5.trans hB.perm,h3,h4⟩ ?_ (by rw[h2];exact hsz2) (λk hk=>by rw[h1];exact h6 k (.inr (by omega)))
  rw[h1,h2,hnew];refine Ch.app.mpr ⟨sa,c1.congr λk _ hk=>h6 k (.inl hk),rfl,?_,?_,?_⟩
  ·show 1<=na+nb;omega
  ·show Seg ρ ys sa (sa+(na+nb));rw[<- Nat.add_assoc];exact h7
  ·show Ch ρ ys (sa+(na+nb)) lo post
   rw[<- Nat.add_assoc];exact c8.congr λk hk _=>h6 k (.inr hk)
 have rb0:R ρ (arrOf st) (sa+na)=ρ b0:=R_at eb
 by_cases hk0:na - k=0
 ·rw[if_pos (by simpa using hk0)]
  refine wpS_pure (fin (arrOf st) _ rfl rfl hB.kind hB.failed (Array.Perm.refl _) (λ_ _=>rfl) λi j h1 h2 h3=>?_)
  by_cases hj:j < sa+na
  ·exact c4 i j h1 h2 hj
  ·by_cases hi':i < sa+na
   ·have:=g1 i h1 (by omega)
    have:=c7 (sa+na) j (by omega) (by omega) h3
    omega
   ·exact c7 i j (by omega) h2 h3
 ·rw[if_neg (by simpa using hk0)]
  obtain⟨al,ea,pa⟩:=atx (sa+k+(na - k) - 1) (by omega)
  have ral:R ρ (arrOf st) (sa+na - 1)=ρ al:=by rw[show sa+na - 1=sa+k+(na - k) - 1 by omega];exact R_at ea
  refine wpS_bind (aI ea ?_);refine wpS_bind (Ev hL hB.kind pa (λi hi=>atx _ (by omega)) c7 (by omega) λk2 hk2 g3 g4=>?_)
  dsimp only
  by_cases hk20:k2=0
  ·subst hk20
   rw[if_pos (by simp)]
   refine wpS_pure (fin (arrOf st) _ rfl rfl hB.kind hB.failed (Array.Perm.refl _) (λ_ _=>rfl) λi j h1 h2 h3=>?_)
   by_cases hj:j < sa+na
   ·exact c4 i j h1 h2 hj
   ·by_cases hi':i < sa+na
    ·have:=g4 j (by omega) h3
     have:=c4 i (sa+na - 1) h1 (by omega) (by omega)
     omega
    ·exact c7 i j (by omega) h2 h3
  ·rw[if_neg (by simpa using hk20)]
   have hPx:∀ i j,j<=a₀.size->∀ x∈((arrOf st).extract i j).toList,P x:=λi j hj x hx=>by
    obtain⟨m,m1,m2,m3,m4⟩:=fH hx;obtain⟨y,ey,py⟩:=atx m (by omega)
    rw[m4] at ey;cases ey;exact py
   have zx:((arrOf st).extract (sa+k) (sa+na)).size=na - k:=by rw[Array.size_extract];omega
   have zy:((arrOf st).extract (sa+na) (sa+na+k2)).size=k2:=by rw[Array.size_extract];omega
   have T:Two ρ P ((arrOf st).extract (sa+k) (sa+na)) ((arrOf st).extract (sa+na) (sa+na+k2)) :=
    ⟨hPx _ _ (by omega),hPx _ _ (by omega),kz (λi j h1 h2 h3=>c4 i j (by omega) h2 h3) (by omega),kz (λi j h1 h2 h3=>c7 i j h1 h2 (by omega)) (by omega),by omega,by omega,
     λy hy z hz=>by
      obtain⟨m,m1,m2,m3,m4⟩:=fH hy;rw[zx,xn (by omega) (by omega),show sa+k+(na - k - 1)=sa+k+(na - k) - 1 by omega,ea] at hz
      cases hz;have:=g3 m m1 m2;rw[R_at m4] at this;omega,
     λy hy z hz=>by
      obtain⟨m,m1,m2,m3,m4⟩:=fH hy;rw[xn (by omega) (by omega),Nat.add_zero,eb] at hz
      cases hz;have:=g2 m m1 m2;rw[R_at m4] at this;omega⟩
   have done:∀ (r:Array Keyed) (st':SortSt),Kp (setPending st (((pendingOf st).setIfInBounds i (sa,na+nb,pw)).eraseIdxIfInBounds (i+1))) st'->Good ρ (((arrOf st).extract (sa+k) (sa+na)).toList++((arrOf st).extract (sa+na) (sa+na+k2)).toList) r.toList ->
     wpS M Ar E s (do
      modify λs=>setArr s (r.toList.zipIdx.foldl (λa (p,j)=>a.setIfInBounds (sa+k+j) p) (arrOf s))
      let x <- get
      pure (failedOf x).isNone) Q st':=λr st' hK hG=>by
    refine wpS_bind (wpS_modify (wpS_bind (wpS_get (wpS_pure ?_))));have ka:arrOf st'=arrOf st:=hK.a;have kp:pendingOf st'=_:=hK.p;have kf:failedOf st'=none:=hK.f.trans hB.failed;have kk:kindOf st'=kd:=hK.k.trans hB.kind;show Q (failedOf st').isNone _;rw[kf];have hlen:r.toList.length=na - k+k2:=by
     have:=hG.2.length_eq;simp only[List.length_append,Array.length_toList,zx,zy] at this ⊢;exact this
    have hbd:sa+k+r.toList.length<=(arrOf st).size:=by omega
    have get:=λm=>(nR (sa+k) r.toList 0 (arrOf st) (by simpa using hbd) m).1
    simp only[Nat.add_zero] at get;have hX:((arrOf st).extract (sa+k) (sa+na)).toList++((arrOf st).extract (sa+na) (sa+na+k2)).toList=((arrOf st).toList.drop (sa+k)).take r.toList.length:=by
     rw[hlen,List.take_add,List.drop_drop,show sa+k+(na - k)=sa+na by omega]
     rw[show sa+na=sa+k+(na - k) by omega,jx,show sa+k+(na - k)=sa+na by omega,jx]
    refine fin _ _ (by show _=r.toList.zipIdx.foldl _ (arrOf st);rw[ka]) kp kk kf (xm hbd (by rw[<- hX];exact hG.2)) (λm hm=>by rw[get m,if_neg (by omega)]) ?_
    have ry:∀ m,¬ (sa+k<=m/\m < sa+k+r.toList.length)->R ρ (r.toList.zipIdx.foldl (λa (p,j)=>a.setIfInBounds (sa+k+j) p) (arrOf st)) m=R ρ (arrOf st) m:=λm hm=>eY (by rw[get m,if_neg hm])
    have rz:∀ m (h:m - (sa+k) < r.toList.length),sa+k<=m->R ρ (r.toList.zipIdx.foldl (λa (p,j)=>a.setIfInBounds (sa+k+j) p) (arrOf st)) m=ρ (r.toList[m - (sa+k)]):=λm h hm=>by
     refine R_at ?_;rw[get m,if_pos (by omega),List.getElem?_eq_getElem h]
    have low:∀ z∈r.toList,∀ i,sa<=i->i < sa+k->R ρ (arrOf st) i<=ρ z:=λz hz i i1 i2=>by
     rcases List.mem_append.mp (hG.2.mem_iff.mp hz) with hz|hz
     ·obtain⟨m,m1,m2,m3,m4⟩:=fH hz
      rw[<- R_at (ρ:=ρ) m4];exact c4 i m i1 (by omega) m2
     ·obtain⟨m,m1,m2,m3,m4⟩:=fH hz
      have:=g1 i i1 i2;have:=c7 (sa+na) m (by omega) m1 (by omega)
      rw[<- R_at (ρ:=ρ) m4];omega
    have high:∀ z∈r.toList,∀ j,sa+na+k2<=j->j < sa+na+nb->ρ z<=R ρ (arrOf st) j:=λz hz j j1 j2=>by
     rcases List.mem_append.mp (hG.2.mem_iff.mp hz) with hz|hz
     ·obtain⟨m,m1,m2,m3,m4⟩:=fH hz
      have:=g4 j j1 j2;have:=c4 m (sa+na - 1) (by omega) (by omega) (by omega)
      rw[<- R_at (ρ:=ρ) m4];omega
     ·obtain⟨m,m1,m2,m3,m4⟩:=fH hz
      rw[<- R_at (ρ:=ρ) m4];exact c7 m j m1 (by omega) j2
    intro i j h1 h2 h3
    by_cases i1:i < sa+k
    ·rw[ry i (by omega)]
     by_cases j1:j < sa+k
     ·rw[ry j (by omega)];exact c4 i j h1 h2 (by omega)
     ·by_cases j2:j < sa+k+r.toList.length
      ·rw[rz j (by omega) (by omega)];exact low _ (List.getElem_mem _) i h1 i1
      ·rw[ry j (by omega)]
       have:=g1 i h1 i1;have:=c7 (sa+na) j (by omega) (by omega) h3
       omega
    ·by_cases i2:i < sa+k+r.toList.length
     ·rw[rz i (by omega) (by omega)]
      by_cases j2:j < sa+k+r.toList.length
      ·rw[rz j (by omega) (by omega)]
       by_cases e:i=j
       ·subst e;exact Nat.le_refl _
       ·exact List.pairwise_iff_getElem.mp hG.1 _ _ (by omega) (by omega) (by omega)
      ·rw[ry j (by omega)];exact high _ (List.getElem_mem _) j (by omega) h3
     ·rw[ry i (by omega),ry j (by omega)];exact c7 i j (by omega) h2 h3
   by_cases hle2:na - k<=k2
   ·rw[if_pos hle2]
    exact wpS_bind (qy hL hB.kind T done)
   ·rw[if_neg hle2]
    exact wpS_bind (qC hL hB.kind T done)
end
end Vs

namespace Vs
open PySem PyProof.Rows
theorem Ch.modify {ρ:Keyed->Nat}{xs:Array Keyed}{f:Et->Et}(hf:∀ r,(f r).1=r.1/\(f r).2.1=r.2.1):∀ (l:List Et) (i s e:Nat),Ch ρ xs s e l->Ch ρ xs s e (l.modify i f)
 | [],i,s,e,h=>by rw[List.modify_nil];exact h
 | r::l,0,s,e,⟨h1,h2,h3,h4⟩=>by
  rw[List.modify_zero_cons];exact⟨(hf r).1.trans h1,by rw[(hf r).2];exact h2,by rw[(hf r).2];exact h3,by rw[(hf r).2];exact h4⟩
 | r::l,i+1,s,e,⟨h1,h2,h3,h4⟩=>by
  rw[List.modify_succ_cons];exact⟨h1,h2,h3,Ch.modify hf l i _ _ h4⟩
section
variable {M:Model}{Ar:Around}{E:Value->Shared->Prop}{s:Shared}{ρ:Keyed->Nat}{kd:SortKind}{P:Keyed->Prop}{a₀:Array Keyed}
theorem SI.setPend {st:SortSt}(h:SI kd a₀ st)(p:Array Et):SI kd a₀ (setPending st p):=⟨h.perm,h.kind,h.failed⟩
def gj (lo n:Nat):StateT SortSt Sem (ForInStep (Option Unit×Nat)):=do
 modify λs=>setPending s ((pendingOf s).push (lo,n,0))
 pure (ForInStep.yield (none,lo+n))
def eZ (size pw:Nat):StateT SortSt Sem (Option Unit×Unit) :=
 forIn [:size] ((none,()):Option Unit×Unit) λ_ _=>do
  let x <- get
  match (if (pendingOf x).size > 1 then (pendingOf x)[(pendingOf x).size - 2]? else none) with
  | some (_,_,older) =>
   if older<=pw then pure (ForInStep.done (none,()))
   else do
    let r <- mergeAt' ((pendingOf x).size - 2)
    if (!r)=true then pure (ForInStep.done (some (),())) else pure (ForInStep.yield (none,()))
  | _=>pure (ForInStep.done (none,()))
def fb (size lo n:Nat):StateT SortSt Sem (ForInStep (Option Unit×Nat)):=do
 let x <- get
 match (pendingOf x).back? with
 | some (s1,n1,_)=>do
  let r <- eZ size (power' size (2*s1+n1) (2*s1+n1+n1+n) size)
  match r.fst with
  | some r=>pure (ForInStep.done (some r,lo))
  | none=>do
   modify λs=>setPending s ((pendingOf s).modify ((pendingOf s).size - 1) λx=>(x.fst,x.2.fst,power' size (2*s1+n1) (2*s1+n1+n1+n) size))
   gj lo n
 | _=>gj lo n
theorem je {st:SortSt}{lo n:Nat}{Q:ForInStep (Option Unit×Nat)->SortSt->Prop}(hB:SI kd a₀ st)(hc:Ch ρ (arrOf st) 0 lo (pendingOf st).toList)(hn:1<=n)(hs:Seg ρ (arrOf st) lo (lo+n))
  (q:∀ st',SI kd a₀ st'->Ch ρ (arrOf st') 0 (lo+n) (pendingOf st').toList->Q (.yield (none,lo+n)) st'):wpS M Ar E s (gj lo n) Q st:=by
 unfold gj;refine wpS_bind (wpS_modify (wpS_pure (q _ (hB.setPend _) ?_)));show Ch ρ (arrOf st) 0 (lo+n) ((pendingOf st).push (lo,n,0)).toList;rw[Array.toList_push];exact Ch.app.mpr ⟨lo,hc,rfl,hn,hs,rfl⟩
theorem ln {st:SortSt}{pw lo n:Nat}{Q:Option Unit×Unit->SortSt->Prop}(hL:et M Ar E s ρ kd P)(h0:∀ p∈a₀.toList,P p)(hB:SI kd a₀ st)(hlo:lo<=a₀.size)(hc:Ch ρ (arrOf st) 0 lo (pendingOf st).toList)(hs:Seg ρ (arrOf st) lo (lo+n))
  (q:∀ st',SI kd a₀ st'->Ch ρ (arrOf st') 0 lo (pendingOf st').toList->Seg ρ (arrOf st') lo (lo+n)->Q (none,()) st'):wpS M Ar E s (eZ a₀.size pw) Q st:=by
 unfold eZ;refine wpS_forRange (I:=λx c st'=>c=(none,())/\SI kd a₀ st'/\Ch ρ (arrOf st') 0 lo (pendingOf st').toList/\Seg ρ (arrOf st') lo (lo+n)) ?step ?fin ⟨rfl,hB,hc,hs⟩
 case fin =>
  rintro c st' ⟨rfl,h1,h2,h3⟩;exact q st' h1 h2 h3
 case step =>
  rintro x c st' _ hx ⟨rfl,h1,h2,h3⟩;refine wpS_bind (wpS_get ?_)
  by_cases hz:(pendingOf st').size > 1
  ·rw[if_pos hz]
   have e:(pendingOf st')[(pendingOf st').size - 2]?=some (pendingOf st')[(pendingOf st').size - 2]:=Array.getElem?_eq_getElem (by omega)
   rw[e];dsimp only
   split
   ·exact wpS_pure (q st' h1 h2 h3)
   ·refine wpS_bind (jd hL h0 h1 hlo h2 (by omega) λst2 b1 b2 b3 b4=>?_)
    simp only[Bool.not_true,Bool.false_eq_true,if_false];exact wpS_pure ⟨rfl,b1,b2,h3.congr λk hk _=>b4 k hk⟩
  ·rw[if_neg hz]
   exact wpS_pure (q st' h1 h2 h3)
theorem qE {st:SortSt}{lo n:Nat}{Q:ForInStep (Option Unit×Nat)->SortSt->Prop}(hL:et M Ar E s ρ kd P)(h0:∀ p∈a₀.toList,P p)(hB:SI kd a₀ st)(hlo:lo<=a₀.size)(hc:Ch ρ (arrOf st) 0 lo (pendingOf st).toList)(hn:1<=n)(hs:Seg ρ (arrOf st) lo (lo+n))
  (q:∀ st',SI kd a₀ st'->Ch ρ (arrOf st') 0 (lo+n) (pendingOf st').toList->Q (.yield (none,lo+n)) st'):wpS M Ar E s (fb a₀.size lo n) Q st:=by
 unfold fb;refine wpS_bind (wpS_get ?_)
 split
 ·refine wpS_bind (ln hL h0 hB hlo hc hs λst' b1 b2 b3=>?_)
  dsimp only;refine wpS_bind (wpS_modify (je (b1.setPend _) ?_ hn b3 q));show Ch ρ (arrOf st') 0 lo ((pendingOf st').modify _ _).toList;rw[Array.toList_modify];refine Ch.modify ?_ _ _ _ _ b2;intro r;exact⟨rfl,rfl⟩
 ·exact je hB hc hn hs q
theorem HV (c:Prop)[Decidable c]{n:Nat}(h:2<=n):(if c then n - 2 - 1 else n - 2)+1 < n:=by split<;>omega
local macro_rules|`(tactic| walk_at "s_rest")=>`(tactic| (unfold fb eZ gj;congr 1;funext x;cases e:(pendingOf x).back? with
  | none=>rfl
  | some y=>(obtain⟨s1,n1,p1⟩:=y;dsimp only;congr 1;funext r;obtain⟨r1,r2⟩:=r;cases r1<;>rfl)))
theorem nU {st:SortSt}{Q:Unit->SortSt->Prop}(hL:et M Ar E s ρ kd P)(h0:∀ p∈a₀.toList,P p)(hB:SI kd a₀ st)(hp:pendingOf st=#[])(h2:2<=a₀.size)
  (h:∀ st',SI kd a₀ st'->Seg ρ (arrOf st') 0 a₀.size->Q () st'):wpS M Ar E s sortRuns' Q st:=by
 rw[sortRuns'_eq];refine wpS_bind (wpS_get ?_);dsimp only;rw[hB.size];generalize minRun' a₀.size a₀.size 0=mr;refine wpS_bind (wpS_mono (wpS_forRange (I:=λx c st'=>SI kd a₀ st'/\∃ lo,c=(none,lo)/\lo<=a₀.size/\(x<=lo\/lo=a₀.size)/\Ch ρ (arrOf st') 0 lo (pendingOf st').toList)
  (Q:=λc st'=>SI kd a₀ st'/\c=(none,a₀.size)/\Ch ρ (arrOf st') 0 a₀.size (pendingOf st').toList) ?step ?fin ⟨hB,0,rfl,Nat.zero_le _,.inl (Nat.le_refl _),by rw[hp];rfl⟩) ?post)
 case fin =>
  rintro c st' ⟨hB',lo,rfl,l1,l2,hc⟩;have:lo=a₀.size:=by omega
  subst this;exact⟨hB',rfl,hc⟩
 case step =>
  rintro x c st' _ hx ⟨hB',lo,rfl,l1,l2,hc⟩;dsimp only
  by_cases hge:lo>=a₀.size
  ·rw[if_pos hge]
   have:lo=a₀.size:=by omega
   subst this;exact wpS_pure ⟨hB',rfl,hc⟩
  ·rw[if_neg hge]
   refine wpS_bind (nO hL h0 (by omega) (by omega) hB' λm st1 f1 m1 m2 s1=>?_)
   dsimp only;have hc1:Ch ρ (arrOf st1) 0 lo (pendingOf st1).toList:=by rw[f1.pend];exact hc.congr λk _ hk=>f1.same k hk
   have go:∀ n st2,1<=n->lo+n<=a₀.size->SI kd a₀ st2->Ch ρ (arrOf st2) 0 lo (pendingOf st2).toList->Seg ρ (arrOf st2) lo (lo+n)->wpS M Ar E s (fb a₀.size lo n) (λr st' =>
     match r with
     | ForInStep.done c'=>SI kd a₀ st'/\c'=(none,a₀.size)/\Ch ρ (arrOf st') 0 a₀.size (pendingOf st').toList
     | ForInStep.yield c'=>SI kd a₀ st'/\∃ lo,c'=(none,lo)/\lo<=a₀.size/\(x+1<=lo\/lo=a₀.size)/\Ch ρ (arrOf st') 0 lo (pendingOf st').toList) st2:=λn st2 n1 n2 b1 b2 b3 =>
    qE hL h0 b1 l1 b2 n1 b3 λst' b1 b2=>⟨b1,lo+n,rfl,n2,by omega,b2⟩
   by_cases hlt:m < mr
   ·rw[if_pos hlt]
    refine wpS_bind (wpS_lift (wpAny_rule ⟨rfl,?_⟩));refine wpS_bind (kt hL h0 (by omega) (by omega) f1.si s1 λst2 f2 s2=>?_)
    simp only[Bool.not_true,Bool.false_eq_true,if_false];have z:=go (min (a₀.size - lo) mr) st2 (by omega) (by omega) f2.si (by rw[f2.pend];exact hc1.congr λk _ hk=>f2.same k hk) s2
    refine wpS_mono (Q:=_) (Eq.mpr (congrArg (λt=>wpS M Ar E s t _ st2) (?_:_=fb a₀.size lo (min (a₀.size - lo) mr))) z) ?_
    ·walk_at "s_rest"
    ·intro r st'' hr
     cases r<;>exact hr
   ·rw[if_neg hlt]
    have z:=go m st1 m1 (by omega) f1.si hc1 s1
    refine wpS_mono (Q:=_) (Eq.mpr (congrArg (λt=>wpS M Ar E s t _ st1) (?_:_=fb a₀.size lo m)) z) ?_
    ·walk_at "s_rest"
    ·intro r st'' hr
     cases r<;>exact hr
 case post =>
  rintro c st' ⟨hB',rfl,hc⟩;dsimp only;have hpl:(pendingOf st').size<=a₀.size:=by have:=Ch.le hc;simp only[Array.length_toList] at this;omega
  refine wpS_bind (wpS_mono (wpS_forRange (I:=λx c st'=>c=(none,())/\SI kd a₀ st'/\Ch ρ (arrOf st') 0 a₀.size (pendingOf st').toList/\((pendingOf st').size+x<=a₀.size\/(pendingOf st').size<=1))
   (Q:=λc st'=>c=(none,())/\SI kd a₀ st'/\Ch ρ (arrOf st') 0 a₀.size (pendingOf st').toList/\(pendingOf st').size<=1) ?fstep ?ffin ⟨rfl,hB',hc,.inl (by omega)⟩) ?fpost)
  case ffin =>
   rintro c st' ⟨rfl,b1,b2,b3⟩;exact⟨rfl,b1,b2,by omega⟩
  case fstep =>
   rintro x c st' _ hx ⟨rfl,b1,b2,b3⟩;refine wpS_bind (wpS_get ?_)
   try dsimp only
   by_cases hz:(pendingOf st').size<=1
   ·rw[if_pos hz]
    exact wpS_pure ⟨rfl,b1,b2,hz⟩
   ·rw[if_neg hz]
    refine wpS_bind (jd hL h0 b1 (Nat.le_refl _) b2 ?_ λst2 c1 c2 c3 c4=>?_)
    ·exact HV _ (by omega)
    ·simp only[Bool.not_true,Bool.false_eq_true,if_false]
     exact wpS_pure ⟨rfl,c1,c2,by omega⟩
  case fpost =>
   rintro c st' ⟨rfl,b1,b2,b3⟩;refine wpS_pure (h st' b1 ?_);have hl:(pendingOf st').toList.length<=1:=by simpa using b3
   generalize (pendingOf st').toList=l at b2 hl
   match l,b2,hl with
   | [],b2,_=>have:0=a₀.size:=b2;omega
   | [r],⟨_,_,h3,h4⟩,_ =>
    have h4:0+r.2.1=a₀.size:=h4;rw[h4] at h3;exact h3
   | _::_::_,_,hl=>simp at hl
end
end Vs

namespace Vs
open PySem PyProof.Rows PySem.W
theorem lx_irrefl:∀ a:List Int,HT.lexLt a a=false
 | []=>rfl
 | x::a=>by rw[HT.lexLt_cons,if_pos rfl];exact lx_irrefl a
theorem lx_trans:∀ a b c:List Int,HT.lexLt a b=true->HT.lexLt b c=true->HT.lexLt a c=true
 | [],[],_,h,_=>by cases h
 | [],_::_,[],_,h=>by cases h
 | [],_::_,_::_,_,_=>rfl
 | _::_,[],_,h,_=>by cases h
 | _::_,_::_,[],_,h=>by cases h
 | x::a,y::b,z::c,h1,h2=>by
  rw[HT.lexLt_cons] at h1 h2 ⊢
  by_cases e1:x=y
  ·rw[if_pos e1] at h1
   by_cases e2:y=z
   ·rw[if_pos e2] at h2
    rw[if_pos (e1.trans e2)];exact lx_trans a b c h1 h2
   ·rw[if_neg e2] at h2
    have:=of_decide_eq_true h2;rw[if_neg (by omega)];exact decide_eq_true (by omega)
  ·rw[if_neg e1] at h1
   have h1:=of_decide_eq_true h1
   by_cases e2:y=z
   ·rw[if_neg (by omega)];exact decide_eq_true (by omega)
   ·rw[if_neg e2] at h2
    have:=of_decide_eq_true h2;rw[if_neg (by omega)];exact decide_eq_true (by omega)
theorem lx_tri:∀ a b:List Int,HT.lexLt a b=false->HT.lexLt b a=false->a=b
 | [],[],_,_=>rfl
 | [],_::_,h,_=>by cases h
 | _::_,[],_,h=>by cases h
 | x::a,y::b,h1,h2=>by
  rw[HT.lexLt_cons] at h1 h2
  by_cases e1:x=y
  ·rw[if_pos e1] at h1
   rw[if_pos e1.symm] at h2;rw[e1,lx_tri a b h1 h2]
  ·rw[if_neg e1] at h1
   rw[if_neg (Ne.symm e1)] at h2;have:=of_decide_eq_false h1;have:=of_decide_eq_false h2;omega
def rk (d:Keyed->List Int)(l:List Keyed)(x:Keyed):Nat:=l.countP λp=>HT.lexLt (d p) (d x)
theorem mi {α:Type}{p q:α->Bool}:∀ {l:List α} {x:α},(∀ y,p y=true->q y=true)->x∈l->p x=false->q x=true->l.countP p < l.countP q
 | y::l,x,h,hx,h1,h2=>by
  rcases List.mem_cons.mp hx with rfl|hx
  ·rw[List.countP_cons_of_neg (by rw[h1];decide),List.countP_cons_of_pos h2]
   exact Nat.lt_succ_of_le (List.countP_mono_left λy _=>h y)
  ·have ih:=mi h hx h1 h2
   rw[List.countP_cons,List.countP_cons];cases e:p y with
   | true=>rw[h y e];simpa using ih
   | false=>split<;>split<;>first|omega | (exfalso;simp_all)
theorem rk_lt {d:Keyed->List Int}{l:List Keyed}{x y:Keyed}(hx:x∈l):decide (rk d l x < rk d l y)=HT.lexLt (d x) (d y):=by
 cases e:HT.lexLt (d x) (d y) with
 | true =>
  refine decide_eq_true (mi (x:=x) (λp hp=>lx_trans _ _ _ hp e) hx (lx_irrefl _) e)
 | false =>
  refine decide_eq_false (Nat.not_lt.mpr (List.countP_mono_left λp _ hp=>?_));cases e2:HT.lexLt (d p) (d x) with
  | true=>rfl
  | false =>
   cases e3:HT.lexLt (d x) (d p) with
   | true=>rw[lx_trans _ _ _ e3 hp] at e;cases e
   | false =>
    rw[lx_tri _ _ e2 e3] at hp;rw[hp] at e;cases e
section
variable {prog:Program}{w:World}{A:Around}{E:Value->Shared->Prop}{s:Shared}
theorem jf {b:Bool}{Q:Bool->Shared->Prop}:∀ {vs ws:List Value} {ns ms:List Int} (i:Nat) (fin:Bool),IntsAre vs ns->IntsAre ws ms->fin=decide (vs.length < ws.length)->Q (HT.lexLt ns ms) s->KatLex prog w A b fin Q (vs.zip ws) i s
 | _,_,_,_,i,fin,.nil,.nil,e,q=>by subst e;exact kat_nil q
 | _,_,_,_,i,fin,.nil,.cons _ _ _,e,q=>by subst e;rw[HT.lexLt_nil_cons] at q;exact kat_nil (by simpa using q)
 | _,_,_,_,i,fin,.cons _ _ _,.nil,e,q=>by subst e;rw[HT.lexLt_cons_nil] at q;exact kat_nil (by simpa using q)
 | _,_,_,_,i,fin,.cons n t h1,.cons m u h2,e,q=>by
  rw[List.zip_cons_cons];refine kat_cons (wpAny_eqBool_int ?_);rw[HT.lexLt_cons] at q
  by_cases h:n=m
  ·rw[if_pos h] at q
   rw[show (n==m)=true from by simpa using h]
   exact kat_yes (jf (i+1) fin h1 h2 (by rw[e];simp) q)
  ·rw[if_neg h] at q
   rw[show (n==m)=false from by simpa using h]
   refine kat_no ?_;cases (b&&i==0) with
   | true=>exact oneLt_int q
   | false=>exact kat_one _ _ (lt_int q)
def TupI (h:Heap)(v:Value)(ns:List Int):Prop:=∃ a o xs n,v=.ref a/\h.get? a=some o/\o.cls=.type "tuple"/\o.data=.seq xs n/\IntsAre xs.toList ns
theorem TupI.kept {h g:Heap}{v:Value}{ns:List Int}(t:TupI h v ns)(k:∀ b o,h.get? b=some o->g.get? b=some o):TupI g v ns:=by
 obtain⟨a,o,xs,n,e,ho,r⟩:=t;exact⟨a,o,xs,n,e,k _ _ ho,r⟩
theorem vv {b:Bool}{v u:Value}{ns ms:List Int}{Q:Bool->Shared->Prop}(h1:TupI s.heap v ns)(h2:TupI s.heap u ms)(q:Q (HT.lexLt ns ms) s):wpAny (model prog w) A (keyLt' (tuples' b) v u) Q E s:=by
 obtain⟨a,o,xs,n,rfl,ho,hc,hd,hi⟩:=h1;obtain⟨a2,o2,xs2,n2,rfl,ho2,hc2,hd2,hi2⟩:=h2;exact kat_lt ho hd ho2 hd2 (jf 0 _ hi hi2 (by simp) q)
theorem ltH_tup {b:Bool}{l:List Keyed}{d:Keyed->List Int}(h:∀ x∈l,TupI s.heap x.1 (d x)):et (model prog w) A E s (rk d l) (tuples' b) (λx=>x∈l):=λx y st Q hx hy hk q=>by
 rw[rk_lt hx] at q;rw[lt'_eq];refine wpS_bind (wpS_get ?_);rw[hk];exact wpS_bind (wpS_lift (wpAny_attempt (vv (h x hx) (h y hy) ⟨rfl,wpS_pure q⟩)))
theorem kind_tup {vs:List Value}{Q:SortKind->Shared->Prop}(hl:0 < vs.length)(h:∀ v∈vs,∃ ns,TupI s.heap v ns/\ns≠[])(q:Q (tuples' true) s):wpAny (model prog w) A (keyKind' vs.toArray) Q E s:=by
 have key:∀ vs:List Value,(∀ v∈vs,∃ ns,TupI s.heap v ns/\ns≠[])->∃ fs,KatTups s.heap vs fs/\fs.length=vs.length/\∀ v∈fs,∃ n t,v=Value.int n t:=by
  intro vs
  induction vs with
  | nil=>intro _;exact⟨[],KatTups.nil,rfl,λv hv=>by cases hv⟩
  | cons v vs ih =>
   intro h;obtain⟨ns,⟨a,o,xs,n,rfl,ho,hc,hd,hi⟩,hne⟩:=h v (List.mem_cons_self ..);obtain⟨fs,f1,f2,f3⟩:=ih λu hu=>h u (List.mem_cons_of_mem _ hu);obtain⟨f,hf,hn⟩:∃ f,xs[0]?=some f/\∃ n t,f=Value.int n t:=by
    rw[<- Array.getElem?_toList];generalize xs.toList=ys at hi;cases hi with
    | nil=>exact absurd rfl hne
    | cons n t _=>exact⟨_,rfl,n,t,rfl⟩
   refine⟨f::fs,KatTups.cons ho hc hd hf f1,by simp [f2],λv hv=>?_⟩
   rcases List.mem_cons.mp hv with rfl|hv
   ·exact hn
   ·exact f3 v hv
 obtain⟨fs,f1,f2,f3⟩:=key vs h;refine kat_kind (T:=.type "int") f1 (by omega) (λv hv=>?_) rfl q
 obtain⟨n,t,rfl⟩:=f3 v hv;exact Looks.now
theorem fy {a:Addr}{vs:List Value}{n:Nat}{kd:SortKind}{ρ:Keyed->Nat}{P:Keyed->Prop}{Pf:PySem.Fin->Shared->Prop}(ho:s.heap.get? a=some (seqObj "list" vs.toArray n))(hz:vs.length<=sizeLine)(h0:∀ p∈(pairsOf vs).toList,P p)
  (hk:2<=vs.length->∀ g:Heap,(∀ b o,b≠a->s.heap.get? b=some o->g.get? b=some o)->(∀ Q:SortKind->Shared->Prop,Q kd { s with heap:=g }->wpAny (model prog w) A (keyKind' vs.toArray) Q E { s with heap:=g })/\et (model prog w) A E { s with heap:=g } ρ kd P)
  (h:∀ (xs:Array Keyed) (g:Heap) (c:Nat),xs.Perm (pairsOf vs)->Seg ρ xs 0 vs.length->(∀ b o,b≠a->s.heap.get? b=some o->g.get? b=some o)->g.get? a=some (seqObj "list" (xs.map (·.2)) c)->Pf (.done (.ret .none)) { s with heap:=g }) :
  wpAny (model prog w) A (Builtin.«list.sort» ⟨[.ref a],[]⟩) Pf E s:=by
 rw[list_sort_plain];have ha:a < s.heap.objs.size:=Heap.lt_size ho;have hsz:vs.toArray.size=vs.length:=by simp
 refine wpAny_bind (listItems_at ho rfl ?_);refine wpAny_bind (listUpdate_at ho rfl ?_ (by rw[hsz];exact hz) (Nat.zero_le _))
 obtain⟨e1,ho1⟩:∃ e1,(s.heap.update a (Obj.mapSeq λ_=>#[])).get? a=some (seqObj "list" #[] e1):=⟨_,get?_update_seq ho (λ_=>#[])⟩;refine wpAny_bind (seqEpoch_at ho1 rfl ?_);refine wpAny_bind (wpAny_newTuple ?_ (by show vs.length<=_;exact hz))
 refine wpAny_bind (wpAny_newList ?_ (Nat.zero_le _));refine wpAny_holding ?_;have keep:∀ b o,b≠a->s.heap.get? b=some o->(((s.heap.update a (Obj.mapSeq λ_=>#[])).push (seqObj "tuple" vs.toArray 0)).push (seqObj "list" #[] 0)).get? b=some o:=λb o hb e =>
  Heap.get?_push_of_some _ (Heap.get?_push_of_some _ ((Heap.get?_update_other _ _ (Ne.symm hb)).trans e))
 have ho6:(((s.heap.update a (Obj.mapSeq λ_=>#[])).push (seqObj "tuple" vs.toArray 0)).push (seqObj "list" #[] 0)).get? a=some (seqObj "list" #[] e1):=Heap.get?_push_of_some _ (Heap.get?_push_of_some _ ho1);show wpAny (model prog w) A _ Pf E { s with heap:=((s.heap.update a (Obj.mapSeq λ_=>#[])).push (seqObj "tuple" vs.toArray 0)).push (seqObj "list" #[] 0) }
 dsimp only;generalize hg6:((s.heap.update a (Obj.mapSeq λ_=>#[])).push (seqObj "tuple" vs.toArray 0)).push (seqObj "list" #[] 0)=g6 at keep ho6;have fin:∀ xs:Array Keyed,xs.Perm (pairsOf vs)->Seg ρ xs 0 vs.length->Pf (.done (.ret .none)) { s with heap:=g6.update a (Obj.mapSeq λ_=>xs.map (·.2)) }:=λxs hp hs =>
  h xs _ _ hp hs (λb o hb e=>(Heap.get?_update_other _ _ (Ne.symm hb)).trans (keep b o hb e)) (get?_update_seq ho6 λ_=>xs.map (·.2))
 by_cases h2:vs.toArray.size < 2
 ·rw[if_pos h2,if_pos h2]
  refine wpAny_bind (wpAny_pure ?_);rw[StateT.run_pure];refine wpAny_bind (wpAny_pure ?_);dsimp only;refine wpAny_bind (seqEpoch_at ho6 rfl ?_);refine wpAny_bind (listUpdate_at ho6 rfl ?_ (Nat.zero_le _) (by rw[Array.size_map];show (pairsOf vs).size<=_;rw[pairsOf_size];exact Nat.le_succ_of_le hz))
  simp only[bne_self_eq_false,Bool.false_eq_true,if_false];refine wpAny_pure (fin _ (Array.Perm.refl _) λi j _ hij hj=>?_);have:i=j:=by omega
  subst this;exact Nat.le_refl _
 ·rw[if_neg h2,if_neg h2]
  obtain⟨k1,k2⟩:=hk (by omega) g6 keep
  refine wpAny_bind (k1 _ ?_);refine wpAny_bind (wpAny_mono (nU (a₀:=pairsOf vs) (kd:=kd) (st:=SortSt.mk' kd (vs.toArray.zip vs.toArray) #[] 7 none)
   (Q:=λ_ st'=>SI kd (pairsOf vs) st'/\Seg ρ (arrOf st') 0 (pairsOf vs).size) k2 h0 ⟨Array.Perm.refl _,rfl,rfl⟩ rfl (by rw[pairsOf_size];omega) λst' a1 a2=>⟨a1,a2⟩) ?_ λ_ _ e=>e)
  rintro ⟨⟨⟩,st'⟩ s' ⟨rfl,hp,hs⟩;dsimp only;refine wpAny_bind (seqEpoch_at ho6 rfl ?_);refine wpAny_bind (listUpdate_at ho6 rfl ?_ (Nat.zero_le _) (by refine Nat.le_trans (Nat.le_of_eq ((Array.size_map ..).trans (hp.size.trans (pairsOf_size _)))) ?_;exact Nat.le_succ_of_le hz))
  rw[hp.failed];simp only[bne_self_eq_false,Bool.false_eq_true,if_false];rw[pairsOf_size] at hs;exact wpAny_pure (fin _ hp.perm hs)
theorem sorted_any {l:Addr}{vs:List Value}{kd:SortKind}{ρ:Keyed->Nat}{P:Keyed->Prop}{Q:Value->Shared->Prop}(hl:s.heap.IsList l vs.toArray)(hz:vs.length<=sizeLine)(h0:∀ p∈(pairsOf vs).toList,P p)
  (hk:2<=vs.length->∀ (A':Around) (E':Value->Shared->Prop) (g:Heap),(∀ b o,s.heap.get? b=some o->g.get? b=some o)->(∀ Q:SortKind->Shared->Prop,Q kd { s with heap:=g }->wpAny (model prog w) A' (keyKind' vs.toArray) Q E' { s with heap:=g })/\et (model prog w) A' E' { s with heap:=g } ρ kd P)
  (h:∀ (xs:Array Keyed) (g:Heap) (c:Nat),xs.Perm (pairsOf vs)->Seg ρ xs 0 vs.length->(∀ b o,s.heap.get? b=some o->g.get? b=some o)->g.get? (s.heap.objs.size+1)=some (seqObj "list" (xs.map (·.2)) c)->Q (.ref (s.heap.objs.size+1)) { s with heap:=g }) :
  wpAny (model prog w) A (call (.builtin "sorted") [.ref l]) Q E s:=by
 refine Calls.call_function_entry kind_sorted plain_sorted entry_sorted (args_sorted1 _) ?_;unfold Builtin.«sorted»;refine wpAny_bind (m:=checkCount "sorted" 1 1 _) (wpAny_pure ?_);refine wpAny_bind (collect_list hl ?_ hz);refine wpAny_bind (wpAny_newList ?_ hz);have hsz:((s.heap.push (seqObj "list" #[] 0)).update s.heap.objs.size (Obj.mapSeq (·++vs.toArray))).objs.size=s.heap.objs.size+1:=by
  rw[Heap.size_update,size_push']
 have hoL:(((s.heap.push (seqObj "list" #[] 0)).update s.heap.objs.size (Obj.mapSeq (·++vs.toArray))).push (seqObj "list" vs.toArray 0)).get? (s.heap.objs.size+1)=some (seqObj "list" vs.toArray 0):=by
  rw[<- hsz];exact Heap.get?_push_size _ rfl
 have keep:∀ b o,s.heap.get? b=some o->(((s.heap.push (seqObj "list" #[] 0)).update s.heap.objs.size (Obj.mapSeq (·++vs.toArray))).push (seqObj "list" vs.toArray 0)).get? b=some o:=λb o e=>by
  have hlt:b < s.heap.objs.size:=Heap.lt_size e;exact Heap.get?_push_of_some _ ((Heap.get?_update_other _ _ (Ne.symm (Nat.ne_of_lt hlt))).trans (Heap.get?_push_of_some _ e))
 have ne:∀ b o,s.heap.get? b=some o->b≠s.heap.objs.size+1:=λb o e=>Nat.ne_of_lt (Nat.lt_succ_of_lt (Heap.lt_size e));show wpAny _ _ _ _ _ { s with heap:=((s.heap.push (seqObj "list" #[] 0)).update s.heap.objs.size (Obj.mapSeq (·++vs.toArray))).push (seqObj "list" vs.toArray 0) }
 rw[hsz];refine wpAny_bind (wpAny_holding (wpAny_call_entry slot_list_sort ⟨_,hoL,rfl⟩ entry_list_sort (fy (kd:=kd) (ρ:=ρ) (P:=P) hoL hz h0 (λh2 g kg=>hk h2 _ _ g λb o e=>kg b o (ne b o e) (keep b o e)) λxs g c a1 a2 a3 a4=>⟨_,rfl,?_⟩) (args_list_sort _)));exact wpAny_pure ⟨_,rfl,h xs g c a1 a2 (λb o e=>a3 b o (ne b o e) (keep b o e)) a4⟩
end
end Vs

namespace Vc
open PySem L2
def vw:Value->V
 | .ref a=>.ref a
 | _=>.non
theorem xo {us:List V}{its:List Value}(r:Vals us its)(h:∀ u∈us,∃ a,u=.ref a):us=its.map vw:=by
 induction r with
 | nil=>rfl
 | cons r _ ih =>
  obtain⟨a,rfl⟩:=h _ (List.mem_cons_self ..);cases r;rw[List.map_cons,<- ih λu hu=>h u (List.mem_cons_of_mem _ hu)];rfl
theorem Ex {its:List Value}(h:∀ v∈its,∃ a,v=.ref a):Vals (its.map vw) its:=by
 induction its with
 | nil=>exact .nil
 | cons v its ih =>
  obtain⟨a,rfl⟩:=h _ (List.mem_cons_self ..);exact .cons rfl (ih λu hu=>h u (List.mem_cons_of_mem _ hu))
theorem dz {α:Type}:∀ l:List α,l.zip l=l.map λx=>(x,x)
 | []=>rfl
 | x::l=>by rw[List.zip_cons_cons,List.map_cons,dz l]
theorem qG {X:Cx}:CallR X (.builtin "sorted") (λxs H Q=>∃ (p:Addr) (us:List V) (dd:V->List Int),xs=[.ref p]/\SqL X.K H p us/\(∀ u∈us,(∃ a,u=.ref a/\SqT X.K H a ((dd u).map V.int))/\dd u≠[]) /\
  ∀ (us':List V),us'.Perm us->us'.Pairwise (λx y=>HT.lexLt (dd y) (dd x)=false)->∀ l,H l=none->Q (.ref l) (bj H l (.lst us'))):=by
 intro pins s σ H xs us0 Q I r h;obtain⟨p,us,dd,rfl,hq,hu,q⟩:=h;obtain⟨u,rfl,rx⟩:=dt r;cases rx;obtain⟨its,rv,pl,hz⟩:=I.list hq;have hlen:=rv.length;have eus:us=its.map vw:=xo rv λu h=>by obtain⟨⟨a,e,_⟩,_⟩:=hu u h;exact⟨a,e⟩
 have itr:∀ v∈its,∃ a,v=.ref a:=λv hv=>by
  obtain⟨i,hi,e⟩:=List.mem_iff_getElem.mp hv;obtain⟨u,hu1,ru⟩:=rv.get (i:=i) (x:=us[i]'(by omega)) (List.getElem?_eq_getElem _)
  rw[List.getElem?_eq_getElem hi] at hu1;cases hu1;obtain⟨⟨a,e2,_⟩,_⟩:=hu (us[i]'(by omega)) (List.getElem_mem _)
  rw[e2] at ru;exact⟨a,by rw[<- e];exact ru⟩
 have tup:∀ v∈its,Vs.TupI s.heap v (dd (vw v))/\dd (vw v)≠[]:=λv hv=>by
  obtain⟨a,rfl⟩:=itr v hv;have hm:vw (.ref a)∈us:=by rw[eus];exact List.mem_map.mpr ⟨_,hv,rfl⟩
  obtain⟨⟨b,e,hT⟩,hne⟩:=hu _ hm;cases e;obtain⟨ts,r1,⟨o,ho,hc,n,hd⟩,_⟩:=I.tuple hT;exact⟨⟨a,o,ts.toArray,n,rfl,ho,hc,hd,intsAre_of r1⟩,hne⟩
 have mem:∀ x:PyProof.Rows.Keyed,x∈(PyProof.Rows.pairsOf its).toList->x.1∈its/\x.1=x.2:=λx hx=>by
  rw[PyProof.Rows.pairsOf_toList,dz] at hx;obtain⟨v,hv,rfl⟩:=List.mem_map.mp hx;exact⟨hv,rfl⟩
 refine Vs.sorted_any (kd:=PyProof.Rows.tuples' true) (ρ:=Vs.rk (λx=>dd (vw x.1)) (PyProof.Rows.pairsOf its).toList) (P:=λx=>x∈(PyProof.Rows.pairsOf its).toList) pl.isList (by omega) (λ_ h=>h) (λh2 A' E' g kg=>⟨λQ hQ=>?_,?_⟩) λxs g c hp hs kg hg=>?_
 ·exact Vs.kind_tup (s:={ s with heap:=g }) (by omega) (λv hv=>⟨_,(tup v hv).1.kept kg,(tup v hv).2⟩) hQ
 ·exact Vs.ltH_tup (s:={ s with heap:=g }) λx hx=>(tup x.1 (mem x hx).1).1.kept kg
 ·have hpl:xs.toList.Perm (PyProof.Rows.pairsOf its).toList:=Array.perm_iff_toList_perm.mp hp
  have hsz:xs.size=its.length:=by have:=hp.size_eq;rw[PyProof.Rows.pairsOf_size] at this;exact this
  have hm2:∀ x∈xs.toList,x.1∈its/\x.1=x.2:=λx hx=>mem x (hpl.mem_iff.mp hx);have perm:(xs.toList.map λx=>vw x.2).Perm us:=by
   rw[eus];refine (hpl.map λx=>vw x.2).trans ?_;rw[PyProof.Rows.pairsOf_toList,dz,List.map_map];exact List.Perm.refl _
  have eq2:xs.toList.map (λx=>vw x.2)=(xs.map (·.2)).toList.map vw:=by
   rw[Array.toList_map,List.map_map];rfl
  refine⟨.ref (s.heap.objs.size+1),_,I.laid (t':=s.toks) (o:=.lst (xs.toList.map λx=>vw x.2)) kg (Nat.le_succ _) ⟨?_,(xs.map (·.2)).toList,c,?_,hg⟩,rfl,q _ perm ?_ _ (I.hok.fresh (Nat.le_succ _))⟩
  ·rw[perm.length_eq];exact hz
  ·rw[eq2]
   refine Ex λv hv=>?_;rw[Array.toList_map] at hv;obtain⟨x,hx,rfl⟩:=List.mem_map.mp hv;have:=hm2 x hx;exact itr _ (this.2 ▸ this.1)
  ·rw[List.pairwise_map]
   refine List.pairwise_iff_getElem.mpr λi j hi hj hij=>?_;have hi':i < xs.size:=by simpa using hi
   have hj':j < xs.size:=by simpa using hj
   have h1:=hs i j (Nat.zero_le _) (Nat.le_of_lt hij) (by omega)
   rw[Vs.R_at (Array.getElem?_eq_getElem hi'),Vs.R_at (Array.getElem?_eq_getElem hj')] at h1;have e1:xs.toList[i]=xs[i]:=rfl;have e2:xs.toList[j]=xs[j]:=rfl;rw[e1,e2];have m1:=hm2 xs[i] (by simp)
   have m2:=hm2 xs[j] (by simp)
   have:=Vs.rk_lt (d:=λx=>dd (vw x.1)) (l:=(PyProof.Rows.pairsOf its).toList) (x:=xs[j]) (y:=xs[i]) (hpl.mem_iff.mp (by simp))
   rw[decide_eq_false (by omega)] at this
   rw[<- m1.2,<- m2.2];exact this.symm
variable [KF]
variable {G:GE}{k:Nat}{S:Stat}
def dm:D->List Int
 | .tup xs=>xs.map nK
 | .int i=>[i]
 | _=>[]
def kZ (x y:D):Bool:=!HT.lexLt (dm y) (dm x)
def eg (xs:List D):List D:=xs.mergeSort kZ
def fq:D->Bool
 | .tup xs=>xs.all isInt&&!xs.isEmpty
 | _=>false
theorem iD (a b c:D)(h1:kZ a b=true)(h2:kZ b c=true):kZ a c=true:=by
 unfold kZ at *;simp only[Bool.not_eq_true'] at *;cases e:HT.lexLt (dm c) (dm a) with
 | false=>rfl
 | true =>
  cases e2:HT.lexLt (dm c) (dm b) with
  | true=>rw[h2] at e2;cases e2
  | false =>
   cases e3:HT.lexLt (dm b) (dm c) with
   | true=>rw[Vs.lx_trans _ _ _ e3 e] at h1;cases h1
   | false=>rw[Vs.lx_tri _ _ e2 e3] at e;rw[e] at h1;cases h1
theorem vx (a b:D):(kZ a b||kZ b a)=true:=by
 unfold kZ;cases e:HT.lexLt (dm b) (dm a) with
 | false=>rfl
 | true =>
  cases e2:HT.lexLt (dm a) (dm b) with
  | false=>rfl
  | true=>have:=Vs.lx_trans _ _ _ e e2;rw[Vs.lx_irrefl] at this;cases this
theorem cO (xs:List D):(eg xs).Perm xs:=List.mergeSort_perm xs kZ
theorem gk (xs:List D):(eg xs).Pairwise λx y=>kZ x y=true:=List.pairwise_mergeSort iD vx xs
theorem qH:∀ {xs:List D},xs.all isInt=true->(xs.map nK).map D.int=xs
 | [],_=>rfl
 | x::xs,h=>by
  rw[List.all_cons,Bool.and_eq_true] at h;cases x with
  | int i=>rw[List.map_cons,List.map_cons,qH h.2];rfl
  | _=>exact absurd h.1 (by simp [isInt])
theorem dg {d:D}(h:fq d=true):d=.tup ((dm d).map D.int):=by
 cases d with
 | tup xs =>
  unfold fq at h;rw[Bool.and_eq_true] at h;show D.tup xs=.tup ((xs.map nK).map D.int);rw[qH h.1]
 | _=>exact absurd h (by simp [fq])
theorem eL {α:Type}{r:α->α->Prop}:∀ {l m:List α},l.Perm m->(∀ a∈l,∀ b∈l,r a b->r b a->a=b)->l.Pairwise r->m.Pairwise r->l=m
 | [],m,h,_,_,_=>(List.nil_perm.mp h).symm
 | a::l,[],h,_,_,_=>by have:=h.length_eq;simp at this
 | a::l,b::m,h,anti,h1,h2=>by
  have hb:b∈a::l:=h.symm.mem_iff.mp (List.mem_cons_self ..);have ha:a∈b::m:=h.mem_iff.mp (List.mem_cons_self ..);rw[List.pairwise_cons] at h1 h2;have e:a=b:=by
   rcases List.mem_cons.mp hb with e|hb
   ·exact e.symm
   ·rcases List.mem_cons.mp ha with e|ha
    ·exact e
    ·exact anti a (List.mem_cons_self ..) b (List.mem_cons_of_mem _ hb) (h1.1 b hb) (h2.1 a ha)
  subst e;rw[eL h.cons_inv (λx hx y hy=>anti x (List.mem_cons_of_mem _ hx) y (List.mem_cons_of_mem _ hy)) h1.2 h2.2]
theorem xp {xs ys:List D}(h:xs.all fq=true)(hp:ys.Perm xs)(hs:ys.Pairwise λx y=>kZ x y=true):ys=eg xs:=by
 refine eL (hp.trans (cO xs).symm) (λa ha b hb h1 h2=>?_) hs (gk xs);have ia:=dg (List.all_eq_true.mp h a (hp.mem_iff.mp ha));have ib:=dg (List.all_eq_true.mp h b (hp.mem_iff.mp hb));unfold kZ at h1 h2;simp only[Bool.not_eq_true'] at h1 h2;rw[ia,ib,Vs.lx_tri _ _ h2 h1]
def jA:List D->(EV->Prop)->Prop
 | [.lst xs],Q=>xs.all fq=true/\Q (.own (eg xs))
 | _,_=>False
def Ey (F:Hp):V->List Int
 | .ref a=>match F a with
  | some (.tup vs)=>vs.map λv=>match v with|.int i=>i|_=>0
  | _=>[]
 | _=>[]
theorem nV {F:Hp}{v:V}{d:D}(r:Rep F v d)(h:fq d=true):Ey F v=dm d/\∃ a,v=.ref a/\F a=some (.tup ((dm d).map V.int)):=by
 cases r with
 | tup hf rl =>
  unfold fq at h;rw[Bool.and_eq_true] at h;have e:=rl.ints h.1;subst e;refine⟨?_,_,rfl,hf⟩;unfold Ey;dsimp only;rw[hf];dsimp only;rw[List.map_map];exact (List.map_congr_left (λx _=>rfl)).trans (List.map_id _)
 | _=>exact absurd h (by simp [fq])
theorem qI {F:Hp}:∀ {vs:List V} {xs:List D},RepL F vs xs->xs.all fq=true->xs=vs.map λv=>.tup ((Ey F v).map D.int)
 | _,_,.nil,_=>rfl
 | _,_,.cons r t,h=>by
  rw[List.all_cons,Bool.and_eq_true] at h;rw[List.map_cons,<- qI t h.2,(nV r h.1).1,<- dg h.1]
theorem RepL.mem {F:Hp}:∀ {vs:List V} {xs:List D},RepL F vs xs->∀ v∈vs,∃ d∈xs,Rep F v d
 | _,_,.cons r t,v,hv=>by
  rcases List.mem_cons.mp hv with rfl|hv
  ·exact⟨_,List.mem_cons_self ..,r⟩
  ·obtain⟨d,hd,rd⟩:=RepL.mem t v hv
   exact⟨d,List.mem_cons_of_mem _ hd,rd⟩
theorem tT {F:Hp}{f:V->D}:∀ {vs:List V},(∀ v∈vs,Rep F v (f v))->RepL F vs (vs.map f)
 | [],_=>.nil
 | v::vs,h=>.cons (h v (List.mem_cons_self ..)) (tT λu hu=>h u (List.mem_cons_of_mem _ hu))
theorem xq:vO G k S (.builtin "sorted") jA:=⟨λK xs H Q=>∃ (p:Addr) (us:List V) (dd:V->List Int),xs=[.ref p]/\SqL K H p us/\(∀ u∈us,(∃ a,u=.ref a/\SqT K H a ((dd u).map V.int))/\dd u≠[]) /\
  ∀ (us':List V),us'.Perm us->us'.Pairwise (λx y=>HT.lexLt (dd y) (dd x)=false)->∀ l,H l=none->Q (.ref l) (bj H l (.lst us')),λ_ _ ok=>qG,λY F H σd σ vs ds Qd Q R r q g=>by
 unfold jA at q
 split at q
 ·rename_i xs
  obtain⟨v,rfl,rv⟩:=r.one;obtain⟨p,us,rfl,h1,h2⟩:=rv.lst;have all:=List.all_eq_true.mp q.1;refine⟨p,us,Ey F,rfl,.inl h1,λu hu=>?_,λus' hp hs=>?_⟩
  ·obtain⟨d,hd,rd⟩:=h2.mem u hu
   obtain⟨e1,a,rfl,e2⟩:=nV rd (all d hd);refine⟨⟨a,rfl,.of (by rw[e1];exact R.fr _ _ e2)⟩,?_⟩
   rw[e1];have hi:=all d hd;cases d with
   | tup ys =>
    unfold fq at hi;rw[Bool.and_eq_true] at hi;intro z;have:ys=[]:=by simpa [dm] using z
    subst this;exact absurd hi.2 (by decide)
   | _=>exact absurd hi (by simp [fq])
  ·have ex:=qI h2 q.1
   have rep:∀ v∈us',Rep F v (.tup ((Ey F v).map D.int)):=λv hv=>by
    obtain⟨d,hd,rd⟩:=h2.mem v (hp.mem_iff.mp hv);rw[(nV rd (all d hd)).1,<- dg (all d hd)];exact rd
   have key:∀ v,dm (.tup ((Ey F v).map D.int))=Ey F v:=λv=>by
    show ((Ey F v).map D.int).map nK=_;rw[List.map_map];exact (List.map_congr_left (λx _=>rfl)).trans (List.map_id _)
   have e:us'.map (λv=>D.tup ((Ey F v).map D.int))=eg xs:=by
    refine xp q.1 (by rw[ex];exact hp.map _) ?_
    rw[List.pairwise_map];refine hs.imp λ{x y} h=>?_;unfold kZ;rw[key,key,h];rfl
   have rl:=tT rep;rw[e] at rl;exact g.own R rl q.2
 ·exact q.elim⟩
end Vc

namespace Vc
open PySem L2
variable [KF]
variable {G:GE}{k:Nat}{S:Stat}
def xr (i:Nat)(j:Int)(d:D)(σ:Sd)(Q:Sd->Prop):Prop:=match σ[i]? with
 | some (some (.own xs))=>match ixN xs.length j with
  | some m=>Q (σ.set i (some (.own (xs.set m d))))
  | none=>False
 | _=>False
def qJ (i:Nat)(tx:TV)(te:TD):br:=λDe σ=>te σ λd σ1=>tL σ1 i/\tx σ1 λy σ2=>match drf σ2 y with
 | some (.int j)=>xr i j d σ2 De.nx
 | _=>False
theorem Ez {X:Cx}{st:Stmt}{t t':TS}(h:PS X st t)(i:∀ Dn σ H,t' Dn σ H->t Dn σ H):PS X st t':=λpins s σ H Dn I q=>h pins s σ H Dn I (i Dn σ H q)
theorem sG (i:Nat){x:Str}{ix e:Expr}{tx:TV}{te:TD}{pos spos npos:Pos}(he:ED G k S e te)(hx:EO G k S ix tx)(ho:EO G k S (.Name x npos) (ab i))
  (hs:∀ line env,swapsWithSole [.Subscript (.Name x npos) ix spos] e line env=pure false:=by intro _ _;rfl) (hw:∀ env,swappedStores [.Subscript (.Name x npos) ix spos] e env=pure none:=by intro _;rfl)
  (h1:∀ env,(assignEach [.Subscript (.Name x npos) ix spos] env).map (·.2)=[assign (.Subscript (.Name x npos) ix spos) env]:=by intro _;rfl)
  (ha:∀ env v,assign (.Subscript (.Name x npos) ix spos) env v=(do
   let ov <- holding [v] (eval (.Name x npos) env)
   let iv <- holding [v,ov] (eval ix env)
   standAt spos
   holding [v,ov,iv] (setItem ov iv v)
   release [v,ov,iv] []):=by intro _ _;rfl):ES G k S (.Assign [.Subscript (.Name x npos) ix spos] e pos) (qJ i tx te):=.mk λX Y ok =>
 Ez (GU (he X Y ok) (GT (ho X Y ok) (hx X Y ok) wo (ha _)) (hs _ _) (hw _) (h1 _)) λDn σ H q=>by
  obtain⟨F,σd,De,R,q,K⟩:=q;refine⟨F,σd,_,R,q,λv H1 F1 d σ1 s1 R1 r1 q1=>?_⟩;obtain⟨⟨ys,e0⟩,q1⟩:=q1;refine⟨F1,σ1,λov σ2=>ov=.var i/\σ2=σ1,R1,?_,λv2 H2 F2 ov σ2 s2 R2 r2 q2=>?_⟩
  ·unfold ab;rw[e0];exact⟨rfl,rfl⟩
  ·obtain⟨rfl,rfl⟩:=q2
   have r2:σ[i]?=some (some v2):=r2;refine⟨F2,σ2,_,R2,q1,λv3 H3 F3 y σ3 s3 R3 r3 q3=>?_⟩
   split at q3
   ·rename_i j ej
    unfold xr at q3
    split at q3
    ·rename_i xs ex
     split at q3
     ·rename_i m em
      obtain⟨a,vs,w1,w2,w3,w4,w5⟩:=R3.own i xs ex;rw[r2] at w1;cases w1;have rj:=(R3.drf r3 ej).int;subst rj;refine⟨a,vs,j,m,rfl,rfl,w2,by rw[w3.length];exact em,?_⟩
      exact K.nx _ _ F3 _ ((s1.trans s2).trans s3) (R3.write ex r2 (RepL.set ((r1.mono s2).mono s3) m w3)) q3
     ·exact q3.elim
    ·exact q3.elim
   ·exact q3.elim

abbrev kA:=List D->List D->(B->List D->Prop)->Prop
def nW (sp:kA):Sp:=λvs H Q _=>∃ F xs ds a us rest Qd,vs=.ref a::rest/\iW F H/\H a=some (.lst us)/\RepL F us xs/\F a=none/\RepL F rest ds/\sp xs ds Qd /\
 ∀ v H' F' b ys us',Same F F'->Same F' H'->(∀ c o,c≠a->H c=some o->H' c=some o)->H' a=some (.lst us')->RepL F' us' ys->F' a=none->(∀ c o,F' c=some o->F c=some o\/Nw H c o)->wH H F' H' v b->Qd b ys->Q v H'
def FnIo (G:GE)(k:Nat)(x:Str)(sp:kA):Prop:=∃ f fd ps,FnOk G.P G.w G.K G.mg G.base fv k f fd ps (nW sp)/\G.mg x=some (.ref f)/\PySem.W.keepIn G.K (.ref f)=true/\Binds G.K fd ps []
theorem FnIo.mono {x:Str}{sp:kA}{j:Nat}(h:FnIo G j x sp)(l:j<=k):FnIo G k x sp:=by
 obtain⟨f,fd,ps,h1,h2,h3,h4⟩:=h;exact⟨f,fd,ps,h1.mono l,h2,h3,h4⟩
theorem NoOwn.reown {σd:Sd}{σ:St}{a:Addr}{i:Nat}{xs ys:List D}(h:NoOwn σd σ a)(e:σd[i]?=some (some (.own xs))):NoOwn (σd.set i (some (.own ys))) σ a:=by
 refine⟨λj js e1 z=>?_,λ⟨j,o,c,e1,e2,hm⟩=>?_⟩
 ·rcases gs e1 with ⟨rfl,_⟩|⟨_,e1⟩
  ·exact h j xs e z
  ·exact h j js e1 z
 ·rcases gs e1 with ⟨_,z⟩|⟨_,e1⟩
  ·cases z
  ·exact h.nob ⟨j,o,c,e1,e2,hm⟩
theorem RS.callIo {Y:Dyn}{F F':Hp}{σd:Sd}{σ:St}{H H':Hp}{i:Nat}{xs ys:List D}{a:Addr}{us:List V}(R:RS Y F σd σ H)(e:σd[i]?=some (some (.own xs)))(h:σ[i]?=some (some (.ref a)))(s1:Same F F')(s2:Same F' H')(s3:∀ c o,c≠a->H c=some o->H' c=some o)
  (ha:H' a=some (.lst us)) (r:RepL F' us ys) (fa:F' a=none) (fr:∀ c o,F' c=some o->F c=some o\/Nw H c o):RS Y F' (σd.set i (some (.own ys))) σ H':=by
 obtain⟨b,vs,w1,w2,w3,w4,w5⟩:=R.own i xs e;rw[h] at w1;cases w1;have hl:i < σd.length:=(List.getElem?_eq_some_iff.mp e).1;have hob:Obs Y F' (σd.set i (some (.own ys))) σ H':=R.ob.step s1 (λj o q=>by
  rcases gs q with ⟨_,z⟩|⟨hj,q⟩
  ·cases z
  ·exact⟨q,rfl⟩) (λb hb=>by
  obtain⟨z1,z2,z3⟩:=R.ob.owned hb;have hne:b≠a:=λz=>R.ob.dsx i xs a e h (z ▸ hb);refine⟨?_,?_,z3⟩
  ·cases q:H b with
   | none=>exact absurd q z2
   | some o=>exact s3 b o hne q
  ·cases q:F' b with
   | none=>rfl
   | some o =>
    rcases fr b o q with w|w
    ·rw[z1] at w;cases w
    ·rcases w with w|⟨ws,rfl⟩
     ·exact absurd w z2
     ·cases q3:H b with
      | none=>exact absurd q3 z2
      | some o3 =>
       have y:=s2 b _ q;rw[s3 b o3 hne q3] at y;cases y;exact absurd q3 (R.ob.notup hb)) (λj zs b q1 q2=>by
  rcases gs q1 with ⟨e1,_⟩|⟨hj,q1⟩
  ·subst e1
   rw[h] at q2;cases q2;exact R.ob.dsx j xs a e h
  ·exact R.ob.dsx j zs b q1 q2) λb hb=>by
  by_cases hne:b=a
  ·rw[hne,ha];exact λz=>nomatch z
  ·cases q:H b with
   | none=>exact absurd q (R.ob.there b hb)
   | some o=>rw[s3 b o hne q];exact λz=>nomatch z
 refine⟨by simpa using R.len,R.lo.trans s1,s2,λb o q=>?_,λb o q n=>?_,λj d q=>?_,λj zs q=>?_,λj l zs qs b q1 q2 q3 q4=>?_,λp hp=>?_,hob⟩
 ·rcases fr b o q with h|h
  ·exact R.fro b o h
  ·exact .inr (h.imp (λh=>(R.fresh0 h).1) id)
 ·have:b≠a:=λz=>by
   subst z;rcases w5 with w5|w5
   ·rw[w5] at q;cases q
   ·exact Dyn.ioL_sub n w5
  exact s3 b o this (R.old b o q n)
 ·rcases gs q with ⟨_,z⟩|⟨hj,q⟩
  ·cases z
  ·obtain⟨v,h1,h2⟩:=R.sh j d q
   exact⟨v,h1,h2.mono s1⟩
 ·rcases gs q with ⟨rfl,z⟩|⟨hj,q⟩
  ·cases z
   exact⟨a,us,h,ha,r,fa,w5⟩
  ·obtain⟨b,ws,z1,z2,z3,z4,z5⟩:=R.own j zs q
   have:b≠a:=λz=>hj (R.dis j i zs xs a q e (z ▸ z1) h);refine⟨b,ws,z1,s3 b _ this z2,z3.mono s1,?_,z5⟩;cases q':F' b with
   | none=>rfl
   | some o =>
    rcases fr b o q' with h|h
    ·rw[z4] at h;cases h
    ·rcases h with h|⟨ws',rfl⟩
     ·rw[z2] at h;cases h
     ·have y:=s2 b _ q';rw[s3 b _ this z2] at y;cases y
 ·have f:∀ {m:Nat} {ms:List D},(σd.set i (some (B.own ys)))[m]?=some (some (B.own ms))->∃ ms',σd[m]?=some (some (B.own ms')):=λ{m ms} q=>by
   rcases gs q with ⟨rfl,z⟩|⟨hj,q⟩
   ·exact⟨xs,e⟩
   ·exact⟨_,q⟩
  obtain⟨_,q1⟩:=f q1;obtain⟨_,q2⟩:=f q2;exact R.dis j l _ _ b q1 q2 q3 q4
 ·obtain⟨z1,zs,z2⟩:=R.io p hp
  refine⟨z1,?_⟩
  by_cases hp':p.1=i
  ·exact⟨ys,by rw[hp',iZ hl]⟩
  ·exact⟨zs,by rw[bh hp'];exact z2⟩
def UZ (sp:kA)(xs ds:List D)(Q:B->List D->Prop):Prop:=sp xs ds Q
def fI (sp:kA)(i:Nat)(t:dq):TX:=λσ Q=>tL σ i/\t σ λds σ1=>match σ1[i]? with
 | some (some (.own xs))=>UZ sp xs ds λb ys=>Q (bE b) (σ1.set i (some (.own ys)))
 | _=>False
theorem bw {x y:Str}{sp:kA}{i:Nat}{es:List Expr}{t:dq}{p pos npos:Pos}(h:FnIo G k x sp)(ho:EO G k S (.Name y npos) (ab i))(ha:EDs G k S es t)(hg:S.sc.lookup x=some .globalImplicit:=by rfl)(hdb:(x==("__debug__":Str))=false:=by decide)
  (he:∀ env,starEach (.Name y npos::es) env=(false,eval (.Name y npos) env)::starEach es env:=by intro _;rfl) (hpl:∀ env,(backTo pos (starEach es env)).any (·.1)=false:=by intro _;rfl) (hh:S.hot=false:=by rfl):EX G k S (.Call (.Name x p) (.Name y npos::es) [] pos) (fI sp i t):=.mk λX Y ok=>by
 obtain⟨f,fd,ps,h1,h2,h3,h4⟩:=h;have h1':FnOk X.prog X.w X.K X.mg X.base fv k f fd ps (nW sp):=by rw[ok.P,ok.w,ok.K,ok.mg,ok.base];exact h1
 refine aE (jp (E:=E0) (dvs:=[]) (ds:=[]) h1' (ok.room hh) (dc ok hg) (by rw[ok.mg];exact h2) (by rw[ok.K];exact h3) (by rw[ok.K];exact h4) .nil iT (cc (ho X Y ok) (ha X Y ok) (he _)) hdb (he _) (hpl _)) λσ H Q q=>?_
 obtain⟨F,σd,Qd,R,⟨⟨ys,e0⟩,q⟩,K⟩:=q;refine⟨F,σd,λov σ2=>ov=.var i/\σ2=σd,R,?_,λv1 H1 F1 ov σ1 s1 R1 r1 q1=>?_⟩
 ·unfold ab;rw[e0];exact⟨rfl,rfl⟩
 obtain⟨rfl,rfl⟩:=q1;have r1:σ[i]?=some (some v1):=r1;refine⟨F1,σ1,_,R1,q,λvs H2 F2 ds σ2 s2 R2 r2 q2=>?_⟩
 split at q2
 ·rename_i xs ex
  obtain⟨a,us,w1,w2,w3,w4,w5⟩:=R2.own i xs ex;rw[r1] at w1;cases w1;show nW sp ((.ref a::vs)++[]) H2 Q E0;rw[List.append_nil];refine⟨F2,xs,ds,a,us,vs,_,rfl,⟨R2.fr,R2.ob.tab⟩,w2,w3,w4,r2,q2,λv H' F' b zs us' t1 t2 t3 t4 t5 t6 t7 t8 t9=>?_⟩;have R3:=R2.callIo ex r1 t1 t2 t3 t4 t5 t6 t7;cases b with
  | sh d=>exact K v H' F' (.val d) _ ((s1.trans s2).trans t1) R3 t8 t9
  | own ws =>
   obtain⟨c,cs,rfl,z1,z2,z3,z4⟩:=t8;refine K _ H' F' (.own ws) _ ((s1.trans s2).trans t1) R3 ⟨c,cs,rfl,z1,z2,z3,(R2.fresh0 z4).1,(R2.noFresh z4).reown ex⟩ t9
  | obj o =>
   obtain⟨c,rfl,z1,z2⟩:=t8;exact K _ H' F' (.obj o) _ ((s1.trans s2).trans t1) R3 ⟨c,rfl,z1,λb hb=>⟨(z2 b hb).1,(z2 b hb).2.1,(R2.fresh0 (z2 b hb).2.2).1,(R2.noFresh (z2 b hb).2.2).reown ex⟩⟩ t9
 ·exact q2.elim
def startIo (n:Nat)(xs ds:List D):Sd:=some (.own xs)::aB (n - 1) ds
def sI (Q:B->List D->Prop)(b:B)(σ:Sd):Prop:=match σ[(0:Nat)]? with
 | some (some (.own ys))=>Q b ys
 | _=>False
theorem RS.startIo {F H:Hp}{a:Addr}{us rest:List V}{xs ds:List D}(n:Nat)(hn:1<=n)(s:iW F H)(ha:H a=some (.lst us))(ru:RepL F us xs)(fa:F a=none)(r:RepL F rest ds) :
  RS ⟨H,F,[(0,a)],[]⟩ F (startIo n xs ds) ((V.ref a::rest).map some++List.replicate (n - (V.ref a::rest).length) none) H where
 len:=by unfold Vc.startIo aB;simp [r.length];omega
 lo:=Same.refl _
 fr:=s.1
 fro:=λb o e=>.inl e
 old:=λb o e _=>e
 sh:=λi d e=>by
  cases i with
  | zero=>unfold Vc.startIo at e;simp at e
  | succ i =>
   have e':(aB (n - 1) ds)[i]?=some (some (.sh d)):=by unfold Vc.startIo at e;simpa using e
   obtain⟨v,h1,h2⟩:=kh (n - 1 - ds.length) r e';refine⟨v,?_,h2⟩;have:n - (V.ref a::rest).length=n - 1 - ds.length:=by rw[List.length_cons,r.length];omega
   rw[this];simpa using h1
 own:=λi zs e=>by
  cases i with
  | zero =>
   unfold Vc.startIo at e;simp at e;subst e;exact⟨a,us,by simp,ha,ru,fa,.inr (by simp [Dyn.ioL])⟩
  | succ i =>
   have e':(aB (n - 1) ds)[i]?=some (some (.own zs)):=by unfold Vc.startIo at e;simpa using e
   exact absurd e' (dw _ _ _ _)
 dis:=λi j zs ys b e1 e2 _ _=>by
  have z:∀ {i:Nat} {zs:List D},(Vc.startIo n xs ds)[i]?=some (some (.own zs))->i=0:=λ{i zs} e=>by
   cases i with
   | zero=>rfl
   | succ i =>
    have e':(aB (n - 1) ds)[i]?=some (some (.own zs)):=by unfold Vc.startIo at e;simpa using e
    exact absurd e' (dw _ _ _ _)
  rw[z e1,z e2]
 io:=λp hp=>by
  have:p=(0,a):=by simpa using hp
  subst this;exact⟨by simp,xs,rfl⟩
 ob:=.none (λi o e=>by
  cases i with
  | zero=>unfold Vc.startIo at e;simp at e
  | succ i =>
   have e':(aB (n - 1) ds)[i]?=some (some (.obj o)):=by unfold Vc.startIo at e;simpa using e
   exact absurd e' (ir _ _ _ _)) s.2 λb hb=>by cases hb
theorem EA {x qual:Str}{st:Stmt}{f:Addr}{fd:FuncData}{N ps:List Str}{sp:kA}{t:br}(hK:G.K=KF.K)(Fn:Fun G.K x qual st f fd)(Sc:FnScope N ps (aa st))(ht:ESs G k ⟨N,(aa st).names,[0],false,false,false,λ_ _=>False⟩ (ag st) t)(hn:1<=N.length)
  (len:∀ xs ds Q,sp xs ds Q->ds.length+1=ps.length)
  (body:∀ xs ds Q,sp xs ds Q->t { nx:=sI Q (.sh .non),rt:=λb σ=>sI Q b σ } (startIo N.length xs ds)):FnOk G.P G.w G.K G.mg G.base fv (k+1) f fd ps (nW sp):=by
 refine Fn.ok Sc (λvs H Q E h=>?_) (λcdv A outer s H vs Q E hr h=>?_)
 ·obtain⟨F,xs,ds,a,us,rest,Qd,rfl,s,h1,h2,h3,r,q,K⟩:=h
  rw[List.length_cons,r.length];exact len _ _ _ q
 ·obtain⟨F,xs,ds,a,us,rest,Qd,rfl,sm,h1,h2,h3,r,q,K⟩:=h
  refine⟨_,ht (jN fv G.P G.w G.K G.mg G.base N qual (aa st) f cdv A outer s H E).nox ⟨H,F,[(0,a)],[]⟩ ⟨rfl,rfl,rfl,hK,rfl,rfl,rfl,rfl,Sc.nd,λp hp=>by
   have:p=(0,a):=by simpa using hp
   subst this;simp,(λ_ h=>nomatch h),λ_=>rfl,Sc.kind,λ_ _ _=>rfl,λ_=>hr.hd,hr.dp,hr.un,λ_=>PassesOwn.never,λ_=>⟨rfl,rfl,rfl⟩,λ_ _ h=>h.elim,λh=>nomatch h⟩,F,startIo N.length xs ds,_,RS.startIo _ hn sm h1 h2 h3 r,body xs ds Qd q,?_⟩
  have same:∀ {F':Hp} {σd:Sd} {σ:St} {H':Hp},RS ⟨H,F,[(0,a)],[]⟩ F' σd σ H'->∀ c o,c≠a->H c=some o->H' c=some o:=λR c o hc e=>R.old c o e (by simpa [Dyn.ioA] using hc)
  have fin:∀ {F':Hp} {σd:Sd} {σ:St} {H':Hp} {v:V} {b:B},Same F F'->RS ⟨H,F,[(0,a)],[]⟩ F' σd σ H'->wH H F' H' v b->sI Qd b σd->Q v H':=λ{F' σd σ H' v b} s' R' r' q'=>by
   unfold sI at q'
   split at q'
   ·rename_i ys ey
    obtain⟨c,us',w1,w2,w3,w4,w5⟩:=R'.own 0 ys ey;have i0:=(R'.io (0,a) (by simp)).1
    rw[i0] at w1;cases w1;exact K v H' F' b ys us' s' R'.fr (same R') w2 w3 w4 R'.fro r' q'
   ·exact q'.elim
  refine⟨λσ H' F' σd s' R' q'=>?_,λv σ H' F' σd b s' R' r' q'=>?_,λ_ _ _ _ _ _ h=>h.elim,λ_ _ _ _ _ _ h=>h.elim⟩
  ·exact fin (b:=.sh .non) s' R' .non q'
  ·refine fin (b:=b) s' R' ?_ q'
   cases b with
   | sh d=>exact r'
   | own xs =>
    obtain⟨a,us,rfl,w1,w2,w3,w4,w5⟩:=r';exact⟨a,us,rfl,w1,w2,w3,w4⟩
   | obj o =>
    obtain⟨a,rfl,w1,w2⟩:=r';exact⟨a,rfl,w1,λb hb=>⟨(w2 b hb).1,(w2 b hb).2.1,(w2 b hb).2.2.1⟩⟩
theorem FnD.fio {x:Str}{st:Stmt}{ps N:List Str}{f:Addr}{fd:FuncData}{t:br}{sp:kA}(d:FnD G x st ps f fd)(hK:G.K=KF.K)(Sc:FnScope N ps (aa st))(ht:ESs G k ⟨N,(aa st).names,[0],false,false,false,λ_ _=>False⟩ (ag st) t)(hn:1<=N.length)
  (len:∀ xs ds Q,sp xs ds Q->ds.length+1=ps.length) (body:∀ xs ds Q,sp xs ds Q->t { nx:=sI Q (.sh .non),rt:=λb σ=>sI Q b σ } (startIo N.length xs ds)):FnIo G (k+1) x sp :=
 ⟨f,fd,ps,EA hK d.F Sc ht hn len body,d.m,d.F.kp,d.b⟩
end Vc

namespace Vc
open PySem L2
variable [KF]
variable {G:GE}{k:Nat}{S:Stat}
def ak (S:Stat)(scope:Scope)(N':List Str)(m:Nat):Stat:=⟨N',gc scope.names S.sc,[m],true,false,false,λ_ _=>False⟩
theorem fJ {X X':Cx}{Y:Dyn}{scope:Scope}{N':List Str}{caps:List (Option Nat)}{m:Nat}(hh:S.hot=false)(ok:XOk X G k S Y)(b:BlkOk S scope N' caps)(c:CompX X X' scope N')(Y':Dyn)(hio:∀ p∈Y'.io,p.1=m):XOk X' G k (ak S scope N' m) Y' :=
 have z:=cL hh ok b c ⟨Y'.H0,Y'.F0,[],[]⟩ rfl
 ⟨z.P,z.w,z.K,z.kf,z.mg,z.base,z.N,z.sc,z.nd,λp hp=>by rw[hio p hp];exact List.mem_singleton.mpr rfl,(λh=>nomatch h),z.calm,z.kind,(λh=>by cases h),z.hd,z.dp,z.un,z.po,(λh=>nomatch h),(λ_ _ h=>h.elim),λh=>nomatch h⟩
def jg (m:Nat)(σ:Sd)(Q:List D->Prop):Prop:=match σ[m]? with
 | some (some (.own ys))=>Q ys
 | _=>False
def fK (g:jn)(tc:TB)(te:TD)(σc:Sd)(m:Nat):List D->List D->List D->(List D->List D->Prop)->Prop
 | [],acc,xs,Q=>Q acc xs
 | x::r,acc,xs,Q=>g x (σc.set m (some (.own xs))) λσ1=>tc σ1 λb σ2=>if b=true then te σ2 λd σ3=>ja σc σ3/\acc.length < sizeLine/\jg m σ3 λys=>fK g tc te σc m r (acc++[d]) ys Q
  else ja σc σ2/\jg m σ2 λys=>fK g tc te σc m r acc ys Q
def fc (ios:List Nat)(caps:List (Option Nat))(j m:Nat)(ti:dq)(g:jn)(tc:TB)(te:TD):TX:=λσ Q=>ti σ λitems σ1=>qg ios (caps.set m none) σ1 λσ2=>jg j σ2 λxs=>fK g tc te (cy (caps.set m none) σ2) m items [] xs λds ys=>Q (.own ds) (σ2.set j (some (.own ys)))
theorem xt {Y:Dyn}{F:Hp}{σd:Sd}{σ:St}{H:Hp}(R:RS Y F σd σ H)(caps:List (Option Nat))(m:Nat){F' H':Hp}(s1:Same F F')(s2:Same F' H'):RS ⟨H',F',[],[]⟩ F' (cy (caps.set m none) σd) (ee caps σ) H':=by
 have R0:=nF R (caps.set m none) s1 s2;refine⟨by unfold cy ee;simp,R0.lo,R0.fr,R0.fro,R0.old,λi d e=>?_,λi xs e=>absurd e (bD _ _ _ _),λi j xs ys a e=>absurd e (bD _ _ _ _),λp hp=>(by cases hp),.none (bC _ _) R0.ob.tab λb hb=>by cases hb⟩
 obtain⟨v,h1,h2⟩:=R0.sh i d e;refine⟨v,?_,h2⟩
 by_cases hi:i=m
 ·subst hi
  unfold cy at e;rw[List.getElem?_map] at e
  by_cases hl:i < caps.length
  ·rw[List.getElem?_set_self hl] at e;cases e
  ·rw[List.getElem?_eq_none (by rw[List.length_set];omega)] at e;cases e
 ·unfold ee at h1 ⊢
  rw[List.getElem?_map] at h1 ⊢;rw[List.getElem?_set_ne (Ne.symm hi)] at h1;exact h1
theorem RS.inner {Y:Dyn}{F:Hp}{σc σd:Sd}{σ:St}{H:Hp}{m:Nat}{a:Addr}{us:List V}{xs:List D}(R:RS Y F σd σ H)(l:ja σc σd)(noown:∀ (i:Nat) (xs:List D),σc[i]?≠some (some (.own xs)))(noobj:∀ (i:Nat) (o:O),σc[i]?≠some (some (.obj o)))(hm:m < σc.length)(h:σ[m]?=some (some (.ref a)))(r:RepL F us xs)(fa:F a=none){H':Hp}(s:Same F H')(ha:H' a=some (.lst us)) :
  RS ⟨H',F,[(m,a)],[]⟩ F (σc.set m (some (.own xs))) σ H' where
 len:=by rw[List.length_set];exact (jw l).trans R.len
 lo:=Same.refl _
 fr:=s
 fro:=λb o e=>.inl e
 old:=λb o e _=>e
 sh:=λi d e=>by
  rcases gs e with ⟨_,z⟩|⟨_,e⟩
  ·cases z
  ·exact R.sh i d (jv l e)
 own:=λi zs e=>by
  rcases gs e with ⟨rfl,z⟩|⟨_,e⟩
  ·cases z
   exact⟨a,us,h,ha,r,fa,.inr (by simp [Dyn.ioL])⟩
  ·exact absurd e (noown i zs)
 dis:=λi j zs ys b e1 e2 _ _=>by
  have z:∀ {i:Nat} {zs:List D},(σc.set m (some (B.own xs)))[i]?=some (some (.own zs))->i=m:=λ{i zs} e=>by
   rcases gs e with ⟨rfl,_⟩|⟨_,e⟩
   ·rfl
   ·exact absurd e (noown i zs)
  rw[z e1,z e2]
 io:=λp hp=>by
  have:p=(m,a):=by simpa using hp
  subst this;exact⟨h,xs,by rw[iZ hm]⟩
 ob:=.none (λi o e=>by
  rcases gs e with ⟨_,z⟩|⟨_,e⟩
  ·cases z
  ·exact noobj i o e) R.ob.tab λb hb=>by cases hb
def Va (m:Nat)(g:jn):TG:=λv σ H Q=>∃ Y:Dyn,(∀ p∈Y.io,p.1=m)/\lG Y g v σ H Q
def Vb (m:Nat)(t:TB):TT:=λσ H Q=>∃ Y:Dyn,(∀ p∈Y.io,p.1=m)/\lB Y t σ H Q
def Vd (m:Nat)(t:TD):TE:=λσ H Q=>∃ Y:Dyn,(∀ p∈Y.io,p.1=m)/\lD Y t σ H Q
section
variable {elt target iter:Expr}{ifs:List Expr}{scope:Scope}{pos:Pos}{N':List Str}{caps:List (Option Nat)}{ti:dq}{g:jn}{tc:TB}{te:TD}{j m:Nat}
theorem mj {X:Cx}{Y:Dyn}(hh:S.hot=false)(ok:XOk X G k S Y)(b:BlkOk S scope N' caps)(hg:EG G k (ak S scope N' m) target g)(ht:EBs G k (ak S scope N' m) ifs tc)(he:ED G k (ak S scope N' m) elt te) :
  ∀ X',CompX X X' scope N'->PG X' target (Va m g)/\Dh X' ifs (Vb m tc)/\PE X' elt (Vd m te):=λX' c =>
 ⟨λpins s σ H v u Q I r ⟨Y',hio,q⟩=>hg X' Y' (fJ hh ok b c Y' hio) pins s σ H v u Q I r q,λpins s σ H Q I ⟨Y',hio,q⟩=>ht X' Y' (fJ hh ok b c Y' hio) pins s σ H Q I q,λpins s σ H Q I ⟨Y',hio,q⟩=>he X' Y' (fJ hh ok b c Y' hio) pins s σ H Q I q⟩
theorem nX {α:Type}(l:List α)(i:Nat)(a b:α):(l.set i a).set i b=l.set i b:=by simp
theorem nY {Y:Dyn}{ios:List Nat}(hio:∀ p∈Y.io,p.1∈ios)(hcap:caps[m]?=some (some j)){σ:St}{H:Hp}{Q:VK}(q:lX Y (fc ios caps j m ti g tc te) σ H Q):iy (lI Y ti) caps (Va m g) (Vb m tc) (Vd m te) σ H Q:=by
 obtain⟨F,σd,Qd,R,q,K⟩:=q;refine⟨F,σd,_,R,q,λH1 F1 σd1 J items s1 R1 it q1 acc hacc=>?_⟩;obtain⟨F2,σd2,s2,R2,q2⟩:=cM hio R1 q1;unfold jg at q2
 split at q2
 ·rename_i xs0 e0
  have it2:=it.mono s2;have a0:Y.H0 acc=none:=(R2.fresh0 hacc).1;have aF:F2 acc=none:=aM R2.fr hacc;obtain⟨a,us0,ha1,ha2,ha3,ha4,ha5⟩:=R2.own j xs0 e0;have ane:a≠acc:=λz=>by rw[z,hacc] at ha2;cases ha2
  have hj:j < σd2.length:=(List.getElem?_eq_some_iff.mp e0).1;have aN:∀ (xs:List D),NoOwn (σd2.set j (some (.own xs))) σ acc:=λxs=>(R2.noFresh hacc).reown e0;have sw:∀ {F5 H5:Hp} {o:HO},Same F5 H5->F5 acc=none->Same F5 (bj H5 acc o):=λ{F5 H5 o} s5 h b u e=>by
   have:b≠acc:=λz=>by rw[z,h] at e;cases e
   rw[ah this];exact s5 b u e
  have hm:m < (cy (caps.set m none) σd2).length:=by
   unfold cy;rw[List.length_map,List.length_set];exact (List.getElem?_eq_some_iff.mp hcap).1
  have hcm:(ee caps σ)[m]?=some (some (.ref a)):=by
   unfold ee;rw[List.getElem?_map,hcap];show some ((σ[j]?).join)=_;rw[ha1];rfl
  have e00:σd2.set j (some (.own xs0))=σd2:=by
   apply List.ext_getElem?;intro i
   by_cases hi:i=j
   ·subst hi;rw[iZ hj,e0]
   ·rw[bh hi]
  refine⟨λi mm σ1 H'=>∃ Fi ds ys xs us,Same F2 Fi/\RS Y Fi (σd2.set j (some (.own xs))) σ H'/\H' acc=some (.lst ys)/\RepL Fi ys ds/\Fi acc=none/\H' a=some (.lst us)/\RepL Fi us xs/\Fi a=none/\σ1[m]?=some (some (.ref a))/\RS ⟨H',Fi,[(m,a)],[]⟩ Fi ((cy (caps.set m none) σd2).set m (some (.own xs))) σ1 H'/\fK g tc te (cy (caps.set m none) σd2) m (items.drop i) ds xs (λds ys=>Qd (.own ds) (σd2.set j (some (.own ys))))/\mm=items.length - i/\i<=items.length,
   ⟨items.length,F2,[],[],xs0,us0,Same.refl _,by rw[e00];exact R2.other aF a0 (e00 ▸ aN xs0),ao,.nil,aF,by rw[ah ane];exact ha2,ha3,ha4,hcm,?_,q2,rfl,Nat.zero_le _⟩,?_⟩
  ·exact (xt R2 caps m (Same.refl _) (sw (o:=.lst []) R2.fr aF)).inner (dy _) (bD _ _) (bC _ _) hm hcm ha3 ha4 (sw R2.fr aF) (by rw[ah ane];exact ha2)
  rintro i mm σ1 Hi ⟨Fi,ds,ys,xs,us,si,Ri,hacci,ri,fi,hai,rui,fai,hmi,Rin,qi,rfl,hi⟩;have itr:=it2 Fi Hi si Ri.fr i
  by_cases hl:i < items.length
  ·right
   have hd:items.drop i=items[i]::items.drop (i+1):=by rw[List.drop_eq_getElem_cons hl]
   rw[hd] at qi;obtain⟨go,yl⟩:=itr.1 items[i] (by rw[List.getElem?_eq_getElem hl])
   refine⟨go,λv H' y=>?_⟩;obtain⟨F3,gr,rep⟩:=yl v H' y;have sF:Same Fi F3:=gr.same Ri.fr;have R3:=gr.rs Rin;have sH:Same Hi H':=by
    rcases gr with ⟨_,rfl⟩|⟨p,o,hp,_,rfl⟩
    ·exact Same.refl _
    ·exact ay hp
   have fr3:∀ c o,F3 c=some o->Fi c=some o\/Nw Hi c o:=λc o e=>by
    rcases gr with ⟨rfl,_⟩|⟨p,o',hp,rfl,_⟩
    ·exact .inl e
    ·by_cases hc:c=p
     ·subst hc;exact .inr (.inl hp)
     ·rw[ah hc] at e;exact .inl e
   have fa3:F3 a=none:=by
    cases e:F3 a with
    | none=>rfl
    | some o =>
     rcases fr3 a o e with z|z
     ·rw[fai] at z;cases z
     ·rcases z with z|⟨ws,rfl⟩
      ·rw[hai] at z;cases z
      ·have y:=R3.fr a _ e;rw[sH a _ hai] at y;cases y
   have lec:ja (cy (caps.set m none) σd2) ((cy (caps.set m none) σd2).set m (some (.own xs))):=by
    have:∀ (l:Sd) (n:Nat),l[n]?=some none->∀ b,ja l (l.set n b):=by
     intro l
     induction l with
     | nil=>intro n h;cases h
     | cons c l ih =>
      intro n h b;cases n with
      | zero =>
       simp at h;subst h;exact dy l
      | succ n =>
       have h:l[n]?=some none:=by simpa using h
       cases c with
       | none=>exact ih n h b
       | some c=>exact⟨rfl,ih n h b⟩
    refine this _ m ?_ _;unfold cy;rw[List.getElem?_map,List.getElem?_set_self (List.getElem?_eq_some_iff.mp hcap).1];rfl
   have R3':RS ⟨H',F3,[(m,a)],[]⟩ F3 ((cy (caps.set m none) σd2).set m (some (.own xs))) σ1 H':=R3.inner lec (bD _ _) (bC _ _) hm hmi (rui.mono sF) fa3 R3.fr (sH _ _ hai)
   -- behind the turn
   have back:∀ {F5 H5:Hp} {σd5:Sd} {σ5:St} {zs:List D},Same F3 F5->RS ⟨H',F3,[(m,a)],[]⟩ F5 σd5 σ5 H5->σd5[m]?=some (some (.own zs))->RS Y F5 (σd2.set j (some (.own zs))) σ H5/\H5 acc=some (.lst ys)/\F5 acc=none/\Same Fi F5/\∃ ws,H5 a=some (.lst ws)/\RepL F5 ws zs/\F5 a=none/\σ5[m]?=some (some (.ref a)):=λ{F5 H5 σd5 σ5 zs} s5 R5 ez=>by
    have i5:=(R5.io (m,a) (by simp)).1
    obtain⟨c,ws,w1,w2,w3,w4,_⟩:=R5.own m zs ez;rw[i5] at w1;cases w1;have s35:∀ c o,c≠a->Hi c=some o->H5 c=some o:=λc o hc e=>R5.old c o (sH c o e) (by simpa [Dyn.ioA] using hc)
    have fr5:∀ c o,F5 c=some o->Fi c=some o\/Nw Hi c o:=λc o e=>by
     rcases R5.fro c o e with z|z
     ·exact fr3 c o z
     ·exact .inr (z.imp sH.free id)
    have Ro:=Ri.callIo (i:=j) (xs:=xs) (ys:=zs) (by rw[iZ hj]) ha1 (sF.trans s5) R5.fr s35 w2 w3 w4 fr5
    rw[nX] at Ro;refine⟨Ro,s35 acc _ (Ne.symm ane) hacci,?_,sF.trans s5,ws,w2,w3,w4,i5⟩;cases e:F5 acc with
    | none=>rfl
    | some o =>
     rcases fr5 acc o e with z|z
     ·rw[fi] at z;cases z
     ·rcases z with z|⟨ws,rfl⟩
      ·rw[hacci] at z;cases z
      ·have y:=R5.fr acc _ e;rw[s35 acc _ (Ne.symm ane) hacci] at y;cases y
   refine⟨⟨H',F3,[(m,a)],[]⟩,λp hp=>by rw[List.mem_singleton.mp hp],F3,_,items[i],_,R3',rep,qi,λσ4 H4 F4 σd4 s4 R4 q4=>?_⟩
   refine⟨⟨H',F3,[(m,a)],[]⟩,λp hp=>by rw[List.mem_singleton.mp hp],F4,σd4,_,R4,q4,λb H5 F5 σd5 s5 R5 q5=>?_⟩
   cases b with
   | false =>
    obtain⟨le,q5⟩:=q5;unfold jg at q5
    split at q5
    ·rename_i zs ez
     obtain⟨w1,w2,w3,w4,ws,v1,v2,v3,v4⟩:=back (s4.trans s5) R5 ez;exact⟨items.length - (i+1),by omega,F5,ds,ys,zs,ws,si.trans w4,w1,w2,ri.mono w4,w3,v1,v2,v3,v4,R5.inner le (bD _ _) (bC _ _) hm v4 v2 v3 R5.fr v1,q5,rfl,hl⟩
    ·exact q5.elim
   | true =>
    refine⟨⟨H',F3,[(m,a)],[]⟩,λp hp=>by rw[List.mem_singleton.mp hp],F5,σd5,_,R5,q5,λv6 H6 F6 d σd6 s6 R6 r6 q6=>?_⟩
    obtain⟨le,hz,q6⟩:=q6;unfold jg at q6
    split at q6
    ·rename_i zs ez
     obtain⟨w1,w2,w3,w4,ws,v1,v2,v3,v4⟩:=back ((s4.trans s5).trans s6) R6 ez;exact⟨ys,items.length - (i+1),w2,by rw[ri.length];exact hz,by omega,F6,ds++[d],ys++[v6],zs,ws,si.trans w4,w1.other w3 a0 (aN zs),ao,(ri.mono w4).append (.cons r6 .nil),w3,by rw[ah ane];exact v1,v2,v3,v4,
      R6.inner le (bD _ _) (bC _ _) hm v4 v2 v3 (sw R6.fr w3) (by rw[ah ane];exact v1),q6,rfl,hl⟩
    ·exact q6.elim
  ·left
   have e:i=items.length:=by omega
   subst e;rw[List.drop_length] at qi;exact⟨itr.2 rfl,K _ Hi Fi (.own ds) _ ((s1.trans s2).trans si) Ri ⟨acc,ys,rfl,hacci,ri,fi,a0,aN xs⟩ qi⟩
 ·exact q2.elim
theorem qK (i j m:Nat){y:Str}{py spos:Pos}(hi:EI G k S target iter ti)(b:BlkOk S scope N' caps)(hg:EG G k (ak S scope N' m) target g)(ht:EBs G k (ak S scope N' m) ifs tc)(he:ED G k (ak S scope N' m) elt te)
  (hcap:caps[m]?=some (some j):=by rfl) (hy:S.N[i]?=some y:=by rfl) (hx:S.sc.lookup y=some .local\/(S.sc.lookup y=some .cell/\S.blk=false):=by first|exact Or.inl rfl|exact Or.inr ⟨rfl,rfl⟩) (hn:i∉S.ios:=by first|decide|exact List.not_mem_nil | (dsimp only;decide)) (hl:(py.line==pos.line)=true:=by rfl) (hsn:(scope.names.any λ(n,k)=>n==y&&(k==.local||k==.cell))=false:=by decide +kernel)
  (hs:∀ env x,foldedSetIterable iter env x=pure x:=by intro _ _;rfl) (hh:S.hot=false:=by rfl):ES G k S (.Assign [.Name y py] (.ListComp elt [⟨target,iter,ifs,0⟩] scope pos) spos) (cU S.ios i (fc S.ios caps j m ti g tc te)):=.mk λX Y ok=>by
 have sw:swapsWith (.ListComp elt [⟨target,iter,ifs,0⟩] scope pos) (some (.Name y py)) spos.line X.env=pure (S.sc.lookup y==some .local):=by
  have e:swapsWith (.ListComp elt [⟨target,iter,ifs,0⟩] scope pos) (some (.Name y py)) spos.line X.env=pure (X.env.blockKind==.function&&X.env.kindOf y==some .local&&py.line==pos.line&&!(scope.names.any λ(n,k)=>n==y&&(k==.local||k==.cell))):=rfl
  have kb:X.env.blockKind=.function:=by unfold Env.blockKind;rw[ok.kind];rfl
  have kd:X.env.kindOf y=S.sc.lookup y:=by
   show X.env.scope.names.lookup y=_;rw[ok.sc]
  rw[e,kb,kd,hl,hsn];simp
 have fin:∀ Dn σ H,lS Y (cU S.ios i (fc S.ios caps j m ti g tc te)) Dn σ H->vV (iy (lI Y ti) caps (Va m g) (Vb m tc) (Vd m te)) (jK i) Dn σ H:=λDn σ H q=>by
  obtain⟨F,σd,De,R,q,K⟩:=q;refine nY ok.ios hcap ⟨F,σd,_,R,q,λv H1 F1 y σ1 s1 R1 r1 q1=>?_⟩;obtain⟨F2,σ2,s2,R2,q2⟩:=iq R1 r1 hn ok.ios q1;exact K.nx _ H1 F2 σ2 (s1.trans s2) R2 q2
 rcases hx with hx|hx
 ·refine bA (tP (i:=i) (ok.calm hh) (hi X Y ok) (b.sc ok) (mj hh ok b hg ht he) (hs _) (by rw[ok.N];exact ok.nd) (by rw[ok.N];exact hy) (by rw[ok.sc];exact hx) (by rw[sw,hx];rfl)) fin
 ·refine bA (L2.ps_set (i:=i) (by rw[ok.N];exact ok.nd) (by rw[ok.N];exact hy) (jZ ok (.inr hx)) (ju (ok.calm hh) (hi X Y ok) (b.sc ok) (mj hh ok b hg ht he) (hs _)) (by rw[sw,hx.1];rfl) (kc ok (.inr hx))) fin
end
end Vc

namespace Vc
open PySem L2
variable [KF]
variable {G:GE}{k:Nat}{S:Stat}
def tU (i j:Int):Prop:=0 < j/\j < 2^200
theorem xu {X:Cx}:OpR X (binaryOp .FloorDiv) (rI tU λi j=>.int (i / j)):=TY λi j _ _ _ _ _ hc q=>by
 have h1:(0:Int) < j:=hc.1;have h2:j < 2^200:=hc.2;refine PyProof.Rows.floordiv_int (by omega) (by rw[Int.fdiv_eq_ediv_of_nonneg i (by omega)];exact q) (.inl (PyProof.noPylong_of_log2 ?_))
 have h3:j.natAbs < 2^200:=by omega
 exact (Nat.log2_lt (by omega)).mpr (Nat.lt_of_lt_of_le h3 (Nat.pow_le_pow_right (by decide) (by decide)))
def tV:=Pm tU λi j=>i / j
theorem tW {a b:Expr}{ta tb:TV}{pos:Pos}(ha:EO G k S a ta)(hb:EO G k S b tb):EX G k S (.BinOp a .FloorDiv b pos) (bi tV ta tb):=lH (r:=λ_=>_) (λ_=>xu) (λ_=>jS) ha hb
end Vc

namespace Vc
open PySem L2
variable [KF]
variable {G:GE}{k:Nat}{S:Stat}
end Vc


namespace Vc
open PySem L2
variable [KF]
variable {G:GE}{k:Nat}{S:Stat}

def Dyn.prot (Y:Dyn)(F H:Hp)(ps:List Addr):Dyn:=⟨λb=>if b∈ps then H b else Y.H0 b,F,Y.io,Y.ob⟩
structure Apt (Y:Dyn)(F:Hp)(σd:Sd)(σ:St)(H:Hp)(b:Addr)(o:HO):Prop where
 h:H b=some o
 f:F b=none
 no:NoOwn σd σ b
 z:Y.H0 b=none
 nb:b∉Y.ob
 nt:∀ vs,o≠.tup vs
theorem RS.protect {Y:Dyn}{F:Hp}{σd:Sd}{σ:St}{H:Hp}(R:RS Y F σd σ H)(ps:List Addr)(hP:∀ b∈ps,∃ o,Apt Y F σd σ H b o):RS (Y.prot F H ps) F σd σ H where
 len:=R.len
 lo:=Same.refl _
 fr:=R.fr
 fro:=λb o e=>.inl e
 old:=λb o e n=>by
  have e:(if b∈ps then H b else Y.H0 b)=some o:=e
  split at e
  ·exact e
  ·exact R.old b o e n
 sh:=R.sh
 own:=λi xs e=>by
  obtain⟨a,vs,h1,h2,h3,h4,h5⟩:=R.own i xs e;refine⟨a,vs,h1,h2,h3,h4,?_⟩;rcases h5 with h5|h5
  ·left
   show (if a∈ps then H a else Y.H0 a)=none
   rw[if_neg λhp=>by obtain⟨o,ap⟩:=hP a hp;exact ap.no i xs e h1]
   exact h5
  ·exact .inr h5
 dis:=R.dis
 io:=R.io
 ob:=R.ob.step (Same.refl _) (λ_ _ e=>⟨e,rfl⟩) (λb hb=>by
  obtain⟨w1,w2,w3⟩:=R.ob.owned hb;refine⟨rfl,w1,w3.imp (λz=>?_) id⟩;show (if b∈ps then H b else Y.H0 b)=none
  rw[if_neg λhp=>by obtain⟨o,ap⟩:=hP b hp;exact ap.no.nob hb]
  exact z) R.ob.dsx R.ob.there λb hb=>⟨hb,λh=>by
  show (if b∈ps then H b else Y.H0 b)≠none
  split
  ·exact R.ob.there b hb
  ·exact h⟩
theorem RS.unprotect {Y:Dyn}{F F':Hp}{σd σd':Sd}{σ σ':St}{H H':Hp}(R0:RS Y F σd σ H){ps:List Addr}(hP:∀ b∈ps,∃ o,Apt Y F σd σ H b o)(R:RS (Y.prot F H ps) F' σd' σ' H') :
  RS Y F' σd' σ' H'/\∀ b o,b∈ps->Apt Y F σd σ H b o->Apt Y F' σd' σ' H' b o:=by
 have at0:∀ b,b∈ps->(Y.prot F H ps).H0 b=H b:=λb hb=>by show (if b∈ps then H b else Y.H0 b)=_;rw[if_pos hb]
 have at1:∀ b,b∉ps->(Y.prot F H ps).H0 b=Y.H0 b:=λb hb=>by show (if b∈ps then H b else Y.H0 b)=_;rw[if_neg hb]
 have nio:∀ b,b∈ps->b∉Y.ioA:=λb hb hm=>by
  obtain⟨o,ap⟩:=hP b hb;rcases List.mem_append.mp hm with hm|hm
  case inr=>exact ap.nb hm
  obtain⟨q,hq,e⟩:=List.mem_map.mp hm;obtain⟨h1,xs,h2⟩:=R0.io q hq;exact ap.no _ _ h2 (by rw[h1,e])
 have none0:∀ b,(Y.prot F H ps).H0 b=none->b∉ps/\Y.H0 b=none:=λb e=>by
  by_cases hb:b∈ps
  ·obtain⟨o,ap⟩:=hP b hb
   rw[at0 b hb,ap.h] at e;cases e
  ·exact⟨hb,by rw[at1 b hb] at e;exact e⟩
 refine⟨⟨R.len,R0.lo.trans R.lo,R.fr,λb o e=>?_,λb o e n=>?_,R.sh,λi xs e=>?_,R.dis,R.io,R.ob.step (Same.refl _) (λ_ _ e=>⟨e,rfl⟩) (λb hb=>⟨rfl,(R.ob.owned hb).1,(R.ob.owned hb).2.2.imp (λz=>(none0 b z).2) id⟩) R.ob.dsx R.ob.there (λb hb=>⟨hb,λh z=>h (by rw[at1 b λhp=>by obtain⟨o',ap⟩:=hP b hp;exact ap.nb hb];exact z)⟩)⟩,λb o hb ap=>⟨?_,?_,⟨λj ys e z=>?_,λz=>?_⟩,ap.z,ap.nb,ap.nt⟩⟩
 ·rcases R.fro b o e with h|h
  ·exact R0.fro b o h
  ·exact .inr (h.imp (λh=>(none0 b h).2) id)
 ·refine R.old b o ?_ n
  rw[at1 b λhb=>by obtain⟨o',ap⟩:=hP b hb;rw[ap.z] at e;cases e]
  exact e
 ·obtain⟨a,vs,h1,h2,h3,h4,h5⟩:=R.own i xs e
  exact⟨a,vs,h1,h2,h3,h4,h5.elim (λh=>.inl (none0 a h).2) .inr⟩
 ·exact R.old b o (by rw[at0 b hb];exact ap.h) (nio b hb)
 ·cases q:F' b with
  | none=>rfl
  | some o' =>
   rcases R.fro b o' q with h|h
   ·rw[show (Y.prot F H ps).F0 b=F b from rfl,ap.f] at h;cases h
   ·rcases h with h|⟨ws,rfl⟩
    ·exact absurd hb (none0 b h).1
    ·have y:=R.fr b _ q;rw[R.old b o (by rw[at0 b hb];exact ap.h) (nio b hb)] at y;cases y;exact absurd rfl (ap.nt _)
 ·obtain⟨a,vs,h1,h2,h3,h4,h5⟩:=R.own j ys e
  rw[z] at h1;cases h1;rcases h5 with h5|h5
  ·exact absurd hb (none0 b h5).1
  ·exact nio b hb (List.mem_append_left _ h5)
 ·rcases (R.ob.owned z).2.2 with w|w
  ·exact absurd hb (none0 b w).1
  ·exact ap.nb w
structure Pots (H H':Hp)(p:Addr)(as:List Addr)(cs:List Int):Prop where
 same:Same H H'
 list:H' p=some (.lst (as.map V.ref))
 fresh:∀ b∈p::as,H b=none
 nd:(p::as).Nodup
 len:as.length=cs.length
 pot:∀ (i:Nat) (a:Addr) (c:Int),as[i]?=some a->cs[i]?=some c->H' a=some (.lst [.int c,.int 0])
def sJ:Sp:=λvs H Q _=>∃ F ns,iW F H/\RepL F vs [.lst (List.map D.int ns)]/\ns.length<=63/\∀ p as cs H',Pots H H' p as cs->Q (.ref p) H'
def FnPots (G:GE)(k:Nat)(x:Str):Prop:=∃ f fd ps,FnOk G.P G.w G.K G.mg G.base fv k f fd ps sJ/\G.mg x=some (.ref f)/\PySem.W.keepIn G.K (.ref f)=true/\Binds G.K fd ps []
theorem FnPots.mono {x:Str}{j:Nat}(h:FnPots G j x)(l:j<=k):FnPots G k x:=by
 obtain⟨f,fd,ps,h1,h2,h3,h4⟩:=h;exact⟨f,fd,ps,h1.mono l,h2,h3,h4⟩
def FO (Y:Dyn)(t:dq):TE:=λσ H Q=>∃ F σd Qd,RS Y F σd σ H/\t σd Qd/\(∀ ds σd',Qd ds σd'->∃ ns:List Int,ds=[.lst (ns.map D.int)]/\ns.length<=63) /\
 ∀ (p:Addr) (as:List Addr) (cs:List Int) H' F' ds σd',Same F F'->RS Y F' σd' σ H'->Apt Y F' σd' σ H' p (.lst (as.map V.ref))->(p::as).Nodup->as.length=cs.length ->
  (∀ (i:Nat) (a:Addr) (c:Int),as[i]?=some a->cs[i]?=some c->Apt Y F' σd' σ H' a (.lst [.int c,.int 0]))->Qd ds σd'->Q (.ref p) H'
theorem EC {x:Str}{e:Expr}{t:dq}{p pos:Pos}(hh:S.hot=false)(h:FnPots G k x)(ha:EDs G k S [e] t)(hg:S.sc.lookup x=some .globalImplicit:=by rfl)(hdb:(x==("__debug__":Str))=false:=by decide)
  (he:∀ env,starEach [e] env=(false,eval e env)::starEach [] env:=by intro _;rfl) (hpl:∀ env,(backTo pos (starEach [] env)).any (·.1)=false:=by intro _;rfl) {X:Cx} {Y:Dyn} (ok:XOk X G k S Y):PE X (.Call (.Name x p) [e] [] pos) (FO Y t):=by
 obtain⟨f,fd,ps,h1,h2,h3,h4⟩:=h;have h1':FnOk X.prog X.w X.K X.mg X.base fv k f fd ps sJ:=by rw[ok.P,ok.w,ok.K,ok.mg,ok.base];exact h1
 refine aE (jp (E:=E0) (dvs:=[]) (ds:=[]) h1' (ok.room hh) (dc ok hg) (by rw[ok.mg];exact h2) (by rw[ok.K];exact h3) (by rw[ok.K];exact h4) .nil iT (ha X Y ok) hdb (he _) (hpl _)) λσ H Q q=>?_
 obtain⟨F,σd,Qd,R,q,sh,K⟩:=q;refine⟨F,σd,_,R,q,λvs H1 F1 ds σ1 s1 R1 r1 q1=>?_⟩;show sJ (vs++[]) H1 Q E0;rw[List.append_nil];obtain⟨ns,rfl,hl⟩:=sh _ _ q1;refine⟨F1,ns,⟨R1.fr,R1.ob.tab⟩,r1,hl,λp as cs H' P=>?_⟩;have R2:RS Y F1 σ1 σ H':=R1.call (Same.refl _) (R1.fr.trans P.same) P.same λc o e=>.inl e;have apt:∀ b∈p::as,∀ o,H' b=some o->(∀ vs,o≠.tup vs)->Apt Y F1 σ1 σ H' b o:=λb hb o e nt=>by
  have hf:=P.fresh b hb;exact⟨e,aM R1.fr hf,R1.noFresh hf,(R1.fresh0 hf).1,λz=>(R1.fresh0 hf).2 (List.mem_append_right _ z),nt⟩
 exact K p as cs H' F1 _ σ1 s1 R2 (apt p (List.mem_cons_self ..) _ P.list λ_ z=>nomatch z) P.nd P.len (λi a c e1 e2=>apt a (List.mem_cons_of_mem _ (List.mem_of_getElem? e1)) _ (P.pot i a c e1 e2) λ_ z=>nomatch z) q1

def qL (pre:Nat->Int->Sd->Sd)(tb:br)(De:EndsD):Nat->Nat->Sd->Prop
 | 0,_,σ=>De.nx σ
 | n+1,i,σ=>∀ c:Int,tb { De with nx:=qL pre tb De n (i+1),ct:=qL pre tb De n (i+1),bk:=De.nx } (pre i c σ)
def tX (t:dq)(pre:Nat->Int->Sd->Sd)(tb:br):br:=λDe σ=>t σ λds σ1=>(∃ ns:List Int,ds=[.lst (ns.map D.int)]/\ns.length<=63)/\∀ n,qL pre tb De n 0 σ1
def HW (j:Nat):Nat->Int->Sd->Sd:=λ_ c σ=>σ.set j (some (.own [.int c,.int 0]))
def VP (Y:Dyn)(t:br):TS:=λDn σ H=>∃ Y':Dyn,(Y'.io=Y.io/\Y'.ob=Y.ob)/\lS Y' t Dn σ H
theorem HX {X:Cx}{Y:Dyn}{body:List Stmt}{tb:br}(hx0:S.ex=λ_ _=>False)(ok:XOk X G k S Y)(hb:ESs G k S body tb):PSs X body (VP Y tb):=λpins s σ H Dn I ⟨Y',⟨hio,hob⟩,q⟩ =>
 hb X Y' ⟨ok.P,ok.w,ok.K,ok.kf,ok.mg,ok.base,ok.N,ok.sc,ok.nd,λp hp=>ok.ios p (by rw[<- hio];exact hp),(λh1 h2=>hob.trans (ok.obs h1 h2)),ok.calm,ok.kind,ok.fn,ok.hd,ok.dp,ok.un,ok.po,ok.nx,(λc σd h=>by rw[hx0] at h;exact h.elim),λ_ c σd h=>by rw[hx0] at h;exact h.elim⟩ pins s σ H Dn I q
theorem xv {X:Cx}{Y:Dyn}{t:dq}{pre:Nat->Int->Sd->Sd}{tb:br}{J:Addr->It}{g:TG}{Dn:Ends}{σ:St}{H:Hp}
  (hgo:∀ (p:Addr) (as:List Addr) (i:Nat) (a:Addr) (H:Hp),H p=some (.lst (as.map V.ref))->as[i]?=some a->(J p).go i H)
  (hst:∀ (p:Addr) (as:List Addr) (H:Hp),H p=some (.lst (as.map V.ref))->(J p).stop as.length H)
  (hy:∀ (p:Addr) (as:List Addr) (i:Nat) (a:Addr) (c:Int) (F H:Hp) (σd:Sd) (σ:St) (x:V) (H':Hp),RS Y F σd σ H->(p::as).Nodup->as[i]?=some a ->
   (∀ b∈p::as.drop (i+1),∃ o,Apt Y F σd σ H b o)->H p=some (.lst (as.map V.ref))->Apt Y F σd σ H a (.lst [.int c,.int 0])->(J p).yld i H x H' ->
   ∃ F',Same F F'/\RS Y F' σd σ H'/\(∀ b o,Apt Y F σd σ H b o->Apt Y F' σd σ H' b o)/\∀ N:St->Hp->Prop,(∀ σ2,RS (Y.prot F' H' (p::as.drop (i+1))) F' (pre i c σd) σ2 H'->N σ2 H')->g x σ H' N)
  (q:lS Y (tX t pre tb) Dn σ H) :
  PD (λσ H R=>FO Y t σ H λx H1=>∃ p as,x=.ref p/\H1 p=some (.lst (List.map V.ref as))/\R (J p) H1) g (VP Y tb) Dn σ H:=by
 obtain⟨F,σd,De,R,q,K⟩:=q;refine⟨F,σd,_,R,q,λds σd' h=>h.1,λp as cs H1 F1 ds σd1 s1 R1 ap nd len pots q1=>⟨p,as,rfl,ap.h,?_⟩⟩;have q1:=q1.2 as.length;refine⟨λi m σ' H'=>∃ F' σd',Same F1 F'/\RS Y F' σd' σ' H'/\Apt Y F' σd' σ' H' p (.lst (as.map V.ref))/\(∀ (j:Nat) (a:Addr) (c:Int),i<=j->as[j]?=some a->cs[j]?=some c->Apt Y F' σd' σ' H' a (.lst [.int c,.int 0])) /\
  qL pre tb De (as.length - i) i σd'/\m=as.length - i/\i<=as.length,⟨as.length,F1,σd1,Same.refl _,R1,ap,λj a c _=>pots j a c,q1,rfl,Nat.zero_le _⟩,?_⟩
 rintro i m σ' H' ⟨F',σd',s',R',ap',pots',q',rfl,hi⟩
 by_cases hl:i < as.length
 ·right
  have e1:as[i]?=some as[i]:=List.getElem?_eq_getElem hl;have hl2:i < cs.length:=by rw[<- len];exact hl
  have e2:cs[i]?=some cs[i]:=List.getElem?_eq_getElem hl2;refine⟨hgo p as i _ H' ap'.h e1,λσ2 H2=>∃ F2 σd2,Same F1 F2/\RS Y F2 σd2 σ2 H2/\Apt Y F2 σd2 σ2 H2 p (.lst (as.map V.ref))/\(∀ (j:Nat) (a:Addr) (c:Int),i+1<=j->as[j]?=some a->cs[j]?=some c->Apt Y F2 σd2 σ2 H2 a (.lst [.int c,.int 0])) /\
   qL pre tb De (as.length - (i+1)) (i+1) σd2,λσ2 H2 ⟨F2,σd2,w1,w2,w3,w4,w5⟩=>⟨as.length - (i+1),by omega,F2,σd2,w1,w2,w3,w4,w5,rfl,hl⟩,λx H2 y=>?_⟩
  have inDrop:∀ (j:Nat) (a:Addr),i+1<=j->as[j]?=some a->a∈p::as.drop (i+1):=λj a hj e=>by
   refine List.mem_cons_of_mem _ (List.mem_of_getElem? (i:=j - (i+1)) ?_);rw[List.getElem?_drop,show i+1+(j - (i+1))=j by omega];exact e
  have hP:∀ b∈p::as.drop (i+1),∃ o,Apt Y F' σd' σ' H' b o:=λb hb=>by
   rcases List.mem_cons.mp hb with rfl|hb
   ·exact⟨_,ap'⟩
   ·obtain⟨j,hj,e⟩:=List.mem_iff_getElem.mp hb
    rw[List.getElem_drop] at e;have hj':i+1+j < as.length:=by rw[List.length_drop] at hj;omega
    have hj2:i+1+j < cs.length:=by rw[<- len];exact hj'
    exact⟨_,pots' (i+1+j) b cs[i+1+j] (by omega) (by rw[List.getElem?_eq_getElem hj',e]) (List.getElem?_eq_getElem hj2)⟩
  obtain⟨F2,sF,R2,keep,go⟩:=hy p as i _ cs[i] F' H' σd' σ' x H2 R' nd e1 hP ap'.h (pots' i _ _ (Nat.le_refl _) e1 e2) y;refine go _ λσ2 R3=>?_;have hn:as.length - i=(as.length - (i+1))+1:=by omega
  rw[hn] at q';have q2:=q' cs[i];have hP2:∀ b∈p::as.drop (i+1),∃ o,Apt Y F2 σd' σ' H2 b o:=λb hb=>by
   obtain⟨o,a⟩:=hP b hb;exact⟨o,keep b o a⟩
  have again:∀ {σ4:St} {H4 F4:Hp} {σd4:Sd},Same F2 F4->RS (Y.prot F2 H2 (p::as.drop (i+1))) F4 σd4 σ4 H4->qL pre tb De (as.length - (i+1)) (i+1) σd4->∃ F2 σd2,Same F1 F2/\RS Y F2 σd2 σ4 H4/\Apt Y F2 σd2 σ4 H4 p (.lst (as.map V.ref))/\(∀ (j:Nat) (a:Addr) (c:Int),i+1<=j->as[j]?=some a->cs[j]?=some c->Apt Y F2 σd2 σ4 H4 a (.lst [.int c,.int 0]))/\qL pre tb De (as.length - (i+1)) (i+1) σd2:=λ{σ4 H4 F4 σd4} s4 R4 q4=>by
   obtain⟨R5,k5⟩:=R2.unprotect hP2 R4;exact⟨F4,σd4,(s'.trans sF).trans s4,R5,k5 _ _ (List.mem_cons_self ..) (keep _ _ ap'),λj a c hj ea ec=>k5 _ _ (inDrop j a hj ea) (keep _ _ (pots' j a c (by omega) ea ec)),q4⟩
  refine⟨Y.prot F2 H2 (p::as.drop (i+1)),⟨rfl,rfl⟩,F2,pre i cs[i] σd',_,R3,q2,⟨λσ4 H4 F4 σd4 s4 R4 q4=>again s4 R4 q4,λv4 σ4 H4 F4 σd4 b s4 R4 r4 q4=>?_,λσ4 H4 F4 σd4 s4 R4 q4=>?_,λσ4 H4 F4 σd4 s4 R4 q4=>again s4 R4 q4⟩⟩
  ·obtain⟨R5,k5⟩:=R2.unprotect hP2 R4
   refine K.rt v4 σ4 H4 F4 σd4 b (((s1.trans s').trans sF).trans s4) R5 ?_ q4;cases b with
   | sh d=>exact r4
   | own xs =>
    obtain⟨a,vs,w1,w2,w3,w4,w5,w6⟩:=r4;refine⟨a,vs,w1,w2,w3,w4,?_,w6⟩;have w5:(if a∈p::as.drop (i+1) then H2 a else Y.H0 a)=none:=w5
    split at w5
    ·rename_i hm
     obtain⟨o,ap⟩:=hP2 a hm;exact ap.z
    ·exact w5
   | obj o =>
    obtain⟨a,w1,w2,w3⟩:=r4;refine⟨a,w1,w2,λb hb=>⟨(w3 b hb).1,(w3 b hb).2.1,?_,(w3 b hb).2.2.2⟩⟩;have w5:(if b∈p::as.drop (i+1) then H2 b else Y.H0 b)=none:=(w3 b hb).2.2.1
    split at w5
    ·rename_i hm
     obtain⟨o,ap⟩:=hP2 b hm;exact ap.z
    ·exact w5
  ·obtain⟨R5,k5⟩:=R2.unprotect hP2 R4
   exact K.nx σ4 H4 F4 σd4 (((s1.trans s').trans sF).trans s4) R5 q4
 ·left
  have e:i=as.length:=by omega
  subst e;rw[Nat.sub_self] at q';exact⟨hst p as H' ap'.h,K.nx σ' H' F' σd' (s1.trans s') R' q'⟩
theorem RS.takePot {Y:Dyn}{F:Hp}{σd:Sd}{σ:St}{H:Hp}{j:Nat}{a:Addr}{c:Int}{ps:List Addr}(R:RS Y F σd σ H)(hP:∀ b∈ps,∃ o,Apt Y F σd σ H b o)(ha:Apt Y F σd σ H a (.lst [.int c,.int 0]))(hn:a∉ps)(hio:∀ p∈Y.io,p.1≠j) :
  RS (Y.prot F H ps) F (σd.set j (some (.own [.int c,.int 0]))) (σ.set j (some (.ref a))) H :=
 (R.protect ps hP).setOwn ha.h (.cons (.int _) (.cons (.int _) .nil)) ha.f (by show (if a∈ps then H a else Y.H0 a)=none;rw[if_neg hn];exact ha.z) ha.no hio
theorem EE {p:Addr}{as:List Addr}{i:Nat}{a:Addr}(nd:(p::as).Nodup)(e:as[i]?=some a):a∉p::as.drop (i+1):=by
 have hi:=(List.getElem?_eq_some_iff.mp e).1;have ea:as[i]=a:=(List.getElem?_eq_some_iff.mp e).2;intro h;rcases List.mem_cons.mp h with h|h
 ·exact (List.nodup_cons.mp nd).1 (by rw[<- h];exact List.mem_of_getElem? e)
 ·obtain⟨j,hj,e'⟩:=List.mem_iff_getElem.mp h
  rw[List.getElem_drop] at e';have hj':i+1+j < as.length:=by rw[List.length_drop] at hj;omega
  have:=(List.nodup_cons.mp nd).2;exact List.pairwise_iff_getElem.mp this i (i+1+j) hi hj' (by omega) (by rw[ea,e'])
theorem HY (j:Nat){x y:Str}{e:Expr}{t:dq}{tb:br}{body:List Stmt}{p cpos npos pos:Pos}(h:FnPots G k x)(ha:EDs G k S [e] t)(hb:ESs G k S body tb)(hj:S.N[j]?=some y:=by rfl)(hx:S.sc.lookup y=some .local\/(S.sc.lookup y=some .cell/\S.blk=false):=by first|exact Or.inl rfl|exact Or.inr ⟨rfl,rfl⟩)
  (hn:j∉S.ios:=by first|decide|exact List.not_mem_nil | (dsimp only;decide)) (hg:S.sc.lookup x=some .globalImplicit:=by rfl) (hdb:(x==("__debug__":Str))=false:=by decide)
  (he:∀ env,starEach [e] env=(false,eval e env)::starEach [] env:=by intro _;rfl) (hpl:∀ env,(backTo cpos (starEach [] env)).any (·.1)=false:=by intro _;rfl)
  (hs:∀ env x',foldedSetIterable (.Call (.Name x p) [e] [] cpos) env x'=pure x':=by intro _ _;rfl) (hx0:S.ex=λ_ _=>False:=by rfl) (hh:S.hot=false:=by rfl) :
  ES G k S (.For (.Name y npos) (.Call (.Name x p) [e] [] cpos) body [] pos) (tX t (HW j) tb):=.mk λX Y ok=>by
 have pi:=wL (tg:=.Name y npos) (EC (p:=p) (pos:=cpos) hh h ha hg hdb he hpl ok);refine bA (vX (ok.po hh) (ok.calm hh) pi (L2.pg_name (i:=j) (by rw[ok.N];exact ok.nd) (by rw[ok.N];exact hj) (jZ ok hx) (kc ok hx)) (HX hx0 ok hb) (hs _)) λDn σ H q=>?_
 have r:=xv (X:=X) (J:=λa=>TW X.K a) (g:=jK j) (λp as i a H h e=>⟨as.map V.ref,.ref a,.of h,by rw[List.getElem?_map,e];rfl⟩) (λp as H h=>⟨as.map V.ref,.of h,by rw[List.length_map];exact Nat.le_refl _⟩)
  (λp as i a c F H σd σ x H' R nd e hP hp hpot y=>by
   obtain⟨rfl,y⟩:=y;have hx:=y _ (.of hp);rw[List.getElem?_map,e] at hx;cases hx;refine⟨F,Same.refl _,R,λ_ _ a=>a,λN hN=>hN _ (R.takePot hP hpot (EE nd e) λq hq z=>hn (by rw[<- z];exact ok.ios q hq))⟩) q
 obtain⟨F,σd,Qd,w1,w2,w3,w4⟩:=r;exact⟨F,σd,Qd,w1,w2,w3,λp as cs H' F' ds σd' a1 a2 a3 a4 a5 a6 a7=>by
  obtain⟨p',as',e,z1,z2⟩:=w4 p as cs H' F' ds σd' a1 a2 a3 a4 a5 a6 a7;exact .inl ⟨p',e,⟨_,.of z1⟩,z2⟩⟩
theorem qM {pre:Nat->Int->Sd->Sd}{tb:br}{De:EndsD}(I:Sd->Prop)(hb:∀ i c σ (N:Sd->Prop),I σ->(∀ σ',I σ'->N σ')->tb { De with nx:=N,ct:=N,bk:=De.nx } (pre i c σ))(hn:∀ σ,I σ->De.nx σ):∀ n i σ,I σ->qL pre tb De n i σ
 | 0,_,σ,h=>hn σ h
 | n+1,i,σ,h=>λc=>hb i c σ _ h λσ' h'=>qM I hb hn n (i+1) σ' h'
end Vc


namespace Vc
open PySem L2
variable [KF]
variable {G:GE}{k:Nat}{S:Stat}
def FP (Y:Dyn):TS:=λDn σ H=>∃ F ns,RS Y F [some (.sh (.lst (List.map D.int ns)))] σ H/\Y.H0=H/\(Y.io=[]/\Y.ob=[])/\ns.length<=63/\∀ p as cs H',Pots H H' p as cs->Dn.rt (.ref p) H'
structure EPots (G:GE)(k:Nat)(S:Stat)(b:List Stmt) :Prop where
 run:∀ X Y,XOk X G k S Y->PSs X b (FP Y)
instance {G:GE} {k:Nat} {S:Stat} {b:List Stmt} :CoeFun (EPots G k S b) λ_=>∀ X Y,XOk X G k S Y->PSs X b (FP Y):=⟨EPots.run⟩
def Wc (t:dq):TE:=λσ H Q=>∃ Y:Dyn,Y.io=[]/\PU (UH Y t) σ H Q
abbrev xw:TB:=aZ DR (aS (dH eE (be (ab 0) cW))) (aY (.int 0))
abbrev xx:dq:=aO (ai [] (aY (.int 0))) (aO (ai [] (aY (.int 0))) tN)
abbrev xz:dq:=bB (ai [] (aS (pW (ab 0) FH (FI (aY (.int 63))))))
abbrev sK:dq:=aO (ai [] (ab 0)) (aO (ai [] (aY (.int 0))) tN)
theorem tY {α:Type}(xs:List α)(lo hi:Option Int):(cut xs lo hi).length<=xs.length:=by
 unfold cut;rw[List.length_take,List.length_drop];omega
theorem qN (ns:List Int)(lo hi:Option Int):cut (ns.map D.int) lo hi=(cut ns lo hi).map D.int:=by
 unfold cut;rw[List.length_map,List.map_take,List.map_drop]
theorem RepL.int2 {F:Hp}{vs:List V}{a b:Int}(r:RepL F vs [.int a,.int b]):vs=[.int a,.int b]:=by
 cases r with
 | cons h r =>
  cases h;cases r with
  | cons h r=>cases h;cases r;rfl
section
variable {c:Expr}{zs es:List Expr}{tg iter:Expr}{scope:Scope}{N':List Str}{p1 p2 p3 p4 p5 p6 p7:Pos}
theorem HZ (hios:S.ios=[])(hc:EB G k S c xw)(hz:EDs G k S zs xx)(hi:EI G k S tg iter xz)(b:BlkOk S scope N' [none])(hg:EG G k (au S scope N') tg (dI 0))(he:EDs G k (au S scope N') es sK)(hs:∀ env x,foldedSetIterable iter env x=pure x:=by intro _ _;rfl) 
  (h1:∀ env,starEach [.List zs p1] env=(false,eval (.List zs p1) env)::starEach [] env:=by intro _;rfl) (hh:S.hot=false:=by rfl) :
  EPots G k S [.If c [.Return (some (.List [.List zs p1] p2)) p3] [] p4,.Return (some (.ListComp (.List es p5) [⟨tg,iter,[],0⟩] scope p6)) p7]:=.mk λX Y ok=>by
 have hin:∀ X',CompX X X' scope N'->PG X' tg (Ud (dI 0))/\Dh X' [] (Ue bF)/\PE X' (.List es p5) (Wc sK):=λX' cx =>
  ⟨λpins s σ H v u Q I r ⟨Y',hio,q⟩=>hg X' Y' (cL hh ok b cx Y' hio) pins s σ H v u Q I r q,λpins s σ H Q I ⟨Y',hio,q⟩=>cz X' Y' (cL hh ok b cx Y' hio) pins s σ H Q I q,λpins s σ H Q I ⟨Y',hio,q⟩=>nh (he X' Y' (cL hh ok b cx Y' hio)) pins s σ H Q I q⟩
 refine nv (pG (L2.ps_if (hc X Y ok) (mU (L2.ps_ret (nh (cc (nh (hz X Y ok)) eA (h1 _))))) tB) (mU (L2.ps_ret (ju (ok.calm hh) (hi X Y ok) (b.sc ok) hin (hs _))))) λDn σ H q=>?_;obtain⟨F,ns,R,rfl,hY,hl,K⟩:=q;have same:∀ {F':Hp} {σd:Sd} {σ:St} {H':Hp},RS Y F' σd σ H'->Same Y.H0 H':=λR b o e=>R.old b o e (by rw[Dyn.ioA,hY.1,hY.2];simp)
 refine⟨F,_,λ_ σd'=>σd'=[some (.sh (.lst (List.map D.int ns)))],R,?_,λbb H1 F1 σ1 s1 R1 e1=>?_⟩
 ·simp only[xw,aZ,aS,TZ,dH,be,ab,cW,drfs,drf,List.getElem?_cons_zero,eE,aY,DR]
  exact⟨⟨rfl,rfl⟩,trivial⟩
 subst e1;cases bb with
 | true =>
  refine (if_pos rfl).mpr ?_;refine⟨F1,_,λds _=>ds=[.int 0,.int 0],R1,?_,λvs H2 F2 ds σ2 s2 R2 r2 e2=>?_⟩
  ·simp only[xx,aO,ai,fU,aY,tN]
  subst e2;obtain rfl:=r2.int2;refine⟨by show 2<=sizeLine;decide,λa ha=>⟨by show 1<=sizeLine;decide,λp hp=>K p [a] [0] _ ?_⟩⟩
  have hpa:p≠a:=λz=>by rw[z,ao] at hp;cases hp
  have hp2:H2 p=none:=by rw[ah hpa] at hp;exact hp
  have sm:=same R2;refine⟨(sm.trans (ay ha)).trans (ay hp),ao,λb hb=>?_,by simp [hpa],rfl,λi a' c' e1 e2=>?_⟩
  ·rcases List.mem_cons.mp hb with rfl|hb
   ·exact sm.free hp2
   ·rw[List.mem_singleton.mp hb];exact sm.free ha
  ·cases i with
   | zero =>
    cases e1;cases e2;rw[ah hpa.symm,ao]
   | succ i=>simp at e1
 | false =>
  refine (if_neg (by decide)).mpr ?_
  refine⟨F1,_,λitems σd'=>(∃ ms:List Int,items=ms.map D.int/\ms.length<=63)/\σd'=[some (.sh (.lst (List.map D.int ns)))],R1,?_,λH2 F2 σ2 J items s2 R2 it e2 acc hacc=>?_⟩
  ·simp only[xz,bB,ai,fU,fV,aS,TZ,pW,ab,FH,FI,aY,drf,List.getElem?_cons_zero,Ub]
   exact⟨⟨cut ns none (some 63),qN _ _ _,Nat.le_trans (tY _ _ _) hl⟩,trivial⟩
  obtain⟨⟨ms,rfl,hm⟩,rfl⟩:=e2;have a0:Y.H0 acc=none:=(R2.fresh0 hacc).1;have aF:F2 acc=none:=aM R2.fr hacc;have noOwn:∀ (σ:St) (a:Addr),NoOwn [some (.sh (.lst (List.map D.int ns)))] σ a:=λσ a=>⟨λj ys e=>by
   cases j with
   | zero=>cases e
   | succ j=>simp at e,λ⟨j,o,c,e,_⟩=>by
   cases j with
   | zero=>cases e
   | succ j=>simp at e⟩
  have sw:∀ {F5 H5:Hp} {o:HO},Same F5 H5->F5 acc=none->Same F5 (bj H5 acc o):=λ{F5 H5 o} s5 h b u e=>by
   have:b≠acc:=λz=>by rw[z,h] at e;cases e
   rw[ah this];exact s5 b u e
  have non1:∀ (i:Nat) (xs:List D),([none]:Sd)[i]?≠some (some (.own xs)):=λi xs e=>by
   cases i with
   | zero=>cases e
   | succ i=>simp at e
  have nob1:∀ (i:Nat) (o:O),([none]:Sd)[i]?≠some (some (.obj o)):=λi o e=>by
   cases i with
   | zero=>cases e
   | succ i=>simp at e
  refine⟨λi m σ1 H'=>∃ Fi as cs,Same F2 Fi/\RS Y Fi [some (.sh (.lst (List.map D.int ns)))] σ H'/\H' acc=some (.lst (List.map V.ref as))/\(acc::as).Nodup/\(∀ b∈acc::as,Y.H0 b=none/\Fi b=none) /\
    (∀ (i:Nat) (a:Addr) (c:Int),as[i]?=some a->cs[i]?=some c->H' a=some (.lst [.int c,.int 0]))/\as.length=cs.length/\as.length=i/\RS ⟨H',Fi,[],[]⟩ Fi [none] σ1 H'/\m=ms.length - i/\i<=ms.length,
   ⟨ms.length,F2,[],[],Same.refl _,R2.other aF a0 (noOwn _ _),ao,by simp,λb hb=>by rw[List.mem_singleton.mp hb];exact⟨a0,aF⟩,λi a c e=>by simp at e,rfl,rfl,nF R2 [none] (Same.refl _) (sw R2.fr aF),rfl,Nat.zero_le _⟩,?_⟩
  rintro i m σ1 Hi ⟨Fi,as,cs,si,Ri,hacci,nd,fr,pots,len,leni,Rin,rfl,hi⟩;have itr:=it Fi Hi si Ri.fr i
  by_cases hl2:i < ms.length
  ·right
   obtain⟨go,yl⟩:=itr.1 (.int ms[i]) (by rw[List.getElem?_map,List.getElem?_eq_getElem hl2];rfl)
   refine⟨go,λv H' y=>?_⟩;obtain⟨F3,gr,rep⟩:=yl v H' y;have sF:Same Fi F3:=gr.same Ri.fr;have R3:=gr.rs Rin;have R3':RS ⟨H',F3,[],[]⟩ F3 [none] σ1 H':=R3.less (dy _) non1 nob1 R3.fr;have sH:Same Hi H':=by
    rcases gr with ⟨_,rfl⟩|⟨p,o,hp,_,rfl⟩
    ·exact Same.refl _
    ·exact ay hp
   have fr3:∀ c o,F3 c=some o->Fi c=some o\/Nw Hi c o:=λc o e=>by
    rcases gr with ⟨rfl,_⟩|⟨p,o',hp,rfl,_⟩
    ·exact .inl e
    ·by_cases hc:c=p
     ·subst hc;exact .inr (.inl hp)
     ·rw[ah hc] at e;exact .inl e
   refine⟨⟨H',F3,[],[]⟩,rfl,F3,_,.int ms[i],λσd=>σd=[some (.sh (.int ms[i]))],R3',rep,rfl,λσ4 H4 F4 σd4 s4 R4 q4=>?_⟩;subst q4;refine⟨⟨H',F3,[],[]⟩,rfl,F4,_,λbb σd=>bb=true/\σd=[some (.sh (.int ms[i]))],R4,⟨rfl,rfl⟩,λbb H5 F5 σd5 s5 R5 q5=>?_⟩;obtain⟨rfl,rfl⟩:=q5;refine (if_pos rfl).mpr ?_;refine⟨⟨H',F3,[],[]⟩,rfl,F5,_,λds σd=>ds=[.int ms[i],.int 0]/\σd=[some (.sh (.int ms[i]))],R5,?_,λvs H6 F6 ds σd6 s6 R6 r6 q6=>?_⟩
   ·simp only[sK,aO,ai,fU,fV,ab,aY,tN,List.getElem?_cons_zero]
    exact⟨trivial,trivial⟩
   obtain⟨rfl,rfl⟩:=q6;obtain rfl:=r6.int2;refine⟨by show 2<=sizeLine;decide,λa ha=>?_⟩
   have s36:Same F3 F6:=(s4.trans s5).trans s6;have s35:Same Hi H6:=sH.trans λb o e=>R6.old b o e (by simp [Dyn.ioA])
   have fr6:∀ c o,F6 c=some o->Fi c=some o\/Nw Hi c o:=λc o e=>by
    rcases R6.fro c o e with z|z
    ·exact fr3 c o z
    ·exact .inr (z.imp sH.free id)
   have w1:RS Y F6 [some (.sh (.lst (List.map D.int ns)))] σ H6:=Ri.call (sF.trans s36) R6.fr s35 fr6;have live:∀ b∈acc::as,∃ o,Hi b=some (.lst o):=λb hb=>by
    rcases List.mem_cons.mp hb with rfl|hb
    ·exact⟨_,hacci⟩
    ·obtain⟨j,hj,e⟩:=List.mem_iff_getElem.mp hb
     have hj2:j < cs.length:=by rw[<- len];exact hj
     exact⟨_,pots j b cs[j] (by rw[List.getElem?_eq_getElem hj,e]) (List.getElem?_eq_getElem hj2)⟩
   have w3:∀ b∈acc::as,F6 b=none:=λb hb=>by
    cases e:F6 b with
    | none=>rfl
    | some o =>
     obtain⟨o',e'⟩:=live b hb;rcases fr6 b o e with z|z
     ·rw[(fr b hb).2] at z;cases z
     ·rcases z with z|⟨ws,rfl⟩
      ·rw[e'] at z;cases z
      ·have y:=R6.fr b _ e;rw[s35 _ _ e'] at y;cases y
   have na:∀ b∈acc::as,b≠a:=λb hb=>by
    obtain⟨o',e'⟩:=live b hb;exact aG (s35 _ _ e') ha
   have hacc6:(bj H6 a (.lst [.int ms[i],.int 0])) acc=some (.lst (List.map V.ref as)):=by rw[ah (na acc (List.mem_cons_self ..))];exact s35 _ _ hacci
   have R7:=w1.alloc0 (o:=.lst [.int ms[i],.int 0]) ha;have aF6:=w3 acc (List.mem_cons_self ..);have nacc:a≠acc:=(na acc (List.mem_cons_self ..)).symm;have aF6':F6 a=none:=aM w1.fr ha;refine⟨List.map V.ref as,ms.length - (i+1),hacc6,by rw[List.length_map,leni];exact Nat.lt_of_lt_of_le hl2 (Nat.le_trans hm (by decide)),by omega,F6,as++[a],cs++[ms[i]],si.trans (sF.trans s36),R7.other aF6 a0 (noOwn _ _),?_,?_,?_,?_,by simp [len],by simp [leni],R6.less (σ0:=[none]) trivial non1 nob1 (sw (λb o e=>?_) aF6),rfl,hl2⟩
   ·rw[ao,List.map_append];rfl
   ·rw[List.nodup_cons] at nd ⊢
    refine⟨λh=>?_,?_⟩
    ·rcases List.mem_append.mp h with h|h
     ·exact nd.1 h
     ·exact nacc (List.mem_singleton.mp h).symm
    ·rw[List.nodup_append]
     refine⟨nd.2,by simp,λx hx y hy z=>?_⟩
     rw[List.mem_singleton.mp hy] at z;exact na x (List.mem_cons_of_mem _ hx) z
   ·intro b hb
    rcases List.mem_cons.mp hb with rfl|hb
    ·exact⟨a0,aF6⟩
    ·rcases List.mem_append.mp hb with hb|hb
     ·exact⟨(fr b (List.mem_cons_of_mem _ hb)).1,w3 b (List.mem_cons_of_mem _ hb)⟩
     ·rw[List.mem_singleton.mp hb]
      exact⟨(w1.fresh0 ha).1,aF6'⟩
   ·intro t a' c' e1 e2
    by_cases ht:t < as.length
    ·rw[List.getElem?_append_left ht] at e1
     rw[List.getElem?_append_left (by rw[<- len];exact ht)] at e2
     have hm':=List.mem_of_getElem? e1;have:a'≠acc:=λz=>(List.nodup_cons.mp nd).1 (by rw[<- z];exact hm')
     rw[ah this,ah (na a' (List.mem_cons_of_mem _ hm'))];exact s35 _ _ (pots t a' c' e1 e2)
    ·have h1:=(List.getElem?_eq_some_iff.mp e1).1
     rw[List.length_append,List.length_singleton] at h1;have h2:t=as.length:=by omega
     subst h2;rw[List.getElem?_append_right (Nat.le_refl _),Nat.sub_self] at e1;rw[List.getElem?_append_right (by rw[len];exact Nat.le_refl _),len,Nat.sub_self] at e2
     cases e1;cases e2;rw[ah nacc,ao]
   ·have:b≠a:=λz=>by rw[z,aF6'] at e;cases e
    rw[ah this];exact R6.fr b o e
  ·left
   have e:i=ms.length:=by omega
   refine⟨itr.2 (by rw[List.length_map];exact e),K acc as cs Hi ⟨same Ri,hacci,λb hb=>(fr b hb).1,nd,len,pots⟩⟩
end
theorem FnD.pots {x:Str}{st:Stmt}{ps N:List Str}{f:Addr}{fd:FuncData}(d:FnD G x st ps f fd)(hK:G.K=KF.K)(Sc:FnScope N ps (aa st))(hN:N.length=1)(hps:ps.length=1)(ht:EPots G k ⟨N,(aa st).names,[],false,false,false,λ_ _=>False⟩ (ag st)):FnPots G (k+1) x:=by
 refine⟨f,fd,ps,?_,d.m,d.F.kp,d.b⟩;refine d.F.ok Sc (λvs H Q E h=>?_) (λcdv A outer s H vs Q E hr h=>?_)
 ·obtain⟨F,ns,s,r,_⟩:=h
  rw[r.length,hps];rfl
 ·obtain⟨F,ns,sm,r,hl,K⟩:=h
  refine⟨_,ht (jN fv G.P G.w G.K G.mg G.base N x (aa st) f cdv A outer s H E).nox ⟨H,F,[],[]⟩ ⟨rfl,rfl,rfl,hK,rfl,rfl,rfl,rfl,Sc.nd,λp hp=>absurd hp (by simp),λ_ _=>rfl,λ_=>rfl,Sc.kind,λ_ _ _=>rfl,λ_=>hr.hd,hr.dp,hr.un,λ_=>PassesOwn.never,λ_=>⟨rfl,rfl,rfl⟩,λ_ _ h=>h.elim,λh=>nomatch h⟩,F,ns,?_,rfl,⟨rfl,rfl⟩,hl,λp as cs H' P=>K p as cs H' P⟩
  have:=RS.start N.length sm r;rw[hN] at this;show RS _ F _ (vs.map some++List.replicate (N.length - vs.length) none) H;rw[hN];exact this
end Vc


namespace Vc
open PySem L2
variable [KF]
variable {G:GE}{k:Nat}{S:Stat}
theorem ix2_0 (a b:D)(Q:D->Prop):HB (.lst [a,b]) (.int 0) Q=Q a:=rfl
theorem ix2_1 (a b:D)(Q:D->Prop):HB (.lst [a,b]) (.int 1) Q=Q b:=rfl
theorem ixN2_0:ixN 2 0=some 0:=rfl
theorem ixN2_1:ixN 2 1=some 1:=rfl
theorem ml {α:Type}{g:jn}{te:TD}{σc:Sd}{m:Nat}{Q:List D->List D->Prop}{xs0:List D}(gi:α->D)(P:D->Prop)(Rk:List D->Prop)(l:List α)
  (h:∀ a∈l,∀ xs,Rk xs->∀ (A:D->List D->Prop) (Z:Prop),Z->(∀ d ys,P d->Rk ys->A d ys)->g (gi a) (σc.set m (some (.own xs))) λσ1=>te σ1 λd σ3=>ja σc σ3/\Z/\jg m σ3 λys=>A d ys)
  (hl:l.length<=sizeLine) (h0:Rk xs0) (q:∀ ds ys,ds.length=l.length->(∀ d∈ds,P d)->Rk ys->Q ds ys):fK g bF te σc m (l.map gi) [] xs0 Q:=by
 have key:∀ (l2:List α) (acc xs:List D),(∀ a∈l2,a∈l)->acc.length+l2.length=l.length->(∀ d∈acc,P d)->Rk xs->fK g bF te σc m (l2.map gi) acc xs Q:=by
  intro l2
  induction l2 with
  | nil=>intro acc xs _ hlen hacc hr;exact q acc xs (by simpa using hlen) hacc hr
  | cons a l2 ih =>
   intro acc xs hm hlen hacc hr;have hlen':acc.length+(l2.length+1)=l.length:=by simpa using hlen
   show g (gi a) _ λσ1=>bF σ1 λb σ2=>_;exact h a (hm a (List.mem_cons_self ..)) xs hr (λd ys=>fK g bF te σc m (l2.map gi) (acc++[d]) ys Q) (acc.length < sizeLine) (by omega) λd ys hd hy =>
    ih _ ys (λx hx=>hm x (List.mem_cons_of_mem _ hx)) (by rw[List.length_append,List.length_singleton];omega) (λx hx=>by
     rcases List.mem_append.mp hx with hx|hx
     ·exact hacc x hx
     ·rw[List.mem_singleton.mp hx];exact hd) hy
 exact key l [] xs0 (λ_ h=>h) (by simp) (λd hd=>by cases hd) h0

end Vc


namespace Vc
open PySem L2
variable [KF]
section
variable {prog:Program}{w:World}{A:Around}{R:Result->Shared->Prop}
end
end Vc


namespace Vc
open PySem L2
variable [KF]
variable {G:GE}{k:Nat}{S:Stat}
def tIfE (c:TB)(ta tb:TV):TV:=λσ Q=>c σ λb σ1=>if b=true then ta σ1 Q else tb σ1 Q
theorem Qt {c a b:Expr}{tc:TB}{ta tb:TV}{pos:Pos}(hc:EB G k S c tc)(ha:EO G k S a ta)(hb:EO G k S b tb):EO G k S (.IfExp c a b pos) (tIfE tc ta tb):=.mk λX Y ok=>aE (vS (hc X Y ok) (ha X Y ok) (hb X Y ok)) λσ H Q q=>by
 obtain⟨F,σd,Qd,R,q,K⟩:=q;refine⟨F,σd,_,R,q,λb H1 F1 σ1 s1 R1 q1=>?_⟩;cases b with
 | true=>exact⟨F1,σ1,Qd,R1,q1,λv H' F' x σd' s'=>K v H' F' x σd' (s1.trans s')⟩
 | false=>exact⟨F1,σ1,Qd,R1,q1,λv H' F' x σd' s'=>K v H' F' x σd' (s1.trans s')⟩
end Vc


namespace Vc
open PySem L2
variable [KF]
variable {G:GE}{k:Nat}{S:Stat}
def sL (x:D)(xs:List D):Option Nat:=xs.findIdx? λy=>fk y x
def Ve (K:PySem.W.Frag):V->List V->Hp->VK->Prop:=λo vs H Q=>∃ F v x xs j,vs=[v]/\Same F H/\RepH F H o (.lst xs)/\RepH F H v x/\bv 8 x=true/\bv 8 (.lst xs)=true/\sL x xs=some j/\Q (.int j) H
theorem sM {P:Program}{w:World}{F H:Hp}{h:Heap}(ok:HOk P w H h)(s:Same F H){vs:List V}{ds:List D}{us:List Value}(r:RepL F vs ds)(rv:Vals vs us)(o:ds.all (bv 7)=true):∃ as,ReadsAll h us (cJ ds) as:=RepL.reads ok s 7 r rv o
theorem qO {x:D}(hx:bv 8 x=true)(h:Heap):∀ (xs:List D) (us:List Value) (as:List Addr),xs.all (bv 7)=true->ReadsAll h us (cJ xs) as->us.findIdx? (λu=>PyData.eqv (SeqAt.readOf h u) (cV x))=sL x xs
 | [],_,_,_,r=>by cases r;rfl
 | y::xs,us,as,ho,r=>by
  rw[List.all_cons,Bool.and_eq_true] at ho;cases r with
  | cons r1 r2 =>
   have e:SeqAt.readOf h _=cV y:=SeqAt.readOf_eq (jq 7 y ho.1).1 r1;have ih:=qO hx h xs _ _ ho.2 r2;unfold sL at ih ⊢;rw[List.findIdx?_cons,List.findIdx?_cons,e,<- sA 7 8 y x ho.1 hx,ih]
theorem xA {X:Cx}(hu:X.A.units+64 < cLine):VF X "list.index" (Ve X.K):=by
 intro pins s σ H o vs ov us Q I ro rv h;obtain⟨F,v,x,xs,j,rfl,sm,r1,r2,o1,o2,hj,q⟩:=h;obtain⟨a,ws,rfl,h1,h2⟩:=r1.lst;cases ro;obtain⟨u,rfl,ru⟩:=rv.one;obtain⟨z,its,n,rw',e⟩:=L2.Rd.ok h1 I.hok;obtain⟨as,ra⟩:=r2.reads I.hok sm ru o1;have o2':xs.all (bv 7)=true:=o2;obtain⟨bs,rb⟩:=sM I.hok sm h2 rw' o2';have hl:=dG (n:=7) (jq 7) xs o2';have hx:=jq 8 x o1;have hf:=qO o1 s.heap xs its bs o2' rb;rw[hj] at hf;obtain⟨hlt,hit,hno⟩:=List.findIdx?_eq_some_iff_getElem.mp hf;have hjz:its.length<=sizeLine:=by rw[<- rw'.length];exact z
 refine call_meets PySem.F.slot_list_index ⟨_,e,rfl⟩ PySem.F.entry_list_index (PySem.F.args_list_index_2 _ _) (SeqAt.list_indexAt a its.toArray n none #[] u (λy=>PyData.eqv (SeqAt.readOf s.heap y) (cV x)) j (by simpa using hlt) (by have:(sizeLine:Nat)=2^24:=rfl;omega) (by simpa using hit) (λm hm hmj=>?_)) ⟨e,SeqAt.items_eqAt (vs:=its.toArray) (by simpa using rb) ra hl.1 hx.1 (by have:=Nat.min_le_right (PyData.depthAll (cJ xs)) (cV x).depth;omega),?_⟩
 ·have:=hno m hmj
  simpa using this
 ·exact⟨.int j,H,I.kept (λb o e=>e),⟨_,rfl⟩,q⟩
def tIdx (to:TV)(te:TD):TV:=λσ Q=>to σ λo σ1=>(∃ ys,drf σ1 o=some (.lst ys))/\te σ1 λx σ2=>match drf σ2 o with
 | some (.lst xs)=>(bv 8 x=true/\bv 8 (.lst xs)=true)/\∃ j,sL x xs=some j/\Q (.val (.int (j:Nat))) σ2
 | _=>False
theorem EF {o e:Expr}{to:TV}{te:TD}{apos cpos:Pos}(ho:EO G k S o to)(he:ED G k S e te)(hb:∀ env,attributeBase o "index" env (eval o env)=eval o env:=by intro _;rfl)
  (hfew:∀ env,((backTo cpos (starEach [e] env)).all (λx=>!x.1)&&(backToKw cpos (keywordEach [] env)).all (λx=>x.1.isSome)&&decide (([e]:List Expr).length+([]:List Keyword).length+(if ([]:List Keyword).isEmpty then 0 else 1) < 30))=true:=by intro _;rfl)
  (hline:(apos.endLine==cpos.line)=true:=by rfl) (hs:∀ env,starEach [e] env=[(false,eval e env)]:=by intro _;rfl):EO G k S (.Call (.Attribute o "index" apos) [e] [] cpos) (tIdx to te):=.mk λX Y ok=>by
 have ha:PA X [e] (lr (lD Y te) pI):=cc (he X Y ok) eA (by rw[hs];rfl)
 refine aE (FC PySem.F.plainAttrs_list PySem.F.slot_list_index PySem.F.type_list_index (xA ok.units) (ho X Y ok) ha (hb _) (hfew _) hline (by rw[hs];rfl) (by rfl)) λσ H Q q=>?_
 obtain⟨F,σd,Qd,R,q,K⟩:=q;refine⟨F,σd,_,R,q,λv1 H1 F1 x σ1 s1 R1 r1 q1=>?_⟩;obtain⟨⟨ys,e0⟩,q1⟩:=q1;obtain⟨a,ws,e1,h1,_⟩:=(R1.drf r1 e0).lst;refine⟨by rw[e1];exact .inl ⟨rfl,ws,.inl h1⟩,F1,σ1,_,R1,q1,λv2 H2 F2 d σ2 s2 R2 r2 q2=>?_⟩
 split at q2
 ·rename_i xs e2
  obtain⟨⟨o1,o2⟩,j,hj,q2⟩:=q2;exact⟨F2,v2,d,xs,j,rfl,R2.fr,R2.drf (r1.mono s2) e2,Rep.h R2.fr r2,o1,o2,hj,K _ H2 F2 (.val (.int j)) σ2 (s1.trans s2) R2 (.int _) q2⟩
 ·exact q2.elim
end Vc


namespace Vc
open PySem L2 PySem.Spec PyProof.Rows
section
variable {prog:Program}{w:World}{A:Around}{E:Value->Shared->Prop}{s:Shared}
end
section
variable {X:Cx}{e:Expr}{te:TE}{st:Expr}{ts:TO}{pos p2:Pos}
end
variable [KF]
variable {G:GE}{k:Nat}{S:Stat}
end Vc


namespace Vc
open PySem L2 PySem.Spec PyProof.Rows PySem.SeqAt PySem.MeetsSeq PySem.MeetsSeq2 PySem.MeetsSeq3
section
variable {prog:Program}{w:World}{A:Around}{E:Value->Shared->Prop}{s:Shared}
end
section
variable {X:Cx}
end
variable [KF]
variable {G:GE}{k:Nat}{S:Stat}
end Vc


namespace Vc
open PySem L2
variable [KF]

section
variable {M:Model}{A:Around}{E:Value->Shared->Prop}{s:Shared}{base:Heap}{env:Env}{outer:List Env}{L a T:Addr}{c:Str}{Q:Unit->Shared->Prop}
end
end Vc


namespace Vc
open PySem L2
variable [KF]
variable {G:GE}{k:Nat}{S:Stat}

end Vc


namespace Vc
open PySem L2
variable [KF]
variable {G:GE}{k:Nat}{S:Stat}

end Vc


namespace Vc
open PySem L2
variable [KF]
variable {G:GE}{k:Nat}{S:Stat}

section
variable {M:Model}{A:Around}{E:Value->Shared->Prop}{h:Heap}{g:Array GenState}{d:Drawn}{t:Nat}{os:OsState}
end
end Vc


namespace Vc
open PySem L2
variable [KF]
variable {G:GE}{k:Nat}{S:Stat}

section
variable {X:Cx}{pins:List (Addr×Obj)}{σ:St}{H:Hp}{s:Shared}{a:Addr}{xe:Value->Shared->Prop}
end
end Vc


namespace Vc
open PySem L2
variable [KF]
variable {G:GE}{k:Nat}{S:Stat}

end Vc


namespace Vx
open PySem PySem.W PySem.Calls PySem.Spec PyProof.Rows Builtin Builtin.ObjectAttr Builtin.Getset_descriptor

section
variable {prog:Program}{w:World}{A:Around}{E:Value->Shared->Prop}{h:Heap}{g:Array GenState}{d:Drawn}{t:Nat}{os:OsState}{K:PySem.W.Frag}{x C:Addr}{o:Obj}
end
end Vx


namespace Vc
open PySem L2
variable [KF]
variable {G:GE}{k:Nat}{S:Stat}

end Vc


namespace Vc
open PySem L2
variable [KF]
variable {G:GE}{k:Nat}{S:Stat}

end Vc


namespace Vx
open PySem PySem.Spec PySem.Calls PyProof.Rows Builtin
end Vx
namespace Vc
open PySem L2
variable [KF]
variable {G:GE}{k:Nat}{S:Stat}
end Vc
namespace Vc
end Vc


namespace Vc
open PySem L2
section
variable {X:Cx}
end
variable [KF]
variable {G:GE}{k:Nat}{S:Stat}
end Vc

set_option maxHeartbeats 0
namespace Vc
open PySem PySem.W
@[elab_as_elim] theorem len1 {α:Type} {P:List α->Prop} (h:∀ a,P [a]):∀ us:List α,us.length=1->P us
 | [a],_=>h a
@[elab_as_elim] theorem len2 {α:Type} {P:List α->Prop} (h:∀ a b,P [a,b]):∀ us:List α,us.length=2->P us
 | [a,b],_=>h a b
@[elab_as_elim] theorem len3 {α:Type} {P:List α->Prop} (h:∀ a b c,P [a,b,c]):∀ us:List α,us.length=3->P us
 | [a,b,c],_=>h a b c
@[elab_as_elim] theorem len4 {α:Type} {P:List α->Prop} (h:∀ a b c d,P [a,b,c,d]):∀ us:List α,us.length=4->P us
 | [a,b,c,d],_=>h a b c d
@[elab_as_elim] theorem len5 {α:Type} {P:List α->Prop} (h:∀ a b c d e,P [a,b,c,d,e]):∀ us:List α,us.length=5->P us
 | [a,b,c,d,e],_=>h a b c d e
theorem x_of_o {q:Program}{loose:List Str}{XP:(Str->Option Value)->Heap->Prop}{K:Params->Frag}{as:List Addr}{n t:Nat}{r:RowW}{d:DefRec}{kwd:List (Str×Expr)}{run:Value->List Value->Sem Value}
  (e:∀ P,as=(K P).map (·.1)) (h:WalkO q loose XP (λw h=>(K w.params).In h) r d kwd run):WalkX q loose XP (X.obsZ as) (X.valZ K n t) r d kwd run :=
 λw s₀ s₁ mg mb G y a o pm cd doc dV kV ho hd hcd hD hmg hg args vals as' L hpre hlay hrd hwl hlo =>
  h w s₀ s₁ mg mb G (InK.keeps w _ _ (X.z_facts e y).2.1 L.keeps) a o pm cd doc dV kV ho hd hcd hD hmg hg args vals as' hpre hlay hrd hwl hlo
end Vc


namespace Vc
open PySem L2
variable [KF]
variable {G:GE}{k:Nat}{S:Stat}
end Vc


namespace Vc
open PySem L2
variable [KF]
variable {G:GE}{k:Nat}{S:Stat}
end Vc


namespace Vc
open PySem L2
variable [KF]
variable {G:GE}{k:Nat}{S:Stat}
end Vc


namespace Vc
open PySem L2
variable [KF]
variable {G:GE}{k:Nat}{S:Stat}
end Vc


namespace Vc
open PySem L2
variable [KF]
variable {G:GE}{k:Nat}{S:Stat}
end Vc


namespace Vc
open PySem L2
variable [KF]
variable {G:GE}{k:Nat}{S:Stat}
theorem RS.objWrite {Y:Dyn}{F:Hp}{σd:Sd}{σ:St}{H:Hp}{i:Nat}{o o':O}{a c:Addr}{u:HO}(R:RS Y F σd σ H)(e:σd[i]?=some (some (.obj o)))(h:σ[i]?=some (some (.ref a)))(hc:c∈o.fp a)(hfp:∀ b,b∈o'.fp a->b∈o.fp a)
  (hr:o'.rep F (bj H c u) a):RS Y F (σd.set i (some (.obj o'))) σ (bj H c u):=by
 obtain⟨a',w1,w2,w3⟩:=R.ob.obj i o e;rw[h] at w1;cases w1;have ow:∀ b∈o.fp a,fw σd σ b:=λb hb=>⟨i,o,a,e,h,hb⟩;have hl:i < σd.length:=(List.getElem?_eq_some_iff.mp e).1;have up:∀ {b:Addr},H b≠none->(bj H c u) b≠none:=λ{b} hb=>by
  by_cases z:b=c
  ·rw[z,ao];exact λy=>nomatch y
  ·rw[ah z];exact hb
 refine⟨by simpa using R.len,R.lo,λb q z=>?_,R.fro,λb q z n=>?_,λj d z=>?_,λj xs z=>?_,λj l xs ys b z1 z2 z3 z4=>?_,λp hp=>?_,⟨λj p z=>?_,λj l p p2 b d z1 z2 z3 z4 hne x hx hx2=>?_,λj ys b z1 z2 ⟨l,p,d,z3,z4,hm⟩=>?_,λb hb=>up (R.ob.there b hb),R.ob.thz,R.ob.tab⟩⟩
 ·have:b≠c:=λy=>by rw[y,(w3 c hc).1] at z;cases z
  rw[ah this];exact R.fr b q z
 ·have:b≠c:=λy=>by
   subst y;rcases (w3 b hc).2.2 with y|y
   ·rw[y] at z;cases z
   ·exact n (List.mem_append_right _ y)
  rw[ah this];exact R.old b q z n
 ·rcases gs z with ⟨_,y⟩|⟨_,z⟩
  ·cases y
  ·exact R.sh j d z
 ·rcases gs z with ⟨_,y⟩|⟨_,z⟩
  ·cases y
  ·obtain⟨b,vs,y1,y2,y3⟩:=R.own j xs z
   have:b≠c:=λy=>R.ob.dsx j xs b z y1 (y ▸ ow c hc);exact⟨b,vs,y1,by rw[ah this];exact y2,y3⟩
 ·rcases gs z1 with ⟨_,y⟩|⟨_,z1⟩
  ·cases y
  rcases gs z2 with ⟨_,y⟩|⟨_,z2⟩
  ·cases y
  exact R.dis j l xs ys b z1 z2 z3 z4
 ·obtain⟨y1,xs,y2⟩:=R.io p hp
  have:p.1≠i:=λy=>by rw[y,e] at y2;cases y2
  exact⟨y1,xs,by rw[bh this];exact y2⟩
 ·rcases gs z with ⟨rfl,y⟩|⟨hj,z⟩
  ·cases y
   exact⟨a,h,hr,λb hb=>⟨(w3 b (hfp b hb)).1,up (w3 b (hfp b hb)).2.1,(w3 b (hfp b hb)).2.2⟩⟩
  ·obtain⟨b,y1,y2,y3⟩:=R.ob.obj j p z
   refine⟨b,y1,p.mono (Same.refl _) (λd hd=>?_) y2,λd hd=>⟨(y3 d hd).1,up (y3 d hd).2.1,(y3 d hd).2.2⟩⟩;exact ah λy=>R.ob.dso i j o p a b e z h y1 (Ne.symm hj) c hc (y ▸ hd)
 ·rcases gs z1 with ⟨e1,y⟩|⟨hj,y1⟩
  ·cases y
   subst e1;rw[h] at z3;cases z3;rcases gs z2 with ⟨e2,_⟩|⟨hl2,y2⟩
   ·exact hne e2.symm
   ·exact R.ob.dso j l o p2 a d e y2 h z4 hne x (hfp x hx) hx2
  ·rcases gs z2 with ⟨e2,y⟩|⟨hl2,y2⟩
   ·cases y
    subst e2;rw[h] at z4;cases z4;exact R.ob.dso j l p o b a y1 e z3 h hne x hx (hfp x hx2)
   ·exact R.ob.dso j l p p2 b d y1 y2 z3 z4 hne x hx hx2
 ·rcases gs z1 with ⟨_,y⟩|⟨_,y1⟩
  ·cases y
  rcases gs z3 with ⟨e3,y⟩|⟨_,y3⟩
  ·cases y
   subst e3;rw[h] at z4;cases z4;exact R.ob.dsx j ys b y1 z2 (ow b (hfp b hm))
  ·exact R.ob.dsx j ys b y1 z2 ⟨l,p,d,y3,z4,hm⟩
def EH (i:Nat):TV:=λσ Q=>(∃ o,σ[i]?=some (some (.obj o)))/\Q (.var i) σ
theorem nZ (i:Nat){x:Str}{pos:Pos}(hN:S.N[i]?=some x:=by rfl)(hv:S.sc.lookup x=some .local\/S.sc.lookup x=some .cell\/S.sc.lookup x=some .free:=by first|exact Or.inl rfl|exact Or.inr (Or.inl rfl)|exact Or.inr (Or.inr rfl))
  (hd:(x==("__debug__":Str))=false:=by decide) (hcd:(x==("__classdict__":Str))=false:=by decide):EO G k S (.Name x pos) (EH i):=.mk λX Y ok =>
 aE (fB (X:=X) (i:=i) (by rw[ok.N];exact hN) (by unfold Dq;rw[ok.sc];exact hv) hd hcd) λσ H Q q=>by
  obtain⟨F,σd,Qd,R,⟨⟨o,e⟩,q⟩,K⟩:=q;obtain⟨a,w1,_⟩:=R.ob.obj i o e;exact⟨.ref a,w1,K _ H F (.var i) σd (Same.refl _) R w1 q⟩
def xB (neg:Bool):R2:=λy x H Q=>∃ a o,x=.ref a/\DGet H a y o/\Q (.bl (if neg then !o.isSome else o.isSome)) H
theorem vy {X:Cx}(hu:X.A.units+1 < cLine):OpR X (compareOp .NotIn) (xB true):=by
 intro pins s σ H x y v u Q I rx ry h;obtain⟨a,o,rfl,g,q⟩:=h;cases ry;exact DJ hu I g rx λs' I'=>⟨.bl (!o.isSome),H,I',rfl,q⟩
end Vc

namespace Vx
open PySem PySem.Spec PyProof.Rows PySem.Builtin L2
end Vx
namespace Vc
open PySem L2
variable [KF]
variable {G:GE}{k:Nat}{S:Stat}
end Vc


namespace Vc
open PySem L2
variable [KF]
variable {G:GE}{k:Nat}{S:Stat}
end Vc


namespace Vc
open PySem PyProof.Rows
section
variable {prog:Program}{w:World}{A:Around}{R:Result->Shared->Prop}
def Kp (h g:Heap):Prop:=∀ b o,h.get? b=some o->g.get? b=some o
end
end Vc

namespace Vc
open PySem PySem.Spec PyProof.Rows L2
section
variable {prog:Program}{w:World}{A:Around}
end
end Vc

namespace Vc
open PySem PySem.Spec PyProof.Rows L2
section
variable {M:Model}{A:Around}{E:Value->Shared->Prop}{s:Shared}{params:Arguments}{body:Expr}{scope:Scope}{env:Env}{c P:Addr}{ps more:Array Value}{pos:Pos}{mg:Str->Option Value}{Q:Value->Shared->Prop}
end
end Vc

namespace Vc
open PySem PySem.Spec PyProof.Rows L2
section
variable [KF]{X:Cx}{pins:List (Addr×Obj)}{σ:L2.St}{H H1:Hp}{s:Shared}{P f c':Addr}{ps more':Array Value}{pos:Pos}{qual:Str}{oc fo:Obj}{vs:Array Value}{t:Tok}{h':Heap}{t':Nat}
end
end Vc

namespace Vc
open PySem PySem.Spec PyProof.Rows L2
section
variable [KF]{X:Cx}{c P:Addr}{ps:Array Value}{lpos:Pos}{params:Arguments}{body:Expr}{scope:Scope}
end
section
variable [KF]{G:GE}{k:Nat}{S:Stat}
end
end Vc

namespace Vc
open PySem PySem.W L2
section
variable {P:Addr}{K:Frag}(hP:K.lookup P=some (tabObj #[]))
include hP
end
end Vc

namespace Vc
open PySem PySem.Spec PyProof.Rows L2
section
variable [KF]{G:GE}{k:Nat}
end
end Vc

namespace Vc
open PySem L2
variable [KF]
section
variable {X:Cx}{pins:List (Addr×Obj)}{σ:St}{H:Hp}{s:Shared}{elt target iter:Expr}{ifs:List Expr}{scope:Scope}{pos:Pos}{N':List Str}{caps:List (Option Nat)}{z:Str}
end
section
variable {X:Cx}{elt iter:Expr}{ifs:List Expr}{scope:Scope}{pos:Pos}{N':List Str}{caps:List (Option Nat)}{wi:TI}{tc:TT}{te:TE}
end
variable {G:GE}{k:Nat}{S:Stat}
end Vc

namespace Vc
open PySem L2
variable [KF]
section
variable {X:Cx}
end
theorem RS.objSet {Y:Dyn}{F:Hp}{σd:Sd}{σ:St}{H H':Hp}{i:Nat}{o o':O}{a:Addr}(R:RS Y F σd σ H)(e:σd[i]?=some (some (.obj o)))(h:σ[i]?=some (some (.ref a)))
  (keep:∀ b,b∉o.fp a->H b≠none->H' b=H b) (live:∀ b,H b≠none->H' b≠none) (hfp:∀ b∈o'.fp a,b∈o.fp a\/H b=none) (hn:∀ b∈o'.fp a,H' b≠none)
  (hr:o'.rep F H' a):RS Y F (σd.set i (some (.obj o'))) σ H':=by
 obtain⟨a',w1,w2,w3⟩:=R.ob.obj i o e;rw[h] at w1;cases w1;have ow:∀ b∈o.fp a,fw σd σ b:=λb hb=>⟨i,o,a,e,h,hb⟩;have hl:i < σd.length:=(List.getElem?_eq_some_iff.mp e).1;refine⟨by simpa using R.len,R.lo,λb q z=>?_,R.fro,λb q z n=>?_,λj d z=>?_,λj xs z=>?_,λj l xs ys b z1 z2 z3 z4=>?_,λp hp=>?_,⟨λj p z=>?_,λj l p p2 b d z1 z2 z3 z4 hne x hx hx2=>?_,λj ys b z1 z2 ⟨l,p,d,z3,z4,hm⟩=>?_,λb hb=>live b (R.ob.there b hb),R.ob.thz,R.ob.tab⟩⟩
 ·have hb:b∉o.fp a:=λy=>by rw[(w3 b y).1] at z;cases z
  have:=R.fr b q z;rw[keep b hb (by rw[this];exact λy=>nomatch y)];exact this
 ·have hb:b∉o.fp a:=λy=>by
   rcases (w3 b y).2.2 with y|y
   ·rw[y] at z;cases z
   ·exact n (List.mem_append_right _ y)
  have:=R.old b q z n;rw[keep b hb (by rw[this];exact λy=>nomatch y)];exact this
 ·rcases gs z with ⟨_,y⟩|⟨_,z⟩
  ·cases y
  ·exact R.sh j d z
 ·rcases gs z with ⟨_,y⟩|⟨_,z⟩
  ·cases y
  ·obtain⟨b,vs,y1,y2,y3⟩:=R.own j xs z
   have hb:b∉o.fp a:=λy=>R.ob.dsx j xs b z y1 (ow b y);exact⟨b,vs,y1,by rw[keep b hb (by rw[y2];exact λy=>nomatch y)];exact y2,y3⟩
 ·rcases gs z1 with ⟨_,y⟩|⟨_,z1⟩
  ·cases y
  rcases gs z2 with ⟨_,y⟩|⟨_,z2⟩
  ·cases y
  exact R.dis j l xs ys b z1 z2 z3 z4
 ·obtain⟨y1,xs,y2⟩:=R.io p hp
  have:p.1≠i:=λy=>by rw[y,e] at y2;cases y2
  exact⟨y1,xs,by rw[bh this];exact y2⟩
 ·rcases gs z with ⟨rfl,y⟩|⟨hj,z⟩
  ·cases y
   refine⟨a,h,hr,λb hb=>?_⟩;rcases hfp b hb with y|y
   ·exact⟨(w3 b y).1,hn b hb,(w3 b y).2.2⟩
   ·exact⟨aM R.fr y,hn b hb,.inl (R.fresh0 y).1⟩
  ·obtain⟨b,y1,y2,y3⟩:=R.ob.obj j p z
   have kp:∀ d∈p.fp b,H' d=H d:=λd hd=>keep d (λy=>R.ob.dso i j o p a b e z h y1 (Ne.symm hj) d y hd) (y3 d hd).2.1;exact⟨b,y1,p.mono (Same.refl _) kp y2,λd hd=>⟨(y3 d hd).1,live d (y3 d hd).2.1,(y3 d hd).2.2⟩⟩
 ·rcases gs z1 with ⟨e1,y⟩|⟨hj,y1⟩
  ·cases y
   subst e1;rw[h] at z3;cases z3;rcases gs z2 with ⟨e2,_⟩|⟨hl2,y2⟩
   ·exact hne e2.symm
   ·rcases hfp x hx with y|y
    ·exact R.ob.dso j l o p2 a d e y2 h z4 hne x y hx2
    ·exact (R.ob.owned ⟨l,p2,d,y2,z4,hx2⟩).2.1 y
  ·rcases gs z2 with ⟨e2,y⟩|⟨hl2,y2⟩
   ·cases y
    subst e2;rw[h] at z4;cases z4;rcases hfp x hx2 with y|y
    ·exact R.ob.dso j l p o b a y1 e z3 h hne x hx y
    ·exact (R.ob.owned ⟨j,p,b,y1,z3,hx⟩).2.1 y
   ·exact R.ob.dso j l p p2 b d y1 y2 z3 z4 hne x hx hx2
 ·rcases gs z1 with ⟨_,y⟩|⟨_,y1⟩
  ·cases y
  rcases gs z3 with ⟨e3,y⟩|⟨_,y3⟩
  ·cases y
   subst e3;rw[h] at z4;cases z4;rcases hfp b hm with y|y
   ·exact R.ob.dsx j ys b y1 z2 (ow b y)
   ·obtain⟨c,vs,u1,u2,_⟩:=R.own j ys y1
    rw[z2] at u1;cases u1;rw[y] at u2;cases u2
  ·exact R.ob.dsx j ys b y1 z2 ⟨l,p,d,y3,z4,hm⟩
end Vc

namespace Vc
open PySem L2
variable [KF]
variable {G:GE}{k:Nat}{S:Stat}
end Vc

namespace Vc
open PySem L2
variable [KF]
variable {G:GE}{k:Nat}{S:Stat}
end Vc

set_option maxHeartbeats 400000
namespace Vc
open PySem L2
variable [KF]
variable {G:GE}{k:Nat}{S:Stat}
end Vc

set_option maxHeartbeats 400000
namespace Vc
open PySem L2
variable [KF]
variable {G:GE}{k:Nat}{S:Stat}
end Vc

namespace Vc
open PySem L2
section
variable {prog:Program}{w:World}{K:Type}[DecidableEq K]{kn:HeapKind prog w K}{A:Around}{E:Value->Shared->Prop}{s:Shared}
end
end Vc

namespace Vc
open PySem L2
section
variable {prog:Program}{w:World}{A:Around}{E:Value->Shared->Prop}{s:Shared}{d it:Addr}{en:Array DictEntry}{c i:Nat}
def DAt (h:Heap)(d:Addr)(en:Array DictEntry)(c:Nat):Prop:=∃ ob,h.get? d=some ob/\ob.ExactDict/\ob.data=.dict en c
theorem DAt.ty (h:DAt s.heap d en c):s.TypeIs (.ref d) "dict":=let ⟨ob,e,x,_⟩:=h;⟨ob,e,x.1⟩
theorem EJ {Q:Value->Shared->Prop}(lo:(d==sysModules)=false)(m:DAt s.heap d en c)
  (q:Q (.ref s.heap.objs.size) { s with heap:=s.heap.push { cls:=.type "dict_keyiterator",data:=.fields #[.ref d,.int 0 0,.int en.size 0,.int c 0] } }):wpAny (model prog w) A (pyIter (.ref d)) Q E s:=by
 obtain⟨ob,e1,e2,e3⟩:=id m;refine wpAny_pyIter_slot m.ty F.slot_dict_iter (wpAny_call_entry F.slot_dict_iter m.ty F.entry_dict_iter ?_ (F.args_dict_iter_1 _));unfold Builtin.«dict.__iter__» Builtin.Dict.dictSlotNone;refine wpAny_bind (wpAny_bind (wpAny_notOrdered_dict m.ty ?_));show wpAny _ _ (pure (Value.ref d)) _ _ _;refine wpAny_pure ?_;show wpAny _ _ (Builtin.Dict.showsAll d >>= _) _ _ _;unfold Builtin.Dict.showsAll;rw[lo,if_neg Bool.false_ne_true];refine wpAny_bind (wpAny_pure (wpAny_bind (wpAny_dictEntries e1 e3 (wpAny_bind (wpAny_dictEpoch e1 e3 (wpAny_bind (wpAny_newObj_type (wpAny_pure ⟨_,rfl,"dict_keyiterator",_,⟨_,Heap.get?_push_size _ rfl,rfl⟩,F.slot_dict_keyiterator_next.lookup,?_⟩))))))));simpa [rawInt] using q
theorem EK {e:DictEntry}{Q:Option Value->Shared->Prop}(t:s.heap.IsKeyIter it d i en.size c)(m:DAt s.heap d en c)(x:en[i]?=some e)
  (q:∀ h',h'.IsKeyIter it d (i+1) en.size c->Heap.SameBut it s.heap h'->Q (some e.key) { s with heap:=h' }):wpAny (model prog w) A (pyNext (.ref it)) Q E s:=by
 obtain⟨o1,t1,t2,t3⟩:=id t;obtain⟨ob,e1,e2,e3⟩:=id m;unfold pyNext;refine wpAny_bind (wpAny_attempt (wpAny_callSpecial?_slot (name:=Str.ofString "__next__") t.typeIs F.slot_dict_keyiterator_next (wpAny_call_entry F.slot_dict_keyiterator_next t.typeIs F.entry_dict_keyiterator_next ?_ (F.args_dict_keyiterator_next_1 _))));refine wpAny_bind (wpAny_pure (wpAny_bind (wpAny_bind ?_)))
 first|refine wpAny_bind (wpAny_typeNameOfWhole_keyiter t.typeIs (wpAny_pure ?_))|refine wpAny_bind (wpAny_typeNameOf_keyiter t.typeIs (wpAny_pure ?_))
 refine wpAny_bind (wpAny_fieldsOf t1 t3 ?_);rw[show Builtin.Dict_items.ownsTuple "dict_keyiterator"=false by decide,if_neg Bool.false_ne_true]
 show wpAny _ _ (if (Value.ref d==Value.none)=true then _ else _) _ _ s
 rw[if_neg (show ¬ ((Value.ref d==Value.none)=true) from Bool.false_ne_true)]
 refine wpAny_bind (wpAny_pure (wpAny_bind (wpAny_dictEntries e1 e3 ?_)));rw[if_neg (by simp)]
 refine wpAny_bind (wpAny_pure (wpAny_bind (wpAny_dictEpoch e1 e3 ?_)));rw[if_neg (by simp)]
 refine wpAny_pure ?_;simp only[show ¬ ((i:Int) < 0) from by omega,if_false,Int.toNat_natCast,x]
 refine wpAny_bind ?_
 first|refine wpAny_bind (wpAny_typeNameOfWhole_keyiter t.typeIs (wpAny_pure ?_))|refine wpAny_bind (wpAny_typeNameOf_keyiter t.typeIs (wpAny_pure ?_))
 refine wpAny_bind (wpAny_isOneOf_keyiter t.typeIs ?_);show wpAny _ _ (setField (.ref it) 1 (rawInt ((i:Int)+1)) >>= _) _ _ s;refine wpAny_bind (wpAny_setField t1 t3 (by simp) ?_)
 have t':(s.heap.update it (Obj.mapFields (·.setIfInBounds 1 (rawInt ((i:Int)+1))))).IsKeyIter it d (i+1) en.size c :=
  ⟨_,Heap.get?_update_self _ t1 (Obj.isFreed_of_fields (Obj.data_mapFields t3 _)),(Obj.cls_mapFields ..).trans t2,by rw[Obj.data_mapFields t3];simp [rawInt]⟩
 refine wpAny_bind (wpAny_holding (wpAny_bind (wpAny_isOneOf_keyiter (s:={ s with heap:=s.heap.update it (Obj.mapFields (·.setIfInBounds 1 (rawInt ((i:Int)+1)))) }) t'.typeIs ?_)))
 show wpAny _ _ (pure e.key) _ _ _;exact wpAny_pure (wpAny_pure ⟨_,rfl,wpAny_pure (q _ t' (Heap.SameBut.update ..))⟩)
theorem Ia {Q:Option Value->Shared->Prop}(hh:A.handled=none)(t:s.heap.IsKeyIter it d i en.size c)(m:DAt s.heap d en c)(x:en.size<=i)
  (q:∀ h',Heap.ExtBut it s.heap h'->Q none { s with heap:=h' }):wpAny (model prog w) A (pyNext (.ref it)) Q E s:=by
 obtain⟨o1,t1,t2,t3⟩:=id t;obtain⟨ob,e1,e2,e3⟩:=id m;unfold pyNext;refine wpAny_bind (wpAny_attempt (wpAny_callSpecial?_slot (name:=Str.ofString "__next__") t.typeIs F.slot_dict_keyiterator_next (wpAny_call_entry F.slot_dict_keyiterator_next t.typeIs F.entry_dict_keyiterator_next ?_ (F.args_dict_keyiterator_next_1 _))));refine wpAny_bind (wpAny_pure (wpAny_bind (wpAny_bind ?_)))
 first|refine wpAny_bind (wpAny_typeNameOfWhole_keyiter t.typeIs (wpAny_pure ?_))|refine wpAny_bind (wpAny_typeNameOf_keyiter t.typeIs (wpAny_pure ?_))
 refine wpAny_bind (wpAny_fieldsOf t1 t3 ?_);rw[show Builtin.Dict_items.ownsTuple "dict_keyiterator"=false by decide,if_neg Bool.false_ne_true]
 show wpAny _ _ (if (Value.ref d==Value.none)=true then _ else _) _ _ s
 rw[if_neg (show ¬ ((Value.ref d==Value.none)=true) from Bool.false_ne_true)]
 refine wpAny_bind (wpAny_pure (wpAny_bind (wpAny_dictEntries e1 e3 ?_)));rw[if_neg (by simp)]
 refine wpAny_bind (wpAny_pure (wpAny_bind (wpAny_dictEpoch e1 e3 ?_)));rw[if_neg (by simp)]
 refine wpAny_pure ?_;simp only[show ¬ ((i:Int) < 0) from by omega,if_false,Int.toNat_natCast,Array.getElem?_eq_none x]
 refine wpAny_bind ?_
 first|refine wpAny_bind (wpAny_typeNameOfWhole_keyiter t.typeIs (wpAny_pure ?_))|refine wpAny_bind (wpAny_typeNameOf_keyiter t.typeIs (wpAny_pure ?_))
 show wpAny _ _ (setField (.ref it) 0 .none >>= _) _ _ s;refine wpAny_bind (wpAny_setField t1 t3 (by simp) ?_)
 show wpAny _ _ (newExc (.type "StopIteration") [] >>= _) _ _ _;refine wpAny_bind ?_;simp only[newExc,newTuple];refine wpAny_bind (wpAny_newObj_type ?_ (by size_fits))
 refine wpAny_bind (m:=firstArgMember _ _) (wpAny_of_eq (a:=Value.none) (by first|rfl | (simp only[firstArgMember];rfl)) (wpAny_newObj_type ?_ (by size_fits)))
 simp only[raiseNew];refine wpAny_bind (wpAny_handled ?_);rw[show A.in1.handled=none from hh]
 refine wpAny_bind (wpAny_pure (wpAny_throw ?_));refine wpAny_bind (wpAny_isInstance (T:="StopIteration") (b:=true) ⟨_,Heap.get?_push_size _ rfl,rfl⟩ isSubtype_stop ?_);exact wpAny_pure (q _ (((Heap.SameBut.update ..).extBut.push _).push _))
theorem DAt.at {h h':Heap}(x:DAt h d en c)(e:∀ o,h.get? d=some o->h'.get? d=some o):DAt h' d en c:=let ⟨o,a,r⟩:=x;⟨o,e _ a,r⟩
theorem xC (hh:A.handled=none)(I d:Addr)(ne:d≠I)(en:Array DictEntry)(c:Nat) :
  Walks prog w A I [I,d] [I] en.size (λi v=>∃ e,en[i]?=some e/\v=e.key) (λi h=>h.IsKeyIter I d i en.size c/\DAt h d en c) where
 sub:=λb hb=>List.mem_cons.mpr (.inl (List.mem_singleton.mp hb))
 frame:=λ_ _ _ st kp=>⟨st.1.at λo e=>kp I (.head _) o e,st.2.at λo e=>kp d (.tail _ (.head _)) o e⟩
 item:=λi s Q E hi st q=>by
  have x:en[i]?=some en[i]:=Array.getElem?_eq_getElem hi;refine EK st.1 st.2 x λh' t' sb=>q _ h' s.toks ⟨_,x,rfl⟩ ⟨t',st.2.at λo e=>(sb.2 d ne).trans e⟩ λb o hb e=>(sb.2 b λy=>hb (List.mem_singleton.mpr y)).trans e
 done:=λs Q E st q=>Ia hh st.1 st.2 (Nat.le_refl _) λh' ex=>q h' s.toks λb o hb e=>ex b o (λy=>hb (List.mem_singleton.mpr y)) e
 self:=λ_ _ _ _ st q=>wpAny_pyIter_keyiter st.1 q
theorem Ib (lo:(d==sysModules)=false):PySem.W.KdlSrc prog w "dict" d d en.size (λi v=>∃ e,en[i]?=some e/\v=e.key) (λh=>DAt h d en c) where
 type:=λ_ m=>m.ty
 there:=λ_ m=>let ⟨_,e,_⟩:=m;⟨Heap.lt_size e,Heap.lt_size e⟩
 keep:=λ_ _ m kp=>m.at λo e=>kp d (.inl rfl) o e
 notList:=by decide
 notTuple:=by decide
 hint:=λ_ _ _ _ m q=>PySem.W.kdl_hint_dict m.ty q
 iter:=λ_ s hh m=>⟨_,_,(λ_ _ q=>EJ lo m q),xC hh _ d (let ⟨_,e,_⟩:=m;Nat.ne_of_lt (Heap.lt_size e)) en c,⟨⟨_,Heap.get?_push_size _ rfl,rfl,rfl⟩,m.at λo e=>Heap.get?_push_of_some _ e⟩⟩
end
end Vc

namespace Vs
open PySem PySem.Calls PyProof.Rows PyProof.V PySem.Spec
section
variable {prog:Program}{w:World}{A:Around}{E:Value->Shared->Prop}{s:Shared}
theorem sorted_src {T:String}{r d:Addr}{n:Nat}{P:Nat->Value->Prop}{OK:Heap->Prop}{vs:List Value}{kd:SortKind}{ρ:Keyed->Nat}{P':Keyed->Prop}{Q:Value->Shared->Prop}(K:PySem.W.KdlSrc prog w T r d n P OK)(hh:A.handled=none)(ok:OK s.heap)(hn:n<=sizeLine)
  (hv:∀ acc:Array Value,ItemsOf P acc n->acc.toList=vs) (hz:vs.length<=sizeLine) (h0:∀ p∈(pairsOf vs).toList,P' p)
  (hk:2<=vs.length->∀ (A':Around) (E':Value->Shared->Prop) (g:Heap) (t:Nat),(∀ b o,s.heap.get? b=some o->g.get? b=some o)->(∀ Q:SortKind->Shared->Prop,Q kd { s with heap:=g,toks:=t }->wpAny (model prog w) A' (keyKind' vs.toArray) Q E' { s with heap:=g,toks:=t })/\et (model prog w) A' E' { s with heap:=g,toks:=t } ρ kd P')
  (h:∀ (xs:Array Keyed) (h1 g:Heap) (c t:Nat),xs.Perm (pairsOf vs)->Seg ρ xs 0 vs.length->(∀ b o,s.heap.get? b=some o->h1.get? b=some o)->(∀ b o,h1.get? b=some o->g.get? b=some o)->g.get? h1.objs.size=some (seqObj "list" (xs.map (·.2)) c)->Q (.ref h1.objs.size) { s with heap:=g,toks:=t }) :
  wpAny (model prog w) A (call (.builtin "sorted") [.ref r]) Q E s:=by
 refine Calls.call_function_entry kind_sorted plain_sorted entry_sorted (args_sorted1 _) ?_;unfold Builtin.«sorted»;refine wpAny_bind (m:=checkCount "sorted" 1 1 _) (wpAny_pure (wpAny_bind (PySem.W.kdu_collect (A:=A.in1) K hh ok hn λh1 t acc k1 items=>?_)));rw[hv acc items];refine wpAny_bind (wpAny_newList ?_ hz);have hoL:(h1.push (seqObj "list" vs.toArray 0)).get? h1.objs.size=some (seqObj "list" vs.toArray 0):=Heap.get?_push_size _ rfl;have keep:∀ b o,h1.get? b=some o->(h1.push (seqObj "list" vs.toArray 0)).get? b=some o:=λb o e=>Heap.get?_push_of_some _ e;have ne:∀ b o,h1.get? b=some o->b≠h1.objs.size:=λb o e=>Nat.ne_of_lt (Heap.lt_size e);show wpAny _ _ _ _ _ { s with heap:=h1.push (seqObj "list" vs.toArray 0),toks:=t }
 refine wpAny_bind (wpAny_holding (wpAny_call_entry slot_list_sort ⟨_,hoL,rfl⟩ entry_list_sort (fy (s:={ s with heap:=h1.push (seqObj "list" vs.toArray 0),toks:=t }) (kd:=kd) (ρ:=ρ) (P:=P') hoL hz h0 (λh2 g kg=>hk h2 _ _ g t λb o e=>kg b o (ne b o (k1 b o e)) (keep b o (k1 b o e))) λxs g c a1 a2 a3 a4=>⟨_,rfl,?_⟩) (args_list_sort _)))
 exact wpAny_pure ⟨_,rfl,h xs h1 g c t a1 a2 k1 (λb o e=>a3 b o (ne b o e) (keep b o e)) a4⟩
end
end Vs
namespace Vc
open PySem L2
section
variable {X:Cx}
end
end Vc

namespace Vc
open PySem L2
variable [KF]
variable {G:GE}{k:Nat}{S:Stat}
end Vc

namespace Vc
open PySem L2
variable [KF]
variable {G:GE}{k:Nat}{S:Stat}
end Vc

namespace Vc
open PySem L2
variable [KF]
variable {G:GE}{k:Nat}{S:Stat}
end Vc

namespace Vc
open PySem L2
variable [KF]
variable {G:GE}{k:Nat}{S:Stat}
end Vc

namespace Vc
open PySem L2
variable [KF]
variable {G:GE}{k:Nat}{S:Stat}
end Vc

namespace Vc
open PySem L2
variable [KF]
variable {G:GE}{k:Nat}{S:Stat}
end Vc

namespace Vc
open PySem L2 PyProof.Rows
variable [KF]
variable {G:GE}{k:Nat}{S:Stat}
end Vc

namespace HT
open PySem PyProof.Rows
section
open PySem.SeqAt
open PySem.AutoSeq1 (wpAny_loadPart')
open PySem.MeetsSeq PySem.MeetsSeq2 PySem.MeetsSeq3
end
section
variable {prog:Program}{w:World}{A:Around}{E:Value->Shared->Prop}{s:Shared}
end
end HT

namespace Vs
open PySem PyProof.Rows PySem.W
section
variable {prog:Program}{w:World}{A:Around}{E:Value->Shared->Prop}{s:Shared}
end
end Vs
namespace Vc
open PySem L2
variable [KF]
end Vc

namespace Vc
open PySem L2
variable [KF]
variable {G:GE}{k:Nat}{S:Stat}
end Vc

namespace Vc
open PySem L2
section
variable {X:Cx}
end
variable [KF]
variable {G:GE}{k:Nat}{S:Stat}
end Vc

namespace Vc
open PySem L2
variable [KF]
variable {G:GE}{k:Nat}{S:Stat}
section
variable {elt target iter:Expr}{ifs:List Expr}{scope:Scope}{pos:Pos}{N':List Str}{caps:List (Option Nat)}{ti:dq}{g:jn}{tc:TB}{te:TD}{j m j2 n:Nat}
end
end Vc

namespace Vc
open PySem L2 PyProof.Rows
section
variable {prog:Program}{w:World}{K:Type}[DecidableEq K]{knd:HeapKind prog w K}{A:Around}{E:Value->Shared->Prop}{s:Shared}
end
variable [KF]
variable {G:GE}{k:Nat}{S:Stat}
end Vc

namespace Vc
open PySem L2
variable [KF]
section
variable {X:Cx}{elt iter:Expr}{ifs:List Expr}{scope:Scope}{pos:Pos}{N':List Str}{caps:List (Option Nat)}{wi:TI}{tc:TT}{te:TE}
end
variable {G:GE}{k:Nat}{S:Stat}
end Vc

namespace Vc
open PySem L2
section
variable {prog:Program}{w:World}{A:Around}{E:Value->Shared->Prop}{s:Shared}
end
end Vc

namespace HT
open PySem PyProof.Rows
section
open PySem.SeqAt
open PySem.AutoSeq1 (wpAny_loadPart')
open PySem.MeetsSeq PySem.MeetsSeq2 PySem.MeetsSeq3
end
section
variable {prog:Program}{w:World}{A:Around}{E:Value->Shared->Prop}{s:Shared}
end
end HT
namespace Vc
open PySem L2
variable [KF]
variable {G:GE}{k:Nat}{S:Stat}
end Vc

namespace Vc
open PySem L2
variable [KF]
variable {G:GE}{k:Nat}{S:Stat}
end Vc

namespace Vc
open PySem L2
section
variable {prog:Program}{w:World}{A:Around}{E:Value->Shared->Prop}{s:Shared}
open PySem.Spec in
theorem kB {nm:String}{a b:Addr}{oa ob:Obj}{es:Array DictEntry}{ep ep':Nat}{Q:Bool->Shared->Prop}(ha:(a==sysModules)=false)(hb:(b==sysModules)=false)
  (hoa:s.heap.get? a=some oa) (hda:oa.data=.dict es ep) (hob:s.heap.get? b=some ob) (hdb:ob.data=.dict #[] ep') (h:Q (decide (es.size=0)) s) :
  wpAny (model prog w) A (Builtin.Dict.samePairs nm a b) Q E s:=by
 unfold Builtin.Dict.samePairs Builtin.Dict.showsAll;rw[if_neg (show ¬ (a==sysModules)=true by rw[ha];exact Bool.false_ne_true),if_neg (show ¬ (b==sysModules)=true by rw[hb];exact Bool.false_ne_true)]
 refine wpAny_bind (wpAny_pure (wpAny_bind (wpAny_pure ?_)));refine wpAny_bind (wpAny_dictEntries hoa hda ?_);dsimp only;refine wpAny_bind (wpAny_dictEntries hob hdb ?_)
 by_cases hsz:es.size=0
 case neg =>
  rw[if_pos (by simpa using hsz)]
  rw[decide_eq_false hsz] at h;exact wpAny_bind (wpAny_rule (wpAny_pure h))
 case pos =>
  rw[if_neg (by simpa using hsz)]
  rw[decide_eq_true hsz] at h;refine wpAny_bind (wpAny_dictEpoch hoa hda ?_);rw[Std.Legacy.Range.forIn_eq_forIn_range'];simp only[Std.Legacy.Range.size,Nat.sub_zero,Nat.add_sub_cancel,Nat.div_one,hsz,List.range'_zero,List.forIn_nil];exact wpAny_bind (wpAny_pure (wpAny_pure h))
theorem Wd {K:Type}[DecidableEq K]{knd:PySem.KeyKind prog w K}{a b:Addr}{vs ws:List (K×Value)}{Q:Value->Shared->Prop}(hu:A.units < cLine)(ha:(a==sysModules)=false)(hb:(b==sysModules)=false)
  (da:s.heap.DictOf knd a vs) (db:s.heap.DictOf knd b ws) (hw:ws=[]) (h:Q (.bool (decide (vs=[]))) s) :
  wpAny (model prog w) A (compareOp .Eq (.ref a) (.ref b)) Q E s:=by
 subst hw;refine wpAny_richCompare_same_room (op:=.Eq) da.typeIs db.typeIs PySem.F.slot_dict_eq (wpAny_call_entry PySem.F.slot_dict_eq da.typeIs PySem.F.entry_dict_eq ?_ (PySem.F.args_dict_eq_2 _ _)) hu;show wpAny _ _ (Builtin.Dict.dictSlotArgs "__eq__" ⟨[.ref a,.ref b],[]⟩ >>= _) _ _ s;refine wpAny_bind ?_;unfold Builtin.Dict.dictSlotArgs;refine wpAny_bind (wpAny_notOrdered_dict da.typeIs ?_);show wpAny _ _ (pure (Value.ref a,Value.ref b)) _ _ s;refine wpAny_pure ?_;refine wpAny_bind (wpAny_isInstance (T:="dict") db.typeIs PySem.F.sub_dict_dict ?_);simp only[Bool.not_true,Bool.false_eq_true,if_false];refine wpAny_bind (wpAny_pure (wpAny_bind (wpAny_pure ?_)));obtain⟨oa,es,ep,hoa,_,hda,_,hp,_⟩:=da;obtain⟨ob,es',ep',hob,_,hdb,_,hp',_⟩:=db;have e':es'=#[]:=by
  have:=hp'.length;exact Array.eq_empty_of_size_eq_zero (by simpa using this)
 subst e';have el:es.size=vs.length:=by simpa using hp.length
 refine wpAny_bind (kB ha hb hoa hda hob hdb ?_);refine wpAny_pure ⟨_,rfl,?_,?_⟩
 ·exact λx=>nomatch x
 ·rw[show decide (es.size=0)=decide (vs=[]) from by rw[el];cases vs<;>simp]
  simpa using h
theorem We {K:Type}[DecidableEq K]{knd:PySem.KeyKind prog w K}{a b:Addr}{vs ws:List (K×Value)}{Q:Value->Shared->Prop}(hu:A.units < cLine)(ha:(a==sysModules)=false)(hb:(b==sysModules)=false)
  (da:s.heap.DictOf knd a vs) (db:s.heap.DictOf knd b ws) (hw:ws=[]) (h:Q (.bool (!decide (vs=[]))) s) :
  wpAny (model prog w) A (compareOp .NotEq (.ref a) (.ref b)) Q E s:=by
 subst hw;refine wpAny_richCompare_same_room (op:=.NotEq) da.typeIs db.typeIs PySem.F.slot_dict_ne (wpAny_call_entry PySem.F.slot_dict_ne da.typeIs PySem.F.entry_dict_ne ?_ (PySem.F.args_dict_ne_2 _ _)) hu;show wpAny _ _ (Builtin.Dict.dictSlotArgs "__ne__" ⟨[.ref a,.ref b],[]⟩ >>= _) _ _ s;refine wpAny_bind ?_;unfold Builtin.Dict.dictSlotArgs;refine wpAny_bind (wpAny_notOrdered_dict da.typeIs ?_);show wpAny _ _ (pure (Value.ref a,Value.ref b)) _ _ s;refine wpAny_pure ?_;refine wpAny_bind (wpAny_isInstance (T:="dict") db.typeIs PySem.F.sub_dict_dict ?_);simp only[Bool.not_true,Bool.false_eq_true,if_false];refine wpAny_bind (wpAny_pure (wpAny_bind (wpAny_pure ?_)));obtain⟨oa,es,ep,hoa,_,hda,_,hp,_⟩:=da;obtain⟨ob,es',ep',hob,_,hdb,_,hp',_⟩:=db;have e':es'=#[]:=by
  have:=hp'.length;exact Array.eq_empty_of_size_eq_zero (by simpa using this)
 subst e';have el:es.size=vs.length:=by simpa using hp.length
 refine wpAny_bind (kB ha hb hoa hda hob hdb ?_);refine wpAny_pure ⟨_,rfl,?_,?_⟩
 ·exact λx=>nomatch x
 ·rw[show decide (es.size=0)=decide (vs=[]) from by rw[el];cases vs<;>simp]
  simpa using h
end
variable [KF]
def cX (kvs:List (Int×D))(i:Int):Option D:=(kvs.find? λp=>decide (p.1=i)).map (·.2)
def sN (kvs:List (Int×D))(i:Int)(d:D):List (Int×D):=if (kvs.any λp=>decide (p.1=i))=true then kvs.map (λp=>if p.1=i then (p.1,d) else p) else kvs++[(i,d)]
def fA (kvs:List (Int×D))(i:Int):List (Int×D):=kvs.filter λp=>decide (p.1≠i)
theorem RepI.length {F:Hp}:∀ {ks:List (bx×V)} {kvs:List (Int×D)},RepI F ks kvs->ks.length=kvs.length
 | _,_,.nil=>rfl
 | _,_,.cons _ r=>by simp [RepI.length r]
theorem sO (i j:Int):((Sum.inl i:bx)=Sum.inl j)=(i=j):=by simp
theorem RepI.val {F:Hp}(j:Int):∀ {ks:List (bx×V)} {kvs:List (Int×D)},RepI F ks kvs->(eB ks (.inl j)=none/\cX kvs j=none)\/∃ v d,eB ks (.inl j)=some v/\cX kvs j=some d/\Rep F v d
 | _,_,.nil=>.inl ⟨rfl,rfl⟩
 | _,_,.cons (i:=i) (v:=v) (d:=d) (ks:=ks) (kvs:=kvs) h r=>by
  by_cases e:i=j
  ·subst e
   exact .inr ⟨v,d,fP rfl,by unfold cX;rw[List.find?_cons_of_pos (by simp)];rfl,h⟩
  ·have e1:eB ((Sum.inl i,v)::ks) (Sum.inl j)=eB ks (Sum.inl j):=fR (by show ¬ (Sum.inl i:bx)=Sum.inl j;rw[sO];exact e)
   have e2:cX ((i,d)::kvs) j=cX kvs j:=by unfold cX;rw[List.find?_cons_of_neg (by simpa using e)]
   rw[e1,e2];exact RepI.val j r
theorem RepI.append {F:Hp}:∀ {ks js:List (bx×V)} {kvs lvs:List (Int×D)},RepI F ks kvs->RepI F js lvs->RepI F (ks++js) (kvs++lvs)
 | _,_,_,_,.nil,s=>s
 | _,_,_,_,.cons h r,s=>.cons h (RepI.append r s)
theorem RepI.any {F:Hp}(j:Int):∀ {ks:List (bx×V)} {kvs:List (Int×D)},RepI F ks kvs->(ks.any λkv=>decide (kv.1=Sum.inl j))=(kvs.any λp=>decide (p.1=j))
 | _,_,.nil=>rfl
 | _,_,.cons (i:=i) _ r=>by
  rw[List.any_cons,List.any_cons,RepI.any j r];congr 1;simp
theorem RepI.repl {F:Hp}{v:V}{d:D}(j:Int)(hv:Rep F v d):∀ {ks:List (bx×V)} {kvs:List (Int×D)},RepI F ks kvs->RepI F (ks.map λkv=>if kv.1=Sum.inl j then (kv.1,v) else kv) (kvs.map λp=>if p.1=j then (p.1,d) else p)
 | _,_,.nil=>.nil
 | _,_,.cons (i:=i) h r=>by
  rw[List.map_cons,List.map_cons]
  by_cases e:i=j
  ·rw[if_pos (show (Sum.inl i:bx)=Sum.inl j by rw[e]),if_pos (show i=j from e)]
   exact .cons hv (RepI.repl j hv r)
  ·rw[if_neg (show ¬ (Sum.inl i:bx)=Sum.inl j by rw[sO];exact e),if_neg (show ¬ i=j from e)]
   exact .cons h (RepI.repl j hv r)
theorem RepI.put {F:Hp}{ks:List (bx×V)}{kvs:List (Int×D)}{v:V}{d:D}(j:Int)(r:RepI F ks kvs)(hv:Rep F v d):RepI F (im ks (.inl j) v) (sN kvs j d):=by
 unfold im sN;rw[r.any j]
 split
 ·exact r.repl j hv
 ·exact r.append (.cons hv .nil)
theorem RepI.drop {F:Hp}(j:Int):∀ {ks:List (bx×V)} {kvs:List (Int×D)},RepI F ks kvs->RepI F (iU ks (.inl j)) (fA kvs j)
 | _,_,.nil=>.nil
 | _,_,.cons (i:=i) h r=>by
  unfold iU fA;rw[List.filter_cons,List.filter_cons];have ih:=RepI.drop j r;unfold iU fA at ih
  by_cases e:i=j
  ·subst e
   simpa using ih
  ·simp only[ne_eq,sO,e,not_false_eq_true,decide_true,if_true]
   exact .cons h (by simpa using ih)
def og (a:Addr)(kvs:List (Int×D)):O where
 fp:=λb=>[b]
 rep:=λF H b=>b=a/\∃ ks,H b=some (.dK ks)/\RepI F ks kvs
 self:=λa=>List.mem_singleton.mpr rfl
 solid:=λ{F H a b φ} ⟨_,ks,h,_⟩ hb z=>by
  rw[List.mem_singleton.mp hb,h] at z;cases z
 nt:=λ{F H a b vs} ⟨_,ks,h,_⟩ hb z=>by
  rw[List.mem_singleton.mp hb,h] at z;cases z
 mono:=λ{F F' H H' a} s e ⟨e0,ks,h,r⟩=>⟨e0,ks,by rw[e a (List.mem_singleton.mpr rfl)];exact h,r.mono s⟩
 view:=some (.dci kvs)
 sees:=λ{F H a d} ⟨_,ks,h,r⟩ e=>by cases e;exact⟨a,ks,rfl,h,r⟩
 lend:=λ{F H a d} s ⟨_,ks,h,r⟩ e=>by
  cases e;obtain⟨F',s1,s2,e1,e2⟩:=fE s h;refine⟨F',s1,s2,.dci e1 (r.mono s1),λc u z=>?_⟩;rcases e2 c u z with z|⟨rfl,rfl⟩
  ·exact .inl z
  ·exact .inr ⟨rfl,List.mem_singleton.mpr rfl⟩
 loc:=some a
 locd:=λ{F H a b} ⟨e,_⟩ q=>by cases q;exact e
variable {G:GE}{k:Nat}{S:Stat}
def dA (i:Nat):TV:=λσ Q=>match σ[i]? with
 | some (some (.sh d))=>Q (.val d) σ
 | some (some _)=>Q (.var i) σ
 | _=>False
theorem dM (i:Nat){x:Str}{pos:Pos}(hN:S.N[i]?=some x:=by rfl)(hv:S.sc.lookup x=some .local\/S.sc.lookup x=some .cell\/S.sc.lookup x=some .free:=by first|exact Or.inl rfl|exact Or.inr (Or.inl rfl)|exact Or.inr (Or.inr rfl))
  (hd:(x==("__debug__":Str))=false:=by decide) (hcd:(x==("__classdict__":Str))=false:=by decide):EO G k S (.Name x pos) (dA i):=.mk λX Y ok =>
 aE (fB (X:=X) (i:=i) (by rw[ok.N];exact hN) (by unfold Dq;rw[ok.sc];exact hv) hd hcd) λσ H Q q=>by
  obtain⟨F,σd,Qd,R,q,K⟩:=q;unfold dA at q
  split at q
  ·rename_i d e
   obtain⟨v,e2,r2⟩:=R.sh i d e;exact⟨v,e2,K v H F (.val d) σd (Same.refl _) R r2 q⟩
  ·rename_i b hb e
   cases b with
   | sh d=>exact absurd rfl (hb d)
   | own xs =>
    obtain⟨a,vs,e2,_⟩:=R.own i xs e;exact⟨_,e2,K _ H F (.var i) σd (Same.refl _) R e2 q⟩
   | obj o =>
    obtain⟨a,e2,_⟩:=R.ob.obj i o e;exact⟨_,e2,K _ H F (.var i) σd (Same.refl _) R e2 q⟩
  ·exact q.elim
def EL:TX:=λσ Q=>∀ p,Q (.obj (og p [])) σ
theorem tZ {pos:Pos}:EX G k S (.Dict [] [] pos) EL:=.mk λX Y ok=>aE fS λσ H Q q=>by
 obtain⟨F,σd,Qd,R,q,K⟩:=q;intro p hp;refine K _ _ F (.obj (og p [])) σd (Same.refl _) (R.alloc0 hp) ⟨p,rfl,⟨rfl,[],ao,.nil⟩,λb hb=>?_⟩ (q p);rw[List.mem_singleton.mp hb];exact⟨aM R.fr hp,(by rw[ao];exact λz=>nomatch z),(R.fresh0 hp).1,R.noFresh hp⟩
def oh (ta tb:TV):TV:=λσ Q=>ta σ λx σ1=>tb σ1 λy σ2=>match drf σ2 x,drf σ2 y with
 | some (.dci kvs),some (.int i)=>∃ d,cX kvs i=some d/\Q (.val d) σ2
 | _,_=>False
theorem kE {a b:Expr}{ta tb:TV}{pos:Pos}(ha:EO G k S a ta)(hb:EO G k S b tb)(hs:Hm b:=by intro _ _;rfl):EO G k S (.Subscript a b pos) (oh ta tb):=.mk λX Y ok =>
 aE (DL (by have:=ok.units;omega) (ha X Y ok) (hb X Y ok) hs) λσ H Q q=>by
  obtain⟨F,σd,Qd,R,q,K⟩:=q;refine⟨F,σd,_,R,q,λv1 H1 F1 x σ1 s1 R1 r1 q1=>?_⟩;refine⟨F1,σ1,_,R1,q1,λv2 H2 F2 y σ2 s2 R2 r2 q2=>?_⟩
  split at q2
  ·rename_i kvs i ea eb
   obtain⟨a,ks,rfl,h,r⟩:=R2.drf (r1.mono s2) ea;obtain rfl:=(R2.drf r2 eb).int;obtain⟨d,hd,q2⟩:=q2;rcases r.val i with ⟨_,e2⟩|⟨v,d',e1,e2,rd⟩
   ·rw[e2] at hd;cases hd
   ·rw[e2] at hd;cases hd
    refine⟨a,v,rfl,?_,K v H2 F2 (.val d) σ2 (s1.trans s2) R2 rd q2⟩;rw[<- e1];exact DGet.k (k:=.inl i) h
  ·exact q2.elim
def Vf:D->D->(Bool->Prop)->Prop
 | .int i,.dci kvs,Q=>Q (cX kvs i).isSome
 | _,_,_=>False
def EM (x y:D)(Q:Bool->Prop):Prop:=Vf x y λb=>Q !b
theorem EN {F H:Hp}{v u:V}{i:Int}{kvs:List (Int×D)}(rv:RepH F H v (.int i))(ru:RepH F H u (.dci kvs)):∃ a o,u=.ref a/\DGet H a v o/\o.isSome=(cX kvs i).isSome:=by
 obtain rfl:=rv.int;obtain⟨a,ks,rfl,h,r⟩:=ru;refine⟨a,_,rfl,.k (k:=.inl i) h,?_⟩;rcases r.val i with ⟨e1,e2⟩|⟨v,d,e1,e2,_⟩
 ·rw[e1,e2];rfl
 ·rw[e1,e2];rfl
theorem Ic:lh G k S .NotIn EM:=⟨xB true,λX Y ok=>vy (by have:=ok.units;omega),λY F H σd σ v u x y Qd Q R rx ry q K=>by
 unfold EM Vf at q
 split at q
 ·obtain⟨a,o,rfl,g,e⟩:=EN rx ry
  exact⟨a,o,rfl,g,K _ (by rw[if_pos rfl,e];exact q)⟩
 ·exact q.elim⟩
def vA:List D->(EV->Prop)->Prop
 | [.dci kvs],Q=>Q (.val (.int kvs.length))
 | _,_=>False
theorem sP:vO G k S (.builtin "len") vA:=⟨λ_ xs H Q=>∃ a ks,xs=[.ref a]/\H a=some (.dK ks)/\Q (.int ks.length) H,λX Y ok=>by
  intro pins s σ H xs us Q I r h;obtain⟨a,ks,rfl,e,q⟩:=h;obtain⟨u,rfl,ru⟩:=dt r;cases ru;exact Qi I (.inl e) λt s' I'=>⟨.int _,H,I',⟨_,rfl⟩,q⟩,λY F H σd σ vs ds Qd Q R r q g=>by
 unfold vA at q
 split at q
 ·obtain⟨v,rfl,rv⟩:=r.one
  obtain⟨a,ks,rfl,h,rr⟩:=rv;refine⟨a,ks,rfl,h,?_⟩;rw[rr.length];exact g.val R (.int _) q
 ·exact q.elim⟩
def Id (neg:Bool):R2:=λx y H Q=>∃ a b ks,x=.ref a/\y=.ref b/\H a=some (.dK ks)/\H b=some (.dK [])/\Q (.bl (if neg then !decide (ks=[]) else decide (ks=[]))) H
theorem xD {vs:List (bx×Value)}(r:KV ([]:List (bx×V)) vs):vs=[]:=by
 have:=r.length;cases vs with
 | nil=>rfl
 | cons _ _=>simp at this
theorem xE {ks:List (bx×V)}{vs:List (bx×Value)}(r:KV ks vs):decide (vs=[])=decide (ks=[]):=by
 have:=r.length;cases vs<;>cases ks<;>simp_all
theorem Ie {X:Cx}(hu:X.A.units < cLine):OpR X (compareOp .Eq) (Id false):=by
 intro pins s σ H x y v u Q I rx ry h;obtain⟨a,b,ks,rfl,rfl,ea,eb,q⟩:=h;cases rx;cases ry;obtain⟨_,ha,xs,ra,da⟩:=jP I.hok ea;obtain⟨_,hb,ys,rb,db⟩:=jP I.hok eb;refine Wd hu ha hb da db (xD rb) ?_;rw[xE ra];exact⟨.bl _,H,I,rfl,q⟩
theorem Ig {X:Cx}(hu:X.A.units < cLine):OpR X (compareOp .NotEq) (Id true):=by
 intro pins s σ H x y v u Q I rx ry h;obtain⟨a,b,ks,rfl,rfl,ea,eb,q⟩:=h;cases rx;cases ry;obtain⟨_,ha,xs,ra,da⟩:=jP I.hok ea;obtain⟨_,hb,ys,rb,db⟩:=jP I.hok eb;refine We hu ha hb da db (xD rb) ?_;rw[xE ra];exact⟨.bl _,H,I,rfl,q⟩
def sQ (neg:Bool)(t:TV):TB:=λσ Q=>t σ λx σ1=>match drf σ1 x with
 | some (.dci kvs)=>Q (if neg then !decide (kvs=[]) else decide (kvs=[])) σ1
 | _=>False
theorem xF {F:Hp}{ks:List (bx×V)}{kvs:List (Int×D)}(r:RepI F ks kvs):decide (ks=[])=decide (kvs=[]):=by
 cases r<;>simp
theorem mn {Y:Dyn}{neg:Bool}{ta:TV}{σ:St}{H:Hp}{Q:VK}{F:Hp}{σd:Sd}{Qd:Bool->Sd->Prop}(R:RS Y F σd σ H)(q:sQ neg ta σd Qd)(K:∀ b H' F' σd',Same F F'->RS Y F' σd' σ H'->Qd b σd'->Q (.bl b) H'):GV (Id neg) (lO Y ta) wv σ H Q:=by
 refine⟨F,σd,_,R,q,λv1 H1 F1 x σ1 s1 R1 r1 q1=>?_⟩;intro p hp
 split at q1
 ·rename_i kvs ea
  obtain⟨a,ks,rfl,h,r⟩:=R1.drf r1 ea;refine⟨a,p,ks,rfl,rfl,by rw[ah (aG h hp)];exact h,ao,?_⟩
  rw[xF r];exact K _ _ F1 σ1 s1 (R1.alloc0 hp) q1
 ·exact q1.elim
theorem Ih {a:Expr}{ta:TV}{p pos:Pos}(ha:EO G k S a ta)(hm:behindInMarks .Eq (.Dict [] [] p)=false:=by first|exact mX _|with_unfolding_all rfl):EB G k S (.Compare a [.Eq] [.Dict [] [] p] pos) (sQ false ta):=.mk λX Y ok=>by
 refine jQ (mY (Ie (by have:=ok.units;omega)) (ha X Y ok) fS hm) λσ H Q q=>?_
 obtain⟨F,σd,Qd,R,q,K⟩:=q;exact mn R q λb H' F' σd' s R' qq=>⟨b,rfl,K b H' F' σd' s R' qq⟩
theorem Ii {a:Expr}{ta:TV}{p pos:Pos}(ha:EO G k S a ta)(hm:behindInMarks .NotEq (.Dict [] [] p)=false:=by first|exact mX _|with_unfolding_all rfl):EB G k S (.Compare a [.NotEq] [.Dict [] [] p] pos) (sQ true ta):=.mk λX Y ok=>by
 refine jQ (mY (Ig (by have:=ok.units;omega)) (ha X Y ok) fS hm) λσ H Q q=>?_
 obtain⟨F,σd,Qd,R,q,K⟩:=q;exact mn R q λb H' F' σd' s R' qq=>⟨b,rfl,K b H' F' σd' s R' qq⟩
def xG (i:Nat)(tk:TV)(tv:TD):br:=λDe σ=>tv σ λd σ1=>(∃ a kvs,σ1[i]?=some (some (.obj (og a kvs))))/\tk σ1 λy σ2=>match drf σ2 y with
 | some (.int j)=>∃ a kvs,σ2[i]?=some (some (.obj (og a kvs)))/\kvs.length < sizeLine/\De.nx (σ2.set i (some (.obj (og a (sN kvs j d)))))
 | _=>False
theorem ua (i:Nat){x:Str}{ke ve:Expr}{tk:TV}{tv:TD}{np pos' pos:Pos}(hv:ED G k S ve tv)(hk:EO G k S ke tk)(ho:EO G k S (.Name x np) (EH i))(hs:∀ line env,swapsWith ve (some (.Subscript (.Name x np) ke pos')) line env=pure false:=by intro _ _;rfl) :
  ES G k S (.Assign [.Subscript (.Name x np) ke pos'] ve pos) (xG i tk tv):=.mk λX Y ok =>
 bA (tH (by have:=ok.units;omega) (ho X Y ok) (hk X Y ok) (hv X Y ok) (hs _ _)) λDn σ H q=>by
  obtain⟨F,σd,De,R,q,K⟩:=q;refine⟨F,σd,_,R,q,λv H1 F1 d σ1 s1 R1 r1 q1=>?_⟩;obtain⟨⟨a0,kvs0,e0⟩,q1⟩:=q1;refine⟨F1,σ1,λx σ1'=>x=.var i/\σ1'=σ1,R1,⟨⟨_,e0⟩,rfl,rfl⟩,λv2 H2 F2 y σ2 s2 R2 r2 q2=>?_⟩;obtain⟨rfl,rfl⟩:=q2;have r2:σ[i]?=some (some v2):=r2;refine⟨F2,σ2,_,R2,q1,λv3 H3 F3 kd σ3 s3 R3 r3 q3=>?_⟩
  split at q3
  ·rename_i j ej
   obtain rfl:=(R3.drf r3 ej).int;obtain⟨a,kvs,e,hl,q3⟩:=q3;obtain⟨b,w1,⟨rfl,us,w2,w3⟩,w4⟩:=R3.ob.obj i _ e;rw[r2] at w1;cases w1;refine⟨b,_,rfl,.k (k:=.inl j) w2 (by rw[w3.length];exact hl),K.nx σ _ F3 _ ((s1.trans s2).trans s3) (R3.objWrite (o':=og b (sN kvs j d)) e r2 (List.mem_singleton.mpr rfl) (λ_ z=>z) ⟨rfl,_,ao,w3.put j (r1.mono (s2.trans s3))⟩) q3⟩
  ·exact q3.elim
def Ij (i:Nat)(tk:TV):br:=λDe σ=>(∃ a kvs,σ[i]?=some (some (.obj (og a kvs))))/\tk σ λy σ2=>match drf σ2 y with
 | some (.int j)=>∃ a kvs,σ2[i]?=some (some (.obj (og a kvs)))/\(cX kvs j).isSome=true/\De.nx (σ2.set i (some (.obj (og a (fA kvs j)))))
 | _=>False
theorem EQ (i:Nat){x:Str}{ke:Expr}{tk:TV}{np ap cp pos:Pos}(hk:EO G k S ke tk)(ho:EO G k S (.Name x np) (EH i))(m:∀ X:Cx,M1 X (.Name x np) "pop" ap ke cp:=by intro X;exact⟨rfl,rfl,rfl,rfl⟩) :
  ES G k S (.Expr (.Call (.Attribute (.Name x np) "pop" ap) [ke] [] cp) pos) (Ij i tk):=.mk λX Y ok =>
 bA (mV (pP (ho X Y ok) (hk X Y ok) (m X)) rfl) λDn σ H q=>by
  obtain⟨F,σd,De,R,⟨⟨a0,kvs0,e0⟩,q⟩,K⟩:=q;refine⟨F,σd,λx σ1'=>x=.var i/\σ1'=σd,R,⟨⟨_,e0⟩,rfl,rfl⟩,λv2 H2 F2 y σ2 s2 R2 r2 q2=>?_⟩;obtain⟨rfl,rfl⟩:=q2;have r2:σ[i]?=some (some v2):=r2;obtain⟨b0,w1,⟨rfl,us0,w2,w3⟩,w4⟩:=R2.ob.obj i _ e0;rw[r2] at w1;cases w1;refine⟨b0,rfl,.inl ⟨_,.inl w2⟩,F2,σ2,_,R2,q,λv3 H3 F3 kd σ3 s3 R3 r3 q3=>?_⟩
  split at q3
  ·rename_i j ej
   obtain rfl:=(R3.drf r3 ej).int;obtain⟨a,kvs,e,hl,q3⟩:=q3;obtain⟨b,w1,⟨rfl,us,y2,y3⟩,y4⟩:=R3.ob.obj i _ e;rw[r2] at w1;cases w1;rcases y3.val j with ⟨_,e2⟩|⟨v,d',e1,e2,rd⟩
   ·rw[e2] at hl;cases hl
   ·exact⟨us,.inl j,v,y2,rfl,e1,K.nx σ _ F3 _ (s2.trans s3) (R3.objWrite (o':=og b0 (fA kvs j)) e r2 (List.mem_singleton.mpr rfl) (λ_ z=>z) ⟨rfl,_,ao,y3.drop j⟩) q3⟩
  ·exact q3.elim
end Vc

namespace Vs
open PySem PySem.Calls PyProof.Rows PyProof.V PySem.Spec
def iOf:Value->Int
 | .int i _=>i
 | _=>0
section
variable {prog:Program}{w:World}{A:Around}{E:Value->Shared->Prop}{s:Shared}
theorem kind_int {vs:List Value}{ns:List Int}{Q:SortKind->Shared->Prop}(hl:2<=vs.length)(h:IntsAre vs ns)(q:Q oneType' s):wpAny (model prog w) A (keyKind' vs.toArray) Q E s:=by
 match vs,hl,h with
 | v₁::v₂::r,_,h =>
  rw[keyKind_ints h];exact wpAny_pure q
theorem ltH_int {l:List Keyed}(h:∀ x∈l,∃ i t,x.1=Value.int i t):et (model prog w) A E s (rk (λx=>[iOf x.1]) l) oneType' (λx=>x∈l):=λx y st Q hx hy hk q=>by
 rw[rk_lt hx] at q;rw[lt'_eq];refine wpS_bind (wpS_get ?_);rw[hk];obtain⟨i,t,e1⟩:=h x hx;obtain⟨j,u,e2⟩:=h y hy;rw[e1,e2,show HT.lexLt [iOf (.int i t)] [iOf (.int j u)]=decide (i < j) from by
  show (if i=j then HT.lexLt [] [] else decide (i < j))=_
  by_cases e:i=j
  ·rw[if_pos e,decide_eq_false (by omega)];rfl
  ·rw[if_neg e]] at q
 refine wpS_bind (wpS_lift (wpAny_attempt ?_));rw[e1,e2,keyLt'_oneType];exact oneLt_int ⟨rfl,wpS_pure q⟩
end
end Vs
namespace Vc
open PySem L2
variable [KF]
def xH:List V->Hp->VK->Prop:=λxs H Q=>∃ a ks,∃ ns:List Int,xs=[.ref a]/\H a=some (.dK ks)/\ks.map (·.1)=ns.map Sum.inl /\
 ∀ ms:List Int,ms.Perm ns->ms.Pairwise (λx y=>x<=y)->∀ l,H l=none->Q (.ref l) (bj H l (.lst (ms.map V.int)))
theorem kF {prog:Program}{w:World}:∀ {es:List DictEntry} {vs:List (bx×Value)} {ns:List Int},PySem.Pairs (bu prog w) es vs->vs.map (·.1)=ns.map Sum.inl->PyProof.Rows.IntsAre (es.map (·.key)) ns
 | _,_,[],.nil,_=>.nil
 | _,_,_::_,.nil,e=>by cases e
 | _,_,[],.cons _ _ _,e=>by cases e
 | _,_,n::ns,.cons (e:=e) (kv:=kv) h1 h2 r,q=>by
  rw[List.map_cons,List.map_cons] at q;obtain⟨q1,q2⟩:=List.cons.inj q;rw[q1] at h1;rcases bg (show jI (Sum.inl n) e.key=true from h1) with ⟨i,t,a1,a2⟩|⟨x,t,a1,_⟩
  ·cases a1
   rw[List.map_cons,a2];exact .cons _ t (kF r q2)
  ·cases a1
theorem kG:∀ {vs:List Value} {ns:List Int},PyProof.Rows.IntsAre vs ns->vs.map Vs.iOf=ns
 | _,_,.nil=>rfl
 | _,_,.cons n t h=>by rw[List.map_cons,kG h];rfl
theorem jh:∀ {vs:List Value} {ns:List Int},PyProof.Rows.IntsAre vs ns->∀ v∈vs,∃ i t,v=Value.int i t
 | _,_,.nil,v,hv=>by cases hv
 | _,_,.cons n t h,v,hv=>by
  rcases List.mem_cons.mp hv with rfl|hv
  ·exact⟨n,t,rfl⟩
  ·exact jh h v hv
theorem du:∀ {vs:List Value},(∀ v∈vs,∃ i t,v=Value.int i t)->Vals ((vs.map Vs.iOf).map V.int) vs
 | [],_=>.nil
 | v::vs,h=>by
  obtain⟨i,t,rfl⟩:=h v (.head _);exact .cons ⟨t,rfl⟩ (du λx hx=>h x (.tail _ hx))
theorem sR {X:Cx}(hc:X.calm=true):CallR X (.builtin "sorted") xH:=by
 intro pins s σ H xs us0 Q I r h;obtain⟨a,ks,ns,rfl,ha,ek,q⟩:=h;obtain⟨u,rfl,rx⟩:=dt r;cases rx;obtain⟨hz,hd,vs,rel,o,es,ep,e1,e2,e3,e4,e5,e6⟩:=jP I.hok ha;have hlv:ks.length=vs.length:=rel.length;have hle:es.toList.length=vs.length:=e5.length;have hkv:vs.map (·.1)=ns.map Sum.inl:=by
  rw[<- ek];clear e5 e6 hlv hle ha ek hz q
  induction rel with
  | nil=>rfl
  | cons hx _ ih=>rw[List.map_cons,List.map_cons,ih,hx.1]
 have hln:ns.length=vs.length:=by have:=congrArg List.length hkv;simpa using this.symm
 obtain⟨its,eits⟩:∃ its:List Value,its=es.toList.map (·.key):=⟨_,rfl⟩
 have ii:PyProof.Rows.IntsAre its ns:=by rw[eits];exact kF e5 hkv
 have lits:its.length=vs.length:=by rw[eits,List.length_map];exact hle
 have hall:=jh ii;have mem:∀ x:PyProof.Rows.Keyed,x∈(PyProof.Rows.pairsOf its).toList->x.1∈its/\x.1=x.2:=λx hx=>by
  rw[PyProof.Rows.pairsOf_toList,dz] at hx;obtain⟨v,hv,rfl⟩:=List.mem_map.mp hx;exact⟨hv,rfl⟩
 refine Vs.sorted_src (vs:=its) (kd:=PyProof.Rows.oneType') (ρ:=Vs.rk (λx=>[Vs.iOf x.1]) (PyProof.Rows.pairsOf its).toList) (P':=λx=>x∈(PyProof.Rows.pairsOf its).toList) (Ib (en:=es) (c:=ep) hd) (I.ok.hd hc) ⟨o,e1,e2,e3⟩ (by rw[<- Array.length_toList];omega) (λacc it=>?_) (by omega) (λ_ h=>h) (λh2 A' E' g t kg=>⟨λQ hQ=>?_,?_⟩) λys h1 g c' t hp hs k1 kg hg=>?_
 ·refine List.ext_getElem? λj=>?_
  rw[Array.getElem?_toList];cases ej:acc[j]? with
  | none =>
   have:acc.size<=j:=Array.getElem?_eq_none_iff.mp ej;rw[it.1] at this;rw[List.getElem?_eq_none (by rw[lits,<- hle,Array.length_toList];exact this)]
  | some v =>
   obtain⟨e,he,rfl⟩:=it.2 j v ej;rw[eits,List.getElem?_map,Array.getElem?_toList,he];rfl
 ·exact Vs.kind_int (s:={ s with heap:=g,toks:=t }) h2 ii hQ
 ·exact Vs.ltH_int (s:={ s with heap:=g,toks:=t }) λx hx=>hall x.1 (mem x hx).1
 ·have hpl:ys.toList.Perm (PyProof.Rows.pairsOf its).toList:=Array.perm_iff_toList_perm.mp hp
  have hm2:∀ x∈ys.toList,x.1∈its/\x.1=x.2:=λx hx=>mem x (hpl.mem_iff.mp hx);obtain⟨ms,ems⟩:∃ ms,ms=(ys.map (·.2)).toList.map Vs.iOf:=⟨_,rfl⟩
  have perm:ms.Perm ns:=by
   rw[ems,Array.toList_map,List.map_map,<- kG ii];refine (hpl.map (Vs.iOf ∘ λx=>x.2)).trans ?_;rw[PyProof.Rows.pairsOf_toList,dz,List.map_map];exact List.Perm.refl _
  have I1:=I.kept (h':=h1) (t':=s.toks) k1;have fr:H h1.objs.size=none:=I1.fresh;refine⟨.ref h1.objs.size,_,I1.laid (h':=g) (t':=t) (o:=.lst (ms.map V.int)) kg (Nat.le_refl _) ⟨?_,(ys.map (·.2)).toList,c',?_,hg⟩,rfl,q ms perm ?_ _ fr⟩
  ·rw[List.length_map,perm.length_eq];omega
  ·rw[ems]
   refine du λv hv=>?_;rw[Array.toList_map] at hv;obtain⟨x,hx,rfl⟩:=List.mem_map.mp hv;have:=hm2 x hx;exact hall _ (this.2 ▸ this.1)
  ·rw[ems,Array.toList_map,List.map_map,List.pairwise_map]
   refine List.pairwise_iff_getElem.mpr λi j hi hj hij=>?_;have hi':i < ys.size:=by simpa using hi
   have hj':j < ys.size:=by simpa using hj
   have hsz:ys.size=its.length:=by have:=hp.size_eq;rw[PyProof.Rows.pairsOf_size] at this;exact this
   have h1:=hs i j (Nat.zero_le _) (Nat.le_of_lt hij) (by omega)
   rw[Vs.R_at (Array.getElem?_eq_getElem hi'),Vs.R_at (Array.getElem?_eq_getElem hj')] at h1;show Vs.iOf ys[i].2<=Vs.iOf ys[j].2;have m1:=hm2 ys[i] (by simp)
   have m2:=hm2 ys[j] (by simp)
   have:=Vs.rk_lt (d:=λx=>[Vs.iOf x.1]) (l:=(PyProof.Rows.pairsOf its).toList) (x:=ys[j]) (y:=ys[i]) (hpl.mem_iff.mp (by simp))
   rw[decide_eq_false (by omega)] at this
   rw[<- m1.2,<- m2.2];have e:(if Vs.iOf ys[j].1=Vs.iOf ys[i].1 then HT.lexLt [] [] else decide (Vs.iOf ys[j].1 < Vs.iOf ys[i].1))=false:=this.symm
   by_cases z:Vs.iOf ys[j].1=Vs.iOf ys[i].1
   ·omega
   ·rw[if_neg z] at e
    have:=of_decide_eq_false e;omega
variable {G:GE}{k:Nat}{S:Stat}
def qP (ns:List Int):List Int:=ns.mergeSort λx y=>decide (x<=y)
theorem sS (ns:List Int):(qP ns).Perm ns:=List.mergeSort_perm _ _
theorem oi (ns:List Int):(qP ns).Pairwise λx y=>x<=y:=by
 have:=List.pairwise_mergeSort (le:=λx y:Int=>decide (x<=y)) (λa b c h1 h2=>by simp only[decide_eq_true_eq] at *;omega) (λa b=>by simp only[Bool.or_eq_true,decide_eq_true_eq];omega) ns
 exact this.imp λh=>of_decide_eq_true h
theorem qQ {ns ms:List Int}(h:ms.Perm ns)(hs:ms.Pairwise λx y=>x<=y):ms=qP ns :=
 (h.trans (sS ns).symm).eq_of_pairwise (le:=λx y:Int=>x<=y) (λa b _ _ h1 h2=>Int.le_antisymm h1 h2) hs (oi ns)
def kH:List D->(EV->Prop)->Prop
 | [.dci kvs],Q=>Q (.own ((qP (kvs.map (·.1))).map D.int))
 | _,_=>False
theorem mo {F:Hp}:∀ {ks:List (bx×V)} {kvs:List (Int×D)},RepI F ks kvs->ks.map (·.1)=(kvs.map (·.1)).map Sum.inl
 | _,_,.nil=>rfl
 | _,_,.cons _ r=>by rw[List.map_cons,List.map_cons,List.map_cons,mo r]
theorem mq {F:Hp}:∀ ms:List Int,RepL F (ms.map V.int) (ms.map D.int)
 | []=>.nil
 | i::ms=>.cons (.int i) (mq ms)
theorem jB (hh:S.hot=false:=by rfl):vO G k S (.builtin "sorted") kH:=⟨λ_=>xH,λX Y ok=>sR (ok.calm hh),λY F H σd σ vs ds Qd Q R r q g=>by
 unfold kH at q
 split at q
 ·rename_i kvs
  obtain⟨v,rfl,rv⟩:=r.one;obtain⟨a,ks,rfl,h,rr⟩:=rv;refine⟨a,ks,kvs.map (·.1),rfl,h,mo rr,λms hp hs l hl=>?_⟩
  rw[<- qQ hp hs] at q;exact g.own R (mq ms) q l hl
 ·exact q.elim⟩
end Vc

namespace Vc
open PySem L2
variable [KF]
structure ArgsR (F H:Hp)(vs:List V)(bs:List B):Prop where
 len:vs.length=bs.length
 sh:∀ (i:Nat) (d:D),bs[i]?=some (.sh d)->∃ v,vs[i]?=some v/\Rep F v d
 own:∀ (i:Nat) (xs:List D),bs[i]?=some (.own xs)->∃ a us,vs[i]?=some (.ref a)/\H a=some (.lst us)/\RepL F us xs/\F a=none
 obj:∀ (i:Nat) (o:O),bs[i]?=some (.obj o)->∃ a,vs[i]?=some (.ref a)/\o.rep F H a/\∀ c∈o.fp a,F c=none/\H c≠none
 dis:∀ (i j:Nat) (xs ys:List D) (a:Addr),bs[i]?=some (.own xs)->bs[j]?=some (.own ys)->vs[i]?=some (.ref a)->vs[j]?=some (.ref a)->i=j
 dso:∀ (i j:Nat) (o p:O) (a b:Addr),bs[i]?=some (.obj o)->bs[j]?=some (.obj p)->vs[i]?=some (.ref a)->vs[j]?=some (.ref b)->i≠j->∀ c∈o.fp a,c∉p.fp b
 dsx:∀ (i j:Nat) (xs:List D) (o:O) (a b:Addr),bs[j]?=some (.own xs)->vs[j]?=some (.ref b)->bs[i]?=some (.obj o)->vs[i]?=some (.ref a)->b∉o.fp a
def fu (vs:List V)(bs:List B)(c:Addr):Prop:=(∃ (i:Nat) (xs:List D),bs[i]?=some (.own xs)/\vs[i]?=some (.ref c))\/∃ (i:Nat) (o:O) (a:Addr),bs[i]?=some (.obj o)/\vs[i]?=some (.ref a)/\c∈o.fp a
inductive Like:List B->List B->Prop where
 | nil:Like [] []
 | sh (d:D) {bs cs:List B}:Like bs cs->Like (.sh d::bs) (.sh d::cs)
 | own (xs ys:List D) {bs cs:List B}:Like bs cs->Like (.own xs::bs) (.own ys::cs)
 | obj {o p:O} {bs cs:List B}:p.fp=o.fp->p.loc=o.loc->o.loc≠none->Like bs cs->Like (.obj o::bs) (.obj p::cs)
theorem Like.len {bs cs:List B}(h:Like bs cs):bs.length=cs.length:=by
 induction h<;>simp_all
theorem Like.shr {bs cs:List B}(h:Like bs cs):∀ {i:Nat} {d:D},cs[i]?=some (.sh d)->bs[i]?=some (.sh d):=by
 induction h with
 | nil=>intro i d e;simp at e
 | sh d _ ih=>intro i e q;cases i with
  | zero=>simpa using q
  | succ i=>simp at q ⊢;exact ih q
 | own xs ys _ ih=>intro i e q;cases i with
  | zero=>simp at q
  | succ i=>simp at q ⊢;exact ih q
 | obj _ _ _ _ ih=>intro i e q;cases i with
  | zero=>simp at q
  | succ i=>simp at q ⊢;exact ih q
theorem Like.ownr {bs cs:List B}(h:Like bs cs):∀ {i:Nat} {ys:List D},cs[i]?=some (.own ys)->∃ xs,bs[i]?=some (.own xs):=by
 induction h with
 | nil=>intro i d e;simp at e
 | sh d _ ih=>intro i e q;cases i with
  | zero=>simp at q
  | succ i=>simp at q ⊢;exact ih q
 | own xs ys _ ih=>intro i e q;cases i with
  | zero=>exact⟨xs,by simp⟩
  | succ i=>simp at q ⊢;exact ih q
 | obj _ _ _ _ ih=>intro i e q;cases i with
  | zero=>simp at q
  | succ i=>simp at q ⊢;exact ih q
theorem Like.ownl {bs cs:List B}(h:Like bs cs):∀ {i:Nat} {xs:List D},bs[i]?=some (.own xs)->∃ ys,cs[i]?=some (.own ys):=by
 induction h with
 | nil=>intro i d e;simp at e
 | sh d _ ih=>intro i e q;cases i with
  | zero=>simp at q
  | succ i=>simp at q ⊢;exact ih q
 | own xs ys _ ih=>intro i e q;cases i with
  | zero=>exact⟨ys,by simp⟩
  | succ i=>simp at q ⊢;exact ih q
 | obj _ _ _ _ ih=>intro i e q;cases i with
  | zero=>simp at q
  | succ i=>simp at q ⊢;exact ih q
theorem Like.objr {bs cs:List B}(h:Like bs cs):∀ {i:Nat} {p:O},cs[i]?=some (.obj p)->∃ o,bs[i]?=some (.obj o)/\p.fp=o.fp/\p.loc=o.loc/\o.loc≠none:=by
 induction h with
 | nil=>intro i d e;simp at e
 | sh d _ ih=>intro i e q;cases i with
  | zero=>simp at q
  | succ i=>simp at q ⊢;exact ih q
 | own xs ys _ ih=>intro i e q;cases i with
  | zero=>simp at q
  | succ i=>simp at q ⊢;exact ih q
 | @obj o p _ _ h1 h2 h3 _ ih=>intro i e q;cases i with
  | zero=>simp at q;subst q;exact⟨o,by simp,h1,h2,h3⟩
  | succ i=>simp at q ⊢;exact ih q
theorem Like.objl {bs cs:List B}(h:Like bs cs):∀ {i:Nat} {o:O},bs[i]?=some (.obj o)->∃ p,cs[i]?=some (.obj p)/\p.fp=o.fp/\p.loc=o.loc/\o.loc≠none:=by
 induction h with
 | nil=>intro i d e;simp at e
 | sh d _ ih=>intro i e q;cases i with
  | zero=>simp at q
  | succ i=>simp at q ⊢;exact ih q
 | own xs ys _ ih=>intro i e q;cases i with
  | zero=>simp at q
  | succ i=>simp at q ⊢;exact ih q
 | @obj o p _ _ h1 h2 h3 _ ih=>intro i e q;cases i with
  | zero=>simp at q;subst q;exact⟨p,by simp,h1,h2,h3⟩
  | succ i=>simp at q ⊢;exact ih q
abbrev jo:=List B->(B->List B->Prop)->Prop
def cg (sp:jo):Sp:=λvs H Q _=>∃ F bs Qd,iW F H/\ArgsR F H vs bs/\sp bs Qd /\
 ∀ v H' F' b bs',Same F F'->Same F' H'->(∀ c o,¬ fu vs bs c->H c=some o->H' c=some o)->(∀ c,fu vs bs c->H' c≠none)->ArgsR F' H' vs bs'->Like bs bs'->(∀ c o,F' c=some o->F c=some o\/Nw H c o)->wH H F' H' v b->Qd b bs'->Q v H'
variable {G:GE}{k:Nat}{S:Stat}
def Ik (G:GE)(k:Nat)(x:Str)(sp:jo):Prop:=∃ f fd ps,FnOk G.P G.w G.K G.mg G.base fv k f fd ps (cg sp)/\G.mg x=some (.ref f)/\PySem.W.keepIn G.K (.ref f)=true/\Binds G.K fd ps []
def cY (sp:aK):jo:=λbs Q=>∃ ds:List D,bs=ds.map .sh/\sp ds λb=>Q b bs
theorem iE {bs:List B}(h:∀ (i:Nat) (o:O),bs[i]?=some (.obj o)->o.loc≠none):Like bs bs:=by
 induction bs with
 | nil=>exact .nil
 | cons b bs ih =>
  have ih:=ih λi o e=>h (i+1) o (by simpa using e)
  cases b with
  | sh d=>exact .sh d ih
  | own xs=>exact .own xs xs ih
  | obj o=>exact .obj rfl rfl (h 0 o (by simp)) ih
theorem bT {ds:List D}{i:Nat}{b:B}(h:(ds.map B.sh)[i]?=some b):∃ d,b=.sh d/\ds[i]?=some d:=by
 rw[List.getElem?_map] at h;obtain⟨d,h1,h2⟩:=Option.map_eq_some_iff.mp h;exact⟨d,h2.symm,h1⟩
theorem qR {F:Hp}:∀ (vs:List V) (ds:List D),vs.length=ds.length->(∀ (i:Nat) (d:D),ds[i]?=some d->∃ v,vs[i]?=some v/\Rep F v d)->RepL F vs ds:=by
 intro vs
 induction vs with
 | nil=>intro ds hl _;cases ds with
  | nil=>exact .nil
  | cons _ _=>cases hl
 | cons v vs ih =>
  intro ds hl h;cases ds with
  | nil=>cases hl
  | cons d ds =>
   obtain⟨v',e,r⟩:=h 0 d (by simp)
   simp at e;subst e;exact .cons r (ih ds (by simpa using hl) λi d e=>by
    obtain⟨v',e',r'⟩:=h (i+1) d (by simpa using e)
    exact⟨v',by simpa using e',r'⟩)
theorem jC {F H:Hp}{vs:List V}{ds:List D}(h:ArgsR F H vs (ds.map B.sh)):RepL F vs ds :=
 qR vs ds (by simpa using h.len) λi d e=>h.sh i d (by rw[List.getElem?_map,e];rfl)
theorem ub {F H:Hp}{vs:List V}{ds:List D}(h:RepL F vs ds):ArgsR F H vs (ds.map B.sh) where
 len:=by rw[List.length_map];exact h.length
 sh:=λi d e=>by
  obtain⟨d',e1,e2⟩:=bT e;cases e1;exact h.get e2
 own:=λi xs e=>by obtain⟨d,e1,_⟩:=bT e;cases e1
 obj:=λi o e=>by obtain⟨d,e1,_⟩:=bT e;cases e1
 dis:=λi j xs ys a e=>by obtain⟨d,e1,_⟩:=bT e;cases e1
 dso:=λi j o p a b e=>by obtain⟨d,e1,_⟩:=bT e;cases e1
 dsx:=λi j xs o a b e=>by obtain⟨d,e1,_⟩:=bT e;cases e1
theorem uc {vs:List V}{ds:List D}{c:Addr}:¬ fu vs (ds.map B.sh) c:=by
 rintro (⟨i,xs,e,_⟩|⟨i,o,a,e,_⟩)
 ·obtain⟨d,e1,_⟩:=bT e;cases e1
 ·obtain⟨d,e1,_⟩:=bT e;cases e1
theorem FnG.mu {x:Str}{sp:aK}(h:FnG G k x sp):Ik G k x (cY sp):=by
 obtain⟨f,fd,ps,h1,h2,h3,h4⟩:=h;refine⟨f,fd,ps,h1.imp λvs H Q E q=>?_,h2,h3,h4⟩;obtain⟨F,bs,Qd,s,r,⟨ds,rfl,q⟩,K⟩:=q;refine⟨F,ds,_,s,jC r,q,λv H' F' b s1 s2 s3 fr rr qq=>K v H' F' b _ s1 s2 (λc o _ e=>s3 c o e) (λc z=>absurd z uc) (ub ((jC r).mono s1)) (iE λi o e=>?_) fr rr qq⟩;obtain⟨d,e1,_⟩:=bT e;cases e1
def VQ (sp:kA):jo:=λbs Q=>∃ (xs:List D) (ds:List D),bs=.own xs::ds.map .sh/\sp xs ds λb ys=>Q b (.own ys::ds.map .sh)
theorem ci {xs:List D}{ds:List D}{i:Nat}{b:B}(h:(B.own xs::ds.map B.sh)[i]?=some b):(i=0/\b=.own xs)\/∃ j d,i=j+1/\b=.sh d/\ds[j]?=some d:=by
 cases i with
 | zero=>simp at h;exact .inl ⟨rfl,h.symm⟩
 | succ j =>
  simp only[List.getElem?_cons_succ] at h;obtain⟨d,e1,e2⟩:=bT h;exact .inr ⟨j,d,rfl,e1,e2⟩
theorem ER {F H:Hp}{a:Addr}{us:List V}{vs:List V}{xs ds:List D}(h1:H a=some (.lst us))(h2:RepL F us xs)(h3:F a=none)(h:RepL F vs ds):ArgsR F H (.ref a::vs) (.own xs::ds.map B.sh) where
 len:=by rw[List.length_cons,List.length_cons,List.length_map,h.length]
 sh:=λi d e=>by
  rcases ci e with ⟨_,z⟩|⟨j,d',rfl,z,e2⟩
  ·cases z
  ·cases z
   obtain⟨v,e3,r⟩:=h.get e2;exact⟨v,by simpa using e3,r⟩
 own:=λi ys e=>by
  rcases ci e with ⟨rfl,z⟩|⟨j,d',rfl,z,e2⟩
  ·cases z;exact⟨a,us,by simp,h1,h2,h3⟩
  ·cases z
 obj:=λi o e=>by
  rcases ci e with ⟨_,z⟩|⟨j,d',rfl,z,e2⟩<;>cases z
 dis:=λi j ys zs b e1 e2 _ _=>by
  rcases ci e1 with ⟨rfl,z⟩|⟨_,d',rfl,z,_⟩
  ·rcases ci e2 with ⟨rfl,z⟩|⟨_,d',rfl,z,_⟩
   ·rfl
   ·cases z
  ·cases z
 dso:=λi j o p a b e=>by
  rcases ci e with ⟨_,z⟩|⟨j,d',rfl,z,e2⟩<;>cases z
 dsx:=λi j xs o a b _ _ e=>by
  rcases ci e with ⟨_,z⟩|⟨j,d',rfl,z,e2⟩<;>cases z
theorem FnIo.mu {x:Str}{sp:kA}(h:FnIo G k x sp):Ik G k x (VQ sp):=by
 obtain⟨f,fd,ps,h1,h2,h3,h4⟩:=h;refine⟨f,fd,ps,h1.imp λvs H Q E q=>?_,h2,h3,h4⟩;obtain⟨F,bs,Qd,s,r,⟨xs,ds,rfl,q⟩,K⟩:=q;obtain⟨a,us,e1,e2,e3,e4⟩:=r.own 0 xs (by simp)
 have hl:=r.len;cases vs with
 | nil=>simp at e1
 | cons v vs =>
  simp at e1;subst e1;have rs:RepL F vs ds:=qR vs ds (by simpa using hl) λi d e=>by
   obtain⟨v,q1,q2⟩:=r.sh (i+1) d (by simp only[List.getElem?_cons_succ,List.getElem?_map,e];rfl)
   exact⟨v,by simpa using q1,q2⟩
  have ft:∀ c,fu (.ref a::vs) (B.own xs::ds.map B.sh) c ↔ c=a:=λc=>by
   constructor
   ·rintro (⟨i,ys,e,z⟩|⟨i,o,b,e,_⟩)
    ·rcases ci e with ⟨rfl,_⟩|⟨_,d',rfl,z',_⟩
     ·simp at z;exact z.symm
     ·cases z'
    ·rcases ci e with ⟨rfl,z'⟩|⟨_,d',rfl,z',_⟩<;>cases z'
   ·rintro rfl
    exact .inl ⟨0,xs,by simp,by simp⟩
  refine⟨F,xs,ds,a,us,vs,_,rfl,s,e2,e3,e4,rs,q,λv H' F' b ys us' s1 s2 s3 a1 a2 a3 fr rr qq=>K v H' F' b _ s1 s2 (λc o z e=>s3 c o (λy=>z ((ft c).mpr y)) e) (λc z=>by rw[(ft c).mp z,a1];exact λy=>nomatch y) (ER a1 a2 a3 (rs.mono s1)) (.own xs ys ?_) fr rr qq⟩
  exact iE λi o e=>by obtain⟨d,z,_⟩:=bT e;cases z
end Vc

namespace Vc
open PySem L2
variable [KF]
mutual
def Pn:D->Bool
 | .non=>true
 | .bl _=>true
 | .int _=>true
 | .str _=>true
 | .tup xs=>lp xs
 | .lst xs=>lp xs
 | _=>false
def lp:List D->Bool
 | []=>true
 | x::xs=>Pn x&&lp xs
end
mutual
theorem Rep.thin {F F':Hp}(hs:∀ c u,F c=some u->F' c=some u\/dl u=true):∀ {v:V} {d:D},Rep F v d->Pn d=true->Rep F' v d
 | _,_,.non,_=>.non
 | _,_,.bl b,_=>.bl b
 | _,_,.int i,_=>.int i
 | _,_,.str x,_=>.str x
 | _,_,.tup h r,n=>.tup ((hs _ _ h).elim id λz=>by cases z) (RepL.thin hs r n)
 | _,_,.lst h r,n=>.lst (by
   rcases h with h|⟨o,h⟩
   ·exact .inl ((hs _ _ h).elim id λz=>by cases z)
   ·exact .inr ⟨o,(hs _ _ h).elim id λz=>by cases z⟩) (RepL.thin hs r n)
 | _,_,.scr _,n=>by cases n
 | _,_,.exc _,n=>by cases n
 | _,_,.dctT _ _,n=>by cases n
 | _,_,.dci _ _,n=>by cases n
 | _,_,.kp _ _ _,n=>by cases n
theorem RepL.thin {F F':Hp}(hs:∀ c u,F c=some u->F' c=some u\/dl u=true):∀ {vs:List V} {ds:List D},RepL F vs ds->lp ds=true->RepL F' vs ds
 | _,_,.nil,_=>.nil
 | _,_,.cons h r,n=>by
  have n:(Pn _&&lp _)=true:=n;rw[Bool.and_eq_true] at n;exact .cons (Rep.thin hs h n.1) (RepL.thin hs r n.2)
end
def VR:B->Bool
 | .sh d=>Pn d
 | .own xs=>lp xs
 | .obj _=>false
def Il:B->Bool
 | .sh _=>true
 | .own xs=>lp xs
 | .obj _=>false
inductive AV where
 | d (x:D)|n (j:Nat)|l (j:Nat)
abbrev pC:=Sd->(List AV->Sd->Prop)->Prop
inductive RepA (F:Hp)(σ:St):List V->List AV->Prop where
 | nil:RepA F σ [] []
 | d {v:V} {x:D} {vs:List V} {as:List AV}:Rep F v x->RepA F σ vs as->RepA F σ (v::vs) (.d x::as)
 | n {v:V} {j:Nat} {vs:List V} {as:List AV}:σ[j]?=some (some v)->RepA F σ vs as->RepA F σ (v::vs) (.n j::as)
 | l {v:V} {j:Nat} {vs:List V} {as:List AV}:σ[j]?=some (some v)->RepA F σ vs as->RepA F σ (v::vs) (.l j::as)
theorem RepA.length {F:Hp}{σ:St}:∀ {vs:List V} {as:List AV},RepA F σ vs as->vs.length=as.length
 | _,_,.nil=>rfl
 | _,_,.d _ r=>by simp [RepA.length r]
 | _,_,.n _ r=>by simp [RepA.length r]
 | _,_,.l _ r=>by simp [RepA.length r]
theorem RepA.gd {F:Hp}{σ:St}:∀ {vs:List V} {as:List AV} {i:Nat} {x:D},RepA F σ vs as->as[i]?=some (.d x)->∃ v,vs[i]?=some v/\Rep F v x
 | _,_,_,_,.nil,e=>by simp at e
 | _,_,0,_,.d h _,e=>by simp at e;subst e;exact⟨_,by simp,h⟩
 | _,_,0,_,.n _ _,e=>by simp at e
 | _,_,0,_,.l _ _,e=>by simp at e
 | _,_,i+1,_,.d _ r,e=>by obtain⟨v,h1,h2⟩:=RepA.gd (i:=i) r (by simpa using e);exact⟨v,by simpa using h1,h2⟩
 | _,_,i+1,_,.n _ r,e=>by obtain⟨v,h1,h2⟩:=RepA.gd (i:=i) r (by simpa using e);exact⟨v,by simpa using h1,h2⟩
 | _,_,i+1,_,.l _ r,e=>by obtain⟨v,h1,h2⟩:=RepA.gd (i:=i) r (by simpa using e);exact⟨v,by simpa using h1,h2⟩
theorem RepA.gn {F:Hp}{σ:St}{j:Nat}:∀ {vs:List V} {as:List AV} {i:Nat},RepA F σ vs as->as[i]?=some (.n j)\/as[i]?=some (.l j)->∃ v,vs[i]?=some v/\σ[j]?=some (some v)
 | _,_,_,.nil,e=>by simp at e
 | _,_,0,.d _ _,e=>by simp at e
 | _,_,0,.n h _,e=>by
  rcases e with e|e
  ·simp at e;subst e;exact⟨_,by simp,h⟩
  ·simp at e
 | _,_,0,.l h _,e=>by
  rcases e with e|e
  ·simp at e
  ·simp at e;subst e;exact⟨_,by simp,h⟩
 | _,_,i+1,.d _ r,e=>by obtain⟨v,h1,h2⟩:=RepA.gn (i:=i) r (by simpa using e);exact⟨v,by simpa using h1,h2⟩
 | _,_,i+1,.n _ r,e=>by obtain⟨v,h1,h2⟩:=RepA.gn (i:=i) r (by simpa using e);exact⟨v,by simpa using h1,h2⟩
 | _,_,i+1,.l _ r,e=>by obtain⟨v,h1,h2⟩:=RepA.gn (i:=i) r (by simpa using e);exact⟨v,by simpa using h1,h2⟩
def xI (σ:Sd):AV->Option B
 | .d x=>some (.sh x)
 | .n j=>match σ[j]? with
  | some (some b)=>some b
  | _=>none
 | .l j=>match σ[j]? with
  | some (some (.obj o))=>o.view.map B.sh
  | some (some (.sh d))=>some (.sh d)
  | _=>none
def cE (σ:Sd):List AV->Option (List B)
 | []=>some []
 | a::r=>match xI σ a,cE σ r with
  | some b,some bs=>some (b::bs)
  | _,_=>none
theorem iG {σ:Sd}:∀ {as:List AV} {bs:List B},cE σ as=some bs->as.length=bs.length
 | [],_,e=>by cases e;rfl
 | a::r,bs,e=>by
  unfold cE at e
  split at e
  ·rename_i b bs' e1 e2
   cases e;simp [iG e2]
  ·cases e
theorem iH {σ:Sd}:∀ {as:List AV} {bs:List B} {i:Nat} {b:B},cE σ as=some bs->bs[i]?=some b->∃ a,as[i]?=some a/\xI σ a=some b
 | [],_,_,_,e,q=>by cases e;simp at q
 | a::r,bs,i,b,e,q=>by
  unfold cE at e
  split at e
  ·rename_i b' bs' e1 e2
   cases e;cases i with
   | zero=>simp at q;subst q;exact⟨a,by simp,e1⟩
   | succ i =>
    obtain⟨a',h1,h2⟩:=iH (i:=i) e2 (by simpa using q)
    exact⟨a',by simpa using h1,h2⟩
  ·cases e
def aX:Sd->List AV->List B->Sd
 | σ,.n j::as,b::bs=>aX (σ.set j (some b)) as bs
 | σ,.d _::as,_::bs=>aX σ as bs
 | σ,.l _::as,_::bs=>aX σ as bs
 | σ,_,_=>σ
def ji:List AV->List Nat
 | []=>[]
 | .n j::as=>j::ji as
 | .d _::as=>ji as
 | .l _::as=>ji as
def ud:List AV->List Nat
 | []=>[]
 | .n _::as=>ud as
 | .d _::as=>ud as
 | .l j::as=>j::ud as
theorem cv {j:Nat}:∀ {as:List AV} {i:Nat},as[i]?=some (.n j)->j∈ji as
 | [],_,e=>by simp at e
 | .n x::as,0,e=>by simp at e;subst e;exact .head _
 | .d _::as,0,e=>by simp at e
 | .l _::as,0,e=>by simp at e
 | .n x::as,i+1,e=>.tail _ (cv (i:=i) (by simpa using e))
 | .d _::as,i+1,e=>cv (as:=as) (i:=i) (by simpa using e)
 | .l _::as,i+1,e=>cv (as:=as) (i:=i) (by simpa using e)
theorem jD {j:Nat}:∀ {as:List AV} {i:Nat},as[i]?=some (.l j)->j∈ud as
 | [],_,e=>by simp at e
 | .l x::as,0,e=>by simp at e;subst e;exact .head _
 | .d _::as,0,e=>by simp at e
 | .n _::as,0,e=>by simp at e
 | .l x::as,i+1,e=>.tail _ (jD (i:=i) (by simpa using e))
 | .d _::as,i+1,e=>jD (as:=as) (i:=i) (by simpa using e)
 | .n _::as,i+1,e=>jD (as:=as) (i:=i) (by simpa using e)
theorem gl {j:Nat}:∀ {as:List AV},j∈ji as->∃ i:Nat,as[i]?=some (AV.n j)
 | [],e=>by cases e
 | .n x::as,e=>by
  rcases List.mem_cons.mp e with rfl|e
  ·exact⟨0,rfl⟩
  ·obtain⟨i,h⟩:=gl e;exact⟨i+1,by simpa using h⟩
 | .d _::as,e=>by obtain⟨i,h⟩:=gl (as:=as) e;exact⟨i+1,by simpa using h⟩
 | .l _::as,e=>by obtain⟨i,h⟩:=gl (as:=as) e;exact⟨i+1,by simpa using h⟩
theorem gm {j:Nat}:∀ {as:List AV} {i i':Nat},(ji as).Nodup->as[i]?=some (.n j)->as[i']?=some (.n j)->i=i'
 | [],_,_,_,e,_=>by simp at e
 | .n x::as,0,0,_,_,_=>rfl
 | .n x::as,0,i'+1,nd,e,e'=>by
  simp at e;subst e;exact absurd (cv (as:=as) (i:=i') (by simpa using e')) (List.nodup_cons.mp nd).1
 | .n x::as,i+1,0,nd,e,e'=>by
  simp at e';subst e';exact absurd (cv (as:=as) (i:=i) (by simpa using e)) (List.nodup_cons.mp nd).1
 | .n x::as,i+1,i'+1,nd,e,e'=>congrArg (·+1) (gm (as:=as) (i:=i) (i':=i') (List.nodup_cons.mp nd).2 (by simpa using e) (by simpa using e'))
 | .d _::as,0,_,_,e,_=>by simp at e
 | .d _::as,_+1,0,_,_,e=>by simp at e
 | .d _::as,i+1,i'+1,nd,e,e'=>congrArg (·+1) (gm (as:=as) (i:=i) (i':=i') nd (by simpa using e) (by simpa using e'))
 | .l _::as,0,_,_,e,_=>by simp at e
 | .l _::as,_+1,0,_,_,e=>by simp at e
 | .l _::as,i+1,i'+1,nd,e,e'=>congrArg (·+1) (gm (as:=as) (i:=i) (i':=i') nd (by simpa using e) (by simpa using e'))
theorem dN:∀ (σ:Sd) (as:List AV) (bs:List B),(aX σ as bs).length=σ.length
 | σ,[],_=>by unfold aX;rfl
 | σ,.n j::as,[]=>by unfold aX;rfl
 | σ,.d _::as,[]=>by unfold aX;rfl
 | σ,.l _::as,[]=>by unfold aX;rfl
 | σ,.n j::as,b::bs=>by
  show (aX (σ.set j (some b)) as bs).length=_;rw[dN];simp
 | σ,.d _::as,b::bs=>dN σ as bs
 | σ,.l _::as,b::bs=>dN σ as bs
theorem cn {m:Nat}:∀ (σ:Sd) (as:List AV) (bs:List B),m∉ji as->(aX σ as bs)[m]?=σ[m]?
 | σ,[],_,_=>by unfold aX;rfl
 | σ,.n j::as,[],_=>by unfold aX;rfl
 | σ,.d _::as,[],_=>by unfold aX;rfl
 | σ,.l _::as,[],_=>by unfold aX;rfl
 | σ,.n j::as,b::bs,h=>by
  have h:m≠j/\m∉ji as:=by simpa [ji] using h
  show (aX (σ.set j (some b)) as bs)[m]?=_;rw[cn _ as bs h.2,List.getElem?_set_ne (Ne.symm h.1)]
 | σ,.d _::as,b::bs,h=>cn σ as bs h
 | σ,.l _::as,b::bs,h=>cn σ as bs h
theorem dB {m:Nat}{b:B}:∀ (σ:Sd) (as:List AV) (bs:List B) (i:Nat),(ji as).Nodup->as[i]?=some (.n m)->bs[i]?=some b->m < σ.length->(aX σ as bs)[m]?=some (some b)
 | σ,[],_,i,_,e,_,_=>by simp at e
 | σ,_::_,[],i,_,_,e,_=>by simp at e
 | σ,.n j::as,c::bs,0,nd,e,e',hl=>by
  simp at e e';subst e e';show (aX (σ.set j (some c)) as bs)[j]?=_;rw[cn _ as bs (List.nodup_cons.mp nd).1,List.getElem?_set_self hl]
 | σ,.n j::as,c::bs,i+1,nd,e,e',hl=>dB (σ.set j (some c)) as bs i (List.nodup_cons.mp nd).2 (by simpa using e) (by simpa using e') (by simpa using hl)
 | σ,.d _::as,c::bs,0,_,e,_,_=>by simp at e
 | σ,.d _::as,c::bs,i+1,nd,e,e',hl=>dB σ as bs i nd (by simpa using e) (by simpa using e') hl
 | σ,.l _::as,c::bs,0,_,e,_,_=>by simp at e
 | σ,.l _::as,c::bs,i+1,nd,e,e',hl=>dB σ as bs i nd (by simpa using e) (by simpa using e') hl
def Ug (Y:Dyn)(t:pC):TA:=λσ H Q=>∃ F σd Qd,RS Y F σd σ H/\t σd Qd/\∀ vs H' F' as σd',Same F F'->RS Y F' σd' σ H'->RepA F' σ vs as->Qd as σd'->Q vs H'
structure EAv (G:GE)(k:Nat)(S:Stat)(es:List Expr)(t:pC):Prop where
 run:∀ X Y,XOk X G k S Y->PA X es (Ug Y t)
variable {G:GE}{k:Nat}{S:Stat}
def hZ:pC:=λσ Q=>Q [] σ
def mv (t:TD)(u:pC):pC:=λσ Q=>t σ λx σ1=>u σ1 λas σ2=>Q (.d x::as) σ2
def Vg (j:Nat)(u:pC):pC:=λσ Q=>(∃ b,σ[j]?=some (some b))/\u σ λas σ2=>Q (.n j::as) σ2
def xJ (j:Nat)(u:pC):pC:=λσ Q=>(∃ b,σ[j]?=some (some b))/\u σ λas σ2=>Q (.l j::as) σ2
theorem RS.bound {Y:Dyn}{F:Hp}{σd:Sd}{σ:St}{H:Hp}(R:RS Y F σd σ H){j:Nat}{b:B}(e:σd[j]?=some (some b)):∃ v,σ[j]?=some (some v):=by
 cases b with
 | sh d=>obtain⟨v,h,_⟩:=R.sh j d e;exact⟨v,h⟩
 | own xs=>obtain⟨a,_,h,_⟩:=R.own j xs e;exact⟨_,h⟩
 | obj o=>obtain⟨a,h,_⟩:=R.ob.obj j o e;exact⟨_,h⟩
theorem cj:EAv G k S [] hZ:=⟨λX Y ok=>eC eA λσ H Q q=>by
 obtain⟨F,σd,Qd,R,q,K⟩:=q;exact K [] H F [] σd (Same.refl _) R .nil q⟩
theorem eo {e:Expr}{es:List Expr}{t:TD}{u:pC}(h:ED G k S e t)(hs:EAv G k S es u)(he:∀ env,starEach (e::es) env=(false,eval e env)::starEach es env:=by exact λ_=>Vc.se_cons rfl):EAv G k S (e::es) (mv t u):=⟨λX Y ok =>
 eC (cc (h X Y ok) (hs.run X Y ok) (he _)) λσ H Q q=>by
  obtain⟨F,σd,Qd,R,q,K⟩:=q;refine⟨F,σd,_,R,q,λv1 H1 F1 x σ1 s1 R1 r1 q1=>?_⟩;refine⟨F1,σ1,_,R1,q1,λvs H2 F2 as σ2 s2 R2 r2 q2=>?_⟩;exact K _ H2 F2 _ σ2 (s1.trans s2) R2 (.d (r1.mono s2) r2) q2⟩
section
variable {x:Str}{es:List Expr}{u:pC}{pos:Pos}
theorem Vh (j:Nat)(hs:EAv G k S es u)(hN:S.N[j]?=some x:=by rfl)(hv:S.sc.lookup x=some .local\/S.sc.lookup x=some .cell\/S.sc.lookup x=some .free:=by first|exact Or.inl rfl|exact Or.inr (Or.inl rfl)|exact Or.inr (Or.inr rfl))
  (hd:(x==("__debug__":Str))=false:=by decide) (hcd:(x==("__classdict__":Str))=false:=by decide) (he:∀ env,starEach (.Name x pos::es) env=(false,eval (.Name x pos) env)::starEach es env:=by exact λ_=>Vc.se_cons rfl):EAv G k S (.Name x pos::es) (Vg j u):=⟨λX Y ok =>
 eC (cc (fB (X:=X) (i:=j) (by rw[ok.N];exact hN) (by unfold Dq;rw[ok.sc];exact hv) hd hcd) (hs.run X Y ok) (he _)) λσ H Q q=>by
  obtain⟨F,σd,Qd,R,⟨⟨b,e⟩,q⟩,K⟩:=q;obtain⟨v,ev⟩:=R.bound e;refine⟨v,ev,F,σd,_,R,q,λvs H2 F2 as σ2 s2 R2 r2 q2=>?_⟩;exact K _ H2 F2 _ σ2 s2 R2 (.n ev r2) q2⟩
theorem ol (j:Nat)(hs:EAv G k S es u)(hN:S.N[j]?=some x:=by rfl)(hv:S.sc.lookup x=some .local\/S.sc.lookup x=some .cell\/S.sc.lookup x=some .free:=by first|exact Or.inl rfl|exact Or.inr (Or.inl rfl)|exact Or.inr (Or.inr rfl))
  (hd:(x==("__debug__":Str))=false:=by decide) (hcd:(x==("__classdict__":Str))=false:=by decide) (he:∀ env,starEach (.Name x pos::es) env=(false,eval (.Name x pos) env)::starEach es env:=by exact λ_=>Vc.se_cons rfl):EAv G k S (.Name x pos::es) (xJ j u):=⟨λX Y ok =>
 eC (cc (fB (X:=X) (i:=j) (by rw[ok.N];exact hN) (by unfold Dq;rw[ok.sc];exact hv) hd hcd) (hs.run X Y ok) (he _)) λσ H Q q=>by
  obtain⟨F,σd,Qd,R,⟨⟨b,e⟩,q⟩,K⟩:=q;obtain⟨v,ev⟩:=R.bound e;refine⟨v,ev,F,σd,_,R,q,λvs H2 F2 as σ2 s2 R2 r2 q2=>?_⟩;exact K _ H2 F2 _ σ2 s2 R2 (.l ev r2) q2⟩
end
def xK (σd:Sd)(σ:St)(js:List Nat)(c:Addr):Prop:=∃ j∈js,∃ (o:O) (a:Addr),σd[j]?=some (some (.obj o))/\σ[j]?=some (some (.ref a))/\c∈o.fp a
theorem qS {Y:Dyn}{F:Hp}{σd:Sd}{σ:St}{H:Hp}(R:RS Y F σd σ H):∀ js:List Nat,∃ F2,Same F F2/\Same F2 H/\(∀ j∈js,∀ (o:O) (d:D) (a:Addr),σd[j]?=some (some (.obj o))->o.view=some d->σ[j]?=some (some (.ref a))->Rep F2 (.ref a) d) /\
  (∀ c u,F2 c=some u->F c=some u\/(dl u=true/\xK σd σ js c))/\(js=[]->F2=F)
 | []=>⟨F,Same.refl _,R.fr,(λj hj=>by cases hj),(λc u z=>.inl z),λ_=>rfl⟩
 | j::js=>by
  obtain⟨F2,s1,s2,h1,h2,_⟩:=qS R js
  by_cases hq:∃ o d,σd[j]?=some (some (.obj o))/\o.view=some d
  ·obtain⟨o,d,e1,e2⟩:=hq
   obtain⟨a,w1,w2,w3⟩:=R.ob.obj j o e1;have w2':o.rep F2 H a:=o.mono s1 (λ_ _=>rfl) w2;obtain⟨F3,s3,s4,r3,h3⟩:=o.lend s2 w2' e2;refine⟨F3,s1.trans s3,s4,λi hi o' d' a' f1 f2 f3=>?_,λc u z=>?_,λz=>nomatch z⟩
   ·rcases List.mem_cons.mp hi with rfl|hi
    ·rw[e1] at f1;cases f1
     rw[e2] at f2;cases f2;rw[w1] at f3;cases f3;exact r3
    ·exact (h1 i hi o' d' a' f1 f2 f3).mono s3
   ·rcases h3 c u z with z|⟨z1,z2⟩
    ·rcases h2 c u z with z|⟨z1,i,hi,z2⟩
     ·exact .inl z
     ·exact .inr ⟨z1,i,.tail _ hi,z2⟩
    ·exact .inr ⟨z1,j,.head _,o,a,e1,w1,z2⟩
  ·refine⟨F2,s1,s2,λi hi o' d' a' f1 f2 f3=>?_,λc u z=>?_,λz=>nomatch z⟩
   ·rcases List.mem_cons.mp hi with rfl|hi
    ·exact absurd ⟨o',d',f1,f2⟩ hq
    ·exact h1 i hi o' d' a' f1 f2 f3
   ·rcases h2 c u z with z|⟨z1,i,hi,z2⟩
    ·exact .inl z
    ·exact .inr ⟨z1,i,.tail _ hi,z2⟩
theorem xL {σ:Sd}{j:Nat}{b:B}(h:xI σ (.n j)=some b):σ[j]?=some (some b):=by
 have h:(match σ[j]? with|some (some b)=>some b|_=>none)=some b:=h
 split at h
 ·rename_i b' e;cases h;exact e
 ·cases h
theorem Im {σ:Sd}{j:Nat}{b:B}(h:xI σ (.l j)=some b):∃ d,b=.sh d/\(σ[j]?=some (some (.sh d))\/∃ o,σ[j]?=some (some (.obj o))/\o.view=some d):=by
 have h:(match σ[j]? with|some (some (.obj o))=>o.view.map B.sh|some (some (.sh d))=>some (.sh d)|_=>none)=some b:=h
 split at h
 ·rename_i o e
  obtain⟨d,h1,h2⟩:=Option.map_eq_some_iff.mp h;exact⟨d,h2.symm,.inr ⟨o,e,h1⟩⟩
 ·rename_i d e;cases h;exact⟨d,rfl,.inl e⟩
 ·cases h
theorem sT {Y:Dyn}{F:Hp}{σd:Sd}{σ:St}{H:Hp}(R:RS Y F σd σ H){vs:List V}{as:List AV}{bs:List B}(ra:RepA F σ vs as)(ea:cE σd as=some bs){i:Nat}{b:B}(e:bs[i]?=some b) :
  (∃ d v,b=.sh d/\vs[i]?=some v/\(Rep F v d\/∃ (j:Nat) (o:O) (a:Addr),as[i]?=some (.l j)/\v=.ref a/\σd[j]?=some (some (.obj o))/\σ[j]?=some (some (.ref a))/\o.view=some d)) \/
  ∃ (j:Nat) (v:V),as[i]?=some (.n j)/\σd[j]?=some (some b)/\vs[i]?=some v/\σ[j]?=some (some v):=by
 obtain⟨a,h1,h2⟩:=iH ea e;cases a with
 | d x =>
  cases h2;obtain⟨v,g1,g2⟩:=ra.gd h1;exact .inl ⟨x,v,rfl,g1,.inl g2⟩
 | n j =>
  obtain⟨v,g1,g2⟩:=ra.gn (.inl h1);exact .inr ⟨j,v,h1,xL h2,g1,g2⟩
 | l j =>
  obtain⟨d,rfl,h3⟩:=Im h2;obtain⟨v,g1,g2⟩:=ra.gn (.inr h1);refine .inl ⟨d,v,rfl,g1,?_⟩;rcases h3 with h3|⟨o,h3,h4⟩
  ·obtain⟨v',f1,f2⟩:=R.sh j d h3
   rw[g2] at f1;cases f1;exact .inl f2
  ·obtain⟨a,f1,_⟩:=R.ob.obj j o h3
   rw[g2] at f1;cases f1;exact .inr ⟨j,o,a,h1,rfl,h3,g2,h4⟩
theorem ET {Y:Dyn}{F F2:Hp}{σd:Sd}{σ:St}{H:Hp}(R:RS Y F σd σ H){vs:List V}{as:List AV}{bs:List B}(ra:RepA F σ vs as)(ea:cE σd as=some bs)(nd:(ji as).Nodup)(hl:∀ j∈ud as,j∉ji as)
  (s1:Same F F2) (h1:∀ j∈ud as,∀ (o:O) (d:D) (a:Addr),σd[j]?=some (some (.obj o))->o.view=some d->σ[j]?=some (some (.ref a))->Rep F2 (.ref a) d) (h2:∀ c u,F2 c=some u->F c=some u\/(dl u=true/\xK σd σ (ud as) c)):ArgsR F2 H vs bs:=by
 have nsh:∀ {i:Nat} {b:B},bs[i]?=some b->(∀ d,b≠.sh d)->∃ j v,as[i]?=some (.n j)/\σd[j]?=some (some b)/\vs[i]?=some v/\σ[j]?=some (some v):=λe n=>by
  rcases sT R ra ea e with ⟨d,v,z,_⟩|z
  ·exact absurd z (n d)
  ·exact z
 have free:∀ {j:Nat} {c:Addr},j∉ud as->F c=none->(∀ i∈ud as,∀ (o:O) (a:Addr),σd[i]?=some (some (.obj o))->σ[i]?=some (some (.ref a))->c∉o.fp a)->F2 c=none:=λ{j c} _ e n=>by
  cases q:F2 c with
  | none=>rfl
  | some u =>
   rcases h2 c u q with z|⟨_,i,hi,o,a,f1,f2,f3⟩
   ·rw[e] at z;cases z
   ·exact absurd f3 (n i hi o a f1 f2)
 refine⟨ra.length.trans (iG ea),λi d e=>?_,λi xs e=>?_,λi o e=>?_,λi j xs ys a e1 e2 e3 e4=>?_,λi j o p a b e1 e2 e3 e4 hij=>?_,λi j xs o a b e1 e2 e3 e4=>?_⟩
 ·rcases sT R ra ea e with ⟨d',v,z,g1,g2⟩|⟨j,v,g1,g2,g3,g4⟩
  ·cases z
   refine⟨v,g1,?_⟩;rcases g2 with g2|⟨j,o,a,f1,rfl,f3,f4,f5⟩
   ·exact g2.mono s1
   ·exact h1 j (jD f1) o d a f3 f5 f4
  ·obtain⟨v',f1,f2⟩:=R.sh j d g2
   rw[g4] at f1;cases f1;exact⟨v,g3,f2.mono s1⟩
 ·obtain⟨j,v,g1,g2,g3,g4⟩:=nsh e (λd z=>nomatch z)
  obtain⟨a,us,f1,f2,f3,f4,f5⟩:=R.own j xs g2;rw[g4] at f1;cases f1;refine⟨a,us,g3,f2,f3.mono s1,free (j:=j) (λz=>hl j z (cv g1)) f4 λi hi o b q1 q2 q3=>R.ob.dsx j xs a g2 g4 ⟨i,o,b,q1,q2,q3⟩⟩
 ·obtain⟨j,v,g1,g2,g3,g4⟩:=nsh e (λd z=>nomatch z)
  obtain⟨a,f1,f2,f3⟩:=R.ob.obj j o g2;rw[g4] at f1;cases f1;refine⟨a,g3,o.mono s1 (λ_ _=>rfl) f2,λc hc=>⟨free (j:=j) (λz=>hl j z (cv g1)) (f3 c hc).1 λi hi p b q1 q2 q3=>?_,(f3 c hc).2.1⟩⟩;exact R.ob.dso j i o p a b g2 q1 g4 q2 (λz=>hl i hi (z ▸ cv g1)) c hc q3
 ·obtain⟨m,v,g1,g2,g3,g4⟩:=nsh e1 (λd z=>nomatch z)
  obtain⟨n,w,y1,y2,y3,y4⟩:=nsh e2 (λd z=>nomatch z);rw[e3] at g3;cases g3;rw[e4] at y3;cases y3;have:=R.dis m n xs ys a g2 y2 g4 y4;subst this;exact gm nd g1 y1
 ·obtain⟨m,v,g1,g2,g3,g4⟩:=nsh e1 (λd z=>nomatch z)
  obtain⟨n,w,y1,y2,y3,y4⟩:=nsh e2 (λd z=>nomatch z);rw[e3] at g3;cases g3;rw[e4] at y3;cases y3;exact R.ob.dso m n o p a b g2 y2 g4 y4 λz=>hij (gm nd g1 (z ▸ y1))
 ·obtain⟨m,v,g1,g2,g3,g4⟩:=nsh e1 (λd z=>nomatch z)
  obtain⟨n,w,y1,y2,y3,y4⟩:=nsh e3 (λd z=>nomatch z);rw[e2] at g3;cases g3;rw[e4] at y3;cases y3;exact λz=>R.ob.dsx m xs b g2 g4 ⟨n,o,a,y2,y4,z⟩
end Vc

namespace Vc
open PySem L2
variable [KF]
section
variable {Y:Dyn}{F:Hp}{σd:Sd}{σ:St}{H:Hp}{vs:List V}{as:List AV}{bs bs':List B}
theorem om (R:RS Y F σd σ H)(ra:RepA F σ vs as)(ea:cE σd as=some bs){i:Nat}{b:B}(e:bs[i]?=some b)(n:∀ d,b≠.sh d):∃ j v,as[i]?=some (.n j)/\σd[j]?=some (some b)/\vs[i]?=some v/\σ[j]?=some (some v):=by
 rcases sT R ra ea e with ⟨d,v,z,_⟩|z
 ·exact absurd z (n d)
 ·exact z
theorem ue (ra:RepA F σ vs as)(ea:cE σd as=some bs){i m:Nat}(e:as[i]?=some (.n m)):∃ b v,bs[i]?=some b/\σd[m]?=some (some b)/\vs[i]?=some v/\σ[m]?=some (some v):=by
 have hi:i < bs.length:=by rw[<- iG ea];exact (List.getElem?_eq_some_iff.mp e).1
 have hb:bs[i]?=some bs[i]:=List.getElem?_eq_getElem hi;obtain⟨a,h1,h2⟩:=iH ea hb;rw[e] at h1;cases h1;obtain⟨v,g1,g2⟩:=ra.gn (.inl e);exact⟨_,v,hb,xL h2,g1,g2⟩
theorem on (ra:RepA F σ vs as)(ea:cE σd as=some bs)(nd:(ji as).Nodup)(lk:Like bs bs'){m:Nat}{b:B}(e:(aX σd as bs')[m]?=some (some b)):(m∉ji as/\σd[m]?=some (some b))\/∃ i:Nat,as[i]?=some (AV.n m)/\bs'[i]?=some b:=by
 by_cases hm:m∈ji as
 ·obtain⟨i,hi⟩:=gl hm
  obtain⟨c,v,g1,g2,_⟩:=ue ra ea hi;have hl:i < bs'.length:=by rw[<- lk.len];exact (List.getElem?_eq_some_iff.mp g1).1
  have hb:bs'[i]?=some bs'[i]:=List.getElem?_eq_getElem hl;have:=dB σd as bs' i nd hi hb (List.getElem?_eq_some_iff.mp g2).1;rw[this] at e;cases e;exact .inr ⟨i,hi,hb⟩
 ·rw[cn _ _ _ hm] at e
  exact .inl ⟨hm,e⟩
theorem qT (R:RS Y F σd σ H)(ra:RepA F σ vs as)(ea:cE σd as=some bs)(nd:(ji as).Nodup)(lk:Like bs bs'){m:Nat}{p:O}(e:(aX σd as bs')[m]?=some (some (.obj p))):∃ o,σd[m]?=some (some (.obj o))/\p.fp=o.fp:=by
 rcases on ra ea nd lk e with ⟨_,e⟩|⟨i,h1,h2⟩
 ·exact⟨p,e,rfl⟩
 ·obtain⟨o,h3,h4,_⟩:=lk.objr h2
  obtain⟨j,v,g1,g2,_⟩:=om R ra ea h3 (λd z=>nomatch z);rw[h1] at g1;cases g1;exact⟨o,g2,h4⟩
theorem qU (R:RS Y F σd σ H)(ra:RepA F σ vs as)(ea:cE σd as=some bs)(nd:(ji as).Nodup)(lk:Like bs bs'){m:Nat}{ys:List D}(e:(aX σd as bs')[m]?=some (some (.own ys))):∃ xs,σd[m]?=some (some (.own xs)):=by
 rcases on ra ea nd lk e with ⟨_,e⟩|⟨i,h1,h2⟩
 ·exact⟨ys,e⟩
 ·obtain⟨xs,h3⟩:=lk.ownr h2
  obtain⟨j,v,g1,g2,_⟩:=om R ra ea h3 (λd z=>nomatch z);rw[h1] at g1;cases g1;exact⟨xs,g2⟩
theorem uf (R:RS Y F σd σ H)(ra:RepA F σ vs as)(ea:cE σd as=some bs)(nd:(ji as).Nodup)(lk:Like bs bs'){a:Addr}(h:H a=none):NoOwn (aX σd as bs') σ a:=by
 refine⟨λj ys e z=>?_,λ⟨j,p,c,e1,e2,hm⟩=>?_⟩
 ·obtain⟨xs,e'⟩:=qU R ra ea nd lk e
  obtain⟨c,us,f1,f2,_⟩:=R.own j xs e';rw[z] at f1;cases f1;rw[f2] at h;cases h
 ·obtain⟨o,f1,f2⟩:=qT R ra ea nd lk e1
  obtain⟨c',g1,_,g3⟩:=R.ob.obj j o f1;rw[e2] at g1;cases g1;exact (g3 a (by rw[<- f2];exact hm)).2.1 h
end
theorem RS.backMu {Y:Dyn}{F F':Hp}{σd:Sd}{σ:St}{H H':Hp}(R:RS Y F σd σ H){vs:List V}{as:List AV}{bs bs':List B}(ra:RepA F σ vs as)(ea:cE σd as=some bs)(nd:(ji as).Nodup)(lk:Like bs bs')
  (s1:Same F F') (s2:Same F' H') (fm:∀ c o,¬ fu vs bs c->H c=some o->H' c=some o) (fn:∀ c,fu vs bs c->H' c≠none) (fr:∀ c o,F' c=some o->F c=some o\/Nw H c o)
  (ow:∀ (i:Nat) (xs:List D),bs'[i]?=some (.own xs)->∃ a us,vs[i]?=some (.ref a)/\H' a=some (.lst us)/\RepL F' us xs/\F' a=none)
  (oj:∀ (i:Nat) (o:O),bs'[i]?=some (.obj o)->∃ a,vs[i]?=some (.ref a)/\o.rep F' H' a/\∀ c∈o.fp a,F' c=none/\H' c≠none):RS Y F' (aX σd as bs') σ H':=by
 have nsh:∀ {i:Nat} {b:B},bs[i]?=some b->(∀ d,b≠.sh d)->∃ j v,as[i]?=some (.n j)/\σd[j]?=some (some b)/\vs[i]?=some v/\σ[j]?=some (some v):=λe n=>om R ra ea e n;have inn:∀ {i m:Nat},as[i]?=some (.n m)->∃ b v,bs[i]?=some b/\σd[m]?=some (some b)/\vs[i]?=some v/\σ[m]?=some (some v):=λe=>ue ra ea e;have st:∀ {m:Nat} {b:B},(aX σd as bs')[m]?=some (some b)->(m∉ji as/\σd[m]?=some (some b))\/∃ i:Nat,as[i]?=some (AV.n m)/\bs'[i]?=some b:=λe=>on ra ea nd lk e;have stO:∀ {m:Nat} {p:O},(aX σd as bs')[m]?=some (some (.obj p))->∃ o,σd[m]?=some (some (.obj o))/\p.fp=o.fp:=λe=>qT R ra ea nd lk e;have stX:∀ {m:Nat} {ys:List D},(aX σd as bs')[m]?=some (some (.own ys))->∃ xs,σd[m]?=some (some (.own xs)):=λe=>qU R ra ea nd lk e
 -- what is no argument is not touched
 have nfx:∀ {m:Nat} {xs:List D} {a:Addr},m∉ji as->σd[m]?=some (some (.own xs))->σ[m]?=some (some (.ref a))->¬ fu vs bs a:=λ{m xs a} hm e1 e2 z=>by
  rcases z with ⟨i,ys,z1,z2⟩|⟨i,o,b,z1,z2,z3⟩
  ·obtain⟨j,v,g1,g2,g3,g4⟩:=nsh z1 (λd z=>nomatch z)
   rw[z2] at g3;cases g3;have:=R.dis m j xs ys a e1 g2 e2 g4;exact hm (this ▸ cv g1)
  ·obtain⟨j,v,g1,g2,g3,g4⟩:=nsh z1 (λd z=>nomatch z)
   rw[z2] at g3;cases g3;exact R.ob.dsx m xs a e1 e2 ⟨j,o,b,g2,g4,z3⟩
 have nfo:∀ {m:Nat} {o:O} {a c:Addr},m∉ji as->σd[m]?=some (some (.obj o))->σ[m]?=some (some (.ref a))->c∈o.fp a->¬ fu vs bs c:=λ{m o a c} hm e1 e2 hc z=>by
  rcases z with ⟨i,ys,z1,z2⟩|⟨i,p,b,z1,z2,z3⟩
  ·obtain⟨j,v,g1,g2,g3,g4⟩:=nsh z1 (λd z=>nomatch z)
   rw[z2] at g3;cases g3;exact R.ob.dsx j ys c g2 g4 ⟨m,o,a,e1,e2,hc⟩
  ·obtain⟨j,v,g1,g2,g3,g4⟩:=nsh z1 (λd z=>nomatch z)
   rw[z2] at g3;cases g3;exact R.ob.dso m j o p a b e1 g2 e2 g4 (λy=>hm (y ▸ cv g1)) c hc z3
 have up:∀ {c:Addr},H c≠none->H' c≠none:=λ{c} h=>by
  by_cases hf:fu vs bs c
  ·exact fn c hf
  ·cases q:H c with
   | none=>exact absurd q h
   | some o=>rw[fm c o hf q];exact λz=>nomatch z
 have kp:∀ {c:Addr},¬ fu vs bs c->H c≠none->H' c=H c:=λ{c} hf h=>by
  cases q:H c with
  | none=>exact absurd q h
  | some o=>exact fm c o hf q
 have fz:∀ {c:Addr},¬ fu vs bs c->F c=none->H c≠none->(∀ us,H c≠some (.tup us))->F' c=none:=λ{c} hf h1 h2 h3=>by
  cases q:F' c with
  | none=>rfl
  | some o =>
   rcases fr c o q with w|w|⟨us,rfl⟩
   ·rw[h1] at w;cases w
   ·exact absurd w h2
   ·have:=s2 c _ q
    rw[kp hf h2] at this;exact absurd this (h3 us)
 have old0:∀ {c:Addr},fu vs bs c->Y.H0 c=none\/c∈Y.ioA:=λ{c} z=>by
  rcases z with ⟨i,ys,z1,z2⟩|⟨i,p,b,z1,z2,z3⟩
  ·obtain⟨j,v,g1,g2,g3,g4⟩:=nsh z1 (λd z=>nomatch z)
   rw[z2] at g3;cases g3;obtain⟨a,us,f1,_,_,_,f5⟩:=R.own j ys g2;rw[g4] at f1;cases f1;exact f5.imp id λy=>List.mem_append_left _ y
  ·obtain⟨j,v,g1,g2,g3,g4⟩:=nsh z1 (λd z=>nomatch z)
   rw[z2] at g3;cases g3;obtain⟨a,f1,_,f3⟩:=R.ob.obj j p g2;rw[g4] at f1;cases f1;exact (f3 c z3).2.2.imp id λy=>List.mem_append_right _ y
 refine⟨by rw[dN];exact R.len,R.lo.trans s1,s2,λb o q=>?_,λb o q n=>?_,λm d e=>?_,λm ys e=>?_,λm n ys zs a e1 e2 e3 e4=>?_,λp hp=>?_,⟨λm p e=>?_,λm n p q a b e1 e2 e3 e4 hne c hc hc2=>?_,λn ys b e1 e2 ⟨m,p,a,e3,e4,hm⟩=>?_,λb hb=>up (R.ob.there b hb),R.ob.thz,R.ob.tab.mono s1⟩⟩
 ·rcases fr b o q with h|h
  ·exact R.fro b o h
  ·exact .inr (h.imp (λh=>(R.fresh0 h).1) id)
 ·refine fm b o (λz=>?_) (R.old b o q n)
  rcases old0 z with y|y
  ·rw[q] at y;cases y
  ·exact n y
 ·have e0:σd[m]?=some (some (.sh d)):=by
   rcases st e with ⟨_,e⟩|⟨i,h1,h2⟩
   ·exact e
   ·obtain⟨b,v,g1,g2,_⟩:=inn h1
    rw[lk.shr h2] at g1;cases g1;exact g2
  obtain⟨v,h1,h2⟩:=R.sh m d e0;exact⟨v,h1,h2.mono s1⟩
 ·rcases st e with ⟨hm,e⟩|⟨i,h1,h2⟩
  ·obtain⟨a,us,g1,g2,g3,g4,g5⟩:=R.own m ys e
   have nf:=nfx hm e g1;exact⟨a,us,g1,fm a _ nf g2,g3.mono s1,fz nf g4 (by rw[g2];exact λz=>nomatch z) (λus z=>by rw[g2] at z;cases z),g5⟩
  ·obtain⟨a,us,g1,g2,g3,g4⟩:=ow i ys h2
   obtain⟨xs,h3⟩:=lk.ownr h2;obtain⟨j,v,f1,f2,f3,f4⟩:=nsh h3 (λd z=>nomatch z);rw[h1] at f1;cases f1;rw[g1] at f3;cases f3;obtain⟨a',us',k1,_,_,_,k5⟩:=R.own m xs f2;rw[f4] at k1;cases k1;exact⟨a,us,f4,g2,g3,g4,k5⟩
 ·obtain⟨xs,h1⟩:=stX e1
  obtain⟨xs',h2⟩:=stX e2;exact R.dis m n xs xs' a h1 h2 e3 e4
 ·obtain⟨h1,xs,h2⟩:=R.io p hp
  refine⟨h1,?_⟩
  by_cases hm:p.1∈ji as
  ·obtain⟨i,hi⟩:=gl hm
   obtain⟨b,v,g1,g2,_⟩:=inn hi;rw[h2] at g2;cases g2;obtain⟨ys,h3⟩:=lk.ownl g1;exact⟨ys,dB σd as bs' i nd hi h3 (List.getElem?_eq_some_iff.mp h2).1⟩
  ·exact⟨xs,by rw[cn _ _ _ hm];exact h2⟩
 ·rcases st e with ⟨hm,e⟩|⟨i,h1,h2⟩
  ·obtain⟨a,g1,g2,g3⟩:=R.ob.obj m p e
   have nf:∀ c∈p.fp a,¬ fu vs bs c:=λc hc=>nfo hm e g1 hc;refine⟨a,g1,p.mono s1 (λc hc=>kp (nf c hc) (g3 c hc).2.1) g2,λc hc=>⟨fz (nf c hc) (g3 c hc).1 (g3 c hc).2.1 (λus z=>p.nt g2 hc z),up (g3 c hc).2.1,(g3 c hc).2.2⟩⟩
  ·obtain⟨a,g1,g2,g3⟩:=oj i p h2
   obtain⟨o,h3,h4,_⟩:=lk.objr h2;obtain⟨j,v,f1,f2,f3,f4⟩:=nsh h3 (λd z=>nomatch z);rw[h1] at f1;cases f1;rw[g1] at f3;cases f3;obtain⟨a',k1,_,k3⟩:=R.ob.obj m o f2;rw[f4] at k1;cases k1;exact⟨a,f4,g2,λc hc=>⟨(g3 c hc).1,(g3 c hc).2,(k3 c (by rw[<- h4];exact hc)).2.2⟩⟩
 ·obtain⟨o,f1,f2⟩:=stO e1
  obtain⟨o',f3,f4⟩:=stO e2;exact R.ob.dso m n o o' a b f1 f3 e3 e4 hne c (by rw[<- f2];exact hc) (by rw[<- f4];exact hc2)
 ·obtain⟨xs,h1⟩:=stX e1
  obtain⟨o,f1,f2⟩:=stO e3;exact R.ob.dsx n xs b h1 e2 ⟨m,o,a,f1,e4,by rw[<- f2];exact hm⟩
variable {G:GE}{k:Nat}{S:Stat}
def CM (sp:jo)(bs:List B)(Q:B->List B->Prop):Prop:=sp bs Q
def jj (sp:jo)(as:List AV)(σ:Sd)(Q:EV->Sd->Prop):Prop:=match cE σ as with
 | some bs=>(ji as).Nodup/\(∀ j∈ud as,j∉ji as)/\CM sp bs λb bs'=>(ud as=[]\/(VR b=true/\bs'.all Il=true))/\Q (bE b) (aX σ as bs')
 | none=>False
theorem eM {Y:Dyn}{F:Hp}{σd:Sd}{σ:St}{H:Hp}{sp:jo}{as:List AV}{vs:List V}{Qd:EV->Sd->Prop}{Q:VK}{E:XK}(R:RS Y F σd σ H)(ra:RepA F σ vs as)(q:jj sp as σd Qd)
  (K:∀ v H' F' x σd',Same F F'->RS Y F' σd' σ H'->DM Y F' H' σd' σ v x->Qd x σd'->Q v H'):cg sp vs H Q E:=by
 unfold jj at q
 split at q
 ·rename_i bs ea
  obtain⟨nd,hl,q⟩:=q;obtain⟨F2,s1,s2,h1,h2,h3⟩:=qS R (ud as);have ar:=ET R ra ea nd hl s1 h1 h2;refine⟨F2,bs,_,⟨s2,R.ob.tab.mono s1⟩,ar,q,λv H' F' b bs' t1 t2 fm fn ar' lk fr rr qq=>?_⟩;obtain⟨hn,qq⟩:=qq
  -- what was lent is given back
  obtain⟨F3,e3⟩:∃ F3:Hp,F3=λc=>@ite _ (F c=none/\F2 c≠none) (Classical.propDecidable _) none (F' c):=⟨_,rfl⟩;have at3:∀ c,(F3 c=none/\F c=none/\F2 c≠none)\/F3 c=F' c:=λc=>by
   by_cases z:F c=none/\F2 c≠none
   ·exact .inl ⟨by rw[e3];exact if_pos z,z⟩
   ·exact .inr (by rw[e3];exact if_neg z)
  have u1:Same F F3:=λc u z=>by
   rcases at3 c with ⟨_,y,_⟩|y
   ·rw[z] at y;cases y
   ·rw[y];exact t1 c u (s1 c u z)
  have u2:∀ c u,F3 c=some u->F' c=some u:=λc u z=>by
   rcases at3 c with ⟨y,_⟩|y
   ·rw[z] at y;cases y
   ·rw[<- y];exact z
  have u3:Same F3 H':=λc u z=>t2 c u (u2 c u z);have u4:∀ c o,F3 c=some o->F c=some o\/Nw H c o:=λc o z=>by
   rcases fr c o (u2 c o z) with y|y
   ·rcases at3 c with ⟨y1,_⟩|y1
    ·rw[z] at y1;cases y1
    ·cases qF:F c with
     | some u=>rw[s1 c u qF] at y;cases y;exact .inl rfl
     | none =>
      exfalso;have:F3 c=none:=by rw[e3];exact if_pos ⟨qF,by rw[y];exact λz=>nomatch z⟩
      rw[z] at this;cases this
   ·exact .inr y
  have thin:ud as=[]->F3=F':=λe=>by
   have:=h3 e;subst this;funext c;rcases at3 c with ⟨_,y1,y2⟩|y
   ·exact absurd y1 y2
   ·exact y
  have hs:∀ c u,F' c=some u->F3 c=some u\/dl u=true:=λc u z=>by
   rcases at3 c with ⟨_,y1,y2⟩|y
   ·right
    cases q2:F2 c with
    | none=>exact absurd q2 y2
    | some w =>
     have:=t1 c w q2;rw[z] at this;cases this;rcases h2 c u q2 with y|⟨y,_⟩
     ·rw[y1] at y;cases y
     ·exact y
   ·rw[y];exact .inl z
  have own':∀ (i:Nat) (xs:List D),bs'[i]?=some (.own xs)->∃ a us,vs[i]?=some (.ref a)/\H' a=some (.lst us)/\RepL F3 us xs/\F3 a=none:=λi xs e=>by
   obtain⟨a,us,g1,g2,g3,g4⟩:=ar'.own i xs e;refine⟨a,us,g1,g2,?_,?_⟩
   ·rcases hn with hn|⟨_,hn⟩
    ·rw[thin hn];exact g3
    ·exact RepL.thin hs g3 (List.all_eq_true.mp hn _ (List.mem_of_getElem? e))
   ·cases y:F3 a with
    | none=>rfl
    | some u=>rw[u2 a u y] at g4;cases g4
  have obj':∀ (i:Nat) (o:O),bs'[i]?=some (.obj o)->∃ a,vs[i]?=some (.ref a)/\o.rep F3 H' a/\∀ c∈o.fp a,F3 c=none/\H' c≠none:=λi o e=>by
   obtain⟨a,g1,g2,g3⟩:=ar'.obj i o e;rcases hn with hn|⟨_,hn⟩
   ·rw[thin hn];exact⟨a,g1,g2,g3⟩
   ·have:=List.all_eq_true.mp hn _ (List.mem_of_getElem? e)
    cases this
  have R3:=R.backMu ra ea nd lk u1 u3 fm fn u4 own' obj';refine K v H' F3 (bE b) _ u1 R3 ?_ qq;cases b with
  | sh d =>
   have rr:Rep F' v d:=rr;show Rep F3 v d;rcases hn with hn|⟨hn,_⟩
   ·rw[thin hn];exact rr
   ·exact Rep.thin hs rr hn
  | own xs =>
   obtain⟨a,us,rfl,w1,w2,w3,w4⟩:=rr;refine⟨a,us,rfl,w1,?_,?_,(R.fresh0 w4).1,?_⟩
   ·rcases hn with hn|⟨hn,_⟩
    ·rw[thin hn];exact w2
    ·exact RepL.thin hs w2 hn
   ·cases y:F3 a with
    | none=>rfl
    | some u=>rw[u2 a u y] at w3;cases w3
   ·exact uf R ra ea nd lk w4
  | obj o =>
   obtain⟨a,rfl,w1,w2⟩:=rr;rcases hn with hn|⟨hn,_⟩
   ·rw[thin hn]
    exact⟨a,rfl,w1,λc hc=>⟨(w2 c hc).1,(w2 c hc).2.1,(R.fresh0 (w2 c hc).2.2).1,uf R ra ea nd lk (w2 c hc).2.2⟩⟩
   ·cases hn
 ·exact q.elim
def Io (sp:jo)(t:pC):TX:=λσ Q=>t σ λas σ1=>jj sp as σ1 Q
theorem gp {x:Str}{sp:jo}{e:Expr}{es:List Expr}{t:pC}{p pos:Pos}(h:Ik G k x sp)(ha:EAv G k S (e::es) t)(hg:S.sc.lookup x=some .globalImplicit:=by rfl)(hdb:(x==("__debug__":Str))=false:=by decide)
  (he:∀ env,starEach (e::es) env=(false,eval e env)::starEach es env:=by exact λ_=>Vc.se_cons rfl) (hpl:∀ env,(backTo pos (starEach es env)).any (·.1)=false:=by intro _;rfl) (hh:S.hot=false:=by rfl):EX G k S (.Call (.Name x p) (e::es) [] pos) (Io sp t):=.mk λX Y ok=>by
 obtain⟨f,fd,ps,h1,h2,h3,h4⟩:=h;have h1':FnOk X.prog X.w X.K X.mg X.base fv k f fd ps (cg sp):=by rw[ok.P,ok.w,ok.K,ok.mg,ok.base];exact h1
 refine aE (jp (E:=E0) (dvs:=[]) (ds:=[]) h1' (ok.room hh) (dc ok hg) (by rw[ok.mg];exact h2) (by rw[ok.K];exact h3) (by rw[ok.K];exact h4) .nil iT (ha.run X Y ok) hdb (he _) (hpl _)) λσ H Q q=>?_
 obtain⟨F,σd,Qd,R,q,K⟩:=q;refine⟨F,σd,_,R,q,λvs H1 F1 as σ1 s1 R1 r1 q1=>?_⟩;show cg sp (vs++[]) H1 Q E0;rw[List.append_nil];exact eM R1 r1 q1 λv H' F' x σd' s R' rx qx=>K v H' F' x σd' (s1.trans s) R' rx qx
end Vc

namespace Vc
open PySem L2
variable [KF]
variable {G:GE}{k:Nat}{S:Stat}
def startMu (n:Nat)(bs:List B):Sd:=bs.map some++List.replicate (n - bs.length) none
theorem bL {α:Type}{xs:List α}{m i:Nat}{x:α}(h:(xs.map some++List.replicate m none)[i]?=some (some x)):xs[i]?=some x:=by
 rw[List.getElem?_append] at h
 split at h
 ·rw[List.getElem?_map] at h
  obtain⟨y,h1,h2⟩:=Option.map_eq_some_iff.mp h;cases h2;exact h1
 ·rw[List.getElem?_replicate] at h
  split at h<;>cases h
theorem kI {α:Type}{xs:List α}{m i:Nat}{x:α}(h:xs[i]?=some x):(xs.map some++List.replicate m none)[i]?=some (some x):=by
 rw[List.getElem?_append_left (by rw[List.length_map];exact (List.getElem?_eq_some_iff.mp h).1),List.getElem?_map,h];rfl
def oo (vs:List V)(bs:List B):List (Nat×Addr):=(List.range bs.length).filterMap λ(i:Nat)=>match bs[i]?,vs[i]? with
 | some (.own _),some (.ref a)=>some (i,a)
 | _,_=>none
def qV (vs:List V)(bs:List B):List Addr:=(List.range bs.length).flatMap λ(i:Nat)=>match bs[i]?,vs[i]? with
 | some (.obj o),some (.ref a)=>o.fp a
 | _,_=>[]
theorem mem_ioOf {vs:List V}{bs:List B}{i:Nat}{a:Addr}:(i,a)∈oo vs bs ↔ ∃ xs,bs[i]?=some (.own xs)/\vs[i]?=some (.ref a):=by
 unfold oo;rw[List.mem_filterMap];constructor
 ·rintro ⟨j,_,h⟩
  split at h
  ·rename_i xs b e1 e2
   cases h;exact⟨xs,e1,e2⟩
  ·cases h
 ·rintro ⟨xs,e1,e2⟩
  exact⟨i,List.mem_range.mpr (List.getElem?_eq_some_iff.mp e1).1,by rw[e1,e2]⟩
theorem mem_obOf {vs:List V}{bs:List B}{c:Addr}:c∈qV vs bs ↔ ∃ (i:Nat) (o:O) (a:Addr),bs[i]?=some (.obj o)/\vs[i]?=some (.ref a)/\c∈o.fp a:=by
 unfold qV;rw[List.mem_flatMap];constructor
 ·rintro ⟨j,_,h⟩
  split at h
  ·rename_i o b e1 e2
   exact⟨j,o,b,e1,e2,h⟩
  ·cases h
 ·rintro ⟨i,o,a,e1,e2,e3⟩
  exact⟨i,List.mem_range.mpr (List.getElem?_eq_some_iff.mp e1).1,by rw[e1,e2];exact e3⟩
theorem foot_io {vs:List V}{bs:List B}{F H:Hp}{c:Addr}:c∈(Dyn.mk H F (oo vs bs) (qV vs bs)).ioA ↔ fu vs bs c:=by
 unfold Dyn.ioA fu;rw[List.mem_append,mem_obOf,List.mem_map];constructor
 ·rintro (⟨⟨i,a⟩,h1,h2⟩|h)
  ·have h2:a=c:=h2
   subst h2;obtain⟨xs,e1,e2⟩:=mem_ioOf.mp h1;exact .inl ⟨i,xs,e1,e2⟩
  ·exact .inr h
 ·rintro (⟨i,xs,e1,e2⟩|h)
  ·exact .inl ⟨(i,c),mem_ioOf.mpr ⟨xs,e1,e2⟩,rfl⟩
  ·exact .inr h
theorem RS.startMu {F H:Hp}{vs:List V}{bs:List B}(n:Nat)(s:iW F H)(r:ArgsR F H vs bs):RS ⟨H,F,oo vs bs,qV vs bs⟩ F (Vc.startMu n bs) (vs.map some++List.replicate (n - vs.length) none) H where
 len:=by unfold Vc.startMu;simp [r.len]
 lo:=Same.refl _
 fr:=s.1
 fro:=λb o e=>.inl e
 old:=λb o e _=>e
 sh:=λi d e=>by
  obtain⟨v,h1,h2⟩:=r.sh i d (bL e);exact⟨v,kI h1,h2⟩
 own:=λi xs e=>by
  obtain⟨a,us,h1,h2,h3,h4⟩:=r.own i xs (bL e);exact⟨a,us,kI h1,h2,h3,h4,.inr (List.mem_map.mpr ⟨(i,a),mem_ioOf.mpr ⟨xs,bL e,h1⟩,rfl⟩)⟩
 dis:=λi j xs ys a e1 e2 e3 e4=>r.dis i j xs ys a (bL e1) (bL e2) (bL e3) (bL e4)
 io:=λp hp=>by
  obtain⟨i,a⟩:=p;obtain⟨xs,e1,e2⟩:=mem_ioOf.mp hp;exact⟨kI e2,xs,kI e1⟩
 ob:=by
  refine⟨λi o e=>?_,λi j o p a b e1 e2 e3 e4 hij=>r.dso i j o p a b (bL e1) (bL e2) (bL e3) (bL e4) hij,λj xs b e1 e2 ⟨i,o,a,e3,e4,hm⟩=>r.dsx i j xs o a b (bL e1) (bL e2) (bL e3) (bL e4) hm,λb hb=>?_,λb hb=>?_,s.2⟩
  ·obtain⟨a,h1,h2,h3⟩:=r.obj i o (bL e)
   exact⟨a,kI h1,h2,λc hc=>⟨(h3 c hc).1,(h3 c hc).2,.inr (mem_obOf.mpr ⟨i,o,a,bL e,h1,hc⟩)⟩⟩
  ·obtain⟨i,o,a,e1,e2,e3⟩:=mem_obOf.mp hb
   obtain⟨a',h1,_,h3⟩:=r.obj i o e1;rw[e2] at h1;cases h1;exact (h3 b e3).2
  ·obtain⟨i,o,a,e1,e2,e3⟩:=mem_obOf.mp hb
   obtain⟨a',h1,_,h3⟩:=r.obj i o e1;rw[e2] at h1;cases h1;exact (h3 b e3).2
def MuGet:Nat->List B->List B->Sd->Prop
 | i,.sh _::bs,_::cs,σ=>MuGet (i+1) bs cs σ
 | i,.own _::bs,c::cs,σ=>σ[i]?=some (some c)/\MuGet (i+1) bs cs σ
 | i,.obj _::bs,c::cs,σ=>σ[i]?=some (some c)/\MuGet (i+1) bs cs σ
 | _,_,_,_=>True
theorem MuGet.at {σ:Sd}:∀ {bs cs:List B} {i j:Nat} {b c:B},MuGet i bs cs σ->bs[j]?=some b->(∀ d,b≠.sh d)->cs[j]?=some c->σ[i+j]?=some (some c)
 | [],_,_,_,_,_,_,e,_,_=>by simp at e
 | _::_,[],_,_,_,_,_,_,_,e=>by simp at e
 | .sh d::bs,c'::cs,i,0,b,c,h,e,n,e'=>by simp at e;exact absurd e.symm (n d)
 | .own xs::bs,c'::cs,i,0,b,c,h,e,n,e'=>by simp at e';subst e';exact h.1
 | .obj o::bs,c'::cs,i,0,b,c,h,e,n,e'=>by simp at e';subst e';exact h.1
 | .sh d::bs,c'::cs,i,j+1,b,c,h,e,n,e'=>by
  have:=MuGet.at (i:=i+1) (j:=j) h (by simpa using e) n (by simpa using e')
  rw[show i+(j+1)=i+1+j by omega];exact this
 | .own xs::bs,c'::cs,i,j+1,b,c,h,e,n,e'=>by
  have:=MuGet.at (i:=i+1) (j:=j) h.2 (by simpa using e) n (by simpa using e')
  rw[show i+(j+1)=i+1+j by omega];exact this
 | .obj o::bs,c'::cs,i,j+1,b,c,h,e,n,e'=>by
  have:=MuGet.at (i:=i+1) (j:=j) h.2 (by simpa using e) n (by simpa using e')
  rw[show i+(j+1)=i+1+j by omega];exact this
def Dk (bs:List B)(Q:B->List B->Prop)(b:B)(σ:Sd):Prop:=∃ bs',Like bs bs'/\MuGet 0 bs bs' σ/\Q b bs'
theorem xM {F F' H H':Hp}{vs:List V}{bs bs':List B}{σd:Sd}{σ:St}(r:ArgsR F H vs bs)(s:Same F F')(R:RS ⟨H,F,oo vs bs,qV vs bs⟩ F' σd σ H')(lk:Like bs bs')(mg:MuGet 0 bs bs' σd):ArgsR F' H' vs bs':=by
 have own0:∀ {i:Nat} {ys:List D},bs'[i]?=some (.own ys)->∃ a us,vs[i]?=some (.ref a)/\H' a=some (.lst us)/\RepL F' us ys/\F' a=none:=λ{i ys} e=>by
  obtain⟨xs,h1⟩:=lk.ownr e;have h2:=mg.at h1 (λd z=>nomatch z) e;rw[Nat.zero_add] at h2;obtain⟨a,us,g1,g2,g3,g4,g5⟩:=R.own i ys h2;obtain⟨a0,us0,f1,_⟩:=r.own i xs h1;have f2:=(R.io (i,a0) (mem_ioOf.mpr ⟨xs,h1,f1⟩)).1;have f2:σ[i]?=some (some (.ref a0)):=f2;rw[g1] at f2;cases f2;exact⟨a,us,f1,g2,g3,g4⟩
 have obj0:∀ {i:Nat} {p:O},bs'[i]?=some (.obj p)->∃ a,vs[i]?=some (.ref a)/\p.rep F' H' a/\∀ c∈p.fp a,F' c=none/\H' c≠none:=λ{i p} e=>by
  obtain⟨o,h1,h3,h4,h5⟩:=lk.objr e;have h2:=mg.at h1 (λd z=>nomatch z) e;rw[Nat.zero_add] at h2;obtain⟨a,g1,g2,g3⟩:=R.ob.obj i p h2;obtain⟨a0,f1,f2,_⟩:=r.obj i o h1;cases hl:o.loc with
  | none=>exact absurd hl h5
  | some l =>
   have e1:=o.locd f2 hl;have e2:=p.locd g2 (h4.trans hl);subst e1;subst e2;exact⟨a,f1,g2,λc hc=>⟨(g3 c hc).1,(g3 c hc).2.1⟩⟩
 refine⟨r.len.trans lk.len,λi d e=>?_,λi ys e=>own0 e,λi p e=>obj0 e,λi j xs ys a e1 e2 e3 e4=>?_,λi j o p a b e1 e2 e3 e4 hij c hc hc2=>?_,λi j xs o a b e1 e2 e3 e4 hm=>?_⟩
 ·obtain⟨v,h1,h2⟩:=r.sh i d (lk.shr e)
  exact⟨v,h1,h2.mono s⟩
 ·obtain⟨xs',h1⟩:=lk.ownr e1
  obtain⟨ys',h2⟩:=lk.ownr e2;exact r.dis i j xs' ys' a h1 h2 e3 e4
 ·obtain⟨o',h1,h2,_⟩:=lk.objr e1
  obtain⟨p',h3,h4,_⟩:=lk.objr e2;exact r.dso i j o' p' a b h1 h3 e3 e4 hij c (by rw[<- h2];exact hc) (by rw[<- h4];exact hc2)
 ·obtain⟨xs',h1⟩:=lk.ownr e1
  obtain⟨o',h2,h3,_⟩:=lk.objr e3;exact r.dsx i j xs' o' a b h1 e2 h2 e4 (by rw[<- h3];exact hm)
theorem Qu {x qual:Str}{st:Stmt}{f:Addr}{fd:FuncData}{N ps:List Str}{sp:jo}{t:br}{ios:List Nat}(hK:G.K=KF.K)(Fn:Fun G.K x qual st f fd)(Sc:FnScope N ps (aa st))(ht:ESs G k ⟨N,(aa st).names,ios,false,false,false,λ_ _=>False⟩ (ag st) t)
  (len:∀ bs Q,sp bs Q->bs.length=ps.length) (kin:∀ bs Q,sp bs Q->∀ (i:Nat) (xs:List D),bs[i]?=some (.own xs)->i∈ios) (hne:ios≠[])
  (body:∀ bs Q,sp bs Q->t { nx:=Dk bs Q (.sh .non),rt:=λb σ=>Dk bs Q b σ } (startMu N.length bs)):FnOk G.P G.w G.K G.mg G.base fv (k+1) f fd ps (cg sp):=by
 refine Fn.ok Sc (λvs H Q E h=>?_) (λcdv A outer s H vs Q E hr h=>?_)
 ·obtain⟨F,bs,Qd,s,r,q,K⟩:=h
  rw[r.len];exact len _ _ q
 ·obtain⟨F,bs,Qd,sm,r,q,K⟩:=h
  refine⟨_,ht (jN fv G.P G.w G.K G.mg G.base N qual (aa st) f cdv A outer s H E).nox ⟨H,F,oo vs bs,qV vs bs⟩ ⟨rfl,rfl,rfl,hK,rfl,rfl,rfl,rfl,Sc.nd,λp hp=>by
   obtain⟨i,a⟩:=p;obtain⟨xs,e1,_⟩:=mem_ioOf.mp hp;exact kin _ _ q i xs e1,(λ_ h=>absurd h hne),λ_=>rfl,Sc.kind,λ_ _ _=>rfl,λ_=>hr.hd,hr.dp,hr.un,λ_=>PassesOwn.never,λ_=>⟨rfl,rfl,rfl⟩,λ_ _ h=>h.elim,λh=>nomatch h⟩,F,startMu N.length bs,_,RS.startMu _ sm r,body bs Qd q,?_⟩
  have fin:∀ {F':Hp} {σd:Sd} {σ:St} {H':Hp} {v:V} {b:B},Same F F'->RS ⟨H,F,oo vs bs,qV vs bs⟩ F' σd σ H'->wH H F' H' v b->Dk bs Qd b σd->Q v H':=λ{F' σd σ H' v b} s' R' r' q'=>by
   obtain⟨bs',lk,mg,q'⟩:=q';have ar:=xM r s' R' lk mg;refine K v H' F' b bs' s' R'.fr (λc o z e=>R'.old c o e λy=>z (foot_io.mp y)) (λc z=>?_) ar lk R'.fro r' q';rcases z with ⟨i,xs,e1,e2⟩|⟨i,o,a,e1,e2,e3⟩
   ·obtain⟨ys,h1⟩:=lk.ownl e1
    obtain⟨a,us,g1,g2,_⟩:=ar.own i ys h1;rw[e2] at g1;cases g1;rw[g2];exact λy=>nomatch y
   ·obtain⟨p,h1,h2,_⟩:=lk.objl e1
    obtain⟨a',g1,_,g3⟩:=ar.obj i p h1;rw[e2] at g1;cases g1;exact (g3 c (by rw[h2];exact e3)).2
  refine⟨λσ H' F' σd s' R' q'=>?_,λv σ H' F' σd b s' R' r' q'=>?_,λ_ _ _ _ _ _ h=>h.elim,λ_ _ _ _ _ _ h=>h.elim⟩
  ·exact fin (b:=.sh .non) s' R' .non q'
  ·refine fin (b:=b) s' R' ?_ q'
   cases b with
   | sh d=>exact r'
   | own xs =>
    obtain⟨a,us,rfl,w1,w2,w3,w4,w5⟩:=r';exact⟨a,us,rfl,w1,w2,w3,w4⟩
   | obj o =>
    obtain⟨a,rfl,w1,w2⟩:=r';exact⟨a,rfl,w1,λb hb=>⟨(w2 b hb).1,(w2 b hb).2.1,(w2 b hb).2.2.1⟩⟩
end Vc

namespace Vc
open PySem L2
variable [KF]
abbrev kC:Addr:=KF.cls "Kept"
def eu (a dx ad:Addr)(w:Str)(c e:Int)(kvs:List (Int×D)):O where
 fp:=λb=>[b,dx,ad]
 rep:=λF H b=>b=a/\H a=some (.ins kC dx (Dg w c e ad))/\H dx=some (.own a)/\∃ ks,H ad=some (.dK ks)/\RepI F ks kvs
 self:=λa=>.head _
 solid:=λ{F H b c' φ} ⟨e0,h1,h2,ks,h3,_⟩ hb z=>by
  subst e0;simp only[List.mem_cons,List.not_mem_nil,or_false] at hb;rcases hb with rfl|rfl|rfl
  ·rw[h1] at z;cases z
  ·rw[h2] at z;cases z
  ·rw[h3] at z;cases z
 nt:=λ{F H b c' vs} ⟨e0,h1,h2,ks,h3,_⟩ hb z=>by
  subst e0;simp only[List.mem_cons,List.not_mem_nil,or_false] at hb;rcases hb with rfl|rfl|rfl
  ·rw[h1] at z;cases z
  ·rw[h2] at z;cases z
  ·rw[h3] at z;cases z
 mono:=λ{F F' H H' b} s e ⟨e0,h1,h2,ks,h3,r⟩=>by
  subst e0;exact⟨rfl,by rw[e b (by simp)];exact h1,by rw[e dx (by simp)];exact h2,ks,by rw[e ad (by simp)];exact h3,r.mono s⟩
 view:=some (.kp w c e kvs)
 sees:=λ{F H b d} ⟨e0,h1,h2,ks,h3,r⟩ q=>by cases q;subst e0;exact⟨b,dx,ad,ks,rfl,h1,h3,r⟩
 lend:=λ{F H b d} s ⟨e0,h1,h2,ks,h3,r⟩ q=>by
  cases q;subst e0;obtain⟨F1,s1,s2,e1,e2⟩:=fE s h1;obtain⟨F2,s3,s4,e3,e4⟩:=fE s2 h3;refine⟨F2,s1.trans s3,s4,.kp (s3 _ _ e1) e3 (r.mono (s1.trans s3)),λc u z=>?_⟩;rcases e4 c u z with z|⟨rfl,rfl⟩
  ·rcases e2 c u z with z|⟨rfl,rfl⟩
   ·exact .inl z
   ·exact .inr ⟨rfl,by simp⟩
  ·exact .inr ⟨rfl,by simp⟩
 loc:=some a
 locd:=λ{F H b c'} ⟨e0,_⟩ q=>by cases q;exact e0
variable {G:GE}{k:Nat}{S:Stat}
structure KG (G:GE):Prop where
 cls:Cls G.K kC
 no:∀ f:Str,f∈(["way","count","points_by_name","ever_put"]:List Str)->NoAttr G.K kC f
def Iq (f:Str)(w:Str)(c e:Int):Option D:=if f="way" then some (.str w) else if f="count" then some (.int c) else if f="ever_put" then some (.int e) else none
def Ir (f:Str)(t:TV):TV:=λσ Q=>t σ λx σ1=>match drf σ1 x with
 | some (.kp w c e kvs)=>∃ d,Iq f w c e=some d/\Q (.val d) σ1
 | _=>False
theorem EU {f:Str}{w:Str}{c e:Int}{ad:Addr}{d:D}(h:Iq f w c e=some d):∃ v,(Dg w c e ad).lookup f=some v/\(∀ F:Hp,Rep F v d)/\f∈(["way","count","points_by_name","ever_put"]:List Str):=by
 unfold Iq at h
 by_cases h1:f="way"
 ·subst h1
  rw[if_pos rfl] at h;cases h;exact⟨.str w,rfl,λ_=>.str w,by simp⟩
 ·rw[if_neg h1] at h
  by_cases h2:f="count"
  ·subst h2
   rw[if_pos rfl] at h;cases h;exact⟨.int c,rfl,λ_=>.int c,by simp⟩
  ·rw[if_neg h2] at h
   by_cases h3:f="ever_put"
   ·subst h3
    rw[if_pos rfl] at h;cases h;exact⟨.int e,rfl,λ_=>.int e,by simp⟩
   ·rw[if_neg h3] at h;cases h
theorem xN {o:Expr}{t:TV}{f:Str}{pos:Pos}(kg:KG G)(h:EO G k S o t)(hb:∀ env,attributeBase o f env (eval o env)=eval o env:=by intro _;rfl):EO G k S (.Attribute o f pos) (Ir f t):=.mk λX Y ok =>
 aE (nc (h X Y ok) (hb _)) λσ H Q q=>by
  obtain⟨F,σd,Qd,R,q,K⟩:=q;refine⟨F,σd,_,R,q,λv1 H1 F1 x σ1 s1 R1 r1 q1=>?_⟩
  split at q1
  ·rename_i w c e kvs ed
   obtain⟨d,hd,q1⟩:=q1;obtain⟨a,dx,ad,ks,rfl,h1,h2,_⟩:=R1.drf r1 ed;obtain⟨v,g1,g2,g3⟩:=EU (ad:=ad) hd;exact⟨a,kC,dx,_,v,rfl,h1,by rw[ok.K];exact kg.cls,by rw[ok.K];exact kg.no f g3,g1,K v H1 F1 (.val d) σ1 s1 R1 (g2 F1) q1⟩
  ·exact q1.elim
def Po (t:TD):TV:=λσ Q=>t σ λx σ1=>match x with
 | .kp w c e kvs=>Q (.val (.dci kvs)) σ1
 | _=>False
theorem EY {o:Expr}{t:TD}{pos:Pos}(kg:KG G)(h:ED G k S o t)(hb:∀ env,attributeBase o "points_by_name" env (eval o env)=eval o env:=by intro _;rfl):EO G k S (.Attribute o "points_by_name" pos) (Po t):=.mk λX Y ok =>
 aE (nc (h X Y ok) (hb _)) λσ H Q q=>by
  obtain⟨F,σd,Qd,R,q,K⟩:=q;refine⟨F,σd,_,R,q,λv1 H1 F1 x σ1 s1 R1 r1 q1=>?_⟩
  split at q1
  ·rename_i w c e kvs
   cases (show Rep F1 v1 (.kp w c e kvs) from r1) with
   | @kp a dx ad _ _ _ ks _ h1 h2 r =>
    exact⟨a,kC,dx,_,.ref ad,rfl,R1.fr _ _ h1,by rw[ok.K];exact kg.cls,by rw[ok.K];exact kg.no _ (by simp),rfl,K _ H1 F1 (.val (.dci kvs)) σ1 s1 R1 (.dci h2 r) q1⟩
  ·exact q1.elim
theorem RS.kpW {Y:Dyn}{F:Hp}{σd:Sd}{σ:St}{H:Hp}{i:Nat}{a dx ad:Addr}{w:Str}{c e e':Int}{kvs kvs':List (Int×D)}{u:HO}{b:Addr}(R:RS Y F σd σ H)(q:σd[i]?=some (some (.obj (eu a dx ad w c e kvs))))(h:σ[i]?=some (some (.ref a)))(hb:b∈[a,dx,ad])
  (hr:(eu a dx ad w c e' kvs').rep F (bj H b u) a):RS Y F (σd.set i (some (.obj (eu a dx ad w c e' kvs')))) σ (bj H b u):=R.objWrite q h hb (λ_ z=>z) hr
def Vi (i:Nat)(tk:TV)(tv:TD):br:=λDe σ=>tv σ λd σ1=>(∃ a dx ad w c e kvs,σ1[i]?=some (some (.obj (eu a dx ad w c e kvs))))/\tk σ1 λy σ2=>match drf σ2 y with
 | some (.int j)=>∃ a dx ad w c e kvs,σ2[i]?=some (some (.obj (eu a dx ad w c e kvs)))/\σ2[i]?=σ1[i]?/\kvs.length < sizeLine/\De.nx (σ2.set i (some (.obj (eu a dx ad w c e (sN kvs j d)))))
 | _=>False
theorem Iu (i:Nat){x:Str}{ke ve:Expr}{tk:TV}{tv:TD}{np ap pos' pos:Pos}(kg:KG G)(hv:ED G k S ve tv)(hk:EO G k S ke tk)(ho:EO G k S (.Name x np) (EH i))(hb:∀ env,attributeBase (.Name x np) "points_by_name" env (eval (.Name x np) env)=eval (.Name x np) env:=by intro _;rfl)
  (hs:∀ line env,swapsWith ve (some (.Subscript (.Attribute (.Name x np) "points_by_name" ap) ke pos')) line env=pure false:=by intro _ _;rfl) :
  ES G k S (.Assign [.Subscript (.Attribute (.Name x np) "points_by_name" ap) ke pos'] ve pos) (Vi i tk tv):=.mk λX Y ok =>
 bA (tH (by have:=ok.units;omega) (nc (ho X Y ok) (hb _)) (hk X Y ok) (hv X Y ok) (hs _ _)) λDn σ H q=>by
  obtain⟨F,σd,De,R,q,K⟩:=q;refine⟨F,σd,_,R,q,λv H1 F1 d σ1 s1 R1 r1 q1=>?_⟩;obtain⟨⟨a0,dx0,ad0,w0,c0,e0,kvs0,eq0⟩,q1⟩:=q1;refine⟨F1,σ1,λx σ1'=>x=.var i/\σ1'=σ1,R1,⟨⟨_,eq0⟩,rfl,rfl⟩,λv2 H2 F2 y σ2 s2 R2 r2 q2=>?_⟩;obtain⟨rfl,rfl⟩:=q2;have r2:σ[i]?=some (some v2):=r2;obtain⟨b0,w1,⟨rfl,g1,g2,us0,g3,g4⟩,_⟩:=R2.ob.obj i _ eq0;rw[r2] at w1;cases w1;refine⟨b0,kC,dx0,_,.ref ad0,rfl,g1,by rw[ok.K];exact kg.cls,by rw[ok.K];exact kg.no _ (by simp),rfl,F2,σ2,_,R2,q1,λv3 H3 F3 kd σ3 s3 R3 r3 q3=>?_⟩
  split at q3
  ·rename_i j ej
   obtain rfl:=(R3.drf r3 ej).int;obtain⟨a,dx,ad,w,c,e,kvs,eq,eqq,hl,q3⟩:=q3;have eq':(B.obj (eu a dx ad w c e kvs))=.obj (eu b0 dx0 ad0 w0 c0 e0 kvs0):=by rw[eq,eq0] at eqq;exact Option.some.inj (Option.some.inj eqq)
   obtain⟨b,w1,⟨rfl,y1,y2,us,y3,y4⟩,_⟩:=R3.ob.obj i _ eq;rw[r2] at w1;cases w1;have efp:(eu b0 dx ad w c e kvs).fp b0=(eu b0 dx0 ad0 w0 c0 e0 kvs0).fp b0:=by
    have:=congrArg (λb=>match b with|B.obj o=>o.fp b0|_=>[]) eq'
    exact this
   have efp:[b0,dx,ad]=[b0,dx0,ad0]:=efp;simp only[List.cons.injEq,and_true,true_and] at efp;obtain⟨rfl,rfl⟩:=efp;have n1:b0≠ad:=dr y1 y3 (λz=>nomatch z);have n2:dx≠ad:=dr y2 y3 (λz=>nomatch z);refine⟨ad,_,rfl,.k (k:=.inl j) y3 (by rw[y4.length];exact hl),K.nx σ _ F3 _ ((s1.trans s2).trans s3) (R3.kpW eq r2 (by simp) ⟨rfl,?_,?_,_,ao,y4.put j (r1.mono (s2.trans s3))⟩) q3⟩
   ·rw[ah n1];exact y1
   ·rw[ah n2];exact y2
  ·exact q3.elim
def Vj (i:Nat)(tv:TV):br:=λDe σ=>tv σ λx σ1=>match drf σ1 x with
 | some (.int j)=>∃ a dx ad w c e kvs,σ1[i]?=some (some (.obj (eu a dx ad w c e kvs)))/\De.nx (σ1.set i (some (.obj (eu a dx ad w c j kvs))))
 | _=>False
theorem vB (w:Str)(c e j:Int)(ad:Addr):bR "ever_put" (.int j) (Dg w c e ad)=Dg w c j ad:=by
 unfold Dg;simp only[bR];rw[if_neg (by decide),if_neg (by decide),if_neg (by decide)]
 simp
theorem EZ (i:Nat){x:Str}{ve:Expr}{tv:TV}{np ap pos:Pos}(kg:KG G)(hv:EO G k S ve tv)(ho:EO G k S (.Name x np) (EH i))(hs:∀ line env,swapsWith ve (some (.Attribute (.Name x np) "ever_put" ap)) line env=pure false:=by intro _ _;rfl) :
  ES G k S (.Assign [.Attribute (.Name x np) "ever_put" ap] ve pos) (Vj i tv):=.mk λX Y ok =>
 bA (ng (ho X Y ok) (hv X Y ok) (hs _ _)) λDn σ H q=>by
  obtain⟨F,σd,De,R,q,K⟩:=q;refine⟨F,σd,_,R,q,λv H1 F1 y σ1 s1 R1 r1 q1=>?_⟩
  split at q1
  ·rename_i j ej
   obtain rfl:=(R1.drf r1 ej).int;obtain⟨a,dx,ad,w,c,e,kvs,eq,q1⟩:=q1;refine⟨F1,σ1,λx σ1'=>x=.var i/\σ1'=σ1,R1,⟨⟨_,eq⟩,rfl,rfl⟩,λv2 H2 F2 y σ2 s2 R2 r2 q2=>?_⟩;obtain⟨rfl,rfl⟩:=q2;have r2:σ[i]?=some (some v2):=r2;obtain⟨b,w1,⟨rfl,y1,y2,us,y3,y4⟩,_⟩:=R2.ob.obj i _ eq;rw[r2] at w1;cases w1;have n1:dx≠b:=dr y2 y1 (λz=>nomatch z);have n2:ad≠b:=dr y3 y1 (λz=>nomatch z);refine⟨b,kC,dx,_,rfl,y1,by rw[ok.K];exact kg.cls,by rw[ok.K];exact kg.no _ (by simp),by show 4 < 1000;decide,?_⟩
   rw[vB];exact K.nx σ _ F2 _ (s1.trans s2) (R2.kpW eq r2 (by simp) ⟨rfl,ao,by rw[ah n1];exact y2,us,by rw[ah n2];exact y3,y4⟩) q1
  ·exact q1.elim
def Vk (i:Nat)(tk:TV):br:=λDe σ=>∃ a dx ad w c e kvs,σ[i]?=some (some (.obj (eu a dx ad w c e kvs)))/\tk σ λy σ2=>match drf σ2 y with
 | some (.int j)=>σ2[i]?=some (some (.obj (eu a dx ad w c e kvs)))/\(cX kvs j).isSome=true/\De.nx (σ2.set i (some (.obj (eu a dx ad w c e (fA kvs j)))))
 | _=>False
theorem Iv (i:Nat){x:Str}{ke:Expr}{tk:TV}{np bp ap cp pos:Pos}(kg:KG G)(hk:EO G k S ke tk)(ho:EO G k S (.Name x np) (EH i))(hb:∀ env,attributeBase (.Name x np) "points_by_name" env (eval (.Name x np) env)=eval (.Name x np) env:=by intro _;rfl)
  (m:∀ X:Cx,M1 X (.Attribute (.Name x np) "points_by_name" bp) "pop" ap ke cp:=by intro X;exact⟨rfl,rfl,rfl,rfl⟩) :
  ES G k S (.Expr (.Call (.Attribute (.Attribute (.Name x np) "points_by_name" bp) "pop" ap) [ke] [] cp) pos) (Vk i tk):=.mk λX Y ok =>
 bA (mV (pP (nc (ho X Y ok) (hb _)) (hk X Y ok) (m X)) rfl) λDn σ H q=>by
  obtain⟨F,σd,De,R,⟨a,dx,ad,w,c,e,kvs,eq0,q⟩,K⟩:=q;refine⟨F,σd,λx σ1'=>x=.var i/\σ1'=σd,R,⟨⟨_,eq0⟩,rfl,rfl⟩,λv2 H2 F2 y σ2 s2 R2 r2 q2=>?_⟩;obtain⟨rfl,rfl⟩:=q2;have r2:σ[i]?=some (some v2):=r2;obtain⟨b0,w1,⟨rfl,g1,g2,us0,g3,g4⟩,_⟩:=R2.ob.obj i _ eq0;rw[r2] at w1;cases w1;refine⟨b0,kC,dx,_,.ref ad,rfl,g1,by rw[ok.K];exact kg.cls,by rw[ok.K];exact kg.no _ (by simp),rfl,ad,rfl,.inl ⟨_,.inl g3⟩,F2,σ2,_,R2,q,λv3 H3 F3 kd σ3 s3 R3 r3 q3=>?_⟩
  split at q3
  ·rename_i j ej
   obtain rfl:=(R3.drf r3 ej).int;obtain⟨eq,hl,q3⟩:=q3;obtain⟨b,w1,⟨_,y1,y2,us,y3,y4⟩,_⟩:=R3.ob.obj i _ eq;have n1:b0≠ad:=dr y1 y3 (λz=>nomatch z);have n2:dx≠ad:=dr y2 y3 (λz=>nomatch z);rcases y4.val j with ⟨_,e2⟩|⟨v,d',e1,e2,rd⟩
   ·rw[e2] at hl;cases hl
   ·exact⟨us,.inl j,v,y3,rfl,e1,K.nx σ _ F3 _ (s2.trans s3) (R3.kpW eq r2 (by simp) ⟨rfl,by rw[ah n1];exact y1,by rw[ah n2];exact y2,_,ao,y4.drop j⟩) q3⟩
  ·exact q3.elim
end Vc

namespace Vc
open PySem L2
variable [KF]
variable {G:GE}{k:Nat}{S:Stat}
structure MtD (G:GE)(m qual:Str)(st:Stmt)(ps:List Str)(f:Addr)(fd:FuncData):Prop where
 F:Fun G.K m qual st f fd
 mt:Meth G.K kC m f
 b:Binds G.K fd ps []
def FnMt (G:GE)(k:Nat)(m:Str)(sp:jo):Prop:=∃ f fd ps,FnOk G.P G.w G.K G.mg G.base fv k f fd ps (cg sp)/\Meth G.K kC m f/\Binds G.K fd ps []
theorem FnMt.mono {x:Str}{sp:jo}{j:Nat}(h:FnMt G j x sp)(l:j<=k):FnMt G k x sp:=by
 obtain⟨f,fd,ps,h1,h2,h3⟩:=h;exact⟨f,fd,ps,h1.mono l,h2,h3⟩
theorem Qv {f:Addr}{fd:FuncData}{ps:List Str}{sp:aK}(h1:FnOk G.P G.w G.K G.mg G.base fv k f fd ps (wI sp)):FnOk G.P G.w G.K G.mg G.base fv k f fd ps (cg (cY sp)):=by
 refine h1.imp λvs H Q E q=>?_;obtain⟨F,bs,Qd,s,r,⟨ds,rfl,q⟩,K⟩:=q;refine⟨F,ds,_,s,jC r,q,λv H' F' b s1 s2 s3 fr rr qq=>K v H' F' b _ s1 s2 (λc o _ e=>s3 c o e) (λc z=>absurd z uc) (ub ((jC r).mono s1)) (iE λi o e=>?_) fr rr qq⟩;obtain⟨d,e1,_⟩:=bT e;cases e1
theorem MtD.fg {m qual:Str}{st:Stmt}{ps N:List Str}{f:Addr}{fd:FuncData}{t:br}{sp:aK}(d:MtD G m qual st ps f fd)(hK:G.K=KF.K)(Sc:FnScope N ps (aa st))(ht:ESs G k ⟨N,(aa st).names,[],false,false,false,λ_ _=>False⟩ (ag st) t)
  (len:∀ ds Q,sp ds Q->ds.length=ps.length) (body:∀ ds Q,sp ds Q->t { nx:=λ_=>Q (.sh .non),rt:=λb _=>Q b } (aB N.length ds)):FnMt G (k+1) m (cY sp) :=
 ⟨f,fd,ps,Qv (wJ hK d.F Sc ht len body),d.mt,d.b⟩
theorem MtD.fmu {m qual:Str}{st:Stmt}{ps N:List Str}{f:Addr}{fd:FuncData}{t:br}{sp:jo}{ios:List Nat}(d:MtD G m qual st ps f fd)(hK:G.K=KF.K)(Sc:FnScope N ps (aa st))(ht:ESs G k ⟨N,(aa st).names,ios,false,false,false,λ_ _=>False⟩ (ag st) t)
  (len:∀ bs Q,sp bs Q->bs.length=ps.length) (kin:∀ bs Q,sp bs Q->∀ (i:Nat) (xs:List D),bs[i]?=some (.own xs)->i∈ios) (hne:ios≠[])
  (body:∀ bs Q,sp bs Q->t { nx:=Dk bs Q (.sh .non),rt:=λb σ=>Dk bs Q b σ } (startMu N.length bs)):FnMt G (k+1) m sp :=
 ⟨f,fd,ps,Qu hK d.F Sc ht len kin hne body,d.mt,d.b⟩
def oq (sp:jo)(to:TD)(t:pC):TX:=λσ Q=>to σ λx σ1=>(∃ w c e kvs,x=.kp w c e kvs)/\t σ1 λas σ2=>jj sp (.d x::as) σ2 Q
def Iw (σ:Sd)(j:Nat):Prop:=∃ o w c e kvs,σ[j]?=some (some (.obj o))/\o.view=some (.kp w c e kvs)
def Pp (sp:jo)(j:Nat)(t:pC):TX:=λσ Q=>Iw σ j/\t σ λas σ2=>jj sp (.n j::as) σ2 Q
def Uh (sp:jo)(j:Nat)(t:pC):TX:=λσ Q=>Iw σ j/\t σ λas σ2=>jj sp (.l j::as) σ2 Q
theorem qW {w:Str}{c e:Int}{ad:Addr}{m:Str}(h:(["way","count","points_by_name","ever_put"]:List Str).contains m=false):(Dg w c e ad).lookup m=none:=by
 unfold Dg;simp only[List.contains_cons,List.contains_nil,Bool.or_false,Bool.or_eq_false_iff] at h;simp only[List.lookup,h.1,h.2.1,h.2.2.1,h.2.2.2]
section
variable {o e:Expr}{es:List Expr}{m:Str}{apos pos:Pos}{sp:jo}{to:TD}{t:pC}{pl:Env->Sem Bool}
theorem qX {X:Cx}{Y:Dyn}{C:Addr}(hm:(["way","count","points_by_name","ever_put"]:List Str).contains m=false)(hC:C=kC){σ:St}{H:Hp}{Q:VK}(q:lX Y (oq sp to t) σ H Q):lu C m (cg sp) [] E0 (lD Y to) (Ug Y t) σ H Q:=by
 subst hC;obtain⟨F,σd,Qd,R,q,K⟩:=q;refine⟨F,σd,_,R,q,λv1 H1 F1 x σ1 s1 R1 r1 q1=>?_⟩;obtain⟨⟨w,c,e,kvs,rfl⟩,q1⟩:=q1;cases (show Rep F1 v1 (.kp w c e kvs) from r1) with
 | @kp a dx ad _ _ _ ks _ h1 h2 r =>
  refine⟨a,dx,_,rfl,R1.fr _ _ h1,qW hm,F1,σ1,_,R1,q1,λvs H2 F2 as σ2 s2 R2 r2 q2=>?_⟩;dsimp only;rw[List.append_nil];exact eM R2 (.d ((Rep.kp h1 h2 r).mono s2) r2) q2 λv H' F' x σd' s R' rx qx=>K v H' F' x σd' ((s1.trans s2).trans s) R' rx qx
theorem kJ (h:FnMt G k m sp)(kg:KG G)(ho:ED G k S o to)(ha:EAv G k S (e::es) t)(hm:(["way","count","points_by_name","ever_put"]:List Str).contains m=false:=by decide)
  (hst:∀ env,starEach (e::es) env=(false,eval e env)::starEach es env:=by exact λ_=>Vc.se_cons rfl) (hpl:∀ env,(backTo pos (starEach es env)).any (·.1)=false:=by intro _;rfl) (hh:S.hot=false:=by rfl)
  (ht:∀ env,eval (.Call (.Attribute o m apos) (e::es) [] pos) env=(do
   let ov <- eval o env
   standAt apos.atName
   let (f,first) <- holding [ov] (getMethod ov m (pl env))
   callWith pos f first (backTo pos (starEach (e::es) env)) (backToKw pos (keywordEach [] env))):=by intro _;rfl):EX G k S (.Call (.Attribute o m apos) (e::es) [] pos) (oq sp to t):=.mk λX Y ok=>by
 obtain⟨f,fd,ps,h1,h2,h3⟩:=h;have h1':FnOk X.prog X.w X.K X.mg X.base fv k f fd ps (cg sp):=by rw[ok.P,ok.w,ok.K,ok.mg,ok.base];exact h1
 exact aE (tD (pl:=pl X.env) (E:=E0) (dvs:=[]) (ds:=[]) (ho X Y ok) (by rw[ok.K];exact kg.cls) (by rw[ok.K];exact h2) h1' (ok.room hh) (by rw[ok.K];exact h3) .nil iT (ha.run X Y ok) (hst _) (hpl _) (ht _)) λσ H Q q=>qX (X:=X) hm rfl q
theorem Fa {Y:Dyn}{sp:jo}{to:TD}{C:Addr}{σ:St}{H:Hp}{Q:VK}(q:lu C m (cg sp) [] E0 (lD Y to) (Ug Y hZ) σ H Q):lu C m (cg sp) [] E0 (lD Y to) pI σ H Q:=by
 obtain⟨F,σd,Qd,R,q,K⟩:=q;refine⟨F,σd,Qd,R,q,λv H' F' x σd' s R' r qq=>?_⟩;obtain⟨a,dx,fs,e1,e2,e3,F1,σ1,Q1,R1,q1,K1⟩:=K v H' F' x σd' s R' r qq;exact⟨a,dx,fs,e1,e2,e3,K1 [] H' F1 [] σ1 (Same.refl _) R1 .nil q1⟩
theorem dn (h:FnMt G k m sp)(kg:KG G)(ho:ED G k S o to)(hm:(["way","count","points_by_name","ever_put"]:List Str).contains m=false:=by decide)(hh:S.hot=false:=by rfl)
  (ht:∀ env,eval (.Call (.Attribute o m apos) [] [] pos) env=(do
   let ov <- eval o env
   standAt apos.atName
   let (f,first) <- holding [ov] (getMethod ov m (pl env))
   callWith pos f first (backTo pos (starEach [] env)) (backToKw pos (keywordEach [] env))):=by intro _;rfl):EX G k S (.Call (.Attribute o m apos) [] [] pos) (oq sp to hZ):=.mk λX Y ok=>by
 obtain⟨f,fd,ps,h1,h2,h3⟩:=h;have h1':FnOk X.prog X.w X.K X.mg X.base fv k f fd ps (cg sp):=by rw[ok.P,ok.w,ok.K,ok.mg,ok.base];exact h1
 exact aE (wf (pl:=pl X.env) (E:=E0) (dvs:=[]) (ds:=[]) (ho X Y ok) (by rw[ok.K];exact kg.cls) (by rw[ok.K];exact h2) h1' (ok.room hh) (by rw[ok.K];exact h3) .nil iT (ht _)) λσ H Q q=>Fa (qX (X:=X) hm rfl q)
end
section
variable {x:Str}{np:Pos}{e:Expr}{es:List Expr}{m:Str}{apos pos:Pos}{sp:jo}{t:pC}{pl:Env->Sem Bool}{j:Nat}
theorem xO {Y:Dyn}{l:Bool}(hm:(["way","count","points_by_name","ever_put"]:List Str).contains m=false){σ:St}{H:Hp}{Q:VK}(q:lX Y (if l=true then Uh sp j t else Pp sp j t) σ H Q):lu kC m (cg sp) [] E0 (Ps j) (Ug Y t) σ H Q:=by
 obtain⟨F,σd,Qd,R,q,K⟩:=q;have q:Iw σd j/\t σd λas σ2=>jj sp ((if l=true then AV.l j else AV.n j)::as) σ2 Qd:=by
  cases l with
  | true=>exact q
  | false=>exact q
 obtain⟨⟨o,w,c,e,kvs,e1,e2⟩,q⟩:=q;obtain⟨a,w1,w2,w3⟩:=R.ob.obj j o e1;obtain⟨a',dx,ad,ks,e3,h1,h2,_⟩:=o.sees w2 e2;cases e3;refine⟨.ref a,w1,a,dx,_,rfl,h1,qW hm,F,σd,_,R,q,λvs H2 F2 as σ2 s2 R2 r2 q2=>?_⟩;dsimp only;rw[List.append_nil];refine eM R2 ?_ q2 λv H' F' x σd' s R' rx qx=>K v H' F' x σd' (s2.trans s) R' rx qx;cases l with
 | true=>exact .l w1 r2
 | false=>exact .n w1 r2
theorem ou (l:Bool)(j:Nat)(h:FnMt G k m sp)(kg:KG G)(ha:EAv G k S (e::es) t)(hN:S.N[j]?=some x:=by rfl)(hv:S.sc.lookup x=some .local\/S.sc.lookup x=some .cell\/S.sc.lookup x=some .free:=by first|exact Or.inl rfl|exact Or.inr (Or.inl rfl)|exact Or.inr (Or.inr rfl))
  (hd:(x==("__debug__":Str))=false:=by decide) (hcd:(x==("__classdict__":Str))=false:=by decide) (hm:(["way","count","points_by_name","ever_put"]:List Str).contains m=false:=by decide)
  (hst:∀ env,starEach (e::es) env=(false,eval e env)::starEach es env:=by exact λ_=>Vc.se_cons rfl) (hpl:∀ env,(backTo pos (starEach es env)).any (·.1)=false:=by intro _;rfl) (hh:S.hot=false:=by rfl)
  (ht:∀ env,eval (.Call (.Attribute (.Name x np) m apos) (e::es) [] pos) env=(do
   let ov <- eval (.Name x np) env
   standAt apos.atName
   let (f,first) <- holding [ov] (getMethod ov m (pl env))
   callWith pos f first (backTo pos (starEach (e::es) env)) (backToKw pos (keywordEach [] env))):=by intro _;rfl):EX G k S (.Call (.Attribute (.Name x np) m apos) (e::es) [] pos) (if l=true then Uh sp j t else Pp sp j t):=.mk λX Y ok=>by
 obtain⟨f,fd,ps,h1,h2,h3⟩:=h;have h1':FnOk X.prog X.w X.K X.mg X.base fv k f fd ps (cg sp):=by rw[ok.P,ok.w,ok.K,ok.mg,ok.base];exact h1
 exact aE (tD (pl:=pl X.env) (E:=E0) (dvs:=[]) (ds:=[]) (fB (X:=X) (i:=j) (by rw[ok.N];exact hN) (by unfold Dq;rw[ok.sc];exact hv) hd hcd) (by rw[ok.K];exact kg.cls) (by rw[ok.K];exact h2) h1' (ok.room hh) (by rw[ok.K];exact h3) .nil iT (ha.run X Y ok) (hst _) (hpl _) (ht _)) λσ H Q q=>xO hm q
end
end Vc

namespace Vc
open PySem L2
variable [KF]
variable {G:GE}{k:Nat}{S:Stat}
def vP (a dx:Addr)(fs:List (Str×V)):O where
 fp:=λb=>[b,dx]
 rep:=λF H b=>b=a/\H a=some (.ins kC dx fs)/\H dx=some (.own a)
 self:=λa=>.head _
 solid:=λ{F H b c' φ} ⟨e0,h1,h2⟩ hb z=>by
  subst e0;simp only[List.mem_cons,List.not_mem_nil,or_false] at hb;rcases hb with rfl|rfl
  ·rw[h1] at z;cases z
  ·rw[h2] at z;cases z
 nt:=λ{F H b c' vs} ⟨e0,h1,h2⟩ hb z=>by
  subst e0;simp only[List.mem_cons,List.not_mem_nil,or_false] at hb;rcases hb with rfl|rfl
  ·rw[h1] at z;cases z
  ·rw[h2] at z;cases z
 mono:=λ{F F' H H' b} s e ⟨e0,h1,h2⟩=>by
  subst e0;exact⟨rfl,by rw[e b (by simp)];exact h1,by rw[e dx (by simp)];exact h2⟩
def Vl (a dx ad:Addr)(fs:List (Str×V)):O where
 fp:=λb=>[b,dx,ad]
 rep:=λF H b=>b=a/\H a=some (.ins kC dx fs)/\H dx=some (.own a)/\H ad=some (.dK [])
 self:=λa=>.head _
 solid:=λ{F H b c' φ} ⟨e0,h1,h2,h3⟩ hb z=>by
  subst e0;simp only[List.mem_cons,List.not_mem_nil,or_false] at hb;rcases hb with rfl|rfl|rfl
  ·rw[h1] at z;cases z
  ·rw[h2] at z;cases z
  ·rw[h3] at z;cases z
 nt:=λ{F H b c' vs} ⟨e0,h1,h2,h3⟩ hb z=>by
  subst e0;simp only[List.mem_cons,List.not_mem_nil,or_false] at hb;rcases hb with rfl|rfl|rfl
  ·rw[h1] at z;cases z
  ·rw[h2] at z;cases z
  ·rw[h3] at z;cases z
 mono:=λ{F F' H H' b} s e ⟨e0,h1,h2,h3⟩=>by
  subst e0;exact⟨rfl,by rw[e b (by simp)];exact h1,by rw[e dx (by simp)];exact h2,by rw[e ad (by simp)];exact h3⟩
def VS:D->Option V
 | .str w=>some (.str w)
 | .int i=>some (.int i)
 | _=>none
def Ui (i:Nat)(f:Str)(tv:TV):br:=λDe σ=>tv σ λx σ1=>match drf σ1 x with
 | some d=>∃ a dx fs v,VS d=some v/\σ1[i]?=some (some (.obj (vP a dx fs)))/\fs.length < 1000/\De.nx (σ1.set i (some (.obj (vP a dx (bR f v fs)))))
 | _=>False
theorem xP (i:Nat){x f:Str}{ve:Expr}{tv:TV}{np ap pos:Pos}(kg:KG G)(hv:EO G k S ve tv)(ho:EO G k S (.Name x np) (EH i))(hf:f∈(["way","count","points_by_name","ever_put"]:List Str):=by simp)(hs:∀ line env,swapsWith ve (some (.Attribute (.Name x np) f ap)) line env=pure false:=by intro _ _;rfl) :
  ES G k S (.Assign [.Attribute (.Name x np) f ap] ve pos) (Ui i f tv):=.mk λX Y ok =>
 bA (ng (ho X Y ok) (hv X Y ok) (hs _ _)) λDn σ H q=>by
  obtain⟨F,σd,De,R,q,K⟩:=q;refine⟨F,σd,_,R,q,λv H1 F1 y σ1 s1 R1 r1 q1=>?_⟩
  split at q1
  ·rename_i d ed
   obtain⟨a,dx,fs,v',hpl,eq,hl,q1⟩:=q1;have hvv:v=v':=by
    have:=R1.drf r1 ed;unfold VS at hpl
    split at hpl
    ·cases hpl;exact this.str
    ·cases hpl;exact this.int
    ·cases hpl
   subst hvv;refine⟨F1,σ1,λx σ1'=>x=.var i/\σ1'=σ1,R1,⟨⟨_,eq⟩,rfl,rfl⟩,λv2 H2 F2 y σ2 s2 R2 r2 q2=>?_⟩;obtain⟨rfl,rfl⟩:=q2;have r2:σ[i]?=some (some v2):=r2;obtain⟨b,w1,⟨rfl,y1,y2⟩,_⟩:=R2.ob.obj i _ eq;rw[r2] at w1;cases w1;have n1:dx≠b:=dr y2 y1 (λz=>nomatch z);refine⟨b,kC,dx,_,rfl,y1,by rw[ok.K];exact kg.cls,by rw[ok.K];exact kg.no _ hf,hl,?_⟩
   exact K.nx σ _ F2 _ (s1.trans s2) (R2.objWrite (o':=vP b dx (bR f v fs)) eq r2 (.head _) (λ_ z=>z) ⟨rfl,ao,by rw[ah n1];exact y2⟩) q1
  ·exact q1.elim
def Vm (i:Nat):br:=λDe σ=>∃ a dx fs,σ[i]?=some (some (.obj (vP a dx fs)))/\fs.length < 1000/\∀ ad,De.nx (σ.set i (some (.obj (Vl a dx ad (bR "points_by_name" (.ref ad) fs)))))
theorem Ix (i:Nat){x:Str}{np ap dp pos:Pos}(kg:KG G)(hN:S.N[i]?=some x:=by rfl)(hv:S.sc.lookup x=some .local\/S.sc.lookup x=some .cell\/S.sc.lookup x=some .free:=by first|exact Or.inl rfl|exact Or.inr (Or.inl rfl)|exact Or.inr (Or.inr rfl))
  (hd:(x==("__debug__":Str))=false:=by decide) (hcd:(x==("__classdict__":Str))=false:=by decide) (hs:∀ line env,swapsWith (.Dict [] [] dp) (some (.Attribute (.Name x np) "points_by_name" ap)) line env=pure false:=by intro _ _;rfl) :
  ES G k S (.Assign [.Attribute (.Name x np) "points_by_name" ap] (.Dict [] [] dp) pos) (Vm i):=.mk λX Y ok =>
 bA (ng (fB (X:=X) (i:=i) (by rw[ok.N];exact hN) (by unfold Dq;rw[ok.sc];exact hv) hd hcd) fS (hs _ _)) λDn σ H q=>by
  obtain⟨F,σd,De,R,⟨a,dx,fs,eq,hl,q⟩,K⟩:=q;intro p hp;obtain⟨b,w1,⟨rfl,y1,y2⟩,w3⟩:=R.ob.obj i _ eq;have n1:dx≠b:=dr y2 y1 (λz=>nomatch z);have p1:b≠p:=aG y1 hp;have p2:dx≠p:=aG y2 hp;refine⟨.ref b,w1,b,kC,dx,fs,rfl,by rw[ah p1];exact y1,by rw[ok.K];exact kg.cls,by rw[ok.K];exact kg.no _ (by simp),hl,?_⟩
  refine K.nx σ _ F _ (Same.refl _) (R.objSet (o':=Vl b dx p (bR "points_by_name" (.ref p) fs)) eq w1 (λc hc hn=>?_) (λc hc=>?_) (λc hc=>?_) (λc hc=>?_) ⟨rfl,ao,by rw[ah n1,ah p2];exact y2,by rw[ah (Ne.symm p1),ao]⟩) (q p)
  ·have hc:c∉[b,dx]:=hc
   have c1:c≠b:=λz=>hc (by simp [z])
   have c2:c≠p:=λz=>hn (by rw[z];exact hp)
   rw[ah c1,ah c2]
  ·by_cases c1:c=b
   ·rw[c1,ao];exact λz=>nomatch z
   ·rw[ah c1]
    by_cases c2:c=p
    ·rw[c2,ao];exact λz=>nomatch z
    ·rw[ah c2];exact hc
  ·have hc:c∈[b,dx,p]:=hc
   simp only[List.mem_cons,List.not_mem_nil,or_false] at hc;rcases hc with rfl|rfl|rfl
   ·exact .inl (by show _∈[_,_];simp)
   ·exact .inl (by show _∈[_,_];simp)
   ·exact .inr hp
  ·have hc:c∈[b,dx,p]:=hc
   simp only[List.mem_cons,List.not_mem_nil,or_false] at hc;rcases hc with rfl|rfl|rfl
   ·rw[ao];exact λz=>nomatch z
   ·rw[ah n1,ah p2,y2];exact λz=>nomatch z
   ·rw[ah (Ne.symm p1),ao];exact λz=>nomatch z
def Vn (i:Nat)(tv:TV):br:=λDe σ=>tv σ λx σ1=>match drf σ1 x with
 | some (.int j)=>∃ a dx ad fs w c,σ1[i]?=some (some (.obj (Vl a dx ad fs)))/\fs.length < 1000/\bR "ever_put" (.int j) fs=Dg w c j ad/\De.nx (σ1.set i (some (.obj (eu a dx ad w c j []))))
 | _=>False
theorem Fb (i:Nat){x:Str}{ve:Expr}{tv:TV}{np ap pos:Pos}(kg:KG G)(hv:EO G k S ve tv)(ho:EO G k S (.Name x np) (EH i))(hs:∀ line env,swapsWith ve (some (.Attribute (.Name x np) "ever_put" ap)) line env=pure false:=by intro _ _;rfl) :
  ES G k S (.Assign [.Attribute (.Name x np) "ever_put" ap] ve pos) (Vn i tv):=.mk λX Y ok =>
 bA (ng (ho X Y ok) (hv X Y ok) (hs _ _)) λDn σ H q=>by
  obtain⟨F,σd,De,R,q,K⟩:=q;refine⟨F,σd,_,R,q,λv H1 F1 y σ1 s1 R1 r1 q1=>?_⟩
  split at q1
  ·rename_i j ej
   obtain rfl:=(R1.drf r1 ej).int;obtain⟨a,dx,ad,fs,w,c,eq,hl,hp,q1⟩:=q1;refine⟨F1,σ1,λx σ1'=>x=.var i/\σ1'=σ1,R1,⟨⟨_,eq⟩,rfl,rfl⟩,λv2 H2 F2 y σ2 s2 R2 r2 q2=>?_⟩;obtain⟨rfl,rfl⟩:=q2;have r2:σ[i]?=some (some v2):=r2;obtain⟨b,w1,⟨rfl,y1,y2,y3⟩,_⟩:=R2.ob.obj i _ eq;rw[r2] at w1;cases w1;have n1:dx≠b:=dr y2 y1 (λz=>nomatch z);have n2:ad≠b:=dr y3 y1 (λz=>nomatch z);refine⟨b,kC,dx,_,rfl,y1,by rw[ok.K];exact kg.cls,by rw[ok.K];exact kg.no _ (by simp),hl,?_⟩
   rw[hp];exact K.nx σ _ F2 _ (s1.trans s2) (R2.objWrite (o':=eu b dx ad w c j []) eq r2 (.head _) (λ_ z=>z) ⟨rfl,ao,by rw[ah n1];exact y2,[],by rw[ah n2];exact y3,.nil⟩) q1
  ·exact q1.elim
abbrev Dl:=List D->(Str->Int->Prop)->Prop
def sU (sp:Dl):Sp:=λvs H Q _=>∃ F x dx rest ds Qd,vs=.ref x::rest/\iW F H/\H x=some (.ins kC dx [])/\H dx=some (.own x)/\F x=none/\F dx=none/\RepL F rest ds/\sp ds Qd /\
 ∀ H' F' ad w c,Same F F'->Same F' H'->(∀ b o,b≠x->b≠dx->H b=some o->H' b=some o)->(eu x dx ad w c 0 []).rep F' H' x->F' x=none->F' dx=none->F' ad=none->H ad=none->(∀ b o,F' b=some o->F b=some o\/Nw H b o)->Qd w c->Q .non H'
def FnIn (G:GE)(k:Nat)(sp:Dl):Prop:=∃ f fd ps k',k=k'+1/\FnOk G.P G.w G.K G.mg G.base fv k' f fd ps (sU sp)/\Mk G.K kC f/\Binds G.K fd ps []/\G.mg "Kept"=some (.ref kC)
theorem FnIn.mono {sp:Dl}{j:Nat}(h:FnIn G j sp)(l:j<=k):FnIn G k sp:=by
 obtain⟨f,fd,ps,j',rfl,h1,h2⟩:=h;exact⟨f,fd,ps,k - 1,by omega,h1.mono (by omega),h2⟩
structure InD (G:GE)(m qual:Str)(st:Stmt)(ps:List Str)(f:Addr)(fd:FuncData):Prop where
 F:Fun G.K m qual st f fd
 makes:Mk G.K kC f
 b:Binds G.K fd ps []
 mg:G.mg "Kept"=some (.ref kC)
def gq (n:Nat)(a dx:Addr)(ds:List D):Sd:=startMu n (.obj (vP a dx [])::ds.map .sh)
def Vo (x dx:Addr)(Q:Str->Int->Prop)(σ:Sd):Prop:=∃ ad w c,σ[0]?=some (some (.obj (eu x dx ad w c 0 [])))/\Q w c
theorem Fc {F H:Hp}{x dx:Addr}{vs:List V}{ds:List D}(h1:H x=some (.ins kC dx []))(h2:H dx=some (.own x))(h3:F x=none)(h4:F dx=none)(h:RepL F vs ds):ArgsR F H (.ref x::vs) (.obj (vP x dx [])::ds.map B.sh):=by
 have cs:∀ {i:Nat} {b:B},(B.obj (vP x dx [])::ds.map B.sh)[i]?=some b->(i=0/\b=.obj (vP x dx []))\/∃ j d,i=j+1/\b=.sh d/\ds[j]?=some d:=λ{i b} h=>by
  cases i with
  | zero=>simp at h;exact .inl ⟨rfl,h.symm⟩
  | succ j =>
   simp only[List.getElem?_cons_succ] at h;obtain⟨d,e1,e2⟩:=bT h;exact .inr ⟨j,d,rfl,e1,e2⟩
 refine⟨by rw[List.length_cons,List.length_cons,List.length_map,h.length],λi d e=>?_,λi xs e=>?_,λi o e=>?_,λi j ys zs b e1=>?_,λi j o p a b e1 e2 e3 e4 hij=>?_,λi j xs o a b e1=>?_⟩
 ·rcases cs e with ⟨_,z⟩|⟨j,d',rfl,z,e2⟩
  ·cases z
  ·cases z
   obtain⟨v,e3,r⟩:=h.get e2;exact⟨v,by simpa using e3,r⟩
 ·rcases cs e with ⟨_,z⟩|⟨j,d',rfl,z,e2⟩<;>cases z
 ·rcases cs e with ⟨rfl,z⟩|⟨j,d',rfl,z,e2⟩
  ·cases z
   refine⟨x,by simp,⟨rfl,h1,h2⟩,λc hc=>?_⟩
   have hc:c∈[x,dx]:=hc;simp only[List.mem_cons,List.not_mem_nil,or_false] at hc;rcases hc with rfl|rfl
   ·exact⟨h3,by rw[h1];exact λz=>nomatch z⟩
   ·exact⟨h4,by rw[h2];exact λz=>nomatch z⟩
  ·cases z
 ·rcases cs e1 with ⟨_,z⟩|⟨j,d',rfl,z,e2⟩<;>cases z
 ·rcases cs e1 with ⟨rfl,z⟩|⟨_,d',rfl,z,_⟩
  ·rcases cs e2 with ⟨rfl,z⟩|⟨_,d',rfl,z,_⟩
   ·exact absurd rfl hij
   ·cases z
  ·cases z
 ·rcases cs e1 with ⟨_,z⟩|⟨j,d',rfl,z,e2⟩<;>cases z
theorem Qw {x qual:Str}{st:Stmt}{f:Addr}{fd:FuncData}{N ps:List Str}{sp:Dl}{t:br}(hK:G.K=KF.K)(Fn:Fun G.K x qual st f fd)(Sc:FnScope N ps (aa st))(ht:ESs G k ⟨N,(aa st).names,[0],false,false,false,λ_ _=>False⟩ (ag st) t)
  (len:∀ ds Q,sp ds Q->ds.length+1=ps.length)
  (body:∀ ds Q,sp ds Q->∀ a dx,t { nx:=Vo a dx Q,rt:=λ_ _=>False } (gq N.length a dx ds)):FnOk G.P G.w G.K G.mg G.base fv (k+1) f fd ps (sU sp):=by
 refine Fn.ok Sc (λvs H Q E h=>?_) (λcdv A outer s H vs Q E hr h=>?_)
 ·obtain⟨F,x,dx,rest,ds,Qd,rfl,s,h1,h2,h3,h4,r,q,K⟩:=h
  rw[List.length_cons,r.length];exact len _ _ q
 ·obtain⟨F,x,dx,rest,ds,Qd,rfl,sm,h1,h2,h3,h4,r,q,K⟩:=h
  have ar:=Fc h1 h2 h3 h4 r;have ft:∀ c,fu (.ref x::rest) (B.obj (vP x dx [])::ds.map B.sh) c->c=x\/c=dx:=λc z=>by
   rcases z with ⟨i,ys,e,_⟩|⟨i,o,b,e,e2,hm⟩
   ·cases i with
    | zero=>simp at e
    | succ j=>simp only[List.getElem?_cons_succ] at e;obtain⟨d,e1,_⟩:=bT e;cases e1
   ·cases i with
    | zero =>
     simp at e e2;subst e e2;have hm:c∈[x,dx]:=hm;simpa using hm
    | succ j=>simp only[List.getElem?_cons_succ] at e;obtain⟨d,e1,_⟩:=bT e;cases e1
  have hio:∀ p∈oo (.ref x::rest) (B.obj (vP x dx [])::ds.map B.sh),p.1∈[0]:=λp hp=>by
   obtain⟨i,a⟩:=p;obtain⟨xs,e,_⟩:=mem_ioOf.mp hp;cases i with
   | zero=>simp at e
   | succ j=>simp only[List.getElem?_cons_succ] at e;obtain⟨d,e1,_⟩:=bT e;cases e1
  refine⟨_,ht (jN fv G.P G.w G.K G.mg G.base N qual (aa st) f cdv A outer s H E).nox ⟨H,F,oo (.ref x::rest) (.obj (vP x dx [])::ds.map B.sh),qV (.ref x::rest) (.obj (vP x dx [])::ds.map B.sh)⟩ ⟨rfl,rfl,rfl,hK,rfl,rfl,rfl,rfl,Sc.nd,hio,(λ_ h=>nomatch h),λ_=>rfl,Sc.kind,λ_ _ _=>rfl,λ_=>hr.hd,hr.dp,hr.un,λ_=>PassesOwn.never,λ_=>⟨rfl,rfl,rfl⟩,λ_ _ h=>h.elim,λh=>nomatch h⟩,F,gq N.length x dx ds,_,RS.startMu _ sm ar,body ds Qd q x dx,?_⟩;refine⟨λσ H' F' σd s' R' q'=>?_,λv σ H' F' σd b s' R' r' q'=>q'.elim,λ_ _ _ _ _ _ h=>h.elim,λ_ _ _ _ _ _ h=>h.elim⟩;obtain⟨ad,w,c,e,q'⟩:=q';obtain⟨b,w1,w2,w3⟩:=R'.ob.obj 0 _ e;have w20:=w2;obtain⟨rfl,y1,y2,ks,y3,_⟩:=w20;have n1:ad≠b:=dr y3 y1 (λz=>nomatch z);have n2:ad≠dx:=dr y3 y2 (λz=>nomatch z);have had:H ad=none:=by
   rcases (w3 ad (by show ad∈[b,dx,ad];simp)).2.2 with z|z
   ·exact z
   ·rcases ft ad (foot_io (H:=H) (F:=F).mp (List.mem_append_right _ z)) with z|z
    ·exact absurd z n1
    ·exact absurd z n2
  refine K H' F' ad w c s' R'.fr (λc o z1 z2 e=>R'.old c o e λy=>?_) w2 (w3 b (by show b∈[b,dx,ad];simp)).1 (w3 dx (by show dx∈[b,dx,ad];simp)).1 (w3 ad (by show ad∈[b,dx,ad];simp)).1 had R'.fro q'
  rcases ft c (foot_io.mp y) with z|z
  ·exact z1 z
  ·exact z2 z
theorem InD.fi {m qual:Str}{st:Stmt}{ps N:List Str}{f:Addr}{fd:FuncData}{t:br}{sp:Dl}(d:InD G m qual st ps f fd)(hK:G.K=KF.K)(Sc:FnScope N ps (aa st))(ht:ESs G k ⟨N,(aa st).names,[0],false,false,false,λ_ _=>False⟩ (ag st) t)
  (len:∀ ds Q,sp ds Q->ds.length+1=ps.length) (body:∀ ds Q,sp ds Q->∀ a dx,t { nx:=Vo a dx Q,rt:=λ_ _=>False } (gq N.length a dx ds)):FnIn G (k+1+1) sp :=
 ⟨f,fd,ps,k+1,rfl,Qw hK d.F Sc ht len body,d.makes,d.b,d.mg⟩
def Uj (sp:Dl)(t:dq):TX:=λσ Q=>t σ λds σ1=>sp ds λw c=>∀ a dx ad,Q (.obj (eu a dx ad w c 0 [])) σ1
theorem xQ {sp:Dl}{e:Expr}{es:List Expr}{t:dq}{p pos:Pos}(h:FnIn G k sp)(ha:EDs G k S (e::es) t)(hg:S.sc.lookup ("Kept":Str)=some .globalImplicit:=by rfl)
  (he:∀ env,starEach (e::es) env=(false,eval e env)::starEach es env:=by exact λ_=>Vc.se_cons rfl) (hpl:∀ env,(backTo pos (starEach es env)).any (·.1)=false:=by intro _;rfl) (hh:S.hot=false:=by rfl):EX G k S (.Call (.Name "Kept" p) (e::es) [] pos) (Uj sp t):=.mk λX Y ok=>by
 obtain⟨f,fd,ps,k',rfl,h1,h2,h3,h4⟩:=h;have h1':FnOk X.prog X.w X.K X.mg X.base fv k' f fd ps (sU sp):=by rw[ok.P,ok.w,ok.K,ok.mg,ok.base];exact h1
 refine aE (DA (E:=E0) (dvs:=[]) (ds:=[]) (by rw[ok.K];exact h2) h1' (ok.room hh) (dc ok hg) (by rw[ok.mg];exact h4) (by rw[ok.K];exact h3) .nil iT (ha X Y ok) (by decide) (he _) (hpl _)) λσ H Q q=>?_
 obtain⟨F,σd,Qd,R,q,K⟩:=q;refine⟨F,σd,_,R,q,λvs H1 F1 ds σ1 s1 R1 r1 q1=>?_⟩;intro x dx hx hdx hne;have fx:F1 x=none:=aM R1.fr hx;have fdx:F1 dx=none:=aM R1.fr hdx;have up:∀ {b:Addr} {o:HO},H1 b=some o->(bj (bj H1 dx (.own x)) x (.ins kC dx [])) b=some o:=λ{b o} e=>by
  rw[ah (aG e hx),ah (aG e hdx)];exact e
 refine⟨F1,x,dx,vs++[],ds,_,rfl,⟨λb o e=>up (R1.fr b o e),R1.ob.tab⟩,ao,by rw[ah hne,ao],fx,fdx,by rw[List.append_nil];exact r1,q1,λH' F' ad w c u1 u2 u3 u4 u5 u6 u7 u8 u9 u10=>⟨rfl,?_⟩⟩
 have sH:Same H1 H':=λb o e=>u3 b o (aG e hx) (aG e hdx) (up e);have had:H1 ad=none:=by
  cases z:H1 ad with
  | none=>rfl
  | some o=>rw[up z] at u8;cases u8
 have R2:RS Y F' σ1 σ H':=R1.call u1 u2 sH λb o z=>(u9 b o z).imp id λy=>y.imp (λy=>by
  cases z:H1 b with
  | none=>rfl
  | some o=>rw[up z] at y;cases y) id
 refine K _ H' F' (.obj (eu x dx ad w c 0 [])) σ1 (s1.trans u1) R2 ⟨x,rfl,u4,λb hb=>?_⟩ (u10 x dx ad);obtain⟨_,g1,g2,ks,g3,_⟩:=u4;have hb:b∈[x,dx,ad]:=hb;simp only[List.mem_cons,List.not_mem_nil,or_false] at hb;rcases hb with rfl|rfl|rfl
 ·exact⟨u5,(by rw[g1];exact λz=>nomatch z),(R1.fresh0 hx).1,R1.noFresh hx⟩
 ·exact⟨u6,(by rw[g2];exact λz=>nomatch z),(R1.fresh0 hdx).1,R1.noFresh hdx⟩
 ·exact⟨u7,(by rw[g3];exact λz=>nomatch z),(R1.fresh0 had).1,R1.noFresh had⟩
end Vc

set_option maxHeartbeats 0
namespace K33
open PySem L2 Vc

section
def eN (i:Nat):Stmt:=PySem.Challenge.pw_closepoints_k33_whole_kept_as_plain.main.body.getD i (.Pass ⟨0,0,0,0⟩)
variable [KF]
structure Gl (G:GE):Prop where
 kg:KG G
 z_abs:G.mg "abs"=none
 z_len:G.mg "len"=none
 z_list:G.mg "list"=none
 z_max:G.mg "max"=none
 z_min:G.mg "min"=none
 z_range:G.mg "range"=none
 z_sorted:G.mg "sorted"=none
 z_sum:G.mg "sum"=none
 z_tuple:G.mg "tuple"=none
 z_zip:G.mg "zip"=none
 c_SQUARES:Hs G "SQUARES" (.str "squares")
 c_STREETS:Hs G "STREETS" (.str "streets")
variable {G:GE}{k:Nat}
abbrev gt:Stmt:=eN 9
abbrev xR:List Str:=["count"]
theorem Iy:FnScope xR ["count"] (aa gt):=⟨rfl,rfl,rfl,by decide +kernel,rfl,by decide +kernel,by decide +kernel⟩
def xS:br:=(ce (pU (aZ Hw (ab 0) (aY (.int 1))) (aZ Qn (ab 0) (aY (.int 3)))) pZ jr)
theorem Qx (E:Gl G):ESs G k ⟨xR,(aa gt).names,[],false,false,false,λ_ _=>False⟩ (ag gt) (xS):=(az (cK (FG (wA (aQ Hx (ae 0) aq) (pV (aQ Hy (ae 0) aq)))) (az eX) bQ))
abbrev oz:Stmt:=eN 10
abbrev Iz:List Str:=["point","count"]
theorem Qy:FnScope Iz ["point","count"] (aa oz):=⟨rfl,rfl,rfl,by decide +kernel,rfl,by decide +kernel,by decide +kernel⟩
def IA:br:=(ce (aZ vo (aS (dH eE (be (ab 0) cW))) (ab 1)) pZ jr)
theorem Vp (E:Gl G):ESs G k ⟨Iz,(aa oz).names,[],false,false,false,λ_ _=>False⟩ (ag oz) (IA):=(az (cK (aQ jW (ba (cw eF E.z_len (aA (ae 0) aU) (by decide +kernel))) (ae 1)) (az eX) bQ))
abbrev gu:Stmt:=eN 11
abbrev xT:List Str:=["points","point"]
theorem IB:FnScope xT ["points"] (aa gu):=⟨rfl,rfl,rfl,by decide +kernel,rfl,by decide +kernel,by decide +kernel⟩
def xU (dP:aK)(gv:aK):br:=(eG (bB (ai [] (ab 0))) (dI 1) (bn (jt (ei dP (aO (ai [] (aS (dH eE (be (ab 1) cW)))) tN))) (jt (ei gv (aO (ai [] (ab 1)) (aO (ai [] (aS (dH eE (be (dZ (ab 0) (aY (.int 0))) cW)))) tN))))))
theorem Qz (E:Gl G){dP:aK}(mw:FnG G k "need_count" dP){gv:aK}(vC:FnG G k "need_as_many_numbers" gv):ESs G k ⟨xT,(aa gu).names,[],false,false,false,λ_ _=>False⟩ (ag gu) (xU dP gv):=(az (qe (cD (aw (ae 0))) (aP 1) (am (bq (aJ mw (af (aw (ba (cw eF E.z_len (aA (ae 1) aU) (by decide +kernel)))) ax))) (az (bq (aJ vC (af (aw (ae 1)) (af (aw (ba (cw eF E.z_len (aA (bS (ae 0) aq) aU) (by decide +kernel)))) ax))))))))
abbrev gw:Stmt:=eN 12
abbrev xV:List Str:=["way"]
theorem IC:FnScope xV ["way"] (aa gw):=⟨rfl,rfl,rfl,by decide +kernel,rfl,by decide +kernel,by decide +kernel⟩
def xW:br:=(ce (pT (aZ vo (ab 0) (aY (.str "streets"))) (aZ vo (ab 0) (aY (.str "squares")))) pZ jr)
theorem QA (E:Gl G):ESs G k ⟨xV,(aa gw).names,[],false,false,false,λ_ _=>False⟩ (ag gw) (xW):=(az (cK (FG (wz (aQ jW (ae 0) (wx E.c_STREETS)) (sB (aQ jW (ae 0) (wx E.c_SQUARES))))) (az eX) bQ))
abbrev oA:Stmt:=eN 13
abbrev ID:List Str:=["points","way"]
theorem QB:FnScope ID ["points","way"] (aa oA):=⟨rfl,rfl,rfl,by decide +kernel,rfl,by decide +kernel,by decide +kernel⟩
def IE (oB:aK)(dQ:aK):br:=(bn (jt (ei oB (aO (ai [] (ab 0)) tN))) (jt (ei dQ (aO (ai [] (ab 1)) tN))))
theorem Vq (E:Gl G){oB:aK}(xX:FnG G k "need_points" oB){dQ:aK}(mx:FnG G k "need_way" dQ):ESs G k ⟨ID,(aa oA).names,[],false,false,false,λ_ _=>False⟩ (ag oA) (IE oB dQ):=(am (bq (aJ xX (af (aw (ae 0)) ax))) (az (bq (aJ mx (af (aw (ae 1)) ax)))))
abbrev gy:Stmt:=eN 14
abbrev xY:List Str:=["points","place"]
theorem IG:FnScope xY ["points","place"] (aa gy):=⟨rfl,rfl,rfl,by decide +kernel,rfl,by decide +kernel,by decide +kernel⟩
def xZ:br:=(ce (pU (aZ Hw (ab 1) (aY (.int 0))) (aZ Ua (ab 1) (aS (dH eE (be (ab 0) cW))))) pZ jr)
theorem QC (E:Gl G):ESs G k ⟨xY,(aa gy).names,[],false,false,false,λ_ _=>False⟩ (ag gy) (xZ):=(az (cK (FG (wA (aQ Hx (ae 1) aq) (pV (aQ Qo (ae 1) (ba (cw eF E.z_len (aA (ae 0) aU) (by decide +kernel))))))) (az eX) bQ))
abbrev gz:Stmt:=eN 15
abbrev ya:List Str:=["bound"]
theorem IH:FnScope ya ["bound"] (aa gz):=⟨rfl,rfl,rfl,by decide +kernel,rfl,by decide +kernel,by decide +kernel⟩
def yb:br:=(ce (aZ Hw (ab 0) (aY (.int 0))) pZ jr)
theorem QD (E:Gl G):ESs G k ⟨ya,(aa gz).names,[],false,false,false,λ_ _=>False⟩ (ag gz) (yb):=(az (cK (aQ Hx (ae 0) aq) (az eX) bQ))
abbrev gA:Stmt:=eN 17
abbrev yc:List Str:=["way","point","other","differences"]
theorem II:FnScope yc ["way","point","other"] (aa gA):=⟨rfl,rfl,rfl,by decide +kernel,rfl,by decide +kernel,by decide +kernel⟩
def yd:br:=(bn (cU [] 3 (bU [] [none,none] (HM (aO (ai [] (ab 1)) (aO (ai [] (ab 2)) tN))) (FK 2 (gC (dI 0) (gC (dI 1) FJ))) bF (ai [] (aS (dH DT (be (aS (bi pQ (ab 0) (ab 1))) cW)))))) (bn (ce (aZ DR (ab 0) (aY (.str "streets"))) (dF [] (dH wU (be (ab 3) cW))) jr) (dF [] (dH wU (be (aS (bU [] [none] (bB (ai [] (ab 3))) (dI 0) bF (ai [] (aS (bi jT (ab 0) (ab 0)))))) cW)))))
theorem QE (E:Gl G):ESs G k ⟨yc,(aa gA).names,[],false,false,false,λ_ _=>False⟩ (ag gA) (yd):=(am (nH 3 (N':=["here","there"]) (Qr (af (aw (ae 1)) (af (aw (ae 2)) ax)) E.z_zip) ⟨rfl,by first|decide +kernel | (dsimp only[au,ak];decide +kernel),by first|decide +kernel | (dsimp only[au,ak];decide +kernel),by first|decide +kernel | (dsimp only[au,ak];decide +kernel),by first|decide +kernel | (dsimp only[au,ak];decide +kernel),rfl,by first|decide +kernel | (dsimp only[au,ak];decide +kernel)⟩ (qb (bW (aP 0) (bW (aP 1) ki))) cz (aw (ba (cw Qq E.z_abs (aA (ba (lJ (ae 0) (ae 1))) aU) (by decide +kernel))))) (am (cK (aQ vp (ae 0) (wx E.c_STREETS)) (az (aV (cw FM E.z_sum (aA (ae 3) aU) (by decide +kernel)))) bQ) (az (aV (cw FM E.z_sum (aA (ba (cC (N':=["difference"]) (cD (aw (ae 3))) ⟨rfl,by first|decide +kernel | (dsimp only[au,ak];decide +kernel),by first|decide +kernel | (dsimp only[au,ak];decide +kernel),by first|decide +kernel | (dsimp only[au,ak];decide +kernel),by first|decide +kernel | (dsimp only[au,ak];decide +kernel),rfl,by first|decide +kernel | (dsimp only[au,ak];decide +kernel)⟩ (aP 0) cz (aw (ba (jU (ae 0) (ae 0)))))) aU) (by decide +kernel))))))
abbrev oC:Stmt:=eN 18
abbrev IJ:List Str:=["points","way","pairs","i","j"]
theorem QF:FnScope IJ ["points","way"] (aa oC):=⟨rfl,rfl,rfl,by decide +kernel,rfl,by decide +kernel,by decide +kernel⟩
def QG (dR:aK):br:=(bn (cU [] 2 (HD tN)) (bn (eG (nD (be (aS (dH eE (be (ab 0) cW))) cW)) (dI 3) (eG (DW (be (aS (bi fj (ab 3) (aY (.int 1)))) (be (aS (dH eE (be (ab 0) cW))) cW))) (dI 4) (jt (wG (ab 2) (ai [] (vN (aO (ai [] (aS (ei dR (aO (ai [] (ab 1)) (aO (ai [] (dZ (ab 0) (ab 3))) (aO (ai [] (dZ (ab 0) (ab 4))) tN)))))) (aO (ai [] (ab 3)) (aO (ai [] (ab 4)) tN))))))))) (dF [] (oX (ab 2)))))
theorem Vr (E:Gl G){dR:aK}(my:FnG G k "far_between" dR):ESs G k ⟨IJ,(aa oC).names,[],false,false,false,λ_ _=>False⟩ (ag oC) (QG dR):=(am (bo 2 (tJ ax)) (am (qe (iu (aA (ba (cw eF E.z_len (aA (ae 0) aU) (by decide +kernel))) aU) E.z_range) (aP 3) (az (qe (HH (aA (ba (eD (ae 3) aq)) (aA (ba (cw eF E.z_len (aA (ae 0) aU) (by decide +kernel))) aU)) E.z_range) (aP 4) (az (bq (qa (ae 2) (aw (fX (af (aw (ba (aJ my (af (aw (ae 1)) (af (aw (bS (ae 0) (ae 3))) (af (aw (bS (ae 0) (ae 4))) ax)))))) (af (aw (ae 3)) (af (aw (ae 4)) ax))))))))))) (az (aV (iX (ae 2))))))
abbrev gB:Stmt:=eN 19
abbrev ye:List Str:=["points","way"]
theorem IK:FnScope ye ["points","way"] (aa gB):=⟨rfl,rfl,rfl,by decide +kernel,rfl,by decide +kernel,by decide +kernel⟩
def yf (bJ:aK)(dh:aK):br:=(bn (jt (ei bJ (aO (ai [] (ab 0)) (aO (ai [] (ab 1)) tN)))) (dF [] (dH jA (be (aS (ei dh (aO (ai [] (ab 0)) (aO (ai [] (ab 1)) tN)))) cW))))
theorem QH (E:Gl G){bJ:aK}(fL:FnG G k "need_points_and_way" bJ){dh:aK}(oE:FnG G k "pairs_by_places" dh):ESs G k ⟨ye,(aa gB).names,[],false,false,false,λ_ _=>False⟩ (ag gB) (yf bJ dh):=(am (bq (aJ fL (af (aw (ae 0)) (af (aw (ae 1)) ax)))) (az (aV (cw xq E.z_sorted (aA (ba (aJ oE (af (aw (ae 0)) (af (aw (ae 1)) ax)))) aU) (by decide +kernel)))))
abbrev gD:Stmt:=eN 21
abbrev yg:List Str:=["points","way","bound"]
theorem IL:FnScope yg ["points","way","bound"] (aa gD):=⟨rfl,rfl,rfl,by decide +kernel,rfl,by decide +kernel,by decide +kernel⟩
def yh (bJ:aK)(oF:aK)(dh:aK):br:=(bn (jt (ei bJ (aO (ai [] (ab 0)) (aO (ai [] (ab 1)) tN)))) (bn (jt (ei oF (aO (ai [] (ab 2)) tN))) (dF [] (bU [] [none,none,none,some 2] (bB (ai [] (aS (ei dh (aO (ai [] (ab 0)) (aO (ai [] (ab 1)) tN)))))) (FK 3 (gC (dI 0) (gC (dI 1) (gC (dI 2) FJ)))) (aZ UK (ab 0) (ab 3)) (ai [] (vN (aO (ai [] (ab 1)) (aO (ai [] (ab 2)) tN))))))))
theorem QI (E:Gl G){bJ:aK}(fL:FnG G k "need_points_and_way" bJ){oF:aK}(yi:FnG G k "need_bound" oF){dh:aK}(oE:FnG G k "pairs_by_places" dh):ESs G k ⟨yg,(aa gD).names,[],false,false,false,λ_ _=>False⟩ (ag gD) (yh bJ oF dh):=(am (bq (aJ fL (af (aw (ae 0)) (af (aw (ae 1)) ax)))) (am (bq (aJ yi (af (aw (ae 2)) ax))) (az (aV (cC (N':=["far","i","j","bound"]) (cD (aw (ba (aJ oE (af (aw (ae 0)) (af (aw (ae 1)) ax)))))) ⟨rfl,by first|decide +kernel | (dsimp only[au,ak];decide +kernel),by first|decide +kernel | (dsimp only[au,ak];decide +kernel),by first|decide +kernel | (dsimp only[au,ak];decide +kernel),by first|decide +kernel | (dsimp only[au,ak];decide +kernel),rfl,by first|decide +kernel | (dsimp only[au,ak];decide +kernel)⟩ (qb (bW (aP 0) (bW (aP 1) (bW (aP 2) ki)))) (FL (aQ UL (ae 0) (ae 3))) (aw (fX (af (aw (ae 1)) (af (aw (ae 2)) ax)))))))))
abbrev oG:Stmt:=eN 23
abbrev IM:List Str:=["points","way","point","places"]
theorem QJ:FnScope IM ["points","way","point","places"] (aa oG):=⟨rfl,rfl,rfl,by decide +kernel,rfl,by decide +kernel,by decide +kernel⟩
def IO (dR:aK):br:=(dF [] (oX (Ef (aS (bU [] [none,some 1,some 2,some 0] (bB (ai [] (ab 3))) (dI 0) bF (ai [] (vN (aO (ai [] (aS (ei dR (aO (ai [] (ab 1)) (aO (ai [] (ab 2)) (aO (ai [] (dZ (ab 3) (ab 0))) tN)))))) (aO (ai [] (ab 0)) tN)))))) (ai [] (aY .non)))))
theorem Vt (E:Gl G){dR:aK}(my:FnG G k "far_between" dR):ESs G k ⟨IM,(aa oG).names,[],false,false,false,λ_ _=>False⟩ (ag oG) (IO dR):=(az (aV (iX (FN (ba (cC (N':=["place","way","point","points"]) (cD (aw (ae 3))) ⟨rfl,by first|decide +kernel | (dsimp only[au,ak];decide +kernel),by first|decide +kernel | (dsimp only[au,ak];decide +kernel),by first|decide +kernel | (dsimp only[au,ak];decide +kernel),by first|decide +kernel | (dsimp only[au,ak];decide +kernel),rfl,by first|decide +kernel | (dsimp only[au,ak];decide +kernel)⟩ (aP 0) cz (aw (fX (af (aw (ba (aJ my (af (aw (ae 1)) (af (aw (ae 2)) (af (aw (bS (ae 3) (ae 0))) ax)))))) (af (aw (ae 0)) ax)))))) (aw iY) E.z_min))))
abbrev oH:Stmt:=eN 24
abbrev IP:List Str:=["points","way","place","others"]
theorem QK:FnScope IP ["points","way","place"] (aa oH):=⟨rfl,rfl,rfl,by decide +kernel,rfl,by decide +kernel,by decide +kernel⟩
def IQ (ug:aK):br:=(bn (cU [] 3 (bU [] [none,some 2] (nD (be (aS (dH eE (be (ab 0) cW))) cW)) (dI 0) (aZ vo (ab 0) (ab 1)) (ai [] (ab 0)))) (dF [] (ei ug (aO (ai [] (ab 0)) (aO (ai [] (ab 1)) (aO (ai [] (dZ (ab 0) (ab 2))) (aO (ai [] (ab 3)) tN)))))))
theorem Vu (E:Gl G){ug:aK}(IR:FnG G k "nearest_among" ug):ESs G k ⟨IP,(aa oH).names,[],false,false,false,λ_ _=>False⟩ (ag oH) (IQ ug):=(am (nH 3 (N':=["other","place"]) (iu (aA (ba (cw eF E.z_len (aA (ae 0) aU) (by decide +kernel))) aU) E.z_range) ⟨rfl,by first|decide +kernel | (dsimp only[au,ak];decide +kernel),by first|decide +kernel | (dsimp only[au,ak];decide +kernel),by first|decide +kernel | (dsimp only[au,ak];decide +kernel),by first|decide +kernel | (dsimp only[au,ak];decide +kernel),rfl,by first|decide +kernel | (dsimp only[au,ak];decide +kernel)⟩ (aP 0) (FL (aQ jW (ae 0) (ae 1))) (aw (ae 0))) (az (aV (aJ IR (af (aw (ae 0)) (af (aw (ae 1)) (af (aw (bS (ae 0) (ae 2))) (af (aw (ae 3)) ax))))))))
abbrev gE:Stmt:=eN 25
abbrev yj:List Str:=["points","way"]
theorem IT:FnScope yj ["points","way"] (aa gE):=⟨rfl,rfl,rfl,by decide +kernel,rfl,by decide +kernel,by decide +kernel⟩
def yk (bJ:aK)(dh:aK):br:=(bn (jt (ei bJ (aO (ai [] (ab 0)) (aO (ai [] (ab 1)) tN)))) (dF [] (oX (Ef (aS (ei dh (aO (ai [] (ab 0)) (aO (ai [] (ab 1)) tN)))) (ai [] (aY .non))))))
theorem QL (E:Gl G){bJ:aK}(fL:FnG G k "need_points_and_way" bJ){dh:aK}(oE:FnG G k "pairs_by_places" dh):ESs G k ⟨yj,(aa gE).names,[],false,false,false,λ_ _=>False⟩ (ag gE) (yk bJ dh):=(am (bq (aJ fL (af (aw (ae 0)) (af (aw (ae 1)) ax)))) (az (aV (iX (FN (ba (aJ oE (af (aw (ae 0)) (af (aw (ae 1)) ax)))) (aw iY) E.z_min)))))
abbrev gF:Stmt:=eN 26
abbrev ym:List Str:=["points","way","place"]
theorem IU:FnScope ym ["points","way","place"] (aa gF):=⟨rfl,rfl,rfl,by decide +kernel,rfl,by decide +kernel,by decide +kernel⟩
def yn (bJ:aK)(oI:aK)(gG:aK):br:=(bn (jt (ei bJ (aO (ai [] (ab 0)) (aO (ai [] (ab 1)) tN)))) (bn (jt (ei oI (aO (ai [] (ab 0)) (aO (ai [] (ab 2)) tN)))) (dF [] (ei gG (aO (ai [] (ab 0)) (aO (ai [] (ab 1)) (aO (ai [] (ab 2)) tN)))))))
theorem QM (E:Gl G){bJ:aK}(fL:FnG G k "need_points_and_way" bJ){oI:aK}(yo:FnG G k "need_place" oI){gG:aK}(vD:FnG G k "nearest_other" gG):ESs G k ⟨ym,(aa gF).names,[],false,false,false,λ_ _=>False⟩ (ag gF) (yn bJ oI gG):=(am (bq (aJ fL (af (aw (ae 0)) (af (aw (ae 1)) ax)))) (am (bq (aJ yo (af (aw (ae 0)) (af (aw (ae 2)) ax)))) (az (aV (aJ vD (af (aw (ae 0)) (af (aw (ae 1)) (af (aw (ae 2)) ax))))))))
abbrev gH:Stmt:=eN 27
abbrev yp:List Str:=["points","way"]
theorem IV:FnScope yp ["points","way"] (aa gH):=⟨rfl,rfl,rfl,by decide +kernel,rfl,by decide +kernel,by decide +kernel⟩
def yq (bJ:aK)(gG:aK):br:=(bn (jt (ei bJ (aO (ai [] (ab 0)) (aO (ai [] (ab 1)) tN)))) (dF [] (bU [] [none,some 0,some 1] (nD (be (aS (dH eE (be (ab 0) cW))) cW)) (dI 0) bF (ai [] (aS (ei gG (aO (ai [] (ab 1)) (aO (ai [] (ab 2)) (aO (ai [] (ab 0)) tN)))))))))
theorem QN (E:Gl G){bJ:aK}(fL:FnG G k "need_points_and_way" bJ){gG:aK}(vD:FnG G k "nearest_other" gG):ESs G k ⟨yp,(aa gH).names,[],false,false,false,λ_ _=>False⟩ (ag gH) (yq bJ gG):=(am (bq (aJ fL (af (aw (ae 0)) (af (aw (ae 1)) ax)))) (az (aV (cC (N':=["place","points","way"]) (iu (aA (ba (cw eF E.z_len (aA (ae 0) aU) (by decide +kernel))) aU) E.z_range) ⟨rfl,by first|decide +kernel | (dsimp only[au,ak];decide +kernel),by first|decide +kernel | (dsimp only[au,ak];decide +kernel),by first|decide +kernel | (dsimp only[au,ak];decide +kernel),by first|decide +kernel | (dsimp only[au,ak];decide +kernel),rfl,by first|decide +kernel | (dsimp only[au,ak];decide +kernel)⟩ (aP 0) cz (aw (ba (aJ vD (af (aw (ae 1)) (af (aw (ae 2)) (af (aw (ae 0)) ax))))))))))
abbrev oJ:Stmt:=cu (eN 29) 0
abbrev IW:List Str:=["self","way","count"]
theorem QO:FnScope IW ["self","way","count"] (aa oJ):=⟨rfl,rfl,rfl,by decide +kernel,rfl,by decide +kernel,by decide +kernel⟩
def IX (dP:aK)(dQ:aK):br:=(bn (jt (ei dP (aO (ai [0] (ab 2)) tN))) (bn (jt (ei dQ (aO (ai [0] (ab 1)) tN))) (bn (Ui 0 "way" (ab 1)) (bn (Ui 0 "count" (ab 2)) (bn (Vm 0) (Vn 0 (aY (.int 0))))))))
theorem Vv (E:Gl G){dP:aK}(mw:FnG G k "need_count" dP){dQ:aK}(mx:FnG G k "need_way" dQ):ESs G k ⟨IW,(aa oJ).names,[0],false,false,false,λ_ _=>False⟩ (ag oJ) (IX dP dQ):=(am (bq (aJ mw (af (aw (ae 2)) ax))) (am (bq (aJ mx (af (aw (ae 1)) ax))) (am (xP 0 E.kg (ae 1) (nZ 0)) (am (xP 0 E.kg (ae 2) (nZ 0)) (am (Ix 0 E.kg) (az (Fb 0 E.kg aq (nZ 0))))))))
abbrev gI:Stmt:=cu (eN 29) 1
abbrev yr:List Str:=["self","point","name"]
theorem IY:FnScope yr ["self","point"] (aa gI):=⟨rfl,rfl,rfl,by decide +kernel,rfl,by decide +kernel,by decide +kernel⟩
def yt (gv:aK):br:=(bn (jt (ei gv (aO (ai [0] (ab 1)) (aO (ai [0] (Ir "count" (dA 0))) tN)))) (bn (cU [0] 2 (oX (Ir "ever_put" (dA 0)))) (bn (Vi 0 (ab 2) (ai [0] (ab 1))) (bn (Vj 0 (aS (bi fj (ab 2) (aY (.int 1))))) (dF [0] (oX (ab 2)))))))
theorem QP (E:Gl G){gv:aK}(vC:FnG G k "need_as_many_numbers" gv):ESs G k ⟨yr,(aa gI).names,[0],false,false,false,λ_ _=>False⟩ (ag gI) (yt gv):=(am (bq (aJ vC (af (aw (ae 1)) (af (aw (xN E.kg (dM 0))) ax)))) (am (bo 2 (iX (xN E.kg (dM 0)))) (am (Iu 0 E.kg (aw (ae 1)) (ae 2) (nZ 0)) (am (EZ 0 E.kg (ba (eD (ae 2) aq)) (nZ 0)) (az (aV (iX (ae 2))))))))
abbrev gJ:Stmt:=cu (eN 29) 2
abbrev yu:List Str:=["self","name"]
theorem IZ:FnScope yu ["self","name"] (aa gJ):=⟨rfl,rfl,rfl,by decide +kernel,rfl,by decide +kernel,by decide +kernel⟩
def yv (di:aK):br:=(bn (jt (Uh (cY di) 0 (mv (ai [0] (ab 1)) hZ))) (Vk 0 (ab 1)))
theorem QQ (E:Gl G){di:aK}(oK:FnMt G k "need_name" (cY di)):ESs G k ⟨yu,(aa gJ).names,[0],false,false,false,λ_ _=>False⟩ (ag gJ) (yv di):=(am (bq (ou true 0 oK E.kg (eo (aw (ae 1)) cj))) (az (Iv 0 E.kg (ae 1) (nZ 0))))
abbrev gK:Stmt:=cu (eN 29) 3
abbrev yw:List Str:=["self"]
theorem Ja:FnScope yw ["self"] (aa gK):=⟨rfl,rfl,rfl,by decide +kernel,rfl,by decide +kernel,by decide +kernel⟩
def yx:br:=(dF [] (dH kH (be (Po (ai [] (ab 0))) cW)))
theorem QR (E:Gl G):ESs G k ⟨yw,(aa gK).names,[],false,false,false,λ_ _=>False⟩ (ag gK) (yx):=(az (aV (cw jB E.z_sorted (aA (EY E.kg (aw (ae 0))) aU) (by decide +kernel))))
abbrev gL:Stmt:=cu (eN 29) 4
abbrev yy:List Str:=["self","name"]
theorem Jb:FnScope yy ["self","name"] (aa gL):=⟨rfl,rfl,rfl,by decide +kernel,rfl,by decide +kernel,by decide +kernel⟩
def yz (di:aK):br:=(bn (jt (oq (cY di) (ai [] (ab 0)) (mv (ai [] (ab 1)) hZ))) (dF [] (oX (oh (Po (ai [] (ab 0))) (ab 1)))))
theorem QS (E:Gl G){di:aK}(oK:FnMt G k "need_name" (cY di)):ESs G k ⟨yy,(aa gL).names,[],false,false,false,λ_ _=>False⟩ (ag gL) (yz di):=(am (bq (kJ oK E.kg (aw (ae 0)) (eo (aw (ae 1)) cj))) (az (aV (iX (kE (EY E.kg (aw (ae 0))) (ae 1))))))
abbrev gM:Stmt:=cu (eN 29) 5
abbrev yA:List Str:=["self","found","names"]
theorem Jc:FnScope yA ["self"] (aa gM):=⟨rfl,rfl,rfl,by decide +kernel,rfl,by decide +kernel,by decide +kernel⟩
def yB (dS:aK)(dj:aK)(bf:aK):br:=(bn (cU [] 1 (ei dS (aO (ai [] (aS (oq (cY dj) (ai [] (ab 0)) hZ))) (aO (ai [] (Ir "way" (ab 0))) tN)))) (bn (ce (aZ Qp (ab 1) (aY .non)) (dF [] (oX (aY .non))) jr) (bn (cU [] 2 (oq (cY bf) (ai [] (ab 0)) hZ)) (dF [] (oX (vN (aO (ai [] (dZ (ab 1) (aY (.int 0)))) (aO (ai [] (dZ (ab 2) (dZ (ab 1) (aY (.int 1))))) (aO (ai [] (dZ (ab 2) (dZ (ab 1) (aY (.int 2))))) tN)))))))))
theorem QT (E:Gl G){dS:aK}(mB:FnG G k "nearest_two" dS){dj:aK}(oM:FnMt G k "plain_points" (cY dj)){bf:aK}(cP:FnMt G k "names" (cY bf)):ESs G k ⟨yA,(aa gM).names,[],false,false,false,λ_ _=>False⟩ (ag gM) (yB dS dj bf):=(am (bo 1 (aJ mB (af (aw (ba (dn oM E.kg (aw (ae 0))))) (af (aw (xN E.kg (ae 0))) ax)))) (am (cK (aQ Hz (ae 1) iY) (az (aV (iX iY))) bQ) (am (bo 2 (dn cP E.kg (aw (ae 0)))) (az (aV (iX (fX (af (aw (bS (ae 1) aq)) (af (aw (bS (ae 2) (bS (ae 1) aq))) (af (aw (bS (ae 2) (bS (ae 1) aq))) ax))))))))))
abbrev oN:Stmt:=cu (eN 29) 6
abbrev Jd:List Str:=["self","name","names","found"]
theorem QU:FnScope Jd ["self","name"] (aa oN):=⟨rfl,rfl,rfl,by decide +kernel,rfl,by decide +kernel,by decide +kernel⟩
def Je (di:aK)(bf:aK)(oO:aK)(dj:aK):br:=(bn (jt (oq (cY di) (ai [] (ab 0)) (mv (ai [] (ab 1)) hZ))) (bn (cU [] 2 (oq (cY bf) (ai [] (ab 0)) hZ)) (bn (cU [] 3 (ei oO (aO (ai [] (aS (oq (cY dj) (ai [] (ab 0)) hZ))) (aO (ai [] (Ir "way" (ab 0))) (aO (ai [] (tIdx (ab 2) (ai [] (ab 1)))) tN))))) (bn (ce (aZ Qp (ab 3) (aY .non)) (dF [] (oX (aY .non))) jr) (dF [] (oX (vN (aO (ai [] (dZ (ab 3) (aY (.int 0)))) (aO (ai [] (dZ (ab 2) (dZ (ab 3) (aY (.int 1))))) tN)))))))))
theorem Vw (E:Gl G){di:aK}(oK:FnMt G k "need_name" (cY di)){bf:aK}(cP:FnMt G k "names" (cY bf)){oO:aK}(yC:FnG G k "nearest_of" oO){dj:aK}(oM:FnMt G k "plain_points" (cY dj)):ESs G k ⟨Jd,(aa oN).names,[],false,false,false,λ_ _=>False⟩ (ag oN) (Je di bf oO dj):=(am (bq (kJ oK E.kg (aw (ae 0)) (eo (aw (ae 1)) cj))) (am (bo 2 (dn cP E.kg (aw (ae 0)))) (am (bo 3 (aJ yC (af (aw (ba (dn oM E.kg (aw (ae 0))))) (af (aw (xN E.kg (ae 0))) (af (aw (EF (ae 2) (aw (ae 1)))) ax))))) (am (cK (aQ Hz (ae 3) iY) (az (aV (iX iY))) bQ) (az (aV (iX (fX (af (aw (bS (ae 3) aq)) (af (aw (bS (ae 2) (bS (ae 3) aq))) ax))))))))))
abbrev gN:Stmt:=cu (eN 29) 7
abbrev yD:List Str:=["self","bound","names"]
theorem Jf:FnScope yD ["self","bound"] (aa gN):=⟨rfl,rfl,rfl,by decide +kernel,rfl,by decide +kernel,by decide +kernel⟩
def yE (bf:aK)(dU:aK)(dj:aK):br:=(bn (cU [] 2 (oq (cY bf) (ai [] (ab 0)) hZ)) (dF [] (bU [] [none,none,some 2] (bB (ai [] (aS (ei dU (aO (ai [] (aS (oq (cY dj) (ai [] (ab 0)) hZ))) (aO (ai [] (Ir "way" (ab 0))) (aO (ai [] (ab 1)) tN))))))) (FK 2 (gC (dI 0) (gC (dI 1) FJ))) bF (ai [] (vN (aO (ai [] (dZ (ab 2) (ab 0))) (aO (ai [] (dZ (ab 2) (ab 1))) tN)))))))
theorem QV (E:Gl G){bf:aK}(cP:FnMt G k "names" (cY bf)){dU:aK}(mC:FnG G k "near_pairs" dU){dj:aK}(oM:FnMt G k "plain_points" (cY dj)):ESs G k ⟨yD,(aa gN).names,[],false,false,false,λ_ _=>False⟩ (ag gN) (yE bf dU dj):=(am (bo 2 (dn cP E.kg (aw (ae 0)))) (az (aV (cC (N':=["i","j","names"]) (cD (aw (ba (aJ mC (af (aw (ba (dn oM E.kg (aw (ae 0))))) (af (aw (xN E.kg (ae 0))) (af (aw (ae 1)) ax))))))) ⟨rfl,by first|decide +kernel | (dsimp only[au,ak];decide +kernel),by first|decide +kernel | (dsimp only[au,ak];decide +kernel),by first|decide +kernel | (dsimp only[au,ak];decide +kernel),by first|decide +kernel | (dsimp only[au,ak];decide +kernel),rfl,by first|decide +kernel | (dsimp only[au,ak];decide +kernel)⟩ (qb (bW (aP 0) (bW (aP 1) ki))) cz (aw (fX (af (aw (bS (ae 2) (ae 0))) (af (aw (bS (ae 2) (ae 1))) ax))))))))
abbrev oP:Stmt:=cu (eN 29) 8
abbrev Jg:List Str:=["self","name"]
theorem QW:FnScope Jg ["self","name"] (aa oP):=⟨rfl,rfl,rfl,by decide +kernel,rfl,by decide +kernel,by decide +kernel⟩
def Jh:br:=(ce (aZ EM (ab 1) (Po (ai [] (ab 0)))) pZ jr)
theorem Vy (E:Gl G):ESs G k ⟨Jg,(aa oP).names,[],false,false,false,λ_ _=>False⟩ (ag oP) (Jh):=(az (cK (aQ Ic (ae 1) (EY E.kg (aw (ae 0)))) (az eX) bQ))
abbrev oQ:Stmt:=cu (eN 29) 9
abbrev Ji:List Str:=["self"]
theorem QX:FnScope Ji ["self"] (aa oQ):=⟨rfl,rfl,rfl,by decide +kernel,rfl,by decide +kernel,by decide +kernel⟩
def Jj (bf:aK):br:=(dF [] (bU [] [none,some 0] (bB (ai [] (aS (oq (cY bf) (ai [] (ab 0)) hZ)))) (dI 0) bF (ai [] (oh (Po (ai [] (ab 1))) (ab 0)))))
theorem Vz (E:Gl G){bf:aK}(cP:FnMt G k "names" (cY bf)):ESs G k ⟨Ji,(aa oQ).names,[],false,false,false,λ_ _=>False⟩ (ag oQ) (Jj bf):=(az (aV (cC (N':=["name","self"]) (cD (aw (ba (dn cP E.kg (aw (ae 0)))))) ⟨rfl,by first|decide +kernel | (dsimp only[au,ak];decide +kernel),by first|decide +kernel | (dsimp only[au,ak];decide +kernel),by first|decide +kernel | (dsimp only[au,ak];decide +kernel),by first|decide +kernel | (dsimp only[au,ak];decide +kernel),rfl,by first|decide +kernel | (dsimp only[au,ak];decide +kernel)⟩ (aP 0) cz (aw (kE (EY E.kg (aw (ae 1))) (ae 0))))))
abbrev gO:Stmt:=eN 31
abbrev yF:List Str:=["leasts","i","j","low","high"]
theorem Jk:FnScope yF ["leasts","i","j"] (aa gO):=⟨rfl,rfl,rfl,by decide +kernel,rfl,by decide +kernel,by decide +kernel⟩
def yG:br:=(bn (cU [] 3 (dH pY (be (dZ (ab 0) (ab 1)) (be (dZ (ab 0) (ab 2)) cW)))) (bn (cU [] 4 (dH pX (be (dZ (ab 0) (ab 1)) (be (dZ (ab 0) (ab 2)) cW)))) (dF [] (bU [] [none,some 3,some 4] (bB (ai [] (ab 0))) (dI 0) bF (ai [] (tIfE (aZ DR (ab 0) (ab 2)) (ab 1) (ab 0)))))))
theorem QY (E:Gl G):ESs G k ⟨yF,(aa gO).names,[],false,false,false,λ_ _=>False⟩ (ag gO) (yG):=(am (bo 3 (cw wE E.z_min (aA (bS (ae 0) (ae 1)) (aA (bS (ae 0) (ae 2)) aU)) (by decide +kernel))) (am (bo 4 (cw wD E.z_max (aA (bS (ae 0) (ae 1)) (aA (bS (ae 0) (ae 2)) aU)) (by decide +kernel))) (az (aV (cC (N':=["least","low","high"]) (cD (aw (ae 0))) ⟨rfl,by first|decide +kernel | (dsimp only[au,ak];decide +kernel),by first|decide +kernel | (dsimp only[au,ak];decide +kernel),by first|decide +kernel | (dsimp only[au,ak];decide +kernel),by first|decide +kernel | (dsimp only[au,ak];decide +kernel),rfl,by first|decide +kernel | (dsimp only[au,ak];decide +kernel)⟩ (aP 0) cz (aw (Qt (aQ vp (ae 0) (ae 2)) (ae 1) (ae 0))))))))
abbrev gP:Stmt:=eN 32
abbrev yH:List Str:=["points","way","leasts","tree","far","i","j"]
theorem Jl:FnScope yH ["points","way"] (aa gP):=⟨rfl,rfl,rfl,by decide +kernel,rfl,by decide +kernel,by decide +kernel⟩
def yI (oS:aK)(eO:aK):br:=(bn (cU [] 2 (UR (be (aS (dH eE (be (ab 0) cW))) cW))) (bn (cU [] 3 (HD tN)) (bn (eG (bB (ai [] (aS (ei oS (aO (ai [] (ab 0)) (aO (ai [] (ab 1)) tN)))))) (FK 3 (gC (dI 4) (gC (dI 5) (gC (dI 6) FJ)))) (ce (aZ vo (dZ (ab 2) (ab 5)) (dZ (ab 2) (ab 6))) (bn (cU [] 2 (ei eO (aO (ai [] (ab 2)) (aO (ai [] (ab 5)) (aO (ai [] (ab 6)) tN))))) (jt (wG (ab 3) (ai [] (vN (aO (ai [] (ab 4)) (aO (ai [] (ab 5)) (aO (ai [] (ab 6)) tN)))))))) jr)) (dF [] (oX (ab 3))))))
theorem QZ (E:Gl G){oS:aK}(yJ:FnG G k "all_pairs" oS){eO:aK}(yK:FnG G k "joined" eO):ESs G k ⟨yH,(aa gP).names,[],false,false,false,λ_ _=>False⟩ (ag gP) (yI oS eO):=(am (bo 2 (HR (aA (ba (cw eF E.z_len (aA (ae 0) aU) (by decide +kernel))) aU) E.z_list E.z_range)) (am (bo 3 (tJ ax)) (am (qe (cD (aw (ba (aJ yJ (af (aw (ae 0)) (af (aw (ae 1)) ax)))))) (qb (bW (aP 4) (bW (aP 5) (bW (aP 6) ki)))) (az (cK (aQ jW (bS (ae 2) (ae 5)) (bS (ae 2) (ae 6))) (am (bo 2 (aJ yK (af (aw (ae 2)) (af (aw (ae 5)) (af (aw (ae 6)) ax))))) (az (bq (qa (ae 3) (aw (fX (af (aw (ae 4)) (af (aw (ae 5)) (af (aw (ae 6)) ax))))))))) bQ))) (az (aV (iX (ae 3)))))))
abbrev gQ:Stmt:=eN 34
abbrev yL:List Str:=["pot","many","cell","stir"]
theorem Jm:FnScope yL ["pot","many"] (aa gQ):=⟨rfl,rfl,rfl,by decide +kernel,rfl,by decide +kernel,by decide +kernel⟩
def yM:br:=(bn (qJ 0 (aY (.int 1)) (ai [0] (aS (bi fj (dZ (ab 0) (aY (.int 1))) (aY (.int 1)))))) (bn (cU [0] 2 (oX (dZ (ab 0) (aY (.int 0))))) (bn (ce (aZ Ua (ab 2) (aS (bi pS (aY (.int 10)) (aY (.int 18))))) (bn (qJ 0 (aY (.int 0)) (ai [0] (aS (bi tV (ab 2) (ab 1))))) (dF [0] (bi pR (ab 2) (ab 1)))) jr) (bn (cU [0] 3 (bi pR (aS (bi fj (aS (bi fj (aS (bi jT (ab 2) (aY (.int 69621)))) (aS (bi jT (dZ (ab 0) (aY (.int 1))) (aY (.int 7919)))))) (aY (.int 13)))) (aY (.int 2147483647)))) (bn (cU [0] 3 (bi pR (aS (bi jT (ab 3) (ab 3))) (aY (.int 2147483629)))) (dF [0] (bi pR (aS (bi tV (aS (bi pR (aS (bi fj (aS (bi jT (ab 3) (aY (.int 48271)))) (aS (bi jT (dZ (ab 0) (aY (.int 1))) (aY (.int 40692)))))) (aY (.int 2147483587)))) (aY (.int 8)))) (ab 1))))))))
theorem Ra (E:Gl G):ESs G k ⟨yL,(aa gQ).names,[0],false,false,false,λ_ _=>False⟩ (ag gQ) (yM):=(am (sG 0 (aw (ba (eD (bS (ae 0) aq) aq))) aq (ae 0)) (am (bo 2 (iX (bS (ae 0) aq))) (am (cK (aQ Qo (ae 2) (ba (lL aq aq))) (am (sG 0 (aw (ba (tW (ae 2) (ae 1)))) aq (ae 0)) (az (aV (lK (ae 2) (ae 1))))) bQ) (am (bo 3 (lK (ba (eD (ba (eD (ba (jU (ae 2) aq)) (ba (jU (bS (ae 0) aq) aq)))) aq)) aq)) (am (bo 3 (lK (ba (jU (ae 3) (ae 3))) aq)) (az (aV (lK (ba (tW (ba (lK (ba (eD (ba (jU (ae 3) aq)) (ba (jU (bS (ae 0) aq) aq)))) aq)) aq)) (ae 1)))))))))
abbrev gR:Stmt:=eN 35
abbrev FQ:List Str:=["script"]
theorem Jn:FnScope FQ ["script"] (aa gR):=⟨rfl,rfl,rfl,by decide +kernel,rfl,by decide +kernel,by decide +kernel⟩
theorem Rb (E:Gl G):EPots G k ⟨FQ,(aa gR).names,[],false,false,false,λ_ _=>False⟩ (ag gR):=HZ (N':=["cell"]) rfl (aQ vp (ba (cw eF E.z_len (aA (ae 0) aU) (by decide +kernel))) aq) (af (aw aq) (af (aw aq) ax)) (cD (aw (ba (wC (ae 0) jX (jY aq))))) ⟨rfl,by first|decide +kernel | (dsimp only[au,ak];decide +kernel),by first|decide +kernel | (dsimp only[au,ak];decide +kernel),by first|decide +kernel | (dsimp only[au,ak];decide +kernel),by first|decide +kernel | (dsimp only[au,ak];decide +kernel),rfl,by first|decide +kernel | (dsimp only[au,ak];decide +kernel)⟩ (aP 0) (af (aw (ae 0)) (af (aw aq) ax))
abbrev gS:Stmt:=eN 36
abbrev yN:List Str:=["pot"]
theorem Jo:FnScope yN ["pot"] (aa gS):=⟨rfl,rfl,rfl,by decide +kernel,rfl,by decide +kernel,by decide +kernel⟩
def yO (bm:kA):br:=(dF [0] (oX (dZ (aS (HD (aO (ai [0] (aY (.str "streets"))) (aO (ai [0] (aY (.str "squares"))) tN)))) (aS (fI bm 0 (aO (ai [0] (aY (.int 2))) tN))))))
theorem Rc (E:Gl G){bm:kA}(cl:FnIo G k "_law_next" bm):ESs G k ⟨yN,(aa gS).names,[0],false,false,false,λ_ _=>False⟩ (ag gS) (yO bm):=(az (aV (iX (bS (ba (tJ (af (aw tI) (af (aw tI) ax)))) (ba (bw cl (ae 0) (af (aw aq) ax)))))))
abbrev gT:Stmt:=eN 37
abbrev yP:List Str:=["pot","count","own","some","kind","at"]
theorem Jp:FnScope yP ["pot","count","own"] (aa gT):=⟨rfl,rfl,rfl,by decide +kernel,rfl,by decide +kernel,by decide +kernel⟩
def yQ (bm:kA):br:=(bn (cU [0] 3 (fc [0] [none,some 0] 0 1 (nD (be (ab 1) cW)) (dI 0) bF (ai [1] (aS (fI bm 1 (aO (ai [1] (aY (.int 5))) tN)))))) (bn (cU [0] 4 (fI bm 0 (aO (ai [0] (aY (.int 4))) tN))) (bn (ce (aZ DR (ab 4) (aY (.int 1))) (cU [0] 3 (fc [0] [none,some 0] 0 1 (nD (be (ab 1) cW)) (dI 0) bF (ai [1] (aS (bi fj (aS (bi pQ (aS (fI bm 1 (aO (ai [1] (aS (bi pQ (aS (bi jT (aY (.int 2)) (aS (bi pS (aY (.int 10)) (aY (.int 15)))))) (aY (.int 1))))) tN))) (aS (bi pS (aY (.int 10)) (aY (.int 15)))))) (aY (.int 1))))))) jr) (bn (ce (pT (aZ Qn (ab 4) (aY (.int 1))) (sQ true (ab 2))) (bn (cU [0] 3 (dH lV (be (oh (ab 2) (dZ (aS (dH kH (be (ab 2) cW))) (aS (fI bm 0 (aO (ai [0] (aS (dH vA (be (ab 2) cW)))) tN))))) cW))) (bn (cU [0] 5 (fI bm 0 (aO (ai [0] (ab 1)) tN))) (qJ 3 (ab 5) (ai [0] (aS (dH pX (be (aS (bi pQ (aY (.int 1)) (aS (bi pS (aY (.int 10)) (aY (.int 15)))))) (be (aS (dH pY (be (aS (bi pQ (aS (bi pS (aY (.int 10)) (aY (.int 15)))) (aY (.int 1)))) (be (aS (bi pQ (aS (bi fj (dZ (ab 3) (ab 5)) (aS (fI bm 0 (aO (ai [0] (aY (.int 3))) tN))))) (aY (.int 1)))) cW)))) cW)))))))) jr) (dF [0] (dH ip (be (ab 3) cW)))))))
theorem Re (E:Gl G){bm:kA}(cl:FnIo G k "_law_next" bm):ESs G k ⟨yP,(aa gT).names,[0],false,false,false,λ_ _=>False⟩ (ag gT) (yQ bm):=(am (qK 3 0 1 (N':=["k","pot"]) (iu (aA (ae 1) aU) E.z_range) ⟨rfl,by first|decide +kernel | (dsimp only[au,ak];decide +kernel),by first|decide +kernel | (dsimp only[au,ak];decide +kernel),by first|decide +kernel | (dsimp only[au,ak];decide +kernel),by first|decide +kernel | (dsimp only[au,ak];decide +kernel),rfl,by first|decide +kernel | (dsimp only[au,ak];decide +kernel)⟩ (aP 0 (hn:=by first|decide | (dsimp only;decide) | (dsimp only[au,ak];decide))) cz (aw (ba (bw cl (ae 1) (af (aw aq) ax))))) (am (bo 4 (bw cl (ae 0) (af (aw aq) ax))) (am (cK (aQ vp (ae 4) aq) (az (qK 3 0 1 (N':=["k","pot"]) (iu (aA (ae 1) aU) E.z_range) ⟨rfl,by first|decide +kernel | (dsimp only[au,ak];decide +kernel),by first|decide +kernel | (dsimp only[au,ak];decide +kernel),by first|decide +kernel | (dsimp only[au,ak];decide +kernel),by first|decide +kernel | (dsimp only[au,ak];decide +kernel),rfl,by first|decide +kernel | (dsimp only[au,ak];decide +kernel)⟩ (aP 0 (hn:=by first|decide | (dsimp only;decide) | (dsimp only[au,ak];decide))) cz (aw (ba (eD (ba (lJ (ba (bw cl (ae 1) (af (aw (ba (lJ (ba (jU aq (ba (lL aq aq)))) aq))) ax))) (ba (lL aq aq)))) aq))))) bQ) (am (cK (FG (wz (aQ Hy (ae 4) aq) (sB (Ii (ae 2))))) (am (bo 3 (HE HF E.z_list (aA (kE (ae 2) (bS (ba (cw jB E.z_sorted (aA (ae 2) aU) (by decide +kernel))) (ba (bw cl (ae 0) (af (aw (ba (cw sP E.z_len (aA (ae 2) aU) (by decide +kernel)))) ax))))) aU) (by decide +kernel))) (am (bo 5 (bw cl (ae 0) (af (aw (ae 1)) ax))) (az (sG 3 (aw (ba (cw wD E.z_max (aA (ba (lJ aq (ba (lL aq aq)))) (aA (ba (cw wE E.z_min (aA (ba (lJ (ba (lL aq aq)) aq)) (aA (ba (lJ (ba (eD (bS (ae 3) (ae 5)) (ba (bw cl (ae 0) (af (aw aq) ax))))) aq)) aU)) (by decide +kernel))) aU)) (by decide +kernel)))) (ae 5) (ae 3))))) bQ) (az (aV (HE tK E.z_tuple (aA (ae 3) aU) (by decide +kernel))))))))
abbrev gU:Stmt:=eN 38
abbrev yR:List Str:=["names","pair"]
theorem Jq:FnScope yR ["names","pair"] (aa gU):=⟨rfl,rfl,rfl,by decide +kernel,rfl,by decide +kernel,by decide +kernel⟩
def yS:br:=(bn (ce (aZ Qp (ab 1) (aY .non)) (dF [] (oX (aY .non))) jr) (dF [] (bi fj (vN (aO (ai [] (dZ (ab 1) (aY (.int 0)))) tN)) (aS (dH ip (be (aS (bU [] [none,some 0] (bB (ai [] (aS (pW (ab 1) (FI (aY (.int 1))) FH)))) (dI 0) bF (ai [] (dZ (ab 1) (ab 0))))) cW))))))
theorem Rf (E:Gl G):ESs G k ⟨yR,(aa gU).names,[],false,false,false,λ_ _=>False⟩ (ag gU) (yS):=(am (cK (aQ Hz (ae 1) iY) (az (aV (iX iY))) bQ) (az (aV (eD (fX (af (aw (bS (ae 1) aq)) ax)) (ba (HE tK E.z_tuple (aA (ba (cC (N':=["place","names"]) (cD (aw (ba (wC (ae 1) (jY aq) jX)))) ⟨rfl,by first|decide +kernel | (dsimp only[au,ak];decide +kernel),by first|decide +kernel | (dsimp only[au,ak];decide +kernel),by first|decide +kernel | (dsimp only[au,ak];decide +kernel),by first|decide +kernel | (dsimp only[au,ak];decide +kernel),rfl,by first|decide +kernel | (dsimp only[au,ak];decide +kernel)⟩ (aP 0) cz (aw (bS (ae 1) (ae 0))))) aU) (by decide +kernel)))))))
abbrev oT:Stmt:=eN 39
abbrev Jr:List Str:=["kept","own","way","bound","names","plain","told","tree"]
theorem Rg:FnScope Jr ["kept","own","way","bound"] (aa oT):=⟨rfl,rfl,rfl,by decide +kernel,rfl,by decide +kernel,by decide +kernel⟩
def Js (bf:aK)(oU:aK)(kK:aK)(iI:aK)(dS:aK)(oV:aK)(uh:aK)(oW:aK)(oY:aK)(dU:aK):br:=(bn (cU [] 4 (dH kH (be (ab 1) cW))) (bn (cU [] 5 (bU [] [none,some 1] (bB (ai [] (ab 4))) (dI 0) bF (ai [] (oh (ab 1) (ab 0))))) (bn (ce (pU (aZ vo (aS (oq (cY bf) (ai [] (ab 0)) hZ)) (ab 4)) (aZ vo (aS (bU [] [none,some 0] (bB (ai [] (ab 4))) (dI 0) bF (ai [] (aS (oq (cY oU) (ai [] (ab 1)) (mv (ai [] (ab 0)) hZ)))))) (ab 5))) (dF [] (oX (aY (.bl false)))) jr) (bn (ce (aZ vo (aS (oq (cY kK) (ai [] (ab 0)) hZ)) (aS (ei iI (aO (ai [] (ab 4)) (aO (ai [] (aS (ei dS (aO (ai [] (ab 5)) (aO (ai [] (ab 2)) tN))))) tN))))) (dF [] (oX (aY (.bl false)))) jr) (bn (cU [] 6 (ei oV (aO (ai [] (ab 5)) (aO (ai [] (ab 2)) tN)))) (bn (ce (aZ vo (aS (bU [] [none,some 0] (bB (ai [] (ab 4))) (dI 0) bF (ai [] (aS (oq (cY uh) (ai [] (ab 1)) (mv (ai [] (ab 0)) hZ)))))) (aS (bU [] [none,some 4] (bB (ai [] (ab 6))) (dI 0) bF (ai [] (aS (ei iI (aO (ai [] (ab 1)) (aO (ai [] (ab 0)) tN)))))))) (dF [] (oX (aY (.bl false)))) jr) (bn (cU [] 7 (bU [] [none,some 4] (bB (ai [] (aS (pW (aS (ei oW (aO (ai [] (ab 5)) (aO (ai [] (ab 2)) tN)))) FH (FI (aY (.int 1))))))) (dI 0) bF (ai [] (aS (ei iI (aO (ai [] (ab 1)) (aO (ai [] (ab 0)) tN))))))) (bn (ce (aZ vo (ab 7) (aS (pW (aS (HD (aO (ai [] (aS (oq (cY kK) (ai [] (ab 0)) hZ))) tN))) FH (FI (aS (dH eE (be (ab 7) cW))))))) (dF [] (oX (aY (.bl false)))) jr) (dF [] (oX (bV (aZ DR (aS (oq (cY oY) (ai [] (ab 0)) (mv (ai [] (ab 3)) hZ))) (aS (bU [] [none,none,some 4] (bB (ai [] (aS (ei dU (aO (ai [] (ab 5)) (aO (ai [] (ab 2)) (aO (ai [] (ab 3)) tN))))))) (FK 2 (gC (dI 0) (gC (dI 1) FJ))) bF (ai [] (vN (aO (ai [] (dZ (ab 2) (ab 0))) (aO (ai [] (dZ (ab 2) (ab 1))) tN))))))))))))))))))
theorem VA (E:Gl G){bf:aK}(cP:FnMt G k "names" (cY bf)){oU:aK}(yT:FnMt G k "point" (cY oU)){kK:aK}(uk:FnMt G k "two" (cY kK)){iI:aK}(qY:FnG G k "_law_named" iI){dS:aK}(mB:FnG G k "nearest_two" dS){oV:aK}(yU:FnG G k "nearest_all" oV){uh:aK}(Jt:FnMt G k "nearest" (cY uh)){oW:aK}(yV:FnG G k "least_tree" oW){oY:aK}(yW:FnMt G k "near" (cY oY)){dU:aK}(mC:FnG G k "near_pairs" dU):ESs G k ⟨Jr,(aa oT).names,[],false,false,false,λ_ _=>False⟩ (ag oT) (Js bf oU kK iI dS oV uh oW oY dU):=(am (bo 4 (cw jB E.z_sorted (aA (ae 1) aU) (by decide +kernel))) (am (nH 5 (N':=["name","own"]) (cD (aw (ae 4))) ⟨rfl,by first|decide +kernel | (dsimp only[au,ak];decide +kernel),by first|decide +kernel | (dsimp only[au,ak];decide +kernel),by first|decide +kernel | (dsimp only[au,ak];decide +kernel),by first|decide +kernel | (dsimp only[au,ak];decide +kernel),rfl,by first|decide +kernel | (dsimp only[au,ak];decide +kernel)⟩ (aP 0) cz (aw (kE (ae 1) (ae 0)))) (am (cK (FG (wA (aQ jW (ba (dn cP E.kg (aw (ae 0)))) (ae 4)) (pV (aQ jW (ba (cC (N':=["name","kept"]) (cD (aw (ae 4))) ⟨rfl,by first|decide +kernel | (dsimp only[au,ak];decide +kernel),by first|decide +kernel | (dsimp only[au,ak];decide +kernel),by first|decide +kernel | (dsimp only[au,ak];decide +kernel),by first|decide +kernel | (dsimp only[au,ak];decide +kernel),rfl,by first|decide +kernel | (dsimp only[au,ak];decide +kernel)⟩ (aP 0) cz (aw (ba (kJ yT E.kg (aw (ae 1)) (eo (aw (ae 0)) cj)))))) (ae 5))))) (az (aV (iX nw))) bQ) (am (cK (aQ jW (ba (dn uk E.kg (aw (ae 0)))) (ba (aJ qY (af (aw (ae 4)) (af (aw (ba (aJ mB (af (aw (ae 5)) (af (aw (ae 2)) ax))))) ax))))) (az (aV (iX nw))) bQ) (am (bo 6 (aJ yU (af (aw (ae 5)) (af (aw (ae 2)) ax)))) (am (cK (aQ jW (ba (cC (N':=["name","kept"]) (cD (aw (ae 4))) ⟨rfl,by first|decide +kernel | (dsimp only[au,ak];decide +kernel),by first|decide +kernel | (dsimp only[au,ak];decide +kernel),by first|decide +kernel | (dsimp only[au,ak];decide +kernel),by first|decide +kernel | (dsimp only[au,ak];decide +kernel),rfl,by first|decide +kernel | (dsimp only[au,ak];decide +kernel)⟩ (aP 0) cz (aw (ba (kJ Jt E.kg (aw (ae 1)) (eo (aw (ae 0)) cj)))))) (ba (cC (N':=["pair","names"]) (cD (aw (ae 6))) ⟨rfl,by first|decide +kernel | (dsimp only[au,ak];decide +kernel),by first|decide +kernel | (dsimp only[au,ak];decide +kernel),by first|decide +kernel | (dsimp only[au,ak];decide +kernel),by first|decide +kernel | (dsimp only[au,ak];decide +kernel),rfl,by first|decide +kernel | (dsimp only[au,ak];decide +kernel)⟩ (aP 0) cz (aw (ba (aJ qY (af (aw (ae 1)) (af (aw (ae 0)) ax)))))))) (az (aV (iX nw))) bQ) (am (nH 7 (N':=["pair","names"]) (cD (aw (ba (wC (ba (aJ yV (af (aw (ae 5)) (af (aw (ae 2)) ax)))) jX (jY aq))))) ⟨rfl,by first|decide +kernel | (dsimp only[au,ak];decide +kernel),by first|decide +kernel | (dsimp only[au,ak];decide +kernel),by first|decide +kernel | (dsimp only[au,ak];decide +kernel),by first|decide +kernel | (dsimp only[au,ak];decide +kernel),rfl,by first|decide +kernel | (dsimp only[au,ak];decide +kernel)⟩ (aP 0) cz (aw (ba (aJ qY (af (aw (ae 1)) (af (aw (ae 0)) ax)))))) (am (cK (aQ jW (ae 7) (ba (wC (ba (tJ (af (aw (ba (dn uk E.kg (aw (ae 0))))) ax))) jX (jY (ba (cw eF E.z_len (aA (ae 7) aU) (by decide +kernel))))))) (az (aV (iX nw))) bQ) (az (aV (iX (Qm vp (ba (kJ yW E.kg (aw (ae 0)) (eo (aw (ae 3)) cj))) (ba (cC (N':=["one","other","names"]) (cD (aw (ba (aJ mC (af (aw (ae 5)) (af (aw (ae 2)) (af (aw (ae 3)) ax))))))) ⟨rfl,by first|decide +kernel | (dsimp only[au,ak];decide +kernel),by first|decide +kernel | (dsimp only[au,ak];decide +kernel),by first|decide +kernel | (dsimp only[au,ak];decide +kernel),by first|decide +kernel | (dsimp only[au,ak];decide +kernel),rfl,by first|decide +kernel | (dsimp only[au,ak];decide +kernel)⟩ (qb (bW (aP 0) (bW (aP 1) ki))) cz (aw (fX (af (aw (bS (ae 2) (ae 0))) (af (aw (bS (ae 2) (ae 1))) ax))))))))))))))))))
abbrev eh:Stmt:=eN 40
abbrev yX:List Str:=["script","pot","way","count","kept","second","own","others","coming","turn","name"]
theorem Ju:FnScope yX ["script"] (aa eh):=⟨rfl,rfl,rfl,by decide +kernel,rfl,by decide +kernel,by decide +kernel⟩
def yY (oZ:kA)(bm:kA)(qZ:Dl)(pc:kA)(kL:jo)(pd:jo)(kM:aK):br:=(bn (tX (aO (ai [] (aS (pW (ab 0) FH (FI (aY (.int 2)))))) tN) (HW 1) (bn (cU [] 2 (fI oZ 1 tN)) (bn (cU [] 3 (bi fj (aY (.int 1)) (aS (fI bm 1 (aO (ai [] (aY (.int 3))) tN))))) (bn (cU [] 4 (Uj qZ (aO (ai [] (ab 2)) (aO (ai [] (ab 3)) tN)))) (bn (cU [] 5 (Uj qZ (aO (ai [] (aY (.str "streets"))) (aO (ai [] (ab 3)) tN)))) (bn (cU [] 6 EL) (bn (cU [] 7 EL) (bn (cU [] 8 (oX (aY (.int 0)))) (bn (eG (nD (be (aS (fI bm 1 (aO (ai [] (aY (.int 31))) tN))) cW)) (dI 9) (bn (ce (pU (sQ false (dA 6)) (aZ Qn (aS (fI bm 1 (aO (ai [] (aY (.int 3))) tN))) (aY (.int 0)))) (bn (xG 6 (ab 8) (ai [] (aS (Io (VQ pc) (Vg 1 (mv (ai [] (ab 3)) (xJ 6 hZ))))))) (bn (ce (aZ vo (aS (Pp kL 4 (mv (ai [] (oh (dA 6) (ab 8))) hZ))) (ab 8)) (dF [] (oX (aY (.bl false)))) jr) (bn (xG 7 (aS (dH vA (be (dA 7) cW))) (ai [] (oh (dA 6) (ab 8)))) (bn (jt (Pp kL 5 (mv (ai [] (oh (dA 6) (ab 8))) hZ))) (cU [] 8 (bi fj (ab 8) (aY (.int 1)))))))) (bn (cU [] 10 (oX (dZ (aS (dH kH (be (dA 6) cW))) (aS (fI bm 1 (aO (ai [] (aS (dH vA (be (dA 6) cW)))) tN)))))) (bn (Ij 6 (ab 10)) (jt (Pp pd 4 (mv (ai [] (ab 10)) hZ)))))) (ce (pT (aZ DR (aS (bi pR (ab 9) (aY (.int 9)))) (aY (.int 4))) (lN (vq (aS (Io (cY kM) (xJ 4 (xJ 6 (mv (ai [] (ab 2)) (mv (ai [] (aS (fI bm 1 (aO (ai [] (aY (.int 20))) tN)))) hZ))))))))) (dF [] (oX (aY (.bl false)))) jr))) (bn (ce (pU (lN (vq (aS (Io (cY kM) (xJ 4 (xJ 6 (mv (ai [] (ab 2)) (mv (ai [] (aY (.int 1))) hZ)))))))) (lN (vq (aS (Io (cY kM) (xJ 4 (xJ 6 (mv (ai [] (ab 2)) (mv (ai [] (aS (bi pS (aY (.int 10)) (aY (.int 15))))) hZ))))))))) (dF [] (oX (aY (.bl false)))) jr) (ce (lN (vq (aS (Io (cY kM) (xJ 5 (xJ 7 (mv (ai [] (aY (.str "streets"))) (mv (ai [] (aY (.int 2))) hZ)))))))) (dF [] (oX (aY (.bl false)))) jr))))))))))) (dF [] (oX (aY (.bl true)))))
theorem Rh (E:Gl G)(yZ:FnPots G k "_law_pots"){oZ:kA}(za:FnIo G k "_law_way" oZ){bm:kA}(cl:FnIo G k "_law_next" bm){qZ:Dl}(Fd:FnIn G k qZ){pc:kA}(zb:FnIo G k "_law_point" pc){kL:jo}(ul:FnMt G k "put" kL){pd:jo}(zc:FnMt G k "take" pd){kM:aK}(vE:FnG G k "_law_as_plain" kM):ESs G k ⟨yX,(aa eh).names,[],false,false,false,λ_ _=>False⟩ (ag eh) (yY oZ bm qZ pc kL pd kM):=(am (HY 1 yZ (af (aw (ba (wC (ae 0) jX (jY aq)))) ax) (am (bo 2 (bw za (ae 1) ax)) (am (bo 3 (eD aq (ba (bw cl (ae 1) (af (aw aq) ax))))) (am (bo 4 (xQ Fd (af (aw (ae 2)) (af (aw (ae 3)) ax)))) (am (bo 5 (xQ Fd (af (aw tI) (af (aw (ae 3)) ax)))) (am (bo 6 tZ) (am (bo 7 tZ) (am (bo 8 (iX aq)) (am (qe (iu (aA (ba (bw cl (ae 1) (af (aw aq) ax))) aU) E.z_range) (aP 9) (am (cK (FG (wA (Ih (dM 6)) (pV (aQ Hy (ba (bw cl (ae 1) (af (aw aq) ax))) aq)))) (am (ua 6 (aw (ba (gp zb.mu (Vh 1 (eo (aw (ae 3)) (ol 6 cj)))))) (ae 8) (nZ 6)) (am (cK (aQ jW (ba (ou false 4 ul E.kg (eo (aw (kE (dM 6) (ae 8))) cj))) (ae 8)) (az (aV (iX nw))) bQ) (am (ua 7 (aw (kE (dM 6) (ae 8))) (ba (cw sP E.z_len (aA (dM 7) aU) (by decide +kernel))) (nZ 7)) (am (bq (ou false 5 ul E.kg (eo (aw (kE (dM 6) (ae 8))) cj))) (az (bo 8 (eD (ae 8) aq))))))) (am (bo 10 (iX (bS (ba (cw jB E.z_sorted (aA (dM 6) aU) (by decide +kernel))) (ba (bw cl (ae 1) (af (aw (ba (cw sP E.z_len (aA (dM 6) aU) (by decide +kernel)))) ax)))))) (am (EQ 6 (ae 10) (nZ 6)) (az (bq (ou false 4 zc E.kg (eo (aw (ae 10)) cj))))))) (az (cK (FG (wz (aQ vp (ba (lK (ae 9) aq)) aq) (sB (nA (nz (ba (gp vE.mu (ol 4 (ol 6 (eo (aw (ae 2)) (eo (aw (ba (bw cl (ae 1) (af (aw aq) ax)))) cj))))))))))) (az (aV (iX nw))) bQ)))) (am (cK (FG (wA (nA (nz (ba (gp vE.mu (ol 4 (ol 6 (eo (aw (ae 2)) (eo (aw aq) cj)))))))) (pV (nA (nz (ba (gp vE.mu (ol 4 (ol 6 (eo (aw (ae 2)) (eo (aw (ba (lL aq aq))) cj))))))))))) (az (aV (iX nw))) bQ) (az (cK (nA (nz (ba (gp vE.mu (ol 5 (ol 7 (eo (aw tI) (eo (aw aq) cj)))))))) (az (aV (iX nw))) bQ)))))))))))) (az (aV (iX nw))))

end
section
set_option hygiene false
local macro_rules|`(tactic| walk_at "vx")=>`(tactic| ((try simp only[aB,startIo,List.map_cons,List.map_nil,List.length_cons,List.length_nil,List.replicate_succ,List.replicate_zero,List.cons_append,List.nil_append,Nat.reduceAdd,Nat.reduceSub]);(try dsimp only[bn,Vc.tIfE,Vc.tIdx,jr,pZ,ce,jt,dF,cU,Uc,wG,HG,tL,aS,oX,TZ,VH,fU,fV,ai,ab,aY,drf,drfs,bi,fj,pQ,jT,pR,pS,Pm,DN,aZ,bV,DR,vo,Hv,Hw,UK,Qn,Ua,isNone,Qp,HA,vq,pT,pU,lN,dZ,FH,FI,Ub,pW,tN,aO,HD,vN,cW,be,dH,eE,DT,pX,pY,lV,ip,bE,ei,dI,FJ,gC,FK,bB,nD,DW,eG,bF,bU,qg,cy,ja,Uf,HM,UR,jA,tV,Vc.ix2_0,Vc.ix2_1,Vc.ixN2_0,Vc.ixN2_1,sI,startIo,xr,qJ,fI,fc,jg,wU,Ef,EH,dA,EL,oh,Vf,EM,vA,sQ,xG,Ij,kH,Io,jj,cE,xI,aX,ji,ud,VR,Il,Pn,lp,hZ,mv,Vg,xJ,oq,Uh,Pp,Ir,Po,Vi,Vj,Vk,Ui,Vm,Vn,Uj,startMu,gq,Dk,MuGet,aB,List.getElem?_cons_zero,List.getElem?_cons_succ,List.getElem?_nil,List.set_cons_zero,List.set_cons_succ,List.map_cons,List.map_nil,List.length_cons,List.length_nil,List.replicate_succ,List.replicate_zero,List.cons_append,List.nil_append,Nat.reduceAdd,Nat.reduceSub]);try simp only[List.append_nil,Nat.add_sub_cancel,Nat.zero_add,List.not_mem_nil,not_false_eq_true,true_and,and_true,decide_eq_true_eq,ite_true,ite_false,Bool.not_eq_true',decide_eq_false_iff_not,List.getElem?_cons_zero,List.getElem?_cons_succ]))
local macro_rules|`(tactic| walk_at "vc")=>`(tactic| repeat (refine And.intro (by first|assumption|decide|omega | (unfold CMul;omega) | (unfold Uz;omega) | (unfold mW;omega)) ?_))
local macro_rules|`(tactic| walk_at "vg")=>`(tactic| simp only[dI,FK,gC,FJ,List.length_cons,List.length_nil,Nat.reduceAdd,Nat.zero_add,true_and,List.set_cons_zero,List.set_cons_succ,Int.zero_add])
local macro_rules|`(tactic| walk_at "vd")=>`(tactic| walk_at "vx")
set_option hygiene true

variable [KF]
def aW (b:Bool):Str:=if b=true then "squares" else "streets"
def bX (b:Bool):D:=.str (aW b)
def cZ (p:List Int):D:=.tup (p.map D.int)
def Bd (p:List Int):Prop:=p.length<=3/\∀ x∈p,-(2^60) < x/\x < 2^60
def sV (x:Int):Int:=if x < 0 then -x else x
def Rj (b:Bool)(x y:Int):Int:=if b=true then sV (x - y)*sV (x - y) else sV (x - y)
def zd (b:Bool)(p q:List Int):Int:=((p.zip q).map λxy=>Rj b xy.1 xy.2).sum
def kN:aK:=λds Q=>∃ b p q,ds=[bX b,cZ p,cZ q]/\Bd p/\Bd q/\Q (.sh (.int (zd b p q)))
theorem sW (b:Bool):bv 8 (bX b)=true:=by cases b<;>decide +kernel
theorem kO:bv 8 (.str "streets")=true:=by decide +kernel
theorem sX:bv 8 (.str "squares")=true:=by decide +kernel
theorem jk (b:Bool):fk (bX b) (.str "streets")=!b:=by cases b<;>decide +kernel
theorem rc (b:Bool):fk (bX b) (.str "squares")=b:=by cases b<;>decide +kernel
theorem sz:sizeLine=2^24:=rfl
theorem um {p q:List Int}(h:Bd p):(p.zip q).length<=3:=by
 rw[List.length_zip];have:=h.1;omega
theorem uo {α:Type}(l:List α)(f:α->Int):(l.map λa=>D.int (f a)).all isInt=true:=by
 rw[List.all_map];exact List.all_eq_true.mpr λ_ _=>rfl
theorem re {α:Type}(l:List α)(f:α->Int):(l.map λa=>D.int (f a)).map nK=l.map f:=by
 rw[List.map_map];rfl
theorem Rl (ds:List D)(Q:B->Prop)(h:kN ds Q):yd { nx:=λ_=>Q (.sh .non),rt:=λb _=>Q b } (aB yc.length ds):=by
 obtain⟨b,p,q,rfl,hp,hq,h⟩:=h;unfold yd cZ;walk_at "vx";rw[wW];refine bO (λp=>.tup [.int p.1,.int p.2]) (λxy:Int×Int=>D.int (sV (xy.1 - xy.2))) _ (λxy hxy A ha=>?_) (by have:=um (q:=q) hp;rw[sz];omega) ?_
 ·walk_at "vx"
  exact ha
 ·walk_at "vx"
  rw[jk];refine⟨⟨sW b,kO⟩,?_⟩;cases b with
  | false =>
   refine (if_pos rfl).mpr ?_;refine⟨uo _ _,?_⟩;rw[re];exact h
  | true =>
   refine (if_neg (by decide)).mpr ?_
   rw[show (List.map (λxy:Int×Int=>D.int (sV (xy.1 - xy.2))) (p.zip q))=(List.map (λxy:Int×Int=>(sV (xy.1 - xy.2))) (p.zip q)).map D.int from by rw[List.map_map];rfl]
   refine bO D.int (λd:Int=>D.int (d*d)) _ (λd hd A ha=>?_) (by have:=um (q:=q) hp;rw[sz,List.length_map];omega) ?_
   ·walk_at "vx"
    refine⟨?_,ha⟩;obtain⟨xy,hxy,rfl⟩:=List.mem_map.mp hd;have h1:=hp.2 _ (List.of_mem_zip hxy).1;have h2:=hq.2 _ (List.of_mem_zip hxy).2;unfold CMul sV;left
    split<;>omega
   ·walk_at "vx"
    refine⟨uo _ _,?_⟩;rw[re,List.map_map];exact h
def Good (n:Nat)(pts:List (List Int)):Prop:=(1<=n/\n<=3)/\∀ p∈pts,p.length=n/\∀ x∈p,-(2^59) < x/\x < 2^59
theorem Good.bd {n:Nat}{pts:List (List Int)}(g:Good n pts){p:List Int}(h:p∈pts):Bd p:=⟨by have:=(g.2 p h).1;have:=g.1.2;omega,λx hx=>by have:=(g.2 p h).2 x hx;omega⟩
theorem iJ {n i a:Nat}(h:(List.range n)[i]?=some a):a=i/\i < n:=by
 have hi:i < n:=by
  have:=(List.getElem?_eq_some_iff.mp h).1
  rwa [List.length_range] at this
 rw[List.getElem?_range hi] at h;cases h;exact⟨rfl,hi⟩

def dC (pts:List (List Int)):D:=.lst (pts.map cZ)
theorem gW {pts:List (List Int)}{j:Nat}(h:j < pts.length):(pts.map cZ)[j]?=some (cZ (pts.getD j [])):=by
 rw[List.getElem?_map,List.getD_eq_getElem?_getD,List.getElem?_eq_getElem h];rfl
theorem eP {pts:List (List Int)}{j:Nat}(h:j < pts.length):pts.getD j []∈pts:=by
 rw[List.getD_eq_getElem?_getD,List.getElem?_eq_getElem h];exact List.getElem_mem h
def ze (n:Nat)(pts:List (List Int)):Prop:=(1<=n/\n<=3)/\∀ p∈pts,p.length=n
theorem Good.shape {n:Nat}{pts:List (List Int)}(g:Good n pts):ze n pts:=⟨g.1,λp hp=>(g.2 p hp).1⟩
def fe:aK:=λds Q=>∃ c:Int,ds=[.int c]/\1<=c/\c<=3/\Q (.sh .non)
theorem zf (ds:List D)(Q:B->Prop)(h:fe ds Q):xS { nx:=λ_=>Q (.sh .non),rt:=λb _=>Q b } (aB xR.length ds):=by
 obtain⟨c,rfl,h1,h2,h⟩:=h;unfold xS;walk_at "vx";rw[if_neg (by omega),if_neg (by omega)]
 exact h
def pe:aK:=λds Q=>∃ (p:List Int) (c:Int),ds=[cZ p,.int c]/\(p.length:Int)=c/\Q (.sh .non)
theorem Rm (ds:List D)(Q:B->Prop)(h:pe ds Q):IA { nx:=λ_=>Q (.sh .non),rt:=λb _=>Q b } (aB Iz.length ds):=by
 obtain⟨p,c,rfl,rfl,h⟩:=h;unfold IA cZ;walk_at "vx";rw[List.length_map];refine⟨⟨rfl,rfl⟩,?_⟩;have e:fk (.int (p.length:Nat)) (.int (p.length:Nat))=true:=by simp [fk]
 rw[if_neg (by rw[e];decide)]
 exact h
def ph:aK:=λds Q=>∃ n pts,ds=[dC pts]/\ze n pts/\Q (.sh .non)
theorem Jv (ds:List D)(Q:B->Prop)(h:ph ds Q):xU fe pe { nx:=λ_=>Q (.sh .non),rt:=λb _=>Q b } (aB xT.length ds):=by
 obtain⟨n,pts,rfl,hg,h⟩:=h;unfold xU dC;walk_at "vx";refine ge cZ pts (λi σ=>∃ x,σ=[some (.sh (.lst (pts.map cZ))),x]) (λi p σ N' hx hI hN'=>?_) (λσ hI=>h) ⟨none,rfl⟩;obtain⟨x,rfl⟩:=hI;have hp:=hg.2 p (List.mem_of_getElem? hx);have h1:=hg.1;have h0:0 < pts.length:=Nat.lt_of_le_of_lt (Nat.zero_le _) (List.getElem?_eq_some_iff.mp hx).1;have h00:=hg.2 _ (eP h0);walk_at "vg";refine aj λN2 hN2=>?_;rw[show cZ p=.tup (p.map D.int) from rfl]
 walk_at "vx";rw[List.length_map];refine⟨_,rfl,by omega,by omega,?_⟩
 walk_at "vx";subst hN2;walk_at "vx";refine aC (n:=0) rfl (gW h0) ?_;rw[show cZ (pts.getD 0 [])=.tup ((pts.getD 0 []).map D.int) from rfl]
 walk_at "vx";rw[List.length_map];refine⟨p,_,rfl,by rw[hp,h00],?_⟩
 exact hN' _ ⟨_,rfl⟩
def jE:aK:=λds Q=>∃ b,ds=[bX b]/\Q (.sh .non)
theorem Jw (ds:List D)(Q:B->Prop)(h:jE ds Q):xW { nx:=λ_=>Q (.sh .non),rt:=λb _=>Q b } (aB xV.length ds):=by
 obtain⟨b,rfl,h⟩:=h;unfold xW;walk_at "vx";refine⟨⟨sW b,kO⟩,?_⟩;rw[jk];cases b with
 | false=>exact h
 | true =>
  refine (if_pos rfl).mpr ⟨⟨sW true,sX⟩,?_⟩;rw[rc];exact h
def fM:aK:=λds Q=>∃ n b pts,ds=[dC pts,bX b]/\ze n pts/\Q (.sh .non)
theorem Rn (ds:List D)(Q:B->Prop)(h:fM ds Q):IE ph jE { nx:=λ_=>Q (.sh .non),rt:=λb _=>Q b } (aB ID.length ds):=by
 obtain⟨n,b,pts,rfl,hg,h⟩:=h;unfold IE;walk_at "vx";refine⟨n,pts,rfl,hg,?_⟩;walk_at "vx";exact⟨b,rfl,h⟩

theorem uq (i:Int):fk (.int i) (.int i)=true:=by simp [fk]
theorem ff:∀ p:List Int,jm (p.map D.int) (p.map D.int)=true
 | []=>rfl
 | x::p=>by
  show (fk (.int x) (.int x)&&jm (p.map D.int) (p.map D.int))=true;rw[uq,ff p];rfl
theorem rh:∀ pts:List (List Int),jm (pts.map cZ) (pts.map cZ)=true
 | []=>rfl
 | p::pts=>by
  show (jm (p.map D.int) (p.map D.int)&&jm (pts.map cZ) (pts.map cZ))=true;rw[ff p,rh pts];rfl
theorem Fe (pts:List (List Int)):fk (.lst (pts.map cZ)) (.lst (pts.map cZ))=true:=rh pts
theorem Jx (pts:List (List Int)):bv 8 (.lst (pts.map cZ))=true:=by
 show (pts.map cZ).all (bv 7)=true;rw[List.all_map];refine List.all_eq_true.mpr λp _=>?_;show (p.map D.int).all (bv 6)=true;rw[List.all_map];exact List.all_eq_true.mpr λ_ _=>rfl
def gX (b:Bool)(pts:List (List Int))(i j:Nat):D:=.tup [.int (zd b (pts.getD i []) (pts.getD j [])),.int i,.int j]
def lq (b:Bool)(pts:List (List Int))(i m:Nat):List D:=(List.range m).map λt=>gX b pts i (i+1+t)
def gY (b:Bool)(pts:List (List Int)):Nat->List D
 | 0=>[]
 | i+1=>gY b pts i++lq b pts i (pts.length - (i+1))
def bM (b:Bool)(pts:List (List Int)):List D:=gY b pts pts.length
theorem rm (b:Bool)(pts:List (List Int))(i m:Nat):(lq b pts i m).length=m:=by unfold lq;rw[List.length_map,List.length_range]
theorem vF (b:Bool)(pts:List (List Int))(i m:Nat):lq b pts i (m+1)=lq b pts i m++[gX b pts i (i+1+m)]:=by unfold lq;rw[List.range_succ,List.map_append];rfl
theorem mD (b:Bool)(pts:List (List Int)):∀ i,(gY b pts i).length<=i*pts.length
 | 0=>Nat.zero_le _
 | i+1=>by
  have ih:=mD b pts i;show (gY b pts i++lq b pts i (pts.length - (i+1))).length<=_;rw[List.length_append,rm,Nat.succ_mul];omega
theorem ur {b:Bool}{pts:List (List Int)}{i:Nat}(hl:pts.length<=1000)(hi:i<=pts.length):(gY b pts i).length<=1000000 :=
 Nat.le_trans (mD b pts i) (Nat.mul_le_mul (show i<=1000 by omega) hl)
theorem gZ {b:Bool}{pts:List (List Int)}(hl:pts.length<=1000):(bM b pts).length<=1000000:=ur hl (Nat.le_refl _)
theorem rn {b:Bool}{pts:List (List Int)}:∀ {i:Nat} {d:D},d∈gY b pts i->∃ p q,p < i/\p < q/\(i<=pts.length->q < pts.length)/\d=gX b pts p q
 | i+1,d,h=>by
  rcases List.mem_append.mp (show d∈gY b pts i++lq b pts i (pts.length - (i+1)) from h) with h|h
  ·obtain⟨p,q,h1,h2,h3,h4⟩:=rn h
   exact⟨p,q,by omega,h2,λz=>h3 (by omega),h4⟩
  ·obtain⟨t,ht,rfl⟩:=List.mem_map.mp h
   have ht:=List.mem_range.mp ht;exact⟨i,i+1+t,by omega,by omega,λz=>by omega,rfl⟩
theorem cG {b:Bool}{pts:List (List Int)}{d:D}(h:d∈bM b pts):∃ p q,p < q/\q < pts.length/\d=gX b pts p q:=by
 obtain⟨p,q,h1,h2,h3,h4⟩:=rn h;exact⟨p,q,h2,h3 (Nat.le_refl _),h4⟩
theorem fO (b:Bool)(pts:List (List Int)):(bM b pts).all fq=true:=List.all_eq_true.mpr λd hd=>by
 obtain⟨p,q,_,_,rfl⟩:=cG hd;rfl
def eQ:aK:=λds Q=>∃ b n pts,ds=[dC pts,bX b]/\Good n pts/\pts.length<=1000/\Q (.own (bM b pts))
def nu (sp:aK)(rest:br):br:=(bn (cU [] 2 (HD tN)) (bn (eG (nD (be (aS (dH eE (be (ab 0) cW))) cW)) (dI 3) (eG (DW (be (aS (bi fj (ab 3) (aY (.int 1)))) (be (aS (dH eE (be (ab 0) cW))) cW))) (dI 4) (jt (wG (ab 2) (ai [] (vN (aO (ai [] (aS (ei sp (aO (ai [] (ab 1)) (aO (ai [] (dZ (ab 0) (ab 3))) (aO (ai [] (dZ (ab 0) (ab 4))) tN)))))) (aO (ai [] (ab 3)) (aO (ai [] (ab 4)) tN))))))))) rest))
theorem zg {b:Bool}{n:Nat}{pts:List (List Int)}{rest:br}{De:EndsD}(hg:Good n pts)(hl:pts.length<=1000)(h:∀ x3 x4,rest De [some (.sh (dC pts)),some (.sh (bX b)),some (.own (bM b pts)),x3,x4]) :
  nu kN rest De [some (.sh (dC pts)),some (.sh (bX b)),none,none,none]:=by
 unfold nu;refine aj λN hN=>?_;walk_at "vx";refine⟨by decide,?_⟩
 subst hN;refine aj λN hN=>?_;rw[show dC pts=.lst (pts.map cZ) from rfl]
 walk_at "vx";rw[List.length_map,Int.toNat_natCast,cA];refine⟨by omega,ge (λi:Nat=>.int (0+(i:Nat))) (List.range pts.length) (λi σ=>∃ x3 x4,σ=[some (.sh (.lst (pts.map cZ))),some (.sh (bX b)),some (.own (gY b pts i)),x3,x4]) (λi a σ N' hx hI hN'=>?_) (λσ hI=>?_) ⟨none,none,rfl⟩⟩
 ·obtain⟨rfl,hi⟩:=iJ hx
  obtain⟨x3,x4,rfl⟩:=hI;walk_at "vg";walk_at "vx";rw[List.length_map,cA];refine⟨by omega,?_⟩
  rw[show ((pts.length:Int) - ((a:Int)+1)).toNat=pts.length - (a+1) by omega]
  refine ge (λt:Nat=>.int ((a:Int)+1+(t:Nat))) (List.range (pts.length - (a+1))) (λm σ=>∃ x4,σ=[some (.sh (.lst (pts.map cZ))),some (.sh (bX b)),some (.own (gY b pts a++lq b pts a m)),some (.sh (.int a)),x4]) (λm t σ N2 hx2 hI2 hN2=>?_) (λσ hI2=>?_) ⟨x4,by rw[show lq b pts a 0=[] from rfl,List.append_nil]⟩
  ·obtain⟨rfl,ht⟩:=iJ hx2
   obtain⟨x4,rfl⟩:=hI2;walk_at "vx";have hj:a+1+t < pts.length:=by omega
   refine⟨⟨_,rfl⟩,?_⟩;refine aC (n:=a) rfl (gW hi) ?_;refine aC (n:=a+1+t) (by omega) (gW hj) ?_
   walk_at "vx";refine⟨b,_,_,rfl,hg.bd (eP hi),hg.bd (eP hj),?_⟩;walk_at "vx";have hz:=ur (b:=b) hl (show a<=pts.length by omega)
   refine⟨by decide,by rw[sz,List.length_append,rm];omega,hN2 _ ⟨some (.sh (.int ((a:Int)+1+(t:Int)))),?_⟩⟩
   rw[vF,List.append_assoc];unfold gX;rw[show ((a+1+t:Nat):Int)=(a:Int)+1+(t:Int) by omega]
  ·obtain⟨x4,rfl⟩:=hI2
   rw[List.length_range];exact hN' _ ⟨some (.sh (.int a)),x4,rfl⟩
 ·obtain⟨x3,x4,rfl⟩:=hI
  subst hN;rw[List.length_range];exact h x3 x4
theorem Ff (ds:List D)(Q:B->Prop)(h:eQ ds Q):QG kN { nx:=λ_=>Q (.sh .non),rt:=λb _=>Q b } (aB IJ.length ds):=by
 obtain⟨b,n,pts,rfl,hg,hl,h⟩:=h;exact zg hg hl λx3 x4=>by walk_at "vx";exact h

theorem rp {α:Type}(xs:List α)(k:Nat):cut xs none (some (k:Int))=xs.take k:=by
 unfold cut;rw[HT.sIx_none,HT.sIx_nat,List.drop_zero,Nat.sub_zero]
 by_cases h:k<=xs.length
 ·rw[Nat.min_eq_left h]
 ·rw[Nat.min_eq_right (by omega),List.take_of_length_le (Nat.le_refl _),List.take_of_length_le (by omega)]
theorem mE {xs:List D}(h:xs.all fq=true):jb xs=(eg xs).head?:=by
 have key:∀ (l:List D) (b:D),(∀ x∈l,fq x=true)->fq b=true->∃ m,l.foldl (λb y=>if Dj y b=true then y else b) b=m/\(m=b\/m∈l)/\fq m=true/\kZ m b=true/\∀ x∈l,kZ m x=true:=by
  intro l
  induction l with
  | nil=>intro b _ hb;exact⟨b,rfl,.inl rfl,hb,by unfold kZ;rw[Vs.lx_irrefl];rfl,λx hx=>by cases hx⟩
  | cons y l ih =>
   intro b hl hb;have hy:=hl y (List.mem_cons_self ..);have lt:Dj y b=HT.lexLt (dm y) (dm b):=by
    rw[dg hy,dg hb];rfl
   rw[List.foldl_cons]
   by_cases e:Dj y b=true
   ·rw[if_pos e]
    obtain⟨m,m1,m2,m3,m4,m5⟩:=ih y (λx hx=>hl x (List.mem_cons_of_mem _ hx)) hy;refine⟨m,m1,?_,m3,?_,λx hx=>?_⟩
    ·rcases m2 with rfl|m2
     ·exact .inr (List.mem_cons_self ..)
     ·exact .inr (List.mem_cons_of_mem _ m2)
    ·refine iD m y b m4 ?_
     unfold kZ;rw[lt] at e;cases e2:HT.lexLt (dm b) (dm y) with
     | false=>rfl
     | true=>have:=Vs.lx_trans _ _ _ e e2;rw[Vs.lx_irrefl] at this;cases this
    ·rcases List.mem_cons.mp hx with rfl|hx
     ·exact m4
     ·exact m5 x hx
   ·rw[if_neg e]
    obtain⟨m,m1,m2,m3,m4,m5⟩:=ih b (λx hx=>hl x (List.mem_cons_of_mem _ hx)) hb;refine⟨m,m1,?_,m3,m4,λx hx=>?_⟩
    ·rcases m2 with rfl|m2
     ·exact .inl rfl
     ·exact .inr (List.mem_cons_of_mem _ m2)
    ·rcases List.mem_cons.mp hx with rfl|hx
     ·refine iD m b x m4 ?_
      unfold kZ;rw[lt] at e;simpa using e
     ·exact m5 x hx
 have hp:=cO xs;have hs:=gk xs;cases xs with
 | nil=>rw[List.perm_nil.mp hp];rfl
 | cons x xs =>
  have all:=List.all_eq_true.mp h;obtain⟨m,m1,m2,m3,m4,m5⟩:=key xs x (λy hy=>all y (List.mem_cons_of_mem _ hy)) (all x (List.mem_cons_self ..));have hm:m∈x::xs:=by rcases m2 with rfl|m2;exact List.mem_cons_self ..;exact List.mem_cons_of_mem _ m2
  have hall:∀ y∈x::xs,kZ m y=true:=λy hy=>by
   rcases List.mem_cons.mp hy with rfl|hy
   ·exact m4
   ·exact m5 y hy
  show some _=_;rw[m1];cases e:eg (x::xs) with
  | nil=>rw[e] at hp;exact absurd hp.length_eq (by simp)
  | cons a l =>
   rw[e] at hp hs;have ha:a∈x::xs:=hp.mem_iff.mp (List.mem_cons_self ..);have h1:=hall a ha;have h2:kZ a m=true:=by
    rcases List.mem_cons.mp (hp.mem_iff.mpr hm) with rfl|hm
    ·unfold kZ;rw[Vs.lx_irrefl];rfl
    ·exact (List.pairwise_cons.mp hs).1 m hm
   unfold kZ at h1 h2;simp only[Bool.not_eq_true'] at h1 h2;show some m=some a;rw[dg m3,dg (all a ha),Vs.lx_tri _ _ h2 h1]

def cQ (xs:List D):Prop:=∃ c n:Int,xs=[.int c,.int n]
def hE:kA:=λxs ds Q=>cQ xs/\∃ m:Int,ds=[.int m]/\1<=m/\m < 2^200/\∀ r ys,0<=r->r < m->cQ ys->Q (.sh (.int r)) ys
theorem Jy (xs ds:List D)(Q:B->List D->Prop)(h:hE xs ds Q):yM { nx:=sI Q (.sh .non),rt:=λb σ=>sI Q b σ } (startIo yL.length xs ds):=by
 obtain⟨⟨x,y,rfl⟩,m,rfl,hm,hm2,h⟩:=h;unfold yM;refine aj λN hN=>?_;simp only[startIo];walk_at "vx";refine⟨⟨_,rfl⟩,?_⟩;subst hN;refine aj λN hN=>?_;walk_at "vx";subst hN;refine aj λN hN=>?_;walk_at "vx";refine⟨by unfold mW;decide,?_⟩
 split
 ·refine⟨by unfold tU;omega,⟨_,rfl⟩,by omega,?_⟩
  exact h _ _ (Int.emod_nonneg _ (by omega)) (Int.emod_lt_of_pos _ (by omega)) ⟨_,_,rfl⟩
 ·subst hN
  walk_at "vx";refine⟨by unfold CMul;omega,by unfold CMul;omega,by decide,by unfold CMul;omega,by decide,by unfold CMul;omega,by unfold CMul;omega,by decide,by unfold tU;decide,by omega,?_⟩
  exact h _ _ (Int.emod_nonneg _ (by omega)) (Int.emod_lt_of_pos _ (by omega)) ⟨_,_,rfl⟩
def pj:kA:=λxs ds Q=>cQ xs/\ds=[]/\∀ b ys,cQ ys->Q (.sh (bX b)) ys
theorem Jz (xs ds:List D)(Q:B->List D->Prop)(h:pj xs ds Q):yO hE { nx:=sI Q (.sh .non),rt:=λb σ=>sI Q b σ } (startIo yN.length xs ds):=by
 obtain⟨r0,rfl,h⟩:=h;unfold yO;simp only[startIo];walk_at "vx";refine⟨by decide,⟨_,rfl⟩,r0,2,rfl,by decide,by decide,λr ys h0 h1 r1=>?_⟩
 walk_at "vx";refine sD h0 (by simp only[List.length_cons,List.length_nil];omega) λd hd=>?_
 simp only[List.mem_cons,List.not_mem_nil,or_false] at hd;rcases hd with rfl|rfl
 ·exact h false ys r1
 ·exact h true ys r1
def zh (v:Int):Prop:=-(10^15)<=v/\v<=10^15
def er (b:Bool)(pts:List (List Int)):D:=(jb (bM b pts)).getD .non
def pp:aK:=λds Q=>∃ b n pts,ds=[dC pts,bX b]/\Good n pts/\pts.length<=1000/\Q (.sh (er b pts))
theorem Rp (ds:List D)(Q:B->Prop)(h:pp ds Q):yk fM eQ { nx:=λ_=>Q (.sh .non),rt:=λb _=>Q b } (aB yj.length ds):=by
 obtain⟨b,n,pts,rfl,hg,hl,h⟩:=h;unfold yk;refine aj λN hN=>?_;walk_at "vx";refine⟨n,b,pts,rfl,hg.shape,?_⟩;walk_at "vx";subst hN;walk_at "vx";refine⟨b,n,pts,rfl,hg,hl,?_⟩;walk_at "vx";refine⟨.inr (List.all_eq_true.mpr λd hd=>?_),h⟩;obtain⟨p,q,_,_,rfl⟩:=cG hd;rfl
def hJ (b:Bool)(pts:List (List Int))(p:List Int)(j:Nat):D:=.tup [.int (zd b p (pts.getD j [])),.int j]
def ut (b:Bool)(pts:List (List Int))(p:List Int)(js:List Nat):D:=(jb (js.map (hJ b pts p))).getD .non
def kP:aK:=λds Q=>∃ b n pts p js,ds=[dC pts,bX b,cZ p,.lst (js.map λj:Nat=>.int j)]/\Good n pts/\Bd p/\js.length<=1000/\(∀ j∈js,j < pts.length)/\Q (.sh (ut b pts p js))
theorem Fg (ds:List D)(Q:B->Prop)(h:kP ds Q):IO kN { nx:=λ_=>Q (.sh .non),rt:=λb _=>Q b } (aB IM.length ds):=by
 obtain⟨b,n,pts,p,js,rfl,hg,hp,hl,hj,h⟩:=h;unfold IO dC;walk_at "vx";refine bO (λj:Nat=>.int j) (hJ b pts p) js (λj hm A ha=>?_) (by rw[sz];omega) ?_
 ·walk_at "vx"
  refine aC (n:=j) rfl (gW (hj j hm)) ?_;walk_at "vx";refine⟨b,p,_,rfl,hp,hg.bd (eP (hj j hm)),?_⟩;walk_at "vx";exact⟨by decide,ha⟩
 ·walk_at "vx"
  refine⟨.inr ?_,h⟩;rw[List.all_map];exact List.all_eq_true.mpr λ_ _=>rfl
def eR (n:Nat)(j:Int):List Nat:=(List.range n).filter λi=>decide ((i:Int)≠j)
def cR (b:Bool)(pts:List (List Int))(j:Nat):D:=ut b pts (pts.getD j []) (eR pts.length j)
theorem iK {α β:Type}(p:α->Bool)(f:α->β):∀ l:List α,l.filterMap (λa=>if p a=true then some (f a) else none)=(l.filter p).map f
 | []=>rfl
 | a::l=>by
  cases e:p a with
  | true=>rw[List.filterMap_cons_some (by rw[e];rfl),List.filter_cons_of_pos e,List.map_cons,iK p f l]
  | false=>rw[List.filterMap_cons_none (by rw[e];rfl),List.filter_cons_of_neg (by rw[e];decide),iK p f l]
theorem mF {n i:Nat}{j:Int}(h:i∈eR n j):i < n:=List.mem_range.mp (List.mem_filter.mp h).1
theorem sY (n:Nat)(j:Int):(eR n j).length<=n:=by
 have:=List.length_filter_le (λi:Nat=>decide ((i:Int)≠j)) (List.range n);rw[List.length_range] at this;exact this
def cS:aK:=λds Q=>∃ b n pts j,ds=[dC pts,bX b,.int (j:Nat)]/\Good n pts/\pts.length<=1000/\j < pts.length/\Q (.sh (cR b pts j))
theorem Fh (ds:List D)(Q:B->Prop)(h:cS ds Q):IQ kP { nx:=λ_=>Q (.sh .non),rt:=λb _=>Q b } (aB IP.length ds):=by
 obtain⟨b,n,pts,j,rfl,hg,hl,hj,h⟩:=h;unfold IQ dC;refine aj λN hN=>?_;walk_at "vx";rw[List.length_map,Int.toNat_natCast,cA];refine⟨by omega,ko (λi:Nat=>.int (0+(i:Nat))) (λi:Nat=>if decide ((i:Int)≠(j:Int))=true then some (.int (i:Nat)) else none) _ (λi hm A Bn ha=>?_) (by rw[List.length_range,sz];omega) ?_⟩
 ·walk_at "vx"
  refine⟨⟨rfl,rfl⟩,?_⟩;rw[Int.zero_add]
  by_cases e:i=j
  ·subst e
   have e2:fk (.int (i:Nat)) (.int (i:Nat))=true:=by simp [fk]
   rw[if_neg (by rw[e2];decide)]
   rw[if_neg (by simp)] at ha
   exact ha
  ·have e2:fk (.int (i:Nat)) (.int (j:Nat))=false:=by simp [fk];omega
   rw[if_pos (by rw[e2])]
   rw[if_pos (decide_eq_true (by omega))] at ha
   exact ha
 ·rw[iK]
  walk_at "vx";subst hN;walk_at "vx";refine aC (n:=j) rfl (gW hj) ?_;walk_at "vx";exact⟨b,n,pts,_,eR pts.length j,rfl,hg,hg.bd (eP hj),by have:=sY pts.length j;omega,λi hi=>mF hi,h⟩

def zi (b:Bool)(pts:List (List Int)):List D:=(List.range pts.length).map (cR b pts)
def sZ:aK:=λds Q=>∃ b n pts,ds=[dC pts,bX b]/\Good n pts/\pts.length<=1000/\Q (.own (zi b pts))
theorem Rq (ds:List D)(Q:B->Prop)(h:sZ ds Q):yq fM cS { nx:=λ_=>Q (.sh .non),rt:=λb _=>Q b } (aB yp.length ds):=by
 obtain⟨b,n,pts,rfl,hg,hl,h⟩:=h;unfold yq;refine aj λN hN=>?_;walk_at "vx";refine⟨n,b,pts,rfl,hg.shape,?_⟩;walk_at "vx";subst hN;rw[show dC pts=.lst (pts.map cZ) from rfl]
 walk_at "vx";rw[List.length_map,Int.toNat_natCast,cA];refine⟨by omega,bO (λi:Nat=>.int (0+(i:Nat))) (cR b pts) _ (λi hm A ha=>?_) (by rw[List.length_range,sz];omega) ?_⟩
 ·walk_at "vg"
  walk_at "vx";exact⟨b,n,pts,i,rfl,hg,hl,List.mem_range.mp hm,by walk_at "vx";exact ha⟩
 ·exact h
theorem nL (b:Bool)(pts:List (List Int))(p:List Int):∀ js:List Nat,(js=[]/\ut b pts p js=.non)\/∃ k∈js,ut b pts p js=hJ b pts p k
 | []=>.inl ⟨rfl,rfl⟩
 | j::js=>.inr (by
  show ∃ k∈j::js,(js.map (hJ b pts p)).foldl (λb y=>if Dj y b=true then y else b) (hJ b pts p j)=hJ b pts p k
  have key:∀ (rest:List Nat) (i:Nat),(∀ x∈rest,x∈j::js)->i∈j::js->∃ k∈j::js,(rest.map (hJ b pts p)).foldl (λb y=>if Dj y b=true then y else b) (hJ b pts p i)=hJ b pts p k:=by
   intro rest
   induction rest with
   | nil=>intro i _ hi;exact⟨i,hi,rfl⟩
   | cons x rest ih =>
    intro i hr hi;rw[List.map_cons,List.foldl_cons]
    split
    ·exact ih x (λy hy=>hr y (List.mem_cons_of_mem _ hy)) (hr x (List.mem_cons_self ..))
    ·exact ih i (λy hy=>hr y (List.mem_cons_of_mem _ hy)) hi
  exact key js j (λx hx=>List.mem_cons_of_mem _ hx) (List.mem_cons_self ..))
def JA (n:Nat)(nn:Nat->Option (Int×Nat)):Prop:=∀ i f k,i < n->nn i=some (f,k)->k < n/\(nn k).isSome=true
def Uk:Option (Int×Nat)->D
 | none=>.non
 | some p=>.tup [.int p.1,.int (p.2:Nat)]
theorem tf {n j k:Nat}(h:k∈eR n (j:Int)):k≠j:=by
 have:=(List.mem_filter.mp h).2;have:=of_decide_eq_true this;omega
def Rr:D->Option (Int×Nat)
 | .tup [.int f,.int k]=>some (f,k.toNat)
 | _=>none
theorem zj (o:Option (Int×Nat)):Rr (Uk o)=o:=by
 cases o with
 | none=>rfl
 | some p=>show some (p.1,((p.2:Nat):Int).toNat)=some p;rw[Int.toNat_natCast]
def Fj (b:Bool)(pts:List (List Int))(i:Nat):Option (Int×Nat):=Rr (cR b pts i)
theorem Fk (b:Bool)(pts:List (List Int)):(∀ i,cR b pts i=Uk (Fj b pts i))/\JA pts.length (Fj b pts):=by
 have h1:∀ i,cR b pts i=Uk (Fj b pts i)/\(∀ f k,Fj b pts i=some (f,k)->k < pts.length/\k≠i)/\(Fj b pts i=none->eR pts.length (i:Int)=[]):=by
  intro i;have go:∀ o,cR b pts i=Uk o->Fj b pts i=o:=λo e=>by unfold Fj;rw[e,zj]
  rcases nL b pts (pts.getD i []) (eR pts.length (i:Int)) with ⟨h1,h2⟩|⟨k,h1,h2⟩
  ·have e:=go none h2
   rw[e];exact⟨h2,λf k e=>(by cases e),λ_=>h1⟩
  ·have e:=go (some (zd b (pts.getD i []) (pts.getD k []),k)) h2
   rw[e];exact⟨h2,λf k' e=>by cases e;exact⟨mF h1,tf h1⟩,λe=>by cases e⟩
 refine⟨λi=>(h1 i).1,λi f k hi e=>?_⟩;obtain⟨hk,hne⟩:=(h1 i).2.1 f k e;refine⟨hk,?_⟩;cases e2:Fj b pts k with
 | some _=>rfl
 | none =>
  have:=(h1 k).2.2 e2;have hm:i∈eR pts.length (k:Int):=List.mem_filter.mpr ⟨List.mem_range.mpr hi,decide_eq_true (by omega)⟩
  rw[this] at hm;cases hm
def iL:aK:=λds Q=>∃ pts j,ds=[dC pts,.int (j:Nat)]/\j < pts.length/\Q (.sh .non)
theorem zk (ds:List D)(Q:B->Prop)(h:iL ds Q):xZ { nx:=λ_=>Q (.sh .non),rt:=λb _=>Q b } (aB xY.length ds):=by
 obtain⟨pts,j,rfl,hj,h⟩:=h;unfold xZ dC;walk_at "vx";rw[List.length_map];rw[if_neg (by omega),if_neg (by omega)]
 exact h
def mG (t:Int×Nat×Nat):D:=.tup [.int t.1,.int (t.2.1:Nat),.int (t.2.2:Nat)]
theorem FR {b:Bool}{pts:List (List Int)}:∀ l:List D,(∀ d∈l,∃ i j,d=gX b pts i j)->∃ ts:List (Int×Nat×Nat),l=ts.map mG
 | [],_=>⟨[],rfl⟩
 | d::l,h=>by
  obtain⟨i,j,rfl⟩:=h d (List.mem_cons_self ..);obtain⟨ts,e⟩:=FR l λx hx=>h x (List.mem_cons_of_mem _ hx);exact⟨(_,i,j)::ts,by rw[e];rfl⟩
theorem zl (b:Bool)(pts:List (List Int)):∃ ts:List (Int×Nat×Nat),bM b pts=ts.map mG:=FR (b:=b) (pts:=pts) _ λd hd=>by
 obtain⟨p,q,_,_,h⟩:=cG hd;exact⟨p,q,h⟩
def zm (bound:Int):D->Option D
 | .tup [.int f,.int i,.int j]=>if f<=bound then some (.tup [.int i,.int j]) else none
 | _=>none
theorem zn (bound:Int)(t:Int×Nat×Nat):zm bound (mG t)=if decide (t.1<=bound)=true then some (.tup [.int (t.2.1:Nat),.int (t.2.2:Nat)]) else none:=by
 show (if t.1<=bound then _ else _)=_
 by_cases h:t.1<=bound
 ·rw[if_pos h,if_pos (decide_eq_true h)]
 ·rw[if_neg h,if_neg (by rw[decide_eq_false h];decide)]
def kQ (b:Bool)(pts:List (List Int))(bound:Int):List D:=(bM b pts).filterMap (zm bound)
theorem zo (b:Bool)(pts:List (List Int))(bound:Int):(kQ b pts bound).length<=(bM b pts).length:=List.length_filterMap_le _ _
def iM:aK:=λds Q=>∃ j:Int,ds=[.int j]/\0<=j/\Q (.sh .non)
theorem zp (ds:List D)(Q:B->Prop)(h:iM ds Q):yb { nx:=λ_=>Q (.sh .non),rt:=λb _=>Q b } (aB ya.length ds):=by
 obtain⟨j,rfl,hj,h⟩:=h;unfold yb;walk_at "vx";rw[if_neg (by omega)]
 exact h
def jF:aK:=λds Q=>∃ b n pts j,ds=[dC pts,bX b,.int j]/\Good n pts/\pts.length<=1000/\0<=j/\Q (.own (kQ b pts j))
theorem JB (ds:List D)(Q:B->Prop)(h:jF ds Q):yh fM iM eQ { nx:=λ_=>Q (.sh .non),rt:=λb _=>Q b } (aB yg.length ds):=by
 obtain⟨b,n,pts,j,rfl,hg,hl,hj,h⟩:=h;unfold yh;refine aj λN hN=>?_;walk_at "vx";refine⟨n,b,pts,rfl,hg.shape,?_⟩;walk_at "vx";subst hN;refine aj λN hN=>?_;walk_at "vx";refine⟨j,rfl,hj,?_⟩;walk_at "vx";subst hN;walk_at "vx";refine⟨b,n,pts,rfl,hg,hl,?_⟩;walk_at "vx";have hz:=gZ (b:=b) hl;obtain⟨ts,e⟩:=zl b pts;unfold kQ at h;rw[e] at h hz ⊢;rw[List.length_map] at hz;refine ko mG (λt=>zm j (mG t)) ts (λt ht A Bn ha=>?_) (by rw[sz];omega) ?_
 ·rw[zn] at ha
  unfold mG;walk_at "vx"
  by_cases hb:t.1<=j
  ·rw[if_pos (decide_eq_true hb)] at ha
   refine (if_pos hb).mpr ⟨by decide,ha⟩
  ·rw[if_neg (by rw[decide_eq_false hb];decide)] at ha
   exact (if_neg hb).mpr ha
 ·rw[List.filterMap_map] at h
  exact h

def iO:aK:=λds Q=>∃ b n pts,ds=[dC pts,bX b]/\Good n pts/\pts.length<=1000/\Q (.own (eg (bM b pts)))

theorem JC (ds:List D)(Q:B->Prop)(h:iO ds Q):yf fM eQ { nx:=λ_=>Q (.sh .non),rt:=λb _=>Q b } (aB ye.length ds):=by
 obtain⟨b,n,pts,rfl,hg,hl,h⟩:=h;unfold yf;refine aj λN hN=>?_;walk_at "vx";refine⟨n,b,pts,rfl,hg.shape,?_⟩;walk_at "vx";subst hN;walk_at "vx";refine⟨b,n,pts,rfl,hg,hl,?_⟩;walk_at "vx";exact⟨fO b pts,h⟩
def JD (a b:Int):Int:=if b < a then b else a
def zq (a b:Int):Int:=if b > a then b else a
def rq (ls:List Int)(i j:Nat):List Int:=ls.map λx=>if x=zq (ls.getD i 0) (ls.getD j 0) then JD (ls.getD i 0) (ls.getD j 0) else x
theorem dk {ls:List Int}{j:Nat}(h:j < ls.length):(ls.map D.int)[j]?=some (.int (ls.getD j 0)):=by
 rw[List.getElem?_map,List.getD_eq_getElem?_getD,List.getElem?_eq_getElem h];rfl
theorem rA (a b:Int):fk (.int a) (.int b)=decide (a=b):=by
 unfold fk
 by_cases h:a=b
 ·simp [h]
 ·simp [h]
def eO:aK:=λds Q=>∃ (ls:List Int) (i j:Nat),ds=[.lst (ls.map D.int),.int i,.int j]/\i < ls.length/\j < ls.length/\ls.length<=1000/\Q (.own ((rq ls i j).map D.int))
theorem Rs (ds:List D)(Q:B->Prop)(h:eO ds Q):yG { nx:=λ_=>Q (.sh .non),rt:=λb _=>Q b } (aB yF.length ds):=by
 obtain⟨ls,i,j,rfl,hi,hj,hl,h⟩:=h;unfold yG;refine aj λN hN=>?_;walk_at "vx";refine aC (n:=i) rfl (dk hi) ?_;refine aC (n:=j) rfl (dk hj) ?_;walk_at "vx";subst hN;refine aj λN hN=>?_;walk_at "vx";refine aC (n:=i) rfl (dk hi) ?_;refine aC (n:=j) rfl (dk hj) ?_;walk_at "vx";subst hN;walk_at "vx";refine bO D.int (λx:Int=>D.int (if x=zq (ls.getD i 0) (ls.getD j 0) then JD (ls.getD i 0) (ls.getD j 0) else x)) ls (λx hx A ha=>?_) (by rw[sz];omega) ?_
 ·walk_at "vx"
  refine⟨⟨rfl,rfl⟩,?_⟩;rw[rA];unfold zq JD at ha
  by_cases e:x=if ls.getD j 0 > ls.getD i 0 then ls.getD j 0 else ls.getD i 0
  ·rw[if_pos e] at ha
   exact (if_pos (decide_eq_true e)).mpr ha
  ·rw[if_neg e] at ha
   exact (if_neg (by rw[decide_eq_false e];decide)).mpr ha
 ·unfold rq at h
  rw[List.map_map] at h;exact h
abbrev Tr:=Int×Nat×Nat
def aR (s:List Int×List Tr)(t:Tr):List Int×List Tr:=if s.1.getD t.2.1 0=s.1.getD t.2.2 0 then s else (rq s.1 t.2.1 t.2.2,s.2++[t])
def cq (n:Nat):List Int:=(List.range n).map λi:Nat=>(i:Int)
def bN (n:Nat)(ts:List Tr):List Int×List Tr:=ts.foldl aR (cq n,[])
theorem vG {n:Nat}{ts:List Tr}{i:Nat}{t:Tr}(h:ts[i]?=some t):bN n (ts.take (i+1))=aR (bN n (ts.take i)) t:=by
 unfold bN;rw[List.take_add_one,h,Option.toList_some,List.foldl_append];rfl
theorem rB (n:Nat):∀ ts:List Tr,(bN n ts).1.length=n/\(bN n ts).2.length<=ts.length/\∀ t∈(bN n ts).2,t∈ts:=by
 have key:∀ (ts:List Tr) (s:List Int×List Tr),s.1.length=n->(ts.foldl aR s).1.length=n/\(ts.foldl aR s).2.length<=s.2.length+ts.length/\∀ t∈(ts.foldl aR s).2,t∈s.2\/t∈ts:=by
  intro ts
  induction ts with
  | nil=>intro s h;exact⟨h,by simp,λt ht=>.inl ht⟩
  | cons t ts ih =>
   intro s h;have h1:(aR s t).1.length=n/\(aR s t).2.length<=s.2.length+1/\∀ u∈(aR s t).2,u∈s.2\/u=t:=by
    unfold aR
    split
    ·exact⟨h,by omega,λu hu=>.inl hu⟩
    ·refine⟨by unfold rq;rw[List.length_map];exact h,by simp,λu hu=>?_⟩
     rcases List.mem_append.mp hu with hu|hu
     ·exact .inl hu
     ·exact .inr (List.mem_singleton.mp hu)
   obtain⟨i1,i2,i3⟩:=ih (aR s t) h1.1;refine⟨i1,?_,λu hu=>?_⟩
   ·rw[List.foldl_cons,List.length_cons]
    have:=h1.2.1;omega
   ·rw[List.foldl_cons] at hu
    rcases i3 u hu with hu|hu
    ·rcases h1.2.2 u hu with hu|rfl
     ·exact .inl hu
     ·exact .inr (List.mem_cons_self ..)
    ·exact .inr (List.mem_cons_of_mem _ hu)
 intro ts;have:=key ts (cq n,[]) (by unfold cq;rw[List.length_map,List.length_range])
 refine⟨this.1,Nat.le_trans this.2.1 (by simp),λt ht=>?_⟩
 rcases this.2.2 t ht with h|h
 ·cases h
 ·exact h
theorem mH (b:Bool)(pts:List (List Int)):∃ ts:List Tr,eg (bM b pts)=ts.map mG/\∀ t∈ts,t.2.1 < t.2.2/\t.2.2 < pts.length:=by
 have key:∀ l:List D,(∀ d∈l,∃ i j,i < j/\j < pts.length/\d=gX b pts i j)->∃ ts:List Tr,l=ts.map mG/\∀ t∈ts,t.2.1 < t.2.2/\t.2.2 < pts.length:=by
  intro l
  induction l with
  | nil=>intro _;exact⟨[],rfl,λt ht=>by cases ht⟩
  | cons d l ih =>
   intro h;obtain⟨i,j,h1,h2,rfl⟩:=h d (List.mem_cons_self ..);obtain⟨ts,e,h3⟩:=ih λx hx=>h x (List.mem_cons_of_mem _ hx);refine⟨(_,i,j)::ts,by rw[e];rfl,λt ht=>?_⟩
   rcases List.mem_cons.mp ht with rfl|ht
   ·exact⟨h1,h2⟩
   ·exact h3 t ht
 refine key _ λd hd=>?_;obtain⟨p,q,h1,h2,h⟩:=cG ((cO _).mem_iff.mp hd);exact⟨p,q,h1,h2,h⟩
def zr (b:Bool)(pts:List (List Int))(l:List D):Prop:=∃ ts:List Tr,eg (bM b pts)=ts.map mG/\l=(bN pts.length ts).2.map mG
theorem uu:∀ ts us:List Tr,ts.map mG=us.map mG->ts=us
 | [],[],_=>rfl
 | [],_::_,h=>by simp at h
 | _::_,[],h=>by simp at h
 | t::ts,u::us,h=>by
  rw[List.map_cons,List.map_cons] at h
  injection h with h1 h2
  rw[uu ts us h2];congr 1;obtain⟨a,i,j⟩:=t;obtain⟨a',i',j'⟩:=u
  injection h1 with h1
  injection h1 with h3 h1
  injection h1 with h4 h1
  injection h1 with h5 _
  injection h3 with h3
  injection h4 with h4
  injection h5 with h5
  have h3:a=a':=h3;have h4:(i:Int)=(i':Int):=h4;have h5:(j:Int)=(j':Int):=h5;rw[h3,show i=i' by omega,show j=j' by omega]
theorem zt (n:Nat):li 0 n=(cq n).map D.int:=by
 unfold cq;rw[cA,List.map_map];refine List.map_congr_left λi _=>?_;show D.int (0+(i:Int))=D.int (i:Int);rw[Int.zero_add]
def pq:aK:=λds Q=>∃ b n pts,ds=[dC pts,bX b]/\Good n pts/\pts.length<=1000/\∀ l,zr b pts l->l.length<=1000000->(∀ d∈l,∃ t:Tr,d=mG t)->Q (.own l)
theorem tj {b:Bool}{pts:List (List Int)}(hl:pts.length<=1000){ts:List Tr}(e:eg (bM b pts)=ts.map mG):ts.length<=1000000:=by
 have h1:=(cO (bM b pts)).length_eq;have h2:=gZ (b:=b) hl;rw[e,List.length_map] at h1;omega
theorem JE (ds:List D)(Q:B->Prop)(h:pq ds Q):yI iO eO { nx:=λ_=>Q (.sh .non),rt:=λb _=>Q b } (aB yH.length ds):=by
 obtain⟨b,n,pts,rfl,hg,hl,h⟩:=h;unfold yI;rw[show dC pts=.lst (pts.map cZ) from rfl]
 refine aj λN hN=>?_;walk_at "vx";rw[List.length_map,Int.toNat_natCast,zt];refine⟨by omega,?_⟩
 subst hN;refine aj λN hN=>?_;walk_at "vx";refine⟨by decide,?_⟩
 subst hN;refine aj λN hN=>?_;show eG _ _ _ _ _;generalize ht:ce _ _ _=tb;walk_at "vx";refine⟨b,n,pts,rfl,hg,hl,?_⟩;walk_at "vx";obtain⟨ts,e,hts⟩:=mH b pts;have hz:=tj hl e;rw[e];refine ge mG ts (λi σ=>∃ x4 x5 x6,σ=[some (.sh (.lst (pts.map cZ))),some (.sh (bX b)),some (.own ((bN pts.length (ts.take i)).1.map D.int)),some (.own ((bN pts.length (ts.take i)).2.map mG)),x4,x5,x6]) (λi t σ N' hx hI hN'=>?_) (λσ hI=>?_) ⟨_,_,_,rfl⟩
 ·obtain⟨x4,x5,x6,rfl⟩:=hI
  subst ht;obtain⟨hij,hjn⟩:=hts t (List.mem_of_getElem? hx);obtain⟨f1,f2,f3⟩:=rB pts.length (ts.take i);have hti:=List.length_take_le' i ts;unfold mG;walk_at "vg";walk_at "vx";refine aC (n:=t.2.1) rfl (dk (by omega)) ?_
  refine aC (n:=t.2.2) rfl (dk (by omega)) ?_
  refine⟨⟨rfl,rfl⟩,?_⟩;rw[rA];have fs:=vG (n:=pts.length) hx;unfold aR at fs
  by_cases hq:(bN pts.length (ts.take i)).1.getD t.2.1 0=(bN pts.length (ts.take i)).1.getD t.2.2 0
  ·rw[if_pos hq] at fs
   refine (if_neg (by rw[decide_eq_true hq];decide)).mpr ?_
   exact hN' _ ⟨_,_,_,by rw[fs];rfl⟩
  ·rw[if_neg hq] at fs
   refine (if_pos (by rw[decide_eq_false hq])).mpr ?_
   refine⟨_,t.2.1,t.2.2,rfl,by omega,by omega,by omega,?_⟩
   walk_at "vx";refine⟨⟨_,rfl⟩,by decide,by rw[List.length_map,sz];have:=List.length_take_le' i ts;omega,?_⟩
   exact hN' _ ⟨_,_,_,by rw[fs,List.map_append];rfl⟩
 ·obtain⟨x4,x5,x6,rfl⟩:=hI
  subst hN;rw[List.take_length];walk_at "vx";obtain⟨f1,f2,f3⟩:=rB pts.length ts;exact h _ ⟨ts,e,rfl⟩ (by rw[List.length_map];omega) λd hd=>by
   obtain⟨t,_,rfl⟩:=List.mem_map.mp hd;exact⟨t,rfl⟩
def bH (ps:List (Int×List Int)):List (Int×D):=ps.map λp=>(p.1,cZ p.2)
structure KOk (n:Nat)(ps:List (Int×List Int)):Prop where
 good:Good n (ps.map (·.2))
 inc:(ps.map (·.1)).Pairwise λx y:Int=>x < y
 len:ps.length<=1000
theorem jG (ps:List (Int×List Int)):(bH ps).map (·.1)=ps.map (·.1):=by unfold bH;rw[List.map_map];rfl
theorem dW {ns:List Int}(h:ns.Pairwise λx y:Int=>x < y):qP ns=ns:=(qQ (List.Perm.refl _) (h.imp λh=>Int.le_of_lt h)).symm
theorem dX:∀ {ps:List (Int×List Int)} {k:Nat} {p:Int×List Int},(ps.map (·.1)).Pairwise (λx y:Int=>x < y)->ps[k]?=some p->cX (bH ps) p.1=some (cZ p.2)
 | [],_,_,_,e=>by simp at e
 | q::ps,0,p,_,e=>by
  simp at e;subst e;show cX ((q.1,cZ q.2)::bH ps) q.1=_;unfold cX;rw[List.find?_cons_of_pos (by simp)];rfl
 | q::ps,k+1,p,h,e=>by
  rw[List.map_cons,List.pairwise_cons] at h;have e:ps[k]?=some p:=by simpa using e
  have hlt:=h.1 p.1 (List.mem_map.mpr ⟨p,List.mem_of_getElem? e,rfl⟩);have ih:=dX h.2 e;show cX ((q.1,cZ q.2)::bH ps) p.1=_;unfold cX at ih ⊢;rw[List.find?_cons_of_neg (by simp;omega)]
  exact ih
def rC:aK:=λds Q=>∃ w c e kvs i,ds=[.kp w c e kvs,.int i]/\(cX kvs i).isSome=true/\Q (.sh .non)
theorem VB (ds:List D)(Q:B->Prop)(h:rC ds Q):Jh { nx:=λ_=>Q (.sh .non),rt:=λb _=>Q b } (aB Jg.length ds):=by
 obtain⟨w,c,e,kvs,i,rfl,hi,h⟩:=h;unfold Jh;walk_at "vx";rw[hi];exact (if_neg (by decide)).mpr h
def cT:aK:=λds Q=>∃ w c e n ps,ds=[.kp w c e (bH ps)]/\KOk n ps/\Q (.own (ps.map λp=>.int p.1))
theorem Fl (ds:List D)(Q:B->Prop)(h:cT ds Q):yx { nx:=λ_=>Q (.sh .non),rt:=λb _=>Q b } (aB yw.length ds):=by
 obtain⟨w,c,e,n,ps,rfl,ok,h⟩:=h;unfold yx;walk_at "vx";rw[jG,dW ok.inc,List.map_map];exact h
def kR:aK:=λds Q=>∃ w c e n ps,ds=[.kp w c e (bH ps)]/\KOk n ps/\Q (.own ((ps.map (·.2)).map cZ))
theorem Rt (ds:List D)(Q:B->Prop)(h:kR ds Q):Jj cT { nx:=λ_=>Q (.sh .non),rt:=λb _=>Q b } (aB Ji.length ds):=by
 obtain⟨w,c,e,n,ps,rfl,ok,h⟩:=h;have hl:=ok.len;unfold Jj;walk_at "vx";refine⟨⟨_,_,_,_,rfl⟩,⟨List.nodup_nil,(λ_ h=>h.elim),[.kp w c e (bH ps)],rfl,w,c,e,n,ps,rfl,ok,?_⟩⟩;refine⟨.inl trivial,?_⟩;walk_at "vx";refine bO (λp:Int×List Int=>D.int p.1) (λp=>cZ p.2) ps (λp hp A ha=>?_) (by rw[sz];omega) ?_
 ·obtain⟨k,hk⟩:=List.getElem?_of_mem hp
  walk_at "vx";exact⟨_,dX ok.inc hk,ha⟩
 ·rw[List.map_map] at h
  exact h
def kS:aK:=λds Q=>∃ w c e kvs i d,ds=[.kp w c e kvs,.int i]/\cX kvs i=some d/\Q (.sh d)
theorem Fm (ds:List D)(Q:B->Prop)(h:kS ds Q):yz rC { nx:=λ_=>Q (.sh .non),rt:=λb _=>Q b } (aB yy.length ds):=by
 obtain⟨w,c,e,kvs,i,d,rfl,hi,h⟩:=h;unfold yz;refine aj λN hN=>?_;walk_at "vx";refine⟨⟨_,_,_,_,rfl⟩,⟨List.nodup_nil,(λ_ h=>h.elim),[.kp w c e kvs,.int i],rfl,w,c,e,kvs,i,rfl,by rw[hi];rfl,.inl trivial,?_⟩⟩
 walk_at "vx";subst hN;walk_at "vx";exact⟨d,hi,h⟩
def VC (ks:List Int):D->D
 | .int i=>.int (ks.getD i.toNat 0)
 | d=>d
def cr (ks:List Int):D->D
 | .tup (f::r)=>.tup (f::r.map (VC ks))
 | d=>d
theorem bZ {ps:List (Int×List Int)}{i:Nat}(h:i < ps.length):(ps.map λp=>D.int p.1)[i]?=some (.int ((ps.map (·.1)).getD i 0)):=by
 rw[List.getElem?_map,List.getElem?_eq_getElem h,List.getD_eq_getElem?_getD,List.getElem?_map,List.getElem?_eq_getElem h];rfl
def pr:aK:=λds Q=>∃ b c e n ps,ds=[.kp (aW b) c e (bH ps)]/\KOk n ps/\Q (.sh (cr (ps.map (·.1)) (er b (ps.map (·.2)))))
theorem uw (b:Bool)(pts:List (List Int)):er b pts=.non\/∃ p q,p < q/\q < pts.length/\er b pts=gX b pts p q:=by
 unfold er;rw[mE (fO b pts)];cases e:eg (bM b pts) with
 | nil=>exact .inl rfl
 | cons a l =>
  have:a∈bM b pts:=(cO _).mem_iff.mp (by rw[e];exact List.mem_cons_self ..)
  obtain⟨p,q,h1,h2,h⟩:=cG this;exact .inr ⟨p,q,h1,h2,h⟩
theorem JF (ds:List D)(Q:B->Prop)(h:pr ds Q):yB pp kR cT { nx:=λ_=>Q (.sh .non),rt:=λb _=>Q b } (aB yA.length ds):=by
 obtain⟨b,c,e,n,ps,rfl,ok,h⟩:=h;have hl:=ok.len;unfold yB;refine aj λN hN=>?_;walk_at "vx";refine⟨⟨_,_,_,_,rfl⟩,⟨List.nodup_nil,(λ_ h=>h.elim),[.kp (aW b) c e (bH ps)],rfl,aW b,c,e,n,ps,rfl,ok,.inl trivial,?_⟩⟩;walk_at "vx";refine⟨.str (aW b),rfl,?_⟩;walk_at "vx";refine⟨b,n,ps.map (·.2),rfl,ok.good,by rw[List.length_map];exact hl,?_⟩
 walk_at "vx";subst hN;refine aj λN hN=>?_;rcases uw b (ps.map (·.2)) with h2|⟨p,q,h1,h2,h3⟩
 ·rw[h2] at h ⊢
  walk_at "vx";exact h
 ·rw[h3] at h ⊢
  rw[List.length_map] at h2;unfold gX at h ⊢;walk_at "vx"
  try refine (if_neg (by decide)).mpr ?_
  subst hN;refine aj λN hN=>?_;walk_at "vx";refine⟨⟨_,_,_,_,rfl⟩,⟨List.nodup_nil,(λ_ h=>h.elim),[.kp (aW b) c e (bH ps)],rfl,aW b,c,e,n,ps,rfl,ok,.inl trivial,?_⟩⟩;walk_at "vx";subst hN;walk_at "vx";refine cF (n:=0) rfl rfl ?_;walk_at "vx";refine cF (n:=1) rfl rfl (aC (n:=p) rfl (bZ (by omega)) ?_)
  walk_at "vx";refine cF (n:=2) rfl rfl (aC (n:=q) rfl (bZ (by omega)) ?_)
  walk_at "vx";refine⟨by decide,?_⟩
  exact h

theorem Ru (ds:List D)(Q:B->Prop)(h:cS ds Q):yn fM iL cS { nx:=λ_=>Q (.sh .non),rt:=λb _=>Q b } (aB ym.length ds):=by
 obtain⟨b,n,pts,j,rfl,hg,hl,hj,h⟩:=h;unfold yn;walk_at "vx";refine⟨n,b,pts,rfl,hg.shape,?_⟩;walk_at "vx";refine⟨pts,j,rfl,hj,?_⟩;walk_at "vx";exact⟨b,n,pts,j,rfl,hg,hl,hj,h⟩
theorem ux (b:Bool)(pts:List (List Int))(i:Nat)(hi:i < pts.length):cR b pts i=.non\/∃ (f:Int) (k:Nat),k < pts.length/\cR b pts i=.tup [.int f,.int (k:Nat)]:=by
 obtain⟨h1,h2⟩:=Fk b pts;rw[h1 i];cases e:Fj b pts i with
 | none=>exact .inl rfl
 | some p=>exact .inr ⟨p.1,p.2,(h2 i p.1 p.2 hi e).1,rfl⟩
theorem mI:∀ {ns:List Int} {k:Nat} {i:Int},ns.Pairwise (λx y:Int=>x < y)->ns[k]?=some i->sL (.int i) (ns.map D.int)=some k
 | [],_,_,_,e=>by simp at e
 | n::ns,0,i,_,e=>by
  simp at e;subst e;unfold sL;rw[List.map_cons,List.findIdx?_cons,if_pos (by simp [fk])]
 | n::ns,k+1,i,hp,e=>by
  rw[List.pairwise_cons] at hp;have e:ns[k]?=some i:=by simpa using e
  have:=hp.1 i (List.mem_of_getElem? e);have ih:=mI hp.2 e;unfold sL at ih ⊢;rw[List.map_cons,List.findIdx?_cons,if_neg (by simp [fk];omega),ih];rfl
theorem rD (ns:List Int):bv 8 (.lst (ns.map D.int))=true:=by
 show (ns.map D.int).all (bv 7)=true;rw[List.all_map];exact List.all_eq_true.mpr λ_ _=>rfl
theorem bP (ps:List (Int×List Int)):(ps.map λp=>D.int p.1)=(ps.map (·.1)).map D.int:=by rw[List.map_map];rfl
def kT:aK:=λds Q=>∃ b c e n ps k i,ds=[.kp (aW b) c e (bH ps),.int i]/\KOk n ps/\(ps.map (·.1))[k]?=some i/\Q (.sh (cr (ps.map (·.1)) (cR b (ps.map (·.2)) k)))
theorem Fo (ds:List D)(Q:B->Prop)(h:kT ds Q):Je rC cT cS kR { nx:=λ_=>Q (.sh .non),rt:=λb _=>Q b } (aB Jd.length ds):=by
 obtain⟨b,c,e,n,ps,k,i,rfl,ok,hk,h⟩:=h;have hl:=ok.len;have hkl:k < ps.length:=by have:=(List.getElem?_eq_some_iff.mp hk).1;simpa using this
 have hiv:(cX (bH ps) i).isSome=true:=by
  rw[List.getElem?_map,List.getElem?_eq_getElem hkl] at hk;have hk:ps[k].1=i:=by simpa using hk
  rw[<- hk,dX ok.inc (List.getElem?_eq_getElem hkl)];rfl
 unfold Je;refine aj λN hN=>?_;walk_at "vx";refine⟨⟨_,_,_,_,rfl⟩,⟨List.nodup_nil,(λ_ h=>h.elim),[.kp (aW b) c e (bH ps),.int i],rfl,_,c,e,_,i,rfl,hiv,.inl trivial,?_⟩⟩;walk_at "vx";subst hN;refine aj λN hN=>?_;walk_at "vx";refine⟨⟨_,_,_,_,rfl⟩,⟨List.nodup_nil,(λ_ h=>h.elim),[.kp (aW b) c e (bH ps)],rfl,aW b,c,e,n,ps,rfl,ok,.inl trivial,?_⟩⟩;walk_at "vx";subst hN;refine aj λN hN=>?_;walk_at "vx";refine⟨⟨_,_,_,_,rfl⟩,⟨List.nodup_nil,(λ_ h=>h.elim),[.kp (aW b) c e (bH ps)],rfl,aW b,c,e,n,ps,rfl,ok,.inl trivial,?_⟩⟩;walk_at "vx";refine⟨.str (aW b),rfl,?_⟩;walk_at "vx";rw[bP];refine⟨⟨_,rfl⟩,⟨rfl,rD _⟩,k,mI ok.inc hk,?_⟩;walk_at "vx";refine⟨b,n,ps.map (·.2),k,rfl,ok.good,by rw[List.length_map];exact hl,by rw[List.length_map];exact hkl,?_⟩
 walk_at "vx";subst hN;refine aj λN hN=>?_;rcases ux b (ps.map (·.2)) k (by rw[List.length_map];exact hkl) with h2|⟨f,q,h2,h3⟩
 ·rw[h2] at h ⊢
  walk_at "vx";exact h
 ·rw[h3] at h ⊢
  rw[List.length_map] at h2;walk_at "vx"
  try refine (if_neg (by decide)).mpr ?_
  subst hN;walk_at "vx";refine cF (n:=0) rfl rfl ?_;walk_at "vx";refine cF (n:=1) rfl rfl (aC (n:=q) rfl (by rw[<- bP];exact bZ h2) ?_)
  walk_at "vx";refine⟨by decide,?_⟩
  exact h
def Pq (ks:List Int)(p:Nat×Nat):D:=.tup [.int (ks.getD p.1 0),.int (ks.getD p.2 0)]
def zu (ks:List Int)(b:Bool)(pts:List (List Int))(j:Int):List D:=(kQ b pts j).map λd=>match d with|.tup [.int x,.int y]=>Pq ks (x.toNat,y.toNat)|d=>d
theorem Fp (b:Bool)(pts:List (List Int))(bound:Int):∃ ps:List (Nat×Nat),kQ b pts bound=ps.map (λp=>D.tup [.int (p.1:Nat),.int (p.2:Nat)])/\∀ p∈ps,p.1 < p.2/\p.2 < pts.length:=by
 have:∀ l:List D,(∀ d∈l,∃ p:Nat×Nat,d=.tup [.int (p.1:Nat),.int (p.2:Nat)]/\p.1 < p.2/\p.2 < pts.length)->∃ ps:List (Nat×Nat),l=ps.map (λp=>D.tup [.int (p.1:Nat),.int (p.2:Nat)])/\∀ p∈ps,p.1 < p.2/\p.2 < pts.length:=by
  intro l
  induction l with
  | nil=>intro _;exact⟨[],rfl,λp hp=>by cases hp⟩
  | cons d l ih =>
   intro h;obtain⟨p,rfl,hp⟩:=h d (List.mem_cons_self ..);obtain⟨ps,e,hps⟩:=ih λx hx=>h x (List.mem_cons_of_mem _ hx);refine⟨p::ps,by rw[e];rfl,λx hx=>?_⟩
   rcases List.mem_cons.mp hx with rfl|hx
   ·exact hp
   ·exact hps x hx
 refine this _ λd hd=>?_;obtain⟨x,hx,h⟩:=List.mem_filterMap.mp hd;obtain⟨p,q,h1,h2,rfl⟩:=cG hx;have:(if zd b (pts.getD p []) (pts.getD q [])<=bound then some (D.tup [.int (p:Nat),.int (q:Nat)]) else none)=some d:=h
 split at this
 ·exact⟨(p,q),(Option.some.inj this).symm,h1,h2⟩
 ·cases this
theorem rE (b:Bool)(pts:List (List Int))(bound:Int):∃ ps:List (Nat×Nat),kQ b pts bound=ps.map (λp=>D.tup [.int (p.1:Nat),.int (p.2:Nat)])/\ps.length<=(bM b pts).length/\∀ p∈ps,p.1 < p.2/\p.2 < pts.length:=by
 obtain⟨ps,e,h⟩:=Fp b pts bound;refine⟨ps,e,?_,h⟩;have:=zo b pts bound;rw[e,List.length_map] at this;exact this
theorem rF {ks:List Int}{b:Bool}{pts:List (List Int)}{j:Int}{qs:List (Nat×Nat)}(e:kQ b pts j=qs.map (λp=>D.tup [.int (p.1:Nat),.int (p.2:Nat)])):zu ks b pts j=qs.map (Pq ks):=by
 unfold zu;rw[e,List.map_map];refine List.map_congr_left λp _=>?_;show Pq ks (((p.1:Nat):Int).toNat,((p.2:Nat):Int).toNat)=_;rw[Int.toNat_natCast,Int.toNat_natCast]
def tm:aK:=λds Q=>∃ b c e n ps j,ds=[.kp (aW b) c e (bH ps),.int j]/\KOk n ps/\0<=j/\Q (.own (zu (ps.map (·.1)) b (ps.map (·.2)) j))
theorem Rv (ds:List D)(Q:B->Prop)(h:tm ds Q):yE cT jF kR { nx:=λ_=>Q (.sh .non),rt:=λb _=>Q b } (aB yD.length ds):=by
 obtain⟨b,c,e,n,ps,j,rfl,ok,hj,h⟩:=h;have hl:=ok.len;unfold yE;refine aj λN hN=>?_;walk_at "vx";refine⟨⟨_,_,_,_,rfl⟩,⟨List.nodup_nil,(λ_ h=>h.elim),[.kp (aW b) c e (bH ps)],rfl,aW b,c,e,n,ps,rfl,ok,.inl trivial,?_⟩⟩;walk_at "vx";subst hN;walk_at "vx";refine⟨⟨_,_,_,_,rfl⟩,⟨List.nodup_nil,(λ_ h=>h.elim),[.kp (aW b) c e (bH ps)],rfl,aW b,c,e,n,ps,rfl,ok,.inl trivial,?_⟩⟩;walk_at "vx";refine⟨.str (aW b),rfl,?_⟩;walk_at "vx";refine⟨b,n,ps.map (·.2),j,rfl,ok.good,by rw[List.length_map];exact hl,hj,?_⟩
 obtain⟨qs,eq,hq,hqs⟩:=rE b (ps.map (·.2)) j
 have hzp:=gZ (b:=b) (pts:=ps.map (·.2)) (by rw[List.length_map];exact hl)
 rw[rF eq] at h;rw[eq];walk_at "vx";refine bO (λp:Nat×Nat=>D.tup [.int (p.1:Nat),.int (p.2:Nat)]) (Pq (ps.map (·.1))) qs (λp hp A ha=>?_) (by rw[sz];omega) ?_
 ·obtain⟨h1,h2⟩:=hqs p hp
  rw[List.length_map] at h2;walk_at "vg";walk_at "vx";refine aC (n:=p.1) rfl (bZ (by omega)) (aC (n:=p.2) rfl (bZ h2) ?_)
  walk_at "vx";exact⟨by decide,ha⟩
 ·exact h
theorem dD (k:Str)(v:V):∀ l:List (Str×V),(bR k v l).length<=l.length+1
 | []=>Nat.le_refl _
 | (g,x)::r=>by
  have:=dD k v r;unfold bR
  split
  ·simp
  ·simp only[List.length_cons];omega
def pv:Dl:=λds Q=>∃ b c,ds=[bX b,.int c]/\1<=c/\c<=3/\Q (aW b) c
theorem JG (ds:List D)(Q:Str->Int->Prop)(h:pv ds Q)(a dx:Addr):IX fe jE { nx:=Vo a dx Q,rt:=λ_ _=>False } (gq IW.length a dx ds):=by
 obtain⟨b,c,rfl,h1,h2,h⟩:=h;unfold IX bX;refine aj λN hN=>?_;walk_at "vx";refine⟨c,rfl,h1,h2,?_⟩;walk_at "vx";subst hN;refine aj λN hN=>?_;walk_at "vx";refine⟨b,rfl,?_⟩;walk_at "vx";subst hN;walk_at "vx";refine⟨a,dx,[],.str (aW b),rfl,rfl,by simp [bR],?_⟩
 walk_at "vx";refine⟨a,dx,_,.int c,rfl,rfl,by simp [bR],?_⟩
 walk_at "vx";refine⟨a,dx,_,rfl,by have h1:=dD (Str.ofString "count") (.int c) (bR (Str.ofString "way") (.str (aW b)) []);have h2:=dD (Str.ofString "way") (.str (aW b)) [];exact Nat.lt_of_le_of_lt h1 (by have:(bR (Str.ofString "way") (V.str (aW b)) []).length<=1:=h2;omega),λad=>?_⟩
 walk_at "vx";refine⟨a,dx,ad,_,aW b,c,rfl,by have h0:=dD (Str.ofString "points_by_name") (.ref ad) (bR (Str.ofString "count") (.int c) (bR (Str.ofString "way") (.str (aW b)) []));have h1:=dD (Str.ofString "count") (.int c) (bR (Str.ofString "way") (.str (aW b)) []);have h2:(bR (Str.ofString "way") (V.str (aW b)) []).length<=1:=dD (Str.ofString "way") (.str (aW b)) [];exact Nat.lt_of_le_of_lt h0 (by omega),rfl,?_⟩
 exact⟨ad,aW b,c,rfl,h⟩
def pz:jo:=λbs Q=>∃ (a dx ad:Addr) (b:Bool) (c e:Int) (n:Nat) (ps:List (Int×List Int)) (p:List Int),bs=[.obj (eu a dx ad (aW b) c e (bH ps)),.sh (cZ p)]/\(p.length:Int)=c/\ps.length < 1000/\(∀ q∈ps,q.1 < e)/\Q (.sh (.int e)) [.obj (eu a dx ad (aW b) c (e+1) (bH (ps++[(e,p)]))),.sh (cZ p)]
theorem kU {ps:List (Int×List Int)}{e:Int}{p:List Int}(h:∀ q∈ps,q.1 < e):sN (bH ps) e (cZ p)=bH (ps++[(e,p)]):=by
 unfold sN;rw[if_neg (by
  rw[List.any_eq_true];rintro ⟨x,hx,hd⟩;unfold bH at hx;obtain⟨q,hq,rfl⟩:=List.mem_map.mp hx;have:=h q hq;have:=of_decide_eq_true hd;have:q.1=e:=this;omega)]
 unfold bH;rw[List.map_append];rfl
theorem Fq (bs:List B)(Q:B->List B->Prop)(h:pz bs Q)(i:Nat)(xs:List D)(e:bs[i]?=some (.own xs)):i∈[0]:=by
 obtain⟨a,dx,ad,b,c,e',n,ps,p,rfl,_⟩:=h
 match i with
 | 0=>simp
 | 1=>simp at e
 | n+2=>simp at e
theorem Rw (bs:List B)(Q:B->List B->Prop)(h:pz bs Q):yt pe { nx:=Dk bs Q (.sh .non),rt:=λb σ=>Dk bs Q b σ } (startMu yr.length bs):=by
 obtain⟨a,dx,ad,b,c,e,n,ps,p,rfl,hp,hl,hlt,h⟩:=h;unfold yt;refine aj λN hN=>?_;walk_at "vx";refine⟨.int c,rfl,?_⟩;walk_at "vx";refine⟨p,c,rfl,hp,?_⟩;walk_at "vx";subst hN;refine aj λN hN=>?_;walk_at "vx";refine⟨.int e,rfl,?_⟩;walk_at "vx";subst hN;refine aj λN hN=>?_;walk_at "vx";refine⟨⟨a,dx,ad,_,c,e,_,rfl⟩,a,dx,ad,_,c,e,_,rfl,by unfold bH;rw[List.length_map,sz];omega,?_⟩
 rw[kU hlt];subst hN;refine aj λN hN=>?_;walk_at "vx";refine⟨a,dx,ad,_,c,e,_,rfl,?_⟩;subst hN;walk_at "vx";exact⟨[.obj (eu a dx ad (aW b) c (e+1) (bH (ps++[(e,p)]))),.sh (cZ p)],.obj rfl rfl (λz=>nomatch z) (.sh _ .nil),⟨rfl,trivial⟩,h⟩
def jH:jo:=λbs Q=>∃ (a dx ad:Addr) (w:Str) (c e i:Int) (kvs:List (Int×D)),bs=[.obj (eu a dx ad w c e kvs),.sh (.int i)]/\(cX kvs i).isSome=true/\Q (.sh .non) [.obj (eu a dx ad w c e (fA kvs i)),.sh (.int i)]
theorem Fs (bs:List B)(Q:B->List B->Prop)(h:jH bs Q)(i:Nat)(xs:List D)(e:bs[i]?=some (.own xs)):i∈[0]:=by
 obtain⟨a,dx,ad,w,c,e',j,kvs,rfl,_⟩:=h
 match i with
 | 0=>simp
 | 1=>simp at e
 | n+2=>simp at e
theorem JH (bs:List B)(Q:B->List B->Prop)(h:jH bs Q):yv rC { nx:=Dk bs Q (.sh .non),rt:=λb σ=>Dk bs Q b σ } (startMu yu.length bs):=by
 obtain⟨a,dx,ad,w,c,e,i,kvs,rfl,hi,h⟩:=h;unfold yv;refine aj λN hN=>?_;walk_at "vx";refine⟨⟨_,w,c,e,kvs,rfl,rfl⟩,⟨List.nodup_nil,λ_ _=>trivial,[.kp w c e kvs,.int i],rfl,w,c,e,kvs,i,rfl,hi,.inr ⟨rfl,rfl⟩,?_⟩⟩;walk_at "vx";subst hN;walk_at "vx";refine⟨a,dx,ad,w,c,e,kvs,rfl,rfl,hi,?_⟩;exact⟨[.obj (eu a dx ad w c e (fA kvs i)),.sh (.int i)],.obj rfl rfl (λz=>nomatch z) (.sh _ .nil),⟨rfl,trivial⟩,h⟩

theorem kW {P:Int->Prop}:∀ (ds:List D) {n:Nat},ds.length=n->(∀ d∈ds,∃ v,d=.int v/\P v)->∃ l:List Int,ds=l.map D.int/\l.length=n/\∀ v∈l,P v
 | [],n,hn,_=>⟨[],rfl,hn,λv hv=>by cases hv⟩
 | d::ds,n,hn,h=>by
  obtain⟨v,rfl,hv⟩:=h d (List.mem_cons_self ..);obtain⟨l,e,hl,hf⟩:=kW ds (n:=ds.length) rfl λx hx=>h x (List.mem_cons_of_mem _ hx);refine⟨v::l,by rw[e];rfl,by simpa [hl] using hn,λx hx=>?_⟩
  rcases List.mem_cons.mp hx with rfl|hx
  ·exact hv
  ·exact hf x hx
structure KFar (n:Nat)(ps:List (Int×List Int)):Prop where
 n1:1<=n
 n3:n<=3
 pt:∀ q∈ps,q.2.length=n/\∀ v∈q.2,zh v
 inc:(ps.map (·.1)).Pairwise λx y:Int=>x < y
 len:ps.length<=1000
theorem KFar.ok {n:Nat}{ps:List (Int×List Int)}(h:KFar n ps):KOk n ps:=⟨⟨⟨h.n1,h.n3⟩,λp hp=>by
 obtain⟨q,hq,rfl⟩:=List.mem_map.mp hp;refine⟨(h.pt q hq).1,λx hx=>?_⟩;have:=(h.pt q hq).2 x hx;unfold zh at this;omega⟩,h.inc,h.len⟩
theorem Ft {n k:Nat}(h:k < n):ixN n (k:Int)=some k:=by unfold ixN;rw[if_pos (by omega),if_pos (by omega),Int.toNat_natCast]
def tt:kA:=λxs ds Q=>cQ xs/\∃ (n:Nat) (ps:List (Int×List Int)),ds=[.int n,.dci (bH ps)]/\KFar n ps/\∀ p ys,p.length=n->(∀ v∈p,zh v)->cQ ys->Q (.sh (cZ p)) ys
theorem dY (ps:List (Int×List Int)):(bH ps).length=ps.length:=List.length_map ..
theorem Rx (xs ds:List D)(Q:B->List D->Prop)(h:tt xs ds Q):yQ hE { nx:=sI Q (.sh .non),rt:=λb σ=>sI Q b σ } (startIo yP.length xs ds):=by
 obtain⟨r0,n,ps,rfl,kf,h⟩:=h;have h1:=kf.n1;have h3:=kf.n3;have hl:=kf.len;unfold yQ;simp only[startIo];refine aj λN hN=>?_;walk_at "vx";rw[Int.toNat_natCast,cA];refine⟨by omega,ml (λi:Nat=>.int (0+(i:Nat))) (λd=>∃ v,d=.int v/\zh v) cQ _ (λv hv z rz A Z hz ha=>?_) (by rw[List.length_range,sz];omega) r0 (λds ys1 hl1 hd1 r1=>?_)⟩
 ·walk_at "vg"
  walk_at "vx";refine⟨⟨_,rfl⟩,rz,5,rfl,by decide,by decide,λr ys r0 r1 ry=>?_⟩
  walk_at "vx";refine⟨hz,ha _ _ ⟨_,rfl,?_⟩ ry⟩;unfold zh;omega
 rw[List.length_range] at hl1;obtain⟨l1,rfl,hl1,hf1⟩:=kW ds hl1 hd1;subst hN;refine aj λN hN=>?_;walk_at "vx";refine⟨⟨_,rfl⟩,r1,4,rfl,by decide,by decide,λkind ys2 k0 k1 r2=>?_⟩
 walk_at "vx";subst hN;refine aj λN hN=>?_;walk_at "vx";have hmid:∀ (l:List Int) (ys:List D),l.length=n->(∀ v∈l,zh v)->cQ ys->N [some (.own ys),some (.sh (.int n)),some (.sh (.dci (bH ps))),some (.own (l.map D.int)),some (.sh (.int kind)),none]:=by
  intro l ys hl1 hf1 ry;subst hN;have hend:∀ (l:List Int) (ys:List D) (x:Option B),l.length=n->(∀ v∈l,zh v)->cQ ys->dF [0] (dH ip (be (ab 3) cW)) { nx:=sI Q (.sh .non),rt:=λb σ=>sI Q b σ } [some (.own ys),some (.sh (.int n)),some (.sh (.dci (bH ps))),some (.own (l.map D.int)),some (.sh (.int kind)),x]:=by
   intro l ys x hl1 hf1 ry;walk_at "vx";exact h l ys hl1 hf1 ry
  show bn (ce _ (bn (cU [0] 3 (dH lV _)) _) _) _ _ _;generalize ht:bn (cU [0] 3 (dH lV _)) _=tb;refine aj λN hN=>?_;walk_at "vx"
  split
  ·split
   ·rename_i hk hne
    have hps:0 < ps.length:=by
     cases ps with
     | nil=>exact absurd rfl hne
     | cons _ _=>simp
    subst ht;refine aj λN2 hN2=>?_;walk_at "vx";refine⟨⟨_,rfl⟩,ry,_,rfl,by rw[dY];omega,by rw[dY];omega,λr ys2 q0 q1 ry2=>?_⟩
    rw[dY] at q1;rw[jG,dW kf.inc,<- bP];walk_at "vx";obtain⟨k,rfl⟩:∃ k:Nat,r=k:=⟨r.toNat,by omega⟩
    have hk2:k < ps.length:=by omega
    refine aC (n:=k) rfl (by rw[List.getElem?_map,List.getElem?_eq_getElem hk2];rfl) ?_
    walk_at "vx";refine⟨_,dX kf.inc (List.getElem?_eq_getElem hk2),?_⟩;obtain⟨hp1,hp2⟩:=kf.pt ps[k] (List.getElem_mem _);generalize ps[k].2=p at hp1 hp2;show N2 [some (.own ys2),some (.sh (.int n)),some (.sh (.dci (bH ps))),some (.own (p.map D.int)),some (.sh (.int kind)),none];subst hN2;refine aj λN2 hN2=>?_;walk_at "vx";refine⟨⟨_,rfl⟩,ry2,_,rfl,by omega,by omega,λr ys3 q0 q1 ry3=>?_⟩
    obtain⟨j,rfl⟩:∃ j:Nat,r=j:=⟨r.toNat,by omega⟩
    have hj:j < p.length:=by omega
    walk_at "vx";subst hN2;walk_at "vx";have e1:(10:Int)^(15:Int).toNat=1000000000000000:=by decide
    rw[e1];refine⟨by unfold mW;decide,by unfold mW;decide,aC (n:=j) rfl (dk hj) ?_⟩
    walk_at "vx";refine⟨⟨_,rfl⟩,ry3,3,rfl,by decide,by decide,λu ys4 u0 u1 ry4=>?_⟩
    walk_at "vx";refine⟨⟨_,rfl⟩,?_⟩;rw[List.length_map,Ft hj];show N _;have hset:∀ v:Int,(p.map D.int).set j (.int v)=(p.set j v).map D.int:=λv=>by rw[List.map_set]
    rw[hset];subst hN;refine hend _ ys4 _ (by rw[List.length_set];exact hp1) (λv hv=>?_) ry4
    rcases List.mem_or_eq_of_mem_set hv with hv|rfl
    ·exact hp2 v hv
    ·unfold zh
     split<;>split at *<;>omega
   ·subst hN
    exact hend l ys _ hl1 hf1 ry
  ·subst hN
   exact hend l ys _ hl1 hf1 ry
 refine⟨⟨rfl,rfl⟩,?_⟩
 split
 ·rw[Int.toNat_natCast,cA]
  refine⟨by omega,ml (λi:Nat=>.int (0+(i:Nat))) (λd=>∃ v,d=.int v/\zh v) cQ _ (λv hv z rz A Z hz ha=>?_) (by rw[List.length_range,sz];omega) r2 (λds ys3 hl2 hd2 r3=>?_)⟩
  ·walk_at "vg"
   walk_at "vx";have e1:(10:Int)^(15:Int).toNat=1000000000000000:=by decide
   rw[e1];refine⟨⟨_,rfl⟩,by unfold mW;decide,by unfold CMul;decide,rz,_,rfl,by decide,by decide,λr ys r0 r1 ry=>?_⟩
   walk_at "vx";refine⟨by unfold mW;decide,hz,ha _ _ ⟨_,rfl,?_⟩ ry⟩
   unfold zh;omega
  rw[List.length_range] at hl2;obtain⟨l2,rfl,hl2,hf2⟩:=kW ds hl2 hd2;exact hmid l2 ys3 hl2 hf2 r3
 ·exact hmid l1 ys2 hl1 hf1 r2
theorem zv {α:Type}(x:α)(xs:List α):cut (x::xs) (some 1) none=xs:=by
 unfold cut;rw[HT.sIx_none,show (some (1:Int))=some ((1:Nat):Int) from rfl,HT.sIx_nat,Nat.min_eq_left (by simp)]
 rw[List.drop_one,List.tail_cons,List.length_cons,List.take_of_length_le (by omega)]
def mJ (m:Nat):D->Prop
 | .non=>True
 | .tup (.int _::r)=>r.length<=1000/\∀ d∈r,∃ k:Nat,d=.int k/\k < m
 | _=>False
def tu:aK:=λds Q=>∃ (ns:List Int) (d:D),ds=[.lst (ns.map D.int),d]/\mJ ns.length d/\Q (.sh (cr ns d))
theorem Ry (ds:List D)(Q:B->Prop)(h:tu ds Q):yS { nx:=λ_=>Q (.sh .non),rt:=λb _=>Q b } (aB yR.length ds):=by
 obtain⟨ns,d,rfl,hd,h⟩:=h;unfold yS;refine aj λN hN=>?_;unfold mJ at hd
 split at hd
 ·walk_at "vx"
  exact h
 ·rename_i f r
  obtain⟨hl,hr⟩:=hd;walk_at "vx"
  try refine (if_neg (by decide)).mpr ?_
  subst hN;walk_at "vx";refine cF (n:=0) rfl rfl ?_;walk_at "vx";rw[zv];have e0:HT.sIx (r.length+1) 0 (some 1)=1:=by
   have:=HT.sIx_nat (r.length+1) 0 1;exact this.trans (by omega)
  refine⟨by decide,by rw[e0];omega,?_⟩
  have:=bO (g:=dI 0) (te:=ai [] (dZ (ab 1) (ab 0))) (σ0:=[none,some (B.sh (D.lst (List.map D.int ns)))]) (Q:=λds=>([D.int f]≠[]/\1+ds.length<=sizeLine)/\Q (B.sh (D.tup (D.int f::ds)))) id (VC ns) r (λd hd A ha=>by
   obtain⟨k,rfl,hk⟩:=hr d hd;show dI 0 (D.int k) _ _;walk_at "vg";walk_at "vx";refine aC (n:=k) rfl (dk hk) ?_;walk_at "vx";exact ha) (by rw[sz];omega) ⟨⟨by simp,by rw[List.length_map,sz];omega⟩,h⟩
  rw[List.map_id] at this;exact this
 ·exact hd.elim

def eS:D->Prop
 | .non=>True
 | .tup r=>∃ ns:List Int,r=ns.map D.int
 | _=>False
theorem uy {d:D}(h:eS d):fk d d=true:=by
 unfold eS at h
 split at h
 ·rfl
 ·obtain⟨ns,rfl⟩:=h
  exact ff ns
 ·exact h.elim
theorem pA {d:D}{m:Nat}(h:eS d):bv (m+2) d=true:=by
 unfold eS at h
 split at h
 ·rfl
 ·obtain⟨ns,rfl⟩:=h
  show (ns.map D.int).all (bv (m+1))=true;rw[List.all_map];exact List.all_eq_true.mpr λ_ _=>rfl
 ·exact h.elim
theorem hW:∀ {ds:List D},(∀ d∈ds,eS d)->jm ds ds=true
 | [],_=>rfl
 | d::ds,h=>by
  show (fk d d&&jm ds ds)=true;rw[uy (h d (List.mem_cons_self ..)),hW λx hx=>h x (List.mem_cons_of_mem _ hx)];rfl
theorem dE {ds:List D}(h:∀ d∈ds,eS d):bv 8 (.lst ds)=true:=by
 show ds.all (bv 7)=true;exact List.all_eq_true.mpr λd hd=>pA (m:=5) (h d hd)
theorem zw {ns:List Int}:∀ (r:List D),(∀ d∈r,∃ k:Nat,d=.int k/\k < ns.length)->∃ ms:List Int,r.map (VC ns)=ms.map D.int
 | [],_=>⟨[],rfl⟩
 | d::r,h=>by
  obtain⟨k,rfl,_⟩:=h d (List.mem_cons_self ..);obtain⟨ms,e⟩:=zw r λx hx=>h x (List.mem_cons_of_mem _ hx);exact⟨ns.getD k 0::ms,by rw[List.map_cons,e];rfl⟩
theorem kX {ns:List Int}{d:D}(h:mJ ns.length d):eS (cr ns d):=by
 unfold mJ at h
 split at h
 ·trivial
 ·rename_i f r
  obtain⟨ms,e⟩:=zw r h.2;refine⟨f::ms,?_⟩;rw[e];rfl
 ·exact h.elim
theorem pB (b:Bool)(pts:List (List Int)):mJ pts.length (er b pts):=by
 rcases uw b pts with h|⟨p,q,h1,h2,h3⟩
 ·rw[h];trivial
 ·rw[h3]
  refine⟨by simp,λd hd=>?_⟩
  simp only[List.mem_cons,List.not_mem_nil,or_false] at hd;rcases hd with rfl|rfl
  ·exact⟨p,rfl,by omega⟩
  ·exact⟨q,rfl,h2⟩
theorem rG (b:Bool)(pts:List (List Int))(i:Nat)(hi:i < pts.length):mJ pts.length (cR b pts i):=by
 rcases ux b pts i hi with h|⟨f,k,h1,h2⟩
 ·rw[h];trivial
 ·rw[h2]
  refine⟨by simp,λd hd=>?_⟩
  simp only[List.mem_cons,List.not_mem_nil,or_false] at hd;subst hd;exact⟨k,rfl,h1⟩
theorem zF (s:List Int×List Tr)(t:Tr):∃ x,(aR s t).2=s.2++x:=by
 unfold aR
 split
 ·exact⟨[],(List.append_nil _).symm⟩
 ·exact⟨[t],rfl⟩
theorem mK:∀ (ts:List Tr) (s:List Int×List Tr),∃ x,(ts.foldl aR s).2=s.2++x
 | [],s=>⟨[],(List.append_nil _).symm⟩
 | t::ts,s=>by
  obtain⟨x,e⟩:=zF s t;obtain⟨y,e2⟩:=mK ts (aR s t);exact⟨x++y,by rw[List.foldl_cons,e2,e,List.append_assoc]⟩
theorem vH {b:Bool}{pts:List (List Int)}{l:List D}(h:zr b pts l):l=[]\/∃ r,l=er b pts::r:=by
 obtain⟨ts,e,rfl⟩:=h;obtain⟨us,e2,hu⟩:=mH b pts;have:ts=us:=uu _ _ (by rw[<- e,<- e2])
 subst this;cases ts with
 | nil=>exact .inl rfl
 | cons t ts =>
  obtain⟨h1,h2⟩:=hu t (List.mem_cons_self ..);refine .inr ?_;have e3:er b pts=mG t:=by
   unfold er;rw[mE (fO b pts),e];rfl
  have e4:aR (cq pts.length,[]) t=(rq (cq pts.length) t.2.1 t.2.2,[t]):=by
   unfold aR;rw[if_neg]
   ·rfl
   ·have g:∀ i,i < pts.length->(cq pts.length).getD i 0=(i:Int):=λi hi=>by
     unfold cq;rw[List.getD_eq_getElem?_getD,List.getElem?_map,List.getElem?_range hi];rfl
    show ¬ (cq pts.length).getD t.2.1 0=(cq pts.length).getD t.2.2 0;rw[g _ (by omega),g _ h2];omega
  obtain⟨x,e5⟩:=mK ts (aR (cq pts.length,[]) t);refine⟨x.map mG,?_⟩;show ((t::ts).foldl aR (cq pts.length,[])).2.map mG=_;rw[List.foldl_cons,e5,e4,e3];rfl
theorem uA (ps:List (Int×List Int)):(ps.map λp=>cZ p.2)=(ps.map (·.2)).map cZ:=by rw[List.map_map];rfl
theorem vI (ps:List (Int×List Int)):(ps.map (·.1)).map D.int=(List.range ps.length).map λk=>.int ((ps.map (·.1)).getD k 0):=by
 apply List.ext_getElem?;intro i
 by_cases h:i < ps.length
 ·rw[<- bP,bZ h,List.getElem?_map,List.getElem?_range h];rfl
 ·rw[List.getElem?_eq_none (by simpa using h),List.getElem?_eq_none (by simpa using h)]
theorem cH {α:Type}{g:jn}{te:TD}{σ0:Sd}{Q:List D->Prop}{items:List D}(gi f:α->D)(l:List α)(he:items=l.map gi)
  (h:∀ a∈l,∀ (A:D->Prop),A (f a)->g (gi a) σ0 λσ1=>te σ1 λd σ3=>ja σ0 σ3/\A d)
  (hl:l.length<=sizeLine) (q:Q (l.map f)):eI g bF te σ0 items [] Q:=by
 subst he;exact bO gi f l h hl q
def tw:aK:=λds Q=>∃ b c e n ps j,ds=[.kp (aW b) c e (bH ps),.dci (bH ps),bX b,.int j]/\KOk n ps/\0<=j/\Q (.sh (.bl true))
theorem Rz (ds:List D)(Q:B->Prop)(h:tw ds Q):Js cT kS pr tu pp sZ kT pq tm jF { nx:=λ_=>Q (.sh .non),rt:=λb _=>Q b } (aB Jr.length ds):=by
 obtain⟨b,c,e,n,ps,j,rfl,ok,hj,h⟩:=h;have hl:=ok.len;have hlm:(ps.map (·.2)).length=ps.length:=List.length_map ..
 have hlk:(ps.map (·.1)).length=ps.length:=List.length_map ..
 have okN:bv 8 (.lst ((ps.map (·.1)).map D.int))=true:=rD _
 have eqN:fk (.lst ((ps.map (·.1)).map D.int)) (.lst ((ps.map (·.1)).map D.int))=true:=ff _
 have okP:=Jx (ps.map (·.2))
 have eqP:=Fe (ps.map (·.2))
 have f2:eS (cr (ps.map (·.1)) (er b (ps.map (·.2)))):=kX (by rw[hlk,<- hlm];exact pB b _)
 unfold Js;refine aj λN hN=>?_;walk_at "vx";rw[jG,dW ok.inc];subst hN;refine aj λN hN=>?_;walk_at "vx";refine cH (λp:Int×List Int=>D.int p.1) (λp=>cZ p.2) ps (bP ps).symm (λp hp A ha=>?_) (by rw[sz];omega) ?_
 ·obtain⟨k,hk⟩:=List.getElem?_of_mem hp
  walk_at "vg";walk_at "vx";exact⟨_,dX ok.inc hk,ha⟩
 rw[uA];subst hN;refine aj λN hN=>?_;walk_at "vx";refine⟨⟨_,_,_,_,rfl⟩,⟨List.nodup_nil,(λ_ h=>h.elim),[.kp (aW b) c e (bH ps)],rfl,aW b,c,e,n,ps,rfl,ok,.inl trivial,?_⟩⟩;rw[bP];walk_at "vx";refine⟨⟨okN,okN⟩,?_⟩;rw[eqN,if_neg (by decide)]
 refine cH (λp:Int×List Int=>D.int p.1) (λp=>cZ p.2) ps (bP ps).symm (λp hp A ha=>?_) (by rw[sz];omega) ?_
 ·obtain⟨k,hk⟩:=List.getElem?_of_mem hp
  walk_at "vg";walk_at "vx";refine⟨⟨_,_,_,_,rfl⟩,⟨List.nodup_nil,(λ_ h=>h.elim),[.kp (aW b) c e (bH ps),.int p.1],rfl,aW b,c,e,bH ps,p.1,_,rfl,dX ok.inc hk,.inl trivial,?_⟩⟩;walk_at "vx";exact ha
 rw[uA];refine⟨⟨okP,okP⟩,?_⟩;rw[eqP,if_neg (by decide)]
 subst hN
 -- the two
 refine aj λN hN=>?_;walk_at "vx";refine⟨⟨_,_,_,_,rfl⟩,⟨List.nodup_nil,(λ_ h=>h.elim),[.kp (aW b) c e (bH ps)],rfl,b,c,e,n,ps,rfl,ok,.inl trivial,?_⟩⟩;walk_at "vx";refine⟨b,n,ps.map (·.2),rfl,ok.good,by rw[hlm];exact hl,?_⟩
 walk_at "vx";refine⟨ps.map (·.1),_,rfl,by rw[hlk,<- hlm];exact pB b _,?_⟩
 walk_at "vx";refine⟨⟨pA (m:=6) f2,pA (m:=6) f2⟩,?_⟩;rw[uy f2,if_neg (by decide)]
 subst hN
 -- told
 refine aj λN hN=>?_;walk_at "vx";refine⟨b,n,ps.map (·.2),rfl,ok.good,by rw[hlm];exact hl,?_⟩
 walk_at "vx";subst hN;refine aj λN hN=>?_;walk_at "vx";have fN:∀ d∈(List.range ps.length).map (λk=>cr (ps.map (·.1)) (cR b (ps.map (·.2)) k)),eS d:=λd hd=>by
  obtain⟨k,hk,rfl⟩:=List.mem_map.mp hd;exact kX (by rw[hlk,<- hlm];exact rG b _ k (by rw[hlm];exact List.mem_range.mp hk))
 refine cH (λk:Nat=>D.int ((ps.map (·.1)).getD k 0)) (λk=>cr (ps.map (·.1)) (cR b (ps.map (·.2)) k)) (List.range ps.length) (vI ps) (λk hk A ha=>?_) (by rw[List.length_range,sz];omega) ?_
 ·have hk:=List.mem_range.mp hk
  have hk2:(ps.map (·.1))[k]?=some ((ps.map (·.1)).getD k 0):=by
   rw[List.getD_eq_getElem?_getD,List.getElem?_eq_getElem (by rw[hlk];exact hk)];rfl
  walk_at "vg";walk_at "vx";refine⟨⟨_,_,_,_,rfl⟩,⟨List.nodup_nil,(λ_ h=>h.elim),[.kp (aW b) c e (bH ps),.int ((ps.map (·.1)).getD k 0)],rfl,b,c,e,n,ps,k,_,rfl,ok,hk2,.inl trivial,?_⟩⟩
  walk_at "vx";exact ha
 refine cH (cR b (ps.map (·.2))) (λk=>cr (ps.map (·.1)) (cR b (ps.map (·.2)) k)) (List.range ps.length) (by unfold zi;rw[hlm]) (λk hk A ha=>?_) (by rw[List.length_range,sz];omega) ?_
 ·have hk:=List.mem_range.mp hk
  walk_at "vg";walk_at "vx";refine⟨ps.map (·.1),_,rfl,by rw[hlk,<- hlm];exact rG b _ k (by rw[hlm];exact hk),?_⟩
  walk_at "vx";exact ha
 refine⟨⟨dE fN,dE fN⟩,?_⟩;rw[show fk (.lst _) (.lst _)=true from hW fN,if_neg (by decide)]
 subst hN
 -- the tree
 refine aj λN hN=>?_;walk_at "vx";refine⟨b,n,ps.map (·.2),rfl,ok.good,by rw[hlm];exact hl,λl ht hl2 _=>?_⟩
 walk_at "vx";have key:∃ m,m<=1/\cut l none (some 1)=(List.range m).map (λ_=>er b (ps.map (·.2))):=by
  rcases vH ht with rfl|⟨r,rfl⟩
  ·exact⟨0,by omega,rfl⟩
  ·refine⟨1,by omega,?_⟩
   have:=rp (er b (ps.map (·.2))::r) 1
   exact this
 obtain⟨m,hm,hc⟩:=key;refine cH (λ_:Nat=>er b (ps.map (·.2))) (λ_=>cr (ps.map (·.1)) (er b (ps.map (·.2)))) (List.range m) hc (λk hk A ha=>?_) (by rw[List.length_range,sz];omega) ?_
 ·walk_at "vg"
  walk_at "vx";refine⟨ps.map (·.1),_,rfl,by rw[hlk,<- hlm];exact pB b _,?_⟩
  walk_at "vx";exact ha
 subst hN;refine aj λN hN=>?_;walk_at "vx";refine⟨⟨_,_,_,_,rfl⟩,⟨List.nodup_nil,(λ_ h=>h.elim),[.kp (aW b) c e (bH ps)],rfl,b,c,e,n,ps,rfl,ok,.inl trivial,?_⟩⟩;walk_at "vx";have fT:∀ d∈(List.range m).map (λ_=>cr (ps.map (·.1)) (er b (ps.map (·.2)))),eS d:=λd hd=>by
  obtain⟨k,hk,rfl⟩:=List.mem_map.mp hd;exact f2
 have eT:cut [cr (ps.map (·.1)) (er b (ps.map (·.2)))] none (some (((List.range m).map (λ_=>cr (ps.map (·.1)) (er b (ps.map (·.2))))).length:Int))=(List.range m).map (λ_=>cr (ps.map (·.1)) (er b (ps.map (·.2)))):=by
  rw[List.length_map,List.length_range,rp]
  match m,hm with
  | 0,_=>rfl
  | 1,_=>rfl
 rw[eT];refine⟨by decide,⟨dE fT,dE fT⟩,?_⟩
 rw[show fk (.lst _) (.lst _)=true from hW fT,if_neg (by decide)]
 subst hN
 -- near pairs
 walk_at "vx";refine⟨⟨_,_,_,_,rfl⟩,⟨List.nodup_nil,(λ_ h=>h.elim),[.kp (aW b) c e (bH ps),.int j],rfl,b,c,e,n,ps,j,rfl,ok,hj,.inl trivial,?_⟩⟩;walk_at "vx";refine⟨b,n,ps.map (·.2),j,rfl,ok.good,by rw[hlm];exact hl,hj,?_⟩
 obtain⟨qs,eq,hq,hqs⟩:=rE b (ps.map (·.2)) j
 have hzp:=gZ (b:=b) (pts:=ps.map (·.2)) (by rw[hlm];exact hl)
 rw[rF eq];walk_at "vx";refine cH (λp:Nat×Nat=>D.tup [.int (p.1:Nat),.int (p.2:Nat)]) (Pq (ps.map (·.1))) qs eq (λp hp A ha=>?_) (by rw[sz];omega) ?_
 ·obtain⟨h1,h2⟩:=hqs p hp
  rw[hlm] at h2;walk_at "vg";walk_at "vx";rw[<- bP];refine aC (n:=p.1) rfl (bZ (by omega)) (aC (n:=p.2) rfl (bZ h2) ?_)
  walk_at "vx";exact⟨by decide,ha⟩
 have fQ:∀ d∈qs.map (Pq (ps.map (·.1))),eS d:=λd hd=>by
  obtain⟨p,hp,rfl⟩:=List.mem_map.mp hd;exact⟨[_,_],rfl⟩
 refine⟨⟨dE fQ,dE fQ⟩,?_⟩;rw[show fk (.lst _) (.lst _)=true from hW fQ]
 exact h

def zG:aK:=λds Q=>∃ ns:List Int,ds=[.scr ns]/\ns.length<=63/\Q (.sh (.bl true))
theorem uB:∀ l:List Int,lp (l.map D.int)=true
 | []=>rfl
 | _::l=>uB l
theorem RA (p:List Int):Pn (cZ p)=true:=uB p
theorem uC (p:Addr)(kvs:List (Int×D)):(og p kvs).view=some (.dci kvs):=rfl
theorem Fu (a dx ad:Addr)(w:Str)(c e:Int)(kvs:List (Int×D)):(eu a dx ad w c e kvs).view=some (.kp w c e kvs):=rfl
set_option hygiene false
local macro_rules|`(tactic| walk_at "vv")=>`(tactic| (walk_at "vx";(try simp only[uC,Fu,Option.map_some]);(try walk_at "vx")))
set_option hygiene true
theorem uD {n:Nat}{ps:List (Int×List Int)}{e:Int}{p:List Int}(k:KFar n ps)(hl:ps.length < 1000)(he:∀ q∈ps,q.1 < e)(hp:p.length=n)(hf:∀ v∈p,zh v):KFar n (ps++[(e,p)]):=⟨k.n1,k.n3,λq hq=>by
 rcases List.mem_append.mp hq with hq|hq
 ·exact k.pt q hq
 ·rw[List.mem_singleton.mp hq];exact⟨hp,hf⟩,by
 rw[List.map_append,List.pairwise_append];refine⟨k.inc,List.pairwise_singleton _ _,λa ha c hc=>?_⟩;obtain⟨q,hq,rfl⟩:=List.mem_map.mp ha;rw[List.mem_singleton.mp hc];exact he q hq,by rw[List.length_append,List.length_singleton];omega⟩
theorem kY {ps:List (Int×List Int)}{e:Int}{p:List Int}(he:∀ q∈ps,q.1 < e):cX (bH (ps++[(e,p)])) e=some (cZ p):=by
 unfold cX bH;rw[List.map_append,List.find?_append,List.find?_eq_none.mpr]
 ·rw[Option.none_or]
  show Option.map _ (List.find? _ [(e,cZ p)])=_;rw[List.find?_cons_of_pos (by simp)];rfl
 ·intro x hx
  obtain⟨q,hq,rfl⟩:=List.mem_map.mp hx;have:=he q hq;simp only[decide_eq_true_eq];omega
theorem zH {ps:List (Int×List Int)}{e:Int}{p:List Int}(he:∀ q∈ps,q.1 < e):∀ q∈ps++[(e,p)],q.1 < e+1:=λq hq=>by
 rcases List.mem_append.mp hq with hq|hq
 ·have:=he q hq;omega
 ·rw[List.mem_singleton.mp hq];omega
theorem Fv (ps:List (Int×List Int))(i:Int):fA (bH ps) i=bH (ps.filter λq=>decide (q.1≠i)):=by
 unfold fA bH;rw[List.filter_map];rfl
theorem zI {n:Nat}{ps:List (Int×List Int)}(k:KFar n ps)(i:Int):KFar n (ps.filter λq=>decide (q.1≠i)):=⟨k.n1,k.n3,λq hq=>k.pt q (List.mem_filter.mp hq).1,k.inc.sublist (List.filter_sublist.map _),Nat.le_trans (List.length_filter_le _ _) k.len⟩
theorem RB (ds:List D)(Q:B->Prop)(h:zG ds Q):yY pj hE pv tt pz jH tw { nx:=λ_=>Q (.sh .non),rt:=λb _=>Q b } (aB yX.length ds):=by
 obtain⟨ns,rfl,hns,h⟩:=h;unfold yY;refine aj λN hN=>?_;unfold tX;generalize ht:bn (cU [] 2 _) _=tb;walk_at "vx";refine⟨⟨cut ns none (some 2),by rw[qN],Nat.le_trans (tY _ _ _) hns⟩,λm=>qM (λσ=>∃ x1 x2 x3 x4 x5 x6 x7 x8 x9 x10,σ=[some (.sh (.scr ns)),x1,x2,x3,x4,x5,x6,x7,x8,x9,x10]) (λi c σ N' hI hN'=>?_) (λσ hI=>?_) m 0 _ ⟨_,_,_,_,_,_,_,_,_,_,rfl⟩⟩
 ·obtain⟨x1,x2,x3,x4,x5,x6,x7,x8,x9,x10,rfl⟩:=hI
  subst ht;have r0:cQ [.int c,.int 0]:=⟨_,_,rfl⟩;unfold HW;simp only[List.set_cons_zero,List.set_cons_succ]
  -- way
  refine aj λN1 hN1=>?_;walk_at "vx";refine⟨⟨_,rfl⟩,r0,rfl,λb y1 r1=>?_⟩;walk_at "vx";subst hN1
  -- count
  refine aj λN1 hN1=>?_;walk_at "vx";refine⟨⟨_,rfl⟩,r1,3,rfl,by decide,by decide,λa1 y2 a10 a11 r2=>?_⟩
  walk_at "vx";obtain⟨n,hn1,hn3,rfl⟩:∃ n:Nat,1<=n/\n<=3/\a1=(n:Int) - 1:=⟨(1+a1).toNat,by omega,by omega,by omega⟩
  rw[show 1+((n:Int) - 1)=(n:Int) by omega]
  subst hN1
  -- kept
  refine aj λN1 hN1=>?_;walk_at "vx";refine⟨b,n,rfl,by omega,by omega,λa1 dx1 ad1=>?_⟩
  subst hN1;refine aj λN1 hN1=>?_;walk_at "vx";refine⟨false,n,rfl,by omega,by omega,λa2 dx2 ad2=>?_⟩
  subst hN1;refine aj λN1 hN1=>?_;walk_at "vx";intro p6;subst hN1;refine aj λN1 hN1=>?_;walk_at "vx";intro p7;subst hN1;refine aj λN1 hN1=>?_;walk_at "vx";subst hN1
  -- the doings
  refine aj λN1 hN1=>?_;show eG _ _ _ _ _;generalize ht:bn (ce (pU (sQ false (dA 6)) _) _ _) _=tb;walk_at "vx";refine⟨⟨_,rfl⟩,r2,31,rfl,by decide,by decide,λma y3 ma0 ma1 r3=>?_⟩
  obtain⟨many,rfl⟩:∃ k:Nat,ma=k:=⟨ma.toNat,by omega⟩
  walk_at "vx";rw[Int.toNat_natCast,cA];refine⟨by omega,ge (λi:Nat=>.int (0+(i:Nat))) (List.range many) (λi σ=>∃ y ps qs e x9 x10,σ=[some (.sh (.scr ns)),some (.own y),some (.sh (bX b)),some (.sh (.int n)),some (.obj (eu a1 dx1 ad1 (aW b) n e (bH ps))),some (.obj (eu a2 dx2 ad2 (aW false) n qs.length (bH qs))),some (.obj (og p6 (bH ps))),some (.obj (og p7 (bH qs))),some (.sh (.int e)),x9,x10]/\cQ y/\KFar n ps/\KFar n qs/\(∀ q∈ps,q.1 < e)/\(∀ q∈qs,q.1 < (qs.length:Int))/\ps.length<=i/\qs.length<=i) (λi k σ N2 hx hI hN2=>?_) (λσ hI=>?_) ⟨y3,[],[],0,_,_,rfl,r3,⟨hn1,hn3,nofun,List.Pairwise.nil,by decide⟩,⟨hn1,hn3,nofun,List.Pairwise.nil,by decide⟩,nofun,nofun,by decide,by decide⟩⟩
  ·obtain⟨rfl,hi⟩:=iJ hx
   obtain⟨y,ps,qs,e,x9,x10,rfl,ry,kp,kq,hpe,hqe,hpl,hql⟩:=hI;walk_at "vg";subst ht;refine aj λN3 hN3=>?_;show ce _ _ _ _ _;generalize ht1:bn (xG 6 _ _) _=t1;generalize ht2:bn (cU [] 10 _) _=t2;have hl1:=kp.len;have hl2:=kq.len;have mid:∀ y ps qs e x10,cQ y->KFar n ps->KFar n qs->(∀ q∈ps,q.1 < e)->(∀ q∈qs,q.1 < (qs.length:Int))->ps.length<=k+1->qs.length<=k+1->N3 [some (.sh (.scr ns)),some (.own y),some (.sh (bX b)),some (.sh (.int n)),some (.obj (eu a1 dx1 ad1 (aW b) n e (bH ps))),some (.obj (eu a2 dx2 ad2 (aW false) n qs.length (bH qs))),some (.obj (og p6 (bH ps))),some (.obj (og p7 (bH qs))),some (.sh (.int e)),some (.sh (.int k)),x10]:=by
    intro y ps qs e x10 ry kp kq hpe hqe hpl hql;subst hN3;walk_at "vv";refine⟨by decide,⟨rfl,rfl⟩,?_⟩
    have fin:∀ y,cQ y->N2 [some (.sh (.scr ns)),some (.own y),some (.sh (bX b)),some (.sh (.int n)),some (.obj (eu a1 dx1 ad1 (aW b) n e (bH ps))),some (.obj (eu a2 dx2 ad2 (aW false) n qs.length (bH qs))),some (.obj (og p6 (bH ps))),some (.obj (og p7 (bH qs))),some (.sh (.int e)),some (.sh (.int k)),x10]:=λy ry=>hN2 _ ⟨y,ps,qs,e,_,_,rfl,ry,kp,kq,hpe,hqe,hpl,hql⟩
    split
    ·refine⟨⟨_,rfl⟩,⟨_,rfl⟩,⟨_,rfl⟩,ry,20,rfl,by decide,by decide,λa3 y4 a30 a31 r4=>?_⟩
     walk_at "vv";refine⟨List.nodup_nil,λ_ _=>trivial,[.kp (aW b) n e (bH ps),.dci (bH ps),bX b,.int a3],rfl,b,n,e,n,ps,a3,rfl,kp.ok,a30,.inr ⟨rfl,rfl⟩,?_⟩;walk_at "vv";exact (if_neg (by decide)).mpr (fin y4 r4)
    ·exact fin y ry
   have put:∀ y,cQ y->t1 { nx:=N3,rt:=λb x=>Q b,bk:=N1,ct:=N2 } [some (.sh (.scr ns)),some (.own y),some (.sh (bX b)),some (.sh (.int n)),some (.obj (eu a1 dx1 ad1 (aW b) n e (bH ps))),some (.obj (eu a2 dx2 ad2 (aW false) n qs.length (bH qs))),some (.obj (og p6 (bH ps))),some (.obj (og p7 (bH qs))),some (.sh (.int e)),some (.sh (.int k)),x10]:=by
    intro y ry;subst ht1;refine aj λN4 hN4=>?_;walk_at "vv";refine⟨⟨_,rfl⟩,⟨_,rfl⟩,by decide,(λj hj=>by rw[List.mem_singleton.mp hj];decide),y,[.int n,.dci (bH ps)],rfl,ry,n,ps,rfl,kp,λp y5 hp hf r5=>?_⟩
    have hno:lp y5=true:=by obtain⟨_,_,rfl⟩:=r5;rfl
    refine⟨.inr ⟨RA p,by simp only[List.map_cons,List.map_nil,List.all_cons,List.all_nil,Il,hno];rfl⟩,?_⟩
    walk_at "vv";refine⟨⟨_,_,rfl⟩,p6,bH ps,rfl,by rw[dY,sz];omega,?_⟩
    rw[kU hpe];subst hN4;refine aj λN4 hN4=>?_;walk_at "vv";have hz:=uD kp (by omega) hpe hp hf
    refine⟨⟨_,_,_,_,_,rfl,rfl⟩,_,kY hpe,by decide,(λ_ h=>h.elim),a1,dx1,ad1,b,n,e,n,ps,p,rfl,by rw[hp],by omega,hpe,.inl trivial,?_⟩
    walk_at "vv";refine⟨⟨rfl,rfl⟩,?_⟩;rw[uq,if_neg (by decide)]
    subst hN4;refine aj λN4 hN4=>?_;walk_at "vv";refine⟨_,kY hpe,⟨_,_,rfl⟩,p7,bH qs,rfl,by rw[dY,sz];omega,?_⟩
    rw[dY,kU hqe];subst hN4;refine aj λN4 hN4=>?_;walk_at "vv";refine⟨⟨_,_,_,_,_,rfl,rfl⟩,_,kY hpe,by decide,(λ_ h=>h.elim),a2,dx2,ad2,false,n,qs.length,n,qs,p,rfl,by rw[hp],by omega,hqe,.inl trivial,?_⟩
    walk_at "vv";subst hN4;walk_at "vv";have:=mid y5 (ps++[(e,p)]) (qs++[((qs.length:Int),p)]) (e+1) x10 r5 hz (uD kq (by omega) hqe hp hf) (zH hpe) (by rw[List.length_append,List.length_singleton];exact zH hqe) (by rw[List.length_append,List.length_singleton];omega) (by rw[List.length_append,List.length_singleton];omega)
    rw[List.length_append,List.length_singleton] at this;exact this
   walk_at "vx";simp only[uC,Bool.false_eq_true,if_false,decide_eq_true_eq]
   split
   ·exact put y ry
   ·rename_i hne
    have hps:0 < ps.length:=by
     cases ps with
     | nil=>exact absurd rfl hne
     | cons _ _=>simp
    refine⟨⟨_,rfl⟩,ry,3,rfl,by decide,by decide,λa3 y4 a30 a31 r4=>?_⟩
    walk_at "vx"
    split
    ·exact put y4 r4
    ·subst ht2
     refine aj λN4 hN4=>?_;walk_at "vv";refine⟨⟨_,rfl⟩,r4,_,rfl,by rw[dY];omega,by rw[dY];omega,λr y5 q0 q1 r5=>?_⟩
     rw[dY] at q1;rw[jG,dW kp.inc,<- bP];walk_at "vv";obtain⟨j,rfl⟩:∃ j:Nat,r=j:=⟨r.toNat,by omega⟩
     have hj:j < ps.length:=by omega
     refine aC (n:=j) rfl (by rw[List.getElem?_map,List.getElem?_eq_getElem hj];rfl) ?_
     have hiv:=dX kp.inc (List.getElem?_eq_getElem hj);subst hN4;refine aj λN4 hN4=>?_;walk_at "vv";refine⟨⟨_,_,rfl⟩,p6,bH ps,rfl,by rw[hiv];rfl,?_⟩
     subst hN4;walk_at "vv";refine⟨⟨_,_,_,_,_,rfl,rfl⟩,by decide,(λ_ h=>h.elim),a1,dx1,ad1,aW b,n,e,ps[j].1,bH ps,rfl,by rw[hiv];rfl,.inl trivial,?_⟩
     walk_at "vv";rw[Fv];exact mid y5 _ qs e _ r5 (zI kp ps[j].1) kq (λq hq=>hpe q (List.mem_filter.mp hq).1) hqe (Nat.le_trans (List.length_filter_le _ _) (by omega)) (by omega)
  ·obtain⟨y,ps,qs,e,x9,x10,rfl,ry,kp,kq,hpe,hqe,hpl,hql⟩:=hI
   show N1 _;subst hN1;refine aj λN3 hN3=>?_;walk_at "vv";refine⟨⟨_,rfl⟩,⟨_,rfl⟩,List.nodup_nil,λ_ _=>trivial,[.kp (aW b) n e (bH ps),.dci (bH ps),bX b,.int 1],rfl,b,n,e,n,ps,1,rfl,kp.ok,by decide,.inr ⟨rfl,rfl⟩,?_⟩
   walk_at "vv";refine (if_neg (by decide)).mpr ?_
   refine⟨⟨_,rfl⟩,⟨_,rfl⟩,by unfold mW;decide,List.nodup_nil,λ_ _=>trivial,[.kp (aW b) n e (bH ps),.dci (bH ps),bX b,.int ((10:Int)^Int.toNat 15)],rfl,b,n,e,n,ps,_,rfl,kp.ok,by decide,.inr ⟨rfl,rfl⟩,?_⟩
   walk_at "vv";refine (if_neg (by decide)).mpr ?_
   subst hN3;walk_at "vv";refine⟨⟨_,rfl⟩,⟨_,rfl⟩,List.nodup_nil,λ_ _=>trivial,[.kp (aW false) n qs.length (bH qs),.dci (bH qs),bX false,.int 2],rfl,false,n,qs.length,n,qs,2,rfl,kq.ok,by decide,.inr ⟨rfl,rfl⟩,?_⟩
   walk_at "vv";refine (if_neg (by decide)).mpr ?_
   exact hN' _ ⟨_,_,_,_,_,_,_,_,_,_,rfl⟩
 ·obtain⟨x1,x2,x3,x4,x5,x6,x7,x8,x9,x10,rfl⟩:=hI
  subst hN;walk_at "vx";exact h

end
def uE (K:PySem.W.Frag):Sp:=λvs H Q _=>∃ (a:Addr) (ns:List Int),vs=[.ref a]/\SqL K H a (ns.map V.int)/\ns.length<=63/\∀ H',Q (.bl true) H'
-- level 6
section
variable [KF]{G:GE}{k:Nat}
local macro_rules|`(tactic| walk_at "8")=>`(tactic| (intro xs ds Q h;first|(obtain⟨e,_⟩:=h;rw[e];rfl) | (obtain⟨_,e,_⟩:=h;rw[e];rfl) | (obtain⟨_,_,e,_⟩:=h;rw[e];rfl) | (obtain⟨_,_,_,e,_⟩:=h;rw[e];rfl) | (obtain⟨_,_,_,_,e,_⟩:=h;rw[e];rfl) | (obtain⟨_,_,_,_,_,e,_⟩:=h;rw[e];rfl) | (obtain⟨_,_,_,_,_,_,e,_⟩:=h;rw[e];rfl) | (obtain⟨_,_,_,_,_,_,_,e,_⟩:=h;rw[e];rfl) | (obtain⟨_,_,_,_,_,_,_,_,e,_⟩:=h;rw[e];rfl) | (obtain⟨_,_,_,_,_,_,_,_,_,e,_⟩:=h;rw[e];rfl) | (obtain⟨_,_,_,_,_,_,_,_,_,_,e,_⟩:=h;rw[e];rfl)))
local macro_rules|`(tactic| walk_at "7")=>`(tactic| (intro ds Q h;first|(obtain⟨e,_⟩:=h;rw[e];rfl) | (obtain⟨_,e,_⟩:=h;rw[e];rfl) | (obtain⟨_,_,e,_⟩:=h;rw[e];rfl) | (obtain⟨_,_,_,e,_⟩:=h;rw[e];rfl) | (obtain⟨_,_,_,_,e,_⟩:=h;rw[e];rfl) | (obtain⟨_,_,_,_,_,e,_⟩:=h;rw[e];rfl) | (obtain⟨_,_,_,_,_,_,e,_⟩:=h;rw[e];rfl) | (obtain⟨_,_,_,_,_,_,_,e,_⟩:=h;rw[e];rfl) | (obtain⟨_,_,_,_,_,_,_,_,e,_⟩:=h;rw[e];rfl) | (obtain⟨_,_,_,_,_,_,_,_,_,e,_⟩:=h;rw[e];rfl) | (obtain⟨_,_,_,_,_,_,_,_,_,_,e,_⟩:=h;rw[e];rfl)))
theorem JI (hK:G.K=KF.K)(hT:KF.tabs=[])(E:Gl G)
    {rH:Addr} {JJ:FuncData} (zJ:FnD G "need_count" gt ["count"] rH JJ)
    {zK:Addr} {RC:FuncData} (JK:FnD G "need_as_many_numbers" oz ["point","count"] zK RC)
    {rJ:Addr} {JL:FuncData} (zL:FnD G "need_points" gu ["points"] rJ JL)
    {rK:Addr} {JM:FuncData} (zM:FnD G "need_way" gw ["way"] rK JM)
    {zN:Addr} {RD:FuncData} (JN:FnD G "need_points_and_way" oA ["points","way"] zN RD)
    {rL:Addr} {JO:FuncData} (zO:FnD G "need_place" gy ["points","place"] rL JO)
    {rM:Addr} {JP:FuncData} (zP:FnD G "need_bound" gz ["bound"] rM JP)
    {rN:Addr} {JQ:FuncData} (zQ:FnD G "far_between" gA ["way","point","other"] rN JQ)
    {zR:Addr} {RE:FuncData} (JR:FnD G "pairs_by_places" oC ["points","way"] zR RE)
    {rO:Addr} {JS:FuncData} (zS:FnD G "all_pairs" gB ["points","way"] rO JS)
    {rP:Addr} {JT:FuncData} (zU:FnD G "near_pairs" gD ["points","way","bound"] rP JT)
    {zV:Addr} {RF:FuncData} (JU:FnD G "nearest_among" oG ["points","way","point","places"] zV RF)
    {zW:Addr} {RG:FuncData} (JV:FnD G "nearest_other" oH ["points","way","place"] zW RG)
    {rQ:Addr} {JW:FuncData} (zX:FnD G "nearest_two" gE ["points","way"] rQ JW)
    {rR:Addr} {JX:FuncData} (zY:FnD G "nearest_of" gF ["points","way","place"] rR JX)
    {rS:Addr} {JY:FuncData} (zZ:FnD G "nearest_all" gH ["points","way"] rS JY)
    {vJ:Addr} {RH:FuncData} (JZ:InD G "__init__" "Kept.__init__" oJ ["self","way","count"] vJ RH)
    {mL:Addr} {Ka:FuncData} (Aa:MtD G "put" "Kept.put" gI ["self","point"] mL Ka)
    {mM:Addr} {Kb:FuncData} (Ab:MtD G "take" "Kept.take" gJ ["self","name"] mM Kb)
    {mN:Addr} {Kc:FuncData} (Ac:MtD G "names" "Kept.names" gK ["self"] mN Kc)
    {mO:Addr} {Kd:FuncData} (Ad:MtD G "point" "Kept.point" gL ["self","name"] mO Kd)
    {mP:Addr} {Ke:FuncData} (Ae:MtD G "two" "Kept.two" gM ["self"] mP Ke)
    {vK:Addr} {RI:FuncData} (Kf:MtD G "nearest" "Kept.nearest" oN ["self","name"] vK RI)
    {mQ:Addr} {Kg:FuncData} (Af:MtD G "near" "Kept.near" gN ["self","bound"] mQ Kg)
    {vL:Addr} {RJ:FuncData} (Kh:MtD G "need_name" "Kept.need_name" oP ["self","name"] vL RJ)
    {vM:Addr} {RK:FuncData} (Ki:MtD G "plain_points" "Kept.plain_points" oQ ["self"] vM RK)
    {rT:Addr} {Kj:FuncData} (Ag:FnD G "joined" gO ["leasts","i","j"] rT Kj)
    {rU:Addr} {Kk:FuncData} (Ah:FnD G "least_tree" gP ["points","way"] rU Kk)
    {rV:Addr} {Kl:FuncData} (Ai:FnD G "_law_next" gQ ["pot","many"] rV Kl)
    {rW:Addr} {Km:FuncData} (Aj:FnD G "_law_pots" gR ["script"] rW Km)
    {rX:Addr} {Kn:FuncData} (Ak:FnD G "_law_way" gS ["pot"] rX Kn)
    {rY:Addr} {Ko:FuncData} (Al:FnD G "_law_point" gT ["pot","count","own"] rY Ko)
    {rZ:Addr} {Kq:FuncData} (Am:FnD G "_law_named" gU ["names","pair"] rZ Kq)
    {An:Addr} {RL:FuncData} (Kr:FnD G "_law_as_plain" oT ["kept","own","way","bound"] An RL)
    {mR:Addr} {Ao:FuncData} (Ap:FnD G "law" eh ["script"] mR Ao)
   :FnOk G.P G.w G.K G.mg G.base fv 7 mR Ao ["script"] (uE G.K):=by
  have yZ:FnPots G 1 "_law_pots":=Aj.pots (k:=0) hK Jn rfl rfl (Rb E);have cl:FnIo G 1 "_law_next" hE:=Ai.fio (k:=0) hK Jm (Ra E) (by decide) (by walk_at "8") Jy
  have za:FnIo G 2 "_law_way" pj:=Ak.fio (k:=1) hK Jo (Rc E (cl.mono (by decide))) (by decide) (by walk_at "8") Jz
  have mw:FnG G 1 "need_count" fe:=zJ.fg (k:=0) hK Iy (Qx E) (by walk_at "7") zf
  have mx:FnG G 1 "need_way" jE:=zM.fg (k:=0) hK IC (QA E) (by walk_at "7") Jw
  have Fd:FnIn G 3 pv:=JZ.fi (k:=1) hK QO (Vv E (mw.mono (by decide)) (mx.mono (by decide))) (by walk_at "7") JG
  have zb:FnIo G 2 "_law_point" tt:=Al.fio (k:=1) hK Jp (Re E (cl.mono (by decide))) (by decide) (by walk_at "8") Rx
  have vC:FnG G 1 "need_as_many_numbers" pe:=JK.fg (k:=0) hK Qy (Vp E) (by walk_at "7") Rm
  have ul:FnMt G 2 "put" pz:=Aa.fmu (k:=1) (ios:=[0]) hK IY (QP E (vC.mono (by decide))) (by walk_at "7") Fq (by decide) Rw
  have oK:FnMt G 1 "need_name" (cY rC):=Kh.fg (k:=0) hK QW (Vy E) (by walk_at "7") VB
  have zc:FnMt G 2 "take" jH:=Ab.fmu (k:=1) (ios:=[0]) hK IZ (QQ E (oK.mono (by decide))) (by walk_at "7") Fs (by decide) JH
  have cP:FnMt G 1 "names" (cY cT):=Ac.fg (k:=0) hK Ja (QR E) (by walk_at "7") Fl
  have yT:FnMt G 2 "point" (cY kS):=Ad.fg (k:=1) hK Jb (QS E (oK.mono (by decide))) (by walk_at "7") Fm
  have xX:FnG G 2 "need_points" ph:=zL.fg (k:=1) hK IB (Qz E (mw.mono (by decide)) (vC.mono (by decide))) (by walk_at "7") Jv
  have fL:FnG G 3 "need_points_and_way" fM:=JN.fg (k:=2) hK QB (Vq E (xX.mono (by decide)) (mx.mono (by decide))) (by walk_at "7") Rn
  have my:FnG G 1 "far_between" kN:=zQ.fg (k:=0) hK II (QE E) (by walk_at "7") Rl
  have oE:FnG G 2 "pairs_by_places" eQ:=JR.fg (k:=1) hK QF (Vr E (my.mono (by decide))) (by walk_at "7") Ff
  have mB:FnG G 4 "nearest_two" pp:=zX.fg (k:=3) hK IT (QL E (fL.mono (by decide)) (oE.mono (by decide))) (by walk_at "7") Rp
  have oM:FnMt G 2 "plain_points" (cY kR):=Ki.fg (k:=1) hK QX (Vz E (cP.mono (by decide))) (by walk_at "7") Rt
  have uk:FnMt G 5 "two" (cY pr):=Ae.fg (k:=4) hK Jc (QT E (mB.mono (by decide)) (oM.mono (by decide)) (cP.mono (by decide))) (by walk_at "7") JF
  have qY:FnG G 1 "_law_named" tu:=Am.fg (k:=0) hK Jq (Rf E) (by walk_at "7") Ry
  have IR:FnG G 2 "nearest_among" kP:=JU.fg (k:=1) hK QJ (Vt E (my.mono (by decide))) (by walk_at "7") Fg
  have vD:FnG G 3 "nearest_other" cS:=JV.fg (k:=2) hK QK (Vu E (IR.mono (by decide))) (by walk_at "7") Fh
  have yU:FnG G 4 "nearest_all" sZ:=zZ.fg (k:=3) hK IV (QN E (fL.mono (by decide)) (vD.mono (by decide))) (by walk_at "7") Rq
  have yo:FnG G 1 "need_place" iL:=zO.fg (k:=0) hK IG (QC E) (by walk_at "7") zk
  have yC:FnG G 4 "nearest_of" cS:=zY.fg (k:=3) hK IU (QM E (fL.mono (by decide)) (yo.mono (by decide)) (vD.mono (by decide))) (by walk_at "7") Ru
  have Jt:FnMt G 5 "nearest" (cY kT):=Kf.fg (k:=4) hK QU (Vw E (oK.mono (by decide)) (cP.mono (by decide)) (yC.mono (by decide)) (oM.mono (by decide))) (by walk_at "7") Fo
  have yJ:FnG G 4 "all_pairs" iO:=zS.fg (k:=3) hK IK (QH E (fL.mono (by decide)) (oE.mono (by decide))) (by walk_at "7") JC
  have yK:FnG G 1 "joined" eO:=Ag.fg (k:=0) hK Jk (QY E) (by walk_at "7") Rs
  have yV:FnG G 5 "least_tree" pq:=Ah.fg (k:=4) hK Jl (QZ E (yJ.mono (by decide)) (yK.mono (by decide))) (by walk_at "7") JE
  have yi:FnG G 1 "need_bound" iM:=zP.fg (k:=0) hK IH (QD E) (by walk_at "7") zp
  have mC:FnG G 4 "near_pairs" jF:=zU.fg (k:=3) hK IL (QI E (fL.mono (by decide)) (yi.mono (by decide)) (oE.mono (by decide))) (by walk_at "7") JB
  have yW:FnMt G 5 "near" (cY tm):=Af.fg (k:=4) hK Jf (QV E (cP.mono (by decide)) (mC.mono (by decide)) (oM.mono (by decide))) (by walk_at "7") Rv
  have vE:FnG G 6 "_law_as_plain" tw:=Kr.fg (k:=5) hK Rg (VA E (cP.mono (by decide)) (yT.mono (by decide)) (uk.mono (by decide)) (qY.mono (by decide)) (mB.mono (by decide)) (yU.mono (by decide)) (Jt.mono (by decide)) (yV.mono (by decide)) (yW.mono (by decide)) (mC.mono (by decide))) (by walk_at "7") Rz
  refine (wJ (k:=6) (sp:=zG) hK Ap.F Ju (Rh E (yZ.mono (by decide)) (za.mono (by decide)) (cl.mono (by decide)) (Fd.mono (by decide)) (zb.mono (by decide)) (ul.mono (by decide)) (zc.mono (by decide)) (vE.mono (by decide))) (by walk_at "7") RB).imp λvs H Q E' h=>?_
  obtain⟨a,ns,rfl,hS,hl,q⟩:=h;refine⟨H,[.scr ns],λb=>b=.sh (.bl true),⟨Same.refl _,λq hq=>by rw[hT] at hq;cases hq⟩,.cons (.scr (by rw[<- hK];exact hS)) .nil,⟨ns,rfl,hl,rfl⟩,λv H' F' b _ _ _ _ r e=>?_⟩
  subst e;have r:Rep F' v (.bl true):=r;cases r;exact q H'
end

theorem all_mk {l:PySem.W.OpenLaw}{w:World}{K:PySem.W.Frag}{h:Heap}{mg:Str->Option Value}{fa:Addr}(X:K.In h)(Gs:h.Ns mainGlobals mg)(hfa:mg "law"=some (.ref fa))
  {C_Kept:Addr}
 {rH zK rJ rK zN rL rM rN zR rO rP zV zW rQ rR rS vJ mL mM mN mO mP vK mQ vL vM rT rU rV rW rX rY rZ An mR:Addr}
 {Ks Kt RM RN Ku Kv Kw Kx RO RP Ky Kz KA KB KC KD RQ RT KE KH KI KJ RU RV RW RX KK KL KM KN KO KP RY RZ KQ KR KS KU KW KY KZ La Lb Lc Sa Sb Ld Le Se Sf Sg Sh Lf Lg Lh Li Lj Lk Ll Lm Ln Lo Lp Lq Lr Ls Si Sj Lu Aq:Option Addr}
 {Lv Sk Lw Lx Sl Ly Lz LA Sm LB LC Sn Sr LD LE LF Ss LG LH LI LJ LK Su LL Sv Sw LM LN LO LP LQ LR LS Sx LT:Array (Option Value)}
 {LU LV LW LX As LY Sy Sz SA SB FS SD LZ Ma Mb Mc Au Md Me Mf Mg Mh Av Mi SE SF SG SH FT SJ Mj Ml Mm Mn Aw Mo Mp Mq Mr Ms Ax Mt Mu Mv Mw Mx Ay My SK SL SM SN FU SO Mz MA MB MC Az MD ME MF MG MH AA MI SQ SR SS ST FV SU SV SW SX SY FW SZ MJ MK ML MM AB MN MO MP MQ MR AC MS MT MU MV MW AD MX Ta Tb Tc Td FX Te MY MZ Na Nb AE Nc Nd Nf Ng Nh AF Ni Nj Nk Nl Nm AG Nn No Np Nq Nr AH Nt Nu Nv Nx Ny AI Nz Tf Tg Th Ti FY Tj NA NB NC ND AJ NE Tk Tl Tm Tn FZ To Tp Tq Ts Tt Ga Tu NF NG NH NI AK NJ NK NL NM NN AL NO NP NQ NR NS AM NT NU NV NW NX AN NY NZ Oa Ob Oc AO Od Oe Of Og Oh AQ Oi Oj Ol Om On AR Oo Tv Tw Tx Ty Gb Tz Op AS AU AW tz AX:Value}
  {tk_SQUARES:Tok}
  {tk_STREETS:Tok}
  (g_Kept:PySem.W.nsIn K mainGlobals "Kept"=some (some (.ref C_Kept))) (pg_Kept:PySem.W.plainGet K C_Kept Str.empty=true) (hd_Kept:PySem.W.hasDictIn K C_Kept=true) (po_Kept:PySem.W.plainOver K C_Kept=true) (sa_Kept:PySem.W.findIn K (.ref C_Kept) "__setattr__"=some (some (.builtin "object.__setattr__")))
  (n1_Kept:PySem.W.findIn K (.ref C_Kept) "way"=some none) (n2_Kept:PySem.W.findIn K (.ref C_Kept) "count"=some none) (n3_Kept:PySem.W.findIn K (.ref C_Kept) "points_by_name"=some none) (n4_Kept:PySem.W.findIn K (.ref C_Kept) "ever_put"=some none)
  (mk_Kept:PySem.W.makesIn K C_Kept=true) (kp_Kept:PySem.W.keepIn K (.ref C_Kept)=true)
  (AY:PySem.W.nsIn K mainGlobals "need_count"=some (some (.ref rH)))
  (AZ:K.lookup rH=some ⟨LU,Ks,.func (PySem.W.fnOf "need_count" "need_count" (av gt) (ag gt) (aa gt) .none LV LW LX Kt As LY),Lv⟩)
  (Ba:PySem.W.codeIn K As "need_count"=true) (Bb:PySem.W.keepIn K (.ref rH)=true)
  (Oq:PySem.W.nsIn K mainGlobals "need_as_many_numbers"=some (some (.ref zK)))
  (Os:K.lookup zK=some ⟨Sy,RM,.func (PySem.W.fnOf "need_as_many_numbers" "need_as_many_numbers" (av oz) (ag oz) (aa oz) .none Sz SA SB RN FS SD),Sk⟩)
  (Ot:PySem.W.codeIn K FS "need_as_many_numbers"=true) (Ou:PySem.W.keepIn K (.ref zK)=true)
  (Bc:PySem.W.nsIn K mainGlobals "need_points"=some (some (.ref rJ)))
  (Be:K.lookup rJ=some ⟨LZ,Ku,.func (PySem.W.fnOf "need_points" "need_points" (av gu) (ag gu) (aa gu) .none Ma Mb Mc Kv Au Md),Lw⟩)
  (Bf:PySem.W.codeIn K Au "need_points"=true) (Bg:PySem.W.keepIn K (.ref rJ)=true)
  (Bh:PySem.W.nsIn K mainGlobals "need_way"=some (some (.ref rK)))
  (Bi:K.lookup rK=some ⟨Me,Kw,.func (PySem.W.fnOf "need_way" "need_way" (av gw) (ag gw) (aa gw) .none Mf Mg Mh Kx Av Mi),Lx⟩)
  (Bj:PySem.W.codeIn K Av "need_way"=true) (Bk:PySem.W.keepIn K (.ref rK)=true)
  (Ov:PySem.W.nsIn K mainGlobals "need_points_and_way"=some (some (.ref zN)))
  (Ow:K.lookup zN=some ⟨SE,RO,.func (PySem.W.fnOf "need_points_and_way" "need_points_and_way" (av oA) (ag oA) (aa oA) .none SF SG SH RP FT SJ),Sl⟩)
  (Ox:PySem.W.codeIn K FT "need_points_and_way"=true) (Oy:PySem.W.keepIn K (.ref zN)=true)
  (Bl:PySem.W.nsIn K mainGlobals "need_place"=some (some (.ref rL)))
  (Bm:K.lookup rL=some ⟨Mj,Ky,.func (PySem.W.fnOf "need_place" "need_place" (av gy) (ag gy) (aa gy) .none Ml Mm Mn Kz Aw Mo),Ly⟩)
  (Bo:PySem.W.codeIn K Aw "need_place"=true) (Bp:PySem.W.keepIn K (.ref rL)=true)
  (Bq:PySem.W.nsIn K mainGlobals "need_bound"=some (some (.ref rM)))
  (Br:K.lookup rM=some ⟨Mp,KA,.func (PySem.W.fnOf "need_bound" "need_bound" (av gz) (ag gz) (aa gz) .none Mq Mr Ms KB Ax Mt),Lz⟩)
  (Bs:PySem.W.codeIn K Ax "need_bound"=true) (Bt:PySem.W.keepIn K (.ref rM)=true)
  (Bu:PySem.W.nsIn K mainGlobals "far_between"=some (some (.ref rN)))
  (Bv:K.lookup rN=some ⟨Mu,KC,.func (PySem.W.fnOf "far_between" "far_between" (av gA) (ag gA) (aa gA) .none Mv Mw Mx KD Ay My),LA⟩)
  (Bw:PySem.W.codeIn K Ay "far_between"=true) (Bx:PySem.W.keepIn K (.ref rN)=true)
  (Oz:PySem.W.nsIn K mainGlobals "pairs_by_places"=some (some (.ref zR)))
  (OA:K.lookup zR=some ⟨SK,RQ,.func (PySem.W.fnOf "pairs_by_places" "pairs_by_places" (av oC) (ag oC) (aa oC) .none SL SM SN RT FU SO),Sm⟩)
  (OB:PySem.W.codeIn K FU "pairs_by_places"=true) (OC:PySem.W.keepIn K (.ref zR)=true)
  (Bz:PySem.W.nsIn K mainGlobals "all_pairs"=some (some (.ref rO)))
  (BA:K.lookup rO=some ⟨Mz,KE,.func (PySem.W.fnOf "all_pairs" "all_pairs" (av gB) (ag gB) (aa gB) .none MA MB MC KH Az MD),LB⟩)
  (BB:PySem.W.codeIn K Az "all_pairs"=true) (BC:PySem.W.keepIn K (.ref rO)=true)
  (BD:PySem.W.nsIn K mainGlobals "near_pairs"=some (some (.ref rP)))
  (BE:K.lookup rP=some ⟨ME,KI,.func (PySem.W.fnOf "near_pairs" "near_pairs" (av gD) (ag gD) (aa gD) .none MF MG MH KJ AA MI),LC⟩)
  (BF:PySem.W.codeIn K AA "near_pairs"=true) (BG:PySem.W.keepIn K (.ref rP)=true)
  (OD:PySem.W.nsIn K mainGlobals "nearest_among"=some (some (.ref zV)))
  (OE:K.lookup zV=some ⟨SQ,RU,.func (PySem.W.fnOf "nearest_among" "nearest_among" (av oG) (ag oG) (aa oG) .none SR SS ST RV FV SU),Sn⟩)
  (OF:PySem.W.codeIn K FV "nearest_among"=true) (OG:PySem.W.keepIn K (.ref zV)=true)
  (OH:PySem.W.nsIn K mainGlobals "nearest_other"=some (some (.ref zW)))
  (OI:K.lookup zW=some ⟨SV,RW,.func (PySem.W.fnOf "nearest_other" "nearest_other" (av oH) (ag oH) (aa oH) .none SW SX SY RX FW SZ),Sr⟩)
  (OJ:PySem.W.codeIn K FW "nearest_other"=true) (OL:PySem.W.keepIn K (.ref zW)=true)
  (BH:PySem.W.nsIn K mainGlobals "nearest_two"=some (some (.ref rQ)))
  (BI:K.lookup rQ=some ⟨MJ,KK,.func (PySem.W.fnOf "nearest_two" "nearest_two" (av gE) (ag gE) (aa gE) .none MK ML MM KL AB MN),LD⟩)
  (BJ:PySem.W.codeIn K AB "nearest_two"=true) (BK:PySem.W.keepIn K (.ref rQ)=true)
  (BL:PySem.W.nsIn K mainGlobals "nearest_of"=some (some (.ref rR)))
  (BM:K.lookup rR=some ⟨MO,KM,.func (PySem.W.fnOf "nearest_of" "nearest_of" (av gF) (ag gF) (aa gF) .none MP MQ MR KN AC MS),LE⟩)
  (BN:PySem.W.codeIn K AC "nearest_of"=true) (BO:PySem.W.keepIn K (.ref rR)=true)
  (BP:PySem.W.nsIn K mainGlobals "nearest_all"=some (some (.ref rS)))
  (BQ:K.lookup rS=some ⟨MT,KO,.func (PySem.W.fnOf "nearest_all" "nearest_all" (av gH) (ag gH) (aa gH) .none MU MV MW KP AD MX),LF⟩)
  (BR:PySem.W.codeIn K AD "nearest_all"=true) (BS:PySem.W.keepIn K (.ref rS)=true)
  (OM:PySem.W.findIn K (.ref C_Kept) "__init__"=some (some (.ref vJ)))
  (ON:K.lookup vJ=some ⟨Ta,RY,.func (PySem.W.fnOf "__init__" "Kept.__init__" (av oJ) (ag oJ) (aa oJ) .none Tb Tc Td RZ FX Te),Ss⟩)
  (OO:PySem.W.codeIn K FX "Kept.__init__"=true) (OP:PySem.W.keepIn K (.ref vJ)=true) (OQ:PySem.W.isFn K (.ref vJ)=true)
  (BT:PySem.W.findIn K (.ref C_Kept) "put"=some (some (.ref mL)))
  (BU:K.lookup mL=some ⟨MY,KQ,.func (PySem.W.fnOf "put" "Kept.put" (av gI) (ag gI) (aa gI) .none MZ Na Nb KR AE Nc),LG⟩)
  (BV:PySem.W.codeIn K AE "Kept.put"=true) (uF:PySem.W.keepIn K (.ref mL)=true) (BW:PySem.W.isFn K (.ref mL)=true)
  (BX:PySem.W.findIn K (.ref C_Kept) "take"=some (some (.ref mM)))
  (BZ:K.lookup mM=some ⟨Nd,KS,.func (PySem.W.fnOf "take" "Kept.take" (av gJ) (ag gJ) (aa gJ) .none Nf Ng Nh KU AF Ni),LH⟩)
  (Ca:PySem.W.codeIn K AF "Kept.take"=true) (uG:PySem.W.keepIn K (.ref mM)=true) (Cb:PySem.W.isFn K (.ref mM)=true)
  (Cc:PySem.W.findIn K (.ref C_Kept) "names"=some (some (.ref mN)))
  (Cd:K.lookup mN=some ⟨Nj,KW,.func (PySem.W.fnOf "names" "Kept.names" (av gK) (ag gK) (aa gK) .none Nk Nl Nm KY AG Nn),LI⟩)
  (Ce:PySem.W.codeIn K AG "Kept.names"=true) (uH:PySem.W.keepIn K (.ref mN)=true) (Cf:PySem.W.isFn K (.ref mN)=true)
  (Cg:PySem.W.findIn K (.ref C_Kept) "point"=some (some (.ref mO)))
  (Ci:K.lookup mO=some ⟨No,KZ,.func (PySem.W.fnOf "point" "Kept.point" (av gL) (ag gL) (aa gL) .none Np Nq Nr La AH Nt),LJ⟩)
  (Cj:PySem.W.codeIn K AH "Kept.point"=true) (uI:PySem.W.keepIn K (.ref mO)=true) (Ck:PySem.W.isFn K (.ref mO)=true)
  (Cm:PySem.W.findIn K (.ref C_Kept) "two"=some (some (.ref mP)))
  (Cn:K.lookup mP=some ⟨Nu,Lb,.func (PySem.W.fnOf "two" "Kept.two" (av gM) (ag gM) (aa gM) .none Nv Nx Ny Lc AI Nz),LK⟩)
  (Co:PySem.W.codeIn K AI "Kept.two"=true) (uJ:PySem.W.keepIn K (.ref mP)=true) (Cp:PySem.W.isFn K (.ref mP)=true)
  (OT:PySem.W.findIn K (.ref C_Kept) "nearest"=some (some (.ref vK)))
  (OU:K.lookup vK=some ⟨Tf,Sa,.func (PySem.W.fnOf "nearest" "Kept.nearest" (av oN) (ag oN) (aa oN) .none Tg Th Ti Sb FY Tj),Su⟩)
  (OW:PySem.W.codeIn K FY "Kept.nearest"=true) (Fx:PySem.W.keepIn K (.ref vK)=true) (OX:PySem.W.isFn K (.ref vK)=true)
  (Cq:PySem.W.findIn K (.ref C_Kept) "near"=some (some (.ref mQ)))
  (Cr:K.lookup mQ=some ⟨NA,Ld,.func (PySem.W.fnOf "near" "Kept.near" (av gN) (ag gN) (aa gN) .none NB NC ND Le AJ NE),LL⟩)
  (Cs:PySem.W.codeIn K AJ "Kept.near"=true) (uK:PySem.W.keepIn K (.ref mQ)=true) (Ct:PySem.W.isFn K (.ref mQ)=true)
  (OY:PySem.W.findIn K (.ref C_Kept) "need_name"=some (some (.ref vL)))
  (OZ:K.lookup vL=some ⟨Tk,Se,.func (PySem.W.fnOf "need_name" "Kept.need_name" (av oP) (ag oP) (aa oP) .none Tl Tm Tn Sf FZ To),Sv⟩)
  (Pa:PySem.W.codeIn K FZ "Kept.need_name"=true) (Fy:PySem.W.keepIn K (.ref vL)=true) (Pb:PySem.W.isFn K (.ref vL)=true)
  (Pc:PySem.W.findIn K (.ref C_Kept) "plain_points"=some (some (.ref vM)))
  (Pd:K.lookup vM=some ⟨Tp,Sg,.func (PySem.W.fnOf "plain_points" "Kept.plain_points" (av oQ) (ag oQ) (aa oQ) .none Tq Ts Tt Sh Ga Tu),Sw⟩)
  (Pe:PySem.W.codeIn K Ga "Kept.plain_points"=true) (Fz:PySem.W.keepIn K (.ref vM)=true) (Pg:PySem.W.isFn K (.ref vM)=true)
  (Cu:PySem.W.nsIn K mainGlobals "joined"=some (some (.ref rT)))
  (Cv:K.lookup rT=some ⟨NF,Lf,.func (PySem.W.fnOf "joined" "joined" (av gO) (ag gO) (aa gO) .none NG NH NI Lg AK NJ),LM⟩)
  (Cw:PySem.W.codeIn K AK "joined"=true) (Cy:PySem.W.keepIn K (.ref rT)=true)
  (Cz:PySem.W.nsIn K mainGlobals "least_tree"=some (some (.ref rU)))
  (CA:K.lookup rU=some ⟨NK,Lh,.func (PySem.W.fnOf "least_tree" "least_tree" (av gP) (ag gP) (aa gP) .none NL NM NN Li AL NO),LN⟩)
  (CB:PySem.W.codeIn K AL "least_tree"=true) (CC:PySem.W.keepIn K (.ref rU)=true)
  (CD:PySem.W.nsIn K mainGlobals "_law_next"=some (some (.ref rV)))
  (CF:K.lookup rV=some ⟨NP,Lj,.func (PySem.W.fnOf "_law_next" "_law_next" (av gQ) (ag gQ) (aa gQ) .none NQ NR NS Lk AM NT),LO⟩)
  (CG:PySem.W.codeIn K AM "_law_next"=true) (CH:PySem.W.keepIn K (.ref rV)=true)
  (CI:PySem.W.nsIn K mainGlobals "_law_pots"=some (some (.ref rW)))
  (CJ:K.lookup rW=some ⟨NU,Ll,.func (PySem.W.fnOf "_law_pots" "_law_pots" (av gR) (ag gR) (aa gR) .none NV NW NX Lm AN NY),LP⟩)
  (CK:PySem.W.codeIn K AN "_law_pots"=true) (CL:PySem.W.keepIn K (.ref rW)=true)
  (CN:PySem.W.nsIn K mainGlobals "_law_way"=some (some (.ref rX)))
  (CO:K.lookup rX=some ⟨NZ,Ln,.func (PySem.W.fnOf "_law_way" "_law_way" (av gS) (ag gS) (aa gS) .none Oa Ob Oc Lo AO Od),LQ⟩)
  (CP:PySem.W.codeIn K AO "_law_way"=true) (CQ:PySem.W.keepIn K (.ref rX)=true)
  (CS:PySem.W.nsIn K mainGlobals "_law_point"=some (some (.ref rY)))
  (CT:K.lookup rY=some ⟨Oe,Lp,.func (PySem.W.fnOf "_law_point" "_law_point" (av gT) (ag gT) (aa gT) .none Of Og Oh Lq AQ Oi),LR⟩)
  (CU:PySem.W.codeIn K AQ "_law_point"=true) (CV:PySem.W.keepIn K (.ref rY)=true)
  (CW:PySem.W.nsIn K mainGlobals "_law_named"=some (some (.ref rZ)))
  (CY:K.lookup rZ=some ⟨Oj,Lr,.func (PySem.W.fnOf "_law_named" "_law_named" (av gU) (ag gU) (aa gU) .none Ol Om On Ls AR Oo),LS⟩)
  (CZ:PySem.W.codeIn K AR "_law_named"=true) (Da:PySem.W.keepIn K (.ref rZ)=true)
  (Ph:PySem.W.nsIn K mainGlobals "_law_as_plain"=some (some (.ref An)))
  (Pi:K.lookup An=some ⟨Tv,Si,.func (PySem.W.fnOf "_law_as_plain" "_law_as_plain" (av oT) (ag oT) (aa oT) .none Tw Tx Ty Sj Gb Tz),Sx⟩)
  (Pj:PySem.W.codeIn K Gb "_law_as_plain"=true) (Pk:PySem.W.keepIn K (.ref An)=true)
  (uL:PySem.W.nsIn K mainGlobals "law"=some (some (.ref mR)))
  (Db:K.lookup mR=some ⟨Op,Lu,.func (PySem.W.fnOf "law" "law" (av eh) (ag eh) (aa eh) .none AS AU AW Aq tz AX),LT⟩)
  (Dc:PySem.W.codeIn K tz "law"=true) (Dd:PySem.W.keepIn K (.ref mR)=true)
  (z_abs:PySem.W.nsIn K mainGlobals "abs"=some none)
  (z_len:PySem.W.nsIn K mainGlobals "len"=some none)
  (z_list:PySem.W.nsIn K mainGlobals "list"=some none)
  (z_max:PySem.W.nsIn K mainGlobals "max"=some none)
  (z_min:PySem.W.nsIn K mainGlobals "min"=some none)
  (z_range:PySem.W.nsIn K mainGlobals "range"=some none)
  (z_sorted:PySem.W.nsIn K mainGlobals "sorted"=some none)
  (z_sum:PySem.W.nsIn K mainGlobals "sum"=some none)
  (z_tuple:PySem.W.nsIn K mainGlobals "tuple"=some none)
  (z_zip:PySem.W.nsIn K mainGlobals "zip"=some none)
  (u_SQUARES:PySem.W.nsIn K mainGlobals "SQUARES"=some (some (.str "squares" tk_SQUARES)))
  (u_STREETS:PySem.W.nsIn K mainGlobals "STREETS"=some (some (.str "streets" tk_STREETS))) :
  ∃ fd:FuncData,(∀ (s:Shared) (v:Value),BindsTo s fd ⟨[v],[]⟩ [("script",v)])/\∀ base:Heap,K.In base->base.Ns mainGlobals mg->FnOk l.prog w K mg base fv 7 fa fd ["script"] (uE K):=by
 have e:=hfa.symm.trans (PySem.W.mg_of X Gs uL);cases e;refine⟨PySem.W.fnOf "law" "law" (av eh) (ag eh) (aa eh) .none AS AU AW Aq tz AX,λs v=>.of_eq rfl,λbase _ _=>?_⟩
 letI:KF:=⟨K,λx=>if x="Kept" then C_Kept else 0,[]⟩
 have k_Kept:KF.cls "Kept"=C_Kept:=if_pos rfl;have kg:KG ⟨l.prog,w,K,mg,base⟩:=⟨by rw[show kC=C_Kept from k_Kept];exact⟨pg_Kept,hd_Kept,po_Kept,sa_Kept⟩,λf hf=>by
  rw[show kC=C_Kept from k_Kept]
  simp only[List.mem_cons,List.not_mem_nil,or_false] at hf;rcases hf with rfl|rfl|rfl|rfl
  ·exact n1_Kept
  ·exact n2_Kept
  ·exact n3_Kept
  ·exact n4_Kept⟩
 have E:Gl ⟨l.prog,w,K,mg,base⟩:=⟨kg,PySem.W.mg_none_of X Gs z_abs,PySem.W.mg_none_of X Gs z_len,PySem.W.mg_none_of X Gs z_list,PySem.W.mg_none_of X Gs z_max,PySem.W.mg_none_of X Gs z_min,PySem.W.mg_none_of X Gs z_range,PySem.W.mg_none_of X Gs z_sorted,PySem.W.mg_none_of X Gs z_sum,PySem.W.mg_none_of X Gs z_tuple,PySem.W.mg_none_of X Gs z_zip,⟨_,.str "squares",PySem.W.mg_of X Gs u_SQUARES,⟨_,rfl⟩,λF=>.str _⟩,⟨_,.str "streets",PySem.W.mg_of X Gs u_STREETS,⟨_,rfl⟩,λF=>.str _⟩⟩;have Gc:=aH (K:=K) (st:=gt) AZ Ba Bb;have zJ:FnD ⟨l.prog,w,K,mg,base⟩ "need_count" gt ["count"] _ _:=⟨Gc,PySem.W.mg_of X Gs AY,Gc.binds λ_ _ _ _ _ _ us hl=>len1 (λ_=>rfl) us hl⟩;have TC:=aH (K:=K) (st:=oz) Os Ot Ou;have JK:FnD ⟨l.prog,w,K,mg,base⟩ "need_as_many_numbers" oz ["point","count"] _ _:=⟨TC,PySem.W.mg_of X Gs Oq,TC.binds λ_ _ _ _ _ _ us hl=>len2 (λ_ _=>rfl) us hl⟩;have Gd:=aH (K:=K) (st:=gu) Be Bf Bg;have zL:FnD ⟨l.prog,w,K,mg,base⟩ "need_points" gu ["points"] _ _:=⟨Gd,PySem.W.mg_of X Gs Bc,Gd.binds λ_ _ _ _ _ _ us hl=>len1 (λ_=>rfl) us hl⟩;have Ge:=aH (K:=K) (st:=gw) Bi Bj Bk;have zM:FnD ⟨l.prog,w,K,mg,base⟩ "need_way" gw ["way"] _ _:=⟨Ge,PySem.W.mg_of X Gs Bh,Ge.binds λ_ _ _ _ _ _ us hl=>len1 (λ_=>rfl) us hl⟩;have TF:=aH (K:=K) (st:=oA) Ow Ox Oy;have JN:FnD ⟨l.prog,w,K,mg,base⟩ "need_points_and_way" oA ["points","way"] _ _:=⟨TF,PySem.W.mg_of X Gs Ov,TF.binds λ_ _ _ _ _ _ us hl=>len2 (λ_ _=>rfl) us hl⟩;have Gf:=aH (K:=K) (st:=gy) Bm Bo Bp;have zO:FnD ⟨l.prog,w,K,mg,base⟩ "need_place" gy ["points","place"] _ _:=⟨Gf,PySem.W.mg_of X Gs Bl,Gf.binds λ_ _ _ _ _ _ us hl=>len2 (λ_ _=>rfl) us hl⟩;have Gg:=aH (K:=K) (st:=gz) Br Bs Bt;have zP:FnD ⟨l.prog,w,K,mg,base⟩ "need_bound" gz ["bound"] _ _:=⟨Gg,PySem.W.mg_of X Gs Bq,Gg.binds λ_ _ _ _ _ _ us hl=>len1 (λ_=>rfl) us hl⟩;have Gh:=aH (K:=K) (st:=gA) Bv Bw Bx;have zQ:FnD ⟨l.prog,w,K,mg,base⟩ "far_between" gA ["way","point","other"] _ _:=⟨Gh,PySem.W.mg_of X Gs Bu,Gh.binds λ_ _ _ _ _ _ us hl=>len3 (λ_ _ _=>rfl) us hl⟩;have TH:=aH (K:=K) (st:=oC) OA OB OC;have JR:FnD ⟨l.prog,w,K,mg,base⟩ "pairs_by_places" oC ["points","way"] _ _:=⟨TH,PySem.W.mg_of X Gs Oz,TH.binds λ_ _ _ _ _ _ us hl=>len2 (λ_ _=>rfl) us hl⟩;have Gi:=aH (K:=K) (st:=gB) BA BB BC;have zS:FnD ⟨l.prog,w,K,mg,base⟩ "all_pairs" gB ["points","way"] _ _:=⟨Gi,PySem.W.mg_of X Gs Bz,Gi.binds λ_ _ _ _ _ _ us hl=>len2 (λ_ _=>rfl) us hl⟩;have Gj:=aH (K:=K) (st:=gD) BE BF BG;have zU:FnD ⟨l.prog,w,K,mg,base⟩ "near_pairs" gD ["points","way","bound"] _ _:=⟨Gj,PySem.W.mg_of X Gs BD,Gj.binds λ_ _ _ _ _ _ us hl=>len3 (λ_ _ _=>rfl) us hl⟩;have TJ:=aH (K:=K) (st:=oG) OE OF OG
 have JU:FnD ⟨l.prog,w,K,mg,base⟩ "nearest_among" oG ["points","way","point","places"] _ _:=⟨TJ,PySem.W.mg_of X Gs OD,TJ.binds λ_ _ _ _ _ _ us hl=>len4 (λ_ _ _ _=>rfl) us hl⟩;have TK:=aH (K:=K) (st:=oH) OI OJ OL;have JV:FnD ⟨l.prog,w,K,mg,base⟩ "nearest_other" oH ["points","way","place"] _ _:=⟨TK,PySem.W.mg_of X Gs OH,TK.binds λ_ _ _ _ _ _ us hl=>len3 (λ_ _ _=>rfl) us hl⟩;have Gk:=aH (K:=K) (st:=gE) BI BJ BK;have zX:FnD ⟨l.prog,w,K,mg,base⟩ "nearest_two" gE ["points","way"] _ _:=⟨Gk,PySem.W.mg_of X Gs BH,Gk.binds λ_ _ _ _ _ _ us hl=>len2 (λ_ _=>rfl) us hl⟩;have Gm:=aH (K:=K) (st:=gF) BM BN BO;have zY:FnD ⟨l.prog,w,K,mg,base⟩ "nearest_of" gF ["points","way","place"] _ _:=⟨Gm,PySem.W.mg_of X Gs BL,Gm.binds λ_ _ _ _ _ _ us hl=>len3 (λ_ _ _=>rfl) us hl⟩;have Gn:=aH (K:=K) (st:=gH) BQ BR BS;have zZ:FnD ⟨l.prog,w,K,mg,base⟩ "nearest_all" gH ["points","way"] _ _:=⟨Gn,PySem.W.mg_of X Gs BP,Gn.binds λ_ _ _ _ _ _ us hl=>len2 (λ_ _=>rfl) us hl⟩;have TL:=aH (K:=K) (st:=oJ) ON OO OP;have JZ:InD ⟨l.prog,w,K,mg,base⟩ "__init__" "Kept.__init__" oJ ["self","way","count"] _ _:=⟨TL,by rw[show kC=C_Kept from k_Kept];exact⟨mk_Kept,OM,OQ,kp_Kept⟩,TL.binds λ_ _ _ _ _ _ us hl=>len3 (λ_ _ _=>rfl) us hl,by rw[show kC=C_Kept from k_Kept];exact PySem.W.mg_of X Gs g_Kept⟩
 have Go:=aH (K:=K) (st:=gI) BU BV uF;have Aa:MtD ⟨l.prog,w,K,mg,base⟩ "put" "Kept.put" gI ["self","point"] _ _:=⟨Go,by rw[show kC=C_Kept from k_Kept];exact⟨BT,BW,uF⟩,Go.binds λ_ _ _ _ _ _ us hl=>len2 (λ_ _=>rfl) us hl⟩
 have Gp:=aH (K:=K) (st:=gJ) BZ Ca uG;have Ab:MtD ⟨l.prog,w,K,mg,base⟩ "take" "Kept.take" gJ ["self","name"] _ _:=⟨Gp,by rw[show kC=C_Kept from k_Kept];exact⟨BX,Cb,uG⟩,Gp.binds λ_ _ _ _ _ _ us hl=>len2 (λ_ _=>rfl) us hl⟩
 have Gq:=aH (K:=K) (st:=gK) Cd Ce uH;have Ac:MtD ⟨l.prog,w,K,mg,base⟩ "names" "Kept.names" gK ["self"] _ _:=⟨Gq,by rw[show kC=C_Kept from k_Kept];exact⟨Cc,Cf,uH⟩,Gq.binds λ_ _ _ _ _ _ us hl=>len1 (λ_=>rfl) us hl⟩
 have Gr:=aH (K:=K) (st:=gL) Ci Cj uI;have Ad:MtD ⟨l.prog,w,K,mg,base⟩ "point" "Kept.point" gL ["self","name"] _ _:=⟨Gr,by rw[show kC=C_Kept from k_Kept];exact⟨Cg,Ck,uI⟩,Gr.binds λ_ _ _ _ _ _ us hl=>len2 (λ_ _=>rfl) us hl⟩
 have Gu:=aH (K:=K) (st:=gM) Cn Co uJ;have Ae:MtD ⟨l.prog,w,K,mg,base⟩ "two" "Kept.two" gM ["self"] _ _:=⟨Gu,by rw[show kC=C_Kept from k_Kept];exact⟨Cm,Cp,uJ⟩,Gu.binds λ_ _ _ _ _ _ us hl=>len1 (λ_=>rfl) us hl⟩
 have TM:=aH (K:=K) (st:=oN) OU OW Fx;have Kf:MtD ⟨l.prog,w,K,mg,base⟩ "nearest" "Kept.nearest" oN ["self","name"] _ _:=⟨TM,by rw[show kC=C_Kept from k_Kept];exact⟨OT,OX,Fx⟩,TM.binds λ_ _ _ _ _ _ us hl=>len2 (λ_ _=>rfl) us hl⟩
 have Gv:=aH (K:=K) (st:=gN) Cr Cs uK;have Af:MtD ⟨l.prog,w,K,mg,base⟩ "near" "Kept.near" gN ["self","bound"] _ _:=⟨Gv,by rw[show kC=C_Kept from k_Kept];exact⟨Cq,Ct,uK⟩,Gv.binds λ_ _ _ _ _ _ us hl=>len2 (λ_ _=>rfl) us hl⟩
 have TN:=aH (K:=K) (st:=oP) OZ Pa Fy;have Kh:MtD ⟨l.prog,w,K,mg,base⟩ "need_name" "Kept.need_name" oP ["self","name"] _ _:=⟨TN,by rw[show kC=C_Kept from k_Kept];exact⟨OY,Pb,Fy⟩,TN.binds λ_ _ _ _ _ _ us hl=>len2 (λ_ _=>rfl) us hl⟩
 have TQ:=aH (K:=K) (st:=oQ) Pd Pe Fz;have Ki:MtD ⟨l.prog,w,K,mg,base⟩ "plain_points" "Kept.plain_points" oQ ["self"] _ _:=⟨TQ,by rw[show kC=C_Kept from k_Kept];exact⟨Pc,Pg,Fz⟩,TQ.binds λ_ _ _ _ _ _ us hl=>len1 (λ_=>rfl) us hl⟩
 have Gw:=aH (K:=K) (st:=gO) Cv Cw Cy;have Ag:FnD ⟨l.prog,w,K,mg,base⟩ "joined" gO ["leasts","i","j"] _ _:=⟨Gw,PySem.W.mg_of X Gs Cu,Gw.binds λ_ _ _ _ _ _ us hl=>len3 (λ_ _ _=>rfl) us hl⟩;have Gx:=aH (K:=K) (st:=gP) CA CB CC;have Ah:FnD ⟨l.prog,w,K,mg,base⟩ "least_tree" gP ["points","way"] _ _:=⟨Gx,PySem.W.mg_of X Gs Cz,Gx.binds λ_ _ _ _ _ _ us hl=>len2 (λ_ _=>rfl) us hl⟩;have Gy:=aH (K:=K) (st:=gQ) CF CG CH;have Ai:FnD ⟨l.prog,w,K,mg,base⟩ "_law_next" gQ ["pot","many"] _ _:=⟨Gy,PySem.W.mg_of X Gs CD,Gy.binds λ_ _ _ _ _ _ us hl=>len2 (λ_ _=>rfl) us hl⟩;have Gz:=aH (K:=K) (st:=gR) CJ CK CL;have Aj:FnD ⟨l.prog,w,K,mg,base⟩ "_law_pots" gR ["script"] _ _:=⟨Gz,PySem.W.mg_of X Gs CI,Gz.binds λ_ _ _ _ _ _ us hl=>len1 (λ_=>rfl) us hl⟩;have GA:=aH (K:=K) (st:=gS) CO CP CQ;have Ak:FnD ⟨l.prog,w,K,mg,base⟩ "_law_way" gS ["pot"] _ _:=⟨GA,PySem.W.mg_of X Gs CN,GA.binds λ_ _ _ _ _ _ us hl=>len1 (λ_=>rfl) us hl⟩;have GB:=aH (K:=K) (st:=gT) CT CU CV;have Al:FnD ⟨l.prog,w,K,mg,base⟩ "_law_point" gT ["pot","count","own"] _ _:=⟨GB,PySem.W.mg_of X Gs CS,GB.binds λ_ _ _ _ _ _ us hl=>len3 (λ_ _ _=>rfl) us hl⟩;have GC:=aH (K:=K) (st:=gU) CY CZ Da;have Am:FnD ⟨l.prog,w,K,mg,base⟩ "_law_named" gU ["names","pair"] _ _:=⟨GC,PySem.W.mg_of X Gs CW,GC.binds λ_ _ _ _ _ _ us hl=>len2 (λ_ _=>rfl) us hl⟩;have TR:=aH (K:=K) (st:=oT) Pi Pj Pk;have Kr:FnD ⟨l.prog,w,K,mg,base⟩ "_law_as_plain" oT ["kept","own","way","bound"] _ _:=⟨TR,PySem.W.mg_of X Gs Ph,TR.binds λ_ _ _ _ _ _ us hl=>len4 (λ_ _ _ _=>rfl) us hl⟩;have GD:=aH (K:=K) (st:=eh) Db Dc Dd;have Ap:FnD ⟨l.prog,w,K,mg,base⟩ "law" eh ["script"] _ _:=⟨GD,PySem.W.mg_of X Gs uL,GD.binds λ_ _ _ _ _ _ us hl=>len1 (λ_=>rfl) us hl⟩;exact JI rfl rfl E zJ JK zL zM JN zO zP zQ JR zS zU JU JV zX zY zZ JZ Aa Ab Ac Ad Ae Kf Af Kh Ki Ag Ah Ai Aj Ak Al Am Kr Ap
theorem walk {l:PySem.W.OpenLaw}{q:Program}{loose:List Str}{XP:(Str->Option Value)->Heap->Prop}{YP:World->Heap->Prop}{d:DefRec}{K:Params->PySem.W.Frag}(hn:l.most=some 63)(hdf:d.params.defaults=[])
  (hY:∀ (w:World) (h:Heap),YP w h->(K w.params).In h)
  (F:∀ (w:World) (mg:Str->Option Value) (fa:Addr) (h:Heap),(K w.params).In h->h.Ns mainGlobals mg->mg d.name=some (.ref fa) ->
   ∃ fd:FuncData,(∀ (s:Shared) (u:Value),BindsTo s fd ⟨[u],[]⟩ [("script",u)])/\∀ base:Heap,(K w.params).In base->base.Ns mainGlobals mg->FnOk l.prog w (K w.params) mg base fv 7 fa fd ["script"] (uE (K w.params))) :
  PySem.W.WalkO q loose XP YP l.row.toRowW d [] (λf vs=>PySem.call f vs) :=
 L2.walk_of (n:=63) (k:=7) (x:="script") (CX:=λ_=>fv) (sp:=λw=>uE (K w.params)) hn (by decide) hdf ⟨rfl,by decide,by decide⟩ hY F (λ_ _ a ns hl _ hS=>⟨a,ns,rfl,hS,hl,λ_=>rfl⟩) λ_ _ _ _ _ z=>z

end K33
theorem PySem.W.Fast.tw5176143189350724668:True:=trivial
theorem PySem.W.Fast.tw6427347774745022174:True:=trivial
theorem PySem.W.Fast.tw14430259182552929745:True:=trivial
theorem PySem.W.Fast.tw8087276659907906384:True:=trivial
theorem PySem.W.Fast.tw7352192148444344828:True:=trivial
theorem PySem.W.Fast.tw6541741191479438144:True:=trivial
theorem PySem.W.Fast.tw9148108368927590431:True:=trivial
theorem PySem.W.Fast.tw13434067249153444311:True:=trivial
theorem PySem.W.Fast.tw1202643610667558677:True:=trivial
theorem PySem.W.Fast.tw17688815265415667777:True:=trivial
theorem PySem.W.Fast.tw9171722552844382059:True:=trivial
theorem PySem.W.Fast.tw6140548205936244918:True:=trivial
theorem PySem.W.Fast.tw3290168478323159126:True:=trivial
theorem PySem.W.Fast.tw7066711206817286127:True:=trivial
theorem PySem.W.Fast.tw16930758074098429421:True:=trivial
theorem PySem.W.Fast.tw9485618406636048149:True:=trivial
theorem PySem.W.Fast.tw6259407186785976976:True:=trivial
theorem PySem.W.Fast.tw2910407318837157008:True:=trivial
theorem PySem.W.Fast.tw921844044637513644:True:=trivial
theorem PySem.W.Fast.tw18158707001242045692:True:=trivial
theorem PySem.W.Fast.tw8199513257936912352:True:=trivial
theorem PySem.W.Fast.tw3062732062914124279:True:=trivial
theorem PySem.W.Fast.tw93241154607164613:True:=trivial
theorem PySem.W.Fast.tw10496816368915144786:True:=trivial
theorem PySem.W.Fast.tw12170937989346783302:True:=trivial
theorem PySem.W.Fast.tw7250719399952367589:True:=trivial
theorem PySem.W.Fast.tw2064293935719424253:True:=trivial
theorem PySem.W.Fast.tw7078060013339069396:True:=trivial
theorem PySem.W.Fast.tw1914224489486330971:True:=trivial
theorem PySem.W.Fast.tw7716178738489762345:True:=trivial
theorem PySem.W.Fast.tw2888163019297056673:True:=trivial
theorem PySem.W.Fast.tw15609257272668327367:True:=trivial
theorem PySem.W.Fast.tw7358304018825719760:True:=trivial
theorem PySem.W.Fast.tw18349020583773181164:True:=trivial
theorem PySem.W.Fast.tw11102788501909447554:True:=trivial
theorem PySem.W.Fast.tw6409843706257443660:True:=trivial
theorem PySem.W.Fast.tw16787716383786251200:True:=trivial
theorem PySem.W.Fast.tw2198866872271794295:True:=trivial
theorem PySem.W.Fast.tw17641345153669264161:True:=trivial
theorem PySem.W.Fast.tw9652425443302114781:True:=trivial
theorem PySem.W.Fast.tw6601068112681371211:True:=trivial
theorem PySem.W.Fast.tw1744439912675893429:True:=trivial
theorem PySem.W.Fast.tw8980674088355950595:True:=trivial
theorem PySem.W.Fast.tw13755027615913125753:True:=trivial
theorem PySem.W.Fast.tw16372018206605840732:True:=trivial
theorem PySem.W.Fast.tw3330852957849534731:True:=trivial
theorem PySem.W.Fast.tw9860293323031790250:True:=trivial
theorem PySem.W.Fast.tw5348966157869654294:True:=trivial
theorem PySem.W.Fast.tw5930165201033008502:True:=trivial
theorem PySem.W.Fast.tw12014124640259924371:True:=trivial
theorem PySem.W.Fast.tw16772452308998300068:True:=trivial
theorem PySem.W.Fast.tw4425123417365970360:True:=trivial
theorem PySem.W.Fast.tw10049340978436538954:True:=trivial
theorem PySem.W.Fast.tw1906607098179766522:True:=trivial
theorem PySem.W.Fast.tw5749975498848603927:True:=trivial
theorem PySem.W.Fast.tw9290031089445191940:True:=trivial
theorem PySem.W.Fast.tw3187057834389880842:True:=trivial
theorem PySem.W.Fast.tw16791516676198780752:True:=trivial
theorem PySem.W.Fast.tw11014537068217060929:True:=trivial
theorem PySem.W.Fast.tw2608398569572473718:True:=trivial
theorem PySem.W.Fast.tw15331793892473840874:True:=trivial
theorem PySem.W.Fast.tw14126915105799071866:True:=trivial
theorem PySem.W.Fast.tw1839473088978528178:True:=trivial
theorem PySem.W.Fast.tw16662282184487286585:True:=trivial
theorem PySem.W.Fast.tw14973537512762172009:True:=trivial
theorem PySem.W.Fast.tw9490105509052754732:True:=trivial
theorem PySem.W.Fast.tw1111769605682573461:True:=trivial
theorem PySem.W.Fast.tw8989963444273223732:True:=trivial
theorem PySem.W.Fast.tw6974677592891005805:True:=trivial
theorem PySem.W.Fast.tw13918647711074365301:True:=trivial
theorem PySem.W.Fast.tw4969591078744496851:True:=trivial
theorem PySem.W.Fast.tw2259693293528698625:True:=trivial
theorem PySem.W.Fast.tw1511942780501819094:True:=trivial
theorem PySem.W.Fast.tw13299733386435818750:True:=trivial
theorem PySem.W.Fast.tw5108203633154127483:True:=trivial
theorem PySem.W.Fast.tw569532089127781421:True:=trivial
theorem PySem.W.Fast.tw13909934964574555572:True:=trivial
theorem PySem.W.Fast.tw6789391407911955769:True:=trivial
open PySem PySem.W PyProof.Rows
set_option maxRecDepth 100000 in
set_option maxHeartbeats 0 in
theorem PySem.Challenge.cw_closepoints_k33_whole_kept_as_plain_holds : PySem.Challenge.rw_closepoints_k33_whole_kept_as_plain.Holds := by
 w_on;o_law;z_head;(case hw=>w_witness2)
 k_fill
 refine Vc.x_of_o (λ_=>by kernel_rfl) (K33.walk (l:=PySem.Challenge.rw_closepoints_k33_whole_kept_as_plain) rfl rfl (λw h Y=>Y) ?F)
 case F =>
  intro w mg fa h KX G hmg;refine' K33.all_mk KX G hmg ?g_Kept ?pg_Kept ?hd_Kept ?po_Kept ?sa_Kept ?n1_Kept ?n2_Kept ?n3_Kept ?n4_Kept ?mk_Kept ?kp_Kept ?AY ?AZ ?Ba ?Bb ?Oq ?Os ?Ot ?Ou ?Bc ?Be ?Bf ?Bg ?Bh ?Bi ?Bj ?Bk ?Ov ?Ow ?Ox ?Oy ?Bl ?Bm ?Bo ?Bp ?Bq ?Br ?Bs ?Bt ?Bu ?Bv ?Bw ?Bx ?Oz ?OA ?OB ?OC ?Bz ?BA ?BB ?BC ?BD ?BE ?BF ?BG ?OD ?OE ?OF ?OG ?OH ?OI ?OJ ?OL ?BH ?BI ?BJ ?BK ?BL ?BM ?BN ?BO ?BP ?BQ ?BR ?BS ?OM ?ON ?OO ?OP ?OQ ?BT ?BU ?BV ?uF ?BW ?BX ?BZ ?Ca ?uG ?Cb ?Cc ?Cd ?Ce ?uH ?Cf ?Cg ?Ci ?Cj ?uI ?Ck ?Cm ?Cn ?Co ?uJ ?Cp ?OT ?OU ?OW ?Fx ?OX ?Cq ?Cr ?Cs ?uK ?Ct ?OY ?OZ ?Pa ?Fy ?Pb ?Pc ?Pd ?Pe ?Fz ?Pg ?Cu ?Cv ?Cw ?Cy ?Cz ?CA ?CB ?CC ?CD ?CF ?CG ?CH ?CI ?CJ ?CK ?CL ?CN ?CO ?CP ?CQ ?CS ?CT ?CU ?CV ?CW ?CY ?CZ ?Da ?Ph ?Pi ?Pj ?Pk ?uL ?Db ?Dc ?Dd ?z_abs ?z_len ?z_list ?z_max ?z_min ?z_range ?z_sorted ?z_sum ?z_tuple ?z_zip ?u_SQUARES ?u_STREETS
  (case g_Kept=>walk_at "9")
  (case pg_Kept=>walk_at "9")
  (case hd_Kept=>walk_at "9")
  (case po_Kept=>walk_at "9")
  (case sa_Kept=>walk_at "9")
  (case n1_Kept=>walk_at "9")
  (case n2_Kept=>walk_at "9")
  (case n3_Kept=>walk_at "9")
  (case n4_Kept=>walk_at "9")
  (case mk_Kept=>walk_at "9")
  (case kp_Kept=>walk_at "9")
  (case AY=>walk_at "9")
  (case AZ=>walk_at "9")
  (case Ba=>walk_at "9")
  (case Bb=>walk_at "9")
  (case Oq=>walk_at "9")
  (case Os=>walk_at "9")
  (case Ot=>walk_at "9")
  (case Ou=>walk_at "9")
  (case Bc=>walk_at "9")
  (case Be=>walk_at "9")
  (case Bf=>walk_at "9")
  (case Bg=>walk_at "9")
  (case Bh=>walk_at "9")
  (case Bi=>walk_at "9")
  (case Bj=>walk_at "9")
  (case Bk=>walk_at "9")
  (case Ov=>walk_at "9")
  (case Ow=>walk_at "9")
  (case Ox=>walk_at "9")
  (case Oy=>walk_at "9")
  (case Bl=>walk_at "9")
  (case Bm=>walk_at "9")
  (case Bo=>walk_at "9")
  (case Bp=>walk_at "9")
  (case Bq=>walk_at "9")
  (case Br=>walk_at "9")
  (case Bs=>walk_at "9")
  (case Bt=>walk_at "9")
  (case Bu=>walk_at "9")
  (case Bv=>walk_at "9")
  (case Bw=>walk_at "9")
  (case Bx=>walk_at "9")
  (case Oz=>walk_at "9")
  (case OA=>walk_at "9")
  (case OB=>walk_at "9")
  (case OC=>walk_at "9")
  (case Bz=>walk_at "9")
  (case BA=>walk_at "9")
  (case BB=>walk_at "9")
  (case BC=>walk_at "9")
  (case BD=>walk_at "9")
  (case BE=>walk_at "9")
  (case BF=>walk_at "9")
  (case BG=>walk_at "9")
  (case OD=>walk_at "9")
  (case OE=>walk_at "9")
  (case OF=>walk_at "9")
  (case OG=>walk_at "9")
  (case OH=>walk_at "9")
  (case OI=>walk_at "9")
  (case OJ=>walk_at "9")
  (case OL=>walk_at "9")
  (case BH=>walk_at "9")
  (case BI=>walk_at "9")
  (case BJ=>walk_at "9")
  (case BK=>walk_at "9")
  (case BL=>walk_at "9")
  (case BM=>walk_at "9")
  (case BN=>walk_at "9")
  (case BO=>walk_at "9")
  (case BP=>walk_at "9")
  (case BQ=>walk_at "9")
  (case BR=>walk_at "9")
  (case BS=>walk_at "9")
  (case OM=>walk_at "9")
  (case ON=>walk_at "9")
  (case OO=>walk_at "9")
  (case OP=>walk_at "9")
  (case OQ=>walk_at "9")
  (case BT=>walk_at "9")
  (case BU=>walk_at "9")
  (case BV=>walk_at "9")
  (case uF=>walk_at "9")
  (case BW=>walk_at "9")
  (case BX=>walk_at "9")
  (case BZ=>walk_at "9")
  (case Ca=>walk_at "9")
  (case uG=>walk_at "9")
  (case Cb=>walk_at "9")
  (case Cc=>walk_at "9")
  (case Cd=>walk_at "9")
  (case Ce=>walk_at "9")
  (case uH=>walk_at "9")
  (case Cf=>walk_at "9")
  (case Cg=>walk_at "9")
  (case Ci=>walk_at "9")
  (case Cj=>walk_at "9")
  (case uI=>walk_at "9")
  (case Ck=>walk_at "9")
  (case Cm=>walk_at "9")
  (case Cn=>walk_at "9")
  (case Co=>walk_at "9")
  (case uJ=>walk_at "9")
  (case Cp=>walk_at "9")
  (case OT=>walk_at "9")
  (case OU=>walk_at "9")
  (case OW=>walk_at "9")
  (case Fx=>walk_at "9")
  (case OX=>walk_at "9")
  (case Cq=>walk_at "9")
  (case Cr=>walk_at "9")
  (case Cs=>walk_at "9")
  (case uK=>walk_at "9")
  (case Ct=>walk_at "9")
  (case OY=>walk_at "9")
  (case OZ=>walk_at "9")
  (case Pa=>walk_at "9")
  (case Fy=>walk_at "9")
  (case Pb=>walk_at "9")
  (case Pc=>walk_at "9")
  (case Pd=>walk_at "9")
  (case Pe=>walk_at "9")
  (case Fz=>walk_at "9")
  (case Pg=>walk_at "9")
  (case Cu=>walk_at "9")
  (case Cv=>walk_at "9")
  (case Cw=>walk_at "9")
  (case Cy=>walk_at "9")
  (case Cz=>walk_at "9")
  (case CA=>walk_at "9")
  (case CB=>walk_at "9")
  (case CC=>walk_at "9")
  (case CD=>walk_at "9")
  (case CF=>walk_at "9")
  (case CG=>walk_at "9")
  (case CH=>walk_at "9")
  (case CI=>walk_at "9")
  (case CJ=>walk_at "9")
  (case CK=>walk_at "9")
  (case CL=>walk_at "9")
  (case CN=>walk_at "9")
  (case CO=>walk_at "9")
  (case CP=>walk_at "9")
  (case CQ=>walk_at "9")
  (case CS=>walk_at "9")
  (case CT=>walk_at "9")
  (case CU=>walk_at "9")
  (case CV=>walk_at "9")
  (case CW=>walk_at "9")
  (case CY=>walk_at "9")
  (case CZ=>walk_at "9")
  (case Da=>walk_at "9")
  (case Ph=>walk_at "9")
  (case Pi=>walk_at "9")
  (case Pj=>walk_at "9")
  (case Pk=>walk_at "9")
  (case uL=>walk_at "9")
  (case Db=>walk_at "9")
  (case Dc=>walk_at "9")
  (case Dd=>walk_at "9")
  (case z_abs=>walk_at "9")
  (case z_len=>walk_at "9")
  (case z_list=>walk_at "9")
  (case z_max=>walk_at "9")
  (case z_min=>walk_at "9")
  (case z_range=>walk_at "9")
  (case z_sorted=>walk_at "9")
  (case z_sum=>walk_at "9")
  (case z_tuple=>walk_at "9")
  (case z_zip=>walk_at "9")
  (case u_SQUARES=>walk_at "9")
  (case u_STREETS=>walk_at "9")

