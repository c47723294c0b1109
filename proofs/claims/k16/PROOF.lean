import PyProof.Rows.All
import Wide.All
import OpenK.AllK
import Wide.FinOn
import Lean
import PyProof.EqAt
import PyProof.EqKinds
import PyProof.TupleCall
import PySem.Challenge.RW_closepoints_k16_papers_by_cells_judged
noncomputable section
set_option Elab.async false
set_option linter.all false
set_option maxRecDepth 100000
local macro_rules|`(tactic| walk_at "9")=>`(tactic| first|k_is|kernel_rfl|decide)
set_option compiler.extract_closed false
-- CHANGE: your row's module here,as the last of these rows
namespace L2
open PySem PySem.Spec PyProof.Rows

abbrev bw:=Sum Int Str
def kL:bw->Value->Bool
 | .inl k,v=>Value.isInt k v
 | .inr x,v=>Value.isStrOf x v
def Pn (w:World):bw->Int
 | .inl k=>hashInt k
 | .inr x=>hashStr w x
theorem bG:∀ {k:bw} {v:Value},kL k v=true->(∃ i t,k=Sum.inl i/\v=Value.int i t)\/(∃ x t,k=Sum.inr x/\v=Value.str x t)
 | .inl i,v,h=>by
  obtain⟨t,e⟩:=Value.isInt_shape (k:=i) (v:=v) h;exact .inl ⟨i,t,rfl,e⟩
 | .inr x,v,h=>by
  obtain⟨t,e⟩:=Value.isStrOf_shape (x:=x) (v:=v) h;exact .inr ⟨x,t,rfl,e⟩
theorem sN (i:Int)(t:Tok):kL (.inl i) (.int i t)=true:=by simp [kL,Value.isInt]
theorem sO (x:Str)(t:Tok):kL (.inr x) (.str x t)=true:=by simp [kL,Value.isStrOf]
theorem Dz (a b:Int):decide ((Sum.inl a:bw)=Sum.inl b)=(a==b):=by
 by_cases e:a=b
 ·subst e;simp
 ·have h:¬ (Sum.inl a:bw)=Sum.inl b:=λq=>e (Sum.inl.inj q)
  rw[decide_eq_false h];exact (beq_eq_false_iff_ne.mpr e).symm
theorem DA (a b:Str):decide ((Sum.inr a:bw)=Sum.inr b)=decide (a=b):=by
 by_cases e:a=b
 ·subst e;simp
 ·have h:¬ (Sum.inr a:bw)=Sum.inr b:=λq=>e (Sum.inr.inj q)
  rw[decide_eq_false h,decide_eq_false e]
theorem DB (a:Int)(b:Str):decide ((Sum.inl a:bw)=Sum.inr b)=false:=decide_eq_false (λq=>nomatch q)
theorem DC (a:Str)(b:Int):decide ((Sum.inr a:bw)=Sum.inl b)=false:=decide_eq_false (λq=>nomatch q)

def bH (prog:Program)(w:World):PySem.KeyKind prog w bw where
 is:=kL
 hash:=Pn w
 inj:=λv a b ha hb=>by
  rcases bG ha with ⟨i,t,rfl,rfl⟩|⟨x,t,rfl,rfl⟩
  ·rcases bG hb with ⟨j,u,rfl,e⟩|⟨y,u,rfl,e⟩
   ·injection e with e1 _;rw[e1]
   ·exact nomatch e
  ·rcases bG hb with ⟨j,u,rfl,e⟩|⟨y,u,rfl,e⟩
   ·exact nomatch e
   ·injection e with e1 _;rw[e1]
 byValue:=λk v h=>by
  rcases bG h with ⟨i,t,rfl,rfl⟩|⟨x,t,rfl,rfl⟩<;>rfl
 pyHash:=λhv h=>by
  rcases bG hv with ⟨i,t,rfl,rfl⟩|⟨x,t,rfl,rfl⟩
  ·exact wpAny_pyHash_int h
  ·exact wpAny_pyHash_str h
 eqBool:=λhu hv h=>by
  rcases bG hu with ⟨i,t,rfl,rfl⟩|⟨x,t,rfl,rfl⟩
  ·rcases bG hv with ⟨j,u,rfl,rfl⟩|⟨y,u,rfl,rfl⟩
   ·rw[Dz] at h;exact wpAny_eqBool_int h
   ·rw[DB] at h;exact SeqAt.EqAt.int_str i t y u _ _ _ _ h
  ·rcases bG hv with ⟨j,u,rfl,rfl⟩|⟨y,u,rfl,rfl⟩
   ·rw[DC] at h;exact SeqAt.EqAt.str_int x t j u _ _ _ _ h
   ·rw[DA] at h;exact wpAny_eqBool_str h
 «strs»:=λk x t v h=>by
  rcases bG h with ⟨i,u,rfl,e⟩|⟨y,u,rfl,e⟩
  ·exact nomatch e
  ·injection e with e1 _
   subst e1;cases v<;>rfl

theorem nH (prog:Program)(w:World)(i:Int)(t:Tok):(bH prog w).is (.inl i) (.int i t)=true:=sN i t
theorem nJ (prog:Program)(w:World)(x:Str)(t:Tok):(bH prog w).is (.inr x) (.str x t)=true:=sO x t
end L2

namespace L2
open PySem PySem.Spec PyProof.Rows

inductive V where
 | non|bl (b:Bool)|int (i:Int)|str (x:Str)|byt (b:Array UInt8)|flt (b:UInt64)|ref (a:Addr)|ty (n:String)
 deriving DecidableEq

def RelV:V->Value->Prop
 | .non,u=>u=Value.none
 | .bl b,u=>u=Value.bool b
 | .int i,u=>∃ t,u=Value.int i t
 | .str x,u=>∃ t,u=Value.str x t
 | .byt b,u=>∃ t,u=Value.bytes b t
 | .flt b,u=>∃ t,u=Value.float b t
 | .ref a,u=>u=Value.ref a
 | .ty n,u=>u=Value.type n

abbrev Vals:List V->List Value->Prop:=Paired RelV
theorem Vals.length {xs:List V}{us:List Value}(r:Vals xs us):xs.length=us.length:=Paired.length r
theorem Vals.get:∀ {xs:List V} {us:List Value} {i:Nat} {x:V},Vals xs us->xs[i]?=some x->∃ u,us[i]?=some u/\RelV x u
 | _,_,_,_,.nil,e=>by simp at e
 | _,_,0,_,.cons r _,e=>by simp at e;subst e;exact⟨_,rfl,r⟩
 | _,_,i+1,x,.cons _ t,e=>by
  obtain⟨u,h1,h2⟩:=Vals.get (i:=i) (x:=x) t (by simpa using e)
  exact⟨u,by simpa using h1,h2⟩
theorem Vals.set {x:V}{u:Value}(r:RelV x u):∀ {xs:List V} {us:List Value} (i:Nat),Vals xs us->Vals (xs.set i x) (us.set i u)
 | _,_,_,.nil=>.nil
 | _,_,0,.cons _ t=>.cons r t
 | _,_,i+1,.cons q t=>.cons q (Vals.set r i t)
theorem Vals.append:∀ {xs ys:List V} {us ws:List Value},Vals xs us->Vals ys ws->Vals (xs++ys) (us++ws)
 | _,_,_,_,.nil,s=>s
 | _,_,_,_,.cons r t,s=>.cons r (Vals.append t s)
theorem Vals.take:∀ {xs:List V} {us:List Value} (n:Nat),Vals xs us->Vals (xs.take n) (us.take n)
 | _,_,0,_=>.nil
 | _,_,_+1,.nil=>.nil
 | _,_,n+1,.cons r t=>.cons r (Vals.take n t)
theorem Vals.drop:∀ {xs:List V} {us:List Value} (n:Nat),Vals xs us->Vals (xs.drop n) (us.drop n)
 | _,_,0,r=>r
 | _,_,_+1,.nil=>.nil
 | _,_,n+1,.cons _ t=>Vals.drop n t
def RelO:Option V->Option Value->Prop
 | some v,some u=>RelV v u
 | none,none=>True
 | _,_=>False
def KV {κ:Type}:List (κ×V)->List (κ×Value)->Prop:=Paired λ(p:κ×V) (q:κ×Value)=>p.1=q.1/\RelV p.2 q.2

def kV:bw->V
 | .inl i=>.int i
 | .inr x=>.str x

inductive HO where
 /-- a list -/
 | lst (xs:List V)
 /-- a tuple (never changes) -/
 | tup (xs:List V)
 /-- a dict whose keys are ints and texts;one whose keys are tuples of ints and texts (the empty one is both) -/
 | dK (kvs:List (bw×V))|dT (kvs:List (List bw×V))
 /-- a set of ints: its members,its size -/
 | set (S:Int->Bool) (n:Nat)
 /-- an instance of the class at C,its dict at dx,its attributes -/
 | ins (C dx:Addr) (fs:List (Str×V))
 /-- the dict of the instance at x -/
 | own (x:Addr)
 /-- the dict of an exception -/
 | xd (fs:List (Str×V))
 /-- a bound method,f of x -/
 | met (f x:Addr)
 /-- a range object lo,lo+1,.. below hi -/
 | rng (lo hi:Int)
 /-- a thing that is known to the object (the script;a dict while a loop walks it): read,never written while it is so -/
 | frz (o:Obj) (u:HO)
 /-- a code object's table -/
 | tbl (ps:Array Value)
 /-- the same,and it may grow by the code of one lambda: as it was,the lambda's place,its name -/
 | lam (ps:Array Value) (pos:Pos) (qual:Str)
 /-- any other thing,by what is true of its one object (a def of one's own: SetO a S n:=HO.ext λh=>..) -/
 | ext (φ:Heap->Prop)

abbrev Hp:=Addr->Option HO
def bz (H:Hp)(a:Addr)(o:HO):Hp:=λb=>if b=a then some o else H b
theorem aw {H:Hp}{a:Addr}{o:HO}:bz H a o a=some o:=by unfold bz;rw[if_pos rfl]
theorem am {H:Hp}{a b:Addr}{o:HO}(h:b≠a):bz H a o b=H b:=by unfold bz;rw[if_neg h]
theorem Cr {H:Hp}{a b:Addr}{o u:HO}(h:H a=some o)(h':H b=some u)(d:o≠u):a≠b:=by
 intro e;subst e;rw[h] at h';exact d (Option.some.inj h')
theorem bL {H:Hp}{a b:Addr}{o:HO}(h:H a=some o)(h':H b=none):a≠b:=by
 intro e;subst e;rw[h] at h';cases h'

section
variable (P:Program)(w:World)
def ObjOk (H:Hp)(h:Heap)(a:Addr):HO->Prop
 | .lst xs=>xs.length<=sizeLine/\∃ (its:List Value) (n:Nat),Vals xs its/\h.get? a=some { cls:=.type "list",data:=.seq its.toArray n }
 | .tup xs=>xs.length<=sizeLine/\∃ its:List Value,Vals xs its/\IsTup h a its.toArray
 | .dK kvs=>kvs.length<=sizeLine/\(a==sysModules)=false/\∃ vs,KV kvs vs/\h.DictOf (bH P w) a vs
 | .dT kvs=>kvs.length<=sizeLine/\(a==sysModules)=false/\∃ xs:List (List bw×Addr×Value),
   Paired (λ(p:List bw×V) (q:List bw×Addr×Value)=>p.1=q.1/\H q.2.1=some (.tup (p.1.map kV))/\RelV p.2 q.2.2) kvs xs /\
   ∃ o es ep,h.get? a=some o/\o.ExactDict/\o.data=.dict es ep/\es.toList=xs.map (entryOfKey (tupleKind (bH P w)))/\(xs.map (·.1)).Nodup
 | .set S n=>h.SetOf (intKind P w) a S n
 | .ins C dx fs=>H dx=some (.own a)/\fs.length<=1000/\dx≠a/\h.get? a=some (PySem.W.instObj C dx) /\
   ∃ mA,h.Ns1 dx mA/\(∀ f,RelO (fs.lookup f) (mA f))/\PySem.Within mA (fs.map (·.1))
 | .own _=>∃ o,h.get? a=some o
 | .xd fs=>∃ mA,h.Ns1 a mA/\∀ f,RelO (fs.lookup f) (mA f)
 | .rng lo hi=>∃ t u v,h.get? a=some { cls:=.type "range",data:=.fields #[.int lo t,.int hi u,.int 1 v] }
 | .frz o u=>h.get? a=some o/\ObjOk H h a u
 | .tbl ps=>h.get? a=some { cls:=.none,data:=.fields ps }
 | .lam ps pos qual=>∃ more,h.get? a=some { cls:=.none,data:=.fields (ps++more) }/\TriplesOk (ps++more).toList/\(codeAmong pos (ps++more).toList=none\/∃ c' o vs t,codeAmong pos (ps++more).toList=some (.ref c')/\H c'=some (.frz o (.own a))/\o.data=.fields vs/\vs[1]?=some (.str qual t))
 | .met f x=>h.get? a=some (PySem.W.methodObj (.ref f) (.ref x))
 | .ext φ=>φ h/\(∃ o,h.get? a=some o)/\∀ h1 h2:Heap,φ h1->(∀ o,h1.get? a=some o->h2.get? a=some o)->φ h2
def HOk (H:Hp)(h:Heap):Prop:=∀ a o,H a=some o->ObjOk P w H h a o
end

section
variable {P:Program}{w:World}{H H':Hp}{h h':Heap}{a:Addr}{o:HO}
theorem ObjOk.lt (x:ObjOk P w H h a o):a < h.objs.size:=by
 cases o with
 | lst xs=>obtain⟨_,_,_,_,e⟩:=x;exact Heap.lt_size e
 | tup xs=>obtain⟨_,_,_,p⟩:=x;exact p.lt
 | dK kvs=>obtain⟨_,_,_,_,o,_,_,e,_⟩:=x;exact Heap.lt_size e
 | dT kvs=>obtain⟨_,_,_,_,o,_,_,e,_⟩:=x;exact Heap.lt_size e
 | set S n=>obtain⟨o,_,_,_,e,_⟩:=x;exact Heap.lt_size e
 | ins C dx fs=>obtain⟨_,_,_,e,_⟩:=x;exact Heap.lt_size e
 | own y=>obtain⟨_,e⟩:=x;exact Heap.lt_size e
 | xd fs=>obtain⟨_,⟨_,_,_,e,_⟩,_⟩:=x;exact Heap.lt_size e
 | rng lo hi=>obtain⟨_,_,_,e⟩:=x;exact Heap.lt_size e
 | frz ob u=>obtain⟨e,_⟩:=x;exact Heap.lt_size e
 | tbl ps=>exact Heap.lt_size (show h.get? a=some _ from x)
 | lam ps pos qual=>obtain⟨_,e,_⟩:=x;exact Heap.lt_size e
 | met f y=>exact Heap.lt_size (show h.get? a=some _ from x)
 | ext φ=>obtain⟨_,⟨_,e⟩,_⟩:=x;exact Heap.lt_size e
theorem Paired.mapP {α β:Type}{F G:α->β->Prop}:∀ {l₁:List α} {l₂:List β},Paired F l₁ l₂->(∀ a b,F a b->G a b)->Paired G l₁ l₂
 | _,_,.nil,_=>.nil
 | _,_,.cons r t,f=>.cons (f _ _ r) (Paired.mapP t f)
theorem ObjOk.stay (x:ObjOk P w H h a o)(k:∀ b u,(b=a\/H b=some (.own a))->h.get? b=some u->h'.get? b=some u)
  (ho:∀ b,H b=some (.own a)->H' b=some (.own a)) (ht:∀ b xs,H b=some (.tup xs)->H' b=some (.tup xs)) (hf:∀ b o u,H b=some (.frz o u)->H' b=some (.frz o u):=by exact λ_ _ _ q=>q):ObjOk P w H' h' a o:=by
 induction o with
 | lst xs=>obtain⟨z,its,n,r,e⟩:=x;exact⟨z,its,n,r,k _ _ (.inl rfl) e⟩
 | tup xs=>obtain⟨z,its,r,ob,e,c⟩:=x;exact⟨z,its,r,ob,k _ _ (.inl rfl) e,c⟩
 | dK kvs=>obtain⟨z,y,vs,r,ob,es,ep,e,c⟩:=x;exact⟨z,y,vs,r,ob,es,ep,k _ _ (.inl rfl) e,c⟩
 | dT kvs =>
  obtain⟨z,y,xs,r,ob,es,ep,e,c⟩:=x;exact⟨z,y,xs,Paired.mapP r λp q z=>⟨z.1,ht _ _ z.2.1,z.2.2⟩,ob,es,ep,k _ _ (.inl rfl) e,c⟩
 | set S n=>obtain⟨ob,es,ep,t,e,c⟩:=x;exact⟨ob,es,ep,t,k _ _ (.inl rfl) e,c⟩
 | ins C dx fs =>
  obtain⟨d,z,ne,e,mA,⟨od,es,ep,e2,c⟩,r⟩:=x;exact⟨ho _ d,z,ne,k _ _ (.inl rfl) e,mA,⟨od,es,ep,k _ _ (.inr d) e2,c⟩,r⟩
 | own y=>obtain⟨ob,e⟩:=x;exact⟨ob,k _ _ (.inl rfl) e⟩
 | xd fs=>obtain⟨mA,⟨od,es,ep,e,c⟩,r⟩:=x;exact⟨mA,⟨od,es,ep,k _ _ (.inl rfl) e,c⟩,r⟩
 | rng lo hi=>obtain⟨t,u,v,e⟩:=x;exact⟨t,u,v,k _ _ (.inl rfl) e⟩
 | frz ob u ih=>obtain⟨e,q⟩:=x;exact⟨k _ _ (.inl rfl) e,ih q⟩
 | lam ps pos qual =>
  obtain⟨more,e,tr,c⟩:=x;refine⟨more,k _ _ (.inl rfl) e,tr,?_⟩;rcases c with c|⟨c',o,vs,t,c1,c2,c3⟩
  ·exact .inl c
  ·exact .inr ⟨c',o,vs,t,c1,hf _ _ _ c2,c3⟩
 | tbl ps =>
  have e:h.get? a=some { cls:=.none,data:=.fields ps }:=x;show h'.get? a=some { cls:=.none,data:=.fields ps };exact k a _ (.inl rfl) e
 | met f y =>
  have e:h.get? a=some (PySem.W.methodObj (.ref f) (.ref y)):=x;show h'.get? a=some (PySem.W.methodObj (.ref f) (.ref y));exact k a _ (.inl rfl) e
 | ext φ=>obtain⟨p,⟨o,e⟩,st⟩:=x;exact⟨st _ _ p λo q=>k _ _ (.inl rfl) q,⟨o,k _ _ (.inl rfl) e⟩,st⟩
theorem HOk.lt (x:HOk P w H h)(e:H a=some o):a < h.objs.size:=(x a o e).lt
theorem HOk.fresh (x:HOk P w H h)(e:h.objs.size<=a):H a=none:=by
 cases q:H a with
 | none=>rfl
 | some u=>exact absurd (Nat.lt_of_lt_of_le (x.lt q) e) (Nat.lt_irrefl _)
theorem HOk.kept (x:HOk P w H h)(k:∀ b u,h.get? b=some u->h'.get? b=some u):HOk P w H h':=λa o e =>
 (x a o e).stay (λb u _ q=>k b u q) (λ_ q=>q) λ_ _ q=>q
theorem HOk.laid (x:HOk P w H h)(k:∀ b u,h.get? b=some u->h'.get? b=some u)(hp:h.objs.size<=a)(new:ObjOk P w (bz H a o) h' a o):HOk P w (bz H a o) h':=λb u e=>by
 have hn:=x.fresh hp
 by_cases hb:b=a
 ·subst hb;rw[aw] at e;cases e;exact new
 ·rw[am hb] at e
  exact (x b u e).stay (λc v _ q=>k c v q) (λc q=>by rw[am (bL q hn)];exact q) (λc xs q=>by rw[am (bL q hn)];exact q) λc o u q=>by rw[am (bL q hn)];exact q
end

def Rd (H:Hp)(a:Addr)(u:HO):Prop:=H a=some u\/∃ o,H a=some (.frz o u)
theorem Rd.ok {P:Program}{w:World}{H:Hp}{h:Heap}{a:Addr}{u:HO}(r:Rd H a u)(x:HOk P w H h):ObjOk P w H h a u:=by
 rcases r with r|⟨o,r⟩
 ·exact x a u r
 ·obtain⟨_,q⟩:=x a _ r
  exact q
def Lr:Option HO->Prop
 | some (.lst _)=>True
 | some (.dK _)=>True
 | some (.dT _)=>True
 | some (.set _ _)=>True
 | some (.ins _ _ _)=>True
 | some (.ext _)=>True
 | some (.lam _ _ _)=>True
 | _=>False
section
variable {P:Program}{w:World}{H:Hp}{h h':Heap}{x e:Addr}{o':HO}
theorem HOk.write (ok:HOk P w H h)(mu:Lr (H x))(he:e=x\/H e=some (.own x))(k:∀ b u,b≠e->h.get? b=some u->h'.get? b=some u)(heo:∃ u,h'.get? e=some u)
  (new:ObjOk P w (bz H x o') h' x o'):HOk P w (bz H x o') h':=λb u q=>by
 have nown:∀ c y,H c=some (.own y)->c≠x:=λc y r z=>by subst z;rw[r] at mu;exact mu
 have ntup:∀ c xs,H c=some (.tup xs)->c≠x:=λc xs r z=>by subst z;rw[r] at mu;exact mu
 by_cases hb:b=x
 ·subst hb;rw[aw] at q;cases q;exact new
 ·rw[am hb] at q
  by_cases hbe:b=e
  ·have q':H b=some (.own x):=by
    rcases he with z|z
    ·exact absurd (hbe.trans z) hb
    ·rw[hbe];exact z
   rw[q] at q';cases q';obtain⟨v,hv⟩:=heo;exact⟨v,by rw[hbe];exact hv⟩
  ·refine (ok b u q).stay (λc v hc r=>k c v ?_ r) (λc r=>by rw[am (nown c b r)];exact r) (λc xs r=>by rw[am (ntup c xs r)];exact r) λc o u r=>by rw[am (λz=>by subst z;rw[r] at mu;exact mu)];exact r
   rcases hc with rfl|hc
   ·exact hbe
   ·rintro rfl
    rcases he with z|z
    ·exact nown c b hc z
    ·rw[hc] at z;cases z;exact hb rfl
end

structure Un (fs ex:List Addr)(H H':Hp)(h h':Heap):Prop where
 keep:∀ b o,h.get? b=some o->H b=none->b∉fs->b∉ex->h'.get? b=some o
 slot:∀ b o,h.get? b=some o->H b=none->b∈fs->b∉ex->∃ sl,h'.get? b=some { o with slots:=sl }
 free:∀ b o,h.get? b=some o->H b=none->b∉ex->H' b=none
 there:∀ b o,h.get? b=some o->b∉ex->∃ o',h'.get? b=some o'
 tups:∀ b xs,H b=some (.tup xs)->H' b=some (.tup xs)
 frzs:∀ b o u,H b=some (.frz o u)->H' b=some (.frz o u)
 tbls:∀ b ps,H b=some (.tbl ps)->∃ more,H' b=some (.tbl (ps++more))
section
variable {fs fs' ex ex':List Addr}{H H1 H2:Hp}{h h1 h2 h':Heap}{a x e:Addr}{o:HO}
theorem Un.any (u:Un fs ex H H1 h h1){b:Addr}{ob:Obj}(q:h.get? b=some ob)(n:H b=none)(hx:b∉ex):∃ sl,h1.get? b=some { ob with slots:=sl }:=by
 by_cases hb:b∈fs
 ·exact u.slot b ob q n hb hx
 ·exact⟨ob.slots,u.keep b ob q n hb hx⟩
theorem Un.kept (k:∀ b u,h.get? b=some u->h'.get? b=some u):Un fs ex H H h h' :=
 ⟨λb ob q _ _ _=>k b ob q,λb ob q _ _ _=>⟨ob.slots,k b ob q⟩,λ_ _ _ n _=>n,λb ob q _=>⟨ob,k b ob q⟩,λ_ _ q=>q,λ_ _ _ q=>q,λ_ ps q=>⟨#[],by rw[q];simp⟩⟩
theorem Un.refl:Un fs ex H H h h:=Un.kept λ_ _ q=>q
theorem Un.laid (k:∀ b u,h.get? b=some u->h'.get? b=some u)(hp:h.objs.size<=a)(hn:H a=none):Un fs ex H (bz H a o) h h' where
 keep:=λb u q _ _ _=>k b u q
 slot:=λb u q _ _ _=>⟨u.slots,k b u q⟩
 free:=λb u q n _=>by rw[am (Nat.ne_of_lt (Nat.lt_of_lt_of_le (Heap.lt_size q) hp))];exact n
 there:=λb u q _=>⟨u,k b u q⟩
 tups:=λb xs q=>by rw[am (bL q hn)];exact q
 frzs:=λb u xs q=>by rw[am (bL q hn)];exact q
 tbls:=λb ps q=>⟨#[],by rw[am (bL q hn),q];simp⟩
theorem Un.write (mu:Lr (H x))(he:e=x\/H e=some (.own x))(k:∀ b u,b≠e->h.get? b=some u->h'.get? b=some u)(heo:∃ u,h'.get? e=some u):Un fs ex H (bz H x o) h h':=by
 have hx:∀ b,H b=none->b≠x:=λb n z=>by subst z;rw[n] at mu;exact mu
 have hb:∀ b,H b=none->b≠e:=λb n z=>by
  subst z;rcases he with r|r
  ·exact hx b n r
  ·rw[n] at r;cases r
 have hm:∀ b u,H b=some u->¬ Lr (some u)->b≠x:=λb u q nm z=>by subst z;rw[q] at mu;exact nm mu
 refine⟨λb u q n _ _=>k b u (hb b n) q,λb u q n _ _=>⟨u.slots,k b u (hb b n) q⟩,λb u q n _=>by rw[am (hx b n)];exact n,λb u q _=>?_,
  λb xs q=>by rw[am (hm b _ q λz=>z)];exact q,λb u xs q=>by rw[am (hm b _ q λz=>z)];exact q,λb ps q=>⟨#[],by rw[am (hm b _ q λz=>z),q];simp⟩⟩
 by_cases hbe:b=e
 ·subst hbe;exact heo
 ·exact⟨u,k b u hbe q⟩
end

def Pj (h:Heap)(H:Hp):List Addr:=(List.range h.objs.size).filter λa=>(H a).isSome
def lE (h:Heap)(H:Hp):Heap:=PySem.W.hideAll h (Pj h H)
theorem sP (h:Heap)(H:Hp):(lE h H).objs.size=h.objs.size:=PySem.W.hideAll_size _ _
theorem ug {h:Heap}{H:Hp}{b:Addr}{o:Obj}(e:h.get? b=some o)(n:H b=none):(lE h H).get? b=some o :=
 PySem.W.hideAll_get _ e λhm=>by
  have q:(H b).isSome=true:=(List.mem_filter.mp hm).2;rw[n] at q;simp at q
theorem Am {h:Heap}{H:Hp}{b:Addr}{o:Obj}(e:(lE h H).get? b=some o):h.get? b=some o/\H b=none:=by
 have e':h.get? b=some o:=PySem.W.of_hideAll (Pj h H) e;refine⟨e',?_⟩;cases q:H b with
 | none=>rfl
 | some x =>
  have hm:b∈Pj h H:=List.mem_filter.mpr ⟨List.mem_range.mpr (Heap.lt_size e'),by simp [q]⟩
  have z:(lE h H).get? b=none:=PySem.W.hideAll_none (Pj h H) hm;rw[z] at e;cases e

def An (g h:Heap)(L:Addr):List (Addr×Obj):=(List.range h.objs.size).filterMap λa=>if a=L\/(g.get? a).isSome=true then none else (h.get? a).map λo=>(a,o)
def rest (g h:Heap)(L d:Addr):List (Addr×Obj):=(An g h L).filter λp=>decide (p.1≠d)
end L2

namespace L2
open PySem PySem.Spec PyProof.Rows

structure Mod (K:PySem.W.Frag)(mg:Str->Option Value)(base:Heap):Prop where
 kin:K.In base
 glob:base.Ns mainGlobals mg
 blt:∃ mb,base.Ns builtinsNs mb/\∀ x:Str,x≠"__name__"->mb x=bootBuiltins x
 nolimit:base.NoLimit

structure Cx where
 prog:Program
 w:World
 K:PySem.W.Frag
 mg:Str->Option Value
 base:Heap
 A:Around
 N:List Str
 s₀:Shared
 H₀:Hp
 env:Env
 outer:List Env
 stack:List Env
 ex:List Addr
 fn:Str->Bool
 calm:Bool
 pn:List (Addr×Obj)
 xe:Value->Shared->Prop
def uh (l:List Env):List Addr:=l.filterMap (·.frame)
abbrev Cx.fs (X:Cx):List Addr:=uh X.outer

def Ao (sc:Scope)(x:Str):Prop:=sc.names.lookup x=some .local\/sc.names.lookup x=some .cell\/sc.names.lookup x=some .free
def Loc (sc:Scope)(x:Str):Prop:=sc.names.lookup x=some .local\/sc.names.lookup x=some .cell
def Po (env:Env)(h:Heap)(m:Str->Option Value)(x:Str)(u:Value):Prop :=
 (env.kindOf x=some .local/\m x=some u)\/((env.kindOf x=some .cell\/env.kindOf x=some .free)/\∃ c,env.cells.lookup x=some c/\h.IsCell c (some u))

structure Cx.Ok (X:Cx):Prop where
 mod:Mod X.K X.mg X.base
 kind:X.env.scope.kind=.function
 glob:X.env.globals=mainGlobals
 blt:X.env.builtins=builtinsNs
 above:X.s₀.heap.objs.size<=X.env.locals
 inj:∀ x y c,X.env.cells.lookup x=some c->X.env.cells.lookup y=some c->x=y
 has:∀ x,(X.env.kindOf x=some .cell\/X.env.kindOf x=some .free)->∃ c,X.env.cells.lookup x=some c
 cab:∀ x c,X.fn x=true->X.env.cells.lookup x=some c->X.s₀.heap.objs.size<=c
 hd:X.calm=true->X.A.handled=none
 frames:X.A.frames=some X.stack
 stk:X.stack=X.outer\/(X.stack=X.env::X.outer/\X.env.frame=some X.env.locals)
 exf:∀ b∈X.ex,b≠X.env.locals/\∀ x c,X.env.cells.lookup x=some c->c≠b
 bs:∀ b o,X.base.get? b=some o->X.s₀.heap.get? b=some o/\X.H₀ b=none
 bsz:X.base.objs.size<=X.s₀.heap.objs.size
 noex:∀ b o,X.base.get? b=some o->b∉X.ex
 exfs:∀ b∈X.ex,b∉X.fs
 funs:X.s₀.heap.FunFrames X.base X.outer
 frf:∀ b∈X.fs,X.H₀ b=none

structure Inv (X:Cx)(pins:List (Addr×Obj))(σ:List (Option V))(H:Hp)(s:Shared):Prop where
 ok:X.Ok
 os:s.os=X.s₀.os
 bare:AllBare s.gens
 base:Un X.fs X.ex X.H₀ H X.s₀.heap s.heap
 loc:∃ m,s.heap.Ns X.env.locals m/\∀ (i:Nat) (x:Str) (v:V),X.N[i]?=some x->σ[i]?=some (some v)->Ao X.env.scope x->∃ u,RelV v u/\Po X.env s.heap m x u
 cell:∀ x c,X.env.cells.lookup x=some c->∃ v,s.heap.IsCell c v
 free:H X.env.locals=none
 freeC:∀ x c,X.env.cells.lookup x=some c->H c=none
 pin:∀ p∈X.pn++pins,s.heap.get? p.1=some p.2/\H p.1=none/\p.1≠X.env.locals/\p.1∉X.fs/\∀ v,p.2.data≠.cell v
 hok:HOk X.prog X.w H s.heap
 len:σ.length=X.N.length

section
variable {X:Cx}{pins:List (Addr×Obj)}{σ:List (Option V)}{H H':Hp}{s:Shared}{h':Heap}

theorem Cx.Ok.nofr (ok:X.Ok){b:Addr}{o:Obj}(e:X.base.get? b=some o):b∉X.fs:=λhb=>by
 have:=(ok.funs.mem hb).1;rw[e] at this;cases this
theorem Inv.bs (I:Inv X pins σ H s):∀ b o,X.base.get? b=some o->s.heap.get? b=some o/\H b=none:=λb o e =>
 ⟨I.base.keep b o (I.ok.bs b o e).1 (I.ok.bs b o e).2 (I.ok.nofr e) (I.ok.noex b o e),I.base.free b o (I.ok.bs b o e).1 (I.ok.bs b o e).2 (I.ok.noex b o e)⟩
theorem Inv.bk (I:Inv X pins σ H s):∀ b o,X.base.get? b=some o->s.heap.get? b=some o:=λb o e=>(I.bs b o e).1
theorem Inv.mod (I:Inv X pins σ H s):Mod X.K X.mg X.base:=I.ok.mod
theorem Inv.kIn (I:Inv X pins σ H s):X.K.In s.heap:=I.ok.mod.kin.keeps I.bk
theorem Inv.fr (I:Inv X pins σ H s):∃ m,Fr X.base X.env.locals s.heap m :=
 let ⟨m,hn,_⟩:=I.loc
 ⟨m,hn,I.bk,Nat.le_trans I.ok.bsz I.ok.above⟩
theorem Inv.lt (I:Inv X pins σ H s):X.env.locals < s.heap.objs.size:=let ⟨_,hn,_⟩:=I.loc;hn.lt
theorem Inv.sz (I:Inv X pins σ H s):X.s₀.heap.objs.size<=s.heap.objs.size:=Nat.le_trans I.ok.above (Nat.le_of_lt I.lt)
theorem Inv.nofs (I:Inv X pins σ H s){a:Addr}(h:s.heap.objs.size<=a):a∉X.fs:=λhb=>by
 obtain⟨_,o,ho,_⟩:=I.ok.funs.mem hb;exact absurd (Nat.lt_of_lt_of_le (Heap.lt_size ho) (Nat.le_trans I.sz h)) (Nat.lt_irrefl _)
theorem Inv.cne (I:Inv X pins σ H s):∀ x c,X.env.cells.lookup x=some c->c≠X.env.locals:=λx c e z=>by
 obtain⟨v,o,ho,hd⟩:=I.cell x c e;obtain⟨m,⟨o',es,ep,ho',hd',_⟩,_⟩:=I.loc;rw[z,ho'] at ho;cases ho;rw[hd'] at hd;cases hd
theorem Inv.funs (I:Inv X pins σ H s):s.heap.FunFrames X.base X.outer:=by
 have all:∀ (l:List Env),(∀ b∈uh l,b∈X.fs)->X.s₀.heap.FunFrames X.base l->s.heap.FunFrames X.base l:=by
  intro l
  induction l with
  | nil=>intro _ _;trivial
  | cons env r ih =>
   intro hs hl;obtain⟨hk,⟨L,o,hf,hn,ho,hd⟩,hr⟩:=hl;have hL:L∈X.fs:=hs L (by unfold uh;rw[List.filterMap_cons,hf];exact List.mem_cons_self)
   obtain⟨sl,e⟩:=I.base.slot L o ho (I.ok.frf L hL) hL λz=>I.ok.exfs L z hL;exact⟨hk,⟨L,_,hf,hn,e,hd⟩,ih (λb hb=>hs b (by unfold uh;rw[List.filterMap_cons,hf];exact List.mem_cons_of_mem _ hb)) hr⟩
 exact all X.outer (λ_ hb=>hb) I.ok.funs

theorem Inv.stack (I:Inv X pins σ H s):s.heap.FunFrames X.base X.stack:=by
 rcases I.ok.stk with e|⟨e,hf⟩
 ·rw[e];exact I.funs
 ·rw[e]
  obtain⟨m,hn,_⟩:=I.loc;refine .cons (by rw[I.ok.kind];decide) hf hn ?_ I.funs
  exact Heap.get?_none_of_le (Nat.le_trans I.ok.bsz I.ok.above)
theorem Inv.stkSub (I:Inv X pins σ H s):∀ b∈uh X.stack,b∈X.env.locals::X.fs:=λb hb=>by
 rcases I.ok.stk with e|⟨e,hf⟩
 ·rw[e] at hb;exact List.mem_cons_of_mem _ hb
 ·rw[e] at hb
  unfold uh at hb;rw[List.filterMap_cons,hf] at hb;exact hb
theorem Inv.stkFree (I:Inv X pins σ H s):∀ b∈uh X.stack,H b=none:=λb hb=>by
 rcases List.mem_cons.mp (I.stkSub b hb) with e|hb
 ·rw[e];exact I.free
 ·obtain⟨_,o,ho,_⟩:=I.ok.funs.mem hb
  exact I.base.free b o ho (I.ok.frf b hb) λz=>I.ok.exfs b z hb

theorem Inv.step {g':Array GenState}{t':Nat}{d':Drawn}{ch:List Addr}(I:Inv X pins σ H s)
  (hch:∀ b∈ch,(b∈X.ex\/X.s₀.heap.get? b=none)/\b≠X.env.locals/\(∀ x c,X.env.cells.lookup x=some c->c≠b)/\∀ p∈X.pn++pins,p.1≠b)
  (keep:∀ b o,b≠X.env.locals->b∉X.fs->b∉ch->s.heap.get? b=some o->H b=none->h'.get? b=some o)
  (slot:∀ b o,b≠X.env.locals->b∈X.fs->b∉ch->s.heap.get? b=some o->H b=none->∃ sl,h'.get? b=some { o with slots:=sl }) (free:∀ b o,b∉ch->s.heap.get? b=some o->H b=none->H' b=none)
  (there:∀ b o,b∉ch->s.heap.get? b=some o->∃ o',h'.get? b=some o')
  (tups:∀ b xs,H b=some (.tup xs)->H' b=some (.tup xs)) (frzs:∀ b o u,H b=some (.frz o u)->H' b=some (.frz o u)) (tbls:∀ b ps,H b=some (.tbl ps)->∃ more,H' b=some (.tbl (ps++more)))
  (ns:∀ m,s.heap.Ns X.env.locals m->h'.Ns X.env.locals m) (hok:HOk X.prog X.w H' h') (hg:AllBare g') :
  Inv X pins σ H' { s with heap:=h',gens:=g',drawn:=d',toks:=t' }:=by
 have neL:∀ b o,X.s₀.heap.get? b=some o->b≠X.env.locals:=λb o e=>Nat.ne_of_lt (Nat.lt_of_lt_of_le (Heap.lt_size e) I.ok.above);have neC:∀ b o,X.s₀.heap.get? b=some o->b∉X.ex->b∉ch:=λb o e hx hb=>by
  rcases (hch b hb).1 with z|z
  ·exact hx z
  ·rw[e] at z;cases z
 have cellK:∀ x c,X.env.cells.lookup x=some c->∀ v,s.heap.IsCell c v->h'.IsCell c v:=λx c e v ⟨o,ho,hd⟩=>by
  have nch:c∉ch:=λz=>(hch c z).2.2.1 x c e rfl
  by_cases hc:c∈X.fs
  ·obtain⟨sl,q⟩:=slot c o (I.cne x c e) hc nch ho (I.freeC x c e)
   exact⟨_,q,hd⟩
  ·exact⟨o,keep c o (I.cne x c e) hc nch ho (I.freeC x c e),hd⟩
 refine⟨I.ok,I.os,hg,⟨λb o e n hb hx=>?_,λb o e n hb hx=>?_,λb o e n hx=>?_,λb o e hx=>?_,λb xs e=>tups b xs (I.base.tups b xs e),λb o xs e=>frzs b o xs (I.base.frzs b o xs e),λb ps e=>?_⟩,?_,λx c e=>?_,?_,λx c e=>?_,λp hp=>?_,hok,I.len⟩
 ·exact keep b o (neL b o e) hb (neC b o e hx) (I.base.keep b o e n hb hx) (I.base.free b o e n hx)
 ·obtain⟨sl,e1⟩:=I.base.slot b o e n hb hx
  obtain⟨sl',e2⟩:=slot b _ (neL b o e) hb (neC b o e hx) e1 (I.base.free b o e n hx);exact⟨sl',e2⟩
 ·obtain⟨o',e1⟩:=I.base.there b o e hx
  exact free b o' (neC b o e hx) e1 (I.base.free b o e n hx)
 ·obtain⟨o',e1⟩:=I.base.there b o e hx
  exact there b o' (neC b o e hx) e1
 ·obtain⟨m1,e1⟩:=I.base.tbls b ps e
  obtain⟨m2,e2⟩:=tbls b _ e1;exact⟨m1++m2,by rw[e2,Array.append_assoc]⟩
 ·obtain⟨m,hn,hl⟩:=I.loc
  refine⟨m,ns m hn,λi x v e1 e2 e3=>?_⟩;obtain⟨u,r,l⟩:=hl i x v e1 e2 e3;refine⟨u,r,?_⟩;rcases l with l|⟨k,c,e,z⟩
  ·exact .inl l
  ·exact .inr ⟨k,c,e,cellK x c e _ z⟩
 ·obtain⟨v,z⟩:=I.cell x c e
  exact⟨v,cellK x c e v z⟩
 ·obtain⟨m,⟨o,_,_,ho,_⟩,_⟩:=I.loc
  exact free _ o (λz=>(hch _ z).2.1 rfl) ho I.free
 ·obtain⟨v,o,ho,hd⟩:=I.cell x c e
  exact free c o (λz=>(hch c z).2.2.1 x c e rfl) ho (I.freeC x c e)
 ·obtain⟨e,n,ne,nf,d⟩:=I.pin p hp
  have nch:p.1∉ch:=λz=>(hch p.1 z).2.2.2 p hp rfl;exact⟨keep p.1 p.2 ne nf nch e n,free p.1 p.2 nch e n,ne,nf,d⟩
theorem Inv.un {t':Nat}(I:Inv X pins σ H s)(u:Un X.fs [] H H' s.heap h')(hok:HOk X.prog X.w H' h'):Inv X pins σ H' { s with heap:=h',toks:=t' }:=by
 obtain⟨m,⟨o,es,ep,ho,r⟩,_⟩:=id I.loc;obtain⟨sl,hL⟩:=u.any ho I.free (by simp)
 exact I.step (g':=s.gens) (d':=s.drawn) (ch:=[]) (λ_ z=>nomatch z) (λb o _ hb _ e n=>u.keep b o e n hb (by simp)) (λb o _ hb _ e n=>u.slot b o e n hb (by simp)) (λb o _ e n=>u.free b o e n (by simp)) (λb o _ e=>u.there b o e (by simp)) u.tups u.frzs u.tbls (λm' hm=>by
  obtain⟨o',es',ep',ho',r'⟩:=hm;rw[ho] at ho';cases ho';exact⟨_,es',ep',hL,r'⟩) hok I.bare
theorem Inv.call {g':Array GenState}{t':Nat}{d':Drawn}{ch:List Addr}(I:Inv X pins σ H s)(u:Un (uh X.stack) ch H H' s.heap h')(hok:HOk X.prog X.w H' h')(hg:AllBare g')
  (hch:∀ b∈ch,(b∈X.ex\/X.s₀.heap.get? b=none)/\b≠X.env.locals/\(∀ x c,X.env.cells.lookup x=some c->c≠b)/\∀ p∈X.pn++pins,p.1≠b) :
  Inv X pins σ H' { s with heap:=h',gens:=g',drawn:=d',toks:=t' }:=by
 obtain⟨m,⟨o,es,ep,ho,r⟩,_⟩:=id I.loc;obtain⟨sl,hL⟩:=u.any ho I.free λz=>(hch _ z).2.1 rfl;exact I.step (ch:=ch) hch (λb o hL hb hc e n=>u.keep b o e n (λz=>(List.mem_cons.mp (I.stkSub b z)).elim hL hb) hc) (λb o _ _ hc e n=>u.any e n hc) (λb o hc e n=>u.free b o e n hc) (λb o hc e=>u.there b o e hc) u.tups u.frzs u.tbls (λm' hm=>by
  obtain⟨o',es',ep',ho',r'⟩:=hm;rw[ho] at ho';cases ho';exact⟨_,es',ep',hL,r'⟩) hok hg
theorem Inv.turned {t':Nat}{it:Addr}(I:Inv X pins σ H s)(k:∀ b o,b≠it->s.heap.get? b=some o->h'.get? b=some o)(hn:H it=none)(hL:it≠X.env.locals)
  (h1:it∈X.ex\/X.s₀.heap.objs.size<=it) (h2:∀ x c,X.env.cells.lookup x=some c->c≠it) (h3:∀ p∈X.pn++pins,p.1≠it):Inv X pins σ H { s with heap:=h',toks:=t' }:=by
 have nit:∀ b u,H b=some u->b≠it:=λb u e z=>by rw[z,hn] at e;cases e
 refine I.step (g':=s.gens) (d':=s.drawn) (ch:=[it]) (λb hb=>?_) (λb o _ _ hc e _=>k b o (λz=>hc (by simp [z])) e) (λb o _ _ hc e _=>⟨o.slots,k b o (λz=>hc (by simp [z])) e⟩) (λ_ _ _ _ n=>n)
  (λb o hc e=>⟨o,k b o (λz=>hc (by simp [z])) e⟩) (λ_ _ e=>e) (λ_ _ _ e=>e) (λb ps e=>⟨#[],by rw[e];simp⟩) (λm hm=>?_) (λb u e=>?_) I.bare
 ·have e:b=it:=by simpa using hb
  subst e;exact⟨h1.imp id λz=>Heap.get?_none_of_le z,hL,h2,h3⟩
 ·obtain⟨o,es,ep,ho,r⟩:=hm
  exact⟨o,es,ep,k _ o (Ne.symm hL) ho,r⟩
 ·refine (I.hok b u e).stay (λc v hc q=>k c v ?_ q) (λ_ q=>q) λ_ _ q=>q
  rcases hc with z|z
  ·rw[z];exact nit b u e
  ·exact nit c _ z
theorem Inv.tok (I:Inv X pins σ H s)(t:Nat):Inv X pins σ H { s with toks:=t }:=I.un (h':=s.heap) (t':=t) Un.refl I.hok
theorem Inv.kept {t':Nat}(I:Inv X pins σ H s)(k:∀ b u,s.heap.get? b=some u->h'.get? b=some u):Inv X pins σ H { s with heap:=h',toks:=t' }:=I.un (Un.kept k) (I.hok.kept k)
theorem Inv.laid {a:Addr}{o:HO}{t':Nat}(I:Inv X pins σ H s)(k:∀ b u,s.heap.get? b=some u->h'.get? b=some u)(hp:s.heap.objs.size<=a)(new:ObjOk X.prog X.w (bz H a o) h' a o) :
  Inv X pins σ (bz H a o) { s with heap:=h',toks:=t' }:=I.un (Un.laid k hp (I.hok.fresh hp)) (I.hok.laid k hp new)
theorem Inv.write {x e:Addr}{o:HO}{t':Nat}(I:Inv X pins σ H s)(mu:Lr (H x))(he:e=x\/H e=some (.own x))(k:∀ b u,b≠e->s.heap.get? b=some u->h'.get? b=some u)(heo:∃ u,h'.get? e=some u)
  (new:ObjOk X.prog X.w (bz H x o) h' x o):Inv X pins σ (bz H x o) { s with heap:=h',toks:=t' }:=I.un (Un.write mu he k heo) (I.hok.write mu he k heo new)
theorem Inv.pins_of {pins':List (Addr×Obj)}(I:Inv X pins σ H s)(h:∀ p∈pins',s.heap.get? p.1=some p.2/\H p.1=none/\p.1≠X.env.locals/\p.1∉X.fs/\∀ v,p.2.data≠.cell v):Inv X pins' σ H s :=
 ⟨I.ok,I.os,I.bare,I.base,I.loc,I.cell,I.free,I.freeC,λp hp=>(List.mem_append.mp hp).elim (λz=>I.pin p (List.mem_append_left _ z)) (h p),I.hok,I.len⟩

theorem nK {N:List Str}(hN:N.Nodup){i j:Nat}{x:Str}(a:N[i]?=some x)(b:N[j]?=some x):i=j:=by
 obtain⟨h1,e1⟩:=List.getElem?_eq_some_iff.mp a;obtain⟨h2,e2⟩:=List.getElem?_eq_some_iff.mp b;exact (List.getElem_inj hN).mp (e1.trans e2.symm)

theorem sQ {M:Model}{A:Around}{E:Value->Shared->Prop}{i:Nat}{x:Str}{v:V}{u:Value}{Q:Unit->Shared->Prop}(I:Inv X pins σ H s)(hN:X.N.Nodup)(hi:X.N[i]?=some x)(hx:Loc X.env.scope x)(r:RelV v u)
  (h:∀ s',Inv X pins (σ.set i (some v)) H s'->(∃ a,Heap.SameBut a s.heap s'.heap/\(a=X.env.locals\/X.env.cells.lookup x=some a))->Q () s') (hf:X.fn x=true\/X.env.scope.names.lookup x=some .local:=by first|exact .inl rfl|exact .inr rfl|assumption):wpAny M A (storeName X.env x u) Q E s:=by
 obtain⟨m,hn,hl⟩:=id I.loc;have hcls:(X.env.scope.kind==.class||(X.env.scope.kind==.module&&X.env.locals != X.env.globals))=false:=by rw[I.ok.kind];rfl
 have hiσ:i < σ.length:=by rw[I.len];exact (List.getElem?_eq_some_iff.mp hi).1
 have cne:=I.cne;have tracked:∀ {a:Addr} {h':Heap},(∃ o,s.heap.get? a=some o/\H a=none)->Heap.SameBut a s.heap h'->HOk X.prog X.w H h':=λ{a h'} ha hs b ob e=>by
  obtain⟨_,_,hfree⟩:=ha;refine (I.hok b ob e).stay (λc w' hc q=>(hs.2 c ?_).trans q) (λ_ q=>q) λ_ _ q=>q;rintro rfl;rcases hc with rfl|hc
  ·rw[hfree] at e;cases e
  ·rw[hfree] at hc;cases hc
 rcases hx with hk|hk
 ·refine wpAny_storeName_local hk hn (λh' hn' hs=>?_) hcls
  obtain⟨oL,_,_,hoL,_⟩:=id hn;refine h _ ⟨I.ok,I.os,I.bare,⟨λb o e n hb hx=>?_,λb o e n hb hx=>?_,I.base.free,λb o e hx=>?_,I.base.tups,I.base.frzs,I.base.tbls⟩,⟨_,hn',λj y v' e1 e2 e3=>?_⟩,λy c e=>?_,I.free,I.freeC,λp hp=>?_,tracked ⟨oL,hoL,I.free⟩ hs,by simpa using I.len⟩ ⟨_,hs,.inl rfl⟩
  ·exact (hs.2 b (Nat.ne_of_lt (Nat.lt_of_lt_of_le (Heap.lt_size e) I.ok.above))).trans (I.base.keep b o e n hb hx)
  ·obtain⟨sl,e1⟩:=I.base.slot b o e n hb hx
   exact⟨sl,(hs.2 b (Nat.ne_of_lt (Nat.lt_of_lt_of_le (Heap.lt_size e) I.ok.above))).trans e1⟩
  ·obtain⟨o',e1⟩:=I.base.there b o e hx
   exact⟨o',(hs.2 b (Nat.ne_of_lt (Nat.lt_of_lt_of_le (Heap.lt_size e) I.ok.above))).trans e1⟩
  ·by_cases hj:j=i
   ·subst hj
    rw[hi] at e1;cases e1;rw[List.getElem?_set_self hiσ] at e2;cases e2;exact⟨u,r,.inl ⟨hk,by simp⟩⟩
   ·rw[List.getElem?_set_ne (Ne.symm hj)] at e2
    obtain⟨u',r',q⟩:=hl j y v' e1 e2 e3;refine⟨u',r',?_⟩;rcases q with ⟨k,e⟩|⟨k,c,e,z⟩
    ·refine .inl ⟨k,?_⟩
     have:y≠x:=λe=>hj (nK hN e1 (e ▸ hi));simp [this,e]
    ·exact .inr ⟨k,c,e,z.sameBut hs (cne y c e)⟩
  ·obtain⟨w',z⟩:=I.cell y c e
   exact⟨w',z.sameBut hs (cne y c e)⟩
  ·obtain⟨e,n,ne,nf,d⟩:=I.pin p hp
   exact⟨(hs.2 p.1 ne).trans e,n,ne,nf,d⟩
 ·have hfn:X.fn x=true:=by
   rcases hf with z|z
   ·exact z
   ·rw[z] at hk;cases hk
  obtain⟨c,hc⟩:=I.ok.has x (.inl hk);obtain⟨w',z⟩:=I.cell x c hc;refine wpAny_storeName_cell I.ok.kind hk hc z (λh' hc' hs=>?_);obtain⟨oc,hoc,hocd⟩:=id z;refine h { s with heap:=h' } ⟨I.ok,I.os,I.bare,⟨λb o e n hb hx=>?_,λb o e n hb hx=>?_,I.base.free,λb o e hx=>?_,I.base.tups,I.base.frzs,I.base.tbls⟩,⟨m,hn.sameBut hs (Ne.symm (cne x c hc)),λj y v' e1 e2 e3=>?_⟩,λy c' e=>?_,I.free,I.freeC,λp hp=>?_,tracked ⟨oc,hoc,I.freeC x c hc⟩ hs,by simpa using I.len⟩ ⟨c,hs,.inr hc⟩
  ·exact (hs.2 b (Nat.ne_of_lt (Nat.lt_of_lt_of_le (Heap.lt_size e) (I.ok.cab x c hfn hc)))).trans (I.base.keep b o e n hb hx)
  ·obtain⟨sl,e1⟩:=I.base.slot b o e n hb hx
   exact⟨sl,(hs.2 b (Nat.ne_of_lt (Nat.lt_of_lt_of_le (Heap.lt_size e) (I.ok.cab x c hfn hc)))).trans e1⟩
  ·obtain⟨o',e1⟩:=I.base.there b o e hx
   exact⟨o',(hs.2 b (Nat.ne_of_lt (Nat.lt_of_lt_of_le (Heap.lt_size e) (I.ok.cab x c hfn hc)))).trans e1⟩
  ·by_cases hj:j=i
   ·subst hj
    rw[hi] at e1;cases e1;rw[List.getElem?_set_self hiσ] at e2;cases e2;exact⟨u,r,.inr ⟨.inl hk,c,hc,hc'⟩⟩
   ·rw[List.getElem?_set_ne (Ne.symm hj)] at e2
    obtain⟨u',r',q⟩:=hl j y v' e1 e2 e3;refine⟨u',r',?_⟩;rcases q with q|⟨k,c',e,z'⟩
    ·exact .inl q
    ·refine .inr ⟨k,c',e,z'.sameBut hs ?_⟩
     rintro rfl;exact hj (nK hN e1 (I.ok.inj _ _ _ e hc ▸ hi))
  ·by_cases hcc:c'=c
   ·subst hcc;exact⟨_,hc'⟩
   ·obtain⟨w2,z2⟩:=I.cell y c' e
    exact⟨w2,z2.sameBut hs hcc⟩
  ·obtain⟨e,n,ne,nf,d⟩:=I.pin p hp
   refine⟨(hs.2 p.1 ?_).trans e,n,ne,nf,d⟩;intro q;rw[q,hoc] at e;have q':oc=p.2:=Option.some.inj e;exact d w' (by rw[<- q'];exact hocd)
theorem jw {M:Model}{A:Around}{E:Value->Shared->Prop}{i:Nat}{x:Str}{v:V}{u:Value}{Q:Unit->Shared->Prop}(I:Inv X pins σ H s)(hN:X.N.Nodup)(hi:X.N[i]?=some x)(hx:Loc X.env.scope x)(r:RelV v u)
  (h:∀ s',Inv X pins (σ.set i (some v)) H s'->Q () s') (hf:X.fn x=true\/X.env.scope.names.lookup x=some .local:=by first|exact .inl rfl|exact .inr rfl|assumption):wpAny M A (storeName X.env x u) Q E s :=
 sQ I hN hi hx r (λs' I' _=>h s' I') hf
theorem Inv.call' {s':Shared}{ch:List Addr}(I:Inv X pins σ H s)(ho:s'.os=s.os)(u:Un (uh X.stack) ch H H' s.heap s'.heap)(hok:HOk X.prog X.w H' s'.heap)(hg:AllBare s'.gens)
  (hch:∀ b∈ch,(b∈X.ex\/X.s₀.heap.get? b=none)/\b≠X.env.locals/\(∀ x c,X.env.cells.lookup x=some c->c≠b)/\∀ p∈X.pn++pins,p.1≠b):Inv X pins σ H' s':=by
 obtain⟨h',g',d',t',o'⟩:=s';have e:o'=s.os:=ho;subst e;exact I.call (g':=g') (t':=t') (d':=d') u hok hg hch
end

abbrev XK:=Value->Option Addr->Hp->Prop
abbrev St:=List (Option V)
abbrev VK:=V->Hp->Prop
abbrev TE:=St->Hp->VK->Prop
abbrev TT:=St->Hp->(Bool->Hp->Prop)->Prop
abbrev TA:=St->Hp->(List V->Hp->Prop)->Prop
structure Ends where
 nx:St->Hp->Prop
 rt:VK
 bk:St->Hp->Prop:=λ_ _=>False
 ct:St->Hp->Prop:=λ_ _=>False
abbrev TS:=Ends->St->Hp->Prop

def EP (X:Cx)(pins:List (Addr×Obj))(σ:St)(Q:VK)(u:Value)(s':Shared):Prop:=∃ v H',Inv X pins σ H' s'/\RelV v u/\Q v H'
def TP (X:Cx)(pins:List (Addr×Obj))(σ:St)(Q:Bool->Hp->Prop)(b:Bool)(s':Shared):Prop:=∃ H',Inv X pins σ H' s'/\Q b H'
def AP (X:Cx)(pins:List (Addr×Obj))(σ:St)(Q:List V->Hp->Prop)(us:List Value)(s':Shared):Prop:=∃ vs H',Inv X pins σ H' s'/\Vals vs us/\Q vs H'
def SP (X:Cx)(pins:List (Addr×Obj))(D:Ends)(f:Flow)(s':Shared):Prop :=
 match f with
 | .next=>∃ σ' H',Inv X pins σ' H' s'/\D.nx σ' H'
 | .brk=>∃ σ' H',Inv X pins σ' H' s'/\D.bk σ' H'
 | .cont=>∃ σ' H',Inv X pins σ' H' s'/\D.ct σ' H'
 | .ret u=>∃ v σ' H',Inv X pins σ' H' s'/\RelV v u/\D.rt v H'

def PE (X:Cx)(e:Expr)(t:TE):Prop :=
 ∀ (pins:List (Addr×Obj)) (s:Shared) (σ:St) (H:Hp) (Q:VK),Inv X pins σ H s->t σ H Q->wpAny (model X.prog X.w) X.A (eval e X.env) (EP X pins σ Q) X.xe s
def PT (X:Cx)(e:Expr)(t:TT):Prop :=
 ∀ (pins:List (Addr×Obj)) (s:Shared) (σ:St) (H:Hp) (Q:Bool->Hp->Prop),Inv X pins σ H s->t σ H Q->wpAny (model X.prog X.w) X.A (isTrue e X.env (eval e X.env)) (TP X pins σ Q) X.xe s
def PW (X:Cx)(e:Expr)(t:TT):Prop :=
 ∀ (whole:Sem Value) (pins:List (Addr×Obj)) (s:Shared) (σ:St) (H:Hp) (Q:Bool->Hp->Prop),Inv X pins σ H s->t σ H Q->wpAny (model X.prog X.w) X.A (isTrue e X.env whole) (TP X pins σ Q) X.xe s
theorem PW.pt {X:Cx}{e:Expr}{t:TT}(h:PW X e t):PT X e t:=h _
def PA (X:Cx)(es:List Expr)(t:TA):Prop :=
 ∀ (pos:Pos) (pins:List (Addr×Obj)) (s:Shared) (σ:St) (H:Hp) (Q:List V->Hp->Prop),Inv X pins σ H s->t σ H Q->wpAny (model X.prog X.w) X.A (spliced (backTo pos (starEach es X.env))) (AP X pins σ Q) X.xe s
def PS (X:Cx)(st:Stmt)(t:TS):Prop :=
 ∀ (pins:List (Addr×Obj)) (s:Shared) (σ:St) (H:Hp) (D:Ends),Inv X pins σ H s->t D σ H->wpAny (model X.prog X.w) X.A (exec st X.env) (SP X pins D) X.xe s
def PSs (X:Cx)(st:List Stmt)(t:TS):Prop :=
 ∀ (pins:List (Addr×Obj)) (s:Shared) (σ:St) (H:Hp) (D:Ends),Inv X pins σ H s->t D σ H->wpAny (model X.prog X.w) X.A (execs st X.env) (SP X pins D) X.xe s
theorem bT {α:Type}{t:Sem α}{Q Q':α->Shared->Prop}{M:Model}{A:Around}{E:Value->Shared->Prop}{s:Shared}(h:wpAny M A t Q E s)(hQ:∀ a s,Q a s->Q' a s):wpAny M A t Q' E s:=wpAny_mono h hQ λ_ _ x=>x
end L2

namespace L2
open PySem PySem.Spec PyProof.Rows
section
variable {X:Cx}

def Ap (i:Nat):TE:=λσ H Q=>∃ v,σ[i]?=some (some v)/\Q v H
def tC (v:V):TE:=λ_ H Q=>Q v H
theorem fA {i:Nat}{x:Str}{pos:Pos}(hN:X.N[i]?=some x)(hv:Ao X.env.scope x)(hd:(x==("__debug__":Str))=false:=by decide)(hcd:(x==("__classdict__":Str))=false:=by decide):PE X (.Name x pos) (Ap i):=by
 intro pins s σ H Q I h;obtain⟨v,e,h⟩:=h;obtain⟨m,hn,hl⟩:=I.loc;obtain⟨u,r,l⟩:=hl i x v hN e hv;have fin:EP X pins σ Q u s:=⟨v,H,I,r,h⟩;rcases l with ⟨hk,hm⟩|⟨hk,c,hc,hcell⟩
 ·exact wpAny_Name (wpAny_loadName_local I.ok.kind hk hn hm fin) hd
 ·rcases hk with hk|hk
  ·exact wpAny_Name (wpAny_loadName_cell I.ok.kind hk hc hcell fin) hd
  ·exact wpAny_Name (wpAny_loadName_free I.ok.kind hk hc hcell fin hcd) hd
theorem DD {i j pos}:PE X (.Constant (.int i) j pos) (tC (.int i)):=λ_ _ _ H _ I h=>wpAny_Constant_int ⟨.int i,H,I.tok _,⟨_,rfl⟩,h⟩
theorem Ls {b j pos}:PE X (.Constant (.bool b) j pos) (tC (.bl b)):=λ_ _ _ H _ I h=>Constant_bool ⟨.bl b,H,I,rfl,h⟩
theorem DE {j pos}:PE X (.Constant .none j pos) (tC .non):=λ_ _ _ H _ I h=>Constant_none ⟨.non,H,I,rfl,h⟩
theorem DF {x j pos}:PE X (.Constant (.str x) j pos) (tC (.str x)):=λ_ _ _ H _ I h=>Calls.Constant_str ⟨.str x,H,I.tok _,⟨_,rfl⟩,h⟩

def Gl (X:Cx)(x:Str):Prop:=X.env.kindOf x=some .globalImplicit
theorem rm {E:Value->Shared->Prop}{pins:List (Addr×Obj)}{s:Shared}{σ:St}{H:Hp}{x:Str}{u:Value}{pos:Pos}{Q:Value->Shared->Prop}(I:Inv X pins σ H s)(hg:Gl X x)(hm:X.mg x=some u)(h:Q u s)
  (hd:(x==("__debug__":Str))=false:=by decide):wpAny (model X.prog X.w) X.A (eval (.Name x pos) X.env) Q E s :=
 Calls.Name_function_global I.ok.kind hg (Calls.loadGlobal_global (by rw[I.ok.glob];exact I.mod.glob.keeps I.bk) hm h) hd
theorem dR {E:Value->Shared->Prop}{pins:List (Addr×Obj)}{s:Shared}{σ:St}{H:Hp}{x:Str}{u:Value}{pos:Pos}{Q:Value->Shared->Prop}(I:Inv X pins σ H s)(hg:Gl X x)(hm:X.mg x=none)(hv:bootBuiltins x=some u)(h:Q u s)
  (hn:x≠"__name__":=by decide) (hd:(x==("__debug__":Str))=false:=by decide):wpAny (model X.prog X.w) X.A (eval (.Name x pos) X.env) Q E s:=by
 obtain⟨mb,h1,h2⟩:=I.mod.blt;exact Calls.Name_function_global I.ok.kind hg (Calls.loadGlobal_builtin (by rw[I.ok.glob];exact I.mod.glob.keeps I.bk) hm (by rw[I.ok.blt];exact h1.keeps I.bk) ((h2 x hn).trans hv) h) hd
theorem Aq {x:Str}{v:V}{u:Value}{pos:Pos}(hg:Gl X x)(hm:X.mg x=some u)(r:RelV v u)(hd:(x==("__debug__":Str))=false:=by decide):PE X (.Name x pos) (tC v) :=
 λ_ _ _ H _ I h=>rm I hg hm ⟨v,H,I,r,h⟩ hd
theorem As {x:Str}{v:V}{u:Value}{pos:Pos}(hg:Gl X x)(hm:X.mg x=none)(hv:bootBuiltins x=some u)(r:RelV v u)(hn:x≠"__name__":=by decide)(hd:(x==("__debug__":Str))=false:=by decide):PE X (.Name x pos) (tC v) :=
 λ_ _ _ H _ I h=>dR I hg hm hv ⟨v,H,I,r,h⟩ hn hd

variable {a b:Expr}{ta tb:TE}{pos:Pos}
variable {tA tB':TT}{rest:List Expr}
def Pp (t u:TT):TT:=λσ H Q=>t σ H λc H1=>if c=true then u σ H1 Q else Q false H1
def Rn (t u:TT):TT:=λσ H Q=>t σ H λc H1=>if c=true then Q true H1 else u σ H1 Q
def Pq (t:TT):TT:=λσ H Q=>t σ H λc H1=>Q (!c) H1
theorem Au (ha:PT X a tA):PW X (.BoolOp .And [a] pos) tA:=by
 intro wh pins s σ H Q I h;refine isTrue_and (bT (ha pins s σ H Q I h) λc s1 e=>?_);cases c with
 | true=>exact isTrue_and_nil e
 | false=>exact e
theorem DG (ha:PT X a tA):PW X (.BoolOp .Or [a] pos) tA:=by
 intro wh pins s σ H Q I h;refine isTrue_or (bT (ha pins s σ H Q I h) λc s1 e=>?_);cases c with
 | false=>exact isTrue_or_nil e
 | true=>exact e
theorem DH (ha:PT X a tA)(hb:PW X (.BoolOp .And (b::rest) pos) tB'):PW X (.BoolOp .And (a::b::rest) pos) (Pp tA tB'):=by
 intro wh pins s σ H Q I h;refine isTrue_and (bT (ha pins s σ H _ I h) λc s1 ⟨H1,I1,q1⟩=>?_);cases c with
 | true=>exact hb wh pins s1 σ H1 Q I1 q1
 | false=>exact⟨H1,I1,q1⟩
theorem Lu (ha:PT X a tA)(hb:PW X (.BoolOp .Or (b::rest) pos) tB'):PW X (.BoolOp .Or (a::b::rest) pos) (Rn tA tB'):=by
 intro wh pins s σ H Q I h;refine isTrue_or (bT (ha pins s σ H _ I h) λc s1 ⟨H1,I1,q1⟩=>?_);cases c with
 | true=>exact⟨H1,I1,q1⟩
 | false=>exact hb wh pins s1 σ H1 Q I1 q1
theorem DI (ha:PT X a tA):PT X (.UnaryOp .Not a pos) (Pq tA):=by
 intro pins s σ H Q I h;exact isTrue_not (ha pins s σ H (λc H1=>Q (!c) H1) I h)
def Lv (ta tb:TE):TE:=λσ H Q=>ta σ H λx H1=>∃ c,x=.bl c/\if c=true then tb σ H1 Q else Q (.bl false) H1
def Lw (ta:TE):TE:=λσ H Q=>ta σ H λx H1=>∃ c,x=.bl c/\Q (.bl (!c)) H1
theorem DJ {op}{t:TE}(h:PE X a t):PE X (.BoolOp op [a] pos) t:=λpins s σ H Q I hw=>BoolOp_one (h pins s σ H Q I hw)
theorem DK (ha:PE X a ta)(hb:PE X (.BoolOp .And (b::rest) pos) tb):PE X (.BoolOp .And (a::b::rest) pos) (Lv ta tb):=by
 intro pins s σ H Q I h;refine BoolOp_and (bT (ha pins s σ H _ I h) λv s1 ⟨x,H1,I1,r1,q1⟩=>?_);obtain⟨c,rfl,q1⟩:=q1;cases r1;refine wpAny_truthy_bool ?_;cases c with
 | true=>exact hb pins s1 σ H1 Q I1 q1
 | false=>exact⟨.bl false,H1,I1,rfl,q1⟩
theorem DL (ha:PE X a ta):PE X (.UnaryOp .Not a pos) (Lw ta):=by
 intro pins s σ H Q I h;refine UnaryOp_ (bT (ha pins s σ H _ I h) λv s1 ⟨x,H1,I1,r1,q1⟩=>?_);obtain⟨c,rfl,q1⟩:=q1;cases r1;exact not_of (wpAny_truthy_bool ⟨.bl (!c),H1,I1,rfl,q1⟩)
end
end L2

namespace L2
open PySem PySem.Spec PyProof.Rows

def SqL (K:PySem.W.Frag)(H:Hp)(a:Addr)(xs:List V):Prop :=
 Rd H a (.lst xs) \/
  ∃ (o:Obj) (its:Array Value) (n:Nat),K.lookup a=some o/\o.cls=.type "list"/\o.dict=none/\o.data=.seq its n/\its.size<=sizeLine/\Vals xs its.toList
def SqT (K:PySem.W.Frag)(H:Hp)(a:Addr)(xs:List V):Prop :=
 Rd H a (.tup xs) \/
  ∃ (o:Obj) (its:Array Value) (n:Nat),K.lookup a=some o/\o.cls=.type "tuple"/\o.data=.seq its n/\its.size<=sizeLine/\Vals xs its.toList
def Pr:Value->Option V
 | .none=>some .non
 | .bool b=>some (.bl b)
 | .int i _=>some (.int i)
 | .str x _=>some (.str x)
 | .bytes b _=>some (.byt b)
 | .float b _=>some (.flt b)
 | .ref a=>some (.ref a)
 | .type n=>some (.ty n)
 | _=>none
theorem RelV.abs {x:V}{u:Value}(r:RelV x u):Pr u=some x:=by
 cases x with
 | non=>cases r;rfl
 | bl _=>cases r;rfl
 | int _=>obtain⟨t,rfl⟩:=r;rfl
 | str _=>obtain⟨t,rfl⟩:=r;rfl
 | byt _=>obtain⟨t,rfl⟩:=r;rfl
 | flt _=>obtain⟨t,rfl⟩:=r;rfl
 | ref _=>cases r;rfl
 | ty _=>cases r;rfl
theorem RelV.inj {x y:V}{u:Value}(r:RelV x u)(q:RelV y u):x=y:=Option.some.inj (r.abs.symm.trans q.abs)
theorem Vals.inj:∀ {xs ys:List V} {us:List Value},Vals xs us->Vals ys us->xs=ys
 | _,_,_,.nil,.nil=>rfl
 | _,_,_,.cons r t,.cons r' t'=>by rw[r.inj r',Vals.inj t t']
section
variable {X:Cx}{pins:List (Addr×Obj)}{σ:St}{H:Hp}{s:Shared}{a:Addr}{xs ys:List V}
theorem SqL.of {K:PySem.W.Frag}(h:H a=some (.lst xs)):SqL K H a xs:=.inl (.inl h)
theorem SqT.of {K:PySem.W.Frag}(h:H a=some (.tup xs)):SqT K H a xs:=.inl (.inl h)
theorem Inv.list (I:Inv X pins σ H s)(h:SqL X.K H a xs):∃ its:List Value,Vals xs its/\PlainL s.heap a its.toArray/\xs.length<=sizeLine:=by
 rcases h with h|⟨o,its,n,hk,hc,hd,hs,hz,r⟩
 ·obtain⟨z,its,n,r,e⟩:=h.ok I.hok
  exact⟨its,r,⟨_,n,e,rfl,rfl,rfl⟩,z⟩
 ·refine⟨its.toList,r,⟨o,n,I.kIn a o hk,hc,hd,by simpa using hs⟩,?_⟩
  have e:=r.length;simp only[Array.length_toList] at e;omega
theorem Inv.tuple (I:Inv X pins σ H s)(h:SqT X.K H a xs):∃ its:List Value,Vals xs its/\IsTup s.heap a its.toArray/\xs.length<=sizeLine:=by
 rcases h with h|⟨o,its,n,hk,hc,hs,hz,r⟩
 ·obtain⟨z,its,r,p⟩:=h.ok I.hok
  exact⟨its,r,p,z⟩
 ·refine⟨its.toList,r,⟨o,I.kIn a o hk,hc,n,by simpa using hs⟩,?_⟩
  have e:=r.length;simp only[Array.length_toList] at e;omega
theorem Inv.list_inj (I:Inv X pins σ H s)(h:SqL X.K H a xs)(h':SqL X.K H a ys):xs=ys:=by
 obtain⟨its,r,⟨o,n,e,_,_,d⟩,_⟩:=I.list h;obtain⟨its',r',⟨o',n',e',_,_,d'⟩,_⟩:=I.list h';rw[e] at e';cases e';rw[d] at d'
 injection d' with d1 _
 have:its=its':=by simpa using congrArg Array.toList d1
 subst this;exact r.inj r'
theorem Inv.tuple_inj (I:Inv X pins σ H s)(h:SqT X.K H a xs)(h':SqT X.K H a ys):xs=ys:=by
 obtain⟨its,r,⟨o,e,_,n,d⟩,_⟩:=I.tuple h;obtain⟨its',r',⟨o',e',_,n',d'⟩,_⟩:=I.tuple h';rw[e] at e';cases e';rw[d] at d'
 injection d' with d1 _
 have:its=its':=by simpa using congrArg Array.toList d1
 subst this;exact r.inj r'
end

abbrev Cx.wish (X:Cx)(E:Value->Shared->Prop):Cx:={ X with xe:=E }
abbrev Cx.nox (X:Cx):Cx:=X.wish λ_ _=>False
theorem Cx.Ok.wish {X:Cx}(ok:X.Ok)(E:Value->Shared->Prop):(X.wish E).Ok :=
 ⟨ok.mod,ok.kind,ok.glob,ok.blt,ok.above,ok.inj,ok.has,ok.cab,ok.hd,ok.frames,ok.stk,ok.exf,ok.bs,ok.bsz,ok.noex,ok.exfs,ok.funs,ok.frf⟩
theorem Cx.Ok.unwish {X:Cx}{E:Value->Shared->Prop}(ok:(X.wish E).Ok):X.Ok :=
 ⟨ok.mod,ok.kind,ok.glob,ok.blt,ok.above,ok.inj,ok.has,ok.cab,ok.hd,ok.frames,ok.stk,ok.exf,ok.bs,ok.bsz,ok.noex,ok.exfs,ok.funs,ok.frf⟩
section
variable {X:Cx}{pins:List (Addr×Obj)}{σ:St}{H:Hp}{s:Shared}{E:Value->Shared->Prop}
theorem Inv.wish (I:Inv X pins σ H s)(E:Value->Shared->Prop):Inv (X.wish E) pins σ H s:=⟨I.ok.wish E,I.os,I.bare,I.base,I.loc,I.cell,I.free,I.freeC,I.pin,I.hok,I.len⟩
theorem Inv.unwish (I:Inv (X.wish E) pins σ H s):Inv X pins σ H s:=⟨I.ok.unwish,I.os,I.bare,I.base,I.loc,I.cell,I.free,I.freeC,I.pin,I.hok,I.len⟩
theorem SP.unwish {D:Ends}{f:Flow}{s':Shared}(h:SP (X.wish E) pins D f s'):SP X pins D f s':=by
 cases f with
 | next=>obtain⟨σ',H',I,q⟩:=h;exact⟨σ',H',I.unwish,q⟩
 | brk=>obtain⟨σ',H',I,q⟩:=h;exact⟨σ',H',I.unwish,q⟩
 | cont=>obtain⟨σ',H',I,q⟩:=h;exact⟨σ',H',I.unwish,q⟩
 | ret u=>obtain⟨v,σ',H',I,r,q⟩:=h;exact⟨v,σ',H',I.unwish,r,q⟩
theorem PSs.nox {st:List Stmt}{t:TS}(h:PSs X.nox st t):PSs X st t:=λpins s σ H D I hw =>
 wpAny_mono (h pins s σ H D (I.wish _) hw) (λ_ _ q=>q.unwish) λ_ _ z=>False.elim z
end

section
variable {X:Cx}{st:Stmt}{rest:List Stmt}{t u:TS}{e:Expr}{te:TE}{pos:Pos}
def Lx:TS:=λD σ H=>D.nx σ H
def Ps (t u:TS):TS:=λD σ H=>t { D with nx:=u D } σ H
theorem Av:PSs X [] Lx:=λ_ _ σ H _ I h=>wpAny_execs_nil ⟨σ,H,I,h⟩
theorem uk (h1:PS X st t)(h2:PSs X rest u):PSs X (st::rest) (Ps t u):=by
 intro pins s σ H D I h;refine wpAny_execs_cons (bT (h1 pins s σ H { D with nx:=u D } I h) λf s1 q=>?_)
 cases f with
 | next =>
  obtain⟨σ',H',I',q⟩:=q;exact h2 pins s1 σ' H' D I' q
 | ret v=>exact q
 | brk=>exact q
 | cont=>exact q
theorem Aw (h1:PS X st t):PSs X [st] t:=by
 intro pins s σ H D I h;refine wpAny_execs_cons (bT (h1 pins s σ H D I h) λf s1 q=>?_);cases f with
 | next=>exact wpAny_execs_nil q
 | ret v=>exact q
 | brk=>exact q
 | cont=>exact q
theorem Inv.quiet {pins:List (Addr×Obj)}{σ:St}{H:Hp}{s:Shared}(I:Inv X pins σ H s):interactive X.env=false:=by simp [interactive,I.ok.kind]
def Ly (te:TE):TS:=λD σ H=>te σ H λ_ H1=>D.nx σ H1
theorem rn (he:PE X e te)(hs:swapsWith e none pos.line X.env=pure false:=by rfl):PS X (.Expr e pos) (Ly te):=by
 intro pins s σ H D I h;exact wpAny_Expr_any (bT (he pins s σ H _ I h) λv s1 ⟨x,H1,I1,r1,q1⟩=>⟨σ,H1,I1,q1⟩) I.quiet hs
def Pt (te:TE):TS:=λD σ H=>te σ H D.rt
theorem DM (he:PE X e te):PS X (.Return (some e) pos) (Pt te):=by
 intro pins s σ H D I h;exact wpAny_Return_some (bT (he pins s σ H _ I h) λv s1 ⟨x,H1,I1,r1,q1⟩=>⟨x,σ,H1,I1,r1,q1⟩)
def Pu (c:TT)(t u:TS):TS:=λD σ H=>c σ H λb H1=>if b=true then t D σ H1 else u D σ H1
theorem Lz {c:Expr}{a b:List Stmt}{tc:TT}(hc:PT X c tc)(ha:PSs X a t)(hb:PSs X b u):PS X (.If c a b pos) (Pu tc t u):=by
 intro pins s σ H D I h;refine wpAny_If (bT (hc pins s σ H _ I h) λd s1 ⟨H1,I1,q1⟩=>?_);cases d with
 | true=>exact ha pins s1 σ H1 D I1 q1
 | false=>exact hb pins s1 σ H1 D I1 q1
def DN:TS:=λ_ _ _=>False
theorem ul:PS X st DN:=λ_ _ _ _ _ _ h=>h.elim
end

abbrev TG:=V->St->Hp->(St->Hp->Prop)->Prop
abbrev Cs:=List V->St->Hp->(St->Hp->Prop)->Prop
def PG (X:Cx)(target:Expr)(t:TG):Prop :=
 ∀ (pins:List (Addr×Obj)) (s:Shared) (σ:St) (H:Hp) (v:V) (u:Value) (Q:St->Hp->Prop),Inv X pins σ H s->RelV v u->t v σ H Q ->
  wpAny (model X.prog X.w) X.A (assign target X.env u) (λ_ s'=>∃ σ' H',Inv X pins σ' H' s'/\Q σ' H') X.xe s
def Lm (X:Cx)(ts:List Expr)(t:Cs):Prop :=
 ∀ (pins:List (Addr×Obj)) (s:Shared) (σ:St) (H:Hp) (vs:List V) (us:List Value) (Q:St->Hp->Prop),Inv X pins σ H s->Vals vs us->t vs σ H Q ->
  wpAny (model X.prog X.w) X.A (assignInOrder ((assignEach ts X.env).map (·.2)) us) (λ_ s'=>∃ σ' H',Inv X pins σ' H' s'/\Q σ' H') X.xe s
abbrev DP:=V->V->V->Hp->(Hp->Prop)->Prop
def LA (X:Cx)(t:DP):Prop :=
 ∀ (pins:List (Addr×Obj)) (s:Shared) (σ:St) (H:Hp) (o i v:V) (ov iv u:Value) (Q:Hp->Prop),Inv X pins σ H s->RelV o ov->RelV i iv->RelV v u->t o i v H Q ->
  wpAny (model X.prog X.w) X.A (setItem ov iv u) (λ_ s'=>∃ H',Inv X pins σ H' s'/\Q H') X.xe s
section
variable {X:Cx}{pos:Pos}
def kM (i:Nat):TG:=λv σ H Q=>Q (σ.set i (some v)) H
theorem Ax {i:Nat}{x:Str}(hN:X.N.Nodup)(hi:X.N[i]?=some x)(hx:Loc X.env.scope x)(hf:X.fn x=true\/X.env.scope.names.lookup x=some .local:=by first|exact .inl rfl|exact .inr rfl|assumption):PG X (.Name x pos) (kM i):=by
 intro pins s σ H v u Q I r h;exact wpAny_assign_Name (jw I hN hi hx r (λs' I'=>⟨_,H,I',h⟩) hf)
def Pv:Cs:=λvs σ H Q=>vs=[]/\Q σ H
def LB (t:TG)(u:Cs):Cs:=λvs σ H Q=>∃ v r,vs=v::r/\t v σ H λσ' H'=>u r σ' H' Q
theorem Ay:Lm X [] Pv:=by
 intro pins s σ H vs us Q I r h;obtain⟨e,h⟩:=h;subst e;cases r;exact assignInOrder_nil ⟨σ,H,I,h⟩
theorem um {e:Expr}{es:List Expr}{t:TG}{u:Cs}(h1:PG X e t)(h2:Lm X es u)
  (hs:(assignEach (e::es) X.env).map (·.2)=assign e X.env::(assignEach es X.env).map (·.2):=by rfl):Lm X (e::es) (LB t u):=by
 intro pins s σ H vs us Q I r h;obtain⟨v,vr,e1,h⟩:=h;subst e1;cases r with
 | cons r rr =>
  rw[hs];refine assignInOrder_cons (bT (h1 pins s σ H _ _ _ I r h) λ_ s1 ⟨σ1,H1,I1,q1⟩=>?_);exact h2 pins s1 σ1 H1 _ _ Q I1 rr q1
def Pw (K:PySem.W.Frag)(n:Nat)(t:Cs):TG:=λv σ H Q=>∃ a xs,v=.ref a/\SqT K H a xs/\xs.length=n/\t xs σ H Q
theorem DQ {es:List Expr}{k:Nat}{t:Cs}{n:Nat}(hc:X.calm=true)(h:Lm X es t)
  (hn:(assignEach es X.env).length=n:=by rfl) (hst:(assignEach es X.env).findIdx? (·.1)=none:=by rfl):PG X (.Tuple es k pos) (Pw X.K n t):=by
 intro pins s σ H v u Q I r hw;obtain⟨a,xs,e1,hq,hl,hw⟩:=hw;subst e1;cases r;obtain⟨its,rv,ht,hz⟩:=I.tuple hq;refine assign_Tuple_tuple (I.ok.hd hc) ht (by simp [hn,<- hl,rv.length]) hst λh' hx=>?_
 have I1:Inv X pins σ H { s with heap:=h' }:=I.kept (t':=s.toks) λb o e=>hx b o (Nat.ne_of_lt (Heap.lt_size e)) e
 exact h pins _ σ H xs _ Q I1 (by simpa using rv) hw
def Px (to ti:TE)(t:DP):TG:=λv σ H Q=>to σ H λo H1=>ti σ H1 λi H2=>t o i v H2 λH3=>Q σ H3
theorem DR {o i:Expr}{to ti:TE}{t:DP}(ho:PE X o to)(hi:PE X i ti)(hs:LA X t)
  (ha:∀ v,assign (.Subscript o i pos) X.env v=(do
   let ov <- holding [v] (eval o X.env)
   let iv <- holding [v,ov] (eval i X.env)
   standAt pos
   holding [v,ov,iv] (setItem ov iv v)
   release [v,ov,iv] []):=by intro _;rfl):PG X (.Subscript o i pos) (Px to ti t):=by
 intro pins s σ H v u Q I r h;rw[ha];refine wpAny_bind (wpAny_holding (bT (ho pins s σ H _ I h) λov s1 ⟨x,H1,I1,r1,q1⟩=>?_));refine wpAny_bind (wpAny_holding (bT (hi pins s1 σ H1 _ I1 q1) λiv s2 ⟨y,H2,I2,r2,q2⟩=>?_));refine wpAny_bind (wpAny_standAt (wpAny_bind (wpAny_holding (bT (hs pins s2 σ H2 x y v ov iv u _ I2 r1 r2 r q2) λ_ s3 ⟨H3,I3,q3⟩=>?_))));exact wpAny_release ⟨σ,H3,I3,q3⟩
def uo (te:TE)(g:TG):TS:=λD σ H=>te σ H λx H1=>g x σ H1 D.nx
theorem ps_asg {tg e:Expr}{te:TE}{g:TG}(he:PE X e te)(hg:PG X tg g)(hs:swapsWithSole [tg] e pos.line X.env=pure false:=by rfl)(hw:swappedStores [tg] e X.env=pure none:=by rfl)
  (h1:(assignEach [tg] X.env).map (·.2)=[assign tg X.env]:=by rfl):PS X (.Assign [tg] e pos) (uo te g):=by
 intro pins s σ H D I h;refine wpAny_Assign_stores (bT (he pins s σ H _ I h) λv s1 ⟨x,H1,I1,r1,q1⟩=>?_) hs hw;rw[h1];exact bT (hg pins s1 σ H1 x v _ I1 r1 q1) λ_ s2 q=>q
theorem ps_set {i:Nat}{x:Str}{e:Expr}{te:TE}{pos':Pos}(hN:X.N.Nodup)(hi:X.N[i]?=some x)(hx:Loc X.env.scope x)(he:PE X e te)(hs:swapsWith e (some (.Name x pos')) pos.line X.env=pure false:=by rfl)(hf:X.fn x=true\/X.env.scope.names.lookup x=some .local:=by first|exact .inl rfl|exact .inr rfl|assumption) :
  PS X (.Assign [.Name x pos'] e pos) (uo te (kM i)):=by
 intro pins s σ H D I h;refine wpAny_Assign_Name (bT (he pins s σ H _ I h) λv s1 ⟨y,H1,I1,r1,q1⟩=>?_) hs;exact jw I1 hN hi hx r1 (λs2 I2=>⟨_,H1,I2,q1⟩) hf
end

section
variable {X:Cx}{pos:Pos}
end

structure It where
 go:Nat->Hp->Prop
 yld:Nat->Hp->V->Hp->Prop
 stop:Nat->Hp->Prop
def fj (X:Cx)(pins:List (Addr×Obj))(H:Hp)(b:Addr):Prop :=
 H b=none/\b≠X.env.locals/\b∉X.fs/\(b∈X.ex\/X.s₀.heap.objs.size<=b)/\(∀ x c,X.env.cells.lookup x=some c->c≠b)/\∀ p∈X.pn++pins,p.1≠b
theorem Inv.fpOk {X:Cx}{pins:List (Addr×Obj)}{σ:St}{H H':Hp}{s:Shared}{b:Addr}(I:Inv X pins σ H s)(hb:s.heap.objs.size<=b)(hn:H' b=none):fj X pins H' b:=by
 refine⟨hn,Nat.ne_of_gt (Nat.lt_of_lt_of_le I.lt hb),I.nofs hb,.inr (Nat.le_trans I.sz hb),λx c e z=>?_,λp hp z=>?_⟩
 ·obtain⟨v,q⟩:=I.cell x c e
  exact absurd (Nat.lt_of_lt_of_le q.lt (by rw[z];exact hb)) (Nat.lt_irrefl _)
 ·exact absurd (Nat.lt_of_lt_of_le (Heap.lt_size (I.pin p hp).1) (by rw[z];exact hb)) (Nat.lt_irrefl _)
structure Turn (P:Program)(w:World)(K:PySem.W.Frag)(tg:Expr)(J:It)(fp:List Addr)(it:Addr)(tn:Nat->Heap->Prop):Prop where
 mem:it∈fp
 obj:∀ i h,tn i h->∀ b∈fp,∃ o,h.get? b=some o/\∀ v,o.data≠.cell v
 keep:∀ i h h',tn i h->(∀ b∈fp,∀ o,h.get? b=some o->h'.get? b=some o)->tn i h'
 item:∀ (X:Cx),X.prog=P->X.w=w->X.K=K->X.calm=true->∀ (i:Nat) (pins:List (Addr×Obj)) (s:Shared) (σ:St) (H:Hp) (E:Value->Shared->Prop),Inv X pins σ H s->(∀ b∈fp,fj X pins H b)->tn i s.heap->J.go i H ->
  wpAny (model P w) X.A (pyNext (.ref it)) (λr s1=>∃ u,r=some u /\
   wpAny (model P w) X.A (letOwnedTupleGo tg (.ref it) u) (λ_ s2=>∃ x H',Inv X pins σ H' s2/\RelV x u/\J.yld i H x H'/\tn (i+1) s2.heap/\∀ b∈fp,H' b=none) E s1) E s
 done:∀ (X:Cx),X.prog=P->X.w=w->X.K=K->X.calm=true->∀ (i:Nat) (pins:List (Addr×Obj)) (s:Shared) (σ:St) (H:Hp) (E:Value->Shared->Prop),Inv X pins σ H s->(∀ b∈fp,fj X pins H b)->tn i s.heap->J.stop i H ->
  wpAny (model P w) X.A (pyNext (.ref it)) (λr s1=>r=none/\Inv X pins σ H s1) E s
 self:∀ (A:Around) (i:Nat) (s:Shared) (Q:Value->Shared->Prop) (E:Value->Shared->Prop),tn i s.heap->Q (.ref it) s->wpAny (model P w) A (pyIter (.ref it)) Q E s
abbrev TI:=St->Hp->(It->Hp->Prop)->Prop
def Py (X:Cx)(pins:List (Addr×Obj))(σ:St)(tg:Expr)(R:It->Hp->Prop)(itv:Value)(s2:Shared):Prop :=
 ∃ (it:Addr) (fp:List Addr) (tn:Nat->Heap->Prop) (J:It) (H':Hp),itv=.ref it/\Inv X pins σ H' s2/\Turn X.prog X.w X.K tg J fp it tn/\tn 0 s2.heap/\(∀ b∈fp,fj X pins H' b)/\R J H'
def PI (X:Cx)(tg iter:Expr)(wi:TI):Prop :=
 ∀ (pins:List (Addr×Obj)) (s:Shared) (σ:St) (H:Hp) (R:It->Hp->Prop),Inv X pins σ H s->wi σ H R ->
  wpAny (model X.prog X.w) X.A (eval iter X.env) (λv s1=>wpAny (model X.prog X.w) X.A (pyIter v) (Py X pins σ tg R) X.xe s1) X.xe s

theorem rp {M:Model}{A:Around}{E:Value->Shared->Prop}{s:Shared}{tg:Expr}{it:Addr}{u:Value}{o:Obj}{n:String}{vs:Array Value}{Q:Unit->Shared->Prop}(ho:s.heap.get? it=some o)(hc:o.cls=.type n)(hd:o.data=.fields vs)
    (hn:["enumerate","zip","dict_itemiterator","dict_reverseitemiterator","odict_iterator","itertools.zip_longest","itertools.pairwise"].contains n=false) (hQ:Q () s):wpAny M A (letOwnedTupleGo tg (.ref it) u) Q E s:=by
  unfold letOwnedTupleGo;cases tg<;>first
    | exact wpAny_pure hQ
    | (cases u<;>first
        | exact wpAny_pure hQ
        | (refine wpAny_bind (wpAny_load ho ?_)
           rw[hc,hd];show wpAny M A (if (["enumerate","zip","dict_itemiterator","dict_reverseitemiterator","odict_iterator","itertools.zip_longest","itertools.pairwise"].contains n&&vs[0]?==some (rawInt _))=true then _ else _) Q E s
           rw[if_neg (by intro h;rw[hn,Bool.false_and] at h;cases h)]
           exact wpAny_pure hQ))

def Pz (K:PySem.W.Frag)(a:Addr):It :=
 ⟨λi H=>∃ xs x,SqL K H a xs/\xs[i]?=some x,λi H x H'=>H'=H/\∀ xs,SqL K H a xs->xs[i]?=some x,λi H=>∃ xs,SqL K H a xs/\xs.length<=i⟩
def PB (K:PySem.W.Frag)(a:Addr):It :=
 ⟨λi H=>∃ xs x,SqT K H a xs/\xs[i]?=some x,λi H x H'=>H'=H/\∀ xs,SqT K H a xs->xs[i]?=some x,λi H=>∃ xs,SqT K H a xs/\xs.length<=i⟩
def LC (lo:Int)(n:Nat):It:=⟨λi _=>i < n,λi H x H'=>H'=H/\x=.int (lo+i),λi _=>n<=i⟩
theorem sR {P:Program}{w:World}{K:PySem.W.Frag}{tg:Expr}(a it:Addr):Turn P w K tg (Pz K a) [it] it (λi h=>h.IsListIter it a i) where
 mem:=by simp
 obj:=λi h st b hb=>by
  have e:b=it:=by simpa using hb
  subst e;obtain⟨o,e,c,d⟩:=st;exact⟨o,e,λv z=>by rw[d] at z;cases z⟩
 keep:=λi h h' st k=>st.at λo e=>k it (by simp) o e
 item:=by
  intro X hP hw hK hc i pins s σ H E I hf st hg;subst hP hw hK;obtain⟨xs,x,hq,hx⟩:=hg;obtain⟨its,rv,p,hz⟩:=I.list hq;obtain⟨u,hu,ru⟩:=rv.get hx;obtain⟨f0,f1,f2,f3,f4,f5⟩:=hf it (by simp)
  refine wpAny_pyNext_list_item st p.isList (x:=u) (by simpa using hu) λh' st' sb=>?_
  have I1:Inv X pins σ H { s with heap:=h' }:=I.turned (t':=s.toks) (λb o hb e=>(sb.2 b hb).trans e) f0 f1 f3 f4 f5
  obtain⟨o,e,c,d⟩:=id st';exact⟨u,rfl,rp (s:={ s with heap:=h' }) e c d (by decide) ⟨x,H,I1,ru,⟨rfl,λys hy=>by rw[I.list_inj hy hq];exact hx⟩,st',λb hb=>(hf b hb).1⟩⟩
 done:=by
  intro X hP hw hK hc i pins s σ H E I hf st hg;subst hP hw hK;obtain⟨xs,hq,hx⟩:=hg;obtain⟨its,rv,p,hz⟩:=I.list hq;obtain⟨f0,f1,f2,f3,f4,f5⟩:=hf it (by simp)
  have hl:=rv.length;exact wpAny_pyNext_list_end (I.ok.hd hc) st p.isList (by simp;omega) λh' eb=>⟨rfl,I.turned (t':=s.toks) (λb o hb e=>eb b o hb e) f0 f1 f3 f4 f5⟩
 self:=λ_ _ _ _ _ st h=>wpAny_pyIter_listiter st h
theorem qg {P:Program}{w:World}{K:PySem.W.Frag}{tg:Expr}(a it:Addr):Turn P w K tg (PB K a) [it] it (λi h=>h.IsTupleIter it a i) where
 mem:=by simp
 obj:=λi h st b hb=>by
  have e:b=it:=by simpa using hb
  subst e;obtain⟨o,e,c,d⟩:=st;exact⟨o,e,λv z=>by rw[d] at z;cases z⟩
 keep:=λi h h' st k=>st.at λo e=>k it (by simp) o e
 item:=by
  intro X hP hw hK hc i pins s σ H E I hf st hg;subst hP hw hK;obtain⟨xs,x,hq,hx⟩:=hg;obtain⟨its,rv,p,hz⟩:=I.tuple hq;obtain⟨u,hu,ru⟩:=rv.get hx;obtain⟨f0,f1,f2,f3,f4,f5⟩:=hf it (by simp)
  refine wpAny_pyNext_tuple_item st (show s.heap.IsTuple a its.toArray from p) (x:=u) (by simpa using hu) λh' st' sb=>?_
  have I1:Inv X pins σ H { s with heap:=h' }:=I.turned (t':=s.toks) (λb o hb e=>(sb.2 b hb).trans e) f0 f1 f3 f4 f5
  obtain⟨o,e,c,d⟩:=id st';exact⟨u,rfl,rp (s:={ s with heap:=h' }) e c d (by decide) ⟨x,H,I1,ru,⟨rfl,λys hy=>by rw[I.tuple_inj hy hq];exact hx⟩,st',λb hb=>(hf b hb).1⟩⟩
 done:=by
  intro X hP hw hK hc i pins s σ H E I hf st hg;subst hP hw hK;obtain⟨xs,hq,hx⟩:=hg;obtain⟨its,rv,p,hz⟩:=I.tuple hq;obtain⟨f0,f1,f2,f3,f4,f5⟩:=hf it (by simp)
  have hl:=rv.length;exact wpAny_pyNext_tuple_end (I.ok.hd hc) st (show s.heap.IsTuple a its.toArray from p) (by simp;omega) λh' eb=>⟨rfl,I.turned (t':=s.toks) (λb o hb e=>eb b o hb e) f0 f1 f3 f4 f5⟩
 self:=λ_ _ _ _ _ st h=>wpAny_pyIter_tupleiter st h
theorem qh {P:Program}{w:World}{K:PySem.W.Frag}{tg:Expr}(it:Addr)(lo:Int)(n:Nat):Turn P w K tg (LC lo n) [it] it (λi h=>IsRangeIter h it (lo+(i:Nat)*1) ((n:Int) - (i:Nat)) 1) where
 mem:=by simp
 obj:=λi h st b hb=>by
  have e:b=it:=by simpa using hb
  subst e;exact⟨_,st,λv z=>by
   have z':Data.fields _=Data.cell v:=z;cases z'⟩
 keep:=λi h h' st k=>k it (by simp) _ st
 item:=by
  intro X hP hw hK hc i pins s σ H E I hf st hg;subst hP hw hK;obtain⟨f0,f1,f2,f3,f4,f5⟩:=hf it (by simp)
  have W:=Walks.range (prog:=X.prog) (w:=X.w) (I.ok.hd hc) it lo 1 n;refine W.item i s _ _ hg st λv h' tk hv st' kk=>?_;obtain⟨t,rfl⟩:=hv;have I1:Inv X pins σ H { s with heap:=h',toks:=tk }:=I.turned (λb o hb e=>kk b o (by simpa using hb) e) f0 f1 f3 f4 f5
  refine⟨_,rfl,rp (s:={ s with heap:=h',toks:=tk }) (n:="range_iterator") st' rfl rfl (by decide) ⟨.int (lo+i),H,I1,⟨t,?_⟩,⟨rfl,rfl⟩,st',λb hb=>(hf b hb).1⟩⟩
  rw[Int.mul_one]
 done:=by
  intro X hP hw hK hc i pins s σ H E I hf st hg;subst hP hw hK;obtain⟨f0,f1,f2,f3,f4,f5⟩:=hf it (by simp)
  exact wpAny_pyNext_range_end (I.ok.hd hc) st (by have:n<=i:=hg;omega) λh' eb=>⟨rfl,I.turned (t':=s.toks) (λb o hb e=>eb b o hb e) f0 f1 f3 f4 f5⟩
 self:=λ_ _ _ _ _ st h=>wpAny_pyIter_rangeiter st h
end L2

namespace L2
open PySem PySem.Spec PyProof.Rows
section
variable {X:Cx}{tg:Expr}
theorem nL {pins:List (Addr×Obj)}{σ:St}{H:Hp}{s:Shared}{R:It->Hp->Prop}{E:Value->Shared->Prop}{lo hi:Int}{t u v:Tok}{tk:Nat}(I:Inv X pins σ H s)(h1:-(2^62)<=lo)(h2:lo < 2^62)(h3:-(2^62)<=hi)(h4:hi < 2^62)
  (q:R (LC lo (hi - lo).toNat) H):wpAny (model X.prog X.w) X.A (pyIter (.ref s.heap.objs.size)) (Py X pins σ tg R) E { s with heap:=s.heap.push { cls:=.type "range",data:=.fields #[.int lo t,.int hi u,.int 1 v] },toks:=tk }:=by
 refine wpAny_pyIter_range (IsRange.new ..) (small_one h1 h2 h3 h4) ?_;have I1:Inv X pins σ H { s with heap:=s.heap.push { cls:=.type "range",data:=.fields #[.int lo t,.int hi u,.int 1 v] },toks:=tk }:=I.kept λb o e=>Heap.get?_push_of_some _ e
 refine⟨(s.heap.push { cls:=.type "range",data:=.fields #[.int lo t,.int hi u,.int 1 v] }).objs.size,[(s.heap.push { cls:=.type "range",data:=.fields #[.int lo t,.int hi u,.int 1 v] }).objs.size],_,_,H,rfl,
  I1.kept (t':=tk) λb o e=>Heap.get?_push_of_some _ e,qh _ lo (hi - lo).toNat,?_,λb hb=>?_,q⟩
 ·have e1:lo+((0:Nat):Int)*1=lo:=by simp
  have e2:(((hi - lo).toNat:Nat):Int) - ((0:Nat):Int)=Builtin.Range.rangeSize lo hi 1:=by rw[rangeSize_one];split<;>omega
  show IsRangeIter _ _ (lo+((0:Nat):Int)*1) ((((hi - lo).toNat:Nat):Int) - ((0:Nat):Int)) 1;rw[e1,e2];exact Heap.get?_push_size _ rfl
 ·have e:b=(s.heap.push { cls:=.type "range",data:=.fields #[.int lo t,.int hi u,.int 1 v] }).objs.size:=by simpa using hb
  subst e;exact I1.fpOk (Nat.le_refl _) (I1.hok.fresh (Nat.le_refl _))
def LD (ta:TA):TI:=λσ H R=>ta σ H λvs H1=>∃ j:Int,vs=[.int j]/\-(2^62)<=j/\j < 2^62/\R (LC 0 j.toNat) H1
def LE (ta:TA):TI:=λσ H R=>ta σ H λvs H1=>∃ i j:Int,vs=[.int i,.int j]/\(-(2^62)<=i/\i < 2^62/\-(2^62)<=j/\j < 2^62)/\R (LC i (j - i).toNat) H1
theorem sS {a:Expr}{ta:TA}{p pos:Pos}(hg:Gl X "range")(hm:X.mg "range"=none)(ha:PA X [a] ta)(hs:starEach [a] X.env=[(false,eval a X.env)]:=by rfl):PI X tg (.Call (.Name "range" p) [a] [] pos) (LD ta):=by
 intro pins s σ H R I h;refine Call_ (dR I hg hm boot_range (PyProof.Rows.callWith_type1 (bT (ha pos pins s σ H _ I h) λus s1 ⟨vs,H1,I1,r1,q1⟩=>?_) hs rfl));obtain⟨j,e,q1,q2,q⟩:=q1;subst e;cases r1 with
 | cons r rr =>
  cases rr;obtain⟨t,rfl⟩:=r;exact call_range_1 (nL I1 (by omega) (by omega) q1 q2 (by simpa using q))
theorem sT {a b:Expr}{ta:TA}{p pos:Pos}(hg:Gl X "range")(hm:X.mg "range"=none)(ha:PA X [a,b] ta)(hs:starEach [a,b] X.env=[(false,eval a X.env),(false,eval b X.env)]:=by rfl)(hs2:starEach [b] X.env=[(false,eval b X.env)]:=by rfl) :
  PI X tg (.Call (.Name "range" p) [a,b] [] pos) (LE ta):=by
 intro pins s σ H R I h;refine Call_ (dR I hg hm boot_range (PyProof.Rows.callWith_type1 (bT (ha pos pins s σ H _ I h) λus s1 ⟨vs,H1,I1,r1,q1⟩=>?_) (by rw[hs,hs2]) (by rw[hs2];rfl)))
 obtain⟨i,j,e,⟨q1,q2,q3,q4⟩,q⟩:=q1;subst e;cases r1 with
 | cons r rr =>
  cases rr with
  | cons r' rr =>
   cases rr;obtain⟨t,rfl⟩:=r;obtain⟨t',rfl⟩:=r';exact call_range_2 (nL I1 q1 q2 q3 q4 q)

def PC (wi:TI)(g:TG)(tb:TS):TS:=λD σ H=>wi σ H λJ H1=>∃ W:Nat->Nat->St->Hp->Prop,(∃ m,W 0 m σ H1)/\∀ i m σ H,W i m σ H ->
 (J.stop i H/\D.nx σ H)\/(J.go i H/\∃ N:St->Hp->Prop,(∀ σ' H',N σ' H'->∃ m',m' < m/\W (i+1) m' σ' H')/\∀ x H',J.yld i H x H'->g x σ H' λσ2 H2=>tb { D with nx:=N,ct:=N,bk:=D.nx } σ2 H2)
def hW (fp:List Addr)(h:Heap):List (Addr×Obj):=fp.filterMap λb=>(h.get? b).map λo=>(b,o)
theorem cX {fp:List Addr}{h:Heap}{b:Addr}{o:Obj}(hb:b∈fp)(e:h.get? b=some o):(b,o)∈hW fp h:=List.mem_filterMap.mpr ⟨b,hb,by rw[e];rfl⟩
theorem sU {fp:List Addr}{h:Heap}{p:Addr×Obj}(hp:p∈hW fp h):p.1∈fp/\h.get? p.1=some p.2:=by
 obtain⟨b,hb,e⟩:=List.mem_filterMap.mp hp;cases q:h.get? b with
 | none=>rw[q] at e;cases e
 | some o =>
  rw[q] at e;have e':(b,o)=p:=Option.some.inj e;subst e';exact⟨hb,q⟩
theorem Inv.pinned {pins:List (Addr×Obj)}{σ:St}{H:Hp}{s:Shared}{fp:List Addr}(I:Inv X pins σ H s)(hf:∀ b∈fp,fj X pins H b)(ho:∀ b∈fp,∃ o,s.heap.get? b=some o/\∀ v,o.data≠.cell v):Inv X (pins++hW fp s.heap) σ H s :=
 I.pins_of λp hp=>(List.mem_append.mp hp).elim (λz=>I.pin p (List.mem_append_right _ z)) λz=>by
  obtain⟨hb,e⟩:=sU z;obtain⟨f0,f1,f2,_⟩:=hf p.1 hb;obtain⟨o,e',d⟩:=ho p.1 hb;rw[e] at e';cases e';exact⟨e,f0,f1,f2,d⟩
theorem Inv.unpinned {pins pl:List (Addr×Obj)}{σ:St}{H:Hp}{s:Shared}(I:Inv X (pins++pl) σ H s):Inv X pins σ H s:=I.pins_of λp hp=>I.pin p (List.mem_append_right _ (List.mem_append_left _ hp))
theorem DS {iter:Expr}{body:List Stmt}{wi:TI}{g:TG}{tb:TS}{pos:Pos}(hp:PassesOwn (model X.prog X.w) X.A X.env X.xe)(hc:X.calm=true)(hi:PI X tg iter wi)(hg:PG X tg g)(hb:PSs X body tb)
  (hs:∀ x,foldedSetIterable iter X.env x=pure x:=by intro _;rfl):PS X (.For tg iter body [] pos) (PC wi g tb):=by
 intro pins s σ H D I h;refine wpAny_For (bT (hi pins s σ H _ I h) λv s1 h1=>bT h1 λitv s2 h2=>?_) hs;obtain⟨it,fp,tn,J,H2,e,I2,T,st2,f2,W,⟨m0,w0⟩,turn⟩:=h2;subst e
 -- what stays true of the iterator's objects through the loop
 have stat:∀ {H':Hp},(∀ b∈fp,H' b=none)->∀ b∈fp,fj X pins H' b:=λhn b hb=>⟨hn b hb,(f2 b hb).2⟩;refine codeAny_forLoop_any (λn s'=>∃ i σ' H',Inv X pins σ' H' s'/\tn i s'.heap/\(∀ b∈fp,H' b=none)/\W i n σ' H') ?_ m0 ⟨0,σ,H2,I2,st2,λb hb=>(f2 b hb).1,w0⟩;rintro n s3 ⟨i,σ3,H3,I3,st3,fr3,w3⟩;rcases turn i n σ3 H3 w3 with ⟨stop,qn⟩|⟨go,N,hN,step⟩
 ·refine wpAny_passesOwn hp (bT (T.done X rfl rfl rfl hc i pins s3 σ3 H3 X.xe I3 (stat fr3) st3 stop) λr s4 ⟨hr,I4⟩=>?_)
  subst hr;exact wpAny_execs_nil ⟨σ3,H3,I4,qn⟩
 ·refine wpAny_passesOwn hp (bT (T.item X rfl rfl rfl hc i pins s3 σ3 H3 X.xe I3 (stat fr3) st3 go) λr s4 ⟨u,hr,h4⟩=>?_)
  subst hr;refine wpAny_passesOwn hp (bT h4 λ_ s5 ⟨x,H5,I5,r5,y5,st5,fr5⟩=>?_);have I5':=I5.pinned (stat fr5) (T.obj _ _ st5);refine wpAny_passesOwn hp (bT (hg _ s5 σ3 H5 x u _ I5' r5 (step x H5 y5)) λ_ s6 ⟨σ6,H6,I6,q6⟩=>?_);refine wpAny_passesOwn hp (bT (hb _ s6 σ6 H6 _ I6 q6) λf s7 q7=>?_);have again:∀ {σ7:St} {H7:Hp},Inv X (pins++hW fp s5.heap) σ7 H7 s7->N σ7 H7->∃ m,m < n/\∃ i σ' H',Inv X pins σ' H' s7/\tn i s7.heap/\(∀ b∈fp,H' b=none)/\W i m σ' H':=λ{σ7 H7} I7 n7=>by
   obtain⟨m',hm,w7⟩:=hN σ7 H7 n7;refine⟨m',hm,i+1,σ7,H7,I7.unpinned,T.keep _ _ _ st5 λb hb o e=>(I7.pin (b,o) (List.mem_append_right _ (List.mem_append_right _ (cX hb e)))).1,λb hb=>?_,w7⟩;obtain⟨o,e,d⟩:=T.obj _ _ st5 b hb;exact (I7.pin (b,o) (List.mem_append_right _ (List.mem_append_right _ (cX hb e)))).2.1
  cases f with
  | next=>obtain⟨σ7,H7,I7,n7⟩:=q7;exact again I7 n7
  | cont=>obtain⟨σ7,H7,I7,n7⟩:=q7;exact again I7 n7
  | brk=>obtain⟨σ7,H7,I7,q7⟩:=q7;exact⟨σ7,H7,I7.unpinned,q7⟩
  | ret v=>obtain⟨x7,σ7,H7,I7,r7,q7⟩:=q7;exact⟨x7,σ7,H7,I7.unpinned,r7,q7⟩
end

end L2

namespace L2
open PySem PySem.Spec PyProof.Rows

abbrev R2:=V->V->Hp->VK->Prop
def OpR (X:Cx)(f:Value->Value->Sem Value)(r:R2):Prop :=
 ∀ (pins:List (Addr×Obj)) (s:Shared) (σ:St) (H:Hp) (x y:V) (v u:Value) (Q:VK),Inv X pins σ H s->RelV x v->RelV y u->r x y H Q ->
  wpAny (model X.prog X.w) X.A (f v u) (EP X pins σ Q) X.xe s
def PD (X:Cx)(f:Value->Sem Value)(r:V->Hp->VK->Prop):Prop :=
 ∀ (pins:List (Addr×Obj)) (s:Shared) (σ:St) (H:Hp) (x:V) (v:Value) (Q:VK),Inv X pins σ H s->RelV x v->r x H Q ->
  wpAny (model X.prog X.w) X.A (f v) (EP X pins σ Q) X.xe s
def CallR (X:Cx)(f:Value)(r:List V->Hp->VK->Prop):Prop :=
 ∀ (pins:List (Addr×Obj)) (s:Shared) (σ:St) (H:Hp) (xs:List V) (us:List Value) (Q:VK),Inv X pins σ H s->Vals xs us->r xs H Q ->
  wpAny (model X.prog X.w) X.A (call f us) (EP X pins σ Q) X.xe s
def PF (X:Cx)(r:V->Hp->(Bool->Hp->Prop)->Prop):Prop :=
 ∀ (pins:List (Addr×Obj)) (s:Shared) (σ:St) (H:Hp) (x:V) (v:Value) (Q:Bool->Hp->Prop),Inv X pins σ H s->RelV x v->r x H Q ->
  wpAny (model X.prog X.w) X.A (truthy v) (TP X pins σ Q) X.xe s

def Ln (r:R2)(ta tb:TE):TE:=λσ H Q=>ta σ H λx H1=>tb σ H1 λy H2=>r x y H2 Q
def Rp (r:V->Hp->VK->Prop)(ta:TE):TE:=λσ H Q=>ta σ H λx H1=>r x H1 Q
def rI (C:Int->Int->Prop)(g:Int->Int->V):R2:=λx y H Q=>∃ i j,x=.int i/\y=.int j/\C i j/\Q (g i j) H
def Az (g:Int->Int->V):R2:=λx y H Q=>∃ i j,x=.int i/\y=.int j/\Q (g i j) H
def rU (g:Int->V):V->Hp->VK->Prop:=λx H Q=>∃ i,x=.int i/\Q (g i) H

section
variable {X:Cx}{a b c:Expr}{ta tb tc:TE}{pos:Pos}

theorem DT (ha:PE X a ta)(hb:PE X b tb){pins:List (Addr×Obj)}{s:Shared}{σ:St}{H:Hp}{R:V->V->Hp->Prop}(I:Inv X pins σ H s)
  (h:ta σ H λx H1=>tb σ H1 λy H2=>R x y H2) {Q:Value->Shared->Prop} {f:Value->Value->Sem Value}
  (hf:∀ v u s2 x y H2,Inv X pins σ H2 s2->RelV x v->RelV y u->R x y H2->wpAny (model X.prog X.w) X.A (f v u) Q X.xe s2) :
  wpAny (model X.prog X.w) X.A (eval a X.env) (λv s₁=>wpAny (model X.prog X.w) X.A (eval b X.env) (λu s₂=>wpAny (model X.prog X.w) X.A (f v u) Q X.xe s₂) X.xe s₁) X.xe s:=by
 refine bT (ha pins s σ H _ I h) λv s1 ⟨x,H1,I1,r1,q1⟩=>?_;refine bT (hb pins s1 σ H1 _ I1 q1) λu s2 ⟨y,H2,I2,r2,q2⟩=>?_;exact hf v u s2 x y H2 I2 r1 r2 q2

theorem LF {op:Operator}{r:R2}(ho:OpR X (binaryOp op) r)(ha:PE X a ta)(hb:PE X b tb):PE X (.BinOp a op b pos) (Ln r ta tb):=by
 intro pins s σ H Q I h;exact wpAny_BinOp (DT ha hb I h λv u s2 x y H2 I2 rx ry q=>ho pins s2 σ H2 x y v u Q I2 rx ry q)
theorem LG {op:UnaryOp}{r:V->Hp->VK->Prop}(ho:PD X (unaryOp op) r)(ha:PE X a ta):PE X (.UnaryOp op a pos) (Rp r ta):=by
 intro pins s σ H Q I h;exact UnaryOp_ (bT (ha pins s σ H _ I h) λv s1 ⟨x,H1,I1,r1,q1⟩=>ho pins s1 σ H1 x v Q I1 r1 q1)
theorem Lo {f:Value->Value->Sem Value}{C:Int->Int->Prop}{g:Int->Int->Int}
  (rule:∀ (i j:Int) (t u:Tok) (s:Shared) (Q:Value->Shared->Prop) (E:Value->Shared->Prop),C i j->Q (.int (g i j) s.toks) { s with toks:=s.toks+1 }->wpAny (model X.prog X.w) X.A (f (.int i t) (.int j u)) Q E s) :
  OpR X f (rI C λi j=>.int (g i j)):=by
 intro pins s σ H x y v u Q I rx ry h;obtain⟨i,j,rfl,rfl,hc,q⟩:=h;obtain⟨t,rfl⟩:=rx;obtain⟨t',rfl⟩:=ry;exact rule i j t t' s _ _ hc ⟨.int (g i j),H,I.tok _,⟨_,rfl⟩,q⟩
theorem LH {f:Value->Value->Sem Value}{g:Int->Int->Int}
  (rule:∀ (i j:Int) (t u:Tok) (s:Shared) (Q:Value->Shared->Prop) (E:Value->Shared->Prop),Q (.int (g i j) s.toks) { s with toks:=s.toks+1 }->wpAny (model X.prog X.w) X.A (f (.int i t) (.int j u)) Q E s) :
  OpR X f (Az λi j=>.int (g i j)):=by
 intro pins s σ H x y v u Q I rx ry h;obtain⟨i,j,rfl,rfl,q⟩:=h;obtain⟨t,rfl⟩:=rx;obtain⟨t',rfl⟩:=ry;exact rule i j t t' s _ _ ⟨.int (g i j),H,I.tok _,⟨_,rfl⟩,q⟩
theorem DU {f:Value->Value->Sem Value}{g:Int->Int->Bool}
  (rule:∀ (i j:Int) (t u:Tok) (s:Shared) (Q:Value->Shared->Prop) (E:Value->Shared->Prop),Q (.bool (g i j)) s->wpAny (model X.prog X.w) X.A (f (.int i t) (.int j u)) Q E s) :
  OpR X f (Az λi j=>.bl (g i j)):=by
 intro pins s σ H x y v u Q I rx ry h;obtain⟨i,j,rfl,rfl,q⟩:=h;obtain⟨t,rfl⟩:=rx;obtain⟨t',rfl⟩:=ry;exact rule i j t t' s _ _ ⟨.bl (g i j),H,I,rfl,q⟩

def PJ (i j:Int):Prop:=0 < j/\j < 1073741824
def fk (i j:Int):Prop:=0<=j/\j<=1000000/\i.natAbs < 2^64
def CMul (i j:Int):Prop:=(-(2^64) < i/\i < 2^64)\/(-(2^64) < j/\j < 2^64)
theorem CMul.ok {i j:Int}(h:CMul i j):IntMulOk i j:=by
 rcases h with ⟨h1,h2⟩|⟨h1,h2⟩
 ·exact .of_left (intBits_le_64 h1 h2)
 ·exact .of_right (intBits_le_64 h1 h2)
theorem op_add:OpR X (binaryOp .Add) (Az λi j=>.int (i+j)):=LH λ_ _ _ _ _ _ _ q=>add_int q
theorem DV:OpR X (binaryOp .Sub) (Az λi j=>.int (i - j)):=LH λ_ _ _ _ _ _ _ q=>sub_int q
theorem op_mul:OpR X (binaryOp .Mult) (rI CMul λi j=>.int (i*j)):=Lo λ_ _ _ _ _ _ _ hc q=>mul_int q hc.ok
theorem DW:OpR X (binaryOp .Mod) (rI (λ_ j=>0 < j) λi j=>.int (i%j)):=Lo λi j _ _ _ _ _ hc q=>by
 have h1:(0:Int) < j:=hc;exact mod_int' (by omega) (by rw[Int.fmod_eq_emod_of_nonneg i (by omega)];exact q)
theorem DX:OpR X (binaryOp .Pow) (rI fk λi j=>.int (i^j.toNat)):=Lo λ_ _ _ _ _ _ _ hc q=>pow_int_small hc.1 hc.2.1 hc.2.2 q
theorem DY:OpR X (binaryOp .LShift) (rI fk λi j=>.int (i*2^j.toNat)):=Lo λ_ _ _ _ _ _ _ hc q=>lshift_int_small hc.1 hc.2.1 hc.2.2 q
theorem Rq {f:Value->Sem Value}{g:Int->Int}
  (rule:∀ (i:Int) (t:Tok) (s:Shared) (Q:Value->Shared->Prop) (E:Value->Shared->Prop),Q (.int (g i) s.toks) { s with toks:=s.toks+1 }->wpAny (model X.prog X.w) X.A (f (.int i t)) Q E s) :
  PD X f (rU λi=>.int (g i)):=by
 intro pins s σ H x v Q I rx h;obtain⟨i,rfl,q⟩:=h;obtain⟨t,rfl⟩:=rx;exact rule i t s _ _ ⟨.int (g i),H,I.tok _,⟨_,rfl⟩,q⟩
theorem DZ:PD X (unaryOp .USub) (rU λi=>.int (-i)):=Rq λ_ _ _ _ _ q=>neg_int q
end

section
variable {X:Cx}{a b c:Expr}{ta tb tc:TE}{pos:Pos}
theorem Ea {pins:List (Addr×Obj)}{σ:St}{H:Hp}{s:Shared}{Q:VK}{k k':Bool}(I:Inv X pins σ H s)(q:Q (.bl k) H)(e:k=k'):EP X pins σ Q (.bool k') s:=by
 subst e;exact⟨.bl k,H,I,rfl,q⟩
theorem LI:OpR X (compareOp .Lt) (Az λi j=>.bl (decide (i < j))):=DU λ_ _ _ _ _ _ _ q=>lt_int q
theorem LJ:OpR X (compareOp .Gt) (Az λi j=>.bl (decide (j < i))):=DU λ_ _ _ _ _ _ _ q=>gt_int q
theorem LK:OpR X (compareOp .GtE) (Az λi j=>.bl (decide (j<=i))):=DU λ_ _ _ _ _ _ _ q=>ge_int q
theorem AA:OpR X (compareOp .IsNot) (λx y H Q=>y=.non/\Q (.bl (!decide (x=.non))) H):=by
 intro pins s σ H x y v u Q I rx ry h;obtain⟨rfl,q⟩:=h;cases ry;refine isnot_none_gen (Ea I q ?_);cases x<;>first
  | (cases rx;rfl)
  | (obtain⟨t,rfl⟩:=rx;rfl)

theorem OpR.or {f:Value->Value->Sem Value}{r r':R2}(h:OpR X f r)(h':OpR X f r'):OpR X f (λx y H Q=>r x y H Q\/r' x y H Q):=by
 intro pins s σ H x y v u Q I rx ry q;rcases q with q|q
 ·exact h pins s σ H x y v u Q I rx ry q
 ·exact h' pins s σ H x y v u Q I rx ry q

theorem uq (b:Expr){op:CmpOp}(h:op≠.In:=by decide)(h2:op≠.NotIn:=by decide):behindInMarks op b=false:=by
 have e1:(op==CmpOp.In)=false:=by cases op<;>first|rfl|exact absurd rfl h
 have e2:(op==CmpOp.NotIn)=false:=by cases op<;>first|rfl|exact absurd rfl h2
 cases b<;>simp [behindInMarks,e1,e2]
theorem AB {op:CmpOp}{r:R2}(ho:OpR X (compareOp op) r)(ha:PE X a ta)(hb:PE X b tb)(hm:behindInMarks op b=false):PE X (.Compare a [op] [b] pos) (Ln r ta tb):=by
 intro pins s σ H Q I h;exact wpAny_Compare1 (DT ha hb I h λv u s2 x y H2 I2 rx ry q=>ho pins s2 σ H2 x y v u Q I2 rx ry q) hm
def LL (t:TE):TT:=λσ H Q=>t σ H λx H'=>∃ k,x=.bl k/\Q k H'
theorem AC {op:CmpOp}{r:R2}(ho:OpR X (compareOp op) r)(ha:PE X a ta)(hb:PE X b tb)(hm:behindInMarks op b=false):PT X (.Compare a [op] [b] pos) (LL (Ln r ta tb)):=by
 intro pins s σ H Q I h;refine wpAny_isTrue_Compare1 (bT (ha pins s σ H _ I h) λv s1 ⟨x,H1,I1,r1,q1⟩=>bT (hb pins s1 σ H1 _ I1 q1) λu s2 ⟨y,H2,I2,r2,q2⟩ =>
  bT (ho pins s2 σ H2 x y v u _ I2 r1 r2 q2) λc s3 ⟨z,H3,I3,r3,k,e,q3⟩=>?_) hm
 subst e;cases r3;exact wpAny_truthy_bool ⟨H3,I3,q3⟩
def LM (K:PySem.W.Frag)(x:V)(H:Hp)(k:Bool):Prop :=
 match x with
 | .non=>k=false
 | .bl b=>k=b
 | .int i=>k=(i != 0)
 | .str y=>y.length<=sizeLine/\k=((y.length:Int) != 0)
 | .byt y=>y.size<=sizeLine/\k=((y.size:Int) != 0)
 | .ref p=>(∃ xs,SqL K H p xs/\k=!xs.isEmpty)\/(∃ xs,SqT K H p xs/\k=!xs.isEmpty)\/∃ kvs,H p=some (.dK kvs)/\k=!kvs.isEmpty
 | _=>False
theorem qj {κ:Type}{kvs:List (κ×V)}{vs:List (κ×Value)}(r:KV kvs vs):(!vs.isEmpty)=!kvs.isEmpty:=by
 cases r<;>rfl
theorem jx {xs:List V}{its:List Value}(r:Vals xs its):(!its.toArray.isEmpty)=!xs.isEmpty:=by
 cases r<;>simp
theorem fB:(sizeLine:Nat) < 2^63:=by rw[sizeLine_eq];decide
theorem Eb:PF X (λx H Q=>∃ k,LM X.K x H k/\Q k H):=by
 intro pins s σ H x v Q I rx h;obtain⟨k,e,q⟩:=h;have hl:=fB;have hs:sizeLine=16777216:=sizeLine_eq;cases x with
 | non =>
  cases rx;have e':k=false:=e;subst e';exact truthy_none ⟨H,I,q⟩
 | bl b =>
  cases rx;have e':k=b:=e;subst e';exact wpAny_truthy_bool ⟨H,I,q⟩
 | int i =>
  obtain⟨t,rfl⟩:=rx;have e':k=(i != 0):=e;subst e';exact PySem.P.truthy_int ⟨H,I,q⟩
 | str y =>
  obtain⟨t,rfl⟩:=rx;obtain⟨hy,e'⟩:y.length<=sizeLine/\k=((y.length:Int) != 0):=e;subst e';exact PySem.P.truthy_str (by omega) ⟨H,I.tok _,q⟩
 | byt y =>
  obtain⟨t,rfl⟩:=rx;obtain⟨hy,e'⟩:y.size<=sizeLine/\k=((y.size:Int) != 0):=e;subst e';exact PySem.W.truthy_bytes (by omega) ⟨H,I.tok _,q⟩
 | ref p =>
  cases rx;have e':(∃ xs,SqL X.K H p xs/\k=!xs.isEmpty)\/(∃ xs,SqT X.K H p xs/\k=!xs.isEmpty)\/∃ kvs,H p=some (.dK kvs)/\k=!kvs.isEmpty:=e;rcases e' with ⟨xs,hx,e'⟩|⟨xs,hx,e'⟩|⟨kvs,hx,e'⟩
  ·subst e'
   obtain⟨its,r,pl,hz⟩:=I.list hx;have hlen:=r.length;exact wpAny_truthy_list pl.isList (by simp only[List.size_toArray];omega) ⟨H,I.tok _,by rw[jx r];exact q⟩
  ·subst e'
   obtain⟨its,r,pl,hz⟩:=I.tuple hx;have hlen:=r.length;exact truthy_tuple pl (by simp only[List.size_toArray];omega) ⟨H,I.tok _,by rw[jx r];exact q⟩
  ·subst e'
   obtain⟨hz,hS,vs,r,m⟩:kvs.length<=sizeLine/\(p==sysModules)=false/\∃ vs,KV kvs vs/\s.heap.DictOf (bH X.prog X.w) p vs:=I.hok p _ hx;have hlen:kvs.length=vs.length:=Paired.length r;exact wpAny_truthy_dict hS m (by omega) ⟨H,I.tok _,by rw[qj r];exact q⟩
 | _=>exact (show False from e).elim
theorem ur (ha:PE X a ta)(he:∀ whole,isTrue a X.env whole=(do let v <- whole;standAt a.pos;holding [v] (truthy v))) :
  PT X a (λσ H Q=>ta σ H λx H'=>∃ k,LM X.K x H' k/\Q k H'):=by
 intro pins s σ H Q I h;exact isTrue_plain (bT (ha pins s σ H _ I h) λv s1 ⟨x,H1,I1,r1,q1⟩=>Eb pins s1 σ H1 x v Q I1 r1 q1) (he _)

theorem op_add_str:OpR X (binaryOp .Add) (λx y H Q=>∃ i j,x=.str i/\y=.str j/\i.length+j.length<=sizeLine/\Q (.str (i++j)) H):=by
 intro pins s σ H x y v u Q I rx ry h;obtain⟨i,j,rfl,rfl,hz,q⟩:=h;obtain⟨t,rfl⟩:=rx;obtain⟨t',rfl⟩:=ry;exact add_str (λt' tk=>⟨.str (i++j),H,I.tok _,⟨_,rfl⟩,q⟩) hz
theorem cY {x:V}{us:List Value}(r:Vals [x] us):∃ u,us=[u]/\RelV x u:=by
 cases r with
 | cons r1 r2=>cases r2;exact⟨_,rfl,r1⟩
theorem rq {x y:V}{us:List Value}(r:Vals [x,y] us):∃ u w',us=[u,w']/\RelV x u/\RelV y w':=by
 cases r with
 | cons r1 r2 =>
  cases r2 with
  | cons r3 r4=>cases r4;exact⟨_,_,rfl,r1,r3⟩
theorem ut:CallR X (.builtin "abs") (λxs H Q=>∃ i,xs=[.int i]/\Q (.int (if i < 0 then -i else i)) H):=by
 intro pins s σ H xs us Q I r h;obtain⟨i,rfl,q⟩:=h;obtain⟨u,rfl,t,rfl⟩:=cY r;exact call_abs_int λu tk=>⟨.int (if i < 0 then -i else i),H,I.tok _,⟨_,rfl⟩,q⟩
theorem sV (hc:X.calm=true):CallR X (.builtin "max") (λxs H Q=>∃ i j,xs=[.int i,.int j]/\Q (.int (if j > i then j else i)) H):=by
 intro pins s σ H xs us Q I r h;obtain⟨i,j,rfl,q⟩:=h;obtain⟨u,w',rfl,⟨t,rfl⟩,⟨t',rfl⟩⟩:=rq r;refine max_two_ints (I.ok.hd hc) λh' tk k=>⟨_,H,I.kept k,?_,q⟩
 by_cases hj:j > i
 ·rw[if_pos hj,if_pos hj];exact⟨_,rfl⟩
 ·rw[if_neg hj,if_neg hj];exact⟨_,rfl⟩
theorem sW (hc:X.calm=true):CallR X (.builtin "min") (λxs H Q=>∃ i j,xs=[.int i,.int j]/\Q (.int (if j < i then j else i)) H):=by
 intro pins s σ H xs us Q I r h;obtain⟨i,j,rfl,q⟩:=h;obtain⟨u,w',rfl,⟨t,rfl⟩,⟨t',rfl⟩⟩:=rq r;refine min_two_ints (I.ok.hd hc) λh' tk k=>⟨_,H,I.kept k,?_,q⟩
 by_cases hj:j < i
 ·rw[if_pos hj,if_pos hj];exact⟨_,rfl⟩
 ·rw[if_neg hj,if_neg hj];exact⟨_,rfl⟩
theorem sX:CallR X (.type "int") (λxs H Q=>(∃ i,xs=[.int i]/\Q (.int i) H)\/∃ k,xs=[.bl k]/\Q (.int (if k then 1 else 0)) H):=by
 intro pins s σ H xs us Q I r h;rcases h with ⟨i,rfl,q⟩|⟨k,rfl,q⟩
 ·obtain⟨u,rfl,t,rfl⟩:=cY r
  exact call_int_int ⟨.int i,H,I,⟨_,rfl⟩,q⟩
 ·obtain⟨u,rfl,r1⟩:=cY r
  cases r1;exact call_int_bool ⟨.int (if k then 1 else 0),H,I.tok _,⟨_,rfl⟩,q⟩
end
end L2

namespace L2
open PySem PySem.Spec PyProof.Rows

structure ObjM (h:Heap)(x dx C:Addr)(mA:Str->Option Value):Prop where
 obj:h.get? x=some (PySem.W.instObj C dx)
 ns:h.Ns1 dx mA
 ne:dx≠x

theorem sY {h:Heap}{dx:Addr}{mA:Str->Option Value}(n:h.Ns1 dx mA):∃ od,h.get? dx=some od/\∀ name,PySem.W.lookIn name od=some (mA name):=by
 obtain⟨o,es,ep,ho,hd,hk,_,hm⟩:=n;refine⟨o,ho,λname=>?_⟩;have e:=hm name;unfold nsFind findBy at e;rw[<- Array.find?_toList] at e;unfold PySem.W.lookIn;rw[hd];dsimp only
 split
 ·rename_i y q
  rw[q] at e;exact congrArg some e
 ·rename_i q
  rw[q] at e;have a:es.toList.any (·.refKey)=false:=by
   rw[List.any_eq_false];intro y hy;obtain⟨z,t,hkey⟩:=hk y (Array.mem_toList_iff.mp hy);simp [DictEntry.refKey,hkey]
  have a':¬ es.toList.any (·.refKey)=true:=by rw[a];exact Bool.false_ne_true
  rw[if_neg a'];exact congrArg some e

theorem ObjM.look {h:Heap}{x dx C:Addr}{mA:Str->Option Value}(I:ObjM h x dx C mA):∃ od,PySem.W.InstAt h x (PySem.W.instObj C dx) C (some od)/\∀ name,PySem.W.lookIn name od=some (mA name) :=
 let ⟨od,ho,hl⟩:=sY I.ns
 ⟨od,⟨I.obj,rfl,rfl,ho⟩,hl⟩

section
variable {prog:Program}{w:World}{A:Around}{E:Value->Shared->Prop}{s:Shared}{K:PySem.W.Frag}{x dx C f:Addr}{mA:Str->Option Value}{name:Str}{v:Value}

end

theorem RelO.some_of {v:V}{o:Option Value}(r:RelO (some v) o):∃ u,o=some u/\RelV v u:=by
 cases o with
 | none=>exact (show False from r).elim
 | some u=>exact⟨u,rfl,r⟩
section
variable {P:Program}{w:World}{H H':Hp}{h h':Heap}{a C dx:Addr}{fs fs':List (Str×V)}
theorem AD (hok:HOk P w H h)(e:H a=some (.ins C dx fs)):∃ mA,ObjM h a dx C mA/\(∀ f,RelO (fs.lookup f) (mA f))/\PySem.Within mA (fs.map (·.1))/\fs.length<=1000/\H dx=some (.own a):=by
 obtain⟨d,z,ne,ob,mA,n,r,q⟩:=(show ObjOk P w H h a (.ins C dx fs) from hok a _ e)
 exact⟨mA,⟨ob,n,ne⟩,r,q,z,d⟩
end

structure Cls (K:PySem.W.Frag)(C:Addr):Prop where
 pg:PySem.W.plainGet K C Str.empty=true
 hd:PySem.W.hasDictIn K C=true
 po:PySem.W.plainOver K C=true
 sa:PySem.W.findIn K (.ref C) "__setattr__"=some (some (.builtin "object.__setattr__"))
theorem Cls.get {K:PySem.W.Frag}{C:Addr}(c:Cls K C)(f:Str):PySem.W.plainGet K C f=true:=c.pg
structure Con (K:PySem.W.Frag)(C:Addr)(f:Str)(v:V)(u:Value):Prop where
 at_:PySem.W.findIn K (.ref C) f=some (some u)
 rel:RelV v u
 get:PySem.W.specialIn K u "__get__"=some none
 cp:PySem.W.copiedNames.contains f=false
structure Meth (K:PySem.W.Frag)(C:Addr)(m:Str)(f:Addr):Prop where
 at_:PySem.W.findIn K (.ref C) m=some (some (.ref f))
 fn:PySem.W.isFn K (.ref f)=true
 kp:PySem.W.keepIn K (.ref f)=true

section
variable {X:Cx}{pins:List (Addr×Obj)}{σ:St}{H:Hp}{s:Shared}{a C dx:Addr}{fs:List (Str×V)}{f:Str}{v:V}{A:Around}{E:Value->Shared->Prop}

end

section
variable {X:Cx}{o e value:Expr}{f:Str}{pos pos' tpos:Pos}{ta tv:TE}
def sZ:V->V->Hp->VK->Prop:=λx y H Q=>∃ i j,x=.int i/\y=.int j/\Q (.int (i+j)) H
end

section
variable {X:Cx}{pins:List (Addr×Obj)}{σ:St}{H:Hp}{s:Shared}{A:Around}{E:Value->Shared->Prop}{Q:Value->Shared->Prop}{c:Value}{b:Bool}
inductive TyOf (K:PySem.W.Frag)(H:Hp):V->Value->Prop where
 | non:TyOf K H .non (.type "NoneType")
 | bl (x:Bool):TyOf K H (.bl x) (.type "bool")
 | int (i:Int):TyOf K H (.int i) (.type "int")
 | str (x:Str):TyOf K H (.str x) (.type "str")
 | flt (x:UInt64):TyOf K H (.flt x) (.type "float")
 | lst {a:Addr} {xs:List V} (e:H a=some (.lst xs)):TyOf K H (.ref a) (.type "list")
 | frz {a:Addr} {o:Obj} {xs:List V} (e:H a=some (.frz o (.lst xs))):TyOf K H (.ref a) (.type "list")
 | tup {a:Addr} {xs:List V} (e:H a=some (.tup xs)):TyOf K H (.ref a) (.type "tuple")
 | dK {a:Addr} {kvs:List (bw×V)} (e:H a=some (.dK kvs)):TyOf K H (.ref a) (.type "dict")
 | dT {a:Addr} {kvs:List (List bw×V)} (e:H a=some (.dT kvs)):TyOf K H (.ref a) (.type "dict")
 | ins {a C dx:Addr} {fs:List (Str×V)} (e:H a=some (.ins C dx fs)) (cl:Cls K C) (ha:PySem.W.findIn K (.ref C) "__class__"=some (some (.builtin "object.__class__")))
   (hn:PySem.W.specialIn K (.builtin "object.__class__") "__get__"=some (some (.builtin "getset_descriptor.__get__"))) (htk:PySem.W.takesIn K (.builtin "object.__class__")=some true)
   (hm:PySem.W.mroIn K C (.type "object")=some true):TyOf K H (.ref a) (.ref C)
theorem tf {x:V}{u t:Value}(I:Inv X pins σ H s)(rx:RelV x u)(ty:TyOf X.K H x t)(e:PySem.W.kitOne X.K t c=some b)(h:∀ tk,Q (.bool b) { s with toks:=tk }) :
  wpAny (model X.prog X.w) A (call (.builtin "isinstance") [u,c]) Q E s:=by
 cases ty with
 | non=>cases (show u=Value.none from rx);exact PySem.W.kia_one PySem.W.kitx_none I.kIn True.intro e (λz=>nomatch z) h
 | bl y=>cases (show u=Value.bool y from rx);exact PySem.W.kia_one PySem.W.kitx_bool I.kIn True.intro e (λz=>nomatch z) h
 | int i=>obtain⟨t,q⟩:=(show ∃ t,u=Value.int i t from rx);cases q;exact PySem.W.kia_one PySem.W.kitx_int I.kIn True.intro e (λz=>nomatch z) h
 | str y=>obtain⟨t,q⟩:=(show ∃ t,u=Value.str y t from rx);cases q;exact PySem.W.kia_one PySem.W.kitx_str I.kIn True.intro e (λz=>nomatch z) h
 | flt y=>obtain⟨t,q⟩:=(show ∃ t,u=Value.float y t from rx);cases q;exact PySem.W.kia_one PySem.W.kitx_float I.kIn True.intro e (λz=>nomatch z) h
 | @lst a xs ea =>
  cases (show u=Value.ref a from rx)
  obtain⟨_,_,n,_,h1⟩:=(show ObjOk X.prog X.w H s.heap a (.lst xs) from I.hok a _ ea)
  exact PySem.W.kia_one PySem.W.kitx_list I.kIn ⟨_,h1,rfl⟩ e (λz=>nomatch z) h
 | @frz a ob xs ea =>
  cases (show u=Value.ref a from rx)
  obtain⟨_,_,_,n,_,h1⟩:=(show ObjOk X.prog X.w H s.heap a (.frz ob (.lst xs)) from I.hok a _ ea)
  exact PySem.W.kia_one PySem.W.kitx_list I.kIn ⟨_,h1,rfl⟩ e (λz=>nomatch z) h
 | @tup a xs ea =>
  cases (show u=Value.ref a from rx)
  obtain⟨_,_,_,p⟩:=(show ObjOk X.prog X.w H s.heap a (.tup xs) from I.hok a _ ea)
  obtain⟨o,h1,h2,_⟩:=p;exact PySem.W.kia_one PySem.W.kitx_tuple I.kIn ⟨o,h1,h2⟩ e (λz=>nomatch z) h
 | @dK a kvs ea =>
  cases (show u=Value.ref a from rx)
  obtain⟨_,_,vs,_,p⟩:=(show ObjOk X.prog X.w H s.heap a (.dK kvs) from I.hok a _ ea)
  obtain⟨o,es,ep,h1,h2,_⟩:=p;exact PySem.W.kia_one PySem.W.kitx_dict I.kIn ⟨o,h1,h2.1⟩ e (λz=>nomatch z) h
 | @dT a kvs ea =>
  cases (show u=Value.ref a from rx)
  obtain⟨_,_,xs,_,o,es,ep,h1,h2,_⟩:=(show ObjOk X.prog X.w H s.heap a (.dT kvs) from I.hok a _ ea)
  exact PySem.W.kia_one PySem.W.kitx_dict I.kIn ⟨o,h1,h2.1⟩ e (λz=>nomatch z) h
 | @ins a C dx fs ea cl ha hn htk hm =>
  cases (show u=Value.ref a from rx)
  obtain⟨mA,O,_⟩:=AD I.hok ea;obtain⟨od,J,_⟩:=O.look;exact PySem.W.kia_one (PySem.W.kitx_own (cl.get _) cl.hd ha hn htk hm) I.kIn J e (λz=>nomatch z) h
end
end L2

namespace L2
open PySem PySem.Spec PyProof.Rows

structure Room (k:Nat)(A:Around):Prop where
 hd:A.handled=none
 dp:A.depth+3*k+5 < recursionLimit
 un:A.units+16*k+200 < cLine
theorem Room.mono {j k:Nat}{A:Around}(r:Room k A)(h:j<=k):Room j A:=⟨r.hd,by have:=r.dp;omega,by have:=r.un;omega⟩
theorem Room.deeper {k:Nat}{A:Around}(r:Room (k+1) A)(env:Env):Room k (A.deeper env) :=
 ⟨r.hd,by have:=r.dp;show A.depth+1+3*k+5 < _;omega,by have:=r.un;show A.units+3+16*k+200 < _;omega⟩
theorem Room.depth {k:Nat}{A:Around}(r:Room k A):A.depth < recursionLimit:=by have:=r.dp;omega
def qk:TA:=λ_ H Q=>Q [] H
def iT (ta:TE)(tr:TA):TA:=λσ H Q=>ta σ H λx H1=>tr σ H1 λxs H2=>Q (x::xs) H2
section
variable {X:Cx}{e:Expr}{es:List Expr}{te:TE}{t:TA}{pos:Pos}
theorem pa_nil:PA X [] qk:=λ_ _ _ _ H Q I h=>Calls.spliced_nil ⟨[],H,I,.nil,h⟩
theorem pa_cons (ha:PE X e te)(hr:PA X es t)(hs:starEach (e::es) X.env=(false,eval e X.env)::starEach es X.env:=by rfl):PA X (e::es) (iT te t):=by
 intro pos pins s σ H Q I h;rw[hs];show wpAny _ _ (spliced ((false,eval e X.env)::backTo pos (starEach es X.env))) _ _ s;refine Calls.spliced_cons (bT (ha pins s σ H _ I h) λu s1 ⟨x,H1,I1,r1,q1⟩=>?_);exact bT (hr pos pins s1 σ H1 _ I1 q1) λus s2 ⟨xs,H2,I2,r2,q2⟩=>⟨x::xs,H2,I2,.cons r1 r2,q2⟩

def PM (t:TA):TE:=λσ H Q=>t σ H λxs H1=>xs.length<=sizeLine/\∀ p,H1 p=none->Q (.ref p) (bz H1 p (.tup xs))
def PN (t:TA):TE:=λσ H Q=>t σ H λxs H1=>xs.length<=sizeLine/\∀ p,H1 p=none->Q (.ref p) (bz H1 p (.lst xs))
theorem Ec {x1}(h:PA X es t):PE X (.Tuple es x1 pos) (PM t):=by
 intro pins s σ H Q I hq;refine wpAny_Tuple_spliced (bT (h pos pins s σ H _ I hq) λus s1 ⟨xs,H1,I1,r,z,q⟩=>⟨by rw[<- r.length];exact z,?_⟩)
 have hf:H1 s1.heap.objs.size=none:=I1.hok.fresh (Nat.le_refl _);refine⟨.ref s1.heap.objs.size,bz H1 s1.heap.objs.size (.tup xs),I1.laid (t':=s1.toks) (λb u e=>Heap.get?_push_of_some _ e) (Nat.le_refl _) ?_,rfl,q _ hf⟩;exact⟨z,us,r,⟨_,Heap.get?_push_size _ rfl,rfl,_,rfl⟩⟩
theorem uu (h:PA X es t):PE X (.List es pos) (PN t):=by
 intro pins s σ H Q I hq;refine wpAny_List_spliced (bT (h pos pins s σ H _ I hq) λus s1 ⟨xs,H1,I1,r,z,q⟩=>⟨by rw[<- r.length];exact z,?_⟩)
 have hf:H1 s1.heap.objs.size=none:=I1.hok.fresh (Nat.le_refl _);refine⟨.ref s1.heap.objs.size,bz H1 s1.heap.objs.size (.lst xs),I1.laid (t':=s1.toks) (λb u e=>Heap.get?_push_of_some _ e) (Nat.le_refl _) ?_,rfl,q _ hf⟩;exact⟨z,us,0,r,Heap.get?_push_size _ rfl⟩
end

abbrev Sp:=List V->Hp->VK->XK->Prop
abbrev tj:=List Env->Hp->Shared->XK->Value->Shared->Prop

structure Env0 (P:Program)(w:World)(K:PySem.W.Frag)(mg:Str->Option Value)(base:Heap)(A:Around)(outer:List Env)(s:Shared)(H:Hp):Prop where
 frames:A.frames=some outer
 mod:Mod K mg base
 bs:∀ b o,base.get? b=some o->s.heap.get? b=some o/\H b=none
 bsz:base.objs.size<=s.heap.objs.size
 funs:s.heap.FunFrames base outer
 frf:∀ b∈uh outer,H b=none
 hok:HOk P w H s.heap
 bare:AllBare s.gens
def CE (outer:List Env)(P:Program)(w:World)(H:Hp)(s:Shared)(Q:VK)(u:Value)(s':Shared):Prop :=
 ∃ v H',s'.os=s.os/\AllBare s'.gens/\Un (uh outer) [] H H' s.heap s'.heap/\HOk P w H' s'.heap/\RelV v u/\Q v H'
def CR (CX:tj)(outer:List Env)(P:Program)(w:World)(H:Hp)(s:Shared)(Q:VK)(E:XK)(r:Result)(s':Shared):Prop :=
 match r with
 | .ok (.ret u)=>CE outer P w H s Q u s'
 | .ok _=>False
 | .error e=>CX outer H s E e s'
structure FnOk (P:Program)(w:World)(K:PySem.W.Frag)(mg:Str->Option Value)(base:Heap)(CX:tj)(k:Nat)(f:Addr)(fd:FuncData)(ps:List Str)(sp:Sp):Prop where
 len:∀ vs H Q E,sp vs H Q E->vs.length=ps.length
 run:∀ (A:Around) (outer:List Env) (s:Shared) (H:Hp) (args:Args) (us:List Value) (vs:List V) (Q:VK) (E:XK),Room k A->Env0 P w K mg base A outer s H->BindsTo s fd args (ps.zip us)->Vals vs us->sp vs H Q E ->
  codeAny (model P w) A (.call (.ref f) args) (CR CX outer P w H s Q E) s
theorem FnOk.mono {P:Program}{w:World}{K:PySem.W.Frag}{mg:Str->Option Value}{base:Heap}{CX:tj}{j k:Nat}{f:Addr}{fd:FuncData}{ps:List Str}{sp:Sp}(F:FnOk P w K mg base CX j f fd ps sp)(h:j<=k) :
  FnOk P w K mg base CX k f fd ps sp:=⟨F.len,λA outer s H args us vs Q E hr=>F.run A outer s H args us vs Q E (hr.mono h)⟩
theorem FnOk.imp {P:Program}{w:World}{K:PySem.W.Frag}{mg:Str->Option Value}{base:Heap}{CX:tj}{k:Nat}{f:Addr}{fd:FuncData}{ps:List Str}{sp sp':Sp}(F:FnOk P w K mg base CX k f fd ps sp)
  (h:∀ vs H Q E,sp' vs H Q E->sp vs H Q E):FnOk P w K mg base CX k f fd ps sp' :=
 ⟨λvs H Q E q=>F.len vs H Q E (h _ _ _ _ q),λA outer s H args us vs Q E hr he hb hv hs=>F.run A outer s H args us vs Q E hr he hb hv (h _ _ _ _ hs)⟩

section
variable {X:Cx}{pins:List (Addr×Obj)}{σ:St}{H:Hp}{s s':Shared}
theorem Inv.env0 (I:Inv X pins σ H s):Env0 X.prog X.w X.K X.mg X.base X.A X.stack s H :=
 ⟨I.ok.frames,I.ok.mod,I.bs,Nat.le_trans I.ok.bsz I.sz,I.stack,I.stkFree,I.hok,I.bare⟩
theorem Inv.after {Q:VK}{u:Value}(I:Inv X pins σ H s)(h:CE X.stack X.prog X.w H s Q u s'):EP X pins σ Q u s':=by
 obtain⟨v,H',os,bare,un,hok,r,q⟩:=h;obtain⟨hh,g,d,t,os'⟩:=s';obtain rfl:os'=s.os:=os;exact⟨v,H',I.call (h':=hh) (g':=g) (d':=d) (t':=t) (ch:=[]) un hok bare (λb z=>absurd z (by simp)),r,q⟩
end

def LN (sp:Sp)(dvs:List V)(E:XK)(t:TA):TE:=λσ H Q=>t σ H λvs H1=>sp (vs++dvs) H1 Q E
def Binds (K:PySem.W.Frag)(fd:FuncData)(ps:List Str)(ds:List Value):Prop :=
 ∀ (s:Shared) (us:List Value),K.In s.heap->(us++ds).length=ps.length->BindsTo s fd ⟨us,[]⟩ (ps.zip (us++ds))
theorem Binds.all {K:PySem.W.Frag}{fd:FuncData}{ps:List Str}(h:∀ us:List Value,us.length=ps.length->bindArgs fd ⟨us,[]⟩=pure (ps.zip us)):Binds K fd ps []:=λs us _ hl=>by
 rw[List.append_nil] at hl ⊢;exact .of_eq (h us hl)

def ql (CX:tj)(X:Cx)(E:XK):Prop:=∀ (pins:List (Addr×Obj)) (σ:St) (H:Hp) (s:Shared) (e:Value) (s':Shared),Inv X pins σ H s->CX X.stack H s E e s'->X.xe e s'

section
variable {X:Cx}{CX:tj}{k:Nat}{f C:Addr}{fd:FuncData}{ps:List Str}{sp:Sp}{dvs:List V}{ds:List Value}{E:XK}{x m:Str}{p pos apos:Pos}{e o:Expr}{es:List Expr}{ta:TE}{t:TA}

theorem Ed {pins:List (Addr×Obj)}{σ:St}{H:Hp}{s:Shared}{Q:VK}{us:List Value}{vs:List V}(F:FnOk X.prog X.w X.K X.mg X.base CX k f fd ps sp)(hr:Room k X.A)(hb:Binds X.K fd ps ds)(hd:Vals dvs ds)(hx:ql CX X E)
  (I:Inv X pins σ H s) (r:Vals vs us) (h:sp (vs++dvs) H Q E):wpAny (model X.prog X.w) X.A (call (.ref f) us) (EP X pins σ Q) X.xe s:=by
 have r2:Vals (vs++dvs) (us++ds):=r.append hd;have hl:(us++ds).length=ps.length:=by rw[<- r2.length];exact F.len _ _ _ _ h
 refine wpAny_call (codeAny_mono (F.run X.A X.stack s H ⟨us,[]⟩ (us++ds) (vs++dvs) Q E hr I.env0 (hb s us I.kIn hl) r2 h) λr s' hq=>?_);cases r with
 | error e=>exact hx pins σ H s e s' I hq
 | ok fl =>
  cases fl with
  | ret u=>exact I.after hq
  | next=>exact False.elim hq
  | brk=>exact False.elim hq
  | cont=>exact False.elim hq

theorem rA (F:FnOk X.prog X.w X.K X.mg X.base CX k f fd ps sp)(hr:Room k X.A)(hg:Gl X x)(hm:X.mg x=some (.ref f))(hk:PySem.W.keepIn X.K (.ref f)=true)(hb:Binds X.K fd ps ds)(hd:Vals dvs ds)(hx:ql CX X E)
  (ha:PA X (e::es) t) (hdb:(x==("__debug__":Str))=false:=by decide) (he:starEach (e::es) X.env=(false,eval e X.env)::starEach es X.env:=by rfl) (hpl:(backTo pos (starEach es X.env)).any (·.1)=false:=by rfl) :
  PE X (.Call (.Name x p) (e::es) [] pos) (LN sp dvs E t):=by
 intro pins s σ H Q I h;refine wpAny_Call_Name_kw (rm I hg hm ?_ hdb);refine PySem.W.callWith_K (h₀:=X.base) I.ok.mod.kin hk (bT (ha pos pins s σ H _ I h) λus s1 ⟨vs,H1,I1,r,q⟩=>⟨I1.kIn,?_⟩) he hpl;exact Ed F hr hb hd hx I1 r q
structure Mk (K:PySem.W.Frag)(C f:Addr):Prop where
 makes:PySem.W.makesIn K C=true
 init:PySem.W.findIn K (.ref C) "__init__"=some (some (.ref f))
 fn:PySem.W.isFn K (.ref f)=true
 kp:PySem.W.keepIn K (.ref C)=true

end

def PK (X:Cx)(kws:List Keyword)(t:TA):Prop :=
 ∀ (pos:Pos) (pins:List (Addr×Obj)) (s:Shared) (σ:St) (H:Hp) (Q:List V->Hp->Prop),Inv X pins σ H s->t σ H Q->wpAny (model X.prog X.w) X.A (evalAll ((backToKw pos (keywordEach kws X.env)).map (·.2))) (AP X pins σ Q) X.xe s
section
variable {X:Cx}{CX:tj}{k:Nat}{f C:Addr}{fd:FuncData}{ps ks:List Str}{sp:Sp}{E:XK}{x m:Str}{p pos apos kpos:Pos}{e o:Expr}{es:List Expr}{kws:List Keyword}{te ta:TE}{t tk:TA}{nm:Option Str}
theorem Ee:PK X [] qk:=λ_ _ _ _ H Q I h=>wpAny_evalAll_nil ⟨[],H,I,.nil,h⟩
theorem AE (ha:PE X e te)(hr:PK X kws t):PK X (⟨nm,e,kpos⟩::kws) (iT te t):=by
 intro pos pins s σ H Q I h;show wpAny _ _ (evalAll ((do let v <- eval e X.env;standAt pos;pure v)::(backToKw pos (keywordEach kws X.env)).map (·.2))) _ _ s
 refine wpAny_evalAll_cons (wpAny_bind (bT (ha pins s σ H _ I h) λu s1 ⟨x,H1,I1,r1,q1⟩=>wpAny_bind (wpAny_standAt (wpAny_pure ?_))));exact bT (hr pos pins s1 σ H1 _ I1 q1) λus s2 ⟨xs,H2,I2,r2,q2⟩=>⟨x::xs,H2,I2,.cons r1 r2,q2⟩

structure KBinds (K:PySem.W.Frag)(fd:FuncData)(ps ks:List Str)(g:List Value->List Value->List Value)(gV:List V->List V->List V):Prop where
 to:∀ (s:Shared) (us ws:List Value),K.In s.heap->(g us ws).length=ps.length->BindsTo s fd ⟨us,ks.zip ws⟩ (ps.zip (g us ws))
 rel:∀ {vs:List V} {us:List Value} {zs:List V} {ws:List Value},Vals vs us->Vals zs ws->Vals (gV vs zs) (g us ws)
variable {g:List Value->List Value->List Value}{gV:List V->List V->List V}
end

structure FnScope (N P:List Str)(sc:Scope):Prop where
 kind:sc.kind=.function
 co:sc.isCoroutine=false
 gen:sc.isGenerator=false
 nd:N.Nodup
 pre:N.take P.length=P
 par:∀ x∈P,sc.names.lookup x=some .local\/sc.names.lookup x=some .cell
 nofree:∀ y∈sc.names,y.2≠.free

theorem kN {kindOf:Str->Option NameKind}{x:Str}:∀ {binds:List (Str×Value)} {m:Str->Option Value},(∀ v,(x,v)∉binds)->bindL kindOf binds m x=m x
 | [],_,_=>rfl
 | (n,v)::r,m,h=>by
  unfold bindL;rw[kN λw hw=>h w (List.mem_cons_of_mem _ hw)]
  split
  ·have:x≠n:=by rintro rfl;exact h v List.mem_cons_self
   simp [this]
  ·rfl
theorem kO {kindOf:Str->Option NameKind}{x:Str}:∀ {binds:List (Str×Value)} {m:Str->Option Value},(∀ v,(x,v)∉binds)->bindC kindOf binds m x=m x
 | [],_,_=>rfl
 | (n,v)::r,m,h=>by
  unfold bindC;rw[kO λw hw=>h w (List.mem_cons_of_mem _ hw)]
  split
  ·rfl
  ·have:x≠n:=by rintro rfl;exact h v List.mem_cons_self
   simp [this]
theorem kP {kindOf:Str->Option NameKind}{x:Str}{v:Value}:∀ {P:List Str} {vs:List Value} {i:Nat} {m:Str->Option Value},P.Nodup->P[i]?=some x->vs[i]?=some v->kindOf x=some .local ->
  bindL kindOf (P.zip vs) m x=some v
 | [],_,_,_,_,h,_,_=>by simp at h
 | _::_,[],_,_,_,_,h,_=>by simp at h
 | p::P,w::vs,0,m,nd,h1,h2,hk=>by
  simp at h1 h2;subst h1;subst h2;show bindL kindOf ((p,w)::P.zip vs) m p=_;unfold bindL;rw[kN λv hv=>(List.nodup_cons.mp nd).1 (List.of_mem_zip hv).1,if_pos hk];simp
 | p::P,w::vs,i+1,m,nd,h1,h2,hk=>by
  show bindL kindOf ((p,w)::P.zip vs) m x=_;unfold bindL;exact kP (i:=i) (List.nodup_cons.mp nd).2 (by simpa using h1) (by simpa using h2) hk
theorem kQ {kindOf:Str->Option NameKind}{x:Str}{v:Value}:∀ {P:List Str} {vs:List Value} {i:Nat} {m:Str->Option Value},P.Nodup->P[i]?=some x->vs[i]?=some v->kindOf x≠some .local ->
  bindC kindOf (P.zip vs) m x=some v
 | [],_,_,_,_,h,_,_=>by simp at h
 | _::_,[],_,_,_,_,h,_=>by simp at h
 | p::P,w::vs,0,m,nd,h1,h2,hk=>by
  simp at h1 h2;subst h1;subst h2;show bindC kindOf ((p,w)::P.zip vs) m p=_;unfold bindC;rw[kO λv hv=>(List.nodup_cons.mp nd).1 (List.of_mem_zip hv).1,if_neg hk];simp
 | p::P,w::vs,i+1,m,nd,h1,h2,hk=>by
  show bindC kindOf ((p,w)::P.zip vs) m x=_;unfold bindC;exact kQ (i:=i) (List.nodup_cons.mp nd).2 (by simpa using h1) (by simpa using h2) hk

def start (N:List Str)(vs:List V):St:=vs.map some++List.replicate (N.length - vs.length) none

def nM (CX:tj)(P:Program)(w:World)(K:PySem.W.Frag)(mg:Str->Option Value)(base:Heap)(N:List Str)(qual:Str)(scope:Scope)(f:Addr)(cd:Value)(A:Around)(outer:List Env)(s:Shared)(H:Hp)(E:XK):Cx where
 prog:=P
 w:=w
 K:=K
 mg:=mg
 base:=base
 A:=A.deeper (envOfC qual scope s.heap.objs.size f cd)
 N:=N
 s₀:=s
 H₀:=H
 env:=envOfC qual scope s.heap.objs.size f cd
 outer:=outer
 stack:=envOfC qual scope s.heap.objs.size f cd::outer
 ex:=[]
 calm:=true
 fn:=λ_=>true
 pn:=[]
 xe:=λe s'=>wpAny (model P w) (A.deeper (envOfC qual scope s.heap.objs.size f cd)) (leaving (envOfC qual scope s.heap.objs.size f cd) e) (λ_ s''=>CX outer H s E e s'') (λe' s''=>CX outer H s E e' s'') s'

theorem nN {sc:Scope}{n:Nat}{x:Str}(h:sc.names.lookup x=some .cell):∃ c,(cellsFrom n sc.names []).lookup x=some c:=by
 have q:=PySem.W.cellsFrom_some sc.names n [] (.inl h);exact Option.isSome_iff_exists.mp q

theorem tm {CX:tj}{P:Program}{w:World}{K:PySem.W.Frag}{mg:Str->Option Value}{base:Heap}{N ps:List Str}{qual:Str}{scope:Scope}{f:Addr}{cd:Value}{A:Around}{outer:List Env}{s s1:Shared}{H:Hp}{E:XK}{us:List Value}{vs:List V}
  (S:FnScope N ps scope) (hd:A.handled=none) (e0:Env0 P w K mg base A outer s H) (hl:vs.length=ps.length) (r:Vals vs us)
  (x:InCallC s s.heap.objs.size (bindL (envOfC qual scope s.heap.objs.size f cd).kindOf (ps.zip us) λ_=>none) (cellsFrom (s.heap.objs.size+1) scope.names []) (bindC (envOfC qual scope s.heap.objs.size f cd).kindOf (ps.zip us) λ_=>none) s1) :
  Inv (nM CX P w K mg base N qual scope f cd A outer s H E) [] (start N vs) H s1:=by
 have hpl:ps.length<=N.length:=by have:=congrArg List.length S.pre;rw[List.length_take] at this;omega
 obtain⟨h1,tk,rfl,hk⟩:=x.done;have noA:∀ b:Addr,b∉(nM CX P w K mg base N qual scope f cd A outer s H E).ex:=λb z=>absurd (show b∈([]:List Addr) from z) (by simp)
 refine⟨⟨e0.mod,S.kind,rfl,rfl,Nat.le_refl _,λy z c h1 h2=>?_,λy hy=>?_,λy c _ h=>?_,λ_=>hd,Around.frames_deeper e0.frames,.inr ⟨rfl,rfl⟩,λb z=>absurd z (noA b),e0.bs,e0.bsz,λb _ _=>noA b,λb z=>absurd z (noA b),e0.funs,e0.frf⟩,
  rfl,e0.bare,Un.kept hk,⟨_,x.toInCall.ns,λi y v h1 h2 h3=>?_⟩,λy c h=>⟨_,x.cell y c h⟩,e0.hok.fresh (Nat.le_refl _),λy c h=>?_,λp hp=>absurd (show p∈([]:List (Addr×Obj)) from hp) (by simp),e0.hok.kept hk,?_⟩
 ·exact name_of_addr x.apart (PySem.mem_of_lookup h1) (PySem.mem_of_lookup h2)
 ·have hy:scope.names.lookup y=some .cell\/scope.names.lookup y=some .free:=hy
  rcases hy with hy|hy
  ·exact nN hy
  ·exact absurd rfl (S.nofree _ (PySem.mem_of_lookup hy))
 ·exact Nat.le_of_lt (x.above y c (PySem.mem_of_lookup h))
 ·have hi:i < vs.length:=by
   unfold start at h2
   by_cases hi:i < vs.length
   ·exact hi
   ·rw[List.getElem?_append_right (by simpa using hi)] at h2
    rw[List.getElem?_replicate] at h2
    split at h2<;>cases h2
  have ha:vs[i]?=some v:=by
   unfold start at h2;rw[List.getElem?_append_left (by simpa using hi),List.getElem?_map] at h2
   cases e:vs[i]? with
   | none=>rw[e] at h2;cases h2
   | some a=>rw[e] at h2;cases h2;rfl
  obtain⟨u,hu,rv⟩:=r.get ha;have hp:ps[i]?=some y:=by
   rw[<- S.pre,List.getElem?_take_of_lt (by omega)];exact h1
  have ndP:ps.Nodup:=by rw[<- S.pre];exact S.nd.sublist (List.take_sublist _ _)
  refine⟨u,rv,?_⟩;rcases S.par y (List.mem_of_getElem? hp) with k|k
  ·exact .inl ⟨k,kP ndP hp hu k⟩
  ·obtain⟨c,e⟩:=nN (n:=s.heap.objs.size+1) k
   refine .inr ⟨.inl k,c,e,?_⟩;have q:=x.cell y c e;rw[kQ ndP hp hu (by show scope.names.lookup y≠_;rw[k];decide)] at q
   exact q
 ·exact e0.hok.fresh (Nat.le_of_lt (x.above y c (PySem.mem_of_lookup h)))
 ·unfold start
  show _=N.length;rw[List.length_append,List.length_map,List.length_replicate];omega

theorem LO {CX:tj}{P:Program}{w:World}{K:PySem.W.Frag}{mg:Str->Option Value}{base:Heap}{k:Nat}{f:Addr}{name qual:Str}{params:Arguments}{body:List Stmt}{scope:Scope}{dV kV doc pm cdv ct oc:Value}{an od:Option Addr}
  {osl:Array (Option Value)} {N ps:List Str} {sp:Sp} (lk:K.lookup f=some ⟨oc,od,.func (PySem.W.fnOf name qual params body scope dV kV doc pm an cdv ct),osl⟩) (hcd:PySem.W.codeIn K cdv qual=true) (S:FnScope N ps scope)
  (len:∀ vs H Q E,sp vs H Q E->vs.length=ps.length)
  (hbody:∀ (A:Around) (outer:List Env) (s:Shared) (H:Hp) (vs:List V) (Q:VK) (E:XK),Room k (A.deeper (envOfC qual scope s.heap.objs.size f cdv))->sp vs H Q E ->
   ∃ t,PSs (nM CX P w K mg base N qual scope f cdv A outer s H E) body t/\t { nx:=λ_ H'=>Q .non H',rt:=Q } (start N vs) H) :
  FnOk P w K mg base CX (k+1) f (PySem.W.fnOf name qual params body scope dV kV doc pm an cdv ct) ps sp:=by
 refine⟨len,λA outer s H args us vs Q E hr e0 hb r hsp=>?_⟩;have hl:=len _ _ _ _ hsp;have KX:K.In s.heap:=e0.mod.kin.keeps λb o e=>(e0.bs b o e).1;have lim:s.heap.NoLimit:=e0.mod.nolimit.keeps λb o e=>(e0.bs b o e).1;have hkind:∀ y∈ps.zip us,scope.names.lookup y.1=some .local\/(scope.names.lookup y.1=some .cell/\((cellsFrom (s.heap.objs.size+1) scope.names []).lookup y.1).isSome=true):=λ⟨n,v⟩ hy=>by
  rcases S.par n (List.of_mem_zip hy).1 with q|q
  ·exact .inl q
  ·exact .inr ⟨q,PySem.W.cellsFrom_some _ _ _ (.inl q)⟩
 refine codeAny_call_function hr.depth (KX _ _ lk) rfl S.co S.gen rfl (PySem.W.codeRec_of KX hcd) (hb _ _ _ _ ?_);refine wpAny_newFunctionEnv_cells S.kind hkind λenv he s1 x=>?_;subst he;refine⟨lim.keeps x.toInCall.keep,codeAny_func ?_⟩;obtain⟨t,ht,hq⟩:=hbody A outer s H vs Q E (hr.deeper _) hsp;have I:Inv (nM CX P w K mg base N qual scope f cdv A outer s H E) [] (start N vs) H s1:=tm S hr.hd e0 hl r x;refine wpAny_mono (ht [] s1 (start N vs) H _ I hq) (λfl s' hs=>?_) λe s' hs=>hs;have fin:∀ {σ':St} {H':Hp} {v:V} {u:Value},Inv (nM CX P w K mg base N qual scope f cdv A outer s H E) [] σ' H' s'->RelV v u->Q v H'->CE outer P w H s Q u s' :=
  λ{σ' H' v u} J rv q=>⟨v,H',J.os,J.bare,J.base,J.hok,rv,q⟩
 cases fl with
 | ret u =>
  obtain⟨v,σ',H',J,rv,q⟩:=hs;exact fin J rv q
 | next =>
  obtain⟨σ',H',J,q⟩:=hs;exact fin (v:=V.non) (u:=Value.none) J rfl q
 | brk =>
  obtain⟨_,_,_,q⟩:=hs;exact False.elim q
 | cont =>
  obtain⟨_,_,_,q⟩:=hs;exact False.elim q
end L2

namespace L2
open PySem PySem.Spec PyProof.Rows
section
variable {X:Cx}{x:Str}{p pos:Pos}{e:Expr}{es:List Expr}{t:TA}{id T:String}{r:List V->Hp->VK->Prop}

def PP (r:List V->Hp->VK->Prop)(t:TA):TE:=λσ H Q=>t σ H λvs H1=>r vs H1 Q
theorem jy (hc:CallR X (.builtin id) r)(hg:Gl X x)(hm:X.mg x=none)(hv:bootBuiltins x=some (.builtin id))(ha:PA X (e::es) t)(hn:x≠"__name__":=by decide)(hdb:(x==("__debug__":Str))=false:=by decide)
  (he:starEach (e::es) X.env=(false,eval e X.env)::starEach es X.env:=by rfl) (hpl:(backTo pos (starEach es X.env)).any (·.1)=false:=by rfl):PE X (.Call (.Name x p) (e::es) [] pos) (PP r t):=by
 intro pins s σ H Q I h;refine wpAny_Call_Name_kw (dR I hg hm hv ?_ hn hdb);exact PyProof.Rows.callWith_builtin1 (bT (ha pos pins s σ H _ I h) λus s1 ⟨vs,H1,I1,r1,q1⟩=>hc pins s1 σ H1 vs us Q I1 r1 q1) he hpl
theorem tt (hc:CallR X (.type T) r)(hg:Gl X x)(hm:X.mg x=none)(hv:bootBuiltins x=some (.type T))(ha:PA X (e::es) t)(hn:x≠"__name__":=by decide)(hdb:(x==("__debug__":Str))=false:=by decide)
  (he:starEach (e::es) X.env=(false,eval e X.env)::starEach es X.env:=by rfl) (hpl:(backTo pos (starEach es X.env)).any (·.1)=false:=by rfl):PE X (.Call (.Name x p) (e::es) [] pos) (PP r t):=by
 intro pins s σ H Q I h;refine wpAny_Call_Name_kw (dR I hg hm hv ?_ hn hdb);exact PyProof.Rows.callWith_type1 (bT (ha pos pins s σ H _ I h) λus s1 ⟨vs,H1,I1,r1,q1⟩=>hc pins s1 σ H1 vs us Q I1 r1 q1) he hpl
end
end L2

namespace HT
open PySem PyProof.Rows

def lexLt:List Int->List Int->Bool
 | [],[]=>false
 | [],_::_=>true
 | _::_,[]=>false
 | x::xs,y::ys=>if x=y then lexLt xs ys else decide (x < y)
theorem lexLt_cons (x y:Int)(xs ys:List Int):lexLt (x::xs) (y::ys)=if x=y then lexLt xs ys else decide (x < y):=rfl
theorem fw:lexLt [] []=false:=rfl
theorem lexLt_nil_cons (y:Int)(ys:List Int):lexLt [] (y::ys)=true:=rfl
theorem lexLt_cons_nil (x:Int)(xs:List Int):lexLt (x::xs) []=false:=rfl

theorem nO (A:Around)(s:Shared)(a:Int)(t:Tok)(c:Int)(u:Tok):∃ e,SeqAt.EqAt A s (.int a t) (.int c u) e/\(e=true ↔ a=c) :=
 ⟨(a==c),SeqAt.EqAt.int_int a t c u,by simp⟩
theorem nP (A:Around)(s:Shared)(a:Int)(t:Tok)(c:Int)(u:Tok)(prog:Program)(w:World)(E:Value->Shared->Prop)(Q:Value->Shared->Prop)(h:Q (.bool (decide (a < c))) s) :
  wpAny (model prog w) A (richCompare .Lt (.int a t) (.int c u)) Q E s :=
 (PyProof.Rows.lt_int h:wpAny (model prog w) A (compareOp .Lt (.int a t) (.int c u)) Q E s)

section
open PySem.SeqAt
open PySem.AutoSeq1 (wpAny_loadPart')
open PySem.MeetsSeq PySem.MeetsSeq2 PySem.MeetsSeq3

theorem ky (l b:Addr)(items items2:Array Value)(n n2:Nat)(dd dd2:Option Addr)(sl sl2:Array (Option Value))(ns ms:List Int)(hi:IntsAre items.toList ns)(hj:IntsAre items2.toList ms) :
  Meets (Builtin.«tuple.__lt__» ⟨[.ref l,.ref b],[]⟩)
   (λ_ R s=>s.heap.get? l=some { cls:=.type "tuple",dict:=dd,data:=.seq items n,slots:=sl }/\s.heap.get? b=some { cls:=.type "tuple",dict:=dd2,data:=.seq items2 n2,slots:=sl2 } /\
    R (.ok (.ret (.bool (lexLt ns ms)))) s) :=
 .of_wp λprog w A R s h=>by
  obtain⟨hp,g,d,tk,os⟩:=s;obtain⟨hl,hb,h⟩:=h;have f2:=AutoSeq1.sub_tuple_tuple;have z1:items.size=ns.length:=by rw[<- hi.length];simp
  have z2:items2.size=ms.length:=by rw[<- hj.length];simp
  wp_walk using wpAny_loadPart' hl,wpAny_loadPart' hb,wpAny_forIn_list _ (λrest b s'=>b.1=none/\s'=⟨hp,g,d,tk,os⟩/\∃ (vs ws:List Value) (ns' ms':List Int),rest=vs.zip ws /\
   IntsAre vs ns'/\IntsAre ws ms'/\ns'.length+items2.size=ms'.length+items.size/\R (.ok (.ret (.bool (lexLt ns' ms')))) ⟨hp,g,d,tk,os⟩) _
  case turn =>
   rintro ⟨y,x⟩ rest b s' ⟨hb',rfl,vs,ws,ns',ms',hz,hvi,hwi,hlen,hR⟩;cases hvi with
   | nil=>rw[List.zip_nil_left] at hz;cases hz
   | cons a t hvi' =>
    cases hwi with
    | nil=>rw[List.zip_nil_right] at hz;cases hz
    | cons c u hwi' =>
     rw[List.zip_cons_cons] at hz
     injection hz with hyx hrest
     injection hyx with hy hx
     subst hy hx;rw[lexLt_cons] at hR;simp only[List.length_cons] at hlen;obtain⟨e,he,hiff⟩:=nO A.in1 ⟨hp,g,d,tk,os⟩ a t c u;refine wpAny_bind (he prog w _ _ ?_);cases e with
     | true =>
      rw[if_pos (hiff.mp rfl)] at hR
      wp_walk
      exact⟨rfl,rfl,_,_,_,_,hrest,hvi',hwi',by omega,hR⟩
     | false =>
      rw[if_neg (λq=>absurd (hiff.mpr q) Bool.false_ne_true)] at hR;have hri:=nP A.in1 ⟨hp,g,d,tk,os⟩ a t c u prog w
      wp_walk using hri
      exact⟨_,rfl,by simpa using hR⟩
  case fin =>
   rintro ⟨b1,b2⟩ s' ⟨hb',rfl,vs,ws,ns',ms',hz,hvi,hwi,hlen,hR⟩;simp only at hb';subst hb';have hv:lexLt ns' ms'=decide (items.size < items2.size):=by
    cases hvi with
    | nil =>
     cases hwi with
     | nil =>
      simp only[List.length_nil] at hlen;rw[fw];exact (decide_eq_false (by omega)).symm
     | cons c u hw =>
      simp only[List.length_nil,List.length_cons] at hlen;rw[lexLt_nil_cons];exact (decide_eq_true (by omega)).symm
    | cons a t hv =>
     cases hwi with
     | nil =>
      simp only[List.length_nil,List.length_cons] at hlen;rw[lexLt_cons_nil];exact (decide_eq_false (by omega)).symm
     | cons c u hw =>
      rw[List.zip_cons_cons] at hz;cases hz
   rw[hv] at hR
   wp_walk
   exact⟨_,rfl,by simpa [Builtin.Tuple.tupleCompareSizes] using hR⟩
  case h =>
   exact⟨rfl,rfl,items.toList,items2.toList,ns,ms,rfl,hi,hj,by omega,h⟩
end

section
variable {prog:Program}{w:World}{A:Around}{E:Value->Shared->Prop}{s:Shared}

theorem lt_tupInts {l b:Addr}{items items2:Array Value}{ns ms:List Int}{Q:Value->Shared->Prop}(hl:IsTup s.heap l items)(hb:IsTup s.heap b items2)(hi:IntsAre items.toList ns)(hj:IntsAre items2.toList ms)
  (hu:A.units < cLine) (h:Q (.bool (lexLt ns ms)) s):wpAny (model prog w) A (compareOp .Lt (.ref l) (.ref b)) Q E s:=by
 obtain⟨⟨cls,dd,data,sl⟩,ho,hc,n,hd⟩:=id hl;obtain⟨⟨cls2,dd2,data2,sl2⟩,ho2,hc2,n2,hd2⟩:=id hb;simp only at hc hd hc2 hd2;subst hc hd hc2 hd2;exact richCompare_meets_room (op:=.Lt) ⟨_,ho,rfl⟩ ⟨_,ho2,rfl⟩ PySem.F.slot_tuple_lt PySem.F.entry_tuple_lt (PySem.F.args_tuple_lt_2 _ _) (ky l b items items2 n n2 dd dd2 sl sl2 ns ms hi hj)
  ⟨ho,ho2,show Value.bool (lexLt ns ms)≠Value.notImplemented/\Q (.bool (lexLt ns ms)) s from ⟨(λx=>nomatch x),h⟩⟩ hu

theorem cat_tup {t b:Addr}{vs ws:List Value}{Q:Value->Shared->Prop}(ht:IsTup s.heap t vs.toArray)(hb:IsTup s.heap b ws.toArray)(hv:vs≠[])
  (h1:ws=[]->Q (.ref t) s) (h2:ws≠[]->Q (.ref s.heap.objs.size) { s with heap:=s.heap.push { cls:=.type "tuple",data:=.seq (vs++ws).toArray } })
  (hsz:vs.length+ws.length<=sizeLine):wpAny (model prog w) A (binaryOp .Add (.ref t) (.ref b)) Q E s:=by
 obtain⟨⟨cls,dd,data,sl⟩,ho,hc,n,hd⟩:=id ht;obtain⟨⟨cls2,dd2,data2,sl2⟩,ho2,hc2,n2,hd2⟩:=id hb;simp only at hc hd hc2 hd2;subst hc hd hc2 hd2;have e:vs.toArray++ws.toArray=(vs++ws).toArray:=by simp
 by_cases hw:ws=[]
 ·exact concat_meets ⟨_,ho,rfl⟩ ⟨_,ho2,rfl⟩ noFill_tuple_add seq_tuple_add PySem.F.slot_tuple_add PySem.F.entry_tuple_add (PySem.F.args_tuple_add_2 _ _)
   (tuple_addW1 t b vs.toArray ws.toArray n n2 dd dd2 sl sl2 (by simpa using hv) (by simp [hw])) ⟨ho,ho2,h1 hw⟩
 ·refine concat_meets ⟨_,ho,rfl⟩ ⟨_,ho2,rfl⟩ noFill_tuple_add seq_tuple_add PySem.F.slot_tuple_add PySem.F.entry_tuple_add (PySem.F.args_tuple_add_2 _ _)
   (tuple_addW2 t b vs.toArray ws.toArray n n2 dd dd2 sl sl2 (by simpa using hv) (by simpa using hw) (by rw[List.size_toArray,List.size_toArray];exact hsz)) ⟨ho,ho2,?_⟩
  rw[e];exact h2 hw

def sIx (n d:Nat):Option Int->Nat
 | none=>d
 | some v=>if v < 0 then (v+(n:Int)).toNat else min v.toNat n
theorem sIx_none (n d:Nat):sIx n d none=d:=rfl
theorem sIx_nat (n d k:Nat):sIx n d (some (k:Int))=min k n:=by
 show (if (k:Int) < 0 then ((k:Int)+(n:Int)).toNat else min (k:Int).toNat n)=min k n
 rw[if_neg (by omega),Int.toNat_natCast]
theorem Ef (n d:Nat)(hd:d<=n)(o:Option Int):sIx n d o<=n:=by
 cases o with
 | none=>exact hd
 | some v =>
  show (if v < 0 then (v+(n:Int)).toNat else min v.toNat n)<=n
  by_cases hv:v < 0
  ·rw[if_pos hv];omega
  ·rw[if_neg hv];exact Nat.min_le_right _ _
theorem rB (v:Int)(n d:Nat):(if v < 0 then max (v+(n:Int)) 0 else min v (n:Int))=((sIx n d (some v):Nat):Int):=by
 show (if v < 0 then max (v+(n:Int)) 0 else min v (n:Int))=(((if v < 0 then (v+(n:Int)).toNat else min v.toNat n):Nat):Int)
 by_cases hv:v < 0
 ·simp only[if_pos hv];omega
 ·simp only[if_neg hv];omega
theorem qm (lo hi:Option Int)(n:Nat):Builtin.Slice.sliceAdjust lo hi 1 (n:Int)=(((sIx n 0 lo:Nat):Int),((sIx n n hi:Nat):Int)):=by
 have h1:¬ ((1:Int) < 0):=by omega
 unfold Builtin.Slice.sliceAdjust;simp only[h1,if_false];refine Prod.ext ?_ ?_
 ·cases lo with
  | none=>rfl
  | some v=>exact rB v n 0
 ·cases hi with
  | none=>rfl
  | some v=>exact rB v n n
theorem qo (i j:Nat):Builtin.Slice.slicePlaces (i:Int) (j:Int) 1=j - i:=by
 unfold Builtin.Slice.slicePlaces;have h1:(1:Int) > 0:=by omega
 simp only[h1,if_true,Int.ediv_one]
 split<;>omega
theorem jA {v:Value}{o:Option Int}{Q:Option Int->Shared->Prop}(p:IsPart v o)(h:Q o s):wpAny (model prog w) A (Builtin.Slice.slicePartIndex v) Q E s:=by
 cases p with
 | none=>exact slicePart_none h
 | int i t=>exact slicePart_int h
theorem sliceApplied_gen {sl:Addr}{vl vu:Value}{lo hi:Option Int}{n:Nat}{Q:Int×Int×Nat->Shared->Prop}(hs:s.heap.IsSliceOf sl vl vu .none)(pl:IsPart vl lo)(pu:IsPart vu hi)
  (h:Q (((sIx n 0 lo:Nat):Int),1,sIx n n hi - sIx n 0 lo) s):wpAny (model prog w) A (Builtin.Slice.sliceApplied (.ref sl) (pure (n:Int))) Q E s:=by
 obtain⟨os,hos,hcs,hds⟩:=id hs;unfold Builtin.Slice.sliceApplied Builtin.Slice.sliceFields;refine wpAny_bind (wpAny_bind (wpAny_field hos hds (x:=vl) rfl (wpAny_bind (wpAny_field hos hds (x:=vu) rfl (wpAny_bind (wpAny_field hos hds (x:=.none) rfl (wpAny_pure ?_)))))));refine wpAny_bind (slicePart_none ?_);show wpAny _ _ (if ((1:Int)==0)=true then _ else _) _ _ s
 rw[if_neg (by decide)]
 refine wpAny_bind (jA pl (wpAny_bind (jA pu (wpAny_bind (wpAny_pure ?_)))));show wpAny _ _ (match Builtin.Slice.sliceAdjust lo hi 1 (n:Int) with | (lo,hi)=>pure (lo,(1:Int),Builtin.Slice.slicePlaces lo hi 1)) _ _ s
 rw[qm lo hi n];show wpAny _ _ (pure (((sIx n 0 lo:Nat):Int),(1:Int),Builtin.Slice.slicePlaces ((sIx n 0 lo:Nat):Int) ((sIx n n hi:Nat):Int) 1)) _ _ s;rw[qo];exact wpAny_pure h
theorem uw (xs:Array Value)(i k:Nat):((List.range k).filterMap λ(m:Nat)=>xs[((i:Int)+(m:Int)*1).toNat]?).toArray=((xs.toList.drop i).take k).toArray:=by
 have e:(λ(m:Nat)=>xs[((i:Int)+(m:Int)*1).toNat]?)=λm=>xs[i+m]?:=by
  funext m;have:((i:Int)+(m:Int)*1).toNat=i+m:=by omega
  rw[this]
 rw[e];have:=pick_run xs i k;rw[List.filterMap_map] at this;have e2:((λx=>xs[x]?) ∘ λx=>i+x)=λm=>xs[i+m]?:=rfl;rw[e2] at this;rw[this]

theorem getItem_tuple_cut {t sl:Addr}{items:Array Value}{vl vu:Value}{lo hi:Option Int}{Q:Value->Shared->Prop}(ht:IsTup s.heap t items)(hs:s.heap.IsSliceOf sl vl vu .none)(pl:IsPart vl lo)(pu:IsPart vu hi)
  (hw:¬ (sIx items.size 0 lo=0/\sIx items.size items.size hi=items.size))
  (h:Q (.ref s.heap.objs.size) { s with heap:=s.heap.push { cls:=.type "tuple",data:=.seq ((items.toList.drop (sIx items.size 0 lo)).take (sIx items.size items.size hi - sIx items.size 0 lo)).toArray } })
  (hsz:items.size<=sizeLine):wpAny (model prog w) A (getItem (.ref t) (.ref sl)) Q E s:=by
 have htake:sizeOk (.seq ((items.toList.drop (sIx items.size 0 lo)).take (sIx items.size items.size hi - sIx items.size 0 lo)).toArray):=by
  show ((items.toList.drop (sIx items.size 0 lo)).take (sIx items.size items.size hi - sIx items.size 0 lo)).toArray.size<=sizeLine;rw[List.size_toArray,List.length_take,List.length_drop,Array.length_toList];omega
 have hj:sIx items.size items.size hi<=items.size:=Ef _ _ (Nat.le_refl _) hi;obtain⟨os,hos,hcs,hds⟩:=id hs;have hTs:s.TypeIs (.ref sl) "slice":=⟨os,hos,hcs⟩;unfold getItem
 try with_reducible refine wpAny_holding ?_
 first|refine wpAny_bind (wpAny_pure ?_)|skip
 refine wpAny_bind (wpAny_sequenceKey ht.typeIs (by decide) ?_)
 refine wpAny_bind (wpAny_callSpecial?_slot (name:=Str.ofString "__getitem__") ht.typeIs PyProof.Rows.slot_tuple_getitem
  (wpAny_call_entry PyProof.Rows.slot_tuple_getitem ht.typeIs entry_tuple_getitem ?_ (args_tuple_getitem _ _)))
 show wpAny _ _ (Builtin.Tuple.tupleItemsOf (.ref t) >>= _) _ _ s;refine wpAny_bind (tupleItemsOf_ ht ?_);refine wpAny_bind (wpAny_typeOf hTs ?_);rw[if_pos (by decide)]
 refine wpAny_bind (sliceApplied_gen hs pl pu ?_);have hno:¬ ((((sIx items.size 0 lo:Nat):Int)==0&&(1:Int)==1&&(sIx items.size items.size hi - sIx items.size 0 lo)==items.size)=true):=by
  intro q;rw[Bool.and_eq_true,Bool.and_eq_true] at q;have q1:((sIx items.size 0 lo:Nat):Int)=0:=eq_of_beq q.1.1;have q2:sIx items.size items.size hi - sIx items.size 0 lo=items.size:=eq_of_beq q.2;exact hw ⟨by omega,by omega⟩
 show wpAny _ _ (if (((sIx items.size 0 lo:Nat):Int)==0&&(1:Int)==1&&(sIx items.size items.size hi - sIx items.size 0 lo)==items.size)=true then _ else _) _ _ s
 rw[if_neg hno,uw]
 first
  | exact wpAny_bind (m:=Builtin.Tuple.tupleExact _) (wpAny_newObj_type (wpAny_pure ⟨_,rfl,wpAny_pure h⟩) htake)
  | exact wpAny_bind (m:=Builtin.Tuple.tupleExact _) (wpAny_newObj_type (wpAny_bind (wpAny_pure (wpAny_pure ⟨_,rfl,wpAny_pure h⟩))) htake)
  | exact wpAny_bind (wpAny_bind (m:=Builtin.Tuple.tupleExact _) (wpAny_newObj_type (wpAny_pure (wpAny_pure ⟨_,rfl,wpAny_pure h⟩)) htake))
  | exact wpAny_bind (wpAny_bind (m:=Builtin.Tuple.tupleExact _) (wpAny_newObj_type (wpAny_pure ⟨_,rfl,wpAny_pure h⟩) htake))
end
end HT

namespace L2
open PySem PySem.Spec PyProof.Rows

abbrev TO:=St->Hp->(Option Int->Hp->Prop)->Prop
def PO (X:Cx)(e:Option Expr)(t:TO):Prop :=
 ∀ (pins:List (Addr×Obj)) (s:Shared) (σ:St) (H:Hp) (Q:Option Int->Hp->Prop),Inv X pins σ H s->t σ H Q ->
  wpAny (model X.prog X.w) X.A (evalPart e X.env) (λu s'=>∃ o H',Inv X pins σ H' s'/\IsPart u o/\Q o H') X.xe s
def AF:TO:=λ_ H Q=>Q none H
def LP (t:TE):TO:=λσ H Q=>t σ H λx H1=>∃ i,x=.int i/\Q (some i) H1

theorem intsAre_of {ns:List Int}:∀ {us:List Value},Vals (ns.map V.int) us->IntsAre us ns:=by
 induction ns with
 | nil=>intro us r;rw[List.map_nil] at r;cases r;exact .nil
 | cons n ns ih =>
  intro us r;rw[List.map_cons] at r;cases r with
  | cons r1 r2 =>
   obtain⟨t,e⟩:=r1;subst e;exact .cons n t (ih r2)

section
variable {X:Cx}{e:Expr}{te:TE}{lo hi:Option Expr}{tl th:TO}{pos p2:Pos}

theorem AG:PO X none AF:=by
 intro pins s σ H Q I h;rw[evalPart_none];exact wpAny_pure ⟨none,H,I,.none,h⟩
theorem AH (h:PE X e te):PO X (some e) (LP te):=by
 intro pins s σ H Q I hw;rw[evalPart_some];refine bT (h pins s σ H _ I hw) λu s1 ⟨x,H1,I1,r1,q1⟩=>?_;obtain⟨i,rfl,q⟩:=q1;obtain⟨t,rfl⟩:=r1;exact⟨some i,H1,I1,.int i t,q⟩

def SlR (X:Cx)(r:V->Option Int->Option Int->Hp->VK->Prop):Prop :=
 ∀ (pins:List (Addr×Obj)) (s:Shared) (σ:St) (H:Hp) (x:V) (v vl vu:Value) (lo hi:Option Int) (sl:Addr) (Q:VK),Inv X pins σ H s->RelV x v->s.heap.IsSliceOf sl vl vu .none->IsPart vl lo->IsPart vu hi->r x lo hi H Q ->
  ∃ T id,typeLookup (.type T) "__getitem__"=pure (some (.builtin id))/\s.TypeIs v T/\wpAny (model X.prog X.w) X.A (getItem v (.ref sl)) (EP X pins σ Q) X.xe s
theorem SlR.or {r r':V->Option Int->Option Int->Hp->VK->Prop}(h:SlR X r)(h':SlR X r'):SlR X (λx lo hi H Q=>r x lo hi H Q\/r' x lo hi H Q):=by
 intro pins s σ H x v vl vu lo hi sl Q I rx hs pl pu q;rcases q with q|q
 ·exact h pins s σ H x v vl vu lo hi sl Q I rx hs pl pu q
 ·exact h' pins s σ H x v vl vu lo hi sl Q I rx hs pl pu q
def Rr (r:V->Option Int->Option Int->Hp->VK->Prop)(te:TE)(tl th:TO):TE:=λσ H Q=>te σ H λx H1=>tl σ H1 λl H2=>th σ H2 λu H3=>r x l u H3 Q
theorem ux {r:V->Option Int->Option Int->Hp->VK->Prop}(hr:SlR X r)(he:PE X e te)(hl:PO X lo tl)(hu:PO X hi th):PE X (.Subscript e (.Slice lo hi none p2) pos) (Rr r te tl th):=by
 intro pins s σ H Q I h;refine Subscript_ (bT (he pins s σ H _ I h) λv s1 ⟨x,H1,I1,r1,q1⟩=>?_);refine wpAny_Slice (bT (hl pins s1 σ H1 _ I1 q1) λvl s2 ⟨l,H2,I2,pl,q2⟩=>bT (hu pins s2 σ H2 _ I2 q2) λvu s3 ⟨u,H3,I3,pu,q3⟩=>?_);rw[evalPart_none];refine wpAny_pure ?_;have I4:Inv X pins σ H3 { s3 with heap:=s3.heap.push { cls:=.type "slice",data:=.fields #[vl,vu,.none] } }:=I3.kept (t':=s3.toks) λb ob q=>Heap.get?_push_of_some _ q
 obtain⟨T,id,hT,ht,hg⟩:=hr pins { s3 with heap:=s3.heap.push { cls:=.type "slice",data:=.fields #[vl,vu,.none] } } σ H3 x v vl vu l u s3.heap.objs.size Q I4 r1 (Heap.IsSliceOf.new ..) pl pu q3
 show wpAny (model X.prog X.w) X.A (subscriptTail e (.Slice lo hi none p2) v (.ref s3.heap.objs.size)) (EP X pins σ Q) X.xe { s3 with heap:=s3.heap.push { cls:=.type "slice",data:=.fields #[vl,vu,.none] } }
 exact tail_any (ops:=[.ref s3.heap.objs.size,v]) ht hT hg (by with_unfolding_all rfl)

def nQ (xs:List V)(lo hi:Option Int):List V:=(xs.drop (HT.sIx xs.length 0 lo)).take (HT.sIx xs.length xs.length hi - HT.sIx xs.length 0 lo)
theorem iU (xs:List V)(lo hi:Option Int):(nQ xs lo hi).length<=xs.length:=by
 unfold nQ;rw[List.length_take,List.length_drop];omega
def PQ (K:PySem.W.Frag):V->Option Int->Option Int->Hp->VK->Prop:=λx lo hi H Q=>∃ a xs,x=.ref a/\SqT K H a xs /\
 ¬ (HT.sIx xs.length 0 lo=0/\HT.sIx xs.length xs.length hi=xs.length)/\∀ p,H p=none->Q (.ref p) (bz H p (.tup (nQ xs lo hi)))
theorem Eg:SlR X (PQ X.K):=by
 intro pins s σ H x v vl vu lo hi sl Q I rx hs pl pu h;obtain⟨a,xs,rfl,hx,hw,q⟩:=h;cases rx;obtain⟨its,r,ht,hz⟩:=I.tuple hx;have hlen:its.toArray.size=xs.length:=by rw[List.size_toArray];exact r.length.symm
 refine⟨"tuple",_,PyProof.Rows.slot_tuple_getitem.lookup,ht.typeIs,?_⟩;refine HT.getItem_tuple_cut ht hs pl pu (by rw[hlen];exact hw) ?_ (by rw[hlen];exact hz)
 rw[hlen];refine⟨.ref s.heap.objs.size,_,I.laid (t':=s.toks) (o:=.tup (nQ xs lo hi)) (λb ob q=>Heap.get?_push_of_some _ q) (Nat.le_refl _) ?_,rfl,q _ (I.hok.fresh (Nat.le_refl _))⟩;exact⟨Nat.le_trans (iU xs lo hi) hz,_,(r.drop (HT.sIx xs.length 0 lo)).take (HT.sIx xs.length xs.length hi - HT.sIx xs.length 0 lo),IsTup.new _ _⟩

def Ct (K:PySem.W.Frag):R2:=λx y H Q=>∃ a b xs ys,x=.ref a/\y=.ref b/\SqT K H a xs/\SqT K H b ys/\xs≠[]/\xs.length+ys.length<=sizeLine /\
 (ys=[]->Q (.ref a) H)/\(ys≠[]->∀ p,H p=none->Q (.ref p) (bz H p (.tup (xs++ys))))
theorem Vals.nil_iff {xs:List V}{us:List Value}(r:Vals xs us):us=[] ↔ xs=[]:=by
 cases r with
 | nil=>simp
 | cons _ _=>simp
theorem AI:OpR X (binaryOp .Add) (Ct X.K):=by
 intro pins s σ H x y v u Q I rx ry h;obtain⟨a,b,xs,ys,rfl,rfl,ha,hb,hx,hz,q1,q2⟩:=h;cases rx;cases ry;obtain⟨its,r1,p1,_⟩:=I.tuple ha;obtain⟨its2,r2,p2,_⟩:=I.tuple hb;refine HT.cat_tup p1 p2 (λz=>hx (r1.nil_iff.mp z)) (λz=>⟨.ref a,H,I,rfl,q1 (r2.nil_iff.mp z)⟩) (λz=>?_) (by rw[<- r1.length,<- r2.length];exact hz)
 refine⟨.ref s.heap.objs.size,_,I.laid (t':=s.toks) (o:=.tup (xs++ys)) (λb ob q=>Heap.get?_push_of_some _ q) (Nat.le_refl _) ?_,rfl,q2 (λw=>z (r2.nil_iff.mpr w)) _ (I.hok.fresh (Nat.le_refl _))⟩;exact⟨by rw[List.length_append];exact hz,_,r1.append r2,IsTup.new _ _⟩
end
end L2

namespace L2
open PySem PySem.Spec PyProof.Rows

def ixN (n:Nat)(i:Int):Option Nat:=if 0<=i then (if i < n then some i.toNat else none) else if -(n:Int)<=i then some (i+n).toNat else none
def atI {α:Type}(xs:List α)(i:Int):Option α:=(ixN xs.length i).bind λj=>xs[j]?
theorem rC {n:Nat}{i:Int}{j:Nat}(h:ixN n i=some j):seqIndex? i n=some j/\j < n/\-(n:Int)<=i/\i < n:=by
 unfold ixN at h
 by_cases h0:0<=i
 ·rw[if_pos h0] at h
  by_cases h1:i < n
  ·rw[if_pos h1] at h
   have e:i.toNat=j:=Option.some.inj h;exact⟨by rw[seqIndex_of h0 h1,e],by omega,by omega,h1⟩
  ·rw[if_neg h1] at h;cases h
 ·rw[if_neg h0] at h
  by_cases h1:-(n:Int)<=i
  ·rw[if_pos h1] at h
   have e:(i+n).toNat=j:=Option.some.inj h;exact⟨by rw[seqIndex_neg (by omega) h1,e],by omega,h1,by omega⟩
  ·rw[if_neg h1] at h;cases h
theorem lF {α:Type}{xs:List α}{i:Int}{v:α}(h:atI xs i=some v):∃ j,seqIndex? i xs.length=some j/\xs[j]?=some v/\j < xs.length/\-(xs.length:Int)<=i/\i < xs.length:=by
 unfold atI at h;cases e:ixN xs.length i with
 | none=>rw[e] at h;cases h
 | some j =>
  rw[e] at h;obtain⟨h1,h2,h3,h4⟩:=rC e;exact⟨j,h1,h,h2,h3,h4⟩
def rD (b:Expr):Prop:=∀ o i,subscripted b false o i=operate [o,i] (getItem o i)
def IxR (X:Cx)(r:R2):Prop :=
 ∀ (value slice:Expr) (pins:List (Addr×Obj)) (s:Shared) (σ:St) (H:Hp) (x y:V) (v u:Value) (Q:VK),Inv X pins σ H s->RelV x v->RelV y u->r x y H Q ->
  subscripted slice false v u=operate [v,u] (getItem v u)->wpAny (model X.prog X.w) X.A (subscriptTail value slice v u) (EP X pins σ Q) X.xe s
def Rs (X:Cx)(id:String)(r:V->List V->Hp->VK->Prop):Prop :=
 ∀ (pins:List (Addr×Obj)) (s:Shared) (σ:St) (H:Hp) (x:V) (xs:List V) (v:Value) (us:List Value) (Q:VK),Inv X pins σ H s->RelV x v->Vals xs us->r x xs H Q ->
  wpAny (model X.prog X.w) X.A (call (.builtin id) (v::us)) (EP X pins σ Q) X.xe s
section
variable {X:Cx}{a b:Expr}{ta tb:TE}{pos:Pos}
theorem IxR.or {r r':R2}(h:IxR X r)(h':IxR X r'):IxR X (λx y H Q=>r x y H Q\/r' x y H Q):=by
 intro value slice pins s σ H x y v u Q I rx ry q hs;rcases q with q|q
 ·exact h value slice pins s σ H x y v u Q I rx ry q hs
 ·exact h' value slice pins s σ H x y v u Q I rx ry q hs
theorem LQ {r:R2}(hr:IxR X r)(ha:PE X a ta)(hb:PE X b tb)(hs:rD b):PE X (.Subscript a b pos) (Ln r ta tb):=by
 intro pins s σ H Q I h;exact Subscript_ (DT ha hb I h λv u s2 x y H2 I2 rx ry q=>hr a b pins s2 σ H2 x y v u Q I2 rx ry q (hs _ _))

def LR (K:PySem.W.Frag):R2:=λx y H Q=>∃ p xs i v,x=.ref p/\y=.int i/\SqL K H p xs/\atI xs i=some v/\Q v H
def LS (K:PySem.W.Frag):R2:=λx y H Q=>∃ p xs i v,x=.ref p/\y=.int i/\SqT K H p xs/\atI xs i=some v/\Q v H
def LT:R2:=λx y H Q=>∃ z i c,x=.str z/\y=.int i/\z.length<=sizeLine/\atI z.cps.toList i=some c/\Q (.str ⟨#[c]⟩) H
theorem ix_list:IxR X (LR X.K):=by
 intro value slice pins s σ H x y v u Q I rx ry h hs;obtain⟨p,xs,i,z,rfl,rfl,hq,he,q⟩:=h;cases rx;obtain⟨t,rfl⟩:=ry;obtain⟨its,r,pl,hz⟩:=I.list hq;obtain⟨j,h1,h2,h3,h4,h5⟩:=lF he;obtain⟨w,ew,rw'⟩:=r.get h2;have hl:=r.length;have hn:=fB;have fin:EP X pins σ Q w s:=⟨z,H,I,rw',q⟩
 by_cases h0:0<=i
 ·have hj:i.toNat=j:=by
   rw[seqIndex_of h0 h5] at h1;exact Option.some.inj h1
  exact item_listR pl.isList h0 (by omega) (by rw[hj];simpa using ew) fin hs
 ·have hj:(i+(its.toArray.size:Int)).toNat=j:=by
   rw[seqIndex_neg (by omega) h4] at h1
   rw[List.size_toArray,<- hl];exact Option.some.inj h1
  exact subscriptTail_builtinR (x:=w) pl.isList.typeIs slot_list_getitem.lookup
   (wpAny_getItem_list_neg (Q:=λr s'=>r=w/\EP X pins σ Q r s') pl.isList (by omega) (by rw[List.size_toArray]<;>omega) (by omega) (by rw[hj];simpa using ew) ⟨rfl,fin⟩) hs
theorem ix_tup:IxR X (LS X.K):=by
 intro value slice pins s σ H x y v u Q I rx ry h hs;obtain⟨p,xs,i,z,rfl,rfl,hq,he,q⟩:=h;cases rx;obtain⟨t,rfl⟩:=ry;obtain⟨its,r,pl,hz⟩:=I.tuple hq;obtain⟨j,h1,h2,h3,h4,h5⟩:=lF he;obtain⟨w,ew,rw'⟩:=r.get h2;have hl:=r.length;have hn:=fB;have fin:EP X pins σ Q w s:=⟨z,H,I,rw',q⟩;exact subscriptTail_builtinR (x:=w) pl.typeIs slot_tuple_getitem.lookup
  (getItem_tuple (j:=j) (Q:=λr s'=>r=w/\EP X pins σ Q r s') pl (by omega) (by omega) (by rw[List.size_toArray,<- hl];exact h1) (by simpa using ew) ⟨rfl,fin⟩) hs
theorem Eh:IxR X LT:=by
 intro value slice pins s σ H x y v u Q I rx ry h hs;obtain⟨z,i,c,rfl,rfl,hz,he,q⟩:=h;obtain⟨t,rfl⟩:=rx;obtain⟨t',rfl⟩:=ry;obtain⟨j,h1,h2,h3,h4,h5⟩:=lF he;have hl:z.cps.toList.length=z.length:=by simp [Str.length]
 rw[hl] at h1 h4 h5;have hn:=fB;exact tail_any (typeIs_str s z t) slot_str_getitem.lookup (getItem_str (c:=c) (by
  have e1:decide (i < -(2^63:Int))=false:=decide_eq_false (by omega)
  have e2:decide (i>=2^63)=false:=decide_eq_false (by omega)
  rw[e1,e2,Bool.or_false]) (by rw[h1];simpa using h2) ⟨.str ⟨#[c]⟩,H,I.tok _,⟨_,rfl⟩,q⟩) hs
def Rt (K:PySem.W.Frag):R2:=λx y H Q=>LR K x y H Q\/LS K x y H Q\/LT x y H Q
theorem Ei:IxR X (Rt X.K):=ix_list.or (ix_tup.or Eh)

theorem qp (its:List Value)(n j:Nat)(u:Value):Obj.mapSeq (·.setIfInBounds j u) { cls:=.type "list",data:=.seq its.toArray n }={ cls:=.type "list",data:=.seq (its.set j u).toArray n }:=by
 simp [Obj.mapSeq]
theorem Inv.lst {pins:List (Addr×Obj)}{σ:St}{H:Hp}{s:Shared}{p:Addr}{xs:List V}(I:Inv X pins σ H s)(h:H p=some (.lst xs)) :
  ∃ (its:List Value) (n:Nat),Vals xs its/\s.heap.get? p=some { cls:=.type "list",data:=.seq its.toArray n }/\xs.length<=sizeLine:=by
 obtain⟨z,its,n,r,e⟩:=I.hok p _ h;exact⟨its,n,r,e,z⟩
theorem Inv.lstUpd {pins:List (Addr×Obj)}{σ:St}{H:Hp}{s:Shared}{p:Addr}{xs ys:List V}{its its':List Value}{n n':Nat}{f:Obj->Obj}(I:Inv X pins σ H s)(h:H p=some (.lst xs))
  (ho:s.heap.get? p=some { cls:=.type "list",data:=.seq its.toArray n }) (hf:f { cls:=.type "list",data:=.seq its.toArray n }={ cls:=.type "list",data:=.seq its'.toArray n' }) (r:Vals ys its') (hz:ys.length<=sizeLine) (t:Nat) :
  Inv X pins σ (bz H p (.lst ys)) { s with heap:=s.heap.update p f,toks:=t }:=by
 have e:(s.heap.update p f).get? p=some { cls:=.type "list",data:=.seq its'.toArray n' }:=by
  rw[Heap.get?_update_self f ho (by rw[hf]<;>rfl),hf]
 refine I.write (x:=p) (e:=p) (by rw[h];trivial) (.inl rfl) (λb u hb q=>(Heap.get?_update_other _ _ (Ne.symm hb)).trans q) ⟨_,e⟩ ?_
 exact⟨hz,its',n',r,e⟩
def LU:V->V->V->Hp->(Hp->Prop)->Prop:=λo i v H Q=>∃ p xs k j,o=.ref p/\i=.int k/\H p=some (.lst xs)/\ixN xs.length k=some j/\Q (bz H p (.lst (xs.set j v)))
theorem uy:LA X LU:=by
 intro pins s σ H o i v ov iv u Q I ro ri rv h;obtain⟨p,xs,k,j,rfl,rfl,hp,hj,q⟩:=h;cases ro;obtain⟨t,rfl⟩:=ri;obtain⟨its,n,r,ho,hz⟩:=I.lst hp;obtain⟨h1,h2,h3,h4⟩:=rC hj;have hl:=r.length;have hn:=fB;have I':Inv X pins σ (bz H p (.lst (xs.set j v))) { s with heap:=s.heap.update p (Obj.mapSeq (·.setIfInBounds j u)) } :=
  I.lstUpd hp ho (qp its n j u) (r.set rv j) (by rw[List.length_set];exact hz) s.toks
 by_cases h0:0<=k
 ·have hk:k.toNat=j:=by
   rw[seqIndex_of h0 h4] at h1;exact Option.some.inj h1
  exact PySem.W.ki_setAt ho h0 (by omega) (by rw[List.size_toArray,<- hl];exact h4) (by rw[hk];exact⟨_,I',q⟩)
 ·have hk:(k+(its.toArray.size:Int)).toNat=j:=by
   rw[seqIndex_neg (by omega) h3] at h1
   rw[List.size_toArray,<- hl];exact Option.some.inj h1
  exact PySem.W.ki_setBack ho (by omega) (by rw[List.size_toArray,<- hl];exact h3) (by omega) (by rw[hk];exact⟨_,I',q⟩)

theorem lH (lo hi:Option Int)(n:Nat):(sliceBounds lo hi none n).1=((HT.sIx n 0 lo:Nat):Int)/\(sliceBounds lo hi none n).2.1=((HT.sIx n n hi:Nat):Int)/\(sliceBounds lo hi none n).2.2=1:=by
 refine⟨?_,?_,rfl⟩
 ·cases lo with
  | none=>simp [sliceBounds,HT.sIx]
  | some i =>
   simp only[sliceBounds,HT.sIx,Option.getD_none,show (1:Int) > 0 by decide,if_true]
   by_cases h:i < 0
   ·simp only[h,if_true]<;>omega
   ·simp only[h,if_false]<;>omega
 ·cases hi with
  | none=>simp [sliceBounds,HT.sIx]
  | some i =>
   simp only[sliceBounds,HT.sIx,Option.getD_none,show (1:Int) > 0 by decide,if_true]
   by_cases h:i < 0
   ·simp only[h,if_true]<;>omega
   ·simp only[h,if_false]<;>omega
theorem kz (its:List Value)(lo hi:Option Int):slicePick its.toArray lo hi none=((its.drop (HT.sIx its.length 0 lo)).take (HT.sIx its.length its.length hi - HT.sIx its.length 0 lo)).toArray:=by
 obtain⟨h1,h2,h3⟩:=lH lo hi its.toArray.size;unfold slicePick;rw[h1,h2,h3];simp only[sliceRange_one,pick_run,List.size_toArray]<;>rfl
def PR (K:PySem.W.Frag):V->Option Int->Option Int->Hp->VK->Prop:=λx lo hi H Q=>∃ a xs,x=.ref a/\SqL K H a xs/\∀ p,H p=none->Q (.ref p) (bz H p (.lst (nQ xs lo hi)))
theorem AJ:SlR X (PR X.K):=by
 intro pins s σ H x v vl vu lo hi sl Q I rx hs pl pu h;obtain⟨a,xs,rfl,hx,q⟩:=h;cases rx;obtain⟨its,r,ht,hz⟩:=I.list hx;have hlen:=r.length;refine⟨"list",_,slot_list_getitem.lookup,ht.isList.typeIs,?_⟩;refine wpAny_getItem_list_slice ht.isList hs pl pu .none (by simp) ?_ (by rw[List.size_toArray]<;>omega)
 rw[kz,<- hlen];refine⟨.ref s.heap.objs.size,_,I.laid (t':=s.toks) (o:=.lst (nQ xs lo hi)) (λb ob q=>Heap.get?_push_of_some _ q) (Nat.le_refl _) ?_,rfl,q _ (I.hok.fresh (Nat.le_refl _))⟩;exact⟨Nat.le_trans (iU xs lo hi) hz,_,0,(r.drop (HT.sIx xs.length 0 lo)).take (HT.sIx xs.length xs.length hi - HT.sIx xs.length 0 lo),Heap.get?_push_size _ rfl⟩

theorem call_len_seq:CallR X (.builtin "len") (λxs H Q=>∃ p ys,xs=[.ref p]/\(SqL X.K H p ys\/SqT X.K H p ys)/\Q (.int ys.length) H):=by
 intro pins s σ H xs us Q I r h;obtain⟨p,ys,rfl,hq,q⟩:=h;obtain⟨u,rfl,rx⟩:=cY r;cases rx;have hn:=fB;rcases hq with hq|hq
 ·obtain⟨its,r',pl,hz⟩:=I.list hq
  have hlen:=r'.length;exact Calls.call_len_list pl.isList (by simp only[List.size_toArray]<;>omega) ⟨.int ys.length,H,I.tok _,⟨s.toks+1,by rw[List.size_toArray,hlen]⟩,q⟩
 ·obtain⟨its,r',pl,hz⟩:=I.tuple hq
  have hlen:=r'.length;exact len_tuple pl (by simp only[List.size_toArray]<;>omega) ⟨.int ys.length,H,I.tok _,⟨s.toks+1,by rw[List.size_toArray,hlen]⟩,q⟩
theorem lJ:CallR X (.builtin "len") (λxs H Q=>∃ z,xs=[.str z]/\z.length<=sizeLine/\Q (.int z.length) H):=by
 intro pins s σ H xs us Q I r h;obtain⟨z,rfl,hz,q⟩:=h;obtain⟨u,rfl,t,rfl⟩:=cY r;have hn:=fB;exact len_str (by omega) ⟨.int z.length,H,I.tok _,⟨_,rfl⟩,q⟩
theorem CallR.or {f:Value}{r r':List V->Hp->VK->Prop}(h:CallR X f r)(h':CallR X f r'):CallR X f (λxs H Q=>r xs H Q\/r' xs H Q):=by
 intro pins s σ H xs us Q I rs q;rcases q with q|q
 ·exact h pins s σ H xs us Q I rs q
 ·exact h' pins s σ H xs us Q I rs q
theorem lK:CallR X (.type "list") (λxs H Q=>∃ p ys,xs=[.ref p]/\(SqL X.K H p ys\/SqT X.K H p ys)/\∀ l,H l=none->Q (.ref l) (bz H l (.lst ys))):=by
 intro pins s σ H xs us Q I r h;obtain⟨p,ys,rfl,hq,q⟩:=h;obtain⟨u,rfl,rx⟩:=cY r;cases rx;have fin:∀ (its:List Value),Vals ys its->ys.length<=sizeLine->∀ (h':Heap) (c':Nat),(∀ b o',s.heap.get? b=some o'->h'.get? b=some o') ->
   h'.get? s.heap.objs.size=some { cls:=.type "list",dict:=none,data:=.seq its.toArray c',slots:=#[] }->EP X pins σ Q (.ref s.heap.objs.size) { s with heap:=h' }:=λits r' hz h' c' kp e =>
  ⟨.ref s.heap.objs.size,_,I.laid (t':=s.toks) kp (Nat.le_refl _) (show ObjOk X.prog X.w _ h' _ (.lst ys) from ⟨hz,its,c',r',e⟩),rfl,q _ (I.hok.fresh (Nat.le_refl _))⟩
 rcases hq with hq|hq
 ·obtain⟨its,r',pl,hz⟩:=I.list hq
  have hlen:=r'.length;obtain⟨o,ho,hc,n,hd⟩:=pl.isList;exact call_list_seq p (.inl rfl) ho hc hd (λh' c' kp e=>fin its r' hz h' c' kp e) (by simp only[List.size_toArray]<;>omega)
 ·obtain⟨its,r',pl,hz⟩:=I.tuple hq
  have hlen:=r'.length;obtain⟨o,ho,hc,n,hd⟩:=pl;exact call_list_seq p (.inr rfl) ho hc hd (λh' c' kp e=>fin its r' hz h' c' kp e) (by simp only[List.size_toArray]<;>omega)
theorem kA:CallR X (.type "tuple") (λxs H Q=>∃ p ys,xs=[.ref p]/\((SqL X.K H p ys/\∀ l,H l=none->Q (.ref l) (bz H l (.tup ys)))\/(SqT X.K H p ys/\Q (.ref p) H))):=by
 intro pins s σ H xs us Q I r h;obtain⟨p,ys,rfl,h⟩:=h;obtain⟨u,rfl,rx⟩:=cY r;cases rx;rcases h with ⟨hq,q⟩|⟨hq,q⟩
 ·obtain⟨its,r',pl,hz⟩:=I.list hq
  have hlen:=r'.length;refine call_tuple_list pl.isList (λh' kp=>?_) (by simp only[List.size_toArray]<;>omega)
  have I1:Inv X pins σ H { s with heap:=h' }:=I.kept (t':=s.toks) kp
  have I2:Inv X pins σ (bz H h'.objs.size (.tup ys)) { s with heap:=h'.push { cls:=.type "tuple",data:=.seq its.toArray } } :=
   I1.laid (t':=s.toks) (λb o e=>Heap.get?_push_of_some _ e) (Nat.le_refl _) (show ObjOk X.prog X.w _ _ _ (.tup ys) from ⟨hz,its,r',IsTup.new _ _⟩)
  exact⟨.ref h'.objs.size,_,I2,rfl,q _ (I1.hok.fresh (Nat.le_refl _))⟩
 ·obtain⟨its,r',pl,hz⟩:=I.tuple hq
  exact call_tuple_same pl ⟨.ref p,H,I,rfl,q⟩

def QV (K:PySem.W.Frag)(T:String)(x:V)(H:Hp):Prop:=match x with
 | .str _=>T="str"
 | .int _=>T="int"
 | .ref p=>(T="list"/\∃ xs,SqL K H p xs)\/(T="tuple"/\∃ o,K.lookup p=some o/\o.cls=.type "tuple"/\o.dict=none) \/
   (T="dict"/\((∃ kvs,H p=some (.dK kvs))\/∃ kvs,H p=some (.dT kvs)))\/(T="set"/\∃ S n,H p=some (.set S n))
 | _=>False
theorem Ej {pins:List (Addr×Obj)}{σ:St}{H:Hp}{s:Shared}{T:String}{x:V}{v:Value}(I:Inv X pins σ H s)(r:RelV x v)(ty:QV X.K T x H) :
  s.TypeIs v T/\∀ a,v=.ref a->∃ ob,s.heap.get? a=some ob/\ob.dict=none:=by
 cases x with
 | str z =>
  obtain⟨t,rfl⟩:=r;cases (show T="str" from ty)
  exact⟨typeIs_str s z t,λ_ e=>nomatch e⟩
 | int i =>
  obtain⟨t,rfl⟩:=r;cases (show T="int" from ty)
  exact⟨typeIs_int s i t,λ_ e=>nomatch e⟩
 | ref p =>
  cases r;rcases ty with ⟨rfl,xs,hq⟩|⟨rfl,o,hk,hc,hd⟩|⟨rfl,hk⟩|⟨rfl,S,n,hk⟩
  ·obtain⟨its,_,pl,_⟩:=I.list hq
   refine⟨pl.isList.typeIs,λa e=>?_⟩;cases e;obtain⟨o,n,e,c,hd,_⟩:=pl;exact⟨o,e,hd⟩
  ·refine⟨⟨o,I.kIn p o hk,hc⟩,λa e=>?_⟩
   cases e;exact⟨o,I.kIn _ o hk,hd⟩
  ·have z:∃ o,s.heap.get? p=some o/\o.ExactDict:=by
    rcases hk with ⟨kvs,hk⟩|⟨kvs,hk⟩
    ·obtain⟨_,_,_,_,o,_,_,e,ex,_⟩:=I.hok p _ hk
     exact⟨o,e,ex⟩
    ·obtain⟨_,_,_,_,o,_,_,e,ex,_⟩:=I.hok p _ hk
     exact⟨o,e,ex⟩
   obtain⟨o,e,ex⟩:=z;refine⟨⟨o,e,ex.1⟩,λa e2=>?_⟩;cases e2;exact⟨o,e,ex.2.1⟩
  ·obtain⟨o,_,_,_,e,ex,_⟩:=I.hok p _ hk
   refine⟨⟨o,e,ex.1⟩,λa e2=>?_⟩;cases e2;exact⟨o,e,ex.2.1⟩
 | _=>exact False.elim ty
def Ru (K:PySem.W.Frag)(T:String)(r:V->List V->Hp->VK->Prop)(to:TE)(t:TA):TE:=λσ H Q=>to σ H λx H1=>QV K T x H1/\t σ H1 λxs H2=>r x xs H2 Q
variable {o e:Expr}{es:List Expr}{to:TE}{t:TA}{name:Str}{apos cpos:Pos}{T id:String}{r:V->List V->Hp->VK->Prop}
theorem rE (pa:PlainAttrs T)(slot:Slot T name id)(hty:typeOf (.builtin id)=pure (.type "method_descriptor"))(hm:Rs X id r)(ho:PE X o to)(ha:PA X (e::es) t)
  (hbase:attributeBase o name X.env (eval o X.env)=eval o X.env:=by rfl)
  (hfew:((backTo cpos (starEach (e::es) X.env)).all (λx=>!x.1)&&(backToKw cpos (keywordEach [] X.env)).all (λx=>x.1.isSome)
  &&decide ((e::es).length+([]:List Keyword).length+(if ([]:List Keyword).isEmpty then 0 else 1) < 30))=true:=by rfl)
  (hline:(apos.endLine==cpos.line)=true:=by rfl) (hs:starEach (e::es) X.env=(false,eval e X.env)::starEach es X.env:=by rfl) (hplain:(backTo cpos (starEach es X.env)).any (·.1)=false:=by rfl) :
  PE X (.Call (.Attribute o name apos) (e::es) [] cpos) (Ru X.K T r to t):=by
 intro pins s σ H Q I h;refine wpAny_Call_method_late hbase hfew hline rfl (bT (ho pins s σ H _ I h) λv s1 ⟨x,H1,I1,r1,ty,q1⟩=>?_);obtain⟨h1,h2⟩:=Ej I1 r1 ty;refine⟨T,id,pa,slot,hty,h1,h2,?_⟩;have hA:=ha cpos pins s1 σ H1 _ I1 q1;rw[hs] at hA ⊢;refine Calls.callWith_builtin (by show (false||(backTo cpos (starEach es X.env)).any (·.1))=false;rw[hplain]<;>rfl) (Calls.evalArgs_plain ?_)
 exact bT hA λus s2 ⟨vs,H2,I2,r2,q2⟩=>hm pins s2 σ H2 x vs v us Q I2 r1 r2 q2
end
end L2

namespace L2
open PySem PySem.Spec PyProof.Rows

def PU (X:Cx)(id:String)(r:V->List V->Hp->VK->Prop):Prop :=
 ∀ (pins:List (Addr×Obj)) (s:Shared) (σ:St) (H:Hp) (x:V) (xs:List V) (v:Value) (us:List Value) (Q:VK),Inv X pins σ H s->RelV x v->Vals xs us->r x xs H Q ->
  wpAny (model X.prog X.w) X.A (call (.builtin id) (v::us)) (EP X pins σ Q) X.xe s

theorem Vals.one:∀ {x:V} {us:List Value},Vals [x] us->∃ u,us=[u]/\RelV x u
 | _,_,.cons r .nil=>⟨_,rfl,r⟩
theorem Vals.reverse {xs:List V}{us:List Value}(h:Vals xs us):Vals xs.reverse us.reverse:=by
 induction h with
 | nil=>exact .nil
 | cons r t ih=>rw[List.reverse_cons,List.reverse_cons];exact Vals.append ih (.cons r .nil)
theorem Vals.rep {xs:List V}{us:List Value}(h:Vals xs us):∀ k:Nat,Vals (List.replicate k xs).flatten (List.replicate k us).flatten
 | 0=>.nil
 | k+1=>by
  rw[List.replicate_succ,List.replicate_succ,List.flatten_cons,List.flatten_cons];exact Vals.append h (Vals.rep h k)
theorem kR (its:List Value):∀ (k:Nat) (acc:List Value),
  List.foldl (λx1 x2=>x1++x2) acc.toArray (List.replicate k its.toArray)=(acc++(List.replicate k its).flatten).toArray
 | 0,acc=>by simp
 | k+1,acc=>by
  have e:acc.toArray++its.toArray=(acc++its).toArray:=by simp
  have e2:(acc++its)++(List.replicate k its).flatten=acc++(List.replicate (k+1) its).flatten:=by
   rw[List.replicate_succ,List.flatten_cons,List.append_assoc]
  rw[<- e2,<- kR its k (acc++its),<- e,List.replicate_succ,List.foldl_cons]

section
variable {X:Cx}{pins:List (Addr×Obj)}{σ:St}{H:Hp}{s:Shared}{l b:Addr}{xs ys zs:List V}

theorem Inv.lset {its its':List Value}{n:Nat}{f:Array Value->Array Value}{t':Nat}(I:Inv X pins σ H s)(hH:H l=some (.lst xs))
  (e:s.heap.get? l=some { cls:=.type "list",data:=.seq its.toArray n }) (hf:f its.toArray=its'.toArray) (hv:Vals ys its') (hz:ys.length<=sizeLine) :
  Inv X pins σ (bz H l (.lst ys)) { s with heap:=s.heap.update l (Obj.mapSeq f),toks:=t' }:=by
 have q:=PySem.IsL.update e f;rw[hf] at q;refine I.write (x:=l) (e:=l) (by rw[hH];exact trivial) (.inl rfl) (λb' u hb hu=>(Heap.get?_update_other s.heap (Obj.mapSeq f) (Ne.symm hb)).trans hu) ⟨_,q⟩ ?_
 exact⟨hz,its',_,hv,q⟩
theorem Inv.lnew {its:List Value}{t':Nat}(I:Inv X pins σ H s)(hv:Vals ys its)(hz:ys.length<=sizeLine) :
  Inv X pins σ (bz H s.heap.objs.size (.lst ys)) { s with heap:=s.heap.push { cls:=.type "list",data:=.seq its.toArray },toks:=t' } :=
 I.laid (λ_ _ q=>Heap.get?_push_of_some _ q) (Nat.le_refl _) ⟨hz,its,0,hv,Heap.get?_push_size _ rfl⟩
theorem Inv.fresh (I:Inv X pins σ H s):H s.heap.objs.size=none:=I.hok.fresh (Nat.le_refl _)
theorem Inv.lstM (I:Inv X pins σ H s)(hH:H l=some (.lst xs)):xs.length<=sizeLine/\∃ (its:List Value) (n:Nat),Vals xs its/\xs.length=its.length/\s.heap.get? l=some { cls:=.type "list",data:=.seq its.toArray n }:=by
 obtain⟨z,its,n,r,e⟩:=I.hok l _ hH;exact⟨z,its,n,r,r.length,e⟩

theorem nR {n:Nat}(h:n<=sizeLine):Builtin.List.listTooLong n=false:=by
 unfold Builtin.List.listTooLong;exact decide_eq_false (by omega)
end

section
variable {X:Cx}

def AK:V->List V->Hp->VK->Prop:=λx vs H Q=>∃ l xs y,x=.ref l/\vs=[y]/\H l=some (.lst xs)/\xs.length < sizeLine/\Q .non (bz H l (.lst (xs++[y])))
theorem hZ:PU X "list.append" AK:=by
 intro pins s σ H x vs v us Q I rx rv h;obtain⟨l,xs,y,rfl,rfl,hH,hz,q⟩:=h;cases rx;obtain⟨u,rfl,ru⟩:=rv.one;obtain⟨z,its,n,r,hl,e⟩:=I.lstM hH;refine call_meets F.slot_list_append ⟨_,e,rfl⟩ F.entry_list_append (F.args_list_append_2 _ _) (PySem.list_append l its.toArray n u (by rw[List.size_toArray];omega)) ⟨e,?_⟩
 refine⟨.non,_,I.lset (its':=its++[u]) hH e (by simp) (r.append (.cons ru .nil)) ?_,rfl,q⟩
 rw[List.length_append,List.length_singleton];omega

def AL:V->List V->Hp->VK->Prop:=λx vs H Q=>∃ l b xs zs,x=.ref l/\vs=[.ref b]/\H l=some (.lst xs)/\H b=some (.lst zs)/\xs.length+zs.length<=sizeLine/\Q .non (bz H l (.lst (xs++zs)))
theorem tu:PU X "list.extend" AL:=by
 intro pins s σ H x vs v us Q I rx rv h;obtain⟨l,b,xs,zs,rfl,rfl,hH,hB,hz,q⟩:=h;cases rx;obtain⟨u,rfl,ru⟩:=rv.one;cases ru;obtain⟨z,its,n,r,hl,e⟩:=I.lstM hH;obtain⟨z2,its2,n2,r2,hl2,e2⟩:=I.lstM hB;have hsz:its.toArray.size+its2.toArray.size<=sizeLine:=by rw[List.size_toArray,List.size_toArray];omega
 have hlong:¬ (!its.toArray.isEmpty&&Builtin.List.listTooLong (its.toArray.size+its2.toArray.size))=true:=by
  rw[nR hsz,Bool.and_false];exact Bool.false_ne_true
 refine call_meets F.slot_list_extend ⟨_,e,rfl⟩ F.entry_list_extend (F.args_list_extend_2 _ _)
  (AutoSeq1.list_extend_list_list_0 l its.toArray n b its2.toArray n2 hlong (by rw[List.size_toArray];omega) (by omega)) ⟨e,e2,?_⟩
 refine⟨.non,_,I.lset (its':=its++its2) hH e (by simp) (r.append r2) ?_,rfl,q⟩
 rw[List.length_append];omega

theorem AM {α:Type}(xs:List α)(k:Nat):(List.replicate k xs).flatten.length=k*xs.length:=by
 induction k with
 | zero=>simp
 | succ k ih=>rw[List.replicate_succ,List.flatten_cons,List.length_append,ih,Nat.succ_mul,Nat.add_comm]
end

section
variable {prog:Program}{w:World}{A:Around}{E:Value->Shared->Prop}{s:Shared}
set_option maxRecDepth 100000 in
end

section
variable {X:Cx}
end
end L2

namespace Att
open PySem PySem.W PySem.Calls PyProof.Rows

theorem jh {P:Params}{h:Heap}:∀ (ns:List Int) (vs:List Value),WellAll P h vs (ns.map WData.int)->IntsAre vs ns:=by
 intro ns
 induction ns with
 | nil =>
  intro vs w;rw[List.map_nil] at w;cases w;exact .nil
 | cons n ns ih =>
  intro vs w;rw[List.map_cons] at w;cases w with
  | cons a b =>
   cases a;exact .cons _ _ (ih _ b)

theorem tw {l:OpenLaw}{n:Nat}(hn:l.most=some n){P:Params}{h:Heap}{args:List WData}{vals:List Value}
  (hpre:l.row.toRowW.claim.pre args=true) (hwl:WellAll P h vals args) :
  ∃ a vs ns,vals=[Value.ref a]/\args=[WData.list (ns.map WData.int)]/\h.get? a=some { cls:=.type "list",data:=.seq vs.toArray }/\IntsAre vs ns/\ns.length<=n:=by
 have hsh:WShape.hasAll [] args [.list .int]=true:=(pre_splitW hpre).1;have hc:l.pre.holds [] { args:=args }=true:=(pre_splitW hpre).2;obtain⟨d,r,rfl,h1,h2⟩:=hasAllW_cons hsh;obtain rfl:=hasAllW_nil h2;obtain⟨xs,rfl,h3⟩:=hasW_list h1;obtain⟨ns,rfl⟩:=items_int h3;have hlen:ns.length<=n:=by
  unfold OpenLaw.pre at hc;have h4:(WTm.not (.lt (.lit (.int (n:Int))) (.len (.arg 0)))).holds [] { args:=[.list (ns.map .int)] }=true:=by
   have h4:=(holds_andW hc).1;rw[hn] at h4;exact h4
  have h5:=condW_of h4 (w_not (w_lt w_lit (w_len_list (w_arg rfl))));rw[List.length_map] at h5;refine Nat.le_of_not_lt λq=>?_;have q':(n:Int) < ((ns.length:Nat):Int):=by omega
  first
   | (rw[decide_eq_true q'] at h5;exact absurd h5 (by decide))
   | (simp at h5;omega)
 cases hwl with
 | cons w1 w2 =>
  cases w2;cases w1 with
  | list ho hall=>exact⟨_,_,ns,rfl,rfl,ho,jh ns _ hall,hlen⟩

theorem tz (l:OpenLaw)(args:List WData):l.row.toRowW.claim.post args (.bool true) args=true :=
 postW_of (r:=l.row.toRowW) (X:=(true==true))
  (show WShape.has [] (.bool true) .bool=true by first|rfl|decide|simp [WShape.has,WShape.arms,WShape.armsAll])
  (show (WTm.eq .res (.lit (.bool true))).value [] { args:=args,res:=some (.bool true),after:=args }=some (.bool (true==true)) from w_eq_bool (w_res rfl) w_lit) rfl

theorem attach_call {l:OpenLaw}{n:Nat}{q:Program}{loose:List Str}{XP:(Str->Option Value)->Heap->Prop}{YP:World->Heap->Prop}{d:DefRec}
  (hn:l.most=some n) (hdf:d.params.defaults=[])
  (call:∀ (w:World) (s₀ s₁:Shared) (mg mb:Str->Option Value) (fa:Addr) (o:Obj) (pm cd doc:Value) (a:Addr) (vs:List Value) (ns:List Int),
   Ground q loose [] XP w s₀ mg mb s₁.heap->YP w s₁.heap ->
   s₁.heap.get? fa=some o->o.data=.func (docDef d.name d.params d.body d.scope pm cd doc)->s₁.heap.CodeRec cd d.name->mg d.name=some (.ref fa) ->
   s₁.heap.get? a=some { cls:=.type "list",data:=.seq vs.toArray }->IntsAre vs ns->ns.length<=n->s₁.gens=#[] ->
   codeAny (model l.prog w) callerA (.call (.ref fa) ⟨[.ref a],[]⟩) (λr s'=>r=.ok (.ret (.bool true))/\OldK s₁.heap s'.heap/\s'.os=s₁.os/\AllBare s'.gens) s₁) :
  WalkO q loose XP YP l.row.toRowW d [] (λf vs=>PySem.call f vs):=by
 intro w s₀ s₁ mg mb G Y fa o pm cd doc dV kV ho hd hcd hD hmg hg args vals as hpre hlay hrd hwl hlo;obtain rfl:dV=.none:=Dflts.none hD hdf;obtain rfl:kV=.none:=Dflts.noKw hD;obtain⟨a,vs,ns,rfl,rfl,hobj,hints,hlen⟩:=tw hn hpre hwl;refine enter_call (codeAny_mono (call w s₀ s₁ mg mb fa o pm cd doc a vs ns G Y ho (fd_plain hd) hcd hmg hobj hints hlen hg) λr s' hq=>?_);obtain⟨rfl,h2,h3,h4⟩:=hq;exact⟨.inl ⟨.bool true,.bool true,[],rfl,λ_=>rfl,.bool true,tz l _,λ_=>⟨List.Pairwise.nil,λ_ hm=>(nomatch hm)⟩⟩,h2,h3,h4⟩

section
variable {prog:Program}{w:World}{A:Around}{E:Value->Shared->Prop}{s:Shared}{K:Frag}

end
end Att

namespace L2
open PySem PySem.Spec PyProof.Rows

theorem kS:∀ {vs:List Value} {ns:List Int},IntsAre vs ns->Vals (ns.map V.int) vs
 | _,_,.nil=>.nil
 | _,_,.cons n t h=>.cons ⟨t,rfl⟩ (kS h)

def Ek (H:Hp):Prop:=∀ b,H b=none\/∃ o xs,H b=some (.frz o (.lst xs))

theorem uA {P:Program}{w:World}{K:PySem.W.Frag}{mg mb:Str->Option Value}{CX:tj}{k:Nat}{fa a:Addr}{fd:FuncData}{x:Str}{sp:Sp}{s₁:Shared}{vs:List Value}{ns:List Int}
  (KX:K.In s₁.heap) (hns:s₁.heap.Ns mainGlobals mg) (hb:s₁.heap.Ns builtinsNs mb) (hbb:∀ x:Str,x≠"__name__"->mb x=bootBuiltins x) (hlim:s₁.heap.NoLimit) (hg:s₁.gens=#[])
  (ha:s₁.heap.get? a=some { cls:=.type "list",data:=.seq vs.toArray }) (hi:IntsAre vs ns) (hl:ns.length<=sizeLine) (hr:Room k callerA)
  (F:∀ base:Heap,K.In base->base.Ns mainGlobals mg->FnOk P w K mg base CX k fa fd [x] sp) (hbind:∀ (s:Shared) (u:Value),BindsTo s fd ⟨[u],[]⟩ [(x,u)])
  (hsp:∀ H:Hp,Ek H->SqL K H a (ns.map V.int)->sp [.ref a] H (λv _=>v=.bl true) λ_ _ _=>False)
  (hCX:∀ H e s',CX [] H s₁ (λ_ _ _=>False) e s'->False) :
  codeAny (model P w) callerA (.call (.ref fa) ⟨[.ref a],[]⟩) (λr s'=>r=.ok (.ret (.bool true))/\OldK s₁.heap s'.heap/\s'.os=s₁.os/\AllBare s'.gens) s₁:=by
 have rv:=kS hi;have lenV:=hi.length
 -- from an abstract heap in which nothing but the script may be tracked
 have core:∀ H:Hp,Ek H->SqL K H a (ns.map V.int)->HOk P w H s₁.heap->(∀ b,H b≠none->b=a)->(H a≠none->K.lookup a=none) ->
   codeAny (model P w) callerA (.call (.ref fa) ⟨[.ref a],[]⟩) (λr s'=>r=.ok (.ret (.bool true))/\OldK s₁.heap s'.heap/\s'.os=s₁.os/\AllBare s'.gens) s₁:=by
  intro H hO hS hok hA hK;have base_of:∀ {b:Addr} {o:Obj},s₁.heap.get? b=some o->H b=none->(lE s₁.heap H).get? b=some o:=λe n=>ug e n;have noA:∀ {b:Addr} {o:Obj} {es:Array DictEntry} {ep:Nat},s₁.heap.get? b=some o->o.data=.dict es ep->H b=none:=λ{b o es ep} e d=>by
   cases q:H b with
   | none=>rfl
   | some u =>
    have e':b=a:=hA b (by rw[q];simp)
    subst e';rw[ha] at e;cases e;have d':Data.seq vs.toArray _=Data.dict es ep:=d;cases d'
  have nsK:∀ {b:Addr} {m:Str->Option Value},s₁.heap.Ns b m->(lE s₁.heap H).Ns b m:=λ{b m} ⟨o,es,ep,e,d,r⟩=>⟨o,es,ep,base_of e (noA e d),d,r⟩;have hKb:K.In (lE s₁.heap H):=λb o e=>base_of (KX b o e) (by
   cases q:H b with
   | none=>rfl
   | some u =>
    have e':b=a:=hA b (by rw[q];simp)
    subst e';rw[hK (by rw[q];simp)] at e;cases e)
  have hM:Mod K mg (lE s₁.heap H):=⟨hKb,nsK hns,⟨mb,nsK hb,hbb⟩,let ⟨mc,h1,h2⟩:=hlim;⟨mc,nsK h1,h2⟩⟩;have e0:Env0 P w K mg (lE s₁.heap H) callerA [] s₁ H:=⟨rfl,hM,λb o e=>Am e,Nat.le_of_eq (sP _ _),trivial,λb hb=>absurd (show b∈([]:List Addr) from hb) (by simp),hok,.of_eq hg⟩
  refine codeAny_mono ((F _ hKb (nsK hns)).run callerA [] s₁ H ⟨[.ref a],[]⟩ [.ref a] [.ref a] _ _ hr e0 (hbind s₁ (.ref a)) (.cons rfl .nil) (hsp H hO hS)) λr s' h=>?_;cases r with
  | error e=>exact (hCX H e s' h).elim
  | ok fl =>
   cases fl with
   | next=>exact False.elim h
   | brk=>exact False.elim h
   | cont=>exact False.elim h
   | ret u =>
    obtain⟨v,H',os,bare,un,hok',r',q⟩:=h;have q':v=.bl true:=q;subst q';obtain rfl:u=Value.bool true:=r';refine⟨rfl,OldK.of_keep λb o e=>?_,os,bare⟩;cases q:H b with
    | none=>exact un.keep b o e q (by intro z;exact absurd (show b∈([]:List Addr) from z) (by simp)) (by simp)
    | some u =>
     rcases hO b with z|⟨ob,xs,z⟩
     ·rw[q] at z;cases z
     ·have z2:=un.frzs b ob _ z
      obtain⟨e1,_⟩:=hok b _ z;obtain⟨e2,_⟩:=hok' b _ z2;rw[e] at e1;cases e1;exact e2
 cases hk:K.lookup a with
 | some o =>
  -- the script is one of the module's own objects
  have e:=KX a o hk;rw[ha] at e;cases e;refine core (λ_=>none) (λ_=>.inl rfl) (.inr ⟨_,vs.toArray,_,hk,rfl,rfl,rfl,by rw[List.size_toArray,lenV];exact hl,by simpa using rv⟩) (λb u z=>by have z':(none:Option HO)=some u:=z;cases z') (λb z=>absurd rfl z) λz=>absurd rfl z
 | none =>
  refine core (λb=>if b=a then some (.frz { cls:=.type "list",data:=.seq vs.toArray } (.lst (ns.map V.int))) else none) (λb=>?_) (.inl (.inr ⟨{ cls:=.type "list",data:=.seq vs.toArray },if_pos rfl⟩)) (λb u z=>?_) (λb z=>?_) λ_=>hk
  ·by_cases hb:b=a
   ·exact .inr ⟨_,_,if_pos hb⟩
   ·exact .inl (if_neg hb)
  ·by_cases hb:b=a
   ·have z':=(if_pos hb).symm.trans z
    cases z';subst hb;exact⟨ha,by rw[List.length_map];exact hl,vs,_,rv,ha⟩
   ·have z':=(if_neg hb).symm.trans z
    cases z'
  ·by_cases hb:b=a
   ·exact hb
   ·exact absurd (if_neg hb) z
end L2

namespace L2
open PySem PySem.Spec PyProof.Rows

theorem walk_of {l:PySem.W.OpenLaw}{n k:Nat}{q:Program}{loose:List Str}{XP:(Str->Option Value)->Heap->Prop}{YP:World->Heap->Prop}{d:DefRec}{K:Params->PySem.W.Frag}{CX:World->tj}{sp:World->Sp}{x:Str}
  (hn:l.most=some n) (hn2:n<=sizeLine) (hdf:d.params.defaults=[]) (hr:Room k callerA)
  (hY:∀ (w:World) (h:Heap),YP w h->(K w.params).In h)
  (F:∀ (w:World) (mg:Str->Option Value) (fa:Addr) (h:Heap),(K w.params).In h->h.Ns mainGlobals mg->mg d.name=some (.ref fa) ->
   ∃ fd:FuncData,(∀ (s:Shared) (u:Value),BindsTo s fd ⟨[u],[]⟩ [(x,u)]) /\
    ∀ base:Heap,(K w.params).In base->base.Ns mainGlobals mg->FnOk l.prog w (K w.params) mg base (CX w) k fa fd [x] (sp w))
  (hsp:∀ (w:World) (H:Hp) (a:Addr) (ns:List Int),ns.length<=n->Ek H->SqL (K w.params) H a (ns.map V.int)->sp w [.ref a] H (λv _=>v=.bl true) λ_ _ _=>False)
  (hCX:∀ (w:World) (H:Hp) (s:Shared) (e:Value) (s':Shared),CX w [] H s (λ_ _ _=>False) e s'->False) :
  PySem.W.WalkO q loose XP YP l.row.toRowW d [] (λf vs=>PySem.call f vs):=by
 refine Att.attach_call hn hdf λw s₀ s₁ mg mb fa o pm cd doc a vs ns G Y ho hd hcd hmg hobj hints hlen hg=>?_;have KX:=hY w _ Y;obtain⟨fd,hb,hF⟩:=F w mg fa _ KX G.T.g hmg;exact uA KX G.T.g G.T.b G.T.builtins G.T.nolimit hg hobj hints (Nat.le_trans hlen hn2) hr hF hb (λH hO hS=>hsp w H a ns hlen hO hS) λH e s'=>hCX w H s₁ e s'
end L2

namespace L2
open PySem PySem.Spec PyProof.Rows

def aI (s:Stmt):Arguments:=match s with
 | .FunctionDef _ a _ _ _ _ _ _ _ _=>a
 | _=>{ posonlyargs:=[],args:=[],vararg:=none,kwonlyargs:=[],kw_defaults:=[],kwarg:=none,defaults:=[] }
def ao (s:Stmt):List Stmt:=match s with
 | .FunctionDef _ _ b _ _ _ _ _ _ _=>b
 | _=>[]
def af (s:Stmt):Scope:=match s with
 | .FunctionDef _ _ _ _ _ _ sc _ _ _=>sc
 | _=>{ kind:=.function,names:=[],isGenerator:=false,isCoroutine:=false }

abbrev qd:tj:=λ_ _ _ _ _ _=>False
abbrev E0:XK:=λ_ _ _=>False
theorem Cu {X:Cx}:ql qd X E0:=λ_ _ _ _ _ _ _ h=>h.elim

structure Fun (K:PySem.W.Frag)(x qual:Str)(st:Stmt)(f:Addr)(fd:FuncData):Prop where
 ex:∃ (oc:Value) (od:Option Addr) (kV doc pm:Value) (an:Option Addr) (cdv ct:Value) (osl:Array (Option Value)),
  fd=PySem.W.fnOf x qual (aI st) (ao st) (af st) .none kV doc pm an cdv ct/\K.lookup f=some ⟨oc,od,.func fd,osl⟩/\PySem.W.codeIn K cdv qual=true
 kp:PySem.W.keepIn K (.ref f)=true
section
variable {P:Program}{w:World}{K:PySem.W.Frag}{mg:Str->Option Value}{base:Heap}
theorem Fun.ok {x qual:Str}{st:Stmt}{f:Addr}{fd:FuncData}{N ps:List Str}{k:Nat}{sp:Sp}(F:Fun K x qual st f fd)(S:FnScope N ps (af st))(len:∀ vs H Q E,sp vs H Q E->vs.length=ps.length)
  (hbody:∀ (cdv:Value) (A:Around) (outer:List Env) (s:Shared) (H:Hp) (vs:List V) (Q:VK) (E:XK),Room k (A.deeper (envOfC qual (af st) s.heap.objs.size f cdv))->sp vs H Q E ->
   ∃ t,PSs (nM qd P w K mg base N qual (af st) f cdv A outer s H E).nox (ao st) t/\t { nx:=λ_ H'=>Q .non H',rt:=Q } (start N vs) H):FnOk P w K mg base qd (k+1) f fd ps sp:=by
 obtain⟨oc,od,kV,doc,pm,an,cdv,ct,osl,rfl,lk,hcd⟩:=F.ex;refine LO lk hcd S len λA outer s H vs Q E hr hsp=>?_;obtain⟨t,h,q⟩:=hbody cdv A outer s H vs Q E hr hsp;exact⟨t,h.nox,q⟩
theorem Fun.binds {x qual:Str}{st:Stmt}{f:Addr}{fd:FuncData}{ps:List Str}(F:Fun K x qual st f fd)
  (h:∀ (kV doc pm:Value) (an:Option Addr) (cdv ct:Value) (us:List Value),us.length=ps.length->bindArgs (PySem.W.fnOf x qual (aI st) (ao st) (af st) .none kV doc pm an cdv ct) ⟨us,[]⟩=pure (ps.zip us)):Binds K fd ps []:=by
 obtain⟨oc,od,kV,doc,pm,an,cdv,ct,osl,rfl,lk,hcd⟩:=F.ex;exact .all (h kV doc pm an cdv ct)
theorem bb {x qual:Str}{st:Stmt}{f:Addr}{oc:Value}{od an:Option Addr}{osl:Array (Option Value)}{kV doc pm cdv ct:Value}(l:K.lookup f=some ⟨oc,od,.func (PySem.W.fnOf x qual (aI st) (ao st) (af st) .none kV doc pm an cdv ct),osl⟩)
  (c:PySem.W.codeIn K cdv qual=true) (k:PySem.W.keepIn K (.ref f)=true):Fun K x qual st f (PySem.W.fnOf x qual (aI st) (ao st) (af st) .none kV doc pm an cdv ct):=⟨⟨oc,od,kV,doc,pm,an,cdv,ct,osl,rfl,l,c⟩,k⟩
end
section
variable {X:Cx}
end

def Same (H H':Hp):Prop:=∀ b o,H b=some o->H' b=some o
theorem Same.refl (H:Hp):Same H H:=λ_ _ h=>h
theorem Same.trans {H H1 H2:Hp}(a:Same H H1)(b:Same H1 H2):Same H H2:=λc o h=>b c o (a c o h)
theorem Same.free {H H':Hp}(e:Same H H'){l:Addr}(h:H' l=Option.none):H l=Option.none:=by
 cases q:H l with
 | none=>rfl
 | some o =>
  rw[e l o q] at h;cases h
theorem Same.seq {K:PySem.W.Frag}{H H':Hp}{a:Addr}{xs:List V}(e:Same H H')(h:SqL K H a xs):SqL K H' a xs:=by
 rcases h with (h|⟨o,h⟩)|h
 ·exact .inl (.inl (e _ _ h))
 ·exact .inl (.inr ⟨o,e _ _ h⟩)
 ·exact .inr h

end L2

namespace L2
open PySem PySem.Spec PyProof.Rows

section
variable {κ:Type}[DecidableEq κ]
def cv (kvs:List (κ×V))(k:κ):Option V:=(kvs.find? λkv=>decide (kv.1=k)).map (·.2)
def dG (kvs:List (κ×V))(k:κ)(v:V):List (κ×V) :=
 if (kvs.any λkv=>decide (kv.1=k))=true then kvs.map (λkv=>if kv.1=k then (kv.1,v) else kv) else kvs++[(k,v)]
theorem fM {p:κ×V}{r:List (κ×V)}{k:κ}(e:p.1=k):cv (p::r) k=some p.2:=by simp [cv,List.find?_cons,e]
theorem fN {p:κ×V}{r:List (κ×V)}{k:κ}(e:¬ p.1=k):cv (p::r) k=cv r k:=by simp [cv,List.find?_cons,e]
theorem jB (k:κ):∀ kvs:List (κ×V),(kvs.any λkv=>decide (kv.1=k))=(cv kvs k).isSome
 | []=>rfl
 | p::r=>by
  rw[List.any_cons]
  by_cases e:p.1=k
  ·simp only[fM e,decide_eq_true e,Bool.true_or,Option.isSome_some]
  ·rw[fN e,decide_eq_false e,Bool.false_or];exact jB k r
theorem eJ (kvs:List (κ×V))(k:κ)(v:V):(dG kvs k v).length<=kvs.length+1:=by
 unfold dG
 split
 ·rw[List.length_map];omega
 ·rw[List.length_append,List.length_cons,List.length_nil];omega
theorem uB {kvs:List (κ×V)}{k:κ}(v:V)(h:cv kvs k=none):dG kvs k v=kvs++[(k,v)]:=by
 unfold dG;rw[jB,h];exact if_neg (by decide)

theorem RelO.isSome_eq {o:Option V}{u:Option Value}(r:RelO o u):o.isSome=u.isSome:=by
 cases o with
 | none=>cases u with
  | none=>rfl
  | some _=>exact (show False from r).elim
 | some _=>cases u with
  | none=>exact (show False from r).elim
  | some _=>rfl
theorem RelO.getD {o:Option V}{u:Option Value}{d:V}{d':Value}(r:RelO o u)(rd:RelV d d'):RelV (o.getD d) (u.getD d'):=by
 cases o with
 | none=>cases u with
  | none=>exact rd
  | some _=>exact (show False from r).elim
 | some _=>cases u with
  | none=>exact (show False from r).elim
  | some _=>exact r

theorem KV.val {kvs:List (κ×V)}{vs:List (κ×Value)}(r:KV kvs vs)(k:κ):RelO (cv kvs k) (valueAt vs k):=by
 unfold KV at r
 induction r with
 | nil=>exact True.intro
 | @cons p q ps qs h t ih =>
  obtain⟨h1,h2⟩:=h
  by_cases e:p.1=k
  ·have e':q.1=k:=h1.symm.trans e
   have b:valueAt (q::qs) k=some q.2:=by simp [valueAt,List.find?_cons,e']
   rw[fM e,b];exact h2
  ·have e':¬ q.1=k:=λz=>e (h1.trans z)
   have b:valueAt (q::qs) k=valueAt qs k:=by simp [valueAt,List.find?_cons,e']
   rw[fN e,b];exact ih
theorem KV.any {kvs:List (κ×V)}{vs:List (κ×Value)}(r:KV kvs vs)(k:κ):(kvs.any λkv=>decide (kv.1=k))=vs.any λkv=>decide (kv.1=k):=by
 unfold KV at r
 induction r with
 | nil=>rfl
 | cons h t ih=>rw[List.any_cons,List.any_cons,ih,h.1]
theorem KV.repl {kvs:List (κ×V)}{vs:List (κ×Value)}(r:KV kvs vs)(k:κ){y:V}{u:Value}(ry:RelV y u) :
  KV (kvs.map λkv=>if kv.1=k then (kv.1,y) else kv) (vs.map λkv=>if kv.1=k then (kv.1,u) else kv):=by
 unfold KV at r ⊢
 induction r with
 | nil=>exact .nil
 | @cons p q ps qs h t ih =>
  rw[List.map_cons,List.map_cons];refine .cons ?_ ih;obtain⟨h1,h2⟩:=h
  by_cases e:p.1=k
  ·rw[if_pos e,if_pos (h1.symm.trans e)];exact⟨h1,ry⟩
  ·rw[if_neg e,if_neg (λz=>e (h1.trans z))];exact⟨h1,h2⟩
theorem KV.put {kvs:List (κ×V)}{vs:List (κ×Value)}(r:KV kvs vs)(k:κ){y:V}{u:Value}(ry:RelV y u):KV (dG kvs k y) (stored vs k u):=by
 unfold dG stored;rw[r.any k]
 by_cases e:(vs.any λkv=>decide (kv.1=k))=true
 ·rw[if_pos e,if_pos e];exact r.repl k ry
 ·rw[if_neg e,if_neg e];exact Paired.snoc r ⟨rfl,ry⟩
theorem KV.length {kvs:List (κ×V)}{vs:List (κ×Value)}(r:KV kvs vs):kvs.length=vs.length:=Paired.length r
end


theorem rF {P:Program}{w:World}{k:bw}{u:Value}(r:RelV (kV k) u):(bH P w).is k u=true:=by
 cases k with
 | inl i=>obtain⟨t,e⟩:=(show ∃ t,u=Value.int i t from r);subst e;exact nH P w i t
 | inr x=>obtain⟨t,e⟩:=(show ∃ t,u=Value.str x t from r);subst e;exact nJ P w x t
theorem kT {P:Program}{w:World}:∀ {ks:List bw} {us:List Value},Vals (ks.map kV) us->ItemsAre (bH P w) ks us
 | [],_,r=>by rw[List.map_nil] at r;cases r;exact .nil
 | k::ks,_,r=>by
  rw[List.map_cons] at r;cases r with
  | cons h t=>exact .cons (rF h) (kT t)

abbrev KT (H:Hp):List (List bw×V)->List (List bw×Addr×Value)->Prop:=Paired λp q=>p.1=q.1/\H q.2.1=some (.tup (p.1.map kV))/\RelV p.2 q.2.2
theorem KT.val {H:Hp}{kvs:List (List bw×V)}{xs:List (List bw×Addr×Value)}(r:KT H kvs xs)(k:List bw):RelO (cv kvs k) ((atKey xs k).map (·.2)):=by
 induction r with
 | nil=>exact True.intro
 | @cons p q ps qs h t ih =>
  obtain⟨h1,_,h2⟩:=h
  by_cases e:p.1=k
  ·have e':q.1=k:=h1.symm.trans e
   have b:atKey (q::qs) k=some q.2:=by simp [atKey,List.find?_cons,e']
   rw[fM e,b];exact h2
  ·have e':¬ q.1=k:=λz=>e (h1.trans z)
   have b:atKey (q::qs) k=atKey qs k:=by simp [atKey,List.find?_cons,e']
   rw[fN e,b];exact ih
theorem KT.repl {H:Hp}{kvs:List (List bw×V)}{xs:List (List bw×Addr×Value)}(r:KT H kvs xs)(k:List bw){y:V}{u:Value}(ry:RelV y u) :
  KT H (kvs.map λkv=>if kv.1=k then (kv.1,y) else kv) (xs.map (putAt k u)):=by
 induction r with
 | nil=>exact .nil
 | @cons p q ps qs h t ih =>
  rw[List.map_cons,List.map_cons];refine .cons ?_ ih;obtain⟨h1,h2,h3⟩:=h;unfold putAt
  by_cases e:p.1=k
  ·rw[if_pos e,if_pos (h1.symm.trans e)];exact⟨h1,h2,ry⟩
  ·rw[if_neg e,if_neg (λz=>e (h1.trans z))];exact⟨h1,h2,h3⟩
theorem KT.put {H:Hp}{kvs:List (List bw×V)}{xs:List (List bw×Addr×Value)}(r:KT H kvs xs)(k:List bw){b:Addr}{y:V}{u:Value}(hb:H b=some (.tup (k.map kV)))(ry:RelV y u) :
  KT H (dG kvs k y) (storedH xs k b u):=by
 have e:(kvs.any λkv=>decide (kv.1=k))=(atKey xs k).isSome:=by
  rw[jB,(r.val k).isSome_eq,Option.isSome_map]
 unfold dG storedH;rw[e]
 by_cases q:(atKey xs k).isSome=true
 ·rw[if_pos q,if_pos q];exact r.repl k ry
 ·rw[if_neg q,if_neg q];exact Paired.snoc r ⟨rfl,hb,ry⟩
theorem KT.keeps {H H':Hp}{kvs:List (List bw×V)}{xs:List (List bw×Addr×Value)}(r:KT H kvs xs)(ht:∀ b ys,H b=some (.tup ys)->H' b=some (.tup ys)):KT H' kvs xs :=
 Paired.mapP r λ_ _ z=>⟨z.1,ht _ _ z.2.1,z.2.2⟩

section
variable {P:Program}{w:World}{H:Hp}{h:Heap}{a:Addr}
theorem Cv {u:HO}(ok:HOk P w H h)(e:Rd H a u):ObjOk P w H h a u:=e.ok ok
theorem nU {kvs:List (bw×V)}(ok:HOk P w H h)(e:Rd H a (.dK kvs)):kvs.length<=sizeLine/\(a==sysModules)=false/\∃ vs,KV kvs vs/\h.DictOf (bH P w) a vs :=
 show ObjOk P w H h a (.dK kvs) from Cv ok e
theorem LV {kvs:List (bw×V)}(ok:HOk P w H h)(e:H a=some (.dK kvs)):kvs.length<=sizeLine/\(a==sysModules)=false/\∃ vs,KV kvs vs/\h.DictOf (bH P w) a vs:=nU ok (.inl e)
theorem jC {ks:List bw}(ok:HOk P w H h)(e:H a=some (.tup (ks.map kV))):(tupleKind (bH P w)).is h ks a:=by
 obtain⟨_,its,r,o,h1,h2,n,h3⟩:=(show ObjOk P w H h a (.tup (ks.map kV)) from ok a _ e)
 exact⟨o,its.toArray,n,h1,h2,h3,by simpa using kT r⟩
theorem kU {kvs:List (List bw×V)}(ok:HOk P w H h)(e:Rd H a (.dT kvs)):kvs.length<=sizeLine/\(a==sysModules)=false /\
  ∃ xs,KT H kvs xs/\h.DictOfH (tupleKind (bH P w)) a xs:=by
 obtain⟨z,y,xs,r,o,es,ep,h1,h2,h3,h4,h5⟩:=(show ObjOk P w H h a (.dT kvs) from Cv ok e)
 refine⟨z,y,xs,r,o,es,ep,h1,h2,h3,h4,λx hx=>?_,h5⟩;have all:∀ {l:List (List bw×V)} {m:List (List bw×Addr×Value)},KT H l m->∀ x∈m,(tupleKind (bH P w)).is h x.1 x.2.1:=by
  intro l m q
  induction q with
  | nil=>intro x hx;exact nomatch hx
  | @cons p q ps qs hq t ih =>
   intro x hx;rcases List.mem_cons.mp hx with e|hx
   ·subst e
    exact jC ok (by rw[<- hq.1];exact hq.2.1)
   ·exact ih x hx
 exact all r x hx
theorem Cw {kvs:List (List bw×V)}(ok:HOk P w H h)(e:H a=some (.dT kvs)):kvs.length<=sizeLine/\(a==sysModules)=false /\
  ∃ xs,KT H kvs xs/\h.DictOfH (tupleKind (bH P w)) a xs:=kU ok (.inl e)
end

def DGet (H:Hp)(a:Addr)(y:V)(r:Option V):Prop :=
 (∃ kvs k,Rd H a (.dK kvs)/\y=kV k/\r=cv kvs k)\/∃ kvs k b,Rd H a (.dT kvs)/\y=.ref b/\H b=some (.tup (k.map kV))/\r=cv kvs k
def DPut (H:Hp)(a:Addr)(y v:V)(H':Hp):Prop :=
 (∃ kvs k,H a=some (.dK kvs)/\y=kV k/\kvs.length < sizeLine/\H'=bz H a (.dK (dG kvs k v))) \/
 ∃ kvs k b,H a=some (.dT kvs)/\y=.ref b/\H b=some (.tup (k.map kV))/\kvs.length < sizeLine/\H'=bz H a (.dT (dG kvs k v))
theorem DGet.t {H:Hp}{a b:Addr}{kvs:List (List bw×V)}{k:List bw}(e:H a=some (.dT kvs))(eb:H b=some (.tup (k.map kV))):DGet H a (.ref b) (cv kvs k):=.inr ⟨kvs,k,b,.inl e,rfl,eb,rfl⟩
theorem DPut.t {H:Hp}{a b:Addr}{kvs:List (List bw×V)}{k:List bw}{v:V}(e:H a=some (.dT kvs))(eb:H b=some (.tup (k.map kV)))(hl:kvs.length < sizeLine) :
  DPut H a (.ref b) v (bz H a (.dT (dG kvs k v))):=.inr ⟨kvs,k,b,e,rfl,eb,hl,rfl⟩


section
variable {X:Cx}{pins:List (Addr×Obj)}{σ:St}{H:Hp}{s:Shared}{a:Addr}{y v:V}{u r:Value}{o:Option V}{A:Around}{E:Value->Shared->Prop}

theorem Inv.big (I:Inv X pins σ H s):sysModules < s.heap.objs.size:=by
 have h:mainGlobals < s.heap.objs.size:=(I.mod.glob.keeps I.bk).lt;exact Nat.lt_trans (by decide) h

theorem tB {Q:Value->Shared->Prop}(hu:A.units+1 < cLine)(I:Inv X pins σ H s)(g:DGet H a y (some v))(ry:RelV y u)(h:∀ w' s',Inv X pins σ H s'->RelV v w'->Q w' s') :
  wpAny (model X.prog X.w) A (getItem (.ref a) u) Q E s:=by
 rcases g with ⟨kvs,k,e,ey,l⟩|⟨kvs,k,b,e,ey,eb,l⟩
 ·subst ey
  obtain⟨z,hd,vs,rel,dd⟩:=nU I.hok e;obtain⟨w',hw,rw'⟩:=RelO.some_of (v:=v) (o:=valueAt vs k) (by rw[l];exact rel.val k)
  exact wpAny_getItem_of (rF ry) dd.mapOf hw (h w' _ (I.tok _) rw')
 ·subst ey
  cases (show u=Value.ref b from ry)
  obtain⟨z,hd,xs,rel,dd⟩:=kU I.hok e;obtain⟨w',hw,rw'⟩:=RelO.some_of (v:=v) (o:=(atKey xs k).map (·.2)) (by rw[l];exact rel.val k)
  obtain⟨p,hp,hp2⟩:=Option.map_eq_some_iff.mp hw;refine wpAny_getItem_heap (tupleKind_room_in1 hu) (jC I.hok eb) dd hp ?_;rw[hp2];exact h w' _ (I.tok _) rw'
theorem lM {h':Heap}{t':Nat}{ob:HO}(I:Inv X pins σ H s)(mu:Lr (H a))(hs:Heap.SameBut a s.heap h')(he:∃ q,h'.get? a=some q)(new:ObjOk X.prog X.w (bz H a ob) h' a ob) :
  Inv X pins σ (bz H a ob) { s with heap:=h',toks:=t' } :=
 I.write (x:=a) (e:=a) mu (.inl rfl) (λb q hb z=>(hs.2 b hb).trans z) he new
theorem El {P:Program}{w:World}{H':Hp}{h':Heap}{kvs:List (bw×V)}{vs:List (bw×Value)}(z:kvs.length<=sizeLine)(hd:(a==sysModules)=false)(rel:KV kvs vs)(dd:h'.DictOf (bH P w) a vs) :
  ObjOk P w H' h' a (.dK kvs):=⟨z,hd,vs,rel,dd⟩
theorem tD {H':Hp}{Q:Unit->Shared->Prop}(hu:A.units+1 < cLine)(I:Inv X pins σ H s)(g:DPut H a y v H')(ry:RelV y u)(rv:RelV v r)(h:∀ s',Inv X pins σ H' s'->Q () s') :
  wpAny (model X.prog X.w) A (setItem (.ref a) u r) Q E s:=by
 rcases g with ⟨kvs,k,e,ey,l,eH⟩|⟨kvs,k,b,e,ey,eb,l,eH⟩
 ·subst ey eH
  obtain⟨z,hd,vs,rel,dd⟩:=LV I.hok e;have hz:vs.length<=sizeLine:=by rw[<- rel.length];exact z
  have hl:(dG kvs k v).length<=sizeLine:=by have:=eJ kvs k v;omega
  refine wpAny_setItem_pairs (hsz:=hz) (rF ry) dd λh' dd' hs=>h _ ?_;have he:∃ q,h'.get? a=some q:=let ⟨q,_,_,hq,_⟩:=dd';⟨q,hq⟩;exact lM I (by rw[e];exact True.intro) hs he (El hl hd (rel.put k rv) dd')
 ·subst ey eH
  cases (show u=Value.ref b from ry)
  obtain⟨z,hd,xs,rel,dd⟩:=Cw I.hok e;have hz:xs.length<=sizeLine:=by rw[<- Paired.length rel];exact z
  have hl:(dG kvs k v).length<=sizeLine:=by have:=eJ kvs k v;omega
  refine wpAny_setItem_heap (hsz:=hz) (tupleKind_room_in1 hu) (jC I.hok eb) dd λh' dd' hs=>h _ ?_;obtain⟨q,es,ep,hq,h2,h3,h4,_,h5⟩:=dd';refine lM I (by rw[e];exact True.intro) hs ⟨q,hq⟩ ⟨hl,hd,_,(rel.put k eb rv).keeps λc ys ec=>?_,q,es,ep,hq,h2,h3,h4,h5⟩
  rw[am (Cr ec e (λz=>nomatch z))];exact ec
end

section
variable {X:Cx}{pins:List (Addr×Obj)}{σ:St}{H:Hp}{s:Shared}{a:Addr}{kvs:List (bw×V)}{k:bw}{u:Value}{A:Around}{E:Value->Shared->Prop}
end


def Em (i:Expr):Prop:=∀ ov iv,subscripted i false ov iv=operate [ov,iv] (getItem ov iv)
theorem AN {prog:Program}{w:World}{A:Around}{E:Value->Shared->Prop}{s:Shared}{env:Env}{value slice:Expr}{pos:Pos}{T id:String}{Q:Value->Shared->Prop}
  (hl:typeLookup (.type T) "__getitem__"=pure (some (.builtin id))) (hs:Em slice)
  (h:wpAny (model prog w) A (eval value env) (λo s₁=>wpAny (model prog w) A (eval slice env) (λi s₂=>s₂.TypeIs o T/\wpAny (model prog w) A (getItem o i) Q E s₂) E s₁) E s) :
  wpAny (model prog w) A (eval (.Subscript value slice pos) env) Q E s:=by
 refine Subscript_ (wpAny_mono h (λo s₁ h₁=>wpAny_mono h₁ (λi s₂ h₂=>?_) λ_ _ x=>x) λ_ _ x=>x);obtain⟨hT,h₂⟩:=h₂;unfold subscriptTail;refine wpAny_bind ?_;rw[getitemInPython_of_ne hT.not_modules];refine wpAny_bind (wpAny_specialOf hT hl ?_);have fin:wpAny (model prog w) A (subscripted slice false o i) (λr s₃=>wpAny (model prog w) A (letTemporaryGo value o r >>= λ_=>pure r) Q E s₃) E s₂:=by
  rw[hs o i];exact wpAny_operating (wpAny_mono h₂ (λr s₃ h₃=>wpAny_bind (wpAny_letTemporaryGo (wpAny_pure h₃))) λ_ _ x=>x)
 first
  | exact wpAny_pure (wpAny_bind fin)
  | exact wpAny_bind (wpAny_pure (wpAny_bind fin))
  | exact wpAny_bind fin

theorem nV {X:Cx}{pins:List (Addr×Obj)}{σ:St}{H:Hp}{s:Shared}{a:Addr}{y:V}{o:Option V}(I:Inv X pins σ H s)(g:DGet H a y o):s.TypeIs (.ref a) "dict":=by
 rcases g with ⟨kvs,k,e,_,_⟩|⟨kvs,k,b,e,_,_,_⟩
 ·obtain⟨_,_,vs,_,dd⟩:=nU I.hok e
  exact dd.typeIs
 ·obtain⟨_,_,xs,_,dd⟩:=kU I.hok e
  exact dd.typeIs
def LW (td ty:TE):TE:=λσ H Q=>td σ H λx H1=>ty σ H1 λy H2=>∃ a v,x=.ref a/\DGet H2 a y (some v)/\Q v H2
def LX (td ty tv:TE):TS:=λD σ H=>tv σ H λv H1=>td σ H1 λx H2=>ty σ H2 λy H3=>∃ a H4,x=.ref a/\DPut H3 a y v H4/\D.nx σ H4
section
variable {X:Cx}{o i e value:Expr}{pos pos' tpos:Pos}{td ty tv:TE}
theorem AO (hu:X.A.units+1 < cLine)(ho:PE X o td)(hi:PE X i ty)(hs:Em i):PE X (.Subscript o i pos) (LW td ty):=by
 intro pins s σ H Q I h;refine AN PySem.F.slot_dict_getitem.lookup hs (bT (ho pins s σ H _ I h) λu s1 ⟨x,H1,I1,rx,q1⟩=>bT (hi pins s1 σ H1 _ I1 q1) λiv s2 ⟨y,H2,I2,ry,a,v,ex,g,q2⟩=>?_);subst ex;obtain rfl:u=Value.ref a:=rx;exact⟨nV I2 g,tB hu I2 g ry λw' s3 I3 rw'=>⟨v,H2,I3,rw',q2⟩⟩
theorem AQ (hu:X.A.units+1 < cLine)(ho:PE X o td)(hi:PE X i ty)(hv:PE X value tv)(hs:swapsWith value (some (.Subscript o i pos')) pos.line X.env=pure false) :
  PS X (.Assign [.Subscript o i pos'] value pos) (LX td ty tv):=by
 intro pins s σ H D I h;refine wpAny_Assign_Subscript (bT (hv pins s σ H _ I h) λr s1 ⟨v,H1,I1,rv,q1⟩=>bT (ho pins s1 σ H1 _ I1 q1) λu s2 ⟨x,H2,I2,rx,q2⟩=>bT (hi pins s2 σ H2 _ I2 q2) λiv s3 ⟨y,H3,I3,ry,a,H4,ex,g,q3⟩=>?_) hs;subst ex;obtain rfl:u=Value.ref a:=rx;exact tD hu I3 g ry rv λs4 I4=>⟨σ,H4,I4,q3⟩
end


theorem uC {P:Program}{w:World}{H:Hp}(h:Heap)(hb:sysModules < h.objs.size):ObjOk P w H (h.push { cls:=.type "dict",data:=.dict #[] }) h.objs.size (.dT []) :=
 ⟨Nat.zero_le _,beq_eq_false_iff_ne.mpr (Ne.symm (Nat.ne_of_lt hb)),[],.nil,_,#[],0,Heap.get?_push_size _ rfl,⟨rfl,rfl,rfl⟩,rfl,rfl,List.nodup_nil⟩
def En:TE:=λ_ H Q=>∀ p,H p=none->Q (.ref p) (bz H p (.dT []))
section
variable {X:Cx}{pos:Pos}
theorem nW:PE X (.Dict [] [] pos) En:=λpins s σ H Q I h =>
 wpAny_Dict_empty ⟨.ref s.heap.objs.size,_,I.laid (a:=s.heap.objs.size) (o:=.dT []) (t':=s.toks) (λ_ _ q=>Heap.get?_push_of_some _ q) (Nat.le_refl _) (uC s.heap I.big),rfl,h _ (I.hok.fresh (Nat.le_refl _))⟩
end

def lN:List (TE×TE)->St->Hp->(List (V×V)->Hp->Prop)->Prop
 | [],_,H,Q=>Q [] H
 | (tk,tv)::r,σ,H,Q=>tk σ H λx H1=>tv σ H1 λy H2=>lN r σ H2 λps H3=>Q ((x,y)::ps) H3
structure M1 (X:Cx)(o:Expr)(m:Str)(apos:Pos)(e:Expr)(cpos:Pos):Prop where
 base:attributeBase o m X.env (eval o X.env)=eval o X.env
 few:((backTo cpos (starEach [e] X.env)).all (λx=>!x.1)&&(backToKw cpos (keywordEach [] X.env)).all (λx=>x.1.isSome)
 &&decide (([e]:List Expr).length+([]:List Keyword).length+(if ([]:List Keyword).isEmpty then 0 else 1) < 30))=true
 line:(apos.endLine==cpos.line)=true
 trees:backTo cpos (starEach [e] X.env)=[(false,eval e X.env)]
structure M2 (X:Cx)(o:Expr)(m:Str)(apos:Pos)(e f:Expr)(cpos:Pos):Prop where
 base:attributeBase o m X.env (eval o X.env)=eval o X.env
 few:((backTo cpos (starEach [e,f] X.env)).all (λx=>!x.1)&&(backToKw cpos (keywordEach [] X.env)).all (λx=>x.1.isSome)
 &&decide (([e,f]:List Expr).length+([]:List Keyword).length+(if ([]:List Keyword).isEmpty then 0 else 1) < 30))=true
 line:(apos.endLine==cpos.line)=true
 trees:backTo cpos (starEach [e,f] X.env)=[(false,eval e X.env),(false,eval f X.env)]

def QW (H:Hp)(a:Addr):Prop:=(∃ kvs,Rd H a (.dK kvs))\/∃ kvs,Rd H a (.dT kvs)
theorem Eo {X:Cx}{pins:List (Addr×Obj)}{σ:St}{H:Hp}{s:Shared}{a:Addr}(I:Inv X pins σ H s)(d:QW H a) :
  s.TypeIs (.ref a) "dict"/\(∀ b,Value.ref a=.ref b->∃ ob,s.heap.get? b=some ob/\ob.dict=none)/\(a==sysModules)=false:=by
 rcases d with ⟨kvs,e⟩|⟨kvs,e⟩
 ·obtain⟨_,hd,vs,_,dd⟩:=nU I.hok e
  refine⟨dd.typeIs,λb q=>?_,hd⟩;cases q;obtain⟨ob,_,_,h1,h2,_⟩:=dd;exact⟨ob,h1,h2.2.1⟩
 ·obtain⟨_,hd,xs,_,dd⟩:=kU I.hok e
  refine⟨dd.typeIs,λb q=>?_,hd⟩;cases q;obtain⟨ob,_,_,h1,h2,_⟩:=dd;exact⟨ob,h1,h2.2.1⟩

section
variable {X:Cx}{pins:List (Addr×Obj)}{σ:St}{H:Hp}{s:Shared}{a:Addr}{y d:V}{u r:Value}{o:Option V}{A:Around}{E:Value->Shared->Prop}
theorem Ep {Q:Value->Shared->Prop}(hu:A.units+1 < cLine)(I:Inv X pins σ H s)(g:DGet H a y o)(ry:RelV y u)(rd:RelV d r)(h:∀ w' s',Inv X pins σ H s'->RelV (o.getD d) w'->Q w' s') :
  wpAny (model X.prog X.w) A (call (.builtin "dict.get") [.ref a,u,r]) Q E s:=by
 rcases g with ⟨kvs,k,e,ey,l⟩|⟨kvs,k,b,e,ey,eb,l⟩
 ·subst ey
  obtain⟨z,hd,vs,rel,dd⟩:=nU I.hok e;refine call_meetsIn PySem.F.slot_dict_get dd.typeIs PySem.F.entry_dict_get (PySem.F.args_dict_get_3 _ _ _) (meets_dict_get_default (bH X.prog X.w) a (rF ry) hd r) ⟨_,dd.mapOf,h _ _ (I.tok _) ?_⟩;rw[l];exact (rel.val k).getD rd
 ·subst ey
  cases (show u=Value.ref b from ry)
  obtain⟨z,hd,xs,rel,dd⟩:=kU I.hok e;refine call_meetsIn PySem.F.slot_dict_get dd.typeIs PySem.F.entry_dict_get (PySem.F.args_dict_get_3 _ _ _) (meetsH_dict_get_default (tupleKind (bH X.prog X.w)) a b hd r) ⟨tupleKind_room_in1 hu,k,xs,jC I.hok eb,dd,h _ _ (I.tok _) ?_⟩;rw[l];exact (rel.val k).getD rd
end

def Er (td ty tx:TE):TE:=λσ H Q=>td σ H λx H1=>∃ a,x=.ref a/\QW H1 a/\ty σ H1 λy H2=>tx σ H2 λz H3=>∃ o,DGet H3 a y o/\Q (o.getD z) H3
section
variable {X:Cx}{o e f:Expr}{apos cpos:Pos}{td ty tx:TE}
theorem uD (hu:X.A.units+1 < cLine)(ho:PE X o td)(he:PE X e ty)(hf:PE X f tx)(m:M2 X o "get" apos e f cpos):PE X (.Call (.Attribute o "get" apos) [e,f] [] cpos) (Er td ty tx):=by
 intro pins s σ H Q I h;refine wpAny_Call_method m.base m.few m.line PySem.F.plainAttrs_dict PySem.F.slot_dict_get PySem.F.type_dict_get (bT (ho pins s σ H _ I h) λu s1 ⟨x,H1,I1,rx,a,ex,d,q1⟩=>?_);subst ex;obtain rfl:u=Value.ref a:=rx;obtain⟨t1,t2,_⟩:=Eo I1 d;refine⟨t1,t2,?_⟩;rw[m.trees];refine Calls.callWith_builtin rfl (Calls.evalArgs_plain (Calls.spliced_cons (bT (he pins s1 σ H1 _ I1 q1) λiv s2 ⟨y,H2,I2,ry,q2⟩ =>
  Calls.spliced_cons (bT (hf pins s2 σ H2 _ I2 q2) λfv s3 ⟨z,H3,I3,rz,ov,g,q3⟩=>Calls.spliced_nil ?_))))
 exact Ep hu I3 g ry rz λw' s4 I4 rw'=>⟨_,H3,I4,rw',q3⟩
end

section
variable {X:Cx}{pins:List (Addr×Obj)}{σ:St}{H:Hp}{s:Shared}{a:Addr}{kvs:List (bw×V)}{A:Around}{E:Value->Shared->Prop}
end


section
variable {X:Cx}{pins:List (Addr×Obj)}{σ:St}{H:Hp}{s:Shared}{a:Addr}{y:V}{u:Value}{A:Around}{E:Value->Shared->Prop}
end
end L2


namespace Vc
open PySem L2

class KF where
 K:PySem.W.Frag
 /-- where the classes of exceptions stand -/
 cls:Str->Addr:=λ_=>0
 /-- the code tables that a lambda fills: where,as they were,the lambda's place,its name -/
 tabs:List (Addr×Array Value×Pos×Str):=[]
variable [KF]
inductive D where
 | non|bl (b:Bool)|int (i:Int)|str (x:Str)|tup (xs:List D)|lst (xs:List D)|dct (kvs:List (D×D))|exc (c:Str)
 /-- the law's own list: read,never changed -/
 | scr (ns:List Int)

def PV (a:Addr)(c:Str):HO:=.ext λh=>∃ o,h.get? a=some o/\o.cls=.ref (KF.cls c)
def kD:bw->D
 | .inl i=>.int i
 | .inr x=>.str x
mutual
inductive Rep (F:Hp):V->D->Prop where
 | non:Rep F .non .non
 | bl (b:Bool):Rep F (.bl b) (.bl b)
 | int (i:Int):Rep F (.int i) (.int i)
 | str (x:Str):Rep F (.str x) (.str x)
 | tup {a:Addr} {vs:List V} {ds:List D}:F a=some (.tup vs)->RepL F vs ds->Rep F (.ref a) (.tup ds)
 | lst {a:Addr} {vs:List V} {ds:List D}:Rd F a (.lst vs)->RepL F vs ds->Rep F (.ref a) (.lst ds)
 | scr {a:Addr} {ns:List Int}:SqL KF.K F a (ns.map V.int)->Rep F (.ref a) (.scr ns)
 | exc {a:Addr} {c:Str}:F a=some (PV a c)->Rep F (.ref a) (.exc c)
 | dctT {a:Addr} {ks:List (List bw×V)} {kvs:List (D×D)}:F a=some (.dT ks)->RepT F ks kvs->Rep F (.ref a) (.dct kvs)
inductive RepK (F:Hp):List (bw×V)->List (D×D)->Prop where
 | nil:RepK F [] []
 | cons {k:bw} {v:V} {d:D} {ks:List (bw×V)} {kvs:List (D×D)}:Rep F v d->RepK F ks kvs->RepK F ((k,v)::ks) ((kD k,d)::kvs)
inductive RepT (F:Hp):List (List bw×V)->List (D×D)->Prop where
 | nil:RepT F [] []
 | cons {k:List bw} {v:V} {d:D} {ks:List (List bw×V)} {kvs:List (D×D)}:Rep F v d->RepT F ks kvs->RepT F ((k,v)::ks) ((.tup (k.map kD),d)::kvs)
inductive RepL (F:Hp):List V->List D->Prop where
 | nil:RepL F [] []
 | cons {v:V} {d:D} {vs:List V} {ds:List D}:Rep F v d->RepL F vs ds->RepL F (v::vs) (d::ds)
end

theorem Rd.mono {F F':Hp}(s:Same F F'){a:Addr}{u:HO}(h:Rd F a u):Rd F' a u:=by
 rcases h with h|⟨o,h⟩
 ·exact .inl (s a _ h)
 ·exact .inr ⟨o,s a _ h⟩
mutual
theorem Rep.mono {F F':Hp}(s:Same F F'){v:V}{d:D}:Rep F v d->Rep F' v d
 | .non=>.non
 | .bl b=>.bl b
 | .int i=>.int i
 | .str x=>.str x
 | .tup h r=>.tup (s _ _ h) (RepL.mono s r)
 | .lst h r=>.lst (Rd.mono s h) (RepL.mono s r)
 | .scr h=>.scr (s.seq h)
 | .exc h=>.exc (s _ _ h)
 | .dctT h r=>.dctT (s _ _ h) (RepT.mono s r)
theorem RepK.mono {F F':Hp}(s:Same F F'){ks:List (bw×V)}{kvs:List (D×D)}:RepK F ks kvs->RepK F' ks kvs
 | .nil=>.nil
 | .cons h r=>.cons (Rep.mono s h) (RepK.mono s r)
theorem RepT.mono {F F':Hp}(s:Same F F'){ks:List (List bw×V)}{kvs:List (D×D)}:RepT F ks kvs->RepT F' ks kvs
 | .nil=>.nil
 | .cons h r=>.cons (Rep.mono s h) (RepT.mono s r)
theorem RepL.mono {F F':Hp}(s:Same F F'){vs:List V}{ds:List D}:RepL F vs ds->RepL F' vs ds
 | .nil=>.nil
 | .cons h r=>.cons (Rep.mono s h) (RepL.mono s r)
end
theorem RepL.length {F:Hp}:∀ {vs:List V} {ds:List D},RepL F vs ds->vs.length=ds.length
 | _,_,.nil=>rfl
 | _,_,.cons _ r=>by simp [RepL.length r]
theorem RepL.append {F:Hp}:∀ {vs ws:List V} {ds es:List D},RepL F vs ds->RepL F ws es->RepL F (vs++ws) (ds++es)
 | _,_,_,_,.nil,s=>s
 | _,_,_,_,.cons h r,s=>.cons h (RepL.append r s)
theorem RepL.get {F:Hp}:∀ {vs:List V} {ds:List D} {i:Nat} {d:D},RepL F vs ds->ds[i]?=some d->∃ v,vs[i]?=some v/\Rep F v d
 | _,_,_,_,.nil,e=>by simp at e
 | _,_,0,_,.cons h _,e=>by simp at e;subst e;exact⟨_,by simp,h⟩
 | _,_,i+1,_,.cons _ r,e=>by
  obtain⟨v,h1,h2⟩:=RepL.get (i:=i) r (by simpa using e)
  exact⟨v,by simpa using h1,h2⟩
theorem RepL.get' {F:Hp}:∀ {vs:List V} {ds:List D} {i:Nat} {v:V},RepL F vs ds->vs[i]?=some v->∃ d,ds[i]?=some d/\Rep F v d
 | _,_,_,_,.nil,e=>by simp at e
 | _,_,0,_,.cons h _,e=>by simp at e;subst e;exact⟨_,by simp,h⟩
 | _,_,i+1,_,.cons _ r,e=>by
  obtain⟨v,h1,h2⟩:=RepL.get' (i:=i) r (by simpa using e)
  exact⟨v,by simpa using h1,h2⟩
theorem RepL.set {F:Hp}{v:V}{d:D}(h:Rep F v d):∀ {vs:List V} {ds:List D} (i:Nat),RepL F vs ds->RepL F (vs.set i v) (ds.set i d)
 | _,_,_,.nil=>.nil
 | _,_,0,.cons _ t=>.cons h t
 | _,_,i+1,.cons q t=>.cons q (RepL.set h i t)
theorem RepL.take {F:Hp}:∀ {vs:List V} {ds:List D} (n:Nat),RepL F vs ds->RepL F (vs.take n) (ds.take n)
 | _,_,0,_=>.nil
 | _,_,_+1,.nil=>.nil
 | _,_,n+1,.cons h r=>.cons h (RepL.take n r)
theorem RepL.drop {F:Hp}:∀ {vs:List V} {ds:List D} (n:Nat),RepL F vs ds->RepL F (vs.drop n) (ds.drop n)
 | _,_,0,r=>r
 | _,_,_+1,.nil=>.nil
 | _,_,n+1,.cons _ r=>RepL.drop n r
theorem RepL.reverse {F:Hp}:∀ {vs:List V} {ds:List D},RepL F vs ds->RepL F vs.reverse ds.reverse
 | _,_,.nil=>.nil
 | _,_,.cons h r=>by
  rw[List.reverse_cons,List.reverse_cons];exact (RepL.reverse r).append (.cons h .nil)
theorem RepL.rep {F:Hp}{vs:List V}{ds:List D}(r:RepL F vs ds):∀ n:Nat,RepL F (List.replicate n vs).flatten (List.replicate n ds).flatten
 | 0=>.nil
 | n+1=>by
  rw[List.replicate_succ,List.replicate_succ,List.flatten_cons,List.flatten_cons];exact r.append (RepL.rep r n)

structure O where
 fp:Addr->List Addr
 rep:Hp->Hp->Addr->Prop
 self:∀ a,a∈fp a
 solid:∀ {F H:Hp} {a b:Addr} {φ:Heap->Prop},rep F H a->b∈fp a->H b≠some (.ext φ)
 nt:∀ {F H:Hp} {a b:Addr} {vs:List V},rep F H a->b∈fp a->H b≠some (.tup vs)
 mono:∀ {F F' H H':Hp} {a:Addr},Same F F'->(∀ b∈fp a,H' b=H b)->rep F H a->rep F' H' a
inductive B where
 | sh (d:D)
 | own (xs:List D)
 | obj (o:O)
abbrev Sd:=List (Option B)
structure Dyn where
 H0:Hp
 F0:Hp
 io:List (Nat×Addr)
 /-- the addresses of things that were handed in to be changed -/
 ob:List Addr
def Dyn.ioL (Y:Dyn):List Addr:=Y.io.map (·.2)
def Dyn.ioA (Y:Dyn):List Addr:=Y.io.map (·.2)++Y.ob
theorem Dyn.ioL_sub {Y:Dyn}{a:Addr}(h:a∉Y.ioA):a∉Y.ioL:=λz=>h (List.mem_append_left _ z)
def eh (σd:Sd)(σ:St)(b:Addr):Prop:=∃ (i:Nat) (o:O) (a:Addr),σd[i]?=some (some (.obj o))/\σ[i]?=some (some (.ref a))/\b∈o.fp a
def TabsIn (F:Hp):Prop:=∀ q∈KF.tabs,F q.1=some (.lam q.2.1 q.2.2.1 q.2.2.2)
theorem TabsIn.mono {F F':Hp}(h:TabsIn F)(s:Same F F'):TabsIn F':=λq hq=>s _ _ (h q hq)
def rG (F H:Hp):Prop:=Same F H/\TabsIn F
structure Obs (Y:Dyn)(F:Hp)(σd:Sd)(σ:St)(H:Hp):Prop where
 obj:∀ (i:Nat) (o:O),σd[i]?=some (some (.obj o))->∃ a,σ[i]?=some (some (.ref a))/\o.rep F H a/\∀ b∈o.fp a,F b=none/\H b≠none/\(Y.H0 b=none\/b∈Y.ob)
 dso:∀ (i j:Nat) (o p:O) (a b:Addr),σd[i]?=some (some (.obj o))->σd[j]?=some (some (.obj p))->σ[i]?=some (some (.ref a))->σ[j]?=some (some (.ref b))->i≠j->∀ c∈o.fp a,c∉p.fp b
 dsx:∀ (j:Nat) (xs:List D) (b:Addr),σd[j]?=some (some (.own xs))->σ[j]?=some (some (.ref b))->¬ eh σd σ b
 there:∀ b∈Y.ob,H b≠none
 thz:∀ b∈Y.ob,Y.H0 b≠none
 tab:TabsIn F
theorem Obs.owned {Y:Dyn}{F:Hp}{σd:Sd}{σ:St}{H:Hp}(X:Obs Y F σd σ H){b:Addr}(h:eh σd σ b):F b=none/\H b≠none/\(Y.H0 b=none\/b∈Y.ob):=by
 obtain⟨i,o,a,e1,e2,hb⟩:=h;obtain⟨a',e3,_,h3⟩:=X.obj i o e1;rw[e2] at e3;cases e3;exact h3 b hb
theorem Obs.notup {Y:Dyn}{F:Hp}{σd:Sd}{σ:St}{H:Hp}(X:Obs Y F σd σ H){b:Addr}(h:eh σd σ b){vs:List V}:H b≠some (.tup vs):=by
 obtain⟨i,o,a,e1,e2,hb⟩:=h;obtain⟨a',e3,h2,_⟩:=X.obj i o e1;rw[e2] at e3;cases e3;exact o.nt h2 hb
theorem Obs.step {Y Y':Dyn}{F F':Hp}{σd σd':Sd}{σ σ':St}{H H':Hp}(X:Obs Y F σd σ H)(hs:Same F F')
  (hσ:∀ (i:Nat) (o:O),σd'[i]?=some (some (.obj o))->σd[i]?=some (some (.obj o))/\σ'[i]?=σ[i]?)
  (hb:∀ b,eh σd σ b->H' b=H b/\F' b=none/\(Y'.H0 b=none\/b∈Y'.ob))
  (hown:∀ (j:Nat) (ys:List D) (b:Addr),σd'[j]?=some (some (.own ys))->σ'[j]?=some (some (.ref b))->¬ eh σd σ b)
  (hth:∀ b∈Y'.ob,H' b≠none) (hz:∀ b∈Y'.ob,b∈Y.ob/\(Y.H0 b≠none->Y'.H0 b≠none):=by exact λb hb=>⟨hb,id⟩):Obs Y' F' σd' σ' H' where
 obj:=λi o e=>by
  obtain⟨e1,e2⟩:=hσ i o e;obtain⟨a,h1,h2,h3⟩:=X.obj i o e1;have ow:∀ b∈o.fp a,eh σd σ b:=λb z=>⟨i,o,a,e1,h1,z⟩;refine⟨a,by rw[e2];exact h1,o.mono hs (λb z=>(hb b (ow b z)).1) h2,λb z=>⟨(hb b (ow b z)).2.1,?_,(hb b (ow b z)).2.2⟩⟩
  rw[(hb b (ow b z)).1];exact (h3 b z).2.1
 dso:=λi j o p a b e1 e2 e3 e4=>by
  obtain⟨q1,q2⟩:=hσ i o e1;obtain⟨q3,q4⟩:=hσ j p e2;rw[q2] at e3;rw[q4] at e4;exact X.dso i j o p a b q1 q3 e3 e4
 dsx:=λj xs b e1 e2 ⟨i,o,a,e3,e4,hm⟩=>by
  obtain⟨q1,q2⟩:=hσ i o e3;rw[q2] at e4;exact hown j xs b e1 e2 ⟨i,o,a,q1,e4,hm⟩
 there:=hth
 thz:=λb hb=>(hz b hb).2 (X.thz b (hz b hb).1)
 tab:=X.tab.mono hs
theorem Obs.put {Y:Dyn}{F:Hp}{σd:Sd}{σ σ':St}{H:Hp}{i:Nat}{b':Option B}(X:Obs Y F σd σ H)(h1:∀ j,j≠i->σ'[j]?=σ[j]?)(hn:∀ o,b'≠some (.obj o))
  (hw:∀ ys a,b'=some (.own ys)->σ'[i]?=some (some (.ref a))->¬ eh σd σ a):Obs Y F (σd.set i b') σ' H:=by
 have gs:∀ {j:Nat} {y:Option B},(σd.set i b')[j]?=some y->(j=i/\y=b')\/(j≠i/\σd[j]?=some y):=λ{j y} h=>by
  by_cases hj:j=i
  ·subst hj
   by_cases hl:j < σd.length
   ·rw[List.getElem?_set_self hl] at h;exact .inl ⟨rfl,(Option.some.inj h).symm⟩
   ·have:(σd.set j b')[j]?=none:=by rw[List.getElem?_eq_none_iff];simp;omega
    rw[this] at h;cases h
  ·rw[List.getElem?_set_ne (Ne.symm hj)] at h;exact .inr ⟨hj,h⟩
 refine X.step (Same.refl _) (λj o e=>?_) (λb hb=>⟨rfl,(X.owned hb).1,(X.owned hb).2.2⟩) (λj ys b e1 e2=>?_) X.there
 ·rcases gs e with ⟨_,z⟩|⟨hj,z⟩
  ·exact absurd z.symm (hn o)
  ·exact⟨z,h1 j hj⟩
 ·rcases gs e1 with ⟨rfl,z⟩|⟨hj,z⟩
  ·exact hw ys b z.symm e2
  ·rw[h1 j hj] at e2;exact X.dsx j ys b z e2
theorem Obs.none {Y:Dyn}{F:Hp}{σd:Sd}{σ:St}{H:Hp}(h:∀ (i:Nat) (o:O),σd[i]?≠some (some (.obj o)))(htab:TabsIn F)(hth:∀ b∈Y.ob,H b≠none)(hz:∀ b∈Y.ob,Y.H0 b≠none:=by intro b hb;cases hb):Obs Y F σd σ H where
 thz:=hz
 tab:=htab
 obj:=λi o e=>absurd e (h i o)
 dso:=λi _ o _ _ _ e=>absurd e (h i o)
 dsx:=λ_ _ _ _ _ ⟨i,o,_,e,_⟩=>h i o e
 there:=hth
def Nw (H:Hp)(b:Addr)(o:HO):Prop:=H b=none\/∃ vs,o=.tup vs
structure RS (Y:Dyn)(F:Hp)(σd:Sd)(σ:St)(H:Hp):Prop where
 len:σd.length=σ.length
 lo:Same Y.F0 F
 fr:Same F H
 fro:∀ b o,F b=some o->Y.F0 b=some o\/Nw Y.H0 b o
 old:∀ b o,Y.H0 b=some o->b∉Y.ioA->H b=some o
 sh:∀ (i:Nat) (d:D),σd[i]?=some (some (.sh d))->∃ v,σ[i]?=some (some v)/\Rep F v d
 own:∀ (i:Nat) (xs:List D),σd[i]?=some (some (.own xs))->∃ a vs,σ[i]?=some (some (.ref a))/\H a=some (.lst vs)/\RepL F vs xs/\F a=none/\(Y.H0 a=none\/a∈Y.ioL)
 dis:∀ (i j:Nat) (xs ys:List D) (a:Addr),σd[i]?=some (some (.own xs))->σd[j]?=some (some (.own ys))->σ[i]?=some (some (.ref a))->σ[j]?=some (some (.ref a))->i=j
 io:∀ p∈Y.io,σ[p.1]?=some (some (.ref p.2))/\∃ xs,σd[p.1]?=some (some (.own xs))
 ob:Obs Y F σd σ H

theorem aG {H:Hp}{p:Addr}{o:HO}(h:H p=none):Same H (bz H p o):=λb u e=>by
 rw[am (bL e h)];exact e
theorem uE {F H:Hp}{p:Addr}{o:HO}(s:Same F H):Same (bz F p o) (bz H p o):=λb u e=>by
 by_cases hb:b=p
 ·subst hb;rw[aw] at e ⊢;exact e
 ·rw[am hb] at e ⊢;exact s b u e
theorem bi {F H:Hp}(s:Same F H){p:Addr}(h:H p=none):F p=none:=s.free h

theorem RS.fresh0 {Y:Dyn}{F:Hp}{σd:Sd}{σ:St}{H:Hp}{p:Addr}(R:RS Y F σd σ H)(h:H p=none):Y.H0 p=none/\p∉Y.ioA:=by
 have hio:p∉Y.ioA:=λhm=>by
  rcases List.mem_append.mp hm with hm|hm
  case inr=>exact R.ob.there p hm h
  obtain⟨q,hq,e⟩:=List.mem_map.mp hm;obtain⟨h1,xs,h2⟩:=R.io q hq;obtain⟨a,vs,h3,h4,_⟩:=R.own _ _ h2;rw[h1] at h3;cases h3;rw[e,h] at h4;cases h4
 refine⟨?_,hio⟩;cases e:Y.H0 p with
 | none=>rfl
 | some o=>rw[R.old p o e hio] at h;cases h

theorem RS.alloc {Y:Dyn}{F:Hp}{σd:Sd}{σ:St}{H:Hp}{p:Addr}{o:HO}(R:RS Y F σd σ H)(h:H p=none):RS Y (bz F p o) σd σ (bz H p o) where
 len:=R.len
 lo:=R.lo.trans (aG (bi R.fr h))
 fr:=uE R.fr
 fro:=λb u e=>by
  by_cases hb:b=p
  ·subst hb;exact .inr (.inl (R.fresh0 h).1)
  ·rw[am hb] at e;exact R.fro b u e
 old:=λb u e n=>by
  have:=R.old b u e n;rw[am (bL this h)];exact this
 sh:=λi d e=>by
  obtain⟨v,h1,h2⟩:=R.sh i d e;exact⟨v,h1,h2.mono (aG (bi R.fr h))⟩
 own:=λi xs e=>by
  obtain⟨a,vs,h1,h2,h3,h4,h5⟩:=R.own i xs e;have hne:=bL h2 h;exact⟨a,vs,h1,by rw[am hne];exact h2,h3.mono (aG (bi R.fr h)),by rw[am hne];exact h4,h5⟩
 dis:=R.dis
 io:=R.io
 ob:=R.ob.step (aG (bi R.fr h)) (λi o e=>⟨e,rfl⟩) (λb hb=>by
  obtain⟨w1,w2,w3⟩:=R.ob.owned hb;have hne:b≠p:=λz=>w2 (z ▸ h);exact⟨am hne,by rw[am hne];exact w1,w3⟩) (λj ys b e1 e2=>R.ob.dsx j ys b e1 e2) λb hb=>by
  have hne:b≠p:=λz=>R.ob.there b hb (z ▸ h);rw[am hne];exact R.ob.there b hb
theorem RS.alloc0 {Y:Dyn}{F:Hp}{σd:Sd}{σ:St}{H:Hp}{p:Addr}{o:HO}(R:RS Y F σd σ H)(h:H p=none):RS Y F σd σ (bz H p o) where
 len:=R.len
 lo:=R.lo
 fr:=R.fr.trans (aG h)
 fro:=R.fro
 old:=λb u e n=>aG h b u (R.old b u e n)
 sh:=R.sh
 own:=λi xs e=>by
  obtain⟨a,vs,h1,h2,h3,h4,h5⟩:=R.own i xs e;exact⟨a,vs,h1,aG h a _ h2,h3,h4,h5⟩
 dis:=R.dis
 io:=R.io
 ob:=R.ob.step (Same.refl _) (λi o e=>⟨e,rfl⟩) (λb hb=>by
  obtain⟨w1,w2,w3⟩:=R.ob.owned hb;have hne:b≠p:=λz=>w2 (z ▸ h);exact⟨am hne,w1,w3⟩) (λj ys b e1 e2=>R.ob.dsx j ys b e1 e2) λb hb=>by
  have hne:b≠p:=λz=>R.ob.there b hb (z ▸ h);rw[am hne];exact R.ob.there b hb
inductive EV where
 | val (d:D)|var (i:Nat)|own (xs:List D)|obj (o:O)|any
inductive OV where
 | val (d:D)|var (i:Nat)|any
abbrev TX:=Sd->(EV->Sd->Prop)->Prop
abbrev TV:=Sd->(OV->Sd->Prop)->Prop
abbrev TD:=Sd->(D->Sd->Prop)->Prop
abbrev TB:=Sd->(Bool->Sd->Prop)->Prop
abbrev eG:=Sd->(List D->Sd->Prop)->Prop

structure NoOwn (σd:Sd)(σ:St)(a:Addr):Prop where
 own:∀ (j:Nat) (ys:List D),σd[j]?=some (some (.own ys))->σ[j]?≠some (some (.ref a))
 nob:¬ eh σd σ a
instance {σd:Sd} {σ:St} {a:Addr}:CoeFun (NoOwn σd σ a) λ_=>∀ (j:Nat) (ys:List D),σd[j]?=some (some (.own ys))->σ[j]?≠some (some (.ref a)):=⟨NoOwn.own⟩
theorem RS.noFresh {Y:Dyn}{F:Hp}{σd:Sd}{σ:St}{H:Hp}(R:RS Y F σd σ H){a:Addr}(h:H a=none):NoOwn σd σ a:=by
 refine⟨λj ys e z=>?_,λz=>(R.ob.owned z).2.1 h⟩;obtain⟨b,us,e1,e2,_⟩:=R.own j ys e;rw[e1] at z;cases z;rw[h] at e2;cases e2
def RepO (F:Hp)(σ:St)(v:V):OV->Prop
 | .val d=>Rep F v d
 | .var i=>σ[i]?=some (some v)
 | .any=>True
def Es (Y:Dyn)(F H:Hp)(σd:Sd)(σ:St)(v:V):EV->Prop
 | .val d=>Rep F v d
 | .var i=>σ[i]?=some (some v)
 | .own xs=>∃ a vs,v=.ref a/\H a=some (.lst vs)/\RepL F vs xs/\F a=none/\Y.H0 a=none/\NoOwn σd σ a
 | .obj o=>∃ a,v=.ref a/\o.rep F H a/\∀ b∈o.fp a,F b=none/\H b≠none/\Y.H0 b=none/\NoOwn σd σ b
 | .any=>True

def lX (Y:Dyn)(t:TX):TE:=λσ H Q=>∃ F σd Qd,RS Y F σd σ H/\t σd Qd/\∀ v H' F' x σd',Same F F'->RS Y F' σd' σ H'->Es Y F' H' σd' σ v x->Qd x σd'->Q v H'
def lO (Y:Dyn)(t:TV):TE:=λσ H Q=>∃ F σd Qd,RS Y F σd σ H/\t σd Qd/\∀ v H' F' x σd',Same F F'->RS Y F' σd' σ H'->RepO F' σ v x->Qd x σd'->Q v H'
def lD (Y:Dyn)(t:TD):TE:=λσ H Q=>∃ F σd Qd,RS Y F σd σ H/\t σd Qd/\∀ v H' F' x σd',Same F F'->RS Y F' σd' σ H'->Rep F' v x->Qd x σd'->Q v H'
def lB (Y:Dyn)(t:TB):TT:=λσ H Q=>∃ F σd Qd,RS Y F σd σ H/\t σd Qd/\∀ b H' F' σd',Same F F'->RS Y F' σd' σ H'->Qd b σd'->Q b H'
def QX (Y:Dyn)(t:eG):TA:=λσ H Q=>∃ F σd Qd,RS Y F σd σ H/\t σd Qd/\∀ vs H' F' xs σd',Same F F'->RS Y F' σd' σ H'->RepL F' vs xs->Qd xs σd'->Q vs H'

structure GE where
 P:Program
 w:World
 K:PySem.W.Frag
 mg:Str->Option Value
 base:Heap
structure Stat where
 N:List Str
 sc:List (Str×NameKind)
 ios:List Nat:=[]
 blk:Bool:=false
 /-- within an except suite -/
 hot:Bool:=false
 /-- a raise may stand here -/
 rs:Bool:=false
 /-- what is wanted where an exception of a class leaves -/
 ex:Str->Sd->Prop:=λ_ _=>False
def PX (a T:Addr)(c:Str):HO:=.ext λh=>∃ o vs a0,h.get? a=some o/\o.cls=.ref (KF.cls c)/\o.data=.fields vs/\vs[0]?=some a0/\vs[1]?=some (.ref T)
def Rv (T:Addr):HO:=.ext λh=>∃ o ts,h.get? T=some o/\o.data=.fields ts/\ts[3]?=some .none
structure Flies (X:Cx)(Y:Dyn)(F H:Hp)(a T:Addr)(c:Str):Prop where
 fa:F a=none
 fT:F T=none
 ha:H a=some (PX a T c)
 hT:H T=some (Rv T)
 ne:a≠T
 na:Y.H0 a=none
 nT:Y.H0 T=none
 la:X.s₀.heap.get? a=none
 lT:X.s₀.heap.get? T=none
def PY (a:Addr)(c:Str):HO:=.ext λh=>∃ o vs a0,h.get? a=some o/\o.cls=.ref (KF.cls c)/\o.data=.fields vs/\vs[0]?=some a0/\vs[1]?=some .none
structure XOk (X:Cx)(G:GE)(k:Nat)(S:Stat)(Y:Dyn):Prop where
 P:X.prog=G.P
 w:X.w=G.w
 K:X.K=G.K
 kf:X.K=KF.K
 mg:X.mg=G.mg
 base:X.base=G.base
 N:X.N=S.N
 sc:X.env.scope.names=S.sc
 nd:S.N.Nodup
 ios:∀ p∈Y.io,p.1∈S.ios
 obs:S.blk=false->S.ios=[]->Y.ob=[]
 calm:S.hot=false->X.calm=true
 kind:X.env.scope.kind=.function
 fn:S.blk=false->∀ x,S.sc.lookup x=some .cell->X.fn x=true
 hd:S.hot=false->X.A.handled=none
 dp:X.A.depth+3*k+5 < recursionLimit
 un:X.A.units+16*k+200 < cLine
 po:S.hot=false->PassesOwn (model X.prog X.w) X.A X.env X.xe
 nx:S.blk=false->X.ex=[]/\X.stack=X.env::X.outer/\X.env.frame=some X.env.locals
 exc:∀ c σd,S.ex c σd->∀ pins σ H F s a T,L2.Inv X pins σ H s->RS Y F σd σ H->Flies X Y F H a T c->X.xe (.ref a) s
 made:S.rs=true->∀ c σd,S.ex c σd->∀ pins σ H F s a,L2.Inv X pins σ H s->RS Y F σd σ H->H a=some (PY a c)->Y.H0 a=none->X.s₀.heap.get? a=none->X.xe (.ref a) s
theorem XOk.room {X:Cx}{G:GE}{k:Nat}{S:Stat}{Y:Dyn}(ok:XOk X G k S Y)(h:S.hot=false):Room k X.A:=⟨ok.hd h,ok.dp,ok.un⟩
theorem XOk.units {X:Cx}{G:GE}{k:Nat}{S:Stat}{Y:Dyn}(ok:XOk X G k S Y):X.A.units+64 < cLine:=by have:=ok.un;omega

variable {G:GE}{k:Nat}{S:Stat}
structure EX (G:GE)(k:Nat)(S:Stat)(e:Expr)(t:TX) :Prop where
 run:∀ X Y,XOk X G k S Y->PE X e (lX Y t)
instance {G:GE} {k:Nat} {S:Stat} {e:Expr} {t:TX} :CoeFun (EX G k S e t) λ_=>∀ X Y,XOk X G k S Y->PE X e (lX Y t):=⟨EX.run⟩
structure EO (G:GE)(k:Nat)(S:Stat)(e:Expr)(t:TV) :Prop where
 run:∀ X Y,XOk X G k S Y->PE X e (lO Y t)
instance {G:GE} {k:Nat} {S:Stat} {e:Expr} {t:TV} :CoeFun (EO G k S e t) λ_=>∀ X Y,XOk X G k S Y->PE X e (lO Y t):=⟨EO.run⟩
structure ED (G:GE)(k:Nat)(S:Stat)(e:Expr)(t:TD) :Prop where
 run:∀ X Y,XOk X G k S Y->PE X e (lD Y t)
instance {G:GE} {k:Nat} {S:Stat} {e:Expr} {t:TD} :CoeFun (ED G k S e t) λ_=>∀ X Y,XOk X G k S Y->PE X e (lD Y t):=⟨ED.run⟩
structure EB (G:GE)(k:Nat)(S:Stat)(e:Expr)(t:TB) :Prop where
 run:∀ X Y,XOk X G k S Y->PT X e (lB Y t)
instance {G:GE} {k:Nat} {S:Stat} {e:Expr} {t:TB} :CoeFun (EB G k S e t) λ_=>∀ X Y,XOk X G k S Y->PT X e (lB Y t):=⟨EB.run⟩
structure EDs (G:GE)(k:Nat)(S:Stat)(es:List Expr)(t:eG) :Prop where
 run:∀ X Y,XOk X G k S Y->PA X es (QX Y t)
instance {G:GE} {k:Nat} {S:Stat} {es:List Expr} {t:eG} :CoeFun (EDs G k S es t) λ_=>∀ X Y,XOk X G k S Y->PA X es (QX Y t):=⟨EDs.run⟩

def Et:Expr->Bool
 | .Starred _ _=>false
 | _=>true
theorem se_cons {e:Expr}{es:List Expr}{env:Env}(h:Et e=true):starEach (e::es) env=(false,eval e env)::starEach es env:=by
 cases e<;>first|rfl|cases h
theorem aP {X:Cx}{e:Expr}{t t':TE}(h:PE X e t)(i:∀ σ H Q,t' σ H Q->t σ H Q):PE X e t':=λpins s σ H Q I q=>h pins s σ H Q I (i σ H Q q)
theorem qr {X:Cx}{e:Expr}{t t':TT}(h:PT X e t)(i:∀ σ H Q,t' σ H Q->t σ H Q):PT X e t':=λpins s σ H Q I q=>h pins s σ H Q I (i σ H Q q)
theorem lQ {X:Cx}{e:List Expr}{t t':TA}(h:PA X e t)(i:∀ σ H Q,t' σ H Q->t σ H Q):PA X e t':=λpos pins s σ H Q I q=>h pos pins s σ H Q I (i σ H Q q)
theorem cB {X:Cx}{e:Stmt}{t t':TS}(h:PS X e t)(i:∀ D σ H,t' D σ H->t D σ H):PS X e t':=λpins s σ H D I q=>h pins s σ H D I (i D σ H q)
theorem rH {X:Cx}{e:List Stmt}{t t':TS}(h:PSs X e t)(i:∀ D σ H,t' D σ H->t D σ H):PSs X e t':=λpins s σ H D I q=>h pins s σ H D I (i D σ H q)

theorem RS.freezeNew {Y:Dyn}{F:Hp}{σd:Sd}{σ:St}{H:Hp}{a:Addr}{vs:List V}(R:RS Y F σd σ H)(h1:H a=some (.lst vs))(h2:F a=none)(h3:NoOwn σd σ a)(h4:Y.H0 a=none):RS Y (bz F a (.lst vs)) σd σ H where
 len:=R.len
 lo:=R.lo.trans (aG h2)
 fr:=λb o e=>by
  by_cases hb:b=a
  ·subst hb;rw[aw] at e;cases e;exact h1
  ·rw[am hb] at e;exact R.fr b o e
 fro:=λb u e=>by
  by_cases hb:b=a
  ·subst hb;exact .inr (.inl h4)
  ·rw[am hb] at e;exact R.fro b u e
 old:=R.old
 sh:=λi d e=>by
  obtain⟨v,q1,q2⟩:=R.sh i d e;exact⟨v,q1,q2.mono (aG h2)⟩
 own:=λi xs e=>by
  obtain⟨b,us,q1,q2,q3,q4,q5⟩:=R.own i xs e;have hne:b≠a:=λz=>h3 i xs e (by rw[q1,z])
  exact⟨b,us,q1,q2,q3.mono (aG h2),by rw[am hne];exact q4,q5⟩
 dis:=R.dis
 io:=R.io
 ob:=R.ob.step (aG h2) (λi o e=>⟨e,rfl⟩) (λb hb=>by
  obtain⟨w1,w2,w3⟩:=R.ob.owned hb;have hne:b≠a:=λz=>h3.nob (z ▸ hb);exact⟨rfl,by rw[am hne];exact w1,w3⟩) (λj ys b e1 e2=>R.ob.dsx j ys b e1 e2) R.ob.there

def QY:EV->OV
 | .val d=>.val d
 | .var i=>.var i
 | .own xs=>.val (.lst xs)
 | .obj _=>.any
 | .any=>.any
def au (t:TX):TV:=λσ Q=>t σ λx σ1=>Q (QY x) σ1
theorem av {e:Expr}{t:TX}(h:EX G k S e t):EO G k S e (au t):=.mk λX Y ok=>aP (h X Y ok) λσ H Q q=>by
 obtain⟨F,σd,Qd,R,q,K⟩:=q;refine⟨F,σd,_,R,q,λv H' F' x σd' s R' r q'=>?_⟩;cases x with
 | val d=>exact K v H' F' (.val d) σd' s R' r q'
 | var i=>exact K v H' F' (.var i) σd' s R' r q'
 | own xs =>
  obtain⟨a,vs,rfl,h1,h2,h3,h4,h5⟩:=r;exact K _ H' _ (.val (.lst xs)) σd' (s.trans (aG h3)) (R'.freezeNew h1 h3 h5 h4) (.lst (.inl aw) (h2.mono (aG h3))) q'
 | obj o=>exact K v H' F' .any σd' s R' trivial q'
 | any=>exact K v H' F' .any σd' s R' trivial q'
def QZ:OV->EV
 | .val d=>.val d
 | .var i=>.var i
 | .any=>.any
def oX (t:TV):TX:=λσ Q=>t σ λx σ1=>Q (QZ x) σ1
theorem dS {e:Expr}{t:TV}(h:EO G k S e t):EX G k S e (oX t):=.mk λX Y ok=>aP (h X Y ok) λσ H Q q=>by
 obtain⟨F,σd,Qd,R,q,K⟩:=q;refine⟨F,σd,_,R,q,λv H' F' x σd' s R' r q'=>?_⟩;cases x with
 | val d=>exact K v H' F' (.val d) σd' s R' r q'
 | var i=>exact K v H' F' (.var i) σd' s R' r q'
 | any=>exact K v H' F' .any σd' s R' trivial q'

theorem aQ {α:Type}{l:List (Option α)}{i:Nat}{x:α}{y:Option α}(h:l[i]?=some (some x)):(l.set i y)[i]?=some y:=by
 have:=(List.getElem?_eq_some_iff.mp h).1;rw[List.getElem?_set_self this]
theorem aV {α:Type}{l:List (Option α)}{i j:Nat}{y:Option α}(h:j≠i):(l.set i y)[j]?=l[j]?:=by
 rw[List.getElem?_set_ne (Ne.symm h)]

theorem RS.freezeVar {Y:Dyn}{F:Hp}{σd:Sd}{σ:St}{H:Hp}{i:Nat}{xs:List D}(R:RS Y F σd σ H)(h:σd[i]?=some (some (.own xs)))(hio:∀ p∈Y.io,p.1≠i) :
  ∃ F' v,Same F F'/\RS Y F' (σd.set i (some (.sh (.lst xs)))) σ H/\σ[i]?=some (some v)/\Rep F' v (.lst xs):=by
 obtain⟨a,vs,q1,q2,q3,q4,q5⟩:=R.own i xs h;have sm:=aG (o:=.lst vs) q4;have rep:Rep (bz F a (.lst vs)) (.ref a) (.lst xs):=.lst (.inl aw) (q3.mono sm);have nio:Y.H0 a=none:=by
  rcases q5 with q5|q5
  ·exact q5
  ·obtain⟨p,hp,e⟩:=List.mem_map.mp q5
   obtain⟨w1,ys,w2⟩:=R.io p hp;exact absurd (R.dis p.1 i ys xs a w2 h (by rw[w1,e]) q1) (hio p hp)
 have obF:Obs Y (bz F a (.lst vs)) (σd.set i (some (.sh (.lst xs)))) σ H:=R.ob.step sm (λj o e=>by
  have hj:j≠i:=λz=>by subst z;rw[aQ h] at e;cases e
  rw[aV hj] at e;exact⟨e,rfl⟩) (λb hb=>by
  obtain⟨w1,w2,w3⟩:=R.ob.owned hb;have hne:b≠a:=λz=>R.ob.dsx i xs a h q1 (z ▸ hb);exact⟨rfl,by rw[am hne];exact w1,w3⟩) (λj ys b e1 e2=>by
  have hj:j≠i:=λz=>by subst z;rw[aQ h] at e1;cases e1
  rw[aV hj] at e1;exact R.ob.dsx j ys b e1 e2) R.ob.there
 refine⟨bz F a (.lst vs),.ref a,sm,⟨by simpa using R.len,R.lo.trans sm,λb o e=>?_,λb o e=>?_,R.old,λj d e=>?_,λj ys e=>?_,λj l ys zs b e1 e2 e3 e4=>?_,λp hp=>?_,obF⟩,q1,rep⟩
 ·by_cases hb:b=a
  ·subst hb;rw[aw] at e;cases e;exact q2
  ·rw[am hb] at e;exact R.fr b o e
 ·by_cases hb:b=a
  ·subst hb;exact .inr (.inl nio)
  ·rw[am hb] at e;exact R.fro b o e
 ·by_cases hj:j=i
  ·subst hj
   rw[aQ h] at e;cases e;exact⟨_,q1,rep⟩
  ·rw[aV hj] at e
   obtain⟨v,w1,w2⟩:=R.sh j d e;exact⟨v,w1,w2.mono sm⟩
 ·have hj:j≠i:=λz=>by subst z;rw[aQ h] at e;cases e
  rw[aV hj] at e;obtain⟨b,us,w1,w2,w3,w4,w5⟩:=R.own j ys e;have hne:b≠a:=λz=>hj (R.dis j i ys xs a e h (z ▸ w1) q1);exact⟨b,us,w1,w2,w3.mono sm,by rw[am hne];exact w4,w5⟩
 ·have hj:j≠i:=λz=>by subst z;rw[aQ h] at e1;cases e1
  have hl:l≠i:=λz=>by subst z;rw[aQ h] at e2;cases e2
  rw[aV hj] at e1;rw[aV hl] at e2;exact R.dis j l ys zs b e1 e2 e3 e4
 ·obtain⟨w1,ys,w2⟩:=R.io p hp
  exact⟨w1,ys,by rw[aV (hio p hp)];exact w2⟩

def Eu (ios:List Nat)(x:OV)(σ1:Sd)(Q:D->Sd->Prop):Prop:=match x with
 | .val d=>Q d σ1
 | .any=>False
 | .var i=>match σ1[i]? with
  | some (some (.own xs))=>i∉ios/\Q (.lst xs) (σ1.set i (some (.sh (.lst xs))))
  | some (some (.sh d))=>Q d σ1
  | _=>False
theorem uF {ios:List Nat}{d:D}{σ1:Sd}{Q:D->Sd->Prop}:Eu ios (.val d) σ1 Q=Q d σ1:=rfl
theorem nX {ios:List Nat}{i:Nat}{σ1:Sd}{Q:D->Sd->Prop}:Eu ios (.var i) σ1 Q=(match σ1[i]? with
  | some (some (.own xs))=>i∉ios/\Q (.lst xs) (σ1.set i (some (.sh (.lst xs))))
  | some (some (.sh d))=>Q d σ1
  | _=>False):=rfl
def ag (ios:List Nat)(t:TV):TD:=λσ Q=>t σ λx σ1=>Eu ios x σ1 Q
theorem ar {e:Expr}{t:TV}(h:EO G k S e t):ED G k S e (ag S.ios t):=.mk λX Y ok=>aP (h X Y ok) λσ H Q q=>by
 obtain⟨F,σd,Qd,R,q,K⟩:=q;refine⟨F,σd,_,R,q,λv H' F' x σd' s R' r q'=>?_⟩;cases x with
 | val d=>exact K v H' F' d σd' s R' r q'
 | any=>exact False.elim q'
 | var i =>
  have r:σ[i]?=some (some v):=r;rw[nX] at q'
  split at q'
  ·rename_i xs e
   obtain⟨hi,q'⟩:=q';obtain⟨F2,v2,s2,R2,e2,r2⟩:=R'.freezeVar e λp hp z=>hi (z ▸ ok.ios p hp);rw[r] at e2;cases e2;exact K v H' F2 _ _ (s.trans s2) R2 r2 q'
  ·rename_i d e
   obtain⟨v2,e2,r2⟩:=R'.sh i d e;rw[r] at e2;cases e2;exact K v H' F' d σd' s R' r2 q'
  ·exact q'.elim

def ab (i:Nat):TV:=λσ Q=>match σ[i]? with
 | some (some (.sh d))=>Q (.val d) σ
 | some (some (.own _))=>Q (.var i) σ
 | _=>False
theorem aa (i:Nat){x:Str}{pos:Pos}(hN:S.N[i]?=some x:=by rfl)(hv:S.sc.lookup x=some .local\/S.sc.lookup x=some .cell\/S.sc.lookup x=some .free:=by first|exact Or.inl rfl|exact Or.inr (Or.inl rfl)|exact Or.inr (Or.inr rfl))
  (hd:(x==("__debug__":Str))=false:=by decide) (hcd:(x==("__classdict__":Str))=false:=by decide):EO G k S (.Name x pos) (ab i):=.mk λX Y ok =>
 aP (fA (X:=X) (i:=i) (by rw[ok.N];exact hN) (by unfold Ao;rw[ok.sc];exact hv) hd hcd) λσ H Q q=>by
  obtain⟨F,σd,Qd,R,q,K⟩:=q;unfold ab at q
  split at q
  ·rename_i d e
   obtain⟨v,e2,r2⟩:=R.sh i d e;exact⟨v,e2,K v H F (.val d) σd (Same.refl _) R r2 q⟩
  ·rename_i xs e
   obtain⟨a,vs,e2,_⟩:=R.own i xs e;exact⟨_,e2,K _ H F (.var i) σd (Same.refl _) R e2 q⟩
  ·exact q.elim
def aC (d:D):TV:=λσ Q=>Q (.val d) σ
theorem jD {Y:Dyn}{v:V}{d:D}(r:∀ F,Rep F v d)(σ:St)(H:Hp)(Q:VK)(q:lO Y (aC d) σ H Q):tC v σ H Q:=by
 obtain⟨F,σd,Qd,R,q,K⟩:=q;exact K v H F (.val d) σd (Same.refl _) R (r F) q
theorem ah {i j pos}:EO G k S (.Constant (.int i) j pos) (aC (.int i)):=.mk λ_ _ _=>aP DD (jD λ_=>.int i)
theorem jE {b j pos}:EO G k S (.Constant (.bool b) j pos) (aC (.bl b)):=.mk λ_ _ _=>aP Ls (jD λ_=>.bl b)
theorem Cy {j pos}:EO G k S (.Constant .none j pos) (aC .non):=.mk λ_ _ _=>aP DE (jD λ_=>.non)
theorem nY {x j pos}:EO G k S (.Constant (.str x) j pos) (aC (.str x)):=.mk λ_ _ _=>aP DF (jD λ_=>.str x)
def Ev (G:GE)(x:Str)(d:D):Prop:=∃ u v,G.mg x=some u/\RelV v u/\∀ F,Rep F v d
theorem dm {X:Cx}{Y:Dyn}(ok:XOk X G k S Y){x:Str}(h:S.sc.lookup x=some .globalImplicit):Gl X x:=by
 unfold Gl;show X.env.scope.names.lookup x=_;rw[ok.sc];exact h
theorem rJ {x:Str}{d:D}{pos:Pos}(h:Ev G x d)(hg:S.sc.lookup x=some .globalImplicit:=by rfl)(hd:(x==("__debug__":Str))=false:=by decide):EO G k S (.Name x pos) (aC d):=.mk λX Y ok=>by
 obtain⟨u,v,h1,h2,h3⟩:=h;exact aP (Aq (dm ok hg) (by rw[ok.mg];exact h1) h2 hd) (jD h3)

def RepH (F H:Hp)(v:V)(d:D):Prop:=match d with
 | .lst xs=>∃ a vs,v=.ref a/\Rd H a (.lst vs)/\RepL F vs xs
 | d=>Rep F v d
def drf (σ:Sd):OV->Option D
 | .val d=>some d
 | .any=>none
 | .var i=>match σ[i]? with
  | some (some (.sh d))=>some d
  | some (some (.own xs))=>some (.lst xs)
  | _=>none
theorem Rep.h {F H:Hp}(s:Same F H){v:V}{d:D}(r:Rep F v d):RepH F H v d:=by
 cases d with
 | lst xs =>
  cases r with
  | lst h r=>exact⟨_,_,rfl,Rd.mono s h,r⟩
 | _=>exact r
theorem RS.drf {Y:Dyn}{F:Hp}{σd:Sd}{σ:St}{H:Hp}(R:RS Y F σd σ H){v:V}{x:OV}{d:D}(r:RepO F σ v x)(e:drf σd x=some d):RepH F H v d:=by
 cases x with
 | val d'=>cases e;exact Rep.h R.fr r
 | any=>cases e
 | var i =>
  have r:σ[i]?=some (some v):=r;have e:(match σd[i]? with|some (some (.sh d))=>some d|some (some (.own xs))=>some (.lst xs)|_=>none)=some d:=e
  split at e
  ·rename_i d' q
   cases e;obtain⟨v2,e2,r2⟩:=R.sh i d q;rw[r] at e2;cases e2;exact Rep.h R.fr r2
  ·rename_i xs q
   cases e;obtain⟨a,vs,e2,h2,h3,_⟩:=R.own i xs q;rw[r] at e2;cases e2;exact⟨a,vs,rfl,.inl h2,h3⟩
  ·cases e
theorem RepH.int {F H:Hp}{v:V}{i:Int}(r:RepH F H v (.int i)):v=.int i:=by cases (show Rep F v (.int i) from r);rfl
theorem RepH.bl {F H:Hp}{v:V}{i:Bool}(r:RepH F H v (.bl i)):v=.bl i:=by cases (show Rep F v (.bl i) from r);rfl
theorem RepH.str {F H:Hp}{v:V}{i:Str}(r:RepH F H v (.str i)):v=.str i:=by cases (show Rep F v (.str i) from r);rfl
theorem RepH.non {F H:Hp}{v:V}(r:RepH F H v .non):v=.non:=by cases (show Rep F v .non from r);rfl
theorem RepH.tup {F H:Hp}(s:Same F H){v:V}{xs:List D}(r:RepH F H v (.tup xs)):∃ a vs,v=.ref a/\H a=some (.tup vs)/\RepL F vs xs:=by
 cases (show Rep F v (.tup xs) from r) with
 | tup h r=>exact⟨_,_,rfl,s _ _ h,r⟩
theorem RepH.lst {F H:Hp}{v:V}{xs:List D}(r:RepH F H v (.lst xs)):∃ a vs,v=.ref a/\Rd H a (.lst vs)/\RepL F vs xs:=r

def Goes (Y:Dyn)(F:Hp)(σd:Sd)(σ:St)(Qd:EV->Prop)(Q:VK):Prop:=∀ v H' F' r,Same F F'->RS Y F' σd σ H'->Es Y F' H' σd σ v r->Qd r->Q v H'
theorem Goes.val {Y:Dyn}{F:Hp}{σd:Sd}{σ:St}{Qd:EV->Prop}{Q:VK}(g:Goes Y F σd σ Qd Q){H:Hp}(R:RS Y F σd σ H){v:V}{d:D}(r:Rep F v d)(q:Qd (.val d)):Q v H:=g v H F (.val d) (Same.refl _) R r q
theorem Goes.own {Y:Dyn}{F:Hp}{σd:Sd}{σ:St}{Qd:EV->Prop}{Q:VK}(g:Goes Y F σd σ Qd Q){H:Hp}(R:RS Y F σd σ H){vs:List V}{xs:List D}(r:RepL F vs xs)(q:Qd (.own xs)):∀ p,H p=none->Q (.ref p) (bz H p (.lst vs)):=λp hp=>by
 refine g (.ref p) _ F (.own xs) (Same.refl _) (R.alloc0 hp) ⟨p,vs,rfl,aw,r,bi R.fr hp,(R.fresh0 hp).1,⟨λj ys e z=>?_,λz=>(R.ob.owned z).2.1 hp⟩⟩ q;obtain⟨a,us,e1,e2,_⟩:=R.own j ys e;rw[e1] at z;cases z;rw[hp] at e2;cases e2
theorem Goes.tup {Y:Dyn}{F:Hp}{σd:Sd}{σ:St}{Qd:EV->Prop}{Q:VK}(g:Goes Y F σd σ Qd Q){H:Hp}(R:RS Y F σd σ H){vs:List V}{xs:List D}(r:RepL F vs xs)(q:Qd (.val (.tup xs))):∀ p,H p=none->Q (.ref p) (bz H p (.tup vs)):=λp hp=>by
 have sm:=aG (o:=.tup vs) (bi R.fr hp);exact g (.ref p) _ _ (.val (.tup xs)) sm (R.alloc hp) (.tup aw (r.mono sm)) q
def dU (r:R2)(f:D->D->(EV->Prop)->Prop):Prop :=
 ∀ Y F H σd σ v u x y Qd Q,RS Y F σd σ H->RepH F H v x->RepH F H u y->f x y Qd->Goes Y F σd σ Qd Q->r v u H Q
def ay (f:D->D->(EV->Prop)->Prop)(ta tb:TV):TX:=λσ Q=>ta σ λx σ1=>tb σ1 λy σ2=>match drf σ2 x,drf σ2 y with
 | some a,some b=>f a b λr=>Q r σ2
 | _,_=>False
theorem RepO.mono {F F':Hp}(s:Same F F'){σ:St}{v:V}{x:OV}(r:RepO F σ v x):RepO F' σ v x:=by
 cases x with
 | val d=>exact Rep.mono s r
 | var i=>exact r
 | any=>trivial
theorem qt {Y:Dyn}{r:R2}{f:D->D->(EV->Prop)->Prop}(hs:dU r f){ta tb:TV}{σ:St}{H:Hp}{Q:VK}(q:lX Y (ay f ta tb) σ H Q):Ln r (lO Y ta) (lO Y tb) σ H Q:=by
 obtain⟨F,σd,Qd,R,q,K⟩:=q;refine⟨F,σd,_,R,q,λv1 H1 F1 x σ1 s1 R1 r1 q1=>?_⟩;refine⟨F1,σ1,_,R1,q1,λv2 H2 F2 y σ2 s2 R2 r2 q2=>?_⟩
 split at q2
 ·rename_i a b ea eb
  exact hs Y F2 H2 σ2 σ v1 v2 a b _ Q R2 (R2.drf (r1.mono s2) ea) (R2.drf r2 eb) q2 λv H' F' r s R' rr qq=>K v H' F' r σ2 ((s1.trans s2).trans s) R' rr qq
 ·exact q2.elim
theorem fO {op:Operator}{f:D->D->(EV->Prop)->Prop}{r:PySem.W.Frag->R2}(ho:∀ X,OpR X (binaryOp op) (r X.K))(hs:∀ K,dU (r K) f){a b:Expr}{ta tb:TV}{pos:Pos}(ha:EO G k S a ta)(hb:EO G k S b tb) :
  EX G k S (.BinOp a op b pos) (ay f ta tb):=.mk λX Y ok=>aP (LF (ho X) (ha X Y ok) (hb X Y ok)) λσ H Q q=>qt (hs X.K) q

def bg:D->D->(EV->Prop)->Prop
 | .int i,.int j,Q=>Q (.val (.int (i+j)))
 | .str a,.str b,Q=>a.length+b.length<=sizeLine/\Q (.val (.str (a++b)))
 | .lst a,.lst b,Q=>a.length+b.length<=sizeLine/\Q (.own (a++b))
 | .tup a,.tup b,Q=>(a≠[]/\a.length+b.length<=sizeLine)/\Q (.val (.tup (a++b)))
 | _,_,_=>False
def Cz:R2:=λx y H Q=>∃ l b xs zs,x=.ref l/\y=.ref b/\Rd H l (.lst xs)/\Rd H b (.lst zs)/\xs.length+zs.length<=sizeLine/\∀ p,H p=none->Q (.ref p) (bz H p (.lst (xs++zs)))
theorem Inv.rdL {X:Cx}{pins:List (Addr×Obj)}{σ:St}{H:Hp}{s:Shared}{l:Addr}{xs:List V}(I:L2.Inv X pins σ H s)(h:Rd H l (.lst xs)) :
  xs.length<=sizeLine/\∃ (its:List Value) (n:Nat),Vals xs its/\xs.length=its.length/\s.heap.get? l=some { cls:=.type "list",data:=.seq its.toArray n }:=by
 obtain⟨z,its,n,r,e⟩:=L2.Rd.ok h I.hok;exact⟨z,its,n,r,r.length,e⟩
theorem op_catS {X:Cx}:OpR X (binaryOp .Add) Cz:=by
 intro pins s σ H x y v u Q I rx ry h;obtain⟨l,b,xs,zs,rfl,rfl,hH,hB,hz,q⟩:=h;cases rx;cases ry;obtain⟨z,its,n,r,hl,e⟩:=Inv.rdL I hH;obtain⟨z2,its2,n2,r2,hl2,e2⟩:=Inv.rdL I hB;refine PySem.P.add_list e e2 ?_ (by rw[List.size_toArray,List.size_toArray];omega)
 have ea:its.toArray++its2.toArray=(its++its2).toArray:=by simp
 rw[ea];exact⟨.ref _,_,I.lnew (t':=s.toks) (r.append r2) (by rw[List.length_append];omega),rfl,q _ I.fresh⟩
def sZ (K:PySem.W.Frag):R2:=λx y H Q=>(∃ i j,x=.int i/\y=.int j/\Q (.int (i+j)) H)\/(∃ i j,x=.str i/\y=.str j/\i.length+j.length<=sizeLine/\Q (.str (i++j)) H)\/Cz x y H Q\/Ct K x y H Q
theorem op_addAll {X:Cx}:OpR X (binaryOp .Add) (sZ X.K):=op_add.or (op_add_str.or (op_catS.or AI))
theorem ic (K:PySem.W.Frag):dU (sZ K) bg:=by
 intro Y F H σd σ v u x y Qd Q R rx ry q g;unfold bg at q
 split at q
 ·obtain rfl:=rx.int;obtain rfl:=ry.int
  exact .inl ⟨_,_,rfl,rfl,g.val R (.int _) q⟩
 ·obtain rfl:=rx.str;obtain rfl:=ry.str
  exact .inr (.inl ⟨_,_,rfl,rfl,q.1,g.val R (.str _) q.2⟩)
 ·obtain⟨a,vs,rfl,h1,r1⟩:=rx.lst;obtain⟨b,us,rfl,h2,r2⟩:=ry.lst
  exact .inr (.inr (.inl ⟨a,b,vs,us,rfl,rfl,h1,h2,by rw[r1.length,r2.length];exact q.1,g.own R (r1.append r2) q.2⟩))
 ·have rx':=rx
  obtain⟨a,vs,rfl,h1,r1⟩:=rx.tup R.fr;obtain⟨b,us,rfl,h2,r2⟩:=ry.tup R.fr;refine .inr (.inr (.inr ⟨a,b,vs,us,rfl,rfl,.of h1,.of h2,λz=>?_,by rw[r1.length,r2.length];exact q.1.2,λz=>?_,λ_=>g.tup R (r1.append r2) q.2⟩))
  ·subst z
   cases r1;exact q.1.1 rfl
  ·subst z
   cases r2;rw[List.append_nil] at q;exact g.val R rx' q.2
 ·exact q.elim
theorem aM {a b:Expr}{ta tb:TV}{pos:Pos}(ha:EO G k S a ta)(hb:EO G k S b tb):EX G k S (.BinOp a .Add b pos) (ay bg ta tb):=fO (r:=sZ) (λ_=>op_addAll) ic ha hb
def CA (C:Int->Int->Prop)(g:Int->Int->Int):D->D->(EV->Prop)->Prop
 | .int i,.int j,Q=>C i j/\Q (.val (.int (g i j)))
 | _,_,_=>False
theorem eK {C:Int->Int->Prop}{g:Int->Int->Int}:dU (rI C λi j=>.int (g i j)) (CA C g):=by
 intro Y F H σd σ v u x y Qd Q R rx ry q gg;unfold CA at q
 split at q
 ·obtain rfl:=rx.int;obtain rfl:=ry.int
  exact⟨_,_,rfl,rfl,q.1,gg.val R (.int _) q.2⟩
 ·exact q.elim
def AR (g:Int->Int->Int):D->D->(EV->Prop)->Prop
 | .int i,.int j,Q=>Q (.val (.int (g i j)))
 | _,_,_=>False
theorem tE {g:Int->Int->Int}:dU (Az λi j=>.int (g i j)) (AR g):=by
 intro Y F H σd σ v u x y Qd Q R rx ry q gg;unfold AR at q
 split at q
 ·obtain rfl:=rx.int;obtain rfl:=ry.int
  exact⟨_,_,rfl,rfl,gg.val R (.int _) q⟩
 ·exact q.elim
section
variable {a b:Expr}{ta tb:TV}{pos:Pos}
def ie:=AR λi j=>i - j
def lR:=CA (λ_ j=>0 < j) λi j=>i%j
def jF:=CA fk λi j=>i^j.toNat
def uG:=CA fk λi j=>i*2^j.toNat
theorem eM (ha:EO G k S a ta)(hb:EO G k S b tb):EX G k S (.BinOp a .Sub b pos) (ay ie ta tb):=fO (r:=λ_=>_) (λ_=>DV) (λ_=>tE) ha hb
theorem jG (ha:EO G k S a ta)(hb:EO G k S b tb):EX G k S (.BinOp a .Mod b pos) (ay lR ta tb):=fO (r:=λ_=>_) (λ_=>DW) (λ_=>eK) ha hb
theorem fP (ha:EO G k S a ta)(hb:EO G k S b tb):EX G k S (.BinOp a .Pow b pos) (ay jF ta tb):=fO (r:=λ_=>_) (λ_=>DX) (λ_=>eK) ha hb
theorem uH (ha:EO G k S a ta)(hb:EO G k S b tb):EX G k S (.BinOp a .LShift b pos) (ay uG ta tb):=fO (r:=λ_=>_) (λ_=>DY) (λ_=>eK) ha hb
end
def ig:D->D->(EV->Prop)->Prop
 | .int i,.int j,Q=>CMul i j/\Q (.val (.int (i*j)))
 | .lst xs,.int j,Q=>(-(2^63)<=j/\j < 2^63/\xs.length*j.toNat<=sizeLine)/\Q (.own (List.replicate j.toNat xs).flatten)
 | _,_,_=>False
def CB:R2:=λx y H Q=>∃ l k xs,x=.ref l/\y=.int k/\Rd H l (.lst xs)/\-(2^63)<=k/\k < 2^63/\xs.length*k.toNat<=sizeLine /\
 ∀ p,H p=none->Q (.ref p) (bz H p (.lst (List.replicate k.toNat xs).flatten))
theorem AS {X:Cx}:OpR X (binaryOp .Mult) CB:=by
 intro pins s σ H x y v u Q I rx ry h;obtain⟨l,k,xs,rfl,rfl,hH,h1,h2,hz,q⟩:=h;cases rx;obtain⟨t,rfl⟩:=ry;obtain⟨z,its,n,r,hl,e⟩:=Inv.rdL I hH;have hlen:its.toArray.size*k.toNat<=sizeLine:=by rw[List.size_toArray,<- hl];exact hz
 have hcap:¬ its.toArray.size*k.toNat > (2^63 - 1) / 8:=by
  have:(sizeLine:Nat)<=(2^63 - 1) / 8:=by decide
  omega
 have hfit:¬ (!Builtin.List.listFitsIndex k)=true:=by
  rw[fitsIndex_both h1 h2];exact Bool.false_ne_true
 have hlong:¬ Builtin.List.listTooLong (its.toArray.size*k.toNat)=true:=by
  rw[nR hlen];exact Bool.false_ne_true
 have hnew:List.foldl (λx1 x2=>x1++x2) #[] (List.replicate (if its.toArray.isEmpty=true then 0 else k.toNat) its.toArray)=(List.replicate k.toNat its).flatten.toArray:=by
  have f0:∀ m:Nat,List.foldl (λx1 x2=>x1++x2) #[] (List.replicate m its.toArray)=(List.replicate m its).flatten.toArray:=λm=>by
   have:=kR its m [];rw[List.nil_append] at this;exact this
  rw[f0];cases its with
  | nil=>simp
  | cons a r'=>rw[if_neg (by simp)]
 refine wpAny_binaryOp_repeat_ref (T:="list") (U:="int") (by decide) ⟨_,e,rfl⟩ (λs'=>typeIs_int s' k t) noFill_list_mul F.fills_int_mul F.slot_int_rmul repeat_list F.slot_int_index.lookup
  (call_meets F.slot_int_rmul (typeIs_int s k t) F.entry_int_rmul (F.args_int_rmul_2 _ _) (int___rmul___int_list k t l its.toArray n)
   ⟨e,rfl,⟨_,e,rfl⟩,call_meets F.slot_list_mul ⟨_,e,rfl⟩ F.entry_list_mul (F.args_list_mul_2 _ _) (AutoListH.list___mul___list_int_3 l its.toArray n k t hfit hcap hlong) ⟨e,?_⟩⟩)
 rw[hnew];exact⟨.ref _,_,I.lnew (t':=s.toks) (r.rep k.toNat) (by rw[AM,Nat.mul_comm];exact hz),rfl,q _ I.fresh⟩
def LY:R2:=λx y H Q=>rI CMul (λi j=>.int (i*j)) x y H Q\/CB x y H Q
theorem tF:dU LY ig:=by
 intro Y F H σd σ v u x y Qd Q R rx ry q g;unfold ig at q
 split at q
 ·obtain rfl:=rx.int;obtain rfl:=ry.int
  exact .inl ⟨_,_,rfl,rfl,q.1,g.val R (.int _) q.2⟩
 ·obtain⟨a,vs,rfl,h1,r1⟩:=rx.lst;obtain rfl:=ry.int
  exact .inr ⟨a,_,vs,rfl,rfl,h1,q.1.1,q.1.2.1,by rw[r1.length];exact q.1.2.2,g.own R (r1.rep _) q.2⟩
 ·exact q.elim
theorem fQ {a b:Expr}{ta tb:TV}{pos:Pos}(ha:EO G k S a ta)(hb:EO G k S b tb):EX G k S (.BinOp a .Mult b pos) (ay ig ta tb):=fO (r:=λ_=>LY) (λ_=>op_mul.or AS) (λ_=>tF) ha hb
def fR (t:TV):TV:=λσ Q=>t σ λx σ1=>match drf σ1 x with
 | some (.int i)=>Q (.val (.int (-i))) σ1
 | _=>False
theorem ei {a:Expr}{ta:TV}{pos:Pos}(ha:EO G k S a ta):EO G k S (.UnaryOp .USub a pos) (fR ta):=.mk λX Y ok=>aP (LG DZ (ha X Y ok)) λσ H Q q=>by
 obtain⟨F,σd,Qd,R,q,K⟩:=q;refine⟨F,σd,_,R,q,λv1 H1 F1 x σ1 s1 R1 r1 q1=>?_⟩
 split at q1
 ·rename_i i e
  obtain rfl:=(R1.drf r1 e).int;exact⟨i,rfl,K _ H1 F1 (.val (.int (-i))) σ1 s1 R1 (.int _) q1⟩
 ·exact q1.elim
end Vc


namespace Vc
open PySem L2
variable [KF]
variable {G:GE}{k:Nat}{S:Stat}

mutual
def cO:D->D->Bool
 | .non,.non=>true
 | .bl a,.bl b=>a==b
 | .bl a,.int j=>(if a then 1 else 0)==j
 | .int i,.bl b=>i==(if b then 1 else 0)
 | .int i,.int j=>i==j
 | .str x,.str y=>x==y
 | .lst xs,.lst ys=>fS xs ys
 | .tup xs,.tup ys=>fS xs ys
 | _,_=>false
def fS:List D->List D->Bool
 | [],[]=>true
 | x::xs,y::ys=>cO x y&&fS xs ys
 | _,_=>false
end
def bx:Nat->D->Bool
 | _,.non=>true
 | _,.bl _=>true
 | _,.int _=>true
 | _,.str x=>x.cps.all (· < 0x110000)
 | n+1,.tup xs=>xs.all (bx n)
 | n+1,.lst xs=>xs.all (bx n)
 | _,_=>false
mutual
def eD:D->PyData
 | .non=>.none
 | .bl b=>.bool b
 | .int i=>.int i
 | .str x=>.str x
 | .tup xs=>.tuple (eo xs)
 | .lst xs=>.list (eo xs)
 | _=>.none
def eo:List D->List PyData
 | []=>[]
 | x::xs=>eD x::eo xs
end

theorem lU {n m:Nat}(ih:∀ x y,bx n x=true->bx m y=true->cO x y=PyData.eqv (eD x) (eD y)):∀ xs ys:List D,xs.all (bx n)=true->ys.all (bx m)=true->fS xs ys=PyData.eqvAll (eo xs) (eo ys)
 | [],[],_,_=>rfl
 | [],_::_,_,_=>rfl
 | _::_,[],_,_=>rfl
 | x::xs,y::ys,h1,h2=>by
  rw[List.all_cons,Bool.and_eq_true] at h1 h2;show (cO x y&&fS xs ys)=(PyData.eqv (eD x) (eD y)&&PyData.eqvAll (eo xs) (eo ys));rw[ih x y h1.1 h2.1,lU ih xs ys h1.2 h2.2]
theorem qu:∀ (n m:Nat) (x y:D),bx n x=true->bx m y=true->cO x y=PyData.eqv (eD x) (eD y):=by
 intro n
 induction n with
 | zero =>
  intro m x y h1 h2;cases x with
  | tup _=>exact absurd h1 (by simp [bx])
  | lst _=>exact absurd h1 (by simp [bx])
  | dct _=>exact absurd h1 (by simp [bx])
  | exc _=>exact absurd h1 (by simp [bx])
  | scr _=>exact absurd h1 (by simp [bx])
  | _=>cases y<;>first|rfl | (cases m<;>exact absurd h2 (by simp [bx]))
 | succ n ih =>
  intro m x y h1 h2;cases x with
  | tup xs =>
   cases y with
   | tup ys =>
    cases m with
    | zero=>exact absurd h2 (by simp [bx])
    | succ m=>exact lU (ih m) xs ys h1 h2
   | _=>first|rfl | (cases m<;>exact absurd h2 (by simp [bx]))
  | lst xs =>
   cases y with
   | lst ys =>
    cases m with
    | zero=>exact absurd h2 (by simp [bx])
    | succ m=>exact lU (ih m) xs ys h1 h2
   | _=>first|rfl | (cases m<;>exact absurd h2 (by simp [bx]))
  | dct _=>exact absurd h1 (by simp [bx])
  | exc _=>exact absurd h1 (by simp [bx])
  | scr _=>exact absurd h1 (by simp [bx])
  | _=>cases y<;>first|rfl | (cases m<;>exact absurd h2 (by simp [bx]))
theorem fC {n:Nat}(ih:∀ x,bx n x=true->(eD x).canLay0=true/\(eD x).depth<=n):∀ xs:List D,xs.all (bx n)=true->PyData.canLayAll0 (eo xs)=true/\PyData.depthAll (eo xs)<=n
 | [],_=>⟨rfl,Nat.zero_le _⟩
 | x::xs,h=>by
  rw[List.all_cons,Bool.and_eq_true] at h;have h1:=ih x h.1;have h2:=fC ih xs h.2;refine⟨?_,?_⟩
  ·show ((eD x).canLay0&&PyData.canLayAll0 (eo xs))=true
   rw[h1.1,h2.1];rfl
  ·show max (eD x).depth (PyData.depthAll (eo xs))<=n
   exact Nat.max_le.mpr ⟨h1.2,h2.2⟩
theorem AU:∀ (n:Nat) (x:D),bx n x=true->(eD x).canLay0=true/\(eD x).depth<=n:=by
 intro n
 induction n with
 | zero =>
  intro x h;cases x with
  | tup _=>exact absurd h (by simp [bx])
  | lst _=>exact absurd h (by simp [bx])
  | dct _=>exact absurd h (by simp [bx])
  | exc _=>exact absurd h (by simp [bx])
  | scr _=>exact absurd h (by simp [bx])
  | _=>first|exact⟨rfl,Nat.zero_le _⟩ | (exact⟨by simpa [bx,eD,PyData.canLay0,PyData.strOk] using h,Nat.zero_le _⟩)
 | succ n ih =>
  intro x h;cases x with
  | tup xs =>
   have:=fC ih xs h;exact⟨this.1,Nat.succ_le_succ this.2⟩
  | lst xs =>
   have:=fC ih xs h;exact⟨this.1,Nat.succ_le_succ this.2⟩
  | dct _=>exact absurd h (by simp [bx])
  | exc _=>exact absurd h (by simp [bx])
  | scr _=>exact absurd h (by simp [bx])
  | _=>first|exact⟨rfl,Nat.zero_le _⟩ | (exact⟨by simpa [bx,eD,PyData.canLay0,PyData.strOk] using h,Nat.zero_le _⟩)
section
variable {P:Program}{w:World}{F H:Hp}{h:Heap}
mutual
theorem Rep.reads (ok:HOk P w H h)(s:Same F H):∀ {v:V} {d:D} {u:Value} (n:Nat),Rep F v d->RelV v u->bx n d=true->∃ as,Reads h u (eD d) as
 | _,_,_,_,.non,e,_=>by cases e;exact⟨_,.none⟩
 | _,_,_,_,.bl b,e,_=>by cases e;exact⟨_,.bool b⟩
 | _,_,_,_,.int i,e,_=>by obtain⟨t,rfl⟩:=e;exact⟨_,.int i t⟩
 | _,_,_,_,.str x,e,_=>by obtain⟨t,rfl⟩:=e;exact⟨_,.str x t⟩
 | _,_,_,0,.tup _ _,_,o=>by exact absurd o (by simp [bx])
 | _,_,_,0,.lst _ _,_,o=>by exact absurd o (by simp [bx])
 | _,_,_,n+1,.tup (a:=a) (vs:=vs) hf r,e,o=>by
  cases e;obtain⟨_,its,rv,ob,ho,hc,m,hd⟩:=ok a _ (s a _ hf);obtain⟨as,q⟩:=RepL.reads ok s n r rv o;exact⟨as,.tuple ho hc hd q⟩
 | _,_,_,n+1,.lst (a:=a) (vs:=vs) hf r,e,o=>by
  cases e;obtain⟨_,its,m,rv,ho⟩:=L2.Rd.ok (Rd.mono s hf) ok;obtain⟨as,q⟩:=RepL.reads ok s n r rv o;exact⟨_,.list ho rfl rfl q⟩
 | _,_,_,n,.scr _,_,o=>by cases n<;>exact absurd o (by simp [bx])
 | _,_,_,n,.exc _,_,o=>by cases n<;>exact absurd o (by simp [bx])
 | _,_,_,n,.dctT _ _,_,o=>by cases n<;>exact absurd o (by simp [bx])
theorem RepL.reads (ok:HOk P w H h)(s:Same F H):∀ {vs:List V} {ds:List D} {us:List Value} (n:Nat),RepL F vs ds->Vals vs us->ds.all (bx n)=true->∃ as,ReadsAll h us (eo ds) as
 | _,_,_,_,.nil,.nil,_=>⟨_,.nil⟩
 | _,_,_,n,.cons r t,.cons e f,o=>by
  rw[List.all_cons,Bool.and_eq_true] at o;obtain⟨as,h1⟩:=Rep.reads ok s n r e o.1;obtain⟨bs,h2⟩:=RepL.reads ok s n t f o.2;exact⟨_,.cons h1 h2⟩
end
theorem RepH.reads (ok:HOk P w H h)(s:Same F H){v:V}{d:D}{u:Value}(r:RepH F H v d)(e:RelV v u)(o:bx 8 d=true):∃ as,Reads h u (eD d) as:=by
 cases d with
 | lst xs =>
  obtain⟨a,vs,rfl,hf,r⟩:=r;cases e;obtain⟨_,its,n,rv,ho⟩:=L2.Rd.ok hf ok;obtain⟨as,q⟩:=RepL.reads ok s 7 r rv o;exact⟨_,.list ho rfl rfl q⟩
 | _=>exact Rep.reads ok s 8 r e o
end
theorem cV {x:D}(h:bx 8 x=true):PySem.SeqAt.shaped (eD x)=true:=by
 obtain⟨h1,h2⟩:=AU 8 x h;unfold PySem.SeqAt.shaped;rw[h1,decide_eq_true (by omega)];rfl

def AV (neg:Bool):R2:=λv u H Q=>∃ F x y,Same F H/\RepH F H v x/\RepH F H u y/\bx 8 x=true/\bx 8 y=true/\Q (.bl (if neg then !cO x y else cO x y)) H
theorem Ew {X:Cx}(hu:X.A.units+64 < cLine):OpR X (compareOp .Eq) (AV false):=by
 intro pins s σ H v u v' u' Q I rv ru h;obtain⟨F,x,y,sm,rx,ry,ox,oy,q⟩:=h;obtain⟨as,r1⟩:=rx.reads I.hok sm rv ox;obtain⟨bs,r2⟩:=ry.reads I.hok sm ru oy;refine PyProof.Rows.eq_dataH r1 r2 (cV ox) (cV oy) hu ⟨.bl (cO x y),H,I,?_,q⟩;rw[qu 8 8 x y ox oy];rfl
theorem Ex {X:Cx}(hu:X.A.units+64 < cLine):OpR X (compareOp .NotEq) (AV true):=by
 intro pins s σ H v u v' u' Q I rv ru h;obtain⟨F,x,y,sm,rx,ry,ox,oy,q⟩:=h;obtain⟨as,r1⟩:=rx.reads I.hok sm rv ox;obtain⟨bs,r2⟩:=ry.reads I.hok sm ru oy;refine PyProof.Rows.ne_dataH r1 r2 (cV ox) (cV oy) hu ⟨.bl (!cO x y),H,I,?_,q⟩;rw[qu 8 8 x y ox oy];rfl
end Vc


namespace Vc
open PySem L2
variable [KF]
variable {G:GE}{k:Nat}{S:Stat}

def jH (r:R2)(f:D->D->(Bool->Prop)->Prop):Prop :=
 ∀ Y F H σd σ v u x y (Qd:Bool->Prop) (Q:VK),RS Y F σd σ H->RepH F H v x->RepH F H u y->f x y Qd->(∀ b,Qd b->Q (.bl b) H)->r v u H Q
def aL (f:D->D->(Bool->Prop)->Prop)(ta tb:TV):TB:=λσ Q=>ta σ λx σ1=>tb σ1 λy σ2=>match drf σ2 x,drf σ2 y with
 | some a,some b=>f a b λr=>Q r σ2
 | _,_=>False
def bV (t:TB):TV:=λσ Q=>t σ λb σ1=>Q (.val (.bl b)) σ1
theorem kW {Y:Dyn}{r:R2}{f:D->D->(Bool->Prop)->Prop}(hs:jH r f){ta tb:TV}{σ:St}{H:Hp}{Q:VK}{F:Hp}{σd:Sd}{Qd:Bool->Sd->Prop}(R:RS Y F σd σ H)(q:aL f ta tb σd Qd)
  (K:∀ b H' F' σd',Same F F'->RS Y F' σd' σ H'->Qd b σd'->Q (.bl b) H'):Ln r (lO Y ta) (lO Y tb) σ H Q:=by
 refine⟨F,σd,_,R,q,λv1 H1 F1 x σ1 s1 R1 r1 q1=>?_⟩;refine⟨F1,σ1,_,R1,q1,λv2 H2 F2 y σ2 s2 R2 r2 q2=>?_⟩
 split at q2
 ·rename_i a b ea eb
  exact hs Y F2 H2 σ2 σ v1 v2 a b _ Q R2 (R2.drf (r1.mono s2) ea) (R2.drf r2 eb) q2 λc qc=>K c H2 F2 σ2 (s1.trans s2) R2 qc
 ·exact q2.elim
def nZ (G:GE)(k:Nat)(S:Stat)(op:CmpOp)(f:D->D->(Bool->Prop)->Prop):Prop:=∃ r:R2,(∀ X Y,XOk X G k S Y->OpR X (compareOp op) r)/\jH r f
theorem aJ {op:CmpOp}{f:D->D->(Bool->Prop)->Prop}(h:nZ G k S op f){a b:Expr}{ta tb:TV}{pos:Pos}(ha:EO G k S a ta)(hb:EO G k S b tb)(hm:behindInMarks op b=false:=by first|exact uq _|with_unfolding_all rfl) :
  EB G k S (.Compare a [op] [b] pos) (aL f ta tb):=.mk λX Y ok=>by
 obtain⟨r,ho,hs⟩:=h;refine qr (AC (ho X Y ok) (ha X Y ok) (hb X Y ok) hm) λσ H Q q=>?_;obtain⟨F,σd,Qd,R,q,K⟩:=q;exact kW hs R q λb H' F' σd' s R' qq=>⟨b,rfl,K b H' F' σd' s R' qq⟩
theorem fU {op:CmpOp}{f:D->D->(Bool->Prop)->Prop}(h:nZ G k S op f){a b:Expr}{ta tb:TV}{pos:Pos}(ha:EO G k S a ta)(hb:EO G k S b tb)(hm:behindInMarks op b=false:=by first|exact uq _|with_unfolding_all rfl) :
  EO G k S (.Compare a [op] [b] pos) (bV (aL f ta tb)):=.mk λX Y ok=>by
 obtain⟨r,ho,hs⟩:=h;refine aP (AB (ho X Y ok) (ha X Y ok) (hb X Y ok) hm) λσ H Q q=>?_;obtain⟨F,σd,Qd,R,q,K⟩:=q;exact kW hs R q λb H' F' σd' s R' qq=>K _ H' F' (.val (.bl b)) σd' s R' (.bl b) qq
def hJ (x y:D)(Q:Bool->Prop):Prop:=(bx 8 x=true/\bx 8 y=true)/\Q (cO x y)
def qv (x y:D)(Q:Bool->Prop):Prop:=(bx 8 x=true/\bx 8 y=true)/\Q (!cO x y)
theorem cJ:nZ G k S .Eq hJ:=⟨AV false,λX Y ok=>Ew ok.units,λY F H σd σ v u x y Qd Q R rx ry q K=>⟨F,x,y,R.fr,rx,ry,q.1.1,q.1.2,K _ q.2⟩⟩
theorem ii:nZ G k S .NotEq qv:=⟨AV true,λX Y ok=>Ex ok.units,λY F H σd σ v u x y Qd Q R rx ry q K=>⟨F,x,y,R.fr,rx,ry,q.1.1,q.1.2,K _ q.2⟩⟩
def Lp (p:Int->Int->Bool):D->D->(Bool->Prop)->Prop
 | .int i,.int j,Q=>Q (p i j)
 | _,_,_=>False
theorem ik {p:Int->Int->Bool}:jH (Az λi j=>.bl (p i j)) (Lp p):=λY F H σd σ v u x y Qd Q R rx ry q K=>by
 unfold Lp at q
 split at q
 ·obtain rfl:=rx.int;obtain rfl:=ry.int
  exact⟨_,_,rfl,rfl,K _ q⟩
 ·exact q.elim
def uI:=Lp λi j=>decide (i < j)
def Pk:=Lp λi j=>decide (j < i)
def Lq:=Lp λi j=>decide (j<=i)
theorem qw:nZ G k S .Lt uI:=⟨_,λ_ _ _=>LI,ik⟩
theorem LZ:nZ G k S .Gt Pk:=⟨_,λ_ _ _=>LJ,ik⟩
theorem AW:nZ G k S .GtE Lq:=⟨_,λ_ _ _=>LK,ik⟩
def isNone:D->Bool
 | .non=>true
 | _=>false
def Ey (x y:D)(Q:Bool->Prop):Prop:=isNone y=true/\Q (!isNone x)
theorem RepH.isNone {F H:Hp}{v:V}{x:D}(r:RepH F H v x):decide (v=.non)=isNone x:=by
 cases x with
 | lst xs=>obtain⟨a,vs,rfl,_⟩:=r;rfl
 | dct _=>cases (show Rep F v (.dct _) from r);rfl
 | exc _=>cases (show Rep F v (.exc _) from r);rfl
 | scr _=>cases (show Rep F v (.scr _) from r);rfl
 | non=>obtain rfl:=r.non;rfl
 | bl _=>obtain rfl:=r.bl;rfl
 | int _=>obtain rfl:=r.int;rfl
 | str _=>obtain rfl:=r.str;rfl
 | tup _=>cases (show Rep F v (.tup _) from r);rfl
theorem RepH.noneEq {F H:Hp}{v:V}{x:D}(r:RepH F H v x)(h:Vc.isNone x=true):v=.non:=by
 cases x<;>first|exact r.non|cases h
theorem Ma:nZ G k S .IsNot Ey:=⟨_,λ_ _ _=>AA,λY F H σd σ v u x y Qd Q R rx ry q K=>⟨ry.noneEq q.1,by rw[rx.isNone];exact K _ q.2⟩⟩

def Ez:D->(Bool->Prop)->Prop
 | .non,Q=>Q false
 | .bl b,Q=>Q b
 | .int i,Q=>Q (i != 0)
 | .lst xs,Q=>Q (!xs.isEmpty)
 | .tup xs,Q=>Q (!xs.isEmpty)
 | _,_=>False
def ji (t:TV):TB:=λσ Q=>t σ λx σ1=>match drf σ1 x with
 | some d=>Ez d λb=>Q b σ1
 | none=>False
theorem fV {F:Hp}{vs:List V}{xs:List D}(r:RepL F vs xs):(!xs.isEmpty)=!vs.isEmpty:=by cases r<;>rfl
theorem dy {e:Expr}{t:TV}(h:EO G k S e t)(he:∀ env whole,isTrue e env whole=(do let v <- whole;standAt e.pos;holding [v] (truthy v)):=by intro _ _;rfl):EB G k S e (ji t):=.mk λX Y ok=>by
 refine qr (ur (h X Y ok) (he _)) λσ H Q q=>?_;obtain⟨F,σd,Qd,R,q,K⟩:=q;refine⟨F,σd,_,R,q,λv1 H1 F1 x σ1 s1 R1 r1 q1=>?_⟩
 split at q1
 ·rename_i d ed
  have r:=R1.drf r1 ed;unfold Ez at q1
  split at q1
  ·obtain rfl:=r.non;exact⟨false,rfl,K _ H1 F1 σ1 s1 R1 q1⟩
  ·rename_i b;obtain rfl:=r.bl;exact⟨b,rfl,K _ H1 F1 σ1 s1 R1 q1⟩
  ·rename_i i;obtain rfl:=r.int;exact⟨_,rfl,K _ H1 F1 σ1 s1 R1 q1⟩
  ·rename_i xs;obtain⟨a,vs,rfl,h1,h2⟩:=r.lst
   exact⟨!xs.isEmpty,.inl ⟨vs,.inl h1,fV h2⟩,K _ H1 F1 σ1 s1 R1 q1⟩
  ·rename_i xs;obtain⟨a,vs,rfl,h1,h2⟩:=r.tup R1.fr
   exact⟨!xs.isEmpty,.inr (.inl ⟨vs,.inl (.inl h1),fV h2⟩),K _ H1 F1 σ1 s1 R1 q1⟩
  ·exact q1.elim
 ·exact q1.elim
def dn (t u:TB):TB:=λσ Q=>t σ λc σ1=>if c=true then u σ1 Q else Q false σ1
def jj (t u:TB):TB:=λσ Q=>t σ λc σ1=>if c=true then Q true σ1 else u σ1 Q
def cZ (t:TB):TB:=λσ Q=>t σ λc σ1=>Q (!c) σ1
structure EW (G:GE)(k:Nat)(S:Stat)(e:Expr)(t:TB) :Prop where
 run:∀ X Y,XOk X G k S Y->PW X e (lB Y t)
instance {G:GE} {k:Nat} {S:Stat} {e:Expr} {t:TB} :CoeFun (EW G k S e t) λ_=>∀ X Y,XOk X G k S Y->PW X e (lB Y t):=⟨EW.run⟩
theorem uJ {X:Cx}{e:Expr}{t t':TT}(h:PW X e t)(i:∀ σ H Q,t' σ H Q->t σ H Q):PW X e t':=λwh pins s σ H Q I q=>h wh pins s σ H Q I (i σ H Q q)
section
variable {a b:Expr}{rest:List Expr}{ta tb:TB}{pos:Pos}
theorem rK (h:EW G k S a ta):EB G k S a ta:=.mk λX Y ok=>(h X Y ok).pt
theorem jI (ha:EB G k S a ta):EW G k S (.BoolOp .And [a] pos) ta:=.mk λX Y ok=>Au (ha X Y ok)
theorem fW (ha:EB G k S a ta):EW G k S (.BoolOp .Or [a] pos) ta:=.mk λX Y ok=>DG (ha X Y ok)
theorem jJ (ha:EB G k S a ta)(hb:EW G k S (.BoolOp .And (b::rest) pos) tb):EW G k S (.BoolOp .And (a::b::rest) pos) (dn ta tb):=.mk λX Y ok=>uJ (DH (ha X Y ok) (hb X Y ok)) λσ H Q q=>by
 obtain⟨F,σd,Qd,R,q,K⟩:=q;refine⟨F,σd,_,R,q,λc H1 F1 σ1 s1 R1 q1=>?_⟩;cases c with
 | true=>exact⟨F1,σ1,Qd,R1,q1,λb H' F' σd' s R' qq=>K b H' F' σd' (s1.trans s) R' qq⟩
 | false=>exact K false H1 F1 σ1 s1 R1 q1
theorem kB (ha:EB G k S a ta)(hb:EW G k S (.BoolOp .Or (b::rest) pos) tb):EW G k S (.BoolOp .Or (a::b::rest) pos) (jj ta tb):=.mk λX Y ok=>uJ (Lu (ha X Y ok) (hb X Y ok)) λσ H Q q=>by
 obtain⟨F,σd,Qd,R,q,K⟩:=q;refine⟨F,σd,_,R,q,λc H1 F1 σ1 s1 R1 q1=>?_⟩;cases c with
 | false=>exact⟨F1,σ1,Qd,R1,q1,λb H' F' σd' s R' qq=>K b H' F' σd' (s1.trans s) R' qq⟩
 | true=>exact K true H1 F1 σ1 s1 R1 q1
theorem dA (ha:EB G k S a ta):EB G k S (.UnaryOp .Not a pos) (cZ ta):=.mk λX Y ok=>qr (DI (ha X Y ok)) λσ H Q q=>by
 obtain⟨F,σd,Qd,R,q,K⟩:=q;exact⟨F,σd,_,R,q,λc H1 F1 σ1 s1 R1 q1=>K _ H1 F1 σ1 s1 R1 q1⟩
end
structure EV' (G:GE)(k:Nat)(S:Stat)(e:Expr)(t:TB) :Prop where
 run:∀ X Y,XOk X G k S Y->PE X e (λσ H Q=>lB Y t σ H λb H'=>Q (.bl b) H')
instance {G:GE} {k:Nat} {S:Stat} {e:Expr} {t:TB} :CoeFun (EV' G k S e t) λ_=>∀ X Y,XOk X G k S Y->PE X e (λσ H Q=>lB Y t σ H λb H'=>Q (.bl b) H'):=⟨EV'.run⟩
section
variable {a b:Expr}{rest:List Expr}{ta tb:TB}{pos:Pos}
def er (t:TV):TB:=λσ Q=>t σ λx σ1=>match drf σ1 x with
 | some (.bl b)=>Q b σ1
 | _=>False
theorem kC {t:TV}(h:EO G k S a t):EV' G k S a (er t):=.mk λX Y ok=>aP (h X Y ok) λσ H Q q=>by
 obtain⟨F,σd,Qd,R,q,K⟩:=q;refine⟨F,σd,_,R,q,λv1 H1 F1 x σ1 s1 R1 r1 q1=>?_⟩
 split at q1
 ·rename_i b eb
  obtain rfl:=(R1.drf r1 eb).bl;exact K b H1 F1 σ1 s1 R1 q1
 ·exact q1.elim
theorem rL {op:BoolOp}(h:EV' G k S a ta):EV' G k S (.BoolOp op [a] pos) ta:=.mk λX Y ok=>DJ (h X Y ok)
theorem rM (ha:EV' G k S a ta)(hb:EV' G k S (.BoolOp .And (b::rest) pos) tb):EV' G k S (.BoolOp .And (a::b::rest) pos) (dn ta tb):=.mk λX Y ok=>aP (DK (ha X Y ok) (hb X Y ok)) λσ H Q q=>by
 obtain⟨F,σd,Qd,R,q,K⟩:=q;refine⟨F,σd,_,R,q,λc H1 F1 σ1 s1 R1 q1=>⟨c,rfl,?_⟩⟩;cases c with
 | true=>exact⟨F1,σ1,Qd,R1,q1,λb H' F' σd' s R' qq=>K b H' F' σd' (s1.trans s) R' qq⟩
 | false=>exact K false H1 F1 σ1 s1 R1 q1
theorem AX (h:EV' G k S a ta):EO G k S a (bV ta):=.mk λX Y ok=>aP (h X Y ok) λσ H Q q=>by
 obtain⟨F,σd,Qd,R,q,K⟩:=q;exact⟨F,σd,_,R,q,λb H1 F1 σ1 s1 R1 q1=>K _ H1 F1 (.val (.bl b)) σ1 s1 R1 (.bl b) q1⟩
theorem CC (ha:EV' G k S a ta):EO G k S (.UnaryOp .Not a pos) (bV (cZ ta)):=.mk λX Y ok=>aP (DL (ha X Y ok)) λσ H Q q=>by
 obtain⟨F,σd,Qd,R,q,K⟩:=q;exact⟨F,σd,_,R,q,λc H1 F1 σ1 s1 R1 q1=>⟨c,rfl,K _ H1 F1 (.val (.bl (!c))) σ1 s1 R1 (.bl _) q1⟩⟩
end
end Vc


namespace Vc
open PySem L2
variable [KF]
variable {G:GE}{k:Nat}{S:Stat}

theorem RepL.atI {F:Hp}{vs:List V}{xs:List D}{i:Int}{d:D}(r:RepL F vs xs)(h:L2.atI xs i=some d):∃ v,L2.atI vs i=some v/\Rep F v d:=by
 unfold L2.atI at h ⊢;rw[r.length];cases e:ixN xs.length i with
 | none=>rw[e] at h;cases h
 | some j =>
  rw[e] at h;exact r.get (i:=j) h
def og:D->D->(D->Prop)->Prop
 | .lst xs,.int i,Q=>match atI xs i with
  | some d=>Q d
  | none=>False
 | .tup xs,.int i,Q=>match atI xs i with
  | some d=>Q d
  | none=>False
 | .str z,.int i,Q=>z.length<=sizeLine/\match atI z.cps.toList i with
  | some c=>Q (.str ⟨#[c]⟩)
  | none=>False
 | .scr ns,.int i,Q=>match atI ns i with
  | some n=>Q (.int n)
  | none=>False
 | _,_,_=>False
theorem AY {α β:Type}(f:α->β){xs:List α}{i:Int}{a:α}(h:L2.atI xs i=some a):L2.atI (xs.map f) i=some (f a):=by
 unfold L2.atI at h ⊢;rw[List.length_map];cases e:ixN xs.length i with
 | none=>rw[e] at h;cases h
 | some j =>
  rw[e] at h;have h:xs[j]?=some a:=h;show (xs.map f)[j]?=_;rw[List.getElem?_map,h];rfl
def cP (ta tb:TV):TV:=λσ Q=>ta σ λx σ1=>tb σ1 λy σ2=>match drf σ2 x,drf σ2 y with
 | some a,some b=>og a b λr=>Q (.val r) σ2
 | _,_=>False
theorem bA {a b:Expr}{ta tb:TV}{pos:Pos}(ha:EO G k S a ta)(hb:EO G k S b tb)(hs:rD b:=by intro _ _;rfl):EO G k S (.Subscript a b pos) (cP ta tb):=.mk λX Y ok =>
 aP (LQ Ei (ha X Y ok) (hb X Y ok) hs) λσ H Q q=>by
  obtain⟨F,σd,Qd,R,q,K⟩:=q;refine⟨F,σd,_,R,q,λv1 H1 F1 x σ1 s1 R1 r1 q1=>?_⟩;refine⟨F1,σ1,_,R1,q1,λv2 H2 F2 y σ2 s2 R2 r2 q2=>?_⟩
  split at q2
  ·rename_i a b ea eb
   have rx:=R2.drf (r1.mono s2) ea;have ry:=R2.drf r2 eb;have fin:∀ {v d},Rep F2 v d->Qd (.val d) σ2->Q v H2:=λr qq=>K _ H2 F2 (.val _) σ2 (s1.trans s2) R2 r qq;unfold og at q2
   split at q2
   ·obtain⟨p,vs,rfl,h1,r1⟩:=rx.lst;obtain rfl:=ry.int
    split at q2
    ·rename_i d e
     obtain⟨v,ev,rv⟩:=r1.atI e;exact .inl ⟨p,vs,_,v,rfl,rfl,.inl h1,ev,fin rv q2⟩
    ·exact q2.elim
   ·obtain⟨p,vs,rfl,h1,r1⟩:=rx.tup R2.fr;obtain rfl:=ry.int
    split at q2
    ·rename_i d e
     obtain⟨v,ev,rv⟩:=r1.atI e;exact .inr (.inl ⟨p,vs,_,v,rfl,rfl,.of h1,ev,fin rv q2⟩)
    ·exact q2.elim
   ·obtain rfl:=rx.str;obtain rfl:=ry.int
    obtain⟨hz,q2⟩:=q2
    split at q2
    ·rename_i c e
     exact .inr (.inr ⟨_,_,c,rfl,rfl,hz,e,fin (.str _) q2⟩)
    ·exact q2.elim
   ·rename_i ns i
    have rx:Rep F2 v1 (.scr ns):=rx;obtain rfl:=ry.int;cases rx with
    | scr h =>
     split at q2
     ·rename_i n e
      exact .inl ⟨_,ns.map V.int,_,.int n,rfl,rfl,by rw[ok.kf];exact R2.fr.seq h,AY V.int e,fin (.int _) q2⟩
     ·exact q2.elim
   ·exact q2.elim
  ·exact q2.elim

theorem il {F:Hp}:∀ ns:List Int,RepL F (ns.map V.int) (ns.map D.int)
 | []=>.nil
 | n::ns=>.cons (.int n) (il ns)
theorem RepH.scr {F H:Hp}(s:Same F H){v:V}{ns:List Int}(r:RepH F H v (.scr ns)):∃ a,v=.ref a/\SqL KF.K H a (ns.map V.int):=by
 cases (show Rep F v (.scr ns) from r) with
 | scr h=>exact⟨_,rfl,s.seq h⟩
abbrev AZ:=Sd->(Option Int->Sd->Prop)->Prop
def lP (Y:Dyn)(t:AZ):TO:=λσ H Q=>∃ F σd Qd,RS Y F σd σ H/\t σd Qd/\∀ o H' F' σd',Same F F'->RS Y F' σd' σ H'->Qd o σd'->Q o H'
structure EPt (G:GE)(k:Nat)(S:Stat)(e:Option Expr)(t:AZ) :Prop where
 run:∀ X Y,XOk X G k S Y->PO X e (lP Y t)
instance {G:GE} {k:Nat} {S:Stat} {e:Option Expr} {t:AZ} :CoeFun (EPt G k S e t) λ_=>∀ X Y,XOk X G k S Y->PO X e (lP Y t):=⟨EPt.run⟩
theorem uK {X:Cx}{e:Option Expr}{t t':TO}(h:PO X e t)(i:∀ σ H Q,t' σ H Q->t σ H Q):PO X e t':=λpins s σ H Q I q=>h pins s σ H Q I (i σ H Q q)
def iV:AZ:=λσ Q=>Q none σ
def fm (t:TV):AZ:=λσ Q=>t σ λx σ1=>match drf σ1 x with
 | some (.int i)=>Q (some i) σ1
 | _=>False
theorem bv:EPt G k S none iV:=.mk λX Y ok=>uK AG λσ H Q q=>by
 obtain⟨F,σd,Qd,R,q,K⟩:=q;exact K none H F σd (Same.refl _) R q
theorem aZ {e:Expr}{t:TV}(h:EO G k S e t):EPt G k S (some e) (fm t):=.mk λX Y ok=>uK (AH (h X Y ok)) λσ H Q q=>by
 obtain⟨F,σd,Qd,R,q,K⟩:=q;refine⟨F,σd,_,R,q,λv1 H1 F1 x σ1 s1 R1 r1 q1=>?_⟩
 split at q1
 ·rename_i i e
  obtain rfl:=(R1.drf r1 e).int;exact⟨i,rfl,K _ H1 F1 σ1 s1 R1 q1⟩
 ·exact q1.elim
def cut {α:Type}(xs:List α)(lo hi:Option Int):List α:=(xs.drop (HT.sIx xs.length 0 lo)).take (HT.sIx xs.length xs.length hi - HT.sIx xs.length 0 lo)
theorem RepL.cut {F:Hp}{vs:List V}{xs:List D}(r:RepL F vs xs)(lo hi:Option Int):RepL F (nQ vs lo hi) (cut xs lo hi):=by
 unfold nQ Vc.cut;rw[r.length];exact (r.drop _).take _
def tN:eG:=λσ Q=>Q [] σ
def aA (t:TD)(u:eG):eG:=λσ Q=>t σ λx σ1=>u σ1 λxs σ2=>Q (x::xs) σ2
theorem ak:EDs G k S [] tN:=.mk λX Y ok=>lQ pa_nil λσ H Q q=>by
 obtain⟨F,σd,Qd,R,q,K⟩:=q;exact K [] H F [] σd (Same.refl _) R .nil q
theorem ad {e:Expr}{es:List Expr}{t:TD}{u:eG}(h:ED G k S e t)(hs:EDs G k S es u)(he:∀ env,starEach (e::es) env=(false,eval e env)::starEach es env:=by exact λ_=>Vc.se_cons rfl):EDs G k S (e::es) (aA t u):=.mk λX Y ok =>
 lQ (pa_cons (h X Y ok) (hs X Y ok) (he _)) λσ H Q q=>by
  obtain⟨F,σd,Qd,R,q,K⟩:=q;refine⟨F,σd,_,R,q,λv1 H1 F1 x σ1 s1 R1 r1 q1=>?_⟩;exact⟨F1,σ1,_,R1,q1,λvs H2 F2 xs σ2 s2 R2 r2 q2=>K _ H2 F2 (x::xs) σ2 (s1.trans s2) R2 (.cons (r1.mono s2) r2) q2⟩
def dB (t:eG):TX:=λσ Q=>t σ λxs σ1=>xs.length<=sizeLine/\Q (.own xs) σ1
def eE (t:eG):TV:=λσ Q=>t σ λxs σ1=>xs.length<=sizeLine/\Q (.val (.tup xs)) σ1
theorem bf {es:List Expr}{t:eG}{pos:Pos}(h:EDs G k S es t):EX G k S (.List es pos) (dB t):=.mk λX Y ok=>aP (uu (h X Y ok)) λσ H Q q=>by
 obtain⟨F,σd,Qd,R,q,K⟩:=q;refine⟨F,σd,_,R,q,λvs H1 F1 xs σ1 s1 R1 r1 q1=>⟨by rw[r1.length];exact q1.1,?_⟩⟩
 have g:Goes Y F1 σ1 σ (λr=>Qd r σ1) Q:=λv H' F' r s R' rr qq=>K v H' F' r σ1 (s1.trans s) R' rr qq;exact g.own R1 r1 q1.2
theorem bq {es:List Expr}{t:eG}{x1}{pos:Pos}(h:EDs G k S es t):EO G k S (.Tuple es x1 pos) (eE t):=.mk λX Y ok=>aP (Ec (h X Y ok)) λσ H Q q=>by
 obtain⟨F,σd,Qd,R,q,K⟩:=q;refine⟨F,σd,_,R,q,λvs H1 F1 xs σ1 s1 R1 r1 q1=>⟨by rw[r1.length];exact q1.1,λp hp=>?_⟩⟩
 have sm:=aG (o:=.tup vs) (bi R1.fr hp);exact K _ _ _ (.val (.tup xs)) σ1 (s1.trans sm) (R1.alloc hp) (.tup aw (r1.mono sm)) q1.2

abbrev qe:=Sd->(List OV->Sd->Prop)->Prop
inductive RepOs (F:Hp)(σ:St):List V->List OV->Prop where
 | nil:RepOs F σ [] []
 | cons {v:V} {x:OV} {vs:List V} {xs:List OV}:RepO F σ v x->RepOs F σ vs xs->RepOs F σ (v::vs) (x::xs)
def PZ (Y:Dyn)(t:qe):TA:=λσ H Q=>∃ F σd Qd,RS Y F σd σ H/\t σd Qd/\∀ vs H' F' xs σd',Same F F'->RS Y F' σd' σ H'->RepOs F' σ vs xs->Qd xs σd'->Q vs H'
structure EOs (G:GE)(k:Nat)(S:Stat)(es:List Expr)(t:qe) :Prop where
 run:∀ X Y,XOk X G k S Y->PA X es (PZ Y t)
instance {G:GE} {k:Nat} {S:Stat} {es:List Expr} {t:qe} :CoeFun (EOs G k S es t) λ_=>∀ X Y,XOk X G k S Y->PA X es (PZ Y t):=⟨EOs.run⟩
def cC:qe:=λσ Q=>Q [] σ
def aX (t:TV)(u:qe):qe:=λσ Q=>t σ λx σ1=>u σ1 λxs σ2=>Q (x::xs) σ2
theorem aR:EOs G k S [] cC:=.mk λX Y ok=>lQ pa_nil λσ H Q q=>by
 obtain⟨F,σd,Qd,R,q,K⟩:=q;exact K [] H F [] σd (Same.refl _) R .nil q
theorem az {e:Expr}{es:List Expr}{t:TV}{u:qe}(h:EO G k S e t)(hs:EOs G k S es u)(he:∀ env,starEach (e::es) env=(false,eval e env)::starEach es env:=by exact λ_=>Vc.se_cons rfl):EOs G k S (e::es) (aX t u):=.mk λX Y ok =>
 lQ (pa_cons (h X Y ok) (hs X Y ok) (he _)) λσ H Q q=>by
  obtain⟨F,σd,Qd,R,q,K⟩:=q;refine⟨F,σd,_,R,q,λv1 H1 F1 x σ1 s1 R1 r1 q1=>?_⟩;exact⟨F1,σ1,_,R1,q1,λvs H2 F2 xs σ2 s2 R2 r2 q2=>K _ H2 F2 (x::xs) σ2 (s1.trans s2) R2 (.cons (r1.mono s2) r2) q2⟩
def drfs (σ:Sd):List OV->Option (List D)
 | []=>some []
 | x::xs=>match drf σ x,drfs σ xs with
  | some d,some ds=>some (d::ds)
  | _,_=>none
inductive RepHs (F H:Hp):List V->List D->Prop where
 | nil:RepHs F H [] []
 | cons {v:V} {x:D} {vs:List V} {xs:List D}:RepH F H v x->RepHs F H vs xs->RepHs F H (v::vs) (x::xs)
theorem RS.drfs {Y:Dyn}{F:Hp}{σd:Sd}{σ:St}{H:Hp}(R:RS Y F σd σ H):∀ {vs:List V} {xs:List OV} {ds:List D},RepOs F σ vs xs->Vc.drfs σd xs=some ds->RepHs F H vs ds
 | _,_,_,.nil,e=>by cases e;exact .nil
 | _,_,_,.cons (x:=x) (xs:=xs) r t,e=>by
  have e:(match Vc.drf σd x,Vc.drfs σd xs with|some d,some ds=>some (d::ds)|_,_=>none)=some _:=e
  split at e
  ·rename_i d ds e1 e2
   cases e;exact .cons (R.drf r e1) (RS.drfs R t e2)
  ·cases e
theorem RepHs.one {F H:Hp}{vs:List V}{d:D}(r:RepHs F H vs [d]):∃ v,vs=[v]/\RepH F H v d:=by
 cases r with
 | cons r t=>cases t;exact⟨_,rfl,r⟩
theorem RepHs.two {F H:Hp}{vs:List V}{d e:D}(r:RepHs F H vs [d,e]):∃ v u,vs=[v,u]/\RepH F H v d/\RepH F H u e:=by
 cases r with
 | cons r t =>
  obtain⟨u,rfl,q⟩:=t.one;exact⟨_,u,rfl,r,q⟩
def kX (r:List V->Hp->VK->Prop)(f:List D->(EV->Prop)->Prop):Prop :=
 ∀ Y F H σd σ vs ds (Qd:EV->Prop) (Q:VK),RS Y F σd σ H->RepHs F H vs ds->f ds Qd->Goes Y F σd σ Qd Q->r vs H Q
def cW (f:List D->(EV->Prop)->Prop)(t:qe):TX:=λσ Q=>t σ λxs σ1=>match drfs σ1 xs with
 | some ds=>f ds λr=>Q r σ1
 | none=>False
theorem kY {Y:Dyn}{r:List V->Hp->VK->Prop}{f:List D->(EV->Prop)->Prop}(hs:kX r f){t:qe}{σ:St}{H:Hp}{Q:VK}(q:lX Y (cW f t) σ H Q):PP r (PZ Y t) σ H Q:=by
 obtain⟨F,σd,Qd,R,q,K⟩:=q;refine⟨F,σd,_,R,q,λvs H1 F1 xs σ1 s1 R1 r1 q1=>?_⟩
 split at q1
 ·rename_i ds e
  exact hs Y F1 H1 σ1 σ vs ds _ Q R1 (R1.drfs r1 e) q1 λv H' F' r s R' rr qq=>K v H' F' r σ1 (s1.trans s) R' rr qq
 ·exact q1.elim
def tG (G:GE)(k:Nat)(S:Stat)(f:Value)(g:List D->(EV->Prop)->Prop):Prop:=∃ r:PySem.W.Frag->List V->Hp->VK->Prop,(∀ X Y,XOk X G k S Y->CallR X f (r X.K))/\kX (r KF.K) g
section
variable {x:Str}{p pos:Pos}{e:Expr}{es:List Expr}{t:qe}{id T:String}{g:List D->(EV->Prop)->Prop}
theorem ce (h:tG G k S (.builtin id) g)(hm:G.mg x=none)(ha:EOs G k S (e::es) t)(hv:bootBuiltins x=some (.builtin id))(hg:S.sc.lookup x=some .globalImplicit:=by rfl)(hn:x≠"__name__":=by decide)(hdb:(x==("__debug__":Str))=false:=by decide)
  (he:∀ env,starEach (e::es) env=(false,eval e env)::starEach es env:=by exact λ_=>Vc.se_cons rfl) (hpl:∀ env,(backTo pos (starEach es env)).any (·.1)=false:=by intro _;rfl):EX G k S (.Call (.Name x p) (e::es) [] pos) (cW g t):=.mk λX Y ok=>by
 obtain⟨r,hc,hs⟩:=h;exact aP (jy (hc X Y ok) (dm ok hg) (by rw[ok.mg];exact hm) hv (ha X Y ok) hn hdb (he _) (hpl _)) λσ H Q q=>kY (by rw[ok.kf];exact hs) q
theorem oh (h:tG G k S (.type T) g)(hm:G.mg x=none)(ha:EOs G k S (e::es) t)(hv:bootBuiltins x=some (.type T))(hg:S.sc.lookup x=some .globalImplicit:=by rfl)(hn:x≠"__name__":=by decide)(hdb:(x==("__debug__":Str))=false:=by decide)
  (he:∀ env,starEach (e::es) env=(false,eval e env)::starEach es env:=by exact λ_=>Vc.se_cons rfl) (hpl:∀ env,(backTo pos (starEach es env)).any (·.1)=false:=by intro _;rfl):EX G k S (.Call (.Name x p) (e::es) [] pos) (cW g t):=.mk λX Y ok=>by
 obtain⟨r,hc,hs⟩:=h;exact aP (tt (hc X Y ok) (dm ok hg) (by rw[ok.mg];exact hm) hv (ha X Y ok) hn hdb (he _) (hpl _)) λσ H Q q=>kY (by rw[ok.kf];exact hs) q
end
def dC:List D->(EV->Prop)->Prop
 | [.lst xs],Q=>Q (.val (.int xs.length))
 | [.tup xs],Q=>Q (.val (.int xs.length))
 | [.scr ns],Q=>Q (.val (.int ns.length))
 | [.str z],Q=>z.length<=sizeLine/\Q (.val (.int z.length))
 | _,_=>False
theorem cQ:tG G k S (.builtin "len") dC:=⟨λK xs H Q=>(∃ p ys,xs=[V.ref p]/\(SqL K H p ys\/SqT K H p ys)/\Q (V.int ys.length) H)\/∃ z,xs=[V.str z]/\z.length<=sizeLine/\Q (V.int z.length) H,λ_ _ _=>call_len_seq.or lJ,λY F H σd σ vs ds Qd Q R r q g=>by
 unfold dC at q
 split at q
 ·obtain⟨v,rfl,rv⟩:=r.one
  obtain⟨p,us,rfl,h1,h2⟩:=rv.lst;exact .inl ⟨p,us,rfl,.inl (.inl h1),by rw[h2.length];exact g.val R (.int _) q⟩
 ·obtain⟨v,rfl,rv⟩:=r.one
  obtain⟨p,us,rfl,h1,h2⟩:=rv.tup R.fr;exact .inl ⟨p,us,rfl,.inr (.of h1),by rw[h2.length];exact g.val R (.int _) q⟩
 ·obtain⟨v,rfl,rv⟩:=r.one
  obtain⟨p,rfl,h1⟩:=rv.scr R.fr;exact .inl ⟨p,_,rfl,.inl h1,by rw[List.length_map];exact g.val R (.int _) q⟩
 ·obtain⟨v,rfl,rv⟩:=r.one
  obtain rfl:=rv.str;exact .inr ⟨_,rfl,q.1,g.val R (.int _) q.2⟩
 ·exact q.elim⟩
def tH:List D->(EV->Prop)->Prop
 | [.int i],Q=>Q (.val (.int (if i < 0 then -i else i)))
 | _,_=>False
theorem uL:tG G k S (.builtin "abs") tH:=⟨λ_=>_,λ_ _ _=>ut,λY F H σd σ vs ds Qd Q R r q g=>by
 unfold tH at q
 split at q
 ·obtain⟨v,rfl,rv⟩:=r.one
  obtain rfl:=rv.int;exact⟨_,rfl,g.val R (.int _) q⟩
 ·exact q.elim⟩
def jK:List D->(EV->Prop)->Prop
 | [.int i,.int j],Q=>Q (.val (.int (if j > i then j else i)))
 | _,_=>False
def kZ:List D->(EV->Prop)->Prop
 | [.int i,.int j],Q=>Q (.val (.int (if j < i then j else i)))
 | _,_=>False
theorem lV (hh:S.hot=false:=by rfl):tG G k S (.builtin "max") jK:=⟨λ_=>_,λ_ _ ok=>sV (ok.calm hh),λY F H σd σ vs ds Qd Q R r q g=>by
 unfold jK at q
 split at q
 ·obtain⟨v,u,rfl,rv,ru⟩:=r.two
  obtain rfl:=rv.int;obtain rfl:=ru.int;exact⟨_,_,rfl,g.val R (.int _) q⟩
 ·exact q.elim⟩
theorem qx (hh:S.hot=false:=by rfl):tG G k S (.builtin "min") kZ:=⟨λ_=>_,λ_ _ ok=>sW (ok.calm hh),λY F H σd σ vs ds Qd Q R r q g=>by
 unfold kZ at q
 split at q
 ·obtain⟨v,u,rfl,rv,ru⟩:=r.two
  obtain rfl:=rv.int;obtain rfl:=ru.int;exact⟨_,_,rfl,g.val R (.int _) q⟩
 ·exact q.elim⟩
def uM:List D->(EV->Prop)->Prop
 | [.int i],Q=>Q (.val (.int i))
 | [.bl b],Q=>Q (.val (.int (if b then 1 else 0)))
 | _,_=>False
theorem CD:tG G k S (.type "int") uM:=⟨λ_=>_,λ_ _ ok=>sX,λY F H σd σ vs ds Qd Q R r q g=>by
 unfold uM at q
 split at q
 ·obtain⟨v,rfl,rv⟩:=r.one
  obtain rfl:=rv.int;exact .inl ⟨_,rfl,g.val R (.int _) q⟩
 ·obtain⟨v,rfl,rv⟩:=r.one
  obtain rfl:=rv.bl;exact .inr ⟨_,rfl,g.val R (.int _) q⟩
 ·exact q.elim⟩
def lb:List D->(EV->Prop)->Prop
 | [.lst xs],Q=>Q (.own xs)
 | [.tup xs],Q=>Q (.own xs)
 | _,_=>False
theorem qy:tG G k S (.type "list") lb:=⟨λK xs H Q=>∃ p ys,xs=[V.ref p]/\(SqL K H p ys\/SqT K H p ys)/\∀ l,H l=none->Q (.ref l) (bz H l (.lst ys)),λ_ _ ok=>lK,λY F H σd σ vs ds Qd Q R r q g=>by
 unfold lb at q
 split at q
 ·obtain⟨v,rfl,rv⟩:=r.one
  obtain⟨p,us,rfl,h1,h2⟩:=rv.lst;exact⟨p,us,rfl,.inl (.inl h1),g.own R h2 q⟩
 ·obtain⟨v,rfl,rv⟩:=r.one
  obtain⟨p,us,rfl,h1,h2⟩:=rv.tup R.fr;exact⟨p,us,rfl,.inr (.of h1),g.own R h2 q⟩
 ·exact q.elim⟩
def ip:List D->(EV->Prop)->Prop
 | [.lst xs],Q=>Q (.val (.tup xs))
 | [.tup xs],Q=>Q (.val (.tup xs))
 | _,_=>False
theorem lW:tG G k S (.type "tuple") ip:=⟨λK xs H Q=>∃ p ys,xs=[V.ref p]/\((SqL K H p ys/\∀ l,H l=none->Q (.ref l) (bz H l (.tup ys)))\/(SqT K H p ys/\Q (.ref p) H)),λ_ _ ok=>kA,λY F H σd σ vs ds Qd Q R r q g=>by
 unfold ip at q
 split at q
 ·obtain⟨v,rfl,rv⟩:=r.one
  obtain⟨p,us,rfl,h1,h2⟩:=rv.lst;exact⟨p,us,rfl,.inl ⟨.inl h1,g.tup R h2 q⟩⟩
 ·obtain⟨v,rfl,rv⟩:=r.one
  have rv':=rv;obtain⟨p,us,rfl,h1,h2⟩:=rv.tup R.fr;exact⟨p,us,rfl,.inr ⟨.of h1,g.val R rv' q⟩⟩
 ·exact q.elim⟩
end Vc


namespace Vc
open PySem L2
variable [KF]
variable {G:GE}{k:Nat}{S:Stat}

structure EndsD where
 nx:Sd->Prop
 rt:B->Sd->Prop
 bk:Sd->Prop:=λ_=>False
 ct:Sd->Prop:=λ_=>False
abbrev cj:=EndsD->Sd->Prop
def Qa (Y:Dyn)(F H:Hp)(σd:Sd)(σ:St)(v:V):B->Prop
 | .sh d=>Rep F v d
 | .own xs=>∃ a vs,v=.ref a/\H a=some (.lst vs)/\RepL F vs xs/\F a=none/\Y.H0 a=none/\NoOwn σd σ a
 | .obj o=>∃ a,v=.ref a/\o.rep F H a/\∀ b∈o.fp a,F b=none/\H b≠none/\Y.H0 b=none/\NoOwn σd σ b
structure EndOk (Y:Dyn)(F:Hp)(De:EndsD)(Dn:Ends):Prop where
 nx:∀ σ H F' σd,Same F F'->RS Y F' σd σ H->De.nx σd->Dn.nx σ H
 rt:∀ v σ H F' σd b,Same F F'->RS Y F' σd σ H->Qa Y F' H σd σ v b->De.rt b σd->Dn.rt v H
 bk:∀ σ H F' σd,Same F F'->RS Y F' σd σ H->De.bk σd->Dn.bk σ H
 ct:∀ σ H F' σd,Same F F'->RS Y F' σd σ H->De.ct σd->Dn.ct σ H
theorem EndOk.mono {Y:Dyn}{F F':Hp}{De:EndsD}{Dn:Ends}(h:EndOk Y F De Dn)(s:Same F F'):EndOk Y F' De Dn :=
 ⟨λσ H F2 σd s2=>h.nx σ H F2 σd (s.trans s2),λv σ H F2 σd b s2=>h.rt v σ H F2 σd b (s.trans s2),λσ H F2 σd s2=>h.bk σ H F2 σd (s.trans s2),λσ H F2 σd s2=>h.ct σ H F2 σd (s.trans s2)⟩
def lS (Y:Dyn)(t:cj):TS:=λDn σ H=>∃ F σd De,RS Y F σd σ H/\t De σd/\EndOk Y F De Dn
structure ES (G:GE)(k:Nat)(S:Stat)(st:Stmt)(t:cj) :Prop where
 run:∀ X Y,XOk X G k S Y->PS X st (lS Y t)
instance {G:GE} {k:Nat} {S:Stat} {st:Stmt} {t:cj} :CoeFun (ES G k S st t) λ_=>∀ X Y,XOk X G k S Y->PS X st (lS Y t):=⟨ES.run⟩
structure ESs (G:GE)(k:Nat)(S:Stat)(st:List Stmt)(t:cj) :Prop where
 run:∀ X Y,XOk X G k S Y->PSs X st (lS Y t)
instance {G:GE} {k:Nat} {S:Stat} {st:List Stmt} {t:cj} :CoeFun (ESs G k S st t) λ_=>∀ X Y,XOk X G k S Y->PSs X st (lS Y t):=⟨ESs.run⟩
section
variable {st:Stmt}{rest:List Stmt}{t u:cj}{pos:Pos}
def eA:cj:=λDe σ=>De.nx σ
def bC (t u:cj):cj:=λDe σ=>t { De with nx:=u De } σ
theorem bp:ESs G k S [] eA:=.mk λX Y ok=>rH Av λDn σ H q=>by
 obtain⟨F,σd,De,R,q,K⟩:=q;exact K.nx σ H F σd (Same.refl _) R q
theorem aq (h1:ES G k S st t)(h2:ESs G k S rest u):ESs G k S (st::rest) (bC t u):=.mk λX Y ok=>rH (uk (h1 X Y ok) (h2 X Y ok)) λDn σ H q=>by
 obtain⟨F,σd,De,R,q,K⟩:=q;refine⟨F,σd,_,R,q,⟨λσ' H' F' σd' s R' q'=>?_,K.rt,K.bk,K.ct⟩⟩;exact⟨F',σd',De,R',q',K.mono s⟩
theorem aB (h1:ES G k S st t):ESs G k S [st] t:=.mk λX Y ok=>Aw (h1 X Y ok)
def tI:cj:=λ_ _=>False
theorem jk:ES G k S st tI:=.mk λX Y ok=>cB ul λDn σ H q=>by
 obtain⟨F,σd,De,R,q,K⟩:=q;exact q
def bR (c:TB)(t u:cj):cj:=λDe σ=>c σ λb σ1=>if b=true then t De σ1 else u De σ1
theorem bW {c:Expr}{a b:List Stmt}{tc:TB}(hc:EB G k S c tc)(ha:ESs G k S a t)(hb:ESs G k S b u):ES G k S (.If c a b pos) (bR tc t u):=.mk λX Y ok=>cB (Lz (hc X Y ok) (ha X Y ok) (hb X Y ok)) λDn σ H q=>by
 obtain⟨F,σd,De,R,q,K⟩:=q;refine⟨F,σd,_,R,q,λb H1 F1 σ1 s1 R1 q1=>?_⟩;cases b with
 | true=>exact⟨F1,σ1,De,R1,q1,K.mono s1⟩
 | false=>exact⟨F1,σ1,De,R1,q1,K.mono s1⟩
def rN (t:TX):cj:=λDe σ=>t σ λ_ σ1=>De.nx σ1
theorem da {e:Expr}{te:TX}(he:EX G k S e te)(hs:∀ line env,swapsWith e none line env=pure false:=by intro _ _;rfl):ES G k S (.Expr e pos) (rN te):=.mk λX Y ok=>cB (rn (he X Y ok) (hs _ _)) λDn σ H q=>by
 obtain⟨F,σd,De,R,q,K⟩:=q;exact⟨F,σd,_,R,q,λv H1 F1 x σ1 s1 R1 r1 q1=>K.nx σ H1 F1 σ1 s1 R1 q1⟩
def dj (ios:List Nat)(t:TX):cj:=λDe σ=>t σ λx σ1=>match x with
 | .val d=>De.rt (.sh d) σ1
 | .own xs=>De.rt (.own xs) σ1
 | .obj o=>De.rt (.obj o) σ1
 | .any=>False
 | .var i=>match σ1[i]? with
  | some (some (.own xs))=>i∉ios/\De.rt (.own xs) (σ1.set i none)
  | some (some (.sh d))=>De.rt (.sh d) σ1
  | some (some (.obj o))=>ios=[]/\De.rt (.obj o) (σ1.set i none)
  | _=>False
theorem RS.forget {Y:Dyn}{F:Hp}{σd:Sd}{σ:St}{H:Hp}{i:Nat}{b:B}(R:RS Y F σd σ H)(e:σd[i]?=some (some b))(hio:∀ p∈Y.io,p.1≠i):RS Y F (σd.set i none) σ H where
 len:=by simpa using R.len
 lo:=R.lo
 fr:=R.fr
 fro:=R.fro
 old:=R.old
 sh:=λj d q=>by
  by_cases hj:j=i
  ·subst hj;rw[aQ e] at q;cases q
  ·rw[aV hj] at q;exact R.sh j d q
 own:=λj xs q=>by
  by_cases hj:j=i
  ·subst hj;rw[aQ e] at q;cases q
  ·rw[aV hj] at q;exact R.own j xs q
 dis:=λj l xs ys a q1 q2 q3 q4=>by
  have hj:j≠i:=λz=>by subst z;rw[aQ e] at q1;cases q1
  have hl:l≠i:=λz=>by subst z;rw[aQ e] at q2;cases q2
  rw[aV hj] at q1;rw[aV hl] at q2;exact R.dis j l xs ys a q1 q2 q3 q4
 io:=λp hp=>by
  obtain⟨w1,ys,w2⟩:=R.io p hp;exact⟨w1,ys,by rw[aV (hio p hp)];exact w2⟩
 ob:=R.ob.put (λ_ _=>rfl) (λ_ z=>nomatch z) λ_ _ z=>nomatch z
theorem RS.nio {Y:Dyn}{F:Hp}{σd:Sd}{σ:St}{H:Hp}{i:Nat}{xs:List D}(R:RS Y F σd σ H)(h:σd[i]?=some (some (.own xs)))(hio:∀ p∈Y.io,p.1≠i){a:Addr}(q1:σ[i]?=some (some (.ref a))):Y.H0 a=none/\a∉Y.ioL:=by
 obtain⟨b,vs,w1,w2,w3,w4,w5⟩:=R.own i xs h;rw[q1] at w1;cases w1;have nin:a∉Y.ioL:=λq5=>by
  obtain⟨p,hp,e⟩:=List.mem_map.mp q5;obtain⟨z1,ys,z2⟩:=R.io p hp;exact absurd (R.dis p.1 i ys xs a z2 h (by rw[z1,e]) q1) (hio p hp)
 rcases w5 with w5|w5
 ·exact⟨w5,nin⟩
 ·exact absurd w5 nin
theorem aW {e:Expr}{te:TX}(he:EX G k S e te)(hblk:S.blk=false:=by rfl):ES G k S (.Return (some e) pos) (dj S.ios te):=.mk λX Y ok=>cB (DM (he X Y ok)) λDn σ H q=>by
 obtain⟨F,σd,De,R,q,K⟩:=q;refine⟨F,σd,_,R,q,λv H1 F1 x σ1 s1 R1 r1 q1=>?_⟩;cases x with
 | val d=>exact K.rt v σ H1 F1 σ1 (.sh d) s1 R1 r1 q1
 | own xs=>exact K.rt v σ H1 F1 σ1 (.own xs) s1 R1 r1 q1
 | obj o=>exact K.rt v σ H1 F1 σ1 (.obj o) s1 R1 r1 q1
 | any=>exact False.elim q1
 | var i =>
  have r1:σ[i]?=some (some v):=r1;dsimp only at q1
  split at q1
  ·rename_i xs e
   obtain⟨a,vs,w1,w2,w3,w4,w5⟩:=R1.own i xs e;rw[r1] at w1;cases w1;have hio:∀ p∈Y.io,p.1≠i:=λp hp z=>q1.1 (z ▸ ok.ios p hp);refine K.rt _ σ H1 F1 _ (.own xs) s1 (R1.forget e hio) ⟨a,vs,rfl,w2,w3,w4,(R1.nio e hio r1).1,⟨λj ys e2 z=>?_,λ⟨j,o,c,e2,e3,hm⟩=>?_⟩⟩ q1.2
   ·by_cases hj:j=i
    ·subst hj;rw[aQ e] at e2;cases e2
    ·rw[aV hj] at e2
     exact hj (R1.dis j i ys xs a e2 e z r1)
   ·have hj:j≠i:=λz=>by subst z;rw[aQ e] at e2;cases e2
    rw[aV hj] at e2;exact R1.ob.dsx i xs a e r1 ⟨j,o,c,e2,e3,hm⟩
  ·rename_i d e
   obtain⟨v2,e2,r2⟩:=R1.sh i d e;rw[r1] at e2;cases e2;exact K.rt v σ H1 F1 σ1 (.sh d) s1 R1 r2 q1
  ·rename_i o e
   obtain⟨a,w1,w2,w3⟩:=R1.ob.obj i o e;rw[r1] at w1;cases w1;have hob:=ok.obs hblk q1.1;have hio:∀ p∈Y.io,p.1≠i:=λp hp z=>by
    have:=ok.ios p hp;rw[q1.1] at this;cases this
   refine K.rt _ σ H1 F1 _ (.obj o) s1 (R1.forget e hio) ⟨a,rfl,w2,λb hb=>⟨(w3 b hb).1,(w3 b hb).2.1,?_,⟨λj ys e2 z=>?_,λ⟨j,o2,c,e2,e3,hm⟩=>?_⟩⟩⟩ q1.2
   ·rcases (w3 b hb).2.2 with z|z
    ·exact z
    ·rw[hob] at z;cases z
   ·have hj:j≠i:=λz=>by subst z;rw[aQ e] at e2;cases e2
    rw[aV hj] at e2;exact R1.ob.dsx j ys b e2 z ⟨i,o,a,e,r1,hb⟩
   ·have hj:j≠i:=λz=>by subst z;rw[aQ e] at e2;cases e2
    rw[aV hj] at e2;exact R1.ob.dso j i o2 o c a e2 e e3 r1 hj b hm hb
  ·exact q1.elim
end

theorem gs {α:Type}{l:List α}{i j:Nat}{x y:α}(h:(l.set i x)[j]?=some y):(j=i/\y=x)\/(j≠i/\l[j]?=some y):=by
 by_cases hj:j=i
 ·subst hj
  by_cases hl:j < l.length
  ·rw[List.getElem?_set_self hl] at h;exact .inl ⟨rfl,(Option.some.inj h).symm⟩
  ·have:(l.set j x)[j]?=none:=by rw[List.getElem?_eq_none_iff];simp;omega
   rw[this] at h;cases h
 ·rw[List.getElem?_set_ne (Ne.symm hj)] at h;exact .inr ⟨hj,h⟩
theorem br {α:Type}{l:List α}{i j:Nat}{x:α}(h:j≠i):(l.set i x)[j]?=l[j]?:=List.getElem?_set_ne (Ne.symm h)
theorem iW {α:Type}{l:List α}{i:Nat}{x:α}(h:i < l.length):(l.set i x)[i]?=some x:=List.getElem?_set_self h
theorem uN {α:Type}{l:List α}{i j:Nat}{x y:α}(h:(l.set i x)[j]?=some y):j < l.length:=by
 have:=(List.getElem?_eq_some_iff.mp h).1;simpa using this
theorem RS.setSh {Y:Dyn}{F:Hp}{σd:Sd}{σ:St}{H:Hp}{i:Nat}{d:D}{v:V}(R:RS Y F σd σ H)(r:Rep F v d)(hio:∀ p∈Y.io,p.1≠i):RS Y F (σd.set i (some (.sh d))) (σ.set i (some v)) H where
 len:=by simpa using R.len
 lo:=R.lo
 fr:=R.fr
 fro:=R.fro
 old:=R.old
 sh:=λj e q=>by
  rcases gs q with ⟨rfl,z⟩|⟨hj,q'⟩
  ·cases z
   exact⟨v,iW (by rw[<- R.len];exact uN q),r⟩
  ·obtain⟨u,w1,w2⟩:=R.sh j e q'
   exact⟨u,by rw[br hj];exact w1,w2⟩
 own:=λj xs q=>by
  rcases gs q with ⟨_,z⟩|⟨hj,q'⟩
  ·cases z
  ·obtain⟨a,vs,w1,w2⟩:=R.own j xs q'
   exact⟨a,vs,by rw[br hj];exact w1,w2⟩
 dis:=λj l xs ys a q1 q2 q3 q4=>by
  rcases gs q1 with ⟨_,z⟩|⟨hj,q1⟩
  ·cases z
  rcases gs q2 with ⟨_,z⟩|⟨hl,q2⟩
  ·cases z
  rw[br hj] at q3;rw[br hl] at q4;exact R.dis j l xs ys a q1 q2 q3 q4
 io:=λp hp=>by
  obtain⟨w1,ys,w2⟩:=R.io p hp;exact⟨by rw[br (hio p hp)];exact w1,ys,by rw[br (hio p hp)];exact w2⟩
 ob:=R.ob.put (λ_ hj=>br hj) (λ_ z=>nomatch z) λ_ _ z=>nomatch z
theorem RS.setOwn {Y:Dyn}{F:Hp}{σd:Sd}{σ:St}{H:Hp}{i:Nat}{xs:List D}{a:Addr}{vs:List V}(R:RS Y F σd σ H)(h1:H a=some (.lst vs))(h2:RepL F vs xs)(h3:F a=none)(h4:Y.H0 a=none)(h5:NoOwn σd σ a)
  (hio:∀ p∈Y.io,p.1≠i):RS Y F (σd.set i (some (.own xs))) (σ.set i (some (.ref a))) H where
 len:=by simpa using R.len
 lo:=R.lo
 fr:=R.fr
 fro:=R.fro
 old:=R.old
 sh:=λj e q=>by
  rcases gs q with ⟨_,z⟩|⟨hj,q'⟩
  ·cases z
  ·obtain⟨u,w1,w2⟩:=R.sh j e q'
   exact⟨u,by rw[br hj];exact w1,w2⟩
 own:=λj ys q=>by
  rcases gs q with ⟨rfl,z⟩|⟨hj,q'⟩
  ·cases z
   exact⟨a,vs,iW (by rw[<- R.len];exact uN q),h1,h2,h3,.inl h4⟩
  ·obtain⟨b,us,w1,w2⟩:=R.own j ys q'
   exact⟨b,us,by rw[br hj];exact w1,w2⟩
 dis:=λj l ys zs b q1 q2 q3 q4=>by
  rcases gs q1 with ⟨rfl,z⟩|⟨hj,q1⟩
  ·rcases gs q2 with ⟨e,z⟩|⟨hl,q2⟩
   ·exact e.symm
   ·rw[br hl] at q4
    rcases gs q3 with ⟨_,z3⟩|⟨hc,_⟩
    ·cases z3
     exact absurd q4 (h5 l zs q2)
    ·exact absurd rfl hc
  ·rw[br hj] at q3
   rcases gs q2 with ⟨e2,z⟩|⟨hl,q2⟩
   ·rcases gs q4 with ⟨_,z4⟩|⟨hc,_⟩
    ·cases z4
     exact absurd q3 (h5 j ys (by assumption))
    ·exact absurd e2 hc
   ·rw[br hl] at q4
    exact R.dis j l ys zs b (by assumption) q2 q3 q4
 io:=λp hp=>by
  obtain⟨w1,ys,w2⟩:=R.io p hp;exact⟨by rw[br (hio p hp)];exact w1,ys,by rw[br (hio p hp)];exact w2⟩
 ob:=R.ob.put (λ_ hj=>br hj) (λ_ z=>nomatch z) λys b _ z=>by
  rcases gs z with ⟨_,z2⟩|⟨hc,_⟩
  ·cases z2;exact h5.nob
  ·exact absurd rfl hc
theorem RS.setObj {Y:Dyn}{F:Hp}{σd:Sd}{σ:St}{H:Hp}{i:Nat}{o:O}{a:Addr}(R:RS Y F σd σ H)(h1:o.rep F H a)(h2:∀ b∈o.fp a,F b=none/\H b≠none/\Y.H0 b=none/\NoOwn σd σ b)
  (hio:∀ p∈Y.io,p.1≠i):RS Y F (σd.set i (some (.obj o))) (σ.set i (some (.ref a))) H where
 len:=by simpa using R.len
 lo:=R.lo
 fr:=R.fr
 fro:=R.fro
 old:=R.old
 sh:=λj e q=>by
  rcases gs q with ⟨_,z⟩|⟨hj,q'⟩
  ·cases z
  ·obtain⟨u,w1,w2⟩:=R.sh j e q'
   exact⟨u,by rw[br hj];exact w1,w2⟩
 own:=λj ys q=>by
  rcases gs q with ⟨_,z⟩|⟨hj,q'⟩
  ·cases z
  ·obtain⟨b,us,w1,w2⟩:=R.own j ys q'
   exact⟨b,us,by rw[br hj];exact w1,w2⟩
 dis:=λj l ys zs b q1 q2 q3 q4=>by
  rcases gs q1 with ⟨_,z⟩|⟨hj,q1⟩
  ·cases z
  rcases gs q2 with ⟨_,z⟩|⟨hl,q2⟩
  ·cases z
  rw[br hj] at q3;rw[br hl] at q4;exact R.dis j l ys zs b q1 q2 q3 q4
 io:=λp hp=>by
  obtain⟨w1,ys,w2⟩:=R.io p hp;exact⟨by rw[br (hio p hp)];exact w1,ys,by rw[br (hio p hp)];exact w2⟩
 ob:=by
  have at':∀ {j:Nat} {c:Addr},j=i->(σ.set i (some (.ref a)))[j]?=some (some (.ref c))->c=a:=λ{j c} e z=>by
   subst e;rcases gs z with ⟨_,z2⟩|⟨hc,_⟩
   ·cases z2;rfl
   ·exact absurd rfl hc
  refine⟨λj p q=>?_,λj l p p2 c d q1 q2 q3 q4 hne x hx hx2=>?_,λj ys b q1 q2 ⟨l,p,c,q3,q4,hm⟩=>?_,R.ob.there,R.ob.thz,R.ob.tab⟩
  ·rcases gs q with ⟨rfl,z⟩|⟨hj,q'⟩
   ·cases z
    exact⟨a,iW (by rw[<- R.len];exact uN q),h1,λb hb=>⟨(h2 b hb).1,(h2 b hb).2.1,.inl (h2 b hb).2.2.1⟩⟩
   ·obtain⟨c,w1,w2⟩:=R.ob.obj j p q'
    exact⟨c,by rw[br hj];exact w1,w2⟩
  ·rcases gs q1 with ⟨e1,z⟩|⟨hj,q1'⟩
   ·cases z
    rcases gs q2 with ⟨e2,z⟩|⟨hl,q2'⟩
    ·exact hne (e1.trans e2.symm)
    ·rw[br hl] at q4
     have:=at' e1 q3;subst this;exact (h2 x hx).2.2.2.nob ⟨l,p2,d,q2',q4,hx2⟩
   ·rw[br hj] at q3
    rcases gs q2 with ⟨e2,z⟩|⟨hl,q2'⟩
    ·cases z
     have:=at' e2 q4;subst this;exact (h2 x hx2).2.2.2.nob ⟨j,p,c,q1',q3,hx⟩
    ·rw[br hl] at q4
     exact R.ob.dso j l p p2 c d q1' q2' q3 q4 hne x hx hx2
  ·rcases gs q1 with ⟨_,z⟩|⟨hj,q1'⟩
   ·cases z
   rw[br hj] at q2;rcases gs q3 with ⟨e3,z⟩|⟨hl,q3'⟩
   ·cases z
    have:=at' e3 q4;subst this;exact (h2 b hm).2.2.2 j ys q1' q2
   ·rw[br hl] at q4
    exact R.ob.dsx j ys b q1' q2 ⟨l,p,c,q3',q4,hm⟩
def Pl (ios:List Nat)(i:Nat)(x:EV)(σ:Sd)(Q:Sd->Prop):Prop:=match x with
 | .val d=>Q (σ.set i (some (.sh d)))
 | .own xs=>Q (σ.set i (some (.own xs)))
 | .obj o=>Q (σ.set i (some (.obj o)))
 | .any=>False
 | .var j=>match σ[j]? with
  | some (some (.own xs))=>j∉ios/\Q ((σ.set j (some (.sh (.lst xs)))).set i (some (.sh (.lst xs))))
  | some (some (.sh d))=>Q (σ.set i (some (.sh d)))
  | _=>False
theorem iq {Y:Dyn}{F:Hp}{σd:Sd}{σ:St}{H:Hp}{i:Nat}{v:V}{x:EV}{ios:List Nat}{Q:Sd->Prop}(R:RS Y F σd σ H)(r:Es Y F H σd σ v x)(hi:i∉ios)(hio:∀ p∈Y.io,p.1∈ios)(q:Pl ios i x σd Q) :
  ∃ F' σd',Same F F'/\RS Y F' σd' (σ.set i (some v)) H/\Q σd':=by
 have h0:∀ p∈Y.io,p.1≠i:=λp hp z=>hi (z ▸ hio p hp);cases x with
 | val d=>exact⟨F,_,Same.refl _,R.setSh r h0,q⟩
 | own xs =>
  obtain⟨a,vs,rfl,h1,h2,h3,h4,h5⟩:=r;exact⟨F,_,Same.refl _,R.setOwn h1 h2 h3 h4 h5 h0,q⟩
 | obj o =>
  obtain⟨a,rfl,h1,h2⟩:=r;exact⟨F,_,Same.refl _,R.setObj h1 h2 h0,q⟩
 | any=>exact False.elim q
 | var j =>
  have r:σ[j]?=some (some v):=r;unfold Pl at q;dsimp only at q
  split at q
  ·rename_i xs e
   obtain⟨F2,v2,s2,R2,e2,r2⟩:=R.freezeVar e λp hp z=>q.1 (z ▸ hio p hp);rw[r] at e2;cases e2;exact⟨F2,_,s2,R2.setSh r2 h0,q.2⟩
  ·rename_i d e
   obtain⟨v2,e2,r2⟩:=R.sh j d e;rw[r] at e2;cases e2;exact⟨F,_,Same.refl _,R.setSh r2 h0,q⟩
  ·exact q.elim
def cu (ios:List Nat)(i:Nat)(t:TX):cj:=λDe σ=>t σ λx σ1=>Pl ios i x σ1 De.nx
theorem lY {X:Cx}{Y:Dyn}(ok:XOk X G k S Y){x:Str}(h:S.sc.lookup x=some .local\/(S.sc.lookup x=some .cell/\S.blk=false)):L2.Loc X.env.scope x:=by
 unfold L2.Loc;rw[ok.sc];exact h.imp id (·.1)
theorem lZ {X:Cx}{Y:Dyn}(ok:XOk X G k S Y){x:Str}(h:S.sc.lookup x=some .local\/(S.sc.lookup x=some .cell/\S.blk=false)):X.fn x=true\/X.env.scope.names.lookup x=some .local:=by
 rcases h with h|h
 ·right;rw[ok.sc];exact h
 ·left;exact ok.fn h.2 x h.1
theorem aY (i:Nat){x:Str}{e:Expr}{te:TX}{pos pos':Pos}(he:EX G k S e te)(hi:S.N[i]?=some x:=by rfl)(hx:S.sc.lookup x=some .local\/(S.sc.lookup x=some .cell/\S.blk=false):=by first|exact Or.inl rfl|exact Or.inr ⟨rfl,rfl⟩)(hn:i∉S.ios:=by first|decide|exact List.not_mem_nil)
  (hs:∀ line env,swapsWith e (some (.Name x pos')) line env=pure false:=by intro _ _;rfl):ES G k S (.Assign [.Name x pos'] e pos) (cu S.ios i te):=.mk λX Y ok =>
 cB (L2.ps_set (i:=i) (by rw[ok.N];exact ok.nd) (by rw[ok.N];exact hi) (lY ok hx) (he X Y ok) (hs _ _) (lZ ok hx)) λDn σ H q=>by
  obtain⟨F,σd,De,R,q,K⟩:=q;refine⟨F,σd,_,R,q,λv H1 F1 y σ1 s1 R1 r1 q1=>?_⟩;obtain⟨F2,σ2,s2,R2,q2⟩:=iq R1 r1 hn ok.ios q1;exact K.nx _ H1 F2 σ2 (s1.trans s2) R2 q2
theorem RS.write {Y:Dyn}{F:Hp}{σd:Sd}{σ:St}{H:Hp}{i:Nat}{xs ys:List D}{a:Addr}{us:List V}(R:RS Y F σd σ H)(e:σd[i]?=some (some (.own xs)))(h:σ[i]?=some (some (.ref a)))(r:RepL F us ys) :
  RS Y F (σd.set i (some (.own ys))) σ (bz H a (.lst us)):=by
 obtain⟨b,vs,w1,w2,w3,w4,w5⟩:=R.own i xs e;rw[h] at w1;cases w1;have hl:i < σd.length:=(List.getElem?_eq_some_iff.mp e).1;have hob:Obs Y F (σd.set i (some (.own ys))) σ (bz H a (.lst us)):=R.ob.step (Same.refl _) (λj o q=>by
  rcases gs q with ⟨_,z⟩|⟨hj,q⟩
  ·cases z
  ·exact⟨q,rfl⟩) (λb hb=>by
  obtain⟨z1,z2,z3⟩:=R.ob.owned hb;have hne:b≠a:=λz=>R.ob.dsx i xs a e h (z ▸ hb);exact⟨am hne,z1,z3⟩) (λj zs b q1 q2=>by
  rcases gs q1 with ⟨e1,_⟩|⟨hj,q1⟩
  ·subst e1
   rw[h] at q2;cases q2;exact R.ob.dsx j xs a e h
  ·exact R.ob.dsx j zs b q1 q2) λb hb=>by
  by_cases hne:b=a
  ·rw[hne,aw];exact λz=>nomatch z
  ·rw[am hne];exact R.ob.there b hb
 refine⟨by simpa using R.len,R.lo,λb o q=>?_,R.fro,λb o q n=>?_,λj d q=>?_,λj zs q=>?_,λj l zs qs b q1 q2 q3 q4=>?_,λp hp=>?_,hob⟩
 ·have:b≠a:=λz=>by rw[z,w4] at q;cases q
  rw[am this];exact R.fr b o q
 ·have:b≠a:=λz=>by
   subst z;rcases w5 with w5|w5
   ·rw[w5] at q;cases q
   ·exact Dyn.ioL_sub n w5
  rw[am this];exact R.old b o q n
 ·rcases gs q with ⟨_,z⟩|⟨hj,q⟩
  ·cases z
  ·exact R.sh j d q
 ·rcases gs q with ⟨rfl,z⟩|⟨hj,q⟩
  ·cases z
   exact⟨a,us,h,aw,r,w4,w5⟩
  ·obtain⟨b,ws,z1,z2,z3,z4,z5⟩:=R.own j zs q
   have:b≠a:=λz=>hj (R.dis j i zs xs a q e (z ▸ z1) h);exact⟨b,ws,z1,by rw[am this];exact z2,z3,z4,z5⟩
 ·have f:∀ {m:Nat} {ms:List D},(σd.set i (some (B.own ys)))[m]?=some (some (B.own ms))->∃ ms',σd[m]?=some (some (B.own ms')):=λ{m ms} q=>by
   rcases gs q with ⟨rfl,z⟩|⟨hj,q⟩
   ·exact⟨xs,e⟩
   ·exact⟨_,q⟩
  obtain⟨_,q1⟩:=f q1;obtain⟨_,q2⟩:=f q2;exact R.dis j l _ _ b q1 q2 q3 q4
 ·obtain⟨z1,zs,z2⟩:=R.io p hp
  refine⟨z1,?_⟩
  by_cases hp':p.1=i
  ·exact⟨ys,by rw[hp',iW hl]⟩
  ·exact⟨zs,by rw[br hp'];exact z2⟩
def oi (σ:Sd)(i:Nat):Prop:=∃ xs,σ[i]?=some (some (B.own xs))
def EA (i:Nat)(d:D)(σ:Sd)(Q:Sd->Prop):Prop:=match σ[i]? with
 | some (some (.own xs))=>xs.length < sizeLine/\Q (σ.set i (some (.own (xs++[d]))))
 | _=>False
def tJ (to:TV)(te:TD):TX:=λσ Q=>to σ λx σ1=>match x with
 | .var i=>oi σ1 i/\te σ1 λd σ2=>EA i d σ2 λσ3=>Q (.val .non) σ3
 | _=>False
theorem jL {o e:Expr}{to:TV}{te:TD}{apos cpos:Pos}(ho:EO G k S o to)(he:ED G k S e te)(hb:∀ env,attributeBase o "append" env (eval o env)=eval o env:=by intro _;rfl)
  (hfew:∀ env,((backTo cpos (starEach [e] env)).all (λx=>!x.1)&&(backToKw cpos (keywordEach [] env)).all (λx=>x.1.isSome)&&decide (([e]:List Expr).length+([]:List Keyword).length+(if ([]:List Keyword).isEmpty then 0 else 1) < 30))=true:=by intro _;rfl)
  (hline:(apos.endLine==cpos.line)=true:=by rfl) (hs:∀ env,starEach [e] env=[(false,eval e env)]:=by intro _;rfl):EX G k S (.Call (.Attribute o "append" apos) [e] [] cpos) (tJ to te):=.mk λX Y ok=>by
 have ha:PA X [e] (iT (lD Y te) qk):=pa_cons (he X Y ok) pa_nil (by rw[hs];rfl)
 refine aP (rE F.plainAttrs_list F.slot_list_append F.type_list_append hZ (ho X Y ok) ha (hb _) (hfew _) hline (by rw[hs];rfl) (by rfl)) λσ H Q q=>?_
 obtain⟨F,σd,Qd,R,q,K⟩:=q;refine⟨F,σd,_,R,q,λv1 H1 F1 x σ1 s1 R1 r1 q1=>?_⟩;cases x with
 | val d=>exact q1.elim
 | any=>exact q1.elim
 | var i =>
  obtain⟨⟨ys,e0⟩,q1⟩:=q1;have r1:σ[i]?=some (some v1):=r1;obtain⟨a,vs,w1,w2,w3,w4,w5⟩:=R1.own i ys e0;rw[r1] at w1;cases w1;refine⟨.inl ⟨rfl,vs,.of w2⟩,F1,σ1,_,R1,q1,λv2 H2 F2 d σ2 s2 R2 r2 q2=>?_⟩;unfold EA at q2
  split at q2
  ·rename_i xs e2
   obtain⟨b,us,z1,z2,z3,z4,z5⟩:=R2.own i xs e2;rw[r1] at z1;cases z1;exact⟨a,us,v2,rfl,rfl,z2,by rw[z3.length];exact q2.1,K .non _ F2 (.val .non) _ (s1.trans s2) (R2.write e2 r1 (z3.append (.cons r2 .nil))) .non q2.2⟩
  ·exact q2.elim
end Vc


namespace Vc
open PySem L2
variable [KF]
variable {G:GE}{k:Nat}{S:Stat}

abbrev bD:=List D->(B->Prop)->Prop
def EC (H F H':Hp)(v:V):B->Prop
 | .sh d=>Rep F v d
 | .own xs=>∃ a vs,v=.ref a/\H' a=some (.lst vs)/\RepL F vs xs/\F a=none/\H a=none
 | .obj o=>∃ a,v=.ref a/\o.rep F H' a/\∀ b∈o.fp a,F b=none/\H' b≠none/\H b=none
def Ba (sp:bD):Sp:=λvs H Q _=>∃ F ds Qd,rG F H/\RepL F vs ds/\sp ds Qd /\
 ∀ v H' F' b,Same F F'->Same F' H'->Same H H'->(∀ c o,F' c=some o->F c=some o\/Nw H c o)->EC H F' H' v b->Qd b->Q v H'
theorem RS.call {Y:Dyn}{F F':Hp}{σd:Sd}{σ:St}{H H':Hp}(R:RS Y F σd σ H)(s1:Same F F')(s2:Same F' H')(s3:Same H H')(fr:∀ c o,F' c=some o->F c=some o\/Nw H c o):RS Y F' σd σ H' where
 len:=R.len
 lo:=R.lo.trans s1
 fr:=s2
 fro:=λb o e=>by
  rcases fr b o e with h|h
  ·exact R.fro b o h
  ·exact .inr (h.imp (λh=>(R.fresh0 h).1) id)
 old:=λb o e n=>s3 b o (R.old b o e n)
 sh:=λi d e=>by
  obtain⟨v,h1,h2⟩:=R.sh i d e;exact⟨v,h1,h2.mono s1⟩
 own:=λi xs e=>by
  obtain⟨a,vs,h1,h2,h3,h4,h5⟩:=R.own i xs e;refine⟨a,vs,h1,s3 a _ h2,h3.mono s1,?_,h5⟩;cases q:F' a with
  | none=>rfl
  | some o =>
   rcases fr a o q with h|h
   ·rw[h4] at h;cases h
   ·rcases h with h|⟨ws,rfl⟩
    ·rw[h2] at h;cases h
    ·have z:=s2 a _ q;rw[s3 a _ h2] at z;cases z
 dis:=R.dis
 io:=R.io
 ob:=by
  have up:∀ b,H b≠none->H' b=H b:=λb hb=>by
   cases q:H b with
   | none=>exact absurd q hb
   | some o=>exact s3 b o q
  refine R.ob.step s1 (λ_ _ e=>⟨e,rfl⟩) (λb hb=>?_) R.ob.dsx λb hb=>by rw[up b (R.ob.there b hb)];exact R.ob.there b hb
  obtain⟨w1,w2,w3⟩:=R.ob.owned hb;refine⟨up b w2,?_,w3⟩;cases q:F' b with
  | none=>rfl
  | some o =>
   rcases fr b o q with h|h
   ·rw[w1] at h;cases h
   ·rcases h with h|⟨ws,rfl⟩
    ·exact absurd h w2
    ·exact absurd (by rw[<- up b w2];exact s2 b _ q) (R.ob.notup hb)
def FnG (G:GE)(k:Nat)(x:Str)(sp:bD):Prop:=∃ f fd ps,FnOk G.P G.w G.K G.mg G.base qd k f fd ps (Ba sp)/\G.mg x=some (.ref f)/\PySem.W.keepIn G.K (.ref f)=true/\Binds G.K fd ps []
theorem FnG.mono {x:Str}{sp:bD}{j:Nat}(h:FnG G j x sp)(l:j<=k):FnG G k x sp:=by
 obtain⟨f,fd,ps,h1,h2,h3,h4⟩:=h;exact⟨f,fd,ps,h1.mono l,h2,h3,h4⟩
def bE:B->EV
 | .sh d=>.val d
 | .own xs=>.own xs
 | .obj o=>.obj o
def Cl (sp:bD)(ds:List D)(Q:B->Prop):Prop:=sp ds Q
def fq (sp:bD)(t:eG):TX:=λσ Q=>t σ λds σ1=>Cl sp ds λb=>Q (bE b) σ1
theorem be {x:Str}{sp:bD}{e:Expr}{es:List Expr}{t:eG}{p pos:Pos}(h:FnG G k x sp)(ha:EDs G k S (e::es) t)(hg:S.sc.lookup x=some .globalImplicit:=by rfl)(hdb:(x==("__debug__":Str))=false:=by decide)
  (he:∀ env,starEach (e::es) env=(false,eval e env)::starEach es env:=by exact λ_=>Vc.se_cons rfl) (hpl:∀ env,(backTo pos (starEach es env)).any (·.1)=false:=by intro _;rfl) (hh:S.hot=false:=by rfl):EX G k S (.Call (.Name x p) (e::es) [] pos) (fq sp t):=.mk λX Y ok=>by
 obtain⟨f,fd,ps,h1,h2,h3,h4⟩:=h;have h1':FnOk X.prog X.w X.K X.mg X.base qd k f fd ps (Ba sp):=by rw[ok.P,ok.w,ok.K,ok.mg,ok.base];exact h1
 refine aP (rA (E:=E0) (dvs:=[]) (ds:=[]) h1' (ok.room hh) (dm ok hg) (by rw[ok.mg];exact h2) (by rw[ok.K];exact h3) (by rw[ok.K];exact h4) .nil Cu (ha X Y ok) hdb (he _) (hpl _)) λσ H Q q=>?_
 obtain⟨F,σd,Qd,R,q,K⟩:=q;refine⟨F,σd,_,R,q,λvs H1 F1 ds σ1 s1 R1 r1 q1=>?_⟩;show Ba sp (vs++[]) H1 Q E0;rw[List.append_nil];refine⟨F1,ds,_,⟨R1.fr,R1.ob.tab⟩,r1,q1,λv H' F' b s2 s3 s4 fr r2 q2=>?_⟩;have R2:=R1.call s2 s3 s4 fr;cases b with
 | sh d=>exact K v H' F' (.val d) σ1 (s1.trans s2) R2 r2 q2
 | own xs =>
  obtain⟨a,us,rfl,w1,w2,w3,w4⟩:=r2;refine K _ H' F' (.own xs) σ1 (s1.trans s2) R2 ⟨a,us,rfl,w1,w2,w3,(R1.fresh0 w4).1,R1.noFresh w4⟩ q2
 | obj o =>
  obtain⟨a,rfl,w1,w2⟩:=r2;exact K _ H' F' (.obj o) σ1 (s1.trans s2) R2 ⟨a,rfl,w1,λb hb=>⟨(w2 b hb).1,(w2 b hb).2.1,(R1.fresh0 (w2 b hb).2.2).1,R1.noFresh (w2 b hb).2.2⟩⟩ q2

def aO (n:Nat)(ds:List D):Sd:=ds.map (λd=>some (.sh d))++List.replicate (n - ds.length) none
theorem jM {F:Hp}:∀ {vs:List V} {ds:List D} (m:Nat) {i:Nat} {d:D},RepL F vs ds->(ds.map (λd=>some (B.sh d))++List.replicate m none)[i]?=some (some (.sh d))->∃ v,(vs.map some++List.replicate m none)[i]?=some (some v)/\Rep F v d
 | [],[],m,i,d,.nil,e=>by
  simp only[List.map_nil,List.nil_append,List.getElem?_replicate] at e
  split at e<;>cases e
 | v::vs,x::ds,m,0,d,.cons r t,e=>by
  simp at e;subst e;exact⟨v,by simp,r⟩
 | v::vs,x::ds,m,i+1,d,.cons r t,e=>by
  obtain⟨u,h1,h2⟩:=jM (i:=i) m t (by simpa using e)
  exact⟨u,by simpa using h1,h2⟩
theorem dH:∀ (ds:List D) (m i:Nat) (xs:List D),(ds.map (λd=>some (B.sh d))++List.replicate m none)[i]?≠some (some (.own xs))
 | [],m,i,xs=>by
  simp only[List.map_nil,List.nil_append,List.getElem?_replicate];intro e
  split at e<;>cases e
 | x::ds,m,0,xs=>by simp
 | x::ds,m,i+1,xs=>by
  have:=dH ds m i xs;simpa using this
theorem ir:∀ (ds:List D) (m i:Nat) (o:O),(ds.map (λd=>some (B.sh d))++List.replicate m none)[i]?≠some (some (.obj o))
 | [],m,i,o=>by
  simp only[List.map_nil,List.nil_append,List.getElem?_replicate];intro e
  split at e<;>cases e
 | x::ds,m,0,o=>by simp
 | x::ds,m,i+1,o=>by
  have:=ir ds m i o;simpa using this
theorem RS.start {F H:Hp}{vs:List V}{ds:List D}(n:Nat)(s:rG F H)(r:RepL F vs ds):RS ⟨H,F,[],[]⟩ F (aO n ds) (vs.map some++List.replicate (n - vs.length) none) H where
 len:=by unfold aO;simp [r.length]
 lo:=Same.refl _
 fr:=s.1
 fro:=λb o e=>.inl e
 old:=λb o e _=>e
 sh:=λi d e=>by
  rw[r.length];exact jM _ r e
 own:=λi xs e=>absurd e (dH _ _ _ _)
 dis:=λi j xs ys a e=>absurd e (dH _ _ _ _)
 io:=λp hp=>absurd hp (by simp)
 ob:=.none (λi o=>ir _ _ _ _) s.2 λb hb=>by cases hb
theorem CF {x qual:Str}{st:Stmt}{f:Addr}{fd:FuncData}{N ps:List Str}{sp:bD}{t:cj}(hK:G.K=KF.K)(Fn:Fun G.K x qual st f fd)(Sc:FnScope N ps (af st))(ht:ESs G k ⟨N,(af st).names,[],false,false,false,λ_ _=>False⟩ (ao st) t)
  (len:∀ ds Q,sp ds Q->ds.length=ps.length)
  (body:∀ ds Q,sp ds Q->t { nx:=λ_=>Q (.sh .non),rt:=λb _=>Q b } (aO N.length ds)):FnOk G.P G.w G.K G.mg G.base qd (k+1) f fd ps (Ba sp):=by
 refine Fn.ok Sc (λvs H Q E h=>?_) (λcdv A outer s H vs Q E hr h=>?_)
 ·obtain⟨F,ds,Qd,s,r,q,K⟩:=h
  rw[r.length];exact len _ _ q
 ·obtain⟨F,ds,Qd,sm,r,q,K⟩:=h
  refine⟨_,ht (nM qd G.P G.w G.K G.mg G.base N qual (af st) f cdv A outer s H E).nox ⟨H,F,[],[]⟩ ⟨rfl,rfl,rfl,hK,rfl,rfl,rfl,rfl,Sc.nd,λp hp=>absurd hp (by simp),λ_ _=>rfl,λ_=>rfl,Sc.kind,λ_ _ _=>rfl,λ_=>hr.hd,hr.dp,hr.un,λ_=>PassesOwn.never,λ_=>⟨rfl,rfl,rfl⟩,λ_ _ h=>h.elim,λh=>nomatch h⟩,F,aO N.length ds,_,RS.start _ sm r,body ds Qd q,?_⟩
  have same:∀ {F':Hp} {σd:Sd} {σ:St} {H':Hp},RS ⟨H,F,[],[]⟩ F' σd σ H'->Same H H':=λR b o e=>R.old b o e (by simp [Dyn.ioA])
  refine⟨λσ H' F' σd s' R' q'=>?_,λv σ H' F' σd b s' R' r' q'=>?_,λ_ _ _ _ _ _ h=>h.elim,λ_ _ _ _ _ _ h=>h.elim⟩
  ·exact K .non H' F' (.sh .non) s' R'.fr (same R') R'.fro .non q'
  ·refine K v H' F' b s' R'.fr (same R') R'.fro ?_ q'
   cases b with
   | sh d=>exact r'
   | own xs =>
    obtain⟨a,us,rfl,w1,w2,w3,w4,w5⟩:=r';exact⟨a,us,rfl,w1,w2,w3,w4⟩
   | obj o =>
    obtain⟨a,rfl,w1,w2⟩:=r';exact⟨a,rfl,w1,λb hb=>⟨(w2 b hb).1,(w2 b hb).2.1,(w2 b hb).2.2.1⟩⟩
end Vc


namespace Vc
open PySem L2
variable [KF]
variable {G:GE}{k:Nat}{S:Stat}

abbrev iX:=D->Sd->(Sd->Prop)->Prop
def lG (Y:Dyn)(g:iX):TG:=λv σ H Q=>∃ F σd d Qd,RS Y F σd σ H/\Rep F v d/\g d σd Qd/\∀ σ' H' F' σd',Same F F'->RS Y F' σd' σ' H'->Qd σd'->Q σ' H'
structure EG (G:GE)(k:Nat)(S:Stat)(tg:Expr)(g:iX) :Prop where
 run:∀ X Y,XOk X G k S Y->PG X tg (lG Y g)
instance {G:GE} {k:Nat} {S:Stat} {tg:Expr} {g:iX} :CoeFun (EG G k S tg g) λ_=>∀ X Y,XOk X G k S Y->PG X tg (lG Y g):=⟨EG.run⟩
theorem uO {X:Cx}{e:Expr}{t t':TG}(h:PG X e t)(i:∀ v σ H Q,t' v σ H Q->t v σ H Q):PG X e t':=λpins s σ H v u Q I r q=>h pins s σ H v u Q I r (i v σ H Q q)
def cR (i:Nat):iX:=λd σ Q=>Q (σ.set i (some (.sh d)))
theorem aK (i:Nat){x:Str}{pos:Pos}(hi:S.N[i]?=some x:=by rfl)(hx:S.sc.lookup x=some .local\/(S.sc.lookup x=some .cell/\S.blk=false):=by first|exact Or.inl rfl|exact Or.inr ⟨rfl,rfl⟩)(hn:i∉S.ios:=by first|decide|exact List.not_mem_nil):EG G k S (.Name x pos) (cR i):=.mk λX Y ok =>
 uO (Ax (i:=i) (by rw[ok.N];exact ok.nd) (by rw[ok.N];exact hi) (lY ok hx) (lZ ok hx)) λv σ H Q q=>by
  obtain⟨F,σd,d,Qd,R,r,q,K⟩:=q;exact K _ H F _ (Same.refl _) (R.setSh r λp hp z=>hn (z ▸ ok.ios p hp)) q
abbrev ma:=List D->Sd->(Sd->Prop)->Prop
def Ra (Y:Dyn)(g:ma):Cs:=λvs σ H Q=>∃ F σd ds Qd,RS Y F σd σ H/\RepL F vs ds/\g ds σd Qd/\∀ σ' H' F' σd',Same F F'->RS Y F' σd' σ' H'->Qd σd'->Q σ' H'
structure EGs (G:GE)(k:Nat)(S:Stat)(ts:List Expr)(g:ma) :Prop where
 run:∀ X Y,XOk X G k S Y->Lm X ts (Ra Y g)
instance {G:GE} {k:Nat} {S:Stat} {ts:List Expr} {g:ma} :CoeFun (EGs G k S ts g) λ_=>∀ X Y,XOk X G k S Y->Lm X ts (Ra Y g):=⟨EGs.run⟩
def tK:ma:=λds σ Q=>match ds with
 | []=>Q σ
 | _=>False
def gC (g:iX)(u:ma):ma:=λds σ Q=>match ds with
 | d::r=>g d σ λσ1=>u r σ1 Q
 | []=>False
theorem dD:EGs G k S [] tK:=.mk λX Y ok pins s σ H vs us Q I r q=>Ay pins s σ H vs us Q I r (by
 obtain⟨F,σd,ds,Qd,R,rr,q,K⟩:=q;cases rr with
 | nil=>exact⟨rfl,K σ H F σd (Same.refl _) R q⟩
 | cons _ _=>exact q.elim)
theorem bu {e:Expr}{es:List Expr}{g:iX}{u:ma}(h1:EG G k S e g)(h2:EGs G k S es u)(hs:∀ env,(assignEach (e::es) env).map (·.2)=assign e env::(assignEach es env).map (·.2):=by intro _;rfl):EGs G k S (e::es) (gC g u):=.mk λX Y ok pins s σ H vs us Q I r q =>
 um (h1 X Y ok) (h2 X Y ok) (hs _) pins s σ H vs us Q I r (by
  obtain⟨F,σd,ds,Qd,R,rr,q,K⟩:=q;cases rr with
  | nil=>exact q.elim
  | cons r1 rs =>
   refine⟨_,_,rfl,F,σd,_,_,R,r1,q,λσ1 H1 F1 σd1 s1 R1 q1=>?_⟩;exact⟨F1,σd1,_,_,R1,rs.mono s1,q1,λσ2 H2 F2 σd2 s2 R2 q2=>K σ2 H2 F2 σd2 (s1.trans s2) R2 q2⟩)
def tM (n:Nat)(u:ma):iX:=λd σ Q=>match d with
 | .tup xs=>xs.length=n/\u xs σ Q
 | _=>False
theorem fx {es:List Expr}{kk:Nat}{u:ma}{n:Nat}{pos:Pos}(h:EGs G k S es u)(hn:∀ env,(assignEach es env).length=n:=by intro _;rfl)(hst:∀ env,(assignEach es env).findIdx? (·.1)=none:=by intro _;rfl)(hh:S.hot=false:=by rfl):EG G k S (.Tuple es kk pos) (tM n u):=.mk λX Y ok =>
 uO (DQ (ok.calm hh) (h X Y ok) (hn _) (hst _)) λv σ H Q q=>by
  obtain⟨F,σd,d,Qd,R,r,q,K⟩:=q;cases d with
  | tup xs =>
   cases r with
   | tup hf rl =>
    exact⟨_,_,rfl,.of (R.fr _ _ hf),by rw[rl.length];exact q.1,F,σd,xs,Qd,R,rl,q.2,K⟩
  | _=>exact q.elim

def Grow (F1 H1 F2 H2:Hp):Prop:=(F2=F1/\H2=H1)\/∃ p o,H1 p=none/\F2=bz F1 p o/\H2=bz H1 p o
theorem Grow.same {F1 H1 F2 H2:Hp}(g:Grow F1 H1 F2 H2)(s:Same F1 H1):Same F1 F2:=by
 rcases g with ⟨rfl,rfl⟩|⟨p,o,h,rfl,rfl⟩
 ·exact Same.refl _
 ·exact aG (bi s h)
theorem Grow.rs {Y:Dyn}{F1 H1 F2 H2:Hp}{σd:Sd}{σ:St}(g:Grow F1 H1 F2 H2)(R:RS Y F1 σd σ H1):RS Y F2 σd σ H2:=by
 rcases g with ⟨rfl,rfl⟩|⟨p,o,h,rfl,rfl⟩
 ·exact R
 ·exact R.alloc h
def ItRep (F:Hp)(J:It)(items:List D):Prop:=∀ F1 H1,Same F F1->Same F1 H1->∀ i:Nat,
 (∀ x,items[i]?=some x->J.go i H1/\∀ v H2,J.yld i H1 v H2->∃ F2,Grow F1 H1 F2 H2/\Rep F2 v x)/\(i=items.length->J.stop i H1)
theorem ItRep.mono {F F':Hp}{J:It}{items:List D}(h:ItRep F J items)(s:Same F F'):ItRep F' J items:=λF1 H1 s1=>h F1 H1 (s.trans s1)
def lI (Y:Dyn)(t:eG):TI:=λσ H R=>∃ F σd Qd,RS Y F σd σ H/\t σd Qd/\∀ H' F' σd' J items,Same F F'->RS Y F' σd' σ H'->ItRep F' J items->Qd items σd'->R J H'
structure EI (G:GE)(k:Nat)(S:Stat)(tg iter:Expr)(t:eG) :Prop where
 run:∀ X Y,XOk X G k S Y->PI X tg iter (lI Y t)
instance {G:GE} {k:Nat} {S:Stat} {tg iter:Expr} {t:eG} :CoeFun (EI G k S tg iter t) λ_=>∀ X Y,XOk X G k S Y->PI X tg iter (lI Y t):=⟨EI.run⟩
theorem iu {X:Cx}{tg e:Expr}{t t':TI}(h:PI X tg e t)(i:∀ σ H Q,t' σ H Q->t σ H Q):PI X tg e t':=λpins s σ H Q I q=>h pins s σ H Q I (i σ H Q q)
theorem EE {X:Cx}{tg l:Expr}{tl:TE}(hl:PE X l tl):PI X tg l (λσ H R=>tl σ H λx H1=>(∃ a,x=.ref a/\(∃ xs,SqL X.K H1 a xs)/\R (Pz X.K a) H1)\/(∃ a,x=.ref a/\(∃ xs,SqT X.K H1 a xs)/\R (PB X.K a) H1)):=by
 intro pins s σ H R I h;refine bT (hl pins s σ H _ I h) λv s1 ⟨x,H1,I1,r1,q1⟩=>?_;rcases q1 with ⟨a,e,⟨xs,hq⟩,q⟩|⟨a,e,⟨xs,hq⟩,q⟩
 ·subst e
  cases r1;obtain⟨its,rv,p,hz⟩:=I1.list hq;refine wpAny_pyIter_list p.isList ?_;refine⟨s1.heap.objs.size,[s1.heap.objs.size],_,_,H1,rfl,I1.kept (t':=s1.toks) λb o e=>Heap.get?_push_of_some _ e,sR a _,⟨_,Heap.get?_push_size _ rfl,rfl,rfl⟩,λb hb=>?_,q⟩;have e:b=s1.heap.objs.size:=by simpa using hb
  subst e;exact I1.fpOk (Nat.le_refl _) (I1.hok.fresh (Nat.le_refl _))
 ·subst e
  cases r1;obtain⟨its,rv,p,hz⟩:=I1.tuple hq;refine wpAny_pyIter_tuple (show s1.heap.IsTuple a its.toArray from p) ?_
  refine⟨s1.heap.objs.size,[s1.heap.objs.size],_,_,H1,rfl,I1.kept (t':=s1.toks) λb o e=>Heap.get?_push_of_some _ e,qg a _,⟨_,Heap.get?_push_size _ rfl,rfl,rfl⟩,λb hb=>?_,q⟩;have e:b=s1.heap.objs.size:=by simpa using hb
  subst e;exact I1.fpOk (Nat.le_refl _) (I1.hok.fresh (Nat.le_refl _))
theorem Bb {K:PySem.W.Frag}{F:Hp}{a:Addr}{vs:List V}{xs:List D}(h:Rd F a (.lst vs))(r:RepL F vs xs):ItRep F (Pz K a) xs:=λF1 H1 s1 s2 i=>by
 have hs:SqL K H1 a vs:=.inl (Rd.mono (s1.trans s2) h);refine⟨λx e=>?_,λhl=>⟨vs,hs,by rw[r.length,hl];exact Nat.le_refl _⟩⟩
 obtain⟨v,e1,r1⟩:=r.get e;refine⟨⟨vs,v,hs,e1⟩,λv2 H2 y=>?_⟩;obtain⟨rfl,y⟩:=y;have:=y vs hs;rw[e1] at this;cases this;exact⟨F1,.inl ⟨rfl,rfl⟩,r1.mono s1⟩
theorem Bc {K:PySem.W.Frag}{F:Hp}{a:Addr}{vs:List V}{xs:List D}(h:F a=some (.tup vs))(r:RepL F vs xs):ItRep F (PB K a) xs:=λF1 H1 s1 s2 i=>by
 have hs:SqT K H1 a vs:=.of (s2 _ _ (s1 _ _ h));refine⟨λx e=>?_,λhl=>⟨vs,hs,by rw[r.length,hl];exact Nat.le_refl _⟩⟩
 obtain⟨v,e1,r1⟩:=r.get e;refine⟨⟨vs,v,hs,e1⟩,λv2 H2 y=>?_⟩;obtain⟨rfl,y⟩:=y;have:=y vs hs;rw[e1] at this;cases this;exact⟨F1,.inl ⟨rfl,rfl⟩,r1.mono s1⟩
def bM (t:TD):eG:=λσ Q=>t σ λd σ1=>match d with
 | .lst xs=>Q xs σ1
 | .tup xs=>Q xs σ1
 | _=>False
theorem cK {tg l:Expr}{t:TD}(h:ED G k S l t):EI G k S tg l (bM t):=.mk λX Y ok=>iu (EE (h X Y ok)) λσ H Q q=>by
 obtain⟨F,σd,Qd,R,q,K⟩:=q;refine⟨F,σd,_,R,q,λv H1 F1 d σ1 s1 R1 r1 q1=>?_⟩;cases d with
 | lst xs =>
  cases r1 with
  | lst hf rl=>exact .inl ⟨_,rfl,⟨_,.inl (Rd.mono R1.fr hf)⟩,K H1 F1 σ1 _ xs s1 R1 (Bb hf rl) q1⟩
 | tup xs =>
  cases r1 with
  | tup hf rl=>exact .inr ⟨_,rfl,⟨_,.of (R1.fr _ _ hf)⟩,K H1 F1 σ1 _ xs s1 R1 (Bc hf rl) q1⟩
 | _=>exact q1.elim
def tO (lo:Int)(n:Nat):List D:=(List.range n).map λi=>.int (lo+(i:Nat))
theorem rO {F:Hp}(lo:Int)(n:Nat):ItRep F (LC lo n) (tO lo n):=λF1 H1 s1 s2 i=>by
 refine⟨λx e=>?_,λhl=>?_⟩
 ·unfold tO at e
  rw[List.getElem?_map] at e;have hi:i < n:=by
   by_cases hi:i < n
   ·exact hi
   ·rw[List.getElem?_eq_none_iff.mpr (by simpa using hi)] at e;cases e
  rw[List.getElem?_range hi] at e;cases e;refine⟨hi,λv H2 y=>?_⟩;obtain⟨rfl,rfl⟩:=y;exact⟨F1,.inl ⟨rfl,rfl⟩,.int _⟩
 ·unfold tO at hl
  rw[List.length_map,List.length_range] at hl;exact Nat.le_of_eq hl.symm
def oj (t:qe):eG:=λσ Q=>t σ λxs σ1=>match drfs σ1 xs with
 | some [.int j]=>(-(2^62)<=j/\j < 2^62)/\Q (tO 0 j.toNat) σ1
 | _=>False
def Be (t:qe):eG:=λσ Q=>t σ λxs σ1=>match drfs σ1 xs with
 | some [.int i,.int j]=>(-(2^62)<=i/\i < 2^62/\-(2^62)<=j/\j < 2^62)/\Q (tO i (j - i).toNat) σ1
 | _=>False
theorem jN {tg a:Expr}{t:qe}{p pos:Pos}(h:EOs G k S [a] t)(hm:G.mg "range"=none)(hg:S.sc.lookup ("range":Str)=some .globalImplicit:=by rfl)(hs:∀ env,starEach [a] env=[(false,eval a env)]:=by intro _;rfl):EI G k S tg (.Call (.Name "range" p) [a] [] pos) (oj t):=.mk λX Y ok =>
 iu (sS (dm ok hg) (by rw[ok.mg];exact hm) (h X Y ok) (hs _)) λσ H Q q=>by
  obtain⟨F,σd,Qd,R,q,K⟩:=q;refine⟨F,σd,_,R,q,λvs H1 F1 xs σ1 s1 R1 r1 q1=>?_⟩
  split at q1
  ·rename_i j e
   obtain⟨v,rfl,rv⟩:=(R1.drfs r1 e).one;obtain rfl:=rv.int;exact⟨j,rfl,q1.1.1,q1.1.2,K H1 F1 σ1 _ _ s1 R1 (rO 0 _) q1.2⟩
  ·exact q1.elim
theorem EF {tg a b:Expr}{t:qe}{p pos:Pos}(h:EOs G k S [a,b] t)(hm:G.mg "range"=none)(hg:S.sc.lookup ("range":Str)=some .globalImplicit:=by rfl)(hs:∀ env,starEach [a,b] env=[(false,eval a env),(false,eval b env)]:=by intro _;rfl)(hs2:∀ env,starEach [b] env=[(false,eval b env)]:=by intro _;rfl):EI G k S tg (.Call (.Name "range" p) [a,b] [] pos) (Be t):=.mk λX Y ok =>
 iu (sT (dm ok hg) (by rw[ok.mg];exact hm) (h X Y ok) (hs _) (hs2 _)) λσ H Q q=>by
  obtain⟨F,σd,Qd,R,q,K⟩:=q;refine⟨F,σd,_,R,q,λvs H1 F1 xs σ1 s1 R1 r1 q1=>?_⟩
  split at q1
  ·rename_i i j e
   obtain⟨v,u,rfl,rv,ru⟩:=(R1.drfs r1 e).two;obtain rfl:=rv.int;obtain rfl:=ru.int;exact⟨i,j,rfl,q1.1,K H1 F1 σ1 _ _ s1 R1 (rO i _) q1.2⟩
  ·exact q1.elim

def mf (g:iX)(tb:cj)(De:EndsD):List D->Sd->Prop
 | [],σ=>De.nx σ
 | x::xs,σ=>g x σ λσ1=>tb { De with nx:=mf g tb De xs,ct:=mf g tb De xs,bk:=De.nx } σ1
def cL (ti:eG)(g:iX)(tb:cj):cj:=λDe σ=>ti σ λitems σ1=>mf g tb De items σ1
theorem eN {tg iter:Expr}{body:List Stmt}{ti:eG}{g:iX}{tb:cj}{pos:Pos}(hi:EI G k S tg iter ti)(hg:EG G k S tg g)(hb:ESs G k S body tb)(hs:∀ env x,foldedSetIterable iter env x=pure x:=by intro _ _;rfl)(hh:S.hot=false:=by rfl) :
  ES G k S (.For tg iter body [] pos) (cL ti g tb):=.mk λX Y ok=>cB (DS (ok.po hh) (ok.calm hh) (hi X Y ok) (hg X Y ok) (hb X Y ok) (hs _)) λDn σ H q=>by
 obtain⟨F,σd,De,R,q,K⟩:=q;refine⟨F,σd,_,R,q,λH1 F1 σd1 J items s1 R1 it q1=>?_⟩;refine⟨λi m σ' H'=>∃ F' σd',Same F1 F'/\RS Y F' σd' σ' H'/\mf g tb De (items.drop i) σd'/\m=items.length - i/\i<=items.length,⟨items.length,F1,σd1,Same.refl _,R1,q1,rfl,Nat.zero_le _⟩,?_⟩;rintro i m σ' H' ⟨F',σd',s',R',q',rfl,hi⟩;have itr:=it F' H' s' R'.fr i
 by_cases hl:i < items.length
 ·right
  have hd:items.drop i=items[i]::items.drop (i+1):=by rw[List.drop_eq_getElem_cons hl]
  rw[hd] at q';obtain⟨go,yl⟩:=itr.1 items[i] (by rw[List.getElem?_eq_getElem hl])
  refine⟨go,λσ2 H2=>∃ F2 σd2,Same F1 F2/\RS Y F2 σd2 σ2 H2/\mf g tb De (items.drop (i+1)) σd2,λσ2 H2 ⟨F2,σd2,s2,R2,q2⟩=>⟨items.length - (i+1),by omega,F2,σd2,s2,R2,q2,rfl,hl⟩,λv H2 y=>?_⟩
  obtain⟨F2,gr,rep⟩:=yl v H2 y;have s2:Same F1 F2:=s'.trans (gr.same R'.fr);refine⟨F2,σd',items[i],_,gr.rs R',rep,q',λσ3 H3 F3 σd3 s3 R3 q3=>⟨F3,σd3,_,R3,q3,?_⟩⟩;refine⟨λσ4 H4 F4 σd4 s4 R4 q4=>⟨F4,σd4,(s2.trans s3).trans s4,R4,q4⟩,λv4 σ4 H4 F4 σd4 b s4 R4 r4 q4=>K.rt v4 σ4 H4 F4 σd4 b (((s1.trans s2).trans s3).trans s4) R4 r4 q4,
   λσ4 H4 F4 σd4 s4 R4 q4=>K.nx σ4 H4 F4 σd4 (((s1.trans s2).trans s3).trans s4) R4 q4,λσ4 H4 F4 σd4 s4 R4 q4=>⟨F4,σd4,(s2.trans s3).trans s4,R4,q4⟩⟩
 ·left
  have e:i=items.length:=by omega
  subst e;rw[List.drop_length] at q';exact⟨itr.2 rfl,K.nx σ' H' F' σd' (s1.trans s') R' q'⟩
end Vc


namespace Vc
open PySem L2
variable [KF]

theorem mh {prog:Program}{w:World}{A:Around}{R:Result->Shared->Prop}{s:Shared}{elt target iter:Expr}{ifs:List Expr}{scope:Scope}{pos:Pos}{it acc:Value}{env:Env}(I:Nat->Shared->Prop)
  (turn:∀ n s,I n s->wpAny (model prog w) A (pyNext it) (λr s₁=>match r with
   | none=>R (.ok .next) s₁
   | some v=>wpAny (model prog w) A (letOwnedTupleGo target it v) (λ_ s₁'=>wpAny (model prog w) A (assign target env v) (λ_ s₂ =>
     wpAny (model prog w) A (forIn ifs true λc r=>if r=true then do let ok <- isTrue c env (eval c env);pure (ForInStep.yield ok) else pure (ForInStep.yield r)) (λok s₃ =>
      if ok=true then wpAny (model prog w) A (eval elt env) (λx s₄ =>
       wpAny (model prog w) A (call (.builtin "list.append") [acc,x]) (λ_ s₅=>∃ m,m < n/\I m s₅) (λ_ _=>False) s₄) (λ_ _=>False) s₃
      else ∃ m,m < n/\I m s₃) (λ_ _=>False) s₂) (λ_ _=>False) s₁') (λ_ _=>False) s₁) (λ_ _=>False) s)
  (n:Nat) (h:I n s):codeAny (model prog w) A (.compLoop (.ListComp elt [⟨target,iter,ifs,0⟩] scope pos) 0 it acc env) R s:=by
 refine codeAny_loop rfl I (λn s hI=>?_) n h;show wpAny _ A ((compTurn (.ListComp elt [⟨target,iter,ifs,0⟩] scope pos) 0 it acc env).onRaise (λx=>do noteFrame x env;theTreesLotGoes x)) _ _ s
 refine wpAny_noted ?_;rw[compTurn_list];refine wpAny_bind (wpAny_standAt (wpAny_bind (wpAny_mono (turn n s hI) (λr s₁ h₁=>?_) λ_ _ h'=>h'.elim)));cases r with
 | none=>exact wpAny_pure h₁
 | some v =>
  refine wpAny_bind (wpAny_mono h₁ (λ_ s₁' h₁'=>?_) λ_ _ h'=>h'.elim);refine wpAny_bind (wpAny_mono h₁' (λ_ s₂ h₂=>wpAny_bind (wpAny_mono h₂ (λok s₃ h₃=>?_) λ_ _ h'=>h'.elim)) λ_ _ h'=>h'.elim);cases ok with
  | false=>exact wpAny_pure ⟨rfl,h₃⟩
  | true =>
   exact wpAny_bind (wpAny_bind (wpAny_mono h₃ (λx s₄ h₄=>wpAny_bind (wpAny_mono h₄ (λ_ s₅ h₅=>wpAny_pure (wpAny_pure ⟨rfl,h₅⟩)) λ_ _ h'=>h'.elim)) λ_ _ h'=>h'.elim))

def fD (env:Env):List (Str×NameKind)->List (Str×Addr)->List (Str×Addr)
 | [],cs=>cs
 | (n,k)::r,cs=>if k==.free then fD env r ((n,(env.cells.lookup n).getD 0)::cs) else fD env r cs
theorem jO {env:Env}{scope:Scope}(h:∀ x∈scope.names,x.2=.free->∃ c,env.cells.lookup x.1=some c):closureFor scope env=pure (fD env scope.names []):=by
 have all:∀ (l:List (Str×NameKind)) (cs:List (Str×Addr)),(∀ x∈l,x.2=.free->∃ c,env.cells.lookup x.1=some c) ->
   (forIn l cs λx cs=>if (x.2==NameKind.free)=true then (do let a <- cellOf env x.1;pure (ForInStep.yield ((x.1,a)::cs))) else pure (ForInStep.yield cs):Sem (List (Str×Addr)))=pure (fD env l cs):=by
  intro l
  induction l with
  | nil=>intro cs _;rfl
  | cons x l ih =>
   intro cs hl;obtain⟨n,k⟩:=x;rw[List.forIn_cons];unfold fD
   by_cases hk:k=.free
   ·subst hk
    obtain⟨c,e⟩:=hl (n,.free) List.mem_cons_self rfl;have e':env.cells.lookup n=some c:=e;simp only[beq_self_eq_true,if_true,cellOf,e',Option.getD_some,pure_bind];exact ih _ λy hy=>hl y (List.mem_cons_of_mem _ hy)
   ·have hb:(k==NameKind.free)=false:=by simpa using hk
    simp only[hb,Bool.false_eq_true,if_false,pure_bind];exact ih _ λy hy=>hl y (List.mem_cons_of_mem _ hy)
 have h1:=all scope.names [] h;have h2:closureFor scope env=((forIn scope.names ([]:List (Str×Addr)) λx cs=>if (x.2==NameKind.free)=true then (do let a <- cellOf env x.1;pure (ForInStep.yield ((x.1,a)::cs))) else pure (ForInStep.yield cs):Sem (List (Str×Addr))) >>= λcs=>pure cs):=rfl
 rw[h2,h1,pure_bind]
theorem bI {env:Env}:∀ (l:List (Str×NameKind)) (cs:List (Str×Addr)) (x:Str) (c:Addr),(∀ y∈l,y.2=.free->∃ c,env.cells.lookup y.1=some c)->(fD env l cs).lookup x=some c->env.cells.lookup x=some c\/cs.lookup x=some c
 | [],cs,x,c,_,h=>.inr h
 | (n,k)::r,cs,x,c,hl,h=>by
  unfold fD at h
  by_cases hk:k=.free
  ·subst hk
   simp only[beq_self_eq_true,if_true] at h;obtain⟨c',e⟩:=hl (n,.free) List.mem_cons_self rfl;have e':env.cells.lookup n=some c':=e;rcases bI r _ x c (λy hy=>hl y (List.mem_cons_of_mem _ hy)) h with q|q
   ·exact .inl q
   ·rw[List.lookup_cons] at q
    cases hx:x==n with
    | true =>
     rw[hx] at q;have:=eq_of_beq hx;subst this;rw[e',Option.getD_some] at q;exact .inl (e'.trans q)
    | false=>rw[hx] at q;exact .inr q
  ·have hb:(k==NameKind.free)=false:=by simpa using hk
   simp only[hb,Bool.false_eq_true,if_false] at h;exact bI r cs x c (λy hy=>hl y (List.mem_cons_of_mem _ hy)) h
theorem iw {env:Env}:∀ (l:List (Str×NameKind)) (cs:List (Str×Addr)) (x:Str),(cs.lookup x).isSome=true->((fD env l cs).lookup x).isSome=true
 | [],cs,x,h=>h
 | (n,k)::r,cs,x,h=>by
  unfold fD
  by_cases hk:k=.free
  ·subst hk
   simp only[beq_self_eq_true,if_true];refine iw r _ x ?_;rw[List.lookup_cons];cases hx:x==n with
   | true=>rfl
   | false=>exact h
  ·have hb:(k==NameKind.free)=false:=by simpa using hk
   simp only[hb,Bool.false_eq_true,if_false];exact iw r cs x h
theorem fX {env:Env}:∀ (l:List (Str×NameKind)) (cs:List (Str×Addr)) (x:Str),(x,NameKind.free)∈l->((fD env l cs).lookup x).isSome=true
 | (n,k)::r,cs,x,h=>by
  unfold fD;rcases List.mem_cons.mp h with e|e
  ·cases e
   simp only[beq_self_eq_true,if_true];refine iw r _ _ ?_;rw[List.lookup_cons,beq_self_eq_true];rfl
  ·split
   ·exact fX r _ x e
   ·exact fX r cs x e
structure CompX (X X':Cx)(scope:Scope)(N':List Str):Prop where
 P:X'.prog=X.prog
 w:X'.w=X.w
 K:X'.K=X.K
 mg:X'.mg=X.mg
 base:X'.base=X.base
 A:X'.A=X.A
 N:X'.N=N'
 sc:X'.env.scope=relabel scope X.env
 calm:X'.calm=true
 xe:X'.xe=λ_ _=>False
def Bf (X:Cx)(ifs:List Expr)(t:TT):Prop:=∀ (pins:List (Addr×Obj)) (s:Shared) (σ:St) (H:Hp) (Q:Bool->Hp->Prop),L2.Inv X pins σ H s->t σ H Q ->
 wpAny (model X.prog X.w) X.A (forIn ifs true λc r=>if r=true then do let ok <- isTrue c X.env (eval c X.env);pure (ForInStep.yield ok) else pure (ForInStep.yield r)) (TP X pins σ Q) X.xe s
theorem Bg {X:Cx}:Bf X [] (λ_ H Q=>Q true H):=λpins s σ H Q I h=>wpAny_tests_nil ⟨H,I,h⟩
theorem Bh {X:Cx}{c:Expr}{t:TT}(h:PT X c t):Bf X [c] t:=λpins s σ H Q I q=>wpAny_tests_one (h pins s σ H Q I q)
def eB (caps:List (Option Nat))(σ:St):St:=caps.map λc=>match c with
 | some j=>(σ[j]?).join
 | none=>none
def iy (wi:TI)(caps:List (Option Nat))(g:TG)(tc:TT)(te:TE):TE:=λσ H Q=>wi σ H λJ H1=>∀ acc,H1 acc=none->∃ W:Nat->Nat->St->Hp->Prop,(∃ m,W 0 m (eB caps σ) (bz H1 acc (.lst [])))/\∀ i m σ1 H,W i m σ1 H ->
 (J.stop i H/\Q (.ref acc) H)\/(J.go i H/\∀ x H',J.yld i H x H'->g x σ1 H' λσ2 H2=>tc σ2 H2 λb H3=>if b=true then te σ2 H3 λv H4=>∃ ys m',H4 acc=some (.lst ys)/\ys.length < sizeLine/\m' < m/\W (i+1) m' σ2 (bz H4 acc (.lst (ys++[v]))) else ∃ m',m' < m/\W (i+1) m' σ2 H3)

theorem dW {env:Env}:∀ {names:List (Str×NameKind)} {x:Str} {k:NameKind},(names.map λ(n,k)=>if (k==NameKind.free&&env.scope.kind==.function&&env.kindOf n==some .cell) then (n,NameKind.cell) else (n,k)).lookup x=some k ->
  names.lookup x=some k\/(k=.cell/\names.lookup x=some .free)
 | [],_,_,h=>by simp at h
 | (n,k')::r,x,k,h=>by
  have ih:=@dW env r x k;have h:List.lookup x ((if (k'==NameKind.free&&env.scope.kind==.function&&env.kindOf n==some .cell)=true then (n,NameKind.cell) else (n,k'))::_)=some k:=h
  cases hx:x==n with
  | true =>
   by_cases hc:(k'==NameKind.free&&env.scope.kind==.function&&env.kindOf n==some .cell)=true
   ·rw[if_pos hc] at h
    simp only[List.lookup_cons,hx] at h ⊢;cases h;simp only[Bool.and_eq_true,beq_iff_eq] at hc;exact .inr ⟨rfl,by rw[hc.1.1]⟩
   ·rw[if_neg hc] at h
    simp only[List.lookup_cons,hx] at h ⊢;exact .inl h
  | false =>
   by_cases hc:(k'==NameKind.free&&env.scope.kind==.function&&env.kindOf n==some .cell)=true
   ·rw[if_pos hc] at h
    simp only[List.lookup_cons,hx] at h ⊢;exact ih h
   ·rw[if_neg hc] at h
    simp only[List.lookup_cons,hx] at h ⊢;exact ih h
theorem fY {env:Env}:∀ {names:List (Str×NameKind)} {x:Str},names.lookup x=some .free ->
  (names.map λ(n,k)=>if (k==NameKind.free&&env.scope.kind==.function&&env.kindOf n==some .cell) then (n,NameKind.cell) else (n,k)).lookup x=some .cell \/
  (names.map λ(n,k)=>if (k==NameKind.free&&env.scope.kind==.function&&env.kindOf n==some .cell) then (n,NameKind.cell) else (n,k)).lookup x=some .free
 | [],_,h=>by simp at h
 | (n,k')::r,x,h=>by
  have ih:=@fY env r x;show List.lookup x ((if (k'==NameKind.free&&env.scope.kind==.function&&env.kindOf n==some .cell)=true then (n,NameKind.cell) else (n,k'))::_)=some .cell\/List.lookup x ((if (k'==NameKind.free&&env.scope.kind==.function&&env.kindOf n==some .cell)=true then (n,NameKind.cell) else (n,k'))::_)=some .free
  cases hx:x==n with
  | true =>
   simp only[List.lookup_cons,hx] at h
   by_cases hc:(k'==NameKind.free&&env.scope.kind==.function&&env.kindOf n==some .cell)=true
   ·rw[if_pos hc];left;simp only[List.lookup_cons,hx]
   ·rw[if_neg hc];right;simp only[List.lookup_cons,hx];exact h
  | false =>
   simp only[List.lookup_cons,hx] at h
   by_cases hc:(k'==NameKind.free&&env.scope.kind==.function&&env.kindOf n==some .cell)=true
   ·rw[if_pos hc];simp only[List.lookup_cons,hx];exact ih h
   ·rw[if_neg hc];simp only[List.lookup_cons,hx];exact ih h
structure CompSc (X:Cx)(scope:Scope)(N':List Str)(caps:List (Option Nat)):Prop where
 kind:scope.kind=.function
 nocell:∀ y∈scope.names,y.2≠.cell
 names:∀ y∈scope.names,y.2=.local->scope.names.lookup y.1=some .local
 free:∀ y∈scope.names,y.2=.free->X.env.kindOf y.1=some .cell\/X.env.kindOf y.1=some .free
 len:caps.length=N'.length
 cap:∀ (i:Nat) (j:Nat),caps[i]?=some (some j)->∃ x,N'[i]?=some x/\X.N[j]?=some x/\scope.names.lookup x=some .free
section
variable {X:Cx}{pins:List (Addr×Obj)}{σ:St}{H:Hp}{s:Shared}{elt target iter:Expr}{ifs:List Expr}{scope:Scope}{pos:Pos}{N':List Str}{caps:List (Option Nat)}
theorem CompSc.cells (SC:CompSc X scope N' caps)(ok:X.Ok):∀ x∈scope.names,x.2=.free->∃ c,X.env.cells.lookup x.1=some c:=λx hx hf=>ok.has x.1 (SC.free x hx hf)
def Al (X:Cx)(scope:Scope)(N':List Str)(s₀:Shared)(H₀:Hp)(C:Addr)(fp:List Addr):Cx :=
 { X with N:=N',s₀:=s₀,H₀:=H₀,env:=compEnvC scope (fD X.env scope.names []) C X.env,outer:=X.stack,ex:=fp,fn:=λ_=>false,calm:=true,pn:=[],xe:=λ_ _=>False }
theorem EH (I:L2.Inv X pins σ H s)(SC:CompSc X scope N' caps)(hc:X.calm=true){fp:List Addr}(hf:∀ b∈fp,fj X pins H b)(hlt:∀ b∈fp,b < s.heap.objs.size):(Al X scope N' s H s.heap.objs.size fp).Ok where
 mod:=I.ok.mod
 kind:=SC.kind
 glob:=I.ok.glob
 blt:=I.ok.blt
 above:=Nat.le_refl _
 inj:=λx y c h1 h2=>by
  have f:∀ z,(fD X.env scope.names []).lookup z=some c->X.env.cells.lookup z=some c:=λz h=>by
   rcases bI scope.names [] z c (SC.cells I.ok) h with q|q
   ·exact q
   ·cases q
  exact I.ok.inj x y c (f x h1) (f y h2)
 has:=λx hx=>by
  have hx:(relabel scope X.env).names.lookup x=some .cell\/(relabel scope X.env).names.lookup x=some .free:=hx;have hfree:scope.names.lookup x=some .free:=by
   rcases hx with hx|hx
   ·rcases dW hx with q|⟨_,q⟩
    ·exact absurd rfl (SC.nocell _ (PySem.mem_of_lookup q))
    ·exact q
   ·rcases dW hx with q|⟨q,_⟩
    ·exact q
    ·cases q
  exact Option.isSome_iff_exists.mp (fX scope.names [] x (PySem.mem_of_lookup hfree))
 cab:=λx c h=>by cases h
 hd:=λ_=>I.ok.hd hc
 frames:=I.ok.frames
 stk:=.inl rfl
 exf:=λb hb=>⟨Nat.ne_of_lt (hlt b hb),λx c h=>by
  rcases bI scope.names [] x c (SC.cells I.ok) h with q|q
  ·exact (hf b hb).2.2.2.2.1 x c q
  ·cases q⟩
 bs:=I.bs
 bsz:=Nat.le_trans I.ok.bsz I.sz
 noex:=λb o e hb=>by
  rcases (hf b hb).2.2.2.1 with q|q
  ·exact I.ok.noex b o e q
  ·exact absurd (Nat.lt_of_lt_of_le (Heap.lt_size e) (Nat.le_trans I.ok.bsz q)) (Nat.lt_irrefl _)
 exfs:=λb hb z=>by
  rcases List.mem_cons.mp (I.stkSub b z) with q|q
  ·exact (hf b hb).2.1 q
  ·exact (hf b hb).2.2.1 q
 funs:=I.stack
 frf:=I.stkFree
theorem Bi (I:L2.Inv X pins σ H s)(SC:CompSc X scope N' caps)(hc:X.calm=true){fp:List Addr}(hf:∀ b∈fp,fj X pins H b)(hlt:∀ b∈fp,b < s.heap.objs.size){h1:Heap}{t1:Nat}(hn:h1.Ns s.heap.objs.size (λ_=>none))(hk:∀ b o,s.heap.get? b=some o->h1.get? b=some o) :
  L2.Inv (Al X scope N' s H s.heap.objs.size fp) [] (eB caps σ) H { s with heap:=h1,toks:=t1 } where
 ok:=EH I SC hc hf hlt
 os:=rfl
 bare:=I.bare
 base:=Un.kept hk
 loc:=by
  refine⟨_,hn,λi x v e1 e2 _=>?_⟩;have e2:(caps.map λc=>match c with|some j=>(σ[j]?).join|none=>none)[i]?=some (some v):=e2
  rw[List.getElem?_map] at e2;cases ec:caps[i]? with
  | none=>rw[ec] at e2;cases e2
  | some c =>
   rw[ec] at e2;cases c with
   | none=>cases e2
   | some j =>
    have e2:(σ[j]?).join=some v:=Option.some.inj e2;have e3:σ[j]?=some (some v):=by
     cases q:σ[j]? with
     | none=>rw[q] at e2;cases e2
     | some w =>
      rw[q] at e2;cases w with
      | none=>cases e2
      | some z=>cases e2;rfl
    obtain⟨y,w1,w2,w3⟩:=SC.cap i j ec;have e1:N'[i]?=some x:=e1;rw[w1] at e1;cases e1;have hk':=SC.free (x,.free) (PySem.mem_of_lookup w3) rfl;obtain⟨m,hm,hl⟩:=I.loc;obtain⟨u,r,l⟩:=hl j x v w2 e3 (.inr hk');refine⟨u,r,?_⟩;rcases l with ⟨k1,_⟩|⟨_,c,hc',hcell⟩
    ·have hk':X.env.kindOf x=some .cell\/X.env.kindOf x=some .free:=hk'
     rw[k1] at hk';rcases hk' with z|z<;>cases z
    ·right
     refine⟨fY w3,c,?_,?_⟩
     ·obtain⟨c',e'⟩:=Option.isSome_iff_exists.mp (fX (env:=X.env) scope.names [] x (PySem.mem_of_lookup w3))
      rcases bI scope.names [] x c' (SC.cells I.ok) e' with q|q
      ·rw[hc'] at q;cases q
       exact e'
      ·cases q
     ·obtain⟨o,ho,hd⟩:=hcell
      exact⟨o,hk _ _ ho,hd⟩
 cell:=λx c h=>by
  rcases bI scope.names [] x c (SC.cells I.ok) h with q|q
  ·obtain⟨v,o,ho,hd⟩:=I.cell x c q
   exact⟨v,o,hk _ _ ho,hd⟩
  ·cases q
 free:=I.hok.fresh (Nat.le_refl _)
 freeC:=λx c h=>by
  rcases bI scope.names [] x c (SC.cells I.ok) h with q|q
  ·exact I.freeC x c q
  ·cases q
 pin:=λp hp=>absurd (show p∈([]:List (Addr×Obj)) from hp) (by simp)
 hok:=I.hok.kept hk
 len:=by
  show (caps.map _).length=N'.length;rw[List.length_map];exact SC.len
theorem ol (I:L2.Inv X pins σ H s)(SC:CompSc X scope N' caps)(hc:X.calm=true){it:Addr}{fp:List Addr}{tn:Nat->Heap->Prop}{J:It}(T:Turn X.prog X.w X.K target J fp it tn)(t0:tn 0 s.heap)(hf:∀ b∈fp,fj X pins H b)
  {g:TG} {tc:TT} {te:TE} (hin:∀ X',CompX X X' scope N'->PG X' target g/\Bf X' ifs tc/\PE X' elt te) {Q:VK}
  (q:∀ acc,H acc=none->∃ W:Nat->Nat->St->Hp->Prop,(∃ m,W 0 m (eB caps σ) (bz H acc (.lst [])))/\∀ i m σ1 H,W i m σ1 H ->
   (J.stop i H/\Q (.ref acc) H)\/(J.go i H/\∀ x H',J.yld i H x H'->g x σ1 H' λσ2 H2=>tc σ2 H2 λb H3=>if b=true then te σ2 H3 λv H4=>∃ ys m',H4 acc=some (.lst ys)/\ys.length < sizeLine/\m' < m/\W (i+1) m' σ2 (bz H4 acc (.lst (ys++[v]))) else ∃ m',m' < m/\W (i+1) m' σ2 H3))
  {E:Value->Shared->Prop} {RR:Value->Addr->Result->Shared->Prop}
  (hRR:∀ acc C H' s',L2.Inv X pins σ H' s'->fj X pins H' C->(∃ m,s'.heap.Ns C m)->Q (.ref acc) H'->RR (.ref acc) C (.ok .next) s') :
  wpAny (model X.prog X.w) X.A (newList []) (λacc s₃=>wpAny (model X.prog X.w) X.A (newFunctionEnv scope X.env.globals (fD X.env scope.names []) [] X.env.qual none .none (some X.env)) (λcenv s₄ =>
   codeAny (model X.prog X.w) X.A (.compStart (.ListComp elt [⟨target,iter,ifs,0⟩] scope pos) 0 (.ref it) acc { cenv with scope:=relabel scope X.env }) (RR acc cenv.locals) s₄) E s₃) E s:=by
 refine wpAny_newObj_type ?_;have hacc:H s.heap.objs.size=none:=I.hok.fresh (Nat.le_refl _);have I3:L2.Inv X pins σ (bz H s.heap.objs.size (.lst [])) { s with heap:=s.heap.push { cls:=.type "list",dict:=none,data:=.seq ([]:List Value).toArray } }:=I.lnew (t':=s.toks) (its:=[]) (ys:=[]) .nil (Nat.zero_le _)
 obtain⟨W,⟨m0,w0⟩,step⟩:=q _ hacc;generalize hs3:({ s with heap:=s.heap.push { cls:=.type "list",dict:=none,data:=.seq ([]:List Value).toArray } }:Shared)=s3 at I3 ⊢
 generalize hH3:bz H s.heap.objs.size (.lst [])=H3 at I3 w0;generalize hacc':s.heap.objs.size=acc at *;have up3:∀ b o,s.heap.get? b=some o->s3.heap.get? b=some o:=λb o e=>by rw[<- hs3];exact Heap.get?_push_of_some _ e
 have fplt:∀ b∈fp,b < s3.heap.objs.size:=λb hb=>by
  obtain⟨o,e,_⟩:=T.obj 0 _ t0 b hb;exact Heap.lt_size (up3 b o e)
 have hf3:∀ b∈fp,fj X pins H3 b:=λb hb=>by
  obtain⟨f0,f⟩:=hf b hb;refine⟨?_,f⟩;obtain⟨o,e,_⟩:=T.obj 0 _ t0 b hb;have:b≠acc:=by rw[<- hacc'];exact Nat.ne_of_lt (Heap.lt_size e)
  rw[<- hH3,am this];exact f0
 have t3:tn 0 s3.heap:=T.keep 0 _ _ t0 λb _ o e=>up3 b o e;refine wpAny_newFunctionEnv SC.nocell (by intro y hy;simp at hy) (λh1 hn1 sb1=>?_) SC.kind
 have hk1:∀ b o,s3.heap.get? b=some o->h1.get? b=some o:=λb o e=>sb1.extBut b o (Nat.ne_of_lt (Heap.lt_size e)) (Heap.get?_push_of_some _ e);have cx:CompX X (Al X scope N' s3 H3 s3.heap.objs.size fp) scope N':=⟨rfl,rfl,rfl,rfl,rfl,rfl,rfl,rfl,rfl,rfl⟩;obtain⟨hg,ht,he⟩:=hin _ cx;have hn1':h1.Ns s3.heap.objs.size (λ_=>none):=by simpa using hn1
 have fpB:∀ {H':Hp},(∀ b∈fp,H' b=none)->∀ b∈fp,fj (Al X scope N' s3 H3 s3.heap.objs.size fp) [] H' b:=λ{H'} hn b hb=>by
  obtain⟨f0,f1,f2,f3,f4,f5⟩:=hf3 b hb;refine⟨hn b hb,Nat.ne_of_lt (fplt b hb),?_,.inl hb,λx c h=>?_,λp hp=>absurd (show p∈([]:List (Addr×Obj)) from hp) (by simp)⟩
  ·intro z
   rcases List.mem_cons.mp (I3.stkSub b z) with q|q
   ·exact f1 q
   ·exact f2 q
  ·rcases bI scope.names [] x c (SC.cells I.ok) h with q|q
   ·exact f4 x c q
   ·cases q
 have loop:∀ s4:Shared,L2.Inv (Al X scope N' s3 H3 s3.heap.objs.size fp) [] (eB caps σ) H3 s4->tn 0 s4.heap->codeAny (model X.prog X.w) X.A (.compLoop (.ListComp elt [⟨target,iter,ifs,0⟩] scope pos) 0 (.ref it) (.ref acc) (compEnvC scope (fD X.env scope.names []) s3.heap.objs.size X.env)) (RR (.ref acc) s3.heap.objs.size) s4:=by
  intro s4 I4 t4;refine mh (λn s'=>∃ i σ1 H',L2.Inv (Al X scope N' s3 H3 s3.heap.objs.size fp) [] σ1 H' s'/\tn i s'.heap/\(∀ b∈fp,H' b=none)/\W i n σ1 H') ?_ m0 ⟨0,_,H3,I4,t4,λb hb=>(hf3 b hb).1,w0⟩;rintro n s5 ⟨i,σ1,H5,I5,st5,fr5,w5⟩;rcases step i n σ1 H5 w5 with ⟨stop,qn⟩|⟨go,body⟩
  ·refine bT (T.done (Al X scope N' s3 H3 s3.heap.objs.size fp) rfl rfl rfl rfl i [] s5 σ1 H5 _ I5 (fpB fr5) st5 stop) λr s6 ⟨hr,I6⟩=>?_
   subst hr;have u:=I6.base;refine hRR acc _ H5 s6 (I3.call' (ch:=fp) I6.os u I6.hok I6.bare λb hb=>?_) (I3.fpOk (Nat.le_refl _) I6.free) ?_ qn
   ·obtain⟨f0,f1,f2,f3,f4,f5⟩:=hf3 b hb
    exact⟨f3.imp id λz=>Heap.get?_none_of_le z,f1,f4,f5⟩
   ·obtain⟨m,hm,_⟩:=I6.loc
    exact⟨m,hm⟩
  ·refine bT (T.item (Al X scope N' s3 H3 s3.heap.objs.size fp) rfl rfl rfl rfl i [] s5 σ1 H5 _ I5 (fpB fr5) st5 go) λr s6 ⟨u,hr,h6⟩=>?_
   subst hr;refine bT h6 λ_ s7 ⟨x,H7,I7,r7,y7,st7,fr7⟩=>?_;have I7':=I7.pinned (fpB fr7) (T.obj _ _ st7);have back:∀ {σ8:St} {H8:Hp} {s8:Shared},L2.Inv (Al X scope N' s3 H3 s3.heap.objs.size fp) ([]++hW fp s7.heap) σ8 H8 s8->L2.Inv (Al X scope N' s3 H3 s3.heap.objs.size fp) [] σ8 H8 s8/\tn (i+1) s8.heap/\∀ b∈fp,H8 b=none:=λ{σ8 H8 s8} I8=>by
    refine⟨I8.unpinned,T.keep _ _ _ st7 λb hb o e=>(I8.pin (b,o) (List.mem_append_right _ (List.mem_append_right _ (cX hb e)))).1,λb hb=>?_⟩;obtain⟨o,e,d⟩:=T.obj _ _ st7 b hb;exact (I8.pin (b,o) (List.mem_append_right _ (List.mem_append_right _ (cX hb e)))).2.1
   refine bT (hg _ s7 σ1 H7 x u _ I7' r7 (body x H7 y7)) λ_ s8 ⟨σ8,H8,I8,q8⟩=>?_;refine bT (ht _ s8 σ8 H8 _ I8 q8) λb s9 ⟨H9,I9,q9⟩=>?_;cases b with
   | false =>
    obtain⟨m',hm,w9⟩:=q9;obtain⟨J1,J2,J3⟩:=back I9;exact⟨m',hm,i+1,σ8,H9,J1,J2,J3,w9⟩
   | true =>
    refine bT (he _ s9 σ8 H9 _ I9 q9) λy s10 ⟨v,H10,I10,r10,ys,m',e10,hz,hm,w10⟩=>?_;refine bT (hZ _ s10 σ8 H10 (.ref acc) [v] (.ref acc) [y] (λz H11=>z=.non/\W (i+1) m' σ8 H11) I10 rfl (.cons r10 .nil) ⟨acc,ys,v,rfl,rfl,e10,hz,rfl,w10⟩) λ_ s11 ⟨_,H11,I11,_,_,w11⟩=>?_;obtain⟨J1,J2,J3⟩:=back I11;exact⟨m',hm,i+1,σ8,H11,J1,J2,J3,w11⟩
 have I4:=Bi (caps:=caps) (N':=N') I3 SC hc hf3 fplt (t1:=s3.toks+([]:List (Str×Value)).length) hn1' hk1;have t4:tn 0 h1:=T.keep 0 _ _ t3 λb _ o e=>hk1 b o e;exact codeAny_compStart_list (loop _ I4 t4) (T.self X.A 0 _ _ _ t4 (loop _ I4 t4))
end
end Vc


namespace Vc
open PySem L2
variable [KF]
section
variable {X:Cx}{elt target iter:Expr}{ifs:List Expr}{scope:Scope}{pos:Pos}{N':List Str}{caps:List (Option Nat)}{wi:TI}{g:TG}{tc:TT}{te:TE}
theorem rP {pins:List (Addr×Obj)}{σ:St}{H:Hp}{s:Shared}{C:Addr}{h':Heap}(f:fj X pins H C)(I:L2.Inv X pins σ H s)(hs:Heap.SameBut C s.heap h'):L2.Inv X pins σ H { s with heap:=h' }:=by
 obtain⟨f0,f1,f2,f3,f4,f5⟩:=f;exact I.turned (t':=s.toks) (λb o hb e=>hs.extBut b o hb e) f0 f1 f3 f4 f5
theorem jl (hc:X.calm=true)(hi:PI X target iter wi)(SC:CompSc X scope N' caps)(hin:∀ X',CompX X X' scope N'->PG X' target g/\Bf X' ifs tc/\PE X' elt te)(hs:∀ x,foldedSetIterable iter X.env x=pure x) :
  PE X (.ListComp elt [⟨target,iter,ifs,0⟩] scope pos) (iy wi caps g tc te):=by
 intro pins s σ H Q I h;rw[eval_ListComp];refine wpAny_comprehension_free (use:=none) rfl hs (jO (SC.cells I.ok)) SC.kind SC.names (bT (hi pins s σ H _ I h) λv s1 h1=>bT h1 λitv s2 h2=>?_);obtain⟨it,fp,tn,J,H2,rfl,I2,T,t0,f2,q2⟩:=h2;exact ol I2 SC hc T t0 f2 hin q2 (RR:=λacc C=>compPost (model X.prog X.w) X.A X.xe none (EP X pins σ Q) acc C) λacc C H' s' I' f' ⟨m,hm⟩ q'=>⟨m,hm,λh' hs'=>⟨.ref acc,H',rP f' I' hs',rfl,q'⟩⟩
theorem rQ {i:Nat}{y:Str}{py spos:Pos}(hc:X.calm=true)(hi:PI X target iter wi)(SC:CompSc X scope N' caps)(hin:∀ X',CompX X X' scope N'->PG X' target g/\Bf X' ifs tc/\PE X' elt te)(hs:∀ x,foldedSetIterable iter X.env x=pure x)
  (hN:X.N.Nodup) (hy:X.N[i]?=some y) (hx:X.env.scope.names.lookup y=some .local) (hsw:swapsWith (.ListComp elt [⟨target,iter,ifs,0⟩] scope pos) (some (.Name y py)) spos.line X.env=pure true) :
  PS X (.Assign [.Name y py] (.ListComp elt [⟨target,iter,ifs,0⟩] scope pos) spos) (uo (iy wi caps g tc te) (kM i)):=by
 intro pins s σ H D I h;rw[exec_Assign_Name_used _ _ _ _ hsw];refine wpAny_bind (wpAny_standAt (wpAny_bind ?_));show wpAny _ X.A (do let _ <- comprehension (.ListComp elt [⟨target,iter,ifs,0⟩] scope pos) scope X.env _ (newList []) false (eval iter X.env) (some (assign (.Name y py) X.env))) _ _ s
 refine wpAny_bind (wpAny_mono (wpAny_comprehension_free (use:=some (assign (.Name y py) X.env)) (Q:=λ_ s'=>SP X pins D .next s') rfl hs (jO (SC.cells I.ok)) SC.kind SC.names (bT (hi pins s σ H _ I h) λv s1 h1=>bT h1 λitv s2 h2=>?_))
  (λ_ s' hq=>wpAny_pure (wpAny_pure hq)) λ_ _ e=>e)
 obtain⟨it,fp,tn,J,H2,rfl,I2,T,t0,f2,q2⟩:=h2;refine ol (Q:=λx H1=>kM i x σ H1 D.nx) I2 SC hc T t0 f2 hin q2 (RR:=λacc C=>compPost (model X.prog X.w) X.A X.xe (some (assign (.Name y py) X.env)) (λ_ s'=>SP X pins D .next s') acc C) λacc C H' s' I' f' ⟨m,hm⟩ q'=>?_;show wpAny _ X.A (assign (.Name y py) X.env (.ref acc)) _ _ s';obtain⟨o,es,ep,ho,hd,r⟩:=id hm;have Ip:L2.Inv X (pins++hW [C] s'.heap) σ H' s':=I'.pinned (fp:=[C]) (λb hb=>(show b=C by simpa using hb) ▸ f') (λb hb=>by
  have e:b=C:=by simpa using hb
  subst e;exact⟨o,ho,λv z=>by rw[hd] at z;cases z⟩)
 refine wpAny_assign_Name (jw Ip hN hy (.inl hx) (show RelV (.ref acc) (.ref acc) from rfl) (λs'' I''=>?_) (.inr hx))
 have hC:s''.heap.get? C=some o:=(I''.pin (C,o) (List.mem_append_right _ (List.mem_append_right _ (cX (by simp) ho)))).1
 exact⟨m,⟨o,es,ep,hC,hd,r⟩,λh' hs'=>⟨_,H',rP f' I''.unpinned hs',q'⟩⟩
end

variable {G:GE}{k:Nat}{S:Stat}
def fZ (names sc:List (Str×NameKind)):List (Str×NameKind):=names.map λ(n,k)=>if (k==.free&&sc.lookup n==some .cell) then (n,.cell) else (n,k)
def kE (S:Stat)(scope:Scope)(N':List Str):Stat:=⟨N',fZ scope.names S.sc,[],true,false,false,λ_ _=>False⟩
structure BlkOk (S:Stat)(scope:Scope)(N':List Str)(caps:List (Option Nat)):Prop where
 kind:scope.kind=.function
 nd:N'.Nodup
 nocell:scope.names.all (λy=>y.2 != .cell)=true
 names:scope.names.all (λy=>y.2 != .local||scope.names.lookup y.1==some .local)=true
 free:scope.names.all (λy=>y.2 != .free||S.sc.lookup y.1==some .cell||S.sc.lookup y.1==some .free)=true
 len:caps.length=N'.length
 cap:(caps.zip N').all (λp=>match p.1 with|some j=>S.N[j]?==some p.2&&scope.names.lookup p.2==some .free|none=>true)=true
theorem BlkOk.sc {scope:Scope}{N':List Str}{caps:List (Option Nat)}(b:BlkOk S scope N' caps){X:Cx}{Y:Dyn}(ok:XOk X G k S Y):CompSc X scope N' caps where
 kind:=b.kind
 nocell:=λy hy z=>by
  have:=List.all_eq_true.mp b.nocell y hy;rw[z] at this;cases this
 names:=λy hy z=>by
  have:=List.all_eq_true.mp b.names y hy;rw[z] at this;simpa using this
 free:=λy hy z=>by
  have:=List.all_eq_true.mp b.free y hy;rw[z] at this;have kd:X.env.kindOf y.1=S.sc.lookup y.1:=by
   show X.env.scope.names.lookup y.1=_;rw[ok.sc]
  rw[kd];simpa using this
 len:=b.len
 cap:=λi j e=>by
  have hl:i < caps.length:=(List.getElem?_eq_some_iff.mp e).1;have hl':i < N'.length:=by rw[<- b.len];exact hl
  have hz:(caps.zip N')[i]?=some (some j,N'[i]):=by
   rw[List.getElem?_zip_eq_some];exact⟨e,by rw[List.getElem?_eq_getElem hl']⟩
  have:=List.all_eq_true.mp b.cap _ (List.mem_of_getElem? hz);simp only[Bool.and_eq_true,beq_iff_eq] at this;exact⟨N'[i],by rw[List.getElem?_eq_getElem hl'],by rw[ok.N];exact this.1,this.2⟩
theorem gc {X X':Cx}{Y:Dyn}{scope:Scope}{N':List Str}{caps:List (Option Nat)}(hh:S.hot=false)(ok:XOk X G k S Y)(b:BlkOk S scope N' caps)(c:CompX X X' scope N')(Y':Dyn)(hio:Y'.io=[]):XOk X' G k (kE S scope N') Y' where
 P:=c.P.trans ok.P
 w:=c.w.trans ok.w
 K:=c.K.trans ok.K
 kf:=c.K.trans ok.kf
 mg:=c.mg.trans ok.mg
 obs:=λh=>nomatch h
 base:=c.base.trans ok.base
 N:=c.N
 sc:=by
  rw[c.sc];show scope.names.map _=fZ scope.names S.sc;unfold fZ;refine List.map_congr_left λy _=>?_;obtain⟨n,kk⟩:=y;have kd:X.env.kindOf n=S.sc.lookup n:=by
   show X.env.scope.names.lookup n=_;rw[ok.sc]
  simp only[ok.kind,kd,beq_self_eq_true,Bool.and_true]
 nd:=b.nd
 ios:=λp hp=>by rw[hio] at hp;cases hp
 calm:=λ_=>c.calm
 kind:=by rw[c.sc];exact b.kind
 fn:=λh=>by cases h
 hd:=λ_=>by rw[c.A];exact ok.hd hh
 dp:=by rw[c.A];exact ok.dp
 un:=by rw[c.A];exact ok.un
 po:=λ_=>by rw[c.xe];exact PassesOwn.never
 nx:=λh=>nomatch h
 exc:=λ_ _ h=>h.elim
 made:=λh=>nomatch h
def iY:Sd->Sd->Prop
 | [],[]=>True
 | none::r,_::s=>iY r s
 | some b::r,c::s=>c=some b/\iY r s
 | _,_=>False
theorem jm:∀ {a b:Sd} {i:Nat} {x:B},iY a b->a[i]?=some (some x)->b[i]?=some (some x)
 | [],[],_,_,_,e=>by simp at e
 | none::r,c::s,0,_,h,e=>by simp at e
 | none::r,c::s,i+1,x,h,e=>by
  have h:iY r s:=h;simpa using jm (i:=i) h (by simpa using e)
 | some b::r,c::s,0,x,h,e=>by
  obtain⟨h1,h2⟩:c=some b/\iY r s:=h;simp at e;subst e;simp [h1]
 | some b::r,c::s,i+1,x,h,e=>by
  obtain⟨h1,h2⟩:c=some b/\iY r s:=h;simpa using jm (i:=i) h2 (by simpa using e)
 | [],_::_,_,_,h,_=>h.elim
 | none::_,[],_,_,h,_=>h.elim
 | some _::_,[],_,_,h,_=>h.elim
theorem jn:∀ {a b:Sd},iY a b->a.length=b.length
 | [],[],_=>rfl
 | none::r,c::s,h=>by
  have h:iY r s:=h;simp [jn h]
 | some b::r,c::s,h=>by
  obtain⟨_,h2⟩:c=some b/\iY r s:=h;simp [jn h2]
 | [],_::_,h=>h.elim
 | none::_,[],h=>h.elim
 | some _::_,[],h=>h.elim
def om (ios:List Nat):List (Option Nat)->Sd->(Sd->Prop)->Prop
 | [],σ,Q=>Q σ
 | none::r,σ,Q=>om ios r σ Q
 | some j::r,σ,Q=>match σ[j]? with
  | some (some (.own xs))=>j∉ios/\om ios r (σ.set j (some (.sh (.lst xs)))) Q
  | _=>om ios r σ Q
def cM (caps:List (Option Nat))(σ:Sd):Sd:=caps.map λc=>match c with
 | some j=>match σ[j]? with
  | some (some (.sh d))=>some (.sh d)
  | _=>none
 | none=>none
def eO (g:iX)(tc:TB)(te:TD)(σ0:Sd):List D->List D->(List D->Prop)->Prop
 | [],acc,Q=>Q acc
 | x::xs,acc,Q=>g x σ0 λσ1=>tc σ1 λb σ2=>if b=true then te σ2 λd σ3=>iY σ0 σ3/\acc.length < sizeLine/\eO g tc te σ0 xs (acc++[d]) Q else iY σ0 σ2/\eO g tc te σ0 xs acc Q
def cg (ios:List Nat)(caps:List (Option Nat))(ti:eG)(g:iX)(tc:TB)(te:TD):TX:=λσ Q=>ti σ λitems σ1=>om ios caps σ1 λσ2=>eO g tc te (cM caps σ2) items [] λds=>Q (.own ds) σ2
theorem db {ios:List Nat}{Y:Dyn}(hio:∀ p∈Y.io,p.1∈ios):∀ {caps:List (Option Nat)} {F:Hp} {σd:Sd} {σ:St} {H:Hp} {Q:Sd->Prop},RS Y F σd σ H->om ios caps σd Q->∃ F' σd',Same F F'/\RS Y F' σd' σ H/\Q σd'
 | [],F,σd,σ,H,Q,R,q=>⟨F,σd,Same.refl _,R,q⟩
 | none::r,F,σd,σ,H,Q,R,q=>db hio (caps:=r) R q
 | some j::r,F,σd,σ,H,Q,R,q=>by
  unfold om at q
  split at q
  ·rename_i xs e
   obtain⟨F2,v2,s2,R2,e2,r2⟩:=R.freezeVar e λp hp z=>q.1 (z ▸ hio p hp);obtain⟨F3,σ3,s3,R3,q3⟩:=db hio (caps:=r) R2 q.2;exact⟨F3,σ3,s2.trans s3,R3,q3⟩
  ·exact db hio (caps:=r) R q
theorem bN (caps:List (Option Nat))(σd:Sd):∀ (i:Nat) (o:O),(cM caps σd)[i]?≠some (some (.obj o)):=λi o e=>by
 unfold cM at e;rw[List.getElem?_map] at e;cases ec:caps[i]? with
 | none=>rw[ec] at e;cases e
 | some c =>
  rw[ec] at e;cases c with
  | none=>cases e
  | some j =>
   have e:(match σd[j]? with|some (some (.sh d))=>some (B.sh d)|_=>none)=some (.obj o):=Option.some.inj e
   split at e<;>cases e

theorem rR {Y:Dyn}{F:Hp}{σd:Sd}{σ:St}{H:Hp}(R:RS Y F σd σ H)(caps:List (Option Nat)){F' H':Hp}(s1:Same F F')(s2:Same F' H'):RS ⟨H',F',[],[]⟩ F' (cM caps σd) (eB caps σ) H' where
 len:=by unfold cM eB;simp
 lo:=Same.refl _
 fr:=s2
 fro:=λb o e=>.inl e
 old:=λb o e _=>e
 sh:=λi d e=>by
  unfold cM at e;rw[List.getElem?_map] at e;unfold eB;rw[List.getElem?_map];cases ec:caps[i]? with
  | none=>rw[ec] at e;cases e
  | some c =>
   rw[ec] at e;cases c with
   | none=>cases e
   | some j =>
    have e:(match σd[j]? with|some (some (.sh d))=>some (B.sh d)|_=>none)=some (.sh d):=Option.some.inj e
    split at e
    ·rename_i d' q
     cases e;obtain⟨v,h1,h2⟩:=R.sh j d q;exact⟨v,by show some ((σ[j]?).join)=_;rw[h1];rfl,h2.mono s1⟩
    ·cases e
 own:=λi xs e=>by
  unfold cM at e;rw[List.getElem?_map] at e;cases ec:caps[i]? with
  | none=>rw[ec] at e;cases e
  | some c =>
   rw[ec] at e;cases c with
   | none=>cases e
   | some j =>
    have e:(match σd[j]? with|some (some (.sh d))=>some (B.sh d)|_=>none)=some (.own xs):=Option.some.inj e
    split at e<;>cases e
 dis:=λi j xs ys a e=>by
  exfalso;unfold cM at e;rw[List.getElem?_map] at e;cases ec:caps[i]? with
  | none=>rw[ec] at e;cases e
  | some c =>
   rw[ec] at e;cases c with
   | none=>cases e
   | some j =>
    have e:(match σd[j]? with|some (some (.sh d))=>some (B.sh d)|_=>none)=some (.own xs):=Option.some.inj e
    split at e<;>cases e
 io:=λp hp=>by cases hp
 ob:=.none (bN _ _) (R.ob.tab.mono s1) λb hb=>by cases hb
theorem RS.less {Y:Dyn}{F:Hp}{σ0 σd:Sd}{σ:St}{H:Hp}(R:RS Y F σd σ H)(l:iY σ0 σd)(noown:∀ (i:Nat) (xs:List D),σ0[i]?≠some (some (.own xs)))(noobj:∀ (i:Nat) (o:O),σ0[i]?≠some (some (.obj o))){H':Hp}(s:Same F H'):RS ⟨H',F,[],[]⟩ F σ0 σ H' where
 len:=(jn l).trans R.len
 lo:=Same.refl _
 fr:=s
 fro:=λb o e=>.inl e
 old:=λb o e _=>e
 sh:=λi d e=>R.sh i d (jm l e)
 own:=λi xs e=>absurd e (noown i xs)
 dis:=λi j xs ys a e=>absurd e (noown i xs)
 io:=λp hp=>by cases hp
 ob:=.none noobj R.ob.tab λb hb=>by cases hb
theorem bO (caps:List (Option Nat))(σd:Sd):∀ (i:Nat) (xs:List D),(cM caps σd)[i]?≠some (some (.own xs)):=λi xs e=>by
 unfold cM at e;rw[List.getElem?_map] at e;cases ec:caps[i]? with
 | none=>rw[ec] at e;cases e
 | some c =>
  rw[ec] at e;cases c with
  | none=>cases e
  | some j =>
   have e:(match σd[j]? with|some (some (.sh d))=>some (B.sh d)|_=>none)=some (.own xs):=Option.some.inj e
   split at e<;>cases e

theorem eP:∀ a:Sd,iY a a
 | []=>trivial
 | none::r=>eP r
 | some b::r=>⟨rfl,eP r⟩
theorem RS.other {Y:Dyn}{F:Hp}{σd:Sd}{σ:St}{H:Hp}{a:Addr}{o:HO}(R:RS Y F σd σ H)(h1:F a=none)(h2:Y.H0 a=none)(h3:NoOwn σd σ a):RS Y F σd σ (bz H a o) where
 len:=R.len
 lo:=R.lo
 fr:=λb u e=>by
  have:b≠a:=λz=>by rw[z,h1] at e;cases e
  rw[am this];exact R.fr b u e
 fro:=R.fro
 old:=λb u e n=>by
  have:b≠a:=λz=>by rw[z,h2] at e;cases e
  rw[am this];exact R.old b u e n
 sh:=R.sh
 own:=λi xs e=>by
  obtain⟨b,vs,w1,w2,w3⟩:=R.own i xs e;have:b≠a:=λz=>h3 i xs e (by rw[w1,z])
  exact⟨b,vs,w1,by rw[am this];exact w2,w3⟩
 dis:=R.dis
 io:=R.io
 ob:=R.ob.step (Same.refl _) (λ_ _ e=>⟨e,rfl⟩) (λb hb=>by
  obtain⟨w1,w2,w3⟩:=R.ob.owned hb;have hne:b≠a:=λz=>h3.nob (z ▸ hb);exact⟨am hne,w1,w3⟩) R.ob.dsx λb hb=>by
  by_cases hne:b=a
  ·rw[hne,aw];exact λz=>nomatch z
  ·rw[am hne];exact R.ob.there b hb
def Qb (g:iX):TG:=λv σ H Q=>∃ Y:Dyn,Y.io=[]/\lG Y g v σ H Q
def Qc (t:TB):TT:=λσ H Q=>∃ Y:Dyn,Y.io=[]/\lB Y t σ H Q
def Qe (t:TD):TE:=λσ H Q=>∃ Y:Dyn,Y.io=[]/\lD Y t σ H Q
structure EBs (G:GE)(k:Nat)(S:Stat)(ifs:List Expr)(t:TB) :Prop where
 run:∀ X Y,XOk X G k S Y->Bf X ifs (lB Y t)
instance {G:GE} {k:Nat} {S:Stat} {ifs:List Expr} {t:TB} :CoeFun (EBs G k S ifs t) λ_=>∀ X Y,XOk X G k S Y->Bf X ifs (lB Y t):=⟨EBs.run⟩
def bJ:TB:=λσ Q=>Q true σ
theorem cy:EBs G k S [] bJ:=.mk λX Y ok pins s σ H Q I q=>Bg pins s σ H Q I (by
 obtain⟨F,σd,Qd,R,q,K⟩:=q;exact K true H F σd (Same.refl _) R q)
theorem Mb {c:Expr}{t:TB}(h:EB G k S c t):EBs G k S [c] t:=.mk λX Y ok=>Bh (h X Y ok)
section
variable {elt target iter:Expr}{ifs:List Expr}{scope:Scope}{pos:Pos}{N':List Str}{caps:List (Option Nat)}{ti:eG}{g:iX}{tc:TB}{te:TD}
theorem mi {X:Cx}{Y:Dyn}(hh:S.hot=false)(ok:XOk X G k S Y)(b:BlkOk S scope N' caps)(hg:EG G k (kE S scope N') target g)(ht:EBs G k (kE S scope N') ifs tc)(he:ED G k (kE S scope N') elt te) :
  ∀ X',CompX X X' scope N'->PG X' target (Qb g)/\Bf X' ifs (Qc tc)/\PE X' elt (Qe te):=λX' c =>
 ⟨λpins s σ H v u Q I r ⟨Y',hio,q⟩=>hg X' Y' (gc hh ok b c Y' hio) pins s σ H v u Q I r q,λpins s σ H Q I ⟨Y',hio,q⟩=>ht X' Y' (gc hh ok b c Y' hio) pins s σ H Q I q,λpins s σ H Q I ⟨Y',hio,q⟩=>he X' Y' (gc hh ok b c Y' hio) pins s σ H Q I q⟩
theorem jP {Y:Dyn}{ios:List Nat}(hio:∀ p∈Y.io,p.1∈ios){σ:St}{H:Hp}{Q:VK}(q:lX Y (cg ios caps ti g tc te) σ H Q):iy (lI Y ti) caps (Qb g) (Qc tc) (Qe te) σ H Q:=by
 obtain⟨F,σd,Qd,R,q,K⟩:=q;refine⟨F,σd,_,R,q,λH1 F1 σd1 J items s1 R1 it q1 acc hacc=>?_⟩;obtain⟨F2,σd2,s2,R2,q2⟩:=db hio R1 q1;have it2:=it.mono s2;have a0:Y.H0 acc=none:=(R2.fresh0 hacc).1;have aF:F2 acc=none:=bi R2.fr hacc;have aN:NoOwn σd2 σ acc:=R2.noFresh hacc;have sw:∀ {F5 H5:Hp} {o:HO},Same F5 H5->F5 acc=none->Same F5 (bz H5 acc o):=λ{F5 H5 o} s5 h b u e=>by
  have:b≠acc:=λz=>by rw[z,h] at e;cases e
  rw[am this];exact s5 b u e
 refine⟨λi m σ1 H'=>∃ Fi ds ys,Same F2 Fi/\RS Y Fi σd2 σ H'/\H' acc=some (.lst ys)/\RepL Fi ys ds/\Fi acc=none/\RS ⟨H',Fi,[],[]⟩ Fi (cM caps σd2) σ1 H'/\eO g tc te (cM caps σd2) (items.drop i) ds (λds=>Qd (.own ds) σd2)/\m=items.length - i/\i<=items.length,
  ⟨items.length,F2,[],[],Same.refl _,R2.other aF a0 aN,aw,.nil,aF,rR R2 caps (Same.refl _) (sw R2.fr aF),q2,rfl,Nat.zero_le _⟩,?_⟩
 rintro i m σ1 Hi ⟨Fi,ds,ys,si,Ri,hacci,ri,fi,Rin,qi,rfl,hi⟩;have itr:=it2 Fi Hi si Ri.fr i
 by_cases hl:i < items.length
 ·right
  have hd:items.drop i=items[i]::items.drop (i+1):=by rw[List.drop_eq_getElem_cons hl]
  rw[hd] at qi;obtain⟨go,yl⟩:=itr.1 items[i] (by rw[List.getElem?_eq_getElem hl])
  refine⟨go,λv H' y=>?_⟩;obtain⟨F3,gr,rep⟩:=yl v H' y;have sF:Same Fi F3:=gr.same Ri.fr;have R3:=gr.rs Rin;have R3':RS ⟨H',F3,[],[]⟩ F3 (cM caps σd2) σ1 H':=R3.less (eP _) (bO _ _) (bN _ _) R3.fr;have sH:Same Hi H':=by
   rcases gr with ⟨_,rfl⟩|⟨p,o,hp,_,rfl⟩
   ·exact Same.refl _
   ·exact aG hp
  have fr3:∀ c o,F3 c=some o->Fi c=some o\/Nw Hi c o:=λc o e=>by
   rcases gr with ⟨rfl,_⟩|⟨p,o',hp,rfl,_⟩
   ·exact .inl e
   ·by_cases hc:c=p
    ·subst hc;exact .inr (.inl hp)
    ·rw[am hc] at e;exact .inl e
  -- behind the turn
  have back:∀ {F5 H5:Hp} {σd5:Sd} {σ5:St},Same F3 F5->RS ⟨H',F3,[],[]⟩ F5 σd5 σ5 H5->RS Y F5 σd2 σ H5/\H5 acc=some (.lst ys)/\F5 acc=none/\Same Fi F5:=λ{F5 H5 σd5 σ5} s5 R5=>by
   have s35:Same Hi H5:=sH.trans λb o e=>R5.old b o e (by simp [Dyn.ioA])
   have fr5:∀ c o,F5 c=some o->Fi c=some o\/Nw Hi c o:=λc o e=>by
    rcases R5.fro c o e with z|z
    ·exact fr3 c o z
    ·exact .inr (z.imp sH.free id)
   refine⟨Ri.call (sF.trans s5) R5.fr s35 fr5,s35 _ _ hacci,?_,sF.trans s5⟩;cases e:F5 acc with
   | none=>rfl
   | some o =>
    rcases fr5 acc o e with z|z
    ·rw[fi] at z;cases z
    ·rcases z with z|⟨ws,rfl⟩
     ·rw[hacci] at z;cases z
     ·have y:=R5.fr acc _ e;rw[s35 _ _ hacci] at y;cases y
  refine⟨⟨H',F3,[],[]⟩,rfl,F3,_,items[i],_,R3',rep,qi,λσ4 H4 F4 σd4 s4 R4 q4=>?_⟩;refine⟨⟨H',F3,[],[]⟩,rfl,F4,σd4,_,R4,q4,λb H5 F5 σd5 s5 R5 q5=>?_⟩;cases b with
  | false =>
   obtain⟨le,q5⟩:=q5;obtain⟨w1,w2,w3,w4⟩:=back (s4.trans s5) R5;exact⟨items.length - (i+1),by omega,F5,ds,ys,si.trans w4,w1,w2,ri.mono w4,w3,R5.less le (bO _ _) (bN _ _) R5.fr,q5,rfl,hl⟩
  | true =>
   refine⟨⟨H',F3,[],[]⟩,rfl,F5,σd5,_,R5,q5,λv6 H6 F6 d σd6 s6 R6 r6 q6=>?_⟩;obtain⟨le,hz,q6⟩:=q6;obtain⟨w1,w2,w3,w4⟩:=back ((s4.trans s5).trans s6) R6;exact⟨ys,items.length - (i+1),w2,by rw[ri.length];exact hz,by omega,F6,ds++[d],ys++[v6],si.trans w4,w1.other w3 a0 aN,aw,(ri.mono w4).append (.cons r6 .nil),w3,R6.less le (bO _ _) (bN _ _) (sw R6.fr w3),q6,rfl,hl⟩
 ·left
  have e:i=items.length:=by omega
  subst e;rw[List.drop_length] at qi;exact⟨itr.2 rfl,K _ Hi Fi (.own ds) σd2 ((s1.trans s2).trans si) Ri ⟨acc,ys,rfl,hacci,ri,fi,a0,aN⟩ qi⟩
theorem cD (hi:EI G k S target iter ti)(b:BlkOk S scope N' caps)(hg:EG G k (kE S scope N') target g)(ht:EBs G k (kE S scope N') ifs tc)(he:ED G k (kE S scope N') elt te)(hs:∀ env x,foldedSetIterable iter env x=pure x:=by intro _ _;rfl)(hh:S.hot=false:=by rfl) :
  EX G k S (.ListComp elt [⟨target,iter,ifs,0⟩] scope pos) (cg S.ios caps ti g tc te):=.mk λX Y ok =>
 aP (jl (ok.calm hh) (hi X Y ok) (b.sc ok) (mi hh ok b hg ht he) (hs _)) λσ H Q q=>jP ok.ios q
theorem qz (i:Nat){y:Str}{py spos:Pos}(hi:EI G k S target iter ti)(b:BlkOk S scope N' caps)(hg:EG G k (kE S scope N') target g)(ht:EBs G k (kE S scope N') ifs tc)(he:ED G k (kE S scope N') elt te)
  (hy:S.N[i]?=some y:=by rfl) (hx:S.sc.lookup y=some .local\/(S.sc.lookup y=some .cell/\S.blk=false):=by first|exact Or.inl rfl|exact Or.inr ⟨rfl,rfl⟩) (hn:i∉S.ios:=by first|decide|exact List.not_mem_nil) (hl:(py.line==pos.line)=true:=by rfl) (hsn:(scope.names.any λ(n,k)=>n==y&&(k==.local||k==.cell))=false:=by decide +kernel)
  (hs:∀ env x,foldedSetIterable iter env x=pure x:=by intro _ _;rfl) (hh:S.hot=false:=by rfl):ES G k S (.Assign [.Name y py] (.ListComp elt [⟨target,iter,ifs,0⟩] scope pos) spos) (cu S.ios i (cg S.ios caps ti g tc te)):=.mk λX Y ok=>by
 have sw:swapsWith (.ListComp elt [⟨target,iter,ifs,0⟩] scope pos) (some (.Name y py)) spos.line X.env=pure (S.sc.lookup y==some .local):=by
  have e:swapsWith (.ListComp elt [⟨target,iter,ifs,0⟩] scope pos) (some (.Name y py)) spos.line X.env=pure (X.env.blockKind==.function&&X.env.kindOf y==some .local&&py.line==pos.line&&!(scope.names.any λ(n,k)=>n==y&&(k==.local||k==.cell))):=rfl
  have kb:X.env.blockKind=.function:=by unfold Env.blockKind;rw[ok.kind];rfl
  have kd:X.env.kindOf y=S.sc.lookup y:=by
   show X.env.scope.names.lookup y=_;rw[ok.sc]
  rw[e,kb,kd,hl,hsn];simp
 have fin:∀ Dn σ H,lS Y (cu S.ios i (cg S.ios caps ti g tc te)) Dn σ H->uo (iy (lI Y ti) caps (Qb g) (Qc tc) (Qe te)) (kM i) Dn σ H:=λDn σ H q=>by
  obtain⟨F,σd,De,R,q,K⟩:=q;refine jP ok.ios ⟨F,σd,_,R,q,λv H1 F1 y σ1 s1 R1 r1 q1=>?_⟩;obtain⟨F2,σ2,s2,R2,q2⟩:=iq R1 r1 hn ok.ios q1;exact K.nx _ H1 F2 σ2 (s1.trans s2) R2 q2
 rcases hx with hx|hx
 ·refine cB (rQ (i:=i) (ok.calm hh) (hi X Y ok) (b.sc ok) (mi hh ok b hg ht he) (hs _) (by rw[ok.N];exact ok.nd) (by rw[ok.N];exact hy) (by rw[ok.sc];exact hx) (by rw[sw,hx];rfl)) fin
 ·refine cB (L2.ps_set (i:=i) (by rw[ok.N];exact ok.nd) (by rw[ok.N];exact hy) (lY ok (.inr hx)) (jl (ok.calm hh) (hi X Y ok) (b.sc ok) (mi hh ok b hg ht he) (hs _)) (by rw[sw,hx.1];rfl) (lZ ok (.inr hx))) fin
end
end Vc


namespace Vc
open PySem L2
variable [KF]

section
variable {prog:Program}{w:World}{A:Around}{E:Value->Shared->Prop}{s:Shared}
theorem uP {j t:Addr}{i:Nat}{xs:Array Value}{x:Value}{Q:Value->Shared->Prop}(hj:s.heap.IsTupleIter j t i)(ht:s.heap.IsTuple t xs)(hx:xs[i]?=some x)
  (q:∀ g,g.IsTupleIter j t (i+1)->Heap.SameBut j s.heap g->Q x { s with heap:=g }):wpAny (model prog w) A (Builtin.SmallTypes.nextOf (.ref j)) Q E s:=by
 obtain⟨ob,h1,h2,h3⟩:=id hj;obtain⟨ot,h4,_,nt,h5⟩:=ht;unfold Builtin.SmallTypes.nextOf;refine wpAny_bind (wpAny_callSpecial?_slot (name:=Str.ofString "__next__") hj.typeIs F.slot_tuple_iterator_next (wpAny_call_entry F.slot_tuple_iterator_next hj.typeIs F.entry_tuple_iterator_next ?_ (F.args_tuple_iterator_next_1 _)));show wpAny _ _ (field (.ref j) 0 >>= _) _ _ s;refine wpAny_bind (wpAny_field h1 h3 (x:=.ref t) rfl ?_);show wpAny _ _ (if (Value.ref t==Value.none)=true then _ else _) _ _ s
 rw[if_neg (by intro z;exact absurd z Bool.false_ne_true)]
 show wpAny _ _ (field (.ref j) 1 >>= _) _ _ s;refine wpAny_bind (wpAny_field h1 h3 (x:=.int i 0) rfl ?_);show wpAny _ _ (seqItems? (.ref t) >>= _) _ _ s;refine wpAny_bind (wpAny_seqItems h4 h5 ?_);simp only[Int.toNat_natCast,hx];refine wpAny_bind (wpAny_setField h1 h3 (by simp) (wpAny_pure ⟨x,rfl,wpAny_pure (q _ ?_ (Heap.SameBut.update ..))⟩))
 refine⟨_,Heap.get?_update_self _ h1 (Obj.isFreed_of_fields (Obj.data_mapFields h3 _)),(Obj.cls_mapFields ..).trans h2,?_⟩;rw[Obj.data_mapFields h3];simp [rawInt]
theorem mj {j t:Addr}{i:Nat}{xs:Array Value}{Q:Value->Shared->Prop}(hh:A.handled=none)(hj:s.heap.IsTupleIter j t i)(ht:s.heap.IsTuple t xs)(hx:xs[i]?=none)
  (q:∀ g e,Heap.ExtBut j s.heap g->(∃ o,g.get? e=some o/\o.cls=.type "StopIteration")->E (.ref e) { s with heap:=g }):wpAny (model prog w) A (Builtin.SmallTypes.nextOf (.ref j)) Q E s:=by
 obtain⟨ob,h1,h2,h3⟩:=id hj;obtain⟨ot,h4,_,nt,h5⟩:=ht;unfold Builtin.SmallTypes.nextOf;refine wpAny_bind (wpAny_callSpecial?_slot (name:=Str.ofString "__next__") hj.typeIs F.slot_tuple_iterator_next (wpAny_call_entry F.slot_tuple_iterator_next hj.typeIs F.entry_tuple_iterator_next ?_ (F.args_tuple_iterator_next_1 _)));show wpAny _ _ (field (.ref j) 0 >>= _) _ _ s;refine wpAny_bind (wpAny_field h1 h3 (x:=.ref t) rfl ?_);show wpAny _ _ (if (Value.ref t==Value.none)=true then _ else _) _ _ s
 rw[if_neg (by intro z;exact absurd z Bool.false_ne_true)]
 show wpAny _ _ (field (.ref j) 1 >>= _) _ _ s;refine wpAny_bind (wpAny_field h1 h3 (x:=.int i 0) rfl ?_);show wpAny _ _ (seqItems? (.ref t) >>= _) _ _ s;refine wpAny_bind (wpAny_seqItems h4 h5 ?_);simp only[Int.toNat_natCast,hx];refine wpAny_bind (wpAny_rule (wpAny_bind (wpAny_setField h1 h3 (by simp) ?_)))
 show wpAny _ _ (newExc (.type "StopIteration") [] >>= _) _ _ _;refine wpAny_bind ?_;simp only[newExc,newTuple];refine wpAny_bind (wpAny_newObj_type ?_ (by size_fits))
 refine wpAny_bind (m:=firstArgMember _ _) (wpAny_of_eq (a:=Value.none) (by first|rfl | (simp only[firstArgMember];rfl)) ?_)
 refine wpAny_newObj_type ?_ (by size_fits)
 simp only[raiseNew];refine wpAny_bind (wpAny_handled ?_)
 first|rw[show A.in1.handled=none from hh]|rw[hh]
 refine wpAny_bind (wpAny_pure (wpAny_throw ?_));exact q _ _ (((Heap.SameBut.update ..).extBut.push _).push _) ⟨_,Heap.get?_push_size _ rfl,rfl⟩
end
def SqI (tp:Bool)(h:Heap)(j a:Addr)(i:Nat):Prop:=if tp=true then h.IsTupleIter j a i else h.IsListIter j a i
def SqA (tp:Bool)(h:Heap)(a:Addr)(xs:Array Value):Prop:=if tp=true then h.IsTuple a xs else h.IsList a xs
theorem SqI.live {tp:Bool}{h:Heap}{j a:Addr}{i:Nat}(q:SqI tp h j a i):∃ o,h.get? j=some o/\∀ v,o.data≠.cell v:=by
 cases tp with
 | true=>obtain⟨o,e,c,d⟩:=(show h.IsTupleIter j a i from q);exact⟨o,e,λv z=>by rw[d] at z;cases z⟩
 | false=>obtain⟨o,e,c,d⟩:=(show h.IsListIter j a i from q);exact⟨o,e,λv z=>by rw[d] at z;cases z⟩
theorem SqI.at {tp:Bool}{h h':Heap}{j a:Addr}{i:Nat}(q:SqI tp h j a i)(k:∀ o,h.get? j=some o->h'.get? j=some o):SqI tp h' j a i:=by
 cases tp with
 | true=>obtain⟨o,e,r⟩:=(show h.IsTupleIter j a i from q);exact (show h'.IsTupleIter j a i from ⟨o,k o e,r⟩)
 | false=>obtain⟨o,e,r⟩:=(show h.IsListIter j a i from q);exact (show h'.IsListIter j a i from ⟨o,k o e,r⟩)
theorem SqA.at {tp:Bool}{h h':Heap}{a:Addr}{xs:Array Value}(q:SqA tp h a xs)(k:∀ o,h.get? a=some o->h'.get? a=some o):SqA tp h' a xs:=by
 cases tp with
 | true=>obtain⟨o,e,r⟩:=(show h.IsTuple a xs from q);exact (show h'.IsTuple a xs from ⟨o,k o e,r⟩)
 | false=>obtain⟨o,e,r⟩:=(show h.IsList a xs from q);exact (show h'.IsList a xs from ⟨o,k o e,r⟩)
section
variable {prog:Program}{w:World}{A:Around}{E:Value->Shared->Prop}{s:Shared}
theorem Bj {tp:Bool}{j a:Addr}{i:Nat}{xs:Array Value}{x:Value}{Q:Value->Shared->Prop}(hj:SqI tp s.heap j a i)(ha:SqA tp s.heap a xs)(hx:xs[i]?=some x)
  (q:∀ g,SqI tp g j a (i+1)->Heap.SameBut j s.heap g->Q x { s with heap:=g }):wpAny (model prog w) A (Builtin.SmallTypes.nextOf (.ref j)) Q E s:=by
 cases tp with
 | true=>exact uP hj ha hx q
 | false=>exact wpAny_nextOf_list_item hj ha hx q
theorem jQ {tp:Bool}{j a:Addr}{i:Nat}{xs:Array Value}{Q:Value->Shared->Prop}(hh:A.handled=none)(hj:SqI tp s.heap j a i)(ha:SqA tp s.heap a xs)(hx:xs[i]?=none)
  (q:∀ g e,Heap.ExtBut j s.heap g->(∃ o,g.get? e=some o/\o.cls=.type "StopIteration")->E (.ref e) { s with heap:=g }):wpAny (model prog w) A (Builtin.SmallTypes.nextOf (.ref j)) Q E s:=by
 cases tp with
 | true=>exact mj hh hj ha hx q
 | false=>exact wpAny_nextOf_list_end hh hj ha hx q
structure ZAp (z U V i j:Addr):Prop where
 uz:U≠z
 vz:V≠z
 iz:i≠z
 jz:j≠z
 uv:U≠V
 ui:U≠i
 uj:U≠j
 vi:V≠i
 vj:V≠j
 ij:i≠j
theorem Bk {tp tq:Bool}{z U V i j l m:Addr}{n:Nat}{xs ys:Array Value}{x y a b:Value}{Q:Option Value->Shared->Prop}(D:ZAp z U V i j)(lz:l≠z/\l≠V/\l≠i/\l≠j)(mz:m≠z/\m≠V/\m≠i/\m≠j)
  (hz:IsZip s.heap z U V .none) (hU:IsPair s.heap U (.ref i) (.ref j)) (hV:IsPair s.heap V a b) (h1:SqI tp s.heap i l n) (h2:SqI tq s.heap j m n) (hl:SqA tp s.heap l xs) (hm:SqA tq s.heap m ys) (hx:xs[n]?=some x) (hy:ys[n]?=some y)
  (q:∀ g,IsZip g z U V (rawInt s.heap.objs.size)->IsPair g V x y->SqI tp g i l (n+1)->SqI tq g j m (n+1)->IsPair g s.heap.objs.size x y->g.objs.size=s.heap.objs.size+1 ->
   (∀ c o,c≠z->c≠V->c≠i->c≠j->s.heap.get? c=some o->g.get? c=some o)->Q (some (.ref s.heap.objs.size)) { s with heap:=g }):wpAny (model prog w) A (pyNext (.ref z)) Q E s:=by
 have hT:s.TypeIs (.ref z) "zip":=⟨_,hz,rfl⟩;unfold pyNext;refine wpAny_bind (wpAny_attempt (wpAny_callSpecial?_slot (name:=Str.ofString "__next__") hT F.slot_zip_next (wpAny_call_entry F.slot_zip_next hT F.entry_zip_next ?_ (F.args_zip_next_1 _))));show wpAny _ _ (field (.ref z) 2 >>= _) _ _ _;refine wpAny_bind (wpAny_field hz rfl (x:=.bool false) rfl ?_);show wpAny _ _ (field (.ref z) 3 >>= _) _ _ _;refine wpAny_bind (wpAny_field hz rfl (x:=.ref U) rfl (wpAny_bind (wpAny_seqItems hU rfl ?_)));show wpAny _ _ (Builtin.SmallTypes.ownedTupleIsFree (.ref z) >>= _) _ _ _;refine wpAny_bind ?_;unfold Builtin.SmallTypes.ownedTupleIsFree;refine wpAny_bind (wpAny_field hz rfl (x:=.none) rfl (wpAny_pure ?_));simp only[if_true];refine wpAny_bind (wpAny_rule (wpAny_bind (wpAny_field hz rfl (x:=.ref V) rfl (wpAny_bind (wpAny_setField_rec hz (by simp) λg1 z1 e1=>?_)))))
 replace z1:IsZip g1 z U V .ellipsis:=z1
 refine wpAny_bind ?_;simp only[List.zipIdx_cons,List.zipIdx_nil,List.forIn_cons,List.forIn_nil];refine wpAny_bind (wpAny_bind (wpAny_onRaise ?_));show wpAny _ _ (Builtin.SmallTypes.nextOf (.ref i) >>= _) _ _ _;refine wpAny_bind (Bj (s:={ s with heap:=g1 }) (h1.at λo e=>e1.extBut _ _ D.iz e) (hl.at λo e=>e1.extBut _ _ lz.1 e) hx λg2 w2 e2=>wpAny_pure ?_)
 have v2:IsPair g2 V a b:=e2.extBut _ _ D.vi (e1.extBut _ _ D.vz hV);refine wpAny_bind (wpAny_seqItems v2 rfl (wpAny_bind (wpAny_updateSeq_pair v2 λg3 v3 e3=>?_)))
 replace v3:IsPair g3 V x b:=v3
 refine wpAny_bind (wpAny_letGo (wpAny_pure (wpAny_bind (wpAny_bind (wpAny_onRaise ?_)))));show wpAny _ _ (Builtin.SmallTypes.nextOf (.ref j) >>= _) _ _ _;have to3:∀ c o,c≠z->c≠i->c≠V->s.heap.get? c=some o->g3.get? c=some o:=λc o c1 c2 c3 e=>e3.extBut _ _ c3 (e2.extBut _ _ c2 (e1.extBut _ _ c1 e));refine wpAny_bind (Bj (s:={ s with heap:=g3 }) (h2.at λo e=>to3 j o D.jz D.ij.symm D.vj.symm e) (hm.at λo e=>to3 m o mz.1 mz.2.2.1 mz.2.1 e) hy λg4 w4 e4=>wpAny_pure ?_)
 have v4:IsPair g4 V x b:=e4.extBut _ _ D.vj v3;refine wpAny_bind (wpAny_seqItems v4 rfl (wpAny_bind (wpAny_updateSeq_pair v4 λg5 v5 e5=>?_)))
 replace v5:IsPair g5 V x y:=v5
 refine wpAny_bind (wpAny_letGo (wpAny_pure (wpAny_pure (wpAny_bind (wpAny_seqItems v5 rfl (wpAny_bind (wpAny_newTuple ?_)))))));have sz:g5.objs.size=s.heap.objs.size:=by rw[e5.1,e4.1,e3.1,e2.1,e1.1]
 have z5:IsZip g5 z U V .ellipsis:=e5.extBut _ _ D.vz.symm (e4.extBut _ _ D.jz.symm (e3.extBut _ _ D.vz.symm (e2.extBut _ _ D.iz.symm z1)));have k5:∀ c o,c≠z->c≠V->c≠i->c≠j->s.heap.get? c=some o->g5.get? c=some o:=λc o c1 c2 c3 c4 e=>e5.extBut _ _ c2 (e4.extBut _ _ c4 (to3 c o c1 c3 c2 e));have i5:SqI tp g5 i l (n+1):=w2.at λo e=>e5.extBut _ _ D.vi.symm (e4.extBut _ _ D.ij (e3.extBut _ _ D.vi.symm e));have j5:SqI tq g5 j m (n+1):=w4.at λo e=>e5.extBut _ _ D.vj.symm e;have zlt:z < g5.objs.size:=Heap.lt_size z5;show wpAny _ _ (Builtin.SmallTypes.ownedTupleHandOut (.ref z) (.ref g5.objs.size) >>= _) _ _ _;refine wpAny_bind ?_;unfold Builtin.SmallTypes.ownedTupleHandOut;have z6:IsZip (g5.push { cls:=.type "tuple",data:=.seq #[x,y] }) z U V .ellipsis:=Heap.get?_push_of_some _ z5;refine wpAny_bind (wpAny_setField_rec z6 (by simp) λg7 z7 e7=>?_)
 replace z7:IsZip g7 z U V (rawInt g5.objs.size):=z7
 refine wpAny_setField_rec z7 (by simp) λg8 z8 e8=>?_
 replace z8:IsZip g8 z U V (rawInt g5.objs.size):=z8
 have up:∀ c o,c≠z->g5.get? c=some o->g8.get? c=some o:=λc o c1 e=>e8.extBut _ _ c1 (e7.extBut _ _ c1 (Heap.get?_push_of_some _ e));have t8:IsPair g8 g5.objs.size x y:=e8.extBut _ _ (Nat.ne_of_gt zlt) (e7.extBut _ _ (Nat.ne_of_gt zlt) (Heap.get?_push_size _ rfl));have s8:g8.objs.size=g5.objs.size+1:=by rw[e8.1,e7.1,Heap.size_push]
 rw[sz] at z8 t8 s8;refine wpAny_pure ⟨_,rfl,wpAny_pure ?_⟩;show Q (some (.ref g5.objs.size)) _;rw[sz];exact q g8 z8 (up _ _ D.vz v5) (i5.at λo e=>up _ o D.iz e) (j5.at λo e=>up _ o D.jz e) t8 s8 λc o c1 c2 c3 c4 e=>up c o c1 (k5 c o c1 c2 c3 c4 e)
end
end Vc


namespace Vc
open PySem L2
variable [KF]
abbrev Rb (tp:Bool):String:=if tp=true then "tuple_iterator" else "list_iterator"
abbrev zA (tp:Bool)(h:Heap)(l:Addr):Heap:=h.push { cls:=.type (Rb tp),data:=.fields #[.ref l,.int 0 0] }
abbrev zB (tp tq:Bool)(h:Heap)(l m:Addr):Heap:=zA tq (zA tp h l) m
abbrev zC (tp tq:Bool)(h:Heap)(l m:Addr):Heap:=(zB tp tq h l m).push { cls:=.type "tuple",data:=.seq #[.ref h.objs.size,.ref (zA tp h l).objs.size] }
abbrev zD (tp tq:Bool)(h:Heap)(l m:Addr):Heap:=(zC tp tq h l m).push { cls:=.type "tuple",data:=.seq #[.none,.none] }
abbrev zE (tp tq:Bool)(h:Heap)(l m:Addr):Heap:=(zD tp tq h l m).push { cls:=.type "zip",data:=.fields #[.none,.bool false,.bool false,.ref (zB tp tq h l m).objs.size,.ref (zC tp tq h l m).objs.size] }
set_option maxHeartbeats 4000000 in
theorem uQ (tp tq:Bool)(l m:Addr)(xs ys:Array Value) :
  Meets (Builtin.«zip.__new__» ⟨[.type "zip",.ref l,.ref m],[]⟩) (λ_ R s=>SqA tp s.heap l xs/\SqA tq s.heap m ys/\R (.ok (.ret (.ref (zD tp tq s.heap l m).objs.size))) { s with heap:=zE tp tq s.heap l m }) :=
 .of_wp λprog w A R s h=>by
  obtain⟨hp,g,d,tk,os⟩:=s;obtain⟨hl,hm,h⟩:=h;have sub:=sub_zip;cases tp with
  | true =>
   have L1:Heap.IsTuple (Shared.heap ⟨hp,g,d,tk,os⟩) l xs:=hl;cases tq with
   | true =>
    have L2:Heap.IsTuple (Shared.heap ⟨hp.push { cls:=.type "tuple_iterator",data:=.fields #[.ref l,.int 0 0] },g,d,tk,os⟩) m ys:=by
     obtain⟨o,e,r⟩:=(show hp.IsTuple m ys from hm);exact⟨o,Heap.get?_push_of_some _ e,r⟩
    wp_walk using wpAny_pyIter_tuple L1,wpAny_pyIter_tuple L2
    exact⟨_,rfl,h⟩
   | false =>
    have L2:Heap.IsList (Shared.heap ⟨hp.push { cls:=.type "tuple_iterator",data:=.fields #[.ref l,.int 0 0] },g,d,tk,os⟩) m ys:=by
     obtain⟨o,e,r⟩:=(show hp.IsList m ys from hm);exact⟨o,Heap.get?_push_of_some _ e,r⟩
    wp_walk using wpAny_pyIter_tuple L1,wpAny_pyIter_list L2
    exact⟨_,rfl,h⟩
  | false =>
   have L1:Heap.IsList (Shared.heap ⟨hp,g,d,tk,os⟩) l xs:=hl;cases tq with
   | true =>
    have L2:Heap.IsTuple (Shared.heap ⟨hp.push { cls:=.type "list_iterator",data:=.fields #[.ref l,.int 0 0] },g,d,tk,os⟩) m ys:=by
     obtain⟨o,e,r⟩:=(show hp.IsTuple m ys from hm);exact⟨o,Heap.get?_push_of_some _ e,r⟩
    wp_walk using wpAny_pyIter_list L1,wpAny_pyIter_tuple L2
    exact⟨_,rfl,h⟩
   | false =>
    have L2:Heap.IsList (Shared.heap ⟨hp.push { cls:=.type "list_iterator",data:=.fields #[.ref l,.int 0 0] },g,d,tk,os⟩) m ys:=by
     obtain⟨o,e,r⟩:=(show hp.IsList m ys from hm);exact⟨o,Heap.get?_push_of_some _ e,r⟩
    wp_walk using wpAny_pyIter_list L1,wpAny_pyIter_list L2
    exact⟨_,rfl,h⟩
theorem rS {tp:Bool}{h:Heap}{j a:Addr}(e:h.get? j=some { cls:=.type (Rb tp),data:=.fields #[.ref a,.int 0 0] }):SqI tp h j a 0:=by
 cases tp with
 | true=>exact⟨_,e,rfl,rfl⟩
 | false=>exact⟨_,e,rfl,rfl⟩
section
variable {prog:Program}{w:World}{A:Around}{E:Value->Shared->Prop}{s:Shared}
theorem uR {tp tq:Bool}{l m:Addr}{xs ys:Array Value}{Q:Value->Shared->Prop}(hl:SqA tp s.heap l xs)(hm:SqA tq s.heap m ys)
  (q:∀ g,IsZip g (s.heap.objs.size+4) (s.heap.objs.size+2) (s.heap.objs.size+3) .none->IsPair g (s.heap.objs.size+2) (.ref s.heap.objs.size) (.ref (s.heap.objs.size+1))->IsPair g (s.heap.objs.size+3) .none .none ->
   SqI tp g s.heap.objs.size l 0->SqI tq g (s.heap.objs.size+1) m 0->(∀ c o,s.heap.get? c=some o->g.get? c=some o)->Q (.ref (s.heap.objs.size+4)) { s with heap:=g }) :
  wpAny (model prog w) A (call (.type "zip") [.ref l,.ref m]) Q E s:=by
 refine callType_new F.called_zip (by decide) (F.typeCall_zip_2 _ _) (F.newCall_zip_2 _ _) (λob=>F.args_object_init_3 ob _ _) F.entry_zip_new (uQ tp tq l m xs ys) ⟨hl,hm,?_⟩
 have n1:(zA tp s.heap l).objs.size=s.heap.objs.size+1:=Heap.size_push ..;have n2:(zB tp tq s.heap l m).objs.size=s.heap.objs.size+2:=by rw[Heap.size_push,n1]
 have n3:(zC tp tq s.heap l m).objs.size=s.heap.objs.size+3:=by rw[Heap.size_push,n2]
 have n4:(zD tp tq s.heap l m).objs.size=s.heap.objs.size+4:=by rw[Heap.size_push,n3]
 have p5:(zE tp tq s.heap l m).get? (zD tp tq s.heap l m).objs.size=some _:=Heap.get?_push_size _ rfl;have p4:(zE tp tq s.heap l m).get? (zC tp tq s.heap l m).objs.size=some _:=Heap.get?_push_of_some _ (Heap.get?_push_size _ rfl);have p3:(zE tp tq s.heap l m).get? (zB tp tq s.heap l m).objs.size=some _:=Heap.get?_push_of_some _ (Heap.get?_push_of_some _ (Heap.get?_push_size _ rfl));have p2:(zE tp tq s.heap l m).get? (zA tp s.heap l).objs.size=some _:=Heap.get?_push_of_some _ (Heap.get?_push_of_some _ (Heap.get?_push_of_some _ (Heap.get?_push_size _ rfl)));have p1:(zE tp tq s.heap l m).get? s.heap.objs.size=some _:=Heap.get?_push_of_some _ (Heap.get?_push_of_some _ (Heap.get?_push_of_some _ (Heap.get?_push_of_some _ (Heap.get?_push_size _ rfl))));show _/\_;rw[n2,n3,n4] at p5;rw[n1,n2] at p3;rw[n3] at p4;rw[n1] at p2;rw[n4];refine⟨⟨_,p5,rfl⟩,q _ p5 p3 p4 (rS p1) (rS p2) λc o x=>?_⟩;exact Heap.get?_push_of_some _ (Heap.get?_push_of_some _ (Heap.get?_push_of_some _ (Heap.get?_push_of_some _ (Heap.get?_push_of_some _ x))))
theorem uS {tp tq:Bool}{z U V i j l m:Addr}{n:Nat}{xs ys:Array Value}{a b:Value}{Q:Option Value->Shared->Prop}(hh:A.handled=none)(D:ZAp z U V i j)(lz:l≠z/\l≠V/\l≠i/\l≠j)(mz:m≠z/\m≠V/\m≠i/\m≠j)
  (hz:IsZip s.heap z U V .none) (hU:IsPair s.heap U (.ref i) (.ref j)) (hV:IsPair s.heap V a b) (h1:SqI tp s.heap i l n) (h2:SqI tq s.heap j m n) (hl:SqA tp s.heap l xs) (hm:SqA tq s.heap m ys) (hend:xs[n]?=none\/ys[n]?=none)
  (q:∀ g,(∀ c o,c≠z->c≠V->c≠i->c≠j->s.heap.get? c=some o->g.get? c=some o)->Q none { s with heap:=g }):wpAny (model prog w) A (pyNext (.ref z)) Q E s:=by
 have hT:s.TypeIs (.ref z) "zip":=⟨_,hz,rfl⟩;unfold pyNext;refine wpAny_bind (wpAny_attempt (wpAny_callSpecial?_slot (name:=Str.ofString "__next__") hT F.slot_zip_next (wpAny_call_entry F.slot_zip_next hT F.entry_zip_next ?_ (F.args_zip_next_1 _))));show wpAny _ _ (field (.ref z) 2 >>= _) _ _ _;refine wpAny_bind (wpAny_field hz rfl (x:=.bool false) rfl ?_);show wpAny _ _ (field (.ref z) 3 >>= _) _ _ _;refine wpAny_bind (wpAny_field hz rfl (x:=.ref U) rfl (wpAny_bind (wpAny_seqItems hU rfl ?_)));show wpAny _ _ (Builtin.SmallTypes.ownedTupleIsFree (.ref z) >>= _) _ _ _;refine wpAny_bind ?_;unfold Builtin.SmallTypes.ownedTupleIsFree;refine wpAny_bind (wpAny_field hz rfl (x:=.none) rfl (wpAny_pure ?_));simp only[if_true];refine wpAny_bind (wpAny_rule (wpAny_bind (wpAny_field hz rfl (x:=.ref V) rfl (wpAny_bind (wpAny_setField_rec hz (by simp) λg1 z1 e1=>?_)))))
 replace z1:IsZip g1 z U V .ellipsis:=z1
 refine wpAny_bind ?_;simp only[List.zipIdx_cons,List.zipIdx_nil,List.forIn_cons,List.forIn_nil];refine wpAny_bind (wpAny_bind (wpAny_onRaise ?_));show wpAny _ _ (Builtin.SmallTypes.nextOf (.ref i) >>= _) _ _ _;cases hx:xs[n]? with
 | none =>
  refine wpAny_bind (jQ (s:={ s with heap:=g1 }) hh (h1.at λo e=>e1.extBut _ _ D.iz e) (hl.at λo e=>e1.extBut _ _ lz.1 e) hx λg2 e x2 he=>?_)
  obtain⟨oe,he1,he2⟩:=he;have z2:IsZip g2 z U V .ellipsis:=x2 _ _ D.iz.symm z1;have ez:e≠z:=λx=>by subst x;rw[z2] at he1;cases he1;simp at he2
  refine wpAny_setField_rec z2 (by simp) λg3 _ e3=>?_
  refine wpAny_bind (wpAny_isInstance (T:="StopIteration") (b:=true) ⟨oe,e3.extBut _ _ ez he1,he2⟩ isSubtype_stop (wpAny_pure (q _ λc o c1 _ c3 _ x=>?_)));exact e3.extBut _ _ c1 (x2 _ _ c3 (e1.extBut _ _ c1 x))
 | some x =>
  have hy:ys[n]?=none:=by
   rcases hend with h|h
   ·rw[hx] at h;cases h
   ·exact h
  refine wpAny_bind (Bj (s:={ s with heap:=g1 }) (h1.at λo e=>e1.extBut _ _ D.iz e) (hl.at λo e=>e1.extBut _ _ lz.1 e) hx λg2 w2 e2=>wpAny_pure ?_)
  have v2:IsPair g2 V a b:=e2.extBut _ _ D.vi (e1.extBut _ _ D.vz hV);refine wpAny_bind (wpAny_seqItems v2 rfl (wpAny_bind (wpAny_updateSeq_pair v2 λg3 v3 e3=>?_)));refine wpAny_bind (wpAny_letGo (wpAny_pure (wpAny_bind (wpAny_bind (wpAny_onRaise ?_)))));show wpAny _ _ (Builtin.SmallTypes.nextOf (.ref j) >>= _) _ _ _;have to3:∀ c o,c≠z->c≠i->c≠V->s.heap.get? c=some o->g3.get? c=some o:=λc o c1 c2 c3 e=>e3.extBut _ _ c3 (e2.extBut _ _ c2 (e1.extBut _ _ c1 e));refine wpAny_bind (jQ (s:={ s with heap:=g3 }) hh (h2.at λo e=>to3 j o D.jz D.ij.symm D.vj.symm e) (hm.at λo e=>to3 m o mz.1 mz.2.2.1 mz.2.1 e) hy λg4 e x4 he=>?_)
  obtain⟨oe,he1,he2⟩:=he;have z4:IsZip g4 z U V .ellipsis:=x4 _ _ D.jz.symm (e3.extBut _ _ D.vz.symm (e2.extBut _ _ D.iz.symm z1));have ez:e≠z:=λx=>by subst x;rw[z4] at he1;cases he1;simp at he2
  refine wpAny_setField_rec z4 (by simp) λg5 _ e5=>?_
  refine wpAny_bind (wpAny_isInstance (T:="StopIteration") (b:=true) ⟨oe,e5.extBut _ _ ez he1,he2⟩ isSubtype_stop (wpAny_pure (q _ λc o c1 c2 c3 c4 x=>?_)));exact e5.extBut _ _ c1 (x4 _ _ c4 (to3 c o c1 c3 c2 x))
end
end Vc


namespace Vc
open PySem L2
variable [KF]
section
variable {X:Cx}{pins:List (Addr×Obj)}{σ:St}{H:Hp}{s:Shared}
theorem rT (I:L2.Inv X pins σ H s){ch:List Addr}(hf:∀ b∈ch,fj X pins H b){h':Heap}{t':Nat}(kp:∀ b o,b∉ch->s.heap.get? b=some o->h'.get? b=some o){T:Addr}{o:HO}(hT:s.heap.objs.size<=T)(new:ObjOk X.prog X.w (bz H T o) h' T o) :
  L2.Inv X pins σ (bz H T o) { s with heap:=h',toks:=t' }:=by
 have uI:∀ {b u},s.heap.get? b=some u->b≠T:=λe=>Nat.ne_of_lt (Nat.lt_of_lt_of_le (Heap.lt_size e) hT);have trT:∀ {b u},H b=some u->b≠T:=λe=>Nat.ne_of_lt (Nat.lt_of_lt_of_le (I.hok.lt e) hT);have nch:∀ {b u},H b=some u->b∉ch:=λ{b u} e z=>by rw[(hf b z).1] at e;cases e
 refine I.step (g':=s.gens) (d':=s.drawn) (ch:=ch) (λb hb=>?_) (λb u _ _ hc e _=>kp b u hc e) (λb u _ _ hc e _=>⟨u.slots,kp b u hc e⟩) (λb u hc e n=>by rw[am (uI e)];exact n) (λb u hc e=>⟨u,kp b u hc e⟩)
  (λb xs e=>by rw[am (trT e)];exact e) (λb u w e=>by rw[am (trT e)];exact e) (λb ps e=>⟨#[],by rw[am (trT e),e];simp⟩) (λm hm=>?_) (λb u e=>?_) I.bare
 ·obtain⟨f0,f1,f2,f3,f4,f5⟩:=hf b hb
  exact⟨f3.imp id λz=>Heap.get?_none_of_le z,f1,f4,f5⟩
 ·obtain⟨ob,es,ep,ho,r⟩:=hm
  refine⟨ob,es,ep,kp _ ob (λz=>?_) ho,r⟩;exact (hf _ z).2.1 rfl
 ·by_cases hb:b=T
  ·subst hb;rw[aw] at e;cases e;exact new
  ·rw[am hb] at e
   refine (I.hok b u e).stay (λc v hc q=>?_) (λc q=>by rw[am (trT q)];exact q) (λc xs q=>by rw[am (trT q)];exact q) λc o u q=>by rw[am (trT q)];exact q
   rcases hc with z|z
   ·subst z;exact kp _ v (nch e) q
   ·exact kp _ v (nch z) q
theorem rV (I:L2.Inv X pins σ H s){ch:List Addr}(hf:∀ b∈ch,fj X pins H b){h':Heap}{t':Nat}(kp:∀ b o,b∉ch->s.heap.get? b=some o->h'.get? b=some o):L2.Inv X pins σ H { s with heap:=h',toks:=t' }:=by
 have nch:∀ {b u},H b=some u->b∉ch:=λ{b u} e z=>by rw[(hf b z).1] at e;cases e
 refine I.step (g':=s.gens) (d':=s.drawn) (ch:=ch) (λb hb=>?_) (λb u _ _ hc e _=>kp b u hc e) (λb u _ _ hc e _=>⟨u.slots,kp b u hc e⟩) (λb u hc e n=>n) (λb u hc e=>⟨u,kp b u hc e⟩)
  (λb xs e=>e) (λb u w e=>e) (λb ps e=>⟨#[],by rw[e];simp⟩) (λm hm=>?_) (λb u e=>?_) I.bare
 ·obtain⟨f0,f1,f2,f3,f4,f5⟩:=hf b hb
  exact⟨f3.imp id λz=>Heap.get?_none_of_le z,f1,f4,f5⟩
 ·obtain⟨ob,es,ep,ho,r⟩:=hm
  refine⟨ob,es,ep,kp _ ob (λz=>?_) ho,r⟩;exact (hf _ z).2.1 rfl
 ·refine (I.hok b u e).stay (λc v hc q=>?_) (λc q=>q) λc xs q=>q
  rcases hc with z|z
  ·subst z;exact kp _ v (nch e) q
  ·exact kp _ v (nch z) q
end
def Sq (tp:Bool)(K:PySem.W.Frag)(H:Hp)(a:Addr)(xs:List V):Prop:=if tp=true then SqT K H a xs else SqL K H a xs
theorem Sq.is {tp:Bool}{X:Cx}{pins:List (Addr×Obj)}{σ:St}{H:Hp}{s:Shared}{a:Addr}{xs:List V}(I:L2.Inv X pins σ H s)(h:Sq tp X.K H a xs):∃ its:List Value,Vals xs its/\SqA tp s.heap a its.toArray/\a < s.heap.objs.size:=by
 cases tp with
 | true =>
  obtain⟨its,r,p,_⟩:=I.tuple (show SqT X.K H a xs from h)
  exact⟨its,r,p,by obtain⟨o,e,_⟩:=p;exact Heap.lt_size e⟩
 | false =>
  obtain⟨its,r,p,_⟩:=I.list (show SqL X.K H a xs from h)
  exact⟨its,r,p.isList,p.lt⟩
theorem Sq.inj {tp:Bool}{X:Cx}{pins:List (Addr×Obj)}{σ:St}{H:Hp}{s:Shared}{a:Addr}{xs ys:List V}(I:L2.Inv X pins σ H s)(h:Sq tp X.K H a xs)(h':Sq tp X.K H a ys):xs=ys:=by
 cases tp with
 | true=>exact I.tuple_inj h h'
 | false=>exact I.list_inj h h'
def Qf (tp tq:Bool)(K:PySem.W.Frag)(l m:Addr):It :=
  ⟨λn H=>∃ xs ys x y,Sq tp K H l xs/\Sq tq K H m ys/\xs[n]?=some x/\ys[n]?=some y,
   λn H v H'=>∃ p x y,H p=none/\v=.ref p/\H'=bz H p (.tup [x,y])/\(∀ xs,Sq tp K H l xs->xs[n]?=some x)/\∀ ys,Sq tq K H m ys->ys[n]?=some y,
   λn H=>∃ xs ys,Sq tp K H l xs/\Sq tq K H m ys/\(xs.length<=n\/ys.length<=n)⟩
theorem uT {P:Program}{w:World}{K:PySem.W.Frag}{elts:List Expr}{kk:Nat}{tpos:Pos}(tp tq:Bool)(z U V i j l m:Addr)(D:ZAp z U V i j)(lz:l≠z/\l≠V/\l≠i/\l≠j)(mz:m≠z/\m≠V/\m≠i/\m≠j) :
  Turn P w K (.Tuple elts kk tpos) (Qf tp tq K l m) [z,U,V,i,j] z (λn h=>IsZip h z U V .none/\IsPair h U (.ref i) (.ref j)/\(∃ a b,IsPair h V a b)/\SqI tp h i l n/\SqI tq h j m n) where
 mem:=by simp
 obj:=λn h st b hb=>by
  obtain⟨h1,h2,⟨a,c,h3⟩,h4,h5⟩:=st;simp only[List.mem_cons,List.not_mem_nil,or_false] at hb;rcases hb with rfl|rfl|rfl|rfl|rfl
  ·exact⟨_,h1,λv q=>by cases q⟩
  ·exact⟨_,h2,λv q=>by cases q⟩
  ·exact⟨_,h3,λv q=>by cases q⟩
  ·exact h4.live
  ·exact h5.live
 keep:=λn h h' st kp=>by
  obtain⟨h1,h2,⟨a,c,h3⟩,h4,h5⟩:=st;exact⟨kp z (by simp) _ h1,kp U (by simp) _ h2,⟨a,c,kp V (by simp) _ h3⟩,h4.at λo e=>kp i (by simp) o e,h5.at λo e=>kp j (by simp) o e⟩
 item:=by
  intro X hP hw hK hc n pins s σ H E I hf st hg;subst hP hw hK;obtain⟨h1,h2,⟨a,c,h3⟩,h4,h5⟩:=st;obtain⟨xs,ys,x,y,q1,q2,e1,e2⟩:=hg;obtain⟨its,r1,p1,_⟩:=q1.is I;obtain⟨jts,r2,p2,_⟩:=q2.is I;obtain⟨u,hu,ru⟩:=r1.get e1;obtain⟨v,hv,rv⟩:=r2.get e2;refine Bk D lz mz h1 h2 h3 h4 h5 p1 p2 (x:=u) (y:=v) (by simpa using hu) (by simpa using hv) λg z1 v1 i1 j1 t1 s1 k1=>⟨_,rfl,?_⟩
  refine wpAny_letOwnedTupleGo_zip z1 λg' z2 e2'=>?_;have kp:∀ b o,b∉[z,V,i,j]->s.heap.get? b=some o->g'.get? b=some o:=λb o hb e=>by
   simp only[List.mem_cons,List.not_mem_nil,or_false,not_or] at hb;exact e2'.extBut _ _ hb.1 (k1 b o hb.1 hb.2.1 hb.2.2.1 hb.2.2.2 e)
  have zT:s.heap.objs.size≠z:=Nat.ne_of_gt (Heap.lt_size h1);have hf':∀ b∈[z,V,i,j],fj X pins H b:=λb hb=>hf b (by
   simp only[List.mem_cons,List.not_mem_nil,or_false] at hb ⊢;rcases hb with e|e|e|e<;>simp [e])
  have t2:IsPair g' s.heap.objs.size u v:=e2'.extBut _ _ zT t1;have I':=rT (t':=s.toks) (o:=.tup [x,y]) I hf' kp (Nat.le_refl _) ⟨by show 2<=sizeLine;decide,[u,v],.cons ru (.cons rv .nil),⟨_,t2,rfl,_,rfl⟩⟩
  have hfr:H s.heap.objs.size=none:=I.hok.fresh (Nat.le_refl _);refine⟨.ref s.heap.objs.size,bz H s.heap.objs.size (.tup [x,y]),I',rfl,⟨_,x,y,hfr,rfl,rfl,λzs hz=>by rw[hz.inj I q1];exact e1,λzs hz=>by rw[hz.inj I q2];exact e2⟩,⟨z2,e2'.extBut _ _ D.uz (k1 _ _ D.uz D.uv D.ui D.uj h2),⟨u,v,e2'.extBut _ _ D.vz v1⟩,i1.at λo e=>e2'.extBut _ _ D.iz e,j1.at λo e=>e2'.extBut _ _ D.jz e⟩,λb hb=>?_⟩
  have hb':=(hf b hb).1;have:b≠s.heap.objs.size:=by
   obtain⟨o,e,_⟩:∃ o,s.heap.get? b=some o/\True:=by
    simp only[List.mem_cons,List.not_mem_nil,or_false] at hb;rcases hb with rfl|rfl|rfl|rfl|rfl
    ·exact⟨_,h1,trivial⟩
    ·exact⟨_,h2,trivial⟩
    ·exact⟨_,h3,trivial⟩
    ·obtain⟨o,e,_⟩:=h4.live;exact⟨o,e,trivial⟩
    ·obtain⟨o,e,_⟩:=h5.live;exact⟨o,e,trivial⟩
   exact Nat.ne_of_lt (Heap.lt_size e)
  rw[am this];exact hb'
 done:=by
  intro X hP hw hK hc n pins s σ H E I hf st hg;subst hP hw hK;obtain⟨h1,h2,⟨a,c,h3⟩,h4,h5⟩:=st;obtain⟨xs,ys,q1,q2,hl⟩:=hg;obtain⟨its,r1,p1,_⟩:=q1.is I;obtain⟨jts,r2,p2,_⟩:=q2.is I;have n1:=r1.length;have n2:=r2.length;refine uS (I.ok.hd hc) D lz mz h1 h2 h3 h4 h5 p1 p2 (hl.imp (λq=>by simp;omega) λq=>by simp;omega) λg k1=>⟨rfl,?_⟩
  refine rV (t':=s.toks) (ch:=[z,V,i,j]) I (λb hb=>hf b ?_) λb o hb e=>?_
  ·simp only[List.mem_cons,List.not_mem_nil,or_false] at hb ⊢
   rcases hb with e|e|e|e<;>simp [e]
  ·simp only[List.mem_cons,List.not_mem_nil,or_false,not_or] at hb
   exact k1 b o hb.1 hb.2.1 hb.2.2.1 hb.2.2.2 e
 self:=λ_ _ _ _ _ st h=>wpAny_pyIter_zip st.1 h
theorem Bl (n:Nat):ZAp (n+4) (n+2) (n+3) n (n+1) :=
  ⟨show (n+2:Nat)≠n+4 by omega,show (n+3:Nat)≠n+4 by omega,show (n:Nat)≠n+4 by omega,show (n+1:Nat)≠n+4 by omega,show (n+2:Nat)≠n+3 by omega,
   show (n+2:Nat)≠n by omega,show (n+2:Nat)≠n+1 by omega,show (n+3:Nat)≠n by omega,show (n+3:Nat)≠n+1 by omega,show (n:Nat)≠n+1 by omega⟩
theorem lc {l n:Nat}(h:l < n):l≠n+4/\l≠n+3/\l≠n/\l≠n+1:=by omega
def Qg (K:PySem.W.Frag)(ta:TA):TI:=λσ H R=>ta σ H λvs H1=>∃ tp tq l m xs ys,vs=[.ref l,.ref m]/\Sq tp K H1 l xs/\Sq tq K H1 m ys/\R (Qf tp tq K l m) H1
theorem EJ {X:Cx}{elts:List Expr}{kk:Nat}{tpos:Pos}{a b:Expr}{ta:TA}{p pos:Pos}(hg:Gl X "zip")(hm:X.mg "zip"=none)(ha:PA X [a,b] ta)(hs:starEach [a,b] X.env=[(false,eval a X.env),(false,eval b X.env)])(hs2:starEach [b] X.env=[(false,eval b X.env)]) :
  PI X (.Tuple elts kk tpos) (.Call (.Name "zip" p) [a,b] [] pos) (Qg X.K ta):=by
 intro pins s σ H R I h;refine PyProof.Rows.Call_ (dR I hg hm PyProof.Rows.boot_zip (PyProof.Rows.callWith_type1 (bT (ha pos pins s σ H _ I h) λus s1 ⟨vs,H1,I1,r1,q1⟩=>?_) (by rw[hs,hs2]) (by rw[hs2];rfl)))
 obtain⟨tp,tq,l,m,xs,ys,e,q1,q2,q⟩:=q1;subst e;obtain⟨u,v,rfl,ru,rv⟩:=rq r1;cases ru;cases rv;obtain⟨its,_,p1,ll⟩:=q1.is I1;obtain⟨jts,_,p2,lm⟩:=q2.is I1;refine uR p1 p2 λg z1 u1 v1 i1 j1 k1=>?_;refine wpAny_pyIter_zip z1 ?_;have N:∀ n:Nat,s1.heap.objs.size<=s1.heap.objs.size+n:=λn=>Nat.le_add_right _ _;refine⟨s1.heap.objs.size+4,[s1.heap.objs.size+4,s1.heap.objs.size+2,s1.heap.objs.size+3,s1.heap.objs.size,s1.heap.objs.size+1],_,_,H1,rfl,I1.kept (t':=s1.toks) k1,
  uT tp tq _ _ _ _ _ l m (Bl _) (lc ll) (lc lm),⟨z1,u1,⟨_,_,v1⟩,i1,j1⟩,λb hb=>?_,q⟩
 have hb':s1.heap.objs.size<=b:=by
  simp only[List.mem_cons,List.not_mem_nil,or_false] at hb;rcases hb with rfl|rfl|rfl|rfl|rfl
  ·exact N 4
  ·exact N 2
  ·exact N 3
  ·exact N 0
  ·exact N 1
 exact I1.fpOk hb' (I1.hok.fresh hb')
end Vc


namespace Vc
open PySem L2
variable [KF]
theorem on {prog:Program}{w:World}{A:Around}(hh:A.handled=none)(tp:Bool)(j a:Addr)(hne:a≠j)(xs:Array Value) :
  Draws prog w A j [j,a] xs.size (λi v=>xs[i]?=some v) (λi h=>SqI tp h j a i/\SqA tp h a xs) where
 live:=λ_ _ st=>let ⟨o,e,_⟩:=st.1.live;⟨o,e⟩
 frame:=λ_ _ _ st kp=>⟨st.1.at λo e=>kp j (by simp) o e,st.2.at λo e=>kp a (by simp) o e⟩
 item:=λi s Q E hi st q=>by
  refine Bj st.1 st.2 (x:=xs[i]) (by simp [hi]) λg w1 e1=>?_
  exact q _ g s.toks (by simp [hi]) ⟨w1,st.2.at λo e=>e1.extBut _ _ hne e⟩ e1
 done:=λs Q E st q=>jQ hh st.1 st.2 (by simp) q
def Pm (tp:Bool)(K:PySem.W.Frag)(a:Addr):It :=
 ⟨λn H=>∃ xs x,Sq tp K H a xs/\xs[n]?=some x,λn H v H'=>∃ p x,H p=none/\v=.ref p/\H'=bz H p (.tup [.int n,x])/\∀ xs,Sq tp K H a xs->xs[n]?=some x,λn H=>∃ xs,Sq tp K H a xs/\xs.length=n⟩
theorem tP {P:Program}{w:World}{K:PySem.W.Frag}{elts:List Expr}{kk:Nat}{tpos:Pos}(tp:Bool)(e j a:Addr)(ej:e≠j)(ae:a≠e)(aj:a≠j) :
  Turn P w K (.Tuple elts kk tpos) (Pm tp K a) [e,j] e (λn h=>(∃ old,IsEnum h e j n old)/\SqI tp h j a n) where
 mem:=by simp
 obj:=λn h st b hb=>by
  obtain⟨⟨old,h1⟩,h2⟩:=st;simp only[List.mem_cons,List.not_mem_nil,or_false] at hb;rcases hb with rfl|rfl
  ·exact⟨_,h1,λv q=>by cases q⟩
  ·exact h2.live
 keep:=λn h h' st kp=>by
  obtain⟨⟨old,h1⟩,h2⟩:=st;exact⟨⟨old,kp e (by simp) _ h1⟩,h2.at λo q=>kp j (by simp) o q⟩
 item:=by
  intro X hP hw hK hc n pins s σ H E I hf st hg;subst hP hw hK;obtain⟨⟨old,h1⟩,h2⟩:=st;obtain⟨xs,x,q1,e1⟩:=hg;obtain⟨its,r1,p1,_⟩:=q1.is I;obtain⟨u,hu,ru⟩:=r1.get e1;have hn:n < its.toArray.size:=by
   have:=(List.getElem?_eq_some_iff.mp hu).1;simpa using this
  have Dr:=on (prog:=X.prog) (w:=X.w) (A:=X.A.in1) (show X.A.in1.handled=none from I.ok.hd hc) tp j a aj its.toArray
  refine wpAny_pyNext_enum_itemD Dr h1 ⟨h2,p1⟩ hn ej (by simp only[List.mem_cons,List.not_mem_nil,or_false,not_or];exact⟨ej,ae.symm⟩) λx' g tk hx' ho st' t1 s1 k1=>⟨_,rfl,?_⟩
  have hxu:x'=u:=by
   have:its.toArray[n]?=some u:=by simpa using hu
   rw[this] at hx';exact (Option.some.inj hx').symm
  subst hxu;refine wpAny_letOwnedTupleGo_enum ho λg' he' es'=>?_;have kp:∀ b o,b∉[e,j]->s.heap.get? b=some o->g'.get? b=some o:=λb o hb q=>by
   simp only[List.mem_cons,List.not_mem_nil,or_false,not_or] at hb;exact es'.extBut _ _ hb.1 (k1 b o hb.1 hb.2 q)
  have eT:s.heap.objs.size≠e:=Nat.ne_of_gt (Heap.lt_size h1);have t2:=es'.extBut _ _ eT t1;have I':=rT (t':=tk+1) (o:=.tup [.int n,x]) I hf kp (Nat.le_refl _) ⟨by show 2<=sizeLine;decide,[.int n tk,x'],.cons ⟨tk,rfl⟩ (.cons ru .nil),⟨_,t2,rfl,_,rfl⟩⟩
  have hfr:H s.heap.objs.size=none:=I.hok.fresh (Nat.le_refl _);refine⟨.ref s.heap.objs.size,bz H s.heap.objs.size (.tup [.int n,x]),I',rfl,⟨_,x,hfr,rfl,rfl,λzs hz=>by rw[hz.inj I q1];exact e1⟩,⟨⟨x',by simpa using he'⟩,st'.1.at λo q=>es'.extBut _ _ ej.symm q⟩,λb hb=>?_⟩
  have hb':=(hf b hb).1;have:b≠s.heap.objs.size:=by
   simp only[List.mem_cons,List.not_mem_nil,or_false] at hb;rcases hb with rfl|rfl
   ·exact eT.symm
   ·obtain⟨o,q,_⟩:=h2.live;exact Nat.ne_of_lt (Heap.lt_size q)
  rw[am this];exact hb'
 done:=by
  intro X hP hw hK hc n pins s σ H E I hf st hg;subst hP hw hK;obtain⟨⟨old,h1⟩,h2⟩:=st;obtain⟨xs,q1,hl⟩:=hg;obtain⟨its,r1,p1,_⟩:=q1.is I;have n1:=r1.length;have Dr:=on (prog:=X.prog) (w:=X.w) (A:=X.A.in1) (show X.A.in1.handled=none from I.ok.hd hc) tp j a aj its.toArray
  have hn:its.toArray.size=n:=by rw[List.size_toArray,<- n1,hl]
  rw[hn] at Dr;refine wpAny_pyNext_enum_endD Dr h1 ⟨h2,p1⟩ λg x1=>⟨rfl,?_⟩;refine rV (t':=s.toks) (ch:=[e,j]) I hf λb o hb q=>?_;simp only[List.mem_cons,List.not_mem_nil,or_false,not_or] at hb;exact x1 b o hb.2 q
 self:=λ_ _ _ _ _ st h=>by
  obtain⟨⟨old,h1⟩,_⟩:=st;exact wpAny_pyIter_enum h1 h
variable {G:GE}{k:Nat}{S:Stat}
def Mc:D->Option (List D)
 | .lst xs=>some xs
 | .tup xs=>some xs
 | _=>none
def oo (xs ys:List D):List D:=(xs.zip ys).map λp=>.tup [p.1,p.2]
def iZ (xs:List D):List D:=xs.mapIdx λi x=>.tup [.int i,x]
def Bm (t:eG):eG:=λσ Q=>t σ λds σ1=>match ds with
 | [a,b]=>match Mc a,Mc b with
  | some xs,some ys=>Q (oo xs ys) σ1
  | _,_=>False
 | _=>False
theorem Rep.sq {F:Hp}{v:V}{d:D}{xs:List D}(r:Rep F v d)(e:Mc d=some xs)(K:PySem.W.Frag):∃ tp a vs,v=.ref a/\(∀ H,Same F H->Sq tp K H a vs)/\RepL F vs xs:=by
 cases d with
 | lst ys =>
  cases e;cases r with
  | lst h r=>exact⟨false,_,_,rfl,λH s=>(show SqL K H _ _ from .inl (Rd.mono s h)),r⟩
 | tup ys =>
  cases e;cases r with
  | tup h r=>exact⟨true,_,_,rfl,λH s=>(show SqT K H _ _ from .of (s _ _ h)),r⟩
 | _=>cases e
theorem uU {xs ys:List D}{i:Nat}{d:D}(h:(oo xs ys)[i]?=some d):∃ x y,xs[i]?=some x/\ys[i]?=some y/\d=.tup [x,y]:=by
 unfold oo at h;rw[List.getElem?_map] at h;cases e:(xs.zip ys)[i]? with
 | none=>rw[e] at h;cases h
 | some p =>
  rw[e] at h;obtain⟨e1,e2⟩:=List.getElem?_zip_eq_some.mp e;exact⟨p.1,p.2,e1,e2,(Option.some.inj h).symm⟩
theorem Bo {K:PySem.W.Frag}{F:Hp}{tp tq:Bool}{l m:Addr}{vs us:List V}{xs ys:List D}(h1:∀ H,Same F H->Sq tp K H l vs)(h2:∀ H,Same F H->Sq tq K H m us)(r1:RepL F vs xs)(r2:RepL F us ys):ItRep F (Qf tp tq K l m) (oo xs ys):=λF1 H1 s1 s2 i=>by
 have a1:=h1 H1 (s1.trans s2);have a2:=h2 H1 (s1.trans s2);refine⟨λd e=>?_,λhl=>⟨vs,us,a1,a2,?_⟩⟩
 ·obtain⟨x,y,e1,e2,rfl⟩:=uU e
  obtain⟨v,w1,q1⟩:=r1.get e1;obtain⟨u,w2,q2⟩:=r2.get e2;refine⟨⟨vs,us,v,u,a1,a2,w1,w2⟩,λz H2 yl=>?_⟩;obtain⟨p,v',u',hp,rfl,rfl,f1,f2⟩:=yl;have e1':=f1 vs a1;have e2':=f2 us a2;rw[w1] at e1';cases e1';rw[w2] at e2';cases e2';have sm:=aG (o:=.tup [v,u]) (bi s2 hp);exact⟨bz F1 p (.tup [v,u]),.inr ⟨p,_,hp,rfl,rfl⟩,.tup aw (.cons ((q1.mono s1).mono sm) (.cons ((q2.mono s1).mono sm) .nil))⟩
 ·have:(oo xs ys).length=min xs.length ys.length:=by unfold oo;simp
  have n1:=r1.length;have n2:=r2.length;omega
theorem CG {elts:List Expr}{kk:Nat}{tpos:Pos}{a b:Expr}{t:eG}{p pos:Pos}(h:EDs G k S [a,b] t)(hm:G.mg "zip"=none)(hg:S.sc.lookup ("zip":Str)=some .globalImplicit:=by rfl)(hs:∀ env,starEach [a,b] env=[(false,eval a env),(false,eval b env)]:=by intro _;rfl)(hs2:∀ env,starEach [b] env=[(false,eval b env)]:=by intro _;rfl) :
  EI G k S (.Tuple elts kk tpos) (.Call (.Name "zip" p) [a,b] [] pos) (Bm t):=.mk λX Y ok=>iu (EJ (dm ok hg) (by rw[ok.mg];exact hm) (h X Y ok) (hs _) (hs2 _)) λσ H Q q=>by
 obtain⟨F,σd,Qd,R,q,K⟩:=q;refine⟨F,σd,_,R,q,λvs H1 F1 ds σ1 s1 R1 r1 q1=>?_⟩
 split at q1
 ·rename_i x y
  split at q1
  ·rename_i xs ys ex ey
   cases r1 with
   | cons rx r1 =>
    cases r1 with
    | cons ry r1 =>
     cases r1;obtain⟨tp,l,us,rfl,a1,b1⟩:=rx.sq ex X.K;obtain⟨tq,m,ws,rfl,a2,b2⟩:=ry.sq ey X.K;exact⟨tp,tq,l,m,us,ws,rfl,a1 H1 R1.fr,a2 H1 R1.fr,K H1 F1 σ1 _ _ s1 R1 (Bo a1 a2 b1 b2) q1⟩
  ·exact q1.elim
 ·exact q1.elim
theorem Bp {K:PySem.W.Frag}{F:Hp}{tp:Bool}{l:Addr}{vs:List V}{xs:List D}(h1:∀ H,Same F H->Sq tp K H l vs)(r1:RepL F vs xs):ItRep F (Pm tp K l) (iZ xs):=λF1 H1 s1 s2 i=>by
 have a1:=h1 H1 (s1.trans s2);refine⟨λd e=>?_,λhl=>⟨vs,a1,?_⟩⟩
 ·unfold iZ at e
  rw[List.getElem?_mapIdx] at e;cases ex:xs[i]? with
  | none=>rw[ex] at e;cases e
  | some x =>
   rw[ex] at e;cases e;obtain⟨v,w1,q1⟩:=r1.get ex;refine⟨⟨vs,v,a1,w1⟩,λz H2 yl=>?_⟩;obtain⟨p,v',hp,rfl,rfl,f1⟩:=yl;have e1':=f1 vs a1;rw[w1] at e1';cases e1';have sm:=aG (o:=.tup [.int i,v]) (bi s2 hp);exact⟨bz F1 p (.tup [.int i,v]),.inr ⟨p,_,hp,rfl,rfl⟩,.tup aw (.cons (.int _) (.cons ((q1.mono s1).mono sm) .nil))⟩
 ·rw[r1.length,hl];unfold iZ;simp
end Vc


namespace Vc
open PySem L2
variable [KF]
section
variable {prog:Program}{w:World}{A:Around}{R:Result->Shared->Prop}
def cn (bt:Nat->Nat->Bool):Nat->Nat
 | 0=>0
 | n+1=>if bt (n+1) (cn bt n)=true then n+1 else cn bt n
def uV (prog:Program)(w:World)(A:Around)(op:CmpOp)(h0:Heap)(its:Array Value)(bt:Nat->Nat->Bool):Prop :=
 ∀ (i j:Nat) (x y:Value) (s:Shared) (Q:Value->Shared->Prop) (E:Value->Shared->Prop),its[i]?=some x->its[j]?=some y->(∀ b o,h0.get? b=some o->s.heap.get? b=some o)->Q (.bool (bt i j)) s->wpAny (model prog w) A (richCompare op x y) Q E s
theorem EK {h0:Heap}{its:Array Value}{bt:Nat->Nat->Bool}(hh:A.handled=none)(hc:uV prog w A.in1 .Lt h0 its bt){I l S:Addr}(hl0:h0.IsList l its)(IS:I≠S)(n0:h0.get? I=none)(n1:h0.get? S=none)(kw:List (Str×Value)) :
  ∀ (d j:Nat) (s:Shared) (v:Value) (c:Nat),its.size - (j+1)=d->j+1<=its.size->s.heap.IsListIter I l (j+1)->its[cn bt j]?=some v->s.heap.get? S=some { cls:=.type "list",dict:=none,data:=.seq #[v,v] c,slots:=#[] } ->
  (∀ b o,h0.get? b=some o->s.heap.get? b=some o) ->
  (∀ v g tk,its[cn bt (its.size - 1)]?=some v->(∀ b o,h0.get? b=some o->g.get? b=some o)->R (.ok (.ret v)) { s with heap:=g,toks:=tk }) ->
  codeAny (model prog w) A (.builtin "min.loop" ⟨[.ref I,.none,.ref S],kw⟩) R s:=by
 have nm:(toString "min"++toString ".loop":String)="min.loop":=by decide
 have lI:l≠I:=λz=>by obtain⟨o,e,_⟩:=hl0;rw[z,n0] at e;cases e
 have lS:l≠S:=λz=>by obtain⟨o,e,_⟩:=hl0;rw[z,n1] at e;cases e
 have nI:∀ {b o},h0.get? b=some o->b≠I:=λe z=>by rw[z,n0] at e;cases e
 have nS:∀ {b o},h0.get? b=some o->b≠S:=λe z=>by rw[z,n1] at e;cases e
 intro d
 induction d with
 | zero =>
  intro j s v c hd hj hI hv hS k0 hR;have e1:j+1=its.size:=by omega
  have hl:s.heap.IsList l its:=by obtain⟨o,e,r⟩:=hl0;exact⟨o,k0 _ _ e,r⟩
  refine codeAny_builtin F.entry_min_loop ?_;rw[Around.under_plainId F.plain_min_loop _];show wpAny _ A.in1 (seqItems? (.ref S) >>= _) _ _ s;refine wpAny_bind (wpAny_seqItems hS rfl ?_);show wpAny _ A.in1 (tryCatch (pyNext (.ref I)) _ >>= _) _ _ s;refine wpAny_bind (wpAny_tryCatch (wpAny_pyNext_list_end (show A.in1.handled=none from hh) hI hl (by simp;omega) λg x1=>?_))
  have S1:=x1 S _ IS.symm hS;show wpAny _ A.in1 (updateSeq S (λ_=>#[]) >>= _) _ _ _;refine wpAny_bind (wpAny_updateSeq (s:={ s with heap:=g }) S1 rfl (wpAny_bind (wpAny_letGo (wpAny_pure ?_))))
  have e2:its.size - 1=j:=by omega
  refine hR v _ s.toks (by rw[e2];exact hv) λb o e=>?_
  exact (Heap.get?_update_other _ _ (Ne.symm (nS e))).trans (x1 b o (nI e) (k0 b o e))
 | succ d ih =>
  intro j s v c hd hj hI hv hS k0 hR;have hlt:j+1 < its.size:=by omega
  have hl:s.heap.IsList l its:=by obtain⟨o,e,r⟩:=hl0;exact⟨o,k0 _ _ e,r⟩
  refine codeAny_builtin F.entry_min_loop ?_;rw[Around.under_plainId F.plain_min_loop _];show wpAny _ A.in1 (seqItems? (.ref S) >>= _) _ _ s;refine wpAny_bind (wpAny_seqItems hS rfl ?_);show wpAny _ A.in1 (tryCatch (pyNext (.ref I)) _ >>= _) _ _ s;have hx:its[j+1]?=some its[j+1]:=by simp [hlt]
  refine wpAny_bind (wpAny_tryCatch (wpAny_pyNext_list_item hI hl hx λg I1 x1=>?_));have S1:=x1.extBut S _ IS.symm hS;have k1:∀ b o,h0.get? b=some o->g.get? b=some o:=λb o e=>x1.extBut b o (nI e) (k0 b o e);show wpAny _ A.in1 (tryCatch (holding [its[j+1],its[j+1]] (richCompare .Lt its[j+1] v >>= _)) _ >>= _) _ _ _;refine wpAny_bind (wpAny_tryCatch (wpAny_holding (wpAny_bind (hc (j+1) (cn bt j) _ v { s with heap:=g } _ _ hx hv k1 ?_))))
  refine wpAny_bind (wpAny_holding (wpAny_truthy_bool (wpAny_bind (wpAny_letGo (wpAny_pure ?_)))));cases hb:bt (j+1) (cn bt j) with
  | true =>
   simp only[if_true];refine wpAny_bind (wpAny_updateSeq (s:={ s with heap:=g }) S1 rfl (wpAny_bind (wpAny_letGo ?_)))
   rw[nm];refine wpAny_pure ⟨plainId_quiet F.plain_min_loop _,ih (j+1) _ its[j+1] _ (by omega) hlt ?_ (by simp only[cn,hb,if_true];exact hx) (Heap.get?_update_self _ S1 rfl) (λb o e=>(Heap.get?_update_other _ _ (Ne.symm (nS e))).trans (k1 b o e)) λv' g' tk hv' k'=>?_⟩
   ·obtain⟨o,e,r⟩:=I1;exact⟨o,(Heap.get?_update_other _ _ (Ne.symm IS)).trans e,r⟩
   ·exact hR v' g' tk hv' k'
  | false =>
   simp only[Bool.false_eq_true,if_false];refine wpAny_bind (wpAny_letGo ?_);rw[nm];refine wpAny_pure ⟨plainId_quiet F.plain_min_loop _,ih (j+1) _ v c (by omega) hlt I1 (by simp only[cn,hb,Bool.false_eq_true,if_false];exact hv) S1 k1 λv' g' tk hv' k'=>?_⟩
   exact hR v' g' tk hv' k'
theorem qA (a v:Value):argsOk "min" ⟨[a],[(Str.ofString "default",v)]⟩:=by unfold argsOk;kernel_rfl
theorem oq {E:Value->Shared->Prop}{s:Shared}{its:Array Value}{bt:Nat->Nat->Bool}(hh:A.handled=none)(hc:uV prog w A.in1 .Lt s.heap its bt){l:Addr}(hl:s.heap.IsList l its){dv:Value}{Q:Value->Shared->Prop}
  (q0:its.size=0->∀ g tk,(∀ b o,s.heap.get? b=some o->g.get? b=some o)->Q dv { s with heap:=g,toks:=tk })
  (q1:∀ v g tk,its[cn bt (its.size - 1)]?=some v->(∀ b o,s.heap.get? b=some o->g.get? b=some o)->Q v { s with heap:=g,toks:=tk }) :
  wpAny (model prog w) A (call (.builtin "min") [.ref l] [(Str.ofString "default",dv)]) Q E s:=by
 have nm:(toString "min"++toString ".loop":String)="min.loop":=by decide
 refine wpAny_call (codeAny_call_builtin F.plain_min F.entry_min ?_);have run:wpAny (model prog w) A.in1 (Builtin.«min» ⟨[.ref l],[(Str.ofString "default",dv)]⟩) (λfin s'=>match fin with
   | .done f=>(match (Except.ok f:Result) with|.ok (.ret v)=>Q v s'|.ok _=>False|.error e=>E e s')
   | .again c'=>c'.quiet=true/\codeAny (model prog w) A c' (λr s'=>match r with|.ok (.ret v)=>Q v s'|.ok _=>False|.error e=>E e s') s') E s:=by
  show wpAny _ A.in1 (Builtin.Builtins.bindParams "min" ["key","default"] 0 ⟨[],[(Str.ofString "default",dv)]⟩ >>= _) _ _ s;refine wpAny_bind (wpAny_of_eq (show Builtin.Builtins.bindParams "min" ["key","default"] 0 ⟨[],[(Str.ofString "default",dv)]⟩=pure [none,some dv] from rfl) (wpAny_bind (wpAny_pure ?_)))
  refine wpAny_bind (wpAny_pyIter_list hl (wpAny_bind (wpAny_newObj_type ?_)));generalize hg1:s.heap.push { cls:=.type "list_iterator",data:=.fields #[.ref l,.int 0 0] }=g1;have n1:g1.objs.size=s.heap.objs.size+1:=by rw[<- hg1];exact Heap.size_push ..
  have I0:(g1.push { cls:=.type "list",dict:=none,data:=.seq ([]:List Value).toArray }).IsListIter s.heap.objs.size l 0:=⟨_,Heap.get?_push_of_some _ (by rw[<- hg1];exact Heap.get?_push_size _ rfl),rfl,rfl⟩
  have S0:=Heap.get?_push_size g1 (o:={ cls:=.type "list",dict:=none,data:=.seq ([]:List Value).toArray }) rfl;have k0:∀ b o,s.heap.get? b=some o->(g1.push { cls:=.type "list",dict:=none,data:=.seq ([]:List Value).toArray }).get? b=some o:=λb o e=>Heap.get?_push_of_some _ (by rw[<- hg1];exact Heap.get?_push_of_some _ e)
  have fr:∀ a,s.heap.objs.size<=a->s.heap.get? a=none:=λa ha=>by
   cases e:s.heap.get? a with
   | none=>rfl
   | some o=>exact absurd (Heap.lt_size e) (Nat.not_lt.mpr ha)
  have nI:s.heap.get? s.heap.objs.size=none:=fr _ (Nat.le_refl _);have nS:s.heap.get? g1.objs.size=none:=fr _ (by rw[n1];exact Nat.le_succ _)
  have IS:s.heap.objs.size≠g1.objs.size:=by rw[n1];exact Nat.ne_of_lt (Nat.lt_succ_self _)
  rw[nm];refine wpAny_pure ⟨plainId_quiet F.plain_min_loop _,?_⟩;generalize hg2:g1.push { cls:=.type "list",dict:=none,data:=.seq ([]:List Value).toArray }=g2 at I0 S0 k0;have hl2:g2.IsList l its:=by obtain⟨o,e,r⟩:=hl;exact⟨o,k0 _ _ e,r⟩
  refine codeAny_builtin F.entry_min_loop ?_;rw[Around.under_plainId F.plain_min_loop _];show wpAny _ A.in1 (seqItems? (.ref g1.objs.size) >>= _) _ _ _;refine wpAny_bind (wpAny_seqItems (s:={ s with heap:=g2 }) S0 rfl ?_)
  show wpAny _ A.in1 (tryCatch (pyNext (.ref s.heap.objs.size)) _ >>= _) _ _ _
  by_cases hz:its.size=0
  ·refine wpAny_bind (wpAny_tryCatch (wpAny_pyNext_list_end (show A.in1.handled=none from hh) I0 hl2 (by simp [hz]) λg x1=>?_))
   refine wpAny_bind (wpAny_rule (wpAny_pure ?_));exact q0 hz g s.toks λb o e=>x1 b o (λz=>by rw[z,nI] at e;cases e) (k0 b o e)
  ·have hx:its[0]?=some its[0]:=by simp [Nat.pos_of_ne_zero hz]
   refine wpAny_bind (wpAny_tryCatch (wpAny_pyNext_list_item I0 hl2 hx λg I1 x1=>?_));have S1:=x1.extBut _ _ IS.symm S0;have k1:∀ b o,s.heap.get? b=some o->g.get? b=some o:=λb o e=>x1.extBut b o (λz=>by rw[z,nI] at e;cases e) (k0 b o e)
   show wpAny _ A.in1 (updateSeq g1.objs.size (λ_=>#[its[0],its[0]]) >>= _) _ _ _;refine wpAny_bind (wpAny_updateSeq (s:={ s with heap:=g }) S1 rfl ?_)
   rw[nm];refine wpAny_pure ⟨plainId_quiet F.plain_min_loop _,EK hh hc hl IS nI nS _ _ 0 _ its[0] _ rfl (Nat.pos_of_ne_zero hz) ?_ hx (Heap.get?_update_self _ S1 rfl) (λb o e=>(Heap.get?_update_other _ _ (λz=>by rw[<- z,nS] at e;cases e)).trans (k1 b o e)) λv g' tk hv k'=>q1 v g' tk hv k'⟩
   obtain⟨o,e,r⟩:=I1;exact⟨o,(Heap.get?_update_other _ _ (Ne.symm IS)).trans e,r⟩
 simp only[checkBuiltinCall,F.kind_min];cases hsig:Manifest.signature? "min" with
 | none=>exact wpAny_pure run
 | some sig =>
  have ha:argsOk "min" ⟨[.ref l],[(Str.ofString "default",dv)]⟩:=qA _ _;have ha':Bind.checkArgs "min" sig ⟨[.ref l],[(Str.ofString "default",dv)]⟩=pure ():=by simpa only[argsOk,hsig] using ha
  simp only[ha'];exact wpAny_pure run
end
end Vc


namespace Vc
open PySem L2
variable [KF]
variable {G:GE}{k:Nat}{S:Stat}
def isInt:D->Bool
 | .int _=>true
 | _=>false
def gd:D->Int
 | .int i=>i
 | _=>0
theorem RepL.ints {F:Hp}:∀ {vs:List V} {xs:List D},RepL F vs xs->xs.all isInt=true->vs=(xs.map gd).map V.int
 | _,_,.nil,_=>rfl
 | _,_,.cons (d:=d) r t,h=>by
  rw[List.all_cons,Bool.and_eq_true] at h;cases d with
  | int i =>
   cases r;rw[RepL.ints t h.2];rfl
  | _=>exact absurd h.1 (by simp [isInt])
theorem uW {X:Cx}(hc:X.calm=true):CallR X (.builtin "sum") (λxs H Q=>∃ (a:Addr) (ns:List Int),xs=[.ref a]/\SqL X.K H a (ns.map V.int)/\Q (.int ns.sum) H):=by
 intro pins s σ H xs us Q I r h;obtain⟨a,ns,rfl,hq,q⟩:=h;obtain⟨u,rfl,ru⟩:=cY r;cases ru;obtain⟨its,rv,p,_⟩:=I.list hq;obtain⟨m,F⟩:=I.fr;have hi:=L2.intsAre_of rv;obtain⟨ys,e⟩:=(hi.allInts).items;have pl:=p.isList;rw[e] at pl;refine sum_intListG (I.ok.hd hc) pl λg tk t' kp=>⟨.int ns.sum,H,I.kept kp,⟨t',?_⟩,q⟩;have e1:preSum (numAt ys) ys.size=(PySem.numsOf its.toArray.toList).sum:=by
  rw[e,nums_intItems,preSum_eq,List.take_of_length_le (by simp)]
 rw[e1,show its.toArray.toList=its from rfl,hi.numsOf]
def qB:List D->(EV->Prop)->Prop
 | [.lst xs],Q=>xs.all isInt=true/\Q (.val (.int (xs.map gd).sum))
 | _,_=>False
theorem rW (hh:S.hot=false:=by rfl):tG G k S (.builtin "sum") qB:=⟨λK xs H Q=>∃ (a:Addr) (ns:List Int),xs=[V.ref a]/\SqL K H a (ns.map V.int)/\Q (.int ns.sum) H,λ_ _ ok=>uW (ok.calm hh),λY F H σd σ vs ds Qd Q R r q g=>by
 unfold qB at q
 split at q
 ·obtain⟨v,rfl,rv⟩:=r.one
  obtain⟨p,us,rfl,h1,h2⟩:=rv.lst;refine⟨p,_,rfl,?_,g.val R (.int _) q.2⟩;rw[<- h2.ints q.1];exact .inl h1
 ·exact q.elim⟩

def Md:D->Option String
 | .non=>some "NoneType"
 | .bl _=>some "bool"
 | .int _=>some "int"
 | .str _=>some "str"
 | .lst _=>some "list"
 | .tup _=>some "tuple"
 | _=>none
def iA (T U:String):Bool:=T==U||(T=="bool"&&U=="int")
def KitFact (U:String):Prop:=∀ K:PySem.W.Frag,PySem.W.kitOne K (.type "NoneType") (.type U)=some (iA "NoneType" U)/\PySem.W.kitOne K (.type "bool") (.type U)=some (iA "bool" U)/\PySem.W.kitOne K (.type "int") (.type U)=some (iA "int" U) /\
 PySem.W.kitOne K (.type "str") (.type U)=some (iA "str" U)/\PySem.W.kitOne K (.type "list") (.type U)=some (iA "list" U)/\PySem.W.kitOne K (.type "tuple") (.type U)=some (iA "tuple" U)
theorem Bq:KitFact "int":=λK=>⟨by rfl,by rfl,by rfl,by rfl,by rfl,by rfl⟩
theorem ou:KitFact "bool":=λK=>⟨by rfl,by rfl,by rfl,by rfl,by rfl,by rfl⟩
theorem oz:KitFact "list":=λK=>⟨by rfl,by rfl,by rfl,by rfl,by rfl,by rfl⟩
theorem iB:KitFact "tuple":=λK=>⟨by rfl,by rfl,by rfl,by rfl,by rfl,by rfl⟩
theorem KitFact.of {U:String}(h:KitFact U)(K:PySem.W.Frag){d:D}{T:String}(e:Md d=some T):PySem.W.kitOne K (.type T) (.type U)=some (iA T U):=by
 obtain⟨h1,h2,h3,h4,h5,h6⟩:=h K;cases d<;>cases e<;>assumption
theorem RepH.ty {F H:Hp}{v:V}{d:D}{T:String}(r:RepH F H v d)(s:Same F H)(K:PySem.W.Frag)(e:Md d=some T):TyOf K H v (.type T):=by
 cases d with
 | non=>cases e;obtain rfl:=r.non;exact .non
 | bl b=>cases e;obtain rfl:=r.bl;exact .bl b
 | int i=>cases e;obtain rfl:=r.int;exact .int i
 | str x=>cases e;obtain rfl:=r.str;exact .str x
 | lst xs =>
  cases e;obtain⟨a,vs,rfl,h,_⟩:=r.lst;rcases h with h|⟨o,h⟩
  ·exact .lst h
  ·exact .frz h
 | tup xs=>cases e;obtain⟨a,vs,rfl,h,_⟩:=r.tup s;exact .tup h
 | dct _=>cases e
 | exc _=>cases e
 | scr _=>cases e
def EL (Us:List String)(d:D)(Q:Bool->Prop):Prop:=match Md d with
 | some T=>Q (Us.any (iA T))
 | none=>False
def kF (Us:List String)(t:TV):TB:=λσ Q=>t σ λx σ1=>match drf σ1 x with
 | some d=>EL Us d λb=>Q b σ1
 | none=>False
theorem eQ {e:Expr}{t:TV}{u:Str}{U:String}{p p2 pos:Pos}(h:EO G k S e t)(kf:KitFact U)(hm:G.mg "isinstance"=none)(hm2:G.mg u=none)(hv2:bootBuiltins u=some (.type U))(hn2:u≠"__name__":=by decide)(hd2:(u==("__debug__":Str))=false:=by decide)
  (hg:S.sc.lookup ("isinstance":Str)=some .globalImplicit:=by rfl) (hg2:S.sc.lookup u=some .globalImplicit:=by rfl)
  (he:∀ env,starEach [e,.Name u p2] env=(false,eval e env)::starEach [.Name u p2] env:=by intro _;rfl):EO G k S (.Call (.Name "isinstance" p) [e,.Name u p2] [] pos) (bV (kF [U] t)):=.mk λX Y ok=>by
 have ha:PA X [e,.Name u p2] (iT (lO Y t) (iT (tC (.ty U)) qk)):=pa_cons (h X Y ok) (pa_cons (As (dm ok hg2) (by rw[ok.mg];exact hm2) hv2 (show RelV (.ty U) (.type U) from rfl) hn2 hd2) pa_nil rfl) (he _)
 have hc:CallR X (.builtin "isinstance") (λvs H Q=>∃ F x d T,vs=[x,.ty U]/\Same F H/\RepH F H x d/\Md d=some T/\Q (.bl (iA T U)) H):=by
  intro pins s σ H xs us Q I r q;obtain⟨F,x,d,T,rfl,sm,rx,et,q⟩:=q;obtain⟨a,b,rfl,ra,rb⟩:=rq r;cases rb;exact tf I ra (rx.ty sm X.K et) (kf.of X.K et) λtk=>⟨.bl _,H,I.tok tk,rfl,q⟩
 refine aP (jy hc (dm ok hg) (by rw[ok.mg];exact hm) (by decide +kernel) ha (by decide) (by decide) (he _) rfl) λσ H Q q=>?_
 obtain⟨F,σd,Qd,R,q,K⟩:=q;refine⟨F,σd,_,R,q,λv1 H1 F1 x σ1 s1 R1 r1 q1=>?_⟩
 split at q1
 ·rename_i d ed
  unfold EL at q1
  split at q1
  ·rename_i T eT
   refine⟨F1,v1,d,T,rfl,R1.fr,R1.drf r1 ed,eT,?_⟩;have e1:([U].any (iA T))=iA T U:=by simp
   rw[e1] at q1;exact K _ H1 F1 (.val (.bl (iA T U))) σ1 s1 R1 (.bl _) q1
  ·exact q1.elim
 ·exact q1.elim
end Vc


namespace Vc
open PySem L2
variable [KF]
variable {G:GE}{k:Nat}{S:Stat}
def iC:D->Bool
 | .tup xs=>xs.all isInt
 | _=>false
def CH:D->D->Bool
 | .int i,.int j=>decide (i < j)
 | .tup xs,.tup ys=>HT.lexLt (xs.map gd) (ys.map gd)
 | _,_=>false
def jR:List D->Option D
 | []=>none
 | x::xs=>some (xs.foldl (λb y=>if CH y b=true then y else b) x)
def qf (xs:List D)(i j:Nat):Bool:=CH (xs.getD i .non) (xs.getD j .non)
theorem jS (xs:List D)(x:D):∀ n,n < (x::xs).length->(x::xs).getD (cn (qf (x::xs)) n) .non=(xs.take n).foldl (λb y=>if CH y b=true then y else b) x
 | 0,_=>rfl
 | n+1,h=>by
  have ih:=jS xs x n (by simp at h ⊢;omega)
  have hl:n < xs.length:=by simpa using h
  have gx:(x::xs).getD (n+1) .non=xs[n]:=by
   rw[List.getD_eq_getElem?_getD,List.getElem?_cons_succ,List.getElem?_eq_getElem hl];rfl
  rw[List.take_add_one,List.getElem?_eq_getElem hl,Option.toList_some,List.foldl_append,List.foldl_cons,List.foldl_nil,<- ih];have e:qf (x::xs) (n+1) (cn (qf (x::xs)) n)=CH xs[n] ((x::xs).getD (cn (qf (x::xs)) n) .non):=by
   unfold qf;rw[gx]
  show (x::xs).getD (if qf (x::xs) (n+1) (cn (qf (x::xs)) n)=true then n+1 else cn (qf (x::xs)) n) .non=_
  rw[e]
  split
  ·exact gx
  ·rfl
theorem Br {xs:List D}(h:xs≠[]):jR xs=some (xs.getD (cn (qf xs) (xs.length - 1)) .non):=by
 cases xs with
 | nil=>exact absurd rfl h
 | cons x xs =>
  have:=jS xs x xs.length (by simp)
  have e:(x::xs).length - 1=xs.length:=by simp
  rw[e,this,List.take_length];rfl
theorem EM {X:Cx}{pins:List (Addr×Obj)}{σ:St}{H F:Hp}{s:Shared}(I:L2.Inv X pins σ H s)(sm:Same F H)(hu:X.A.in1.units < cLine){vs:List V}{xs:List D}{its:List Value}(rl:RepL F vs xs)(rv:Vals vs its)(hc:xs.all isInt=true\/xs.all iC=true) :
  uV X.prog X.w X.A.in1 .Lt s.heap its.toArray (qf xs):=by
 intro i j x y s' Q E ex ey kp q;have ex':its[i]?=some x:=by simpa using ex
 have ey':its[j]?=some y:=by simpa using ey
 have back:∀ {n z},its[n]?=some z->∃ v d,vs[n]?=some v/\xs[n]?=some d/\RelV v z/\Rep F v d:=λ{n z} e=>by
  have hl:n < vs.length:=by rw[rv.length];exact (List.getElem?_eq_some_iff.mp e).1
  have ev:vs[n]?=some vs[n]:=List.getElem?_eq_getElem hl;obtain⟨d,e1,e2⟩:=rl.get' ev;obtain⟨u,e3,e4⟩:=rv.get ev;rw[e] at e3;cases e3;exact⟨_,d,ev,e1,e4,e2⟩
 obtain⟨v,d,_,hd,r1,p1⟩:=back ex';obtain⟨u,e,_,he,r2,p2⟩:=back ey';have bt:qf xs i j=CH d e:=by
  unfold qf;rw[List.getD_eq_getElem?_getD,List.getD_eq_getElem?_getD,hd,he];rfl
 rw[bt] at q;have md:d∈xs:=List.mem_of_getElem? hd;have me:e∈xs:=List.mem_of_getElem? he;show wpAny _ _ (compareOp .Lt x y) _ _ _;rcases hc with hc|hc
 ·have h1:=List.all_eq_true.mp hc d md
  have h2:=List.all_eq_true.mp hc e me;cases d with
  | int a =>
   cases e with
   | int b =>
    cases p1;cases p2;obtain⟨t,rfl⟩:=r1;obtain⟨t',rfl⟩:=r2;exact PyProof.Rows.lt_int q
   | _=>exact absurd h2 (by simp [isInt])
  | _=>exact absurd h1 (by simp [isInt])
 ·have h1:=List.all_eq_true.mp hc d md
  have h2:=List.all_eq_true.mp hc e me;cases d with
  | tup as =>
   cases e with
   | tup bs =>
    cases p1 with
    | tup hf rf =>
     cases p2 with
     | tup hg rg =>
      cases r1;cases r2;rename_i va vas vb vbs;obtain⟨_,ia,wa,oa,ga,ca⟩:=I.hok _ _ (sm _ _ hf);obtain⟨_,ib,wb,ob,gb,cb⟩:=I.hok _ _ (sm _ _ hg);rw[rf.ints h1] at wa;rw[rg.ints h2] at wb;exact HT.lt_tupInts ⟨oa,kp _ _ ga,ca⟩ ⟨ob,kp _ _ gb,cb⟩ (L2.intsAre_of wa) (L2.intsAre_of wb) hu q
   | _=>exact absurd h2 (by simp [iC])
  | _=>exact absurd h1 (by simp [iC])
def EN (t:TV)(td:TD):TV:=λσ Q=>t σ λx σ1=>td σ1 λdv σ2=>match drf σ2 x with
 | some (.lst xs)=>(xs.all isInt=true\/xs.all iC=true)/\Q (.val ((jR xs).getD dv)) σ2
 | _=>False
theorem Me {e d:Expr}{t:TV}{td:TD}{p kp pos:Pos}(h:EO G k S e t)(hd:ED G k S d td)(hm:G.mg "min"=none)(hg:S.sc.lookup ("min":Str)=some .globalImplicit:=by rfl)
  (he:∀ env,starEach [e] env=[(false,eval e env)]:=by intro _;rfl) (hh:S.hot=false:=by rfl):EO G k S (.Call (.Name "min" p) [e] [⟨some "default",d,kp⟩] pos) (EN t td):=.mk λX Y ok=>by
 intro pins s σ H Q I q;obtain⟨F,σd,Qd,R,q,K⟩:=q;refine wpAny_Call_Name_kw (dR (u:=.builtin "min") I (dm ok hg) (by rw[ok.mg];exact hm) (by decide +kernel) ?_ (by decide) (by decide))
 have ha:PA X [e] (iT (lO Y t) qk):=pa_cons (h X Y ok) pa_nil (by rw[he];rfl)
 have hk:PK X [⟨some "default",d,kp⟩] (iT (lD Y td) qk):=AE (hd X Y ok) Ee;have hA:=ha pos pins s σ H (λvs H1=>∃ v1 F1 x σ1,vs=[v1]/\Same F F1/\RS Y F1 σ1 σ H1/\RepO F1 σ v1 x/\td σ1 (λdv σ2=>match drf σ2 x with
   | some (.lst xs)=>(xs.all isInt=true\/xs.all iC=true)/\Qd (.val ((jR xs).getD dv)) σ2
   | _=>False)) I ⟨F,σd,_,R,q,λv1 H1 F1 x σ1 s1 R1 r1 q1=>⟨v1,F1,x,σ1,rfl,s1,R1,r1,q1⟩⟩
 refine PyProof.Rows.callWith_kw (env:=X.env) (bT hA λus s1 h1=>?_) (by rw[he];rfl) (by rw[he];rfl) rfl rfl
 obtain⟨vs,H1,I1,rvs,v1,F1,x,σ1,rfl,sm1,R1,r1,q1⟩:=h1;obtain⟨u1,rfl,ru1⟩:=cY rvs;refine bT (hk pos pins s1 σ H1 (λvs H2=>∃ v2 F2 dv σ2,vs=[v2]/\Same F1 F2/\RS Y F2 σ2 σ H2/\Rep F2 v2 dv/\(match drf σ2 x with
   | some (.lst xs)=>(xs.all isInt=true\/xs.all iC=true)/\Qd (.val ((jR xs).getD dv)) σ2
   | _=>False)) I1 ⟨F1,σ1,_,R1,q1,λv2 H2 F2 dv σ2 s2 R2 r2 q2=>⟨v2,F2,dv,σ2,rfl,s2,R2,r2,q2⟩⟩) λws s2 h2=>?_
 obtain⟨vs2,H2,I2,rvs2,v2,F2,dv,σ2,rfl,sm2,R2,r2,q2⟩:=h2;obtain⟨u2,rfl,ru2⟩:=cY rvs2
 split at q2
 ·rename_i xs ex
  obtain⟨hc,q2⟩:=q2;obtain⟨a,vs,rfl,hrd,rl⟩:=(R2.drf (r1.mono sm2) ex).lst;cases ru1;obtain⟨its,rv,pl,_⟩:=I2.list (show SqL X.K H2 a vs from .inl hrd)
  have hu:X.A.in1.units < cLine:=by
   have:=ok.units;show X.A.units+1 < cLine;omega
  have hc':=EM I2 R2.fr hu rl rv hc;have len:its.toArray.size=xs.length:=by rw[List.size_toArray,<- rv.length,rl.length]
  refine oq (I2.ok.hd (ok.calm hh)) hc' pl.isList (λhz g tk kp=>?_) λz g tk hz kp=>?_
  ·have:xs=[]:=List.length_eq_zero_iff.mp (by rw[<- len];exact hz)
   subst this;exact⟨v2,H2,I2.kept kp,ru2,K v2 H2 F2 (.val dv) σ2 (sm1.trans sm2) R2 r2 q2⟩
  ·have hz':its[cn (qf xs) (xs.length - 1)]?=some z:=by rw[len] at hz;simpa using hz
   have hne:xs≠[]:=λe=>by
    subst e;have:its=[]:=List.length_eq_zero_iff.mp (by rw[<- rv.length,rl.length];rfl)
    rw[this] at hz';simp at hz'
   have hl:cn (qf xs) (xs.length - 1) < vs.length:=by rw[rv.length];exact (List.getElem?_eq_some_iff.mp hz').1
   have ev:vs[cn (qf xs) (xs.length - 1)]?=some vs[cn (qf xs) (xs.length - 1)]:=List.getElem?_eq_getElem hl;obtain⟨dd,e1,e2⟩:=rl.get' ev;obtain⟨zz,e3,e4⟩:=rv.get ev;rw[hz'] at e3;cases e3;have eb:jR xs=some dd:=by rw[Br hne,List.getD_eq_getElem?_getD,e1];rfl
   rw[eb] at q2;exact⟨_,H2,I2.kept kp,e4,K _ H2 F2 (.val dd) σ2 (sm1.trans sm2) R2 e2 q2⟩
 ·exact q2.elim
end Vc


namespace Vc
open PySem L2
variable [KF]
variable {G:GE}{k:Nat}{S:Stat}
theorem uX {g:iX}{tb:cj}{De:EndsD}{items:List D}(I:Nat->Sd->Prop)
  (hstep:∀ i x σ (N:Sd->Prop),items[i]?=some x->I i σ->(∀ σ',I (i+1) σ'->N σ')->g x σ λσ1=>tb { nx:=N,rt:=De.rt,bk:=De.nx,ct:=N } σ1)
  (hend:∀ σ,I items.length σ->De.nx σ) {σ:Sd} (h0:I 0 σ):mf g tb De items σ:=by
 have key:∀ (xs:List D) (i:Nat) (σ:Sd),items.drop i=xs->i<=items.length->I i σ->mf g tb De xs σ:=by
  intro xs
  induction xs with
  | nil =>
   intro i σ e l h;have:items.length<=i:=List.drop_eq_nil_iff.mp e;exact hend σ ((Nat.le_antisymm l this) ▸ h)
  | cons x r ih =>
   intro i σ e l h;have hx:items[i]?=some x:=by
    have:=congrArg (·[0]?) e
    simpa using this
   have hr:items.drop (i+1)=r:=by rw[<- List.drop_drop,e];rfl
   have hl:i < items.length:=(List.getElem?_eq_some_iff.mp hx).1;exact hstep i x σ _ hx h λσ' h'=>ih (i+1) σ' hr hl h'
 exact key items 0 σ rfl (Nat.zero_le _) h0
theorem oA {α:Type}{g:iX}{tc:TB}{te:TD}{σ0:Sd}{Q:List D->Prop}(gi:α->D)(f:α->Option D)(l:List α)
  (h:∀ a∈l,∀ (A:D->Prop) (Bn:Prop),(match f a with|some d=>A d|none=>Bn)->g (gi a) σ0 λσ1=>tc σ1 λb σ2=>if b=true then te σ2 λd σ3=>iY σ0 σ3/\A d else iY σ0 σ2/\Bn)
  (hl:l.length<=sizeLine) (q:Q (l.filterMap f)):eO g tc te σ0 (l.map gi) [] Q:=by
 have key:∀ (l:List α) (acc:List D),(∀ a∈l,∀ (A:D->Prop) (Bn:Prop),(match f a with|some d=>A d|none=>Bn)->g (gi a) σ0 λσ1=>tc σ1 λb σ2=>if b=true then te σ2 λd σ3=>iY σ0 σ3/\A d else iY σ0 σ2/\Bn) ->
   acc.length+l.length<=sizeLine->Q (acc++l.filterMap f)->eO g tc te σ0 (l.map gi) acc Q:=by
  intro l
  induction l with
  | nil=>intro acc _ _ q;simpa [eO] using q
  | cons a l ih =>
   intro acc h hl q;rw[List.length_cons] at hl;rw[List.map_cons];refine h a (List.mem_cons_self ..) (λd=>acc.length < sizeLine/\eO g tc te σ0 (l.map gi) (acc++[d]) Q) (eO g tc te σ0 (l.map gi) acc Q) ?_;have hr:=λy hy=>h y (List.mem_cons_of_mem _ hy);cases e:f a with
   | some d =>
    refine⟨by omega,ih _ hr (by rw[List.length_append,List.length_singleton];omega) ?_⟩
    rw[List.filterMap_cons_some e] at q
    rwa [List.append_assoc]
   | none =>
    refine ih acc hr (by omega) ?_
    rwa [List.filterMap_cons_none e] at q
 exact key l [] h (by simpa using hl) q
theorem ck {α:Type}{g:iX}{te:TD}{σ0:Sd}{Q:List D->Prop}(gi f:α->D)(l:List α)
  (h:∀ a∈l,∀ (A:D->Prop),A (f a)->g (gi a) σ0 λσ1=>te σ1 λd σ3=>iY σ0 σ3/\A d)
  (hl:l.length<=sizeLine) (q:Q (l.map f)):eO g bJ te σ0 (l.map gi) [] Q :=
 oA gi (λx=>some (f x)) l (λx hx A Bn ha=>h x hx A ha) hl (by simpa using q)
theorem cq {α:Type}{g:iX}{tb:cj}{De:EndsD}(gi:α->D)(l:List α)(I:Nat->Sd->Prop)
  (hstep:∀ i a σ (N:Sd->Prop),l[i]?=some a->I i σ->(∀ σ',I (i+1) σ'->N σ')->g (gi a) σ λσ1=>tb { nx:=N,rt:=De.rt,bk:=De.nx,ct:=N } σ1)
  (hend:∀ σ,I l.length σ->De.nx σ) {σ:Sd} (h0:I 0 σ):mf g tb De (l.map gi) σ:=by
 refine uX I (λi x σ N hx hI hN=>?_) (λσ h=>hend σ (by rwa [List.length_map] at h)) h0
 rw[List.getElem?_map] at hx;cases e:l[i]? with
 | none=>rw[e] at hx;cases hx
 | some a=>rw[e] at hx;cases hx;exact hstep i a σ N e hI hN
theorem dI (lo:Int)(n:Nat):tO lo n=(List.range n).map λi=>.int (lo+(i:Nat)):=rfl
theorem uY {α β:Type}(f:α->D)(g:β->D)(xs:List α)(ys:List β):oo (xs.map f) (ys.map g)=(xs.zip ys).map λp=>.tup [f p.1,g p.2]:=by
 unfold oo;rw[List.zip_map,List.map_map];rfl
theorem eW {α:Type}(f:α->D)(xs:List α):iZ (xs.map f)=(xs.mapIdx λi x=>(i,x)).map λp=>.tup [.int (p.1:Nat),f p.2]:=by
 unfold iZ;apply List.ext_getElem?;intro i;simp only[List.getElem?_mapIdx,List.getElem?_map];cases xs[i]?<;>rfl
theorem rX {α:Type}{xs:List α}{n:Nat}{d:α}(h:xs[n]?=some d):L2.atI xs (n:Int)=some d:=by
 have hn:=(List.getElem?_eq_some_iff.mp h).1;unfold L2.atI L2.ixN;rw[if_pos (Int.natCast_nonneg n),if_pos (by omega)]
 show xs[(n:Int).toNat]?=some d;rw[Int.toNat_natCast];exact h
theorem cf {xs:List D}{n:Nat}{i:Int}{d:D}{Q:D->Prop}(e:i=(n:Int))(h:xs[n]?=some d)(q:Q d):og (.lst xs) (.int i) Q:=by
 subst e;show (match L2.atI xs (n:Int) with|some d=>Q d|none=>False)
 rw[rX h];exact q
theorem bn {xs:List D}{n:Nat}{i:Int}{d:D}{Q:D->Prop}(e:i=(n:Int))(h:xs[n]?=some d)(q:Q d):og (.tup xs) (.int i) Q:=by
 subst e;show (match L2.atI xs (n:Int) with|some d=>Q d|none=>False)
 rw[rX h];exact q
theorem bh {xs:List D}{i:Int}{Q:D->Prop}(h0:0<=i)(h1:i < xs.length)(h:∀ d∈xs,Q d):og (.lst xs) (.int i) Q:=by
 have hn:i.toNat < xs.length:=by omega
 exact cf (n:=i.toNat) (by omega) (List.getElem?_eq_getElem hn) (h _ (List.getElem_mem hn))
structure FnD (G:GE)(x:Str)(st:Stmt)(ps:List Str)(f:Addr)(fd:FuncData):Prop where
 F:Fun G.K x x st f fd
 m:G.mg x=some (.ref f)
 b:Binds G.K fd ps []
theorem FnD.fg {x:Str}{st:Stmt}{ps N:List Str}{f:Addr}{fd:FuncData}{t:cj}{sp:bD}(d:FnD G x st ps f fd)(hK:G.K=KF.K)(Sc:FnScope N ps (af st))(ht:ESs G k ⟨N,(af st).names,[],false,false,false,λ_ _=>False⟩ (ao st) t)
  (len:∀ ds Q,sp ds Q->ds.length=ps.length) (body:∀ ds Q,sp ds Q->t { nx:=λ_=>Q (.sh .non),rt:=λb _=>Q b } (aO N.length ds)):FnG G (k+1) x sp :=
 ⟨f,fd,ps,CF hK d.F Sc ht len body,d.m,d.F.kp,d.b⟩
theorem ai {t u:cj}{De:EndsD}{σ:Sd}(h:∀ N,N=u De->t { nx:=N,rt:=De.rt,bk:=De.bk,ct:=De.ct } σ):bC t u De σ:=h _ rfl
end Vc


namespace Vc
open PySem L2
variable [KF]
section
open AutoSeq1 (wpAny_loadPart')
theorem oB (l:Addr)(items:Array Value)(n:Nat)(dct:Option Addr)(sl:Array (Option Value)) :
  Meets (Builtin.«enumerate.__new__» ⟨[.type "enumerate",.ref l],[]⟩) (λ_ R s=>s.heap.get? l=some { cls:=.type "tuple",dict:=dct,data:=.seq items n,slots:=sl } /\
   R (.ok (.ret (.ref (s.heap.push { cls:=.type "tuple_iterator",data:=.fields #[.ref l,.int 0 0] }).objs.size)))
    { s with heap:=(s.heap.push { cls:=.type "tuple_iterator",data:=.fields #[.ref l,.int 0 0] }).push { cls:=.type "enumerate",data:=.fields #[.none,.bool false,.ref s.heap.objs.size,rawInt 0,.none,.none] } }) :=
 .of_wp λprog w A R s h=>by
  obtain⟨hp,g,d,tk,os⟩:=s;obtain⟨hl,h⟩:=h;have hsub:=sub_enumerate;have hL:Heap.IsTuple (Shared.heap ⟨hp,g,d,tk,os⟩) l items:=⟨_,hl,rfl,n,rfl⟩
  wp_walk using wpAny_loadPart' hl
  refine wpAny_stack_any λst=>wpAny_pure ?_
  split
  ·rename_i c _ _ _ _ _
   cases (c==Value.type "enumerate")
   ·wp_walk using wpAny_loadPart' hl,wpAny_pyIter_tuple hL
    exact⟨_,rfl,h⟩
   ·wp_walk using wpAny_loadPart' hl,wpAny_pyIter_tuple hL
    exact⟨_,rfl,h⟩
  ·wp_walk using wpAny_loadPart' hl,wpAny_pyIter_tuple hL
   exact⟨_,rfl,h⟩
theorem qC {prog:Program}{w:World}{A:Around}{E:Value->Shared->Prop}{s:Shared}{l:Addr}{items:Array Value}{Q:Value->Shared->Prop}(hL:s.heap.IsTuple l items)
  (h:∀ h',IsEnum h' (s.heap.objs.size+1) s.heap.objs.size 0 .none->SqI true h' s.heap.objs.size l 0->h'.objs.size=s.heap.objs.size+2 ->
   (∀ b o,s.heap.get? b=some o->h'.get? b=some o)->Q (.ref (s.heap.objs.size+1)) { s with heap:=h' }) :
  wpAny (model prog w) A (call (.type "enumerate") [.ref l]) Q E s:=by
 obtain⟨⟨c,dct,dt,sl⟩,hl,hc,n,hd⟩:=hL
 replace hc:c=.type "tuple":=hc
 replace hd:dt=.seq items n:=hd
 subst hc hd;refine callType_new F.called_enumerate (by decide) (F.typeCall_enumerate_1 _) (F.newCall_enumerate_1 _) (λobj=>F.args_object_init_2 obj _) F.entry_enumerate_new
  (oB l items n dct sl) ⟨hl,?_⟩
 have hz:(s.heap.push { cls:=.type "tuple_iterator",data:=.fields #[.ref l,.int 0 0] }).objs.size=s.heap.objs.size+1:=Heap.size_push ..;show _/\_;rw[hz];have he:IsEnum ((s.heap.push { cls:=.type "tuple_iterator",data:=.fields #[.ref l,.int 0 0] }).push
   { cls:=.type "enumerate",data:=.fields #[.none,.bool false,.ref s.heap.objs.size,rawInt 0,.none,.none] }) (s.heap.objs.size+1) s.heap.objs.size 0 .none:=by
  have:=Heap.get?_push_size (s.heap.push { cls:=.type "tuple_iterator",data:=.fields #[.ref l,.int 0 0] })
   (o:={ cls:=.type "enumerate",data:=.fields #[.none,.bool false,.ref s.heap.objs.size,rawInt 0,.none,.none] }) rfl
  rw[hz] at this;exact this
 refine⟨⟨_,he,rfl⟩,h _ he ⟨_,Heap.get?_push_of_some _ (Heap.get?_push_size _ rfl),rfl,rfl⟩ (by rw[Heap.size_push,hz]) λb o x=>Heap.get?_push_of_some _ (Heap.get?_push_of_some _ x)⟩
end
def EQ (K:PySem.W.Frag)(ta:TA):TI:=λσ H R=>ta σ H λvs H1=>∃ tp a xs,vs=[.ref a]/\Sq tp K H1 a xs/\R (Pm tp K a) H1
theorem uZ {X:Cx}{elts:List Expr}{kk:Nat}{tpos:Pos}{a:Expr}{ta:TA}{p pos:Pos}(hg:Gl X "enumerate")(hm:X.mg "enumerate"=none)(hv:bootBuiltins "enumerate"=some (.type "enumerate"))(ha:PA X [a] ta)(hs:starEach [a] X.env=[(false,eval a X.env)]) :
  PI X (.Tuple elts kk tpos) (.Call (.Name "enumerate" p) [a] [] pos) (EQ X.K ta):=by
 intro pins s σ H R I h;refine PyProof.Rows.Call_ (dR I hg hm hv (PyProof.Rows.callWith_type1 (bT (ha pos pins s σ H _ I h) λus s1 ⟨vs,H1,I1,r1,q1⟩=>?_) hs rfl));obtain⟨tp,l,xs,e,q1,q⟩:=q1;subst e;obtain⟨u,rfl,ru⟩:=cY r1;cases ru;obtain⟨its,_,p1,ll⟩:=q1.is I1;have fin:∀ h',IsEnum h' (s1.heap.objs.size+1) s1.heap.objs.size 0 .none->SqI tp h' s1.heap.objs.size l 0->h'.objs.size=s1.heap.objs.size+2 ->
   (∀ b o,s1.heap.get? b=some o->h'.get? b=some o)->wpAny (model X.prog X.w) X.A (pyIter (.ref (s1.heap.objs.size+1))) (Py X pins σ (.Tuple elts kk tpos) R) X.xe { s1 with heap:=h' }:=λg e1 i1 n1 k1=>by
  refine wpAny_pyIter_enum e1 ?_;refine⟨s1.heap.objs.size+1,[s1.heap.objs.size+1,s1.heap.objs.size],_,_,H1,rfl,I1.kept (t':=s1.toks) k1,
   tP tp _ _ l (show (s1.heap.objs.size+1:Nat)≠s1.heap.objs.size by omega) (Nat.ne_of_lt (Nat.lt_succ_of_lt ll)) (Nat.ne_of_lt ll),⟨⟨_,e1⟩,i1⟩,λb hb=>?_,q⟩
  have hb':s1.heap.objs.size<=b:=by
   simp only[List.mem_cons,List.not_mem_nil,or_false] at hb;rcases hb with rfl|rfl
   ·exact Nat.le_succ _
   ·exact Nat.le_refl _
  exact I1.fpOk hb' (I1.hok.fresh hb')
 cases tp with
 | true=>exact qC p1 fin
 | false=>exact call_enumerate_list p1 fin
variable {G:GE}{k:Nat}{S:Stat}
def iD (t:eG):eG:=λσ Q=>t σ λds σ1=>match ds with
 | [.lst xs]=>Q (iZ xs) σ1
 | [.tup xs]=>Q (iZ xs) σ1
 | _=>False
theorem jo {elts:List Expr}{kk:Nat}{tpos:Pos}{a:Expr}{t:eG}{p pos:Pos}(h:EDs G k S [a] t)(hm:G.mg "enumerate"=none)(hg:S.sc.lookup ("enumerate":Str)=some .globalImplicit:=by rfl)(hs:∀ env,starEach [a] env=[(false,eval a env)]:=by intro _;rfl) :
  EI G k S (.Tuple elts kk tpos) (.Call (.Name "enumerate" p) [a] [] pos) (iD t):=.mk λX Y ok=>iu (uZ (dm ok hg) (by rw[ok.mg];exact hm) (by decide +kernel) (h X Y ok) (hs _)) λσ H Q q=>by
 obtain⟨F,σd,Qd,R,q,K⟩:=q;refine⟨F,σd,_,R,q,λvs H1 F1 ds σ1 s1 R1 r1 q1=>?_⟩;have go:∀ d xs,Mc d=some xs->RepL F1 vs [d]->Qd (iZ xs) σ1->∃ tp a us,vs=[.ref a]/\Sq tp X.K H1 a us/\Q (Pm tp X.K a) H1:=λd xs ex r1 q1=>by
  cases r1 with
  | cons rx r1 =>
   cases r1;obtain⟨tp,l,us,rfl,a1,b1⟩:=rx.sq ex X.K;exact⟨tp,l,us,rfl,a1 H1 R1.fr,K H1 F1 σ1 _ _ s1 R1 (Bp a1 b1) q1⟩
 split at q1
 ·exact go _ _ rfl r1 q1
 ·exact go _ _ rfl r1 q1
 ·exact q1.elim

end Vc

namespace Vs
open PySem PyProof.Rows
def R (ρ:Keyed->Nat)(xs:Array Keyed)(i:Nat):Nat:=match xs[i]? with
 | some p=>ρ p
 | none=>0
theorem eX {ρ:Keyed->Nat}{xs ys:Array Keyed}{i j:Nat}(h:xs[i]?=ys[j]?):R ρ xs i=R ρ ys j:=by unfold R;rw[h]
theorem R_at {ρ:Keyed->Nat}{xs:Array Keyed}{i:Nat}{p:Keyed}(h:xs[i]?=some p):R ρ xs i=ρ p:=by unfold R;rw[h]
theorem oC {ρ:Keyed->Nat}{xs:Array Keyed}{src d:Nat}(hs:src < xs.size)(hd:d<=src)(k:Nat) :
  R ρ (bubble xs src d) k=if k=src - d then R ρ xs src else if src - d < k/\k<=src then R ρ xs (k - 1) else R ρ xs k:=by
 have e:=getElem?_bubble hs d hd k
 repeat' split
 all_goals (rename_i h1;first | (rename_i h2;first|rw[if_neg h2,if_pos h1] at e|rw[if_neg h2,if_neg h1] at e)|rw[if_pos h1] at e)
 all_goals exact eX e
theorem jT {ρ:Keyed->Nat}{xs:Array Keyed}{i j:Nat}(hj:j<=xs.size)(k:Nat) :
  R ρ (mirror xs i j ((j - i) / 2)) k=if i<=k/\k < j then R ρ xs (i+j - 1 - k) else R ρ xs k:=by
 have e:=getElem?_mirror_all (i:=i) hj k
 split
 ·rename_i h1;rw[if_pos h1] at e;exact eX e
 ·rename_i h1;rw[if_neg h1] at e;exact eX e
theorem cc {ρ:Keyed->Nat}{xs:Array Keyed}{i j:Nat}(hj:j<=xs.size)(heq:∀ k,i<=k->k < j->R ρ xs k=R ρ xs (j - 1))(k:Nat) :
  R ρ (mirror xs i j ((j - i) / 2)) k=R ρ xs k:=by
 rw[jT hj]
 split
 ·rw[heq _ (by omega) (by omega),heq k (by omega) (by omega)]
 ·rfl
def eI (M:Model)(A:Around)(E:Value->Shared->Prop)(s:Shared)(ρ:Keyed->Nat)(kd:SortKind)(P:Keyed->Prop):Prop :=
 ∀ (x y:Keyed) (st:SortSt) (Q:Option Bool->SortSt->Prop),P x->P y->kindOf st=kd->Q (some (decide (ρ x < ρ y))) st->wpS M A E s (lt' x y) Q st
structure SI (kd:SortKind)(a₀:Array Keyed)(st:SortSt):Prop where
 perm:(arrOf st).Perm a₀
 kind:kindOf st=kd
 failed:failedOf st=none
theorem SI.size {kd:SortKind}{a₀:Array Keyed}{st:SortSt}(h:SI kd a₀ st):(arrOf st).size=a₀.size:=h.perm.size_eq
theorem SI.setArr {kd:SortKind}{a₀:Array Keyed}{st:SortSt}(h:SI kd a₀ st){xs:Array Keyed}(hp:xs.Perm (arrOf st)):SI kd a₀ (setArr st xs):=⟨hp.trans h.perm,h.kind,h.failed⟩
theorem SI.at {kd:SortKind}{a₀:Array Keyed}{st:SortSt}(h:SI kd a₀ st){P:Keyed->Prop}(h0:∀ p∈a₀.toList,P p){i:Nat}(hi:i < a₀.size):∃ p,(arrOf st)[i]?=some p/\P p:=by
 have hi':i < (arrOf st).size:=by rw[h.size];exact hi
 exact⟨(arrOf st)[i],getElem?_pos _ i hi',h0 _ ((Array.perm_iff_toList_perm.mp h.perm).mem_iff.mp (by simp))⟩
structure Fw (kd:SortKind)(a₀:Array Keyed)(lo:Nat)(st st':SortSt):Prop where
 si:SI kd a₀ st'
 same:∀ k,k < lo->(arrOf st')[k]?=(arrOf st)[k]?
 pend:pendingOf st'=pendingOf st
theorem Fw.refl {kd:SortKind}{a₀:Array Keyed}{lo:Nat}{st:SortSt}(h:SI kd a₀ st):Fw kd a₀ lo st st:=⟨h,λ_ _=>rfl,rfl⟩
theorem Fw.mirror {kd:SortKind}{a₀:Array Keyed}{lo i j:Nat}{st st':SortSt}(h:Fw kd a₀ lo st st')(hi:lo<=i)(hj:j<=a₀.size):Fw kd a₀ lo st (setArr st' (mirror (arrOf st') i j ((j - i) / 2))) :=
 ⟨h.si.setArr (mirror_perm _ _ _ _),λk hk=>by
  show (PyProof.Rows.mirror (arrOf st') i j ((j - i) / 2))[k]?=_;rw[getElem?_mirror_all (by rw[h.si.size];exact hj),if_neg (by omega)];exact h.same k hk,h.pend⟩
theorem Fw.bubble {kd:SortKind}{a₀:Array Keyed}{lo src d:Nat}{st st':SortSt}(h:Fw kd a₀ lo st st')(hs:src < a₀.size)(hd:lo<=src - d)(hd2:d<=src):Fw kd a₀ lo st (setArr st' (bubble (arrOf st') src d)) :=
 ⟨h.si.setArr (bubble_perm _ _ _),λk hk=>by
  show (PyProof.Rows.bubble (arrOf st') src d)[k]?=_;rw[getElem?_bubble (by rw[h.si.size];exact hs) d hd2,if_neg (by omega),if_neg (by omega)];exact h.same k hk,h.pend⟩
section
variable {M:Model}{A:Around}{E:Value->Shared->Prop}{s:Shared}{ρ:Keyed->Nat}{kd:SortKind}{P:Keyed->Prop}{a₀:Array Keyed}
theorem aS {arr:Array Keyed}{i:Nat}{p:Keyed}{st:SortSt}{Q:Keyed->SortSt->Prop}(h:arr[i]?=some p)(q:Q p st):wpS M A E s (elem' arr i) Q st:=by
 rw[elem'_eq,h];exact wpS_pure q
theorem eR {st:SortSt}{i j:Nat}{Q:Option Bool->SortSt->Prop}(hL:eI M A E s ρ kd P)(h0:∀ p∈a₀.toList,P p)(hB:SI kd a₀ st)(hi:i < a₀.size)(hj:j < a₀.size)
  (h:Q (some (decide (R ρ (arrOf st) i < R ρ (arrOf st) j))) st):wpS M A E s (ltAt' i j) Q st:=by
 obtain⟨p,e1,p1⟩:=hB.at h0 hi;obtain⟨q,e2,p2⟩:=hB.at h0 hj;rw[R_at e1,R_at e2] at h;rw[ltAt'_eq];refine wpS_bind (wpS_get ?_);show wpS _ _ _ _ (do let x <- elem' (arrOf st) i;let y <- elem' (arrOf st) j;lt' x y) Q st
 exact wpS_bind (aS e1 (wpS_bind (aS e2 (hL p q st Q p1 p2 hB.kind h))))
theorem dq {st:SortSt}{i j:Nat}{Q:Unit->SortSt->Prop}(h:Q () (setArr st (mirror (arrOf st) i j ((j - i) / 2)))):wpS M A E s (reverseSlice' i j) Q st:=by
 rw[reverseSlice'_eq];exact wpS_modify h
def Seg (ρ:Keyed->Nat)(xs:Array Keyed)(lo hi:Nat):Prop:=∀ i j,lo<=i->i<=j->j < hi->R ρ xs i<=R ρ xs j
def Neg (ρ:Keyed->Nat)(xs:Array Keyed)(lo hi:Nat):Prop:=∀ i j,lo<=i->i<=j->j < hi->R ρ xs j<=R ρ xs i
theorem Seg.one {xs:Array Keyed}{lo:Nat}:Seg ρ xs lo (lo+1):=λi j h1 h2 h3=>by
 have:i=j:=by omega
 subst this;exact Nat.le_refl _
theorem Seg.snoc {xs:Array Keyed}{lo hi:Nat}(h:Seg ρ xs lo hi)(hl:lo < hi)(hr:R ρ xs (hi - 1)<=R ρ xs hi):Seg ρ xs lo (hi+1):=λi j h1 h2 h3=>by
 by_cases hj:j < hi
 ·exact h i j h1 h2 hj
 ·have:j=hi:=by omega
  subst this
  by_cases hi':i=j
  ·subst hi';exact Nat.le_refl _
  ·exact Nat.le_trans (h i (j - 1) h1 (by omega) (by omega)) hr
theorem Neg.snoc {xs:Array Keyed}{lo hi:Nat}(h:Neg ρ xs lo hi)(hl:lo < hi)(hr:R ρ xs hi<=R ρ xs (hi - 1)):Neg ρ xs lo (hi+1):=λi j h1 h2 h3=>by
 by_cases hj:j < hi
 ·exact h i j h1 h2 hj
 ·have:j=hi:=by omega
  subst this
  by_cases hi':i=j
  ·subst hi';exact Nat.le_refl _
  ·exact Nat.le_trans hr (h i (j - 1) h1 (by omega) (by omega))
def vc (lo a nrem:Nat):StateT SortSt Sem (Option (Option Nat)×Nat) :=
 forIn [a:nrem] ((none,a):Option (Option Nat)×Nat) λ_ __s=>do
  let __x <- ltAt' (lo+__s.snd) (lo+__s.snd - 1)
  match __x with
  | some smaller=>if smaller=true then pure (ForInStep.done (none,__s.snd)) else pure (ForInStep.yield (none,__s.snd+1))
  | _=>pure (ForInStep.done (some none,__s.snd))
theorem oD {st:SortSt}{lo a nrem:Nat}{Q:Option (Option Nat)×Nat->SortSt->Prop}(hL:eI M A E s ρ kd P)(h0:∀ p∈a₀.toList,P p)(hn:lo+nrem<=a₀.size)(ha:1<=a)(han:a<=nrem)(hB:SI kd a₀ st)
  (hs:Seg ρ (arrOf st) lo (lo+a))
  (h:∀ n,a<=n->n<=nrem->Seg ρ (arrOf st) lo (lo+n)->(n=nrem\/R ρ (arrOf st) (lo+n) < R ρ (arrOf st) (lo+n - 1))->Q (none,n) st):wpS M A E s (vc lo a nrem) Q st:=by
 unfold vc;refine wpS_forRange (I:=λx c st'=>st'=st/\c=(none,x)/\Seg ρ (arrOf st) lo (lo+x)) ?step ?fin ⟨rfl,rfl,hs⟩
 case fin =>
  rintro c st' ⟨rfl,rfl,hs'⟩;rw[show max a nrem=nrem by omega] at hs' ⊢
  exact h nrem han (Nat.le_refl _) hs' (.inl rfl)
 case step =>
  rintro x c st' hax hxn ⟨rfl,rfl,hs'⟩;dsimp only;refine wpS_bind (eR hL h0 hB (by omega) (by omega) ?_)
  by_cases hl:R ρ (arrOf st') (lo+x) < R ρ (arrOf st') (lo+x - 1)
  ·simp only[hl,decide_true,if_true]
   exact wpS_pure (h x hax (by omega) hs' (.inr hl))
  ·simp only[hl,decide_false,Bool.false_eq_true,if_false]
   refine wpS_pure ⟨rfl,rfl,?_⟩;exact hs'.snoc (by omega) (by omega)
def oE (lo n nrem:Nat):StateT SortSt Sem (Option Nat):=do
 reverseSlice' lo (lo+n)
 let __s <- vc lo n nrem
 match __s.fst with
 | some r=>pure r
 | none=>pure (some __s.snd)
theorem ld {st st0:SortSt}{lo n nrem:Nat}{Q:Option Nat->SortSt->Prop}(hL:eI M A E s ρ kd P)(h0:∀ p∈a₀.toList,P p)(hn:lo+nrem<=a₀.size)(h1:1<=n)(hnn:n<=nrem)(hB:Fw kd a₀ lo st0 st)
  (hs:Neg ρ (arrOf st) lo (lo+n)) (h:∀ m st',Fw kd a₀ lo st0 st'->1<=m->m<=nrem->Seg ρ (arrOf st') lo (lo+m)->Q (some m) st'):wpS M A E s (oE lo n nrem) Q st:=by
 unfold oE;have hsz:lo+n<=(arrOf st).size:=by rw[hB.si.size];omega
 refine wpS_bind (dq ?_);have hB':=hB.mirror (i:=lo) (j:=lo+n) (Nat.le_refl _) (by omega)
 refine wpS_bind (oD hL h0 hn h1 hnn hB'.si ?_ λm hm1 hm2 hsm _=>wpS_pure (h m _ hB' (by omega) hm2 hsm))
 intro i j hi hij hj;show R ρ (mirror (arrOf st) lo (lo+n) ((lo+n - lo) / 2)) i<=R ρ (mirror (arrOf st) lo (lo+n) ((lo+n - lo) / 2)) j;rw[jT hsz,jT hsz,if_pos (by omega),if_pos (by omega)]
 exact hs _ _ (by omega) (by omega) (by omega)
def rY (lo n nrem:Nat):StateT SortSt Sem (Option (Option Nat)×Nat×Nat) :=
 forIn [n:nrem] ((none,n,0):Option (Option Nat)×Nat×Nat) λ_ __s=>do
  let __x <- ltAt' (lo+__s.snd.fst) (lo+__s.snd.fst - 1)
  match __x with
  | some smaller =>
   if smaller=true then
    if __s.snd.snd > 0 then do
     reverseSlice' (lo+__s.snd.fst - (__s.snd.snd+1)) (lo+__s.snd.fst)
     pure (ForInStep.yield (none,__s.snd.fst+1,0))
    else pure (ForInStep.yield (none,__s.snd.fst+1,0))
   else do
    let __x <- ltAt' (lo+__s.snd.fst - 1) (lo+__s.snd.fst)
    match __x with
    | some larger =>
     if larger=true then pure (ForInStep.done (none,__s.snd.fst,__s.snd.snd))
     else pure (ForInStep.yield (none,__s.snd.fst+1,__s.snd.snd+1))
    | _=>pure (ForInStep.done (some none,__s.snd.fst,__s.snd.snd))
  | _=>pure (ForInStep.done (some none,__s.snd.fst,__s.snd.snd))
theorem tQ {st st0:SortSt}{lo n nrem:Nat}{Q:Option (Option Nat)×Nat×Nat->SortSt->Prop}(hL:eI M A E s ρ kd P)(h0:∀ p∈a₀.toList,P p)(hn:lo+nrem<=a₀.size)(h1:1<=n)(hnn:n<=nrem)(hB:Fw kd a₀ lo st0 st)
  (hs:Neg ρ (arrOf st) lo (lo+n))
  (h:∀ m neq st',Fw kd a₀ lo st0 st'->n<=m->m<=nrem->Neg ρ (arrOf st') lo (lo+m)->neq+1<=m->(∀ i,lo+m - (neq+1)<=i->i < lo+m->R ρ (arrOf st') i=R ρ (arrOf st') (lo+m - 1))->Q (none,m,neq) st') :
  wpS M A E s (rY lo n nrem) Q st:=by
 unfold rY;refine wpS_forRange (I:=λx c st'=>∃ neq,c=(none,x,neq)/\Fw kd a₀ lo st0 st'/\Neg ρ (arrOf st') lo (lo+x)/\neq+1<=x /\
   (∀ i,lo+x - (neq+1)<=i->i < lo+x->R ρ (arrOf st') i=R ρ (arrOf st') (lo+x - 1))) ?step ?fin ⟨0,rfl,hB,hs,by omega,λi h1 h2=>by congr 1;omega⟩
 case fin =>
  rintro c st' ⟨neq,rfl,hB',hs',hq,he⟩;rw[show max n nrem=nrem by omega] at hs' hq he ⊢
  exact h nrem neq st' hB' hnn (Nat.le_refl _) hs' hq he
 case step =>
  rintro x c st' hax hxn ⟨neq,rfl,hB',hs',hq,he⟩;dsimp only;have hsz:lo+x<=(arrOf st').size:=by rw[hB'.si.size];omega
  refine wpS_bind (eR hL h0 hB'.si (by omega) (by omega) ?_)
  by_cases hl:R ρ (arrOf st') (lo+x) < R ρ (arrOf st') (lo+x - 1)
  ·simp only[hl,decide_true,if_true]
   have step1:∀ xs:Array Keyed,(∀ k,R ρ xs k=R ρ (arrOf st') k)->Neg ρ xs lo (lo+(x+1)):=λxs hk=>by
    have:=hs'.snoc (by omega) (Nat.le_of_lt hl)
    intro i j h1 h2 h3;rw[hk,hk];exact this i j h1 h2 h3
   by_cases hneq:neq > 0
   ·rw[if_pos hneq]
    refine wpS_bind (dq (wpS_pure ⟨0,rfl,hB'.mirror (by omega) (by omega),step1 _ (cc hsz he),by omega,λi h1 h2=>by congr 1;omega⟩))
   ·rw[if_neg hneq]
    exact wpS_pure ⟨0,rfl,hB',step1 _ (λ_=>rfl),by omega,λi h1 h2=>by congr 1;omega⟩
  ·simp only[hl,decide_false,Bool.false_eq_true,if_false]
   refine wpS_bind (eR hL h0 hB'.si (by omega) (by omega) ?_)
   by_cases hg:R ρ (arrOf st') (lo+x - 1) < R ρ (arrOf st') (lo+x)
   ·simp only[hg,decide_true,if_true]
    exact wpS_pure (h x neq st' hB' hax (by omega) hs' hq he)
   ·simp only[hg,decide_false,Bool.false_eq_true,if_false]
    have heq:R ρ (arrOf st') (lo+x)=R ρ (arrOf st') (lo+x - 1):=by omega
    refine wpS_pure ⟨neq+1,rfl,hB',hs'.snoc (by omega) (by omega),by omega,λi h1 h2=>?_⟩
    rw[show lo+(x+1) - 1=lo+x by omega]
    by_cases hix:i=lo+x
    ·rw[hix]
    ·rw[heq];exact he i (by omega) (by omega)
def oF (lo n nrem:Nat):StateT SortSt Sem (Option Nat):=do
 liftM (rule "list.sort.descending-run")
 let __s <- rY lo (n+1) nrem
 match __s.fst with
 | some r=>pure r
 | none =>
  if __s.snd.snd > 0 then do
   reverseSlice' (lo+__s.snd.fst - (__s.snd.snd+1)) (lo+__s.snd.fst)
   oE lo __s.snd.fst nrem
  else oE lo __s.snd.fst nrem
theorem lg {st st0:SortSt}{lo n nrem:Nat}{Q:Option Nat->SortSt->Prop}(hL:eI M A E s ρ kd P)(h0:∀ p∈a₀.toList,P p)(hn:lo+nrem<=a₀.size)(hnn:n+1<=nrem)(hB:Fw kd a₀ lo st0 st)
  (hs:Neg ρ (arrOf st) lo (lo+(n+1))) (h:∀ m st',Fw kd a₀ lo st0 st'->1<=m->m<=nrem->Seg ρ (arrOf st') lo (lo+m)->Q (some m) st'):wpS M A E s (oF lo n nrem) Q st:=by
 unfold oF;refine wpS_bind (wpS_lift (wpAny_rule ⟨rfl,?_⟩));refine wpS_bind (tQ hL h0 hn (by omega) hnn hB hs λm neq st' hB' hm1 hm2 hs' hq he=>?_)
 dsimp only;have hsz:lo+m<=(arrOf st').size:=by rw[hB'.si.size];omega
 by_cases hneq:neq > 0
 ·rw[if_pos hneq]
  refine wpS_bind (dq (ld hL h0 hn (by omega) hm2 (hB'.mirror (by omega) (by omega)) ?_ h))
  intro i j h1 h2 h3;show R ρ (mirror (arrOf st') _ _ _) j<=R ρ (mirror (arrOf st') _ _ _) i;rw[cc hsz he,cc hsz he];exact hs' i j h1 h2 h3
 ·rw[if_neg hneq]
  exact ld hL h0 hn (by omega) hm2 hB' hs' h
local macro_rules|`(tactic| walk_at "s_tail")=>`(tactic| (funext s3;obtain⟨r3,n3⟩:=s3;cases r3<;>rfl))
local macro_rules|`(tactic| walk_at "s_t3")=>`(tactic| (congr 1;funext _w;congr 1;walk_at "s_tail"))
local macro_rules|`(tactic| walk_at "s_desc")=>`(tactic| (congr 1;funext _u;congr 1;congr 1;funext s2;obtain⟨r2,n2,q2⟩:=s2;cases r2 with
  | some r2=>rfl
  | none=>(dsimp only;split;(congr 1;funext _v;walk_at "s_t3");walk_at "s_t3")))
theorem ml (lo nrem:Nat):countRun' lo nrem=(do
  let __s <- vc lo 1 nrem
  match __s.fst with
  | some r=>pure r
  | none =>
   if (__s.snd==nrem)=true then pure (some __s.snd)
   else if __s.snd > 1 then do
    let __x <- ltAt' lo (lo+__s.snd - 1)
    match __x with
    | some rose=>if rose=true then pure (some __s.snd) else do
      reverseSlice' lo (lo+__s.snd)
      oF lo __s.snd nrem
    | _=>pure none
   else oF lo __s.snd nrem):=by
 rw[countRun'_eq];dsimp only;unfold oF oE rY vc;congr 1;funext __s;obtain⟨r,n⟩:=__s;cases r with
 | some r=>rfl
 | none =>
  dsimp only
  split
  ·rfl
  ·split
   ·congr 1
    funext x;cases x with
    | none=>rfl
    | some b =>
     dsimp only
     split
     ·rfl
     ·congr 1
      funext _z;walk_at "s_desc"
   ·walk_at "s_desc"
end
end Vs

namespace Vs
open PySem PyProof.Rows
section
variable {M:Model}{A:Around}{E:Value->Shared->Prop}{s:Shared}{ρ:Keyed->Nat}{kd:SortKind}{P:Keyed->Prop}{a₀:Array Keyed}
theorem mn {st:SortSt}{lo nrem:Nat}{Q:Option Nat->SortSt->Prop}(hL:eI M A E s ρ kd P)(h0:∀ p∈a₀.toList,P p)(hn:lo+nrem<=a₀.size)(h1:1<=nrem)(hB:SI kd a₀ st)
  (h:∀ m st',Fw kd a₀ lo st st'->1<=m->m<=nrem->Seg ρ (arrOf st') lo (lo+m)->Q (some m) st'):wpS M A E s (countRun' lo nrem) Q st:=by
 rw[ml];refine wpS_bind (oD hL h0 hn (Nat.le_refl 1) h1 hB Seg.one λn hn1 hn2 hsn hor=>?_);dsimp only
 by_cases hnn:n=nrem
 ·rw[if_pos (by simpa using hnn)]
  exact wpS_pure (h n st (.refl hB) hn1 hn2 hsn)
 ·rw[if_neg (by simpa using hnn)]
  have hlt:=hor.resolve_left hnn
  by_cases hgt:n > 1
  ·rw[if_pos hgt]
   refine wpS_bind (eR hL h0 hB (by omega) (by omega) ?_)
   by_cases hr:R ρ (arrOf st) lo < R ρ (arrOf st) (lo+n - 1)
   ·simp only[hr,decide_true,if_true]
    exact wpS_pure (h n st (.refl hB) hn1 hn2 hsn)
   ·simp only[hr,decide_false,Bool.false_eq_true,if_false]
    have hsz:lo+n<=(arrOf st).size:=by rw[hB.size];omega
    have hall:∀ k,lo<=k->k < lo+n->R ρ (arrOf st) k=R ρ (arrOf st) (lo+n - 1):=λk hk1 hk2=>by
     have a1:=hsn lo k (Nat.le_refl _) hk1 hk2;have a2:=hsn k (lo+n - 1) hk1 (by omega) (by omega)
     omega
    refine wpS_bind (dq (lg hL h0 hn (by omega) ((Fw.refl hB).mirror (Nat.le_refl _) (by omega)) ?_ h))
    intro i j hi hij hj;show R ρ (mirror (arrOf st) _ _ _) j<=R ρ (mirror (arrOf st) _ _ _) i;rw[cc hsz hall,cc hsz hall]
    by_cases hjn:j < lo+n
    ·rw[hall i hi (by omega),hall j (by omega) hjn];exact Nat.le_refl _
    ·have hj':j=lo+n:=by omega
     subst hj'
     by_cases hi':i=lo+n
     ·subst hi';exact Nat.le_refl _
     ·rw[hall i hi (by omega)];exact Nat.le_of_lt hlt
  ·rw[if_neg hgt]
   have hn1':n=1:=by omega
   subst hn1';refine lg hL h0 hn (by omega) (.refl hB) ?_ h
   intro i j hi hij hj
   by_cases hi':i=j
   ·subst hi';exact Nat.le_refl _
   ·have hi0:i=lo:=by omega
    have hj1:j=lo+1:=by omega
    subst hi0;subst hj1;exact Nat.le_of_lt hlt
theorem jU {st:SortSt}{lo n ok:Nat}{Q:Bool->SortSt->Prop}(hL:eI M A E s ρ kd P)(h0:∀ p∈a₀.toList,P p)(hn:lo+n<=a₀.size)(hok:ok<=n)(hB:SI kd a₀ st)(hs:Seg ρ (arrOf st) lo (lo+ok))
  (h:∀ st',Fw kd a₀ lo st st'->Seg ρ (arrOf st') lo (lo+n)->Q true st'):wpS M A E s (binarySort' lo n ok) Q st:=by
 rw[binarySort'_eq];refine wpS_bind (wpS_mono (wpS_forRange (I:=λk c st'=>c=(none,())/\Fw kd a₀ lo st st'/\Seg ρ (arrOf st') lo (lo+min k n))
  (Q:=λc st'=>c=(none,())/\Fw kd a₀ lo st st'/\Seg ρ (arrOf st') lo (lo+n)) ?step ?fin ?init) ?post)
 case post =>
  rintro c st' ⟨rfl,hB',hs'⟩;exact wpS_pure (h st' hB' hs')
 case init =>
  refine⟨rfl,.refl hB,λi j hi hij hj=>?_⟩
  by_cases h1:ok=0
  ·have:i=j:=by omega
   subst this;exact Nat.le_refl _
  ·exact hs i j hi hij (by omega)
 case fin =>
  rintro c st' ⟨hc,hB',hs'⟩;refine⟨hc,hB',?_⟩
  rwa [show min (max (max ok 1) n) n=n by omega] at hs'
 case step =>
  rintro k c st' hak hkn ⟨rfl,hB',hs'⟩;rw[show min k n=k by omega] at hs'
  have hk:lo+k < a₀.size:=by omega
  refine wpS_bind (wpS_mono (wpS_forRange (I:=λx c st''=>st''=st'/\∃ l r,c=(none,l,r)/\l<=r/\r<=k/\r - l<=k - x /\
    (∀ i,i < l->R ρ (arrOf st') (lo+i)<=R ρ (arrOf st') (lo+k))/\(∀ i,r<=i->i < k->R ρ (arrOf st') (lo+k) < R ρ (arrOf st') (lo+i)))
   (Q:=λc st''=>st''=st'/\∃ l r,c=(none,l,r)/\l<=k /\
    (∀ i,i < l->R ρ (arrOf st') (lo+i)<=R ρ (arrOf st') (lo+k))/\(∀ i,l<=i->i < k->R ρ (arrOf st') (lo+k) < R ρ (arrOf st') (lo+i))) ?istep ?ifin ?iinit) ?ipost)
  case iinit=>exact⟨rfl,0,k,rfl,by omega,by omega,by omega,λi hi=>by omega,λi h1 h2=>by omega⟩
  case ifin =>
   rintro c st'' ⟨rfl,l,r,rfl,hlr,hrk,hm,hlo,hhi⟩;have:l=r:=by omega
   subst this;exact⟨rfl,l,l,rfl,hrk,hlo,hhi⟩
  case istep =>
   rintro x c st'' _ hxk ⟨rfl,l,r,rfl,hlr,hrk,hm,hlo,hhi⟩;dsimp only
   by_cases hge:l>=r
   ·rw[if_pos hge]
    have:l=r:=by omega
    subst this;exact wpS_pure ⟨rfl,l,l,rfl,hrk,hlo,hhi⟩
   ·rw[if_neg hge]
    refine wpS_bind (eR hL h0 hB'.si hk (by omega) ?_)
    by_cases hless:R ρ (arrOf st'') (lo+k) < R ρ (arrOf st'') (lo+(l+r) / 2)
    ·simp only[hless,decide_true,if_true]
     refine wpS_pure ⟨rfl,l,(l+r) / 2,rfl,by omega,by omega,by omega,hlo,λi h1 h2=>?_⟩
     exact Nat.lt_of_lt_of_le hless (hs' _ _ (by omega) (by omega) (by omega))
    ·simp only[hless,decide_false,Bool.false_eq_true,if_false]
     refine wpS_pure ⟨rfl,(l+r) / 2+1,r,rfl,by omega,by omega,by omega,λi h1=>?_,hhi⟩
     exact Nat.le_trans (hs' (lo+i) (lo+(l+r) / 2) (by omega) (by omega) (by omega)) (Nat.not_lt.mp hless)
  case ipost =>
   rintro c st'' ⟨rfl,l,r,rfl,hlk,hlo,hhi⟩;show wpS _ _ _ _ (do moveDown' (lo+k) (lo+l);pure (ForInStep.yield (none,()))) _ _
   rw[moveDown'_eq];refine wpS_bind (wpS_modify (wpS_pure ⟨rfl,hB'.bubble hk (by omega) (by omega),?_⟩))
   rw[show min (k+1) n=k+1 by omega]
   have hks:lo+k < (arrOf st'').size:=by rw[hB'.si.size];exact hk
   intro i j hi hij hj;show R ρ (bubble (arrOf st'') (lo+k) (lo+k - (lo+l))) i<=R ρ (bubble (arrOf st'') (lo+k) (lo+k - (lo+l))) j;rw[oC hks (by omega),oC hks (by omega),show lo+k - (lo+k - (lo+l))=lo+l by omega]
   have hlo':∀ i,lo<=i->i < lo+l->R ρ (arrOf st'') i<=R ρ (arrOf st'') (lo+k):=λi h1 h2=>by
    have:=hlo (i - lo) (by omega);rwa [show lo+(i - lo)=i by omega] at this
   have hhi':∀ i,lo+l<=i->i < lo+k->R ρ (arrOf st'') (lo+k) < R ρ (arrOf st'') i:=λi h1 h2=>by
    have:=hhi (i - lo) (by omega) (by omega);rwa [show lo+(i - lo)=i by omega] at this
   repeat' split
   all_goals first
    | (exfalso;omega)
    | exact Nat.le_refl _
    | exact hlo' _ (by omega) (by omega)
    | exact Nat.le_of_lt (hhi' _ (by omega) (by omega))
    | exact hs' _ _ (by omega) (by omega) (by omega)
def bU:Bool->Keyed->Array Keyed->Nat->Nat->Nat->StateT SortSt Sem (Option Nat):=sortPriv% PySem.Builtin.gallop
def dX (left:Bool)(key:Keyed)(arr:Array Keyed)(base i:Nat):StateT SortSt Sem (Option Bool):=do
 let x <- elem' arr (base+i)
 if left then lt' x key else return (<- lt' key x).map (!·)
theorem qD (left:Bool)(key:Keyed)(arr:Array Keyed)(base n hint:Nat):bU left key arr base n hint=(do
 let mut lastofs:=0
 let mut ofs:=1
 let mut lo:=0
 let mut hi:=0
 let some right <- dX left key arr base hint|return none
 if right then
  let maxofs:=n - hint
  for _ in [0:n] do
   if ofs>=maxofs then break
   let some more <- dX left key arr base (hint+ofs)|return none
   if !more then break
   lastofs:=ofs
   ofs:=2*ofs+1
  lo:=hint+lastofs+1
  hi:=hint+min ofs maxofs
 else
  let maxofs:=hint+1
  for _ in [0:n] do
   if ofs>=maxofs then break
   let some found <- dX left key arr base (hint - ofs)|return none
   if found then break
   lastofs:=ofs
   ofs:=2*ofs+1
  lo:=hint+1 - min ofs maxofs
  hi:=hint - lastofs
 for _ in [0:n] do
  if lo>=hi then break
  let m:=lo+(hi - lo) / 2
  let some more <- dX left key arr base m|return none
  if more then lo:=m+1 else hi:=m
 return some hi):=rfl
end
end Vs

namespace Vs
open PySem PyProof.Rows
section
variable {M:Model}{A:Around}{E:Value->Shared->Prop}{s:Shared}{ρ:Keyed->Nat}{kd:SortKind}{P:Keyed->Prop}{a₀:Array Keyed}
def Mf (left:Bool)(key:Keyed)(arr:Array Keyed)(base n l h:Nat):StateT SortSt Sem (Option Nat):=do
 let mut lo:=l
 let mut hi:=h
 for _ in [0:n] do
  if lo>=hi then break
  let m:=lo+(hi - lo) / 2
  let some more <- dX left key arr base m|return none
  if more then lo:=m+1 else hi:=m
 return some hi
def vd (M:Model)(A:Around)(E:Value->Shared->Prop)(s:Shared)(left:Bool)(key:Keyed)(arr:Array Keyed)(base n:Nat)(st:SortSt)(p:Nat->Bool):Prop :=
 ∀ i,i < n->∀ Q:Option Bool->SortSt->Prop,Q (some (p i)) st->wpS M A E s (dX left key arr base i) Q st
theorem oG {left:Bool}{key:Keyed}{arr:Array Keyed}{base n l h:Nat}{st:SortSt}{p:Nat->Bool}{Q:Option Nat->SortSt->Prop}(hT:vd M A E s left key arr base n st p)(hp:∀ i j,i<=j->j < n->p j=true->p i=true)
  (hlh:l<=h) (hh:h<=n) (h1:∀ i,i < l->p i=true) (h2:∀ i,h<=i->i < n->p i=false)
  (q:∀ k,k<=n->(∀ i,i < k->p i=true)->(∀ i,k<=i->i < n->p i=false)->Q (some k) st):wpS M A E s (Mf left key arr base n l h) Q st:=by
 unfold Mf;dsimp only;refine wpS_bind (wpS_mono (wpS_forRange (I:=λx c st'=>st'=st/\∃ l h,c=(none,l,h)/\l<=h/\h<=n/\h - l<=n - x/\(∀ i,i < l->p i=true)/\(∀ i,h<=i->i < n->p i=false))
  (Q:=λc st'=>st'=st/\∃ k,c=(none,k,k)/\k<=n/\(∀ i,i < k->p i=true)/\(∀ i,k<=i->i < n->p i=false)) ?step ?fin ⟨rfl,l,h,rfl,hlh,hh,by omega,h1,h2⟩) ?post)
 case post =>
  rintro c st' ⟨rfl,k,rfl,hk,q1,q2⟩;exact wpS_pure (q k hk q1 q2)
 case fin =>
  rintro c st' ⟨rfl,l,h,rfl,a1,a2,a3,a4,a5⟩;have:l=h:=by omega
  subst this;exact⟨rfl,l,rfl,a2,a4,a5⟩
 case step =>
  rintro x c st' _ hx ⟨rfl,l,h,rfl,a1,a2,a3,a4,a5⟩;dsimp only
  by_cases hge:l>=h
  ·rw[if_pos hge]
   have:l=h:=by omega
   subst this;exact wpS_pure ⟨rfl,l,rfl,a2,a4,a5⟩
  ·rw[if_neg hge]
   refine wpS_bind (hT _ (by omega) _ ?_)
   cases hm:p (l+(h - l) / 2) with
   | true =>
    simp only[if_true];exact wpS_pure ⟨rfl,_,_,rfl,by omega,a2,by omega,λi hi=>hp i _ (by omega) (by omega) hm,a5⟩
   | false =>
    simp only[Bool.false_eq_true,if_false];refine wpS_pure ⟨rfl,_,_,rfl,by omega,by omega,by omega,a4,λi hi hn=>?_⟩
    cases e:p i with
    | false=>rfl
    | true=>rw[hp _ i hi hn e] at hm;cases hm
theorem cE {left:Bool}{key:Keyed}{arr:Array Keyed}{base n hint:Nat}{st:SortSt}{p:Nat->Bool}{Q:Option Nat->SortSt->Prop}(hT:vd M A E s left key arr base n st p)(hp:∀ i j,i<=j->j < n->p j=true->p i=true)(hn:hint < n)
  (q:∀ k,k<=n->(∀ i,i < k->p i=true)->(∀ i,k<=i->i < n->p i=false)->Q (some k) st):wpS M A E s (bU left key arr base n hint) Q st:=by
 rw[qD];dsimp only;refine wpS_bind (hT hint hn _ ?_);have pf:∀ i j,i<=j->j < n->p i=false->p j=false:=λi j h1 h2 h3=>by
  cases e:p j with
  | false=>rfl
  | true=>rw[hp i j h1 h2 e] at h3;cases h3
 cases h0:p hint with
 | true =>
  dsimp only;rw[if_pos rfl];refine wpS_bind (wpS_mono (wpS_forRange (I:=λx c st'=>st'=st/\∃ l o,c=(none,l,o)/\l < o/\x+1<=o/\hint+l < n/\p (hint+l)=true)
   (Q:=λc st'=>st'=st/\∃ l o,c=(none,l,o)/\l < o/\hint+l < n/\p (hint+l)=true/\(n - hint<=o\/(hint+o < n/\p (hint+o)=false))) ?step ?fin ⟨rfl,0,1,rfl,by omega,by omega,hn,h0⟩) ?post)
  case fin =>
   rintro c st' ⟨rfl,l,o,rfl,a1,a2,a3,a4⟩;exact⟨rfl,l,o,rfl,a1,a3,a4,.inl (by omega)⟩
  case step =>
   rintro x c st' _ hx ⟨rfl,l,o,rfl,a1,a2,a3,a4⟩;dsimp only
   by_cases hge:o>=n - hint
   ·rw[if_pos hge]
    exact wpS_pure ⟨rfl,l,o,rfl,a1,a3,a4,.inl hge⟩
   ·rw[if_neg hge]
    refine wpS_bind (hT _ (by omega) _ ?_)
    cases hm:p (hint+o) with
    | true =>
     simp only[Bool.not_true,Bool.false_eq_true,if_false];exact wpS_pure ⟨rfl,_,_,rfl,by omega,by omega,by omega,hm⟩
    | false =>
     simp only[Bool.not_false,if_true];exact wpS_pure ⟨rfl,_,_,rfl,a1,a3,a4,.inr ⟨by omega,hm⟩⟩
  case post =>
   rintro c st' ⟨rfl,l,o,rfl,a1,a3,a4,a5⟩;refine oG (l:=hint+l+1) (h:=hint+min o (n - hint)) hT hp (by omega) (by omega) (λi hi=>hp i _ (by omega) a3 a4) (λi hi hi2=>?_) q
   rcases a5 with a5|⟨a5,a6⟩
   ·omega
   ·exact pf (hint+o) i (by omega) hi2 a6
 | false =>
  dsimp only;rw[if_neg (by decide)]
  refine wpS_bind (wpS_mono (wpS_forRange (I:=λx c st'=>st'=st/\∃ l o,c=(none,l,o)/\l < o/\x+1<=o/\l<=hint/\p (hint - l)=false)
   (Q:=λc st'=>st'=st/\∃ l o,c=(none,l,o)/\l < o/\l<=hint/\p (hint - l)=false/\(hint+1<=o\/(o<=hint/\p (hint - o)=true))) ?step2 ?fin2 ⟨rfl,0,1,rfl,by omega,by omega,by omega,h0⟩) ?post2)
  case fin2 =>
   rintro c st' ⟨rfl,l,o,rfl,a1,a2,a3,a4⟩;exact⟨rfl,l,o,rfl,a1,a3,a4,.inl (by omega)⟩
  case step2 =>
   rintro x c st' _ hx ⟨rfl,l,o,rfl,a1,a2,a3,a4⟩;dsimp only
   by_cases hge:o>=hint+1
   ·rw[if_pos hge]
    exact wpS_pure ⟨rfl,l,o,rfl,a1,a3,a4,.inl hge⟩
   ·rw[if_neg hge]
    refine wpS_bind (hT _ (by omega) _ ?_)
    cases hm:p (hint - o) with
    | true =>
     simp only[if_true];exact wpS_pure ⟨rfl,_,_,rfl,a1,a3,a4,.inr ⟨by omega,hm⟩⟩
    | false =>
     simp only[Bool.false_eq_true,if_false];exact wpS_pure ⟨rfl,_,_,rfl,by omega,by omega,by omega,hm⟩
  case post2 =>
   rintro c st' ⟨rfl,l,o,rfl,a1,a3,a4,a5⟩;refine oG (l:=hint+1 - min o (hint+1)) (h:=hint - l) hT hp (by omega) (by omega) (λi hi=>?_) (λi hi hi2=>pf (hint - l) i hi hi2 a4) q
   rcases a5 with a5|⟨a5,a6⟩
   ·omega
   ·exact hp i (hint - o) (by omega) (by omega) a6
def lh (ρ:Keyed->Nat)(left:Bool)(key:Keyed)(arr:Array Keyed)(base i:Nat):Bool:=if left=true then decide (R ρ arr (base+i) < ρ key) else !decide (ρ key < R ρ arr (base+i))
theorem li {left:Bool}{key:Keyed}{arr:Array Keyed}{base n:Nat}{st:SortSt}(hL:eI M A E s ρ kd P)(hk:kindOf st=kd)(pk:P key)(pa:∀ i,i < n->∃ x,arr[base+i]?=some x/\P x):vd M A E s left key arr base n st (lh ρ left key arr base):=λi hi Q q=>by
 obtain⟨x,e,px⟩:=pa i hi;unfold dX;refine wpS_bind (aS e ?_);unfold lh at q;rw[R_at e] at q;cases left with
 | true =>
  simp only[if_true] at q ⊢;exact hL x key st Q px pk hk q
 | false =>
  simp only[Bool.false_eq_true,if_false] at q ⊢;exact wpS_bind (hL key x st _ pk px hk (wpS_pure q))
end
end Vs

namespace Vs
open PySem PyProof.Rows
def jV:Array Keyed->Array Keyed->StateT SortSt Sem (Array Keyed):=sortPriv% PySem.Builtin.mergeLo
def jW:Array Keyed->Array Keyed->StateT SortSt Sem (Array Keyed):=sortPriv% PySem.Builtin.mergeHi
def dr:Nat->StateT SortSt Sem Unit:=sortPriv% PySem.Builtin.setMinGallop
theorem dc (g:Nat):dr g=modify (λst=>SortSt.mk' (kindOf st) (arrOf st) (pendingOf st) g (failedOf st)):=rfl
def So (ρ:Keyed->Nat)(l:List Keyed):Prop:=l.Pairwise λx y=>ρ x<=ρ y
structure J (ρ:Keyed->Nat)(L O A B:List Keyed):Prop where
 o:So ρ O
 a:So ρ A
 b:So ρ B
 oa:∀ x∈O,∀ y∈A,ρ x<=ρ y
 ob:∀ x∈O,∀ y∈B,ρ x<=ρ y
 p:(O++(A++B)).Perm L
def Good (ρ:Keyed->Nat)(L r:List Keyed):Prop:=So ρ r/\r.Perm L
theorem So.app {ρ:Keyed->Nat}{A B:List Keyed}(h1:So ρ A)(h2:So ρ B)(h:∀ x∈A,∀ y∈B,ρ x<=ρ y):So ρ (A++B):=List.pairwise_append.mpr ⟨h1,h2,h⟩
section
variable {ρ:Keyed->Nat}{L O A B X:List Keyed}{x z:Keyed}
theorem J.manyA (j:J ρ L O (X++A) B)(h:∀ x∈X,∀ y∈B,ρ x<=ρ y):J ρ L (O++X) A B:=by
 obtain⟨a1,a2,a3⟩:=List.pairwise_append.mp j.a;refine⟨j.o.app a1 λx hx y hy=>j.oa x hx y (List.mem_append_left _ hy),a2,j.b,λx hx y hy=>?_,λx hx y hy=>?_,?_⟩
 ·rcases List.mem_append.mp hx with hx|hx
  ·exact j.oa x hx y (List.mem_append_right _ hy)
  ·exact a3 x hx y hy
 ·rcases List.mem_append.mp hx with hx|hx
  ·exact j.ob x hx y hy
  ·exact h x hx y hy
 ·have:=j.p
  simpa [List.append_assoc] using this
theorem J.manyB (j:J ρ L O A (X++B))(h:∀ x∈X,∀ y∈A,ρ x<=ρ y):J ρ L (O++X) A B:=by
 obtain⟨a1,a2,a3⟩:=List.pairwise_append.mp j.b;refine⟨j.o.app a1 λx hx y hy=>j.ob x hx y (List.mem_append_left _ hy),j.a,a2,λx hx y hy=>?_,λx hx y hy=>?_,?_⟩
 ·rcases List.mem_append.mp hx with hx|hx
  ·exact j.oa x hx y hy
  ·exact h x hx y hy
 ·rcases List.mem_append.mp hx with hx|hx
  ·exact j.ob x hx y (List.mem_append_right _ hy)
  ·exact a3 x hx y hy
 ·refine List.Perm.trans ?_ j.p
  rw[List.append_assoc];refine List.Perm.append_left O ?_;rw[<- List.append_assoc,<- List.append_assoc];exact List.Perm.append_right B List.perm_append_comm
theorem J.doneB (j:J ρ L O A []):Good ρ L (O++A):=⟨j.o.app j.a j.oa,by simpa using j.p⟩
theorem J.doneA (j:J ρ L O [] B):Good ρ L (O++B):=⟨j.o.app j.b j.ob,by simpa using j.p⟩
theorem J.last (j:J ρ L O [z] B)(h:∀ y∈B,ρ y<=ρ z):Good ρ L (O++B++[z]):=by
 refine⟨(j.o.app j.b j.ob).app (List.pairwise_singleton ..) λx hx y hy=>?_,?_⟩
 ·rw[List.mem_singleton.mp hy]
  rcases List.mem_append.mp hx with hx|hx
  ·exact j.oa x hx z (List.mem_singleton.mpr rfl)
  ·exact h x hx
 ·refine List.Perm.trans ?_ j.p
  rw[List.append_assoc];exact List.Perm.append_left O List.perm_append_comm
end
theorem ge {a:Array Keyed}{i:Nat}{x:Keyed}(h:a[i]?=some x):a.toList.drop i=x::a.toList.drop (i+1):=by
 have hi:i < a.toList.length:=by
  have:=(Array.getElem?_eq_some_iff.mp h).1;simpa using this
 rw[List.drop_eq_getElem_cons hi];have:a.toList[i]=x:=by
  have:=(Array.getElem?_eq_some_iff.mp h).2;simpa using this
 rw[this]
theorem iE (a:Array Keyed)(i:Nat):(a.extract i a.size).toList=a.toList.drop i:=by
 rw[Array.toList_extract];show (a.toList.drop i).take (a.size - i)=_;exact List.take_of_length_le (by rw[List.length_drop];exact Nat.le_refl _)
theorem jp (a:Array Keyed)(i k:Nat):(a.extract i (i+k)).toList=(a.toList.drop i).take k:=by
 rw[Array.toList_extract];show (a.toList.drop i).take (i+k - i)=_;rw[Nat.add_sub_cancel_left]
theorem oH (a:Array Keyed)(i k:Nat):a.toList.drop i=(a.toList.drop i).take k++a.toList.drop (i+k):=by
 rw[<- List.drop_drop,List.take_append_drop]
theorem jX {a:Array Keyed}{i:Nat}(h:i=a.size):a.toList.drop i=[]:=by
 subst h;exact List.drop_length
theorem ja {a:Array Keyed}{i k:Nat}{x:Keyed}(h:x∈(a.toList.drop i).take k):∃ m,m < k/\i+m < a.size/\a[i+m]?=some x:=by
 obtain⟨m,hm,e⟩:=List.mem_iff_getElem.mp h;rw[List.length_take,List.length_drop] at hm;rw[List.getElem_take,List.getElem_drop] at e;have hs:i+m < a.size:=by have:a.toList.length=a.size:=rfl;omega
 exact⟨m,by omega,hs,by rw[Array.getElem?_eq_getElem hs];exact congrArg some (by simpa using e)⟩
theorem vf {a:Array Keyed}{i:Nat}{x:Keyed}(h:x∈a.toList.drop i):∃ m,i<=m/\m < a.size/\a[m]?=some x:=by
 obtain⟨m,hm,e⟩:=List.mem_iff_getElem.mp h;rw[List.length_drop] at hm;rw[List.getElem_drop] at e;have hs:i+m < a.size:=by have:a.toList.length=a.size:=rfl;omega
 exact⟨i+m,by omega,hs,by rw[Array.getElem?_eq_getElem hs];exact congrArg some (by simpa using e)⟩
theorem So.seg {ρ:Keyed->Nat}{a:Array Keyed}(h:So ρ a.toList):Seg ρ a 0 a.size:=λi j _ hij hj=>by
 by_cases e:i=j
 ·subst e;exact Nat.le_refl _
 ·have hi:i < a.size:=by omega
  rw[R_at (Array.getElem?_eq_getElem hi),R_at (Array.getElem?_eq_getElem hj)];have:=List.pairwise_iff_getElem.mp h i j (by simpa using hi) (by simpa using hj) (by omega)
  simpa using this
structure Kp (st st':SortSt):Prop where
 a:arrOf st'=arrOf st
 k:kindOf st'=kindOf st
 p:pendingOf st'=pendingOf st
 f:failedOf st'=failedOf st
theorem Kp.refl {st:SortSt}:Kp st st:=⟨rfl,rfl,rfl,rfl⟩
theorem Kp.min {st st':SortSt}(h:Kp st st')(g:Nat):Kp st (SortSt.mk' (kindOf st') (arrOf st') (pendingOf st') g (failedOf st')):=⟨h.a,h.k,h.p,h.f⟩
section
variable {M:Model}{A:Around}{E:Value->Shared->Prop}{s:Shared}{ρ:Keyed->Nat}{kd:SortKind}{P:Keyed->Prop}
theorem cA {a:Array Keyed}(pa:∀ x∈a.toList,P x){i:Nat}(h:i < a.size):∃ x,a[i]?=some x/\P x :=
 ⟨a[i],Array.getElem?_eq_getElem h,pa _ (by simp)⟩
theorem vg {key:Keyed}{arr:Array Keyed}{base:Nat}{st:SortSt}{Q:Option Nat->SortSt->Prop}(hL:eI M A E s ρ kd P)(hk:kindOf st=kd)(pk:P key)(pa:∀ x∈arr.toList,P x)(hs:So ρ arr.toList)(hb:base < arr.size)
  (q:∀ k,base+k<=arr.size->(∀ x∈(arr.toList.drop base).take k,ρ x<=ρ key)->(∀ x∈arr.toList.drop (base+k),ρ key < ρ x)->Q (some k) st):wpS M A E s (bU false key arr base (arr.size - base) 0) Q st:=by
 refine cE (li hL hk pk λi hi=>cA pa (by omega)) (λi j hij hj h=>?_) (by omega) λk hk1 h1 h2=>q k (by omega) (λx hx=>?_) λx hx=>?_
 ·have:=hs.seg (base+i) (base+j) (Nat.zero_le _) (by omega) (by omega)
  simp only[lh,Bool.false_eq_true,if_false,Bool.not_eq_true',decide_eq_false_iff_not] at h ⊢;omega
 ·obtain⟨m,hm,hm2,e⟩:=ja hx
  have:=h1 m hm;simp only[lh,Bool.false_eq_true,if_false,Bool.not_eq_true',decide_eq_false_iff_not,R_at e] at this;omega
 ·obtain⟨m,hm,hm2,e⟩:=vf hx
  have:=h2 (m - base) (by omega) (by omega)
  rw[show base+k=base+k from rfl] at hm
  simp only[lh,Bool.false_eq_true,if_false,show base+(m - base)=m by omega,R_at e,Bool.not_eq_false',decide_eq_true_eq] at this
  exact this
theorem vh {key:Keyed}{arr:Array Keyed}{base:Nat}{st:SortSt}{Q:Option Nat->SortSt->Prop}(hL:eI M A E s ρ kd P)(hk:kindOf st=kd)(pk:P key)(pa:∀ x∈arr.toList,P x)(hs:So ρ arr.toList)(hb:base < arr.size)
  (q:∀ k,base+k<=arr.size->(∀ x∈(arr.toList.drop base).take k,ρ x < ρ key)->(∀ x∈arr.toList.drop (base+k),ρ key<=ρ x)->Q (some k) st):wpS M A E s (bU true key arr base (arr.size - base) 0) Q st:=by
 refine cE (li hL hk pk λi hi=>cA pa (by omega)) (λi j hij hj h=>?_) (by omega) λk hk1 h1 h2=>q k (by omega) (λx hx=>?_) λx hx=>?_
 ·have:=hs.seg (base+i) (base+j) (Nat.zero_le _) (by omega) (by omega)
  simp only[lh,if_true,decide_eq_true_eq] at h ⊢;omega
 ·obtain⟨m,hm,hm2,e⟩:=ja hx
  have:=h1 m hm;simp only[lh,if_true,decide_eq_true_eq,R_at e] at this;omega
 ·obtain⟨m,hm,hm2,e⟩:=vf hx
  have:=h2 (m - base) (by omega) (by omega)
  simp only[lh,if_true,show base+(m - base)=m by omega,R_at e,decide_eq_false_iff_not] at this
  omega
end
end Vs

namespace Vs
open PySem PyProof.Rows
section
variable {M:Model}{Ar:Around}{E:Value->Shared->Prop}{s:Shared}{ρ:Keyed->Nat}{kd:SortKind}{P:Keyed->Prop}{a b out:Array Keyed}{L:List Keyed}{ia ib:Nat}
abbrev GS:=Option (Array Keyed)×Array Keyed×Nat×Nat×Nat×Nat×Nat
def Bs (a b out:Array Keyed)(ia ib g k k1:Nat):StateT SortSt Sem (ForInStep GS):=do
 let y <- elem' a ia
 if (ia+1+1==a.size)=true then pure (ForInStep.done (some (out.push y++b.extract ib b.size++a.extract (ia+1) a.size),out.push y,ia+1,ib,g,k,k1))
 else if (decide (k < 7)&&decide (k1 < 7))=true then pure (ForInStep.done (none,out.push y,ia+1,ib,g,k,k1))
 else pure (ForInStep.yield (none,out.push y,ia+1,ib,g,k,k1))
def Bt (a b out:Array Keyed)(ia ib g k bc:Nat):StateT SortSt Sem (ForInStep GS):=do
 let x <- elem' b ib
 if (ib+1==b.size)=true then pure (ForInStep.done (some (out.push x++a.extract ia a.size++b.extract (ib+1) b.size),out.push x,ia,ib+1,g,k,bc))
 else do
  let y <- elem' a ia
  let r <- bU true y b (ib+1) (b.size - (ib+1)) 0
  match r with
  | some k1 =>
   if k1 > 0 then
    if (ib+1+k1==b.size)=true then pure (ForInStep.done (some (out.push x++b.extract (ib+1) (ib+1+k1)++a.extract ia a.size++b.extract (ib+1+k1) b.size),out.push x++b.extract (ib+1) (ib+1+k1),ia,ib+1+k1,g,k,k1))
    else Bs a b (out.push x++b.extract (ib+1) (ib+1+k1)) ia (ib+1+k1) g k k1
   else Bs a b (out.push x) ia (ib+1) g k k1
  | _=>pure (ForInStep.done (some (out.push x++a.extract ia a.size++b.extract (ib+1) b.size),out.push x,ia,ib+1,g,k,bc))
def Bu (a b out:Array Keyed)(ia ib g ac bc:Nat):StateT SortSt Sem (ForInStep GS):=do
 let x <- elem' b ib
 let r <- bU false x a ia (a.size - ia) 0
 match r with
 | some k =>
  if k > 0 then
   if (ia+k+1==a.size)=true then pure (ForInStep.done (some (out++a.extract ia (ia+k)++b.extract ib b.size++a.extract (ia+k) a.size),out++a.extract ia (ia+k),ia+k,ib,g,k,bc))
   else if (ia+k==a.size)=true then pure (ForInStep.done (some (out++a.extract ia (ia+k)++a.extract (ia+k) a.size++b.extract ib b.size),out++a.extract ia (ia+k),ia+k,ib,g,k,bc))
   else Bt a b (out++a.extract ia (ia+k)) (ia+k) ib g k bc
  else Bt a b out ia ib g k bc
 | _=>pure (ForInStep.done (some (out++a.extract ia a.size++b.extract ib b.size),out,ia,ib,g,ac,bc))
def V (ρ:Keyed->Nat)(L:List Keyed)(a b out:Array Keyed)(ia ib:Nat):Prop:=J ρ L out.toList (a.toList.drop ia) (b.toList.drop ib)
theorem V.lastA (j:V ρ L a b out ia ib)(e:ia+1=a.size)(hz:∀ y∈b.toList,∀ z,a[a.size - 1]?=some z->ρ y<=ρ z):Good ρ L (out++b.extract ib b.size++a.extract ia a.size).toList:=by
 have ha:ia < a.size:=by omega
 have e1:a.toList.drop ia=[a[ia]]:=by rw[ge (Array.getElem?_eq_getElem ha),jX e]
 have j':J ρ L out.toList (a.toList.drop ia) (b.toList.drop ib):=j;rw[e1] at j';rw[Array.toList_append,Array.toList_append,iE,iE,e1];refine j'.last λy hy=>hz y (List.mem_of_mem_drop hy) _ ?_;rw[show a.size - 1=ia by omega];exact Array.getElem?_eq_getElem ha
theorem V.doneB (j:V ρ L a b out ia ib)(e:ib=b.size):Good ρ L (out++a.extract ia a.size++b.extract ib b.size).toList:=by
 have j':J ρ L out.toList (a.toList.drop ia) (b.toList.drop ib):=j;rw[jX e] at j';rw[Array.toList_append,Array.toList_append,iE,iE,jX e,List.append_nil];exact j'.doneB
theorem V.doneA (j:V ρ L a b out ia ib)(e:ia=a.size):Good ρ L (out++a.extract ia a.size++b.extract ib b.size).toList:=by
 have j':J ρ L out.toList (a.toList.drop ia) (b.toList.drop ib):=j;rw[jX e] at j';rw[Array.toList_append,Array.toList_append,iE,iE,jX e,List.append_nil];exact j'.doneA
theorem V.pushA {x:Keyed}(j:V ρ L a b out ia ib)(e:a[ia]?=some x)(h:∀ y∈b.toList.drop ib,ρ x<=ρ y):V ρ L a b (out.push x) (ia+1) ib:=by
 have j':J ρ L out.toList (a.toList.drop ia) (b.toList.drop ib):=j;rw[ge e] at j';show J ρ L (out.push x).toList _ _;rw[Array.toList_push];exact J.manyA (X:=[x]) j' λz hz y hy=>by rw[List.mem_singleton.mp hz];exact h y hy
theorem V.pushB {x:Keyed}(j:V ρ L a b out ia ib)(e:b[ib]?=some x)(h:∀ y∈a.toList.drop ia,ρ x<=ρ y):V ρ L a b (out.push x) ia (ib+1):=by
 have j':J ρ L out.toList (a.toList.drop ia) (b.toList.drop ib):=j;rw[ge e] at j';show J ρ L (out.push x).toList _ _;rw[Array.toList_push];exact J.manyB (X:=[x]) j' λz hz y hy=>by rw[List.mem_singleton.mp hz];exact h y hy
theorem V.manyA {k:Nat}(j:V ρ L a b out ia ib)(h:∀ x∈(a.toList.drop ia).take k,∀ y∈b.toList.drop ib,ρ x<=ρ y):V ρ L a b (out++a.extract ia (ia+k)) (ia+k) ib:=by
 have j':J ρ L out.toList (a.toList.drop ia) (b.toList.drop ib):=j;rw[oH a ia k] at j';show J ρ L (out++a.extract ia (ia+k)).toList _ _;rw[Array.toList_append,jp];exact J.manyA j' h
theorem V.manyB {k:Nat}(j:V ρ L a b out ia ib)(h:∀ x∈(b.toList.drop ib).take k,∀ y∈a.toList.drop ia,ρ x<=ρ y):V ρ L a b (out++b.extract ib (ib+k)) ia (ib+k):=by
 have j':J ρ L out.toList (a.toList.drop ia) (b.toList.drop ib):=j;rw[oH b ib k] at j';show J ρ L (out++b.extract ib (ib+k)).toList _ _;rw[Array.toList_append,jp];exact J.manyB j' h
theorem V.headA {x:Keyed}(j:V ρ L a b out ia ib)(e:a[ia]?=some x):∀ y∈a.toList.drop ia,ρ x<=ρ y:=λy hy=>by
 have:=j.a;rw[ge e] at this hy;rcases List.mem_cons.mp hy with rfl|hy
 ·exact Nat.le_refl _
 ·exact (List.pairwise_cons.mp this).1 y hy
theorem V.headB {x:Keyed}(j:V ρ L a b out ia ib)(e:b[ib]?=some x):∀ y∈b.toList.drop ib,ρ x<=ρ y:=λy hy=>by
 have:=j.b;rw[ge e] at this hy;rcases List.mem_cons.mp hy with rfl|hy
 ·exact Nat.le_refl _
 ·exact (List.pairwise_cons.mp this).1 y hy
def fE (ρ:Keyed->Nat)(L:List Keyed)(a b:Array Keyed)(t:Nat)(out:Array Keyed)(ia ib:Nat):Prop:=V ρ L a b out ia ib/\ia+1 < a.size/\ib < b.size/\t<=ia+ib
def PG (ρ:Keyed->Nat)(L:List Keyed)(a b:Array Keyed)(t:Nat)(st0:SortSt)(r:ForInStep GS)(st:SortSt):Prop:=Kp st0 st/\match r with
 | .done c=>(∃ arr,c.1=some arr/\Good ρ L arr.toList)\/(c.1=none/\fE ρ L a b t c.2.1 c.2.2.1 c.2.2.2.1)
 | .yield c=>c.1=none/\fE ρ L a b t c.2.1 c.2.2.1 c.2.2.2.1
structure Two (ρ:Keyed->Nat)(P:Keyed->Prop)(a b:Array Keyed):Prop where
 pa:∀ x∈a.toList,P x
 pb:∀ x∈b.toList,P x
 sa:So ρ a.toList
 sb:So ρ b.toList
 a1:1<=a.size
 b1:1<=b.size
 z:∀ y∈b.toList,∀ z,a[a.size - 1]?=some z->ρ y<=ρ z
 y:∀ y∈a.toList,∀ z,b[0]?=some z->ρ z<=ρ y
theorem oI {st st0:SortSt}{g k k1 t:Nat}(T:Two ρ P a b)(hK:Kp st0 st)(j:V ρ L a b out ia ib)(h1:ia+1 < a.size)(h2:ib < b.size)(ht:t<=ia+ib)
  (h:∀ x,a[ia]?=some x->∀ y∈b.toList.drop ib,ρ x<=ρ y):wpS M Ar E s (Bs a b out ia ib g k k1) (PG ρ L a b t st0) st:=by
 unfold Bs;obtain⟨y,ey,py⟩:=cA T.pa (show ia < a.size by omega)
 refine wpS_bind (aS ey ?_);have j':=j.pushA ey (h y ey)
 by_cases e:ia+1+1=a.size
 ·rw[if_pos (by simpa using e)]
  exact wpS_pure ⟨hK,.inl ⟨_,rfl,j'.lastA e T.z⟩⟩
 ·rw[if_neg (by simpa using e)]
  split
  ·exact wpS_pure ⟨hK,.inr ⟨rfl,j',by show ia+1+1 < a.size;omega,h2,by show t<=ia+1+ib;omega⟩⟩
  ·exact wpS_pure ⟨hK,rfl,j',by show ia+1+1 < a.size;omega,h2,by show t<=ia+1+ib;omega⟩
theorem oJ {st st0:SortSt}{g k bc t:Nat}(hL:eI M Ar E s ρ kd P)(hk:kindOf st0=kd)(T:Two ρ P a b)(hK:Kp st0 st)(j:V ρ L a b out ia ib)(h1:ia+1 < a.size)(h2:ib < b.size)(ht:t<=ia+ib)
  (h:∀ x,b[ib]?=some x->∀ y∈a.toList.drop ia,ρ x<=ρ y):wpS M Ar E s (Bt a b out ia ib g k bc) (PG ρ L a b t st0) st:=by
 unfold Bt;obtain⟨x,ex,px⟩:=cA T.pb h2;obtain⟨y,ey,py⟩:=cA T.pa (show ia < a.size by omega)
 refine wpS_bind (aS ex ?_);have j':=j.pushB ex (h x ex)
 by_cases e:ib+1=b.size
 ·rw[if_pos (by simpa using e)]
  exact wpS_pure ⟨hK,.inl ⟨_,rfl,j'.doneB e⟩⟩
 ·rw[if_neg (by simpa using e)]
  refine wpS_bind (aS ey ?_);refine wpS_bind (vh hL (hK.k.trans hk) py T.pb T.sb (by omega) λk1 hk1 q1 q2=>?_)
  dsimp only;have j2:=j'.manyB (k:=k1) λx hx z hz=>Nat.le_trans (Nat.le_of_lt (q1 x hx)) (j'.headA ey z hz)
  by_cases hk0:k1 > 0
  ·rw[if_pos hk0]
   by_cases e2:ib+1+k1=b.size
   ·rw[if_pos (by simpa using e2)]
    exact wpS_pure ⟨hK,.inl ⟨_,rfl,j2.doneB e2⟩⟩
   ·rw[if_neg (by simpa using e2)]
    exact oI T hK j2 h1 (by omega) (by omega) λx' ex' z hz=>by rw[ey] at ex';cases ex';exact q2 z hz
  ·rw[if_neg hk0]
   have:k1=0:=by omega
   subst this;exact oI T hK j' h1 (by omega) (by omega) λx' ex' z hz=>by rw[ey] at ex';cases ex';exact q2 z hz
theorem oK {st st0:SortSt}{g ac bc t:Nat}(hL:eI M Ar E s ρ kd P)(hk:kindOf st0=kd)(T:Two ρ P a b)(hK:Kp st0 st)(j:fE ρ L a b t out ia ib):wpS M Ar E s (Bu a b out ia ib g ac bc) (PG ρ L a b t st0) st:=by
 obtain⟨j,h1,h2,ht⟩:=j;unfold Bu;obtain⟨x,ex,px⟩:=cA T.pb h2;refine wpS_bind (aS ex ?_);refine wpS_bind (vg hL (hK.k.trans hk) px T.pa T.sa (by omega) λk hk1 q1 q2=>?_)
 dsimp only;have j2:=j.manyA (k:=k) λz hz y hy=>Nat.le_trans (q1 z hz) (j.headB ex y hy)
 by_cases hk0:k > 0
 ·rw[if_pos hk0]
  by_cases e:ia+k+1=a.size
  ·rw[if_pos (by simpa using e)]
   exact wpS_pure ⟨hK,.inl ⟨_,rfl,j2.lastA e T.z⟩⟩
  ·rw[if_neg (by simpa using e)]
   by_cases e2:ia+k=a.size
   ·rw[if_pos (by simpa using e2)]
    exact wpS_pure ⟨hK,.inl ⟨_,rfl,j2.doneA e2⟩⟩
   ·rw[if_neg (by simpa using e2)]
    exact oJ hL hk T hK j2 (by omega) h2 (by omega) λx' ex' z hz=>by rw[ex] at ex';cases ex';exact Nat.le_of_lt (q2 z hz)
 ·rw[if_neg hk0]
  have:k=0:=by omega
  subst this;exact oJ hL hk T hK j h1 h2 ht λx' ex' z hz=>by rw[ex] at ex';cases ex';exact Nat.le_of_lt (q2 z hz)
abbrev IS:=Option (Array Keyed)×Array Keyed×Nat×Nat×Nat×Nat
abbrev OS:=Option (Array Keyed)×Array Keyed×Nat×Nat×Nat
def Qh (a b:Array Keyed)(g:Nat)(c:IS):StateT SortSt Sem (ForInStep IS):=do
 let x <- elem' b c.2.2.2.1
 let y <- elem' a c.2.2.1
 let r <- lt' x y
 match r with
 | some w =>
  if w=true then do
   let x <- elem' b c.2.2.2.1
   if (c.2.2.2.1+1==b.size)=true then pure (ForInStep.done (some (c.2.1.push x++a.extract c.2.2.1 a.size++b.extract (c.2.2.2.1+1) b.size),c.2.1.push x,c.2.2.1,c.2.2.2.1+1,0,c.2.2.2.2.2+1))
   else if c.2.2.2.2.2+1>=g then pure (ForInStep.done (none,c.2.1.push x,c.2.2.1,c.2.2.2.1+1,0,c.2.2.2.2.2+1))
   else pure (ForInStep.yield (none,c.2.1.push x,c.2.2.1,c.2.2.2.1+1,0,c.2.2.2.2.2+1))
  else do
   let y <- elem' a c.2.2.1
   if (c.2.2.1+1+1==a.size)=true then pure (ForInStep.done (some (c.2.1.push y++b.extract c.2.2.2.1 b.size++a.extract (c.2.2.1+1) a.size),c.2.1.push y,c.2.2.1+1,c.2.2.2.1,c.2.2.2.2.1+1,0))
   else if c.2.2.2.2.1+1>=g then pure (ForInStep.done (none,c.2.1.push y,c.2.2.1+1,c.2.2.2.1,c.2.2.2.2.1+1,0))
   else pure (ForInStep.yield (none,c.2.1.push y,c.2.2.1+1,c.2.2.2.1,c.2.2.2.2.1+1,0))
 | _=>pure (ForInStep.done (some (c.2.1++a.extract c.2.2.1 a.size++b.extract c.2.2.2.1 b.size),c.2.1,c.2.2.1,c.2.2.2.1,c.2.2.2.2.1,c.2.2.2.2.2))
def Qi (a b:Array Keyed)(c:GS):StateT SortSt Sem (ForInStep GS) :=
 if c.2.2.2.2.1 > 1 then do
  dr (c.2.2.2.2.1 - 1)
  Bu a b c.2.1 c.2.2.1 c.2.2.2.1 (c.2.2.2.2.1 - 1) c.2.2.2.2.2.1 c.2.2.2.2.2.2
 else do
  dr c.2.2.2.2.1
  Bu a b c.2.1 c.2.2.1 c.2.2.2.1 c.2.2.2.2.1 c.2.2.2.2.2.1 c.2.2.2.2.2.2
def Rc (r:GS):StateT SortSt Sem (ForInStep OS) :=
 match r.1 with
 | some arr=>pure (ForInStep.done (some arr,r.2.1,r.2.2.1,r.2.2.2.1,r.2.2.2.2.1))
 | none=>do
  dr (r.2.2.2.2.1+1)
  pure (ForInStep.yield (none,r.2.1,r.2.2.1,r.2.2.2.1,r.2.2.2.2.1+1))
def Qj (a b:Array Keyed)(g:Nat)(r:IS):StateT SortSt Sem (ForInStep OS) :=
 match r.1 with
 | some arr=>pure (ForInStep.done (some arr,r.2.1,r.2.2.1,r.2.2.2.1,g))
 | none=>do
  liftM (rule "list.sort.gallop")
  let r2 <- forIn [0:a.size+b.size] ((none,r.2.1,r.2.2.1,r.2.2.2.1,g+1,r.2.2.2.2.1,r.2.2.2.2.2):GS) λ_ t=>Qi a b t
  Rc r2
def Qk (a b:Array Keyed)(c:OS):StateT SortSt Sem (ForInStep OS):=do
 let r <- forIn [0:a.size+b.size] ((none,c.2.1,c.2.2.1,c.2.2.2.1,0,0):IS) λ_ r=>Qh a b c.2.2.2.2 r
 Qj a b c.2.2.2.2 r
def Rw (r:OS):StateT SortSt Sem (Array Keyed) :=
 match r.1 with
 | some arr=>pure arr
 | none=>unsupported "internal:list.sort.merge-bound"
theorem mo (a b:Array Keyed):jV a b=(do
 liftM (rule "list.sort.merge-lo")
 let x <- elem' b 0
 if (1==b.size)=true then pure (#[x]++a.extract 0 a.size++b.extract 1 b.size)
 else if (0+1==a.size)=true then pure (#[x]++b.extract 1 b.size++a.extract 0 a.size)
 else do
  let st <- get
  let r <- forIn [0:a.size+b.size] ((none,#[x],0,1,gallopOf st):OS) λ_ r=>Qk a b r
  Rw r):=by kernel_rfl
theorem Bv {st0 st:SortSt}{g n m:Nat}{c:IS}(hL:eI M Ar E s ρ kd P)(hk:kindOf st0=kd)(T:Two ρ P a b)(hK:Kp st0 st)(j:fE ρ L a b (n+1+min m 1) c.2.1 c.2.2.1 c.2.2.2.1) :
  wpS M Ar E s (Qh a b g c) (λr st'=>Kp st0 st'/\match r with
   | .done c=>(∃ arr,c.1=some arr/\Good ρ L arr.toList)\/(c.1=none/\fE ρ L a b (n+1+1) c.2.1 c.2.2.1 c.2.2.2.1)
   | .yield c=>c.1=none/\fE ρ L a b (n+1+min (m+1) 1) c.2.1 c.2.2.1 c.2.2.2.1) st:=by
 obtain⟨ret,out,ia,ib,ac,bc⟩:=c;obtain⟨j,l1,l2,l3⟩:=j;dsimp only at j l1 l2 l3;unfold Qh;dsimp only;obtain⟨x,ex,px⟩:=cA T.pb l2;obtain⟨y,ey,py⟩:=cA T.pa (show ia < a.size by omega)
 refine wpS_bind (aS ex (wpS_bind (aS ey (wpS_bind (hL x y st _ px py (hK.k.trans hk) ?_)))))
 by_cases hlt:ρ x < ρ y
 ·rw[decide_eq_true hlt]
  refine wpS_bind (aS ex ?_);have j':=j.pushB ex λz hz=>Nat.le_trans (Nat.le_of_lt hlt) (j.headA ey z hz)
  by_cases e:ib+1=b.size
  ·rw[if_pos (by simpa using e)]
   exact wpS_pure ⟨hK,.inl ⟨_,rfl,j'.doneB e⟩⟩
  ·rw[if_neg (by simpa using e)]
   split
   ·exact wpS_pure ⟨hK,.inr ⟨rfl,j',by show ia+1 < a.size;omega,by show ib+1 < b.size;omega,by show n+1+1<=ia+(ib+1);omega⟩⟩
   ·exact wpS_pure ⟨hK,rfl,j',by show ia+1 < a.size;omega,by show ib+1 < b.size;omega,by show n+1+min (m+1) 1<=ia+(ib+1);omega⟩
 ·rw[decide_eq_false hlt]
  refine wpS_bind (aS ey ?_);have j':=j.pushA ey λz hz=>Nat.le_trans (Nat.not_lt.mp hlt) (j.headB ex z hz)
  by_cases e:ia+1+1=a.size
  ·rw[if_pos (by simpa using e)]
   exact wpS_pure ⟨hK,.inl ⟨_,rfl,j'.lastA e T.z⟩⟩
  ·rw[if_neg (by simpa using e)]
   split
   ·exact wpS_pure ⟨hK,.inr ⟨rfl,j',by show ia+1+1 < a.size;omega,by show ib < b.size;omega,by show n+1+1<=ia+1+ib;omega⟩⟩
   ·exact wpS_pure ⟨hK,rfl,j',by show ia+1+1 < a.size;omega,by show ib < b.size;omega,by show n+1+min (m+1) 1<=ia+1+ib;omega⟩
theorem Bw {st0 st:SortSt}{t:Nat}{c:GS}(hL:eI M Ar E s ρ kd P)(hk:kindOf st0=kd)(T:Two ρ P a b)(hK:Kp st0 st)(j:fE ρ L a b t c.2.1 c.2.2.1 c.2.2.2.1):wpS M Ar E s (Qi a b c) (PG ρ L a b t st0) st:=by
 unfold Qi
 split
 ·rw[dc]
  exact wpS_bind (wpS_modify (oK hL hk T (hK.min _) j))
 ·rw[dc]
  exact wpS_bind (wpS_modify (oK hL hk T (hK.min _) j))
def PO (ρ:Keyed->Nat)(L:List Keyed)(a b:Array Keyed)(t:Nat)(st0:SortSt)(r:ForInStep OS)(st:SortSt):Prop:=match r with
 | .done c=>Kp st0 st/\∃ arr,c.1=some arr/\Good ρ L arr.toList
 | .yield c=>Kp st0 st/\c.1=none/\fE ρ L a b t c.2.1 c.2.2.1 c.2.2.2.1
theorem Bx {st0 st:SortSt}{g n:Nat}{r:IS}(hL:eI M Ar E s ρ kd P)(hk:kindOf st0=kd)(T:Two ρ P a b)(hK:Kp st0 st)
  (h:(∃ arr,r.1=some arr/\Good ρ L arr.toList)\/(r.1=none/\fE ρ L a b (n+1+1) r.2.1 r.2.2.1 r.2.2.2.1)):wpS M Ar E s (Qj a b g r) (PO ρ L a b (n+1+1) st0) st:=by
 obtain⟨ret,r⟩:=r;unfold Qj;rcases h with ⟨arr,h1,h2⟩|⟨h1,hl⟩
 ·dsimp only at h1
  subst h1;exact wpS_pure ⟨hK,arr,rfl,h2⟩
 ·dsimp only at h1 hl
  subst h1;refine wpS_bind (wpS_lift (wpAny_rule ⟨rfl,?_⟩));refine wpS_bind (wpS_mono (wpS_forRange (I:=λx c st'=>Kp st0 st'/\c.1=none/\fE ρ L a b (n+1+1) c.2.1 c.2.2.1 c.2.2.2.1)
   (Q:=λc st'=>Kp st0 st'/\((∃ arr,c.1=some arr/\Good ρ L arr.toList)\/(c.1=none/\fE ρ L a b (n+1+1) c.2.1 c.2.2.1 c.2.2.2.1))) ?gstep ?gfin ⟨hK,rfl,hl⟩) ?gpost)
  case gfin =>
   rintro c st' ⟨hK,h1,hl⟩;exact⟨hK,.inr ⟨h1,hl⟩⟩
  case gstep =>
   rintro m c st' _ hm ⟨hK,h1,hl⟩;refine wpS_mono (Bw hL hk T hK hl) λr st'' hr=>?_;obtain⟨k1,k2⟩:=hr;cases r with
   | done c=>exact⟨k1,k2⟩
   | yield c=>exact⟨k1,k2⟩
  case gpost =>
   rintro ⟨ret,r⟩ st' ⟨hK,⟨arr,h1,h2⟩|⟨h1,hl⟩⟩
   ·dsimp only at h1
    subst h1;exact wpS_pure ⟨hK,arr,rfl,h2⟩
   ·dsimp only at h1 hl
    subst h1;unfold Rc;rw[dc];exact wpS_bind (wpS_modify (wpS_pure ⟨hK.min _,rfl,hl⟩))
theorem Bz {st0 st:SortSt}{n:Nat}{c:OS}(hL:eI M Ar E s ρ kd P)(hk:kindOf st0=kd)(T:Two ρ P a b)(hn:0 < a.size+b.size)(hK:Kp st0 st)(hl:fE ρ L a b (n+1) c.2.1 c.2.2.1 c.2.2.2.1):wpS M Ar E s (Qk a b c) (PO ρ L a b (n+1+1) st0) st:=by
 unfold Qk;refine wpS_bind (wpS_mono (wpS_forRange (I:=λx c st'=>Kp st0 st'/\c.1=none/\fE ρ L a b (n+1+min x 1) c.2.1 c.2.2.1 c.2.2.2.1)
  (Q:=λc st'=>Kp st0 st'/\((∃ arr,c.1=some arr/\Good ρ L arr.toList)\/(c.1=none/\fE ρ L a b (n+1+1) c.2.1 c.2.2.1 c.2.2.2.1))) ?istep ?ifin ⟨hK,rfl,by simpa using hl⟩) ?ipost)
 case ifin =>
  rintro c st' ⟨hK,h1,hl⟩;rw[show min (max 0 (a.size+b.size)) 1=1 by omega] at hl
  exact⟨hK,.inr ⟨h1,hl⟩⟩
 case istep =>
  rintro m c st' _ hm ⟨hK,h1,hl⟩;refine wpS_mono (Bv hL hk T hK hl) λr st'' hr=>?_;obtain⟨k1,k2⟩:=hr;cases r with
  | done c=>exact⟨k1,k2⟩
  | yield c=>exact⟨k1,k2⟩
 case ipost =>
  rintro r st' ⟨hK,h⟩;exact Bx hL hk T hK h
theorem oM {st:SortSt}{Q:Array Keyed->SortSt->Prop}(hL:eI M Ar E s ρ kd P)(hk:kindOf st=kd)(T:Two ρ P a b)
  (q:∀ r st',Kp st st'->Good ρ (a.toList++b.toList) r.toList->Q r st'):wpS M Ar E s (jV a b) Q st:=by
 rw[mo];refine wpS_bind (wpS_lift (wpAny_rule ⟨rfl,?_⟩));obtain⟨x,ex,px⟩:=cA T.pb (show 0 < b.size from T.b1)
 refine wpS_bind (aS ex ?_);have j0:V ρ (a.toList++b.toList) a b #[] 0 0:=⟨List.Pairwise.nil,by simpa using T.sa,by simpa using T.sb,(λx hx=>by cases hx),(λx hx=>by cases hx),by simp⟩
 have j1:V ρ (a.toList++b.toList) a b #[x] 0 1:=by simpa using j0.pushB ex λy hy=>T.y y (by simpa using hy) x ex
 by_cases e:1=b.size
 ·rw[if_pos (by simpa using e)]
  exact wpS_pure (q _ st .refl (j1.doneB e))
 ·rw[if_neg (by simpa using e)]
  by_cases e2:0+1=a.size
  ·rw[if_pos (by simpa using e2)]
   exact wpS_pure (q _ st .refl (j1.lastA e2 T.z))
  ·rw[if_neg (by simpa using e2)]
   have b1:=T.b1;have a1:=T.a1;refine wpS_bind (wpS_get ?_);refine wpS_bind (wpS_mono (wpS_forRange (I:=λx c st'=>Kp st st'/\c.1=none/\fE ρ (a.toList++b.toList) a b (x+1) c.2.1 c.2.2.1 c.2.2.2.1)
    (Q:=λc st'=>Kp st st'/\∃ arr,c.1=some arr/\Good ρ (a.toList++b.toList) arr.toList) ?step ?fin ⟨.refl,rfl,j1,by show 0+1 < a.size;omega,by show 1 < b.size;omega,by show 0+1<=0+1;omega⟩) ?post)
   case fin =>
    rintro ⟨ret,out,ia,ib,g⟩ st' ⟨hK,h1,j,h2,h3,h4⟩;dsimp only at h2 h3 h4;omega
   case post =>
    rintro ⟨ret,r⟩ st' ⟨hK,arr,h1,h2⟩;dsimp only at h1;subst h1;exact wpS_pure (q arr st' hK h2)
   case step =>
    rintro n c st' _ hn ⟨hK,h1,hl⟩;refine wpS_mono (Bz hL hk T (by omega) hK hl) λr st'' hr=>?_
    cases r with
    | done c=>exact hr
    | yield c=>exact hr
end
end Vs

namespace Vs
open PySem PyProof.Rows
structure H (ρ:Keyed->Nat)(L O A B:List Keyed):Prop where
 o:So ρ O
 a:So ρ A
 b:So ρ B
 oa:∀ x∈A,∀ y∈O,ρ x<=ρ y
 ob:∀ x∈B,∀ y∈O,ρ x<=ρ y
 p:(A++(B++O)).Perm L
section
variable {ρ:Keyed->Nat}{L O A B X:List Keyed}{x z:Keyed}
theorem H.manyB (j:H ρ L O A (B++X))(h:∀ x∈X,∀ y∈A,ρ y<=ρ x):H ρ L (X++O) A B:=by
 obtain⟨a1,a2,a3⟩:=List.pairwise_append.mp j.b;refine⟨So.app a2 j.o λx hx y hy=>j.ob x (List.mem_append_right _ hx) y hy,j.a,a1,λx hx y hy=>?_,λx hx y hy=>?_,?_⟩
 ·rcases List.mem_append.mp hy with hy|hy
  ·exact h y hy x hx
  ·exact j.oa x hx y hy
 ·rcases List.mem_append.mp hy with hy|hy
  ·exact a3 x hx y hy
  ·exact j.ob x (List.mem_append_left _ hx) y hy
 ·have:=j.p
  simpa [List.append_assoc] using this
theorem H.manyA (j:H ρ L O (A++X) B)(h:∀ x∈X,∀ y∈B,ρ y<=ρ x):H ρ L (X++O) A B:=by
 obtain⟨a1,a2,a3⟩:=List.pairwise_append.mp j.a;refine⟨So.app a2 j.o λx hx y hy=>j.oa x (List.mem_append_right _ hx) y hy,a1,j.b,λx hx y hy=>?_,λx hx y hy=>?_,?_⟩
 ·rcases List.mem_append.mp hy with hy|hy
  ·exact a3 x hx y hy
  ·exact j.oa x (List.mem_append_left _ hx) y hy
 ·rcases List.mem_append.mp hy with hy|hy
  ·exact h y hy x hx
  ·exact j.ob x hx y hy
 ·refine List.Perm.trans ?_ j.p
  rw[List.append_assoc];refine List.Perm.append_left A ?_;rw[<- List.append_assoc,<- List.append_assoc];exact List.Perm.append_right O List.perm_append_comm
theorem H.doneB (j:H ρ L O A []):Good ρ L (A++O):=⟨So.app j.a j.o j.oa,by simpa using j.p⟩
theorem H.doneA (j:H ρ L O [] B):Good ρ L (B++O):=⟨So.app j.b j.o j.ob,by simpa using j.p⟩
theorem H.first (j:H ρ L O A [z])(h:∀ y∈A,ρ z<=ρ y):Good ρ L ([z]++A++O):=by
 refine⟨So.app (So.app (List.pairwise_singleton ..) j.a λx hx y hy=>by rw[List.mem_singleton.mp hx];exact h y hy) j.o λx hx y hy=>?_,?_⟩
 ·rcases List.mem_append.mp hx with hx|hx
  ·exact j.ob x hx y hy
  ·exact j.oa x hx y hy
 ·refine List.Perm.trans ?_ j.p
  rw[<- List.append_assoc];exact List.Perm.append_right O List.perm_append_comm
end
theorem gh {a:Array Keyed}{n:Nat}{x:Keyed}(h1:1<=n)(h:a[n - 1]?=some x):a.toList.take n=a.toList.take (n - 1)++[x]:=by
 obtain⟨m,rfl⟩:∃ m,n=m+1:=⟨n - 1,by omega⟩
 rw[Nat.add_sub_cancel] at h ⊢;rw[List.take_add_one];have:a.toList[m]?=some x:=by simpa using h
 rw[this];rfl
theorem iG (a:Array Keyed)(n:Nat):(a.extract 0 n).toList=a.toList.take n:=by
 rw[Array.toList_extract];rfl
theorem jq (a:Array Keyed)(i n:Nat):(a.extract i n).toList=(a.toList.take n).drop i:=by
 rw[Array.toList_extract];show (a.toList.drop i).take (n - i)=_;rw[List.drop_take]
theorem oN (a:Array Keyed){i n:Nat}(h:i<=n):a.toList.take n=a.toList.take i++(a.toList.take n).drop i:=by
 have:=(List.take_append_drop i (a.toList.take n)).symm
 rwa [List.take_take,Nat.min_eq_left h] at this
theorem vk {a:Array Keyed}{n:Nat}{x:Keyed}(h:x∈a.toList.take n):∃ m,m < n/\m < a.size/\a[m]?=some x:=by
 obtain⟨m,hm,e⟩:=List.mem_iff_getElem.mp h;rw[List.length_take] at hm;rw[List.getElem_take] at e;have hs:m < a.size:=by have:a.toList.length=a.size:=rfl;omega
 exact⟨m,by omega,hs,by rw[Array.getElem?_eq_getElem hs];exact congrArg some (by simpa using e)⟩
theorem eS {a:Array Keyed}{i n:Nat}{x:Keyed}(h:x∈(a.toList.take n).drop i):∃ m,i<=m/\m < n/\m < a.size/\a[m]?=some x:=by
 obtain⟨m,hm,e⟩:=List.mem_iff_getElem.mp h;rw[List.length_drop,List.length_take] at hm;rw[List.getElem_drop,List.getElem_take] at e;have hs:i+m < a.size:=by have:a.toList.length=a.size:=rfl;omega
 exact⟨i+m,by omega,by omega,hs,by rw[Array.getElem?_eq_getElem hs];exact congrArg some (by simpa using e)⟩
section
variable {M:Model}{Ar:Around}{E:Value->Shared->Prop}{s:Shared}{ρ:Keyed->Nat}{kd:SortKind}{P:Keyed->Prop}{a b out:Array Keyed}{L:List Keyed}{na nb:Nat}
theorem vm {key:Keyed}{arr:Array Keyed}{n:Nat}{st:SortSt}{Q:Option Nat->SortSt->Prop}(hL:eI M Ar E s ρ kd P)(hk:kindOf st=kd)(pk:P key)(pa:∀ x∈arr.toList,P x)(hs:So ρ arr.toList)(hn:n<=arr.size)(h1:1<=n)
  (q:∀ k,k<=n->(∀ x∈arr.toList.take k,ρ x<=ρ key)->(∀ x∈(arr.toList.take n).drop k,ρ key < ρ x)->Q (some k) st):wpS M Ar E s (bU false key arr 0 n (n - 1)) Q st:=by
 refine cE (li hL hk pk λi hi=>cA pa (by omega)) (λi j hij hj h=>?_) (by omega) λk hk1 h1 h2=>q k (by omega) (λx hx=>?_) λx hx=>?_
 ·have:=hs.seg (0+i) (0+j) (Nat.zero_le _) (by omega) (by omega)
  simp only[lh,Bool.false_eq_true,if_false,Bool.not_eq_true',decide_eq_false_iff_not] at h ⊢;omega
 ·obtain⟨m,hm,hm2,e⟩:=vk hx
  have:=h1 m hm;simp only[lh,Bool.false_eq_true,if_false,Bool.not_eq_true',decide_eq_false_iff_not,Nat.zero_add,R_at e] at this;omega
 ·obtain⟨m,hm,hm2,hm3,e⟩:=eS hx
  have:=h2 m hm hm2;simp only[lh,Bool.false_eq_true,if_false,Nat.zero_add,R_at e,Bool.not_eq_false',decide_eq_true_eq] at this;exact this
theorem vn {key:Keyed}{arr:Array Keyed}{n:Nat}{st:SortSt}{Q:Option Nat->SortSt->Prop}(hL:eI M Ar E s ρ kd P)(hk:kindOf st=kd)(pk:P key)(pa:∀ x∈arr.toList,P x)(hs:So ρ arr.toList)(hn:n<=arr.size)(h1:1<=n)
  (q:∀ k,k<=n->(∀ x∈arr.toList.take k,ρ x < ρ key)->(∀ x∈(arr.toList.take n).drop k,ρ key<=ρ x)->Q (some k) st):wpS M Ar E s (bU true key arr 0 n (n - 1)) Q st:=by
 refine cE (li hL hk pk λi hi=>cA pa (by omega)) (λi j hij hj h=>?_) (by omega) λk hk1 h1 h2=>q k (by omega) (λx hx=>?_) λx hx=>?_
 ·have:=hs.seg (0+i) (0+j) (Nat.zero_le _) (by omega) (by omega)
  simp only[lh,if_true,decide_eq_true_eq] at h ⊢;omega
 ·obtain⟨m,hm,hm2,e⟩:=vk hx
  have:=h1 m hm;simp only[lh,if_true,decide_eq_true_eq,Nat.zero_add,R_at e] at this;omega
 ·obtain⟨m,hm,hm2,hm3,e⟩:=eS hx
  have:=h2 m hm hm2;simp only[lh,if_true,Nat.zero_add,R_at e,decide_eq_false_iff_not] at this;omega
abbrev HS:=Option (Array Keyed)×Nat×Nat×Array Keyed×Nat×Nat×Nat
def BA (a b out:Array Keyed)(na nb g k k1:Nat):StateT SortSt Sem (ForInStep HS):=do
 let y <- elem' a (na - 1)
 if (na - 1==0)=true then pure (ForInStep.done (some (a.extract 0 (na - 1)++b.extract 0 nb++(out.push y).reverse),na - 1,nb,out.push y,g,k,k1))
 else if (decide (k < 7)&&decide (k1 < 7))=true then pure (ForInStep.done (none,na - 1,nb,out.push y,g,k,k1))
 else pure (ForInStep.yield (none,na - 1,nb,out.push y,g,k,k1))
def BB (a b out:Array Keyed)(na nb g k bc:Nat):StateT SortSt Sem (ForInStep HS):=do
 let x <- elem' b (nb - 1)
 if (nb - 1==1)=true then pure (ForInStep.done (some (b.extract 0 (nb - 1)++a.extract 0 na++(out.push x).reverse),na,nb - 1,out.push x,g,k,bc))
 else do
  let y <- elem' a (na - 1)
  let r <- bU true y b 0 (nb - 1) (nb - 1 - 1)
  match r with
  | some at2 =>
   if nb - 1 - at2 > 0 then
    if (at2==1)=true then pure (ForInStep.done (some (b.extract 0 at2++a.extract 0 na++(out.push x++(b.extract at2 (nb - 1)).reverse).reverse),na,at2,out.push x++(b.extract at2 (nb - 1)).reverse,g,k,nb - 1 - at2))
    else if (at2==0)=true then pure (ForInStep.done (some (a.extract 0 na++b.extract 0 at2++(out.push x++(b.extract at2 (nb - 1)).reverse).reverse),na,at2,out.push x++(b.extract at2 (nb - 1)).reverse,g,k,nb - 1 - at2))
    else BA a b (out.push x++(b.extract at2 (nb - 1)).reverse) na at2 g k (nb - 1 - at2)
   else BA a b (out.push x) na (nb - 1) g k (nb - 1 - at2)
  | _=>pure (ForInStep.done (some (a.extract 0 na++b.extract 0 (nb - 1)++(out.push x).reverse),na,nb - 1,out.push x,g,k,bc))
def vo (a b out:Array Keyed)(na nb g ac bc:Nat):StateT SortSt Sem (ForInStep HS):=do
 let x <- elem' b (nb - 1)
 let r <- bU false x a 0 na (na - 1)
 match r with
 | some at1 =>
  if na - at1 > 0 then
   if (at1==0)=true then pure (ForInStep.done (some (a.extract 0 at1++b.extract 0 nb++(out++(a.extract at1 na).reverse).reverse),at1,nb,out++(a.extract at1 na).reverse,g,na - at1,bc))
   else BB a b (out++(a.extract at1 na).reverse) at1 nb g (na - at1) bc
  else BB a b out na nb g (na - at1) bc
 | _=>pure (ForInStep.done (some (a.extract 0 na++b.extract 0 nb++out.reverse),na,nb,out,g,ac,bc))
def W (ρ:Keyed->Nat)(L:List Keyed)(a b out:Array Keyed)(na nb:Nat):Prop:=H ρ L out.toList.reverse (a.toList.take na) (b.toList.take nb)
theorem W.firstB (j:W ρ L a b out na nb)(e:nb=1)(hb:1<=b.size)(hz:∀ y∈a.toList,∀ z,b[0]?=some z->ρ z<=ρ y):Good ρ L (b.extract 0 nb++a.extract 0 na++out.reverse).toList:=by
 subst e;have eb:b[0]?=some b[0]:=Array.getElem?_eq_getElem hb;have e1:b.toList.take 1=[b[0]]:=by rw[gh (Nat.le_refl 1) eb];rfl
 have j':H ρ L out.toList.reverse (a.toList.take na) (b.toList.take 1):=j;rw[e1] at j';rw[Array.toList_append,Array.toList_append,iG,iG,e1,Array.toList_reverse];exact j'.first λy hy=>hz y (List.mem_of_mem_take hy) _ eb
theorem W.doneA (j:W ρ L a b out na nb)(e:na=0):Good ρ L (a.extract 0 na++b.extract 0 nb++out.reverse).toList:=by
 subst e;have j':H ρ L out.toList.reverse [] (b.toList.take nb):=j;rw[Array.toList_append,Array.toList_append,iG,iG,Array.toList_reverse];exact j'.doneA
theorem W.doneB (j:W ρ L a b out na nb)(e:nb=0):Good ρ L (a.extract 0 na++b.extract 0 nb++out.reverse).toList:=by
 subst e;have j':H ρ L out.toList.reverse (a.toList.take na) []:=j;rw[Array.toList_append,Array.toList_append,iG,iG,Array.toList_reverse,List.take_zero,List.append_nil];exact j'.doneB
theorem W.pushA {x:Keyed}(j:W ρ L a b out na nb)(h1:1<=na)(e:a[na - 1]?=some x)(h:∀ y∈b.toList.take nb,ρ y<=ρ x):W ρ L a b (out.push x) (na - 1) nb:=by
 have j':H ρ L out.toList.reverse (a.toList.take na) (b.toList.take nb):=j;rw[gh h1 e] at j';show H ρ L (out.push x).toList.reverse _ _;rw[Array.toList_push,List.reverse_append];exact H.manyA (X:=[x]) j' λz hz y hy=>by rw[List.mem_singleton.mp hz];exact h y hy
theorem W.pushB {x:Keyed}(j:W ρ L a b out na nb)(h1:1<=nb)(e:b[nb - 1]?=some x)(h:∀ y∈a.toList.take na,ρ y<=ρ x):W ρ L a b (out.push x) na (nb - 1):=by
 have j':H ρ L out.toList.reverse (a.toList.take na) (b.toList.take nb):=j;rw[gh h1 e] at j';show H ρ L (out.push x).toList.reverse _ _;rw[Array.toList_push,List.reverse_append];exact H.manyB (X:=[x]) j' λz hz y hy=>by rw[List.mem_singleton.mp hz];exact h y hy
theorem W.manyA {k:Nat}(j:W ρ L a b out na nb)(hk:k<=na)(h:∀ x∈(a.toList.take na).drop k,∀ y∈b.toList.take nb,ρ y<=ρ x):W ρ L a b (out++(a.extract k na).reverse) k nb:=by
 have j':H ρ L out.toList.reverse (a.toList.take na) (b.toList.take nb):=j;rw[oN a hk] at j';show H ρ L (out++(a.extract k na).reverse).toList.reverse _ _;rw[Array.toList_append,List.reverse_append,Array.toList_reverse,List.reverse_reverse,jq];exact H.manyA j' h
theorem W.manyB {k:Nat}(j:W ρ L a b out na nb)(hk:k<=nb)(h:∀ x∈(b.toList.take nb).drop k,∀ y∈a.toList.take na,ρ y<=ρ x):W ρ L a b (out++(b.extract k nb).reverse) na k:=by
 have j':H ρ L out.toList.reverse (a.toList.take na) (b.toList.take nb):=j;rw[oN b hk] at j';show H ρ L (out++(b.extract k nb).reverse).toList.reverse _ _;rw[Array.toList_append,List.reverse_append,Array.toList_reverse,List.reverse_reverse,jq];exact H.manyB j' h
theorem W.endA {x:Keyed}(j:W ρ L a b out na nb)(h1:1<=na)(e:a[na - 1]?=some x):∀ y∈a.toList.take na,ρ y<=ρ x:=λy hy=>by
 have:=j.a;rw[gh h1 e] at this hy;rcases List.mem_append.mp hy with hy|hy
 ·exact (List.pairwise_append.mp this).2.2 y hy x (List.mem_singleton.mpr rfl)
 ·rw[List.mem_singleton.mp hy];exact Nat.le_refl _
theorem W.endB {x:Keyed}(j:W ρ L a b out na nb)(h1:1<=nb)(e:b[nb - 1]?=some x):∀ y∈b.toList.take nb,ρ y<=ρ x:=λy hy=>by
 have:=j.b;rw[gh h1 e] at this hy;rcases List.mem_append.mp hy with hy|hy
 ·exact (List.pairwise_append.mp this).2.2 y hy x (List.mem_singleton.mpr rfl)
 ·rw[List.mem_singleton.mp hy];exact Nat.le_refl _
def cN (ρ:Keyed->Nat)(L:List Keyed)(a b:Array Keyed)(t:Nat)(out:Array Keyed)(na nb:Nat):Prop:=W ρ L a b out na nb/\1<=na/\2<=nb/\na<=a.size/\nb<=b.size/\na+nb+t<=a.size+b.size
def PH (ρ:Keyed->Nat)(L:List Keyed)(a b:Array Keyed)(t:Nat)(st0:SortSt)(r:ForInStep HS)(st:SortSt):Prop:=Kp st0 st/\match r with
 | .done c=>(∃ arr,c.1=some arr/\Good ρ L arr.toList)\/(c.1=none/\cN ρ L a b t c.2.2.2.1 c.2.1 c.2.2.1)
 | .yield c=>c.1=none/\cN ρ L a b t c.2.2.2.1 c.2.1 c.2.2.1
theorem oO {st st0:SortSt}{g k k1 t:Nat}(T:Two ρ P a b)(hK:Kp st0 st)(j:W ρ L a b out na nb)(h1:1<=na)(h2:2<=nb)(h3:na<=a.size)(h4:nb<=b.size)(ht:na+nb+t<=a.size+b.size)
  (h:∀ x,a[na - 1]?=some x->∀ y∈b.toList.take nb,ρ y<=ρ x):wpS M Ar E s (BA a b out na nb g k k1) (PH ρ L a b t st0) st:=by
 unfold BA;obtain⟨y,ey,py⟩:=cA T.pa (show na - 1 < a.size by omega)
 refine wpS_bind (aS ey ?_);have j':=j.pushA h1 ey (h y ey)
 by_cases e:na - 1=0
 ·rw[if_pos (by simpa using e)]
  exact wpS_pure ⟨hK,.inl ⟨_,rfl,j'.doneA e⟩⟩
 ·rw[if_neg (by simpa using e)]
  have lf:cN ρ L a b t (out.push y) (na - 1) nb:=⟨j',by omega,h2,by omega,h4,by omega⟩
  split
  ·exact wpS_pure ⟨hK,.inr ⟨rfl,lf⟩⟩
  ·exact wpS_pure ⟨hK,rfl,lf⟩
theorem oP {st st0:SortSt}{g k bc t:Nat}(hL:eI M Ar E s ρ kd P)(hk:kindOf st0=kd)(T:Two ρ P a b)(hK:Kp st0 st)(j:W ρ L a b out na nb)(h1:1<=na)(h2:2<=nb)(h3:na<=a.size)(h4:nb<=b.size)(ht:na+nb+t<=a.size+b.size)
  (h:∀ x,b[nb - 1]?=some x->∀ y∈a.toList.take na,ρ y<=ρ x):wpS M Ar E s (BB a b out na nb g k bc) (PH ρ L a b t st0) st:=by
 unfold BB;obtain⟨x,ex,px⟩:=cA T.pb (show nb - 1 < b.size by omega)
 obtain⟨y,ey,py⟩:=cA T.pa (show na - 1 < a.size by omega)
 refine wpS_bind (aS ex ?_);have j':=j.pushB (by omega) ex (h x ex)
 by_cases e:nb - 1=1
 ·rw[if_pos (by simpa using e)]
  exact wpS_pure ⟨hK,.inl ⟨_,rfl,j'.firstB e T.b1 T.y⟩⟩
 ·rw[if_neg (by simpa using e)]
  refine wpS_bind (aS ey ?_);refine wpS_bind (vn hL (hK.k.trans hk) py T.pb T.sb (by omega) (by omega) λk1 hk1 q1 q2=>?_)
  dsimp only;have j2:=j'.manyB hk1 λx hx z hz=>Nat.le_trans (j'.endA h1 ey z hz) (q2 x hx)
  by_cases hk0:nb - 1 - k1 > 0
  ·rw[if_pos hk0]
   by_cases e2:k1=1
   ·rw[if_pos (by simpa using e2)]
    exact wpS_pure ⟨hK,.inl ⟨_,rfl,j2.firstB e2 T.b1 T.y⟩⟩
   ·rw[if_neg (by simpa using e2)]
    by_cases e3:k1=0
    ·rw[if_pos (by simpa using e3)]
     exact wpS_pure ⟨hK,.inl ⟨_,rfl,j2.doneB e3⟩⟩
    ·rw[if_neg (by simpa using e3)]
     exact oO T hK j2 h1 (by omega) h3 (by omega) (by omega) λx' ex' z hz=>by rw[ey] at ex';cases ex';exact Nat.le_of_lt (q1 z hz)
  ·rw[if_neg hk0]
   have:k1=nb - 1:=by omega
   subst this;exact oO T hK j' h1 (by omega) h3 (by omega) (by omega) λx' ex' z hz=>by rw[ey] at ex';cases ex';exact Nat.le_of_lt (q1 z hz)
theorem vq {st st0:SortSt}{g ac bc t:Nat}(hL:eI M Ar E s ρ kd P)(hk:kindOf st0=kd)(T:Two ρ P a b)(hK:Kp st0 st)(j:cN ρ L a b t out na nb):wpS M Ar E s (vo a b out na nb g ac bc) (PH ρ L a b t st0) st:=by
 obtain⟨j,h1,h2,h3,h4,ht⟩:=j;unfold vo;obtain⟨x,ex,px⟩:=cA T.pb (show nb - 1 < b.size by omega)
 refine wpS_bind (aS ex ?_);refine wpS_bind (vm hL (hK.k.trans hk) px T.pa T.sa h3 h1 λk hk1 q1 q2=>?_);dsimp only;have j2:=j.manyA hk1 λz hz y hy=>Nat.le_trans (j.endB (by omega) ex y hy) (Nat.le_of_lt (q2 z hz))
 by_cases hk0:na - k > 0
 ·rw[if_pos hk0]
  by_cases e:k=0
  ·rw[if_pos (by simpa using e)]
   exact wpS_pure ⟨hK,.inl ⟨_,rfl,j2.doneA e⟩⟩
  ·rw[if_neg (by simpa using e)]
   exact oP hL hk T hK j2 (by omega) h2 (by omega) h4 (by omega) λx' ex' z hz=>by rw[ex] at ex';cases ex';exact q1 z hz
 ·rw[if_neg hk0]
  have:k=na:=by omega
  subst this;exact oP hL hk T hK j h1 h2 h3 h4 ht λx' ex' z hz=>by rw[ex] at ex';cases ex';exact q1 z hz
abbrev HI:=Option (Array Keyed)×Nat×Nat×Array Keyed×Nat×Nat
abbrev HQ:=Option (Array Keyed)×Nat×Nat×Array Keyed×Nat
def Ql (a b:Array Keyed)(g:Nat)(c:HI):StateT SortSt Sem (ForInStep HI):=do
 let x <- elem' b (c.2.2.1 - 1)
 let y <- elem' a (c.2.1 - 1)
 let r <- lt' x y
 match r with
 | some w =>
  if w=true then do
   let y <- elem' a (c.2.1 - 1)
   if (c.2.1 - 1==0)=true then pure (ForInStep.done (some (a.extract 0 (c.2.1 - 1)++b.extract 0 c.2.2.1++(c.2.2.2.1.push y).reverse),c.2.1 - 1,c.2.2.1,c.2.2.2.1.push y,c.2.2.2.2.1+1,0))
   else if c.2.2.2.2.1+1>=g then pure (ForInStep.done (none,c.2.1 - 1,c.2.2.1,c.2.2.2.1.push y,c.2.2.2.2.1+1,0))
   else pure (ForInStep.yield (none,c.2.1 - 1,c.2.2.1,c.2.2.2.1.push y,c.2.2.2.2.1+1,0))
  else do
   let x <- elem' b (c.2.2.1 - 1)
   if (c.2.2.1 - 1==1)=true then pure (ForInStep.done (some (b.extract 0 (c.2.2.1 - 1)++a.extract 0 c.2.1++(c.2.2.2.1.push x).reverse),c.2.1,c.2.2.1 - 1,c.2.2.2.1.push x,0,c.2.2.2.2.2+1))
   else if c.2.2.2.2.2+1>=g then pure (ForInStep.done (none,c.2.1,c.2.2.1 - 1,c.2.2.2.1.push x,0,c.2.2.2.2.2+1))
   else pure (ForInStep.yield (none,c.2.1,c.2.2.1 - 1,c.2.2.2.1.push x,0,c.2.2.2.2.2+1))
 | _=>pure (ForInStep.done (some (a.extract 0 c.2.1++b.extract 0 c.2.2.1++c.2.2.2.1.reverse),c.2.1,c.2.2.1,c.2.2.2.1,c.2.2.2.2.1,c.2.2.2.2.2))
def Re (a b:Array Keyed)(c:HS):StateT SortSt Sem (ForInStep HS) :=
 if c.2.2.2.2.1 > 1 then do
  dr (c.2.2.2.2.1 - 1)
  vo a b c.2.2.2.1 c.2.1 c.2.2.1 (c.2.2.2.2.1 - 1) c.2.2.2.2.2.1 c.2.2.2.2.2.2
 else do
  dr c.2.2.2.2.1
  vo a b c.2.2.2.1 c.2.1 c.2.2.1 c.2.2.2.2.1 c.2.2.2.2.2.1 c.2.2.2.2.2.2
def Rf (r:HS):StateT SortSt Sem (ForInStep HQ) :=
 match r.1 with
 | some arr=>pure (ForInStep.done (some arr,r.2.1,r.2.2.1,r.2.2.2.1,r.2.2.2.2.1))
 | none=>do
  dr (r.2.2.2.2.1+1)
  pure (ForInStep.yield (none,r.2.1,r.2.2.1,r.2.2.2.1,r.2.2.2.2.1+1))
def Qm (a b:Array Keyed)(g:Nat)(r:HI):StateT SortSt Sem (ForInStep HQ) :=
 match r.1 with
 | some arr=>pure (ForInStep.done (some arr,r.2.1,r.2.2.1,r.2.2.2.1,g))
 | none=>do
  liftM (rule "list.sort.gallop")
  let r2 <- forIn [0:a.size+b.size] ((none,r.2.1,r.2.2.1,r.2.2.2.1,g+1,r.2.2.2.2.1,r.2.2.2.2.2):HS) λ_ t=>Re a b t
  Rf r2
def Qn (a b:Array Keyed)(c:HQ):StateT SortSt Sem (ForInStep HQ):=do
 let r <- forIn [0:a.size+b.size] ((none,c.2.1,c.2.2.1,c.2.2.2.1,0,0):HI) λ_ r=>Ql a b c.2.2.2.2 r
 Qm a b c.2.2.2.2 r
def Rx (r:HQ):StateT SortSt Sem (Array Keyed) :=
 match r.1 with
 | some arr=>pure arr
 | none=>unsupported "internal:list.sort.merge-bound"
theorem mq (a b:Array Keyed):jW a b=(do
 liftM (rule "list.sort.merge-hi")
 let x <- elem' a (a.size - 1)
 if (a.size - 1==0)=true then pure (a.extract 0 (a.size - 1)++b.extract 0 b.size++(#[x]:Array Keyed).reverse)
 else if (b.size==1)=true then pure (b.extract 0 b.size++a.extract 0 (a.size - 1)++(#[x]:Array Keyed).reverse)
 else do
  let st <- get
  let r <- forIn [0:a.size+b.size] ((none,a.size - 1,b.size,#[x],gallopOf st):HQ) λ_ r=>Qn a b r
  Rx r):=by kernel_rfl
theorem BC {st0 st:SortSt}{g n m:Nat}{c:HI}(hL:eI M Ar E s ρ kd P)(hk:kindOf st0=kd)(T:Two ρ P a b)(hK:Kp st0 st)(j:cN ρ L a b (n+1+min m 1) c.2.2.2.1 c.2.1 c.2.2.1) :
  wpS M Ar E s (Ql a b g c) (λr st'=>Kp st0 st'/\match r with
   | .done c=>(∃ arr,c.1=some arr/\Good ρ L arr.toList)\/(c.1=none/\cN ρ L a b (n+1+1) c.2.2.2.1 c.2.1 c.2.2.1)
   | .yield c=>c.1=none/\cN ρ L a b (n+1+min (m+1) 1) c.2.2.2.1 c.2.1 c.2.2.1) st:=by
 obtain⟨ret,na,nb,out,ac,bc⟩:=c;obtain⟨j,l1,l2,l3,l4,l5⟩:=j;dsimp only at j l1 l2 l3 l4 l5;unfold Ql;dsimp only;obtain⟨x,ex,px⟩:=cA T.pb (show nb - 1 < b.size by omega)
 obtain⟨y,ey,py⟩:=cA T.pa (show na - 1 < a.size by omega)
 refine wpS_bind (aS ex (wpS_bind (aS ey (wpS_bind (hL x y st _ px py (hK.k.trans hk) ?_)))))
 by_cases hlt:ρ x < ρ y
 ·rw[decide_eq_true hlt]
  refine wpS_bind (aS ey ?_);have j':=j.pushA l1 ey λz hz=>Nat.le_trans (j.endB (by omega) ex z hz) (Nat.le_of_lt hlt)
  by_cases e:na - 1=0
  ·rw[if_pos (by simpa using e)]
   exact wpS_pure ⟨hK,.inl ⟨_,rfl,j'.doneA e⟩⟩
  ·rw[if_neg (by simpa using e)]
   split
   ·exact wpS_pure ⟨hK,.inr ⟨rfl,j',by show 1<=na - 1;omega,l2,by show na - 1<=a.size;omega,l4,by show na - 1+nb+(n+1+1)<=_;omega⟩⟩
   ·exact wpS_pure ⟨hK,rfl,j',by show 1<=na - 1;omega,l2,by show na - 1<=a.size;omega,l4,by show na - 1+nb+(n+1+min (m+1) 1)<=_;omega⟩
 ·rw[decide_eq_false hlt]
  refine wpS_bind (aS ex ?_);have j':=j.pushB (by omega) ex λz hz=>Nat.le_trans (j.endA l1 ey z hz) (Nat.not_lt.mp hlt)
  by_cases e:nb - 1=1
  ·rw[if_pos (by simpa using e)]
   exact wpS_pure ⟨hK,.inl ⟨_,rfl,j'.firstB e T.b1 T.y⟩⟩
  ·rw[if_neg (by simpa using e)]
   split
   ·exact wpS_pure ⟨hK,.inr ⟨rfl,j',l1,by show 2<=nb - 1;omega,l3,by show nb - 1<=b.size;omega,by show na+(nb - 1)+(n+1+1)<=_;omega⟩⟩
   ·exact wpS_pure ⟨hK,rfl,j',l1,by show 2<=nb - 1;omega,l3,by show nb - 1<=b.size;omega,by show na+(nb - 1)+(n+1+min (m+1) 1)<=_;omega⟩
def Rg (ρ:Keyed->Nat)(L:List Keyed)(a b:Array Keyed)(t:Nat)(st0:SortSt)(r:ForInStep HQ)(st:SortSt):Prop:=match r with
 | .done c=>Kp st0 st/\∃ arr,c.1=some arr/\Good ρ L arr.toList
 | .yield c=>Kp st0 st/\c.1=none/\cN ρ L a b t c.2.2.2.1 c.2.1 c.2.2.1
theorem BD {st0 st:SortSt}{g n:Nat}{r:HI}(hL:eI M Ar E s ρ kd P)(hk:kindOf st0=kd)(T:Two ρ P a b)(hK:Kp st0 st)
  (h:(∃ arr,r.1=some arr/\Good ρ L arr.toList)\/(r.1=none/\cN ρ L a b (n+1+1) r.2.2.2.1 r.2.1 r.2.2.1)):wpS M Ar E s (Qm a b g r) (Rg ρ L a b (n+1+1) st0) st:=by
 obtain⟨ret,r⟩:=r;unfold Qm;rcases h with ⟨arr,h1,h2⟩|⟨h1,hl⟩
 ·dsimp only at h1
  subst h1;exact wpS_pure ⟨hK,arr,rfl,h2⟩
 ·dsimp only at h1 hl
  subst h1;refine wpS_bind (wpS_lift (wpAny_rule ⟨rfl,?_⟩));refine wpS_bind (wpS_mono (wpS_forRange (I:=λx c st'=>Kp st0 st'/\c.1=none/\cN ρ L a b (n+1+1) c.2.2.2.1 c.2.1 c.2.2.1)
   (Q:=λc st'=>Kp st0 st'/\((∃ arr,c.1=some arr/\Good ρ L arr.toList)\/(c.1=none/\cN ρ L a b (n+1+1) c.2.2.2.1 c.2.1 c.2.2.1))) ?gstep ?gfin ⟨hK,rfl,hl⟩) ?gpost)
  case gfin =>
   rintro c st' ⟨hK,h1,hl⟩;exact⟨hK,.inr ⟨h1,hl⟩⟩
  case gstep =>
   rintro m c st' _ hm ⟨hK,h1,hl⟩;have go:∀ g,wpS M Ar E s (do dr g;vo a b c.2.2.2.1 c.2.1 c.2.2.1 g c.2.2.2.2.2.1 c.2.2.2.2.2.2) (λr st''=>match r with
     | .done c=>Kp st0 st''/\((∃ arr,c.1=some arr/\Good ρ L arr.toList)\/(c.1=none/\cN ρ L a b (n+1+1) c.2.2.2.1 c.2.1 c.2.2.1))
     | .yield c=>Kp st0 st''/\c.1=none/\cN ρ L a b (n+1+1) c.2.2.2.1 c.2.1 c.2.2.1) st':=λg=>by
    rw[dc];refine wpS_bind (wpS_modify (wpS_mono (vq hL hk T (hK.min g) hl) λr st'' hr=>?_));obtain⟨k1,k2⟩:=hr;cases r with
    | done c=>exact⟨k1,k2⟩
    | yield c=>exact⟨k1,k2⟩
   unfold Re
   split
   ·refine wpS_mono (go _) λr st'' hr=>?_
    cases r<;>exact hr
   ·refine wpS_mono (go _) λr st'' hr=>?_
    cases r<;>exact hr
  case gpost =>
   rintro ⟨ret,r⟩ st' ⟨hK,⟨arr,h1,h2⟩|⟨h1,hl⟩⟩
   ·dsimp only at h1
    subst h1;exact wpS_pure ⟨hK,arr,rfl,h2⟩
   ·dsimp only at h1 hl
    subst h1;unfold Rf;rw[dc];exact wpS_bind (wpS_modify (wpS_pure ⟨hK.min _,rfl,hl⟩))
theorem BE {st0 st:SortSt}{n:Nat}{c:HQ}(hL:eI M Ar E s ρ kd P)(hk:kindOf st0=kd)(T:Two ρ P a b)(hn:0 < a.size+b.size)(hK:Kp st0 st)(hl:cN ρ L a b (n+1) c.2.2.2.1 c.2.1 c.2.2.1):wpS M Ar E s (Qn a b c) (Rg ρ L a b (n+1+1) st0) st:=by
 unfold Qn;refine wpS_bind (wpS_mono (wpS_forRange (I:=λx c st'=>Kp st0 st'/\c.1=none/\cN ρ L a b (n+1+min x 1) c.2.2.2.1 c.2.1 c.2.2.1)
  (Q:=λc st'=>Kp st0 st'/\((∃ arr,c.1=some arr/\Good ρ L arr.toList)\/(c.1=none/\cN ρ L a b (n+1+1) c.2.2.2.1 c.2.1 c.2.2.1))) ?istep ?ifin ⟨hK,rfl,by simpa using hl⟩) ?ipost)
 case ifin =>
  rintro c st' ⟨hK,h1,hl⟩;rw[show min (max 0 (a.size+b.size)) 1=1 by omega] at hl
  exact⟨hK,.inr ⟨h1,hl⟩⟩
 case istep =>
  rintro m c st' _ hm ⟨hK,h1,hl⟩;refine wpS_mono (BC hL hk T hK hl) λr st'' hr=>?_;obtain⟨k1,k2⟩:=hr;cases r with
  | done c=>exact⟨k1,k2⟩
  | yield c=>exact⟨k1,k2⟩
 case ipost =>
  rintro r st' ⟨hK,h⟩;exact BD hL hk T hK h
theorem oQ {st:SortSt}{Q:Array Keyed->SortSt->Prop}(hL:eI M Ar E s ρ kd P)(hk:kindOf st=kd)(T:Two ρ P a b)
  (q:∀ r st',Kp st st'->Good ρ (a.toList++b.toList) r.toList->Q r st'):wpS M Ar E s (jW a b) Q st:=by
 rw[mq];have b1:=T.b1;have a1:=T.a1;refine wpS_bind (wpS_lift (wpAny_rule ⟨rfl,?_⟩));obtain⟨x,ex,px⟩:=cA T.pa (show a.size - 1 < a.size by omega)
 refine wpS_bind (aS ex ?_);have j0:W ρ (a.toList++b.toList) a b #[] a.size b.size:=by
  have e1:a.toList.take a.size=a.toList:=List.take_of_length_le (Nat.le_refl _);have e2:b.toList.take b.size=b.toList:=List.take_of_length_le (Nat.le_refl _);unfold W;rw[e1,e2];exact⟨List.Pairwise.nil,T.sa,T.sb,(λx hx y hy=>by cases hy),(λx hx y hy=>by cases hy),by simp⟩
 have j1:W ρ (a.toList++b.toList) a b #[x] (a.size - 1) b.size:=by simpa using j0.pushA a1 ex λy hy=>T.z y (List.mem_of_mem_take hy) x ex
 by_cases e:a.size - 1=0
 ·rw[if_pos (by simpa using e)]
  exact wpS_pure (q _ st .refl (by simpa using j1.doneA e))
 ·rw[if_neg (by simpa using e)]
  by_cases e2:b.size=1
  ·rw[if_pos (by simpa using e2)]
   exact wpS_pure (q _ st .refl (by simpa using j1.firstB e2 T.b1 T.y))
  ·rw[if_neg (by simpa using e2)]
   refine wpS_bind (wpS_get ?_);refine wpS_bind (wpS_mono (wpS_forRange (I:=λx c st'=>Kp st st'/\c.1=none/\cN ρ (a.toList++b.toList) a b (x+1) c.2.2.2.1 c.2.1 c.2.2.1)
    (Q:=λc st'=>Kp st st'/\∃ arr,c.1=some arr/\Good ρ (a.toList++b.toList) arr.toList) ?step ?fin ⟨.refl,rfl,j1,by show 1<=a.size - 1;omega,by show 2<=b.size;omega,by show a.size - 1<=a.size;omega,by show b.size<=b.size;omega,by show a.size - 1+b.size+(0+1)<=_;omega⟩) ?post)
   case fin =>
    rintro ⟨ret,na,nb,out,g⟩ st' ⟨hK,h1,j,h2,h3,h4,h5,h6⟩;dsimp only at h2 h3 h4 h5 h6;omega
   case post =>
    rintro ⟨ret,r⟩ st' ⟨hK,arr,h1,h2⟩;dsimp only at h1;subst h1;exact wpS_pure (q arr st' hK h2)
   case step =>
    rintro n c st' _ hn ⟨hK,h1,hl⟩;refine wpS_mono (BE hL hk T (by omega) hK hl) λr st'' hr=>?_
    cases r with
    | done c=>exact hr
    | yield c=>exact hr
end
end Vs

namespace Vs
open PySem PyProof.Rows
abbrev BF:=Nat×Nat×Nat
theorem oS (i:Nat):mergeAt' i=(do
 let s <- get
 let (some (sa,na,power),some (sb,nb,_)):=((pendingOf s)[i]?,(pendingOf s)[i+1]?)|unsupported "internal:list.sort.pending"
 set (setPending s (((pendingOf s).setIfInBounds i (sa,na+nb,power)).eraseIdxIfInBounds (i+1)))
 let some k <- bU false (<- elem' (arrOf s) sb) (arrOf s) sa na 0|return false
 let (sa,na):=(sa+k,na - k)
 if na==0 then return true
 let some nb <- bU true (<- elem' (arrOf s) (sa+na - 1)) (arrOf s) sb nb (nb - 1)|return false
 if nb==0 then return true
 let x:=(arrOf s).extract sa sb
 let y:=(arrOf s).extract sb (sb+nb)
 let merged <- if na<=nb then jV x y else jW x y
 modify λs=>setArr s (merged.toList.zipIdx.foldl (λa (p,j)=>a.setIfInBounds (sa+j) p) (arrOf s))
 return (failedOf (<- get)).isNone):=rfl
def Ch (ρ:Keyed->Nat)(xs:Array Keyed):Nat->Nat->List BF->Prop
 | s,e,[]=>s=e
 | s,e,r::rs=>r.1=s/\1<=r.2.1/\Seg ρ xs s (s+r.2.1)/\Ch ρ xs (s+r.2.1) e rs
theorem Ch.app {ρ:Keyed->Nat}{xs:Array Keyed}:∀ {l m:List BF} {s e:Nat},Ch ρ xs s e (l++m) ↔ ∃ t,Ch ρ xs s t l/\Ch ρ xs t e m
 | [],m,s,e=>⟨λh=>⟨s,rfl,h⟩,λ⟨t,h1,h2⟩=>by cases h1;exact h2⟩
 | r::l,m,s,e=>by
  constructor
  ·rintro ⟨h1,h2,h3,h4⟩
   obtain⟨t,h5,h6⟩:=Ch.app.mp h4;exact⟨t,⟨h1,h2,h3,h5⟩,h6⟩
  ·rintro ⟨t,⟨h1,h2,h3,h5⟩,h6⟩
   exact⟨h1,h2,h3,Ch.app.mpr ⟨t,h5,h6⟩⟩
theorem Ch.le {ρ:Keyed->Nat}{xs:Array Keyed}:∀ {l:List BF} {s e:Nat},Ch ρ xs s e l->s+l.length<=e
 | [],s,e,h=>by cases h;exact Nat.le_refl _
 | r::l,s,e,⟨_,h2,_,h4⟩=>by have:=Ch.le h4;simp only[List.length_cons];omega
theorem Seg.congr {ρ:Keyed->Nat}{xs ys:Array Keyed}{lo hi:Nat}(h:Seg ρ xs lo hi)(e:∀ k,lo<=k->k < hi->ys[k]?=xs[k]?):Seg ρ ys lo hi:=λi j h1 h2 h3=>by
 rw[eX (e i h1 (by omega)),eX (e j (by omega) h3)];exact h i j h1 h2 h3
theorem Ch.congr {ρ:Keyed->Nat}{xs ys:Array Keyed}:∀ {l:List BF} {s e:Nat},Ch ρ xs s e l->(∀ k,s<=k->k < e->ys[k]?=xs[k]?)->Ch ρ ys s e l
 | [],s,e,h,_=>h
 | r::l,s,e,⟨h1,h2,h3,h4⟩,q=>by
  have:=Ch.le h4;exact⟨h1,h2,h3.congr λk a b=>q k a (by omega),Ch.congr h4 λk a b=>q k (by omega) b⟩
theorem mt (off:Nat):∀ (m:List Keyed) (n:Nat) (xs:Array Keyed),off+n+m.length<=xs.size->∀ k:Nat,
  ((m.zipIdx n).foldl (λa (p,j)=>a.setIfInBounds (off+j) p) xs)[k]?=(if off+n<=k/\k < off+n+m.length then m[k - (off+n)]? else xs[k]?)/\((m.zipIdx n).foldl (λa (p,j)=>a.setIfInBounds (off+j) p) xs).size=xs.size
 | [],n,xs,h,k=>⟨by rw[if_neg (by simp only[List.length_nil];omega)];rfl,rfl⟩
 | p::m,n,xs,h,k=>by
  simp only[List.length_cons] at h;rw[List.zipIdx_cons,List.foldl_cons];have ih:=mt off m (n+1) (xs.setIfInBounds (off+n) p) (by rw[Array.size_setIfInBounds];omega) k
  refine⟨?_,by rw[ih.2,Array.size_setIfInBounds]⟩
  rw[ih.1];simp only[List.length_cons]
  by_cases h1:off+(n+1)<=k/\k < off+(n+1)+m.length
  ·rw[if_pos h1,if_pos (by omega),show k - (off+n)=k - (off+(n+1))+1 by omega,List.getElem?_cons_succ]
  ·rw[if_neg h1]
   by_cases h2:k=off+n
   ·subst h2
    rw[if_pos (by omega),Nat.sub_self,List.getElem?_cons_zero,Array.getElem?_setIfInBounds_self_of_lt (by omega)]
   ·rw[if_neg (by omega),Array.getElem?_setIfInBounds_ne (by omega)]
theorem vt {off:Nat}{m:List Keyed}{xs:Array Keyed}(h:off+m.length<=xs.size)(hp:m.Perm ((xs.toList.drop off).take m.length)):(m.zipIdx.foldl (λa (p,j)=>a.setIfInBounds (off+j) p) xs).Perm xs:=by
 rw[Array.perm_iff_toList_perm];have e:(m.zipIdx.foldl (λa (p,j)=>a.setIfInBounds (off+j) p) xs).toList=xs.toList.take off++(m++xs.toList.drop (off+m.length)):=by
  apply List.ext_getElem?;intro k;have:=(mt off m 0 xs (by simpa using h) k).1
  rw[Nat.add_zero] at this;rw[Array.getElem?_toList,this];have hl:(xs.toList.take off).length=off:=by rw[List.length_take];have:xs.toList.length=xs.size:=rfl;omega
  by_cases h1:k < off
  ·rw[if_neg (by omega),List.getElem?_append_left (by omega),List.getElem?_take_of_lt h1,Array.getElem?_toList]
  ·rw[List.getElem?_append_right (by omega),hl]
   by_cases h2:k < off+m.length
   ·rw[if_pos (by omega),List.getElem?_append_left (by omega)]
   ·rw[if_neg (by omega),List.getElem?_append_right (by omega),List.getElem?_drop,show off+m.length+(k - off - m.length)=k by omega,Array.getElem?_toList]
 rw[e];have e2:xs.toList=xs.toList.take off++((xs.toList.drop off).take m.length++xs.toList.drop (off+m.length)):=by
  rw[<- List.drop_drop,List.take_append_drop,List.take_append_drop]
 exact (List.Perm.append_left _ (List.Perm.append_right _ hp)).trans (by rw[<- e2])
theorem jY {ρ:Keyed->Nat}{xs:Array Keyed}{i j:Nat}(h:Seg ρ xs i j)(hj:j<=xs.size):So ρ (xs.extract i j).toList:=by
 refine List.pairwise_iff_getElem.mpr λp q hp hq hpq=>?_;rw[jq,List.length_drop,List.length_take] at hq;have hs:xs.toList.length=xs.size:=rfl;have:=h (i+p) (i+q) (by omega) (by omega) (by omega)
 have e1:xs[i+p]?=some ((xs.extract i j).toList[p]):=by
  rw[Array.getElem?_eq_getElem (by omega)];simp
 have e2:xs[i+q]?=some ((xs.extract i j).toList[q]):=by
  rw[Array.getElem?_eq_getElem (by omega)];simp
 rw[R_at e1,R_at e2] at this;exact this
theorem vv {xs:Array Keyed}{i j m:Nat}(h:i+m < j)(hj:j<=xs.size):(xs.extract i j)[m]?=xs[i+m]?:=by
 rw[Array.getElem?_extract];rw[if_pos (by omega)]
theorem fF {xs:Array Keyed}{i j:Nat}{x:Keyed}(h:x∈(xs.extract i j).toList):∃ m,i<=m/\m < j/\m < xs.size/\xs[m]?=some x:=by
 rw[jq] at h;exact eS h
section
variable {M:Model}{Ar:Around}{E:Value->Shared->Prop}{s:Shared}{ρ:Keyed->Nat}{kd:SortKind}{P:Keyed->Prop}{a₀:Array Keyed}
theorem BG {key:Keyed}{arr:Array Keyed}{base n hint:Nat}{st:SortSt}{Q:Option Nat->SortSt->Prop}(hL:eI M Ar E s ρ kd P)(hk:kindOf st=kd)(pk:P key)(pa:∀ i,i < n->∃ x,arr[base+i]?=some x/\P x)(hs:Seg ρ arr base (base+n))(hn:hint < n)
  (q:∀ k,k<=n->(∀ i,base<=i->i < base+k->R ρ arr i<=ρ key)->(∀ i,base+k<=i->i < base+n->ρ key < R ρ arr i)->Q (some k) st):wpS M Ar E s (bU false key arr base n hint) Q st:=by
 refine cE (li hL hk pk pa) (λi j hij hj h=>?_) hn λk hk1 h1 h2=>q k hk1 (λi hi hi2=>?_) λi hi hi2=>?_
 ·have:=hs (base+i) (base+j) (by omega) (by omega) (by omega)
  simp only[lh,Bool.false_eq_true,if_false,Bool.not_eq_true',decide_eq_false_iff_not] at h ⊢;omega
 ·have:=h1 (i - base) (by omega)
  simp only[lh,Bool.false_eq_true,if_false,Bool.not_eq_true',decide_eq_false_iff_not,show base+(i - base)=i by omega] at this
  omega
 ·have:=h2 (i - base) (by omega) (by omega)
  simp only[lh,Bool.false_eq_true,if_false,show base+(i - base)=i by omega,Bool.not_eq_false',decide_eq_true_eq] at this
  exact this
theorem BH {key:Keyed}{arr:Array Keyed}{base n hint:Nat}{st:SortSt}{Q:Option Nat->SortSt->Prop}(hL:eI M Ar E s ρ kd P)(hk:kindOf st=kd)(pk:P key)(pa:∀ i,i < n->∃ x,arr[base+i]?=some x/\P x)(hs:Seg ρ arr base (base+n))(hn:hint < n)
  (q:∀ k,k<=n->(∀ i,base<=i->i < base+k->R ρ arr i < ρ key)->(∀ i,base+k<=i->i < base+n->ρ key<=R ρ arr i)->Q (some k) st):wpS M Ar E s (bU true key arr base n hint) Q st:=by
 refine cE (li hL hk pk pa) (λi j hij hj h=>?_) hn λk hk1 h1 h2=>q k hk1 (λi hi hi2=>?_) λi hi hi2=>?_
 ·have:=hs (base+i) (base+j) (by omega) (by omega) (by omega)
  simp only[lh,if_true,decide_eq_true_eq] at h ⊢;omega
 ·have:=h1 (i - base) (by omega)
  simp only[lh,if_true,decide_eq_true_eq,show base+(i - base)=i by omega] at this
  exact this
 ·have:=h2 (i - base) (by omega) (by omega)
  simp only[lh,if_true,show base+(i - base)=i by omega,decide_eq_false_iff_not] at this
  omega
theorem BI {st st':SortSt}{Q:PUnit->SortSt->Prop}(h:Q ⟨⟩ st'):wpS M Ar E s (set st':StateT SortSt Sem PUnit) Q st:=by
 unfold wpS;rw[StateT.run_set];exact wpAny_pure ⟨rfl,h⟩
theorem ER {l:List BF}{i:Nat}(h:i+1 < l.length):∃ pre x y post,l=pre++x::y::post/\pre.length=i:=by
 refine⟨l.take i,l[i],l[i+1],l.drop (i+2),?_,by rw[List.length_take];omega⟩
 have e:=(List.take_append_drop i l).symm;rw[List.drop_eq_getElem_cons (by omega),List.drop_eq_getElem_cons h] at e
 exact e
theorem jb {st:SortSt}{i lo:Nat}{Q:Bool->SortSt->Prop}(hL:eI M Ar E s ρ kd P)(h0:∀ p∈a₀.toList,P p)(hB:SI kd a₀ st)(hlo:lo<=a₀.size)(hc:Ch ρ (arrOf st) 0 lo (pendingOf st).toList)(hi:i+1 < (pendingOf st).size)
  (q:∀ st',SI kd a₀ st'->Ch ρ (arrOf st') 0 lo (pendingOf st').toList->(pendingOf st').size+1=(pendingOf st).size->(∀ k,lo<=k->(arrOf st')[k]?=(arrOf st)[k]?)->Q true st'):wpS M Ar E s (mergeAt' i) Q st:=by
 rw[oS];refine wpS_bind (wpS_get ?_);obtain⟨pre,⟨sa,na,pw⟩,⟨sb,nb,pw2⟩,post,el,hpl⟩:=ER (l:=(pendingOf st).toList) (i:=i) (by simpa using hi)
 have e1:(pendingOf st)[i]?=some (sa,na,pw):=by
  rw[<- Array.getElem?_toList,el,List.getElem?_append_right (by omega),hpl,Nat.sub_self];rfl
 have e2:(pendingOf st)[i+1]?=some (sb,nb,pw2):=by
  rw[<- Array.getElem?_toList,el,List.getElem?_append_right (by omega),hpl,Nat.add_sub_cancel_left];rfl
 have hnew:(((pendingOf st).setIfInBounds i (sa,na+nb,pw)).eraseIdxIfInBounds (i+1)).toList=pre++(sa,na+nb,pw)::post:=by
  have hs:i+1 < ((pendingOf st).setIfInBounds i (sa,na+nb,pw)).size:=by rw[Array.size_setIfInBounds];exact hi
  rw[Array.eraseIdxIfInBounds,dif_pos hs,Array.toList_eraseIdx,Array.toList_setIfInBounds,el,<- hpl];rw[List.set_append_right _ _ (Nat.le_refl _),Nat.sub_self,List.set_cons_zero,List.eraseIdx_append_of_length_le (Nat.le_succ _),show pre.length.succ - pre.length=1 by omega]
  rfl
 have hsz2:(((pendingOf st).setIfInBounds i (sa,na+nb,pw)).eraseIdxIfInBounds (i+1)).size+1=(pendingOf st).size:=by
  have a1:(((pendingOf st).setIfInBounds i (sa,na+nb,pw)).eraseIdxIfInBounds (i+1)).toList.length=(pre++(sa,na+nb,pw)::post).length:=by rw[hnew]
  have a2:(pendingOf st).toList.length=(pre++(sa,na,pw)::(sb,nb,pw2)::post).length:=by rw[el]
  simp only[List.length_append,List.length_cons,Array.length_toList] at a1 a2;omega
 rw[e1,e2];dsimp only;refine wpS_bind (BI ?_);rw[el] at hc;obtain⟨t,c1,⟨rfl,c3,c4,rfl,c6,c7,c8⟩⟩:=Ch.app.mp hc;dsimp only at c1 c3 c4 c6 c7 c8 hnew e1 e2 hsz2 ⊢;have hle:=Ch.le c8;have hsz:=hB.size;have atx:∀ k,k < a₀.size->∃ x,(arrOf st)[k]?=some x/\P x:=λk hk=>hB.at h0 hk;obtain⟨b0,eb,pb⟩:=atx (sa+na) (by omega)
 refine wpS_bind (aS eb ?_);refine wpS_bind (BG hL hB.kind pb (λi hi=>atx _ (by omega)) c4 (by omega) λk hk g1 g2=>?_)
 dsimp only
 -- the whole of both,from what becomes of the array
 have fin:∀ (ys:Array Keyed) (st':SortSt),arrOf st'=ys->pendingOf st'=((pendingOf st).setIfInBounds i (sa,na+nb,pw)).eraseIdxIfInBounds (i+1)->kindOf st'=kd->failedOf st'=none->ys.Perm (arrOf st) ->
   (∀ k,k < sa\/sa+na+nb<=k->ys[k]?=(arrOf st)[k]?)->Seg ρ ys sa (sa+na+nb)->Q true st':=λys st' h1 h2 h3 h4 h5 h6 h7=>by
  refine q st' ⟨by rw[h1];exact h5.trans hB.perm,h3,h4⟩ ?_ (by rw[h2];exact hsz2) (λk hk=>by rw[h1];exact h6 k (.inr (by omega)))
  rw[h1,h2,hnew];refine Ch.app.mpr ⟨sa,c1.congr λk _ hk=>h6 k (.inl hk),rfl,?_,?_,?_⟩
  ·show 1<=na+nb;omega
  ·show Seg ρ ys sa (sa+(na+nb));rw[<- Nat.add_assoc];exact h7
  ·show Ch ρ ys (sa+(na+nb)) lo post
   rw[<- Nat.add_assoc];exact c8.congr λk hk _=>h6 k (.inr hk)
 have rb0:R ρ (arrOf st) (sa+na)=ρ b0:=R_at eb
 by_cases hk0:na - k=0
 ·rw[if_pos (by simpa using hk0)]
  refine wpS_pure (fin (arrOf st) _ rfl rfl hB.kind hB.failed (Array.Perm.refl _) (λ_ _=>rfl) λi j h1 h2 h3=>?_)
  by_cases hj:j < sa+na
  ·exact c4 i j h1 h2 hj
  ·by_cases hi':i < sa+na
   ·have:=g1 i h1 (by omega)
    have:=c7 (sa+na) j (by omega) (by omega) h3
    omega
   ·exact c7 i j (by omega) h2 h3
 ·rw[if_neg (by simpa using hk0)]
  obtain⟨al,ea,pa⟩:=atx (sa+k+(na - k) - 1) (by omega)
  have ral:R ρ (arrOf st) (sa+na - 1)=ρ al:=by rw[show sa+na - 1=sa+k+(na - k) - 1 by omega];exact R_at ea
  refine wpS_bind (aS ea ?_);refine wpS_bind (BH hL hB.kind pa (λi hi=>atx _ (by omega)) c7 (by omega) λk2 hk2 g3 g4=>?_)
  dsimp only
  by_cases hk20:k2=0
  ·subst hk20
   rw[if_pos (by simp)]
   refine wpS_pure (fin (arrOf st) _ rfl rfl hB.kind hB.failed (Array.Perm.refl _) (λ_ _=>rfl) λi j h1 h2 h3=>?_)
   by_cases hj:j < sa+na
   ·exact c4 i j h1 h2 hj
   ·by_cases hi':i < sa+na
    ·have:=g4 j (by omega) h3
     have:=c4 i (sa+na - 1) h1 (by omega) (by omega)
     omega
    ·exact c7 i j (by omega) h2 h3
  ·rw[if_neg (by simpa using hk20)]
   have hPx:∀ i j,j<=a₀.size->∀ x∈((arrOf st).extract i j).toList,P x:=λi j hj x hx=>by
    obtain⟨m,m1,m2,m3,m4⟩:=fF hx;obtain⟨y,ey,py⟩:=atx m (by omega)
    rw[m4] at ey;cases ey;exact py
   have zx:((arrOf st).extract (sa+k) (sa+na)).size=na - k:=by rw[Array.size_extract];omega
   have zy:((arrOf st).extract (sa+na) (sa+na+k2)).size=k2:=by rw[Array.size_extract];omega
   have T:Two ρ P ((arrOf st).extract (sa+k) (sa+na)) ((arrOf st).extract (sa+na) (sa+na+k2)) :=
    ⟨hPx _ _ (by omega),hPx _ _ (by omega),jY (λi j h1 h2 h3=>c4 i j (by omega) h2 h3) (by omega),jY (λi j h1 h2 h3=>c7 i j h1 h2 (by omega)) (by omega),by omega,by omega,
     λy hy z hz=>by
      obtain⟨m,m1,m2,m3,m4⟩:=fF hy;rw[zx,vv (by omega) (by omega),show sa+k+(na - k - 1)=sa+k+(na - k) - 1 by omega,ea] at hz
      cases hz;have:=g3 m m1 m2;rw[R_at m4] at this;omega,
     λy hy z hz=>by
      obtain⟨m,m1,m2,m3,m4⟩:=fF hy;rw[vv (by omega) (by omega),Nat.add_zero,eb] at hz
      cases hz;have:=g2 m m1 m2;rw[R_at m4] at this;omega⟩
   have done:∀ (r:Array Keyed) (st':SortSt),Kp (setPending st (((pendingOf st).setIfInBounds i (sa,na+nb,pw)).eraseIdxIfInBounds (i+1))) st'->Good ρ (((arrOf st).extract (sa+k) (sa+na)).toList++((arrOf st).extract (sa+na) (sa+na+k2)).toList) r.toList ->
     wpS M Ar E s (do
      modify λs=>setArr s (r.toList.zipIdx.foldl (λa (p,j)=>a.setIfInBounds (sa+k+j) p) (arrOf s))
      let x <- get
      pure (failedOf x).isNone) Q st':=λr st' hK hG=>by
    refine wpS_bind (wpS_modify (wpS_bind (wpS_get (wpS_pure ?_))));have ka:arrOf st'=arrOf st:=hK.a;have kp:pendingOf st'=_:=hK.p;have kf:failedOf st'=none:=hK.f.trans hB.failed;have kk:kindOf st'=kd:=hK.k.trans hB.kind;show Q (failedOf st').isNone _;rw[kf];have hlen:r.toList.length=na - k+k2:=by
     have:=hG.2.length_eq;simp only[List.length_append,Array.length_toList,zx,zy] at this ⊢;exact this
    have hbd:sa+k+r.toList.length<=(arrOf st).size:=by omega
    have get:=λm=>(mt (sa+k) r.toList 0 (arrOf st) (by simpa using hbd) m).1
    simp only[Nat.add_zero] at get;have hX:((arrOf st).extract (sa+k) (sa+na)).toList++((arrOf st).extract (sa+na) (sa+na+k2)).toList=((arrOf st).toList.drop (sa+k)).take r.toList.length:=by
     rw[hlen,List.take_add,List.drop_drop,show sa+k+(na - k)=sa+na by omega]
     rw[show sa+na=sa+k+(na - k) by omega,jp,show sa+k+(na - k)=sa+na by omega,jp]
    refine fin _ _ (by show _=r.toList.zipIdx.foldl _ (arrOf st);rw[ka]) kp kk kf (vt hbd (by rw[<- hX];exact hG.2)) (λm hm=>by rw[get m,if_neg (by omega)]) ?_
    have ry:∀ m,¬ (sa+k<=m/\m < sa+k+r.toList.length)->R ρ (r.toList.zipIdx.foldl (λa (p,j)=>a.setIfInBounds (sa+k+j) p) (arrOf st)) m=R ρ (arrOf st) m:=λm hm=>eX (by rw[get m,if_neg hm])
    have rz:∀ m (h:m - (sa+k) < r.toList.length),sa+k<=m->R ρ (r.toList.zipIdx.foldl (λa (p,j)=>a.setIfInBounds (sa+k+j) p) (arrOf st)) m=ρ (r.toList[m - (sa+k)]):=λm h hm=>by
     refine R_at ?_;rw[get m,if_pos (by omega),List.getElem?_eq_getElem h]
    have low:∀ z∈r.toList,∀ i,sa<=i->i < sa+k->R ρ (arrOf st) i<=ρ z:=λz hz i i1 i2=>by
     rcases List.mem_append.mp (hG.2.mem_iff.mp hz) with hz|hz
     ·obtain⟨m,m1,m2,m3,m4⟩:=fF hz
      rw[<- R_at (ρ:=ρ) m4];exact c4 i m i1 (by omega) m2
     ·obtain⟨m,m1,m2,m3,m4⟩:=fF hz
      have:=g1 i i1 i2;have:=c7 (sa+na) m (by omega) m1 (by omega)
      rw[<- R_at (ρ:=ρ) m4];omega
    have high:∀ z∈r.toList,∀ j,sa+na+k2<=j->j < sa+na+nb->ρ z<=R ρ (arrOf st) j:=λz hz j j1 j2=>by
     rcases List.mem_append.mp (hG.2.mem_iff.mp hz) with hz|hz
     ·obtain⟨m,m1,m2,m3,m4⟩:=fF hz
      have:=g4 j j1 j2;have:=c4 m (sa+na - 1) (by omega) (by omega) (by omega)
      rw[<- R_at (ρ:=ρ) m4];omega
     ·obtain⟨m,m1,m2,m3,m4⟩:=fF hz
      rw[<- R_at (ρ:=ρ) m4];exact c7 m j m1 (by omega) j2
    intro i j h1 h2 h3
    by_cases i1:i < sa+k
    ·rw[ry i (by omega)]
     by_cases j1:j < sa+k
     ·rw[ry j (by omega)];exact c4 i j h1 h2 (by omega)
     ·by_cases j2:j < sa+k+r.toList.length
      ·rw[rz j (by omega) (by omega)];exact low _ (List.getElem_mem _) i h1 i1
      ·rw[ry j (by omega)]
       have:=g1 i h1 i1;have:=c7 (sa+na) j (by omega) (by omega) h3
       omega
    ·by_cases i2:i < sa+k+r.toList.length
     ·rw[rz i (by omega) (by omega)]
      by_cases j2:j < sa+k+r.toList.length
      ·rw[rz j (by omega) (by omega)]
       by_cases e:i=j
       ·subst e;exact Nat.le_refl _
       ·exact List.pairwise_iff_getElem.mp hG.1 _ _ (by omega) (by omega) (by omega)
      ·rw[ry j (by omega)];exact high _ (List.getElem_mem _) j (by omega) h3
     ·rw[ry i (by omega),ry j (by omega)];exact c7 i j (by omega) h2 h3
   by_cases hle2:na - k<=k2
   ·rw[if_pos hle2]
    exact wpS_bind (oM hL hB.kind T done)
   ·rw[if_neg hle2]
    exact wpS_bind (oQ hL hB.kind T done)
end
end Vs

namespace Vs
open PySem PyProof.Rows
theorem Ch.modify {ρ:Keyed->Nat}{xs:Array Keyed}{f:BF->BF}(hf:∀ r,(f r).1=r.1/\(f r).2.1=r.2.1):∀ (l:List BF) (i s e:Nat),Ch ρ xs s e l->Ch ρ xs s e (l.modify i f)
 | [],i,s,e,h=>by rw[List.modify_nil];exact h
 | r::l,0,s,e,⟨h1,h2,h3,h4⟩=>by
  rw[List.modify_zero_cons];exact⟨(hf r).1.trans h1,by rw[(hf r).2];exact h2,by rw[(hf r).2];exact h3,by rw[(hf r).2];exact h4⟩
 | r::l,i+1,s,e,⟨h1,h2,h3,h4⟩=>by
  rw[List.modify_succ_cons];exact⟨h1,h2,h3,Ch.modify hf l i _ _ h4⟩
section
variable {M:Model}{Ar:Around}{E:Value->Shared->Prop}{s:Shared}{ρ:Keyed->Nat}{kd:SortKind}{P:Keyed->Prop}{a₀:Array Keyed}
theorem SI.setPend {st:SortSt}(h:SI kd a₀ st)(p:Array BF):SI kd a₀ (setPending st p):=⟨h.perm,h.kind,h.failed⟩
def gj (lo n:Nat):StateT SortSt Sem (ForInStep (Option Unit×Nat)):=do
 modify λs=>setPending s ((pendingOf s).push (lo,n,0))
 pure (ForInStep.yield (none,lo+n))
def eY (size pw:Nat):StateT SortSt Sem (Option Unit×Unit) :=
 forIn [:size] ((none,()):Option Unit×Unit) λ_ _=>do
  let x <- get
  match (if (pendingOf x).size > 1 then (pendingOf x)[(pendingOf x).size - 2]? else none) with
  | some (_,_,older) =>
   if older<=pw then pure (ForInStep.done (none,()))
   else do
    let r <- mergeAt' ((pendingOf x).size - 2)
    if (!r)=true then pure (ForInStep.done (some (),())) else pure (ForInStep.yield (none,()))
  | _=>pure (ForInStep.done (none,()))
def eZ (size lo n:Nat):StateT SortSt Sem (ForInStep (Option Unit×Nat)):=do
 let x <- get
 match (pendingOf x).back? with
 | some (s1,n1,_)=>do
  let r <- eY size (power' size (2*s1+n1) (2*s1+n1+n1+n) size)
  match r.fst with
  | some r=>pure (ForInStep.done (some r,lo))
  | none=>do
   modify λs=>setPending s ((pendingOf s).modify ((pendingOf s).size - 1) λx=>(x.fst,x.2.fst,power' size (2*s1+n1) (2*s1+n1+n1+n) size))
   gj lo n
 | _=>gj lo n
theorem jc {st:SortSt}{lo n:Nat}{Q:ForInStep (Option Unit×Nat)->SortSt->Prop}(hB:SI kd a₀ st)(hc:Ch ρ (arrOf st) 0 lo (pendingOf st).toList)(hn:1<=n)(hs:Seg ρ (arrOf st) lo (lo+n))
  (q:∀ st',SI kd a₀ st'->Ch ρ (arrOf st') 0 (lo+n) (pendingOf st').toList->Q (.yield (none,lo+n)) st'):wpS M Ar E s (gj lo n) Q st:=by
 unfold gj;refine wpS_bind (wpS_modify (wpS_pure (q _ (hB.setPend _) ?_)));show Ch ρ (arrOf st) 0 (lo+n) ((pendingOf st).push (lo,n,0)).toList;rw[Array.toList_push];exact Ch.app.mpr ⟨lo,hc,rfl,hn,hs,rfl⟩
theorem kG {st:SortSt}{pw lo n:Nat}{Q:Option Unit×Unit->SortSt->Prop}(hL:eI M Ar E s ρ kd P)(h0:∀ p∈a₀.toList,P p)(hB:SI kd a₀ st)(hlo:lo<=a₀.size)(hc:Ch ρ (arrOf st) 0 lo (pendingOf st).toList)(hs:Seg ρ (arrOf st) lo (lo+n))
  (q:∀ st',SI kd a₀ st'->Ch ρ (arrOf st') 0 lo (pendingOf st').toList->Seg ρ (arrOf st') lo (lo+n)->Q (none,()) st'):wpS M Ar E s (eY a₀.size pw) Q st:=by
 unfold eY;refine wpS_forRange (I:=λx c st'=>c=(none,())/\SI kd a₀ st'/\Ch ρ (arrOf st') 0 lo (pendingOf st').toList/\Seg ρ (arrOf st') lo (lo+n)) ?step ?fin ⟨rfl,hB,hc,hs⟩
 case fin =>
  rintro c st' ⟨rfl,h1,h2,h3⟩;exact q st' h1 h2 h3
 case step =>
  rintro x c st' _ hx ⟨rfl,h1,h2,h3⟩;refine wpS_bind (wpS_get ?_)
  by_cases hz:(pendingOf st').size > 1
  ·rw[if_pos hz]
   have e:(pendingOf st')[(pendingOf st').size - 2]?=some (pendingOf st')[(pendingOf st').size - 2]:=Array.getElem?_eq_getElem (by omega)
   rw[e];dsimp only
   split
   ·exact wpS_pure (q st' h1 h2 h3)
   ·refine wpS_bind (jb hL h0 h1 hlo h2 (by omega) λst2 b1 b2 b3 b4=>?_)
    simp only[Bool.not_true,Bool.false_eq_true,if_false];exact wpS_pure ⟨rfl,b1,b2,h3.congr λk hk _=>b4 k hk⟩
  ·rw[if_neg hz]
   exact wpS_pure (q st' h1 h2 h3)
theorem oT {st:SortSt}{lo n:Nat}{Q:ForInStep (Option Unit×Nat)->SortSt->Prop}(hL:eI M Ar E s ρ kd P)(h0:∀ p∈a₀.toList,P p)(hB:SI kd a₀ st)(hlo:lo<=a₀.size)(hc:Ch ρ (arrOf st) 0 lo (pendingOf st).toList)(hn:1<=n)(hs:Seg ρ (arrOf st) lo (lo+n))
  (q:∀ st',SI kd a₀ st'->Ch ρ (arrOf st') 0 (lo+n) (pendingOf st').toList->Q (.yield (none,lo+n)) st'):wpS M Ar E s (eZ a₀.size lo n) Q st:=by
 unfold eZ;refine wpS_bind (wpS_get ?_)
 split
 ·refine wpS_bind (kG hL h0 hB hlo hc hs λst' b1 b2 b3=>?_)
  dsimp only;refine wpS_bind (wpS_modify (jc (b1.setPend _) ?_ hn b3 q));show Ch ρ (arrOf st') 0 lo ((pendingOf st').modify _ _).toList;rw[Array.toList_modify];refine Ch.modify ?_ _ _ _ _ b2;intro r;exact⟨rfl,rfl⟩
 ·exact jc hB hc hn hs q
theorem ET (c:Prop)[Decidable c]{n:Nat}(h:2<=n):(if c then n - 2 - 1 else n - 2)+1 < n:=by split<;>omega
local macro_rules|`(tactic| walk_at "s_rest")=>`(tactic| (unfold eZ eY gj;congr 1;funext x;cases e:(pendingOf x).back? with
  | none=>rfl
  | some y=>(obtain⟨s1,n1,p1⟩:=y;dsimp only;congr 1;funext r;obtain⟨r1,r2⟩:=r;cases r1<;>rfl)))
theorem mv {st:SortSt}{Q:Unit->SortSt->Prop}(hL:eI M Ar E s ρ kd P)(h0:∀ p∈a₀.toList,P p)(hB:SI kd a₀ st)(hp:pendingOf st=#[])(h2:2<=a₀.size)
  (h:∀ st',SI kd a₀ st'->Seg ρ (arrOf st') 0 a₀.size->Q () st'):wpS M Ar E s sortRuns' Q st:=by
 rw[sortRuns'_eq];refine wpS_bind (wpS_get ?_);dsimp only;rw[hB.size];generalize minRun' a₀.size a₀.size 0=mr;refine wpS_bind (wpS_mono (wpS_forRange (I:=λx c st'=>SI kd a₀ st'/\∃ lo,c=(none,lo)/\lo<=a₀.size/\(x<=lo\/lo=a₀.size)/\Ch ρ (arrOf st') 0 lo (pendingOf st').toList)
  (Q:=λc st'=>SI kd a₀ st'/\c=(none,a₀.size)/\Ch ρ (arrOf st') 0 a₀.size (pendingOf st').toList) ?step ?fin ⟨hB,0,rfl,Nat.zero_le _,.inl (Nat.le_refl _),by rw[hp];rfl⟩) ?post)
 case fin =>
  rintro c st' ⟨hB',lo,rfl,l1,l2,hc⟩;have:lo=a₀.size:=by omega
  subst this;exact⟨hB',rfl,hc⟩
 case step =>
  rintro x c st' _ hx ⟨hB',lo,rfl,l1,l2,hc⟩;dsimp only
  by_cases hge:lo>=a₀.size
  ·rw[if_pos hge]
   have:lo=a₀.size:=by omega
   subst this;exact wpS_pure ⟨hB',rfl,hc⟩
  ·rw[if_neg hge]
   refine wpS_bind (mn hL h0 (by omega) (by omega) hB' λm st1 f1 m1 m2 s1=>?_)
   dsimp only;have hc1:Ch ρ (arrOf st1) 0 lo (pendingOf st1).toList:=by rw[f1.pend];exact hc.congr λk _ hk=>f1.same k hk
   have go:∀ n st2,1<=n->lo+n<=a₀.size->SI kd a₀ st2->Ch ρ (arrOf st2) 0 lo (pendingOf st2).toList->Seg ρ (arrOf st2) lo (lo+n)->wpS M Ar E s (eZ a₀.size lo n) (λr st' =>
     match r with
     | ForInStep.done c'=>SI kd a₀ st'/\c'=(none,a₀.size)/\Ch ρ (arrOf st') 0 a₀.size (pendingOf st').toList
     | ForInStep.yield c'=>SI kd a₀ st'/\∃ lo,c'=(none,lo)/\lo<=a₀.size/\(x+1<=lo\/lo=a₀.size)/\Ch ρ (arrOf st') 0 lo (pendingOf st').toList) st2:=λn st2 n1 n2 b1 b2 b3 =>
    oT hL h0 b1 l1 b2 n1 b3 λst' b1 b2=>⟨b1,lo+n,rfl,n2,by omega,b2⟩
   by_cases hlt:m < mr
   ·rw[if_pos hlt]
    refine wpS_bind (wpS_lift (wpAny_rule ⟨rfl,?_⟩));refine wpS_bind (jU hL h0 (by omega) (by omega) f1.si s1 λst2 f2 s2=>?_)
    simp only[Bool.not_true,Bool.false_eq_true,if_false];have z:=go (min (a₀.size - lo) mr) st2 (by omega) (by omega) f2.si (by rw[f2.pend];exact hc1.congr λk _ hk=>f2.same k hk) s2
    refine wpS_mono (Q:=_) (Eq.mpr (congrArg (λt=>wpS M Ar E s t _ st2) (?_:_=eZ a₀.size lo (min (a₀.size - lo) mr))) z) ?_
    ·walk_at "s_rest"
    ·intro r st'' hr
     cases r<;>exact hr
   ·rw[if_neg hlt]
    have z:=go m st1 m1 (by omega) f1.si hc1 s1
    refine wpS_mono (Q:=_) (Eq.mpr (congrArg (λt=>wpS M Ar E s t _ st1) (?_:_=eZ a₀.size lo m)) z) ?_
    ·walk_at "s_rest"
    ·intro r st'' hr
     cases r<;>exact hr
 case post =>
  rintro c st' ⟨hB',rfl,hc⟩;dsimp only;have hpl:(pendingOf st').size<=a₀.size:=by have:=Ch.le hc;simp only[Array.length_toList] at this;omega
  refine wpS_bind (wpS_mono (wpS_forRange (I:=λx c st'=>c=(none,())/\SI kd a₀ st'/\Ch ρ (arrOf st') 0 a₀.size (pendingOf st').toList/\((pendingOf st').size+x<=a₀.size\/(pendingOf st').size<=1))
   (Q:=λc st'=>c=(none,())/\SI kd a₀ st'/\Ch ρ (arrOf st') 0 a₀.size (pendingOf st').toList/\(pendingOf st').size<=1) ?fstep ?ffin ⟨rfl,hB',hc,.inl (by omega)⟩) ?fpost)
  case ffin =>
   rintro c st' ⟨rfl,b1,b2,b3⟩;exact⟨rfl,b1,b2,by omega⟩
  case fstep =>
   rintro x c st' _ hx ⟨rfl,b1,b2,b3⟩;refine wpS_bind (wpS_get ?_)
   try dsimp only
   by_cases hz:(pendingOf st').size<=1
   ·rw[if_pos hz]
    exact wpS_pure ⟨rfl,b1,b2,hz⟩
   ·rw[if_neg hz]
    refine wpS_bind (jb hL h0 b1 (Nat.le_refl _) b2 ?_ λst2 c1 c2 c3 c4=>?_)
    ·exact ET _ (by omega)
    ·simp only[Bool.not_true,Bool.false_eq_true,if_false]
     exact wpS_pure ⟨rfl,c1,c2,by omega⟩
  case fpost =>
   rintro c st' ⟨rfl,b1,b2,b3⟩;refine wpS_pure (h st' b1 ?_);have hl:(pendingOf st').toList.length<=1:=by simpa using b3
   generalize (pendingOf st').toList=l at b2 hl
   match l,b2,hl with
   | [],b2,_=>have:0=a₀.size:=b2;omega
   | [r],⟨_,_,h3,h4⟩,_ =>
    have h4:0+r.2.1=a₀.size:=h4;rw[h4] at h3;exact h3
   | _::_::_,_,hl=>simp at hl
end
end Vs

namespace Vs
open PySem PyProof.Rows PySem.W
theorem lx_irrefl:∀ a:List Int,HT.lexLt a a=false
 | []=>rfl
 | x::a=>by rw[HT.lexLt_cons,if_pos rfl];exact lx_irrefl a
theorem lx_trans:∀ a b c:List Int,HT.lexLt a b=true->HT.lexLt b c=true->HT.lexLt a c=true
 | [],[],_,h,_=>by cases h
 | [],_::_,[],_,h=>by cases h
 | [],_::_,_::_,_,_=>rfl
 | _::_,[],_,h,_=>by cases h
 | _::_,_::_,[],_,h=>by cases h
 | x::a,y::b,z::c,h1,h2=>by
  rw[HT.lexLt_cons] at h1 h2 ⊢
  by_cases e1:x=y
  ·rw[if_pos e1] at h1
   by_cases e2:y=z
   ·rw[if_pos e2] at h2
    rw[if_pos (e1.trans e2)];exact lx_trans a b c h1 h2
   ·rw[if_neg e2] at h2
    have:=of_decide_eq_true h2;rw[if_neg (by omega)];exact decide_eq_true (by omega)
  ·rw[if_neg e1] at h1
   have h1:=of_decide_eq_true h1
   by_cases e2:y=z
   ·rw[if_neg (by omega)];exact decide_eq_true (by omega)
   ·rw[if_neg e2] at h2
    have:=of_decide_eq_true h2;rw[if_neg (by omega)];exact decide_eq_true (by omega)
theorem lx_tri:∀ a b:List Int,HT.lexLt a b=false->HT.lexLt b a=false->a=b
 | [],[],_,_=>rfl
 | [],_::_,h,_=>by cases h
 | _::_,[],_,h=>by cases h
 | x::a,y::b,h1,h2=>by
  rw[HT.lexLt_cons] at h1 h2
  by_cases e1:x=y
  ·rw[if_pos e1] at h1
   rw[if_pos e1.symm] at h2;rw[e1,lx_tri a b h1 h2]
  ·rw[if_neg e1] at h1
   rw[if_neg (Ne.symm e1)] at h2;have:=of_decide_eq_false h1;have:=of_decide_eq_false h2;omega
def rk (d:Keyed->List Int)(l:List Keyed)(x:Keyed):Nat:=l.countP λp=>HT.lexLt (d p) (d x)
theorem lj {α:Type}{p q:α->Bool}:∀ {l:List α} {x:α},(∀ y,p y=true->q y=true)->x∈l->p x=false->q x=true->l.countP p < l.countP q
 | y::l,x,h,hx,h1,h2=>by
  rcases List.mem_cons.mp hx with rfl|hx
  ·rw[List.countP_cons_of_neg (by rw[h1];decide),List.countP_cons_of_pos h2]
   exact Nat.lt_succ_of_le (List.countP_mono_left λy _=>h y)
  ·have ih:=lj h hx h1 h2
   rw[List.countP_cons,List.countP_cons];cases e:p y with
   | true=>rw[h y e];simpa using ih
   | false=>split<;>split<;>first|omega | (exfalso;simp_all)
theorem rk_lt {d:Keyed->List Int}{l:List Keyed}{x y:Keyed}(hx:x∈l):decide (rk d l x < rk d l y)=HT.lexLt (d x) (d y):=by
 cases e:HT.lexLt (d x) (d y) with
 | true =>
  refine decide_eq_true (lj (x:=x) (λp hp=>lx_trans _ _ _ hp e) hx (lx_irrefl _) e)
 | false =>
  refine decide_eq_false (Nat.not_lt.mpr (List.countP_mono_left λp _ hp=>?_));cases e2:HT.lexLt (d p) (d x) with
  | true=>rfl
  | false =>
   cases e3:HT.lexLt (d x) (d p) with
   | true=>rw[lx_trans _ _ _ e3 hp] at e;cases e
   | false =>
    rw[lx_tri _ _ e2 e3] at hp;rw[hp] at e;cases e
section
variable {prog:Program}{w:World}{A:Around}{E:Value->Shared->Prop}{s:Shared}
theorem jd {b:Bool}{Q:Bool->Shared->Prop}:∀ {vs ws:List Value} {ns ms:List Int} (i:Nat) (fin:Bool),IntsAre vs ns->IntsAre ws ms->fin=decide (vs.length < ws.length)->Q (HT.lexLt ns ms) s->KatLex prog w A b fin Q (vs.zip ws) i s
 | _,_,_,_,i,fin,.nil,.nil,e,q=>by subst e;exact kat_nil q
 | _,_,_,_,i,fin,.nil,.cons _ _ _,e,q=>by subst e;rw[HT.lexLt_nil_cons] at q;exact kat_nil (by simpa using q)
 | _,_,_,_,i,fin,.cons _ _ _,.nil,e,q=>by subst e;rw[HT.lexLt_cons_nil] at q;exact kat_nil (by simpa using q)
 | _,_,_,_,i,fin,.cons n t h1,.cons m u h2,e,q=>by
  rw[List.zip_cons_cons];refine kat_cons (wpAny_eqBool_int ?_);rw[HT.lexLt_cons] at q
  by_cases h:n=m
  ·rw[if_pos h] at q
   rw[show (n==m)=true from by simpa using h]
   exact kat_yes (jd (i+1) fin h1 h2 (by rw[e];simp) q)
  ·rw[if_neg h] at q
   rw[show (n==m)=false from by simpa using h]
   refine kat_no ?_;cases (b&&i==0) with
   | true=>exact oneLt_int q
   | false=>exact kat_one _ _ (lt_int q)
def TupI (h:Heap)(v:Value)(ns:List Int):Prop:=∃ a o xs n,v=.ref a/\h.get? a=some o/\o.cls=.type "tuple"/\o.data=.seq xs n/\IntsAre xs.toList ns
theorem TupI.kept {h g:Heap}{v:Value}{ns:List Int}(t:TupI h v ns)(k:∀ b o,h.get? b=some o->g.get? b=some o):TupI g v ns:=by
 obtain⟨a,o,xs,n,e,ho,r⟩:=t;exact⟨a,o,xs,n,e,k _ _ ho,r⟩
theorem tR {b:Bool}{v u:Value}{ns ms:List Int}{Q:Bool->Shared->Prop}(h1:TupI s.heap v ns)(h2:TupI s.heap u ms)(q:Q (HT.lexLt ns ms) s):wpAny (model prog w) A (keyLt' (tuples' b) v u) Q E s:=by
 obtain⟨a,o,xs,n,rfl,ho,hc,hd,hi⟩:=h1;obtain⟨a2,o2,xs2,n2,rfl,ho2,hc2,hd2,hi2⟩:=h2;exact kat_lt ho hd ho2 hd2 (jd 0 _ hi hi2 (by simp) q)
theorem ltH_tup {b:Bool}{l:List Keyed}{d:Keyed->List Int}(h:∀ x∈l,TupI s.heap x.1 (d x)):eI (model prog w) A E s (rk d l) (tuples' b) (λx=>x∈l):=λx y st Q hx hy hk q=>by
 rw[rk_lt hx] at q;rw[lt'_eq];refine wpS_bind (wpS_get ?_);rw[hk];exact wpS_bind (wpS_lift (wpAny_attempt (tR (h x hx) (h y hy) ⟨rfl,wpS_pure q⟩)))
theorem kind_tup {vs:List Value}{Q:SortKind->Shared->Prop}(hl:0 < vs.length)(h:∀ v∈vs,∃ ns,TupI s.heap v ns/\ns≠[])(q:Q (tuples' true) s):wpAny (model prog w) A (keyKind' vs.toArray) Q E s:=by
 have key:∀ vs:List Value,(∀ v∈vs,∃ ns,TupI s.heap v ns/\ns≠[])->∃ fs,KatTups s.heap vs fs/\fs.length=vs.length/\∀ v∈fs,∃ n t,v=Value.int n t:=by
  intro vs
  induction vs with
  | nil=>intro _;exact⟨[],KatTups.nil,rfl,λv hv=>by cases hv⟩
  | cons v vs ih =>
   intro h;obtain⟨ns,⟨a,o,xs,n,rfl,ho,hc,hd,hi⟩,hne⟩:=h v (List.mem_cons_self ..);obtain⟨fs,f1,f2,f3⟩:=ih λu hu=>h u (List.mem_cons_of_mem _ hu);obtain⟨f,hf,hn⟩:∃ f,xs[0]?=some f/\∃ n t,f=Value.int n t:=by
    rw[<- Array.getElem?_toList];generalize xs.toList=ys at hi;cases hi with
    | nil=>exact absurd rfl hne
    | cons n t _=>exact⟨_,rfl,n,t,rfl⟩
   refine⟨f::fs,KatTups.cons ho hc hd hf f1,by simp [f2],λv hv=>?_⟩
   rcases List.mem_cons.mp hv with rfl|hv
   ·exact hn
   ·exact f3 v hv
 obtain⟨fs,f1,f2,f3⟩:=key vs h;refine kat_kind (T:=.type "int") f1 (by omega) (λv hv=>?_) rfl q
 obtain⟨n,t,rfl⟩:=f3 v hv;exact Looks.now
theorem dE {a:Addr}{vs:List Value}{n:Nat}{kd:SortKind}{ρ:Keyed->Nat}{P:Keyed->Prop}{Pf:PySem.Fin->Shared->Prop}(ho:s.heap.get? a=some (seqObj "list" vs.toArray n))(hz:vs.length<=sizeLine)(h0:∀ p∈(pairsOf vs).toList,P p)
  (hk:2<=vs.length->∀ g:Heap,(∀ b o,b≠a->s.heap.get? b=some o->g.get? b=some o)->(∀ Q:SortKind->Shared->Prop,Q kd { s with heap:=g }->wpAny (model prog w) A (keyKind' vs.toArray) Q E { s with heap:=g })/\eI (model prog w) A E { s with heap:=g } ρ kd P)
  (h:∀ (xs:Array Keyed) (g:Heap) (c:Nat),xs.Perm (pairsOf vs)->Seg ρ xs 0 vs.length->(∀ b o,b≠a->s.heap.get? b=some o->g.get? b=some o)->g.get? a=some (seqObj "list" (xs.map (·.2)) c)->Pf (.done (.ret .none)) { s with heap:=g }) :
  wpAny (model prog w) A (Builtin.«list.sort» ⟨[.ref a],[]⟩) Pf E s:=by
 rw[list_sort_plain];have ha:a < s.heap.objs.size:=Heap.lt_size ho;have hsz:vs.toArray.size=vs.length:=by simp
 refine wpAny_bind (listItems_at ho rfl ?_);refine wpAny_bind (listUpdate_at ho rfl ?_ (by rw[hsz];exact hz) (Nat.zero_le _))
 obtain⟨e1,ho1⟩:∃ e1,(s.heap.update a (Obj.mapSeq λ_=>#[])).get? a=some (seqObj "list" #[] e1):=⟨_,get?_update_seq ho (λ_=>#[])⟩;refine wpAny_bind (seqEpoch_at ho1 rfl ?_);refine wpAny_bind (wpAny_newTuple ?_ (by show vs.length<=_;exact hz))
 refine wpAny_bind (wpAny_newList ?_ (Nat.zero_le _));refine wpAny_holding ?_;have keep:∀ b o,b≠a->s.heap.get? b=some o->(((s.heap.update a (Obj.mapSeq λ_=>#[])).push (seqObj "tuple" vs.toArray 0)).push (seqObj "list" #[] 0)).get? b=some o:=λb o hb e =>
  Heap.get?_push_of_some _ (Heap.get?_push_of_some _ ((Heap.get?_update_other _ _ (Ne.symm hb)).trans e))
 have ho6:(((s.heap.update a (Obj.mapSeq λ_=>#[])).push (seqObj "tuple" vs.toArray 0)).push (seqObj "list" #[] 0)).get? a=some (seqObj "list" #[] e1):=Heap.get?_push_of_some _ (Heap.get?_push_of_some _ ho1);show wpAny (model prog w) A _ Pf E { s with heap:=((s.heap.update a (Obj.mapSeq λ_=>#[])).push (seqObj "tuple" vs.toArray 0)).push (seqObj "list" #[] 0) }
 dsimp only;generalize hg6:((s.heap.update a (Obj.mapSeq λ_=>#[])).push (seqObj "tuple" vs.toArray 0)).push (seqObj "list" #[] 0)=g6 at keep ho6;have fin:∀ xs:Array Keyed,xs.Perm (pairsOf vs)->Seg ρ xs 0 vs.length->Pf (.done (.ret .none)) { s with heap:=g6.update a (Obj.mapSeq λ_=>xs.map (·.2)) }:=λxs hp hs =>
  h xs _ _ hp hs (λb o hb e=>(Heap.get?_update_other _ _ (Ne.symm hb)).trans (keep b o hb e)) (get?_update_seq ho6 λ_=>xs.map (·.2))
 by_cases h2:vs.toArray.size < 2
 ·rw[if_pos h2,if_pos h2]
  refine wpAny_bind (wpAny_pure ?_);rw[StateT.run_pure];refine wpAny_bind (wpAny_pure ?_);dsimp only;refine wpAny_bind (seqEpoch_at ho6 rfl ?_);refine wpAny_bind (listUpdate_at ho6 rfl ?_ (Nat.zero_le _) (by rw[Array.size_map];show (pairsOf vs).size<=_;rw[pairsOf_size];exact Nat.le_succ_of_le hz))
  simp only[bne_self_eq_false,Bool.false_eq_true,if_false];refine wpAny_pure (fin _ (Array.Perm.refl _) λi j _ hij hj=>?_);have:i=j:=by omega
  subst this;exact Nat.le_refl _
 ·rw[if_neg h2,if_neg h2]
  obtain⟨k1,k2⟩:=hk (by omega) g6 keep
  refine wpAny_bind (k1 _ ?_);refine wpAny_bind (wpAny_mono (mv (a₀:=pairsOf vs) (kd:=kd) (st:=SortSt.mk' kd (vs.toArray.zip vs.toArray) #[] 7 none)
   (Q:=λ_ st'=>SI kd (pairsOf vs) st'/\Seg ρ (arrOf st') 0 (pairsOf vs).size) k2 h0 ⟨Array.Perm.refl _,rfl,rfl⟩ rfl (by rw[pairsOf_size];omega) λst' a1 a2=>⟨a1,a2⟩) ?_ λ_ _ e=>e)
  rintro ⟨⟨⟩,st'⟩ s' ⟨rfl,hp,hs⟩;dsimp only;refine wpAny_bind (seqEpoch_at ho6 rfl ?_);refine wpAny_bind (listUpdate_at ho6 rfl ?_ (Nat.zero_le _) (by refine Nat.le_trans (Nat.le_of_eq ((Array.size_map ..).trans (hp.size.trans (pairsOf_size _)))) ?_;exact Nat.le_succ_of_le hz))
  rw[hp.failed];simp only[bne_self_eq_false,Bool.false_eq_true,if_false];rw[pairsOf_size] at hs;exact wpAny_pure (fin _ hp.perm hs)
theorem sorted_any {l:Addr}{vs:List Value}{kd:SortKind}{ρ:Keyed->Nat}{P:Keyed->Prop}{Q:Value->Shared->Prop}(hl:s.heap.IsList l vs.toArray)(hz:vs.length<=sizeLine)(h0:∀ p∈(pairsOf vs).toList,P p)
  (hk:2<=vs.length->∀ (A':Around) (E':Value->Shared->Prop) (g:Heap),(∀ b o,s.heap.get? b=some o->g.get? b=some o)->(∀ Q:SortKind->Shared->Prop,Q kd { s with heap:=g }->wpAny (model prog w) A' (keyKind' vs.toArray) Q E' { s with heap:=g })/\eI (model prog w) A' E' { s with heap:=g } ρ kd P)
  (h:∀ (xs:Array Keyed) (g:Heap) (c:Nat),xs.Perm (pairsOf vs)->Seg ρ xs 0 vs.length->(∀ b o,s.heap.get? b=some o->g.get? b=some o)->g.get? (s.heap.objs.size+1)=some (seqObj "list" (xs.map (·.2)) c)->Q (.ref (s.heap.objs.size+1)) { s with heap:=g }) :
  wpAny (model prog w) A (call (.builtin "sorted") [.ref l]) Q E s:=by
 refine Calls.call_function_entry kind_sorted plain_sorted entry_sorted (args_sorted1 _) ?_;unfold Builtin.«sorted»;refine wpAny_bind (m:=checkCount "sorted" 1 1 _) (wpAny_pure ?_);refine wpAny_bind (collect_list hl ?_ hz);refine wpAny_bind (wpAny_newList ?_ hz);have hsz:((s.heap.push (seqObj "list" #[] 0)).update s.heap.objs.size (Obj.mapSeq (·++vs.toArray))).objs.size=s.heap.objs.size+1:=by
  rw[Heap.size_update,size_push']
 have hoL:(((s.heap.push (seqObj "list" #[] 0)).update s.heap.objs.size (Obj.mapSeq (·++vs.toArray))).push (seqObj "list" vs.toArray 0)).get? (s.heap.objs.size+1)=some (seqObj "list" vs.toArray 0):=by
  rw[<- hsz];exact Heap.get?_push_size _ rfl
 have keep:∀ b o,s.heap.get? b=some o->(((s.heap.push (seqObj "list" #[] 0)).update s.heap.objs.size (Obj.mapSeq (·++vs.toArray))).push (seqObj "list" vs.toArray 0)).get? b=some o:=λb o e=>by
  have hlt:b < s.heap.objs.size:=Heap.lt_size e;exact Heap.get?_push_of_some _ ((Heap.get?_update_other _ _ (Ne.symm (Nat.ne_of_lt hlt))).trans (Heap.get?_push_of_some _ e))
 have ne:∀ b o,s.heap.get? b=some o->b≠s.heap.objs.size+1:=λb o e=>Nat.ne_of_lt (Nat.lt_succ_of_lt (Heap.lt_size e));show wpAny _ _ _ _ _ { s with heap:=((s.heap.push (seqObj "list" #[] 0)).update s.heap.objs.size (Obj.mapSeq (·++vs.toArray))).push (seqObj "list" vs.toArray 0) }
 rw[hsz];refine wpAny_bind (wpAny_holding (wpAny_call_entry slot_list_sort ⟨_,hoL,rfl⟩ entry_list_sort (dE (kd:=kd) (ρ:=ρ) (P:=P) hoL hz h0 (λh2 g kg=>hk h2 _ _ g λb o e=>kg b o (ne b o e) (keep b o e)) λxs g c a1 a2 a3 a4=>⟨_,rfl,?_⟩) (args_list_sort _)));exact wpAny_pure ⟨_,rfl,h xs g c a1 a2 (λb o e=>a3 b o (ne b o e) (keep b o e)) a4⟩
end
end Vs

namespace Vc
open PySem L2
def dQ:Value->V
 | .ref a=>.ref a
 | _=>.non
theorem oU {us:List V}{its:List Value}(r:Vals us its)(h:∀ u∈us,∃ a,u=.ref a):us=its.map dQ:=by
 induction r with
 | nil=>rfl
 | cons r _ ih =>
  obtain⟨a,rfl⟩:=h _ (List.mem_cons_self ..);cases r;rw[List.map_cons,<- ih λu hu=>h u (List.mem_cons_of_mem _ hu)];rfl
theorem mw {its:List Value}(h:∀ v∈its,∃ a,v=.ref a):Vals (its.map dQ) its:=by
 induction its with
 | nil=>exact .nil
 | cons v its ih =>
  obtain⟨a,rfl⟩:=h _ (List.mem_cons_self ..);exact .cons rfl (ih λu hu=>h u (List.mem_cons_of_mem _ hu))
theorem cF {α:Type}:∀ l:List α,l.zip l=l.map λx=>(x,x)
 | []=>rfl
 | x::l=>by rw[List.zip_cons_cons,List.map_cons,cF l]
theorem oV {X:Cx}:CallR X (.builtin "sorted") (λxs H Q=>∃ (p:Addr) (us:List V) (dd:V->List Int),xs=[.ref p]/\SqL X.K H p us/\(∀ u∈us,(∃ a,u=.ref a/\SqT X.K H a ((dd u).map V.int))/\dd u≠[]) /\
  ∀ (us':List V),us'.Perm us->us'.Pairwise (λx y=>HT.lexLt (dd y) (dd x)=false)->∀ l,H l=none->Q (.ref l) (bz H l (.lst us'))):=by
 intro pins s σ H xs us0 Q I r h;obtain⟨p,us,dd,rfl,hq,hu,q⟩:=h;obtain⟨u,rfl,rx⟩:=cY r;cases rx;obtain⟨its,rv,pl,hz⟩:=I.list hq;have hlen:=rv.length;have eus:us=its.map dQ:=oU rv λu h=>by obtain⟨⟨a,e,_⟩,_⟩:=hu u h;exact⟨a,e⟩
 have itr:∀ v∈its,∃ a,v=.ref a:=λv hv=>by
  obtain⟨i,hi,e⟩:=List.mem_iff_getElem.mp hv;obtain⟨u,hu1,ru⟩:=rv.get (i:=i) (x:=us[i]'(by omega)) (List.getElem?_eq_getElem _)
  rw[List.getElem?_eq_getElem hi] at hu1;cases hu1;obtain⟨⟨a,e2,_⟩,_⟩:=hu (us[i]'(by omega)) (List.getElem_mem _)
  rw[e2] at ru;exact⟨a,by rw[<- e];exact ru⟩
 have tup:∀ v∈its,Vs.TupI s.heap v (dd (dQ v))/\dd (dQ v)≠[]:=λv hv=>by
  obtain⟨a,rfl⟩:=itr v hv;have hm:dQ (.ref a)∈us:=by rw[eus];exact List.mem_map.mpr ⟨_,hv,rfl⟩
  obtain⟨⟨b,e,hT⟩,hne⟩:=hu _ hm;cases e;obtain⟨ts,r1,⟨o,ho,hc,n,hd⟩,_⟩:=I.tuple hT;exact⟨⟨a,o,ts.toArray,n,rfl,ho,hc,hd,intsAre_of r1⟩,hne⟩
 have mem:∀ x:PyProof.Rows.Keyed,x∈(PyProof.Rows.pairsOf its).toList->x.1∈its/\x.1=x.2:=λx hx=>by
  rw[PyProof.Rows.pairsOf_toList,cF] at hx;obtain⟨v,hv,rfl⟩:=List.mem_map.mp hx;exact⟨hv,rfl⟩
 refine Vs.sorted_any (kd:=PyProof.Rows.tuples' true) (ρ:=Vs.rk (λx=>dd (dQ x.1)) (PyProof.Rows.pairsOf its).toList) (P:=λx=>x∈(PyProof.Rows.pairsOf its).toList) pl.isList (by omega) (λ_ h=>h) (λh2 A' E' g kg=>⟨λQ hQ=>?_,?_⟩) λxs g c hp hs kg hg=>?_
 ·exact Vs.kind_tup (s:={ s with heap:=g }) (by omega) (λv hv=>⟨_,(tup v hv).1.kept kg,(tup v hv).2⟩) hQ
 ·exact Vs.ltH_tup (s:={ s with heap:=g }) λx hx=>(tup x.1 (mem x hx).1).1.kept kg
 ·have hpl:xs.toList.Perm (PyProof.Rows.pairsOf its).toList:=Array.perm_iff_toList_perm.mp hp
  have hsz:xs.size=its.length:=by have:=hp.size_eq;rw[PyProof.Rows.pairsOf_size] at this;exact this
  have hm2:∀ x∈xs.toList,x.1∈its/\x.1=x.2:=λx hx=>mem x (hpl.mem_iff.mp hx);have perm:(xs.toList.map λx=>dQ x.2).Perm us:=by
   rw[eus];refine (hpl.map λx=>dQ x.2).trans ?_;rw[PyProof.Rows.pairsOf_toList,cF,List.map_map];exact List.Perm.refl _
  have eq2:xs.toList.map (λx=>dQ x.2)=(xs.map (·.2)).toList.map dQ:=by
   rw[Array.toList_map,List.map_map];rfl
  refine⟨.ref (s.heap.objs.size+1),_,I.laid (t':=s.toks) (o:=.lst (xs.toList.map λx=>dQ x.2)) kg (Nat.le_succ _) ⟨?_,(xs.map (·.2)).toList,c,?_,hg⟩,rfl,q _ perm ?_ _ (I.hok.fresh (Nat.le_succ _))⟩
  ·rw[perm.length_eq];exact hz
  ·rw[eq2]
   refine mw λv hv=>?_;rw[Array.toList_map] at hv;obtain⟨x,hx,rfl⟩:=List.mem_map.mp hv;have:=hm2 x hx;exact itr _ (this.2 ▸ this.1)
  ·rw[List.pairwise_map]
   refine List.pairwise_iff_getElem.mpr λi j hi hj hij=>?_;have hi':i < xs.size:=by simpa using hi
   have hj':j < xs.size:=by simpa using hj
   have h1:=hs i j (Nat.zero_le _) (Nat.le_of_lt hij) (by omega)
   rw[Vs.R_at (Array.getElem?_eq_getElem hi'),Vs.R_at (Array.getElem?_eq_getElem hj')] at h1;have e1:xs.toList[i]=xs[i]:=rfl;have e2:xs.toList[j]=xs[j]:=rfl;rw[e1,e2];have m1:=hm2 xs[i] (by simp)
   have m2:=hm2 xs[j] (by simp)
   have:=Vs.rk_lt (d:=λx=>dd (dQ x.1)) (l:=(PyProof.Rows.pairsOf its).toList) (x:=xs[j]) (y:=xs[i]) (hpl.mem_iff.mp (by simp))
   rw[decide_eq_false (by omega)] at this
   rw[<- m1.2,<- m2.2];exact this.symm
variable [KF]
variable {G:GE}{k:Nat}{S:Stat}
def bP:D->List Int
 | .tup xs=>xs.map gd
 | .int i=>[i]
 | _=>[]
def jr (x y:D):Bool:=!HT.lexLt (bP y) (bP x)
def bF (xs:List D):List D:=xs.mergeSort jr
def df:D->Bool
 | .tup xs=>xs.all isInt&&!xs.isEmpty
 | _=>false
theorem iH (a b c:D)(h1:jr a b=true)(h2:jr b c=true):jr a c=true:=by
 unfold jr at *;simp only[Bool.not_eq_true'] at *;cases e:HT.lexLt (bP c) (bP a) with
 | false=>rfl
 | true =>
  cases e2:HT.lexLt (bP c) (bP b) with
  | true=>rw[h2] at e2;cases e2
  | false =>
   cases e3:HT.lexLt (bP b) (bP c) with
   | true=>rw[Vs.lx_trans _ _ _ e3 e] at h1;cases h1
   | false=>rw[Vs.lx_tri _ _ e2 e3] at e;rw[e] at h1;cases h1
theorem tS (a b:D):(jr a b||jr b a)=true:=by
 unfold jr;cases e:HT.lexLt (bP b) (bP a) with
 | false=>rfl
 | true =>
  cases e2:HT.lexLt (bP a) (bP b) with
  | false=>rfl
  | true=>have:=Vs.lx_trans _ _ _ e e2;rw[Vs.lx_irrefl] at this;cases this
theorem aU (xs:List D):(bF xs).Perm xs:=List.mergeSort_perm xs jr
theorem cS (xs:List D):(bF xs).Pairwise λx y=>jr x y=true:=List.pairwise_mergeSort iH tS xs
theorem oW:∀ {xs:List D},xs.all isInt=true->(xs.map gd).map D.int=xs
 | [],_=>rfl
 | x::xs,h=>by
  rw[List.all_cons,Bool.and_eq_true] at h;cases x with
  | int i=>rw[List.map_cons,List.map_cons,oW h.2];rfl
  | _=>exact absurd h.1 (by simp [isInt])
theorem cT {d:D}(h:df d=true):d=.tup ((bP d).map D.int):=by
 cases d with
 | tup xs =>
  unfold df at h;rw[Bool.and_eq_true] at h;show D.tup xs=.tup ((xs.map gd).map D.int);rw[oW h.1]
 | _=>exact absurd h (by simp [df])
theorem eU {α:Type}{r:α->α->Prop}:∀ {l m:List α},l.Perm m->(∀ a∈l,∀ b∈l,r a b->r b a->a=b)->l.Pairwise r->m.Pairwise r->l=m
 | [],m,h,_,_,_=>(List.nil_perm.mp h).symm
 | a::l,[],h,_,_,_=>by have:=h.length_eq;simp at this
 | a::l,b::m,h,anti,h1,h2=>by
  have hb:b∈a::l:=h.symm.mem_iff.mp (List.mem_cons_self ..);have ha:a∈b::m:=h.mem_iff.mp (List.mem_cons_self ..);rw[List.pairwise_cons] at h1 h2;have e:a=b:=by
   rcases List.mem_cons.mp hb with e|hb
   ·exact e.symm
   ·rcases List.mem_cons.mp ha with e|ha
    ·exact e
    ·exact anti a (List.mem_cons_self ..) b (List.mem_cons_of_mem _ hb) (h1.1 b hb) (h2.1 a ha)
  subst e;rw[eU h.cons_inv (λx hx y hy=>anti x (List.mem_cons_of_mem _ hx) y (List.mem_cons_of_mem _ hy)) h1.2 h2.2]
theorem jZ {xs ys:List D}(h:xs.all df=true)(hp:ys.Perm xs)(hs:ys.Pairwise λx y=>jr x y=true):ys=bF xs:=by
 refine eU (hp.trans (aU xs).symm) (λa ha b hb h1 h2=>?_) hs (cS xs);have ia:=cT (List.all_eq_true.mp h a (hp.mem_iff.mp ha));have ib:=cT (List.all_eq_true.mp h b (hp.mem_iff.mp hb));unfold jr at h1 h2;simp only[Bool.not_eq_true'] at h1 h2;rw[ia,ib,Vs.lx_tri _ _ h2 h1]
def jt:List D->(EV->Prop)->Prop
 | [.lst xs],Q=>xs.all df=true/\Q (.own (bF xs))
 | _,_=>False
def gk (F:Hp):V->List Int
 | .ref a=>match F a with
  | some (.tup vs)=>vs.map λv=>match v with|.int i=>i|_=>0
  | _=>[]
 | _=>[]
theorem mx {F:Hp}{v:V}{d:D}(r:Rep F v d)(h:df d=true):gk F v=bP d/\∃ a,v=.ref a/\F a=some (.tup ((bP d).map V.int)):=by
 cases r with
 | tup hf rl =>
  unfold df at h;rw[Bool.and_eq_true] at h;have e:=rl.ints h.1;subst e;refine⟨?_,_,rfl,hf⟩;unfold gk;dsimp only;rw[hf];dsimp only;rw[List.map_map];exact (List.map_congr_left (λx _=>rfl)).trans (List.map_id _)
 | _=>exact absurd h (by simp [df])
theorem oY {F:Hp}:∀ {vs:List V} {xs:List D},RepL F vs xs->xs.all df=true->xs=vs.map λv=>.tup ((gk F v).map D.int)
 | _,_,.nil,_=>rfl
 | _,_,.cons r t,h=>by
  rw[List.all_cons,Bool.and_eq_true] at h;rw[List.map_cons,<- oY t h.2,(mx r h.1).1,<- cT h.1]
theorem RepL.mem {F:Hp}:∀ {vs:List V} {xs:List D},RepL F vs xs->∀ v∈vs,∃ d∈xs,Rep F v d
 | _,_,.cons r t,v,hv=>by
  rcases List.mem_cons.mp hv with rfl|hv
  ·exact⟨_,List.mem_cons_self ..,r⟩
  ·obtain⟨d,hd,rd⟩:=RepL.mem t v hv
   exact⟨d,List.mem_cons_of_mem _ hd,rd⟩
theorem my {F:Hp}{f:V->D}:∀ {vs:List V},(∀ v∈vs,Rep F v (f v))->RepL F vs (vs.map f)
 | [],_=>.nil
 | v::vs,h=>.cons (h v (List.mem_cons_self ..)) (my λu hu=>h u (List.mem_cons_of_mem _ hu))
theorem vw:tG G k S (.builtin "sorted") jt:=⟨λK xs H Q=>∃ (p:Addr) (us:List V) (dd:V->List Int),xs=[.ref p]/\SqL K H p us/\(∀ u∈us,(∃ a,u=.ref a/\SqT K H a ((dd u).map V.int))/\dd u≠[]) /\
  ∀ (us':List V),us'.Perm us->us'.Pairwise (λx y=>HT.lexLt (dd y) (dd x)=false)->∀ l,H l=none->Q (.ref l) (bz H l (.lst us')),λ_ _ ok=>oV,λY F H σd σ vs ds Qd Q R r q g=>by
 unfold jt at q
 split at q
 ·rename_i xs
  obtain⟨v,rfl,rv⟩:=r.one;obtain⟨p,us,rfl,h1,h2⟩:=rv.lst;have all:=List.all_eq_true.mp q.1;refine⟨p,us,gk F,rfl,.inl h1,λu hu=>?_,λus' hp hs=>?_⟩
  ·obtain⟨d,hd,rd⟩:=h2.mem u hu
   obtain⟨e1,a,rfl,e2⟩:=mx rd (all d hd);refine⟨⟨a,rfl,.of (by rw[e1];exact R.fr _ _ e2)⟩,?_⟩
   rw[e1];have hi:=all d hd;cases d with
   | tup ys =>
    unfold df at hi;rw[Bool.and_eq_true] at hi;intro z;have:ys=[]:=by simpa [bP] using z
    subst this;exact absurd hi.2 (by decide)
   | _=>exact absurd hi (by simp [df])
  ·have ex:=oY h2 q.1
   have rep:∀ v∈us',Rep F v (.tup ((gk F v).map D.int)):=λv hv=>by
    obtain⟨d,hd,rd⟩:=h2.mem v (hp.mem_iff.mp hv);rw[(mx rd (all d hd)).1,<- cT (all d hd)];exact rd
   have key:∀ v,bP (.tup ((gk F v).map D.int))=gk F v:=λv=>by
    show ((gk F v).map D.int).map gd=_;rw[List.map_map];exact (List.map_congr_left (λx _=>rfl)).trans (List.map_id _)
   have e:us'.map (λv=>D.tup ((gk F v).map D.int))=bF xs:=by
    refine jZ q.1 (by rw[ex];exact hp.map _) ?_
    rw[List.pairwise_map];refine hs.imp λ{x y} h=>?_;unfold jr;rw[key,key,h];rfl
   have rl:=my rep;rw[e] at rl;exact g.own R rl q.2
 ·exact q.elim⟩
end Vc

namespace Vc
open PySem L2
variable [KF]
variable {G:GE}{k:Nat}{S:Stat}
def vy (i:Nat)(j:Int)(d:D)(σ:Sd)(Q:Sd->Prop):Prop:=match σ[i]? with
 | some (some (.own xs))=>match ixN xs.length j with
  | some m=>Q (σ.set i (some (.own (xs.set m d))))
  | none=>False
 | _=>False
def oZ (i:Nat)(tx:TV)(te:TD):cj:=λDe σ=>te σ λd σ1=>oi σ1 i/\tx σ1 λy σ2=>match drf σ2 y with
 | some (.int j)=>vy i j d σ2 De.nx
 | _=>False
theorem BJ {X:Cx}{st:Stmt}{t t':TS}(h:PS X st t)(i:∀ Dn σ H,t' Dn σ H->t Dn σ H):PS X st t':=λpins s σ H Dn I q=>h pins s σ H Dn I (i Dn σ H q)
theorem qE (i:Nat){x:Str}{ix e:Expr}{tx:TV}{te:TD}{pos spos npos:Pos}(he:ED G k S e te)(hx:EO G k S ix tx)(ho:EO G k S (.Name x npos) (ab i))
  (hs:∀ line env,swapsWithSole [.Subscript (.Name x npos) ix spos] e line env=pure false:=by intro _ _;rfl) (hw:∀ env,swappedStores [.Subscript (.Name x npos) ix spos] e env=pure none:=by intro _;rfl)
  (h1:∀ env,(assignEach [.Subscript (.Name x npos) ix spos] env).map (·.2)=[assign (.Subscript (.Name x npos) ix spos) env]:=by intro _;rfl)
  (ha:∀ env v,assign (.Subscript (.Name x npos) ix spos) env v=(do
   let ov <- holding [v] (eval (.Name x npos) env)
   let iv <- holding [v,ov] (eval ix env)
   standAt spos
   holding [v,ov,iv] (setItem ov iv v)
   release [v,ov,iv] []):=by intro _ _;rfl):ES G k S (.Assign [.Subscript (.Name x npos) ix spos] e pos) (oZ i tx te):=.mk λX Y ok =>
 BJ (ps_asg (he X Y ok) (DR (ho X Y ok) (hx X Y ok) uy (ha _)) (hs _ _) (hw _) (h1 _)) λDn σ H q=>by
  obtain⟨F,σd,De,R,q,K⟩:=q;refine⟨F,σd,_,R,q,λv H1 F1 d σ1 s1 R1 r1 q1=>?_⟩;obtain⟨⟨ys,e0⟩,q1⟩:=q1;refine⟨F1,σ1,λov σ2=>ov=.var i/\σ2=σ1,R1,?_,λv2 H2 F2 ov σ2 s2 R2 r2 q2=>?_⟩
  ·unfold ab;rw[e0];exact⟨rfl,rfl⟩
  ·obtain⟨rfl,rfl⟩:=q2
   have r2:σ[i]?=some (some v2):=r2;refine⟨F2,σ2,_,R2,q1,λv3 H3 F3 y σ3 s3 R3 r3 q3=>?_⟩
   split at q3
   ·rename_i j ej
    unfold vy at q3
    split at q3
    ·rename_i xs ex
     split at q3
     ·rename_i m em
      obtain⟨a,vs,w1,w2,w3,w4,w5⟩:=R3.own i xs ex;rw[r2] at w1;cases w1;have rj:=(R3.drf r3 ej).int;subst rj;refine⟨a,vs,j,m,rfl,rfl,w2,by rw[w3.length];exact em,?_⟩
      exact K.nx _ _ F3 _ ((s1.trans s2).trans s3) (R3.write ex r2 (RepL.set ((r1.mono s2).mono s3) m w3)) q3
     ·exact q3.elim
    ·exact q3.elim
   ·exact q3.elim

abbrev je:=List D->List D->(B->List D->Prop)->Prop
def mB (sp:je):Sp:=λvs H Q _=>∃ F xs ds a us rest Qd,vs=.ref a::rest/\rG F H/\H a=some (.lst us)/\RepL F us xs/\F a=none/\RepL F rest ds/\sp xs ds Qd /\
 ∀ v H' F' b ys us',Same F F'->Same F' H'->(∀ c o,c≠a->H c=some o->H' c=some o)->H' a=some (.lst us')->RepL F' us' ys->F' a=none->(∀ c o,F' c=some o->F c=some o\/Nw H c o)->EC H F' H' v b->Qd b ys->Q v H'
def FnIo (G:GE)(k:Nat)(x:Str)(sp:je):Prop:=∃ f fd ps,FnOk G.P G.w G.K G.mg G.base qd k f fd ps (mB sp)/\G.mg x=some (.ref f)/\PySem.W.keepIn G.K (.ref f)=true/\Binds G.K fd ps []
theorem FnIo.mono {x:Str}{sp:je}{j:Nat}(h:FnIo G j x sp)(l:j<=k):FnIo G k x sp:=by
 obtain⟨f,fd,ps,h1,h2,h3,h4⟩:=h;exact⟨f,fd,ps,h1.mono l,h2,h3,h4⟩
theorem NoOwn.reown {σd:Sd}{σ:St}{a:Addr}{i:Nat}{xs ys:List D}(h:NoOwn σd σ a)(e:σd[i]?=some (some (.own xs))):NoOwn (σd.set i (some (.own ys))) σ a:=by
 refine⟨λj js e1 z=>?_,λ⟨j,o,c,e1,e2,hm⟩=>?_⟩
 ·rcases gs e1 with ⟨rfl,_⟩|⟨_,e1⟩
  ·exact h j xs e z
  ·exact h j js e1 z
 ·rcases gs e1 with ⟨_,z⟩|⟨_,e1⟩
  ·cases z
  ·exact h.nob ⟨j,o,c,e1,e2,hm⟩
theorem RS.callIo {Y:Dyn}{F F':Hp}{σd:Sd}{σ:St}{H H':Hp}{i:Nat}{xs ys:List D}{a:Addr}{us:List V}(R:RS Y F σd σ H)(e:σd[i]?=some (some (.own xs)))(h:σ[i]?=some (some (.ref a)))(s1:Same F F')(s2:Same F' H')(s3:∀ c o,c≠a->H c=some o->H' c=some o)
  (ha:H' a=some (.lst us)) (r:RepL F' us ys) (fa:F' a=none) (fr:∀ c o,F' c=some o->F c=some o\/Nw H c o):RS Y F' (σd.set i (some (.own ys))) σ H':=by
 obtain⟨b,vs,w1,w2,w3,w4,w5⟩:=R.own i xs e;rw[h] at w1;cases w1;have hl:i < σd.length:=(List.getElem?_eq_some_iff.mp e).1;have hob:Obs Y F' (σd.set i (some (.own ys))) σ H':=R.ob.step s1 (λj o q=>by
  rcases gs q with ⟨_,z⟩|⟨hj,q⟩
  ·cases z
  ·exact⟨q,rfl⟩) (λb hb=>by
  obtain⟨z1,z2,z3⟩:=R.ob.owned hb;have hne:b≠a:=λz=>R.ob.dsx i xs a e h (z ▸ hb);refine⟨?_,?_,z3⟩
  ·cases q:H b with
   | none=>exact absurd q z2
   | some o=>exact s3 b o hne q
  ·cases q:F' b with
   | none=>rfl
   | some o =>
    rcases fr b o q with w|w
    ·rw[z1] at w;cases w
    ·rcases w with w|⟨ws,rfl⟩
     ·exact absurd w z2
     ·cases q3:H b with
      | none=>exact absurd q3 z2
      | some o3 =>
       have y:=s2 b _ q;rw[s3 b o3 hne q3] at y;cases y;exact absurd q3 (R.ob.notup hb)) (λj zs b q1 q2=>by
  rcases gs q1 with ⟨e1,_⟩|⟨hj,q1⟩
  ·subst e1
   rw[h] at q2;cases q2;exact R.ob.dsx j xs a e h
  ·exact R.ob.dsx j zs b q1 q2) λb hb=>by
  by_cases hne:b=a
  ·rw[hne,ha];exact λz=>nomatch z
  ·cases q:H b with
   | none=>exact absurd q (R.ob.there b hb)
   | some o=>rw[s3 b o hne q];exact λz=>nomatch z
 refine⟨by simpa using R.len,R.lo.trans s1,s2,λb o q=>?_,λb o q n=>?_,λj d q=>?_,λj zs q=>?_,λj l zs qs b q1 q2 q3 q4=>?_,λp hp=>?_,hob⟩
 ·rcases fr b o q with h|h
  ·exact R.fro b o h
  ·exact .inr (h.imp (λh=>(R.fresh0 h).1) id)
 ·have:b≠a:=λz=>by
   subst z;rcases w5 with w5|w5
   ·rw[w5] at q;cases q
   ·exact Dyn.ioL_sub n w5
  exact s3 b o this (R.old b o q n)
 ·rcases gs q with ⟨_,z⟩|⟨hj,q⟩
  ·cases z
  ·obtain⟨v,h1,h2⟩:=R.sh j d q
   exact⟨v,h1,h2.mono s1⟩
 ·rcases gs q with ⟨rfl,z⟩|⟨hj,q⟩
  ·cases z
   exact⟨a,us,h,ha,r,fa,w5⟩
  ·obtain⟨b,ws,z1,z2,z3,z4,z5⟩:=R.own j zs q
   have:b≠a:=λz=>hj (R.dis j i zs xs a q e (z ▸ z1) h);refine⟨b,ws,z1,s3 b _ this z2,z3.mono s1,?_,z5⟩;cases q':F' b with
   | none=>rfl
   | some o =>
    rcases fr b o q' with h|h
    ·rw[z4] at h;cases h
    ·rcases h with h|⟨ws',rfl⟩
     ·rw[z2] at h;cases h
     ·have y:=s2 b _ q';rw[s3 b _ this z2] at y;cases y
 ·have f:∀ {m:Nat} {ms:List D},(σd.set i (some (B.own ys)))[m]?=some (some (B.own ms))->∃ ms',σd[m]?=some (some (B.own ms')):=λ{m ms} q=>by
   rcases gs q with ⟨rfl,z⟩|⟨hj,q⟩
   ·exact⟨xs,e⟩
   ·exact⟨_,q⟩
  obtain⟨_,q1⟩:=f q1;obtain⟨_,q2⟩:=f q2;exact R.dis j l _ _ b q1 q2 q3 q4
 ·obtain⟨z1,zs,z2⟩:=R.io p hp
  refine⟨z1,?_⟩
  by_cases hp':p.1=i
  ·exact⟨ys,by rw[hp',iW hl]⟩
  ·exact⟨zs,by rw[br hp'];exact z2⟩
def Qo (sp:je)(xs ds:List D)(Q:B->List D->Prop):Prop:=sp xs ds Q
def bX (sp:je)(i:Nat)(t:eG):TX:=λσ Q=>oi σ i/\t σ λds σ1=>match σ1[i]? with
 | some (some (.own xs))=>Qo sp xs ds λb ys=>Q (bE b) (σ1.set i (some (.own ys)))
 | _=>False
theorem aD {x y:Str}{sp:je}{i:Nat}{es:List Expr}{t:eG}{p pos npos:Pos}(h:FnIo G k x sp)(ho:EO G k S (.Name y npos) (ab i))(ha:EDs G k S es t)(hg:S.sc.lookup x=some .globalImplicit:=by rfl)(hdb:(x==("__debug__":Str))=false:=by decide)
  (he:∀ env,starEach (.Name y npos::es) env=(false,eval (.Name y npos) env)::starEach es env:=by intro _;rfl) (hpl:∀ env,(backTo pos (starEach es env)).any (·.1)=false:=by intro _;rfl) (hh:S.hot=false:=by rfl):EX G k S (.Call (.Name x p) (.Name y npos::es) [] pos) (bX sp i t):=.mk λX Y ok=>by
 obtain⟨f,fd,ps,h1,h2,h3,h4⟩:=h;have h1':FnOk X.prog X.w X.K X.mg X.base qd k f fd ps (mB sp):=by rw[ok.P,ok.w,ok.K,ok.mg,ok.base];exact h1
 refine aP (rA (E:=E0) (dvs:=[]) (ds:=[]) h1' (ok.room hh) (dm ok hg) (by rw[ok.mg];exact h2) (by rw[ok.K];exact h3) (by rw[ok.K];exact h4) .nil Cu (pa_cons (ho X Y ok) (ha X Y ok) (he _)) hdb (he _) (hpl _)) λσ H Q q=>?_
 obtain⟨F,σd,Qd,R,⟨⟨ys,e0⟩,q⟩,K⟩:=q;refine⟨F,σd,λov σ2=>ov=.var i/\σ2=σd,R,?_,λv1 H1 F1 ov σ1 s1 R1 r1 q1=>?_⟩
 ·unfold ab;rw[e0];exact⟨rfl,rfl⟩
 obtain⟨rfl,rfl⟩:=q1;have r1:σ[i]?=some (some v1):=r1;refine⟨F1,σ1,_,R1,q,λvs H2 F2 ds σ2 s2 R2 r2 q2=>?_⟩
 split at q2
 ·rename_i xs ex
  obtain⟨a,us,w1,w2,w3,w4,w5⟩:=R2.own i xs ex;rw[r1] at w1;cases w1;show mB sp ((.ref a::vs)++[]) H2 Q E0;rw[List.append_nil];refine⟨F2,xs,ds,a,us,vs,_,rfl,⟨R2.fr,R2.ob.tab⟩,w2,w3,w4,r2,q2,λv H' F' b zs us' t1 t2 t3 t4 t5 t6 t7 t8 t9=>?_⟩;have R3:=R2.callIo ex r1 t1 t2 t3 t4 t5 t6 t7;cases b with
  | sh d=>exact K v H' F' (.val d) _ ((s1.trans s2).trans t1) R3 t8 t9
  | own ws =>
   obtain⟨c,cs,rfl,z1,z2,z3,z4⟩:=t8;refine K _ H' F' (.own ws) _ ((s1.trans s2).trans t1) R3 ⟨c,cs,rfl,z1,z2,z3,(R2.fresh0 z4).1,(R2.noFresh z4).reown ex⟩ t9
  | obj o =>
   obtain⟨c,rfl,z1,z2⟩:=t8;exact K _ H' F' (.obj o) _ ((s1.trans s2).trans t1) R3 ⟨c,rfl,z1,λb hb=>⟨(z2 b hb).1,(z2 b hb).2.1,(R2.fresh0 (z2 b hb).2.2).1,(R2.noFresh (z2 b hb).2.2).reown ex⟩⟩ t9
 ·exact q2.elim
def startIo (n:Nat)(xs ds:List D):Sd:=some (.own xs)::aO (n - 1) ds
def qF (Q:B->List D->Prop)(b:B)(σ:Sd):Prop:=match σ[(0:Nat)]? with
 | some (some (.own ys))=>Q b ys
 | _=>False
theorem RS.startIo {F H:Hp}{a:Addr}{us rest:List V}{xs ds:List D}(n:Nat)(hn:1<=n)(s:rG F H)(ha:H a=some (.lst us))(ru:RepL F us xs)(fa:F a=none)(r:RepL F rest ds) :
  RS ⟨H,F,[(0,a)],[]⟩ F (startIo n xs ds) ((V.ref a::rest).map some++List.replicate (n - (V.ref a::rest).length) none) H where
 len:=by unfold Vc.startIo aO;simp [r.length];omega
 lo:=Same.refl _
 fr:=s.1
 fro:=λb o e=>.inl e
 old:=λb o e _=>e
 sh:=λi d e=>by
  cases i with
  | zero=>unfold Vc.startIo at e;simp at e
  | succ i =>
   have e':(aO (n - 1) ds)[i]?=some (some (.sh d)):=by unfold Vc.startIo at e;simpa using e
   obtain⟨v,h1,h2⟩:=jM (n - 1 - ds.length) r e';refine⟨v,?_,h2⟩;have:n - (V.ref a::rest).length=n - 1 - ds.length:=by rw[List.length_cons,r.length];omega
   rw[this];simpa using h1
 own:=λi zs e=>by
  cases i with
  | zero =>
   unfold Vc.startIo at e;simp at e;subst e;exact⟨a,us,by simp,ha,ru,fa,.inr (by simp [Dyn.ioL])⟩
  | succ i =>
   have e':(aO (n - 1) ds)[i]?=some (some (.own zs)):=by unfold Vc.startIo at e;simpa using e
   exact absurd e' (dH _ _ _ _)
 dis:=λi j zs ys b e1 e2 _ _=>by
  have z:∀ {i:Nat} {zs:List D},(Vc.startIo n xs ds)[i]?=some (some (.own zs))->i=0:=λ{i zs} e=>by
   cases i with
   | zero=>rfl
   | succ i =>
    have e':(aO (n - 1) ds)[i]?=some (some (.own zs)):=by unfold Vc.startIo at e;simpa using e
    exact absurd e' (dH _ _ _ _)
  rw[z e1,z e2]
 io:=λp hp=>by
  have:p=(0,a):=by simpa using hp
  subst this;exact⟨by simp,xs,rfl⟩
 ob:=.none (λi o e=>by
  cases i with
  | zero=>unfold Vc.startIo at e;simp at e
  | succ i =>
   have e':(aO (n - 1) ds)[i]?=some (some (.obj o)):=by unfold Vc.startIo at e;simpa using e
   exact absurd e' (ir _ _ _ _)) s.2 λb hb=>by cases hb
theorem BK {x qual:Str}{st:Stmt}{f:Addr}{fd:FuncData}{N ps:List Str}{sp:je}{t:cj}(hK:G.K=KF.K)(Fn:Fun G.K x qual st f fd)(Sc:FnScope N ps (af st))(ht:ESs G k ⟨N,(af st).names,[0],false,false,false,λ_ _=>False⟩ (ao st) t)(hn:1<=N.length)
  (len:∀ xs ds Q,sp xs ds Q->ds.length+1=ps.length)
  (body:∀ xs ds Q,sp xs ds Q->t { nx:=qF Q (.sh .non),rt:=λb σ=>qF Q b σ } (startIo N.length xs ds)):FnOk G.P G.w G.K G.mg G.base qd (k+1) f fd ps (mB sp):=by
 refine Fn.ok Sc (λvs H Q E h=>?_) (λcdv A outer s H vs Q E hr h=>?_)
 ·obtain⟨F,xs,ds,a,us,rest,Qd,rfl,s,h1,h2,h3,r,q,K⟩:=h
  rw[List.length_cons,r.length];exact len _ _ _ q
 ·obtain⟨F,xs,ds,a,us,rest,Qd,rfl,sm,h1,h2,h3,r,q,K⟩:=h
  refine⟨_,ht (nM qd G.P G.w G.K G.mg G.base N qual (af st) f cdv A outer s H E).nox ⟨H,F,[(0,a)],[]⟩ ⟨rfl,rfl,rfl,hK,rfl,rfl,rfl,rfl,Sc.nd,λp hp=>by
   have:p=(0,a):=by simpa using hp
   subst this;simp,(λ_ h=>nomatch h),λ_=>rfl,Sc.kind,λ_ _ _=>rfl,λ_=>hr.hd,hr.dp,hr.un,λ_=>PassesOwn.never,λ_=>⟨rfl,rfl,rfl⟩,λ_ _ h=>h.elim,λh=>nomatch h⟩,F,startIo N.length xs ds,_,RS.startIo _ hn sm h1 h2 h3 r,body xs ds Qd q,?_⟩
  have same:∀ {F':Hp} {σd:Sd} {σ:St} {H':Hp},RS ⟨H,F,[(0,a)],[]⟩ F' σd σ H'->∀ c o,c≠a->H c=some o->H' c=some o:=λR c o hc e=>R.old c o e (by simpa [Dyn.ioA] using hc)
  have fin:∀ {F':Hp} {σd:Sd} {σ:St} {H':Hp} {v:V} {b:B},Same F F'->RS ⟨H,F,[(0,a)],[]⟩ F' σd σ H'->EC H F' H' v b->qF Qd b σd->Q v H':=λ{F' σd σ H' v b} s' R' r' q'=>by
   unfold qF at q'
   split at q'
   ·rename_i ys ey
    obtain⟨c,us',w1,w2,w3,w4,w5⟩:=R'.own 0 ys ey;have i0:=(R'.io (0,a) (by simp)).1
    rw[i0] at w1;cases w1;exact K v H' F' b ys us' s' R'.fr (same R') w2 w3 w4 R'.fro r' q'
   ·exact q'.elim
  refine⟨λσ H' F' σd s' R' q'=>?_,λv σ H' F' σd b s' R' r' q'=>?_,λ_ _ _ _ _ _ h=>h.elim,λ_ _ _ _ _ _ h=>h.elim⟩
  ·exact fin (b:=.sh .non) s' R' .non q'
  ·refine fin (b:=b) s' R' ?_ q'
   cases b with
   | sh d=>exact r'
   | own xs =>
    obtain⟨a,us,rfl,w1,w2,w3,w4,w5⟩:=r';exact⟨a,us,rfl,w1,w2,w3,w4⟩
   | obj o =>
    obtain⟨a,rfl,w1,w2⟩:=r';exact⟨a,rfl,w1,λb hb=>⟨(w2 b hb).1,(w2 b hb).2.1,(w2 b hb).2.2.1⟩⟩
theorem FnD.fio {x:Str}{st:Stmt}{ps N:List Str}{f:Addr}{fd:FuncData}{t:cj}{sp:je}(d:FnD G x st ps f fd)(hK:G.K=KF.K)(Sc:FnScope N ps (af st))(ht:ESs G k ⟨N,(af st).names,[0],false,false,false,λ_ _=>False⟩ (ao st) t)(hn:1<=N.length)
  (len:∀ xs ds Q,sp xs ds Q->ds.length+1=ps.length) (body:∀ xs ds Q,sp xs ds Q->t { nx:=qF Q (.sh .non),rt:=λb σ=>qF Q b σ } (startIo N.length xs ds)):FnIo G (k+1) x sp :=
 ⟨f,fd,ps,BK hK d.F Sc ht hn len body,d.m,d.F.kp,d.b⟩
end Vc

namespace Vc
open PySem L2
variable [KF]
variable {G:GE}{k:Nat}{S:Stat}
def fy (S:Stat)(scope:Scope)(N':List Str)(m:Nat):Stat:=⟨N',fZ scope.names S.sc,[m],true,false,false,λ_ _=>False⟩
theorem fG {X X':Cx}{Y:Dyn}{scope:Scope}{N':List Str}{caps:List (Option Nat)}{m:Nat}(hh:S.hot=false)(ok:XOk X G k S Y)(b:BlkOk S scope N' caps)(c:CompX X X' scope N')(Y':Dyn)(hio:∀ p∈Y'.io,p.1=m):XOk X' G k (fy S scope N' m) Y' :=
 have z:=gc hh ok b c ⟨Y'.H0,Y'.F0,[],[]⟩ rfl
 ⟨z.P,z.w,z.K,z.kf,z.mg,z.base,z.N,z.sc,z.nd,λp hp=>by rw[hio p hp];exact List.mem_singleton.mpr rfl,(λh=>nomatch h),z.calm,z.kind,(λh=>by cases h),z.hd,z.dp,z.un,z.po,(λh=>nomatch h),(λ_ _ h=>h.elim),λh=>nomatch h⟩
def jf (m:Nat)(σ:Sd)(Q:List D->Prop):Prop:=match σ[m]? with
 | some (some (.own ys))=>Q ys
 | _=>False
def fH (g:iX)(tc:TB)(te:TD)(σc:Sd)(m:Nat):List D->List D->List D->(List D->List D->Prop)->Prop
 | [],acc,xs,Q=>Q acc xs
 | x::r,acc,xs,Q=>g x (σc.set m (some (.own xs))) λσ1=>tc σ1 λb σ2=>if b=true then te σ2 λd σ3=>iY σc σ3/\acc.length < sizeLine/\jf m σ3 λys=>fH g tc te σc m r (acc++[d]) ys Q
  else iY σc σ2/\jf m σ2 λys=>fH g tc te σc m r acc ys Q
def du (ios:List Nat)(caps:List (Option Nat))(j m:Nat)(ti:eG)(g:iX)(tc:TB)(te:TD):TX:=λσ Q=>ti σ λitems σ1=>om ios (caps.set m none) σ1 λσ2=>jf j σ2 λxs=>fH g tc te (cM (caps.set m none) σ2) m items [] xs λds ys=>Q (.own ds) (σ2.set j (some (.own ys)))
theorem vA {Y:Dyn}{F:Hp}{σd:Sd}{σ:St}{H:Hp}(R:RS Y F σd σ H)(caps:List (Option Nat))(m:Nat){F' H':Hp}(s1:Same F F')(s2:Same F' H'):RS ⟨H',F',[],[]⟩ F' (cM (caps.set m none) σd) (eB caps σ) H':=by
 have R0:=rR R (caps.set m none) s1 s2;refine⟨by unfold cM eB;simp,R0.lo,R0.fr,R0.fro,R0.old,λi d e=>?_,λi xs e=>absurd e (bO _ _ _ _),λi j xs ys a e=>absurd e (bO _ _ _ _),λp hp=>(by cases hp),.none (bN _ _) R0.ob.tab λb hb=>by cases hb⟩
 obtain⟨v,h1,h2⟩:=R0.sh i d e;refine⟨v,?_,h2⟩
 by_cases hi:i=m
 ·subst hi
  unfold cM at e;rw[List.getElem?_map] at e
  by_cases hl:i < caps.length
  ·rw[List.getElem?_set_self hl] at e;cases e
  ·rw[List.getElem?_eq_none (by rw[List.length_set];omega)] at e;cases e
 ·unfold eB at h1 ⊢
  rw[List.getElem?_map] at h1 ⊢;rw[List.getElem?_set_ne (Ne.symm hi)] at h1;exact h1
theorem RS.inner {Y:Dyn}{F:Hp}{σc σd:Sd}{σ:St}{H:Hp}{m:Nat}{a:Addr}{us:List V}{xs:List D}(R:RS Y F σd σ H)(l:iY σc σd)(noown:∀ (i:Nat) (xs:List D),σc[i]?≠some (some (.own xs)))(noobj:∀ (i:Nat) (o:O),σc[i]?≠some (some (.obj o)))(hm:m < σc.length)(h:σ[m]?=some (some (.ref a)))(r:RepL F us xs)(fa:F a=none){H':Hp}(s:Same F H')(ha:H' a=some (.lst us)) :
  RS ⟨H',F,[(m,a)],[]⟩ F (σc.set m (some (.own xs))) σ H' where
 len:=by rw[List.length_set];exact (jn l).trans R.len
 lo:=Same.refl _
 fr:=s
 fro:=λb o e=>.inl e
 old:=λb o e _=>e
 sh:=λi d e=>by
  rcases gs e with ⟨_,z⟩|⟨_,e⟩
  ·cases z
  ·exact R.sh i d (jm l e)
 own:=λi zs e=>by
  rcases gs e with ⟨rfl,z⟩|⟨_,e⟩
  ·cases z
   exact⟨a,us,h,ha,r,fa,.inr (by simp [Dyn.ioL])⟩
  ·exact absurd e (noown i zs)
 dis:=λi j zs ys b e1 e2 _ _=>by
  have z:∀ {i:Nat} {zs:List D},(σc.set m (some (B.own xs)))[i]?=some (some (.own zs))->i=m:=λ{i zs} e=>by
   rcases gs e with ⟨rfl,_⟩|⟨_,e⟩
   ·rfl
   ·exact absurd e (noown i zs)
  rw[z e1,z e2]
 io:=λp hp=>by
  have:p=(m,a):=by simpa using hp
  subst this;exact⟨h,xs,by rw[iW hm]⟩
 ob:=.none (λi o e=>by
  rcases gs e with ⟨_,z⟩|⟨_,e⟩
  ·cases z
  ·exact noobj i o e) R.ob.tab λb hb=>by cases hb
def Qp (m:Nat)(g:iX):TG:=λv σ H Q=>∃ Y:Dyn,(∀ p∈Y.io,p.1=m)/\lG Y g v σ H Q
def Qq (m:Nat)(t:TB):TT:=λσ H Q=>∃ Y:Dyn,(∀ p∈Y.io,p.1=m)/\lB Y t σ H Q
def Qr (m:Nat)(t:TD):TE:=λσ H Q=>∃ Y:Dyn,(∀ p∈Y.io,p.1=m)/\lD Y t σ H Q
section
variable {elt target iter:Expr}{ifs:List Expr}{scope:Scope}{pos:Pos}{N':List Str}{caps:List (Option Nat)}{ti:eG}{g:iX}{tc:TB}{te:TD}{j m:Nat}
theorem iI {X:Cx}{Y:Dyn}(hh:S.hot=false)(ok:XOk X G k S Y)(b:BlkOk S scope N' caps)(hg:EG G k (fy S scope N' m) target g)(ht:EBs G k (fy S scope N' m) ifs tc)(he:ED G k (fy S scope N' m) elt te) :
  ∀ X',CompX X X' scope N'->PG X' target (Qp m g)/\Bf X' ifs (Qq m tc)/\PE X' elt (Qr m te):=λX' c =>
 ⟨λpins s σ H v u Q I r ⟨Y',hio,q⟩=>hg X' Y' (fG hh ok b c Y' hio) pins s σ H v u Q I r q,λpins s σ H Q I ⟨Y',hio,q⟩=>ht X' Y' (fG hh ok b c Y' hio) pins s σ H Q I q,λpins s σ H Q I ⟨Y',hio,q⟩=>he X' Y' (fG hh ok b c Y' hio) pins s σ H Q I q⟩
theorem mC {α:Type}(l:List α)(i:Nat)(a b:α):(l.set i a).set i b=l.set i b:=by simp
theorem gm {Y:Dyn}{ios:List Nat}(hio:∀ p∈Y.io,p.1∈ios)(hcap:caps[m]?=some (some j)){σ:St}{H:Hp}{Q:VK}(q:lX Y (du ios caps j m ti g tc te) σ H Q):iy (lI Y ti) caps (Qp m g) (Qq m tc) (Qr m te) σ H Q:=by
 obtain⟨F,σd,Qd,R,q,K⟩:=q;refine⟨F,σd,_,R,q,λH1 F1 σd1 J items s1 R1 it q1 acc hacc=>?_⟩;obtain⟨F2,σd2,s2,R2,q2⟩:=db hio R1 q1;unfold jf at q2
 split at q2
 ·rename_i xs0 e0
  have it2:=it.mono s2;have a0:Y.H0 acc=none:=(R2.fresh0 hacc).1;have aF:F2 acc=none:=bi R2.fr hacc;obtain⟨a,us0,ha1,ha2,ha3,ha4,ha5⟩:=R2.own j xs0 e0;have ane:a≠acc:=λz=>by rw[z,hacc] at ha2;cases ha2
  have hj:j < σd2.length:=(List.getElem?_eq_some_iff.mp e0).1;have aN:∀ (xs:List D),NoOwn (σd2.set j (some (.own xs))) σ acc:=λxs=>(R2.noFresh hacc).reown e0;have sw:∀ {F5 H5:Hp} {o:HO},Same F5 H5->F5 acc=none->Same F5 (bz H5 acc o):=λ{F5 H5 o} s5 h b u e=>by
   have:b≠acc:=λz=>by rw[z,h] at e;cases e
   rw[am this];exact s5 b u e
  have hm:m < (cM (caps.set m none) σd2).length:=by
   unfold cM;rw[List.length_map,List.length_set];exact (List.getElem?_eq_some_iff.mp hcap).1
  have hcm:(eB caps σ)[m]?=some (some (.ref a)):=by
   unfold eB;rw[List.getElem?_map,hcap];show some ((σ[j]?).join)=_;rw[ha1];rfl
  have e00:σd2.set j (some (.own xs0))=σd2:=by
   apply List.ext_getElem?;intro i
   by_cases hi:i=j
   ·subst hi;rw[iW hj,e0]
   ·rw[br hi]
  refine⟨λi mm σ1 H'=>∃ Fi ds ys xs us,Same F2 Fi/\RS Y Fi (σd2.set j (some (.own xs))) σ H'/\H' acc=some (.lst ys)/\RepL Fi ys ds/\Fi acc=none/\H' a=some (.lst us)/\RepL Fi us xs/\Fi a=none/\σ1[m]?=some (some (.ref a))/\RS ⟨H',Fi,[(m,a)],[]⟩ Fi ((cM (caps.set m none) σd2).set m (some (.own xs))) σ1 H'/\fH g tc te (cM (caps.set m none) σd2) m (items.drop i) ds xs (λds ys=>Qd (.own ds) (σd2.set j (some (.own ys))))/\mm=items.length - i/\i<=items.length,
   ⟨items.length,F2,[],[],xs0,us0,Same.refl _,by rw[e00];exact R2.other aF a0 (e00 ▸ aN xs0),aw,.nil,aF,by rw[am ane];exact ha2,ha3,ha4,hcm,?_,q2,rfl,Nat.zero_le _⟩,?_⟩
  ·exact (vA R2 caps m (Same.refl _) (sw (o:=.lst []) R2.fr aF)).inner (eP _) (bO _ _) (bN _ _) hm hcm ha3 ha4 (sw R2.fr aF) (by rw[am ane];exact ha2)
  rintro i mm σ1 Hi ⟨Fi,ds,ys,xs,us,si,Ri,hacci,ri,fi,hai,rui,fai,hmi,Rin,qi,rfl,hi⟩;have itr:=it2 Fi Hi si Ri.fr i
  by_cases hl:i < items.length
  ·right
   have hd:items.drop i=items[i]::items.drop (i+1):=by rw[List.drop_eq_getElem_cons hl]
   rw[hd] at qi;obtain⟨go,yl⟩:=itr.1 items[i] (by rw[List.getElem?_eq_getElem hl])
   refine⟨go,λv H' y=>?_⟩;obtain⟨F3,gr,rep⟩:=yl v H' y;have sF:Same Fi F3:=gr.same Ri.fr;have R3:=gr.rs Rin;have sH:Same Hi H':=by
    rcases gr with ⟨_,rfl⟩|⟨p,o,hp,_,rfl⟩
    ·exact Same.refl _
    ·exact aG hp
   have fr3:∀ c o,F3 c=some o->Fi c=some o\/Nw Hi c o:=λc o e=>by
    rcases gr with ⟨rfl,_⟩|⟨p,o',hp,rfl,_⟩
    ·exact .inl e
    ·by_cases hc:c=p
     ·subst hc;exact .inr (.inl hp)
     ·rw[am hc] at e;exact .inl e
   have fa3:F3 a=none:=by
    cases e:F3 a with
    | none=>rfl
    | some o =>
     rcases fr3 a o e with z|z
     ·rw[fai] at z;cases z
     ·rcases z with z|⟨ws,rfl⟩
      ·rw[hai] at z;cases z
      ·have y:=R3.fr a _ e;rw[sH a _ hai] at y;cases y
   have lec:iY (cM (caps.set m none) σd2) ((cM (caps.set m none) σd2).set m (some (.own xs))):=by
    have:∀ (l:Sd) (n:Nat),l[n]?=some none->∀ b,iY l (l.set n b):=by
     intro l
     induction l with
     | nil=>intro n h;cases h
     | cons c l ih =>
      intro n h b;cases n with
      | zero =>
       simp at h;subst h;exact eP l
      | succ n =>
       have h:l[n]?=some none:=by simpa using h
       cases c with
       | none=>exact ih n h b
       | some c=>exact⟨rfl,ih n h b⟩
    refine this _ m ?_ _;unfold cM;rw[List.getElem?_map,List.getElem?_set_self (List.getElem?_eq_some_iff.mp hcap).1];rfl
   have R3':RS ⟨H',F3,[(m,a)],[]⟩ F3 ((cM (caps.set m none) σd2).set m (some (.own xs))) σ1 H':=R3.inner lec (bO _ _) (bN _ _) hm hmi (rui.mono sF) fa3 R3.fr (sH _ _ hai)
   -- behind the turn
   have back:∀ {F5 H5:Hp} {σd5:Sd} {σ5:St} {zs:List D},Same F3 F5->RS ⟨H',F3,[(m,a)],[]⟩ F5 σd5 σ5 H5->σd5[m]?=some (some (.own zs))->RS Y F5 (σd2.set j (some (.own zs))) σ H5/\H5 acc=some (.lst ys)/\F5 acc=none/\Same Fi F5/\∃ ws,H5 a=some (.lst ws)/\RepL F5 ws zs/\F5 a=none/\σ5[m]?=some (some (.ref a)):=λ{F5 H5 σd5 σ5 zs} s5 R5 ez=>by
    have i5:=(R5.io (m,a) (by simp)).1
    obtain⟨c,ws,w1,w2,w3,w4,_⟩:=R5.own m zs ez;rw[i5] at w1;cases w1;have s35:∀ c o,c≠a->Hi c=some o->H5 c=some o:=λc o hc e=>R5.old c o (sH c o e) (by simpa [Dyn.ioA] using hc)
    have fr5:∀ c o,F5 c=some o->Fi c=some o\/Nw Hi c o:=λc o e=>by
     rcases R5.fro c o e with z|z
     ·exact fr3 c o z
     ·exact .inr (z.imp sH.free id)
    have Ro:=Ri.callIo (i:=j) (xs:=xs) (ys:=zs) (by rw[iW hj]) ha1 (sF.trans s5) R5.fr s35 w2 w3 w4 fr5
    rw[mC] at Ro;refine⟨Ro,s35 acc _ (Ne.symm ane) hacci,?_,sF.trans s5,ws,w2,w3,w4,i5⟩;cases e:F5 acc with
    | none=>rfl
    | some o =>
     rcases fr5 acc o e with z|z
     ·rw[fi] at z;cases z
     ·rcases z with z|⟨ws,rfl⟩
      ·rw[hacci] at z;cases z
      ·have y:=R5.fr acc _ e;rw[s35 acc _ (Ne.symm ane) hacci] at y;cases y
   refine⟨⟨H',F3,[(m,a)],[]⟩,λp hp=>by rw[List.mem_singleton.mp hp],F3,_,items[i],_,R3',rep,qi,λσ4 H4 F4 σd4 s4 R4 q4=>?_⟩
   refine⟨⟨H',F3,[(m,a)],[]⟩,λp hp=>by rw[List.mem_singleton.mp hp],F4,σd4,_,R4,q4,λb H5 F5 σd5 s5 R5 q5=>?_⟩
   cases b with
   | false =>
    obtain⟨le,q5⟩:=q5;unfold jf at q5
    split at q5
    ·rename_i zs ez
     obtain⟨w1,w2,w3,w4,ws,v1,v2,v3,v4⟩:=back (s4.trans s5) R5 ez;exact⟨items.length - (i+1),by omega,F5,ds,ys,zs,ws,si.trans w4,w1,w2,ri.mono w4,w3,v1,v2,v3,v4,R5.inner le (bO _ _) (bN _ _) hm v4 v2 v3 R5.fr v1,q5,rfl,hl⟩
    ·exact q5.elim
   | true =>
    refine⟨⟨H',F3,[(m,a)],[]⟩,λp hp=>by rw[List.mem_singleton.mp hp],F5,σd5,_,R5,q5,λv6 H6 F6 d σd6 s6 R6 r6 q6=>?_⟩
    obtain⟨le,hz,q6⟩:=q6;unfold jf at q6
    split at q6
    ·rename_i zs ez
     obtain⟨w1,w2,w3,w4,ws,v1,v2,v3,v4⟩:=back ((s4.trans s5).trans s6) R6 ez;exact⟨ys,items.length - (i+1),w2,by rw[ri.length];exact hz,by omega,F6,ds++[d],ys++[v6],zs,ws,si.trans w4,w1.other w3 a0 (aN zs),aw,(ri.mono w4).append (.cons r6 .nil),w3,by rw[am ane];exact v1,v2,v3,v4,
      R6.inner le (bO _ _) (bN _ _) hm v4 v2 v3 (sw R6.fr w3) (by rw[am ane];exact v1),q6,rfl,hl⟩
    ·exact q6.elim
  ·left
   have e:i=items.length:=by omega
   subst e;rw[List.drop_length] at qi;exact⟨itr.2 rfl,K _ Hi Fi (.own ds) _ ((s1.trans s2).trans si) Ri ⟨acc,ys,rfl,hacci,ri,fi,a0,aN xs⟩ qi⟩
 ·exact q2.elim
theorem vB (j m:Nat)(hi:EI G k S target iter ti)(b:BlkOk S scope N' caps)(hg:EG G k (fy S scope N' m) target g)(ht:EBs G k (fy S scope N' m) ifs tc)(he:ED G k (fy S scope N' m) elt te)(hcap:caps[m]?=some (some j):=by rfl)(hs:∀ env x,foldedSetIterable iter env x=pure x:=by intro _ _;rfl)(hh:S.hot=false:=by rfl) :
  EX G k S (.ListComp elt [⟨target,iter,ifs,0⟩] scope pos) (du S.ios caps j m ti g tc te):=.mk λX Y ok =>
 aP (jl (ok.calm hh) (hi X Y ok) (b.sc ok) (iI hh ok b hg ht he) (hs _)) λσ H Q q=>gm ok.ios hcap q
theorem pc (i j m:Nat){y:Str}{py spos:Pos}(hi:EI G k S target iter ti)(b:BlkOk S scope N' caps)(hg:EG G k (fy S scope N' m) target g)(ht:EBs G k (fy S scope N' m) ifs tc)(he:ED G k (fy S scope N' m) elt te)
  (hcap:caps[m]?=some (some j):=by rfl) (hy:S.N[i]?=some y:=by rfl) (hx:S.sc.lookup y=some .local\/(S.sc.lookup y=some .cell/\S.blk=false):=by first|exact Or.inl rfl|exact Or.inr ⟨rfl,rfl⟩) (hn:i∉S.ios:=by first|decide|exact List.not_mem_nil) (hl:(py.line==pos.line)=true:=by rfl) (hsn:(scope.names.any λ(n,k)=>n==y&&(k==.local||k==.cell))=false:=by decide +kernel)
  (hs:∀ env x,foldedSetIterable iter env x=pure x:=by intro _ _;rfl) (hh:S.hot=false:=by rfl):ES G k S (.Assign [.Name y py] (.ListComp elt [⟨target,iter,ifs,0⟩] scope pos) spos) (cu S.ios i (du S.ios caps j m ti g tc te)):=.mk λX Y ok=>by
 have sw:swapsWith (.ListComp elt [⟨target,iter,ifs,0⟩] scope pos) (some (.Name y py)) spos.line X.env=pure (S.sc.lookup y==some .local):=by
  have e:swapsWith (.ListComp elt [⟨target,iter,ifs,0⟩] scope pos) (some (.Name y py)) spos.line X.env=pure (X.env.blockKind==.function&&X.env.kindOf y==some .local&&py.line==pos.line&&!(scope.names.any λ(n,k)=>n==y&&(k==.local||k==.cell))):=rfl
  have kb:X.env.blockKind=.function:=by unfold Env.blockKind;rw[ok.kind];rfl
  have kd:X.env.kindOf y=S.sc.lookup y:=by
   show X.env.scope.names.lookup y=_;rw[ok.sc]
  rw[e,kb,kd,hl,hsn];simp
 have fin:∀ Dn σ H,lS Y (cu S.ios i (du S.ios caps j m ti g tc te)) Dn σ H->uo (iy (lI Y ti) caps (Qp m g) (Qq m tc) (Qr m te)) (kM i) Dn σ H:=λDn σ H q=>by
  obtain⟨F,σd,De,R,q,K⟩:=q;refine gm ok.ios hcap ⟨F,σd,_,R,q,λv H1 F1 y σ1 s1 R1 r1 q1=>?_⟩;obtain⟨F2,σ2,s2,R2,q2⟩:=iq R1 r1 hn ok.ios q1;exact K.nx _ H1 F2 σ2 (s1.trans s2) R2 q2
 rcases hx with hx|hx
 ·refine cB (rQ (i:=i) (ok.calm hh) (hi X Y ok) (b.sc ok) (iI hh ok b hg ht he) (hs _) (by rw[ok.N];exact ok.nd) (by rw[ok.N];exact hy) (by rw[ok.sc];exact hx) (by rw[sw,hx];rfl)) fin
 ·refine cB (L2.ps_set (i:=i) (by rw[ok.N];exact ok.nd) (by rw[ok.N];exact hy) (lY ok (.inr hx)) (jl (ok.calm hh) (hi X Y ok) (b.sc ok) (iI hh ok b hg ht he) (hs _)) (by rw[sw,hx.1];rfl) (lZ ok (.inr hx))) fin
end
end Vc

namespace Vc
open PySem L2
variable [KF]
variable {G:GE}{k:Nat}{S:Stat}
def BL (i:Nat)(ys:List D)(σ:Sd)(Q:Sd->Prop):Prop:=match σ[i]? with
 | some (some (.own xs))=>xs.length+ys.length<=sizeLine/\Q (σ.set i (some (.own (xs++ys))))
 | _=>False
def EU (to:TV)(te:TX):TX:=λσ Q=>to σ λx σ1=>match x with
 | .var i=>oi σ1 i/\te σ1 λd σ2=>match d with
  | .own ys=>BL i ys σ2 λσ3=>Q (.val .non) σ3
  | _=>False
 | _=>False
theorem vC {o e:Expr}{to:TV}{te:TX}{apos cpos:Pos}(ho:EO G k S o to)(he:EX G k S e te)(hb:∀ env,attributeBase o "extend" env (eval o env)=eval o env:=by intro _;rfl)
  (hfew:∀ env,((backTo cpos (starEach [e] env)).all (λx=>!x.1)&&(backToKw cpos (keywordEach [] env)).all (λx=>x.1.isSome)&&decide (([e]:List Expr).length+([]:List Keyword).length+(if ([]:List Keyword).isEmpty then 0 else 1) < 30))=true:=by intro _;rfl)
  (hline:(apos.endLine==cpos.line)=true:=by rfl) (hs:∀ env,starEach [e] env=[(false,eval e env)]:=by intro _;rfl):EX G k S (.Call (.Attribute o "extend" apos) [e] [] cpos) (EU to te):=.mk λX Y ok=>by
 have ha:PA X [e] (iT (lX Y te) qk):=pa_cons (he X Y ok) pa_nil (by rw[hs];rfl)
 refine aP (rE F.plainAttrs_list F.slot_list_extend F.type_list_extend tu (ho X Y ok) ha (hb _) (hfew _) hline (by rw[hs];rfl) (by rfl)) λσ H Q q=>?_
 obtain⟨F,σd,Qd,R,q,K⟩:=q;refine⟨F,σd,_,R,q,λv1 H1 F1 x σ1 s1 R1 r1 q1=>?_⟩;cases x with
 | val d=>exact q1.elim
 | any=>exact q1.elim
 | var i =>
  obtain⟨⟨ys,e0⟩,q1⟩:=q1;have r1:σ[i]?=some (some v1):=r1;obtain⟨a,vs,w1,w2,w3,w4,w5⟩:=R1.own i ys e0;rw[r1] at w1;cases w1;refine⟨.inl ⟨rfl,vs,.of w2⟩,F1,σ1,_,R1,q1,λv2 H2 F2 d σ2 s2 R2 r2 q2=>?_⟩;cases d with
  | val _=>exact q2.elim
  | var _=>exact q2.elim
  | obj _=>exact q2.elim
  | any=>exact q2.elim
  | own zs =>
   have q2:BL i zs σ2 λσ3=>Qd (.val .non) σ3:=q2;unfold BL at q2
   split at q2
   ·rename_i xs e2
    obtain⟨b,us,z1,z2,z3,z4,z5⟩:=R2.own i xs e2;rw[r1] at z1;cases z1;obtain⟨c,cs,rfl,y1,y2,y3⟩:=r2;exact⟨a,c,us,cs,rfl,rfl,z2,y1,by rw[z3.length,y2.length];exact q2.1,K .non _ F2 (.val .non) _ (s1.trans s2) (R2.write e2 r1 (z3.append y2)) .non q2.2⟩
   ·exact q2.elim
def gn (i j:Int):Prop:=0 < j/\j < 2^200
theorem vD {X:Cx}:OpR X (binaryOp .FloorDiv) (rI gn λi j=>.int (i / j)):=Lo λi j _ _ _ _ _ hc q=>by
 have h1:(0:Int) < j:=hc.1;have h2:j < 2^200:=hc.2;refine PyProof.Rows.floordiv_int (by omega) (by rw[Int.fdiv_eq_ediv_of_nonneg i (by omega)];exact q) (.inl (PyProof.noPylong_of_log2 ?_))
 have h3:j.natAbs < 2^200:=by omega
 exact (Nat.log2_lt (by omega)).mpr (Nat.lt_of_lt_of_le h3 (Nat.pow_le_pow_right (by decide) (by decide)))
def gp:=CA gn λi j=>i / j
theorem dY {a b:Expr}{ta tb:TV}{pos:Pos}(ha:EO G k S a ta)(hb:EO G k S b tb):EX G k S (.BinOp a .FloorDiv b pos) (ay gp ta tb):=fO (r:=λ_=>_) (λ_=>vD) (λ_=>eK) ha hb
end Vc

namespace Vc
open PySem L2
variable [KF]
variable {G:GE}{k:Nat}{S:Stat}
end Vc


namespace Vc
open PySem L2
variable [KF]
variable {G:GE}{k:Nat}{S:Stat}

structure Apt (Y:Dyn)(F:Hp)(σd:Sd)(σ:St)(H:Hp)(b:Addr)(o:HO):Prop where
 h:H b=some o
 f:F b=none
 no:NoOwn σd σ b
 z:Y.H0 b=none
 nb:b∉Y.ob
 nt:∀ vs,o≠.tup vs
structure Pots (H H':Hp)(p:Addr)(as:List Addr)(cs:List Int):Prop where
 same:Same H H'
 list:H' p=some (.lst (as.map V.ref))
 fresh:∀ b∈p::as,H b=none
 nd:(p::as).Nodup
 len:as.length=cs.length
 pot:∀ (i:Nat) (a:Addr) (c:Int),as[i]?=some a->cs[i]?=some c->H' a=some (.lst [.int c,.int 0])
end Vc


namespace Vc
open PySem L2
variable [KF]
variable {G:GE}{k:Nat}{S:Stat}
def CI (Y:Dyn):TS:=λDn σ H=>∃ F ns,RS Y F [some (.sh (.lst (List.map D.int ns)))] σ H/\Y.H0=H/\(Y.io=[]/\Y.ob=[])/\ns.length<=63/\∀ p as cs H',Pots H H' p as cs->Dn.rt (.ref p) H'
structure EPots (G:GE)(k:Nat)(S:Stat)(b:List Stmt) :Prop where
 run:∀ X Y,XOk X G k S Y->PSs X b (CI Y)
instance {G:GE} {k:Nat} {S:Stat} {b:List Stmt} :CoeFun (EPots G k S b) λ_=>∀ X Y,XOk X G k S Y->PSs X b (CI Y):=⟨EPots.run⟩
section
variable {c:Expr}{zs es:List Expr}{tg iter:Expr}{scope:Scope}{N':List Str}{p1 p2 p3 p4 p5 p6 p7:Pos}
end
end Vc


namespace Vc
open PySem L2
variable [KF]
variable {G:GE}{k:Nat}{S:Stat}
theorem ix2_0 (a b:D)(Q:D->Prop):og (.lst [a,b]) (.int 0) Q=Q a:=rfl
theorem ix2_1 (a b:D)(Q:D->Prop):og (.lst [a,b]) (.int 1) Q=Q b:=rfl
theorem ixN2_0:ixN 2 0=some 0:=rfl
theorem ixN2_1:ixN 2 1=some 1:=rfl
theorem iJ {α:Type}{g:iX}{te:TD}{σc:Sd}{m:Nat}{Q:List D->List D->Prop}{xs0:List D}(gi:α->D)(P:D->Prop)(Rk:List D->Prop)(l:List α)
  (h:∀ a∈l,∀ xs,Rk xs->∀ (A:D->List D->Prop) (Z:Prop),Z->(∀ d ys,P d->Rk ys->A d ys)->g (gi a) (σc.set m (some (.own xs))) λσ1=>te σ1 λd σ3=>iY σc σ3/\Z/\jf m σ3 λys=>A d ys)
  (hl:l.length<=sizeLine) (h0:Rk xs0) (q:∀ ds ys,ds.length=l.length->(∀ d∈ds,P d)->Rk ys->Q ds ys):fH g bJ te σc m (l.map gi) [] xs0 Q:=by
 have key:∀ (l2:List α) (acc xs:List D),(∀ a∈l2,a∈l)->acc.length+l2.length=l.length->(∀ d∈acc,P d)->Rk xs->fH g bJ te σc m (l2.map gi) acc xs Q:=by
  intro l2
  induction l2 with
  | nil=>intro acc xs _ hlen hacc hr;exact q acc xs (by simpa using hlen) hacc hr
  | cons a l2 ih =>
   intro acc xs hm hlen hacc hr;have hlen':acc.length+(l2.length+1)=l.length:=by simpa using hlen
   show g (gi a) _ λσ1=>bJ σ1 λb σ2=>_;exact h a (hm a (List.mem_cons_self ..)) xs hr (λd ys=>fH g bJ te σc m (l2.map gi) (acc++[d]) ys Q) (acc.length < sizeLine) (by omega) λd ys hd hy =>
    ih _ ys (λx hx=>hm x (List.mem_cons_of_mem _ hx)) (by rw[List.length_append,List.length_singleton];omega) (λx hx=>by
     rcases List.mem_append.mp hx with hx|hx
     ·exact hacc x hx
     ·rw[List.mem_singleton.mp hx];exact hd) hy
 exact key l [] xs0 (λ_ h=>h) (by simp) (λd hd=>by cases hd) h0

end Vc


namespace Vc
open PySem L2
variable [KF]
section
variable {prog:Program}{w:World}{A:Around}{R:Result->Shared->Prop}
end
end Vc


namespace Vc
open PySem L2
variable [KF]
variable {G:GE}{k:Nat}{S:Stat}
def vE (te:TD)(g:iX):cj:=λDe σ=>te σ λd σ1=>g d σ1 De.nx
theorem vF {tg e:Expr}{te:TD}{g:iX}{pos:Pos}(he:ED G k S e te)(hg:EG G k S tg g)(hs:∀ line env,swapsWithSole [tg] e line env=pure false:=by intro _ _;rfl)(hw:∀ env,swappedStores [tg] e env=pure none:=by intro _;rfl)
  (h1:∀ env,(assignEach [tg] env).map (·.2)=[assign tg env]:=by intro _;rfl):ES G k S (.Assign [tg] e pos) (vE te g):=.mk λX Y ok=>cB (L2.ps_asg (he X Y ok) (hg X Y ok) (hs _ _) (hw _) (h1 _)) λDn σ H q=>by
 obtain⟨F,σd,De,R,q,K⟩:=q;refine⟨F,σd,_,R,q,λv1 H1 F1 d σ1 s1 R1 r1 q1=>⟨F1,σ1,d,_,R1,r1,q1,λσ' H' F' σd' s' R' q'=>K.nx σ' H' F' σd' (s1.trans s') R' q'⟩⟩
end Vc


namespace Vc
open PySem L2
variable [KF]
variable {G:GE}{k:Nat}{S:Stat}
end Vc


namespace Vc
open PySem L2 PySem.Spec PyProof.Rows
theorem kc {α β:Type}{f g:α->Option β}:∀ {xs:List α},(∀ x∈xs,f x=g x)->xs.filterMap f=xs.filterMap g
 | [],_=>rfl
 | x::xs,h=>by
  rw[List.filterMap_cons,List.filterMap_cons,h x (List.mem_cons_self ..),kc λy hy=>h y (List.mem_cons_of_mem _ hy)]
theorem pd {α:Type}(xs:List α):∀ m:Nat,m<=xs.length->(List.range m).filterMap (λk=>xs[xs.length - 1 - k]?)=xs.reverse.take m
 | 0,_=>by simp
 | m+1,h=>by
  rw[List.range_succ,List.filterMap_append,pd xs m (by omega),List.take_add_one]
  congr 1;rw[List.getElem?_reverse (by omega)]
  cases h2:xs[xs.length - 1 - m]?<;>simp [h2]
theorem pe {α:Type}(xs:List α):(List.range xs.length).filterMap (λk=>xs[xs.length - 1 - k]?)=xs.reverse:=by
 rw[pd xs xs.length (Nat.le_refl _)];exact List.take_of_length_le (by rw[List.length_reverse];exact Nat.le_refl _)
theorem kH (its:List Value):slicePick its.toArray none none (some (-1))=its.reverse.toArray:=by
 have hb:sliceBounds none none (some (-1)) its.toArray.size=((its.length:Int) - 1,-1,-1):=by rw[List.size_toArray];rfl
 unfold slicePick;rw[hb];show ((sliceRange ((its.length:Int) - 1) (-1) (-1)).filterMap (its.toArray[·]?)).toArray=_
 unfold sliceRange;dsimp only;rw[if_neg (show ¬ ((-1:Int) > 0) by decide)]
 have e:(if (its.length:Int) - 1 > -1 then ((its.length:Int) - 1 - -1 - -1 - 1) / (- -1) else 0).toNat=its.length:=by
  have:(- -1:Int)=1:=by decide
  rw[this,Int.ediv_one]
  split<;>omega
 rw[e,List.filterMap_map];congr 1;refine Eq.trans ?_ (pe its);refine kc λk hk=>?_;show its.toArray[((its.length:Int) - 1+-1*(k:Int)).toNat]?=its[its.length - 1 - k]?;rw[List.getElem?_toArray];congr 1;have:=List.mem_range.mp hk;omega
section
variable {prog:Program}{w:World}{A:Around}{E:Value->Shared->Prop}{s:Shared}
theorem iK {sl:Addr}{u:Tok}{n:Nat}{Q:Int×Int×Nat->Shared->Prop}(hs:s.heap.IsSliceOf sl .none .none (.int (-1) u))
  (h:Q ((n:Int) - 1,-1,n) s):wpAny (model prog w) A (Builtin.Slice.sliceApplied (.ref sl) (pure (n:Int))) Q E s:=by
 obtain⟨os,hos,hcs,hds⟩:=id hs;unfold Builtin.Slice.sliceApplied Builtin.Slice.sliceFields;refine wpAny_bind (wpAny_bind (wpAny_field hos hds (x:=.none) rfl (wpAny_bind (wpAny_field hos hds (x:=.none) rfl (wpAny_bind (wpAny_field hos hds (x:=.int (-1) u) rfl (wpAny_pure ?_)))))));refine wpAny_bind (slicePart_int ?_);show wpAny _ _ (if ((-1:Int)==0)=true then _ else _) _ _ s
 rw[if_neg (by decide)]
 refine wpAny_bind (slicePart_none (wpAny_bind (slicePart_none (wpAny_bind (wpAny_pure ?_)))));have e:Builtin.Slice.slicePlaces ((n:Int) - 1) (-1) (-1)=n:=by
  unfold Builtin.Slice.slicePlaces;rw[if_neg (by decide)]
  have:(- -1:Int)=1:=by decide
  rw[this,Int.ediv_one]
  split<;>omega
 show wpAny _ _ (pure ((n:Int) - 1,(-1:Int),Builtin.Slice.slicePlaces ((n:Int) - 1) (-1) (-1))) _ _ s;rw[e];exact wpAny_pure h
theorem tT (xs:Array Value):((List.range xs.size).filterMap λ(m:Nat)=>xs[((xs.size:Int) - 1+(m:Int)*(-1)).toNat]?).toArray=xs.toList.reverse.toArray:=by
 congr 1;refine Eq.trans ?_ (pe xs.toList);rw[Array.length_toList];refine kc λk hk=>?_;rw[Array.getElem?_toList];congr 1;have:=List.mem_range.mp hk;omega
theorem gq {t sl:Addr}{items:Array Value}{u:Tok}{Q:Value->Shared->Prop}(ht:IsTup s.heap t items)(hs:s.heap.IsSliceOf sl .none .none (.int (-1) u))
  (h:Q (.ref s.heap.objs.size) { s with heap:=s.heap.push { cls:=.type "tuple",data:=.seq items.toList.reverse.toArray } })
  (hsz:items.size<=sizeLine):wpAny (model prog w) A (getItem (.ref t) (.ref sl)) Q E s:=by
 have htake:sizeOk (.seq items.toList.reverse.toArray):=by
  show items.toList.reverse.toArray.size<=sizeLine;rw[List.size_toArray,List.length_reverse,Array.length_toList];omega
 obtain⟨os,hos,hcs,hds⟩:=id hs;have hTs:s.TypeIs (.ref sl) "slice":=⟨os,hos,hcs⟩;unfold getItem
 try with_reducible refine wpAny_holding ?_
 first|refine wpAny_bind (wpAny_pure ?_)|skip
 refine wpAny_bind (wpAny_sequenceKey ht.typeIs (by decide) ?_)
 refine wpAny_bind (wpAny_callSpecial?_slot (name:=Str.ofString "__getitem__") ht.typeIs PyProof.Rows.slot_tuple_getitem
  (wpAny_call_entry PyProof.Rows.slot_tuple_getitem ht.typeIs entry_tuple_getitem ?_ (args_tuple_getitem _ _)))
 show wpAny _ _ (Builtin.Tuple.tupleItemsOf (.ref t) >>= _) _ _ s;refine wpAny_bind (tupleItemsOf_ ht ?_);refine wpAny_bind (wpAny_typeOf hTs ?_);rw[if_pos (by decide)]
 refine wpAny_bind (iK hs ?_);have hno:¬ ((((items.size:Int) - 1)==0&&(-1:Int)==1&&items.size==items.size)=true):=by
  intro q;rw[Bool.and_eq_true,Bool.and_eq_true] at q;exact absurd q.1.2 (by decide)
 show wpAny _ _ (if (((items.size:Int) - 1)==0&&(-1:Int)==1&&items.size==items.size)=true then _ else _) _ _ s
 rw[if_neg hno,tT]
 first
  | exact wpAny_bind (m:=Builtin.Tuple.tupleExact _) (wpAny_newObj_type (wpAny_pure ⟨_,rfl,wpAny_pure h⟩) htake)
  | exact wpAny_bind (m:=Builtin.Tuple.tupleExact _) (wpAny_newObj_type (wpAny_bind (wpAny_pure (wpAny_pure ⟨_,rfl,wpAny_pure h⟩))) htake)
  | exact wpAny_bind (wpAny_bind (m:=Builtin.Tuple.tupleExact _) (wpAny_newObj_type (wpAny_pure (wpAny_pure ⟨_,rfl,wpAny_pure h⟩)) htake))
  | exact wpAny_bind (wpAny_bind (m:=Builtin.Tuple.tupleExact _) (wpAny_newObj_type (wpAny_pure ⟨_,rfl,wpAny_pure h⟩) htake))
end
section
variable {X:Cx}{e:Expr}{te:TE}{st:Expr}{ts:TO}{pos p2:Pos}
def SlS (X:Cx)(r:V->Hp->VK->Prop):Prop :=
 ∀ (pins:List (Addr×Obj)) (s:Shared) (σ:L2.St) (H:Hp) (x:V) (v:Value) (u:Tok) (sl:Addr) (Q:VK),Inv X pins σ H s->RelV x v->s.heap.IsSliceOf sl .none .none (.int (-1) u)->r x H Q ->
  ∃ T id,typeLookup (.type T) "__getitem__"=pure (some (.builtin id))/\s.TypeIs v T/\wpAny (model X.prog X.w) X.A (getItem v (.ref sl)) (EP X pins σ Q) X.xe s
theorem SlS.or {r r':V->Hp->VK->Prop}(h:SlS X r)(h':SlS X r'):SlS X (λx H Q=>r x H Q\/r' x H Q):=by
 intro pins s σ H x v u sl Q I rx hs q;rcases q with q|q
 ·exact h pins s σ H x v u sl Q I rx hs q
 ·exact h' pins s σ H x v u sl Q I rx hs q
def Qs (r:V->Hp->VK->Prop)(te:TE)(ts:TO):TE:=λσ H Q=>te σ H λx H1=>ts σ H1 λl H2=>l=some (-1)/\r x H2 Q
theorem EY {r:V->Hp->VK->Prop}(hr:SlS X r)(he:PE X e te)(hs:PO X (some st) ts):PE X (.Subscript e (.Slice none none (some st) p2) pos) (Qs r te ts):=by
 intro pins s σ H Q I h;refine Subscript_ (bT (he pins s σ H _ I h) λv s1 ⟨x,H1,I1,r1,q1⟩=>?_);refine wpAny_Slice ?_;rw[evalPart_none];refine wpAny_pure (wpAny_pure ?_);refine bT (hs pins s1 σ H1 _ I1 q1) λvs s3 ⟨l,H3,I3,pl,el,q3⟩=>?_;subst el;cases pl with
 | int _ u =>
 have I4:Inv X pins σ H3 { s3 with heap:=s3.heap.push { cls:=.type "slice",data:=.fields #[.none,.none,.int (-1) u] } }:=I3.kept (t':=s3.toks) λb ob q=>Heap.get?_push_of_some _ q
 obtain⟨T,id,hT,ht,hg⟩:=hr pins { s3 with heap:=s3.heap.push { cls:=.type "slice",data:=.fields #[.none,.none,.int (-1) u] } } σ H3 x v u s3.heap.objs.size Q I4 r1 (Heap.IsSliceOf.new ..) q3
 show wpAny (model X.prog X.w) X.A (subscriptTail e (.Slice none none (some st) p2) v (.ref s3.heap.objs.size)) (EP X pins σ Q) X.xe { s3 with heap:=s3.heap.push { cls:=.type "slice",data:=.fields #[.none,.none,.int (-1) u] } }
 exact tail_any (ops:=[v,.ref s3.heap.objs.size]) ht hT hg (by with_unfolding_all rfl)
theorem BM:SlS X (λx H Q=>∃ a xs,x=.ref a/\SqT X.K H a xs/\∀ p,H p=none->Q (.ref p) (bz H p (.tup xs.reverse))):=by
 intro pins s σ H x v u sl Q I rx hs h;obtain⟨a,xs,rfl,hx,q⟩:=h;cases rx;obtain⟨its,r,ht,hz⟩:=I.tuple hx;have hlen:its.toArray.size=xs.length:=by rw[List.size_toArray];exact r.length.symm
 refine⟨"tuple",_,PyProof.Rows.slot_tuple_getitem.lookup,ht.typeIs,?_⟩;refine gq ht hs ?_ (by rw[hlen];exact hz)
 refine⟨.ref s.heap.objs.size,_,I.laid (t':=s.toks) (o:=.tup xs.reverse) (λb ob q=>Heap.get?_push_of_some _ q) (Nat.le_refl _) ?_,rfl,q _ (I.hok.fresh (Nat.le_refl _))⟩;exact⟨by rw[List.length_reverse];exact hz,_,r.reverse,IsTup.new _ _⟩
theorem vG:SlS X (λx H Q=>∃ a xs,x=.ref a/\SqL X.K H a xs/\∀ p,H p=none->Q (.ref p) (bz H p (.lst xs.reverse))):=by
 intro pins s σ H x v u sl Q I rx hs h;obtain⟨a,xs,rfl,hx,q⟩:=h;cases rx;obtain⟨its,r,ht,hz⟩:=I.list hx;have hlen:=r.length;refine⟨"list",_,slot_list_getitem.lookup,ht.isList.typeIs,?_⟩;refine wpAny_getItem_list_slice ht.isList hs .none .none (.int (-1) u) (by decide) ?_ (by rw[List.size_toArray]<;>omega)
 rw[kH];refine⟨.ref s.heap.objs.size,_,I.laid (t':=s.toks) (o:=.lst xs.reverse) (λb ob q=>Heap.get?_push_of_some _ q) (Nat.le_refl _) ?_,rfl,q _ (I.hok.fresh (Nat.le_refl _))⟩;exact⟨by rw[List.length_reverse];exact hz,_,0,r.reverse,Heap.get?_push_size _ rfl⟩
end
variable [KF]
variable {G:GE}{k:Nat}{S:Stat}
def Mg:D->(EV->Prop)->Prop
 | .lst xs,Q=>Q (.own xs.reverse)
 | .scr ns,Q=>Q (.own (ns.map D.int).reverse)
 | .tup xs,Q=>Q (.val (.tup xs.reverse))
 | _,_=>False
end Vc


namespace Vc
open PySem L2 PySem.Spec PyProof.Rows PySem.SeqAt PySem.MeetsSeq PySem.MeetsSeq2 PySem.MeetsSeq3
section
variable {prog:Program}{w:World}{A:Around}{E:Value->Shared->Prop}{s:Shared}
theorem vH {t b:Addr}{ws:List Value}{Q:Value->Shared->Prop}(ht:IsTup s.heap t #[])(hb:IsTup s.heap b ws.toArray)(h1:Q (.ref b) s):wpAny (model prog w) A (binaryOp .Add (.ref t) (.ref b)) Q E s:=by
 obtain⟨⟨cls,dd,data,sl⟩,ho,hc,n,hd⟩:=id ht;obtain⟨⟨cls2,dd2,data2,sl2⟩,ho2,hc2,n2,hd2⟩:=id hb;simp only at hc hd hc2 hd2;subst hc hd hc2 hd2;exact concat_meets ⟨_,ho,rfl⟩ ⟨_,ho2,rfl⟩ noFill_tuple_add seq_tuple_add PySem.F.slot_tuple_add PySem.F.entry_tuple_add (PySem.F.args_tuple_add_2 _ _)
   (tuple_addW0 t b #[] ws.toArray n n2 dd dd2 sl sl2 (by rfl)) ⟨ho,ho2,h1⟩
theorem gt {t sl:Addr}{items:Array Value}{vl vu:Value}{lo hi:Option Int}{Q:Value->Shared->Prop}(ht:IsTup s.heap t items)(hs:s.heap.IsSliceOf sl vl vu .none)(pl:IsPart vl lo)(pu:IsPart vu hi)
  (hw:HT.sIx items.size 0 lo=0/\HT.sIx items.size items.size hi=items.size)
  (h:Q (.ref t) s):wpAny (model prog w) A (getItem (.ref t) (.ref sl)) Q E s:=by
 obtain⟨os,hos,hcs,hds⟩:=id hs;have hTs:s.TypeIs (.ref sl) "slice":=⟨os,hos,hcs⟩;unfold getItem
 try with_reducible refine wpAny_holding ?_
 first|refine wpAny_bind (wpAny_pure ?_)|skip
 refine wpAny_bind (wpAny_sequenceKey ht.typeIs (by decide) ?_)
 refine wpAny_bind (wpAny_callSpecial?_slot (name:=Str.ofString "__getitem__") ht.typeIs PyProof.Rows.slot_tuple_getitem
  (wpAny_call_entry PyProof.Rows.slot_tuple_getitem ht.typeIs entry_tuple_getitem ?_ (args_tuple_getitem _ _)))
 show wpAny _ _ (Builtin.Tuple.tupleItemsOf (.ref t) >>= _) _ _ s;refine wpAny_bind (tupleItemsOf_ ht ?_);refine wpAny_bind (wpAny_typeOf hTs ?_);rw[if_pos (by decide)]
 refine wpAny_bind (HT.sliceApplied_gen hs pl pu ?_);have hyes:((((HT.sIx items.size 0 lo:Nat):Int)==0&&(1:Int)==1&&(HT.sIx items.size items.size hi - HT.sIx items.size 0 lo)==items.size)=true):=by
  rw[hw.1,hw.2,Nat.sub_zero];simp
 show wpAny _ _ (if (((HT.sIx items.size 0 lo:Nat):Int)==0&&(1:Int)==1&&(HT.sIx items.size items.size hi - HT.sIx items.size 0 lo)==items.size)=true then _ else _) _ _ s
 rw[if_pos hyes];refine wpAny_bind (m:=Builtin.Tuple.tupleIsExact (.ref t)) ?_;unfold Builtin.Tuple.tupleIsExact;refine wpAny_bind (wpAny_typeOf ht.typeIs (wpAny_pure ?_));rw[if_pos (by decide)]
 refine wpAny_bind (wpAny_rule ?_);exact wpAny_pure ⟨_,rfl,wpAny_pure h⟩
end
section
variable {X:Cx}
def qG (K:PySem.W.Frag):R2:=λx y H Q=>∃ a b ys,x=.ref a/\y=.ref b/\SqT K H a []/\SqT K H b ys/\Q (.ref b) H
theorem vI:OpR X (binaryOp .Add) (qG X.K):=by
 intro pins s σ H x y v u Q I rx ry h;obtain⟨a,b,ys,rfl,rfl,ha,hb,q⟩:=h;cases rx;cases ry;obtain⟨its,r1,p1,_⟩:=I.tuple ha;obtain⟨its2,r2,p2,_⟩:=I.tuple hb;cases r1;exact vH p1 p2 ⟨.ref b,H,I,rfl,q⟩
theorem EZ:SlR X (λx lo hi H Q=>∃ a xs,x=.ref a/\SqT X.K H a xs/\(HT.sIx xs.length 0 lo=0/\HT.sIx xs.length xs.length hi=xs.length)/\Q (.ref a) H):=by
 intro pins s σ H x v vl vu lo hi sl Q I rx hs pl pu h;obtain⟨a,xs,rfl,hx,hw,q⟩:=h;cases rx;obtain⟨its,r,ht,hz⟩:=I.tuple hx;have hlen:its.toArray.size=xs.length:=by rw[List.size_toArray];exact r.length.symm
 refine⟨"tuple",_,PyProof.Rows.slot_tuple_getitem.lookup,ht.typeIs,?_⟩;exact gt ht hs pl pu (by rw[hlen];exact hw) ⟨.ref a,H,I,rfl,q⟩
end
variable [KF]
variable {G:GE}{k:Nat}{S:Stat}
def ph:D->D->(EV->Prop)->Prop
 | .tup [],.tup b,Q=>Q (.val (.tup b))
 | .tup (x::a),.tup b,Q=>(x::a).length+b.length<=sizeLine/\Q (.val (.tup (x::a++b)))
 | a,b,Q=>bg a b Q
theorem qH (K:PySem.W.Frag):dU (λx y H Q=>sZ K x y H Q\/qG K x y H Q) ph:=by
 intro Y F H σd σ v u x y Qd Q R rx ry q g;unfold ph at q
 split at q
 ·have ry':=ry
  obtain⟨a,vs,rfl,h1,r1⟩:=rx.tup R.fr;obtain⟨b,us,rfl,h2,r2⟩:=ry.tup R.fr;cases r1;exact .inr ⟨a,b,us,rfl,rfl,.of h1,.of h2,g.val R ry' q⟩
 ·exact .inl (ic K Y F H σd σ v u _ _ Qd Q R rx ry ⟨⟨List.cons_ne_nil _ _,q.1⟩,q.2⟩ g)
 ·exact .inl (ic K Y F H σd σ v u _ _ Qd Q R rx ry q g)
theorem mD {a b:Expr}{ta tb:TV}{pos:Pos}(ha:EO G k S a ta)(hb:EO G k S b tb):EX G k S (.BinOp a .Add b pos) (ay ph ta tb):=fO (r:=λK x y H Q=>sZ K x y H Q\/qG K x y H Q) (λ_=>op_addAll.or vI) qH ha hb
theorem BN {α:Type}{xs:List α}{lo hi:Option Int}(h:HT.sIx xs.length 0 lo=0/\HT.sIx xs.length xs.length hi=xs.length):cut xs lo hi=xs:=by
 unfold cut;rw[h.1,h.2,List.drop_zero,Nat.sub_zero,List.take_of_length_le (Nat.le_refl _)]
end Vc


namespace Vc
open PySem L2
variable [KF]

structure Fly (h:Heap)(a T:Addr)(c:Str):Prop where
 ex:∃ o vs a0,h.get? a=some o/\o.cls=.ref (KF.cls c)/\o.data=.fields vs/\vs[0]?=some a0/\vs[1]?=some (.ref T)
 tb:∃ o ts,h.get? T=some o/\o.data=.fields ts/\ts[3]?=some .none
structure Moved (fs:List Addr)(a T:Addr)(h h':Heap)(T':Addr):Prop where
 keep:∀ b o,h.get? b=some o->b≠a->b≠T->b∉fs->h'.get? b=some o
 slot:∀ b o,h.get? b=some o->b∈fs->∃ sl,h'.get? b=some { o with slots:=sl }
 ne:T'≠a
 new:h.get? T'=none\/T'=T
section
variable {M:Model}{A:Around}{E:Value->Shared->Prop}{s:Shared}{base:Heap}{env:Env}{outer:List Env}{L a T:Addr}{c:Str}{Q:Unit->Shared->Prop}
end
end Vc


namespace Vc
open PySem L2
variable [KF]
variable {G:GE}{k:Nat}{S:Stat}

end Vc


namespace Vc
open PySem L2
variable [KF]
variable {G:GE}{k:Nat}{S:Stat}

def Rh:List Value:=[.type "ValueError",.type "Exception",.type "BaseException",.type "object"]
def mroIn (K:PySem.W.Frag)(C:Addr):List Value:=match K.lookup C with
 | some ⟨_,_,.cls cd,_⟩=>cd.mro
 | _=>[]
structure ClsX (G:GE)(x:Str):Prop where
 mg:G.mg x=some (.ref (KF.cls x))
 exc:PySem.W.excIn G.K (KF.cls x) Rh "ValueError.__new__"=true
end Vc


namespace Vc
open PySem L2
variable [KF]
variable {G:GE}{k:Nat}{S:Stat}

structure XCls (G:GE)(L:List Str):Prop where
 cls:∀ c∈L,ClsX G c
 mro:∀ c∈L,mroIn G.K (KF.cls c)=.ref (KF.cls c)::((if c="NearError" then [] else [.ref (KF.cls "NearError")])++Rh)
 inj:∀ c∈L,∀ d∈L,KF.cls c=KF.cls d->c=d
 near:("NearError":Str)∈L
section
variable {M:Model}{A:Around}{E:Value->Shared->Prop}{h:Heap}{g:Array GenState}{d:Drawn}{t:Nat}{os:OsState}
end
end Vc


namespace Vc
open PySem L2
variable [KF]
variable {G:GE}{k:Nat}{S:Stat}

section
variable {X:Cx}{pins:List (Addr×Obj)}{σ:St}{H:Hp}{s:Shared}{a:Addr}{xe:Value->Shared->Prop}
end
end Vc


namespace Vc
open PySem L2
variable [KF]
variable {G:GE}{k:Nat}{S:Stat}

end Vc


namespace Vx
open PySem PySem.W PySem.Calls PySem.Spec PyProof.Rows Builtin Builtin.ObjectAttr Builtin.Getset_descriptor

def lookX (K:PySem.W.Frag)(C:Addr):Bool :=
 PySem.W.findIn K (.ref C) "__getattribute__"==some (some (.builtin "BaseException.__getattribute__"))&&PySem.W.findIn K (.ref C) "__getattr__"==some none&&PySem.W.findIn K (.ref C) "__class__"==some (some (.builtin "object.__class__")) &&
 PySem.W.mroIn K C (.type "object")==some true&&PySem.W.mroIn K C (.type "BaseException")==some true&&PySem.W.typeIn K (.ref C)==some (.type "type")
section
variable {prog:Program}{w:World}{A:Around}{E:Value->Shared->Prop}{h:Heap}{g:Array GenState}{d:Drawn}{t:Nat}{os:OsState}{K:PySem.W.Frag}{x C:Addr}{o:Obj}
end
end Vx


namespace Vc
open PySem L2
variable [KF]
variable {G:GE}{k:Nat}{S:Stat}

structure XClsI (G:GE)(L:List Str):Prop extends XCls G L where
 look:∀ c∈L,Vx.lookX G.K (KF.cls c)=true
end Vc


namespace Vc
open PySem L2
variable [KF]
variable {G:GE}{k:Nat}{S:Stat}

structure FnOkH (P:Program)(w:World)(K:PySem.W.Frag)(mg:Str->Option Value)(base:Heap)(k:Nat)(f:Addr)(fd:FuncData)(ps:List Str)(sp:Sp):Prop where
 len:∀ vs H Q E,sp vs H Q E->vs.length=ps.length
 run:∀ (A:Around) (outer:List Env) (s:Shared) (H:Hp) (args:Args) (us:List Value) (vs:List V) (Q:VK) (E:XK),A.depth+3*k+5 < recursionLimit->A.units+16*k+200 < cLine->Env0 P w K mg base A outer s H ->
  BindsTo s fd args (ps.zip us)->Vals vs us->sp vs H Q E->codeAny (model P w) A (.call (.ref f) args) (CR qd outer P w H s Q E) s
end Vc


namespace Vx
open PySem PySem.Spec PySem.Calls PyProof.Rows Builtin
end Vx
namespace Vc
open PySem L2
variable [KF]
variable {G:GE}{k:Nat}{S:Stat}
end Vc
namespace Vc
end Vc


namespace Vc
open PySem L2
section
variable {X:Cx}
def Qt:V->Option Int->Option Int->Hp->VK->Prop:=λx lo hi H Q=>∃ z,x=.str z/\z.length<=sizeLine/\Q (.str (Txt.slice z lo hi)) H
theorem rZ {v:Value}{o:Option Int}(h:IsPart v o):∃ l:Option (Int×Tok),v=partValue l/\l.map (·.1)=o:=by
 cases h with
 | none=>exact⟨none,rfl,rfl⟩
 | int i t=>exact⟨some (i,t),rfl,rfl⟩
theorem Fa:SlR X Qt:=by
 intro pins s σ H x v vl vu lo hi sl Q I rx hs pl pu h;obtain⟨z,rfl,hz,q⟩:=h;obtain⟨t,rfl⟩:=rx;obtain⟨l,rfl,el⟩:=rZ pl;obtain⟨u,rfl,eu⟩:=rZ pu;refine⟨"str",_,F.slot_str_getitem.lookup,typeIs_str _ _ _,wpAny_getItem_str_slice (l:=l) (u:=u) (st:=none) hs rfl ?_⟩;subst el eu;cases l<;>cases u<;>exact post_val_or_str ⟨Nat.le_trans (Txt.slice_le z _ _) hz,λt' k=>⟨.str _,H,I.tok k,⟨t',rfl⟩,q⟩⟩
def BO (z:Str):Str:=⟨((Builtin.Str.strSliceIndices none none (-1) z.length).filterMap (z.cps[·]?)).toArray⟩
theorem BP:SlS X (λx H Q=>∃ z,x=.str z/\(BO z).length<=sizeLine/\Q (.str (BO z)) H):=by
 intro pins s σ H x v u sl Q I rx hs h;obtain⟨z,rfl,hz,q⟩:=h;obtain⟨t,rfl⟩:=rx;refine⟨"str",_,F.slot_str_getitem.lookup,typeIs_str _ _ _,wpAny_getItem_str_slice (l:=none) (u:=none) (st:=some (-1,u)) hs rfl ?_⟩;exact⟨hz,⟨.str _,H,I.tok _,⟨_,rfl⟩,q⟩⟩
end
variable [KF]
variable {G:GE}{k:Nat}{S:Stat}
def Rj:D->Option Int->Option Int->(EV->Prop)->Prop
 | .str z,lo,hi,Q=>z.length<=sizeLine/\Q (.val (.str (Txt.slice z lo hi)))
 | .lst xs,lo,hi,Q=>Q (.own (cut xs lo hi))
 | .scr ns,lo,hi,Q=>Q (.own (cut (ns.map D.int) lo hi))
 | .tup xs,lo,hi,Q=>Q (.val (.tup (cut xs lo hi)))
 | _,_,_,_=>False
def cw (t:TV)(tl th:AZ):TX:=λσ Q=>t σ λx σ1=>tl σ1 λl σ2=>th σ2 λu σ3=>match drf σ3 x with
 | some d=>Rj d l u λr=>Q r σ3
 | none=>False
theorem bK {e:Expr}{lo hi:Option Expr}{t:TV}{tl th:AZ}{p2 pos:Pos}(h:EO G k S e t)(hl:EPt G k S lo tl)(hh:EPt G k S hi th):EX G k S (.Subscript e (.Slice lo hi none p2) pos) (cw t tl th):=.mk λX Y ok =>
 aP (ux (SlR.or Fa (SlR.or AJ (SlR.or Eg EZ))) (h X Y ok) (hl X Y ok) (hh X Y ok)) λσ H Q q=>by
  obtain⟨F,σd,Qd,R,q,K⟩:=q;refine⟨F,σd,_,R,q,λv1 H1 F1 x σ1 s1 R1 r1 q1=>?_⟩;refine⟨F1,σ1,_,R1,q1,λl H2 F2 σ2 s2 R2 q2=>?_⟩;refine⟨F2,σ2,_,R2,q2,λu H3 F3 σ3 s3 R3 q3=>?_⟩
  split at q3
  ·rename_i d e
   have rx:=R3.drf (r1.mono (s2.trans s3)) e;have g:Goes Y F3 σ3 σ (λr=>Qd r σ3) Q:=λv H' F' r s R' rr qq=>K v H' F' r σ3 (((s1.trans s2).trans s3).trans s) R' rr qq;cases d with
   | str z =>
    obtain rfl:=rx.str;exact .inl ⟨z,rfl,q3.1,g.val R3 (.str _) q3.2⟩
   | lst xs =>
    obtain⟨p,vs,rfl,h1,r1⟩:=rx.lst;exact .inr (.inl ⟨p,vs,rfl,.inl h1,g.own R3 (r1.cut _ _) q3⟩)
   | scr ns =>
    obtain⟨p,rfl,h1⟩:=rx.scr R3.fr;exact .inr (.inl ⟨p,_,rfl,by rw[ok.kf];exact h1,g.own R3 ((il _).cut _ _) q3⟩)
   | tup xs =>
    have rx':=rx;obtain⟨p,vs,rfl,h1,r1⟩:=rx.tup R3.fr
    replace q3:Qd (.val (.tup (cut xs l u))) σ3:=q3
    by_cases hw:HT.sIx xs.length 0 l=0/\HT.sIx xs.length xs.length u=xs.length
    ·rw[BN hw] at q3
     exact .inr (.inr (.inr ⟨p,vs,rfl,.of h1,by rw[r1.length];exact hw,g.val R3 rx' q3⟩))
    ·exact .inr (.inr (.inl ⟨p,vs,rfl,.of h1,by rw[r1.length];exact hw,g.tup R3 (r1.cut _ _) q3⟩))
   | _=>exact q3.elim
  ·exact q3.elim
def Mh:D->(EV->Prop)->Prop
 | .str z,Q=>(BO z).length<=sizeLine/\Q (.val (.str (BO z)))
 | d,Q=>Mg d Q
def pi (t:TV)(ts:AZ):TX:=λσ Q=>t σ λx σ1=>ts σ1 λl σ2=>l=some (-1)/\match drf σ2 x with
 | some d=>Mh d λr=>Q r σ2
 | none=>False
theorem qI {e:Expr}{st:Expr}{t:TV}{ts:AZ}{p2 pos:Pos}(h:EO G k S e t)(hl:EPt G k S (some st) ts):EX G k S (.Subscript e (.Slice none none (some st) p2) pos) (pi t ts):=.mk λX Y ok =>
 aP (EY (SlS.or BP (SlS.or vG BM)) (h X Y ok) (hl X Y ok)) λσ H Q q=>by
  obtain⟨F,σd,Qd,R,q,K⟩:=q;refine⟨F,σd,_,R,q,λv1 H1 F1 x σ1 s1 R1 r1 q1=>?_⟩;refine⟨F1,σ1,_,R1,q1,λl H2 F2 σ2 s2 R2 q2=>?_⟩;refine⟨q2.1,?_⟩
  replace q2:=q2.2
  split at q2
  ·rename_i d e
   have rx:=R2.drf (r1.mono s2) e;have g:Goes Y F2 σ2 σ (λr=>Qd r σ2) Q:=λv H' F' r s R' rr qq=>K v H' F' r σ2 ((s1.trans s2).trans s) R' rr qq;cases d with
   | str z =>
    obtain rfl:=rx.str;exact .inl ⟨z,rfl,q2.1,g.val R2 (.str _) q2.2⟩
   | lst xs =>
    obtain⟨p,vs,rfl,h1,r1⟩:=rx.lst;exact .inr (.inl ⟨p,vs,rfl,.inl h1,g.own R2 r1.reverse q2⟩)
   | scr ns =>
    obtain⟨p,rfl,h1⟩:=rx.scr R2.fr;exact .inr (.inl ⟨p,_,rfl,by rw[ok.kf];exact h1,g.own R2 (il _).reverse q2⟩)
   | tup xs =>
    obtain⟨p,vs,rfl,h1,r1⟩:=rx.tup R2.fr;exact .inr (.inr ⟨p,vs,rfl,.of h1,g.tup R2 r1.reverse q2⟩)
   | _=>exact q2.elim
  ·exact q2.elim
end Vc

set_option maxHeartbeats 0
namespace Vc
open PySem PySem.W
@[elab_as_elim] theorem len1 {α:Type} {P:List α->Prop} (h:∀ a,P [a]):∀ us:List α,us.length=1->P us
 | [a],_=>h a
@[elab_as_elim] theorem len2 {α:Type} {P:List α->Prop} (h:∀ a b,P [a,b]):∀ us:List α,us.length=2->P us
 | [a,b],_=>h a b
@[elab_as_elim] theorem len3 {α:Type} {P:List α->Prop} (h:∀ a b c,P [a,b,c]):∀ us:List α,us.length=3->P us
 | [a,b,c],_=>h a b c
@[elab_as_elim] theorem len4 {α:Type} {P:List α->Prop} (h:∀ a b c d,P [a,b,c,d]):∀ us:List α,us.length=4->P us
 | [a,b,c,d],_=>h a b c d
@[elab_as_elim] theorem len5 {α:Type} {P:List α->Prop} (h:∀ a b c d e,P [a,b,c,d,e]):∀ us:List α,us.length=5->P us
 | [a,b,c,d,e],_=>h a b c d e
theorem x_of_o {q:Program}{loose:List Str}{XP:(Str->Option Value)->Heap->Prop}{K:Params->Frag}{as:List Addr}{n t:Nat}{r:RowW}{d:DefRec}{kwd:List (Str×Expr)}{run:Value->List Value->Sem Value}
  (e:∀ P,as=(K P).map (·.1)) (h:WalkO q loose XP (λw h=>(K w.params).In h) r d kwd run):WalkX q loose XP (X.obsZ as) (X.valZ K n t) r d kwd run :=
 λw s₀ s₁ mg mb G y a o pm cd doc dV kV ho hd hcd hD hmg hg args vals as' L hpre hlay hrd hwl hlo =>
  h w s₀ s₁ mg mb G (InK.keeps w _ _ (X.z_facts e y).2.1 L.keeps) a o pm cd doc dV kV ho hd hcd hD hmg hg args vals as' hpre hlay hrd hwl hlo
end Vc


namespace Vc
open PySem L2
variable [KF]
variable {G:GE}{k:Nat}{S:Stat}
end Vc


namespace Vc
open PySem L2
variable [KF]
variable {G:GE}{k:Nat}{S:Stat}
end Vc


namespace Vc
open PySem L2
variable [KF]
variable {G:GE}{k:Nat}{S:Stat}
def BQ:D->Bool
 | .bl _=>true
 | _=>false
def Qu:D->Bool
 | .bl b=>b
 | _=>false
theorem RepL.bls {F:Hp}:∀ {vs:List V} {xs:List D},RepL F vs xs->xs.all BQ=true->vs=(xs.map Qu).map V.bl
 | _,_,.nil,_=>rfl
 | _,_,.cons (d:=d) r t,h=>by
  rw[List.all_cons,Bool.and_eq_true] at h;cases d with
  | bl i =>
   cases r;rw[RepL.bls t h.2];rfl
  | _=>exact absurd h.1 (by simp [BQ])
theorem BR {bs:List Bool}:∀ {us:List Value},Vals (bs.map V.bl) us->us=bs.map Value.bool:=by
 induction bs with
 | nil=>intro us r;rw[List.map_nil] at r;cases r;rfl
 | cons n ns ih =>
  intro us r;rw[List.map_cons] at r;cases r with
  | cons r1 r2 =>
   cases r1;rw[ih r2];rfl
theorem tU {α:Type}(l:List α)(f:α->Bool)(g:Nat->Bool)(h:∀ i a,l[i]?=some a->g i=f a):(List.range l.length).all g=l.all f:=by
 induction l generalizing g with
 | nil=>rfl
 | cons a l ih =>
  rw[List.length_cons,List.range_succ_eq_map,List.all_cons,List.all_cons,List.all_map,h 0 a rfl];rw[ih (g ∘ Nat.succ) λi b e=>h (i+1) b e]
theorem vJ {X:Cx}(hc:X.calm=true):CallR X (.builtin "all") (λxs H Q=>∃ (a:Addr) (bs:List Bool),xs=[.ref a]/\SqL X.K H a (bs.map V.bl)/\Q (.bl (bs.all id)) H):=by
 intro pins s σ H xs us Q I r h;obtain⟨a,bs,rfl,hq,q⟩:=h;obtain⟨u,rfl,ru⟩:=cY r;cases ru;obtain⟨its,rv,pl,_⟩:=I.list hq;have e:=BR rv;subst e;have hl:=pl.isList;obtain⟨o,ho,_⟩:=id hl;have hne:a≠s.heap.objs.size:=Nat.ne_of_lt (Heap.lt_size ho);refine call_all_walk (wpAny_pyIter_list hl ?_);have W:=Walks.list (prog:=X.prog) (w:=X.w) (A:=X.A.in1) (show X.A.in1.handled=none from I.ok.hd hc) s.heap.objs.size a hne (bs.map Value.bool).toArray
 refine⟨s.heap.objs.size,_,_,_,_,_,λi=>bs.getD i true,rfl,W,⟨⟨_,Heap.get?_push_size _ rfl,rfl,rfl⟩,?_⟩,λi v s' Q' E' hP hQ=>?_,λh' tk kp=>?_⟩
 ·obtain⟨o2,e1,e2⟩:=hl
  exact⟨o2,Heap.get?_push_of_some _ e1,e2⟩
 ·have hv:bs[i]?.map Value.bool=some v:=by simpa using hP
  cases hb:bs[i]? with
  | none=>rw[hb] at hv;cases hv
  | some b =>
   rw[hb] at hv;cases hv;have hQ:Q' (bs.getD i true) s':=hQ;rw[List.getD_eq_getElem?_getD,hb] at hQ;exact wpAny_truthy_bool hQ
 ·refine⟨.bl _,H,I.kept λb o e=>kp b o ?_ (Heap.get?_push_of_some _ e),rfl,?_⟩
  ·intro z
   rw[List.mem_singleton.mp z] at e;exact absurd (Heap.lt_size e) (Nat.lt_irrefl _)
  ·have e2:(List.range (bs.map Value.bool).toArray.size).all (λi=>bs.getD i true)=bs.all id:=by
    rw[List.size_toArray,List.length_map];exact tU bs id _ λi b e=>by rw[List.getD_eq_getElem?_getD,e];rfl
   rw[e2];exact q
def vK:List D->(EV->Prop)->Prop
 | [.lst xs],Q=>xs.all BQ=true/\Q (.val (.bl ((xs.map Qu).all id)))
 | _,_=>False
theorem CJ (hh:S.hot=false:=by rfl):tG G k S (.builtin "all") vK:=⟨λK xs H Q=>∃ (a:Addr) (bs:List Bool),xs=[V.ref a]/\SqL K H a (bs.map V.bl)/\Q (.bl (bs.all id)) H,λ_ _ ok=>vJ (ok.calm hh),λY F H σd σ vs ds Qd Q R r q g=>by
 unfold vK at q
 split at q
 ·obtain⟨v,rfl,rv⟩:=r.one
  obtain⟨p,us,rfl,h1,h2⟩:=rv.lst;rw[h2.bls q.1] at h1;exact⟨p,_,rfl,.inl h1,g.val R (.bl _) q.2⟩
 ·exact q.elim⟩
end Vc


namespace Vc
open PySem L2
variable [KF]
variable {G:GE}{k:Nat}{S:Stat}
end Vc


namespace Vc
open PySem L2
variable [KF]
variable {G:GE}{k:Nat}{S:Stat}
end Vc


namespace Vc
open PySem L2
variable [KF]
variable {G:GE}{k:Nat}{S:Stat}
def Mi:D->Option bw
 | .int i=>some (.inl i)
 | .str x=>some (.inr x)
 | _=>none
def ln:List D->Option (List bw)
 | []=>some []
 | d::ds=>match Mi d,ln ds with
  | some k,some ks=>some (k::ks)
  | _,_=>none
def keyT:D->Option (List bw)
 | .tup ds=>ln ds
 | _=>none
theorem BS {d:D}{k:bw}(h:Mi d=some k):d=kD k:=by
 cases d<;>cases h<;>rfl
theorem pj:∀ {ds:List D} {ks:List bw},ln ds=some ks->ds=ks.map kD
 | [],ks,h=>by cases h;rfl
 | d::ds,ks,h=>by
  unfold ln at h
  split at h
  ·rename_i k ks' e1 e2
   cases h;rw[BS e1,pj e2];rfl
  ·cases h
theorem ju {d:D}{ks:List bw}(h:keyT d=some ks):d=.tup (ks.map kD):=by
 cases d with
 | tup ds=>rw[pj h]
 | _=>cases h
theorem Rep.key {F:Hp}{v:V}{k:bw}(r:Rep F v (kD k)):v=kV k:=by
 cases k with
 | inl i=>cases (show Rep F v (.int i) from r);rfl
 | inr x=>cases (show Rep F v (.str x) from r);rfl
theorem RepL.keys {F:Hp}:∀ {ks:List bw} {vs:List V},RepL F vs (ks.map kD)->vs=ks.map kV
 | [],_,r=>by cases r;rfl
 | k::ks,_,r=>by
  cases r with
  | cons h t=>rw[h.key,RepL.keys t];rfl
theorem Rep.keyT {F:Hp}{v:V}{ks:List bw}(r:Rep F v (.tup (ks.map kD))):∃ b,v=.ref b/\F b=some (.tup (ks.map kV)):=by
 cases r with
 | tup h r=>exact⟨_,rfl,by rw[<- r.keys];exact h⟩
theorem Fb (a b:bw):cO (kD a) (kD b)=decide (a=b):=by
 cases a<;>cases b<;>simp [kD,cO]<;>rfl
theorem mE:∀ as bs:List bw,fS (as.map kD) (bs.map kD)=decide (as=bs)
 | [],[]=>rfl
 | [],b::bs=>rfl
 | a::as,[]=>rfl
 | a::as,b::bs=>by
  show (cO (kD a) (kD b)&&fS (as.map kD) (bs.map kD))=_;rw[Fb,mE as bs]
  by_cases h1:a=b
  ·subst h1
   by_cases h2:as=bs
   ·subst h2;simp
   ·simp [h2]
  ·simp [h1]
theorem dJ (as bs:List bw):cO (.tup (as.map kD)) (.tup (bs.map kD))=decide (as=bs):=mE as bs
def ft (kvs:List (D×D))(d:D):Option D:=(kvs.find? λkv=>cO kv.1 d).map (·.2)
def pp (kvs:List (D×D))(d v:D):List (D×D) :=
 if (kvs.any λkv=>cO kv.1 d)=true then kvs.map (λkv=>if cO kv.1 d=true then (kv.1,v) else kv) else kvs++[(d,v)]
theorem RepT.length {F:Hp}:∀ {ks:List (List bw×V)} {kvs:List (D×D)},RepT F ks kvs->ks.length=kvs.length
 | _,_,.nil=>rfl
 | _,_,.cons _ r=>by simp [RepT.length r]
theorem RepT.any {F:Hp}(k:List bw):∀ {ks:List (List bw×V)} {kvs:List (D×D)},RepT F ks kvs->(kvs.any λkv=>cO kv.1 (.tup (k.map kD)))=(ks.any λkv=>decide (kv.1=k))
 | _,_,.nil=>rfl
 | _,_,.cons _ r=>by rw[List.any_cons,List.any_cons,RepT.any k r,dJ]
theorem RepT.val {F:Hp}(k:List bw):∀ {ks:List (List bw×V)} {kvs:List (D×D)},RepT F ks kvs->(cv ks k=none/\ft kvs (.tup (k.map kD))=none)\/∃ v d,cv ks k=some v/\ft kvs (.tup (k.map kD))=some d/\Rep F v d
 | _,_,.nil=>.inl ⟨rfl,rfl⟩
 | _,_,.cons (k:=k') (v:=v) (d:=d) (ks:=ks) (kvs:=kvs) h r=>by
  by_cases e:k'=k
  ·subst e
   refine .inr ⟨v,d,?_,?_,h⟩
   ·unfold cv;rw[List.find?_cons_of_pos (by simp)];rfl
   ·unfold ft;rw[List.find?_cons_of_pos (by rw[dJ];simp)];rfl
  ·have e1:cv ((k',v)::ks) k=cv ks k:=by unfold cv;rw[List.find?_cons_of_neg (by simpa using e)]
   have e2:ft ((D.tup (k'.map kD),d)::kvs) (.tup (k.map kD))=ft kvs (.tup (k.map kD)):=by unfold ft;rw[List.find?_cons_of_neg (by rw[dJ];simpa using e)]
   rw[e1,e2];exact RepT.val k r
theorem RepT.append {F:Hp}:∀ {ks ks':List (List bw×V)} {kvs kvs':List (D×D)},RepT F ks kvs->RepT F ks' kvs'->RepT F (ks++ks') (kvs++kvs')
 | _,_,_,_,.nil,s=>s
 | _,_,_,_,.cons h r,s=>.cons h (RepT.append r s)
theorem RepT.repl {F:Hp}{v:V}{d:D}(k:List bw)(hv:Rep F v d):∀ {ks:List (List bw×V)} {kvs:List (D×D)},RepT F ks kvs->RepT F (ks.map λkv=>if kv.1=k then (kv.1,v) else kv) (kvs.map λkv=>if cO kv.1 (.tup (k.map kD))=true then (kv.1,d) else kv)
 | _,_,.nil=>.nil
 | _,_,.cons (k:=k') h r=>by
  rw[List.map_cons,List.map_cons]
  by_cases e:k'=k
  ·rw[if_pos (show k'=k from e),if_pos (show cO (.tup (k'.map kD)) (.tup (k.map kD))=true by rw[dJ];simpa using e)]
   exact .cons hv (RepT.repl k hv r)
  ·rw[if_neg (show ¬ k'=k from e),if_neg (show ¬ cO (.tup (k'.map kD)) (.tup (k.map kD))=true by rw[dJ];simpa using e)]
   exact .cons h (RepT.repl k hv r)
theorem RepT.put {F:Hp}{ks:List (List bw×V)}{kvs:List (D×D)}{v:V}{d:D}(k:List bw)(r:RepT F ks kvs)(hv:Rep F v d):RepT F (dG ks k v) (pp kvs (.tup (k.map kD)) d):=by
 unfold dG pp;rw[r.any k]
 split
 ·exact r.repl k hv
 ·exact r.append (.cons hv .nil)
def ue (kvs:List (D×D)):O where
 fp:=λa=>[a]
 rep:=λF H a=>∃ ks,H a=some (.dT ks)/\RepT F ks kvs
 self:=λa=>List.mem_singleton.mpr rfl
 solid:=λ{F H a b φ} ⟨ks,h,_⟩ hb z=>by
  rw[List.mem_singleton.mp hb,h] at z;cases z
 nt:=λ{F H a b vs} ⟨ks,h,_⟩ hb z=>by
  rw[List.mem_singleton.mp hb,h] at z;cases z
 mono:=λ{F F' H H' a} s e ⟨ks,h,r⟩=>⟨ks,by rw[e a (List.mem_singleton.mpr rfl)];exact h,r.mono s⟩
theorem RS.objWrite {Y:Dyn}{F:Hp}{σd:Sd}{σ:St}{H:Hp}{i:Nat}{o o':O}{a c:Addr}{u:HO}(R:RS Y F σd σ H)(e:σd[i]?=some (some (.obj o)))(h:σ[i]?=some (some (.ref a)))(hc:c∈o.fp a)(hfp:∀ b,b∈o'.fp a->b∈o.fp a)
  (hr:o'.rep F (bz H c u) a):RS Y F (σd.set i (some (.obj o'))) σ (bz H c u):=by
 obtain⟨a',w1,w2,w3⟩:=R.ob.obj i o e;rw[h] at w1;cases w1;have ow:∀ b∈o.fp a,eh σd σ b:=λb hb=>⟨i,o,a,e,h,hb⟩;have hl:i < σd.length:=(List.getElem?_eq_some_iff.mp e).1;have up:∀ {b:Addr},H b≠none->(bz H c u) b≠none:=λ{b} hb=>by
  by_cases z:b=c
  ·rw[z,aw];exact λy=>nomatch y
  ·rw[am z];exact hb
 refine⟨by simpa using R.len,R.lo,λb q z=>?_,R.fro,λb q z n=>?_,λj d z=>?_,λj xs z=>?_,λj l xs ys b z1 z2 z3 z4=>?_,λp hp=>?_,⟨λj p z=>?_,λj l p p2 b d z1 z2 z3 z4 hne x hx hx2=>?_,λj ys b z1 z2 ⟨l,p,d,z3,z4,hm⟩=>?_,λb hb=>up (R.ob.there b hb),R.ob.thz,R.ob.tab⟩⟩
 ·have:b≠c:=λy=>by rw[y,(w3 c hc).1] at z;cases z
  rw[am this];exact R.fr b q z
 ·have:b≠c:=λy=>by
   subst y;rcases (w3 b hc).2.2 with y|y
   ·rw[y] at z;cases z
   ·exact n (List.mem_append_right _ y)
  rw[am this];exact R.old b q z n
 ·rcases gs z with ⟨_,y⟩|⟨_,z⟩
  ·cases y
  ·exact R.sh j d z
 ·rcases gs z with ⟨_,y⟩|⟨_,z⟩
  ·cases y
  ·obtain⟨b,vs,y1,y2,y3⟩:=R.own j xs z
   have:b≠c:=λy=>R.ob.dsx j xs b z y1 (y ▸ ow c hc);exact⟨b,vs,y1,by rw[am this];exact y2,y3⟩
 ·rcases gs z1 with ⟨_,y⟩|⟨_,z1⟩
  ·cases y
  rcases gs z2 with ⟨_,y⟩|⟨_,z2⟩
  ·cases y
  exact R.dis j l xs ys b z1 z2 z3 z4
 ·obtain⟨y1,xs,y2⟩:=R.io p hp
  have:p.1≠i:=λy=>by rw[y,e] at y2;cases y2
  exact⟨y1,xs,by rw[br this];exact y2⟩
 ·rcases gs z with ⟨rfl,y⟩|⟨hj,z⟩
  ·cases y
   exact⟨a,h,hr,λb hb=>⟨(w3 b (hfp b hb)).1,up (w3 b (hfp b hb)).2.1,(w3 b (hfp b hb)).2.2⟩⟩
  ·obtain⟨b,y1,y2,y3⟩:=R.ob.obj j p z
   refine⟨b,y1,p.mono (Same.refl _) (λd hd=>?_) y2,λd hd=>⟨(y3 d hd).1,up (y3 d hd).2.1,(y3 d hd).2.2⟩⟩;exact am λy=>R.ob.dso i j o p a b e z h y1 (Ne.symm hj) c hc (y ▸ hd)
 ·rcases gs z1 with ⟨e1,y⟩|⟨hj,y1⟩
  ·cases y
   subst e1;rw[h] at z3;cases z3;rcases gs z2 with ⟨e2,_⟩|⟨hl2,y2⟩
   ·exact hne e2.symm
   ·exact R.ob.dso j l o p2 a d e y2 h z4 hne x (hfp x hx) hx2
  ·rcases gs z2 with ⟨e2,y⟩|⟨hl2,y2⟩
   ·cases y
    subst e2;rw[h] at z4;cases z4;exact R.ob.dso j l p o b a y1 e z3 h hne x hx (hfp x hx2)
   ·exact R.ob.dso j l p p2 b d y1 y2 z3 z4 hne x hx hx2
 ·rcases gs z1 with ⟨_,y⟩|⟨_,y1⟩
  ·cases y
  rcases gs z3 with ⟨e3,y⟩|⟨_,y3⟩
  ·cases y
   subst e3;rw[h] at z4;cases z4;exact R.ob.dsx j ys b y1 z2 (ow b (hfp b hm))
  ·exact R.ob.dsx j ys b y1 z2 ⟨l,p,d,y3,z4,hm⟩
theorem RS.dctFreeze {Y:Dyn}{F:Hp}{σd:Sd}{σ:St}{H:Hp}{i:Nat}{kvs:List (D×D)}(R:RS Y F σd σ H)(e:σd[i]?=some (some (.obj (ue kvs))))(hob:Y.ob=[]) :
  ∃ F' v,Same F F'/\RS Y F' (σd.set i (some (.sh (.dct kvs)))) σ H/\σ[i]?=some (some v)/\Rep F' v (.dct kvs):=by
 obtain⟨a,w1,⟨ks,w2,w3⟩,w4⟩:=R.ob.obj i _ e;have ha:=w4 a (List.mem_singleton.mpr rfl);have hz:Y.H0 a=none:=ha.2.2.elim id λz=>by rw[hob] at z;cases z
 have sm:=aG (o:=.dT ks) ha.1;have ow:eh σd σ a:=⟨i,_,a,e,w1,List.mem_singleton.mpr rfl⟩;have hl:i < σd.length:=(List.getElem?_eq_some_iff.mp e).1;have rep:Rep (bz F a (.dT ks)) (.ref a) (.dct kvs):=.dctT aw (w3.mono sm);refine⟨bz F a (.dT ks),.ref a,sm,⟨by simpa using R.len,R.lo.trans sm,λb q z=>?_,λb q z=>?_,R.old,λj d z=>?_,λj xs z=>?_,λj l xs ys b z1 z2 z3 z4=>?_,λp hp=>?_,?_⟩,w1,rep⟩
 ·by_cases hb:b=a
  ·subst hb;rw[aw] at z;cases z;exact w2
  ·rw[am hb] at z;exact R.fr b q z
 ·by_cases hb:b=a
  ·rw[hb];exact .inr (.inl hz)
  ·rw[am hb] at z;exact R.fro b q z
 ·rcases gs z with ⟨rfl,y⟩|⟨_,z⟩
  ·cases y;exact⟨_,w1,rep⟩
  ·obtain⟨v,y1,y2⟩:=R.sh j d z
   exact⟨v,y1,y2.mono sm⟩
 ·rcases gs z with ⟨_,y⟩|⟨_,z⟩
  ·cases y
  ·obtain⟨b,vs,y1,y2,y3,y4,y5⟩:=R.own j xs z
   have:b≠a:=λy=>R.ob.dsx j xs b z y1 (y ▸ ow);exact⟨b,vs,y1,y2,y3.mono sm,by rw[am this];exact y4,y5⟩
 ·rcases gs z1 with ⟨_,y⟩|⟨_,z1⟩
  ·cases y
  rcases gs z2 with ⟨_,y⟩|⟨_,z2⟩
  ·cases y
  exact R.dis j l xs ys b z1 z2 z3 z4
 ·obtain⟨y1,xs,y2⟩:=R.io p hp
  have:p.1≠i:=λy=>by rw[y,e] at y2;cases y2
  exact⟨y1,xs,by rw[br this];exact y2⟩
 ·refine⟨λj p z=>?_,λj l p p2 b d z1 z2=>?_,λj ys b z1 z2 ⟨l,p,d,z3,z4,hm⟩=>?_,R.ob.there,R.ob.thz,R.ob.tab.mono sm⟩
  ·rcases gs z with ⟨_,y⟩|⟨hj,z⟩
   ·cases y
   obtain⟨b,y1,y2,y3⟩:=R.ob.obj j p z;refine⟨b,y1,p.mono sm (λ_ _=>rfl) y2,λd hd=>⟨?_,(y3 d hd).2⟩⟩;have hne:d≠a:=λy=>R.ob.dso i j _ p a b e z w1 y1 (Ne.symm hj) a (List.mem_singleton.mpr rfl) (by rw[<- y];exact hd)
   rw[am hne];exact (y3 d hd).1
  ·rcases gs z1 with ⟨_,y⟩|⟨_,z1⟩
   ·cases y
   rcases gs z2 with ⟨_,y⟩|⟨_,z2⟩
   ·cases y
   exact R.ob.dso j l p p2 b d z1 z2
  ·rcases gs z1 with ⟨_,y⟩|⟨_,z1⟩
   ·cases y
   rcases gs z3 with ⟨_,y⟩|⟨_,z3⟩
   ·cases y
   exact R.ob.dsx j ys b z1 z2 ⟨l,p,d,z3,z4,hm⟩
def Fc:TX:=λσ Q=>Q (.obj (ue [])) σ
theorem BT {pos:Pos}:EX G k S (.Dict [] [] pos) Fc:=.mk λX Y ok=>aP nW λσ H Q q=>by
 obtain⟨F,σd,Qd,R,q,K⟩:=q;intro p hp;refine K _ _ F (.obj (ue [])) σd (Same.refl _) (R.alloc0 hp) ⟨p,rfl,⟨[],aw,.nil⟩,λb hb=>?_⟩ q;rw[List.mem_singleton.mp hb];exact⟨bi R.fr hp,(by rw[aw];exact λz=>nomatch z),(R.fresh0 hp).1,R.noFresh hp⟩
def Qv (i:Nat):TV:=λσ Q=>(∃ o,σ[i]?=some (some (.obj o)))/\Q (.var i) σ
theorem Qw (i:Nat){x:Str}{pos:Pos}(hN:S.N[i]?=some x:=by rfl)(hv:S.sc.lookup x=some .local\/S.sc.lookup x=some .cell\/S.sc.lookup x=some .free:=by first|exact Or.inl rfl|exact Or.inr (Or.inl rfl)|exact Or.inr (Or.inr rfl))
  (hd:(x==("__debug__":Str))=false:=by decide) (hcd:(x==("__classdict__":Str))=false:=by decide):EO G k S (.Name x pos) (Qv i):=.mk λX Y ok =>
 aP (fA (X:=X) (i:=i) (by rw[ok.N];exact hN) (by unfold Ao;rw[ok.sc];exact hv) hd hcd) λσ H Q q=>by
  obtain⟨F,σd,Qd,R,⟨⟨o,e⟩,q⟩,K⟩:=q;obtain⟨a,w1,_⟩:=R.ob.obj i o e;exact⟨.ref a,w1,K _ H F (.var i) σd (Same.refl _) R w1 q⟩
def Qx (i:Nat):TD:=λσ Q=>∃ kvs,σ[i]?=some (some (.obj (ue kvs)))/\Q (.dct kvs) (σ.set i (some (.sh (.dct kvs))))
theorem Qy (i:Nat){x:Str}{pos:Pos}(hN:S.N[i]?=some x:=by rfl)(hv:S.sc.lookup x=some .local\/S.sc.lookup x=some .cell\/S.sc.lookup x=some .free:=by first|exact Or.inl rfl|exact Or.inr (Or.inl rfl)|exact Or.inr (Or.inr rfl))
  (hd:(x==("__debug__":Str))=false:=by decide) (hcd:(x==("__classdict__":Str))=false:=by decide) (hbk:S.blk=false:=by rfl) (hio:S.ios=[]:=by rfl):ED G k S (.Name x pos) (Qx i):=.mk λX Y ok =>
 aP (fA (X:=X) (i:=i) (by rw[ok.N];exact hN) (by unfold Ao;rw[ok.sc];exact hv) hd hcd) λσ H Q q=>by
  obtain⟨F,σd,Qd,R,⟨kvs,e,q⟩,K⟩:=q;obtain⟨F',v,s,R',e2,r⟩:=R.dctFreeze e (ok.obs hbk hio);exact⟨v,e2,K v H F' (.dct kvs) _ s R' r q⟩
def Fd (i:Nat)(tk tv:TD):cj:=λDe σ=>tv σ λd σ1=>(∃ o,σ1[i]?=some (some (.obj o)))/\tk σ1 λkd σ2=>∃ kvs ks,σ2[i]?=some (some (.obj (ue kvs)))/\keyT kd=some ks/\kvs.length < sizeLine/\De.nx (σ2.set i (some (.obj (ue (pp kvs kd d)))))
theorem BU (i:Nat){x:Str}{ke ve:Expr}{tk tv:TD}{np pos' pos:Pos}(hv:ED G k S ve tv)(hk:ED G k S ke tk)(ho:EO G k S (.Name x np) (Qv i))(hs:∀ line env,swapsWith ve (some (.Subscript (.Name x np) ke pos')) line env=pure false:=by intro _ _;rfl) :
  ES G k S (.Assign [.Subscript (.Name x np) ke pos'] ve pos) (Fd i tk tv):=.mk λX Y ok =>
 cB (AQ (by have:=ok.units;omega) (ho X Y ok) (hk X Y ok) (hv X Y ok) (hs _ _)) λDn σ H q=>by
  obtain⟨F,σd,De,R,q,K⟩:=q;refine⟨F,σd,_,R,q,λv H1 F1 d σ1 s1 R1 r1 q1=>?_⟩;refine⟨F1,σ1,λx σ1'=>x=.var i/\tk σ1' λkd σ2=>∃ kvs ks,σ2[i]?=some (some (.obj (ue kvs)))/\keyT kd=some ks/\kvs.length < sizeLine/\De.nx (σ2.set i (some (.obj (ue (pp kvs kd d))))),R1,⟨q1.1,rfl,q1.2⟩,λv2 H2 F2 y σ2 s2 R2 r2 q2=>?_⟩;obtain⟨rfl,q2⟩:=q2;have r2:σ[i]?=some (some v2):=r2;refine⟨F2,σ2,_,R2,q2,λv3 H3 F3 kd σ3 s3 R3 r3 q3=>?_⟩;obtain⟨kvs,ks,e,ek,hl,q3⟩:=q3;obtain⟨a,w1,⟨us,w2,w3⟩,w4⟩:=R3.ob.obj i _ e;rw[r2] at w1;cases w1;obtain rfl:=ju ek;obtain⟨b,rfl,hb⟩:=r3.keyT;refine⟨a,_,rfl,.t w2 (R3.fr b _ hb) (by rw[w3.length];exact hl),K.nx σ _ F3 _ ((s1.trans s2).trans s3) (R3.objWrite (o':=ue (pp kvs (.tup (ks.map kD)) d)) e r2 (List.mem_singleton.mpr rfl) (λ_ z=>z) ⟨_,aw,w3.put ks (r1.mono (s2.trans s3))⟩) q3⟩
end Vc

namespace Vx
open PySem PySem.Spec PyProof.Rows PySem.Builtin L2
end Vx
namespace Vc
open PySem L2
variable [KF]
variable {G:GE}{k:Nat}{S:Stat}
end Vc


namespace Vc
open PySem L2
variable [KF]
variable {G:GE}{k:Nat}{S:Stat}
end Vc


namespace Vc
open PySem PyProof.Rows
section
variable {prog:Program}{w:World}{A:Around}{R:Result->Shared->Prop}
def Kp (h g:Heap):Prop:=∀ b o,h.get? b=some o->g.get? b=some o
end
end Vc

namespace Vc
open PySem PySem.Spec PyProof.Rows L2
section
variable {prog:Program}{w:World}{A:Around}
def Qz (x:Str)(p:Pos):Arguments:={ posonlyargs:=[],args:=[{ arg:=x,annotation:=none,pos:=p }],vararg:=none,kwonlyargs:=[],kw_defaults:=[],kwarg:=none,defaults:=[] }
def QA (x:Str)(n:Nat)(p1 p2 p3:Pos):Expr:=.Subscript (.Name x p1) (.Constant (.int 0) n p2) p3
example {qual:Str} {p p1 p2 p3:Pos} {n:Nat} {scope:Scope} {pm ctv:Value} {a c':Addr}:bindArgs (PySem.W.kla_fn "<lambda>" qual (Qz "one" p) (QA "one" n p1 p2 p3) scope [] pm (.ref c') ctv) ⟨[.ref a],[]⟩=pure [(("one":Str),Value.ref a)]:=rfl
end
end Vc

namespace Vc
open PySem PySem.Spec PyProof.Rows L2
section
variable {M:Model}{A:Around}{E:Value->Shared->Prop}{s:Shared}{params:Arguments}{body:Expr}{scope:Scope}{env:Env}{c P:Addr}{ps more:Array Value}{pos:Pos}{mg:Str->Option Value}{Q:Value->Shared->Prop}
end
end Vc

namespace Vc
open PySem PySem.Spec PyProof.Rows L2
section
variable [KF]{X:Cx}{pins:List (Addr×Obj)}{σ:L2.St}{H H1:Hp}{s:Shared}{P f c':Addr}{ps more':Array Value}{pos:Pos}{qual:Str}{oc fo:Obj}{vs:Array Value}{t:Tok}{h':Heap}{t':Nat}
end
end Vc

namespace Vc
open PySem PySem.Spec PyProof.Rows L2
structure LamAt (X:Cx)(c P:Addr):Prop where
 code:X.env.code=.ref c
 hd:PySem.W.CodeHd X.base c P
 gP:mainGlobals≠P
 bm:X.base.BuiltinsAt X.mg P
section
variable [KF]{X:Cx}{c P:Addr}{ps:Array Value}{lpos:Pos}{params:Arguments}{body:Expr}{scope:Scope}
end
section
variable [KF]{G:GE}{k:Nat}{S:Stat}
end
end Vc

namespace Vc
open PySem PySem.W L2
section
variable {P:Addr}{K:Frag}(hP:K.lookup P=some (tabObj #[]))
include hP
end
end Vc

namespace Vc
open PySem PySem.Spec PyProof.Rows L2
section
variable [KF]{G:GE}{k:Nat}
structure LamG (G:GE)(fd:FuncData)(lpos:Pos)(x:Str):Prop where
 ex:∃ (c P bm:Addr) (sl:Array (Option Value)),fd.code=.ref c/\PySem.W.codeHdIn G.K c P=true/\(P,#[],lpos,x++".<locals>."++"<lambda>")∈KF.tabs/\mainGlobals≠P/\G.mg "__builtins__"=some (.ref bm)/\bm≠builtinsNs/\bm≠mainGlobals/\bm≠P/\G.K.lookup bm=some ⟨.type "module",some builtinsNs,.plain,sl⟩
end
end Vc

namespace Vc
open PySem L2
variable [KF]
structure CompSc1 (X:Cx)(scope:Scope)(N':List Str)(caps:List (Option Nat))(z:Str):Prop where
 kind:scope.kind=.function
 names:∀ y∈scope.names,y.2=.local->scope.names.lookup y.1=some .local
 free:∀ y∈scope.names,y.2=.free->X.env.kindOf y.1=some .cell\/X.env.kindOf y.1=some .free
 len:caps.length=N'.length
 cap:∀ (i:Nat) (j:Nat),caps[i]?=some (some j)->∃ x,N'[i]?=some x/\X.N[j]?=some x/\scope.names.lookup x=some .free
 cz:scope.names.lookup z=some .cell
 one:∀ y∈scope.names,y.2=.cell->y.1=z
 lay:∀ h:Heap,pushCells h scope.names=h.push { cls:=.type "cell",data:=.cell none }
 frm:∀ n acc,cellsFrom n scope.names acc=(z,n)::acc
section
variable {X:Cx}{pins:List (Addr×Obj)}{σ:St}{H:Hp}{s:Shared}{elt target iter:Expr}{ifs:List Expr}{scope:Scope}{pos:Pos}{N':List Str}{caps:List (Option Nat)}{z:Str}
end
section
variable {X:Cx}{elt iter:Expr}{ifs:List Expr}{scope:Scope}{pos:Pos}{N':List Str}{caps:List (Option Nat)}{wi:TI}{tc:TT}{te:TE}
end
variable {G:GE}{k:Nat}{S:Stat}
structure BlkC (S:Stat)(scope:Scope)(N':List Str)(caps:List (Option Nat))(z:Str):Prop where
 kind:scope.kind=.function
 nd:N'.Nodup
 names:scope.names.all (λy=>y.2 != .local||scope.names.lookup y.1==some .local)=true
 free:scope.names.all (λy=>y.2 != .free||S.sc.lookup y.1==some .cell||S.sc.lookup y.1==some .free)=true
 len:caps.length=N'.length
 cap:(caps.zip N').all (λp=>match p.1 with|some j=>S.N[j]?==some p.2&&scope.names.lookup p.2==some .free|none=>true)=true
 cz:scope.names.lookup z=some .cell
 one:scope.names.all (λy=>y.2 != .cell||y.1==z)=true
 lay:∀ h:Heap,pushCells h scope.names=h.push { cls:=.type "cell",data:=.cell none }
 frm:∀ n acc,cellsFrom n scope.names acc=(z,n)::acc
 idx:N'[0]?=some z
end Vc

namespace Vc
open PySem L2
variable [KF]
section
variable {X:Cx}
end
theorem RS.objSet {Y:Dyn}{F:Hp}{σd:Sd}{σ:St}{H H':Hp}{i:Nat}{o o':O}{a:Addr}(R:RS Y F σd σ H)(e:σd[i]?=some (some (.obj o)))(h:σ[i]?=some (some (.ref a)))
  (keep:∀ b,b∉o.fp a->H b≠none->H' b=H b) (live:∀ b,H b≠none->H' b≠none) (hfp:∀ b∈o'.fp a,b∈o.fp a\/H b=none) (hn:∀ b∈o'.fp a,H' b≠none)
  (hr:o'.rep F H' a):RS Y F (σd.set i (some (.obj o'))) σ H':=by
 obtain⟨a',w1,w2,w3⟩:=R.ob.obj i o e;rw[h] at w1;cases w1;have ow:∀ b∈o.fp a,eh σd σ b:=λb hb=>⟨i,o,a,e,h,hb⟩;have hl:i < σd.length:=(List.getElem?_eq_some_iff.mp e).1;refine⟨by simpa using R.len,R.lo,λb q z=>?_,R.fro,λb q z n=>?_,λj d z=>?_,λj xs z=>?_,λj l xs ys b z1 z2 z3 z4=>?_,λp hp=>?_,⟨λj p z=>?_,λj l p p2 b d z1 z2 z3 z4 hne x hx hx2=>?_,λj ys b z1 z2 ⟨l,p,d,z3,z4,hm⟩=>?_,λb hb=>live b (R.ob.there b hb),R.ob.thz,R.ob.tab⟩⟩
 ·have hb:b∉o.fp a:=λy=>by rw[(w3 b y).1] at z;cases z
  have:=R.fr b q z;rw[keep b hb (by rw[this];exact λy=>nomatch y)];exact this
 ·have hb:b∉o.fp a:=λy=>by
   rcases (w3 b y).2.2 with y|y
   ·rw[y] at z;cases z
   ·exact n (List.mem_append_right _ y)
  have:=R.old b q z n;rw[keep b hb (by rw[this];exact λy=>nomatch y)];exact this
 ·rcases gs z with ⟨_,y⟩|⟨_,z⟩
  ·cases y
  ·exact R.sh j d z
 ·rcases gs z with ⟨_,y⟩|⟨_,z⟩
  ·cases y
  ·obtain⟨b,vs,y1,y2,y3⟩:=R.own j xs z
   have hb:b∉o.fp a:=λy=>R.ob.dsx j xs b z y1 (ow b y);exact⟨b,vs,y1,by rw[keep b hb (by rw[y2];exact λy=>nomatch y)];exact y2,y3⟩
 ·rcases gs z1 with ⟨_,y⟩|⟨_,z1⟩
  ·cases y
  rcases gs z2 with ⟨_,y⟩|⟨_,z2⟩
  ·cases y
  exact R.dis j l xs ys b z1 z2 z3 z4
 ·obtain⟨y1,xs,y2⟩:=R.io p hp
  have:p.1≠i:=λy=>by rw[y,e] at y2;cases y2
  exact⟨y1,xs,by rw[br this];exact y2⟩
 ·rcases gs z with ⟨rfl,y⟩|⟨hj,z⟩
  ·cases y
   refine⟨a,h,hr,λb hb=>?_⟩;rcases hfp b hb with y|y
   ·exact⟨(w3 b y).1,hn b hb,(w3 b y).2.2⟩
   ·exact⟨bi R.fr y,hn b hb,.inl (R.fresh0 y).1⟩
  ·obtain⟨b,y1,y2,y3⟩:=R.ob.obj j p z
   have kp:∀ d∈p.fp b,H' d=H d:=λd hd=>keep d (λy=>R.ob.dso i j o p a b e z h y1 (Ne.symm hj) d y hd) (y3 d hd).2.1;exact⟨b,y1,p.mono (Same.refl _) kp y2,λd hd=>⟨(y3 d hd).1,live d (y3 d hd).2.1,(y3 d hd).2.2⟩⟩
 ·rcases gs z1 with ⟨e1,y⟩|⟨hj,y1⟩
  ·cases y
   subst e1;rw[h] at z3;cases z3;rcases gs z2 with ⟨e2,_⟩|⟨hl2,y2⟩
   ·exact hne e2.symm
   ·rcases hfp x hx with y|y
    ·exact R.ob.dso j l o p2 a d e y2 h z4 hne x y hx2
    ·exact (R.ob.owned ⟨l,p2,d,y2,z4,hx2⟩).2.1 y
  ·rcases gs z2 with ⟨e2,y⟩|⟨hl2,y2⟩
   ·cases y
    subst e2;rw[h] at z4;cases z4;rcases hfp x hx2 with y|y
    ·exact R.ob.dso j l p o b a y1 e z3 h hne x hx y
    ·exact (R.ob.owned ⟨j,p,b,y1,z3,hx⟩).2.1 y
   ·exact R.ob.dso j l p p2 b d y1 y2 z3 z4 hne x hx hx2
 ·rcases gs z1 with ⟨_,y⟩|⟨_,y1⟩
  ·cases y
  rcases gs z3 with ⟨e3,y⟩|⟨_,y3⟩
  ·cases y
   subst e3;rw[h] at z4;cases z4;rcases hfp b hm with y|y
   ·exact R.ob.dsx j ys b y1 z2 (ow b y)
   ·obtain⟨c,vs,u1,u2,_⟩:=R.own j ys y1
    rw[z2] at u1;cases u1;rw[y] at u2;cases u2
  ·exact R.ob.dsx j ys b y1 z2 ⟨l,p,d,y3,z4,hm⟩
theorem RS.objGive {Y:Dyn}{F F':Hp}{σd:Sd}{σ:St}{H:Hp}{i:Nat}{o:O}{a:Addr}(R:RS Y F σd σ H)(e:σd[i]?=some (some (.obj o)))(h:σ[i]?=some (some (.ref a)))(hob:Y.ob=[])(sm:Same F F')
  (hF:∀ b u,F' b=some u->F b=some u\/(b∈o.fp a/\H b=some u)):RS Y F' (σd.set i none) σ H:=by
 obtain⟨a',w1,w2,w3⟩:=R.ob.obj i o e;rw[h] at w1;cases w1;have ow:∀ b∈o.fp a,eh σd σ b:=λb hb=>⟨i,o,a,e,h,hb⟩;have hl:i < σd.length:=(List.getElem?_eq_some_iff.mp e).1;refine⟨by simpa using R.len,R.lo.trans sm,λb q z=>?_,λb q z=>?_,R.old,λj d z=>?_,λj xs z=>?_,λj l xs ys b z1 z2 z3 z4=>?_,λp hp=>?_,⟨λj p z=>?_,λj l p p2 b d z1 z2=>?_,λj ys b z1 z2 ⟨l,p,d,z3,z4,hm⟩=>?_,R.ob.there,R.ob.thz,R.ob.tab.mono sm⟩⟩
 ·rcases hF b q z with y|y
  ·exact R.fr b q y
  ·exact y.2
 ·rcases hF b q z with y|y
  ·exact R.fro b q y
  ·exact .inr (.inl ((w3 b y.1).2.2.elim id λx=>by rw[hob] at x;cases x))
 ·rcases gs z with ⟨_,y⟩|⟨_,z⟩
  ·cases y
  ·obtain⟨v,y1,y2⟩:=R.sh j d z
   exact⟨v,y1,y2.mono sm⟩
 ·rcases gs z with ⟨_,y⟩|⟨_,z⟩
  ·cases y
  ·obtain⟨b,vs,y1,y2,y3,y4,y5⟩:=R.own j xs z
   refine⟨b,vs,y1,y2,y3.mono sm,?_,y5⟩;cases q:F' b with
   | none=>rfl
   | some u =>
    rcases hF b u q with y|y
    ·rw[y4] at y;cases y
    ·exact absurd (ow b y.1) (R.ob.dsx j xs b z y1)
 ·rcases gs z1 with ⟨_,y⟩|⟨_,z1⟩
  ·cases y
  rcases gs z2 with ⟨_,y⟩|⟨_,z2⟩
  ·cases y
  exact R.dis j l xs ys b z1 z2 z3 z4
 ·obtain⟨y1,xs,y2⟩:=R.io p hp
  have:p.1≠i:=λy=>by rw[y,e] at y2;cases y2
  exact⟨y1,xs,by rw[br this];exact y2⟩
 ·rcases gs z with ⟨_,y⟩|⟨hj,z⟩
  ·cases y
  obtain⟨b,y1,y2,y3⟩:=R.ob.obj j p z;refine⟨b,y1,p.mono sm (λ_ _=>rfl) y2,λd hd=>⟨?_,(y3 d hd).2⟩⟩;cases q:F' d with
  | none=>rfl
  | some u =>
   rcases hF d u q with y|y
   ·rw[(y3 d hd).1] at y;cases y
   ·exact absurd hd (R.ob.dso i j o p a b e z h y1 (Ne.symm hj) d y.1)
 ·rcases gs z1 with ⟨_,y⟩|⟨_,z1⟩
  ·cases y
  rcases gs z2 with ⟨_,y⟩|⟨_,z2⟩
  ·cases y
  exact R.ob.dso j l p p2 b d z1 z2
 ·rcases gs z1 with ⟨_,y⟩|⟨_,z1⟩
  ·cases y
  rcases gs z3 with ⟨_,y⟩|⟨_,z3⟩
  ·cases y
  exact R.ob.dsx j ys b z1 z2 ⟨l,p,d,z3,z4,hm⟩
end Vc

namespace Vc
open PySem L2
variable [KF]
variable {G:GE}{k:Nat}{S:Stat}
theorem dL {α β:Type}(f:α->β):∀ {l:List α},(l.map f).Nodup->∀ {x y:α},x∈l->y∈l->f x=f y->x=y
 | a::l,h,x,y,hx,hy,e=>by
  rw[List.map_cons,List.nodup_cons] at h;rcases List.mem_cons.mp hx with hx|hx
  ·rcases List.mem_cons.mp hy with hy|hy
   ·rw[hx,hy]
   ·exact absurd (by rw[<- hx,e];exact List.mem_map_of_mem hy) h.1
  ·rcases List.mem_cons.mp hy with hy|hy
   ·exact absurd (by rw[<- hy,<- e];exact List.mem_map_of_mem hx) h.1
   ·exact dL f h.2 hx hy e
end Vc

namespace Vc
open PySem L2
variable [KF]
variable {G:GE}{k:Nat}{S:Stat}
end Vc

set_option maxHeartbeats 400000
namespace Vc
open PySem L2
variable [KF]
variable {G:GE}{k:Nat}{S:Stat}
end Vc

set_option maxHeartbeats 400000
namespace Vc
open PySem L2
variable [KF]
variable {G:GE}{k:Nat}{S:Stat}
end Vc

namespace Vc
open PySem L2
section
variable {prog:Program}{w:World}{K:Type}[DecidableEq K]{kn:HeapKind prog w K}{A:Around}{E:Value->Shared->Prop}{s:Shared}
theorem vL {d b:Addr}{xs:List (K×Addr×Value)}{k:K}{z:Value}{Q:Value->Shared->Prop}(r0:kn.room A)(i0:kn.is s.heap k b)(m0:s.heap.DictOfH kn d xs)(z0:xs.length<=sizeLine)
  (q1:∀ p,atKey xs k=some p->Q p.2 { s with toks:=s.toks+kn.draws k })
  (q2:atKey xs k=none->∀ h',h'.DictOfH kn d (storedH xs k b z)->Heap.SameBut d s.heap h'->Q z { s with heap:=h',toks:=s.toks+kn.draws k }) :
  wpAny (model prog w) A (dictSetDefault d (.ref b) z) Q E s:=by
 obtain⟨ob,en,c,e1,e2,e3,e4,e5,e6⟩:=m0;unfold dictSetDefault;refine wpAny_holding (wpAny_bind (kn.pyHash r0 i0 (wpAny_bind (wpAny_dictFind_heap (s:={ s with toks:=s.toks+kn.draws k }) r0 i0 e1 e3 e4 e5 e6 (λn0=>?_) λj p hj=>?_))))
 ·have nn:=atKey_none_of_get n0
  have ni:k∉xs.map (·.1):=not_mem_keys_of_get n0
  refine wpAny_bind (wpAny_rule (wpAny_bind (wpAny_updateDictKeys (hz:=by have:=size_of_entries e4;omega) (s:={ s with toks:=s.toks+kn.draws k }) e1 e3 (wpAny_pure (q2 nn _ ⟨_,_,c+1,Heap.get?_update_self _ e1 (Obj.isFreed_of_dict (Obj.data_mapDictKeys e3 _)),e2.mapDictKeys _,Obj.data_mapDictKeys e3 _,?_,?_,?_⟩ (Heap.SameBut.update ..))))))
  ·rw[storedH_new nn,Array.toList_push,e4,List.map_append];rfl
  ·rw[storedH_new nn]
   intro x hx;refine (List.mem_append.mp hx).elim (λhx=>kn.keeps (e5 x hx) e1 e3 (Heap.SameBut.update ..)) λhx=>?_;rw[List.mem_singleton.mp hx];exact kn.keeps i0 e1 e3 (Heap.SameBut.update ..)
  ·rw[storedH_new nn,List.map_append,List.nodup_append]
   refine⟨e6,by simp,λx hx y hy z=>ni ?_⟩
   have hy:y=k:=by simpa using hy
   rw[<- hy,<- z];exact hx
 ·refine wpAny_bind (wpAny_dictEntries (s:={ s with toks:=s.toks+kn.draws k }) e1 e3 ?_)
  rw[entry_at e4 j,hj];exact wpAny_bind (wpAny_rule (wpAny_pure (q1 p (atKey_of_get e6 hj))))
theorem tV (d b:Addr)(lo:(d==sysModules)=false)(z:Value) :
  MeetsIn prog w (Builtin.«dict.setdefault» ⟨[.ref d,.ref b,z],[]⟩) (λA R s=>kn.room A.in1/\∃ k xs,kn.is s.heap k b/\s.heap.DictOfH kn d xs/\xs.length<=sizeLine /\
   (∀ p,atKey xs k=some p->R (.ok (.ret p.2)) { s with toks:=s.toks+kn.draws k }) /\
   (atKey xs k=none->∀ h',h'.DictOfH kn d (storedH xs k b z)->Heap.SameBut d s.heap h'->R (.ok (.ret z)) { s with heap:=h',toks:=s.toks+kn.draws k })) :=
 .of_wp λA R s ⟨r0,k,xs,i0,m0,z0,q1,q2⟩=>by
  unfold Builtin.«dict.setdefault» Builtin.Dict.keyAndDefault;refine wpAny_bind (wpAny_bind (wpAny_notOrdered_dict m0.typeIs ?_));show wpAny _ _ (pure (d,Value.ref b,some z)) _ _ s;refine wpAny_pure ?_;show wpAny _ _ (if (d==sysModules)=true then _ else (dictSetDefault d (.ref b) z >>= _)) _ _ s
  rw[lo,if_neg Bool.false_ne_true];exact wpAny_bind (vL r0 i0 m0 z0 (λp hp=>wpAny_pure ⟨p.2,rfl,q1 p hp⟩) λhn h' m' s'=>wpAny_pure ⟨z,rfl,q2 hn h' m' s'⟩)
end
end Vc

namespace Vc
open PySem L2
section
variable {prog:Program}{w:World}{A:Around}{E:Value->Shared->Prop}{s:Shared}{d it:Addr}{en:Array DictEntry}{c i:Nat}
def DAt (h:Heap)(d:Addr)(en:Array DictEntry)(c:Nat):Prop:=∃ ob,h.get? d=some ob/\ob.ExactDict/\ob.data=.dict en c
theorem DAt.ty (h:DAt s.heap d en c):s.TypeIs (.ref d) "dict":=let ⟨ob,e,x,_⟩:=h;⟨ob,e,x.1⟩
theorem BV {Q:Value->Shared->Prop}(lo:(d==sysModules)=false)(m:DAt s.heap d en c)
  (q:Q (.ref s.heap.objs.size) { s with heap:=s.heap.push { cls:=.type "dict_keyiterator",data:=.fields #[.ref d,.int 0 0,.int en.size 0,.int c 0] } }):wpAny (model prog w) A (pyIter (.ref d)) Q E s:=by
 obtain⟨ob,e1,e2,e3⟩:=id m;refine wpAny_pyIter_slot m.ty F.slot_dict_iter (wpAny_call_entry F.slot_dict_iter m.ty F.entry_dict_iter ?_ (F.args_dict_iter_1 _));unfold Builtin.«dict.__iter__» Builtin.Dict.dictSlotNone;refine wpAny_bind (wpAny_bind (wpAny_notOrdered_dict m.ty ?_));show wpAny _ _ (pure (Value.ref d)) _ _ _;refine wpAny_pure ?_;show wpAny _ _ (Builtin.Dict.showsAll d >>= _) _ _ _;unfold Builtin.Dict.showsAll;rw[lo,if_neg Bool.false_ne_true];refine wpAny_bind (wpAny_pure (wpAny_bind (wpAny_dictEntries e1 e3 (wpAny_bind (wpAny_dictEpoch e1 e3 (wpAny_bind (wpAny_newObj_type (wpAny_pure ⟨_,rfl,"dict_keyiterator",_,⟨_,Heap.get?_push_size _ rfl,rfl⟩,F.slot_dict_keyiterator_next.lookup,?_⟩))))))));simpa [rawInt] using q
theorem BW {e:DictEntry}{Q:Option Value->Shared->Prop}(t:s.heap.IsKeyIter it d i en.size c)(m:DAt s.heap d en c)(x:en[i]?=some e)
  (q:∀ h',h'.IsKeyIter it d (i+1) en.size c->Heap.SameBut it s.heap h'->Q (some e.key) { s with heap:=h' }):wpAny (model prog w) A (pyNext (.ref it)) Q E s:=by
 obtain⟨o1,t1,t2,t3⟩:=id t;obtain⟨ob,e1,e2,e3⟩:=id m;unfold pyNext;refine wpAny_bind (wpAny_attempt (wpAny_callSpecial?_slot (name:=Str.ofString "__next__") t.typeIs F.slot_dict_keyiterator_next (wpAny_call_entry F.slot_dict_keyiterator_next t.typeIs F.entry_dict_keyiterator_next ?_ (F.args_dict_keyiterator_next_1 _))));refine wpAny_bind (wpAny_pure (wpAny_bind (wpAny_bind ?_)))
 first|refine wpAny_bind (wpAny_typeNameOfWhole_keyiter t.typeIs (wpAny_pure ?_))|refine wpAny_bind (wpAny_typeNameOf_keyiter t.typeIs (wpAny_pure ?_))
 refine wpAny_bind (wpAny_fieldsOf t1 t3 ?_);rw[show Builtin.Dict_items.ownsTuple "dict_keyiterator"=false by decide,if_neg Bool.false_ne_true]
 show wpAny _ _ (if (Value.ref d==Value.none)=true then _ else _) _ _ s
 rw[if_neg (show ¬ ((Value.ref d==Value.none)=true) from Bool.false_ne_true)]
 refine wpAny_bind (wpAny_pure (wpAny_bind (wpAny_dictEntries e1 e3 ?_)));rw[if_neg (by simp)]
 refine wpAny_bind (wpAny_pure (wpAny_bind (wpAny_dictEpoch e1 e3 ?_)));rw[if_neg (by simp)]
 refine wpAny_pure ?_;simp only[show ¬ ((i:Int) < 0) from by omega,if_false,Int.toNat_natCast,x]
 refine wpAny_bind ?_
 first|refine wpAny_bind (wpAny_typeNameOfWhole_keyiter t.typeIs (wpAny_pure ?_))|refine wpAny_bind (wpAny_typeNameOf_keyiter t.typeIs (wpAny_pure ?_))
 refine wpAny_bind (wpAny_isOneOf_keyiter t.typeIs ?_);show wpAny _ _ (setField (.ref it) 1 (rawInt ((i:Int)+1)) >>= _) _ _ s;refine wpAny_bind (wpAny_setField t1 t3 (by simp) ?_)
 have t':(s.heap.update it (Obj.mapFields (·.setIfInBounds 1 (rawInt ((i:Int)+1))))).IsKeyIter it d (i+1) en.size c :=
  ⟨_,Heap.get?_update_self _ t1 (Obj.isFreed_of_fields (Obj.data_mapFields t3 _)),(Obj.cls_mapFields ..).trans t2,by rw[Obj.data_mapFields t3];simp [rawInt]⟩
 refine wpAny_bind (wpAny_holding (wpAny_bind (wpAny_isOneOf_keyiter (s:={ s with heap:=s.heap.update it (Obj.mapFields (·.setIfInBounds 1 (rawInt ((i:Int)+1)))) }) t'.typeIs ?_)))
 show wpAny _ _ (pure e.key) _ _ _;exact wpAny_pure (wpAny_pure ⟨_,rfl,wpAny_pure (q _ t' (Heap.SameBut.update ..))⟩)
theorem Fe {Q:Option Value->Shared->Prop}(hh:A.handled=none)(t:s.heap.IsKeyIter it d i en.size c)(m:DAt s.heap d en c)(x:en.size<=i)
  (q:∀ h',Heap.ExtBut it s.heap h'->Q none { s with heap:=h' }):wpAny (model prog w) A (pyNext (.ref it)) Q E s:=by
 obtain⟨o1,t1,t2,t3⟩:=id t;obtain⟨ob,e1,e2,e3⟩:=id m;unfold pyNext;refine wpAny_bind (wpAny_attempt (wpAny_callSpecial?_slot (name:=Str.ofString "__next__") t.typeIs F.slot_dict_keyiterator_next (wpAny_call_entry F.slot_dict_keyiterator_next t.typeIs F.entry_dict_keyiterator_next ?_ (F.args_dict_keyiterator_next_1 _))));refine wpAny_bind (wpAny_pure (wpAny_bind (wpAny_bind ?_)))
 first|refine wpAny_bind (wpAny_typeNameOfWhole_keyiter t.typeIs (wpAny_pure ?_))|refine wpAny_bind (wpAny_typeNameOf_keyiter t.typeIs (wpAny_pure ?_))
 refine wpAny_bind (wpAny_fieldsOf t1 t3 ?_);rw[show Builtin.Dict_items.ownsTuple "dict_keyiterator"=false by decide,if_neg Bool.false_ne_true]
 show wpAny _ _ (if (Value.ref d==Value.none)=true then _ else _) _ _ s
 rw[if_neg (show ¬ ((Value.ref d==Value.none)=true) from Bool.false_ne_true)]
 refine wpAny_bind (wpAny_pure (wpAny_bind (wpAny_dictEntries e1 e3 ?_)));rw[if_neg (by simp)]
 refine wpAny_bind (wpAny_pure (wpAny_bind (wpAny_dictEpoch e1 e3 ?_)));rw[if_neg (by simp)]
 refine wpAny_pure ?_;simp only[show ¬ ((i:Int) < 0) from by omega,if_false,Int.toNat_natCast,Array.getElem?_eq_none x]
 refine wpAny_bind ?_
 first|refine wpAny_bind (wpAny_typeNameOfWhole_keyiter t.typeIs (wpAny_pure ?_))|refine wpAny_bind (wpAny_typeNameOf_keyiter t.typeIs (wpAny_pure ?_))
 show wpAny _ _ (setField (.ref it) 0 .none >>= _) _ _ s;refine wpAny_bind (wpAny_setField t1 t3 (by simp) ?_)
 show wpAny _ _ (newExc (.type "StopIteration") [] >>= _) _ _ _;refine wpAny_bind ?_;simp only[newExc,newTuple];refine wpAny_bind (wpAny_newObj_type ?_ (by size_fits))
 refine wpAny_bind (m:=firstArgMember _ _) (wpAny_of_eq (a:=Value.none) (by first|rfl | (simp only[firstArgMember];rfl)) (wpAny_newObj_type ?_ (by size_fits)))
 simp only[raiseNew];refine wpAny_bind (wpAny_handled ?_);rw[show A.in1.handled=none from hh]
 refine wpAny_bind (wpAny_pure (wpAny_throw ?_));refine wpAny_bind (wpAny_isInstance (T:="StopIteration") (b:=true) ⟨_,Heap.get?_push_size _ rfl,rfl⟩ isSubtype_stop ?_);exact wpAny_pure (q _ (((Heap.SameBut.update ..).extBut.push _).push _))
theorem DAt.at {h h':Heap}(x:DAt h d en c)(e:∀ o,h.get? d=some o->h'.get? d=some o):DAt h' d en c:=let ⟨o,a,r⟩:=x;⟨o,e _ a,r⟩
theorem vM (hh:A.handled=none)(I d:Addr)(ne:d≠I)(en:Array DictEntry)(c:Nat) :
  Walks prog w A I [I,d] [I] en.size (λi v=>∃ e,en[i]?=some e/\v=e.key) (λi h=>h.IsKeyIter I d i en.size c/\DAt h d en c) where
 sub:=λb hb=>List.mem_cons.mpr (.inl (List.mem_singleton.mp hb))
 frame:=λ_ _ _ st kp=>⟨st.1.at λo e=>kp I (.head _) o e,st.2.at λo e=>kp d (.tail _ (.head _)) o e⟩
 item:=λi s Q E hi st q=>by
  have x:en[i]?=some en[i]:=Array.getElem?_eq_getElem hi;refine BW st.1 st.2 x λh' t' sb=>q _ h' s.toks ⟨_,x,rfl⟩ ⟨t',st.2.at λo e=>(sb.2 d ne).trans e⟩ λb o hb e=>(sb.2 b λy=>hb (List.mem_singleton.mpr y)).trans e
 done:=λs Q E st q=>Fe hh st.1 st.2 (Nat.le_refl _) λh' ex=>q h' s.toks λb o hb e=>ex b o (λy=>hb (List.mem_singleton.mpr y)) e
 self:=λ_ _ _ _ st q=>wpAny_pyIter_keyiter st.1 q
theorem Ff (lo:(d==sysModules)=false):PySem.W.KdlSrc prog w "dict" d d en.size (λi v=>∃ e,en[i]?=some e/\v=e.key) (λh=>DAt h d en c) where
 type:=λ_ m=>m.ty
 there:=λ_ m=>let ⟨_,e,_⟩:=m;⟨Heap.lt_size e,Heap.lt_size e⟩
 keep:=λ_ _ m kp=>m.at λo e=>kp d (.inl rfl) o e
 notList:=by decide
 notTuple:=by decide
 hint:=λ_ _ _ _ m q=>PySem.W.kdl_hint_dict m.ty q
 iter:=λ_ s hh m=>⟨_,_,(λ_ _ q=>BV lo m q),vM hh _ d (let ⟨_,e,_⟩:=m;Nat.ne_of_lt (Heap.lt_size e)) en c,⟨⟨_,Heap.get?_push_size _ rfl,rfl,rfl⟩,m.at λo e=>Heap.get?_push_of_some _ e⟩⟩
end
end Vc

namespace Vs
open PySem PySem.Calls PyProof.Rows PyProof.V PySem.Spec
section
variable {prog:Program}{w:World}{A:Around}{E:Value->Shared->Prop}{s:Shared}
theorem sorted_src {T:String}{r d:Addr}{n:Nat}{P:Nat->Value->Prop}{OK:Heap->Prop}{vs:List Value}{kd:SortKind}{ρ:Keyed->Nat}{P':Keyed->Prop}{Q:Value->Shared->Prop}(K:PySem.W.KdlSrc prog w T r d n P OK)(hh:A.handled=none)(ok:OK s.heap)(hn:n<=sizeLine)
  (hv:∀ acc:Array Value,ItemsOf P acc n->acc.toList=vs) (hz:vs.length<=sizeLine) (h0:∀ p∈(pairsOf vs).toList,P' p)
  (hk:2<=vs.length->∀ (A':Around) (E':Value->Shared->Prop) (g:Heap) (t:Nat),(∀ b o,s.heap.get? b=some o->g.get? b=some o)->(∀ Q:SortKind->Shared->Prop,Q kd { s with heap:=g,toks:=t }->wpAny (model prog w) A' (keyKind' vs.toArray) Q E' { s with heap:=g,toks:=t })/\eI (model prog w) A' E' { s with heap:=g,toks:=t } ρ kd P')
  (h:∀ (xs:Array Keyed) (h1 g:Heap) (c t:Nat),xs.Perm (pairsOf vs)->Seg ρ xs 0 vs.length->(∀ b o,s.heap.get? b=some o->h1.get? b=some o)->(∀ b o,h1.get? b=some o->g.get? b=some o)->g.get? h1.objs.size=some (seqObj "list" (xs.map (·.2)) c)->Q (.ref h1.objs.size) { s with heap:=g,toks:=t }) :
  wpAny (model prog w) A (call (.builtin "sorted") [.ref r]) Q E s:=by
 refine Calls.call_function_entry kind_sorted plain_sorted entry_sorted (args_sorted1 _) ?_;unfold Builtin.«sorted»;refine wpAny_bind (m:=checkCount "sorted" 1 1 _) (wpAny_pure (wpAny_bind (PySem.W.kdu_collect (A:=A.in1) K hh ok hn λh1 t acc k1 items=>?_)));rw[hv acc items];refine wpAny_bind (wpAny_newList ?_ hz);have hoL:(h1.push (seqObj "list" vs.toArray 0)).get? h1.objs.size=some (seqObj "list" vs.toArray 0):=Heap.get?_push_size _ rfl;have keep:∀ b o,h1.get? b=some o->(h1.push (seqObj "list" vs.toArray 0)).get? b=some o:=λb o e=>Heap.get?_push_of_some _ e;have ne:∀ b o,h1.get? b=some o->b≠h1.objs.size:=λb o e=>Nat.ne_of_lt (Heap.lt_size e);show wpAny _ _ _ _ _ { s with heap:=h1.push (seqObj "list" vs.toArray 0),toks:=t }
 refine wpAny_bind (wpAny_holding (wpAny_call_entry slot_list_sort ⟨_,hoL,rfl⟩ entry_list_sort (dE (s:={ s with heap:=h1.push (seqObj "list" vs.toArray 0),toks:=t }) (kd:=kd) (ρ:=ρ) (P:=P') hoL hz h0 (λh2 g kg=>hk h2 _ _ g t λb o e=>kg b o (ne b o (k1 b o e)) (keep b o (k1 b o e))) λxs g c a1 a2 a3 a4=>⟨_,rfl,?_⟩) (args_list_sort _)))
 exact wpAny_pure ⟨_,rfl,h xs h1 g c t a1 a2 k1 (λb o e=>a3 b o (ne b o e) (keep b o e)) a4⟩
end
end Vs
namespace Vc
open PySem L2
section
variable {X:Cx}
def Mj:V->List V->Hp->VK->Prop:=λx vs H Q=>∃ a b z kvs k,x=.ref a/\vs=[.ref b,z]/\H b=some (.tup (k.map kV))/\H a=some (.dT kvs)/\kvs.length < sizeLine/\(∀ v,cv kvs k=some v->Q v H)/\(cv kvs k=none->Q z (bz H a (.dT (dG kvs k z))))
theorem BX (hu:X.A.units+1 < cLine):PU X "dict.setdefault" Mj:=by
 intro pins s σ H x vs v us Q I rx rv h;obtain⟨a,b,z,kvs,k,rfl,rfl,eb,e,hl,h1,h2⟩:=h;cases rx;cases rv with
 | cons ry rr =>
 cases rr with
 | cons rz rr =>
 cases rr;cases ry;obtain⟨hz,hd,xs,rel,dd⟩:=Cw I.hok e;have hv:=rel.val k;have hlp:(dG kvs k z).length<=sizeLine:=by have:=eJ kvs k z;omega
 refine call_meetsIn F.slot_dict_setdefault dd.typeIs F.entry_dict_setdefault (F.args_dict_setdefault_3 _ _ _) (tV (kn:=tupleKind (bH X.prog X.w)) a b hd _) ⟨tupleKind_room_in1 hu,k,xs,jC I.hok eb,dd,by rw[<- Paired.length rel];exact hz,λp hp=>?_,λhn h' dd' hs=>?_⟩
 ·rw[hp] at hv
  cases l:cv kvs k with
  | none=>rw[l] at hv;exact False.elim hv
  | some v=>rw[l] at hv;exact⟨v,H,I.tok _,hv,h1 v l⟩
 ·rw[hn] at hv
  cases l:cv kvs k with
  | some v=>rw[l] at hv;exact False.elim hv
  | none =>
   obtain⟨q,es,ep,hq,g2,g3,g4,_,g5⟩:=dd';refine⟨z,_,lM (ob:=.dT (dG kvs k z)) I (by rw[e];exact True.intro) hs ⟨q,hq⟩ ⟨hlp,hd,_,(rel.put k eb rz).keeps λc ys ec=>?_,q,es,ep,hq,g2,g3,g4,g5⟩,rz,h2 l⟩
   rw[am (Cr ec e (λz=>nomatch z))];exact ec
def Fg:List V->Hp->VK->Prop:=λxs H Q=>∃ a kvs,∃ ks:List (List Int),xs=[.ref a]/\Rd H a (.dT kvs)/\kvs.map (·.1)=ks.map (·.map Sum.inl)/\(∀ k∈ks,k≠[]) /\
 ∀ us:List V,(us.map (gk H)).Perm ks->(us.map (gk H)).Pairwise (λx y=>HT.lexLt y x=false)->(∀ u∈us,∃ b,u=.ref b/\H b=some (.tup ((gk H u).map V.int)))->∀ l,H l=none->Q (.ref l) (bz H l (.lst us))
theorem qJ (hc:X.calm=true):CallR X (.builtin "sorted") Fg:=by
 intro pins s σ H xs us0 Q I r h;obtain⟨a,kvs,ks,rfl,ha,ek,hne,q⟩:=h;obtain⟨u,rfl,rx⟩:=cY r;cases rx;obtain⟨hz,hd,xs,rel,ob,en,c,e1,e2,e3,e4,e5,e6⟩:=kU I.hok ha;have hlx:en.size=xs.length:=size_of_entries e4;have hlk:kvs.length=xs.length:=Paired.length rel
 -- the keys' values
 obtain⟨its,eits⟩:∃ its:List Value,its=xs.map λx=>.ref x.2.1:=⟨_,rfl⟩;have lits:its.length=xs.length:=by rw[eits,List.length_map]
 have key:∀ {l:List (List bw×V)} {m:List (List bw×Addr×Value)},KT H l m->∀ js:List (List Int),l.map (·.1)=js.map (·.map Sum.inl)->((m.map λx=>V.ref x.2.1).map (gk H))=js/\∀ x∈m,H x.2.1=some (.tup ((gk H (.ref x.2.1)).map V.int)):=by
  intro l m p
  induction p with
  | nil=>intro js ej;cases js with
   | nil=>exact⟨rfl,λx hx=>nomatch hx⟩
   | cons _ _=>cases ej
  | @cons p x ps qs hq t ih =>
   intro js ej;cases js with
   | nil=>cases ej
   | cons j js =>
    rw[List.map_cons,List.map_cons] at ej;obtain⟨ej1,ej2⟩:=List.cons.inj ej;obtain⟨h1,h2,h3⟩:=hq;obtain⟨i1,i2⟩:=ih js ej2;have hb:H x.2.1=some (.tup (j.map V.int)):=by
     rw[h2,ej1,List.map_map];rfl
    have hd:gk H (.ref x.2.1)=j:=by
     unfold gk;dsimp only;rw[hb];dsimp only;rw[List.map_map];exact (List.map_congr_left (λx _=>rfl)).trans (List.map_id _)
    refine⟨by rw[List.map_cons,List.map_cons,i1,hd],λy hy=>?_⟩
    rcases List.mem_cons.mp hy with rfl|hy
    ·rw[hd];exact hb
    ·exact i2 y hy
 obtain⟨kk1,kk2⟩:=key rel ks ek;have im:∀ v∈its,∃ x∈xs,v=.ref x.2.1:=λv hv=>by
  rw[eits] at hv;obtain⟨x,hx,rfl⟩:=List.mem_map.mp hv;exact⟨x,hx,rfl⟩
 have tup:∀ v∈its,Vs.TupI s.heap v (gk H (dQ v))/\gk H (dQ v)≠[]:=λv hv=>by
  obtain⟨x,hx,rfl⟩:=im v hv;obtain⟨ts,r1,⟨o,ho,hcl,m,hdt⟩,_⟩:=I.tuple (.of (kk2 x hx));refine⟨⟨x.2.1,o,ts.toArray,m,rfl,ho,hcl,hdt,intsAre_of r1⟩,hne _ ?_⟩;rw[<- kk1];exact List.mem_map.mpr ⟨.ref x.2.1,List.mem_map.mpr ⟨x,hx,rfl⟩,rfl⟩
 have mem:∀ x:PyProof.Rows.Keyed,x∈(PyProof.Rows.pairsOf its).toList->x.1∈its/\x.1=x.2:=λx hx=>by
  rw[PyProof.Rows.pairsOf_toList,cF] at hx;obtain⟨v,hv,rfl⟩:=List.mem_map.mp hx;exact⟨hv,rfl⟩
 refine Vs.sorted_src (vs:=its) (kd:=PyProof.Rows.tuples' true) (ρ:=Vs.rk (λx=>gk H (dQ x.1)) (PyProof.Rows.pairsOf its).toList) (P':=λx=>x∈(PyProof.Rows.pairsOf its).toList) (Ff (en:=en) (c:=c) hd) (I.ok.hd hc) ⟨ob,e1,e2,e3⟩ (by omega) (λacc it=>?_) (by omega) (λ_ h=>h) (λh2 A' E' g t kg=>⟨λQ hQ=>?_,?_⟩) λys h1 g c' t hp hs k1 kg hg=>?_
 ·refine List.ext_getElem? λj=>?_
  rw[Array.getElem?_toList];cases ej:acc[j]? with
  | none =>
   have:acc.size<=j:=Array.getElem?_eq_none_iff.mp ej;rw[it.1] at this;rw[List.getElem?_eq_none (by omega)]
  | some v =>
   obtain⟨e,he,rfl⟩:=it.2 j v ej;rw[entry_at e4 j] at he;obtain⟨x,hx,rfl⟩:=Option.map_eq_some_iff.mp he;rw[eits,List.getElem?_map,hx];rfl
 ·exact Vs.kind_tup (s:={ s with heap:=g,toks:=t }) (by omega) (λv hv=>⟨_,(tup v hv).1.kept kg,(tup v hv).2⟩) hQ
 ·exact Vs.ltH_tup (s:={ s with heap:=g,toks:=t }) λx hx=>(tup x.1 (mem x hx).1).1.kept kg
 ·have hpl:ys.toList.Perm (PyProof.Rows.pairsOf its).toList:=Array.perm_iff_toList_perm.mp hp
  have hsz:ys.size=its.length:=by have:=hp.size_eq;rw[PyProof.Rows.pairsOf_size] at this;exact this
  have hm2:∀ x∈ys.toList,x.1∈its/\x.1=x.2:=λx hx=>mem x (hpl.mem_iff.mp hx);obtain⟨us,eus⟩:∃ us,us=ys.toList.map λx=>dQ x.2:=⟨_,rfl⟩;have perm:us.Perm (its.map dQ):=by
   rw[eus];refine (hpl.map λx=>dQ x.2).trans ?_;rw[PyProof.Rows.pairsOf_toList,cF,List.map_map];exact List.Perm.refl _
  have eit:its.map dQ=xs.map λx=>V.ref x.2.1:=by rw[eits,List.map_map];rfl
  have eq2:us=(ys.map (·.2)).toList.map dQ:=by
   rw[eus,Array.toList_map,List.map_map];rfl
  have I1:=I.kept (h':=h1) (t':=s.toks) k1;have fr:H h1.objs.size=none:=I1.fresh;refine⟨.ref h1.objs.size,_,I1.laid (h':=g) (t':=t) (o:=.lst us) kg (Nat.le_refl _) ⟨?_,(ys.map (·.2)).toList,c',?_,hg⟩,rfl,q us ?_ ?_ (λu hu=>?_) _ fr⟩
  ·rw[perm.length_eq,List.length_map];omega
  ·rw[eq2]
   refine mw λv hv=>?_;rw[Array.toList_map] at hv;obtain⟨x,hx,rfl⟩:=List.mem_map.mp hv;have:=hm2 x hx;obtain⟨y,_,e⟩:=im _ (this.2 ▸ this.1);exact⟨_,e⟩
  ·rw[<- kk1,<- eit];exact perm.map _
  ·rw[eus,List.map_map,List.pairwise_map]
   refine List.pairwise_iff_getElem.mpr λi j hi hj hij=>?_;have hi':i < ys.size:=by simpa using hi
   have hj':j < ys.size:=by simpa using hj
   have h1:=hs i j (Nat.zero_le _) (Nat.le_of_lt hij) (by omega)
   rw[Vs.R_at (Array.getElem?_eq_getElem hi'),Vs.R_at (Array.getElem?_eq_getElem hj')] at h1;show HT.lexLt (gk H (dQ ys[j].2)) (gk H (dQ ys[i].2))=false;have m1:=hm2 ys[i] (by simp)
   have m2:=hm2 ys[j] (by simp)
   have:=Vs.rk_lt (d:=λx=>gk H (dQ x.1)) (l:=(PyProof.Rows.pairsOf its).toList) (x:=ys[j]) (y:=ys[i]) (hpl.mem_iff.mp (by simp))
   rw[decide_eq_false (by omega)] at this
   rw[<- m1.2,<- m2.2];exact this.symm
  ·have hu:=perm.mem_iff.mp hu
   rw[eit] at hu;obtain⟨x,hx,rfl⟩:=List.mem_map.mp hu;exact⟨x.2.1,rfl,kk2 x hx⟩
end
end Vc

namespace Vc
open PySem L2
variable [KF]
variable {G:GE}{k:Nat}{S:Stat}
abbrev uf:=List (List bw×Addr×List D)
def qK (ts:uf):List (List bw×V):=ts.map λt=>(t.1,.ref t.2.1)
def kI (ts:uf):O where
 fp:=λa=>a::ts.map (·.2.1)
 rep:=λF H a=>H a=some (.dT (qK ts))/\(a::ts.map (·.2.1)).Nodup/\(ts.map (·.1)).Nodup/\∀ t∈ts,∃ vs,H t.2.1=some (.lst vs)/\RepL F vs t.2.2
 self:=λa=>List.mem_cons_self ..
 solid:=λ{F H a b φ} ⟨h,_,_,hs⟩ hb z=>by
  rcases List.mem_cons.mp hb with rfl|hb
  ·rw[h] at z;cases z
  ·obtain⟨t,ht,rfl⟩:=List.mem_map.mp hb
   obtain⟨vs,e,_⟩:=hs t ht;rw[e] at z;cases z
 nt:=λ{F H a b vs'} ⟨h,_,_,hs⟩ hb z=>by
  rcases List.mem_cons.mp hb with rfl|hb
  ·rw[h] at z;cases z
  ·obtain⟨t,ht,rfl⟩:=List.mem_map.mp hb
   obtain⟨vs,e,_⟩:=hs t ht;rw[e] at z;cases z
 mono:=λ{F F' H H' a} s e ⟨h,n1,n2,hs⟩=>⟨by rw[e a (List.mem_cons_self ..)];exact h,n1,n2,λt ht=>by
  obtain⟨vs,h1,h2⟩:=hs t ht;exact⟨vs,by rw[e _ (List.mem_cons_of_mem _ (List.mem_map_of_mem ht))];exact h1,h2.mono s⟩⟩
def dw (ts:uf)(k:List bw)(p:Addr)(d:D):uf:=if (ts.any λt=>decide (t.1=k))=true then ts.map (λt=>if t.1=k then (t.1,t.2.1,t.2.2++[d]) else t) else ts++[(k,p,[d])]
theorem mF (k:List bw):∀ ts:uf,(cv (qK ts) k=none/\(ts.any λt=>decide (t.1=k))=false)\/∃ t∈ts,t.1=k/\cv (qK ts) k=some (.ref t.2.1)/\(ts.any λt=>decide (t.1=k))=true
 | []=>.inl ⟨rfl,rfl⟩
 | t::ts=>by
  by_cases e:t.1=k
  ·refine .inr ⟨t,.head _,e,?_,?_⟩
   ·show cv ((t.1,V.ref t.2.1)::qK ts) k=_
    rw[fM (show t.1=k by rw[e])]
   ·rw[List.any_cons,decide_eq_true e];rfl
  ·have hv:cv (qK (t::ts)) k=cv (qK ts) k:=fN (p:=(t.1,V.ref t.2.1)) e
   rw[hv,List.any_cons,decide_eq_false e,Bool.false_or];rcases mF k ts with h|⟨u,hu,h⟩
   ·exact .inl h
   ·exact .inr ⟨u,.tail _ hu,h⟩
def vN:TX:=λσ Q=>Q (.obj (kI [])) σ
theorem vO {pos:Pos}:EX G k S (.Dict [] [] pos) vN:=.mk λX Y ok=>aP nW λσ H Q q=>by
 obtain⟨F,σd,Qd,R,q,K⟩:=q;intro p hp;refine K _ _ F (.obj (kI [])) σd (Same.refl _) (R.alloc0 hp) ⟨p,rfl,⟨aw,(by simp),List.nodup_nil,λt ht=>by cases ht⟩,λb hb=>?_⟩ q
 rw[List.mem_singleton.mp hb];exact⟨bi R.fr hp,(by rw[aw];exact λz=>nomatch z),(R.fresh0 hp).1,R.noFresh hp⟩
def Fh (i j:Nat)(tk:TD):cj:=λDe σ=>(∃ ts,σ[i]?=some (some (.obj (kI ts))))/\tk σ λkd σ1=>∃ ts k d,σ1[i]?=some (some (.obj (kI ts)))/\keyT kd=some k/\σ1[j]?=some (some (.sh d))/\ts.length < 1000000/\(∀ t∈ts,t.2.2.length < 1000000)/\∀ p,De.nx (σ1.set i (some (.obj (kI (dw ts k p d)))))
theorem tW (i j:Nat){x z:Str}{ke:Expr}{tk:TD}{np lp vp ap1 cp1 ap2 cp2 pos:Pos}(hk:ED G k S ke tk)(hx:S.N[i]?=some x:=by rfl)(hz:S.N[j]?=some z:=by rfl)
  (vx:S.sc.lookup x=some .local\/S.sc.lookup x=some .cell\/S.sc.lookup x=some .free:=by first|exact Or.inl rfl|exact Or.inr (Or.inl rfl)|exact Or.inr (Or.inr rfl))
  (vz:S.sc.lookup z=some .local\/S.sc.lookup z=some .cell\/S.sc.lookup z=some .free:=by first|exact Or.inl rfl|exact Or.inr (Or.inl rfl)|exact Or.inr (Or.inr rfl))
  (dx:(x==("__debug__":Str))=false:=by decide) (cx:(x==("__classdict__":Str))=false:=by decide)
  (dz:(z==("__debug__":Str))=false:=by decide) (cz:(z==("__classdict__":Str))=false:=by decide)
  (hl1:(ap1.endLine==cp1.line)=true:=by rfl) (hl2:(ap2.endLine==cp2.line)=true:=by rfl) (hst:∀ env,starEach [ke,.List [] lp] env=[(false,eval ke env),(false,eval (.List [] lp) env)]:=by intro _;rfl) :
  ES G k S (.Expr (.Call (.Attribute (.Call (.Attribute (.Name x np) "setdefault" ap1) [ke,.List [] lp] [] cp1) "append" ap2) [.Name z vp] [] cp2) pos) (Fh i j tk):=.mk λX Y ok=>by
 have px:PE X (.Name x np) (Ap i):=fA (by rw[ok.N];exact hx) (by unfold Ao;rw[ok.sc];exact vx) dx cx
 have pz:PE X (.Name z vp) (Ap j):=fA (by rw[ok.N];exact hz) (by unfold Ao;rw[ok.sc];exact vz) dz cz
 have pa1:=pa_cons (hk X Y ok) (pa_cons (uu (pos:=lp) pa_nil) pa_nil rfl) (hst _);have p1:=rE (apos:=ap1) (cpos:=cp1) F.plainAttrs_dict F.slot_dict_setdefault F.type_dict_setdefault (BX (by have:=ok.units;omega)) px pa1 rfl (by rw[hst];rfl) hl1 (by rw[hst];rfl) rfl
 have p2:=rE (apos:=ap2) (cpos:=cp2) F.plainAttrs_list F.slot_list_append F.type_list_append hZ p1 (pa_cons pz pa_nil rfl:PA X [.Name z vp] _) rfl rfl hl2 rfl rfl;refine cB (rn p2 rfl) λDn σ H0 q=>?_;obtain⟨F0,σ0,De,R0,⟨⟨ts0,e0⟩,q⟩,K⟩:=q;obtain⟨a,w1,⟨w20,_⟩,_⟩:=R0.ob.obj i _ e0;refine⟨.ref a,w1,.inr (.inr (.inl ⟨rfl,.inr ⟨_,w20⟩⟩)),F0,σ0,_,R0,q,λkv H F kd σd s1 R rk q=>?_⟩;obtain⟨ts,k,d,e1,ek,e3,hl,hlt,q⟩:=q;obtain⟨a',w1',⟨w2,n1,n2,w3⟩,w4⟩:=R.ob.obj i _ e1;rw[w1] at w1';cases w1';obtain rfl:=ju ek;obtain⟨kb,rfl,hkb⟩:=rk.keyT;obtain⟨v3,y3,y4⟩:=R.sh j _ e3;have ha:H a≠none:=by rw[w2];exact λz=>nomatch z
 have hin:∀ t∈ts,H t.2.1≠none:=λt ht=>by obtain⟨vs,h1,_⟩:=w3 t ht;rw[h1];exact λz=>nomatch z
 have han:∀ t∈ts,t.2.1≠a:=λt ht z=>(List.nodup_cons.mp n1).1 (z ▸ List.mem_map_of_mem ht);have nA:=(List.nodup_cons.mp n1).2;refine⟨Nat.zero_le _,λp hp=>?_⟩;have hap:a≠p:=λz=>ha (z ▸ hp);have hnp:∀ {b:Addr},H b≠none->b≠p:=λ{b} hb z=>hb (z ▸ hp);have kl:(qK ts).length < sizeLine:=by unfold qK;rw[List.length_map,sizeLine_eq];omega
 have hkH:H kb=some (.tup (k.map kV)):=R.fr _ _ hkb;refine⟨a,kb,.ref p,qK ts,k,rfl,rfl,by rw[am (hnp (by rw[hkH];exact λz=>nomatch z))];exact hkH,by rw[am hap];exact w2,kl,λv hv=>?_,λhv=>?_⟩
 ·rcases mF k ts with ⟨h1,_⟩|⟨t0,ht0,ek,h1,h2⟩
  ·rw[h1] at hv;cases hv
  rw[h1] at hv;cases hv;obtain⟨vs,g1,g2⟩:=w3 t0 ht0;have hb:=hnp (hin t0 ht0);refine⟨.inl ⟨rfl,vs,.inl (.inl (by rw[am hb];exact g1))⟩,v3,y3,t0.2.1,vs,v3,rfl,rfl,by rw[am hb];exact g1,by rw[sizeLine_eq,g2.length];have:=hlt t0 ht0;omega,?_⟩
  have ea:dw ts k p d=ts.map (λt=>if t.1=k then (t.1,t.2.1,t.2.2++[d]) else t):=if_pos h2
  have m1:(dw ts k p d).map (·.2.1)=ts.map (·.2.1):=by
   rw[ea,List.map_map];refine List.map_congr_left λt _=>?_;show (if t.1=k then (t.1,t.2.1,t.2.2++[d]) else t).2.1=t.2.1
   split<;>rfl
  have m2:(dw ts k p d).map (·.1)=ts.map (·.1):=by
   rw[ea,List.map_map];refine List.map_congr_left λt _=>?_;show (if t.1=k then (t.1,t.2.1,t.2.2++[d]) else t).1=t.1
   split<;>rfl
  have m3:qK (dw ts k p d)=qK ts:=by
   unfold qK;rw[ea,List.map_map];refine List.map_congr_left λt _=>?_;show ((if t.1=k then (t.1,t.2.1,t.2.2++[d]) else t).1,V.ref (if t.1=k then (t.1,t.2.1,t.2.2++[d]) else t).2.1)=(t.1,V.ref t.2.1)
   split<;>rfl
  have fp':(kI (dw ts k p d)).fp a=(kI ts).fp a:=by show a::_=a::_;rw[m1]
  have live:∀ b,H b≠none->bz (bz H p (.lst [])) t0.2.1 (.lst (vs++[v3])) b≠none:=λb hn=>by
   by_cases z:b=t0.2.1
   ·rw[z,aw];exact λy=>nomatch y
   ·rw[am z,am (hnp hn)];exact hn
  refine K.nx σ _ F _ s1 (R.objSet (o':=kI (dw ts k p d)) e1 w1 (λb hb' hn=>?_) live (λb hb'=>.inl (by rw[<- fp'];exact hb')) (λb hb'=>?_) ⟨?_,by rw[m1];exact n1,by rw[m2];exact n2,λt' ht'=>?_⟩) (q p)
  ·have z1:b≠t0.2.1:=λz=>hb' (List.mem_cons_of_mem _ (z ▸ List.mem_map_of_mem ht0))
   rw[am z1,am (hnp hn)]
  ·rw[fp'] at hb'
   exact live b (w4 b hb').2.1
  ·rw[am (Ne.symm (han t0 ht0)),am hap,m3];exact w2
  ·rw[ea] at ht'
   obtain⟨t,ht,rfl⟩:=List.mem_map.mp ht'
   by_cases hk:t.1=k
   ·rw[if_pos hk]
    obtain rfl:t=t0:=dL (·.1) n2 ht ht0 (hk.trans ek.symm)
    exact⟨_,aw,g2.append (.cons y4 .nil)⟩
   ·rw[if_neg hk]
    have hne:t.2.1≠t0.2.1:=λz=>hk (by rw[dL (·.2.1) nA ht ht0 z];exact ek)
    obtain⟨us,h3,h4⟩:=w3 t ht;exact⟨us,by rw[am hne,am (hnp (hin t ht))];exact h3,h4⟩
 ·rcases mF k ts with ⟨h1,h2⟩|⟨t0,ht0,ek,h1,h2⟩
  case inr=>rw[h1] at hv;cases hv
  have hpa:p≠a:=Ne.symm hap;have ea:dw ts k p d=ts++[(k,p,[d])]:=if_neg (by rw[h2];decide)
  have g0:bz (bz H p (.lst [])) a (.dT (dG (qK ts) k (.ref p))) p=some (.lst []):=by rw[am hpa,aw]
  refine⟨.inl ⟨rfl,[],.inl (.inl g0)⟩,v3,y3,p,[],v3,rfl,rfl,g0,by rw[sizeLine_eq];exact Nat.succ_pos _,?_⟩
  have hpi:p∉ts.map (·.2.1):=λz=>by obtain⟨t,ht,e⟩:=List.mem_map.mp z;exact hin t ht (e ▸ hp)
  have hki:k∉ts.map (·.1):=λz=>by
   obtain⟨t,ht,e⟩:=List.mem_map.mp z;have:=List.any_eq_false.mp h2 t ht;exact this (decide_eq_true e)
  have live:∀ b,H b≠none->bz (bz (bz H p (.lst [])) a (.dT (dG (qK ts) k (.ref p)))) p (.lst ([]++[v3])) b≠none:=λb hn=>by
   rw[am (hnp hn)]
   by_cases z:b=a
   ·rw[z,aw];exact λy=>nomatch y
   ·rw[am z,am (hnp hn)];exact hn
  have m1:(dw ts k p d).map (·.2.1)=ts.map (·.2.1)++[p]:=by rw[ea,List.map_append];rfl
  have fp':∀ b,b∈(kI (dw ts k p d)).fp a->b∈(kI ts).fp a\/b=p:=λb hb=>by
   have hb:b∈a::(dw ts k p d).map (·.2.1):=hb
   rw[m1] at hb;rcases List.mem_cons.mp hb with rfl|hb
   ·exact .inl (List.mem_cons_self ..)
   ·rcases List.mem_append.mp hb with hb|hb
    ·exact .inl (List.mem_cons_of_mem _ hb)
    ·exact .inr (List.mem_singleton.mp hb)
  refine K.nx σ _ F _ s1 (R.objSet (o':=kI (dw ts k p d)) e1 w1 (λb hb' hn=>?_) live (λb hb'=>(fp' b hb').imp id λ(z:b=p)=>by rw[z];exact hp) (λb hb'=>?_) ⟨?_,?_,?_,λt ht=>?_⟩) (q p)
  ·have z1:b≠a:=λz=>hb' (z ▸ List.mem_cons_self ..)
   rw[am (hnp hn),am z1,am (hnp hn)]
  ·rcases fp' b hb' with hb|rfl
   ·exact live b (w4 b hb).2.1
   ·rw[aw];exact λy=>nomatch y
  ·rw[am hap,aw,uB _ hv,ea]
   show _=some (HO.dT ((ts++[(k,p,[d])]).map _));rw[List.map_append];rfl
  ·rw[m1,<- List.cons_append,List.nodup_append]
   refine⟨n1,by simp,λx hx y hy=>?_⟩
   rw[List.mem_singleton.mp hy];intro z;rw[z] at hx;rcases List.mem_cons.mp hx with hx|hx
   ·exact hpa hx
   ·exact hpi hx
  ·rw[ea,List.map_append,List.nodup_append]
   refine⟨n2,by simp,λx hx y hy=>?_⟩
   have hy:y=k:=by simpa using hy
   intro z;rw[z,hy] at hx;exact hki hx
  ·rw[ea] at ht
   rcases List.mem_append.mp ht with ht|ht
   ·obtain⟨us,h3,h4⟩:=w3 t ht
    exact⟨us,by rw[am (hnp (hin t ht)),am (han t ht),am (hnp (hin t ht))];exact h3,h4⟩
   ·rw[List.mem_singleton.mp ht]
    exact⟨_,aw,.cons y4 .nil⟩
end Vc

namespace Vc
open PySem L2
variable [KF]
variable {G:GE}{k:Nat}{S:Stat}
def BZ (ts:uf):List (D×D):=ts.map λt=>(.tup (t.1.map kD),.lst t.2.2)
theorem RS.tlFreeze {Y:Dyn}{F:Hp}{σd:Sd}{σ:St}{H:Hp}{i:Nat}{ts:uf}(R:RS Y F σd σ H)(e:σd[i]?=some (some (.obj (kI ts))))(hob:Y.ob=[]) :
  ∃ F' v,Same F F'/\RS Y F' (σd.set i (some (.sh (.dct (BZ ts))))) σ H/\σ[i]?=some (some v)/\Rep F' v (.dct (BZ ts)):=by
 obtain⟨a,w1,⟨w2,n1,n2,w3⟩,w4⟩:=R.ob.obj i _ e;obtain⟨F',eF⟩:∃ F':Hp,F'=λb=>if b∈(kI ts).fp a then H b else F b:=⟨_,rfl⟩
 have sF:Same F F':=λb u z=>by
  have:b∉(kI ts).fp a:=λy=>by rw[(w4 b y).1] at z;cases z
  rw[eF];show (if b∈(kI ts).fp a then H b else F b)=some u
  rw[if_neg this];exact z
 have inF:∀ b∈(kI ts).fp a,F' b=H b:=λb hb=>by
  rw[eF];show (if b∈(kI ts).fp a then H b else F b)=H b
  rw[if_pos hb]
 have R1:=R.objGive (F':=F') e w1 hob sF λb u z=>by
  rw[eF] at z;have z:(if b∈(kI ts).fp a then H b else F b)=some u:=z
  split at z
  ·rename_i hb;exact .inr ⟨hb,z⟩
  ·exact .inl z
 have key:∀ us:uf,(∀ t∈us,t∈ts)->RepT F' (qK us) (BZ us):=by
  intro us
  induction us with
  | nil=>intro _;exact .nil
  | cons t us ih =>
   intro hu;obtain⟨vs,h1,h2⟩:=w3 t (hu t (.head _));have hb:t.2.1∈(kI ts).fp a:=List.mem_cons_of_mem _ (List.mem_map_of_mem (hu t (.head _)));exact .cons (.lst (.inl ((inF _ hb).trans h1)) (h2.mono sF)) (ih λx hx=>hu x (.tail _ hx))
 have rep:Rep F' (.ref a) (.dct (BZ ts)):=.dctT ((inF a (List.mem_cons_self ..)).trans w2) (key ts λ_ h=>h);have hl:i < σ.length:=(List.getElem?_eq_some_iff.mp w1).1;have R2:=R1.setSh (i:=i) rep λp hp y=>by
  obtain⟨_,xs,y2⟩:=R.io p hp;rw[y,e] at y2;cases y2
 have es:σ.set i (some (.ref a))=σ:=List.ext_getElem? λj=>by
  by_cases hj:i=j
  ·subst hj;rw[List.getElem?_set_self hl,w1]
  ·rw[List.getElem?_set_ne hj]
 rw[List.set_set,es] at R2;exact⟨F',.ref a,sF,R2,w1,rep⟩
def QB (i:Nat):TD:=λσ Q=>∃ ts,σ[i]?=some (some (.obj (kI ts)))/\Q (.dct (BZ ts)) (σ.set i (some (.sh (.dct (BZ ts)))))
theorem QC (i:Nat){x:Str}{pos:Pos}(hN:S.N[i]?=some x:=by rfl)(hv:S.sc.lookup x=some .local\/S.sc.lookup x=some .cell\/S.sc.lookup x=some .free:=by first|exact Or.inl rfl|exact Or.inr (Or.inl rfl)|exact Or.inr (Or.inr rfl))
  (hd:(x==("__debug__":Str))=false:=by decide) (hcd:(x==("__classdict__":Str))=false:=by decide) (hbk:S.blk=false:=by rfl) (hio:S.ios=[]:=by rfl):ED G k S (.Name x pos) (QB i):=.mk λX Y ok =>
 aP (fA (X:=X) (i:=i) (by rw[ok.N];exact hN) (by unfold Ao;rw[ok.sc];exact hv) hd hcd) λσ H Q q=>by
  obtain⟨F,σd,Qd,R,⟨ts,e,q⟩,K⟩:=q;obtain⟨F',v,s,R',e2,r⟩:=R.tlFreeze e (ok.obs hbk hio);exact⟨v,e2,K v H F' (.dct (BZ ts)) _ s R' r q⟩
theorem se {F:Hp}:∀ {ks:List (List bw×V)} {kvs:List (D×D)},RepT F ks kvs->(kvs.all λkv=>df kv.1)=true->ks.map (·.1)=(kvs.map λkv=>bP kv.1).map (·.map Sum.inl)/\∀ kv∈kvs,kv.1=.tup ((bP kv.1).map D.int)/\bP kv.1≠[]
 | _,_,.nil,_=>⟨rfl,λ_ h=>nomatch h⟩
 | _,_,.cons (k:=k) (d:=d) h r,ha=>by
  rw[List.all_cons,Bool.and_eq_true] at ha;obtain⟨i1,i2⟩:=se r ha.2;have e:=cT ha.1;have ek:k=(bP (.tup (k.map kD))).map Sum.inl:=by
   have hi:(k.map kD).all isInt=true:=by
    have:=ha.1;unfold df at this;rw[Bool.and_eq_true] at this;exact this.1
   show k=((k.map kD).map gd).map Sum.inl;clear i1 i2 e r h ha
   induction k with
   | nil=>rfl
   | cons x k ih =>
    rw[List.map_cons,List.all_cons,Bool.and_eq_true] at hi;cases x with
    | inl x=>rw[List.map_cons,List.map_cons,List.map_cons,<- ih hi.2];rfl
    | inr x=>exact absurd hi.1 (by simp [kD,isInt])
  refine⟨?_,λkv hkv=>?_⟩
  ·rw[List.map_cons,List.map_cons,List.map_cons,i1,<- ek]
  ·rcases List.mem_cons.mp hkv with rfl|hkv
   ·refine⟨e,λz=>?_⟩
    have:=ha.1;rw[e,z] at this;exact absurd this (by decide)
   ·exact i2 kv hkv
theorem RS.tupIn {Y:Dyn}{F:Hp}{σd:Sd}{σ:St}{H:Hp}{b:Addr}{vs:List V}(R:RS Y F σd σ H)(h:H b=some (.tup vs)):∃ F',Same F F'/\RS Y F' σd σ H/\F' b=some (.tup vs):=by
 cases fb:F b with
 | some o =>
  have:=R.fr b o fb;rw[h] at this;cases this;exact⟨F,Same.refl _,R,fb⟩
 | none =>
  have sm:=aG (o:=HO.tup vs) fb;have up:∀ {c:Addr},c≠b->bz F b (.tup vs) c=F c:=λ{c} hc=>am hc;refine⟨bz F b (.tup vs),sm,⟨R.len,R.lo.trans sm,λc o e=>?_,λc o e=>?_,R.old,λi d e=>?_,λi xs e=>?_,R.dis,R.io,R.ob.step sm (λ_ _ e=>⟨e,rfl⟩) (λc hc=>?_) R.ob.dsx R.ob.there⟩,aw⟩
  ·by_cases hc:c=b
   ·subst hc;rw[aw] at e;cases e;exact h
   ·rw[up hc] at e;exact R.fr c o e
  ·by_cases hc:c=b
   ·subst hc;rw[aw] at e;cases e;exact .inr (.inr ⟨_,rfl⟩)
   ·rw[up hc] at e;exact R.fro c o e
  ·obtain⟨v,h1,h2⟩:=R.sh i d e
   exact⟨v,h1,h2.mono sm⟩
  ·obtain⟨a,us,h1,h2,h3,h4,h5⟩:=R.own i xs e
   have hc:a≠b:=λz=>by rw[z,h] at h2;cases h2
   exact⟨a,us,h1,h2,h3.mono sm,by rw[up hc];exact h4,h5⟩
  ·obtain⟨w1,w2,w3⟩:=R.ob.owned hc
   have hc:c≠b:=λz=>R.ob.notup hc (z ▸ h);exact⟨rfl,by rw[up hc];exact w1,w3⟩
theorem RS.tupsIn {Y:Dyn}{σd:Sd}{σ:St}{H:Hp}:∀ (us:List V) {F:Hp},RS Y F σd σ H->(∀ u∈us,∃ b,u=.ref b/\H b=some (.tup ((gk H u).map V.int)))->∃ F',Same F F'/\RS Y F' σd σ H/\∀ u∈us,Rep F' u (.tup ((gk H u).map D.int))
 | [],F,R,_=>⟨F,Same.refl _,R,λ_ h=>nomatch h⟩
 | u::us,F,R,h=>by
  obtain⟨b,rfl,hb⟩:=h u (.head _);obtain⟨F1,s1,R1,e1⟩:=R.tupIn hb;obtain⟨F2,s2,R2,r2⟩:=RS.tupsIn us R1 λx hx=>h x (.tail _ hx);refine⟨F2,s1.trans s2,R2,λx hx=>?_⟩;rcases List.mem_cons.mp hx with rfl|hx
  ·refine .tup (s2 _ _ e1) ?_
   generalize gk H (.ref b)=ns
   induction ns with
   | nil=>exact .nil
   | cons n ns ih=>exact .cons (.int n) ih
  ·exact r2 x hx
def mG (t:eG):TX:=λσ Q=>t σ λds σ1=>match ds with
 | [.dct kvs]=>(kvs.all λkv=>df kv.1)=true/\Q (.own (bF (kvs.map (·.1)))) σ1
 | _=>False
theorem sf {a:Expr}{t:eG}{p pos:Pos}(h:EDs G k S [a] t)(hm:G.mg "sorted"=none)(hg:S.sc.lookup ("sorted":Str)=some .globalImplicit:=by rfl)
  (hs:∀ env,starEach [a] env=[(false,eval a env)]:=by intro _;rfl) (hh:S.hot=false:=by rfl):EX G k S (.Call (.Name "sorted" p) [a] [] pos) (mG t):=.mk λX Y ok =>
 aP (jy (qJ (ok.calm hh)) (dm ok hg) (by rw[ok.mg];exact hm) (by decide +kernel) (h X Y ok) (by decide) (by decide) (hs _) (by rfl)) λσ H Q q=>by
  obtain⟨F,σd,Qd,R,q,K⟩:=q;refine⟨F,σd,_,R,q,λvs H1 F1 ds σ1 s1 R1 r1 q1=>?_⟩
  split at q1
  ·rename_i kvs
   cases r1 with
   | @cons v _ _ _ rv r1 =>
   cases r1;cases (show Rep F1 v (.dct kvs) from rv) with
   | @dctT _ ks _ hd rt =>
    obtain⟨k1,k2⟩:=se rt q1.1;refine⟨_,ks,kvs.map λkv=>bP kv.1,rfl,.inl (R1.fr _ _ hd),k1,λk hk=>?_,λus hp hs hu l hl=>?_⟩
    ·obtain⟨kv,hkv,rfl⟩:=List.mem_map.mp hk
     exact (k2 kv hkv).2
    ·obtain⟨F2,s2,R2,r2⟩:=RS.tupsIn us R1 hu
     have key:∀ v,bP (.tup ((gk H1 v).map D.int))=gk H1 v:=λv=>by
      show ((gk H1 v).map D.int).map gd=_;rw[List.map_map];exact (List.map_congr_left (λx _=>rfl)).trans (List.map_id _)
     have all:(kvs.map (·.1)).all df=true:=by rw[List.all_map];exact q1.1
     have e:us.map (λv=>D.tup ((gk H1 v).map D.int))=bF (kvs.map (·.1)):=by
      refine jZ all ?_ ?_
      ·have e1:kvs.map (·.1)=(kvs.map λkv=>bP kv.1).map λk=>D.tup (k.map D.int):=by
        rw[List.map_map];exact List.map_congr_left λkv hkv=>(k2 kv hkv).1
       rw[e1];have:=hp.map λk:List Int=>D.tup (k.map D.int);rw[List.map_map] at this;exact this
      ·rw[List.pairwise_map] at hs ⊢
       refine hs.imp λ{x y} h=>?_;unfold jr;rw[key,key,h];rfl
     have rl:=my r2;rw[e] at rl;exact K (.ref l) _ F2 (.own _) σ1 (s1.trans s2) (R2.alloc0 hl) ⟨l,_,rfl,aw,rl,bi R2.fr hl,(R2.fresh0 hl).1,R2.noFresh hl⟩ q1.2
  ·exact q1.elim
def Ca (ta tb:TV):TV:=λσ Q=>ta σ λx σ1=>tb σ1 λy σ2=>match drf σ2 x,drf σ2 y with
 | some (.dct kvs),some kd=>∃ d,(keyT kd).isSome=true/\ft kvs kd=some d/\Q (.val d) σ2
 | _,_=>False
theorem CK {a b:Expr}{ta tb:TV}{pos:Pos}(ha:EO G k S a ta)(hb:EO G k S b tb)(hs:Em b:=by intro _ _;rfl):EO G k S (.Subscript a b pos) (Ca ta tb):=.mk λX Y ok =>
 aP (AO (by have:=ok.units;omega) (ha X Y ok) (hb X Y ok) hs) λσ H Q q=>by
  obtain⟨F,σd,Qd,R,q,K⟩:=q;refine⟨F,σd,_,R,q,λv1 H1 F1 x σ1 s1 R1 r1 q1=>?_⟩;refine⟨F1,σ1,_,R1,q1,λv2 H2 F2 y σ2 s2 R2 r2 q2=>?_⟩
  split at q2
  ·rename_i kvs kd ea eb
   have rx:=R2.drf (r1.mono s2) ea;have ry:=R2.drf r2 eb;obtain⟨d,hk,hd,q2⟩:=q2;obtain⟨ks,ek⟩:=Option.isSome_iff_exists.mp hk;obtain rfl:=ju ek;obtain⟨b,rfl,hb⟩:=(show Rep F2 v2 (.tup (ks.map kD)) from ry).keyT
   cases (show Rep F2 v1 (.dct kvs) from rx) with
   | dctT h r =>
    rcases r.val ks with ⟨_,e2⟩|⟨v,d',e1,e2,rd⟩
    ·rw[e2] at hd;cases hd
    ·rw[e2] at hd;cases hd
     exact⟨_,v,rfl,e1 ▸ .t (R2.fr _ _ h) (R2.fr _ _ hb),K v H2 F2 (.val d) σ2 (s1.trans s2) R2 rd q2⟩
  ·exact q2.elim
end Vc

namespace Vc
open PySem L2
def CL (i j:Int):Prop:=(-(2^300) < i/\i < 2^300)/\-(2^300) < j/\j < 2^300
theorem vP {i:Int}(h:-(2^300) < i/\i < 2^300):Builtin.Int.intBits i<=2^20:=by
 have:i.natAbs < 2^300:=by omega
 unfold Builtin.Int.intBits
 split
 ·exact Nat.zero_le _
 ·rcases Nat.eq_zero_or_pos i.natAbs with h0|hp
  ·rw[h0];decide
  ·exact Nat.le_trans ((Nat.log2_lt (Nat.ne_of_gt hp)).mpr this) (by decide)
theorem Cb {X:Cx}:OpR X (binaryOp .Mult) (rI CL λi j=>.int (i*j)):=Lo λ_ _ _ _ _ _ _ hc q=>PyProof.Rows.mul_int q (IntMulOk.of_bits (vP hc.1) (vP hc.2))
variable [KF]
variable {G:GE}{k:Nat}{S:Stat}
def vQ:=CA CL λi j=>i*j
theorem qL {a b:Expr}{ta tb:TV}{pos:Pos}(ha:EO G k S a ta)(hb:EO G k S b tb):EX G k S (.BinOp a .Mult b pos) (ay vQ ta tb):=fO (r:=λ_=>_) (λ_=>Cb) (λ_=>eK) ha hb
end Vc

namespace Vc
open PySem L2
variable [KF]
variable {G:GE}{k:Nat}{S:Stat}
abbrev Rl:=Sd->(List (List D)->Sd->Prop)->Prop
def QD (Y:Dyn)(F:Hp)(σd:Sd)(σ:St)(H:Hp)(as:List Addr)(xss:List (List D)):Prop:=Paired (λa xs=>∃ vs,Apt Y F σd σ H a (.lst vs)/\RepL F vs xs) as xss
def Ry (Y:Dyn)(t:Rl):TA:=λσ H Q=>∃ F σd Qd,RS Y F σd σ H/\t σd Qd/\∀ (as:List Addr) (xss:List (List D)) H' F' σd',Same F F'->RS Y F' σd' σ H'->as.Nodup->QD Y F' σd' σ H' as xss->Qd xss σd'->Q (as.map V.ref) H'
structure EWs (G:GE)(k:Nat)(S:Stat)(es:List Expr)(t:Rl):Prop where
 run:∀ X Y,XOk X G k S Y->PA X es (Ry Y t)
end Vc

namespace Vc
open PySem L2
variable [KF]
variable {G:GE}{k:Nat}{S:Stat}
end Vc

namespace Vc
open PySem L2
variable [KF]
variable {G:GE}{k:Nat}{S:Stat}
end Vc

namespace Vc
open PySem L2 PyProof.Rows
def QE (lo:Int)(n:Nat):It:=⟨λi _=>i < n,λi H x H'=>H'=H/\x=.int (lo - i),λi _=>n<=i⟩
theorem tX {P:Program}{w:World}{K:PySem.W.Frag}{tg:Expr}(it:Addr)(lo:Int)(n:Nat):Turn P w K tg (QE lo n) [it] it (λi h=>IsRangeIter h it (lo+(i:Nat)*(-1)) ((n:Int) - (i:Nat)) (-1)) where
 mem:=by simp
 obj:=λi h st b hb=>by
  have e:b=it:=by simpa using hb
  subst e;exact⟨_,st,λv z=>by cases (show Data.fields _=Data.cell v from z)⟩
 keep:=λi h h' st kp=>kp it (by simp) _ st
 item:=by
  intro X hP hw hK hc i pins s σ H E I hf st hg;subst hP hw hK;obtain⟨g0,g1,g2,g3,g4,g5⟩:=hf it (by simp)
  refine (Walks.range (prog:=X.prog) (w:=X.w) (I.ok.hd hc) it lo (-1) n).item i s _ _ hg st λv h' tk hv st' kk=>?_;obtain⟨t,rfl⟩:=hv;have I1:Inv X pins σ H { s with heap:=h',toks:=tk }:=I.turned (λb o hb e=>kk b o (by simpa using hb) e) g0 g1 g3 g4 g5
  refine⟨_,rfl,rp (s:={ s with heap:=h',toks:=tk }) (n:="range_iterator") st' rfl rfl (by decide) ⟨.int (lo - i),H,I1,⟨t,?_⟩,⟨rfl,rfl⟩,st',λb hb=>(hf b hb).1⟩⟩
  rw[show lo+(i:Int)*-1=lo - (i:Int) by omega]
 done:=by
  intro X hP hw hK hc i pins s σ H E I hf st hg;subst hP hw hK;obtain⟨g0,g1,g2,g3,g4,g5⟩:=hf it (by simp)
  exact wpAny_pyNext_range_end (I.ok.hd hc) st (by have:n<=i:=hg;omega) λh' eb=>⟨rfl,I.turned (t':=s.toks) (λb o hb e=>eb b o hb e) g0 g1 g3 g4 g5⟩
 self:=λ_ _ _ _ _ st h=>wpAny_pyIter_rangeiter st h
def Ml (ta:TA):TI:=λσ H R=>ta σ H λvs H1=>vs=[.int 60,.int (-1),.int (-1)]/\R (QE 60 61) H1
theorem Cc {X:Cx}{tg a b c:Expr}{ta:TA}{p pos:Pos}(hg:Gl X "range")(hm:X.mg "range"=none)(ha:PA X [a,b,c] ta)(hs:starEach [a,b,c] X.env=[(false,eval a X.env),(false,eval b X.env),(false,eval c X.env)])(hs2:starEach [b,c] X.env=[(false,eval b X.env),(false,eval c X.env)]) :
  PI X tg (.Call (.Name "range" p) [a,b,c] [] pos) (Ml ta):=by
 intro pins s σ H R I h;refine Call_ (dR I hg hm boot_range (PyProof.Rows.callWith_type1 (bT (ha pos pins s σ H _ I h) λus s1 ⟨vs,H1,I1,r1,q1⟩=>?_) (by rw[hs,hs2]) (by rw[hs2];rfl)))
 obtain⟨rfl,q⟩:=q1;cases r1 with
 | cons r rr =>
 cases rr with
 | cons r2 rr =>
 cases rr with
 | cons r3 rr =>
 cases rr;obtain⟨t,rfl⟩:=r;obtain⟨u,rfl⟩:=r2;obtain⟨v,rfl⟩:=r3;refine call_range_3 (by decide) ?_ (.inl (PyProof.noPylong_of_log2 (by decide +kernel)))
 refine wpAny_pyIter_range (IsRange.new ..) (by decide +kernel) ?_
 have I2:Inv X pins σ H1 { s1 with heap:=s1.heap.push { cls:=.type "range",data:=.fields #[.int 60 t,.int (-1) u,.int (-1) v] },toks:=s1.toks }:=I1.kept λb o e=>Heap.get?_push_of_some _ e
 refine⟨(s1.heap.push { cls:=.type "range",data:=.fields #[.int 60 t,.int (-1) u,.int (-1) v] }).objs.size,[(s1.heap.push { cls:=.type "range",data:=.fields #[.int 60 t,.int (-1) u,.int (-1) v] }).objs.size],_,_,H1,rfl,
  I2.kept (t':=s1.toks) λb o e=>Heap.get?_push_of_some _ e,tX _ 60 61,?_,λb hb=>?_,q⟩
 ·show IsRangeIter _ _ (60+((0:Nat):Int)*(-1)) (((61:Nat):Int) - ((0:Nat):Int)) (-1)
  rw[show (60:Int)+((0:Nat):Int)*(-1)=60 by decide,show ((61:Nat):Int) - ((0:Nat):Int)=Builtin.Range.rangeSize 60 (-1) (-1) by decide +kernel]
  exact Heap.get?_push_size _ rfl
 ·have e:b=(s1.heap.push { cls:=.type "range",data:=.fields #[.int 60 t,.int (-1) u,.int (-1) v] }).objs.size:=by simpa using hb
  subst e;exact I2.fpOk (Nat.le_refl _) (I2.hok.fresh (Nat.le_refl _))
variable [KF]
variable {G:GE}{k:Nat}{S:Stat}
def pq (lo:Int)(n:Nat):List D:=(List.range n).map λi=>.int (lo - (i:Nat))
theorem Cd {F:Hp}(lo:Int)(n:Nat):ItRep F (QE lo n) (pq lo n):=λF1 H1 s1 s2 i=>by
 refine⟨λx e=>?_,λhl=>?_⟩
 ·unfold pq at e
  rw[List.getElem?_map] at e;have hi:i < n:=by
   by_cases hi:i < n
   ·exact hi
   ·rw[List.getElem?_eq_none_iff.mpr (by simpa using hi)] at e;cases e
  rw[List.getElem?_range hi] at e;cases e;refine⟨hi,λv H2 y=>?_⟩;obtain⟨rfl,rfl⟩:=y;exact⟨F1,.inl ⟨rfl,rfl⟩,.int _⟩
 ·unfold pq at hl
  rw[List.length_map,List.length_range] at hl;exact Nat.le_of_eq hl.symm
def Fj (t:qe):eG:=λσ Q=>t σ λxs σ1=>drfs σ1 xs=some [.int 60,.int (-1),.int (-1)]/\Q (pq 60 61) σ1
theorem Fk {tg a b c:Expr}{t:qe}{p pos:Pos}(h:EOs G k S [a,b,c] t)(hm:G.mg "range"=none)(hg:S.sc.lookup ("range":Str)=some .globalImplicit:=by rfl)(hs:∀ env,starEach [a,b,c] env=[(false,eval a env),(false,eval b env),(false,eval c env)]:=by intro _;rfl)
  (hs2:∀ env,starEach [b,c] env=[(false,eval b env),(false,eval c env)]:=by intro _;rfl):EI G k S tg (.Call (.Name "range" p) [a,b,c] [] pos) (Fj t):=.mk λX Y ok =>
 iu (Cc (dm ok hg) (by rw[ok.mg];exact hm) (h X Y ok) (hs _) (hs2 _)) λσ H Q q=>by
  obtain⟨F,σd,Qd,R,q,K⟩:=q;refine⟨F,σd,_,R,q,λvs H1 F1 xs σ1 s1 R1 r1 q1=>?_⟩;obtain⟨e,q1⟩:=q1;have rl:=R1.drfs r1 e;cases rl with
  | cons z1 rl =>
  cases rl with
  | cons z2 rl =>
  cases rl with
  | cons z3 rl =>
  cases rl;obtain rfl:=RepH.int z1;obtain rfl:=RepH.int z2;obtain rfl:=RepH.int z3;exact⟨rfl,K H1 F1 σ1 _ _ s1 R1 (Cd 60 61) q1⟩
def Fl (i:Nat)(tk td:TD):TX:=λσ Q=>(∃ kvs,σ[i]?=some (some (.obj (ue kvs))))/\tk σ λkd σ1=>td σ1 λdd σ2=>∃ kvs ks,σ2[i]?=some (some (.obj (ue kvs)))/\keyT kd=some ks/\Q (.val ((ft kvs kd).getD dd)) σ2
theorem Ce (i:Nat){x:Str}{ke de:Expr}{tk td:TD}{np ap cp:Pos}(hk:ED G k S ke tk)(hd:ED G k S de td)(hx:S.N[i]?=some x:=by rfl)
  (vx:S.sc.lookup x=some .local\/S.sc.lookup x=some .cell\/S.sc.lookup x=some .free:=by first|exact Or.inl rfl|exact Or.inr (Or.inl rfl)|exact Or.inr (Or.inr rfl))
  (dx:(x==("__debug__":Str))=false:=by decide) (cx:(x==("__classdict__":Str))=false:=by decide) (hl:(ap.endLine==cp.line)=true:=by rfl)
  (hst:∀ env,backTo cp (starEach [ke,de] env)=[(false,eval ke env),(false,eval de env)]:=by intro _;rfl) :
  EX G k S (.Call (.Attribute (.Name x np) "get" ap) [ke,de] [] cp) (Fl i tk td):=.mk λX Y ok=>by
 have px:PE X (.Name x np) (Ap i):=fA (by rw[ok.N];exact hx) (by unfold Ao;rw[ok.sc];exact vx) dx cx
 refine aP (uD (by have:=ok.units;omega) px (hk X Y ok) (hd X Y ok) ⟨rfl,by rw[hst];rfl,hl,hst _⟩) λσ H Q q=>?_
 obtain⟨F,σd,Qd,R,⟨⟨kvs0,e0⟩,q⟩,K⟩:=q;obtain⟨a,w1,⟨ks0,w2,_⟩,_⟩:=R.ob.obj i _ e0;refine⟨.ref a,w1,a,rfl,.inr ⟨_,.inl w2⟩,F,σd,_,R,q,λv1 H1 F1 kd σ1 s1 R1 r1 q1=>⟨F1,σ1,_,R1,q1,λv2 H2 F2 dd σ2 s2 R2 r2 q2=>?_⟩⟩;obtain⟨kvs,ks,e2,ek,q2⟩:=q2;obtain⟨a',w1',⟨us,y2,y3⟩,_⟩:=R2.ob.obj i _ e2;rw[w1] at w1';cases w1';obtain rfl:=ju ek;obtain⟨b,rfl,hb⟩:=(r1.mono s2).keyT;refine⟨cv us ks,.t y2 (R2.fr _ _ hb),K _ H2 F2 (.val _) σ2 (s1.trans s2) R2 ?_ q2⟩;rcases y3.val ks with ⟨u1,u2⟩|⟨v,d,u1,u2,rd⟩
 ·rw[u1,u2];exact r2
 ·rw[u1,u2];exact rd
end Vc

namespace HT
open PySem PyProof.Rows
section
open PySem.SeqAt
open PySem.AutoSeq1 (wpAny_loadPart')
open PySem.MeetsSeq PySem.MeetsSeq2 PySem.MeetsSeq3
theorem pr {xs:Array Value}{ns:List Int}(h:IntsAre xs.toList ns){i:Nat}(hi:i < xs.size):∃ t,xs[i]=.int (ns.getD i 0) t/\ns.drop i=ns.getD i 0::ns.drop (i+1):=by
 have hl:xs.size=ns.length:=by rw[<- h.length];simp
 obtain⟨t,e⟩:=PyProof.Rows.IntsAre.int_at h i xs[i] (by simp [hi])
 refine⟨t,e,?_⟩;rw[List.drop_eq_getElem_cons (by omega),List.getD_eq_getElem?_getD,List.getElem?_eq_getElem (by omega)];rfl
theorem Cf (l b:Addr)(xs ys:Array Value)(n n2:Nat)(dd dd2:Option Addr)(sl sl2:Array (Option Value))(ns ms:List Int)(hx:IntsAre xs.toList ns)(hy:IntsAre ys.toList ms)(k:Nat) :
  ∀ i:Nat,xs.size - i=k->i<=xs.size->i<=ys.size->Meets (Builtin.«list.__eq__.loop» ⟨[.ref l,.ref b,rawInt i,rawInt 0],[]⟩)
   (λA R s=>s.heap.get? l=some { cls:=.type "list",dict:=dd,data:=.seq xs n,slots:=sl }/\s.heap.get? b=some { cls:=.type "list",dict:=dd2,data:=.seq ys n2,slots:=sl2 }/\R (.ok (.ret (.bool (lexLt (ns.drop i) (ms.drop i))))) s):=by
 have z1:xs.size=ns.length:=by rw[<- hx.length];simp
 have z2:ys.size=ms.length:=by rw[<- hy.length];simp
 have fin:∀ i:Nat,i<=xs.size->i<=ys.size->(xs.size<=i\/ys.size<=i)->lexLt (ns.drop i) (ms.drop i)=decide (xs.size < ys.size):=λi h1 h2 h=>by
  by_cases e1:xs.size<=i
  ·rw[List.drop_of_length_le (by omega)]
   by_cases e2:ys.size<=i
   ·rw[List.drop_of_length_le (by omega),fw,decide_eq_false (by omega)]
   ·rw[List.drop_eq_getElem_cons (by omega),lexLt_nil_cons,decide_eq_true (by omega)]
  ·rw[List.drop_eq_getElem_cons (l:=ns) (by omega),List.drop_of_length_le (l:=ms) (by omega),lexLt_cons_nil,decide_eq_false (by omega)]
 induction k with
 | zero =>
  intro i hk h1 h2 prog w A R s h;obtain⟨hp,g,d,tk,os⟩:=s;obtain⟨hl,hb,h⟩:=h
  wp_walk using wpAny_loadPart' hl,wpAny_loadPart' hb
  have e1:xs[((i:Nat):Int).toNat]?=none:=by simp;omega
  rw[e1]
  wp_walk using wpAny_loadPart' hl,wpAny_loadPart' hb
  show R (.ok (.ret (.bool (decide (xs.size < ys.size))))) _;rw[fin i h1 h2 (.inl (by omega))] at h
  exact h
 | succ k ih =>
  intro i hk h1 h2 prog w A R s h;obtain⟨hp,g,d,tk,os⟩:=s;obtain⟨hl,hb,h⟩:=h
  wp_walk using wpAny_loadPart' hl,wpAny_loadPart' hb
  have hlt:i < xs.size:=by omega
  have e1:xs[((i:Nat):Int).toNat]?=some xs[i]:=by simp [hlt]
  by_cases hlt2:i < ys.size
  ·have e2:ys[((i:Nat):Int).toNat]?=some ys[i]:=by simp [hlt2]
   have hc:((i:Int)+1)=((i+1:Nat):Int):=by push_cast;rfl
   obtain⟨t,v1,d1⟩:=pr hx hlt;obtain⟨u,v2,d2⟩:=pr hy hlt2;rw[d1,d2,lexLt_cons] at h;rw[e1,e2];obtain⟨e,he,hiff⟩:=nO A.in1 ⟨hp,g,d,tk,os⟩ (ns.getD i 0) t (ms.getD i 0) u;rw[<- v1,<- v2] at he;refine wpAny_bind (he prog w _ _ ?_);cases e with
   | true =>
    rw[if_pos (hiff.mp rfl)] at h
    wp_walk
    rw[hc];exact⟨plainId_quiet plain_eq_loop _,codeAny_builtin entry_eq_loop (by
     rw[Around.under_plainId plain_eq_loop _];exact ih (i+1) (by omega) (by omega) (by omega) prog w A R _ ⟨hl,hb,h⟩)⟩
   | false =>
    rw[if_neg (λq=>absurd (hiff.mpr q) Bool.false_ne_true)] at h;have hri:=nP A.in1 ⟨hp,g,d,tk,os⟩ (ns.getD i 0) t (ms.getD i 0) u prog w;rw[<- v1,<- v2] at hri
    wp_walk using wpAny_loadPart' hl,wpAny_loadPart' hb
    rw[e1,e2]
    wp_walk using hri
    exact h
  ·have e2:ys[((i:Nat):Int).toNat]?=none:=by simp;omega
   rw[e1,e2]
   wp_walk using wpAny_loadPart' hl,wpAny_loadPart' hb
   show R (.ok (.ret (.bool (decide (xs.size < ys.size))))) _;rw[fin i h1 h2 (.inr (by omega))] at h
   exact h
theorem mH (l b:Addr)(xs ys:Array Value)(n n2:Nat)(dd dd2:Option Addr)(sl sl2:Array (Option Value))(ns ms:List Int)(hx:IntsAre xs.toList ns)(hy:IntsAre ys.toList ms) :
  Meets (Builtin.«list.__lt__» ⟨[.ref l,.ref b],[]⟩)
   (λA R s=>s.heap.get? l=some { cls:=.type "list",dict:=dd,data:=.seq xs n,slots:=sl }/\s.heap.get? b=some { cls:=.type "list",dict:=dd2,data:=.seq ys n2,slots:=sl2 }/\R (.ok (.ret (.bool (lexLt ns ms)))) s):=by
 intro prog w A R s h;obtain⟨hp,g,d,tk,os⟩:=s;obtain⟨hl,hb,h⟩:=h;have f3:=AutoSeq1.sub_list_list
 wp_walk using wpAny_loadPart' hl,wpAny_loadPart' hb
 exact⟨plainId_quiet plain_eq_loop _,codeAny_builtin entry_eq_loop (by
  rw[Around.under_plainId plain_eq_loop _];exact Cf l b xs ys n n2 dd dd2 sl sl2 ns ms hx hy _ 0 rfl (Nat.zero_le _) (Nat.zero_le _) prog w A R _ ⟨hl,hb,by simpa using h⟩)⟩
end
section
variable {prog:Program}{w:World}{A:Around}{E:Value->Shared->Prop}{s:Shared}
theorem lt_lstInts {l b:Addr}{xs ys:Array Value}{ns ms:List Int}{Q:Value->Shared->Prop}(hl:s.heap.IsList l xs)(hb:s.heap.IsList b ys)(dl:∃ o,s.heap.get? l=some o/\o.dict=none)(hi:IntsAre xs.toList ns)(hj:IntsAre ys.toList ms)
  (hu:A.units < cLine) (h:Q (.bool (lexLt ns ms)) s):wpAny (model prog w) A (compareOp .Lt (.ref l) (.ref b)) Q E s:=by
 obtain⟨⟨cls,dd,data,sl⟩,ho,hc,n,hd⟩:=id hl;obtain⟨⟨cls2,dd2,data2,sl2⟩,ho2,hc2,n2,hd2⟩:=id hb;simp only at hc hd hc2 hd2;subst hc hd hc2 hd2;exact richCompare_meets_room (op:=.Lt) ⟨_,ho,rfl⟩ ⟨_,ho2,rfl⟩ PySem.F.slot_list_lt PySem.F.entry_list_lt (PySem.F.args_list_lt_2 _ _) (mH l b xs ys n n2 dd dd2 sl sl2 ns ms hi hj)
  ⟨ho,ho2,show Value.bool (lexLt ns ms)≠Value.notImplemented/\Q (.bool (lexLt ns ms)) s from ⟨(λx=>nomatch x),h⟩⟩ hu
end
end HT

namespace Vs
open PySem PyProof.Rows PySem.W
section
variable {prog:Program}{w:World}{A:Around}{E:Value->Shared->Prop}{s:Shared}
theorem sorted_anyU {l:Addr}{vs:List Value}{kd:SortKind}{ρ:Keyed->Nat}{P:Keyed->Prop}{Q:Value->Shared->Prop}(hl:s.heap.IsList l vs.toArray)(hz:vs.length<=sizeLine)(h0:∀ p∈(pairsOf vs).toList,P p)
  (hk:2<=vs.length->∀ (A':Around),A'.units<=A.units+8->∀ (E':Value->Shared->Prop) (g:Heap),(∀ b o,s.heap.get? b=some o->g.get? b=some o)->(∀ Q:SortKind->Shared->Prop,Q kd { s with heap:=g }->wpAny (model prog w) A' (keyKind' vs.toArray) Q E' { s with heap:=g })/\eI (model prog w) A' E' { s with heap:=g } ρ kd P)
  (h:∀ (xs:Array Keyed) (g:Heap) (c:Nat),xs.Perm (pairsOf vs)->(∀ b o,s.heap.get? b=some o->g.get? b=some o)->g.get? (s.heap.objs.size+1)=some (seqObj "list" (xs.map (·.2)) c)->Q (.ref (s.heap.objs.size+1)) { s with heap:=g }) :
  wpAny (model prog w) A (call (.builtin "sorted") [.ref l]) Q E s:=by
 refine Calls.call_function_entry kind_sorted plain_sorted entry_sorted (args_sorted1 _) ?_;unfold Builtin.«sorted»;refine wpAny_bind (m:=checkCount "sorted" 1 1 _) (wpAny_pure (wpAny_bind (collect_list hl (wpAny_bind (wpAny_newList ?_ hz)) hz)));have hsz:((s.heap.push (seqObj "list" #[] 0)).update s.heap.objs.size (Obj.mapSeq (·++vs.toArray))).objs.size=s.heap.objs.size+1:=by
  rw[Heap.size_update,size_push']
 have hoL:(((s.heap.push (seqObj "list" #[] 0)).update s.heap.objs.size (Obj.mapSeq (·++vs.toArray))).push (seqObj "list" vs.toArray 0)).get? (s.heap.objs.size+1)=some (seqObj "list" vs.toArray 0):=by
  rw[<- hsz];exact Heap.get?_push_size _ rfl
 have keep:∀ b o,s.heap.get? b=some o->(((s.heap.push (seqObj "list" #[] 0)).update s.heap.objs.size (Obj.mapSeq (·++vs.toArray))).push (seqObj "list" vs.toArray 0)).get? b=some o:=λb o e=>by
  have hlt:b < s.heap.objs.size:=Heap.lt_size e;exact Heap.get?_push_of_some _ ((Heap.get?_update_other _ _ (Ne.symm (Nat.ne_of_lt hlt))).trans (Heap.get?_push_of_some _ e))
 have ne:∀ b o,s.heap.get? b=some o->b≠s.heap.objs.size+1:=λb o e=>Nat.ne_of_lt (Nat.lt_succ_of_lt (Heap.lt_size e));show wpAny _ _ _ _ _ { s with heap:=((s.heap.push (seqObj "list" #[] 0)).update s.heap.objs.size (Obj.mapSeq (·++vs.toArray))).push (seqObj "list" vs.toArray 0) }
 rw[hsz];refine wpAny_bind (wpAny_holding (wpAny_call_entry slot_list_sort ⟨_,hoL,rfl⟩ entry_list_sort (dE (kd:=kd) (ρ:=ρ) (P:=P) hoL hz h0 (λh2 g kg=>hk h2 _ ?_ _ g λb o e=>kg b o (ne b o e) (keep b o e)) λxs g c a1 a2 a3 a4=>⟨_,rfl,?_⟩) (args_list_sort _)))
 ·have e1:∀ B:Around,B.in1.units<=B.units+1:=λB=>by first|exact Nat.le_refl _|exact Nat.le_succ _ | (unfold Around.in1;dsimp only;omega)
  have:=e1 A;have:=e1 A.in1;omega
 ·exact wpAny_pure ⟨_,rfl,h xs g c a1 (λb o e=>a3 b o (ne b o e) (keep b o e)) a4⟩
end
end Vs
namespace Vc
open PySem L2
def mI (e:List Int×List Int):List Int:=(e.1.flatMap λk=>[1,k])++0::e.2
def Fm (a b:List Int×List Int):Bool:=if a.1=b.1 then HT.lexLt a.2 b.2 else HT.lexLt a.1 b.1
theorem sg (as bs:List Int):∀ ks js:List Int,HT.lexLt (mI (ks,as)) (mI (js,bs))=Fm (ks,as) (js,bs)
 | [],[]=>by
  show HT.lexLt (0::as) (0::bs)=_;rw[HT.lexLt_cons,if_pos rfl];unfold Fm;rw[if_pos rfl]
 | [],j::js=>by
  show HT.lexLt (0::as) (1::_)=_;rw[HT.lexLt_cons,if_neg (by decide)]
  unfold Fm;rw[if_neg (by simp)];rfl
 | k::ks,[]=>by
  show HT.lexLt (1::_) (0::bs)=_;rw[HT.lexLt_cons,if_neg (by decide)]
  unfold Fm;rw[if_neg (by simp)];rfl
 | k::ks,j::js=>by
  show HT.lexLt (1::k::mI (ks,as)) (1::j::mI (js,bs))=_;rw[HT.lexLt_cons,if_pos rfl,HT.lexLt_cons,sg as bs ks js];unfold Fm;show (if k=j then (if ks=js then HT.lexLt as bs else HT.lexLt ks js) else decide (k < j))=if k::ks=j::js then HT.lexLt as bs else HT.lexLt (k::ks) (j::js)
  by_cases e:k=j
  ·subst e
   rw[if_pos rfl]
   by_cases e2:ks=js
   ·rw[if_pos e2,if_pos (by rw[e2])]
   ·rw[if_neg e2,if_neg (by simpa using e2),HT.lexLt_cons,if_pos rfl]
  ·rw[if_neg e,if_neg (by simp [e]),HT.lexLt_cons,if_neg e]
variable [KF]
def vR (ks ps:List Int):D:=.tup [.tup (ks.map D.int),.lst (ps.map D.int)]
def EntP (F:Hp)(v:V)(e:List Int×List Int):Prop:=Rep F v (vR e.1 e.2)
open Classical in
def kJ (F:Hp)(v:V):List Int×List Int:=if h:∃ e,EntP F v e then Classical.choose h else ([],[])
theorem Cg {F:Hp}{v:V}(h:∃ e,EntP F v e):EntP F v (kJ F v):=by
 unfold kJ;rw[dif_pos h];exact Classical.choose_spec h
theorem dg (ns:List Int):(ns.map D.int).all isInt=true:=by rw[List.all_map];exact List.all_eq_true.mpr λ_ _=>rfl
theorem gu (ns:List Int)(m:Nat):bx (m+1) (.tup (ns.map D.int))=true/\bx (m+1) (.lst (ns.map D.int))=true:=by
 have:(ns.map D.int).all (bx m)=true:=by
  rw[List.all_map];exact List.all_eq_true.mpr λ_ _=>by cases m<;>rfl
 exact⟨this,this⟩
theorem fc (as bs:List Int):fS (as.map D.int) (bs.map D.int)=decide (as=bs):=by
 have e:∀ l:List Int,l.map D.int=(l.map (Sum.inl:Int->bw)).map kD:=λl=>by rw[List.map_map];rfl
 rw[e,e,mE];have inj:∀ {a b:List Int},a.map (Sum.inl:Int->bw)=b.map Sum.inl->a=b:=λ{a b} h=>by
  have:=congrArg (List.map λk:bw=>match k with|.inl i=>i|.inr _=>0) h
  rw[List.map_map,List.map_map] at this;have id':∀ l:List Int,l.map ((λk:bw=>match k with|.inl i=>i|.inr _=>0) ∘ Sum.inl)=l:=λl=>(List.map_congr_left λx _=>rfl).trans (List.map_id _)
  rwa [id',id'] at this
 by_cases h:as=bs
 ·rw[h,decide_eq_true rfl,decide_eq_true rfl]
 ·rw[decide_eq_false h,decide_eq_false λz=>h (inj z)]
theorem kh:∀ {a b:List Int},a.map V.int=b.map V.int->a=b
 | [],[],_=>rfl
 | [],_::_,h=>by cases h
 | _::_,[],h=>by cases h
 | x::a,y::b,h=>by
  rw[List.map_cons,List.map_cons] at h;obtain⟨h1,h2⟩:=List.cons.inj h;rw[V.int.inj h1,kh h2]
theorem im (ns:List Int):(ns.map D.int).map gd=ns:=by
 rw[List.map_map];exact (List.map_congr_left λx _=>rfl).trans (List.map_id _)
theorem EntP.parts {F:Hp}{v:V}{e:List Int×List Int}(h:EntP F v e):∃ a t l,v=.ref a/\F a=some (.tup [.ref t,.ref l])/\F t=some (.tup (e.1.map V.int))/\Rd F l (.lst (e.2.map V.int)):=by
 cases (show Rep F v (.tup [.tup (e.1.map D.int),.lst (e.2.map D.int)]) from h) with
 | tup hf rl =>
  cases rl with
  | cons r1 rl =>
  cases rl with
  | cons r2 rl =>
  cases rl;cases r1 with
  | tup h1 q1 =>
  cases r2 with
  | lst h2 q2 =>
   refine⟨_,_,_,rfl,hf,?_,?_⟩
   ·have z:=q1.ints (dg e.1)
    rw[im] at z;rw[<- z];exact h1
   ·have z:=q2.ints (dg e.2)
    rw[im] at z;rw[<- z];exact h2
theorem Fo {F:Hp}{l:Addr}{xs ys:List V}(h1:Rd F l (.lst xs))(h2:Rd F l (.lst ys)):xs=ys:=by
 rcases h1 with h1|⟨o,h1⟩<;>rcases h2 with h2|⟨o',h2⟩<;>rw[h1] at h2<;>cases h2<;>rfl
theorem Ci {X:Cx}{pins:List (Addr×Obj)}{σ:St}{H F:Hp}{s:Shared}(I:L2.Inv X pins σ H s)(sm:Same F H){A:Around}(hu:A.units+64 < cLine){v1 v2:V}{u1 u2:Value}{e1 e2:List Int×List Int}(p1:EntP F v1 e1)(p2:EntP F v2 e2)(r1:RelV v1 u1)(r2:RelV v2 u2)
  {Q:Bool->Shared->Prop} {E:Value->Shared->Prop} (q:Q (Fm e1 e2) s):wpAny (model X.prog X.w) A (PyProof.Rows.keyLt' (PyProof.Rows.tuples' false) u1 u2) Q E s:=by
 obtain⟨a,t,l,rfl,f1,f2,f3⟩:=p1.parts;obtain⟨a',t',l',rfl,g1,g2,g3⟩:=p2.parts;cases r1;cases r2;obtain⟨_,its,rv,o,ho,hc,n,hd⟩:=I.hok a _ (sm _ _ f1);obtain⟨_,its',rv',o',ho',hc',n',hd'⟩:=I.hok a' _ (sm _ _ g1);cases rv with
 | cons z1 rv =>
 cases rv with
 | cons z2 rv =>
 cases rv;cases z1;cases z2;cases rv' with
 | cons z1 rv' =>
 cases rv' with
 | cons z2 rv' =>
 cases rv';cases z1;cases z2;have rt:∀ {F:Hp} {t:Addr} {ns:List Int},F t=some (.tup (ns.map V.int))->Rep F (.ref t) (.tup (ns.map D.int)):=λ{F t ns} h=>.tup h (by
  clear h
  induction ns with
  | nil=>exact .nil
  | cons x ns ih=>exact .cons (.int x) ih)
 have rl:∀ {F:Hp} {t:Addr} {ns:List Int},Rd F t (.lst (ns.map V.int))->Rep F (.ref t) (.lst (ns.map D.int)):=λ{F t ns} h=>.lst h (by
  clear h
  induction ns with
  | nil=>exact .nil
  | cons x ns ih=>exact .cons (.int x) ih)
 have eqd:∀ {x y:Addr} {d1 d2:D},Rep F (.ref x) d1->Rep F (.ref y) d2->bx 8 d1=true->bx 8 d2=true->(x=y->cO d1 d2=true)->∀ {B:Around},B.units+64 < cLine->PySem.SeqAt.EqAt B s (.ref x) (.ref y) (cO d1 d2):=by
  intro x y d1 d2 q1 q2 o1 o2 hs B hB
  by_cases e:x=y
  ·rw[hs e,e];exact PySem.SeqAt.EqAt.same _
  ·refine PySem.SeqAt.EqAt.of_refs e λprog w E Q hq=>?_
   obtain⟨as,w1⟩:=q1.reads I.hok sm 8 rfl o1;obtain⟨bs,w2⟩:=q2.reads I.hok sm 8 rfl o2;exact PyProof.Rows.eq_dataH (E:=E) w1 w2 (cV o1) (cV o2) hB (by rw[<- qu 8 8 d1 d2 o1 o2];exact hq)
 have eT:=eqd (rt f2) (rt g2) (gu e1.1 7).1 (gu e2.1 7).1 (λe=>by
  subst e;rw[f2] at g2;have:=kh (HO.tup.inj (Option.some.inj g2));rw[this];show fS _ _=true;rw[fc,decide_eq_true rfl]) hu
 have eL:=eqd (rl f3) (rl g3) (gu e1.2 7).2 (gu e2.2 7).2 (λe=>by
  subst e;have:=kh (Fo f3 g3);rw[this];show fS _ _=true;rw[fc,decide_eq_true rfl]) hu
 rw[show cO (.tup (e1.1.map D.int)) (.tup (e2.1.map D.int))=decide (e1.1=e2.1) from fc _ _] at eT
 rw[show cO (.lst (e1.2.map D.int)) (.lst (e2.2.map D.int))=decide (e1.2=e2.2) from fc _ _] at eL
 have hu1:A.units < cLine:=by omega
 have tL:∀ {E:Value->Shared->Prop} {Q:Value->Shared->Prop},Q (.bool (HT.lexLt e1.1 e2.1)) s->wpAny (model X.prog X.w) A (compareOp .Lt (.ref t) (.ref t')) Q E s:=λ{E Q} h=>by
  obtain⟨_,i1,w1,o1,k1,c1⟩:=I.hok t _ (sm _ _ f2);obtain⟨_,i2,w2,o2,k2,c2⟩:=I.hok t' _ (sm _ _ g2);exact HT.lt_tupInts ⟨o1,k1,c1⟩ ⟨o2,k2,c2⟩ (L2.intsAre_of w1) (L2.intsAre_of w2) hu1 h
 have lL:∀ {E:Value->Shared->Prop} {Q:Value->Shared->Prop},Q (.bool (HT.lexLt e1.2 e2.2)) s->wpAny (model X.prog X.w) A (compareOp .Lt (.ref l) (.ref l')) Q E s:=λ{E Q} h=>by
  obtain⟨_,i1,m1,w1,k1⟩:=L2.Rd.ok (Rd.mono sm f3) I.hok;obtain⟨_,i2,m2,w2,k2⟩:=L2.Rd.ok (Rd.mono sm g3) I.hok;exact HT.lt_lstInts ⟨_,k1,rfl,_,rfl⟩ ⟨_,k2,rfl,_,rfl⟩ ⟨_,k1,rfl⟩ (L2.intsAre_of w1) (L2.intsAre_of w2) hu1 h
 refine PySem.W.kat_lt ho hd ho' hd' ?_;show PySem.W.KatLex X.prog X.w A false false Q [(.ref t,.ref t'),(.ref l,.ref l')] 0 s;unfold Fm at q;refine PySem.W.kat_cons (eT _ _ _ _ (PySem.W.kat_go (λh=>PySem.W.kat_yes (PySem.W.kat_cons (eL _ _ _ _ (PySem.W.kat_go (λh2=>PySem.W.kat_yes (PySem.W.kat_nil ?_)) λh2=>PySem.W.kat_no ?_)))) λh=>PySem.W.kat_no ?_))
 ·rw[if_pos (of_decide_eq_true h),of_decide_eq_true h2,Vs.lx_irrefl] at q
  exact q
 ·rw[if_pos (of_decide_eq_true h)] at q
  exact PySem.W.kat_one _ _ (lL q)
 ·rw[if_neg (of_decide_eq_false h)] at q
  exact PySem.W.kat_one _ _ (tL q)
end Vc

namespace Vc
open PySem L2
variable [KF]
def vS:List V->Hp->VK->Prop:=λxs H Q=>∃ (F:Hp) (p:Addr) (us:List V),xs=[.ref p]/\Same F H/\Rd H p (.lst us)/\(∀ u∈us,∃ e,EntP F u e)/\∀ us':List V,us'.Perm us->∀ l,H l=none->Q (.ref l) (bz H l (.lst us'))
theorem qM {X:Cx}(hu:X.A.units+100 < cLine):CallR X (.builtin "sorted") vS:=by
 intro pins s σ H xs us0 Q I r h;obtain⟨F,p,us,rfl,sm,hq,hu2,q⟩:=h;obtain⟨u,rfl,rx⟩:=cY r;cases rx;obtain⟨its,rv,pl,hz⟩:=I.list (.inl hq);have hlen:=rv.length;have eus:us=its.map dQ:=oU rv λu h=>by
  obtain⟨e,he⟩:=hu2 u h;obtain⟨a,_,_,rfl,_⟩:=he.parts;exact⟨a,rfl⟩
 have itr:∀ v∈its,(∃ a,v=.ref a)/\RelV (dQ v) v/\EntP F (dQ v) (kJ F (dQ v)):=λv hv=>by
  obtain⟨i,hi,e⟩:=List.mem_iff_getElem.mp hv;obtain⟨u,hu1,ru⟩:=rv.get (i:=i) (x:=us[i]'(by omega)) (List.getElem?_eq_getElem _)
  rw[List.getElem?_eq_getElem hi] at hu1;cases hu1;have hm:us[i]'(by omega)∈us:=List.getElem_mem _
  obtain⟨x,hx⟩:=hu2 _ hm;obtain⟨a,_,_,ea,_⟩:=hx.parts;rw[ea] at ru;have ev:v=.ref a:=by rw[<- e];exact ru
  subst ev;refine⟨⟨a,rfl⟩,rfl,Cg ⟨x,?_⟩⟩;rw[ea] at hx;exact hx
 have mem:∀ x:PyProof.Rows.Keyed,x∈(PyProof.Rows.pairsOf its).toList->x.1∈its/\x.1=x.2:=λx hx=>by
  rw[PyProof.Rows.pairsOf_toList,cF] at hx;obtain⟨v,hv,rfl⟩:=List.mem_map.mp hx;exact⟨hv,rfl⟩
 refine Vs.sorted_anyU (kd:=PyProof.Rows.tuples' false) (ρ:=Vs.rk (λx=>mI (kJ F (dQ x.1))) (PyProof.Rows.pairsOf its).toList) (P:=λx=>x∈(PyProof.Rows.pairsOf its).toList) pl.isList (by omega) (λ_ h=>h) (λh2 A' hA E' g kg=>⟨λQ hQ=>?_,λx y st Q hx hy hk hq=>?_⟩) λys g c hp kg hg=>?_
 ·have I1:=I.kept (h':=g) (t':=s.toks) kg
  have key:∀ vs:List Value,(∀ v∈vs,v∈its)->∃ fs,PySem.W.KatTups g vs fs/\fs.length=vs.length/\∀ v∈fs,∃ t o,v=.ref t/\g.get? t=some o/\o.cls=.type "tuple":=by
   intro vs
   induction vs with
   | nil=>intro _;exact⟨[],PySem.W.KatTups.nil,rfl,λv hv=>by cases hv⟩
   | cons v vs ih =>
    intro h;obtain⟨⟨a,rfl⟩,_,he⟩:=itr v (h v (.head _));obtain⟨a',t,l,ea,f1,f2,f3⟩:=he.parts;cases ea;obtain⟨fs,k1,k2,k3⟩:=ih λu hu=>h u (.tail _ hu);obtain⟨_,i1,w1,o,ho,hc,n,hd⟩:=I1.hok a _ (sm _ _ f1);cases w1 with
    | cons z1 w1 =>
    cases w1 with
    | cons z2 w1 =>
    cases w1;cases z1;cases z2;obtain⟨_,i2,w2,o2,ho2,hc2,_⟩:=I1.hok t _ (sm _ _ f2);refine⟨.ref t::fs,PySem.W.KatTups.cons ho hc hd rfl k1,by simp [k2],λv hv=>?_⟩
    rcases List.mem_cons.mp hv with rfl|hv
    ·exact⟨t,o2,rfl,ho2,hc2⟩
    ·exact k3 v hv
  obtain⟨fs,k1,k2,k3⟩:=key its λ_ h=>h;refine PySem.W.kat_kind (T:=.type "tuple") k1 (by omega) (λv hv=>?_) rfl hQ
  obtain⟨t,o,rfl,ho,hc⟩:=k3 v hv;exact λA2 Q2 E2 s2 kk q2=>wpAny_typeOf (T:="tuple") ⟨o,kk _ _ ho,hc⟩ q2
 ·rw[Vs.rk_lt hx] at hq
  rw[PyProof.Rows.lt'_eq];refine PyProof.Rows.wpS_bind (PyProof.Rows.wpS_get ?_);rw[hk];have I1:=I.kept (h':=g) (t':=s.toks) kg;obtain⟨_,r1,p1⟩:=itr x.1 (mem x hx).1;obtain⟨_,r2,p2⟩:=itr y.1 (mem y hy).1;rw[show mI (kJ F (dQ x.1))=mI ((kJ F (dQ x.1)).1,(kJ F (dQ x.1)).2) from rfl,show mI (kJ F (dQ y.1))=mI ((kJ F (dQ y.1)).1,(kJ F (dQ y.1)).2) from rfl,sg] at hq
  exact PyProof.Rows.wpS_bind (PyProof.Rows.wpS_lift (wpAny_attempt (Ci I1 sm (by omega) p1 p2 r1 r2 ⟨rfl,PyProof.Rows.wpS_pure hq⟩)))
 ·have hpl:ys.toList.Perm (PyProof.Rows.pairsOf its).toList:=Array.perm_iff_toList_perm.mp hp
  have hm2:∀ x∈ys.toList,x.1∈its/\x.1=x.2:=λx hx=>mem x (hpl.mem_iff.mp hx);have perm:(ys.toList.map λx=>dQ x.2).Perm us:=by
   rw[eus];refine (hpl.map λx=>dQ x.2).trans ?_;rw[PyProof.Rows.pairsOf_toList,cF,List.map_map];exact List.Perm.refl _
  have eq2:ys.toList.map (λx=>dQ x.2)=(ys.map (·.2)).toList.map dQ:=by
   rw[Array.toList_map,List.map_map];rfl
  refine⟨.ref (s.heap.objs.size+1),_,I.laid (t':=s.toks) (o:=.lst (ys.toList.map λx=>dQ x.2)) kg (Nat.le_succ _) ⟨?_,(ys.map (·.2)).toList,c,?_,hg⟩,rfl,q _ perm _ (I.hok.fresh (Nat.le_succ _))⟩
  ·rw[perm.length_eq];exact hz
  ·rw[eq2]
   refine mw λv hv=>?_;rw[Array.toList_map] at hv;obtain⟨x,hx,rfl⟩:=List.mem_map.mp hv;have:=hm2 x hx;exact (itr _ (this.2 ▸ this.1)).1
theorem tY {F:Hp}{us us':List V}(h:us'.Perm us):∀ {xs:List D},RepL F us xs->∃ ys,ys.Perm xs/\RepL F us' ys:=by
 induction h with
 | nil=>intro xs r;exact⟨xs,.refl _,r⟩
 | cons v _ ih =>
  intro xs r;cases r with
  | cons r1 r2 =>
   obtain⟨ys,p,q⟩:=ih r2;exact⟨_::ys,p.cons _,.cons r1 q⟩
 | swap a b l =>
  intro xs r;cases r with
  | cons r1 r2 =>
  cases r2 with
  | cons r2 r3=>exact⟨_,.swap _ _ _,.cons r2 (.cons r1 r3)⟩
 | trans _ _ ih1 ih2 =>
  intro xs r;obtain⟨ys,p,q⟩:=ih2 r;obtain⟨zs,p2,q2⟩:=ih1 q;exact⟨zs,p2.trans p,q2⟩
variable {G:GE}{k:Nat}{S:Stat}
def mJ:List D->(EV->Prop)->Prop
 | [.lst xs],Q=>(∀ x∈xs,∃ ks ps,x=vR ks ps)/\∀ ys,ys.Perm xs->Q (.own ys)
 | _,_=>False
theorem Cj:tG G k S (.builtin "sorted") mJ:=⟨λ_=>vS,λ_ _ ok=>qM (by have:=ok.un;omega),λY F H σd σ vs ds Qd Q R r q g=>by
 unfold mJ at q
 split at q
 ·rename_i xs
  obtain⟨v,rfl,rv⟩:=r.one;obtain⟨p,us,rfl,h1,h2⟩:=rv.lst;refine⟨F,p,us,rfl,R.fr,h1,λu hu=>?_,λus' hp=>?_⟩
  ·obtain⟨d,hd,rd⟩:=h2.mem u hu
   obtain⟨ks,ps,rfl⟩:=q.1 d hd;exact⟨(ks,ps),rd⟩
  ·obtain⟨ys,p2,rl⟩:=tY hp h2
   exact g.own R rl (q.2 ys p2)
 ·exact q.elim⟩
end Vc

set_option maxHeartbeats 0
namespace K16
open PySem L2 Vc

section
def fL (i:Nat):Stmt:=PySem.Challenge.pw_closepoints_k16_papers_by_cells_judged.main.body.getD i (.Pass ⟨0,0,0,0⟩)
variable [KF]
structure Gl (G:GE):Prop where
 z_abs:G.mg "abs"=none
 z_all:G.mg "all"=none
 z_bool:G.mg "bool"=none
 z_enumerate:G.mg "enumerate"=none
 z_int:G.mg "int"=none
 z_isinstance:G.mg "isinstance"=none
 z_len:G.mg "len"=none
 z_list:G.mg "list"=none
 z_max:G.mg "max"=none
 z_min:G.mg "min"=none
 z_range:G.mg "range"=none
 z_sorted:G.mg "sorted"=none
 z_sum:G.mg "sum"=none
 z_tuple:G.mg "tuple"=none
 z_zip:G.mg "zip"=none
 c_SQUARES:Ev G "SQUARES" (.str "squares")
 c_STREETS:Ev G "STREETS" (.str "streets")
variable {G:GE}{k:Nat}
abbrev gv:Stmt:=fL 8
abbrev vT:List Str:=["count"]
theorem Fp:FnScope vT ["count"] (af gv):=⟨rfl,rfl,rfl,by decide +kernel,rfl,by decide +kernel,by decide +kernel⟩
def vU:cj:=(bR (jj (aL uI (ab 0) (aC (.int 1))) (aL Pk (ab 0) (aC (.int 3)))) tI eA)
theorem Mm (E:Gl G):ESs G k ⟨vT,(af gv).names,[],false,false,false,λ_ _=>False⟩ (ao gv) (vU):=(aB (bW (rK (kB (aJ qw (aa 0) ah) (fW (aJ LZ (aa 0) ah)))) (aB jk) bp))
abbrev mK:Stmt:=fL 9
abbrev Fq:List Str:=["point","count"]
theorem Mn:FnScope Fq ["point","count"] (af mK):=⟨rfl,rfl,rfl,by decide +kernel,rfl,by decide +kernel,by decide +kernel⟩
def Fs:cj:=(bR (aL qv (au (cW dC (aX (ab 0) cC))) (ab 1)) tI eA)
theorem QF (E:Gl G):ESs G k ⟨Fq,(af mK).names,[],false,false,false,λ_ _=>False⟩ (ao mK) (Fs):=(aB (bW (aJ ii (av (ce cQ E.z_len (az (aa 0) aR) (by decide +kernel))) (aa 1)) (aB jk) bp))
abbrev gw:Stmt:=fL 10
abbrev vV:List Str:=["points","point"]
theorem Ft:FnScope vV ["points"] (af gw):=⟨rfl,rfl,rfl,by decide +kernel,rfl,by decide +kernel,by decide +kernel⟩
def vW (mL:bD)(sj:bD):cj:=(cL (bM (ag [] (ab 0))) (cR 1) (bC (rN (fq mL (aA (ag [] (au (cW dC (aX (ab 1) cC)))) tN))) (rN (fq sj (aA (ag [] (ab 1)) (aA (ag [] (au (cW dC (aX (cP (ab 0) (aC (.int 0))) cC)))) tN))))))
theorem Mo (E:Gl G){mL:bD}(vX:FnG G k "need_count" mL){sj:bD}(Fu:FnG G k "need_as_many_numbers" sj):ESs G k ⟨vV,(af gw).names,[],false,false,false,λ_ _=>False⟩ (ao gw) (vW mL sj):=(aB (eN (cK (ar (aa 0))) (aK 1) (aq (da (be vX (ad (ar (av (ce cQ E.z_len (az (aa 1) aR) (by decide +kernel)))) ak))) (aB (da (be Fu (ad (ar (aa 1)) (ad (ar (av (ce cQ E.z_len (az (bA (aa 0) ah) aR) (by decide +kernel)))) ak))))))))
abbrev gy:Stmt:=fL 11
abbrev vY:List Str:=["way"]
theorem Fv:FnScope vY ["way"] (af gy):=⟨rfl,rfl,rfl,by decide +kernel,rfl,by decide +kernel,by decide +kernel⟩
def vZ:cj:=(bR (dn (aL qv (ab 0) (aC (.str "streets"))) (aL qv (ab 0) (aC (.str "squares")))) tI eA)
theorem Mp (E:Gl G):ESs G k ⟨vY,(af gy).names,[],false,false,false,λ_ _=>False⟩ (ao gy) (vZ):=(aB (bW (rK (jJ (aJ ii (aa 0) (rJ E.c_STREETS)) (jI (aJ ii (aa 0) (rJ E.c_SQUARES))))) (aB jk) bp))
abbrev mM:Stmt:=fL 12
abbrev Fx:List Str:=["points","way"]
theorem Mq:FnScope Fx ["points","way"] (af mM):=⟨rfl,rfl,rfl,by decide +kernel,rfl,by decide +kernel,by decide +kernel⟩
def Fy (mN:bD)(mO:bD):cj:=(bC (rN (fq mN (aA (ag [] (ab 0)) tN))) (rN (fq mO (aA (ag [] (ab 1)) tN))))
theorem QG (E:Gl G){mN:bD}(wc:FnG G k "need_points" mN){mO:bD}(wd:FnG G k "need_way" mO):ESs G k ⟨Fx,(af mM).names,[],false,false,false,λ_ _=>False⟩ (ao mM) (Fy mN mO):=(aq (da (be wc (ad (ar (aa 0)) ak))) (aB (da (be wd (ad (ar (aa 1)) ak)))))
abbrev mP:Stmt:=fL 13
abbrev Fz:List Str:=["bound"]
theorem Mr:FnScope Fz ["bound"] (af mP):=⟨rfl,rfl,rfl,by decide +kernel,rfl,by decide +kernel,by decide +kernel⟩
def FA:cj:=(bR (aL uI (ab 0) (aC (.int 1))) tI eA)
theorem QH (E:Gl G):ESs G k ⟨Fz,(af mP).names,[],false,false,false,λ_ _=>False⟩ (ao mP) (FA):=(aB (bW (aJ qw (aa 0) ah) (aB jk) bp))
abbrev gz:Stmt:=fL 15
abbrev we:List Str:=["way","point","other","differences"]
theorem FB:FnScope we ["way","point","other"] (af gz):=⟨rfl,rfl,rfl,by decide +kernel,rfl,by decide +kernel,by decide +kernel⟩
def wf:cj:=(bC (cu [] 3 (cg [] [none,none] (Bm (aA (ag [] (ab 1)) (aA (ag [] (ab 2)) tN))) (tM 2 (gC (cR 0) (gC (cR 1) tK))) bJ (ag [] (au (cW tH (aX (au (ay ie (ab 0) (ab 1))) cC)))))) (bC (bR (aL hJ (ab 0) (aC (.str "streets"))) (dj [] (cW qB (aX (ab 3) cC))) eA) (dj [] (cW qB (aX (au (cg [] [none] (bM (ag [] (ab 3))) (cR 0) bJ (ag [] (au (ay ig (ab 0) (ab 0)))))) cC)))))
theorem Ms (E:Gl G):ESs G k ⟨we,(af gz).names,[],false,false,false,λ_ _=>False⟩ (ao gz) (wf):=(aq (qz 3 (N':=["here","there"]) (CG (ad (ar (aa 1)) (ad (ar (aa 2)) ak)) E.z_zip) ⟨rfl,by decide +kernel,by decide +kernel,by decide +kernel,by decide +kernel,rfl,by decide +kernel⟩ (fx (bu (aK 0) (bu (aK 1) dD))) cy (ar (av (ce uL E.z_abs (az (av (eM (aa 0) (aa 1))) aR) (by decide +kernel))))) (aq (bW (aJ cJ (aa 0) (rJ E.c_STREETS)) (aB (aW (ce rW E.z_sum (az (aa 3) aR) (by decide +kernel)))) bp) (aB (aW (ce rW E.z_sum (az (av (cD (N':=["difference"]) (cK (ar (aa 3))) ⟨rfl,by decide +kernel,by decide +kernel,by decide +kernel,by decide +kernel,rfl,by decide +kernel⟩ (aK 0) cy (ar (av (fQ (aa 0) (aa 0)))))) aR) (by decide +kernel))))))
abbrev mQ:Stmt:=fL 16
abbrev FC:List Str:=["points","way","pairs","i","j"]
theorem Mt:FnScope FC ["points","way"] (af mQ):=⟨rfl,rfl,rfl,by decide +kernel,rfl,by decide +kernel,by decide +kernel⟩
def Mu (mR:bD):cj:=(bC (cu [] 2 (dB tN)) (bC (cL (oj (aX (au (cW dC (aX (ab 0) cC))) cC)) (cR 3) (cL (Be (aX (au (ay bg (ab 3) (aC (.int 1)))) (aX (au (cW dC (aX (ab 0) cC))) cC))) (cR 4) (rN (tJ (ab 2) (ag [] (eE (aA (ag [] (au (fq mR (aA (ag [] (ab 1)) (aA (ag [] (cP (ab 0) (ab 3))) (aA (ag [] (cP (ab 0) (ab 4))) tN)))))) (aA (ag [] (ab 3)) (aA (ag [] (ab 4)) tN))))))))) (dj [] (oX (ab 2)))))
theorem QI (E:Gl G){mR:bD}(wg:FnG G k "far_between" mR):ESs G k ⟨FC,(af mQ).names,[],false,false,false,λ_ _=>False⟩ (ao mQ) (Mu mR):=(aq (aY 2 (bf ak)) (aq (eN (jN (az (av (ce cQ E.z_len (az (aa 0) aR) (by decide +kernel))) aR) E.z_range) (aK 3) (aB (eN (EF (az (av (aM (aa 3) ah)) (az (av (ce cQ E.z_len (az (aa 0) aR) (by decide +kernel))) aR)) E.z_range) (aK 4) (aB (da (jL (aa 2) (ar (bq (ad (ar (av (be wg (ad (ar (aa 1)) (ad (ar (bA (aa 0) (aa 3))) (ad (ar (bA (aa 0) (aa 4))) ak)))))) (ad (ar (aa 3)) (ad (ar (aa 4)) ak))))))))))) (aB (aW (dS (aa 2))))))
abbrev gA:Stmt:=fL 18
abbrev wj:List Str:=["points","way"]
theorem FD:FnScope wj ["points","way"] (af gA):=⟨rfl,rfl,rfl,by decide +kernel,rfl,by decide +kernel,by decide +kernel⟩
def wk (gB:bD)(sk:bD):cj:=(bC (rN (fq gB (aA (ag [] (ab 0)) (aA (ag [] (ab 1)) tN)))) (dj [] (oX (EN (au (fq sk (aA (ag [] (ab 0)) (aA (ag [] (ab 1)) tN)))) (ag [] (aC .non))))))
theorem Mv (E:Gl G){gB:bD}(tZ:FnG G k "need_points_and_way" gB){sk:bD}(FE:FnG G k "pairs_by_places" sk):ESs G k ⟨wj,(af gA).names,[],false,false,false,λ_ _=>False⟩ (ao gA) (wk gB sk):=(aq (da (be tZ (ad (ar (aa 0)) (ad (ar (aa 1)) ak)))) (aB (aW (dS (Me (av (be FE (ad (ar (aa 0)) (ad (ar (aa 1)) ak)))) (ar Cy) E.z_min)))))
abbrev gD:Stmt:=fL 20
abbrev wl:List Str:=["point","side"]
theorem FF:FnScope wl ["point","side"] (af gD):=⟨rfl,rfl,rfl,by decide +kernel,rfl,by decide +kernel,by decide +kernel⟩
def wm:cj:=(dj [] (cW ip (aX (au (cg [] [none,some 1] (bM (ag [] (ab 0))) (cR 0) bJ (ag [] (au (ay gp (ab 0) (ab 1)))))) cC)))
theorem Mw (E:Gl G):ESs G k ⟨wl,(af gD).names,[],false,false,false,λ_ _=>False⟩ (ao gD) (wm):=(aB (aW (oh lW E.z_tuple (az (av (cD (N':=["number","side"]) (cK (ar (aa 0))) ⟨rfl,by decide +kernel,by decide +kernel,by decide +kernel,by decide +kernel,rfl,by decide +kernel⟩ (aK 0) cy (ar (av (dY (aa 0) (aa 1)))))) aR) (by decide +kernel))))
abbrev mS:Stmt:=fL 21
abbrev FG:List Str:=["points","side","places","place","point"]
theorem Mx:FnScope FG ["points","side"] (af mS):=⟨rfl,rfl,rfl,by decide +kernel,rfl,by decide +kernel,by decide +kernel⟩
def FH (mT:bD):cj:=(bC (cu [] 2 vN) (bC (cL (iD (aA (ag [] (ab 0)) tN)) (tM 2 (gC (cR 3) (gC (cR 4) tK))) (Fh 2 3 (ag [] (au (fq mT (aA (ag [] (ab 4)) (aA (ag [] (ab 1)) tN))))))) (dj [] (cg [] [none,some 2] (bM (ag [] (au (mG (aA (QB 2) tN))))) (cR 0) bJ (ag [] (eE (aA (ag [] (ab 0)) (aA (ag [] (Ca (ab 1) (ab 0))) tN))))))))
theorem QJ (E:Gl G){mT:bD}(wn:FnG G k "cell_by_side" mT):ESs G k ⟨FG,(af mS).names,[],false,false,false,λ_ _=>False⟩ (ao mS) (FH mT):=(aq (aY 2 vO) (aq (eN (jo (ad (ar (aa 0)) ak) E.z_enumerate) (fx (bu (aK 3) (bu (aK 4) dD))) (aB (tW 2 3 (ar (av (be wn (ad (ar (aa 4)) (ad (ar (aa 1)) ak)))))))) (aB (aW (cD (N':=["cell","places"]) (cK (ar (av (sf (ad (QC 2) ak) E.z_sorted)))) ⟨rfl,by decide +kernel,by decide +kernel,by decide +kernel,by decide +kernel,rfl,by decide +kernel⟩ (aK 0) cy (ar (bq (ad (ar (aa 0)) (ad (ar (CK (aa 1) (aa 0))) ak)))))))))
abbrev mU:Stmt:=fL 22
abbrev FI:List Str:=["way","side","bound"]
theorem My:FnScope FI ["way","side","bound"] (af mU):=⟨rfl,rfl,rfl,by decide +kernel,rfl,by decide +kernel,by decide +kernel⟩
def FJ:cj:=(bC (bR (aL uI (ab 1) (aC (.int 1))) (dj [] (oX (aC (.bl false)))) eA) (bC (bR (aL hJ (ab 0) (aC (.str "streets"))) (dj [] (oX (bV (aL Lq (ab 1) (ab 2))))) eA) (dj [] (oX (bV (aL Lq (au (ay vQ (ab 1) (ab 1))) (ab 2)))))))
theorem QK (E:Gl G):ESs G k ⟨FI,(af mU).names,[],false,false,false,λ_ _=>False⟩ (ao mU) (FJ):=(aq (bW (aJ qw (aa 1) ah) (aB (aW (dS jE))) bp) (aq (bW (aJ cJ (aa 0) (rJ E.c_STREETS)) (aB (aW (dS (fU AW (aa 1) (aa 2))))) bp) (aB (aW (dS (fU AW (av (qL (aa 1) (aa 1))) (aa 2)))))))
abbrev mV:Stmt:=fL 23
abbrev FK:List Str:=["points","way","bound","found"]
theorem Mz:FnScope FK ["points","way","bound"] (af mV):=⟨rfl,rfl,rfl,by decide +kernel,rfl,by decide +kernel,by decide +kernel⟩
def FL (mW:bD):cj:=(bC (cu [] 3 (fq mW (aA (ag [] (ab 0)) (aA (ag [] (ab 1)) tN)))) (dj [] (oX (bV (dn (er (bV (aL Ey (ab 3) (aC .non)))) (er (bV (aL uI (cP (ab 3) (aC (.int 0))) (ab 2)))))))))
theorem QL (E:Gl G){mW:bD}(wo:FnG G k "nearest_two" mW):ESs G k ⟨FK,(af mV).names,[],false,false,false,λ_ _=>False⟩ (ao mV) (FL mW):=(aq (aY 3 (be wo (ad (ar (aa 0)) (ad (ar (aa 1)) ak)))) (aB (aW (dS (AX (rM (kC (fU Ma (aa 3) Cy)) (rL (kC (fU qw (bA (aa 3) ah) (aa 2))))))))))
abbrev gE:Stmt:=fL 24
abbrev wp:List Str:=["numbers"]
theorem FM:FnScope wp ["numbers"] (af gE):=⟨rfl,rfl,rfl,by decide +kernel,rfl,by decide +kernel,by decide +kernel⟩
def wq:cj:=(dj [] (cW vK (aX (au (cg [] [none] (bM (ag [] (ab 0))) (cR 0) bJ (ag [] (bV (dn (er (bV (kF ["int"] (ab 0)))) (er (bV (cZ (er (bV (kF ["bool"] (ab 0)))))))))))) cC)))
theorem MA (E:Gl G):ESs G k ⟨wp,(af gE).names,[],false,false,false,λ_ _=>False⟩ (ao gE) (wq):=(aB (aW (ce CJ E.z_all (az (av (cD (N':=["number"]) (cK (ar (aa 0))) ⟨rfl,by decide +kernel,by decide +kernel,by decide +kernel,by decide +kernel,rfl,by decide +kernel⟩ (aK 0) cy (ar (AX (rM (kC (eQ (aa 0) Bq E.z_isinstance E.z_int (by decide +kernel))) (rL (kC (CC (kC (eQ (aa 0) ou E.z_isinstance E.z_bool (by decide +kernel))))))))))) aR) (by decide +kernel))))
abbrev mX:Stmt:=fL 25
abbrev FN:List Str:=["entry"]
theorem MB:FnScope FN ["entry"] (af mX):=⟨rfl,rfl,rfl,by decide +kernel,rfl,by decide +kernel,by decide +kernel⟩
def FO (dF:bD):cj:=(bC (bR (jj (cZ (ji (bV (kF ["tuple"] (ab 0))))) (aL qv (au (cW dC (aX (ab 0) cC))) (aC (.int 2)))) (dj [] (oX (aC (.bl false)))) eA) (bC (bR (jj (cZ (ji (bV (kF ["tuple"] (cP (ab 0) (aC (.int 0))))))) (cZ (ji (bV (kF ["list"] (cP (ab 0) (aC (.int 1)))))))) (dj [] (oX (aC (.bl false)))) eA) (dj [] (oX (bV (dn (er (au (fq dF (aA (ag [] (cP (ab 0) (aC (.int 0)))) tN)))) (er (au (fq dF (aA (ag [] (cP (ab 0) (aC (.int 1)))) tN))))))))))
theorem QM (E:Gl G){dF:bD}(ki:FnG G k "are_whole" dF):ESs G k ⟨FN,(af mX).names,[],false,false,false,λ_ _=>False⟩ (ao mX) (FO dF):=(aq (bW (rK (kB (dA (dy (eQ (aa 0) iB E.z_isinstance E.z_tuple (by decide +kernel)))) (fW (aJ ii (av (ce cQ E.z_len (az (aa 0) aR) (by decide +kernel))) ah)))) (aB (aW (dS jE))) bp) (aq (bW (rK (kB (dA (dy (eQ (bA (aa 0) ah) iB E.z_isinstance E.z_tuple (by decide +kernel)))) (fW (dA (dy (eQ (bA (aa 0) ah) oz E.z_isinstance E.z_list (by decide +kernel))))))) (aB (aW (dS jE))) bp) (aB (aW (dS (AX (rM (kC (av (be ki (ad (ar (bA (aa 0) ah)) ak)))) (rL (kC (av (be ki (ad (ar (bA (aa 0) ah)) ak))))))))))))
abbrev gF:Stmt:=fL 26
abbrev wr:List Str:=["paper"]
theorem FP:FnScope wr ["paper"] (af gF):=⟨rfl,rfl,rfl,by decide +kernel,rfl,by decide +kernel,by decide +kernel⟩
def wt (dF:bD)(sn:bD):cj:=(bC (bR (jj (cZ (ji (bV (kF ["tuple"] (ab 0))))) (aL qv (au (cW dC (aX (ab 0) cC))) (aC (.int 2)))) (dj [] (oX (aC (.bl false)))) eA) (bC (bR (jj (cZ (ji (au (fq dF (aA (ag [] (au (dB (aA (ag [] (cP (ab 0) (aC (.int 0)))) tN)))) tN))))) (cZ (ji (bV (kF ["list"] (cP (ab 0) (aC (.int 1)))))))) (dj [] (oX (aC (.bl false)))) eA) (dj [] (cW vK (aX (au (cg [] [none] (bM (ag [] (cP (ab 0) (aC (.int 1))))) (cR 0) bJ (ag [] (au (fq sn (aA (ag [] (ab 0)) tN)))))) cC)))))
theorem MC (E:Gl G){dF:bD}(ki:FnG G k "are_whole" dF){sn:bD}(FQ:FnG G k "is_cell_with_places" sn):ESs G k ⟨wr,(af gF).names,[],false,false,false,λ_ _=>False⟩ (ao gF) (wt dF sn):=(aq (bW (rK (kB (dA (dy (eQ (aa 0) iB E.z_isinstance E.z_tuple (by decide +kernel)))) (fW (aJ ii (av (ce cQ E.z_len (az (aa 0) aR) (by decide +kernel))) ah)))) (aB (aW (dS jE))) bp) (aq (bW (rK (kB (dA (dy (av (be ki (ad (ar (av (bf (ad (ar (bA (aa 0) ah)) ak)))) ak))))) (fW (dA (dy (eQ (bA (aa 0) ah) oz E.z_isinstance E.z_list (by decide +kernel))))))) (aB (aW (dS jE))) bp) (aB (aW (ce CJ E.z_all (az (av (cD (N':=["entry"]) (cK (ar (bA (aa 0) ah))) ⟨rfl,by decide +kernel,by decide +kernel,by decide +kernel,by decide +kernel,rfl,by decide +kernel⟩ (aK 0) cy (ar (av (be FQ (ad (ar (aa 0)) ak)))))) aR) (by decide +kernel))))))
abbrev gG:Stmt:=fL 27
abbrev wu:List Str:=["points","way","bound","paper"]
theorem FR:FnScope wu ["points","way","bound","paper"] (af gG):=⟨rfl,rfl,rfl,by decide +kernel,rfl,by decide +kernel,by decide +kernel⟩
def wv (gB:bD)(sr:bD)(mY:bD)(ss:bD)(su:bD)(sv:bD):cj:=(bC (rN (fq gB (aA (ag [] (ab 0)) (aA (ag [] (ab 1)) tN)))) (bC (rN (fq sr (aA (ag [] (ab 2)) tN))) (bC (bR (jj (cZ (ji (au (fq mY (aA (ag [] (ab 3)) tN))))) (cZ (ji (au (fq ss (aA (ag [] (ab 1)) (aA (ag [] (cP (ab 3) (aC (.int 0)))) (aA (ag [] (ab 2)) tN)))))))) (dj [] (oX (aC (.bl false)))) eA) (bC (bR (aL qv (cP (ab 3) (aC (.int 1))) (au (fq su (aA (ag [] (ab 0)) (aA (ag [] (cP (ab 3) (aC (.int 0)))) tN))))) (dj [] (oX (aC (.bl false)))) eA) (dj [] (oX (bV (cZ (er (au (fq sv (aA (ag [] (ab 0)) (aA (ag [] (ab 1)) (aA (ag [] (ab 2)) tN))))))))))))))
theorem MD (E:Gl G){gB:bD}(tZ:FnG G k "need_points_and_way" gB){sr:bD}(FS:FnG G k "need_bound_from_one" sr){mY:bD}(ww:FnG G k "has_form" mY){ss:bD}(FT:FnG G k "side_is_enough" ss){su:bD}(FU:FnG G k "cells_by_side" su){sv:bD}(FV:FnG G k "some_are_nearer" sv):ESs G k ⟨wu,(af gG).names,[],false,false,false,λ_ _=>False⟩ (ao gG) (wv gB sr mY ss su sv):=(aq (da (be tZ (ad (ar (aa 0)) (ad (ar (aa 1)) ak)))) (aq (da (be FS (ad (ar (aa 2)) ak))) (aq (bW (rK (kB (dA (dy (av (be ww (ad (ar (aa 3)) ak))))) (fW (dA (dy (av (be FT (ad (ar (aa 1)) (ad (ar (bA (aa 3) ah)) (ad (ar (aa 2)) ak)))))))))) (aB (aW (dS jE))) bp) (aq (bW (aJ ii (bA (aa 3) ah) (av (be FU (ad (ar (aa 0)) (ad (ar (bA (aa 3) ah)) ak))))) (aB (aW (dS jE))) bp) (aB (aW (dS (CC (kC (av (be FV (ad (ar (aa 0)) (ad (ar (aa 1)) (ad (ar (aa 2)) ak))))))))))))))
abbrev gH:Stmt:=fL 30
abbrev wx:List Str:=["cell"]
theorem FW:FnScope wx ["cell"] (af gH):=⟨rfl,rfl,rfl,by decide +kernel,rfl,by decide +kernel,by decide +kernel⟩
def wy:cj:=(dj [] (dB (aA (ag [] (au (cW tH (aX (ab 0) cC)))) (aA (ag [] (au (ay lR (au (ay ig (au (ay bg (au (ay lR (ab 0) (aC (.int 2147483647)))) (aC (.int 1)))) (aC (.int 742938285)))) (aC (.int 2147483647))))) tN))))
theorem ME (E:Gl G):ESs G k ⟨wx,(af gH).names,[],false,false,false,λ_ _=>False⟩ (ao gH) (wy):=(aB (aW (bf (ad (ar (av (ce uL E.z_abs (az (aa 0) aR) (by decide +kernel)))) (ad (ar (av (jG (av (fQ (av (aM (av (jG (aa 0) ah)) ah)) ah)) ah))) ak)))))
abbrev gI:Stmt:=fL 31
abbrev wz:List Str:=["reel","many","found","stir"]
theorem FX:FnScope wz ["reel","many"] (af gI):=⟨rfl,rfl,rfl,by decide +kernel,rfl,by decide +kernel,by decide +kernel⟩
def wA:cj:=(bC (bR (aL Lq (cP (ab 0) (aC (.int 0))) (au (ay jF (aC (.int 10)) (aC (.int 18))))) (bC (cu [0] 2 (ay lR (cP (ab 0) (aC (.int 0))) (ab 1))) (bC (oZ 0 (aC (.int 0)) (ag [0] (au (ay gp (cP (ab 0) (aC (.int 0))) (ab 1))))) (dj [0] (oX (ab 2))))) eA) (bC (oZ 0 (aC (.int 1)) (ag [0] (au (ay lR (au (ay bg (au (ay ig (cP (ab 0) (aC (.int 1))) (aC (.int 48271)))) (aC (.int 11)))) (aC (.int 2147483647)))))) (bC (cu [0] 3 (ay lR (au (ay ig (cP (ab 0) (aC (.int 1))) (cP (ab 0) (aC (.int 1))))) (aC (.int 2147483629)))) (dj [0] (ay lR (au (ay gp (au (ay lR (au (ay ig (ab 3) (aC (.int 69621)))) (aC (.int 2147483587)))) (aC (.int 8)))) (ab 1))))))
theorem MF (E:Gl G):ESs G k ⟨wz,(af gI).names,[0],false,false,false,λ_ _=>False⟩ (ao gI) (wA):=(aq (bW (aJ AW (bA (aa 0) ah) (av (fP ah ah))) (aq (aY 2 (jG (bA (aa 0) ah) (aa 1))) (aq (qE 0 (ar (av (dY (bA (aa 0) ah) (aa 1)))) ah (aa 0)) (aB (aW (dS (aa 2)))))) bp) (aq (qE 0 (ar (av (jG (av (aM (av (fQ (bA (aa 0) ah) ah)) ah)) ah))) ah (aa 0)) (aq (aY 3 (jG (av (fQ (bA (aa 0) ah) (bA (aa 0) ah))) ah)) (aB (aW (jG (av (dY (av (jG (av (fQ (aa 3) ah)) ah)) ah)) (aa 1)))))))
abbrev gJ:Stmt:=fL 32
abbrev wB:List Str:=["reel","most","count","many","wide","kind","found","k","point","base"]
theorem FY:FnScope wB ["reel","most"] (af gJ):=⟨rfl,rfl,rfl,by decide +kernel,rfl,by decide +kernel,by decide +kernel⟩
def wC (aH:je):cj:=(bC (cu [0] 2 (ay bg (aC (.int 1)) (au (bX aH 0 (aA (ag [0] (aC (.int 3))) tN))))) (bC (cu [0] 3 (oX (cP (au (dB (aA (ag [0] (au (bX aH 0 (aA (ag [0] (au (ay bg (ab 1) (aC (.int 1))))) tN)))) (aA (ag [0] (ab 1)) (aA (ag [0] (au (bX aH 0 (aA (ag [0] (au (ay bg (au (cW kZ (aX (ab 1) (aX (aC (.int 4)) cC)))) (aC (.int 1))))) tN)))) tN))))) (au (bX aH 0 (aA (ag [0] (aC (.int 3))) tN)))))) (bC (cu [0] 4 (oX (cP (au (dB (aA (ag [0] (aC (.int 3))) (aA (ag [0] (aC (.int 9))) (aA (ag [0] (aC (.int 41))) (aA (ag [0] (aC (.int 1001))) (aA (ag [0] (au (ay ie (au (ay ig (aC (.int 2)) (au (ay jF (aC (.int 10)) (aC (.int 15)))))) (aC (.int 1))))) tN))))))) (au (bX aH 0 (aA (ag [0] (aC (.int 5))) tN)))))) (bC (cu [0] 5 (bX aH 0 (aA (ag [0] (aC (.int 5))) tN))) (bC (cu [0] 6 (dB tN)) (bC (cL (oj (aX (ab 3) cC)) (cR 7) (bC (cu [0] 8 (du [0] [none,some 0,some 4] 0 1 (oj (aX (ab 2) cC)) (cR 0) bJ (ag [1] (au (ay ie (au (bX aH 1 (aA (ag [1] (ab 2)) tN))) (au (ay gp (ab 2) (aC (.int 2))))))))) (bC (bR (aL hJ (ab 5) (aC (.int 1))) (oZ 8 (aC (.int 0)) (ag [0] (au (ay ie (aC (.int 0)) (au (ay gp (ab 4) (aC (.int 2)))))))) eA) (bC (bR (dn (aL hJ (ab 5) (aC (.int 2))) (dn (aL qv (ab 6) (au (dB tN))) (aL Pk (au (bX aH 0 (aA (ag [0] (aC (.int 3))) tN))) (aC (.int 0))))) (bC (cu [0] 9 (oX (cP (ab 6) (au (bX aH 0 (aA (ag [0] (au (cW dC (aX (ab 6) cC)))) tN)))))) (cu [0] 8 (du [0] [none,some 0] 0 1 (bM (ag [0] (ab 9))) (cR 0) bJ (ag [1] (au (cW jK (aX (au (ay ie (aC (.int 1)) (au (ay jF (aC (.int 10)) (aC (.int 15)))))) (aX (au (cW kZ (aX (au (ay ie (au (ay jF (aC (.int 10)) (aC (.int 15)))) (aC (.int 1)))) (aX (au (ay ie (au (ay bg (ab 0) (au (bX aH 1 (aA (ag [1] (aC (.int 3))) tN))))) (aC (.int 1)))) cC)))) cC)))))))) eA) (bC (bR (dn (aL hJ (ab 5) (aC (.int 3))) (dn (aL qv (ab 6) (au (dB tN))) (aL hJ (au (bX aH 0 (aA (ag [0] (aC (.int 4))) tN))) (aC (.int 0))))) (cu [0] 8 (cW lb (aX (cP (ab 6) (au (bX aH 0 (aA (ag [0] (au (cW dC (aX (ab 6) cC)))) tN)))) cC))) eA) (rN (tJ (ab 6) (ag [0] (au (cW ip (aX (ab 8) cC))))))))))) (dj [0] (oX (ab 6)))))))))
theorem MG (E:Gl G){aH:je}(bj:FnIo G k "_law_take" aH):ESs G k ⟨wB,(af gJ).names,[0],false,false,false,λ_ _=>False⟩ (ao gJ) (wC aH):=(aq (aY 2 (aM ah (av (aD bj (aa 0) (ad (ar ah) ak))))) (aq (aY 3 (dS (bA (av (bf (ad (ar (av (aD bj (aa 0) (ad (ar (av (aM (aa 1) ah))) ak)))) (ad (ar (aa 1)) (ad (ar (av (aD bj (aa 0) (ad (ar (av (aM (av (ce qx E.z_min (az (aa 1) (az ah aR)) (by decide +kernel))) ah))) ak)))) ak))))) (av (aD bj (aa 0) (ad (ar ah) ak)))))) (aq (aY 4 (dS (bA (av (bf (ad (ar ah) (ad (ar ah) (ad (ar ah) (ad (ar ah) (ad (ar (av (eM (av (fQ ah (av (fP ah ah)))) ah))) ak))))))) (av (aD bj (aa 0) (ad (ar ah) ak)))))) (aq (aY 5 (aD bj (aa 0) (ad (ar ah) ak))) (aq (aY 6 (bf ak)) (aq (eN (jN (az (aa 3) aR) E.z_range) (aK 7) (aq (pc 8 0 1 (N':=["at","reel","wide"]) (jN (az (aa 2) aR) E.z_range) ⟨rfl,by decide +kernel,by decide +kernel,by decide +kernel,by decide +kernel,rfl,by decide +kernel⟩ (aK 0) cy (ar (av (eM (av (aD bj (aa 1) (ad (ar (aa 2)) ak))) (av (dY (aa 2) ah)))))) (aq (bW (aJ cJ (aa 5) ah) (aB (qE 8 (ar (av (eM ah (av (dY (aa 4) ah))))) ah (aa 8))) bp) (aq (bW (rK (jJ (aJ cJ (aa 5) ah) (jJ (aJ ii (aa 6) (av (bf ak))) (jI (aJ LZ (av (aD bj (aa 0) (ad (ar ah) ak))) ah))))) (aq (aY 9 (dS (bA (aa 6) (av (aD bj (aa 0) (ad (ar (av (ce cQ E.z_len (az (aa 6) aR) (by decide +kernel)))) ak)))))) (aB (pc 8 0 1 (N':=["number","reel"]) (cK (ar (aa 9))) ⟨rfl,by decide +kernel,by decide +kernel,by decide +kernel,by decide +kernel,rfl,by decide +kernel⟩ (aK 0) cy (ar (av (ce lV E.z_max (az (av (eM ah (av (fP ah ah)))) (az (av (ce qx E.z_min (az (av (eM (av (fP ah ah)) ah)) (az (av (eM (av (aM (aa 0) (av (aD bj (aa 1) (ad (ar ah) ak))))) ah)) aR)) (by decide +kernel))) aR)) (by decide +kernel))))))) bp) (aq (bW (rK (jJ (aJ cJ (aa 5) ah) (jJ (aJ ii (aa 6) (av (bf ak))) (jI (aJ cJ (av (aD bj (aa 0) (ad (ar ah) ak))) ah))))) (aB (aY 8 (oh qy E.z_list (az (bA (aa 6) (av (aD bj (aa 0) (ad (ar (av (ce cQ E.z_len (az (aa 6) aR) (by decide +kernel)))) ak)))) aR) (by decide +kernel)))) bp) (aB (da (jL (aa 6) (ar (av (oh lW E.z_tuple (az (aa 8) aR) (by decide +kernel)))))))))))) (aB (aW (dS (aa 6))))))))))
abbrev gK:Stmt:=fL 33
abbrev wD:List Str:=["way","one","other","apart"]
theorem FZ:FnScope wD ["way","one","other"] (af gK):=⟨rfl,rfl,rfl,by decide +kernel,rfl,by decide +kernel,by decide +kernel⟩
def CM:cj:=(bC (cu [] 3 (cg [] [none,none] (Bm (aA (ag [] (ab 1)) (aA (ag [] (ab 2)) tN))) (tM 2 (gC (cR 0) (gC (cR 1) tK))) bJ (ag [] (au (cW tH (aX (au (ay ie (ab 0) (ab 1))) cC)))))) (bC (bR (aL hJ (ab 0) (aC (.str "streets"))) (dj [] (cW qB (aX (ab 3) cC))) eA) (dj [] (cW qB (aX (au (cg [] [none] (bM (ag [] (ab 3))) (cR 0) bJ (ag [] (au (ay ig (ab 0) (ab 0)))))) cC)))))
theorem MH (E:Gl G):ESs G k ⟨wD,(af gK).names,[],false,false,false,λ_ _=>False⟩ (ao gK) (CM):=(aq (qz 3 (N':=["a","b"]) (CG (ad (ar (aa 1)) (ad (ar (aa 2)) ak)) E.z_zip) ⟨rfl,by decide +kernel,by decide +kernel,by decide +kernel,by decide +kernel,rfl,by decide +kernel⟩ (fx (bu (aK 0) (bu (aK 1) dD))) cy (ar (av (ce uL E.z_abs (az (av (eM (aa 0) (aa 1))) aR) (by decide +kernel))))) (aq (bW (aJ cJ (aa 0) nY) (aB (aW (ce rW E.z_sum (az (aa 3) aR) (by decide +kernel)))) bp) (aB (aW (ce rW E.z_sum (az (av (cD (N':=["number"]) (cK (ar (aa 3))) ⟨rfl,by decide +kernel,by decide +kernel,by decide +kernel,by decide +kernel,rfl,by decide +kernel⟩ (aK 0) cy (ar (av (fQ (aa 0) (aa 0)))))) aR) (by decide +kernel))))))
abbrev gL:Stmt:=fL 34
abbrev wE:List Str:=["points","way","found","j","other"]
theorem Ga:FnScope wE ["points","way"] (af gL):=⟨rfl,rfl,rfl,by decide +kernel,rfl,by decide +kernel,by decide +kernel⟩
def wF (mZ:bD):cj:=(bC (cu [] 2 (dB tN)) (bC (cL (iD (aA (ag [] (ab 0)) tN)) (tM 2 (gC (cR 3) (gC (cR 4) tK))) (rN (EU (ab 2) (cg [] [none,some 3,some 1,some 4,some 0] (oj (aX (ab 3) cC)) (cR 0) bJ (ag [] (eE (aA (ag [] (au (fq mZ (aA (ag [] (ab 2)) (aA (ag [] (cP (ab 4) (ab 0))) (aA (ag [] (ab 3)) tN)))))) (aA (ag [] (ab 0)) (aA (ag [] (ab 1)) tN))))))))) (dj [] (cW jt (aX (ab 2) cC)))))
theorem MI (E:Gl G){mZ:bD}(wG:FnG G k "_law_far" mZ):ESs G k ⟨wE,(af gL).names,[],false,false,false,λ_ _=>False⟩ (ao gL) (wF mZ):=(aq (aY 2 (bf ak)) (aq (eN (jo (ad (ar (aa 0)) ak) E.z_enumerate) (fx (bu (aK 3) (bu (aK 4) dD))) (aB (da (vC (aa 2) (cD (N':=["i","j","way","other","points"]) (jN (az (aa 3) aR) E.z_range) ⟨rfl,by decide +kernel,by decide +kernel,by decide +kernel,by decide +kernel,rfl,by decide +kernel⟩ (aK 0) cy (ar (bq (ad (ar (av (be wG (ad (ar (aa 2)) (ad (ar (bA (aa 4) (aa 0))) (ad (ar (aa 3)) ak)))))) (ad (ar (aa 0)) (ad (ar (aa 1)) ak)))))))))) (aB (aW (ce vw E.z_sorted (az (aa 2) aR) (by decide +kernel))))))
abbrev nc:Stmt:=fL 35
abbrev Gb:List Str:=["reel","pairs","near","far","some"]
theorem MJ:FnScope Gb ["reel","pairs"] (af nc):=⟨rfl,rfl,rfl,by decide +kernel,rfl,by decide +kernel,by decide +kernel⟩
def Gc (aH:je):cj:=(bC (cu [0] 2 (oX (cP (au (ay bg (au (cg [0] [none] (bM (ag [0] (au (cw (ab 1) iV (fm (aC (.int 1))))))) (cR 0) bJ (ag [] (cP (ab 0) (aC (.int 0)))))) (au (dB (aA (ag [0] (aC (.int 9))) tN))))) (aC (.int 0))))) (bC (cu [0] 3 (oX (cP (cP (au (ay bg (au (dB (aA (ag [0] (eE (aA (ag [0] (aC (.int 9))) (aA (ag [0] (aC (.int 0))) (aA (ag [0] (aC (.int 1))) tN))))) tN))) (ab 1))) (au (bX aH 0 (aA (ag [0] (au (ay bg (au (cW dC (aX (ab 1) cC))) (aC (.int 1))))) tN)))) (aC (.int 0))))) (bC (cu [0] 4 (dB (aA (ag [0] (aC (.int 1))) (aA (ag [0] (aC (.int 2))) (aA (ag [0] (au (ay bg (aC (.int 1)) (au (bX aH 0 (aA (ag [0] (aC (.int 12))) tN)))))) (aA (ag [0] (ab 2)) (aA (ag [0] (au (ay bg (ab 2) (aC (.int 1))))) (aA (ag [0] (au (ay ie (ab 2) (aC (.int 1))))) (aA (ag [0] (au (ay gp (ab 2) (aC (.int 2))))) (aA (ag [0] (ab 3)) (aA (ag [0] (au (ay ig (aC (.int 9)) (au (ay jF (aC (.int 10)) (aC (.int 33))))))) tN))))))))))) (dj [0] (cg [0] [none] (bM (ag [0] (ab 4))) (cR 0) bJ (ag [] (au (cW jK (aX (aC (.int 1)) (aX (au (cW kZ (aX (au (ay ie (au (ay jF (aC (.int 10)) (aC (.int 34)))) (aC (.int 1)))) (aX (ab 0) cC)))) cC))))))))))
theorem QN (E:Gl G){aH:je}(bj:FnIo G k "_law_take" aH):ESs G k ⟨Gb,(af nc).names,[0],false,false,false,λ_ _=>False⟩ (ao nc) (Gc aH):=(aq (aY 2 (dS (bA (av (aM (av (cD (N':=["pair"]) (cK (ar (av (bK (aa 1) bv (aZ ah))))) ⟨rfl,by decide +kernel,by decide +kernel,by decide +kernel,by decide +kernel,rfl,by decide +kernel⟩ (aK 0) cy (ar (bA (aa 0) ah)))) (av (bf (ad (ar ah) ak))))) ah))) (aq (aY 3 (dS (bA (bA (av (aM (av (bf (ad (ar (bq (ad (ar ah) (ad (ar ah) (ad (ar ah) ak))))) ak))) (aa 1))) (av (aD bj (aa 0) (ad (ar (av (aM (av (ce cQ E.z_len (az (aa 1) aR) (by decide +kernel))) ah))) ak)))) ah))) (aq (aY 4 (bf (ad (ar ah) (ad (ar ah) (ad (ar (av (aM ah (av (aD bj (aa 0) (ad (ar ah) ak)))))) (ad (ar (aa 2)) (ad (ar (av (aM (aa 2) ah))) (ad (ar (av (eM (aa 2) ah))) (ad (ar (av (dY (aa 2) ah))) (ad (ar (aa 3)) (ad (ar (av (fQ ah (av (fP ah ah))))) ak))))))))))) (aB (aW (cD (N':=["bound"]) (cK (ar (aa 4))) ⟨rfl,by decide +kernel,by decide +kernel,by decide +kernel,by decide +kernel,rfl,by decide +kernel⟩ (aK 0) cy (ar (av (ce lV E.z_max (az ah (az (av (ce qx E.z_min (az (av (eM (av (fP ah ah)) ah)) (az (aa 0) aR)) (by decide +kernel))) aR)) (by decide +kernel))))))))))
abbrev gM:Stmt:=fL 36
abbrev wH:List Str:=["points","side","found","place","point","cell"]
theorem Gd:FnScope wH ["points","side"] (af gM):=⟨rfl,rfl,rfl,by decide +kernel,rfl,by decide +kernel,by decide +kernel⟩
def wI:cj:=(bC (cu [] 2 Fc) (bC (cL (iD (aA (ag [] (ab 0)) tN)) (tM 2 (gC (cR 3) (gC (cR 4) tK))) (bC (cu [] 5 (cW ip (aX (au (cg [] [none,some 1] (bM (ag [] (ab 4))) (cR 0) bJ (ag [] (au (ay gp (ab 0) (ab 1)))))) cC))) (Fd 2 (ag [] (ab 5)) (ag [] (au (ay bg (au (Fl 2 (ag [] (ab 5)) (ag [] (au (dB tN))))) (au (dB (aA (ag [] (ab 3)) tN))))))))) (dj [] (cg [] [none,some 2] (bM (ag [] (au (mG (aA (Qx 2) tN))))) (cR 0) bJ (ag [] (eE (aA (ag [] (ab 0)) (aA (ag [] (Ca (ab 1) (ab 0))) tN))))))))
theorem MK (E:Gl G):ESs G k ⟨wH,(af gM).names,[],false,false,false,λ_ _=>False⟩ (ao gM) (wI):=(aq (aY 2 BT) (aq (eN (jo (ad (ar (aa 0)) ak) E.z_enumerate) (fx (bu (aK 3) (bu (aK 4) dD))) (aq (aY 5 (oh lW E.z_tuple (az (av (cD (N':=["number","side"]) (cK (ar (aa 4))) ⟨rfl,by decide +kernel,by decide +kernel,by decide +kernel,by decide +kernel,rfl,by decide +kernel⟩ (aK 0) cy (ar (av (dY (aa 0) (aa 1)))))) aR) (by decide +kernel))) (aB (BU 2 (ar (av (aM (av (Ce 2 (ar (aa 5)) (ar (av (bf ak))))) (av (bf (ad (ar (aa 3)) ak)))))) (ar (aa 5)) (Qw 2))))) (aB (aW (cD (N':=["cell","found"]) (cK (ar (av (sf (ad (Qy 2) ak) E.z_sorted)))) ⟨rfl,by decide +kernel,by decide +kernel,by decide +kernel,by decide +kernel,rfl,by decide +kernel⟩ (aK 0) cy (ar (bq (ad (ar (aa 0)) (ad (ar (CK (aa 1) (aa 0))) ak)))))))))
abbrev gN:Stmt:=fL 37
abbrev wJ:List Str:=["way","bound","side"]
theorem Ge:FnScope wJ ["way","bound","side"] (af gN):=⟨rfl,rfl,rfl,by decide +kernel,rfl,by decide +kernel,by decide +kernel⟩
def wK:cj:=(dj [] (oX (bV (aL Lq (cP (au (dB (aA (ag [] (ab 2)) (aA (ag [] (au (ay vQ (ab 2) (ab 2)))) tN)))) (au (cW uM (aX (bV (aL hJ (ab 0) (aC (.str "squares")))) cC)))) (ab 1)))))
theorem ML (E:Gl G):ESs G k ⟨wJ,(af gN).names,[],false,false,false,λ_ _=>False⟩ (ao gN) (wK):=(aB (aW (dS (fU AW (bA (av (bf (ad (ar (aa 2)) (ad (ar (av (qL (aa 2) (aa 2)))) ak)))) (av (oh CD E.z_int (az (fU cJ (aa 0) nY) aR) (by decide +kernel)))) (aa 1)))))
abbrev ng:Stmt:=fL 38
abbrev Gf:List Str:=["way","bound","side","step"]
theorem MM:FnScope Gf ["way","bound"] (af ng):=⟨rfl,rfl,rfl,by decide +kernel,rfl,by decide +kernel,by decide +kernel⟩
def Gg:cj:=(bC (bR (aL hJ (ab 0) (aC (.str "streets"))) (dj [] (oX (ab 1))) eA) (bC (cu [] 2 (oX (aC (.int 0)))) (bC (cL (Fj (aX (aC (.int 60)) (aX (fR (aC (.int 1))) (aX (fR (aC (.int 1))) cC)))) (cR 3) (bR (aL uI (au (ay vQ (au (ay bg (ab 2) (au (ay uG (aC (.int 1)) (ab 3))))) (au (ay bg (ab 2) (au (ay uG (aC (.int 1)) (ab 3))))))) (ab 1)) (cu [] 2 (ay bg (ab 2) (au (ay uG (aC (.int 1)) (ab 3))))) eA)) (dj [] (ay bg (ab 2) (aC (.int 1)))))))
theorem QO (E:Gl G):ESs G k ⟨Gf,(af ng).names,[],false,false,false,λ_ _=>False⟩ (ao ng) (Gg):=(aq (bW (aJ cJ (aa 0) nY) (aB (aW (dS (aa 1)))) bp) (aq (aY 2 (dS ah)) (aq (eN (Fk (az ah (az (ei ah) (az (ei ah) aR))) E.z_range) (aK 3) (aB (bW (aJ qw (av (qL (av (aM (aa 2) (av (uH ah (aa 3))))) (av (aM (aa 2) (av (uH ah (aa 3))))))) (aa 1)) (aB (aY 2 (aM (aa 2) (av (uH ah (aa 3)))))) bp))) (aB (aW (aM (aa 2) ah))))))
abbrev gO:Stmt:=fL 39
abbrev wL:List Str:=["points","way","bound","paper","side","cells"]
theorem Gh:FnScope wL ["points","way","bound","paper"] (af gO):=⟨rfl,rfl,rfl,by decide +kernel,rfl,by decide +kernel,by decide +kernel⟩
def wM (nh:bD)(dZ:bD)(ee:bD):cj:=(bC (vE (ag [] (ab 3)) (tM 2 (gC (cR 4) (gC (cR 5) tK)))) (bC (bR (jj (aL uI (ab 4) (aC (.int 1))) (jj (cZ (ji (au (fq nh (aA (ag [] (ab 1)) (aA (ag [] (ab 2)) (aA (ag [] (ab 4)) tN))))))) (aL qv (ab 5) (au (fq dZ (aA (ag [] (ab 0)) (aA (ag [] (ab 4)) tN))))))) (dj [] (oX (aC (.bl false)))) eA) (dj [] (oX (bV (aL hJ (au (cg [] [none,some 2] (bM (ag [] (au (fq ee (aA (ag [] (ab 0)) (aA (ag [] (ab 1)) tN)))))) (cR 0) (aL uI (cP (ab 0) (aC (.int 0))) (ab 1)) (ag [] (aC (.int 1))))) (au (dB tN))))))))
theorem MN (E:Gl G){nh:bD}(wN:FnG G k "_law_is_wide" nh){dZ:bD}(lq:FnG G k "_law_cells" dZ){ee:bD}(lr:FnG G k "_law_pairs" ee):ESs G k ⟨wL,(af gO).names,[],false,false,false,λ_ _=>False⟩ (ao gO) (wM nh dZ ee):=(aq (vF (ar (aa 3)) (fx (bu (aK 4) (bu (aK 5) dD)))) (aq (bW (rK (kB (aJ qw (aa 4) ah) (kB (dA (dy (av (be wN (ad (ar (aa 1)) (ad (ar (aa 2)) (ad (ar (aa 4)) ak))))))) (fW (aJ ii (aa 5) (av (be lq (ad (ar (aa 0)) (ad (ar (aa 4)) ak))))))))) (aB (aW (dS jE))) bp) (aB (aW (dS (fU cJ (av (cD (N':=["pair","bound"]) (cK (ar (av (be lr (ad (ar (aa 0)) (ad (ar (aa 1)) ak)))))) ⟨rfl,by decide +kernel,by decide +kernel,by decide +kernel,by decide +kernel,rfl,by decide +kernel⟩ (aK 0) (Mb (aJ qw (bA (aa 0) ah) (aa 1))) (ar ah))) (av (bf ak))))))))
abbrev gQ:Stmt:=fL 40
abbrev wO:List Str:=["reel","paper","many","side","cells","kind","far","at","cell","places","spot","odd","axis"]
theorem Gi:FnScope wO ["reel","paper","many"] (af gQ):=⟨rfl,rfl,rfl,by decide +kernel,rfl,by decide +kernel,by decide +kernel⟩
def wP (aH:je):cj:=(bC (vE (ag [0] (ab 1)) (tM 2 (gC (cR 3) (gC (cR 4) tK)))) (bC (cu [0] 5 (bX aH 0 (aA (ag [0] (aC (.int 12))) tN))) (bC (cu [0] 6 (ay ig (cP (au (dB (aA (ag [0] (aC (.int 1))) (aA (ag [0] (aC (.int 2))) (aA (ag [0] (au (ay bg (aC (.int 1)) (au (bX aH 0 (aA (ag [0] (au (ay jF (aC (.int 10)) (aC (.int 6))))) tN)))))) (aA (ag [0] (au (ay jF (aC (.int 10)) (aC (.int 29))))) tN)))))) (au (bX aH 0 (aA (ag [0] (aC (.int 4))) tN)))) (cP (au (dB (aA (ag [0] (aC (.int 1))) (aA (ag [0] (fR (aC (.int 1)))) tN)))) (au (bX aH 0 (aA (ag [0] (aC (.int 2))) tN)))))) (bC (bR (jj (aL hJ (ab 5) (aC (.int 0))) (aL hJ (ab 4) (au (dB tN)))) (dj [0] (oX (eE (aA (ag [0] (au (ay bg (ab 3) (ab 6)))) (aA (ag [0] (ab 4)) tN))))) eA) (bC (cu [0] 7 (bX aH 0 (aA (ag [0] (au (cW dC (aX (ab 4) cC)))) tN))) (bC (vE (ag [0] (cP (ab 4) (ab 7))) (tM 2 (gC (cR 8) (gC (cR 9) tK)))) (bC (cu [0] 10 (bX aH 0 (aA (ag [0] (au (cW jK (aX (aC (.int 1)) (aX (au (cW dC (aX (ab 9) cC))) cC))))) tN))) (bC (cu [0] 11 (oX (cP (au (dB (aA (ag [0] (au (bX aH 0 (aA (ag [0] (au (ay bg (ab 2) (aC (.int 1))))) tN)))) (aA (ag [0] (fR (aC (.int 1)))) (aA (ag [0] (ab 2)) tN))))) (au (bX aH 0 (aA (ag [0] (aC (.int 3))) tN)))))) (bC (bR (dn (aL hJ (ab 5) (aC (.int 1))) (aL qv (ab 8) (eE tN))) (bC (cu [0] 12 (bX aH 0 (aA (ag [0] (au (cW dC (aX (ab 8) cC)))) tN))) (cu [0] 8 (ay ph (au (ay ph (au (cw (ab 8) iV (fm (ab 12)))) (eE (aA (ag [0] (au (ay bg (cP (ab 8) (ab 12)) (ab 6)))) tN)))) (au (cw (ab 8) (fm (au (ay bg (ab 12) (aC (.int 1))))) iV))))) eA) (bC (bR (aL hJ (ab 5) (aC (.int 2))) (cu [0] 8 (oX (cP (au (dB (aA (ag [0] (au (cw (ab 8) iV (fm (fR (aC (.int 1))))))) (aA (ag [0] (au (ay ph (ab 8) (eE (aA (ag [0] (aC (.int 0))) tN))))) tN)))) (au (bX aH 0 (aA (ag [0] (aC (.int 2))) tN)))))) eA) (bC (bR (aL hJ (ab 5) (aC (.int 3))) (cu [0] 9 (ay bg (au (cw (ab 9) iV (fm (ab 10)))) (au (cw (ab 9) (fm (au (ay bg (ab 10) (aC (.int 1))))) iV)))) eA) (bC (bR (aL hJ (ab 5) (aC (.int 4))) (cu [0] 9 (ay bg (au (ay bg (au (cw (ab 9) iV (fm (ab 10)))) (au (dB (aA (ag [0] (ab 11)) tN))))) (au (cw (ab 9) (fm (ab 10)) iV)))) eA) (bC (bR (aL hJ (ab 5) (aC (.int 5))) (cu [0] 9 (ay bg (au (ay bg (au (cw (ab 9) iV (fm (ab 10)))) (au (dB (aA (ag [0] (ab 11)) tN))))) (au (cw (ab 9) (fm (au (ay bg (ab 10) (aC (.int 1))))) iV)))) eA) (bC (bR (aL hJ (ab 5) (aC (.int 6))) (cu [0] 9 (pi (ab 9) (fm (fR (aC (.int 1)))))) eA) (bC (bR (aL hJ (ab 5) (aC (.int 7))) (dj [0] (oX (eE (aA (ag [0] (ab 3)) (aA (ag [0] (au (ay bg (au (cw (ab 4) iV (fm (ab 7)))) (au (cw (ab 4) (fm (au (ay bg (ab 7) (aC (.int 1))))) iV))))) tN))))) eA) (bC (bR (aL hJ (ab 5) (aC (.int 9))) (dj [0] (oX (eE (aA (ag [0] (ab 3)) (aA (ag [0] (au (ay bg (au (ay bg (au (cw (ab 4) iV (fm (ab 7)))) (au (dB (aA (ag [0] (eE (aA (ag [0] (ab 8)) (aA (ag [0] (au (cw (ab 9) iV (fm (ab 10))))) tN)))) (aA (ag [0] (eE (aA (ag [0] (ab 8)) (aA (ag [0] (au (cw (ab 9) (fm (ab 10)) iV))) tN)))) tN)))))) (au (cw (ab 4) (fm (au (ay bg (ab 7) (aC (.int 1))))) iV))))) tN))))) eA) (bC (bR (dn (aL hJ (ab 5) (aC (.int 10))) (aL qv (ab 8) (eE tN))) (dj [0] (oX (eE (aA (ag [0] (ab 3)) (aA (ag [0] (au (cW mJ (aX (au (ay bg (ab 4) (au (dB (aA (ag [0] (eE (aA (ag [0] (au (ay ph (au (cw (ab 8) iV (fm (fR (aC (.int 1)))))) (eE (aA (ag [0] (au (ay bg (cP (ab 8) (fR (aC (.int 1)))) (ab 6)))) tN))))) (aA (ag [0] (au (dB tN))) tN)))) tN))))) cC)))) tN))))) eA) (bC (bR (aL hJ (ab 5) (aC (.int 11))) (cu [0] 9 (ay bg (au (ay bg (au (cw (ab 9) iV (fm (ab 10)))) (au (pi (au (cw (ab 9) (fm (ab 10)) (fm (au (ay bg (ab 10) (aC (.int 2))))))) (fm (fR (aC (.int 1)))))))) (au (cw (ab 9) (fm (au (ay bg (ab 10) (aC (.int 2))))) iV)))) eA) (bC (bR (aL hJ (ab 5) (aC (.int 8))) (dj [0] (oX (eE (aA (ag [0] (ab 3)) (aA (ag [0] (cP (au (dB (aA (ag [0] (au (ay bg (au (ay bg (au (cw (ab 4) iV (fm (ab 7)))) (au (cw (ab 4) (fm (ab 7)) (fm (au (ay bg (ab 7) (aC (.int 1))))))))) (au (cw (ab 4) (fm (ab 7)) iV))))) (aA (ag [0] (au (pi (ab 4) (fm (fR (aC (.int 1))))))) tN)))) (au (bX aH 0 (aA (ag [0] (aC (.int 2))) tN))))) tN))))) eA) (dj [0] (oX (eE (aA (ag [0] (ab 3)) (aA (ag [0] (au (ay bg (au (ay bg (au (cw (ab 4) iV (fm (ab 7)))) (au (dB (aA (ag [0] (eE (aA (ag [0] (ab 8)) (aA (ag [0] (ab 9)) tN)))) tN))))) (au (cw (ab 4) (fm (au (ay bg (ab 7) (aC (.int 1))))) iV))))) tN))))))))))))))))))))))))
theorem MO (E:Gl G){aH:je}(bj:FnIo G k "_law_take" aH):ESs G k ⟨wO,(af gQ).names,[0],false,false,false,λ_ _=>False⟩ (ao gQ) (wP aH):=(aq (vF (ar (aa 1)) (fx (bu (aK 3) (bu (aK 4) dD)))) (aq (aY 5 (aD bj (aa 0) (ad (ar ah) ak))) (aq (aY 6 (fQ (bA (av (bf (ad (ar ah) (ad (ar ah) (ad (ar (av (aM ah (av (aD bj (aa 0) (ad (ar (av (fP ah ah))) ak)))))) (ad (ar (av (fP ah ah))) ak)))))) (av (aD bj (aa 0) (ad (ar ah) ak)))) (bA (av (bf (ad (ar ah) (ad (ar (ei ah)) ak)))) (av (aD bj (aa 0) (ad (ar ah) ak)))))) (aq (bW (rK (kB (aJ cJ (aa 5) ah) (fW (aJ cJ (aa 4) (av (bf ak)))))) (aB (aW (dS (bq (ad (ar (av (aM (aa 3) (aa 6)))) (ad (ar (aa 4)) ak)))))) bp) (aq (aY 7 (aD bj (aa 0) (ad (ar (av (ce cQ E.z_len (az (aa 4) aR) (by decide +kernel)))) ak))) (aq (vF (ar (bA (aa 4) (aa 7))) (fx (bu (aK 8) (bu (aK 9) dD)))) (aq (aY 10 (aD bj (aa 0) (ad (ar (av (ce lV E.z_max (az ah (az (av (ce cQ E.z_len (az (aa 9) aR) (by decide +kernel))) aR)) (by decide +kernel)))) ak))) (aq (aY 11 (dS (bA (av (bf (ad (ar (av (aD bj (aa 0) (ad (ar (av (aM (aa 2) ah))) ak)))) (ad (ar (ei ah)) (ad (ar (aa 2)) ak))))) (av (aD bj (aa 0) (ad (ar ah) ak)))))) (aq (bW (rK (jJ (aJ cJ (aa 5) ah) (jI (aJ ii (aa 8) (bq ak))))) (aq (aY 12 (aD bj (aa 0) (ad (ar (av (ce cQ E.z_len (az (aa 8) aR) (by decide +kernel)))) ak))) (aB (aY 8 (mD (av (mD (av (bK (aa 8) bv (aZ (aa 12)))) (bq (ad (ar (av (aM (bA (aa 8) (aa 12)) (aa 6)))) ak)))) (av (bK (aa 8) (aZ (av (aM (aa 12) ah))) bv)))))) bp) (aq (bW (aJ cJ (aa 5) ah) (aB (aY 8 (dS (bA (av (bf (ad (ar (av (bK (aa 8) bv (aZ (ei ah))))) (ad (ar (av (mD (aa 8) (bq (ad (ar ah) ak))))) ak)))) (av (aD bj (aa 0) (ad (ar ah) ak))))))) bp) (aq (bW (aJ cJ (aa 5) ah) (aB (aY 9 (aM (av (bK (aa 9) bv (aZ (aa 10)))) (av (bK (aa 9) (aZ (av (aM (aa 10) ah))) bv))))) bp) (aq (bW (aJ cJ (aa 5) ah) (aB (aY 9 (aM (av (aM (av (bK (aa 9) bv (aZ (aa 10)))) (av (bf (ad (ar (aa 11)) ak))))) (av (bK (aa 9) (aZ (aa 10)) bv))))) bp) (aq (bW (aJ cJ (aa 5) ah) (aB (aY 9 (aM (av (aM (av (bK (aa 9) bv (aZ (aa 10)))) (av (bf (ad (ar (aa 11)) ak))))) (av (bK (aa 9) (aZ (av (aM (aa 10) ah))) bv))))) bp) (aq (bW (aJ cJ (aa 5) ah) (aB (aY 9 (qI (aa 9) (aZ (ei ah))))) bp) (aq (bW (aJ cJ (aa 5) ah) (aB (aW (dS (bq (ad (ar (aa 3)) (ad (ar (av (aM (av (bK (aa 4) bv (aZ (aa 7)))) (av (bK (aa 4) (aZ (av (aM (aa 7) ah))) bv))))) ak)))))) bp) (aq (bW (aJ cJ (aa 5) ah) (aB (aW (dS (bq (ad (ar (aa 3)) (ad (ar (av (aM (av (aM (av (bK (aa 4) bv (aZ (aa 7)))) (av (bf (ad (ar (bq (ad (ar (aa 8)) (ad (ar (av (bK (aa 9) bv (aZ (aa 10))))) ak)))) (ad (ar (bq (ad (ar (aa 8)) (ad (ar (av (bK (aa 9) (aZ (aa 10)) bv))) ak)))) ak)))))) (av (bK (aa 4) (aZ (av (aM (aa 7) ah))) bv))))) ak)))))) bp) (aq (bW (rK (jJ (aJ cJ (aa 5) ah) (jI (aJ ii (aa 8) (bq ak))))) (aB (aW (dS (bq (ad (ar (aa 3)) (ad (ar (av (ce Cj E.z_sorted (az (av (aM (aa 4) (av (bf (ad (ar (bq (ad (ar (av (mD (av (bK (aa 8) bv (aZ (ei ah)))) (bq (ad (ar (av (aM (bA (aa 8) (ei ah)) (aa 6)))) ak))))) (ad (ar (av (bf ak))) ak)))) ak))))) aR) (by decide +kernel)))) ak)))))) bp) (aq (bW (aJ cJ (aa 5) ah) (aB (aY 9 (aM (av (aM (av (bK (aa 9) bv (aZ (aa 10)))) (av (qI (av (bK (aa 9) (aZ (aa 10)) (aZ (av (aM (aa 10) ah))))) (aZ (ei ah)))))) (av (bK (aa 9) (aZ (av (aM (aa 10) ah))) bv))))) bp) (aq (bW (aJ cJ (aa 5) ah) (aB (aW (dS (bq (ad (ar (aa 3)) (ad (ar (bA (av (bf (ad (ar (av (aM (av (aM (av (bK (aa 4) bv (aZ (aa 7)))) (av (bK (aa 4) (aZ (aa 7)) (aZ (av (aM (aa 7) ah))))))) (av (bK (aa 4) (aZ (aa 7)) bv))))) (ad (ar (av (qI (aa 4) (aZ (ei ah))))) ak)))) (av (aD bj (aa 0) (ad (ar ah) ak))))) ak)))))) bp) (aB (aW (dS (bq (ad (ar (aa 3)) (ad (ar (av (aM (av (aM (av (bK (aa 4) bv (aZ (aa 7)))) (av (bf (ad (ar (bq (ad (ar (aa 8)) (ad (ar (aa 9)) ak)))) ak))))) (av (bK (aa 4) (aZ (av (aM (aa 7) ah))) bv))))) ak)))))))))))))))))))))))))
abbrev gR:Stmt:=fL 41
abbrev wQ:List Str:=["points","paper"]
theorem Gj:FnScope wQ ["points","paper"] (af gR):=⟨rfl,rfl,rfl,by decide +kernel,rfl,by decide +kernel,by decide +kernel⟩
def wR:cj:=(dj [] (oX (eE (aA (ag [] (au (cW lb (aX (ab 0) cC)))) (aA (ag [] (eE (aA (ag [] (cP (ab 1) (aC (.int 0)))) (aA (ag [] (au (cg [] [none,none] (bM (ag [] (cP (ab 1) (aC (.int 1))))) (tM 2 (gC (cR 0) (gC (cR 1) tK))) bJ (ag [] (eE (aA (ag [] (ab 0)) (aA (ag [] (au (cW lb (aX (ab 1) cC)))) tN))))))) tN)))) tN)))))
theorem MP (E:Gl G):ESs G k ⟨wQ,(af gR).names,[],false,false,false,λ_ _=>False⟩ (ao gR) (wR):=(aB (aW (dS (bq (ad (ar (av (oh qy E.z_list (az (aa 0) aR) (by decide +kernel)))) (ad (ar (bq (ad (ar (bA (aa 1) ah)) (ad (ar (av (cD (N':=["cell","places"]) (cK (ar (bA (aa 1) ah))) ⟨rfl,by decide +kernel,by decide +kernel,by decide +kernel,by decide +kernel,rfl,by decide +kernel⟩ (fx (bu (aK 0) (bu (aK 1) dD))) cy (ar (bq (ad (ar (aa 0)) (ad (ar (av (oh qy E.z_list (az (aa 1) aR) (by decide +kernel)))) ak))))))) ak)))) ak))))))
abbrev eC:Stmt:=fL 42
abbrev wS:List Str:=["script","k","cell","reel","points","way","bound","least","sides","papers","paper","handed","found"]
theorem Gk:FnScope wS ["script"] (af eC):=⟨rfl,rfl,rfl,by decide +kernel,rfl,by decide +kernel,by decide +kernel⟩
def wT (nj:bD)(nk:je)(aH:je)(sx:je)(ee:bD)(sy:bD)(dZ:bD)(kj:je)(nl:bD)(nq:bD)(nr:bD):cj:=(bC (cL (iD (aA (ag [] (au (ay bg (au (cw (ab 0) iV (fm (aC (.int 2))))) (au (dB (aA (ag [] (au (cW dC (aX (ab 0) cC)))) tN)))))) tN)) (tM 2 (gC (cR 1) (gC (cR 2) tK))) (bC (cu [] 3 (fq nj (aA (ag [] (ab 2)) tN))) (bC (cu [] 4 (bX nk 3 (aA (ag [] (cP (au (dB (aA (ag [] (aC (.int 12))) (aA (ag [] (aC (.int 60))) tN)))) (au (cW uM (aX (bV (dn (er (bV (aL hJ (ab 1) (aC (.int 0))))) (er (bV (aL hJ (au (bX aH 3 (aA (ag [] (aC (.int 8))) tN))) (aC (.int 0))))))) cC))))) tN))) (bC (cu [] 5 (oX (cP (au (dB (aA (ag [] (aC (.str "streets"))) (aA (ag [] (aC (.str "squares"))) tN)))) (au (bX aH 3 (aA (ag [] (aC (.int 2))) tN)))))) (cL (bM (ag [] (au (bX sx 3 (aA (ag [] (au (fq ee (aA (ag [] (ab 4)) (aA (ag [] (ab 5)) tN))))) tN))))) (cR 6) (bC (cu [] 7 (fq sy (aA (ag [] (ab 5)) (aA (ag [] (ab 6)) tN)))) (bC (cu [] 8 (dB (aA (ag [] (ab 7)) (aA (ag [] (au (ay bg (au (ay bg (ab 7) (aC (.int 1)))) (au (bX aH 3 (aA (ag [] (au (ay jF (aC (.int 10)) (aC (.int 6))))) tN)))))) (aA (ag [] (au (cW jK (aX (aC (.int 1)) (aX (au (ay ie (ab 7) (aC (.int 1)))) cC))))) (aA (ag [] (au (ay bg (aC (.int 1)) (au (bX aH 3 (aA (ag [] (aC (.int 9))) tN)))))) tN)))))) (bC (cu [] 9 (cg [] [none,some 4] (bM (ag [] (ab 8))) (cR 0) bJ (ag [] (eE (aA (ag [] (ab 0)) (aA (ag [] (au (fq dZ (aA (ag [] (ab 1)) (aA (ag [] (ab 0)) tN))))) tN)))))) (bC (cu [] 9 (ay bg (ab 9) (au (du [] [none,some 3,some 9,some 4] 3 1 (oj (aX (aC (.int 4)) cC)) (cR 0) bJ (ag [1] (au (bX kj 1 (aA (ag [1] (cP (ab 2) (au (bX aH 1 (aA (ag [1] (aC (.int 2))) tN))))) (aA (ag [1] (au (cW dC (aX (ab 3) cC)))) tN))))))))) (bC (rN (tJ (ab 9) (ag [] (au (bX kj 3 (aA (ag [] (cP (ab 9) (fR (aC (.int 1))))) (aA (ag [] (au (cW dC (aX (ab 4) cC)))) tN))))))) (bC (bR (aL hJ (ab 4) (au (dB tN))) (cu [] 9 (ay bg (ab 9) (au (dB (aA (ag [] (eE (aA (ag [] (ab 7)) (aA (ag [] (au (dB (aA (ag [] (eE (aA (ag [] (eE (aA (ag [] (aC (.int 0))) tN))) (aA (ag [] (au (dB tN))) tN)))) tN)))) tN)))) (aA (ag [] (eE (aA (ag [] (ab 7)) (aA (ag [] (au (dB (aA (ag [] (eE (aA (ag [] (eE (aA (ag [] (aC (.int 0))) (aA (ag [] (aC (.int 0))) tN)))) (aA (ag [] (au (dB (aA (ag [] (aC (.int 0))) tN)))) tN)))) tN)))) tN)))) (aA (ag [] (eE (aA (ag [] (au (ay bg (ab 7) (aC (.int 1))))) (aA (ag [] (au (dB (aA (ag [] (eE (aA (ag [] (eE tN)) (aA (ag [] (au (dB (aA (ag [] (fR (aC (.int 1)))) tN)))) tN)))) tN)))) tN)))) tN))))))) eA) (cL (bM (ag [] (ab 9))) (cR 10) (bC (cu [] 11 (fq nl (aA (ag [] (ab 4)) (aA (ag [] (ab 10)) tN)))) (bC (cu [] 12 (fq nq (aA (ag [] (cP (ab 11) (aC (.int 0)))) (aA (ag [] (ab 5)) (aA (ag [] (ab 6)) (aA (ag [] (cP (ab 11) (aC (.int 1)))) tN)))))) (bC (bR (jj (cZ (ji (bV (kF ["bool"] (ab 12))))) (aL qv (ab 12) (au (fq nr (aA (ag [] (ab 4)) (aA (ag [] (ab 5)) (aA (ag [] (ab 6)) (aA (ag [] (ab 10)) tN)))))))) (dj [] (oX (aC (.bl false)))) eA) (bR (aL qv (ab 11) (eE (aA (ag [] (ab 4)) (aA (ag [] (ab 10)) tN)))) (dj [] (oX (aC (.bl false)))) eA)))))))))))))))) (dj [] (oX (aC (.bl true)))))
theorem MQ (E:Gl G){nj:bD}(wU:FnG G k "_law_reel" nj){nk:je}(wV:FnIo G k "_law_points" nk){aH:je}(bj:FnIo G k "_law_take" aH){sx:je}(Gm:FnIo G k "_law_some_bounds" sx){ee:bD}(lr:FnG G k "_law_pairs" ee){sy:bD}(Gn:FnG G k "_law_least_side" sy){dZ:bD}(lq:FnG G k "_law_cells" dZ){kj:je}(sA:FnIo G k "_law_bent" kj){nl:bD}(wW:FnG G k "_law_handed" nl){nq:bD}(wX:FnG G k "cells_show" nq){nr:bD}(wY:FnG G k "_law_shows" nr):ESs G k ⟨wS,(af eC).names,[],false,false,false,λ_ _=>False⟩ (ao eC) (wT nj nk aH sx ee sy dZ kj nl nq nr):=(aq (eN (jo (ad (ar (av (aM (av (bK (aa 0) bv (aZ ah))) (av (bf (ad (ar (av (ce cQ E.z_len (az (aa 0) aR) (by decide +kernel)))) ak)))))) ak) E.z_enumerate) (fx (bu (aK 1) (bu (aK 2) dD))) (aq (aY 3 (be wU (ad (ar (aa 2)) ak))) (aq (aY 4 (aD wV (aa 3) (ad (ar (bA (av (bf (ad (ar ah) (ad (ar ah) ak)))) (av (oh CD E.z_int (az (AX (rM (kC (fU cJ (aa 1) ah)) (rL (kC (fU cJ (av (aD bj (aa 3) (ad (ar ah) ak))) ah))))) aR) (by decide +kernel))))) ak))) (aq (aY 5 (dS (bA (av (bf (ad (ar nY) (ad (ar nY) ak)))) (av (aD bj (aa 3) (ad (ar ah) ak)))))) (aB (eN (cK (ar (av (aD Gm (aa 3) (ad (ar (av (be lr (ad (ar (aa 4)) (ad (ar (aa 5)) ak))))) ak))))) (aK 6) (aq (aY 7 (be Gn (ad (ar (aa 5)) (ad (ar (aa 6)) ak)))) (aq (aY 8 (bf (ad (ar (aa 7)) (ad (ar (av (aM (av (aM (aa 7) ah)) (av (aD bj (aa 3) (ad (ar (av (fP ah ah))) ak)))))) (ad (ar (av (ce lV E.z_max (az ah (az (av (eM (aa 7) ah)) aR)) (by decide +kernel)))) (ad (ar (av (aM ah (av (aD bj (aa 3) (ad (ar ah) ak)))))) ak)))))) (aq (qz 9 (N':=["side","points"]) (cK (ar (aa 8))) ⟨rfl,by decide +kernel,by decide +kernel,by decide +kernel,by decide +kernel,rfl,by decide +kernel⟩ (aK 0) cy (ar (bq (ad (ar (aa 0)) (ad (ar (av (be lq (ad (ar (aa 1)) (ad (ar (aa 0)) ak))))) ak))))) (aq (aY 9 (aM (aa 9) (av (vB 3 1 (N':=["turn","reel","papers","points"]) (jN (az ah aR) E.z_range) ⟨rfl,by decide +kernel,by decide +kernel,by decide +kernel,by decide +kernel,rfl,by decide +kernel⟩ (aK 0) cy (ar (av (aD sA (aa 1) (ad (ar (bA (aa 2) (av (aD bj (aa 1) (ad (ar ah) ak))))) (ad (ar (av (ce cQ E.z_len (az (aa 3) aR) (by decide +kernel)))) ak))))))))) (aq (da (jL (aa 9) (ar (av (aD sA (aa 3) (ad (ar (bA (aa 9) (ei ah))) (ad (ar (av (ce cQ E.z_len (az (aa 4) aR) (by decide +kernel)))) ak))))))) (aq (bW (aJ cJ (aa 4) (av (bf ak))) (aB (aY 9 (aM (aa 9) (av (bf (ad (ar (bq (ad (ar (aa 7)) (ad (ar (av (bf (ad (ar (bq (ad (ar (bq (ad (ar ah) ak))) (ad (ar (av (bf ak))) ak)))) ak)))) ak)))) (ad (ar (bq (ad (ar (aa 7)) (ad (ar (av (bf (ad (ar (bq (ad (ar (bq (ad (ar ah) (ad (ar ah) ak)))) (ad (ar (av (bf (ad (ar ah) ak)))) ak)))) ak)))) ak)))) (ad (ar (bq (ad (ar (av (aM (aa 7) ah))) (ad (ar (av (bf (ad (ar (bq (ad (ar (bq ak)) (ad (ar (av (bf (ad (ar (ei ah)) ak)))) ak)))) ak)))) ak)))) ak)))))))) bp) (aB (eN (cK (ar (aa 9))) (aK 10) (aq (aY 11 (be wW (ad (ar (aa 4)) (ad (ar (aa 10)) ak)))) (aq (aY 12 (be wX (ad (ar (bA (aa 11) ah)) (ad (ar (aa 5)) (ad (ar (aa 6)) (ad (ar (bA (aa 11) ah)) ak)))))) (aq (bW (rK (kB (dA (dy (eQ (aa 12) ou E.z_isinstance E.z_bool (by decide +kernel)))) (fW (aJ ii (aa 12) (av (be wY (ad (ar (aa 4)) (ad (ar (aa 5)) (ad (ar (aa 6)) (ad (ar (aa 10)) ak)))))))))) (aB (aW (dS jE))) bp) (aB (bW (aJ ii (aa 11) (bq (ad (ar (aa 4)) (ad (ar (aa 10)) ak)))) (aB (aW (dS jE))) bp))))))))))))))))))) (aB (aW (dS jE))))

end
section
set_option hygiene false
local macro_rules|`(tactic| walk_at "vx")=>`(tactic| ((try simp only[aO,startIo,List.map_cons,List.map_nil,List.length_cons,List.length_nil,List.replicate_succ,List.replicate_zero,List.cons_append,List.nil_append,Nat.reduceAdd,Nat.reduceSub]);(try dsimp only[bC,vE,eA,tI,bR,rN,dj,cu,Pl,tJ,EA,oi,au,oX,QY,QZ,uF,nX,ag,ab,aC,drf,drfs,ay,bg,ie,ig,lR,jF,uG,CA,AR,fR,aL,bV,hJ,qv,Lp,uI,Pk,Lq,isNone,Ey,Ez,ji,dn,jj,cZ,er,cP,iV,fm,Mg,tN,aA,dB,eE,cC,aX,cW,dC,tH,jK,kZ,uM,lb,ip,bE,fq,cR,tK,gC,tM,bM,oj,Be,cL,bJ,cg,om,cM,iY,Rj,cw,Mh,pi,Mc,Bm,iD,jt,gp,Vc.ix2_0,Vc.ix2_1,Vc.ixN2_0,Vc.ixN2_1,qF,startIo,vy,oZ,bX,du,jf,EU,BL,qB,Md,iA,EL,kF,EN,vK,Fc,Qv,Qx,Fd,vN,Fh,QB,mG,Ca,vQ,Fl,Fj,mJ,aO,List.getElem?_cons_zero,List.getElem?_cons_succ,List.getElem?_nil,List.set_cons_zero,List.set_cons_succ,List.map_cons,List.map_nil,List.length_cons,List.length_nil,List.replicate_succ,List.replicate_zero,List.cons_append,List.nil_append,Nat.reduceAdd,Nat.reduceSub]);try simp only[List.append_nil,Nat.add_sub_cancel,Nat.zero_add,List.not_mem_nil,not_false_eq_true,true_and,and_true,decide_eq_true_eq,ite_true,ite_false,Bool.not_eq_true',decide_eq_false_iff_not,List.getElem?_cons_zero,List.getElem?_cons_succ]))
local macro_rules|`(tactic| walk_at "vc")=>`(tactic| repeat (refine And.intro (by first|assumption|decide|omega | (unfold CMul;omega) | (unfold PJ;omega) | (unfold fk;omega)) ?_))
local macro_rules|`(tactic| walk_at "vg")=>`(tactic| simp only[cR,tM,gC,tK,List.length_cons,List.length_nil,Nat.reduceAdd,Nat.zero_add,true_and,List.set_cons_zero,List.set_cons_succ,Int.zero_add])
local macro_rules|`(tactic| walk_at "vd")=>`(tactic| walk_at "vx")
set_option hygiene true

variable [KF]
theorem cr {α β:Type}(f:α->β)(xs:List α)(lo hi:Option Int):cut (xs.map f) lo hi=(cut xs lo hi).map f:=by
 unfold cut;rw[List.length_map,List.map_take,List.map_drop]
theorem aE {α:Type}(xs:List α)(lo hi:Option Int):(cut xs lo hi).length<=xs.length:=by
 unfold cut;rw[List.length_take,List.length_drop];omega
def QP (b:Bool):Str:=if b=true then "squares" else "streets"
def cm (b:Bool):D:=.str (QP b)
def bB (p:List Int):D:=.tup (p.map D.int)
def Bd (p:List Int):Prop:=p.length<=3/\∀ x∈p,-(2^60) < x/\x < 2^60
def qN (x:Int):Int:=if x < 0 then -x else x
def MR (b:Bool)(x y:Int):Int:=if b=true then qN (x - y)*qN (x - y) else qN (x - y)
def kK (b:Bool)(p q:List Int):Int:=((p.zip q).map λxy=>MR b xy.1 xy.2).sum
def fI:bD:=λds Q=>∃ b p q,ds=[cm b,bB p,bB q]/\Bd p/\Bd q/\Q (.sh (.int (kK b p q)))
theorem qO (b:Bool):bx 8 (cm b)=true:=by cases b<;>decide +kernel
theorem bQ:bx 8 (.str "streets")=true:=by decide +kernel
theorem cG:bx 8 (.str "squares")=true:=by decide +kernel
theorem jg (b:Bool):cO (cm b) (.str "streets")=!b:=by cases b<;>decide +kernel
theorem pv (b:Bool):cO (cm b) (.str "squares")=b:=by cases b<;>decide +kernel
theorem sz:sizeLine=2^24:=rfl
theorem sB {p q:List Int}(h:Bd p):(p.zip q).length<=3:=by
 rw[List.length_zip];have:=h.1;omega
theorem sC {α:Type}(l:List α)(f:α->Int):(l.map λa=>D.int (f a)).all isInt=true:=by
 rw[List.all_map];exact List.all_eq_true.mpr λ_ _=>rfl
theorem pA {α:Type}(l:List α)(f:α->Int):(l.map λa=>D.int (f a)).map gd=l.map f:=by
 rw[List.map_map];rfl
theorem CN (ds:List D)(Q:B->Prop)(h:fI ds Q):wf { nx:=λ_=>Q (.sh .non),rt:=λb _=>Q b } (aO we.length ds):=by
 obtain⟨b,p,q,rfl,hp,hq,h⟩:=h;unfold wf bB;walk_at "vx";rw[uY];refine ck (λp=>.tup [.int p.1,.int p.2]) (λxy:Int×Int=>D.int (qN (xy.1 - xy.2))) _ (λxy hxy A ha=>?_) (by have:=sB (q:=q) hp;rw[sz];omega) ?_
 ·walk_at "vx"
  exact ha
 ·walk_at "vx"
  rw[jg];refine⟨⟨qO b,bQ⟩,?_⟩;cases b with
  | false =>
   refine (if_pos rfl).mpr ?_;refine⟨sC _ _,?_⟩;rw[pA];exact h
  | true =>
   refine (if_neg (by decide)).mpr ?_
   rw[show (List.map (λxy:Int×Int=>D.int (qN (xy.1 - xy.2))) (p.zip q))=(List.map (λxy:Int×Int=>(qN (xy.1 - xy.2))) (p.zip q)).map D.int from by rw[List.map_map];rfl]
   refine ck D.int (λd:Int=>D.int (d*d)) _ (λd hd A ha=>?_) (by have:=sB (q:=q) hp;rw[sz,List.length_map];omega) ?_
   ·walk_at "vx"
    refine⟨?_,ha⟩;obtain⟨xy,hxy,rfl⟩:=List.mem_map.mp hd;have h1:=hp.2 _ (List.of_mem_zip hxy).1;have h2:=hq.2 _ (List.of_mem_zip hxy).2;unfold CMul qN;left
    split<;>omega
   ·walk_at "vx"
    refine⟨sC _ _,?_⟩;rw[pA,List.map_map];exact h
def Good (n:Nat)(pts:List (List Int)):Prop:=(1<=n/\n<=3)/\∀ p∈pts,p.length=n/\∀ x∈p,-(2^59) < x/\x < 2^59
theorem Good.bd {n:Nat}{pts:List (List Int)}(g:Good n pts){p:List Int}(h:p∈pts):Bd p:=⟨by have:=(g.2 p h).1;have:=g.1.2;omega,λx hx=>by have:=(g.2 p h).2 x hx;omega⟩
theorem iL {n i a:Nat}(h:(List.range n)[i]?=some a):a=i/\i < n:=by
 have hi:i < n:=by
  have:=(List.getElem?_eq_some_iff.mp h).1
  rwa [List.length_range] at this
 rw[List.getElem?_range hi] at h;cases h;exact⟨rfl,hi⟩
theorem Go (ds:List D)(Q:B->Prop)(h:fI ds Q):CM { nx:=λ_=>Q (.sh .non),rt:=λb _=>Q b } (aO wD.length ds):=CN ds Q h

def dM (pts:List (List Int)):D:=.lst (pts.map bB)
theorem fe {pts:List (List Int)}{j:Nat}(h:j < pts.length):(pts.map bB)[j]?=some (bB (pts.getD j [])):=by
 rw[List.getElem?_map,List.getD_eq_getElem?_getD,List.getElem?_eq_getElem h];rfl
theorem bS {pts:List (List Int)}{j:Nat}(h:j < pts.length):pts.getD j []∈pts:=by
 rw[List.getD_eq_getElem?_getD,List.getElem?_eq_getElem h];exact List.getElem_mem h
theorem km {α:Type}{xs:List α}{i:Nat}{q:Nat×α}(h:(xs.mapIdx λi x=>(i,x))[i]?=some q):q.1=i/\xs[i]?=some q.2:=by
 rw[List.getElem?_mapIdx] at h;cases e:xs[i]? with
 | none=>rw[e] at h;cases h
 | some x=>rw[e] at h;cases h;exact⟨rfl,rfl⟩

def wZ (n:Nat)(pts:List (List Int)):Prop:=(1<=n/\n<=3)/\∀ p∈pts,p.length=n
theorem Good.shape {n:Nat}{pts:List (List Int)}(g:Good n pts):wZ n pts:=⟨g.1,λp hp=>(g.2 p hp).1⟩
def iM:bD:=λds Q=>∃ c:Int,ds=[.int c]/\1<=c/\c<=3/\Q (.sh .non)
theorem xa (ds:List D)(Q:B->Prop)(h:iM ds Q):vU { nx:=λ_=>Q (.sh .non),rt:=λb _=>Q b } (aO vT.length ds):=by
 obtain⟨c,rfl,h1,h2,h⟩:=h;unfold vU;walk_at "vx";rw[if_neg (by omega),if_neg (by omega)]
 exact h
def qP:bD:=λds Q=>∃ (p:List Int) (c:Int),ds=[bB p,.int c]/\(p.length:Int)=c/\Q (.sh .non)
theorem MS (ds:List D)(Q:B->Prop)(h:qP ds Q):Fs { nx:=λ_=>Q (.sh .non),rt:=λb _=>Q b } (aO Fq.length ds):=by
 obtain⟨p,c,rfl,rfl,h⟩:=h;unfold Fs bB;walk_at "vx";rw[List.length_map];refine⟨⟨rfl,rfl⟩,?_⟩;have e:cO (.int (p.length:Nat)) (.int (p.length:Nat))=true:=by simp [cO]
 rw[if_neg (by rw[e];decide)]
 exact h
def nu:bD:=λds Q=>∃ n pts,ds=[dM pts]/\wZ n pts/\Q (.sh .non)
theorem Gp (ds:List D)(Q:B->Prop)(h:nu ds Q):vW iM qP { nx:=λ_=>Q (.sh .non),rt:=λb _=>Q b } (aO vV.length ds):=by
 obtain⟨n,pts,rfl,hg,h⟩:=h;unfold vW dM;walk_at "vx";refine cq bB pts (λi σ=>∃ x,σ=[some (.sh (.lst (pts.map bB))),x]) (λi p σ N' hx hI hN'=>?_) (λσ hI=>h) ⟨none,rfl⟩;obtain⟨x,rfl⟩:=hI;have hp:=hg.2 p (List.mem_of_getElem? hx);have h1:=hg.1;have h0:0 < pts.length:=Nat.lt_of_le_of_lt (Nat.zero_le _) (List.getElem?_eq_some_iff.mp hx).1;have h00:=hg.2 _ (bS h0);walk_at "vg";refine ai λN2 hN2=>?_;rw[show bB p=.tup (p.map D.int) from rfl]
 walk_at "vx";rw[List.length_map];refine⟨_,rfl,by omega,by omega,?_⟩
 walk_at "vx";subst hN2;walk_at "vx";refine cf (n:=0) rfl (fe h0) ?_;rw[show bB (pts.getD 0 [])=.tup ((pts.getD 0 []).map D.int) from rfl]
 walk_at "vx";rw[List.length_map];refine⟨p,_,rfl,by rw[hp,h00],?_⟩
 exact hN' _ ⟨_,rfl⟩
def nv:bD:=λds Q=>∃ b,ds=[cm b]/\Q (.sh .non)
theorem Gq (ds:List D)(Q:B->Prop)(h:nv ds Q):vZ { nx:=λ_=>Q (.sh .non),rt:=λb _=>Q b } (aO vY.length ds):=by
 obtain⟨b,rfl,h⟩:=h;unfold vZ;walk_at "vx";refine⟨⟨qO b,bQ⟩,?_⟩;rw[jg];cases b with
 | false=>exact h
 | true =>
  refine (if_pos rfl).mpr ⟨⟨qO true,cG⟩,?_⟩;rw[pv];exact h
def nw:bD:=λds Q=>∃ n b pts,ds=[dM pts,cm b]/\wZ n pts/\Q (.sh .non)
theorem MT (ds:List D)(Q:B->Prop)(h:nw ds Q):Fy nu nv { nx:=λ_=>Q (.sh .non),rt:=λb _=>Q b } (aO Fx.length ds):=by
 obtain⟨n,b,pts,rfl,hg,h⟩:=h;unfold Fy;walk_at "vx";refine⟨n,pts,rfl,hg,?_⟩;walk_at "vx";exact⟨b,rfl,h⟩

def Rm:Nat->D->Bool
 | _,.non=>true
 | _,.int _=>true
 | n+1,.tup xs=>decide (xs.length<=1000000)&&xs.all (Rm n)
 | n+1,.lst xs=>decide (xs.length<=1000000)&&xs.all (Rm n)
 | _,_=>false
theorem qQ (pts:List (List Int)):bx 8 (.lst (pts.map bB))=true:=by
 show (pts.map bB).all (bx 7)=true;rw[List.all_map];refine List.all_eq_true.mpr λp _=>?_;show (p.map D.int).all (bx 6)=true;rw[List.all_map];exact List.all_eq_true.mpr λ_ _=>rfl
theorem xb (pts:List (List Int)):cO (.lst (pts.map bB)) (.lst [])=decide (pts=[]):=by cases pts<;>rfl
def pairD (b:Bool)(pts:List (List Int))(i j:Nat):D:=.tup [.int (kK b (pts.getD i []) (pts.getD j [])),.int i,.int j]
def fJ (b:Bool)(pts:List (List Int))(i m:Nat):List D:=(List.range m).map λt=>pairD b pts i (i+1+t)
def eV (b:Bool)(pts:List (List Int)):Nat->List D
 | 0=>[]
 | i+1=>eV b pts i++fJ b pts i (pts.length - (i+1))
def bo (b:Bool)(pts:List (List Int)):List D:=eV b pts pts.length
theorem pB (b:Bool)(pts:List (List Int))(i m:Nat):(fJ b pts i m).length=m:=by unfold fJ;rw[List.length_map,List.length_range]
theorem ls (b:Bool)(pts:List (List Int))(i m:Nat):fJ b pts i (m+1)=fJ b pts i m++[pairD b pts i (i+1+m)]:=by unfold fJ;rw[List.range_succ,List.map_append];rfl
theorem lu (b:Bool)(pts:List (List Int)):∀ i,(eV b pts i).length<=i*pts.length
 | 0=>Nat.zero_le _
 | i+1=>by
  have ih:=lu b pts i;show (eV b pts i++fJ b pts i (pts.length - (i+1))).length<=_;rw[List.length_append,pB,Nat.succ_mul];omega
theorem sD {b:Bool}{pts:List (List Int)}{i:Nat}(hl:pts.length<=1000)(hi:i<=pts.length):(eV b pts i).length<=1000000 :=
 Nat.le_trans (lu b pts i) (Nat.mul_le_mul (show i<=1000 by omega) hl)
theorem pC {b:Bool}{pts:List (List Int)}(hl:pts.length<=1000):(bo b pts).length<=1000000:=sD hl (Nat.le_refl _)
theorem pD {b:Bool}{pts:List (List Int)}:∀ {i:Nat} {d:D},d∈eV b pts i->∃ p q,p < i/\p < q/\(i<=pts.length->q < pts.length)/\d=pairD b pts p q
 | i+1,d,h=>by
  rcases List.mem_append.mp (show d∈eV b pts i++fJ b pts i (pts.length - (i+1)) from h) with h|h
  ·obtain⟨p,q,h1,h2,h3,h4⟩:=pD h
   exact⟨p,q,by omega,h2,λz=>h3 (by omega),h4⟩
  ·obtain⟨t,ht,rfl⟩:=List.mem_map.mp h
   have ht:=List.mem_range.mp ht;exact⟨i,i+1+t,by omega,by omega,λz=>by omega,rfl⟩
theorem cH {b:Bool}{pts:List (List Int)}{d:D}(h:d∈bo b pts):∃ p q,p < q/\q < pts.length/\d=pairD b pts p q:=by
 obtain⟨p,q,h1,h2,h3,h4⟩:=pD h;exact⟨p,q,h2,h3 (Nat.le_refl _),h4⟩
theorem eg (b:Bool)(pts:List (List Int)):(bo b pts).all df=true:=List.all_eq_true.mpr λd hd=>by
 obtain⟨p,q,_,_,rfl⟩:=cH hd;rfl
def ko:bD:=λds Q=>∃ b n pts,ds=[dM pts,cm b]/\Good n pts/\pts.length<=1000/\Q (.own (bo b pts))
def lN (sp:bD)(rest:cj):cj:=(bC (cu [] 2 (dB tN)) (bC (cL (oj (aX (au (cW dC (aX (ab 0) cC))) cC)) (cR 3) (cL (Be (aX (au (ay bg (ab 3) (aC (.int 1)))) (aX (au (cW dC (aX (ab 0) cC))) cC))) (cR 4) (rN (tJ (ab 2) (ag [] (eE (aA (ag [] (au (fq sp (aA (ag [] (ab 1)) (aA (ag [] (cP (ab 0) (ab 3))) (aA (ag [] (cP (ab 0) (ab 4))) tN)))))) (aA (ag [] (ab 3)) (aA (ag [] (ab 4)) tN))))))))) rest))
theorem xc {b:Bool}{n:Nat}{pts:List (List Int)}{rest:cj}{De:EndsD}(hg:Good n pts)(hl:pts.length<=1000)(h:∀ x3 x4,rest De [some (.sh (dM pts)),some (.sh (cm b)),some (.own (bo b pts)),x3,x4]) :
  lN fI rest De [some (.sh (dM pts)),some (.sh (cm b)),none,none,none]:=by
 unfold lN;refine ai λN hN=>?_;walk_at "vx";refine⟨by decide,?_⟩
 subst hN;refine ai λN hN=>?_;rw[show dM pts=.lst (pts.map bB) from rfl]
 walk_at "vx";rw[List.length_map,Int.toNat_natCast,dI];refine⟨by omega,cq (λi:Nat=>.int (0+(i:Nat))) (List.range pts.length) (λi σ=>∃ x3 x4,σ=[some (.sh (.lst (pts.map bB))),some (.sh (cm b)),some (.own (eV b pts i)),x3,x4]) (λi a σ N' hx hI hN'=>?_) (λσ hI=>?_) ⟨none,none,rfl⟩⟩
 ·obtain⟨rfl,hi⟩:=iL hx
  obtain⟨x3,x4,rfl⟩:=hI;walk_at "vg";walk_at "vx";rw[List.length_map,dI];refine⟨by omega,?_⟩
  rw[show ((pts.length:Int) - ((a:Int)+1)).toNat=pts.length - (a+1) by omega]
  refine cq (λt:Nat=>.int ((a:Int)+1+(t:Nat))) (List.range (pts.length - (a+1))) (λm σ=>∃ x4,σ=[some (.sh (.lst (pts.map bB))),some (.sh (cm b)),some (.own (eV b pts a++fJ b pts a m)),some (.sh (.int a)),x4]) (λm t σ N2 hx2 hI2 hN2=>?_) (λσ hI2=>?_) ⟨x4,by rw[show fJ b pts a 0=[] from rfl,List.append_nil]⟩
  ·obtain⟨rfl,ht⟩:=iL hx2
   obtain⟨x4,rfl⟩:=hI2;walk_at "vx";have hj:a+1+t < pts.length:=by omega
   refine⟨⟨_,rfl⟩,?_⟩;refine cf (n:=a) rfl (fe hi) ?_;refine cf (n:=a+1+t) (by omega) (fe hj) ?_
   walk_at "vx";refine⟨b,_,_,rfl,hg.bd (bS hi),hg.bd (bS hj),?_⟩;walk_at "vx";have hz:=sD (b:=b) hl (show a<=pts.length by omega)
   refine⟨by decide,by rw[sz,List.length_append,pB];omega,hN2 _ ⟨some (.sh (.int ((a:Int)+1+(t:Int)))),?_⟩⟩
   rw[ls,List.append_assoc];unfold pairD;rw[show ((a+1+t:Nat):Int)=(a:Int)+1+(t:Int) by omega]
  ·obtain⟨x4,rfl⟩:=hI2
   rw[List.length_range];exact hN' _ ⟨some (.sh (.int a)),x4,rfl⟩
 ·obtain⟨x3,x4,rfl⟩:=hI
  subst hN;rw[List.length_range];exact h x3 x4
theorem Ck (ds:List D)(Q:B->Prop)(h:ko ds Q):Mu fI { nx:=λ_=>Q (.sh .non),rt:=λb _=>Q b } (aO FC.length ds):=by
 obtain⟨b,n,pts,rfl,hg,hl,h⟩:=h;exact xc hg hl λx3 x4=>by walk_at "vx";exact h

def ba (xs:List D):Prop:=∃ x y:Int,xs=[.int x,.int y]/\0<=x/\0<=y/\y < 2147483647
def ny:bD:=λds Q=>∃ c:Int,ds=[.int c]/\∀ xs,ba xs->Q (.own xs)
theorem Gr (ds:List D)(Q:B->Prop)(h:ny ds Q):wy { nx:=λ_=>Q (.sh .non),rt:=λb _=>Q b } (aO wx.length ds):=by
 obtain⟨c,rfl,h⟩:=h;unfold wy;walk_at "vx";refine⟨by decide,by unfold CMul;omega,by decide,by decide,?_⟩
 exact h _ ⟨_,_,rfl,by split<;>omega,by omega,by omega⟩
def ff:je:=λxs ds Q=>ba xs/\∃ m:Int,ds=[.int m]/\1<=m/\m < 2^200/\∀ r ys,0<=r->r < m->ba ys->Q (.sh (.int r)) ys
theorem Gu (xs ds:List D)(Q:B->List D->Prop)(h:ff xs ds Q):wA { nx:=qF Q (.sh .non),rt:=λb σ=>qF Q b σ } (startIo wz.length xs ds):=by
 obtain⟨⟨x,y,rfl,hx,hy,hy2⟩,m,rfl,hm,hm2,h⟩:=h;unfold wA;refine ai λN hN=>?_;simp only[startIo];walk_at "vx";refine⟨by unfold fk;decide,?_⟩
 split
 ·refine⟨by omega,by unfold gn;omega,⟨_,rfl⟩,?_⟩
  exact h _ _ (Int.emod_nonneg _ (by omega)) (Int.emod_lt_of_pos _ (by omega)) ⟨_,_,rfl,Int.ediv_nonneg hx (by omega),hy,hy2⟩
 ·subst hN
  refine ai λN hN=>?_;walk_at "vx";refine⟨by unfold CMul;omega,by decide,⟨_,rfl⟩,?_⟩
  have hz0:0<=(y*48271+11)%2147483647:=Int.emod_nonneg _ (by decide)
  have hz1:(y*48271+11)%2147483647 < 2147483647:=Int.emod_lt_of_pos _ (by decide)
  generalize (y*48271+11)%2147483647=z at hz0 hz1;subst hN;refine ai λN hN=>?_;walk_at "vx";refine⟨by unfold CMul;omega,by decide,?_⟩
  have hs0:0<=z*z%2147483629:=Int.emod_nonneg _ (by decide)
  have hs1:z*z%2147483629 < 2147483629:=Int.emod_lt_of_pos _ (by decide)
  generalize z*z%2147483629=s at hs0 hs1;subst hN;walk_at "vx";refine⟨by unfold CMul;omega,by decide,by unfold gn;decide,by omega,?_⟩
  exact h _ _ (Int.emod_nonneg _ (by omega)) (Int.emod_lt_of_pos _ (by omega)) ⟨_,_,rfl,hx,hz0,hz1⟩

def fK:je:=λxs ds Q=>ba xs/\∃ m:Nat,ds=[.int m]/\m<=150/\∀ pts n ys,Good n pts->pts.length<=m->ba ys->Q (.own (pts.map bB)) ys
def qR (v:Int):Prop:=-(10^15)<=v/\v<=10^15
theorem nz:∀ ds:List D,(∀ d∈ds,∃ v,d=.int v/\qR v)->∃ p:List Int,ds=p.map D.int/\p.length=ds.length/\∀ v∈p,qR v
 | [],_=>⟨[],rfl,rfl,λv hv=>by cases hv⟩
 | d::ds,h=>by
  obtain⟨v,rfl,hv⟩:=h d (List.mem_cons_self ..);obtain⟨p,e,hl,hp⟩:=nz ds λx hx=>h x (List.mem_cons_of_mem _ hx);refine⟨v::p,by rw[e];rfl,by simp [hl],λw hw=>?_⟩
  rcases List.mem_cons.mp hw with rfl|hw
  ·exact hv
  ·exact hp w hw
theorem xf {n:Nat}(h:0 < n):ixN n 0=some 0:=by unfold ixN;rw[if_pos (by omega),if_pos (by omega)];rfl
theorem ua (xs ds:List D)(Q:B->List D->Prop)(h:fK xs ds Q):wC ff { nx:=qF Q (.sh .non),rt:=λb σ=>qF Q b σ } (startIo wB.length xs ds):=by
 obtain⟨r0,m,rfl,hm,h⟩:=h;unfold wC
 -- count
 refine ai λN hN=>?_;walk_at "vx";refine⟨⟨_,rfl⟩,r0,3,rfl,by decide,by decide,λc x1 c0 c3 r1=>?_⟩
 walk_at "vx";subst hN
 -- many
 refine ai λN hN=>?_;walk_at "vd";refine⟨⟨_,rfl⟩,r1,_,rfl,by omega,by omega,λa1 x2 a10 a11 r2=>?_⟩
 walk_at "vx";refine⟨⟨_,rfl⟩,r2,_,rfl,by split<;>omega,by split<;>omega,λa2 x3 a20 a21 r3=>?_⟩
 walk_at "vx";refine⟨by decide,⟨_,rfl⟩,r3,3,rfl,by decide,by decide,λa3 x4 a30 a31 r4=>?_⟩
 walk_at "vx";refine bh a30 (by simp only[List.length_cons,List.length_nil];omega) λd hd=>?_
 obtain⟨many,rfl,hmn⟩:∃ v:Nat,d=.int v/\v<=m:=by
  simp only[List.mem_cons,List.not_mem_nil,or_false] at hd;rcases hd with rfl|rfl|rfl
  ·exact⟨a1.toNat,by rw[Int.toNat_of_nonneg a10],by omega⟩
  ·exact⟨m,rfl,Nat.le_refl _⟩
  ·exact⟨a2.toNat,by rw[Int.toNat_of_nonneg a20],by split at a21<;>omega⟩
 subst hN
 -- wide
 refine ai λN hN=>?_;walk_at "vx";refine⟨by unfold fk;decide,by unfold CMul;decide,by decide,⟨_,rfl⟩,r4,5,rfl,by decide,by decide,λa4 x5 a40 a41 r5=>?_⟩
 walk_at "vx";refine bh a40 (by simp only[List.length_cons,List.length_nil];omega) λd hd=>?_
 obtain⟨wide,rfl,hw1,hw2⟩:∃ v:Int,d=.int v/\3<=v/\v<=2*10^15 - 1:=by
  simp only[List.mem_cons,List.not_mem_nil,or_false] at hd;rcases hd with rfl|rfl|rfl|rfl|rfl
  ·exact⟨_,rfl,by decide,by decide⟩
  ·exact⟨_,rfl,by decide,by decide⟩
  ·exact⟨_,rfl,by decide,by decide⟩
  ·exact⟨_,rfl,by decide,by decide⟩
  ·exact⟨_,rfl,by decide,by decide⟩
 subst hN
 -- kind
 refine ai λN hN=>?_;walk_at "vx";refine⟨⟨_,rfl⟩,r5,5,rfl,by decide,by decide,λkind x6 _ _ r6=>?_⟩
 walk_at "vx";subst hN
 -- found
 refine ai λN hN=>?_;walk_at "vx";refine⟨by decide,?_⟩
 subst hN;obtain⟨cnt,hc1,hc3,ec⟩:∃ n:Nat,1<=n/\n<=3/\1+c=(n:Int):=⟨(1+c).toNat,by omega,by omega,by omega⟩
 rw[ec]
 -- the loop
 refine ai λN hN=>?_;show cL _ _ _ _ _;generalize ht:bC (cu [0] 8 _) _=tb;walk_at "vx";rw[Int.toNat_natCast,dI];refine⟨by omega,cq (λi:Nat=>.int (0+(i:Nat))) (List.range many) (λi σ=>∃ x pts k pt b,σ=[some (.own x),some (.sh (.int m)),some (.sh (.int cnt)),some (.sh (.int many)),some (.sh (.int wide)),some (.sh (.int kind)),some (.own (pts.map bB)),k,pt,b]/\ba x/\pts.length=i/\Good cnt pts/\∀ p∈pts,∀ v∈p,qR v) (λi a σ N' hx hI hN'=>?_) (λσ hI=>?_) ⟨x6,[],none,none,none,rfl,r6,rfl,⟨⟨hc1,hc3⟩,λp hp=>by cases hp⟩,λp hp=>by cases hp⟩⟩
 ·obtain⟨rfl,hi⟩:=iL hx
  obtain⟨x,pts,k,pt,b,rfl,rx,hl,hg,hf⟩:=hI;walk_at "vg";subst ht
  -- the last: append
  have last:∀ (x:List D) (p:List Int) b,ba x->p.length=cnt->(∀ v∈p,qR v)->N' [some (.own x),some (.sh (.int m)),some (.sh (.int cnt)),some (.sh (.int many)),some (.sh (.int wide)),some (.sh (.int kind)),some (.own ((pts++[p]).map bB)),some (.sh (.int (a:Nat))),some (.sh (.lst (p.map D.int))),b]/\N' [some (.own x),some (.sh (.int m)),some (.sh (.int cnt)),some (.sh (.int many)),some (.sh (.int wide)),some (.sh (.int kind)),some (.own ((pts++[p]).map bB)),some (.sh (.int (a:Nat))),some (.own (p.map D.int)),b]:=λx p b rx hp hb=>by
   have hg':Good cnt (pts++[p]):=⟨hg.1,λq hq=>by
    rcases List.mem_append.mp hq with hq|hq
    ·exact hg.2 q hq
    ·rw[List.mem_singleton.mp hq]
     exact⟨hp,λv hv=>by have:=hb v hv;unfold qR at this;omega⟩⟩
   have hf':∀ q∈pts++[p],∀ v∈q,qR v:=λq hq=>by
    rcases List.mem_append.mp hq with hq|hq
    ·exact hf q hq
    ·rw[List.mem_singleton.mp hq];exact hb
   exact⟨hN' _ ⟨x,pts++[p],_,_,_,rfl,rx,by simp [hl],hg',hf'⟩,hN' _ ⟨x,pts++[p],_,_,_,rfl,rx,by simp [hl],hg',hf'⟩⟩
  refine ai λN1 hN1=>?_;have k1:∀ (x:List D) (p:List Int) b,ba x->p.length=cnt->(∀ v∈p,qR v)->N1 [some (.own x),some (.sh (.int m)),some (.sh (.int cnt)),some (.sh (.int many)),some (.sh (.int wide)),some (.sh (.int kind)),some (.own (pts.map bB)),some (.sh (.int (a:Nat))),some (.own (p.map D.int)),b]:=by
   intro x p b rx hp hb;subst hN1;refine ai λN2 hN2=>?_;have k2:∀ (x:List D) (p:List Int) b,ba x->p.length=cnt->(∀ v∈p,qR v)->N2 [some (.own x),some (.sh (.int m)),some (.sh (.int cnt)),some (.sh (.int many)),some (.sh (.int wide)),some (.sh (.int kind)),some (.own (pts.map bB)),some (.sh (.int (a:Nat))),some (.own (p.map D.int)),b]:=by
    intro x p b rx hp hb;subst hN2;refine ai λN3 hN3=>?_;have k3:∀ (x:List D) (p:List Int) b,ba x->p.length=cnt->(∀ v∈p,qR v)->N3 [some (.own x),some (.sh (.int m)),some (.sh (.int cnt)),some (.sh (.int many)),some (.sh (.int wide)),some (.sh (.int kind)),some (.own (pts.map bB)),some (.sh (.int (a:Nat))),some (.own (p.map D.int)),b]:=by
     intro x p b rx hp hb;subst hN3;refine ai λN4 hN4=>?_;have k4:∀ (x:List D) (p:List Int) b,ba x->p.length=cnt->(∀ v∈p,qR v)->N4 [some (.own x),some (.sh (.int m)),some (.sh (.int cnt)),some (.sh (.int many)),some (.sh (.int wide)),some (.sh (.int kind)),some (.own (pts.map bB)),some (.sh (.int (a:Nat))),some (.own (p.map D.int)),b]:=by
      intro x p b rx hp hb;subst hN4;walk_at "vx";refine⟨⟨_,rfl⟩,by rw[List.length_map,sz];omega,?_⟩
      have:=(last x p b rx hp hb);rw[List.map_append] at this
      first|exact this.1|exact this.2
     -- kind 3
     walk_at "vx";refine⟨⟨rfl,rfl⟩,?_⟩
     split
     ·refine⟨Nat.zero_le _,⟨qQ pts,rfl⟩,?_⟩
      rw[xb]
      by_cases hp0:pts=[]
      ·refine (if_neg (by simp [hp0])).mpr ?_
       exact k4 x p b rx hp hb
      ·have h0:0 < pts.length:=List.length_pos_iff.mpr hp0
       refine (if_pos (by simp [hp0])).mpr ⟨⟨_,rfl⟩,rx,4,rfl,by decide,by decide,λr y _ _ ry=>?_⟩
       walk_at "vx";refine⟨⟨by rfl,rfl⟩,?_⟩
       split
       ·rw[List.length_map]
        refine⟨⟨_,rfl⟩,ry,_,rfl,by omega,by omega,λr2 y2 q0 q1 ry2=>?_⟩
        have hj:r2.toNat < pts.length:=by omega
        walk_at "vx";refine cf (n:=r2.toNat) (by omega) (fe hj) ?_
        rw[show bB (pts.getD r2.toNat [])=.tup ((pts.getD r2.toNat []).map D.int) from rfl]
        exact k4 y2 _ b ry2 (hg.2 _ (bS hj)).1 (hf _ (bS hj))
       ·exact k4 y p b ry hp hb
     ·exact k4 x p b rx hp hb
    -- kind 2
    walk_at "vx";refine⟨⟨rfl,rfl⟩,?_⟩
    split
    ·refine⟨Nat.zero_le _,⟨qQ pts,rfl⟩,?_⟩
     rw[xb]
     by_cases hp0:pts=[]
     ·refine (if_neg (by simp [hp0])).mpr ?_
      exact k3 x p b rx hp hb
     ·have h0:0 < pts.length:=List.length_pos_iff.mpr hp0
      refine (if_pos (by simp [hp0])).mpr ⟨⟨_,rfl⟩,rx,3,rfl,by decide,by decide,λr y _ _ ry=>?_⟩
      walk_at "vx"
      split
      ·rw[List.length_map]
       refine⟨⟨_,rfl⟩,ry,_,rfl,by omega,by omega,λr2 y2 q0 q1 ry2=>?_⟩
       have hj:r2.toNat < pts.length:=by omega
       walk_at "vx";refine cf (n:=r2.toNat) (by omega) (fe hj) ?_
       rw[show bB (pts.getD r2.toNat [])=.tup ((pts.getD r2.toNat []).map D.int) from rfl]
       walk_at "vx";have gl:=(hg.2 _ (bS hj)).1;have gf:=hf _ (bS hj);generalize pts.getD r2.toNat []=base at gl gf;refine iJ D.int (λd=>∃ v,d=.int v/\qR v) ba base (λv hv z rz A Z hz ha=>?_) (by rw[sz];omega) ry2 (λds ys hl1 hd1 ry3=>?_)
       ·walk_at "vx"
        refine⟨by unfold fk;decide,by unfold fk;decide,⟨_,rfl⟩,rz,3,rfl,by decide,by decide,λr3 z3 w0 w1 rz3=>?_⟩
        walk_at "vx";refine⟨hz,ha _ _ ⟨_,rfl,?_⟩ rz3⟩;unfold qR;rw[show (10:Int)^Int.toNat 15=10^15 from rfl]
        split<;>split<;>omega
       ·obtain⟨p2,rfl,pl,pf⟩:=nz ds hd1
        exact k3 ys p2 _ ry3 (by rw[pl,hl1,gl]) pf
      ·exact k3 y p b ry hp hb
    ·exact k3 x p b rx hp hb
   -- kind 1
   walk_at "vx";refine⟨⟨rfl,rfl⟩,?_⟩
   split
   ·refine⟨by unfold gn;decide,⟨_,rfl⟩,?_⟩
    rw[xf (by rw[List.length_map];omega)]
    dsimp only;have e:(p.map D.int).set 0 (D.int (0 - wide / 2))=(p.set 0 (0 - wide / 2)).map D.int:=by rw[List.map_set]
    rw[e];refine k2 x _ b rx (by rw[List.length_set];exact hp) λv hv=>?_
    rcases List.mem_or_eq_of_mem_set hv with hv|rfl
    ·exact hb v hv
    ·unfold qR;omega
   ·exact k2 x p b rx hp hb
  -- the point
  walk_at "vx";rw[Int.toNat_natCast,dI];refine⟨by omega,iJ (λi:Nat=>.int (0+(i:Nat))) (λd=>∃ v,d=.int v/\qR v) ba _ (λv hv z rz A Z hz ha=>?_) (by rw[List.length_range,sz];omega) rx (λds ys hl1 hd1 ry3=>?_)⟩
  ·walk_at "vx"
   refine⟨⟨_,rfl⟩,rz,wide,rfl,by omega,by omega,λr3 z3 w0 w1 rz3=>?_⟩
   walk_at "vx";refine⟨by unfold gn;decide,hz,ha _ _ ⟨_,rfl,?_⟩ rz3⟩
   unfold qR;omega
  ·obtain⟨p2,rfl,pl,pf⟩:=nz ds hd1
   exact k1 ys p2 _ ry3 (by rw[pl,hl1,List.length_range]) pf
 ·obtain⟨x,pts,k,pt,b,rfl,rx,hl,hg,hf⟩:=hI
  subst hN;rw[List.length_range] at hl;walk_at "vx";exact⟨by decide,h pts cnt x hg (by omega) rx⟩

def QQ:Nat->D->Bool
 | _,.non=>true
 | _,.int _=>true
 | n+1,.tup xs=>decide (xs.length<=1000000)&&xs.all (QQ n)
 | n+1,.lst xs=>decide (xs.length<=1000000)&&xs.all (QQ n)
 | _,_=>false
def MU:Nat->bD
 | 0=>λ_ _=>False
 | n+1=>λds Q=>∃ x,ds=[x,x]/\QQ n x=true/\Q (.sh (.bl true))
def Cm (b:Bool)(pts:List (List Int))(j:Nat):List D:=(List.range j).map λi=>pairD b pts i j
def gS (b:Bool)(pts:List (List Int)):Nat->List D
 | 0=>[]
 | j+1=>gS b pts j++Cm b pts j
theorem pE (b:Bool)(pts:List (List Int)):∀ j,(gS b pts j).length<=j*j
 | 0=>Nat.zero_le _
 | j+1=>by
  have ih:=pE b pts j;show (gS b pts j++Cm b pts j).length<=_;rw[List.length_append,Cm,List.length_map,List.length_range,Nat.succ_mul,Nat.mul_succ];omega
def gT (b:Bool)(pts:List (List Int))(n:Nat):Nat->List D
 | 0=>[]
 | i+1=>gT b pts n i++fJ b pts i (n - (i+1))
theorem pF (b:Bool)(pts:List (List Int)):∀ i,gT b pts pts.length i=eV b pts i
 | 0=>rfl
 | i+1=>by show gT b pts pts.length i++_=eV b pts i++_;rw[pF b pts i]
theorem MV {α:Type}(A C R X:List α):((A++C)++(R++X)).Perm ((A++R)++(C++X)):=by
 rw[List.append_assoc,List.append_assoc];refine List.Perm.append_left A ?_;rw[<- List.append_assoc,<- List.append_assoc];exact List.Perm.append_right X List.perm_append_comm
theorem lv (b:Bool)(pts:List (List Int))(n:Nat):∀ i,i<=n->(gT b pts (n+1) i).Perm (gT b pts n i++(List.range i).map λt=>pairD b pts t n)
 | 0,_=>List.Perm.refl _
 | i+1,h=>by
  have ih:=lv b pts n i (by omega)
  show (gT b pts (n+1) i++fJ b pts i (n+1 - (i+1))).Perm ((gT b pts n i++fJ b pts i (n - (i+1)))++(List.range (i+1)).map λt=>pairD b pts t n);rw[show n+1 - (i+1)=n - (i+1)+1 by omega,ls,show i+1+(n - (i+1))=n by omega,List.range_succ,List.map_append]
  exact (List.Perm.append_right _ ih).trans (MV _ _ _ _)
theorem lw (b:Bool)(pts:List (List Int)):∀ n,(gS b pts n).Perm (gT b pts n n)
 | 0=>List.Perm.refl _
 | n+1=>by
  have ih:=lw b pts n;show (gS b pts n++Cm b pts n).Perm (gT b pts (n+1) n++fJ b pts n (n+1 - (n+1)));rw[Nat.sub_self,show fJ b pts n 0=[] from rfl,List.append_nil]
  exact (List.Perm.append_right _ ih).trans (lv b pts n n (Nat.le_refl _)).symm
theorem kq (b:Bool)(pts:List (List Int)):(gS b pts pts.length).Perm (bo b pts):=by
 have:=lw b pts pts.length
 rwa [pF] at this
theorem ub (b:Bool)(pts:List (List Int)):bF (gS b pts pts.length)=bF (bo b pts) :=
 jZ (eg b pts) ((aU _).trans (kq b pts)) (cS _)
theorem uc (b:Bool)(pts:List (List Int)):(gS b pts pts.length).all df=true:=List.all_eq_true.mpr λd hd =>
 List.all_eq_true.mp (eg b pts) d ((kq b pts).mem_iff.mp hd)
def fh:bD:=λds Q=>∃ b n pts,ds=[dM pts,cm b]/\Good n pts/\pts.length<=1000/\Q (.own (bF (bo b pts)))
theorem xg (ds:List D)(Q:B->Prop)(h:fh ds Q):wF fI { nx:=λ_=>Q (.sh .non),rt:=λb _=>Q b } (aO wE.length ds):=by
 obtain⟨b,n,pts,rfl,hg,hl,h⟩:=h;unfold wF;refine ai λN hN=>?_;walk_at "vx";refine⟨by decide,?_⟩
 subst hN;refine ai λN hN=>?_;rw[show dM pts=.lst (pts.map bB) from rfl]
 walk_at "vx";rw[eW];refine cq (λq:Nat×List Int=>.tup [.int (q.1:Nat),bB q.2]) _ (λi σ=>∃ x3 x4,σ=[some (.sh (.lst (pts.map bB))),some (.sh (cm b)),some (.own (gS b pts i)),x3,x4]) (λi q σ N' hx hI hN'=>?_) (λσ hI=>?_) ⟨none,none,rfl⟩
 ·obtain⟨x3,x4,rfl⟩:=hI
  obtain⟨e1,e2⟩:=km hx;obtain⟨j,r⟩:=q;cases e1;have e2:pts[j]?=some r:=e2;have hj:j < pts.length:=(List.getElem?_eq_some_iff.mp e2).1;have hr:r=pts.getD j []:=by rw[List.getD_eq_getElem?_getD,e2];rfl
  walk_at "vg";walk_at "vx";rw[Int.toNat_natCast,dI];refine⟨⟨_,rfl⟩,by omega,ck (λi:Nat=>.int (0+(i:Nat))) (λi=>pairD b pts i j) _ (λi hi A ha=>?_) (by rw[List.length_range,sz];omega) ?_⟩
  ·have hi:=List.mem_range.mp hi
   walk_at "vx";rw[Int.zero_add];refine cf (n:=i) rfl (fe (by omega)) ?_
   walk_at "vx";refine⟨b,_,r,rfl,hg.bd (bS (by omega)),hg.bd (List.mem_of_getElem? e2),?_⟩
   walk_at "vx";refine⟨by decide,?_⟩
   unfold pairD at ha;rw[<- hr] at ha;exact ha
  ·have hz:=pE b pts j
   have hz2:j*j<=1000*1000:=Nat.mul_le_mul (by omega) (by omega)
   refine⟨by rw[List.length_map,List.length_range,sz];omega,hN' _ ⟨some (.sh (.int (j:Nat))),some (.sh (bB r)),rfl⟩⟩
 ·obtain⟨x3,x4,rfl⟩:=hI
  subst hN;rw[List.length_mapIdx];walk_at "vx";refine⟨uc b pts,?_⟩;rw[ub];exact h

theorem xh {α:Type}(xs:List α)(k:Nat):cut xs none (some (k:Int))=xs.take k:=by
 unfold cut;rw[HT.sIx_none,HT.sIx_nat,List.drop_zero,Nat.sub_zero]
 by_cases h:k<=xs.length
 ·rw[Nat.min_eq_left h]
 ·rw[Nat.min_eq_right (by omega),List.take_of_length_le (Nat.le_refl _),List.take_of_length_le (by omega)]
theorem lx {xs:List D}(h:xs.all df=true):jR xs=(bF xs).head?:=by
 have key:∀ (l:List D) (b:D),(∀ x∈l,df x=true)->df b=true->∃ m,l.foldl (λb y=>if CH y b=true then y else b) b=m/\(m=b\/m∈l)/\df m=true/\jr m b=true/\∀ x∈l,jr m x=true:=by
  intro l
  induction l with
  | nil=>intro b _ hb;exact⟨b,rfl,.inl rfl,hb,by unfold jr;rw[Vs.lx_irrefl];rfl,λx hx=>by cases hx⟩
  | cons y l ih =>
   intro b hl hb;have hy:=hl y (List.mem_cons_self ..);have lt:CH y b=HT.lexLt (bP y) (bP b):=by
    rw[cT hy,cT hb];rfl
   rw[List.foldl_cons]
   by_cases e:CH y b=true
   ·rw[if_pos e]
    obtain⟨m,m1,m2,m3,m4,m5⟩:=ih y (λx hx=>hl x (List.mem_cons_of_mem _ hx)) hy;refine⟨m,m1,?_,m3,?_,λx hx=>?_⟩
    ·rcases m2 with rfl|m2
     ·exact .inr (List.mem_cons_self ..)
     ·exact .inr (List.mem_cons_of_mem _ m2)
    ·refine iH m y b m4 ?_
     unfold jr;rw[lt] at e;cases e2:HT.lexLt (bP b) (bP y) with
     | false=>rfl
     | true=>have:=Vs.lx_trans _ _ _ e e2;rw[Vs.lx_irrefl] at this;cases this
    ·rcases List.mem_cons.mp hx with rfl|hx
     ·exact m4
     ·exact m5 x hx
   ·rw[if_neg e]
    obtain⟨m,m1,m2,m3,m4,m5⟩:=ih b (λx hx=>hl x (List.mem_cons_of_mem _ hx)) hb;refine⟨m,m1,?_,m3,m4,λx hx=>?_⟩
    ·rcases m2 with rfl|m2
     ·exact .inl rfl
     ·exact .inr (List.mem_cons_of_mem _ m2)
    ·rcases List.mem_cons.mp hx with rfl|hx
     ·refine iH m b x m4 ?_
      unfold jr;rw[lt] at e;simpa using e
     ·exact m5 x hx
 have hp:=aU xs;have hs:=cS xs;cases xs with
 | nil=>rw[List.perm_nil.mp hp];rfl
 | cons x xs =>
  have all:=List.all_eq_true.mp h;obtain⟨m,m1,m2,m3,m4,m5⟩:=key xs x (λy hy=>all y (List.mem_cons_of_mem _ hy)) (all x (List.mem_cons_self ..));have hm:m∈x::xs:=by rcases m2 with rfl|m2;exact List.mem_cons_self ..;exact List.mem_cons_of_mem _ m2
  have hall:∀ y∈x::xs,jr m y=true:=λy hy=>by
   rcases List.mem_cons.mp hy with rfl|hy
   ·exact m4
   ·exact m5 y hy
  show some _=_;rw[m1];cases e:bF (x::xs) with
  | nil=>rw[e] at hp;exact absurd hp.length_eq (by simp)
  | cons a l =>
   rw[e] at hp hs;have ha:a∈x::xs:=hp.mem_iff.mp (List.mem_cons_self ..);have h1:=hall a ha;have h2:jr a m=true:=by
    rcases List.mem_cons.mp (hp.mem_iff.mpr hm) with rfl|hm
    ·unfold jr;rw[Vs.lx_irrefl];rfl
    ·exact (List.pairwise_cons.mp hs).1 m hm
   unfold jr at h1 h2;simp only[Bool.not_eq_true'] at h1 h2;show some m=some a;rw[cT m3,cT (all a ha),Vs.lx_tri _ _ h2 h1]

def qS (b:Bool)(pts:List (List Int)):D:=(jR (bo b pts)).getD .non
def qT:bD:=λds Q=>∃ b n pts,ds=[dM pts,cm b]/\Good n pts/\pts.length<=1000/\Q (.sh (qS b pts))
theorem MW (ds:List D)(Q:B->Prop)(h:qT ds Q):wk nw ko { nx:=λ_=>Q (.sh .non),rt:=λb _=>Q b } (aO wj.length ds):=by
 obtain⟨b,n,pts,rfl,hg,hl,h⟩:=h;unfold wk;refine ai λN hN=>?_;walk_at "vx";refine⟨n,b,pts,rfl,hg.shape,?_⟩;walk_at "vx";subst hN;walk_at "vx";refine⟨b,n,pts,rfl,hg,hl,?_⟩;walk_at "vx";refine⟨.inr (List.all_eq_true.mpr λd hd=>?_),h⟩;obtain⟨p,q,_,_,rfl⟩:=cH hd;rfl
theorem Cn (b:Bool)(pts:List (List Int)):qS b pts=.non\/∃ p q,qS b pts=pairD b pts p q:=by
 unfold qS;rw[lx (eg b pts)];cases e:bF (bo b pts) with
 | nil=>exact .inl rfl
 | cons a l =>
  have:a∈bo b pts:=(aU _).mem_iff.mp (by rw[e];exact List.mem_cons_self ..)
  obtain⟨p,q,_,_,h⟩:=cH this;exact .inr ⟨p,q,h⟩
def dh (p:List Int)(side:Int):List Int:=p.map λx=>x / side
def qU:bD:=λds Q=>∃ (p:List Int) (side:Int),ds=[bB p,.int side]/\p.length<=1000/\1<=side/\side < 2^200/\Q (.sh (bB (dh p side)))
theorem MX (ds:List D)(Q:B->Prop)(h:qU ds Q):wm { nx:=λ_=>Q (.sh .non),rt:=λb _=>Q b } (aO wl.length ds):=by
 obtain⟨p,side,rfl,hl,h1,h2,h⟩:=h;unfold wm;rw[show bB p=.tup (p.map D.int) from rfl]
 walk_at "vx";refine ck D.int (λx:Int=>D.int (x / side)) p (λx hx A ha=>?_) (by rw[sz];omega) ?_
 ·walk_at "vx"
  exact⟨by unfold gn;omega,ha⟩
 ·walk_at "vx"
  have e:bB (dh p side)=.tup (p.map λx:Int=>D.int (x / side)):=by unfold bB dh;rw[List.map_map];rfl
  rw[e] at h;exact h
def iO (b:Bool)(side j:Int):Bool:=decide (1<=side)&&(if b=true then decide (j<=side*side) else decide (j<=side))
def qV:bD:=λds Q=>∃ (b:Bool) (side j:Int),ds=[cm b,.int side,.int j]/\(-(2^300) < side/\side < 2^300)/\Q (.sh (.bl (iO b side j)))
theorem MY (ds:List D)(Q:B->Prop)(h:qV ds Q):FJ { nx:=λ_=>Q (.sh .non),rt:=λb _=>Q b } (aO FI.length ds):=by
 obtain⟨b,side,j,rfl,hs,h⟩:=h;unfold FJ;unfold iO at h;refine ai λN hN=>?_;walk_at "vx"
 by_cases h1:side < 1
 ·rw[decide_eq_false (by omega)] at h
  exact (if_pos h1).mpr h
 rw[decide_eq_true (show 1<=side by omega),Bool.true_and] at h
 refine (if_neg h1).mpr ?_;subst hN;refine ai λN hN=>?_;cases b
 ·rw[show cm false=.str "streets" from rfl]
  walk_at "vx";refine⟨⟨bQ,bQ⟩,?_⟩;refine (if_pos (by simp [cO])).mpr ?_
  exact h
 ·rw[show cm true=.str "squares" from rfl]
  walk_at "vx";refine⟨⟨cG,bQ⟩,?_⟩;refine (if_neg (by decide +kernel)).mpr ?_
  subst hN;walk_at "vx";exact⟨⟨hs,hs⟩,h⟩
abbrev PL:=List (List Int×List D)
def fu (l:PL)(k:List Int)(d:D):PL:=if (l.any λt=>decide (t.1=k))=true then l.map (λt=>if t.1=k then (t.1,t.2++[d]) else t) else l++[(k,[d])]
def bZ (pts:List (List Int))(s:Int):Nat->PL
 | 0=>[]
 | i+1=>fu (bZ pts s i) (dh (pts.getD i []) s) (.int (i:Nat))
def dk (l:PL)(k:List Int):List D:=((l.find? λt=>decide (t.1=k)).map (·.2)).getD []
def cI (pts:List (List Int))(s:Int):List D:=(bF ((bZ pts s pts.length).map λt=>bB t.1)).map λkd=>.tup [kd,.lst (dk (bZ pts s pts.length) (bP kd))]
theorem xi (l:PL)(k:List Int)(d:D):(fu l k d).length<=l.length+1:=by
 unfold fu
 split
 ·rw[List.length_map];omega
 ·rw[List.length_append];exact Nat.le_refl _
theorem xj {l:PL}{k:List Int}{d:D}{t:List Int×List D}(h:t∈fu l k d):(t.1=k\/∃ u∈l,t.1=u.1)/\((∃ u∈l,t.2.length<=u.2.length+1)\/t.2.length=1):=by
 unfold fu at h
 split at h
 ·obtain⟨u,hu,rfl⟩:=List.mem_map.mp h
  split
  ·exact⟨.inr ⟨u,hu,rfl⟩,.inl ⟨u,hu,by rw[List.length_append];exact Nat.le_refl _⟩⟩
  ·exact⟨.inr ⟨u,hu,rfl⟩,.inl ⟨u,hu,by omega⟩⟩
 ·rcases List.mem_append.mp h with h|h
  ·exact⟨.inr ⟨t,h,rfl⟩,.inl ⟨t,h,by omega⟩⟩
  ·rw[List.mem_singleton.mp h]
   exact⟨.inl rfl,.inr rfl⟩
theorem dN (pts:List (List Int))(s:Int):∀ i,(bZ pts s i).length<=i
 | 0=>Nat.le_refl _
 | i+1=>Nat.le_trans (xi _ _ _) (Nat.succ_le_succ (dN pts s i))
theorem ci {pts:List (List Int)}{s:Int}:∀ {i:Nat} {t:List Int×List D},t∈bZ pts s i->t.2.length<=i/\∃ j < i,t.1=dh (pts.getD j []) s
 | 0,t,h=>nomatch h
 | i+1,t,h=>by
  obtain⟨h1,h2⟩:=xj h;refine⟨?_,?_⟩
  ·rcases h2 with ⟨u,hu,e⟩|e
   ·have:=(ci hu).1;omega
   ·omega
  ·rcases h1 with e|⟨u,hu,e⟩
   ·exact⟨i,by omega,e⟩
   ·obtain⟨j,hj,e2⟩:=(ci hu).2
    exact⟨j,by omega,e.trans e2⟩
def Strip (ts:uf)(l:PL):Prop:=ts.map (λt=>(t.1,t.2.2))=l.map λt=>(t.1.map Sum.inl,t.2)
theorem jv:∀ {a b:List Int},a.map (Sum.inl:Int->bw)=b.map Sum.inl->a=b
 | [],[],_=>rfl
 | [],_::_,h=>by cases h
 | _::_,[],h=>by cases h
 | x::a,y::b,h=>by
  rw[List.map_cons,List.map_cons] at h;obtain⟨h1,h2⟩:=List.cons.inj h;rw[Sum.inl.inj h1,jv h2]
theorem Strip.any {ts:uf}{l:PL}(h:Strip ts l)(k:List Int):(ts.any λt=>decide (t.1=k.map Sum.inl))=l.any λt=>decide (t.1=k):=by
 have e1:(ts.any λt=>decide (t.1=k.map Sum.inl))=(ts.map λt=>(t.1,t.2.2)).any λt=>decide (t.1=k.map Sum.inl):=by rw[List.any_map];rfl
 rw[e1,h,List.any_map];congr 1;funext t;show decide (t.1.map Sum.inl=k.map (Sum.inl:Int->bw))=decide (t.1=k)
 by_cases e:t.1=k
 ·rw[e,decide_eq_true rfl,decide_eq_true rfl]
 ·rw[decide_eq_false e,decide_eq_false λz=>e (jv z)]
theorem Strip.add {ts:uf}{l:PL}(h:Strip ts l)(k:List Int)(p:Addr)(d:D):Strip (dw ts (k.map Sum.inl) p d) (fu l k d):=by
 unfold Strip dw fu;rw[h.any k]
 split
 ·have e1:(ts.map λt=>if t.1=k.map Sum.inl then (t.1,t.2.1,t.2.2++[d]) else t).map (λt=>(t.1,t.2.2))=(ts.map λt=>(t.1,t.2.2)).map λt=>if t.1=k.map Sum.inl then (t.1,t.2++[d]) else t:=by
   rw[List.map_map,List.map_map];refine List.map_congr_left λt _=>?_;show ((if t.1=k.map Sum.inl then (t.1,t.2.1,t.2.2++[d]) else t).1,(if t.1=k.map Sum.inl then (t.1,t.2.1,t.2.2++[d]) else t).2.2)=if t.1=k.map Sum.inl then (t.1,t.2.2++[d]) else (t.1,t.2.2)
   split<;>rfl
  rw[e1,h,List.map_map,List.map_map];refine List.map_congr_left λt _=>?_;show (if t.1.map Sum.inl=k.map (Sum.inl:Int->bw) then (t.1.map Sum.inl,t.2++[d]) else (t.1.map Sum.inl,t.2))=((if t.1=k then (t.1,t.2++[d]) else t).1.map Sum.inl,(if t.1=k then (t.1,t.2++[d]) else t).2)
  by_cases e:t.1=k
  ·rw[if_pos e,if_pos (by rw[e])]
  ·rw[if_neg e,if_neg λz=>e (jv z)]
 ·rw[List.map_append,List.map_append,h];rfl
theorem qW (k:List Int):(k.map (Sum.inl:Int->bw)).map kD=k.map D.int:=by rw[List.map_map];rfl
theorem gU (k:List Int):keyT (bB k)=some (k.map Sum.inl):=by
 show ln (k.map D.int)=_
 induction k with
 | nil=>rfl
 | cons x k ih=>rw[List.map_cons,List.map_cons,ln,ih];rfl
theorem sE (k:List Int):bP (bB k)=k:=by
 show (k.map D.int).map gd=k;rw[List.map_map];exact (List.map_congr_left (λx _=>rfl)).trans (List.map_id _)
theorem Strip.fz {ts:uf}{l:PL}(h:Strip ts l):BZ ts=l.map λt=>(bB t.1,.lst t.2):=by
 have e1:BZ ts=(ts.map λt=>(t.1,t.2.2)).map λt=>(.tup (t.1.map kD),.lst t.2):=by rw[List.map_map];rfl
 rw[e1,h,List.map_map];refine List.map_congr_left λt _=>?_;show (D.tup ((t.1.map Sum.inl).map kD),D.lst t.2)=_;rw[qW];rfl
theorem nB (a b:List Int):cO (bB a) (bB b)=decide (a=b):=by
 rw[show bB a=.tup ((a.map Sum.inl).map kD) by rw[qW];rfl,show bB b=.tup ((b.map Sum.inl).map kD) by rw[qW];rfl,dJ]
 by_cases e:a=b
 ·rw[e,decide_eq_true rfl,decide_eq_true rfl]
 ·rw[decide_eq_false e,decide_eq_false λz=>e (jv z)]
theorem gW (l:PL)(k:List Int)(h:∃ t∈l,t.1=k):ft (l.map λt=>(bB t.1,D.lst t.2)) (bB k)=some (.lst (dk l k)):=by
 unfold ft dk
 induction l with
 | nil=>obtain⟨t,ht,_⟩:=h;cases ht
 | cons t l ih =>
  rw[List.map_cons]
  by_cases e:t.1=k
  ·rw[List.find?_cons_of_pos (by rw[nB];simpa using e),List.find?_cons_of_pos (by simpa using e)];rfl
  ·rw[List.find?_cons_of_neg (by rw[nB];simpa using e),List.find?_cons_of_neg (by simpa using e)]
   obtain⟨u,hu,eu⟩:=h;rcases List.mem_cons.mp hu with rfl|hu
   ·exact absurd eu e
   ·exact ih ⟨u,hu,eu⟩
theorem sG {k:List Int}(h:k≠[]):df (bB k)=true:=by
 show ((k.map D.int).all isInt&&!(k.map D.int).isEmpty)=true;rw[List.all_map];cases k with
 | nil=>exact absurd rfl h
 | cons x k=>simp [isInt]
theorem dP {g:iX}{te:TD}{σ0:Sd}{Q:List D->Prop}(f:D->D)(l:List D)
  (h:∀ a∈l,∀ (A:D->Prop),A (f a)->g a σ0 λσ1=>te σ1 λd σ3=>iY σ0 σ3/\A d)
  (hl:l.length<=sizeLine) (q:Q (l.map f)):eO g bJ te σ0 l [] Q:=by
 have:=ck (g:=g) (te:=te) (σ0:=σ0) (Q:=Q) (λa:D=>a) f l h hl q
 rwa [List.map_id'] at this
def di:bD:=λds Q=>∃ (n:Nat) (pts:List (List Int)) (s:Int),ds=[dM pts,.int s]/\Good n pts/\pts.length<=1000/\1<=s/\s < 2^200/\Q (.own (cI pts s))
theorem Co (ds:List D)(Q:B->Prop)(h:di ds Q):FH qU { nx:=λ_=>Q (.sh .non),rt:=λb _=>Q b } (aO FG.length ds):=by
 obtain⟨n,pts,s,rfl,hg,hl,h1,h2,h⟩:=h;unfold FH;rw[show dM pts=.lst (pts.map bB) from rfl]
 refine ai λN hN=>?_;walk_at "vx";subst hN;refine ai λN hN=>?_;walk_at "vx";rw[eW];refine cq (λq:Nat×List Int=>.tup [.int (q.1:Nat),bB q.2]) _ (λi σ=>∃ ts x3 x4,σ=[some (.sh (.lst (pts.map bB))),some (.sh (.int s)),some (.obj (kI ts)),x3,x4]/\Strip ts (bZ pts s i)) (λi q σ N' hx hI hN'=>?_) (λσ hI=>?_) ⟨[],none,none,rfl,rfl⟩
 ·obtain⟨ts,x3,x4,rfl,hst⟩:=hI
  obtain⟨e1,e2⟩:=km hx;obtain⟨i',p⟩:=q;cases e1;have e2:pts[i']?=some p:=e2;have hi:i' < pts.length:=(List.getElem?_eq_some_iff.mp e2).1;have hp:p=pts.getD i' []:=by rw[List.getD_eq_getElem?_getD,e2];rfl
  have hpm:=List.mem_of_getElem? e2;walk_at "vg";walk_at "vx";have lts:ts.length<=i':=by
   have l1:=congrArg List.length hst;simp only[List.length_map] at l1;have l2:=dN pts s i';rw[l1];exact l2
  refine⟨⟨ts,rfl⟩,p,s,rfl,by have:=(hg.2 p hpm).1;have:=hg.1;omega,h1,h2,?_⟩
  walk_at "vx";refine⟨ts,_,_,rfl,gU _,rfl,by omega,λt ht=>?_,λa=>hN' _ ⟨_,_,_,rfl,?_⟩⟩
  ·have:(t.1,t.2.2)∈(bZ pts s i').map λt=>(t.1.map (Sum.inl:Int->bw),t.2):=by rw[<- hst];exact List.mem_map_of_mem ht
   obtain⟨u,hu,eu⟩:=List.mem_map.mp this;have e3:u.2=t.2.2:=(Prod.mk.inj eu).2;have:=(ci hu).1;rw[e3] at this;omega
  ·show Strip _ (fu _ _ _)
   rw[<- hp];exact hst.add _ a _
 ·obtain⟨ts,x3,x4,rfl,hst⟩:=hI
  subst hN;rw[show (pts.mapIdx λi x=>(i,x)).length=pts.length from List.length_mapIdx] at hst
  walk_at "vx";refine⟨ts,rfl,?_⟩;rw[hst.fz];walk_at "vx";have hn0:∀ t∈bZ pts s pts.length,t.1≠[]/\t.1.length<=3:=λt ht=>by
   obtain⟨j,hj,e⟩:=(ci ht).2;have:=(hg.2 _ (bS hj)).1;have:=hg.1;rw[e];unfold dh;refine⟨λz=>?_,by rw[List.length_map];omega⟩
   have:=congrArg List.length z;rw[List.length_map] at this;simp only[List.length_nil] at this;omega
  refine⟨List.all_eq_true.mpr λkv hkv=>?_,?_⟩
  ·obtain⟨t,ht,rfl⟩:=List.mem_map.mp hkv
   show df (bB t.1)=true;exact sG (hn0 t ht).1
  have hk:(bZ pts s pts.length).map (λt=>bB t.1)=((bZ pts s pts.length).map λt=>(bB t.1,D.lst t.2)).map (·.1):=by rw[List.map_map];rfl
  rw[<- hk];have hsl:(bF ((bZ pts s pts.length).map λt=>bB t.1)).length<=1000:=by
   rw[(aU _).length_eq,List.length_map];have:=dN pts s pts.length;omega
  have hsm:∀ kd∈bF ((bZ pts s pts.length).map λt=>bB t.1),∃ t∈bZ pts s pts.length,bB t.1=kd:=λkd hkd=>List.mem_map.mp ((aU _).mem_iff.mp hkd);refine dP (λkd=>.tup [kd,.lst (dk (bZ pts s pts.length) (bP kd))]) _ (λkd hkd A ha=>?_) (by rw[sz];omega) h
  obtain⟨t,ht,rfl⟩:=hsm kd hkd;walk_at "vg";walk_at "vx";refine⟨.lst (dk (bZ pts s pts.length) t.1),by rw[gU];rfl,gW _ _ ⟨t,ht,rfl⟩,?_⟩
  rw[sE] at ha;exact⟨by decide,ha⟩

def Pap (es:List D):Prop:=∀ e∈es,∃ ks ps,e=.tup [.tup ks,.lst ps]/\ks.all isInt=true/\ps.all isInt=true/\ks.length<=1000000/\ps.length<=1000000
theorem iP {xs:List D}(h:xs.all isInt=true)(n:Nat):xs.all (bx n)=true:=List.all_eq_true.mpr λd hd=>by
 have:=List.all_eq_true.mp h d hd;cases d with
 | int i=>cases n<;>rfl
 | _=>exact absurd this (by simp [isInt])
theorem Pap.ok {es:List D}(h:Pap es):bx 8 (.lst es)=true:=List.all_eq_true.mpr λe he=>by
 obtain⟨ks,ps,rfl,h1,h2,_⟩:=h e he;show (bx 6 (.tup ks)&&(bx 6 (.lst ps)&&true))=true;rw[show bx 6 (.tup ks)=ks.all (bx 5) from rfl,show bx 6 (.lst ps)=ps.all (bx 5) from rfl,iP h1,iP h2];rfl
theorem gX {pts:List (List Int)}{s:Int}:∀ {i:Nat} {t:List Int×List D},t∈bZ pts s i->t.2.all isInt=true
 | 0,t,h=>nomatch h
 | i+1,t,h=>by
  have h:t∈fu (bZ pts s i) (dh (pts.getD i []) s) (.int (i:Nat)):=h;unfold fu at h
  split at h
  ·obtain⟨u,hu,rfl⟩:=List.mem_map.mp h
   have:=gX hu
   split
   ·show (u.2++[D.int (i:Nat)]).all isInt=true
    rw[List.all_append,this];rfl
   ·exact this
  ·rcases List.mem_append.mp h with h|h
   ·exact gX h
   ·rw[List.mem_singleton.mp h];rfl
theorem gY {l:PL}{k:List Int}:dk l k=[]\/∃ t∈l,dk l k=t.2:=by
 unfold dk;cases e:l.find? λt=>decide (t.1=k) with
 | none=>exact .inl rfl
 | some t=>exact .inr ⟨t,List.mem_of_find?_eq_some e,rfl⟩
theorem iQ {n:Nat}{pts:List (List Int)}{s:Int}(hg:Good n pts)(hl:pts.length<=1000):Pap (cI pts s)/\(cI pts s).length<=1000:=by
 refine⟨λe he=>?_,?_⟩
 ·obtain⟨kd,hkd,rfl⟩:=List.mem_map.mp he
  obtain⟨t,ht,rfl⟩:=List.mem_map.mp ((aU _).mem_iff.mp hkd);obtain⟨j,hj,e⟩:=(ci ht).2;have hlen:t.1.length=n:=by
   rw[e];unfold dh;rw[List.length_map];exact (hg.2 _ (bS hj)).1
  have hv:(dk (bZ pts s pts.length) (bP (bB t.1))).all isInt=true/\(dk (bZ pts s pts.length) (bP (bB t.1))).length<=1000:=by
   rcases gY (l:=bZ pts s pts.length) (k:=bP (bB t.1)) with e|⟨u,hu,e⟩
   ·rw[e];exact⟨rfl,by decide⟩
   ·rw[e];exact⟨gX hu,by have:=(ci hu).1;omega⟩
  refine⟨t.1.map D.int,_,rfl,by rw[List.all_map];exact List.all_eq_true.mpr λ_ _=>rfl,hv.1,by rw[List.length_map];have:=hg.1;omega,by omega⟩
 ·unfold cI
  rw[List.length_map,(aU _).length_eq,List.length_map];have:=dN pts s pts.length;omega
def sI:bD:=λds Q=>∃ d xs,ds=[d]/\(d=.lst xs\/d=.tup xs)/\xs.all isInt=true/\xs.length<=1000000/\Q (.sh (.bl true))
theorem nC (xs:List D):(xs.map λ_=>D.bl true).all BQ=true/\((xs.map λ_=>D.bl true).map Qu).all id=true:=by
 induction xs with
 | nil=>exact⟨rfl,rfl⟩
 | cons x xs ih=>exact⟨by rw[List.map_cons,List.all_cons,ih.1];rfl,by rw[List.map_cons,List.map_cons,List.all_cons,ih.2];rfl⟩
theorem QR (ds:List D)(Q:B->Prop)(h:sI ds Q):wq { nx:=λ_=>Q (.sh .non),rt:=λb _=>Q b } (aO wp.length ds):=by
 obtain⟨d,xs,rfl,hd,hi,hl,h⟩:=h;unfold wq;rcases hd with rfl|rfl
 all_goals
  walk_at "vx";refine dP (λ_=>.bl true) xs (λd hd A ha=>?_) (by rw[sz];omega) ?_
  ·have:=List.all_eq_true.mp hi d hd
   cases d with
   | int i =>
    walk_at "vg";walk_at "vx";exact ha
   | _=>exact absurd this (by simp [isInt])
  rw[(nC xs).2];exact⟨(nC xs).1,h⟩
def qX:bD:=λds Q=>∃ ks ps,ds=[.tup [.tup ks,.lst ps]]/\ks.all isInt=true/\ps.all isInt=true/\ks.length<=1000000/\ps.length<=1000000/\Q (.sh (.bl true))
theorem MZ (ds:List D)(Q:B->Prop)(h:qX ds Q):FO sI { nx:=λ_=>Q (.sh .non),rt:=λb _=>Q b } (aO FN.length ds):=by
 obtain⟨ks,ps,rfl,h1,h2,h3,h4,h⟩:=h;unfold FO;refine ai λN hN=>?_;walk_at "vx";refine (if_neg (by decide +kernel)).mpr ⟨⟨rfl,rfl⟩,(if_neg (by decide +kernel)).mpr ?_⟩
 subst hN;have i0:∀ P:D->Prop,P (.tup ks)->og (D.tup [D.tup ks,D.lst ps]) (D.int 0) P:=λP hP=>bn (n:=0) rfl rfl hP;have i1:∀ P:D->Prop,P (.lst ps)->og (D.tup [D.tup ks,D.lst ps]) (D.int 1) P:=λP hP=>bn (n:=1) rfl rfl hP;refine ai λN hN=>?_;walk_at "vx";refine i0 _ ?_;walk_at "vx";refine (if_neg (by decide +kernel)).mpr ?_
 refine i1 _ ?_;walk_at "vx";refine (if_neg (by decide +kernel)).mpr ?_
 subst hN;walk_at "vx";refine i0 _ ⟨_,ks,rfl,.inr rfl,h1,h3,?_⟩;walk_at "vx";refine i1 _ ⟨_,ps,rfl,.inl rfl,h2,h4,?_⟩;walk_at "vx";exact h
def xk:bD:=λds Q=>∃ (side:Int) (es:List D),ds=[.tup [.int side,.lst es]]/\Pap es/\es.length<=1000000/\Q (.sh (.bl true))
theorem QS (ds:List D)(Q:B->Prop)(h:xk ds Q):wt sI qX { nx:=λ_=>Q (.sh .non),rt:=λb _=>Q b } (aO wr.length ds):=by
 obtain⟨side,es,rfl,hp,hl,h⟩:=h;unfold wt;refine ai λN hN=>?_;walk_at "vx";refine (if_neg (by decide +kernel)).mpr ⟨⟨rfl,rfl⟩,(if_neg (by decide +kernel)).mpr ?_⟩
 subst hN;have i0:∀ P:D->Prop,P (.int side)->og (D.tup [D.int side,D.lst es]) (D.int 0) P:=λP hP=>bn (n:=0) rfl rfl hP;have i1:∀ P:D->Prop,P (.lst es)->og (D.tup [D.int side,D.lst es]) (D.int 1) P:=λP hP=>bn (n:=1) rfl rfl hP;refine ai λN hN=>?_;walk_at "vx";refine i0 _ ⟨by decide,_,[.int side],rfl,.inl rfl,rfl,by show 1<=1000000;decide,?_⟩
 walk_at "vx";refine (if_neg (by decide +kernel)).mpr ?_
 refine i1 _ ?_;walk_at "vx";refine (if_neg (by decide +kernel)).mpr ?_
 subst hN;walk_at "vx";refine i1 _ ?_;walk_at "vx";refine dP (λ_=>.bl true) es (λd hd A ha=>?_) (by rw[sz];omega) ?_
 ·obtain⟨ks,ps,rfl,a1,a2,a3,a4⟩:=hp d hd
  walk_at "vg";walk_at "vx";refine⟨ks,ps,rfl,a1,a2,a3,a4,?_⟩;walk_at "vx";exact ha
 rw[(nC es).2];exact⟨(nC es).1,h⟩
def kr (b:Bool)(pts:List (List Int))(j:Int):Bool:=match qS b pts with
 | .tup [.int f,_,_]=>decide (f < j)
 | _=>false
def pG (b:Bool)(pts:List (List Int))(j side:Int)(es:List D):Bool:=iO b side j&&cO (.lst es) (.lst (cI pts side))&&!kr b pts j
def qY:bD:=λds Q=>∃ j:Int,ds=[.int j]/\1<=j/\Q (.sh .non)
theorem Na (ds:List D)(Q:B->Prop)(h:qY ds Q):FA { nx:=λ_=>Q (.sh .non),rt:=λb _=>Q b } (aO Fz.length ds):=by
 obtain⟨j,rfl,hj,h⟩:=h;unfold FA;walk_at "vx";rw[if_neg (by omega)]
 exact h
def qZ:bD:=λds Q=>∃ (b:Bool) (n:Nat) (pts:List (List Int)) (j:Int),ds=[dM pts,cm b,.int j]/\Good n pts/\pts.length<=1000/\Q (.sh (.bl (kr b pts j)))
theorem Nb (ds:List D)(Q:B->Prop)(h:qZ ds Q):FL qT { nx:=λ_=>Q (.sh .non),rt:=λb _=>Q b } (aO FK.length ds):=by
 obtain⟨b,n,pts,j,rfl,hg,hl,h⟩:=h;unfold FL;unfold kr at h;refine ai λN hN=>?_;walk_at "vx";refine⟨b,n,pts,rfl,hg,hl,?_⟩;rcases Cn b pts with e|⟨p,q,e⟩
 ·rw[e] at h ⊢
  walk_at "vx";subst hN;walk_at "vx";exact h
 ·rw[e] at h ⊢
  unfold pairD at h ⊢;walk_at "vx";subst hN;walk_at "vx";refine bn (n:=0) rfl rfl ?_;exact h
def nD:bD:=λds Q=>∃ (n:Nat) (b:Bool) (pts:List (List Int)) (j side:Int) (es:List D),ds=[dM pts,cm b,.int j,.tup [.int side,.lst es]]/\Good n pts/\pts.length<=1000/\Pap es/\es.length<=1000000/\(-(2^200) < side/\side < 2^200)/\1<=j/\Q (.sh (.bl (pG b pts j side es)))
theorem Gv (ds:List D)(Q:B->Prop)(h:nD ds Q):wv nw qY xk qV di qZ { nx:=λ_=>Q (.sh .non),rt:=λb _=>Q b } (aO wu.length ds):=by
 obtain⟨n,b,pts,j,side,es,rfl,hg,hl,hpap,hel,hs,hj,h⟩:=h;unfold wv;refine ai λN hN=>?_;walk_at "vx";refine⟨n,b,pts,rfl,hg.shape,?_⟩;walk_at "vx";subst hN;refine ai λN hN=>?_;walk_at "vx";refine⟨j,rfl,hj,?_⟩;walk_at "vx";subst hN;have i0:∀ P:D->Prop,P (.int side)->og (D.tup [D.int side,D.lst es]) (D.int 0) P:=λP hP=>bn (n:=0) rfl rfl hP;have i1:∀ P:D->Prop,P (.lst es)->og (D.tup [D.int side,D.lst es]) (D.int 1) P:=λP hP=>bn (n:=1) rfl rfl hP;refine ai λN hN=>?_;walk_at "vx";refine⟨side,es,rfl,hpap,hel,?_⟩;walk_at "vx";refine (if_neg (by decide)).mpr ?_
 refine i0 _ ?_;refine⟨b,side,j,rfl,by omega,?_⟩
 unfold pG at h;walk_at "vx";cases he:iO b side j with
 | false =>
  rw[he,Bool.false_and,Bool.false_and] at h;exact (if_pos rfl).mpr h
 | true =>
  rw[he,Bool.true_and] at h;refine (if_neg (by decide)).mpr ?_
  have hs1:1<=side:=by
   unfold iO at he;rw[Bool.and_eq_true] at he;exact of_decide_eq_true he.1
  subst hN;refine ai λN hN=>?_;walk_at "vx";refine i1 _ ?_;refine i0 _ ?_;refine⟨n,pts,side,rfl,hg,hl,hs1,hs.2,?_⟩;walk_at "vx";refine⟨⟨hpap.ok,(iQ hg hl).1.ok⟩,?_⟩;cases hq:cO (.lst es) (.lst (cI pts side)) with
  | false =>
   rw[hq,Bool.false_and] at h;exact (if_pos rfl).mpr h
  | true =>
   rw[hq,Bool.true_and] at h;refine (if_neg (by decide)).mpr ?_
   subst hN;walk_at "vx";refine⟨b,n,pts,j,rfl,hg,hl,?_⟩;walk_at "vx";exact h

theorem ud (l:PL)(k:List Int)(d:D)(h:(l.map (·.1)).Nodup):((fu l k d).map (·.1)).Nodup:=by
 unfold fu
 split
 ·have e:(l.map λt=>if t.1=k then (t.1,t.2++[d]) else t).map (·.1)=l.map (·.1):=by
   rw[List.map_map];refine List.map_congr_left λt _=>?_;show (if t.1=k then (t.1,t.2++[d]) else t).1=t.1
   split<;>rfl
  rw[e];exact h
 ·rename_i hn
  rw[List.map_append,List.nodup_append];refine⟨h,by simp,λx hx y hy z=>hn ?_⟩
  obtain⟨t,ht,e⟩:=List.mem_map.mp hx;have hy:y=k:=by simpa using hy
  exact List.any_eq_true.mpr ⟨t,ht,decide_eq_true (e.trans (z.trans hy))⟩
theorem ly (pts:List (List Int))(s:Int):∀ i,((bZ pts s i).map (·.1)).Nodup
 | 0=>List.nodup_nil
 | i+1=>ud _ _ _ (ly pts s i)
def fv (l:PL):List (D×D):=l.map λt=>(bB t.1,.lst t.2)
theorem kt (l:PL)(k:List Int):((fv l).any λkv=>cO kv.1 (bB k))=l.any λt=>decide (t.1=k):=by
 unfold fv;rw[List.any_map];congr 1;funext t;exact nB t.1 k
theorem lA (l:PL)(k:List Int)(h:(l.any λt=>decide (t.1=k))=false):ft (fv l) (bB k)=none:=by
 unfold ft;rw[<- kt] at h;rw[List.find?_eq_none.mpr λkv hkv=>by have:=List.any_eq_false.mp h kv hkv;exact this];rfl
theorem xl (l:PL)(k:List Int)(d:D)(hn:(l.map (·.1)).Nodup):pp (fv l) (bB k) (.lst ((match (ft (fv l) (bB k)).getD (.lst []) with|.lst xs=>xs|_=>[])++[d]))=fv (fu l k d):=by
 cases ha:l.any λt=>decide (t.1=k) with
 | false =>
  rw[lA l k ha];unfold pp fu;rw[kt,ha,if_neg (by decide),if_neg (by decide)]
  unfold fv;rw[List.map_append];rfl
 | true =>
  obtain⟨t0,ht0,e0⟩:=List.any_eq_true.mp ha;have e0:=of_decide_eq_true e0;have hv:ft (fv l) (bB k)=some (.lst (dk l k)):=gW l k ⟨t0,ht0,e0⟩;rw[hv];unfold pp fu;rw[kt,ha,if_pos rfl,if_pos rfl];unfold fv;rw[List.map_map,List.map_map];refine List.map_congr_left λt ht=>?_;show (if cO (bB t.1) (bB k)=true then (bB t.1,D.lst (dk l k++[d])) else (bB t.1,D.lst t.2))=(bB (if t.1=k then (t.1,t.2++[d]) else t).1,D.lst (if t.1=k then (t.1,t.2++[d]) else t).2)
  rw[nB]
  by_cases e:t.1=k
  ·rw[if_pos (decide_eq_true e),if_pos e]
   have:dk l k=t.2:=by
    rcases gY (l:=l) (k:=k) with h|⟨u,hu,h⟩
    ·unfold dk at h
     cases hf:l.find? λt=>decide (t.1=k) with
     | none=>exact absurd (List.find?_eq_none.mp hf t ht) (by simp [e])
     | some u =>
      have h1:=List.mem_of_find?_eq_some hf;have h2:u.1=k:=by simpa using List.find?_some hf
      have:u=t:=dL (·.1) hn h1 ht (h2.trans e.symm)
      unfold dk;rw[hf,this];rfl
    ·unfold dk
     cases hf:l.find? λt=>decide (t.1=k) with
     | none=>exact absurd (List.find?_eq_none.mp hf t ht) (by simp [e])
     | some u =>
      have h1:=List.mem_of_find?_eq_some hf;have h2:u.1=k:=by simpa using List.find?_some hf
      have:u=t:=dL (·.1) hn h1 ht (h2.trans e.symm)
      rw[this];rfl
   rw[this]
  ·rw[if_neg (by simp [e]),if_neg e]
theorem xm (l:PL)(k:List Int):∃ xs:List D,(ft (fv l) (bB k)).getD (.lst [])=.lst xs/\(xs=[]\/∃ t∈l,xs=t.2):=by
 cases ha:l.any λt=>decide (t.1=k) with
 | false=>rw[lA l k ha];exact⟨[],rfl,.inl rfl⟩
 | true =>
  obtain⟨t0,ht0,e0⟩:=List.any_eq_true.mp ha;have hv:ft (fv l) (bB k)=some (.lst (dk l k)):=gW l k ⟨t0,ht0,of_decide_eq_true e0⟩;rw[hv];exact⟨dk l k,rfl,gY⟩
theorem xn (ds:List D)(Q:B->Prop)(h:di ds Q):wI { nx:=λ_=>Q (.sh .non),rt:=λb _=>Q b } (aO wH.length ds):=by
 obtain⟨n,pts,s,rfl,hg,hl,h1,h2,h⟩:=h;unfold wI;rw[show dM pts=.lst (pts.map bB) from rfl]
 refine ai λN hN=>?_;walk_at "vx";subst hN;refine ai λN hN=>?_;walk_at "vx";rw[eW];refine cq (λq:Nat×List Int=>.tup [.int (q.1:Nat),bB q.2]) _ (λi σ=>∃ x3 x4 x5,σ=[some (.sh (.lst (pts.map bB))),some (.sh (.int s)),some (.obj (ue (fv (bZ pts s i)))),x3,x4,x5]) (λi q σ N' hx hI hN'=>?_) (λσ hI=>?_) ⟨none,none,none,rfl⟩
 ·obtain⟨x3,x4,x5,rfl⟩:=hI
  obtain⟨e1,e2⟩:=km hx;obtain⟨i',p⟩:=q;cases e1;have e2:pts[i']?=some p:=e2;have hi:i' < pts.length:=(List.getElem?_eq_some_iff.mp e2).1;have hp:p=pts.getD i' []:=by rw[List.getD_eq_getElem?_getD,e2];rfl
  have hpm:=List.mem_of_getElem? e2;rw[show bB p=.tup (p.map D.int) from rfl]
  walk_at "vg";refine ai λN1 hN1=>?_;walk_at "vx";refine ck D.int (λx:Int=>D.int (x / s)) p (λx hx A ha=>?_) (by rw[sz];have:=(hg.2 p hpm).1;have:=hg.1;omega) ?_
  ·walk_at "vx"
   exact⟨by unfold gn;omega,ha⟩
  walk_at "vx";rw[show D.tup (p.map λx:Int=>D.int (x / s))=bB (dh p s) by unfold bB dh;rw[List.map_map];rfl]
  subst hN1;walk_at "vx";refine⟨⟨_,rfl⟩,by decide,_,_,rfl,gU _,?_⟩
  obtain⟨xs,ex,hxs⟩:=xm (bZ pts s i') (dh p s);have hput:=xl (bZ pts s i') (dh p s) (.int (i':Nat)) (ly pts s i');rw[ex] at hput ⊢;have hxl:xs.length<=1000:=by
   rcases hxs with rfl|⟨t,ht,rfl⟩
   ·exact Nat.zero_le _
   ·have:=(ci ht).1;omega
  walk_at "vx";have htl:(fv (bZ pts s i')).length < sizeLine:=by unfold fv;rw[List.length_map,sz];have:=dN pts s i';omega
  refine⟨by decide,by rw[sz];omega,⟨_,rfl⟩,_,_,rfl,gU _,htl,?_⟩
  rw[hput];have et:fu (bZ pts s i') (dh p s) (.int (i':Nat))=bZ pts s (i'+1):=by rw[hp];rfl
  rw[et];exact hN' _ ⟨_,_,_,rfl⟩
 ·obtain⟨x3,x4,x5,rfl⟩:=hI
  subst hN;rw[show (pts.mapIdx λi x=>(i,x)).length=pts.length from List.length_mapIdx]
  walk_at "vx";have hn0:∀ t∈bZ pts s pts.length,t.1≠[]:=λt ht z=>by
   obtain⟨j,hj,e⟩:=(ci ht).2;have l1:=(hg.2 _ (bS hj)).1;have l2:=hg.1;rw[e] at z;have:=congrArg List.length z;unfold dh at this;rw[List.length_map] at this;simp only[List.length_nil] at this;omega
  refine⟨_,rfl,List.all_eq_true.mpr λkv hkv=>?_,?_⟩
  ·obtain⟨t,ht,rfl⟩:=List.mem_map.mp hkv
   exact sG (hn0 t ht)
  have hk:(bZ pts s pts.length).map (λt=>bB t.1)=(fv (bZ pts s pts.length)).map (·.1):=by unfold fv;rw[List.map_map];rfl
  rw[<- hk];have hsl:(bF ((bZ pts s pts.length).map λt=>bB t.1)).length<=1000:=by
   rw[(aU _).length_eq,List.length_map];have:=dN pts s pts.length;omega
  refine dP (λkd=>.tup [kd,.lst (dk (bZ pts s pts.length) (bP kd))]) _ (λkd hkd A ha=>?_) (by rw[sz];omega) h
  obtain⟨t,ht,rfl⟩:=List.mem_map.mp ((aU _).mem_iff.mp hkd);walk_at "vg";walk_at "vx";refine⟨.lst (dk (bZ pts s pts.length) t.1),by rw[gU];rfl,gW _ _ ⟨t,ht,rfl⟩,?_⟩
  rw[sE] at ha;exact⟨by decide,ha⟩
def sJ (b:Bool)(j side:Int):Bool:=if b=true then decide (j<=side*side) else decide (j<=side)
def nE:bD:=λds Q=>∃ (b:Bool) (j side:Int),ds=[cm b,.int j,.int side]/\(-(2^300) < side/\side < 2^300)/\Q (.sh (.bl (sJ b j side)))
theorem Gw (ds:List D)(Q:B->Prop)(h:nE ds Q):wK { nx:=λ_=>Q (.sh .non),rt:=λb _=>Q b } (aO wJ.length ds):=by
 obtain⟨b,j,side,rfl,hs,h⟩:=h;unfold wK;unfold sJ at h;cases b
 ·rw[show cm false=.str "streets" from rfl]
  walk_at "vx";refine⟨⟨hs,hs⟩,by decide,⟨bQ,cG⟩,?_⟩
  rw[show cO (.str (Str.ofString "streets")) (.str (Str.ofString "squares"))=false by decide +kernel]
  refine cf (n:=0) rfl rfl ?_;exact h
 ·rw[show cm true=.str "squares" from rfl]
  walk_at "vx";refine⟨⟨hs,hs⟩,by decide,⟨cG,cG⟩,?_⟩
  rw[show cO (.str (Str.ofString "squares")) (.str (Str.ofString "squares"))=true by decide +kernel]
  refine cf (n:=1) rfl rfl ?_;exact h
def ku:bD:=λds Q=>∃ (b:Bool) (j:Int),ds=[cm b,.int j]/\1<=j/\j < 2^150/\∀ r:Int,1<=r->r < 2^150->Q (.sh (.int r))
theorem Cp (ds:List D)(Q:B->Prop)(h:ku ds Q):Gg { nx:=λ_=>Q (.sh .non),rt:=λb _=>Q b } (aO Gf.length ds):=by
 obtain⟨b,j,rfl,h1,h2,h⟩:=h;unfold Gg;refine ai λN hN=>?_;cases b
 ·rw[show cm false=.str "streets" from rfl]
  walk_at "vx";refine⟨⟨bQ,bQ⟩,?_⟩;refine (if_pos (by simp [cO])).mpr ?_
  exact h j h1 h2
 ·rw[show cm true=.str "squares" from rfl]
  walk_at "vx";refine⟨⟨cG,bQ⟩,?_⟩;refine (if_neg (by decide +kernel)).mpr ?_
  subst hN;refine ai λN hN=>?_;walk_at "vx";subst hN;refine ai λN hN=>?_;walk_at "vx";show mf _ _ _ (pq 60 61) _;refine cq (λi:Nat=>D.int (60 - (i:Nat))) (List.range 61) (λi σ=>∃ (sd:Int) (x3:Option B),σ=[some (.sh (.str (Str.ofString "squares"))),some (.sh (.int j)),some (.sh (.int sd)),x3]/\0<=sd/\sd<=(i:Int)*2^60/\i<=61) (λi q σ N' hx hI hN'=>?_) (λσ hI=>?_) ⟨0,none,rfl,by decide,by decide,by decide⟩
  ·obtain⟨sd,x3,rfl,a1,a2,a3⟩:=hI
   have hi:i < 61:=by have:=(List.getElem?_eq_some_iff.mp hx).1;rw[List.length_range] at this;exact this
   have hq:q=i:=by rw[List.getElem?_range hi] at hx;exact (Option.some.inj hx).symm
   subst hq;walk_at "vg";walk_at "vx";have hp:(2:Int)^(60 - (q:Int)).toNat<=2^60:=by
    have:(60 - (q:Int)).toNat<=60:=by omega
    exact_mod_cast Nat.pow_le_pow_right (by decide:0 < 2) this
   have hp0:(0:Int) < 2^(60 - (q:Int)).toNat:=Int.pow_pos (by decide)
   generalize (2:Int)^(60 - (q:Int)).toNat=w at hp hp0;have hq61:(q:Int)<=60:=by omega
   have hc:fk 1 (60 - (q:Int)):=by unfold fk;exact⟨by omega,by omega,by decide⟩
   rw[Int.one_mul];have hq60:(q:Int)*2^60<=60*2^60:=Int.mul_le_mul_of_nonneg_right hq61 (by decide)
   have hq1:((q+1:Nat):Int)*2^60=(q:Int)*2^60+2^60:=by push_cast;rw[Int.add_mul,Int.one_mul]
   have hw:sd+w < 2^67:=by omega
   refine⟨hc,hc,⟨⟨by omega,by omega⟩,by omega,by omega⟩,?_⟩
   split
   ·exact⟨hc,hN' _ ⟨_,_,rfl,by omega,by rw[hq1];omega,by omega⟩⟩
   ·exact hN' _ ⟨_,_,rfl,a1,by rw[hq1];omega,by omega⟩
  ·obtain⟨sd,x3,rfl,a1,a2,a3⟩:=hI
   subst hN;walk_at "vx";rw[List.length_range] at a2;exact h _ (by omega) (by omega)

theorem xo {b:Bool}{pts:List (List Int)}{a:D}{l:List D}(e:bF (bo b pts)=a::l):∃ p q,a=pairD b pts p q/\∀ d∈bF (bo b pts),∃ p' q',d=pairD b pts p' q'/\kK b (pts.getD p []) (pts.getD q [])<=kK b (pts.getD p' []) (pts.getD q' []):=by
 have hm:∀ a∈bF (bo b pts),∃ p q,a=pairD b pts p q:=λa ha=>by
  obtain⟨p,q,_,_,e⟩:=cH ((aU _).mem_iff.mp ha);exact⟨p,q,e⟩
 obtain⟨p,q,rfl⟩:=hm a (by rw[e];exact .head _)
 refine⟨p,q,rfl,λd hd=>?_⟩;obtain⟨p',q',rfl⟩:=hm d hd;refine⟨p',q',rfl,?_⟩;have hs:=cS (bo b pts);rw[e] at hs hd;rcases List.mem_cons.mp hd with e2|hd
 ·have:D.int (kK b (pts.getD p' []) (pts.getD q' []))=D.int (kK b (pts.getD p []) (pts.getD q [])):=by
   unfold pairD at e2
   injection e2 with e2
   exact (List.cons.inj e2).1
  injection this with this
  omega
 ·have:=(List.pairwise_cons.mp hs).1 _ hd
  unfold jr pairD bP at this;simp only[List.map_cons,List.map_nil,gd,HT.lexLt_cons,Bool.not_eq_true'] at this
  split at this
  ·omega
  ·have:=of_decide_eq_false this;omega
theorem xp {b:Bool}{pts:List (List Int)}{j:Int}:cO (.lst ((bF (bo b pts)).filterMap λd=>match d with|.tup [.int f,_,_]=>if f < j then some (D.int 1) else none|_=>none)) (.lst [])=!kr b pts j:=by
 have e2:qS b pts=((bF (bo b pts)).head?).getD .non:=by unfold qS;rw[lx (eg b pts)]
 unfold kr;rw[e2];cases e:bF (bo b pts) with
 | nil=>rfl
 | cons a l =>
  obtain⟨p,q,ea,hall⟩:=xo e;rw[e] at hall;subst ea;show cO (.lst ((pairD b pts p q::l).filterMap _)) (.lst [])=!(decide (kK b (pts.getD p []) (pts.getD q []) < j))
  by_cases hf:kK b (pts.getD p []) (pts.getD q []) < j
  ·rw[List.filterMap_cons_some (b:=D.int 1) (by unfold pairD;exact if_pos hf),decide_eq_true hf];rfl
  ·have:(pairD b pts p q::l).filterMap (λd=>match d with|.tup [.int f,_,_]=>if f < j then some (D.int 1) else none|_=>none)=[]:=List.filterMap_eq_nil_iff.mpr λd hd=>by
    obtain⟨p',q',rfl,hle⟩:=hall d hd;unfold pairD;exact if_neg (by omega)
   rw[this,decide_eq_false hf];rfl
def iR:bD:=λds Q=>∃ (n:Nat) (b:Bool) (pts:List (List Int)) (j side:Int) (es:List D),ds=[dM pts,cm b,.int j,.tup [.int side,.lst es]]/\Good n pts/\pts.length<=1000/\Pap es/\(-(2^200) < side/\side < 2^200)/\Q (.sh (.bl (pG b pts j side es)))
theorem xq (ds:List D)(Q:B->Prop)(h:iR ds Q):wM nE di fh { nx:=λ_=>Q (.sh .non),rt:=λb _=>Q b } (aO wL.length ds):=by
 obtain⟨n,b,pts,j,side,es,rfl,hg,hl,hpap,hs,h⟩:=h;unfold wM;unfold pG iO at h;refine ai λN hN=>?_;walk_at "vx";subst hN;refine ai λN hN=>?_;walk_at "vx"
 by_cases h1:side < 1
 ·rw[decide_eq_false (by omega),Bool.false_and,Bool.false_and,Bool.false_and] at h
  exact (if_pos h1).mpr h
 rw[decide_eq_true (show 1<=side by omega),Bool.true_and] at h
 refine (if_neg h1).mpr ?_;refine⟨b,j,side,rfl,by omega,?_⟩
 walk_at "vx";rw[show (if b=true then decide (j<=side*side) else decide (j<=side))=sJ b j side from rfl] at h
 cases hw:sJ b j side with
 | false =>
  rw[hw,Bool.false_and,Bool.false_and] at h;exact (if_pos rfl).mpr h
 | true =>
  rw[hw,Bool.true_and] at h;refine (if_neg (by decide)).mpr ?_
  refine⟨n,pts,side,rfl,hg,hl,by omega,hs.2,?_⟩
  walk_at "vx";refine⟨⟨hpap.ok,(iQ hg hl).1.ok⟩,?_⟩;cases hq:cO (.lst es) (.lst (cI pts side)) with
  | false =>
   rw[hq,Bool.false_and] at h;exact (if_pos rfl).mpr h
  | true =>
   rw[hq,Bool.true_and] at h;refine (if_neg (by decide)).mpr ?_
   subst hN;walk_at "vx";refine⟨b,n,pts,rfl,hg,hl,?_⟩;walk_at "vx";have hz:=pC (b:=b) hl;have hz2:=(aU (bo b pts)).length_eq;have:bF (bo b pts)=(bF (bo b pts)).map id:=(List.map_id _).symm;rw[this];refine oA id (λd=>match d with|.tup [.int f,_,_]=>if f < j then some (D.int 1) else none|_=>none) _ (λd hd A Bn ha=>?_) (by rw[sz];omega) ?_
   ·obtain⟨p,q,_,_,rfl⟩:=cH ((aU _).mem_iff.mp hd)
    show cR 0 (pairD b pts p q) _ _;unfold pairD at ha ⊢;walk_at "vg";walk_at "vx";refine bn (n:=0) rfl rfl ?_
    by_cases hf:kK b (pts.getD p []) (pts.getD q []) < j
    ·have ha:A (D.int 1):=by
      have z:=ha;simp only[if_pos hf] at z;exact z
     exact (if_pos (by simpa using hf)).mpr ha
    ·have ha:Bn:=by
      have z:=ha;simp only[if_neg hf] at z;exact z
     exact (if_neg (by simpa using hf)).mpr ha
   rw[xp];refine⟨by decide,⟨List.all_eq_true.mpr λd hd=>?_,rfl⟩,h⟩
   obtain⟨x,hx,e⟩:=List.mem_filterMap.mp hd;obtain⟨p,q,_,_,rfl⟩:=cH ((aU _).mem_iff.mp hx);unfold pairD at e
   by_cases hf:kK b (pts.getD p []) (pts.getD q []) < j
   ·simp only[if_pos hf] at e
    cases e;rfl
   ·simp only[if_neg hf] at e
    cases e
def nF:bD:=λds Q=>∃ (pts:List (List Int)) (side:Int) (es:List D),ds=[dM pts,.tup [.int side,.lst es]]/\Pap es/\es.length<=1000000/\Q (.sh (.tup [dM pts,.tup [.int side,.lst es]]))
theorem Gx (ds:List D)(Q:B->Prop)(h:nF ds Q):wR { nx:=λ_=>Q (.sh .non),rt:=λb _=>Q b } (aO wQ.length ds):=by
 obtain⟨pts,side,es,rfl,hpap,hel,h⟩:=h;unfold wR;rw[show dM pts=.lst (pts.map bB) from rfl] at h ⊢
 have i0:∀ P:D->Prop,P (.int side)->og (D.tup [D.int side,D.lst es]) (D.int 0) P:=λP hP=>bn (n:=0) rfl rfl hP;have i1:∀ P:D->Prop,P (.lst es)->og (D.tup [D.int side,D.lst es]) (D.int 1) P:=λP hP=>bn (n:=1) rfl rfl hP;walk_at "vx";refine i0 _ ?_;refine i1 _ ?_;walk_at "vx";refine dP (λd=>d) es (λd hd A ha=>?_) (by rw[sz];omega) ?_
 ·obtain⟨ks,ps,rfl,_⟩:=hpap d hd
  walk_at "vg";walk_at "vx";exact⟨by decide,ha⟩
 ·rw[List.map_id']
  exact⟨by decide,by decide,h⟩
def xr:je:=λxs ds Q=>ba xs/\∃ b pts,ds=[.lst (bF (bo b pts))]/\pts.length<=1000/\∀ (js:List Int) ys,(∀ j∈js,1<=j/\j < 10^34)->js.length<=9->ba ys->Q (.own (js.map D.int)) ys
theorem QT (xs ds:List D)(Q:B->List D->Prop)(h:xr xs ds Q):Gc ff { nx:=qF Q (.sh .non),rt:=λb σ=>qF Q b σ } (startIo Gb.length xs ds):=by
 obtain⟨r0,b,pts,rfl,hl,h⟩:=h;have hz:=pC (b:=b) hl;have hz2:=(aU (bo b pts)).length_eq;have hm:∀ a∈bF (bo b pts),∃ p q,a=pairD b pts p q:=λa ha=>by
  obtain⟨p,q,_,_,e⟩:=cH ((aU _).mem_iff.mp ha);exact⟨p,q,e⟩
 have mid:bF (bo b pts)=(bF (bo b pts)).map id:=(List.map_id _).symm;unfold Gc
 -- near
 refine ai λN hN=>?_;simp only[startIo];walk_at "vx";rw[show (1:Int)=((1:Nat):Int) from rfl,xh]
 have htk:((bF (bo b pts)).take 1).length<=1:=by rw[List.length_take];omega
 refine dP (λd=>match d with|.tup [.int f,_,_]=>.int f|_=>.int 0) _ (λd hd A ha=>?_) (by rw[sz];omega) ?_
 ·obtain⟨p,q,rfl⟩:=hm d (List.mem_of_mem_take hd)
  unfold pairD at ha ⊢;walk_at "vg";walk_at "vx";refine bn (n:=0) rfl rfl ?_;exact ha
 refine⟨by decide,by rw[List.length_map,sz];omega,?_⟩
 refine bh (by decide) (by rw[List.length_append];show (0:Int) < _;simp only[List.length_cons,List.length_nil];omega) λd hd=>?_
 obtain⟨near,rfl⟩:∃ near:Int,d=.int near:=by
  rcases List.mem_append.mp hd with hd|hd
  ·obtain⟨x,hx,rfl⟩:=List.mem_map.mp hd
   obtain⟨p,q,rfl⟩:=hm x (List.mem_of_mem_take hx);exact⟨_,rfl⟩
  ·exact⟨9,List.mem_singleton.mp hd⟩
 clear hd htk;subst hN
 -- far
 refine ai λN hN=>?_;walk_at "vx";refine⟨by decide,by decide,by rw[sz];omega,⟨_,rfl⟩,r0,_,rfl,by omega,by omega,λa1 x1 a10 a11 r1=>?_⟩
 walk_at "vx";refine bh a10 (by rw[List.length_cons];omega) λd hd=>?_
 obtain⟨far,i,j,rfl⟩:∃ f i j,d=.tup [.int f,.int i,.int j]:=by
  rcases List.mem_cons.mp hd with rfl|hd
  ·exact⟨_,_,_,rfl⟩
  ·obtain⟨p,q,rfl⟩:=hm d hd
   exact⟨_,_,_,rfl⟩
 clear hd;refine bn (n:=0) rfl rfl ?_;walk_at "vx";subst hN
 -- some
 refine ai λN hN=>?_;walk_at "vx";refine⟨⟨_,rfl⟩,r1,12,rfl,by decide,by decide,λa2 x2 _ _ r2=>?_⟩
 walk_at "vx";refine⟨by unfold gn;omega,by unfold fk;decide,.inl (by decide),by decide,?_⟩
 obtain⟨so,eso,hso⟩:∃ so:List Int,[D.int 1,D.int 2,D.int (1+a2),D.int near,D.int (near+1),D.int (near - 1),D.int (near / 2),D.int far,D.int (9*10^Int.toNat 33)]=so.map D.int/\so.length=9:=⟨[1,2,1+a2,near,near+1,near - 1,near / 2,far,9*10^Int.toNat 33],rfl,rfl⟩;rw[eso];subst hN;walk_at "vx";refine⟨by decide,?_⟩
 refine ck D.int (λj:Int=>D.int (max 1 (min (10^34 - 1) j))) so (λj _ A ha=>?_) (by rw[hso];decide) ?_
 ·walk_at "vg"
  walk_at "vx";refine⟨by unfold fk;decide,?_⟩
  rw[show (10:Int)^Int.toNat 34=10^34 from rfl]
  have e:(if (if j < 10^34 - 1 then j else 10^34 - 1) > 1 then if j < 10^34 - 1 then j else 10^34 - 1 else 1)=max 1 (min (10^34 - 1) j):=by
   by_cases h1:j < 10^34 - 1
   ·rw[if_pos h1,Int.min_eq_right (by omega)]
    by_cases h2:j > 1
    ·rw[if_pos h2,Int.max_eq_right (by omega)]
    ·rw[if_neg h2,Int.max_eq_left (by omega)]
   ·rw[if_neg h1,if_pos (by decide),Int.min_eq_left (by omega)];decide
  rw[e];exact ha
 have e:so.map (λj:Int=>D.int (max 1 (min (10^34 - 1) j)))=(so.map λj:Int=>max 1 (min (10^34 - 1) j)).map D.int:=by rw[List.map_map];rfl
 rw[e];refine h _ _ (λj hj=>?_) (by rw[List.length_map,hso];decide) r2
 obtain⟨i,_,rfl⟩:=List.mem_map.mp hj;show 1<=max 1 (min (10^34 - 1) i)/\max 1 (min (10^34 - 1) i) < 10^34;omega

def Ent (L:Nat)(e:D):Prop:=∃ ks ps:List Int,e=vR ks ps/\ks.length<=L/\ps.length<=L
def PapN (L:Nat)(es:List D):Prop:=es.length<=L/\∀ e∈es,Ent L e
theorem Ent.le {L M:Nat}{e:D}(h:Ent L e)(hl:L<=M):Ent M e:=by
 obtain⟨ks,ps,rfl,h1,h2⟩:=h;exact⟨ks,ps,rfl,by omega,by omega⟩
theorem dg (l:List Int):(l.map D.int).all isInt=true:=by rw[List.all_map];exact List.all_eq_true.mpr λ_ _=>rfl
theorem PapN.pap {L:Nat}{es:List D}(h:PapN L es)(hl:L<=1000000):Pap es:=λe he=>by
 obtain⟨ks,ps,rfl,h1,h2⟩:=h.2 e he;exact⟨_,_,rfl,dg _,dg _,by rw[List.length_map];omega,by rw[List.length_map];omega⟩
theorem sK:∀ {xs:List D},xs.all isInt=true->∃ l:List Int,xs=l.map D.int
 | [],_=>⟨[],rfl⟩
 | .int i::xs,h=>by
  rw[List.all_cons,Bool.and_eq_true] at h;obtain⟨l,rfl⟩:=sK h.2;exact⟨i::l,rfl⟩
theorem rc {n:Nat}{pts:List (List Int)}{s:Int}(hg:Good n pts)(hl:pts.length<=1000):PapN 1000 (cI pts s):=by
 refine⟨(iQ hg hl).2,λe he=>?_⟩;obtain⟨kd,hkd,rfl⟩:=List.mem_map.mp he;obtain⟨t,ht,rfl⟩:=List.mem_map.mp ((aU _).mem_iff.mp hkd);obtain⟨j,hj,e⟩:=(ci ht).2;have hlen:t.1.length=n:=by
  rw[e];unfold dh;rw[List.length_map];exact (hg.2 _ (bS hj)).1
 have hv:(dk (bZ pts s pts.length) (bP (bB t.1))).all isInt=true/\(dk (bZ pts s pts.length) (bP (bB t.1))).length<=1000:=by
  rcases gY (l:=bZ pts s pts.length) (k:=bP (bB t.1)) with e|⟨u,hu,e⟩
  ·rw[e];exact⟨rfl,by decide⟩
  ·rw[e];exact⟨gX hu,by have:=(ci hu).1;omega⟩
 obtain⟨l,el⟩:=sK hv.1;rw[el] at hv ⊢;exact⟨t.1,l,rfl,by have:=hg.1;omega,by have:=hv.2;rw[List.length_map] at this;exact this⟩
theorem cU {α:Type}{xs:List α}{lo hi:Option Int}{x:α}(h:x∈cut xs lo hi):x∈xs:=List.mem_of_mem_drop (List.mem_of_mem_take h)
theorem gZ {a b:List D}{Q:EV->Prop}(h:a.length+b.length<=sizeLine)(q:Q (.val (.tup (a++b)))):ph (.tup a) (.tup b) Q:=by
 cases a with
 | nil=>exact q
 | cons x a=>exact⟨h,q⟩
theorem pH (ks:List Int):cO (.tup (ks.map D.int)) (.tup [])=decide (ks=[]):=by cases ks<;>rfl
theorem pI {ks:List Int}{i:Nat}(h:i < ks.length):(ks.map D.int)[i]?=some (.int (ks.getD i 0)):=by
 rw[List.getElem?_map,List.getElem?_eq_getElem h,List.getD_eq_getElem?_getD,List.getElem?_eq_getElem h];rfl
theorem Cq {ks:List Int}{Q:D->Prop}(h:ks≠[])(q:∀ v:Int,Q (.int v)):og (.tup (ks.map D.int)) (.int (-1)) Q:=by
 have hl:0 < ks.length:=List.length_pos_iff.mpr h;show (match L2.atI (ks.map D.int) (-1) with|some d=>Q d|none=>False)
 have e:L2.atI (ks.map D.int) (-1)=some (.int (ks.getD (ks.length - 1) 0)):=by
  unfold L2.atI L2.ixN;rw[List.length_map,if_neg (by decide),if_pos (by omega)]
  show (ks.map D.int)[(-1+(ks.length:Int)).toNat]?=_;rw[show (-1+(ks.length:Int)).toNat=ks.length - 1 by omega]
  exact pI (by omega)
 rw[e];exact q _
theorem CO (ks:List Int):bx 8 (.tup (ks.map D.int))=true:=iP (dg ks) 7
def kx (h:B)(xs:List D):Prop:=h=.own xs\/h=.sh (.lst xs)
def nG:je:=λxs ds Q=>ba xs/\∃ (L:Nat) (side:Int) (es:List D) (m:Nat),ds=[.tup [.int side,.lst es],.int (m:Nat)]/\PapN L es/\L<=40000/\m<=100000/\∀ (side':Int) (es':List D) ys,PapN (30*L+30) es'->side - 10^29<=side'->side'<=side+10^29->ba ys->Q (.sh (.tup [.int side',.lst es'])) ys
theorem Gy (xs ds:List D)(Q:B->List D->Prop)(h:nG xs ds Q):wP ff { nx:=qF Q (.sh .non),rt:=λb σ=>qF Q b σ } (startIo wO.length xs ds):=by
 obtain⟨r0,L,side,es,m,rfl,hpap,hL,hm,h⟩:=h;unfold wP;have hpk:Pap es:=hpap.pap (by omega)
 refine ai λN hN=>?_;simp only[startIo];walk_at "vx";subst hN
 -- kind
 refine ai λN hN=>?_;walk_at "vx";refine⟨⟨_,rfl⟩,r0,12,rfl,by decide,by decide,λkind x1 k0 k1 r1=>?_⟩
 walk_at "vx";subst hN
 -- far
 refine ai λN hN=>?_;walk_at "vx";refine⟨⟨_,rfl⟩,by unfold fk;decide,r1,_,rfl,by decide,by decide,λa1 x2 a10 a11 r2=>?_⟩
 walk_at "vx";refine⟨by unfold fk;decide,by decide,⟨_,rfl⟩,r2,4,rfl,by decide,by decide,λa2 x3 a20 a21 r3=>?_⟩
 walk_at "vx";refine bh a20 (by simp only[List.length_cons,List.length_nil];omega) λd hd=>?_
 obtain⟨f1,rfl,f10,f11⟩:∃ f1:Int,d=.int f1/\1<=f1/\f1<=10^29:=by
  simp only[List.mem_cons,List.not_mem_nil,or_false] at hd;rcases hd with rfl|rfl|rfl|rfl
  ·exact⟨_,rfl,by decide,by decide⟩
  ·exact⟨_,rfl,by decide,by decide⟩
  ·exact⟨_,rfl,by omega,by have:a1 < 10^6:=a11;omega⟩
  ·exact⟨_,rfl,by decide,by decide⟩
 clear hd;walk_at "vx";refine⟨by decide,⟨_,rfl⟩,r3,2,rfl,by decide,by decide,λa3 x4 a30 a31 r4=>?_⟩
 walk_at "vx";refine bh a30 (by simp only[List.length_cons,List.length_nil];omega) λd hd=>?_
 obtain⟨f2,rfl,f2e⟩:∃ f2:Int,d=.int f2/\(f2=1\/f2=-1):=by
  simp only[List.mem_cons,List.not_mem_nil,or_false] at hd;rcases hd with rfl|rfl
  ·exact⟨_,rfl,.inl rfl⟩
  ·exact⟨_,rfl,.inr rfl⟩
 clear hd;walk_at "vx";refine⟨by unfold CMul;omega,?_⟩
 obtain⟨far,ef,hf0,hf1⟩:∃ far:Int,f1*f2=far/\-(10^29)<=far/\far<=10^29:=by
  rcases f2e with rfl|rfl
  ·exact⟨_,rfl,by omega,by omega⟩
  ·exact⟨_,rfl,by omega,by omega⟩
 rw[ef];clear ef f2e f10 f11;subst hN
 -- the side
 refine ai λN hN=>?_;walk_at "vx";have keep:N [some (.own x4),some (.sh (.tup [.int side,.lst es])),some (.sh (.int (m:Nat))),some (.sh (.int side)),some (.sh (.lst es)),some (.sh (.int kind)),some (.sh (.int far)),none,none,none,none,none,none]\/es=[]:=by
  by_cases he:es=[]
  ·exact .inr he
  refine .inl ?_;have hel:0 < es.length:=List.length_pos_iff.mpr he;subst hN
  -- at
  refine ai λN hN=>?_;walk_at "vx";refine⟨⟨_,rfl⟩,r4,_,rfl,by omega,by have:=hpap.1;omega,λat_ x5 t0 t1 r5=>?_⟩
  walk_at "vx";subst hN
  -- cell,places
  refine ai λN hN=>?_;walk_at "vx";refine bh t0 t1 λd hd=>?_;obtain⟨ks,ps,rfl,kl,pl⟩:=hpap.2 d hd;unfold vR;walk_at "vx";subst hN
  -- spot
  refine ai λN hN=>?_;walk_at "vx";refine⟨⟨_,rfl⟩,r5,_,rfl,by rw[List.length_map];split<;>omega,by rw[List.length_map];split<;>omega,λspot x6 s0 s1 r6=>?_⟩
  walk_at "vx";subst hN
  -- odd
  refine ai λN hN=>?_;walk_at "vx";refine⟨⟨_,rfl⟩,r6,_,rfl,by omega,by omega,λo1 x7 o10 o11 r7=>?_⟩
  walk_at "vx";refine⟨by decide,⟨_,rfl⟩,r7,3,rfl,by decide,by decide,λo2 x8 o20 o21 r8=>?_⟩
  walk_at "vx";refine bh o20 (by simp only[List.length_cons,List.length_nil];omega) λd hd=>?_
  obtain⟨odd,rfl⟩:∃ odd:Int,d=.int odd:=by
   simp only[List.mem_cons,List.not_mem_nil,or_false] at hd;rcases hd with rfl|rfl|rfl<;>exact⟨_,rfl⟩
  clear hd;walk_at "vx";subst hN;refine ai λN1 hN1=>?_;have g1:∀ (r:List D) (ks ps:List Int) pl ax,ba r->ks.length<=2*L+1->ps.length<=L->kx pl (ps.map D.int)->N1 [some (.own r),some (.sh (.tup [.int side,.lst es])),some (.sh (.int (m:Nat))),some (.sh (.int side)),some (.sh (.lst es)),some (.sh (.int kind)),some (.sh (.int far)),some (.sh (.int at_)),some (.sh (.tup (ks.map D.int))),some pl,some (.sh (.int spot)),some (.sh (.int odd)),ax]:=by
   intro r ks ps pl ax hr hkl hpl hpo;subst hN1;refine ai λN2 hN2=>?_;have g2:∀ (r:List D) (ks ps:List Int) pl ax,ba r->ks.length<=2*L+2->ps.length<=L->kx pl (ps.map D.int)->N2 [some (.own r),some (.sh (.tup [.int side,.lst es])),some (.sh (.int (m:Nat))),some (.sh (.int side)),some (.sh (.lst es)),some (.sh (.int kind)),some (.sh (.int far)),some (.sh (.int at_)),some (.sh (.tup (ks.map D.int))),some pl,some (.sh (.int spot)),some (.sh (.int odd)),ax]:=by
    intro r ks ps pl ax hr hkl hpl hpo;subst hN2;refine ai λN3 hN3=>?_;have g3:∀ (r:List D) (ks ps:List Int) pl ax,ba r->ks.length<=2*L+2->ps.length<=2*L->kx pl (ps.map D.int)->N3 [some (.own r),some (.sh (.tup [.int side,.lst es])),some (.sh (.int (m:Nat))),some (.sh (.int side)),some (.sh (.lst es)),some (.sh (.int kind)),some (.sh (.int far)),some (.sh (.int at_)),some (.sh (.tup (ks.map D.int))),some pl,some (.sh (.int spot)),some (.sh (.int odd)),ax]:=by
     intro r ks ps pl ax hr hkl hpl hpo;subst hN3;refine ai λN4 hN4=>?_;have g4:∀ (r:List D) (ks ps:List Int) pl ax,ba r->ks.length<=2*L+2->ps.length<=4*L+1->kx pl (ps.map D.int)->N4 [some (.own r),some (.sh (.tup [.int side,.lst es])),some (.sh (.int (m:Nat))),some (.sh (.int side)),some (.sh (.lst es)),some (.sh (.int kind)),some (.sh (.int far)),some (.sh (.int at_)),some (.sh (.tup (ks.map D.int))),some pl,some (.sh (.int spot)),some (.sh (.int odd)),ax]:=by
      intro r ks ps pl ax hr hkl hpl hpo;subst hN4;refine ai λN5 hN5=>?_;have g5:∀ (r:List D) (ks ps:List Int) pl ax,ba r->ks.length<=2*L+2->ps.length<=8*L+3->kx pl (ps.map D.int)->N5 [some (.own r),some (.sh (.tup [.int side,.lst es])),some (.sh (.int (m:Nat))),some (.sh (.int side)),some (.sh (.lst es)),some (.sh (.int kind)),some (.sh (.int far)),some (.sh (.int at_)),some (.sh (.tup (ks.map D.int))),some pl,some (.sh (.int spot)),some (.sh (.int odd)),ax]:=by
       intro r ks ps pl ax hr hkl hpl hpo;subst hN5;refine ai λN6 hN6=>?_;have g6:∀ (r:List D) (ks ps:List Int) pl ax,ba r->ks.length<=2*L+2->ps.length<=8*L+3->kx pl (ps.map D.int)->N6 [some (.own r),some (.sh (.tup [.int side,.lst es])),some (.sh (.int (m:Nat))),some (.sh (.int side)),some (.sh (.lst es)),some (.sh (.int kind)),some (.sh (.int far)),some (.sh (.int at_)),some (.sh (.tup (ks.map D.int))),some pl,some (.sh (.int spot)),some (.sh (.int odd)),ax]:=by
        intro r ks ps pl ax hr hkl hpl hpo;subst hN6;refine ai λN7 hN7=>?_;have g7:∀ (r:List D) (ks ps:List Int) pl ax,ba r->ks.length<=2*L+2->ps.length<=8*L+3->kx pl (ps.map D.int)->N7 [some (.own r),some (.sh (.tup [.int side,.lst es])),some (.sh (.int (m:Nat))),some (.sh (.int side)),some (.sh (.lst es)),some (.sh (.int kind)),some (.sh (.int far)),some (.sh (.int at_)),some (.sh (.tup (ks.map D.int))),some pl,some (.sh (.int spot)),some (.sh (.int odd)),ax]:=by
         intro r ks ps pl ax hr hkl hpl hpo;subst hN7;refine ai λN9 hN9=>?_;have g9:∀ (r:List D) (ks ps:List Int) pl ax,ba r->ks.length<=2*L+2->ps.length<=8*L+3->kx pl (ps.map D.int)->N9 [some (.own r),some (.sh (.tup [.int side,.lst es])),some (.sh (.int (m:Nat))),some (.sh (.int side)),some (.sh (.lst es)),some (.sh (.int kind)),some (.sh (.int far)),some (.sh (.int at_)),some (.sh (.tup (ks.map D.int))),some pl,some (.sh (.int spot)),some (.sh (.int odd)),ax]:=by
          intro r ks ps pl ax hr hkl hpl hpo;subst hN9;refine ai λN10 hN10=>?_;have g10:∀ (r:List D) (ks ps:List Int) pl ax,ba r->ks.length<=2*L+2->ps.length<=8*L+3->kx pl (ps.map D.int)->N10 [some (.own r),some (.sh (.tup [.int side,.lst es])),some (.sh (.int (m:Nat))),some (.sh (.int side)),some (.sh (.lst es)),some (.sh (.int kind)),some (.sh (.int far)),some (.sh (.int at_)),some (.sh (.tup (ks.map D.int))),some pl,some (.sh (.int spot)),some (.sh (.int odd)),ax]:=by
           intro r ks ps pl ax hr hkl hpl hpo;subst hN10;refine ai λN11 hN11=>?_;have g11:∀ (r:List D) (ks ps:List Int) pl ax,ba r->ks.length<=2*L+2->ps.length<=24*L+9->kx pl (ps.map D.int)->N11 [some (.own r),some (.sh (.tup [.int side,.lst es])),some (.sh (.int (m:Nat))),some (.sh (.int side)),some (.sh (.lst es)),some (.sh (.int kind)),some (.sh (.int far)),some (.sh (.int at_)),some (.sh (.tup (ks.map D.int))),some pl,some (.sh (.int spot)),some (.sh (.int odd)),ax]:=by
            intro r ks ps pl ax hr hkl hpl hpo;subst hN11;refine ai λN8 hN8=>?_;have g8:∀ (r:List D) (ks ps:List Int) pl ax,ba r->ks.length<=2*L+2->ps.length<=24*L+9->kx pl (ps.map D.int)->N8 [some (.own r),some (.sh (.tup [.int side,.lst es])),some (.sh (.int (m:Nat))),some (.sh (.int side)),some (.sh (.lst es)),some (.sh (.int kind)),some (.sh (.int far)),some (.sh (.int at_)),some (.sh (.tup (ks.map D.int))),some pl,some (.sh (.int spot)),some (.sh (.int odd)),ax]:=by
             intro r ks ps pl ax hr hkl hpl hpo;subst hN8;rcases hpo with rfl|rfl
             all_goals
              walk_at "vx";have c1:=aE es none (some at_);have c3:=aE es (some (at_+1)) none;have hel:=hpap.1;have fin:PapN (30*L+30) (cut es none (some at_)++[D.tup [D.tup (List.map D.int ks),D.lst (List.map D.int ps)]]++cut es (some (at_+1)) none):=by
               refine⟨by simp only[List.length_append,List.length_map,List.length_cons,List.length_nil,List.length_reverse];omega,λe he=>?_⟩
               rcases List.mem_append.mp he with he|he
               ·rcases List.mem_append.mp he with he|he
                ·exact (hpap.2 e (cU he)).le (by omega)
                ·rw[List.mem_singleton.mp he]
                 exact⟨ks,ps,rfl,by omega,by omega⟩
               ·exact (hpap.2 e (cU he)).le (by omega)
              first
               | exact⟨by decide,by decide,by simp only[List.length_append,List.length_map,List.length_reverse,List.length_cons,List.length_nil,sz];omega,by simp only[List.length_append,List.length_map,List.length_reverse,List.length_cons,List.length_nil,sz];omega,by decide,h _ _ _ fin (by omega) (by omega) hr⟩
               | exact⟨by decide,by decide,by decide,by simp only[List.length_append,List.length_map,List.length_reverse,List.length_cons,List.length_nil,sz];omega,by simp only[List.length_append,List.length_map,List.length_reverse,List.length_cons,List.length_nil,sz];omega,by decide,h _ _ _ fin (by omega) (by omega) hr⟩
            rcases hpo with rfl|rfl
            all_goals
             walk_at "vx";refine⟨⟨rfl,rfl⟩,?_⟩
             split
             ·have c1:=aE es none (some at_)
              have c2:=aE es (some at_) none;have c3:=aE es (some at_) (some (at_+1));have hel:=hpap.1;refine⟨by simp only[List.length_append,List.length_map,List.length_reverse,List.length_cons,List.length_nil,sz];omega,by simp only[List.length_append,List.length_map,List.length_reverse,List.length_cons,List.length_nil,sz];omega,by decide,⟨_,rfl⟩,hr,2,rfl,by decide,by decide,λo x9 o0 o1 r9=>?_⟩
              walk_at "vx";refine bh o0 (by simp only[List.length_cons,List.length_nil];omega) λd hd=>?_
              simp only[List.mem_cons,List.not_mem_nil,or_false] at hd;rcases hd with rfl|rfl
              ·refine⟨by decide,h _ _ _ ⟨by simp only[List.length_append,List.length_map,List.length_cons,List.length_nil,List.length_reverse];omega,λe he=>?_⟩ (by omega) (by omega) r9⟩
               rcases List.mem_append.mp he with he|he
               ·rcases List.mem_append.mp he with he|he
                ·exact (hpap.2 e (cU he)).le (by omega)
                ·exact (hpap.2 e (cU he)).le (by omega)
               ·exact (hpap.2 e (cU he)).le (by omega)
              ·refine⟨by decide,h _ _ _ ⟨by simp only[List.length_append,List.length_map,List.length_cons,List.length_nil,List.length_reverse];omega,λe he=>?_⟩ (by omega) (by omega) r9⟩
               exact (hpap.2 e (List.mem_reverse.mp he)).le (by omega)
             ·exact g8 _ ks ps _ _ hr (by omega) (by omega) (by first|exact .inl rfl|exact .inr rfl)
           rcases hpo with rfl|rfl
           all_goals
            walk_at "vx";refine⟨⟨rfl,rfl⟩,?_⟩
            split
            ·have c1:=aE ps none (some spot)
             have c2:=aE ps (some spot) none;have c3:=aE ps (some (spot+1)) none;have c4:=aE ps (some spot) (some (spot+2));have c5:=aE ps (some (spot+2)) none
             try simp only[cr]
             rw[<- List.map_reverse];refine⟨by simp only[List.length_append,List.length_map,List.length_reverse,List.length_cons,List.length_nil,sz];omega,by simp only[List.length_append,List.length_map,List.length_reverse,List.length_cons,List.length_nil,sz];omega,?_⟩
             rw[<- List.map_append,<- List.map_append];exact g11 _ ks _ _ _ hr (by omega) (by simp only[List.length_append,List.length_map,List.length_cons,List.length_nil,List.length_reverse];omega) (.inl rfl)
            ·exact g11 _ ks ps _ _ hr (by omega) (by omega) (by first|exact .inl rfl|exact .inr rfl)
          rcases hpo with rfl|rfl
          all_goals
           walk_at "vx";refine⟨⟨rfl,rfl⟩,?_⟩
           split
           ·refine⟨by decide,⟨CO ks,rfl⟩,?_⟩
            rw[pH]
            by_cases hk:ks=[]
            ·refine (if_neg (by simp [hk])).mpr ?_
             exact g10 _ ks ps _ _ hr (by omega) (by omega) (by first|exact .inl rfl|exact .inr rfl)
            ·have h0:0 < ks.length:=List.length_pos_iff.mpr hk
             refine (if_pos (by simp [hk])).mpr ?_
             refine Cq hk λv=>?_;walk_at "vx";have c1:=aE ks none (some (-1));rw[cr];refine⟨by decide,gZ (by rw[List.length_map,sz];simp only[List.length_cons,List.length_nil];omega) ?_⟩
             walk_at "vx";have hel:=hpap.1;rw[show [D.int (v+far)]=[v+far].map D.int from rfl,<- List.map_append]
             have hall:∀ e∈es++[D.tup [D.tup ((cut ks none (some (-1))++[v+far]).map D.int),D.lst []]],Ent (30*L+30) e:=λe he=>by
              rcases List.mem_append.mp he with he|he
              ·exact (hpap.2 e he).le (by omega)
              ·rw[List.mem_singleton.mp he]
               exact⟨_,[],rfl,by rw[List.length_append];simp only[List.length_cons,List.length_nil];omega,by simp only[List.length_nil];omega⟩
             refine⟨by decide,by decide,by decide,by rw[sz];omega,λx hx=>?_,λys hp=>?_⟩
             ·obtain⟨ks,ps,e,_⟩:=hall x hx
              exact⟨ks,ps,e⟩
             ·refine⟨by decide,h _ _ _ ⟨?_,λe he=>hall e (hp.mem_iff.mp he)⟩ (by omega) (by omega) hr⟩
              rw[hp.length_eq,List.length_append];simp only[List.length_cons,List.length_nil];omega
           ·exact g10 _ ks ps _ _ hr (by omega) (by omega) (by first|exact .inl rfl|exact .inr rfl)
         rcases hpo with rfl|rfl
         all_goals
          walk_at "vx";refine⟨⟨rfl,rfl⟩,?_⟩
          split
          ·have c1:=aE es none (some at_)
           have c3:=aE es (some (at_+1)) none;have c4:=aE ps none (some spot);have c5:=aE ps (some spot) none;have hel:=hpap.1;simp only[cr D.int];refine⟨by decide,by decide,by decide,by simp only[List.length_append,List.length_map,List.length_reverse,List.length_cons,List.length_nil,sz];omega,by simp only[List.length_append,List.length_map,List.length_reverse,List.length_cons,List.length_nil,sz];omega,by decide,h _ _ _ ⟨by simp only[List.length_append,List.length_map,List.length_cons,List.length_nil,List.length_reverse];omega,λe he=>?_⟩ (by omega) (by omega) hr⟩
           rcases List.mem_append.mp he with he|he
           ·rcases List.mem_append.mp he with he|he
            ·exact (hpap.2 e (cU he)).le (by omega)
            ·simp only[List.mem_cons,List.not_mem_nil,or_false] at he
             rcases he with rfl|rfl
             ·exact⟨ks,_,rfl,by omega,by omega⟩
             ·exact⟨ks,_,rfl,by omega,by omega⟩
           ·exact (hpap.2 e (cU he)).le (by omega)
          ·exact g9 _ ks ps _ _ hr (by omega) (by omega) (by first|exact .inl rfl|exact .inr rfl)
        rcases hpo with rfl|rfl
        all_goals
         walk_at "vx";refine⟨⟨rfl,rfl⟩,?_⟩
         split
         ·have c1:=aE es none (some at_)
          have c3:=aE es (some (at_+1)) none;have hel:=hpap.1;refine⟨by simp only[List.length_append,List.length_map,List.length_reverse,List.length_cons,List.length_nil,sz];omega,by decide,h _ _ _ ⟨by simp only[List.length_append,List.length_map,List.length_cons,List.length_nil,List.length_reverse];omega,λe he=>?_⟩ (by omega) (by omega) hr⟩
          rcases List.mem_append.mp he with he|he
          ·exact (hpap.2 e (cU he)).le (by omega)
          ·exact (hpap.2 e (cU he)).le (by omega)
         ·exact g7 _ ks ps _ _ hr (by omega) (by omega) (by first|exact .inl rfl|exact .inr rfl)
       rcases hpo with rfl|rfl
       all_goals
        walk_at "vx";refine⟨⟨rfl,rfl⟩,?_⟩
        split
        ·have c1:=aE ps none (some spot)
         have c2:=aE ps (some spot) none;have c3:=aE ps (some (spot+1)) none;have c4:=aE ps (some spot) (some (spot+2));have c5:=aE ps (some (spot+2)) none
         try simp only[cr]
         rw[<- List.map_reverse];exact g6 _ ks _ _ _ hr (by omega) (by simp only[List.length_append,List.length_map,List.length_cons,List.length_nil,List.length_reverse];omega) (.inl rfl)
        ·exact g6 _ ks ps _ _ hr (by omega) (by omega) (by first|exact .inl rfl|exact .inr rfl)
      rcases hpo with rfl|rfl
      all_goals
       walk_at "vx";refine⟨⟨rfl,rfl⟩,?_⟩
       split
       ·have c1:=aE ps none (some spot)
        have c2:=aE ps (some spot) none;have c3:=aE ps (some (spot+1)) none;have c4:=aE ps (some spot) (some (spot+2));have c5:=aE ps (some (spot+2)) none
        try simp only[cr]
        refine⟨by decide,by simp only[List.length_append,List.length_map,List.length_reverse,List.length_cons,List.length_nil,sz];omega,by simp only[List.length_append,List.length_map,List.length_reverse,List.length_cons,List.length_nil,sz];omega,?_⟩
        rw[show [D.int odd]=[odd].map D.int from rfl,<- List.map_append,<- List.map_append]
        exact g5 _ ks _ _ _ hr (by omega) (by simp only[List.length_append,List.length_map,List.length_cons,List.length_nil,List.length_reverse];omega) (.inl rfl)
       ·exact g5 _ ks ps _ _ hr (by omega) (by omega) (by first|exact .inl rfl|exact .inr rfl)
     rcases hpo with rfl|rfl
     all_goals
      walk_at "vx";refine⟨⟨rfl,rfl⟩,?_⟩
      split
      ·have c1:=aE ps none (some spot)
       have c2:=aE ps (some spot) none;have c3:=aE ps (some (spot+1)) none;have c4:=aE ps (some spot) (some (spot+2));have c5:=aE ps (some (spot+2)) none
       try simp only[cr]
       refine⟨by decide,by simp only[List.length_append,List.length_map,List.length_reverse,List.length_cons,List.length_nil,sz];omega,by simp only[List.length_append,List.length_map,List.length_reverse,List.length_cons,List.length_nil,sz];omega,?_⟩
       rw[show [D.int odd]=[odd].map D.int from rfl,<- List.map_append,<- List.map_append]
       exact g4 _ ks _ _ _ hr (by omega) (by simp only[List.length_append,List.length_map,List.length_cons,List.length_nil,List.length_reverse];omega) (.inl rfl)
      ·exact g4 _ ks ps _ _ hr (by omega) (by omega) (by first|exact .inl rfl|exact .inr rfl)
    rcases hpo with rfl|rfl
    all_goals
     walk_at "vx";refine⟨⟨rfl,rfl⟩,?_⟩
     split
     ·have c1:=aE ps none (some spot)
      have c2:=aE ps (some spot) none;have c3:=aE ps (some (spot+1)) none;have c4:=aE ps (some spot) (some (spot+2));have c5:=aE ps (some (spot+2)) none
      try simp only[cr]
      refine⟨by simp only[List.length_append,List.length_map,List.length_reverse,List.length_cons,List.length_nil,sz];omega,?_⟩
      rw[<- List.map_append];exact g3 _ ks _ _ _ hr (by omega) (by simp only[List.length_append,List.length_map,List.length_cons,List.length_nil,List.length_reverse];omega) (.inl rfl)
     ·exact g3 _ ks ps _ _ hr (by omega) (by omega) (by first|exact .inl rfl|exact .inr rfl)
   rcases hpo with rfl|rfl
   all_goals
    walk_at "vx";refine⟨⟨rfl,rfl⟩,?_⟩
    split
    ·have c1:=aE ks none (some (-1))
     rw[cr];refine⟨by decide,gZ (by rw[List.length_map,sz];simp only[List.length_cons,List.length_nil];omega) ?_⟩
     walk_at "vx";refine⟨by decide,⟨_,rfl⟩,hr,2,rfl,by decide,by decide,λo x9 o0 o1 r9=>?_⟩
     walk_at "vx";refine bh o0 (by simp only[List.length_cons,List.length_nil];omega) λd hd=>?_
     simp only[List.mem_cons,List.not_mem_nil,or_false] at hd;rcases hd with rfl|rfl
     ·exact g2 _ _ ps _ _ r9 (by omega) (by omega) (by first|exact .inl rfl|exact .inr rfl)
     ·have e:ks.map D.int++[D.int 0]=(ks++[0]).map D.int:=by rw[List.map_append];rfl
      rw[e];exact g2 _ _ ps _ _ r9 (by rw[List.length_append];simp only[List.length_cons,List.length_nil];omega) (by omega) (by first|exact .inl rfl|exact .inr rfl)
    ·exact g2 _ ks ps _ _ hr (by omega) (by omega) (by first|exact .inl rfl|exact .inr rfl)
  walk_at "vx";refine⟨⟨rfl,rfl⟩,?_⟩
  by_cases hk1:cO (.int kind) (.int 1)=true
  ·refine (if_pos hk1).mpr ⟨by decide,⟨CO ks,rfl⟩,?_⟩
   rw[pH]
   by_cases hk:ks=[]
   ·refine (if_neg (by simp [hk])).mpr ?_
    exact g1 _ ks ps _ _ r8 (by omega) (by omega) (.inr rfl)
   ·have h0:0 < ks.length:=List.length_pos_iff.mpr hk
    refine (if_pos (by simp [hk])).mpr ⟨⟨_,rfl⟩,r8,_,rfl,by rw[List.length_map];omega,by rw[List.length_map];omega,λa x9 q0 q1 r9=>?_⟩
    rw[List.length_map] at q1;walk_at "vx";refine bn (n:=a.toNat) (d:=.int (ks.getD a.toNat 0)) (by omega) (pI (by omega)) ?_
    walk_at "vx";have c1:=aE ks none (some a);have c2:=aE ks (some (a+1)) none;refine⟨by decide,?_⟩
    rw[cr];refine gZ (by rw[List.length_map,sz];simp only[List.length_cons,List.length_nil];omega) ?_
    walk_at "vx";rw[cr];refine gZ (by rw[List.length_append,List.length_map,List.length_map,sz];simp only[List.length_cons,List.length_nil];omega) ?_
    walk_at "vx";rw[show [D.int (ks.getD a.toNat 0+far)]=[ks.getD a.toNat 0+far].map D.int from rfl,<- List.map_append,<- List.map_append]
    exact g1 _ _ ps _ _ r9 (by rw[List.length_append,List.length_append];simp only[List.length_cons,List.length_nil];omega) (by omega) (.inr rfl)
  ·refine (if_neg hk1).mpr ?_
   exact g1 _ ks ps _ _ r8 (by omega) (by omega) (.inr rfl)
 refine⟨⟨rfl,rfl⟩,?_⟩
 split
 ·exact⟨by decide,h _ _ _ ⟨by have:=hpap.1;omega,λe he=>(hpap.2 e he).le (by omega)⟩ (by omega) (by omega) r4⟩
 ·refine⟨by decide,⟨hpk.ok,rfl⟩,?_⟩
  split
  ·exact⟨by decide,h _ _ _ ⟨by have:=hpap.1;omega,λe he=>(hpap.2 e he).le (by omega)⟩ (by omega) (by omega) r4⟩
  ·rename_i hne
   rcases keep with keep|rfl
   ·exact keep
   ·exact absurd rfl hne

theorem hE:∀ (n:Nat) (x:D),bx n x=true->cO x x=true
 | _,.non,_=>rfl
 | _,.bl b,_=>by simp [cO]
 | _,.int i,_=>by simp [cO]
 | _,.str s,_=>by simp [cO]
 | 0,.tup _,h=>by simp [bx] at h
 | 0,.lst _,h=>by simp [bx] at h
 | n+1,.tup xs,h=>by
  have h':xs.all (bx n)=true:=h;show fS xs xs=true
  induction xs with
  | nil=>rfl
  | cons x r ih =>
   rw[List.all_cons,Bool.and_eq_true] at h';show (cO x x&&fS r r)=true;rw[hE n x h'.1,ih (by show r.all (bx n)=true;exact h'.2) h'.2];rfl
 | n+1,.lst xs,h=>by
  have h':xs.all (bx n)=true:=h;show fS xs xs=true
  induction xs with
  | nil=>rfl
  | cons x r ih =>
   rw[List.all_cons,Bool.and_eq_true] at h';show (cO x x&&fS r r)=true;rw[hE n x h'.1,ih (by show r.all (bx n)=true;exact h'.2) h'.2];rfl
 | 0,.dct _,h=>by simp [bx] at h
 | 0,.exc _,h=>by simp [bx] at h
 | 0,.scr _,h=>by simp [bx] at h
 | n+1,.dct _,h=>by simp [bx] at h
 | n+1,.exc _,h=>by simp [bx] at h
 | n+1,.scr _,h=>by simp [bx] at h

def PapD (W:Int)(L:Nat)(d:D):Prop:=∃ (side:Int) (es:List D),d=.tup [.int side,.lst es]/\PapN L es/\-W<=side/\side<=W
theorem PapD.le {W W':Int}{L L':Nat}{d:D}(h:PapD W L d)(hw:W<=W')(hl:L<=L'):PapD W' L' d:=by
 obtain⟨side,es,rfl,h1,h2,h3⟩:=h;exact⟨side,es,rfl,⟨by have:=h1.1;omega,λe he=>(h1.2 e he).le hl⟩,by omega,by omega⟩
theorem re {xs:List D}{Q:D->Prop}(h:0 < xs.length)(q:∀ d∈xs,Q d):og (.lst xs) (.int (-1)) Q:=by
 show (match L2.atI xs (-1) with|some d=>Q d|none=>False)
 have e:L2.atI xs (-1)=some (xs[xs.length - 1]'(by omega)):=by
  unfold L2.atI L2.ixN;rw[if_neg (by decide),if_pos (by omega)]
  show xs[(-1+(xs.length:Int)).toNat]?=_;rw[show (-1+(xs.length:Int)).toNat=xs.length - 1 by omega]
  exact List.getElem?_eq_getElem _
 rw[e];exact q _ (List.getElem_mem _)
theorem QU {pts:List (List Int)}{es:List D}{side:Int}(h:Pap es):bx 8 (.tup [.lst (pts.map bB),.tup [.int side,.lst es]])=true:=by
 have h1:bx 7 (.lst (pts.map bB))=true:=List.all_eq_true.mpr λd hd=>by
  obtain⟨p,_,rfl⟩:=List.mem_map.mp hd;show (p.map D.int).all (bx 5)=true;exact iP (dg p) 5
 have h2:bx 6 (.lst es)=true:=List.all_eq_true.mpr λe he=>by
  obtain⟨ks,ps,rfl,h1,h2,_⟩:=h e he;show (bx 4 (.tup ks)&&(bx 4 (.lst ps)&&true))=true;rw[show bx 4 (.tup ks)=ks.all (bx 3) from rfl,show bx 4 (.lst ps)=ps.all (bx 3) from rfl,iP h1,iP h2];rfl
 show (bx 7 (.lst (pts.map bB))&&((bx 6 (.int side)&&(bx 6 (.lst es)&&true))&&true))=true;rw[h1,h2];rfl
def xt:bD:=λds Q=>∃ ns:List Int,ds=[.scr ns]/\ns.length<=63/\Q (.sh (.bl true))
theorem Nc (ds:List D)(Q:B->Prop)(h:xt ds Q):wT ny fK ff xr fh ku di nG nF nD iR { nx:=λ_=>Q (.sh .non),rt:=λb _=>Q b } (aO wS.length ds):=by
 obtain⟨ns,rfl,hns,h⟩:=h;unfold wT;refine ai λN hN=>?_;show cL _ _ _ _ _;generalize ht:bC (cu [] 3 _) _=tb;walk_at "vx";rw[cr,show ([D.int (ns.length:Int)]:List D)=[(ns.length:Int)].map D.int from rfl,<- List.map_append,eW]
 have hz:=aE ns none (some 2);refine⟨by decide,by rw[sz,List.length_map];omega,?_⟩
 refine cq (λq:Nat×Int=>.tup [.int (q.1:Nat),.int q.2]) _ (λi σ=>∃ x1 x2 x3 x4 x5 x6 x7 x8 x9 x10 x11 x12,σ=[some (.sh (.scr ns)),x1,x2,x3,x4,x5,x6,x7,x8,x9,x10,x11,x12]) (λi q σ N' hx hI hN'=>?_) (λσ hI=>?_) ⟨none,none,none,none,none,none,none,none,none,none,none,none,rfl⟩
 ·obtain⟨x1,x2,x3,x4,x5,x6,x7,x8,x9,x10,x11,x12,rfl⟩:=hI
  obtain⟨i',c⟩:=q;walk_at "vg";subst ht
  -- reel
  refine ai λN1 hN1=>?_;walk_at "vx";refine⟨c,rfl,λr0 hr0=>?_⟩;walk_at "vx";subst hN1
  -- points
  refine ai λN1 hN1=>?_;have key:∀ pts n r,Good n pts->pts.length<=149->ba r->N1 [some (.sh (.scr ns)),some (.sh (.int (i':Nat))),some (.sh (.int c)),some (.own r),some (.own (pts.map bB)),x5,x6,x7,x8,x9,x10,x11,x12]:=by
   intro pts n r hg hl hr;subst hN1
   -- way
   refine ai λN2 hN2=>?_;walk_at "vx";refine⟨by decide,⟨_,rfl⟩,hr,2,rfl,by decide,by decide,λw r1 w0 w1 hr1=>?_⟩
   walk_at "vx";refine bh w0 (by simp only[List.length_cons,List.length_nil];omega) λd hd=>?_
   obtain⟨b,rfl⟩:∃ b,d=cm b:=by
    simp only[List.mem_cons,List.not_mem_nil,or_false] at hd;rcases hd with rfl|rfl
    ·exact⟨false,rfl⟩
    ·exact⟨true,rfl⟩
   clear hd;walk_at "vx";subst hN2
   -- the bounds
   generalize ht:bC (cu [] 7 _) _=tb;walk_at "vx";refine⟨⟨_,rfl⟩,b,n,pts,rfl,hg,by omega,?_⟩
   walk_at "vx";refine⟨hr1,b,pts,rfl,by omega,λjs r2 hjs hjl hr2=>?_⟩
   walk_at "vx";refine cq D.int js (λk σ=>∃ rr y6 y7 y8 y9 y10 y11 y12,σ=[some (.sh (.scr ns)),some (.sh (.int (i':Nat))),some (.sh (.int c)),some (.own rr),some (.sh (.lst (pts.map bB))),some (.sh (cm b)),y6,y7,y8,y9,y10,y11,y12]/\ba rr) (λk j σ N2 hx2 hI2 hN2=>?_) (λσ hI2=>?_) ⟨r2,_,_,_,_,_,_,_,rfl,hr2⟩
   ·obtain⟨rr,y6,y7,y8,y9,y10,y11,y12,rfl,hrr⟩:=hI2
    obtain⟨hj1,hj2⟩:=hjs j (List.mem_of_getElem? hx2);walk_at "vg";subst ht
    -- least
    refine ai λN3 hN3=>?_;walk_at "vx";refine⟨b,j,rfl,hj1,by omega,λleast l0 l1=>?_⟩
    walk_at "vx";subst hN3
    -- sides
    refine ai λN3 hN3=>?_;walk_at "vx";refine⟨⟨_,rfl⟩,by unfold fk;decide,hrr,_,rfl,by decide,by decide,λa1 r3 a10 a11 hr3=>?_⟩
    have a11:a1 < 10^6:=a11;walk_at "vx";refine⟨⟨_,rfl⟩,hr3,9,rfl,by decide,by decide,λa2 r4 a20 a21 hr4=>?_⟩
    walk_at "vx";refine⟨by decide,?_⟩
    obtain⟨s3,es3,s30,s31⟩:∃ s3:Int,(if least - 1 > 1 then least - 1 else 1)=s3/\1<=s3/\s3 < 2^151:=⟨_,rfl,by split<;>omega,by split<;>omega⟩
    rw[es3,show [D.int least,D.int (least+1+a1),D.int s3,D.int (1+a2)]=[least,least+1+a1,s3,1+a2].map D.int from rfl]
    have hsd:∀ s∈[least,least+1+a1,s3,1+a2],(1:Int)<=s/\s < 2^151:=λs hs=>by
     simp only[List.mem_cons,List.not_mem_nil,or_false] at hs;rcases hs with rfl|rfl|rfl|rfl<;>omega
    have hsl:[least,least+1+a1,s3,1+a2].length=4:=rfl;generalize [least,least+1+a1,s3,1+a2]=sides at hsd hsl;subst hN3
    -- papers
    refine ai λN3 hN3=>?_;walk_at "vx";refine ck D.int (λs:Int=>D.tup [.int s,.lst (cI pts s)]) sides (λs hs A ha=>?_) (by rw[sz];omega) ?_
    ·walk_at "vg"
     walk_at "vx";have:=hsd s hs;refine⟨n,pts,s,rfl,hg,by omega,this.1,by omega,?_⟩
     walk_at "vx";exact⟨by decide,ha⟩
    obtain⟨ps,eps,hps,hpl⟩:∃ ps:List D,(sides.map λs:Int=>D.tup [.int s,.lst (cI pts s)])=ps/\(∀ d∈ps,PapD (2^152) 1000 d)/\ps.length=4:=by
     refine⟨_,rfl,λd hd=>?_,by rw[List.length_map,hsl]⟩
     obtain⟨s,hs,rfl⟩:=List.mem_map.mp hd;have:=hsd s hs;exact⟨s,_,rfl,rc hg (by omega),by omega,by omega⟩
    rw[eps];subst hN3
    -- bent ones
    refine ai λN3 hN3=>?_;walk_at "vx";rw[show Int.toNat 4=4 from rfl,dI]
    refine⟨by decide,iJ (λi:Nat=>.int (0+(i:Nat))) (PapD (2^153) 30030) ba _ (λv hv z rz A Z hz ha=>?_) (by rw[List.length_range,sz];omega) hr4 (λds r5 hl1 hd1 hr5=>?_)⟩
    ·walk_at "vg"
     walk_at "vx";refine⟨⟨_,rfl⟩,⟨_,rfl⟩,rz,2,rfl,by decide,by decide,λt z2 t0 t1 rz2=>?_⟩
     walk_at "vx";refine bh t0 (by omega) λd hd=>?_
     obtain⟨side,es,rfl,p1,p2,p3⟩:=hps d hd;walk_at "vx";refine⟨rz2,1000,side,es,_,rfl,p1,by decide,by rw[List.length_map];omega,λside' es' z3 q1 q2 q3 rz3=>?_⟩
     walk_at "vx";exact⟨hz,ha _ _ ⟨side',es',rfl,q1,by omega,by omega⟩ rz3⟩
    refine⟨by rw[hl1,hpl,List.length_range];decide,?_⟩
    have hps2:∀ d∈ps++ds,PapD (2^153) 30030 d:=λd hd=>by
     rcases List.mem_append.mp hd with hd|hd
     ·exact (hps d hd).le (by decide) (by decide)
     ·exact hd1 d hd
    have hpl2:(ps++ds).length=8:=by rw[List.length_append,hpl,hl1,List.length_range]
    generalize ps++ds=ps2 at hps2 hpl2;subst hN3
    -- one bent twice
    refine ai λN3 hN3=>?_;walk_at "vx";refine⟨⟨_,rfl⟩,⟨_,rfl⟩,re (by omega) λd hd=>?_⟩
    obtain⟨side,es,rfl,p1,p2,p3⟩:=hps2 d hd;refine⟨hr5,30030,side,es,_,rfl,p1,by decide,by rw[List.length_map];omega,λside' es' r6 q1 q2 q3 hr6=>?_⟩
    walk_at "vx";refine⟨by rw[hpl2];decide,?_⟩
    have hps3:∀ d∈ps2++[D.tup [D.int side',D.lst es']],PapD (2^154) 930000 d:=λd hd=>by
     rcases List.mem_append.mp hd with hd|hd
     ·exact (hps2 d hd).le (by decide) (by decide)
     ·rw[List.mem_singleton.mp hd]
      exact PapD.le ⟨side',es',rfl,q1,Int.le_trans (by omega) q2,Int.le_trans q3 (by omega)⟩ (Int.le_refl (2^154)) (by decide)
    have hpl3:(ps2++[D.tup [D.int side',D.lst es']]).length=9:=by rw[List.length_append,hpl2];rfl
    generalize ps2++[D.tup [D.int side',D.lst es']]=ps3 at hps3 hpl3;clear hd p1 p2 p3 q1 q2 q3;subst hN3;refine ai λN3 hN3=>?_;have go:∀ ps4:List D,(∀ d∈ps4,PapD (2^154) 930000 d)->N3 [some (.sh (.scr ns)),some (.sh (.int (i':Nat))),some (.sh (.int c)),some (.own r6),some (.sh (.lst (pts.map bB))),some (.sh (cm b)),some (.sh (.int j)),some (.sh (.int least)),some (.sh (.lst (sides.map D.int))),some (.own ps4),y10,y11,y12]:=by
     intro ps4 hps4;subst hN3;generalize ht:bC (cu [] 11 _) _=tb;walk_at "vx";rw[show ps4=ps4.map id from (List.map_id _).symm]
     refine cq id ps4 (λk σ=>∃ z10 z11 z12,σ=[some (.sh (.scr ns)),some (.sh (.int (i':Nat))),some (.sh (.int c)),some (.own r6),some (.sh (.lst (pts.map bB))),some (.sh (cm b)),some (.sh (.int j)),some (.sh (.int least)),some (.sh (.lst (sides.map D.int))),some (.sh (.lst ps4)),z10,z11,z12]) (λk d σ N4 hx4 hI4 hN4=>?_) (λσ hI4=>?_) ⟨_,_,_,by rw[List.map_id]⟩
     ·obtain⟨z10,z11,z12,rfl⟩:=hI4
      obtain⟨side,es,rfl,p1,p2,p3⟩:=hps4 d (List.mem_of_getElem? hx4);have hpp:Pap es:=p1.pap (by decide)
      have hel:=p1.1;subst ht;show cR 10 (D.tup [D.int side,D.lst es]) _ _;walk_at "vg";refine ai λN5 hN5=>?_;walk_at "vx";refine⟨pts,side,es,rfl,hpp,by omega,?_⟩
      walk_at "vx";subst hN5;refine ai λN5 hN5=>?_;walk_at "vx";refine bn (n:=0) rfl rfl ?_;refine bn (n:=1) rfl rfl ?_;walk_at "vx";refine⟨n,b,pts,j,side,es,rfl,hg,by omega,hpp,by omega,⟨by omega,by omega⟩,hj1,?_⟩
      walk_at "vx";subst hN5;refine ai λN5 hN5=>?_;walk_at "vx";refine (if_neg (by decide +kernel)).mpr ⟨n,b,pts,j,side,es,rfl,hg,by omega,hpp,⟨by omega,by omega⟩,?_⟩
      walk_at "vx";refine⟨⟨rfl,rfl⟩,?_⟩;rw[hE 8 (.bl (pG b pts j side es)) rfl];refine (if_neg (by decide)).mpr ?_
      subst hN5;rw[show dM pts=.lst (pts.map bB) from rfl]
      walk_at "vx";refine⟨by decide,⟨QU hpp,QU hpp⟩,?_⟩
      rw[hE 8 _ (QU hpp)];refine (if_neg (by decide)).mpr ?_
      exact hN4 _ ⟨_,_,_,rfl⟩
     ·obtain⟨z10,z11,z12,rfl⟩:=hI4
      exact hN2 _ ⟨_,_,_,_,_,_,_,_,rfl,hr6⟩
    walk_at "vx";refine⟨by decide,⟨qQ pts,rfl⟩,?_⟩
    by_cases hp0:cO (D.lst (List.map bB pts)) (D.lst [])=true
    ·refine (if_pos hp0).mpr ⟨by decide,by decide,by decide,by decide,by decide,by decide,by decide,by decide,by decide,by decide,by decide,by decide,by decide,by decide,by decide,by decide,by rw[hpl3];decide,?_⟩
     refine go _ λd hd=>?_;rcases List.mem_append.mp hd with hd|hd
     ·exact hps3 d hd
     ·simp only[List.mem_cons,List.not_mem_nil,or_false] at hd
      have one:∀ ks ps:List Int,ks.length<=2->ps.length<=2->PapN 930000 [vR ks ps]:=λks ps h1 h2=>⟨by rw[List.length_singleton];decide,λe he=>by rw[List.mem_singleton.mp he];exact⟨ks,ps,rfl,by omega,by omega⟩⟩
      rcases hd with rfl|rfl|rfl
      ·exact⟨_,_,rfl,one [0] [] (by decide) (by decide),by omega,by omega⟩
      ·exact⟨_,_,rfl,one [0,0] [0] (by decide) (by decide),by omega,by omega⟩
      ·exact⟨_,_,rfl,one [] [-1] (by decide) (by decide),by omega,by omega⟩
    ·refine (if_neg hp0).mpr ?_
     exact go _ hps3
   ·obtain⟨rr,y6,y7,y8,y9,y10,y11,y12,rfl,hrr⟩:=hI2
    exact hN' _ ⟨_,_,_,_,_,_,_,_,_,_,_,_,rfl⟩
  walk_at "vx";refine⟨⟨_,rfl⟩,by decide,⟨rfl,rfl⟩,?_⟩
  split
  ·refine⟨⟨_,rfl⟩,hr0,8,rfl,by decide,by decide,λt r1 _ _ hr1=>?_⟩
   walk_at "vx";refine⟨⟨rfl,rfl⟩,?_⟩;refine bh (by split<;>omega) (by simp only[List.length_cons,List.length_nil];split<;>omega) λd hd=>?_
   simp only[List.mem_cons,List.not_mem_nil,or_false] at hd;rcases hd with rfl|rfl
   ·exact⟨hr1,12,rfl,by decide,λpts n ys hg hl hy=>key pts n ys hg (by omega) hy⟩
   ·exact⟨hr1,60,rfl,by decide,λpts n ys hg hl hy=>key pts n ys hg (by omega) hy⟩
  ·refine bh (by first|decide | (split<;>omega)) (by simp only[List.length_cons,List.length_nil];first|decide | (split<;>omega)) λd hd=>?_
   simp only[List.mem_cons,List.not_mem_nil,or_false] at hd;rcases hd with rfl|rfl
   ·exact⟨hr0,12,rfl,by decide,λpts n ys hg hl hy=>key pts n ys hg (by omega) hy⟩
   ·exact⟨hr0,60,rfl,by decide,λpts n ys hg hl hy=>key pts n ys hg (by omega) hy⟩
 ·obtain⟨x1,x2,x3,x4,x5,x6,x7,x8,x9,x10,x11,x12,rfl⟩:=hI
  subst hN;walk_at "vx";exact h

end
def sL (K:PySem.W.Frag):Sp:=λvs H Q _=>∃ (a:Addr) (ns:List Int),vs=[.ref a]/\SqL K H a (ns.map V.int)/\ns.length<=63/\∀ H',Q (.bl true) H'
-- level 6
section
variable [KF]{G:GE}{k:Nat}
local macro_rules|`(tactic| walk_at "8")=>`(tactic| (intro xs ds Q h;first|(obtain⟨e,_⟩:=h;rw[e];rfl) | (obtain⟨_,e,_⟩:=h;rw[e];rfl) | (obtain⟨_,_,e,_⟩:=h;rw[e];rfl) | (obtain⟨_,_,_,e,_⟩:=h;rw[e];rfl) | (obtain⟨_,_,_,_,e,_⟩:=h;rw[e];rfl) | (obtain⟨_,_,_,_,_,e,_⟩:=h;rw[e];rfl) | (obtain⟨_,_,_,_,_,_,e,_⟩:=h;rw[e];rfl) | (obtain⟨_,_,_,_,_,_,_,e,_⟩:=h;rw[e];rfl)))
local macro_rules|`(tactic| walk_at "7")=>`(tactic| (intro ds Q h;first|(obtain⟨e,_⟩:=h;rw[e];rfl) | (obtain⟨_,e,_⟩:=h;rw[e];rfl) | (obtain⟨_,_,e,_⟩:=h;rw[e];rfl) | (obtain⟨_,_,_,e,_⟩:=h;rw[e];rfl) | (obtain⟨_,_,_,_,e,_⟩:=h;rw[e];rfl) | (obtain⟨_,_,_,_,_,e,_⟩:=h;rw[e];rfl) | (obtain⟨_,_,_,_,_,_,e,_⟩:=h;rw[e];rfl) | (obtain⟨_,_,_,_,_,_,_,e,_⟩:=h;rw[e];rfl)))
theorem Gz (hK:G.K=KF.K)(hT:KF.tabs=[])(E:Gl G)
    {pJ:Addr} {GA:FuncData} (xu:FnD G "need_count" gv ["count"] pJ GA)
    {xv:Addr} {Nd:FuncData} (GB:FnD G "need_as_many_numbers" mK ["point","count"] xv Nd)
    {pK:Addr} {GC:FuncData} (xw:FnD G "need_points" gw ["points"] pK GC)
    {pL:Addr} {GD:FuncData} (xx:FnD G "need_way" gy ["way"] pL GD)
    {xz:Addr} {Nf:FuncData} (GF:FnD G "need_points_and_way" mM ["points","way"] xz Nf)
    {xA:Addr} {Ng:FuncData} (GG:FnD G "need_bound_from_one" mP ["bound"] xA Ng)
    {pM:Addr} {GH:FuncData} (xB:FnD G "far_between" gz ["way","point","other"] pM GH)
    {xC:Addr} {Nh:FuncData} (GI:FnD G "pairs_by_places" mQ ["points","way"] xC Nh)
    {pN:Addr} {GJ:FuncData} (xD:FnD G "nearest_two" gA ["points","way"] pN GJ)
    {pO:Addr} {GK:FuncData} (xE:FnD G "cell_by_side" gD ["point","side"] pO GK)
    {xF:Addr} {Ni:FuncData} (GL:FnD G "cells_by_side" mS ["points","side"] xF Ni)
    {xG:Addr} {Nj:FuncData} (GM:FnD G "side_is_enough" mU ["way","side","bound"] xG Nj)
    {xH:Addr} {Nk:FuncData} (GN:FnD G "some_are_nearer" mV ["points","way","bound"] xH Nk)
    {pP:Addr} {GO:FuncData} (xI:FnD G "are_whole" gE ["numbers"] pP GO)
    {xJ:Addr} {Nl:FuncData} (GP:FnD G "is_cell_with_places" mX ["entry"] xJ Nl)
    {pQ:Addr} {GQ:FuncData} (xK:FnD G "has_form" gF ["paper"] pQ GQ)
    {pR:Addr} {GR:FuncData} (xL:FnD G "cells_show" gG ["points","way","bound","paper"] pR GR)
    {pS:Addr} {GT:FuncData} (xM:FnD G "_law_reel" gH ["cell"] pS GT)
    {pT:Addr} {GU:FuncData} (xN:FnD G "_law_take" gI ["reel","many"] pT GU)
    {pU:Addr} {GV:FuncData} (xO:FnD G "_law_points" gJ ["reel","most"] pU GV)
    {pV:Addr} {GW:FuncData} (xP:FnD G "_law_far" gK ["way","one","other"] pV GW)
    {pW:Addr} {GX:FuncData} (xQ:FnD G "_law_pairs" gL ["points","way"] pW GX)
    {xR:Addr} {Nm:FuncData} (GY:FnD G "_law_some_bounds" nc ["reel","pairs"] xR Nm)
    {pX:Addr} {GZ:FuncData} (xS:FnD G "_law_cells" gM ["points","side"] pX GZ)
    {pY:Addr} {Ha:FuncData} (xT:FnD G "_law_is_wide" gN ["way","bound","side"] pY Ha)
    {xU:Addr} {Nn:FuncData} (Hb:FnD G "_law_least_side" ng ["way","bound"] xU Nn)
    {pZ:Addr} {Hc:FuncData} (xV:FnD G "_law_shows" gO ["points","way","bound","paper"] pZ Hc)
    {qa:Addr} {Hd:FuncData} (xW:FnD G "_law_bent" gQ ["reel","paper","many"] qa Hd)
    {qb:Addr} {He:FuncData} (xX:FnD G "_law_handed" gR ["points","paper"] qb He)
    {lC:Addr} {xY:FuncData} (xZ:FnD G "law" eC ["script"] lC xY)
   :FnOk G.P G.w G.K G.mg G.base qd 7 lC xY ["script"] (sL G.K):=by
  have wU:FnG G 1 "_law_reel" ny:=xM.fg (k:=0) hK FW (ME E) (by walk_at "7") Gr
  have bj:FnIo G 1 "_law_take" ff:=xN.fio (k:=0) hK FX (MF E) (by decide) (by walk_at "8") Gu
  have wV:FnIo G 2 "_law_points" fK:=xO.fio (k:=1) hK FY (MG E (bj.mono (by decide))) (by decide) (by walk_at "8") ua
  have Gm:FnIo G 2 "_law_some_bounds" xr:=GY.fio (k:=1) hK MJ (QN E (bj.mono (by decide))) (by decide) (by walk_at "8") QT
  have wG:FnG G 1 "_law_far" fI:=xP.fg (k:=0) hK FZ (MH E) (by walk_at "7") Go
  have lr:FnG G 2 "_law_pairs" fh:=xQ.fg (k:=1) hK Ga (MI E (wG.mono (by decide))) (by walk_at "7") xg
  have Gn:FnG G 1 "_law_least_side" ku:=Hb.fg (k:=0) hK MM (QO E) (by walk_at "7") Cp
  have lq:FnG G 1 "_law_cells" di:=xS.fg (k:=0) hK Gd (MK E) (by walk_at "7") xn
  have sA:FnIo G 2 "_law_bent" nG:=xW.fio (k:=1) hK Gi (MO E (bj.mono (by decide))) (by decide) (by walk_at "8") Gy
  have wW:FnG G 1 "_law_handed" nF:=xX.fg (k:=0) hK Gj (MP E) (by walk_at "7") Gx
  have vX:FnG G 1 "need_count" iM:=xu.fg (k:=0) hK Fp (Mm E) (by walk_at "7") xa
  have Fu:FnG G 1 "need_as_many_numbers" qP:=GB.fg (k:=0) hK Mn (QF E) (by walk_at "7") MS
  have wc:FnG G 2 "need_points" nu:=xw.fg (k:=1) hK Ft (Mo E (vX.mono (by decide)) (Fu.mono (by decide))) (by walk_at "7") Gp
  have wd:FnG G 1 "need_way" nv:=xx.fg (k:=0) hK Fv (Mp E) (by walk_at "7") Gq
  have tZ:FnG G 3 "need_points_and_way" nw:=GF.fg (k:=2) hK Mq (QG E (wc.mono (by decide)) (wd.mono (by decide))) (by walk_at "7") MT
  have FS:FnG G 1 "need_bound_from_one" qY:=GG.fg (k:=0) hK Mr (QH E) (by walk_at "7") Na
  have ki:FnG G 1 "are_whole" sI:=xI.fg (k:=0) hK FM (MA E) (by walk_at "7") QR
  have FQ:FnG G 2 "is_cell_with_places" qX:=GP.fg (k:=1) hK MB (QM E (ki.mono (by decide))) (by walk_at "7") MZ
  have ww:FnG G 3 "has_form" xk:=xK.fg (k:=2) hK FP (MC E (ki.mono (by decide)) (FQ.mono (by decide))) (by walk_at "7") QS
  have FT:FnG G 1 "side_is_enough" qV:=GM.fg (k:=0) hK My (QK E) (by walk_at "7") MY
  have wn:FnG G 1 "cell_by_side" qU:=xE.fg (k:=0) hK FF (Mw E) (by walk_at "7") MX
  have FU:FnG G 2 "cells_by_side" di:=GL.fg (k:=1) hK Mx (QJ E (wn.mono (by decide))) (by walk_at "7") Co
  have wg:FnG G 1 "far_between" fI:=xB.fg (k:=0) hK FB (Ms E) (by walk_at "7") CN
  have FE:FnG G 2 "pairs_by_places" ko:=GI.fg (k:=1) hK Mt (QI E (wg.mono (by decide))) (by walk_at "7") Ck
  have wo:FnG G 4 "nearest_two" qT:=xD.fg (k:=3) hK FD (Mv E (tZ.mono (by decide)) (FE.mono (by decide))) (by walk_at "7") MW
  have FV:FnG G 5 "some_are_nearer" qZ:=GN.fg (k:=4) hK Mz (QL E (wo.mono (by decide))) (by walk_at "7") Nb
  have wX:FnG G 6 "cells_show" nD:=xL.fg (k:=5) hK FR (MD E (tZ.mono (by decide)) (FS.mono (by decide)) (ww.mono (by decide)) (FT.mono (by decide)) (FU.mono (by decide)) (FV.mono (by decide))) (by walk_at "7") Gv
  have wN:FnG G 1 "_law_is_wide" nE:=xT.fg (k:=0) hK Ge (ML E) (by walk_at "7") Gw
  have wY:FnG G 3 "_law_shows" iR:=xV.fg (k:=2) hK Gh (MN E (wN.mono (by decide)) (lq.mono (by decide)) (lr.mono (by decide))) (by walk_at "7") xq
  refine (CF (k:=6) (sp:=xt) hK xZ.F Gk (MQ E (wU.mono (by decide)) (wV.mono (by decide)) (bj.mono (by decide)) (Gm.mono (by decide)) (lr.mono (by decide)) (Gn.mono (by decide)) (lq.mono (by decide)) (sA.mono (by decide)) (wW.mono (by decide)) (wX.mono (by decide)) (wY.mono (by decide))) (by walk_at "7") Nc).imp λvs H Q E' h=>?_
  obtain⟨a,ns,rfl,hS,hl,q⟩:=h;refine⟨H,[.scr ns],λb=>b=.sh (.bl true),⟨Same.refl _,λq hq=>by rw[hT] at hq;cases hq⟩,.cons (.scr (by rw[<- hK];exact hS)) .nil,⟨ns,rfl,hl,rfl⟩,λv H' F' b _ _ _ _ r e=>?_⟩
  subst e;have r:Rep F' v (.bl true):=r;cases r;exact q H'
end

theorem all_mk {l:PySem.W.OpenLaw}{w:World}{K:PySem.W.Frag}{h:Heap}{mg:Str->Option Value}{fa:Addr}(X:K.In h)(Gs:h.Ns mainGlobals mg)(hfa:mg "law"=some (.ref fa))
 {pJ xv pK pL xz xA pM xC pN pO xF xG xH pP xJ pQ pR pS pT pU pV pW xR pX pY xU pZ qa qb lC:Addr}
 {Hf Hg No Np Hh Hj Hk Hl Nq Nr Nt Nu Hm Hn Nv Nx Ho Hq Hr Hs Ny Nz NA NB NC ND Ht Hu NE NF Hv Hw Hx Hy Hz HA HB HC HD HE HF HG HH HJ NG NH HK HL HM HN NI NJ HP HR HU HV HW HX HY ya:Option Addr}
 {HZ NK Ia Ib NL NM Ic NN Id Ie NO NP NQ Ig NR Ih Ii Ij Ik Il Im Io NS Iq Ir NT Iu Iv Iw Ix:Array (Option Value)}
 {Iy Iz IA IB yb IC NU NV NW NX CP NY ID IE IG IH yc II IJ IK IL IM yd IO NZ Oa Ob Oc CQ Od Oe Of Og Oh CS Oi IP IQ IR IT ye IU Oj Ol Om On CT Oo IV IW IX IY yf IZ Ja Jb Jc Jd yg Je Op Oq Os Ot CU Ou Ov Ow Ox Oy CV Oz OA OB OC OD CW OE Jf Jg Jh Ji yh Jj OF OG OH OI CY OJ Jk Jl Jm Jn yi Jo Jp Jq Jr Js yj Jt Ju Jv Jw Jx yk Jy Jz JA JB JC ym JD JE JF JG JH yn JI JJ JK JL JM yo JN JO JP JQ JR yp JS OL OM ON OO CZ OP JT JU JV JW yq JX JY JZ Ka Kb yr Kc OQ OT OU OW Da OX Kd Ke Kf Kg yt Kh Ki Kj Kk Kl yu Km Kn Ko Kq Kr yv Ks Kt yw yx yy rh yz:Value}
  {tk_SQUARES:Tok}
  {tk_STREETS:Tok}
  (yA:PySem.W.nsIn K mainGlobals "need_count"=some (some (.ref pJ)))
  (yB:K.lookup pJ=some ⟨Iy,Hf,.func (PySem.W.fnOf "need_count" "need_count" (aI gv) (ao gv) (af gv) .none Iz IA IB Hg yb IC),HZ⟩)
  (yC:PySem.W.codeIn K yb "need_count"=true) (yD:PySem.W.keepIn K (.ref pJ)=true)
  (Ku:PySem.W.nsIn K mainGlobals "need_as_many_numbers"=some (some (.ref xv)))
  (Kv:K.lookup xv=some ⟨NU,No,.func (PySem.W.fnOf "need_as_many_numbers" "need_as_many_numbers" (aI mK) (ao mK) (af mK) .none NV NW NX Np CP NY),NK⟩)
  (Kw:PySem.W.codeIn K CP "need_as_many_numbers"=true) (Kx:PySem.W.keepIn K (.ref xv)=true)
  (yE:PySem.W.nsIn K mainGlobals "need_points"=some (some (.ref pK)))
  (yF:K.lookup pK=some ⟨ID,Hh,.func (PySem.W.fnOf "need_points" "need_points" (aI gw) (ao gw) (af gw) .none IE IG IH Hj yc II),Ia⟩)
  (yG:PySem.W.codeIn K yc "need_points"=true) (yH:PySem.W.keepIn K (.ref pK)=true)
  (yI:PySem.W.nsIn K mainGlobals "need_way"=some (some (.ref pL)))
  (yJ:K.lookup pL=some ⟨IJ,Hk,.func (PySem.W.fnOf "need_way" "need_way" (aI gy) (ao gy) (af gy) .none IK IL IM Hl yd IO),Ib⟩)
  (yK:PySem.W.codeIn K yd "need_way"=true) (yL:PySem.W.keepIn K (.ref pL)=true)
  (Ky:PySem.W.nsIn K mainGlobals "need_points_and_way"=some (some (.ref xz)))
  (Kz:K.lookup xz=some ⟨NZ,Nq,.func (PySem.W.fnOf "need_points_and_way" "need_points_and_way" (aI mM) (ao mM) (af mM) .none Oa Ob Oc Nr CQ Od),NL⟩)
  (KA:PySem.W.codeIn K CQ "need_points_and_way"=true) (KB:PySem.W.keepIn K (.ref xz)=true)
  (KC:PySem.W.nsIn K mainGlobals "need_bound_from_one"=some (some (.ref xA)))
  (KD:K.lookup xA=some ⟨Oe,Nt,.func (PySem.W.fnOf "need_bound_from_one" "need_bound_from_one" (aI mP) (ao mP) (af mP) .none Of Og Oh Nu CS Oi),NM⟩)
  (KE:PySem.W.codeIn K CS "need_bound_from_one"=true) (KG:PySem.W.keepIn K (.ref xA)=true)
  (yM:PySem.W.nsIn K mainGlobals "far_between"=some (some (.ref pM)))
  (yN:K.lookup pM=some ⟨IP,Hm,.func (PySem.W.fnOf "far_between" "far_between" (aI gz) (ao gz) (af gz) .none IQ IR IT Hn ye IU),Ic⟩)
  (yO:PySem.W.codeIn K ye "far_between"=true) (yP:PySem.W.keepIn K (.ref pM)=true)
  (KH:PySem.W.nsIn K mainGlobals "pairs_by_places"=some (some (.ref xC)))
  (KI:K.lookup xC=some ⟨Oj,Nv,.func (PySem.W.fnOf "pairs_by_places" "pairs_by_places" (aI mQ) (ao mQ) (af mQ) .none Ol Om On Nx CT Oo),NN⟩)
  (KJ:PySem.W.codeIn K CT "pairs_by_places"=true) (KK:PySem.W.keepIn K (.ref xC)=true)
  (yQ:PySem.W.nsIn K mainGlobals "nearest_two"=some (some (.ref pN)))
  (yR:K.lookup pN=some ⟨IV,Ho,.func (PySem.W.fnOf "nearest_two" "nearest_two" (aI gA) (ao gA) (af gA) .none IW IX IY Hq yf IZ),Id⟩)
  (yS:PySem.W.codeIn K yf "nearest_two"=true) (yT:PySem.W.keepIn K (.ref pN)=true)
  (yU:PySem.W.nsIn K mainGlobals "cell_by_side"=some (some (.ref pO)))
  (yV:K.lookup pO=some ⟨Ja,Hr,.func (PySem.W.fnOf "cell_by_side" "cell_by_side" (aI gD) (ao gD) (af gD) .none Jb Jc Jd Hs yg Je),Ie⟩)
  (yW:PySem.W.codeIn K yg "cell_by_side"=true) (yX:PySem.W.keepIn K (.ref pO)=true)
  (KL:PySem.W.nsIn K mainGlobals "cells_by_side"=some (some (.ref xF)))
  (KM:K.lookup xF=some ⟨Op,Ny,.func (PySem.W.fnOf "cells_by_side" "cells_by_side" (aI mS) (ao mS) (af mS) .none Oq Os Ot Nz CU Ou),NO⟩)
  (KN:PySem.W.codeIn K CU "cells_by_side"=true) (KO:PySem.W.keepIn K (.ref xF)=true)
  (KP:PySem.W.nsIn K mainGlobals "side_is_enough"=some (some (.ref xG)))
  (KQ:K.lookup xG=some ⟨Ov,NA,.func (PySem.W.fnOf "side_is_enough" "side_is_enough" (aI mU) (ao mU) (af mU) .none Ow Ox Oy NB CV Oz),NP⟩)
  (KR:PySem.W.codeIn K CV "side_is_enough"=true) (KS:PySem.W.keepIn K (.ref xG)=true)
  (KU:PySem.W.nsIn K mainGlobals "some_are_nearer"=some (some (.ref xH)))
  (KW:K.lookup xH=some ⟨OA,NC,.func (PySem.W.fnOf "some_are_nearer" "some_are_nearer" (aI mV) (ao mV) (af mV) .none OB OC OD ND CW OE),NQ⟩)
  (KY:PySem.W.codeIn K CW "some_are_nearer"=true) (KZ:PySem.W.keepIn K (.ref xH)=true)
  (yY:PySem.W.nsIn K mainGlobals "are_whole"=some (some (.ref pP)))
  (yZ:K.lookup pP=some ⟨Jf,Ht,.func (PySem.W.fnOf "are_whole" "are_whole" (aI gE) (ao gE) (af gE) .none Jg Jh Ji Hu yh Jj),Ig⟩)
  (za:PySem.W.codeIn K yh "are_whole"=true) (zb:PySem.W.keepIn K (.ref pP)=true)
  (La:PySem.W.nsIn K mainGlobals "is_cell_with_places"=some (some (.ref xJ)))
  (Lb:K.lookup xJ=some ⟨OF,NE,.func (PySem.W.fnOf "is_cell_with_places" "is_cell_with_places" (aI mX) (ao mX) (af mX) .none OG OH OI NF CY OJ),NR⟩)
  (Lc:PySem.W.codeIn K CY "is_cell_with_places"=true) (Ld:PySem.W.keepIn K (.ref xJ)=true)
  (zc:PySem.W.nsIn K mainGlobals "has_form"=some (some (.ref pQ)))
  (zd:K.lookup pQ=some ⟨Jk,Hv,.func (PySem.W.fnOf "has_form" "has_form" (aI gF) (ao gF) (af gF) .none Jl Jm Jn Hw yi Jo),Ih⟩)
  (ze:PySem.W.codeIn K yi "has_form"=true) (zf:PySem.W.keepIn K (.ref pQ)=true)
  (zg:PySem.W.nsIn K mainGlobals "cells_show"=some (some (.ref pR)))
  (zh:K.lookup pR=some ⟨Jp,Hx,.func (PySem.W.fnOf "cells_show" "cells_show" (aI gG) (ao gG) (af gG) .none Jq Jr Js Hy yj Jt),Ii⟩)
  (zi:PySem.W.codeIn K yj "cells_show"=true) (zj:PySem.W.keepIn K (.ref pR)=true)
  (zk:PySem.W.nsIn K mainGlobals "_law_reel"=some (some (.ref pS)))
  (zl:K.lookup pS=some ⟨Ju,Hz,.func (PySem.W.fnOf "_law_reel" "_law_reel" (aI gH) (ao gH) (af gH) .none Jv Jw Jx HA yk Jy),Ij⟩)
  (zm:PySem.W.codeIn K yk "_law_reel"=true) (zn:PySem.W.keepIn K (.ref pS)=true)
  (zo:PySem.W.nsIn K mainGlobals "_law_take"=some (some (.ref pT)))
  (zp:K.lookup pT=some ⟨Jz,HB,.func (PySem.W.fnOf "_law_take" "_law_take" (aI gI) (ao gI) (af gI) .none JA JB JC HC ym JD),Ik⟩)
  (zq:PySem.W.codeIn K ym "_law_take"=true) (zr:PySem.W.keepIn K (.ref pT)=true)
  (zt:PySem.W.nsIn K mainGlobals "_law_points"=some (some (.ref pU)))
  (zu:K.lookup pU=some ⟨JE,HD,.func (PySem.W.fnOf "_law_points" "_law_points" (aI gJ) (ao gJ) (af gJ) .none JF JG JH HE yn JI),Il⟩)
  (zv:PySem.W.codeIn K yn "_law_points"=true) (zw:PySem.W.keepIn K (.ref pU)=true)
  (zF:PySem.W.nsIn K mainGlobals "_law_far"=some (some (.ref pV)))
  (zG:K.lookup pV=some ⟨JJ,HF,.func (PySem.W.fnOf "_law_far" "_law_far" (aI gK) (ao gK) (af gK) .none JK JL JM HG yo JN),Im⟩)
  (zH:PySem.W.codeIn K yo "_law_far"=true) (zI:PySem.W.keepIn K (.ref pV)=true)
  (zJ:PySem.W.nsIn K mainGlobals "_law_pairs"=some (some (.ref pW)))
  (zK:K.lookup pW=some ⟨JO,HH,.func (PySem.W.fnOf "_law_pairs" "_law_pairs" (aI gL) (ao gL) (af gL) .none JP JQ JR HJ yp JS),Io⟩)
  (zL:PySem.W.codeIn K yp "_law_pairs"=true) (zM:PySem.W.keepIn K (.ref pW)=true)
  (Le:PySem.W.nsIn K mainGlobals "_law_some_bounds"=some (some (.ref xR)))
  (Lf:K.lookup xR=some ⟨OL,NG,.func (PySem.W.fnOf "_law_some_bounds" "_law_some_bounds" (aI nc) (ao nc) (af nc) .none OM ON OO NH CZ OP),NS⟩)
  (Lg:PySem.W.codeIn K CZ "_law_some_bounds"=true) (Lh:PySem.W.keepIn K (.ref xR)=true)
  (zN:PySem.W.nsIn K mainGlobals "_law_cells"=some (some (.ref pX)))
  (zO:K.lookup pX=some ⟨JT,HK,.func (PySem.W.fnOf "_law_cells" "_law_cells" (aI gM) (ao gM) (af gM) .none JU JV JW HL yq JX),Iq⟩)
  (zP:PySem.W.codeIn K yq "_law_cells"=true) (zQ:PySem.W.keepIn K (.ref pX)=true)
  (zR:PySem.W.nsIn K mainGlobals "_law_is_wide"=some (some (.ref pY)))
  (zS:K.lookup pY=some ⟨JY,HM,.func (PySem.W.fnOf "_law_is_wide" "_law_is_wide" (aI gN) (ao gN) (af gN) .none JZ Ka Kb HN yr Kc),Ir⟩)
  (zU:PySem.W.codeIn K yr "_law_is_wide"=true) (zV:PySem.W.keepIn K (.ref pY)=true)
  (Li:PySem.W.nsIn K mainGlobals "_law_least_side"=some (some (.ref xU)))
  (Lj:K.lookup xU=some ⟨OQ,NI,.func (PySem.W.fnOf "_law_least_side" "_law_least_side" (aI ng) (ao ng) (af ng) .none OT OU OW NJ Da OX),NT⟩)
  (Lk:PySem.W.codeIn K Da "_law_least_side"=true) (Ll:PySem.W.keepIn K (.ref xU)=true)
  (zW:PySem.W.nsIn K mainGlobals "_law_shows"=some (some (.ref pZ)))
  (zX:K.lookup pZ=some ⟨Kd,HP,.func (PySem.W.fnOf "_law_shows" "_law_shows" (aI gO) (ao gO) (af gO) .none Ke Kf Kg HR yt Kh),Iu⟩)
  (zY:PySem.W.codeIn K yt "_law_shows"=true) (zZ:PySem.W.keepIn K (.ref pZ)=true)
  (Aa:PySem.W.nsIn K mainGlobals "_law_bent"=some (some (.ref qa)))
  (Ab:K.lookup qa=some ⟨Ki,HU,.func (PySem.W.fnOf "_law_bent" "_law_bent" (aI gQ) (ao gQ) (af gQ) .none Kj Kk Kl HV yu Km),Iv⟩)
  (Ac:PySem.W.codeIn K yu "_law_bent"=true) (Ad:PySem.W.keepIn K (.ref qa)=true)
  (Ae:PySem.W.nsIn K mainGlobals "_law_handed"=some (some (.ref qb)))
  (Af:K.lookup qb=some ⟨Kn,HW,.func (PySem.W.fnOf "_law_handed" "_law_handed" (aI gR) (ao gR) (af gR) .none Ko Kq Kr HX yv Ks),Iw⟩)
  (Ag:PySem.W.codeIn K yv "_law_handed"=true) (Ah:PySem.W.keepIn K (.ref qb)=true)
  (sM:PySem.W.nsIn K mainGlobals "law"=some (some (.ref lC)))
  (Ai:K.lookup lC=some ⟨Kt,HY,.func (PySem.W.fnOf "law" "law" (aI eC) (ao eC) (af eC) .none yw yx yy ya rh yz),Ix⟩)
  (Aj:PySem.W.codeIn K rh "law"=true) (Ak:PySem.W.keepIn K (.ref lC)=true)
  (z_abs:PySem.W.nsIn K mainGlobals "abs"=some none)
  (z_all:PySem.W.nsIn K mainGlobals "all"=some none)
  (z_bool:PySem.W.nsIn K mainGlobals "bool"=some none)
  (z_enumerate:PySem.W.nsIn K mainGlobals "enumerate"=some none)
  (z_int:PySem.W.nsIn K mainGlobals "int"=some none)
  (z_isinstance:PySem.W.nsIn K mainGlobals "isinstance"=some none)
  (z_len:PySem.W.nsIn K mainGlobals "len"=some none)
  (z_list:PySem.W.nsIn K mainGlobals "list"=some none)
  (z_max:PySem.W.nsIn K mainGlobals "max"=some none)
  (z_min:PySem.W.nsIn K mainGlobals "min"=some none)
  (z_range:PySem.W.nsIn K mainGlobals "range"=some none)
  (z_sorted:PySem.W.nsIn K mainGlobals "sorted"=some none)
  (z_sum:PySem.W.nsIn K mainGlobals "sum"=some none)
  (z_tuple:PySem.W.nsIn K mainGlobals "tuple"=some none)
  (z_zip:PySem.W.nsIn K mainGlobals "zip"=some none)
  (u_SQUARES:PySem.W.nsIn K mainGlobals "SQUARES"=some (some (.str "squares" tk_SQUARES)))
  (u_STREETS:PySem.W.nsIn K mainGlobals "STREETS"=some (some (.str "streets" tk_STREETS))) :
  ∃ fd:FuncData,(∀ (s:Shared) (v:Value),BindsTo s fd ⟨[v],[]⟩ [("script",v)])/\∀ base:Heap,K.In base->base.Ns mainGlobals mg->FnOk l.prog w K mg base qd 7 fa fd ["script"] (sL K):=by
 have e:=hfa.symm.trans (PySem.W.mg_of X Gs sM);cases e;refine⟨PySem.W.fnOf "law" "law" (aI eC) (ao eC) (af eC) .none yw yx yy ya rh yz,λs v=>.of_eq rfl,λbase _ _=>?_⟩
 letI:KF:=⟨K,λ_=>0,[]⟩
 have E:Gl ⟨l.prog,w,K,mg,base⟩:=⟨PySem.W.mg_none_of X Gs z_abs,PySem.W.mg_none_of X Gs z_all,PySem.W.mg_none_of X Gs z_bool,PySem.W.mg_none_of X Gs z_enumerate,PySem.W.mg_none_of X Gs z_int,PySem.W.mg_none_of X Gs z_isinstance,PySem.W.mg_none_of X Gs z_len,PySem.W.mg_none_of X Gs z_list,PySem.W.mg_none_of X Gs z_max,PySem.W.mg_none_of X Gs z_min,PySem.W.mg_none_of X Gs z_range,PySem.W.mg_none_of X Gs z_sorted,PySem.W.mg_none_of X Gs z_sum,PySem.W.mg_none_of X Gs z_tuple,PySem.W.mg_none_of X Gs z_zip,⟨_,.str "squares",PySem.W.mg_of X Gs u_SQUARES,⟨_,rfl⟩,λF=>.str _⟩,⟨_,.str "streets",PySem.W.mg_of X Gs u_STREETS,⟨_,rfl⟩,λF=>.str _⟩⟩;have Db:=bb (K:=K) (st:=gv) yB yC yD;have xu:FnD ⟨l.prog,w,K,mg,base⟩ "need_count" gv ["count"] _ _:=⟨Db,PySem.W.mg_of X Gs yA,Db.binds λ_ _ _ _ _ _ us hl=>len1 (λ_=>rfl) us hl⟩;have OY:=bb (K:=K) (st:=mK) Kv Kw Kx;have GB:FnD ⟨l.prog,w,K,mg,base⟩ "need_as_many_numbers" mK ["point","count"] _ _:=⟨OY,PySem.W.mg_of X Gs Ku,OY.binds λ_ _ _ _ _ _ us hl=>len2 (λ_ _=>rfl) us hl⟩;have Dc:=bb (K:=K) (st:=gw) yF yG yH;have xw:FnD ⟨l.prog,w,K,mg,base⟩ "need_points" gw ["points"] _ _:=⟨Dc,PySem.W.mg_of X Gs yE,Dc.binds λ_ _ _ _ _ _ us hl=>len1 (λ_=>rfl) us hl⟩;have Dd:=bb (K:=K) (st:=gy) yJ yK yL;have xx:FnD ⟨l.prog,w,K,mg,base⟩ "need_way" gy ["way"] _ _:=⟨Dd,PySem.W.mg_of X Gs yI,Dd.binds λ_ _ _ _ _ _ us hl=>len1 (λ_=>rfl) us hl⟩;have OZ:=bb (K:=K) (st:=mM) Kz KA KB;have GF:FnD ⟨l.prog,w,K,mg,base⟩ "need_points_and_way" mM ["points","way"] _ _:=⟨OZ,PySem.W.mg_of X Gs Ky,OZ.binds λ_ _ _ _ _ _ us hl=>len2 (λ_ _=>rfl) us hl⟩;have Pa:=bb (K:=K) (st:=mP) KD KE KG;have GG:FnD ⟨l.prog,w,K,mg,base⟩ "need_bound_from_one" mP ["bound"] _ _:=⟨Pa,PySem.W.mg_of X Gs KC,Pa.binds λ_ _ _ _ _ _ us hl=>len1 (λ_=>rfl) us hl⟩;have Df:=bb (K:=K) (st:=gz) yN yO yP;have xB:FnD ⟨l.prog,w,K,mg,base⟩ "far_between" gz ["way","point","other"] _ _:=⟨Df,PySem.W.mg_of X Gs yM,Df.binds λ_ _ _ _ _ _ us hl=>len3 (λ_ _ _=>rfl) us hl⟩;have Pb:=bb (K:=K) (st:=mQ) KI KJ KK;have GI:FnD ⟨l.prog,w,K,mg,base⟩ "pairs_by_places" mQ ["points","way"] _ _:=⟨Pb,PySem.W.mg_of X Gs KH,Pb.binds λ_ _ _ _ _ _ us hl=>len2 (λ_ _=>rfl) us hl⟩;have Dg:=bb (K:=K) (st:=gA) yR yS yT;have xD:FnD ⟨l.prog,w,K,mg,base⟩ "nearest_two" gA ["points","way"] _ _:=⟨Dg,PySem.W.mg_of X Gs yQ,Dg.binds λ_ _ _ _ _ _ us hl=>len2 (λ_ _=>rfl) us hl⟩;have Dh:=bb (K:=K) (st:=gD) yV yW yX;have xE:FnD ⟨l.prog,w,K,mg,base⟩ "cell_by_side" gD ["point","side"] _ _:=⟨Dh,PySem.W.mg_of X Gs yU,Dh.binds λ_ _ _ _ _ _ us hl=>len2 (λ_ _=>rfl) us hl⟩;have Pc:=bb (K:=K) (st:=mS) KM KN KO;have GL:FnD ⟨l.prog,w,K,mg,base⟩ "cells_by_side" mS ["points","side"] _ _:=⟨Pc,PySem.W.mg_of X Gs KL,Pc.binds λ_ _ _ _ _ _ us hl=>len2 (λ_ _=>rfl) us hl⟩
 have Pd:=bb (K:=K) (st:=mU) KQ KR KS;have GM:FnD ⟨l.prog,w,K,mg,base⟩ "side_is_enough" mU ["way","side","bound"] _ _:=⟨Pd,PySem.W.mg_of X Gs KP,Pd.binds λ_ _ _ _ _ _ us hl=>len3 (λ_ _ _=>rfl) us hl⟩;have Pe:=bb (K:=K) (st:=mV) KW KY KZ;have GN:FnD ⟨l.prog,w,K,mg,base⟩ "some_are_nearer" mV ["points","way","bound"] _ _:=⟨Pe,PySem.W.mg_of X Gs KU,Pe.binds λ_ _ _ _ _ _ us hl=>len3 (λ_ _ _=>rfl) us hl⟩;have Di:=bb (K:=K) (st:=gE) yZ za zb;have xI:FnD ⟨l.prog,w,K,mg,base⟩ "are_whole" gE ["numbers"] _ _:=⟨Di,PySem.W.mg_of X Gs yY,Di.binds λ_ _ _ _ _ _ us hl=>len1 (λ_=>rfl) us hl⟩;have Pg:=bb (K:=K) (st:=mX) Lb Lc Ld;have GP:FnD ⟨l.prog,w,K,mg,base⟩ "is_cell_with_places" mX ["entry"] _ _:=⟨Pg,PySem.W.mg_of X Gs La,Pg.binds λ_ _ _ _ _ _ us hl=>len1 (λ_=>rfl) us hl⟩;have Dj:=bb (K:=K) (st:=gF) zd ze zf;have xK:FnD ⟨l.prog,w,K,mg,base⟩ "has_form" gF ["paper"] _ _:=⟨Dj,PySem.W.mg_of X Gs zc,Dj.binds λ_ _ _ _ _ _ us hl=>len1 (λ_=>rfl) us hl⟩;have Dk:=bb (K:=K) (st:=gG) zh zi zj;have xL:FnD ⟨l.prog,w,K,mg,base⟩ "cells_show" gG ["points","way","bound","paper"] _ _:=⟨Dk,PySem.W.mg_of X Gs zg,Dk.binds λ_ _ _ _ _ _ us hl=>len4 (λ_ _ _ _=>rfl) us hl⟩;have Dl:=bb (K:=K) (st:=gH) zl zm zn;have xM:FnD ⟨l.prog,w,K,mg,base⟩ "_law_reel" gH ["cell"] _ _:=⟨Dl,PySem.W.mg_of X Gs zk,Dl.binds λ_ _ _ _ _ _ us hl=>len1 (λ_=>rfl) us hl⟩;have Dm:=bb (K:=K) (st:=gI) zp zq zr;have xN:FnD ⟨l.prog,w,K,mg,base⟩ "_law_take" gI ["reel","many"] _ _:=⟨Dm,PySem.W.mg_of X Gs zo,Dm.binds λ_ _ _ _ _ _ us hl=>len2 (λ_ _=>rfl) us hl⟩;have Dp:=bb (K:=K) (st:=gJ) zu zv zw;have xO:FnD ⟨l.prog,w,K,mg,base⟩ "_law_points" gJ ["reel","most"] _ _:=⟨Dp,PySem.W.mg_of X Gs zt,Dp.binds λ_ _ _ _ _ _ us hl=>len2 (λ_ _=>rfl) us hl⟩;have Dq:=bb (K:=K) (st:=gK) zG zH zI;have xP:FnD ⟨l.prog,w,K,mg,base⟩ "_law_far" gK ["way","one","other"] _ _:=⟨Dq,PySem.W.mg_of X Gs zF,Dq.binds λ_ _ _ _ _ _ us hl=>len3 (λ_ _ _=>rfl) us hl⟩;have Ds:=bb (K:=K) (st:=gL) zK zL zM;have xQ:FnD ⟨l.prog,w,K,mg,base⟩ "_law_pairs" gL ["points","way"] _ _:=⟨Ds,PySem.W.mg_of X Gs zJ,Ds.binds λ_ _ _ _ _ _ us hl=>len2 (λ_ _=>rfl) us hl⟩;have Ph:=bb (K:=K) (st:=nc) Lf Lg Lh;have GY:FnD ⟨l.prog,w,K,mg,base⟩ "_law_some_bounds" nc ["reel","pairs"] _ _:=⟨Ph,PySem.W.mg_of X Gs Le,Ph.binds λ_ _ _ _ _ _ us hl=>len2 (λ_ _=>rfl) us hl⟩;have Dt:=bb (K:=K) (st:=gM) zO zP zQ;have xS:FnD ⟨l.prog,w,K,mg,base⟩ "_law_cells" gM ["points","side"] _ _:=⟨Dt,PySem.W.mg_of X Gs zN,Dt.binds λ_ _ _ _ _ _ us hl=>len2 (λ_ _=>rfl) us hl⟩;have Du:=bb (K:=K) (st:=gN) zS zU zV;have xT:FnD ⟨l.prog,w,K,mg,base⟩ "_law_is_wide" gN ["way","bound","side"] _ _:=⟨Du,PySem.W.mg_of X Gs zR,Du.binds λ_ _ _ _ _ _ us hl=>len3 (λ_ _ _=>rfl) us hl⟩
 have Pi:=bb (K:=K) (st:=ng) Lj Lk Ll;have Hb:FnD ⟨l.prog,w,K,mg,base⟩ "_law_least_side" ng ["way","bound"] _ _:=⟨Pi,PySem.W.mg_of X Gs Li,Pi.binds λ_ _ _ _ _ _ us hl=>len2 (λ_ _=>rfl) us hl⟩;have Dv:=bb (K:=K) (st:=gO) zX zY zZ;have xV:FnD ⟨l.prog,w,K,mg,base⟩ "_law_shows" gO ["points","way","bound","paper"] _ _:=⟨Dv,PySem.W.mg_of X Gs zW,Dv.binds λ_ _ _ _ _ _ us hl=>len4 (λ_ _ _ _=>rfl) us hl⟩;have Dw:=bb (K:=K) (st:=gQ) Ab Ac Ad;have xW:FnD ⟨l.prog,w,K,mg,base⟩ "_law_bent" gQ ["reel","paper","many"] _ _:=⟨Dw,PySem.W.mg_of X Gs Aa,Dw.binds λ_ _ _ _ _ _ us hl=>len3 (λ_ _ _=>rfl) us hl⟩;have Dx:=bb (K:=K) (st:=gR) Af Ag Ah;have xX:FnD ⟨l.prog,w,K,mg,base⟩ "_law_handed" gR ["points","paper"] _ _:=⟨Dx,PySem.W.mg_of X Gs Ae,Dx.binds λ_ _ _ _ _ _ us hl=>len2 (λ_ _=>rfl) us hl⟩;have Dy:=bb (K:=K) (st:=eC) Ai Aj Ak;have xZ:FnD ⟨l.prog,w,K,mg,base⟩ "law" eC ["script"] _ _:=⟨Dy,PySem.W.mg_of X Gs sM,Dy.binds λ_ _ _ _ _ _ us hl=>len1 (λ_=>rfl) us hl⟩;exact Gz rfl rfl E xu GB xw xx GF GG xB GI xD xE GL GM GN xI GP xK xL xM xN xO xP xQ GY xS xT Hb xV xW xX xZ
theorem walk {l:PySem.W.OpenLaw}{q:Program}{loose:List Str}{XP:(Str->Option Value)->Heap->Prop}{YP:World->Heap->Prop}{d:DefRec}{K:Params->PySem.W.Frag}(hn:l.most=some 63)(hdf:d.params.defaults=[])
  (hY:∀ (w:World) (h:Heap),YP w h->(K w.params).In h)
  (F:∀ (w:World) (mg:Str->Option Value) (fa:Addr) (h:Heap),(K w.params).In h->h.Ns mainGlobals mg->mg d.name=some (.ref fa) ->
   ∃ fd:FuncData,(∀ (s:Shared) (u:Value),BindsTo s fd ⟨[u],[]⟩ [("script",u)])/\∀ base:Heap,(K w.params).In base->base.Ns mainGlobals mg->FnOk l.prog w (K w.params) mg base qd 7 fa fd ["script"] (sL (K w.params))) :
  PySem.W.WalkO q loose XP YP l.row.toRowW d [] (λf vs=>PySem.call f vs) :=
 L2.walk_of (n:=63) (k:=7) (x:="script") (CX:=λ_=>qd) (sp:=λw=>sL (K w.params)) hn (by decide) hdf ⟨rfl,by decide,by decide⟩ hY F (λ_ _ a ns hl _ hS=>⟨a,ns,rfl,hS,hl,λ_=>rfl⟩) λ_ _ _ _ _ z=>z

end K16
theorem PySem.W.Fast.tw14472054137848200471:True:=trivial
theorem PySem.W.Fast.tw1060796417486831400:True:=trivial
theorem PySem.W.Fast.tw6611340909996861686:True:=trivial
theorem PySem.W.Fast.tw14862163172482371956:True:=trivial
theorem PySem.W.Fast.tw16612343201279115595:True:=trivial
theorem PySem.W.Fast.tw11164276672735691738:True:=trivial
theorem PySem.W.Fast.tw16769251414970505565:True:=trivial
theorem PySem.W.Fast.tw5993233248106745142:True:=trivial
theorem PySem.W.Fast.tw9199805462519984367:True:=trivial
theorem PySem.W.Fast.tw1837513073520742271:True:=trivial
theorem PySem.W.Fast.tw10627908830471216562:True:=trivial
theorem PySem.W.Fast.tw11964616785883320177:True:=trivial
theorem PySem.W.Fast.tw10509872503728493557:True:=trivial
theorem PySem.W.Fast.tw2390561296692760516:True:=trivial
theorem PySem.W.Fast.tw4016752525527496310:True:=trivial
theorem PySem.W.Fast.tw2795941433457301427:True:=trivial
theorem PySem.W.Fast.tw11533429361355260182:True:=trivial
theorem PySem.W.Fast.tw9903787877322912691:True:=trivial
theorem PySem.W.Fast.tw14204344090975185101:True:=trivial
theorem PySem.W.Fast.tw10761799389782792297:True:=trivial
theorem PySem.W.Fast.tw18395790454216101745:True:=trivial
theorem PySem.W.Fast.tw8066138679444155336:True:=trivial
theorem PySem.W.Fast.tw17284776887099314881:True:=trivial
theorem PySem.W.Fast.tw13048084769762136947:True:=trivial
theorem PySem.W.Fast.tw15338453998928068091:True:=trivial
theorem PySem.W.Fast.tw13306225513883216553:True:=trivial
theorem PySem.W.Fast.tw9338530297430009377:True:=trivial
theorem PySem.W.Fast.tw3690740201069918291:True:=trivial
theorem PySem.W.Fast.tw6498243750290716578:True:=trivial
theorem PySem.W.Fast.tw12304356895733334740:True:=trivial
theorem PySem.W.Fast.tw17285472311913657918:True:=trivial
theorem PySem.W.Fast.tw3394182064281246347:True:=trivial
theorem PySem.W.Fast.tw189231969231216518:True:=trivial
theorem PySem.W.Fast.tw15153485593525532598:True:=trivial
theorem PySem.W.Fast.tw455284069355926539:True:=trivial
theorem PySem.W.Fast.tw13800891364086956298:True:=trivial
theorem PySem.W.Fast.tw6165162730414023356:True:=trivial
theorem PySem.W.Fast.tw14851144695681988646:True:=trivial
theorem PySem.W.Fast.tw8642570485355978221:True:=trivial
theorem PySem.W.Fast.tw4026952220600444276:True:=trivial
theorem PySem.W.Fast.tw11275390427933592831:True:=trivial
open PySem PySem.W PyProof.Rows
set_option maxRecDepth 100000 in
set_option maxHeartbeats 0 in
theorem PySem.Challenge.cw_closepoints_k16_papers_by_cells_judged_holds : PySem.Challenge.rw_closepoints_k16_papers_by_cells_judged.Holds := by
 w_on;o_law;z_head;(case hw=>w_witness2)
 k_fill
 refine Vc.x_of_o (λ_=>by kernel_rfl) (K16.walk (l:=PySem.Challenge.rw_closepoints_k16_papers_by_cells_judged) rfl rfl (λw h Y=>Y) ?F)
 case F =>
  intro w mg fa h KX G hmg;refine' K16.all_mk KX G hmg ?yA ?yB ?yC ?yD ?Ku ?Kv ?Kw ?Kx ?yE ?yF ?yG ?yH ?yI ?yJ ?yK ?yL ?Ky ?Kz ?KA ?KB ?KC ?KD ?KE ?KG ?yM ?yN ?yO ?yP ?KH ?KI ?KJ ?KK ?yQ ?yR ?yS ?yT ?yU ?yV ?yW ?yX ?KL ?KM ?KN ?KO ?KP ?KQ ?KR ?KS ?KU ?KW ?KY ?KZ ?yY ?yZ ?za ?zb ?La ?Lb ?Lc ?Ld ?zc ?zd ?ze ?zf ?zg ?zh ?zi ?zj ?zk ?zl ?zm ?zn ?zo ?zp ?zq ?zr ?zt ?zu ?zv ?zw ?zF ?zG ?zH ?zI ?zJ ?zK ?zL ?zM ?Le ?Lf ?Lg ?Lh ?zN ?zO ?zP ?zQ ?zR ?zS ?zU ?zV ?Li ?Lj ?Lk ?Ll ?zW ?zX ?zY ?zZ ?Aa ?Ab ?Ac ?Ad ?Ae ?Af ?Ag ?Ah ?sM ?Ai ?Aj ?Ak ?z_abs ?z_all ?z_bool ?z_enumerate ?z_int ?z_isinstance ?z_len ?z_list ?z_max ?z_min ?z_range ?z_sorted ?z_sum ?z_tuple ?z_zip ?u_SQUARES ?u_STREETS
  (case yA=>k_is)
  (case yB=>k_is)
  (case yC=>k_is)
  (case yD=>k_is)
  (case Ku=>k_is)
  (case Kv=>k_is)
  (case Kw=>k_is)
  (case Kx=>k_is)
  (case yE=>k_is)
  (case yF=>k_is)
  (case yG=>k_is)
  (case yH=>k_is)
  (case yI=>k_is)
  (case yJ=>k_is)
  (case yK=>k_is)
  (case yL=>k_is)
  (case Ky=>k_is)
  (case Kz=>k_is)
  (case KA=>k_is)
  (case KB=>k_is)
  (case KC=>k_is)
  (case KD=>k_is)
  (case KE=>k_is)
  (case KG=>k_is)
  (case yM=>k_is)
  (case yN=>k_is)
  (case yO=>k_is)
  (case yP=>k_is)
  (case KH=>k_is)
  (case KI=>k_is)
  (case KJ=>k_is)
  (case KK=>k_is)
  (case yQ=>k_is)
  (case yR=>k_is)
  (case yS=>k_is)
  (case yT=>k_is)
  (case yU=>k_is)
  (case yV=>k_is)
  (case yW=>k_is)
  (case yX=>k_is)
  (case KL=>k_is)
  (case KM=>k_is)
  (case KN=>k_is)
  (case KO=>k_is)
  (case KP=>k_is)
  (case KQ=>k_is)
  (case KR=>k_is)
  (case KS=>k_is)
  (case KU=>k_is)
  (case KW=>k_is)
  (case KY=>k_is)
  (case KZ=>k_is)
  (case yY=>k_is)
  (case yZ=>k_is)
  (case za=>k_is)
  (case zb=>k_is)
  (case La=>k_is)
  (case Lb=>k_is)
  (case Lc=>k_is)
  (case Ld=>k_is)
  (case zc=>k_is)
  (case zd=>k_is)
  (case ze=>k_is)
  (case zf=>k_is)
  (case zg=>k_is)
  (case zh=>k_is)
  (case zi=>k_is)
  (case zj=>k_is)
  (case zk=>k_is)
  (case zl=>k_is)
  (case zm=>k_is)
  (case zn=>k_is)
  (case zo=>k_is)
  (case zp=>k_is)
  (case zq=>k_is)
  (case zr=>k_is)
  (case zt=>k_is)
  (case zu=>k_is)
  (case zv=>k_is)
  (case zw=>k_is)
  (case zF=>k_is)
  (case zG=>k_is)
  (case zH=>k_is)
  (case zI=>k_is)
  (case zJ=>k_is)
  (case zK=>k_is)
  (case zL=>k_is)
  (case zM=>k_is)
  (case Le=>k_is)
  (case Lf=>k_is)
  (case Lg=>k_is)
  (case Lh=>k_is)
  (case zN=>k_is)
  (case zO=>k_is)
  (case zP=>k_is)
  (case zQ=>k_is)
  (case zR=>k_is)
  (case zS=>k_is)
  (case zU=>k_is)
  (case zV=>k_is)
  (case Li=>k_is)
  (case Lj=>k_is)
  (case Lk=>k_is)
  (case Ll=>k_is)
  (case zW=>k_is)
  (case zX=>k_is)
  (case zY=>k_is)
  (case zZ=>k_is)
  (case Aa=>k_is)
  (case Ab=>k_is)
  (case Ac=>k_is)
  (case Ad=>k_is)
  (case Ae=>k_is)
  (case Af=>k_is)
  (case Ag=>k_is)
  (case Ah=>k_is)
  (case sM=>k_is)
  (case Ai=>k_is)
  (case Aj=>k_is)
  (case Ak=>k_is)
  (case z_abs=>k_is)
  (case z_all=>k_is)
  (case z_bool=>k_is)
  (case z_enumerate=>k_is)
  (case z_int=>k_is)
  (case z_isinstance=>k_is)
  (case z_len=>k_is)
  (case z_list=>k_is)
  (case z_max=>k_is)
  (case z_min=>k_is)
  (case z_range=>k_is)
  (case z_sorted=>k_is)
  (case z_sum=>k_is)
  (case z_tuple=>k_is)
  (case z_zip=>k_is)
  (case u_SQUARES=>k_is)
  (case u_STREETS=>k_is)

